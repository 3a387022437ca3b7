"""Short ways to write programs and to look at refusals."""

from queuemill.errors import BadDeed, BadProgram


def num(n):
    return ("num", n)


def name(number):
    return ("name", number)


def alone(*deeds, names=0):
    """A program of fun 0 alone."""
    return ((0, names, deeds),)


def nested(deeds, inner=()):
    """An if within an if and so on, as many deeds as told, with a body in the last one."""
    body = tuple(inner)
    for _ in range(deeds):
        body = (("if", num(1), body, ()),)
    return body


def sum_of(nums):
    """A part made of two parts for each num but the last, which is one."""
    part = num(1)
    for _ in range(nums - 1):
        part = ("add", num(1), part)
    return part


def nots(many):
    """A part of so many parts, each within the one before it."""
    part = num(1)
    for _ in range(many - 1):
        part = ("not", part)
    return part


def program_flaw(call, *handed):
    """(fun, at, why) of the refusal of a program, None if it is not refused."""
    try:
        call(*handed)
    except BadProgram as refusal:
        return (refusal.fun, refusal.at, refusal.why)
    return None


def deed_flaw(call, *handed):
    """(at, why) of the refusal of a deed, None if it is not refused."""
    try:
        call(*handed)
    except BadDeed as refusal:
        return (refusal.at, refusal.why)
    return None
