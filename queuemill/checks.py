"""Refusals of what is no program, no deed or no fuel."""

from queuemill.errors import BadDeed, BadFuel, BadProgram
from queuemill.words import DEEDS, NUMBER_PLACES, PARTS, TUPLE_PLACES
from queuemill.words import bodies_of, is_number, parts_of, places_behind

MOST_FUNS = 8
MOST_PARAMS = 4
MOST_NAMES = 8
MOST_THINGS = 200
MOST_DEEDS_AROUND = 7
MOST_PARTS = 40
MOST_NUM = 1000000
MOST_FUEL = 3000

# Stands where a deed's number of deeds around it would, to tell a part.
A_PART = -1


def check_program(program):
    if not isinstance(program, tuple) or not 1 <= len(program) <= MOST_FUNS:
        raise BadProgram(-1, -1, "funs")
    params = [params_of(fun) for fun in program]
    for number, fun in enumerate(program):
        flaw = fun_flaw(number, fun, params)
        if flaw is not None:
            at, why = flaw
            raise BadProgram(number, at, why)


def check_deed(deed):
    """Refuse a deed that can stand in no program."""
    flaw = body_flaw((deed,), MOST_NAMES, [None] * MOST_FUNS)
    if flaw is not None:
        at, why = flaw
        raise BadDeed(at, why)


def check_fuel(fuel):
    if not is_number(fuel) or not 0 <= fuel <= MOST_FUEL:
        raise BadFuel("fuel is a number from 0 to 3000")


def params_of(fun):
    """How many worths a fun is handed; None where it tells no number."""
    if not isinstance(fun, tuple) or len(fun) != 3 or not is_number(fun[0]):
        return None
    return fun[0]


def fun_flaw(number, fun, params):
    """(at, why) for a fun that can't be, None for one that can."""
    handed = params_of(fun)
    most = MOST_PARAMS if number > 0 else 0
    if handed is None or not 0 <= handed <= most:
        return (-1, "params")
    _, names, body = fun
    if not is_number(names) or not handed <= names <= MOST_NAMES:
        return (-1, "names")
    if not isinstance(body, tuple):
        return (0, "shape")
    return body_flaw(body, names, params)


def body_flaw(body, names, params):
    """(at, why) for the first thing of a body that can't be, None if all can.

    params holds for each fun how many worths it is handed, None where any count will do.
    """
    todo = [(deed, 0) for deed in reversed(body)]
    at = 0
    wide = 0
    while todo:
        thing, around = todo.pop()
        # A deed's parts stand ahead of those of its bodies, so all parts since
        # the last deed are that deed's own.
        wide = wide + 1 if around == A_PART else 0
        why = bound_flaw(at, around, wide) or shape_flaw(thing, around) or number_flaw(thing, names, params)
        if why:
            return (at, why)
        todo.extend(things_within(thing, around))
        at += 1
    return None


def things_within(thing, around):
    """What stands straight within a thing, the last of it first."""
    found = [(part, A_PART) for part in parts_of(thing)]
    for body in bodies_of(thing):
        found.extend([(deed, around + 1) for deed in body])
    found.reverse()
    return found


def bound_flaw(at, around, wide):
    """What is wrong with where a thing stands, or an empty text."""
    if at >= MOST_THINGS:
        return "many"
    if around > MOST_DEEDS_AROUND:
        return "deep"
    if wide > MOST_PARTS:
        return "wide"
    return ""


def shape_flaw(thing, around):
    """What is wrong with how a thing is made, or an empty text."""
    if not isinstance(thing, tuple) or len(thing) == 0 or not isinstance(thing[0], str):
        return "shape"
    known = thing[0] in PARTS if around == A_PART else thing[0] in DEEDS
    if not known or len(thing) != len(places_behind(thing[0])) + 1:
        return "shape"
    for place, item in zip(places_behind(thing[0]), thing[1:]):
        if place in NUMBER_PLACES and not is_number(item):
            return "shape"
        if place in TUPLE_PLACES and not isinstance(item, tuple):
            return "shape"
    return ""


def number_flaw(thing, names, params):
    """What is wrong with the numbers behind a thing's word, or an empty text."""
    for place, item in zip(places_behind(thing[0]), thing[1:]):
        if place == "n" and abs(item) > MOST_NUM:
            return "number"
        if place == "name" and not 0 <= item < names:
            return "name"
        if place == "fun" and not 0 <= item < len(params):
            return "fun"
    if thing[0] == "call" and not takes(thing[1], len(thing[2]), params):
        return "args"
    return ""


def takes(fun, many, params):
    """Whether a fun may be handed so many worths."""
    if params[fun] is None:
        return many <= MOST_PARAMS
    return params[fun] == many
