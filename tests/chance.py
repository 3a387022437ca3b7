"""Programs and deeds made by chance, the same ones for the same seed."""

import random

TWO = ("add", "take", "times", "over", "rest", "less", "same")
NUMS = (0, 1, 2, 3, -1, -7, 5, 63, 64, 1000, 1000000, -1000000)
SIZES = (1, 1, 1, 2, 3, 4, 6, 9, 14)


class Chance:
    """Makes programs of funs with these params and names."""

    def __init__(self, seed, funs=None):
        self.dice = random.Random(seed)
        self.funs = funs or self.some_funs()

    def some_funs(self):
        params = [0] + [self.dice.randrange(5) for _ in range(self.dice.randrange(4))]
        return [(many, self.dice.randint(many, 8)) for many in params]

    def program(self):
        return tuple((params, names, self.body(names, 0)) for params, names in self.funs)

    def body(self, names, around):
        return tuple(self.deed(names, around) for _ in range(self.dice.randrange(3 if around else 5)))

    def deed(self, names, around):
        word = self.dice.choice(("set", "set", "put", "put", "say", "say", "do", "if", "while", "return"))
        size = self.dice.choice(SIZES)
        if word == "put":
            cell = ("num", self.dice.randrange(64)) if self.dice.random() < 0.9 else self.part(3, names)
            return ("put", cell, self.part(size, names))
        if word == "set" and names:
            return ("set", self.dice.randrange(names), self.part(size, names))
        if word in ("if", "while") and around < 3:
            bodies = [self.body(names, around + 1) for _ in range(2 if word == "if" else 1)]
            return (word, self.part(size, names), *bodies)
        if word == "return" and self.dice.random() < 0.5:
            return ("return", self.part(size, names))
        return (self.dice.choice(("say", "do")), self.part(size, names))

    def part(self, size, names):
        """A part of about so many parts."""
        if size < 2:
            return self.least_part(names)
        word = self.dice.choice(TWO + ("not", "get", "get", "call"))
        if word == "call":
            fun = self.dice.randrange(len(self.funs))
            many = self.funs[fun][0]
            return ("call", fun, tuple(self.part((size - 1) // many, names) for _ in range(many)))
        if word == "get" and self.dice.random() < 0.5:
            return ("get", ("num", self.dice.randrange(64)))
        if word in ("not", "get") or size < 3:
            return ("not", self.part(size - 1, names))
        if word in ("over", "rest") and self.dice.random() < 0.8:
            return (word, self.part(size - 2, names), ("num", self.dice.choice((2, 3, -5, 7))))
        one = self.dice.randint(1, size - 2)
        return (word, self.part(one, names), self.part(size - 1 - one, names))

    def least_part(self, names):
        if names and self.dice.random() < 0.5:
            return ("name", self.dice.randrange(names))
        return ("num", self.dice.choice(NUMS))


def part_of(dice, size, loud):
    """A part of just so many parts, of which a share is loud."""
    is_loud = dice.random() < loud
    if size == 1:
        return ("call", 1, ()) if is_loud else ("num", dice.choice(NUMS))
    if size == 2 or dice.random() < 0.25:
        return ("get" if is_loud else "not", part_of(dice, size - 1, loud))
    if is_loud and size >= 5 and dice.random() < 0.3:
        return ("call", 2, tuple(part_of(dice, many, loud) for many in cut(dice, size - 1, 4)))
    one, other = cut(dice, size - 1, 2)
    return ("over" if is_loud else "add", part_of(dice, one, loud), part_of(dice, other, loud))


def cut(dice, size, pieces):
    """A number cut in so many pieces, none of them 0."""
    ends = [0, *sorted(dice.sample(range(1, size), pieces - 1)), size]
    return [end - start for start, end in zip(ends, ends[1:])]


def deed_of(seed, size, loud):
    """A deed of just so many parts, of which a share is loud."""
    dice = random.Random(f"{seed} {size} {loud}")
    if size > 1 and dice.random() < 0.3:
        one, other = cut(dice, size, 2)
        return ("put", part_of(dice, one, loud), part_of(dice, other, loud))
    return (dice.choice(("say", "do", "return")), part_of(dice, size, loud))
