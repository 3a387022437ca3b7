"""The words of the language, and what stands behind each of them."""

# A place behind a word takes a part, a number ("n", "name", "fun") or a tuple
# ("body" of deeds, "parts" that a call hands over).
DEEDS = {
    "set": ("name", "part"),
    "put": ("part", "part"),
    "say": ("part",),
    "if": ("part", "body", "body"),
    "while": ("part", "body"),
    "return": ("part",),
    "do": ("part",),
}
PARTS = {
    "num": ("n",),
    "name": ("name",),
    "add": ("part", "part"),
    "take": ("part", "part"),
    "times": ("part", "part"),
    "over": ("part", "part"),
    "rest": ("part", "part"),
    "less": ("part", "part"),
    "same": ("part", "part"),
    "not": ("part",),
    "get": ("part",),
    "call": ("fun", "parts"),
}
NUMBER_PLACES = ("n", "name", "fun")
TUPLE_PLACES = ("body", "parts")


def is_number(thing):
    return isinstance(thing, int) and not isinstance(thing, bool)


def places_behind(word):
    if word in DEEDS:
        return DEEDS[word]
    return PARTS[word]


def parts_of(thing):
    """The parts straight within a deed or a part, in turn."""
    if thing[0] == "call":
        return list(thing[2])
    return [item for place, item in zip(places_behind(thing[0]), thing[1:]) if place == "part"]


def bodies_of(thing):
    """The bodies of a deed, in turn; a part has none."""
    return [item for place, item in zip(places_behind(thing[0]), thing[1:]) if place == "body"]
