"""Programs as texts of words."""

from queuemill.checks import check_program
from queuemill.errors import BadText
from queuemill.words import DEEDS, PARTS, places_behind

MOST_FIGURES = 7
MOST_READ_PARTS = 9

FUN_PLACES = ("n", "n", "body")

# What must come behind "fun". "end" and "else" stand for deeds up to that word.
BEHIND_FUN = ["number", "number", "end", "fun"]
# What must come for a place behind another word.
WANTED_FOR = {"part": "part", "name": "number", "fun": "number", "parts": "count", "body": "end"}


def written(program):
    """The text of a program."""
    check_program(program)
    words = []
    for params, names, body in program:
        words.extend(["fun", str(params), str(names)])
        write_all(body, words)
        words.append("end")
    return " ".join(words)


def read(text):
    """The program that a text tells."""
    # The empty text has no word, not an empty one.
    words = text.split(" ") if text else []
    program = built(items_of(words))
    check_program(program)
    return program


def write_all(things, words):
    for thing in things:
        write_thing(thing, words)


def write_thing(thing, words):
    """Add the words of a deed or a part."""
    match thing:
        case ("num", n):
            words.append(str(n))
        case ("name", name):
            words.append(f"n{name}")
        case ("call", fun, parts):
            words.extend(["call", str(fun), str(len(parts))])
            write_all(parts, words)
        case ("set", name, part):
            words.extend(["set", str(name)])
            write_thing(part, words)
        case ("if" | "while", test, *bodies):
            words.append(thing[0])
            write_thing(test, words)
            write_bodies(bodies, words)
        case (word, *parts):
            words.append(word)
            write_all(parts, words)


def write_bodies(bodies, words):
    """Add the words of one body, or of the two of an if."""
    for place, body in enumerate(bodies):
        if place > 0:
            words.append("else")
        write_all(body, words)
    words.append("end")


def items_of(words):
    """What each word stands for, if each can stand in its place."""
    wanted = ["fun"]
    items = []
    for place, word in enumerate(words):
        want = wanted.pop()
        behind = wants_behind(word, want)
        if behind is None:
            raise BadText(place)
        wanted.extend(behind[::-1])
        items.append(item_of(word, want))
    if wanted != ["fun"]:
        raise BadText(len(words))
    return items


def wants_behind(word, want):
    """What must come behind a word, in turn; None if it can't stand where this is wanted."""
    if want == "number":
        return [] if is_number_word(word) else None
    if want == "count":
        return ["part"] * int(word) if is_count_word(word) else None
    if want == "part":
        return wants_behind_part(word)
    if word == want:
        return list(BEHIND_FUN) if word == "fun" else []
    if word in DEEDS and want != "fun":
        # More deeds may come, up to the word that is wanted.
        return [*wants_of(word), want]
    return None


def wants_behind_part(word):
    if is_number_word(word) or is_name_word(word):
        return []
    if word in PARTS and word not in ("num", "name"):
        return wants_of(word)
    return None


def wants_of(word):
    """What must come behind a deed's or a part's word."""
    wants = [WANTED_FOR[place] for place in places_behind(word)]
    if word == "if":
        # Between its bodies stands another word than behind them.
        wants[1] = "else"
    return wants


def is_number_word(word):
    figures = word.removeprefix("-")
    if not figures.isascii() or not figures.isdigit() or len(figures) > MOST_FIGURES:
        return False
    return figures[0] != "0" or word == "0"


def is_name_word(word):
    return word.startswith("n") and is_number_word(word[1:]) and word[1] != "-"


def is_count_word(word):
    return is_number_word(word) and 0 <= int(word) <= MOST_READ_PARTS


def item_of(word, want):
    """A number, a part without parts, or the word itself."""
    if want in ("number", "count"):
        return int(word)
    if want == "part" and is_number_word(word):
        return ("num", int(word))
    if want == "part" and is_name_word(word):
        return ("name", int(word[1:]))
    return word


def built(items):
    """The program that these items are of.

    They are gone through from the last to the first: so what stands behind a word
    lies on the pile when the word is met, however deep it is, and no text can lead
    deeper than Python's own calls go. A body lies there as a list, its last deed first.
    """
    pile = [[]]
    for item in reversed(items):
        if item in ("else", "end"):
            pile.append([])
        elif isinstance(item, str):
            build(item, pile)
        else:
            pile.append(item)
    return in_turn(pile[0])


def build(word, pile):
    """Make what begins with a word of what lies on the pile."""
    if word == "fun":
        fun = tuple([taken(place, pile) for place in FUN_PLACES])
        pile[-1].append(fun)
        return
    thing = (word, *[taken(place, pile) for place in places_behind(word)])
    if word in DEEDS:
        pile[-1].append(thing)
    else:
        pile.append(thing)


def taken(place, pile):
    """Take from the pile what belongs to a place behind a word."""
    if place == "body":
        return in_turn(pile.pop())
    if place == "parts":
        many = pile.pop()
        return tuple([pile.pop() for _ in range(many)])
    return pile.pop()


def in_turn(backwards):
    return tuple(backwards[::-1])
