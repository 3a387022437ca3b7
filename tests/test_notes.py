"""Point [15]: programs as texts of words."""

import unittest

from queuemill.errors import BadProgram, BadText
from queuemill.notes import read, written
from queuemill.rows import pile_rows
from tests.chance import Chance
from tests.helpers import alone, name, nested, nots, num, program_flaw

ONE = num(1)


def place(text):
    """The place of the word that is refused, None if the text is not refused as one."""
    try:
        read(text)
    except BadText as refusal:
        return refusal.place
    except BadProgram:
        pass
    return None


def flaw(text):
    return program_flaw(read, text)


def deed_place(words):
    """As place, for the words of a deed within fun 0, counted from the deed's own."""
    found = place(f"fun 0 8 {words} end")
    return None if found is None else found - 3


def part_place(words):
    """As place, for the words of a part that is said, counted from its first word."""
    found = deed_place(f"say {words}")
    return None if found is None else found - 1


class Written(unittest.TestCase):

    def hold(self, program, text):
        self.assertEqual(written(program), text)
        self.assertEqual(read(text), program)

    def test_funs(self):
        self.hold(alone(), "fun 0 0 end")
        self.hold(((0, 8, ()), (4, 4, ()), (0, 0, ())), "fun 0 8 end fun 4 4 end fun 0 0 end")

    def test_deeds(self):
        self.hold(alone(("set", 2, ONE), names=3), "fun 0 3 set 2 1 end")
        self.hold(alone(("put", ONE, num(2))), "fun 0 0 put 1 2 end")
        self.hold(alone(("say", ONE), ("return", num(2)), ("do", num(3))), "fun 0 0 say 1 return 2 do 3 end")

    def test_if(self):
        self.hold(alone(("if", ONE, (("say", num(2)),), (("say", num(3)), ("do", num(4))))),
                  "fun 0 0 if 1 say 2 else say 3 do 4 end end")
        self.hold(alone(("if", ONE, (), ())), "fun 0 0 if 1 else end end")
        self.hold(alone(("if", ONE, (("do", ONE),), ()), ("if", ONE, (), (("do", ONE),))),
                  "fun 0 0 if 1 do 1 else end if 1 else do 1 end end")

    def test_while(self):
        self.hold(alone(("while", ONE, (("say", num(2)), ("say", num(3))))), "fun 0 0 while 1 say 2 say 3 end end")
        self.hold(alone(("while", ONE, ())), "fun 0 0 while 1 end end")

    def test_one_within_another(self):
        inner = ("if", ONE, (("while", num(2), ()),), (("say", num(3)),))
        self.hold(alone(("while", num(4), (inner, inner)), ("if", num(5), (inner,), (inner,))),
                  "fun 0 0 while 4 if 1 while 2 end else say 3 end if 1 while 2 end else say 3 end end"
                  " if 5 if 1 while 2 end else say 3 end else if 1 while 2 end else say 3 end end end")

    def test_nums_and_names(self):
        for n in (0, 1, 9, 10, 100, 999999, 1000000, -1, -10, -1000000):
            self.hold(alone(("say", num(n))), f"fun 0 0 say {n} end")
        for number in range(8):
            self.hold(alone(("set", number, name(number)), names=8), f"fun 0 8 set {number} n{number} end")

    def test_parts(self):
        for word in ("add", "take", "times", "over", "rest", "less", "same"):
            self.hold(alone(("say", (word, num(1), (word, num(2), num(3))))), f"fun 0 0 say {word} 1 {word} 2 3 end")
            self.hold(alone(("say", (word, (word, num(1), num(2)), num(3)))), f"fun 0 0 say {word} {word} 1 2 3 end")
        self.hold(alone(("say", ("not", ("get", ("not", num(5)))))), "fun 0 0 say not get not 5 end")

    def test_calls(self):
        program = ((0, 0, (("say", ("call", 1, ())), ("say", ("call", 2, (num(7), ("call", 2, (num(8), num(9)))))))),
                   (0, 0, ()), (2, 2, ()))
        self.hold(program, "fun 0 0 say call 1 0 say call 2 2 7 call 2 2 8 9 end fun 0 0 end fun 2 2 end")
        self.hold(((0, 0, (("do", ("call", 1, (ONE,) * 4)),)), (4, 4, ())),
                  "fun 0 0 do call 1 4 1 1 1 1 end fun 4 4 end")

    def test_what_is_written_is_read_to_the_same(self):
        for seed in range(200):
            program = Chance(seed).program()
            if program_flaw(pile_rows, program) is None:
                self.assertEqual(read(written(program)), program)
                self.assertEqual(written(read(written(program))), written(program))

    def test_at_the_bounds(self):
        body = nested(8) + (("say", nots(40)), ("put", num(63), num(-1000000)))
        program = ((0, 8, body),) + ((4, 8, (("say", ONE),) * 100),) * 7
        text = written(program)
        self.assertEqual(read(text), program)
        self.assertEqual(text.count("fun"), 8)

    def test_kinds(self):
        self.assertIsInstance(written(alone()), str)
        program = read("fun 0 0 if 1 else do call 0 0 end end")
        self.assertEqual(program, ((0, 0, (("if", num(1), (), (("do", ("call", 0, ())),)),)),))
        for found in (program, program[0], program[0][2], program[0][2][0], program[0][2][0][2],
                      program[0][2][0][3][0][1][2]):
            self.assertIsInstance(found, tuple)

    def test_asked_again(self):
        self.assertEqual(written(alone(("say", ONE))), written(alone(("say", ONE))))
        self.assertEqual(read("fun 0 0 say 1 end"), read("fun 0 0 say 1 end"))

    def test_what_is_no_program_is_not_written(self):
        self.assertEqual(program_flaw(written, ()), (-1, -1, "funs"))
        self.assertEqual(program_flaw(written, alone(("say", name(0)))), (0, 1, "name"))


class Wrong(unittest.TestCase):
    """Texts that are refused, with the place of the first word that can't stand there."""

    def test_where_funs_stand(self):
        for text in ("0", "end", "say", "else", "Fun", "fun0", "funs"):
            self.assertEqual(place(f"{text} 0 0 end"), 0, text)
            self.assertEqual(place(f"fun 0 0 end {text}"), 4, text)
            self.assertEqual(place(f"fun 0 0 end {text} 0 0 end"), 4, text)

    def test_params_and_names(self):
        for text in ("n0", "end", "say", "fun", "", "x", "-", "00"):
            self.assertEqual(place(f"fun {text} 0 end"), 1, text)
            self.assertEqual(place(f"fun 0 {text} end"), 2, text)

    def test_if_more_must_come(self):
        words = "fun 0 8 if not n1 set 3 add 1 2 else while call 0 0 end end end".split(" ")
        for many in range(1, len(words)):
            self.assertEqual(place(" ".join(words[:many])), many, many)
        self.assertIsNone(place(" ".join(words)))
        self.assertEqual(place("fun 0 0 end fun 0 0"), 7)
        self.assertEqual(place("fun 0 0 end fun"), 5)
        self.assertEqual(place("fun 0 8 say call 1 3 1 2"), 9)

    def test_empty_words(self):
        self.assertEqual(place(" "), 0)
        self.assertEqual(place("   "), 0)
        self.assertEqual(place(" fun 0 0 end"), 0)
        self.assertEqual(place("fun 0 0 end "), 4)
        self.assertEqual(place("fun 0 0 end fun 0 0 end  "), 8)
        self.assertEqual(place("fun  0 0 end"), 1)
        self.assertEqual(place("fun 0 0  end"), 3)
        self.assertEqual(place("fun 0 0 "), 3)
        self.assertEqual(place("fun 0 0 say  1 end"), 4)
        self.assertEqual(place("fun 0 0 say not "), 5)

    def test_where_deeds_stand(self):
        for word in ("1", "n1", "add", "call", "num", "name", "else", "fun", "Say", "says", "-", "unless", "away"):
            self.assertEqual(deed_place(f"{word} 1"), 0, word)
            self.assertEqual(deed_place(f"say 1 {word}"), 2, word)
            self.assertEqual(deed_place(f"while 1 {word} end"), 2, word)
            self.assertEqual(deed_place(f"if 1 else {word} end"), 3, word)
            if word != "else":
                self.assertEqual(deed_place(f"if 1 {word} else end"), 2, word)

    def test_ends_of_bodies(self):
        self.assertEqual(deed_place("if 1 end"), 2)
        self.assertEqual(deed_place("if 1 say 2 end"), 4)
        self.assertEqual(deed_place("if 1 else else end"), 3)
        self.assertEqual(deed_place("if 1 else say 2 else end"), 5)
        self.assertEqual(deed_place("while 1 else end"), 2)
        self.assertEqual(deed_place("while 1 if 2 else end else end"), 6)
        self.assertEqual(place("fun 0 0 else"), 3)
        self.assertEqual(place("fun 0 0 while 1 end"), 6)
        self.assertEqual(place("fun 0 0 if 1 else end"), 7)
        self.assertEqual(place("fun 0 0 while 1 end end end"), 7)

    def test_number_of_a_name_that_is_set(self):
        for word in ("n1", "say", "", "01", "-0", "12345678", "end"):
            self.assertEqual(deed_place(f"set {word} 1"), 1, word)
        self.assertIsNone(deed_place("set 7 1"))
        self.assertIsNone(deed_place("set -7 1"))

    def test_where_parts_stand(self):
        for word in ("say", "set", "if", "end", "else", "fun", "num", "name", "do", "nots", "N1", "x", ""):
            self.assertEqual(part_place(word), 0, word)
            self.assertEqual(part_place(f"not {word}"), 1, word)
            self.assertEqual(part_place(f"add {word} 1"), 1, word)
            self.assertEqual(part_place(f"add 1 {word}"), 2, word)
            self.assertEqual(part_place(f"call 1 1 {word}"), 3, word)
        self.assertEqual(part_place("num 1"), 0)
        self.assertEqual(part_place("name 1"), 0)
        self.assertEqual(part_place("1 1"), 1)
        self.assertEqual(part_place("not 1 1"), 2)
        self.assertEqual(part_place("add 1 1 1"), 3)

    def test_each_deed_has_just_its_parts(self):
        for word in ("say", "return", "do", "set 1"):
            self.assertEqual(place(f"fun 0 8 {word} end"), 3 + len(word.split()), word)
            self.assertEqual(place(f"fun 0 8 {word} 1 2 end"), 4 + len(word.split()), word)
        self.assertEqual(deed_place("put 1"), 2)
        self.assertEqual(deed_place("put 1 2 3"), 3)

    def test_numbers(self):
        for word in ("0", "1", "9999999", "-1", "-9999999", "10", "-10"):
            self.assertIsNone(part_place(word), word)
        for word in ("-0", "00", "01", "-01", "007", "10000000", "-10000000", "00000000", "99999999", "+1", "1.0", "1_0",
                     "--1", "-", "1-", "0x1", "1e3", "- 1", "-00"):
            self.assertEqual(part_place(word), 0, word)

    def test_names(self):
        for word in ("n0", "n7", "n8", "n9999999", "n10"):
            self.assertIsNone(part_place(word), word)
        for word in ("n", "n-1", "n-0", "n+1", "n01", "n00", "n10000000", "nn1", "n1n", "n 1", "n_1", "-n1", "N1"):
            self.assertEqual(part_place(word), 0, word)

    def test_parts_of_calls(self):
        for many in range(10):
            self.assertIsNone(part_place(f"call 1 {many}" + " 1" * many), many)
            self.assertEqual(part_place(f"call 1 {many}" + " 1" * (many + 1)), 3 + many, many)
            if many > 0:
                self.assertEqual(part_place(f"call 1 {many}" + " 1" * (many - 1)), 2 + many, many)
        for word in ("10", "11", "99", "-1", "-0", "00", "01", "n1", "", "end", "9999999"):
            self.assertEqual(part_place(f"call 1 {word}" + " 1" * 10), 2, word)
        for word in ("n1", "", "01", "-0", "call", "10000000", "fun"):
            self.assertEqual(part_place(f"call {word} 0"), 1, word)
        self.assertIsNone(part_place("call -1 0"))
        self.assertIsNone(part_place("call 9999999 0"))

    def test_the_first_is_told(self):
        self.assertEqual(place("fun 0 0 say x say y"), 4)
        self.assertEqual(place("fun 00 0 say x"), 1)
        self.assertEqual(place("fun 9 9 say n9 say x end"), 6)


class NoPrograms(unittest.TestCase):
    """Texts that read well, but to no program."""

    def test_empty_text(self):
        self.assertEqual(flaw(""), (-1, -1, "funs"))

    def test_funs(self):
        self.assertIsNone(flaw(" ".join(["fun 0 0 end"] * 8)))
        self.assertEqual(flaw(" ".join(["fun 0 0 end"] * 9)), (-1, -1, "funs"))

    def test_params_and_names(self):
        self.assertEqual(flaw("fun 1 1 end"), (0, -1, "params"))
        self.assertEqual(flaw("fun 0 0 end fun 5 5 end"), (1, -1, "params"))
        self.assertEqual(flaw("fun 0 0 end fun -1 5 end"), (1, -1, "params"))
        self.assertEqual(flaw("fun 0 9 end"), (0, -1, "names"))
        self.assertEqual(flaw("fun 0 -1 end"), (0, -1, "names"))
        self.assertEqual(flaw("fun 0 0 end fun 3 2 end"), (1, -1, "names"))

    def test_things(self):
        self.assertEqual(flaw("fun 0 0 say 1000001 end"), (0, 1, "number"))
        self.assertEqual(flaw("fun 0 0 say -9999999 end"), (0, 1, "number"))
        self.assertEqual(flaw("fun 0 2 set 2 1 end"), (0, 0, "name"))
        self.assertEqual(flaw("fun 0 2 set -1 1 end"), (0, 0, "name"))
        self.assertEqual(flaw("fun 0 2 say n2 end"), (0, 1, "name"))
        self.assertEqual(flaw("fun 0 2 say call 1 0 end"), (0, 1, "fun"))
        self.assertEqual(flaw("fun 0 2 say call -1 0 end"), (0, 1, "fun"))
        self.assertEqual(flaw("fun 0 2 say call 0 9 1 1 1 1 1 1 1 1 1 end"), (0, 1, "args"))
        self.assertEqual(flaw("fun 0 0 " + "say 1 " * 100 + "do 1 end"), (0, 200, "many"))
        self.assertEqual(flaw("fun 0 0 say " + "not " * 40 + "1 end"), (0, 41, "wide"))
        self.assertEqual(flaw("fun 0 0 " + "while 1 " * 9 + "end " * 9 + "end"), (0, 16, "deep"))

    def test_a_wrong_text_is_refused_ahead_of_a_wrong_program(self):
        self.assertEqual(place("fun 9 0 say n99 end x"), 6)
        self.assertEqual(place("fun 1 1 end fun"), 5)

    def test_fifteen_thousand_signs(self):
        self.assertEqual(flaw("fun 0 0 say " + "not " * 3740 + "1 end"), (0, 41, "wide"))
        self.assertEqual(place("fun 0 0 say " + "not " * 3740), 3744)
        self.assertEqual(flaw("fun 0 0 " + "if 1 else " * 1050 + "end " * 1050 + "end"), (0, 16, "deep"))
        self.assertEqual(place("fun 0 0 " + "if 1 " * 2998), 3 + 2 * 2998)
        self.assertEqual(flaw("fun 0 0 " + "while 1 " * 1249 + "end " * 1249 + "end"), (0, 16, "deep"))
        self.assertEqual(flaw("fun 0 0 say " + "add 1 " * 2490 + "1 end"), (0, 41, "wide"))
        self.assertEqual(flaw("fun 0 0 say " + "call 0 1 " * 1660 + "1 end"), (0, 1, "args"))
        self.assertEqual(flaw("fun 0 0 " + "say 1 " * 2497 + "end"), (0, 200, "many"))
        self.assertEqual(place(" " * 15000), 0)
        self.assertEqual(place("1" * 15000), 0)
        self.assertEqual(place("fun " + "1" * 14990), 1)


if __name__ == "__main__":
    unittest.main()
