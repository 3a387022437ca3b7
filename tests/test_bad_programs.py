"""Points [2] and [3]: what is a program, and which fault is told of what is none."""

import unittest

from queuemill.plain import run
from tests.helpers import alone, name, nested, nots, num, program_flaw, sum_of

EMPTY = (0, 0, ())


def flaw(program):
    return program_flaw(run, program, 3000)


def thing_flaw(*deeds, names=8):
    """(at, why) for deeds in a fun 0 with eight names, beside seven more funs that take 0 to 4 worths."""
    others = tuple((params, params, ()) for params in (0, 1, 2, 3, 4, 0, 1))
    told = flaw(((0, names, deeds), *others))
    return None if told is None else told[1:]


class Funs(unittest.TestCase):

    def test_one_to_eight_funs(self):
        self.assertIsNone(flaw((EMPTY,)))
        self.assertIsNone(flaw((EMPTY,) * 8))

    def test_other_counts(self):
        self.assertEqual(flaw(()), (-1, -1, "funs"))
        self.assertEqual(flaw((EMPTY,) * 9), (-1, -1, "funs"))

    def test_no_tuple_at_all(self):
        for program in ("fun", "", 3, 0):
            self.assertEqual(flaw(program), (-1, -1, "funs"), program)

    def test_count_is_told_ahead_of_all_else(self):
        self.assertEqual(flaw(((9, 9, (5,)),) * 9), (-1, -1, "funs"))

    def test_params_at_their_bounds(self):
        self.assertIsNone(flaw((EMPTY, (0, 8, ()), (4, 4, ()), (4, 8, ()))))
        self.assertEqual(flaw((EMPTY, (5, 8, ()))), (1, -1, "params"))
        self.assertEqual(flaw((EMPTY, EMPTY, (-1, 8, ()))), (2, -1, "params"))

    def test_fun_0_takes_nothing(self):
        self.assertEqual(flaw(((1, 1, ()),)), (0, -1, "params"))
        self.assertIsNone(flaw((EMPTY, (1, 1, ()))))

    def test_names_at_their_bounds(self):
        self.assertIsNone(flaw(((0, 8, ()), (3, 3, ()))))
        self.assertEqual(flaw(((0, 9, ()),)), (0, -1, "names"))
        self.assertEqual(flaw(((0, -1, ()),)), (0, -1, "names"))
        self.assertEqual(flaw((EMPTY, (3, 2, ()))), (1, -1, "names"))

    def test_params_are_told_ahead_of_names_and_names_ahead_of_things(self):
        self.assertEqual(flaw((EMPTY, (5, 9, (7,)))), (1, -1, "params"))
        self.assertEqual(flaw((EMPTY, (4, 9, (7,)))), (1, -1, "names"))
        self.assertEqual(flaw((EMPTY, (4, 8, (7,)))), (1, 0, "shape"))

    def test_first_fun_is_told(self):
        self.assertEqual(flaw(((0, 0, (7,)), (5, 0, ()))), (0, 0, "shape"))
        self.assertEqual(flaw((EMPTY, (2, 2, (7,)), (2, 2, (8,)))), (1, 0, "shape"))

    def test_other_kinds_for_params_and_names(self):
        for wrong in ("0", (), (0,), True, False):
            self.assertEqual(flaw((EMPTY, (wrong, 8, ()))), (1, -1, "params"), wrong)
            self.assertEqual(flaw((EMPTY, (0, wrong, ()))), (1, -1, "names"), wrong)

    def test_what_is_no_fun(self):
        for wrong in (3, "fun", (), (0,), (0, 0), (0, 0, (), ())):
            self.assertEqual(flaw((EMPTY, wrong)), (1, -1, "params"), wrong)
        for wrong in (3, "say"):
            self.assertEqual(flaw(((0, 0, wrong),)), (0, 0, "shape"), wrong)


class Numbers(unittest.TestCase):
    """How things are numbered."""

    def test_deed_ahead_of_its_parts_in_turn(self):
        self.assertEqual(thing_flaw(("put", ("add", num(1), 5), num(1))), (3, "shape"))
        self.assertEqual(thing_flaw(("put", ("add", num(1), num(1)), 5)), (4, "shape"))
        self.assertEqual(thing_flaw(("say", num(1)), 5), (2, "shape"))

    def test_parts_of_a_call(self):
        self.assertEqual(thing_flaw(("do", ("call", 4, (num(1), ("not", num(2)), 5)))), (5, "shape"))

    def test_parts_ahead_of_bodies_in_turn(self):
        deed = ("if", ("not", num(1)), (("say", num(1)), 5), (6,))
        self.assertEqual(thing_flaw(deed), (5, "shape"))
        deed = ("if", ("not", num(1)), (("say", num(1)),), (6,))
        self.assertEqual(thing_flaw(deed), (5, "shape"))
        deed = ("while", num(1), (("if", num(1), (), (("do", num(1)),)),))
        self.assertEqual(thing_flaw(deed, 5), (6, "shape"))

    def test_each_fun_counts_anew(self):
        self.assertEqual(flaw(((0, 0, (("say", num(1)),)), (0, 0, (("say", 5),)))), (1, 1, "shape"))

    def test_whatever_stands_there_is_a_thing(self):
        for wrong in (5, "say", "", (), 0):
            self.assertEqual(thing_flaw(("do", num(1)), wrong), (2, "shape"), wrong)
            self.assertEqual(thing_flaw(("do", num(1)), ("say", wrong)), (3, "shape"), wrong)


class Bounds(unittest.TestCase):

    def test_thing_199_and_thing_200(self):
        deeds = (("say", num(1)),) * 100
        self.assertIsNone(thing_flaw(*deeds))
        self.assertEqual(thing_flaw(*deeds, ("say", num(1))), (200, "many"))
        self.assertEqual(thing_flaw(*deeds[:99], ("say", ("not", num(1)))), (200, "many"))
        self.assertEqual(thing_flaw(*deeds[:99], ("say", 5)), (199, "shape"))

    def test_many_is_told_ahead_of_all_else(self):
        deeds = (("say", num(1)),) * 100
        self.assertEqual(thing_flaw(*deeds, 5), (200, "many"))
        filled = (("do", num(1)),) * 92
        self.assertEqual(thing_flaw(*filled, *nested(8, (5,))), (200, "many"))
        filled = (("do", sum_of(10)),) * 7 + (("do", nots(18)),)
        self.assertEqual(thing_flaw(*filled, ("do", nots(41))), (200, "many"))

    def test_200_things_in_each_fun(self):
        full = (("say", num(1)),) * 100
        self.assertIsNone(flaw(((0, 0, full), (0, 0, full))))
        self.assertEqual(flaw(((0, 0, full), (0, 0, (*full, 5)))), (1, 200, "many"))

    def test_within_seven_and_within_eight(self):
        self.assertIsNone(thing_flaw(*nested(7, [("say", num(1))])))
        self.assertEqual(thing_flaw(*nested(8, [("say", num(1))])), (16, "deep"))
        self.assertIsNone(thing_flaw(*nested(8)))

    def test_deep_in_any_body(self):
        body = (("do", num(1)),)
        for number in range(8):
            if number // 2 * 2 == number:
                body = (("if", num(1), (), body),)
            else:
                body = (("while", num(0), body),)
        self.assertEqual(thing_flaw(*body), (16, "deep"))

    def test_deep_is_told_ahead_of_shape(self):
        self.assertEqual(thing_flaw(*nested(8, [5])), (16, "deep"))
        self.assertEqual(thing_flaw(*nested(7, [5])), (14, "shape"))

    def test_depth_goes_back_behind_a_body(self):
        self.assertIsNone(thing_flaw(*nested(8), *nested(7, [("say", num(1))] * 3)))

    def test_fortieth_and_forty_first_part(self):
        self.assertIsNone(thing_flaw(("say", nots(40))))
        self.assertEqual(thing_flaw(("say", nots(41))), (41, "wide"))
        self.assertIsNone(thing_flaw(("put", sum_of(10), nots(21))))
        self.assertEqual(thing_flaw(("put", sum_of(10), nots(22))), (41, "wide"))

    def test_wide_counts_all_parts_of_one_deed(self):
        self.assertEqual(thing_flaw(("put", nots(20), nots(21))), (41, "wide"))
        self.assertIsNone(thing_flaw(("put", nots(20), nots(20))))
        self.assertIsNone(thing_flaw(("do", nots(40)), ("do", nots(40))))
        self.assertEqual(thing_flaw(("do", nots(40)), ("do", nots(41))), (82, "wide"))

    def test_parts_of_a_body_are_not_the_deeds_own(self):
        self.assertIsNone(thing_flaw(("if", nots(40), (("do", nots(40)),), (("do", nots(40)),))))
        self.assertEqual(thing_flaw(("while", nots(40), (("do", nots(41)),))), (82, "wide"))

    def test_wide_is_told_ahead_of_shape(self):
        part = 5
        for _ in range(40):
            part = ("not", part)
        self.assertEqual(thing_flaw(("say", part)), (41, "wide"))
        self.assertEqual(thing_flaw(("say", part[1])), (40, "shape"))

    def test_nesting_without_end(self):
        part = num(1)
        for _ in range(5000):
            part = ("not", part)
        self.assertEqual(thing_flaw(("say", part)), (41, "wide"))
        self.assertEqual(thing_flaw(*nested(5000)), (16, "deep"))
        self.assertEqual(thing_flaw((part, part)), (0, "shape"))


class Shapes(unittest.TestCase):

    def test_all_words_can_be(self):
        one = num(1)
        self.assertIsNone(thing_flaw(
            ("set", 0, one), ("put", one, one), ("say", one), ("if", one, (), ()), ("while", num(0), ()),
            ("do", one), ("return", one)))
        for word in ("add", "take", "times", "over", "rest", "less", "same"):
            self.assertIsNone(thing_flaw(("say", (word, one, one))), word)
        for part in (num(1), name(0), ("not", one), ("get", one), ("call", 1, ())):
            self.assertIsNone(thing_flaw(("say", part)), part)

    def test_another_word(self):
        for word in ("", "Say", "sum", "unless", "away", "funs", 0, (), ("say",)):
            self.assertEqual(thing_flaw((word, num(1))), (0, "shape"), word)
            self.assertEqual(thing_flaw(("say", (word, num(1), num(1)))), (1, "shape"), word)

    def test_a_deed_is_no_part_and_a_part_no_deed(self):
        self.assertEqual(thing_flaw(num(1)), (0, "shape"))
        self.assertEqual(thing_flaw(("not", num(1))), (0, "shape"))
        self.assertEqual(thing_flaw(("call", 1, ())), (0, "shape"))
        self.assertEqual(thing_flaw(("say", ("say", num(1)))), (1, "shape"))
        self.assertEqual(thing_flaw(("if", num(1), (num(1),), ())), (2, "shape"))

    def test_another_count_behind_a_word(self):
        one = num(1)
        right = [("set", 0, one), ("put", one, one), ("say", one), ("if", one, (), ()), ("while", one, ()),
                 ("return", one), ("do", one)]
        for deed in right:
            self.assertEqual(thing_flaw(deed[:-1]), (0, "shape"), deed)
            self.assertEqual(thing_flaw((*deed, one)), (0, "shape"), deed)
            self.assertEqual(thing_flaw(deed[:1]), (0, "shape"), deed)
        right = [num(1), name(0), ("add", one, one), ("take", one, one), ("times", one, one), ("over", one, one),
                 ("rest", one, one), ("less", one, one), ("same", one, one), ("not", one), ("get", one),
                 ("call", 1, ())]
        for part in right:
            self.assertEqual(thing_flaw(("say", part[:-1])), (1, "shape"), part)
            self.assertEqual(thing_flaw(("say", (*part, one))), (1, "shape"), part)

    def test_another_kind_for_a_number(self):
        for wrong in ("0", (), (0,), num(0), True, False):
            self.assertEqual(thing_flaw(("set", wrong, num(1))), (0, "shape"), wrong)
            self.assertEqual(thing_flaw(("say", ("num", wrong))), (1, "shape"), wrong)
            self.assertEqual(thing_flaw(("say", ("name", wrong))), (1, "shape"), wrong)
            self.assertEqual(thing_flaw(("say", ("call", wrong, ()))), (1, "shape"), wrong)

    def test_another_kind_for_a_tuple(self):
        for wrong in (0, "", "()", 5):
            self.assertEqual(thing_flaw(("if", num(1), wrong, ())), (0, "shape"), wrong)
            self.assertEqual(thing_flaw(("if", num(1), (), wrong)), (0, "shape"), wrong)
            self.assertEqual(thing_flaw(("while", num(0), wrong)), (0, "shape"), wrong)
            self.assertEqual(thing_flaw(("say", ("call", 1, wrong))), (1, "shape"), wrong)

    def test_shape_is_told_ahead_of_numbers(self):
        self.assertEqual(thing_flaw(("set", 9, num(1), num(1))), (0, "shape"))
        self.assertEqual(thing_flaw(("say", ("call", 9, 5))), (1, "shape"))
        self.assertEqual(thing_flaw(("say", ("num", 1000001, 1))), (1, "shape"))

    def test_a_thing_is_told_ahead_of_what_is_within(self):
        self.assertEqual(thing_flaw(("set", 8, 5)), (0, "name"))
        self.assertEqual(thing_flaw(("if", num(1000001), 5, ())), (0, "shape"))
        self.assertEqual(thing_flaw(("say", ("call", 2, (5, 5)))), (1, "args"))
        self.assertEqual(thing_flaw(("if", num(1000001), (5,), ())), (1, "number"))


class NumbersBehindWords(unittest.TestCase):

    def test_n_at_a_million_and_beyond(self):
        self.assertIsNone(thing_flaw(("say", num(1000000)), ("say", num(-1000000))))
        self.assertEqual(thing_flaw(("say", num(1000001))), (1, "number"))
        self.assertEqual(thing_flaw(("say", num(-1000001))), (1, "number"))
        self.assertEqual(thing_flaw(("say", num(10 ** 30))), (1, "number"))

    def test_names_that_there_are(self):
        self.assertIsNone(thing_flaw(("set", 7, name(7)), ("set", 0, name(0))))
        for wrong in (8, -1):
            self.assertEqual(thing_flaw(("set", wrong, num(1))), (0, "name"), wrong)
            self.assertEqual(thing_flaw(("say", name(wrong))), (1, "name"), wrong)
        self.assertEqual(thing_flaw(("set", 2, num(1)), names=2), (0, "name"))
        self.assertIsNone(thing_flaw(("set", 1, name(1)), names=2))
        self.assertEqual(thing_flaw(("say", name(0)), names=0), (1, "name"))

    def test_names_are_the_funs_own(self):
        body = (("say", name(2)),)
        self.assertIsNone(flaw((EMPTY, (2, 3, body))))
        self.assertEqual(flaw(((0, 8, ()), (2, 2, body))), (1, 1, "name"))

    def test_funs_that_there_are(self):
        self.assertIsNone(thing_flaw(("do", ("call", 0, ())), ("do", ("call", 7, (num(1),)))))
        for wrong in (8, -1):
            self.assertEqual(thing_flaw(("do", ("call", wrong, ()))), (1, "fun"), wrong)
        self.assertEqual(flaw(alone(("do", ("call", 1, ())))), (0, 1, "fun"))

    def test_fun_is_told_ahead_of_args(self):
        self.assertEqual(thing_flaw(("do", ("call", 8, (num(1),) * 9))), (1, "fun"))

    def test_args(self):
        for fun, params in ((0, 0), (1, 0), (2, 1), (3, 2), (4, 3), (5, 4)):
            right = (num(1),) * params
            self.assertIsNone(thing_flaw(("do", ("call", fun, right))), fun)
            self.assertEqual(thing_flaw(("do", ("call", fun, (*right, num(1))))), (1, "args"), fun)
            if params:
                self.assertEqual(thing_flaw(("do", ("call", fun, right[1:]))), (1, "args"), fun)

    def test_args_are_counted_by_what_the_fun_says_though_it_cannot_be(self):
        one = ("do", ("call", 1, (num(1),)))
        self.assertEqual(flaw(((0, 0, (one,)), (-1, 0, ()))), (0, 1, "args"))
        five = ("do", ("call", 1, (num(1),) * 5))
        self.assertEqual(flaw(((0, 0, (five,)), (5, 5, ()))), (1, -1, "params"))
        for wrong in ("1", True, ()):
            self.assertEqual(flaw(((0, 0, (one,)), (wrong, 1, ()))), (1, -1, "params"), wrong)

    def test_names_are_the_names_not_the_params(self):
        self.assertIsNone(flaw(((0, 0, (("do", ("call", 1, (num(1),))),)), (1, 5, ()))))


class SeveralFaults(unittest.TestCase):

    def test_first_thing_is_told(self):
        self.assertEqual(thing_flaw(("say", num(2000000)), 5), (1, "number"))
        self.assertEqual(thing_flaw(("put", name(8), ("call", 8, ()))), (1, "name"))
        self.assertEqual(thing_flaw(("if", num(1), (("say", name(9)),), (7,))), (3, "name"))

    def test_the_text_decides_and_not_the_kind_of_fault(self):
        self.assertEqual(thing_flaw(("do", ("call", 1, (num(1),))), ("say", nots(41))), (1, "args"))
        self.assertEqual(thing_flaw(("say", nots(41)), ("do", ("call", 1, (num(1),)))), (41, "wide"))


if __name__ == "__main__":
    unittest.main()
