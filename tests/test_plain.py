"""Points [4], [5] and [6]: what a program does by its text."""

import unittest

from queuemill.errors import BadFuel, BadProgram
from queuemill.plain import run
from tests.helpers import alone, name, nested, nots, num, sum_of

MILLION = num(1000000)
LEAST = ("times", num(-1000), MILLION)
MOST = ("add", ("times", num(999), MILLION), num(999999))
NOUGHT = [0] * 64


def said(*deeds, names=8):
    return run(alone(*deeds, names=names), 3000)[0]


def worth(part):
    """What a part comes to."""
    told = run(alone(("return", part)), 3000)
    assert told[1][0] == "worth", told
    return told[1][1]


def end(*deeds, fuel=3000):
    return run(alone(*deeds, names=8), fuel)[1]


def say_all(*nums):
    return tuple(("say", num(n)) for n in nums)


class Answers(unittest.TestCase):
    """What run tells, and that it is told again."""

    def test_empty_program(self):
        self.assertEqual(run(alone(), 0), ([], ("worth", 0), NOUGHT))

    def test_kinds(self):
        told = run(alone(("say", num(1))), 0)
        self.assertIsInstance(told, tuple)
        self.assertIsInstance(told[0], list)
        self.assertIsInstance(told[1], tuple)
        self.assertIsInstance(told[2], list)
        self.assertEqual(len(told[2]), 64)

    def test_said_in_turn_and_cells(self):
        program = alone(("say", num(2)), ("put", num(63), num(5)), ("say", num(1)), ("put", num(0), num(-4)))
        self.assertEqual(run(program, 3000), ([2, 1], ("worth", 0), [-4] + [0] * 62 + [5]))

    def test_asked_again_after_a_change(self):
        program = ((0, 1, (("say", num(2)), ("put", num(1), num(3)), ("do", ("call", 1, (num(9),))))),
                   (1, 1, (("say", name(0)), ("put", num(2), name(0)))))
        first = run(program, 5)
        self.assertEqual(first, ([2, 9], ("worth", 0), [0, 3, 9] + [0] * 61))
        first[0].append(7)
        first[2][0] = 8
        first[2].append(6)
        self.assertEqual(run(program, 5), ([2, 9], ("worth", 0), [0, 3, 9] + [0] * 61))

    def test_nothing_of_one_run_is_left_for_the_next(self):
        run(alone(("put", num(4), num(4)), ("set", 0, num(3)), ("say", num(3)), names=1), 3000)
        self.assertEqual(run(alone(("say", ("get", num(4))), ("say", name(0)), names=1), 3000)[0], [0, 0])


class Refusals(unittest.TestCase):

    def test_fuel_at_its_bounds(self):
        for fuel in (0, 1, 2999, 3000):
            self.assertEqual(run(alone(), fuel)[1], ("worth", 0))
        for fuel in (-1, 3001, 10 ** 20, True, False):
            with self.assertRaises(BadFuel):
                run(alone(), fuel)

    def test_program_is_refused_ahead_of_fuel(self):
        with self.assertRaises(BadProgram):
            run(alone(5), -1)

    def test_a_program_is_refused_though_the_fault_is_never_reached(self):
        with self.assertRaises(BadProgram):
            run(alone(("return", num(1)), 5), 3000)


class Worths(unittest.TestCase):

    def test_both_ends_of_the_stretch(self):
        self.assertEqual(worth(LEAST), -1000000000)
        self.assertEqual(worth(MOST), 999999999)

    def test_add(self):
        self.assertEqual(worth(("add", num(3), num(-5))), -2)
        self.assertEqual(worth(("add", MOST, num(1))), -1000000000)
        self.assertEqual(worth(("add", MOST, MOST)), -2)
        self.assertEqual(worth(("add", LEAST, LEAST)), 0)

    def test_take(self):
        self.assertEqual(worth(("take", num(3), num(5))), -2)
        self.assertEqual(worth(("take", LEAST, num(1))), 999999999)
        self.assertEqual(worth(("take", MOST, LEAST)), -1)
        self.assertEqual(worth(("take", num(0), LEAST)), -1000000000)

    def test_times(self):
        self.assertEqual(worth(("times", num(3), num(-5))), -15)
        self.assertEqual(worth(("times", num(1000), MILLION)), -1000000000)
        self.assertEqual(worth(("times", num(999), MILLION)), 999000000)
        self.assertEqual(worth(("times", num(-1000), MILLION)), -1000000000)
        self.assertEqual(worth(("times", MOST, MOST)), 1)
        self.assertEqual(worth(("times", LEAST, LEAST)), 0)
        self.assertEqual(worth(("times", LEAST, num(3))), -1000000000)

    def test_over_is_rounded_down(self):
        for one, other, told in ((7, 2, 3), (-7, 2, -4), (7, -2, -4), (-7, -2, 3), (6, 3, 2), (-6, 3, -2), (0, -5, 0),
                                 (1, 1000000, 0), (-1, 1000000, -1)):
            self.assertEqual(worth(("over", num(one), num(other))), told, (one, other))

    def test_over_stays_in_the_stretch(self):
        self.assertEqual(worth(("over", LEAST, num(-1))), -1000000000)
        self.assertEqual(worth(("over", LEAST, num(1))), -1000000000)
        self.assertEqual(worth(("over", MOST, num(-1))), -999999999)

    def test_rest_is_what_is_left_then(self):
        for one, other, told in ((7, 2, 1), (-7, 2, 1), (7, -2, -1), (-7, -2, -1), (6, 3, 0), (6, -3, 0), (2, 7, 2),
                                 (-2, 7, 5), (2, -7, -5), (-2, -7, -2)):
            self.assertEqual(worth(("rest", num(one), num(other))), told, (one, other))
        self.assertEqual(worth(("rest", LEAST, num(-1))), 0)
        self.assertEqual(worth(("rest", MOST, LEAST)), -1)

    def test_over_and_rest_by_nought(self):
        for word in ("over", "rest"):
            for one in (0, 5, -5):
                self.assertEqual(end(("say", (word, num(one), num(0)))), ("fault", "over"))

    def test_less_and_same(self):
        for one, other in ((1, 2), (2, 1), (2, 2), (-1, 0), (0, -1)):
            self.assertEqual(worth(("less", num(one), num(other))), 1 if one < other else 0)
            self.assertEqual(worth(("same", num(one), num(other))), 1 if one == other else 0)
        self.assertEqual(worth(("less", LEAST, MOST)), 1)

    def test_not(self):
        self.assertEqual([worth(("not", num(n))) for n in (0, 1, 2, -1)], [1, 0, 0, 0])

    def test_num_and_name(self):
        self.assertEqual(said(("set", 3, num(-1000000)), ("say", name(3)), ("say", MILLION)), [-1000000, 1000000])
        self.assertEqual(said(("say", name(7))), [0])


class Cells(unittest.TestCase):

    def test_they_hold_nought_at_first(self):
        self.assertEqual(said(("say", ("get", num(0))), ("say", ("get", num(63)))), [0, 0])

    def test_put_and_get(self):
        for cell in (0, 1, 63):
            self.assertEqual(said(("put", num(cell), LEAST), ("say", ("get", num(cell)))), [-1000000000])

    def test_cells_that_there_are_not(self):
        for cell in (64, -1, 1000000, -1000000, -64):
            self.assertEqual(end(("put", num(cell), num(1))), ("fault", "cell"))
            self.assertEqual(end(("say", ("get", num(cell)))), ("fault", "cell"))

    def test_the_part_is_done_ahead_of_the_put(self):
        self.assertEqual(end(("put", num(64), ("over", num(1), num(0)))), ("fault", "over"))
        self.assertEqual(end(("put", ("get", num(64)), ("over", num(1), num(0)))), ("fault", "cell"))
        program = ((0, 0, (("put", num(64), ("call", 1, ())),)), (0, 0, say_all(5)))
        self.assertEqual(run(program, 3000), ([5], ("fault", "cell"), NOUGHT))

    def test_cell_is_done_ahead_of_the_part(self):
        program = ((0, 0, (("put", ("call", 1, (num(3),)), ("call", 1, (num(4),))),)),
                   (1, 1, (("say", name(0)), ("return", name(0)))))
        self.assertEqual(run(program, 3000), ([3, 4], ("worth", 0), [0, 0, 0, 4] + [0] * 60))


class Faults(unittest.TestCase):

    def test_amid_a_part_with_what_was_said_ahead(self):
        deeds = (("say", num(1)), ("put", num(2), num(3)),
                 ("say", ("add", num(5), ("over", num(4), ("take", num(1), num(1))))), ("say", num(6)))
        self.assertEqual(run(alone(*deeds), 3000), ([1], ("fault", "over"), [0, 0, 3] + [0] * 61))

    def test_within_a_call(self):
        program = ((0, 0, (("say", ("add", ("call", 1, ()), ("get", num(64)))), ("say", num(9)))),
                   (0, 0, (("say", num(2)), ("return", ("rest", num(1), num(0))))))
        self.assertEqual(run(program, 3000), ([2], ("fault", "over"), NOUGHT))

    def test_first_one_by_the_text(self):
        cell = ("get", num(-1))
        over = ("rest", num(1), num(0))
        self.assertEqual(end(("say", ("add", cell, over))), ("fault", "cell"))
        self.assertEqual(end(("say", ("add", over, cell))), ("fault", "over"))
        self.assertEqual(end(("say", ("over", cell, num(0)))), ("fault", "cell"))

    def test_both_parts_are_done_whatever_the_first_comes_to(self):
        self.assertEqual(end(("say", ("times", num(0), ("get", num(64))))), ("fault", "cell"))
        self.assertEqual(end(("do", ("get", num(64)))), ("fault", "cell"))


class Deeds(unittest.TestCase):

    def test_set(self):
        self.assertEqual(said(("set", 0, num(4)), ("set", 0, ("add", name(0), name(0))), ("say", name(0))), [8])

    def test_do_does_its_part_alone(self):
        program = ((0, 0, (("do", ("call", 1, ())), ("do", num(3)))), (0, 0, (("say", num(8)), ("return", num(2)))))
        self.assertEqual(run(program, 3000), ([8], ("worth", 0), NOUGHT))

    def test_if(self):
        for n, told in ((0, [2]), (1, [1]), (-1, [1]), (2, [1])):
            self.assertEqual(said(("if", num(n), say_all(1), say_all(2)), ("say", num(3))), [*told, 3])
        self.assertEqual(said(("if", num(0), say_all(1), ()), ("say", num(3))), [3])

    def test_bodies_in_turn(self):
        inner = (("say", num(1)), ("if", num(0), (), say_all(2, 3)), ("say", num(4)))
        self.assertEqual(said(("if", num(1), inner, ()), ("say", num(5))), [1, 2, 3, 4, 5])

    def test_while(self):
        body = (("say", name(0)), ("set", 0, ("take", name(0), num(1))))
        self.assertEqual(said(("set", 0, num(3)), ("while", name(0), body), ("say", num(9))), [3, 2, 1, 9])
        self.assertEqual(said(("while", num(0), say_all(1)), ("say", num(9))), [9])
        up = (("say", name(0)), ("set", 0, ("add", name(0), num(1))))
        self.assertEqual(said(("set", 0, num(-2)), ("while", name(0), up)), [-2, -1])

    def test_while_within_while(self):
        inner = (("say", ("add", ("times", name(0), num(10)), name(1))), ("set", 1, ("take", name(1), num(1))))
        outer = (("set", 1, num(2)), ("while", name(1), inner), ("set", 0, ("take", name(0), num(1))))
        self.assertEqual(said(("set", 0, num(2)), ("while", name(0), outer)), [22, 21, 12, 11])

    def test_return(self):
        self.assertEqual(end(("return", num(5)), ("say", num(1))), ("worth", 5))
        self.assertEqual(said(("return", num(5)), ("say", num(1))), [])
        self.assertEqual(end(*nested(6, [("while", num(1), (("return", num(6)),))]), ("return", num(1))), ("worth", 6))
        self.assertEqual(end(("if", num(1), (), (("return", num(6)),))), ("worth", 0))


class Calls(unittest.TestCase):

    def test_what_is_handed_in_turn_and_the_other_names(self):
        program = ((0, 1, (("set", 0, num(7)), ("say", ("call", 1, (num(1), num(2)))), ("say", name(0)))),
                   (2, 3, (("say", name(0)), ("say", name(1)), ("say", name(2)), ("set", 0, num(9)),
                           ("return", ("take", name(1), name(0))))))
        self.assertEqual(run(program, 3000), ([1, 2, 0, -7, 7], ("worth", 0), NOUGHT))

    def test_each_call_has_names_of_its_own(self):
        program = ((0, 0, (("say", ("call", 1, (num(3),))),)),
                   (1, 2, (("if", name(0), (("set", 1, ("call", 1, (("take", name(0), num(1)),))),), ()),
                           ("say", name(0)), ("return", ("add", name(1), num(10))))))
        self.assertEqual(run(program, 3000)[0], [0, 1, 2, 3, 40])

    def test_parts_of_a_call_are_done_in_turn_ahead_of_it(self):
        program = ((0, 0, (("do", ("call", 2, (("call", 1, (num(1),)), ("call", 1, (num(2),))))),)),
                   (1, 1, (("say", name(0)), ("return", name(0)))), (2, 2, (("say", num(3)),)))
        self.assertEqual(run(program, 3000)[0], [1, 2, 3])

    def test_worth_at_the_bodys_end(self):
        program = ((0, 0, (("return", ("add", num(5), ("call", 1, (num(4),)))),)), (1, 1, (("do", name(0)),)))
        self.assertEqual(run(program, 3000)[1], ("worth", 5))

    def test_cells_are_shared_and_read_in_turn(self):
        program = ((0, 0, (("say", ("add", ("get", num(1)), ("add", ("call", 1, ()), ("get", num(1))))),)),
                   (0, 0, (("put", num(1), num(5)), ("return", num(100)))))
        self.assertEqual(run(program, 3000)[0], [105])

    def test_fun_0_may_be_called(self):
        program = ((0, 1, (("put", num(0), ("add", ("get", num(0)), num(1))), ("say", name(0)), ("set", 0, num(4)),
                           ("if", ("less", ("get", num(0)), num(3)), (("do", ("call", 0, ())),), ()),
                           ("return", ("get", num(0))))),)
        told = run(program, 3000)
        self.assertEqual(told, ([0, 0, 0], ("worth", 3), [3] + [0] * 63))


def down(start, extra=()):
    """A program whose fun 1 calls itself so often that start calls wait at last; then extra is done."""
    body = (("if", name(0), (("return", ("call", 1, (("take", name(0), num(1)),))),), tuple(extra)),
            ("say", num(1)))
    return ((0, 0, (("return", ("call", 1, (num(start - 1),))),)), (1, 1, body))


class DeepAndLong(unittest.TestCase):

    def test_sixty_calls_wait(self):
        self.assertEqual(run(down(60), 3000)[:2], ([1], ("worth", 0)))
        self.assertEqual(run(down(61), 3000)[:2], ([], ("fault", "deep")))
        self.assertEqual(run(down(60, [("do", ("call", 0, ()))]), 3000)[1], ("fault", "deep"))

    def test_calls_that_are_over_wait_no_more(self):
        calls = (("do", ("call", 1, ())),) * 90
        self.assertEqual(run(((0, 0, calls), (0, 0, ())), 3000)[1], ("worth", 0))

    def test_parts_of_the_call_that_is_too_deep_are_done(self):
        last = [("do", ("call", 1, (("over", num(1), num(0)),)))]
        self.assertEqual(run(down(60, last), 3000)[1], ("fault", "over"))

    def test_fuel_for_calls(self):
        self.assertEqual(run(down(60), 60)[1], ("worth", 0))
        self.assertEqual(run(down(60), 59)[1], ("long",))
        self.assertEqual(run(down(1), 0)[1], ("long",))

    def test_deep_ahead_of_long(self):
        self.assertEqual(run(down(61), 60)[1], ("fault", "deep"))
        self.assertEqual(run(down(61), 59)[1], ("long",))

    def test_fuel_for_rounds(self):
        deeds = (("set", 0, num(3)), ("while", name(0), (("say", name(0)), ("set", 0, ("take", name(0), num(1))))))
        self.assertEqual(run(alone(*deeds, names=1), 3)[:2], ([3, 2, 1], ("worth", 0)))
        self.assertEqual(run(alone(*deeds, names=1), 2)[:2], ([3, 2], ("long",)))
        self.assertEqual(run(alone(*deeds, names=1), 0)[:2], ([], ("long",)))

    def test_a_while_without_a_round_needs_no_fuel(self):
        self.assertEqual(end(("while", num(0), say_all(1)), fuel=0), ("worth", 0))

    def test_the_test_is_done_ahead_of_the_round(self):
        self.assertEqual(end(("while", ("over", num(1), num(0)), ()), fuel=0), ("fault", "over"))

    def test_rounds_and_calls_are_counted_together(self):
        body = (("do", ("call", 1, ())), ("set", 0, ("take", name(0), num(1))))
        program = ((0, 1, (("set", 0, num(3)), ("while", name(0), body))), (0, 0, (("say", num(1)),)))
        self.assertEqual(run(program, 6)[:2], ([1, 1, 1], ("worth", 0)))
        self.assertEqual(run(program, 5)[:2], ([1, 1], ("long",)))
        self.assertEqual(run(program, 4)[:2], ([1, 1], ("long",)))

    def test_long_leaves_what_was_said_and_put(self):
        deeds = (("say", num(4)), ("while", num(1), (("put", num(0), ("add", ("get", num(0)), num(1))),)))
        self.assertEqual(run(alone(*deeds), 3000), ([4], ("long",), [3000] + [0] * 63))

    def test_sixty_calls_wait_each_amid_the_deepest_text(self):
        # A return within seven deeds, its call within 36 of its 40 parts.
        part = ("call", 1, (("take", name(0), num(1)),))
        for _ in range(36):
            part = ("not", part)
        body = (("if", name(0), nested(6, [("return", part)]), (("return", num(5)),)),)
        program = ((0, 0, (("return", ("call", 1, (num(59),))),)), (1, 1, body))
        self.assertEqual(run(program, 60)[1], ("worth", 1))
        deeper = ((0, 0, (("return", ("call", 1, (num(60),))),)), (1, 1, body))
        self.assertEqual(run(deeper, 3000)[1], ("fault", "deep"))

    def test_widest_deed(self):
        self.assertEqual(worth(sum_of(20)), 20)
        self.assertEqual(worth(nots(40)), 0)


if __name__ == "__main__":
    unittest.main()
