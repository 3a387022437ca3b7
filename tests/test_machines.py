"""Points [12], [13] and [14]: machines that do rows, and how they are held side by side."""

import unittest

from queuemill.errors import BadFuel
from queuemill.machines import held, run_pile, run_queue
from queuemill.plain import run
from queuemill.rows import pile_rows, queue_rows
from queuemill.stages import stages, turns
from tests.chance import Chance, deed_of
from tests.helpers import alone, name, num, program_flaw, sum_of

ONE = num(1)
NOUGHT = [0] * 64
END = (num(0), ("return",))
OVER = ("over", ONE, num(0))
# 0 num, 1 get, 2 name, 3 num, 4 get, 5 not, 6 times, 7 add, 8 say; its stages take two turns.
UNEVEN = ("say", ("add", ("get", num(1)), ("times", name(0), ("not", ("get", num(2))))))


def side_by_side(program, fuel=3000, other=None):
    return held(pile_rows(program), queue_rows(other or program), fuel)


def unlike(program, other, fuel=3000):
    return side_by_side(program, fuel, other)[0]


def counts(program, fuel=3000):
    """The tuples that held tells of both machines, for a program that is alike."""
    behind, told, many = side_by_side(program, fuel)
    assert behind is None and told == run(program, fuel), (program, behind, told)
    return many


class ThreeWays(unittest.TestCase):
    """A program by its text, by rows for the pile and by rows for the queue."""

    def hold(self, program, fuel=3000):
        """What all three tell."""
        told = run(program, fuel)
        self.assertEqual(run_pile(pile_rows(program), fuel), told, program)
        self.assertEqual(run_queue(queue_rows(program), fuel), told, program)
        return told

    def test_kinds(self):
        for call, rows in ((run_pile, pile_rows), (run_queue, queue_rows)):
            told = call(rows(alone(("say", ONE))), 0)
            self.assertIsInstance(told, tuple)
            self.assertEqual(told, ([1], ("worth", 0), NOUGHT))
            self.assertIsInstance(told[0], list)
            self.assertIsInstance(told[2], list)

    def test_words_of_parts(self):
        for word in ("add", "take", "times", "over", "rest", "less", "same"):
            for one, other in ((7, 2), (-7, 2), (2, 7), (5, 5), (1000000, -1000000)):
                self.hold(alone(("say", (word, num(one), num(other)))))
        self.hold(alone(("say", ("not", num(0))), ("say", ("not", num(3)))))
        big = ("times", num(1000000), num(1000))
        self.assertEqual(self.hold(alone(("say", ("add", big, big)), ("say", big)))[0], [0, -1000000000])

    def test_deeds(self):
        program = alone(
            ("set", 1, num(5)), ("put", num(63), name(1)), ("say", ("get", num(63))), ("do", name(1)),
            ("if", name(0), (("say", num(8)),), (("say", num(9)),)), ("if", name(1), (("say", num(8)),), ()),
            ("while", name(1), (("say", name(1)), ("set", 1, ("take", name(1), num(2))), ("if", ("less", name(1), num(0)),
                               (("return", name(1)),), ()))), names=2)
        self.assertEqual(self.hold(program), ([5, 9, 8, 5, 3, 1], ("worth", -1), [0] * 63 + [5]))

    def test_empty_bodies(self):
        deeds = (("if", ONE, (), ()), ("if", num(0), (), ()), ("while", num(0), ()), ("say", num(4)))
        self.assertEqual(self.hold(alone(*deeds)), ([4], ("worth", 0), NOUGHT))
        self.assertEqual(self.hold(alone(("while", ONE, ()), ("say", num(4)))), ([], ("long",), NOUGHT))

    def test_what_is_handed_and_other_names(self):
        program = ((0, 0, (("do", ("call", 1, (num(7), num(8)))), ("do", ("call", 1, (num(5), num(6)))))),
                   (2, 4, tuple(("say", name(at)) for at in range(4)) + (("set", 3, num(1)),)))
        self.assertEqual(self.hold(program)[0], [7, 8, 0, 0, 5, 6, 0, 0])

    def test_a_fun_has_a_pile_or_queue_of_its_own(self):
        program = (
            (0, 0, (("say", ("call", 2, (num(5), ("call", 1, (num(6),)), num(7)))),)),
            (1, 1, (("say", ("times", name(0), ("add", name(0), ("not", ("call", 2, (ONE, ONE, ONE)))))),
                    ("return", num(9)))),
            (3, 3, (("return", ("take", name(0), ("take", name(1), name(2)))),)))
        self.assertEqual(self.hold(program), ([36, 3], ("worth", 0), NOUGHT))

    def test_waits_of_a_call_within_a_call(self):
        fun = (1, 1, (("if", name(0), (("return", ("add", name(0), ("call", 1, (("take", name(0), ONE),)))),), ()),))
        program = ((0, 0, (("say", ("call", 1, (("call", 1, (num(5),)),))),)), fun)
        self.assertEqual(self.hold(program)[0], [120])

    def test_loud_parts_as_by_the_text(self):
        # The call of fun 1 changes what the get behind it reads, and not what the one ahead of it read.
        change = ("call", 1, (("get", num(3)),))
        program = ((0, 0, (
            ("put", num(3), num(10)),
            ("say", ("take", ("get", num(3)), ("not", ("not", ("times", change, ("get", num(3))))))),
            ("say", ("take", ("not", ("get", num(3))), ("add", change, ("get", num(3))))))),
            (1, 1, (("put", num(3), ("add", name(0), ONE)), ("say", name(0)), ("return", name(0)))))
        self.assertEqual(self.hold(program)[0], [10, 9, 11, -23])

    def test_faults_amid_a_deed(self):
        for part, word in ((OVER, "over"), (("rest", ONE, num(0)), "over"), (("get", num(64)), "cell"),
                           (("get", num(-1)), "cell")):
            program = alone(("say", num(3)), ("say", ("add", part, ONE)), ("say", num(4)))
            self.assertEqual(self.hold(program), ([3], ("fault", word), NOUGHT))

    def test_the_first_fault_by_the_text_is_told(self):
        deep = ("not", ("not", ("not", num(0))))
        for one, other, word in (
                (("over", ONE, ("not", deep)), ("get", num(64)), "over"), (("get", ("not", num(9))), OVER, "over"),
                (("get", ("add", num(70), deep)), OVER, "cell"), (OVER, ("get", num(64)), "over")):
            self.assertEqual(self.hold(alone(("say", ("add", one, other))))[1], ("fault", word))

    def test_a_put_that_fails(self):
        for cell in (64, -1, 1000000):
            program = alone(("say", num(3)), ("put", num(cell), ONE), ("say", num(4)))
            self.assertEqual(self.hold(program), ([3], ("fault", "cell"), NOUGHT))

    def test_deep(self):
        fun = (1, 1, (("say", name(0)), ("return", ("call", 1, (("add", name(0), ONE),)))))
        program = ((0, 0, (("do", ("call", 1, (ONE,))),)), fun)
        self.assertEqual(self.hold(program), (list(range(1, 61)), ("fault", "deep"), NOUGHT))
        self.assertEqual(self.hold(program, 60)[1], ("fault", "deep"))
        self.assertEqual(self.hold(program, 59)[1], ("long",))

    def test_long_at_calls_and_rounds(self):
        rounds = alone(("set", 0, num(3000)), ("while", name(0), (("set", 0, ("take", name(0), ONE)),)), names=1)
        self.assertEqual(self.hold(rounds, 3000)[1], ("worth", 0))
        self.assertEqual(self.hold(rounds, 2999)[1], ("long",))
        calls = ((0, 0, (("say", ("add", ("call", 1, ()), ("call", 1, ()))),)), (0, 0, (("say", ONE),)))
        for fuel, told in ((0, ([], ("long",), NOUGHT)), (1, ([1], ("long",), NOUGHT)),
                           (2, ([1, 1, 0], ("worth", 0), NOUGHT))):
            self.assertEqual(self.hold(calls, fuel), told)

    def test_many_programs_by_chance(self):
        ends = {}
        for seed in range(500):
            program = Chance(seed).program()
            if program_flaw(pile_rows, program) is None:
                told = self.hold(program, (0, 1, 4, 30, 200)[seed % 5])
                ends[told[1]] = ends.get(told[1], 0) + 1
                self.assertIsNone(side_by_side(program, 100)[0])
        for end in (("worth", 0), ("long",), ("fault", "over"), ("fault", "cell"), ("fault", "deep")):
            self.assertGreater(ends[end], 2, end)

    def test_wide_deeds_by_chance(self):
        for seed in range(40):
            program = ((0, 0, (deed_of(seed, 40, 0.3), deed_of(seed, 39, 0.8))),
                       (0, 2, (("put", ONE, ("add", ONE, ("get", ONE))), ("return", ("get", ONE)))),
                       (4, 5, (("say", name(3)), ("return", ("take", name(2), name(1))))))
            self.hold(program)


class RowsByHand(unittest.TestCase):

    def test_a_turn_takes_the_front_and_lays_it_at_the_back(self):
        rows = (((0, 0),), (num(7), num(8), num(9), ("turn",), ("take",), ("take",), ("say",), *END))
        self.assertEqual(run_queue(rows, 0)[0], [7 - (8 - 9)])

    def test_what_a_row_wants_it_takes_from_the_front(self):
        rows = (((0, 0), (9, 3)), (
            num(7), num(8), num(9), num(4), ("call", 1, 3), ("take",), ("say",), *END,
            name(0), ("say",), name(1), ("say",), name(2), ("say",), num(100), ("return",)))
        self.assertEqual(run_queue(rows, 9)[0], [7, 8, 9, 4 - 100])
        self.assertEqual(run_pile(rows, 9)[0], [8, 9, 4, 7 - 100])

    def test_rows_are_not_changed_and_asked_again(self):
        program = ((0, 1, (("set", 0, num(3)), ("say", ("call", 1, (ONE,))))), (1, 1, (("put", ONE, num(2)),)))
        pile, queue = pile_rows(program), queue_rows(program)
        for call, rows in ((run_pile, pile), (run_queue, queue), (lambda told, fuel: held(told, queue, fuel), pile)):
            first = call(rows, 9)
            again = call(rows, 9)
            self.assertEqual(first, again)
            for inner in (first[0], first[2]):
                if isinstance(inner, list):
                    inner.append(5)
            self.assertEqual(call(rows, 9), again)
        self.assertEqual((pile, queue), (pile_rows(program), queue_rows(program)))


class Fuel(unittest.TestCase):

    def test_fuel_at_its_bounds(self):
        pile = pile_rows(alone())
        for call in (run_pile, run_queue, lambda rows, fuel: held(rows, rows, fuel)):
            for fuel in (0, 1, 2999, 3000):
                call(pile, fuel)
            for fuel in (-1, 3001, 10 ** 20, True, False):
                with self.assertRaises(BadFuel):
                    call(pile, fuel)


class Held(unittest.TestCase):

    def test_kinds(self):
        told = side_by_side(alone(("say", ONE)))
        self.assertEqual(told, (None, ([1], ("worth", 0), NOUGHT), [(4, 2, 1), (4, 2, 1)]))
        self.assertIsInstance(told, tuple)
        self.assertIsInstance(told[2], list)
        self.assertIsInstance(told[2][0], tuple)

    def test_alike_throughout(self):
        for seed in range(150):
            program = Chance(seed).program()
            if program_flaw(pile_rows, program) is None:
                for fuel in (0, 3, 50):
                    behind, told, many = side_by_side(program, fuel)
                    self.assertIsNone(behind)
                    self.assertEqual(told, run(program, fuel))
                    self.assertEqual(many[0][1], many[1][1])

    def test_unlike_in_what_was_said(self):
        one = alone(("say", ONE), ("say", num(2)), ("say", num(3)))
        for deeds, behind, said in (
                ((("say", num(5)),), 1, [1]), ((("do", ONE),), 1, [1]),
                ((("say", ONE), ("say", num(5))), 2, [1, 2]), ((("say", ONE), ("say", num(2)), ("do", ONE)), 3, [1, 2, 3])):
            told = side_by_side(one, other=alone(*deeds))
            self.assertEqual(told[:2], (behind, (said, None, NOUGHT)), deeds)
            self.assertEqual(told[2], [(2 * behind, behind, 1)] * 2)
        self.assertEqual(unlike(alone(("do", ONE)), one), 1)

    def test_unlike_in_cells(self):
        one = alone(("put", num(4), ONE), ("put", num(5), ONE))
        self.assertIsNone(unlike(one, one))
        self.assertEqual(unlike(one, alone(("put", num(4), num(2)))), 1)
        self.assertEqual(unlike(one, alone(("put", num(4), ONE), ("put", num(63), ONE))), 2)
        self.assertEqual(side_by_side(one, other=alone(("do", ONE)))[1], ([], None, [0] * 4 + [1] + [0] * 59))

    def test_unlike_in_names(self):
        one = alone(("set", 1, ONE), ("set", 0, num(2)), names=2)
        self.assertEqual(unlike(one, alone(("set", 0, ONE), names=2)), 1)
        self.assertEqual(unlike(one, alone(("set", 1, ONE), ("set", 0, num(3)), names=2)), 2)

    def test_names_of_the_fun_that_runs_alone(self):
        # By what the caller's names are no one asks while another fun runs: only when that one is over.
        inner = (0, 1, (("say", ONE), ("say", ONE)))
        one = ((0, 1, (("set", 0, ("call", 1, ())), ("set", 0, num(3)))), inner)
        other = ((0, 1, (("set", 0, ("add", ("call", 1, ()), ONE)), ("set", 0, num(3)))), inner)
        told = side_by_side(one, other=other)
        self.assertEqual(told[0], 4)
        handed = ((0, 0, (("do", ("call", 1, (num(3),))),)), (1, 1, (("say", ONE),)))
        others = ((0, 0, (("do", ("call", 1, (num(4),))),)), (1, 1, (("say", ONE),)))
        self.assertEqual(unlike(handed, others), 1)

    def test_unlike_in_how_many_calls_wait(self):
        fun = (0, 0, (("do", ONE), ("do", ONE)))
        one = ((0, 0, (("do", ONE), ("do", ("call", 1, ())), ("do", ONE))), fun)
        other = ((0, 0, (("do", ONE), ("do", ONE), ("do", ONE))), fun)
        self.assertEqual(unlike(one, other), 2)
        self.assertEqual(unlike(other, one), 2)

    def test_calls_that_are_over_within_one_deed_wait_no_more(self):
        fun = (0, 0, (("return", ONE),))
        one = ((0, 0, (("do", ("call", 1, ())), ("return", ONE))), fun)
        other = ((0, 0, (("do", ONE), ("do", ONE), ("return", ONE))), fun)
        self.assertEqual(side_by_side(one, other=other), (
            None, ([], ("worth", 1), NOUGHT), [(6, 3, 1), (6, 3, 1)]))

    def test_unlike_in_the_end(self):
        one = alone(("return", ONE))
        self.assertEqual(unlike(one, alone(("return", num(2)))), 1)
        self.assertEqual(unlike(one, alone(("do", ONE))), 1)
        self.assertEqual(unlike(alone(("do", ONE)), one), 1)
        self.assertEqual(unlike(alone(("do", ONE), ("return", ONE)), alone(("do", ONE), ("return", num(2)))), 2)
        self.assertEqual(side_by_side(one, other=alone(("do", ONE)))[1], ([], ("worth", 1), NOUGHT))
        self.assertEqual(side_by_side(alone(("do", ONE)), other=one)[1], ([], None, NOUGHT))

    def test_a_bodys_end_and_a_return_of_0_are_one(self):
        self.assertIsNone(unlike(alone(), alone(("return", num(0)))))

    def test_unlike_behind_none(self):
        one = alone(("say", OVER))
        self.assertEqual(side_by_side(one, other=alone(("say", ONE))), (
            0, ([], ("fault", "over"), NOUGHT), [(3, 0, 2), (2, 1, 1)]))
        self.assertEqual(unlike(one, alone(("say", ("get", num(64))))), 0)
        self.assertIsNone(unlike(one, alone(("do", ("rest", ONE, num(0))))))

    def test_behind_how_many_is_told_by_the_pile(self):
        self.assertEqual(unlike(alone(("say", ONE)), alone(("say", OVER))), 1)
        self.assertEqual(unlike(alone(("do", ONE), ("do", OVER)), alone(("do", ONE), ("do", ONE))), 1)
        self.assertEqual(unlike(alone(("do", ONE), ("do", ONE)), alone(("do", ONE), ("do", OVER))), 2)

    def test_a_put_that_fails_counts_as_done(self):
        one = alone(("put", num(64), ONE))
        self.assertEqual(side_by_side(one), (None, ([], ("fault", "cell"), NOUGHT), [(3, 1, 2), (3, 1, 2)]))
        self.assertEqual(unlike(one, alone(("put", num(4), ONE))), 1)
        self.assertEqual(unlike(alone(("put", num(4), ONE)), one), 1)
        # The same fault, but behind one deed for the pile and amid one for the queue.
        self.assertEqual(side_by_side(one, other=alone(("put", num(4), ("get", num(64)))))[0::2], (
            None, [(3, 1, 2), (3, 0, 2)]))

    def test_other_faults_amid_a_deed_do_not(self):
        for part in (OVER, ("get", num(64))):
            many = counts(alone(("do", ONE), ("put", num(3), part)))
            self.assertEqual([many[0][1], many[1][1]], [1, 1])
        recursion = (0, 0, (("do", ("call", 1, ())),))
        self.assertEqual(counts(((0, 0, (("do", ("call", 1, ())),)), recursion)), [(61, 0, 0), (61, 0, 0)])

    def test_the_same_fault_in_another_fun(self):
        fun = (0, 0, (("do", OVER),))
        one = ((0, 0, (("say", ONE), ("do", ("call", 1, ())))), fun)
        other = ((0, 0, (("say", ONE), ("do", OVER))), fun)
        self.assertEqual(unlike(one, other), 1)

    def test_long_at_a_call(self):
        one = ((0, 0, (("do", ONE), ("say", ("call", 1, ())))), (0, 0, ()))
        self.assertEqual(side_by_side(one, 0), (None, ([], ("long",), NOUGHT), [(3, 1, 1), (3, 1, 1)]))
        other = ((0, 0, (("do", ONE), ("say", ONE))), (0, 0, ()))
        self.assertEqual(unlike(one, other, 0), 1)
        self.assertEqual(unlike(other, one, 0), 2)

    def test_long_at_a_round(self):
        one = alone(("while", ONE, ()))
        self.assertEqual(side_by_side(one, 0), (None, ([], ("long",), NOUGHT), [(3, 1, 1), (3, 1, 1)]))
        self.assertEqual(side_by_side(one, 2)[2], [(11, 3, 1), (11, 3, 1)])
        other = alone(("if", ONE, (("say", ONE),), ()))
        self.assertEqual(unlike(one, other, 0), 1)
        self.assertEqual(unlike(other, one, 0), 2)

    def test_nothing_is_done_further_than_where_they_are_unlike(self):
        one = alone(("say", ONE), ("put", ONE, ONE), ("say", num(3)))
        told = side_by_side(one, other=alone(("say", num(2)), ("say", OVER)))
        self.assertEqual(told, (1, ([1], None, NOUGHT), [(2, 1, 1), (2, 1, 1)]))

    def test_rows_and_deeds(self):
        program = alone(("set", 0, num(2)), ("while", name(0), (("set", 0, ("take", name(0), ONE)),)), names=1)
        # num, set; thrice name, unless; twice round, name, num, take, set, go; num, return
        self.assertEqual(counts(program), [(2 + 6 + 12 + 2, 1 + 3 + 2 + 1, 2)] * 2)
        program = alone(("if", ONE, (), (("say", ONE),)), ("if", num(0), (), (("say", ONE),)))
        self.assertEqual(counts(program), [(3 + 4 + 2, 1 + 2 + 1, 1)] * 2)

    def test_the_queue_has_more_rows_by_its_turns(self):
        self.assertEqual(turns(UNEVEN, stages(UNEVEN)), 2)
        self.assertEqual(counts(alone(UNEVEN, names=1)), [(11, 2, 3), (13, 2, 3)])
        self.assertEqual(counts(alone(UNEVEN, UNEVEN, names=1)), [(20, 3, 3), (24, 3, 3)])
        for seed in range(40):
            deed = deed_of(seed, 12, 0)
            pile, queue = counts(alone(deed))
            self.assertEqual(queue[0] - pile[0], turns(deed, stages(deed)))

    def test_most_worths_at_once(self):
        # Of the queue each num is laid in the stage of the add beside it, ahead of it.
        self.assertEqual(counts(alone(("say", sum_of(12)))), [(26, 2, 12), (26, 2, 3)])
        left = ONE
        for _ in range(11):
            left = ("add", left, ONE)
        self.assertEqual(counts(alone(("say", left))), [(26, 2, 2), (26, 2, 2)])
        four = ("call", 1, (ONE,) * 4)
        program = ((0, 0, (("do", ("call", 1, (four,) * 4)),)), (4, 4, ()))
        self.assertEqual([many[2] for many in counts(program)], [7, 16])

    def test_what_was_taken_lies_no_more(self):
        ahead = (("say", ONE), ("do", ONE), ("set", 0, ONE), ("put", ONE, ONE), ("if", ONE, (), ()), ("if", num(0), (), ()),
                 ("while", name(0), (("set", 0, num(0)),)), UNEVEN)
        for many in range(len(ahead) + 1):
            program = alone(*ahead[:many], ("say", sum_of(12)), names=1)
            self.assertEqual([most for _, _, most in counts(program)], [12, 3], many)

    def test_worths_of_all_funs_lie_at_once(self):
        inner = (0, 0, (("return", ("add", ONE, ("add", ONE, ONE))),))
        program = ((0, 0, (("do", ("add", num(5), ("add", num(6), ("call", 1, ())))),)), inner)
        self.assertEqual(counts(program)[0][2], 5)
        # What is handed lies in no pile any more.
        program = ((0, 0, (("do", ("call", 1, (ONE, ONE, ONE))),)), (3, 3, (("do", ("add", ONE, ONE)),)))
        self.assertEqual([many[2] for many in counts(program)], [3, 3])
        program = ((0, 0, (("do", ("call", 1, (ONE,))), ("do", ("call", 1, (ONE,))))), (1, 1, (("do", ONE),)))
        self.assertEqual([many[2] for many in counts(program)], [1, 1])


if __name__ == "__main__":
    unittest.main()
