"""Points [8], [9] and [10]: a deed's rows by stages, and a program's rows for the pile and for the queue."""

import unittest

from queuemill.errors import BadDeed, BadProgram, BadStages
from queuemill.programs import layers
from queuemill.rows import pile_rows, queue_rows, rows_by
from queuemill.stages import stages, turns
from tests.chance import Chance, deed_of
from tests.helpers import alone, deed_flaw, name, num, program_flaw
from tests.oracles import all_stages, done_by_queue, tree_of

ONE = num(1)
TWO = num(2)
TURN = ("turn",)
SAY = ("say",)
END = (num(0), ("return",))
# 0 num, 1 get, 2 name, 3 num, 4 get, 5 not, 6 times, 7 add, 8 say
UNEVEN = ("say", ("add", ("get", num(1)), ("times", name(0), ("not", ("get", num(2))))))


def both(program):
    """The rows of a program that are the same for the pile and for the queue."""
    pile = pile_rows(program)
    assert pile == queue_rows(program), program
    return pile


class RowsBy(unittest.TestCase):

    def test_without_turns(self):
        self.assertEqual(rows_by(("say", ONE), [0, 1]), [ONE, SAY])
        self.assertEqual(rows_by(("set", 4, ("not", ONE)), [5, 8, 9]), [ONE, TURN, TURN, ("not",), ("set", 4)])

    def test_stage_by_stage_and_from_left_to_right(self):
        self.assertEqual(rows_by(UNEVEN, [0, 1, 2, 0, 1, 2, 3, 4, 5]), [
            num(1), num(2), ("get",), ("get",), TURN, name(0), ("not",), TURN, ("times",), ("add",), SAY])
        self.assertEqual(rows_by(UNEVEN, [0, 1, 0, 1, 2, 3, 4, 5, 6]), [
            num(1), name(0), ("get",), TURN, num(2), TURN, TURN, ("get",), TURN, TURN, ("not",), TURN, ("times",),
            ("add",), SAY])

    def test_a_worth_that_waits_long(self):
        self.assertEqual(rows_by(("say", ONE), [0, 4]), [ONE, TURN, TURN, TURN, SAY])
        self.assertEqual(rows_by(("say", ONE), [0, 1000]), [ONE] + [TURN] * 999 + [SAY])
        self.assertEqual(rows_by(("put", ONE, TWO), [1, 0, 3]), [TWO, ONE, TURN, TURN, TURN, ("put",)])

    def test_nothing_stands_below_the_first_stage(self):
        self.assertEqual(rows_by(("put", ONE, TWO), [998, 999, 1000]), [ONE, TURN, TWO, ("put",)])

    def test_own_row_of_each_deed(self):
        for deed, own in ((("set", 4, ONE), ("set", 4)), (("put", ONE, ONE), ("put",)), (("say", ONE), SAY),
                          (("if", ONE, (), ()), ("unless",)), (("while", ONE, ()), ("unless",)),
                          (("return", ONE), ("return",)), (("do", ONE), ("away",))):
            self.assertEqual(rows_by(deed, stages(deed))[-1], own)

    def test_of_if_and_while_the_test_alone(self):
        body = (("say", ("not", TWO)),)
        self.assertEqual(rows_by(("if", ONE, body, body), [0, 2]), [ONE, TURN, ("unless",)])
        self.assertEqual(rows_by(("while", ONE, body), [0, 1]), [ONE, ("unless",)])

    def test_rows_of_a_call(self):
        deed = ("do", ("call", 3, (ONE, ("not", TWO))))
        self.assertEqual(rows_by(deed, [1, 0, 1, 2, 3]), [TWO, ONE, ("not",), ("call", 3, 2), ("away",)])

    def test_each_row_takes_from_the_front_what_it_wants(self):
        for seed in range(25):
            deed = deed_of(seed, 5, 0.4)
            for some in all_stages(deed, 6)[::5]:
                rows = rows_by(deed, some)
                self.assertEqual(done_by_queue(rows), [tree_of(deed)], (deed, some))
                self.assertEqual(rows.count(TURN), turns(deed, some), (deed, some))

    def test_forty_parts(self):
        for seed in range(12):
            for loud in (0, 0.5, 1):
                deed = deed_of(seed, 40, loud)
                rows = rows_by(deed, stages(deed))
                self.assertEqual(done_by_queue(rows), [tree_of(deed)], deed)
                self.assertEqual(len(rows), 41 + turns(deed, stages(deed)))

    def test_wrong_stages(self):
        for some in ([0], [0, 1, 2], [1, 1], [1, 0], [-1, 0], [0, 1001], [False, 1], [0, True]):
            with self.assertRaises(BadStages):
                rows_by(("say", ONE), some)
        with self.assertRaises(BadStages):
            rows_by(UNEVEN, [0, 2, 2, 0, 1, 2, 3, 4, 5])

    def test_the_deed_is_refused_ahead_of_its_stages(self):
        self.assertEqual(deed_flaw(rows_by, ("say", 5), [7]), (1, "shape"))
        with self.assertRaises(BadDeed):
            rows_by(("set", 8, ONE), [0, 1])

    def test_kinds_and_asked_again_after_a_change(self):
        some = [0, 2]
        first = rows_by(("say", ONE), some)
        self.assertIsInstance(first, list)
        first.clear()
        self.assertEqual(rows_by(("say", ONE), some), [ONE, TURN, SAY])
        self.assertEqual(some, [0, 2])


class ProgramRows(unittest.TestCase):

    def test_empty_program(self):
        self.assertEqual(both(alone()), (((0, 0),), END))

    def test_kinds(self):
        for call in (pile_rows, queue_rows):
            told = call(alone(("say", ONE), names=3))
            self.assertIsInstance(told, tuple)
            begins, rows = told
            self.assertEqual(begins, ((0, 3),))
            self.assertIsInstance(begins, tuple)
            self.assertIsInstance(rows, tuple)

    def test_deeds_without_bodies(self):
        program = alone(("set", 2, ONE), ("put", ONE, TWO), ("say", ONE), ("do", TWO), ("return", ONE), names=3)
        self.assertEqual(both(program), (((0, 3),), (
            ONE, ("set", 2), ONE, TWO, ("put",), ONE, SAY, TWO, ("away",), ONE, ("return",), *END)))

    def test_for_the_pile_as_they_are_done(self):
        self.assertEqual(pile_rows(alone(UNEVEN, names=1))[1], (*[row for row, _ in layers(UNEVEN)], *END))

    def test_for_the_queue_by_the_stages_told(self):
        self.assertEqual(queue_rows(alone(UNEVEN, names=1))[1], (*rows_by(UNEVEN, stages(UNEVEN)), *END))
        self.assertEqual(queue_rows(alone(UNEVEN, names=1))[1].count(TURN), 2)

    def test_funs_stand_in_turn(self):
        program = ((0, 2, (("say", ONE),)), (1, 4, ()), (2, 3, (("return", ("call", 1, (TWO,))),)))
        self.assertEqual(both(program), (((0, 2), (4, 4), (6, 3)), (
            ONE, SAY, *END, *END, TWO, ("call", 1, 1), ("return",), *END)))

    def test_if(self):
        program = alone(("if", ONE, (("say", ONE),), (("say", TWO), ("do", TWO))))
        self.assertEqual(both(program)[1], (
            ONE, ("unless", 5), ONE, SAY, ("go", 9), TWO, SAY, TWO, ("away",), *END))

    def test_if_with_empty_bodies(self):
        self.assertEqual(both(alone(("if", ONE, (), ())))[1], (ONE, ("unless", 3), ("go", 3), *END))
        self.assertEqual(both(alone(("if", ONE, (("say", ONE),), ())))[1], (
            ONE, ("unless", 5), ONE, SAY, ("go", 5), *END))
        self.assertEqual(both(alone(("if", ONE, (), (("say", ONE),))))[1], (
            ONE, ("unless", 3), ("go", 5), ONE, SAY, *END))

    def test_while(self):
        program = alone(("say", TWO), ("while", ("not", ONE), (("say", ONE),)), ("say", TWO))
        self.assertEqual(both(program)[1], (
            TWO, SAY, ONE, ("not",), ("unless", 9), ("round",), ONE, SAY, ("go", 2), TWO, SAY, *END))

    def test_while_with_an_empty_body(self):
        self.assertEqual(both(alone(("while", ONE, ())))[1], (ONE, ("unless", 4), ("round",), ("go", 0), *END))

    def test_one_within_another(self):
        inner = ("if", TWO, (("while", TWO, ()),), ())
        program = alone(("while", ONE, (inner, ("say", ONE))), ("if", ONE, (inner,), (inner,)))
        self.assertEqual(both(program)[1], (
            ONE, ("unless", 13), ("round",),
            TWO, ("unless", 10), TWO, ("unless", 9), ("round",), ("go", 5), ("go", 10),
            ONE, SAY, ("go", 0),
            ONE, ("unless", 23),
            TWO, ("unless", 22), TWO, ("unless", 21), ("round",), ("go", 17), ("go", 22),
            ("go", 30),
            TWO, ("unless", 30), TWO, ("unless", 29), ("round",), ("go", 25), ("go", 30), *END))

    def test_places_count_from_the_first_fun(self):
        program = ((0, 0, (("say", ONE),)), (0, 0, (("if", ONE, (), ()), ("while", ONE, ()))))
        self.assertEqual(both(program)[1][4:], (
            ONE, ("unless", 7), ("go", 7), ONE, ("unless", 11), ("round",), ("go", 7), *END))

    def test_tests_with_turns(self):
        part = ("add", ("get", num(1)), ("times", name(0), ("not", ("get", num(2)))))
        begins, rows = queue_rows(alone(("while", part, (("say", ONE),)), names=1))
        laid = rows_by(("while", part, ()), stages(("while", part, ())))
        self.assertEqual(rows, (*laid[:-1], ("unless", 15), ("round",), ONE, SAY, ("go", 0), *END))
        self.assertEqual(begins, ((0, 1),))

    def test_by_chance_both_have_the_same_but_for_order_and_turns(self):
        for seed in range(60):
            program = Chance(seed).program()
            if program_flaw(pile_rows, program) is None:
                pile = pile_rows(program)[1]
                queue = queue_rows(program)[1]
                kinds = [[row[0] for row in rows if row != TURN] for rows in (pile, queue)]
                self.assertEqual(sorted(kinds[0]), sorted(kinds[1]))
                self.assertEqual(len(pile), len(kinds[1]))

    def test_no_program_is_refused(self):
        for call in (pile_rows, queue_rows):
            self.assertEqual(program_flaw(call, ()), (-1, -1, "funs"))
            self.assertEqual(program_flaw(call, alone(("say", 5))), (0, 1, "shape"))
            with self.assertRaises(BadProgram):
                call(alone(("say", name(0))))

    def test_asked_again(self):
        program = alone(UNEVEN, ("if", ONE, (UNEVEN,), ()), names=1)
        for call in (pile_rows, queue_rows):
            self.assertEqual(call(program), call(program))


if __name__ == "__main__":
    unittest.main()
