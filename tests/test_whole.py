"""Points [1], [2], [3] and [7] over the whole program: who asks what, in which order, and what is left as it was."""

import unittest

from queuemill.errors import BadDeed, BadFuel, BadPaper, BadProgram, BadStages, BadText, MillError
from queuemill.machines import held, run_pile, run_queue
from queuemill.notes import read, written
from queuemill.plain import run
from queuemill.programs import layers
from queuemill.rows import pile_rows, queue_rows, rows_by
from queuemill.stages import bound, paper, stages, turns
from tests.helpers import alone, deed_flaw, name, nested, nots, num, program_flaw, sum_of

ONE = num(1)
CALL = ("call", 1, (ONE,) * 4)


def held_so(program):
    return held(pile_rows(program), queue_rows(program), 3000)


# All that is handed a program, and all that is handed a deed; the latter with what is right for it.
OF_PROGRAMS = (
    lambda program: run(program, 3000), pile_rows, queue_rows, written,
    lambda program: run_pile(pile_rows(program), 3000), lambda program: run_queue(queue_rows(program), 3000), held_so)
OF_DEEDS = (
    layers, stages, paper,
    lambda deed: turns(deed, stages(deed)), lambda deed: rows_by(deed, stages(deed)),
    lambda deed: bound(deed, paper(deed)))
# The same with what is right for no deed.
OF_DEEDS_AND_MORE = (
    lambda deed: turns(deed, []), lambda deed: rows_by(deed, [True]), lambda deed: bound(deed, ([-1], [-1])))

AT_THE_BOUNDS = (
    alone(*[("say", ONE)] * 100), alone(*nested(8)), alone(*nested(7, (("say", nots(40)),))), alone(("put", nots(20), nots(20))),
    alone(("do", sum_of(20))), alone(("set", 7, name(7)), names=8), ((0, 0, ()),) * 8,
    ((0, 8, (("do", CALL), ("say", num(1000000)), ("say", num(-1000000)))), (4, 8, (("set", 3, name(0)),))),
    ((0, 0, (("do", ("call", 7, ())),)),) * 7 + ((0, 8, (("say", name(7)),)),))

BEYOND = (
    (alone(*[("say", ONE)] * 100, 5), (0, 200, "many")), (alone(*nested(9)), (0, 16, "deep")),
    (alone(("say", nots(41))), (0, 41, "wide")), (alone(("put", nots(20), nots(21))), (0, 41, "wide")),
    (alone(names=9), (0, -1, "names")), (alone(("set", 8, ONE), names=8), (0, 0, "name")),
    (((0, 0, ()),) * 9, (-1, -1, "funs")), (((0, 0, ()), (5, 5, ())), (1, -1, "params")),
    (((1, 1, ()),), (0, -1, "params")), (((0, 0, (("do", ("call", 1, (ONE,) * 5)),)), (4, 4, ())), (0, 1, "args")),
    (alone(("say", num(1000001))), (0, 1, "number")), (alone(("say", num(True))), (0, 1, "shape")),
    (alone(("do", ("call", True, ()))), (0, 1, "shape")), (((0, False, ()),), (0, -1, "names")),
    (((False, 0, ()),), (0, -1, "params")), (alone(("do", ("call", 1, ()))), (0, 1, "fun")))

DEEDS_AT_THE_BOUNDS = (
    ("say", nots(40)), ("put", nots(20), nots(20)), ("set", 7, name(7)), ("do", CALL), ("do", ("call", 7, ())),
    ("do", ("call", 0, (ONE,) * 4)), ("do", ("add", ("call", 2, ()), ("call", 2, (ONE,)))), nested(8)[0],
    ("while", ONE, (("say", ONE),) * 99), ("if", ONE, (("say", nots(40)),), (("say", nots(40)),)),
    ("say", num(-1000000)))

DEEDS_BEYOND = (
    (("say", nots(41)), (41, "wide")), (("put", nots(20), nots(21)), (41, "wide")), (("set", 8, ONE), (0, "name")),
    (("say", name(8)), (1, "name")), (("do", ("call", 8, ())), (1, "fun")), (("do", ("call", 0, (ONE,) * 5)), (1, "args")),
    (nested(9)[0], (16, "deep")), (("while", ONE, (("say", ONE),) * 99 + (5,)), (200, "many")),
    (("if", ONE, (), (("say", nots(41)),)), (43, "wide")), (("say", num(1000001)), (1, "number")), ("say", (0, "shape")),
    (("say", num(False)), (1, "shape")), (("set", True, ONE), (0, "shape")), (5, (0, "shape")), ((), (0, "shape")),
    (ONE, (0, "shape")), (("unless", ONE), (0, "shape")))


class Programs(unittest.TestCase):

    def test_at_the_bounds(self):
        for program in AT_THE_BOUNDS:
            for call in OF_PROGRAMS:
                self.assertIsNone(program_flaw(call, program))
            told = run(program, 3000)
            self.assertEqual(run_pile(pile_rows(program), 3000), told)
            self.assertEqual(run_queue(queue_rows(program), 3000), told)
            self.assertEqual(held_so(program)[:2], (None, told))
            self.assertEqual(read(written(program)), program)

    def test_beyond(self):
        for program, flaw in BEYOND:
            for call in OF_PROGRAMS:
                self.assertEqual(program_flaw(call, program), flaw)

    def test_program_ahead_of_fuel(self):
        for fuel in (-1, 3001, True):
            self.assertEqual(program_flaw(run, (), fuel), (-1, -1, "funs"))
            with self.assertRaises(BadFuel):
                run(alone(), fuel)


class Deeds(unittest.TestCase):

    def test_at_the_bounds(self):
        for deed in DEEDS_AT_THE_BOUNDS:
            for call in OF_DEEDS:
                self.assertIsNone(deed_flaw(call, deed), deed)
            self.assertEqual(bound(deed, paper(deed)), turns(deed, stages(deed)))
            self.assertEqual(len(rows_by(deed, stages(deed))), len(layers(deed)) + turns(deed, stages(deed)))

    def test_beyond(self):
        for deed, flaw in DEEDS_BEYOND:
            for call in OF_DEEDS + OF_DEEDS_AND_MORE:
                self.assertEqual(deed_flaw(call, deed), flaw)

    def test_what_else_is_handed_in_is_asked_then(self):
        for deed in DEEDS_AT_THE_BOUNDS:
            for call, refusal in zip(OF_DEEDS_AND_MORE, (BadStages, BadStages, BadPaper)):
                with self.assertRaises(refusal):
                    call(deed)


class Refusals(unittest.TestCase):

    def test_each_is_a_mill_error_and_none_is_under_another_one(self):
        kinds = (BadProgram, BadDeed, BadFuel, BadStages, BadPaper, BadText)
        for kind in kinds:
            self.assertTrue(issubclass(kind, MillError))
            self.assertFalse([other for other in kinds if other != kind and issubclass(kind, other)])

    def test_fields(self):
        calls = (
            (BadProgram, lambda: written(alone(("say", 5))), {"fun": 0, "at": 1, "why": "shape"}),
            (BadDeed, lambda: stages(("say", num(1000001))), {"at": 1, "why": "number"}),
            (BadText, lambda: read("fun 0 0 end x"), {"place": 4}),
            (BadStages, lambda: turns(("say", ONE), [1, 1]), {}),
            (BadPaper, lambda: bound(("say", ONE), ([2], [])), {}),
            (BadFuel, lambda: held(pile_rows(alone()), queue_rows(alone()), -1), {}))
        for kind, call, fields in calls:
            with self.assertRaises(kind) as caught:
                call()
            for field, worth in fields.items():
                self.assertEqual(getattr(caught.exception, field), worth)


class NothingIsKept(unittest.TestCase):

    def test_asked_in_any_order(self):
        program = ((0, 2, (("while", ("less", name(0), num(3)), (("set", 0, ("call", 1, (name(0),))),)),
                           ("put", name(0), ("add", ("get", ONE), ("over", ("get", ONE), num(2)))))),
                   (1, 1, (("say", name(0)), ("return", ("add", name(0), ONE)))))
        deed = program[0][2][1]
        first = [call(program) for call in OF_PROGRAMS] + [call(deed) for call in OF_DEEDS]
        again = [call(deed) for call in reversed(OF_DEEDS)] + [call(program) for call in reversed(OF_PROGRAMS)]
        self.assertEqual(first, again[::-1])

    def test_what_is_given_back_may_be_changed(self):
        program = alone(("put", ONE, num(5)), ("say", ("get", ONE)))
        deed = ("say", ("add", ("get", ONE), ("get", ONE)))
        for call, handed in [(call, program) for call in OF_PROGRAMS] + [(call, deed) for call in OF_DEEDS]:
            kept = repr(call(handed))
            spoil(call(handed))
            self.assertEqual(repr(call(handed)), kept)


def spoil(told):
    """Change all lists within what is told."""
    if isinstance(told, (list, tuple)):
        for inner in told:
            spoil(inner)
    if isinstance(told, list):
        told.insert(0, "more")
        told.reverse()


if __name__ == "__main__":
    unittest.main()
