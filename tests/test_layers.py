"""Point [7]: layers of a deed, and which deeds can stand in no program."""

import unittest

from queuemill.programs import layers
from tests.helpers import deed_flaw, name, nested, nots, num, sum_of


def flaw(deed):
    return deed_flaw(layers, deed)


class Layers(unittest.TestCase):

    def test_kinds(self):
        told = layers(("say", num(1)))
        self.assertIsInstance(told, list)
        for row, within in told:
            self.assertIsInstance(row, tuple)
            self.assertIsInstance(within, tuple)

    def test_what_is_within_stands_ahead_and_the_deed_last(self):
        deed = ("say", ("add", ("take", num(1), name(2)), ("not", num(3))))
        self.assertEqual(layers(deed), [
            (("num", 1), ()), (("name", 2), ()), (("take",), (0, 1)), (("num", 3), ()), (("not",), (3,)),
            (("add",), (2, 4)), (("say",), (5,))])

    def test_rows_of_parts(self):
        for word in ("add", "take", "times", "over", "rest", "less", "same"):
            told = layers(("say", (word, num(1), num(2))))
            self.assertEqual(told[2], ((word,), (0, 1)))
        for word in ("not", "get"):
            self.assertEqual(layers(("say", (word, num(1))))[1], ((word,), (0,)))

    def test_row_of_a_call(self):
        self.assertEqual(layers(("do", ("call", 3, ()))), [(("call", 3, 0), ()), (("away",), (0,))])
        deed = ("do", ("call", 3, (num(5), ("call", 0, ()), ("get", num(6)))))
        self.assertEqual(layers(deed), [
            (("num", 5), ()), (("call", 0, 0), ()), (("num", 6), ()), (("get",), (2,)),
            (("call", 3, 3), (0, 1, 3)), (("away",), (4,))])

    def test_rows_of_deeds(self):
        one = num(1)
        self.assertEqual(layers(("set", 4, one)), [(one, ()), (("set", 4), (0,))])
        self.assertEqual(layers(("put", one, name(0))), [(one, ()), (name(0), ()), (("put",), (0, 1))])
        self.assertEqual(layers(("say", one)), [(one, ()), (("say",), (0,))])
        self.assertEqual(layers(("return", one)), [(one, ()), (("return",), (0,))])
        self.assertEqual(layers(("do", one)), [(one, ()), (("away",), (0,))])

    def test_of_if_and_while_the_test_alone(self):
        body = (("say", num(7)), ("do", num(8)))
        self.assertEqual(layers(("if", num(1), body, body)), [(num(1), ()), (("unless",), (0,))])
        self.assertEqual(layers(("while", ("not", num(1)), body)), [
            (num(1), ()), (("not",), (0,)), (("unless",), (1,))])

    def test_forty_parts(self):
        told = layers(("say", nots(40)))
        self.assertEqual(len(told), 41)
        self.assertEqual(told[40], (("say",), (39,)))

    def test_asked_again_after_a_change(self):
        deed = ("put", num(1), ("add", num(2), name(3)))
        first = layers(deed)
        kept = list(first)
        first.reverse()
        first.append("more")
        del first[0]
        self.assertEqual(layers(deed), kept)
        self.assertEqual(deed, ("put", num(1), ("add", num(2), name(3))))


class BadDeeds(unittest.TestCase):

    def test_what_is_no_deed(self):
        for wrong in (5, "say", "", (), ("say",), ("say", num(1), num(1)), num(1), ("sum", num(1)), ("call", 0, ())):
            self.assertEqual(flaw(wrong), (0, "shape"), wrong)

    def test_shape_within(self):
        self.assertEqual(flaw(("put", ("add", num(1), num(1)), ("say", num(1)))), (4, "shape"))
        self.assertEqual(flaw(("say", ("num", True))), (1, "shape"))
        self.assertEqual(flaw(("do", ("call", 1, 5))), (1, "shape"))
        self.assertEqual(flaw(("if", num(1), 5, ())), (0, "shape"))
        self.assertEqual(flaw(("set", "0", num(1))), (0, "shape"))

    def test_bodies_are_looked_at_too(self):
        self.assertEqual(flaw(("if", num(1), (("say", num(1)),), (5,))), (4, "shape"))
        self.assertEqual(flaw(("while", num(1), (("set", 8, num(1)),))), (2, "name"))

    def test_number(self):
        self.assertIsNone(flaw(("put", num(1000000), num(-1000000))))
        self.assertEqual(flaw(("put", num(1000001), num(0))), (1, "number"))
        self.assertEqual(flaw(("put", num(0), num(-1000001))), (2, "number"))

    def test_names_to_eight(self):
        self.assertIsNone(flaw(("set", 7, name(7))))
        self.assertIsNone(flaw(("set", 0, name(0))))
        self.assertEqual(flaw(("set", 8, num(1))), (0, "name"))
        self.assertEqual(flaw(("set", -1, num(1))), (0, "name"))
        self.assertEqual(flaw(("say", name(8))), (1, "name"))
        self.assertEqual(flaw(("say", name(-1))), (1, "name"))

    def test_eight_funs(self):
        self.assertIsNone(flaw(("do", ("call", 0, ()))))
        self.assertIsNone(flaw(("do", ("call", 7, ()))))
        self.assertEqual(flaw(("do", ("call", 8, ()))), (1, "fun"))
        self.assertEqual(flaw(("do", ("call", -1, ()))), (1, "fun"))

    def test_any_params(self):
        for fun in range(8):
            for many in range(5):
                self.assertIsNone(flaw(("do", ("call", fun, (num(1),) * many))), (fun, many))
            self.assertEqual(flaw(("do", ("call", fun, (num(1),) * 5))), (1, "args"), fun)
            self.assertEqual(flaw(("do", ("call", fun, (num(1),) * 30))), (1, "args"), fun)

    def test_fun_0_may_be_handed_worths(self):
        self.assertEqual(layers(("say", ("call", 0, (num(1),)))),
                         [(num(1), ()), (("call", 0, 1), (0,)), (("say",), (1,))])

    def test_two_counts_for_one_fun(self):
        one = ("call", 3, (num(1),))
        none = ("call", 3, ())
        self.assertEqual(layers(("say", ("add", none, one))), [
            (("call", 3, 0), ()), (num(1), ()), (("call", 3, 1), (1,)), (("add",), (0, 2)), (("say",), (3,))])
        for deed in (("do", ("add", one, none)), ("do", ("call", 3, (none,))), ("while", one, (("do", none),))):
            self.assertIsNone(flaw(deed), deed)

    def test_a_fault_behind_such_calls_is_told(self):
        self.assertEqual(flaw(("set", 2, ("call", 0, ("num", 10000000)))), (2, "shape"))
        self.assertEqual(flaw(("set", 2, ("add", ("call", 0, (num(1),)), num(1000001)))), (4, "number"))
        self.assertEqual(flaw(("say", ("add", ("call", 3, ()), ("call", 3, (name(8),))))), (4, "name"))

    def test_wide(self):
        self.assertEqual(flaw(("say", nots(41))), (41, "wide"))
        self.assertIsNone(flaw(("put", sum_of(10), nots(21))))
        self.assertEqual(flaw(("put", sum_of(10), nots(22))), (41, "wide"))

    def test_deep(self):
        self.assertIsNone(flaw(nested(8)[0]))
        self.assertEqual(flaw(nested(9)[0]), (16, "deep"))
        self.assertEqual(flaw(nested(8, (5,))[0]), (16, "deep"))

    def test_many(self):
        body = (("say", num(1)),) * 99
        self.assertIsNone(flaw(("if", num(1), body, ())))
        self.assertEqual(flaw(("if", num(1), body, (5,))), (200, "many"))
        self.assertEqual(flaw(("if", ("not", num(1)), body, ())), (200, "many"))

    def test_first_fault_is_told(self):
        self.assertEqual(flaw(("set", 8, ("num", 1000001))), (0, "name"))
        self.assertEqual(flaw(("put", num(1000001), 5)), (1, "number"))
        self.assertEqual(flaw(("do", ("call", 8, (num(1),) * 5))), (1, "fun"))

    def test_asked_again(self):
        deed = ("do", ("call", 0, (num(1),) * 5))
        self.assertEqual([flaw(deed), flaw(deed)], [(1, "args"), (1, "args")])


if __name__ == "__main__":
    unittest.main()
