"""Points [9], [10] and [11]: stages, turns, and papers that show that none take fewer."""

import unittest

from queuemill.errors import BadDeed, BadPaper, BadStages, MillError
from queuemill.programs import layers
from queuemill.stages import bound, paper, stages, turns
from tests.chance import deed_of
from tests.helpers import name, nots, num, sum_of
from tests.oracles import all_stages, are_least, are_right, best_stages, is_paper, takers, turns_of

ONE = num(1)
GET = ("get", ONE)
# 0 num, 1 get, 2 num, 3 get, 4 add, 5 say
TWO_GETS = ("say", ("add", GET, GET))
# 0 num, 1 not, 2 num, 3 not, 4 add, 5 say
TWO_NOTS = ("say", ("add", ("not", ONE), ("not", ONE)))
# 0 num, 1 get, 2 name, 3 num, 4 get, 5 not, 6 times, 7 add, 8 say
UNEVEN = ("say", ("add", GET, ("times", name(0), ("not", GET))))


def nest(word, many):
    """A part of so many words, each within the one before, and a num."""
    part = ONE
    for _ in range(many):
        part = (word, part)
    return part


def right(deed, some):
    """Whether the program takes stages as right."""
    try:
        turns(deed, some)
    except BadStages:
        return False
    return True


def is_taken(deed, shown):
    """Whether the program takes a paper as one."""
    try:
        bound(deed, shown)
    except BadPaper:
        return False
    return True


class RightStages(unittest.TestCase):

    def test_numbers_from_0_to_1000(self):
        for some in ([0, 1], [0, 1000], [999, 1000]):
            self.assertTrue(right(("say", ONE), some), some)
        for some in ([-1, 1], [-1, 0], [0, 1001], [1000, 1001], [-1, 1001], [0, 10 ** 30]):
            self.assertFalse(right(("say", ONE), some), some)

    def test_one_for_each_part(self):
        for some in ([], [0], [1], [0, 1, 2], [0, 0, 1]):
            self.assertFalse(right(("say", ONE), some), some)
        self.assertFalse(right(TWO_GETS, [0, 1, 0, 1, 2]))
        self.assertFalse(right(TWO_GETS, [0, 1, 0, 1, 2, 3, 4]))

    def test_what_is_no_number(self):
        for some in ([False, 1], [0, True], [False, True], ["0", 1], [0, None], [[0], 1], [0, (1,)]):
            self.assertFalse(right(("say", ONE), some), some)

    def test_what_is_no_list(self):
        for some in ((0, 1), "01", 5):
            self.assertFalse(right(("say", ONE), some), some)

    def test_each_is_greater_than_those_within(self):
        for some in ([0, 0], [1, 0], [5, 5], [1000, 1000], [1000, 0]):
            self.assertFalse(right(("say", ONE), some), some)
        deed = ("put", ONE, ("not", ONE))
        self.assertTrue(right(deed, [0, 0, 1, 2]))
        self.assertTrue(right(deed, [1, 0, 1, 2]))
        for some in ([2, 0, 1, 2], [0, 1, 1, 2], [0, 2, 1, 3], [0, 0, 2, 2], [3, 0, 1, 2]):
            self.assertFalse(right(deed, some), some)

    def test_a_part_that_is_not_less_than_the_one_around_it_anywhere(self):
        for part, taker in enumerate(takers(UNEVEN)):
            some = [0, 1, 2, 0, 1, 2, 3, 4, 5]
            some[part] = some[taker]
            self.assertFalse(right(UNEVEN, some), some)

    def test_loud_parts_never_fall(self):
        self.assertTrue(right(TWO_GETS, [0, 1, 0, 1, 2, 3]))
        self.assertTrue(right(TWO_GETS, [0, 1, 0, 2, 3, 4]))
        self.assertFalse(right(TWO_GETS, [0, 2, 0, 1, 3, 4]))
        self.assertFalse(right(TWO_GETS, [4, 6, 0, 5, 7, 8]))

    def test_what_is_not_loud_may_fall(self):
        self.assertTrue(right(TWO_NOTS, [0, 2, 0, 1, 3, 4]))
        self.assertTrue(right(("say", ("add", GET, ("not", ONE))), [0, 2, 0, 1, 3, 4]))
        self.assertTrue(right(("say", ("add", ("not", ONE), GET)), [0, 2, 0, 1, 3, 4]))

    def test_which_are_loud(self):
        for word in ("add", "take", "times", "over", "rest", "less", "same"):
            deed = ("say", ("add", (word, ONE, ONE), GET))
            self.assertEqual(right(deed, [0, 0, 3, 0, 1, 4, 5]), word not in ("over", "rest"), word)
        self.assertFalse(right(("say", ("add", ("call", 0, ()), GET)), [2, 0, 1, 3, 4]))
        self.assertFalse(right(("say", ("add", GET, ("call", 0, ()))), [0, 1, 0, 2, 3]))
        self.assertTrue(right(("say", ("add", ONE, GET)), [2, 0, 1, 3, 4]))
        self.assertTrue(right(("say", ("add", name(1), GET)), [2, 0, 1, 3, 4]))

    def test_loud_ones_that_are_not_side_by_side(self):
        # 0 num, 1 get, 2 num, 3 num, 4 add, 5 num, 6 get, 7 add, 8 add, 9 say
        deed = ("say", ("add", GET, ("add", ("add", ONE, ONE), GET)))
        self.assertFalse(right(deed, [0, 2, 0, 0, 1, 0, 1, 3, 4, 5]))
        self.assertTrue(right(deed, [0, 2, 0, 0, 1, 0, 2, 3, 4, 5]))

    def test_as_the_document_says_for_many(self):
        for seed in range(60):
            deed = deed_of(seed, 5, 0.5)
            for some in all_stages(deed, 6)[::7]:
                for place in range(len(some)):
                    for change in (-1, 1):
                        other = list(some)
                        other[place] += change
                        self.assertEqual(right(deed, other), are_right(deed, other), (deed, other))


class Turns(unittest.TestCase):

    def test_by_hand(self):
        self.assertEqual(turns(("say", ONE), [0, 1]), 0)
        self.assertEqual(turns(("say", ONE), [3, 4]), 0)
        self.assertEqual(turns(("say", ONE), [0, 2]), 1)
        self.assertEqual(turns(("say", ONE), [0, 1000]), 999)
        self.assertEqual(turns(TWO_GETS, [0, 1, 0, 1, 2, 3]), 0)
        self.assertEqual(turns(TWO_GETS, [0, 1, 0, 2, 3, 4]), 2)
        self.assertEqual(turns(TWO_GETS, [0, 1, 1, 2, 3, 4]), 1)
        self.assertEqual(turns(UNEVEN, [0, 1, 2, 0, 1, 2, 3, 4, 5]), 2)
        self.assertEqual(turns(("put", ONE, ("not", ONE)), [0, 0, 1, 2]), 1)

    def test_of_many_parts(self):
        self.assertEqual(turns(("say", ("call", 3, (ONE, ONE, ONE, ONE))), [0, 1, 2, 3, 4, 6]), 3 + 2 + 1 + 0 + 1)
        self.assertEqual(turns(("say", nots(40)), list(range(0, 82, 2))), 40)

    def test_of_if_and_while_the_test_alone(self):
        body = (("say", nots(30)),)
        self.assertEqual(turns(("if", ONE, body, body), [0, 2]), 1)
        self.assertEqual(turns(("while", ("not", ONE), body), [0, 2, 4]), 2)


class Stages(unittest.TestCase):

    def test_by_hand(self):
        self.assertEqual(stages(("say", ONE)), [0, 1])
        self.assertEqual(stages(("put", ONE, ("not", ONE))), [1, 0, 1, 2])
        self.assertEqual(stages(TWO_GETS), [0, 1, 0, 1, 2, 3])
        self.assertEqual(stages(UNEVEN), [0, 1, 2, 0, 1, 2, 3, 4, 5])

    def test_least_number_for_each_part_of_the_fewest_turns(self):
        # The get stands no lower than the call; what goes to it does not wait, and so stands just below.
        deed = ("say", ("add", ("call", 1, (("not", ("not", ONE)),)), GET))
        self.assertEqual(stages(deed), [0, 1, 2, 3, 2, 3, 4, 5])
        # The first get waits for the nots of the second one, wherever it stands.
        deed = ("put", GET, ("not", ("not", ("not", GET))))
        self.assertEqual(stages(deed), [0, 1, 0, 1, 2, 3, 4, 5])
        self.assertEqual(turns(deed, stages(deed)), 3)

    def test_if_and_while(self):
        body = (("say", nots(30)),)
        self.assertEqual(stages(("if", ("not", ONE), body, body)), [0, 1, 2])
        self.assertEqual(stages(("while", ONE, body)), [0, 1])

    def test_against_all_stages_of_small_deeds(self):
        for size in range(1, 7):
            for seed in range(12):
                for loud in (0, 0.5, 1):
                    deed = deed_of(seed, size, loud)
                    fewest, least = best_stages(deed)
                    self.assertEqual(stages(deed), least, deed)
                    self.assertEqual(turns(deed, least), fewest, deed)
                    self.assertEqual(bound(deed, paper(deed)), fewest, deed)

    def test_forty_parts(self):
        for seed in range(20):
            for loud in (0, 0.2, 0.6, 1):
                self.hold_best(deed_of(seed, 40, loud))

    def hold_best(self, deed):
        """The told stages are right, no others take fewer turns, and none of those is less for any part."""
        told = stages(deed)
        shown = paper(deed)
        self.assertTrue(are_right(deed, told), deed)
        self.assertTrue(is_paper(deed, shown), deed)
        self.assertEqual(turns(deed, told), turns_of(deed, told), deed)
        self.assertEqual(sum(shown[0]) - len(shown[0]), turns_of(deed, told), deed)
        self.assertEqual(bound(deed, shown), turns_of(deed, told), deed)
        self.assertTrue(are_least(deed, told, shown), deed)

    def test_everything_within_one_another(self):
        deed = ("say", nest("get", 33))
        self.assertEqual(stages(deed), list(range(35)))
        self.assertEqual(turns(deed, stages(deed)), 0)
        self.hold_best(deed)
        self.assertEqual(stages(("do", nots(40))), list(range(41)))

    def test_everything_side_by_side(self):
        four = ("call", 1, (GET, GET, GET, GET))
        deed = ("do", ("call", 2, (four, four, four, four)))
        self.assertEqual(len(layers(deed)), 38)
        self.hold_best(deed)
        calls = ("do", ("call", 2, (("call", 1, (ONE,) * 4),) * 4))
        self.assertEqual(stages(calls), [0, 0, 0, 0, 1] * 4 + [2, 3])

    def test_sums_to_one_side(self):
        self.assertEqual(stages(("do", sum_of(20)))[-1], 20)
        self.hold_best(("do", sum_of(20)))

    def test_kinds_and_asked_again_after_a_change(self):
        deed = ("put", GET, ("over", GET, name(3)))
        first = stages(deed)
        self.assertIsInstance(first, list)
        kept = list(first)
        first[0] = 77
        first.append(78)
        self.assertEqual(stages(deed), kept)
        self.assertEqual(deed, ("put", ("get", num(1)), ("over", ("get", num(1)), ("name", 3))))

    def test_turns_change_nothing(self):
        some = [0, 1, 0, 1, 2, 3]
        self.assertEqual([turns(TWO_GETS, some), turns(TWO_GETS, some)], [0, 0])
        self.assertEqual(some, [0, 1, 0, 1, 2, 3])


class Papers(unittest.TestCase):

    def test_by_hand(self):
        self.assertEqual(paper(("say", ONE)), ([1], []))
        self.assertEqual(bound(("say", ONE), ([1], [])), 0)
        self.assertEqual(bound(TWO_GETS, ([1, 1, 1, 1, 1], [0])), 0)
        # One goes from the former get to the latter, and not to the add.
        self.assertEqual(bound(TWO_GETS, ([1, 0, 1, 2, 1], [1])), 0)
        self.assertEqual(bound(UNEVEN, ([1] * 8, [0])), 0)
        self.assertEqual(bound(UNEVEN, ([1, 0, 1, 1, 2, 2, 2, 1], [1])), 2)

    def test_numbers_that_are_none(self):
        self.assertFalse(is_taken(("say", ONE), ([True], [])))
        self.assertFalse(is_taken(("say", ONE), (["1"], [])))
        self.assertFalse(is_taken(TWO_GETS, ([1, 1, 1, 1, 1], [False])))
        self.assertFalse(is_taken(TWO_GETS, ([1, 0, 1, 2, 1], [True])))
        self.assertFalse(is_taken(TWO_GETS, ([1, 1, 1, 1, 1], [None])))

    def test_none_is_below_0(self):
        self.assertFalse(is_taken(TWO_GETS, ([1, 2, 1, 0, 1], [-1])))
        # What goes round by both gets is less than nothing here, though it is balanced.
        self.assertFalse(is_taken(TWO_GETS, ([1, -1, 1, 3, 1], [2])))

    def test_one_too_few_and_one_too_many(self):
        for shown in (([], []), ([1, 1], []), ([1], [0]), ([1], [1]), ([1, 0], [])):
            self.assertFalse(is_taken(("say", ONE), shown), shown)
        for shown in (([1, 1, 1, 1], [0]), ([1, 1, 1, 1, 1, 1], [0]), ([1, 1, 1, 1, 1, 0], [0]), ([1] * 5, []),
                      ([1] * 5, [0, 0]), ([1, 1, 1, 1], [1, 0]), ([1, 1, 1, 1, 1, 0], [])):
            self.assertFalse(is_taken(TWO_GETS, shown), shown)

    def test_what_is_no_tuple_of_two_lists(self):
        for shown in ((), ([1],), ([1], [], []), ((1,), []), ([1], ()), [[1], []]):
            self.assertFalse(is_taken(("say", ONE), shown), shown)

    def test_what_comes_in_is_what_goes_out_at_each_part(self):
        right_one = [1, 0, 1, 1, 2, 2, 2, 1]
        for part in range(8):
            for change in (-1, 1, 5):
                wrong = list(right_one)
                wrong[part] += change
                self.assertFalse(is_taken(UNEVEN, (wrong, [1])), wrong)
        for between in (0, 2):
            self.assertFalse(is_taken(UNEVEN, (right_one, [between])), between)

    def test_a_part_at_which_too_much_stays_though_all_comes_to_the_deed(self):
        self.assertFalse(is_taken(("say", ("not", ("not", ONE))), ([1, 2, 1], [])))
        self.assertFalse(is_taken(("say", ("not", ("not", ONE))), ([1, 0, 1], [])))
        self.assertFalse(is_taken(("say", ("not", ONE)), ([2, 2], [])))
        self.assertFalse(is_taken(("say", ONE), ([0], [])))

    def test_only_neighbours_among_the_loud_ones_are_linked(self):
        deed = ("do", ("call", 1, (GET, GET, GET)))
        # 0 num, 1 get, 2 num, 3 get, 4 num, 5 get, 6 call, 7 do: the loud ones are 1, 3, 5 and 6.
        self.assertTrue(is_taken(deed, ([1, 0, 1, 0, 1, 3, 1], [1, 2, 0])))
        self.assertTrue(is_taken(deed, ([1, 0, 1, 1, 1, 1, 1], [1, 1, 1])))
        self.assertFalse(is_taken(deed, ([1, 0, 1, 1, 1, 1, 1], [1, 1, 0])))
        self.assertFalse(is_taken(deed, ([1, 0, 1, 1, 1, 2, 1], [1, 0, 0])))

    def test_as_the_document_says_for_many(self):
        for seed in range(40):
            for size in (1, 3, 9, 25, 40):
                deed = deed_of(seed, size, 0.4)
                shown = paper(deed)
                self.assertTrue(is_paper(deed, shown), deed)
                self.assertTrue(is_taken(deed, shown), deed)
                plain = ([1] * len(shown[0]), [0] * len(shown[1]))
                self.assertEqual(bound(deed, plain), 0)
                for half in (0, 1):
                    for place in range(0, len(shown[half]), 5):
                        wrong = (list(shown[0]), list(shown[1]))
                        wrong[half][place] += 1
                        self.assertFalse(is_taken(deed, wrong), (deed, wrong))

    def test_no_stages_take_fewer_turns_than_any_bound(self):
        for seed in range(30):
            deed = deed_of(seed, 5, 0.6)
            shown = bound(deed, paper(deed))
            self.assertTrue(all(shown <= turns_of(deed, some) for some in all_stages(deed, 5)), deed)

    def test_lists_of_a_paper_without_loud_parts_or_with_one(self):
        self.assertEqual(paper(("say", ("add", ONE, ONE))), ([1, 1, 1], []))
        self.assertEqual(paper(("say", GET)), ([1, 1], []))
        self.assertEqual(len(paper(TWO_GETS)[1]), 1)

    def test_kinds_and_asked_again_after_a_change(self):
        first = paper(UNEVEN)
        self.assertIsInstance(first, tuple)
        kept = ([*first[0]], [*first[1]])
        first[0].append(5)
        first[1].clear()
        self.assertEqual(paper(UNEVEN), kept)
        shown = ([1, 0, 1, 1, 2, 2, 2, 1], [1])
        self.assertEqual([bound(UNEVEN, shown), bound(UNEVEN, shown)], [2, 2])
        self.assertEqual(shown, ([1, 0, 1, 1, 2, 2, 2, 1], [1]))


class Refusals(unittest.TestCase):

    def test_a_deed_is_asked_ahead_of_what_else_is_handed_in(self):
        for call in (lambda deed: turns(deed, [5]), lambda deed: bound(deed, ([], [5])), stages, paper,
                     lambda deed: turns(deed, [0, 1]), lambda deed: bound(deed, ([1], []))):
            with self.assertRaises(BadDeed) as caught:
                call(("say", ("num", 1000001)))
            self.assertEqual((caught.exception.at, caught.exception.why), (1, "number"))

    def test_refusals_are_mill_errors(self):
        for call, shown in ((turns, [1, 0]), (bound, ([5], []))):
            with self.assertRaises(MillError):
                call(("say", ONE), shown)


if __name__ == "__main__":
    unittest.main()
