"""The list of calls and the list of answers."""

import copy
import unittest

from kindplans.texts import answers
from tests.helper import (
    ACTS, FACTS, NOTHING, PRINT, TASK, TRAVEL, WHOLE_HOUSE, as_bytes, ask, cut, joined, read,
)


class Unchanging(list):
    """A list that fails as soon as one tries to change it, be it for a while."""

    def refuse(self, *wanted, **named):
        raise AssertionError("the list that was handed in is changed")

    append = extend = insert = pop = remove = clear = sort = reverse = refuse
    __setitem__ = __delitem__ = __iadd__ = __imul__ = refuse


class Form(unittest.TestCase):
    def test_each_answer_stands_behind_its_count(self):
        self.assertEqual(answers([1]), [1, 0])
        self.assertEqual(answers([2]), [1, 0])
        self.assertEqual(answers([3]), [1, 0])
        self.assertEqual(answers([4]), [3, 0, 0, 0])
        self.assertEqual(answers([0, 0]), [3, -1, 1, 9])
        self.assertEqual(answers([0, 6] + as_bytes("fact a")), [3, 0, 1, 0])
        self.assertEqual(answers([0, 6] + as_bytes("fact A")), [3, -1, 1, 3])

    def test_several_calls_in_one_list(self):
        calls = [4, 0, 6] + as_bytes("fact a") + [1, 2, 3, 4, 0, 1, 120, 2]
        wanted = [3, 0, 0, 0, 3, 0, 1, 0, 8, 7] + as_bytes("fact a\n")
        wanted = wanted + [3, 1, 0, 0] + [1, 0] + [3, 1, 0, 0] + [3, -1, 1, 2] + [3, 1, 0, 0]
        self.assertEqual(answers(calls), wanted)

    def test_bytes_of_a_text_are_no_calls(self):
        self.assertEqual(ask(read([0, 1, 2, 3, 4]), TASK, read([1]), PRINT),
                         [[-1, 1, 1], [0, 0, 0], [-1, 1, 1], [0]])

    def test_calls_in_any_order_and_again(self):
        found = ask(TASK, FACTS, read(TRAVEL), ACTS, ACTS, PRINT, FACTS, TASK, PRINT)
        self.assertEqual(found[:2], [[0, 0, 0], [0]])
        self.assertEqual(found[3], found[4])
        self.assertEqual(found[5], found[8])
        self.assertEqual(found[6:8], ask(read(TRAVEL), FACTS, TASK)[1:])

    def test_60_calls(self):
        found = ask(*[read(TRAVEL), PRINT, FACTS, ACTS, TASK, read("x")] * 10)
        self.assertEqual(found, found[:6] * 10)
        self.assertEqual(len(found), 60)

    def test_a_list_as_long_as_may_be(self):
        row = as_bytes(TRAVEL)
        row = row + [10] * (1500 - len(row))
        calls = joined([read(row)] * 19 + [read(row[:1456])] + [PRINT, FACTS, ACTS, TASK])
        self.assertEqual(len(calls), 30000)
        self.assertEqual(cut(answers(calls))[20:], ask(read(TRAVEL), *WHOLE_HOUSE)[1:])

    def test_only_whole_numbers_are_answered(self):
        found = answers(joined([read(TRAVEL), PRINT, FACTS, ACTS, TASK, read("x")]))
        self.assertEqual({kind.__name__ for kind in map(type, found)}, {"int"})
        self.assertIs(type(found), list)


class Kept(unittest.TestCase):
    CALLS = joined([PRINT, read(TRAVEL), PRINT, FACTS, read("x"), ACTS, TASK])

    def test_the_list_handed_in_is_the_same_afterwards(self):
        calls = list(self.CALLS)
        before = copy.deepcopy(calls)
        answers(calls)
        self.assertEqual(calls, before)

    def test_the_list_handed_in_is_not_changed_for_a_while_either(self):
        self.assertEqual(answers(Unchanging(self.CALLS)), answers(self.CALLS))

    def test_the_same_list_twice(self):
        self.assertEqual(answers(self.CALLS), answers(self.CALLS))

    def test_nothing_is_kept_from_one_time_to_the_next(self):
        ask(read(TRAVEL))
        self.assertEqual(ask(*WHOLE_HOUSE), NOTHING)
        ask(read("kind k\nx"))
        self.assertEqual(ask(read("kind k\nfact a")), [[0, 1, 0]])

    def test_what_is_answered_is_not_kept(self):
        first = answers(self.CALLS)
        wanted = list(first)
        first.clear()
        self.assertEqual(answers(self.CALLS), wanted)


if __name__ == "__main__":
    unittest.main()
