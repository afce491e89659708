"""The list of calls and the list of answers."""

import copy
import itertools
import random
import unittest

from kindplans.texts import UnknownCall, answers
from tests.helper import (
    ACTS, ENORMOUS, FACTS, NOTHING, PLAN, PRINT, TASK, TRAVEL, WHOLE_HOUSE, Reference, act, after, as_bytes, ask, cut,
    fact, joined, lines, read, text_of_chance,
)

NINE = [read(TRAVEL), PRINT, FACTS, ACTS, TASK, act(2), PLAN, fact(1), after(0, 2)]
NINE_ANSWERS = [
    [0, 5, 3], ask(read(TRAVEL), PRINT)[1], [5, 0, 0, 1, 2, 1, 0, 1, 2, 1, 2, 2, 1, 0, 2, 1, 2],
    [3, 0, 0, 1, 2, 1, 0, 1, 2, 1, 2], [5, 3, 4], [12, 2, 17, 4, 2, *as_bytes("go ann shop\n")],
    [19, *as_bytes("wait\ngo ann shop\n")], [2, *as_bytes("at ann home\n")], [1, 4],
]


class Unchanging(list):
    """A list that fails as soon as one tries to change it, be it for a while."""

    def refuse(self, *wanted, **named):
        raise AssertionError("the list that was handed in is changed")

    append = extend = insert = pop = remove = clear = sort = reverse = refuse
    __setitem__ = __delitem__ = __iadd__ = __imul__ = refuse


class Form(unittest.TestCase):
    def test_each_answer_stands_behind_its_count(self):
        self.assertEqual(answers([1]), [1, 0])
        self.assertEqual(answers([2]), [1, 0])
        self.assertEqual(answers([3]), [1, 0])
        self.assertEqual(answers([4]), [3, 0, 0, 0])
        self.assertEqual(answers([0, 0]), [3, -1, 1, 9])
        self.assertEqual(answers([0, 6] + as_bytes("fact a")), [3, 0, 1, 0])
        self.assertEqual(answers([0, 6] + as_bytes("fact A")), [3, -1, 1, 3])
        self.assertEqual(answers([5, 0]), [1, -2])
        self.assertEqual(answers([6]), [1, 0])
        self.assertEqual(answers([7, 0]), [1, -2])
        self.assertEqual(answers([8, 0]), [2, 1, 0])
        self.assertEqual(answers([8, 1, 0]), [1, -5])

    def test_each_answer_behind_a_read_stands_behind_its_count(self):
        start = read("fact a\nact u 3\nbrings a\nwant a")
        for calls, wanted in (
            ([5, 0], [7, 3, 0, 0, 1, 0, 117, 10]), ([5, 1], [1, -2]), ([6], [3, 3, 117, 10]), ([7, 0], [3, 0, 97, 10]),
            ([7, 1], [1, -2]), ([8, 0], [2, 0, 0]), ([8, 1, 0], [2, 1, 1]), ([8, 2, 0, 0], [2, 1, 1]),
            ([8, 2, 0, 1], [1, -5]),
        ):
            self.assertEqual(answers(start + calls), [3, 0, 1, 1] + wanted)

    def test_a_refused_plan_stands_behind_its_count(self):
        self.assertEqual(answers(read("fact a\nwant a") + [6, 6]), [3, 0, 1, 0, 1, -6, 1, -6])

    def test_handed_numbers_are_no_calls(self):
        for which in range(9):
            self.assertEqual(ask(act(which), fact(which), after(which), after(*[which] * 20), TASK),
                             [[-2], [-2], [-5], [-5], [0, 0, 0]])

    def test_no_other_call(self):
        for call in (9, 10, ENORMOUS):
            self.assertRaises(UnknownCall, answers, [4, call])

    def test_several_calls_in_one_list(self):
        calls = [4, 0, 6] + as_bytes("fact a") + [1, 2, 3, 4, 0, 1, 120, 2]
        wanted = [3, 0, 0, 0, 3, 0, 1, 0, 8, 7] + as_bytes("fact a\n")
        wanted = wanted + [3, 1, 0, 0] + [1, 0] + [3, 1, 0, 0] + [3, -1, 1, 2] + [3, 1, 0, 0]
        self.assertEqual(answers(calls), wanted)

    def test_bytes_of_a_text_are_no_calls(self):
        self.assertEqual(ask(read([0, 1, 2, 3, 4]), TASK, read([1]), PRINT),
                         [[-1, 1, 1], [0, 0, 0], [-1, 1, 1], [0]])

    def test_calls_in_any_order_and_again(self):
        found = ask(TASK, FACTS, read(TRAVEL), ACTS, ACTS, PRINT, FACTS, TASK, PRINT)
        self.assertEqual(found[:2], [[0, 0, 0], [0]])
        self.assertEqual(found[3], found[4])
        self.assertEqual(found[5], found[8])
        self.assertEqual(found[6:8], ask(read(TRAVEL), FACTS, TASK)[1:])

    def test_60_calls(self):
        found = ask(*[read(TRAVEL), PRINT, FACTS, ACTS, TASK, read("x")] * 10)
        self.assertEqual(found, found[:6] * 10)
        self.assertEqual(len(found), 60)

    def test_a_list_as_long_as_may_be(self):
        row = as_bytes(TRAVEL)
        row = row + [10] * (1500 - len(row))
        rest = 30000 - len(joined([read(row)] * 19 + WHOLE_HOUSE)) - 2
        calls = joined([read(row)] * 19 + [read(row[:rest])] + WHOLE_HOUSE)
        self.assertEqual(len(calls), 30000)
        self.assertEqual(cut(answers(calls))[20:], ask(read(TRAVEL), *WHOLE_HOUSE)[1:])

    def test_only_whole_numbers_are_answered(self):
        found = answers(joined([after(), PLAN, *NINE, read("x"), after(0), act(3), fact(5), after(3)]))
        self.assertEqual({kind.__name__ for kind in map(type, found)}, {"int"})
        self.assertIs(type(found), list)


class AllNine(unittest.TestCase):
    def test_one_behind_another(self):
        self.assertEqual(ask(*NINE), NINE_ANSWERS)

    def test_in_any_order_behind_the_read(self):
        chance = random.Random(11)
        for turn in range(200):
            order = chance.sample(range(1, 9), 8)
            self.assertEqual(ask(NINE[0], *[NINE[number] for number in order])[1:],
                             [NINE_ANSWERS[number] for number in order])

    def test_before_the_first_read_too(self):
        before = [PRINT, FACTS, ACTS, TASK, act(0), PLAN, fact(0), after(), after(0), act(ENORMOUS), fact(ENORMOUS)]
        nothing = [[0], [0], [0], [0, 0, 0], [-2], [0], [-2], [1, 0], [-5], [-2], [-2]]
        self.assertEqual(ask(*before, *NINE), nothing + NINE_ANSWERS)
        for call, wanted in zip(before, nothing):
            self.assertEqual(ask(call), [wanted])
            self.assertEqual(ask(read("fact A"), call), [[-1, 1, 3], wanted])

    def test_behind_a_read_that_is_refused(self):
        refused = ["", "fact a\nnow a\nact u 1\nx", TRAVEL + "now rain now", TRAVEL + "act go 1", TRAVEL + "fact x\t",
                   TRAVEL + lines("thing a place", "thing b place"), TRAVEL.replace("now at ann home", "now rain home")]
        for text in refused:
            found = ask(NINE[0], read(text), *NINE[1:], read(text), *NINE[1:])
            self.assertEqual((found[1][0], found[10][0]), (-1, -1), text)
            self.assertEqual(found[:1] + found[2:10], NINE_ANSWERS)
            self.assertEqual(found[:1] + found[11:], NINE_ANSWERS)

    def test_behind_another_text(self):
        other = lines("kind k", "thing t k", "fact f k", "act a 7 x k", "needs f x", "takes f x", "now f t")
        calls = [act(0), act(1), PLAN, fact(0), fact(1), after(0), after(0, 0)]
        wanted = [[7, 1, 0, 0, 1, *as_bytes("a t\n")], [-2], [0], [1, *as_bytes("f t\n")], [-2], [1, 0], [-5]]
        found = ask(*NINE, read(other), *calls, *NINE)
        self.assertEqual(found, NINE_ANSWERS + [[0, 1, 1]] + wanted + NINE_ANSWERS)

    def test_refusals_between(self):
        found = ask(NINE[0], *itertools.chain(*[[call, act(3), fact(5), after(2)] for call in NINE[1:]]))
        self.assertEqual(found[:1] + found[1::4], NINE_ANSWERS)
        self.assertEqual([found[number::4] for number in (2, 3, 4)], [[[-2]] * 8, [[-2]] * 8, [[-5]] * 8])

    def test_60_calls_with_6_plans(self):
        found = ask(*NINE * 6, *[after(*[0] * 20)] * 6)
        self.assertEqual(found, NINE_ANSWERS * 6 + [[0, 2]] * 6)
        self.assertEqual(len(found), 60)

    def test_several_texts_of_chance_in_one_list(self):
        chance = random.Random(12)
        for turn in range(60):
            calls, wanted = [], []
            for text in [text_of_chance(chance, 9) for time in range(6)]:
                reference = Reference(text)
                row = chance.choices(range(13), k=chance.randint(0, 4))
                calls += [read(text), PLAN, act(3), fact(2), read("fact"), after(*row), TASK]
                wanted += [
                    [0, len(reference.facts), len(reference.acts)], reference.plan_answer(), reference.act_answer(3),
                    reference.fact_answer(2), [-1, 1, 2], reference.after_answer(row),
                    [len(reference.facts), reference.number(reference.now), reference.number(reference.want)],
                ]
            self.assertEqual(ask(*calls), wanted)


class Kept(unittest.TestCase):
    CALLS = joined([PRINT, PLAN, *NINE, read("x"), *NINE[1:], act(3), fact(5), after(0, 3), after(2)])

    def test_the_list_handed_in_is_the_same_afterwards(self):
        calls = list(self.CALLS)
        before = copy.deepcopy(calls)
        answers(calls)
        self.assertEqual(calls, before)

    def test_the_list_handed_in_is_not_changed_for_a_while_either(self):
        self.assertEqual(answers(Unchanging(self.CALLS)), answers(self.CALLS))

    def test_the_same_list_twice(self):
        self.assertEqual(answers(self.CALLS), answers(self.CALLS))

    def test_nothing_is_kept_from_one_time_to_the_next(self):
        ask(*NINE)
        self.assertEqual(ask(*WHOLE_HOUSE), NOTHING)
        ask(read("kind k\nx"))
        self.assertEqual(ask(read("kind k\nfact a")), [[0, 1, 0]])

    def test_what_is_answered_is_not_kept(self):
        first = answers(self.CALLS)
        wanted = list(first)
        first.clear()
        self.assertEqual(answers(self.CALLS), wanted)


if __name__ == "__main__":
    unittest.main()
