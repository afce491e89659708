"""The call plan: the cheapest plan, and of several the first."""

import itertools
import random
import unittest

from tests.helper import (
    ACTS, PLAN, TASK, TRAVEL, Reference, act, after, as_bytes, ask, good_answers, lines, read, text_of_chance,
)

ABC = ["fact a", "fact b", "fact c"]

# Two counters of four bits each, t and u: 8 facts. Places that nothing speaks of make 12 acts of it.
COUNTERS = [
    "kind k", "thing t k", "thing u k", "fact b0 k", "fact b1 k", "fact b2 k", "fact b3 k",
    "act i0 COST x k y k", "bars b0 x", "brings b0 x",
    "act i1 COST x k", "needs b0 x", "bars b1 x", "brings b1 x", "takes b0 x",
    "act i2 COST x k", "needs b0 x", "needs b1 x", "bars b2 x", "brings b2 x", "takes b0 x", "takes b1 x",
    "act i3 COST x k y k", "needs b0 x", "needs b1 x", "needs b2 x", "bars b3 x", "brings b3 x", "takes b0 x",
    "takes b1 x", "takes b2 x",
]
WANT_ALL = [f"want b{bit} {thing}" for bit in range(4) for thing in "tu"]


def counters(*costs):
    text = lines(*COUNTERS)
    for cost in costs:
        text = text.replace("COST", str(cost), 1)
    return text


def numbers_of(text, numbers):
    """The acts of a plan that is answered, each by its number, read off its words."""
    count = good_answers(text, ACTS)[0][0]
    names = {bytes(found[5:]): which for which, found in
             enumerate(good_answers(text, *[act(which) for which in range(count)]))}
    return [names[row] for row in bytes(numbers[1:]).splitlines(keepends=True)]


class Plan(unittest.TestCase):
    def check(self, rows, cost, *acts):
        found = good_answers(lines(*ABC, *rows), PLAN)
        self.assertEqual(found, [[cost, *as_bytes(lines(*acts))]], rows)


class Empty(Plan):
    def test_before_the_first_read(self):
        self.assertEqual(ask(PLAN), [[0]])

    def test_nothing_is_wanted(self):
        self.check([], 0)
        self.check(["now a", "act u 1", "takes a"], 0)

    def test_all_that_is_wanted_is_so_at_first(self):
        self.check(["now a", "want a"], 0)
        self.check(["now c", "now a", "want a", "act u 1", "act v 2", "brings a"], 0)
        self.check(["now c", "now a", "want a", "want c", "want a"], 0)


class NoPlan(Plan):
    def test_no_act(self):
        self.check(["want a"], -6)
        self.check(["now b", "now c", "want a", "want b"], -6)
        self.check(["kind k", "act u 1 x k", "brings a", "want a"], -6)

    def test_no_act_brings_it(self):
        self.check(["act u 1", "brings b", "act v 1", "takes a", "want a"], -6)

    def test_no_act_that_brings_it_may_be_done(self):
        self.check(["act u 1", "needs b", "brings a", "want a"], -6)
        self.check(["act u 1", "bars c", "brings a", "now c", "want a"], -6)
        self.check(["act u 1", "needs b", "bars b", "brings a", "now b", "want a"], -6)
        self.check(["act u 1", "needs a", "brings a", "want a"], -6)

    def test_not_both_at_once(self):
        self.check(["act u 1", "brings a", "takes b", "act v 1", "brings b", "takes a", "want a", "want b"], -6)

    def test_acts_that_need_one_another(self):
        self.check(["act u 1", "needs a", "brings b", "act v 1", "needs b", "brings a", "want a"], -6)

    def test_what_is_taken_does_not_come_back(self):
        self.check(["act u 1", "needs a", "brings b", "takes a", "now a", "want a", "want b"], -6)

    def test_a_refusal_leaves_all_as_it_was(self):
        text = lines(*ABC, "act u 1", "needs b", "brings a", "want a")
        self.assertEqual(good_answers(text, PLAN, TASK, PLAN, after()), [[-6], [3, 0, 1], [-6], [0, 0]])


class Some(Plan):
    def test_one_act(self):
        self.check(["act u 1", "brings a", "want a"], 1, "u")
        self.check(["act u 999", "brings a", "want a"], 999, "u")

    def test_numbers_and_bytes(self):
        self.assertEqual(good_answers("fact a\nact go 12\nbrings a\nwant a", PLAN), [[12, 103, 111, 10]])

    def test_what_is_needed_first(self):
        self.check(["act u 4", "needs b", "brings a", "act v 3", "brings b", "want a"], 7, "v", "u")

    def test_what_bars_is_taken_first(self):
        self.check(["act u 4", "bars b", "brings a", "act v 3", "takes b", "now b", "want a"], 7, "v", "u")

    def test_what_is_taken_on_the_way_is_brought_again(self):
        self.check(["act u 4", "brings a", "takes b", "act v 3", "brings b", "now b", "want a", "want b"], 7, "u", "v")

    def test_brought_and_taken_it_is_so(self):
        self.check(["act u 4", "takes a", "brings a", "want a"], 4, "u")

    def test_an_act_more_than_once(self):
        self.check(["act u 2", "brings a", "act v 3", "needs a", "takes a", "brings b", "want a", "want b"], 7,
                   "u", "v", "u")

    def test_things_are_told_by_their_names(self):
        rows = ["kind k", "thing home k", "thing shop k", "thing wood k", "fact d k", "act go 5 x k y k", "needs d x",
                "brings d y", "takes d x", "now d home", "want d wood"]
        self.check(rows, 5, "go home wood")

    def test_all_that_is_wanted_with_each_thing(self):
        rows = ["kind k", "thing t k", "thing u k", "fact d k", "act do 5 x k", "brings d x", "want d u", "want d t"]
        self.check(rows, 10, "do t", "do u")

    def test_what_is_not_wanted_may_be_so_or_not(self):
        self.check(["act u 4", "brings a", "brings b", "takes c", "now c", "want a"], 4, "u")

    def test_the_whole_text(self):
        self.assertEqual(good_answers(TRAVEL, PLAN), [[19, *as_bytes("wait\ngo ann shop\n")]])


class Cheapest(Plan):
    def test_a_cheaper_way_of_more_acts(self):
        rows = ["act u 9", "brings a", "act v 4", "brings b", "act w 4", "needs b", "brings a", "want a"]
        self.check(rows, 8, "v", "w")
        self.check(["act v 4", "brings b", "act w 4", "needs b", "brings a", "act u 9", "brings a", "want a"], 8,
                   "v", "w")

    def test_a_cheaper_way_of_fewer_acts(self):
        rows = ["act v 4", "brings b", "act w 4", "needs b", "brings a", "act u 7", "brings a", "want a"]
        self.check(rows, 7, "u")

    def test_the_cheaper_of_two_acts(self):
        self.check(["act u 3", "brings a", "act v 2", "brings a", "want a"], 2, "v")
        self.check(["act u 2", "brings a", "act v 3", "brings a", "want a"], 2, "u")
        self.check(["act u 1", "brings a", "act v 999", "brings a", "want a"], 1, "u")
        self.check(["act u 999", "brings a", "act v 998", "brings a", "want a"], 998, "v")

    def test_the_cheap_first_act_leads_the_dear_way(self):
        rows = ["act u 1", "bars c", "brings b", "act v 999", "needs b", "brings a", "act w 500", "brings c",
                "act z 400", "needs c", "brings a", "want a"]
        self.check(rows, 900, "w", "z")

    def test_three_cheap_acts_and_one_dear(self):
        rows = ["kind k", "thing p k", "thing q k", "thing r k", "fact d k", "act go 333 x k", "brings d x",
                "act all 999", "brings d p", "brings d q", "brings d r", "want d p", "want d q", "want d r"]
        self.check(rows, 999, "go p", "go q", "go r")
        self.check([row.replace("999", "998") for row in rows], 998, "all")
        self.check([row.replace("333", "334") for row in rows], 999, "all")

    def test_a_plan_that_costs_much(self):
        text = counters(999, 999, 999, 999) + lines(*WANT_ALL)
        self.assertEqual(good_answers(text, PLAN)[0][0], 30 * 999)

    def test_counters_by_steps(self):
        text = counters(1, 1, 1, 1) + lines("want b3 u", "want b0 u")
        rows = ["i0 u t", "i1 u", "i0 u t", "i2 u", "i0 u t", "i1 u", "i0 u t", "i3 u t", "i0 u t"]
        self.assertEqual(good_answers(text, PLAN), [[9, *as_bytes(lines(*rows))]])


class First(Plan):
    """Several cheapest plans: the lower act at the first place at which they differ."""

    def test_two_acts_that_do_the_same(self):
        self.check(["act u 3", "brings a", "act v 3", "brings a", "want a"], 3, "u")
        self.check(["act v 3", "brings a", "act u 3", "brings a", "want a"], 3, "v")

    def test_two_orders(self):
        self.check(["act u 3", "brings a", "act v 5", "brings b", "want a", "want b"], 8, "u", "v")
        self.check(["act v 5", "brings b", "act u 3", "brings a", "want a", "want b"], 8, "v", "u")

    def test_the_lower_act_comes_first_though_another_is_cheaper(self):
        rows = ["act u 9", "brings a", "act v 1", "brings b", "act w 5", "brings c", "want a", "want b", "want c"]
        self.check(rows, 15, "u", "v", "w")

    def test_they_differ_at_the_second_place(self):
        rows = ["act u 2", "needs c", "brings a", "act v 2", "needs c", "brings a", "act w 2", "brings c", "want a"]
        self.check(rows, 4, "w", "u")

    def test_the_first_place_counts_more_than_the_second(self):
        rows = ["act u 2", "needs c", "brings a", "act v 2", "bars c", "brings b", "act w 2", "bars b", "brings c",
                "act z 2", "needs b", "brings a", "want a"]
        self.check(rows, 4, "v", "z")

    def test_one_act_or_two_of_the_same_cost(self):
        rows = ["act v 2", "brings b", "act w 2", "needs b", "brings a", "act u 4", "brings a", "want a"]
        self.check(rows, 4, "v", "w")
        rows = ["act u 4", "brings a", "act v 2", "brings b", "act w 2", "needs b", "brings a", "want a"]
        self.check(rows, 4, "u")

    def test_the_lower_act_is_one_of_all_acts_not_of_names(self):
        rows = ["kind k", "thing z k", "thing y k", "fact d k", "act go 5 x k", "brings d x", "brings a", "want a"]
        self.check(rows, 5, "go z")

    def test_two_things_in_places(self):
        rows = ["kind k", "thing t k", "thing u k", "act go 5 x k y k", "brings a", "want a"]
        self.check(rows, 5, "go t t")

    def test_no_useless_act_though_it_is_lower(self):
        self.check(["act u 1", "act v 1", "brings a", "want a"], 1, "v")

    def test_two_counters_at_once(self):
        text = counters(1, 1, 1, 1) + lines("want b1 t", "want b1 u")
        self.assertEqual(good_answers(text, PLAN),
                         [[4, *as_bytes(lines("i0 t t", "i0 u t", "i1 t", "i1 u"))]])


class Big(unittest.TestCase):
    def check(self, text):
        self.assertEqual(good_answers(text, PLAN), [Reference(text).plan_answer()], text)

    def test_8_facts_and_12_acts(self):
        self.assertEqual(ask(read(counters(1, 1, 1, 1))), [[0, 8, 12]])
        for costs in ((1, 1, 1, 1), (999, 999, 999, 999), (1, 2, 3, 4), (999, 1, 500, 2), (3, 2, 2, 1)):
            self.check(counters(*costs) + lines(*WANT_ALL))
            for want in (1, 2, 3, 7):
                self.check(counters(*costs) + lines(*WANT_ALL[::want]))

    def test_no_plan_with_8_facts_and_12_acts(self):
        text = counters(1, 2, 3, 4).replace("brings b3 x\n", "") + lines(*WANT_ALL)
        self.assertEqual(good_answers(text, PLAN), [[-6]])

    def test_a_plan_asked_6_times(self):
        text = counters(7, 8, 9, 10) + lines(*WANT_ALL)
        found = good_answers(text, PLAN, PLAN, TASK, PLAN, after(0), PLAN, PLAN, PLAN)
        wanted = Reference(text).plan_answer()
        self.assertEqual([found[number] for number in (0, 1, 3, 5, 6, 7)], [wanted] * 6)


class OfChance(unittest.TestCase):
    def test_plans_of_many_texts(self):
        chance = random.Random(8)
        seen = {"none": 0, "empty": 0, "some": 0, "several": 0}
        for turn in range(2000):
            text = text_of_chance(chance, chance.choice((1, 2, 5, 999)))
            found = good_answers(text, PLAN)[0]
            self.assertEqual(found, Reference(text).plan_answer(), text)
            count = bytes(found[1:]).count(b"\n")
            seen["none" if found == [-6] else ("empty", "some", "several")[min(count, 2)]] += 1
        self.assertGreater(min(seen.values()), 50, seen)

    def test_a_plan_does_what_after_says(self):
        chance = random.Random(9)
        for turn in range(300):
            text = text_of_chance(chance, 9)
            found = good_answers(text, PLAN)[0]
            if found != [-6]:
                acts = numbers_of(text, found)
                told = good_answers(text, after(*acts[:20]), *[act(which) for which in acts])
                self.assertEqual(told[0][0], 1, text)
                self.assertEqual(sum(numbers[0] for numbers in told[1:]), found[0], text)

    def test_no_row_of_acts_is_cheaper_or_as_cheap_and_lower(self):
        """Every row of up to three acts is tried, each by the call after."""
        chance = random.Random(10)
        for turn in range(150):
            text = text_of_chance(chance, 3)
            count = min(good_answers(text, ACTS)[0][0], 4)
            found = good_answers(text, PLAN)[0]
            plan = None if found == [-6] else numbers_of(text, found)
            costs = [numbers[0] for numbers in good_answers(text, *[act(which) for which in range(count)])]
            rows = [row for length in range(4) for row in itertools.product(range(count), repeat=length)]
            for start in range(0, len(rows), 50):
                part = rows[start:start + 50]
                for row, numbers in zip(part, good_answers(text, *[after(*row) for row in part])):
                    if numbers[0] == 1:
                        self.assertIsNotNone(plan, text)
                        self.assertLessEqual((found[0], plan), (sum(costs[which] for which in row), list(row)), text)


if __name__ == "__main__":
    unittest.main()
