"""The call after: what is so behind acts, one behind another."""

import random
import unittest

from tests.helper import ENORMOUS, PRINT, TASK, TRAVEL, Reference, after, ask, good_answers, lines, text_of_chance

ABC = ["fact a", "fact b", "fact c"]


class After(unittest.TestCase):
    def check(self, rows, acts, *numbers):
        self.assertEqual(good_answers(lines(*ABC, *rows), after(*acts)), [list(numbers)], (rows, acts))


class EmptyList(After):
    def test_before_the_first_read(self):
        self.assertEqual(ask(after()), [[1, 0]])

    def test_all_that_is_wanted_is_so_at_first(self):
        self.check([], [], 1, 0)
        self.check(["now a"], [], 1, 1)
        self.check(["now a", "now c", "want c"], [], 1, 5)
        self.check(["now a", "now c", "want c", "want a"], [], 1, 5)

    def test_something_wanted_is_not_so_at_first(self):
        self.check(["want a"], [], 0, 0)
        self.check(["now b", "want a"], [], 0, 2)
        self.check(["now b", "want a", "want b"], [], 0, 2)

    def test_all_8_facts(self):
        things = ["kind k", "thing t k", "thing u k", "fact d k k", "fact e k k"]
        claims = [f"{name} {one} {two}" for name in "de" for one in "tu" for two in "tu"]
        rows = things + ["now " + claim for claim in claims] + ["want " + claim for claim in claims]
        self.assertEqual(good_answers(lines(*rows), after()), [[1, 255]])
        for claim in claims:
            fewer = [row for row in rows if row != "now " + claim]
            self.assertEqual(good_answers(lines(*fewer), after()), [[0, 255 - (1 << claims.index(claim))]])


class Done(After):
    def test_an_act_that_needs_nothing(self):
        self.check(["act u 1"], [0], 1, 0)
        self.check(["act u 1", "brings b", "want b"], [0], 1, 2)
        self.check(["act u 1", "brings b", "want a"], [0], 0, 2)

    def test_what_is_needed_is_so(self):
        self.check(["act u 1", "needs a", "brings b", "now a"], [0], 1, 3)
        self.check(["act u 1", "needs a", "needs c", "brings b", "now a", "now c"], [0], 1, 7)

    def test_what_bars_is_not_so(self):
        self.check(["act u 1", "bars a", "bars c", "brings c", "now b"], [0], 1, 6)

    def test_what_is_needed_is_not_taken_by_itself(self):
        self.check(["act u 1", "needs a", "now a"], [0, 0, 0], 1, 1)

    def test_taken(self):
        self.check(["act u 1", "takes a", "takes c", "now a", "now b", "now c"], [0], 1, 2)

    def test_taken_though_it_is_not_so(self):
        self.check(["act u 1", "takes a"], [0], 1, 0)
        self.check(["act u 1", "takes a", "takes c", "now b", "now c"], [0, 0], 1, 2)

    def test_brought_though_it_is_so(self):
        self.check(["act u 1", "brings a", "now a"], [0, 0], 1, 1)

    def test_brought_and_taken_it_is_so(self):
        for rows in (["brings a", "takes a"], ["takes a", "brings a"]):
            self.check(["act u 1"] + rows + ["want a"], [0], 1, 1)
            self.check(["act u 1"] + rows + ["want a", "now a"], [0], 1, 1)
            self.check(["act u 1"] + rows + ["takes b", "want a", "now b"], [0], 1, 1)

    def test_brought_and_taken_by_one_thing_in_both_places(self):
        rows = ["kind k", "thing t k", "thing u k", "fact at k", "act go 1 x k y k", "needs at x", "brings at y",
                "takes at x", "now at t", "want at u"]
        found = good_answers(lines(*rows), after(0), after(1), after(0, 1), after(1, 3), after(1, 2), after(2))
        self.assertEqual(found, [[0, 1], [1, 2], [1, 2], [1, 2], [0, 1], [-5]])

    def test_needed_and_brought_by_the_act_before(self):
        rows = ["act u 1", "brings a", "act v 1", "needs a", "brings b", "takes a", "want b"]
        self.check(rows, [0, 1], 1, 2)
        self.check(rows, [0, 1, 0], 1, 3)

    def test_wanted_in_between_is_not_enough(self):
        rows = ["act u 1", "brings a", "act v 1", "takes a", "want a"]
        self.check(rows, [0], 1, 1)
        self.check(rows, [0, 1], 0, 0)
        self.check(rows, [0, 1, 0], 1, 1)

    def test_more_may_be_so_than_is_wanted(self):
        self.check(["act u 1", "brings a", "brings b", "brings c", "want b"], [0], 1, 7)

    def test_all_that_is_wanted_has_to_be_so(self):
        rows = ["act u 1", "brings a", "act v 1", "brings c", "want a", "want c"]
        self.check(rows, [0], 0, 1)
        self.check(rows, [1], 0, 4)
        self.check(rows, [1, 0], 1, 5)

    def test_20_acts(self):
        rows = ["act u 1", "needs a", "brings b", "takes a", "act v 1", "needs b", "brings a", "takes b", "now a",
                "want a"]
        self.check(rows, [0, 1] * 10, 1, 1)
        self.check(rows, [0, 1] * 9 + [0], 0, 2)
        self.check(rows, [0, 1] * 9 + [0, 0], -5)
        self.check(rows, [0, 1] * 9 + [0, 2], -5)

    def test_a_call_leaves_all_as_it_was(self):
        rows = ["act u 1", "brings a", "takes b", "now b", "want a"]
        found = good_answers(lines(*ABC, *rows), TASK, after(0), TASK, after(), after(0), after(1), TASK, PRINT)
        self.assertEqual(found[:7], [[3, 2, 1], [1, 1], [3, 2, 1], [0, 2], [1, 1], [-5], [3, 2, 1]])
        self.assertEqual(bytes(found[7][1:]).decode(), lines(*ABC, *rows))

    def test_the_whole_text(self):
        found = good_answers(TRAVEL, after(), after(0), after(0, 2), after(0, 1, 2), after(0, 0, 2), after(0, 2, 0))
        self.assertEqual(found, [[0, 3], [0, 2], [1, 4], [1, 4], [1, 4], [1, 4]])


class Refused(After):
    def test_needed_and_not_so(self):
        self.check(["act u 1", "needs a"], [0], -5)
        self.check(["act u 1", "needs a", "needs b", "now a"], [0], -5)
        self.check(["act u 1", "needs a", "needs b", "now b", "now c"], [0], -5)

    def test_barred_and_so(self):
        self.check(["act u 1", "bars a", "now a"], [0], -5)
        self.check(["act u 1", "bars a", "bars b", "now b"], [0], -5)
        self.check(["act u 1", "bars a", "brings b", "takes a", "now a"], [0], -5)

    def test_needed_and_barred(self):
        self.check(["act u 1", "needs a", "bars a", "now a"], [0], -5)
        self.check(["act u 1", "needs a", "bars a"], [0], -5)

    def test_what_an_act_brings_itself_is_not_so_when_it_comes(self):
        self.check(["act u 1", "needs a", "brings a"], [0], -5)

    def test_what_an_act_brings_bars_it_the_next_time(self):
        self.check(["act u 1", "bars a", "brings a"], [0], 1, 1)
        self.check(["act u 1", "bars a", "brings a"], [0, 0], -5)

    def test_what_an_act_takes_is_lacking_the_next_time(self):
        self.check(["act u 1", "needs a", "takes a", "now a"], [0], 1, 0)
        self.check(["act u 1", "needs a", "takes a", "now a"], [0, 0], -5)

    def test_the_first_or_the_last_can_not_be_done(self):
        rows = ["act u 1", "needs a", "act v 1", "brings a"]
        self.check(rows, [0, 1], -5)
        self.check(rows, [1, 0], 1, 1)
        self.check(["act u 1", "bars a", "act v 1", "brings a"], [0, 1, 0], -5)

    def test_none_such(self):
        for which in (2, 3, 12, 255, 256, 65536, 2147483648, ENORMOUS - 1, ENORMOUS):
            rows = ["act u 1", "act v 1"]
            self.check(rows, [which], -5)
            self.check(rows, [0, 1, which], -5)
            self.check(rows, [which, 1], -5)
        self.check(rows, [0, 1, 1], 1, 0)

    def test_none_such_without_acts(self):
        for which in (0, 1, ENORMOUS):
            self.assertEqual(ask(after(which)), [[-5]])
            self.check([], [which], -5)

    def test_refused_though_all_that_is_wanted_is_so(self):
        self.check(["act u 1", "needs a", "now b", "want b"], [0], -5)
        self.check(["now b", "want b"], [0], -5)

    def test_the_whole_text(self):
        found = good_answers(TRAVEL, after(2), after(0, 2, 2), after(0, 2, 1), after(3), after(0, 3), after(0))
        self.assertEqual(found, [[-5], [-5], [-5], [-5], [-5], [0, 2]])


class OfChance(unittest.TestCase):
    def test_many_rows_of_acts_of_many_texts(self):
        chance = random.Random(7)
        seen = {-5: 0, 0: 0, 1: 0}
        for turn in range(400):
            text = text_of_chance(chance, 999)
            reference = Reference(text)
            acts = range(len(reference.acts) + chance.randint(0, 1)) or [0]
            rows = [chance.choices(acts, k=chance.randint(0, 20)) for time in range(10)]
            rows += [chance.choices(acts, k=chance.randint(0, 3)) for time in range(10)]
            found = good_answers(text, *[after(*row) for row in rows])
            self.assertEqual(found, [reference.after_answer(row) for row in rows], text)
            for numbers in found:
                seen[numbers[0]] += 1
        self.assertGreater(min(seen.values()), 500)


if __name__ == "__main__":
    unittest.main()
