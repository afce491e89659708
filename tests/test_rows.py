"""All facts and all acts, their order and numbers; what is so at first and what is wanted."""

import unittest

from tests.helper import ACTS, FACTS, TASK, TRAVEL, ask, lines, read


def answered(text, call):
    first, second = ask(read(text), call)
    if first[0] != 0:
        raise AssertionError(f"refused: {first}")
    return second


def flat(cases):
    numbers = [len(cases)]
    for number, *things in cases:
        numbers.extend([number, len(things), *things])
    return numbers


class AllFacts(unittest.TestCase):
    def check(self, rows, *cases):
        self.assertEqual(answered(lines(*rows), FACTS), flat(cases))

    def test_at_the_beginning(self):
        self.assertEqual(ask(FACTS), [[0]])

    def test_without_things(self):
        self.check(["fact a"], (0,))
        self.check(["fact a", "fact b", "fact c", "fact d"], (0,), (1,), (2,), (3,))

    def test_with_one_thing(self):
        self.check(["kind k", "thing t k", "thing u k", "fact a k"], (0, 0), (0, 1))

    def test_with_two_things_and_one_thing_twice(self):
        self.check(["kind k", "thing t k", "thing u k", "fact a k k"], (0, 0, 0), (0, 0, 1), (0, 1, 0), (0, 1, 1))

    def test_with_things_of_two_kinds(self):
        things = ["kind k", "kind l", "thing a k", "thing b l", "thing c k", "thing d l"]
        self.check(things + ["fact f k l"], (0, 0, 1), (0, 0, 3), (0, 2, 1), (0, 2, 3))
        self.check(things + ["fact f l k"], (0, 1, 0), (0, 1, 2), (0, 3, 0), (0, 3, 2))

    def test_by_fact_then_first_thing_then_second(self):
        rows = ["kind k", "thing b k", "thing a k", "fact z k", "fact m", "fact c k k"]
        self.check(rows, (0, 0), (0, 1), (1,), (2, 0, 0), (2, 0, 1), (2, 1, 0), (2, 1, 1))

    def test_a_fact_without_a_row_keeps_its_number(self):
        self.check(["kind k", "kind l", "thing t k", "fact a l", "fact b k", "fact c k l", "fact d"], (1, 0), (3,))

    def test_things_are_numbered_over_all_kinds(self):
        rows = ["kind k", "kind l", "thing a l", "thing b l", "thing c k", "thing d l", "thing e k", "thing f k"]
        self.check(rows + ["fact n k"], (0, 2), (0, 4), (0, 5))
        self.check(rows + ["fact n l"], (0, 0), (0, 1), (0, 3))

    def test_things_told_behind_the_fact(self):
        self.check(["kind k", "fact a k", "thing t k", "fact b", "thing u k"], (0, 0), (0, 1), (1,))

    def test_the_whole_text(self):
        self.assertEqual(answered(TRAVEL, FACTS), flat([(0,), (1, 1, 0), (1, 1, 2), (2, 0), (2, 2)]))


class AllActs(unittest.TestCase):
    def check(self, rows, *cases):
        self.assertEqual(answered(lines("fact f", *rows), ACTS), flat(cases))

    def test_at_the_beginning(self):
        self.assertEqual(ask(ACTS), [[0]])

    def test_none(self):
        self.check([])
        self.check(["kind k", "act a 1 x k", "act b 1 x k y k"])

    def test_without_things(self):
        self.check(["act a 1"], (0,))
        self.check(["act d 1", "act c 999", "act b 5", "act a 1"], (0,), (1,), (2,), (3,))

    def test_with_one_thing(self):
        self.check(["kind k", "thing t k", "thing u k", "act a 1 x k"], (0, 0), (0, 1))

    def test_with_two_things_and_one_thing_in_both_places(self):
        self.check(["kind k", "thing t k", "thing u k", "act a 1 x k y k"],
                   (0, 0, 0), (0, 0, 1), (0, 1, 0), (0, 1, 1))

    def test_with_things_of_two_kinds(self):
        things = ["kind k", "kind l", "thing a k", "thing b l", "thing c k", "thing d l"]
        self.check(things + ["act f 1 x k y l"], (0, 0, 1), (0, 0, 3), (0, 2, 1), (0, 2, 3))
        self.check(things + ["act f 1 x l y k"], (0, 1, 0), (0, 1, 2), (0, 3, 0), (0, 3, 2))

    def test_the_order_of_places_not_of_their_names(self):
        things = ["kind k", "kind l", "thing a k", "thing b l", "thing c l"]
        self.check(things + ["act f 1 z l b1 k"], (0, 1, 0), (0, 2, 0))

    def test_by_act_then_first_thing_then_second(self):
        rows = ["kind k", "thing t k", "thing u k", "act b 1 x k", "act a 2 x k y k", "act c 3"]
        self.check(rows, (0, 0), (0, 1), (1, 0, 0), (1, 0, 1), (1, 1, 0), (1, 1, 1), (2,))

    def test_an_act_without_a_row_keeps_its_number(self):
        self.check(["kind k", "kind l", "thing t k", "act a 1 x l", "act b 1 x k", "act c 1 x k y l", "act d 1"],
                   (1, 0), (3,))

    def test_things_told_behind_the_act(self):
        self.check(["kind k", "act a 1 x k", "thing t k", "act b 1", "thing u k"], (0, 0), (0, 1), (1,))

    def test_claims_leave_the_rows_as_they_are(self):
        self.check(["kind k", "thing t k", "thing u k", "act a 1 x k", "needs f", "bars f"], (0, 0), (0, 1))

    def test_the_whole_text(self):
        self.assertEqual(answered(TRAVEL, ACTS), flat([(0,), (1, 1, 0), (1, 1, 2)]))


class Task(unittest.TestCase):
    def check(self, rows, *numbers):
        self.assertEqual(answered(lines(*rows), TASK), list(numbers))

    def test_at_the_beginning(self):
        self.assertEqual(ask(TASK), [[0, 0, 0]])

    def test_nothing_so_and_nothing_wanted(self):
        self.check(["fact a", "fact b"], 2, 0, 0)

    def test_both_sets(self):
        self.check(["fact a", "fact b", "fact c", "now a", "now c", "want b"], 3, 5, 2)
        self.check(["fact a", "fact b", "fact c", "want c", "want a", "now b"], 3, 2, 5)

    def test_each_fact_has_its_bit(self):
        things = ["kind k", "thing t k", "thing u k", "fact a k k", "fact b k k"]
        rows = [f"{fact} {first} {second}" for fact in "ab" for first in "tu" for second in "tu"]
        for bit, row in enumerate(rows):
            self.check(things + ["now " + row], 8, 1 << bit, 0)
            self.check(things + ["want " + row], 8, 0, 1 << bit)
        self.check(things + ["now " + row for row in rows], 8, 255, 0)
        self.check(things + ["want " + row for row in rows], 8, 0, 255)

    def test_told_twice_is_one_bit(self):
        self.check(["fact a", "fact b", "now a", "now a", "want b", "want b", "now a"], 2, 1, 2)

    def test_what_is_told_later_moves_the_numbers(self):
        self.check(["kind k", "kind l", "thing t k", "fact a l", "fact b k", "now b t", "thing u l"], 2, 2, 0)

    def test_what_an_act_claims_is_not_so_at_first(self):
        self.check(["fact a", "fact b", "act u 1", "needs a", "brings b", "bars a", "takes b"], 2, 0, 0)

    def test_the_whole_text(self):
        self.assertEqual(answered(TRAVEL, TASK), [5, 3, 4])


if __name__ == "__main__":
    unittest.main()
