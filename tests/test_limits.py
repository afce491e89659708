"""How many of each there may be: fault 7 within the text, 9 and 10 behind it."""

import unittest

from tests.helper import lines, printed, read_answer

KINDS = ["kind a", "kind b", "kind c"]
THINGS = [f"thing t{number} k" for number in range(6)]
FACTS = ["fact a", "fact b", "fact c", "fact d"]
ACTS = ["act a 1", "act b 1", "act c 1", "act d 1"]


class Fault7(unittest.TestCase):
    def check(self, rows, row):
        self.assertEqual(read_answer(lines(*rows))[0], 0, rows)
        self.assertEqual(read_answer(lines(*rows, row)), [-1, len(rows) + 1, 7], row)

    def test_kinds(self):
        self.check(["fact a"] + KINDS, "kind d")

    def test_things(self):
        self.check(["fact a", "kind k"] + THINGS, "thing t6 k")

    def test_things_of_all_kinds_together(self):
        rows = ["fact a", "kind k", "kind l"] + THINGS[:3] + ["thing u0 l", "thing u1 l", "thing u2 l"]
        self.check(rows, "thing u3 l")

    def test_facts(self):
        self.check(FACTS, "fact e")

    def test_acts(self):
        self.check(["fact a"] + ACTS, "act e 1")

    def test_each_sort_of_an_act(self):
        for sort in ("needs", "bars", "brings", "takes"):
            self.check(["fact a", "act a 1"] + [sort + " a"] * 6, sort + " a")

    def test_each_sort_counts_by_itself(self):
        rows = ["fact a", "act a 1"] + ["needs a", "bars a", "brings a", "takes a"] * 6
        for sort in ("needs", "bars", "brings", "takes"):
            self.check(rows, sort + " a")
        self.assertEqual(read_answer(lines(*rows, "now a", "want a")), [0, 1, 1])

    def test_each_act_counts_anew(self):
        rows = ["fact a"]
        for act in ACTS:
            rows = rows + [act] + ["needs a"] * 6 + ["takes a"] * 6
        self.assertEqual(printed(lines(*rows)), lines(*rows))
        self.check(rows, "needs a")
        self.check(rows, "takes a")

    def test_now_and_want(self):
        self.check(["fact a"] + ["now a"] * 12, "now a")
        self.check(["fact a"] + ["want a"] * 12, "want a")

    def test_now_and_want_count_by_themselves(self):
        rows = ["fact a"] + ["now a", "want a"] * 12
        self.check(rows, "now a")
        self.check(rows, "want a")

    def test_all_as_many_as_may_be(self):
        rows = KINDS + [f"thing t{number} a" for number in range(6)] + FACTS + ACTS
        self.assertEqual(read_answer(lines(*rows)), [0, 4, 4])


class Behind(unittest.TestCase):
    def check_bad(self, rows, number):
        self.assertEqual(read_answer(lines(*rows)), [-1, len(rows) + 1, number], rows)

    def test_no_fact(self):
        self.check_bad([], 9)
        self.check_bad([""], 9)
        self.check_bad(["kind k", "thing t k"], 9)
        self.check_bad(["act a 1"], 9)

    def test_facts_without_things(self):
        self.check_bad(["kind k", "fact f k"], 9)
        self.check_bad(["kind k", "kind l", "thing t l", "fact f k l", "fact g l k", "fact h k"], 9)
        self.assertEqual(read_answer(lines("kind k", "fact f k", "fact g")), [0, 1, 0])

    def test_one_fact(self):
        self.assertEqual(read_answer("fact a"), [0, 1, 0])
        self.assertEqual(read_answer("kind k\nthing t k\nfact a k k"), [0, 1, 0])

    def test_8_and_9_facts(self):
        two = ["kind k", "thing t k", "thing u k", "fact a k k", "fact b k k"]
        self.assertEqual(read_answer(lines(*two)), [0, 8, 0])
        self.check_bad(two + ["fact c"], 9)
        three = ["kind k"] + THINGS[:3]
        self.assertEqual(read_answer(lines(*three, "fact a k", "fact b k", "fact c", "fact d")), [0, 8, 0])
        self.check_bad(three + ["fact a k", "fact b k", "fact c k"], 9)
        self.check_bad(three + ["fact a k k"], 9)

    def test_a_thing_told_later_counts_too(self):
        rows = ["kind k", "fact a k k", "thing t0 k", "thing t1 k"]
        self.assertEqual(read_answer(lines(*rows)), [0, 4, 0])
        self.check_bad(rows + ["thing t2 k"], 9)

    def test_12_and_13_acts(self):
        two = ["kind k", "thing t k", "thing u k", "fact f"]
        acts = ["act a 1 x k y k", "act b 1 x k y k", "act c 1 x k y k"]
        self.assertEqual(read_answer(lines(*two, *acts)), [0, 1, 12])
        self.check_bad(two + acts + ["act d 1"], 10)
        self.assertEqual(read_answer(lines(*two, *acts, "kind l", "act d 1 x l y k")), [0, 1, 12])
        three = ["kind k"] + THINGS[:3] + ["fact f"]
        self.assertEqual(read_answer(lines(*three, "act a 1 x k y k", "act b 1 x k")), [0, 1, 12])
        self.check_bad(["kind k"] + THINGS[:4] + ["fact f", "act a 1 x k y k"], 10)

    def test_no_act_is_no_fault(self):
        self.assertEqual(read_answer("kind k\nfact f\nact a 1 x k"), [0, 1, 0])

    def test_the_line_behind_the_last_one(self):
        self.assertEqual(read_answer("kind k"), [-1, 2, 9])
        self.assertEqual(read_answer("kind k\n"), [-1, 2, 9])
        self.assertEqual(read_answer("kind k\n\n"), [-1, 3, 9])
        self.assertEqual(read_answer("kind k\n\n  "), [-1, 4, 9])
        self.assertEqual(read_answer("\n"), [-1, 2, 9])
        many = lines("kind k", *THINGS[:4], "fact f", "act a 1 x k y k")
        self.assertEqual(read_answer(many[:-1]), [-1, 8, 10])
        self.assertEqual(read_answer(many + "\n"), [-1, 9, 10])


if __name__ == "__main__":
    unittest.main()
