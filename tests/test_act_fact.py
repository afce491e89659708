"""The calls act and fact: one of all acts, one of all facts."""

import random
import unittest

from tests.helper import (
    ENORMOUS, TRAVEL, Reference, act, as_bytes, ask, fact, good_answers, lines, read, text_of_chance,
)

# Five facts come of it: f, g t, g u, h t s, h u s. There's no thing of kind m, so j has none.
MIXED = ["kind k", "kind l", "kind m", "thing t k", "thing s l", "thing u k", "fact f", "fact g k", "fact h k l",
         "fact j m"]
F, GT, GU, HTS, HUS = 1, 2, 4, 8, 16


class Act(unittest.TestCase):
    def check(self, rows, *wanted):
        """The acts from 0 on are as told, and there's none behind them."""
        calls = [act(which) for which in range(len(wanted))]
        found = good_answers(lines(*MIXED, *rows), *calls, act(len(wanted)))
        self.assertEqual(found, [[*numbers, *as_bytes(name + "\n")] for *numbers, name in wanted] + [[-2]])

    def test_without_claims(self):
        self.check(["act go 1"], (1, 0, 0, 0, 0, "go"))

    def test_numbers_and_bytes(self):
        self.assertEqual(good_answers(lines(*MIXED, "act go 12", "needs f"), act(0)),
                         [[12, 1, 0, 0, 0, 103, 111, 10]])

    def test_costs(self):
        for cost in (1, 9, 10, 100, 998, 999):
            self.check([f"act go {cost}"], (cost, 0, 0, 0, 0, "go"))

    def test_each_set_has_its_place(self):
        for place, sort in enumerate(("needs", "bars", "brings", "takes")):
            wanted = [5, 0, 0, 0, 0, "go"]
            wanted[place + 1] = GU
            self.check(["act go 5", sort + " g u"], wanted)

    def test_all_four_sets_told_in_any_order(self):
        self.check(["act go 5", "takes h u s", "brings f", "needs g u", "bars g t", "needs f", "takes f"],
                   (5, F + GU, GT, F, F + HUS, "go"))

    def test_no_place(self):
        self.check(["act go 5", "needs f", "bars g t", "brings h u s", "takes h t s"], (5, F, GT, HUS, HTS, "go"))

    def test_one_place(self):
        self.check(["act go 5 x k", "needs g x", "bars f", "brings h x s", "takes g x"],
                   (5, GT, F, HTS, GT, "go t"), (5, GU, F, HUS, GU, "go u"))

    def test_two_places(self):
        self.check(["act go 5 x k y k", "needs g x", "takes g x", "brings g y"],
                   (5, GT, 0, GT, GT, "go t t"), (5, GT, 0, GU, GT, "go t u"),
                   (5, GU, 0, GT, GU, "go u t"), (5, GU, 0, GU, GU, "go u u"))

    def test_two_places_of_two_kinds(self):
        self.check(["act go 5 y l x k", "needs h x y", "bars g x"],
                   (5, HTS, GT, 0, 0, "go s t"), (5, HUS, GU, 0, 0, "go s u"))

    def test_one_thing_in_both_places(self):
        rows = ["kind k", "thing t k", "thing u k", "fact p k k", "act go 7 x k y k", "needs p x y", "bars p y x",
                "brings p x x", "takes p y y"]
        found = good_answers(lines(*rows), act(0), act(1), act(2), act(3), act(4))
        self.assertEqual(found, [
            [7, 1, 1, 1, 1, *as_bytes("go t t\n")], [7, 2, 4, 1, 8, *as_bytes("go t u\n")],
            [7, 4, 2, 8, 1, *as_bytes("go u t\n")], [7, 8, 8, 8, 8, *as_bytes("go u u\n")], [-2],
        ])

    def test_a_thing_where_a_place_could_stand(self):
        self.check(["act go 5 x k", "needs g t", "brings g u", "takes h t s", "bars h x s"],
                   (5, GT, HTS, GU, HTS, "go t"), (5, GT, HUS, GU, HTS, "go u"))

    def test_a_fact_told_twice_is_one_bit(self):
        self.check(["act go 5", "needs f", "needs f", "bars g t", "bars g t", "brings g u", "brings f", "brings g u",
                    "takes f", "takes f"], (5, F, GT, F + GU, F, "go"))

    def test_a_fact_told_twice_by_a_place_and_a_thing(self):
        self.check(["act go 5 x k", "needs g x", "needs g t"], (5, GT, 0, 0, 0, "go t"), (5, GT + GU, 0, 0, 0, "go u"))

    def test_what_is_both_brought_and_taken_is_in_both_sets(self):
        self.check(["act go 5", "brings f", "takes f", "needs f", "bars f"], (5, F, F, F, F, "go"))

    def test_names_that_places_facts_and_things_share(self):
        rows = ["kind g", "thing a g", "thing b g", "fact x g", "fact y", "act x 3 x g y g", "needs x y", "takes x x",
                "brings y", "bars x a"]
        found = good_answers(lines(*rows), act(0), act(1), act(2), act(3))
        self.assertEqual(found, [
            [3, 1, 1, 4, 1, *as_bytes("x a a\n")], [3, 2, 1, 4, 1, *as_bytes("x a b\n")],
            [3, 1, 1, 4, 2, *as_bytes("x b a\n")], [3, 2, 1, 4, 2, *as_bytes("x b b\n")],
        ])

    def test_acts_are_counted_over_all_acts_of_the_text(self):
        self.check(["act a 1", "needs f", "act b 2 x k", "needs g x", "act c 3 x m", "act d 4 x l", "bars h t x"],
                   (1, F, 0, 0, 0, "a"), (2, GT, 0, 0, 0, "b t"), (2, GU, 0, 0, 0, "b u"), (4, 0, HTS, 0, 0, "d s"))

    def test_places_of_one_name_in_two_acts(self):
        self.check(["act a 1 x k", "needs g x", "act b 1 y k x l", "needs h y x"],
                   (1, GT, 0, 0, 0, "a t"), (1, GU, 0, 0, 0, "a u"),
                   (1, HTS, 0, 0, 0, "b t s"), (1, HUS, 0, 0, 0, "b u s"))

    def test_things_told_behind_the_act(self):
        rows = ["kind k", "fact g k", "act go 1 x k", "needs g x", "thing t k", "takes g t", "thing u k"]
        self.assertEqual(good_answers(lines(*rows), act(0), act(1), act(2)),
                         [[1, 1, 0, 0, 1, *as_bytes("go t\n")], [1, 2, 0, 0, 1, *as_bytes("go u\n")], [-2]])

    def test_long_names(self):
        rows = ["kind k", "thing abcdefgh k", "fact f", "act z2345678 1 x k y k"]
        self.assertEqual(good_answers(lines(*rows), act(0)),
                         [[1, 0, 0, 0, 0, *as_bytes("z2345678 abcdefgh abcdefgh\n")]])

    def test_six_of_each_sort(self):
        claims = ["f", "g t", "g u", "h t s", "h u s", "f"]
        rows = [f"{sort} {claim}" for claim in claims for sort in ("takes", "needs", "brings", "bars")]
        self.check(["act go 999"] + rows, (999, 31, 31, 31, 31, "go"))

    def test_each_bit_of_8(self):
        rows = ["kind k", "thing t k", "thing u k", "fact a k k", "fact b k k", "act p 1 x k y k", "needs a x y",
                "act q 1 x k y k", "takes b x y"]
        found = good_answers(lines(*rows), *[act(which) for which in range(9)])
        self.assertEqual([numbers[1:5] for numbers in found[:4]], [[1 << bit, 0, 0, 0] for bit in range(4)])
        self.assertEqual([numbers[1:5] for numbers in found[4:8]], [[0, 0, 0, 16 << bit] for bit in range(4)])
        self.assertEqual(found[8], [-2])

    def test_none_such(self):
        for which in (3, 4, 12, 255, 256, 65536, 2147483648, ENORMOUS - 1, ENORMOUS):
            self.assertEqual(good_answers(TRAVEL, act(which), act(2)),
                             [[-2], [12, 2, 17, 4, 2, *as_bytes("go ann shop\n")]])

    def test_none_such_with_12_acts(self):
        rows = ["fact f", "kind k", "thing t k", "thing u k", "act a 1 x k y k", "act b 1 x k y k", "act c 1 x k y k"]
        self.assertEqual(good_answers(lines(*rows), act(11), act(12), act(13)),
                         [[1, 0, 0, 0, 0, *as_bytes("c u u\n")], [-2], [-2]])

    def test_none_such_without_acts(self):
        for which in (0, 1, ENORMOUS):
            self.assertEqual(ask(act(which)), [[-2]])
            self.assertEqual(good_answers("fact f", act(which)), [[-2]])
            self.assertEqual(good_answers("kind k\nfact f\nact a 1 x k", act(which)), [[-2]])

    def test_the_whole_text(self):
        found = good_answers(TRAVEL, act(0), act(1), act(2))
        self.assertEqual(found, [[7, 0, 0, 0, 1, *as_bytes("wait\n")], [12, 2, 9, 2, 2, *as_bytes("go ann home\n")],
                                 [12, 2, 17, 4, 2, *as_bytes("go ann shop\n")]])


class Fact(unittest.TestCase):
    def check(self, rows, *names):
        """The facts from 0 on are as told, and there's none behind them."""
        found = good_answers(lines(*rows), *[fact(which) for which in range(len(names) + 1)])
        wanted = [[len(name.split()) - 1, *as_bytes(name + "\n")] for name in names]
        self.assertEqual(found, wanted + [[-2]])

    def test_numbers_and_bytes(self):
        self.assertEqual(good_answers("kind k\nthing t k\nfact ab k", fact(0)), [[1, 97, 98, 32, 116, 10]])

    def test_no_thing(self):
        self.check(["fact a"], "a")
        self.check(["fact d", "fact c", "fact b", "fact a"], "d", "c", "b", "a")

    def test_one_thing(self):
        self.check(["kind k", "thing t k", "thing a k", "fact f k"], "f t", "f a")

    def test_two_things(self):
        self.check(["kind k", "thing t k", "thing u k", "fact f k k"], "f t t", "f t u", "f u t", "f u u")

    def test_two_things_of_two_kinds(self):
        things = ["kind k", "kind l", "thing a k", "thing b l", "thing c k"]
        self.check(things + ["fact f k l"], "f a b", "f c b")
        self.check(things + ["fact f l k"], "f b a", "f b c")

    def test_facts_are_counted_over_all_facts_of_the_text(self):
        self.check(MIXED, "f", "g t", "g u", "h t s", "h u s")
        self.check(["kind k", "kind l", "thing t k", "fact a l", "fact b k", "fact c l k", "fact d"], "b t", "d")

    def test_things_told_behind_the_fact(self):
        self.check(["kind k", "fact a k", "thing t k", "fact b", "thing u k"], "a t", "a u", "b")

    def test_long_names(self):
        self.check(["kind k", "thing abcdefgh k", "fact z2345678 k k"], "z2345678 abcdefgh abcdefgh")

    def test_none_such(self):
        for which in (5, 6, 8, 255, 256, 65536, 2147483648, ENORMOUS - 1, ENORMOUS):
            self.assertEqual(good_answers(TRAVEL, fact(which), fact(4)), [[-2], [1, *as_bytes("shut shop\n")]])

    def test_none_such_with_8_facts(self):
        rows = ["kind k", "thing t k", "thing u k", "fact a k k", "fact b k k"]
        self.assertEqual(good_answers(lines(*rows), fact(7), fact(8), fact(9)),
                         [[2, *as_bytes("b u u\n")], [-2], [-2]])

    def test_none_such_before_the_first_read(self):
        for which in (0, 1, ENORMOUS):
            self.assertEqual(ask(fact(which)), [[-2]])

    def test_not_the_number_in_the_text(self):
        self.check(["kind k", "fact a k", "fact b"], "b")

    def test_the_whole_text(self):
        self.check(TRAVEL.split("\n"), "rain", "at ann home", "at ann shop", "shut home", "shut shop")


class OfChance(unittest.TestCase):
    def test_all_acts_and_facts_of_many_texts(self):
        chance = random.Random(5)
        for turn in range(400):
            text = text_of_chance(chance, 999)
            reference = Reference(text)
            found = good_answers(text, *[act(which) for which in range(14)], *[fact(which) for which in range(10)])
            self.assertEqual(found[:14], [reference.act_answer(which) for which in range(14)], text)
            self.assertEqual(found[14:], [reference.fact_answer(which) for which in range(10)], text)

    def test_all_acts_and_facts_that_are_counted_are_there(self):
        chance = random.Random(6)
        for turn in range(200):
            text = text_of_chance(chance, 9)
            facts, acts = ask(read(text))[0][1:]
            found = good_answers(text, fact(facts), act(acts))
            self.assertEqual(found, [[-2], [-2]], text)
            for numbers in good_answers(text, *[act(which) for which in range(acts)]):
                self.assertGreater(len(numbers), 6, text)


if __name__ == "__main__":
    unittest.main()
