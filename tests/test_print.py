"""The one form."""

import random
import unittest

from tests.helper import PRINT, TRAVEL, WHOLE_HOUSE, ask, lines, printed, read, read_answer

SORTS = ("needs", "bars", "brings", "takes")


class OneForm(unittest.TestCase):
    def check_form(self, text, form):
        self.assertEqual(printed(text), form)
        self.assertEqual(printed(form), form)
        self.assertEqual(ask(read(text), *WHOLE_HOUSE), ask(read(form), *WHOLE_HOUSE))

    def test_nothing_at_the_beginning(self):
        self.assertEqual(ask(PRINT), [[0]])

    def test_a_short_text_byte_by_byte(self):
        self.assertEqual(ask(read("fact a"), PRINT)[1], [7, 102, 97, 99, 116, 32, 97, 10])

    def test_kinds_things_facts_acts_now_want(self):
        text = lines("fact a", "want a", "act u 10", "now a", "kind k", "fact b k", "thing t k", "act v 7 x k y k",
                     "want b t", "kind l", "thing s l", "now b t", "fact c l k")
        form = lines("kind k", "kind l", "thing t k", "thing s l", "fact a", "fact b k", "fact c l k", "act u 10",
                     "act v 7 x k y k", "now a", "now b t", "want a", "want b t")
        self.check_form(text, form)

    def test_claims_behind_their_act_each_sort_in_the_order_told(self):
        text = lines("fact a", "fact b", "fact c", "act u 1", "takes c", "brings b", "bars a", "needs c", "takes a",
                     "needs a", "bars b", "brings a", "needs b", "act v 2", "brings c", "needs b")
        form = lines("fact a", "fact b", "fact c", "act u 1", "needs c", "needs a", "needs b", "bars a", "bars b",
                     "brings b", "brings a", "takes c", "takes a", "act v 2", "needs b", "brings c")
        self.check_form(text, form)

    def test_claims_with_places_and_things(self):
        text = lines("kind k", "thing t k", "fact f k k", "act u 5 x k y k", "takes f y x", "needs f t x",
                     "needs f x t", "needs f y y", "bars f t t")
        form = lines("kind k", "thing t k", "fact f k k", "act u 5 x k y k", "needs f t x", "needs f x t",
                     "needs f y y", "bars f t t", "takes f y x")
        self.check_form(text, form)

    def test_order_is_the_order_told_not_that_of_names(self):
        form = lines("kind z", "kind a", "thing y a", "thing b z", "fact x z", "fact c a", "act w 1", "act d 1",
                     "now x b", "now c y", "want c y", "want x b")
        self.check_form(form, form)

    def test_costs(self):
        for cost in (1, 9, 10, 90, 100, 109, 990, 999):
            form = f"fact a\nact u {cost}\n"
            self.check_form(form, form)

    def test_blanks_and_empty_lines_are_gone(self):
        self.check_form("\n  fact   a  \n\n   \n act u   5  ", "fact a\nact u 5\n")

    def test_claims_of_an_act_with_other_lines_between(self):
        text = lines("fact a", "act u 1", "kind k", "needs a", "thing t k", "now a", "fact b k", "needs b t")
        form = lines("kind k", "thing t k", "fact a", "fact b k", "act u 1", "needs a", "needs b t", "now a")
        self.check_form(text, form)

    def test_the_whole_text(self):
        form = lines("kind place", "kind who", "thing home place", "thing ann who", "thing shop place", "fact rain",
                     "fact at who place", "fact shut place", "act wait 7", "takes rain", "act go 12 x who y place",
                     "needs at x home", "bars shut y", "bars rain", "brings at x y", "takes at x home",
                     "now at ann home", "now rain", "want at ann shop")
        self.check_form(TRAVEL, form)


def some_text(chance):
    """Lines with a good chance to be without a fault, in an order of chance."""
    rows = []
    for turn in range(chance.randint(1, 25)):
        sort = chance.choice(("kind", "thing", "thing", "fact", "act") + SORTS + ("now", "want"))
        pool = "kl" if sort in ("kind", "thing", "fact", "act") else "tux"
        words = [sort, chance.choice("klfgabtuxy" if sort in ("kind", "thing", "fact", "act") else "fg")]
        if sort == "thing":
            words.append(chance.choice("kl"))
        elif sort == "act":
            words.append(str(chance.randint(1, 999)))
            for place in chance.sample("xyt", chance.randint(0, 2)):
                words.extend([place, chance.choice("kl")])
        elif sort != "kind":
            words.extend(chance.choice(pool) for place in range(chance.randint(0, 2)))
        rows.append((" " * chance.randint(1, 3)).join(words))
    return "\n".join(["kind k", "thing t k", "fact f", "fact g k"] + rows)


class ReadAgain(unittest.TestCase):
    def test_what_is_printed_is_read_as_it_was(self):
        chance = random.Random(20261118)
        good = 0
        for turn in range(3000):
            text = good_lines(some_text(chance))
            if text != "":
                good = good + 1
                form = printed(text)
                self.assertEqual(printed(form), form)
                self.assertEqual(ask(read(text), *WHOLE_HOUSE), ask(read(form), *WHOLE_HOUSE))
        self.assertGreater(good, 500)


def good_lines(text):
    """The text without the lines that are told for a fault; none at all if what is left is too big."""
    rows = text.split("\n")
    while True:
        found = read_answer("\n".join(rows))
        if found[0] == 0:
            return "\n".join(rows)
        if found[2] > 8:
            return ""
        rows.pop(found[1] - 1)


if __name__ == "__main__":
    unittest.main()
