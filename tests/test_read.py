"""Texts without a fault: lines, words, names, and what read answers."""

import unittest

from tests.helper import (
    ACTS, FACTS, NOTHING, PRINT, TASK, TRAVEL, WHOLE_HOUSE, ask, lines, printed, read, read_answer,
)


class Lines(unittest.TestCase):
    def test_a_whole_text(self):
        self.assertEqual(read_answer(TRAVEL), [0, 5, 3])

    def test_the_last_line_may_lack_its_end(self):
        for text in ("fact a", "fact a\n", TRAVEL[:-1]):
            self.assertEqual(read_answer(text)[0], 0, text)
        self.assertEqual(printed(TRAVEL[:-1]), printed(TRAVEL))

    def test_a_last_line_of_blanks_without_its_end_is_a_line(self):
        self.assertEqual(read_answer("kind a\n "), [-1, 3, 9])
        self.assertEqual(read_answer("kind a\n"), [-1, 2, 9])
        self.assertEqual(read_answer("kind a"), [-1, 2, 9])

    def test_the_last_line_without_its_end_has_faults_too(self):
        self.assertEqual(read_answer("fact a\nfact A"), [-1, 2, 3])
        self.assertEqual(read_answer("fact a\nx"), [-1, 2, 2])

    def test_empty_lines_and_lines_of_blanks_say_nothing(self):
        text = "\n   \n\nfact a\n \n" + " " * 60 + "\n\n"
        self.assertEqual(read_answer(text), [0, 1, 0])
        self.assertEqual(printed(text), "fact a\n")

    def test_such_lines_count_for_the_fault_line(self):
        self.assertEqual(read_answer("\n  \nfact a\n\nfact A\n"), [-1, 5, 3])

    def test_several_blanks_between_words_and_at_the_ends(self):
        text = "  kind   p \nthing  t p\n   fact a    p\nact  go   5  x   p  \n needs  a   x \nnow   a t   \n"
        self.assertEqual(read_answer(text), [0, 1, 1])
        self.assertEqual(
            printed(text), lines("kind p", "thing t p", "fact a p", "act go 5 x p", "needs a x", "now a t")
        )

    def test_1500_bytes(self):
        text = "\n" * 1494 + "fact a"
        self.assertEqual(len(text), 1500)
        self.assertEqual(read_answer(text), [0, 1, 0])
        self.assertEqual(read_answer("\n" * 1500), [-1, 1501, 9])


class Names(unittest.TestCase):
    def test_letters_and_digits(self):
        for name in ("a", "z", "a0", "z9", "m5n", "abcdefgh", "q1234567"):
            self.assertEqual(printed(f"fact {name}"), f"fact {name}\n")

    def test_first_words_may_be_names(self):
        for name in ("kind", "thing", "fact", "act", "needs", "bars", "brings", "takes", "now", "want"):
            text = lines(f"kind {name}", f"thing {name} {name}", f"fact {name} {name}", f"act {name} 1",
                         f"needs {name} {name}", f"now {name} {name}")
            self.assertEqual(printed(text), text)

    def test_names_of_different_sorts_may_be_the_same(self):
        text = lines("kind a", "thing a a", "fact a a", "act a 1 b a", "needs a a", "needs a b")
        self.assertEqual(read_answer(text), [0, 1, 1])

    def test_a_place_may_be_called_like_a_kind_a_fact_or_an_act(self):
        text = lines("kind k", "thing t k", "fact f k", "act a 1 k k f k", "act b 1 a k b k", "needs f a")
        self.assertEqual(read_answer(text), [0, 1, 2])

    def test_acts_may_have_places_of_the_same_name(self):
        text = lines("kind k", "kind l", "thing t k", "fact f k", "act a 1 x k", "needs f x", "act b 1 y l x k",
                     "needs f x")
        self.assertEqual(printed(text), text)


class Order(unittest.TestCase):
    def test_lines_of_all_sorts_may_be_mixed(self):
        text = lines("fact a", "act go 3", "kind p", "brings a", "now a", "thing t p", "want a", "fact b p",
                     "needs b t", "now b t", "act u 9")
        self.assertEqual(read_answer(text), [0, 2, 2])

    def test_the_same_claim_may_be_told_again(self):
        text = lines("fact a", "act go 3", "needs a", "needs a", "bars a", "brings a", "takes a", "now a", "now a",
                     "want a", "want a")
        self.assertEqual(printed(text), text)
        self.assertEqual(ask(read(text), TASK)[1], [1, 1, 1])

    def test_claims_belong_to_the_act_told_last(self):
        text = lines("fact a", "act u 1", "act v 1", "needs a")
        self.assertEqual(printed(text), text)


class House(unittest.TestCase):
    def test_at_the_beginning_there_is_a_text_without_lines(self):
        self.assertEqual(ask(*WHOLE_HOUSE), NOTHING)
        for call, nothing in zip(WHOLE_HOUSE, NOTHING):
            self.assertEqual(ask(call), [nothing])

    def test_a_text_without_lines_is_refused(self):
        self.assertEqual(read_answer(""), [-1, 1, 9])

    def test_a_refused_read_at_the_beginning_leaves_nothing(self):
        for text in ("", "kind p\nthing t p\nfact a p\nnow a t\nfact a\n", "kind p\nthing t p\nact a 1 x p\n"):
            self.assertEqual(ask(read(text), *WHOLE_HOUSE)[1:], NOTHING)

    def test_a_refused_read_leaves_the_house_as_it_was(self):
        before = ask(read(TRAVEL), *WHOLE_HOUSE)[1:]
        refused = [
            "",
            "fact a\nnow a\nwant a\nact go 1\nx\n",
            "kind a\n",
            lines("fact a", "fact b", "now b", "want a", "kind p", "thing c p", "thing d p", "thing e p",
                  "act u 1 x p y p", "act v 1 x p y p"),
            TRAVEL + "want at ann ann\n",
            TRAVEL + "thing " + "x" * 9 + " who\n",
        ]
        for text in refused:
            found = ask(read(TRAVEL), read(text), *WHOLE_HOUSE)
            self.assertEqual(found[1][0], -1, text)
            self.assertEqual(found[2:], before, text)

    def test_nothing_of_a_refused_text_is_in_the_next_one(self):
        found = ask(read("kind a\nkind b\nkind c\nfact a\nx"), read("kind a\nkind b\nkind d\nfact a\n"), PRINT)
        self.assertEqual(found[:2], [[-1, 5, 2], [0, 1, 0]])
        self.assertEqual(bytes(found[2][1:]), b"kind a\nkind b\nkind d\nfact a\n")

    def test_a_later_good_read_takes_the_place_of_the_earlier_text(self):
        text = lines("kind k", "thing t k", "fact f k", "act a 1 x k", "want f t")
        found = ask(read(TRAVEL), read(text), PRINT, FACTS, ACTS, TASK)
        self.assertEqual(found[1:], ask(read(text), PRINT, FACTS, ACTS, TASK))
        self.assertEqual(found[3:], [[1, 0, 1, 0], [1, 0, 1, 0], [1, 0, 1]])

    def test_a_text_may_be_read_again(self):
        self.assertEqual(ask(read(TRAVEL), read(TRAVEL)), [[0, 5, 3], [0, 5, 3]])


if __name__ == "__main__":
    unittest.main()
