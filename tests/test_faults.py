"""The faults 1 to 10: each alone, several of one line, several lines."""

import unittest

from tests.helper import as_bytes, lines, read_answer

BASE = lines("kind p", "kind q", "thing t p", "thing u q", "fact none", "fact one p", "fact two p q")
BASE_LINES = 7
ACT = BASE + lines("act go 5 x p y q")
ACT_LINES = 8


class Faults(unittest.TestCase):
    def check(self, text, line, number):
        self.assertEqual(read_answer(text), [-1, line, number], text)

    def check_base(self, row, number):
        self.check(BASE + row + "\n", BASE_LINES + 1, number)

    def check_act(self, row, number):
        self.check(ACT + row + "\n", ACT_LINES + 1, number)

    def check_good(self, text):
        self.assertEqual(read_answer(text)[0], 0, text)

    def test_what_the_lines_stand_behind_is_good(self):
        self.check_good(BASE)
        self.check_good(ACT)


class Fault1(Faults):
    def test_more_than_60_signs(self):
        self.check_good("fact a" + " " * 54)
        self.check("fact a" + " " * 55, 1, 1)
        self.check_good(" " * 54 + "fact a\n")
        self.check(" " * 55 + "fact a\n", 1, 1)
        self.check("fact " + "a" * 56, 1, 1)

    def test_more_than_60_blanks(self):
        self.check_good("fact a\n" + " " * 60)
        self.check("fact a\n" + " " * 61, 2, 1)
        self.check("fact a\n" + " " * 61 + "\n", 2, 1)

    def test_the_line_end_is_no_sign_of_the_line(self):
        self.check_good("fact a" + " " * 54 + "\n" + " " * 60 + "\n")

    def test_bytes_below_32_and_above_126(self):
        for byte in [b for b in range(256) if b < 32 or b > 126]:
            if byte != 10:
                for text in ([byte], as_bytes("fact a\nfact b") + [byte], as_bytes("fact a\nfact") + [byte, 98]):
                    found = read_answer(text)
                    self.assertEqual(found[2], 1, text)
                    self.assertEqual(found[1], 1 if len(text) == 1 else 2, text)

    def test_bytes_from_33_to_126_are_signs(self):
        for byte in range(33, 127):
            self.assertEqual(read_answer(as_bytes("fact a\n") + [byte]), [-1, 2, 2], byte)

    def test_a_carriage_return_ends_no_line(self):
        self.check("fact a\r\n", 1, 1)


class Fault2(Faults):
    def test_first_words_that_are_none(self):
        for row in ("x", "Kind a", "kinds a", "kin a", "KIND a", "fact: a", "#", "?", "1", "a fact", "need none",
                    "bar none", "bring none", "take none", "wants none", "kind\\ a", "~", "!kind a"):
            self.check_base(row, 2)

    def test_too_few_words(self):
        for row in ("kind", "thing", "thing v", "fact", "act", "act go", "act go 1 x", "act go 1 x p y"):
            self.check_base(row, 2)
        for row in ("needs", "bars", "brings", "takes", "now", "want"):
            self.check_act(row, 2)

    def test_too_many_words(self):
        for row in ("kind r s", "kind r p q", "thing v p q", "fact f p p p", "act go 1 x p y p z",
                    "act go 1 x p y p z p"):
            self.check_base(row, 2)
        for row in ("needs two x y t", "bars two x y t", "brings two x y t", "takes two x y t", "now two t u t",
                    "want two t u t"):
            self.check_act(row, 2)

    def test_as_many_words_as_may_be(self):
        for row in ("kind r", "thing v p", "fact f", "fact f p", "fact f q q", "act do 1", "act do 1 x p",
                    "act do 1 x p y p"):
            self.check_good(BASE + row)
        for sort in ("needs", "bars", "brings", "takes", "now", "want"):
            for row in ("none", "one t", "two t u"):
                self.check_good(ACT + sort + " " + row)


class Fault3(Faults):
    WRONG = ("A", "aB", "1", "1a", "0", "a-b", "a_b", "abcdefghi", "a" * 20, "a.", "?", "a?", "`", "{", "a/", "a:",
             "a`", "a{", "@", "[")

    def test_words_where_a_name_has_to_be(self):
        rows = ("kind *", "thing * p", "thing v *", "fact *", "fact * p", "fact f *", "fact f p *", "fact f * p",
                "act * 1", "act do 1 * p", "act do 1 x *", "act do 1 * p y p", "act do 1 x * y p",
                "act do 1 x p * p", "act do 1 x p y *")
        for row in rows:
            for word in self.WRONG:
                self.check_base(row.replace("*", word), 3)

    def test_words_where_a_told_name_has_to_be(self):
        for sort in ("needs", "bars", "brings", "takes", "now", "want"):
            for row in ("*", "* t", "one *", "two t *", "two * u"):
                for word in self.WRONG:
                    self.check_act(sort + " " + row.replace("*", word), 3)

    def test_names_of_8_and_9_signs(self):
        self.check_good(lines("kind abcdefgh", "fact a2345678 abcdefgh", "thing z7654321 abcdefgh",
                              "act zzzzzzzz 1 y2345678 abcdefgh"))
        self.check("kind abcdefghi", 1, 3)
        self.check("fact a23456789", 1, 3)

    def test_costs(self):
        for cost in ("1", "9", "10", "99", "100", "998", "999"):
            self.check_good(BASE + f"act do {cost}")
        for cost in ("0", "00", "01", "001", "0999", "1000", "1001", "9999", "00001", "a", "1a", "a1", "-1", "+1",
                     "1.", "?", "1?", "1_0", "/", ":"):
            self.check_base(f"act do {cost}", 3)
            self.check_base(f"act do {cost} x p y q", 3)

    def test_a_cost_is_no_name(self):
        self.check_base("act do x 1 p", 3)
        self.check_base("act do x 1", 2)
        self.check_base("act do x", 3)


class Fault4(Faults):
    def test_names_that_are_there_already(self):
        self.check_base("kind p", 4)
        self.check_base("kind q", 4)
        self.check_base("thing t p", 4)
        self.check_base("thing u p", 4)
        self.check_base("fact none", 4)
        self.check_base("fact two", 4)
        self.check_act("act go 5 x p y q", 4)
        self.check_act("act go 1", 4)
        self.check(ACT + lines("act do 1", "act go 1"), ACT_LINES + 2, 4)

    def test_names_of_another_sort_are_free(self):
        for row in ("kind t", "kind one", "thing p p", "thing one p", "fact p", "fact t", "act t 1", "act p 1",
                    "act none 1"):
            self.check_good(BASE + row)
        self.check_good(ACT + "kind x\nfact go")
        self.check_good(ACT + "fact y")
        self.check_good(ACT + "thing go p")

    def test_two_places_of_one_name(self):
        self.check_base("act do 1 x p x p", 4)
        self.check_base("act do 1 x p x q", 4)

    def test_a_place_called_like_a_thing(self):
        self.check_base("act do 1 t p", 4)
        self.check_base("act do 1 u p", 4)
        self.check_base("act do 1 t p y q", 4)
        self.check_base("act do 1 x p u q", 4)

    def test_a_thing_called_like_a_place(self):
        self.check_act("thing x p", 4)
        self.check_act("thing y p", 4)
        behind = ACT + lines("act do 1")
        self.check(behind + "thing x p", ACT_LINES + 2, 4)
        behind = ACT + lines("act do 1 v p")
        self.check(behind + "thing y q", ACT_LINES + 2, 4)
        self.check(behind + "thing v q", ACT_LINES + 2, 4)


class Fault5(Faults):
    def test_kinds_that_are_not_there(self):
        for row in ("thing v r", "fact f r", "fact f p r", "fact f r p", "act do 1 x r", "act do 1 x p y r",
                    "act do 1 x r y p", "thing v t", "thing v one"):
            self.check_base(row, 5)

    def test_facts_that_are_not_there(self):
        for sort in ("needs", "bars", "brings", "takes", "now", "want"):
            for row in ("f", "p", "t", "go", "f t", "f t u"):
                self.check_act(sort + " " + row, 5)

    def test_arguments_that_are_not_there(self):
        for sort in ("needs", "bars", "brings", "takes"):
            for row in ("one z", "one p", "one go", "two x z", "two z y", "two t z", "two z u"):
                self.check_act(sort + " " + row, 5)

    def test_a_place_of_another_act_is_not_there(self):
        behind = ACT + lines("act do 1 z p")
        self.check(behind + "needs one x", ACT_LINES + 2, 5)
        self.check_good(behind + "needs one z")
        self.check(ACT + lines("act do 1") + "needs one x", ACT_LINES + 2, 5)

    def test_things_that_are_not_there(self):
        for sort in ("now", "want"):
            for row in ("one z", "one x", "one p", "two x u", "two t y", "two t z", "two z u"):
                self.check_act(sort + " " + row, 5)

    def test_what_is_told_only_later_is_not_there(self):
        self.check("thing t p\nkind p\nfact a", 1, 5)
        self.check("fact f p\nkind p\nthing t p", 1, 5)
        self.check("act a 1 x p\nkind p\nfact f", 1, 5)
        self.check("act a 1\nneeds f\nfact f", 2, 5)
        self.check("now f\nfact f", 1, 5)
        self.check("kind p\nfact f p\nwant f t\nthing t p", 3, 5)
        self.check("kind p\nfact f p\nact a 1\nneeds f t\nthing t p", 4, 5)

    def test_a_kind_does_not_name_itself(self):
        self.check("kind p\nfact r r\n", 2, 5)


class Fault6(Faults):
    def test_as_many_arguments_as_the_fact_has_kinds(self):
        for sort in ("needs", "bars", "brings", "takes", "now", "want"):
            for row in ("none t", "none t u", "one", "one t t", "one t u", "two", "two t", "two u"):
                self.check_act(sort + " " + row, 6)

    def test_kinds_in_order(self):
        for sort in ("needs", "bars", "brings", "takes", "now", "want"):
            for row in ("one u", "two u t", "two t t", "two u u"):
                self.check_act(sort + " " + row, 6)

    def test_kinds_of_places(self):
        for sort in ("needs", "bars", "brings", "takes"):
            for row in ("one y", "two y x", "two x x", "two y y", "two x t", "two u y", "none x", "two x", "one x y"):
                self.check_act(sort + " " + row, 6)
            for row in ("one x", "one t", "two x y", "two x u", "two t y", "two t u"):
                self.check_good(ACT + sort + " " + row)

    def test_kinds_of_the_places_of_the_act_told_last(self):
        behind = ACT + lines("act do 1 y p x q")
        self.check(behind + "needs one x", ACT_LINES + 2, 6)
        self.check_good(behind + "needs two y x")


class Fault8(Faults):
    def test_no_act_yet(self):
        for sort in ("needs", "bars", "brings", "takes"):
            for row in ("none", "one t", "two t u"):
                self.check_base(sort + " " + row, 8)
                self.check_good(BASE + "act go 1\n" + sort + " " + row)

    def test_now_and_want_need_no_act(self):
        for sort in ("now", "want"):
            for row in ("none", "one t", "two t u"):
                self.check_good(BASE + sort + " " + row)


class Lowest(Faults):
    """Lines for which several faults hold."""

    def test_1_before_all_others(self):
        for row in ("x", "kind", "kind A", "kind p", "thing v r", "now one u", "needs none", "needs z"):
            self.check_base(row + " " * (61 - len(row)), 1)
            self.check_base(row + "\t", 1)

    def test_2_before_3(self):
        self.check_base("kind A B", 2)
        self.check_base("X 1", 2)
        self.check_base("act go 0 x", 2)

    def test_2_before_4_5_and_8(self):
        self.check_base("kind p p", 2)
        self.check_base("thing t", 2)
        self.check_base("fact f r r r", 2)
        self.check_base("needs two t u t", 2)

    def test_3_before_4(self):
        self.check_base("thing t P", 3)
        self.check_base("fact one P", 3)
        self.check_act("act go 0", 3)
        self.check_base("act A 1 x p x p", 3)
        self.check_base("act do 01 t p", 3)

    def test_3_before_5(self):
        self.check_base("thing V r", 3)
        self.check_base("fact f r P", 3)
        self.check_act("needs f X", 3)
        self.check_act("now z T", 3)
        self.check_base("act do 1000 x r", 3)

    def test_3_before_6_and_8(self):
        self.check_act("needs none X", 3)
        self.check_base("needs none T", 3)
        self.check_base("takes one T", 3)

    def test_4_before_5(self):
        self.check_base("thing t r", 4)
        self.check_base("fact one r", 4)
        self.check_act("act go 1 x r", 4)
        self.check_base("act do 1 x r x p", 4)
        self.check_base("act do 1 t r", 4)
        self.check_act("thing x r", 4)

    def test_4_before_7(self):
        self.check(lines("kind a", "kind b", "kind c", "kind b"), 4, 4)
        things = [f"thing t{number} p" for number in range(6)]
        self.check(lines("kind p", *things, "thing t5 p"), 8, 4)
        self.check(lines("kind p", "act a 1 x p", *things, "thing x p"), 9, 4)
        self.check(lines("fact a", "fact b", "fact c", "fact d", "fact a"), 5, 4)
        self.check(lines("act a 1", "act b 1", "act c 1", "act d 1", "act d 1"), 5, 4)

    def test_5_before_6(self):
        self.check_act("needs none z", 5)
        self.check_act("now none z", 5)
        self.check_act("want two z", 5)
        self.check_act("needs two u z", 5)

    def test_5_before_7(self):
        things = [f"thing t{number} p" for number in range(6)]
        self.check(lines("kind p", *things, "thing t6 r"), 8, 5)
        self.check(lines("fact a", "fact b", "fact c", "fact d", "fact e r"), 5, 5)
        self.check(lines("act a 1", "act b 1", "act c 1", "act d 1", "act e 1 x r"), 5, 5)
        self.check(ACT + "needs none\n" * 6 + "needs z", ACT_LINES + 7, 5)
        self.check(BASE + "now none\n" * 12 + "now one z", BASE_LINES + 13, 5)

    def test_5_before_8(self):
        for sort in ("needs", "bars", "brings", "takes"):
            self.check_base(sort + " f", 5)
            self.check_base(sort + " one x", 5)
            self.check(sort + " f", 1, 5)

    def test_6_before_7(self):
        for sort in ("needs", "bars", "brings", "takes"):
            self.check(ACT + (sort + " none\n") * 6 + sort + " one y", ACT_LINES + 7, 6)
        for sort in ("now", "want"):
            self.check(BASE + (sort + " none\n") * 12 + sort + " one u", BASE_LINES + 13, 6)

    def test_6_before_8(self):
        for sort in ("needs", "bars", "brings", "takes"):
            self.check_base(sort + " one u", 6)
            self.check_base(sort + " none t", 6)

    def test_9_before_10(self):
        acts = ["act a 1 x p y p", "act b 1 x p y p"]
        things = ["kind p", "thing a p", "thing b p", "thing c p"]
        self.check(lines(*things, *acts), 7, 9)
        self.check(lines(*things, *acts, "fact f p p"), 8, 9)
        self.check(lines(*things, *acts, "fact f p"), 8, 10)


class FirstLine(Faults):
    """Several lines with faults: the first is told, whatever its number."""

    def test_the_first_line_is_told(self):
        self.check("fact a\nneeds a\nkind\nx", 2, 8)
        self.check("kind\nneeds a", 1, 2)
        self.check("fact a\nnow b\n\t", 2, 5)
        self.check("fact a\nact b 0\nx\n" + " " * 61, 2, 3)
        self.check("\n\nkind a\nkind a\nkind A", 4, 4)

    def test_a_line_before_what_is_told_behind_the_last(self):
        self.check("x", 1, 2)
        self.check("kind a\nkind a\n", 2, 4)

    def test_a_line_with_a_fault_behind_the_last_good_one(self):
        self.check(ACT + "want none\nwant one u\nwant", ACT_LINES + 2, 6)


if __name__ == "__main__":
    unittest.main()
