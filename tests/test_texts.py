"""Promise 17: the text of a corridor."""

import unittest
from random import Random

from chairwalks.errors import BadText, ChairError
from chairwalks.texts import corridor_text, parse_corridor
from tests.support import HUGE, ODD_VALUES, P, large_cases, ways

# Wrong in the place of each number of a text.
WRONG_NUMBERS = ["", "00", "01", "007", "+1", "-1", "1_0", "1.0", "0x1", "1e1", "a", "l", "O", "for", "None", "True",
                 "\u0661", "\u0660", "\uff11", "\u00b2", "\u00bd", "\u0967", "\u4e00", "\u2460", "\U0001d7cf",
                 "1\n", "\n1", "1\t", "\t1", "1\r", "1\u00a0", "1\u3000", "\u200b1", "\x001", "1,", ",1", "1-", "1;1",
                 "9" * 40, "9" * 1900, "1" * 5000, "0" * 5000, "1001", "501", "1000000", "\u22121", "\ud800"]
WRONG_FORS = ["For", "FOR", "for:", "fo", "forr", "\uff46or", "f\u043er", "for\n", "\tfor", "0-1for"]


class Case(unittest.TestCase):
    def check_bad(self, value, index):
        for _ in range(2):
            with self.assertRaises(ChairError, msg=value) as caught:
                parse_corridor(value)
            self.assertIs(type(caught.exception), BadText)
            self.assertEqual(caught.exception.index, index, value)
            self.assertIs(type(caught.exception.index), type(index))

    def check_right(self, text, corridor):
        self.assertEqual(parse_corridor(text), corridor)
        self.assertEqual(repr(parse_corridor(text)), repr(corridor))
        self.assertEqual(corridor_text(*corridor), text)


class Examples(Case):
    def test_corridor_text(self):
        answers = [corridor_text((2, 0, 0), ((0, 1), (1, 2)), (0, 0, 1)), corridor_text((1, 0), (), (0, 1))]
        self.assertEqual(repr(answers), "['2,0,0 0-1 1-2 for 0,0,1', '1,0 for 0,1']")

    def test_parse_corridor(self):
        self.check_bad("2,0,0 0-1 1-3 for 0,0,1", 2)


class ThereAndBack(Case):
    def test_by_hand(self):
        self.check_right("2,0,0 0-1 1-2 for 0,0,1", ((2, 0, 0), ((0, 1), (1, 2)), (0, 0, 1)))
        self.check_right("1,0 for 0,1", ((1, 0), (), (0, 1)))
        self.check_right("10,50 0-1 for 500,100", ((10, 50), ((0, 1),), (500, 100)))
        self.check_right("1,2,3,4,5,6,7,8,9,10 0-9 8-9 for 0,0,0,0,0,0,0,0,0,0",
                         (tuple(range(1, 11)), ((0, 9), (8, 9)), (0,) * 10))

    def test_all_numbers(self):
        for chairs in range(51):
            self.check_right(f"{chairs},0 for 0,0", ((chairs, 0), (), (0, 0)))
        for want in range(501):
            self.check_right(f"0,0 for 0,{want}", ((0, 0), (), (0, want)))

    def test_all_ways(self):
        for stations in range(2, 11):
            row = ",".join(["3"] * stations)
            for first, last in ways(stations):
                self.check_right(f"{row} {first}-{last} for {row}",
                                 ((3,) * stations, ((first, last),), (3,) * stations))

    def test_none_and_forty_walkers(self):
        for stations in range(2, 11):
            for many in (0, 1, 39, 40):
                words = ["0" + ",0" * (stations - 1)] + ["0-1"] * many + ["for", "1" + ",1" * (stations - 1)]
                self.check_right(" ".join(words), ((0,) * stations, ((0, 1),) * many, (1,) * stations))

    def test_large_cases(self):
        for row, walkers, wants in large_cases(200):
            text = corridor_text(row, walkers, wants)
            self.assertIs(type(text), str)
            self.check_right(text, (row, walkers, wants))

    def test_only_texts_of_corridors_are_accepted(self):
        # What is accepted is the text of the answer, so that no corridor has a second text.
        random = Random(3)
        accepted = 0
        for row, walkers, wants in large_cases(300):
            text = corridor_text(row, walkers[:4], wants)
            at = random.randrange(len(text))
            other = random.choice("0123456789,- for\n")
            for middle, end in ((other, at + 1), (other, at), ("", at + 1)):
                changed = text[:at] + middle + text[end:]
                try:
                    corridor = parse_corridor(changed)
                except BadText:
                    continue
                accepted += 1
                self.assertEqual(corridor_text(*corridor), changed)
        self.assertGreater(accepted, 50)


class WrongRows(Case):
    def check_row(self, word):
        for rest in (" 0-1 for 0,0", " 0-1 x for 0", "", " ", " for"):
            self.check_bad(word + rest, 0)

    def test_wrong_numbers(self):
        for number in WRONG_NUMBERS + ["51", "52", "100"]:
            self.check_row(f"{number},0")
            self.check_row(f"0,{number}")
            self.check_row(f"0,{number},0")
            self.check_row("0," * 9 + number)

    def test_numbers_of_stations(self):
        for word in ("", "0", "5", "0,", ",0", ",", "0,,0", "0,0,"):
            self.check_row(word)
        for stations in (11, 12, 100):
            self.check_row("0" + ",0" * (stations - 1))
            self.check_bad(" ".join(["0" + ",0" * (stations - 1), "for", "0" + ",0" * (stations - 1)]), 0)

    def test_other_signs(self):
        for word in ("0;0", "0-0", "0.0", "(0,0)", "[0,0]", "0/0", "for", "0,0for", "0,0\n"):
            self.check_row(word)


class WrongWalkers(Case):
    def check_walker(self, word):
        """Check that a word is not the text of a walker for three stations, in each place."""
        for before in range(5):
            first = ["2,0,0"] + ["0-1", "1-2", "0-2", "0-2"][:before]
            for rest in (["for", "0,0,1"], ["0-1", "for", "0,0,1"], [], ["0-1"], ["x", "for", "0"], ["for"], ["51"]):
                self.check_bad(" ".join(first + [word] + rest), before + 1)

    def test_wrong_numbers(self):
        for number in WRONG_NUMBERS + ["3", "4", "9", "10"]:
            self.check_walker(f"0-{number}")
            self.check_walker(f"{number}-2")

    def test_ways_that_lead_nowhere(self):
        for word in ("0-0", "1-1", "2-2", "1-0", "2-0", "2-1"):
            self.check_walker(word)

    def test_stations_outside(self):
        for stations in range(2, 11):
            row = "1" + ",1" * (stations - 1)
            for first in range(12):
                for last in range(12):
                    text = f"{row} 0-1 {first}-{last} for {row}"
                    if (first, last) in ways(stations):
                        self.assertEqual(parse_corridor(text)[1], ((0, 1), (first, last)))
                    else:
                        self.check_bad(text, 2)

    def test_other_forms(self):
        for word in ("", "-", "0", "1", "0-", "-1", "0-1-2", "0--1", "0-1-", "-0-1", "0,1", "01", "0:1", "(0-1)",
                     "0\u20131", "0\u22121", "0_1", "0-1\n", "\n0-1", "0-1\t1-2", "0-1\n1-2"):
            self.check_walker(word)

    def test_two_spaces(self):
        self.check_bad("2,0,0  0-1 for 0,0,1", 1)
        self.check_bad("2,0,0 0-1  1-2 for 0,0,1", 2)
        self.check_bad("2,0,0 0-1 1-2  for 0,0,1", 3)
        self.check_bad("2,0,0   for 0,0,1", 1)

    def test_forty_one_walkers(self):
        for many in (41, 42, 100):
            walkers = " ".join(["0-1"] * many)
            for rest in (" for 0,0,1", "", " x for 0,0,1", " for", " for 0"):
                self.check_bad("2,0,0 " + walkers + rest, 41)
        forty = " ".join(["0-1"] * 40)
        self.assertEqual(len(parse_corridor(f"2,0,0 {forty} for 0,0,1")[1]), 40)
        self.check_bad(f"2,0,0 {forty} x for 0,0,1", 41)
        self.check_bad(f"2,0,0 0-1 x {forty} for 0,0,1", 2)

    def test_forty_walkers_and_no_for(self):
        forty = " ".join(["0-1"] * 40)
        self.check_bad(f"2,0,0 {forty}", 41)
        self.check_bad(f"2,0,0 {forty} 0,0,1", 41)
        self.check_bad(f"2,0,0 {forty} for", 42)
        self.check_bad(f"2,0,0 {forty} for 0,0", 42)
        self.check_bad(f"2,0,0 {forty} for 0,0,1 ", 43)


class WrongFors(Case):
    def test_other_words(self):
        for word in WRONG_FORS:
            self.check_bad(f"2,0,0 {word} 0,0,1", 1)
            self.check_bad(f"2,0,0 0-1 {word} 0,0,1", 2)
            self.check_bad(f"2,0,0 0-1 1-2 {word}", 3)

    def test_missing(self):
        self.check_bad("2,0,0 0,0,1", 1)
        self.check_bad("2,0,0 0-1 1-2 0,0,1", 3)
        self.check_bad("2,0,0 0-1 1-2", 3)
        self.check_bad("2,0,0", 1)
        self.check_bad("2,0,0 ", 1)

    def test_twice(self):
        self.check_bad("2,0,0 for for 0,0,1", 2)
        self.check_bad("2,0,0 0-1 for for 0,0,1", 3)
        self.check_bad("2,0,0 for 0-1 for 0,0,1", 2)
        self.check_bad("2,0,0 0-1 for 0,0,1 for", 4)
        self.check_bad("2,0,0 0-1 for 0,0,1 for 0,0,1", 4)
        self.check_bad("2,0,0 0-3 for for", 1)

    def test_as_the_first_and_as_the_last_word(self):
        self.check_bad("for", 0)
        self.check_bad("for 0,0,1", 0)
        self.check_bad("for 2,0,0 0-1 for 0,0,1", 0)
        self.check_bad("2,0,0 for", 2)
        self.check_bad("2,0,0 0-1 1-2 for", 4)
        self.check_bad("2,0,0 0-1 1-3 for", 2)


class WrongWants(Case):
    def check_wants(self, word):
        """Check that a word is not the text of wants for three stations."""
        for before in range(4):
            words = ["2,0,0"] + ["0-1", "1-2", "0-2"][:before] + ["for", word]
            for rest in ([], ["x"], [""], ["0,0,1"]):
                self.check_bad(" ".join(words + rest), before + 2)

    def test_wrong_numbers(self):
        for number in WRONG_NUMBERS + ["999", "5000"]:
            self.check_wants(f"0,0,{number}")
            self.check_wants(f"{number},0,0")
            self.check_wants(f"500,{number},500")

    def test_other_numbers_of_wants(self):
        for word in ("", "0", "0,0", "0,0,0,0", "0,0,", ",0,0", ",,", "0,,0", "0,0,0,"):
            self.check_wants(word)
        for stations in range(2, 11):
            for many in range(1, 13):
                text = "1" + ",1" * (stations - 1) + " for 1" + ",1" * (many - 1)
                if many == stations:
                    self.check_right(text, ((1,) * stations, (), (1,) * stations))
                else:
                    self.check_bad(text, 2)

    def test_other_forms(self):
        for word in ("for", "0-1", "0;0;0", "0-0-0", "(0,0,0)", "0,0,0\n", "0,\n0,0", "x"):
            self.check_wants(word)

    def test_words_behind(self):
        for word in ("x", "0", "0-1", "for", "0,0,1", "\n"):
            self.check_bad(f"2,0,0 for 0,0,1 {word}", 3)
            self.check_bad(f"2,0,0 0-1 1-2 for 0,0,1 {word} y", 5)

    def test_spaces(self):
        self.check_bad("2,0,0 for  0,0,1", 2)
        self.check_bad("2,0,0 0-1 for  0,0,1", 3)
        self.check_bad("2,0,0 for 0,0,1 ", 3)
        self.check_bad("2,0,0 0-1 for 0,0,1  ", 4)
        self.check_bad(" 2,0,0 for 0,0,1", 0)
        self.check_bad("  2,0,0 for 0,0,1", 0)
        self.check_bad("2,0,0 for ", 2)
        self.check_bad("2, 0,0 for 0,0,1", 0)
        self.check_bad("2,0,0 for 0, 0,1", 2)

    def test_other_blanks(self):
        for blank in ("\n", "\t", "\r\n", "\u00a0", "\u3000", "\x0b"):
            self.check_bad(f"2,0,0{blank}for 0,0,1", 0)
            self.check_bad(f"2,0,0 0-1{blank}for 0,0,1", 1)
            self.check_bad(f"2,0,0 for{blank}0,0,1", 1)
            self.check_bad(f"2,0,0 for 0,0,1{blank}", 2)


class Ends(Case):
    def test_a_text_that_ends_too_early(self):
        words = corridor_text((2, 0, 0), P, (0, 0, 1)).split(" ")
        for many in range(1, len(words)):
            self.check_bad(" ".join(words[:many]), many)
            self.check_bad(" ".join(words[:many]) + " ", many)
        self.check_bad("", 0)
        self.check_bad(" ", 0)

    def test_the_first_wrong_word_of_several(self):
        words = "2,0,0 0-1 1-2 for 0,0,1 x".split(" ")
        for first in range(6):
            for second in range(first, 6):
                if 3 not in (first, second):
                    changed = list(words)
                    changed[first] = changed[second] = "?"
                    self.check_bad(" ".join(changed), first)

    def test_values_that_are_no_texts(self):
        for value in ODD_VALUES + [b"1,0 for 0,1", ["1,0 for 0,1"], ("1,0", "for", "0,1"), {"1,0 for 0,1": 1},
                                   ((1, 0), (), (0, 1)), HUGE, 1.0, True]:
            if not isinstance(value, str):
                self.check_bad(value, None)

    def test_any_text(self):
        for value in ("plan", "bar", "\n", "2,0,0\n", "a" * 2000, " " * 2000, "for " * 500, "0," * 1000, "-" * 2000):
            self.check_bad(value, 0)
        self.check_bad("2,0,0", 1)
        self.check_bad("0,0" + " 0-1" * 499, 41)
        self.check_bad("0,0 for" * 200, 1)


if __name__ == "__main__":
    unittest.main()
