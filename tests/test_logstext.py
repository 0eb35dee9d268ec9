"""[30] logs_text and logs_of_text; [0.3] (d)."""

import re
import unittest
from random import Random

from starclocks.errors import BadLogs, BadText
from starclocks.logs import logs_of
from starclocks.logstext import logs_of_text, logs_text
from starclocks.parts import house
from tests.helper import (BARE, HOUSES, LINE, PIECES, ROAD, all_houses, asks_forms_alone, full_house, plain, refuses,
                          some_histories, spoilt, two_roads, with_row)
from tests.test_housetext import spoilt_text

A = logs_of(LINE, (0, 1, 0))
A_TEXT = "hand 0\nwith 1 1 0\nwith 1 2 1\nhand 1\nwith 0 1 0\nwith 2 1 1\nwith 0 2 1\nhand 2\nwith 1 1 1"
EMPTY = ((), (), ())


def bad_row_by_words(home, text):
    """The index that logs_of_text is to tell, row by row, or None."""
    hand = -1
    for i, row in enumerate(text.split("\n")):
        if not re.fullmatch("(?:hand|with)(?: (?:0|[1-9][0-9]{0,2}))+", row, re.ASCII):
            return i
        word, *words = row.split(" ")
        numbers = [int(number) for number in words]
        if word == "hand":
            if numbers != [hand + 1] or hand + 1 >= home.n:
                return i
            hand += 1
        else:
            pair = (min(hand, numbers[0]), max(hand, numbers[0]))
            if hand < 0 or pair not in home.roads or len(numbers) != 1 + len(home.parts) or max(numbers[1:]) > 200:
                return i
    return None if hand == home.n - 1 else len(text.split("\n"))


def by_form(home, logs):
    """Whether all rows can be written."""
    try:
        logs_text(home, logs)
    except BadLogs:
        return False
    return True


class LogsText(unittest.TestCase):
    def test_word_by_word(self):
        self.assertEqual(logs_text(LINE, A), A_TEXT)
        self.assertEqual(logs_text(LINE, EMPTY), "hand 0\nhand 1\nhand 2")
        self.assertEqual(logs_text(logs=((),), house=house(1, (), ())), "hand 0")
        self.assertEqual(logs_text(ROAD, (((1, (0,)), (1, (200,))), ())), "hand 0\nwith 1 0\nwith 1 200\nhand 1")
        self.assertEqual(logs_text(full_house(), ((),) * 10), "\n".join(f"hand {k}" for k in range(10)))
        self.assertIs(type(logs_text(LINE, EMPTY)), str)

    def test_read_back_as_written(self):
        for home in HOUSES + (full_house(),):
            for history in some_histories(home, longest=200):
                logs = logs_of(home, history)
                text = logs_text(home, logs)
                got = logs_of_text(home, text)
                plain(self, got)
                self.assertEqual(got, logs)
                self.assertEqual(logs_text(home, got), text)
        for home in all_houses():
            self.assertEqual(logs_of_text(home, logs_text(home, ((),) * home.n)), ((),) * home.n)
        self.assertEqual(logs_of_text(text=A_TEXT, house=LINE), A)

    def test_logs_that_are_not_right(self):
        many = 0
        for home in HOUSES:
            chance = Random(home.n)
            for history in some_histories(home, longest=12):
                for _ in range(6):
                    logs = spoilt(chance, home, logs_of(home, history))
                    if by_form(home, logs):
                        self.assertEqual(logs_of_text(home, logs_text(home, logs)), logs)
                        many += 1
        self.assertGreater(many, 100)
        odd = (((1, (200, 0)), (1, (0, 200)), (1, (0, 0))), (), ((1, (7, 7)),) * 500)
        self.assertEqual(logs_of_text(LINE, logs_text(LINE, odd)), odd)
        self.assertEqual(logs_of_text(PIECES, logs_text(PIECES, two_roads(200, 200))), two_roads(200, 200))

    def test_rows_that_are_not_by_form(self):
        asks_forms_alone(self, logs_text)
        refuses(self, BadLogs, (0, 1, 0), logs_text, LINE, with_row(A, 0, 1, (1, (2, 201))))

    def test_spoilt_texts(self):
        told = []
        for home in HOUSES + (BARE, house(1, (), ())):
            chance = Random(home.n)
            histories = some_histories(home, many=4, longest=5) if home.roads else ((),)
            for history in histories:
                for _ in range(120):
                    text = spoilt_text(chance, logs_text(home, logs_of(home, history)))
                    at = bad_row_by_words(home, text)
                    if at is None:
                        self.assertEqual(logs_text(home, logs_of_text(home, text)), text)
                    else:
                        refuses(self, BadText, at, logs_of_text, home, text)
                    told.append(at)
        self.assertGreater(told.count(None), 50)
        for at in range(6):
            self.assertGreater(told.count(at), 40)

    def test_hand_rows(self):
        for row in ("", "hand", "hand ", "hand 1", "hand 00", "hand 0 ", " hand 0", "hand  0", "hand 0 0", "Hand 0",
                    "hands 0", "hand x", "hand -0", "hand \u0660", "hand 0\r", "with 1 1 0", "hand 3", "hand\t0"):
            refuses(self, BadText, 0, logs_of_text, LINE, row)
            refuses(self, BadText, 0, logs_of_text, LINE, row + "\nhand 1\nhand 2")
        for row in ("hand 0", "hand 2", "hand 01", "hand 3", "hand", ""):
            refuses(self, BadText, 1, logs_of_text, LINE, "hand 0\n" + row + "\nhand 2")
            refuses(self, BadText, 2, logs_of_text, LINE, "hand 0\nwith 1 1 0\n" + row)
        refuses(self, BadText, 3, logs_of_text, LINE, "hand 0\nhand 1\nhand 2\nhand 3")
        refuses(self, BadText, 3, logs_of_text, LINE, "hand 0\nhand 1\nhand 2\n")
        refuses(self, BadText, 1, logs_of_text, house(1, (), ()), "hand 0\nhand 1")
        refuses(self, BadText, 10, logs_of_text, full_house(), logs_text(full_house(), ((),) * 10) + "\nhand 10")

    def test_with_rows(self):
        for row in ("", "with", "with ", "with 1", "with 1 1", "with 1 1 0 0", "with 1 1 0 ", "with  1 1 0",
                    " with 1 1 0", "with 1 1  0", "with 0 1 0", "with 2 1 0", "with 3 1 0", "with 01 1 0",
                    "with 1 01 0", "with 1 1 00", "with 1 201 0", "with 1 1 999", "with 1 1 1000", "with 1 -1 0",
                    "with 1 +1 0", "with 1 x 0", "with x 1 0", "with 1 1 0\r", "With 1 1 0", "with\t1 1 0",
                    "with 1 1,0",
                    "with 1 1 \u0660", "with 1 \u00b2 0", "with 1 \uff11 0", "with 1 1 0x", "with 1 1_0 0",
                    "road 1 1 0", "hand 0", "with 1 1 " + "1" * 9000, "with" + " 1" * 9000):
            refuses(self, BadText, 1, logs_of_text, LINE, "hand 0\n" + row + "\nhand 1\nhand 2")
            refuses(self, BadText, 2, logs_of_text, LINE, "hand 0\nwith 1 1 0\n" + row)
        refuses(self, BadText, 1, logs_of_text, BARE, "hand 0\nwith 1\nhand 1\nhand 2")
        refuses(self, BadText, 3, logs_of_text, LINE, "hand 0\nhand 1\nhand 2\nwith 0 1 0")
        self.assertEqual(logs_of_text(LINE, "hand 0\nwith 1 0 200\nhand 1\nhand 2"), (((1, (0, 200)),), (), ()))

    def test_hands_that_are_lacking(self):
        refuses(self, BadText, 0, logs_of_text, LINE, "")
        refuses(self, BadText, 1, logs_of_text, LINE, "hand 0")
        refuses(self, BadText, 2, logs_of_text, LINE, "hand 0\nhand 1")
        refuses(self, BadText, 3, logs_of_text, LINE, "hand 0\nwith 1 1 0\nhand 1")
        refuses(self, BadText, 9, logs_of_text, full_house(), logs_text(full_house(), ((),) * 10)[:-7])

    def test_a_line_feed_at_the_end_or_at_the_beginning(self):
        refuses(self, BadText, 9, logs_of_text, LINE, A_TEXT + "\n")
        refuses(self, BadText, 0, logs_of_text, LINE, "\n" + A_TEXT)
        refuses(self, BadText, 8, logs_of_text, LINE, A_TEXT + " ")
        refuses(self, BadText, 0, logs_of_text, LINE, A_TEXT.replace("\n", "\r\n"))


if __name__ == "__main__":
    unittest.main()
