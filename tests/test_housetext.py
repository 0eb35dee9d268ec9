"""[30] house_text and house_of; [0.3] (d)."""

import re
import unittest
from random import Random

from starclocks.errors import BadPart, BadText
from starclocks.fewest import fewest
from starclocks.housetext import house_of, house_text
from starclocks.parts import House, house, is_parts
from starclocks.webs import some_parts
from tests.helper import BARE, LINE, ROAD, TRIANGLE, all_houses, full_house, refuses, webs

LINE_TEXT = "hands 3\nroad 0 1\nroad 1 2\npart 0\npart 1"
SIGNS = "0129 \nhandsropt\tR-+_.x" + "\u0661\u00b2\uff11\u00a0\r\x0b\x0c\u2028"


def numbers_by_words(row, first):
    """The numbers of a row of this first word and of number words, or None."""
    if not re.fullmatch(first + "(?: (?:0|[1-9][0-9]{0,2}))*", row, re.ASCII):
        return None
    return tuple(int(word) for word in row.split(" ")[1:])


def bad_row_by_words(text):
    """The index that house_of is to tell, row by row, or None."""
    rows = text.split("\n")
    size = numbers_by_words(rows[0], "hands")
    if size is None or len(size) != 1 or not 1 <= size[0] <= 10:
        return 0
    roads, parts = (), ()
    for i, row in enumerate(rows[1:], start=1):
        road, part = numbers_by_words(row, "road"), numbers_by_words(row, "part")
        if road is not None and parts == () and is_parts(size[0], roads + (road,), tuple(
                (k,) for k in range(len(roads) + 1))):
            roads += (road,)
        elif part is not None:
            try:
                house(size[0], roads, parts + (part,))
            except BadPart as e:
                if e.what != len(parts) + 1:
                    return i
            parts += (part,)
        else:
            return i
    return None if is_parts(size[0], roads, parts) else len(rows)


def spoilt_text(chance, text):
    """The text with one to three small changes of signs, words or rows."""
    for _ in range(chance.randint(1, 3)):
        how = chance.randrange(7)
        at = chance.randint(0, len(text))
        rows = text.split("\n")
        row = chance.randrange(len(rows))
        if how == 0:
            text = text[:at] + chance.choice(SIGNS) + text[at:]
        elif how == 1:
            text = text[:at] + text[at + 1:]
        elif how == 2:
            text = text[:at] + chance.choice(SIGNS) + text[at + 1:]
        elif how == 3:
            text = "\n".join(rows[:row] + rows[row + 1:])
        elif how == 4:
            text = "\n".join(rows[:row] + [rows[chance.randrange(len(rows))]] + rows[row:])
        elif how == 5:
            other = chance.randrange(len(rows))
            rows[row], rows[other] = rows[other], rows[row]
            text = "\n".join(rows)
        else:
            words = rows[row].split(" ")
            words.insert(chance.randint(1, len(words)), chance.choice(("0", "1", "2", "3", "10", "00", "200", "201")))
            text = "\n".join(rows[:row] + [" ".join(words)] + rows[row + 1:])
    return text


class HouseText(unittest.TestCase):
    def test_word_by_word(self):
        self.assertEqual(house_text(LINE), LINE_TEXT)
        self.assertEqual(house_text(TRIANGLE), "hands 3\nroad 0 1\nroad 0 2\nroad 1 2\npart 0 1 2")
        self.assertEqual(house_text(ROAD), "hands 2\nroad 0 1\npart 0")
        self.assertEqual(house_text(house=BARE), "hands 3")
        self.assertIs(type(house_text(BARE)), str)
        home = house(10, tuple((k, 9) for k in range(9)), ((0, 1, 2, 3, 4, 5, 6, 7, 8),))
        self.assertEqual(house_text(home), "hands 10\n" + "".join(f"road {k} 9\n" for k in range(9))
                         + "part 0 1 2 3 4 5 6 7 8")
        self.assertEqual(house_text(full_house()).split("\n")[-1], "part 44")

    def test_read_back_as_written(self):
        homes = list(all_houses()) + [house(n, (), ()) for n in range(1, 11)]
        for n in range(1, 5):
            for roads in webs(n):
                homes.append(house(n, roads, some_parts(n, roads)))
                homes.append(house(n, roads, tuple((i,) for i in range(len(roads)))))
        homes.append(house(4, ((0, 2), (0, 3), (1, 2)), fewest(4, ((0, 2), (0, 3), (1, 2)))[0]))
        texts = set()
        for home in homes:
            text = house_text(home)
            got = house_of(text)
            self.assertIs(type(got), House)
            self.assertEqual((got.n, got.roads, got.parts), (home.n, home.roads, home.parts))
            for value in (got.roads, got.parts) + got.roads + got.parts:
                self.assertIs(type(value), tuple)
            self.assertEqual(got, home)
            self.assertEqual(house_text(got), text)
            texts.add((text, home.n, home.roads, home.parts))
        self.assertEqual(len(texts), len({text for text, *_ in texts}))
        self.assertEqual(house_of(text=LINE_TEXT), LINE)

    def test_spoilt_texts(self):
        told = []
        for home in all_houses()[:-1]:
            chance = Random(house_text(home))
            for _ in range(400):
                text = spoilt_text(chance, house_text(home))
                at = bad_row_by_words(text)
                if at is None:
                    self.assertEqual(house_text(house_of(text)), text)
                else:
                    refuses(self, BadText, at, house_of, text)
                told.append(at)
        self.assertGreater(told.count(None), 50)
        for at in range(5):
            self.assertGreater(told.count(at), 40)

    def test_the_first_row(self):
        for row in ("", " ", "hands", "hands ", "hands 0", "hands 11", "hands 01", "hands 1 ", " hands 1", "hands  1",
                    "hands 1 1", "Hands 1", "hand 1", "hands 1\r", "hands -1", "hands +1", "hands 1.", "hands x",
                    "hands 100", "hands 1000", "hands 0001", "hands \u0661", "hands \u00b2", "hands \uff11",
                    "hands\t1", "hands\u00a01", "hands1", "road 0 1", "\ufeffhands 1", "hands 1_0", "hands 1" * 2,
                    "hands " + "1" * 9000, "hands 1" + " 1" * 9000, "x" * 90000):
            refuses(self, BadText, 0, house_of, row)
            refuses(self, BadText, 0, house_of, row + "\nx")
        for n in range(1, 11):
            self.assertEqual(house_of(f"hands {n}"), house(n, (), ()))

    def test_road_rows(self):
        begun = "hands 3\nroad 0 2\n"
        for row in ("", "road", "road ", "road 1", "road 1 2 ", "road 1 2 0", "road 1  2", " road 1 2", "road 2 1",
                    "road 1 1", "road 0 2", "road 0 1", "road 1 3", "road 01 2", "road 1 02", "road 1 -2", "road 1 x",
                    "road 1 \u0662", "roads 1 2", "Road 1 2", "road 1 2\r", "road\t1 2", "road 1,2", "road 1 1000",
                    "hands 3", "with 1 2", "road 00 1", "road 1 " + "2" * 9000):
            refuses(self, BadText, 2, house_of, begun + row)
            refuses(self, BadText, 2, house_of, begun + row + "\npart 0")
        self.assertEqual(house_of(begun + "road 1 2\npart 0\npart 1").roads, ((0, 2), (1, 2)))

    def test_part_rows(self):
        begun = "hands 4\nroad 0 1\nroad 0 2\nroad 1 2\nroad 2 3\n"
        for row in ("", "part", "part ", "part 4", "part 0 0", "part 1 0", "part 0 3", "part 0 1 2 3", "part 0 ",
                    "part 0  1", " part 0", "part 00", "part 0 01", "part x", "part 0 x", "part -1", "part \u0660",
                    "parts 0", "part 0\r", "Part 0", "part 0 10", "part 1000", "part 0 1 1", "hands 4", "road 0 1",
                    "part " + "3" * 9000):
            refuses(self, BadText, 5, house_of, begun + row)
        # Behind a part row: no road row, no lesser first index, no road of an earlier part.
        for row in ("road 2 3", "road 3 4", "part 0 1", "part 0", "part 1 2", "part 2 3 4", ""):
            refuses(self, BadText, 6, house_of, begun + "part 1 2\n" + row)
        refuses(self, BadText, 3, house_of, "hands 3\nroad 0 1\npart 0\nroad 1 2\npart 1")
        self.assertEqual(house_of(begun + "part 0 1 2\npart 3").parts, ((0, 1, 2), (3,)))
        self.assertEqual(house_of(begun + "part 0\npart 1 3\npart 2").parts, ((0,), (1, 3), (2,)))

    def test_a_road_in_no_part(self):
        refuses(self, BadText, 2, house_of, "hands 2\nroad 0 1")
        refuses(self, BadText, 4, house_of, "hands 3\nroad 0 1\nroad 1 2\npart 0")
        refuses(self, BadText, 4, house_of, "hands 3\nroad 0 1\nroad 1 2\npart 1")

    def test_a_line_feed_at_the_end_or_at_the_beginning(self):
        for home in all_houses():
            text = house_text(home)
            refuses(self, BadText, text.count("\n") + 1, house_of, text + "\n")
            refuses(self, BadText, text.count("\n") + 1, house_of, text + "\n\n")
            refuses(self, BadText, 0, house_of, "\n" + text)
            refuses(self, BadText, text.count("\n"), house_of, text + " ")
            refuses(self, BadText, 0, house_of, text.replace("\n", "\r\n") if "\n" in text else text + "\r")


if __name__ == "__main__":
    unittest.main()
