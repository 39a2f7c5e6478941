"""Point 13: which texts are those of a chest, and that each other one is refused with NoText."""

import unittest

from lastwill.errors import NoText
from lastwill.notes import read, written

NINE = 999999999

FIRST = "next 12 7"
BOXES = ["box 0 2 hand", "box 3 9 free", "box 11 0 hand"]
SLOTS = ["slot 0 1 3 holds", "slot 3 0 3 looks", "slot 3 8 11 holds"]
PAIRS = ["pair 2 0 3 11", "pair 6 3 3 3"]
WILLS = ["will 0 up", "will 3 down 40 hang 3 8 looks up hang 99 5 holds", "will 11 hang 0 0 holds"]
ROWS = [FIRST, *BOXES, *SLOTS, *PAIRS, *WILLS]


def text_of(*rows):
    return "\n".join(rows)


class ReadCase(unittest.TestCase):
    def assert_no_text(self, text):
        with self.subTest(text[:200]):
            with self.assertRaises(NoText) as caught:
                read(text)
            self.assertIs(type(caught.exception), NoText)

    def assert_text(self, text):
        with self.subTest(text[:200]):
            self.assertEqual(written(read(text)), text)

    def with_row(self, old, new):
        """The text of the rows above with another row in the place of one of them."""
        rows = list(ROWS)
        rows[rows.index(old)] = new
        return text_of(*rows)

    def assert_rows_refused(self, old, *news):
        for new in news:
            self.assert_no_text(self.with_row(old, new))

    def assert_rows_read(self, old, *news):
        for new in news:
            self.assert_text(self.with_row(old, new))


class Good(ReadCase):
    def test_the_rows_are_a_text(self):
        chest = read(text_of(*ROWS))
        self.assertEqual(chest.boxes(), [0, 3, 11])
        self.assertEqual([chest.size(box) for box in (0, 3, 11)], [2, 9, 0])
        self.assertEqual(chest.hands(), [0, 11])
        self.assertEqual([chest.told(0, slot) for slot in range(2)], [None, (3, True)])
        self.assertEqual([chest.told(3, slot) for slot in range(9)], [(3, False)] + [None] * 7 + [(11, True)])
        self.assertEqual(chest.pairs(), [(2, 0, 3, 11), (6, 3, 3, 3)])
        self.assertEqual(chest.will(0), [("up",)])
        self.assertEqual(chest.will(3), [("down", 40), ("hang", 3, 8, False), ("up",), ("hang", 99, 5, True)])
        self.assertEqual(chest.will(11), [("hang", 0, 0, True)])
        self.assertEqual(written(chest), text_of(*ROWS))
        self.assertEqual(chest.make(1), 12)
        self.assertEqual(chest.pair(0, 0, 0), 7)

    def test_each_kind_of_row_may_be_missing(self):
        self.assert_text(FIRST)
        self.assert_text(text_of(FIRST, *BOXES))
        self.assert_text(text_of(FIRST, *BOXES, *SLOTS))
        self.assert_text(text_of(FIRST, *BOXES, *PAIRS))
        self.assert_text(text_of(FIRST, *BOXES, *WILLS))
        self.assert_text(text_of(FIRST, *BOXES, *SLOTS, *WILLS))

    def test_any_two_numbers_above_those_of_boxes_and_pairs(self):
        self.assert_rows_read(FIRST, "next 13 7", "next 12 8", f"next {NINE} {NINE}", f"next 12 {NINE}")
        for first in ("next 0 0", "next 0 5", "next 5 0", f"next {NINE} {NINE}"):
            self.assert_text(first)
        chest = read(text_of("next 500 600", "box 3 0 hand"))
        self.assertEqual(chest.make(0), 500)
        self.assertEqual(chest.pair(3, 3, 500), 600)

    def test_numbers_of_nine_figures(self):
        low, high = 123456789, NINE - 1
        text = text_of(f"next {NINE} {NINE}", f"box {low} 1 free", f"box {high} 9 hand",
                       f"slot {low} 0 {high} holds", f"slot {high} 8 {low} looks", f"pair {low} {low} {high} {low}",
                       f"pair {high} {high} {high} {high}",
                       f"will {high} down {NINE} hang {NINE} {NINE} holds")
        self.assert_text(text)
        chest = read(text)
        self.assertEqual(chest.boxes(), [low, high])
        self.assertEqual(chest.told(high, 8), (low, False))
        self.assertEqual(chest.make(0), NINE)

    def test_60_boxes_60_pairs_and_nine_deeds(self):
        boxes = [f"box {box} 0 free" for box in range(60)]
        pairs = [f"pair {pair} 59 0 1" for pair in range(60)]
        for deed in ("up", "down 3", "hang 1 2 looks"):
            self.assert_text(text_of("next 60 60", *boxes, *pairs, " ".join(["will 7", *[deed] * 9])))

    def test_wills_may_tell_boxes_and_slots_that_there_are_none_of(self):
        self.assert_rows_read("will 0 up", "will 0 down 1", "will 0 hang 1 0 holds", "will 0 hang 0 2 looks",
                              f"will 0 hang {NINE} {NINE} looks")


class Signs(ReadCase):
    def test_no_rows(self):
        for text in ("", " ", "\n", "\t", "next", "box 0 0 hand", "0 0", "hand", "\nnext 0 0"):
            self.assert_no_text(text)

    def test_a_line_feed_too_many(self):
        text = text_of(*ROWS)
        self.assert_no_text(text + "\n")
        self.assert_no_text("\n" + text)
        self.assert_no_text(text + "\n\n")
        self.assert_no_text("next 0 0\n")
        for at in range(1, len(ROWS)):
            self.assert_no_text(text_of(*ROWS[:at], "", *ROWS[at:]))

    def test_blanks_and_tabs(self):
        text = text_of(*ROWS)
        for at in range(len(text)):
            for sign in " \t":
                with self.subTest((at, sign)):
                    self.assert_no_text(text[:at] + sign + text[at:])
            if text[at] == " ":
                self.assert_no_text(text[:at] + "\t" + text[at + 1:])
                self.assert_no_text(text[:at] + "\n" + text[at + 1:])
                self.assert_no_text(text[:at] + text[at + 1:])
            if text[at] == "\n":
                self.assert_no_text(text[:at] + " " + text[at + 1:])
                self.assert_no_text(text[:at] + text[at + 1:])
        for sign in (" ", "\t"):
            self.assert_no_text(text + sign)

    def test_a_text_that_is_cut_short(self):
        text = text_of(*ROWS)
        for end in range(len(text)):
            # A text may end at the end of a row; there stand some numbers, too, that are shorter by a figure.
            if text[end] != "\n" and not text[:end][-1:].isdigit():
                head = text[:end]
                if head.split("\n")[-1] not in ("will 3 down 40 hang 3 8 looks up", "will 3 down 40 hang 3 8 looks"):
                    self.assert_no_text(head)

    def test_another_case_and_other_words(self):
        self.assert_no_text(text_of(*ROWS).upper())
        self.assert_rows_refused(FIRST, "Next 12 7", "nexts 12 7", "next 12 7 next", "12 7")
        self.assert_rows_refused("box 0 2 hand", "Box 0 2 hand", "box 0 2 hands", "box 0 2 held", "box 0 2 FREE",
                                 "box 0 2 holds", "box 0 2", "0 2 hand", "box 0 2 0", "box hand 2 0", "crate 0 2 hand")
        self.assert_rows_refused("slot 0 1 3 holds", "slot 0 1 3 hold", "slot 0 1 3 looked", "slot 0 1 3 hand",
                                 "slot 0 1 3 free", "slot 0 1 3 True", "slots 0 1 3 holds", "slot 0 1 3 1")
        self.assert_rows_refused("pair 2 0 3 11", "pairs 2 0 3 11", "pair 2 0 3 11 holds", "pair 2 0 3 x")
        self.assert_rows_refused("will 0 up", "will 0 Up", "will 0 upp", "will 0 take", "wills 0 up", "will up 0")

    def test_a_row_of_another_kind(self):
        for row in ("note 0", "hands 0 11", "next 12 7", "end", "#", "lost 3", "0", "box", "slot", "pair", "will"):
            for at in range(len(ROWS) + 1):
                self.assert_no_text(text_of(*ROWS[:at], row, *ROWS[at:]))


class Numbers(ReadCase):
    def test_each_number_is_written_by_figures(self):
        text = text_of(*ROWS)
        words = [row.split(" ") for row in ROWS]
        for row, line in enumerate(words):
            for at, word in enumerate(line):
                if word.isdigit():
                    for wrong in ("0" + word, "00" + word, "+" + word, "-" + word, word + ".", word + ".0", "_" + word,
                                  word + "_0", "0x" + word, word + "e0", "x", "", word + "0" * 9, "1" * 10, "9" * 5000,
                                  "-0", "None", "True", "'" + word + "'", word + ","):
                        changed = list(line)
                        changed[at] = wrong
                        new = " ".join(changed)
                        self.assert_no_text(text.replace(ROWS[row], new, 1))

    def test_ten_figures_where_any_number_may_stand(self):
        self.assert_rows_refused(FIRST, f"next {NINE + 1} 7", f"next 12 {NINE + 1}")
        self.assert_no_text(f"next {NINE + 1} 0")
        self.assert_no_text(f"next 0 {NINE + 1}")
        self.assert_no_text(text_of("next 12 7", f"box {NINE + 1} 0 hand"))
        self.assert_rows_refused("will 0 up", f"will 0 down {NINE + 1}", f"will 0 hang {NINE + 1} 0 holds",
                                 f"will 0 hang 0 {NINE + 1} holds", "will 0 down " + "1" * 5000)

    def test_a_nought_ahead(self):
        self.assert_rows_refused(FIRST, "next 012 7", "next 12 07", "next 0000000012 7")
        self.assert_rows_refused("will 0 up", "will 0 down 00", "will 0 down 01", "will 00 up",
                                 "will 0 hang 0 00 looks")
        self.assert_no_text("next 00 0")
        self.assert_no_text("next 0 00")

    def test_the_numbers_of_the_first_row(self):
        self.assert_rows_refused(FIRST, "next 11 7", "next 0 7", "next 4 7", "next 12 6", "next 12 0", "next 12 3",
                                 "next 11 6")
        self.assert_no_text(text_of("next 0 0", "box 0 0 hand"))
        self.assert_no_text(text_of("next 1 0", "box 0 0 hand", "pair 0 0 0 0"))
        self.assert_text(text_of("next 1 1", "box 0 0 hand", "pair 0 0 0 0"))


class Rows(ReadCase):
    def test_a_row_twice(self):
        for at in range(len(ROWS)):
            self.assert_no_text(text_of(*ROWS[:at], ROWS[at], *ROWS[at:]))
            self.assert_no_text(text_of(*ROWS, ROWS[at]))

    def test_two_rows_changed_about(self):
        for one in range(len(ROWS)):
            for two in range(one):
                rows = list(ROWS)
                rows[one], rows[two] = rows[two], rows[one]
                self.assert_no_text(text_of(*rows))

    def test_a_row_cut_short_or_with_one_word_more(self):
        for at, row in enumerate(ROWS):
            words = row.split(" ")
            for drop in range(len(words)):
                rest = words[:drop] + words[drop + 1:]
                # Without its "up" the second will is another one.
                if words[0] != "will" or rest.count("up") == words.count("up"):
                    self.assert_no_text(text_of(*ROWS[:at], " ".join(rest), *ROWS[at + 1:]))
            for more in ("0", "1", "hand", "holds", "looks", "x", ""):
                for spot in range(len(words) + 1):
                    longer = words[:spot] + [more] + words[spot:]
                    self.assert_no_text(text_of(*ROWS[:at], " ".join(longer), *ROWS[at + 1:]))

    def test_the_same_thing_in_two_rows(self):
        for first, row in (("box 3 9 free", "box 3 9 hand"), ("box 3 9 free", "box 3 8 free"),
                           ("slot 3 0 3 looks", "slot 3 0 3 holds"), ("slot 3 0 3 looks", "slot 3 0 0 looks"),
                           ("pair 2 0 3 11", "pair 2 3 3 3"), ("will 0 up", "will 0 down 1")):
            self.assert_rows_refused(first, text_of(first, row), text_of(row, first))

    def test_rows_that_do_not_rise(self):
        self.assert_no_text(text_of("next 12 0", "box 11 0 hand", "box 2 0 hand"))
        self.assert_no_text(text_of("next 3 0", "box 2 0 hand", "box 0 0 hand"))
        self.assert_no_text(text_of("next 1 9", "box 0 0 hand", "pair 8 0 0 0", "pair 7 0 0 0"))


class Bounds(ReadCase):
    def test_sizes(self):
        self.assert_rows_refused("box 11 0 hand", "box 11 10 hand", "box 11 11 hand", "box 11 99 hand",
                                 f"box 11 {NINE} hand", "box 11 -1 hand")
        self.assert_rows_read("box 11 0 hand", *[f"box 11 {size} free" for size in range(10)])

    def test_slots_that_the_box_does_not_have(self):
        self.assert_rows_refused("slot 0 1 3 holds", "slot 0 2 3 holds", "slot 0 9 3 looks", f"slot 0 {NINE} 3 looks",
                                 "slot 0 -1 3 holds")
        self.assert_rows_refused("slot 3 8 11 holds", "slot 3 9 11 holds", "slot 11 0 3 holds")

    def test_slots_of_no_box(self):
        self.assert_rows_refused("slot 0 1 3 holds", "slot 1 0 3 holds", "slot 1 1 3 holds", "slot 0 1 1 holds",
                                 "slot 0 1 12 looks", f"slot 0 1 {NINE} looks")

    def test_pairs_of_no_box(self):
        self.assert_rows_refused("pair 2 0 3 11", "pair 2 1 3 11", "pair 2 0 1 11", "pair 2 0 3 1", "pair 2 12 12 12")

    def test_wills_of_no_box(self):
        self.assert_rows_refused("will 3 down 40 hang 3 8 looks up hang 99 5 holds", "will 1 up", "will 4 up")
        self.assert_no_text("next 0 0\nwill 0 up")

    def test_wills_of_no_deed_and_of_more_than_nine(self):
        self.assert_rows_refused("will 0 up", "will 0", "will 0 ", *[" ".join(["will 0"] + ["up"] * many)
                                                                     for many in (10, 11, 60)])
        self.assert_rows_refused("will 0 up", "will 0" + " down 1" * 10, "will 0" + " hang 0 0 looks" * 10)
        self.assert_rows_read("will 0 up", "will 0" + " up" * 9, "will 0" + " down 1" * 9)

    def test_deeds_of_another_form(self):
        self.assert_rows_refused("will 0 up", "will 0 up 0", "will 0 down", "will 0 down up", "will 0 down 0 0",
                                 "will 0 hang", "will 0 hang 0", "will 0 hang 0 0", "will 0 hang 0 holds",
                                 "will 0 hang 0 0 up", "will 0 hang 0 0 held", "will 0 hang 0 0 True",
                                 "will 0 hang 0 0 holds looks", "will 0 up holds", "will 0 up hang 0 0 look",
                                 "will 0 down -1", "will 0 hang -1 0 holds", "will 0 hang 0 -1 holds", "will 0 0")

    def test_61_boxes(self):
        boxes = [f"box {box} 0 free" for box in range(61)]
        self.assert_no_text(text_of("next 61 0", *boxes))
        self.assert_text(text_of("next 61 0", *boxes[1:]))
        self.assert_text(text_of("next 61 0", *boxes[:60]))

    def test_61_pairs(self):
        pairs = [f"pair {pair} 0 0 0" for pair in range(61)]
        self.assert_no_text(text_of("next 1 61", "box 0 0 hand", *pairs))
        self.assert_text(text_of("next 1 61", "box 0 0 hand", *pairs[1:]))
        self.assert_text(text_of("next 1 61", "box 0 0 hand", *pairs[:60]))

    def test_long_texts(self):
        self.assert_no_text("x" * 100000)
        self.assert_no_text(text_of("next 1 0", "box 0 0 hand", "will 0" + " up" * 100000))
        self.assert_no_text(text_of("next 1 0", *["box 0 0 hand"] * 20000))


if __name__ == "__main__":
    unittest.main()
