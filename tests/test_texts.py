import random
import unittest
from itertools import product

from samples import LARGER_VIEWS, NO_VIEWS, ODD_THINGS, SMALL_VIEWS, calls_are_clean, every_table, sound_tables
from writebacks.counts import widest
from writebacks.errors import NoTable, NoText, NoView
from writebacks.tables import broken
from writebacks.texts import read_table, table_text

VIEW = (0, 1, 0)
TABLE = ((0, 1), (0, 1), (2, None))
TEXT = "view 0 1 0\n0: 0 1\n1: 0 1\n2: 2 -\n"

NINE = (0, 1, 2, 3, 4, 5, 6, 7, 8)

# The texts of all views of one and two states and all their tables, sound or not.
ALL_TEXTS = {}
for view, entries in [((0,), "-0"), ((0, 0), "-01"), ((0, 1), "-01"), ((1, 0), "-01")]:
    for signs in product(entries, repeat=len(view) * (max(view) + 1)):
        rows = [signs[s * (max(view) + 1):(s + 1) * (max(view) + 1)] for s in range(len(view))]
        text = "view " + " ".join(map(str, view)) + "\n"
        text += "".join(str(s) + ": " + " ".join(row) + "\n" for s, row in enumerate(rows))
        table = tuple(tuple(None if sign == "-" else int(sign) for sign in row) for row in rows)
        ALL_TEXTS[text] = (view, table)

# Signs that a text may hold and others, among them digits that are no ASCII digits.
SIGNS = "\n 0123489-+:view_.,;#\t\r\f\v\x00\x1c\x85\xa0\u2028"
SIGNS += "\u0660\u0661\u0967\uff10\uff11\xb2\u2070\u2460\u2212\u2013"


def one_sign_otherwise(text):
    """All texts that come from a text by leaving out, putting in or exchanging one sign, or two neighbours."""
    for at in range(len(text) + 1):
        yield text[:at] + text[at + 1:]
        yield text[:at] + text[at:at + 2][::-1] + text[at + 2:]
        for sign in SIGNS:
            yield text[:at] + sign + text[at:]
            yield text[:at] + sign + text[at + 1:]


class TableTextTest(unittest.TestCase):
    def test_example_of_the_document(self):
        self.assertEqual(table_text(VIEW, TABLE), TEXT)

    def test_one_state(self):
        self.assertEqual(table_text((0,), ((0,),)), "view 0\n0: 0\n")
        self.assertEqual(table_text((0,), ((None,),)), "view 0\n0: -\n")

    def test_nine_states(self):
        row = ": 0 1 2 3 4 5 6 7 8\n"
        self.assertEqual(table_text(NINE, (NINE,) * 9),
                         "view 0 1 2 3 4 5 6 7 8\n" + "".join(str(s) + row for s in range(9)))
        self.assertEqual(table_text((0,) * 9, ((8,), (None,), (7,), (0,), (1,), (2,), (3,), (4,), (5,))),
                         "view 0 0 0 0 0 0 0 0 0\n0: 8\n1: -\n2: 7\n3: 0\n4: 1\n5: 2\n6: 3\n7: 4\n8: 5\n")

    def test_all_texts_of_two_states(self):
        self.assertEqual(len(ALL_TEXTS), 2 + 9 + 81 + 81)
        for text, (view, table) in ALL_TEXTS.items():
            self.assertEqual(table_text(view, table), text)

    def test_no_view(self):
        for thing in NO_VIEWS:
            for table in [TABLE, ((0,),), None, thing]:
                with self.assertRaises(NoView):
                    table_text(thing, table)

    def test_no_table(self):
        others = [(), TABLE[:2], TABLE + TABLE[:1], list(TABLE), (list(TABLE[0]),) + TABLE[1:],
                  ((0, True),) + TABLE[1:], ((False, 1),) + TABLE[1:], ((0, 3),) + TABLE[1:],
                  ((0, -1),) + TABLE[1:], ((0,),) * 3, ((0, 1, 2),) * 3, ((0, "1"),) + TABLE[1:], (("-", 1),) + TABLE[1:], TEXT, VIEW]
        for thing in ODD_THINGS + others:
            with self.assertRaises(NoTable):
                table_text(VIEW, thing)

    def test_arguments_stay_as_they_are(self):
        for args in [(VIEW, TABLE), (list(VIEW), TABLE), (VIEW, list(TABLE)), (VIEW, [[0, 1], [0, 1], [2, None]])]:
            calls_are_clean(self, table_text, *args)


class ReadTableTest(unittest.TestCase):
    def test_example_of_the_document(self):
        self.assertEqual(read_table(TEXT), (VIEW, TABLE))
        self.assertEqual(repr(read_table(TEXT)), repr((VIEW, TABLE)))

    def test_all_texts_of_two_states(self):
        for text, expected in ALL_TEXTS.items():
            self.assertEqual(repr(read_table(text)), repr(expected))

    def test_there_and_back_for_sound_tables(self):
        for view in SMALL_VIEWS + LARGER_VIEWS:
            for table in sound_tables(view):
                self.assertEqual(read_table(table_text(view, table)), (view, table))

    def test_there_and_back_for_large_views(self):
        chance = random.Random(1)
        for _ in range(300):
            view = tuple(chance.choices(range(chance.randint(1, 9)), k=chance.randint(7, 9)))
            view = tuple(sorted(set(view)).index(number) for number in view)
            entries = [None] + list(range(len(view)))
            table = tuple(tuple(chance.choices(entries, k=max(view) + 1)) for _ in view)
            self.assertEqual(read_table(table_text(view, table)), (view, table))
            wide = widest(view)[1]
            self.assertEqual(read_table(table_text(view, wide)), (view, wide))

    def test_there_and_back_for_tables_that_are_not_sound(self):
        met = 0
        for table in every_table((0, 0, 1)):
            if table[0][0] in (None, 2) and table[1][1] in (0, 1):
                met += 1
                self.assertIsNotNone(broken((0, 0, 1), table))
                self.assertEqual(read_table(table_text((0, 0, 1), table)), ((0, 0, 1), table))
        self.assertEqual(met, 4 * 4 ** 4)

    def check(self, text):
        if text in ALL_TEXTS:
            self.assertEqual(repr(read_table(text)), repr(ALL_TEXTS[text]))
        else:
            with self.assertRaises(NoText, msg=repr(text)):
                read_table(text)

    def test_one_sign_otherwise(self):
        for text in list(ALL_TEXTS)[::11]:
            for other in one_sign_otherwise(text):
                self.check(other)

    def test_every_sign_at_every_place(self):
        for at in range(len(TEXT)):
            for sign in map(chr, range(256)):
                if TEXT[:at] + sign + TEXT[at + 1:] != TEXT and sign not in "-012":
                    with self.assertRaises(NoText):
                        read_table(TEXT[:at] + sign + TEXT[at + 1:])

    def test_two_signs_otherwise(self):
        for text in ["view 0\n0: 0\n", "view 0\n0: -\n"]:
            for other in one_sign_otherwise(text):
                for at in range(len(other)):
                    for sign in "\n 0-+:\t\r\u0660":
                        self.check(other[:at] + sign + other[at:])

    def test_lines_otherwise(self):
        for text in ALL_TEXTS:
            lines = text.split("\n")
            for at in range(len(lines)):
                self.check("\n".join(lines[:at] + lines[at + 1:]))
                self.check("\n".join(lines[:at] + lines[at:at + 1] + lines[at:]))
                self.check("\n".join(lines[:at] + lines[at:at + 2][::-1] + lines[at + 2:]))
                self.check("\n".join(lines[:at] + [lines[at].upper()] + lines[at + 1:] + [""]))
            self.check(text + text)
            self.check(text.replace("\n", "\r\n"))
            self.check(text.replace(" ", "\t"))
            self.check(text.replace(" ", "  "))
            self.check(text.replace(": ", ":"))
            self.check(text.replace(": ", " : "))
            self.check(text.replace(":", ""))
            self.check(text.replace("-", "None"))
            self.check(text.replace("-", ""))
            self.check(text.replace("view", "View"))
            self.check(text.replace("view ", ""))

    def test_numbers_written_otherwise(self):
        for old, new in [("0: 0", "0: 00"), ("0: 0", "0: +0"), ("0: 0", "0: -0"), ("0: 0", "00: 0"), ("0: 0", "+0: 0"),
                         ("2 -", "02 -"), ("2 -", "3 -"), ("2 -", "2 --"), ("2 -", "-2 -"), ("2 -", "2 - -"),
                         ("2 -", "2.0 -"), ("2 -", "\u0662 -"), ("2: ", "\u0662: "), ("view 0", "view 00"),
                         ("1 0\n", "2 0\n"), ("1 0\n", "\u0661 0\n"), ("1 0\n", "- 0\n"), ("2 -", "0x2 -"),
                         ("2 -", "10 -"), ("2 -", "1_0 -"), ("1: 0 1", "1: 0 1 1"), ("1: 0 1", "1: 0"),
                         ("1: 0 1", "1:")]:
            self.assertIn(old, TEXT)
            with self.assertRaises(NoText, msg=new):
                read_table(TEXT.replace(old, new, 1))

    def test_text_of_what_is_no_view(self):
        for text in ["view\n", "view \n", "view 0 2\n0: 0 1\n1: 0 1\n", "view 1\n0: 0\n", "view 1 1\n0: 0 0\n1: 1 1\n",
                     "view" + " 0" * 10 + "\n" + "".join(str(s) + ": 0\n" for s in range(10)),
                     "view 0 1 2 3 4 5 6 7 8 9\n" + "".join(str(s) + ": 0 1 2 3 4 5 6 7 8 9\n" for s in range(10)),
                     "", "\n", "view", "view 0", "view 0\n", "view 0\n0: 0", "view 0\n\n", "0: 0\n",
                     "view 0\n0: 0\n\n"]:
            with self.assertRaises(NoText, msg=text):
                read_table(text)

    def test_no_text_at_all(self):
        lines = TEXT.split("\n")
        for thing in ODD_THINGS + [TEXT.encode(), lines, tuple(lines), {TEXT: TEXT}, (TEXT,), [TEXT], (VIEW, TABLE),
                                   "view 0\n" * 80, "\n" * 600, " " * 600, "0" * 600]:
            with self.assertRaises(NoText):
                read_table(thing)

    def test_arguments_stay_as_they_are(self):
        for thing in [TEXT, [TEXT], {TEXT: [TEXT]}, "view 0\n"]:
            calls_are_clean(self, read_table, thing)


if __name__ == "__main__":
    unittest.main()
