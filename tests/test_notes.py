"""[10], with [2] and [4], and the interface's list of radixtrail/notes.py."""

import re
import unittest

from checks import Check
from plain import LARGEST, SIGNS, chain, dicts, leaf, many_names, texts, tree_of
from radixtrail.errors import NoNote
from radixtrail.notes import read, written

NUMBER = "(?:0|-?[1-9][0-9]{0,59})"
ROW = re.compile(f"({NUMBER}) ([ -$&-~]{{0,40}})\n")
NOTE = re.compile(f"(?:{ROW.pattern})*")


def read_of(text):
    """The names and numbers of a text by [10]; None where it is not of that form."""
    if not NOTE.fullmatch(text):
        return None
    pairs = [(name, int(figures)) for figures, name in ROW.findall(text)]
    some = [name for name, _ in pairs]
    return dict(pairs) if some == sorted(set(some)) else None


class Written(Check):
    def test_none(self):
        self.answered("", written, None)

    def test_a_row_for_each_name_rising(self):
        kept = {"road": 2, "rive": 1, "river": 33, "": 4, "Z": 5}
        self.answered("4 \n5 Z\n1 rive\n33 river\n2 road\n", written, tree_of(kept))
        self.answered("7 ab\n", written, leaf("ab", 7))

    def test_numbers(self):
        for number, figures in ((0, "0"), (-1, "-1"), (10, "10"), (-100, "-100"),
                                (LARGEST, "9" * 60), (-LARGEST, "-" + "9" * 60),
                                (10 ** 59, "1" + "0" * 59), (10 ** 60, "1" + "0" * 60)):
            self.answered(figures + " a\n", written, leaf("a", number))

    def test_names_with_blanks_and_the_empty_name(self):
        self.answered("1 \n", written, leaf("", 1))
        self.answered("1 \n2  \n3  a \n", written, tree_of({"": 1, " ": 2, " a ": 3}))
        self.answered("-5 a b  c\n", written, leaf("a b  c", -5))


class Read(Check):
    def test_the_empty_text(self):
        self.answered(None, read, "")

    def test_rows(self):
        self.answered(tree_of({"": 4, "Z": 5, "rive": 1, "river": 33, "road": 2}),
                      read, "4 \n5 Z\n1 rive\n33 river\n2 road\n")
        self.answered(leaf("ab", 7), read, "7 ab\n")

    def test_numbers(self):
        for figures in ("0", "1", "9", "-1", "10", "-10", "1020", "9" * 60, "-" + "9" * 60,
                        "1" + "0" * 59, "-1" + "0" * 59):
            self.answered(leaf("a", int(figures)), read, figures + " a\n")

    def test_names_with_blanks_and_the_empty_name(self):
        self.answered(leaf("", 1), read, "1 \n")
        self.answered(leaf(" ", 1), read, "1  \n")
        self.answered(leaf("  a ", 1), read, "1   a \n")
        self.answered(leaf("1 a", 1), read, "1 1 a\n")
        self.answered(leaf(" " * 40, 0), read, "0 " + " " * 40 + "\n")
        self.answered(tree_of({"": 1, " ": 2, " a ": 3}), read, "1 \n2  \n3  a \n")

    def test_each_sign_of_names(self):
        for sign in SIGNS:
            self.answered(leaf(sign, 1), read, "1 " + sign + "\n")
            self.answered(leaf("a" + sign * 39, 1), read, "1 a" + sign * 39 + "\n")

    def refused_rows(self, *rows):
        """That a text with such a row is refused, whatever rows are beside it."""
        for row in rows:
            self.refused(NoNote, read, row + "\n")
            self.refused(NoNote, read, "1 !\n" + row + "\n")
            self.refused(NoNote, read, row + "\n2 ~~\n")
            self.refused(NoNote, read, "1 !\n" + row + "\n2 ~~\n")

    def test_no_line_end_behind_the_last_row(self):
        for text in ("1 a", "1 ", "0 ", "1 a\n2 b", "1 a\n2", "1 a\n2 ", "1", " ", "a", "1 a\n ",
                     "-5 a b"):
            self.refused(NoNote, read, text)

    def test_no_blank(self):
        self.refused_rows("1", "0", "-1", "1a", "a", "12345", "1-a", "-")

    def test_an_empty_row(self):
        for text in ("\n", "\n\n", "1 a\n\n", "\n1 a\n", "1 a\n\n2 b\n"):
            self.refused(NoNote, read, text)

    def test_no_number_ahead_of_the_blank(self):
        self.refused_rows(" a", " ", "  ", " 1 a", "a 1", "a b")

    def test_a_nought_ahead(self):
        self.refused_rows("01 a", "00 a", "-01 a", "-00 a", "000 a", "0123456789 a",
                          "0" + "1" * 59 + " a", "0" * 60 + " a", "-0" + "1" * 59 + " a")

    def test_below_nought_and_nothing_or_nought(self):
        self.refused_rows("-0 a", "- a", "-- a", "--1 a", "-", "-0 ", "- ", "1- a", "-1- a")

    def test_signs_that_are_no_figures(self):
        self.refused_rows("+1 a", "+0 a", "+ a")
        for sign in "_+-.,eExabzAZ/:~\"'(\t\r":
            self.refused_rows("1" + sign + " a", "1" + sign + "2 a", "12" + sign + "3 a")
            if sign != "-":
                self.refused_rows(sign + "1 a", "-" + sign + "1 a", "-1" + sign + " a",
                                  sign + " a", "0" + sign + " a", "1" * 59 + sign + " a")
        # A blank ends the number: what is behind it is the name.
        self.refused_rows(" 1 a", "- 1 a", "+ 1 a", "_ 1 a")
        self.answered(leaf("2 a", 1), read, "1 2 a\n")

    def test_numbers_of_more_than_sixty_figures(self):
        for many in (61, 62, 100, 640, 4299, 4300, 4301, 5000, 20000):
            for figure in ("1", "9", "0"):
                self.refused_rows(figure * many + " a", "-" + figure * many + " a",
                                  "1" + figure * many + " a")

    def test_tabs(self):
        self.refused_rows("1\ta", "1 \t", "1 a\tb", "1 \ta", "1 a\t", "\t1 a", "1\t a", "\t")

    def test_names_of_more_than_forty_signs(self):
        self.answered(leaf("a" * 40, 1), read, "1 " + "a" * 40 + "\n")
        self.refused_rows("1 " + "a" * 41, "1 " + " " * 41, "1 " + "a" * 40 + " ",
                          "1  " + "a" * 40, "1 " + "a" * 80, "1 " + "a" * 5000)

    def test_rows_that_do_not_rise(self):
        for rows in (("1 a", "1 a"), ("1 a", "2 a"), ("1 ", "1 "), ("1 b", "1 a"), ("1 a", "1 "),
                     ("1 ab", "1 a"), ("1 a", "1 Z"), ("1 a", "1  "), ("1 a", "2 c", "3 b"),
                     ("1 b", "2 a", "3 c"), ("1 a", "2 b", "3 a"), ("1 a", "2 b", "2 b"),
                     ("1 a" + "a" * 39, "1 a" + "a" * 38)):
            self.refused(NoNote, read, "".join([row + "\n" for row in rows]))

    def test_two_rows_turned_about_and_a_row_twice(self):
        rows = written(tree_of(many_names(40))).splitlines(keepends=True)
        for at in range(39):
            turned = rows[:at] + [rows[at + 1], rows[at]] + rows[at + 2:]
            self.refused(NoNote, read, "".join(turned))
            self.refused(NoNote, read, "".join(rows[:at] + [rows[at]] + rows[at:]))

    def test_all_short_texts(self):
        for text in texts("01- a\n", 6):
            kept = read_of(text)
            if kept is None:
                with self.assertRaises(NoNote, msg=repr(text)) as held:
                    read(text)
                self.assertIs(type(held.exception), NoNote)
            else:
                self.same(read(text), tree_of(kept))

    def test_notes_with_one_sign_put_in_taken_out_or_changed(self):
        note = "0 \n-12 a b\n7 ab\n" + "9" * 60 + " b\n3 " + "c" * 40 + "\n"
        for at in range(len(note) + 1):
            for sign in [""] + list("0 1-9a~\n\t"):
                for text in (note[:at] + sign + note[at:], note[:at] + sign + note[at + 1:]):
                    kept = read_of(text)
                    if kept is None:
                        self.refused(NoNote, read, text)
                    else:
                        self.answered(tree_of(kept), read, text)


class WrittenAndRead(Check):
    def test_small_trees(self):
        for kept in dicts((texts("ab", 2) + texts(" ~", 2)[1:])[:10]):
            note = written(tree_of(kept))
            self.same(note, "".join([f"{kept[name]} {name}\n" for name in sorted(kept)]))
            self.same(read(note), tree_of(kept))
            self.same(written(read(note)), note)

    def test_large_trees(self):
        large = {name: number * LARGEST // 200 for name, number in many_names(130).items()}
        for kept in (many_names(100), large, chain(40), {sign: ord(sign) for sign in SIGNS}):
            note = written(tree_of(kept))
            self.same(note, "".join([f"{kept[name]} {name}\n" for name in sorted(kept)]))
            self.answered(tree_of(kept), read, note)

    def test_more_names_than_a_trail_keeps(self):
        kept = many_names(600)
        self.same(read(written(tree_of(kept))), tree_of(kept))


if __name__ == "__main__":
    unittest.main()
