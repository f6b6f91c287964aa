"""[2] and the interface's list of radixtrail/words.py."""

import unittest
from os.path import commonprefix

from plain import SIGNS, texts
from radixtrail.words import common, is_name, rest


class IsName(unittest.TestCase):
    def test_lengths(self):
        for many in (0, 1, 2, 39, 40):
            self.assertIs(is_name("a" * many), True, many)
        for many in (41, 42, 80, 81, 1000):
            self.assertIs(is_name("a" * many), False, many)

    def test_each_sign_at_the_start_in_the_middle_and_at_the_end(self):
        self.assertEqual(len(SIGNS), 94)
        for sign in SIGNS:
            for text in (sign, sign + "ab", "a" + sign + "b", "ab" + sign, sign * 40):
                self.assertIs(is_name(text), True, text)
            self.assertIs(is_name(sign * 41), False, sign)

    def test_the_blank_and_the_tilde(self):
        for text in (" ", "~", " ~", "~ ", "  ", " " * 40, "~" * 40, " a ", "~a~"):
            self.assertIs(is_name(text), True, text)

    def test_line_ends_and_tabs_are_no_signs_of_names(self):
        for sign in "\n\t":
            for text in (sign, sign + "ab", "a" + sign + "b", "ab" + sign, sign * 2):
                self.assertIs(is_name(text), False, repr(text))

    def test_line_ends_and_tabs_at_the_edge_of_the_length(self):
        for sign in "\n\t":
            for text in (sign + "a" * 39, "a" * 20 + sign + "a" * 19, "a" * 39 + sign):
                self.assertIs(is_name(text), False, repr(text))
            self.assertIs(is_name("a" * 40 + sign), False, repr(sign))

    def test_things_that_are_no_texts(self):
        things = [None, True, False, 0, 1, -1, 7, 10 ** 60, [], ["a"], ["a", "b"], (), ("a",),
                  {}, {"a": 1}, set(), {"a"}, b"", b"a", b"ab", range(3), object(), str, len]
        for thing in things:
            self.assertIs(is_name(thing), False, repr(thing))

    def test_a_thing_asked_of_is_not_changed(self):
        things = [["a"], {"a": 1}, {"a"}]
        for thing in things:
            is_name(thing)
        self.assertEqual(things, [["a"], {"a": 1}, {"a"}])


class Common(unittest.TestCase):
    def told(self, one, other, wanted):
        for pair in ((one, other), (other, one)):
            got = common(*pair)
            self.assertIs(type(got), str)
            self.assertEqual(got, wanted, pair)

    def test_the_empty_text_on_either_side(self):
        self.told("", "", "")
        self.told("", "abc", "")
        self.told("", " ", "")

    def test_equal_texts(self):
        for text in ("a", " ", "~", "abc", "a b", "a" * 40):
            self.told(text, text, text)

    def test_one_the_beginning_of_the_other(self):
        self.told("a", "abc", "a")
        self.told("ab", "abc", "ab")
        self.told("ab", "ab ", "ab")
        self.told("a" * 39, "a" * 40, "a" * 39)

    def test_differing_at_the_first_sign(self):
        self.told("abc", "xbc", "")
        self.told("a", "A", "")
        self.told(" a", "a", "")

    def test_differing_at_a_later_sign(self):
        self.told("abc", "axc", "a")
        self.told("abcd", "abxd", "ab")
        self.told("ab cd", "ab dd", "ab ")
        self.told("a" * 39 + "b", "a" * 39 + "c", "a" * 39)

    def test_texts_longer_than_names(self):
        self.told("a" * 80, "a" * 80, "a" * 80)
        self.told("a" * 41, "a" * 80, "a" * 41)
        self.told("a" * 79 + "b", "a" * 79 + "c", "a" * 79)
        self.told("x" + "a" * 100, "y" + "a" * 100, "")

    def test_all_short_texts(self):
        for one in texts(" a~", 3):
            for other in texts(" a~", 3):
                self.told(one, other, commonprefix([one, other]))


class Rest(unittest.TestCase):
    def told(self, name, beginning, wanted):
        got = rest(name, beginning)
        self.assertIs(type(got), type(wanted))
        self.assertEqual(got, wanted, (name, beginning))

    def test_the_empty_text_on_either_side(self):
        self.told("", "", "")
        self.told("abc", "", "abc")
        self.told("", "a", None)
        self.told("", "abc", None)

    def test_the_name_itself(self):
        for text in ("a", " ", "~", "abc", "a b", "a" * 40):
            self.told(text, text, "")

    def test_a_beginning(self):
        self.told("abc", "a", "bc")
        self.told("abc", "ab", "c")
        self.told("a b", "a", " b")
        self.told("a b", "a ", "b")
        self.told("aaa", "a", "aa")
        self.told("aba", "a", "ba")
        self.told("  a ", " ", " a ")
        self.told("a" * 40, "a" * 39, "a")

    def test_what_is_no_beginning(self):
        self.told("abc", "b", None)
        self.told("abc", "bc", None)
        self.told("abc", "ac", None)
        self.told("abc", "abd", None)
        self.told("abc", "abcd", None)
        self.told("abc", "A", None)
        self.told("abc", " a", None)
        self.told("a" * 39, "a" * 40, None)

    def test_texts_longer_than_names(self):
        self.told("a" * 80, "a" * 80, "")
        self.told("a" * 80, "a" * 41, "a" * 39)
        self.told("a" * 41 + "b" * 41, "a" * 41, "b" * 41)
        self.told("a" * 80, "a" * 79 + "b", None)
        self.told("a" * 80, "a" * 81, None)

    def test_all_short_texts(self):
        for name in texts(" a~", 3):
            for beginning in texts(" a~", 3):
                wanted = None
                if name[:len(beginning)] == beginning:
                    wanted = name[len(beginning):]
                self.told(name, beginning, wanted)


if __name__ == "__main__":
    unittest.main()
