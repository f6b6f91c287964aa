"""[9], with [2], and the interface's list of radixtrail/asking.py."""

import unittest
from os.path import commonprefix

from checks import Check
from plain import LARGEST, SIGNS, chain, dicts, leaf, many_names, texts, tree_of
from radixtrail.asking import after, common_of, longest, many, next_signs, under
from radixtrail.trees import put

QUESTIONS = (under, many, longest, after, common_of, next_signs)

# A fork whose names part further down, at a knot's start, inside it and at its end.
KEPT = {"abcdefgh": 1, "abcdek": 2, "ab": 0, "abxyz": -3}
TREE = tree_of(KEPT)

SMALL = (texts("ab", 2) + texts(" ~", 2)[1:])[:10]
ASKED = texts("ab", 3) + texts(" ~", 2)[1:] + ["a ", "b~", "aaaa"]


def under_of(kept, beginning):
    return sorted((name, number) for name, number in kept.items() if name.startswith(beginning))


def asked_of_beginnings(kept, beginning):
    """What a plain dict tells to under, many, common_of and next_signs."""
    pairs = under_of(kept, beginning)
    below = [name for name, _ in pairs]
    return (pairs, len(pairs), commonprefix(below) if below else None,
            sorted({name[len(beginning):][:1] for name in below}))


def asked_of_texts(kept, text):
    """What a plain dict tells to longest and after."""
    ended = [name for name in kept if text.startswith(name)]
    return (max(ended, key=len, default=None),
            min([name for name in kept if name > text], default=None))


class Asked(Check):
    """All questions, against what a plain list of the names tells."""

    def asked(self, kept, tree, text):
        before = repr(tree)
        self.same((under(tree, text), many(tree, text), common_of(tree, text),
                   next_signs(tree, text)), asked_of_beginnings(kept, text))
        self.same((longest(tree, text), after(tree, text)), asked_of_texts(kept, text))
        self.assertEqual(repr(tree), before)

    def test_small_trees(self):
        for kept in dicts(SMALL):
            tree = tree_of(kept)
            for text in ASKED:
                self.asked(kept, tree, text)

    def test_where_texts_end_at_each_place_of_each_knot(self):
        for kept in (KEPT, {"abc": 1}, {"": 1}, {"": 1, "abc": 2}, {"ab": 1, "cd": 2}):
            some = {name[:at] for name in kept for at in range(len(name) + 1)}
            for text in sorted(some | {text + sign for text in some for sign in " abcx~"}):
                self.asked(kept, tree_of(kept), text)

    def test_large_trees(self):
        for kept in (many_names(100), many_names(130), chain(40), {sign: 1 for sign in SIGNS}):
            tree = tree_of(kept)
            some = {name[:at] for name in kept for at in range(0, 41, 4)} | set(kept)
            for text in sorted(some | {text[:-1] + "~" for text in some}):
                self.asked(kept, tree, text)

    def test_what_was_told_is_the_askers_own(self):
        for kept in ({}, {"a": 1}, {"a": 1, "ab": 2, "b": 3}):
            tree = tree_of(kept)
            for question in (under, next_signs):
                first = question(tree, "")
                wanted = list(first)
                first.append("more")
                second = question(tree, "")
                self.same(second, wanted)
                for other in QUESTIONS:
                    other(put(tree, "zz", 1), "a")
                    other(tree, "b")
                self.same(second, wanted)
                self.same(first, wanted + ["more"])
                self.same(tree, tree_of(kept))


class Under(Check):
    def test_of_none(self):
        for beginning in ("", "a", "a" * 40):
            self.answered([], under, None, beginning)

    def test_the_empty_beginning(self):
        self.answered([("ab", 0), ("abcdefgh", 1), ("abcdek", 2), ("abxyz", -3)], under, TREE, "")
        self.answered([("", 0)], under, leaf("", 0), "")

    def test_names_are_told_whole(self):
        for beginning in ("abc", "abcd", "abcde"):
            self.answered([("abcdefgh", 1), ("abcdek", 2)], under, TREE, beginning)
        for beginning in ("abx", "abxy", "abxyz"):
            self.answered([("abxyz", -3)], under, TREE, beginning)
        self.answered(sorted(KEPT.items()), under, TREE, "a")

    def test_a_whole_name_that_others_begin_with(self):
        self.answered(sorted(KEPT.items()), under, TREE, "ab")
        self.answered([("aaa", 3), ("aaaa", 4)], under, tree_of(chain(4)), "aaa")

    def test_no_name_begins_so(self):
        for beginning in ("b", "ac", "abd", "abcdex", "abcdefghi", "abxyzz", "z" * 40):
            self.answered([], under, TREE, beginning)

    def test_numbers(self):
        for number in (0, -1, LARGEST, -LARGEST):
            self.answered([("ab", number)], under, tree_of({"ab": number, "c": 1}), "a")


class Many(Check):
    def test_of_none(self):
        for beginning in ("", "a", "a" * 40):
            self.answered(0, many, None, beginning)

    def test_of_trees(self):
        for beginning, wanted in (("", 4), ("a", 4), ("ab", 4), ("abc", 2), ("abcde", 2),
                                  ("abcdef", 1), ("abxyz", 1), ("abxyzz", 0), ("b", 0)):
            self.answered(wanted, many, TREE, beginning)
        self.answered(1, many, leaf("", 0), "")
        self.answered(0, many, leaf("", 0), " ")
        self.answered(100, many, tree_of(many_names(100)), "")
        self.answered(38, many, tree_of(chain(40)), "aaa")


class Longest(Check):
    def test_of_none(self):
        for text in ("", "a", "a" * 300):
            self.answered(None, longest, None, text)

    def test_a_name_that_is_kept(self):
        for name in KEPT:
            self.answered(name, longest, TREE, name)
        self.answered("", longest, leaf("", 0), "")

    def test_a_text_that_goes_on(self):
        self.answered("ab", longest, TREE, "abcde")
        self.answered("ab", longest, TREE, "abcdefg")
        self.answered("abcdefgh", longest, TREE, "abcdefghi")
        self.answered("abxyz", longest, TREE, "abxyzabxyz")
        self.answered("ab", longest, TREE, "ab ")
        self.answered("", longest, leaf("", 0), "abc")

    def test_none_begins_it(self):
        for text in ("", "a", "b", "ba", " ab", "A"):
            self.answered(None, longest, TREE, text)
        self.answered(None, longest, leaf("abc", 1), "ab")

    def test_a_name_further_up_is_the_longest(self):
        kept = {"": 0, "a": 1, "abcx": 2, "abcy": 3}
        for text, wanted in (("abc", "a"), ("abcz", "a"), ("abcxx", "abcx"), ("b", ""), ("", "")):
            self.answered(wanted, longest, tree_of(kept), text)

    def test_chains_of_beginnings(self):
        tree = tree_of(chain(40))
        for many_signs in (0, 1, 39, 40):
            self.answered("a" * many_signs, longest, tree, "a" * many_signs)
            self.answered("a" * many_signs, longest, tree, "a" * many_signs + "b")
        self.answered("a" * 38, longest, tree_of({name: 1 for name in chain(38)}), "a" * 39)

    def test_texts_longer_than_names(self):
        for text in ("a" * 41, "a" * 400, "a" * 40 + "b" * 500):
            self.answered("a" * 40, longest, tree_of(chain(40)), text)
            self.answered("a", longest, leaf("a", 1), text)
            self.answered(None, longest, leaf("b", 1), text)


class After(Check):
    def test_of_none(self):
        for text in ("", "a", "a" * 300):
            self.answered(None, after, None, text)

    def test_a_name_that_is_kept(self):
        for name, wanted in (("ab", "abcdefgh"), ("abcdefgh", "abcdek"), ("abcdek", "abxyz"),
                             ("abxyz", None)):
            self.answered(wanted, after, TREE, name)

    def test_a_text_that_is_not_kept(self):
        for text, wanted in (("", "ab"), ("a", "ab"), ("aaaa", "ab"), ("ab ", "abcdefgh"),
                             ("abc", "abcdefgh"), ("abcdeg", "abcdek"), ("abcdefghi", "abcdek"),
                             ("abd", "abxyz"), ("abxy", "abxyz"), ("abxyz ", None), ("b", None)):
            self.answered(wanted, after, TREE, text)

    def test_the_empty_text(self):
        self.answered(None, after, leaf("", 0), "")
        self.answered(" ", after, tree_of({"": 1, " ": 2, "a": 3}), "")

    def test_ahead_of_all_names_and_behind_them(self):
        tree = tree_of(many_names(100))
        rising = sorted(many_names(100))
        self.answered(rising[1], after, tree, "")
        for text in ("~", "~" * 40, "~" * 300):
            self.answered(None, after, tree, text)
        self.answered("b", after, leaf("b", 1), "a" * 300)

    def test_chains_of_beginnings(self):
        tree = tree_of(chain(40))
        for many_signs in (0, 1, 38, 39):
            self.answered("a" * (many_signs + 1), after, tree, "a" * many_signs)
        for text in ("a" * 40, "a" * 41, "a" * 400, "b"):
            self.answered(None, after, tree, text)

    def test_texts_longer_than_names(self):
        self.answered("b", after, tree_of({"a" * 40: 1, "b": 2}), "a" * 40 + " " * 200)
        self.answered("ab", after, tree_of({"a" * 40: 1, "ab": 2}), "a" * 400)
        self.answered("a" * 40, after, tree_of({"a" * 40: 1, "b": 2}), "a" * 39 + " " * 400)


class CommonOf(Check):
    def test_of_none(self):
        for beginning in ("", "a", "a" * 40):
            self.answered(None, common_of, None, beginning)

    def test_of_one_name(self):
        for beginning in ("", "a", "ab", "abc"):
            self.answered("abc", common_of, leaf("abc", 1), beginning)
        for beginning in ("abcdef", "abcdefgh"):
            self.answered("abcdefgh", common_of, TREE, beginning)
        self.answered("", common_of, leaf("", 0), "")

    def test_of_several_names(self):
        for beginning, wanted in (("", "ab"), ("a", "ab"), ("ab", "ab"), ("abc", "abcde"),
                                  ("abcd", "abcde"), ("abcde", "abcde")):
            self.answered(wanted, common_of, TREE, beginning)
        self.answered("", common_of, tree_of({"a": 1, "b": 2}), "")

    def test_no_name_begins_so(self):
        for beginning in ("b", "abd", "abcdex", "abcdefghi", "z" * 40):
            self.answered(None, common_of, TREE, beginning)


class NextSigns(Check):
    def test_of_none(self):
        for beginning in ("", "a", "a" * 40):
            self.answered([], next_signs, None, beginning)

    def test_the_sign_that_comes_next(self):
        for beginning, wanted in (("", ["a"]), ("a", ["b"]), ("abc", ["d"]), ("abcd", ["e"]),
                                  ("abcdef", ["g"]), ("abcdefg", ["h"]), ("abx", ["y"])):
            self.answered(wanted, next_signs, TREE, beginning)

    def test_several_signs_rise(self):
        self.answered(["f", "k"], next_signs, TREE, "abcde")
        self.answered([" ", "0", "A", "a", "~"],
                      next_signs, tree_of({"x" + sign: 1 for sign in "~aA0 "}), "x")
        self.answered(SIGNS, next_signs, tree_of({sign + "b": 1 for sign in SIGNS}), "")

    def test_a_sign_that_several_names_have_stands_once(self):
        self.answered(["a", "b"], next_signs, tree_of({"aa": 1, "ab": 2, "ac": 3, "b": 4}), "")

    def test_the_empty_text_ahead_where_the_beginning_is_kept(self):
        self.answered(["", "c", "x"], next_signs, TREE, "ab")
        self.answered(["", " "], next_signs, tree_of({"": 1, " ": 2}), "")
        self.answered(["", "a"], next_signs, tree_of(chain(40)), "a" * 39)

    def test_the_empty_text_alone(self):
        self.answered([""], next_signs, leaf("", 0), "")
        self.answered([""], next_signs, leaf("abc", 0), "abc")
        self.answered([""], next_signs, TREE, "abxyz")

    def test_no_name_begins_so(self):
        for beginning in ("b", "abd", "abcdex", "abcdefghi", "z" * 40):
            self.answered([], next_signs, TREE, beginning)


if __name__ == "__main__":
    unittest.main()
