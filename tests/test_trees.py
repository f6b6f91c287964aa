"""[3] to [6], of [7] `ahead`, and the interface's list of radixtrail/trees.py."""

import unittest

from checks import Check
from plain import LARGEST, SIGNS, chain, dicts, knots_of, leaf, many_names, orders, texts, tree_of
from radixtrail.errors import NotThere
from radixtrail.trees import ahead, found, knots, names, put, without


def grown(pairs):
    """The tree that putting pairs one by one gives."""
    tree = None
    for name, number in pairs:
        tree = put(tree, name, number)
    return tree


class PlainTree(unittest.TestCase):
    """The tests' own trees, against trees that were written by hand."""

    def test_by_hand(self):
        self.assertIsNone(tree_of({}))
        self.assertEqual(tree_of({"ab": 1}), leaf("ab", 1))
        self.assertEqual(tree_of({"abd": 1, "ab": 2, "abcx": 3, "abcy": 4}),
                         ("fork", "ab", (("", leaf("", 2)),
                                         ("c", ("fork", "", (("x", leaf("", 3)),
                                                             ("y", leaf("", 4))))),
                                         ("d", leaf("", 1)))))

    def test_many_names(self):
        kept = many_names(130)
        self.assertEqual(len(kept), 130)
        self.assertEqual({0, 40}, {min(map(len, kept)), max(map(len, kept))})


class Put(Check):
    def test_into_none(self):
        self.same(put(None, "ab", 1), leaf("ab", 1))
        self.same(put(None, "", 1), leaf("", 1))
        self.same(put(None, "a" * 40, 1), leaf("a" * 40, 1))

    def test_a_leaf_splits(self):
        self.same(put(leaf("abc", 1), "abd", 2),
                  ("fork", "ab", (("c", leaf("", 1)), ("d", leaf("", 2)))))
        self.same(put(leaf("abd", 1), "abc", 2),
                  ("fork", "ab", (("c", leaf("", 2)), ("d", leaf("", 1)))))
        self.same(put(leaf("abcde", 1), "axyz", 2),
                  ("fork", "a", (("b", leaf("cde", 1)), ("x", leaf("yz", 2)))))

    def test_a_leaf_splits_at_its_first_sign(self):
        self.same(put(leaf("abc", 1), "xyz", 2),
                  ("fork", "", (("a", leaf("bc", 1)), ("x", leaf("yz", 2)))))

    def test_a_leaf_whose_name_begins_the_new_one(self):
        self.same(put(leaf("ab", 1), "abcd", 2),
                  ("fork", "ab", (("", leaf("", 1)), ("c", leaf("d", 2)))))
        self.same(put(leaf("", 1), " ", 2),
                  ("fork", "", (("", leaf("", 1)), (" ", leaf("", 2)))))

    def test_a_leaf_whose_name_begins_with_the_new_one(self):
        self.same(put(leaf("abcd", 1), "ab", 2),
                  ("fork", "ab", (("", leaf("", 2)), ("c", leaf("d", 1)))))
        self.same(put(leaf("~", 1), "", 2),
                  ("fork", "", (("", leaf("", 2)), ("~", leaf("", 1)))))

    def test_a_shared_text_splits(self):
        inner = (("x", leaf("", 1)), ("y", leaf("", 2)))
        tree = ("fork", "abc", inner)
        self.same(put(tree, "abd", 3),
                  ("fork", "ab", (("c", ("fork", "", inner)), ("d", leaf("", 3)))))
        self.same(put(tree, "aa", 3),
                  ("fork", "a", (("a", leaf("", 3)), ("b", ("fork", "c", inner)))))
        self.same(put(tree, "zz", 3),
                  ("fork", "", (("a", ("fork", "bc", inner)), ("z", leaf("z", 3)))))

    def test_a_shared_text_splits_where_the_name_ends(self):
        inner = (("x", leaf("", 1)), ("y", leaf("", 2)))
        tree = ("fork", "abc", inner)
        self.same(put(tree, "ab", 3),
                  ("fork", "ab", (("", leaf("", 3)), ("c", ("fork", "", inner)))))
        self.same(put(tree, "", 3),
                  ("fork", "", (("", leaf("", 3)), ("a", ("fork", "bc", inner)))))

    def test_a_new_branch_at_the_front_in_the_middle_and_at_the_end(self):
        tree = ("fork", "a", (("c", leaf("", 1)), ("e", leaf("", 2))))
        for sign, place in ((" ", 0), ("b", 0), ("d", 1), ("f", 2), ("~", 2)):
            branches = list(tree[2])
            branches.insert(place, (sign, leaf("gh", 3)))
            self.same(put(tree, "a" + sign + "gh", 3), ("fork", "a", tuple(branches)))
        self.same(put(tree, "a", 3), ("fork", "a", (("", leaf("", 3)),) + tree[2]))

    def test_deep_in_a_branch(self):
        tree = ("fork", "a", (("", leaf("", 1)), ("b", leaf("c", 2)), ("c", leaf("", 3))))
        self.same(put(tree, "abd", 4),
                  ("fork", "a", (("", leaf("", 1)),
                                 ("b", ("fork", "", (("c", leaf("", 2)), ("d", leaf("", 4))))),
                                 ("c", leaf("", 3)))))

    def test_a_kept_name_takes_the_new_number(self):
        self.same(put(leaf("ab", 1), "ab", 2), leaf("ab", 2))
        self.same(put(leaf("", 1), "", 0), leaf("", 0))
        kept = {"": 1, "a": 2, "ab": 3, "abc": 4, "b": 5}
        for name in kept:
            for number in (0, -9, 9, kept[name], LARGEST):
                self.same(put(tree_of(kept), name, number), tree_of({**kept, name: number}))

    def test_two_names_that_differ_in_the_first_or_the_last_sign(self):
        for behind in ("", "b" * 39):
            for one in SIGNS:
                for other in (" ", "a", "~"):
                    if one != other:
                        kept = {one + behind: 1, other + behind: 2}
                        self.same(grown(kept.items()), tree_of(kept))
        for one in SIGNS:
            for other in (" ", "a", "~"):
                if one != other:
                    kept = {"b" * 39 + one: 1, "b" * 39 + other: 2}
                    self.same(grown(kept.items()), tree_of(kept))

    def test_a_branch_for_each_sign(self):
        for beginning in ("", "name", "n" * 39):
            kept = {beginning + sign: ord(sign) for sign in SIGNS}
            kept[beginning] = 0
            for order in orders(kept):
                self.same(grown([(name, kept[name]) for name in order]), tree_of(kept))

    def test_names_that_are_a_chain_of_beginnings(self):
        kept = chain(40)
        for order in orders(kept):
            self.same(grown([(name, kept[name]) for name in order]), tree_of(kept))

    def test_a_hundred_names_and_more(self):
        for many in (100, 130):
            kept = many_names(many)
            for order in orders(kept):
                self.same(grown([(name, kept[name]) for name in order]), tree_of(kept))

    def test_each_name_into_each_small_tree(self):
        some = texts("ab", 2) + texts(" ~", 2)[1:]
        for kept in dicts(some[:10]):
            tree = tree_of(kept)
            before = repr(tree)
            for name in some:
                self.same(put(tree, name, 77), tree_of({**kept, name: 77}))
            self.assertEqual(repr(tree), before)


class Found(Check):
    def test_of_none(self):
        self.assertIsNone(found(None, ""))
        self.assertIsNone(found(None, "a"))

    def test_of_a_leaf(self):
        self.same(found(leaf("ab", 7), "ab"), 7)
        for name in ("", "a", "abc", "b", "ac", "xab", "AB", " ab"):
            self.assertIsNone(found(leaf("ab", 7), name), name)
        self.same(found(leaf("", 7), ""), 7)
        self.assertIsNone(found(leaf("", 7), "a"))

    def test_of_a_fork(self):
        tree = ("fork", "ab", (("c", leaf("de", 1)), ("f", leaf("", 2))))
        self.same(found(tree, "abcde"), 1)
        self.same(found(tree, "abf"), 2)
        for name in ("", "a", "ab", "abc", "abcd", "abcdef", "abff", "abe", "abg", "cde", "f", "b"):
            self.assertIsNone(found(tree, name), name)

    def test_of_a_fork_where_one_name_begins_the_others(self):
        tree = ("fork", "ab", (("", leaf("", 3)), ("c", leaf("", 1))))
        self.same(found(tree, "ab"), 3)
        self.same(found(tree, "abc"), 1)
        for name in ("", "a", "abcc", "ab ", "abd"):
            self.assertIsNone(found(tree, name), name)

    def test_numbers(self):
        for number in (0, 1, -1, LARGEST, -LARGEST, LARGEST // 7):
            tree = grown([("a", number), ("ab", 5), ("", number)])
            self.same(found(tree, "a"), number)
            self.same(found(tree, ""), number)
            self.same(found(leaf("b", number), "b"), number)

    def test_each_name_in_each_small_tree(self):
        some = texts("ab", 2) + texts(" ~", 2)[1:]
        for kept in dicts(some[:10]):
            tree = tree_of(kept)
            for name in some:
                self.same(found(tree, name), kept.get(name))

    def test_large_trees(self):
        for kept in (many_names(130), chain(40)):
            tree = tree_of(kept)
            for name, number in kept.items():
                self.same(found(tree, name), number)
                self.same(found(tree, name + "~ ~"), kept.get(name + "~ ~"))
                self.same(found(tree, name[:-1]), kept.get(name[:-1]))


class Without(Check):
    def test_the_last_name(self):
        self.assertIsNone(without(leaf("ab", 1), "ab"))
        self.assertIsNone(without(leaf("", 0), ""))

    def test_a_fork_of_two_becomes_what_is_left(self):
        tree = ("fork", "ab", (("c", leaf("d", 1)), ("e", leaf("", 2))))
        self.same(without(tree, "abcd"), leaf("abe", 2))
        self.same(without(tree, "abe"), leaf("abcd", 1))

    def test_a_fork_of_two_that_is_left_with_a_fork(self):
        inner = (("e", leaf("", 2)), ("f", leaf("g", 3)))
        tree = ("fork", "ab", (("", leaf("", 1)), ("c", ("fork", "d", inner))))
        self.same(without(tree, "ab"), ("fork", "abcd", inner))
        self.same(without(tree, "abcde"),
                  ("fork", "ab", (("", leaf("", 1)), ("c", leaf("dfg", 3)))))

    def test_a_fork_of_two_with_a_name_that_begins_the_other(self):
        tree = ("fork", "a", (("", leaf("", 1)), ("b", leaf("", 2))))
        self.same(without(tree, "a"), leaf("ab", 2))
        self.same(without(tree, "ab"), leaf("a", 1))

    def test_a_fork_of_three_stays(self):
        empty, b, c = ("", leaf("", 1)), ("b", leaf("x", 2)), ("c", leaf("", 3))
        tree = ("fork", "a", (empty, b, c))
        self.same(without(tree, "a"), ("fork", "a", (b, c)))
        self.same(without(tree, "abx"), ("fork", "a", (empty, c)))
        self.same(without(tree, "ac"), ("fork", "a", (empty, b)))

    def test_a_shared_text_that_is_empty(self):
        tree = ("fork", "", (("", leaf("", 1)), ("b", leaf("", 2)), ("c", leaf("", 3))))
        self.same(without(tree, ""), ("fork", "", (("b", leaf("", 2)), ("c", leaf("", 3)))))
        self.same(without(without(tree, ""), "b"), leaf("c", 3))

    def test_a_name_with_the_number_nought(self):
        self.same(without(grown([("a", 0), ("b", 0)]), "a"), leaf("b", 0))

    def test_what_is_not_kept_is_refused(self):
        fork = ("fork", "ab", (("c", leaf("de", 1)), ("f", leaf("", 0))))
        chained = ("fork", "ab", (("", leaf("", 3)), ("c", leaf("", 1))))
        for tree, some in ((None, ["", "a", "ab"]),
                           (leaf("ab", 1), ["", "a", "abc", "b", "x", "AB"]),
                           (leaf("", 1), ["a", " "]),
                           (fork, ["", "a", "ab", "abc", "abcd", "abcdef", "abff", "abg", "f"]),
                           (chained, ["", "a", "abcc", "abd", "ab ", "c"])):
            for name in some:
                self.refused(NotThere, without, tree, name)

    def test_each_name_of_each_small_tree(self):
        some = texts("ab", 2) + texts(" ~", 2)[1:]
        for kept in dicts(some[:10]):
            tree = tree_of(kept)
            before = repr(tree)
            for name in kept:
                less = {other: kept[other] for other in kept if other != name}
                self.same(without(tree, name), tree_of(less))
            self.assertEqual(repr(tree), before)

    def test_each_other_name_is_refused_by_small_trees(self):
        some = texts("ab", 2)
        for kept in dicts(some):
            for name in texts("ab", 3):
                if name not in kept:
                    self.refused(NotThere, without, tree_of(kept), name)

    def test_large_trees_in_any_order(self):
        for kept in (many_names(100), many_names(130), chain(40)):
            for order in orders(kept):
                tree = tree_of(kept)
                left = dict(kept)
                for name in order:
                    tree = without(tree, name)
                    del left[name]
                    self.same(tree, tree_of(left))
                    self.refused(NotThere, without, tree, name)
                self.assertIsNone(tree)


class Ahead(Check):
    def test_of_none(self):
        self.assertIsNone(ahead(None, ""))
        self.assertIsNone(ahead(None, "ab"))

    def test_of_a_leaf(self):
        self.same(ahead(leaf("cd", 1), "ab"), leaf("abcd", 1))
        self.same(ahead(leaf("", 1), "ab"), leaf("ab", 1))

    def test_of_a_fork(self):
        branches = (("", leaf("", 1)), ("c", leaf("d", 2)))
        self.same(ahead(("fork", "b", branches), "a"), ("fork", "ab", branches))
        self.same(ahead(("fork", "", branches), "xy"), ("fork", "xy", branches))

    def test_the_empty_beginning(self):
        for kept in ({}, {"": 1}, {"ab": 1}, {"a": 1, "b": 2}, {"": 1, "a": 2}):
            self.same(ahead(tree_of(kept), ""), tree_of(kept))

    def test_names_of_up_to_eighty_signs(self):
        for beginning in ("b", "a" * 40, "ab" * 20):
            for kept in (chain(40), many_names(100), {"~" * 40: -1}):
                tree = tree_of(kept)
                longer = {beginning + name: number for name, number in kept.items()}
                self.same(ahead(tree, beginning), tree_of(longer))
                self.same(tree, tree_of(kept))
                self.same(names(ahead(tree, beginning)), sorted(longer.items()))
                self.same(knots(ahead(tree, beginning)), knots_of(longer))

    def test_small_trees(self):
        for kept in dicts(texts("ab", 2)):
            for beginning in ("", "a", "b", "ab", " ", "~a"):
                longer = {beginning + name: number for name, number in kept.items()}
                self.same(ahead(tree_of(kept), beginning), tree_of(longer))


class Names(Check):
    def test_of_none(self):
        self.same(names(None), [])

    def test_of_a_leaf(self):
        self.same(names(leaf("ab", 1)), [("ab", 1)])
        self.same(names(leaf("", 0)), [("", 0)])

    def test_rising_by_the_first_sign_that_differs_the_shorter_ahead(self):
        kept = {"b": 1, "a": 2, "ab": 3, "": 4, "a b": 5, "a~": 6, "Z": 7, "a0": 8, "aB": 9}
        self.same(names(grown(kept.items())),
                  [("", 4), ("Z", 7), ("a", 2), ("a b", 5), ("a0", 8), ("aB", 9), ("ab", 3),
                   ("a~", 6), ("b", 1)])

    def test_small_trees(self):
        for kept in dicts((texts("ab", 2) + texts(" ~", 2)[1:])[:10]):
            self.same(names(tree_of(kept)), sorted(kept.items()))

    def test_large_trees(self):
        for kept in (many_names(100), many_names(130), chain(40)):
            self.same(names(tree_of(kept)), sorted(kept.items()))

    def test_what_was_told_is_the_askers_own(self):
        for kept in ({}, {"a": 1}, {"a": 1, "ab": 2, "b": 3}):
            tree = tree_of(kept)
            first = names(tree)
            first.append(("c", 9))
            second = names(tree)
            self.same(second, sorted(kept.items()))
            names(put(tree, "zz", 1))
            self.same(second, sorted(kept.items()))
            self.same(first, sorted(kept.items()) + [("c", 9)])
            self.same(tree, tree_of(kept))


class Knots(Check):
    def test_of_none(self):
        self.same(knots(None), [])

    def test_of_a_leaf(self):
        self.same(knots(leaf("ab", 7)), [("ab", 0)])
        self.same(knots(leaf("", 7)), [("", 0)])

    def test_whole_texts_a_fork_ahead_of_its_branches(self):
        tree = ("fork", "a", (("", leaf("", 5)),
                              ("b", ("fork", "c", (("d", leaf("e", 6)), ("f", leaf("", 7)),
                                                   ("g", leaf("hh", 8))))),
                              ("x", leaf("yz", 9))))
        self.same(knots(tree), [("a", 3), ("a", 0), ("abc", 3), ("abcde", 0), ("abcf", 0),
                                ("abcghh", 0), ("axyz", 0)])

    def test_a_shared_text_that_is_empty(self):
        tree = ("fork", "", (("", leaf("", 5)), ("~", leaf(" ", 6))))
        self.same(knots(tree), [("", 2), ("", 0), ("~ ", 0)])

    def test_small_trees(self):
        for kept in dicts((texts("ab", 2) + texts(" ~", 2)[1:])[:10]):
            self.same(knots(tree_of(kept)), knots_of(kept))

    def test_large_trees(self):
        for kept in (many_names(100), many_names(130), chain(40)):
            self.same(knots(tree_of(kept)), knots_of(kept))

    def test_no_knot_has_a_single_child(self):
        kept = many_names(130)
        tree = None
        for name in kept:
            tree = put(tree, name, kept[name])
            self.assertNotIn(1, [many for _, many in knots(tree)])
        for name in kept:
            tree = without(tree, name)
            self.assertNotIn(1, [many for _, many in knots(tree)])

    def test_what_was_told_is_the_askers_own(self):
        for kept in ({}, {"a": 1}, {"a": 1, "ab": 2, "b": 3}):
            tree = tree_of(kept)
            first = knots(tree)
            first.append(("c", 9))
            second = knots(tree)
            self.same(second, knots_of(kept))
            knots(put(tree, "zz", 1))
            self.same(second, knots_of(kept))
            self.same(first, knots_of(kept) + [("c", 9)])
            self.same(tree, tree_of(kept))


if __name__ == "__main__":
    unittest.main()
