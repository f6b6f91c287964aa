"""[7] and [8], with [3] and [4], and the interface's list of radixtrail/branches.py."""

import unittest

from checks import Check
from plain import LARGEST, SIGNS, chain, dicts, knots_of, leaf, many_names, texts, tree_of
from radixtrail.branches import copied, cut, joined, moved
from radixtrail.errors import NotThere, Taken
from radixtrail.trees import ahead, knots, names

INNER = (("f", leaf("gh", 1)), ("k", leaf("", 2)))
DEEP = ("fork", "ab", (("c", ("fork", "de", INNER)), ("x", leaf("yz", 3))))
CHAINED = ("fork", "a", (("", leaf("", 1)), ("b", leaf("c", 2)), ("d", leaf("", 3))))


def parted_of(kept, beginning):
    """The names of a dict that don't begin so, and the others without the beginning."""
    left = {name: kept[name] for name in kept if not name.startswith(beginning)}
    taken = {name[len(beginning):]: kept[name] for name in kept if name not in left}
    return (left, taken)


def longer_of(kept, beginning):
    return {beginning + name: number for name, number in kept.items()}


class Cut(Check):
    def test_of_none(self):
        for beginning in ("", "a", "a" * 40):
            self.answered((None, None), cut, None, beginning)

    def test_the_empty_beginning_takes_all(self):
        for tree in (leaf("ab", 1), leaf("", 0), DEEP, CHAINED):
            self.answered((None, tree), cut, tree, "")

    def test_of_a_leaf(self):
        self.answered((None, leaf("bc", 7)), cut, leaf("abc", 7), "a")
        self.answered((None, leaf("c", 7)), cut, leaf("abc", 7), "ab")
        self.answered((None, leaf("", 7)), cut, leaf("abc", 7), "abc")
        for beginning in ("abcd", "b", "bc", "ac", "abd", "abb", "A", " abc", "abc" * 14):
            self.answered((leaf("abc", 7), None), cut, leaf("abc", 7), beginning)
        self.answered((leaf("", 7), None), cut, leaf("", 7), "a")

    def test_inside_a_shared_text_and_at_its_end(self):
        self.answered((None, ("fork", "b", DEEP[2])), cut, DEEP, "a")
        self.answered((None, ("fork", "", DEEP[2])), cut, DEEP, "ab")
        other = leaf("abxyz", 3)
        self.answered((other, ("fork", "e", INNER)), cut, DEEP, "abcd")
        self.answered((other, ("fork", "", INNER)), cut, DEEP, "abcde")

    def test_at_the_sign_of_a_branch(self):
        self.answered((leaf("abxyz", 3), ("fork", "de", INNER)), cut, DEEP, "abc")
        self.answered((("fork", "abcde", INNER), leaf("yz", 3)), cut, DEEP, "abx")

    def test_inside_the_rest_of_a_leaf_and_at_its_end(self):
        self.answered((("fork", "abcde", INNER), leaf("z", 3)), cut, DEEP, "abxy")
        self.answered((("fork", "abcde", INNER), leaf("", 3)), cut, DEEP, "abxyz")
        left = ("fork", "ab", (("c", leaf("dek", 2)), ("x", leaf("yz", 3))))
        for beginning, behind in (("abcdef", "gh"), ("abcdefg", "h"), ("abcdefgh", "")):
            self.answered((left, leaf(behind, 1)), cut, DEEP, beginning)

    def test_no_name_begins_so(self):
        for beginning in ("b", "ac", "aa", "b" * 40, "abd", "ab ", "ab~", "abce", "abcx", "abcdeg",
                          "abxz", "abcdefx", "abcdefghi", "abcdekk", "abxyz ", "cde", "x"):
            self.answered((DEEP, None), cut, DEEP, beginning)
        for beginning in ("a ", "abb", "abcd", "dd", "ad ", "b", " "):
            self.answered((CHAINED, None), cut, CHAINED, beginning)

    def test_longer_than_every_name(self):
        for tree in (leaf("a" * 30, 1), tree_of(chain(30)), DEEP):
            for beginning in ("a" * 31, "a" * 40, "abcdefgh" * 5):
                self.answered((tree, None), cut, tree, beginning)

    def test_a_fork_of_three_stays(self):
        self.answered((("fork", "a", (("", leaf("", 1)), ("d", leaf("", 3)))), leaf("c", 2)),
                      cut, CHAINED, "ab")
        self.answered((("fork", "a", (("", leaf("", 1)), ("b", leaf("c", 2)))), leaf("", 3)),
                      cut, CHAINED, "ad")

    def test_a_fork_of_two_is_left_with_the_name_that_ends_at_it(self):
        tree = ("fork", "a", (("", leaf("", 1)), ("b", leaf("c", 2))))
        self.answered((leaf("a", 1), leaf("c", 2)), cut, tree, "ab")
        self.answered((leaf("a", 1), leaf("", 2)), cut, tree, "abc")
        self.answered((None, ("fork", "", tree[2])), cut, tree, "a")

    def test_each_beginning_of_each_small_tree(self):
        some = texts("ab", 2) + texts(" ~", 2)[1:]
        beginnings = texts("ab", 3) + texts(" ~", 2)[1:] + ["a "]
        for kept in dicts(some[:10]):
            for beginning in beginnings:
                left, taken = parted_of(kept, beginning)
                self.answered((tree_of(left), tree_of(taken)), cut, tree_of(kept), beginning)

    def test_large_trees(self):
        for kept in (many_names(100), many_names(130), chain(40), {sign: 1 for sign in SIGNS}):
            tree = tree_of(kept)
            beginnings = {name[:at] for name in kept for at in range(0, 41, 3)} | set(SIGNS)
            for beginning in sorted(beginnings):
                left, taken = parted_of(kept, beginning)
                self.answered((tree_of(left), tree_of(taken)), cut, tree, beginning)


class Joined(Check):
    def joins(self, wanted, one, other):
        """That two trees are joined so, each way round."""
        self.answered(wanted, joined, one, other)
        self.answered(wanted, joined, other, one)

    def test_none(self):
        self.answered(None, joined, None, None)
        for tree in (leaf("ab", 1), leaf("", 0), DEEP, CHAINED):
            self.joins(tree, tree, None)

    def test_two_leaves(self):
        self.joins(("fork", "", (("a", leaf("b", 1)), ("x", leaf("y", 2)))),
                   leaf("ab", 1), leaf("xy", 2))
        self.joins(("fork", "a", (("b", leaf("c", 1)), ("x", leaf("", 2)))),
                   leaf("abc", 1), leaf("ax", 2))
        self.joins(("fork", "ab", (("", leaf("", 1)), ("c", leaf("d", 2)))),
                   leaf("ab", 1), leaf("abcd", 2))
        self.joins(("fork", "", (("", leaf("", 1)), (" ", leaf("", 2)))),
                   leaf("", 1), leaf(" ", 2))

    def test_nothing_in_common(self):
        self.joins(("fork", "", (("a", ("fork", "b", DEEP[2])), ("z", leaf("", 9)))),
                   DEEP, leaf("z", 9))
        other = ("fork", "z", (("", leaf("", 8)), ("a", leaf("b", 9))))
        self.joins(("fork", "", (("a", ("fork", "", CHAINED[2])), ("z", ("fork", "", other[2])))),
                   CHAINED, other)

    def test_forks_that_split_at_the_same_place(self):
        self.joins(("fork", "a", (("", leaf("", 1)), ("b", leaf("c", 2)), ("c", leaf("", 4)),
                                  ("d", leaf("", 3)), ("e", leaf("", 5)))),
                   CHAINED, ("fork", "a", (("c", leaf("", 4)), ("e", leaf("", 5)))))
        self.joins(("fork", "a", (("", leaf("", 1)),
                                  ("b", ("fork", "", (("c", leaf("", 2)), ("d", leaf("", 4))))),
                                  ("d", ("fork", "", (("", leaf("", 3)), ("x", leaf("", 5))))))),
                   CHAINED, ("fork", "a", (("b", leaf("d", 4)), ("d", leaf("x", 5)))))

    def test_forks_that_split_at_different_places(self):
        one = ("fork", "abc", INNER)
        self.joins(("fork", "ab", (("c", ("fork", "", INNER)), ("d", ("fork", "", INNER)))),
                   one, ("fork", "abd", INNER))
        other = ("fork", "a", (("b", leaf("", 8)), ("c", leaf("", 9))))
        self.joins(("fork", "a", (("b", ("fork", "", (("", leaf("", 8)),
                                                      ("c", ("fork", "", INNER))))),
                                  ("c", leaf("", 9)))), one, other)

    def test_all_names_of_one_below_a_branch_of_the_other(self):
        below = ("fork", "abxy", (("", leaf("", 8)), ("a", leaf("", 9))))
        inner = ("fork", "y", (("", leaf("", 8)), ("a", leaf("", 9)), ("z", leaf("", 3))))
        self.joins(("fork", "ab", (DEEP[2][0], ("x", inner))), DEEP, below)
        new = ("b", ("fork", "", (("a", leaf("", 8)), ("b", leaf("", 9)))))
        self.joins(("fork", "ab", (new,) + DEEP[2]),
                   DEEP, ("fork", "abb", (("a", leaf("", 8)), ("b", leaf("", 9)))))

    def test_a_leaf_at_a_fork(self):
        self.joins(("fork", "ab", (("", leaf("", 0)),) + DEEP[2]), DEEP, leaf("ab", 0))
        self.joins(("fork", "", (("", leaf("", 0)), ("a", ("fork", "b", DEEP[2])))),
                   DEEP, leaf("", 0))
        self.joins(("fork", "a", (("", leaf("", 0)), ("b", ("fork", "", DEEP[2])))),
                   DEEP, leaf("a", 0))

    def test_the_same_name_in_both(self):
        for one, other in ((leaf("ab", 1), leaf("ab", 1)), (leaf("ab", 1), leaf("ab", 2)),
                           (leaf("", 1), leaf("", 0)), (DEEP, leaf("abcdek", 2)),
                           (DEEP, leaf("abxyz", 0)), (CHAINED, leaf("a", 9)),
                           (CHAINED, ("fork", "a", (("", leaf("", 1)), ("x", leaf("", 2))))),
                           (CHAINED, ("fork", "", (("a", leaf("d", 3)), ("b", leaf("", 2)))))):
            self.refused(Taken, joined, one, other)
            self.refused(Taken, joined, other, one)

    def test_a_tree_with_itself(self):
        for tree in (leaf("ab", 1), leaf("", 0), DEEP, CHAINED, tree_of(many_names(100))):
            self.refused(Taken, joined, tree, tree)

    def test_any_two_small_trees(self):
        pairs = [(kept, tree_of(kept)) for kept in dicts(texts("ab", 2))]
        for one, one_tree in pairs:
            for other, other_tree in pairs:
                if one.keys() & other.keys():
                    self.refused(Taken, joined, one_tree, other_tree)
                else:
                    self.answered(tree_of(one | other), joined, one_tree, other_tree)

    def test_large_trees(self):
        for kept in (many_names(100), many_names(130), chain(40)):
            for step in (2, 3, 7, 50):
                one = {name: kept[name] for at, name in enumerate(sorted(kept)) if at % step == 0}
                other = {name: kept[name] for name in kept if name not in one}
                self.joins(tree_of(kept), tree_of(one), tree_of(other))
                self.refused(Taken, joined, tree_of(kept), tree_of(other))

    def test_what_was_cut_off(self):
        for kept in (many_names(130), chain(40)):
            tree = tree_of(kept)
            for beginning in sorted({name[:at] for name in kept for at in (1, 2, 20, 40)}):
                left, taken = cut(tree, beginning)
                self.joins(tree, left, ahead(taken, beginning))


class Moved(Check):
    def moves(self, kept, beginning, other):
        """That moved tells of the names of a dict what [8] says."""
        left, taken = parted_of(kept, beginning)
        new = longer_of(taken, other)
        if not new:
            self.refused(NotThere, moved, tree_of(kept), beginning, other)
        elif new.keys() & left.keys():
            self.refused(Taken, moved, tree_of(kept), beginning, other)
        else:
            self.answered(tree_of(left | new), moved, tree_of(kept), beginning, other)

    def test_a_branch_to_another_place(self):
        self.answered(("fork", "", (("a", leaf("bxyz", 3)), ("q", ("fork", "de", INNER)))),
                      moved, DEEP, "abc", "q")
        self.answered(("fork", "abx", (("d", ("fork", "e", INNER)), ("y", leaf("z", 3)))),
                      moved, DEEP, "abc", "abx")

    def test_a_name_alone(self):
        self.answered(leaf("b", 7), moved, leaf("a", 7), "a", "b")
        self.answered(leaf("", 7), moved, leaf("ab", 7), "ab", "")
        self.answered(leaf("ab", 7), moved, leaf("", 7), "", "ab")

    def test_both_texts_empty(self):
        for tree in (leaf("", 0), DEEP, CHAINED):
            self.answered(tree, moved, tree, "", "")

    def test_the_same_text(self):
        for beginning in ("a", "ab", "abc", "abcd", "abcdef", "abxyz"):
            self.answered(DEEP, moved, DEEP, beginning, beginning)

    def test_one_text_the_beginning_of_the_other(self):
        self.answered(tree_of({"abcdedefgh": 1, "abcdedek": 2, "abxyz": 3}),
                      moved, DEEP, "abc", "abcde")
        self.answered(tree_of({"adefgh": 1, "adek": 2, "abxyz": 3}), moved, DEEP, "abc", "a")
        self.answered(tree_of({"defgh": 1, "dek": 2, "abxyz": 3}), moved, DEEP, "abc", "")
        self.answered(("fork", "qab", DEEP[2]), moved, DEEP, "", "q")
        self.answered(("fork", "", DEEP[2]), moved, DEEP, "ab", "")

    def test_to_where_another_that_moves_was(self):
        kept = chain(5)
        self.answered(tree_of(longer_of(kept, "a")), moved, tree_of(kept), "", "a")
        self.answered(tree_of({"": 1, "a": 2, "b": 0}), moved, tree_of({"a": 1, "aa": 2, "b": 0}),
                      "a", "")
        self.answered(tree_of({"aa": 1, "aaa": 2, "b": 0}),
                      moved, tree_of({"a": 1, "aa": 2, "b": 0}), "a", "aa")

    def test_not_there(self):
        for tree, beginning in ((None, ""), (None, "a"), (leaf("ab", 1), "b"), (DEEP, "abd"),
                                (leaf("ab", 1), "abc"), (DEEP, "abcdefghi"), (DEEP, "b")):
            for other in ("", "ab", beginning, "abxyz"):
                self.refused(NotThere, moved, tree, beginning, other)

    def test_taken_by_a_name_that_stays(self):
        self.refused(Taken, moved, tree_of({"a": 1, "b": 1}), "a", "b")
        self.refused(Taken, moved, tree_of({"a": 1, "b": 2}), "b", "a")
        self.refused(Taken, moved, tree_of({"ax": 1, "ay": 2, "by": 3}), "a", "b")
        self.refused(Taken, moved, tree_of({"": 0, "a": 1}), "a", "")
        self.refused(Taken, moved, tree_of({"abc": 1, "c": 2}), "ab", "")

    def test_each_beginning_and_text_of_small_trees(self):
        some = texts("ab", 2)
        for kept in dicts(some):
            for beginning in some + ["aab", " "]:
                for other in some + ["aab", " "]:
                    self.moves(kept, beginning, other)

    def test_large_trees(self):
        for kept in (many_names(100), chain(20)):
            for beginning in sorted({name[:at] for name in kept for at in (0, 1, 2, 9)}):
                for other in ("", "a", "(", "~~~", beginning, beginning[:-1], beginning + "a"):
                    self.moves(kept, beginning, other)

    def test_numbers_go_along(self):
        for number in (0, -1, LARGEST, -LARGEST):
            self.answered(tree_of({"b": number, "c": 5}),
                          moved, tree_of({"a": number, "c": 5}), "a", "b")


class Copied(Check):
    def copies(self, kept, beginning, other):
        """That copied tells of the names of a dict what [8] says."""
        _, taken = parted_of(kept, beginning)
        new = longer_of(taken, other)
        if not new:
            self.refused(NotThere, copied, tree_of(kept), beginning, other)
        elif new.keys() & kept.keys():
            self.refused(Taken, copied, tree_of(kept), beginning, other)
        else:
            self.answered(tree_of(kept | new), copied, tree_of(kept), beginning, other)

    def test_a_branch_to_another_place(self):
        self.answered(("fork", "", (("a", ("fork", "b", DEEP[2])), ("q", ("fork", "de", INNER)))),
                      copied, DEEP, "abc", "q")
        inner = ("fork", "", (("d", ("fork", "e", INNER)), ("y", leaf("z", 3))))
        self.answered(("fork", "ab", (DEEP[2][0], ("x", inner))), copied, DEEP, "abc", "abx")

    def test_a_name_alone(self):
        self.answered(tree_of({"a": 7, "b": 7}), copied, leaf("a", 7), "a", "b")
        self.answered(tree_of({"ab": 7, "": 7}), copied, leaf("ab", 7), "ab", "")
        self.answered(tree_of({"": 7, "ab": 7}), copied, leaf("", 7), "", "ab")

    def test_the_same_text_is_taken(self):
        for tree in (leaf("", 0), DEEP, CHAINED):
            self.refused(Taken, copied, tree, "", "")
        for beginning in ("a", "ab", "abc", "abcd", "abcdef", "abxyz"):
            self.refused(Taken, copied, DEEP, beginning, beginning)

    def test_one_text_the_beginning_of_the_other(self):
        kept = {"abcdefgh": 1, "abcdek": 2, "abxyz": 3}
        self.answered(tree_of(kept | {"abcdedefgh": 1, "abcdedek": 2}),
                      copied, DEEP, "abc", "abcde")
        self.answered(tree_of(kept | {"adefgh": 1, "adek": 2}), copied, DEEP, "abc", "a")
        self.answered(tree_of(kept | longer_of(kept, "q")), copied, DEEP, "", "q")
        self.answered(tree_of(kept | {"cdefgh": 1, "cdek": 2, "xyz": 3}), copied, DEEP, "ab", "")

    def test_not_there(self):
        for tree, beginning in ((None, ""), (None, "a"), (leaf("ab", 1), "b"), (DEEP, "abd"),
                                (leaf("ab", 1), "abc"), (DEEP, "abcdefghi"), (DEEP, "b")):
            for other in ("", "ab", beginning, "abxyz"):
                self.refused(NotThere, copied, tree, beginning, other)

    def test_taken_by_any_name(self):
        self.refused(Taken, copied, tree_of({"a": 1, "b": 1}), "a", "b")
        self.refused(Taken, copied, tree_of({"ax": 1, "ay": 2, "by": 3}), "a", "b")
        # These come to where names were that would move on if they were moved.
        self.refused(Taken, copied, tree_of(chain(5)), "", "a")
        self.refused(Taken, copied, tree_of({"a": 1, "aa": 2, "b": 0}), "a", "aa")
        self.refused(Taken, copied, tree_of({"a": 1, "aa": 2, "b": 0}), "a", "")

    def test_each_beginning_and_text_of_small_trees(self):
        some = texts("ab", 2)
        for kept in dicts(some):
            for beginning in some + ["aab", " "]:
                for other in some + ["aab", " "]:
                    self.copies(kept, beginning, other)

    def test_large_trees(self):
        for kept in (many_names(100), chain(20)):
            for beginning in sorted({name[:at] for name in kept for at in (0, 1, 2, 9)}):
                for other in ("", "a", "(", "~~~", beginning, beginning[:-1], beginning + "a"):
                    self.copies(kept, beginning, other)


class LongNames(Check):
    """[8]: new names may have up to 80 signs; names and knots tell of such."""

    def keeps(self, tree, kept):
        """That a tree is the one of the names of a dict, and is told so."""
        self.same(tree, tree_of(kept))
        self.same(names(tree), sorted(kept.items()))
        self.same(knots(tree), knots_of(kept))

    def test_of_one_name(self):
        for function, more in ((moved, {}), (copied, {"a" * 40: 7})):
            tree = function(leaf("a" * 40, 7), "", "b" * 40)
            self.keeps(tree, {"b" * 40 + "a" * 40: 7} | more)

    def test_of_many_names(self):
        for kept in (chain(40), many_names(100)):
            for beginning, other in (("", "~" * 40), ("a" * 3, "b" * 40), ("", "a" * 41)):
                left, taken = parted_of(kept, beginning)
                if taken:
                    new = longer_of(taken, other)
                    tree = tree_of(kept)
                    self.keeps(moved(tree, beginning, other), left | new)
                    self.keeps(copied(tree, beginning, other), kept | new)

    def test_joined_chains_of_up_to_eighty_signs(self):
        short, long = chain(40), longer_of(chain(40), "a" * 40)
        del long["a" * 40]
        tree = joined(tree_of(short), tree_of(long))
        self.keeps(tree, short | long)
        self.keeps(joined(tree_of(long), tree_of(short)), short | long)
        self.same(cut(tree, "a" * 40), (tree_of(chain(39)), tree_of({
            "a" * at: at if at else 40 for at in range(41)})))


if __name__ == "__main__":
    unittest.main()
