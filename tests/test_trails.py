"""[11], [12] and [13], and the interface's list of radixtrail/trails.py."""

import unittest

from checks import Check
from plain import LARGEST, chain, leaf, many_names, texts, tree_of
from plain_trail import PlainTrail
from radixtrail.errors import (NoName, NotThere, NothingDone, Taken, TooLong, TooMany,
                               TrailError)
from radixtrail.trails import MOST_NAMES, Trail

TOO_LONG = "a" * 41

# Things that are no names, whatever they are; repr refuses the last two, as too much.
NO_NAMES = [None, 0, 1, -7, 10 ** 60, True, False, [], ["a"], (), ("a",), {}, {"a": 1}, set(),
            b"", b"a", object(), str, "\n", "\t", "a\n", "\na", "a\tb", "a" * 39 + "\n", TOO_LONG,
            " " * 41, "a" * 40 + "\n", "a" * 1000, 10 ** 5000, []]
for _ in range(20000):
    NO_NAMES[-1] = [NO_NAMES[-1]]


def numbered(many):
    """So many names of four signs, each with a number of its own."""
    return {f"n{at:03}": at for at in range(many)}


def trail_of(kept):
    """A trail that keeps the names of a dict, each by a deed of its own."""
    trail = Trail()
    for name, number in kept.items():
        trail.keep(name, number)
    return trail


class TrailTest(Check):
    def keeps(self, trail, kept):
        """That a trail's tree, names and size are those of a dict."""
        self.same(trail.tree(), tree_of(kept))
        self.same(trail.told(""), sorted(kept.items()))
        self.same(trail.size(), len(kept))

    def refuses(self, kind, trail, deed, *things):
        """That a deed is refused with just this kind, and changes nothing."""
        before = (repr(trail.tree()), trail.told(""), trail.size())
        for caught in (kind, TrailError, ValueError):
            with self.assertRaises(caught) as held:
                getattr(trail, deed)(*things)
            self.assertIs(type(held.exception), kind)
            self.assertEqual((repr(trail.tree()), trail.told(""), trail.size()), before)


class Keep(TrailTest):
    def test_a_new_trail_is_empty(self):
        self.keeps(Trail(), {})
        self.assertIsNone(Trail().tree())

    def test_answers_the_number_that_the_name_had(self):
        trail = Trail()
        for name, number, wanted in (("ab", 1, None), ("ab", 2, 1), ("ab", 0, 2), ("ab", -3, 0),
                                     ("", 0, None), ("", 5, 0), ("abc", LARGEST, None),
                                     ("abc", -LARGEST, LARGEST), ("a", 1, None),
                                     ("abc", 1, -LARGEST)):
            self.same(trail.keep(name, number), wanted)
        self.keeps(trail, {"ab": -3, "": 5, "abc": 1, "a": 1})

    def test_numbers_are_not_looked_at(self):
        trail = Trail()
        self.same(trail.keep("a", 10 ** 60), None)
        self.same(trail.keep("a", 1), 10 ** 60)

    def test_no_name(self):
        for thing in NO_NAMES:
            for number in (0, 10 ** 60):
                self.refuses(NoName, trail_of({"a": 1}), "keep", thing, number)


class Drop(TrailTest):
    def test_answers_the_number(self):
        trail = trail_of({"ab": 0, "abc": -1, "": LARGEST, "x": 3})
        for name, wanted in (("ab", 0), ("", LARGEST), ("abc", -1), ("x", 3)):
            self.same(trail.drop(name), wanted)
            self.refuses(NotThere, trail, "drop", name)
        self.keeps(trail, {})

    def test_not_there(self):
        trail = trail_of({"abc": 1, "abd": 2})
        for name in ("", "a", "ab", "abe", "abcc", "b", "a" * 40):
            self.refuses(NotThere, trail, "drop", name)
            self.refuses(NotThere, Trail(), "drop", name)

    def test_no_name_ahead_of_not_there(self):
        for thing in NO_NAMES:
            self.refuses(NoName, Trail(), "drop", thing)
            self.refuses(NoName, trail_of({"a": 1}), "drop", thing)


class Prune(TrailTest):
    def test_answers_how_many_names_were_under_it(self):
        kept = {"abc": 1, "abd": 2, "ab": 3, "x": 4, "": 5}
        for beginning, wanted in (("", 5), ("a", 3), ("ab", 3), ("abc", 1), ("x", 1)):
            trail = trail_of(kept)
            self.same(trail.prune(beginning), wanted)
            self.keeps(trail, {name: kept[name] for name in kept
                               if not name.startswith(beginning)})

    def test_not_there(self):
        for beginning in ("b", "abcd", "aa", "a" * 40):
            self.refuses(NotThere, trail_of({"abc": 1, "abd": 2}), "prune", beginning)
        for beginning in ("", "a"):
            self.refuses(NotThere, Trail(), "prune", beginning)

    def test_no_name_ahead_of_not_there(self):
        for thing in NO_NAMES:
            self.refuses(NoName, Trail(), "prune", thing)
            self.refuses(NoName, trail_of({"a": 1}), "prune", thing)


class Move(TrailTest):
    def test_answers_how_many_names_moved(self):
        trail = trail_of({"abc": 1, "abd": 2, "x": 3})
        for beginning, other, wanted in (("ab", "q", 2), ("q", "xa", 2), ("x", "", 3), ("", "~", 3),
                                         ("~", "~", 3), ("", "", 3), ("~a", "b", 2)):
            self.same(trail.move(beginning, other), wanted)
        self.keeps(trail, {"bc": 1, "bd": 2, "~": 3})

    def test_to_where_another_that_moves_was(self):
        trail = trail_of(chain(38))
        self.same(trail.move("", "a"), 39)
        self.keeps(trail, {"a" * at: at - 1 for at in range(1, 40)})
        self.same(trail.move("a", ""), 39)
        self.keeps(trail, chain(38))

    def test_names_of_forty_signs_and_more(self):
        trail = trail_of({"a" * 40: 1, "b": 2})
        for beginning, other in (("a", "ba"), ("", "a"), ("a" * 20, "c" * 21)):
            self.refuses(TooLong, trail, "move", beginning, other)
        self.same(trail.move("a", "c"), 1)
        self.same(trail.move("b", "d" * 40), 1)
        self.keeps(trail, {"c" + "a" * 39: 1, "d" * 40: 2})
        self.same(trail.move("d" * 40, ""), 1)
        self.same(trail.move("c" + "a" * 39, "e" * 40), 1)
        self.keeps(trail, {"e" * 40: 1, "": 2})

    def test_not_there_ahead_of_too_long_and_taken(self):
        trail = trail_of({"ab": 1, "c": 2})
        for beginning in ("b", "abc", "aa", "cc"):
            for other in ("", "c", "ab", "a" * 40, beginning):
                self.refuses(NotThere, trail, "move", beginning, other)
                self.refuses(NotThere, Trail(), "move", beginning, other)
        self.refuses(NotThere, Trail(), "move", "", "")

    def test_too_long_ahead_of_taken(self):
        trail = trail_of({"a": 1, "abb": 2, "c" * 39: 3})
        self.refuses(TooLong, trail, "move", "a", "c" * 39)
        self.refuses(Taken, trail_of({"a": 1, "ab": 2, "c" * 39: 3}), "move", "a", "c" * 39)

    def test_taken(self):
        self.refuses(Taken, trail_of({"a": 1, "b": 1}), "move", "a", "b")
        self.refuses(Taken, trail_of({"": 0, "a": 1}), "move", "a", "")
        self.refuses(Taken, trail_of({"ax": 1, "ay": 2, "by": 3}), "move", "a", "b")

    def test_no_name_ahead_of_all(self):
        for thing in NO_NAMES:
            for trail in (Trail(), trail_of({"a": 1, "b" * 40: 2})):
                for beginning, other in ((thing, "a"), (thing, "x"), ("a", thing), ("b", thing),
                                         ("x", thing), (thing, thing)):
                    self.refuses(NoName, trail, "move", beginning, other)

    def test_with_a_hundred_names(self):
        trail = trail_of(numbered(100))
        self.same(trail.move("n", "m"), 100)
        self.keeps(trail, {"m" + name[1:]: number for name, number in numbered(100).items()})


class Graft(TrailTest):
    def test_answers_how_many_names_were_copied(self):
        trail = trail_of({"abc": 1, "abd": 2, "x": 3})
        for beginning, other, wanted in (("ab", "q", 2), ("x", "", 1), ("abc", "xy", 1),
                                         ("", "~", 7)):
            self.same(trail.graft(beginning, other), wanted)
        kept = {"abc": 1, "abd": 2, "x": 3, "qc": 1, "qd": 2, "": 3, "xy": 1}
        self.keeps(trail, kept | {"~" + name: number for name, number in kept.items()})

    def test_names_of_forty_signs_and_more(self):
        trail = trail_of({"a" * 40: 1, "b": 2})
        for beginning, other in (("a", "ba"), ("", "a"), ("a" * 20, "c" * 21)):
            self.refuses(TooLong, trail, "graft", beginning, other)
        self.same(trail.graft("a", "c"), 1)
        self.same(trail.graft("b", "d" * 40), 1)
        self.keeps(trail, {"a" * 40: 1, "b": 2, "c" + "a" * 39: 1, "d" * 40: 2})

    def test_not_there_ahead_of_the_others(self):
        for trail in (Trail(), trail_of({"ab": 1, "c": 2}), trail_of(numbered(100))):
            for beginning in ("b", "abc", "aa", "cc"):
                for other in ("", "c", "ab", "a" * 40, beginning):
                    self.refuses(NotThere, trail, "graft", beginning, other)
        self.refuses(NotThere, Trail(), "graft", "", "")

    def test_too_long_ahead_of_taken(self):
        trail = trail_of({"a": 1, "abb": 2, "c" * 39: 3})
        self.refuses(TooLong, trail, "graft", "a", "c" * 39)
        self.refuses(Taken, trail_of({"a": 1, "ab": 2, "c" * 39: 3}), "graft", "a", "c" * 39)

    def test_taken(self):
        self.refuses(Taken, trail_of({"a": 1, "b": 1}), "graft", "a", "b")
        self.refuses(Taken, trail_of({"a": 1, "b": 1}), "graft", "a", "a")
        self.refuses(Taken, trail_of({"": 1}), "graft", "", "")
        # A name that would move on if it were moved stays in its place here.
        self.refuses(Taken, trail_of(chain(5)), "graft", "", "a")

    def test_no_name_ahead_of_all(self):
        for thing in NO_NAMES:
            for trail in (Trail(), trail_of({"a": 1, "b" * 40: 2}), trail_of(numbered(100))):
                for beginning, other in ((thing, "a"), (thing, "x"), ("a", thing), ("b", thing),
                                         ("x", thing), (thing, thing)):
                    self.refuses(NoName, trail, "graft", beginning, other)


class TooManyNames(TrailTest):
    def test_most_names(self):
        self.same(MOST_NAMES, 100)

    def test_the_hundredth_and_the_next_by_keep(self):
        for kept in (numbered(99), dict(list(many_names(100).items())[:99])):
            trail = trail_of(kept)
            self.same(trail.keep("last", 7), None)
            self.keeps(trail, kept | {"last": 7})
            for name in ("z", "~" * 40, "n", "lasts", "las"):
                self.refuses(TooMany, trail, "keep", name, 1)
            trail.drop("last")
            self.same(trail.keep("z", 1), None)
            self.keeps(trail, kept | {"z": 1})

    def test_the_hundredth_and_the_next_by_graft(self):
        trail = trail_of(numbered(99))
        self.refuses(TooMany, trail, "graft", "", "x")
        self.refuses(TooMany, trail, "graft", "n00", "x")
        self.refuses(TooMany, trail, "graft", "n09", "x")
        self.same(trail.graft("n000", "x"), 1)
        self.keeps(trail, numbered(99) | {"x": 0})
        self.refuses(TooMany, trail, "graft", "n000", "y")
        trail = trail_of(numbered(50))
        self.same(trail.graft("", "x"), 50)
        self.same(trail.size(), 100)
        trail = trail_of(numbered(51))
        self.refuses(TooMany, trail, "graft", "", "x")

    def test_a_kept_name_is_kept_anew_with_a_hundred_names(self):
        trail = trail_of(numbered(100))
        self.same(trail.keep("n007", -1), 7)
        self.same(trail.keep("n007", -1), -1)
        self.keeps(trail, numbered(100) | {"n007": -1})

    def test_no_name_and_the_others_ahead_of_too_many(self):
        trail = trail_of(numbered(100))
        for thing in NO_NAMES:
            self.refuses(NoName, trail, "keep", thing, 1)
        self.refuses(NotThere, trail, "graft", "x", "y")
        self.refuses(TooLong, trail, "graft", "n", "y" * 38)
        self.refuses(Taken, trail, "graft", "n000", "n001")
        self.refuses(Taken, trail, "graft", "", "")
        self.refuses(TooMany, trail, "graft", "n000", "y")

    def test_a_refused_deed_is_none(self):
        trail = trail_of(numbered(100))
        self.refuses(TooMany, trail, "keep", "x", 1)
        self.refuses(TooMany, trail, "graft", "n", "m")
        trail.back()
        self.keeps(trail, numbered(99))


class Back(TrailTest):
    def test_nothing_done(self):
        self.refuses(NothingDone, Trail(), "back")
        trail = Trail()
        for deed, things in (("keep", ("\n", 1)), ("drop", ("a",)), ("prune", ("",)),
                             ("move", ("a", "b")), ("graft", ("", "")), ("told", (None,))):
            with self.assertRaises(TrailError):
                getattr(trail, deed)(*things)
        trail.told("")
        trail.tree()
        trail.size()
        self.refuses(NothingDone, trail, "back")

    def test_each_deed_is_taken_back_the_last_first(self):
        trail = Trail()
        trees = []
        for deed, things in (("keep", ("ab", 1)), ("keep", ("ac", 2)), ("graft", ("a", "b")),
                             ("drop", ("ab",)), ("move", ("b", "c")), ("prune", ("c",)),
                             ("keep", ("ac", 9)), ("drop", ("ac",))):
            trees.append(trail.tree())
            getattr(trail, deed)(*things)
        self.keeps(trail, {})
        for tree in trees[::-1]:
            self.same(trail.back(), None)
            self.same(trail.tree(), tree)
        self.refuses(NothingDone, trail, "back")
        self.refuses(NothingDone, trail, "back")

    def test_deeds_that_change_nothing_are_deeds(self):
        trail = trail_of({"ab": 1, "ac": 2})
        kept = {"ab": 1, "ac": 2}
        self.same(trail.keep("ab", 1), 1)
        self.same(trail.move("a", "a"), 2)
        self.same(trail.move("", ""), 2)
        for _ in range(3):
            self.keeps(trail, kept)
            self.same(trail.back(), None)
        self.keeps(trail, kept)
        self.same(trail.back(), None)
        self.keeps(trail, {"ab": 1})

    def test_refused_deeds_are_left_out(self):
        trail = trail_of({"ab": 1, "ac": 2})
        for kind, deed, things in ((NoName, "keep", (TOO_LONG, 1)), (NotThere, "drop", ("a",)),
                                   (NotThere, "prune", ("b",)), (NotThere, "move", ("b", "a")),
                                   (TooLong, "move", ("a", "b" * 40)), (Taken, "graft", ("", "")),
                                   (Taken, "move", ("ab", "ac")), (NoName, "told", ("\t",))):
            self.refuses(kind, trail, deed, *things)
        trail.back()
        self.keeps(trail, {"ab": 1})
        self.refuses(NotThere, trail, "drop", "ac")
        trail.back()
        self.keeps(trail, {})
        self.refuses(NothingDone, trail, "back")

    def test_new_deeds_behind_back(self):
        trail = trail_of({"a": 1, "b": 2})
        trail.back()
        trail.keep("c", 3)
        self.keeps(trail, {"a": 1, "c": 3})
        trail.back()
        self.keeps(trail, {"a": 1})
        trail.back()
        self.refuses(NothingDone, trail, "back")
        self.same(trail.keep("a", 5), None)
        trail.back()
        self.refuses(NothingDone, trail, "back")

    def test_questions_are_no_deeds(self):
        trail = trail_of({"a": 1, "b": 2})
        trail.told("")
        trail.tree()
        trail.size()
        trail.back()
        self.keeps(trail, {"a": 1})

    def test_hundreds_of_deeds(self):
        trail = Trail()
        for at in range(900):
            trail.keep("a", at)
        for at in range(899, 0, -1):
            self.same(trail.back(), None)
            self.same(trail.tree(), leaf("a", at - 1))
        trail.back()
        self.keeps(trail, {})
        self.refuses(NothingDone, trail, "back")


class Told(TrailTest):
    def test_what_under_tells(self):
        trail = trail_of({"abc": 1, "abd": 2, "ab": 3, "x": 4, "": 5})
        for beginning, wanted in (("", [("", 5), ("ab", 3), ("abc", 1), ("abd", 2), ("x", 4)]),
                                  ("a", [("ab", 3), ("abc", 1), ("abd", 2)]), ("b", []),
                                  ("abc", [("abc", 1)]), ("abcd", []), ("a" * 40, [])):
            self.same(trail.told(beginning), wanted)
        self.same(Trail().told(""), [])
        self.same(Trail().told("a"), [])

    def test_no_name(self):
        for thing in NO_NAMES:
            self.refuses(NoName, Trail(), "told", thing)
            self.refuses(NoName, trail_of({"a": 1}), "told", thing)

    def test_what_was_told_is_the_askers_own(self):
        trail = trail_of({"a": 1, "b": 2})
        tree = trail.tree()
        first = trail.told("")
        second = trail.told("")
        first.append(("c", 3))
        trail.keep("a", 9)
        trail.move("b", "c")
        trail.back()
        trail.prune("")
        self.same(first, [("a", 1), ("b", 2), ("c", 3)])
        self.same(second, [("a", 1), ("b", 2)])
        self.same(tree, tree_of({"a": 1, "b": 2}))
        self.keeps(trail, {})

    def test_things_handed_in_are_not_changed(self):
        things = [["a"], {"a": 1}, {"a"}]
        for thing in things:
            for deed, more in (("keep", [1]), ("drop", []), ("prune", []), ("move", ["a"]),
                               ("graft", ["a"]), ("told", [])):
                self.refuses(NoName, Trail(), deed, thing, *more)
        self.assertEqual(things, [["a"], {"a": 1}, {"a"}])


class TwoTrails(TrailTest):
    def test_they_know_nothing_of_each_other(self):
        one, other = Trail(), Trail()
        one.keep("a", 1)
        self.keeps(other, {})
        self.refuses(NothingDone, other, "back")
        other.keep("a", 2)
        other.keep("b", 3)
        one.move("a", "c")
        self.keeps(one, {"c": 1})
        self.keeps(other, {"a": 2, "b": 3})
        one.back()
        one.back()
        self.refuses(NothingDone, one, "back")
        self.keeps(one, {})
        self.keeps(other, {"a": 2, "b": 3})
        other.back()
        self.keeps(other, {"a": 2})


class Chooser:
    """The same long row of numbers each time."""

    def __init__(self, start):
        self.state = start

    def below(self, many):
        self.state = (self.state * 6364136223846793005 + 1442695040888963407) % 2 ** 64
        return (self.state >> 33) % many

    def of(self, some):
        return some[self.below(len(some))]


SOME_TEXTS = texts("ab", 3) + texts("bc~", 2) + [" ", "a b", "b" * 12, "c" * 20, "a" * 37]
BAD_TEXTS = ["a\n", TOO_LONG, None, 7]
DEEDS = (["keep"] * 12 + ["drop"] * 2 + ["prune"] + ["move"] * 4 + ["graft"] * 5 + ["back"] * 2
         + ["told"])


def next_deed(chooser, kept):
    """A deed and what it is handed, often of names that are kept."""
    deed = chooser.of(DEEDS)
    some = SOME_TEXTS + sorted(kept) + BAD_TEXTS[:chooser.below(5)]
    if deed == "back":
        return (deed, [])
    one, other = chooser.of(some), chooser.of(some)
    if deed == "keep":
        return (deed, [one, chooser.of([0, 1, -1, LARGEST, -LARGEST, chooser.below(1000)])])
    if deed in ("move", "graft"):
        return (deed, [one, other])
    return (deed, [one])


def outcome(trail, deed, things):
    """What a trail answers to a deed, or the kind of its refusal."""
    try:
        return getattr(trail, deed)(*things)
    except TrailError as refusal:
        return type(refusal)


class MixedDeeds(TrailTest):
    def test_long_rows_against_a_plain_dict(self):
        seen = {}
        for start, many in enumerate((0, 0, 50, 90, 100)):
            chooser = Chooser(start)
            trail, plain = Trail(), PlainTrail()
            for name, number in list(many_names(many).items())[:many]:
                self.same(trail.keep(name, number), plain.keep(name, number))
            for _ in range(500):
                deed, things = next_deed(chooser, plain.kept)
                wanted = outcome(plain, deed, things)
                self.same(outcome(trail, deed, things), wanted)
                self.keeps(trail, plain.kept)
                for beginning in ("a", "ab", chooser.of(SOME_TEXTS)):
                    self.same(trail.told(beginning), plain.told(beginning))
                kind = wanted if isinstance(wanted, type) else None
                seen[deed, kind] = seen.get((deed, kind), 0) + 1
            while plain.earlier:
                self.same(trail.back(), plain.back())
                self.keeps(trail, plain.kept)
            self.refuses(NothingDone, trail, "back")
        self.each_outcome_was_seen(seen)

    def each_outcome_was_seen(self, seen):
        wanted = {"keep": [NoName, TooMany], "drop": [NoName, NotThere],
                  "prune": [NoName, NotThere], "move": [NoName, NotThere, TooLong, Taken],
                  "graft": [NoName, NotThere, TooLong, Taken, TooMany], "back": [],
                  "told": [NoName]}
        for deed, kinds in wanted.items():
            for kind in [None] + kinds:
                self.assertGreater(seen.get((deed, kind), 0), 0, (deed, kind))


if __name__ == "__main__":
    unittest.main()
