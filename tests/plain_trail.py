"""What the document says of trails, told anew on a plain dict, for the tests to compare with."""

import re

from radixtrail.errors import NoName, NotThere, NothingDone, Taken, TooLong, TooMany

NAME = re.compile("[ -$&-~]{0,40}")


class PlainTrail:
    """The deeds of [11] to [13], each on a new dict of the names."""

    def __init__(self):
        self.kept = {}
        self.earlier = []

    def keep(self, name, number):
        self.check_names(name)
        return self.done({**self.kept, name: number}, self.kept.get(name))

    def drop(self, name):
        self.check_names(name)
        if name not in self.kept:
            raise NotThere(name)
        return self.done({other: self.kept[other] for other in self.kept if other != name},
                         self.kept[name])

    def prune(self, beginning):
        self.check_names(beginning)
        some = self.below(beginning)
        return self.done({name: self.kept[name] for name in self.kept if name not in some},
                         len(some))

    def move(self, beginning, other):
        some = self.renamed(beginning, other)
        left = {name: self.kept[name] for name in self.kept if not name.startswith(beginning)}
        return self.done(self.united(left, some), len(some))

    def graft(self, beginning, other):
        some = self.renamed(beginning, other)
        return self.done(self.united(self.kept, some), len(some))

    def back(self):
        if not self.earlier:
            raise NothingDone("back")
        self.kept = self.earlier.pop()

    def told(self, beginning):
        self.check_names(beginning)
        return sorted(pair for pair in self.kept.items() if pair[0].startswith(beginning))

    def done(self, kept, answer):
        if len(kept) > 100 and len(kept) > len(self.kept):
            raise TooMany("100")
        self.earlier.append(self.kept)
        self.kept = kept
        return answer

    def check_names(self, *things):
        for thing in things:
            if type(thing) is not str or not NAME.fullmatch(thing):
                raise NoName("no name")

    def below(self, beginning):
        some = [name for name in self.kept if name.startswith(beginning)]
        if not some:
            raise NotThere(beginning)
        return some

    def renamed(self, beginning, other):
        self.check_names(beginning, other)
        new = {other + name[len(beginning):]: self.kept[name] for name in self.below(beginning)}
        if max(map(len, new)) > 40:
            raise TooLong(other)
        return new

    def united(self, kept, some):
        if kept.keys() & some.keys():
            raise Taken("twice")
        return {**kept, **some}
