"""Talks: runs that are done step by step."""

from emptyfirst.errors import NothingToUndo, NotOrderly, NotThere, OpenLine, UnknownName
from emptyfirst.nets import deeds_at, ends_of
from emptyfirst.walks import next_rooms


class Talk:
    """A run of a net that is done step by step."""

    def __init__(self, net):
        self._net = net
        self._ends = ends_of(net.joins)
        self._rooms = {name: 0 for name in net.services}
        self._lines = [([], []) for _ in net.joins]
        # For each deed of the run the room that it left, and if it clashed: so deeds are taken back one by one.
        self._run = []
        self._left = []
        self._clashed = []

    @property
    def run(self):
        """The list of the deeds, each with its line, that were done and not taken back."""
        return list(self._run)

    @property
    def has_ended(self):
        """True if the net has ended, otherwise False."""
        rooms = [self._net[name].rooms[room] for name, room in self._rooms.items()]
        lying = [words for sides in self._lines for words in sides]
        return not any(rooms + lying)

    @property
    def has_clashed(self):
        """True if one of the deeds of the run clashes, otherwise False."""
        return any(self._clashed)

    def __call__(self, name, sign, word, line=None):
        self.do_all([told_deed(self.able(), name, sign, line, word)])

    def __getitem__(self, name):
        if name not in self._rooms:
            raise UnknownName(name)
        return self._rooms[name]

    def __iter__(self):
        # Without this, a loop over a talk would ask for the services called 0, 1 and so on.
        raise TypeError("a talk is not iterated over")

    def __len__(self):
        return len(self._run)

    def __eq__(self, other):
        # A calm talk is a talk, too, but not equal to one that is none.
        if not isinstance(other, Talk) or isinstance(other, CalmTalk):
            return False
        return self._net == other._net and self._run == other._run

    def lies(self, name, line):
        """Return the list of the words that lie towards a service on its line."""
        if name not in self._rooms:
            raise UnknownName(name)
        if (name, line) not in self._ends:
            raise OpenLine((name, line))
        join, side = self._ends[(name, line)]
        return list(self._lines[join][side])

    def able(self):
        """Return the list of the deeds that can be done now."""
        return deeds_at(self._net, list(self._rooms.values()), self._lines)

    def do_all(self, run):
        """Do the deeds of a run, or none of them if one cannot be done."""
        count = self._do_some(run)
        if count < len(run):
            self._take_back(count)
            raise NotThere(run[count])

    def undo(self):
        """Take back the last deed."""
        if not self._run:
            raise NothingToUndo(0)
        self._take_back(1)

    def _do_some(self, run):
        """Do the deeds of a run ahead of the first one that cannot be done, and return how many they are."""
        for count, deed in enumerate(run):
            if deed not in self.able():
                return count
            self._do(deed)
        return len(run)

    def _do(self, deed):
        """Do a deed that can be done."""
        name, sign, line, word = deed
        join, side = self._ends[(name, line)]
        towards, away = self._lines[join][side], self._lines[join][1 - side]
        room = self._rooms[name]
        self._run.append(deed)
        self._left.append(room)
        self._clashed.append(sign == "!" and len(towards) > 0)
        self._rooms[name] = next_rooms(self._net[name].rooms[room])[deed[1:]]
        if sign == "!":
            away.append(word)
        else:
            towards.pop(0)

    def _take_back(self, count):
        """Take back the last deeds, as many as count tells."""
        for _ in range(count):
            name, sign, line, word = self._run.pop()
            join, side = self._ends[(name, line)]
            self._rooms[name] = self._left.pop()
            self._clashed.pop()
            if sign == "!":
                self._lines[join][1 - side].pop()
            else:
                self._lines[join][side].insert(0, word)


class CalmTalk(Talk):
    """A talk in which no deed clashes."""

    def __init__(self, net):
        Talk.__init__(self, net)

    def __call__(self, name, sign, word, line=None):
        self.do_all([told_deed(self.able(), name, sign, line, word)])

    def __eq__(self, other):
        if not isinstance(other, CalmTalk):
            return False
        return self._net == other._net and self._run == other._run

    def do_all(self, run):
        """Do the deeds of a run, or none of them if one cannot be done or clashes."""
        count = self._do_some(run)
        if self.has_clashed:
            # All deeds up to the first one that clashes could be done: so it comes ahead of one that could not.
            wrong = self._run[:self._clashed.index(True) + 1]
            self._take_back(count)
            raise NotOrderly(wrong)
        if count < len(run):
            self._take_back(count)
            raise NotThere(run[count])


def told_deed(deeds, name, sign, line, word):
    """Return the deed that is told; if no line is, the one of the given deeds on the least line, if there is one."""
    if line is None:
        for deed in deeds:
            # The deeds of a service are in the order of steps: so the first of them is on the least line.
            if (deed[0], deed[1], deed[3]) == (name, sign, word):
                return deed
    return (name, sign, line, word)
