"""Feeds: the services from which the words come that lie on one line towards one service, and what they say there.

Once a word lies there that is never heard, the service towards which it lies says nothing on this line any more, as
it would clash, and the joins close no ring. So what else comes to lie there depends only on the services at the other
end, which are called the speakers here: the one that says it, and those that are joined with this one.
"""

from emptyfirst.errors import OpenLine, UnknownName
from emptyfirst.nets import Net, ends_of
from emptyfirst.plans import Plan, moves, orderly_states
from emptyfirst.searches import least_run, reached_from
from emptyfirst.services import done


class Feed:
    """The speakers of a line of an orderly net towards a service."""

    def __init__(self, net, name, line):
        ends = ends_of(net.joins)
        check_end(net, name, line, ends)
        self.whole = Plan(net)
        self.reached = orderly_states(self.whole)
        self.joint, side = ends[(name, line)]
        self.towards = (side,)
        self.spoken = said_towards(net.joins[self.joint], side)
        names = names_behind(net.joins, self.joint, self.spoken[0])
        self.kept_services = [at for at, one in enumerate(net.services) if one in names]
        self.kept_joins = [at for at, join in enumerate(net.joins) if join[0] in names or join[2] in names]
        # A service that never hears stands in the place of the one towards which the words lie.
        self.speakers = Plan(Net(
            [(one, net[one]) for one in net.services if one in names] + [(name, done())],
            [net.joins[at] for at in self.kept_joins],
        ))


def check_end(net, name, line, ends):
    """Raise the error that is due first if a net has no service with this name, or no join with this line of it."""
    if name not in net.services:
        raise UnknownName(name)
    if (name, line) not in ends:
        raise OpenLine((name, line))


def said_towards(join, side):
    """Return the (name, sign, line) of the deeds that say towards a side of a join."""
    name, line, other, other_line = join
    return (other, "!", other_line) if side == 0 else (name, "!", line)


def names_behind(joins, left_out, name):
    """Return a dict whose keys are a name and those joined with it, one after the other, but for one join."""
    names = {name: True}
    # Each round reaches one join further, so there are as many rounds as could be needed.
    for _ in joins:
        for index, (one, _, other, _) in enumerate(joins):
            if index != left_out and (one in names or other in names):
                names[one] = True
                names[other] = True
    return names


def speakers_state(feed, state):
    """Return what counts for the speakers of a state of the net, as a state of theirs."""
    rooms, lines = state
    return without_words(
        tuple([rooms[at] for at in feed.kept_services] + [0]),
        tuple([lines[at] for at in feed.kept_joins]),
    )


def without_words(rooms, lines):
    """Return a state without the first words, which count no more, as they are never heard."""
    return (rooms, tuple([lying[:1] for lying in lines]))


def speakers_moves(feed, state):
    """Return the list of (deeds, state) behind a state of the speakers."""
    return [(deeds, without_words(rooms, lines)) for deeds, (rooms, lines) in moves(feed.speakers, state)]


def net_moves(feed, state):
    """Return the list of (deeds, state) behind a state of the net, without those with words the other way."""
    return [
        (deeds, behind)
        for deeds, behind in moves(feed.whole, state)
        if behind[1][feed.joint][:1] in ((), feed.towards)
    ]


def word_left(feed, deeds):
    """Return the word that deeds leave on the line, None if they leave none."""
    return deeds[0][3] if len(deeds) == 1 and deeds[0][:3] == feed.spoken else None


def feed_graph(feed):
    """Return the graph of what comes to lie on the line: the number of its first nodes, and the ways from each node.

    The ways are lists of (word, node), with None as the word where none comes to lie there. The first nodes are the
    states of the speakers in which nothing lies there.
    """
    first = {speakers_state(feed, state): True for state in feed.reached if not state[1][feed.joint]}
    order = list(first)
    numbers = {state: index for index, state in enumerate(order)}
    graph = []
    while len(graph) < len(order):
        state = order[len(graph)]
        ways = []
        for deeds, behind in speakers_moves(feed, state):
            if behind not in numbers:
                numbers[behind] = len(order)
                order.append(behind)
            ways.append((word_left(feed, deeds), numbers[behind]))
        graph.append(ways)
    return len(first), graph


def feed_run(feed, words):
    """Return a run of least length behind which just these words lie on the line, None if they never do."""

    def ways(node):
        """Return what comes about from a node: a tuple of how many of the words lie there, and of a state."""
        count, state = node
        # With words there, only what the speakers do can bring more of them.
        options = speakers_moves(feed, state) if count else net_moves(feed, state)
        found = []
        for deeds, behind in options:
            word = word_left(feed, deeds)
            if word is None:
                found.append((deeds, (count, behind)))
            elif words[count:count + 1] == [word]:
                found.append((deeds, (count + 1, behind if count else speakers_state(feed, behind))))
        return found

    reached = reached_from((0, feed.whole.beginning), ways)
    for node in reached:
        if node[0] == len(words):
            return least_run(reached, node)
    return None
