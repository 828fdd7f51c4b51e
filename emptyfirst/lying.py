"""What can lie on the lines of orderly nets."""

from emptyfirst.feeds import Feed, feed_graph, feed_run
from emptyfirst.tables import least_table, mask_behind, mask_of, most_words, word_masks


def lying(net, name, line):
    """Return the least table of all rows of words that can lie on a line towards a service."""
    leads, first = feed_masks(net, name, line)
    return least_table(leads, first)


def can_lie(net, name, line, words):
    """Return True if a list of words can lie on a line towards a service, otherwise False."""
    leads, mask = feed_masks(net, name, line)
    for word in words:
        mask = mask_behind(leads, mask, word)
    return mask > 0


def most_lying(net, name, line):
    """Return the greatest number of words that can lie on a line towards a service, None if any number can."""
    leads, first = feed_masks(net, name, line)
    return most_words(leads, first)


def lying_run(net, name, line, words):
    """Return a run of least length behind which just these words lie on a line towards a service, None if none is."""
    return feed_run(Feed(net, name, line), words)


def feed_masks(net, name, line):
    """Return where each word leads from each node of what comes to lie there, and the mask of the first nodes."""
    count, graph = feed_graph(Feed(net, name, line))
    return word_masks(graph), mask_of(list(range(count)))
