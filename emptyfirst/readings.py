"""Readings: the services and nets with given texts.

What a text seems to tell is built, and its own text compared with the one that was read. So only what could be built
otherwise, or not at all, needs care here: a part that tells nothing becomes a step or a name that is none.
"""

from emptyfirst.errors import TalkError, Unreadable
from emptyfirst.nets import Net
from emptyfirst.services import Service
from emptyfirst.texts import show_net, show_service

MOST_DIGITS = 3


def read_service(text):
    """Return the service with a text."""
    try:
        service = told_service(text)
    except TalkError:
        raise Unreadable(text) from None
    if show_service(service) != text:
        raise Unreadable(text)
    return service


def read_net(text):
    """Return the net with a text."""
    try:
        net = told_net(text)
    except TalkError:
        raise Unreadable(text) from None
    if show_net(net) != text:
        raise Unreadable(text)
    return net


def told_net(text):
    """Return the net that a text seems to tell, whatever the sequence of its parts; raise a TalkError if there is none.

    A net without services has the empty text.
    """
    parts = text.split("; ") if text else []
    services = [part.partition(": ") for part in parts if ": " in part]
    joins = [part.partition("=") for part in parts if ": " not in part]
    return Net(
        [(name, told_service(rooms)) for name, _, rooms in services],
        [told_side(one) + told_side(other) for one, _, other in joins],
    )


def told_side(text):
    """Return the tuple (name, line) that a side of a join seems to tell."""
    name, _, line = text.partition(".")
    return (name, line)


def told_service(text):
    """Return the service that a text seems to tell; raise a TalkError if there is none."""
    return Service([told_room(part) for part in text.split(" ")])


def told_room(text):
    """Return the list of the steps that the text of a room seems to tell."""
    return [] if text == "." else [told_step(part) for part in text.split(",")]


def told_step(text):
    """Return the step that a text seems to tell."""
    label, _, index = text.partition(">")
    line, _, word = label[1:].partition(".")
    return (label[:1], line, word, told_index(index))


def told_index(text):
    """Return the index that a text tells; -1, which is the index of no room, if it tells none."""
    return int(text) if text.isdecimal() and len(text) <= MOST_DIGITS else -1
