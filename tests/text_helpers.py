"""What the tests of texts and readings share: texts by the words of the document, and which of them can be read."""

import re

from tests.helpers import least_by_rows

STEP = re.compile(r"([!?])([a-z]{1,8})\.([a-z]{1,8})>(0|[1-9][0-9]{0,2})\Z")
PART = re.compile(r"([a-z]{1,8}): (.+)\Z")
JOIN = re.compile(r"([a-z]{1,8})\.([a-z]{1,8})=([a-z]{1,8})\.([a-z]{1,8})\Z")


def text_of_rooms(rooms):
    """Return the text that a list of rooms would have, if it were the least rooms of a service."""
    return " ".join(",".join("%s%s.%s>%d" % step for step in steps) or "." for steps in rooms)


def text_of_net(parts, joins):
    """Return the text that a net with these (name, rooms) would have, if those were the least rooms."""
    told = ["%s: %s" % (name, text_of_rooms(rooms)) for name, rooms in parts]
    return "; ".join(told + ["%s.%s=%s.%s" % join for join in joins])


def rooms_of_text(text):
    """Return the least rooms of the service with a text, None if there is no such service."""
    rooms = []
    for room in text.split(" "):
        steps = [STEP.match(step) for step in room.split(",")] if room != "." else []
        if None in steps:
            return None
        rooms.append([(*step.groups()[:3], int(step.group(4))) for step in steps])
    labels = [[step[:3] for step in steps] for steps in rooms]
    if any(sorted(set(found)) != found for found in labels):
        return None
    if any(step[3] >= len(rooms) for steps in rooms for step in steps):
        return None
    return rooms if least_by_rows(rooms) == rooms else None


def net_of_text(text):
    """Return the ([(name, rooms)], joins) of the net with a text, None if there is no such net."""
    told = text.split("; ") if text else []
    parts = [PART.match(part) for part in told]
    count = parts.index(None) if None in parts else len(parts)
    joins = [JOIN.match(part) for part in told[count:]]
    if None in joins:
        return None
    parts = [(part.group(1), rooms_of_text(part.group(2))) for part in parts[:count]]
    joins = [join.groups() for join in joins]
    return (parts, joins) if are_joined(parts, joins) else None


def are_joined(parts, joins):
    """Tell if names, joins and lines are those of a net, by point [6]."""
    names = [name for name, _ in parts]
    ends = [end for join in joins for end in (join[:2], join[2:])]
    if None in [rooms for _, rooms in parts] or len(set(names)) < len(names) or len(set(ends)) < len(ends):
        return False
    if not {name for name, _ in ends} <= set(names):
        return False
    lines = {(name, step[1]) for name, rooms in parts for steps in rooms for step in steps}
    return lines <= set(ends) and not closes_ring(names, joins)


def closes_ring(names, joins):
    """Tell if joins close a ring: there are then fewer groups of services than there should be."""
    groups = {name: {name} for name in names}
    for one, _, other, _ in joins:
        if groups[one] is groups[other]:
            return True
        groups[one] |= groups[other]
        for name in groups[one]:
            groups[name] = groups[one]
    return False


def changed_texts(text, signs):
    """Return texts with one sign put in, taken out, exchanged for another one, or for the one beside it."""
    found = []
    for at in range(len(text) + 1):
        found += [text[:at] + sign + text[at:] for sign in signs]
        found += [text[:at] + sign + text[at + 1:] for sign in signs if at < len(text)]
        found += [text[:at] + text[at + 1:], text[:at] + text[at + 1:at + 2] + text[at:at + 1] + text[at + 2:]]
    return sorted(set(found))


def changed_parts(text, mark):
    """Return texts with one part told twice, left out, or in the place of another one."""
    parts, found = text.split(mark), []
    for at in range(len(parts)):
        found.append(mark.join(parts[:at] + parts[at + 1:]))
        for to in range(len(parts) + 1):
            found.append(mark.join(parts[:to] + [parts[at]] + parts[to:]))
        for to in range(len(parts)):
            turned = list(parts)
            turned[at], turned[to] = turned[to], turned[at]
            found.append(mark.join(turned))
            turned[to] = turned[at]
            found.append(mark.join(turned))
    return sorted(set(found))
