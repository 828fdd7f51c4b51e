"""Which service can stand for which, and the services that stand between two."""

from emptyfirst.errors import NotPlain, UnlikeLines
from emptyfirst.rooms import shifted
from emptyfirst.services import Service
from emptyfirst.walks import first_row, next_rooms, shared_ways


def is_plain(service):
    """Return True if a service has at most one line, and no room that says and hears, otherwise False."""
    if len(service.lines) > 1:
        return False
    return all([len({step[0] for step in steps}) <= 1 for steps in service.rooms])


def can_stand(other, one):
    """Return True if other can stand for one, otherwise False."""
    return parting_talk(other, one) is None


def parting_talk(other, one):
    """Return the first row to a pair of rooms of which other's cannot stand for one's, None if there is none."""
    check_plain(one, other)
    ones, others = one.rooms, other.rooms

    def look(pair):
        room, partner = ones[pair[0]], others[pair[1]]
        # Where one may stand for the other, the words by which pairs come about are those of both.
        return (None if stands(partner, room) else []), shared_ways(room, partner)

    return first_row(look)


def both(one, other):
    """Return the greatest service that can stand for both of two services, None if there is none."""
    check_plain(one, other)
    ones, others = one.rooms, other.rooms
    kept = meeting_pairs(ones, others)
    if (0, 0) not in kept:
        return None
    numbers = {pair: index for index, pair in enumerate(kept)}
    # Behind a word that only one of them hears, the service goes on as this one alone.
    ones_alone = shifted(ones, len(kept))
    others_alone = shifted(others, len(kept) + len(ones))
    together = [
        shared_steps(ones[at], others[to], numbers)
        + hears_alone(ones_alone[at], others[to]) + hears_alone(others_alone[to], ones[at])
        for at, to in kept
    ]
    return Service(together + ones_alone + others_alone)


def either(one, other):
    """Return the least service for which both of two services can stand, None if there is none."""
    # A service can stand for another one just if the mirror of this one can stand for its own mirror.
    mirror = both(~one, ~other)
    return None if mirror is None else ~mirror


def check_plain(one, other):
    """Raise the error that is due first if two services cannot be asked who can stand for whom."""
    for service in (one, other):
        if not is_plain(service):
            raise NotPlain(service.lines)
    if one.lines and other.lines and one.lines != other.lines:
        raise UnlikeLines((one.lines, other.lines))


def sign_of(room):
    """Return the sign of the steps of a room of a plain service, an empty text for an end."""
    return room[0][0] if room else ""


def has_steps_of(room, partner):
    """Return True if a room has at least the steps of another one, wherever they lead, otherwise False."""
    mine = next_rooms(room)
    return all([step in mine for step in next_rooms(partner)])


def stands(partner, room):
    """Return True if partner can stand for room as far as their own steps tell, otherwise False."""
    if sign_of(partner) != sign_of(room):
        return False
    if sign_of(room) == "?":
        return has_steps_of(partner, room)
    return has_steps_of(room, partner)


def meeting_pairs(ones, others):
    """Return a dict whose keys are the pairs of rooms, in order, for both of which one room can stand."""
    kept = {(at, to): True for at in range(len(ones)) for to in range(len(others))}
    fewer = pairs_that_meet(ones, others, kept)
    # Talks need not end: a pair may stay unless something behind it cannot, so all of them stand at first.
    while len(fewer) < len(kept):
        kept = fewer
        fewer = pairs_that_meet(ones, others, kept)
    return kept


def pairs_that_meet(ones, others, kept):
    """Return the pairs for both of which one room can stand if just the kept pairs were such."""
    return {(at, to): True for at, to in kept if meets(ones[at], others[to], kept)}


def meets(room, partner, kept):
    """Return True if one room can stand for both of two rooms if just the kept pairs were such."""
    if sign_of(room) != sign_of(partner):
        return False
    behind = [pair in kept for _, pair in shared_ways(room, partner)]
    return any(behind) if sign_of(room) == "!" else all(behind)


def shared_steps(room, partner, numbers):
    """Return the steps that both rooms have, to the pairs that have a number."""
    ways = shared_ways(room, partner)
    return [(sign, line, word, numbers[pair]) for (sign, line, word), pair in ways if pair in numbers]


def hears_alone(room, partner):
    """Return the steps by which a room hears what another room does not."""
    theirs = next_rooms(partner)
    return [step for step in room if step[0] == "?" and step[:3] not in theirs]
