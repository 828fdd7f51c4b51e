"""What the tests of talks share: all that a talk tells, by the oracle of deeds of net_helpers."""


def told_by(talk, talks):
    """Return all that a talk tells, but for errors."""
    return {
        "run": talk.run, "len": len(talk), "able": talk.able(), "has_ended": talk.has_ended,
        "has_clashed": talk.has_clashed, "rooms": [talk[name] for name, _ in talks.parts],
        "lies": {end: talk.lies(*end) for end in talks.ends},
    }


def due_of(talks, run):
    """Return all that a talk should tell behind a run."""
    place, clashed = talks.follow(run)
    return {
        "run": run, "len": len(run), "able": [deed for deed, _, _ in talks.steps(place)],
        "has_ended": talks.has_ended(place), "has_clashed": True in clashed, "rooms": list(place[0]),
        "lies": {end: talks.lies(place, *end) for end in talks.ends},
    }


def check_talk(case, talk, talks, run):
    """Check all that a talk tells, with a run that it should have done."""
    case.assertEqual(told_by(talk, talks), due_of(talks, run))
    case.assertEqual([type(told) for told in (talk.run, talk.able(), talk.has_ended, talk.has_clashed)],
                     [list, list, bool, bool])


def check_equality(case, one, other, equal):
    """Check if two things are equal, either way about."""
    case.assertIs(one == other, equal)
    case.assertIs(other == one, equal)
    case.assertIs(one != other, not equal)
    case.assertIs(other != one, not equal)


def first_clash(talks, run):
    """Return the index of the first deed that clashes, None if there is none."""
    clashed = talks.follow(run)[1]
    return clashed.index(True) if True in clashed else None


def least_line(talks, run, name, sign, word):
    """Return the least line with which a service can do a deed behind a run, None if there is none."""
    place, _ = talks.follow(run)
    return min([deed[2] for deed, _, _ in talks.steps(place) if (deed[0], deed[1], deed[3]) == (name, sign, word)],
               default=None)


def random_run(dice, talks, length, likes_clashes=True):
    """Return a run of at most so many deeds."""
    run, place = [], talks.start
    while len(run) < length:
        ways = [way for way in talks.steps(place) if likes_clashes or not way[2]]
        if not ways:
            break
        deed, place, _ = dice.choice(ways)
        run.append(deed)
    return run


def call(talk, deed, dice):
    """Do a deed with its line by a call, whose arguments are passed by position or by name."""
    name, sign, line, word = deed
    kind = dice.randrange(3)
    if kind == 0:
        return talk(name, sign, word, line)
    if kind == 1:
        return talk(name, sign, line=line, word=word)
    return talk(word=word, line=line, sign=sign, name=name)
