"""Verdicts: whether somebody speaks too early, where services meet, and where talks get stuck."""

from emptyfirst.plans import Plan, clashes, moves, orderly_states, reached_states, run_to_clash
from emptyfirst.searches import least_run


def clash_run(net):
    """Return a run of least length whose last deed clashes, None if the net is orderly."""
    plan = Plan(net)
    return run_to_clash(plan, reached_states(plan))


def meetings(net):
    """Return the ascending list of all lists of rooms behind runs behind which nothing lies on the lines."""
    return [list(rooms) for rooms, lines in states(net) if is_empty(lines)]


def stuck_run(net):
    """Return a run of least length behind which an orderly net is stuck, None if there is none."""
    return run_where(net, is_stuck)


def deaf_run(net):
    """Return a run of least length behind which a service of an orderly net is deaf, None if there is none."""
    return run_where(net, is_deaf)


def rest_run(net):
    """Return a run of least length behind which there are rests in an orderly net, None if there is none."""
    return run_where(net, is_rest)


def end_run(net):
    """Return a run of least length behind which an orderly net has ended, None if there is none."""
    return run_where(net, is_end)


def goes_well(net):
    """Return True if a net is orderly and never gets stuck, and no service is ever deaf, otherwise False."""
    plan = Plan(net)
    return all([
        not (clashes(plan, state) or is_stuck(plan, state) or is_deaf(plan, state))
        for state in reached_states(plan)
    ])


def states(net):
    """Return the ascending list of all states of an orderly net."""
    return sorted(list(orderly_states(Plan(net))))


def judge(net, table):
    """Return True if a list of states has the first one, those behind each, and none in which a deed clashes."""
    plan = Plan(net)
    told = {state: True for state in table}
    return plan.beginning in told and all([is_closed(plan, state, told) for state in told])


def is_closed(plan, state, told):
    """Return True if no deed clashes in a state, and those behind it are among the told, otherwise False."""
    return not clashes(plan, state) and all([behind in told for _, behind in moves(plan, state)])


def run_where(net, holds):
    """Return a run of least length behind which it holds in an orderly net, None if there is none."""
    plan = Plan(net)
    reached = orderly_states(plan)
    for state in reached:
        if holds(plan, state):
            return least_run(reached, state)
    return None


def is_empty(lines):
    """Return True if nothing lies on the lines of a state, otherwise False."""
    return not any([len(lying) > 0 for lying in lines])


def all_in_ends(plan, rooms):
    """Return True if all rooms are ends, otherwise False."""
    return all([not plan.says[at][room] and not plan.hears[at][room] for at, room in enumerate(rooms)])


def is_end(plan, state):
    """Return True if the net has ended in a state, otherwise False."""
    return is_empty(state[1]) and all_in_ends(plan, state[0])


def is_rest(plan, state):
    """Return True if there are rests in a state, otherwise False."""
    return not is_empty(state[1]) and all_in_ends(plan, state[0])


def is_stuck(plan, state):
    """Return True if no deed can be done in a state, and the net has not ended, otherwise False."""
    rooms, lines = state
    if any([len(plan.says[at][room]) > 0 for at, room in enumerate(rooms)]):
        return False
    if any([can_hear(plan, rooms, join, lying) for join, lying in enumerate(lines)]):
        return False
    return not is_end(plan, state)


def can_hear(plan, rooms, join, lying):
    """Return True if the first word that lies on a join, if any, can be heard, otherwise False."""
    if not lying:
        return False
    side, word = lying
    at = plan.partners[join][side]
    return (join, word) in plan.hears[at][rooms[at]]


def is_deaf(plan, state):
    """Return True if a service is deaf in a state, otherwise False."""
    rooms, lines = state
    return any([misses(plan, rooms, join, lying) for join, lying in enumerate(lines)])


def misses(plan, rooms, join, lying):
    """Return True if the service towards which words lie on a join, if any, is deaf because of them."""
    if not lying or can_hear(plan, rooms, join, lying):
        return False
    at = plan.partners[join][lying[0]]
    # It may still say, or hear from another line: then it is not deaf, and neither can be so of an end.
    return not plan.says[at][rooms[at]] and all([heard == join for heard, _ in plan.hears[at][rooms[at]]])
