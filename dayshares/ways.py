"""Ways from one kind to another by steps that cost fees, and marks that show what they come to."""

from heapq import heappop, heappush

from dayshares.checks import is_name, is_pence, is_rising, is_tuple_of, is_whole, is_within, need_name
from dayshares.errors import NoSteps

MOST_STEPS = 20
LONGEST_WAY = 60


def way_of(steps, kind, thing):
    """Tells (kind, pence), where the way ends and what it comes to, where thing is a way from the kind; or None."""
    need_steps(steps)
    need_name(kind)
    if not is_tuple_of(thing, 0, LONGEST_WAY) or not all([is_within(at, 0, len(steps) - 1) for at in thing]):
        return None
    reached, pence = kind, 0
    for at in thing:
        one, other, fee = steps[at]
        if one != reached:
            return None
        reached, pence = other, pence + fee
    return (reached, pence)


def cheapest_way(steps, kind, wished):
    """Tells (pence, way) of the cheapest way from the kind to the wished one; None where there is none."""
    need_steps(steps)
    need_name(kind)
    need_name(wished)
    best = best_ways(steps, kind)
    if wished not in best:
        return None
    pence, _, way = best[wished]
    return (pence, way)


def marks_hold(steps, kind, thing):
    """Tells whether thing is marks of the steps and the kind."""
    need_steps(steps)
    need_name(kind)
    if not isinstance(thing, dict) or not all([is_name(key) and is_whole(thing[key]) for key in thing]):
        return False
    if kind not in thing or thing[kind] != 0:
        return False
    return all([_step_holds(thing, step) for step in steps])


def marks_of(steps, kind):
    """Tells the marks in which each one is what the cheapest way comes to."""
    need_steps(steps)
    need_name(kind)
    best = best_ways(steps, kind)
    return {name: best[name][0] for name in sorted(best)}


def need_steps(thing):
    """Refuses what are no steps."""
    if not _are_steps(thing):
        raise NoSteps("steps are a rising tuple of none to twenty (one, other, fee)")


def best_ways(steps, kind):
    """Tells the dict of the best (pence, how many steps, way) from the kind, by the kinds to which there is one."""
    leaving = {}
    for at in range(len(steps)):
        leaving.setdefault(steps[at][0], []).append(at)
    best = {}
    queue = [(0, 0, (), kind)]
    # A way is never better with a step more, so that the first one that comes out to a kind is its best.
    while len(queue) > 0:
        pence, many, way, name = heappop(queue)
        if name not in best:
            best[name] = (pence, many, way)
            for at in leaving.get(name, []):
                one, other, fee = steps[at]
                heappush(queue, (pence + fee, many + 1, (*way, at), other))
    return best


def _step_holds(marks, step):
    one, other, fee = step
    if one not in marks:
        return True
    return other in marks and marks[other] <= marks[one] + fee


def _is_step(thing):
    if not is_tuple_of(thing, 3, 3) or not is_name(thing[0]) or not is_name(thing[1]):
        return False
    return thing[0] != thing[1] and is_pence(thing[2])


def _are_steps(thing):
    if not is_tuple_of(thing, 0, MOST_STEPS) or not all([_is_step(step) for step in thing]):
        return False
    # Where the steps rise and no two have the same two names, these two alone rise.
    return is_rising([step[:2] for step in thing])
