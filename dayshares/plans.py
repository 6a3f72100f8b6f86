"""Plans by which kinds come to wished ones, and papers that show what the best plan comes to."""

from itertools import combinations

from dayshares.checks import is_name, is_rising, is_tuple_of, is_whole, is_within
from dayshares.errors import NoWishes
from dayshares.ways import best_ways, need_steps

MOST_WISHES = 6


def plan_pence(steps, wishes, thing):
    """Tells what a plan comes to; None where thing is no plan."""
    fees = _fees_of(steps, wishes)
    if not _are_wholes(thing, len(fees)) or sorted(thing) != list(range(len(fees))):
        return None
    told = [fees[at][thing[at]] for at in range(len(fees))]
    return None if None in told else sum(told)


def best_plan(steps, wishes):
    """Tells (pence, plan) of the plan that comes to the fewest pence; None where there is none."""
    return _best_of(_fees_of(steps, wishes))


def paper_shows(steps, wishes, thing):
    """Tells what the numbers of a paper of prices come to, "none" of one of lack, None where thing is no paper."""
    fees = _fees_of(steps, wishes)
    if _is_prices_paper(fees, thing):
        return sum([*thing[1], *thing[2]])
    if _is_lack_paper(fees, thing):
        return "none"
    return None


def paper_for(steps, wishes):
    """Tells a paper that shows the pence of the best plan, or that there is none."""
    fees = _fees_of(steps, wishes)
    best = _best_of(fees)
    if best is None:
        return ("lack", _lacking(fees))
    return ("prices", *_numbers_by(fees, best[1]))


def _fees_of(steps, wishes):
    """Tells for each of the kinds the list of what its cheapest ways to the wished ones come to, None for no way."""
    need_steps(steps)
    if not _are_wishes(wishes):
        raise NoWishes("wishes are two tuples of as many names, one to six of them")
    kinds, wished = wishes
    best = {kind: best_ways(steps, kind) for kind in sorted(set(kinds))}
    return [[best[kind][one][0] if one in best[kind] else None for one in wished] for kind in kinds]


def _best_of(fees):
    """Tells the best (pence, plan), or None."""
    # Of all beginnings of plans that take the same wished ones, only the best can go on to the best plan.
    best = {0: (0, ())}
    for row in fees:
        longer = {}
        for taken in best:
            pence, plan = best[taken]
            for place in range(len(row)):
                if row[place] is not None and place not in plan:
                    told = (pence + row[place], (*plan, place))
                    key = taken | (1 << place)
                    if key not in longer or told < longer[key]:
                        longer[key] = told
        best = longer
    # What is left has taken all wished ones.
    return min(list(best.values()), default=None)


def _numbers_by(fees, plan):
    """Tells (rows, columns) that come to just the fee along the best plan, and nowhere to more than the fee."""
    places = range(len(fees))
    rows = [0] * len(fees)
    turned = True
    # With columns that make up for the fees along the plan, a row is held down by others. This comes to an end:
    # a ring of rows that hold one another down forever would be a cheaper plan.
    while turned:
        turned = False
        for at in places:
            for other in places:
                fee = fees[at][plan[other]]
                if fee is not None and rows[at] > rows[other] + fee - fees[other][plan[other]]:
                    rows[at] = rows[other] + fee - fees[other][plan[other]]
                    turned = True
    columns = [0] * len(fees)
    for at in places:
        columns[plan[at]] = fees[at][plan[at]] - rows[at]
    return (tuple(rows), tuple(columns))


def _lacking(fees):
    """Tells places of kinds from which there are ways to fewer wished ones, as there are where there is no plan."""
    for many in range(1, len(fees) + 1):
        for places in combinations(range(len(fees)), many):
            if _reached(fees, places) < many:
                return places
    return ()


def _reached(fees, places):
    """Tells to how many of the wished ones there are ways from the kinds of these places."""
    return len(set([one for at in places for one in range(len(fees)) if fees[at][one] is not None]))


def _is_prices_paper(fees, thing):
    if not is_tuple_of(thing, 3, 3) or thing[0] != "prices":
        return False
    rows, columns = thing[1:]
    if not _are_wholes(rows, len(fees)) or not _are_wholes(columns, len(fees)):
        return False
    places = range(len(fees))
    held = [fees[at][one] is None or rows[at] + columns[one] <= fees[at][one] for at in places for one in places]
    return all(held)


def _is_lack_paper(fees, thing):
    if not is_tuple_of(thing, 2, 2) or thing[0] != "lack" or not is_tuple_of(thing[1], 1, len(fees)):
        return False
    places = thing[1]
    if not all([is_within(place, 0, len(fees) - 1) for place in places]) or not is_rising(places):
        return False
    return _reached(fees, places) < len(places)


def _are_wholes(thing, many):
    return is_tuple_of(thing, many, many) and all([is_whole(one) for one in thing])


def _are_wishes(thing):
    if not is_tuple_of(thing, 2, 2) or not is_tuple_of(thing[0], 1, MOST_WISHES):
        return False
    many = len(thing[0])
    return is_tuple_of(thing[1], many, many) and all([is_name(name) for name in [*thing[0], *thing[1]]])
