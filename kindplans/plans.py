"""The cheapest plan, and of several the one that has the lower act where they first differ."""

from kindplans.deeds import has_all, may_be_done, so_behind


# The numbers of the plan's acts, or None if there is no plan. From each set of facts the lowest act that
# begins a cheapest way on is taken. Every act costs something, so each step leaves less to be paid.
def cheapest_plan(deeds, fact_count, first, wanted):
    rest = rest_costs(deeds, 1 << fact_count, wanted)
    if first not in rest:
        return None
    plan = []
    so = first
    while rest[so] > 0:
        number = lowest_step(deeds, rest, so)
        plan.append(number)
        so = so_behind(deeds[number], so)
    return plan


def lowest_step(deeds, rest, so):
    return min([number for number, deed in enumerate(deeds) if is_cheapest_step(deed, rest, so)])


def is_cheapest_step(deed, rest, so):
    if not may_be_done(deed, so):
        return False
    behind = so_behind(deed, so)
    return behind in rest and deed.cost + rest[behind] == rest[so]


# What the way on costs at least, for each set of facts from which all that is wanted can be reached. It is
# worked out from the end: the cheapest set that waits can't become cheaper any more.
def rest_costs(deeds, set_count, wanted):
    ways = ways_into(deeds, set_count)
    waiting = costs_at_the_end(set_count, wanted)
    rest = {}
    while len(waiting) > 0:
        so = cheapest_waiting(waiting)
        rest[so] = waiting.pop(so)
        for before, cost in ways[so]:
            if before not in rest:
                whole = rest[so] + cost
                waiting[before] = min(whole, waiting.get(before, whole))
    return rest


def costs_at_the_end(set_count, wanted):
    costs = {}
    for so in range(set_count):
        if has_all(so, wanted):
            costs[so] = 0
    return costs


def cheapest_waiting(waiting):
    return min(list(waiting), key=lambda so: waiting[so])


# For each set of facts: from which sets one act leads to it, and what that act costs.
def ways_into(deeds, set_count):
    ways = [[] for so in range(set_count)]
    for deed in deeds:
        for so in range(set_count):
            if may_be_done(deed, so):
                ways[so_behind(deed, so)].append((so, deed.cost))
    return ways
