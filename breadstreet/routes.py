"""Sweeping routes to a set of shops, the best of them, and the set that wants the most loaves.

A shop is anything with a position, a deadline and loaves; shops are told by their place in the list.
"""


def by_distance(shops, chosen):
    return sorted(chosen, key=lambda i: (abs(shops[i].position), i))


# Every begun route is continued on the left ahead of the right, and all of them are
# equally long: that alone keeps the list in the order in which routes are to be compared.
def sweeping_routes(shops, chosen):
    left = by_distance(shops, [i for i in chosen if shops[i].position < 0])
    right = by_distance(shops, [i for i in chosen if shops[i].position >= 0])
    begun = [(0, 0, [])]
    for step in range(len(chosen)):
        longer = []
        for lefts, rights, route in begun:
            if lefts < len(left):
                longer.append((lefts + 1, rights, route + [left[lefts]]))
            if rights < len(right):
                longer.append((lefts, rights + 1, route + [right[rights]]))
        begun = longer
    return [route for lefts, rights, route in begun]


def times_along(shops, route, departure):
    times = []
    now = departure
    place = 0
    for i in route:
        now += abs(shops[i].position - place)
        place = shops[i].position
        times.append(now)
    return times


def is_on_time(shops, route, times):
    for i, arrival in zip(route, times):
        if arrival > shops[i].deadline:
            return False
    return True


def finish_of(times, departure):
    if len(times) == 0:
        return departure
    return times[-1]


# Gives back the finish and the route, or None where no sweeping route is on time.
def best_route_to(shops, chosen, departure):
    best = None
    for route in sweeping_routes(shops, chosen):
        times = times_along(shops, route, departure)
        if is_on_time(shops, route, times):
            finish = finish_of(times, departure)
            # A later route with the same finish must not push out the first one.
            if best is None or finish < best[0]:
                best = (finish, route)
    return best


# No departure above the limit is asked for, so a route without shops spares just that.
def time_to_spare(shops, route, limit):
    times = times_along(shops, route, 0)
    return min([limit] + [shops[i].deadline - arrival for i, arrival in zip(route, times)])


# Each arrival is later by as much as the van leaves later: what a route spares when the van
# leaves at 0 is the latest time to leave for it. Below 0 there is no such time.
def latest_departure_to(shops, chosen, limit):
    return max([time_to_spare(shops, route, limit) for route in sweeping_routes(shops, chosen)])


def loaves_of(shops, chosen):
    return sum([shops[i].loaves for i in chosen])


def number_of_sets(shops):
    return 1 << len(shops)


def members_of(mask, shops):
    return [i for i in range(len(shops)) if (mask >> i) & 1 == 1]


# Gives back the loaves of the richest set and its best route. The empty set has a best route
# whatever the deadlines are, and its bitmask is the smallest.
def richest_route(shops, departure):
    richest = (0, [])
    for mask in range(1, number_of_sets(shops)):
        chosen = members_of(mask, shops)
        loaves = loaves_of(shops, chosen)
        # A later set with the same loaves must not push out the one with the smaller bitmask.
        if loaves > richest[0]:
            best = best_route_to(shops, chosen, departure)
            if best is not None:
                richest = (loaves, best[1])
    return richest
