"""Sweeping routes to a set of shops, and the best of them.

A shop is anything with a position and a deadline; shops are told by their place in the list.
"""


def by_distance(shops, chosen):
    return sorted(chosen, key=lambda i: (abs(shops[i].position), i))


# Every begun route is continued on the left ahead of the right, and all of them are
# equally long: that alone keeps the list in the order in which routes are to be compared.
def sweeping_routes(shops, chosen):
    left = by_distance(shops, [i for i in chosen if shops[i].position < 0])
    right = by_distance(shops, [i for i in chosen if shops[i].position >= 0])
    begun = [(0, 0, [])]
    for step in range(len(chosen)):
        longer = []
        for lefts, rights, route in begun:
            if lefts < len(left):
                longer.append((lefts + 1, rights, route + [left[lefts]]))
            if rights < len(right):
                longer.append((lefts, rights + 1, route + [right[rights]]))
        begun = longer
    return [route for lefts, rights, route in begun]


def times_along(shops, route, departure):
    times = []
    now = departure
    place = 0
    for i in route:
        now += abs(shops[i].position - place)
        place = shops[i].position
        times.append(now)
    return times


def is_on_time(shops, route, times):
    for i, arrival in zip(route, times):
        if arrival > shops[i].deadline:
            return False
    return True


def finish_of(times, departure):
    if len(times) == 0:
        return departure
    return times[-1]


# Gives back the finish and the route, or None where no sweeping route is on time.
def best_route_to(shops, chosen, departure):
    best = None
    for route in sweeping_routes(shops, chosen):
        times = times_along(shops, route, departure)
        if is_on_time(shops, route, times):
            finish = finish_of(times, departure)
            # A later route with the same finish must not push out the first one.
            if best is None or finish < best[0]:
                best = (finish, route)
    return best
