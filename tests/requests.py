"""What the tests share: calls by their names, answers told apart again, drawn instances and a plain search."""

import itertools

from breadstreet.van import answers

NUMBERS = {
    "create": 0,
    "add_shop": 1,
    "remove_shop": 2,
    "set_position": 3,
    "set_deadline": 4,
    "set_loaves": 5,
    "set_departure": 6,
    "earliest_finish": 7,
    "best_route": 8,
    "arrival_times": 9,
    "check_route": 10,
    "max_loaves": 11,
    "earliest_finish_of": 12,
    "latest_departure": 13,
    "return_time": 14,
    "earliest_finish_without": 15,
    "describe": 16,
}

LOWEST = -2147483648
HIGHEST = 2147483647
EDGES = (0, 299, 300, -1, -99, 99, -100, 100, LOWEST, HIGHEST)
TIMES = (0, 99, 100, 299)
POSITIONS = (-99, -1, 0, 99)
LOAVES = (0, 99)
THREE = [(-5, 40, 10), (8, 20, 20), (-12, 60, 5)]
SEVEN = [(-3, 299, 1), (-2, 298, 2), (-1, 297, 3), (0, 296, 4), (1, 295, 5), (2, 294, 6), (3, 293, 7)]
NO_INDEX_OF_THREE = (3, 4, 7, -1, -2, -3, 299, LOWEST, HIGHEST)


def flat(calls):
    """The list that stands for calls like ("add_shop", -5, 40, 10) or ("arrival_times", [0, 2])."""
    numbers = []
    for call in calls:
        numbers.append(NUMBERS[call[0]])
        for given in call[1:]:
            if isinstance(given, list):
                numbers.append(len(given))
                numbers.extend(given)
            else:
                numbers.append(given)
    return numbers


def told_apart(numbers):
    """The answers, a list each, of what `answers` gives back."""
    told = []
    start = 0
    while start < len(numbers):
        end = start + 1 + numbers[start]
        if end > len(numbers) or end == start + 1:
            raise AssertionError(f"no answer of that length at {start}: {numbers}")
        told.append(numbers[start + 1:end])
        start = end
    return told


def asked(calls):
    """The answers to calls by name, a list each."""
    told = told_apart(answers(flat(calls)))
    if len(told) != len(calls):
        raise AssertionError(f"{len(calls)} calls, but {len(told)} answers")
    return told


def last(calls):
    return asked(calls)[-1]


def building(departure, shops):
    """The calls that lead to this departure and these (position, deadline, loaves)."""
    return [("create", departure)] + [("add_shop",) + shop for shop in shops]


def state_after(calls, count):
    """The departure and the shops behind these calls, read off what the setters answer.

    The instance is said to have `count` shops; the reading fails where it has others.
    """
    reading = [("set_departure", 0)]
    for i in range(count):
        # The distance from -99 tells the sign too.
        reading += [("set_position", i, -99), ("set_deadline", i, 0), ("set_loaves", i, 0)]
    reading.append(("set_loaves", count, 0))
    told = asked(calls + reading)[len(calls):]
    if told[-1] != [-2]:
        raise AssertionError(f"there are more than {count} shops")
    shops = []
    for i in range(count):
        distance, deadline, loaves = [answer[0] for answer in told[1 + 3 * i:4 + 3 * i]]
        shops.append((distance - 99, deadline, loaves))
    return told[0][0], shops


def told_by(departure, shops, *queries):
    """The answers to these calls alone, each an operation that leaves the instance as it is."""
    return asked(building(departure, shops) + list(queries))[1 + len(shops):]


def description(departure, shops):
    """What describe has to answer for this instance."""
    return [departure, len(shops)] + [number for shop in shops for number in shop]


def shops_at(*places):
    """Shops as (position, deadline), with one loaf put to each."""
    return [(position, deadline, 1) for position, deadline in places]


def arrivals(departure, shops, route):
    times, now, place = [], departure, 0
    for i in route:
        now += abs(shops[i][0] - place)
        place = shops[i][0]
        times.append(now)
    return times


def finish_on_time(departure, shops, route):
    """The time at which the route is finished; None where it is not on time."""
    times = arrivals(departure, shops, route)
    if any(time > shops[i][1] for i, time in zip(route, times)):
        return None
    return ([departure] + times)[-1]


def is_sweeping(shops, route):
    left = [(-shops[i][0], i) for i in route if shops[i][0] < 0]
    right = [(shops[i][0], i) for i in route if shops[i][0] >= 0]
    return left == sorted(left) and right == sorted(right)


def searched(departure, shops, chosen):
    """The least finish over all orders of the chosen shops, and the best route; None where there is none."""
    least, best = None, None
    for route in itertools.permutations(chosen):
        finish = finish_on_time(departure, shops, route)
        if finish is None:
            continue
        if least is None or finish < least:
            least = finish
        if is_sweeping(shops, route):
            # False comes ahead of True: the left ahead of the right at the first difference.
            key = (finish, [shops[i][0] >= 0 for i in route], list(route))
            if best is None or key < best:
                best = key
    return least, None if best is None else best[2]


def sets_of(count):
    """All sets of that many shops, by ascending bitmask."""
    return [[i for i in range(count) if mask // 2 ** i % 2 == 1] for mask in range(2 ** count)]


def drawn(seed, how_many):
    """The same many numbers every time, spread well enough for instances."""
    numbers = []
    for _ in range(how_many):
        seed = (seed * 1103515245 + 12345) % 2147483648
        numbers.append(seed // 65536)
    return numbers


def drawn_instance(seed):
    """A departure and at most five shops."""
    numbers = drawn(seed, 20)
    count = numbers[0] % 6
    reach = (2, 4, 9, 99)[numbers[1] % 4]
    departure = numbers[2] % 8
    shops = []
    for i in range(count):
        position = numbers[3 + 3 * i] % (2 * reach + 1) - reach
        # From what can't be met to what hardly matters.
        deadline = min(299, departure + abs(position) + numbers[4 + 3 * i] % (4 * reach) - 1)
        shops.append((position, max(0, deadline), numbers[5 + 3 * i] % 100))
    return departure, shops
