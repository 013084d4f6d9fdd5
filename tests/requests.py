"""What the tests share: calls by their names, and answers told apart again."""

from breadstreet.van import answers

NUMBERS = {
    "create": 0,
    "add_shop": 1,
    "remove_shop": 2,
    "set_position": 3,
    "set_deadline": 4,
    "set_loaves": 5,
    "set_departure": 6,
    "earliest_finish": 7,
    "best_route": 8,
}

LOWEST = -2147483648
HIGHEST = 2147483647
EDGES = (0, 299, 300, -1, -99, 99, -100, 100, LOWEST, HIGHEST)
TIMES = (0, 99, 100, 299)
POSITIONS = (-99, -1, 0, 99)
LOAVES = (0, 99)


def flat(calls):
    """The list that stands for calls like ("add_shop", -5, 40, 10)."""
    numbers = []
    for call in calls:
        numbers.append(NUMBERS[call[0]])
        numbers.extend(call[1:])
    return numbers


def told_apart(numbers):
    """The answers, a list each, of what `answers` gives back."""
    told = []
    start = 0
    while start < len(numbers):
        end = start + 1 + numbers[start]
        if end > len(numbers) or end == start + 1:
            raise AssertionError(f"no answer of that length at {start}: {numbers}")
        told.append(numbers[start + 1:end])
        start = end
    return told


def asked(calls):
    """The answers to calls by name, a list each."""
    told = told_apart(answers(flat(calls)))
    if len(told) != len(calls):
        raise AssertionError(f"{len(calls)} calls, but {len(told)} answers")
    return told


def building(departure, shops):
    """The calls that lead to this departure and these (position, deadline, loaves)."""
    return [("create", departure)] + [("add_shop",) + shop for shop in shops]


def state_after(calls, count):
    """The departure and the shops behind these calls, read off what the setters answer.

    The instance is said to have `count` shops; the reading fails where it has others.
    """
    reading = [("set_departure", 0)]
    for i in range(count):
        # The distance from -99 tells the sign too.
        reading += [("set_position", i, -99), ("set_deadline", i, 0), ("set_loaves", i, 0)]
    reading.append(("set_loaves", count, 0))
    told = asked(calls + reading)[len(calls):]
    if told[-1] != [-2]:
        raise AssertionError(f"there are more than {count} shops")
    shops = []
    for i in range(count):
        distance, deadline, loaves = [answer[0] for answer in told[1 + 3 * i:4 + 3 * i]]
        shops.append((distance - 99, deadline, loaves))
    return told[0][0], shops
