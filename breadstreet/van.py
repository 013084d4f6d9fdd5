"""The calls on one van and its shops: `answers` is what the program is called by."""

from breadstreet.routes import best_route_to

LATEST_TIME = 299
FARTHEST = 99
MOST_LOAVES = 99
MOST_SHOPS = 7

NO_INSTANCE = -11
NO_SUCH_SHOP = -2
OUT_OF_RANGE = -22
TOO_MANY_SHOPS = -28
NOT_ON_TIME = -33

CREATE = 0
ADD_SHOP = 1
REMOVE_SHOP = 2
SET_POSITION = 3
SET_DEADLINE = 4
SET_LOAVES = 5
SET_DEPARTURE = 6
EARLIEST_FINISH = 7
BEST_ROUTE = 8

# At the place of a call's number: how many whole numbers it has ahead of its rows.
# It goes on beyond the calls that are written here, because ahead of a create they
# are answered all the same, and the call behind them has to be found.
WHOLE_NUMBERS = (1, 3, 1, 2, 2, 2, 1, 0, 0, 0, 0, 0, 1, 0, 0, 1, 0)
CALLS_WITH_A_ROUTE = (9, 10)


def is_time(value):
    return 0 <= value <= LATEST_TIME


def is_position(value):
    return abs(value) <= FARTHEST


def is_loaves(value):
    return 0 <= value <= MOST_LOAVES


class Shop:
    def __init__(self, position, deadline, loaves):
        self.position = position
        self.deadline = deadline
        self.loaves = loaves


# Each method that bears the name of an operation gives back what is answered to it:
# its numbers as a list, or the code of its refusal as the only one.
class Van:
    def __init__(self, departure):
        self.departure = departure
        self.shops = []

    def has_shop(self, i):
        return 0 <= i < len(self.shops)

    def add_shop(self, position, deadline, loaves):
        if not (is_position(position) and is_time(deadline) and is_loaves(loaves)):
            return [OUT_OF_RANGE]
        if len(self.shops) >= MOST_SHOPS:
            return [TOO_MANY_SHOPS]
        self.shops.append(Shop(position, deadline, loaves))
        return [len(self.shops) - 1]

    def remove_shop(self, i):
        if not self.has_shop(i):
            return [NO_SUCH_SHOP]
        self.shops.pop(i)
        return [len(self.shops)]

    def set_position(self, i, position):
        if not self.has_shop(i):
            return [NO_SUCH_SHOP]
        if not is_position(position):
            return [OUT_OF_RANGE]
        shop = self.shops[i]
        distance = abs(position - shop.position)
        shop.position = position
        return [distance]

    def set_deadline(self, i, deadline):
        if not self.has_shop(i):
            return [NO_SUCH_SHOP]
        if not is_time(deadline):
            return [OUT_OF_RANGE]
        shop = self.shops[i]
        old_deadline = shop.deadline
        shop.deadline = deadline
        return [old_deadline]

    def set_loaves(self, i, loaves):
        if not self.has_shop(i):
            return [NO_SUCH_SHOP]
        if not is_loaves(loaves):
            return [OUT_OF_RANGE]
        shop = self.shops[i]
        old_loaves = shop.loaves
        shop.loaves = loaves
        return [old_loaves]

    def set_departure(self, departure):
        if not is_time(departure):
            return [OUT_OF_RANGE]
        old_departure = self.departure
        self.departure = departure
        return [old_departure]

    def best_route_to_all(self):
        return best_route_to(self.shops, list(range(len(self.shops))), self.departure)

    def earliest_finish(self):
        best = self.best_route_to_all()
        if best is None:
            return [NOT_ON_TIME]
        return [best[0]]

    def best_route(self):
        best = self.best_route_to_all()
        if best is None:
            return [NOT_ON_TIME]
        return [best[0]] + best[1]


def end_of_call(calls, start):
    number = calls[start]
    end = start + 1 + WHOLE_NUMBERS[number]
    if number in CALLS_WITH_A_ROUTE:
        end += 1 + calls[end]
    return end


def answer_of(van, number, given):
    if number == ADD_SHOP:
        return van.add_shop(given[0], given[1], given[2])
    if number == REMOVE_SHOP:
        return van.remove_shop(given[0])
    if number == SET_POSITION:
        return van.set_position(given[0], given[1])
    if number == SET_DEADLINE:
        return van.set_deadline(given[0], given[1])
    if number == SET_LOAVES:
        return van.set_loaves(given[0], given[1])
    if number == SET_DEPARTURE:
        return van.set_departure(given[0])
    if number == EARLIEST_FINISH:
        return van.earliest_finish()
    if number == BEST_ROUTE:
        return van.best_route()
    raise KeyError(f"the call {number} is not written")


def answers(calls):
    van = None
    told = []
    start = 0
    while start < len(calls):
        end = end_of_call(calls, start)
        number = calls[start]
        given = calls[start + 1:end]
        if number == CREATE and is_time(given[0]):
            van = Van(given[0])
            answer = [0]
        elif number == CREATE:
            answer = [OUT_OF_RANGE]
        elif van is None:
            answer = [NO_INSTANCE]
        else:
            answer = answer_of(van, number, given)
        told.append(len(answer))
        told.extend(answer)
        start = end
    return told
