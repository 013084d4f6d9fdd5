"""The calls on one van and its shops: `answers` is what the program is called by."""

from breadstreet.routes import best_route_to, finish_of, is_on_time, latest_departure_to, loaves_of
from breadstreet.routes import members_of, number_of_sets, richest_route, times_along

LATEST_TIME = 299
FARTHEST = 99
MOST_LOAVES = 99
MOST_SHOPS = 7

NO_INSTANCE = -11
NO_SUCH_SHOP = -2
OUT_OF_RANGE = -22
TOO_MANY_SHOPS = -28
NOT_ON_TIME = -33

CREATE = 0
ADD_SHOP = 1
REMOVE_SHOP = 2
SET_POSITION = 3
SET_DEADLINE = 4
SET_LOAVES = 5
SET_DEPARTURE = 6
EARLIEST_FINISH = 7
BEST_ROUTE = 8
ARRIVAL_TIMES = 9
CHECK_ROUTE = 10
MAX_LOAVES = 11
EARLIEST_FINISH_OF = 12
LATEST_DEPARTURE = 13
RETURN_TIME = 14
EARLIEST_FINISH_WITHOUT = 15

# At the place of a call's number: how many whole numbers it has ahead of its rows.
WHOLE_NUMBERS = (1, 3, 1, 2, 2, 2, 1, 0, 0, 0, 0, 0, 1, 0, 0, 1, 0)
CALLS_WITH_A_ROUTE = (9, 10)


def is_time(value):
    return 0 <= value <= LATEST_TIME


def is_position(value):
    return abs(value) <= FARTHEST


def is_loaves(value):
    return 0 <= value <= MOST_LOAVES


class Shop:
    def __init__(self, position, deadline, loaves):
        self.position = position
        self.deadline = deadline
        self.loaves = loaves


# Each method that bears the name of an operation gives back what is answered to it:
# its numbers as a list, or the code of its refusal as the only one.
class Van:
    def __init__(self, departure):
        self.departure = departure
        self.shops = []

    def has_shop(self, i):
        return 0 <= i < len(self.shops)

    def add_shop(self, position, deadline, loaves):
        if not (is_position(position) and is_time(deadline) and is_loaves(loaves)):
            return [OUT_OF_RANGE]
        if len(self.shops) >= MOST_SHOPS:
            return [TOO_MANY_SHOPS]
        self.shops.append(Shop(position, deadline, loaves))
        return [len(self.shops) - 1]

    def remove_shop(self, i):
        if not self.has_shop(i):
            return [NO_SUCH_SHOP]
        self.shops.pop(i)
        return [len(self.shops)]

    def set_position(self, i, position):
        if not self.has_shop(i):
            return [NO_SUCH_SHOP]
        if not is_position(position):
            return [OUT_OF_RANGE]
        shop = self.shops[i]
        distance = abs(position - shop.position)
        shop.position = position
        return [distance]

    def set_deadline(self, i, deadline):
        if not self.has_shop(i):
            return [NO_SUCH_SHOP]
        if not is_time(deadline):
            return [OUT_OF_RANGE]
        shop = self.shops[i]
        old_deadline = shop.deadline
        shop.deadline = deadline
        return [old_deadline]

    def set_loaves(self, i, loaves):
        if not self.has_shop(i):
            return [NO_SUCH_SHOP]
        if not is_loaves(loaves):
            return [OUT_OF_RANGE]
        shop = self.shops[i]
        old_loaves = shop.loaves
        shop.loaves = loaves
        return [old_loaves]

    def set_departure(self, departure):
        if not is_time(departure):
            return [OUT_OF_RANGE]
        old_departure = self.departure
        self.departure = departure
        return [old_departure]

    def all_shops(self):
        return list(range(len(self.shops)))

    def best_route_to_all(self):
        return best_route_to(self.shops, self.all_shops(), self.departure)

    def earliest_finish_to(self, chosen):
        best = best_route_to(self.shops, chosen, self.departure)
        if best is None:
            return [NOT_ON_TIME]
        return [best[0]]

    def earliest_finish(self):
        return self.earliest_finish_to(self.all_shops())

    def best_route(self):
        best = self.best_route_to_all()
        if best is None:
            return [NOT_ON_TIME]
        return [best[0]] + best[1]

    def is_route(self, route):
        return all([self.has_shop(i) for i in route]) and len(set(route)) == len(route)

    def arrival_times(self, route):
        if not self.is_route(route):
            return [OUT_OF_RANGE]
        return [len(route)] + times_along(self.shops, route, self.departure)

    def check_route(self, route):
        if not self.is_route(route):
            return [OUT_OF_RANGE]
        times = times_along(self.shops, route, self.departure)
        on_time = 1 if is_on_time(self.shops, route, times) else 0
        return [on_time, finish_of(times, self.departure), loaves_of(self.shops, route)]

    def max_loaves(self):
        richest = richest_route(self.shops, self.departure)
        return [richest[0]] + richest[1]

    def earliest_finish_of(self, mask):
        if not 0 <= mask < number_of_sets(self.shops):
            return [OUT_OF_RANGE]
        return self.earliest_finish_to(members_of(mask, self.shops))

    def latest_departure(self):
        latest = latest_departure_to(self.shops, self.all_shops(), LATEST_TIME)
        if latest < 0:
            return [NOT_ON_TIME]
        return [latest]

    def return_time(self):
        best = self.best_route_to_all()
        if best is None:
            return [NOT_ON_TIME]
        if len(best[1]) == 0:
            return [best[0]]
        last_shop = self.shops[best[1][-1]]
        return [best[0] + abs(last_shop.position)]

    def earliest_finish_without(self, i):
        if not self.has_shop(i):
            return [NO_SUCH_SHOP]
        return self.earliest_finish_to([other for other in self.all_shops() if other != i])

    def describe(self):
        told = [self.departure, len(self.shops)]
        for shop in self.shops:
            told.extend([shop.position, shop.deadline, shop.loaves])
        return told


def end_of_call(calls, start):
    number = calls[start]
    end = start + 1 + WHOLE_NUMBERS[number]
    if number in CALLS_WITH_A_ROUTE:
        end += 1 + calls[end]
    return end


def answer_of_change(van, number, given):
    if number == ADD_SHOP:
        return van.add_shop(given[0], given[1], given[2])
    if number == REMOVE_SHOP:
        return van.remove_shop(given[0])
    if number == SET_POSITION:
        return van.set_position(given[0], given[1])
    if number == SET_DEADLINE:
        return van.set_deadline(given[0], given[1])
    if number == SET_LOAVES:
        return van.set_loaves(given[0], given[1])
    return van.set_departure(given[0])


# The operations from number 7 on: none of them may change the van.
def answer_of_query(van, number, given):
    if number == EARLIEST_FINISH:
        return van.earliest_finish()
    if number == BEST_ROUTE:
        return van.best_route()
    # A route has ahead of it how many numbers it has.
    if number == ARRIVAL_TIMES:
        return van.arrival_times(given[1:])
    if number == CHECK_ROUTE:
        return van.check_route(given[1:])
    if number == MAX_LOAVES:
        return van.max_loaves()
    if number == EARLIEST_FINISH_OF:
        return van.earliest_finish_of(given[0])
    if number == LATEST_DEPARTURE:
        return van.latest_departure()
    if number == RETURN_TIME:
        return van.return_time()
    if number == EARLIEST_FINISH_WITHOUT:
        return van.earliest_finish_without(given[0])
    return van.describe()


def answers(calls):
    van = None
    told = []
    start = 0
    while start < len(calls):
        end = end_of_call(calls, start)
        number = calls[start]
        given = calls[start + 1:end]
        if number == CREATE and is_time(given[0]):
            van = Van(given[0])
            answer = [0]
        elif number == CREATE:
            answer = [OUT_OF_RANGE]
        elif van is None:
            answer = [NO_INSTANCE]
        elif number <= SET_DEPARTURE:
            answer = answer_of_change(van, number, given)
        else:
            answer = answer_of_query(van, number, given)
        told.append(len(answer))
        told.extend(answer)
        start = end
    return told
