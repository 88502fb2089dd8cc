"""What several tests share: values of any kind, and slow but plain ways to the same sums."""

import random
import time

from freshpromise.sums import room_for


def deep(levels):
    """Return a list in a list in a list.."""
    value = []
    for _ in range(levels - 1):
        value = [value]
    return value


ODD_VALUES = [
    None, True, False, "", " ", "0", "1", "1 2", "(1, 2)", "a\nb", "~",
    (), (None,), ("1", "2"), (True, False), [], [0, 0], [1, 2], [1, 1, 2, 3],
    {}, {0: 0}, {"day": 1, "keeps": 2}, deep(30), ((1, 2),), [(1, 2)],
]


def pairs_to(last):
    """Return all pairs with keeps up to a day."""
    return [(day, keeps) for keeps in range(last + 1) for day in range(keeps + 1)]


def is_told(corners, pair):
    """Return whether one of some pairs brings a pair along."""
    return any(day >= pair[0] and keeps <= pair[1] for day, keeps in corners)


def filled(pairs, last):
    """Return the set of the pairs up to a day that some pairs bring along."""
    return frozenset(pair for pair in pairs_to(last) if is_told(pairs, pair))


def members(stairs, last):
    """Return the set of the pairs up to a day that a staircase has."""
    return frozenset(pair for pair in pairs_to(last) if pair in stairs)


def staircases(pairs, last):
    """Return all staircases, as sets of pairs up to a day, that can be made of some pairs."""
    found = {frozenset()}
    for pair in pairs:
        found |= {one | filled([pair], last) for one in found}
    return sorted(found, key=sorted)


def plain_surplus(lots, orders, pairs):
    """Return the surplus of a set of pairs."""
    there = sum(lot[3] for lot in lots if lot[1:3] in pairs)
    asked = sum(order[3] for order in orders if order[1:3] in pairs)
    return there - asked


def plain_least(lots, orders, choices):
    """Return the least surplus of some staircases, and what all that have it share."""
    sums = [plain_surplus(lots, orders, choice) for choice in choices]
    least = [choice for choice, found in zip(choices, sums) if found == min(sums)]
    return min(sums), frozenset.intersection(*least)


def plain_suits(lot, order):
    """Return whether a lot suits an order."""
    return lot[1] <= order[1] and order[2] <= lot[2]


def way_to_more(left, served, suited, order):
    """Return a way (order, lot, order, lot ..) from an order to a lot with goods left, or None."""
    came_from = {("order", order): None}
    queue = [("order", order)]
    for kind, at in queue:
        if kind == "order":
            steps = [("lot", lot) for lot in suited[at]]
        else:
            if left[at]:
                way = [("lot", at)]
                while came_from[way[-1]] is not None:
                    way.append(came_from[way[-1]])
                return [number for _, number in reversed(way)]
            steps = [("order", other) for other, given in enumerate(served) if given.get(at)]
        for step in steps:
            if step not in came_from:
                came_from[step] = (kind, at)
                queue.append(step)
    return None


def most_served(lots, orders):
    """Return the most that can be delivered in sum, found by ways on which deliveries are changed."""
    left = [lot[3] for lot in lots]
    suited = [[at for at, lot in enumerate(lots) if plain_suits(lot, order)] for order in orders]
    served = [{} for _ in orders]
    for order in range(len(orders)):
        asked = orders[order][3]
        while asked:
            way = way_to_more(left, served, suited, order)
            if way is None:
                break
            back = list(zip(way[2::2], way[1::2]))
            many = min([asked, left[way[-1]]] + [served[other][lot] for other, lot in back])
            for other, lot in back:
                served[other][lot] -= many
            for other, lot in zip(way[::2], way[1::2]):
                served[other][lot] = served[other].get(lot, 0) + many
            left[way[-1]] -= many
            asked -= many
    return sum(sum(given.values()) for given in served)


def can_serve(lots, orders):
    """Return whether all orders can be served."""
    return most_served(lots, orders) == sum(order[3] for order in orders)


def some_goods(chance, many, last, most):
    """Return some lots or orders with ids from 1 on."""
    goods = []
    for ident in range(1, many + 1):
        day = chance.randint(0, last)
        goods.append((ident, day, chance.randint(day, last), chance.randint(1, most)))
    return goods


def plain_room(lots, orders, pair):
    """Return the room for a pair: what an order more, one too great, gets beside all others."""
    wish = (0, *pair, sum(lot[3] for lot in lots) + 1)
    return most_served(lots, [*orders, wish]) - sum(order[3] for order in orders)


def plain_plan(lots, orders):
    """Return the plan made unit by unit, or None if an order lacks one."""
    left = {lot[0]: lot[3] for lot in lots}
    shelf = sorted(lots, key=lambda lot: (lot[2], lot[1], lot[0]))
    given = {}
    for order in sorted(orders, key=lambda order: (order[1], order[2], order[0])):
        for _ in range(order[3]):
            fitting = [lot[0] for lot in shelf if plain_suits(lot, order) and left[lot[0]]]
            if not fitting:
                return None
            left[fitting[0]] -= 1
            way = (order[0], fitting[0])
            given[way] = given.get(way, 0) + 1
    return [(order, lot, many) for (order, lot), many in given.items()]


def plain_kept(lots, orders):
    """Return what orders keep, from the oldest on: what can be served more with each one."""
    served = [most_served(lots, orders[:many]) for many in range(len(orders) + 1)]
    return [more - less for less, more in zip(served, served[1:])]


def with_ids(goods, chance, last=10 ** 6):
    """Return lots or orders with other ids, different ones, in another sequence."""
    idents = chance.sample(range(1, last + 1), len(goods))
    return chance.sample([(ident, *one[1:]) for ident, one in zip(idents, goods)], len(goods))


def quickest(call):
    """Return the least time in seconds that a call takes of some tries, so that other work does not count."""
    times = []
    for _ in range(3):
        start = time.perf_counter()
        call()
        times.append(time.perf_counter() - start)
        if times[-1] < 0.3:
            break
    return min(times)


def full_house(seed, last=1000):
    """Return a hundred lots and a hundred orders that can all be served, with great amounts."""
    chance = random.Random(seed)
    lots = some_goods(chance, 100, last, 10 ** 9)
    orders = []
    while len(orders) < 100:
        day = chance.randint(0, last)
        pair = (day, chance.randint(day, last))
        room = room_for(lots, orders, pair)
        if room > 0:
            orders.append((len(orders) + 1, *pair, min(room, chance.randint(1, 10 ** 9 // 2))))
    return lots, orders
