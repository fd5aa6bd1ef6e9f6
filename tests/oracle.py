"""The document's words, written a second time with fractions and without haste."""

from fractions import Fraction
from itertools import combinations, product

GREATEST_NUMBER = 4294967295


def triples(components):
    return [tuple(components[k:k + 3]) for k in range(0, len(components), 3)]


def cost_of(amounts, components):
    return sum((x * c for x, (_, c, _) in zip(amounts, triples(components))), Fraction(0))


def property_total_of(amounts, components):
    return sum((x * a for x, (_, _, a) in zip(amounts, triples(components))), Fraction(0))


def feasible(quantity, low, high, components, amounts):
    parts = triples(components)
    return (
        all(0 <= x <= most for x, (most, _, _) in zip(amounts, parts))
        and sum(amounts) == quantity
        and low * quantity <= property_total_of(amounts, components) <= high * quantity
    )


def basic_blends(quantity, low, high, components):
    """Every feasible blend of the three forms, each form filled in by itself."""
    parts = triples(components)
    places = range(len(parts))
    found = set()

    def settle(free, solve):
        rest = [p for p in places if p not in free]
        for choice in product(*[(0, parts[p][0]) for p in rest]):
            amounts = [Fraction(0)] * len(parts)
            for p, amount in zip(rest, choice):
                amounts[p] = Fraction(amount)
            for p, amount in zip(free, solve(amounts)):
                amounts[p] = amount
            if feasible(quantity, low, high, components, amounts):
                found.add(tuple(amounts))

    settle((), lambda amounts: [])
    for p in places:
        settle((p,), lambda amounts: [quantity - sum(amounts)])
    for p, q in combinations(places, 2):
        a, b = parts[p][2], parts[q][2]
        if a == b:
            continue
        for bound in (low, high):
            def solve(amounts):
                missing = quantity - sum(amounts)
                total = bound * quantity - property_total_of(amounts, components)
                second = Fraction(total - a * missing, b - a)
                return [missing - second, second]
            settle((p, q), solve)
    return found


def cheapest(quantity, low, high, components):
    """What cheapest_blend is to answer to arguments within their limits."""
    found = basic_blends(quantity, low, high, components)
    if not found:
        return [-33]
    best = min(found, key=lambda amounts: (cost_of(amounts, components), amounts))
    return [0] + pairs([cost_of(best, components)] + list(best))


def checked(quantity, low, high, den, components, blend):
    """What check_blend is to answer to arguments within their limits."""
    amounts = [Fraction(x, den) for x in blend]
    answer = [1 if feasible(quantity, low, high, components, amounts) else 0]
    return answer + pairs([cost_of(amounts, components), property_total_of(amounts, components)])


def gain(cost, a, prices):
    unit_price, low_price, high_price = prices
    return max(unit_price + low_price * a - high_price * a - cost, 0)


def bounded(quantity, low, high, components, prices):
    """What dual_bound is to answer to arguments within their limits."""
    unit_price, low_price, high_price = prices
    bound = unit_price * quantity + low_price * low * quantity - high_price * high * quantity
    bound -= sum(gain(cost, a, prices) * most for most, cost, a in triples(components))
    is_tight = cheapest(quantity, low, high, components)[:3] == [0, bound, 1]
    return [int(is_tight), bound, 1]


def without(quantity, low, high, index, components):
    """What cost_without_component is to answer to all arguments but the index within their limits."""
    parts = triples(components)
    if index >= len(parts):
        return [-2]
    others = [number for k, part in enumerate(parts) if k != index for number in part]
    return cheapest(quantity, low, high, others)[:3]


def property_totals(components):
    """The smallest and the greatest property total of each quantity that can be put together.

    Whole amounts are enough for these: of two amounts that are not whole, one can
    grow at the other's cost until one of them is, in the direction that helps.
    """
    parts = triples(components)
    found = {}
    for amounts in product(*[range(most + 1) for most, _, _ in parts]):
        total = sum(x * a for x, (_, _, a) in zip(amounts, parts))
        smallest, greatest = found.get(sum(amounts), (total, total))
        found[sum(amounts)] = (min(smallest, total), max(greatest, total))
    return found


def in_reach(quantity, low, high, totals):
    """Whether there is enough of all, and the bounds leave room among the property totals."""
    if quantity not in totals:
        return False
    smallest, greatest = totals[quantity]
    return smallest <= high * quantity and greatest >= low * quantity


def greatest_quantity(low, high, components):
    """What max_quantity is to answer to arguments within their limits."""
    totals = property_totals(components)
    return [max(quantity for quantity in range(100) if in_reach(quantity, low, high, totals))]


def ranged(quantity, components):
    """What property_range is to answer to arguments within their limits."""
    totals = property_totals(components)
    return list(totals[quantity]) if quantity in totals else [-33]


def quantities_at_limits():
    """Quantities at the limit, each with whether it is within."""
    for quantity in (0, 1, 98, 99, 100, 101, GREATEST_NUMBER):
        yield quantity, quantity <= 99


def bounds_at_limits():
    """Bounds at each limit, each two with whether they are within."""
    for bounds in ((0, 0), (0, 99), (98, 99), (99, 99), (3, 3)):
        yield bounds, True
    for bounds in ((0, 100), (99, 100), (100, 100), (0, GREATEST_NUMBER), (GREATEST_NUMBER, GREATEST_NUMBER),
                   (1, 0), (4, 3), (99, 98), (100, 99), (GREATEST_NUMBER, 0)):
        yield bounds, False


def components_at_limits():
    """Components at each limit, each list with whether it is within."""
    for count in range(1, 5):
        for place in range(3 * count):
            most = (50, 99, 99)[place % 3]
            for number in (0, most, most + 1, GREATEST_NUMBER):
                components = [1, 1, 1] * count
                components[place] = number
                yield components, number <= most
    for length in range(16):
        for number in (0, 1):
            yield [number] * length, length in (0, 3, 6, 9, 12)


def requests_at_limits():
    """Requests at each limit of a quantity, two bounds and components, each with whether it is within."""
    for quantity, valid in quantities_at_limits():
        yield (quantity, 0, 99, [50, 1, 7, 50, 2, 8]), valid
    for (low, high), valid in bounds_at_limits():
        yield (1, low, high, [5, 1, 3]), valid
        yield (0, low, high, []), valid
    for components, valid in components_at_limits():
        yield (0, 0, 0, components), valid
        yield (1, 0, 99, components), valid


def pairs(numbers):
    answer = []
    for number in numbers:
        answer += [Fraction(number).numerator, Fraction(number).denominator]
    return answer


def as_fractions(numbers):
    return [Fraction(numbers[k], numbers[k + 1]) for k in range(0, len(numbers), 2)]
