"""Least-cost blending with bounds on the mean property.

A blend is kept as a denominator and a list of whole numbers over it, so that
every sum and every comparison is exact.
"""

# An error is answered as its code below 0.
NO_SUCH_COMPONENT = 2
OUTSIDE_LIMITS = 22
NOT_FEASIBLE = 33

MOST_QUANTITY = 99
MOST_BOUND = 99
MOST_COMPONENTS = 4
# The greatest available amount, cost and property of a component.
MOST_OF_COMPONENT = (50, 99, 99)
MOST_DEN = 99
MOST_IN_BLEND = 9999
# The unit price may lie as far below 0 as above it, the two others not below.
MOST_PRICE = 999


def cheapest_blend(quantity, low, high, components):
    """Answer 0, the cost of the cheapest blend and its amounts, or an error."""
    if not request_within_limits(quantity, low, high, components):
        return [-OUTSIDE_LIMITS]
    best = best_candidate(quantity, low, high, components)
    if best is None:
        return [-NOT_FEASIBLE]
    return [0] + rational_numbers(best[0], best[1])


def check_blend(quantity, low, high, den, components, blend):
    """Answer whether the blend is feasible, its cost and its property total, or an error."""
    if not request_within_limits(quantity, low, high, components):
        return [-OUTSIDE_LIMITS]
    if not blend_within_limits(den, components, blend):
        return [-OUTSIDE_LIMITS]
    feasible = 1 if is_feasible(quantity, low, high, den, components, blend) else 0
    cost = weighted_sum(blend, components[1::3])
    property_total = weighted_sum(blend, components[2::3])
    return [feasible] + rational_numbers(den, [cost, property_total])


def dual_bound(quantity, low, high, components, prices):
    """Answer whether the dual bound is the cost of the cheapest blend, and the bound, or an error."""
    if not request_within_limits(quantity, low, high, components):
        return [-OUTSIDE_LIMITS]
    if not prices_within_limits(prices):
        return [-OUTSIDE_LIMITS]
    bound = quantity * unit_worth(low, high, prices) - total_gain(components, prices)
    best = best_candidate(quantity, low, high, components)
    tight = 1 if best is not None and best[1][0] == bound * best[0] else 0
    return [tight, bound, 1]


def cost_without_component(quantity, low, high, index, components):
    """Answer 0 and the cost of the cheapest blend if the component didn't exist, or an error."""
    if not request_within_limits(quantity, low, high, components):
        return [-OUTSIDE_LIMITS]
    if 3 * index >= len(components):
        return [-NO_SUCH_COMPONENT]
    others = components[:3 * index] + components[3 * index + 3:]
    best = best_candidate(quantity, low, high, others)
    if best is None:
        return [-NOT_FEASIBLE]
    return [0] + rational_numbers(best[0], best[1][:1])


def max_quantity(low, high, components):
    """Answer the greatest quantity for which a blend is feasible, or an error."""
    if not bounds_within_limits(low, high) or not components_within_limits(components):
        return [-OUTSIDE_LIMITS]
    quantity = MOST_QUANTITY
    # This ends at 0 at the latest, where the blend of nothing is feasible.
    while not can_be_blended(quantity, low, high, components):
        quantity = quantity - 1
    return [quantity]


def property_range(quantity, components):
    """Answer the smallest and the greatest property total of the quantity, or an error."""
    if not within(quantity, MOST_QUANTITY) or not components_within_limits(components):
        return [-OUTSIDE_LIMITS]
    totals = extreme_totals(quantity, components)
    if totals is None:
        return [-NOT_FEASIBLE]
    return totals


def request_within_limits(quantity, low, high, components):
    """Tell whether a quantity, the bounds and the components are all valid."""
    if not within(quantity, MOST_QUANTITY) or not bounds_within_limits(low, high):
        return False
    return components_within_limits(components)


def bounds_within_limits(low, high):
    """Tell whether both bounds are valid, and the lower one not above the upper one."""
    return 0 <= low <= high <= MOST_BOUND


def components_within_limits(components):
    """Tell whether the list holds whole components, not too many, each valid."""
    if len(components) % 3 != 0 or len(components) > 3 * MOST_COMPONENTS:
        return False
    return all([within(number, MOST_OF_COMPONENT[place % 3]) for place, number in enumerate(components)])


def blend_within_limits(den, components, blend):
    """Tell whether den and the blend, one amount for each of the valid components, are valid."""
    if den == 0 or not within(den, MOST_DEN):
        return False
    if 3 * len(blend) != len(components):
        return False
    return all([within(amount, MOST_IN_BLEND) for amount in blend])


def prices_within_limits(prices):
    """Tell whether there are the three prices, each valid."""
    if len(prices) != 3:
        return False
    return within(abs(prices[0]), MOST_PRICE) and all([within(price, MOST_PRICE) for price in prices[1:]])


def within(number, most):
    """Tell whether a number lies from 0 to the greatest one allowed."""
    return 0 <= number <= most


def is_feasible(quantity, low, high, den, components, blend):
    """Tell whether the amounts blend / den are a feasible blend."""
    available = components[0::3]
    if not all([within(amount, den * most) for amount, most in zip(blend, available)]):
        return False
    if sum(blend) != den * quantity:
        return False
    total = weighted_sum(blend, components[2::3])
    return den * low * quantity <= total <= den * high * quantity


def best_candidate(quantity, low, high, components):
    """Give the cheapest blend as its den and, over that, its cost and its amounts; None if there is none."""
    costs = components[1::3]
    best = None
    for den, blend in basic_candidates(quantity, low, high, components):
        if is_feasible(quantity, low, high, den, components, blend):
            ranked = (den, [weighted_sum(blend, costs)] + blend)
            if best is None or comes_before(ranked, best):
                best = ranked
    return best


def basic_candidates(quantity, low, high, components):
    """List all that has the form of a basic blend, feasible or not, as pairs of den and blend."""
    properties = components[2::3]
    candidates = []
    for corner in corners(components[0::3]):
        candidates.append((1, corner))
        candidates.extend(one_made_up(quantity, corner))
        for bound in (low, high):
            candidates.extend(two_made_up(quantity, bound * quantity, corner, properties))
    return candidates


def corners(available):
    """List the blends in which every amount is 0 or the available one."""
    found = [[]]
    for most in available:
        found = [blend + [0] for blend in found] + [blend + [most] for blend in found]
    return found


def one_made_up(quantity, corner):
    """Let each component that the corner leaves out make up the quantity in its turn.

    Those that the corner holds need no turn: another corner leaves them out.
    """
    missing = quantity - sum(corner)
    candidates = []
    for place, amount in enumerate(corner):
        if amount == 0:
            candidates.append((1, corner[:place] + [missing] + corner[place + 1:]))
    return candidates


def two_made_up(quantity, total, corner, properties):
    """Let each two components left out make up the quantity and the property total.

    Only the order with the smaller property first is taken, so that the
    denominator, the difference of the two properties, is above 0.
    """
    missing = quantity - sum(corner)
    missing_total = total - weighted_sum(corner, properties)
    left_out = [place for place, amount in enumerate(corner) if amount == 0]
    candidates = []
    for first in left_out:
        for second in left_out:
            den = properties[second] - properties[first]
            if den > 0:
                blend = [den * amount for amount in corner]
                blend[first] = properties[second] * missing - missing_total
                blend[second] = missing_total - properties[first] * missing
                candidates.append((den, blend))
    return candidates


def comes_before(ranked, other):
    """Tell whether the cost, or at the same cost the first differing amount, is smaller."""
    return [number * other[0] for number in ranked[1]] < [number * ranked[0] for number in other[1]]


def can_be_blended(quantity, low, high, components):
    """Tell whether a blend is feasible: all property totals between the two extreme ones can be blended."""
    totals = extreme_totals(quantity, components)
    return totals is not None and totals[0] <= high * quantity and totals[1] >= low * quantity


def extreme_totals(quantity, components):
    """Give the smallest and the greatest property total of the quantity; None if there isn't enough."""
    if sum(components[0::3]) < quantity:
        return None
    parts = sorted([(own_property, most) for most, own_property in zip(components[0::3], components[2::3])])
    return [total_of_first(quantity, parts), total_of_first(quantity, sorted(parts, reverse=True))]


def total_of_first(quantity, parts):
    """Sum up the property total of the quantity, each part used up before the next one is begun."""
    total = 0
    missing = quantity
    for own_property, most in parts:
        taken = min(most, missing)
        total = total + own_property * taken
        missing = missing - taken
    return total


def total_gain(components, prices):
    """Sum up the gain of each component times its available amount."""
    gains = []
    for cost, own_property in zip(components[1::3], components[2::3]):
        gains.append(max(0, unit_worth(own_property, own_property, prices) - cost))
    return weighted_sum(components[0::3], gains)


def unit_worth(low, high, prices):
    """Give what a unit is worth: low at the price of the lower bound, high at that of the upper one."""
    return prices[0] + prices[1] * low - prices[2] * high


def weighted_sum(amounts, weights):
    """Sum up amount times weight."""
    return sum([amount * weight for amount, weight in zip(amounts, weights)])


def rational_numbers(den, numbers):
    """Give each of the numbers over den as numerator and denominator in lowest terms."""
    answer = []
    for number in numbers:
        divisor = common_divisor(number, den)
        answer.extend([number // divisor, den // divisor])
    return answer


def common_divisor(first, second):
    """Give the greatest common divisor; of 0 and a number that number, so that 0 becomes 0, 1."""
    while second != 0:
        rest = first % second
        first = second
        second = rest
    return first
