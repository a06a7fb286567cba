"""Numbers of worlds, spread over times.

A spread is a dict from steps (start, order) to factors. It tells how many worlds have ended up to each time: a step
with a factor adds factor * comb(time - start + order, order) of them from its start on. So a step of order 0 stands
for worlds that end at its start, and one of order 1 for a world that ends at each time from its start on. In terms of
power series, a step is x**start / (1 - x)**order for the worlds that end at each time. So where the times of two
spreads add up, the starts of their steps add up, the orders, too, and the factors are multiplied.
"""

from math import comb


def added(spread, other):
    """Returns the sum of two spreads."""
    found = {step: spread[step] for step in spread}
    for step, factor in other.items():
        found[step] = found.get(step, 0) + factor
    return without_zeros(found)


def without_zeros(spread):
    """Returns a spread without the steps that add nothing."""
    return {step: factor for step, factor in spread.items() if factor != 0}


def multiplied(spread, number):
    """Returns a spread of that many times as many worlds."""
    return without_zeros({step: factor * number for step, factor in spread.items()})


def spread_at(time, number):
    """Returns the spread of a number of worlds that end at one time."""
    return without_zeros({(time, 0): number})


def spread_over(times):
    """Returns the spread of one world for each of the times."""
    found = {}
    for low, high in times.ranges:
        found[(low, 1)] = 1
        found[(high + 1, 1)] = -1
    return found


def one_after_the_other(spread, other):
    """Returns the spread of all pairs of worlds whose times add up."""
    found = {}
    for (start, order), factor in spread.items():
        for (more, others), times in other.items():
            step = (start + more, order + others)
            found[step] = found.get(step, 0) + factor * times
    return without_zeros(found)


def weights_of(many, by):
    """Returns the factors that a step has for a start that is later by at least 1: of its own order, and lower ones."""
    return [comb(by - 1 + less, less) for less in range(many)]


def moved(factors, by):
    """Returns the factors of the same steps for a start that is later by at least 1.

    Factors are a list with one factor for each order, all with one start.
    """
    weights = weights_of(len(factors), by)
    return [sum([factors[more] * weights[more - order] for more in range(order, len(factors))])
            for order in range(len(factors))]


def weight_in_product(order, more, whole):
    """Returns the factor of comb(n + whole, whole) in comb(n + order, order) * comb(n + more, more)."""
    sign = 1 if (order + more - whole) % 2 == 0 else -1
    return sign * comb(whole, order) * comb(order, whole - more)


def product_of(factors, others):
    """Returns the factors that add up to the product of what two lists of factors add up to, at each time."""
    found = [0] * (len(factors) + len(others) - 1)
    for order, factor in enumerate(factors):
        for more, other in enumerate(others):
            if factor != 0 and other != 0:
                for whole in range(max(order, more), order + more + 1):
                    found[whole] = found[whole] + factor * other * weight_in_product(order, more, whole)
    return found


def orders_of(spread):
    """Returns the number of the orders, from 0 on, of the steps of a spread."""
    return 1 + max([0] + [order for start, order in spread])


def factors_by_start(spread):
    """Returns the dict from the starts of a spread to the factors of its steps there."""
    many = orders_of(spread)
    found = {}
    for (start, order), factor in spread.items():
        if start not in found:
            found[start] = [0] * many
        found[start][order] = factor
    return found


def sums(factors, others):
    """Returns the sums of two lists of factors of one length."""
    return [factor + other for factor, other in zip(factors, others)]


def both_ended(spread, other):
    """Returns the spread of all pairs of worlds, which end when both have ended."""
    if not spread or not other:
        return {}
    first, second = factors_by_start(spread), factors_by_start(other)
    one, two = [0] * orders_of(spread), [0] * orders_of(other)
    last = 0
    found = {}
    for start in sorted([*first, *[other_start for other_start in second if other_start not in first]]):
        if start > last:
            one, two = moved(one, start - last), moved(two, start - last)
        last = start
        # The product grows by what is new in the first one times all of the second one, and the other way round.
        more = [0] * (len(one) + len(two) - 1)
        if start in second:
            two = sums(two, second[start])
            more = sums(more, product_of(second[start], one))
        if start in first:
            one = sums(one, first[start])
            more = sums(more, product_of(first[start], two))
        for order, factor in enumerate(more):
            found[(start, order)] = factor
    return without_zeros(found)


def ended_by(spread, time):
    """Returns how many worlds of a spread have ended up to a time."""
    return sum([factor * comb(time - start + order, order)
                for (start, order), factor in spread.items() if start <= time])


def up_to(spread, time):
    """Returns the spread of the worlds that have ended up to a time."""
    found = {(time + 1, 0): ended_by(spread, time)}
    for (start, order), factor in spread.items():
        if start <= time:
            found[(start, order)] = factor
            # From the next time on this step adds nothing any more.
            for less, weight in enumerate(weights_of(order + 1, time + 1 - start)):
                step = (time + 1, order - less)
                found[step] = found.get(step, 0) - factor * weight
    return without_zeros(found)
