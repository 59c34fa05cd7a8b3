"""Guesses of a number from those before it: fixed ones, and linear ones by exact least squares."""

from soundkeeping.forms import fits

# The factors of the fixed guesses by order, the first for the number just before.
FIXED = ((), (1,), (2, -1), (3, -3, 1), (4, -6, 4, -1))
FACTOR_WIDTH = 12
GREATEST_SHIFT = 15


class Guess:
    def __init__(self, factors, shift):
        self.factors = factors
        self.shift = shift

    def at(self, numbers, place):
        total = 0
        before = place
        for factor in self.factors:
            before -= 1
            total += factor * numbers[before]
        return total >> self.shift

    def all_rests(self, numbers):
        return [numbers[t] - self.at(numbers, t) for t in range(len(self.factors), len(numbers))]


def fixed_guess(order):
    return Guess(list(FIXED[order]), 0)


# None where the least squares have no only answer or no shift holds it.
def linear_guess(order, numbers):
    rows = solved([normal_row(order, numbers, lag) for lag in range(1, order + 1)])
    if rows is None:
        return None
    for shift in range(GREATEST_SHIFT, -1, -1):
        factors = [nearest(row[order] << shift, rows[place][place]) for place, row in enumerate(rows)]
        if all([fits(FACTOR_WIDTH, factor) for factor in factors]):
            return Guess(factors, shift)
    return None


# One row of the normal equations, its right side last.
def normal_row(order, numbers, lag):
    return [lagged_product(order, numbers, lag, other) for other in list(range(1, order + 1)) + [0]]


def lagged_product(order, numbers, lag, other):
    n = len(numbers)
    return sum([x * y for x, y in zip(numbers[order - lag:n - lag], numbers[order - other:n - other])])


# Elimination without fractions: in the end row i says that its place i times the answer is its last
# number. The sums of products make a matrix whose leading determinants are never below 0, and each
# pivot is one of these times earlier pivots: so one of 0 means that the answer isn't the only one,
# and every other is above 0.
def solved(equations):
    rows = equations
    for step in range(len(equations)):
        if rows[step][step] == 0:
            return None
        rows = [row if place == step else cleared(row, rows[step], step) for place, row in enumerate(rows)]
    return rows


def cleared(row, chosen, step):
    return [chosen[step] * x - row[step] * y for x, y in zip(row, chosen)]


# The nearest whole number to a fraction with a divisor above 0, halves away from 0.
def nearest(number, divisor):
    whole = (2 * abs(number) + divisor) // (2 * divisor)
    return whole if number >= 0 else -whole
