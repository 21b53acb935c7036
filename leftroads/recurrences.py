"""Rows of numbers in which each one is told by those before it, far beyond what can be counted.

A polynomial is the list of its integers, that of the highest power first; the
first one is 1.
"""


def times_polynomial(one, other):
    """Return the product of two polynomials."""
    product = [0] * (len(one) + len(other) - 1)
    for at, number in enumerate(one):
        for behind, factor in enumerate(other):
            product[at + behind] += number * factor
    return product


def rest_by(numbers, polynomial, modulus):
    """Return the rest of a list of integers by a polynomial, with integers below a modulus."""
    rest = list(numbers)
    many = max(0, len(rest) - len(polynomial) + 1)
    for at in range(many):
        factor = rest[at] % modulus
        if factor != 0:
            for behind, number in enumerate(polynomial):
                rest[at + behind] -= factor * number
    return [number % modulus for number in rest[many:]]


def power_rest(exponent, polynomial, modulus):
    """Return the rest of x to a power by a polynomial."""
    rest = rest_by([1], polynomial, modulus)
    for at in range(exponent.bit_length() - 1, -1, -1):
        rest = times_polynomial(rest, rest)
        if exponent >> at & 1:
            rest.append(0)
        rest = rest_by(rest, polynomial, modulus)
    return rest


def number_far_on(numbers, exponent, polynomial, modulus):
    """Return the rest of the number at a place, by the first ones of a row that follows a polynomial."""
    rest = power_rest(exponent, polynomial, modulus)
    rest.reverse()
    return sum([factor * number for factor, number in zip(rest, numbers)]) % modulus


def characteristic(matrix):
    """Return the characteristic polynomial of a square matrix, a list of lists of integers."""
    many = len(matrix)
    polynomial = [1]
    power = [[0] * many for _ in range(many)]
    for degree in range(1, many + 1):
        # Each power is the matrix times the one before and so many times the plain one.
        for at in range(many):
            power[at][at] += polynomial[-1]
        power = times_matrix(matrix, power)
        trace = sum([power[at][at] for at in range(many)])
        polynomial.append(-trace // degree)
    return polynomial


def times_matrix(one, other):
    """Return the product of two square matrices."""
    columns = [list(column) for column in zip(*other)]
    return [[sum([left * right for left, right in zip(row, column)]) for column in columns] for row in one]
