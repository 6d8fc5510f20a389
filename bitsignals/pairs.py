"""Numbers of two parts: their products, quotients and sizes."""

from bitsignals.arithmetic import add, divide, multiply, opposite, square_root, subtract


def product(f, x1, x2, y1, y2):
    first = subtract(f, multiply(f, x1, y1), multiply(f, x2, y2))
    second = add(f, multiply(f, x1, y2), multiply(f, x2, y1))
    return (first, second)


def product_with_opposite(f, x1, x2, y1, y2):
    return product(f, x1, x2, y1, opposite(f, y2))


def quotient(f, x1, x2, y1, y2):
    first, second = product_with_opposite(f, x1, x2, y1, y2)
    divisor = squares_added(f, y1, y2)
    return (divide(f, first, divisor), divide(f, second, divisor))


def squares_added(f, x1, x2):
    return add(f, multiply(f, x1, x1), multiply(f, x2, x2))


def length(f, x1, x2):
    return square_root(f, squares_added(f, x1, x2))


# What pair and look do, by op.
OF_TWO_PAIRS = (product, product_with_opposite, quotient)
OF_ONE_PAIR = (squares_added, length)
