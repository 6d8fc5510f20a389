"""What a row comes to: sums of products, the greatest size."""

from bitsignals.arithmetic import add, multiply
from bitsignals.floats import INFINITY, SIZE_BITS

# How many products are added to one another before they are added to the sum, by format.
GROUP = (4, 2)


def sum_of_products(f, a, b):
    products = [multiply(f, x, y) for x, y in zip(a, b)]
    while len(products) % GROUP[f] != 0:
        products.append(0)
    return sum_by_groups(f, products)


def sum_by_groups(f, products):
    """The sum from 0 on; there are as many products as fill the groups."""
    total = 0
    if f == 0:
        for i in range(0, len(products), 4):
            first = add(f, products[i], products[i + 1])
            second = add(f, products[i + 2], products[i + 3])
            total = add(f, total, add(f, first, second))
    else:
        for i in range(0, len(products), 2):
            total = add(f, total, add(f, products[i], products[i + 1]))
    return total


def greatest_size(f, row):
    """(place, size): where the greatest size stands first, and it; (0, 0) where none is above 0."""
    place = 0
    greatest = 0
    for i, a in enumerate(row):
        size = a & SIZE_BITS[f]
        # What is above infinity is a NaN.
        if greatest < size <= INFINITY[f]:
            place = i
            greatest = size
    return (place, greatest)
