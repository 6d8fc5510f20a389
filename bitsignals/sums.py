"""What a row comes to: sums of products, the greatest size."""

from bitsignals.floats import INFINITY, SIZE_BITS
from bitsignals.plain import Plain

# How many products are added to one another before they are added to the sum, by format.
GROUP = (4, 2)


def sum_of_products(f, a, b):
    numbers = Plain(f)
    products = [numbers.times(x, y) for x, y in zip(a, b)]
    while len(products) % GROUP[f] != 0:
        products.append(0)
    return sum_by_groups(numbers, GROUP[f], products)


def sum_by_groups(numbers, group, products):
    """The sum from 0 on, in groups of two or four; there are as many products as fill the groups."""
    total = numbers.taken(0)
    for i in range(0, len(products), group):
        more = numbers.plus(products[i], products[i + 1])
        if group == 4:
            more = numbers.plus(more, numbers.plus(products[i + 2], products[i + 3]))
        total = numbers.plus(total, more)
    return total


def greatest_size(f, row):
    """(place, size): where the greatest size stands first, and it; (0, 0) where none is above 0."""
    place = 0
    greatest = 0
    for i, a in enumerate(row):
        size = a & SIZE_BITS[f]
        # What is above infinity is a NaN.
        if greatest < size <= INFINITY[f]:
            place = i
            greatest = size
    return (place, greatest)
