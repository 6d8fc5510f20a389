"""Arithmetic on numbers as their bits: it takes every number."""

from bitsignals.arithmetic import add, multiply, opposite, subtract
from bitsignals.floats import told


class Plain:
    def __init__(self, f):
        self.f = f

    def taken(self, bits):
        return bits

    def given(self, a):
        return told(self.f, a)

    def factor(self, bits):
        return bits

    def plus(self, a, b):
        return add(self.f, a, b)

    def less(self, a, b):
        return subtract(self.f, a, b)

    def times(self, a, c):
        return multiply(self.f, a, c)

    def minus(self, a):
        return opposite(self.f, a)
