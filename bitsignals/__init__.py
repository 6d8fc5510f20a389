"""Signals in single and double floating numbers, told to the bit."""
