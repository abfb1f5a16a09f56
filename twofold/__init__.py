"""Whole numbers of two parts: added, multiplied, divided with a rest, and parted into numbers that part no further."""
