"""Whole numbers of two parts: added, multiplied and divided with a rest."""
