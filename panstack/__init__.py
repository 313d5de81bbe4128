"""Pancakes, whole: stacks that are sorted by turning the top of them over."""
