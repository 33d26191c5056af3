"""Cardboxes: families of switch settings, shown sets and solid sets."""
