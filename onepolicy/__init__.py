"""Onepolicy: a network's edge under one policy at a time."""
