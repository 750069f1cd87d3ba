"""Chances of things that hang together, in whole fractions."""
