"""Sweepends: steps that solve linear equations, decided in fractions."""
