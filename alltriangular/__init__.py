"""Alltriangular: tables of one lot, made triangular together."""
