"""Operators that preserve real-rootedness, on polynomials with rational coefficients."""
