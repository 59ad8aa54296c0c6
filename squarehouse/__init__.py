"""Squares left by a prime, whole: the calls are asked through squarehouse.house."""
