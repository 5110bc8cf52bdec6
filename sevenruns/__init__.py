"""Sevenruns: which formulas can be told span by span without loss."""
