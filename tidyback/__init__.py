"""Tidyback: code that can be run back, with the fewest registers, moves, price and rounds."""
