"""The greatest numbers of everything that has a limit."""

MODULUS = 1000
INPUTS = 6
STEPS = 8
REGISTERS = 8
MOVES = 255
LEVELS = 256
PRICE = 1000
INSTRUCTIONS = 255
ALL_INPUTS = 4096
ENTRIES = 100
