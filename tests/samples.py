"""Programs, texts and tasks that several tests use."""

EXAMPLE_TEXT = (
    "mod 97\ninputs 2\ns0 = x0 + x1\ns1 = s0 * s0\ns2 = s1 - 3\ns3 = s2 * x0\nreturn s3\n")
EXAMPLE = (
    97, 2, (("+", "x0", "x1"), ("*", "s0", "s0"), ("-", "s1", "3"), ("*", "s2", "x0")), (3,))

SHORTEST_TEXT = "mod 2\ninputs 1\ns0 = 0 - 1\nreturn s0\n"
SHORTEST = (2, 1, (("-", "0", "1"),), (0,))

LONGEST_TEXT = (
    "mod 1000\ninputs 6\ns0 = x0 + x5\ns1 = 999 * x1\ns2 = s0 - 0\ns3 = x2 - x3\n"
    "s4 = s3 + s3\ns5 = x4 * s1\ns6 = s5 - s4\ns7 = s6 * s2\nreturn s0 s4 s6 s7\n")
LONGEST = (
    1000, 6,
    (("+", "x0", "x5"), ("*", "999", "x1"), ("-", "s0", "0"), ("-", "x2", "x3"),
     ("+", "s3", "s3"), ("*", "x4", "s1"), ("-", "s5", "s4"), ("*", "s6", "s2")),
    (0, 4, 6, 7))

# All steps are outputs, and steps that differ only in the order of their operands.
ALL_RETURNED_TEXT = "mod 10\ninputs 1\ns0 = x0 + 9\ns1 = 9 + x0\ns2 = s1 - s0\nreturn s0 s1 s2\n"
ALL_RETURNED = (10, 1, (("+", "x0", "9"), ("+", "9", "x0"), ("-", "s1", "s0")), (0, 1, 2))

PAIRS = (
    (EXAMPLE_TEXT, EXAMPLE), (SHORTEST_TEXT, SHORTEST), (LONGEST_TEXT, LONGEST),
    (ALL_RETURNED_TEXT, ALL_RETURNED))

# A chain: each step uses the one before it. The task of EXAMPLE.
CHAIN = (((), (0,), (1,), (2,)), (3,))
LONG_CHAIN = (((), (0,), (1,), (2,), (3,), (4,), (5,), (6,)), (7,))
# Two steps that use none, and one that uses both.
FORK = (((), (), (0, 1)), (2,))
# Steps that use none, and all of them are targets.
FREE = (((), (), ()), (0, 1, 2))
# A step in each row that uses two of the row before it.
PYRAMID = (((), (), (), (0, 1), (1, 2), (3, 4)), (5,))
# Two chains and a step that uses the ends of both, with a step that is not needed.
TWIN = (((), (0,), (), (2,), (1, 3), (0, 2)), (4,))
WIDE = (((),) * 8, (1, 4, 7))

TASKS = (CHAIN, FORK, FREE, PYRAMID, TWIN, (((),), (0,)), (((), (0,)), (0, 1)))
