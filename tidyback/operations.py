"""The operations of program steps and instructions."""

OPERATIONS = ("+", "-", "*")


def result_of(operation, left, right, modulus):
    """Return the result of an operation on two values, mod the modulus."""
    if operation == "+":
        return (left + right) % modulus
    if operation == "-":
        return (left - right) % modulus
    return (left * right) % modulus
