"""What several test files share: ways to write circuits, and a row of made-up numbers."""

PRIME = 65521
LOWEST = -2147483648
HIGHEST = 2147483647


def variable(a):
    return [0, a, 0, 0]


def number(value):
    return [1, 0, value % 256, value // 256]


def add(a, b):
    return [2, a, b, 0]


def less(a, b):
    return [3, a, b, 0]


def times(a, b):
    return [4, a, b, 0]


def code_of(*gates):
    return [byte for gate in gates for byte in gate]


def power_gates(base, exponent, following):
    """Gates, the first of which is gate `following`, whose last makes gate `base` to the exponent."""
    gates = []
    last = base
    for _ in range(exponent - 1):
        gates.append(times(last, base))
        last = following + len(gates) - 1
    return gates


def product_of_variables(n):
    """Gates for x0 times x1 and so on up to the last variable; there are 2 n - 1 of them."""
    gates = [variable(a) for a in range(n)]
    last = 0
    for a in range(1, n):
        gates.append(times(last, a))
        last = len(gates) - 1
    return gates


class Made:
    """The same numbers each time: a row that only looks as if it came by chance."""

    def __init__(self, start):
        self.state = start

    def below(self, bound):
        self.state = (self.state * 6364136223846793005 + 1442695040888963407) % 2**64
        return (self.state >> 33) % bound

    def numbers(self, count, bound=PRIME):
        return [self.below(bound) for _ in range(count)]
