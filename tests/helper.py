"""What several test files share: ways to write circuits and to expand them, and made-up numbers."""

PRIME = 65521
LOWEST = -2147483648
HIGHEST = 2147483647


def variable(a):
    return [0, a, 0, 0]


def number(value):
    return [1, 0, value % 256, value // 256]


def add(a, b):
    return [2, a, b, 0]


def less(a, b):
    return [3, a, b, 0]


def times(a, b):
    return [4, a, b, 0]


def code_of(*gates):
    return [byte for gate in gates for byte in gate]


def power_gates(base, exponent, following):
    """Gates, the first of which is gate `following`, whose last makes gate `base` to the exponent."""
    gates = []
    last = base
    for _ in range(exponent - 1):
        gates.append(times(last, base))
        last = following + len(gates) - 1
    return gates


def product_of_variables(n):
    """Gates for x0 times x1 and so on up to the last variable; there are 2 n - 1 of them."""
    gates = [variable(a) for a in range(n)]
    last = 0
    for a in range(1, n):
        gates.append(times(last, a))
        last = len(gates) - 1
    return gates


class Made:
    """The same numbers each time: a row that only looks as if it came by chance."""

    def __init__(self, start):
        self.state = start

    def below(self, bound):
        self.state = (self.state * 6364136223846793005 + 1442695040888963407) % 2**64
        return (self.state >> 33) % bound

    def numbers(self, count, bound=PRIME):
        return [self.below(bound) for _ in range(count)]


def made_circuit(made, n):
    """Thirteen gates and n at the most; their degrees may be greater than told."""
    gates = [variable(a) for a in range(n)] + [number(made.below(PRIME))]
    for _ in range(1 + made.below(12)):
        place = len(gates)
        kind = (0, 1, 2, 3, 3, 4, 4, 4)[made.below(8)]
        if kind == 0:
            gates.append(variable(made.below(n)))
        elif kind == 1:
            gates.append(number(made.below(PRIME)))
        else:
            # One of the two is often the gate just before, so that degrees grow.
            a, b = made.below(place), place - 1 if made.below(4) else made.below(place)
            gates.append([kind, a, b, 0] if made.below(2) else [kind, b, a, 0])
    return code_of(*gates)


def expanded(code, n):
    """The last gate as a polynomial, exponents to factors: another way than gate by gate at x."""
    made = []
    for at in range(0, len(code), 4):
        kind, a, b, top = code[at:at + 4]
        terms = {}
        if kind == 0:
            terms[tuple(1 if v == a else 0 for v in range(n))] = 1
        elif kind == 1:
            terms[(0,) * n] = b + 256 * top
        elif kind in (2, 3):
            terms.update(made[a])
            for exponents, factor in made[b].items():
                terms[exponents] = terms.get(exponents, 0) + (factor if kind == 2 else -factor)
        else:
            for left, first in made[a].items():
                for right, second in made[b].items():
                    exponents = tuple(p + q for p, q in zip(left, right))
                    terms[exponents] = terms.get(exponents, 0) + first * second
        made.append(terms)
    return made[-1]


def value_of_terms(terms, x):
    total = 0
    for exponents, factor in terms.items():
        for base, exponent in zip(x, exponents):
            factor *= base ** exponent
        total += factor
    return total % PRIME


def message_of_terms(terms, d, r):
    """The sums for the variable behind r being 0 to d, term by term: a variable that is summed over
    leaves a term once (at 1) where the term names it, and twice (at 0 too) where it doesn't."""
    sums = []
    for value in range(d + 1):
        total = 0
        for exponents, factor in terms.items():
            for base, exponent in zip([*r, value], exponents):
                factor *= base ** exponent
            total += factor * 2 ** exponents[len(r) + 1:].count(0)
        sums.append(total % PRIME)
    return sums


def most_terms(code, n):
    """Expanded with sums for differences and 1 for each number, so that nothing falls away.

    Its exponents tell the degrees by gates, by other means than gate by gate.
    """
    changed = []
    for at in range(0, len(code), 4):
        kind, a, b, top = code[at:at + 4]
        changed += {1: number(1), 3: add(a, b)}.get(kind, [kind, a, b, top])
    return expanded(changed, n)


def refused_circuits():
    """Pairs of n and code, with n and the number of gates in their ranges, that are no circuits."""
    alone = []
    for n in (1, 2, 7, 11, 12):
        alone += [(n, [variable(n)]), (n, [variable(255)]), (n, [variable(0), variable(n)])]
    for kind in (2, 3, 4):
        alone.append((1, [[kind, 0, 0, 0]]))
        for a, b in ((0, 2), (2, 0), (2, 2), (0, 3), (3, 0), (1, 255), (255, 1)):
            alone.append((1, [variable(0), number(2), [kind, a, b, 0]]))
        for value in (1, 128, 255):
            alone.append((1, [variable(0), [kind, 0, 0, value]]))
        alone.append((1, [variable(0)] * 62 + [[kind, 61, 62, 0]]))
    for kind in (5, 6, 128, 254, 255):
        alone += [(1, [[kind, 0, 0, 0]]), (3, [variable(0), [kind, 0, 0, 0]])]
    for value in (1, 128, 255):
        alone += [(1, [[0, 0, value, 0]]), (1, [[0, 0, 0, value]]), (1, [[1, value, 3, 0]])]
    for value in (65521, 65522, 65535):
        alone += [(1, [number(value)]), (12, [number(value)])]
    for n, a in ((1, 0), (2, 0), (2, 1), (12, 0), (12, 11)):
        fifteen = [variable(a), *power_gates(0, 15, 1)]
        alone += [(n, [*fifteen, times(14, 0)]), (n, [*fifteen, times(7, 7)])]
        alone.append((n, [*fifteen, less(14, 14), times(15, 0)]))
        alone.append((n, [*fifteen, number(0), times(14, 15), times(0, 16)]))
    alone.append((1, [variable(0)] + [times(place, place) for place in range(62)]))
    refused = []
    for n, gates in alone:
        # A good gate behind them doesn't help: all gates count.
        refused += [(n, code_of(*gates)), (n, code_of(*gates, number(1)))]
        refused.append((n, code_of(*gates, variable(0))))
    return refused


def change_refused(self, *arguments, **named):
    raise AssertionError("a list that was handed in was to be changed")


class Fixed(list):
    """A list that can't be changed, not for a while either."""

    append = extend = insert = pop = remove = clear = reverse = sort = change_refused
    __setitem__ = __delitem__ = __iadd__ = __imul__ = change_refused


def check_call(test, call, arguments, answer):
    """The answer, as a list of ints; the same a second time; and what was handed in is as it was."""
    for _ in range(2):
        handed_in = [list(each) if isinstance(each, list) else each for each in arguments]
        given = call(*handed_in)
        test.assertEqual(given, answer)
        test.assertIs(type(given), list)
        test.assertEqual({type(each) for each in given}, {int})
        test.assertEqual(handed_in, list(arguments))
        # The caller may change what is given back: that must not show in another answer.
        given.append(7)
    test.assertEqual(call(*[Fixed(each) if isinstance(each, list) else each for each in arguments]), answer)


def sum_of_bits(n, chosen):
    """The table, for n bits, that says whether a number's bits in common with the chosen one are odd in number."""
    return [bin(place & chosen).count("1") % 2 for place in range(2 ** n)]


def agreeing_less_differing(table):
    """For each sum of bits, how many more places agree with it than differ: Hadamard's transform."""
    found = [1 - 2 * bit for bit in table]
    half = 1
    while half < len(table):
        for place in range(len(table)):
            if not place & half:
                low, high = found[place], found[place + half]
                found[place], found[place + half] = low + high, low - high
        half *= 2
    return found


def check_table_refusals(test, call):
    """What bl_far and bl_rejects refuse alike."""
    for n in (0, 11, -1, -10, 12, 13, 64, HIGHEST, LOWEST):
        test.assertEqual(call(n, []), [-2])
        # The interface hands in no table with such an n; -2 goes ahead all the same.
        test.assertEqual(call(n, [2, 255]), [-2])
    for value in (2, 3, 128, 254, 255):
        for n in (1, 3, 10):
            for place in (0, 1, 2 ** n // 2, 2 ** n - 1):
                table = [0] * 2 ** n
                table[place] = value
                test.assertEqual(call(n, table), [-3])
            test.assertEqual(call(n, [value] * 2 ** n), [-3])
