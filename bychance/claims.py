"""Claims held against by chance, as DOC.md tells them; each call answers a list of whole numbers."""

PRIME = 65521

ARGUMENTS_REFUSED = -2
CONTENT_REFUSED = -3

MOST_SIDE = 64
MOST_GATES = 64
MOST_VARIABLES = 12
MOST_DEGREE = 255
MOST_DEGREE_IN_ONE = 15
MOST_BITS = 10

ROW_NUMBERS = 16

GATE_BYTES = 4
VARIABLE = 0
NUMBER = 1
SUM = 2
DIFFERENCE = 3
PRODUCT = 4


def all_numbers(values):
    for value in values:
        if not 0 <= value < PRIME:
            return False
    return True


def times_column(k, matrix, column):
    products = []
    for row in range(k):
        total = 0
        for place in range(k):
            total = (total + matrix[k * row + place] * column[place]) % PRIME
        products.append(total)
    return products


def gates_of(code):
    gates = []
    for place in range(len(code) // GATE_BYTES):
        start = GATE_BYTES * place
        gates.append(code[start:start + GATE_BYTES])
    return gates


def number_of(gate):
    return gate[2] + 256 * gate[3]


def is_gate(n, gate, place):
    kind = gate[0]
    if kind == VARIABLE:
        return gate[1] < n and gate[2] == 0 and gate[3] == 0
    if kind == NUMBER:
        return gate[1] == 0 and number_of(gate) < PRIME
    if kind in (SUM, DIFFERENCE, PRODUCT):
        return gate[1] < place and gate[2] < place and gate[3] == 0
    return False


def gate_degree(gate, counts, before):
    kind = gate[0]
    if kind == VARIABLE:
        return counts[gate[1]]
    if kind == NUMBER:
        return 0
    if kind == PRODUCT:
        return before[gate[1]] + before[gate[2]]
    return max(before[gate[1]], before[gate[2]])


# counts says what each variable's own gate counts for: all 1 makes the degree,
# a single 1 the degree in that variable.
def gate_degrees(gates, counts):
    degrees = []
    for gate in gates:
        degrees.append(gate_degree(gate, counts, degrees))
    return degrees


def count_all(n):
    return [1] * n


def count_one(n, variable):
    return [1 if each == variable else 0 for each in range(n)]


# With 12 variables the second bound keeps every degree to 180, so the first one
# decides nothing by itself; it stands because the document names it.
def degrees_hold(n, gates):
    if max(gate_degrees(gates, count_all(n))) > MOST_DEGREE:
        return False
    for variable in range(n):
        if max(gate_degrees(gates, count_one(n, variable))) > MOST_DEGREE_IN_ONE:
            return False
    return True


def greatest_last_degree(n, gates):
    return max([gate_degrees(gates, count_one(n, variable))[-1] for variable in range(n)])


# The degrees come last: they can only be told of gates that name gates before them.
def is_circuit(n, gates):
    for place in range(len(gates)):
        if not is_gate(n, gates[place], place):
            return False
    return degrees_hold(n, gates)


def gate_value(gate, x, before):
    kind = gate[0]
    if kind == VARIABLE:
        return x[gate[1]]
    if kind == NUMBER:
        return number_of(gate)
    first = before[gate[1]]
    second = before[gate[2]]
    if kind == SUM:
        return (first + second) % PRIME
    if kind == DIFFERENCE:
        return (first - second) % PRIME
    return (first * second) % PRIME


def circuit_value(gates, x):
    values = []
    for gate in gates:
        values.append(gate_value(gate, x, values))
    return values[-1]


def bit_rows(length):
    rows = [[]]
    for place in range(length):
        rows = [row + [0] for row in rows] + [row + [1] for row in rows]
    return rows


def total_over_bits(gates, start, behind):
    total = 0
    for row in bit_rows(behind):
        total = (total + circuit_value(gates, start + row)) % PRIME
    return total


def looked_at(n, count, rows):
    claims = []
    for variable in range(n):
        start = ROW_NUMBERS * variable
        claims.append(rows[start:start + count])
    return claims


# Newton's form: the differences at 0, each times how many ways there are to choose so
# many of x. These ways are whole numbers, so that nothing is divided modulo the prime.
def polynomial_value(values, x):
    total = 0
    ways = 1
    differences = values
    for step in range(len(values)):
        total = (total + ways * differences[0]) % PRIME
        ways = ways * (x - step) // (step + 1)
        differences = [differences[place] - differences[place - 1] for place in range(1, len(differences))]
    return total


# A claim of a single value is a polynomial too, so its value at 1 isn't taken out of the row.
def claims_hold(total, claims, r, value):
    due = total
    for variable in range(len(claims)):
        claim = claims[variable]
        if (polynomial_value(claim, 0) + polynomial_value(claim, 1)) % PRIME != due:
            return False
        due = polynomial_value(claim, r[variable])
    return due == value


def all_bits(values):
    for value in values:
        if value not in (0, 1):
            return False
    return True


def odd_counts(size):
    odd = [0]
    for number in range(1, size):
        odd.append(odd[number // 2] ^ (number % 2))
    return odd


def places_apart(table, odd, chosen):
    return sum([table[place] ^ odd[place & chosen] for place in range(len(table))])


def pairs_apart(table, x):
    return sum([table[x] ^ table[y] ^ table[x ^ y] for y in range(len(table))])


def circuit_arguments_hold(n, gates):
    return 1 <= n <= MOST_VARIABLES and 1 <= len(gates) <= MOST_GATES


def ch_product(k, a, b, c, r):
    if not 1 <= k <= MOST_SIDE:
        return [ARGUMENTS_REFUSED]
    for values in (a, b, c, r):
        if not all_numbers(values):
            return [CONTENT_REFUSED]
    claimed = times_column(k, c, r)
    found = times_column(k, a, times_column(k, b, r))
    return [1 if found == claimed else 0]


def ch_value(n, code, x):
    gates = gates_of(code)
    if not circuit_arguments_hold(n, gates):
        return [ARGUMENTS_REFUSED]
    if not (is_circuit(n, gates) and all_numbers(x)):
        return [CONTENT_REFUSED]
    return [circuit_value(gates, x)]


def ch_degree(n, code):
    gates = gates_of(code)
    if not circuit_arguments_hold(n, gates):
        return [ARGUMENTS_REFUSED]
    if not is_circuit(n, gates):
        return [CONTENT_REFUSED]
    return [gate_degrees(gates, count_all(n))[-1]]


def sc_total(n, code):
    gates = gates_of(code)
    if not circuit_arguments_hold(n, gates):
        return [ARGUMENTS_REFUSED]
    if not is_circuit(n, gates):
        return [CONTENT_REFUSED]
    return [total_over_bits(gates, [], n)]


def sc_each(n, code):
    gates = gates_of(code)
    if not circuit_arguments_hold(n, gates):
        return [ARGUMENTS_REFUSED]
    if not is_circuit(n, gates):
        return [CONTENT_REFUSED]
    return [greatest_last_degree(n, gates)]


def sc_message(n, i, code, r):
    gates = gates_of(code)
    if not (circuit_arguments_hold(n, gates) and 0 <= i < n):
        return [ARGUMENTS_REFUSED]
    if not (is_circuit(n, gates) and all_numbers(r)):
        return [CONTENT_REFUSED]
    count = greatest_last_degree(n, gates) + 1
    totals = [total_over_bits(gates, r + [value], n - i - 1) for value in range(count)]
    return [count] + totals + [0] * (ROW_NUMBERS - count)


def sc_check(n, total, code, rows, r):
    gates = gates_of(code)
    if not (circuit_arguments_hold(n, gates) and 0 <= total < PRIME):
        return [ARGUMENTS_REFUSED]
    if not (is_circuit(n, gates) and all_numbers(r)):
        return [CONTENT_REFUSED]
    claims = looked_at(n, greatest_last_degree(n, gates) + 1, rows)
    for claim in claims:
        if not all_numbers(claim):
            return [CONTENT_REFUSED]
    return [1 if claims_hold(total, claims, r, circuit_value(gates, r)) else 0]


def bl_far(n, table):
    if not 1 <= n <= MOST_BITS:
        return [ARGUMENTS_REFUSED]
    if not all_bits(table):
        return [CONTENT_REFUSED]
    odd = odd_counts(len(table))
    return [min([places_apart(table, odd, chosen) for chosen in range(len(table))])]


def bl_rejects(n, table):
    if not 1 <= n <= MOST_BITS:
        return [ARGUMENTS_REFUSED]
    if not all_bits(table):
        return [CONTENT_REFUSED]
    return [sum([pairs_apart(table, x) for x in range(len(table))])]
