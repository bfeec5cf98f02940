"""What the document promises over the whole program, asked of all nine calls together."""

import inspect
import unittest

import bychance.claims as claims
from helper import add, check_call, code_of, times, variable

# x0^2 + x1: 0, 1, 1 and 2 at the rows of 0s and 1s.
CODE = code_of(variable(0), variable(1), times(0, 0), add(2, 1))
NO_CIRCUIT = code_of(variable(0), variable(2))
ROWS = [1, 3, 9] + [0] * 13 + [25, 26, 27] + [0] * 13
NO_ROWS = [1, 3, 65521] + [0] * 13 + [25, 26, 27] + [0] * 13

ANSWERED = (
    ("ch_product", (2, [1, 2, 3, 4], [5, 6, 7, 8], [19, 22, 43, 50], [3, 5]), [1]),
    ("ch_product", (2, [1, 2, 3, 4], [5, 6, 7, 8], [19, 22, 43, 51], [3, 5]), [0]),
    ("ch_value", (2, CODE, [3, 5]), [14]),
    ("ch_degree", (2, CODE), [2]),
    ("sc_total", (2, CODE), [4]),
    ("sc_each", (2, CODE), [2]),
    ("sc_message", (2, 0, CODE, []), [3, 1, 3, 9] + [0] * 13),
    ("sc_message", (2, 1, CODE, [5]), [3, 25, 26, 27] + [0] * 13),
    ("sc_check", (2, 4, CODE, ROWS, [5, 7]), [1]),
    ("sc_check", (2, 5, CODE, ROWS, [5, 7]), [0]),
    ("bl_far", (2, [1, 0, 0, 0]), [1]),
    ("bl_rejects", (2, [1, 0, 0, 0]), [10]),
)

CONTENT = (
    ("ch_product", (1, [2], [3], [6], [65521]), [-3]),
    ("ch_value", (2, CODE, [3, 65521]), [-3]),
    ("ch_value", (2, NO_CIRCUIT, [3, 5]), [-3]),
    ("ch_degree", (2, NO_CIRCUIT), [-3]),
    ("sc_total", (2, NO_CIRCUIT), [-3]),
    ("sc_each", (2, NO_CIRCUIT), [-3]),
    ("sc_message", (2, 1, CODE, [65521]), [-3]),
    ("sc_message", (2, 1, NO_CIRCUIT, [5]), [-3]),
    ("sc_check", (2, 4, CODE, NO_ROWS, [5, 7]), [-3]),
    ("sc_check", (2, 4, CODE, ROWS, [5, 65521]), [-3]),
    ("sc_check", (2, 4, NO_CIRCUIT, ROWS, [5, 7]), [-3]),
    ("bl_far", (2, [1, 0, 2, 0]), [-3]),
    ("bl_rejects", (2, [1, 0, 2, 0]), [-3]),
)

ARGUMENTS = (
    ("ch_product", (65, [], [], [], []), [-2]),
    ("ch_value", (13, CODE, []), [-2]),
    ("ch_value", (2, [], [3, 5]), [-2]),
    ("ch_degree", (0, CODE), [-2]),
    ("sc_total", (-1, CODE), [-2]),
    ("sc_each", (13, CODE), [-2]),
    ("sc_message", (2, 2, CODE, []), [-2]),
    ("sc_message", (2, -1, CODE, []), [-2]),
    ("sc_check", (2, 65521, CODE, ROWS, [5, 7]), [-2]),
    ("bl_far", (11, []), [-2]),
    ("bl_rejects", (11, []), [-2]),
)

# Some of these hand in more than the interface does: -2 goes ahead all the same.
BOTH = (
    ("ch_product", (0, [65521], [3], [6], [1]), [-2]),
    ("ch_value", (2, [], [3, 65521]), [-2]),
    ("ch_value", (13, NO_CIRCUIT, []), [-2]),
    ("ch_degree", (0, NO_CIRCUIT), [-2]),
    ("sc_total", (0, NO_CIRCUIT), [-2]),
    ("sc_each", (13, NO_CIRCUIT), [-2]),
    ("sc_message", (2, 2, NO_CIRCUIT, []), [-2]),
    ("sc_message", (2, 1, [], [65521]), [-2]),
    ("sc_check", (2, -1, NO_CIRCUIT, ROWS, [5, 7]), [-2]),
    ("sc_check", (2, 65521, CODE, NO_ROWS, [5, 65521]), [-2]),
    ("bl_far", (11, [2, 255]), [-2]),
    ("bl_rejects", (0, [2, 255]), [-2]),
)

NINE = [
    "bl_far", "bl_rejects", "ch_degree", "ch_product", "ch_value",
    "sc_check", "sc_each", "sc_message", "sc_total",
]


def answer_of(name, arguments):
    return getattr(claims, name)(*arguments)


def kept_values():
    """What the module's names stand for, and what its functions carry along, written out."""
    kept = {}
    for name, value in vars(claims).items():
        if inspect.isfunction(value):
            kept[name] = repr((value.__defaults__, value.__kwdefaults__, value.__dict__, value.__closure__))
        elif not name.startswith("__"):
            kept[name] = repr(value)
    return kept


class AllCalls(unittest.TestCase):
    def test_each_list_of_cases_has_all_nine(self):
        for cases in (ANSWERED, CONTENT, ARGUMENTS, BOTH):
            self.assertEqual(sorted({name for name, _, _ in cases}), NINE)

    def test_what_is_handed_in_stays_and_the_same_is_answered_again(self):
        for name, arguments, answer in ANSWERED + CONTENT + ARGUMENTS + BOTH:
            with self.subTest(call=name, arguments=arguments):
                check_call(self, getattr(claims, name), arguments, answer)

    def test_no_call_shows_in_the_next(self):
        cases = ANSWERED + CONTENT + ARGUMENTS
        for before in cases:
            for name, arguments, answer in cases:
                answer_of(before[0], before[1])
                self.assertEqual(answer_of(name, arguments), answer, before)

    def test_nothing_is_kept(self):
        before = kept_values()
        for name, arguments, _ in ANSWERED + CONTENT + ARGUMENTS + BOTH:
            answer_of(name, arguments)
        self.assertEqual(kept_values(), before)

    def test_how_many_numbers_are_given_back(self):
        for name, arguments, _ in ANSWERED:
            self.assertEqual(len(answer_of(name, arguments)), 17 if name == "sc_message" else 1, name)
        for name, arguments, _ in CONTENT + ARGUMENTS + BOTH:
            self.assertEqual(len(answer_of(name, arguments)), 1, name)


if __name__ == "__main__":
    unittest.main()
