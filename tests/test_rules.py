"""Point 14: rules, with points 1, 4 and 5, which it names."""

import operator
import unittest

from support import FULL, HIGH, LOW, REFUSED_N, Asking, told

HOWS = (operator.eq, operator.ne, operator.lt, operator.le, operator.gt, operator.ge)
ROWS = (0, 1, 63, 64, 65, 128, 3750)
REFUSED_COUNT = (-1, 65, LOW, HIGH)
ANYTHING = ((0, 0, 0), (1, 2, 3), (-1, 99, LOW), (HIGH, HIGH, HIGH))
AND, OR, ALONE, ALIKE, WITHOUT, NOT, SHIFT, FILL, COPY, EXCHANGE = [
    (kind, 0, 0, 0) for kind in range(1, 11)]


def push(column, how=0, value=1):
    return (0, column, how, value)


def shift(by):
    return (7, 0, 0, by)


def table_of(n):
    """Eight columns of n numbers, each column another, with small numbers that meet often."""
    return [(row * (column + 3) + row // (column + 2)) % 9 - 4 for column in range(8) for row in range(n)]


def table_of_sets(n, sets):
    """A table whose column k has 1 in the rows of sets[k] and 0 in the others."""
    sets = list(sets) + [set()] * (8 - len(sets))
    return [1 if row in rows else 0 for rows in sets for row in range(n)]


def run_over(rows, kind, by, n, stack):
    """What a step leaves, over Python's own sets, or None if it can't be; a push brings its rows along."""
    takes = {0: 0, 6: 1, 7: 1, 9: 1}.get(kind, 2)
    if not 0 <= kind <= 10 or len(stack) < takes:
        return None
    taken, rest = stack[len(stack) - takes:], stack[:len(stack) - takes]
    every = set(range(n))
    if kind == 0:
        left = [rows]
    elif kind == 6:
        left = [every - taken[0]]
    elif kind == 7:
        left = [{row + by for row in taken[0]} & every]
    elif kind == 8:
        left = [{row for row in taken[1] if lies_behind(row, *taken)}]
    elif kind == 9:
        left = [taken[0], taken[0]]
    elif kind == 10:
        left = [taken[1], taken[0]]
    else:
        a, b = taken
        left = [(a & b, a | b, a ^ b, every - (a ^ b), a - b)[kind - 1]]
    stack = rest + left
    return stack if len(stack) <= 16 else None


def lies_behind(row, a, on):
    while row in on:
        if row in a:
            return True
        row -= 1
    return False


def expected(n, table, steps):
    stack = []
    for kind, column, how, last in steps:
        rows = set()
        if kind == 0:
            if not (0 <= column <= 7 and 0 <= how <= 5):
                return [-2]
            rows = {row for row in range(n) if HOWS[how](table[column * n + row], last)}
        stack = run_over(rows, kind, last, n, stack)
        if stack is None:
            return [-2]
    return told(n, stack[0]) if len(stack) == 1 else [-2]


class Rules(Asking):
    def rules(self, n, table, steps):
        return self.ask("rules", n, len(steps), table, [number for step in steps for number in step])

    def compare(self, n, table, steps):
        self.assertEqual(self.rules(n, table, steps), expected(n, table, steps), (n, steps))

    def refused(self, steps, n=3):
        self.assertEqual(self.rules(n, table_of(n), steps), [-2], steps)


class Kinds(Rules):
    """Each kind by itself, with answers that are written out."""

    table = table_of_sets(6, [{0, 1, 2}, {2, 3}, {0, 2, 4}, {1, 2, 3, 5}])

    def answers(self, wanted, *steps):
        rows = self.rules(6, self.table, steps)
        self.assertEqual(rows, [bin(wanted).count("1"), wanted], steps)

    def test_push(self):
        self.answers(0b000111, push(0))
        self.answers(0b001100, push(1))
        self.answers(0b101110, push(3))
        self.answers(0b000000, push(7))
        self.answers(0b111000, push(0, 0, 0))

    def test_push_with_each_how(self):
        table = [1, 2, 3, 2, HIGH, LOW] + [0] * 42
        wanted = (0b001010, 0b110101, 0b100001, 0b101011, 0b010100, 0b011110)
        for how in range(6):
            self.assertEqual(self.rules(6, table, [push(0, how, 2)])[1], wanted[how], how)

    def test_two_become_one(self):
        self.answers(0b000100, push(0), push(1), AND)
        self.answers(0b001111, push(0), push(1), OR)
        self.answers(0b001011, push(0), push(1), ALONE)
        self.answers(0b110100, push(0), push(1), ALIKE)
        self.answers(0b000011, push(0), push(1), WITHOUT)
        self.answers(0b001000, push(1), push(0), WITHOUT)

    def test_not(self):
        self.answers(0b111000, push(0), NOT)
        self.answers(0b000111, push(0), NOT, NOT)

    def test_shift(self):
        self.answers(0b001110, push(0), shift(1))
        self.answers(0b000011, push(0), shift(-1))
        self.answers(0b000111, push(0), shift(0))
        self.answers(0b111000, push(0), shift(3))
        self.answers(0b100000, push(0), shift(5))
        self.answers(0b000001, push(0), shift(-2))
        for by in (6, -6, 64, -64, HIGH, LOW):
            self.answers(0, push(0), shift(by))

    def test_fill(self):
        self.answers(0b001100, push(2), push(3), FILL)    # from row 2 on rows 1, 2, 3, 5
        self.answers(0b010101, push(3), push(2), FILL, push(2), OR)
        self.answers(0b000100, push(3), push(2), FILL)
        self.answers(0b001110, push(0), push(3), FILL)

    def test_copy(self):
        self.answers(0b000111, push(0), COPY, AND)
        self.answers(0b000000, push(0), COPY, ALONE)
        self.answers(0b001111, push(0), COPY, shift(1), OR)

    def test_exchange(self):
        self.answers(0b001000, push(0), push(1), EXCHANGE, WITHOUT)
        self.answers(0b000011, push(1), push(0), EXCHANGE, WITHOUT)

    def test_only_the_uppermost_are_touched(self):
        self.answers(0b001100, push(1), push(0), push(2), AND, NOT, shift(9), COPY, EXCHANGE, OR, OR)
        self.answers(0b000111, push(0), push(3), push(3), FILL, push(3), WITHOUT, OR)
        self.answers(0b001100, push(1), push(2), push(0), EXCHANGE, shift(9), shift(9), AND, OR)


class Programs(Rules):
    def test_each_column_and_each_how(self):
        for n in ROWS:
            for column in range(8):
                for how in range(6):
                    for value in (0, 3) if n > 128 else (0, 1, -4, 4, HIGH, LOW):
                        self.compare(n, table_of(n), [push(column, how, value)])

    def test_numbers_at_both_edges(self):
        table = [(LOW, HIGH, 0, LOW + 1, HIGH - 1)[row % 5] for row in range(8 * 70)]
        for how in range(6):
            for value in (LOW, HIGH, LOW + 1, HIGH - 1):
                self.compare(70, table, [push(2, how, value)])

    def test_each_kind_at_each_number_of_rows(self):
        for n in ROWS:
            for kind in range(1, 11):
                for by in (0, 1, -1, 64, -65, n - 1, n, -n):
                    steps = [push(0, 2, 2), push(5, 3, 1), (kind, 0, 0, by if kind == 7 else 0)]
                    end = [] if kind in (1, 2, 3, 4, 5, 8) else [WITHOUT] * (2 if kind == 9 else 1)
                    self.compare(n, table_of(n), steps + end)

    def test_not_has_no_rows_from_n_on(self):
        for n in (1, 63, 65, 127, 129):
            table = [0] * (8 * n)
            self.assertEqual(self.rules(n, table, [push(0), NOT]), told(n, set(range(n))))
            self.assertEqual(self.rules(n, table, [push(0), NOT, shift(1), shift(-1)]), told(n, set(range(n - 1))))
            self.assertEqual(self.rules(n, table, [push(0), push(1), ALIKE, shift(-1)]), told(n, set(range(n - 1))))

    def test_shifts_far_beyond(self):
        for n in (1, 64, 65, 128):
            for by in (LOW, LOW + 1, -4097, -4096, -n - 1, -n, n, n + 1, 4096, 4097, HIGH - 1, HIGH):
                self.assertEqual(self.rules(n, [1] * (8 * n), [push(0), shift(by)]), told(n, set()))
            for by in (-n + 1, n - 1):
                self.compare(n, [1] * (8 * n), [push(0), shift(by)])

    def test_fill_across_the_edges_of_words(self):
        table = table_of_sets(192, [{62}, set(range(192)) - {140}])
        self.assertEqual(self.rules(192, table, [push(0), push(1), FILL]), told(192, set(range(62, 140))))
        self.assertEqual(self.rules(192, table, [push(1), push(0), FILL]), told(192, {62}))

    def test_numbers_that_are_not_named_may_be_anything(self):
        for more in ANYTHING:
            for kind in (1, 2, 3, 4, 5, 8):
                self.assertEqual(self.rules(70, table_of(70), [push(0, 2, 2), push(5, 3, 1), (kind,) + more]),
                                 expected(70, table_of(70), [push(0, 2, 2), push(5, 3, 1), (kind, 0, 0, 0)]))
            for kind in (6, 9, 10):
                start = [push(0, 2, 2), push(5, 3, 1)]
                end = [WITHOUT] * (2 if kind == 9 else 1)
                self.assertEqual(self.rules(70, table_of(70), start + [(kind,) + more] + end),
                                 expected(70, table_of(70), start + [(kind, 0, 0, 0)] + end))
            for by in (3, -3):
                self.assertEqual(self.rules(70, table_of(70), [push(0, 2, 2), (7,) + more[:2] + (by,)]),
                                 expected(70, table_of(70), [push(0, 2, 2), shift(by)]))

    def test_many_programs(self):
        """Programs drawn by a fixed row of numbers; most of them come to one set, some can't be."""
        state, whole = 12345, 0
        for turn in range(1000):
            n = (5, 64, 65, 130)[turn % 4]
            steps, height = [], 0
            while len(steps) < 12 or 1 < height and len(steps) < 64:
                state = state * 6364136223846793005 + 1442695040888963407 & FULL
                draw = state >> 33
                kind = draw % 11
                if height < 2 and draw // 4752 % 100:
                    kind = (0, 6, 7, 9)[kind % 4] if height else 0
                steps.append((kind, draw // 11 % 8, draw // 88 % 6, draw // 528 % 9 - 4))
                height += (1, -1, -1, -1, -1, -1, 0, 0, -1, 1, 0)[kind]
            self.compare(n, table_of(n), steps)
            whole += expected(n, table_of(n), steps) != [-2]
        self.assertGreater(whole, 700)
        self.assertLess(whole, 990)


class Refusals(Rules):
    def test_sixteen_sets_can_be(self):
        for more in (push(0), COPY):
            steps = [push(0)] + [more] * 15 + [OR] * 15
            self.compare(65, table_of(65), steps)
            self.assertNotEqual(self.rules(65, table_of(65), steps), [-2])

    def test_a_seventeenth_can_not(self):
        for first in (push(0), COPY):
            for more in (push(0), COPY):
                self.refused([push(0)] + [first] * 15 + [more] + [OR] * 16)

    def test_sixteen_sets_can_be_changed(self):
        full = [push(0)] + [COPY] * 15
        for kind in (1, 2, 3, 4, 5, 6, 7, 8, 10):
            ors = 14 if kind in (1, 2, 3, 4, 5, 8) else 15
            steps = full + [(kind, 0, 0, 1)] + [OR] * ors
            self.compare(65, table_of(65), steps)
            self.assertNotEqual(self.rules(65, table_of(65), steps), [-2])

    def test_too_few_sets(self):
        for n in (0, 3):
            for kind in range(1, 11):
                self.refused([(kind, 0, 0, 0)], n)
                self.refused([(kind, 0, 0, 0), push(0)], n)
            for kind in (1, 2, 3, 4, 5, 8, 10):
                self.refused([push(0), (kind, 0, 0, 0)], n)
                self.refused([push(0), (kind, 0, 0, 0), push(0)], n)
                self.refused([push(0), push(0), OR, (kind, 0, 0, 0), push(0), AND], n)

    def test_other_kinds(self):
        for n in (0, 3):
            for kind in (-1, 11, -2, 12, 255, 256, LOW, HIGH):
                self.refused([(kind, 0, 0, 0)], n)
                self.refused([push(0), (kind, 0, 0, 0)], n)
                self.refused([push(0), push(0), (kind, 0, 0, 0)], n)
                self.refused([push(0), push(0), push(0), (kind, 0, 0, 0), OR], n)

    def test_other_columns_and_hows(self):
        for n in (0, 3):
            for column in (-1, 8, -8, LOW, HIGH):
                self.refused([push(column)], n)
            for how in (-1, 6, LOW, HIGH):
                self.refused([push(0, how)], n)

    def test_no_set_and_more_than_one_in_the_end(self):
        for n in (0, 3):
            self.refused([], n)
            self.refused([push(0), push(1)], n)
            self.refused([push(0), COPY], n)
            self.refused([push(0), push(1), push(2), OR], n)
            self.refused([push(0)] * 16, n)

    def test_count_at_its_edges(self):
        for n in (0, 1, 65):
            self.check([-2], "rules", n, 0, table_of(n), [])
            self.compare(n, table_of(n), [push(0, 2, 2)])
            for steps in ([push(0, 2, 2)] + [NOT] * 63, [push(0, 2, 2)] + [NOT] * 62,
                          [push(0, 2, 2)] + [shift(1)] * 63):
                self.compare(n, table_of(n), steps)
                self.assertNotEqual(self.rules(n, table_of(n), steps), [-2])

    def test_count_refused(self):
        for n in ROWS:
            for count in REFUSED_COUNT:
                self.check([-2], "rules", n, count, [], [])

    def test_n_refused(self):
        for n in REFUSED_N:
            for count in REFUSED_COUNT:
                self.check([-1], "rules", n, count, [], [])
            # Without a table, whether the steps are handed in or not.
            self.check([-1], "rules", n, 0, [], [])
            self.check([-1], "rules", n, 1, [], list(push(0)))
            self.check([-1], "rules", n, 1, [], list(OR))
            self.check([-1], "rules", n, 1, [], [])

    def test_no_rows(self):
        self.check([0], "rules", 0, 1, [], list(push(7, 5, HIGH)))
        self.check([0], "rules", 0, 2, [], list(push(0) + NOT))


if __name__ == "__main__":
    unittest.main()
