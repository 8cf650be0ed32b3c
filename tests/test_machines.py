"""[8] to [11]: machines."""

import itertools
import random
import unittest

from wordquarry.errors import TooMany
from wordquarry.machines import (Machine, all_rows, machine_of, machine_of_ways, no_rows, one_row)

LETTERS = ["a", "b", 7, "z"]


def rows_up_to(length, letters=LETTERS):
    for many in range(length + 1):
        yield from itertools.product(letters, repeat=many)


def drawn(pick, named=("a", "b", 7)):
    many = pick.randint(1, 6)
    rows = [[pick.randrange(many) for _ in range(len(named) + 1)] for _ in range(many)]
    return list(named), rows, [state for state in range(many) if pick.random() < 0.4]


def plainly(table, row):
    named, rows, good = table
    state = 0
    for letter in row:
        at = named.index(letter) if letter in named else len(named)
        state = rows[state][at]
    return state in good


def rests(table):
    """How many unlike sets of accepted rows the met states have, by plain refinement."""
    named, rows, good = table
    kinds = [state in good for state in range(len(rows))]
    for _ in range(len(rows)):
        kinds = [(kinds[state], tuple(kinds[to] for to in rows[state])) for state in range(len(rows))]
        numbers = {kind: at for at, kind in enumerate(dict.fromkeys(kinds))}
        kinds = [numbers[kind] for kind in kinds]
    met, queue = {0}, [0]
    while queue:
        for to in rows[queue.pop()]:
            if to not in met:
                met.add(to)
                queue.append(to)
    return len({kinds[state] for state in met})


class Tables(unittest.TestCase):

    def check_form(self, machine):
        order = [0]
        for state in order:
            for to in machine.rows[state]:
                if to not in order:
                    order.append(to)
        self.assertEqual(order, list(range(machine.states)))
        self.assertEqual(machine.good, tuple(sorted(set(machine.good))))
        self.assertIsInstance(machine.rows, tuple)
        for row in machine.rows:
            self.assertIsInstance(row, tuple)
            self.assertEqual(len(row), len(machine.named) + 1)
        for at in range(len(machine.named)):
            self.assertTrue(any(row[at] != row[-1] for row in machine.rows))

    def test_told_tables(self):
        pick = random.Random(5)
        for _ in range(150):
            table = drawn(pick)
            machine = Machine(*table)
            self.check_form(machine)
            self.assertEqual(machine.states, rests(table))
            self.assertEqual(list(machine.named), [one for one in table[0] if one in machine.named])
            for row in rows_up_to(4):
                self.assertEqual(machine.accepts(row), plainly(table, row))
            self.assertIs(machine.is_empty(), len(machine.good) == 0)
            for state in range(machine.states):
                self.assertIs(machine.is_live(state), self.live(machine, state))

    def live(self, machine, state):
        met, queue = {state}, [state]
        while queue:
            for to in machine.rows[queue.pop()]:
                if to not in met:
                    met.add(to)
                    queue.append(to)
        return any(one in machine.good for one in met)

    def test_text_of_letters(self):
        machine = Machine("ab", [[1, 0, 0], [1, 1, 1]], [1])
        self.assertEqual(machine.named, ("a",))
        self.assertEqual(machine.rows, ((1, 0), (1, 1)))
        self.assertEqual((machine.after(0, "a"), machine.after(0, None), machine.after(0, "x")), (1, 0, 0))
        self.assertEqual((machine.reached("ba"), machine.reached(["b"]), machine.reached(())), (1, 0, 0))
        self.assertTrue(machine.is_good(1) and not machine.is_good(0))

    def test_copies(self):
        rows = [[0, 1], [1, 1]]
        good = [1]
        machine = Machine(["a"], rows, good)
        rows[0][0] = 1
        good.append(0)
        self.assertFalse(machine.accepts("a"))

    def test_operators(self):
        pick = random.Random(6)
        for _ in range(60):
            one, two = drawn(pick, ("a", "b")), drawn(pick, ("b", 7))
            left, right = Machine(*one), Machine(*two)
            both, some, less, none = left & right, left | right, left - right, ~left
            for machine in (both, some, less, none):
                self.check_form(machine)
            inside = True
            for row in rows_up_to(5, ["a", "b", 7, None]):
                x, y = plainly(one, row), plainly(two, row)
                self.assertEqual([m.accepts(row) for m in (both, some, less, none)],
                                 [x and y, x or y, x and not y, not x])
            self.assertEqual(left.within(right), less.is_empty())
            self.assertEqual(left == right, (left - right).is_empty() and (right - left).is_empty())
            order = list(left.named) + [one for one in right.named if one not in left.named]
            for machine in (both, some, less):
                self.assertEqual(list(machine.named), [one for one in order if one in machine.named])
            self.assertTrue(left == ~~left and left.within(left) and left.within(left | right))
        self.assertFalse(all_rows() == "all" or all_rows() == None)
        self.assertTrue(all_rows() != no_rows())

    def test_equal_with_other_letters(self):
        self.assertTrue(Machine("ab", [[1, 2, 2], [1, 1, 1], [2, 2, 2]], [1])
                        == Machine("ba", [[2, 1, 2], [1, 1, 1], [2, 2, 2]], [1]))

    def test_least_row(self):
        pick = random.Random(7)
        for _ in range(100):
            machine = Machine(*drawn(pick))
            for order in (None, ["b", None], [7, "z", "a"], ["a"], []):
                letters = list(machine.named) + [None] if order is None else order
                told = [row for row in rows_up_to(6, letters) if machine.accepts(row)][:1]
                found = machine.least_row() if order is None else machine.least_row(order)
                self.assertEqual(found, told[0] if told else None)
        self.assertEqual(all_rows().least_row(), ())

    def test_rows_many(self):
        pick = random.Random(8)
        for _ in range(60):
            machine = Machine(*drawn(pick))
            others = pick.randint(0, 2)
            letters = list(machine.named) + ["x", "y"][:others]
            for length in range(4):
                many = sum(machine.accepts(row) for row in itertools.product(letters, repeat=length))
                self.assertEqual(machine.rows_many(length, others), many)
        self.assertEqual(all_rows().rows_many(100, 3), 3 ** 100)


class Makers(unittest.TestCase):

    def test_plain_ones(self):
        self.assertEqual((all_rows().named, all_rows().states), ((), 1))
        self.assertEqual((no_rows().named, no_rows().states), ((), 1))
        self.assertTrue(all_rows().accepts("abc") and not no_rows().accepts(""))
        for row in ("", "aab", ("x", "y"), [3, 3, 3]):
            machine = one_row(row)
            self.assertEqual(machine.states, len(row) + 2)
            self.assertEqual(machine.named, tuple(dict.fromkeys(row)))
            self.assertTrue(machine.accepts(row) and not machine.accepts(list(row) + ["q"]))
            self.assertEqual(machine.rows_many(len(row), 5), 1)

    def test_machine_of(self):
        def step(state, letter):
            return (state * 2 + (1 if letter == "i" else 0)) % 5
        machine = machine_of(0, step, lambda state: state == 0, ["o", "i"])
        self.assertEqual(machine.named, ("i",))
        for row in rows_up_to(6, "io"):
            number = int("0" + "".join("1" if one == "i" else "0" for one in row), 2)
            self.assertEqual(machine.accepts(row), number % 5 == 0)

    def test_machine_of_ways(self):
        pick = random.Random(9)
        for _ in range(60):
            table = {(state, letter): [to for to in range(4) if pick.random() < 0.3]
                     for state in range(4) for letter in ("a", "b", None)}
            firsts = [state for state in range(4) if pick.random() < 0.4]
            machine = machine_of_ways(firsts, lambda s, l: table[s, l], lambda s: s == 3, "ab")
            for row in rows_up_to(4, "abx"):
                lot = set(firsts)
                for letter in row:
                    key = letter if letter in "ab" else None
                    lot = {to for state in lot for to in table[state, key]}
                self.assertEqual(machine.accepts(row), 3 in lot)
        self.assertTrue(machine_of_ways([], lambda s, l: [], lambda s: True, "a").is_empty())

    def too_many(self, deed):
        with self.assertRaises(TooMany) as held:
            deed()
        error = held.exception
        self.assertEqual((error.what, error.many, error.limit), ("states", 20001, 20000))

    def test_bounds(self):
        def ring(many):
            return machine_of(0, lambda s, l: (s + 1) % many, lambda s: s == 0, "a")
        self.assertEqual(ring(20000).states, 20000)
        self.too_many(lambda: ring(20001))
        self.assertEqual(one_row("a" * 19998).states, 20000)
        self.too_many(lambda: one_row("a" * 19999))
        ways = lambda many: machine_of_ways([0], lambda s, l: [(s + 1) % many], lambda s: s == 0, "")
        self.assertEqual(ways(20000).states, 20000)
        self.too_many(lambda: ways(20001))

    def test_bounds_of_pairs(self):
        def ring(many):
            return Machine("", [[(state + 1) % many] for state in range(many)], [0])
        fine, further = (ring(160), ring(125)), (ring(201), ring(100))
        for one, two, is_fine in (fine + (True,), further + (False,)):
            deeds = (lambda: one & two, lambda: one | two, lambda: one - two,
                     lambda: one.within(two), lambda: one == two)
            for deed in deeds:
                if is_fine:
                    deed()
                else:
                    self.too_many(deed)
        self.assertEqual(ring(30000).states, 30000)
        self.too_many(lambda: ring(30000) == ring(30000))


if __name__ == "__main__":
    unittest.main()
