"""[42] to [47]: posting lists, cursors, joins."""

import itertools
import random
import unittest

from wordquarry.bytesrows import Writer
from wordquarry.cursors import Cursor
from wordquarry.errors import BadBytes, BadLength, BadNumber, BadRows, NoBlock, NoPlace, TooMany
from wordquarry.joins import all_of, any_of, at_least, barred, numbers_left
from wordquarry.layouts import Layout, plain_layout
from wordquarry.pairs import best_pairs
from wordquarry.postings import PostingList, postinglist_of

WRONG_ROWS = (None, 3, "ab", (), (1,), (1, (2,), 3), (True, (1,)), ("1", (1,)), (-1, (1,)), (2 ** 24, (1,)),
              (1, ()), (1, None), (1, 5), (1, (1, 1)), (1, (2, 1)), (1, (-1,)), (1, (2 ** 20,)), (1, (True,)),
              (1, ("a",)), (1, tuple(range(1001))), {1: 2}, [1.0, (1,)])
WRONG_NUMBERS = (None, -1, True, False, "1", 1.0, (1,), [], {}, 2 ** 70)


def drawn_list(pick, top=40, rows=10, texts=("blocks of 1", "blocks of 2", "blocks of 3", "blocks of 8",
                                            "blocks free to 4\nexceptions 1 of 6 bits\nhead 2 bits")):
    numbers = sorted(pick.sample(range(top), pick.randint(0, min(rows, top))))
    told = [(number, tuple(sorted(pick.sample(range(30), pick.randint(1, 5))))) for number in numbers]
    lengths = {number: pick.randint(5, 40) for number in numbers}
    return PostingList(told, lengths, Layout(pick.choice(texts)))


class Lists(unittest.TestCase):

    def test_attributes(self):
        book = PostingList([[3, [1, 4]], (5, (0,)), (9, (7, 8, 9))], {3: 4, 5: 1, 9: 2 ** 20, 7: "x"})
        self.assertEqual(book.rows, ((3, (1, 4)), (5, (0,)), (9, (7, 8, 9))))
        self.assertEqual((book.numbers, book.steps, len(book)), ((3, 5, 9), (3, 1, 3), 3))
        self.assertEqual(book.layout, plain_layout())
        self.assertEqual(book.weight, plain_layout().total([3, 1, 3]))
        self.assertEqual((book.length_of(9), book.places_of(9)), (2 ** 20, (7, 8, 9)))
        self.assertTrue(5 in book)
        for value in WRONG_NUMBERS + (4, 6, 10):
            self.assertFalse(value in book)
            for ask in (book.length_of, book.places_of):
                with self.assertRaises(NoPlace) as held:
                    ask(value)
                self.assertIs(held.exception.place, value)

    def test_rows_that_are_wrong(self):
        for wrong in WRONG_ROWS:
            for index in range(3):
                rows = [(10, (1,)), (20, (1,)), (30, (1,))]
                rows[index] = wrong
                rows.append((5, (1,)))
                with self.assertRaises(BadRows) as held:
                    PostingList(rows, {})
                self.assertEqual(held.exception.index, index)
        for rows, index in (([(4, (1,)), (4, (2,))], 1), ([(4, (1,)), (3, (2,)), None], 1), (None, 0), (7, 0)):
            with self.assertRaises(BadRows) as held:
                PostingList(rows, {4: 1})
            self.assertEqual(held.exception.index, index)

    def test_lengths_that_are_wrong(self):
        rows = [(1, (1,)), (2, (1,)), (3, (1,))]
        for wrong in (None, 0, -1, True, "1", 2 ** 20 + 1, 1.0, (1,)):
            with self.assertRaises(BadLength) as held:
                PostingList(rows, {1: 5, 2: wrong, 3: wrong})
            self.assertEqual(held.exception.number, 2)
        with self.assertRaises(BadLength) as held:
            PostingList(rows, {1: 5, 3: 1})
        self.assertEqual(held.exception.number, 2)
        with self.assertRaises(BadRows):
            PostingList(rows + [(0, (1,))], {})

    def test_many_rows(self):
        rows = [(3 * at, (at,)) for at in range(5001)]
        lengths = {3 * at: 7 for at in range(5001)}
        self.assertEqual(len(PostingList(rows[:5000], lengths)), 5000)
        with self.assertRaises(TooMany) as held:
            PostingList(rows, {})
        self.assertEqual((held.exception.what, held.exception.many, held.exception.limit), ("rows", 5001, 5000))
        with self.assertRaises(TooMany):
            PostingList([None] * 5001, {})
        empty = PostingList((), {})
        self.assertEqual((empty.rows, empty.blocks, len(empty), empty.weight), ((), (), 0, 0))

    def test_equal(self):
        rows = [(1, (1,)), (2, (1, 5))]
        book = PostingList(rows, {1: 3, 2: 4, 9: 9})
        self.assertEqual(book, PostingList(tuple(rows), {1: 3, 2: 4}, Layout("blocks of 8\nhead 8 bits")))
        for other in (PostingList(rows, {1: 3, 2: 5}), PostingList(rows[:1], {1: 3, 2: 4}),
                      PostingList([(1, (1,)), (2, (1, 6))], {1: 3, 2: 4}),
                      PostingList(rows, {1: 3, 2: 4}, Layout("blocks free to 8")), None, rows):
            self.assertFalse(book == other)

    def test_handed_in_rows_are_copied(self):
        rows = [[1, [2, 3]], [4, [5]]]
        lengths = {1: 6, 4: 7}
        book = PostingList(rows, lengths)
        rows[0][1].append(9)
        rows.pop()
        lengths[1] = 1
        self.assertEqual((book.rows, book.length_of(1)), (((1, (2, 3)), (4, (5,))), 6))

    def test_blocks(self):
        pick = random.Random(1)
        for _ in range(80):
            book = drawn_list(pick)
            cuts = book.layout.cuts(book.steps)
            self.assertEqual(tuple(block.many for block in book.blocks), cuts)
            begin = 0
            for index, block in enumerate(book.blocks):
                rows = book.rows[begin:begin + block.many]
                self.assertEqual(book.block_rows(index), rows)
                self.assertEqual((block.first, block.last), (rows[0][0], rows[-1][0]))
                told = book.layout.block_weight(book.steps[begin:begin + block.many])
                self.assertEqual((block.weight, block.exceptions, block.width), told)
                self.assertEqual(block.pairs, best_pairs([(len(row[1]), book.length_of(row[0])) for row in rows]))
                begin += block.many
            for number in range(45):
                wanted = [index for index, block in enumerate(book.blocks) if block.last >= number]
                self.assertEqual(book.block_of(number), wanted[0] if wanted else None)
            for value in WRONG_NUMBERS + (len(book.blocks),):
                if value is not None:
                    with self.assertRaises(NoBlock) as held:
                        book.block_rows(value)
                    self.assertIs(held.exception.index, value)

    def test_told(self):
        pick = random.Random(2)
        seen = {}
        for _ in range(150):
            book = drawn_list(pick, 12, 3)
            self.assertTrue(all(type(byte) is int and 0 <= byte < 256 for byte in book.told))
            other = postinglist_of(list(book.told))
            self.assertEqual((other, other.told, other.rows, other.lengths), (book, book.told, book.rows, book.lengths))
            self.assertEqual(seen.setdefault(book.told, book), book)
            self.check_wrong_rows(pick, book.told)
        rows = [(2 ** 24 - 9 + at, tuple(range(at, 2 ** 20, 2 ** 18 - 1))) for at in range(9)]
        book = PostingList(rows, {row[0]: 2 ** 20 - row[0] + 2 ** 24 - 9 for row in rows}, Layout("blocks of 2"))
        self.assertEqual(postinglist_of(book.told), book)
        long = PostingList([(5, tuple(range(1000)))], {5: 2 ** 20})
        self.assertEqual(postinglist_of(long.told), long)

    def test_told_numbers_that_are_too_great(self):
        def told(numbers):
            writer = Writer()
            for number in numbers:
                writer.whole(number)
            return writer.all_bytes()

        head = (0, 8, 0, 0, 8)
        for numbers, is_right in (
                ((1, 2 ** 24 - 1, 2 ** 20 - 1, 0, 2 ** 20 - 1), True), ((1, 2 ** 24, 0, 0, 0), False),
                ((1, 0, 2 ** 20, 0, 0), False), ((1, 0, 0, 0, 2 ** 20), False), ((1, 0, 0, 1, 5, 2 ** 20 - 7), True),
                ((1, 0, 0, 1, 5, 2 ** 20 - 6), False), ((1, 0, 0, 1000) + (0,) * 1001, False), ((1, 0, 0, 999) + (0,) * 1000, True),
                ((2, 5, 0, 0, 0, 2 ** 24 - 7, 0, 0, 0), True), ((2, 5, 0, 0, 0, 2 ** 24 - 6, 0, 0, 0), False),
                ((5001,) + (0, 0, 0, 0) * 5001, False), ((5000,) + (0, 0, 0, 0) * 5000, True), ((0,), True), ((0, 0), False)):
            row = head + told(numbers)
            if is_right:
                self.assertEqual(postinglist_of(row).told, row)
            else:
                with self.assertRaises(BadBytes):
                    postinglist_of(row)
        for wrong in ((2, 8, 0, 0, 8), (0, 0, 0, 0, 8), (0, 17, 0, 0, 8), (0, 8, 5, 1, 8), (0, 8, 1, 25, 8), (0, 8, 0, 1, 8),
                      (0, 8, 1, 0, 8), (0, 8, 0, 0, 65)):
            with self.assertRaises(BadBytes):
                postinglist_of(wrong + (0,))
        for right in ((1, 16, 4, 24, 64), (0, 1, 1, 1, 0)):
            self.assertEqual(postinglist_of(right + (0,)).told, right + (0,))

    def check_wrong_rows(self, pick, row):
        for at in range(len(row)):
            for wrong in (row[:at], row[:at] + row[at + 1:], row[:at] + (row[at],) + row[at:],
                          row[:at] + (pick.randrange(256),) + row[at + 1:], row[:at] + (row[at] ^ 1,) + row[at + 1:],
                          row + (pick.randrange(256),)):
                try:
                    self.assertEqual(postinglist_of(wrong).told, wrong)
                except BadBytes:
                    pass


class PlainCursor:
    """A row of numbers gone through; which blocks were read is worked out anew."""

    def __init__(self, book):
        self.book = book
        self.at = 0
        self.stood = {0}

    def go_on(self):
        self.at = min(self.at + 1, len(self.book))
        self.stood.add(self.at)

    def advance(self, to):
        while self.at < len(self.book) and self.book.numbers[self.at] < to:
            self.at += 1
        self.stood.add(self.at)

    def looked(self):
        numbers = [self.book.numbers[at] for at in self.stood if at < len(self.book)]
        return tuple(sorted({self.book.block_of(number) for number in numbers}))


class Cursors(unittest.TestCase):

    def check(self, cursor, plain):
        row = plain.book.rows[plain.at] if plain.at < len(plain.book) else (None, None)
        long = None if row[0] is None else plain.book.length_of(row[0])
        self.assertEqual((cursor.number, cursor.places, cursor.long), (row[0], row[1], long))
        self.assertEqual(cursor.looked, plain.looked())

    def test_moves(self):
        pick = random.Random(3)
        for _ in range(150):
            book = drawn_list(pick)
            two = [(Cursor(book), PlainCursor(book)) for _ in range(2)]
            for _ in range(15):
                cursor, plain = pick.choice(two)
                self.check(cursor, plain)
                if pick.random() < 0.4:
                    self.assertIsNone(cursor.go_on())
                    plain.go_on()
                else:
                    to = pick.choice([pick.randrange(45), cursor.number or 0, 10 ** 50 if pick.random() < 0.1 else 3])
                    self.assertIsNone(cursor.advance(to))
                    plain.advance(to)
                self.check(cursor, plain)

    def test_wrong_targets(self):
        for rows in ([], [(3, (1,))]):
            cursor = Cursor(PostingList(rows, {3: 1}))
            joins = [all_of([cursor]), any_of([Cursor(PostingList(rows, {3: 1}))]), at_least(1, []),
                     barred(Cursor(PostingList(rows, {3: 1})), any_of([])), all_of([])]
            for mover in [cursor] + joins:
                for value in (None, -1, True, "1", 1.0, (1,)):
                    with self.assertRaises(BadNumber) as held:
                        mover.advance(value)
                    self.assertEqual((held.exception.what, held.exception.number), ("to", value))


class Joins(unittest.TestCase):

    def tree(self, pick, depth):
        """A join, and the plain list of its numbers."""
        if depth == 0 or pick.random() < 0.2:
            book = drawn_list(pick, 14, 10)
            cursor = Cursor(book)
            numbers = list(book.numbers)
        else:
            below = [self.tree(pick, depth - 1) for _ in range(pick.randint(0, 4))]
            kind = pick.randrange(4)
            if kind == 3:
                below = (below + [self.tree(pick, 0), self.tree(pick, 0)])[:2]
            rows = [row for _, row in below]
            movers = [mover for mover, _ in below]
            all_numbers = sorted({number for row in rows for number in row})
            many = {number: sum(number in row for row in rows) for number in all_numbers}
            if kind == 0:
                cursor, least = all_of(movers), max(len(rows), 1)
            elif kind == 1:
                cursor, least = any_of(tuple(movers)), 1
            elif kind == 2:
                least = pick.randint(1, 5)
                cursor = at_least(least, movers)
            if kind == 3:
                cursor = barred(*movers)
                numbers = [number for number in rows[0] if number not in rows[1]]
            else:
                numbers = [number for number in all_numbers if many[number] >= least]
        for _ in range(pick.choice((0, 0, 0, 1, 2))):
            numbers = self.move(pick, cursor, numbers)
        return cursor, numbers

    def move(self, pick, cursor, numbers):
        if pick.random() < 0.5:
            self.assertIsNone(cursor.go_on())
            numbers = numbers[1:]
        else:
            to = pick.randrange(16)
            self.assertIsNone(cursor.advance(to))
            numbers = list(itertools.dropwhile(lambda number: number < to, numbers))
        self.assertEqual(cursor.number, numbers[0] if numbers else None)
        return numbers

    def test_trees(self):
        pick = random.Random(4)
        for _ in range(1200):
            cursor, numbers = self.tree(pick, 3)
            self.assertEqual(cursor.number, numbers[0] if numbers else None)
            while pick.random() < 0.7:
                numbers = self.move(pick, cursor, numbers)
            self.assertEqual(numbers_left(cursor), numbers)
            self.assertIsNone(cursor.number)
            cursor.go_on()
            cursor.advance(0)
            self.assertEqual(numbers_left(cursor), [])

    def test_wrong_m(self):
        for value in (0, -1, None, True, "1", 1.0):
            with self.assertRaises(BadNumber) as held:
                at_least(value, [])
            self.assertEqual((held.exception.what, held.exception.number), ("m", value))
        book = PostingList([(1, (1,))], {1: 1})
        self.assertIsNone(at_least(3, [Cursor(book), Cursor(book)]).number)
        self.assertEqual(at_least(2, [Cursor(book), Cursor(book)]).number, 1)

    def test_which_blocks_are_read(self):
        pick = random.Random(5)
        for _ in range(400):
            books = [drawn_list(pick, 60, 20) for _ in range(pick.randint(1, 4))]
            cursors = [Cursor(book) for book in books]
            numbers_left(all_of(cursors))
            for at in range(1, len(books)):
                others = [number for two in range(len(books)) if two != at for number in books[two].numbers]
                for index in cursors[at].looked:
                    low = books[at].blocks[index - 1].last if index > 0 else -1
                    high = books[at].blocks[index].last
                    self.assertTrue(index == 0 or any(low < number <= high for number in others))


if __name__ == "__main__":
    unittest.main()
