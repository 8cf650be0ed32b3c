"""[48]: phrases in papers, held against all placings."""

import itertools
import random
import unittest

from wordquarry.errors import BadNumber, TooMany
from wordquarry.phrases import anchors_of, near_rows
from wordquarry.placings import least_sum
from wordquarry.postings import PostingList


def drawn_lists(pick, many, top, papers=3):
    lists = []
    for _ in range(many):
        rows = [(number, tuple(sorted(pick.sample(range(top), pick.randint(1, min(top, 4))))))
                for number in range(papers) if pick.random() < 0.8]
        lists.append(PostingList(rows, {number: 9 for number in range(papers)}))
    return tuple(lists)


def plain_anchors(lists, groups, offsets, slop, number):
    """The anchors by going through all placings."""
    tokens = [[(place, index) for index in group if number in lists[index]
               for place in lists[index].places_of(number)] for group in groups]
    found = set()
    for row in itertools.product(*tokens):
        if row and len(set(row)) == len(row):
            if sum(abs(token[0] - row[0][0] - offset) for token, offset in zip(row, offsets)) <= slop:
                found.add(row[0])
    return len(found)


class Phrases(unittest.TestCase):

    def test_against_all_placings(self):
        pick = random.Random(1)
        for turn in range(1500):
            lists = drawn_lists(pick, pick.randint(1, 4), pick.choice((4, 6, 12)))
            many = pick.randint(0, 4)
            groups = tuple(tuple(pick.sample(range(len(lists)), pick.randint(0 if turn % 9 == 0 else 1, len(lists))))
                           for _ in range(many))
            offsets = tuple([0] + sorted(pick.sample(range(1, 7), many - 1)))[:many] if many else ()
            slop = pick.randint(0, 9)
            wanted = [(number, plain_anchors(lists, groups, offsets, slop, number)) for number in range(4)]
            self.assertEqual([(number, anchors_of(lists, groups, offsets, slop, number)) for number in range(4)], wanted)
            self.assertEqual(near_rows(list(lists), [list(group) for group in groups], list(offsets), slop),
                             [row for row in wanted if row[1] > 0])

    def test_one_word_many_times(self):
        for many in range(1, 9):
            book = PostingList([(0, tuple(range(0, 2 * many, 2))), (7, tuple(range(many)))], {0: 99, 7: 99})
            groups = ((0,),) * many
            offsets = tuple(range(many))
            self.assertEqual(near_rows((book,), groups, offsets, 0), [(0, 1), (7, 1)] if many == 1 else [(7, 1)])
            self.assertEqual(anchors_of((book,), groups, offsets, 10 ** 60, 7), many)
            self.assertEqual(anchors_of((book,), groups + ((0,),), offsets + (many,), 10 ** 60, 7) if many < 8 else 0, 0)

    def test_sums(self):
        pick = random.Random(2)
        for _ in range(400):
            offers = [sorted((pick.randint(0, 5), token) for token in pick.sample(range(5), pick.randint(0, 4)))
                      for _ in range(pick.randint(1, 4))]
            sums = [sum(cost for cost, _ in row) for row in itertools.product(*offers)
                    if len({token for _, token in row}) == len(row)]
            for most in range(12):
                told = [one for one in sums if one <= most]
                self.assertEqual(least_sum(offers, most), min(told) if told else None)

    def test_no_places(self):
        lists = drawn_lists(random.Random(3), 2, 5)
        self.assertEqual(near_rows(lists, (), (), 3), [])
        self.assertEqual(anchors_of(lists, (), (), 3, 0), 0)
        self.assertEqual(near_rows(lists, ((), (0,)), (0, 1), 3), [])
        self.assertEqual(near_rows(lists, ((0,), ()), (0, 1), 3), [])
        self.assertEqual(anchors_of(lists, ((0, 1),), (0,), 0, 99), 0)

    def test_errors_in_their_order(self):
        lists = drawn_lists(random.Random(4), 2, 5)
        for groups, offsets, slop, what, number in (
                (((0,),) * 9, None, -1, None, 9), (((0,), (7,)), None, -1, "groups", 7),
                (((0,), (1, -1)), None, -1, "groups", -1), (((0,), (True,)), None, -1, "groups", True),
                (((0,), (2,)), None, -1, "groups", 2), (((0,),), (1,), -1, "offsets", (1,)),
                (((0,), ("0", 9)), None, -1, "groups", "0"), (((0,), (1,)), None, -1, "offsets", None),
                (((0,), (1,)), (0,), -1, "offsets", (0,)), (((0,), (1,)), (0, 0), -1, "offsets", (0, 0)),
                (((0,), (1,)), (1, 2), -1, "offsets", (1, 2)), (((0,), (1,)), (0, True), -1, "offsets", (0, True)),
                (((0,), (1,)), (0, "1"), -1, "offsets", (0, "1")), (((0,), (1,)), 5, -1, "offsets", 5),
                ((), (0,), 0, "offsets", (0,)), (((0,), (1,)), (0, 1), -1, "slop", -1),
                (((0,), (1,)), (0, 1), True, "slop", True), (((0,), (1,)), (0, 1), None, "slop", None),
                (((0,), (1,)), (0, 1), "1", "slop", "1")):
            for call in (lambda: near_rows(lists, groups, offsets, slop),
                         lambda: anchors_of(lists, groups, offsets, slop, 0)):
                with self.assertRaises((TooMany, BadNumber)) as held:
                    call()
                error = held.exception
                if what is None:
                    self.assertEqual((error.what, error.many, error.limit), ("places", number, 8))
                else:
                    self.assertEqual((error.what, error.number), (what, number))
        self.assertEqual(anchors_of(lists, ((0,),) * 8, tuple(range(8)), 0, 0), 0)


if __name__ == "__main__":
    unittest.main()
