"""Copies and equality of values of any kind."""

import unittest

from fourwalls.books import Book
from fourwalls.values import copied, listed, same
from samples import any_values


class Values(unittest.TestCase):
    def test_copies_are_equal_and_lists_in_them_new(self):
        for value in any_values():
            self.assertTrue(same(copied(value), value))
        value = [[1], ([2], [[3]])]
        copy = copied(value)
        value[0].append(0)
        value[1][0].append(0)
        value[1][1][0].append(0)
        self.assertEqual(copy, [[1], ([2], [[3]])])

    def test_lists_and_tuples_become_lists(self):
        self.assertEqual([listed([1]), listed((1, [2])), listed(5), listed("ab")], [[1], [1, [2]], 5, "ab"])
        self.assertIsNone(listed(None))

    def test_true_is_not_one(self):
        for one, other in ((True, 1), (False, 0), (1, True), ([True], [1]), ((0,), (False,)), ([(1, [0])], [(1, [False])]),
                           ([1], (1,)), ([1], [1, 1]), (True, False), (None, False), ("1", 1), ([], None)):
            self.assertIs(same(one, other), False)
        for one in (True, False, 0, 1, "a", [(1, [True])], Book("a", "A")):
            self.assertIs(same(one, copied(one)), True)


if __name__ == "__main__":
    unittest.main()
