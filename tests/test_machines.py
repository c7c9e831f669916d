"""Machines: their tables, what they keep, and how they are put together."""

import itertools
import unittest

from fourwalls.machines import Machine
from samples import any_values, raised, told

TABLE = [(0, 1), (2, 1), (2, 0)]


def strings(faces, longest):
    """Return all strings of the faces up to a length."""
    return ["".join(text) for many in range(longest + 1) for text in itertools.product(faces, repeat=many)]


def ring(size, bad=(), faces="ab"):
    """Return a machine that counts the first face modulo its size."""
    return Machine(faces, [[(at + 1) % size] + [at] * (len(faces) - 1) for at in range(size)], bad)


def joined_pairs(one, other):
    """Return the pairs of states in the order that the document tells, and their table."""
    pairs = [(0, 0)]
    for left, right in pairs:
        for at in range(len(one.faces)):
            pair = (one.table()[left][at], other.table()[right][at])
            if pair not in pairs:
                pairs.append(pair)
    table = [tuple(pairs.index((one.table()[left][at], other.table()[right][at])) for at in range(len(one.faces)))
             for left, right in pairs]
    return pairs, table


class Making(unittest.TestCase):
    def test_rows_as_tuples_and_as_lists(self):
        for table in (TABLE, tuple(TABLE), [list(row) for row in TABLE], tuple([list(row) for row in TABLE])):
            for bad in ([0, 2], (0, 2)):
                machine = Machine("ab", table, bad)
                self.assertEqual((machine.faces, machine.size), ("ab", 3))
                self.assertEqual((machine.table(), machine.bad()), (TABLE, [0, 2]))

    def test_by_name_and_without_bad(self):
        self.assertEqual(Machine(table=TABLE, faces="ab"), Machine("ab", TABLE, []))
        self.assertEqual(Machine(bad=[1], table=TABLE, faces="ab"), Machine("ab", TABLE, (1,)))

    def test_1_and_200_states(self):
        self.assertEqual(Machine.MOST, 200)
        self.assertEqual(Machine("a", [(0,)], [0]).size, 1)
        whole = Machine("a", [(199,)] * 200, list(range(200)))
        self.assertEqual((whole.size, whole.bad()), (200, list(range(200))))

    def test_0_and_201_states(self):
        for table in ([], (), [(0,)] * 201, ((0,),) * 201, [None] * 201):
            self.assertEqual(told(raised(Machine, "a", table, None)), ("InvalidTable", {"at": -1}))

    def test_faces_ahead_of_table_ahead_of_bad(self):
        for value in any_values() + ["ba", "abcdefg", "AB"]:
            if value != "a":
                self.assertEqual(told(raised(Machine, value, None, None)), ("InvalidFaces", {"given": value}))
            if not isinstance(value, (list, tuple)):
                self.assertEqual(told(raised(Machine, "ab", value, None)), ("InvalidTable", {"at": -1}))
                self.assertEqual(told(raised(Machine, "ab", TABLE, value)), ("InvalidBad", {"at": -1}))

    def test_one_wrong_item_at_each_place(self):
        wrong = any_values() + [(0,), (0, 0, 0), [0, 8], (8, 0), (-1, 0), (0, -1), (True, 0), (0, False), "00", (0, None),
                                (0, "0"), ((0,), 0), ([0], 0), {}]
        for at in range(3):
            for value in wrong:
                table = TABLE[:at] + [value] + [(0, 0), value, value]
                self.assertEqual(told(raised(Machine, "ab", table, None)), ("InvalidTable", {"at": at}), value)
        for row, size in (((0, 3), 3), ((1, 0), 1), ((0, 2), 2)):
            table = [(0, 0)] * (size - 1) + [row]
            self.assertEqual(told(raised(Machine, "ab", table)), ("InvalidTable", {"at": size - 1}))

    def test_wrong_bad_states(self):
        for value in any_values() + [3, -1, [0]]:
            if isinstance(value, bool) or not isinstance(value, int) or not 0 <= value < 3:
                self.assertEqual(told(raised(Machine, "ab", TABLE, [value, 9])), ("InvalidBad", {"at": 0}))
                self.assertEqual(told(raised(Machine, "ab", TABLE, (0, 1, value, 2))), ("InvalidBad", {"at": 2}))
        for bad, at in ([(0, 0), 1], [(1, 0), 1], [(0, 2, 1), 2], [(0, 1, 2, 2), 3], [(2, 1, 0), 1]):
            self.assertEqual(told(raised(Machine, "ab", TABLE, bad)), ("InvalidBad", {"at": at}))

    def test_copies(self):
        table = [[0, 1], [1, 0]]
        bad = [1]
        machine = Machine("ab", table, bad)
        table[0][1] = 0
        table.append([0, 0])
        bad[0] = 0
        machine.table().append((0, 0))
        machine.bad().append(0)
        self.assertEqual((machine.table(), machine.bad(), machine.size), ([(0, 1), (1, 0)], [1], 2))


class Reading(unittest.TestCase):
    def test_call(self):
        machine = Machine("ab", TABLE, [2])
        self.assertEqual([machine(""), machine("b"), machine("ba"), machine("bab"), machine("aabb")], [0, 1, 2, 0, 1])
        self.assertEqual([machine("", 2), machine("b", 2), machine("a", state=1), machine(state=1, string="b")], [2, 0, 2, 1])
        self.assertEqual(ring(7)("ab" * 5000), 5000 % 7)

    def test_string_ahead_of_state(self):
        machine = Machine("ab", TABLE, [2])
        for value in any_values() + ["c", "abc", "a "]:
            if value not in ("", "a", "aaaa"):
                self.assertEqual(told(raised(machine, value, None)), ("InvalidString", {"given": value}))
            if isinstance(value, bool) or value not in (0, 1, 2):
                self.assertEqual(told(raised(machine, "a", value)), ("UnknownState", {"state": value}))
        self.assertEqual(told(raised(machine, "", 3)), ("UnknownState", {"state": 3}))

    def test_in(self):
        machine = Machine("ab", TABLE, [2])
        for text in strings("ab", 6):
            self.assertIs(text in machine, machine(text) != 2)
        for value in any_values() + ["c", "abc"]:
            self.assertIs(value in machine, value in ("", "a", "aaaa"))
        self.assertIs("" in Machine("ab", TABLE, [0]), False)
        self.assertIs([] in Machine("ab", TABLE), False)


class Signs(unittest.TestCase):
    def test_other_states_bad(self):
        self.assertEqual(~Machine("ab", TABLE, [0, 2]), Machine("ab", TABLE, [1]))
        self.assertEqual(~Machine("ab", TABLE), Machine("ab", TABLE, [0, 1, 2]))
        self.assertEqual(~~Machine("ab", TABLE, [1]), Machine("ab", TABLE, [1]))

    def test_both_and_one(self):
        pairs = [(Machine("ab", TABLE, [2]), ring(4, [1, 3])), (ring(4, [0]), Machine("ab", TABLE, [0, 1])),
                 (Machine.without("ab", "ab"), Machine.begins("ab", "aba")),
                 (Machine.counted("abc", "b", 3), Machine.without("abc", "cb")), (ring(2, [1]), ring(4, [2]))]
        for one, other in pairs:
            states, table = joined_pairs(one, other)
            both = [at for at, (left, right) in enumerate(states) if left in one.bad() or right in other.bad()]
            none = [at for at, (left, right) in enumerate(states) if left in one.bad() and right in other.bad()]
            self.assertEqual(((one & other).table(), (one & other).bad()), (table, both))
            self.assertEqual(((one | other).table(), (one | other).bad()), (table, none))
            for text in strings(one.faces, 6):
                self.assertEqual(text in one & other, text in one and text in other)
                self.assertEqual(text in one | other, text in one or text in other)

    def test_pairs_in_the_order_in_which_they_come(self):
        one = Machine("abc", [(2, 1, 0), (0, 0, 0), (2, 2, 1)], [1])
        other = Machine("abc", [(0, 1, 1), (1, 0, 0)], [1])
        # (0,0) leads to (2,0) (1,1) (0,1); (2,0) to (2,0) (2,1) (1,1); (1,1) to (0,1) (0,0) (0,0); and so on.
        self.assertEqual((one & other).table()[:3], [(1, 2, 3), (1, 4, 2), (3, 0, 0)])
        self.assertEqual((one & other).bad()[:3], [2, 3, 4])

    def test_one_state_and_the_machine_itself(self):
        every = Machine("ab", [(0, 0)])
        machine = Machine("ab", TABLE, [2])
        self.assertEqual([every & machine, machine & every, machine | machine, machine & machine], [machine] * 4)
        self.assertEqual((every | machine).bad(), [])

    def test_other_faces_ahead_of_too_many(self):
        big, small = ring(200), ring(200, faces="ac")
        for value in [small, ring(2, faces="abc"), ring(2, faces="a")] + any_values():
            self.assertEqual(told(raised(lambda: big & value)), ("OtherFaces", {}))
            self.assertEqual(told(raised(lambda: big | value)), ("OtherFaces", {}))

    def test_exactly_200_pairs_and_201(self):
        self.assertEqual((ring(8) & ring(25)).size, 200)
        self.assertEqual((ring(8) | ring(25)).size, 200)
        # 199 pairs of a tail, and two of a ring.
        tail = Machine("a", [(min(at + 1, 199),) for at in range(200)])
        self.assertEqual((tail & ring(1, faces="a")).size, 200)
        for one, other in ((tail, ring(2, faces="a")), (ring(3), ring(67)), (ring(200), ring(199))):
            self.assertEqual(told(raised(lambda: one & other)), ("TooMany", {"most": 200}))
            self.assertEqual(told(raised(lambda: one | other)), ("TooMany", {"most": 200}))
        # Only pairs that can be come to count.
        self.assertEqual((ring(200) & ring(200)).size, 200)

    def test_equal(self):
        machine = Machine("ab", TABLE, [2])
        self.assertTrue(machine == Machine("ab", [list(row) for row in TABLE], (2,)))
        self.assertFalse(machine != Machine("ab", TABLE, [2]))
        for other in (Machine("ac", TABLE, [2]), Machine("ab", TABLE, [1]), Machine("ab", TABLE),
                      Machine("ab", [(0, 1), (2, 1), (2, 1)], [2]), Machine("ab", TABLE + [(0, 0)], [2])):
            self.assertFalse(machine == other)
            self.assertTrue(machine != other)
        for value in any_values() + [TABLE]:
            self.assertEqual(machine == value, False)

    def test_repr(self):
        self.assertEqual([repr(ring(1)), repr(ring(3))], ["Machine(1 states)", "Machine(3 states)"])


class Ready(unittest.TestCase):
    TEXTS = ("a", "b", "ab", "aa", "aab", "aba", "abab", "aabaa", "abaab")

    def test_without(self):
        for text in self.TEXTS:
            machine = Machine.without("ab", text)
            self.assertLessEqual(machine.size, len(text) + 2)
            for string in strings("ab", 8):
                self.assertEqual(string in machine, text not in string, (text, string))

    def test_begins(self):
        for text in self.TEXTS:
            machine = Machine.begins("ab", text)
            self.assertLessEqual(machine.size, len(text) + 2)
            for string in strings("ab", 8):
                self.assertEqual(string in machine, string.startswith(text), (text, string))

    def test_longest_texts(self):
        for text in ("a" * 16, "ab" * 8, "aab" * 5 + "c"):
            for make in (Machine.without, Machine.begins):
                self.assertLessEqual(make("abc", text).size, 18)
            self.assertNotIn("ca" + text + "a", Machine.without("abc", text))
            self.assertNotIn(text[:3] + text, Machine.without("abc", text))
            self.assertIn(text[:15], Machine.without("abc", text))
            self.assertIn(text + "a", Machine.begins("abc", text))
            self.assertNotIn("c" + text, Machine.begins("abc", text))

    def test_wrong_texts(self):
        for make in (Machine.without, Machine.begins):
            for value in any_values() + ["a" * 17, "ca", "c", ""]:
                if value not in ("a", "c"):
                    self.assertEqual(told(raised(make, value, None)), ("InvalidFaces", {"given": value}))
                if value not in ("a", "aaaa"):
                    self.assertEqual(told(raised(make, "ab", value)), ("InvalidString", {"given": value}))
            self.assertEqual(make(text="ab", faces="ab"), make("ab", "ab"))

    def test_counted(self):
        for modulus in range(2, 9):
            for rest in range(modulus):
                machine = Machine.counted("abc", "b", modulus, rest=rest)
                self.assertLessEqual(machine.size, modulus + 2)
                for string in ["", "acca", "bb", "cbab"] + ["ab" * many for many in range(20)]:
                    self.assertEqual(string in machine, string.count("b") % modulus == rest)
        self.assertIn("bb", Machine.counted("ab", "b", 2))
        self.assertNotIn("b", Machine.counted(modulus=2, face="b", faces="ab"))

    def test_counted_wrong(self):
        for value in any_values() + ["ba", "C", 9]:
            if value != "a":
                self.assertEqual(told(raised(Machine.counted, value, None, None)), ("InvalidFaces", {"given": value}))
                self.assertEqual(told(raised(Machine.counted, "ab", value, None)), ("InvalidFace", {"given": value}))
            if isinstance(value, bool) or value != 2:
                error = raised(Machine.counted, "ab", "a", value, rest=None)
                self.assertEqual(told(error), ("InvalidModulus", {"given": value}))
            if isinstance(value, bool) or value not in (0, 1, 2):
                error = raised(Machine.counted, "ab", "a", 3, rest=value)
                self.assertEqual(told(error), ("InvalidRest", {"given": value}))
        for face in ("ab", "c"):
            self.assertEqual(told(raised(Machine.counted, "ab", face, None)), ("InvalidFace", {"given": face}))
        self.assertEqual(told(raised(Machine.counted, "ab", "a", 8, rest=8)), ("InvalidRest", {"given": 8}))
        with self.assertRaises(TypeError):
            Machine.counted("ab", "a", 3, 1)


if __name__ == "__main__":
    unittest.main()
