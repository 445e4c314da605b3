"""What tests share: of which kind a thing that is told is, and with which class a thing is refused."""

import unittest

from tipwell.errors import TipError


class KindCase(unittest.TestCase):
    def assert_refused(self, due, call, *things):
        """Just the due class: none under it and none beside it."""
        with self.assertRaises(TipError) as caught:
            call(*things)
        self.assertIs(type(caught.exception), due)

    def assert_numbers(self, numbers, many):
        self.assertIs(type(numbers), tuple)
        self.assertEqual(len(numbers), many)
        for number in numbers:
            self.assertIs(type(number), int)

    def assert_state(self, given, told):
        self.assertIs(type(told), tuple)
        held, coming, doors = told
        self.assert_numbers(held, len(given[0]))
        self.assert_numbers(coming, len(given[0]))
        self.assertIs(type(doors), tuple)
        self.assertEqual(len(doors), len(given[1]))
        for door in doors:
            self.assertIs(type(door), bool)

    def assert_tick(self, given, told):
        self.assertIs(type(told), tuple)
        behind, tipped, grounded = told
        self.assert_state(given, behind)
        self.assert_numbers(tipped, len(tipped))
        self.assertEqual(list(tipped), sorted(set(tipped)))
        self.assertIs(type(grounded), int)
