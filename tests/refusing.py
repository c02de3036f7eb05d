"""How the tests ask for a refusal."""

import unittest

from ringbase import errors


class Refusing(unittest.TestCase):
    def refused(self, kind, asked, *handed):
        """The refusal, which must be of this very class and of no other one."""
        with self.assertRaises(errors.RingError) as caught:
            asked(*handed)
        self.assertIs(type(caught.exception), kind)
        self.assertIsInstance(caught.exception, ValueError)
        return caught.exception

    def plain(self, told):
        """Whole numbers, never True or False, in lists and tuples none of which is there twice."""
        lists = []

        def look(part):
            if type(part) in (list, tuple):
                if type(part) is list:
                    lists.append(id(part))
                for inner in part:
                    look(inner)
            else:
                self.assertIs(type(part), int)

        look(told)
        self.assertEqual(len(lists), len(set(lists)))
