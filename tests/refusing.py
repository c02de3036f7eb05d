"""How the tests ask for a refusal, and for what is the asker's own."""

import copy
import unittest

from ringbase import errors


def lists_in(part):
    """Every list in a value, itself too."""
    if type(part) in (list, tuple):
        found = [part] if type(part) is list else []
        for inner in part:
            found += lists_in(inner)
        return found
    return []


def spoil(value):
    for part in lists_in(value):
        part.reverse()
        part.append(77)


class Refusing(unittest.TestCase):
    def refused(self, kind, asked, *handed):
        """The refusal, which must be of this very class and of no other one."""
        kept = copy.deepcopy(handed)
        with self.assertRaises(errors.RingError) as caught:
            asked(*handed)
        self.assertIs(type(caught.exception), kind)
        self.assertIsInstance(caught.exception, ValueError)
        self.assertEqual(handed, kept)
        return caught.exception

    def plain(self, told, *others):
        """Whole numbers (and other kinds that are let), never True or False, in lists and tuples."""
        def look(part):
            if type(part) in (list, tuple):
                for inner in part:
                    look(inner)
            else:
                self.assertIn(type(part), (int,) + others)

        look(told)
        lists = [id(part) for part in lists_in(told)]
        self.assertEqual(len(lists), len(set(lists)))

    def own(self, asked, *handed):
        """What is told, once it was seen that neither side of the asking holds on to the other."""
        kept, handed = handed, copy.deepcopy(handed)
        told = asked(*handed)
        first = copy.deepcopy(told)
        self.assertEqual(handed, kept)
        if told is not True and told is not False:
            self.plain(told, str, type(None))
        spoil(told)
        self.assertEqual(handed, kept)
        again = asked(*handed)
        self.assertEqual(again, first)
        spoil(handed)
        self.assertEqual(again, first)
        self.assertEqual(asked(*kept), first)
        return first
