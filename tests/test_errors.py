import unittest

from ringbase import errors

PLAIN = ["BadWeb", "BadSet", "BadPoint", "NotRing", "NoChord", "NoBase", "NoSuch", "TooMany", "BadRow", "NoDeed"]
NUMBERED = {"NotEven": "point", "NoText": "row"}


class Errors(unittest.TestCase):
    def test_ring_error_stands_straight_under_value_error(self):
        self.assertEqual(errors.RingError.__bases__, (ValueError,))

    def test_each_class_stands_straight_under_ring_error(self):
        for name in PLAIN + list(NUMBERED):
            with self.subTest(name):
                self.assertEqual(getattr(errors, name).__bases__, (errors.RingError,))

    def test_none_is_another_one(self):
        classes = [getattr(errors, name) for name in PLAIN + list(NUMBERED)]
        self.assertEqual(len(set(classes)), 12)
        for one in classes:
            self.assertEqual([other for other in classes if issubclass(one, other)], [one])

    def test_plain_ones_are_made_with_a_text(self):
        for name in PLAIN:
            with self.subTest(name):
                self.assertEqual(str(getattr(errors, name)("some words")), "some words")

    def test_numbered_ones_keep_their_number(self):
        for name, value in NUMBERED.items():
            for number in (0, 1, 9, 10 ** 59):
                with self.subTest(name, number=number):
                    refusal = getattr(errors, name)("some words", number)
                    self.assertEqual(getattr(refusal, value), number)
                    self.assertEqual(str(refusal), "some words")

    def test_two_refusals_keep_each_their_own(self):
        one, other = errors.NotEven("w", 3), errors.NotEven("w", 4)
        self.assertEqual((one.point, other.point), (3, 4))


if __name__ == "__main__":
    unittest.main()
