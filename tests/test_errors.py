"""The classes of refusals, and how they stand to one another."""

import unittest

from cornerhunt import errors

NAMES = ["BadWeb", "NoPoint", "BadTie", "BadCount", "TooMany", "BadStanding", "BadLine"]


def made(name):
    return errors.BadLine(4) if name == "BadLine" else getattr(errors, name)("why")


class ErrorsTest(unittest.TestCase):
    def test_hunt_error_is_a_value_error(self):
        self.assertEqual(errors.HuntError.__bases__, (ValueError,))
        with self.assertRaises(ValueError):
            raise errors.HuntError("why")

    def test_each_is_straight_under_hunt_error(self):
        for name in NAMES:
            with self.subTest(name):
                self.assertEqual(getattr(errors, name).__bases__, (errors.HuntError,))

    def test_each_is_caught_as_both(self):
        for name in NAMES:
            for caught in (errors.HuntError, ValueError):
                with self.subTest(name, caught=caught):
                    with self.assertRaises(caught):
                        raise made(name)

    def test_none_is_another_one(self):
        for name in NAMES:
            for other in NAMES:
                with self.subTest(name, other=other):
                    self.assertEqual(isinstance(made(name), getattr(errors, other)), name == other)

    def test_hunt_error_is_none_of_them(self):
        for name in NAMES:
            with self.subTest(name):
                self.assertNotIsInstance(errors.HuntError("why"), getattr(errors, name))

    def test_bad_line_keeps_its_place(self):
        for place in (0, 1, 7, 500):
            with self.subTest(place):
                self.assertEqual(errors.BadLine(place).place, place)
                self.assertEqual(errors.BadLine(place=place).place, place)

    def test_bad_line_keeps_its_place_when_caught(self):
        with self.assertRaises(errors.BadLine) as caught:
            raise errors.BadLine(3)
        self.assertEqual(caught.exception.place, 3)

    def test_two_bad_lines_keep_their_own_places(self):
        first = errors.BadLine(1)
        second = errors.BadLine(2)
        self.assertEqual((first.place, second.place), (1, 2))


if __name__ == "__main__":
    unittest.main()
