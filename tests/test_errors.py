import unittest

from sawsign import errors

PLAIN = [
    "NoCount", "NotOdd", "TooMany", "NotApart", "NoShuffle", "NoPaper", "NoFraction",
    "NoTable", "NoWord", "NoRow", "NoText", "NoLine", "NoDeed",
]
ALL = PLAIN + ["NoPrime", "NoName"]


def class_called(name):
    return getattr(errors, name)


class Refusals(unittest.TestCase):
    def test_saw_error_stands_straight_under_value_error(self):
        self.assertEqual(errors.SawError.__bases__, (ValueError,))

    def test_there_are_fifteen(self):
        self.assertEqual(len(set(class_called(name) for name in ALL)), 15)

    def test_each_stands_under_saw_error(self):
        for name in ALL:
            with self.subTest(name=name):
                self.assertTrue(issubclass(class_called(name), errors.SawError))
                self.assertIsNot(class_called(name), errors.SawError)

    def test_none_stands_under_another(self):
        for name in ALL:
            for other in ALL:
                if name != other:
                    with self.subTest(name=name, other=other):
                        self.assertFalse(issubclass(class_called(name), class_called(other)))

    def test_each_can_be_raised_and_taken_as_a_saw_error(self):
        for name in PLAIN:
            with self.subTest(name=name):
                with self.assertRaises(errors.SawError):
                    raise class_called(name)("refused")

    def test_no_prime_keeps_its_divisor(self):
        for divisor in (0, 2, 997):
            with self.assertRaises(errors.SawError) as caught:
                raise errors.NoPrime(divisor)
            self.assertEqual(caught.exception.divisor, divisor)

    def test_no_name_keeps_its_name(self):
        for name in ("a", "abcdefgh"):
            with self.assertRaises(errors.SawError) as caught:
                raise errors.NoName(name)
            self.assertEqual(caught.exception.name, name)


if __name__ == "__main__":
    unittest.main()
