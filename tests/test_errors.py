import unittest

from lotwander import errors

REFUSALS = ("NoWalk", "NoRooms", "NoMarks", "NoChoice", "NoPicks", "NoCosts", "NoBegin", "NoText")


class RefusalsTest(unittest.TestCase):
    def test_chance_error_is_a_value_error(self):
        self.assertTrue(issubclass(errors.ChanceError, ValueError))

    def test_each_is_taken_as_chance_error_and_as_value_error(self):
        for name in REFUSALS:
            with self.subTest(name=name):
                refusal = getattr(errors, name)
                with self.assertRaises(errors.ChanceError):
                    raise refusal("words")
                with self.assertRaises(ValueError):
                    raise refusal("words")

    def test_none_stands_under_another(self):
        for name in REFUSALS:
            for other in REFUSALS:
                if name != other:
                    with self.subTest(name=name, other=other):
                        self.assertFalse(issubclass(getattr(errors, name), getattr(errors, other)))


if __name__ == "__main__":
    unittest.main()
