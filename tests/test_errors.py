import unittest

from gatebook.errors import GateError, NoLine, NoPlace, Ring

REFUSALS = (NoPlace, Ring, NoLine)


class ErrorsTest(unittest.TestCase):
    def test_gate_error_is_straight_under_value_error(self):
        self.assertEqual(GateError.__bases__, (ValueError,))

    def test_each_refusal_is_straight_under_gate_error(self):
        for refusal in REFUSALS:
            with self.subTest(refusal=refusal.__name__):
                self.assertEqual(refusal.__bases__, (GateError,))

    def test_no_refusal_is_under_another(self):
        for refusal in REFUSALS:
            for other in REFUSALS:
                with self.subTest(refusal=refusal.__name__, other=other.__name__):
                    self.assertEqual(issubclass(refusal, other), refusal is other)

    def test_each_is_taken_by_each_name_it_stands_under(self):
        for refusal in REFUSALS:
            for taken in (refusal, GateError, ValueError):
                with self.subTest(refusal=refusal.__name__, taken=taken.__name__):
                    with self.assertRaises(taken):
                        raise refusal("some words")

    def test_words_are_kept_and_may_be_left_out(self):
        for error in (GateError,) + REFUSALS:
            with self.subTest(error=error.__name__):
                self.assertEqual(str(error("some words")), "some words")
                self.assertEqual(str(error()), "")

    def test_names_and_home(self):
        names = [error.__name__ for error in (GateError,) + REFUSALS]
        self.assertEqual(names, ["GateError", "NoPlace", "Ring", "NoLine"])
        for error in (GateError,) + REFUSALS:
            self.assertEqual(error.__module__, "gatebook.errors")


if __name__ == "__main__":
    unittest.main()
