import unittest

from onebreath import errors


class ErrorsTest(unittest.TestCase):
    plain = ("BadStore", "BadRule", "BadCount", "TooMany")
    valued = {
        "BadStep": ("machine", "step"),
        "BadPlan": ("beat",),
        "NoMachine": ("number",),
        "BadDeed": ("number",),
        "BadText": ("row",),
    }

    def test_any_refusal_is_a_value_error(self):
        self.assertEqual(errors.BreathError.__bases__, (ValueError,))

    def test_none_stands_under_another(self):
        for name in (*self.plain, *self.valued):
            with self.subTest(name):
                self.assertEqual(getattr(errors, name).__bases__, (errors.BreathError,))

    def test_those_without_values(self):
        for name in self.plain:
            with self.subTest(name):
                with self.assertRaises(errors.BreathError):
                    raise getattr(errors, name)()

    def test_values_by_their_names(self):
        for name, words in self.valued.items():
            with self.subTest(name):
                values = {word: 3 + at for at, word in enumerate(words)}
                made = getattr(errors, name)(**values)
                self.assertIsInstance(made, errors.BreathError)
                self.assertEqual({word: getattr(made, word) for word in words}, values)
                self.assertEqual(vars(made), values)

    def test_values_in_the_order_of_the_document(self):
        made = errors.BadStep(4, 2)
        self.assertEqual((made.machine, made.step), (4, 2))


if __name__ == "__main__":
    unittest.main()
