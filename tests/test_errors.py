import unittest

from balancehall import errors

FIELDS = {
    "TooLong": {"many": 401},
    "NoFormula": {"place": 3},
    "NoChange": {"place": 0},
    "TooMany": {"many": 9},
    "NoSplit": {},
    "NoBalance": {"weights": {"H": 0, "O": -1, "+": 10 ** 30}},
    "Unbalanced": {"kind": "H", "left": 4, "right": 2},
    "Short": {"step": 1, "turn": 10 ** 59, "formula": "H2O", "lack": 7},
    "NoName": {"name": "burn"},
    "NoRow": {},
}


def made(name):
    return getattr(errors, name)(*FIELDS[name].values())


class ErrorsTest(unittest.TestCase):
    def test_the_base_is_a_value_error(self):
        self.assertTrue(issubclass(errors.HallError, ValueError))
        self.assertEqual(errors.HallError.__bases__, (ValueError,))

    def test_each_stands_under_hall_error(self):
        for name in FIELDS:
            with self.subTest(name):
                self.assertTrue(issubclass(getattr(errors, name), errors.HallError))
                self.assertTrue(issubclass(getattr(errors, name), ValueError))

    def test_none_stands_under_another(self):
        for name in FIELDS:
            for other in FIELDS:
                if name != other:
                    with self.subTest(name=name, other=other):
                        self.assertFalse(issubclass(getattr(errors, name), getattr(errors, other)))

    def test_no_other_errors_are_there(self):
        there = [name for name, value in vars(errors).items() if isinstance(value, type)]
        self.assertEqual(sorted(there), sorted(list(FIELDS) + ["HallError"]))

    def test_the_fields_are_what_was_told(self):
        for name, fields in FIELDS.items():
            with self.subTest(name):
                self.assertEqual(vars(made(name)), fields)

    def test_the_arguments_have_the_fields_names(self):
        for name, fields in FIELDS.items():
            with self.subTest(name):
                self.assertEqual(vars(getattr(errors, name)(**fields)), fields)

    def test_each_is_taken_by_its_own_name_and_by_the_base(self):
        for name in FIELDS:
            for taken in (getattr(errors, name), errors.HallError, ValueError):
                with self.subTest(name=name, taken=taken), self.assertRaises(taken):
                    raise made(name)

    def test_each_has_words(self):
        for name in FIELDS:
            with self.subTest(name):
                self.assertNotEqual(str(made(name)), "")

    def test_numbers_of_four_thousand_figures(self):
        great = 10 ** 4000 - 1
        self.assertEqual(errors.Unbalanced("H", great, -great).right, -great)
        self.assertEqual(errors.Short(0, great, "H2", great).lack, great)

    def test_the_weights_are_a_copy(self):
        weights = {"H": 1}
        refusal = errors.NoBalance(weights)
        weights["O"] = 2
        self.assertEqual(refusal.weights, {"H": 1})
        self.assertEqual(weights, {"H": 1, "O": 2})


if __name__ == "__main__":
    unittest.main()
