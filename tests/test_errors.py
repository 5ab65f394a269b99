import unittest

from codewalk import errors

FIELDS = {
    "NoTree": ["place"],
    "NoProgram": ["line", "why"],
    "NoCode": ["field"],
    "NoTable": ["at"],
    "NoBytes": ["at"],
    "NoNumber": ["value"],
    "NoName": ["name"],
    "NoRows": ["at"],
}


class ErrorTests(unittest.TestCase):
    def test_code_error_is_a_value_error(self):
        self.assertEqual(errors.CodeError.__bases__, (ValueError,))

    def test_all_others_stand_under_code_error_alone(self):
        for word in FIELDS:
            self.assertEqual(getattr(errors, word).__bases__, (errors.CodeError,), word)

    def test_each_keeps_what_it_was_made_with_in_order(self):
        for word, fields in FIELDS.items():
            values = [(1, 2), "why"][:len(fields)]
            made = getattr(errors, word)(*values)
            self.assertEqual(list(vars(made).items()), list(zip(fields, values)), word)

    def test_arguments_by_name(self):
        for word, fields in FIELDS.items():
            values = {field: object() for field in fields}
            made = getattr(errors, word)(**values)
            for field in fields:
                self.assertIs(getattr(made, field), values[field], word)

    def test_another_number_of_arguments_is_refused(self):
        for word, fields in FIELDS.items():
            with self.assertRaises(TypeError, msg=word):
                getattr(errors, word)()
            with self.assertRaises(TypeError, msg=word):
                getattr(errors, word)(*range(len(fields) + 1))

    def test_each_has_its_own_init(self):
        for word in FIELDS:
            self.assertIn("__init__", vars(getattr(errors, word)), word)

    def test_they_are_raised_and_caught_by_class(self):
        for word, fields in FIELDS.items():
            with self.assertRaises(errors.CodeError):
                raise getattr(errors, word)(*fields)

    def test_an_error_is_unequal_to_others(self):
        self.assertNotEqual(errors.NoTable(3), errors.NoBytes(3))


if __name__ == "__main__":
    unittest.main()
