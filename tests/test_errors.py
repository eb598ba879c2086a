import unittest

from daycubes import errors

FIELDS = {
    "BadCubes": ["index"], "BadTurns": [], "BadFigures": [], "BadWidth": [], "BadRange": [],
    "BadNeeded": ["index"], "BadNumber": [], "TooMany": [], "BadSeen": ["index"], "BadWays": ["index"],
    "NotShown": [], "BadText": ["word"],
}


class ErrorClasses(unittest.TestCase):
    def test_base_is_a_value_error(self):
        self.assertEqual(errors.CubeError.__bases__, (ValueError,))

    def test_all_twelve_stand_straight_under_the_base(self):
        self.assertEqual(len(FIELDS), 12)
        for name in FIELDS:
            self.assertEqual(getattr(errors, name).__bases__, (errors.CubeError,), name)

    def test_the_file_defines_no_other_classes(self):
        found = {name for name, value in vars(errors).items() if isinstance(value, type)}
        self.assertEqual(found, set(FIELDS) | {"CubeError"})

    def test_each_keeps_its_fields(self):
        for name, fields in FIELDS.items():
            for told in (0, 5, None):
                error = getattr(errors, name)(*[told for _ in fields])
                self.assertEqual(vars(error), {field: told for field in fields}, name)

    def test_each_takes_its_fields_by_name(self):
        for name, fields in FIELDS.items():
            error = getattr(errors, name)(**{field: 3 for field in fields})
            self.assertEqual(vars(error), {field: 3 for field in fields}, name)

    def test_each_takes_no_fewer_and_no_more(self):
        for name, fields in FIELDS.items():
            with self.assertRaises(TypeError, msg=name):
                getattr(errors, name)(*range(len(fields) + 1))
            if fields:
                with self.assertRaises(TypeError, msg=name):
                    getattr(errors, name)()

    def test_each_is_caught_as_the_base_and_no_other(self):
        for name, fields in FIELDS.items():
            for other in FIELDS:
                error = getattr(errors, name)(*[0 for _ in fields])
                self.assertIsInstance(error, errors.CubeError)
                self.assertEqual(isinstance(error, getattr(errors, other)), name == other)

    def test_each_has_a_message(self):
        for name, fields in FIELDS.items():
            self.assertTrue(str(getattr(errors, name)(*[None for _ in fields])), name)


if __name__ == "__main__":
    unittest.main()
