import unittest

from onefolk import errors

SORTS = ("NoName", "NoText", "NoReason", "NoUndo", "NoRoom", "NoStep", "NoRow")


class ErrorsTest(unittest.TestCase):
    def test_base_is_a_value_error(self):
        self.assertEqual(errors.FolkError.__bases__, (ValueError,))

    def test_each_sort_is_under_the_base(self):
        for word in SORTS:
            sort = getattr(errors, word)
            self.assertTrue(issubclass(sort, errors.FolkError), word)
            self.assertTrue(issubclass(sort, ValueError), word)
            self.assertIsNot(sort, errors.FolkError, word)

    def test_no_sort_is_under_another(self):
        for word in SORTS:
            for other in SORTS:
                if word != other:
                    self.assertFalse(issubclass(getattr(errors, word), getattr(errors, other)), (word, other))

    def test_no_name_has_the_very_thing(self):
        for thing in ("abc", "", None, 5, [1], {"a": []}, ("a", [])):
            error = errors.NoName(thing)
            self.assertIs(error.name, thing)
            self.assertIsInstance(str(error), str)

    def test_no_text_has_the_row(self):
        for row in (0, 1, 39):
            self.assertEqual(errors.NoText(row).row, row)

    def test_the_others_are_raised_and_caught_by_the_base(self):
        for word in SORTS[2:]:
            sort = getattr(errors, word)
            with self.assertRaises(errors.FolkError) as caught:
                raise sort("why")
            self.assertIs(type(caught.exception), sort)


if __name__ == "__main__":
    unittest.main()
