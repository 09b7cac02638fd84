import unittest

from metronet.errors import InvalidText, MetronetError


class ErrorsTest(unittest.TestCase):
    def test_base_class(self):
        error = MetronetError(7)
        self.assertEqual([error.place, error.name], [7, "MetronetError"])
        self.assertEqual(MetronetError.__bases__, (ValueError,))

    def test_invalid_text(self):
        error = InvalidText(0)
        self.assertEqual([error.place, error.name], [0, "InvalidText"])
        self.assertEqual(InvalidText.__bases__, (MetronetError,))

    def test_place_by_keyword(self):
        self.assertEqual(MetronetError(place=3).place, 3)
        self.assertEqual(InvalidText(place=4).place, 4)

    def test_place_is_needed(self):
        for error_class in (MetronetError, InvalidText):
            with self.assertRaises(TypeError):
                error_class()

    def test_is_caught_by_each_of_its_classes(self):
        for caught in (InvalidText, MetronetError, ValueError):
            with self.assertRaises(caught) as context:
                raise InvalidText(12)
            self.assertEqual(context.exception.place, 12)

    def test_base_is_not_caught_as_invalid_text(self):
        self.assertNotIsInstance(MetronetError(1), InvalidText)


if __name__ == "__main__":
    unittest.main()
