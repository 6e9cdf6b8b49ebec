import unittest

from markslide import errors

BELOW = ("BadWeb", "BadMarks", "BadSlide", "Unlike", "NoTree", "BadText")


class Errors(unittest.TestCase):
    def test_slide_error_is_a_value_error(self):
        self.assertEqual(errors.SlideError.__bases__, (ValueError,))

    def test_each_is_below_slide_error(self):
        for name in BELOW:
            with self.subTest(name):
                self.assertTrue(issubclass(getattr(errors, name), errors.SlideError))

    def test_none_is_below_another(self):
        for name in BELOW:
            for other in BELOW:
                if name != other:
                    with self.subTest(f"{name}, {other}"):
                        self.assertFalse(issubclass(getattr(errors, name), getattr(errors, other)))

    def test_each_can_be_raised_with_words(self):
        for name in BELOW + ("SlideError",):
            with self.subTest(name):
                with self.assertRaises(ValueError):
                    raise getattr(errors, name)("words")


if __name__ == "__main__":
    unittest.main()
