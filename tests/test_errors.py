import unittest

from ziggurat.errors import FormError, LimitError, ParseError, ZigguratError


class ErrorsTest(unittest.TestCase):
    def test_bases(self):
        self.assertTrue(issubclass(ZigguratError, ValueError))
        for error in (LimitError, FormError, ParseError):
            self.assertTrue(issubclass(error, ZigguratError))

    def test_kinds_are_apart(self):
        errors = (LimitError, FormError, ParseError)
        for one in errors:
            for other in errors:
                self.assertEqual(issubclass(one, other), one is other)

    def test_parse_error_has_its_place(self):
        self.assertEqual(ParseError(0).at, 0)
        self.assertEqual(ParseError(4000).at, 4000)
        self.assertIsInstance(str(ParseError(3)), str)


if __name__ == "__main__":
    unittest.main()
