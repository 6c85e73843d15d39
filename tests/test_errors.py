import unittest

from buybook import errors
from buybook.errors import BadText, BookError, NotAllowed, UnknownName
from buybook.ratio import parse_ratio


class Errors(unittest.TestCase):
    def test_base_is_a_value_error(self):
        self.assertTrue(issubclass(BookError, ValueError))

    def test_each_is_a_book_error_and_a_value_error(self):
        for made in [BadText(0), UnknownName("ann"), NotAllowed("no")]:
            self.assertIsInstance(made, BookError)
            self.assertIsInstance(made, ValueError)

    def test_none_of_the_three_stands_under_another(self):
        three = [BadText, UnknownName, NotAllowed]
        for one in three:
            for other in three:
                self.assertEqual(issubclass(one, other), one is other)

    def test_base_stands_under_none_of_the_three(self):
        for one in [BadText, UnknownName, NotAllowed]:
            self.assertFalse(issubclass(BookError, one))

    def test_bad_text_has_at(self):
        for at in [0, 1, 7, 200]:
            self.assertEqual(BadText(at).at, at)

    def test_each_object_has_its_own_at(self):
        first, second = BadText(1), BadText(2)
        self.assertEqual((first.at, second.at), (1, 2))

    def test_at_of_a_raised_error(self):
        with self.assertRaises(BookError) as caught:
            parse_ratio("2/4")
        self.assertIs(type(caught.exception), BadText)
        self.assertIs(type(caught.exception.at), int)
        self.assertEqual(caught.exception.at, 0)

    def test_message_is_text(self):
        self.assertIn("5", str(BadText(5)))
        self.assertEqual(str(UnknownName("ann")), "ann")

    def test_defined_in_this_file(self):
        for name in ["BookError", "BadText", "UnknownName", "NotAllowed"]:
            self.assertEqual(getattr(errors, name).__module__, "buybook.errors")


if __name__ == "__main__":
    unittest.main()
