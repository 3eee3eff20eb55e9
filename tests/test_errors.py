import unittest

from roomweek.errors import BookError, NoName, NoSpan, SameName, Taken

REFUSALS = (NoSpan, SameName, NoName, Taken)


class Errors(unittest.TestCase):
    def test_each_stands_under_the_class_that_the_interface_names(self):
        self.assertEqual(BookError.__bases__, (ValueError,))
        for refusal in REFUSALS:
            self.assertEqual(refusal.__bases__, (BookError,), refusal)

    def test_names(self):
        names = [refusal.__name__ for refusal in (BookError,) + REFUSALS]
        self.assertEqual(names, ["BookError", "NoSpan", "SameName", "NoName", "Taken"])

    def test_raised_and_caught_under_each_class_above(self):
        for refusal in REFUSALS:
            for above in (refusal, BookError, ValueError):
                with self.assertRaises(above) as caught:
                    raise refusal("words")
                self.assertIs(type(caught.exception), refusal)
                self.assertEqual(str(caught.exception), "words")

    def test_book_error_itself_is_raised_and_caught(self):
        for above in (BookError, ValueError):
            with self.assertRaises(above):
                raise BookError("words")

    def test_none_is_caught_as_another(self):
        for refusal in REFUSALS:
            for other in REFUSALS:
                if other is not refusal:
                    self.assertFalse(issubclass(refusal, other), (refusal, other))


if __name__ == "__main__":
    unittest.main()
