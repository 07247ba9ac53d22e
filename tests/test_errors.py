import unittest

from surgekept import errors
from surgekept.errors import InvalidLine, KeepError


class ErrorsTest(unittest.TestCase):

    def test_all_are_directly_under_the_base_class(self):
        self.assertEqual(KeepError.__bases__, (ValueError,))
        for name in (
                "InvalidWorks", "InvalidCourse", "InvalidState",
                "InvalidMove", "InvalidCommand", "InvalidLine"):
            self.assertEqual(getattr(errors, name).__bases__, (KeepError,), name)

    def test_a_line_is_told(self):
        for line in (1, 7):
            self.assertEqual(InvalidLine(line).line, line)
            with self.assertRaises(KeepError) as caught:
                raise InvalidLine(line)
            self.assertEqual(caught.exception.line, line)


if __name__ == "__main__":
    unittest.main()
