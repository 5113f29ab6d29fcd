import unittest

from indicial.errors import Fault, Malformed, NoText, Refused, ZeroDivisor


class Errors(unittest.TestCase):
    def test_fault_is_a_value_error(self):
        self.assertTrue(issubclass(Fault, ValueError))

    def test_each_class_is_a_fault_and_no_other_one(self):
        classes = (ZeroDivisor, Malformed, Refused, NoText)
        for one in classes:
            self.assertTrue(issubclass(one, Fault))
            for other in classes:
                self.assertEqual(issubclass(one, other), one is other)
            self.assertFalse(issubclass(Fault, one))

    def test_refused_keeps_its_reason(self):
        error = Refused("zero")
        self.assertEqual(error.reason, "zero")
        self.assertEqual(Refused(reason="pole").reason, "pole")

    def test_no_text_keeps_its_position(self):
        self.assertEqual(NoText(7).at, 7)
        self.assertEqual(NoText(at=0).at, 0)

    def test_errors_can_be_raised_and_caught(self):
        for error in (Fault("a"), ZeroDivisor("a"), Malformed("a"), Refused("zero"), NoText(3)):
            for caught in (Fault, ValueError, type(error)):
                with self.assertRaises(caught):
                    raise error


if __name__ == "__main__":
    unittest.main()
