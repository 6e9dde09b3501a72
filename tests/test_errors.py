import unittest

from nestdolls.errors import DollError, NoMove, NoOrder


class Errors(unittest.TestCase):
    def test_what_stands_under_what(self):
        self.assertTrue(issubclass(DollError, ValueError))
        self.assertTrue(issubclass(NoMove, DollError))
        self.assertTrue(issubclass(NoOrder, DollError))
        self.assertFalse(issubclass(NoMove, NoOrder))
        self.assertFalse(issubclass(NoOrder, NoMove))

    def test_field_of_no_move(self):
        for at in (0, 1, 299):
            self.assertEqual(NoMove(at).at, at)
            self.assertEqual(NoMove(at=at).at, at)

    def test_no_order_is_made_of_a_text(self):
        self.assertIn("why", str(NoOrder("why")))

    def test_caught_as_value_errors(self):
        for error in (DollError("why"), NoMove(3), NoOrder("why")):
            with self.assertRaises(ValueError):
                raise error


if __name__ == "__main__":
    unittest.main()
