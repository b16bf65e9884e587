import unittest

from choicenet.errors import NetError, NoStatement, NoWay


class Errors(unittest.TestCase):
    def test_each_is_caught_as_net_error_and_as_value_error(self):
        for error in (NetError, NoWay, NoStatement):
            for caught in (error, NetError, ValueError):
                with self.subTest(error=error, caught=caught), self.assertRaises(caught):
                    raise error("some words")

    def test_bases(self):
        self.assertEqual(NetError.__bases__, (ValueError,))
        self.assertEqual(NoWay.__bases__, (NetError,))
        self.assertEqual(NoStatement.__bases__, (NetError,))

    def test_one_refusal_is_not_caught_as_the_other(self):
        self.assertFalse(issubclass(NoWay, NoStatement))
        self.assertFalse(issubclass(NoStatement, NoWay))

    def test_no_other_value_error_is_a_net_error(self):
        with self.assertRaises(ValueError) as caught:
            int("x")
        self.assertNotIsInstance(caught.exception, NetError)

    def test_words_are_kept(self):
        self.assertEqual(str(NoWay("no way at 3")), "no way at 3")


if __name__ == "__main__":
    unittest.main()
