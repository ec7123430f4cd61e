"""The classes of refusals, each under the base that the interface names."""

import unittest

from strongway.errors import NoBallot, NoChoice, NoLine, VoteError


class Classes(unittest.TestCase):
    def test_any_refusal_stands_under_value_error(self):
        self.assertEqual(VoteError.__bases__, (ValueError,))

    def test_each_refusal_stands_under_any_refusal(self):
        for refusal in (NoBallot, NoChoice, NoLine):
            with self.subTest(refusal=refusal.__name__):
                self.assertEqual(refusal.__bases__, (VoteError,))

    def test_each_is_taken_as_any_refusal_and_as_value_error(self):
        for refusal in (VoteError, NoBallot, NoChoice, NoLine):
            for base in (VoteError, ValueError):
                with self.subTest(refusal=refusal.__name__, base=base.__name__):
                    with self.assertRaises(base):
                        raise refusal("words")

    def test_none_is_another(self):
        for refusal in (NoBallot, NoChoice, NoLine):
            for another in (NoBallot, NoChoice, NoLine):
                with self.subTest(refusal=refusal.__name__, another=another.__name__):
                    self.assertEqual(isinstance(refusal("words"), another), refusal == another)

    def test_names(self):
        names = [each.__name__ for each in (VoteError, NoBallot, NoChoice, NoLine)]
        self.assertEqual(names, ["VoteError", "NoBallot", "NoChoice", "NoLine"])


if __name__ == "__main__":
    unittest.main()
