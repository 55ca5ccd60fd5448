import unittest

from seek.errors import Memory, NoForm, Over, SeekError, Unread

REFUSALS = [Unread, NoForm, Memory, Over]


class Refusals(unittest.TestCase):
    def test_each_is_a_seek_error_and_a_value_error(self):
        for refusal in REFUSALS:
            self.assertTrue(issubclass(refusal, SeekError))
            self.assertTrue(issubclass(refusal, ValueError))
            with self.assertRaises(SeekError):
                raise refusal("words")
        self.assertTrue(issubclass(SeekError, ValueError))

    def test_none_is_another_one(self):
        for refusal in REFUSALS:
            for other in REFUSALS:
                self.assertEqual(issubclass(refusal, other), refusal is other)
            self.assertFalse(issubclass(SeekError, refusal))


if __name__ == "__main__":
    unittest.main()
