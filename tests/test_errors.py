import unittest

from talkmost.errors import BadText, NotAllowed, TalkError, UnknownName


class ErrorsTest(unittest.TestCase):
    def test_each_is_a_talk_error_and_a_value_error(self):
        self.assertTrue(issubclass(TalkError, ValueError))
        for error in (BadText, UnknownName, NotAllowed):
            self.assertTrue(issubclass(error, TalkError))
            self.assertTrue(issubclass(error, ValueError))

    def test_none_of_the_three_stands_under_another(self):
        three = (BadText, UnknownName, NotAllowed)
        for error in three:
            for other in three:
                self.assertEqual(issubclass(error, other), error is other)

    def test_bad_text_has_the_index(self):
        for at in (0, 7):
            error = BadText(at)
            self.assertEqual(error.at, at)
            self.assertIs(type(error.at), int)

    def test_messages(self):
        self.assertEqual(str(NotAllowed("too many")), "too many")
        self.assertIn("7", str(BadText(7)))


if __name__ == "__main__":
    unittest.main()
