import unittest

from turnfork import errors

TEXTS = ("TooGreat", "NoToken", "NoWire", "NoLeaf", "NoFork", "NoLine")
FIELDS = {"NoEvent": "place", "NoText": "word"}


class Errors(unittest.TestCase):
    def test_fork_error_is_a_value_error(self):
        self.assertEqual(errors.ForkError.__bases__, (ValueError,))
        self.assertEqual(str(errors.ForkError("so")), "so")

    def test_each_lies_right_under_fork_error(self):
        for name in (*TEXTS, *FIELDS):
            self.assertEqual(getattr(errors, name).__bases__, (errors.ForkError,), name)

    def test_they_are_unlike(self):
        every = {getattr(errors, name) for name in (*TEXTS, *FIELDS)}
        self.assertEqual(len(every), 8)
        self.assertEqual({made.__name__ for made in every}, {*TEXTS, *FIELDS})

    def test_made_of_a_text(self):
        for name in TEXTS:
            self.assertEqual(str(getattr(errors, name)("what is wrong")), "what is wrong")

    def test_fields(self):
        for name, field in FIELDS.items():
            for number in (0, 1, 2000, 10 ** 59):
                made = getattr(errors, name)(number)
                self.assertEqual(getattr(made, field), number)
                self.assertIs(type(getattr(made, field)), int)
                self.assertIs(type(str(made)), str)

    def test_fields_of_two_are_each_their_own(self):
        one, other = errors.NoEvent(1), errors.NoEvent(2)
        self.assertEqual((one.place, other.place), (1, 2))
        one, other = errors.NoText(3), errors.NoText(4)
        self.assertEqual((one.word, other.word), (3, 4))

    def test_value_error_and_fork_error_catch_each(self):
        for name in (*TEXTS, *FIELDS):
            made = getattr(errors, name)
            for wide in (ValueError, errors.ForkError, made):
                with self.assertRaises(wide):
                    raise made(7 if name in FIELDS else "no")

    def test_none_catches_another_one(self):
        for name in (*TEXTS, *FIELDS):
            for other in (*TEXTS, *FIELDS):
                under = issubclass(getattr(errors, name), getattr(errors, other))
                self.assertEqual(under, name == other)


if __name__ == "__main__":
    unittest.main()
