"""Point 3 and the interface of foldvat/errors.py: the classes of refusal."""

import unittest

from foldvat import errors

NAMES = ("NoPlaces", "NoRow", "NoColumn", "NoDepth", "NoPlace", "NoLine", "NoKind", "NoNumber", "NoDip", "NoVat",
         "NoMark", "NoPattern", "TooMany", "NoWay", "Full", "Nothing", "NoHistory", "NoText", "NoForm", "NoneYet")


class Errors(unittest.TestCase):
    def test_all_stand_under_fold_error(self):
        self.assertTrue(issubclass(errors.FoldError, ValueError))
        for name in NAMES:
            self.assertTrue(issubclass(getattr(errors, name), errors.FoldError), name)

    def test_none_stands_under_another_one(self):
        for name in NAMES:
            for other in NAMES:
                if name != other:
                    self.assertFalse(issubclass(getattr(errors, name), getattr(errors, other)), (name, other))

    def test_all_can_be_raised_and_caught(self):
        for name in NAMES:
            kind = getattr(errors, name)
            with self.assertRaises(errors.FoldError) as caught:
                raise kind(3) if name == "NoText" else kind("words")
            self.assertIs(type(caught.exception), kind)

    def test_no_text_has_its_line(self):
        for line in (0, 7, 3999, None):
            self.assertEqual(errors.NoText(line).line, line)
            str(errors.NoText(line))
            repr(errors.NoText(line))


if __name__ == "__main__":
    unittest.main()
