"""Point 5: the errors."""

import unittest

from oneuseheads import errors

PLAIN = """BadBare BadBoxes BadEnd BadHead BadJournal BadKind BadKinds BadLetter BadLine BadMachine BadMany BadName BadNames
BadNumber BadPath BadPattern BadProgram BadShape BadSurroundings BadTable BadTerm BadText BadWhich BadWord BadWords
NoProgram OtherLetters""".split()
FIELDS = {"BadSigns": "at", "TooMany": "most", "Unread": "letter"}


class Errors(unittest.TestCase):
    def test_head_error_stands_under_value_error(self):
        self.assertEqual(errors.HeadError.__bases__, (ValueError,))
        self.assertEqual(str(errors.HeadError("why")), "why")

    def test_all_stand_directly_under_head_error_and_none_under_another(self):
        for name in [*PLAIN, *FIELDS]:
            error = getattr(errors, name)
            self.assertEqual(error.__bases__, (errors.HeadError,), name)
            self.assertEqual(error.__name__, name)
            self.assertEqual(error.__module__, "oneuseheads.errors")
            for other in [*PLAIN, *FIELDS]:
                self.assertEqual(issubclass(error, getattr(errors, other)), name == other)

    def test_there_are_no_others(self):
        told = [name for name in vars(errors) if isinstance(getattr(errors, name), type)]
        self.assertEqual(sorted(told), sorted([*PLAIN, *FIELDS, "HeadError"]))

    def test_those_without_fields_are_made_from_a_message(self):
        for name in PLAIN:
            with self.assertRaises(errors.HeadError) as caught:
                raise getattr(errors, name)("what is wrong")
            self.assertEqual(str(caught.exception), "what is wrong")
            self.assertEqual(caught.exception.args, ("what is wrong",))
            self.assertEqual(vars(caught.exception), {})

    def test_fields_are_made_from_their_values(self):
        for name, field in FIELDS.items():
            for value in (18, None, "q"):
                for error in (getattr(errors, name)(value), getattr(errors, name)(**{field: value})):
                    self.assertEqual(getattr(error, field), value)
                    self.assertEqual(vars(error), {field: value})
                    self.assertIn(str(value), str(error))
                    with self.assertRaises(ValueError):
                        raise error


if __name__ == "__main__":
    unittest.main()
