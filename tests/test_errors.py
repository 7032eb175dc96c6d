import unittest

from choicerows import errors
from choicerows.errors import BookError, ChoiceError, GeneratorError, MachineError, TextError

OTHERS = [GeneratorError, TextError, MachineError, BookError]


class BaseClasses(unittest.TestCase):
    def test_choice_error_is_a_value_error(self):
        self.assertEqual(ChoiceError.__bases__, (ValueError,))

    def test_the_others_are_choice_errors(self):
        for other in OTHERS:
            self.assertTrue(issubclass(other, ChoiceError), other)

    def test_none_of_the_others_is_a_base_class_of_another_one(self):
        for one in OTHERS:
            for other in OTHERS:
                if one is not other:
                    self.assertFalse(issubclass(one, other), (one, other))

    def test_all_are_defined_in_their_file(self):
        for one in [ChoiceError] + OTHERS:
            self.assertEqual(one.__module__, "choicerows.errors")
            self.assertIs(getattr(errors, one.__name__), one)


class Attributes(unittest.TestCase):
    def test_generator_error(self):
        error = GeneratorError("wrong bounds", (0, 2))
        self.assertEqual(vars(error), {"what": "wrong bounds", "path": (0, 2)})

    def test_generator_error_at_the_generator_itself(self):
        error = GeneratorError("too many", ())
        self.assertEqual((error.what, error.path), ("too many", ()))

    def test_text_error_has_its_place_first(self):
        error = TextError(3, "not expected")
        self.assertEqual(vars(error), {"place": 3, "what": "not expected"})

    def test_machine_error_has_its_place_last(self):
        error = MachineError("wrong first", -1)
        self.assertEqual(vars(error), {"what": "wrong first", "place": -1})

    def test_book_error(self):
        error = BookError("full")
        self.assertEqual(vars(error), {"what": "full"})

    def test_two_objects_do_not_share_attributes(self):
        one, other = GeneratorError("wrong words", (1,)), GeneratorError("other kinds", ())
        self.assertEqual((one.what, one.path), ("wrong words", (1,)))
        self.assertEqual((other.what, other.path), ("other kinds", ()))

    def test_the_number_of_attributes_is_told(self):
        for other, values in [
            (GeneratorError, ("wrong bounds",)), (GeneratorError, ("wrong bounds", (), 0)),
            (TextError, (1,)), (TextError, (1, "not expected", 0)),
            (MachineError, ("wrong most",)), (MachineError, ("wrong most", -1, 0)),
            (BookError, ()), (BookError, ("full", 0)),
        ]:
            with self.assertRaises(TypeError):
                other(*values)


class Raising(unittest.TestCase):
    def test_all_are_caught_as_choice_errors_and_value_errors(self):
        raised = [GeneratorError("wrong words", (1,)), TextError(0, "not finished"),
                  MachineError("wrong name", 2), BookError("unknown"), ChoiceError("some fault")]
        for error in raised:
            for caught in (ChoiceError, ValueError):
                with self.assertRaises(caught) as held:
                    raise error
                self.assertIs(held.exception, error)

    def test_a_message_tells_the_fault(self):
        self.assertIn("wrong words", str(GeneratorError("wrong words", (1,))))
        self.assertIn("not finished", str(TextError(7, "not finished")))
        self.assertIn("wrong guard", str(MachineError("wrong guard", 2)))
        self.assertIn("does not fail", str(BookError("does not fail")))


if __name__ == "__main__":
    unittest.main()
