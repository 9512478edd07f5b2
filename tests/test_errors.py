"""The errors: the section of the interface, and point 0.2."""

import unittest

from scribeself import errors

OF_ONE_STRING = ["TreeError", "EditError", "EquationError", "ValueFault", "FuelError", "CoverError", "SpillError"]
OF_A_PLACE = ["NameFault", "MachineError", "TrapError"]


class ErrorsTest(unittest.TestCase):
    def test_base(self):
        self.assertEqual(errors.ScribeError.__bases__, (ValueError,))
        others = [value for value in vars(errors).values() if isinstance(value, type)]
        self.assertEqual(len(others), 15)
        for other in others:
            self.assertTrue(issubclass(other, errors.ScribeError))

    def test_of_one_string(self):
        for name in OF_ONE_STRING:
            self.assertEqual(str(vars(errors)[name]("told")), "told")

    def test_of_a_place(self):
        for name in OF_A_PLACE:
            error = vars(errors)[name](7)
            self.assertEqual(error.at, 7)
            self.assertIsInstance(error, errors.ScribeError)

    def test_of_others(self):
        error = errors.GrammarError("cycle", -1)
        self.assertEqual((error.rule, error.at), ("cycle", -1))
        self.assertEqual(errors.CycleError([((), "a")]).cycle, [((), "a")])
        self.assertEqual(errors.DescriptionError(3).line, 3)
        self.assertEqual(errors.LinkError("main").name, "main")

    def test_caught_as_one(self):
        for name in OF_ONE_STRING:
            with self.assertRaises(errors.ScribeError):
                raise vars(errors)[name]("told")


if __name__ == "__main__":
    unittest.main()
