"""The interface: names, arguments, and where each thing is defined."""

import inspect
import unittest

from ackbits import ears, mouths

CLASSES = (
    (ears, "Ear", {"come": ["mark"], "tell": [], "last": []}),
    (mouths, "Mouth", {"send": [], "is_full": [], "hear": ["told"], "sure": [], "last": []}),
)


def arguments(function):
    """The names of a method's arguments, but for its own object."""
    return list(inspect.signature(function).parameters)[1:]


class InterfaceTest(unittest.TestCase):
    def test_classes_are_defined_in_their_files(self):
        for module, name, _ in CLASSES:
            self.assertEqual(getattr(module, name).__module__, module.__name__)

    def test_objects_are_made_of_a_setting(self):
        for module, name, _ in CLASSES:
            self.assertEqual(arguments(getattr(module, name).__init__), ["setting"])

    def test_methods_stand_in_the_class_itself(self):
        for module, name, methods in CLASSES:
            own = vars(getattr(module, name))
            for method, names in methods.items():
                self.assertIn(method, own)
                self.assertEqual(arguments(own[method]), names, method)

    def test_arguments_may_be_named(self):
        ear, mouth = ears.Ear(setting=(8, 1, 0, 1)), mouths.Mouth(setting=(8, 1, 0, 1))
        mouth.send()
        self.assertEqual(ear.come(mark=0), (0, "new"))
        self.assertEqual(mouth.hear(told=ear.tell()), [0])


if __name__ == "__main__":
    unittest.main()
