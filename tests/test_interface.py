"""The interface: names, arguments, and where each thing is defined."""

import inspect
import unittest

from ackbits import ears, errors, loads, mouths, notes, worlds

CLASSES = (
    (ears, "Ear", ["setting"], {"come": ["mark"], "tell": [], "last": []}),
    (
        mouths, "Mouth", ["setting"],
        {"send": [], "is_full": [], "hear": ["told"], "sure": [], "last": []},
    ),
    (loads, "Load", ["room", "wait"], {"put": [], "fill": [], "came": ["letters"], "waits": []}),
)
FUNCTIONS = (
    (worlds, "played", ["setting", "events"]),
    (worlds, "judged", ["setting"]),
    (worlds, "fewest", ["late", "ahead"]),
    (notes, "written", ["setting", "told"]),
    (notes, "read", ["setting", "text"]),
)
FIELDS = {"BadSetting": "word", "BadEvent": "number", "BadText": "place"}


def arguments(function):
    return list(inspect.signature(function).parameters)


class InterfaceTest(unittest.TestCase):
    def test_classes_and_functions_are_defined_in_their_files(self):
        for module, name, *_ in CLASSES + FUNCTIONS:
            self.assertEqual(getattr(module, name).__module__, module.__name__)

    def test_what_objects_are_made_of(self):
        for module, name, names, _ in CLASSES:
            self.assertEqual(arguments(getattr(module, name)), names)

    def test_methods_stand_in_the_class_itself(self):
        for module, name, _, methods in CLASSES:
            own = vars(getattr(module, name))
            for method, names in methods.items():
                self.assertIn(method, own)
                self.assertEqual(arguments(own[method])[1:], names, method)

    def test_arguments_of_functions(self):
        for module, name, names in FUNCTIONS:
            function = getattr(module, name)
            self.assertTrue(inspect.isfunction(function), name)
            self.assertEqual(arguments(function), names, name)

    def test_fields_of_refusals(self):
        for name, field in FIELDS.items():
            self.assertIn(field, vars(getattr(errors, name)(5)))

    def test_arguments_may_be_named(self):
        setting = (8, 1, 0, 1)
        ear, mouth = ears.Ear(setting=setting), mouths.Mouth(setting=setting)
        mouth.send()
        self.assertEqual(ear.come(mark=0), (0, "new"))
        self.assertEqual(mouth.hear(told=ear.tell()), [0])
        self.assertEqual(loads.Load(room=1, wait=1).came(letters=[0]), [])
        self.assertEqual(worlds.played(setting=setting, events=[("send",)]), ([(0, 0)], None))
        self.assertEqual(worlds.judged(setting=setting), ("safe",))
        self.assertEqual(worlds.fewest(late=0, ahead=1), (2, None))
        self.assertEqual(notes.written(setting=setting, told=(0, (1,))), "0 1")
        self.assertEqual(notes.read(setting=setting, text="0 1"), (0, (1,)))


if __name__ == "__main__":
    unittest.main()
