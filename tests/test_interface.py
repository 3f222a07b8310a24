"""Each name of the interface is defined in its own file, with its arguments under their names."""

import importlib
import inspect
import unittest

FUNCTIONS = {
    "leastspare.disks": """count(disk) is_filling(disk,value) number_of(disk,filling) filling_at(disk,number)
        line(disk,filling,block) all_lines(disk) written(disk,filling,write) class_of(disk,content)""",
}
METHODS = {
    ("leastspare.disks", "Disk"): "__init__(self,blocks,contents) __eq__(self,other)",
    ("leastspare.drives", "Drive"): """__init__(self,disk,filling,*,torn=True) write(self,block,content) sync(self)
        pending(self) settled(self) filling(self) left(self) may_leave(self,value) cut(self,filling)""",
}


def told(function):
    return function.__name__ + str(inspect.signature(function)).replace(" ", "")


class Interface(unittest.TestCase):
    def test_functions(self):
        for name, texts in FUNCTIONS.items():
            module = importlib.import_module(name)
            for text in texts.split():
                with self.subTest(text):
                    function = getattr(module, text.partition("(")[0])
                    self.assertTrue(inspect.isfunction(function))
                    self.assertEqual(told(function), text)
                    self.assertEqual(function.__module__, name)

    def test_methods_stand_in_the_class_itself(self):
        for (name, word), texts in METHODS.items():
            kind = getattr(importlib.import_module(name), word)
            self.assertEqual(kind.__module__, name)
            for text in texts.split():
                with self.subTest(text):
                    method = vars(kind)[text.partition("(")[0]]
                    self.assertTrue(inspect.isfunction(method))
                    self.assertEqual(told(method), text)
