"""The interface of DOC.md: names, arguments, places of definition, and examples."""

import doctest
import importlib
import inspect
import pathlib
import unittest

README = pathlib.Path(__file__).resolve().parent.parent / "README.md"

# Each function and class, with its arguments, under the file that defines it.
NAMES = {
    "caisson.errors": {"CaissonError": None, "ShapeError": "(name)", "TalkError": "(answers)"},
    "caisson.shapes": {
        "Shape": "(*, fanout, depth, words, blocks, snapshots=0)",
        "prefixes": "(shape, indexes)",
        "needed": "(shape, indexes)",
    },
    "caisson.sealer": {"Sealer": "()"},
    "caisson.cells": {
        "leaf": "(words)",
        "node": "(entries)",
        "blank_volume": "(shape, sealer)",
    },
}

# Each method of a class, with its arguments.
METHODS = {
    ("caisson.shapes", "Shape"): {
        "leaves": "(self)",
        "way": "(self, index)",
        "cells": "(self)",
        "ample": "(self)",
    },
    ("caisson.sealer", "Sealer"): {"mark": "(self, text)", "knows": "(self, text, mark)"},
}

EXAMPLES = {
    "shapes": """
>>> from caisson.shapes import Shape, needed, prefixes
>>> shape = Shape(fanout=2, depth=2, words=1, blocks=9, snapshots=1)
>>> [shape.leaves(), shape.way(2), shape.cells(), shape.ample()]
[4, (1, 0), 7, 21]
>>> [prefixes(shape, [3, 0]), needed(shape, [3, 0])]
[[(0,), (1,), ()], 5]
""",
    "cells": """
>>> from caisson.cells import blank_volume
>>> from caisson.sealer import Sealer
>>> from caisson.shapes import Shape
>>> blank_volume(Shape(fanout=2, depth=1, words=1, blocks=2), Sealer())
([(0, ('leaf', 0)), (1, ('node', (0, 1), (0, 1)))], ('anchor', 0, ((1, 2),)))
""",
}


class InterfaceTest(unittest.TestCase):
    def test_each_name_is_defined_in_its_file(self):
        for module, names in NAMES.items():
            for name, arguments in names.items():
                with self.subTest(module=module, name=name):
                    worth = getattr(importlib.import_module(module), name)
                    self.assertEqual(worth.__module__, module)
                    if arguments is not None:
                        self.assertEqual(str(inspect.signature(worth)), arguments)

    def test_each_method_is_defined_in_its_class(self):
        for (module, name), methods in METHODS.items():
            owner = getattr(importlib.import_module(module), name)
            for method, arguments in methods.items():
                with self.subTest(name=name, method=method):
                    self.assertIn(method, vars(owner))
                    self.assertEqual(str(inspect.signature(vars(owner)[method])), arguments)

    def test_the_numbers_of_a_shape_are_passed_by_keyword_only(self):
        shapes = importlib.import_module("caisson.shapes")
        with self.assertRaises(TypeError):
            shapes.Shape(2, 1, 1, 2)
        with self.assertRaises(TypeError):
            shapes.Shape(fanout=2, depth=1, words=1)

    def test_arguments_may_be_passed_by_name(self):
        cells = importlib.import_module("caisson.cells")
        sealer = importlib.import_module("caisson.sealer").Sealer()
        shapes = importlib.import_module("caisson.shapes")
        shape = shapes.Shape(blocks=9, words=1, depth=2, fanout=2)
        self.assertEqual(shape.way(index=1), (0, 1))
        self.assertEqual(shapes.prefixes(shape=shape, indexes=[1]), [(0,), ()])
        self.assertEqual(shapes.needed(shape=shape, indexes=[1]), 3)
        self.assertEqual(sealer.mark(text=("a",)), 1)
        self.assertIs(sealer.knows(text=("a",), mark=1), True)
        self.assertEqual(cells.leaf(words=[1]), ("leaf", 1))
        self.assertEqual(cells.node(entries=[(1, 1)]), ("node", (1, 1)))
        self.assertEqual(cells.blank_volume(shape=shape, sealer=sealer)[1], ("anchor", 0, ((2, 4),)))


class ExamplesTest(unittest.TestCase):
    def run_examples(self, text, name):
        test = doctest.DocTestParser().get_doctest(text, {}, name, None, 0)
        self.assertTrue(test.examples)
        told = []
        result = doctest.DocTestRunner(verbose=False).run(test, out=told.append)
        self.assertEqual(result.failed, 0, "".join(told))

    def test_the_examples_of_the_document(self):
        for name, text in EXAMPLES.items():
            with self.subTest(name=name):
                self.run_examples(text, name)

    def test_the_examples_of_the_readme(self):
        text = README.read_text(encoding="utf-8")
        # The fences of the code blocks would count as expected output.
        lines = ["" if line.startswith("```") else line for line in text.splitlines()]
        self.run_examples("\n".join(lines), "README.md")


if __name__ == "__main__":
    unittest.main()
