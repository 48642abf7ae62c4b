"""The interface of DOC.md: names, arguments, places of definition, and examples."""

import doctest
import importlib
import inspect
import pathlib
import unittest

README = pathlib.Path(__file__).resolve().parent.parent / "README.md"

# Each function and class, with its arguments, under the file that defines it.
NAMES = {
    "caisson.errors": {"CaissonError": None, "ShapeError": "(name)", "TalkError": "(answers)"},
    "caisson.shapes": {
        "Shape": "(*, fanout, depth, words, blocks, snapshots=0)",
        "prefixes": "(shape, indexes)",
        "needed": "(shape, indexes)",
    },
    "caisson.sealer": {"Sealer": "()"},
    "caisson.cells": {
        "leaf": "(words)",
        "node": "(entries)",
        "blank_volume": "(shape, sealer)",
    },
    "caisson.talks": {
        "Talk": "(request)",
        "ReadTalk": "(shape, sealer, root, index)",
        "ScanTalk": "(shape, sealer, roots)",
        "ChangeTalk": "(requests, result)",
    },
    "caisson.commits": {"CommitTalk": "(shape, sealer, anchor, changed, free)"},
    "caisson.volumes": {"Volume": "(shape, sealer, anchor, used)", "mount": "(shape, sealer, anchor)"},
    "caisson.papers": {"paper_of": "(talk)", "check_paper": "(shape, sealer, root, index, paper)"},
}

# Each method of a class, with its arguments.
METHODS = {
    ("caisson.shapes", "Shape"): {
        "leaves": "(self)",
        "way": "(self, index)",
        "cells": "(self)",
        "ample": "(self)",
    },
    ("caisson.sealer", "Sealer"): {"mark": "(self, text)", "knows": "(self, text, mark)"},
    ("caisson.talks", "Talk"): {
        "__init__": "(self, request)",
        "request": "(self)",
        "has_ended": "(self)",
        "answer": "(self, value)",
    },
    ("caisson.talks", "ReadTalk"): {"__init__": "(self, shape, sealer, root, index)"},
    ("caisson.talks", "ScanTalk"): {"__init__": "(self, shape, sealer, roots)"},
    ("caisson.talks", "ChangeTalk"): {"__init__": "(self, requests, result)"},
    ("caisson.commits", "CommitTalk"): {
        "__init__": "(self, shape, sealer, anchor, changed, free)",
        "taken": "(self)",
    },
    ("caisson.volumes", "Volume"): {
        "__init__": "(self, shape, sealer, anchor, used)",
        "free": "(self)",
        "write": "(self, index, words)",
        "read": "(self, index)",
        "read_at": "(self, number, index)",
        "commit": "(self)",
        "sweep": "(self)",
        "snapshot": "(self)",
        "drop": "(self, number)",
        "finish": "(self, talk)",
    },
}

EXAMPLES = {
    "shapes": """
>>> from caisson.shapes import Shape, needed, prefixes
>>> shape = Shape(fanout=2, depth=2, words=1, blocks=9, snapshots=1)
>>> [shape.leaves(), shape.way(2), shape.cells(), shape.ample()]
[4, (1, 0), 7, 21]
>>> [prefixes(shape, [3, 0]), needed(shape, [3, 0])]
[[(0,), (1,), ()], 5]
""",
    "cells": """
>>> from caisson.cells import blank_volume
>>> from caisson.sealer import Sealer
>>> from caisson.shapes import Shape
>>> blank_volume(Shape(fanout=2, depth=1, words=1, blocks=2), Sealer())
([(0, ('leaf', 0)), (1, ('node', (0, 1), (0, 1)))], ('anchor', 0, ((1, 2),)))
""",
    "talks": """
>>> from caisson.cells import blank_volume
>>> from caisson.sealer import Sealer
>>> from caisson.shapes import Shape
>>> from caisson.talks import ReadTalk
>>> shape, sealer = Shape(fanout=2, depth=1, words=1, blocks=2), Sealer()
>>> writes, anchor = blank_volume(shape, sealer)
>>> talk = ReadTalk(shape, sealer, anchor[2][0], 1)
>>> talk.request()
('read', 1)
>>> talk.answer(("node", (0, 1), (0, 1)))
>>> talk.request()
('read', 0)
>>> talk.answer(("leaf", 9))
>>> talk.request()
('refused', 0)
""",
    "volumes": """
>>> from caisson.cells import blank_volume
>>> from caisson.sealer import Sealer
>>> from caisson.shapes import Shape
>>> from caisson.volumes import Volume
>>> shape, sealer = Shape(fanout=2, depth=1, words=1, blocks=5), Sealer()
>>> writes, anchor = blank_volume(shape, sealer)
>>> volume = Volume(shape, sealer, anchor, [0, 1])
>>> volume.write(1, [7])
>>> talk = volume.commit()
>>> talk.answer(("node", (0, 1), (0, 1)))
>>> requests = [talk.request()]
>>> for k in range(4):
...     talk.answer(None)
...     requests.append(talk.request())
>>> requests[:2]
[('write', 2, ('leaf', 7)), ('write', 3, ('node', (0, 1), (2, 3)))]
>>> requests[2:4]
[('flush',), ('anchor', ('anchor', 1, ((3, 4),)))]
>>> volume.finish(talk)
>>> [volume.anchor, volume.used, volume.read(0).request()]
[('anchor', 1, ((3, 4),)), [0, 1, 2, 3], ('read', 3)]
""",
}


class InterfaceTest(unittest.TestCase):
    def test_each_name_is_defined_in_its_file(self):
        for module, names in NAMES.items():
            for name, arguments in names.items():
                with self.subTest(module=module, name=name):
                    worth = getattr(importlib.import_module(module), name)
                    self.assertEqual(worth.__module__, module)
                    if arguments is not None:
                        self.assertEqual(str(inspect.signature(worth)), arguments)

    def test_each_method_is_defined_in_its_class(self):
        for (module, name), methods in METHODS.items():
            owner = getattr(importlib.import_module(module), name)
            for method, arguments in methods.items():
                with self.subTest(name=name, method=method):
                    self.assertIn(method, vars(owner))
                    self.assertEqual(str(inspect.signature(vars(owner)[method])), arguments)

    def test_the_numbers_of_a_shape_are_passed_by_keyword_only(self):
        shapes = importlib.import_module("caisson.shapes")
        with self.assertRaises(TypeError):
            shapes.Shape(2, 1, 1, 2)
        with self.assertRaises(TypeError):
            shapes.Shape(fanout=2, depth=1, words=1)

    def test_arguments_may_be_passed_by_name(self):
        cells = importlib.import_module("caisson.cells")
        sealer = importlib.import_module("caisson.sealer").Sealer()
        shapes = importlib.import_module("caisson.shapes")
        shape = shapes.Shape(blocks=9, words=1, depth=2, fanout=2)
        self.assertEqual(shape.way(index=1), (0, 1))
        self.assertEqual(shapes.prefixes(shape=shape, indexes=[1]), [(0,), ()])
        self.assertEqual(shapes.needed(shape=shape, indexes=[1]), 3)
        self.assertEqual(sealer.mark(text=("a",)), 1)
        self.assertIs(sealer.knows(text=("a",), mark=1), True)
        self.assertEqual(cells.leaf(words=[1]), ("leaf", 1))
        self.assertEqual(cells.node(entries=[(1, 1)]), ("node", (1, 1)))
        self.assertEqual(cells.blank_volume(shape=shape, sealer=sealer)[1], ("anchor", 0, ((2, 4),)))

    def test_arguments_of_talks_and_volumes_may_be_passed_by_name(self):
        errors, talks, commits, volumes, papers, shapes, sealers, cells = [
            importlib.import_module(f"caisson.{name}")
            for name in ("errors", "talks", "commits", "volumes", "papers", "shapes", "sealer", "cells")
        ]
        shape, sealer = shapes.Shape(blocks=9, words=1, depth=1, fanout=2, snapshots=1), sealers.Sealer()
        anchor = cells.blank_volume(shape, sealer)[1]
        self.assertEqual(errors.TalkError(answers=3).answers, 3)
        talk = talks.Talk(request=("read", 4))
        talk.answer(value=5)
        self.assertEqual(talk.request(), ("done", 5))
        read = talks.ReadTalk(shape=shape, sealer=sealer, root=(1, 2), index=0)
        self.assertEqual(read.request(), ("read", 1))
        self.assertEqual(talks.ScanTalk(shape=shape, sealer=sealer, roots=((1, 2),)).request(), ("read", 1))
        self.assertEqual(talks.ChangeTalk(requests=[("flush",)], result=1).request(), ("flush",))
        commit = commits.CommitTalk(shape=shape, sealer=sealer, anchor=anchor, changed={0: (1,)}, free=[2])
        self.assertEqual(commit.request(), ("done", ("full", 2)))
        volume = volumes.Volume(shape=shape, sealer=sealer, anchor=anchor, used=[0, 1])
        volume.write(index=1, words=[5])
        self.assertEqual(volume.read(index=1).request(), ("done", (5,)))
        self.assertEqual(volume.read_at(number=0, index=1).request(), ("read", 1))
        talk = volume.snapshot()
        talk.answer(value=None)
        volume.finish(talk=talk)
        self.assertEqual(volume.drop(number=1).request(), ("anchor", ("anchor", 2, ((1, 2),))))
        self.assertEqual(volumes.mount(shape=shape, sealer=sealer, anchor=anchor).request(), ("read", 1))
        self.assertEqual(papers.paper_of(talk=read), [])
        self.assertIsNone(papers.check_paper(shape=shape, sealer=sealer, root=(1, 2), index=0, paper=[]))

    def test_fields_are_set_on_each_object(self):
        talks, commits, volumes, shapes, sealers, cells = [
            importlib.import_module(f"caisson.{name}")
            for name in ("talks", "commits", "volumes", "shapes", "sealer", "cells")
        ]
        shape, sealer = shapes.Shape(fanout=2, depth=1, words=1, blocks=9), sealers.Sealer()
        anchor = cells.blank_volume(shape, sealer)[1]
        read = talks.ReadTalk(shape, sealer, (1, 2), 0)
        commit = commits.CommitTalk(shape, sealer, anchor, {}, [])
        others = [talks.Talk(("flush",)), talks.ScanTalk(shape, sealer, ((1, 2),)), talks.ChangeTalk([("flush",)], 1)]
        for talk in [read, commit] + others:
            self.assertIsInstance(talk, talks.Talk)
            self.assertEqual(vars(talk)["answers"], 0)
        self.assertEqual(vars(read)["cells"], [])
        fields = vars(volumes.Volume(shape, sealer, anchor, [0, 1]))
        self.assertEqual([fields["anchor"], fields["used"], fields["changed"]], [anchor, [0, 1], {}])


class ExamplesTest(unittest.TestCase):
    def run_examples(self, text, name):
        test = doctest.DocTestParser().get_doctest(text, {}, name, None, 0)
        self.assertTrue(test.examples)
        told = []
        result = doctest.DocTestRunner(verbose=False).run(test, out=told.append)
        self.assertEqual(result.failed, 0, "".join(told))

    def test_the_examples_of_the_document(self):
        for name, text in EXAMPLES.items():
            with self.subTest(name=name):
                self.run_examples(text, name)

    def test_the_examples_of_the_readme(self):
        text = README.read_text(encoding="utf-8")
        # The fences of the code blocks would count as expected output.
        lines = ["" if line.startswith("```") else line for line in text.splitlines()]
        self.run_examples("\n".join(lines), "README.md")


if __name__ == "__main__":
    unittest.main()
