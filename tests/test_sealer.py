"""Promises 0.5 and 2.1: the sealer gives every text its own mark."""

import itertools
import unittest

from caisson.sealer import Sealer

DEEP = 100000


def nested(depth, core):
    """Returns a core in so many tuples around it."""
    text = core
    for _ in range(depth):
        text = (text,)
    return text


def chained(depth, core):
    """Returns a chain of pairs, as deep as it is long."""
    text = core
    for at in range(depth):
        text = (at, text)
    return text


class MarkTest(unittest.TestCase):
    def test_marks_in_the_order_of_the_first_marking(self):
        sealer = Sealer()
        texts = [("leaf", 0), ("leaf", 1), (), ("node", (0, 1), (0, 1)), ("a",)]
        self.assertEqual([sealer.mark(text) for text in texts], [1, 2, 3, 4, 5])

    def test_a_text_that_has_a_mark_keeps_it(self):
        sealer = Sealer()
        marks = [sealer.mark(("leaf", word)) for word in (7, 8, 7, 7, 9, 8, 10)]
        self.assertEqual(marks, [1, 2, 1, 1, 3, 2, 4])

    def test_an_equal_text_made_anew_is_the_same_text(self):
        sealer = Sealer()
        self.assertEqual(sealer.mark(("node",) + tuple([(0, 1)] * 3)), 1)
        self.assertEqual(sealer.mark(tuple(["no" + "de", (0, 1), (0, 1), (0, 1)])), 1)

    def test_no_mark_is_given_to_two_texts(self):
        parts = [0, 1, 2, -1, -2, 10**40, "", "0", "1", "leaf", "(", ",", "None"]
        parts += [(), (0,), ("0",), (1, 1), ((),), (0, 1)]
        texts = []
        for many in (0, 1, 2, 3):
            texts.extend(itertools.product(parts, repeat=many))
        sealer = Sealer()
        self.assertEqual([sealer.mark(text) for text in texts], list(range(1, len(texts) + 1)))
        self.assertEqual([sealer.mark(text) for text in texts], list(range(1, len(texts) + 1)))

    def test_texts_that_differ_in_how_their_tuples_close(self):
        texts = [
            (1, 2, 3), (1, (2, 3)), ((1, 2), 3), ((1,), 2, 3), (1, 2, (3,)), ((1, 2, 3),), (1, (2,), 3),
            ((), ((),)), (((),), ()), ((), (), ()), (((), ()),), ((((),),),),
        ]
        sealer = Sealer()
        self.assertEqual([sealer.mark(text) for text in texts], list(range(1, len(texts) + 1)))

    def test_deeply_nested_texts(self):
        sealer = Sealer()
        makers = [(nested, "a"), (nested, "b"), (chained, "a"), (chained, 0), (chained, ())]
        for mark, (make, core) in enumerate(makers, start=1):
            self.assertEqual(sealer.mark(make(DEEP, core)), mark)
        self.assertEqual(sealer.mark(nested(DEEP + 1, "a")), 6)
        for mark, (make, core) in enumerate(makers, start=1):
            self.assertEqual(sealer.mark(make(DEEP, core)), mark)
            self.assertIs(sealer.knows(make(DEEP, core), mark), True)
            self.assertIs(sealer.knows(make(DEEP, core), mark + 1), False)
            self.assertIs(sealer.knows(make(DEEP - 1, core), mark), False)

    def test_two_sealers_side_by_side(self):
        one, other = Sealer(), Sealer()
        self.assertEqual([one.mark(("a",)), one.mark(("b",))], [1, 2])
        self.assertEqual([other.mark(("b",)), other.mark(("c",))], [1, 2])
        self.assertEqual([one.knows(("b",), 2), other.knows(("b",), 2)], [True, False])
        self.assertEqual([one.knows(("c",), 2), other.knows(("c",), 2)], [False, True])
        self.assertEqual([one.mark(("a",)), other.mark(("b",))], [1, 1])


class KnowsTest(unittest.TestCase):
    def setUp(self):
        self.texts = [
            ("leaf", 1, 2), ("leaf", 1, 3), ("leaf", 2, 2), ("loaf", 1, 2), ("leaf", 1), ("leaf", 1, 2, 0),
            ("node", (0, 1), (0, 1)), ("node", (0, 1), (0, 2)), ("node", (0, 1)), (("leaf", 1, 2),), (),
        ]
        self.sealer = Sealer()
        for text in self.texts:
            self.sealer.mark(text)

    def test_each_text_with_each_mark(self):
        for at, text in enumerate(self.texts):
            for mark in range(-3, len(self.texts) + 4):
                self.assertIs(self.sealer.knows(text, mark), mark == at + 1, (text, mark))

    def test_a_mark_that_is_far_off(self):
        for mark in (-(10**30), 10**30):
            self.assertIs(self.sealer.knows(("leaf", 1, 2), mark), False)

    def test_texts_that_have_no_mark(self):
        strangers = [
            ("leaf", 1, 4), ("leaf", "1", 2), ("leaf", 1, 2, 0, 0), ("leaf",), ("node",), ("node", 0, 1, 0, 1),
            ("leaf", 1, None), ("leaf", 1, (2,)), ((),), (None,), ("leaf 1 2",), (1, 2), ("leaf", (1, 2)),
        ]
        for text in strangers:
            for mark in range(-1, len(self.texts) + 2):
                self.assertIs(self.sealer.knows(text, mark), False, (text, mark))

    def test_answers_that_are_no_tuples(self):
        for answer in (None, 0, 1, -1, 10**5000, "", "leaf", "node", "()", "\ud800"):
            for mark in range(-1, len(self.texts) + 2):
                self.assertIs(self.sealer.knows(answer, mark), False)

    def test_the_empty_tuple(self):
        self.assertIs(self.sealer.knows((), len(self.texts)), True)
        fresh = Sealer()
        for mark in (-1, 0, 1):
            self.assertIs(fresh.knows((), mark), False)
            self.assertIs(fresh.knows(None, mark), False)

    def test_deeply_nested_answers(self):
        for core in (None, 0, "leaf", ()):
            for answer in (nested(DEEP, core), chained(DEEP, core), ("leaf", 1, nested(DEEP, core))):
                for mark in range(-1, len(self.texts) + 2):
                    self.assertIs(self.sealer.knows(answer, mark), False)

    def test_an_answer_that_is_far_larger_than_it_takes_room(self):
        answer = ()
        for _ in range(500):
            answer = (answer, answer)
        for mark in range(-1, len(self.texts) + 2):
            self.assertIs(self.sealer.knows(answer, mark), False)
            self.assertIs(self.sealer.knows(("node", answer, answer), mark), False)

    def test_asking_gives_no_mark(self):
        sealer = Sealer()
        for mark in (0, 1, 2):
            self.assertIs(sealer.knows(("new",), mark), False)
        self.assertIs(sealer.knows(("new",), 1), False)
        self.assertEqual(sealer.mark(("other",)), 1)
        self.assertIs(sealer.knows(("new",), 2), False)
        self.assertEqual(sealer.mark(("new",)), 2)
        self.assertIs(sealer.knows(("new",), 2), True)

    def test_a_mark_for_one_and_the_text_of_another(self):
        self.assertIs(self.sealer.knows(("leaf", 1, 2), 2), False)
        self.assertIs(self.sealer.knows(("leaf", 1, 3), 1), False)


if __name__ == "__main__":
    unittest.main()
