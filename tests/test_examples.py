"""The examples at the end of section 1 of the document, word for word."""

import unittest

EXAMPLES = """
>>> from linemix.orders import Order
>>> from linemix.lines import lines_of
>>> from linemix.ties import single_ties
>>> order = Order(4, [(0, 2), (1, 2), (1, 3)])
>>> [lines_of(order), single_ties(order)]
[[(0, 1, 2, 3), (0, 1, 3, 2), (1, 0, 2, 3), (1, 0, 3, 2), (1, 3, 0, 2)], ((0, 3), (1, 0), (3, 2))]

>>> from linemix.shapes import chain
>>> square = chain(2) * chain(2)
>>> square.steps_told()
((0, 1), (0, 2), (0, 3), (1, 3), (2, 3))

>>> from linemix.texts import order_from
>>> order_from("order 3\\n0 < 1\\n1 < 0")
raises BadText(3)
"""


def shown(source, names):
    """What a statement shows: the value of its expression, or the error that it raises."""
    try:
        return repr(eval(source, names))
    except ValueError as error:
        told = ", ".join(repr(value) for value in vars(error).values())
        return f"raises {type(error).__name__}({told})"


class ExamplesTest(unittest.TestCase):
    def test_examples(self):
        examples = EXAMPLES.strip().split("\n\n")
        self.assertEqual(len(examples), 3)
        for example in examples:
            *statements, wanted = example.split("\n")
            *first, last = [line.removeprefix(">>> ") for line in statements]
            names = {}
            exec("\n".join(first), names)
            self.assertEqual(shown(last, names), wanted)


if __name__ == "__main__":
    unittest.main()
