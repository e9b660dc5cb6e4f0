"""The examples of the document's sections, as they stand in it."""

import doctest
import unittest

EXAMPLES = {
    "numbers": '''
>>> from textworths.numbers import added, number, power, product, quotient
>>> [number(6, -4), added((1, 2), (1, 3)), product((2, 3), (3, 4)), quotient((1, 2), (3, 1)), power((2, 3), 3)]
[(-3, 2), (5, 6), (1, 2), (1, 6), (8, 27)]
''',
    "machines": '''
>>> from textworths.machines import Machine
>>> machine = Machine("ab", [(1, 1), (0, 1)], [(0, "a", 0, (1, 1)), (0, "a", 1, (1, 2)), (1, "b", 1, (1, 1)), (0, "b", 0, (1, 1))], [(0, 1), (1, 1)])
>>> [machine("a"), machine("aab"), machine(""), machine.courses("ab"), len(machine)]
[(1, 2), (1, 2), (0, 1), [([0, 0, 0], (0, 1)), ([0, 1, 1], (1, 2))], 2]
''',
}


class Examples(unittest.TestCase):
    def test_examples(self):
        for name, text in EXAMPLES.items():
            with self.subTest(name):
                example = doctest.DocTestParser().get_doctest(text, {}, name, None, None)
                said = []
                results = doctest.DocTestRunner(verbose=False).run(example, out=said.append)
                self.assertGreater(results.attempted, 0)
                self.assertEqual(results.failed, 0, "".join(said))


if __name__ == "__main__":
    unittest.main()
