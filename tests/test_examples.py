"""The examples of the document, as they stand."""

import doctest
import unittest

HOUSE = '''
>>> from webreckon.leanings import count_sorts, ringless
>>> from webreckon.table import lot_counts, table, value
>>> from webreckon.trees import all_trees, count_trees
>>> from webreckon.webs import Web
>>> house = Web("abc", ("ab", "ab", "bc", "ac"))
>>> [count_trees(house), all_trees(house)[:3], table(house), value(house, (2, 1), (1, 1)), value(house, (2, 1), (0, 1))]
[5, ((0, 2), (0, 3), (1, 2)), ((0, 1, 1), (1, 1, 0), (1, 0, 0)), (10, 1), (6, 1)]
>>> [len(ringless(house)), count_sorts(house, "rings"), count_sorts(house, "both"), lot_counts(house)]
[6, 10, 5, ((5, 4, 1), (4, 1, 0), (1, 0, 0))]
'''


class Examples(unittest.TestCase):
    def check(self, text, name, many):
        example = doctest.DocTestParser().get_doctest(text, {}, name, None, 0)
        self.assertEqual(len(example.examples), many)
        report = []
        self.assertEqual(doctest.DocTestRunner().run(example, out=report.append).failed, 0, "".join(report))

    def test_house(self):
        self.check(HOUSE, "house", 7)


if __name__ == "__main__":
    unittest.main()
