"""The examples of the document, as they stand."""

import doctest
import unittest

HOUSE = '''
>>> from webreckon.leanings import count_sorts, ringless
>>> from webreckon.table import lot_counts, table, value
>>> from webreckon.trees import all_trees, count_trees
>>> from webreckon.webs import Web
>>> house = Web("abc", ("ab", "ab", "bc", "ac"))
>>> [count_trees(house), all_trees(house)[:3], table(house), value(house, (2, 1), (1, 1)), value(house, (2, 1), (0, 1))]
[5, ((0, 2), (0, 3), (1, 2)), ((0, 1, 1), (1, 1, 0), (1, 0, 0)), (10, 1), (6, 1)]
>>> [len(ringless(house)), count_sorts(house, "rings"), count_sorts(house, "both"), lot_counts(house)]
[6, 10, 5, ((5, 4, 1), (4, 1, 0), (1, 0, 0))]
'''

HEAPS = '''
>>> from webreckon.heaps import least_heap
>>> from webreckon.lasting import cyclic_parts, lasting_heaps, settled
>>> from webreckon.ranks import is_free, mate, rank
>>> from webreckon.webs import Web
>>> three = Web("abc", ("ab", "bc", "ac"))
>>> [lasting_heaps(three, "a"), cyclic_parts(three), least_heap(three, (0, 3, 0), "a"), settled(three, (0, 2, 2), "a")]
[((0, 0, 1), (0, 1, 0), (0, 1, 1)), (3,), (3, 0, 0), ((2, 1, 1), (0, 1, 1))]
>>> [is_free(three, (-1, 1, 0)), is_free(three, (2, -1, 0)), rank(three, (0, 0, 0)), mate(three, (1, 0, 0))]
[False, True, 0, (-1, 0, 0)]
'''

FLOWS = '''
>>> from webreckon.currents import bounded, count_currents, even_cuts
>>> from webreckon.dyes import count_dyes, dye_counts
>>> from webreckon.pulls import pull, steps
>>> from webreckon.scores import barring, is_row
>>> from webreckon.ways import amount
>>> from webreckon.webs import Web
>>> three = Web("abc", ("ab", "bc", "ac"))
>>> [dye_counts(three), count_dyes(three, 3), count_currents(three, 5), pull(three, "a", "b"), steps(three, "a", "b"), even_cuts(three)]
[(0, 2, -3, 1), 6, 4, (2, 3), (2, 1), ((),)]
>>> [is_row(three, (2, 1, 0)), is_row(three, (3, 0, 0)), barring(three, (3, 0, 0)), amount(three, (5, 2, 4), "a", "c"), bounded(three, ((1, 2), (0, 0), (0, 9)))]
[True, False, 'bc', 6, None]
'''


class Examples(unittest.TestCase):
    def check(self, text, name, many):
        example = doctest.DocTestParser().get_doctest(text, {}, name, None, 0)
        self.assertEqual(len(example.examples), many)
        report = []
        self.assertEqual(doctest.DocTestRunner().run(example, out=report.append).failed, 0, "".join(report))

    def test_house(self):
        self.check(HOUSE, "house", 7)

    def test_heaps(self):
        self.check(HEAPS, "heaps", 7)

    def test_flows(self):
        self.check(FLOWS, "flows", 9)


if __name__ == "__main__":
    unittest.main()
