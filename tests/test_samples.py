import unittest

from cases import Case
from samples import wrong_numbers
from webreckon.errors import InvalidNumber
from webreckon.likeness import count_renamings
from webreckon.samples import house, wheel
from webreckon.trees import count_trees
from webreckon.webs import Web


class Samples(Case):
    def test_house(self):
        self.assertEqual(house(), Web("abc", ("ab", "ab", "bc", "ac")))
        self.assertIs(house().__class__, Web)
        self.assertEqual(house(), house())

    def test_wheels(self):
        self.assertEqual(wheel(3).text(), "abcd ab ac ad bc cd bd")
        self.assertEqual(wheel(number=4).text(), "abcde ab ac ad ae bc cd de be")
        self.assertEqual(wheel(5).text(), "abcdef ab ac ad ae af bc cd de ef bf")
        self.assertIs(wheel(3).__class__, Web)
        self.assertEqual([count_trees(wheel(number)) for number in (3, 4, 5)], [16, 45, 121])
        self.assertEqual([count_renamings(wheel(number)) for number in (3, 4, 5)], [24, 8, 10])

    def test_errors(self):
        self.check_errors(wheel, [("number", 3, wrong_numbers(6, 3))])
        for number in (-1, 0, 1, 2, 6, 7, 10 ** 59):
            self.raises(InvalidNumber, "value", number, wheel, number)


if __name__ == "__main__":
    unittest.main()
