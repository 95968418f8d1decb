"""Promise 3: what fewest and smallest, which tell how little one needs and then the least such set, have in common."""

import unittest

from cabinets.govern import fewest, smallest, standing, stands
from tests.houses import (ALL_HATE, LAST_OF_FORTY, SIX, SIX_BY_FORTY, houses, how_many, seats_of, told_fewest,
                          told_smallest)

# Of each call: what is to be little of the set that it tells.
BOTH = ((fewest, how_many), (smallest, seats_of))


def by_each_rule(call, seats, likes, hates):
    return [call(r, seats, likes, hates) for r in range(3)]


class NoneStands(unittest.TestCase):
    def test_nobody(self):
        for call, _ in BOTH:
            self.assertEqual(by_each_rule(call, [], [], []), [[-33], [-33], [-33]])

    def test_a_set_that_is_empty_has_fewest_and_yet_does_not_stand(self):
        # By rule 2 nobody is against it.
        self.assertEqual(by_each_rule(fewest, [10, 20], [], [0, 1]), [[1, 2], [1, 2], [1, 2]])
        self.assertEqual(by_each_rule(smallest, [10, 20], [], [0, 1]), [[20, 2], [20, 2], [20, 2]])

    def test_all_hate_each_other(self):
        for call, _ in BOTH:
            self.assertEqual(by_each_rule(call, *ALL_HATE), [[-33], [-33], [-33]])

    def test_just_where_standing_tells_none(self):
        for call, _ in BOTH:
            none = [0, 0, 0]
            for house in houses(350):
                for r in range(3):
                    with self.subTest(call=call.__name__, r=r, house=house):
                        self.assertEqual(call(r, *house) == [-33], standing(r, *house) == [0])
                    none[r] += house[0] != [] and standing(r, *house) == [0]
            # By each rule there are houses, not of nobody, in which none stands.
            self.assertGreater(min(none), 0)


def each_told():
    """By each call and each rule, of each house in which one stands."""
    for call, measure in BOTH:
        for house in houses(350):
            for r in range(3):
                if standing(r, *house) != [0]:
                    yield call, measure, r, house


class WhatIsTold(unittest.TestCase):
    def test_the_first_number_is_how_little_the_set_told_has(self):
        for call, measure, r, house in each_told():
            with self.subTest(call=call.__name__, r=r, house=house):
                little, s = call(r, *house)
                self.assertEqual(little, measure(s, house[0]))

    def test_the_set_told_stands(self):
        for call, _, r, house in each_told():
            with self.subTest(call=call.__name__, r=r, house=house):
                self.assertEqual(stands(r, call(r, *house)[1], *house), [1])

    def test_of_those_with_as_little_the_least(self):
        greater = lesser = 0
        for call, measure, r, house in each_told():
            with self.subTest(call=call.__name__, r=r, house=house):
                little, s = call(r, *house)
                as_little = [other for other in standing(r, *house)[1:] if measure(other, house[0]) == little]
                self.assertEqual(s, min(as_little))
                greater += len(as_little) > 1
                lesser += s > standing(r, *house)[1]
        # There are others with as little, and lesser sets with more.
        self.assertGreater(min(greater, lesser), 0)

    def test_as_the_words_told_once_more(self):
        for call, once_more in ((fewest, told_fewest), (smallest, told_smallest)):
            for house in houses(350, start=2):
                for r in range(3):
                    with self.subTest(call=call.__name__, r=r, house=house):
                        self.assertEqual(call(r, *house), once_more(r, *house))


class SixByForty(unittest.TestCase):
    def test_told_by_forty_numbers_as_by_few(self):
        for call, _ in BOTH:
            self.assertEqual(by_each_rule(call, *SIX_BY_FORTY), by_each_rule(call, *SIX))

    def test_the_last_like_and_the_last_hate_are_heeded(self):
        seats, likes, hates = LAST_OF_FORTY
        self.assertEqual((len(likes), len(hates)), (40, 40))
        self.assertEqual(fewest(1, seats, likes, hates), [1, 32])
        self.assertEqual(fewest(1, seats, likes[:-2], hates), [2, 17])
        self.assertEqual(fewest(1, seats, likes, hates[:-2]), [1, 1])
        self.assertEqual(smallest(1, seats, likes, hates), [27, 32])
        self.assertEqual(smallest(1, seats, likes[:-2], hates), [55, 40])
        self.assertEqual(smallest(1, seats, likes[:-2], hates[:-2]), [31, 1])


if __name__ == "__main__":
    unittest.main()
