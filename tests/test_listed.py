"""Promise 3: what standing and tight, which both tell how many sets and then these, have in common."""

import unittest

from cabinets.govern import standing, tight
from tests.houses import ALL_HATE, SIX, SIX_BY_FORTY, houses


def by_each_rule(call, seats, likes, hates):
    return [call(r, seats, likes, hates) for r in range(3)]


class Listed(unittest.TestCase):
    def test_the_first_number_is_how_many_others_there_are_and_these_rise(self):
        for call in (standing, tight):
            longest = 0
            for house in houses(350):
                for r, answer in enumerate(by_each_rule(call, *house)):
                    with self.subTest(call=call.__name__, r=r, house=house):
                        self.assertEqual(answer[0], len(answer) - 1)
                        self.assertEqual(answer[1:], sorted(set(answer[1:])))
                    longest = max(longest, answer[0])
            self.assertGreater(longest, 2)

    def test_nobody(self):
        for call in (standing, tight):
            self.assertEqual(by_each_rule(call, [], [], []), [[0], [0], [0]])

    def test_one_party_stands_and_is_tight_alone(self):
        for call in (standing, tight):
            for held in (1, 7, 200):
                self.assertEqual(by_each_rule(call, [held], [], []), [[1, 1], [1, 1], [1, 1]])

    def test_a_set_that_is_empty_is_never_told(self):
        for call in (standing, tight):
            for house in houses(140):
                for answer in by_each_rule(call, *house):
                    self.assertNotIn(0, answer[1:])

    def test_none_stands(self):
        for call in (standing, tight):
            self.assertEqual(by_each_rule(call, *ALL_HATE), [[0], [0], [0]])

    def test_six_parties_by_forty_numbers_each(self):
        seats, likes, hates = SIX_BY_FORTY
        self.assertEqual((len(likes), len(hates)), (40, 40))
        for call in (standing, tight):
            told = by_each_rule(call, *SIX)
            self.assertEqual(by_each_rule(call, *SIX_BY_FORTY), told)
            self.assertNotEqual(by_each_rule(call, seats, likes[:-2], hates), told)
            self.assertNotEqual(by_each_rule(call, seats, likes, hates[:-2]), told)

    def test_six_parties_with_twenty_likes_and_all_hates_there_can_be(self):
        likes = [number for i in range(6) for step in (1, 2, 4) for number in (i, (i + step) % 6)] + [0, 3, 1, 4]
        pairs = [(i, j) for i in range(6) for j in range(i)]
        hates = [number for i, j in pairs for number in (i, j)] + [0, 1, 0, 2, 0, 3, 0, 4, 0, 5]
        self.assertEqual((len(likes), len(hates)), (40, 40))
        # Each alone has all others against it: only who has half of all seats stands, by rule 2 alone.
        self.assertEqual(by_each_rule(standing, [50, 10, 10, 10, 10, 10], likes, hates), [[0], [0], [1, 1]])
        self.assertEqual(by_each_rule(tight, [10, 10, 10, 10, 10, 50], likes, hates), [[0], [0], [1, 32]])
        self.assertEqual(by_each_rule(tight, [10, 10, 51, 10, 10, 10], likes, hates), [[1, 4], [1, 4], [1, 4]])


if __name__ == "__main__":
    unittest.main()
