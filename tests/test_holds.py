"""What holds, letters a to e, over houses of up to six parties, all rules, and each call that a letter bears on."""

import unittest

from cabinets.govern import fewest, part, smallest, standing, stands, tight, vote
from tests.houses import houses, how_many, parties_of, seats_of


def sets_of(house):
    return range(2 ** len(house[0]))


def none_or_answer(answer):
    """Where none stands, more is needed than any house has."""
    return 1201 if answer == [-33] else answer[0]


def least_of(r, house):
    """How few parties, how few seats one needs to stand."""
    return [none_or_answer(call(r, *house)) for call in (fewest, smallest)]


def parts_of(r, house):
    return [part(r, i, *house)[0] for i in range(len(house[0]))]


class WhatHolds(unittest.TestCase):
    def all_stand_too(self, first, second):
        """Whatever stands by the first rule, in the first house, stands by the second in the second, by each call."""
        with self.subTest(first=first, second=second):
            for s in sets_of(first[1]):
                self.assertLessEqual(stands(first[0], s, *first[1]), stands(second[0], s, *second[1]))
            self.assertLessEqual(set(standing(first[0], *first[1])[1:]), set(standing(second[0], *second[1])[1:]))
            for few, fewer in zip(least_of(*first), least_of(*second)):
                self.assertGreaterEqual(few, fewer)
            for little, more in zip(parts_of(*first), parts_of(*second)):
                self.assertLessEqual(little, more)
        return standing(first[0], *first[1])[0] < standing(second[0], *second[1])[0]


class LetterA(unittest.TestCase):
    def test_all_seats_vote(self):
        for house in houses(350):
            for s in sets_of(house):
                with self.subTest(s=s, house=house):
                    answer = vote(s, *house)
                    self.assertEqual(len(answer), 3)
                    self.assertEqual(sum(answer), sum(house[0]))
                    self.assertGreaterEqual(min(answer), 0)

    def test_each_in_one_way(self):
        # With 2^i seats of party i, each number of votes tells who voted so.
        met = [0, 0, 0]
        for seats, likes, hates in houses(350):
            counted = [2 ** i for i in range(len(seats))]
            for s in range(2 ** len(seats)):
                with self.subTest(s=s, parties=len(seats), likes=likes, hates=hates):
                    ways = [parties_of(number) for number in vote(s, counted, likes, hates)]
                    self.assertEqual(sorted(i for way in ways for i in way), list(range(len(seats))))
                    met = [m + len(way) for m, way in zip(met, ways)]
        self.assertGreater(min(met), 0)


class LetterB(WhatHolds):
    def test_what_stands_by_rule_1_stands_by_rule_0_and_that_by_rule_2(self):
        more = [0, 0]
        for house in houses(350):
            more[0] += self.all_stand_too((1, house), (0, house))
            more[1] += self.all_stand_too((0, house), (2, house))
        # The three rules must differ in these houses, or the order is not tried.
        self.assertGreater(min(more), 0)


class LetterC(unittest.TestCase):
    def have_somebody_in_common(self, large):
        for one in large:
            for other in large:
                self.assertTrue(parties_of(one) & parties_of(other), (one, other))
        return len(large)

    def test_two_sets_with_more_than_half_of_all_seats(self):
        met = 0
        for seats, _, hates in houses(350):
            with self.subTest(seats=seats, hates=hates):
                # Without likes only the parties of a set vote for it.
                large = [s for s in range(2 ** len(seats)) if 2 * vote(s, seats, [], hates)[0] > sum(seats)]
                met = max(met, self.have_somebody_in_common(large))
        self.assertGreater(met, 1)

    def test_two_that_stand_with_more_than_half_of_all_seats(self):
        met = 0
        for house in houses(350):
            seats = house[0]
            for r in range(3):
                with self.subTest(r=r, house=house):
                    large = [s for s in standing(r, *house)[1:] if 2 * seats_of(s, seats) > sum(seats)]
                    met = max(met, self.have_somebody_in_common(large))
        self.assertGreater(met, 1)

    def test_two_that_stand_by_rule_1_without_likes(self):
        met = 0
        for seats, _, hates in houses(350):
            for call in (standing, tight):
                with self.subTest(call=call.__name__, seats=seats, hates=hates):
                    met = max(met, self.have_somebody_in_common(call(1, seats, [], hates)[1:]))
        self.assertGreater(met, 1)


class LetterD(unittest.TestCase):
    def test_none_stands_with_fewer_parties_or_with_fewer_seats(self):
        for call, measure in ((fewest, how_many), (smallest, seats_of)):
            with_more = 0
            for house in houses(350):
                for r in range(3):
                    with self.subTest(call=call.__name__, r=r, house=house):
                        little = none_or_answer(call(r, *house))
                        for s in sets_of(house):
                            if measure(s, house[0]) < little:
                                self.assertEqual(stands(r, s, *house), [0])
                        for s in standing(r, *house)[1:]:
                            self.assertGreaterEqual(measure(s, house[0]), little)
                            with_more += measure(s, house[0]) > little
            self.assertGreater(with_more, 0)

    def test_that_with_fewest_parties_is_tight(self):
        met = set()
        for house in houses(350):
            for r in range(3):
                answer = fewest(r, *house)
                met.add(answer[0])
                with self.subTest(r=r, house=house):
                    self.assertLessEqual(set(answer[1:]), set(tight(r, *house)[1:]))
        # One party, several, and a house in which none stands are all tried.
        self.assertLessEqual({-33, 1, 2, 3}, met)

    def test_so_is_each_other_with_as_few_parties(self):
        met = 0
        for house in houses(350):
            for r in range(3):
                as_few = {s for s in standing(r, *house)[1:] if how_many(s, house[0]) == fewest(r, *house)[0]}
                met = max(met, len(as_few))
                with self.subTest(r=r, house=house):
                    self.assertLessEqual(as_few, set(tight(r, *house)[1:]))
        self.assertGreater(met, 1)


class LetterE(WhatHolds):
    def test_with_one_hate_less_all_that_stood_stands(self):
        more = [0, 0, 0]
        for seats, likes, hates in houses(210):
            for k in range(0, len(hates), 2):
                fewer = hates[:k] + hates[k + 2:]
                for r in range(3):
                    more[r] += self.all_stand_too((r, (seats, likes, hates)), (r, (seats, likes, fewer)))
        self.assertGreater(min(more), 0)


if __name__ == "__main__":
    unittest.main()
