"""Promise 1: which refusal is answered, by each call."""

import unittest

from cabinets.govern import fewest, part, smallest, standing, stands, tight, vote
from tests.houses import ALL_HATE, TOP

SEATS = [10, 20, 30]

# The calls that are told a rule and a house, and nothing else.
BY_RULE = (standing, tight, fewest, smallest)


class Refusals(unittest.TestCase):
    def set_refused(self, s, seats, likes, hates, answer=-2):
        """vote, and stands by each rule, answer this refusal alone."""
        with self.subTest(s=s, seats=seats, likes=likes, hates=hates):
            self.assertEqual(vote(s, seats, likes, hates), [answer])
            for r in range(3):
                self.assertEqual(stands(r, s, seats, likes, hates), [answer])

    def house_refused(self, s, seats, likes, hates):
        """All calls, by each rule, answer -22 alone."""
        self.set_refused(s, seats, likes, hates, -22)
        with self.subTest(seats=seats, likes=likes, hates=hates):
            for r in range(3):
                for call in BY_RULE:
                    self.assertEqual(call(r, seats, likes, hates), [-22])
                # Whether there is such a party or not.
                for i in (0, len(seats), TOP):
                    self.assertEqual(part(r, i, seats, likes, hates), [-22])

    def party_refused(self, i, seats, likes, hates):
        """part, by each rule, answers -2 alone."""
        with self.subTest(i=i, seats=seats, likes=likes, hates=hates):
            for r in range(3):
                self.assertEqual(part(r, i, seats, likes, hates), [-2])

    def not_refused(self, s, seats, likes, hates):
        with self.subTest(s=s, seats=seats, likes=likes, hates=hates):
            self.assertEqual(len(vote(s, seats, likes, hates)), 3)
            for r in range(3):
                self.assertIn(stands(r, s, seats, likes, hates), ([0], [1]))
                for call in (standing, tight):
                    answer = call(r, seats, likes, hates)
                    self.assertEqual(answer[0], len(answer) - 1)
                for call in (fewest, smallest):
                    # Where nobody stands, a refusal is due, but not that of a house not as told.
                    one_stands = standing(r, seats, likes, hates) != [0]
                    self.assertEqual(len(call(r, seats, likes, hates)), 2 if one_stands else 1)
                    self.assertNotEqual(call(r, seats, likes, hates), [-22])
                for i in range(len(seats)):
                    self.assertEqual(part(r, i, seats, likes, hates)[1:], standing(r, seats, likes, hates)[:1])


class HouseNotAsTold(Refusals):
    def test_more_than_six_parties(self):
        self.not_refused(1, [1] * 6, [], [])
        for parties in (7, 8, 9, 10):
            self.house_refused(1, [1] * parties, [], [])

    def test_a_party_with_no_seats(self):
        self.not_refused(1, [1, 1, 1], [], [])
        for seats in ([0], [0, 20, 30], [10, 0, 30], [10, 20, 0]):
            self.house_refused(1, seats, [], [])

    def test_a_party_with_more_than_200_seats(self):
        self.not_refused(1, [200, 200, 200], [], [])
        for seats in ([201], [201, 20, 30], [10, 201, 30], [10, 20, 201], [10, 20, TOP]):
            self.house_refused(1, seats, [], [])

    def test_an_odd_number_of_numbers(self):
        for told in ([0], [0, 1, 2], [0, 1] * 19 + [0]):
            self.house_refused(1, SEATS, told, [])
            self.house_refused(1, SEATS, [], told)

    def test_more_than_forty_numbers(self):
        self.not_refused(1, SEATS, [0, 1] * 20, [])
        self.not_refused(1, SEATS, [], [0, 1] * 20)
        self.not_refused(1, SEATS, [0, 1] * 20, [1, 2] * 20)
        for told in ([0, 1] * 20 + [0], [0, 1] * 21, [0, 1] * 22):
            self.house_refused(1, SEATS, told, [])
            self.house_refused(1, SEATS, [], told)

    def test_just_forty_numbers_are_all_heeded(self):
        self.assertEqual(vote(1, SEATS, [0, 1] * 19 + [2, 0], []), [40, 0, 20])
        self.assertEqual(vote(1, SEATS, [], [1, 2] * 19 + [2, 0]), [10, 30, 20])
        self.assertEqual(stands(0, 5, SEATS, [], [1, 2] * 19 + [2, 0]), [0])
        self.assertEqual(standing(1, SEATS, [0, 1] * 19 + [2, 0], []), [5, 1, 3, 5, 6, 7])
        self.assertEqual(standing(2, SEATS, [], [1, 2] * 19 + [2, 0]), [4, 1, 2, 3, 4])
        self.assertEqual(tight(1, SEATS, [0, 1] * 19 + [2, 0], []), [2, 1, 6])
        self.assertEqual(tight(2, SEATS, [], [1, 2] * 19 + [2, 0]), [3, 1, 2, 4])
        self.assertEqual(fewest(1, SEATS, [0, 1] * 19 + [2, 0], []), [1, 1])
        self.assertEqual(fewest(1, SEATS, [], [0, 1] * 19 + [2, 0]), [2, 6])
        self.assertEqual(smallest(1, SEATS, [0, 1] * 19 + [2, 0], []), [10, 1])
        self.assertEqual(smallest(1, SEATS, [], [0, 1] * 19 + [2, 0]), [50, 6])
        self.assertEqual(part(1, 0, SEATS, [0, 1] * 19 + [2, 0], []), [4, 5])
        self.assertEqual(part(1, 0, SEATS, [], [0, 1] * 19 + [2, 0]), [0, 1])

    def test_one_that_likes_or_hates_itself(self):
        for told in ([0, 0], [2, 2], [0, 1, 1, 1], [1, 1, 0, 1]):
            self.house_refused(1, SEATS, told, [])
            self.house_refused(1, SEATS, [], told)

    def test_one_that_there_is_not_at_the_first_place(self):
        for told in ([3, 0], [TOP, 0], [0, 1, 3, 1], [3, 1, 0, 1]):
            self.house_refused(1, SEATS, told, [])
            self.house_refused(1, SEATS, [], told)

    def test_one_that_there_is_not_at_the_second_place(self):
        self.not_refused(1, SEATS, [0, 2, 2, 0], [1, 2])
        for told in ([0, 3], [0, TOP], [0, 1, 1, 3], [1, 3, 0, 1]):
            self.house_refused(1, SEATS, told, [])
            self.house_refused(1, SEATS, [], told)

    def test_a_like_or_hate_where_there_is_nobody_or_one(self):
        for told in ([0, 1], [1, 0], [0, 0]):
            for seats in ([], [5]):
                self.house_refused(0, seats, told, [])
                self.house_refused(0, seats, [], told)

    def test_a_set_that_is_empty_or_no_cabinet_is_no_excuse(self):
        self.house_refused(0, [0], [], [])
        self.house_refused(3, SEATS, [0], [0, 1])
        self.house_refused(3, SEATS, [], [0, 1, 2, 2])


class RuleNotAsTold(unittest.TestCase):
    def test_a_rule_above_2(self):
        for r in (3, 4, 22, 2 ** 31, TOP):
            for s in (0, 1, 7):
                self.assertEqual(stands(r, s, SEATS, [], []), [-22])
            self.assertEqual(stands(r, 0, [], [], []), [-22])
            for call in BY_RULE:
                self.assertEqual(call(r, SEATS, [0, 1], [1, 2]), [-22])
                self.assertEqual(call(r, [7], [], []), [-22])
            for i in range(3):
                self.assertEqual(part(r, i, SEATS, [0, 1], [1, 2]), [-22])

    def test_a_rule_above_2_where_none_stands(self):
        for r in (3, TOP):
            for call in BY_RULE:
                self.assertEqual(call(r, [], [], []), [-22])
                self.assertEqual(call(r, *ALL_HATE), [-22])
            self.assertEqual(part(r, 0, *ALL_HATE), [-22])


class NoSuchParty(Refusals):
    def test_somebody_of_the_set_is_none(self):
        for s in (8, 9, 15, 16, 2 ** 31, 2 ** 31 + 1, TOP - 7, TOP):
            self.set_refused(s, SEATS, [0, 1], [1, 2])

    def test_the_last_set_that_there_is(self):
        for parties in range(7):
            self.not_refused(2 ** parties - 1, [1] * parties, [], [])
            self.set_refused(2 ** parties, [1] * parties, [], [])
            self.set_refused(TOP, [1] * parties, [], [])


    def test_there_is_no_such_party(self):
        for i in (3, 4, 5, 6, 32, 2 ** 31, TOP):
            self.party_refused(i, SEATS, [0, 1], [1, 2])

    def test_the_last_party_that_there_is(self):
        for parties in range(1, 7):
            self.assertEqual(part(0, parties - 1, [1] * parties, [], []), [2 ** (parties - 1), 2 ** parties - 1])
            self.party_refused(parties, [1] * parties, [], [])
            self.party_refused(TOP, [1] * parties, [], [])

    def test_no_party_at_all(self):
        for i in (0, 1, 5, 6, TOP):
            self.party_refused(i, [], [], [])

    def test_no_such_party_where_none_stands(self):
        for i in (3, TOP):
            self.party_refused(i, *ALL_HATE)


class TwoAtOnce(Refusals):
    def test_a_house_not_as_told_in_which_none_stands(self):
        seats, likes, hates = ALL_HATE
        self.house_refused(0, [], [0, 1], [])
        self.house_refused(0, [0], [], [])
        self.house_refused(1, seats, [0], hates)
        self.house_refused(1, seats, [3, 0], hates)
        self.house_refused(1, seats, likes, hates + [1, 1])
        self.house_refused(1, seats, likes, hates * 7)

    def test_a_house_not_as_told_and_no_such_party(self):
        for s in (8, 1024, TOP):
            self.house_refused(s, [10, 0, 30], [], [])
            self.house_refused(s, [10, 201, 30], [], [])
            for told in ([0], [0, 1] * 21, [1, 1], [3, 0], [0, 3]):
                self.house_refused(s, SEATS, told, [])
                self.house_refused(s, SEATS, [], told)
        self.house_refused(1024, [1] * 7, [], [])

    def test_a_rule_not_as_told_and_no_such_party(self):
        for r in (3, TOP):
            for s in (8, TOP):
                self.assertEqual(stands(r, s, SEATS, [], []), [-22])
            for i in (3, TOP):
                self.assertEqual(part(r, i, SEATS, [], []), [-22])
                self.assertEqual(part(r, i, [], [], []), [-22])

    def test_a_house_and_a_rule_not_as_told(self):
        for call in BY_RULE:
            self.assertEqual(call(3, [0], [], []), [-22])
            self.assertEqual(call(TOP, SEATS, [0], [1, 1]), [-22])

    def test_all_at_once(self):
        for call in BY_RULE:
            self.assertEqual(call(TOP, [0] * 10, [TOP] * 43, [0] * 44), [-22])
        self.assertEqual(vote(TOP, [0] * 10, [TOP] * 43, [0] * 44), [-22])
        self.assertEqual(stands(TOP, TOP, [0] * 10, [TOP] * 43, [0] * 44), [-22])
        self.assertEqual(part(TOP, TOP, [0] * 10, [TOP] * 43, [0] * 44), [-22])


if __name__ == "__main__":
    unittest.main()
