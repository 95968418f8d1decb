"""Promise 2: vote, in ordinary houses and at the edges that the document names."""

import unittest

from cabinets.govern import vote
from tests.houses import houses, told_votes


class OrdinaryHouses(unittest.TestCase):
    def test_parties_of_the_set_vote_for_it_and_strangers_neither_way(self):
        self.assertEqual(vote(1, [10, 20, 30], [], []), [10, 0, 50])
        self.assertEqual(vote(2, [10, 20, 30], [], []), [20, 0, 40])
        self.assertEqual(vote(4, [10, 20, 30], [], []), [30, 0, 30])
        self.assertEqual(vote(5, [10, 20, 30], [], []), [40, 0, 20])
        self.assertEqual(vote(7, [10, 20, 30], [], []), [60, 0, 0])

    def test_who_likes_one_of_it_votes_for_it(self):
        self.assertEqual(vote(1, [10, 20, 30], [2, 0], []), [40, 0, 20])
        self.assertEqual(vote(3, [10, 20, 30], [2, 1], []), [60, 0, 0])

    def test_a_like_goes_one_way(self):
        self.assertEqual(vote(4, [10, 20, 30], [2, 0], []), [30, 0, 30])

    def test_who_hates_one_of_it_votes_against_it(self):
        self.assertEqual(vote(1, [10, 20, 30], [], [2, 0]), [10, 30, 20])
        self.assertEqual(vote(3, [10, 20, 30], [], [2, 1]), [30, 30, 0])

    def test_likes_and_hates_together(self):
        seats = [50, 40, 30, 20, 10, 5]
        likes = [3, 0, 4, 1, 5, 2]
        hates = [0, 2, 4, 5]
        self.assertEqual(vote(1, seats, likes, hates), [70, 30, 55])
        self.assertEqual(vote(2, seats, likes, hates), [50, 0, 105])
        self.assertEqual(vote(3, seats, likes, hates), [120, 30, 5])
        self.assertEqual(vote(4, seats, likes, hates), [35, 50, 70])
        self.assertEqual(vote(16, seats, likes, hates), [10, 5, 140])
        self.assertEqual(vote(63, seats, likes, hates), [155, 0, 0])

    def test_the_second_and_the_last_of_several_likes_and_hates_count(self):
        self.assertEqual(vote(1, [1, 2, 4, 8], [1, 2, 2, 3, 3, 0], []), [9, 0, 6])
        self.assertEqual(vote(1, [1, 2, 4, 8], [], [1, 2, 2, 3, 3, 0]), [1, 8, 6])

    def test_told_twice_counts_once(self):
        self.assertEqual(vote(1, [10, 20, 30], [2, 0, 2, 0], [1, 0, 0, 1]), [40, 20, 0])

    def test_likes_or_hates_two_of_it_votes_once(self):
        self.assertEqual(vote(3, [10, 20, 30], [2, 0, 2, 1], []), [60, 0, 0])
        self.assertEqual(vote(3, [10, 20, 30], [], [2, 0, 2, 1]), [30, 30, 0])

    def test_a_set_that_is_no_cabinet_is_voted_on_too(self):
        self.assertEqual(vote(3, [10, 20, 30], [], [0, 1]), [30, 0, 30])

    def test_six_parties_with_most_and_least_seats(self):
        self.assertEqual(vote(63, [200] * 6, [], []), [1200, 0, 0])
        self.assertEqual(vote(32, [1] * 6, [0, 5], [5, 4]), [2, 1, 3])


class Edges(unittest.TestCase):
    def test_nobody(self):
        self.assertEqual(vote(0, [], [], []), [0, 0, 0])

    def test_one_party(self):
        self.assertEqual(vote(0, [7], [], []), [0, 0, 7])
        self.assertEqual(vote(1, [7], [], []), [7, 0, 0])

    def test_just_half(self):
        self.assertEqual(vote(1, [30, 20, 10], [], [1, 0, 0, 2]), [30, 30, 0])
        self.assertEqual(vote(1, [30, 20, 10], [], []), [30, 0, 30])

    def test_who_likes_one_and_hates_another_votes_against(self):
        self.assertEqual(vote(3, [10, 20, 30], [2, 0], [2, 1]), [30, 30, 0])
        self.assertEqual(vote(3, [10, 20, 30], [2, 1], [0, 2]), [30, 30, 0])

    def test_who_likes_and_hates_the_same_votes_against(self):
        self.assertEqual(vote(1, [10, 20], [1, 0], [1, 0]), [10, 20, 0])
        self.assertEqual(vote(1, [10, 20], [1, 0], [0, 1]), [10, 20, 0])

    def test_who_likes_one_of_it_and_hates_one_outside_votes_for(self):
        self.assertEqual(vote(1, [10, 20, 30], [2, 0], [2, 1]), [40, 0, 20])

    def test_a_hate_told_the_other_way_about(self):
        for hates in ([0, 1], [1, 0]):
            self.assertEqual(vote(1, [10, 20, 30], [], hates), [10, 20, 30])
            self.assertEqual(vote(2, [10, 20, 30], [], hates), [20, 10, 30])

    def test_a_set_that_is_empty(self):
        self.assertEqual(vote(0, [10, 20, 30], [0, 1, 2, 1], [0, 2]), [0, 0, 60])

    def test_as_many_against_as_for(self):
        self.assertEqual(vote(1, [10, 10, 30], [], [0, 1]), [10, 10, 30])

    def test_a_cabinet_that_stands_without_a_majority(self):
        self.assertEqual(vote(1, [1, 200], [], []), [1, 0, 200])
        self.assertEqual(vote(1, [20, 10, 100], [], [0, 1]), [20, 10, 100])

    def test_a_like_of_one_who_is_not_of_it(self):
        self.assertEqual(vote(1, [10, 20, 30], [2, 1], []), [10, 0, 50])

    def test_a_hate_of_one_who_is_not_of_it(self):
        self.assertEqual(vote(1, [10, 20, 30], [], [2, 1]), [10, 0, 50])

    def test_a_like_of_a_like_is_none(self):
        self.assertEqual(vote(1, [10, 20, 30], [1, 0, 2, 1], []), [30, 0, 30])


class ToldOnceMore(unittest.TestCase):
    def test_as_the_words_say(self):
        for seats, likes, hates in houses(350, start=2):
            for s in range(2 ** len(seats)):
                with self.subTest(s=s, seats=seats, likes=likes, hates=hates):
                    self.assertEqual(vote(s, seats, likes, hates), told_votes(s, seats, likes, hates))


if __name__ == "__main__":
    unittest.main()
