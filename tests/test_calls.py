"""The interface: what is handed in stays as it was, nothing is kept or printed, and the kinds of what is given back."""

import contextlib
import inspect
import io
import unittest

from cabinets import govern
from tests.houses import ALL_HATE, TOP, houses


def refuse_change(self, *args, **kwargs):
    raise AssertionError("a list that was handed in is changed")


class Untouched(list):
    """A list that tells of any change at once, one that is undone later too."""

    append = clear = extend = insert = pop = remove = reverse = sort = refuse_change
    __setitem__ = __delitem__ = __iadd__ = __imul__ = refuse_change


# Of each call, ahead of the house: answered, refused by -2, by -22.
HOUSE = ([10, 20, 30, 5], [2, 0, 3, 1], [1, 2])
CALLS = [
    (govern.vote, (1,), HOUSE),
    (govern.vote, (0,), HOUSE),
    (govern.vote, (TOP,), HOUSE),
    (govern.vote, (1,), ([10, 0], [0, 1], [])),
    (govern.vote, (1,), ([10, 5], [0, 1, 1], [])),
    (govern.vote, (0,), ([], [], [])),
    (govern.stands, (0, 1), HOUSE),
    (govern.stands, (1, 1), HOUSE),
    (govern.stands, (2, 6), HOUSE),
    (govern.stands, (2, TOP), HOUSE),
    (govern.stands, (3, 1), HOUSE),
    (govern.stands, (1, 1), ([10, 5], [], [0, 2])),
    (govern.stands, (1, 0), ([], [], [])),
    (govern.part, (0, 0), HOUSE),
    (govern.part, (1, 3), HOUSE),
    (govern.part, (2, 1), HOUSE),
    (govern.part, (2, 4), HOUSE),
    (govern.part, (2, TOP), HOUSE),
    (govern.part, (3, 1), HOUSE),
    (govern.part, (0, 0), ALL_HATE),
    (govern.part, (1, 0), ([10, 5], [], [1, 1])),
    (govern.part, (1, 0), ([], [], [])),
]
BY_RULE = (govern.standing, govern.tight, govern.fewest, govern.smallest)
for each in BY_RULE:
    for rule in (0, 1, 2, 3, TOP):
        CALLS.append((each, (rule,), HOUSE))
    CALLS.append((each, (0,), ([], [], [])))
    CALLS.append((each, (0,), ALL_HATE))
    CALLS.append((each, (1,), ([10, 201], [], [])))
    CALLS.append((each, (1,), ([10, 5], [0, 0], [])))


class EachCallByItself(unittest.TestCase):
    def test_names_and_arguments(self):
        self.assertEqual(list(inspect.signature(govern.vote).parameters), ["s", "seats", "likes", "hates"])
        self.assertEqual(list(inspect.signature(govern.stands).parameters), ["r", "s", "seats", "likes", "hates"])
        self.assertEqual(govern.vote(s=1, seats=[1], likes=[], hates=[]), [1, 0, 0])
        self.assertEqual(govern.stands(r=0, s=1, seats=[1], likes=[], hates=[]), [1])
        self.assertEqual(list(inspect.signature(govern.part).parameters), ["r", "i", "seats", "likes", "hates"])
        self.assertEqual(govern.part(r=0, i=0, seats=[1], likes=[], hates=[]), [1, 1])
        for call in BY_RULE:
            self.assertEqual(list(inspect.signature(call).parameters), ["r", "seats", "likes", "hates"])
            self.assertEqual(call(r=0, seats=[1], likes=[], hates=[]), [1, 1])

    def test_what_is_handed_in_is_not_changed(self):
        for call, ahead, house in CALLS:
            handed = [list(part) for part in house]
            call(*ahead, *handed)
            self.assertEqual(handed, list(house))

    def test_nor_changed_for_a_while(self):
        for call, ahead, house in CALLS:
            call(*ahead, *[Untouched(part) for part in house])

    def test_one_list_may_be_handed_in_twice(self):
        both = [0, 1]
        self.assertEqual(govern.vote(1, [10, 20], both, both), [10, 20, 0])
        self.assertEqual(govern.standing(0, [10, 20], both, both), [1, 2])
        self.assertEqual(govern.tight(0, [10, 20], both, both), [1, 2])
        self.assertEqual(govern.fewest(0, [10, 20], both, both), [1, 2])
        self.assertEqual(govern.smallest(0, [10, 20], both, both), [20, 2])
        self.assertEqual(govern.stands(0, 2, [10, 20], both, both), [1])
        self.assertEqual(govern.part(0, 0, [10, 20], both, both), [0, 1])
        self.assertEqual(both, [0, 1])

    def test_the_same_call_twice_answers_the_same(self):
        first = [call(*ahead, *house) for call, ahead, house in CALLS]
        second = [call(*ahead, *house) for call, ahead, house in reversed(CALLS)]
        self.assertEqual(first, second[::-1])

    def test_calls_of_others_in_between_change_nothing(self):
        for call, ahead, house in CALLS:
            first = call(*ahead, *house)
            for other, before, other_house in CALLS:
                if other is not call:
                    other(*before, *other_house)
            self.assertEqual(call(*ahead, *house), first)

    def test_changing_an_answer_changes_no_later_one(self):
        for call, ahead, house in CALLS:
            answer = call(*ahead, *house)
            kept = list(answer)
            answer[0] = 77
            answer.append(78)
            self.assertEqual(call(*ahead, *house), kept)

    def test_an_answer_is_a_list_of_whole_numbers(self):
        for call, ahead, house in CALLS:
            answer = call(*ahead, *house)
            self.assertIs(type(answer), list)
            self.assertEqual([type(number) for number in answer], [int] * len(answer))

    def test_only_a_refusal_is_below_0_and_that_alone(self):
        met = set()
        for call, ahead, house in CALLS:
            answer = call(*ahead, *house)
            if min(answer) < 0:
                self.assertEqual(len(answer), 1)
                met.add((call.__name__, answer[0]))
        every = {call.__name__ for call, _, _ in CALLS}
        self.assertEqual(met, {(name, -22) for name in every}
                         | {("vote", -2), ("stands", -2), ("part", -2), ("fewest", -33), ("smallest", -33)})

    def test_how_many_numbers_are_answered(self):
        for seats, likes, hates in houses(70):
            for s in range(2 ** len(seats) + 2):
                for call, ahead, many in ((govern.vote, (s,), 3), (govern.stands, (1, s), 1)):
                    answer = call(*ahead, seats, likes, hates)
                    self.assertEqual(len(answer), 1 if answer[0] < 0 else many)
            for r in range(5):
                for call in (govern.standing, govern.tight):
                    answer = call(r, seats, likes, hates)
                    self.assertEqual(len(answer), 1 if answer[0] < 0 else 1 + answer[0])
                for call in (govern.fewest, govern.smallest):
                    answer = call(r, seats, likes, hates)
                    self.assertEqual(len(answer), 1 if answer[0] < 0 else 2)
                for i in range(len(seats) + 2):
                    answer = govern.part(r, i, seats, likes, hates)
                    self.assertEqual(len(answer), 1 if answer[0] < 0 else 2)

    def test_nothing_is_printed(self):
        out, err = io.StringIO(), io.StringIO()
        with contextlib.redirect_stdout(out), contextlib.redirect_stderr(err):
            for call, ahead, house in CALLS:
                call(*ahead, *house)
        self.assertEqual((out.getvalue(), err.getvalue()), ("", ""))


if __name__ == "__main__":
    unittest.main()
