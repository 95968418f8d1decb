"""Houses to test with, and the document's words told once more, over Python's sets."""

TOP = 4294967295


def houses(count, start=1):
    """So many houses of 0 to 6 parties, always the same ones: no random source."""
    state = [start]

    def draw(below):
        state[0] = (state[0] * 1103515245 + 12345) % 2 ** 31
        return (state[0] >> 12) % below

    def pairs(parties, most):
        if parties < 2:
            return []
        told = []
        for _ in range(draw(most + 1)):
            first = draw(parties)
            told += [first, (first + 1 + draw(parties - 1)) % parties]
        return told

    made = []
    for number in range(count):
        parties = number % 7
        # Small houses of few seats meet just half far more often.
        most_seats = (3, 6, 200)[draw(3)]
        seats = [1 + draw(most_seats) for _ in range(parties)]
        made.append((seats, pairs(parties, 7), pairs(parties, 4)))
    return made


def two_by_two(told):
    return {(told[k], told[k + 1]) for k in range(0, len(told), 2)}


def told_votes(s, seats, likes, hates):
    members = {i for i in range(len(seats)) if s & 2 ** i}
    enmity = {frozenset(two) for two in two_by_two(hates)}
    against = {i for i in range(len(seats))
               if i not in members and any(frozenset((i, j)) in enmity for j in members)}
    friends = {i for i in range(len(seats))
               if any((i, j) in two_by_two(likes) for j in members)}
    in_favour = members | (friends - against)
    return [sum(seats[i] for i in in_favour),
            sum(seats[i] for i in against),
            sum(seats[i] for i in range(len(seats)) if i not in in_favour | against)]


def told_stands(r, s, seats, likes, hates):
    members = {i for i in range(len(seats)) if s & 2 ** i}
    if not members or any({a, b} <= members for a, b in two_by_two(hates)):
        return [0]
    pro, con, _ = told_votes(s, seats, likes, hates)
    whole = sum(seats)
    return [int((pro > con, pro > whole - pro, con <= whole - con)[r])]


def told_standing(r, seats, likes, hates):
    those = [s for s in range(2 ** len(seats)) if told_stands(r, s, seats, likes, hates) == [1]]
    return [len(those), *those]


def told_tight(r, seats, likes, hates):
    def stays(s, i):
        return told_stands(r, s & ~2 ** i, seats, likes, hates) == [1]

    those = [s for s in told_standing(r, seats, likes, hates)[1:]
             if not any(stays(s, i) for i in range(len(seats)) if s & 2 ** i)]
    return [len(those), *those]


def parties_of(s):
    return {i for i in range(6) if s & 2 ** i}


def how_many(s, seats):
    return len(parties_of(s))


def seats_of(s, seats):
    return sum(seats[i] for i in parties_of(s))


def told_least(measure, r, seats, likes, hates):
    those = told_standing(r, seats, likes, hates)[1:]
    return list(min((measure(s, seats), s) for s in those)) if those else [-33]


def told_fewest(r, seats, likes, hates):
    return told_least(how_many, r, seats, likes, hates)


def told_smallest(r, seats, likes, hates):
    return told_least(seats_of, r, seats, likes, hates)


def told_part(r, i, seats, likes, hates):
    those = told_standing(r, seats, likes, hates)[1:]
    return [sum(i in parties_of(s) for s in those), len(those)]


# A house of six parties, and the same told by 40 likes' and 40 hates' numbers:
# the last like and the last hate stand there once alone.
SIX = ([50, 40, 30, 20, 10, 5], [3, 0, 4, 1, 5, 2], [0, 2, 4, 5])
SIX_BY_FORTY = (SIX[0], [3, 0, 5, 2] * 9 + [3, 0, 4, 1], [0, 2] * 19 + [4, 5])

# By rule 1 party 0 stands alone, no two of 0, 1 and 2 do, and the three do:
# party 3 likes 0, but hates 1 and 2.
ALONE_OR_THREE = ([20, 20, 20, 50], [3, 0], [3, 1, 3, 2])

# Each hates each other: none stands by any rule.
ALL_HATE = ([10, 10, 10], [], [0, 1, 1, 2, 2, 0])

# Two and two hate each other, so that nobody gets more than half for it: none stands by rule 1.
# By rule 0 party 2 stands alone, whom party 1 likes.
NO_MAJORITY = ([10, 10, 10, 10], [1, 2], [0, 1, 2, 3])

# By rule 1 party 5 stands alone, by the last like, and party 0 doesn't, by the last hate.
LAST_OF_FORTY = ([31, 30, 29, 28, 32, 27],
                 [0, 5, 2, 5, 2, 0, 3, 0] * 4 + [1, 0] * 3 + [1, 5],
                 [3, 4] * 19 + [0, 1])
