"""Houses to test with, and the document's words told once more, over Python's sets."""

TOP = 4294967295


def houses(count, start=1):
    """So many houses of 0 to 6 parties, always the same ones: no random source."""
    state = [start]

    def draw(below):
        state[0] = (state[0] * 1103515245 + 12345) % 2 ** 31
        return (state[0] >> 12) % below

    def pairs(parties, most):
        if parties < 2:
            return []
        told = []
        for _ in range(draw(most + 1)):
            first = draw(parties)
            told += [first, (first + 1 + draw(parties - 1)) % parties]
        return told

    made = []
    for number in range(count):
        parties = number % 7
        # Small houses of few seats meet just half far more often.
        most_seats = (3, 6, 200)[draw(3)]
        seats = [1 + draw(most_seats) for _ in range(parties)]
        made.append((seats, pairs(parties, 7), pairs(parties, 4)))
    return made


def two_by_two(told):
    return {(told[k], told[k + 1]) for k in range(0, len(told), 2)}


def told_votes(s, seats, likes, hates):
    members = {i for i in range(len(seats)) if s & 2 ** i}
    enmity = {frozenset(two) for two in two_by_two(hates)}
    against = {i for i in range(len(seats))
               if i not in members and any(frozenset((i, j)) in enmity for j in members)}
    friends = {i for i in range(len(seats))
               if any((i, j) in two_by_two(likes) for j in members)}
    in_favour = members | (friends - against)
    return [sum(seats[i] for i in in_favour),
            sum(seats[i] for i in against),
            sum(seats[i] for i in range(len(seats)) if i not in in_favour | against)]


def told_stands(r, s, seats, likes, hates):
    members = {i for i in range(len(seats)) if s & 2 ** i}
    if not members or any({a, b} <= members for a, b in two_by_two(hates)):
        return [0]
    pro, con, _ = told_votes(s, seats, likes, hates)
    whole = sum(seats)
    return [int((pro > con, pro > whole - pro, con <= whole - con)[r])]
