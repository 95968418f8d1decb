"""Votes on a set of parties, which sets are cabinets that stand, the least of these, and who is of them.

A set is told as a number in which party i counts 2^i. Likes and hates are
flat lists: of each like (hate) the two parties one behind the other.
"""

NOT_AS_TOLD = -22
NO_SUCH_PARTY = -2
NONE_STANDS = -33

MOST_PARTIES = 6
MOST_SEATS = 200
MOST_NUMBERS = 40

MORE_FOR_THAN_AGAINST = 0
MORE_THAN_HALF_FOR = 1
NOT_MORE_THAN_HALF_AGAINST = 2

# The ways to vote are numbered in the order in which vote answers them.
VOTES_FOR = 0
VOTES_AGAINST = 1
VOTES_NEITHER_WAY = 2


def seats_are_as_told(seats):
    if len(seats) > MOST_PARTIES:
        return False
    for held in seats:
        if held < 1 or held > MOST_SEATS:
            return False
    return True


def pairs_are_as_told(pairs, parties):
    if len(pairs) > MOST_NUMBERS or len(pairs) % 2 != 0:
        return False
    for k in range(0, len(pairs), 2):
        if pairs[k] >= parties or pairs[k + 1] >= parties:
            return False
        if pairs[k] == pairs[k + 1]:
            return False
    return True


def house_is_as_told(seats, likes, hates):
    if not seats_are_as_told(seats):
        return False
    return pairs_are_as_told(likes, len(seats)) and pairs_are_as_told(hates, len(seats))


def house_and_rule_are_as_told(r, seats, likes, hates):
    return house_is_as_told(seats, likes, hates) and r <= NOT_MORE_THAN_HALF_AGAINST


def somebody_is_none(s, seats):
    return s >> len(seats) != 0


def is_of(party, s):
    return (s >> party) & 1 == 1


def likes_one_of(party, s, likes):
    for k in range(0, len(likes), 2):
        if likes[k] == party and is_of(likes[k + 1], s):
            return True
    return False


def hates_one_of(party, s, hates):
    # A hate is told once but goes both ways, so either place may be the party's.
    for k in range(0, len(hates), 2):
        if hates[k] == party and is_of(hates[k + 1], s):
            return True
        if hates[k + 1] == party and is_of(hates[k], s):
            return True
    return False


def way_of(party, s, likes, hates):
    # A set need not be a cabinet: its own parties vote for it even where they hate each other.
    if is_of(party, s):
        return VOTES_FOR
    # Hates come ahead of likes: who likes one and hates another votes against.
    if hates_one_of(party, s, hates):
        return VOTES_AGAINST
    if likes_one_of(party, s, likes):
        return VOTES_FOR
    return VOTES_NEITHER_WAY


def votes_on(s, seats, likes, hates):
    votes = [0, 0, 0]
    for party in range(len(seats)):
        way = way_of(party, s, likes, hates)
        votes[way] = votes[way] + seats[party]
    return votes


def is_cabinet(s, hates):
    if s == 0:
        return False
    for k in range(0, len(hates), 2):
        if is_of(hates[k], s) and is_of(hates[k + 1], s):
            return False
    return True


def has_what_rule_asks(r, votes):
    # Halves are compared doubled, so that an odd number of seats is not rounded.
    if r == MORE_FOR_THAN_AGAINST:
        return votes[VOTES_FOR] > votes[VOTES_AGAINST]
    if r == MORE_THAN_HALF_FOR:
        return 2 * votes[VOTES_FOR] > sum(votes)
    return 2 * votes[VOTES_AGAINST] <= sum(votes)


def is_standing_cabinet(r, s, seats, likes, hates):
    if not is_cabinet(s, hates):
        return False
    return has_what_rule_asks(r, votes_on(s, seats, likes, hates))


def standing_cabinets(r, seats, likes, hates):
    # Walked from the least set on, so that the answers rise.
    return [s for s in range(1 << len(seats)) if is_standing_cabinet(r, s, seats, likes, hates)]


def none_can_leave(s, parties, standing_sets):
    # Who is alone can't leave either: nobody is left then, and that is never among the sets that stand.
    for party in range(parties):
        if is_of(party, s) and (s - (1 << party)) in standing_sets:
            return False
    return True


def counted(sets):
    return [len(sets)] + sets


def together(s, sizes):
    return sum([sizes[party] for party in range(len(sizes)) if is_of(party, s)])


def least_together(sets, sizes):
    if len(sets) == 0:
        return [NONE_STANDS]
    least = min([together(s, sizes) for s in sets])
    return [least, min([s for s in sets if together(s, sizes) == least])]


def vote(s, seats, likes, hates):
    if not house_is_as_told(seats, likes, hates):
        return [NOT_AS_TOLD]
    if somebody_is_none(s, seats):
        return [NO_SUCH_PARTY]
    return votes_on(s, seats, likes, hates)


def stands(r, s, seats, likes, hates):
    if not house_and_rule_are_as_told(r, seats, likes, hates):
        return [NOT_AS_TOLD]
    if somebody_is_none(s, seats):
        return [NO_SUCH_PARTY]
    return [1 if is_standing_cabinet(r, s, seats, likes, hates) else 0]


def standing(r, seats, likes, hates):
    if not house_and_rule_are_as_told(r, seats, likes, hates):
        return [NOT_AS_TOLD]
    return counted(standing_cabinets(r, seats, likes, hates))


def tight(r, seats, likes, hates):
    if not house_and_rule_are_as_told(r, seats, likes, hates):
        return [NOT_AS_TOLD]
    standing_sets = standing_cabinets(r, seats, likes, hates)
    return counted([s for s in standing_sets if none_can_leave(s, len(seats), standing_sets)])


def fewest(r, seats, likes, hates):
    if not house_and_rule_are_as_told(r, seats, likes, hates):
        return [NOT_AS_TOLD]
    # Each party counts 1, whatever its seats, so that what is least is how many parties there are.
    return least_together(standing_cabinets(r, seats, likes, hates), [1] * len(seats))


def smallest(r, seats, likes, hates):
    if not house_and_rule_are_as_told(r, seats, likes, hates):
        return [NOT_AS_TOLD]
    return least_together(standing_cabinets(r, seats, likes, hates), seats)


def part(r, i, seats, likes, hates):
    if not house_and_rule_are_as_told(r, seats, likes, hates):
        return [NOT_AS_TOLD]
    if i >= len(seats):
        return [NO_SUCH_PARTY]
    standing_sets = standing_cabinets(r, seats, likes, hates)
    return [len([s for s in standing_sets if is_of(i, s)]), len(standing_sets)]
