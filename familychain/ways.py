"""All ways through a chain that make a word, gathered from the end back, and from the beginning on.

A fraction is a pair of whole numbers, always in lowest terms, so that two are the same just when their pairs are.
A state is its sort and its place. A spot is a state's sort, its place, and how many letters are made when one is
there; the end is the spot of sort 0 behind the last place with all letters made. A letter of a word that is None
may be any of the four.
"""

ZERO = (0, 1)
ONE = (1, 1)
BEGINNING = (0, 0, 0)


def common_divisor(one, other):
    while other != 0:
        left = one % other
        one = other
        other = left
    return one


def fraction(upper, lower):
    divisor = common_divisor(upper, lower)
    return (upper // divisor, lower // divisor)


def times(one, other):
    return fraction(one[0] * other[0], one[1] * other[1])


def plus(one, other):
    return fraction(one[0] * other[1] + other[0] * one[1], one[1] * other[1])


def divided(one, other):
    return fraction(one[0] * other[1], one[1] * other[0])


def is_less(one, other):
    return one[0] * other[1] < other[0] * one[1]


def states_of(last):
    states = [(0, 0), (1, 0)]
    for place in range(1, last + 1):
        states.extend([(0, place), (1, place), (2, place)])
    return states


# All states of sort 1 have the letter weights that are kept at place 0, as the beginning makes no letter itself.
def letters_place(sort, place):
    return place if sort == 0 else 0


class Rest:
    # The ways from a spot to the end that make the rest of the word.

    def __init__(self, chance, ways):
        self.total = chance
        self.ways = ways
        self.best = chance
        self.ties = ways
        self.target = None

    # Steps come by the sorts they lead to, the lesser first; so one that is only as good as an earlier step
    # adds to the ties and doesn't take its place.
    def add_step(self, chance, target, ahead):
        if ahead.ways == 0:
            return
        self.total = plus(self.total, times(chance, ahead.total))
        self.ways = self.ways + ahead.ways
        reached = times(chance, ahead.best)
        if is_less(self.best, reached):
            self.best = reached
            self.ties = ahead.ties
            self.target = target
        elif reached == self.best:
            self.ties = self.ties + ahead.ties


def targets_of(chain, spot):
    place = spot[1]
    made = spot[2]
    # Going on from the last place leads to the end, where no letter is made.
    made_on = made if place == chain.last else made + 1
    return [(0, place + 1, made_on), (1, place, made + 1), (2, place + 1, made)]


def arrival_chance(chain, word, target):
    sort = target[0]
    place = target[1]
    made = target[2]
    if sort == 2:
        return ONE
    if place > chain.last:
        return ONE if made == len(word) else ZERO
    if made > len(word):
        return ZERO
    letter = word[made - 1]
    if letter is None:
        return ONE
    weights = chain.letters[letters_place(sort, place)]
    return fraction(weights[letter], sum(weights))


def steps_from(chain, word, spot):
    weights = chain.moves[(spot[0], spot[1])]
    steps = []
    for weight, target in zip(weights, targets_of(chain, spot)):
        chance = times(fraction(weight, sum(weights)), arrival_chance(chain, word, target))
        if chance != ZERO:
            steps.append((chance, target))
    return steps


def rests_of(chain, word):
    rests = {(0, chain.last + 1, len(word)): Rest(ONE, 1)}
    # Every step leads to more letters made, or to as many at a later place: in this order what a spot leads to
    # is there before the spot.
    for made in range(len(word), -1, -1):
        for state in reversed(states_of(chain.last)):
            spot = (state[0], state[1], made)
            rest = Rest(ZERO, 0)
            for chance, target in steps_from(chain, word, spot):
                rest.add_step(chance, target, rests[target])
            rests[spot] = rest
    return rests


def best_states(rests):
    states = []
    spot = rests[BEGINNING].target
    # The end alone leads nowhere, and isn't a state.
    while rests[spot].target is not None:
        states.append((spot[0], spot[1]))
        spot = rests[spot].target
    return states


def reaches_of(chain, word):
    reaches = {BEGINNING: ONE}
    # The order of rests_of turned round: all that leads to a spot is gathered before one goes on from it.
    for made in range(len(word) + 1):
        for state in states_of(chain.last):
            spot = (state[0], state[1], made)
            reached = reaches.get(spot, ZERO)
            for chance, target in steps_from(chain, word, spot):
                reaches[target] = plus(reaches.get(target, ZERO), times(reached, chance))
    return reaches


def makers_of(chain, word, at):
    rests = rests_of(chain, word)
    reaches = reaches_of(chain, word)
    makers = []
    for state in states_of(chain.last):
        # A state makes its letter as one comes to it, so it made letter `at` if at + 1 are made there; but one of
        # sort 2 makes none.
        spot = (state[0], state[1], at + 1)
        chance = times(reaches.get(spot, ZERO), rests[spot].total)
        if state[0] != 2 and chance != ZERO:
            makers.append((state, divided(chance, rests[BEGINNING].total)))
    return makers
