"""The calls about one chain: read from a list of whole numbers, answered in another."""

from familychain.ways import BEGINNING, best_states, rests_of, states_of

REFUSED = -1
MOST_PLACES = 4
LETTERS = 4
MOST_WEIGHT = 99
MOST_LETTERS = 5


class Chain:

    def __init__(self):
        self.begin_anew(1)

    # letters[0] are the weights of all states of sort 1, as the beginning makes no letter itself.
    def begin_anew(self, last):
        self.last = last
        self.letters = [[1, 1, 1, 1] for place in range(last + 1)]
        self.moves = {}
        for state in states_of(last):
            leaving = 0 if state[1] == last else 1
            self.moves[state] = [1, 1, leaving]


def are_weights(weights):
    return all([weight <= MOST_WEIGHT for weight in weights])


def is_word(word):
    return len(word) <= MOST_LETTERS and all([letter < LETTERS for letter in word])


def answer_start(chain, numbers, row):
    last = numbers[0]
    if last < 1 or last > MOST_PLACES:
        return [REFUSED]
    chain.begin_anew(last)
    return [last]


def answer_letters(chain, numbers, row):
    place = numbers[0]
    if place > chain.last or len(row) != LETTERS or not are_weights(row) or sum(row) == 0:
        return [REFUSED]
    chain.letters[place] = row
    return [0]


def answer_moves(chain, numbers, row):
    state = (numbers[0], numbers[1])
    weights = numbers[2:]
    on = weights[0]
    leaving = weights[2]
    if state not in chain.moves or not are_weights(weights):
        return [REFUSED]
    if state[1] == chain.last and leaving != 0:
        return [REFUSED]
    # Without this one could put in letters for ever and never come to the end.
    if on == 0 and leaving == 0:
        return [REFUSED]
    chain.moves[state] = weights
    return [0]


def answer_total(chain, numbers, row):
    if not is_word(row):
        return [REFUSED]
    return list(rests_of(chain, row)[BEGINNING].total)


def answer_best(chain, numbers, row):
    if not is_word(row):
        return [REFUSED]
    rests = rests_of(chain, row)
    whole = rests[BEGINNING]
    if whole.ways == 0:
        return [0]
    states = best_states(rests)
    answer = [1, whole.best[0], whole.best[1], whole.ties, len(states)]
    for state in states:
        answer.extend(state)
    return answer


def answer_count(chain, numbers, row):
    if not is_word(row):
        return [REFUSED]
    return [rests_of(chain, row)[BEGINNING].ways]


# By a call's number: what answers it, how many whole numbers it has, whether a row is behind them.
CALLS = (
    (answer_start, 1, False),
    (answer_letters, 1, True),
    (answer_moves, 5, False),
    (answer_total, 0, True),
    (answer_best, 0, True),
    (answer_count, 0, True),
)


def answers(calls):
    chain = Chain()
    given = []
    at = 0
    while at < len(calls):
        call = CALLS[calls[at]]
        answer_call = call[0]
        at = at + 1
        # Slices are copies: what a chain keeps of them is never the list that was handed in.
        numbers = calls[at:at + call[1]]
        at = at + call[1]
        row = []
        if call[2]:
            row = calls[at + 1:at + 1 + calls[at]]
            at = at + 1 + calls[at]
        answer = answer_call(chain, numbers, row)
        given.append(len(answer))
        given.extend(answer)
    return given
