"""The calls about one chain: read from a list of whole numbers, answered in another."""

from familychain.ways import BEGINNING, best_states, letters_place, makers_of, rests_of, states_of

REFUSED = -1
TOO_MANY_COUNTED = -5
NO_WAY = -6
MOST_PLACES = 4
LETTERS = 4
MOST_WEIGHT = 99
MOST_LETTERS = 5
MOST_LENGTH = 8
MOST_COUNTED = 90


def first_letters(last):
    return [[1, 1, 1, 1] for place in range(last + 1)]


def first_moves(last):
    moves = {}
    for state in states_of(last):
        leaving = 0 if state[1] == last else 1
        moves[state] = [1, 1, leaving]
    return moves


class Chain:

    def __init__(self):
        self.begin_anew(1)

    def begin_anew(self, last):
        self.last = last
        self.letters = first_letters(last)
        self.moves = first_moves(last)
        self.count_nothing()

    # What is learnt is kept as the weights that it will be, 1 more than what is counted.
    def count_nothing(self):
        self.counted = 0
        self.learnt_letters = first_letters(self.last)
        self.learnt_moves = first_moves(self.last)

    def count_move(self, state, move):
        weights = self.learnt_moves[state]
        weights[move] = weights[move] + 1
        self.counted = self.counted + 1

    def count_letter(self, state, letter):
        weights = self.learnt_letters[letters_place(state[0], state[1])]
        weights[letter] = weights[letter] + 1

    # A move has the number of the sort that it leads to; the one to the end goes on, so it is 0.
    def count_way(self, states, word):
        left = (0, 0)
        made = 0
        for state in states:
            self.count_move(left, state[0])
            if state[0] != 2:
                self.count_letter(state, word[made])
                made = made + 1
            left = state
        self.count_move(left, 0)

    def take_learnt(self):
        self.letters = self.learnt_letters
        self.moves = self.learnt_moves
        self.count_nothing()


def are_weights(weights):
    return all([weight <= MOST_WEIGHT for weight in weights])


def is_word(word):
    return len(word) <= MOST_LETTERS and all([letter < LETTERS for letter in word])


def told_states(states):
    told = [len(states)]
    for state in states:
        told.extend(state)
    return told


def answer_start(chain, numbers, row):
    last = numbers[0]
    if last < 1 or last > MOST_PLACES:
        return [REFUSED]
    chain.begin_anew(last)
    return [last]


def answer_letters(chain, numbers, row):
    place = numbers[0]
    if place > chain.last or len(row) != LETTERS or not are_weights(row) or sum(row) == 0:
        return [REFUSED]
    chain.letters[place] = row
    return [0]


def answer_moves(chain, numbers, row):
    state = (numbers[0], numbers[1])
    weights = numbers[2:]
    on = weights[0]
    leaving = weights[2]
    if state not in chain.moves or not are_weights(weights):
        return [REFUSED]
    if state[1] == chain.last and leaving != 0:
        return [REFUSED]
    # Without this one could put in letters for ever and never come to the end.
    if on == 0 and leaving == 0:
        return [REFUSED]
    chain.moves[state] = weights
    return [0]


def answer_total(chain, numbers, row):
    if not is_word(row):
        return [REFUSED]
    return list(rests_of(chain, row)[BEGINNING].total)


def answer_best(chain, numbers, row):
    if not is_word(row):
        return [REFUSED]
    rests = rests_of(chain, row)
    whole = rests[BEGINNING]
    if whole.ways == 0:
        return [0]
    return [1, whole.best[0], whole.best[1], whole.ties] + told_states(best_states(rests))


def answer_count(chain, numbers, row):
    if not is_word(row):
        return [REFUSED]
    return [rests_of(chain, row)[BEGINNING].ways]


def answer_place(chain, numbers, row):
    at = numbers[0]
    if not is_word(row) or at >= len(row):
        return [REFUSED]
    makers = makers_of(chain, row, at)
    # On every way that makes the word some state makes this letter.
    if len(makers) == 0:
        return [NO_WAY]
    answer = [len(makers)]
    for state, chance in makers:
        answer.extend(state)
        answer.extend(chance)
    return answer


def answer_lengths(chain, numbers, row):
    length = numbers[0]
    if length > MOST_LENGTH:
        return [REFUSED]
    return list(rests_of(chain, [None] * length)[BEGINNING].total)


def answer_learn(chain, numbers, row):
    if not is_word(row):
        return [REFUSED]
    rests = rests_of(chain, row)
    if rests[BEGINNING].ways == 0:
        return [NO_WAY]
    states = best_states(rests)
    if chain.counted + len(states) > MOST_COUNTED:
        return [TOO_MANY_COUNTED]
    chain.count_way(states, row)
    return told_states(states)


def answer_take(chain, numbers, row):
    counted = chain.counted
    chain.take_learnt()
    return [counted]


def answer_shows(chain, numbers, row):
    answer = [chain.last]
    for place in range(1, chain.last + 1):
        answer.extend(chain.letters[place])
    answer.extend(chain.letters[0])
    for state in states_of(chain.last):
        answer.extend(chain.moves[state])
    return answer


# By a call's number: what answers it, how many whole numbers it has, whether a row is behind them.
CALLS = (
    (answer_start, 1, False),
    (answer_letters, 1, True),
    (answer_moves, 5, False),
    (answer_total, 0, True),
    (answer_best, 0, True),
    (answer_count, 0, True),
    (answer_place, 1, True),
    (answer_lengths, 1, False),
    (answer_learn, 0, True),
    (answer_take, 0, False),
    (answer_shows, 0, False),
)


def answers(calls):
    chain = Chain()
    given = []
    at = 0
    while at < len(calls):
        call = CALLS[calls[at]]
        answer_call = call[0]
        at = at + 1
        # Slices are copies: what a chain keeps of them is never the list that was handed in.
        numbers = calls[at:at + call[1]]
        at = at + call[1]
        row = []
        if call[2]:
            row = calls[at + 1:at + 1 + calls[at]]
            at = at + 1 + calls[at]
        answer = answer_call(chain, numbers, row)
        given.append(len(answer))
        given.extend(answer)
    return given
