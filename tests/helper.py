"""Calls written out, answers taken apart, and a plain listing of all ways to check them by.

The listing shares nothing with the package: it goes from the beginning over every move there is, with Python's own
fractions, and keeps each way that makes the word.
"""

from fractions import Fraction

from familychain.chains import answers

LARGEST = 4294967295


def start(k):
    return [0, k]


def letters(i, *weights):
    return [1, i, len(weights), *weights]


def moves(sort, i, on, putting, leaving):
    return [2, sort, i, on, putting, leaving]


def total(*word):
    return [3, len(word), *word]


def best(*word):
    return [4, len(word), *word]


def count(*word):
    return [5, len(word), *word]


def place(i, *word):
    return [6, i, len(word), *word]


def lengths(n):
    return [7, n]


def learn(*word):
    return [8, len(word), *word]


def take():
    return [9]


def shows():
    return [10]


def taken_apart(given):
    parts = []
    at = 0
    while at < len(given):
        size = given[at]
        part = given[at + 1:at + 1 + size]
        if size < 1 or len(part) != size:
            raise AssertionError(f"no whole answer of {size} numbers at {at} of {given}")
        parts.append(part)
        at += 1 + size
    return parts


def flat(rows):
    return [number for row in rows for number in row]


def ask(*calls):
    return taken_apart(answers(flat(calls)))


def last_of(*calls):
    return ask(*calls)[-1]


# A chain of k places with weights drawn everywhere; where the document refuses those of a state, it keeps its own.
def drawn_setting(draw, k, weights):
    setting = [start(k)]
    for i in range(k + 1):
        setting.append(letters(i, *[draw.choice(weights) for letter in range(4)]))
        for sort in range(3):
            leaving = 0 if i == k else draw.choice(weights)
            setting.append(moves(sort, i, draw.choice(weights), draw.choice(weights), leaving))
    return setting


class Listing:
    """A chain as the document tells it, with every way listed one by one."""

    def __init__(self, k=1):
        self.begin(k)

    def begin(self, k):
        self.k = k
        self.letters = {i: [1, 1, 1, 1] for i in range(k + 1)}
        self.moves = {(sort, i): [1, 1, 0 if i == k else 1]
                      for i in range(k + 1) for sort in range(3) if (sort, i) != (2, 0)}
        self.learnt = []

    # A letter None may be any.
    def ways(self, word):
        found = []
        self.go(word, (0, 0), 0, Fraction(1), [], found)
        return found

    def go(self, word, state, made, chance, states, found):
        place = state[1]
        weights = self.moves[state]
        for move in range(3):
            after = chance * Fraction(weights[move], sum(weights))
            if after == 0:
                continue
            if move == 0 and place == self.k:
                if made == len(word):
                    found.append((after, states))
                continue
            following = [(0, place + 1), (1, place), (2, place + 1)][move]
            now_made = made
            if move != 2:
                if made == len(word):
                    continue
                at_work = self.letters[following[1] if move == 0 else 0]
                if word[made] is not None:
                    after *= Fraction(at_work[word[made]], sum(at_work))
                now_made = made + 1
            if after > 0:
                self.go(word, following, now_made, after, states + [following], found)

    def total(self, word):
        whole = sum((way[0] for way in self.ways(word)), Fraction(0))
        return [whole.numerator, whole.denominator]

    def count(self, word):
        return [len(self.ways(word))]

    def best(self, word):
        ways = self.ways(word)
        if not ways:
            return [0]
        most = max(way[0] for way in ways)
        likeliest = [states for chance, states in ways if chance == most]
        # Of two ways of one word none is the other's beginning, and up to where they differ their places are the same.
        first = min(likeliest, key=lambda states: [sort for sort, i in states])
        return [1, most.numerator, most.denominator, len(likeliest), len(first), *flat(first)]

    def place(self, i, word):
        if i >= len(word):
            return [-1]
        ways = self.ways(word)
        if not ways:
            return [-6]
        whole = sum(chance for chance, states in ways)
        makers = {}
        for chance, states in ways:
            maker = [state for state in states if state[0] != 2][i]
            makers[maker] = makers.get(maker, Fraction(0)) + chance / whole
        answer = [len(makers)]
        for maker in sorted(makers, key=lambda state: (state[1], state[0])):
            answer += [*maker, makers[maker].numerator, makers[maker].denominator]
        return answer

    def lengths(self, n):
        return [-1] if n > 8 else self.total([None] * n)

    def moves_counted(self):
        return sum(len(states) + 1 for word, states in self.learnt)

    def learn(self, word):
        best = self.best(word)
        if best == [0]:
            return [-6]
        states = list(zip(best[5::2], best[6::2]))
        if self.moves_counted() + len(states) > 90:
            return [-5]
        self.learnt.append((list(word), states))
        return [len(states), *flat(states)]

    def take(self):
        counted = self.moves_counted()
        learnt = self.learnt
        self.begin(self.k)
        for word, states in learnt:
            for state, following in zip([(0, 0), *states], [*states, (0, self.k + 1)]):
                self.moves[state][following[0]] += 1
            for letter, (sort, i) in zip(word, [state for state in states if state[0] != 2]):
                self.letters[i if sort == 0 else 0][letter] += 1
        return [counted]

    def shows(self):
        rows = [self.letters[i] for i in range(1, self.k + 1)] + [self.letters[0]]
        rows += [self.moves[state] for state in sorted(self.moves, key=lambda state: (state[1], state[0]))]
        return [self.k, *flat(rows)]

    # What the document answers to one call of those written out above, the chain being changed by it.
    def answer(self, call):
        number = call[0]
        if number == 0:
            return self.answer_start(call[1])
        if number == 1:
            return self.answer_letters(call[1], call[3:])
        if number == 2:
            return self.answer_moves(tuple(call[1:3]), call[3:])
        if number == 7:
            return self.lengths(call[1])
        if number in (9, 10):
            return self.take() if number == 9 else self.shows()
        word = call[3:] if number == 6 else call[2:]
        if len(word) > 5 or any(letter > 3 for letter in word):
            return [-1]
        if number == 6:
            return self.place(call[1], word)
        return {3: self.total, 4: self.best, 5: self.count, 8: self.learn}[number](word)

    def answer_start(self, k):
        if k not in (1, 2, 3, 4):
            return [-1]
        self.begin(k)
        return [k]

    def answer_letters(self, i, weights):
        if i not in self.letters or len(weights) != 4 or max(weights) > 99 or max(weights) == 0:
            return [-1]
        self.letters[i] = list(weights)
        return [0]

    def answer_moves(self, state, weights):
        on, putting, leaving = weights
        if state not in self.moves or max(weights) > 99:
            return [-1]
        if (state[1] == self.k and leaving != 0) or (on == 0 and leaving == 0):
            return [-1]
        self.moves[state] = list(weights)
        return [0]
