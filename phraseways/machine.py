"""The machine that a list of calls is about: its phrases, its pairs and its prices."""

WRONG = -1
NO_SUCH_PHRASE = -2
FULL = -5
NO_WAY = -6

HIGHEST_WORD = 99
HIGHEST_COST = 999
LONGEST_SOURCE = 3
LONGEST_TARGET = 3
WIDEST = 6
MOST_PHRASES = 6
MOST_PAIRS = 20
# A pair's cost of 1000 is no price: it takes the pair away.
NO_MORE = 1000


class Phrase:
    def __init__(self, number, cost, source, target):
        self.number = number
        self.cost = cost
        self.source = source
        self.target = target


class Machine:
    def __init__(self):
        self.phrases = []
        # Counts every phrase that ever came, so that no number is given twice.
        self.fresh_number = 0
        self.pair_costs = {}
        self.other = 0
        self.jump = 1
        self.wide = WIDEST

    def add_phrase(self, cost, source, target):
        if cost > HIGHEST_COST or not is_source(source) or not is_sentence(target, LONGEST_TARGET):
            return WRONG
        if len(self.phrases) >= MOST_PHRASES:
            return FULL
        number = self.fresh_number
        self.fresh_number = number + 1
        self.phrases.append(Phrase(number, cost, source, target))
        return number

    def drop_phrase(self, number):
        kept = [phrase for phrase in self.phrases if phrase.number != number]
        if len(kept) == len(self.phrases):
            return NO_SUCH_PHRASE
        self.phrases = kept
        return len(kept)

    # None, if there is no such phrase.
    def phrase_numbered(self, number):
        for phrase in self.phrases:
            if phrase.number == number:
                return phrase
        return None

    def tell_pair(self, first, second, cost):
        if first > HIGHEST_WORD or second > HIGHEST_WORD or cost > NO_MORE:
            return WRONG
        key = (first, second)
        if cost == NO_MORE:
            self.pair_costs.pop(key, None)
            return len(self.pair_costs)
        if key not in self.pair_costs and len(self.pair_costs) >= MOST_PAIRS:
            return FULL
        self.pair_costs[key] = cost
        return len(self.pair_costs)

    def set_prices(self, other, jump, wide):
        if other > HIGHEST_COST or jump > HIGHEST_COST or wide > WIDEST:
            return WRONG
        self.other = other
        self.jump = jump
        self.wide = wide
        return 0

    def cost_behind(self, first, second):
        return self.pair_costs.get((first, second), self.other)


def are_words(numbers):
    return all([1 <= number <= HIGHEST_WORD for number in numbers])


def is_sentence(numbers, longest):
    return len(numbers) <= longest and are_words(numbers)


def is_source(numbers):
    return len(numbers) > 0 and is_sentence(numbers, LONGEST_SOURCE)
