"""The ways through a sentence, and the cheapest of them."""


# The steps gone so far; a way, once every word of the sentence is taken.
# taken has one bit for each word, so that it can be part of a dict's key.
class Trail:
    def __init__(self, cost, steps, words, taken, ended):
        self.cost = cost
        self.steps = steps
        self.words = words
        self.taken = taken
        self.ended = ended


def cheapest_way(machine, sentence):
    whole = bits_between(0, len(sentence))
    best = None
    trails = [Trail(0, [], [], 0, 0)]
    while len(trails) > 0:
        for trail in trails:
            if trail.taken == whole:
                best = first_of(best, closed(machine, trail))
        trails = best_of_each_standing(longer_trails(machine, sentence, trails))
    return best


def bits_between(start, end):
    return (1 << end) - (1 << start)


def last_word(words):
    if len(words) == 0:
        return 0
    return words[-1]


def closed(machine, trail):
    cost = trail.cost + machine.cost_behind(last_word(trail.words), 0)
    return Trail(cost, trail.steps, trail.words, trail.taken, trail.ended)


# Steps are a flat list, from which word and by which phrase in turn: lists are
# compared number by number, which is just the order that decides between as cheap ways.
def first_of(best, trail):
    if best is None:
        return trail
    if trail.cost != best.cost:
        return trail if trail.cost < best.cost else best
    return trail if trail.steps < best.steps else best


# What is still to come costs the same behind all trails that have taken the same words,
# ended at the same place and said the same word last: only the first of these can win.
def best_of_each_standing(trails):
    kept = {}
    for trail in trails:
        standing = (trail.taken, trail.ended, last_word(trail.words))
        kept[standing] = first_of(kept.get(standing), trail)
    return list(kept.values())


def longer_trails(machine, sentence, trails):
    longer = []
    for trail in trails:
        for start in range(len(sentence)):
            for phrase in machine.phrases:
                if may_step(machine, sentence, trail, start, phrase):
                    longer.append(stepped(machine, trail, start, phrase))
    return longer


def may_step(machine, sentence, trail, start, phrase):
    end = start + len(phrase.source)
    if abs(start - trail.ended) > machine.wide:
        return False
    if trail.taken & bits_between(start, end) != 0:
        return False
    return sentence[start:end] == phrase.source


def stepped(machine, trail, start, phrase):
    end = start + len(phrase.source)
    cost = trail.cost + phrase.cost + machine.jump * abs(start - trail.ended)
    cost += cost_of_words(machine, last_word(trail.words), phrase.target)
    steps = trail.steps + [start, phrase.number]
    taken = trail.taken | bits_between(start, end)
    return Trail(cost, steps, trail.words + phrase.target, taken, end)


def cost_of_words(machine, ahead, words):
    cost = 0
    for word in words:
        cost += machine.cost_behind(ahead, word)
        ahead = word
    return cost
