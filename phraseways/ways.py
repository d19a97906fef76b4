"""The ways through a sentence, and the cheapest of them: of all, of those that say just this, of each that is said."""


# The steps gone so far; a way, once every word of the sentence is taken.
# taken has one bit for each word, so that it can be part of a dict's key.
class Trail:
    def __init__(self, cost, steps, words, taken, ended):
        self.cost = cost
        self.steps = steps
        self.words = words
        self.taken = taken
        self.ended = ended


def cheapest_way(machine, sentence):
    return cheapest_of(whole_ways(machine, sentence, taken_and_last_word, None))


def cheapest_way_to_say(machine, sentence, said):
    ways = whole_ways(machine, sentence, taken_and_words, said)
    return cheapest_of([way for way in ways if way.words == said])


def cheapest_sentences(machine, sentence, much):
    ways = first_of_each(whole_ways(machine, sentence, taken_and_words, None), words_of)
    return sorted(ways, key=order_of)[:much]


# None, if these steps are no way through the sentence.
def way_by_steps(machine, sentence, steps):
    # Half a step is none.
    if len(steps) % 2 != 0:
        return None
    trail = beginning()
    for place in range(0, len(steps), 2):
        phrase = machine.phrase_numbered(steps[place + 1])
        if phrase is None or not may_step(machine, sentence, trail, steps[place], phrase):
            return None
        trail = stepped(machine, trail, steps[place], phrase)
    return closed(machine, trail) if is_whole(sentence, trail) else None


# Not all of them: of the trails with the same standing only the first goes on, or there would
# be far too many. said is what the ways are to say, None if they may say anything.
def whole_ways(machine, sentence, standing_of, said):
    ways = []
    trails = [beginning()]
    while len(trails) > 0:
        ways.extend([closed(machine, trail) for trail in trails if is_whole(sentence, trail)])
        longer = longer_trails(machine, sentence, trails)
        trails = first_of_each([trail for trail in longer if may_become(trail, said)], standing_of)
    return ways


def beginning():
    return Trail(0, [], [], 0, 0)


def is_whole(sentence, trail):
    return trail.taken == bits_between(0, len(sentence))


def bits_between(start, end):
    return (1 << end) - (1 << start)


def may_become(trail, said):
    return said is None or trail.words == said[:len(trail.words)]


def last_word(words):
    if len(words) == 0:
        return 0
    return words[-1]


def closed(machine, trail):
    cost = trail.cost + machine.cost_behind(last_word(trail.words), 0)
    return Trail(cost, trail.steps, trail.words, trail.taken, trail.ended)


# Steps are a flat list, from which word and by which phrase in turn: lists are
# compared number by number, which is just the order that decides between as cheap ways.
def order_of(trail):
    return (trail.cost, trail.steps)


def cheapest_of(ways):
    return min(ways, key=order_of, default=None)


# What is still to come costs the same behind all trails that have taken the same words,
# ended at the same place and said the same word last: only the first of these can win.
def taken_and_last_word(trail):
    return (trail.taken, trail.ended, last_word(trail.words))


# Where it matters what is said, only such trails stand for one another that have said the same.
def taken_and_words(trail):
    return (trail.taken, trail.ended, tuple(trail.words))


def words_of(trail):
    return tuple(trail.words)


# All trails that standing_of gives the same are one standing.
def first_of_each(trails, standing_of):
    kept = {}
    for trail in trails:
        standing = standing_of(trail)
        if standing not in kept or order_of(trail) < order_of(kept[standing]):
            kept[standing] = trail
    return list(kept.values())


def longer_trails(machine, sentence, trails):
    longer = []
    for trail in trails:
        for start in range(len(sentence)):
            for phrase in machine.phrases:
                if may_step(machine, sentence, trail, start, phrase):
                    longer.append(stepped(machine, trail, start, phrase))
    return longer


def may_step(machine, sentence, trail, start, phrase):
    end = start + len(phrase.source)
    # Asked first: a start far beyond the sentence would make far too many bits.
    if sentence[start:end] != phrase.source:
        return False
    if abs(start - trail.ended) > machine.wide:
        return False
    return trail.taken & bits_between(start, end) == 0


def stepped(machine, trail, start, phrase):
    end = start + len(phrase.source)
    cost = trail.cost + phrase.cost + machine.jump * abs(start - trail.ended)
    cost += cost_of_words(machine, last_word(trail.words), phrase.target)
    steps = trail.steps + [start, phrase.number]
    taken = trail.taken | bits_between(start, end)
    return Trail(cost, steps, trail.words + phrase.target, taken, end)


def cost_of_words(machine, ahead, words):
    cost = 0
    for word in words:
        cost += machine.cost_behind(ahead, word)
        ahead = word
    return cost
