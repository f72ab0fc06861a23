"""Worded readings: those whose text consists of the words of a lexicon."""

from surelyread.best import Costs
from surelyread.lexicon import BEGINNING, lexicon, run_by, targets_of
from surelyread.needs import Looks, looks_from, needed_by
from surelyread.strips import extent, is_strip, piece_region

# More than any cost: stands where there is no reading or rest.
NEVER = 1000000000000000000


def silent_costs(costs, region):
    """The least costs of the readings whose text is empty."""
    silent = Costs(costs.looks, costs.rows, costs.wished)
    for one in needed_by(costs.looks, region):
        part = costs.parts[one[0]]
        if not is_strip(part) and part[2] != "":
            silent.known[one] = None
    return silent


def states_of(targets, texts):
    """The states to which rows of the texts lead from the beginning, and this one first."""
    found = {BEGINNING: True}
    waiting = [BEGINNING]
    while waiting:
        state = waiting.pop()
        for text in texts:
            behind = run_by(targets, state, text)
            if behind is not None and behind not in found:
                found[behind] = True
                waiting.append(behind)
    return list(found)


def cheaper(costs, price, others):
    """The smaller ones of the costs and of the others with the price."""
    dearer = [price + other for other in others]
    return [cost if cost <= other else other for cost, other in zip(costs, dearer)]


class Worded:
    """The states of a lexicon that the texts of a grammar can come to, and their runs.

    Costs by states are a list with an item for each of these states, in their order, and
    one more, NEVER, for the dead state, to which a text leads that leads to no state.
    """

    def __init__(self, costs, region, machine):
        self.costs = costs
        self.silent = silent_costs(costs, region)
        self.targets = targets_of(machine)
        self.states = states_of(self.targets, [part[2] for part in costs.parts])
        self.runs = {}

    def behind(self, text):
        """The place of the state behind a text, for each state ahead of it."""
        if text not in self.runs:
            dead = len(self.states)
            places = {self.states[place]: place for place in range(dead)}
            self.runs[text] = [places.get(run_by(self.targets, state, text), dead)
                               for state in self.states] + [dead]
        return self.runs[text]

    def costs_at_end(self, machine):
        """The costs by states of what comes after the text of the page: nothing."""
        return [0 if machine[0][state] else NEVER for state in self.states] + [NEVER]


class Rests:
    """The least costs of readings and rests with the same costs by states after them.

    A rest is (state of its strip, region from where it begins to the end of the strip).
    In silence there is no text ahead of it, and there must be one in it; in speech there
    is one, and the costs are those by the states in which it ends.
    """

    def __init__(self, shared, after):
        self.shared = shared
        self.after = after
        self.silence = {}
        self.speech = {}
        self.inner = {}

    def spoken(self, region):
        """The least costs, by states ahead, of readings with a text; None if there is none."""
        least = self.shared.costs.least(region)
        if least is None or min(self.after) >= NEVER:
            return None
        part = self.shared.costs.parts[region[0]]
        if is_strip(part):
            self.find_rests(region)
            return self.silence[(0, region)]
        if part[2] == "":
            return None
        return [least + self.after[place] for place in self.shared.behind(part[2])]

    def find_rests(self, region):
        """Finds the least costs of the rests at the spots of a region of a strip."""
        part = self.shared.costs.parts[region[0]]
        end = extent(part, region)
        spots = list(self.shared.costs.looks.by_spot(region))
        # Each look leads to a greater offset, whose spots are known by then.
        for state, offset in reversed(spots):
            rest = (state, piece_region(part, region, offset, end - offset, region[0]))
            if rest not in self.silence:
                self.find_rest(rest, offset == end)

    def find_rest(self, rest, at_end):
        """Finds the least costs of a rest; those behind its looks are known."""
        state, region = rest
        nothing = [NEVER] * len(self.after)
        ends = self.shared.costs.looks.table[region[0]][0]
        self.silence[rest] = nothing
        self.speech[rest] = self.after if at_end and ends[state] else nothing
        for look in self.looks_of(rest):
            price, piece, behind = self.step(rest, look)
            costs = self.behind(behind).spoken(piece)
            if costs is not None:
                self.silence[rest] = cheaper(self.silence[rest], price, costs)
                joined = [costs[place] for place in self.places_ahead(region)]
                self.speech[rest] = cheaper(self.speech[rest], price, joined)
            quiet = self.shared.silent.least(piece)
            if quiet is not None:
                self.silence[rest] = cheaper(self.silence[rest], price + quiet, self.silence[behind])
                self.speech[rest] = cheaper(self.speech[rest], price + quiet, self.speech[behind])

    def looks_of(self, rest):
        """The looks with which a rest can begin."""
        state, region = rest
        left = extent(self.shared.costs.parts[region[0]], region)
        return looks_from(self.shared.costs.looks.table[region[0]][1], state, left)

    def step(self, rest, look):
        """What a look at the beginning of a rest means: (price of its move, piece, rest behind it)."""
        region = rest[1]
        number, size = look
        part = self.shared.costs.parts[region[0]]
        move = self.shared.costs.looks.table[region[0]][1][number]
        left = piece_region(part, region, size, extent(part, region) - size, region[0])
        return move[5], piece_region(part, region, 0, size, move[2]), (move[1], left)

    def behind(self, rest):
        """The costs of readings and rests that have this rest, in speech, after them."""
        if rest not in self.inner:
            self.inner[rest] = Rests(self.shared, self.speech[rest])
        return self.inner[rest]

    def places_ahead(self, region):
        """The place of the state behind the joint of a strip, for each state ahead of it."""
        return self.shared.behind(self.shared.costs.parts[region[0]][2])

    def first(self, region, place):
        """The first one of the cheapest readings with a text, and the place of the state behind it."""
        part = self.shared.costs.parts[region[0]]
        if not is_strip(part):
            return (), self.shared.behind(part[2])[place]
        rest = (0, region)
        some = False
        pieces = []
        while extent(part, rest[1]) > 0:
            look, inner, some, place = self.first_piece(rest, some, place)
            pieces.append((*look, inner))
            _, _, rest = self.step(rest, look)
        return tuple(pieces), place

    def first_piece(self, rest, some, place):
        """(look, reading of the piece, whether there is a text then, place of the state then)."""
        looks = self.looks_of(rest)
        at = 0
        found = self.ways(rest, looks[at], some, place)
        while not found:
            at += 1
            found = self.ways(rest, looks[at], some, place)
        inner, some, place = min(found)
        return looks[at], inner, some, place

    def ways(self, rest, look, some, place):
        """(reading of the piece, some, place) for each way in which a look makes the rest cost least.

        One without a text of the piece and one with a text, as far as they do.
        """
        price, piece, behind = self.step(rest, look)
        table = self.speech if some else self.silence
        left = table[rest][place] - price
        found = []
        quiet = self.shared.silent.least(piece)
        if quiet is not None and quiet + table[behind][place] == left:
            found.append((self.shared.silent.reading(piece), some, place))
        costs = self.behind(behind).spoken(piece)
        ahead = self.places_ahead(rest[1])[place] if some else place
        if costs is not None and costs[ahead] == left:
            reading, then = self.behind(behind).first(piece, ahead)
            found.append((reading, True, then))
        return found


def best_worded(parts, region, rows, wishes, words):
    """The cost and the reading of the best worded reading, or None if there is none."""
    machine = lexicon(words)
    worded = Worded(Costs(Looks(parts), rows, wishes), region, machine)
    rests = Rests(worded, worded.costs_at_end(machine))
    found = []
    quiet = worded.silent.least(region)
    if quiet is not None:
        found.append((quiet, worded.silent.reading(region)))
    costs = rests.spoken(region)
    # The beginning is the first state.
    if costs is not None and costs[0] < NEVER:
        reading, _ = rests.first(region, 0)
        found.append((costs[0], reading))
    return min(found) if found else None
