"""Ways: how the words of all cells, as stages tells them, change from writing to writing.

Whether a moment lacks too much depends on the words of its cells alone. So a good order is a way
over good words, from those of the first moment to some at which nothing is left to be done.
"""

from heapq import heappop, heappush

from oncetwice.moments import AMID, DONE, NOT_BEGUN, lack_of
from oncetwice.wishes import keeps, wished_cells


class Ways:
    """The ways to make a wish with so many spare cells, whatever number it has of its own."""

    def __init__(self, wish, spare):
        many = len(wish.rows) + spare
        self.goal = wish
        self.first = (NOT_BEGUN,) * many
        self.writable = [cell for cell in range(many) if cell not in wish.locked]
        self.wished = wished_cells(wish)
        self.kept = [cell for cell in self.wished if keeps(wish, cell)]
        self.lacks = {}

    def are_good(self, words):
        """Whether at a moment of these words the lack is not more than the cells amid."""
        # Spare cells change nothing of the lack, so it is reckoned once for all their words.
        begun = words[:len(self.goal.rows)]
        if begun not in self.lacks:
            self.lacks[begun] = lack_of(self.goal, begun)
        return self.lacks[begun] <= words.count(AMID)

    def are_last(self, words):
        """Whether each wish is fulfilled at a moment of these words."""
        return all([words[cell] == DONE or (words[cell] == NOT_BEGUN and cell in self.kept) for cell in self.wished])

    def later_words(self, words, cell):
        """The list of the words that a cell may have behind a writing.

        By the second fact no writing is needed that leaves a cell amid as it was.
        """
        if words[cell] == NOT_BEGUN and cell in self.wished:
            return [AMID, DONE]
        if words[cell] == NOT_BEGUN:
            return [AMID]
        if words[cell] == AMID and cell in self.wished:
            return [DONE]
        return []

    def writings(self, words):
        """The list of the pairs of a cell and of the good words of all cells behind its writing."""
        found = []
        for cell in self.writable:
            for word in self.later_words(words, cell):
                behind = changed(words, cell, word)
                if self.are_good(behind):
                    found.append((cell, behind))
        return found

    def possible_ticks(self, words, ports):
        """The list of the pairs of a tick of at most so many cells and of the good words behind it."""
        found = [((), words)]
        for cell in self.writable:
            later = self.later_words(words, cell)
            more = []
            for tick, behind in found:
                if len(tick) < ports:
                    more.extend([((*tick, cell), changed(behind, cell, word)) for word in later])
            found.extend(more)
        return [(tick, behind) for tick, behind in found if tick and self.are_good(behind)]


def changed(words, cell, word):
    """These words with another one of this cell."""
    return words[:cell] + (word,) + words[cell + 1:]


def cheapest_way(ways, prices):
    """The pair of the least price and of the least order of this price, None if there is none.

    All prices are above nought: so no cheapest order begins with another one, and the least way to
    some words stays the least one whatever follows.
    """
    queue = [(0, (), ways.first)]
    seen = set()
    while queue:
        price, order, words = heappop(queue)
        if ways.are_last(words):
            return (price, order)
        if words not in seen:
            seen.add(words)
            for cell, behind in ways.writings(words):
                heappush(queue, (price + prices[cell], (*order, cell), behind))
    return None


def shortest_way(ways):
    """The least order of the fewest writings, None if there is none."""
    found = cheapest_way(ways, (1,) * len(ways.first))
    if found is None:
        return None
    return found[1]


def count_ways(ways):
    """How many orders of the fewest writings there are; each is one way, for it tells all words."""
    counts = {ways.first: 1}
    while counts:
        found = sum([counts[words] for words in counts if ways.are_last(words)])
        if found > 0:
            return found
        later = {}
        for words, many in counts.items():
            for _, behind in ways.writings(words):
                later[behind] = later.get(behind, 0) + many
        counts = later
    return 0


def fewest_ticks(ways, ports):
    """A timetable of the fewest ticks of at most so many cells, None if there is none."""
    if ways.are_last(ways.first):
        return ()
    reached = {ways.first: ()}
    level = [ways.first]
    while level:
        later = []
        for words in level:
            for tick, behind in ways.possible_ticks(words, ports):
                if ways.are_last(behind):
                    return reached[words] + (tick,)
                if behind not in reached:
                    reached[behind] = reached[words] + (tick,)
                    later.append(behind)
        level = later
    return None
