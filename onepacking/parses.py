"""The parse of a block: of all parses of the least cost the first."""

from onepacking.classes import class_of, class_start, further_width
from onepacking.matches import SHORTEST_MATCH, block_matches

LETTER_COST = 8
MATCH_COST = 12

# A cost and the place that's come to stand in one number, cost times this and place:
# so the least number is the least cost, and of one cost the least place.
COST_UNIT = 2048

# A class of lengths has at most 128 of them.
LEVELS = 8


class Tails:
    """What the rest of a block costs at least from each place on; it's told from the end on."""

    def __init__(self, size):
        # levels[k][p] is the least of the 2^k tails from place p on.
        self.levels = [[0] * (size + 1) for level in range(LEVELS)]
        self.size = size

    def tell(self, place, cost):
        """Tells the cost from the place on; all places behind it are told."""
        least = cost * COST_UNIT + place
        self.levels[0][place] = least
        width = 1
        for level in range(1, LEVELS):
            if place + 2 * width - 1 > self.size:
                break
            least = min(least, self.levels[level - 1][place + width])
            self.levels[level][place] = least
            width *= 2

    def least(self, first, last):
        """The least tail from one of the places first to last on."""
        number = (last - first + 1).bit_length() - 1
        level = self.levels[number]
        return min(level[first], level[last + 1 - (1 << number)])


def first_step(tails, letter, found, place):
    """The first of the cheapest steps from the place on, and what it costs with all behind it."""
    step = (0, letter)
    best = tails.least(place + 1, place + 1) + LETTER_COST * COST_UNIT
    length = SHORTEST_MATCH
    for distance, longest in found:
        distance_cost = MATCH_COST + further_width(class_of(distance - 1))
        while length <= longest:
            # Within a class all lengths cost the same: the one with the least tail is the best of them.
            kind = class_of(length - SHORTEST_MATCH)
            last = min(longest, class_start(kind + 1) - 1 + SHORTEST_MATCH)
            cost = distance_cost + further_width(kind)
            total = tails.least(place + length, place + last) + cost * COST_UNIT
            if total < best:
                best = total
                step = (total % COST_UNIT - place, distance)
            length = last + 1
    return (best // COST_UNIT, step)


def block_parse(text):
    """The block's parse: (0, letter) and (length, distance), step by step."""
    matches = block_matches(text)
    tails = Tails(len(text))
    tails.tell(len(text), 0)
    steps = []
    for place in range(len(text) - 1, -1, -1):
        best = first_step(tails, text[place], matches[place], place)
        tails.tell(place, best[0])
        steps.append(best[1])
    steps.reverse()
    parse = []
    place = 0
    while place < len(text):
        parse.append(steps[place])
        place += max(1, steps[place][0])
    return parse
