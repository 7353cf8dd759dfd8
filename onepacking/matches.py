"""The matches at each place of a block: of each length the nearest."""

SHORTEST_MATCH = 3
LONGEST_MATCH = 258


def alike_levels(text):
    """For widths of 3, 6, 12, .. bytes: of each place the places with the same bytes, as the bits of a number."""
    where = {}
    for place, letter in enumerate(text):
        where[letter] = where.get(letter, 0) | (1 << place)
    single = [where[letter] for letter in text]
    level = [a & (b >> 1) & (c >> 2) for a, b, c in zip(single, single[1:], single[2:])]
    levels = [level]
    width = SHORTEST_MATCH
    while 2 * width <= LONGEST_MATCH:
        level = [a & (b >> width) for a, b in zip(level, level[width:])]
        levels.append(level)
        width *= 2
    return levels


def nearest_before(levels, place, length):
    """The last place ahead of this one with the same `length` bytes, -1 if there's none."""
    number = (length // SHORTEST_MATCH).bit_length() - 1
    alike = levels[number]
    # Two stretches of the level's width, one from the front and one up to the end, cover the length.
    shift = length - (SHORTEST_MATCH << number)
    places = alike[place] & (alike[place + shift] >> shift) & ((1 << place) - 1)
    return places.bit_length() - 1


def same_until(text, place, distance):
    """The first place from here on whose byte isn't that of `distance` before."""
    while place < len(text) and text[place] == text[place - distance]:
        place += 1
    return place


def matches_at(text, levels, ends, place):
    """Pairs of a distance and the greatest length there, both rising: each length's nearest distance.

    `ends` keeps of each distance up to where it was last followed: what's ahead of that isn't gone over again.
    """
    most = min(LONGEST_MATCH, len(text) - place)
    found = []
    length = SHORTEST_MATCH
    while length <= most:
        before = nearest_before(levels, place, length)
        if before < 0:
            break
        distance = place - before
        if ends[distance] <= place:
            ends[distance] = same_until(text, place + length, distance)
        longest = min(most, ends[distance] - place)
        found.append((distance, longest))
        length = longest + 1
    return found


def block_matches(text):
    """The matches at each place of the block, as matches_at tells them."""
    levels = alike_levels(text)
    ends = [0] * len(text)
    return [matches_at(text, levels, ends, place) for place in range(len(text))]
