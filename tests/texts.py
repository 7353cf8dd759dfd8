"""Texts of many kinds for the tests."""

import random


def sentence(size):
    words = b"squeeze bytes are written smaller without any loss in blocks each by itself "
    return [(words * (size // len(words) + 1))[k] ^ (k % 97 == 0) for k in range(size)]


def noise(size, letters, seed):
    source = random.Random(seed)
    return [source.randrange(letters) for _ in range(size)]


def copies(size, seed):
    """A text with matches of many lengths and distances."""
    source = random.Random(seed)
    text = noise(4, 256, seed)
    while len(text) < size:
        distance = source.randrange(1, len(text) + 1)
        for _ in range(source.choice([1, 3, 4, 9, 30, 258, 300])):
            text.append(text[-distance])
        text.append(source.randrange(256))
    return text[:size]


TEXTS = (
    [[], [0], [255], [7, 7, 7], [0] * 1023, [0] * 1024, [0] * 1025, [9] * 5000, list(range(256)) * 5]
    + [sentence(size) for size in (1, 2, 40, 300, 1023, 1024, 1025, 2048, 2049, 5000)]
    + [noise(size, 256, size) for size in (1, 100, 1023, 1024, 1025, 2500)]
    + [noise(size, 2, size) for size in (3, 60, 1024, 1500)]
    + [copies(size, size) for size in (50, 1023, 1024, 1025, 3000)]
)
