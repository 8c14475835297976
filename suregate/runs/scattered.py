"""Words for many cases that differ from each other in as many ways as possible."""

from suregate.runs.packed import mask_of

# Below this place the digits of powers of three come again too soon.
FIRST_PLACE = 64


def scattered_words(count, case_count):
    """Returns so many words, always the same ones: digits of powers of three, which follow no simple pattern."""
    power = 1
    for _ in range(FIRST_PLACE + case_count):
        power *= 3
    words = []
    for _ in range(count):
        power *= 3 ** 41
        words.append((power >> FIRST_PLACE) & mask_of(case_count))
    return words
