"""Runs of many cases at once, with one word for the values of a node in all cases."""

from suregate.runs.plain import start_state


def word_of(words, literal, mask):
    """Returns the word of a literal, given the words of the nodes."""
    if literal & 1:
        return words[literal // 2] ^ mask
    return words[literal // 2]


def packed_values(net, state_words, row_words, mask):
    """Returns the words of all nodes of a net."""
    words = [0, *row_words, *state_words]
    for left, right in net.ands:
        words.append(word_of(words, left, mask) & word_of(words, right, mask))
    return words


def mask_of(case_count):
    """Returns the word with a 1 for each case."""
    return (1 << case_count) - 1


def row_of(count, number):
    """Returns the binary digits of the number, the highest first."""
    return [(number >> place) & 1 for place in reversed(range(count))]


def all_rows(count):
    """Returns one word for each input, with one case for each row of so many inputs."""
    words = []
    case_count = 1
    for _ in range(count):
        # A further digit in front of the rows: all of them with its 0, then all of them again with its 1.
        words = [mask_of(case_count) << case_count] + [word | word << case_count for word in words]
        case_count *= 2
    return words


def packed_run(circuit, courses):
    """Returns for each of the courses, all of one length, what run returns."""
    net = circuit.as_net()
    mask = mask_of(len(courses))
    state_words = [mask * start for start in start_state(circuit)]
    cycle_words = []
    for rows in zip(*courses):
        row_words = [_word_of_bits([row[place] for row in rows]) for place in range(net.input_count)]
        words = packed_values(net, state_words, row_words, mask)
        cycle_words.append([word_of(words, literal, mask) for _, literal in circuit.outputs])
        state_words = [word_of(words, literal, mask) for _, literal in net.latches]
    return [[_bits_of_case(told, case) for told in cycle_words] for case in range(len(courses))]


def _word_of_bits(bits):
    """Returns the word with one bit for each case, in order."""
    word = 0
    for case, bit in enumerate(bits):
        word |= bit << case
    return word


def _bits_of_case(words, case):
    """Returns the bits of one case."""
    return [(word >> case) & 1 for word in words]
