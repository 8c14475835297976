"""The like literals of the nodes of a net, found one after the other."""

from suregate.runs.packed import mask_of, packed_values, word_of


class Classes:
    """The nodes that are kept so far, with the values of all nodes in some cases; its methods change it.

    The leaf words tell the values of the inputs and latches in these cases. The first so many of them are free:
    they may have any values. The prover has a method `parting`, which tells whether two literals are like each
    other: it returns None, or a model in which they differ.
    """

    def __init__(self, net, prover, leaf_words, case_count, free_count):
        self._net = net
        self._prover = prover
        self._free_count = free_count
        self._case_count = case_count
        self._words = self._values_of(leaf_words, case_count)
        # For each pattern of values the node that is kept and has it.
        self._kept = {}

    def like_literal(self, node):
        """Returns the like literal of the node; to be called for all nodes in order."""
        while True:
            other = self._kept.setdefault(self._pattern_of(node), node)
            if other == node:
                return 2 * node
            literal = 2 * other
            if self._words[other] != self._words[node]:
                literal += 1
            model = self._prover.parting(2 * node, literal)
            if model is None:
                return literal
            self._add_cases(model)

    def _pattern_of(self, node):
        """Returns the word of the literal of the node that is false in the first case."""
        return word_of(self._words, 2 * node + (self._words[node] & 1), mask_of(self._case_count))

    def _values_of(self, leaf_words, case_count):
        """Returns the words of all nodes."""
        input_count = self._net.input_count
        return packed_values(
            self._net, leaf_words[input_count:], leaf_words[:input_count], mask_of(case_count))

    def _add_cases(self, model):
        """Adds the case of a model, and those that differ from it in one free leaf."""
        count = self._free_count + 1
        leaf_words = [mask_of(count) * value for value in model[1:self._net.first_and]]
        for index in range(self._free_count):
            leaf_words[index] ^= 2 << index
        new_words = self._values_of(leaf_words, count)
        self._words = [word << count | new_word for word, new_word in zip(self._words, new_words)]
        self._case_count += count
        # What differed before still differs.
        self._kept = {self._pattern_of(node): node for node in sorted(list(self._kept.values()))}
