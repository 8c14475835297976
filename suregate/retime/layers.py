"""Retiming in layers: each layer moves latches forward over some ands, by one each."""

from heapq import heappop, heappush

from suregate.frames.frames import in_frame, same_clauses
from suregate.graph.circuit import Circuit
from suregate.graph.joining import Joined
from suregate.judge.certificate import AlikeCertificate
from suregate.retime.weights import check_labels
from suregate.runs.plain import node_values, start_state


def retime(circuit, labels):
    """Returns the layers of retiming by the labels: the circuit that each one yields, and its certificate."""
    check_labels(circuit, labels)
    layers = []
    left = list(labels)
    for _ in range(max(left, default=0)):
        layer = Layer(circuit, [label > 0 for label in left])
        layers.append((layer.after, layer.certificate()))
        circuit = layer.after
        left = [max(left[index] - 1, 0) for index in layer.order]
    return layers


class Layer:
    """One layer, which moves some ands of a circuit; `moved` tells for each and whether it is moved.

    Until all is in its place, the literals of the new circuit are told by nodes of the old one: an and stands for the
    and that it becomes. Behind the nodes of the old circuit follow the new latches, one for each and.
    """

    def __init__(self, before, moved):
        self._before = before
        self._net = before.as_net()
        self._moved = moved
        self._pairs = [
            tuple([self._ahead(literal) if moved[index] else self._led(literal) for literal in pair])
            for index, pair in enumerate(self._net.ands)]
        # The old indexes of the ands in their new order.
        self.order = self._order_of_ands()
        self._kept = self._kept_latches()
        self._places = self._new_places()
        self.after = self._new_circuit()

    def certificate(self):
        """Returns the certificate that the circuits before and after the layer are alike."""
        joined = Joined(self._before, self.after)
        net = self._net
        facts = []
        for node in self._kept:
            old = node if node < net.first_and else node - len(net.ands)
            facts.extend(same_clauses(joined.from_left(2 * old), joined.from_right(2 * self._places[node])))
        lines = []
        next_lines = []
        for node in range(net.first_and, net.node_count):
            x = joined.from_left(2 * node)
            y = joined.from_right(2 * self._places[node])
            if self._moved[node - net.first_and]:
                (later,) = in_frame(joined.joint, (x,), 1)
                next_lines.extend(same_clauses(later, y))
            else:
                lines.extend(same_clauses(x, y))
        return AlikeCertificate(facts, [], lines, next_lines)

    def _led(self, literal):
        """Returns what a literal becomes that is not read by a moved and."""
        index = literal // 2 - self._net.first_and
        if index >= 0 and self._moved[index]:
            return literal + 2 * len(self._net.ands)
        return literal

    def _ahead(self, literal):
        """Returns what a literal of a moved and becomes."""
        index = literal // 2 - self._net.first_latch
        if 0 <= index < len(self._net.latches):
            _, ahead = self._net.latches[index]
            return self._led(ahead) ^ (literal & 1)
        return literal

    def _order_of_ands(self):
        """Returns the indexes of the ands so that each reads only earlier ones, always the first that can follow."""
        first_and = self._net.first_and
        readers = [[] for _ in self._pairs]
        waiting = [0] * len(self._pairs)
        for index, pair in enumerate(self._pairs):
            for literal in pair:
                if first_and <= literal // 2 < self._net.node_count:
                    readers[literal // 2 - first_and].append(index)
                    waiting[index] += 1
        # An ascending list is a heap.
        ready = [index for index, count in enumerate(waiting) if count == 0]
        order = []
        while ready:
            index = heappop(ready)
            order.append(index)
            for reader in readers[index]:
                waiting[reader] -= 1
                if waiting[reader] == 0:
                    heappush(ready, reader)
        return order

    def _is_latch(self, node):
        """Tells whether a node is an old or a new latch."""
        return self._net.first_latch <= node < self._net.first_and or node >= self._net.node_count

    def _next_of(self, node):
        """Returns the new next literal of an old or a new latch."""
        if node >= self._net.node_count:
            return 2 * (node - len(self._net.ands))
        _, literal = self._net.latches[node - self._net.first_latch]
        return self._led(literal)

    def _kept_latches(self):
        """Returns the latches that are kept, the old ones first."""
        waiting = [literal for pair in self._pairs for literal in pair]
        waiting += [self._led(literal) for _, literal in self._before.outputs]
        kept = {}
        while waiting:
            node = waiting.pop() // 2
            if self._is_latch(node) and node not in kept:
                kept[node] = True
                waiting.append(self._next_of(node))
        return sorted(kept)

    def _new_places(self):
        """Returns the nodes of the new circuit, by the nodes by which they were told."""
        places = {node: node for node in range(self._net.first_latch)}
        for node in self._kept:
            places[node] = len(places)
        for index in self.order:
            places[self._net.first_and + index] = len(places)
        return places

    def _new_circuit(self):
        """Returns the circuit that the layer yields."""
        values = node_values(self._net, start_state(self._before), [0] * self._net.input_count)
        names = self._names_of_new_latches()
        latches = []
        for node in self._kept:
            if node < self._net.first_and:
                name, start, _ = self._before.latches[node - self._net.first_latch]
            else:
                name = names[node]
                start = values[node - len(self._net.ands)]
            latches.append((name, start, self._placed(self._next_of(node))))
        pairs = [self._pairs[index] for index in self.order]
        ands = [(self._placed(left), self._placed(right)) for left, right in pairs]
        outputs = [(name, self._placed(self._led(literal))) for name, literal in self._before.outputs]
        return Circuit(self._before.inputs, latches, ands, outputs)

    def _placed(self, literal):
        """Returns the literal of the new circuit."""
        return 2 * self._places[literal // 2] + (literal & 1)

    def _names_of_new_latches(self):
        """Returns the names of the kept new latches, by their nodes."""
        taken = {name: True for name in self._before.inputs}
        taken.update({name: True for name, _, _ in self._before.latches})
        names = {}
        number = 0
        for node in self._kept:
            if node >= self._net.node_count:
                while f"r{number}" in taken:
                    number += 1
                names[node] = f"r{number}"
                number += 1
        return names
