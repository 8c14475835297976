"""Certificates that two circuits are alike."""


class AlikeCertificate:
    """Four lists of clauses over a joint net: the facts, the start lines, the lines and the next lines."""

    def __init__(self, facts, start_lines, lines, next_lines):
        self.facts = [tuple(clause) for clause in facts]
        self.start_lines = [tuple(clause) for clause in start_lines]
        self.lines = [tuple(clause) for clause in lines]
        self.next_lines = [tuple(clause) for clause in next_lines]

    def __eq__(self, other):
        return (isinstance(other, AlikeCertificate) and self.facts == other.facts
                and self.start_lines == other.start_lines and self.lines == other.lines
                and self.next_lines == other.next_lines)
