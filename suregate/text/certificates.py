"""Certificates that two circuits are alike, as text."""

from suregate.judge.certificate import AlikeCertificate
from suregate.text.lines import LineReader, line_of, numbers_of


def write_certificate(certificate):
    """Returns the text of a certificate."""
    lines = ["certificate\n"]
    lines += [line_of("fact", clause) for clause in certificate.facts]
    lines += [line_of("start", clause) for clause in certificate.start_lines]
    lines += [line_of("line", clause) for clause in certificate.lines]
    lines += [line_of("next", clause) for clause in certificate.next_lines]
    return "".join(lines)


def read_certificate(text):
    """Returns the certificate that the text writes."""
    reader = LineReader(text)
    certificate = take_certificate(reader)
    reader.finish()
    return certificate


def take_certificate(reader):
    """Takes the lines of a certificate and returns it."""
    reader.take_title("certificate")
    facts = reader.take_entries("fact", numbers_of)
    start_lines = reader.take_entries("start", numbers_of)
    lines = reader.take_entries("line", numbers_of)
    next_lines = reader.take_entries("next", numbers_of)
    return AlikeCertificate(facts, start_lines, lines, next_lines)
