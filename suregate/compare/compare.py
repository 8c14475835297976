"""Comparing two circuits, with a certificate that they are alike, or a course that tells them apart."""

from suregate.compare.facts import blocking_clauses
from suregate.compare.proofs import lines_for
from suregate.compare.reach import explored
from suregate.compare.steps import Steps
from suregate.graph.joining import Joined
from suregate.judge.certificate import AlikeCertificate


def compare(left, right, *, most):
    """Returns "alike" and the certificate, or "unlike", the course, and layers which show that none is shorter."""
    joined = Joined(left, right)
    states, lengths, course = explored(joined, most)
    if course is None:
        return "alike", certificate_of_states(joined.joint, states)
    steps = Steps(joined.joint, states, lengths)
    return "unlike", course, [steps.layer() for _ in course[1:]]


def certificate_of_states(net, states):
    """Returns the certificate whose facts say that the joint state is one of these."""
    facts = blocking_clauses(states, net.first_latch, len(net.latches))
    return AlikeCertificate(facts, [], lines_for(net, facts, states), [])
