"""What holds for every pass ([41]), checked for one pass and one circuit."""

from helpers import plain, random_course

from suregate.judge.alike import fault_of_alike
from suregate.runs.plain import run


def check_pass(test, change, circuit, same_latches=True):
    """Checks [41] for a pass that does not merge or drop latches, or for one that does; returns what it returns."""
    before = plain(circuit)
    answer = change(circuit)
    test.assertIs(tuple, answer.__class__)
    after, certificate = answer
    test.assertEqual(before, plain(circuit))
    test.assertEqual(circuit.inputs, after.inputs)
    test.assertEqual([name for name, _ in circuit.outputs], [name for name, _ in after.outputs])
    if same_latches:
        test.assertEqual([latch[:2] for latch in circuit.latches], [latch[:2] for latch in after.latches])
    test.assertIsNone(fault_of_alike(circuit, after, certificate))
    for seed in range(3):
        course = random_course(seed, len(circuit.inputs), 12)
        test.assertEqual(run(circuit, course), run(after, course))
    return after, certificate


def check_hashed(test, circuit):
    """Checks the last sentence of [43]."""
    pairs = [tuple(sorted(pair)) for pair in circuit.ands]
    test.assertEqual(len(pairs), len(set(pairs)))
    for left, right in pairs:
        test.assertGreater(left, 1)
        test.assertNotEqual(left // 2, right // 2)
