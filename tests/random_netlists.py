"""Netlists by chance."""

import random

from suregate.mapping.netlist import Netlist


def random_netlist(seed, most_tables=12):
    """Returns a netlist that is the same for the same numbers; pins stand in any order and can be repeated."""
    chance = random.Random(seed)
    input_count = chance.randrange(4)
    register_count = chance.randrange(4)
    table_count = chance.randrange(most_tables + 1)
    first_table = input_count + register_count
    end = first_table + table_count
    tables = []
    for signal in range(first_table, end):
        count = chance.randrange(7) if signal > 0 else 0
        # Mostly signals close by, so that netlists are deep.
        pins = tuple(chance.randrange(max(0, signal - chance.choice((3, 6, 100))), signal) for _ in range(count))
        tables.append((pins, chance.randrange(2 ** 2 ** count)))
    registers = [(f"q{k}", chance.randrange(2), chance.randrange(end)) for k in range(register_count)]
    outputs = [(f"o{k}", chance.randrange(end)) for k in range(chance.randrange(4) if end else 0)]
    return Netlist([f"i{k}" for k in range(input_count)], registers, tables, outputs)


def random_delays(seed, netlist, most=9):
    """Returns delays for the netlist; they are small, so that many of them are equal."""
    chance = random.Random(seed)
    return [
        (chance.randrange(1, most + 1), tuple(chance.randrange(most + 1) for _ in pins))
        for pins, _ in netlist.tables]
