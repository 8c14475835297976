"""Suregate: clocked circuits that are changed, compared and timed, each answer with a certificate."""
