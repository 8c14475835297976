"""Netlists of tables, and circuits mapped onto them."""
