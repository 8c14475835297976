"""Passes, which change a circuit and give a certificate that the new one is like the old one."""
