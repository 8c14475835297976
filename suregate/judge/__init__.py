"""Certificates, and the functions that check them."""
