"""Tables of small functions, products and networks for them, and cuts."""
