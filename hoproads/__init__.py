"""Hoproads: cars that hop on a road, their steady shares, and all that is one with them."""
