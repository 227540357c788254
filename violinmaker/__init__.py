"""A violin-maker's: wood, plates, varnish, strings, and instruments that are lent and sold."""
