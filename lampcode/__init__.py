"""Lampcode: texts told by a lamp's short and long flashes, as few as can be."""
