"""Leastspare: records on a disk that stand any cut, with few spare blocks."""
