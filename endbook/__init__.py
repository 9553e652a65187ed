"""Endbook: texts by the order of all their ends."""
