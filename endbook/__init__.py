"""Endbook: texts by the order of all their ends, words in them, repeats, turns of rings, and falling parts."""
