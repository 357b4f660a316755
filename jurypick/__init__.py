"""A jury picked: who sits where, whose turn it is, when it is done."""
