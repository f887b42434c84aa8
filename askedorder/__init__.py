"""How the lists of CPython 3.13 are sorted, question by question."""
