"""Passproven: compilers as data, and a judge that says whether a pass keeps every run."""
