"""Livenames: the names of a term's binders."""
