"""Idleclauses: which clauses no refutation can use."""
