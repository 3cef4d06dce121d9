"""The tests of idleclauses."""
