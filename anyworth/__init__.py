"""A database whose facts bear worths, and the comparison of its questions."""
