"""Twinsum: two long books compared by sums kept in a tree."""
