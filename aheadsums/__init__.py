"""Ahead sums: columns made of sums over the rows ahead and behind."""
