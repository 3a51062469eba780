"""Calls that last: people joined by a tree, and when all of them know some news."""
