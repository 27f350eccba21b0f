"""Everyfuture: first decisions that are held against every future of a kind."""
