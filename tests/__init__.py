"""The tests of everyfuture."""
