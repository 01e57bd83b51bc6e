"""The tests of drawloom."""
