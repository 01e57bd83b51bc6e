"""Drawloom: one program, many threads."""
