"""Ghostkeys: keys at crossings of rows and columns, without one-way wires."""
