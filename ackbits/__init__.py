"""Ackbits: letters whose coming is told by a number and some bits."""
