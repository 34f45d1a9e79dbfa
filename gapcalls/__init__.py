"""Gapcalls: who called whom, told from late and gappy rows."""
