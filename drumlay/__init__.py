"""Drumlay: rows laid on a drum that turns under a head."""
