"""Heavierhall: things that meet, the heavier gives."""
