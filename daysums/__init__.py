"""Sums of a day: who came to a door and who went, minute by minute, without knowing who is who."""
