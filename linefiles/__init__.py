"""Files sent over a line that may lose and damage bytes: one end of it."""
