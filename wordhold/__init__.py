"""A house of programs that keep their word."""
