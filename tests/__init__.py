"""The tests of whomay."""
