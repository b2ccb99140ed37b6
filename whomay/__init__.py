"""Whomay: who may ever come to hold what."""
