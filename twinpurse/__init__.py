"""Twinpurse: everything that programs with two purses can come to."""
