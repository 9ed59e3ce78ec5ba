"""Marblehall: a marble run builder's bench."""
