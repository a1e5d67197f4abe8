"""Optimal designs: exact figures of an experiment's design."""
