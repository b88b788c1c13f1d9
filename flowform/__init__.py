"""Flowform: equivalence and smallest restructuring of control flow with labelled jumps."""
