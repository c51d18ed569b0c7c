"""Proofs of equations, and a small checker."""
