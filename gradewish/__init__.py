"""Gradewish: marks, the worst left out, and what is still needed."""
