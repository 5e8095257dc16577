"""Driftwood: moving boxes in a tree of pages, each answer with a paper."""
