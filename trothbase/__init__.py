"""Trothbase: a relational database kept by houses of which some may lie."""
