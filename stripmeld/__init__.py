"""Stripmeld: scattered strips of a field brought together by exchanges of neighbours."""
