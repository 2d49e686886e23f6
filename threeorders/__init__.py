"""Threeorders: what follows from finds that lay side by side."""
