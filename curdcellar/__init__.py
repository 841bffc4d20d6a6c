"""Curdcellar: the book and the plans of a cheese cellar."""
