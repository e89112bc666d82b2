"""Codecolumns: a store of columns, answered on their forms."""
