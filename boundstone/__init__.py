"""Boundstone: a table whose ranges split, move and join while it is used."""
