"""Whichstand: rows that tell where a machine was."""
