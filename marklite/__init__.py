"""Marklite: a small markup for notes in which every text has one meaning."""
