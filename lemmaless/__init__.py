"""Lemmaless: claims shown line by line, and their lemmas taken out."""
