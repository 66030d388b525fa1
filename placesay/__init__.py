"""Placesay: what is said of the places of a word, turned into machines."""
