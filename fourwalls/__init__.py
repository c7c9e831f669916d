"""Fourwalls: floors that are cut in two by their faces, for all histories."""
