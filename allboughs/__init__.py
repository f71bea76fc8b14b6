"""Allboughs decides sentences about sets of places of the endless tree of two ways."""
