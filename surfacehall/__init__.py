"""Surfacehall: many draw on one screen, through a house."""
