"""Balls round words: how often they hit, whether they cover and whether they are apart."""
