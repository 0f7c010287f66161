"""Crcgate: rows with check signs, by remainders over yes and no."""
