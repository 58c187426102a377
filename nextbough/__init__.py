"""Nextbough: which packet goes next, and which chip can say so."""
