"""Peakroll: bars over time by rolls, whatever way they were rolled and in whatever order their entries came."""
