"""Drycells: letters hidden in grey pictures, and exactly when none can be."""
