"""Twoknowers: interfaces for one who sees and one who hears."""
