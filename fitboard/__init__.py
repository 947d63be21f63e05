"""Fitboard: parts with versions that need other parts, chosen or shown not to fit."""
