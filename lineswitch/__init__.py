"""Lineswitch: boards of lights switched by whole lines."""
