"""Faces, and bodies built alike: alikebodies.bodies holds the calls."""
