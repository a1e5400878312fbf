"""Hingerows: motions in space that are rows of hinges."""
