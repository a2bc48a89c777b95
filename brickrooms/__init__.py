"""Builds: parts of a catalogue put in a room."""
