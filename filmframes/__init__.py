"""Frames: films of a few pictures, each shown for so many ticks."""
