"""Stilltold: programs that choose among numbers, and what can still be told."""
