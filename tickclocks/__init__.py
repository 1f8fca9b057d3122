"""Ticks and timers: a game that goes on in ticks that are all alike."""
