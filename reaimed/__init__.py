"""Reaimed: a language of prototypes, and a machine that compiles it while it changes."""
