"""Kaleidorooms: lamps that hand on their numbers, rooms between mirrors, and arrows."""
