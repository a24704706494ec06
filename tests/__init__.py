"""The tests of kaleidorooms."""
