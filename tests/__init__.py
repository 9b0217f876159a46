"""The tests of turnfloor."""
