"""The tests of sparkrows."""
