"""Sparkrows: who is won over, in webs of every size."""
