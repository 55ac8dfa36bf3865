"""Tickoff: ticks off a bank's list against a shop's book."""
