"""Toldmeans: what all shares with told means agree on, with papers."""
