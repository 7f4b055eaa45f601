"""Goods through a net of pipes: how much can go, at what cost, and where it's narrow."""
