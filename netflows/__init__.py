"""Flows in a net of 64 nodes: how much can go, what cuts it off, how cheap it can be, and what proves it."""
