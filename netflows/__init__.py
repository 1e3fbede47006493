"""Flows in a net of 64 nodes: how much can go from one to another, and which nodes cut it off."""
