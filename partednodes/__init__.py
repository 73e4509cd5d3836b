"""Nodes that part: processes on several nodes, joined across wires that break."""
