"""Raftwalk: folk on a raft who drive it by walking, and step ashore."""
