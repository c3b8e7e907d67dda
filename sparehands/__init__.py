"""Sparehands: posts, people who can take them, and what stands when some drop out."""
