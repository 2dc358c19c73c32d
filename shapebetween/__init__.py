"""Shapebetween: what the past of a self-adjusting search tree allows."""
