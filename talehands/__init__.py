"""Talehands: books of stories, told to hands that see only their own part."""
