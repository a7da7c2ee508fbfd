"""Namewalk: where path names lead while the tree of names changes."""
