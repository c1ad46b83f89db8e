"""Releases: packages of one tree, given out each by itself."""
