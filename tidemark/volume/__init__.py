"""Volumes: trees of files on chips."""
