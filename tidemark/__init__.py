"""Tidemark: files on raw flash memory."""
