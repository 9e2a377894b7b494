"""The contents of pages, and the octets they are written as."""
