"""What the pages of a chip tell, and their defects."""
