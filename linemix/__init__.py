"""Orders as mixes of lines, and what they cost."""
