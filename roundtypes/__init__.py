"""What one round of a line brings: which other rounds there must be, and how those lie."""
