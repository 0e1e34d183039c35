"""Notes in series and their marks."""
