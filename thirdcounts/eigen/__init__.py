"""The eigenspaces of counts, and their Krein numbers."""
