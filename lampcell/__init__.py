"""A lamp in a cell: people are called in one at a time, and one of them counts."""
