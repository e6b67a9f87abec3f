"""A table that several look through, each by a view of their own."""
