"""Mutesigns: what can be known of a writing that nobody can read."""
