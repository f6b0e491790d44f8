"""A bridge's file: what was known of it when, and what was posted by that."""
