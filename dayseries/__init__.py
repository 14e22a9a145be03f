"""Series of days, and what has been done to their steps."""
