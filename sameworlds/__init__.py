"""Arrays, the same or not: terms, and claims about them."""
