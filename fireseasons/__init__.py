"""A fire season: a forest, its days, and what they burn."""
