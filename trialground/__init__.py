"""Trials of linear worlds: what they tell, and how well."""
