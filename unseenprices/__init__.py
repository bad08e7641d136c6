"""Choosing under a rule of independence while prices are known by bounds or comparisons alone."""
