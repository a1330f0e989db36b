"""Lookingnets: programs over texts made into nets that look back, exactly."""
