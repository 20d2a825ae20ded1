"""Pairs of whole numbers whose one square is nearly n times the other, at a desk."""
