"""Onlyviews: views that follow changes without their tables."""
