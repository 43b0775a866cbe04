"""Alikeclash: rules by which rows clash, for all tables at once."""
