"""Taflhall: rules of unequal board wars."""
