"""Protests: claims, witnesses, rules."""
