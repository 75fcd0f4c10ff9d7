"""Introductions: two who have an acquaintance in common are introduced."""
