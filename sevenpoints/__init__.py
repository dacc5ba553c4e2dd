"""Sevenpoints: programs without jumps, and the cheapest placing of their values."""
