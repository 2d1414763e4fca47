"""Fallstones: rows of stones that fall one after the other, and what they compute."""
