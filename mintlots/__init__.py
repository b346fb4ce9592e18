"""Mintlots: what can be paid with a few kinds of coins, and how."""
