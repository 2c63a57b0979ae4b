"""Markring: reflecting marks on a ring."""
