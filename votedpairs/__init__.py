"""Stable and popular matchings of persons and hosts."""
