"""Sealed streams between two ends that know one another's public keys."""
