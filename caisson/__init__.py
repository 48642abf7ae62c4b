"""Caisson: a volume on a disk that nobody trusts."""
