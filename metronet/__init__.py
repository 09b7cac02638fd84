"""Metronet: planned traffic in a switched network."""
