"""Expanders that read again what they put in front."""
