"""Translatory: machines of many kinds that run alike."""
