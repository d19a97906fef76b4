"""Phrases put together: a small translating machine."""
