"""Tallysets: how often each letter."""
