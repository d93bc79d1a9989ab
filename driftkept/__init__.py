"""Driftkept: a store of keys in memory that lasts."""
