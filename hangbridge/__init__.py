"""Hangbridge: a controller that reaches its switches by their own tables."""
