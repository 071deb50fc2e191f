"""Seedbed: a language of tasks within scopes, with its compiler and its world."""
