"""Writebacks: changing a state through views of it."""
