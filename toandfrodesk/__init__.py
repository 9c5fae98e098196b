"""Texts read to and fro by machines of few states."""
