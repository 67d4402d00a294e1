"""Bitmill: programs in words of sixteen bits."""
