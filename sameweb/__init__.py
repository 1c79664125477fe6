"""Sameweb: webs brought to one telling."""
