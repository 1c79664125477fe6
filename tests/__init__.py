"""Tests of sameweb."""
