"""Yardhall, layer a: track plans and routes."""
