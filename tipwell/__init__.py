"""Tipwell: vessels that tip when full."""
