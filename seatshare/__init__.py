"""Seats shared out by votes."""
