"""Timing sign-off for clocked circuits."""
