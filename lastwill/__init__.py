"""Lastwill: boxes that are held, looked at, and given up."""
