"""Calls that overlap in time, put into one order, or shown to have none."""
