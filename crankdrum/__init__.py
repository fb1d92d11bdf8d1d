"""Crankdrum: a reckoning machine of brass, and handbooks that hold for all settings."""
