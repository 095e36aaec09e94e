"""Regpress: programs put into few pans, and a looker that no wrong one passes."""
