"""Flushtold: writes that are told as done together."""
