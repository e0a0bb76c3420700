"""Rooms and walls of ends."""
