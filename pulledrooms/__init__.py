"""Pulledrooms: rooms with ropes, doors with two numbers, and what finite halls can show."""
