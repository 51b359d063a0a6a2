"""Romwright: programs for small machines, linked by names."""
