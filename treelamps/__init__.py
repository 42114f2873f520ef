"""Treelamps: moving lamps on a forest."""
