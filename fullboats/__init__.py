"""Fullboats: ferries that depart when they are full."""
