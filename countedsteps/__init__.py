"""Journeys of which the steps alone are counted."""
