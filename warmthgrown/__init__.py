"""Grown by warmth: eggs that hatch by warmth, and fish that grow by feed and warmth."""
