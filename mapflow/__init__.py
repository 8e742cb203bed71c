"""Mapflow: any two drawings of one map flow into one another, and nothing crosses at any moment."""
