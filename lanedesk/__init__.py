"""Mixhall: levels and lanes of a mixing desk."""
