"""Quadratic mixture model: predicts the responses of mixtures of a few components."""
