"""Clausekeep: formulas with a model or a refutation."""
