"""Reticle: checking, extracting and comparing chip layouts."""
