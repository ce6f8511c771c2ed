"""Spikebook: bills and credits, and what is set against what."""
