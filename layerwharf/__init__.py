"""Layerwharf: a registry of layered images, and clients over a bad wire."""
