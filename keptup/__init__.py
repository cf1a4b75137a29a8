"""Kept up: data handed on from a source to a target, fact by fact, and what is sure of it."""
