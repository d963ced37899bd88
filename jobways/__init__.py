"""Pipelines: jobs told in a text, their instances, and runs of them."""
