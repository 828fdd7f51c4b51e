"""Emptyfirst: services that talk on endless lines."""
