"""Onceonly: services that must act once on each request."""
