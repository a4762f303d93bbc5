"""Payments with which no group earns more by leaving."""
