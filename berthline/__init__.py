"""Berthline: ships along one quay."""
