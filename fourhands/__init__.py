"""Hands of bridge; what can be called stands in fourhands.desk."""
