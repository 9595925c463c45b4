"""Owntables: integer rows known by their own tables."""
