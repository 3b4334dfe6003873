"""Wanderers between fields: how a kind's share goes from field to field."""
