"""Replacing credentials without a gap across services that learn late."""
