"""Hillrows: rows of ups and downs that stay above the ground."""
