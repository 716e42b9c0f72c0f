"""Pacehouse: captions that are right while speech still comes."""
