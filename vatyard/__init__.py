"""Vatyard: vats and pipes, wants met as soon as can be."""
