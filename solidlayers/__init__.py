"""Solids cut into layers."""
