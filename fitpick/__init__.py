"""Packages whose versions fit."""
