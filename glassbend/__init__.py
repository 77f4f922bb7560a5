"""Tubes of glass along a drawing."""
