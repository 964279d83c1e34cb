"""Roadsizes: letters too great for their roads."""
