"""Meanchoice: choices made one by one by their mean."""
