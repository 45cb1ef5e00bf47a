"""Groupwalks: walks through all of a group."""
