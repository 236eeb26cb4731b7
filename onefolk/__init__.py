"""Onefolk: rows named as one person, why, and taken apart again."""
