"""Classmarks: a class's marks kept by rules that change."""
