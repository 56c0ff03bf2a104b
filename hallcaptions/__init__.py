"""Captions: what a live writer writes goes to a screen in whole words and whole lines."""
