"""Choicerows: testing properties on rows of choices."""
