"""Blocks in several copies that are harmed without a word: what is taken for right, and what is lost."""
