"""Wordquarry: a search engine whose rules are decided for all texts."""
