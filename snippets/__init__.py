"""Snippets: templates that are put into a text and filled in, place by place."""
