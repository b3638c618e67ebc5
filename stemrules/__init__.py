"""Stemrules: rules that make files by patterns."""
