"""Wale, a language of knitting patterns: its texts are judged by waletexts.patterns."""
