"""Wale, a language of knitting patterns: its texts are judged and printed by waletexts.patterns."""
