"""Wale, a language of knitting patterns: waletexts.patterns judges, prints and compares its texts."""
