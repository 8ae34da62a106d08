"""Folio lays out whole books."""
