"""Rows kept in order on shelves with loose room."""
