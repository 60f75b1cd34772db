"""windowtable: window functions over a table that changes."""
