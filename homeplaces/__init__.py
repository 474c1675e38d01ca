"""Keys kept at places that a mixer tells; the calls are answered by homeplaces.table.answers."""
