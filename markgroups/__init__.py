"""What things have in common: tables of things and their marks."""
