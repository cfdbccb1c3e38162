"""A lorry driver's hours."""
