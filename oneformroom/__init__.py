"""Values of the concise binary object representation (RFC 8949), written in one form."""
