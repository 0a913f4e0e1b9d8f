"""Glossed texts: read strictly, said in columns, and what is known of their pieces."""
