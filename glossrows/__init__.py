"""Glossed texts: read strictly, said in columns, what is known of their pieces, and what stands where."""
