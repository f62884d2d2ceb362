"""A ring of records on a store that loses its power."""
