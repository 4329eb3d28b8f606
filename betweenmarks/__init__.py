"""Places between marks: where a quantity may be, known only by its marks and its direction."""
