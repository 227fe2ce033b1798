"""Places of one edition found in another."""
