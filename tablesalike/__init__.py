"""Tables alike: what stays the same of a square table of fractions, whatever axes are chosen."""
