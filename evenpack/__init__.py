"""A pack filled evenly: groups behind one another, what they give, and what must be bled for more."""
