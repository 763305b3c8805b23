"""Who owns how much of each company, in the end, through all that companies hold of one another."""
