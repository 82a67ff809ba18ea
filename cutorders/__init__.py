"""Cut to orders: which orders are best filled out of which pieces of cable."""
