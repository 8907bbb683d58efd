"""Which data can be turned into one another without loss."""
