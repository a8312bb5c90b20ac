"""Which parts of a row to buy so that losses are borne, while prices are unseen."""
