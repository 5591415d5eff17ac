"""What an order makes likely."""
