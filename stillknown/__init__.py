"""What is still known of rows that were thrown away."""
