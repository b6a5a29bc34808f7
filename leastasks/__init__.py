"""Leastasks: how few asks settle a question."""
