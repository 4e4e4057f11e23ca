"""Calls set up by messages: transactions that send again, tell once and acknowledge."""
