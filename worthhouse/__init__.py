"""Worthhouse: rules that may call themselves, over worths of any scale."""
