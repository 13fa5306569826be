"""Binary codes of up to ten bits on a bench of eight slots."""
