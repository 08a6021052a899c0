"""The order of precedence among names."""
