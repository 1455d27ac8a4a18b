"""Tales told in rules: read strictly, and played by typed words."""
