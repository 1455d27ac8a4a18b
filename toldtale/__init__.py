"""Tales told in rules: read strictly, played by typed words, and gone through for how they can still be won."""
