"""Programs on texts that use what they are handed at most once, and the heads that they are."""
