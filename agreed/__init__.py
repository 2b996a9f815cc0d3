"""How two come to terms: what they settle on, of what they can have together."""
