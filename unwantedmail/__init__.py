"""How likely a letter is unwanted, by the letters that somebody said they wanted and didn't."""
