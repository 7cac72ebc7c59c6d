"""What a reader makes of the letters that came."""
