"""What sways an answer, yes or no, that hangs on bits."""
