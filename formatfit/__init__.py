"""What gets lost between message formats, and their common formats."""
