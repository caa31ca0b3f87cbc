"""Summaries of a log's pieces, told by what each piece makes of every rest of a wish."""
