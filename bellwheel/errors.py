"""The program's own errors: none so far, since no point of the document refuses anything by an error."""
