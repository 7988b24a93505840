"""Tables with cells that span: read strictly, asked about, and written again in their one form."""
