"""Where room is put: a row of machines that work by chance, and room for pieces between them."""
