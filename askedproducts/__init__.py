"""Systems solved by asking for products with a matrix that nobody sees."""
