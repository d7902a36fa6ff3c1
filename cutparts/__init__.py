"""Parts: blocks of wood with boxes cut out of them."""
