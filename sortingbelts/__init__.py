"""A sorting works: waste is fed, parted by machines into bays, baled or dumped."""
