"""A log's entries that later or earlier blocks make needless, by kinds."""
