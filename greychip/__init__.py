"""A camera's chip: counts are taken, cleaned, mended, and told in colours and in grey."""
