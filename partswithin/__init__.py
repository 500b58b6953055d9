"""Parts within parts, by ridges and for every price."""
