"""A boat and the harvest: trips along a shore, from a plant that unloads in its open hours."""
