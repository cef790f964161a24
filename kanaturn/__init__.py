"""A conversion under way: a reading, shown as the likeliest way of writing it."""
