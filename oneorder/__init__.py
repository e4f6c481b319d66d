"""One order out of many, whole: booths, their messages, and the office that hears them."""
