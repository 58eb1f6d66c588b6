"""What's there shared out among claims, class by class, in exact fractions."""
