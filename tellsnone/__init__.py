"""Games with lots, and how little players can tell about them."""
