"""What came oftenest: counters at stations, and what they tell."""
