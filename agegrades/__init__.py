"""A people of sets by age: who may join, who rules, who speaks."""
