"""A people as it stands in one year, and what can be read off it."""

LAST_YEAR = 400
MOST_MEN = 24


class Man:
    # father and age_set are None as long as there is none that is told.
    def __init__(self, born, father):
        self.born = born
        self.father = father
        self.lives = True
        self.age_set = None


class People:
    def __init__(self, term, grades, names, youngest, oldest):
        self.term = term
        self.grades = grades
        self.names = names
        self.youngest = youngest
        self.oldest = oldest
        self.year = 0
        self.men = []
        self.behind = 1
        self.office = 0

    def newest(self):
        return self.year // self.term

    def years_left(self):
        return self.term - self.year % self.term

    def name_of(self, age_set):
        return age_set % self.names

    def has_man(self, number):
        return number < len(self.men)

    def has_grade(self, grade):
        return grade < self.grades

    # In the first terms the upper grades have no set yet: None.
    def set_in(self, grade):
        age_set = self.newest() - grade
        return age_set if age_set >= 0 else None

    def grade_of(self, age_set):
        return self.newest() - age_set

    def age_of(self, man):
        return self.year - man.born

    def living_in(self, age_set):
        return [number for number, man in enumerate(self.men) if man.lives and man.age_set == age_set]


# The powers of 2 are doubled up one by one, so that no exponent is reckoned.
def as_set_of_men(numbers):
    together = 0
    power = 1
    for number in range(MOST_MEN):
        if number in numbers:
            together += power
        power += power
    return [len(numbers), together]
