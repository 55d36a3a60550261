"""A people as it stands in one year, and what can be read off it."""

LAST_YEAR = 400
MOST_MEN = 24


class Man:
    # father, age_set and joined are None as long as there is none that is told.
    def __init__(self, born, father):
        self.born = born
        self.father = father
        self.lives = True
        self.age_set = None
        self.joined = None


class People:
    def __init__(self, term, grades, names, youngest, oldest):
        self.term = term
        self.grades = grades
        self.names = names
        self.youngest = youngest
        self.oldest = oldest
        self.year = 0
        self.men = []
        self.behind = 1
        self.office = 0

    def newest_in(self, year):
        return year // self.term

    def newest(self):
        return self.newest_in(self.year)

    def years_left(self):
        return self.term - self.year % self.term

    def name_of(self, age_set):
        return age_set % self.names

    def has_man(self, number):
        return number < len(self.men)

    def has_grade(self, grade):
        return grade < self.grades

    def has_name(self, name):
        return name < self.names

    # In the first terms the upper grades have no set yet: None.
    def set_in(self, grade):
        age_set = self.newest() - grade
        return age_set if age_set >= 0 else None

    def grade_of(self, age_set):
        return self.newest() - age_set

    def has_retired(self, age_set):
        return not self.has_grade(self.grade_of(age_set))

    def age_of(self, man):
        return self.year - man.born

    def living_in(self, age_set):
        return [number for number, man in enumerate(self.men) if man.lives and man.age_set == age_set]


def copied_man(man):
    twin = Man(man.born, man.father)
    twin.lives = man.lives
    twin.age_set = man.age_set
    twin.joined = man.joined
    return twin


def copied_people(people):
    twin = People(people.term, people.grades, people.names, people.youngest, people.oldest)
    twin.year = people.year
    twin.men = [copied_man(man) for man in people.men]
    twin.behind = people.behind
    twin.office = people.office
    return twin


# How men are told, and grades: how many they are, and 2 to the power of each
# one's number, together. The powers are doubled up, so that no exponent is reckoned.
def counted_and_together(numbers):
    together = 0
    for number in numbers:
        power = 1
        for doubling in range(number):
            power += power
        together += power
    return [len(numbers), together]
