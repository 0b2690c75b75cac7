"""Users, the load that they put on the grades, and their assignment to cascades."""


class User:
    """One user: the grade at which it takes water, that at which it returns it, and its value."""

    def __init__(self, supply_grade, return_grade, value):
        self.supply_grade = supply_grade
        self.return_grade = return_grade
        self.value = value

    def occupies(self, grade):
        """Tell whether this user occupies the grade."""
        return self.return_grade < grade and grade <= self.supply_grade

    def can_follow(self, other):
        """Tell whether this user can take the water that the other one returns."""
        return self.supply_grade <= other.return_grade

    def cost(self, prices):
        """Add up the prices of the grades that this user occupies."""
        # Grade 1 has the price at place 0, so the grades above the return grade begin at the place of its number.
        return sum(prices[self.return_grade:self.supply_grade])


def load_of(users, grade):
    """Count the users that occupy the grade."""
    return len([user for user in users if user.occupies(grade)])


def peak_load_of(users, grade_count):
    """Answer the greatest load of a grade from 1 to grade_count."""
    return max([load_of(users, grade) for grade in range(1, grade_count + 1)])


def peak_grade_of(users, grade_count):
    """Answer the lowest grade that bears the peak load."""
    peak = peak_load_of(users, grade_count)
    grade = 1
    while load_of(users, grade) < peak:
        grade = grade + 1
    return grade


def members_of(user_set, user_count):
    """List the numbers of the users in the bit mask, in ascending order."""
    return [number for number in range(user_count) if ((user_set >> number) & 1) == 1]


def place_for(users, cascades, number):
    """Answer the place of the first cascade that can take the user, or the place behind them all."""
    for place in range(len(cascades)):
        last = cascades[place][-1]
        if users[number].can_follow(users[last]):
            return place
    return len(cascades)


def assignment_of(users, members):
    """Answer the cascade assignment of the users numbered in members: a list of lists of numbers."""
    ordered = sorted(members, key=lambda number: (-users[number].supply_grade, number))
    cascades = []
    for number in ordered:
        place = place_for(users, cascades, number)
        if place == len(cascades):
            cascades.append([number])
        else:
            cascades[place].append(number)
    return cascades
