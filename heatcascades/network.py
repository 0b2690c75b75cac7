"""The network that a session works on; each operation answers a list: what it tells, or an error code alone."""

from heatcascades.cascades import User, assignment_of, load_of, members_of, peak_grade_of, peak_load_of

NO_NETWORK = -11
NO_SUCH_USER = -2
OUT_OF_RANGE = -22
TOO_MANY_USERS = -28

MOST_GRADES = 12
MOST_USERS = 8
MOST_VALUE = 100


class Network:
    """The grades and the users, numbered by their places in the list."""

    def __init__(self):
        # No network that create makes has 0 grades, so 0 says that there is none yet.
        self.grade_count = 0
        self.users = []

    def exists(self):
        """Tell whether create has succeeded."""
        return self.grade_count > 0

    def create(self, grade_count):
        """Begin a network without users."""
        if grade_count < 1 or grade_count > MOST_GRADES:
            return [OUT_OF_RANGE]
        self.grade_count = grade_count
        self.users = []
        return [0]

    def add_user(self, supply_grade, return_grade, value):
        """Add a user and answer its number."""
        if supply_grade <= return_grade or supply_grade > self.grade_count or value > MOST_VALUE:
            return [OUT_OF_RANGE]
        if len(self.users) == MOST_USERS:
            return [TOO_MANY_USERS]
        self.users.append(User(supply_grade, return_grade, value))
        return [len(self.users) - 1]

    def remove_user(self, user):
        """Remove a user and answer how many are left."""
        if user >= len(self.users):
            return [NO_SUCH_USER]
        self.users.pop(user)
        return [len(self.users)]

    def list_users(self):
        """Answer the number of users, then three numbers for each."""
        listed = [len(self.users)]
        for user in self.users:
            listed.extend([user.supply_grade, user.return_grade, user.value])
        return listed

    def set_value(self, user, value):
        """Give a user another value and answer the one that it had."""
        if user >= len(self.users):
            return [NO_SUCH_USER]
        if value > MOST_VALUE:
            return [OUT_OF_RANGE]
        changed = self.users[user]
        previous = changed.value
        changed.value = value
        return [previous]

    def load(self, grade):
        """Answer the load of the grade for all users."""
        if grade < 1 or grade > self.grade_count:
            return [OUT_OF_RANGE]
        return [load_of(self.users, grade)]

    def peak_load(self):
        """Answer the peak load of all users."""
        return [peak_load_of(self.users, self.grade_count)]

    def peak_grade(self):
        """Answer the lowest grade that bears the peak load of all users."""
        return [peak_grade_of(self.users, self.grade_count)]

    def min_cascades(self):
        """Answer how many cascades the assignment of all users has."""
        everyone = list(range(len(self.users)))
        return [len(assignment_of(self.users, everyone))]

    def assign_cascades(self, user_set):
        """Answer the number of cascades of the set, then the size and the users of each."""
        if user_set >= (1 << len(self.users)):
            return [NO_SUCH_USER]
        cascades = assignment_of(self.users, members_of(user_set, len(self.users)))
        told = [len(cascades)]
        for cascade in cascades:
            told.append(len(cascade))
            told.extend(cascade)
        return told
