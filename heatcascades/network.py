"""The network that a session works on; each operation answers a list: what it tells, or an error code alone."""

from heatcascades.cascades import User, assignment_of, load_of, members_of, peak_grade_of, peak_load_of
from heatcascades.optimum import best_set_of, best_value_of, dual_bound_of, peak_load_of_set, value_of_set

NO_NETWORK = -11
NO_SUCH_USER = -2
OUT_OF_RANGE = -22
TOO_MANY_USERS = -28

MOST_GRADES = 12
MOST_USERS = 8
MOST_VALUE = 100
MOST_CASCADES = 8
MOST_PRICE = 1000


class Network:
    """The grades and the users, numbered by their places in the list."""

    def __init__(self):
        # No network that create makes has 0 grades, so 0 says that there is none yet.
        self.grade_count = 0
        self.users = []

    def exists(self):
        """Tell whether create has succeeded."""
        return self.grade_count > 0

    def has_user(self, user):
        """Tell whether there is a user of this number."""
        return user < len(self.users)

    def has_users_of(self, user_set):
        """Tell whether every user in the bit mask exists."""
        return user_set < (1 << len(self.users))

    def can_price(self, cascade_count, prices):
        """Tell whether the count of cascades and the prices are in their ranges."""
        if cascade_count > MOST_CASCADES or len(prices) != self.grade_count:
            return False
        return max(prices) <= MOST_PRICE

    def create(self, grade_count):
        """Begin a network without users."""
        if grade_count < 1 or grade_count > MOST_GRADES:
            return [OUT_OF_RANGE]
        self.grade_count = grade_count
        self.users = []
        return [0]

    def add_user(self, supply_grade, return_grade, value):
        """Add a user and answer its number."""
        if supply_grade <= return_grade or supply_grade > self.grade_count or value > MOST_VALUE:
            return [OUT_OF_RANGE]
        if len(self.users) == MOST_USERS:
            return [TOO_MANY_USERS]
        self.users.append(User(supply_grade, return_grade, value))
        return [len(self.users) - 1]

    def remove_user(self, user):
        """Remove a user and answer how many are left."""
        if not self.has_user(user):
            return [NO_SUCH_USER]
        self.users.pop(user)
        return [len(self.users)]

    def list_users(self):
        """Answer the number of users, then three numbers for each."""
        listed = [len(self.users)]
        for user in self.users:
            listed.extend([user.supply_grade, user.return_grade, user.value])
        return listed

    def set_value(self, user, value):
        """Give a user another value and answer the one that it had."""
        if not self.has_user(user):
            return [NO_SUCH_USER]
        if value > MOST_VALUE:
            return [OUT_OF_RANGE]
        changed = self.users[user]
        previous = changed.value
        changed.value = value
        return [previous]

    def load(self, grade):
        """Answer the load of the grade for all users."""
        if grade < 1 or grade > self.grade_count:
            return [OUT_OF_RANGE]
        return [load_of(self.users, grade)]

    def peak_load(self):
        """Answer the peak load of all users."""
        return [peak_load_of(self.users, self.grade_count)]

    def peak_grade(self):
        """Answer the lowest grade that bears the peak load of all users."""
        return [peak_grade_of(self.users, self.grade_count)]

    def min_cascades(self):
        """Answer how many cascades the assignment of all users has."""
        everyone = list(range(len(self.users)))
        return [len(assignment_of(self.users, everyone))]

    def assign_cascades(self, user_set):
        """Answer the number of cascades of the set, then the size and the users of each."""
        if not self.has_users_of(user_set):
            return [NO_SUCH_USER]
        cascades = assignment_of(self.users, members_of(user_set, len(self.users)))
        told = [len(cascades)]
        for cascade in cascades:
            told.append(len(cascade))
            told.extend(cascade)
        return told

    def is_servable(self, user_set, cascade_count):
        """Answer 1 if so many cascades can serve the set, else 0."""
        if not self.has_users_of(user_set):
            return [NO_SUCH_USER]
        return [int(peak_load_of_set(self.users, self.grade_count, user_set) <= cascade_count)]

    def best_set(self, cascade_count):
        """Answer the value of the best set and its bit mask."""
        if cascade_count > MOST_CASCADES:
            return [OUT_OF_RANGE]
        return list(best_set_of(self.users, self.grade_count, cascade_count))

    def value_of(self, user_set):
        """Answer the value of the set."""
        if not self.has_users_of(user_set):
            return [NO_SUCH_USER]
        return [value_of_set(self.users, user_set)]

    def marginal_value(self, cascade_count):
        """Answer by how much the last of so many cascades raises the value of the best set."""
        if cascade_count < 1 or cascade_count > MOST_CASCADES:
            return [OUT_OF_RANGE]
        value = best_value_of(self.users, self.grade_count, cascade_count)
        return [value - best_value_of(self.users, self.grade_count, cascade_count - 1)]

    def can_follow(self, user, following):
        """Answer 1 if the second user can follow the first, else 0."""
        if not self.has_user(user) or not self.has_user(following):
            return [NO_SUCH_USER]
        return [int(self.users[following].can_follow(self.users[user]))]

    def peak_users(self):
        """Answer how many users occupy the peak grade, then their numbers."""
        grade = peak_grade_of(self.users, self.grade_count)
        numbers = [number for number in range(len(self.users)) if self.users[number].occupies(grade)]
        return [len(numbers)] + numbers

    def dual_bound(self, cascade_count, prices):
        """Answer the dual bound."""
        if not self.can_price(cascade_count, prices):
            return [OUT_OF_RANGE]
        return [dual_bound_of(self.users, cascade_count, prices)]

    def proves_optimality(self, cascade_count, prices):
        """Answer 1 if the dual bound equals the value of the best set, else 0."""
        if not self.can_price(cascade_count, prices):
            return [OUT_OF_RANGE]
        bound = dual_bound_of(self.users, cascade_count, prices)
        return [int(bound == best_value_of(self.users, self.grade_count, cascade_count))]

    def loss_without(self, user, cascade_count):
        """Answer by how much the value of the best set is less without the user."""
        if not self.has_user(user):
            return [NO_SUCH_USER]
        if cascade_count > MOST_CASCADES:
            return [OUT_OF_RANGE]
        others = self.users[:user] + self.users[user + 1:]
        value = best_value_of(self.users, self.grade_count, cascade_count)
        return [value - best_value_of(others, self.grade_count, cascade_count)]

    def summary(self):
        """Answer the number of grades and the number of users."""
        return [self.grade_count, len(self.users)]
