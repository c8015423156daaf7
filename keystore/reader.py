"""Going through a row of numbers, piece by piece."""


class WrongForm(ValueError):
    """A row is not of the form that it is read as."""


class Reader:
    def __init__(self, row):
        self.row = row
        self.place = 0

    def ended(self):
        return self.place == len(self.row)

    def take(self, length):
        """The next so many numbers, as a tuple."""
        end = self.place + length
        if end > len(self.row):
            raise WrongForm("the row is cut short")
        taken = tuple(self.row[self.place:end])
        self.place = end
        return taken

    def take_one(self):
        return self.take(1)[0]

    def take_counted(self):
        """The numbers of a piece that tells first how many they are."""
        length = self.take_one()
        return self.take(length)
