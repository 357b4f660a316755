"""Takes the numbers of a list one behind another and leaves the list as it is."""


class Reader:
    def __init__(self, numbers):
        self.numbers = numbers
        self.place = 0

    def at_end(self):
        return self.place == len(self.numbers)

    def take(self):
        number = self.numbers[self.place]
        self.place += 1
        return number

    def take_some(self, many):
        begins = self.place
        self.place += many
        return self.numbers[begins:self.place]

    def take_row(self):
        return self.take_some(self.take())
