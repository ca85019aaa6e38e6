"""What is known of the words of a link: which are under way, and what decides whether others still can be."""


def was_told(word):
    """Tell if a word under way was told, not sent."""
    return word[1] is None


class Way:
    """The words of a link to the device receiver, as far as somebody knows of them."""

    def __init__(self, receiver):
        self.receiver = receiver
        # Words of the sort with a lesser number are not heard any more.
        self.floor_of_sent = 0
        self.floor_of_told = 0
        # The number of the receiver's event that heard the last told word.
        self.told_heard = 0
        # How many events of the receiver a sent word has to know.
        self.needs = 0
        # Tuples (number, kind, knows), ascending; kind is None if the word was told.
        self.under_way = []

    def find_word(self, number):
        """Return the word with this number that is under way, or None."""
        for word in self.under_way:
            if word[0] == number:
                return word
        return None

    def sent_words(self):
        """Return the list of the sent words that are under way."""
        return [word for word in self.under_way if not was_told(word)]

    def told_words(self):
        """Return the list of the told words that are under way."""
        return [word for word in self.under_way if was_told(word)]

    def put_word(self, word):
        """Let a word be under way, unless it was sent and knows too little."""
        if was_told(word) or self.knows_enough(word):
            self.under_way.append(word)

    def knows_enough(self, word):
        """Tell if a word knows as many events of the receiver as a sent word has to."""
        return word[2][self.receiver] >= self.needs

    def hear_word(self, number, hearing):
        """Let the word with this number, which is under way, be heard by the receiver's event with the number hearing.

        The words of its sort that were given before it are overtaken.
        """
        told = was_told(self.find_word(number))
        self.under_way = [word for word in self.under_way if was_told(word) != told or word[0] > number]
        if told:
            self.floor_of_told = number + 1
            self.told_heard = hearing
        else:
            self.floor_of_sent = number + 1

    def raise_floor(self, number):
        """Let no sent word with a lesser number be heard any more."""
        self.under_way = [word for word in self.under_way if was_told(word) or word[0] >= number]
        self.floor_of_sent = number

    def require(self, needs):
        """Let sent words have to know so many events of the receiver."""
        self.needs = needs
        self.under_way = [word for word in self.under_way if was_told(word) or self.knows_enough(word)]

    def fork(self):
        """Return a new object that is equal and independent."""
        way = Way(self.receiver)
        way.floor_of_sent = self.floor_of_sent
        way.floor_of_told = self.floor_of_told
        way.told_heard = self.told_heard
        way.needs = self.needs
        way.under_way = list(self.under_way)
        return way
