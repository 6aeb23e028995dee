"""The signs of a formula's text, and its first wrong byte."""

NOWHERE = -1
UNKNOWN = "?"
SIGNS = {
    32: " ", 33: "!", 38: "&", 40: "(", 41: ")", 45: "-", 48: "0", 49: "1", 60: "<", 62: ">", 124: "|",
    70: "F", 71: "G", 82: "R", 85: "U", 87: "W", 88: "X",
    97: "a", 98: "b", 99: "c", 100: "d", 101: "e", 102: "f", 103: "g", 104: "h",
    105: "i", 106: "j", 107: "k", 108: "l", 109: "m", 110: "n", 111: "o", 112: "p",
}
FRONTS = ("!", "X", "F", "G")
JOININGS = ("&", "|", "U", "R", "W")
LETTERS = "abcdefghijklmnop"
CONSTANTS = ("0", "1")
ARROWS = ("->", "<->")
ARROW_BEGINNINGS = ("-", "<", "<-")


class SignReader:
    """Takes a text sign by sign, as long as what is read may be a formula's beginning."""

    def __init__(self):
        self.signs = []
        self.brackets = 0
        # Whether a formula is due; else one has just ended, or goes on with a sign that joins.
        self.due = True
        # What is read of an arrow that isn't at its end.
        self.arrow = ""

    def takes(self, sign):
        """Read one more sign, and tell whether it may stand here."""
        # Ahead of the spaces, since none may stand within an arrow.
        if self.arrow != "" or (not self.due and sign in ARROW_BEGINNINGS):
            return self.takes_in_arrow(sign)
        if sign == " ":
            return True
        if self.due:
            return self.takes_in_front(sign)
        return self.takes_behind(sign)

    def takes_in_arrow(self, sign):
        self.arrow = self.arrow + sign
        if self.arrow in ARROWS:
            self.signs.append(self.arrow)
            self.arrow = ""
            self.due = True
            return True
        return self.arrow in ARROW_BEGINNINGS

    def takes_in_front(self, sign):
        if sign == "(":
            self.brackets += 1
        elif sign in LETTERS or sign in CONSTANTS:
            self.due = False
        elif sign not in FRONTS:
            return False
        self.signs.append(sign)
        return True

    def takes_behind(self, sign):
        if sign == ")" and self.brackets > 0:
            self.brackets -= 1
        elif sign in JOININGS:
            self.due = True
        else:
            return False
        self.signs.append(sign)
        return True

    def may_end(self):
        return not self.due and self.brackets == 0 and self.arrow == ""


def read_signs(text):
    """The signs of the text without its spaces, and the place of its first wrong byte, or NOWHERE."""
    reader = SignReader()
    for place, byte in enumerate(text):
        if not reader.takes(SIGNS.get(byte, UNKNOWN)):
            return reader.signs, place
    if not reader.may_end():
        return reader.signs, len(text)
    return reader.signs, NOWHERE
