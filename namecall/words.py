"""The letters of words, and words to give to forms."""

LETTERS = "abcdefghijklmnopqrstuvwxyz"


# The word with that number, where words are told in the order a, b, .., z, aa, ab, ..
def word_of(number):
    word = LETTERS[number % 26]
    while number >= 26:
        number = number // 26 - 1
        word = LETTERS[number % 26] + word
    return word


# So many words, each another one, none of them taken.
def free_words(many, taken):
    used = dict([(word, True) for word in taken])
    # Among so many words there are enough, even if each taken one is among them.
    words = [word_of(number) for number in range(many + len(used))]
    return [word for word in words if word not in used][:many]
