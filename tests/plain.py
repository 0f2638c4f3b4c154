"""What a short text must be, found by writing it out in full, and wrong arguments."""

WRONG_NUMBERS = [True, False, None, "", "1", (), (1,), [], [1]]
WRONG_LETTERS = ["", "ab", "A", "1", " ", "\u00e4", "\n", None, 0, 1, True, (), ("a",), [], ["a"]]


def plain_keys(steps):
    """The keys of all places."""
    keys, typed = [], 0
    for step in steps:
        if step[0] == "write":
            keys.extend(range(typed, typed + len(step[1])))
            typed += len(step[1])
        else:
            keys.extend(keys[step[1]:step[2] + 1] * step[3])
    return keys


def plain_letters(steps):
    """The letters of all places."""
    typed = "".join(step[1] for step in steps if step[0] == "write")
    return "".join(typed[key] for key in plain_keys(steps))


def random_steps(random, most_steps, most_letters, alphabet="abc"):
    """Some steps of a text that stays short enough to be written out."""
    steps, size = [], 0
    for _ in range(random.randint(0, most_steps)):
        if size == 0 or random.random() < 0.4:
            word = "".join(random.choice(alphabet) for _ in range(random.randint(1, 5)))
            step, more = ("write", word), len(word)
        else:
            first = random.randrange(size)
            last = random.randrange(first, size)
            times = random.randint(1, 4)
            step, more = ("paste", first, last, times), (last - first + 1) * times
        if size + more <= most_letters:
            steps.append(step)
            size += more
    return steps


def written_steps(letters):
    """Steps that write letters without pasting."""
    return [("write", letters[at:at + 20]) for at in range(0, len(letters), 20)]
