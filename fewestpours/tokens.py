"""The tokens of a text."""


def is_word_sign(sign):
    """Whether a sign is a letter a to z or A to Z, a digit 0 to 9, or a low line."""
    return sign == "_" or (sign.isascii() and sign.isalnum())


def number_told(token, most_digits):
    """The number that stands in a text as this token, None if there is none, or one with more digits."""
    if len(token) > most_digits or not token.isascii() or not token.isdigit():
        return None
    if token[0] == "0" and len(token) > 1:
        return None
    return int(token)


def end_of_line(text, at):
    """The index of the next line feed from there on, or the length of the text."""
    end = text.find("\n", at)
    if end < 0:
        end = len(text)
    return end


def end_of_token(text, at):
    """The index behind the token that begins there."""
    end = at + 1
    if is_word_sign(text[at]):
        while end < len(text) and is_word_sign(text[end]):
            end += 1
    return end


def token_spans(text):
    """For each token the pair of the index of its first sign and the one behind its last."""
    spans = []
    at = 0
    while at < len(text):
        if text[at] == "#":
            at = end_of_line(text, at)
        elif text[at] == " " or text[at] == "\n":
            at += 1
        else:
            end = end_of_token(text, at)
            spans.append((at, end))
            at = end
    return spans


def tokens_of(text):
    """The tokens of a text, in order."""
    return tuple([text[at:end] for at, end in token_spans(text)])


def token_places(text):
    """For each token of a text the index of its first sign."""
    return tuple([span[0] for span in token_spans(text)])
