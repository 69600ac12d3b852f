"""From bytes to texts and back."""

SIGNS = "abcdefghijklmnopqrstuvwxyz0123456789 :\"\n"

# Stands for every byte that no page, no rules and no id may have.
STRANGE = "?"


def sign_table():
    table = {}
    for sign in SIGNS:
        table[ord(sign)] = sign
        table[ord(sign.upper())] = sign.upper()
    return table


def text_of(numbers):
    table = sign_table()
    return "".join([table.get(number, STRANGE) for number in numbers])


def text_answer(text):
    return [len(text)] + [ord(sign) for sign in text]


def texts_answer(texts):
    answer = [len(texts)]
    for text in texts:
        answer.extend(text_answer(text))
    return answer
