"""Which rows of words may be a form, and which a sentence."""

HIGHEST_WORD = 999
MOST_FORM_WORDS = 4
MOST_SENTENCE_WORDS = 16


def words_fit(words):
    return all([word <= HIGHEST_WORD for word in words])


def is_form(words):
    return 1 <= len(words) <= MOST_FORM_WORDS and words_fit(words)


def is_sentence(words):
    return len(words) <= MOST_SENTENCE_WORDS and words_fit(words)
