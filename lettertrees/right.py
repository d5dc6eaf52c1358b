"""What a wish asks of a play."""

from lettertrees.wishes import check_wish, wanted


def judged(wish, rule, tree, word, trace):
    """"right" if the trace of a call with this word on this tree ends as the wish asks; otherwise what is wrong."""
    check_wish(wish)
    if trace.kind is not None:
        return "misuse"
    answer, words = wanted(wish, tree.words(), word)
    if trace.answer != answer:
        return "answer"
    if tuple(sorted(trace.tree.words())) != words:
        return "words"
    return "right" if rule.keeps(trace.tree) else "rule"
