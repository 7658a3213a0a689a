"""Whether two trees are one, asked of the trees themselves and not of their forms.

The functions call one another only as deep as braces and brackets may stand in one another.
"""

from waletexts.tree import Bracketed, Chain, Listed


def same_stats(stats, others):
    return all_same(stats, others, same_stat)


def same_stat(stat, other):
    return same_phrase(stat.phrase, other.phrase) and same_body(stat.body, other.body)


# No braces and braces with nothing in them are not the same.
def same_body(body, other):
    if body is None or other is None:
        return body is None and other is None
    return same_stats(body, other)


def same_phrase(phrase, other):
    return all_same(phrase, other, same_part)


def same_part(part, other):
    if isinstance(part, Listed):
        return isinstance(other, Listed) and same_listed(part, other)
    if isinstance(part, Bracketed):
        return isinstance(other, Bracketed) and same_listed(part.listed, other.listed)
    return same_sum(part, other)


def same_listed(listed, other):
    return all_same(listed.phrases, other.phrases, same_phrase)


def same_sum(node, other):
    if not isinstance(node, Chain):
        return node == other
    return isinstance(other, Chain) and same_chain(node, other)


# The levels need no look of their own: a sum's signs are never a product's.
def same_chain(chain, other):
    return same_sum(chain.first, other.first) and all_same(chain.pairs, other.pairs, same_pair)


def same_pair(pair, other):
    return pair[0] == other[0] and same_sum(pair[1], other[1])


def all_same(ones, others, same_one):
    if len(ones) != len(others):
        return False
    for one, other in zip(ones, others):
        if not same_one(one, other):
            return False
    return True
