"""What a node does: it posts, takes letters, shows posts, and sends letters again."""

from postorder.letters import POST_LETTER_BYTES
from postorder.letters import SEEN_LETTER_BYTES
from postorder.letters import is_right
from postorder.letters import is_seen
from postorder.letters import post_in
from postorder.letters import post_letter
from postorder.letters import seen_letter
from postorder.letters import sender_of
from postorder.letters import stamp_in
from postorder.posts import LONGEST_TEXT
from postorder.posts import Post
from postorder.posts import counts_of
from postorder.refusals import BAD_ARGUMENTS
from postorder.refusals import BAD_BYTES
from postorder.refusals import NOTHING_TO_SHOW
from postorder.refusals import NO_MORE
from postorder.refusals import TOO_LONG
from postorder.stamps import HIGHEST
from postorder.state import ROOM
from postorder.state import is_other
from postorder.state import others_of

LONGEST_LETTER = 1024


def write_post(node, most, text):
    if len(text) > LONGEST_TEXT or most < 0:
        return [BAD_ARGUMENTS]
    if len(node.mine) >= ROOM or node.seen[node.me] >= HIGHEST:
        return [NO_MORE]
    # Asked ahead of all else that's done, as a refusal leaves all as it was.
    if POST_LETTER_BYTES * (node.n - 1) > most:
        return [TOO_LONG]
    node.seen[node.me] += 1
    post = Post(list(node.seen), text)
    node.mine.append(post)
    sent = []
    for to in others_of(node):
        sent.extend(post_letter(to, node.me, post))
    return [len(sent)] + sent


def take_letter(node, most, letter):
    if len(letter) > LONGEST_LETTER or most < 0:
        return [BAD_ARGUMENTS]
    if not is_right(node, letter):
        return [BAD_BYTES]
    if is_seen(letter):
        learn(node, sender_of(letter), stamp_in(letter))
        return [0]
    return take_post(node, most, sender_of(letter), post_in(letter))


def take_post(node, most, author, post):
    count = post.stamp[author]
    seen = node.seen[author]
    if count <= seen:
        return tell_seen(node, author, most)
    if count <= seen + ROOM:
        let_wait(node.waits[author], author, post)
    return [0]


def tell_seen(node, to, most):
    if SEEN_LETTER_BYTES > most:
        return [TOO_LONG]
    return [SEEN_LETTER_BYTES] + seen_letter(to, node.me, node.seen)


def let_wait(waiting, author, post):
    count = post.stamp[author]
    counts = counts_of(waiting, author)
    if count not in counts:
        waiting.insert(len([other for other in counts if other < count]), post)


def learn(node, sender, seen):
    known = node.known[sender]
    node.known[sender] = [max(known[j], number) for j, number in enumerate(seen)]
    known_to_all = min([node.known[j][node.me] for j in others_of(node)])
    while len(node.mine) > 0 and node.mine[0].stamp[node.me] <= known_to_all:
        node.mine.pop(0)


def show_next(node):
    author = next_author(node)
    if author is None:
        return [NOTHING_TO_SHOW]
    post = node.waits[author].pop(0)
    node.seen[author] += 1
    return [len(post.text), author] + post.text


# None where nothing may be shown.
def next_author(node):
    for author in others_of(node):
        waiting = node.waits[author]
        if len(waiting) > 0 and may_be_shown(node, author, waiting[0]):
            return author
    return None


def may_be_shown(node, author, post):
    if post.stamp[author] != node.seen[author] + 1:
        return False
    return all([post.stamp[j] <= node.seen[j] for j in range(node.n) if j != author])


def send_again(node, to, most):
    if not is_other(node, to) or most < 0:
        return [BAD_ARGUMENTS]
    sent = []
    for post in node.mine:
        if post.stamp[node.me] > node.known[to][node.me]:
            sent.extend(post_letter(to, node.me, post))
    if len(sent) > most:
        return [TOO_LONG]
    return [len(sent)] + sent


def tell(node, to, most):
    if not is_other(node, to) or most < 0:
        return [BAD_ARGUMENTS]
    return tell_seen(node, to, most)
