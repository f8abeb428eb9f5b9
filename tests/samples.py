"""Texts that several tests read, and how they mark the word that is refused."""

from nobodyspeaks.errors import Misfit, SpeakError
from nobodyspeaks.reading import read_system

# All parts, and all forms of statements, in their shortest form.
FULL = (
    "system "
    "domain answer yea nay end domain topic sale spam work talk end "
    "channel mail channel web "
    "person boss person clerk "
    "cell last topic cell note text "
    "tool send topic answer end tool ring end tool file topic topic end "
    "function sort t text gives topic "
    "function pick k topic a answer gives answer "
    "task main end "
    "task tell k topic t text a answer end "
    "body sort t text k topic u text begin "
    "take k t trust k t write u from t k u end if k spam copy u t return k else set k work end recall k last return k "
    "end "
    "body pick k topic a answer begin call a pick k a end return a end "
    "body main k topic t text a answer u text begin "
    "read t mail read u web choose k from t u a end choose a from end write u from end call k sort t end "
    "keep last k recall k last keep note t recall t note "
    "if k spam else if a yea post tell k t a end else ask boss tell k t a end ask clerk main end end end "
    "do send k a with t end do ring with end do file k k with t t end end "
    "body tell k topic t text a answer begin end "
    "yes boss tell any any yea end yes boss tell spam any any end yes clerk main end "
    "policy "
    "allow send any yea from mail end 3 deny file spam any nobody always allow ring anyone always "
    "allow send sale any from mail web end 1 deny ring from web end 4 allow file any any anyone 2 "
    "end "
    "policy end "
    "start main end start main end "
    "end"
)
EMPTY = "system end"


def refused_at(text):
    """The number of the word at which the text is refused, or None if it is read."""
    try:
        read_system(text)
    except SpeakError as error:
        assert error.__class__ is Misfit, error
        return error.at
    return None


def check_refused(test, marked):
    """The text is refused at the word that has a > ahead of it, or at its end if that stands alone behind it."""
    words = marked.split()
    places = [at for at, word in enumerate(words) if word.startswith(">")]
    test.assertEqual(len(places), 1, marked)
    text = " ".join(words).replace(">", "")
    test.assertEqual(refused_at(text), places[0], marked)


def check_read(test, text):
    """The text is read; the system is handed out."""
    test.assertIsNone(refused_at(text), text)
    return read_system(text)


def check_equal(test, one, two):
    """The systems are equal, by all that they tell."""
    test.assertEqual(one.text(), two.text())
    test.assertEqual(one.told(), two.told())
    test.assertEqual(one.points(), two.points())
    for name, _, _, _ in one.told()[5]:
        test.assertEqual(one.code(name), two.code(name))


def state(host):
    """All that a host tells."""
    return (
        host.system.text(), host.silent, host.at_rest(), host.ground(), host.waiting(), host.running(), host.uses(),
        host.choices(), host.journal(),
    )
