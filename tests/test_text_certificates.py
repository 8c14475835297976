"""Promises [20], [22] and [23]: certificates as text."""

from helpers import SuregateTest, plain, random_clauses

from suregate.errors import InvalidText
from suregate.judge.certificate import AlikeCertificate
from suregate.text.certificates import read_certificate, write_certificate

TEXT = "certificate\nfact 3 4\nfact 0\nstart\nstart 5 5\nline 999999 1 2 10\nline\nnext 7\nnext 0 1\n"
CERTIFICATE = AlikeCertificate([(3, 4), (0,)], [(), (5, 5)], [(999999, 1, 2, 10), ()], [(7,), (0, 1)])


class CertificateTextTest(SuregateTest):
    def invalid_text(self, line, text):
        self.assert_error(InvalidText, {"line": line}, read_certificate, text)

    def test_write(self):
        self.assertEqual(TEXT, write_certificate(CERTIFICATE))

    def test_read(self):
        self.assertEqual(CERTIFICATE, read_certificate(TEXT))

    def test_empty_certificate(self):
        self.assertEqual("certificate\n", write_certificate(AlikeCertificate([], [], [], [])))
        self.assertEqual(AlikeCertificate([], [], [], []), read_certificate("certificate\n"))

    def test_single_lists(self):
        clauses = [(1, 2), (), (3,)]
        for place, word in enumerate(("fact", "start", "line", "next")):
            lists = [[], [], [], []]
            lists[place] = clauses
            certificate = AlikeCertificate(*lists)
            text = f"certificate\n{word} 1 2\n{word}\n{word} 3\n"
            self.assertEqual(text, write_certificate(certificate))
            self.assertEqual(certificate, read_certificate(text))

    def test_written_texts_are_read_back_equal(self):
        for seed in range(10):
            certificate = AlikeCertificate(*[
                random_clauses(10 * seed + k, 400000, (seed + k) % 4, 6) for k in range(4)])
            text = write_certificate(certificate)
            before = plain(certificate)
            self.assertEqual(certificate, read_certificate(text))
            self.assertEqual(text, write_certificate(read_certificate(text)))
            self.assertEqual(before, plain(certificate))

    def test_numbers_are_not_checked_further(self):
        certificate = read_certificate("certificate\nfact 999999\nnext 123456 0\n")
        self.assertEqual(AlikeCertificate([(999999,)], [], [], [(123456, 0)]), certificate)

    def test_empty_text(self):
        self.invalid_text(1, "")

    def test_title(self):
        for title in ("", "certificates", "certificate ", " certificate", "certificate 1", "circuit", "flow"):
            self.invalid_text(1, title + "\nfact 1\n")

    def test_text_without_its_last_newline(self):
        self.invalid_text(1, "certificate")
        self.invalid_text(3, "certificate\nfact 1\nfact 2")
        self.invalid_text(3, "certificate\nnonsense\nfact 2")

    def test_numbers(self):
        for word in ("", "00", "01", "-1", "+1", "x", "1000000", "1_0", "\u0663", "\u00b2", "1.0"):
            for title in ("fact", "start", "line", "next"):
                self.invalid_text(2, f"certificate\n{title} {word}\n")
                self.invalid_text(3, f"certificate\n{title} 1 2\n{title} 1 {word} 2\n")

    def test_spaces(self):
        for line in ("fact ", " fact", "fact  1", "fact 1 ", "fact 1  2", "", " ", "fact\t1"):
            self.invalid_text(2, f"certificate\n{line}\n")

    def test_lists_in_the_wrong_order(self):
        words = ["fact", "start", "line", "next"]
        for later in range(4):
            for earlier in range(later):
                self.invalid_text(3, f"certificate\n{words[later]} 1\n{words[earlier]} 1\n")

    def test_other_lines(self):
        for line in ("certificate", "facts 1", "Fact 1", "input a", "and 0 1", "circuit"):
            self.invalid_text(3, f"certificate\nfact 1\n{line}\nnonsense\n")
