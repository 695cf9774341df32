import unittest

from helper import ask, fits, last, light, see

TOP = 4294967295


def added(*texts):
    return ask(*[light(text) for text in texts])


class Accepted(unittest.TestCase):
    def test_ordinary_texts_are_numbered_from_0_on(self):
        told = added("W5", "W5 -5", "R10 -20 G30 -40", "-1 Y599")
        self.assertEqual(told, [[0], [1], [2], [3]])

    def test_the_same_text_again_is_another_light(self):
        self.assertEqual(added("W5 -5", "W5 -5"), [[0], [1]])

    def test_each_sign_is_its_colour(self):
        for colour, sign in enumerate("-WRGY"):
            for seen in range(5):
                told = last(light(sign + "7"), see(3, seen), fits(0))
                self.assertEqual(told, [1, 0, 0] if seen == colour else [0], (sign, seen))

    def test_every_length_from_1_to_600_is_read_as_it_stands(self):
        for length in range(1, 601):
            text = f"W{length} R{601 - length}"
            told = last(light(text), see(0, 1), fits(0))
            ks = list(range(length))
            self.assertEqual(told, [length, ks[0], ks[-1]], text)

    def test_32_phases(self):
        self.assertEqual(added(" ".join(["W1", "R1"] * 16)), [[0]])

    def test_6000_tenths_together(self):
        self.assertEqual(added(" ".join(["W600"] * 10)), [[0]])
        text = " ".join(["W600"] * 9 + ["R599", "G1"])
        self.assertEqual(ask(light(text), fits(0)), [[0], [6000, 0, 5999]])

    def test_32_phases_of_6000_tenths_together(self):
        text = " ".join(["W187"] * 31 + ["R203"])
        self.assertEqual(ask(light(text), fits(0)), [[0], [6000, 0, 5999]])


class NoPhase(unittest.TestCase):
    def refused(self, text, place):
        self.assertEqual(added(text), [[-6, place]], text)

    def test_lengths_beyond_the_edges(self):
        for length in ("0", "601", "999", "1000", "6000", "4294967296", "9" * 1000):
            self.refused("W" + length, 0)
            self.refused("R5 W" + length + " G5", 1)

    def test_needless_noughts(self):
        for length in ("00", "01", "05", "0600", "00600", "000001"):
            self.refused("W" + length, 0)
        self.assertEqual(added("W10", "W100", "W101", "W600"), [[0], [1], [2], [3]])

    def test_signs_and_blanks_in_a_number(self):
        for text in ("W+5", "W-5", "W5-", "W5+", "W1_0", "W1.0", "W1,0", "W5W", "WW5"):
            self.refused(text, 0)
        self.refused("W 5", 0)
        self.refused("W1 0", 1)

    def test_a_colour_alone(self):
        for sign in "-WRGY":
            self.refused(sign, 0)
            self.refused("W5 " + sign, 1)

    def test_a_number_alone(self):
        self.refused("5", 0)
        self.refused("W5 5", 1)

    def test_no_bytes(self):
        self.refused("", 0)

    def test_blanks_too_many(self):
        self.refused(" ", 0)
        self.refused("  ", 0)
        self.refused(" W5", 0)
        self.refused("W5 ", 1)
        self.refused("W5  R5", 1)
        self.refused("W5 R5  ", 2)
        self.refused("W5 R5  G5 x", 2)

    def test_small_letters_are_no_colours(self):
        for sign in "wrgy":
            self.refused(sign + "5", 0)

    def test_every_byte_as_a_colour(self):
        for byte in range(256):
            told = added([byte, 53])
            self.assertEqual(told, [[0]] if byte in b"-WRGY" else [[-6, 0]], byte)

    def test_every_byte_as_the_first_digit(self):
        for byte in range(256):
            told = added([87, byte])
            self.assertEqual(told, [[0]] if byte in b"123456789" else [[-6, 0]], byte)

    def test_every_byte_as_a_later_digit(self):
        for byte in range(256):
            told = added([87, 53, byte])
            wanted = [[0]] if byte in b"0123456789" else [[-6, 1 if byte == 32 else 0]]
            self.assertEqual(told, wanted, byte)

    def test_every_byte_between_two_phases(self):
        for byte in range(256):
            told = added([87, 53, byte, 82, 53])
            self.assertEqual(told, [[0]] if byte == 32 else [[-6, 0]], byte)

    def test_the_first_fault_is_told(self):
        self.refused("W5 R5 G0 x Y601", 2)
        self.refused("x W5  ", 0)


class TooMuch(unittest.TestCase):
    def test_a_33rd_phase(self):
        self.assertEqual(added(" ".join(["W1"] * 33)), [[-6, 32]])
        self.assertEqual(added(" ".join(["W1"] * 40)), [[-6, 32]])
        self.assertEqual(added(" ".join(["W1"] * 32) + " "), [[-6, 32]])
        self.assertEqual(added(" ".join(["W1"] * 32 + ["x", "y"])), [[-6, 32]])
        self.assertEqual(added(" ".join(["W1"] * 31 + ["x", "W1"])), [[-6, 31]])

    def test_more_than_6000_together(self):
        self.assertEqual(added(" ".join(["W600"] * 10 + ["R1"])), [[-6, 10]])
        self.assertEqual(added(" ".join(["W600"] * 12)), [[-6, 10]])
        self.assertEqual(added(" ".join(["W600"] * 9 + ["R599", "G2", "x"])), [[-6, 10]])
        self.assertEqual(added(" ".join(["W187"] * 31 + ["R204"])), [[-6, 31]])
        self.assertEqual(added(" ".join(["W600"] * 9 + ["x", "W600", "W600"])), [[-6, 9]])

    def test_1024_bytes_and_1025(self):
        for filling in ("W1 " * 400, "W" + "1" * 1100, " " * 1100, "x" * 1100):
            place = 32 if filling.startswith("W1 ") else 0
            self.assertEqual(added(filling[:1024]), [[-6, place]])
            self.assertEqual(added(filling[:1025]), [[-2]])
            self.assertEqual(added(filling[:1100]), [[-2]])

    def test_16_lights_and_a_17th(self):
        told = added(*["W5 -5"] * 18)
        self.assertEqual(told, [[number] for number in range(16)] + [[-5], [-5]])

    def test_refusals_come_in_order(self):
        full = [light("W5 -5")] * 16
        self.assertEqual(last(*full, light("x" * 1025)), [-2])
        self.assertEqual(last(*full, light("W5 x")), [-6, 1])
        self.assertEqual(last(*full, light("x" * 1024)), [-6, 0])
        self.assertEqual(last(*full, light("W5 R5")), [-5])


class Refused(unittest.TestCase):
    def test_a_refused_light_is_not_there(self):
        told = ask(light("W0"), fits(0), light("x" * 1025), fits(0), light("W5"), light(""), light("R5"))
        self.assertEqual(told, [[-6, 0], [-4], [-2], [-4], [0], [-6, 0], [1]])

    def test_a_17th_light_is_not_there(self):
        told = ask(*[light("W5")] * 16, light("R5"), fits(15), fits(16), fits(TOP))
        self.assertEqual(told[16:], [[-5], [1, 0, 0], [-4], [-4]])

    def test_refusals_leave_what_fits_as_it_was(self):
        calls = [light("W5 -5"), see(7, 1), fits(0)]
        before = last(*calls)
        told = last(*calls, light("W"), light("x" * 1025), fits(0))
        self.assertEqual(told, before)


if __name__ == "__main__":
    unittest.main()
