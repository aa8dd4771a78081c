"""Streams that another packer made of these bytes, with other lc, lp and pb each."""

import base64
import unittest
from itertools import repeat

from tests.helper import Forecast, Model, check_pieces, unpack_whole

VERSE = (
    "XQAAAQD//////////wAYCAln6Yk044hyU9qHLyYPZjSQWFyqdxAO0Z503ns//IPTIf8hJtFzcgz6Pu1pdfPZn7MDbftsfzRN+4xP"
    "S7Z51LA1URobJhVs09ISom4BFwlCDRvOMT0DY/coPZ9SO9D0LRBV8oYRP8UGPS4fGFQW5h+XM7W1+YtQJodmsY+1Bp3GcljlNN7z"
    "RFEVG1mPwVJ/5gt/ThBQtcAn1ZRsGhboagOyU6zsN/7/1ooIeZZiX0iu3r2Xvic1afoGmok2d4388P/+TMF6")

STAIRS = (
    "EwAAAQD//////////wAAAHSFxa6xiK6ArQx7Be4sIlFScWmyTGX2yrUl6T/TJb4TC9upPEzYPVbXJr6HbMS9rkq6/UTmLQnwMH1G"
    "vcYsslOKEgxte5ddG4CcJ0Pr/ZbyC7DnYN2fSn2vwV94MzIEQQZ199fdYxK7KbhQl8oJzhUKYLVkG+oNNgZYmoC0eB/OF5V0pVTY"
    "s9EuVDSVse7GS7DlMRQzydaVnOk+SBeVKPNwpcMLIvcUcyYjOWAIuThFdhDYQ5P83/YT4pywyy0/Xo4TKiXsqsLupn6nXUCvRpcz"
    "K/XY5BCpm/hFPw6qjdlIDqDk9P75SZSxbiy0MlWRuqMvkbenw68aFopWhEN4Cehq/G+8xa7LFqGWWuJUA+UDIEvzjIl30w8xZW8O"
    "F9cAVBNAh6GtjxpiG38FMSSRZEV/zwWMKdrIijDwbD9E8ASge9U9ZBE/ffFzQzBGBYxcY+Qad1NCU/Np/twPp60nLlFnAsMgqUmE"
    "wGQZKtF+CxCV8fnkOir1PM096Zmrihu02DJjdH/hLxUy2nzOXgBUqxEkKgD//wDkAAA=")

FAR = (
    "MQAAAQD//////////wAAAJ+clwJMIQ+6UfTG0nHvrS/yps8f0V8Wq0+QOh4U+gGBO80iU5wK7ST1wifEgxOm0TNSeCj7wm+Mc5WG"
    "2is0H7LdgJOdDNwHgDug9KE1AIJfCBfAbIuiu76ksMURt6zCPcPS8dQ7uImJaeIBozGBYQwMKEhqA/aSsvSmeHhbtYPzlj+xqLaL"
    "7SjOOwUi5fdmN+j/ltMlCKGXgNcnCN5dvE7dP7UQbB8WbipKvb+61A8s1h64IfRxUIvPpdA+P/1ZmIt+OfKpD3uDpcDOCq9+ONOJ"
    "6BXc6RL5laUbWIaK1pZ5RhQfoM6IdyrI74PSpE+u8P4bZVMGt6PcdFIBUDpUs/j7KJVron5aYlq5YecVSQAZGHPnzp/VMNxPKIlH"
    "N2O7fHBjfQiXK+oMYczHX1J9ObxN83qNOUQRY9sD/vR53MBkbiI+4SD3CWncRAjF+0gP8xVmAKcEiVkXmLyBvP+hTODZLDuiZkXD"
    "os9VUE2R4fL1Tk7kzxFhDPVU8xEqpoPSm99W5J0a/h+E5zHwPm2SUn5s+preDGeZb8g/jZR8W0qaS+BulNm4IvkH4pBR8BxxAtht"
    "Y7hAyFai+dJXqB7xWqRX3RJwQdsHKKK8W5qN8gq5TcpQ49KKTGzKk/8vSv7obEcTaPhJCfSngl//9JIipA==")

VERSE_OTHERWISE = (
    "kgAAAQD//////////wAYCAln6WVP/SRyHaaZEopFuKNleubdHhpaU9DPsX0maHe6APmoDp224mXD/JtIfpan/22ilsHug2yu56wa"
    "vcY4tqP0y9eWUHNtA5jJP2/E3NEat+Dkby76mW5yF1J3mHAAffrVthCEwO0SpKl0+m3JKy4DSeQh+gX60QgKgBJ2wi75BgbgUOT1"
    "qSSMq/mnxxu56uYY9HlKnxhD0gnkwDAWybZkv1smWpyVSAl0cs4NYbhO5aXuIVg4xdojzaADnhktp85qQf/3JBMZ")


def verse():
    line = b"%d green bottles hanging on the wall, and if %d green bottle should accidentally fall\n"
    return b"".join(line % (k, k % 3) for k in range(40))


def stairs():
    return b"".join(bytes([k]) * (k % 19 + 1) for k in range(256))


def far():
    wave = bytes(k * 7 // 3 % 256 for k in range(500))
    return wave + bytes(20000) + wave + bytes(9000) + wave[400:]


KNOWN = ((VERSE, verse), (STAIRS, stairs), (FAR, far), (VERSE_OTHERWISE, verse))


class Known(unittest.TestCase):
    def test_whole(self):
        for text, made in KNOWN:
            stream = list(base64.b64decode(text))
            self.assertEqual(unpack_whole(stream), (list(made()), [2, len(made()), len(stream)]))

    def test_in_pieces_and_rooms(self):
        for text, made in KNOWN:
            stream = list(base64.b64decode(text))
            model = Model(stream)
            self.assertEqual(model.out, list(made()))
            for piece, room in ((7, 8192), (64, 500), (300, 90), (13, 111)):
                check_pieces(self, stream, Forecast(model.marks, model.out), repeat(piece, 59), repeat(room, 59))


if __name__ == "__main__":
    unittest.main()
