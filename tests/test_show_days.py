"""show: sections of days and times."""

import unittest

from helper import CANNOT_SHOW, LAST_DAY, ShowTest, number

MONTHS = ("January", "February", "March", "April", "May", "June", "July", "August", "September", "October", "November",
          "December")
WEEKDAYS = ("Sunday", "Monday", "Tuesday", "Wednesday", "Thursday", "Friday", "Saturday")


def at(day, hour=0, minute=0, second=0, thousandth=0):
    """The value of a day's time, the least that isn't before it."""
    thousandths = ((hour * 60 + minute) * 60 + second) * 1000 + thousandth
    return [1, day * 10 ** 12 - (-thousandths * 10 ** 12 // 86400000)]


def just_before(value):
    return [1, value[1] - 1]


class Days(ShowTest):
    def test_days(self):
        days = {0: "1900-01-00", 1: "1900-01-01", 2: "1900-01-02", 31: "1900-01-31", 32: "1900-02-01", 59: "1900-02-28",
                60: "1900-03-01", 61: "1900-03-02", 365: "1900-12-31", 366: "1901-01-01", 1461: "1904-01-01",
                36525: "2000-01-01", 36583: "2000-02-28", 36584: "2000-02-29", 36585: "2000-03-01", 45290: "2023-12-31",
                45291: "2024-01-01", 45349: "2024-02-28", 45350: "2024-02-29", 45351: "2024-03-01",
                LAST_DAY: "9999-12-31", LAST_DAY - 365: "9998-12-31"}
        self.shows("yyyy-mm-dd", days)

    def test_the_ends_of_leap_years(self):
        self.shows("yyyy-mm-dd", {1520: "1904-02-29", 1826: "1904-12-31", 1827: "1905-01-01", 36890: "2000-12-31",
                                  36891: "2001-01-01", 45656: "2024-12-31", 45657: "2025-01-01", 182681: "2400-02-29",
                                  182987: "2400-12-31", 182988: "2401-01-01"})

    def test_2100_is_no_leap_year(self):
        self.shows("yyyy-mm-dd", {73108: "2100-02-28", 73109: "2100-03-01", 73049 + 1: "2100-01-01"})

    def test_years(self):
        for picture, shown in (("y", "00"), ("yy", "00"), ("yyy", "1900"), ("yyyy", "1900"), ("Y", "00"),
                               ("YYYY", "1900")):
            self.shows(picture, {"1": shown})
        self.shows("y yy yyy yyyy", {"45350": "24 24 2024 2024", "36525": "00 00 2000 2000",
                                     LAST_DAY: "99 99 9999 9999", 39083: "07 07 2007 2007"})

    def test_months(self):
        day = 1
        for month, name in enumerate(MONTHS, start=1):
            shown = f"{month} {month:02} {name[:3]} {name} {name[0]}"
            self.shows("m mm mmm mmmm mmmmm", {day: shown})
            self.shows("M MM MMM MMMM MMMMM", {day: shown})
            day += (31, 28, 31, 30, 31, 30, 31, 31, 30, 31, 30, 31)[month - 1]

    def test_days_of_the_month(self):
        self.shows("d dd", {"0": "0 00", "1": "1 01", "9": "9 09", "10": "10 10", "31": "31 31", "32": "1 01"})

    def test_weekdays(self):
        for day in range(0, 15):
            name = WEEKDAYS[day % 7]
            self.shows("ddd dddd", {day: f"{name[:3]} {name}"})
        # December 31, 9999 is a Friday.
        self.shows("DDD DDDD", {LAST_DAY: "Fri Friday"})

    def test_day_0(self):
        self.shows("yyyy mmmm d dddd", {"0": "1900 January 0 Sunday", "0.5": "1900 January 0 Sunday"})
        self.shows("yy m dd ddd h:mm", {"0.75": "00 1 00 Sun 18:00"})

    def test_texts(self):
        self.shows('"on "d\\.m\\._yyyyy', {"45350": "on 29.2. 2024"})
        self.shows("[Red]yyyy/m/d", {"45350": "2024/2/29"}, 6)
        self.shows("d\u20ac(m)", {"45350": "29\u20ac(2)"})


class Limits(ShowTest):
    def cannot(self, picture, *values):
        for value in values:
            self.gives(picture, value, CANNOT_SHOW)

    def test_below_0(self):
        for picture in ("yyyy", "h:mm", "[h]", "AM/PM", "s", "[s].000", "d;m", "0;yyyy", "0;[<0]yyyy", "d;d;d"):
            self.cannot(picture, number("-1"), number("-0.000000000001"), number("-0.5"))
        self.cannot("[<0]h;0", number("-1"))

    def test_a_section_of_another_kind_below_0(self):
        self.shows("yyyy;0", {"-5": "5", "1": "1900"})
        self.shows("[>=0]yyyy;[<0]0", {"-5": "-5"})

    def test_behind_the_last_day(self):
        for picture in ("yyyy-mm-dd", "h:mm", "[h]", "[mm]", "A/P", "s", "[s]", "ss.000", "d", "d;0"):
            self.cannot(picture, number(LAST_DAY + 1), number(LAST_DAY + 2), [1, 10 ** 36 - 1])

    def test_the_last_moment(self):
        last = [1, (LAST_DAY + 1) * 10 ** 12 - 1]
        self.shows_value("yyyy-mm-dd hh:mm", last, "9999-12-31 23:59")
        self.shows_value("[h]", last, str(LAST_DAY * 24 + 23))
        self.shows_value("[m]", last, str(LAST_DAY * 1440 + 1439))
        for picture in ("s", "ss", "[s]", "s.0", "s.00", "s.000", "[s].000", "yyyy ss"):
            self.cannot(picture, last)

    def test_rounding_behind_the_last_day(self):
        for decimals, thousandth in ((0, 500), (1, 950), (2, 995)):
            picture = "yyyy-mm-dd hh:mm:ss" + ("." + "0" * decimals if decimals else "")
            half = at(LAST_DAY, 23, 59, 59, thousandth)
            shown = "9999-12-31 23:59:59" + ("." + "9" * decimals if decimals else "")
            self.cannot(picture, half)
            self.shows_value(picture, just_before(half), shown)
        self.shows_value("ss.000", at(LAST_DAY, 23, 59, 59, 999), "59.999")


class Times(ShowTest):
    def test_hours(self):
        for hour in range(24):
            self.shows_value("h hh", at(1, hour), f"{hour} {hour:02}")
            self.shows_value("h hh H", at(45350, hour, 59), f"{hour} {hour:02} {hour}")

    def test_noon_and_midnight(self):
        for hour in range(24):
            of_twelve = hour % 12 or 12
            word = "AM" if hour < 12 else "PM"
            self.shows_value("h AM/PM", at(1, hour), f"{of_twelve} {word}")
            self.shows_value("hh am/pm", at(1, hour, 59), f"{of_twelve:02} {word}")
            self.shows_value("A/P hh", at(1, hour, 30), f"{word[0]} {of_twelve:02}")
            self.shows_value("a/P", at(1, hour), word[0])
        self.shows_value("h:mm:ss AM/PM", just_before(at(1, 12)), "12:00:00 PM")
        self.shows_value("h:mm AM/PM", just_before(at(1, 12)), "11:59 AM")
        self.shows_value("AM/PM A/P AM/PM", at(0, 13), "PM P PM")
        self.shows_value("AM/PM s.000", at(0, 11, 59, 59, 999), "AM 59.999")

    def test_passed_hours_are_not_from_1_to_12(self):
        self.shows_value("[h] AM/PM", at(0, 13), "13 PM")
        self.shows_value("[h] h AM/PM", at(1, 13), "37 1 PM")

    def test_minutes_and_seconds(self):
        self.shows_value("h:m:s", at(1, 1, 2, 3), "1:2:3")
        self.shows_value("hh:mm:ss", at(1, 1, 2, 3), "01:02:03")
        self.shows_value("hh:mm:ss", at(1, 21, 42, 53), "21:42:53")
        for value in range(60):
            self.shows_value("s ss", at(0, 0, 0, value), f"{value} {value:02}")
            self.shows_value("h m;", at(0, 0, value), f"0 {value}")

    def test_cut_off_without_seconds(self):
        self.shows_value("h:mm", just_before(at(1, 1, 2)), "1:01")
        self.shows_value("h:mm", at(1, 1, 2, 59, 999), "1:02")
        self.shows_value("yyyy-mm-dd", [1, 2 * 10 ** 12 - 1], "1900-01-01")
        self.shows_value("[h]", [1, 10 ** 12 - 1], "23")
        self.shows_value("[mm]", [1, 10 ** 12 - 1], "1439")
        self.shows_value("AM/PM", [1, 5 * 10 ** 11 - 1], "AM")
        self.shows_value("AM/PM", [1, 5 * 10 ** 11], "PM")


class Minutes(ShowTest):
    """In March, at 7 minutes past 5: months show 3, minutes 7."""

    def is_so(self, picture, shown):
        self.shows_value(picture, at(60, 5, 7, 9), shown)

    def test_months(self):
        for picture, shown in (("m", "3"), ("mm", "03"), ("m d", "3 1"), ("d m", "1 3"), ("y m d", "00 3 1"),
                               ("s m", "9 3"), ("m h", "3 5"), ("m h s", "3 5 9"), ("d m h", "1 3 5"), ("m m", "3 3")):
            self.is_so(picture, shown)

    def test_behind_hours(self):
        for picture, shown in (("h m", "5 7"), ("h mm", "5 07"), ("hh:m", "05:7"), ("h:mm d", "5:07 1"),
                               ("h m d", "5 7 1"), ("h m m", "5 7 3"), ("h d m", "5 1 3"),
                               ("d h m", "1 5 7"), ("hm", "57"), ("hhmm", "0507"), ("hd", "51"), ("hdm", "513")):
            self.is_so(picture, shown)

    def test_before_seconds(self):
        for picture, shown in (("m s", "7 9"), ("mm:ss", "07:09"), ("m:s.000", "7:9.000"), ("d m s", "1 7 9"),
                               ("m m s", "3 7 9"), ("m d s", "3 1 9"), ("y mm ss", "00 07 09"),
                               ("m s d", "7 9 1"), ("ms", "79"), ("mmss", "0709"), ("dms", "179"), ("md", "31")):
            self.is_so(picture, shown)

    def test_passed_ones_count(self):
        hours = 60 * 24 + 5
        minutes = hours * 60 + 7
        seconds = minutes * 60 + 9
        for picture, shown in (("[h]:m", f"{hours}:7"), ("[hh]:mm", f"{hours}:07"), ("m:[s]", f"7:{seconds}"),
                               ("mm [ss].0", f"07 {seconds}.0"), ("[m] m", f"{minutes} 3"), ("[s] m", f"{seconds} 3"),
                               ("m [h]", f"3 {hours}"), ("m [m]", f"3 {minutes}"), ("h [m] m", f"5 {minutes} 3"),
                               ("m [m] s", f"3 {minutes} 9"), ("[h] [m] m", f"{hours} {minutes} 3")):
            self.is_so(picture, shown)

    def test_what_stands_between(self):
        for picture, shown in (('h"d"m', "5d7"), ("h AM/PM m", "5 AM 7"), ("h A/P:mm", "5 A:07"),
                               ("m AM/PM s", "7 AM 9"), ('m"h"s', "7h9"), ("h[>1]m", "57"), ('"h"m', "h3"),
                               ('m"s"', "3s"), ("\\hm", "h3"), ("m\\s", "3s"), ("_hm", " 3"), ("m:_s", "3: "),
                               ("h - - - mm", "5 - - - 07")):
            self.is_so(picture, shown)

    def test_sections_are_apart(self):
        self.is_so("[<1]h;m", "3")
        self.is_so("m;s", "3")

    def test_names_stay(self):
        for picture, shown in (("h mmm", "5 Mar"), ("h mmmm", "5 March"), ("h mmmmm", "5 M"), ("mmm s", "Mar 9"),
                               ("mmmm:ss", "March:09"), ("mmmmm s", "M 9"), ("h mmm m", "5 Mar 3"),
                               ("h mmm m s", "5 Mar 7 9")):
            self.is_so(picture, shown)


class Seconds(ShowTest):
    def test_decimals(self):
        value = at(1, 1, 2, 3, 456)
        for picture, shown in (("s", "3"), ("s.0", "3.5"), ("s.00", "3.46"), ("s.000", "3.456"), ("ss.000", "03.456"),
                               ("h:mm:ss.0", "1:02:03.5")):
            self.shows_value(picture, value, shown)
        self.shows_value("S.000", at(1, 0, 0, 0, 7), "0.007")
        self.shows_value("s.00 \"x\"", at(1, 0, 0, 0, 70), "0.07 x")

    def test_two_seconds_with_different_decimals(self):
        value = at(1, 1, 2, 3, 456)
        self.shows_value("s s.0 s.00 s.000", value, "3 3.4 3.45 3.456")
        self.shows_value("s.00 ss", value, "3.46 03")
        self.shows_value("s.000 s", at(1, 0, 0, 59, 999), "59.999 59")
        self.shows_value("s [s].0", at(0, 0, 1, 59, 960), "0 120.0")
        self.shows_value("[s].000 s.0", at(0, 0, 1, 59, 960), "119.960 59.9")

    def test_halves_go_up(self):
        for picture, thousandth, below, above in (("s", 500, "3", "4"), ("s.0", 450, "3.4", "3.5"),
                                                  ("s.00", 455, "3.45", "3.46")):
            self.shows_value(picture, at(0, 0, 0, 3, thousandth), above)
            self.shows_value(picture, just_before(at(0, 0, 0, 3, thousandth)), below)

    def test_a_half_that_is_met_exactly(self):
        # 13.5 thousandths of a second are just 156250 of 10^-12 days.
        self.shows_value("s.000", [1, 156250], "0.014")
        self.shows_value("s.000", [1, 156249], "0.013")
        # 13.5 seconds.
        self.shows_value("s", [1, 156250000], "14")
        self.shows_value("s", [1, 156249999], "13")

    def test_up_into_the_next_minute_hour_day_and_year(self):
        self.shows_value("h:mm:ss", at(1, 1, 2, 59, 500), "1:03:00")
        self.shows_value("h:mm:ss", at(1, 1, 59, 59, 500), "2:00:00")
        self.shows_value("yyyy-mm-dd hh:mm:ss", at(1, 23, 59, 59, 500), "1900-01-02 00:00:00")
        self.shows_value("yyyy-mm-dd hh:mm:ss", at(0, 23, 59, 59, 500), "1900-01-01 00:00:00")
        self.shows_value("yyyy-mm-dd dddd hh:mm:ss", at(365, 23, 59, 59, 500), "1901-01-01 Tuesday 00:00:00")
        self.shows_value("yyyy-mm-dd hh:mm:ss.0", at(365, 23, 59, 59, 949), "1900-12-31 23:59:59.9")
        self.shows_value("h:mm:ss AM/PM", at(1, 11, 59, 59, 500), "12:00:00 PM")
        self.shows_value("h:mm:ss AM/PM", at(1, 23, 59, 59, 500), "12:00:00 AM")
        self.shows_value("d [s]", at(1, 23, 59, 59, 500), "2 172800")

    def test_passed_seconds_round_as_well(self):
        self.shows_value("[h]:mm:ss", at(0, 23, 59, 59, 500), "24:00:00")
        self.shows_value("d [s]", at(0, 23, 59, 59, 500), "1 86400")


class Passed(ShowTest):
    def test_each_with_1_to_9_letters(self):
        for letter, many in (("h", 29), ("m", 29 * 60 + 7), ("s", (29 * 60 + 7) * 60 + 9)):
            for size in range(1, 10):
                for letters in (letter * size, letter.upper() * size):
                    self.shows_value(f"[{letters}]", at(1, 5, 7, 9), str(many).zfill(size))

    def test_nothing_has_passed(self):
        self.shows("[h] [m] [s]", {"0": "0 0 0"})
        self.shows("[hhh] [mm] [sss].00", {"0": "000 00 000.00"})

    def test_together(self):
        self.shows_value("[h]:mm:ss", at(2, 1, 2, 3), "49:02:03")
        self.shows_value("[mm]:ss", at(0, 1, 2, 3), "62:03")
        self.shows_value("[ss].00", at(0, 0, 0, 3, 456), "03.46")
        self.shows_value("[s].0", at(0, 1, 0, 3, 450), "3603.5")
        self.shows_value("d [h] h", at(2, 1), "2 49 1")
        self.shows_value("[s].000", at(LAST_DAY, 23, 59, 59, 999), str((LAST_DAY + 1) * 86400 - 1) + ".999")


if __name__ == "__main__":
    unittest.main()
