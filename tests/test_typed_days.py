"""typed: days, times and both."""

import fractions
import unittest

from helper import TypedTest, number

DAY = "yyyy-mm-dd"


def time_of(hour, minute, second=0, thousandth=0, day=0):
    """The value of a day's time: round takes halves to the even one."""
    thousandths = ((hour * 60 + minute) * 60 + second) * 1000 + thousandth
    return [1, round(fractions.Fraction((day * 86400000 + thousandths) * 10 ** 12, 86400000))]


class Days(TypedTest):
    def test_three_forms(self):
        for written in ("2024-02-29", "2024-2-29", "29.2.2024", "29.02.2024", "2/29/2024", "02/29/2024"):
            self.reads_number(written, "45350", DAY)
        for written in ("2023-03-04", "2023-3-4", "2023-03-4", "2023-3-04", "4.3.2023", "04.03.2023", "4.03.2023",
                        "04.3.2023", "3/4/2023", "03/04/2023", "3/04/2023", "03/4/2023"):
            self.reads_number(written, "44988", DAY)

    def test_numbers_of_digits(self):
        self.are_texts("2024-002-29", "2024-02-029", "024-02-29", "02024-02-29", "24-02-29", "2024--29", "2024-02-",
                       "-02-29", "029.2.2024", "29.002.2024", "29.2.024", "29.2.24", "29.2.02024", "29..2024",
                       ".2.2024", "29.2.", "002/29/2024", "2/029/2024", "2/29/024", "2/29/24", "2/29/02024", "2//2024",
                       "/29/2024", "2/29/")

    def test_the_first_and_the_last(self):
        for first, last in (("1900-01-01", "9999-12-31"), ("1.1.1900", "31.12.9999"), ("1/1/1900", "12/31/9999")):
            self.reads_number(first, "1", DAY)
            self.reads_number(last, "2958464", DAY)
        self.are_texts("1899-12-31", "31.12.1899", "12/31/1899", "0000-01-01", "0999-01-01", "10000-01-01", "1.1.10000",
                       "1/1/10000", "1900-01-00", "0.1.1900")

    def test_days_that_there_are_not(self):
        self.are_texts("2023-00-01", "2023-13-01", "2023-01-00", "2023-01-32", "2023-04-31", "2023-06-31", "2023-09-31",
                       "2023-11-31", "2023-02-30", "2023-99-99", "0.1.2023", "32.1.2023", "1.0.2023", "1.13.2023",
                       "0/1/2023", "13/1/2023", "1/0/2023", "1/32/2023", "29/2/2024", "2.29.2024")

    def test_february_29(self):
        self.are_texts("1900-02-29", "2023-02-29", "2100-02-29", "29.2.1900", "2/29/2023")
        for written, day in (("1900-02-28", 59), ("1900-03-01", 60), ("2000-02-29", 36584), ("2024-02-29", 45350),
                             ("2023-02-28", 44984), ("2023-03-01", 44985), ("2100-03-01", 73109),
                             ("2400-02-29", 182681)):
            self.reads_number(written, day, DAY)

    def test_the_last_of_each_month(self):
        day = 44925
        for month, many in enumerate((31, 28, 31, 30, 31, 30, 31, 31, 30, 31, 30, 31), start=1):
            day += many
            self.reads_number(f"2023-{month}-{many}", day, DAY)
            self.are_texts(f"2023-{month}-{many + 1}", f"{many + 1}.{month}.2023", f"{month}/{many + 1}/2023")

    def test_signs_mixed(self):
        self.are_texts("2024-02/29", "2024/02-29", "2024-02.29", "2024.02-29", "29.2/2024", "29/2.2024", "29.2-2024",
                       "2/29-2024", "2/29.2024")

    def test_other_orders(self):
        self.are_texts("2024.2.29", "2024/2/29", "29-2-2024", "2-29-2024", "2024-29-02", "29/02/2024")

    def test_wrong(self):
        self.are_texts("2024-02", "2024-02-29-01", "2024-02-29.", "-2024-02-29", "+2024-02-29", "(2024-02-29)",
                       "2024-02-29%", "2024-02-2a", "202a-02-29", "2024 02 29", "20240-2-29", "2024:02:29",
                       "2024-+2-29", "1/2", "2024-0 2-29", "2,024-02-29", "29.2.2,024")
        self.reads_number("20240229", "20240229")


class Times(TypedTest):
    def test_hours_and_minutes(self):
        for written, hour, minute in (("0:00", 0, 0), ("0:0", 0, 0), ("00:00", 0, 0), ("6:00", 6, 0), ("06:00", 6, 0),
                                      ("12:30", 12, 30), ("23:59", 23, 59), ("1:2", 1, 2), ("01:02", 1, 2),
                                      ("0:59", 0, 59)):
            self.reads(written, time_of(hour, minute), "h:mm")

    def test_seconds(self):
        for written, hour, minute, second in (("0:00:00", 0, 0, 0), ("0:0:0", 0, 0, 0), ("6:00:00", 6, 0, 0),
                                              ("1:2:3", 1, 2, 3), ("01:02:03", 1, 2, 3), ("23:59:59", 23, 59, 59)):
            self.reads(written, time_of(hour, minute, second), "h:mm:ss")

    def test_decimals(self):
        for written, thousandth in (("1:2:3.4", 400), ("1:2:3.45", 450), ("1:2:3.456", 456), ("1:2:3.0", 0),
                                    ("1:2:3.00", 0), ("1:2:3.000", 0), ("1:2:3.05", 50), ("1:2:3.006", 6),
                                    ("1:2:03.4", 400)):
            self.reads(written, time_of(1, 2, 3, thousandth), "h:mm:ss")
        self.reads("23:59:59.999", time_of(23, 59, 59, 999), "h:mm:ss")
        self.are_texts("1:2:3.", "1:2:3.4567", "1:2:3.0000", "1:2.5", "1.5:2", "1:2.5:3", "1:2:.5", "1:2:3.4.5",
                       "1:2:3,5")

    def test_limits(self):
        self.are_texts("24:00", "24:00:00", "25:00", "99:00", "0:60", "23:60", "0:99", "0:0:60", "0:60:0", "0:0:99",
                       "0:0:60.0", "24:0:0.0")

    def test_numbers_of_digits(self):
        self.are_texts("001:00", "1:000", "1:00:000", "100:00", "1:0:000", ":00", "1:", ":", "::", "1::00", ":1:00",
                       "1:00:", "1:2:3:4", "1:2:003.5")

    def test_wrong(self):
        self.are_texts("-1:00", "+1:00", "(1:00)", "1:00%", "1:0a", "a:00", "1;00", "1:00h", "1:-1", "1:+1", "1.00:00",
                       "1,000:00")


class Noon(TypedTest):
    def test_each_hour(self):
        for hour in range(24):
            word = "AM" if hour < 12 else "PM"
            self.reads(f"{hour % 12 or 12}:30 {word}", time_of(hour, 30), "h:mm")
            self.reads(f"{hour % 12 or 12:02}:30:15 {word}", time_of(hour, 30, 15), "h:mm:ss")

    def test_letters(self):
        for word in ("AM", "am", "Am", "aM"):
            self.reads("1:30 " + word, time_of(1, 30), "h:mm")
        for word in ("PM", "pm", "Pm", "pM"):
            self.reads("1:30 " + word, time_of(13, 30), "h:mm")

    def test_hours(self):
        self.reads("12:00 AM", time_of(0, 0), "h:mm")
        self.reads("12:00 PM", time_of(12, 0), "h:mm")
        self.reads("1:00 AM", time_of(1, 0), "h:mm")
        self.reads("11:59:59.999 PM", time_of(23, 59, 59, 999), "h:mm:ss")
        self.are_texts("0:00 AM", "0:00 PM", "00:30 AM", "13:00 AM", "13:00 PM", "24:00 AM", "12:60 PM", "1:00:60 PM")

    def test_blanks(self):
        self.are_texts("1:30AM", "1:30pm", "1:30  AM", "1:30   PM", "1:30 A M", "1:30 AM PM", "1:30 AMPM")
        self.reads(" 1:30 PM ", time_of(13, 30), "h:mm")

    def test_wrong(self):
        self.are_texts("1:30 A", "1:30 P", "1:30 M", "1:30 XM", "1:30 AMX", "1:30 noon", "1 PM", "1PM", "AM", "PM",
                       "AM 1:30", "1:30 A.M.", "5 AM", "1:30 \tAM")


class Both(TypedTest):
    def test_ordinary(self):
        for day in ("2024-02-29", "29.2.2024", "2/29/2024"):
            self.reads(day + " 6:30", time_of(6, 30, day=45350), DAY + " h:mm")
            self.reads(day + " 06:30:15", time_of(6, 30, 15, day=45350), DAY + " h:mm:ss")
            self.reads(day + " 6:30:15.25", time_of(6, 30, 15, 250, 45350), DAY + " h:mm:ss")
            self.reads(day + " 6:30 PM", time_of(18, 30, day=45350), DAY + " h:mm")
            self.reads(day + " 6:30:15 am", time_of(6, 30, 15, day=45350), DAY + " h:mm:ss")
            self.reads(day + " 0:00", time_of(0, 0, day=45350), DAY + " h:mm")
            self.reads(day + " 12:00:00 AM", time_of(0, 0, day=45350), DAY + " h:mm:ss")

    def test_the_last_moment(self):
        self.reads("9999-12-31 23:59:59.999", time_of(23, 59, 59, 999, 2958464), DAY + " h:mm:ss")
        self.reads("1900-01-01 0:00", number("1"), DAY + " h:mm")

    def test_one_blank_between(self):
        self.are_texts("2024-02-29  6:30", "2024-02-29   6:30", "2024-02-296:30", "2024-02-29T6:30", "2024-02-29\t6:30",
                       "2024-02-29 6:30  PM", "2024-02-29 6:30PM", "2024-02-29  6:30 PM")

    def test_wrong(self):
        self.are_texts("6:30 2024-02-29", "2024-02-30 6:30", "2024-02-29 24:00", "2024-02-29 0:60", "2024-02-29 6",
                       "2024-02-29 AM", "2024-02-29 PM", "2024-02-29 2024-02-29", "6:30 6:30", "2024-02-29 6:30 6:30",
                       "2024-02-29 13:00 PM", "2024-02-29 0:30 AM", "2024-02-29 5%", "2024-02-29 6:30 XM",
                       "2024-02-29 6:30:15.", "1899-12-31 6:30", "2024-02 6:30", "45350 6:30", "2024-02-29, 6:30",
                       "2024-02-29 6:30 PM x", "2024-02-29 -6:30", "2024-02-29 6:30:15.1234", "2024-02-29 :30")


class Numbers(TypedTest):
    """The numbers of times, to the nearest 10^-12."""

    def test_to_the_nearest(self):
        # One minute is 694444444.4..., two are 1388888888.8..., one second is 11574074.07...
        for written, z in (("0:01", 694444444), ("0:02", 1388888889), ("8:00", 333333333333), ("16:00", 666666666667),
                           ("6:00", 250000000000), ("12:00", 500000000000), ("23:59", 999305555556)):
            self.reads(written, [1, z], "h:mm")
        for written, z in (("0:00:01", 11574074), ("0:00:00.001", 11574), ("0:00:00.002", 23148),
                           ("0:00:00.027", 312500), ("23:59:59", 999988425926), ("23:59:59.999", 999999988426),
                           ("0:00:00.003", 34722)):
            self.reads(written, [1, z], "h:mm:ss")
        self.reads("2024-02-29 8:00", [1, 45350333333333333], DAY + " h:mm")
        self.reads("2024-02-29 16:00", [1, 45350666666666667], DAY + " h:mm")
        self.reads("9999-12-31 23:59:59.999", [1, 2958464999999988426], DAY + " h:mm:ss")


if __name__ == "__main__":
    unittest.main()
