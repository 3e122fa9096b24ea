package tests

import (
	"slices"
	"strconv"
	"strings"
	"testing"

	"loop.example/spool/impl"
)

func wantFault(t *testing.T, name, text string, number int) {
	t.Helper()
	if s := wantRead(t, name, text); s.Ok || s.Line != number || s.Room != 0 || len(s.Acts) != 0 {
		t.Errorf("%s: %s: Ok %v, Line %d, Room %d, %d acts; want Line %d", name, shortly(text), s.Ok, s.Line, s.Room, len(s.Acts), number)
	}
	if got, want := impl.Answer(text), "fault "+strconv.Itoa(number)+"\n"; got != want {
		t.Errorf("%s: %s: %s, want %q", name, shortly(text), shortly(got), want)
	}
}

// wantNoLine asks that a line can stand nowhere among others, with other faults behind it or not.
func wantNoLine(t *testing.T, name, told string) {
	t.Helper()
	for n := range 4 {
		ahead := "room 60\n" + strings.Repeat("live\n", n)
		for _, behind := range []string{"", "count\n", "num 3 -8\nround\n", "\n", "live", told + "\n", "what\n\nnew\n"} {
			wantFault(t, name, ahead+told+"\n"+behind, n+2)
		}
		if told != "" {
			wantFault(t, name+", without a newline", ahead+told, n+2)
		}
	}
	wantFault(t, name+", as the first line", told+"\nlive\n", 1)
}

func TestReadRoomAlone(t *testing.T) {
	for _, room := range []int{1, 2, 9, 10, 99, 100, 999, 1000, 3999, 4000} {
		s := wantRead(t, "room alone", "room "+strconv.Itoa(room)+"\n")
		if !s.Ok || s.Room != room || s.Line != 0 || len(s.Acts) != 0 {
			t.Errorf("room %d: %+v", room, s)
		}
	}
}

func TestFirstLines(t *testing.T) {
	first := []string{
		"", "\n", "\n\n", " ", " \n", "r", "room", "room ", "room 7", "room\n", "room \n", "room 7 \n", " room 7\n", "room  7\n", "room 7  \n", "room 7 7\n", "room 7 x\n",
		"room\t7\n", "room 7\t\n", "\troom 7\n", "room 7\r\n", "room 7\r", "\rroom 7\n", "room\r\n7\n", "room 7\x00\n", "\x00room 7\n", "room\x007\n", "room \x007\n", "room 7\xff\n", "\xffroom 7\n",
		"\xef\xbb\xbfroom 7\n", "room\u00a07\n", "room 7\u00a0\n", "room \uff17\n", "room \u0667\n", "room 7\v\n", "room 7\f\n", "room 7\u2028", "room 7\u0085",
		"Room 7\n", "ROOM 7\n", "rooM 7\n", "roo 7\n", "oom 7\n", "rooms 7\n", "room7\n", "room7 7\n", "rom 7\n", "7\n", "7 room\n", "moor 7\n", "round\n", "live\n", "new 0 7 2\n", "nil 0\n", "step 7\n", "what\n",
		"room 0\n", "room -1\n", "room 4001\n", "room 4002\n", "room 10000\n", "room -4000\n", "room -0\n", "room 00\n", "room 07\n", "room 007\n", "room 04000\n", "room +7\n", "room + 7\n", "room -\n", "room +\n", "room --7\n", "room - 7\n",
		"room 7.0\n", "room 7.\n", "room 7e0\n", "room 0x7\n", "room 0b1\n", "room 0o7\n", "room 1_0\n", "room 1,0\n", "room seven\n", "room 7a\n", "room a7\n", "room 7-\n", "room A\n", "room R\n",
		"room 4294967297\n", "room 9223372036854775807\n", "room 9223372036854775808\n", "room -9223372036854775808\n", "room -9223372036854775809\n", "room 18446744073709551617\n", "room -18446744073709551615\n",
		"room " + strings.Repeat("9", 6000) + "\n", "room " + strings.Repeat("0", 6000) + "7\n", "room -" + strings.Repeat("1", 6000) + "\n", "room 1" + strings.Repeat("0", 6000) + "\n",
		strings.Repeat("room 7 ", 2000) + "\n", strings.Repeat(" ", 9000) + "room 7\n", "room 7" + strings.Repeat(" ", 9000) + "\n",
	}
	for _, begin := range first {
		wantFault(t, "first line", begin, 1)
		if strings.HasSuffix(begin, "\n") {
			for _, behind := range []string{"room 7\n", "live\n", "live\nround\n", "\n", "live", "what\n", "room 7\nlive\n"} {
				wantFault(t, "first line, others behind it", begin+behind, 1)
			}
		}
	}
}

// Texts that end without a newline: their last piece cannot stand, whatever it is; and no line ahead of it is blamed.
func TestTextsWithoutANewlineAtTheEnd(t *testing.T) {
	for _, c := range toldActs {
		for _, n := range []int{0, 1, 5} {
			ahead := "room 60\n" + strings.Repeat(c.told+"\n", n)
			for i := range len(c.told) + 1 {
				if i > 0 {
					wantFault(t, "a piece", ahead+c.told[:i], n+2)
				}
			}
			if s := wantRead(t, "with a newline", ahead+c.told+"\n"); !s.Ok || len(s.Acts) != n+1 || s.Acts[n] != c.act {
				t.Errorf("%s: %+v", c.told, s)
			}
			wantFault(t, "a faulty line ahead", ahead+"x\n"+c.told, n+2)
			wantFault(t, "one newline too many", ahead+c.told+"\n\n", n+3)
			wantFault(t, "a carriage return instead", ahead+c.told+"\r", n+2)
		}
	}
	wantFault(t, "no newline in it", "room 60 live", 1)
	wantFault(t, "a zero byte instead", "room 60\nlive\x00", 2)
}

func TestEmptyLines(t *testing.T) {
	wantFault(t, "ahead of all", "\nroom 7\n", 1)
	wantFault(t, "behind the room", "room 7\n\n", 2)
	wantFault(t, "behind the room, acts behind it", "room 7\n\nlive\n", 2)
	wantFault(t, "among acts", "room 7\nlive\n\nlive\n", 3)
	wantFault(t, "at the end", "room 7\nlive\nlive\n\n", 4)
	wantFault(t, "two of them", "room 7\nlive\n\n\n", 3)
	for _, empty := range []string{"", " ", "  ", "\t", "\r", "\x00", "\xff", "\u00a0", "-", "0", "7", "7 7", "+", "#", "//"} {
		wantNoLine(t, "as good as empty", empty)
	}
}

// spoiledLines are lines that none of any Op is, made from one that is.
func spoiledLines(told string) []string {
	list := []string{" " + told, told + " ", "  " + told, told + "  ", "\t" + told, told + "\t", told + "\r", "\r" + told, told + "\x00", "\x00" + told, told + "\xff", "\x80" + told, told + "\u00a0", "\ufeff" + told,
		told + " 0", told + " 7", told + " -1", told + " x", told + " 0 0 0 0", told + "-", told + ";", told + "#", told + " #", told + "x", "x" + told, "x " + told, "0 " + told, told + " " + told, "A" + told, "a" + told, "room " + told,
		strings.ToUpper(told), strings.ToUpper(told[:1]) + told[1:], strings.ReplaceAll(told, "e", "\u0435") + "\u0435"}
	name, rest, some := strings.Cut(told, " ")
	for i := range name {
		list = append(list, name[:i]+strings.ToUpper(name[i:i+1])+told[i+1:], name[:i]+"\x00"+told[i+1:], name[:i]+" "+told[i:])
		if i > 0 {
			list = append(list, name[:i]+"\t"+told[i:], name[:i]+name[i-1:i]+told[i:])
		}
	}
	if some {
		list = append(list, name+rest, name+"  "+rest, name+"\t"+rest, name+"\u00a0"+rest, name+"\r"+rest, name+", "+rest, name+": "+rest, rest+" "+name, name, name+" ", rest, "0 "+rest)
	}
	for i := range told {
		if told[i] == ' ' {
			list = append(list, told[:i]+"  "+told[i+1:], told[:i]+"\t"+told[i+1:], told[:i], told[:i]+" ", told[:i]+" \t"+told[i+1:], told[:i]+"-"+told[i+1:], told[:i]+"\x00"+told[i+1:])
		}
	}
	return list
}

func TestSpoiledLines(t *testing.T) {
	for _, c := range toldActs {
		for _, told := range spoiledLines(c.told) {
			wantNoLine(t, "spoiled", told)
		}
	}
}

// Names that are none: pieces of one, others that are near, and Ops as the program has them.
func TestNamesThatAreNone(t *testing.T) {
	names := []string{"", "a", "room", "rooms", "anew", "anum", "ANew", "ANum", "asetkey", "ne", "ew", "news", "nw", "nums", "nu", "numb", "numbe", "umber", "numbers", "nill", "ni", "cop", "copys", "opy", "ke", "keys", "va", "vals", "value",
		"set", "setke", "setva", "setkeys", "setkeyval", "set key", "set val", "etkey", "gro", "grows", "row", "cu", "cuts", "wea", "weaks", "las", "lasts", "sam", "wor", "ord", "words", "kin", "ind", "kinds", "siz", "sizes", "settl", "settles", "ettle", "du", "dues",
		"coun", "counts", "counted", "liv", "lives", "ive", "ste", "tep", "steps", "pac", "paces", "ace", "roun", "rounds", "ound", "reach", "hold", "free", "move", "1", "24", "play", "ideally", "plain", "shade", "left", "next", "nextdue"}
	for _, name := range names {
		for _, fields := range []string{"", " 0", " 0 0", " 0 0 0", " 7 5 3", " 0 0 0 0"} {
			wantNoLine(t, "no name", name+fields)
		}
	}
	for _, c := range toldActs {
		name := strings.Fields(c.told)[0]
		for i := range name {
			for j := i + 1; j <= len(name); j++ {
				for _, fields := range []string{"", " 0", " 0 0", " 0 0 0"} {
					wantRead(t, "a piece of a name", "room 9\n"+name[i:j]+fields+"\n")
				}
			}
		}
	}
}

// Each Op with none to five fields: it is read with as many as the document names, and with no others.
func TestHowManyFields(t *testing.T) {
	for op, told := range slowLines {
		words := strings.Fields(told)
		for n := range 6 {
			text := words[0] + strings.Repeat(" 0", n)
			if n != len(words)-1 {
				wantNoLine(t, "fields", text)
			} else if s := wantRead(t, "fields", "room 9\n"+text+"\n"); !s.Ok || s.Acts[0] != (impl.Act{Op: op}) {
				t.Errorf("%q: %+v", text, s)
			}
		}
	}
}

// Words that are no numbers in the one form that a number has, or have more than 64 bits hold.
func strangeNumbers() []string {
	list := []string{"", "-", "+", "--", "-0", "+0", "-00", "00", "000", "01", "007", "-01", "-007", "+1", "+7", "++7", "--7", "-+7", "+-7", "- 7", "1-", "0-", "1+", "1.", "1.0", ".1", "0.0", "1e0", "1E0", "0x1", "0X1", "0b1", "0o1", "1_0", "0_1", "1,0", "1'0",
		"x", "A", "N", "a1", "1a", "nan", "inf", "nil", "true", "'1'", "\"1\"", "(1)", "1\t", "\t1", "1\r", "\r1", "1\x00", "\x001", "1\xff", "\xff1", "\u0661", "\uff11", "\u00b9", "\u00bd", "\u22121", "\u20131",
		"9223372036854775808", "-9223372036854775809", "9223372036854775817", "10000000000000000000", "18446744073709551615", "18446744073709551616", "18446744073709551617", "18446744073709551618", "-18446744073709551615", "-18446744073709551616", "340282366920938463463374607431768211457"}
	for _, digit := range []string{"0", "1", "9"} {
		long := strings.Repeat(digit, 5000)
		list = append(list, long, long+"1", "-"+long, "1"+long, "+"+long, long+"x")
	}
	return list
}

func TestNumbersInOneFormOnly(t *testing.T) {
	for op, told := range slowLines {
		words := strings.Fields(told)
		for i := 1; i < len(words); i++ {
			for _, number := range strangeNumbers() {
				fields := slices.Repeat([]string{"0"}, len(words))
				fields[0], fields[i] = words[0], number
				text := strings.Join(fields, " ")
				wantFault(t, "a strange number", "room 9\n"+text+"\n", 2)
				wantFault(t, "a strange number", "room 9\nlive\n"+text+"\nlive\n", 3)
				if op == impl.ANum {
					wantNoLine(t, "a strange number", text)
				}
			}
		}
	}
}

// Each field one beyond its Op's range, and far beyond it, also where it comes back into the range with fewer bits.
func TestNumbersOutOfRange(t *testing.T) {
	for i, f := range fieldsOf {
		words := strings.Fields(slowLines[i+1])
		for k, letter := range words {
			high, ok := map[string]int{"A": f.a, "B": f.b, "C": f.c}[letter]
			if !ok {
				continue
			}
			for _, n := range []int{-1 << 63, -1 << 32, -1000, -high, -2, -1, high + 1, high + 2, 256 + high, 65536, 1 << 20, 1 << 31, 1 << 32, 1<<32 + 1, 1 << 48, 1<<63 - 1} {
				if n >= 0 && n <= high {
					continue
				}
				fields := slices.Repeat([]string{"0"}, len(words))
				fields[0], fields[k] = words[0], strconv.Itoa(n)
				wantNoLine(t, "out of range", strings.Join(fields, " "))
			}
		}
	}
}

// Where several lines cannot stand, the first of them is told.
func TestTheFirstOfSeveralFaults(t *testing.T) {
	bad := []string{"", "what", "live ", " live", "new 0 0", "new 16 0 0", "num 0 -0", "num 0 9223372036854775808", "Live", "room 9", "live\r"}
	for n := range 200 {
		lines := []string{"room 9"}
		for i := range 8 {
			lines = append(lines, toldActs[(n*7+i*11)%len(toldActs)].told)
		}
		for i := 1; i <= 8; i++ {
			for j := i + 1; j <= 8; j++ {
				spoiled := slices.Clone(lines)
				spoiled[i], spoiled[j] = bad[(n+i)%len(bad)], bad[(n+j)%len(bad)]
				wantFault(t, "two faults", strings.Join(spoiled, "\n")+"\n", i+1)
				wantFault(t, "two faults and no newline", strings.Join(spoiled, "\n"), i+1)
			}
		}
		lines[0] = "room 0"
		lines[1+n%8] = bad[n%len(bad)]
		wantFault(t, "the first line among them", strings.Join(lines, "\n")+"\n", 1)
	}
}

// A thousand acts are read; a line behind them cannot stand, whatever it is, and one ahead of it that cannot comes first.
func TestALineTooMany(t *testing.T) {
	for _, told := range []string{"live", "new 1 2 3", "num 15 -123456"} {
		full := "room 4000\n" + strings.Repeat(told+"\n", 1000)
		if s := wantRead(t, "a thousand", full); !s.Ok || len(s.Acts) != 1000 {
			t.Errorf("%s: Ok %v, Line %d", told, s.Ok, s.Line)
		}
		for _, more := range []string{"live\n", "live", told + "\n", "\n", " ", "what\n", "room 4000\n", "live\nlive\n", "\n\n", "what\nlive\n", "\x00"} {
			wantFault(t, "a line too many", full+more, 1002)
			wantFault(t, "and one that is none", strings.Replace(full, told, "what", 1)+more, 2)
			wantFault(t, "and one that is none, at the end", strings.TrimSuffix(full, told+"\n")+"\n"+more, 1001)
		}
		short := strings.TrimSuffix(full, told+"\n")
		if s := wantRead(t, "one fewer", short); !s.Ok || len(s.Acts) != 999 {
			t.Errorf("%s: Ok %v, Line %d", told, s.Ok, s.Line)
		}
		wantFault(t, "the last one without a newline", short+told, 1001)
	}
	wantFault(t, "many more", "room 9\n"+strings.Repeat("live\n", 3998), 1002)
	wantFault(t, "an empty line at each end", "\n"+strings.Repeat("live\n", 1100)+"\n", 1)
}

// More bytes than a text may have: Line 0, whatever they are; as many as it may have: as any text.
func TestTextsThatAreTooLong(t *testing.T) {
	full := slowText(4000, filling(4000, impl.MaxText, 25))
	if s := wantRead(t, "at the bound", full); !s.Ok || len(full) != impl.MaxText {
		t.Errorf("%d bytes: Ok %v, Line %d", len(full), s.Ok, s.Line)
	}
	last := len(linesOf(full))
	wantFault(t, "the last byte gone", full[:len(full)-1], last)
	wantFault(t, "the last byte another", full[:len(full)-1]+" ", last)
	wantFault(t, "the first byte another", "R"+full[1:], 1)
	wantFault(t, "blanks at the bound", strings.Repeat(" ", 20000), 1)
	wantFault(t, "newlines at the bound", strings.Repeat("\n", 20000), 1)
	wantFault(t, "a long line", "room 7\n"+strings.Repeat("x", 20000-8)+"\n", 2)
	wantFault(t, "a long line without a newline", "room 7\n"+strings.Repeat(" ", 20000-7), 2)
	wantFault(t, "a long number", "room 7\nnum 0 "+strings.Repeat("7", 20000-14)+"\n", 2)
	for _, text := range []string{
		full + "\n", full + " ", full + "x", full + "live\n", "\n" + full, "x" + full, full[:len(full)-1] + " \n", full + full,
		strings.Repeat(" ", 20001), strings.Repeat("\n", 20001), strings.Repeat("\x00", 20001), strings.Repeat("live\n", 4001),
		"room 7\n" + strings.Repeat("live\n", 1000) + strings.Repeat("x", 20000), "room 7\n" + strings.Repeat("x", 20001-8) + "\n", "room 0\n" + strings.Repeat("live\n", 5000),
		"room 7\n" + strings.Repeat("live\n", 200000), strings.Repeat("9", 3000000),
	} {
		wantFault(t, "too long", text, 0)
	}
}

// Each byte in each place of a line.
func TestEachByte(t *testing.T) {
	for _, told := range []string{"new 15 7 2", "num 3 -10", "live", "pace 2 10"} {
		for b := range 256 {
			for i := range len(told) + 1 {
				one := string([]byte{byte(b)})
				wantRead(t, "put in", "room 7\nround\n"+told[:i]+one+told[i:]+"\nlive\n")
				if i < len(told) {
					wantRead(t, "changed", "room 7\nround\n"+told[:i]+one+told[i+1:]+"\nlive\n")
				}
			}
		}
	}
	for b := range 256 {
		one := string([]byte{byte(b)})
		for i := range len("room 37\n") + 1 {
			wantRead(t, "put in", "room 37\n"[:i]+one+"room 37\n"[i:]+"live\n")
		}
	}
}
