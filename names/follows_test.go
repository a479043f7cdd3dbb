package names_test

import (
	"math/rand"
	"slices"
	"strings"
	"testing"

	"wicket/api"
	"wicket/names"
)

// allOver is all texts of at most most bytes of signs.
func allOver(signs string, most int) []string {
	l := []string{""}
	from := 0
	for range most {
		to := len(l)
		for _, s := range l[from:to] {
			for i := range len(signs) {
				l = append(l, s+signs[i:i+1])
			}
		}
		from = to
	}
	return l
}

// rising is texts by the words' order: each text ahead of those that it is a beginning of, these by their next byte.
func rising(signs string, most int) []string {
	l := []string{""}
	if most == 0 {
		return l
	}
	shorter := rising(signs, most-1)
	for i := range len(signs) {
		for _, s := range shorter {
			l = append(l, signs[i:i+1]+s)
		}
	}
	return l
}

// P5.1, P5.4: Cmp is the order in which the words put bytes; turned round it is the other sign.
func TestCmpIsAnOrder(t *testing.T) {
	l := rising("\x00\x01a\x7f\x80\xfe\xff", 3)
	if len(l) != len(allOver("\x00\x01a\x7f\x80\xfe\xff", 3)) {
		t.Fatalf("%d texts", len(l))
	}
	for i, a := range l {
		for j, b := range l {
			want := 0
			if i < j {
				want = -1
			} else if i > j {
				want = 1
			}
			wantCmp(t, a, b, want)
		}
	}
}

// P5.4: of any bytes, long ones with the same beginning too, Cmp turned round is the other sign, and goes on from one to the next.
func TestCmpOfAnyBytes(t *testing.T) {
	r := rand.New(rand.NewSource(51))
	for range 20000 {
		a, b, c := someBytes(r), someBytes(r), someBytes(r)
		if r.Intn(3) == 0 {
			b = append(slices.Clone(a), b...)
		}
		wantCmp(t, string(a), string(b), strings.Compare(string(a), string(b)))
		if names.Cmp(a, b) != -names.Cmp(b, a) || (names.Cmp(a, b) == 0) != (string(a) == string(b)) {
			t.Errorf("Cmp(%.40q, %.40q) is %d, turned round %d", a, b, names.Cmp(a, b), names.Cmp(b, a))
		}
		l := [][]byte{a, b, c}
		slices.SortFunc(l, names.Cmp)
		if names.Cmp(l[0], l[2]) > 0 || names.Cmp(l[0], l[1]) > 0 || names.Cmp(l[1], l[2]) > 0 {
			t.Errorf("%.40q do not rise", l)
		}
	}
}

func someBytes(r *rand.Rand) []byte {
	b := make([]byte, r.Intn(4)*r.Intn(30))
	r.Read(b)
	if r.Intn(2) == 0 {
		for i := range b {
			b[i] = "\x00\xff\xfea%"[b[i]%5]
		}
	}
	return b
}

// P5.2, P5.4: Next is above key, and nothing is above key and below Next of it.
func TestNothingIsBetweenKeyAndNext(t *testing.T) {
	l := allOver("\x00\x01a\xff", 4)
	for _, key := range allOver("\x00\x01a\xff", 3) {
		next := string(names.Next([]byte(key)))
		wantCmp(t, key, next, -1)
		for _, s := range l {
			if names.Cmp([]byte(key), []byte(s)) < 0 && names.Cmp([]byte(s), []byte(next)) < 0 {
				t.Errorf("%q is above %q and below %q", s, key, next)
			}
			wantIn(t, s, key, next, s == key)
		}
	}
}

// P5.2, P5.4: the range from front up to Behind of it is just the bytes that begin with front.
func TestBehindEndsWhatBeginsWithFront(t *testing.T) {
	l := allOver("\x00ab\xfe\xff", 4)
	for _, front := range allOver("\x00ab\xfe\xff", 3) {
		behind, ok := names.Behind([]byte(front))
		if ok != (strings.ReplaceAll(front, "\xff", "") != "") {
			t.Errorf("Behind(%q): %q, %v", front, behind, ok)
		}
		for _, s := range l {
			wantIn(t, s, front, string(behind), strings.HasPrefix(s, front))
		}
		if !ok {
			continue
		}
		// The least ones: what is below them does begin with front, or is below something that does.
		for _, s := range l {
			if names.Cmp([]byte(s), behind) < 0 && names.Cmp([]byte(s), []byte(front+strings.Repeat("\xff", 8))) > 0 {
				t.Errorf("%q is above all that begins with %q, and below %q", s, front, behind)
			}
		}
	}
}

// P5.4: the same of any bytes.
func TestBehindOfAnyBytes(t *testing.T) {
	r := rand.New(rand.NewSource(52))
	for range 20000 {
		front, s := string(someBytes(r)), string(someBytes(r))
		if r.Intn(2) == 0 {
			s = front + s
		}
		if r.Intn(4) == 0 {
			front += "\xff\xff"
		}
		behind, _ := names.Behind([]byte(front))
		wantIn(t, s, front, string(behind), strings.HasPrefix(s, front))
		wantIn(t, front, front, string(behind), true)
		wantIn(t, front+"\xff\xff\xff", front, string(behind), true)
	}
}

// P5.2: what Meet tells has just what is in both, with one of their beginnings and one of their ends.
func TestMeetIsWhatIsInBoth(t *testing.T) {
	ends := rising("\x00b\xff", 2)
	all := rising("\x00\x01b\xff", 3)
	some, none := 0, 0
	for _, from := range ends {
		for _, to := range ends {
			for _, from2 := range ends {
				for _, to2 := range ends {
					if meetByEach(t, all, from, to, from2, to2) {
						some++
					} else {
						none++
					}
				}
			}
		}
	}
	if some < 1000 || none < 1000 {
		t.Errorf("%d meet, %d do not", some, none)
	}
}

func meetByEach(t *testing.T, all []string, from, to, from2, to2 string) bool {
	t.Helper()
	in := func(s, from, to string) bool { return s >= from && (to == "" || s < to) }
	both := func(s string) bool { return in(s, from, to) && in(s, from2, to2) }
	if !slices.ContainsFunc(all, both) {
		wantApart(t, from, to, from2, to2)
		return false
	}
	a, b, _ := names.Meet([]byte(from), []byte(to), []byte(from2), []byte(to2))
	for _, s := range all {
		if in(s, string(a), string(b)) != both(s) {
			t.Errorf("%q is in %q up to %q, the meeting of %q %q and %q %q, and not in both, or the other way", s, a, b, from, to, from2, to2)
		}
	}
	end := to
	if to == "" || to2 != "" && to2 < to {
		end = to2
	}
	wantMeet(t, from, to, from2, to2, max(from, from2), end)
	return true
}

// P5.4: Read of Text are the bytes, of any bytes; no two have one text.
func TestReadOfTextAreTheBytes(t *testing.T) {
	r := rand.New(rand.NewSource(53))
	for range 20000 {
		b := string(someBytes(r))
		wantText(t, b, plainText(b))
		wantRead(t, names.Text([]byte(b)), b)
	}
	for _, b := range allOver("\x00 %,;a0\xff", 4) {
		wantText(t, b, plainText(b))
		wantRead(t, names.Text([]byte(b)), b)
	}
}

// P5.3: of texts that were harmed, and of any texts, Read tells what the words say, and what it took is the text again.
func TestHarmedTextsAreAsTheWordsSay(t *testing.T) {
	r := rand.New(rand.NewSource(54))
	some, none := 0, 0
	for i := range 40000 {
		s := plainText(string(someBytes(r)))
		if i%4 > 0 {
			at := r.Intn(len(s))
			s = s[:at] + []string{"", "%", "0", "F", "f", s[at : at+1], string(someBytes(r))}[r.Intn(7)] + s[at+r.Intn(2):]
		}
		b, e := names.Read(s)
		want, ok := plainRead(s)
		if !ok {
			wantNoText(t, s)
			none++
			continue
		}
		wantRead(t, s, want)
		some++
		if e != api.OK || names.Text(b) != s {
			t.Errorf("Text of Read(%.40q) is %.40q", s, names.Text(b))
		}
	}
	if some < 5000 || none < 5000 {
		t.Errorf("%d texts, %d that are none", some, none)
	}
}
