package snap_test

import (
	"bytes"
	"fmt"
	"math"
	"math/big"
	"strings"
	"testing"

	"wicket/api"
)

// wantWrong: a right frame around a body that says a state that may not be.
func wantWrong(t *testing.T, what string, s state) {
	t.Helper()
	wantNone(t, what, s.snapshot(), s.quota, s.window)
}

// P12.1, P0.6: numbers of entries, quotas, windows and next ids that may not be.
func TestWrongNumbers(t *testing.T) {
	right := at(3, 2, 4, "t/a=1", "1/5/0 1=x")
	wantGot(t, right.snapshot(), right)
	for _, n := range []int64{math.MinInt64, -4, -1} {
		s := right
		s.done = n
		wantWrong(t, "entries", s)
	}
	for _, q := range []api.Quota{{Rows: 0, Bytes: 9}, {Rows: 4097, Bytes: 9}, {Rows: 2 + 1<<32, Bytes: 9}, {Rows: most, Bytes: 9}, {Rows: 9, Bytes: 0}, {Rows: 9, Bytes: 1<<20 + 1}, {Rows: 9, Bytes: 9 + 1<<32}, {Rows: 9, Bytes: most}, {}} {
		for _, text := range []string{"", "t/a=1"} {
			s := right
			s.quota, s.rows = q, rows(text)
			wantWrong(t, "a quota", s)
		}
	}
	for _, window := range []int{0, 65, 2 + 1<<32, most} {
		s := right
		s.window = window
		wantWrong(t, "a window", s)
		s.living = nil
		wantWrong(t, "a window without sessions", s)
	}
	for _, next := range []int64{math.MinInt64, -4, -1, 0, lastNext + 1, most} {
		s := right
		s.next, s.living = next, nil
		wantWrong(t, "a next id", s)
	}
}

// P12.1, P0.6: numbers that no int has, or that would be right ones if they were cut; numbers above all that are read.
func TestGreatNumbers(t *testing.T) {
	s := at(3, 2, 4, "t/a=1", "1/5/0 1=x")
	for place := range s.parts() {
		for _, shift := range []uint{32, 63, 64, 65, 70, 200} {
			for _, more := range []int64{0, 1, 2, 9} {
				l := s.parts()
				n := new(big.Int).Lsh(big.NewInt(1), shift)
				l[place] = digits(n.Add(n, big.NewInt(more)))
				isSigned := place == 0 || place == 4 || place > 9 && place != 13 && place != 15
				if shift <= 63 && isSigned {
					continue // a number that is read there, and may be right
				}
				wantNone(t, fmt.Sprintf("2^%d + %d at the part %d", shift, more, place), framed(2, bytes.Join(l, nil)), s.quota, s.window)
			}
		}
	}
}

// P12.1, P0.6: rows that may not be, stand in another order, or are above the quota.
func TestWrongRows(t *testing.T) {
	for what, l := range map[string][]api.Named{
		"no name":          {{Table: "", Key: []byte("a")}},
		"a long name":      {{Table: strings.Repeat("t", 17), Key: []byte("a")}},
		"another letter":   {{Table: "T", Key: []byte("a")}},
		"a wrong byte":     {{Table: "t\x00", Key: []byte("a")}},
		"no key":           {{Table: "t", Value: []byte("a")}},
		"a long key":       {{Table: "t", Key: make([]byte, 65)}},
		"a long value":     {{Table: "t", Key: []byte("a"), Value: make([]byte, 257)}},
		"falling keys":     rows("t/b=1 t/a=1"),
		"a key twice":      rows("t/a=1 t/a=1"),
		"a key once more":  rows("t/a=1 t/b=1 t/a=2"),
		"falling tables":   rows("u/a=1 t/b=1"),
		"a table in two":   rows("t/a=1 u/a=1 t/b=1"),
		"a shorter behind": rows("t/ab=1 t/a=1"),
		"a fourth row":     rows("t/a=1 t/b=1 t/c=1 t/d=1"),
		"a tenth byte":     rows("t/a=123 t/b=12 t/c=12"),
	} {
		wantWrong(t, what, state{3, api.Quota{Rows: 3, Bytes: 9}, 2, 4, l, nil})
		wantWrong(t, what, state{3, api.Quota{Rows: 3, Bytes: 9}, 2, 4, l, living("1/5/0 1=x")})
	}
	s := at(1, 2, 1, "", "")
	for i := range 4097 {
		s.rows = append(s.rows, api.Named{Table: "t", Key: fmt.Appendf(nil, "%04d", i)})
	}
	wantWrong(t, "4097 rows", s)
}

// P12.1, P0.6: sessions and answers that may not be, or stand in another order.
func TestWrongSessions(t *testing.T) {
	for what, text := range map[string]string{
		"the id 0":              "0/5/0",
		"an id below 0":         "-1/5/0",
		"the next id":           "9/5/0",
		"an id above it":        "10/5/0",
		"an id twice":           "2/5/0; 2/6/0",
		"falling ids":           "3/5/0; 2/6/0",
		"the token 0":           "1/0/0",
		"a token below 0":       "1/-1/0",
		"a token twice":         "1/5/0; 2/5/0",
		"a token twice, apart":  "1/5/0; 2/6/0; 3/5/0",
		"a mark below 0":        "1/5/-1",
		"an answer for 0":       "1/5/0 0=x",
		"an answer below 0":     "1/5/0 -1=x",
		"an answer at the mark": "1/5/3 3=x",
		"an answer below it":    "1/5/3 2=x",
		"an answer ahead":       "1/5/3 6=x",
		"one more ahead":        "1/5/3 4=x 5=y 6=z",
		"an answer far ahead":   fmt.Sprintf("1/5/3 %d=x", most),
		"falling answers":       "1/5/3 5=x 4=x",
		"an answer twice":       "1/5/3 5=x 5=x",
		"a mark at the end":     fmt.Sprintf("1/5/%d %d=x", most, most),
		"a number behind it":    fmt.Sprintf("1/5/%d %d=x", most, math.MinInt64),
	} {
		s := at(3, 2, 9, "t/a=1", text)
		wantWrong(t, what, s)
		s.living = append(living("1/1/0 1=ok"), s.living...)
		for i := range s.living[1:] {
			s.living[1+i].Id++ // but for this they stay as wrong as they were
		}
		if what != "an id below 0" && what != "the id 0" && what != "the next id" && what != "an id above it" {
			wantWrong(t, what+", behind another one", s)
		}
	}
}

// P12.1, P0.6: a list of more sessions, or of more answers, than there may be.
func TestTooManySessions(t *testing.T) {
	s := at(1, 1, 999, "", "")
	for i := range int64(257) {
		s.living = append(s.living, api.Living{Id: i + 1, Token: i + 1})
	}
	wantWrong(t, "257 sessions", s)
	s.living = s.living[:256]
	wantGot(t, s.snapshot(), s)

	s = at(1, 64, 2, "", "1/1/0")
	for n := range int64(65) {
		s.living[0].Kept = append(s.living[0].Kept, api.Kept{Number: n + 1})
	}
	wantWrong(t, "65 answers", s)
	s.living[0].Kept = s.living[0].Kept[:64]
	wantGot(t, s.snapshot(), s)
}

// P12.1, P0.7: another form of a right number, wherever it stands: a nought as its last digit.
func TestAnotherForm(t *testing.T) {
	s := at(3, 2, 4, "t/a=1 u/b=", "1/5/0 1=x; 2/6/7 8=yy 9=")
	b := s.snapshot()
	wantGot(t, b, s)
	for place, part := range s.parts() {
		digit := 0 // the last digit of the number with which the part begins
		for part[digit] >= 128 {
			digit++
		}
		l := s.parts()
		l[place] = append(append(bytes.Clone(part[:digit]), part[digit]+128, 0), part[digit+1:]...)
		wantNone(t, fmt.Sprint("a nought in the part ", place), framed(2, bytes.Join(l, nil)), s.quota, s.window)
	}
}

// P12.1, P0.6: a right frame around a body that ends too early, begins too late, or goes on.
func TestWrongLengths(t *testing.T) {
	s := at(3, 2, 4, "t/a=1 u/b=", "1/5/0 1=x; 2/6/7 8=yy 9=")
	body := s.body()
	for n := range body {
		wantNone(t, fmt.Sprint("the first bytes, ", n), framed(2, body[:n]), s.quota, s.window)
		wantNone(t, fmt.Sprint("the last bytes, without ", n+1), framed(2, body[n+1:]), s.quota, s.window)
	}
	for more := range 256 {
		wantNone(t, fmt.Sprint("behind it ", more), framed(2, append(bytes.Clone(body), byte(more))), s.quota, s.window)
	}
	wantNone(t, "the body twice", framed(2, append(bytes.Clone(body), body...)), s.quota, s.window)
}
