package snap

import (
	"testing"

	"wicket/api"
	"wicket/dedup"
)

// P12.1: a body of just so many bytes as there may be goes, a longer one is ErrLong, and nothing is told beside it. (Held to
// bounds that are far below MaxBody, to which Put holds it: a machine above that takes gigabytes.)
func TestBodyOfMost(t *testing.T) {
	rows := []api.Named{{Table: "t", Key: []byte("a"), Value: []byte("1")}, {Table: "u", Key: []byte("b")}}
	living := []api.Living{{Id: 1, Token: 5, Kept: []api.Kept{{Number: 1, Answer: []byte("x")}, {Number: 2, Answer: make([]byte, 300)}}}, {Id: 3, Token: 6}}
	q := api.Quota{Rows: 3, Bytes: 9}
	for many := range len(living) + 1 {
		for some := range len(rows) + 1 {
			m, e := dedup.Of(q, 2, rows[:some], 4, living[:many]...)
			if e != api.OK {
				t.Fatal(e)
			}
			whole := writer{api.MaxBody}.body(m, 7)
			for most := -1; most < len(whole)+9; most++ {
				b, e := face(func() []byte { return writer{most}.body(m, 7) })
				if most >= len(whole) && (e != api.OK || string(b) != string(whole)) {
					t.Errorf("at most %d bytes: % x, %v", most, b, e)
				}
				if most < len(whole) && (e != api.ErrLong || b != nil) {
					t.Errorf("at most %d bytes: % x, %v", most, b, e)
				}
			}
		}
	}
}

// A list that is too long is given up by the way: what stands behind is not written.
func TestListGivenUpByTheWay(t *testing.T) {
	for most, want := range map[int]int{-1: 1, 0: 1, 2: 1, 3: 2, 5: 2, 6: 3, 11: 4, 12: 4} {
		written := 0
		l := []string{"abc", "def", "ghi", "jkl"}
		b, e := face(func() []byte {
			return forms(writer{most}, l, func(_ writer, s string) []byte {
				written++
				return []byte(s)
			})
		})
		if written != want || (e == api.OK) != (most >= 12) || e == api.OK && string(b) != "\x04abcdefghijkl" {
			t.Errorf("at most %d bytes: %d written, %q, %v", most, written, b, e)
		}
	}
}

// What is given up is no panic of the caller's; a fault of the package is one.
func TestFace(t *testing.T) {
	if n, e := face(func() int { panic(api.ErrFull) }); n != 0 || e != api.ErrFull {
		t.Errorf("given up: %d, %v", n, e)
	}
	defer func() {
		if recover() == nil {
			t.Error("a fault went by")
		}
	}()
	face(func() int { return []int{}[len(t.Name())] })
}
