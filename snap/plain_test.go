package snap_test

import (
	"bytes"
	"fmt"
	"hash/crc32"
	"math"
	"math/big"
	"strconv"
	"strings"
	"testing"

	"wicket/api"
	"wicket/dedup"
)

const (
	most     = math.MaxInt64
	lastNext = 1 << 62 // the next session's id at its greatest
)

var wide = api.Quota{Rows: api.MaxRows, Bytes: api.MaxSize}

// state is what a snapshot says: what a machine is made of, and how many entries it is of.
type state struct {
	done   int64
	quota  api.Quota
	window int
	next   int64
	rows   []api.Named
	living []api.Living
}

// at is a state with the widest quota.
func at(done int64, window int, next int64, rowsText, livingText string) state {
	return state{done, wide, window, next, rows(rowsText), living(livingText)}
}

// String tells only the beginning of a long one.
func (s state) String() string {
	return fmt.Sprintf("done %d, quota %v, window %d, next %d, rows %.300q, living %.300q", s.done, s.quota, s.window, s.next, fmt.Sprint(s.rows), fmt.Sprint(s.living))
}

// rows reads "t/a=1 u/b=" as the rows a 1 of t and b nothing of u.
func rows(text string) []api.Named {
	var l []api.Named
	for _, word := range strings.Fields(text) {
		table, row, _ := strings.Cut(word, "/")
		key, value, _ := strings.Cut(row, "=")
		l = append(l, api.Named{Table: table, Key: []byte(key), Value: []byte(value)})
	}
	return l
}

// living reads "1/5/0 2=a 3=; 4/6/7" as the session 1, token 5, mark 0, answers for 2 and 3, and the session 4.
func living(text string) []api.Living {
	var l []api.Living
	for _, one := range strings.Split(text, "; ") {
		words := strings.Fields(one)
		if len(words) == 0 {
			continue
		}
		ids := strings.Split(words[0], "/")
		s := api.Living{Id: number(ids[0]), Token: number(ids[1]), Mark: number(ids[2])}
		for _, word := range words[1:] {
			n, answer, _ := strings.Cut(word, "=")
			s.Kept = append(s.Kept, api.Kept{Number: number(n), Answer: []byte(answer)})
		}
		l = append(l, s)
	}
	return l
}

func number(text string) int64 {
	n, err := strconv.ParseInt(text, 10, 64)
	if err != nil {
		panic(err)
	}
	return n
}

// machine is one in that state.
func (s state) machine(t testing.TB) *dedup.Machine {
	t.Helper()
	m, e := dedup.Of(s.quota, s.window, s.rows, s.next, s.living...)
	if e != api.OK {
		t.Fatalf("%v: %v", s, e)
	}
	return m
}

// told is the state that is seen of a machine.
func told(m *dedup.Machine, done int64) state {
	s := state{done: done, quota: m.Quota(), window: m.Window(), next: m.Next()}
	for r := range m.Rows() {
		s.rows = append(s.rows, r)
	}
	for l := range m.All() {
		s.living = append(s.living, l)
	}
	return s
}

// digits is the form of a number as chapter 1 says it, of any number that is not below 0, too great ones too.
func digits(n *big.Int) []byte {
	var b []byte
	for n.Cmp(big.NewInt(128)) >= 0 {
		digit := new(big.Int)
		n, digit = new(big.Int).DivMod(n, big.NewInt(128), digit)
		b = append(b, byte(128+digit.Int64()))
	}
	return append(b, byte(n.Int64()))
}

func natural(n int) []byte {
	return digits(big.NewInt(int64(n)))
}

func signed(n int64) []byte {
	twice := new(big.Int).Mul(big.NewInt(2), big.NewInt(n))
	if n < 0 {
		twice = new(big.Int).Sub(new(big.Int).Neg(twice), big.NewInt(1))
	}
	return digits(twice)
}

func counted(b []byte) []byte {
	return append(natural(len(b)), b...)
}

// parts are the pieces of the body, each a number or bytes, as chapter 12 says them, one behind the other.
func (s state) parts() [][]byte {
	l := [][]byte{signed(s.done), natural(s.quota.Rows), natural(s.quota.Bytes), natural(s.window), signed(s.next)}
	l = append(l, natural(len(s.rows)))
	for _, r := range s.rows {
		l = append(l, counted([]byte(r.Table)), counted(r.Key), counted(r.Value))
	}
	l = append(l, natural(len(s.living)))
	for _, v := range s.living {
		l = append(l, signed(v.Id), signed(v.Token), signed(v.Mark), natural(len(v.Kept)))
		for _, k := range v.Kept {
			l = append(l, signed(k.Number), counted(k.Answer))
		}
	}
	return l
}

// body is the body of the snapshot that says this, whether it may be or not.
func (s state) body() []byte {
	return bytes.Join(s.parts(), nil)
}

func (s state) snapshot() []byte {
	return framed(2, s.body())
}

// framed is the frame as chapter 4 says it.
func framed(kind byte, body []byte) []byte {
	n := len(body)
	front := []byte{kind, byte(n >> 24), byte(n >> 16), byte(n >> 8), byte(n)}
	sum := crc32.New(crc32.MakeTable(crc32.Castagnoli))
	sum.Write(front)
	sum.Write(body)
	return append(sum.Sum(front), body...)
}
