package net_test

import (
	"math/rand"
	"testing"

	"wicket/api"
	"wicket/net"
)

// letter is a thing that is told from all others but its twins.
type letter struct {
	id int
}

// post is a net of letters, how many have gone by which way, and what became of each letter.
type post struct {
	n                    *net.Net[letter]
	next                 int
	taken, lost, notKept int
	copies, takes        map[int]int
}

func newPost() *post {
	return &post{n: net.New[letter](), copies: map[int]int{}, takes: map[int]int{}}
}

func (p *post) send(many int) {
	var l []letter
	for i := range many {
		l = append(l, letter{p.next + i})
	}
	if p.n.Send(l...) != api.OK {
		return
	}
	for _, one := range l {
		p.copies[one.id]++
	}
	p.next += many
}

func (p *post) twin(place int) {
	one, _ := p.n.At(place)
	if p.n.Twin(place) == api.OK {
		p.copies[one.id]++
	}
}

func (p *post) take(place int) {
	if one, e := p.n.Take(place); e == api.OK {
		p.taken++
		p.takes[one.id]++
	}
}

func (p *post) step(r *rand.Rand, twins bool) {
	place := r.Intn(p.n.Len()+3) - 1
	switch kind := r.Intn(10); {
	case kind < 4:
		p.send(r.Intn(4))
	case kind < 6 && twins:
		p.twin(place)
	case kind < 7:
		if p.n.Lose(place) == api.OK {
			p.lost++
		}
	case kind < 8 && r.Intn(4) == 0:
		p.notKept += p.n.Keep(func(letter) bool { return r.Intn(3) > 0 })
	default:
		p.take(place)
	}
}

// P16.4: Sent is how many were taken, lost or not kept, and Len, together.
func TestSentIsWhatHasGoneAndWhatIsOnTheWay(t *testing.T) {
	for _, twins := range []bool{true, false} {
		r := rand.New(rand.NewSource(164))
		for range 200 {
			p := newPost()
			for range 300 {
				p.step(r, twins)
				if got := p.taken + p.lost + p.notKept + p.n.Len(); p.n.Sent() != int64(got) {
					t.Fatalf("Sent is %d, together they are %d", p.n.Sent(), got)
				}
			}
		}
	}
}

// P16.4: what is taken was sent, or is a twin of what was: each letter is taken as often as it was sent at most, and as often
// as that, if none is lost.
func TestTakenWasSent(t *testing.T) {
	r := rand.New(rand.NewSource(165))
	for range 200 {
		p := newPost()
		for range 300 {
			p.step(r, true)
		}
		for id, takes := range p.takes {
			if takes > p.copies[id] {
				t.Errorf("the letter %d was taken %d times, sent %d times", id, takes, p.copies[id])
			}
		}
		calm := newPost()
		calm.send(20)
		for range 20 {
			calm.twin(r.Intn(calm.n.Len()))
		}
		for calm.n.Len() > 0 {
			calm.take(r.Intn(calm.n.Len()))
		}
		for id, many := range calm.copies {
			if calm.takes[id] != many {
				t.Errorf("the letter %d was taken %d times, sent %d times", id, calm.takes[id], many)
			}
		}
	}
}

// P16.4: without Twin each is taken once at most; with it a letter is taken more than once.
func TestTakenOnceWithoutTwin(t *testing.T) {
	r := rand.New(rand.NewSource(166))
	often := map[bool]int{}
	for _, twins := range []bool{false, true} {
		for range 200 {
			p := newPost()
			for range 300 {
				p.step(r, twins)
			}
			for _, takes := range p.takes {
				often[twins] = max(often[twins], takes)
			}
		}
	}
	if often[false] != 1 || often[true] < 2 {
		t.Errorf("without Twin a letter is taken %d times, with it %d times", often[false], often[true])
	}
}
