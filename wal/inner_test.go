package wal

import (
	"testing"

	"wicket/api"
)

// A step that the disk refuses is told as its error, with no number beside it; none of the records take no step.
func TestAtOnce(t *testing.T) {
	for _, c := range []struct {
		many    int
		refused api.Errno
		want    int
		e       api.Errno
		steps   int
	}{
		{0, api.OK, 0, api.OK, 0}, {0, api.ErrFull, 0, api.OK, 0}, {1, api.OK, 1, api.OK, 1}, {2, api.OK, 2, api.OK, 1}, {1, api.ErrFull, 0, api.ErrFull, 1}, {2, api.ErrArg, 0, api.ErrArg, 1},
	} {
		steps := 0
		n, e := atOnce(c.many, func(with string) api.Errno {
			steps += len(with)
			return c.refused
		}, "x")
		if n != c.want || e != c.e || steps != c.steps {
			t.Errorf("%+v: %d, %v, %d steps", c, n, e, steps)
		}
	}
}
