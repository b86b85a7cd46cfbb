package wire

import (
	"errors"
	"testing"

	"tideway/api"
)

// P3.1, P3.4: which number each reason comes to.
func TestReasons(t *testing.T) {
	for why, want := range map[reason]api.Errno{
		badWord: api.ErrArg, badFlags: api.ErrArg, badMss: api.ErrArg, badScale: api.ErrArg,
		strayStamp: api.ErrArg, muchToPut: api.ErrArg, manySacks: api.ErrArg, longOptions: api.ErrArg,
		fewBytes: api.ErrShort, highOffset: api.ErrShort,
		badSum:    api.ErrSum,
		lowOffset: api.ErrWire, noLength: api.ErrWire, lowLength: api.ErrWire, highLength: api.ErrWire,
		wrongLength: api.ErrWire, kindTwice: api.ErrWire, muchData: api.ErrWire,
	} {
		err := caught(func() { must(false, why) })
		if got := number(err); got != want {
			t.Errorf("reason %d comes to %d, want %d", why, got, want)
		}
		if errors.Is(err, errWire) != (want == api.ErrWire) {
			t.Errorf("reason %d wraps %v", why, errors.Unwrap(err))
		}
	}
}

func TestWhatGoesUp(t *testing.T) {
	if err := caught(func() { must(true, badSum) }); err != nil {
		t.Errorf("nothing is wrong, but %v went up", err)
	}
	if got, want := caught(func() { must(false, badSum) }).Error(), "wire: a checksum that is wrong (reason 11)"; got != want {
		t.Errorf("%q went up, want %q", got, want)
	}
	// R1: an error of the language's own does not leave the package, and is not taken for an answer.
	var none []byte
	if e := number(caught(func() { word(none) })); e == api.OK {
		t.Error("what ended too soon is told as well done")
	}
}

// P3.4: what is wrong with an option is found ahead of any harm.
func TestReasonsOfOptions(t *testing.T) {
	for _, c := range []struct {
		options []byte
		want    reason
	}{
		{[]byte{1, 1, 1, 2}, noLength},
		{[]byte{9}, noLength},
		{[]byte{2, 0, 0, 0}, lowLength},
		{[]byte{9, 1, 0, 0}, lowLength},
		{[]byte{1, 2, 4, 0}, highLength},
		{[]byte{9, 255, 0, 0}, highLength},
		{[]byte{2, 3, 0, 0}, wrongLength},
		{[]byte{3, 2, 0, 0}, wrongLength},
		{[]byte{4, 3, 0, 0}, wrongLength},
		{[]byte{8, 4, 0, 0}, wrongLength},
		{[]byte{5, 2, 0, 0}, wrongLength},
		{append([]byte{5, 11}, make([]byte, 9)...), wrongLength},
		{append([]byte{5, 42}, make([]byte, 40)...), wrongLength},
		{[]byte{4, 2, 4, 2}, kindTwice},
	} {
		s := api.Segment{Mss: -1, Scale: -1}
		if err := caught(func() { readOptions(&s, c.options) }); err != error(refusal{c.want}) {
			t.Errorf("options %v: %v, want %v", c.options, err, refusal{c.want})
		}
	}
}
