package wire

import (
	"errors"
	"strconv"

	"tideway/api"
)

// What a refusal wraps: one for each number that a call answers.
var (
	errArg   = errors.New("a segment that may not be")
	errShort = errors.New("bytes that end too soon")
	errWire  = errors.New("bytes that are no segment")
	errSum   = errors.New("a checksum that is wrong")
)

// reason is what exactly is wrong.
type reason int

// The reasons.
const (
	badWord     reason = iota // a port, Win or Urg that has no two bytes
	badFlags                  // Flags that have no byte
	badMss                    // an Mss that has no two bytes
	badScale                  // a Scale beyond 14
	strayStamp                // Val or Ecr without Stamped
	muchToPut                 // more data than a segment may have
	manySacks                 // more Sacks than a segment may have
	longOptions               // options for which a header has no room
	fewBytes                  // fewer bytes than a header has
	lowOffset                 // data that would begin within the header
	highOffset                // data that would begin behind the end
	badSum                    // a checksum that is wrong
	noLength                  // an option that ends ahead of its length
	lowLength                 // a length that would not hold itself
	highLength                // a length that reaches beyond the options
	wrongLength               // a length that this kind has not
	kindTwice                 // a second option of a kind
	muchData                  // more data read than a segment may have
)

// refusal is an error that says the reason and wraps what it comes to.
type refusal struct{ why reason }

// Error says what is wrong, and the reason's number.
func (r refusal) Error() string {
	return "wire: " + r.Unwrap().Error() + " (reason " + strconv.Itoa(int(r.why)) + ")"
}

// Unwrap answers what the reason comes to.
func (r refusal) Unwrap() error {
	switch r.why {
	case badWord, badFlags, badMss, badScale, strayStamp, muchToPut, manySacks, longOptions:
		return errArg
	case fewBytes, highOffset:
		return errShort
	case badSum:
		return errSum
	}
	return errWire
}

// must sends a refusal up, if something does not hold.
func must(holds bool, why reason) {
	if !holds {
		panic(refusal{why})
	}
}

// caught does something, and answers what went up from it. All that can go up is an error: a refusal, or one of the
// language's own.
func caught(do func()) (err error) {
	defer func() {
		if up, ok := recover().(error); ok {
			err = up
		}
	}()
	do()
	return nil
}

// number answers an error's number. What is none of those asked for is bytes that are no segment.
func number(err error) api.Errno {
	switch {
	case err == nil:
		return api.OK
	case errors.Is(err, errArg):
		return api.ErrArg
	case errors.Is(err, errShort):
		return api.ErrShort
	case errors.Is(err, errSum):
		return api.ErrSum
	}
	return api.ErrWire
}
