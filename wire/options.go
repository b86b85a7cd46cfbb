package wire

import "tideway/api"

// The kinds of options that are read and written.
const (
	kindEnd    = 0
	kindPass   = 1
	kindMss    = 2
	kindScale  = 3
	kindSackOk = 4
	kindSacks  = 5
	kindStamp  = 8
)

const blockLen = 8

// Options writes options.
func Options(s api.Segment) []byte {
	var b []byte
	if s.Mss >= 0 {
		b = appendWord(append(b, kindMss, 4), s.Mss)
	}
	if s.Scale >= 0 {
		b = append(b, kindScale, 3, byte(s.Scale))
	}
	if s.SackOk {
		b = append(b, kindSackOk, 2)
	}
	if s.Stamped {
		b = appendLong(appendLong(append(b, kindStamp, 10), s.Val), s.Ecr)
	}
	if len(s.Sacks) > 0 {
		b = append(b, kindSacks, byte(2+blockLen*len(s.Sacks)))
	}
	for _, block := range s.Sacks {
		b = appendLong(appendLong(b, block.From), block.To)
	}
	for len(b)%4 != 0 {
		b = append(b, 0)
	}
	return b
}

// readOptions reads options into a segment that has none yet.
func readOptions(s *api.Segment, left []byte) {
options:
	for len(left) > 0 {
		switch left[0] {
		case kindEnd:
			break options
		case kindPass:
			left = left[1:]
			continue options
		}
		n := optionLen(left)
		readOption(s, left[0], left[2:n])
		left = left[n:]
	}
}

// optionLen answers the length that an option tells of itself.
func optionLen(left []byte) int {
	must(len(left) >= 2, noLength)
	n := int(left[1])
	must(n >= 2, lowLength)
	must(n <= len(left), highLength)
	return n
}

// readOption reads one option: what it holds behind its kind and its length. A segment tells by itself which ones it
// has, so that a second one of a kind is found by what the first one left.
func readOption(s *api.Segment, kind byte, body []byte) {
	switch kind {
	case kindMss:
		once(s.Mss < 0, len(body) == 2)
		s.Mss = word(body)
	case kindScale:
		once(s.Scale < 0, len(body) == 1)
		s.Scale = min(int(body[0]), maxScale)
	case kindSackOk:
		once(!s.SackOk, len(body) == 0)
		s.SackOk = true
	case kindStamp:
		once(!s.Stamped, len(body) == 8)
		s.Stamped, s.Val, s.Ecr = true, long(body), long(body[4:])
	case kindSacks:
		blocks := len(body) / blockLen
		once(len(s.Sacks) == 0, blocks >= 1 && blocks <= api.MaxSacks && len(body)%blockLen == 0)
		s.Sacks = readBlocks(body)
	}
}

// once refuses an option that is not the first of its kind, or not of its kind's length.
func once(first bool, fits bool) {
	must(first, kindTwice)
	must(fits, wrongLength)
}

// readBlocks reads blocks, one behind the other.
func readBlocks(body []byte) []api.Block {
	var blocks []api.Block
	for ; len(body) > 0; body = body[blockLen:] {
		blocks = append(blocks, api.Block{From: long(body), To: long(body[4:])})
	}
	return blocks
}
