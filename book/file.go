package book

import (
	"iter"

	"saccharum/api"
)

// What the check of a record is made with: how often the number of the record counts, and its first byte, and how many checks there are.
const (
	perRecord    = 37
	perFirstByte = 2
	checkCount   = 9941
)

// What a record has, besides its line.
const (
	checkDigits = 4
	sizeDigits  = 2
	sign        = ':'
	headSize    = checkDigits + 1 + sizeDigits + 1
	lineFeed    = '\n'
)

// digits has the digits of a number, with zeros in front.
type digits [checkDigits]byte

// head is what a record has before its line: the digits of the check and of the size of the line, each followed by a sign.
type head struct {
	check      digits
	afterCheck byte
	size       [sizeDigits]byte
	afterSize  byte
}

// digitsOf returns the digits of a number below 10000.
func digitsOf(n int) digits {
	var d digits
	for i := len(d) - 1; i >= 0; i-- {
		d[i] = '0' + byte(n%10)
		n /= 10
	}
	return d
}

// checkOf returns the check of the record of a line with an index.
func checkOf(index int, line string) int {
	sum := perRecord * (index + 1)
	for k, b := range []byte(line) {
		sum += (k + perFirstByte) * int(b)
	}
	return sum % checkCount
}

// headOf returns the head of the record of a line with an index.
func headOf(index int, line string) head {
	h := head{check: digitsOf(checkOf(index, line)), afterCheck: sign, afterSize: sign}
	size := digitsOf(len(line))
	copy(h.size[:], size[checkDigits-sizeDigits:])
	return h
}

// headIn returns the head that is at the beginning of the bytes, which are enough for one; it may be none of a record.
func headIn(b []byte) head {
	h := head{afterCheck: b[checkDigits], afterSize: b[headSize-1]}
	copy(h.check[:], b)
	copy(h.size[:], b[checkDigits+1:])
	return h
}

// lineSize returns the size of the line that a head tells; it may be any number if the head is none of a record.
func (h head) lineSize() int {
	return 10*(int(h.size[0])-'0') + int(h.size[1]) - '0'
}

// recordOf returns the record of a line with an index.
func recordOf(index int, line string) []byte {
	h := headOf(index, line)
	b := make([]byte, headSize+len(line)+1)
	copy(b, h.check[:])
	b[checkDigits] = h.afterCheck
	copy(b[checkDigits+1:], h.size[:])
	b[headSize-1] = h.afterSize
	copy(b[headSize:], line)
	b[len(b)-1] = lineFeed
	return b
}

// fileOf returns the file of the lines.
func fileOf(lines []string) []byte {
	var b []byte
	for index, line := range lines {
		b = append(b, recordOf(index, line)...)
	}
	return b
}

// lineIn returns the line of the record with the index that is at the beginning of the bytes, and whether there is such a record.
func lineIn(b []byte, index int) (line string, isThere bool) {
	if len(b) < headSize {
		return "", false
	}
	h := headIn(b)
	size := h.lineSize()
	end := headSize + size
	if size < 0 || size > api.MaxBookLine || end >= len(b) || b[end] != lineFeed {
		return "", false
	}
	line = string(b[headSize:end])
	return line, h == headOf(index, line)
}

// records yields the lines that can be read from the bytes, each one with the number of bytes to the end of its record.
func records(b []byte) iter.Seq2[string, int] {
	return func(yield func(line string, end int) bool) {
		end := 0
	reading:
		for index := range api.MaxBookSession {
			line, isThere := lineIn(b[end:], index)
			end += headSize + len(line) + 1
			switch {
			case !isThere, !yield(line, end):
				break reading
			}
		}
	}
}
