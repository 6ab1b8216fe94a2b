package helm

import (
	"encoding/binary"
	"hash/crc32"
	"slices"
	"testing"
)

// seenImage is an image as the document lays it out, read by means of the library.
type seenImage struct {
	low, high []int
	first     int
	names     []string
	programs  [][]byte
}

// seeImage reads an image, or tells what is wrong with it.
func seeImage(image string) (seenImage, string) {
	var im seenImage
	wrong := ""
	rest := []byte(image)
	take := func(n int) []byte {
		if n > len(rest) {
			wrong = "ends too early"
			return make([]byte, n)
		}
		head := rest[:n]
		rest = rest[n:]
		return head
	}
	two := func() int { return int(binary.LittleEndian.Uint16(take(2))) }
	if string(take(5)) != "HELM1" {
		return im, "another head"
	}
	for range take(1)[0] {
		im.low = append(im.low, int(int16(two())))
		im.high = append(im.high, int(int16(two())))
	}
	leaves := take(1)[0]
	im.first = int(take(1)[0])
	for range leaves {
		im.names = append(im.names, string(take(int(take(1)[0]))))
		im.programs = append(im.programs, take(two()))
	}
	body := len(image) - len(rest)
	if sum := binary.LittleEndian.Uint32(take(4)); wrong == "" && sum != crc32.ChecksumIEEE([]byte(image[:body])) {
		wrong = "another sum"
	}
	if len(rest) > 0 {
		wrong = "something behind it"
	}
	return im, wrong
}

// widths tells how many bytes belong to each instruction.
var widths = []int{0, 1, 2, 0, 0, 0, 0, 3, 3}

// come is an instruction that is come to with a count of truths.
type come struct{ at, count int }

// wrongProgram tells why a program is not right: it gathers all that is come to, one by one, and holds it against the document's words then.
func (im seenImage) wrongProgram(program []byte) string {
	starts := map[int]bool{}
	end := 0
	for end < len(program) {
		if int(program[end]) >= len(widths) {
			return "an instruction that is none"
		}
		starts[end] = true
		end += 1 + widths[program[end]]
	}
	if end != len(program) || end == 0 {
		return "does not end with an instruction"
	}
	counts := map[int]int{}
	seen := map[come]bool{}
	work := []come{{0, 0}}
	for len(work) > 0 {
		c := work[0]
		work = work[1:]
		count, known := counts[c.at]
		switch {
		case seen[c]:
			continue
		case !starts[c.at]:
			return "comes to what is no instruction"
		case known && count != c.count:
			return "comes to one with several counts"
		case c.count > 32:
			return "too many truths"
		}
		seen[c] = true
		counts[c.at] = c.count
		more, wrong := im.from(program, c)
		if wrong != "" {
			return wrong
		}
		work = append(work, more...)
	}
	if len(counts) != len(starts) {
		return "an instruction that is not come to"
	}
	return im.wrongNames(program, starts)
}

// from tells what is come to from an instruction.
func (im seenImage) from(program []byte, c come) ([]come, string) {
	instruction := program[c.at]
	behind := c.at + 1 + widths[instruction]
	takes := []int{0, 0, 1, 2, 2, 1, 0, 0, 0}[instruction]
	left := c.count - takes
	if left < 0 {
		return nil, "too few truths"
	}
	switch instruction {
	case 0, 1:
		return nil, ""
	case 2:
		count := int(binary.LittleEndian.Uint16(program[c.at+1:]))
		return []come{{behind, left}, {behind + count, left}}, ""
	}
	return []come{{behind, left + 1}}, ""
}

func (im seenImage) wrongNames(program []byte, starts map[int]bool) string {
	for at := range starts {
		switch program[at] {
		case 1:
			if int(program[at+1]) >= len(im.names) {
				return "no such leaf"
			}
		case 7, 8:
			if int(program[at+1]) >= 2*len(im.low) {
				return "no such number"
			}
		}
	}
	return ""
}

// wrongImage tells why nothing is to be loaded of an image.
func wrongImage(image string) (seenImage, string) {
	im, wrong := seeImage(image)
	if wrong != "" {
		return im, wrong
	}
	if len(image) > 60000 || len(im.low) > 3 || len(im.names) > 12 || slices.ContainsFunc(im.names, func(name string) bool { return len(name) > 8 }) {
		return im, "beyond a limit"
	}
	if im.first >= len(im.names) {
		return im, "no such first leaf"
	}
	for _, program := range im.programs {
		if wrong := im.wrongProgram(program); wrong != "" {
			return im, wrong
		}
	}
	return im, ""
}

// lay lays an image out.
func (im seenImage) lay() string {
	body := append([]byte("HELM1"), byte(len(im.low)))
	for i := range im.low {
		body, _ = binary.Append(body, binary.LittleEndian, []int16{int16(im.low[i]), int16(im.high[i])})
	}
	body = append(body, byte(len(im.names)), byte(im.first))
	for i, name := range im.names {
		body = append(append(body, byte(len(name))), name...)
		body = binary.LittleEndian.AppendUint16(body, uint16(len(im.programs[i])))
		body = append(body, im.programs[i]...)
	}
	return summed(string(body))
}

// next runs the program of a leaf, in an image whose names are not the same.
func (im seenImage) next(leaf string, before, now []int) string {
	return im.names[im.nextNumber(slices.Index(im.names, leaf), before, now)]
}

// nextNumber runs the program of a leaf.
func (im seenImage) nextNumber(leaf int, before, now []int) int {
	numbers := append(slices.Clone(before), now...)
	program := im.programs[leaf]
	var truths []bool
	take := func() bool {
		last := truths[len(truths)-1]
		truths = truths[:len(truths)-1]
		return last
	}
	for at := 0; ; {
		instruction, what := program[at], program[at+1:]
		at += 1 + widths[instruction]
		switch instruction {
		case 0:
			return leaf
		case 1:
			return int(what[0])
		case 2:
			if !take() {
				at += int(binary.LittleEndian.Uint16(what))
			}
		case 3:
			one, other := take(), take()
			truths = append(truths, one && other)
		case 4:
			one, other := take(), take()
			truths = append(truths, one || other)
		case 5:
			truths = append(truths, !take())
		case 6:
			truths = append(truths, true)
		case 7:
			truths = append(truths, numbers[what[0]] < int(int16(binary.LittleEndian.Uint16(what[1:]))))
		case 8:
			truths = append(truths, numbers[what[0]] == int(int16(binary.LittleEndian.Uint16(what[1:]))))
		}
	}
}

// wantImage asks whether what was answered is an image of a table: all but what its programs do.
func wantImage(t *testing.T, text string, j *judged, image string) seenImage {
	t.Helper()
	im, wrong := seeImage(image)
	if wrong != "" {
		t.Fatalf("the image of %q: %s: %x", text, wrong, image)
	}
	if !slices.Equal(im.low, j.low) || !slices.Equal(im.high, j.high) {
		t.Fatalf("the image of %q has variables from %v to %v", text, im.low, im.high)
	}
	if leaves := j.leaves(); !slices.Equal(im.names, leaves) || im.first >= len(leaves) || im.names[im.first] != j.enters(j.modes[0].name) {
		t.Fatalf("the image of %q has leaves %q, at first %d", text, im.names, im.first)
	}
	for i, program := range im.programs {
		if wrong := im.wrongProgram(program); wrong != "" {
			t.Fatalf("the image of %q: the program of %s: %s: %x", text, im.names[i], wrong, program)
		}
	}
	return im
}
