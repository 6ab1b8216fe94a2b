package helm

import (
	"encoding/binary"
	"hash/crc32"
	"slices"
	"testing"
)

// seenImage is an image as the document lays it out, read by means of the library.
type seenImage struct {
	low, high []int
	first     int
	names     []string
	programs  [][]byte
}

// seeImage reads an image, or tells what is wrong with it.
func seeImage(image string) (seenImage, string) {
	var im seenImage
	wrong := ""
	rest := []byte(image)
	take := func(n int) []byte {
		if n > len(rest) {
			wrong = "ends too early"
			return make([]byte, n)
		}
		head := rest[:n]
		rest = rest[n:]
		return head
	}
	two := func() int { return int(binary.LittleEndian.Uint16(take(2))) }
	if string(take(5)) != "HELM1" {
		return im, "another head"
	}
	for range take(1)[0] {
		im.low = append(im.low, int(int16(two())))
		im.high = append(im.high, int(int16(two())))
	}
	leaves := take(1)[0]
	im.first = int(take(1)[0])
	for range leaves {
		im.names = append(im.names, string(take(int(take(1)[0]))))
		im.programs = append(im.programs, take(two()))
	}
	body := len(image) - len(rest)
	if sum := binary.LittleEndian.Uint32(take(4)); wrong == "" && sum != crc32.ChecksumIEEE([]byte(image[:body])) {
		wrong = "another sum"
	}
	if len(rest) > 0 {
		wrong = "something behind it"
	}
	return im, wrong
}

// widths tells how many bytes belong to each instruction.
var widths = []int{0, 1, 2, 0, 0, 0, 0, 3, 3}

// wrongProgram tells why a program is not right.
func (im seenImage) wrongProgram(program []byte) string {
	const nowhere = -1
	depth := make([]int, len(program)) // at each instruction, nowhere if it is not come to
	isStart := make([]bool, len(program))
	for i := range depth {
		depth[i] = nowhere
	}
	for at := 0; at < len(program); at += 1 + widths[program[at]] {
		isStart[at] = true
		if int(program[at]) >= len(widths) || at+1+widths[program[at]] > len(program) {
			return "an instruction that is none"
		}
	}
	wrong := ""
	come := func(at, count int) {
		switch {
		case at >= len(program) || !isStart[at]:
			wrong = "comes to what is no instruction"
		case depth[at] != nowhere && depth[at] != count:
			wrong = "comes to one with several counts"
		case count > 32:
			wrong = "too many truths"
		default:
			depth[at] = count
		}
	}
	come(0, 0)
	for at := 0; at < len(program) && wrong == ""; at += 1 + widths[program[at]] {
		behind := at + 1 + widths[program[at]]
		takes, puts := []int{0, 0, 1, 2, 2, 1, 0, 0, 0}[program[at]], []int{0, 0, 0, 1, 1, 1, 1, 1, 1}[program[at]]
		if depth[at] == nowhere || depth[at] < takes {
			return "an instruction that is not come to, or with too few"
		}
		left := depth[at] - takes + puts
		switch program[at] {
		case 0:
		case 1:
			if int(program[at+1]) >= len(im.names) {
				return "no such leaf"
			}
		case 2:
			come(behind+int(binary.LittleEndian.Uint16(program[at+1:])), left)
			come(behind, left)
		case 7, 8:
			if int(program[at+1]) >= 2*len(im.low) {
				return "no such number"
			}
			fallthrough
		default:
			come(behind, left)
		}
	}
	return wrong
}

// next runs the program of a leaf.
func (im seenImage) next(leaf string, before, now []int) string {
	numbers := append(slices.Clone(before), now...)
	program := im.programs[slices.Index(im.names, leaf)]
	var truths []bool
	take := func() bool {
		last := truths[len(truths)-1]
		truths = truths[:len(truths)-1]
		return last
	}
	for at := 0; ; {
		instruction, what := program[at], program[at+1:]
		at += 1 + widths[instruction]
		switch instruction {
		case 0:
			return leaf
		case 1:
			return im.names[what[0]]
		case 2:
			if !take() {
				at += int(binary.LittleEndian.Uint16(what))
			}
		case 3:
			one, other := take(), take()
			truths = append(truths, one && other)
		case 4:
			one, other := take(), take()
			truths = append(truths, one || other)
		case 5:
			truths = append(truths, !take())
		case 6:
			truths = append(truths, true)
		case 7:
			truths = append(truths, numbers[what[0]] < int(int16(binary.LittleEndian.Uint16(what[1:]))))
		case 8:
			truths = append(truths, numbers[what[0]] == int(int16(binary.LittleEndian.Uint16(what[1:]))))
		}
	}
}

// wantImage asks whether what was answered is an image of a table: all but what its programs do.
func wantImage(t *testing.T, text string, j *judged, image string) seenImage {
	t.Helper()
	im, wrong := seeImage(image)
	if wrong != "" {
		t.Fatalf("the image of %q: %s: %x", text, wrong, image)
	}
	if !slices.Equal(im.low, j.low) || !slices.Equal(im.high, j.high) {
		t.Fatalf("the image of %q has variables from %v to %v", text, im.low, im.high)
	}
	if leaves := j.leaves(); !slices.Equal(im.names, leaves) || im.first >= len(leaves) || im.names[im.first] != j.enters(j.modes[0].name) {
		t.Fatalf("the image of %q has leaves %q, at first %d", text, im.names, im.first)
	}
	for i, program := range im.programs {
		if wrong := im.wrongProgram(program); wrong != "" {
			t.Fatalf("the image of %q: the program of %s: %s: %x", text, im.names[i], wrong, program)
		}
	}
	return im
}
