package image

import (
	"strings"

	"helm/api"
	"helm/code"
)

// sumSize is how many bytes the sum has.
const sumSize = 4

// Decode reads an image, and tells whether it is one, of which there is the first leaf. What its programs do, it does not ask.
func Decode(bytes string) (Image, bool) {
	body := len(bytes) - sumSize
	if body < 0 || len(bytes) > api.MaxImage || string(sumBytes([]byte(bytes[:body]))) != bytes[body:] {
		return Image{}, false
	}
	r := reader{rest: bytes[:body]}
	im := r.image()
	if r.wrong || r.rest != "" {
		return Image{}, false
	}
	return im, true
}

// reader reads from the left; where bytes are missing, or are too great, it goes on with noughts and keeps in mind that it is wrong.
type reader struct {
	rest  string
	wrong bool
}

func (r *reader) image() Image {
	var im Image
	r.wrong = r.take(len(head)) != head
	for range r.count(api.MaxVars) {
		least := r.number()
		im.Vars = append(im.Vars, Var{Least: least, Greatest: r.number()})
	}
	leaves := r.count(api.MaxModes)
	im.First = r.one()
	if im.First >= leaves {
		r.wrong = true
	}
	for range leaves {
		name := r.take(r.count(api.MaxName))
		program := r.take(r.two())
		im.Leaves = append(im.Leaves, Leaf{Name: strings.Clone(name), Program: []byte(program)})
	}
	return im
}

// take is the next bytes, or none, if there are not so many.
func (r *reader) take(count int) string {
	if count > len(r.rest) {
		r.wrong = true
		return ""
	}
	taken := r.rest[:count]
	r.rest = r.rest[count:]
	return taken
}

func (r *reader) one() int {
	taken := r.take(1)
	if taken == "" {
		return 0
	}
	return int(taken[0])
}

func (r *reader) two() int {
	taken := r.take(2)
	if taken == "" {
		return 0
	}
	return code.Two(taken[0], taken[1])
}

// number is a number of samples.
func (r *reader) number() int {
	return code.Signed(r.two())
}

// count is a count of a byte, if it is not beyond the greatest that is allowed.
func (r *reader) count(most int) int {
	count := r.one()
	if count > most {
		r.wrong = true
		return 0
	}
	return count
}
