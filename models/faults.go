package models

import (
	"strconv"

	"usher/api"
)

// Fault is what is wrong with a model, or with a tuple that is to be granted by it.
type Fault api.Errno

func (f Fault) Error() string {
	return "error " + strconv.Itoa(int(f))
}

// Place is where something stands in the text of a model, from 0 on.
type Place int

// At tells the place as a number.
func (p Place) At() int { return int(p) }

func (p Place) wrap(err error) error {
	if err == nil {
		return nil
	}
	return Placed{p, err}
}

// Placed is an error, and the place that it came up at.
type Placed struct {
	Place
	Err error
}

func (p Placed) Error() string {
	return p.Err.Error() + " at " + strconv.Itoa(p.At())
}

// Unwrap gives the error without its place.
func (p Placed) Unwrap() error { return p.Err }
