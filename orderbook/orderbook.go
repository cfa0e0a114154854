// Package orderbook: an order book, and an audit of what it tells: see DOC.md.
package orderbook

import (
	"errors"
	"strconv"
)

// Why something is refused: asked with errors.Is.
var (
	ErrConfig = errors.New("a config that may not be")
	ErrKind   = errors.New("no kind of command")
	ErrRange  = errors.New("a number that has no room")
	ErrShort  = errors.New("bytes that end too early")
	ErrFrame  = errors.New("no frame")
	ErrRecord = errors.New("no record")
	ErrGap    = errors.New("a record that is not the next")
	ErrBroken = errors.New("a record that cannot be")
)

// Fault is a reason and where: asked with errors.As (for a *Fault).
type Fault struct {
	At  int
	Err error
}

func (f *Fault) Error() string {
	// A Fault that a caller made may have no reason; its text is not empty all the same.
	if f == nil || f.Err == nil {
		return "a fault without a reason"
	}
	return f.Err.Error() + ", at " + strconv.Itoa(f.At)
}

func (f *Fault) Unwrap() error {
	if f == nil {
		return nil
	}
	return f.Err
}

// Terms is what an order asks (P3).
type Terms struct {
	ID, Side, Type           int
	Price, Qty, Peak, Offset int
	Life, Time               int
}

// Command is what is asked (P3).
type Command struct {
	Kind int
	Terms
}

// Record is what has come about (P5).
type Record struct {
	Kind, Seq, ID, Other, Price, Qty, Reason int
}

// State is how an order stands (P14).
type State struct {
	ID, Status, Price              int
	Open, Filled, Cancelled, Shown int
}

// Config tells sizes (P6).
type Config struct {
	Orders, MaxPrice, MaxQty int
}

// Draw tells numbers, one at a time (P9).
type Draw interface {
	Next() int
}

// Encode tells a command's frame (P3).
func Encode(c Command) (string, error) { return encodeFrame(c) }

// Decode tells the command of the frame that a text begins with, and how many bytes it has (P4).
func Decode(text string) (Command, int, error) { return decodeFrame(text) }

// Records tells the records of a text (P5).
func Records(text string) ([]Record, error) { return readRecords(text) }

// Audit tells how all orders stand by the records of a text (P15).
func Audit(text string) ([]State, error) { return auditRecords(text) }

// Engine is a book and its orders.
type Engine struct {
	config  Config
	draw    Draw
	time    int
	waiting string // the bytes that have come, and are no whole frame yet
	told    stream

	live      roster
	ended     map[int]State
	buy, sell side
	places    int // how many were taken

	worth, traded int // of all trades: prices times quantities, and quantities
}

// New makes an empty book (P6).
func New(c Config, draw Draw) (*Engine, error) { return newEngine(c, draw) }

// Apply carries out the commands of bytes that come, and tells what has come about (P6).
func (e *Engine) Apply(text string) string {
	e.takeBytes(text)
	return e.told.handOut()
}

// Orders tells how all orders stand (P14).
func (e *Engine) Orders() []State { return statesByID(e.live.all(), e.ended) }

// Average tells the average price of all trades (P14).
func (e *Engine) Average() float32 { return e.average() }
