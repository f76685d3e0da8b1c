package sign

// What no secret and digest that one knows of leads to is tested by these.
var (
	Nonces = nonces
	First  = first
	By     = by
)
