/-
  The reference: a round, its third loop.
-/
import Derived.Test.YtddhadddpllbcaaDoorProg
import Derived.Test.YtddhadddpllbcaaDoorStr
import Derived.Test.YtddhadddpllbcaaDoorKecM
import Derived.Test.YtddhadddpllbcaaDoorKecV
namespace Go.Proofs.YtddhadddpllbcaaDoor
open Go Go.RowKit Go.Proofs.Kec
set_option linter.unusedVariables false
abbrev cS0 (s : List (BitVec 64)) : Value := .agg #[wv (nth s 0), .int .u64 0, .int .u64 0, .int .u64 0, .int .u64 0]
abbrev cS1 (s : List (BitVec 64)) : Value := .agg #[wv ((nth s 0) ^^^ (nth s 5)), .int .u64 0, .int .u64 0, .int .u64 0, .int .u64 0]
abbrev cS2 (s : List (BitVec 64)) : Value := .agg #[wv (((nth s 0) ^^^ (nth s 5)) ^^^ (nth s 10)), .int .u64 0, .int .u64 0, .int .u64 0, .int .u64 0]
abbrev cS3 (s : List (BitVec 64)) : Value := .agg #[wv ((((nth s 0) ^^^ (nth s 5)) ^^^ (nth s 10)) ^^^ (nth s 15)), .int .u64 0, .int .u64 0, .int .u64 0, .int .u64 0]
abbrev cS4 (s : List (BitVec 64)) : Value := .agg #[wv (cC s 0), .int .u64 0, .int .u64 0, .int .u64 0, .int .u64 0]
abbrev cS5 (s : List (BitVec 64)) : Value := .agg #[wv (cC s 0), wv (nth s 1), .int .u64 0, .int .u64 0, .int .u64 0]
abbrev cS6 (s : List (BitVec 64)) : Value := .agg #[wv (cC s 0), wv ((nth s 1) ^^^ (nth s 6)), .int .u64 0, .int .u64 0, .int .u64 0]
abbrev cS7 (s : List (BitVec 64)) : Value := .agg #[wv (cC s 0), wv (((nth s 1) ^^^ (nth s 6)) ^^^ (nth s 11)), .int .u64 0, .int .u64 0, .int .u64 0]
abbrev cS8 (s : List (BitVec 64)) : Value := .agg #[wv (cC s 0), wv ((((nth s 1) ^^^ (nth s 6)) ^^^ (nth s 11)) ^^^ (nth s 16)), .int .u64 0, .int .u64 0, .int .u64 0]
abbrev cS9 (s : List (BitVec 64)) : Value := .agg #[wv (cC s 0), wv (cC s 1), .int .u64 0, .int .u64 0, .int .u64 0]
abbrev cS10 (s : List (BitVec 64)) : Value := .agg #[wv (cC s 0), wv (cC s 1), wv (nth s 2), .int .u64 0, .int .u64 0]
abbrev cS11 (s : List (BitVec 64)) : Value := .agg #[wv (cC s 0), wv (cC s 1), wv ((nth s 2) ^^^ (nth s 7)), .int .u64 0, .int .u64 0]
abbrev cS12 (s : List (BitVec 64)) : Value := .agg #[wv (cC s 0), wv (cC s 1), wv (((nth s 2) ^^^ (nth s 7)) ^^^ (nth s 12)), .int .u64 0, .int .u64 0]
abbrev cS13 (s : List (BitVec 64)) : Value := .agg #[wv (cC s 0), wv (cC s 1), wv ((((nth s 2) ^^^ (nth s 7)) ^^^ (nth s 12)) ^^^ (nth s 17)), .int .u64 0, .int .u64 0]
abbrev cS14 (s : List (BitVec 64)) : Value := .agg #[wv (cC s 0), wv (cC s 1), wv (cC s 2), .int .u64 0, .int .u64 0]
abbrev cS15 (s : List (BitVec 64)) : Value := .agg #[wv (cC s 0), wv (cC s 1), wv (cC s 2), wv (nth s 3), .int .u64 0]
abbrev cS16 (s : List (BitVec 64)) : Value := .agg #[wv (cC s 0), wv (cC s 1), wv (cC s 2), wv ((nth s 3) ^^^ (nth s 8)), .int .u64 0]
abbrev cS17 (s : List (BitVec 64)) : Value := .agg #[wv (cC s 0), wv (cC s 1), wv (cC s 2), wv (((nth s 3) ^^^ (nth s 8)) ^^^ (nth s 13)), .int .u64 0]
abbrev cS18 (s : List (BitVec 64)) : Value := .agg #[wv (cC s 0), wv (cC s 1), wv (cC s 2), wv ((((nth s 3) ^^^ (nth s 8)) ^^^ (nth s 13)) ^^^ (nth s 18)), .int .u64 0]
abbrev cS19 (s : List (BitVec 64)) : Value := .agg #[wv (cC s 0), wv (cC s 1), wv (cC s 2), wv (cC s 3), .int .u64 0]
abbrev cS20 (s : List (BitVec 64)) : Value := .agg #[wv (cC s 0), wv (cC s 1), wv (cC s 2), wv (cC s 3), wv (nth s 4)]
abbrev cS21 (s : List (BitVec 64)) : Value := .agg #[wv (cC s 0), wv (cC s 1), wv (cC s 2), wv (cC s 3), wv ((nth s 4) ^^^ (nth s 9))]
abbrev cS22 (s : List (BitVec 64)) : Value := .agg #[wv (cC s 0), wv (cC s 1), wv (cC s 2), wv (cC s 3), wv (((nth s 4) ^^^ (nth s 9)) ^^^ (nth s 14))]
abbrev cS23 (s : List (BitVec 64)) : Value := .agg #[wv (cC s 0), wv (cC s 1), wv (cC s 2), wv (cC s 3), wv ((((nth s 4) ^^^ (nth s 9)) ^^^ (nth s 14)) ^^^ (nth s 19))]
abbrev cS24 (s : List (BitVec 64)) : Value := .agg #[wv (cC s 0), wv (cC s 1), wv (cC s 2), wv (cC s 3), wv (cC s 4)]
abbrev bS0 (s : List (BitVec 64)) : Value := .agg #[wv (pI s 0), .int .u64 0, .int .u64 0, .int .u64 0, .int .u64 0, .int .u64 0, .int .u64 0, .int .u64 0, .int .u64 0, .int .u64 0, .int .u64 0, .int .u64 0, .int .u64 0, .int .u64 0, .int .u64 0, .int .u64 0, .int .u64 0, .int .u64 0, .int .u64 0, .int .u64 0, .int .u64 0, .int .u64 0, .int .u64 0, .int .u64 0, .int .u64 0]
abbrev bS1 (s : List (BitVec 64)) : Value := .agg #[wv (pI s 0), .int .u64 0, .int .u64 0, .int .u64 0, .int .u64 0, .int .u64 0, .int .u64 0, .int .u64 0, .int .u64 0, .int .u64 0, .int .u64 0, .int .u64 0, .int .u64 0, .int .u64 0, .int .u64 0, .int .u64 0, wv (pI s 16), .int .u64 0, .int .u64 0, .int .u64 0, .int .u64 0, .int .u64 0, .int .u64 0, .int .u64 0, .int .u64 0]
abbrev bS2 (s : List (BitVec 64)) : Value := .agg #[wv (pI s 0), .int .u64 0, .int .u64 0, .int .u64 0, .int .u64 0, .int .u64 0, .int .u64 0, wv (pI s 7), .int .u64 0, .int .u64 0, .int .u64 0, .int .u64 0, .int .u64 0, .int .u64 0, .int .u64 0, .int .u64 0, wv (pI s 16), .int .u64 0, .int .u64 0, .int .u64 0, .int .u64 0, .int .u64 0, .int .u64 0, .int .u64 0, .int .u64 0]
abbrev bS3 (s : List (BitVec 64)) : Value := .agg #[wv (pI s 0), .int .u64 0, .int .u64 0, .int .u64 0, .int .u64 0, .int .u64 0, .int .u64 0, wv (pI s 7), .int .u64 0, .int .u64 0, .int .u64 0, .int .u64 0, .int .u64 0, .int .u64 0, .int .u64 0, .int .u64 0, wv (pI s 16), .int .u64 0, .int .u64 0, .int .u64 0, .int .u64 0, .int .u64 0, .int .u64 0, wv (pI s 23), .int .u64 0]
abbrev bS4 (s : List (BitVec 64)) : Value := .agg #[wv (pI s 0), .int .u64 0, .int .u64 0, .int .u64 0, .int .u64 0, .int .u64 0, .int .u64 0, wv (pI s 7), .int .u64 0, .int .u64 0, .int .u64 0, .int .u64 0, .int .u64 0, .int .u64 0, wv (pI s 14), .int .u64 0, wv (pI s 16), .int .u64 0, .int .u64 0, .int .u64 0, .int .u64 0, .int .u64 0, .int .u64 0, wv (pI s 23), .int .u64 0]
abbrev bS5 (s : List (BitVec 64)) : Value := .agg #[wv (pI s 0), .int .u64 0, .int .u64 0, .int .u64 0, .int .u64 0, .int .u64 0, .int .u64 0, wv (pI s 7), .int .u64 0, .int .u64 0, wv (pI s 10), .int .u64 0, .int .u64 0, .int .u64 0, wv (pI s 14), .int .u64 0, wv (pI s 16), .int .u64 0, .int .u64 0, .int .u64 0, .int .u64 0, .int .u64 0, .int .u64 0, wv (pI s 23), .int .u64 0]
abbrev bS6 (s : List (BitVec 64)) : Value := .agg #[wv (pI s 0), wv (pI s 1), .int .u64 0, .int .u64 0, .int .u64 0, .int .u64 0, .int .u64 0, wv (pI s 7), .int .u64 0, .int .u64 0, wv (pI s 10), .int .u64 0, .int .u64 0, .int .u64 0, wv (pI s 14), .int .u64 0, wv (pI s 16), .int .u64 0, .int .u64 0, .int .u64 0, .int .u64 0, .int .u64 0, .int .u64 0, wv (pI s 23), .int .u64 0]
abbrev bS7 (s : List (BitVec 64)) : Value := .agg #[wv (pI s 0), wv (pI s 1), .int .u64 0, .int .u64 0, .int .u64 0, .int .u64 0, .int .u64 0, wv (pI s 7), .int .u64 0, .int .u64 0, wv (pI s 10), .int .u64 0, .int .u64 0, .int .u64 0, wv (pI s 14), .int .u64 0, wv (pI s 16), wv (pI s 17), .int .u64 0, .int .u64 0, .int .u64 0, .int .u64 0, .int .u64 0, wv (pI s 23), .int .u64 0]
abbrev bS8 (s : List (BitVec 64)) : Value := .agg #[wv (pI s 0), wv (pI s 1), .int .u64 0, .int .u64 0, .int .u64 0, .int .u64 0, .int .u64 0, wv (pI s 7), wv (pI s 8), .int .u64 0, wv (pI s 10), .int .u64 0, .int .u64 0, .int .u64 0, wv (pI s 14), .int .u64 0, wv (pI s 16), wv (pI s 17), .int .u64 0, .int .u64 0, .int .u64 0, .int .u64 0, .int .u64 0, wv (pI s 23), .int .u64 0]
abbrev bS9 (s : List (BitVec 64)) : Value := .agg #[wv (pI s 0), wv (pI s 1), .int .u64 0, .int .u64 0, .int .u64 0, .int .u64 0, .int .u64 0, wv (pI s 7), wv (pI s 8), .int .u64 0, wv (pI s 10), .int .u64 0, .int .u64 0, .int .u64 0, wv (pI s 14), .int .u64 0, wv (pI s 16), wv (pI s 17), .int .u64 0, .int .u64 0, .int .u64 0, .int .u64 0, .int .u64 0, wv (pI s 23), wv (pI s 24)]
abbrev bS10 (s : List (BitVec 64)) : Value := .agg #[wv (pI s 0), wv (pI s 1), .int .u64 0, .int .u64 0, .int .u64 0, .int .u64 0, .int .u64 0, wv (pI s 7), wv (pI s 8), .int .u64 0, wv (pI s 10), .int .u64 0, .int .u64 0, .int .u64 0, wv (pI s 14), .int .u64 0, wv (pI s 16), wv (pI s 17), .int .u64 0, .int .u64 0, wv (pI s 20), .int .u64 0, .int .u64 0, wv (pI s 23), wv (pI s 24)]
abbrev bS11 (s : List (BitVec 64)) : Value := .agg #[wv (pI s 0), wv (pI s 1), .int .u64 0, .int .u64 0, .int .u64 0, .int .u64 0, .int .u64 0, wv (pI s 7), wv (pI s 8), .int .u64 0, wv (pI s 10), wv (pI s 11), .int .u64 0, .int .u64 0, wv (pI s 14), .int .u64 0, wv (pI s 16), wv (pI s 17), .int .u64 0, .int .u64 0, wv (pI s 20), .int .u64 0, .int .u64 0, wv (pI s 23), wv (pI s 24)]
abbrev bS12 (s : List (BitVec 64)) : Value := .agg #[wv (pI s 0), wv (pI s 1), wv (pI s 2), .int .u64 0, .int .u64 0, .int .u64 0, .int .u64 0, wv (pI s 7), wv (pI s 8), .int .u64 0, wv (pI s 10), wv (pI s 11), .int .u64 0, .int .u64 0, wv (pI s 14), .int .u64 0, wv (pI s 16), wv (pI s 17), .int .u64 0, .int .u64 0, wv (pI s 20), .int .u64 0, .int .u64 0, wv (pI s 23), wv (pI s 24)]
abbrev bS13 (s : List (BitVec 64)) : Value := .agg #[wv (pI s 0), wv (pI s 1), wv (pI s 2), .int .u64 0, .int .u64 0, .int .u64 0, .int .u64 0, wv (pI s 7), wv (pI s 8), .int .u64 0, wv (pI s 10), wv (pI s 11), .int .u64 0, .int .u64 0, wv (pI s 14), .int .u64 0, wv (pI s 16), wv (pI s 17), wv (pI s 18), .int .u64 0, wv (pI s 20), .int .u64 0, .int .u64 0, wv (pI s 23), wv (pI s 24)]
abbrev bS14 (s : List (BitVec 64)) : Value := .agg #[wv (pI s 0), wv (pI s 1), wv (pI s 2), .int .u64 0, .int .u64 0, .int .u64 0, .int .u64 0, wv (pI s 7), wv (pI s 8), wv (pI s 9), wv (pI s 10), wv (pI s 11), .int .u64 0, .int .u64 0, wv (pI s 14), .int .u64 0, wv (pI s 16), wv (pI s 17), wv (pI s 18), .int .u64 0, wv (pI s 20), .int .u64 0, .int .u64 0, wv (pI s 23), wv (pI s 24)]
abbrev bS15 (s : List (BitVec 64)) : Value := .agg #[wv (pI s 0), wv (pI s 1), wv (pI s 2), .int .u64 0, .int .u64 0, wv (pI s 5), .int .u64 0, wv (pI s 7), wv (pI s 8), wv (pI s 9), wv (pI s 10), wv (pI s 11), .int .u64 0, .int .u64 0, wv (pI s 14), .int .u64 0, wv (pI s 16), wv (pI s 17), wv (pI s 18), .int .u64 0, wv (pI s 20), .int .u64 0, .int .u64 0, wv (pI s 23), wv (pI s 24)]
abbrev bS16 (s : List (BitVec 64)) : Value := .agg #[wv (pI s 0), wv (pI s 1), wv (pI s 2), .int .u64 0, .int .u64 0, wv (pI s 5), .int .u64 0, wv (pI s 7), wv (pI s 8), wv (pI s 9), wv (pI s 10), wv (pI s 11), .int .u64 0, .int .u64 0, wv (pI s 14), .int .u64 0, wv (pI s 16), wv (pI s 17), wv (pI s 18), .int .u64 0, wv (pI s 20), wv (pI s 21), .int .u64 0, wv (pI s 23), wv (pI s 24)]
abbrev bS17 (s : List (BitVec 64)) : Value := .agg #[wv (pI s 0), wv (pI s 1), wv (pI s 2), .int .u64 0, .int .u64 0, wv (pI s 5), .int .u64 0, wv (pI s 7), wv (pI s 8), wv (pI s 9), wv (pI s 10), wv (pI s 11), wv (pI s 12), .int .u64 0, wv (pI s 14), .int .u64 0, wv (pI s 16), wv (pI s 17), wv (pI s 18), .int .u64 0, wv (pI s 20), wv (pI s 21), .int .u64 0, wv (pI s 23), wv (pI s 24)]
abbrev bS18 (s : List (BitVec 64)) : Value := .agg #[wv (pI s 0), wv (pI s 1), wv (pI s 2), wv (pI s 3), .int .u64 0, wv (pI s 5), .int .u64 0, wv (pI s 7), wv (pI s 8), wv (pI s 9), wv (pI s 10), wv (pI s 11), wv (pI s 12), .int .u64 0, wv (pI s 14), .int .u64 0, wv (pI s 16), wv (pI s 17), wv (pI s 18), .int .u64 0, wv (pI s 20), wv (pI s 21), .int .u64 0, wv (pI s 23), wv (pI s 24)]
abbrev bS19 (s : List (BitVec 64)) : Value := .agg #[wv (pI s 0), wv (pI s 1), wv (pI s 2), wv (pI s 3), .int .u64 0, wv (pI s 5), .int .u64 0, wv (pI s 7), wv (pI s 8), wv (pI s 9), wv (pI s 10), wv (pI s 11), wv (pI s 12), .int .u64 0, wv (pI s 14), .int .u64 0, wv (pI s 16), wv (pI s 17), wv (pI s 18), wv (pI s 19), wv (pI s 20), wv (pI s 21), .int .u64 0, wv (pI s 23), wv (pI s 24)]
abbrev bS20 (s : List (BitVec 64)) : Value := .agg #[wv (pI s 0), wv (pI s 1), wv (pI s 2), wv (pI s 3), .int .u64 0, wv (pI s 5), .int .u64 0, wv (pI s 7), wv (pI s 8), wv (pI s 9), wv (pI s 10), wv (pI s 11), wv (pI s 12), .int .u64 0, wv (pI s 14), wv (pI s 15), wv (pI s 16), wv (pI s 17), wv (pI s 18), wv (pI s 19), wv (pI s 20), wv (pI s 21), .int .u64 0, wv (pI s 23), wv (pI s 24)]
abbrev bS21 (s : List (BitVec 64)) : Value := .agg #[wv (pI s 0), wv (pI s 1), wv (pI s 2), wv (pI s 3), .int .u64 0, wv (pI s 5), wv (pI s 6), wv (pI s 7), wv (pI s 8), wv (pI s 9), wv (pI s 10), wv (pI s 11), wv (pI s 12), .int .u64 0, wv (pI s 14), wv (pI s 15), wv (pI s 16), wv (pI s 17), wv (pI s 18), wv (pI s 19), wv (pI s 20), wv (pI s 21), .int .u64 0, wv (pI s 23), wv (pI s 24)]
abbrev bS22 (s : List (BitVec 64)) : Value := .agg #[wv (pI s 0), wv (pI s 1), wv (pI s 2), wv (pI s 3), .int .u64 0, wv (pI s 5), wv (pI s 6), wv (pI s 7), wv (pI s 8), wv (pI s 9), wv (pI s 10), wv (pI s 11), wv (pI s 12), .int .u64 0, wv (pI s 14), wv (pI s 15), wv (pI s 16), wv (pI s 17), wv (pI s 18), wv (pI s 19), wv (pI s 20), wv (pI s 21), wv (pI s 22), wv (pI s 23), wv (pI s 24)]
abbrev bS23 (s : List (BitVec 64)) : Value := .agg #[wv (pI s 0), wv (pI s 1), wv (pI s 2), wv (pI s 3), .int .u64 0, wv (pI s 5), wv (pI s 6), wv (pI s 7), wv (pI s 8), wv (pI s 9), wv (pI s 10), wv (pI s 11), wv (pI s 12), wv (pI s 13), wv (pI s 14), wv (pI s 15), wv (pI s 16), wv (pI s 17), wv (pI s 18), wv (pI s 19), wv (pI s 20), wv (pI s 21), wv (pI s 22), wv (pI s 23), wv (pI s 24)]
abbrev bS24 (s : List (BitVec 64)) : Value := .agg #[wv (pI s 0), wv (pI s 1), wv (pI s 2), wv (pI s 3), wv (pI s 4), wv (pI s 5), wv (pI s 6), wv (pI s 7), wv (pI s 8), wv (pI s 9), wv (pI s 10), wv (pI s 11), wv (pI s 12), wv (pI s 13), wv (pI s 14), wv (pI s 15), wv (pI s 16), wv (pI s 17), wv (pI s 18), wv (pI s 19), wv (pI s 20), wv (pI s 21), wv (pI s 22), wv (pI s 23), wv (pI s 24)]
abbrev oS0 (s : List (BitVec 64)) : Value := .agg #[wv (xI (pI s) 0), .int .u64 0, .int .u64 0, .int .u64 0, .int .u64 0, .int .u64 0, .int .u64 0, .int .u64 0, .int .u64 0, .int .u64 0, .int .u64 0, .int .u64 0, .int .u64 0, .int .u64 0, .int .u64 0, .int .u64 0, .int .u64 0, .int .u64 0, .int .u64 0, .int .u64 0, .int .u64 0, .int .u64 0, .int .u64 0, .int .u64 0, .int .u64 0]
abbrev oS1 (s : List (BitVec 64)) : Value := .agg #[wv (xI (pI s) 0), .int .u64 0, .int .u64 0, .int .u64 0, .int .u64 0, wv (xI (pI s) 5), .int .u64 0, .int .u64 0, .int .u64 0, .int .u64 0, .int .u64 0, .int .u64 0, .int .u64 0, .int .u64 0, .int .u64 0, .int .u64 0, .int .u64 0, .int .u64 0, .int .u64 0, .int .u64 0, .int .u64 0, .int .u64 0, .int .u64 0, .int .u64 0, .int .u64 0]
abbrev oS2 (s : List (BitVec 64)) : Value := .agg #[wv (xI (pI s) 0), .int .u64 0, .int .u64 0, .int .u64 0, .int .u64 0, wv (xI (pI s) 5), .int .u64 0, .int .u64 0, .int .u64 0, .int .u64 0, wv (xI (pI s) 10), .int .u64 0, .int .u64 0, .int .u64 0, .int .u64 0, .int .u64 0, .int .u64 0, .int .u64 0, .int .u64 0, .int .u64 0, .int .u64 0, .int .u64 0, .int .u64 0, .int .u64 0, .int .u64 0]
abbrev oS3 (s : List (BitVec 64)) : Value := .agg #[wv (xI (pI s) 0), .int .u64 0, .int .u64 0, .int .u64 0, .int .u64 0, wv (xI (pI s) 5), .int .u64 0, .int .u64 0, .int .u64 0, .int .u64 0, wv (xI (pI s) 10), .int .u64 0, .int .u64 0, .int .u64 0, .int .u64 0, wv (xI (pI s) 15), .int .u64 0, .int .u64 0, .int .u64 0, .int .u64 0, .int .u64 0, .int .u64 0, .int .u64 0, .int .u64 0, .int .u64 0]
abbrev oS4 (s : List (BitVec 64)) : Value := .agg #[wv (xI (pI s) 0), .int .u64 0, .int .u64 0, .int .u64 0, .int .u64 0, wv (xI (pI s) 5), .int .u64 0, .int .u64 0, .int .u64 0, .int .u64 0, wv (xI (pI s) 10), .int .u64 0, .int .u64 0, .int .u64 0, .int .u64 0, wv (xI (pI s) 15), .int .u64 0, .int .u64 0, .int .u64 0, .int .u64 0, wv (xI (pI s) 20), .int .u64 0, .int .u64 0, .int .u64 0, .int .u64 0]
abbrev oS5 (s : List (BitVec 64)) : Value := .agg #[wv (xI (pI s) 0), wv (xI (pI s) 1), .int .u64 0, .int .u64 0, .int .u64 0, wv (xI (pI s) 5), .int .u64 0, .int .u64 0, .int .u64 0, .int .u64 0, wv (xI (pI s) 10), .int .u64 0, .int .u64 0, .int .u64 0, .int .u64 0, wv (xI (pI s) 15), .int .u64 0, .int .u64 0, .int .u64 0, .int .u64 0, wv (xI (pI s) 20), .int .u64 0, .int .u64 0, .int .u64 0, .int .u64 0]
abbrev oS6 (s : List (BitVec 64)) : Value := .agg #[wv (xI (pI s) 0), wv (xI (pI s) 1), .int .u64 0, .int .u64 0, .int .u64 0, wv (xI (pI s) 5), wv (xI (pI s) 6), .int .u64 0, .int .u64 0, .int .u64 0, wv (xI (pI s) 10), .int .u64 0, .int .u64 0, .int .u64 0, .int .u64 0, wv (xI (pI s) 15), .int .u64 0, .int .u64 0, .int .u64 0, .int .u64 0, wv (xI (pI s) 20), .int .u64 0, .int .u64 0, .int .u64 0, .int .u64 0]
abbrev oS7 (s : List (BitVec 64)) : Value := .agg #[wv (xI (pI s) 0), wv (xI (pI s) 1), .int .u64 0, .int .u64 0, .int .u64 0, wv (xI (pI s) 5), wv (xI (pI s) 6), .int .u64 0, .int .u64 0, .int .u64 0, wv (xI (pI s) 10), wv (xI (pI s) 11), .int .u64 0, .int .u64 0, .int .u64 0, wv (xI (pI s) 15), .int .u64 0, .int .u64 0, .int .u64 0, .int .u64 0, wv (xI (pI s) 20), .int .u64 0, .int .u64 0, .int .u64 0, .int .u64 0]
abbrev oS8 (s : List (BitVec 64)) : Value := .agg #[wv (xI (pI s) 0), wv (xI (pI s) 1), .int .u64 0, .int .u64 0, .int .u64 0, wv (xI (pI s) 5), wv (xI (pI s) 6), .int .u64 0, .int .u64 0, .int .u64 0, wv (xI (pI s) 10), wv (xI (pI s) 11), .int .u64 0, .int .u64 0, .int .u64 0, wv (xI (pI s) 15), wv (xI (pI s) 16), .int .u64 0, .int .u64 0, .int .u64 0, wv (xI (pI s) 20), .int .u64 0, .int .u64 0, .int .u64 0, .int .u64 0]
abbrev oS9 (s : List (BitVec 64)) : Value := .agg #[wv (xI (pI s) 0), wv (xI (pI s) 1), .int .u64 0, .int .u64 0, .int .u64 0, wv (xI (pI s) 5), wv (xI (pI s) 6), .int .u64 0, .int .u64 0, .int .u64 0, wv (xI (pI s) 10), wv (xI (pI s) 11), .int .u64 0, .int .u64 0, .int .u64 0, wv (xI (pI s) 15), wv (xI (pI s) 16), .int .u64 0, .int .u64 0, .int .u64 0, wv (xI (pI s) 20), wv (xI (pI s) 21), .int .u64 0, .int .u64 0, .int .u64 0]
abbrev oS10 (s : List (BitVec 64)) : Value := .agg #[wv (xI (pI s) 0), wv (xI (pI s) 1), wv (xI (pI s) 2), .int .u64 0, .int .u64 0, wv (xI (pI s) 5), wv (xI (pI s) 6), .int .u64 0, .int .u64 0, .int .u64 0, wv (xI (pI s) 10), wv (xI (pI s) 11), .int .u64 0, .int .u64 0, .int .u64 0, wv (xI (pI s) 15), wv (xI (pI s) 16), .int .u64 0, .int .u64 0, .int .u64 0, wv (xI (pI s) 20), wv (xI (pI s) 21), .int .u64 0, .int .u64 0, .int .u64 0]
abbrev oS11 (s : List (BitVec 64)) : Value := .agg #[wv (xI (pI s) 0), wv (xI (pI s) 1), wv (xI (pI s) 2), .int .u64 0, .int .u64 0, wv (xI (pI s) 5), wv (xI (pI s) 6), wv (xI (pI s) 7), .int .u64 0, .int .u64 0, wv (xI (pI s) 10), wv (xI (pI s) 11), .int .u64 0, .int .u64 0, .int .u64 0, wv (xI (pI s) 15), wv (xI (pI s) 16), .int .u64 0, .int .u64 0, .int .u64 0, wv (xI (pI s) 20), wv (xI (pI s) 21), .int .u64 0, .int .u64 0, .int .u64 0]
abbrev oS12 (s : List (BitVec 64)) : Value := .agg #[wv (xI (pI s) 0), wv (xI (pI s) 1), wv (xI (pI s) 2), .int .u64 0, .int .u64 0, wv (xI (pI s) 5), wv (xI (pI s) 6), wv (xI (pI s) 7), .int .u64 0, .int .u64 0, wv (xI (pI s) 10), wv (xI (pI s) 11), wv (xI (pI s) 12), .int .u64 0, .int .u64 0, wv (xI (pI s) 15), wv (xI (pI s) 16), .int .u64 0, .int .u64 0, .int .u64 0, wv (xI (pI s) 20), wv (xI (pI s) 21), .int .u64 0, .int .u64 0, .int .u64 0]
abbrev oS13 (s : List (BitVec 64)) : Value := .agg #[wv (xI (pI s) 0), wv (xI (pI s) 1), wv (xI (pI s) 2), .int .u64 0, .int .u64 0, wv (xI (pI s) 5), wv (xI (pI s) 6), wv (xI (pI s) 7), .int .u64 0, .int .u64 0, wv (xI (pI s) 10), wv (xI (pI s) 11), wv (xI (pI s) 12), .int .u64 0, .int .u64 0, wv (xI (pI s) 15), wv (xI (pI s) 16), wv (xI (pI s) 17), .int .u64 0, .int .u64 0, wv (xI (pI s) 20), wv (xI (pI s) 21), .int .u64 0, .int .u64 0, .int .u64 0]
abbrev oS14 (s : List (BitVec 64)) : Value := .agg #[wv (xI (pI s) 0), wv (xI (pI s) 1), wv (xI (pI s) 2), .int .u64 0, .int .u64 0, wv (xI (pI s) 5), wv (xI (pI s) 6), wv (xI (pI s) 7), .int .u64 0, .int .u64 0, wv (xI (pI s) 10), wv (xI (pI s) 11), wv (xI (pI s) 12), .int .u64 0, .int .u64 0, wv (xI (pI s) 15), wv (xI (pI s) 16), wv (xI (pI s) 17), .int .u64 0, .int .u64 0, wv (xI (pI s) 20), wv (xI (pI s) 21), wv (xI (pI s) 22), .int .u64 0, .int .u64 0]
abbrev oS15 (s : List (BitVec 64)) : Value := .agg #[wv (xI (pI s) 0), wv (xI (pI s) 1), wv (xI (pI s) 2), wv (xI (pI s) 3), .int .u64 0, wv (xI (pI s) 5), wv (xI (pI s) 6), wv (xI (pI s) 7), .int .u64 0, .int .u64 0, wv (xI (pI s) 10), wv (xI (pI s) 11), wv (xI (pI s) 12), .int .u64 0, .int .u64 0, wv (xI (pI s) 15), wv (xI (pI s) 16), wv (xI (pI s) 17), .int .u64 0, .int .u64 0, wv (xI (pI s) 20), wv (xI (pI s) 21), wv (xI (pI s) 22), .int .u64 0, .int .u64 0]
abbrev oS16 (s : List (BitVec 64)) : Value := .agg #[wv (xI (pI s) 0), wv (xI (pI s) 1), wv (xI (pI s) 2), wv (xI (pI s) 3), .int .u64 0, wv (xI (pI s) 5), wv (xI (pI s) 6), wv (xI (pI s) 7), wv (xI (pI s) 8), .int .u64 0, wv (xI (pI s) 10), wv (xI (pI s) 11), wv (xI (pI s) 12), .int .u64 0, .int .u64 0, wv (xI (pI s) 15), wv (xI (pI s) 16), wv (xI (pI s) 17), .int .u64 0, .int .u64 0, wv (xI (pI s) 20), wv (xI (pI s) 21), wv (xI (pI s) 22), .int .u64 0, .int .u64 0]
abbrev oS17 (s : List (BitVec 64)) : Value := .agg #[wv (xI (pI s) 0), wv (xI (pI s) 1), wv (xI (pI s) 2), wv (xI (pI s) 3), .int .u64 0, wv (xI (pI s) 5), wv (xI (pI s) 6), wv (xI (pI s) 7), wv (xI (pI s) 8), .int .u64 0, wv (xI (pI s) 10), wv (xI (pI s) 11), wv (xI (pI s) 12), wv (xI (pI s) 13), .int .u64 0, wv (xI (pI s) 15), wv (xI (pI s) 16), wv (xI (pI s) 17), .int .u64 0, .int .u64 0, wv (xI (pI s) 20), wv (xI (pI s) 21), wv (xI (pI s) 22), .int .u64 0, .int .u64 0]
abbrev oS18 (s : List (BitVec 64)) : Value := .agg #[wv (xI (pI s) 0), wv (xI (pI s) 1), wv (xI (pI s) 2), wv (xI (pI s) 3), .int .u64 0, wv (xI (pI s) 5), wv (xI (pI s) 6), wv (xI (pI s) 7), wv (xI (pI s) 8), .int .u64 0, wv (xI (pI s) 10), wv (xI (pI s) 11), wv (xI (pI s) 12), wv (xI (pI s) 13), .int .u64 0, wv (xI (pI s) 15), wv (xI (pI s) 16), wv (xI (pI s) 17), wv (xI (pI s) 18), .int .u64 0, wv (xI (pI s) 20), wv (xI (pI s) 21), wv (xI (pI s) 22), .int .u64 0, .int .u64 0]
abbrev oS19 (s : List (BitVec 64)) : Value := .agg #[wv (xI (pI s) 0), wv (xI (pI s) 1), wv (xI (pI s) 2), wv (xI (pI s) 3), .int .u64 0, wv (xI (pI s) 5), wv (xI (pI s) 6), wv (xI (pI s) 7), wv (xI (pI s) 8), .int .u64 0, wv (xI (pI s) 10), wv (xI (pI s) 11), wv (xI (pI s) 12), wv (xI (pI s) 13), .int .u64 0, wv (xI (pI s) 15), wv (xI (pI s) 16), wv (xI (pI s) 17), wv (xI (pI s) 18), .int .u64 0, wv (xI (pI s) 20), wv (xI (pI s) 21), wv (xI (pI s) 22), wv (xI (pI s) 23), .int .u64 0]
abbrev oS20 (s : List (BitVec 64)) : Value := .agg #[wv (xI (pI s) 0), wv (xI (pI s) 1), wv (xI (pI s) 2), wv (xI (pI s) 3), wv (xI (pI s) 4), wv (xI (pI s) 5), wv (xI (pI s) 6), wv (xI (pI s) 7), wv (xI (pI s) 8), .int .u64 0, wv (xI (pI s) 10), wv (xI (pI s) 11), wv (xI (pI s) 12), wv (xI (pI s) 13), .int .u64 0, wv (xI (pI s) 15), wv (xI (pI s) 16), wv (xI (pI s) 17), wv (xI (pI s) 18), .int .u64 0, wv (xI (pI s) 20), wv (xI (pI s) 21), wv (xI (pI s) 22), wv (xI (pI s) 23), .int .u64 0]
abbrev oS21 (s : List (BitVec 64)) : Value := .agg #[wv (xI (pI s) 0), wv (xI (pI s) 1), wv (xI (pI s) 2), wv (xI (pI s) 3), wv (xI (pI s) 4), wv (xI (pI s) 5), wv (xI (pI s) 6), wv (xI (pI s) 7), wv (xI (pI s) 8), wv (xI (pI s) 9), wv (xI (pI s) 10), wv (xI (pI s) 11), wv (xI (pI s) 12), wv (xI (pI s) 13), .int .u64 0, wv (xI (pI s) 15), wv (xI (pI s) 16), wv (xI (pI s) 17), wv (xI (pI s) 18), .int .u64 0, wv (xI (pI s) 20), wv (xI (pI s) 21), wv (xI (pI s) 22), wv (xI (pI s) 23), .int .u64 0]
abbrev oS22 (s : List (BitVec 64)) : Value := .agg #[wv (xI (pI s) 0), wv (xI (pI s) 1), wv (xI (pI s) 2), wv (xI (pI s) 3), wv (xI (pI s) 4), wv (xI (pI s) 5), wv (xI (pI s) 6), wv (xI (pI s) 7), wv (xI (pI s) 8), wv (xI (pI s) 9), wv (xI (pI s) 10), wv (xI (pI s) 11), wv (xI (pI s) 12), wv (xI (pI s) 13), wv (xI (pI s) 14), wv (xI (pI s) 15), wv (xI (pI s) 16), wv (xI (pI s) 17), wv (xI (pI s) 18), .int .u64 0, wv (xI (pI s) 20), wv (xI (pI s) 21), wv (xI (pI s) 22), wv (xI (pI s) 23), .int .u64 0]
abbrev oS23 (s : List (BitVec 64)) : Value := .agg #[wv (xI (pI s) 0), wv (xI (pI s) 1), wv (xI (pI s) 2), wv (xI (pI s) 3), wv (xI (pI s) 4), wv (xI (pI s) 5), wv (xI (pI s) 6), wv (xI (pI s) 7), wv (xI (pI s) 8), wv (xI (pI s) 9), wv (xI (pI s) 10), wv (xI (pI s) 11), wv (xI (pI s) 12), wv (xI (pI s) 13), wv (xI (pI s) 14), wv (xI (pI s) 15), wv (xI (pI s) 16), wv (xI (pI s) 17), wv (xI (pI s) 18), wv (xI (pI s) 19), wv (xI (pI s) 20), wv (xI (pI s) 21), wv (xI (pI s) 22), wv (xI (pI s) 23), .int .u64 0]
abbrev oS24 (s : List (BitVec 64)) : Value := .agg #[wv (xI (pI s) 0), wv (xI (pI s) 1), wv (xI (pI s) 2), wv (xI (pI s) 3), wv (xI (pI s) 4), wv (xI (pI s) 5), wv (xI (pI s) 6), wv (xI (pI s) 7), wv (xI (pI s) 8), wv (xI (pI s) 9), wv (xI (pI s) 10), wv (xI (pI s) 11), wv (xI (pI s) 12), wv (xI (pI s) 13), wv (xI (pI s) 14), wv (xI (pI s) 15), wv (xI (pI s) 16), wv (xI (pI s) 17), wv (xI (pI s) 18), wv (xI (pI s) 19), wv (xI (pI s) 20), wv (xI (pI s) 21), wv (xI (pI s) 22), wv (xI (pI s) 23), wv (xI (pI s) 24)]
set_option maxRecDepth 100000 in
set_option maxHeartbeats 2000000 in
theorem rr_three (s : List (BitVec 64)) (i : Nat) (hi : i < 24) (w : World) (b4 b3 b2 b1 : Nat) (w61 : World)
    (H61 : St w.heap.size w w61 [(b4, Obj.cells (Value.cells (bS24 s)) 26 (0, 0)), (b3, Obj.cells (Value.cells (cS24 s)) 44 (0, 0)), (b2, Obj.cells Z25 26 (0, 0)), (b1, Obj.cells (Value.cells (svn s)) 26 (0, 0))]) (ρ : Env) (hI : Is [(1, .int .i64 ((i : Nat) : Int)), (4, .pointer (some ⟨b2, 0, none⟩)), (8, .pointer (some ⟨b4, 0, none⟩))] ρ) :
    WP Tryd.prog 117 (seqR (seqR (seqR (seqR (seqR (codeOf Tryd.f15)))))) (ends Tryd.prog [.cell 4 26] fun v' w' => v' = svn (rm s (lastB i 7)) ∧ Below w.heap.size w w') ρ w61 := by
  obtain ⟨_, rfl⟩ := hI
  refine g_sreg [0, 1, 2] (by kernel_rfl) (by kernel_rfl) ?_
  refine s_val (some 76) (.agg Z25) (fun w => by kernel_rfl) (by kernel_rfl) ?_
  refine s_alloc H61 (some 12) 26 (.agg Z25) (by kernel_rfl) (by kernel_rfl) (by kernel_rfl) ?_
  intro b5 w62 H62; clear H61
  refine s_store H62 0 [(b5, Obj.cells Z25 26 (0, 0)), (b4, Obj.cells (Value.cells (bS24 s)) 26 (0, 0)), (b3, Obj.cells (Value.cells (cS24 s)) 44 (0, 0)), (b2, Obj.cells Z25 26 (0, 0)), (b1, Obj.cells (Value.cells (svn s)) 26 (0, 0))] 26 (.tmp 12) (.tmp 76) b5 (0) Z25 Z25 26 (.agg Z25) (by kernel_rfl) (by kernel_rfl) (by kernel_rfl) (by kernel_rfl) (by kernel_rfl) (by kernel_rfl) (of_decide_eq_true (by kernel_rfl)) (by kernel_rfl) (by kernel_rfl) ?_
  intro w63 H63; clear H62
  refine s_nil ?_
  refine g_seq (by kernel_rfl) ?_
  refine g_sreg [0] (by kernel_rfl) (by kernel_rfl) ?_
  refine s_val (some 13) (.int .i64 0) (fun w => by kernel_rfl) (by kernel_rfl) ?_
  refine s_nil ?_
  refine g_block 8 (by kernel_rfl) ?_
  refine g_first (by kernel_rfl) ?_
  refine g_seq (by kernel_rfl) ?_
  refine g_sreg [0, 1] (by kernel_rfl) (by kernel_rfl) ?_
  refine s_val (some 77) (.int .i64 0) (fun w => by kernel_rfl) (by kernel_rfl) ?_
  refine s_val (some 78) (.bool true) (fun w => by kernel_rfl) (by kernel_rfl) ?_
  refine s_nil ?_
  refine g_cond_t (by kernel_rfl) (by kernel_rfl) ?_
  refine g_skip (by kernel_rfl) ?_
  show WP _ _ _ _ _ _
  refine g_seq (by kernel_rfl) ?_
  refine g_block 9 (by kernel_rfl) ?_
  refine g_sreg [0] (by kernel_rfl) (by kernel_rfl) ?_
  refine s_val (some 14) (.int .i64 0) (fun w => by kernel_rfl) (by kernel_rfl) ?_
  refine s_nil ?_
  refine g_block 10 (by kernel_rfl) ?_
  refine g_first (by kernel_rfl) ?_
  refine g_seq (by kernel_rfl) ?_
  refine g_sreg [0, 1] (by kernel_rfl) (by kernel_rfl) ?_
  refine s_val (some 81) (.int .i64 0) (fun w => by kernel_rfl) (by kernel_rfl) ?_
  refine s_val (some 82) (.bool true) (fun w => by kernel_rfl) (by kernel_rfl) ?_
  refine s_nil ?_
  refine g_cond_t (by kernel_rfl) (by kernel_rfl) ?_
  refine g_skip (by kernel_rfl) ?_
  show WP _ _ _ _ _ _
  refine g_seq (by kernel_rfl) ?_
  refine g_block 11 (by kernel_rfl) ?_
  refine g_sreg [0, 1, 2, 3, 4, 5, 6, 7] (by kernel_rfl) (by kernel_rfl) ?_
  refine s_val (some 85) (.int .i64 0) (fun w => by kernel_rfl) (by kernel_rfl) ?_
  refine s_val (some 86) (.int .i64 1) (fun w => by kernel_rfl) (by kernel_rfl) ?_
  refine s_val (some 87) (.int .i64 0) (fun w => by kernel_rfl) (by kernel_rfl) ?_
  refine s_call H63 (some 88) 21 #[.int .i64 1, .int .i64 0] (.int .i64 1) (at_fn 1 0 (by omega) (by omega)) (fun w => by kernel_rfl) (by kernel_rfl) ?_
  intro w64 H64; clear H63
  refine s_val (some 89) (.pointer (some ⟨b4, 1, none⟩)) (fun w => by kernel_rfl) (by kernel_rfl) ?_
  refine s_load1 H64 (some 90) 25 (.tmp 89) 1 b4 1 (Value.cells (bS24 s)) 26 (0, 0) (wv (pI s 1)) (by kernel_rfl) (by kernel_rfl) (by kernel_rfl) (by kernel_rfl) (by kernel_rfl) (by kernel_rfl) ?_
  refine s_valE (some 91) (.int .u64 (IntKind.u64.wrap ((18446744073709551615) - (((BitVec.toNat (pI s 1) : Nat) : Int))))) (wv (~~~(pI s 1))) (fun w => by kernel_rfl) ((bv_sub_u64 (18446744073709551615 : BitVec 64) (pI s 1)).trans (bv_congr (sub_not (pI s 1)))) (by kernel_rfl) ?_
  refine s_val (some 15) (wv (~~~(pI s 1))) (fun w => by kernel_rfl) (by kernel_rfl) ?_
  refine s_nil ?_
  refine D2.g_draw0 [0, 1, 2, 3, 4, 5, 6, 7, 8, 9, 10, 11, 12, 13, 14, 15, 16, 17, 18] [((some 92), fun _ => .int .i64 0), ((some 93), fun _ => .int .i64 0), ((some 94), fun _ => .int .i64 0), ((some 95), fun _ => .int .i64 0), ((some 96), fun _ => .int .i64 0), ((some 97), fun _ => .int .i64 0), ((some 98), fun _ => .pointer (some ⟨b4, 0, none⟩)), ((some 99), fun _ => wv (pI s 0)), ((some 100), fun _ => wv (~~~(pI s 1))), ((some 101), fun _ => .int .i64 0), ((some 102), fun _ => .int .i64 2), ((some 103), fun _ => .int .i64 0), ((some 104), fun _ => .int .i64 2), ((some 105), fun _ => .pointer (some ⟨b4, 2, none⟩)), ((some 106), fun _ => wv (pI s 2)), ((some 107), fun _ => wv ((pI s 2) &&& ~~~(pI s 1))), ((some 108), fun _ => wv (xI (pI s) 0)), ((some 109), fun _ => .pointer (some ⟨b5, 0, none⟩)), (none, fun _ => undef)] (D2.Pre w.heap.size w (fun L g => [(true, (bif L 18 then (b5, Obj.cells (Value.cells (oS0 s)) 26 (0, 0)) else (b5, Obj.cells Z25 26 (0, 0)))), (true, (b4, Obj.cells (Value.cells (bS24 s)) 26 (0, 0))), (true, (b3, Obj.cells (Value.cells (cS24 s)) 44 (0, 0))), (true, (b2, Obj.cells Z25 26 (0, 0))), (true, (b1, Obj.cells (Value.cells (svn s)) 26 (0, 0)))]) (fun L g => True)) (by kernel_rfl) (by kernel_rfl) (by kernel_rfl) ⟨D2.StE.of H64.drew _ (by kernel_rfl), trivial⟩ ⟨?_, ?_, ?_, ?_, ?_, ?_, ?_, ?_, ?_, ?_, ?_, ?_, ?_, ?_, ?_, ?_, ?_, ?_, ?_, trivial⟩ ?_
  · exact D2.gv_val (fun _ _ _ h => h) (fun g w => by kernel_rfl)
  · exact D2.gv_val (fun _ _ _ h => h) (fun g w => by kernel_rfl)
  · exact D2.gv_call 21 #[.int .i64 0, .int .i64 0] (fun _ _ _ h => h) (at_fn 0 0 (by omega) (by omega)) (fun g w => by kernel_rfl)
  · exact D2.gv_val (fun _ _ _ h => h) (fun g w => by kernel_rfl)
  · exact D2.gv_val (fun _ _ _ h => h) (fun g w => by kernel_rfl)
  · exact D2.gv_call 21 #[.int .i64 0, .int .i64 0] (fun _ _ _ h => h) (at_fn 0 0 (by omega) (by omega)) (fun g w => by kernel_rfl)
  · exact D2.gv_val (fun _ _ _ h => h) (fun g w => by kernel_rfl)
  · exact D2.gv_load1 25 (.tmp 98) 1 (fun g => b4) (fun g => 0) (fun g => (Value.cells (bS24 s))) 26 (0, 0) (fun _ _ _ h => h) (fun g => by kernel_rfl) (fun g => by kernel_rfl) (fun L g hN => (by kernel_rfl)) (by kernel_rfl) (fun L g hN hF => by kernel_rfl)
  · exact D2.gv_val (fun _ _ _ h => h) (fun g w => by kernel_rfl)
  · exact D2.gv_val (fun _ _ _ h => h) (fun g w => by kernel_rfl)
  · exact D2.gv_val (fun _ _ _ h => h) (fun g w => by kernel_rfl)
  · exact D2.gv_val (fun _ _ _ h => h) (fun g w => by kernel_rfl)
  · exact D2.gv_call 21 #[.int .i64 2, .int .i64 0] (fun _ _ _ h => h) (at_fn 2 0 (by omega) (by omega)) (fun g w => by kernel_rfl)
  · exact D2.gv_val (fun _ _ _ h => h) (fun g w => by kernel_rfl)
  · exact D2.gv_load1 25 (.tmp 105) 1 (fun g => b4) (fun g => 2) (fun g => (Value.cells (bS24 s))) 26 (0, 0) (fun _ _ _ h => h) (fun g => by kernel_rfl) (fun g => by kernel_rfl) (fun L g hN => (by kernel_rfl)) (by kernel_rfl) (fun L g hN hF => by kernel_rfl)
  · exact D2.gv_valE (fun _ _ _ h => h) (V' := .int .u64 (Go.bits .and .u64 (((BitVec.toNat (~~~(pI s 1)) : Nat) : Int)) (((BitVec.toNat (pI s 2) : Nat) : Int)))) (fun g w => by kernel_rfl) ((bv_and_u64 (~~~(pI s 1)) (pI s 2)).trans (bv_congr (BitVec.and_comm _ _)))
  · exact D2.gv_valE (fun _ _ _ h => h) (V' := .int .u64 (Go.bits .xor .u64 (((BitVec.toNat (pI s 0) : Nat) : Int)) (((BitVec.toNat ((pI s 2) &&& ~~~(pI s 1)) : Nat) : Int)))) (fun g w => by kernel_rfl) (bv_xor_u64 (pI s 0) ((pI s 2) &&& ~~~(pI s 1)))
  · exact D2.gv_val (fun _ _ _ h => h) (fun g w => by kernel_rfl)
  · exact D2.gv_store 0 25 (.tmp 109) (.tmp 108) (fun g => b5) (fun g => 0) Z25 (Value.cells (oS0 s)) 26 (wv (xI (pI s) 0)) (fun g => by kernel_rfl) (fun g => by kernel_rfl) (fun g => by kernel_rfl) (by kernel_rfl) (by kernel_rfl) (fun g => (of_decide_eq_true (by kernel_rfl))) (fun g => (by kernel_rfl)) (fun L g hN => ⟨(by have hL18 : L 18 = false := hN.1; exact D2.ent_get' (p := true) (e := (bif L 18 then (b5, Obj.cells (Value.cells (oS0 s)) 26 (0, 0)) else (b5, Obj.cells Z25 26 (0, 0)))) (by kernel_rfl) (by rfl) (by simp only [hL18, cond_true, cond_false] <;> rfl)), (by kernel_rfl)⟩) (fun L g hN hF => hF)
  intro L0 G65 w65 hall HL; clear H64
  have H65 : St w.heap.size w w65 [(b5, Obj.cells (Value.cells (oS0 s)) 26 (0, 0)), (b4, Obj.cells (Value.cells (bS24 s)) 26 (0, 0)), (b3, Obj.cells (Value.cells (cS24 s)) 44 (0, 0)), (b2, Obj.cells Z25 26 (0, 0)), (b1, Obj.cells (Value.cells (svn s)) 26 (0, 0))] := by have e18 := hall 18 (Nat.le_of_ble_eq_true (by kernel_rfl)); have hS := D2.StE.st HL.1; simp only [e18, cond_true, D2.pres] at hS; exact hS
  clear HL hall
  show WP _ _ _ _ _ _
  refine g_reg0 [0, 1, 2] (by kernel_rfl) ?_
  refine s_val (some 83) (.int .i64 0) (fun w => by kernel_rfl) (by kernel_rfl) ?_
  refine s_val (some 84) (.int .i64 1) (fun w => by kernel_rfl) (by kernel_rfl) ?_
  refine s_val (some 14) (.int .i64 1) (fun w => by kernel_rfl) (by kernel_rfl) ?_
  refine s_nil ?_
  show WPL _ _ _ _ _ _
  refine g_next ?_
  refine g_seq (by kernel_rfl) ?_
  refine g_sreg [0, 1] (by kernel_rfl) (by kernel_rfl) ?_
  refine s_val (some 81) (.int .i64 1) (fun w => by kernel_rfl) (by kernel_rfl) ?_
  refine s_val (some 82) (.bool true) (fun w => by kernel_rfl) (by kernel_rfl) ?_
  refine s_nil ?_
  refine g_cond_t (by kernel_rfl) (by kernel_rfl) ?_
  refine g_skip (by kernel_rfl) ?_
  show WP _ _ _ _ _ _
  refine g_seq (by kernel_rfl) ?_
  refine g_block 11 (by kernel_rfl) ?_
  refine g_sreg [0, 1, 2, 3, 4, 5, 6, 7] (by kernel_rfl) (by kernel_rfl) ?_
  refine s_val (some 85) (.int .i64 0) (fun w => by kernel_rfl) (by kernel_rfl) ?_
  refine s_val (some 86) (.int .i64 1) (fun w => by kernel_rfl) (by kernel_rfl) ?_
  refine s_val (some 87) (.int .i64 1) (fun w => by kernel_rfl) (by kernel_rfl) ?_
  refine s_call H65 (some 88) 21 #[.int .i64 1, .int .i64 1] (.int .i64 6) (at_fn 1 1 (by omega) (by omega)) (fun w => by kernel_rfl) (by kernel_rfl) ?_
  intro w66 H66; clear H65
  refine s_val (some 89) (.pointer (some ⟨b4, 6, none⟩)) (fun w => by kernel_rfl) (by kernel_rfl) ?_
  refine s_load1 H66 (some 90) 25 (.tmp 89) 1 b4 6 (Value.cells (bS24 s)) 26 (0, 0) (wv (pI s 6)) (by kernel_rfl) (by kernel_rfl) (by kernel_rfl) (by kernel_rfl) (by kernel_rfl) (by kernel_rfl) ?_
  refine s_valE (some 91) (.int .u64 (IntKind.u64.wrap ((18446744073709551615) - (((BitVec.toNat (pI s 6) : Nat) : Int))))) (wv (~~~(pI s 6))) (fun w => by kernel_rfl) ((bv_sub_u64 (18446744073709551615 : BitVec 64) (pI s 6)).trans (bv_congr (sub_not (pI s 6)))) (by kernel_rfl) ?_
  refine s_val (some 15) (wv (~~~(pI s 6))) (fun w => by kernel_rfl) (by kernel_rfl) ?_
  refine s_nil ?_
  refine D2.g_draw0 [0, 1, 2, 3, 4, 5, 6, 7, 8, 9, 10, 11, 12, 13, 14, 15, 16, 17, 18] [((some 92), fun _ => .int .i64 0), ((some 93), fun _ => .int .i64 1), ((some 94), fun _ => .int .i64 5), ((some 95), fun _ => .int .i64 0), ((some 96), fun _ => .int .i64 1), ((some 97), fun _ => .int .i64 5), ((some 98), fun _ => .pointer (some ⟨b4, 5, none⟩)), ((some 99), fun _ => wv (pI s 5)), ((some 100), fun _ => wv (~~~(pI s 6))), ((some 101), fun _ => .int .i64 0), ((some 102), fun _ => .int .i64 2), ((some 103), fun _ => .int .i64 1), ((some 104), fun _ => .int .i64 7), ((some 105), fun _ => .pointer (some ⟨b4, 7, none⟩)), ((some 106), fun _ => wv (pI s 7)), ((some 107), fun _ => wv ((pI s 7) &&& ~~~(pI s 6))), ((some 108), fun _ => wv (xI (pI s) 5)), ((some 109), fun _ => .pointer (some ⟨b5, 5, none⟩)), (none, fun _ => undef)] (D2.Pre w.heap.size w (fun L g => [(true, (bif L 18 then (b5, Obj.cells (Value.cells (oS1 s)) 26 (0, 0)) else (b5, Obj.cells (Value.cells (oS0 s)) 26 (0, 0)))), (true, (b4, Obj.cells (Value.cells (bS24 s)) 26 (0, 0))), (true, (b3, Obj.cells (Value.cells (cS24 s)) 44 (0, 0))), (true, (b2, Obj.cells Z25 26 (0, 0))), (true, (b1, Obj.cells (Value.cells (svn s)) 26 (0, 0)))]) (fun L g => True)) (by kernel_rfl) (by kernel_rfl) (by kernel_rfl) ⟨D2.StE.of H66.drew _ (by kernel_rfl), trivial⟩ ⟨?_, ?_, ?_, ?_, ?_, ?_, ?_, ?_, ?_, ?_, ?_, ?_, ?_, ?_, ?_, ?_, ?_, ?_, ?_, trivial⟩ ?_
  · exact D2.gv_val (fun _ _ _ h => h) (fun g w => by kernel_rfl)
  · exact D2.gv_val (fun _ _ _ h => h) (fun g w => by kernel_rfl)
  · exact D2.gv_call 21 #[.int .i64 0, .int .i64 1] (fun _ _ _ h => h) (at_fn 0 1 (by omega) (by omega)) (fun g w => by kernel_rfl)
  · exact D2.gv_val (fun _ _ _ h => h) (fun g w => by kernel_rfl)
  · exact D2.gv_val (fun _ _ _ h => h) (fun g w => by kernel_rfl)
  · exact D2.gv_call 21 #[.int .i64 0, .int .i64 1] (fun _ _ _ h => h) (at_fn 0 1 (by omega) (by omega)) (fun g w => by kernel_rfl)
  · exact D2.gv_val (fun _ _ _ h => h) (fun g w => by kernel_rfl)
  · exact D2.gv_load1 25 (.tmp 98) 1 (fun g => b4) (fun g => 5) (fun g => (Value.cells (bS24 s))) 26 (0, 0) (fun _ _ _ h => h) (fun g => by kernel_rfl) (fun g => by kernel_rfl) (fun L g hN => (by kernel_rfl)) (by kernel_rfl) (fun L g hN hF => by kernel_rfl)
  · exact D2.gv_val (fun _ _ _ h => h) (fun g w => by kernel_rfl)
  · exact D2.gv_val (fun _ _ _ h => h) (fun g w => by kernel_rfl)
  · exact D2.gv_val (fun _ _ _ h => h) (fun g w => by kernel_rfl)
  · exact D2.gv_val (fun _ _ _ h => h) (fun g w => by kernel_rfl)
  · exact D2.gv_call 21 #[.int .i64 2, .int .i64 1] (fun _ _ _ h => h) (at_fn 2 1 (by omega) (by omega)) (fun g w => by kernel_rfl)
  · exact D2.gv_val (fun _ _ _ h => h) (fun g w => by kernel_rfl)
  · exact D2.gv_load1 25 (.tmp 105) 1 (fun g => b4) (fun g => 7) (fun g => (Value.cells (bS24 s))) 26 (0, 0) (fun _ _ _ h => h) (fun g => by kernel_rfl) (fun g => by kernel_rfl) (fun L g hN => (by kernel_rfl)) (by kernel_rfl) (fun L g hN hF => by kernel_rfl)
  · exact D2.gv_valE (fun _ _ _ h => h) (V' := .int .u64 (Go.bits .and .u64 (((BitVec.toNat (~~~(pI s 6)) : Nat) : Int)) (((BitVec.toNat (pI s 7) : Nat) : Int)))) (fun g w => by kernel_rfl) ((bv_and_u64 (~~~(pI s 6)) (pI s 7)).trans (bv_congr (BitVec.and_comm _ _)))
  · exact D2.gv_valE (fun _ _ _ h => h) (V' := .int .u64 (Go.bits .xor .u64 (((BitVec.toNat (pI s 5) : Nat) : Int)) (((BitVec.toNat ((pI s 7) &&& ~~~(pI s 6)) : Nat) : Int)))) (fun g w => by kernel_rfl) (bv_xor_u64 (pI s 5) ((pI s 7) &&& ~~~(pI s 6)))
  · exact D2.gv_val (fun _ _ _ h => h) (fun g w => by kernel_rfl)
  · exact D2.gv_store 0 25 (.tmp 109) (.tmp 108) (fun g => b5) (fun g => 5) (Value.cells (oS0 s)) (Value.cells (oS1 s)) 26 (wv (xI (pI s) 5)) (fun g => by kernel_rfl) (fun g => by kernel_rfl) (fun g => by kernel_rfl) (by kernel_rfl) (by kernel_rfl) (fun g => (of_decide_eq_true (by kernel_rfl))) (fun g => (by kernel_rfl)) (fun L g hN => ⟨(by have hL18 : L 18 = false := hN.1; exact D2.ent_get' (p := true) (e := (bif L 18 then (b5, Obj.cells (Value.cells (oS1 s)) 26 (0, 0)) else (b5, Obj.cells (Value.cells (oS0 s)) 26 (0, 0)))) (by kernel_rfl) (by rfl) (by simp only [hL18, cond_true, cond_false] <;> rfl)), (by kernel_rfl)⟩) (fun L g hN hF => hF)
  intro L0 G67 w67 hall HL; clear H66
  have H67 : St w.heap.size w w67 [(b5, Obj.cells (Value.cells (oS1 s)) 26 (0, 0)), (b4, Obj.cells (Value.cells (bS24 s)) 26 (0, 0)), (b3, Obj.cells (Value.cells (cS24 s)) 44 (0, 0)), (b2, Obj.cells Z25 26 (0, 0)), (b1, Obj.cells (Value.cells (svn s)) 26 (0, 0))] := by have e18 := hall 18 (Nat.le_of_ble_eq_true (by kernel_rfl)); have hS := D2.StE.st HL.1; simp only [e18, cond_true, D2.pres] at hS; exact hS
  clear HL hall
  show WP _ _ _ _ _ _
  refine g_reg0 [0, 1, 2] (by kernel_rfl) ?_
  refine s_val (some 83) (.int .i64 1) (fun w => by kernel_rfl) (by kernel_rfl) ?_
  refine s_val (some 84) (.int .i64 2) (fun w => by kernel_rfl) (by kernel_rfl) ?_
  refine s_val (some 14) (.int .i64 2) (fun w => by kernel_rfl) (by kernel_rfl) ?_
  refine s_nil ?_
  show WPL _ _ _ _ _ _
  refine g_next ?_
  refine g_seq (by kernel_rfl) ?_
  refine g_sreg [0, 1] (by kernel_rfl) (by kernel_rfl) ?_
  refine s_val (some 81) (.int .i64 2) (fun w => by kernel_rfl) (by kernel_rfl) ?_
  refine s_val (some 82) (.bool true) (fun w => by kernel_rfl) (by kernel_rfl) ?_
  refine s_nil ?_
  refine g_cond_t (by kernel_rfl) (by kernel_rfl) ?_
  refine g_skip (by kernel_rfl) ?_
  show WP _ _ _ _ _ _
  refine g_seq (by kernel_rfl) ?_
  refine g_block 11 (by kernel_rfl) ?_
  refine g_sreg [0, 1, 2, 3, 4, 5, 6, 7] (by kernel_rfl) (by kernel_rfl) ?_
  refine s_val (some 85) (.int .i64 0) (fun w => by kernel_rfl) (by kernel_rfl) ?_
  refine s_val (some 86) (.int .i64 1) (fun w => by kernel_rfl) (by kernel_rfl) ?_
  refine s_val (some 87) (.int .i64 2) (fun w => by kernel_rfl) (by kernel_rfl) ?_
  refine s_call H67 (some 88) 21 #[.int .i64 1, .int .i64 2] (.int .i64 11) (at_fn 1 2 (by omega) (by omega)) (fun w => by kernel_rfl) (by kernel_rfl) ?_
  intro w68 H68; clear H67
  refine s_val (some 89) (.pointer (some ⟨b4, 11, none⟩)) (fun w => by kernel_rfl) (by kernel_rfl) ?_
  refine s_load1 H68 (some 90) 25 (.tmp 89) 1 b4 11 (Value.cells (bS24 s)) 26 (0, 0) (wv (pI s 11)) (by kernel_rfl) (by kernel_rfl) (by kernel_rfl) (by kernel_rfl) (by kernel_rfl) (by kernel_rfl) ?_
  refine s_valE (some 91) (.int .u64 (IntKind.u64.wrap ((18446744073709551615) - (((BitVec.toNat (pI s 11) : Nat) : Int))))) (wv (~~~(pI s 11))) (fun w => by kernel_rfl) ((bv_sub_u64 (18446744073709551615 : BitVec 64) (pI s 11)).trans (bv_congr (sub_not (pI s 11)))) (by kernel_rfl) ?_
  refine s_val (some 15) (wv (~~~(pI s 11))) (fun w => by kernel_rfl) (by kernel_rfl) ?_
  refine s_nil ?_
  refine D2.g_draw0 [0, 1, 2, 3, 4, 5, 6, 7, 8, 9, 10, 11, 12, 13, 14, 15, 16, 17, 18] [((some 92), fun _ => .int .i64 0), ((some 93), fun _ => .int .i64 2), ((some 94), fun _ => .int .i64 10), ((some 95), fun _ => .int .i64 0), ((some 96), fun _ => .int .i64 2), ((some 97), fun _ => .int .i64 10), ((some 98), fun _ => .pointer (some ⟨b4, 10, none⟩)), ((some 99), fun _ => wv (pI s 10)), ((some 100), fun _ => wv (~~~(pI s 11))), ((some 101), fun _ => .int .i64 0), ((some 102), fun _ => .int .i64 2), ((some 103), fun _ => .int .i64 2), ((some 104), fun _ => .int .i64 12), ((some 105), fun _ => .pointer (some ⟨b4, 12, none⟩)), ((some 106), fun _ => wv (pI s 12)), ((some 107), fun _ => wv ((pI s 12) &&& ~~~(pI s 11))), ((some 108), fun _ => wv (xI (pI s) 10)), ((some 109), fun _ => .pointer (some ⟨b5, 10, none⟩)), (none, fun _ => undef)] (D2.Pre w.heap.size w (fun L g => [(true, (bif L 18 then (b5, Obj.cells (Value.cells (oS2 s)) 26 (0, 0)) else (b5, Obj.cells (Value.cells (oS1 s)) 26 (0, 0)))), (true, (b4, Obj.cells (Value.cells (bS24 s)) 26 (0, 0))), (true, (b3, Obj.cells (Value.cells (cS24 s)) 44 (0, 0))), (true, (b2, Obj.cells Z25 26 (0, 0))), (true, (b1, Obj.cells (Value.cells (svn s)) 26 (0, 0)))]) (fun L g => True)) (by kernel_rfl) (by kernel_rfl) (by kernel_rfl) ⟨D2.StE.of H68.drew _ (by kernel_rfl), trivial⟩ ⟨?_, ?_, ?_, ?_, ?_, ?_, ?_, ?_, ?_, ?_, ?_, ?_, ?_, ?_, ?_, ?_, ?_, ?_, ?_, trivial⟩ ?_
  · exact D2.gv_val (fun _ _ _ h => h) (fun g w => by kernel_rfl)
  · exact D2.gv_val (fun _ _ _ h => h) (fun g w => by kernel_rfl)
  · exact D2.gv_call 21 #[.int .i64 0, .int .i64 2] (fun _ _ _ h => h) (at_fn 0 2 (by omega) (by omega)) (fun g w => by kernel_rfl)
  · exact D2.gv_val (fun _ _ _ h => h) (fun g w => by kernel_rfl)
  · exact D2.gv_val (fun _ _ _ h => h) (fun g w => by kernel_rfl)
  · exact D2.gv_call 21 #[.int .i64 0, .int .i64 2] (fun _ _ _ h => h) (at_fn 0 2 (by omega) (by omega)) (fun g w => by kernel_rfl)
  · exact D2.gv_val (fun _ _ _ h => h) (fun g w => by kernel_rfl)
  · exact D2.gv_load1 25 (.tmp 98) 1 (fun g => b4) (fun g => 10) (fun g => (Value.cells (bS24 s))) 26 (0, 0) (fun _ _ _ h => h) (fun g => by kernel_rfl) (fun g => by kernel_rfl) (fun L g hN => (by kernel_rfl)) (by kernel_rfl) (fun L g hN hF => by kernel_rfl)
  · exact D2.gv_val (fun _ _ _ h => h) (fun g w => by kernel_rfl)
  · exact D2.gv_val (fun _ _ _ h => h) (fun g w => by kernel_rfl)
  · exact D2.gv_val (fun _ _ _ h => h) (fun g w => by kernel_rfl)
  · exact D2.gv_val (fun _ _ _ h => h) (fun g w => by kernel_rfl)
  · exact D2.gv_call 21 #[.int .i64 2, .int .i64 2] (fun _ _ _ h => h) (at_fn 2 2 (by omega) (by omega)) (fun g w => by kernel_rfl)
  · exact D2.gv_val (fun _ _ _ h => h) (fun g w => by kernel_rfl)
  · exact D2.gv_load1 25 (.tmp 105) 1 (fun g => b4) (fun g => 12) (fun g => (Value.cells (bS24 s))) 26 (0, 0) (fun _ _ _ h => h) (fun g => by kernel_rfl) (fun g => by kernel_rfl) (fun L g hN => (by kernel_rfl)) (by kernel_rfl) (fun L g hN hF => by kernel_rfl)
  · exact D2.gv_valE (fun _ _ _ h => h) (V' := .int .u64 (Go.bits .and .u64 (((BitVec.toNat (~~~(pI s 11)) : Nat) : Int)) (((BitVec.toNat (pI s 12) : Nat) : Int)))) (fun g w => by kernel_rfl) ((bv_and_u64 (~~~(pI s 11)) (pI s 12)).trans (bv_congr (BitVec.and_comm _ _)))
  · exact D2.gv_valE (fun _ _ _ h => h) (V' := .int .u64 (Go.bits .xor .u64 (((BitVec.toNat (pI s 10) : Nat) : Int)) (((BitVec.toNat ((pI s 12) &&& ~~~(pI s 11)) : Nat) : Int)))) (fun g w => by kernel_rfl) (bv_xor_u64 (pI s 10) ((pI s 12) &&& ~~~(pI s 11)))
  · exact D2.gv_val (fun _ _ _ h => h) (fun g w => by kernel_rfl)
  · exact D2.gv_store 0 25 (.tmp 109) (.tmp 108) (fun g => b5) (fun g => 10) (Value.cells (oS1 s)) (Value.cells (oS2 s)) 26 (wv (xI (pI s) 10)) (fun g => by kernel_rfl) (fun g => by kernel_rfl) (fun g => by kernel_rfl) (by kernel_rfl) (by kernel_rfl) (fun g => (of_decide_eq_true (by kernel_rfl))) (fun g => (by kernel_rfl)) (fun L g hN => ⟨(by have hL18 : L 18 = false := hN.1; exact D2.ent_get' (p := true) (e := (bif L 18 then (b5, Obj.cells (Value.cells (oS2 s)) 26 (0, 0)) else (b5, Obj.cells (Value.cells (oS1 s)) 26 (0, 0)))) (by kernel_rfl) (by rfl) (by simp only [hL18, cond_true, cond_false] <;> rfl)), (by kernel_rfl)⟩) (fun L g hN hF => hF)
  intro L0 G69 w69 hall HL; clear H68
  have H69 : St w.heap.size w w69 [(b5, Obj.cells (Value.cells (oS2 s)) 26 (0, 0)), (b4, Obj.cells (Value.cells (bS24 s)) 26 (0, 0)), (b3, Obj.cells (Value.cells (cS24 s)) 44 (0, 0)), (b2, Obj.cells Z25 26 (0, 0)), (b1, Obj.cells (Value.cells (svn s)) 26 (0, 0))] := by have e18 := hall 18 (Nat.le_of_ble_eq_true (by kernel_rfl)); have hS := D2.StE.st HL.1; simp only [e18, cond_true, D2.pres] at hS; exact hS
  clear HL hall
  show WP _ _ _ _ _ _
  refine g_reg0 [0, 1, 2] (by kernel_rfl) ?_
  refine s_val (some 83) (.int .i64 2) (fun w => by kernel_rfl) (by kernel_rfl) ?_
  refine s_val (some 84) (.int .i64 3) (fun w => by kernel_rfl) (by kernel_rfl) ?_
  refine s_val (some 14) (.int .i64 3) (fun w => by kernel_rfl) (by kernel_rfl) ?_
  refine s_nil ?_
  show WPL _ _ _ _ _ _
  refine g_next ?_
  refine g_seq (by kernel_rfl) ?_
  refine g_sreg [0, 1] (by kernel_rfl) (by kernel_rfl) ?_
  refine s_val (some 81) (.int .i64 3) (fun w => by kernel_rfl) (by kernel_rfl) ?_
  refine s_val (some 82) (.bool true) (fun w => by kernel_rfl) (by kernel_rfl) ?_
  refine s_nil ?_
  refine g_cond_t (by kernel_rfl) (by kernel_rfl) ?_
  refine g_skip (by kernel_rfl) ?_
  show WP _ _ _ _ _ _
  refine g_seq (by kernel_rfl) ?_
  refine g_block 11 (by kernel_rfl) ?_
  refine g_sreg [0, 1, 2, 3, 4, 5, 6, 7] (by kernel_rfl) (by kernel_rfl) ?_
  refine s_val (some 85) (.int .i64 0) (fun w => by kernel_rfl) (by kernel_rfl) ?_
  refine s_val (some 86) (.int .i64 1) (fun w => by kernel_rfl) (by kernel_rfl) ?_
  refine s_val (some 87) (.int .i64 3) (fun w => by kernel_rfl) (by kernel_rfl) ?_
  refine s_call H69 (some 88) 21 #[.int .i64 1, .int .i64 3] (.int .i64 16) (at_fn 1 3 (by omega) (by omega)) (fun w => by kernel_rfl) (by kernel_rfl) ?_
  intro w70 H70; clear H69
  refine s_val (some 89) (.pointer (some ⟨b4, 16, none⟩)) (fun w => by kernel_rfl) (by kernel_rfl) ?_
  refine s_load1 H70 (some 90) 25 (.tmp 89) 1 b4 16 (Value.cells (bS24 s)) 26 (0, 0) (wv (pI s 16)) (by kernel_rfl) (by kernel_rfl) (by kernel_rfl) (by kernel_rfl) (by kernel_rfl) (by kernel_rfl) ?_
  refine s_valE (some 91) (.int .u64 (IntKind.u64.wrap ((18446744073709551615) - (((BitVec.toNat (pI s 16) : Nat) : Int))))) (wv (~~~(pI s 16))) (fun w => by kernel_rfl) ((bv_sub_u64 (18446744073709551615 : BitVec 64) (pI s 16)).trans (bv_congr (sub_not (pI s 16)))) (by kernel_rfl) ?_
  refine s_val (some 15) (wv (~~~(pI s 16))) (fun w => by kernel_rfl) (by kernel_rfl) ?_
  refine s_nil ?_
  refine D2.g_draw0 [0, 1, 2, 3, 4, 5, 6, 7, 8, 9, 10, 11, 12, 13, 14, 15, 16, 17, 18] [((some 92), fun _ => .int .i64 0), ((some 93), fun _ => .int .i64 3), ((some 94), fun _ => .int .i64 15), ((some 95), fun _ => .int .i64 0), ((some 96), fun _ => .int .i64 3), ((some 97), fun _ => .int .i64 15), ((some 98), fun _ => .pointer (some ⟨b4, 15, none⟩)), ((some 99), fun _ => wv (pI s 15)), ((some 100), fun _ => wv (~~~(pI s 16))), ((some 101), fun _ => .int .i64 0), ((some 102), fun _ => .int .i64 2), ((some 103), fun _ => .int .i64 3), ((some 104), fun _ => .int .i64 17), ((some 105), fun _ => .pointer (some ⟨b4, 17, none⟩)), ((some 106), fun _ => wv (pI s 17)), ((some 107), fun _ => wv ((pI s 17) &&& ~~~(pI s 16))), ((some 108), fun _ => wv (xI (pI s) 15)), ((some 109), fun _ => .pointer (some ⟨b5, 15, none⟩)), (none, fun _ => undef)] (D2.Pre w.heap.size w (fun L g => [(true, (bif L 18 then (b5, Obj.cells (Value.cells (oS3 s)) 26 (0, 0)) else (b5, Obj.cells (Value.cells (oS2 s)) 26 (0, 0)))), (true, (b4, Obj.cells (Value.cells (bS24 s)) 26 (0, 0))), (true, (b3, Obj.cells (Value.cells (cS24 s)) 44 (0, 0))), (true, (b2, Obj.cells Z25 26 (0, 0))), (true, (b1, Obj.cells (Value.cells (svn s)) 26 (0, 0)))]) (fun L g => True)) (by kernel_rfl) (by kernel_rfl) (by kernel_rfl) ⟨D2.StE.of H70.drew _ (by kernel_rfl), trivial⟩ ⟨?_, ?_, ?_, ?_, ?_, ?_, ?_, ?_, ?_, ?_, ?_, ?_, ?_, ?_, ?_, ?_, ?_, ?_, ?_, trivial⟩ ?_
  · exact D2.gv_val (fun _ _ _ h => h) (fun g w => by kernel_rfl)
  · exact D2.gv_val (fun _ _ _ h => h) (fun g w => by kernel_rfl)
  · exact D2.gv_call 21 #[.int .i64 0, .int .i64 3] (fun _ _ _ h => h) (at_fn 0 3 (by omega) (by omega)) (fun g w => by kernel_rfl)
  · exact D2.gv_val (fun _ _ _ h => h) (fun g w => by kernel_rfl)
  · exact D2.gv_val (fun _ _ _ h => h) (fun g w => by kernel_rfl)
  · exact D2.gv_call 21 #[.int .i64 0, .int .i64 3] (fun _ _ _ h => h) (at_fn 0 3 (by omega) (by omega)) (fun g w => by kernel_rfl)
  · exact D2.gv_val (fun _ _ _ h => h) (fun g w => by kernel_rfl)
  · exact D2.gv_load1 25 (.tmp 98) 1 (fun g => b4) (fun g => 15) (fun g => (Value.cells (bS24 s))) 26 (0, 0) (fun _ _ _ h => h) (fun g => by kernel_rfl) (fun g => by kernel_rfl) (fun L g hN => (by kernel_rfl)) (by kernel_rfl) (fun L g hN hF => by kernel_rfl)
  · exact D2.gv_val (fun _ _ _ h => h) (fun g w => by kernel_rfl)
  · exact D2.gv_val (fun _ _ _ h => h) (fun g w => by kernel_rfl)
  · exact D2.gv_val (fun _ _ _ h => h) (fun g w => by kernel_rfl)
  · exact D2.gv_val (fun _ _ _ h => h) (fun g w => by kernel_rfl)
  · exact D2.gv_call 21 #[.int .i64 2, .int .i64 3] (fun _ _ _ h => h) (at_fn 2 3 (by omega) (by omega)) (fun g w => by kernel_rfl)
  · exact D2.gv_val (fun _ _ _ h => h) (fun g w => by kernel_rfl)
  · exact D2.gv_load1 25 (.tmp 105) 1 (fun g => b4) (fun g => 17) (fun g => (Value.cells (bS24 s))) 26 (0, 0) (fun _ _ _ h => h) (fun g => by kernel_rfl) (fun g => by kernel_rfl) (fun L g hN => (by kernel_rfl)) (by kernel_rfl) (fun L g hN hF => by kernel_rfl)
  · exact D2.gv_valE (fun _ _ _ h => h) (V' := .int .u64 (Go.bits .and .u64 (((BitVec.toNat (~~~(pI s 16)) : Nat) : Int)) (((BitVec.toNat (pI s 17) : Nat) : Int)))) (fun g w => by kernel_rfl) ((bv_and_u64 (~~~(pI s 16)) (pI s 17)).trans (bv_congr (BitVec.and_comm _ _)))
  · exact D2.gv_valE (fun _ _ _ h => h) (V' := .int .u64 (Go.bits .xor .u64 (((BitVec.toNat (pI s 15) : Nat) : Int)) (((BitVec.toNat ((pI s 17) &&& ~~~(pI s 16)) : Nat) : Int)))) (fun g w => by kernel_rfl) (bv_xor_u64 (pI s 15) ((pI s 17) &&& ~~~(pI s 16)))
  · exact D2.gv_val (fun _ _ _ h => h) (fun g w => by kernel_rfl)
  · exact D2.gv_store 0 25 (.tmp 109) (.tmp 108) (fun g => b5) (fun g => 15) (Value.cells (oS2 s)) (Value.cells (oS3 s)) 26 (wv (xI (pI s) 15)) (fun g => by kernel_rfl) (fun g => by kernel_rfl) (fun g => by kernel_rfl) (by kernel_rfl) (by kernel_rfl) (fun g => (of_decide_eq_true (by kernel_rfl))) (fun g => (by kernel_rfl)) (fun L g hN => ⟨(by have hL18 : L 18 = false := hN.1; exact D2.ent_get' (p := true) (e := (bif L 18 then (b5, Obj.cells (Value.cells (oS3 s)) 26 (0, 0)) else (b5, Obj.cells (Value.cells (oS2 s)) 26 (0, 0)))) (by kernel_rfl) (by rfl) (by simp only [hL18, cond_true, cond_false] <;> rfl)), (by kernel_rfl)⟩) (fun L g hN hF => hF)
  intro L0 G71 w71 hall HL; clear H70
  have H71 : St w.heap.size w w71 [(b5, Obj.cells (Value.cells (oS3 s)) 26 (0, 0)), (b4, Obj.cells (Value.cells (bS24 s)) 26 (0, 0)), (b3, Obj.cells (Value.cells (cS24 s)) 44 (0, 0)), (b2, Obj.cells Z25 26 (0, 0)), (b1, Obj.cells (Value.cells (svn s)) 26 (0, 0))] := by have e18 := hall 18 (Nat.le_of_ble_eq_true (by kernel_rfl)); have hS := D2.StE.st HL.1; simp only [e18, cond_true, D2.pres] at hS; exact hS
  clear HL hall
  show WP _ _ _ _ _ _
  refine g_reg0 [0, 1, 2] (by kernel_rfl) ?_
  refine s_val (some 83) (.int .i64 3) (fun w => by kernel_rfl) (by kernel_rfl) ?_
  refine s_val (some 84) (.int .i64 4) (fun w => by kernel_rfl) (by kernel_rfl) ?_
  refine s_val (some 14) (.int .i64 4) (fun w => by kernel_rfl) (by kernel_rfl) ?_
  refine s_nil ?_
  show WPL _ _ _ _ _ _
  refine g_next ?_
  refine g_seq (by kernel_rfl) ?_
  refine g_sreg [0, 1] (by kernel_rfl) (by kernel_rfl) ?_
  refine s_val (some 81) (.int .i64 4) (fun w => by kernel_rfl) (by kernel_rfl) ?_
  refine s_val (some 82) (.bool true) (fun w => by kernel_rfl) (by kernel_rfl) ?_
  refine s_nil ?_
  refine g_cond_t (by kernel_rfl) (by kernel_rfl) ?_
  refine g_skip (by kernel_rfl) ?_
  show WP _ _ _ _ _ _
  refine g_seq (by kernel_rfl) ?_
  refine g_block 11 (by kernel_rfl) ?_
  refine g_sreg [0, 1, 2, 3, 4, 5, 6, 7] (by kernel_rfl) (by kernel_rfl) ?_
  refine s_val (some 85) (.int .i64 0) (fun w => by kernel_rfl) (by kernel_rfl) ?_
  refine s_val (some 86) (.int .i64 1) (fun w => by kernel_rfl) (by kernel_rfl) ?_
  refine s_val (some 87) (.int .i64 4) (fun w => by kernel_rfl) (by kernel_rfl) ?_
  refine s_call H71 (some 88) 21 #[.int .i64 1, .int .i64 4] (.int .i64 21) (at_fn 1 4 (by omega) (by omega)) (fun w => by kernel_rfl) (by kernel_rfl) ?_
  intro w72 H72; clear H71
  refine s_val (some 89) (.pointer (some ⟨b4, 21, none⟩)) (fun w => by kernel_rfl) (by kernel_rfl) ?_
  refine s_load1 H72 (some 90) 25 (.tmp 89) 1 b4 21 (Value.cells (bS24 s)) 26 (0, 0) (wv (pI s 21)) (by kernel_rfl) (by kernel_rfl) (by kernel_rfl) (by kernel_rfl) (by kernel_rfl) (by kernel_rfl) ?_
  refine s_valE (some 91) (.int .u64 (IntKind.u64.wrap ((18446744073709551615) - (((BitVec.toNat (pI s 21) : Nat) : Int))))) (wv (~~~(pI s 21))) (fun w => by kernel_rfl) ((bv_sub_u64 (18446744073709551615 : BitVec 64) (pI s 21)).trans (bv_congr (sub_not (pI s 21)))) (by kernel_rfl) ?_
  refine s_val (some 15) (wv (~~~(pI s 21))) (fun w => by kernel_rfl) (by kernel_rfl) ?_
  refine s_nil ?_
  refine D2.g_draw0 [0, 1, 2, 3, 4, 5, 6, 7, 8, 9, 10, 11, 12, 13, 14, 15, 16, 17, 18] [((some 92), fun _ => .int .i64 0), ((some 93), fun _ => .int .i64 4), ((some 94), fun _ => .int .i64 20), ((some 95), fun _ => .int .i64 0), ((some 96), fun _ => .int .i64 4), ((some 97), fun _ => .int .i64 20), ((some 98), fun _ => .pointer (some ⟨b4, 20, none⟩)), ((some 99), fun _ => wv (pI s 20)), ((some 100), fun _ => wv (~~~(pI s 21))), ((some 101), fun _ => .int .i64 0), ((some 102), fun _ => .int .i64 2), ((some 103), fun _ => .int .i64 4), ((some 104), fun _ => .int .i64 22), ((some 105), fun _ => .pointer (some ⟨b4, 22, none⟩)), ((some 106), fun _ => wv (pI s 22)), ((some 107), fun _ => wv ((pI s 22) &&& ~~~(pI s 21))), ((some 108), fun _ => wv (xI (pI s) 20)), ((some 109), fun _ => .pointer (some ⟨b5, 20, none⟩)), (none, fun _ => undef)] (D2.Pre w.heap.size w (fun L g => [(true, (bif L 18 then (b5, Obj.cells (Value.cells (oS4 s)) 26 (0, 0)) else (b5, Obj.cells (Value.cells (oS3 s)) 26 (0, 0)))), (true, (b4, Obj.cells (Value.cells (bS24 s)) 26 (0, 0))), (true, (b3, Obj.cells (Value.cells (cS24 s)) 44 (0, 0))), (true, (b2, Obj.cells Z25 26 (0, 0))), (true, (b1, Obj.cells (Value.cells (svn s)) 26 (0, 0)))]) (fun L g => True)) (by kernel_rfl) (by kernel_rfl) (by kernel_rfl) ⟨D2.StE.of H72.drew _ (by kernel_rfl), trivial⟩ ⟨?_, ?_, ?_, ?_, ?_, ?_, ?_, ?_, ?_, ?_, ?_, ?_, ?_, ?_, ?_, ?_, ?_, ?_, ?_, trivial⟩ ?_
  · exact D2.gv_val (fun _ _ _ h => h) (fun g w => by kernel_rfl)
  · exact D2.gv_val (fun _ _ _ h => h) (fun g w => by kernel_rfl)
  · exact D2.gv_call 21 #[.int .i64 0, .int .i64 4] (fun _ _ _ h => h) (at_fn 0 4 (by omega) (by omega)) (fun g w => by kernel_rfl)
  · exact D2.gv_val (fun _ _ _ h => h) (fun g w => by kernel_rfl)
  · exact D2.gv_val (fun _ _ _ h => h) (fun g w => by kernel_rfl)
  · exact D2.gv_call 21 #[.int .i64 0, .int .i64 4] (fun _ _ _ h => h) (at_fn 0 4 (by omega) (by omega)) (fun g w => by kernel_rfl)
  · exact D2.gv_val (fun _ _ _ h => h) (fun g w => by kernel_rfl)
  · exact D2.gv_load1 25 (.tmp 98) 1 (fun g => b4) (fun g => 20) (fun g => (Value.cells (bS24 s))) 26 (0, 0) (fun _ _ _ h => h) (fun g => by kernel_rfl) (fun g => by kernel_rfl) (fun L g hN => (by kernel_rfl)) (by kernel_rfl) (fun L g hN hF => by kernel_rfl)
  · exact D2.gv_val (fun _ _ _ h => h) (fun g w => by kernel_rfl)
  · exact D2.gv_val (fun _ _ _ h => h) (fun g w => by kernel_rfl)
  · exact D2.gv_val (fun _ _ _ h => h) (fun g w => by kernel_rfl)
  · exact D2.gv_val (fun _ _ _ h => h) (fun g w => by kernel_rfl)
  · exact D2.gv_call 21 #[.int .i64 2, .int .i64 4] (fun _ _ _ h => h) (at_fn 2 4 (by omega) (by omega)) (fun g w => by kernel_rfl)
  · exact D2.gv_val (fun _ _ _ h => h) (fun g w => by kernel_rfl)
  · exact D2.gv_load1 25 (.tmp 105) 1 (fun g => b4) (fun g => 22) (fun g => (Value.cells (bS24 s))) 26 (0, 0) (fun _ _ _ h => h) (fun g => by kernel_rfl) (fun g => by kernel_rfl) (fun L g hN => (by kernel_rfl)) (by kernel_rfl) (fun L g hN hF => by kernel_rfl)
  · exact D2.gv_valE (fun _ _ _ h => h) (V' := .int .u64 (Go.bits .and .u64 (((BitVec.toNat (~~~(pI s 21)) : Nat) : Int)) (((BitVec.toNat (pI s 22) : Nat) : Int)))) (fun g w => by kernel_rfl) ((bv_and_u64 (~~~(pI s 21)) (pI s 22)).trans (bv_congr (BitVec.and_comm _ _)))
  · exact D2.gv_valE (fun _ _ _ h => h) (V' := .int .u64 (Go.bits .xor .u64 (((BitVec.toNat (pI s 20) : Nat) : Int)) (((BitVec.toNat ((pI s 22) &&& ~~~(pI s 21)) : Nat) : Int)))) (fun g w => by kernel_rfl) (bv_xor_u64 (pI s 20) ((pI s 22) &&& ~~~(pI s 21)))
  · exact D2.gv_val (fun _ _ _ h => h) (fun g w => by kernel_rfl)
  · exact D2.gv_store 0 25 (.tmp 109) (.tmp 108) (fun g => b5) (fun g => 20) (Value.cells (oS3 s)) (Value.cells (oS4 s)) 26 (wv (xI (pI s) 20)) (fun g => by kernel_rfl) (fun g => by kernel_rfl) (fun g => by kernel_rfl) (by kernel_rfl) (by kernel_rfl) (fun g => (of_decide_eq_true (by kernel_rfl))) (fun g => (by kernel_rfl)) (fun L g hN => ⟨(by have hL18 : L 18 = false := hN.1; exact D2.ent_get' (p := true) (e := (bif L 18 then (b5, Obj.cells (Value.cells (oS4 s)) 26 (0, 0)) else (b5, Obj.cells (Value.cells (oS3 s)) 26 (0, 0)))) (by kernel_rfl) (by rfl) (by simp only [hL18, cond_true, cond_false] <;> rfl)), (by kernel_rfl)⟩) (fun L g hN hF => hF)
  intro L0 G73 w73 hall HL; clear H72
  have H73 : St w.heap.size w w73 [(b5, Obj.cells (Value.cells (oS4 s)) 26 (0, 0)), (b4, Obj.cells (Value.cells (bS24 s)) 26 (0, 0)), (b3, Obj.cells (Value.cells (cS24 s)) 44 (0, 0)), (b2, Obj.cells Z25 26 (0, 0)), (b1, Obj.cells (Value.cells (svn s)) 26 (0, 0))] := by have e18 := hall 18 (Nat.le_of_ble_eq_true (by kernel_rfl)); have hS := D2.StE.st HL.1; simp only [e18, cond_true, D2.pres] at hS; exact hS
  clear HL hall
  show WP _ _ _ _ _ _
  refine g_reg0 [0, 1, 2] (by kernel_rfl) ?_
  refine s_val (some 83) (.int .i64 4) (fun w => by kernel_rfl) (by kernel_rfl) ?_
  refine s_val (some 84) (.int .i64 5) (fun w => by kernel_rfl) (by kernel_rfl) ?_
  refine s_val (some 14) (.int .i64 5) (fun w => by kernel_rfl) (by kernel_rfl) ?_
  refine s_nil ?_
  show WPL _ _ _ _ _ _
  refine g_next ?_
  refine g_seq (by kernel_rfl) ?_
  refine g_sreg [0, 1] (by kernel_rfl) (by kernel_rfl) ?_
  refine s_val (some 81) (.int .i64 5) (fun w => by kernel_rfl) (by kernel_rfl) ?_
  refine s_val (some 82) (.bool false) (fun w => by kernel_rfl) (by kernel_rfl) ?_
  refine s_nil ?_
  refine g_cond_f (by kernel_rfl) (by kernel_rfl) ?_
  refine g_exit 10 (by kernel_rfl) ?_
  show WP _ _ _ _ _ _
  refine g_reg0 [0, 1, 2] (by kernel_rfl) ?_
  refine s_val (some 79) (.int .i64 0) (fun w => by kernel_rfl) (by kernel_rfl) ?_
  refine s_val (some 80) (.int .i64 1) (fun w => by kernel_rfl) (by kernel_rfl) ?_
  refine s_val (some 13) (.int .i64 1) (fun w => by kernel_rfl) (by kernel_rfl) ?_
  refine s_nil ?_
  show WPL _ _ _ _ _ _
  refine g_next ?_
  refine g_seq (by kernel_rfl) ?_
  refine g_sreg [0, 1] (by kernel_rfl) (by kernel_rfl) ?_
  refine s_val (some 77) (.int .i64 1) (fun w => by kernel_rfl) (by kernel_rfl) ?_
  refine s_val (some 78) (.bool true) (fun w => by kernel_rfl) (by kernel_rfl) ?_
  refine s_nil ?_
  refine g_cond_t (by kernel_rfl) (by kernel_rfl) ?_
  refine g_skip (by kernel_rfl) ?_
  show WP _ _ _ _ _ _
  refine g_seq (by kernel_rfl) ?_
  refine g_block 9 (by kernel_rfl) ?_
  refine g_sreg [0] (by kernel_rfl) (by kernel_rfl) ?_
  refine s_val (some 14) (.int .i64 0) (fun w => by kernel_rfl) (by kernel_rfl) ?_
  refine s_nil ?_
  refine g_block 10 (by kernel_rfl) ?_
  refine g_first (by kernel_rfl) ?_
  refine g_seq (by kernel_rfl) ?_
  refine g_sreg [0, 1] (by kernel_rfl) (by kernel_rfl) ?_
  refine s_val (some 81) (.int .i64 0) (fun w => by kernel_rfl) (by kernel_rfl) ?_
  refine s_val (some 82) (.bool true) (fun w => by kernel_rfl) (by kernel_rfl) ?_
  refine s_nil ?_
  refine g_cond_t (by kernel_rfl) (by kernel_rfl) ?_
  refine g_skip (by kernel_rfl) ?_
  show WP _ _ _ _ _ _
  refine g_seq (by kernel_rfl) ?_
  refine g_block 11 (by kernel_rfl) ?_
  refine g_sreg [0, 1, 2, 3, 4, 5, 6, 7] (by kernel_rfl) (by kernel_rfl) ?_
  refine s_val (some 85) (.int .i64 1) (fun w => by kernel_rfl) (by kernel_rfl) ?_
  refine s_val (some 86) (.int .i64 2) (fun w => by kernel_rfl) (by kernel_rfl) ?_
  refine s_val (some 87) (.int .i64 0) (fun w => by kernel_rfl) (by kernel_rfl) ?_
  refine s_call H73 (some 88) 21 #[.int .i64 2, .int .i64 0] (.int .i64 2) (at_fn 2 0 (by omega) (by omega)) (fun w => by kernel_rfl) (by kernel_rfl) ?_
  intro w74 H74; clear H73
  refine s_val (some 89) (.pointer (some ⟨b4, 2, none⟩)) (fun w => by kernel_rfl) (by kernel_rfl) ?_
  refine s_load1 H74 (some 90) 25 (.tmp 89) 1 b4 2 (Value.cells (bS24 s)) 26 (0, 0) (wv (pI s 2)) (by kernel_rfl) (by kernel_rfl) (by kernel_rfl) (by kernel_rfl) (by kernel_rfl) (by kernel_rfl) ?_
  refine s_valE (some 91) (.int .u64 (IntKind.u64.wrap ((18446744073709551615) - (((BitVec.toNat (pI s 2) : Nat) : Int))))) (wv (~~~(pI s 2))) (fun w => by kernel_rfl) ((bv_sub_u64 (18446744073709551615 : BitVec 64) (pI s 2)).trans (bv_congr (sub_not (pI s 2)))) (by kernel_rfl) ?_
  refine s_val (some 15) (wv (~~~(pI s 2))) (fun w => by kernel_rfl) (by kernel_rfl) ?_
  refine s_nil ?_
  refine D2.g_draw0 [0, 1, 2, 3, 4, 5, 6, 7, 8, 9, 10, 11, 12, 13, 14, 15, 16, 17, 18] [((some 92), fun _ => .int .i64 1), ((some 93), fun _ => .int .i64 0), ((some 94), fun _ => .int .i64 1), ((some 95), fun _ => .int .i64 1), ((some 96), fun _ => .int .i64 0), ((some 97), fun _ => .int .i64 1), ((some 98), fun _ => .pointer (some ⟨b4, 1, none⟩)), ((some 99), fun _ => wv (pI s 1)), ((some 100), fun _ => wv (~~~(pI s 2))), ((some 101), fun _ => .int .i64 1), ((some 102), fun _ => .int .i64 3), ((some 103), fun _ => .int .i64 0), ((some 104), fun _ => .int .i64 3), ((some 105), fun _ => .pointer (some ⟨b4, 3, none⟩)), ((some 106), fun _ => wv (pI s 3)), ((some 107), fun _ => wv ((pI s 3) &&& ~~~(pI s 2))), ((some 108), fun _ => wv (xI (pI s) 1)), ((some 109), fun _ => .pointer (some ⟨b5, 1, none⟩)), (none, fun _ => undef)] (D2.Pre w.heap.size w (fun L g => [(true, (bif L 18 then (b5, Obj.cells (Value.cells (oS5 s)) 26 (0, 0)) else (b5, Obj.cells (Value.cells (oS4 s)) 26 (0, 0)))), (true, (b4, Obj.cells (Value.cells (bS24 s)) 26 (0, 0))), (true, (b3, Obj.cells (Value.cells (cS24 s)) 44 (0, 0))), (true, (b2, Obj.cells Z25 26 (0, 0))), (true, (b1, Obj.cells (Value.cells (svn s)) 26 (0, 0)))]) (fun L g => True)) (by kernel_rfl) (by kernel_rfl) (by kernel_rfl) ⟨D2.StE.of H74.drew _ (by kernel_rfl), trivial⟩ ⟨?_, ?_, ?_, ?_, ?_, ?_, ?_, ?_, ?_, ?_, ?_, ?_, ?_, ?_, ?_, ?_, ?_, ?_, ?_, trivial⟩ ?_
  · exact D2.gv_val (fun _ _ _ h => h) (fun g w => by kernel_rfl)
  · exact D2.gv_val (fun _ _ _ h => h) (fun g w => by kernel_rfl)
  · exact D2.gv_call 21 #[.int .i64 1, .int .i64 0] (fun _ _ _ h => h) (at_fn 1 0 (by omega) (by omega)) (fun g w => by kernel_rfl)
  · exact D2.gv_val (fun _ _ _ h => h) (fun g w => by kernel_rfl)
  · exact D2.gv_val (fun _ _ _ h => h) (fun g w => by kernel_rfl)
  · exact D2.gv_call 21 #[.int .i64 1, .int .i64 0] (fun _ _ _ h => h) (at_fn 1 0 (by omega) (by omega)) (fun g w => by kernel_rfl)
  · exact D2.gv_val (fun _ _ _ h => h) (fun g w => by kernel_rfl)
  · exact D2.gv_load1 25 (.tmp 98) 1 (fun g => b4) (fun g => 1) (fun g => (Value.cells (bS24 s))) 26 (0, 0) (fun _ _ _ h => h) (fun g => by kernel_rfl) (fun g => by kernel_rfl) (fun L g hN => (by kernel_rfl)) (by kernel_rfl) (fun L g hN hF => by kernel_rfl)
  · exact D2.gv_val (fun _ _ _ h => h) (fun g w => by kernel_rfl)
  · exact D2.gv_val (fun _ _ _ h => h) (fun g w => by kernel_rfl)
  · exact D2.gv_val (fun _ _ _ h => h) (fun g w => by kernel_rfl)
  · exact D2.gv_val (fun _ _ _ h => h) (fun g w => by kernel_rfl)
  · exact D2.gv_call 21 #[.int .i64 3, .int .i64 0] (fun _ _ _ h => h) (at_fn 3 0 (by omega) (by omega)) (fun g w => by kernel_rfl)
  · exact D2.gv_val (fun _ _ _ h => h) (fun g w => by kernel_rfl)
  · exact D2.gv_load1 25 (.tmp 105) 1 (fun g => b4) (fun g => 3) (fun g => (Value.cells (bS24 s))) 26 (0, 0) (fun _ _ _ h => h) (fun g => by kernel_rfl) (fun g => by kernel_rfl) (fun L g hN => (by kernel_rfl)) (by kernel_rfl) (fun L g hN hF => by kernel_rfl)
  · exact D2.gv_valE (fun _ _ _ h => h) (V' := .int .u64 (Go.bits .and .u64 (((BitVec.toNat (~~~(pI s 2)) : Nat) : Int)) (((BitVec.toNat (pI s 3) : Nat) : Int)))) (fun g w => by kernel_rfl) ((bv_and_u64 (~~~(pI s 2)) (pI s 3)).trans (bv_congr (BitVec.and_comm _ _)))
  · exact D2.gv_valE (fun _ _ _ h => h) (V' := .int .u64 (Go.bits .xor .u64 (((BitVec.toNat (pI s 1) : Nat) : Int)) (((BitVec.toNat ((pI s 3) &&& ~~~(pI s 2)) : Nat) : Int)))) (fun g w => by kernel_rfl) (bv_xor_u64 (pI s 1) ((pI s 3) &&& ~~~(pI s 2)))
  · exact D2.gv_val (fun _ _ _ h => h) (fun g w => by kernel_rfl)
  · exact D2.gv_store 0 25 (.tmp 109) (.tmp 108) (fun g => b5) (fun g => 1) (Value.cells (oS4 s)) (Value.cells (oS5 s)) 26 (wv (xI (pI s) 1)) (fun g => by kernel_rfl) (fun g => by kernel_rfl) (fun g => by kernel_rfl) (by kernel_rfl) (by kernel_rfl) (fun g => (of_decide_eq_true (by kernel_rfl))) (fun g => (by kernel_rfl)) (fun L g hN => ⟨(by have hL18 : L 18 = false := hN.1; exact D2.ent_get' (p := true) (e := (bif L 18 then (b5, Obj.cells (Value.cells (oS5 s)) 26 (0, 0)) else (b5, Obj.cells (Value.cells (oS4 s)) 26 (0, 0)))) (by kernel_rfl) (by rfl) (by simp only [hL18, cond_true, cond_false] <;> rfl)), (by kernel_rfl)⟩) (fun L g hN hF => hF)
  intro L0 G75 w75 hall HL; clear H74
  have H75 : St w.heap.size w w75 [(b5, Obj.cells (Value.cells (oS5 s)) 26 (0, 0)), (b4, Obj.cells (Value.cells (bS24 s)) 26 (0, 0)), (b3, Obj.cells (Value.cells (cS24 s)) 44 (0, 0)), (b2, Obj.cells Z25 26 (0, 0)), (b1, Obj.cells (Value.cells (svn s)) 26 (0, 0))] := by have e18 := hall 18 (Nat.le_of_ble_eq_true (by kernel_rfl)); have hS := D2.StE.st HL.1; simp only [e18, cond_true, D2.pres] at hS; exact hS
  clear HL hall
  show WP _ _ _ _ _ _
  refine g_reg0 [0, 1, 2] (by kernel_rfl) ?_
  refine s_val (some 83) (.int .i64 0) (fun w => by kernel_rfl) (by kernel_rfl) ?_
  refine s_val (some 84) (.int .i64 1) (fun w => by kernel_rfl) (by kernel_rfl) ?_
  refine s_val (some 14) (.int .i64 1) (fun w => by kernel_rfl) (by kernel_rfl) ?_
  refine s_nil ?_
  show WPL _ _ _ _ _ _
  refine g_next ?_
  refine g_seq (by kernel_rfl) ?_
  refine g_sreg [0, 1] (by kernel_rfl) (by kernel_rfl) ?_
  refine s_val (some 81) (.int .i64 1) (fun w => by kernel_rfl) (by kernel_rfl) ?_
  refine s_val (some 82) (.bool true) (fun w => by kernel_rfl) (by kernel_rfl) ?_
  refine s_nil ?_
  refine g_cond_t (by kernel_rfl) (by kernel_rfl) ?_
  refine g_skip (by kernel_rfl) ?_
  show WP _ _ _ _ _ _
  refine g_seq (by kernel_rfl) ?_
  refine g_block 11 (by kernel_rfl) ?_
  refine g_sreg [0, 1, 2, 3, 4, 5, 6, 7] (by kernel_rfl) (by kernel_rfl) ?_
  refine s_val (some 85) (.int .i64 1) (fun w => by kernel_rfl) (by kernel_rfl) ?_
  refine s_val (some 86) (.int .i64 2) (fun w => by kernel_rfl) (by kernel_rfl) ?_
  refine s_val (some 87) (.int .i64 1) (fun w => by kernel_rfl) (by kernel_rfl) ?_
  refine s_call H75 (some 88) 21 #[.int .i64 2, .int .i64 1] (.int .i64 7) (at_fn 2 1 (by omega) (by omega)) (fun w => by kernel_rfl) (by kernel_rfl) ?_
  intro w76 H76; clear H75
  refine s_val (some 89) (.pointer (some ⟨b4, 7, none⟩)) (fun w => by kernel_rfl) (by kernel_rfl) ?_
  refine s_load1 H76 (some 90) 25 (.tmp 89) 1 b4 7 (Value.cells (bS24 s)) 26 (0, 0) (wv (pI s 7)) (by kernel_rfl) (by kernel_rfl) (by kernel_rfl) (by kernel_rfl) (by kernel_rfl) (by kernel_rfl) ?_
  refine s_valE (some 91) (.int .u64 (IntKind.u64.wrap ((18446744073709551615) - (((BitVec.toNat (pI s 7) : Nat) : Int))))) (wv (~~~(pI s 7))) (fun w => by kernel_rfl) ((bv_sub_u64 (18446744073709551615 : BitVec 64) (pI s 7)).trans (bv_congr (sub_not (pI s 7)))) (by kernel_rfl) ?_
  refine s_val (some 15) (wv (~~~(pI s 7))) (fun w => by kernel_rfl) (by kernel_rfl) ?_
  refine s_nil ?_
  refine D2.g_draw0 [0, 1, 2, 3, 4, 5, 6, 7, 8, 9, 10, 11, 12, 13, 14, 15, 16, 17, 18] [((some 92), fun _ => .int .i64 1), ((some 93), fun _ => .int .i64 1), ((some 94), fun _ => .int .i64 6), ((some 95), fun _ => .int .i64 1), ((some 96), fun _ => .int .i64 1), ((some 97), fun _ => .int .i64 6), ((some 98), fun _ => .pointer (some ⟨b4, 6, none⟩)), ((some 99), fun _ => wv (pI s 6)), ((some 100), fun _ => wv (~~~(pI s 7))), ((some 101), fun _ => .int .i64 1), ((some 102), fun _ => .int .i64 3), ((some 103), fun _ => .int .i64 1), ((some 104), fun _ => .int .i64 8), ((some 105), fun _ => .pointer (some ⟨b4, 8, none⟩)), ((some 106), fun _ => wv (pI s 8)), ((some 107), fun _ => wv ((pI s 8) &&& ~~~(pI s 7))), ((some 108), fun _ => wv (xI (pI s) 6)), ((some 109), fun _ => .pointer (some ⟨b5, 6, none⟩)), (none, fun _ => undef)] (D2.Pre w.heap.size w (fun L g => [(true, (bif L 18 then (b5, Obj.cells (Value.cells (oS6 s)) 26 (0, 0)) else (b5, Obj.cells (Value.cells (oS5 s)) 26 (0, 0)))), (true, (b4, Obj.cells (Value.cells (bS24 s)) 26 (0, 0))), (true, (b3, Obj.cells (Value.cells (cS24 s)) 44 (0, 0))), (true, (b2, Obj.cells Z25 26 (0, 0))), (true, (b1, Obj.cells (Value.cells (svn s)) 26 (0, 0)))]) (fun L g => True)) (by kernel_rfl) (by kernel_rfl) (by kernel_rfl) ⟨D2.StE.of H76.drew _ (by kernel_rfl), trivial⟩ ⟨?_, ?_, ?_, ?_, ?_, ?_, ?_, ?_, ?_, ?_, ?_, ?_, ?_, ?_, ?_, ?_, ?_, ?_, ?_, trivial⟩ ?_
  · exact D2.gv_val (fun _ _ _ h => h) (fun g w => by kernel_rfl)
  · exact D2.gv_val (fun _ _ _ h => h) (fun g w => by kernel_rfl)
  · exact D2.gv_call 21 #[.int .i64 1, .int .i64 1] (fun _ _ _ h => h) (at_fn 1 1 (by omega) (by omega)) (fun g w => by kernel_rfl)
  · exact D2.gv_val (fun _ _ _ h => h) (fun g w => by kernel_rfl)
  · exact D2.gv_val (fun _ _ _ h => h) (fun g w => by kernel_rfl)
  · exact D2.gv_call 21 #[.int .i64 1, .int .i64 1] (fun _ _ _ h => h) (at_fn 1 1 (by omega) (by omega)) (fun g w => by kernel_rfl)
  · exact D2.gv_val (fun _ _ _ h => h) (fun g w => by kernel_rfl)
  · exact D2.gv_load1 25 (.tmp 98) 1 (fun g => b4) (fun g => 6) (fun g => (Value.cells (bS24 s))) 26 (0, 0) (fun _ _ _ h => h) (fun g => by kernel_rfl) (fun g => by kernel_rfl) (fun L g hN => (by kernel_rfl)) (by kernel_rfl) (fun L g hN hF => by kernel_rfl)
  · exact D2.gv_val (fun _ _ _ h => h) (fun g w => by kernel_rfl)
  · exact D2.gv_val (fun _ _ _ h => h) (fun g w => by kernel_rfl)
  · exact D2.gv_val (fun _ _ _ h => h) (fun g w => by kernel_rfl)
  · exact D2.gv_val (fun _ _ _ h => h) (fun g w => by kernel_rfl)
  · exact D2.gv_call 21 #[.int .i64 3, .int .i64 1] (fun _ _ _ h => h) (at_fn 3 1 (by omega) (by omega)) (fun g w => by kernel_rfl)
  · exact D2.gv_val (fun _ _ _ h => h) (fun g w => by kernel_rfl)
  · exact D2.gv_load1 25 (.tmp 105) 1 (fun g => b4) (fun g => 8) (fun g => (Value.cells (bS24 s))) 26 (0, 0) (fun _ _ _ h => h) (fun g => by kernel_rfl) (fun g => by kernel_rfl) (fun L g hN => (by kernel_rfl)) (by kernel_rfl) (fun L g hN hF => by kernel_rfl)
  · exact D2.gv_valE (fun _ _ _ h => h) (V' := .int .u64 (Go.bits .and .u64 (((BitVec.toNat (~~~(pI s 7)) : Nat) : Int)) (((BitVec.toNat (pI s 8) : Nat) : Int)))) (fun g w => by kernel_rfl) ((bv_and_u64 (~~~(pI s 7)) (pI s 8)).trans (bv_congr (BitVec.and_comm _ _)))
  · exact D2.gv_valE (fun _ _ _ h => h) (V' := .int .u64 (Go.bits .xor .u64 (((BitVec.toNat (pI s 6) : Nat) : Int)) (((BitVec.toNat ((pI s 8) &&& ~~~(pI s 7)) : Nat) : Int)))) (fun g w => by kernel_rfl) (bv_xor_u64 (pI s 6) ((pI s 8) &&& ~~~(pI s 7)))
  · exact D2.gv_val (fun _ _ _ h => h) (fun g w => by kernel_rfl)
  · exact D2.gv_store 0 25 (.tmp 109) (.tmp 108) (fun g => b5) (fun g => 6) (Value.cells (oS5 s)) (Value.cells (oS6 s)) 26 (wv (xI (pI s) 6)) (fun g => by kernel_rfl) (fun g => by kernel_rfl) (fun g => by kernel_rfl) (by kernel_rfl) (by kernel_rfl) (fun g => (of_decide_eq_true (by kernel_rfl))) (fun g => (by kernel_rfl)) (fun L g hN => ⟨(by have hL18 : L 18 = false := hN.1; exact D2.ent_get' (p := true) (e := (bif L 18 then (b5, Obj.cells (Value.cells (oS6 s)) 26 (0, 0)) else (b5, Obj.cells (Value.cells (oS5 s)) 26 (0, 0)))) (by kernel_rfl) (by rfl) (by simp only [hL18, cond_true, cond_false] <;> rfl)), (by kernel_rfl)⟩) (fun L g hN hF => hF)
  intro L0 G77 w77 hall HL; clear H76
  have H77 : St w.heap.size w w77 [(b5, Obj.cells (Value.cells (oS6 s)) 26 (0, 0)), (b4, Obj.cells (Value.cells (bS24 s)) 26 (0, 0)), (b3, Obj.cells (Value.cells (cS24 s)) 44 (0, 0)), (b2, Obj.cells Z25 26 (0, 0)), (b1, Obj.cells (Value.cells (svn s)) 26 (0, 0))] := by have e18 := hall 18 (Nat.le_of_ble_eq_true (by kernel_rfl)); have hS := D2.StE.st HL.1; simp only [e18, cond_true, D2.pres] at hS; exact hS
  clear HL hall
  show WP _ _ _ _ _ _
  refine g_reg0 [0, 1, 2] (by kernel_rfl) ?_
  refine s_val (some 83) (.int .i64 1) (fun w => by kernel_rfl) (by kernel_rfl) ?_
  refine s_val (some 84) (.int .i64 2) (fun w => by kernel_rfl) (by kernel_rfl) ?_
  refine s_val (some 14) (.int .i64 2) (fun w => by kernel_rfl) (by kernel_rfl) ?_
  refine s_nil ?_
  show WPL _ _ _ _ _ _
  refine g_next ?_
  refine g_seq (by kernel_rfl) ?_
  refine g_sreg [0, 1] (by kernel_rfl) (by kernel_rfl) ?_
  refine s_val (some 81) (.int .i64 2) (fun w => by kernel_rfl) (by kernel_rfl) ?_
  refine s_val (some 82) (.bool true) (fun w => by kernel_rfl) (by kernel_rfl) ?_
  refine s_nil ?_
  refine g_cond_t (by kernel_rfl) (by kernel_rfl) ?_
  refine g_skip (by kernel_rfl) ?_
  show WP _ _ _ _ _ _
  refine g_seq (by kernel_rfl) ?_
  refine g_block 11 (by kernel_rfl) ?_
  refine g_sreg [0, 1, 2, 3, 4, 5, 6, 7] (by kernel_rfl) (by kernel_rfl) ?_
  refine s_val (some 85) (.int .i64 1) (fun w => by kernel_rfl) (by kernel_rfl) ?_
  refine s_val (some 86) (.int .i64 2) (fun w => by kernel_rfl) (by kernel_rfl) ?_
  refine s_val (some 87) (.int .i64 2) (fun w => by kernel_rfl) (by kernel_rfl) ?_
  refine s_call H77 (some 88) 21 #[.int .i64 2, .int .i64 2] (.int .i64 12) (at_fn 2 2 (by omega) (by omega)) (fun w => by kernel_rfl) (by kernel_rfl) ?_
  intro w78 H78; clear H77
  refine s_val (some 89) (.pointer (some ⟨b4, 12, none⟩)) (fun w => by kernel_rfl) (by kernel_rfl) ?_
  refine s_load1 H78 (some 90) 25 (.tmp 89) 1 b4 12 (Value.cells (bS24 s)) 26 (0, 0) (wv (pI s 12)) (by kernel_rfl) (by kernel_rfl) (by kernel_rfl) (by kernel_rfl) (by kernel_rfl) (by kernel_rfl) ?_
  refine s_valE (some 91) (.int .u64 (IntKind.u64.wrap ((18446744073709551615) - (((BitVec.toNat (pI s 12) : Nat) : Int))))) (wv (~~~(pI s 12))) (fun w => by kernel_rfl) ((bv_sub_u64 (18446744073709551615 : BitVec 64) (pI s 12)).trans (bv_congr (sub_not (pI s 12)))) (by kernel_rfl) ?_
  refine s_val (some 15) (wv (~~~(pI s 12))) (fun w => by kernel_rfl) (by kernel_rfl) ?_
  refine s_nil ?_
  refine D2.g_draw0 [0, 1, 2, 3, 4, 5, 6, 7, 8, 9, 10, 11, 12, 13, 14, 15, 16, 17, 18] [((some 92), fun _ => .int .i64 1), ((some 93), fun _ => .int .i64 2), ((some 94), fun _ => .int .i64 11), ((some 95), fun _ => .int .i64 1), ((some 96), fun _ => .int .i64 2), ((some 97), fun _ => .int .i64 11), ((some 98), fun _ => .pointer (some ⟨b4, 11, none⟩)), ((some 99), fun _ => wv (pI s 11)), ((some 100), fun _ => wv (~~~(pI s 12))), ((some 101), fun _ => .int .i64 1), ((some 102), fun _ => .int .i64 3), ((some 103), fun _ => .int .i64 2), ((some 104), fun _ => .int .i64 13), ((some 105), fun _ => .pointer (some ⟨b4, 13, none⟩)), ((some 106), fun _ => wv (pI s 13)), ((some 107), fun _ => wv ((pI s 13) &&& ~~~(pI s 12))), ((some 108), fun _ => wv (xI (pI s) 11)), ((some 109), fun _ => .pointer (some ⟨b5, 11, none⟩)), (none, fun _ => undef)] (D2.Pre w.heap.size w (fun L g => [(true, (bif L 18 then (b5, Obj.cells (Value.cells (oS7 s)) 26 (0, 0)) else (b5, Obj.cells (Value.cells (oS6 s)) 26 (0, 0)))), (true, (b4, Obj.cells (Value.cells (bS24 s)) 26 (0, 0))), (true, (b3, Obj.cells (Value.cells (cS24 s)) 44 (0, 0))), (true, (b2, Obj.cells Z25 26 (0, 0))), (true, (b1, Obj.cells (Value.cells (svn s)) 26 (0, 0)))]) (fun L g => True)) (by kernel_rfl) (by kernel_rfl) (by kernel_rfl) ⟨D2.StE.of H78.drew _ (by kernel_rfl), trivial⟩ ⟨?_, ?_, ?_, ?_, ?_, ?_, ?_, ?_, ?_, ?_, ?_, ?_, ?_, ?_, ?_, ?_, ?_, ?_, ?_, trivial⟩ ?_
  · exact D2.gv_val (fun _ _ _ h => h) (fun g w => by kernel_rfl)
  · exact D2.gv_val (fun _ _ _ h => h) (fun g w => by kernel_rfl)
  · exact D2.gv_call 21 #[.int .i64 1, .int .i64 2] (fun _ _ _ h => h) (at_fn 1 2 (by omega) (by omega)) (fun g w => by kernel_rfl)
  · exact D2.gv_val (fun _ _ _ h => h) (fun g w => by kernel_rfl)
  · exact D2.gv_val (fun _ _ _ h => h) (fun g w => by kernel_rfl)
  · exact D2.gv_call 21 #[.int .i64 1, .int .i64 2] (fun _ _ _ h => h) (at_fn 1 2 (by omega) (by omega)) (fun g w => by kernel_rfl)
  · exact D2.gv_val (fun _ _ _ h => h) (fun g w => by kernel_rfl)
  · exact D2.gv_load1 25 (.tmp 98) 1 (fun g => b4) (fun g => 11) (fun g => (Value.cells (bS24 s))) 26 (0, 0) (fun _ _ _ h => h) (fun g => by kernel_rfl) (fun g => by kernel_rfl) (fun L g hN => (by kernel_rfl)) (by kernel_rfl) (fun L g hN hF => by kernel_rfl)
  · exact D2.gv_val (fun _ _ _ h => h) (fun g w => by kernel_rfl)
  · exact D2.gv_val (fun _ _ _ h => h) (fun g w => by kernel_rfl)
  · exact D2.gv_val (fun _ _ _ h => h) (fun g w => by kernel_rfl)
  · exact D2.gv_val (fun _ _ _ h => h) (fun g w => by kernel_rfl)
  · exact D2.gv_call 21 #[.int .i64 3, .int .i64 2] (fun _ _ _ h => h) (at_fn 3 2 (by omega) (by omega)) (fun g w => by kernel_rfl)
  · exact D2.gv_val (fun _ _ _ h => h) (fun g w => by kernel_rfl)
  · exact D2.gv_load1 25 (.tmp 105) 1 (fun g => b4) (fun g => 13) (fun g => (Value.cells (bS24 s))) 26 (0, 0) (fun _ _ _ h => h) (fun g => by kernel_rfl) (fun g => by kernel_rfl) (fun L g hN => (by kernel_rfl)) (by kernel_rfl) (fun L g hN hF => by kernel_rfl)
  · exact D2.gv_valE (fun _ _ _ h => h) (V' := .int .u64 (Go.bits .and .u64 (((BitVec.toNat (~~~(pI s 12)) : Nat) : Int)) (((BitVec.toNat (pI s 13) : Nat) : Int)))) (fun g w => by kernel_rfl) ((bv_and_u64 (~~~(pI s 12)) (pI s 13)).trans (bv_congr (BitVec.and_comm _ _)))
  · exact D2.gv_valE (fun _ _ _ h => h) (V' := .int .u64 (Go.bits .xor .u64 (((BitVec.toNat (pI s 11) : Nat) : Int)) (((BitVec.toNat ((pI s 13) &&& ~~~(pI s 12)) : Nat) : Int)))) (fun g w => by kernel_rfl) (bv_xor_u64 (pI s 11) ((pI s 13) &&& ~~~(pI s 12)))
  · exact D2.gv_val (fun _ _ _ h => h) (fun g w => by kernel_rfl)
  · exact D2.gv_store 0 25 (.tmp 109) (.tmp 108) (fun g => b5) (fun g => 11) (Value.cells (oS6 s)) (Value.cells (oS7 s)) 26 (wv (xI (pI s) 11)) (fun g => by kernel_rfl) (fun g => by kernel_rfl) (fun g => by kernel_rfl) (by kernel_rfl) (by kernel_rfl) (fun g => (of_decide_eq_true (by kernel_rfl))) (fun g => (by kernel_rfl)) (fun L g hN => ⟨(by have hL18 : L 18 = false := hN.1; exact D2.ent_get' (p := true) (e := (bif L 18 then (b5, Obj.cells (Value.cells (oS7 s)) 26 (0, 0)) else (b5, Obj.cells (Value.cells (oS6 s)) 26 (0, 0)))) (by kernel_rfl) (by rfl) (by simp only [hL18, cond_true, cond_false] <;> rfl)), (by kernel_rfl)⟩) (fun L g hN hF => hF)
  intro L0 G79 w79 hall HL; clear H78
  have H79 : St w.heap.size w w79 [(b5, Obj.cells (Value.cells (oS7 s)) 26 (0, 0)), (b4, Obj.cells (Value.cells (bS24 s)) 26 (0, 0)), (b3, Obj.cells (Value.cells (cS24 s)) 44 (0, 0)), (b2, Obj.cells Z25 26 (0, 0)), (b1, Obj.cells (Value.cells (svn s)) 26 (0, 0))] := by have e18 := hall 18 (Nat.le_of_ble_eq_true (by kernel_rfl)); have hS := D2.StE.st HL.1; simp only [e18, cond_true, D2.pres] at hS; exact hS
  clear HL hall
  show WP _ _ _ _ _ _
  refine g_reg0 [0, 1, 2] (by kernel_rfl) ?_
  refine s_val (some 83) (.int .i64 2) (fun w => by kernel_rfl) (by kernel_rfl) ?_
  refine s_val (some 84) (.int .i64 3) (fun w => by kernel_rfl) (by kernel_rfl) ?_
  refine s_val (some 14) (.int .i64 3) (fun w => by kernel_rfl) (by kernel_rfl) ?_
  refine s_nil ?_
  show WPL _ _ _ _ _ _
  refine g_next ?_
  refine g_seq (by kernel_rfl) ?_
  refine g_sreg [0, 1] (by kernel_rfl) (by kernel_rfl) ?_
  refine s_val (some 81) (.int .i64 3) (fun w => by kernel_rfl) (by kernel_rfl) ?_
  refine s_val (some 82) (.bool true) (fun w => by kernel_rfl) (by kernel_rfl) ?_
  refine s_nil ?_
  refine g_cond_t (by kernel_rfl) (by kernel_rfl) ?_
  refine g_skip (by kernel_rfl) ?_
  show WP _ _ _ _ _ _
  refine g_seq (by kernel_rfl) ?_
  refine g_block 11 (by kernel_rfl) ?_
  refine g_sreg [0, 1, 2, 3, 4, 5, 6, 7] (by kernel_rfl) (by kernel_rfl) ?_
  refine s_val (some 85) (.int .i64 1) (fun w => by kernel_rfl) (by kernel_rfl) ?_
  refine s_val (some 86) (.int .i64 2) (fun w => by kernel_rfl) (by kernel_rfl) ?_
  refine s_val (some 87) (.int .i64 3) (fun w => by kernel_rfl) (by kernel_rfl) ?_
  refine s_call H79 (some 88) 21 #[.int .i64 2, .int .i64 3] (.int .i64 17) (at_fn 2 3 (by omega) (by omega)) (fun w => by kernel_rfl) (by kernel_rfl) ?_
  intro w80 H80; clear H79
  refine s_val (some 89) (.pointer (some ⟨b4, 17, none⟩)) (fun w => by kernel_rfl) (by kernel_rfl) ?_
  refine s_load1 H80 (some 90) 25 (.tmp 89) 1 b4 17 (Value.cells (bS24 s)) 26 (0, 0) (wv (pI s 17)) (by kernel_rfl) (by kernel_rfl) (by kernel_rfl) (by kernel_rfl) (by kernel_rfl) (by kernel_rfl) ?_
  refine s_valE (some 91) (.int .u64 (IntKind.u64.wrap ((18446744073709551615) - (((BitVec.toNat (pI s 17) : Nat) : Int))))) (wv (~~~(pI s 17))) (fun w => by kernel_rfl) ((bv_sub_u64 (18446744073709551615 : BitVec 64) (pI s 17)).trans (bv_congr (sub_not (pI s 17)))) (by kernel_rfl) ?_
  refine s_val (some 15) (wv (~~~(pI s 17))) (fun w => by kernel_rfl) (by kernel_rfl) ?_
  refine s_nil ?_
  refine D2.g_draw0 [0, 1, 2, 3, 4, 5, 6, 7, 8, 9, 10, 11, 12, 13, 14, 15, 16, 17, 18] [((some 92), fun _ => .int .i64 1), ((some 93), fun _ => .int .i64 3), ((some 94), fun _ => .int .i64 16), ((some 95), fun _ => .int .i64 1), ((some 96), fun _ => .int .i64 3), ((some 97), fun _ => .int .i64 16), ((some 98), fun _ => .pointer (some ⟨b4, 16, none⟩)), ((some 99), fun _ => wv (pI s 16)), ((some 100), fun _ => wv (~~~(pI s 17))), ((some 101), fun _ => .int .i64 1), ((some 102), fun _ => .int .i64 3), ((some 103), fun _ => .int .i64 3), ((some 104), fun _ => .int .i64 18), ((some 105), fun _ => .pointer (some ⟨b4, 18, none⟩)), ((some 106), fun _ => wv (pI s 18)), ((some 107), fun _ => wv ((pI s 18) &&& ~~~(pI s 17))), ((some 108), fun _ => wv (xI (pI s) 16)), ((some 109), fun _ => .pointer (some ⟨b5, 16, none⟩)), (none, fun _ => undef)] (D2.Pre w.heap.size w (fun L g => [(true, (bif L 18 then (b5, Obj.cells (Value.cells (oS8 s)) 26 (0, 0)) else (b5, Obj.cells (Value.cells (oS7 s)) 26 (0, 0)))), (true, (b4, Obj.cells (Value.cells (bS24 s)) 26 (0, 0))), (true, (b3, Obj.cells (Value.cells (cS24 s)) 44 (0, 0))), (true, (b2, Obj.cells Z25 26 (0, 0))), (true, (b1, Obj.cells (Value.cells (svn s)) 26 (0, 0)))]) (fun L g => True)) (by kernel_rfl) (by kernel_rfl) (by kernel_rfl) ⟨D2.StE.of H80.drew _ (by kernel_rfl), trivial⟩ ⟨?_, ?_, ?_, ?_, ?_, ?_, ?_, ?_, ?_, ?_, ?_, ?_, ?_, ?_, ?_, ?_, ?_, ?_, ?_, trivial⟩ ?_
  · exact D2.gv_val (fun _ _ _ h => h) (fun g w => by kernel_rfl)
  · exact D2.gv_val (fun _ _ _ h => h) (fun g w => by kernel_rfl)
  · exact D2.gv_call 21 #[.int .i64 1, .int .i64 3] (fun _ _ _ h => h) (at_fn 1 3 (by omega) (by omega)) (fun g w => by kernel_rfl)
  · exact D2.gv_val (fun _ _ _ h => h) (fun g w => by kernel_rfl)
  · exact D2.gv_val (fun _ _ _ h => h) (fun g w => by kernel_rfl)
  · exact D2.gv_call 21 #[.int .i64 1, .int .i64 3] (fun _ _ _ h => h) (at_fn 1 3 (by omega) (by omega)) (fun g w => by kernel_rfl)
  · exact D2.gv_val (fun _ _ _ h => h) (fun g w => by kernel_rfl)
  · exact D2.gv_load1 25 (.tmp 98) 1 (fun g => b4) (fun g => 16) (fun g => (Value.cells (bS24 s))) 26 (0, 0) (fun _ _ _ h => h) (fun g => by kernel_rfl) (fun g => by kernel_rfl) (fun L g hN => (by kernel_rfl)) (by kernel_rfl) (fun L g hN hF => by kernel_rfl)
  · exact D2.gv_val (fun _ _ _ h => h) (fun g w => by kernel_rfl)
  · exact D2.gv_val (fun _ _ _ h => h) (fun g w => by kernel_rfl)
  · exact D2.gv_val (fun _ _ _ h => h) (fun g w => by kernel_rfl)
  · exact D2.gv_val (fun _ _ _ h => h) (fun g w => by kernel_rfl)
  · exact D2.gv_call 21 #[.int .i64 3, .int .i64 3] (fun _ _ _ h => h) (at_fn 3 3 (by omega) (by omega)) (fun g w => by kernel_rfl)
  · exact D2.gv_val (fun _ _ _ h => h) (fun g w => by kernel_rfl)
  · exact D2.gv_load1 25 (.tmp 105) 1 (fun g => b4) (fun g => 18) (fun g => (Value.cells (bS24 s))) 26 (0, 0) (fun _ _ _ h => h) (fun g => by kernel_rfl) (fun g => by kernel_rfl) (fun L g hN => (by kernel_rfl)) (by kernel_rfl) (fun L g hN hF => by kernel_rfl)
  · exact D2.gv_valE (fun _ _ _ h => h) (V' := .int .u64 (Go.bits .and .u64 (((BitVec.toNat (~~~(pI s 17)) : Nat) : Int)) (((BitVec.toNat (pI s 18) : Nat) : Int)))) (fun g w => by kernel_rfl) ((bv_and_u64 (~~~(pI s 17)) (pI s 18)).trans (bv_congr (BitVec.and_comm _ _)))
  · exact D2.gv_valE (fun _ _ _ h => h) (V' := .int .u64 (Go.bits .xor .u64 (((BitVec.toNat (pI s 16) : Nat) : Int)) (((BitVec.toNat ((pI s 18) &&& ~~~(pI s 17)) : Nat) : Int)))) (fun g w => by kernel_rfl) (bv_xor_u64 (pI s 16) ((pI s 18) &&& ~~~(pI s 17)))
  · exact D2.gv_val (fun _ _ _ h => h) (fun g w => by kernel_rfl)
  · exact D2.gv_store 0 25 (.tmp 109) (.tmp 108) (fun g => b5) (fun g => 16) (Value.cells (oS7 s)) (Value.cells (oS8 s)) 26 (wv (xI (pI s) 16)) (fun g => by kernel_rfl) (fun g => by kernel_rfl) (fun g => by kernel_rfl) (by kernel_rfl) (by kernel_rfl) (fun g => (of_decide_eq_true (by kernel_rfl))) (fun g => (by kernel_rfl)) (fun L g hN => ⟨(by have hL18 : L 18 = false := hN.1; exact D2.ent_get' (p := true) (e := (bif L 18 then (b5, Obj.cells (Value.cells (oS8 s)) 26 (0, 0)) else (b5, Obj.cells (Value.cells (oS7 s)) 26 (0, 0)))) (by kernel_rfl) (by rfl) (by simp only [hL18, cond_true, cond_false] <;> rfl)), (by kernel_rfl)⟩) (fun L g hN hF => hF)
  intro L0 G81 w81 hall HL; clear H80
  have H81 : St w.heap.size w w81 [(b5, Obj.cells (Value.cells (oS8 s)) 26 (0, 0)), (b4, Obj.cells (Value.cells (bS24 s)) 26 (0, 0)), (b3, Obj.cells (Value.cells (cS24 s)) 44 (0, 0)), (b2, Obj.cells Z25 26 (0, 0)), (b1, Obj.cells (Value.cells (svn s)) 26 (0, 0))] := by have e18 := hall 18 (Nat.le_of_ble_eq_true (by kernel_rfl)); have hS := D2.StE.st HL.1; simp only [e18, cond_true, D2.pres] at hS; exact hS
  clear HL hall
  show WP _ _ _ _ _ _
  refine g_reg0 [0, 1, 2] (by kernel_rfl) ?_
  refine s_val (some 83) (.int .i64 3) (fun w => by kernel_rfl) (by kernel_rfl) ?_
  refine s_val (some 84) (.int .i64 4) (fun w => by kernel_rfl) (by kernel_rfl) ?_
  refine s_val (some 14) (.int .i64 4) (fun w => by kernel_rfl) (by kernel_rfl) ?_
  refine s_nil ?_
  show WPL _ _ _ _ _ _
  refine g_next ?_
  refine g_seq (by kernel_rfl) ?_
  refine g_sreg [0, 1] (by kernel_rfl) (by kernel_rfl) ?_
  refine s_val (some 81) (.int .i64 4) (fun w => by kernel_rfl) (by kernel_rfl) ?_
  refine s_val (some 82) (.bool true) (fun w => by kernel_rfl) (by kernel_rfl) ?_
  refine s_nil ?_
  refine g_cond_t (by kernel_rfl) (by kernel_rfl) ?_
  refine g_skip (by kernel_rfl) ?_
  show WP _ _ _ _ _ _
  refine g_seq (by kernel_rfl) ?_
  refine g_block 11 (by kernel_rfl) ?_
  refine g_sreg [0, 1, 2, 3, 4, 5, 6, 7] (by kernel_rfl) (by kernel_rfl) ?_
  refine s_val (some 85) (.int .i64 1) (fun w => by kernel_rfl) (by kernel_rfl) ?_
  refine s_val (some 86) (.int .i64 2) (fun w => by kernel_rfl) (by kernel_rfl) ?_
  refine s_val (some 87) (.int .i64 4) (fun w => by kernel_rfl) (by kernel_rfl) ?_
  refine s_call H81 (some 88) 21 #[.int .i64 2, .int .i64 4] (.int .i64 22) (at_fn 2 4 (by omega) (by omega)) (fun w => by kernel_rfl) (by kernel_rfl) ?_
  intro w82 H82; clear H81
  refine s_val (some 89) (.pointer (some ⟨b4, 22, none⟩)) (fun w => by kernel_rfl) (by kernel_rfl) ?_
  refine s_load1 H82 (some 90) 25 (.tmp 89) 1 b4 22 (Value.cells (bS24 s)) 26 (0, 0) (wv (pI s 22)) (by kernel_rfl) (by kernel_rfl) (by kernel_rfl) (by kernel_rfl) (by kernel_rfl) (by kernel_rfl) ?_
  refine s_valE (some 91) (.int .u64 (IntKind.u64.wrap ((18446744073709551615) - (((BitVec.toNat (pI s 22) : Nat) : Int))))) (wv (~~~(pI s 22))) (fun w => by kernel_rfl) ((bv_sub_u64 (18446744073709551615 : BitVec 64) (pI s 22)).trans (bv_congr (sub_not (pI s 22)))) (by kernel_rfl) ?_
  refine s_val (some 15) (wv (~~~(pI s 22))) (fun w => by kernel_rfl) (by kernel_rfl) ?_
  refine s_nil ?_
  refine D2.g_draw0 [0, 1, 2, 3, 4, 5, 6, 7, 8, 9, 10, 11, 12, 13, 14, 15, 16, 17, 18] [((some 92), fun _ => .int .i64 1), ((some 93), fun _ => .int .i64 4), ((some 94), fun _ => .int .i64 21), ((some 95), fun _ => .int .i64 1), ((some 96), fun _ => .int .i64 4), ((some 97), fun _ => .int .i64 21), ((some 98), fun _ => .pointer (some ⟨b4, 21, none⟩)), ((some 99), fun _ => wv (pI s 21)), ((some 100), fun _ => wv (~~~(pI s 22))), ((some 101), fun _ => .int .i64 1), ((some 102), fun _ => .int .i64 3), ((some 103), fun _ => .int .i64 4), ((some 104), fun _ => .int .i64 23), ((some 105), fun _ => .pointer (some ⟨b4, 23, none⟩)), ((some 106), fun _ => wv (pI s 23)), ((some 107), fun _ => wv ((pI s 23) &&& ~~~(pI s 22))), ((some 108), fun _ => wv (xI (pI s) 21)), ((some 109), fun _ => .pointer (some ⟨b5, 21, none⟩)), (none, fun _ => undef)] (D2.Pre w.heap.size w (fun L g => [(true, (bif L 18 then (b5, Obj.cells (Value.cells (oS9 s)) 26 (0, 0)) else (b5, Obj.cells (Value.cells (oS8 s)) 26 (0, 0)))), (true, (b4, Obj.cells (Value.cells (bS24 s)) 26 (0, 0))), (true, (b3, Obj.cells (Value.cells (cS24 s)) 44 (0, 0))), (true, (b2, Obj.cells Z25 26 (0, 0))), (true, (b1, Obj.cells (Value.cells (svn s)) 26 (0, 0)))]) (fun L g => True)) (by kernel_rfl) (by kernel_rfl) (by kernel_rfl) ⟨D2.StE.of H82.drew _ (by kernel_rfl), trivial⟩ ⟨?_, ?_, ?_, ?_, ?_, ?_, ?_, ?_, ?_, ?_, ?_, ?_, ?_, ?_, ?_, ?_, ?_, ?_, ?_, trivial⟩ ?_
  · exact D2.gv_val (fun _ _ _ h => h) (fun g w => by kernel_rfl)
  · exact D2.gv_val (fun _ _ _ h => h) (fun g w => by kernel_rfl)
  · exact D2.gv_call 21 #[.int .i64 1, .int .i64 4] (fun _ _ _ h => h) (at_fn 1 4 (by omega) (by omega)) (fun g w => by kernel_rfl)
  · exact D2.gv_val (fun _ _ _ h => h) (fun g w => by kernel_rfl)
  · exact D2.gv_val (fun _ _ _ h => h) (fun g w => by kernel_rfl)
  · exact D2.gv_call 21 #[.int .i64 1, .int .i64 4] (fun _ _ _ h => h) (at_fn 1 4 (by omega) (by omega)) (fun g w => by kernel_rfl)
  · exact D2.gv_val (fun _ _ _ h => h) (fun g w => by kernel_rfl)
  · exact D2.gv_load1 25 (.tmp 98) 1 (fun g => b4) (fun g => 21) (fun g => (Value.cells (bS24 s))) 26 (0, 0) (fun _ _ _ h => h) (fun g => by kernel_rfl) (fun g => by kernel_rfl) (fun L g hN => (by kernel_rfl)) (by kernel_rfl) (fun L g hN hF => by kernel_rfl)
  · exact D2.gv_val (fun _ _ _ h => h) (fun g w => by kernel_rfl)
  · exact D2.gv_val (fun _ _ _ h => h) (fun g w => by kernel_rfl)
  · exact D2.gv_val (fun _ _ _ h => h) (fun g w => by kernel_rfl)
  · exact D2.gv_val (fun _ _ _ h => h) (fun g w => by kernel_rfl)
  · exact D2.gv_call 21 #[.int .i64 3, .int .i64 4] (fun _ _ _ h => h) (at_fn 3 4 (by omega) (by omega)) (fun g w => by kernel_rfl)
  · exact D2.gv_val (fun _ _ _ h => h) (fun g w => by kernel_rfl)
  · exact D2.gv_load1 25 (.tmp 105) 1 (fun g => b4) (fun g => 23) (fun g => (Value.cells (bS24 s))) 26 (0, 0) (fun _ _ _ h => h) (fun g => by kernel_rfl) (fun g => by kernel_rfl) (fun L g hN => (by kernel_rfl)) (by kernel_rfl) (fun L g hN hF => by kernel_rfl)
  · exact D2.gv_valE (fun _ _ _ h => h) (V' := .int .u64 (Go.bits .and .u64 (((BitVec.toNat (~~~(pI s 22)) : Nat) : Int)) (((BitVec.toNat (pI s 23) : Nat) : Int)))) (fun g w => by kernel_rfl) ((bv_and_u64 (~~~(pI s 22)) (pI s 23)).trans (bv_congr (BitVec.and_comm _ _)))
  · exact D2.gv_valE (fun _ _ _ h => h) (V' := .int .u64 (Go.bits .xor .u64 (((BitVec.toNat (pI s 21) : Nat) : Int)) (((BitVec.toNat ((pI s 23) &&& ~~~(pI s 22)) : Nat) : Int)))) (fun g w => by kernel_rfl) (bv_xor_u64 (pI s 21) ((pI s 23) &&& ~~~(pI s 22)))
  · exact D2.gv_val (fun _ _ _ h => h) (fun g w => by kernel_rfl)
  · exact D2.gv_store 0 25 (.tmp 109) (.tmp 108) (fun g => b5) (fun g => 21) (Value.cells (oS8 s)) (Value.cells (oS9 s)) 26 (wv (xI (pI s) 21)) (fun g => by kernel_rfl) (fun g => by kernel_rfl) (fun g => by kernel_rfl) (by kernel_rfl) (by kernel_rfl) (fun g => (of_decide_eq_true (by kernel_rfl))) (fun g => (by kernel_rfl)) (fun L g hN => ⟨(by have hL18 : L 18 = false := hN.1; exact D2.ent_get' (p := true) (e := (bif L 18 then (b5, Obj.cells (Value.cells (oS9 s)) 26 (0, 0)) else (b5, Obj.cells (Value.cells (oS8 s)) 26 (0, 0)))) (by kernel_rfl) (by rfl) (by simp only [hL18, cond_true, cond_false] <;> rfl)), (by kernel_rfl)⟩) (fun L g hN hF => hF)
  intro L0 G83 w83 hall HL; clear H82
  have H83 : St w.heap.size w w83 [(b5, Obj.cells (Value.cells (oS9 s)) 26 (0, 0)), (b4, Obj.cells (Value.cells (bS24 s)) 26 (0, 0)), (b3, Obj.cells (Value.cells (cS24 s)) 44 (0, 0)), (b2, Obj.cells Z25 26 (0, 0)), (b1, Obj.cells (Value.cells (svn s)) 26 (0, 0))] := by have e18 := hall 18 (Nat.le_of_ble_eq_true (by kernel_rfl)); have hS := D2.StE.st HL.1; simp only [e18, cond_true, D2.pres] at hS; exact hS
  clear HL hall
  show WP _ _ _ _ _ _
  refine g_reg0 [0, 1, 2] (by kernel_rfl) ?_
  refine s_val (some 83) (.int .i64 4) (fun w => by kernel_rfl) (by kernel_rfl) ?_
  refine s_val (some 84) (.int .i64 5) (fun w => by kernel_rfl) (by kernel_rfl) ?_
  refine s_val (some 14) (.int .i64 5) (fun w => by kernel_rfl) (by kernel_rfl) ?_
  refine s_nil ?_
  show WPL _ _ _ _ _ _
  refine g_next ?_
  refine g_seq (by kernel_rfl) ?_
  refine g_sreg [0, 1] (by kernel_rfl) (by kernel_rfl) ?_
  refine s_val (some 81) (.int .i64 5) (fun w => by kernel_rfl) (by kernel_rfl) ?_
  refine s_val (some 82) (.bool false) (fun w => by kernel_rfl) (by kernel_rfl) ?_
  refine s_nil ?_
  refine g_cond_f (by kernel_rfl) (by kernel_rfl) ?_
  refine g_exit 10 (by kernel_rfl) ?_
  show WP _ _ _ _ _ _
  refine g_reg0 [0, 1, 2] (by kernel_rfl) ?_
  refine s_val (some 79) (.int .i64 1) (fun w => by kernel_rfl) (by kernel_rfl) ?_
  refine s_val (some 80) (.int .i64 2) (fun w => by kernel_rfl) (by kernel_rfl) ?_
  refine s_val (some 13) (.int .i64 2) (fun w => by kernel_rfl) (by kernel_rfl) ?_
  refine s_nil ?_
  show WPL _ _ _ _ _ _
  refine g_next ?_
  refine g_seq (by kernel_rfl) ?_
  refine g_sreg [0, 1] (by kernel_rfl) (by kernel_rfl) ?_
  refine s_val (some 77) (.int .i64 2) (fun w => by kernel_rfl) (by kernel_rfl) ?_
  refine s_val (some 78) (.bool true) (fun w => by kernel_rfl) (by kernel_rfl) ?_
  refine s_nil ?_
  refine g_cond_t (by kernel_rfl) (by kernel_rfl) ?_
  refine g_skip (by kernel_rfl) ?_
  show WP _ _ _ _ _ _
  refine g_seq (by kernel_rfl) ?_
  refine g_block 9 (by kernel_rfl) ?_
  refine g_sreg [0] (by kernel_rfl) (by kernel_rfl) ?_
  refine s_val (some 14) (.int .i64 0) (fun w => by kernel_rfl) (by kernel_rfl) ?_
  refine s_nil ?_
  refine g_block 10 (by kernel_rfl) ?_
  refine g_first (by kernel_rfl) ?_
  refine g_seq (by kernel_rfl) ?_
  refine g_sreg [0, 1] (by kernel_rfl) (by kernel_rfl) ?_
  refine s_val (some 81) (.int .i64 0) (fun w => by kernel_rfl) (by kernel_rfl) ?_
  refine s_val (some 82) (.bool true) (fun w => by kernel_rfl) (by kernel_rfl) ?_
  refine s_nil ?_
  refine g_cond_t (by kernel_rfl) (by kernel_rfl) ?_
  refine g_skip (by kernel_rfl) ?_
  show WP _ _ _ _ _ _
  refine g_seq (by kernel_rfl) ?_
  refine g_block 11 (by kernel_rfl) ?_
  refine g_sreg [0, 1, 2, 3, 4, 5, 6, 7] (by kernel_rfl) (by kernel_rfl) ?_
  refine s_val (some 85) (.int .i64 2) (fun w => by kernel_rfl) (by kernel_rfl) ?_
  refine s_val (some 86) (.int .i64 3) (fun w => by kernel_rfl) (by kernel_rfl) ?_
  refine s_val (some 87) (.int .i64 0) (fun w => by kernel_rfl) (by kernel_rfl) ?_
  refine s_call H83 (some 88) 21 #[.int .i64 3, .int .i64 0] (.int .i64 3) (at_fn 3 0 (by omega) (by omega)) (fun w => by kernel_rfl) (by kernel_rfl) ?_
  intro w84 H84; clear H83
  refine s_val (some 89) (.pointer (some ⟨b4, 3, none⟩)) (fun w => by kernel_rfl) (by kernel_rfl) ?_
  refine s_load1 H84 (some 90) 25 (.tmp 89) 1 b4 3 (Value.cells (bS24 s)) 26 (0, 0) (wv (pI s 3)) (by kernel_rfl) (by kernel_rfl) (by kernel_rfl) (by kernel_rfl) (by kernel_rfl) (by kernel_rfl) ?_
  refine s_valE (some 91) (.int .u64 (IntKind.u64.wrap ((18446744073709551615) - (((BitVec.toNat (pI s 3) : Nat) : Int))))) (wv (~~~(pI s 3))) (fun w => by kernel_rfl) ((bv_sub_u64 (18446744073709551615 : BitVec 64) (pI s 3)).trans (bv_congr (sub_not (pI s 3)))) (by kernel_rfl) ?_
  refine s_val (some 15) (wv (~~~(pI s 3))) (fun w => by kernel_rfl) (by kernel_rfl) ?_
  refine s_nil ?_
  refine D2.g_draw0 [0, 1, 2, 3, 4, 5, 6, 7, 8, 9, 10, 11, 12, 13, 14, 15, 16, 17, 18] [((some 92), fun _ => .int .i64 2), ((some 93), fun _ => .int .i64 0), ((some 94), fun _ => .int .i64 2), ((some 95), fun _ => .int .i64 2), ((some 96), fun _ => .int .i64 0), ((some 97), fun _ => .int .i64 2), ((some 98), fun _ => .pointer (some ⟨b4, 2, none⟩)), ((some 99), fun _ => wv (pI s 2)), ((some 100), fun _ => wv (~~~(pI s 3))), ((some 101), fun _ => .int .i64 2), ((some 102), fun _ => .int .i64 4), ((some 103), fun _ => .int .i64 0), ((some 104), fun _ => .int .i64 4), ((some 105), fun _ => .pointer (some ⟨b4, 4, none⟩)), ((some 106), fun _ => wv (pI s 4)), ((some 107), fun _ => wv ((pI s 4) &&& ~~~(pI s 3))), ((some 108), fun _ => wv (xI (pI s) 2)), ((some 109), fun _ => .pointer (some ⟨b5, 2, none⟩)), (none, fun _ => undef)] (D2.Pre w.heap.size w (fun L g => [(true, (bif L 18 then (b5, Obj.cells (Value.cells (oS10 s)) 26 (0, 0)) else (b5, Obj.cells (Value.cells (oS9 s)) 26 (0, 0)))), (true, (b4, Obj.cells (Value.cells (bS24 s)) 26 (0, 0))), (true, (b3, Obj.cells (Value.cells (cS24 s)) 44 (0, 0))), (true, (b2, Obj.cells Z25 26 (0, 0))), (true, (b1, Obj.cells (Value.cells (svn s)) 26 (0, 0)))]) (fun L g => True)) (by kernel_rfl) (by kernel_rfl) (by kernel_rfl) ⟨D2.StE.of H84.drew _ (by kernel_rfl), trivial⟩ ⟨?_, ?_, ?_, ?_, ?_, ?_, ?_, ?_, ?_, ?_, ?_, ?_, ?_, ?_, ?_, ?_, ?_, ?_, ?_, trivial⟩ ?_
  · exact D2.gv_val (fun _ _ _ h => h) (fun g w => by kernel_rfl)
  · exact D2.gv_val (fun _ _ _ h => h) (fun g w => by kernel_rfl)
  · exact D2.gv_call 21 #[.int .i64 2, .int .i64 0] (fun _ _ _ h => h) (at_fn 2 0 (by omega) (by omega)) (fun g w => by kernel_rfl)
  · exact D2.gv_val (fun _ _ _ h => h) (fun g w => by kernel_rfl)
  · exact D2.gv_val (fun _ _ _ h => h) (fun g w => by kernel_rfl)
  · exact D2.gv_call 21 #[.int .i64 2, .int .i64 0] (fun _ _ _ h => h) (at_fn 2 0 (by omega) (by omega)) (fun g w => by kernel_rfl)
  · exact D2.gv_val (fun _ _ _ h => h) (fun g w => by kernel_rfl)
  · exact D2.gv_load1 25 (.tmp 98) 1 (fun g => b4) (fun g => 2) (fun g => (Value.cells (bS24 s))) 26 (0, 0) (fun _ _ _ h => h) (fun g => by kernel_rfl) (fun g => by kernel_rfl) (fun L g hN => (by kernel_rfl)) (by kernel_rfl) (fun L g hN hF => by kernel_rfl)
  · exact D2.gv_val (fun _ _ _ h => h) (fun g w => by kernel_rfl)
  · exact D2.gv_val (fun _ _ _ h => h) (fun g w => by kernel_rfl)
  · exact D2.gv_val (fun _ _ _ h => h) (fun g w => by kernel_rfl)
  · exact D2.gv_val (fun _ _ _ h => h) (fun g w => by kernel_rfl)
  · exact D2.gv_call 21 #[.int .i64 4, .int .i64 0] (fun _ _ _ h => h) (at_fn 4 0 (by omega) (by omega)) (fun g w => by kernel_rfl)
  · exact D2.gv_val (fun _ _ _ h => h) (fun g w => by kernel_rfl)
  · exact D2.gv_load1 25 (.tmp 105) 1 (fun g => b4) (fun g => 4) (fun g => (Value.cells (bS24 s))) 26 (0, 0) (fun _ _ _ h => h) (fun g => by kernel_rfl) (fun g => by kernel_rfl) (fun L g hN => (by kernel_rfl)) (by kernel_rfl) (fun L g hN hF => by kernel_rfl)
  · exact D2.gv_valE (fun _ _ _ h => h) (V' := .int .u64 (Go.bits .and .u64 (((BitVec.toNat (~~~(pI s 3)) : Nat) : Int)) (((BitVec.toNat (pI s 4) : Nat) : Int)))) (fun g w => by kernel_rfl) ((bv_and_u64 (~~~(pI s 3)) (pI s 4)).trans (bv_congr (BitVec.and_comm _ _)))
  · exact D2.gv_valE (fun _ _ _ h => h) (V' := .int .u64 (Go.bits .xor .u64 (((BitVec.toNat (pI s 2) : Nat) : Int)) (((BitVec.toNat ((pI s 4) &&& ~~~(pI s 3)) : Nat) : Int)))) (fun g w => by kernel_rfl) (bv_xor_u64 (pI s 2) ((pI s 4) &&& ~~~(pI s 3)))
  · exact D2.gv_val (fun _ _ _ h => h) (fun g w => by kernel_rfl)
  · exact D2.gv_store 0 25 (.tmp 109) (.tmp 108) (fun g => b5) (fun g => 2) (Value.cells (oS9 s)) (Value.cells (oS10 s)) 26 (wv (xI (pI s) 2)) (fun g => by kernel_rfl) (fun g => by kernel_rfl) (fun g => by kernel_rfl) (by kernel_rfl) (by kernel_rfl) (fun g => (of_decide_eq_true (by kernel_rfl))) (fun g => (by kernel_rfl)) (fun L g hN => ⟨(by have hL18 : L 18 = false := hN.1; exact D2.ent_get' (p := true) (e := (bif L 18 then (b5, Obj.cells (Value.cells (oS10 s)) 26 (0, 0)) else (b5, Obj.cells (Value.cells (oS9 s)) 26 (0, 0)))) (by kernel_rfl) (by rfl) (by simp only [hL18, cond_true, cond_false] <;> rfl)), (by kernel_rfl)⟩) (fun L g hN hF => hF)
  intro L0 G85 w85 hall HL; clear H84
  have H85 : St w.heap.size w w85 [(b5, Obj.cells (Value.cells (oS10 s)) 26 (0, 0)), (b4, Obj.cells (Value.cells (bS24 s)) 26 (0, 0)), (b3, Obj.cells (Value.cells (cS24 s)) 44 (0, 0)), (b2, Obj.cells Z25 26 (0, 0)), (b1, Obj.cells (Value.cells (svn s)) 26 (0, 0))] := by have e18 := hall 18 (Nat.le_of_ble_eq_true (by kernel_rfl)); have hS := D2.StE.st HL.1; simp only [e18, cond_true, D2.pres] at hS; exact hS
  clear HL hall
  show WP _ _ _ _ _ _
  refine g_reg0 [0, 1, 2] (by kernel_rfl) ?_
  refine s_val (some 83) (.int .i64 0) (fun w => by kernel_rfl) (by kernel_rfl) ?_
  refine s_val (some 84) (.int .i64 1) (fun w => by kernel_rfl) (by kernel_rfl) ?_
  refine s_val (some 14) (.int .i64 1) (fun w => by kernel_rfl) (by kernel_rfl) ?_
  refine s_nil ?_
  show WPL _ _ _ _ _ _
  refine g_next ?_
  refine g_seq (by kernel_rfl) ?_
  refine g_sreg [0, 1] (by kernel_rfl) (by kernel_rfl) ?_
  refine s_val (some 81) (.int .i64 1) (fun w => by kernel_rfl) (by kernel_rfl) ?_
  refine s_val (some 82) (.bool true) (fun w => by kernel_rfl) (by kernel_rfl) ?_
  refine s_nil ?_
  refine g_cond_t (by kernel_rfl) (by kernel_rfl) ?_
  refine g_skip (by kernel_rfl) ?_
  show WP _ _ _ _ _ _
  refine g_seq (by kernel_rfl) ?_
  refine g_block 11 (by kernel_rfl) ?_
  refine g_sreg [0, 1, 2, 3, 4, 5, 6, 7] (by kernel_rfl) (by kernel_rfl) ?_
  refine s_val (some 85) (.int .i64 2) (fun w => by kernel_rfl) (by kernel_rfl) ?_
  refine s_val (some 86) (.int .i64 3) (fun w => by kernel_rfl) (by kernel_rfl) ?_
  refine s_val (some 87) (.int .i64 1) (fun w => by kernel_rfl) (by kernel_rfl) ?_
  refine s_call H85 (some 88) 21 #[.int .i64 3, .int .i64 1] (.int .i64 8) (at_fn 3 1 (by omega) (by omega)) (fun w => by kernel_rfl) (by kernel_rfl) ?_
  intro w86 H86; clear H85
  refine s_val (some 89) (.pointer (some ⟨b4, 8, none⟩)) (fun w => by kernel_rfl) (by kernel_rfl) ?_
  refine s_load1 H86 (some 90) 25 (.tmp 89) 1 b4 8 (Value.cells (bS24 s)) 26 (0, 0) (wv (pI s 8)) (by kernel_rfl) (by kernel_rfl) (by kernel_rfl) (by kernel_rfl) (by kernel_rfl) (by kernel_rfl) ?_
  refine s_valE (some 91) (.int .u64 (IntKind.u64.wrap ((18446744073709551615) - (((BitVec.toNat (pI s 8) : Nat) : Int))))) (wv (~~~(pI s 8))) (fun w => by kernel_rfl) ((bv_sub_u64 (18446744073709551615 : BitVec 64) (pI s 8)).trans (bv_congr (sub_not (pI s 8)))) (by kernel_rfl) ?_
  refine s_val (some 15) (wv (~~~(pI s 8))) (fun w => by kernel_rfl) (by kernel_rfl) ?_
  refine s_nil ?_
  refine D2.g_draw0 [0, 1, 2, 3, 4, 5, 6, 7, 8, 9, 10, 11, 12, 13, 14, 15, 16, 17, 18] [((some 92), fun _ => .int .i64 2), ((some 93), fun _ => .int .i64 1), ((some 94), fun _ => .int .i64 7), ((some 95), fun _ => .int .i64 2), ((some 96), fun _ => .int .i64 1), ((some 97), fun _ => .int .i64 7), ((some 98), fun _ => .pointer (some ⟨b4, 7, none⟩)), ((some 99), fun _ => wv (pI s 7)), ((some 100), fun _ => wv (~~~(pI s 8))), ((some 101), fun _ => .int .i64 2), ((some 102), fun _ => .int .i64 4), ((some 103), fun _ => .int .i64 1), ((some 104), fun _ => .int .i64 9), ((some 105), fun _ => .pointer (some ⟨b4, 9, none⟩)), ((some 106), fun _ => wv (pI s 9)), ((some 107), fun _ => wv ((pI s 9) &&& ~~~(pI s 8))), ((some 108), fun _ => wv (xI (pI s) 7)), ((some 109), fun _ => .pointer (some ⟨b5, 7, none⟩)), (none, fun _ => undef)] (D2.Pre w.heap.size w (fun L g => [(true, (bif L 18 then (b5, Obj.cells (Value.cells (oS11 s)) 26 (0, 0)) else (b5, Obj.cells (Value.cells (oS10 s)) 26 (0, 0)))), (true, (b4, Obj.cells (Value.cells (bS24 s)) 26 (0, 0))), (true, (b3, Obj.cells (Value.cells (cS24 s)) 44 (0, 0))), (true, (b2, Obj.cells Z25 26 (0, 0))), (true, (b1, Obj.cells (Value.cells (svn s)) 26 (0, 0)))]) (fun L g => True)) (by kernel_rfl) (by kernel_rfl) (by kernel_rfl) ⟨D2.StE.of H86.drew _ (by kernel_rfl), trivial⟩ ⟨?_, ?_, ?_, ?_, ?_, ?_, ?_, ?_, ?_, ?_, ?_, ?_, ?_, ?_, ?_, ?_, ?_, ?_, ?_, trivial⟩ ?_
  · exact D2.gv_val (fun _ _ _ h => h) (fun g w => by kernel_rfl)
  · exact D2.gv_val (fun _ _ _ h => h) (fun g w => by kernel_rfl)
  · exact D2.gv_call 21 #[.int .i64 2, .int .i64 1] (fun _ _ _ h => h) (at_fn 2 1 (by omega) (by omega)) (fun g w => by kernel_rfl)
  · exact D2.gv_val (fun _ _ _ h => h) (fun g w => by kernel_rfl)
  · exact D2.gv_val (fun _ _ _ h => h) (fun g w => by kernel_rfl)
  · exact D2.gv_call 21 #[.int .i64 2, .int .i64 1] (fun _ _ _ h => h) (at_fn 2 1 (by omega) (by omega)) (fun g w => by kernel_rfl)
  · exact D2.gv_val (fun _ _ _ h => h) (fun g w => by kernel_rfl)
  · exact D2.gv_load1 25 (.tmp 98) 1 (fun g => b4) (fun g => 7) (fun g => (Value.cells (bS24 s))) 26 (0, 0) (fun _ _ _ h => h) (fun g => by kernel_rfl) (fun g => by kernel_rfl) (fun L g hN => (by kernel_rfl)) (by kernel_rfl) (fun L g hN hF => by kernel_rfl)
  · exact D2.gv_val (fun _ _ _ h => h) (fun g w => by kernel_rfl)
  · exact D2.gv_val (fun _ _ _ h => h) (fun g w => by kernel_rfl)
  · exact D2.gv_val (fun _ _ _ h => h) (fun g w => by kernel_rfl)
  · exact D2.gv_val (fun _ _ _ h => h) (fun g w => by kernel_rfl)
  · exact D2.gv_call 21 #[.int .i64 4, .int .i64 1] (fun _ _ _ h => h) (at_fn 4 1 (by omega) (by omega)) (fun g w => by kernel_rfl)
  · exact D2.gv_val (fun _ _ _ h => h) (fun g w => by kernel_rfl)
  · exact D2.gv_load1 25 (.tmp 105) 1 (fun g => b4) (fun g => 9) (fun g => (Value.cells (bS24 s))) 26 (0, 0) (fun _ _ _ h => h) (fun g => by kernel_rfl) (fun g => by kernel_rfl) (fun L g hN => (by kernel_rfl)) (by kernel_rfl) (fun L g hN hF => by kernel_rfl)
  · exact D2.gv_valE (fun _ _ _ h => h) (V' := .int .u64 (Go.bits .and .u64 (((BitVec.toNat (~~~(pI s 8)) : Nat) : Int)) (((BitVec.toNat (pI s 9) : Nat) : Int)))) (fun g w => by kernel_rfl) ((bv_and_u64 (~~~(pI s 8)) (pI s 9)).trans (bv_congr (BitVec.and_comm _ _)))
  · exact D2.gv_valE (fun _ _ _ h => h) (V' := .int .u64 (Go.bits .xor .u64 (((BitVec.toNat (pI s 7) : Nat) : Int)) (((BitVec.toNat ((pI s 9) &&& ~~~(pI s 8)) : Nat) : Int)))) (fun g w => by kernel_rfl) (bv_xor_u64 (pI s 7) ((pI s 9) &&& ~~~(pI s 8)))
  · exact D2.gv_val (fun _ _ _ h => h) (fun g w => by kernel_rfl)
  · exact D2.gv_store 0 25 (.tmp 109) (.tmp 108) (fun g => b5) (fun g => 7) (Value.cells (oS10 s)) (Value.cells (oS11 s)) 26 (wv (xI (pI s) 7)) (fun g => by kernel_rfl) (fun g => by kernel_rfl) (fun g => by kernel_rfl) (by kernel_rfl) (by kernel_rfl) (fun g => (of_decide_eq_true (by kernel_rfl))) (fun g => (by kernel_rfl)) (fun L g hN => ⟨(by have hL18 : L 18 = false := hN.1; exact D2.ent_get' (p := true) (e := (bif L 18 then (b5, Obj.cells (Value.cells (oS11 s)) 26 (0, 0)) else (b5, Obj.cells (Value.cells (oS10 s)) 26 (0, 0)))) (by kernel_rfl) (by rfl) (by simp only [hL18, cond_true, cond_false] <;> rfl)), (by kernel_rfl)⟩) (fun L g hN hF => hF)
  intro L0 G87 w87 hall HL; clear H86
  have H87 : St w.heap.size w w87 [(b5, Obj.cells (Value.cells (oS11 s)) 26 (0, 0)), (b4, Obj.cells (Value.cells (bS24 s)) 26 (0, 0)), (b3, Obj.cells (Value.cells (cS24 s)) 44 (0, 0)), (b2, Obj.cells Z25 26 (0, 0)), (b1, Obj.cells (Value.cells (svn s)) 26 (0, 0))] := by have e18 := hall 18 (Nat.le_of_ble_eq_true (by kernel_rfl)); have hS := D2.StE.st HL.1; simp only [e18, cond_true, D2.pres] at hS; exact hS
  clear HL hall
  show WP _ _ _ _ _ _
  refine g_reg0 [0, 1, 2] (by kernel_rfl) ?_
  refine s_val (some 83) (.int .i64 1) (fun w => by kernel_rfl) (by kernel_rfl) ?_
  refine s_val (some 84) (.int .i64 2) (fun w => by kernel_rfl) (by kernel_rfl) ?_
  refine s_val (some 14) (.int .i64 2) (fun w => by kernel_rfl) (by kernel_rfl) ?_
  refine s_nil ?_
  show WPL _ _ _ _ _ _
  refine g_next ?_
  refine g_seq (by kernel_rfl) ?_
  refine g_sreg [0, 1] (by kernel_rfl) (by kernel_rfl) ?_
  refine s_val (some 81) (.int .i64 2) (fun w => by kernel_rfl) (by kernel_rfl) ?_
  refine s_val (some 82) (.bool true) (fun w => by kernel_rfl) (by kernel_rfl) ?_
  refine s_nil ?_
  refine g_cond_t (by kernel_rfl) (by kernel_rfl) ?_
  refine g_skip (by kernel_rfl) ?_
  show WP _ _ _ _ _ _
  refine g_seq (by kernel_rfl) ?_
  refine g_block 11 (by kernel_rfl) ?_
  refine g_sreg [0, 1, 2, 3, 4, 5, 6, 7] (by kernel_rfl) (by kernel_rfl) ?_
  refine s_val (some 85) (.int .i64 2) (fun w => by kernel_rfl) (by kernel_rfl) ?_
  refine s_val (some 86) (.int .i64 3) (fun w => by kernel_rfl) (by kernel_rfl) ?_
  refine s_val (some 87) (.int .i64 2) (fun w => by kernel_rfl) (by kernel_rfl) ?_
  refine s_call H87 (some 88) 21 #[.int .i64 3, .int .i64 2] (.int .i64 13) (at_fn 3 2 (by omega) (by omega)) (fun w => by kernel_rfl) (by kernel_rfl) ?_
  intro w88 H88; clear H87
  refine s_val (some 89) (.pointer (some ⟨b4, 13, none⟩)) (fun w => by kernel_rfl) (by kernel_rfl) ?_
  refine s_load1 H88 (some 90) 25 (.tmp 89) 1 b4 13 (Value.cells (bS24 s)) 26 (0, 0) (wv (pI s 13)) (by kernel_rfl) (by kernel_rfl) (by kernel_rfl) (by kernel_rfl) (by kernel_rfl) (by kernel_rfl) ?_
  refine s_valE (some 91) (.int .u64 (IntKind.u64.wrap ((18446744073709551615) - (((BitVec.toNat (pI s 13) : Nat) : Int))))) (wv (~~~(pI s 13))) (fun w => by kernel_rfl) ((bv_sub_u64 (18446744073709551615 : BitVec 64) (pI s 13)).trans (bv_congr (sub_not (pI s 13)))) (by kernel_rfl) ?_
  refine s_val (some 15) (wv (~~~(pI s 13))) (fun w => by kernel_rfl) (by kernel_rfl) ?_
  refine s_nil ?_
  refine D2.g_draw0 [0, 1, 2, 3, 4, 5, 6, 7, 8, 9, 10, 11, 12, 13, 14, 15, 16, 17, 18] [((some 92), fun _ => .int .i64 2), ((some 93), fun _ => .int .i64 2), ((some 94), fun _ => .int .i64 12), ((some 95), fun _ => .int .i64 2), ((some 96), fun _ => .int .i64 2), ((some 97), fun _ => .int .i64 12), ((some 98), fun _ => .pointer (some ⟨b4, 12, none⟩)), ((some 99), fun _ => wv (pI s 12)), ((some 100), fun _ => wv (~~~(pI s 13))), ((some 101), fun _ => .int .i64 2), ((some 102), fun _ => .int .i64 4), ((some 103), fun _ => .int .i64 2), ((some 104), fun _ => .int .i64 14), ((some 105), fun _ => .pointer (some ⟨b4, 14, none⟩)), ((some 106), fun _ => wv (pI s 14)), ((some 107), fun _ => wv ((pI s 14) &&& ~~~(pI s 13))), ((some 108), fun _ => wv (xI (pI s) 12)), ((some 109), fun _ => .pointer (some ⟨b5, 12, none⟩)), (none, fun _ => undef)] (D2.Pre w.heap.size w (fun L g => [(true, (bif L 18 then (b5, Obj.cells (Value.cells (oS12 s)) 26 (0, 0)) else (b5, Obj.cells (Value.cells (oS11 s)) 26 (0, 0)))), (true, (b4, Obj.cells (Value.cells (bS24 s)) 26 (0, 0))), (true, (b3, Obj.cells (Value.cells (cS24 s)) 44 (0, 0))), (true, (b2, Obj.cells Z25 26 (0, 0))), (true, (b1, Obj.cells (Value.cells (svn s)) 26 (0, 0)))]) (fun L g => True)) (by kernel_rfl) (by kernel_rfl) (by kernel_rfl) ⟨D2.StE.of H88.drew _ (by kernel_rfl), trivial⟩ ⟨?_, ?_, ?_, ?_, ?_, ?_, ?_, ?_, ?_, ?_, ?_, ?_, ?_, ?_, ?_, ?_, ?_, ?_, ?_, trivial⟩ ?_
  · exact D2.gv_val (fun _ _ _ h => h) (fun g w => by kernel_rfl)
  · exact D2.gv_val (fun _ _ _ h => h) (fun g w => by kernel_rfl)
  · exact D2.gv_call 21 #[.int .i64 2, .int .i64 2] (fun _ _ _ h => h) (at_fn 2 2 (by omega) (by omega)) (fun g w => by kernel_rfl)
  · exact D2.gv_val (fun _ _ _ h => h) (fun g w => by kernel_rfl)
  · exact D2.gv_val (fun _ _ _ h => h) (fun g w => by kernel_rfl)
  · exact D2.gv_call 21 #[.int .i64 2, .int .i64 2] (fun _ _ _ h => h) (at_fn 2 2 (by omega) (by omega)) (fun g w => by kernel_rfl)
  · exact D2.gv_val (fun _ _ _ h => h) (fun g w => by kernel_rfl)
  · exact D2.gv_load1 25 (.tmp 98) 1 (fun g => b4) (fun g => 12) (fun g => (Value.cells (bS24 s))) 26 (0, 0) (fun _ _ _ h => h) (fun g => by kernel_rfl) (fun g => by kernel_rfl) (fun L g hN => (by kernel_rfl)) (by kernel_rfl) (fun L g hN hF => by kernel_rfl)
  · exact D2.gv_val (fun _ _ _ h => h) (fun g w => by kernel_rfl)
  · exact D2.gv_val (fun _ _ _ h => h) (fun g w => by kernel_rfl)
  · exact D2.gv_val (fun _ _ _ h => h) (fun g w => by kernel_rfl)
  · exact D2.gv_val (fun _ _ _ h => h) (fun g w => by kernel_rfl)
  · exact D2.gv_call 21 #[.int .i64 4, .int .i64 2] (fun _ _ _ h => h) (at_fn 4 2 (by omega) (by omega)) (fun g w => by kernel_rfl)
  · exact D2.gv_val (fun _ _ _ h => h) (fun g w => by kernel_rfl)
  · exact D2.gv_load1 25 (.tmp 105) 1 (fun g => b4) (fun g => 14) (fun g => (Value.cells (bS24 s))) 26 (0, 0) (fun _ _ _ h => h) (fun g => by kernel_rfl) (fun g => by kernel_rfl) (fun L g hN => (by kernel_rfl)) (by kernel_rfl) (fun L g hN hF => by kernel_rfl)
  · exact D2.gv_valE (fun _ _ _ h => h) (V' := .int .u64 (Go.bits .and .u64 (((BitVec.toNat (~~~(pI s 13)) : Nat) : Int)) (((BitVec.toNat (pI s 14) : Nat) : Int)))) (fun g w => by kernel_rfl) ((bv_and_u64 (~~~(pI s 13)) (pI s 14)).trans (bv_congr (BitVec.and_comm _ _)))
  · exact D2.gv_valE (fun _ _ _ h => h) (V' := .int .u64 (Go.bits .xor .u64 (((BitVec.toNat (pI s 12) : Nat) : Int)) (((BitVec.toNat ((pI s 14) &&& ~~~(pI s 13)) : Nat) : Int)))) (fun g w => by kernel_rfl) (bv_xor_u64 (pI s 12) ((pI s 14) &&& ~~~(pI s 13)))
  · exact D2.gv_val (fun _ _ _ h => h) (fun g w => by kernel_rfl)
  · exact D2.gv_store 0 25 (.tmp 109) (.tmp 108) (fun g => b5) (fun g => 12) (Value.cells (oS11 s)) (Value.cells (oS12 s)) 26 (wv (xI (pI s) 12)) (fun g => by kernel_rfl) (fun g => by kernel_rfl) (fun g => by kernel_rfl) (by kernel_rfl) (by kernel_rfl) (fun g => (of_decide_eq_true (by kernel_rfl))) (fun g => (by kernel_rfl)) (fun L g hN => ⟨(by have hL18 : L 18 = false := hN.1; exact D2.ent_get' (p := true) (e := (bif L 18 then (b5, Obj.cells (Value.cells (oS12 s)) 26 (0, 0)) else (b5, Obj.cells (Value.cells (oS11 s)) 26 (0, 0)))) (by kernel_rfl) (by rfl) (by simp only [hL18, cond_true, cond_false] <;> rfl)), (by kernel_rfl)⟩) (fun L g hN hF => hF)
  intro L0 G89 w89 hall HL; clear H88
  have H89 : St w.heap.size w w89 [(b5, Obj.cells (Value.cells (oS12 s)) 26 (0, 0)), (b4, Obj.cells (Value.cells (bS24 s)) 26 (0, 0)), (b3, Obj.cells (Value.cells (cS24 s)) 44 (0, 0)), (b2, Obj.cells Z25 26 (0, 0)), (b1, Obj.cells (Value.cells (svn s)) 26 (0, 0))] := by have e18 := hall 18 (Nat.le_of_ble_eq_true (by kernel_rfl)); have hS := D2.StE.st HL.1; simp only [e18, cond_true, D2.pres] at hS; exact hS
  clear HL hall
  show WP _ _ _ _ _ _
  refine g_reg0 [0, 1, 2] (by kernel_rfl) ?_
  refine s_val (some 83) (.int .i64 2) (fun w => by kernel_rfl) (by kernel_rfl) ?_
  refine s_val (some 84) (.int .i64 3) (fun w => by kernel_rfl) (by kernel_rfl) ?_
  refine s_val (some 14) (.int .i64 3) (fun w => by kernel_rfl) (by kernel_rfl) ?_
  refine s_nil ?_
  show WPL _ _ _ _ _ _
  refine g_next ?_
  refine g_seq (by kernel_rfl) ?_
  refine g_sreg [0, 1] (by kernel_rfl) (by kernel_rfl) ?_
  refine s_val (some 81) (.int .i64 3) (fun w => by kernel_rfl) (by kernel_rfl) ?_
  refine s_val (some 82) (.bool true) (fun w => by kernel_rfl) (by kernel_rfl) ?_
  refine s_nil ?_
  refine g_cond_t (by kernel_rfl) (by kernel_rfl) ?_
  refine g_skip (by kernel_rfl) ?_
  show WP _ _ _ _ _ _
  refine g_seq (by kernel_rfl) ?_
  refine g_block 11 (by kernel_rfl) ?_
  refine g_sreg [0, 1, 2, 3, 4, 5, 6, 7] (by kernel_rfl) (by kernel_rfl) ?_
  refine s_val (some 85) (.int .i64 2) (fun w => by kernel_rfl) (by kernel_rfl) ?_
  refine s_val (some 86) (.int .i64 3) (fun w => by kernel_rfl) (by kernel_rfl) ?_
  refine s_val (some 87) (.int .i64 3) (fun w => by kernel_rfl) (by kernel_rfl) ?_
  refine s_call H89 (some 88) 21 #[.int .i64 3, .int .i64 3] (.int .i64 18) (at_fn 3 3 (by omega) (by omega)) (fun w => by kernel_rfl) (by kernel_rfl) ?_
  intro w90 H90; clear H89
  refine s_val (some 89) (.pointer (some ⟨b4, 18, none⟩)) (fun w => by kernel_rfl) (by kernel_rfl) ?_
  refine s_load1 H90 (some 90) 25 (.tmp 89) 1 b4 18 (Value.cells (bS24 s)) 26 (0, 0) (wv (pI s 18)) (by kernel_rfl) (by kernel_rfl) (by kernel_rfl) (by kernel_rfl) (by kernel_rfl) (by kernel_rfl) ?_
  refine s_valE (some 91) (.int .u64 (IntKind.u64.wrap ((18446744073709551615) - (((BitVec.toNat (pI s 18) : Nat) : Int))))) (wv (~~~(pI s 18))) (fun w => by kernel_rfl) ((bv_sub_u64 (18446744073709551615 : BitVec 64) (pI s 18)).trans (bv_congr (sub_not (pI s 18)))) (by kernel_rfl) ?_
  refine s_val (some 15) (wv (~~~(pI s 18))) (fun w => by kernel_rfl) (by kernel_rfl) ?_
  refine s_nil ?_
  refine D2.g_draw0 [0, 1, 2, 3, 4, 5, 6, 7, 8, 9, 10, 11, 12, 13, 14, 15, 16, 17, 18] [((some 92), fun _ => .int .i64 2), ((some 93), fun _ => .int .i64 3), ((some 94), fun _ => .int .i64 17), ((some 95), fun _ => .int .i64 2), ((some 96), fun _ => .int .i64 3), ((some 97), fun _ => .int .i64 17), ((some 98), fun _ => .pointer (some ⟨b4, 17, none⟩)), ((some 99), fun _ => wv (pI s 17)), ((some 100), fun _ => wv (~~~(pI s 18))), ((some 101), fun _ => .int .i64 2), ((some 102), fun _ => .int .i64 4), ((some 103), fun _ => .int .i64 3), ((some 104), fun _ => .int .i64 19), ((some 105), fun _ => .pointer (some ⟨b4, 19, none⟩)), ((some 106), fun _ => wv (pI s 19)), ((some 107), fun _ => wv ((pI s 19) &&& ~~~(pI s 18))), ((some 108), fun _ => wv (xI (pI s) 17)), ((some 109), fun _ => .pointer (some ⟨b5, 17, none⟩)), (none, fun _ => undef)] (D2.Pre w.heap.size w (fun L g => [(true, (bif L 18 then (b5, Obj.cells (Value.cells (oS13 s)) 26 (0, 0)) else (b5, Obj.cells (Value.cells (oS12 s)) 26 (0, 0)))), (true, (b4, Obj.cells (Value.cells (bS24 s)) 26 (0, 0))), (true, (b3, Obj.cells (Value.cells (cS24 s)) 44 (0, 0))), (true, (b2, Obj.cells Z25 26 (0, 0))), (true, (b1, Obj.cells (Value.cells (svn s)) 26 (0, 0)))]) (fun L g => True)) (by kernel_rfl) (by kernel_rfl) (by kernel_rfl) ⟨D2.StE.of H90.drew _ (by kernel_rfl), trivial⟩ ⟨?_, ?_, ?_, ?_, ?_, ?_, ?_, ?_, ?_, ?_, ?_, ?_, ?_, ?_, ?_, ?_, ?_, ?_, ?_, trivial⟩ ?_
  · exact D2.gv_val (fun _ _ _ h => h) (fun g w => by kernel_rfl)
  · exact D2.gv_val (fun _ _ _ h => h) (fun g w => by kernel_rfl)
  · exact D2.gv_call 21 #[.int .i64 2, .int .i64 3] (fun _ _ _ h => h) (at_fn 2 3 (by omega) (by omega)) (fun g w => by kernel_rfl)
  · exact D2.gv_val (fun _ _ _ h => h) (fun g w => by kernel_rfl)
  · exact D2.gv_val (fun _ _ _ h => h) (fun g w => by kernel_rfl)
  · exact D2.gv_call 21 #[.int .i64 2, .int .i64 3] (fun _ _ _ h => h) (at_fn 2 3 (by omega) (by omega)) (fun g w => by kernel_rfl)
  · exact D2.gv_val (fun _ _ _ h => h) (fun g w => by kernel_rfl)
  · exact D2.gv_load1 25 (.tmp 98) 1 (fun g => b4) (fun g => 17) (fun g => (Value.cells (bS24 s))) 26 (0, 0) (fun _ _ _ h => h) (fun g => by kernel_rfl) (fun g => by kernel_rfl) (fun L g hN => (by kernel_rfl)) (by kernel_rfl) (fun L g hN hF => by kernel_rfl)
  · exact D2.gv_val (fun _ _ _ h => h) (fun g w => by kernel_rfl)
  · exact D2.gv_val (fun _ _ _ h => h) (fun g w => by kernel_rfl)
  · exact D2.gv_val (fun _ _ _ h => h) (fun g w => by kernel_rfl)
  · exact D2.gv_val (fun _ _ _ h => h) (fun g w => by kernel_rfl)
  · exact D2.gv_call 21 #[.int .i64 4, .int .i64 3] (fun _ _ _ h => h) (at_fn 4 3 (by omega) (by omega)) (fun g w => by kernel_rfl)
  · exact D2.gv_val (fun _ _ _ h => h) (fun g w => by kernel_rfl)
  · exact D2.gv_load1 25 (.tmp 105) 1 (fun g => b4) (fun g => 19) (fun g => (Value.cells (bS24 s))) 26 (0, 0) (fun _ _ _ h => h) (fun g => by kernel_rfl) (fun g => by kernel_rfl) (fun L g hN => (by kernel_rfl)) (by kernel_rfl) (fun L g hN hF => by kernel_rfl)
  · exact D2.gv_valE (fun _ _ _ h => h) (V' := .int .u64 (Go.bits .and .u64 (((BitVec.toNat (~~~(pI s 18)) : Nat) : Int)) (((BitVec.toNat (pI s 19) : Nat) : Int)))) (fun g w => by kernel_rfl) ((bv_and_u64 (~~~(pI s 18)) (pI s 19)).trans (bv_congr (BitVec.and_comm _ _)))
  · exact D2.gv_valE (fun _ _ _ h => h) (V' := .int .u64 (Go.bits .xor .u64 (((BitVec.toNat (pI s 17) : Nat) : Int)) (((BitVec.toNat ((pI s 19) &&& ~~~(pI s 18)) : Nat) : Int)))) (fun g w => by kernel_rfl) (bv_xor_u64 (pI s 17) ((pI s 19) &&& ~~~(pI s 18)))
  · exact D2.gv_val (fun _ _ _ h => h) (fun g w => by kernel_rfl)
  · exact D2.gv_store 0 25 (.tmp 109) (.tmp 108) (fun g => b5) (fun g => 17) (Value.cells (oS12 s)) (Value.cells (oS13 s)) 26 (wv (xI (pI s) 17)) (fun g => by kernel_rfl) (fun g => by kernel_rfl) (fun g => by kernel_rfl) (by kernel_rfl) (by kernel_rfl) (fun g => (of_decide_eq_true (by kernel_rfl))) (fun g => (by kernel_rfl)) (fun L g hN => ⟨(by have hL18 : L 18 = false := hN.1; exact D2.ent_get' (p := true) (e := (bif L 18 then (b5, Obj.cells (Value.cells (oS13 s)) 26 (0, 0)) else (b5, Obj.cells (Value.cells (oS12 s)) 26 (0, 0)))) (by kernel_rfl) (by rfl) (by simp only [hL18, cond_true, cond_false] <;> rfl)), (by kernel_rfl)⟩) (fun L g hN hF => hF)
  intro L0 G91 w91 hall HL; clear H90
  have H91 : St w.heap.size w w91 [(b5, Obj.cells (Value.cells (oS13 s)) 26 (0, 0)), (b4, Obj.cells (Value.cells (bS24 s)) 26 (0, 0)), (b3, Obj.cells (Value.cells (cS24 s)) 44 (0, 0)), (b2, Obj.cells Z25 26 (0, 0)), (b1, Obj.cells (Value.cells (svn s)) 26 (0, 0))] := by have e18 := hall 18 (Nat.le_of_ble_eq_true (by kernel_rfl)); have hS := D2.StE.st HL.1; simp only [e18, cond_true, D2.pres] at hS; exact hS
  clear HL hall
  show WP _ _ _ _ _ _
  refine g_reg0 [0, 1, 2] (by kernel_rfl) ?_
  refine s_val (some 83) (.int .i64 3) (fun w => by kernel_rfl) (by kernel_rfl) ?_
  refine s_val (some 84) (.int .i64 4) (fun w => by kernel_rfl) (by kernel_rfl) ?_
  refine s_val (some 14) (.int .i64 4) (fun w => by kernel_rfl) (by kernel_rfl) ?_
  refine s_nil ?_
  show WPL _ _ _ _ _ _
  refine g_next ?_
  refine g_seq (by kernel_rfl) ?_
  refine g_sreg [0, 1] (by kernel_rfl) (by kernel_rfl) ?_
  refine s_val (some 81) (.int .i64 4) (fun w => by kernel_rfl) (by kernel_rfl) ?_
  refine s_val (some 82) (.bool true) (fun w => by kernel_rfl) (by kernel_rfl) ?_
  refine s_nil ?_
  refine g_cond_t (by kernel_rfl) (by kernel_rfl) ?_
  refine g_skip (by kernel_rfl) ?_
  show WP _ _ _ _ _ _
  refine g_seq (by kernel_rfl) ?_
  refine g_block 11 (by kernel_rfl) ?_
  refine g_sreg [0, 1, 2, 3, 4, 5, 6, 7] (by kernel_rfl) (by kernel_rfl) ?_
  refine s_val (some 85) (.int .i64 2) (fun w => by kernel_rfl) (by kernel_rfl) ?_
  refine s_val (some 86) (.int .i64 3) (fun w => by kernel_rfl) (by kernel_rfl) ?_
  refine s_val (some 87) (.int .i64 4) (fun w => by kernel_rfl) (by kernel_rfl) ?_
  refine s_call H91 (some 88) 21 #[.int .i64 3, .int .i64 4] (.int .i64 23) (at_fn 3 4 (by omega) (by omega)) (fun w => by kernel_rfl) (by kernel_rfl) ?_
  intro w92 H92; clear H91
  refine s_val (some 89) (.pointer (some ⟨b4, 23, none⟩)) (fun w => by kernel_rfl) (by kernel_rfl) ?_
  refine s_load1 H92 (some 90) 25 (.tmp 89) 1 b4 23 (Value.cells (bS24 s)) 26 (0, 0) (wv (pI s 23)) (by kernel_rfl) (by kernel_rfl) (by kernel_rfl) (by kernel_rfl) (by kernel_rfl) (by kernel_rfl) ?_
  refine s_valE (some 91) (.int .u64 (IntKind.u64.wrap ((18446744073709551615) - (((BitVec.toNat (pI s 23) : Nat) : Int))))) (wv (~~~(pI s 23))) (fun w => by kernel_rfl) ((bv_sub_u64 (18446744073709551615 : BitVec 64) (pI s 23)).trans (bv_congr (sub_not (pI s 23)))) (by kernel_rfl) ?_
  refine s_val (some 15) (wv (~~~(pI s 23))) (fun w => by kernel_rfl) (by kernel_rfl) ?_
  refine s_nil ?_
  refine D2.g_draw0 [0, 1, 2, 3, 4, 5, 6, 7, 8, 9, 10, 11, 12, 13, 14, 15, 16, 17, 18] [((some 92), fun _ => .int .i64 2), ((some 93), fun _ => .int .i64 4), ((some 94), fun _ => .int .i64 22), ((some 95), fun _ => .int .i64 2), ((some 96), fun _ => .int .i64 4), ((some 97), fun _ => .int .i64 22), ((some 98), fun _ => .pointer (some ⟨b4, 22, none⟩)), ((some 99), fun _ => wv (pI s 22)), ((some 100), fun _ => wv (~~~(pI s 23))), ((some 101), fun _ => .int .i64 2), ((some 102), fun _ => .int .i64 4), ((some 103), fun _ => .int .i64 4), ((some 104), fun _ => .int .i64 24), ((some 105), fun _ => .pointer (some ⟨b4, 24, none⟩)), ((some 106), fun _ => wv (pI s 24)), ((some 107), fun _ => wv ((pI s 24) &&& ~~~(pI s 23))), ((some 108), fun _ => wv (xI (pI s) 22)), ((some 109), fun _ => .pointer (some ⟨b5, 22, none⟩)), (none, fun _ => undef)] (D2.Pre w.heap.size w (fun L g => [(true, (bif L 18 then (b5, Obj.cells (Value.cells (oS14 s)) 26 (0, 0)) else (b5, Obj.cells (Value.cells (oS13 s)) 26 (0, 0)))), (true, (b4, Obj.cells (Value.cells (bS24 s)) 26 (0, 0))), (true, (b3, Obj.cells (Value.cells (cS24 s)) 44 (0, 0))), (true, (b2, Obj.cells Z25 26 (0, 0))), (true, (b1, Obj.cells (Value.cells (svn s)) 26 (0, 0)))]) (fun L g => True)) (by kernel_rfl) (by kernel_rfl) (by kernel_rfl) ⟨D2.StE.of H92.drew _ (by kernel_rfl), trivial⟩ ⟨?_, ?_, ?_, ?_, ?_, ?_, ?_, ?_, ?_, ?_, ?_, ?_, ?_, ?_, ?_, ?_, ?_, ?_, ?_, trivial⟩ ?_
  · exact D2.gv_val (fun _ _ _ h => h) (fun g w => by kernel_rfl)
  · exact D2.gv_val (fun _ _ _ h => h) (fun g w => by kernel_rfl)
  · exact D2.gv_call 21 #[.int .i64 2, .int .i64 4] (fun _ _ _ h => h) (at_fn 2 4 (by omega) (by omega)) (fun g w => by kernel_rfl)
  · exact D2.gv_val (fun _ _ _ h => h) (fun g w => by kernel_rfl)
  · exact D2.gv_val (fun _ _ _ h => h) (fun g w => by kernel_rfl)
  · exact D2.gv_call 21 #[.int .i64 2, .int .i64 4] (fun _ _ _ h => h) (at_fn 2 4 (by omega) (by omega)) (fun g w => by kernel_rfl)
  · exact D2.gv_val (fun _ _ _ h => h) (fun g w => by kernel_rfl)
  · exact D2.gv_load1 25 (.tmp 98) 1 (fun g => b4) (fun g => 22) (fun g => (Value.cells (bS24 s))) 26 (0, 0) (fun _ _ _ h => h) (fun g => by kernel_rfl) (fun g => by kernel_rfl) (fun L g hN => (by kernel_rfl)) (by kernel_rfl) (fun L g hN hF => by kernel_rfl)
  · exact D2.gv_val (fun _ _ _ h => h) (fun g w => by kernel_rfl)
  · exact D2.gv_val (fun _ _ _ h => h) (fun g w => by kernel_rfl)
  · exact D2.gv_val (fun _ _ _ h => h) (fun g w => by kernel_rfl)
  · exact D2.gv_val (fun _ _ _ h => h) (fun g w => by kernel_rfl)
  · exact D2.gv_call 21 #[.int .i64 4, .int .i64 4] (fun _ _ _ h => h) (at_fn 4 4 (by omega) (by omega)) (fun g w => by kernel_rfl)
  · exact D2.gv_val (fun _ _ _ h => h) (fun g w => by kernel_rfl)
  · exact D2.gv_load1 25 (.tmp 105) 1 (fun g => b4) (fun g => 24) (fun g => (Value.cells (bS24 s))) 26 (0, 0) (fun _ _ _ h => h) (fun g => by kernel_rfl) (fun g => by kernel_rfl) (fun L g hN => (by kernel_rfl)) (by kernel_rfl) (fun L g hN hF => by kernel_rfl)
  · exact D2.gv_valE (fun _ _ _ h => h) (V' := .int .u64 (Go.bits .and .u64 (((BitVec.toNat (~~~(pI s 23)) : Nat) : Int)) (((BitVec.toNat (pI s 24) : Nat) : Int)))) (fun g w => by kernel_rfl) ((bv_and_u64 (~~~(pI s 23)) (pI s 24)).trans (bv_congr (BitVec.and_comm _ _)))
  · exact D2.gv_valE (fun _ _ _ h => h) (V' := .int .u64 (Go.bits .xor .u64 (((BitVec.toNat (pI s 22) : Nat) : Int)) (((BitVec.toNat ((pI s 24) &&& ~~~(pI s 23)) : Nat) : Int)))) (fun g w => by kernel_rfl) (bv_xor_u64 (pI s 22) ((pI s 24) &&& ~~~(pI s 23)))
  · exact D2.gv_val (fun _ _ _ h => h) (fun g w => by kernel_rfl)
  · exact D2.gv_store 0 25 (.tmp 109) (.tmp 108) (fun g => b5) (fun g => 22) (Value.cells (oS13 s)) (Value.cells (oS14 s)) 26 (wv (xI (pI s) 22)) (fun g => by kernel_rfl) (fun g => by kernel_rfl) (fun g => by kernel_rfl) (by kernel_rfl) (by kernel_rfl) (fun g => (of_decide_eq_true (by kernel_rfl))) (fun g => (by kernel_rfl)) (fun L g hN => ⟨(by have hL18 : L 18 = false := hN.1; exact D2.ent_get' (p := true) (e := (bif L 18 then (b5, Obj.cells (Value.cells (oS14 s)) 26 (0, 0)) else (b5, Obj.cells (Value.cells (oS13 s)) 26 (0, 0)))) (by kernel_rfl) (by rfl) (by simp only [hL18, cond_true, cond_false] <;> rfl)), (by kernel_rfl)⟩) (fun L g hN hF => hF)
  intro L0 G93 w93 hall HL; clear H92
  have H93 : St w.heap.size w w93 [(b5, Obj.cells (Value.cells (oS14 s)) 26 (0, 0)), (b4, Obj.cells (Value.cells (bS24 s)) 26 (0, 0)), (b3, Obj.cells (Value.cells (cS24 s)) 44 (0, 0)), (b2, Obj.cells Z25 26 (0, 0)), (b1, Obj.cells (Value.cells (svn s)) 26 (0, 0))] := by have e18 := hall 18 (Nat.le_of_ble_eq_true (by kernel_rfl)); have hS := D2.StE.st HL.1; simp only [e18, cond_true, D2.pres] at hS; exact hS
  clear HL hall
  show WP _ _ _ _ _ _
  refine g_reg0 [0, 1, 2] (by kernel_rfl) ?_
  refine s_val (some 83) (.int .i64 4) (fun w => by kernel_rfl) (by kernel_rfl) ?_
  refine s_val (some 84) (.int .i64 5) (fun w => by kernel_rfl) (by kernel_rfl) ?_
  refine s_val (some 14) (.int .i64 5) (fun w => by kernel_rfl) (by kernel_rfl) ?_
  refine s_nil ?_
  show WPL _ _ _ _ _ _
  refine g_next ?_
  refine g_seq (by kernel_rfl) ?_
  refine g_sreg [0, 1] (by kernel_rfl) (by kernel_rfl) ?_
  refine s_val (some 81) (.int .i64 5) (fun w => by kernel_rfl) (by kernel_rfl) ?_
  refine s_val (some 82) (.bool false) (fun w => by kernel_rfl) (by kernel_rfl) ?_
  refine s_nil ?_
  refine g_cond_f (by kernel_rfl) (by kernel_rfl) ?_
  refine g_exit 10 (by kernel_rfl) ?_
  show WP _ _ _ _ _ _
  refine g_reg0 [0, 1, 2] (by kernel_rfl) ?_
  refine s_val (some 79) (.int .i64 2) (fun w => by kernel_rfl) (by kernel_rfl) ?_
  refine s_val (some 80) (.int .i64 3) (fun w => by kernel_rfl) (by kernel_rfl) ?_
  refine s_val (some 13) (.int .i64 3) (fun w => by kernel_rfl) (by kernel_rfl) ?_
  refine s_nil ?_
  show WPL _ _ _ _ _ _
  refine g_next ?_
  refine g_seq (by kernel_rfl) ?_
  refine g_sreg [0, 1] (by kernel_rfl) (by kernel_rfl) ?_
  refine s_val (some 77) (.int .i64 3) (fun w => by kernel_rfl) (by kernel_rfl) ?_
  refine s_val (some 78) (.bool true) (fun w => by kernel_rfl) (by kernel_rfl) ?_
  refine s_nil ?_
  refine g_cond_t (by kernel_rfl) (by kernel_rfl) ?_
  refine g_skip (by kernel_rfl) ?_
  show WP _ _ _ _ _ _
  refine g_seq (by kernel_rfl) ?_
  refine g_block 9 (by kernel_rfl) ?_
  refine g_sreg [0] (by kernel_rfl) (by kernel_rfl) ?_
  refine s_val (some 14) (.int .i64 0) (fun w => by kernel_rfl) (by kernel_rfl) ?_
  refine s_nil ?_
  refine g_block 10 (by kernel_rfl) ?_
  refine g_first (by kernel_rfl) ?_
  refine g_seq (by kernel_rfl) ?_
  refine g_sreg [0, 1] (by kernel_rfl) (by kernel_rfl) ?_
  refine s_val (some 81) (.int .i64 0) (fun w => by kernel_rfl) (by kernel_rfl) ?_
  refine s_val (some 82) (.bool true) (fun w => by kernel_rfl) (by kernel_rfl) ?_
  refine s_nil ?_
  refine g_cond_t (by kernel_rfl) (by kernel_rfl) ?_
  refine g_skip (by kernel_rfl) ?_
  show WP _ _ _ _ _ _
  refine g_seq (by kernel_rfl) ?_
  refine g_block 11 (by kernel_rfl) ?_
  refine g_sreg [0, 1, 2, 3, 4, 5, 6, 7] (by kernel_rfl) (by kernel_rfl) ?_
  refine s_val (some 85) (.int .i64 3) (fun w => by kernel_rfl) (by kernel_rfl) ?_
  refine s_val (some 86) (.int .i64 4) (fun w => by kernel_rfl) (by kernel_rfl) ?_
  refine s_val (some 87) (.int .i64 0) (fun w => by kernel_rfl) (by kernel_rfl) ?_
  refine s_call H93 (some 88) 21 #[.int .i64 4, .int .i64 0] (.int .i64 4) (at_fn 4 0 (by omega) (by omega)) (fun w => by kernel_rfl) (by kernel_rfl) ?_
  intro w94 H94; clear H93
  refine s_val (some 89) (.pointer (some ⟨b4, 4, none⟩)) (fun w => by kernel_rfl) (by kernel_rfl) ?_
  refine s_load1 H94 (some 90) 25 (.tmp 89) 1 b4 4 (Value.cells (bS24 s)) 26 (0, 0) (wv (pI s 4)) (by kernel_rfl) (by kernel_rfl) (by kernel_rfl) (by kernel_rfl) (by kernel_rfl) (by kernel_rfl) ?_
  refine s_valE (some 91) (.int .u64 (IntKind.u64.wrap ((18446744073709551615) - (((BitVec.toNat (pI s 4) : Nat) : Int))))) (wv (~~~(pI s 4))) (fun w => by kernel_rfl) ((bv_sub_u64 (18446744073709551615 : BitVec 64) (pI s 4)).trans (bv_congr (sub_not (pI s 4)))) (by kernel_rfl) ?_
  refine s_val (some 15) (wv (~~~(pI s 4))) (fun w => by kernel_rfl) (by kernel_rfl) ?_
  refine s_nil ?_
  refine D2.g_draw0 [0, 1, 2, 3, 4, 5, 6, 7, 8, 9, 10, 11, 12, 13, 14, 15, 16, 17, 18] [((some 92), fun _ => .int .i64 3), ((some 93), fun _ => .int .i64 0), ((some 94), fun _ => .int .i64 3), ((some 95), fun _ => .int .i64 3), ((some 96), fun _ => .int .i64 0), ((some 97), fun _ => .int .i64 3), ((some 98), fun _ => .pointer (some ⟨b4, 3, none⟩)), ((some 99), fun _ => wv (pI s 3)), ((some 100), fun _ => wv (~~~(pI s 4))), ((some 101), fun _ => .int .i64 3), ((some 102), fun _ => .int .i64 5), ((some 103), fun _ => .int .i64 0), ((some 104), fun _ => .int .i64 0), ((some 105), fun _ => .pointer (some ⟨b4, 0, none⟩)), ((some 106), fun _ => wv (pI s 0)), ((some 107), fun _ => wv ((pI s 0) &&& ~~~(pI s 4))), ((some 108), fun _ => wv (xI (pI s) 3)), ((some 109), fun _ => .pointer (some ⟨b5, 3, none⟩)), (none, fun _ => undef)] (D2.Pre w.heap.size w (fun L g => [(true, (bif L 18 then (b5, Obj.cells (Value.cells (oS15 s)) 26 (0, 0)) else (b5, Obj.cells (Value.cells (oS14 s)) 26 (0, 0)))), (true, (b4, Obj.cells (Value.cells (bS24 s)) 26 (0, 0))), (true, (b3, Obj.cells (Value.cells (cS24 s)) 44 (0, 0))), (true, (b2, Obj.cells Z25 26 (0, 0))), (true, (b1, Obj.cells (Value.cells (svn s)) 26 (0, 0)))]) (fun L g => True)) (by kernel_rfl) (by kernel_rfl) (by kernel_rfl) ⟨D2.StE.of H94.drew _ (by kernel_rfl), trivial⟩ ⟨?_, ?_, ?_, ?_, ?_, ?_, ?_, ?_, ?_, ?_, ?_, ?_, ?_, ?_, ?_, ?_, ?_, ?_, ?_, trivial⟩ ?_
  · exact D2.gv_val (fun _ _ _ h => h) (fun g w => by kernel_rfl)
  · exact D2.gv_val (fun _ _ _ h => h) (fun g w => by kernel_rfl)
  · exact D2.gv_call 21 #[.int .i64 3, .int .i64 0] (fun _ _ _ h => h) (at_fn 3 0 (by omega) (by omega)) (fun g w => by kernel_rfl)
  · exact D2.gv_val (fun _ _ _ h => h) (fun g w => by kernel_rfl)
  · exact D2.gv_val (fun _ _ _ h => h) (fun g w => by kernel_rfl)
  · exact D2.gv_call 21 #[.int .i64 3, .int .i64 0] (fun _ _ _ h => h) (at_fn 3 0 (by omega) (by omega)) (fun g w => by kernel_rfl)
  · exact D2.gv_val (fun _ _ _ h => h) (fun g w => by kernel_rfl)
  · exact D2.gv_load1 25 (.tmp 98) 1 (fun g => b4) (fun g => 3) (fun g => (Value.cells (bS24 s))) 26 (0, 0) (fun _ _ _ h => h) (fun g => by kernel_rfl) (fun g => by kernel_rfl) (fun L g hN => (by kernel_rfl)) (by kernel_rfl) (fun L g hN hF => by kernel_rfl)
  · exact D2.gv_val (fun _ _ _ h => h) (fun g w => by kernel_rfl)
  · exact D2.gv_val (fun _ _ _ h => h) (fun g w => by kernel_rfl)
  · exact D2.gv_val (fun _ _ _ h => h) (fun g w => by kernel_rfl)
  · exact D2.gv_val (fun _ _ _ h => h) (fun g w => by kernel_rfl)
  · exact D2.gv_call 21 #[.int .i64 5, .int .i64 0] (fun _ _ _ h => h) (at_fn 5 0 (by omega) (by omega)) (fun g w => by kernel_rfl)
  · exact D2.gv_val (fun _ _ _ h => h) (fun g w => by kernel_rfl)
  · exact D2.gv_load1 25 (.tmp 105) 1 (fun g => b4) (fun g => 0) (fun g => (Value.cells (bS24 s))) 26 (0, 0) (fun _ _ _ h => h) (fun g => by kernel_rfl) (fun g => by kernel_rfl) (fun L g hN => (by kernel_rfl)) (by kernel_rfl) (fun L g hN hF => by kernel_rfl)
  · exact D2.gv_valE (fun _ _ _ h => h) (V' := .int .u64 (Go.bits .and .u64 (((BitVec.toNat (~~~(pI s 4)) : Nat) : Int)) (((BitVec.toNat (pI s 0) : Nat) : Int)))) (fun g w => by kernel_rfl) ((bv_and_u64 (~~~(pI s 4)) (pI s 0)).trans (bv_congr (BitVec.and_comm _ _)))
  · exact D2.gv_valE (fun _ _ _ h => h) (V' := .int .u64 (Go.bits .xor .u64 (((BitVec.toNat (pI s 3) : Nat) : Int)) (((BitVec.toNat ((pI s 0) &&& ~~~(pI s 4)) : Nat) : Int)))) (fun g w => by kernel_rfl) (bv_xor_u64 (pI s 3) ((pI s 0) &&& ~~~(pI s 4)))
  · exact D2.gv_val (fun _ _ _ h => h) (fun g w => by kernel_rfl)
  · exact D2.gv_store 0 25 (.tmp 109) (.tmp 108) (fun g => b5) (fun g => 3) (Value.cells (oS14 s)) (Value.cells (oS15 s)) 26 (wv (xI (pI s) 3)) (fun g => by kernel_rfl) (fun g => by kernel_rfl) (fun g => by kernel_rfl) (by kernel_rfl) (by kernel_rfl) (fun g => (of_decide_eq_true (by kernel_rfl))) (fun g => (by kernel_rfl)) (fun L g hN => ⟨(by have hL18 : L 18 = false := hN.1; exact D2.ent_get' (p := true) (e := (bif L 18 then (b5, Obj.cells (Value.cells (oS15 s)) 26 (0, 0)) else (b5, Obj.cells (Value.cells (oS14 s)) 26 (0, 0)))) (by kernel_rfl) (by rfl) (by simp only [hL18, cond_true, cond_false] <;> rfl)), (by kernel_rfl)⟩) (fun L g hN hF => hF)
  intro L0 G95 w95 hall HL; clear H94
  have H95 : St w.heap.size w w95 [(b5, Obj.cells (Value.cells (oS15 s)) 26 (0, 0)), (b4, Obj.cells (Value.cells (bS24 s)) 26 (0, 0)), (b3, Obj.cells (Value.cells (cS24 s)) 44 (0, 0)), (b2, Obj.cells Z25 26 (0, 0)), (b1, Obj.cells (Value.cells (svn s)) 26 (0, 0))] := by have e18 := hall 18 (Nat.le_of_ble_eq_true (by kernel_rfl)); have hS := D2.StE.st HL.1; simp only [e18, cond_true, D2.pres] at hS; exact hS
  clear HL hall
  show WP _ _ _ _ _ _
  refine g_reg0 [0, 1, 2] (by kernel_rfl) ?_
  refine s_val (some 83) (.int .i64 0) (fun w => by kernel_rfl) (by kernel_rfl) ?_
  refine s_val (some 84) (.int .i64 1) (fun w => by kernel_rfl) (by kernel_rfl) ?_
  refine s_val (some 14) (.int .i64 1) (fun w => by kernel_rfl) (by kernel_rfl) ?_
  refine s_nil ?_
  show WPL _ _ _ _ _ _
  refine g_next ?_
  refine g_seq (by kernel_rfl) ?_
  refine g_sreg [0, 1] (by kernel_rfl) (by kernel_rfl) ?_
  refine s_val (some 81) (.int .i64 1) (fun w => by kernel_rfl) (by kernel_rfl) ?_
  refine s_val (some 82) (.bool true) (fun w => by kernel_rfl) (by kernel_rfl) ?_
  refine s_nil ?_
  refine g_cond_t (by kernel_rfl) (by kernel_rfl) ?_
  refine g_skip (by kernel_rfl) ?_
  show WP _ _ _ _ _ _
  refine g_seq (by kernel_rfl) ?_
  refine g_block 11 (by kernel_rfl) ?_
  refine g_sreg [0, 1, 2, 3, 4, 5, 6, 7] (by kernel_rfl) (by kernel_rfl) ?_
  refine s_val (some 85) (.int .i64 3) (fun w => by kernel_rfl) (by kernel_rfl) ?_
  refine s_val (some 86) (.int .i64 4) (fun w => by kernel_rfl) (by kernel_rfl) ?_
  refine s_val (some 87) (.int .i64 1) (fun w => by kernel_rfl) (by kernel_rfl) ?_
  refine s_call H95 (some 88) 21 #[.int .i64 4, .int .i64 1] (.int .i64 9) (at_fn 4 1 (by omega) (by omega)) (fun w => by kernel_rfl) (by kernel_rfl) ?_
  intro w96 H96; clear H95
  refine s_val (some 89) (.pointer (some ⟨b4, 9, none⟩)) (fun w => by kernel_rfl) (by kernel_rfl) ?_
  refine s_load1 H96 (some 90) 25 (.tmp 89) 1 b4 9 (Value.cells (bS24 s)) 26 (0, 0) (wv (pI s 9)) (by kernel_rfl) (by kernel_rfl) (by kernel_rfl) (by kernel_rfl) (by kernel_rfl) (by kernel_rfl) ?_
  refine s_valE (some 91) (.int .u64 (IntKind.u64.wrap ((18446744073709551615) - (((BitVec.toNat (pI s 9) : Nat) : Int))))) (wv (~~~(pI s 9))) (fun w => by kernel_rfl) ((bv_sub_u64 (18446744073709551615 : BitVec 64) (pI s 9)).trans (bv_congr (sub_not (pI s 9)))) (by kernel_rfl) ?_
  refine s_val (some 15) (wv (~~~(pI s 9))) (fun w => by kernel_rfl) (by kernel_rfl) ?_
  refine s_nil ?_
  refine D2.g_draw0 [0, 1, 2, 3, 4, 5, 6, 7, 8, 9, 10, 11, 12, 13, 14, 15, 16, 17, 18] [((some 92), fun _ => .int .i64 3), ((some 93), fun _ => .int .i64 1), ((some 94), fun _ => .int .i64 8), ((some 95), fun _ => .int .i64 3), ((some 96), fun _ => .int .i64 1), ((some 97), fun _ => .int .i64 8), ((some 98), fun _ => .pointer (some ⟨b4, 8, none⟩)), ((some 99), fun _ => wv (pI s 8)), ((some 100), fun _ => wv (~~~(pI s 9))), ((some 101), fun _ => .int .i64 3), ((some 102), fun _ => .int .i64 5), ((some 103), fun _ => .int .i64 1), ((some 104), fun _ => .int .i64 5), ((some 105), fun _ => .pointer (some ⟨b4, 5, none⟩)), ((some 106), fun _ => wv (pI s 5)), ((some 107), fun _ => wv ((pI s 5) &&& ~~~(pI s 9))), ((some 108), fun _ => wv (xI (pI s) 8)), ((some 109), fun _ => .pointer (some ⟨b5, 8, none⟩)), (none, fun _ => undef)] (D2.Pre w.heap.size w (fun L g => [(true, (bif L 18 then (b5, Obj.cells (Value.cells (oS16 s)) 26 (0, 0)) else (b5, Obj.cells (Value.cells (oS15 s)) 26 (0, 0)))), (true, (b4, Obj.cells (Value.cells (bS24 s)) 26 (0, 0))), (true, (b3, Obj.cells (Value.cells (cS24 s)) 44 (0, 0))), (true, (b2, Obj.cells Z25 26 (0, 0))), (true, (b1, Obj.cells (Value.cells (svn s)) 26 (0, 0)))]) (fun L g => True)) (by kernel_rfl) (by kernel_rfl) (by kernel_rfl) ⟨D2.StE.of H96.drew _ (by kernel_rfl), trivial⟩ ⟨?_, ?_, ?_, ?_, ?_, ?_, ?_, ?_, ?_, ?_, ?_, ?_, ?_, ?_, ?_, ?_, ?_, ?_, ?_, trivial⟩ ?_
  · exact D2.gv_val (fun _ _ _ h => h) (fun g w => by kernel_rfl)
  · exact D2.gv_val (fun _ _ _ h => h) (fun g w => by kernel_rfl)
  · exact D2.gv_call 21 #[.int .i64 3, .int .i64 1] (fun _ _ _ h => h) (at_fn 3 1 (by omega) (by omega)) (fun g w => by kernel_rfl)
  · exact D2.gv_val (fun _ _ _ h => h) (fun g w => by kernel_rfl)
  · exact D2.gv_val (fun _ _ _ h => h) (fun g w => by kernel_rfl)
  · exact D2.gv_call 21 #[.int .i64 3, .int .i64 1] (fun _ _ _ h => h) (at_fn 3 1 (by omega) (by omega)) (fun g w => by kernel_rfl)
  · exact D2.gv_val (fun _ _ _ h => h) (fun g w => by kernel_rfl)
  · exact D2.gv_load1 25 (.tmp 98) 1 (fun g => b4) (fun g => 8) (fun g => (Value.cells (bS24 s))) 26 (0, 0) (fun _ _ _ h => h) (fun g => by kernel_rfl) (fun g => by kernel_rfl) (fun L g hN => (by kernel_rfl)) (by kernel_rfl) (fun L g hN hF => by kernel_rfl)
  · exact D2.gv_val (fun _ _ _ h => h) (fun g w => by kernel_rfl)
  · exact D2.gv_val (fun _ _ _ h => h) (fun g w => by kernel_rfl)
  · exact D2.gv_val (fun _ _ _ h => h) (fun g w => by kernel_rfl)
  · exact D2.gv_val (fun _ _ _ h => h) (fun g w => by kernel_rfl)
  · exact D2.gv_call 21 #[.int .i64 5, .int .i64 1] (fun _ _ _ h => h) (at_fn 5 1 (by omega) (by omega)) (fun g w => by kernel_rfl)
  · exact D2.gv_val (fun _ _ _ h => h) (fun g w => by kernel_rfl)
  · exact D2.gv_load1 25 (.tmp 105) 1 (fun g => b4) (fun g => 5) (fun g => (Value.cells (bS24 s))) 26 (0, 0) (fun _ _ _ h => h) (fun g => by kernel_rfl) (fun g => by kernel_rfl) (fun L g hN => (by kernel_rfl)) (by kernel_rfl) (fun L g hN hF => by kernel_rfl)
  · exact D2.gv_valE (fun _ _ _ h => h) (V' := .int .u64 (Go.bits .and .u64 (((BitVec.toNat (~~~(pI s 9)) : Nat) : Int)) (((BitVec.toNat (pI s 5) : Nat) : Int)))) (fun g w => by kernel_rfl) ((bv_and_u64 (~~~(pI s 9)) (pI s 5)).trans (bv_congr (BitVec.and_comm _ _)))
  · exact D2.gv_valE (fun _ _ _ h => h) (V' := .int .u64 (Go.bits .xor .u64 (((BitVec.toNat (pI s 8) : Nat) : Int)) (((BitVec.toNat ((pI s 5) &&& ~~~(pI s 9)) : Nat) : Int)))) (fun g w => by kernel_rfl) (bv_xor_u64 (pI s 8) ((pI s 5) &&& ~~~(pI s 9)))
  · exact D2.gv_val (fun _ _ _ h => h) (fun g w => by kernel_rfl)
  · exact D2.gv_store 0 25 (.tmp 109) (.tmp 108) (fun g => b5) (fun g => 8) (Value.cells (oS15 s)) (Value.cells (oS16 s)) 26 (wv (xI (pI s) 8)) (fun g => by kernel_rfl) (fun g => by kernel_rfl) (fun g => by kernel_rfl) (by kernel_rfl) (by kernel_rfl) (fun g => (of_decide_eq_true (by kernel_rfl))) (fun g => (by kernel_rfl)) (fun L g hN => ⟨(by have hL18 : L 18 = false := hN.1; exact D2.ent_get' (p := true) (e := (bif L 18 then (b5, Obj.cells (Value.cells (oS16 s)) 26 (0, 0)) else (b5, Obj.cells (Value.cells (oS15 s)) 26 (0, 0)))) (by kernel_rfl) (by rfl) (by simp only [hL18, cond_true, cond_false] <;> rfl)), (by kernel_rfl)⟩) (fun L g hN hF => hF)
  intro L0 G97 w97 hall HL; clear H96
  have H97 : St w.heap.size w w97 [(b5, Obj.cells (Value.cells (oS16 s)) 26 (0, 0)), (b4, Obj.cells (Value.cells (bS24 s)) 26 (0, 0)), (b3, Obj.cells (Value.cells (cS24 s)) 44 (0, 0)), (b2, Obj.cells Z25 26 (0, 0)), (b1, Obj.cells (Value.cells (svn s)) 26 (0, 0))] := by have e18 := hall 18 (Nat.le_of_ble_eq_true (by kernel_rfl)); have hS := D2.StE.st HL.1; simp only [e18, cond_true, D2.pres] at hS; exact hS
  clear HL hall
  show WP _ _ _ _ _ _
  refine g_reg0 [0, 1, 2] (by kernel_rfl) ?_
  refine s_val (some 83) (.int .i64 1) (fun w => by kernel_rfl) (by kernel_rfl) ?_
  refine s_val (some 84) (.int .i64 2) (fun w => by kernel_rfl) (by kernel_rfl) ?_
  refine s_val (some 14) (.int .i64 2) (fun w => by kernel_rfl) (by kernel_rfl) ?_
  refine s_nil ?_
  show WPL _ _ _ _ _ _
  refine g_next ?_
  refine g_seq (by kernel_rfl) ?_
  refine g_sreg [0, 1] (by kernel_rfl) (by kernel_rfl) ?_
  refine s_val (some 81) (.int .i64 2) (fun w => by kernel_rfl) (by kernel_rfl) ?_
  refine s_val (some 82) (.bool true) (fun w => by kernel_rfl) (by kernel_rfl) ?_
  refine s_nil ?_
  refine g_cond_t (by kernel_rfl) (by kernel_rfl) ?_
  refine g_skip (by kernel_rfl) ?_
  show WP _ _ _ _ _ _
  refine g_seq (by kernel_rfl) ?_
  refine g_block 11 (by kernel_rfl) ?_
  refine g_sreg [0, 1, 2, 3, 4, 5, 6, 7] (by kernel_rfl) (by kernel_rfl) ?_
  refine s_val (some 85) (.int .i64 3) (fun w => by kernel_rfl) (by kernel_rfl) ?_
  refine s_val (some 86) (.int .i64 4) (fun w => by kernel_rfl) (by kernel_rfl) ?_
  refine s_val (some 87) (.int .i64 2) (fun w => by kernel_rfl) (by kernel_rfl) ?_
  refine s_call H97 (some 88) 21 #[.int .i64 4, .int .i64 2] (.int .i64 14) (at_fn 4 2 (by omega) (by omega)) (fun w => by kernel_rfl) (by kernel_rfl) ?_
  intro w98 H98; clear H97
  refine s_val (some 89) (.pointer (some ⟨b4, 14, none⟩)) (fun w => by kernel_rfl) (by kernel_rfl) ?_
  refine s_load1 H98 (some 90) 25 (.tmp 89) 1 b4 14 (Value.cells (bS24 s)) 26 (0, 0) (wv (pI s 14)) (by kernel_rfl) (by kernel_rfl) (by kernel_rfl) (by kernel_rfl) (by kernel_rfl) (by kernel_rfl) ?_
  refine s_valE (some 91) (.int .u64 (IntKind.u64.wrap ((18446744073709551615) - (((BitVec.toNat (pI s 14) : Nat) : Int))))) (wv (~~~(pI s 14))) (fun w => by kernel_rfl) ((bv_sub_u64 (18446744073709551615 : BitVec 64) (pI s 14)).trans (bv_congr (sub_not (pI s 14)))) (by kernel_rfl) ?_
  refine s_val (some 15) (wv (~~~(pI s 14))) (fun w => by kernel_rfl) (by kernel_rfl) ?_
  refine s_nil ?_
  refine D2.g_draw0 [0, 1, 2, 3, 4, 5, 6, 7, 8, 9, 10, 11, 12, 13, 14, 15, 16, 17, 18] [((some 92), fun _ => .int .i64 3), ((some 93), fun _ => .int .i64 2), ((some 94), fun _ => .int .i64 13), ((some 95), fun _ => .int .i64 3), ((some 96), fun _ => .int .i64 2), ((some 97), fun _ => .int .i64 13), ((some 98), fun _ => .pointer (some ⟨b4, 13, none⟩)), ((some 99), fun _ => wv (pI s 13)), ((some 100), fun _ => wv (~~~(pI s 14))), ((some 101), fun _ => .int .i64 3), ((some 102), fun _ => .int .i64 5), ((some 103), fun _ => .int .i64 2), ((some 104), fun _ => .int .i64 10), ((some 105), fun _ => .pointer (some ⟨b4, 10, none⟩)), ((some 106), fun _ => wv (pI s 10)), ((some 107), fun _ => wv ((pI s 10) &&& ~~~(pI s 14))), ((some 108), fun _ => wv (xI (pI s) 13)), ((some 109), fun _ => .pointer (some ⟨b5, 13, none⟩)), (none, fun _ => undef)] (D2.Pre w.heap.size w (fun L g => [(true, (bif L 18 then (b5, Obj.cells (Value.cells (oS17 s)) 26 (0, 0)) else (b5, Obj.cells (Value.cells (oS16 s)) 26 (0, 0)))), (true, (b4, Obj.cells (Value.cells (bS24 s)) 26 (0, 0))), (true, (b3, Obj.cells (Value.cells (cS24 s)) 44 (0, 0))), (true, (b2, Obj.cells Z25 26 (0, 0))), (true, (b1, Obj.cells (Value.cells (svn s)) 26 (0, 0)))]) (fun L g => True)) (by kernel_rfl) (by kernel_rfl) (by kernel_rfl) ⟨D2.StE.of H98.drew _ (by kernel_rfl), trivial⟩ ⟨?_, ?_, ?_, ?_, ?_, ?_, ?_, ?_, ?_, ?_, ?_, ?_, ?_, ?_, ?_, ?_, ?_, ?_, ?_, trivial⟩ ?_
  · exact D2.gv_val (fun _ _ _ h => h) (fun g w => by kernel_rfl)
  · exact D2.gv_val (fun _ _ _ h => h) (fun g w => by kernel_rfl)
  · exact D2.gv_call 21 #[.int .i64 3, .int .i64 2] (fun _ _ _ h => h) (at_fn 3 2 (by omega) (by omega)) (fun g w => by kernel_rfl)
  · exact D2.gv_val (fun _ _ _ h => h) (fun g w => by kernel_rfl)
  · exact D2.gv_val (fun _ _ _ h => h) (fun g w => by kernel_rfl)
  · exact D2.gv_call 21 #[.int .i64 3, .int .i64 2] (fun _ _ _ h => h) (at_fn 3 2 (by omega) (by omega)) (fun g w => by kernel_rfl)
  · exact D2.gv_val (fun _ _ _ h => h) (fun g w => by kernel_rfl)
  · exact D2.gv_load1 25 (.tmp 98) 1 (fun g => b4) (fun g => 13) (fun g => (Value.cells (bS24 s))) 26 (0, 0) (fun _ _ _ h => h) (fun g => by kernel_rfl) (fun g => by kernel_rfl) (fun L g hN => (by kernel_rfl)) (by kernel_rfl) (fun L g hN hF => by kernel_rfl)
  · exact D2.gv_val (fun _ _ _ h => h) (fun g w => by kernel_rfl)
  · exact D2.gv_val (fun _ _ _ h => h) (fun g w => by kernel_rfl)
  · exact D2.gv_val (fun _ _ _ h => h) (fun g w => by kernel_rfl)
  · exact D2.gv_val (fun _ _ _ h => h) (fun g w => by kernel_rfl)
  · exact D2.gv_call 21 #[.int .i64 5, .int .i64 2] (fun _ _ _ h => h) (at_fn 5 2 (by omega) (by omega)) (fun g w => by kernel_rfl)
  · exact D2.gv_val (fun _ _ _ h => h) (fun g w => by kernel_rfl)
  · exact D2.gv_load1 25 (.tmp 105) 1 (fun g => b4) (fun g => 10) (fun g => (Value.cells (bS24 s))) 26 (0, 0) (fun _ _ _ h => h) (fun g => by kernel_rfl) (fun g => by kernel_rfl) (fun L g hN => (by kernel_rfl)) (by kernel_rfl) (fun L g hN hF => by kernel_rfl)
  · exact D2.gv_valE (fun _ _ _ h => h) (V' := .int .u64 (Go.bits .and .u64 (((BitVec.toNat (~~~(pI s 14)) : Nat) : Int)) (((BitVec.toNat (pI s 10) : Nat) : Int)))) (fun g w => by kernel_rfl) ((bv_and_u64 (~~~(pI s 14)) (pI s 10)).trans (bv_congr (BitVec.and_comm _ _)))
  · exact D2.gv_valE (fun _ _ _ h => h) (V' := .int .u64 (Go.bits .xor .u64 (((BitVec.toNat (pI s 13) : Nat) : Int)) (((BitVec.toNat ((pI s 10) &&& ~~~(pI s 14)) : Nat) : Int)))) (fun g w => by kernel_rfl) (bv_xor_u64 (pI s 13) ((pI s 10) &&& ~~~(pI s 14)))
  · exact D2.gv_val (fun _ _ _ h => h) (fun g w => by kernel_rfl)
  · exact D2.gv_store 0 25 (.tmp 109) (.tmp 108) (fun g => b5) (fun g => 13) (Value.cells (oS16 s)) (Value.cells (oS17 s)) 26 (wv (xI (pI s) 13)) (fun g => by kernel_rfl) (fun g => by kernel_rfl) (fun g => by kernel_rfl) (by kernel_rfl) (by kernel_rfl) (fun g => (of_decide_eq_true (by kernel_rfl))) (fun g => (by kernel_rfl)) (fun L g hN => ⟨(by have hL18 : L 18 = false := hN.1; exact D2.ent_get' (p := true) (e := (bif L 18 then (b5, Obj.cells (Value.cells (oS17 s)) 26 (0, 0)) else (b5, Obj.cells (Value.cells (oS16 s)) 26 (0, 0)))) (by kernel_rfl) (by rfl) (by simp only [hL18, cond_true, cond_false] <;> rfl)), (by kernel_rfl)⟩) (fun L g hN hF => hF)
  intro L0 G99 w99 hall HL; clear H98
  have H99 : St w.heap.size w w99 [(b5, Obj.cells (Value.cells (oS17 s)) 26 (0, 0)), (b4, Obj.cells (Value.cells (bS24 s)) 26 (0, 0)), (b3, Obj.cells (Value.cells (cS24 s)) 44 (0, 0)), (b2, Obj.cells Z25 26 (0, 0)), (b1, Obj.cells (Value.cells (svn s)) 26 (0, 0))] := by have e18 := hall 18 (Nat.le_of_ble_eq_true (by kernel_rfl)); have hS := D2.StE.st HL.1; simp only [e18, cond_true, D2.pres] at hS; exact hS
  clear HL hall
  show WP _ _ _ _ _ _
  refine g_reg0 [0, 1, 2] (by kernel_rfl) ?_
  refine s_val (some 83) (.int .i64 2) (fun w => by kernel_rfl) (by kernel_rfl) ?_
  refine s_val (some 84) (.int .i64 3) (fun w => by kernel_rfl) (by kernel_rfl) ?_
  refine s_val (some 14) (.int .i64 3) (fun w => by kernel_rfl) (by kernel_rfl) ?_
  refine s_nil ?_
  show WPL _ _ _ _ _ _
  refine g_next ?_
  refine g_seq (by kernel_rfl) ?_
  refine g_sreg [0, 1] (by kernel_rfl) (by kernel_rfl) ?_
  refine s_val (some 81) (.int .i64 3) (fun w => by kernel_rfl) (by kernel_rfl) ?_
  refine s_val (some 82) (.bool true) (fun w => by kernel_rfl) (by kernel_rfl) ?_
  refine s_nil ?_
  refine g_cond_t (by kernel_rfl) (by kernel_rfl) ?_
  refine g_skip (by kernel_rfl) ?_
  show WP _ _ _ _ _ _
  refine g_seq (by kernel_rfl) ?_
  refine g_block 11 (by kernel_rfl) ?_
  refine g_sreg [0, 1, 2, 3, 4, 5, 6, 7] (by kernel_rfl) (by kernel_rfl) ?_
  refine s_val (some 85) (.int .i64 3) (fun w => by kernel_rfl) (by kernel_rfl) ?_
  refine s_val (some 86) (.int .i64 4) (fun w => by kernel_rfl) (by kernel_rfl) ?_
  refine s_val (some 87) (.int .i64 3) (fun w => by kernel_rfl) (by kernel_rfl) ?_
  refine s_call H99 (some 88) 21 #[.int .i64 4, .int .i64 3] (.int .i64 19) (at_fn 4 3 (by omega) (by omega)) (fun w => by kernel_rfl) (by kernel_rfl) ?_
  intro w100 H100; clear H99
  refine s_val (some 89) (.pointer (some ⟨b4, 19, none⟩)) (fun w => by kernel_rfl) (by kernel_rfl) ?_
  refine s_load1 H100 (some 90) 25 (.tmp 89) 1 b4 19 (Value.cells (bS24 s)) 26 (0, 0) (wv (pI s 19)) (by kernel_rfl) (by kernel_rfl) (by kernel_rfl) (by kernel_rfl) (by kernel_rfl) (by kernel_rfl) ?_
  refine s_valE (some 91) (.int .u64 (IntKind.u64.wrap ((18446744073709551615) - (((BitVec.toNat (pI s 19) : Nat) : Int))))) (wv (~~~(pI s 19))) (fun w => by kernel_rfl) ((bv_sub_u64 (18446744073709551615 : BitVec 64) (pI s 19)).trans (bv_congr (sub_not (pI s 19)))) (by kernel_rfl) ?_
  refine s_val (some 15) (wv (~~~(pI s 19))) (fun w => by kernel_rfl) (by kernel_rfl) ?_
  refine s_nil ?_
  refine D2.g_draw0 [0, 1, 2, 3, 4, 5, 6, 7, 8, 9, 10, 11, 12, 13, 14, 15, 16, 17, 18] [((some 92), fun _ => .int .i64 3), ((some 93), fun _ => .int .i64 3), ((some 94), fun _ => .int .i64 18), ((some 95), fun _ => .int .i64 3), ((some 96), fun _ => .int .i64 3), ((some 97), fun _ => .int .i64 18), ((some 98), fun _ => .pointer (some ⟨b4, 18, none⟩)), ((some 99), fun _ => wv (pI s 18)), ((some 100), fun _ => wv (~~~(pI s 19))), ((some 101), fun _ => .int .i64 3), ((some 102), fun _ => .int .i64 5), ((some 103), fun _ => .int .i64 3), ((some 104), fun _ => .int .i64 15), ((some 105), fun _ => .pointer (some ⟨b4, 15, none⟩)), ((some 106), fun _ => wv (pI s 15)), ((some 107), fun _ => wv ((pI s 15) &&& ~~~(pI s 19))), ((some 108), fun _ => wv (xI (pI s) 18)), ((some 109), fun _ => .pointer (some ⟨b5, 18, none⟩)), (none, fun _ => undef)] (D2.Pre w.heap.size w (fun L g => [(true, (bif L 18 then (b5, Obj.cells (Value.cells (oS18 s)) 26 (0, 0)) else (b5, Obj.cells (Value.cells (oS17 s)) 26 (0, 0)))), (true, (b4, Obj.cells (Value.cells (bS24 s)) 26 (0, 0))), (true, (b3, Obj.cells (Value.cells (cS24 s)) 44 (0, 0))), (true, (b2, Obj.cells Z25 26 (0, 0))), (true, (b1, Obj.cells (Value.cells (svn s)) 26 (0, 0)))]) (fun L g => True)) (by kernel_rfl) (by kernel_rfl) (by kernel_rfl) ⟨D2.StE.of H100.drew _ (by kernel_rfl), trivial⟩ ⟨?_, ?_, ?_, ?_, ?_, ?_, ?_, ?_, ?_, ?_, ?_, ?_, ?_, ?_, ?_, ?_, ?_, ?_, ?_, trivial⟩ ?_
  · exact D2.gv_val (fun _ _ _ h => h) (fun g w => by kernel_rfl)
  · exact D2.gv_val (fun _ _ _ h => h) (fun g w => by kernel_rfl)
  · exact D2.gv_call 21 #[.int .i64 3, .int .i64 3] (fun _ _ _ h => h) (at_fn 3 3 (by omega) (by omega)) (fun g w => by kernel_rfl)
  · exact D2.gv_val (fun _ _ _ h => h) (fun g w => by kernel_rfl)
  · exact D2.gv_val (fun _ _ _ h => h) (fun g w => by kernel_rfl)
  · exact D2.gv_call 21 #[.int .i64 3, .int .i64 3] (fun _ _ _ h => h) (at_fn 3 3 (by omega) (by omega)) (fun g w => by kernel_rfl)
  · exact D2.gv_val (fun _ _ _ h => h) (fun g w => by kernel_rfl)
  · exact D2.gv_load1 25 (.tmp 98) 1 (fun g => b4) (fun g => 18) (fun g => (Value.cells (bS24 s))) 26 (0, 0) (fun _ _ _ h => h) (fun g => by kernel_rfl) (fun g => by kernel_rfl) (fun L g hN => (by kernel_rfl)) (by kernel_rfl) (fun L g hN hF => by kernel_rfl)
  · exact D2.gv_val (fun _ _ _ h => h) (fun g w => by kernel_rfl)
  · exact D2.gv_val (fun _ _ _ h => h) (fun g w => by kernel_rfl)
  · exact D2.gv_val (fun _ _ _ h => h) (fun g w => by kernel_rfl)
  · exact D2.gv_val (fun _ _ _ h => h) (fun g w => by kernel_rfl)
  · exact D2.gv_call 21 #[.int .i64 5, .int .i64 3] (fun _ _ _ h => h) (at_fn 5 3 (by omega) (by omega)) (fun g w => by kernel_rfl)
  · exact D2.gv_val (fun _ _ _ h => h) (fun g w => by kernel_rfl)
  · exact D2.gv_load1 25 (.tmp 105) 1 (fun g => b4) (fun g => 15) (fun g => (Value.cells (bS24 s))) 26 (0, 0) (fun _ _ _ h => h) (fun g => by kernel_rfl) (fun g => by kernel_rfl) (fun L g hN => (by kernel_rfl)) (by kernel_rfl) (fun L g hN hF => by kernel_rfl)
  · exact D2.gv_valE (fun _ _ _ h => h) (V' := .int .u64 (Go.bits .and .u64 (((BitVec.toNat (~~~(pI s 19)) : Nat) : Int)) (((BitVec.toNat (pI s 15) : Nat) : Int)))) (fun g w => by kernel_rfl) ((bv_and_u64 (~~~(pI s 19)) (pI s 15)).trans (bv_congr (BitVec.and_comm _ _)))
  · exact D2.gv_valE (fun _ _ _ h => h) (V' := .int .u64 (Go.bits .xor .u64 (((BitVec.toNat (pI s 18) : Nat) : Int)) (((BitVec.toNat ((pI s 15) &&& ~~~(pI s 19)) : Nat) : Int)))) (fun g w => by kernel_rfl) (bv_xor_u64 (pI s 18) ((pI s 15) &&& ~~~(pI s 19)))
  · exact D2.gv_val (fun _ _ _ h => h) (fun g w => by kernel_rfl)
  · exact D2.gv_store 0 25 (.tmp 109) (.tmp 108) (fun g => b5) (fun g => 18) (Value.cells (oS17 s)) (Value.cells (oS18 s)) 26 (wv (xI (pI s) 18)) (fun g => by kernel_rfl) (fun g => by kernel_rfl) (fun g => by kernel_rfl) (by kernel_rfl) (by kernel_rfl) (fun g => (of_decide_eq_true (by kernel_rfl))) (fun g => (by kernel_rfl)) (fun L g hN => ⟨(by have hL18 : L 18 = false := hN.1; exact D2.ent_get' (p := true) (e := (bif L 18 then (b5, Obj.cells (Value.cells (oS18 s)) 26 (0, 0)) else (b5, Obj.cells (Value.cells (oS17 s)) 26 (0, 0)))) (by kernel_rfl) (by rfl) (by simp only [hL18, cond_true, cond_false] <;> rfl)), (by kernel_rfl)⟩) (fun L g hN hF => hF)
  intro L0 G101 w101 hall HL; clear H100
  have H101 : St w.heap.size w w101 [(b5, Obj.cells (Value.cells (oS18 s)) 26 (0, 0)), (b4, Obj.cells (Value.cells (bS24 s)) 26 (0, 0)), (b3, Obj.cells (Value.cells (cS24 s)) 44 (0, 0)), (b2, Obj.cells Z25 26 (0, 0)), (b1, Obj.cells (Value.cells (svn s)) 26 (0, 0))] := by have e18 := hall 18 (Nat.le_of_ble_eq_true (by kernel_rfl)); have hS := D2.StE.st HL.1; simp only [e18, cond_true, D2.pres] at hS; exact hS
  clear HL hall
  show WP _ _ _ _ _ _
  refine g_reg0 [0, 1, 2] (by kernel_rfl) ?_
  refine s_val (some 83) (.int .i64 3) (fun w => by kernel_rfl) (by kernel_rfl) ?_
  refine s_val (some 84) (.int .i64 4) (fun w => by kernel_rfl) (by kernel_rfl) ?_
  refine s_val (some 14) (.int .i64 4) (fun w => by kernel_rfl) (by kernel_rfl) ?_
  refine s_nil ?_
  show WPL _ _ _ _ _ _
  refine g_next ?_
  refine g_seq (by kernel_rfl) ?_
  refine g_sreg [0, 1] (by kernel_rfl) (by kernel_rfl) ?_
  refine s_val (some 81) (.int .i64 4) (fun w => by kernel_rfl) (by kernel_rfl) ?_
  refine s_val (some 82) (.bool true) (fun w => by kernel_rfl) (by kernel_rfl) ?_
  refine s_nil ?_
  refine g_cond_t (by kernel_rfl) (by kernel_rfl) ?_
  refine g_skip (by kernel_rfl) ?_
  show WP _ _ _ _ _ _
  refine g_seq (by kernel_rfl) ?_
  refine g_block 11 (by kernel_rfl) ?_
  refine g_sreg [0, 1, 2, 3, 4, 5, 6, 7] (by kernel_rfl) (by kernel_rfl) ?_
  refine s_val (some 85) (.int .i64 3) (fun w => by kernel_rfl) (by kernel_rfl) ?_
  refine s_val (some 86) (.int .i64 4) (fun w => by kernel_rfl) (by kernel_rfl) ?_
  refine s_val (some 87) (.int .i64 4) (fun w => by kernel_rfl) (by kernel_rfl) ?_
  refine s_call H101 (some 88) 21 #[.int .i64 4, .int .i64 4] (.int .i64 24) (at_fn 4 4 (by omega) (by omega)) (fun w => by kernel_rfl) (by kernel_rfl) ?_
  intro w102 H102; clear H101
  refine s_val (some 89) (.pointer (some ⟨b4, 24, none⟩)) (fun w => by kernel_rfl) (by kernel_rfl) ?_
  refine s_load1 H102 (some 90) 25 (.tmp 89) 1 b4 24 (Value.cells (bS24 s)) 26 (0, 0) (wv (pI s 24)) (by kernel_rfl) (by kernel_rfl) (by kernel_rfl) (by kernel_rfl) (by kernel_rfl) (by kernel_rfl) ?_
  refine s_valE (some 91) (.int .u64 (IntKind.u64.wrap ((18446744073709551615) - (((BitVec.toNat (pI s 24) : Nat) : Int))))) (wv (~~~(pI s 24))) (fun w => by kernel_rfl) ((bv_sub_u64 (18446744073709551615 : BitVec 64) (pI s 24)).trans (bv_congr (sub_not (pI s 24)))) (by kernel_rfl) ?_
  refine s_val (some 15) (wv (~~~(pI s 24))) (fun w => by kernel_rfl) (by kernel_rfl) ?_
  refine s_nil ?_
  refine D2.g_draw0 [0, 1, 2, 3, 4, 5, 6, 7, 8, 9, 10, 11, 12, 13, 14, 15, 16, 17, 18] [((some 92), fun _ => .int .i64 3), ((some 93), fun _ => .int .i64 4), ((some 94), fun _ => .int .i64 23), ((some 95), fun _ => .int .i64 3), ((some 96), fun _ => .int .i64 4), ((some 97), fun _ => .int .i64 23), ((some 98), fun _ => .pointer (some ⟨b4, 23, none⟩)), ((some 99), fun _ => wv (pI s 23)), ((some 100), fun _ => wv (~~~(pI s 24))), ((some 101), fun _ => .int .i64 3), ((some 102), fun _ => .int .i64 5), ((some 103), fun _ => .int .i64 4), ((some 104), fun _ => .int .i64 20), ((some 105), fun _ => .pointer (some ⟨b4, 20, none⟩)), ((some 106), fun _ => wv (pI s 20)), ((some 107), fun _ => wv ((pI s 20) &&& ~~~(pI s 24))), ((some 108), fun _ => wv (xI (pI s) 23)), ((some 109), fun _ => .pointer (some ⟨b5, 23, none⟩)), (none, fun _ => undef)] (D2.Pre w.heap.size w (fun L g => [(true, (bif L 18 then (b5, Obj.cells (Value.cells (oS19 s)) 26 (0, 0)) else (b5, Obj.cells (Value.cells (oS18 s)) 26 (0, 0)))), (true, (b4, Obj.cells (Value.cells (bS24 s)) 26 (0, 0))), (true, (b3, Obj.cells (Value.cells (cS24 s)) 44 (0, 0))), (true, (b2, Obj.cells Z25 26 (0, 0))), (true, (b1, Obj.cells (Value.cells (svn s)) 26 (0, 0)))]) (fun L g => True)) (by kernel_rfl) (by kernel_rfl) (by kernel_rfl) ⟨D2.StE.of H102.drew _ (by kernel_rfl), trivial⟩ ⟨?_, ?_, ?_, ?_, ?_, ?_, ?_, ?_, ?_, ?_, ?_, ?_, ?_, ?_, ?_, ?_, ?_, ?_, ?_, trivial⟩ ?_
  · exact D2.gv_val (fun _ _ _ h => h) (fun g w => by kernel_rfl)
  · exact D2.gv_val (fun _ _ _ h => h) (fun g w => by kernel_rfl)
  · exact D2.gv_call 21 #[.int .i64 3, .int .i64 4] (fun _ _ _ h => h) (at_fn 3 4 (by omega) (by omega)) (fun g w => by kernel_rfl)
  · exact D2.gv_val (fun _ _ _ h => h) (fun g w => by kernel_rfl)
  · exact D2.gv_val (fun _ _ _ h => h) (fun g w => by kernel_rfl)
  · exact D2.gv_call 21 #[.int .i64 3, .int .i64 4] (fun _ _ _ h => h) (at_fn 3 4 (by omega) (by omega)) (fun g w => by kernel_rfl)
  · exact D2.gv_val (fun _ _ _ h => h) (fun g w => by kernel_rfl)
  · exact D2.gv_load1 25 (.tmp 98) 1 (fun g => b4) (fun g => 23) (fun g => (Value.cells (bS24 s))) 26 (0, 0) (fun _ _ _ h => h) (fun g => by kernel_rfl) (fun g => by kernel_rfl) (fun L g hN => (by kernel_rfl)) (by kernel_rfl) (fun L g hN hF => by kernel_rfl)
  · exact D2.gv_val (fun _ _ _ h => h) (fun g w => by kernel_rfl)
  · exact D2.gv_val (fun _ _ _ h => h) (fun g w => by kernel_rfl)
  · exact D2.gv_val (fun _ _ _ h => h) (fun g w => by kernel_rfl)
  · exact D2.gv_val (fun _ _ _ h => h) (fun g w => by kernel_rfl)
  · exact D2.gv_call 21 #[.int .i64 5, .int .i64 4] (fun _ _ _ h => h) (at_fn 5 4 (by omega) (by omega)) (fun g w => by kernel_rfl)
  · exact D2.gv_val (fun _ _ _ h => h) (fun g w => by kernel_rfl)
  · exact D2.gv_load1 25 (.tmp 105) 1 (fun g => b4) (fun g => 20) (fun g => (Value.cells (bS24 s))) 26 (0, 0) (fun _ _ _ h => h) (fun g => by kernel_rfl) (fun g => by kernel_rfl) (fun L g hN => (by kernel_rfl)) (by kernel_rfl) (fun L g hN hF => by kernel_rfl)
  · exact D2.gv_valE (fun _ _ _ h => h) (V' := .int .u64 (Go.bits .and .u64 (((BitVec.toNat (~~~(pI s 24)) : Nat) : Int)) (((BitVec.toNat (pI s 20) : Nat) : Int)))) (fun g w => by kernel_rfl) ((bv_and_u64 (~~~(pI s 24)) (pI s 20)).trans (bv_congr (BitVec.and_comm _ _)))
  · exact D2.gv_valE (fun _ _ _ h => h) (V' := .int .u64 (Go.bits .xor .u64 (((BitVec.toNat (pI s 23) : Nat) : Int)) (((BitVec.toNat ((pI s 20) &&& ~~~(pI s 24)) : Nat) : Int)))) (fun g w => by kernel_rfl) (bv_xor_u64 (pI s 23) ((pI s 20) &&& ~~~(pI s 24)))
  · exact D2.gv_val (fun _ _ _ h => h) (fun g w => by kernel_rfl)
  · exact D2.gv_store 0 25 (.tmp 109) (.tmp 108) (fun g => b5) (fun g => 23) (Value.cells (oS18 s)) (Value.cells (oS19 s)) 26 (wv (xI (pI s) 23)) (fun g => by kernel_rfl) (fun g => by kernel_rfl) (fun g => by kernel_rfl) (by kernel_rfl) (by kernel_rfl) (fun g => (of_decide_eq_true (by kernel_rfl))) (fun g => (by kernel_rfl)) (fun L g hN => ⟨(by have hL18 : L 18 = false := hN.1; exact D2.ent_get' (p := true) (e := (bif L 18 then (b5, Obj.cells (Value.cells (oS19 s)) 26 (0, 0)) else (b5, Obj.cells (Value.cells (oS18 s)) 26 (0, 0)))) (by kernel_rfl) (by rfl) (by simp only [hL18, cond_true, cond_false] <;> rfl)), (by kernel_rfl)⟩) (fun L g hN hF => hF)
  intro L0 G103 w103 hall HL; clear H102
  have H103 : St w.heap.size w w103 [(b5, Obj.cells (Value.cells (oS19 s)) 26 (0, 0)), (b4, Obj.cells (Value.cells (bS24 s)) 26 (0, 0)), (b3, Obj.cells (Value.cells (cS24 s)) 44 (0, 0)), (b2, Obj.cells Z25 26 (0, 0)), (b1, Obj.cells (Value.cells (svn s)) 26 (0, 0))] := by have e18 := hall 18 (Nat.le_of_ble_eq_true (by kernel_rfl)); have hS := D2.StE.st HL.1; simp only [e18, cond_true, D2.pres] at hS; exact hS
  clear HL hall
  show WP _ _ _ _ _ _
  refine g_reg0 [0, 1, 2] (by kernel_rfl) ?_
  refine s_val (some 83) (.int .i64 4) (fun w => by kernel_rfl) (by kernel_rfl) ?_
  refine s_val (some 84) (.int .i64 5) (fun w => by kernel_rfl) (by kernel_rfl) ?_
  refine s_val (some 14) (.int .i64 5) (fun w => by kernel_rfl) (by kernel_rfl) ?_
  refine s_nil ?_
  show WPL _ _ _ _ _ _
  refine g_next ?_
  refine g_seq (by kernel_rfl) ?_
  refine g_sreg [0, 1] (by kernel_rfl) (by kernel_rfl) ?_
  refine s_val (some 81) (.int .i64 5) (fun w => by kernel_rfl) (by kernel_rfl) ?_
  refine s_val (some 82) (.bool false) (fun w => by kernel_rfl) (by kernel_rfl) ?_
  refine s_nil ?_
  refine g_cond_f (by kernel_rfl) (by kernel_rfl) ?_
  refine g_exit 10 (by kernel_rfl) ?_
  show WP _ _ _ _ _ _
  refine g_reg0 [0, 1, 2] (by kernel_rfl) ?_
  refine s_val (some 79) (.int .i64 3) (fun w => by kernel_rfl) (by kernel_rfl) ?_
  refine s_val (some 80) (.int .i64 4) (fun w => by kernel_rfl) (by kernel_rfl) ?_
  refine s_val (some 13) (.int .i64 4) (fun w => by kernel_rfl) (by kernel_rfl) ?_
  refine s_nil ?_
  show WPL _ _ _ _ _ _
  refine g_next ?_
  refine g_seq (by kernel_rfl) ?_
  refine g_sreg [0, 1] (by kernel_rfl) (by kernel_rfl) ?_
  refine s_val (some 77) (.int .i64 4) (fun w => by kernel_rfl) (by kernel_rfl) ?_
  refine s_val (some 78) (.bool true) (fun w => by kernel_rfl) (by kernel_rfl) ?_
  refine s_nil ?_
  refine g_cond_t (by kernel_rfl) (by kernel_rfl) ?_
  refine g_skip (by kernel_rfl) ?_
  show WP _ _ _ _ _ _
  refine g_seq (by kernel_rfl) ?_
  refine g_block 9 (by kernel_rfl) ?_
  refine g_sreg [0] (by kernel_rfl) (by kernel_rfl) ?_
  refine s_val (some 14) (.int .i64 0) (fun w => by kernel_rfl) (by kernel_rfl) ?_
  refine s_nil ?_
  refine g_block 10 (by kernel_rfl) ?_
  refine g_first (by kernel_rfl) ?_
  refine g_seq (by kernel_rfl) ?_
  refine g_sreg [0, 1] (by kernel_rfl) (by kernel_rfl) ?_
  refine s_val (some 81) (.int .i64 0) (fun w => by kernel_rfl) (by kernel_rfl) ?_
  refine s_val (some 82) (.bool true) (fun w => by kernel_rfl) (by kernel_rfl) ?_
  refine s_nil ?_
  refine g_cond_t (by kernel_rfl) (by kernel_rfl) ?_
  refine g_skip (by kernel_rfl) ?_
  show WP _ _ _ _ _ _
  refine g_seq (by kernel_rfl) ?_
  refine g_block 11 (by kernel_rfl) ?_
  refine g_sreg [0, 1, 2, 3, 4, 5, 6, 7] (by kernel_rfl) (by kernel_rfl) ?_
  refine s_val (some 85) (.int .i64 4) (fun w => by kernel_rfl) (by kernel_rfl) ?_
  refine s_val (some 86) (.int .i64 5) (fun w => by kernel_rfl) (by kernel_rfl) ?_
  refine s_val (some 87) (.int .i64 0) (fun w => by kernel_rfl) (by kernel_rfl) ?_
  refine s_call H103 (some 88) 21 #[.int .i64 5, .int .i64 0] (.int .i64 0) (at_fn 5 0 (by omega) (by omega)) (fun w => by kernel_rfl) (by kernel_rfl) ?_
  intro w104 H104; clear H103
  refine s_val (some 89) (.pointer (some ⟨b4, 0, none⟩)) (fun w => by kernel_rfl) (by kernel_rfl) ?_
  refine s_load1 H104 (some 90) 25 (.tmp 89) 1 b4 0 (Value.cells (bS24 s)) 26 (0, 0) (wv (pI s 0)) (by kernel_rfl) (by kernel_rfl) (by kernel_rfl) (by kernel_rfl) (by kernel_rfl) (by kernel_rfl) ?_
  refine s_valE (some 91) (.int .u64 (IntKind.u64.wrap ((18446744073709551615) - (((BitVec.toNat (pI s 0) : Nat) : Int))))) (wv (~~~(pI s 0))) (fun w => by kernel_rfl) ((bv_sub_u64 (18446744073709551615 : BitVec 64) (pI s 0)).trans (bv_congr (sub_not (pI s 0)))) (by kernel_rfl) ?_
  refine s_val (some 15) (wv (~~~(pI s 0))) (fun w => by kernel_rfl) (by kernel_rfl) ?_
  refine s_nil ?_
  refine D2.g_draw0 [0, 1, 2, 3, 4, 5, 6, 7, 8, 9, 10, 11, 12, 13, 14, 15, 16, 17, 18] [((some 92), fun _ => .int .i64 4), ((some 93), fun _ => .int .i64 0), ((some 94), fun _ => .int .i64 4), ((some 95), fun _ => .int .i64 4), ((some 96), fun _ => .int .i64 0), ((some 97), fun _ => .int .i64 4), ((some 98), fun _ => .pointer (some ⟨b4, 4, none⟩)), ((some 99), fun _ => wv (pI s 4)), ((some 100), fun _ => wv (~~~(pI s 0))), ((some 101), fun _ => .int .i64 4), ((some 102), fun _ => .int .i64 6), ((some 103), fun _ => .int .i64 0), ((some 104), fun _ => .int .i64 1), ((some 105), fun _ => .pointer (some ⟨b4, 1, none⟩)), ((some 106), fun _ => wv (pI s 1)), ((some 107), fun _ => wv ((pI s 1) &&& ~~~(pI s 0))), ((some 108), fun _ => wv (xI (pI s) 4)), ((some 109), fun _ => .pointer (some ⟨b5, 4, none⟩)), (none, fun _ => undef)] (D2.Pre w.heap.size w (fun L g => [(true, (bif L 18 then (b5, Obj.cells (Value.cells (oS20 s)) 26 (0, 0)) else (b5, Obj.cells (Value.cells (oS19 s)) 26 (0, 0)))), (true, (b4, Obj.cells (Value.cells (bS24 s)) 26 (0, 0))), (true, (b3, Obj.cells (Value.cells (cS24 s)) 44 (0, 0))), (true, (b2, Obj.cells Z25 26 (0, 0))), (true, (b1, Obj.cells (Value.cells (svn s)) 26 (0, 0)))]) (fun L g => True)) (by kernel_rfl) (by kernel_rfl) (by kernel_rfl) ⟨D2.StE.of H104.drew _ (by kernel_rfl), trivial⟩ ⟨?_, ?_, ?_, ?_, ?_, ?_, ?_, ?_, ?_, ?_, ?_, ?_, ?_, ?_, ?_, ?_, ?_, ?_, ?_, trivial⟩ ?_
  · exact D2.gv_val (fun _ _ _ h => h) (fun g w => by kernel_rfl)
  · exact D2.gv_val (fun _ _ _ h => h) (fun g w => by kernel_rfl)
  · exact D2.gv_call 21 #[.int .i64 4, .int .i64 0] (fun _ _ _ h => h) (at_fn 4 0 (by omega) (by omega)) (fun g w => by kernel_rfl)
  · exact D2.gv_val (fun _ _ _ h => h) (fun g w => by kernel_rfl)
  · exact D2.gv_val (fun _ _ _ h => h) (fun g w => by kernel_rfl)
  · exact D2.gv_call 21 #[.int .i64 4, .int .i64 0] (fun _ _ _ h => h) (at_fn 4 0 (by omega) (by omega)) (fun g w => by kernel_rfl)
  · exact D2.gv_val (fun _ _ _ h => h) (fun g w => by kernel_rfl)
  · exact D2.gv_load1 25 (.tmp 98) 1 (fun g => b4) (fun g => 4) (fun g => (Value.cells (bS24 s))) 26 (0, 0) (fun _ _ _ h => h) (fun g => by kernel_rfl) (fun g => by kernel_rfl) (fun L g hN => (by kernel_rfl)) (by kernel_rfl) (fun L g hN hF => by kernel_rfl)
  · exact D2.gv_val (fun _ _ _ h => h) (fun g w => by kernel_rfl)
  · exact D2.gv_val (fun _ _ _ h => h) (fun g w => by kernel_rfl)
  · exact D2.gv_val (fun _ _ _ h => h) (fun g w => by kernel_rfl)
  · exact D2.gv_val (fun _ _ _ h => h) (fun g w => by kernel_rfl)
  · exact D2.gv_call 21 #[.int .i64 6, .int .i64 0] (fun _ _ _ h => h) (at_fn 6 0 (by omega) (by omega)) (fun g w => by kernel_rfl)
  · exact D2.gv_val (fun _ _ _ h => h) (fun g w => by kernel_rfl)
  · exact D2.gv_load1 25 (.tmp 105) 1 (fun g => b4) (fun g => 1) (fun g => (Value.cells (bS24 s))) 26 (0, 0) (fun _ _ _ h => h) (fun g => by kernel_rfl) (fun g => by kernel_rfl) (fun L g hN => (by kernel_rfl)) (by kernel_rfl) (fun L g hN hF => by kernel_rfl)
  · exact D2.gv_valE (fun _ _ _ h => h) (V' := .int .u64 (Go.bits .and .u64 (((BitVec.toNat (~~~(pI s 0)) : Nat) : Int)) (((BitVec.toNat (pI s 1) : Nat) : Int)))) (fun g w => by kernel_rfl) ((bv_and_u64 (~~~(pI s 0)) (pI s 1)).trans (bv_congr (BitVec.and_comm _ _)))
  · exact D2.gv_valE (fun _ _ _ h => h) (V' := .int .u64 (Go.bits .xor .u64 (((BitVec.toNat (pI s 4) : Nat) : Int)) (((BitVec.toNat ((pI s 1) &&& ~~~(pI s 0)) : Nat) : Int)))) (fun g w => by kernel_rfl) (bv_xor_u64 (pI s 4) ((pI s 1) &&& ~~~(pI s 0)))
  · exact D2.gv_val (fun _ _ _ h => h) (fun g w => by kernel_rfl)
  · exact D2.gv_store 0 25 (.tmp 109) (.tmp 108) (fun g => b5) (fun g => 4) (Value.cells (oS19 s)) (Value.cells (oS20 s)) 26 (wv (xI (pI s) 4)) (fun g => by kernel_rfl) (fun g => by kernel_rfl) (fun g => by kernel_rfl) (by kernel_rfl) (by kernel_rfl) (fun g => (of_decide_eq_true (by kernel_rfl))) (fun g => (by kernel_rfl)) (fun L g hN => ⟨(by have hL18 : L 18 = false := hN.1; exact D2.ent_get' (p := true) (e := (bif L 18 then (b5, Obj.cells (Value.cells (oS20 s)) 26 (0, 0)) else (b5, Obj.cells (Value.cells (oS19 s)) 26 (0, 0)))) (by kernel_rfl) (by rfl) (by simp only [hL18, cond_true, cond_false] <;> rfl)), (by kernel_rfl)⟩) (fun L g hN hF => hF)
  intro L0 G105 w105 hall HL; clear H104
  have H105 : St w.heap.size w w105 [(b5, Obj.cells (Value.cells (oS20 s)) 26 (0, 0)), (b4, Obj.cells (Value.cells (bS24 s)) 26 (0, 0)), (b3, Obj.cells (Value.cells (cS24 s)) 44 (0, 0)), (b2, Obj.cells Z25 26 (0, 0)), (b1, Obj.cells (Value.cells (svn s)) 26 (0, 0))] := by have e18 := hall 18 (Nat.le_of_ble_eq_true (by kernel_rfl)); have hS := D2.StE.st HL.1; simp only [e18, cond_true, D2.pres] at hS; exact hS
  clear HL hall
  show WP _ _ _ _ _ _
  refine g_reg0 [0, 1, 2] (by kernel_rfl) ?_
  refine s_val (some 83) (.int .i64 0) (fun w => by kernel_rfl) (by kernel_rfl) ?_
  refine s_val (some 84) (.int .i64 1) (fun w => by kernel_rfl) (by kernel_rfl) ?_
  refine s_val (some 14) (.int .i64 1) (fun w => by kernel_rfl) (by kernel_rfl) ?_
  refine s_nil ?_
  show WPL _ _ _ _ _ _
  refine g_next ?_
  refine g_seq (by kernel_rfl) ?_
  refine g_sreg [0, 1] (by kernel_rfl) (by kernel_rfl) ?_
  refine s_val (some 81) (.int .i64 1) (fun w => by kernel_rfl) (by kernel_rfl) ?_
  refine s_val (some 82) (.bool true) (fun w => by kernel_rfl) (by kernel_rfl) ?_
  refine s_nil ?_
  refine g_cond_t (by kernel_rfl) (by kernel_rfl) ?_
  refine g_skip (by kernel_rfl) ?_
  show WP _ _ _ _ _ _
  refine g_seq (by kernel_rfl) ?_
  refine g_block 11 (by kernel_rfl) ?_
  refine g_sreg [0, 1, 2, 3, 4, 5, 6, 7] (by kernel_rfl) (by kernel_rfl) ?_
  refine s_val (some 85) (.int .i64 4) (fun w => by kernel_rfl) (by kernel_rfl) ?_
  refine s_val (some 86) (.int .i64 5) (fun w => by kernel_rfl) (by kernel_rfl) ?_
  refine s_val (some 87) (.int .i64 1) (fun w => by kernel_rfl) (by kernel_rfl) ?_
  refine s_call H105 (some 88) 21 #[.int .i64 5, .int .i64 1] (.int .i64 5) (at_fn 5 1 (by omega) (by omega)) (fun w => by kernel_rfl) (by kernel_rfl) ?_
  intro w106 H106; clear H105
  refine s_val (some 89) (.pointer (some ⟨b4, 5, none⟩)) (fun w => by kernel_rfl) (by kernel_rfl) ?_
  refine s_load1 H106 (some 90) 25 (.tmp 89) 1 b4 5 (Value.cells (bS24 s)) 26 (0, 0) (wv (pI s 5)) (by kernel_rfl) (by kernel_rfl) (by kernel_rfl) (by kernel_rfl) (by kernel_rfl) (by kernel_rfl) ?_
  refine s_valE (some 91) (.int .u64 (IntKind.u64.wrap ((18446744073709551615) - (((BitVec.toNat (pI s 5) : Nat) : Int))))) (wv (~~~(pI s 5))) (fun w => by kernel_rfl) ((bv_sub_u64 (18446744073709551615 : BitVec 64) (pI s 5)).trans (bv_congr (sub_not (pI s 5)))) (by kernel_rfl) ?_
  refine s_val (some 15) (wv (~~~(pI s 5))) (fun w => by kernel_rfl) (by kernel_rfl) ?_
  refine s_nil ?_
  refine D2.g_draw0 [0, 1, 2, 3, 4, 5, 6, 7, 8, 9, 10, 11, 12, 13, 14, 15, 16, 17, 18] [((some 92), fun _ => .int .i64 4), ((some 93), fun _ => .int .i64 1), ((some 94), fun _ => .int .i64 9), ((some 95), fun _ => .int .i64 4), ((some 96), fun _ => .int .i64 1), ((some 97), fun _ => .int .i64 9), ((some 98), fun _ => .pointer (some ⟨b4, 9, none⟩)), ((some 99), fun _ => wv (pI s 9)), ((some 100), fun _ => wv (~~~(pI s 5))), ((some 101), fun _ => .int .i64 4), ((some 102), fun _ => .int .i64 6), ((some 103), fun _ => .int .i64 1), ((some 104), fun _ => .int .i64 6), ((some 105), fun _ => .pointer (some ⟨b4, 6, none⟩)), ((some 106), fun _ => wv (pI s 6)), ((some 107), fun _ => wv ((pI s 6) &&& ~~~(pI s 5))), ((some 108), fun _ => wv (xI (pI s) 9)), ((some 109), fun _ => .pointer (some ⟨b5, 9, none⟩)), (none, fun _ => undef)] (D2.Pre w.heap.size w (fun L g => [(true, (bif L 18 then (b5, Obj.cells (Value.cells (oS21 s)) 26 (0, 0)) else (b5, Obj.cells (Value.cells (oS20 s)) 26 (0, 0)))), (true, (b4, Obj.cells (Value.cells (bS24 s)) 26 (0, 0))), (true, (b3, Obj.cells (Value.cells (cS24 s)) 44 (0, 0))), (true, (b2, Obj.cells Z25 26 (0, 0))), (true, (b1, Obj.cells (Value.cells (svn s)) 26 (0, 0)))]) (fun L g => True)) (by kernel_rfl) (by kernel_rfl) (by kernel_rfl) ⟨D2.StE.of H106.drew _ (by kernel_rfl), trivial⟩ ⟨?_, ?_, ?_, ?_, ?_, ?_, ?_, ?_, ?_, ?_, ?_, ?_, ?_, ?_, ?_, ?_, ?_, ?_, ?_, trivial⟩ ?_
  · exact D2.gv_val (fun _ _ _ h => h) (fun g w => by kernel_rfl)
  · exact D2.gv_val (fun _ _ _ h => h) (fun g w => by kernel_rfl)
  · exact D2.gv_call 21 #[.int .i64 4, .int .i64 1] (fun _ _ _ h => h) (at_fn 4 1 (by omega) (by omega)) (fun g w => by kernel_rfl)
  · exact D2.gv_val (fun _ _ _ h => h) (fun g w => by kernel_rfl)
  · exact D2.gv_val (fun _ _ _ h => h) (fun g w => by kernel_rfl)
  · exact D2.gv_call 21 #[.int .i64 4, .int .i64 1] (fun _ _ _ h => h) (at_fn 4 1 (by omega) (by omega)) (fun g w => by kernel_rfl)
  · exact D2.gv_val (fun _ _ _ h => h) (fun g w => by kernel_rfl)
  · exact D2.gv_load1 25 (.tmp 98) 1 (fun g => b4) (fun g => 9) (fun g => (Value.cells (bS24 s))) 26 (0, 0) (fun _ _ _ h => h) (fun g => by kernel_rfl) (fun g => by kernel_rfl) (fun L g hN => (by kernel_rfl)) (by kernel_rfl) (fun L g hN hF => by kernel_rfl)
  · exact D2.gv_val (fun _ _ _ h => h) (fun g w => by kernel_rfl)
  · exact D2.gv_val (fun _ _ _ h => h) (fun g w => by kernel_rfl)
  · exact D2.gv_val (fun _ _ _ h => h) (fun g w => by kernel_rfl)
  · exact D2.gv_val (fun _ _ _ h => h) (fun g w => by kernel_rfl)
  · exact D2.gv_call 21 #[.int .i64 6, .int .i64 1] (fun _ _ _ h => h) (at_fn 6 1 (by omega) (by omega)) (fun g w => by kernel_rfl)
  · exact D2.gv_val (fun _ _ _ h => h) (fun g w => by kernel_rfl)
  · exact D2.gv_load1 25 (.tmp 105) 1 (fun g => b4) (fun g => 6) (fun g => (Value.cells (bS24 s))) 26 (0, 0) (fun _ _ _ h => h) (fun g => by kernel_rfl) (fun g => by kernel_rfl) (fun L g hN => (by kernel_rfl)) (by kernel_rfl) (fun L g hN hF => by kernel_rfl)
  · exact D2.gv_valE (fun _ _ _ h => h) (V' := .int .u64 (Go.bits .and .u64 (((BitVec.toNat (~~~(pI s 5)) : Nat) : Int)) (((BitVec.toNat (pI s 6) : Nat) : Int)))) (fun g w => by kernel_rfl) ((bv_and_u64 (~~~(pI s 5)) (pI s 6)).trans (bv_congr (BitVec.and_comm _ _)))
  · exact D2.gv_valE (fun _ _ _ h => h) (V' := .int .u64 (Go.bits .xor .u64 (((BitVec.toNat (pI s 9) : Nat) : Int)) (((BitVec.toNat ((pI s 6) &&& ~~~(pI s 5)) : Nat) : Int)))) (fun g w => by kernel_rfl) (bv_xor_u64 (pI s 9) ((pI s 6) &&& ~~~(pI s 5)))
  · exact D2.gv_val (fun _ _ _ h => h) (fun g w => by kernel_rfl)
  · exact D2.gv_store 0 25 (.tmp 109) (.tmp 108) (fun g => b5) (fun g => 9) (Value.cells (oS20 s)) (Value.cells (oS21 s)) 26 (wv (xI (pI s) 9)) (fun g => by kernel_rfl) (fun g => by kernel_rfl) (fun g => by kernel_rfl) (by kernel_rfl) (by kernel_rfl) (fun g => (of_decide_eq_true (by kernel_rfl))) (fun g => (by kernel_rfl)) (fun L g hN => ⟨(by have hL18 : L 18 = false := hN.1; exact D2.ent_get' (p := true) (e := (bif L 18 then (b5, Obj.cells (Value.cells (oS21 s)) 26 (0, 0)) else (b5, Obj.cells (Value.cells (oS20 s)) 26 (0, 0)))) (by kernel_rfl) (by rfl) (by simp only [hL18, cond_true, cond_false] <;> rfl)), (by kernel_rfl)⟩) (fun L g hN hF => hF)
  intro L0 G107 w107 hall HL; clear H106
  have H107 : St w.heap.size w w107 [(b5, Obj.cells (Value.cells (oS21 s)) 26 (0, 0)), (b4, Obj.cells (Value.cells (bS24 s)) 26 (0, 0)), (b3, Obj.cells (Value.cells (cS24 s)) 44 (0, 0)), (b2, Obj.cells Z25 26 (0, 0)), (b1, Obj.cells (Value.cells (svn s)) 26 (0, 0))] := by have e18 := hall 18 (Nat.le_of_ble_eq_true (by kernel_rfl)); have hS := D2.StE.st HL.1; simp only [e18, cond_true, D2.pres] at hS; exact hS
  clear HL hall
  show WP _ _ _ _ _ _
  refine g_reg0 [0, 1, 2] (by kernel_rfl) ?_
  refine s_val (some 83) (.int .i64 1) (fun w => by kernel_rfl) (by kernel_rfl) ?_
  refine s_val (some 84) (.int .i64 2) (fun w => by kernel_rfl) (by kernel_rfl) ?_
  refine s_val (some 14) (.int .i64 2) (fun w => by kernel_rfl) (by kernel_rfl) ?_
  refine s_nil ?_
  show WPL _ _ _ _ _ _
  refine g_next ?_
  refine g_seq (by kernel_rfl) ?_
  refine g_sreg [0, 1] (by kernel_rfl) (by kernel_rfl) ?_
  refine s_val (some 81) (.int .i64 2) (fun w => by kernel_rfl) (by kernel_rfl) ?_
  refine s_val (some 82) (.bool true) (fun w => by kernel_rfl) (by kernel_rfl) ?_
  refine s_nil ?_
  refine g_cond_t (by kernel_rfl) (by kernel_rfl) ?_
  refine g_skip (by kernel_rfl) ?_
  show WP _ _ _ _ _ _
  refine g_seq (by kernel_rfl) ?_
  refine g_block 11 (by kernel_rfl) ?_
  refine g_sreg [0, 1, 2, 3, 4, 5, 6, 7] (by kernel_rfl) (by kernel_rfl) ?_
  refine s_val (some 85) (.int .i64 4) (fun w => by kernel_rfl) (by kernel_rfl) ?_
  refine s_val (some 86) (.int .i64 5) (fun w => by kernel_rfl) (by kernel_rfl) ?_
  refine s_val (some 87) (.int .i64 2) (fun w => by kernel_rfl) (by kernel_rfl) ?_
  refine s_call H107 (some 88) 21 #[.int .i64 5, .int .i64 2] (.int .i64 10) (at_fn 5 2 (by omega) (by omega)) (fun w => by kernel_rfl) (by kernel_rfl) ?_
  intro w108 H108; clear H107
  refine s_val (some 89) (.pointer (some ⟨b4, 10, none⟩)) (fun w => by kernel_rfl) (by kernel_rfl) ?_
  refine s_load1 H108 (some 90) 25 (.tmp 89) 1 b4 10 (Value.cells (bS24 s)) 26 (0, 0) (wv (pI s 10)) (by kernel_rfl) (by kernel_rfl) (by kernel_rfl) (by kernel_rfl) (by kernel_rfl) (by kernel_rfl) ?_
  refine s_valE (some 91) (.int .u64 (IntKind.u64.wrap ((18446744073709551615) - (((BitVec.toNat (pI s 10) : Nat) : Int))))) (wv (~~~(pI s 10))) (fun w => by kernel_rfl) ((bv_sub_u64 (18446744073709551615 : BitVec 64) (pI s 10)).trans (bv_congr (sub_not (pI s 10)))) (by kernel_rfl) ?_
  refine s_val (some 15) (wv (~~~(pI s 10))) (fun w => by kernel_rfl) (by kernel_rfl) ?_
  refine s_nil ?_
  refine D2.g_draw0 [0, 1, 2, 3, 4, 5, 6, 7, 8, 9, 10, 11, 12, 13, 14, 15, 16, 17, 18] [((some 92), fun _ => .int .i64 4), ((some 93), fun _ => .int .i64 2), ((some 94), fun _ => .int .i64 14), ((some 95), fun _ => .int .i64 4), ((some 96), fun _ => .int .i64 2), ((some 97), fun _ => .int .i64 14), ((some 98), fun _ => .pointer (some ⟨b4, 14, none⟩)), ((some 99), fun _ => wv (pI s 14)), ((some 100), fun _ => wv (~~~(pI s 10))), ((some 101), fun _ => .int .i64 4), ((some 102), fun _ => .int .i64 6), ((some 103), fun _ => .int .i64 2), ((some 104), fun _ => .int .i64 11), ((some 105), fun _ => .pointer (some ⟨b4, 11, none⟩)), ((some 106), fun _ => wv (pI s 11)), ((some 107), fun _ => wv ((pI s 11) &&& ~~~(pI s 10))), ((some 108), fun _ => wv (xI (pI s) 14)), ((some 109), fun _ => .pointer (some ⟨b5, 14, none⟩)), (none, fun _ => undef)] (D2.Pre w.heap.size w (fun L g => [(true, (bif L 18 then (b5, Obj.cells (Value.cells (oS22 s)) 26 (0, 0)) else (b5, Obj.cells (Value.cells (oS21 s)) 26 (0, 0)))), (true, (b4, Obj.cells (Value.cells (bS24 s)) 26 (0, 0))), (true, (b3, Obj.cells (Value.cells (cS24 s)) 44 (0, 0))), (true, (b2, Obj.cells Z25 26 (0, 0))), (true, (b1, Obj.cells (Value.cells (svn s)) 26 (0, 0)))]) (fun L g => True)) (by kernel_rfl) (by kernel_rfl) (by kernel_rfl) ⟨D2.StE.of H108.drew _ (by kernel_rfl), trivial⟩ ⟨?_, ?_, ?_, ?_, ?_, ?_, ?_, ?_, ?_, ?_, ?_, ?_, ?_, ?_, ?_, ?_, ?_, ?_, ?_, trivial⟩ ?_
  · exact D2.gv_val (fun _ _ _ h => h) (fun g w => by kernel_rfl)
  · exact D2.gv_val (fun _ _ _ h => h) (fun g w => by kernel_rfl)
  · exact D2.gv_call 21 #[.int .i64 4, .int .i64 2] (fun _ _ _ h => h) (at_fn 4 2 (by omega) (by omega)) (fun g w => by kernel_rfl)
  · exact D2.gv_val (fun _ _ _ h => h) (fun g w => by kernel_rfl)
  · exact D2.gv_val (fun _ _ _ h => h) (fun g w => by kernel_rfl)
  · exact D2.gv_call 21 #[.int .i64 4, .int .i64 2] (fun _ _ _ h => h) (at_fn 4 2 (by omega) (by omega)) (fun g w => by kernel_rfl)
  · exact D2.gv_val (fun _ _ _ h => h) (fun g w => by kernel_rfl)
  · exact D2.gv_load1 25 (.tmp 98) 1 (fun g => b4) (fun g => 14) (fun g => (Value.cells (bS24 s))) 26 (0, 0) (fun _ _ _ h => h) (fun g => by kernel_rfl) (fun g => by kernel_rfl) (fun L g hN => (by kernel_rfl)) (by kernel_rfl) (fun L g hN hF => by kernel_rfl)
  · exact D2.gv_val (fun _ _ _ h => h) (fun g w => by kernel_rfl)
  · exact D2.gv_val (fun _ _ _ h => h) (fun g w => by kernel_rfl)
  · exact D2.gv_val (fun _ _ _ h => h) (fun g w => by kernel_rfl)
  · exact D2.gv_val (fun _ _ _ h => h) (fun g w => by kernel_rfl)
  · exact D2.gv_call 21 #[.int .i64 6, .int .i64 2] (fun _ _ _ h => h) (at_fn 6 2 (by omega) (by omega)) (fun g w => by kernel_rfl)
  · exact D2.gv_val (fun _ _ _ h => h) (fun g w => by kernel_rfl)
  · exact D2.gv_load1 25 (.tmp 105) 1 (fun g => b4) (fun g => 11) (fun g => (Value.cells (bS24 s))) 26 (0, 0) (fun _ _ _ h => h) (fun g => by kernel_rfl) (fun g => by kernel_rfl) (fun L g hN => (by kernel_rfl)) (by kernel_rfl) (fun L g hN hF => by kernel_rfl)
  · exact D2.gv_valE (fun _ _ _ h => h) (V' := .int .u64 (Go.bits .and .u64 (((BitVec.toNat (~~~(pI s 10)) : Nat) : Int)) (((BitVec.toNat (pI s 11) : Nat) : Int)))) (fun g w => by kernel_rfl) ((bv_and_u64 (~~~(pI s 10)) (pI s 11)).trans (bv_congr (BitVec.and_comm _ _)))
  · exact D2.gv_valE (fun _ _ _ h => h) (V' := .int .u64 (Go.bits .xor .u64 (((BitVec.toNat (pI s 14) : Nat) : Int)) (((BitVec.toNat ((pI s 11) &&& ~~~(pI s 10)) : Nat) : Int)))) (fun g w => by kernel_rfl) (bv_xor_u64 (pI s 14) ((pI s 11) &&& ~~~(pI s 10)))
  · exact D2.gv_val (fun _ _ _ h => h) (fun g w => by kernel_rfl)
  · exact D2.gv_store 0 25 (.tmp 109) (.tmp 108) (fun g => b5) (fun g => 14) (Value.cells (oS21 s)) (Value.cells (oS22 s)) 26 (wv (xI (pI s) 14)) (fun g => by kernel_rfl) (fun g => by kernel_rfl) (fun g => by kernel_rfl) (by kernel_rfl) (by kernel_rfl) (fun g => (of_decide_eq_true (by kernel_rfl))) (fun g => (by kernel_rfl)) (fun L g hN => ⟨(by have hL18 : L 18 = false := hN.1; exact D2.ent_get' (p := true) (e := (bif L 18 then (b5, Obj.cells (Value.cells (oS22 s)) 26 (0, 0)) else (b5, Obj.cells (Value.cells (oS21 s)) 26 (0, 0)))) (by kernel_rfl) (by rfl) (by simp only [hL18, cond_true, cond_false] <;> rfl)), (by kernel_rfl)⟩) (fun L g hN hF => hF)
  intro L0 G109 w109 hall HL; clear H108
  have H109 : St w.heap.size w w109 [(b5, Obj.cells (Value.cells (oS22 s)) 26 (0, 0)), (b4, Obj.cells (Value.cells (bS24 s)) 26 (0, 0)), (b3, Obj.cells (Value.cells (cS24 s)) 44 (0, 0)), (b2, Obj.cells Z25 26 (0, 0)), (b1, Obj.cells (Value.cells (svn s)) 26 (0, 0))] := by have e18 := hall 18 (Nat.le_of_ble_eq_true (by kernel_rfl)); have hS := D2.StE.st HL.1; simp only [e18, cond_true, D2.pres] at hS; exact hS
  clear HL hall
  show WP _ _ _ _ _ _
  refine g_reg0 [0, 1, 2] (by kernel_rfl) ?_
  refine s_val (some 83) (.int .i64 2) (fun w => by kernel_rfl) (by kernel_rfl) ?_
  refine s_val (some 84) (.int .i64 3) (fun w => by kernel_rfl) (by kernel_rfl) ?_
  refine s_val (some 14) (.int .i64 3) (fun w => by kernel_rfl) (by kernel_rfl) ?_
  refine s_nil ?_
  show WPL _ _ _ _ _ _
  refine g_next ?_
  refine g_seq (by kernel_rfl) ?_
  refine g_sreg [0, 1] (by kernel_rfl) (by kernel_rfl) ?_
  refine s_val (some 81) (.int .i64 3) (fun w => by kernel_rfl) (by kernel_rfl) ?_
  refine s_val (some 82) (.bool true) (fun w => by kernel_rfl) (by kernel_rfl) ?_
  refine s_nil ?_
  refine g_cond_t (by kernel_rfl) (by kernel_rfl) ?_
  refine g_skip (by kernel_rfl) ?_
  show WP _ _ _ _ _ _
  refine g_seq (by kernel_rfl) ?_
  refine g_block 11 (by kernel_rfl) ?_
  refine g_sreg [0, 1, 2, 3, 4, 5, 6, 7] (by kernel_rfl) (by kernel_rfl) ?_
  refine s_val (some 85) (.int .i64 4) (fun w => by kernel_rfl) (by kernel_rfl) ?_
  refine s_val (some 86) (.int .i64 5) (fun w => by kernel_rfl) (by kernel_rfl) ?_
  refine s_val (some 87) (.int .i64 3) (fun w => by kernel_rfl) (by kernel_rfl) ?_
  refine s_call H109 (some 88) 21 #[.int .i64 5, .int .i64 3] (.int .i64 15) (at_fn 5 3 (by omega) (by omega)) (fun w => by kernel_rfl) (by kernel_rfl) ?_
  intro w110 H110; clear H109
  refine s_val (some 89) (.pointer (some ⟨b4, 15, none⟩)) (fun w => by kernel_rfl) (by kernel_rfl) ?_
  refine s_load1 H110 (some 90) 25 (.tmp 89) 1 b4 15 (Value.cells (bS24 s)) 26 (0, 0) (wv (pI s 15)) (by kernel_rfl) (by kernel_rfl) (by kernel_rfl) (by kernel_rfl) (by kernel_rfl) (by kernel_rfl) ?_
  refine s_valE (some 91) (.int .u64 (IntKind.u64.wrap ((18446744073709551615) - (((BitVec.toNat (pI s 15) : Nat) : Int))))) (wv (~~~(pI s 15))) (fun w => by kernel_rfl) ((bv_sub_u64 (18446744073709551615 : BitVec 64) (pI s 15)).trans (bv_congr (sub_not (pI s 15)))) (by kernel_rfl) ?_
  refine s_val (some 15) (wv (~~~(pI s 15))) (fun w => by kernel_rfl) (by kernel_rfl) ?_
  refine s_nil ?_
  refine D2.g_draw0 [0, 1, 2, 3, 4, 5, 6, 7, 8, 9, 10, 11, 12, 13, 14, 15, 16, 17, 18] [((some 92), fun _ => .int .i64 4), ((some 93), fun _ => .int .i64 3), ((some 94), fun _ => .int .i64 19), ((some 95), fun _ => .int .i64 4), ((some 96), fun _ => .int .i64 3), ((some 97), fun _ => .int .i64 19), ((some 98), fun _ => .pointer (some ⟨b4, 19, none⟩)), ((some 99), fun _ => wv (pI s 19)), ((some 100), fun _ => wv (~~~(pI s 15))), ((some 101), fun _ => .int .i64 4), ((some 102), fun _ => .int .i64 6), ((some 103), fun _ => .int .i64 3), ((some 104), fun _ => .int .i64 16), ((some 105), fun _ => .pointer (some ⟨b4, 16, none⟩)), ((some 106), fun _ => wv (pI s 16)), ((some 107), fun _ => wv ((pI s 16) &&& ~~~(pI s 15))), ((some 108), fun _ => wv (xI (pI s) 19)), ((some 109), fun _ => .pointer (some ⟨b5, 19, none⟩)), (none, fun _ => undef)] (D2.Pre w.heap.size w (fun L g => [(true, (bif L 18 then (b5, Obj.cells (Value.cells (oS23 s)) 26 (0, 0)) else (b5, Obj.cells (Value.cells (oS22 s)) 26 (0, 0)))), (true, (b4, Obj.cells (Value.cells (bS24 s)) 26 (0, 0))), (true, (b3, Obj.cells (Value.cells (cS24 s)) 44 (0, 0))), (true, (b2, Obj.cells Z25 26 (0, 0))), (true, (b1, Obj.cells (Value.cells (svn s)) 26 (0, 0)))]) (fun L g => True)) (by kernel_rfl) (by kernel_rfl) (by kernel_rfl) ⟨D2.StE.of H110.drew _ (by kernel_rfl), trivial⟩ ⟨?_, ?_, ?_, ?_, ?_, ?_, ?_, ?_, ?_, ?_, ?_, ?_, ?_, ?_, ?_, ?_, ?_, ?_, ?_, trivial⟩ ?_
  · exact D2.gv_val (fun _ _ _ h => h) (fun g w => by kernel_rfl)
  · exact D2.gv_val (fun _ _ _ h => h) (fun g w => by kernel_rfl)
  · exact D2.gv_call 21 #[.int .i64 4, .int .i64 3] (fun _ _ _ h => h) (at_fn 4 3 (by omega) (by omega)) (fun g w => by kernel_rfl)
  · exact D2.gv_val (fun _ _ _ h => h) (fun g w => by kernel_rfl)
  · exact D2.gv_val (fun _ _ _ h => h) (fun g w => by kernel_rfl)
  · exact D2.gv_call 21 #[.int .i64 4, .int .i64 3] (fun _ _ _ h => h) (at_fn 4 3 (by omega) (by omega)) (fun g w => by kernel_rfl)
  · exact D2.gv_val (fun _ _ _ h => h) (fun g w => by kernel_rfl)
  · exact D2.gv_load1 25 (.tmp 98) 1 (fun g => b4) (fun g => 19) (fun g => (Value.cells (bS24 s))) 26 (0, 0) (fun _ _ _ h => h) (fun g => by kernel_rfl) (fun g => by kernel_rfl) (fun L g hN => (by kernel_rfl)) (by kernel_rfl) (fun L g hN hF => by kernel_rfl)
  · exact D2.gv_val (fun _ _ _ h => h) (fun g w => by kernel_rfl)
  · exact D2.gv_val (fun _ _ _ h => h) (fun g w => by kernel_rfl)
  · exact D2.gv_val (fun _ _ _ h => h) (fun g w => by kernel_rfl)
  · exact D2.gv_val (fun _ _ _ h => h) (fun g w => by kernel_rfl)
  · exact D2.gv_call 21 #[.int .i64 6, .int .i64 3] (fun _ _ _ h => h) (at_fn 6 3 (by omega) (by omega)) (fun g w => by kernel_rfl)
  · exact D2.gv_val (fun _ _ _ h => h) (fun g w => by kernel_rfl)
  · exact D2.gv_load1 25 (.tmp 105) 1 (fun g => b4) (fun g => 16) (fun g => (Value.cells (bS24 s))) 26 (0, 0) (fun _ _ _ h => h) (fun g => by kernel_rfl) (fun g => by kernel_rfl) (fun L g hN => (by kernel_rfl)) (by kernel_rfl) (fun L g hN hF => by kernel_rfl)
  · exact D2.gv_valE (fun _ _ _ h => h) (V' := .int .u64 (Go.bits .and .u64 (((BitVec.toNat (~~~(pI s 15)) : Nat) : Int)) (((BitVec.toNat (pI s 16) : Nat) : Int)))) (fun g w => by kernel_rfl) ((bv_and_u64 (~~~(pI s 15)) (pI s 16)).trans (bv_congr (BitVec.and_comm _ _)))
  · exact D2.gv_valE (fun _ _ _ h => h) (V' := .int .u64 (Go.bits .xor .u64 (((BitVec.toNat (pI s 19) : Nat) : Int)) (((BitVec.toNat ((pI s 16) &&& ~~~(pI s 15)) : Nat) : Int)))) (fun g w => by kernel_rfl) (bv_xor_u64 (pI s 19) ((pI s 16) &&& ~~~(pI s 15)))
  · exact D2.gv_val (fun _ _ _ h => h) (fun g w => by kernel_rfl)
  · exact D2.gv_store 0 25 (.tmp 109) (.tmp 108) (fun g => b5) (fun g => 19) (Value.cells (oS22 s)) (Value.cells (oS23 s)) 26 (wv (xI (pI s) 19)) (fun g => by kernel_rfl) (fun g => by kernel_rfl) (fun g => by kernel_rfl) (by kernel_rfl) (by kernel_rfl) (fun g => (of_decide_eq_true (by kernel_rfl))) (fun g => (by kernel_rfl)) (fun L g hN => ⟨(by have hL18 : L 18 = false := hN.1; exact D2.ent_get' (p := true) (e := (bif L 18 then (b5, Obj.cells (Value.cells (oS23 s)) 26 (0, 0)) else (b5, Obj.cells (Value.cells (oS22 s)) 26 (0, 0)))) (by kernel_rfl) (by rfl) (by simp only [hL18, cond_true, cond_false] <;> rfl)), (by kernel_rfl)⟩) (fun L g hN hF => hF)
  intro L0 G111 w111 hall HL; clear H110
  have H111 : St w.heap.size w w111 [(b5, Obj.cells (Value.cells (oS23 s)) 26 (0, 0)), (b4, Obj.cells (Value.cells (bS24 s)) 26 (0, 0)), (b3, Obj.cells (Value.cells (cS24 s)) 44 (0, 0)), (b2, Obj.cells Z25 26 (0, 0)), (b1, Obj.cells (Value.cells (svn s)) 26 (0, 0))] := by have e18 := hall 18 (Nat.le_of_ble_eq_true (by kernel_rfl)); have hS := D2.StE.st HL.1; simp only [e18, cond_true, D2.pres] at hS; exact hS
  clear HL hall
  show WP _ _ _ _ _ _
  refine g_reg0 [0, 1, 2] (by kernel_rfl) ?_
  refine s_val (some 83) (.int .i64 3) (fun w => by kernel_rfl) (by kernel_rfl) ?_
  refine s_val (some 84) (.int .i64 4) (fun w => by kernel_rfl) (by kernel_rfl) ?_
  refine s_val (some 14) (.int .i64 4) (fun w => by kernel_rfl) (by kernel_rfl) ?_
  refine s_nil ?_
  show WPL _ _ _ _ _ _
  refine g_next ?_
  refine g_seq (by kernel_rfl) ?_
  refine g_sreg [0, 1] (by kernel_rfl) (by kernel_rfl) ?_
  refine s_val (some 81) (.int .i64 4) (fun w => by kernel_rfl) (by kernel_rfl) ?_
  refine s_val (some 82) (.bool true) (fun w => by kernel_rfl) (by kernel_rfl) ?_
  refine s_nil ?_
  refine g_cond_t (by kernel_rfl) (by kernel_rfl) ?_
  refine g_skip (by kernel_rfl) ?_
  show WP _ _ _ _ _ _
  refine g_seq (by kernel_rfl) ?_
  refine g_block 11 (by kernel_rfl) ?_
  refine g_sreg [0, 1, 2, 3, 4, 5, 6, 7] (by kernel_rfl) (by kernel_rfl) ?_
  refine s_val (some 85) (.int .i64 4) (fun w => by kernel_rfl) (by kernel_rfl) ?_
  refine s_val (some 86) (.int .i64 5) (fun w => by kernel_rfl) (by kernel_rfl) ?_
  refine s_val (some 87) (.int .i64 4) (fun w => by kernel_rfl) (by kernel_rfl) ?_
  refine s_call H111 (some 88) 21 #[.int .i64 5, .int .i64 4] (.int .i64 20) (at_fn 5 4 (by omega) (by omega)) (fun w => by kernel_rfl) (by kernel_rfl) ?_
  intro w112 H112; clear H111
  refine s_val (some 89) (.pointer (some ⟨b4, 20, none⟩)) (fun w => by kernel_rfl) (by kernel_rfl) ?_
  refine s_load1 H112 (some 90) 25 (.tmp 89) 1 b4 20 (Value.cells (bS24 s)) 26 (0, 0) (wv (pI s 20)) (by kernel_rfl) (by kernel_rfl) (by kernel_rfl) (by kernel_rfl) (by kernel_rfl) (by kernel_rfl) ?_
  refine s_valE (some 91) (.int .u64 (IntKind.u64.wrap ((18446744073709551615) - (((BitVec.toNat (pI s 20) : Nat) : Int))))) (wv (~~~(pI s 20))) (fun w => by kernel_rfl) ((bv_sub_u64 (18446744073709551615 : BitVec 64) (pI s 20)).trans (bv_congr (sub_not (pI s 20)))) (by kernel_rfl) ?_
  refine s_val (some 15) (wv (~~~(pI s 20))) (fun w => by kernel_rfl) (by kernel_rfl) ?_
  refine s_nil ?_
  refine D2.g_draw0 [0, 1, 2, 3, 4, 5, 6, 7, 8, 9, 10, 11, 12, 13, 14, 15, 16, 17, 18] [((some 92), fun _ => .int .i64 4), ((some 93), fun _ => .int .i64 4), ((some 94), fun _ => .int .i64 24), ((some 95), fun _ => .int .i64 4), ((some 96), fun _ => .int .i64 4), ((some 97), fun _ => .int .i64 24), ((some 98), fun _ => .pointer (some ⟨b4, 24, none⟩)), ((some 99), fun _ => wv (pI s 24)), ((some 100), fun _ => wv (~~~(pI s 20))), ((some 101), fun _ => .int .i64 4), ((some 102), fun _ => .int .i64 6), ((some 103), fun _ => .int .i64 4), ((some 104), fun _ => .int .i64 21), ((some 105), fun _ => .pointer (some ⟨b4, 21, none⟩)), ((some 106), fun _ => wv (pI s 21)), ((some 107), fun _ => wv ((pI s 21) &&& ~~~(pI s 20))), ((some 108), fun _ => wv (xI (pI s) 24)), ((some 109), fun _ => .pointer (some ⟨b5, 24, none⟩)), (none, fun _ => undef)] (D2.Pre w.heap.size w (fun L g => [(true, (bif L 18 then (b5, Obj.cells (Value.cells (svn (rnd s))) 26 (0, 0)) else (b5, Obj.cells (Value.cells (oS23 s)) 26 (0, 0)))), (true, (b4, Obj.cells (Value.cells (bS24 s)) 26 (0, 0))), (true, (b3, Obj.cells (Value.cells (cS24 s)) 44 (0, 0))), (true, (b2, Obj.cells Z25 26 (0, 0))), (true, (b1, Obj.cells (Value.cells (svn s)) 26 (0, 0)))]) (fun L g => True)) (by kernel_rfl) (by kernel_rfl) (by kernel_rfl) ⟨D2.StE.of H112.drew _ (by kernel_rfl), trivial⟩ ⟨?_, ?_, ?_, ?_, ?_, ?_, ?_, ?_, ?_, ?_, ?_, ?_, ?_, ?_, ?_, ?_, ?_, ?_, ?_, trivial⟩ ?_
  · exact D2.gv_val (fun _ _ _ h => h) (fun g w => by kernel_rfl)
  · exact D2.gv_val (fun _ _ _ h => h) (fun g w => by kernel_rfl)
  · exact D2.gv_call 21 #[.int .i64 4, .int .i64 4] (fun _ _ _ h => h) (at_fn 4 4 (by omega) (by omega)) (fun g w => by kernel_rfl)
  · exact D2.gv_val (fun _ _ _ h => h) (fun g w => by kernel_rfl)
  · exact D2.gv_val (fun _ _ _ h => h) (fun g w => by kernel_rfl)
  · exact D2.gv_call 21 #[.int .i64 4, .int .i64 4] (fun _ _ _ h => h) (at_fn 4 4 (by omega) (by omega)) (fun g w => by kernel_rfl)
  · exact D2.gv_val (fun _ _ _ h => h) (fun g w => by kernel_rfl)
  · exact D2.gv_load1 25 (.tmp 98) 1 (fun g => b4) (fun g => 24) (fun g => (Value.cells (bS24 s))) 26 (0, 0) (fun _ _ _ h => h) (fun g => by kernel_rfl) (fun g => by kernel_rfl) (fun L g hN => (by kernel_rfl)) (by kernel_rfl) (fun L g hN hF => by kernel_rfl)
  · exact D2.gv_val (fun _ _ _ h => h) (fun g w => by kernel_rfl)
  · exact D2.gv_val (fun _ _ _ h => h) (fun g w => by kernel_rfl)
  · exact D2.gv_val (fun _ _ _ h => h) (fun g w => by kernel_rfl)
  · exact D2.gv_val (fun _ _ _ h => h) (fun g w => by kernel_rfl)
  · exact D2.gv_call 21 #[.int .i64 6, .int .i64 4] (fun _ _ _ h => h) (at_fn 6 4 (by omega) (by omega)) (fun g w => by kernel_rfl)
  · exact D2.gv_val (fun _ _ _ h => h) (fun g w => by kernel_rfl)
  · exact D2.gv_load1 25 (.tmp 105) 1 (fun g => b4) (fun g => 21) (fun g => (Value.cells (bS24 s))) 26 (0, 0) (fun _ _ _ h => h) (fun g => by kernel_rfl) (fun g => by kernel_rfl) (fun L g hN => (by kernel_rfl)) (by kernel_rfl) (fun L g hN hF => by kernel_rfl)
  · exact D2.gv_valE (fun _ _ _ h => h) (V' := .int .u64 (Go.bits .and .u64 (((BitVec.toNat (~~~(pI s 20)) : Nat) : Int)) (((BitVec.toNat (pI s 21) : Nat) : Int)))) (fun g w => by kernel_rfl) ((bv_and_u64 (~~~(pI s 20)) (pI s 21)).trans (bv_congr (BitVec.and_comm _ _)))
  · exact D2.gv_valE (fun _ _ _ h => h) (V' := .int .u64 (Go.bits .xor .u64 (((BitVec.toNat (pI s 24) : Nat) : Int)) (((BitVec.toNat ((pI s 21) &&& ~~~(pI s 20)) : Nat) : Int)))) (fun g w => by kernel_rfl) (bv_xor_u64 (pI s 24) ((pI s 21) &&& ~~~(pI s 20)))
  · exact D2.gv_val (fun _ _ _ h => h) (fun g w => by kernel_rfl)
  · exact D2.gv_store 0 25 (.tmp 109) (.tmp 108) (fun g => b5) (fun g => 24) (Value.cells (oS23 s)) (Value.cells (svn (rnd s))) 26 (wv (xI (pI s) 24)) (fun g => by kernel_rfl) (fun g => by kernel_rfl) (fun g => by kernel_rfl) (by kernel_rfl) (by kernel_rfl) (fun g => (of_decide_eq_true (by kernel_rfl))) (fun g => (by kernel_rfl)) (fun L g hN => ⟨(by have hL18 : L 18 = false := hN.1; exact D2.ent_get' (p := true) (e := (bif L 18 then (b5, Obj.cells (Value.cells (svn (rnd s))) 26 (0, 0)) else (b5, Obj.cells (Value.cells (oS23 s)) 26 (0, 0)))) (by kernel_rfl) (by rfl) (by simp only [hL18, cond_true, cond_false] <;> rfl)), (by kernel_rfl)⟩) (fun L g hN hF => hF)
  intro L0 G113 w113 hall HL; clear H112
  have H113 : St w.heap.size w w113 [(b5, Obj.cells (Value.cells (svn (rnd s))) 26 (0, 0)), (b4, Obj.cells (Value.cells (bS24 s)) 26 (0, 0)), (b3, Obj.cells (Value.cells (cS24 s)) 44 (0, 0)), (b2, Obj.cells Z25 26 (0, 0)), (b1, Obj.cells (Value.cells (svn s)) 26 (0, 0))] := by have e18 := hall 18 (Nat.le_of_ble_eq_true (by kernel_rfl)); have hS := D2.StE.st HL.1; simp only [e18, cond_true, D2.pres] at hS; exact hS
  clear HL hall
  show WP _ _ _ _ _ _
  refine g_reg0 [0, 1, 2] (by kernel_rfl) ?_
  refine s_val (some 83) (.int .i64 4) (fun w => by kernel_rfl) (by kernel_rfl) ?_
  refine s_val (some 84) (.int .i64 5) (fun w => by kernel_rfl) (by kernel_rfl) ?_
  refine s_val (some 14) (.int .i64 5) (fun w => by kernel_rfl) (by kernel_rfl) ?_
  refine s_nil ?_
  show WPL _ _ _ _ _ _
  refine g_next ?_
  refine g_seq (by kernel_rfl) ?_
  refine g_sreg [0, 1] (by kernel_rfl) (by kernel_rfl) ?_
  refine s_val (some 81) (.int .i64 5) (fun w => by kernel_rfl) (by kernel_rfl) ?_
  refine s_val (some 82) (.bool false) (fun w => by kernel_rfl) (by kernel_rfl) ?_
  refine s_nil ?_
  refine g_cond_f (by kernel_rfl) (by kernel_rfl) ?_
  refine g_exit 10 (by kernel_rfl) ?_
  show WP _ _ _ _ _ _
  refine g_reg0 [0, 1, 2] (by kernel_rfl) ?_
  refine s_val (some 79) (.int .i64 4) (fun w => by kernel_rfl) (by kernel_rfl) ?_
  refine s_val (some 80) (.int .i64 5) (fun w => by kernel_rfl) (by kernel_rfl) ?_
  refine s_val (some 13) (.int .i64 5) (fun w => by kernel_rfl) (by kernel_rfl) ?_
  refine s_nil ?_
  show WPL _ _ _ _ _ _
  refine g_next ?_
  refine g_seq (by kernel_rfl) ?_
  refine g_sreg [0, 1] (by kernel_rfl) (by kernel_rfl) ?_
  refine s_val (some 77) (.int .i64 5) (fun w => by kernel_rfl) (by kernel_rfl) ?_
  refine s_val (some 78) (.bool false) (fun w => by kernel_rfl) (by kernel_rfl) ?_
  refine s_nil ?_
  refine g_cond_f (by kernel_rfl) (by kernel_rfl) ?_
  refine g_exit 8 (by kernel_rfl) ?_
  show WP _ _ _ _ _ _
  refine D2.g_sdraw [0, 1, 2, 3, 4, 5, 6] [((some 110), fun _ => .pointer (some ⟨b5, 0, none⟩)), ((some 111), fun _ => wv (nth (rnd s) 0)), ((some 112), fun _ => .int .i64 ((i : Nat) : Int)), ((some 113), fun _ => wv (lastB i 7)), ((some 114), fun _ => wv ((nth (rnd s) 0) ^^^ (lastB i 7))), ((some 115), fun _ => .pointer (some ⟨b5, 0, none⟩)), (none, fun _ => undef)] (D2.Pre w.heap.size w (fun L g => [(true, (bif L 6 then (b5, Obj.cells (Value.cells (svn (rm s (lastB i 7)))) 26 (0, 0)) else (b5, Obj.cells (Value.cells (svn (rnd s))) 26 (0, 0)))), (true, (b4, Obj.cells (Value.cells (bS24 s)) 26 (0, 0))), (true, (b3, Obj.cells (Value.cells (cS24 s)) 44 (0, 0))), (true, (b2, Obj.cells Z25 26 (0, 0))), (true, (b1, Obj.cells (Value.cells (svn s)) 26 (0, 0)))]) (fun L g => True)) (by kernel_rfl) (by kernel_rfl) (by kernel_rfl) (by kernel_rfl) ⟨D2.StE.of H113.drew _ (by kernel_rfl), trivial⟩ ⟨?_, ?_, ?_, ?_, ?_, ?_, ?_, trivial⟩ ?_
  · exact D2.gv_val (fun _ _ _ h => h) (fun g w => by kernel_rfl)
  · exact D2.gv_load1 25 (.tmp 110) 0 (fun g => b5) (fun g => 0) (fun g => (Value.cells (svn (rnd s)))) 26 (0, 0) (fun _ _ _ h => h) (fun g => by kernel_rfl) (fun g => by kernel_rfl) (fun L g hN => (by have hL6 : L 6 = false := (hN.post 6 (by kernel_rfl)); exact D2.ent_get' (p := true) (e := (bif L 6 then (b5, Obj.cells (Value.cells (svn (rm s (lastB i 7)))) 26 (0, 0)) else (b5, Obj.cells (Value.cells (svn (rnd s))) 26 (0, 0)))) (by kernel_rfl) (by rfl) (by simp only [hL6, cond_true, cond_false] <;> rfl))) (by kernel_rfl) (fun L g hN hF => by kernel_rfl)
  · exact D2.gv_val (fun _ _ _ h => h) (fun g w => by kernel_rfl)
  · exact D2.gv_call 24 #[.int .i64 ((i : Nat) : Int)] (fun _ _ _ h => h) (last_fn i (by omega)) (fun g w => by kernel_rfl)
  · exact D2.gv_valE (fun _ _ _ h => h) (V' := .int .u64 (Go.bits .xor .u64 (((BitVec.toNat (nth (rnd s) 0) : Nat) : Int)) (((BitVec.toNat (lastB i 7) : Nat) : Int)))) (fun g w => by kernel_rfl) (bv_xor_u64 (nth (rnd s) 0) (lastB i 7))
  · exact D2.gv_val (fun _ _ _ h => h) (fun g w => by kernel_rfl)
  · exact D2.gv_store 0 25 (.tmp 115) (.tmp 114) (fun g => b5) (fun g => 0) (Value.cells (svn (rnd s))) (Value.cells (svn (rm s (lastB i 7)))) 26 (wv ((nth (rnd s) 0) ^^^ (lastB i 7))) (fun g => by kernel_rfl) (fun g => by kernel_rfl) (fun g => by kernel_rfl) (by kernel_rfl) (by kernel_rfl) (fun g => (of_decide_eq_true (by kernel_rfl))) (fun g => (svn_rm s (lastB i 7))) (fun L g hN => ⟨(by have hL6 : L 6 = false := hN.1; exact D2.ent_get' (p := true) (e := (bif L 6 then (b5, Obj.cells (Value.cells (svn (rm s (lastB i 7)))) 26 (0, 0)) else (b5, Obj.cells (Value.cells (svn (rnd s))) 26 (0, 0)))) (by kernel_rfl) (by rfl) (by simp only [hL6, cond_true, cond_false] <;> rfl)), (by kernel_rfl)⟩) (fun L g hN hF => hF)
  intro L0 G114 w114 hall HL; clear H113
  have H114 : St w.heap.size w w114 [(b5, Obj.cells (Value.cells (svn (rm s (lastB i 7)))) 26 (0, 0)), (b4, Obj.cells (Value.cells (bS24 s)) 26 (0, 0)), (b3, Obj.cells (Value.cells (cS24 s)) 44 (0, 0)), (b2, Obj.cells Z25 26 (0, 0)), (b1, Obj.cells (Value.cells (svn s)) 26 (0, 0))] := by have e6 := hall 6 (Nat.le_of_ble_eq_true (by kernel_rfl)); have hS := D2.StE.st HL.1; simp only [e6, cond_true, D2.pres] at hS; exact hS
  clear HL hall
  refine g_sreg [0, 1] (by kernel_rfl) (by kernel_rfl) ?_
  refine s_load H114 (some 116) 26 (.tmp 12) 0 b5 (Value.cells (svn (rm s (lastB i 7)))) 26 (0, 0) (by kernel_rfl) (by kernel_rfl) (by kernel_rfl) (by kernel_rfl) (by kernel_rfl) ?_
  refine s_store H114 3 [(b5, Obj.cells (Value.cells (svn (rm s (lastB i 7)))) 26 (0, 0)), (b4, Obj.cells (Value.cells (bS24 s)) 26 (0, 0)), (b3, Obj.cells (Value.cells (cS24 s)) 44 (0, 0)), (b2, Obj.cells (Value.cells (svn (rm s (lastB i 7)))) 26 (0, 0)), (b1, Obj.cells (Value.cells (svn s)) 26 (0, 0))] 26 (.tmp 4) (.tmp 116) b2 (0) Z25 (Value.cells (svn (rm s (lastB i 7)))) 26 (svn (rm s (lastB i 7))) (by kernel_rfl) (by kernel_rfl) (by kernel_rfl) (by kernel_rfl) (by kernel_rfl) (by kernel_rfl) (of_decide_eq_true (by kernel_rfl)) (by kernel_rfl) (by kernel_rfl) ?_
  intro w115 H115; clear H114
  refine s_nil ?_
  refine g_ret (by kernel_rfl) ?_
  show ∃ vs, Res _ _ _ _ vs ∧ _
  refine ⟨[svn (rm s (lastB i 7))], (.agg (b := b2) (Value.cells (svn (rm s (lastB i 7)))) 26 (0, 0) (by kernel_rfl) (H115.get 3 (by kernel_rfl)) (by kernel_rfl) .nil), ?_, H115.below⟩
  rfl
end Go.Proofs.YtddhadddpllbcaaDoor
