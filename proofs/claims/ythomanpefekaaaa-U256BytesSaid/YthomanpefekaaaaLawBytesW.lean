/-
  The law U256Bytes, for arguments as they are read.
-/
import Derived.Test.YthomanpefekaaaaLawBytes
import Derived.Test.YthomanpefekaaaaOpen
namespace Go.Proofs.Ythomanpefekaaaa
open Go Go.RowKit
theorem bytes_read (A : Nat) (hA : A < big) (s : ByteArray) (hs : s.size ≤ maxLen) (i : Int) (_hi : (Lit.int .i64 i).wf = true) (m : Int) (hm : (Lit.int .u64 m).wf = true) (w : World) : Calls Try.prog 4 #[uv A, .string s, .int .i64 i, .int .u64 m] w fun e w' => e = .returned (.bool true) ∧ Below w.heap.size w w' := by
  obtain ⟨h0, h1⟩ := wd_of_wf hm
  obtain ⟨n, rfl⟩ := Int.eq_ofNat_of_zero_le h0
  exact bytes_walk A hA s (by have := hs; unfold maxLen at this; omega) i n (by omega) w
end Go.Proofs.Ythomanpefekaaaa
