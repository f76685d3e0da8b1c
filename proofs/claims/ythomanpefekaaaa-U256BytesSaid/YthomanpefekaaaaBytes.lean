/-
  The contract of u256.Bytes.
-/
import Derived.Test.YthomanpefekaaaaWords
import Derived.Laws.BytesArg
namespace Go.Proofs.Ythomanpefekaaaa
open Go.ChangeShapes Go.WideShapes Go.ChangeAt Go.RowKit
set_option linter.unusedVariables false

/-- A number's 32 bytes, the highest first. -/
def bn (A : Nat) : List Int := [w3 A / 72057594037927936 % 256, w3 A / 281474976710656 % 256, w3 A / 1099511627776 % 256, w3 A / 4294967296 % 256, w3 A / 16777216 % 256, w3 A / 65536 % 256, w3 A / 256 % 256, w3 A % 256, w2 A / 72057594037927936 % 256, w2 A / 281474976710656 % 256, w2 A / 1099511627776 % 256, w2 A / 4294967296 % 256, w2 A / 16777216 % 256, w2 A / 65536 % 256, w2 A / 256 % 256, w2 A % 256, w1 A / 72057594037927936 % 256, w1 A / 281474976710656 % 256, w1 A / 1099511627776 % 256, w1 A / 4294967296 % 256, w1 A / 16777216 % 256, w1 A / 65536 % 256, w1 A / 256 % 256, w1 A % 256, w0 A / 72057594037927936 % 256, w0 A / 281474976710656 % 256, w0 A / 1099511627776 % 256, w0 A / 4294967296 % 256, w0 A / 16777216 % 256, w0 A / 65536 % 256, w0 A / 256 % 256, w0 A % 256]
def bs (A : Nat) : ByteArray := strOfNums (bn A)

theorem conv_row (w : World) (O : Obj) (xs : List Int) (n : Nat) (hn : xs.length = n) (C : Array Value) (hC : C = (xs.map (Value.int .u8)).toArray) :
    (convert 61 9 (.slice (some ⟨w.heap.size + 1, 0, none⟩) n n)).run Try.prog ((w.alloc O).alloc (.cells C 60)) = .ok (.string (strOfNums xs)) ((w.alloc O).alloc (.cells C 60)) := by
  subst hC
  refine run_convert_bytes_arg _ 61 5 Try.underlying61 Try.underlying5 _ 0 n n xs hn ?_ 9 Try.underlying9
  intro i hi
  have h := heap_alloc2_new w O (.cells (xs.map (Value.int .u8)).toArray 60)
  rw [cell_of_row _ _ _ _ _ _ h]
  have hi' : i < xs.length := by omega
  simp [hi']

set_option maxHeartbeats 4000000 in
set_option maxRecDepth 100000 in
theorem bytes_any (A : Nat) (hA : A < big) (w : World) : Calls Try.prog 14 #[uv A] w fun e w' => e = .returned (.string (bs A)) ∧ Below w.heap.size w w' := by
  have hc := fun (O : Obj) => conv_row w O (bn A) 32 rfl _ rfl
  simp only [bn, List.map_cons, List.map_nil] at hc
  unfold uv
  go_enter Try.func14, Try.ntmps14
  go_wp2
  go_rounds 33
  go_ret
  exact ⟨rfl, by go_grown⟩

theorem bs_size (A : Nat) : (bs A).size = 32 := rfl
end Go.Proofs.Ythomanpefekaaaa
