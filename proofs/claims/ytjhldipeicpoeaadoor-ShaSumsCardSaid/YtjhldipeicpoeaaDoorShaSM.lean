/-
  Sums: what the reference lays together.
-/
import Derived.Test.YtjhldipeicpoeaaDoorProg
import Derived.Test.YtjhldipeicpoeaaDoorShaM
import Derived.Test.YtjhldipeicpoeaaDoorShaBlocks
import Derived.Test.YtjhldipeicpoeaaDoorMark
namespace Go.Proofs.YtjhldipeicpoeaaDoor
open Go Go.RowKit Go.Proofs.Sha
set_option linter.unusedVariables false
def padL (s : ByteArray) (z : Nat) : List UInt8 := tl s ++ (128 :: List.replicate z 0)
theorem padL0 (s : ByteArray) : tl s ++ [UInt8.ofBitVec (128 : BitVec 8)] = padL s 0 := rfl
theorem padL_succ (s : ByteArray) (z : Nat) : padL s z ++ [UInt8.ofBitVec (0 : BitVec 8)] = padL s (z + 1) := by
  unfold padL; rw [List.replicate_succ']; simp
theorem padL_len (s : ByteArray) (z : Nat) : (padL s z).length = ByteArray.size s + 1 + z := by unfold padL; simp [tl_len]; omega
theorem padL_end (s : ByteArray) (z : Nat) (h : z = 63 - (ByteArray.size s + 8) % 64) : padL s z = tl s ++ tailI (ByteArray.size s) 0 := by
  subst h; unfold padL tailI; simp
theorem tail_byte (n j : Nat) (h : 0 < j) (h8 : j ≤ 8) : UInt8.ofBitVec (BitVec.ofNat 8 (n * 8 / 2 ^ (8 * (j - 1)) % 256)) = UInt8.ofNat (8 * n / 2 ^ (8 * (7 - (8 - j)))) := by
  rw [show 7 - (8 - j) = j - 1 by omega, Nat.mul_comm n 8]
  generalize 8 * n / 2 ^ (8 * (j - 1)) = X
  apply UInt8.toNat_inj.1
  show BitVec.toNat (BitVec.ofNat 8 (X % 256)) = (UInt8.ofNat X).toNat
  rw [BitVec.toNat_ofNat, UInt8.toNat_ofNat']
  omega
theorem tail_go (s : ByteArray) (j : Nat) (h : 0 < j) (h8 : j ≤ 8) : tl s ++ tailI (ByteArray.size s) (8 - j) ++ [UInt8.ofBitVec (BitVec.ofNat 8 (ByteArray.size s * 8 / 2 ^ (8 * (j - 1)) % 256))] = tl s ++ tailI (ByteArray.size s) (8 - (j - 1)) := by
  rw [tail_byte _ _ h h8, show 8 - (j - 1) = 8 - j + 1 by omega, tailI_succ, List.append_assoc]
def LL (s : ByteArray) : List UInt8 := tl s ++ tailB (ByteArray.size s)
theorem LL_len (s : ByteArray) : (LL s).length % 64 = 0 ∧ (LL s).length ≤ ByteArray.size s + 72 := by
  have : (LL s).length = ByteArray.size s + (1 + (63 - (ByteArray.size s + 8) % 64) + 8) := by
    unfold LL; rw [List.length_append, tl_len, show tailB (ByteArray.size s) = tailI (ByteArray.size s) 8 from rfl, tailI_len]
  omega
theorem blk_go (s : ByteArray) (hs : List W) (m : Nat) (h : takeB beg ((LL s).take (64 * m)) = ⟨hs, [], 64 * m⟩) (hm : 64 * m + 64 ≤ (LL s).length) :
    takeB beg ((LL s).take (64 * (m + 1))) = ⟨become hs (bw (strB (List.take 64 (List.drop (64 * m) (LL s))))), [], 64 * (m + 1)⟩ := by
  rw [show 64 * (m + 1) = 64 * m + 64 by omega, List.take_add, takeB_append, h]
  exact blk_full hs (strB (List.take 64 (List.drop (64 * m) (LL s)))) (64 * m) (by omega) (by rw [strB_size, List.length_take, List.length_drop]; omega)
theorem blk_size (s : ByteArray) (m : Nat) (hm : 64 * m + 64 ≤ (LL s).length) : ByteArray.size (strB (List.take 64 (List.drop (64 * m) (LL s)))) = 64 := by rw [strB_size, List.length_take, List.length_drop]; omega
def outI (hs : List W) (i : Nat) : List UInt8 := (List.range i).map fun i => UInt8.ofBitVec (obyte hs i)
theorem outI_succ (hs : List W) (i : Nat) : outI hs (i + 1) = outI hs i ++ [UInt8.ofBitVec (obyte hs i)] := by unfold outI; rw [List.range_succ, List.map_append]; rfl
theorem outI_len (hs : List W) (i : Nat) : (outI hs i).length = i := by unfold outI; simp
theorem low8 (x : W) : BitVec.setWidth 8 (x % (256 : BitVec 32)) = BitVec.setWidth 8 x := by
  apply BitVec.eq_of_toNat_eq
  rw [BitVec.toNat_setWidth, BitVec.toNat_setWidth, BitVec.toNat_umod]
  show x.toNat % 256 % 256 = x.toNat % 256
  rw [Nat.mod_mod]
theorem sum_is (s : ByteArray) (hs : List W) (m : Nat) (h : takeB beg ((LL s).take (64 * m)) = ⟨hs, [], 64 * m⟩) (hm : ¬ 64 * m < (LL s).length) : outB hs = sumB (tl s) := by
  rw [List.take_of_length_le (by omega)] at h
  unfold LL at h
  rw [takeB_append] at h
  unfold sumB endB
  rw [takeB_n, show Pd.n beg = 0 from rfl, tl_len, Nat.zero_add, h]
def maskI (K : List UInt8) (m : BitVec 8) (i : Nat) : List UInt8 := (List.range i).map fun i => UInt8.ofBitVec ((K.getD i 0).toBitVec ^^^ m)
theorem maskI_succ (K : List UInt8) (m : BitVec 8) (i : Nat) : maskI K m (i + 1) = maskI K m i ++ [UInt8.ofBitVec ((K.getD i 0).toBitVec ^^^ m)] := by unfold maskI; rw [List.range_succ, List.map_append]; rfl
theorem maskI_over {K : List UInt8} {i : Nat} (h : ¬ i < K.length) : (K.getD i 0).toBitVec = 0 := by rw [List.getD_eq_getElem?_getD, List.getElem?_eq_none (by omega)]; rfl
theorem maskI_len (K : List UInt8) (m : BitVec 8) (i : Nat) : (maskI K m i).length = i := by unfold maskI; simp
end Go.Proofs.YtjhldipeicpoeaaDoor
