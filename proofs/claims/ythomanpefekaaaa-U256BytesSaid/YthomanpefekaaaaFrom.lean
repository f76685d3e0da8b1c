/-
  The contract of u256.From.
-/
import Derived.Test.YthomanpefekaaaaWords
import Derived.Test.YthomanpefekaaaaFromMath
import Derived.Lib.Hide
namespace Go.Proofs.Ythomanpefekaaaa
open Go.ChangeShapes Go.WideShapes Go.ChangeAt Go.RowKit
set_option linter.unusedVariables false

set_option maxHeartbeats 1000000 in
set_option maxRecDepth 100000 in
theorem from_long (s : ByteArray) (h : 32 < s.size) (hs : s.size ≤ 9223372036854775807) (w : World) : Calls Try.prog 13 #[.string s] w fun e w' => e = .returned (.tuple #[.agg #[.int .u64 0, .int .u64 0, .int .u64 0, .int .u64 0], .int .i64 4]) ∧ Below w.heap.size w w' := by
  have hi : (32 : Int) < (s.size : Int) := by omega
  go_enter Try.func13, Try.ntmps13
  go_wp2
  go_returns
  exact ⟨rfl, by go_grown⟩

/-- The number behind k bytes. -/
def fromN (s : ByteArray) (k : Nat) : Nat := sv (s.data.toList.take k) * 256 ^ (s.size - k)

theorem fromN_lt (s : ByteArray) (k : Nat) (h : s.size ≤ 32) (hk : k ≤ s.size) : fromN s k < big := by
  unfold fromN
  have h1 := sv_lt (s.data.toList.take k)
  have h2 : (s.data.toList.take k).length ≤ k := List.length_take_le _ _
  have h3 : 256 ^ (s.data.toList.take k).length ≤ 256 ^ k := Nat.pow_le_pow_right (by omega) h2
  have h4 : 256 ^ k * 256 ^ (s.size - k) = 256 ^ s.size := by rw [← Nat.pow_add]; congr 1; omega
  have h5 : 256 ^ s.size ≤ 256 ^ 32 := Nat.pow_le_pow_right (by omega) h
  have h6 : sv (s.data.toList.take k) * 256 ^ (s.size - k) < 256 ^ k * 256 ^ (s.size - k) := (Nat.mul_lt_mul_right (Nat.pow_pos (by omega))).2 (by omega)
  have h7 : (256 : Nat) ^ 32 = big := rfl
  omega

theorem fromN_split (s : ByteArray) (k m : Nat) (hk : k < s.size) (hm : s.size = k + 1 + m) :
    fromN s k = sv (s.data.toList.take k) * 256 ^ (m + 1) ∧ fromN s (k + 1) = (256 * sv (s.data.toList.take k) + s[k].toNat) * 256 ^ m := by
  unfold fromN
  constructor
  · congr 2; omega
  · have e : s.data.toList.take (k + 1) = s.data.toList.take k ++ [s[k]] := by rw [List.take_succ_eq_append_getElem (by simpa using hk)]; rfl
    rw [e, sv_snoc]
    congr 2; omega

theorem wi0 (n : Nat) : ((wi n 0 : Nat) : Int) = w0 n := by unfold wi w0; simp
theorem wi1 (n : Nat) : ((wi n 1 : Nat) : Int) = w1 n := rfl
theorem wi2 (n : Nat) : ((wi n 2 : Nat) : Int) = w2 n := rfl
theorem wi3 (n : Nat) : ((wi n 3 : Nat) : Int) = w3 n := rfl

theorem or_word (x b m : Nat) (hx : x < 18446744073709551616) (hb : b < 256) :
    bits BinOp.or IntKind.u64 (x : Int) (IntKind.u64.wrap ((b : Int) * 2 ^ (8 * (m % 8)))) = ((x ||| b * 2 ^ (8 * (m % 8)) : Nat) : Int) := by
  have hp : 2 ^ (8 * (m % 8)) ≤ 2 ^ 56 := Nat.pow_le_pow_right (by omega) (by omega)
  have hl : b * 2 ^ (8 * (m % 8)) < 18446744073709551616 := by
    have h1 : b * 2 ^ (8 * (m % 8)) ≤ 255 * 2 ^ 56 := Nat.mul_le_mul (by omega) hp
    omega
  have e2 : (b : Int) * 2 ^ (8 * (m % 8)) = ((b * 2 ^ (8 * (m % 8)) : Nat) : Int) := by push_cast; rfl
  rw [e2]
  have e3 : IntKind.u64.wrap ((b * 2 ^ (8 * (m % 8)) : Nat) : Int) = ((b * 2 ^ (8 * (m % 8)) : Nat) : Int) := by rw [IntKind.wrap_u64]; omega
  rw [e3]
  exact bits_or_u64_nat _ _ hx hl

def Holds4 (wr : World) (b : Nat) (n : Nat) : Prop :=
  (wr.cell? ⟨b, 0, none⟩ = some (.int .u64 (w0 n)) ∧ wr.cell? ⟨b, 1, none⟩ = some (.int .u64 (w1 n)) ∧ wr.cell? ⟨b, 2, none⟩ = some (.int .u64 (w2 n)) ∧ wr.cell? ⟨b, 3, none⟩ = some (.int .u64 (w3 n))) ∧
  (wr.frozen? ⟨b, 0, none⟩ = false ∧ wr.frozen? ⟨b, 1, none⟩ = false ∧ wr.frozen? ⟨b, 2, none⟩ = false ∧ wr.frozen? ⟨b, 3, none⟩ = false)
def FInv (w : World) (s : ByteArray) (k : Nat) (wr : World) : Prop := Below w.heap.size w wr ∧ Holds4 wr (w.heap.size + 1) (fromN s k) ∧ Holds4 wr w.heap.size 0

set_option maxHeartbeats 4000000 in
set_option maxRecDepth 100000 in
theorem from_short (s : ByteArray) (h : s.size ≤ 32) (w : World) : Calls Try.prog 13 #[.string s] w fun e w' => e = .returned (.tuple #[uv (sv s.data.toList), .int .i64 0]) ∧ Below w.heap.size w w' := by
  have hi : ¬ (32 : Int) < (s.size : Int) := by omega
  have hfin : fromN s s.size = sv s.data.toList := by unfold fromN; rw [List.take_of_length_le (by simp)]; simp
  have hend : ∀ k, ¬ k < s.size → k ≤ s.size → fromN s k = sv s.data.toList := fun k h1 h2 => by rw [show k = s.size by omega]; exact hfin
  have I : FInv w s 0 ((w.alloc (.cells #[.int .u64 0, .int .u64 0, .int .u64 0, .int .u64 0] 24)).alloc (.cells #[.int .u64 0, .int .u64 0, .int .u64 0, .int .u64 0] 24)) := by
    have z : fromN s 0 = 0 := by unfold fromN; simp [sv]
    have z0 : w0 0 = 0 := rfl
    have z1 : w1 0 = 0 := rfl
    have z2 : w2 0 = 0 := rfl
    have z3 : w3 0 = 0 := rfl
    refine ⟨((Below.refl _ _).alloc (Nat.le_refl _) _).alloc (by simp) _, ?_, ?_⟩
    · rw [z]; unfold Holds4; rw [z0, z1, z2, z3]; exact ⟨⟨by simp, by simp, by simp, by simp⟩, by simp, by simp, by simp, by simp⟩
    · unfold Holds4; rw [z0, z1, z2, z3]; exact ⟨⟨by simp, by simp, by simp, by simp⟩, by simp, by simp, by simp, by simp⟩
  have Hend := Lib.hid hend
  clear hfin hend
  go_enter Try.func13, Try.ntmps13
  go_wp2
  go_loopw [13] (fun i wr => ∃ k : Nat, k ≤ s.size ∧ i = .int .i64 k ∧ FInv w s k wr) (fun i _ => s.size - (intOf i).toNat)
  case atStart => exact ⟨0, by omega, rfl, I⟩
  case round =>
    obtain ⟨k, hk, rfl, J⟩ := hrel
    clear I
    obtain ⟨JB, ⟨⟨c0, c1, c2, c3⟩, f0, f1, f2, f3⟩, ⟨⟨r0, r1, r2, r3⟩, y0, y1, y2, y3⟩⟩ := J
    by_cases hlt : k < s.size
    · obtain ⟨m, hm⟩ : ∃ m, s.size = k + 1 + m := ⟨s.size - k - 1, by omega⟩
      have hb : ((s.size : Int) - 1 - (k : Int)) = (m : Int) := by omega
      have hm32 : m < 32 := by omega
      obtain ⟨n1, n2⟩ := fromN_split s k m hlt hm
      have hbig := fromN_lt s (k + 1) h (by omega)
      have hby : s[k].toNat < 256 := s[k].toNat_lt
      have OB := or_byte (sv (s.data.toList.take k)) s[k].toNat m hby hm32 (by rw [← n2]; exact hbig)
      rw [← n1, ← n2] at OB
      have HOB := Lib.hid OB
      clear hm n1 n2 OB hbig
      have hq : m / 8 = 0 ∨ m / 8 = 1 ∨ m / 8 = 2 ∨ m / 8 = 3 := by omega
      rcases hq with hq | hq | hq | hq
      · go_wp2_with fail
        go_region
        go_wp2
        go_roundw
        case rel =>
          obtain ⟨o1, o2⟩ := HOB.out
          rw [hq] at o1 o2
          have ev : bits BinOp.or IntKind.u64 (w0 (fromN s k)) (IntKind.u64.wrap ((s[k].toNat : Int) * 2 ^ (8 * (m % 8)))) = w0 (fromN s (k + 1)) := by
            rw [← wi0, or_word _ _ _ (by unfold wi; exact Nat.mod_lt _ (by omega)) hby, o1, wi0]
          have g1 : w1 (fromN s (k + 1)) = w1 (fromN s k) := by rw [← wi1, ← wi1, o2 1 (by omega) (by omega)]
          have g2 : w2 (fromN s (k + 1)) = w2 (fromN s k) := by rw [← wi2, ← wi2, o2 2 (by omega) (by omega)]
          have g3 : w3 (fromN s (k + 1)) = w3 (fromN s k) := by rw [← wi3, ← wi3, o2 3 (by omega) (by omega)]
          refine ⟨k + 1, by omega, by go_num, (JB.setCell (by simp) _).drew, ⟨⟨?_, ?_, ?_, ?_⟩, ?_, ?_, ?_, ?_⟩, ⟨⟨?_, ?_, ?_, ?_⟩, ?_, ?_, ?_, ?_⟩⟩
          · rw [← ev]; exact World.cell?_setCell_same _ _ _ c0
          · rw [g1]; exact (World.cell?_setCell_other _ _ _ _ (by simp)).trans c1
          · rw [g2]; exact (World.cell?_setCell_other _ _ _ _ (by simp)).trans c2
          · rw [g3]; exact (World.cell?_setCell_other _ _ _ _ (by simp)).trans c3
          · simp [f0]
          · simp [f1]
          · simp [f2]
          · simp [f3]
          · exact (World.cell?_setCell_other _ _ _ _ (by simp)).trans r0
          · exact (World.cell?_setCell_other _ _ _ _ (by simp)).trans r1
          · exact (World.cell?_setCell_other _ _ _ _ (by simp)).trans r2
          · exact (World.cell?_setCell_other _ _ _ _ (by simp)).trans r3
          · simp [y0]
          · simp [y1]
          · simp [y2]
          · simp [y3]
        case measure => simp [intOf]; omega
      · go_wp2_with fail
        go_region
        go_wp2
        go_roundw
        case rel =>
          obtain ⟨o1, o2⟩ := HOB.out
          rw [hq] at o1 o2
          have ev : bits BinOp.or IntKind.u64 (w1 (fromN s k)) (IntKind.u64.wrap ((s[k].toNat : Int) * 2 ^ (8 * (m % 8)))) = w1 (fromN s (k + 1)) := by
            rw [← wi1, or_word _ _ _ (by unfold wi; exact Nat.mod_lt _ (by omega)) hby, o1, wi1]
          have g0 : w0 (fromN s (k + 1)) = w0 (fromN s k) := by rw [← wi0, ← wi0, o2 0 (by omega) (by omega)]
          have g2 : w2 (fromN s (k + 1)) = w2 (fromN s k) := by rw [← wi2, ← wi2, o2 2 (by omega) (by omega)]
          have g3 : w3 (fromN s (k + 1)) = w3 (fromN s k) := by rw [← wi3, ← wi3, o2 3 (by omega) (by omega)]
          refine ⟨k + 1, by omega, by go_num, (JB.setCell (by simp) _).drew, ⟨⟨?_, ?_, ?_, ?_⟩, ?_, ?_, ?_, ?_⟩, ⟨⟨?_, ?_, ?_, ?_⟩, ?_, ?_, ?_, ?_⟩⟩
          · rw [g0]; exact (World.cell?_setCell_other _ _ _ _ (by simp)).trans c0
          · rw [← ev]; exact World.cell?_setCell_same _ _ _ c1
          · rw [g2]; exact (World.cell?_setCell_other _ _ _ _ (by simp)).trans c2
          · rw [g3]; exact (World.cell?_setCell_other _ _ _ _ (by simp)).trans c3
          · simp [f0]
          · simp [f1]
          · simp [f2]
          · simp [f3]
          · exact (World.cell?_setCell_other _ _ _ _ (by simp)).trans r0
          · exact (World.cell?_setCell_other _ _ _ _ (by simp)).trans r1
          · exact (World.cell?_setCell_other _ _ _ _ (by simp)).trans r2
          · exact (World.cell?_setCell_other _ _ _ _ (by simp)).trans r3
          · simp [y0]
          · simp [y1]
          · simp [y2]
          · simp [y3]
        case measure => simp [intOf]; omega
      · go_wp2_with fail
        go_region
        go_wp2
        go_roundw
        case rel =>
          obtain ⟨o1, o2⟩ := HOB.out
          rw [hq] at o1 o2
          have ev : bits BinOp.or IntKind.u64 (w2 (fromN s k)) (IntKind.u64.wrap ((s[k].toNat : Int) * 2 ^ (8 * (m % 8)))) = w2 (fromN s (k + 1)) := by
            rw [← wi2, or_word _ _ _ (by unfold wi; exact Nat.mod_lt _ (by omega)) hby, o1, wi2]
          have g0 : w0 (fromN s (k + 1)) = w0 (fromN s k) := by rw [← wi0, ← wi0, o2 0 (by omega) (by omega)]
          have g1 : w1 (fromN s (k + 1)) = w1 (fromN s k) := by rw [← wi1, ← wi1, o2 1 (by omega) (by omega)]
          have g3 : w3 (fromN s (k + 1)) = w3 (fromN s k) := by rw [← wi3, ← wi3, o2 3 (by omega) (by omega)]
          refine ⟨k + 1, by omega, by go_num, (JB.setCell (by simp) _).drew, ⟨⟨?_, ?_, ?_, ?_⟩, ?_, ?_, ?_, ?_⟩, ⟨⟨?_, ?_, ?_, ?_⟩, ?_, ?_, ?_, ?_⟩⟩
          · rw [g0]; exact (World.cell?_setCell_other _ _ _ _ (by simp)).trans c0
          · rw [g1]; exact (World.cell?_setCell_other _ _ _ _ (by simp)).trans c1
          · rw [← ev]; exact World.cell?_setCell_same _ _ _ c2
          · rw [g3]; exact (World.cell?_setCell_other _ _ _ _ (by simp)).trans c3
          · simp [f0]
          · simp [f1]
          · simp [f2]
          · simp [f3]
          · exact (World.cell?_setCell_other _ _ _ _ (by simp)).trans r0
          · exact (World.cell?_setCell_other _ _ _ _ (by simp)).trans r1
          · exact (World.cell?_setCell_other _ _ _ _ (by simp)).trans r2
          · exact (World.cell?_setCell_other _ _ _ _ (by simp)).trans r3
          · simp [y0]
          · simp [y1]
          · simp [y2]
          · simp [y3]
        case measure => simp [intOf]; omega
      · go_wp2_with fail
        go_region
        go_wp2
        go_roundw
        case rel =>
          obtain ⟨o1, o2⟩ := HOB.out
          rw [hq] at o1 o2
          have ev : bits BinOp.or IntKind.u64 (w3 (fromN s k)) (IntKind.u64.wrap ((s[k].toNat : Int) * 2 ^ (8 * (m % 8)))) = w3 (fromN s (k + 1)) := by
            rw [← wi3, or_word _ _ _ (by unfold wi; exact Nat.mod_lt _ (by omega)) hby, o1, wi3]
          have g0 : w0 (fromN s (k + 1)) = w0 (fromN s k) := by rw [← wi0, ← wi0, o2 0 (by omega) (by omega)]
          have g1 : w1 (fromN s (k + 1)) = w1 (fromN s k) := by rw [← wi1, ← wi1, o2 1 (by omega) (by omega)]
          have g2 : w2 (fromN s (k + 1)) = w2 (fromN s k) := by rw [← wi2, ← wi2, o2 2 (by omega) (by omega)]
          refine ⟨k + 1, by omega, by go_num, (JB.setCell (by simp) _).drew, ⟨⟨?_, ?_, ?_, ?_⟩, ?_, ?_, ?_, ?_⟩, ⟨⟨?_, ?_, ?_, ?_⟩, ?_, ?_, ?_, ?_⟩⟩
          · rw [g0]; exact (World.cell?_setCell_other _ _ _ _ (by simp)).trans c0
          · rw [g1]; exact (World.cell?_setCell_other _ _ _ _ (by simp)).trans c1
          · rw [g2]; exact (World.cell?_setCell_other _ _ _ _ (by simp)).trans c2
          · rw [← ev]; exact World.cell?_setCell_same _ _ _ c3
          · simp [f0]
          · simp [f1]
          · simp [f2]
          · simp [f3]
          · exact (World.cell?_setCell_other _ _ _ _ (by simp)).trans r0
          · exact (World.cell?_setCell_other _ _ _ _ (by simp)).trans r1
          · exact (World.cell?_setCell_other _ _ _ _ (by simp)).trans r2
          · exact (World.cell?_setCell_other _ _ _ _ (by simp)).trans r3
          · simp [y0]
          · simp [y1]
          · simp [y2]
          · simp [y3]
        case measure => simp [intOf]; omega
    · have HE := Lib.hid (Hend.out k hlt hk)
      go_wp2
      have hS0 : (wr.setCell ⟨w.heap.size, 0, none⟩ (.int .u64 (w0 (fromN s k)))).cell? ⟨w.heap.size, 0, none⟩ = some (.int .u64 (w0 (fromN s k))) := World.cell?_setCell_same _ _ _ r0
      have hS1 : ((wr.setCell ⟨w.heap.size, 0, none⟩ (.int .u64 (w0 (fromN s k)))).setCell ⟨w.heap.size, 1, none⟩ (.int .u64 (w1 (fromN s k)))).cell? ⟨w.heap.size, 1, none⟩ = some (.int .u64 (w1 (fromN s k))) := World.cell?_setCell_same _ _ _ ((World.cell?_setCell_other _ _ _ _ (by simp)).trans r1)
      have hS2 : (((wr.setCell ⟨w.heap.size, 0, none⟩ (.int .u64 (w0 (fromN s k)))).setCell ⟨w.heap.size, 1, none⟩ (.int .u64 (w1 (fromN s k)))).setCell ⟨w.heap.size, 2, none⟩ (.int .u64 (w2 (fromN s k)))).cell? ⟨w.heap.size, 2, none⟩ = some (.int .u64 (w2 (fromN s k))) := World.cell?_setCell_same _ _ _ ((World.cell?_setCell_other _ _ _ _ (by simp)).trans ((World.cell?_setCell_other _ _ _ _ (by simp)).trans r2))
      have hS3 : ((((wr.setCell ⟨w.heap.size, 0, none⟩ (.int .u64 (w0 (fromN s k)))).setCell ⟨w.heap.size, 1, none⟩ (.int .u64 (w1 (fromN s k)))).setCell ⟨w.heap.size, 2, none⟩ (.int .u64 (w2 (fromN s k)))).setCell ⟨w.heap.size, 3, none⟩ (.int .u64 (w3 (fromN s k)))).cell? ⟨w.heap.size, 3, none⟩ = some (.int .u64 (w3 (fromN s k))) := World.cell?_setCell_same _ _ _ ((World.cell?_setCell_other _ _ _ _ (by simp)).trans ((World.cell?_setCell_other _ _ _ _ (by simp)).trans ((World.cell?_setCell_other _ _ _ _ (by simp)).trans r3)))
      refine bodyPost_ret (v := .tuple #[uv (fromN s k), .int .i64 0]) (by simp [results, Try.results13, go_sem, hS0, hS1, hS2, hS3]) rfl ?_
      refine ⟨by rw [HE.out], ?_⟩
      exact ((((JB.setCell (by simp) _).setCell (by simp) _).setCell (by simp) _).setCell (by simp) _)
end Go.Proofs.Ythomanpefekaaaa
