/-
  A number's 32 bytes make that number.
-/
import Derived.Test.YtiollplcmmlcgaaBytes
import Derived.Test.YtiollplcmmlcgaaFrom
namespace Go.Proofs.Ytiollplcmmlcgaa
open Go.RowKit

theorem byteOf (x : Int) (_h0 : 0 ≤ x) (h1 : x < 256) : (UInt8.ofNat x.toNat).toNat = x.toNat := by
  simp; omega

theorem word_bytes (x : Int) (n : Nat) (hx : Wd x) :
    256 * (256 * (256 * (256 * (256 * (256 * (256 * (256 * n + (x / 72057594037927936 % 256).toNat) + (x / 281474976710656 % 256).toNat) + (x / 1099511627776 % 256).toNat) + (x / 4294967296 % 256).toNat) + (x / 16777216 % 256).toNat) + (x / 65536 % 256).toNat) + (x / 256 % 256).toNat) + (x % 256).toNat = 18446744073709551616 * n + x.toNat := by
  obtain ⟨hx0, hx1⟩ := hx
  obtain ⟨y, rfl⟩ := Int.eq_ofNat_of_zero_le hx0
  have hy : y < 18446744073709551616 := by omega
  have c0 : ((y : Int) % 256).toNat = y % 256 := by omega
  have c1 : ((y : Int) / 256 % 256).toNat = y / 256 % 256 := by omega
  have c2 : ((y : Int) / 65536 % 256).toNat = y / 65536 % 256 := by omega
  have c3 : ((y : Int) / 16777216 % 256).toNat = y / 16777216 % 256 := by omega
  have c4 : ((y : Int) / 4294967296 % 256).toNat = y / 4294967296 % 256 := by omega
  have c5 : ((y : Int) / 1099511627776 % 256).toNat = y / 1099511627776 % 256 := by omega
  have c6 : ((y : Int) / 281474976710656 % 256).toNat = y / 281474976710656 % 256 := by omega
  have c7 : ((y : Int) / 72057594037927936 % 256).toNat = y / 72057594037927936 % 256 := by omega
  rw [Int.toNat_natCast, c7, c6, c5, c4, c3, c2, c1, c0]
  clear c0 c1 c2 c3 c4 c5 c6 c7 hx0 hx1
  have s0 : y = 256 * (y / 256) + y % 256 := by omega
  have s1 : y / 256 = 256 * (y / 65536) + y / 256 % 256 := by rw [show y / 65536 = y / 256 / 256 from by rw [Nat.div_div_eq_div_mul]]; omega
  have s2 : y / 65536 = 256 * (y / 16777216) + y / 65536 % 256 := by rw [show y / 16777216 = y / 65536 / 256 from by rw [Nat.div_div_eq_div_mul]]; omega
  have s3 : y / 16777216 = 256 * (y / 4294967296) + y / 16777216 % 256 := by rw [show y / 4294967296 = y / 16777216 / 256 from by rw [Nat.div_div_eq_div_mul]]; omega
  have s4 : y / 4294967296 = 256 * (y / 1099511627776) + y / 4294967296 % 256 := by rw [show y / 1099511627776 = y / 4294967296 / 256 from by rw [Nat.div_div_eq_div_mul]]; omega
  have s5 : y / 1099511627776 = 256 * (y / 281474976710656) + y / 1099511627776 % 256 := by rw [show y / 281474976710656 = y / 1099511627776 / 256 from by rw [Nat.div_div_eq_div_mul]]; omega
  have s6 : y / 281474976710656 = 256 * (y / 72057594037927936) + y / 281474976710656 % 256 := by rw [show y / 72057594037927936 = y / 281474976710656 / 256 from by rw [Nat.div_div_eq_div_mul]]; omega
  have s7 : y / 72057594037927936 % 256 = y / 72057594037927936 := by omega
  generalize y / 256 = z1 at *
  generalize y / 65536 = z2 at *
  generalize y / 16777216 = z3 at *
  generalize y / 4294967296 = z4 at *
  generalize y / 1099511627776 = z5 at *
  generalize y / 281474976710656 = z6 at *
  generalize y / 72057594037927936 = z7 at *
  omega

theorem sv_bs (A : Nat) (hA : A < big) : sv (bs A).data.toList = A := by
  have e : (bs A).data.toList = (bn A).map fun n => UInt8.ofNat n.toNat := by simp [bs, strOfNums]
  have b : ∀ x : Int, (UInt8.ofNat (x % 256).toNat).toNat = (x % 256).toNat := fun x => byteOf _ (by omega) (by omega)
  rw [e]
  unfold sv bn
  simp only [List.map_cons, List.map_nil, List.foldl_cons, List.foldl_nil, b]
  rw [word_bytes _ _ (wd3 A), word_bytes _ _ (wd2 A), word_bytes _ _ (wd1 A), word_bytes _ _ (wd0 A)]
  have h := mk4_w A hA
  have h0 := wd0 A; have h1 := wd1 A; have h2 := wd2 A; have h3 := wd3 A
  unfold Wd at h0 h1 h2 h3
  omega
end Go.Proofs.Ytiollplcmmlcgaa
