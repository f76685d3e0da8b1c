/-
  What the condition gives a walk: the table's cells; eight words read as data.
-/
import Derived.Test.YtjhldipeicpoeaaDoorShaB
import Derived.Test.YtjhldipeicpoeaaDoorOpenG
namespace Go.Proofs.YtjhldipeicpoeaaDoor
open Go Go.ChangeShapes Go.WideShapes Go.ChangeAt Go.RowKit Go.Proofs.Sha
set_option linter.unusedVariables false
def rootsL : List Int := [1116352408, 1899447441, 3049323471, 3921009573, 961987163, 1508970993, 2453635748, 2870763221, 3624381080, 310598401, 607225278, 1426881987, 1925078388, 2162078206, 2614888103, 3248222580, 3835390401, 4022224774, 264347078, 604807628, 770255983, 1249150122, 1555081692, 1996064986, 2554220882, 2821834349, 2952996808, 3210313671, 3336571891, 3584528711, 113926993, 338241895, 666307205, 773529912, 1294757372, 1396182291, 1695183700, 1986661051, 2177026350, 2456956037, 2730485921, 2820302411, 3259730800, 3345764771, 3516065817, 3600352804, 4094571909, 275423344, 430227734, 506948616, 659060556, 883997877, 958139571, 1322822218, 1537002063, 1747873779, 1955562222, 2024104815, 2227730452, 2361852424, 2428436474, 2756734187, 3204031479, 3329325298]
theorem gRoots : Tryd.prog.globalNamed "ecclesia/sha.roots" = some 0 := by kernel_rfl
theorem roots_of_laid {W : World} (h : laidMetH Tryd.prog [("ecclesia/sha.roots", Rows.laid_ecclesia_sha_roots)] W) : Roots W := by
  rw [MakeChecks.laidMetH_plain _ _ _ (by kernel_rfl)] at h
  have t := Lib.tabIs_of_head (k := .u32) (zs := rootsL) gRoots (show (Tryd.prog.globals[0]?).map (·.type) = some 61 by kernel_rfl) Tryd.underlying61 Tryd.underlying30 (by kernel_rfl) (by kernel_rfl) h
  unfold Lib.TabIs World.var? at t
  rw [gRoots] at t
  simp only [Option.bind_some] at t
  split at t
  · rename_i cs T fz hh
    exact ⟨T, fz, by rw [hh]; exact congrArg (fun c => some (Obj.cells c T fz)) (Option.some.inj t)⟩
  · cases t
/-- A world that meets the condition: the settled one, the table laid. -/
noncomputable def laidWorld (os : Os) : World :=
  let w0 := World.holding Tryd.prog os ⟨#[], #[], []⟩
  { w0 with heap := w0.heap.modify 0 fun
      | .cells _ t frozen => .cells rootsC t frozen
      | o => o }
theorem laidWorld_met (os : Os) (args : Array Value) : laidMetH Tryd.prog [("ecclesia/sha.roots", Rows.laid_ecclesia_sha_roots)] ((laidWorld os).forCall (fun _ _ => 0) ⟨#[], args, []⟩).memory := by
  rw [MakeChecks.laidMetH_plain _ _ _ (by kernel_rfl)]
  exact laidMet_of_run' 8 (by kernel_rfl) (by kernel_rfl)
theorem openW {P : Program} {H : Type} {enc : TypeId × Value → H} {W : World} {base b0 : Nat} {v : Value} {sp : Nat → Bool} {held : Bool} {d : DataW H} {p : List MemPlace} {t e : TypeId} {n : Nat}
    (ht : P.underlying t = some (.array n e)) (he : P.underlying e = some (.int .u32)) (hct : P.cellsOf t = n) (hce : P.cellsOf e = 1)
    (hv : Value.okWide P W .any base t v) (h : DataW.Trod enc P W b0 sp held t v d p) : ∃ s : List Sha.W, v = arr n s := by
  obtain ⟨f, rfl, hw⟩ := openArr ht he hct hce hv h
  refine ⟨fix n fun i => BitVec.ofNat 32 (f i).toNat, ?_⟩
  unfold arr
  rw [arrF_congr fun j hj => ?_]
  obtain ⟨x, hx⟩ := bv32_of_wf (hw j hj)
  rw [nth_fix, if_pos hj, hx]
  simp
end Go.Proofs.YtjhldipeicpoeaaDoor
