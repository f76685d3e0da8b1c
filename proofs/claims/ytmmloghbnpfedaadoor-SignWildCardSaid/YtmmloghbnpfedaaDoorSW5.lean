/-
  Texts of the proof, part 5.
-/
import Derived.Test.YtmmloghbnpfedaaDoorProg
import Derived.Laws.Bits64b
import Derived.Lib.Hide
import Derived.Test.YtmmloghbnpfedaaDoorSW2
import Derived.Test.YtmmloghbnpfedaaDoorSW3
import Derived.Test.YtmmloghbnpfedaaDoorSW4

namespace Go.Proofs.YtmmloghbnpfedaaDoor.Ke
open Go Go.RowKit Go.Proofs.Kec
set_option linter.unusedVariables false
theorem b8 (x : BitVec 64) (sh : Nat) : UInt8.ofNat (Int.toNat (((BitVec.toNat (BitVec.setWidth 8 (x >>> sh)) : Nat) : Int))) = UInt8.ofNat (BitVec.toNat x / 2 ^ sh) := by
  apply UInt8.toNat_inj.1
  rw [Int.toNat_natCast, BitVec.toNat_setWidth, BitVec.toNat_ushiftRight, Nat.shiftRight_eq_div_pow]
  simp
theorem take_fnq (q : List (BitVec 64) × Nat) (hq : StOK q) (t : ByteArray) (ht : ByteArray.size t < 4611686018427387904) :
    FnP Tryd.prog 64 #[svn q.1, .int .i64 ((q.2 : Nat) : Int), .string t] Marks (.tuple #[svn (takeB q (tl t)).1, .int .i64 (((takeB q (tl t)).2 : Nat) : Int)]) := take_fn q.1 q.2 t hq.len hq.lt ht
theorem end_fnq (q : List (BitVec 64) × Nat) (hq : StOK q) : Fn Tryd.prog 67 #[svn q.1, .int .i64 ((q.2 : Nat) : Int)] (svn (endB q)) := end_fn q.1 q.2 hq.len hq.lt
def kF (s : List (BitVec 64)) (i j : Nat) : BitVec 8 := if j < i then BitVec.setWidth 8 (nth s (j / 8) >>> (j % 8 * 8)) else 0
theorem kF_put (s : List (BitVec 64)) (i j : Nat) : kF s (i + 1) j = if j = i then BitVec.setWidth 8 (nth s (i / 8) >>> (i % 8 * 8)) else kF s i j := by
  unfold kF
  by_cases h : j = i
  · subst h; rw [if_pos (by omega), if_pos rfl]
  · rw [if_neg h]
    by_cases h2 : j < i
    · rw [if_pos (by omega), if_pos h2]
    · rw [if_neg (by omega), if_neg h2]
theorem kF_done (s : List (BitVec 64)) : ((List.range 32).map fun i => UInt8.ofBitVec (kF s 32 i)) = firstB s := by
  unfold firstB
  refine List.map_congr_left fun i hi => ?_
  unfold kF; rw [if_pos (by simpa using hi)]
  have h := b8 (nth s (i / 8)) (i % 8 * 8)
  rw [Int.toNat_natCast] at h
  rw [← h]
  apply UInt8.toNat_inj.1
  have := (BitVec.setWidth 8 (nth s (i / 8) >>> (i % 8 * 8))).isLt
  rw [UInt8.toNat_ofNat_of_lt' (by simpa using this)]; rfl
set_option maxRecDepth 100000 in
set_option maxHeartbeats 2000000 in
theorem first_fn (s : List (BitVec 64)) : Fn Tryd.prog 65 #[svn s] (.string (strB (firstB s))) := by
  refine Fn.intro (c := codeOf Tryd.f65) [.tmp 2] 22 Tryd.func65 kr kr kr fun w => ?_
  have H0 := St.start w
  refine rS [.b, .v] H0 kr fun gs1 w1 H1 => ?_
  clear H0
  refine rS [.a] H1 kr fun gs2 w2 H2 => ?_
  clear H1
  refine g_seq kr ?_
  refine rS [.v] H2 kr fun gs3 w3 H3 => ?_
  clear H2
  refine g_block 0 kr ?_
  have HL1 : St w.heap.size w w3 [((gs1 0).b, Obj.cells (Value.cells (svn s)) 84 (0, 0)), ((gs2 0).b, Obj.cells (Value.cells (zeroV .u8 32)) 90 (0, 0))] := H3.as kr
  clear H3
  have HM2 : St w.heap.size w w3 [((gs1 0).b, Obj.cells (Value.cells (svn s)) 84 (0, 0)), ((gs2 0).b, Obj.cells (Value.cells (arrB 32 (kF s 0))) 90 (0, 0))] := HL1
  refine g_loop kr (fun mz ρ ww => ∃ (i : Nat), 32 - i = mz ∧ (i ≤ 32) ∧ St w.heap.size w ww [((gs1 0).b, Obj.cells (Value.cells (svn s)) 84 (0, 0)), ((gs2 0).b, Obj.cells (Value.cells (arrB 32 (kF s i))) 90 (0, 0))] ∧ Is [(0, svn s), (1, .pointer (some ⟨(gs1 0).b, 0, none⟩)), (2, .string (⟨#[]⟩)), (3, .pointer (some ⟨(gs2 0).b, 0, none⟩)), (5, .int .i64 ((i : Nat) : Int))] ρ) (32 - 0) ⟨0, rfl, (by omega), HM2, (Is.of ⟨kr, kr, kr, kr, kr, trivial⟩)⟩ ?_
  clear HM2
  rintro _ _ w4 ⟨i, rfl, hi, H4, _, rfl⟩
  by_cases hc3 : (i : Nat) < 32
  · skip
    refine rS [.e (v := .bool (decide (((i : Nat) : Int) < 32))) (v' := .bool true) (bool_eq (decide_eq_true (by omega)))] H4 kr fun gs5 w5 H5 => ?_
    clear H4
    refine g_seq kr ?_
    refine g_cond_t kr kr ?_
    refine g_skip kr ?_
    show WP _ _ _ _ _ _
    refine g_seq kr ?_
    refine g_block 1 kr ?_
    refine rS [.v, .v] H5 kr fun gs6 w6 H6 => ?_
    clear H5
    refine rL [.v, .v, .e (v := .int .i64 (IntKind.i64.wrap (((i : Nat) : Int).tdiv 8))) (v' := .int .i64 ((i / 8 : Nat) : Int)) (int_eq (quoN_i64 (a := i) (b := 8) (by omega))), .o (ins := [((.tmp 1), .pointer (some ⟨(gs1 0).b, 0, none⟩)), ((.tmp 10), .int .i64 ((i / 8 : Nat) : Int))]) (v := .pointer (some ⟨(gs1 0).b, 0 + (i / 8) * 1, none⟩)) (fun ρ o w ho hi => idxA_run (kd := .i64) (t := 84) (n := 25) (size := 1) kr (x := (.tmp 1)) (y := (.tmp 10)) (gs1 0).b 0 (i / 8) ho hi.1 hi.2.1 (by omega) w), .ls (C := (Value.cells (svn s))) (off := 0 + (i / 8) * 1) (v := .int .u64 ((BitVec.toNat (nth s (i / 8)) : Nat) : Int)) 0 (svn_at s (i / 8) _ (by omega) (by omega)), .v, .e (v := .int .i64 (Int.tmod ((i : Nat) : Int) 8)) (v' := .int .i64 ((i % 8 : Nat) : Int)) (int_eq (remN i 8)), .e (v := .int .i64 (IntKind.i64.wrap (((i % 8 : Nat) : Int) * 8))) (v' := .int .i64 (((i % 8) * 8 : Nat) : Int)) (int_eq (wrapMul_i64 (a := i % 8) (b := 8) (by omega))), .e (v := .int .u64 (Int.fdiv (((BitVec.toNat (nth s (i / 8)) : Nat) : Int)) (2 ^ (min ((i % 8) * 8) 64)))) (v' := .int .u64 ((BitVec.toNat ((nth s (i / 8)) >>> ((i % 8) * 8)) : Nat) : Int)) (bv_shr_u64 (nth s (i / 8)) ((i % 8) * 8)), .e (v := .int .u8 (IntKind.u8.wrap (((BitVec.toNat ((nth s (i / 8)) >>> ((i % 8) * 8)) : Nat) : Int)))) (v' := .int .u8 ((BitVec.toNat (BitVec.setWidth 8 ((nth s (i / 8)) >>> ((i % 8) * 8))) : Nat) : Int)) (bv_conv_u8 ((nth s (i / 8)) >>> ((i % 8) * 8))), .o (ins := [((.tmp 3), .pointer (some ⟨(gs2 0).b, 0, none⟩)), ((.tmp 8), .int .i64 ((i : Nat) : Int))]) (v := .pointer (some ⟨(gs2 0).b, 0 + i * 1, none⟩)) (fun ρ o w ho hi => idxA_run (kd := .i64) (t := 90) (n := 32) (size := 1) kr (x := (.tmp 3)) (y := (.tmp 8)) (gs2 0).b 0 i ho hi.1 hi.2.1 (by omega) w), .se (C := (Value.cells (arrB 32 (kF s i)))) (C' := (Value.cells (arrB 32 (kF s (i + 1))))) (off := 0 + i * 1) (v := .int .u8 ((BitVec.toNat (BitVec.setWidth 8 ((nth s (i / 8)) >>> ((i % 8) * 8))) : Nat) : Int)) 1 (by show _ + 1 ≤ 32; omega) (arrB_put (k := i) (x := BitVec.setWidth 8 ((nth s (i / 8)) >>> ((i % 8) * 8))) (by omega) (by omega) (fun j _ => kF_put s i j))] H6 kr fun gs7 w7 H7 => ?_
    clear H6
    show WP _ _ _ _ _ _
    refine g_keep [0, 1, 2, 3, 4, 5, 6] fun ρ1 => ?_
    have HK4 := H7.keep
    clear H7
    refine rL [.e (v := .int .i64 (IntKind.i64.wrap (((i : Nat) : Int) + 1))) (v' := .int .i64 ((i + 1 : Nat) : Int)) (int_eq (wrapAdd_i64 (a := i) (b := 1) (by omega))), .v] HK4 kr fun gs8 w8 H8 => ?_
    clear HK4
    have HL5 : St w.heap.size w w8 [((gs1 0).b, Obj.cells (Value.cells (svn s)) 84 (0, 0)), ((gs2 0).b, Obj.cells (Value.cells (arrB 32 (kF s (i + 1)))) 90 (0, 0))] := H8.as kr
    clear H8
    show ∃ m, _ ∧ _
    exact ⟨_, (by omega), (i + 1), rfl, (by omega), HL5, (Is.of ⟨kr, kr, kr, kr, kr, trivial⟩)⟩
  · skip
    refine rS [.e (v := .bool (decide (((i : Nat) : Int) < 32))) (v' := .bool false) (bool_eq (decide_eq_false (by omega)))] H4 kr fun gs9 w9 H9 => ?_
    clear H4
    refine g_seq kr ?_
    refine g_cond_f kr kr ?_
    refine g_exit 0 kr ?_
    show WP _ _ _ _ _ _
    refine g_sreg [0, 1, 2] kr kr ?_
    refine rp [.o (ins := [((.tmp 3), .pointer (some ⟨(gs2 0).b, 0, none⟩))]) (v := .slice (some ⟨(gs2 0).b, 0, none⟩) 32 32) (fun ρ o w ho hi => slArr_run (t := 90) (n := 32) (e := 5) (z := 1) kr kr (x := (.tmp 3)) ((gs2 0).b) ho hi.1 w)] H9 kr fun gs10 w10 H10 => ?_
    show WPs _ _ _ _ [1, 2] _ _
    clear H9
    have hi32 : i = 32 := by omega
    have hrow := arrB_rw 32 (kF s i) (by unfold maxLen; omega)
    rw [show ((List.range 32).map fun j => UInt8.ofBitVec (kF s i j)) = firstB s by rw [hi32]; exact kF_done _] at hrow
    refine s_bytesStrB H10 (some 21) 69 9 5 (.tmp 20) 1 ((gs2 0).b) 32 32 (Value.cells (arrB 32 (kF s i))) 90 (0, 0) (firstB s) kr kr kr kr kr kr kr hrow ?_
    refine rp [.v] H10 kr fun gs11 w11 H11 => ?_
    show WPs _ _ _ _ [] _ _
    clear H10
    refine s_nil ?_
    refine g_ret kr ?_
    show ∃ vs, Res _ _ _ _ vs ∧ _
    refine ⟨[.string (strB (firstB s))], (.tmp (.string (strB (firstB s))) kr .nil), ?_, H11.below⟩
    rfl
set_option maxRecDepth 100000 in
set_option maxHeartbeats 2000000 in
theorem of_fn2 (b : Nat) (s1 s2 : ByteArray) (h1 : ByteArray.size s1 < 4611686018427387904) (h2 : ByteArray.size s2 < 4611686018427387904) : FnP Tryd.prog 28 #[.slice (some ⟨b, 0, none⟩) 2 2] (fun w => Marks w ∧ w.heap[b]? = some (.cells #[.string s1, .string s2] 9 (0, 0))) (.string (strB (sumB (tl s1 ++ tl s2)))) := by
  refine FnP.intro (c := codeOf Tryd.f28) [.tmp 2] 26 Tryd.func28 kr kr kr fun w hpre => ?_
  have H0 := St.start w
  refine rS [.v] H0 kr fun gs1 w1 H1 => ?_
  clear H0
  refine rS [.a] H1 kr fun gs2 w2 H2 => ?_
  clear H1
  refine rS [.v] H2 kr fun gs3 w3 H3 => ?_
  clear H2
  refine g_seq kr ?_
  refine rS [.v, .v, .v] H3 kr fun gs4 w4 H4 => ?_
  clear H3
  refine g_block 0 kr ?_
  have HL1 : St w.heap.size w w4 [((gs2 0).b, Obj.cells #[.int .u64 0, .int .u64 0, .int .u64 0, .int .u64 0, .int .u64 0, .int .u64 0, .int .u64 0, .int .u64 0, .int .u64 0, .int .u64 0, .int .u64 0, .int .u64 0, .int .u64 0, .int .u64 0, .int .u64 0, .int .u64 0, .int .u64 0, .int .u64 0, .int .u64 0, .int .u64 0, .int .u64 0, .int .u64 0, .int .u64 0, .int .u64 0, .int .u64 0] 84 (0, 0))] := H4.as kr
  clear H4
  refine g_first kr ?_
  refine rS [.v] HL1 kr fun gs5 w5 H5 => ?_
  clear HL1
  refine g_seq kr ?_
  refine g_cond_t kr kr ?_
  refine g_skip kr ?_
  show WP _ _ _ _ _ _
  refine g_seq kr ?_
  refine g_block 1 kr ?_
  refine rS [.o (ins := [((.tmp 7), .slice (some ⟨b, 0, none⟩) 2 2), ((.tmp 9), .int .i64 0)]) (v := .pointer (some ⟨b, 0 + 0 * 1, none⟩)) (fun ρ o w ho hi => idxS_run (kd := .i64) (t := 83) (e := 9) (size := 1) (bytes := 16) kr (x := (.tmp 7)) (y := (.tmp 9)) b 0 2 2 0 ho hi.1 hi.2.1 (by omega) w), .fs (off := 0 + 0 * 1) (v := .string s1) hpre.2 (lt_of_heap hpre.2) (by rfl), .v] H5 kr fun gs6 w6 H6 => ?_
  clear H5
  refine rL [.l 0, .v, .v, .cp (pre := Marks) (take_fnq (zeroS, 0) zero_ok s1 (by assumption)) [] (fun w hb hd => (Marks.oldB hb rfl hpre.1)), .v, .v, .v, .s 0, .v] H6 kr fun gs7 w7 H7 => ?_
  clear H6
  show WP _ _ _ _ _ _
  refine g_keep [0, 2, 3, 4, 6, 7, 8, 9, 10] fun ρ1 => ?_
  have HK2 := H7.keep
  clear H7
  refine rL [.v, .v] HK2 kr fun gs8 w8 H8 => ?_
  clear HK2
  show WPL _ _ _ _ _ _
  refine g_next ?_
  refine rS [.v] H8 kr fun gs9 w9 H9 => ?_
  clear H8
  refine g_seq kr ?_
  refine g_cond_t kr kr ?_
  refine g_skip kr ?_
  show WP _ _ _ _ _ _
  refine g_seq kr ?_
  refine g_block 1 kr ?_
  refine rS [.o (ins := [((.tmp 7), .slice (some ⟨b, 0, none⟩) 2 2), ((.tmp 9), .int .i64 1)]) (v := .pointer (some ⟨b, 0 + 1 * 1, none⟩)) (fun ρ o w ho hi => idxS_run (kd := .i64) (t := 83) (e := 9) (size := 1) (bytes := 16) kr (x := (.tmp 7)) (y := (.tmp 9)) b 0 2 2 1 ho hi.1 hi.2.1 (by omega) w), .fs (off := 0 + 1 * 1) (v := .string s2) hpre.2 (lt_of_heap hpre.2) (by rfl), .v] H9 kr fun gs10 w10 H10 => ?_
  clear H9
  refine rL [.l 0, .v, .v, .cp (pre := Marks) (take_fnq (takeB (zeroS, 0) (tl s1)) (takeB_ok _ zero_ok) s2 (by assumption)) [] (fun w hb hd => (Marks.oldB hb rfl hpre.1)), .v, .v, .v, .s 0, .v] H10 kr fun gs11 w11 H11 => ?_
  clear H10
  show WP _ _ _ _ _ _
  refine rL [.v, .v] H11 kr fun gs12 w12 H12 => ?_
  clear H11
  show WPL _ _ _ _ _ _
  refine g_next ?_
  refine g_keep [0, 2, 3, 4, 6, 7, 8, 9, 10] fun ρ2 => ?_
  have HK3 := H12.keep
  clear H12
  refine rS [.v] HK3 kr fun gs13 w13 H13 => ?_
  clear HK3
  refine g_seq kr ?_
  refine g_cond_f kr kr ?_
  refine g_exit 0 kr ?_
  show WP _ _ _ _ _ _
  refine rS [.l 0, .v, .c (end_fnq (takeB (takeB (zeroS, 0) (tl s1)) (tl s2)) (takeB_ok _ (takeB_ok _ zero_ok))), .cp (pre := Marks) (mix_fn (endB (takeB (takeB (zeroS, 0) (tl s1)) (tl s2)))) [] (fun w hb hd => (Marks.oldB hb rfl hpre.1)), .c (first_fn (mix (endB (takeB (takeB (zeroS, 0) (tl s1)) (tl s2))))), .v] H13 kr fun gs14 w14 H14 => ?_
  clear H13
  refine g_ret kr ?_
  show ∃ vs, Res _ _ _ _ vs ∧ _
  refine ⟨[.string (strB (firstB (mix (endB (takeB (takeB (zeroS, 0) (tl s1)) (tl s2))))))], (.tmp (.string (strB (firstB (mix (endB (takeB (takeB (zeroS, 0) (tl s1)) (tl s2))))))) kr .nil), ?_, H14.below⟩
  rw [show sumB (tl s1 ++ tl s2) = firstB (mix (endB (takeB (takeB (zeroS, 0) (tl s1)) (tl s2)))) by unfold sumB; rw [takeB_append]]; rfl
end Go.Proofs.YtmmloghbnpfedaaDoor.Ke

namespace Go.Proofs.YtmmloghbnpfedaaDoor
open Go.Proofs.Kec
set_option maxRecDepth 100000
def kg0 : List B64 := [12446784959294127737, 507648704348594261, 15647983601658403586, 10959500993137603161, 7333165478880885320, 12107946354257142877, 1825230698222721021, 13318288670677026716, 1, 0, 0, 0, 0, 0, 0, 0, 9223372036854775808, 0, 0, 0, 0, 0, 0, 0, 0]
def kg1 : List B64 := [6147971067010992689, 1876153753126214278, 11687062968877581082, 17750475127143040403, 1364682289028149339, 1027244746182266560, 3150245938057466390, 16886574177629905641, 6801149347803128144, 313691013372951397, 10719973574864325803, 16805296323909071301, 13468913885800402523, 8098377563087180416, 13179556767843239086, 15585664471952107018, 6407783409991285683, 3407303225009728413, 9827768119413240126, 1021865858411123001, 9652356509403333293, 11951718323505581892, 5540211513624755404, 3349618883719306652, 2245310120953577523]
def kg2 : List B64 := [9545368450931707425, 6103372658215168530, 7763591259973919506, 17848246576876516643, 12947006784223601021, 5505958432284116247, 2018212747768846420, 8447910178675968831, 15101621917694966059, 159939953062725845, 6064315107748091666, 9120501678261838620, 1651067134317061638, 11896695035590222660, 14673522992868187909, 11407096183005478742, 12687687913063921994, 6308545391313956332, 10294446521914786389, 8132747113889628817, 12665506115741070870, 5481670591257031969, 6959126744159306184, 16862145795090028173, 1693413769624635400]
def kg3 : List B64 := [4267680060616796381, 579814908073199446, 13791422340505577077, 4812296360446488545, 706710581062528071, 1271596614307356765, 11752830566704005059, 16762047622692872806, 5478091182564988854, 12300848449997010808, 5008977000257078002, 3871043231972770140, 7633546833167738716, 5532015364872513692, 7165461145452843687, 14083097586322905112, 484177406022666024, 3228067398285052987, 14623191040636660016, 17178877281466522028, 11173616120886968902, 12563382713311594488, 17422959636601913414, 748172302641650029, 6442387590352047615]
def kg4 : List B64 := [11837680179835353509, 13410646769476190334, 4952104528092970989, 1277989282364619929, 7047691804931419402, 5342080017024537996, 12493632100243897395, 11574884222087161430, 10055621988896330210, 18165963603145537309, 17487306100669846078, 18119694806115350196, 9618717773767475380, 12825705048106922506, 5527631064903321271, 9002700491634594573, 1303087153295520743, 14024905377583470358, 10187605913754835402, 14556652007414753711, 4021238888784077478, 10026775072947815113, 16782994756348503350, 4749223681402529788, 17593480719839225540]
def kg5 : List B64 := [15058388053019221123, 9974640622492302870, 8723369104006252492, 17886918876202208039, 14050617480229670164, 12483290973113457777, 15930457174237073020, 8551516979707312727, 2365711919889953607, 11109191870527486081, 14368473327293248273, 5587541537406898950, 3789619646445963886, 18394813622038995130, 11862182497780370241, 16555824809559328481, 5412517034377761979, 7838744382045772683, 17771373447938391051, 6694972750624542577, 3266019767555548540, 12208565774212995082, 15248425339155570907, 9452177465067154405, 12259306221190545071]
def kg6 : List B64 := [10013278077612867761, 1474259117612355964, 2879183728813378546, 4148321736889135143, 12626595382835406416, 9293618296869397405, 4938129218782373532, 16664402468043493161, 15681752965807490247, 10226721186221201007, 9743597131668940838, 1852918534640912642, 3450560585401044087, 1011300051746069993, 6899631175538953180, 16704795931792727434, 234975023581710291, 13825457614871906661, 11891675625821231111, 6058124696498741224, 5580821739077533620, 15813398562387544400, 15492403653148091095, 2606924993814857282, 18193002710699230399]
def kg7 : List B64 := [17827615796375011906, 15391292426169837866, 6249362430162252556, 9710251416279846582, 10105912379249709577, 2650823036450594119, 15664387409857930322, 1662177558731048463, 7334746813663443739, 5344349277605330821, 16404032918086284602, 2714828603363454990, 11511462880717494872, 9204587968020011070, 3039720999628762020, 9367911649924092033, 15015623358785985977, 14161256907096502116, 13580755754158028805, 6706815580275343004, 9092003422247875906, 4680058580954471423, 7166209016848120547, 7537872251933034799, 14960328169997702102]
def kg8 : List B64 := [4346157385650240285, 12747278687979473800, 3961466678184963067, 1226740751023409601, 17409835424652035951, 18118317986929652408, 2423471940579465391, 6193589401598264539, 14617452826383948483, 3011110326659342099, 15356859773637796445, 10332624466522692422, 13952365950720710612, 10772327730834177540, 6604526622933835094, 6572223820726321970, 12184520449208502169, 18342003984771950954, 11609127758758902949, 10944988614007186857, 10804558890251926615, 16572010099335580323, 11065538473118167171, 17148339691171097690, 18417427264340804677]
def kg9 : List B64 := [8311848369386851567, 3230369989570986678, 13081493150349318572, 7434478931272561067, 15369978940703765400, 3470470700861193646, 2249687778378918720, 9313084128945660265, 153966631549696496, 6118983537052511125, 14977980535898290196, 18177565235984922020, 14924189921399902730, 15876903356041657148, 7094217940934814543, 1583378852536698098, 16321296331298992044, 14177497292578464099, 16553325849587323095, 648459780626778444, 11254275351218238802, 17957596676216042993, 289859803151954995, 13895570894519165226, 16749880478013190335]
def kg10 : List B64 := [13273112571084993025, 9721218316213618435, 7824170422330108613, 8107343850455108834, 1032921731793673868, 18399178888865308163, 7934429767556016305, 2141953109194568018, 575593999526914918, 4397453199245880949, 1407101242017024730, 4760322799491398725, 7812580022732182880, 2803358680990760564, 11917978172376795409, 11125129958775343160, 14948216858779419195, 5040337628865093567, 3973591364729081967, 12893413016423199688, 17257522768735559333, 9664548231428163547, 9178157335604473256, 17125141530137873823, 3086001205950466466]
def kg11 : List B64 := [3558824827103517856, 11571718876325132530, 11622592850317408742, 11451969422274649614, 7748472094946007775, 11708971041613666165, 15194888609098468909, 356585898603786203, 1114503999738702362, 9862786600993572479, 1263754907628321736, 1074634268687110450, 9705722904114278002, 11178441218769045114, 4916578521287547311, 11727595293308849208, 1284664860691755635, 17780436577107051558, 8647777739289450528, 7116046839887150837, 8650581182815156850, 114598025308178617, 13787433734616184716, 11081932096594241469, 11662678542997502451]
def kg12 : List B64 := [14904032757431871081, 1833367409297251611, 10017274157448560410, 2565622001502473760, 14045034576029116318, 7915295257839387862, 8298107784104063204, 7015881885816143476, 9905722942461894066, 1344909847083554569, 1812622167082365918, 13635919833101455094, 6329735965916182372, 4775292262716237883, 4110210121577861853, 6413457930787679200, 12066042808624618022, 9140075296723726086, 3647307869590857955, 17027383216867295599, 9717427822941613517, 18083647396905638099, 15260861372150040278, 5366806573868552890, 4884586890848314528]
def kg13 : List B64 := [11525420944026756391, 18214196730449270852, 16800459377548193, 11560628052597248771, 6265811172570832472, 10533518685195787741, 7726347921332555985, 8102971164141328786, 14849296198520950841, 730792256244643001, 13519574209307208262, 17224902856140070007, 15990674751894835706, 14976057936773525297, 11246247402535995241, 5902052041245227697, 8934381382493077539, 12180751395560369125, 1916218345209719657, 4816456847919208520, 10281050804854773104, 12180863626829662534, 9754408195920163773, 11477169766461609764, 14546999400930527400]
def kg14 : List B64 := [19053535572813391, 3254051246563625587, 659083417359583494, 6811129456922046764, 3418024805626189822, 14100825555534820255, 12190553255631085462, 16427050095616155725, 869054706934327455, 16771147328648398294, 2368125158103282750, 9444193741055805136, 15316860623166084929, 12045208517887612069, 17521819835406632750, 7633891305081537305, 11005095080216094945, 9332182169786266629, 7619752011440268517, 17694609612799368934, 17951520926239439274, 4486714420226338035, 9066495453831349264, 4308744824697230123, 2001970315205741107]
def kg15 : List B64 := [652529623428270178, 17280104991395114182, 7007206083772549446, 7741229147703988740, 6448935170842353916, 11013809384219108563, 16400734725861116728, 10341095433006776725, 11058702026384810582, 12777209949380924920, 11951139618199245599, 17041423964292953794, 7216355067642355390, 207515968366616245, 1901061013279155703, 8599781125096371868, 15795751314943543212, 14138459405122963919, 3315967806219200930, 1398910219540554142, 4438407371450813028, 15250803631669692762, 11728431483141932951, 6413419354055774522, 11827282418758221653]
def kg16 : List B64 := [2094324497629059468, 18410952481960957365, 16998304749590217317, 10472165452090246182, 2957324439160666018, 11571218197299437198, 10884245048476333031, 14222447518032019201, 3951467359830295629, 5600569637552148405, 15218276486119930487, 3973585765572339826, 14890164401722076945, 1342608030262973757, 12623147848651941794, 3322497216572940071, 11951459963232749422, 12503682638979366249, 16300721124851136151, 13752709708348952717, 15247005133059479192, 5547289112688542651, 13306898888049496214, 6092884065202787358, 16049924118934415550]
def kg17 : List B64 := [8910310858846878695, 1336314419790737403, 10693316814692799935, 6542397894220716213, 13006074077733845705, 2259420849075044304, 5119086992943463354, 12576841053068198003, 17243829523025335896, 11612152736619845273, 383844063022455255, 4006692605074657292, 13728196051602548078, 3273366119087763354, 9906580987388778484, 1680054105485861071, 3453069422874564879, 2445652586356073816, 14164153117556706949, 8168539158903213924, 901711995758321870, 7316122978914772712, 17086048163525799525, 9605845784660679421, 13117633953147762592]
def kg18 : List B64 := [3928262691071299283, 1825779283928386589, 16117989046544885133, 3991199164750354166, 3467299420957931229, 4432177862723599763, 11358991721456225845, 9095440129232165448, 12060666814550608555, 1044957007450258942, 11814458915802680441, 12010980000818125249, 1655513237225870257, 11784137439362558749, 14110185025029303704, 17415060416690423902, 529664923344494531, 12450465908267372407, 11626351226785062331, 11834094352327133990, 16994420149643952424, 9271207796368776981, 15602893061487868717, 14641683616207151565, 4315750413167832587]
def kg19 : List B64 := [2104031709389910310, 14738801326702933344, 6802142155068579670, 7137316528851226856, 9086556789983446272, 11916693453768624479, 4881231900193264915, 9313447982761345159, 3394093884336321260, 10474177048825784559, 17371057877526256670, 4740340113041605954, 12216639345813621796, 15347236007256038288, 15444483364815817398, 4299768620770362377, 5023964618276179751, 9544900469916855909, 10207604521930120530, 10078274342904233802, 10481368004061407778, 5776659037760175816, 7134133881635865801, 14401152220392620418, 10763325800383934934]
def kg20 : List B64 := [612344474104722813, 11590833022060788176, 11072834976406496541, 9385776222077155930, 2141808173806412478, 11978092556803861355, 12570321765401777987, 9509547776701424480, 8280740594698023816, 11234988926224570323, 2408306135397045118, 14249712112678810543, 8764307970830112783, 7765937589232241792, 5245578492655674593, 16887635652617528453, 4357957631484519025, 15459167334733117100, 87758573240896788, 4907018245667702475, 579560492342551185, 1006755977026394382, 5304323144621126173, 6489373177897975058, 6339236642932280530]
def kg21 : List B64 := [11597546057742254830, 12005282741731989367, 195670314949206852, 6657866423513679341, 12256623533632225988, 16854991480178193290, 17982640710881986741, 14575357283352355434, 8795935212429922005, 16604140825544672254, 7545804711227691862, 16110388991371485924, 5225150021780061988, 11026287904518793994, 5800002214672294434, 14355833416585153643, 8315235467183314836, 13674218171206826069, 9821310629384017487, 14580916750094659268, 4520376952911183229, 3584425990944671759, 13135653121694848148, 2104640822699963469, 7289638768227246036]
def kg22 : List B64 := [6286240025342736281, 13745111842840629545, 7392041947598255469, 14890298487628900405, 9420990692771067897, 1479255071804271313, 5146600945701750318, 18141473291710640994, 17591338002926922935, 7442291661101979235, 5152579487721739168, 153165356671926743, 1692654426060755285, 4946229325953040208, 9574254826078407096, 3113411579334602112, 13778208479528151927, 13535202115647067203, 3133359169298806084, 286673899484045105, 15365947002241303175, 1152814135981554710, 6020169162900646241, 2274385874519417967, 18111774317694436075]
def kg23 : List B64 := [12985457897057534354, 266370476577644034, 16607233548730408584, 17765841099381523301, 12635634046860480280, 518019492209386289, 7793729894236376637, 4913239630937532274, 6762527185600229709, 2405973505345037220, 12815094650699368655, 4908010728896454485, 18390943308343599329, 5837469124899805113, 6612102576462588155, 3224490175415626262, 8093782937661960536, 15269540748214020566, 15504321565339717650, 13118621657035987053, 14884958655455242563, 11489967232403887828, 3609923983723131244, 2893145274369606729, 15406614195748271792]
def kg24 : List B64 := [12562634669738469056, 5928249483024958272, 13257574057394117129, 16094520544017629880, 14979511871581324652, 5658247198910444907, 12095304490324344827, 13371193797678042564, 3702659389917089387, 9131219029868206035, 1449777034409982508, 2025719396696261666, 6973059317260079475, 9387780226299198499, 14282461711030732716, 7462661846291167221, 13385766764523110248, 833643460064714359, 10464762274677988957, 15389302551230459728, 9816374635301549375, 17024903306643033914, 6080338986015629281, 14176032724109458222, 9088842648982976696]
theorem kg0_next : rm kg0 1 = kg1 := by decide +kernel
theorem kg1_next : rm kg1 32898 = kg2 := by decide +kernel
theorem kg2_next : rm kg2 9223372036854808714 = kg3 := by decide +kernel
theorem kg3_next : rm kg3 9223372039002292224 = kg4 := by decide +kernel
theorem kg4_next : rm kg4 32907 = kg5 := by decide +kernel
theorem kg5_next : rm kg5 2147483649 = kg6 := by decide +kernel
theorem kg6_next : rm kg6 9223372039002292353 = kg7 := by decide +kernel
theorem kg7_next : rm kg7 9223372036854808585 = kg8 := by decide +kernel
theorem kg8_next : rm kg8 138 = kg9 := by decide +kernel
theorem kg9_next : rm kg9 136 = kg10 := by decide +kernel
theorem kg10_next : rm kg10 2147516425 = kg11 := by decide +kernel
theorem kg11_next : rm kg11 2147483658 = kg12 := by decide +kernel
theorem kg12_next : rm kg12 2147516555 = kg13 := by decide +kernel
theorem kg13_next : rm kg13 9223372036854775947 = kg14 := by decide +kernel
theorem kg14_next : rm kg14 9223372036854808713 = kg15 := by decide +kernel
theorem kg15_next : rm kg15 9223372036854808579 = kg16 := by decide +kernel
theorem kg16_next : rm kg16 9223372036854808578 = kg17 := by decide +kernel
theorem kg17_next : rm kg17 9223372036854775936 = kg18 := by decide +kernel
theorem kg18_next : rm kg18 32778 = kg19 := by decide +kernel
theorem kg19_next : rm kg19 9223372039002259466 = kg20 := by decide +kernel
theorem kg20_next : rm kg20 9223372039002292353 = kg21 := by decide +kernel
theorem kg21_next : rm kg21 9223372036854808704 = kg22 := by decide +kernel
theorem kg22_next : rm kg22 2147483649 = kg23 := by decide +kernel
theorem kg23_next : rm kg23 9223372039002292232 = kg24 := by decide +kernel
theorem mix_kg : mix kg0 = kg24 := by
  show rm (rm (rm (rm (rm (rm (rm (rm (rm (rm (rm (rm (rm (rm (rm (rm (rm (rm (rm (rm (rm (rm (rm (rm kg0 1) 32898) 9223372036854808714) 9223372039002292224) 32907) 2147483649) 9223372039002292353) 9223372036854808585) 138) 136) 2147516425) 2147483658) 2147516555) 9223372036854775947) 9223372036854808713) 9223372036854808579) 9223372036854808578) 9223372036854775936) 32778) 9223372039002259466) 9223372039002292353) 9223372036854808704) 2147483649) 9223372039002292232 = kg24
  rw [kg0_next, kg1_next, kg2_next, kg3_next, kg4_next, kg5_next, kg6_next, kg7_next, kg8_next, kg9_next, kg10_next, kg11_next, kg12_next, kg13_next, kg14_next, kg15_next, kg16_next, kg17_next, kg18_next, kg19_next, kg20_next, kg21_next, kg22_next, kg23_next]
theorem end_kg : endB (takeB (zeroS, 0) (tl (bs Ec.gX) ++ tl (bs Ec.gY))) = kg0 := by decide +kernel
theorem sumG : ((sumB (tl (bs Ec.gX) ++ tl (bs Ec.gY))).drop 12).take 4 = [126, 95, 69, 82] := by
  show ((firstB (mix (endB (takeB (zeroS, 0) (tl (bs Ec.gX) ++ tl (bs Ec.gY)))))).drop 12).take 4 = _
  rw [end_kg, mix_kg]; decide +kernel
end Go.Proofs.YtmmloghbnpfedaaDoor

namespace Go.Proofs.YtmmloghbnpfedaaDoor
open Go Go.RowKit
set_option linter.unusedVariables false
open Go.Proofs.Kec Ke
theorem bytes_fn (A : Nat) (hA : A < big) : Fn Tryd.prog 29 #[uv A] (.string (bs A)) := bytes_any A hA
def adrB (X Y : Nat) : ByteArray := ByteArray.extract (strB (sumB (tl (bs X) ++ tl (bs Y)))) (ByteArray.size (strB (sumB (tl (bs X) ++ tl (bs Y)))) - 20) (ByteArray.size (strB (sumB (tl (bs X) ++ tl (bs Y)))))
theorem ksum_size (l : List UInt8) : ByteArray.size (strB (sumB l)) = 32 := sumB_len l
theorem inN_1 : inN 1 = true := by decide +kernel
theorem mulP1 : Ec.mulP Ec.G 1 = Ec.G := by
  have h := Ec.mulP_add Ec.good Ec.G_on 0 1
  first | rfl | (show Ec.Pt.add (Ec.mulP Ec.G 0) Ec.G = Ec.G; rw [Ec.mulP_zero0]; rfl)
set_option maxRecDepth 100000 in
set_option maxHeartbeats 2000000 in
theorem of_z (X Y : Nat) (hX : X < big) (hY : Y < big) : Fn Tryd.prog 7 #[pv (Ec.Pd.mk X Y true)] (.tuple #[.string ⟨#[]⟩, .int .i64 1]) := by
  refine Fn.intro (c := codeOf Tryd.f7) [.tmp 2, .tmp 3] 25 Tryd.func7 kr kr kr fun w => ?_
  have H0 := St.start w
  refine rS [.b, .v, .v] H0 kr fun gs1 w1 H1 => ?_
  clear H0
  refine g_seq kr ?_
  refine rS [.v, .l 0, .v, .n, .n, .n, .v] H1 kr fun gs2 w2 H2 => ?_
  clear H1
  refine g_cond_t kr kr ?_
  refine rS [.v, .v] H2 kr fun gs3 w3 H3 => ?_
  clear H2
  refine g_ret kr ?_
  show ∃ vs, Res _ _ _ _ vs ∧ _
  refine ⟨[.string (⟨#[]⟩), .int .i64 1], (.tmp (.string (⟨#[]⟩)) kr (.tmp (.int .i64 1) kr .nil)), ?_, H3.below⟩
  rfl
set_option maxRecDepth 100000 in
set_option maxHeartbeats 2000000 in
theorem of_yes (X Y : Nat) (hX : X < big) (hY : Y < big) (h : Ec.onB (Ec.Pd.mk X Y false) = true) : FnP Tryd.prog 7 #[pv (Ec.Pd.mk X Y false)] (Marks) (.tuple #[.string (adrB X Y), .int .i64 0]) := by
  refine FnP.intro (c := codeOf Tryd.f7) [.tmp 2, .tmp 3] 25 Tryd.func7 kr kr kr fun w hpre => ?_
  have H0 := St.start w
  refine rS [.b, .v, .v] H0 kr fun gs1 w1 H1 => ?_
  clear H0
  refine g_seq kr ?_
  refine rS [.v, .l 0, .v, .l 0, .c (on_yes (Ec.Pd.mk X Y false) (Ec.Pd.Ok.mk (p := Ec.Pd.mk X Y false) hX hY) h), .v, .v] H1 kr fun gs2 w2 H2 => ?_
  clear H1
  refine g_cond_f kr kr ?_
  refine g_skip kr ?_
  show WP _ _ _ _ _ _
  refine dSg (fun gs3 => [.v, .l 0, .c (f := 29) (args := #[uv X]) (v := .string (bs X)) (bytes_fn X hX), .v, .l 0, .c (f := 29) (args := #[uv Y]) (v := .string (bs Y)) (bytes_fn Y hY), .nw (fun b => .slice (some ⟨b, 0, none⟩) 2 2) #[.string (bs X), .string (bs Y)] 9, .cp (pre := fun w => Marks w ∧ w.heap[(gs3 6).b]? = some (.cells #[.string (bs X), .string (bs Y)] 9 (0, 0))) (of_fn2 ((gs3 6).b) (bs X) (bs Y) (by rw [bs_size]; omega) (by rw [bs_size]; omega)) [(1, ((gs3 6).b, Obj.cells #[.string (bs X), .string (bs Y)] 9 (0, 0)))] (fun w hb hd => ⟨(Marks.oldB hb rfl hpre), hd.1⟩), .v]) H2 kr fun gs3 w3 H3 => ?_
  clear H2
  refine g_keep [0, 1, 2, 3, 4, 11] fun ρ1 => ?_
  have HK1 := H3.keep
  clear H3
  have hz := ksum_size (tl (bs X) ++ tl (bs Y))
  refine rS [.v, .v, .v, .e (v := .int .i64 (IntKind.i64.wrap (((ByteArray.size (strB (sumB (tl (bs X) ++ tl (bs Y)))) : Nat) : Int) - 20))) (v' := .int .i64 (((ByteArray.size (strB (sumB (tl (bs X) ++ tl (bs Y))))) - 20 : Nat) : Int)) (int_eq (wrapSub_i64 (a := ByteArray.size (strB (sumB (tl (bs X) ++ tl (bs Y))))) (b := 20) (by omega))), .o (ins := [((.tmp 20), .string (strB (sumB (tl (bs X) ++ tl (bs Y))))), ((.tmp 23), .int .i64 (((ByteArray.size (strB (sumB (tl (bs X) ++ tl (bs Y))))) - 20 : Nat) : Int))]) (v := .string (ByteArray.extract (strB (sumB (tl (bs X) ++ tl (bs Y)))) ((ByteArray.size (strB (sumB (tl (bs X) ++ tl (bs Y))))) - 20) (ByteArray.size (strB (sumB (tl (bs X) ++ tl (bs Y))))))) (fun ρ o w ho hi => scut3_run (t := 9) (kz := .i64) kr (x := (.tmp 20)) (z := (.tmp 23)) (strB (sumB (tl (bs X) ++ tl (bs Y)))) ((ByteArray.size (strB (sumB (tl (bs X) ++ tl (bs Y))))) - 20) ho hi.1 hi.2.1 (by omega) w), .v, .v] HK1 kr fun gs4 w4 H4 => ?_
  clear HK1
  refine g_ret kr ?_
  show ∃ vs, Res _ _ _ _ vs ∧ _
  refine ⟨[.string (ByteArray.extract (strB (sumB (tl (bs X) ++ tl (bs Y)))) ((ByteArray.size (strB (sumB (tl (bs X) ++ tl (bs Y))))) - 20) (ByteArray.size (strB (sumB (tl (bs X) ++ tl (bs Y)))))), .int .i64 0], (.tmp (.string (ByteArray.extract (strB (sumB (tl (bs X) ++ tl (bs Y)))) ((ByteArray.size (strB (sumB (tl (bs X) ++ tl (bs Y))))) - 20) (ByteArray.size (strB (sumB (tl (bs X) ++ tl (bs Y))))))) kr (.tmp (.int .i64 0) kr .nil)), ?_, H4.below⟩
  rfl
set_option maxRecDepth 100000 in
set_option maxHeartbeats 2000000 in
theorem address1_fn  : FnP Tryd.prog 6 #[uv 1] (Marks) (.tuple #[.string (adrB Ec.gX Ec.gY), .int .i64 0]) := by
  refine FnP.intro (c := codeOf Tryd.f6) [.tmp 2, .tmp 3] 19 Tryd.func6 kr kr kr fun w hpre => ?_
  have H0 := St.start w
  refine rS [.b, .v, .v] H0 kr fun gs1 w1 H1 => ?_
  clear H0
  refine g_seq kr ?_
  refine g_sreg [0, 1, 2] kr kr ?_
  refine rp [.l 0, .c (within_fn 1 (by unfold big; omega))] H1 kr fun gs2 w2 H2 => ?_
  show WPs _ _ _ _ [2] _ _
  clear H1
  refine s_now 7 (v := .bool (inN 1)) (v' := .bool true) (bool_eq inN_1) kr ?_
  refine rp [.v] H2 kr fun gs3 w3 H3 => ?_
  show WPs _ _ _ _ [] _ _
  clear H2
  refine s_nil ?_
  refine g_cond_f kr kr ?_
  refine g_skip kr ?_
  show WP _ _ _ _ _ _
  refine dSg (fun gs4 => [.c base_fn, .l 0, .c (f := 12) (args := #[pv (Ec.ofPt Ec.G), uv 1]) (v := .tuple #[pv (Ec.ofPt Ec.G), .int .i64 0]) (by have h9 := times_pt_fn Ec.G Ec.G_on 1 (by unfold big; omega); rw [mulP1] at h9; exact h9), .v, .v, .v, .a, .s 1, .v]) H3 kr fun gs4 w4 H4 => ?_
  clear H3
  refine rS [.l 1, .cp (pre := Marks) (of_yes Ec.gX Ec.gY (by decide +kernel) (by decide +kernel) (Ec.onB_pt Ec.G_on)) [] (fun w hb hd => (Marks.oldB hb rfl hpre)), .v, .v, .v, .v] H4 kr fun gs5 w5 H5 => ?_
  clear H4
  refine g_ret kr ?_
  show ∃ vs, Res _ _ _ _ vs ∧ _
  refine ⟨[.string (adrB Ec.gX Ec.gY), .int .i64 0], (.tmp (.string (adrB Ec.gX Ec.gY)) kr (.tmp (.int .i64 0) kr .nil)), ?_, H5.below⟩
  rfl
theorem adr_tl (X Y : Nat) : tl (adrB X Y) = (sumB (tl (bs X) ++ tl (bs Y))).drop 12 := by
  unfold adrB
  rw [tl_extract, ksum_size, tl_strB, List.take_of_length_le (Nat.le_of_eq (sumB_len _))]
theorem adr_size (X Y : Nat) : ByteArray.size (adrB X Y) = 20 := by rw [← tl_len, adr_tl, List.length_drop, sumB_len]
theorem aliveG : (ByteArray.toList (ByteArray.extract (adrB Ec.gX Ec.gY) 0 4) == ByteArray.toList ⟨#[126, 95, 69, 82]⟩) = true := by
  have h : ByteArray.extract (adrB Ec.gX Ec.gY) 0 4 = ⟨#[126, 95, 69, 82]⟩ := by
    rw [← strB_tl (ByteArray.extract _ _ _), tl_extract, List.drop_zero, adr_tl, sumG]; rfl
  rw [h]; exact str_self _
set_option maxRecDepth 100000 in
set_option maxHeartbeats 2000000 in
theorem alive7_fn  : FnP Tryd.prog 11 #[] (Marks) (.bool true) := by
  refine FnP.intro (c := codeOf Tryd.f11) [.tmp 0] 20 Tryd.func11 kr kr kr fun w hpre => ?_
  have H0 := St.start w
  refine rS [.v] H0 kr fun gs1 w1 H1 => ?_
  clear H0
  refine rS [.v, .cp (pre := Marks) address1_fn [] (fun w hb hd => (Marks.oldB hb rfl hpre)), .v, .v, .v, .v, .v] H1 kr fun gs2 w2 H2 => ?_
  clear H1
  have hz := (adr_size Ec.gX Ec.gY)
  refine rS [.v, .v, .v, .v, .v, .e (v := .bool (((ByteArray.size (adrB Ec.gX Ec.gY) : Nat) : Int) == 20)) (v' := .bool true) (bool_eq (beq_iff_eq.2 (by rw [adr_size]; rfl))), .v, .v, .v, .o (ins := [((.tmp 16), .string (adrB Ec.gX Ec.gY)), ((.const (.int .i64 4)), .int .i64 4)]) (v := .string (ByteArray.extract (adrB Ec.gX Ec.gY) 0 4)) (fun ρ o w ho hi => scut_run (t := 9) (kd := .i64) kr (x := (.tmp 16)) (y := (.const (.int .i64 4))) (adrB Ec.gX Ec.gY) 4 ho hi.1 hi.2.1 (by omega) w), .e (v := .bool (ByteArray.toList (ByteArray.extract (adrB Ec.gX Ec.gY) 0 4) == ByteArray.toList (⟨#[126, 95, 69, 82]⟩))) (v' := .bool true) (bool_eq aliveG), .v, .v] H2 kr fun gs3 w3 H3 => ?_
  clear H2
  refine g_ret kr ?_
  show ∃ vs, Res _ _ _ _ vs ∧ _
  refine ⟨[.bool true], (.tmp (.bool true) kr .nil), ?_, H3.below⟩
  rfl
end Go.Proofs.YtmmloghbnpfedaaDoor

namespace Go.Proofs.YtmmloghbnpfedaaDoor
open Go.RowKit
/-- The number that bytes make, the highest first. -/
def sv (l : List UInt8) : Nat := l.foldl (fun n b => 256 * n + b.toNat) 0
theorem sv_snoc (l : List UInt8) (b : UInt8) : sv (l ++ [b]) = 256 * sv l + b.toNat := by
  unfold sv; rw [List.foldl_append]; rfl
theorem foldl_lt : ∀ (l : List UInt8) (n : Nat), l.foldl (fun n b => 256 * n + b.toNat) n < (n + 1) * 256 ^ l.length
  | [], n => by simp
  | b :: l, n => by
    rw [List.foldl_cons, List.length_cons, Nat.pow_succ]
    have h := foldl_lt l (256 * n + b.toNat)
    have hb : b.toNat < 256 := b.toNat_lt
    have h2 : (256 * n + b.toNat + 1) * 256 ^ l.length ≤ ((n + 1) * 256) * 256 ^ l.length := Nat.mul_le_mul_right _ (by omega)
    have e : (n + 1) * (256 ^ l.length * 256) = (n + 1) * 256 * 256 ^ l.length := by rw [Nat.mul_assoc (n + 1) 256, Nat.mul_comm 256]
    omega
theorem sv_lt (l : List UInt8) : sv l < 256 ^ l.length := by
  have := foldl_lt l 0
  rw [Nat.one_mul] at this
  exact this
/-- Word q of a number. -/
def wi (n q : Nat) : Nat := n / 18446744073709551616 ^ q % 18446744073709551616
theorem or_low (x y k K : Nat) (hK : 2 ^ k = K) (hx : x % K = 0) (hy : y < K) : x ||| y = x + y := by
  subst hK
  have e : x = 2 ^ k * (x / 2 ^ k) := by have := Nat.div_add_mod x (2 ^ k); omega
  rw [e]
  exact (Nat.two_pow_add_eq_or_of_lt hy (x / 2 ^ k)).symm
theorem lt_byte {b c K : Nat} (hb : b < 256) (hc : 0 < c) (hK : 256 * c = K) : b * c < K := by
  subst hK
  exact (Nat.mul_lt_mul_right hc).2 hb
/-- What is or-ed into word m / 8, when byte m comes to a number whose bytes up to it are 0. -/
theorem or_byte (P b m : Nat) (hb : b < 256) (hm : m < 32) (hP : (256 * P + b) * 256 ^ m < big) :
    wi (P * 256 ^ (m + 1)) (m / 8) ||| (b * 2 ^ (8 * (m % 8))) = wi ((256 * P + b) * 256 ^ m) (m / 8) ∧
    (∀ j, j < 4 → j ≠ m / 8 → wi ((256 * P + b) * 256 ^ m) j = wi (P * 256 ^ (m + 1)) j) := by
  have hm' : m = 0 ∨ m = 1 ∨ m = 2 ∨ m = 3 ∨ m = 4 ∨ m = 5 ∨ m = 6 ∨ m = 7 ∨ m = 8 ∨ m = 9 ∨ m = 10 ∨ m = 11 ∨ m = 12 ∨ m = 13 ∨ m = 14 ∨ m = 15 ∨ m = 16 ∨ m = 17 ∨ m = 18 ∨ m = 19 ∨ m = 20 ∨ m = 21 ∨ m = 22 ∨ m = 23 ∨ m = 24 ∨ m = 25 ∨ m = 26 ∨ m = 27 ∨ m = 28 ∨ m = 29 ∨ m = 30 ∨ m = 31 := by omega
  unfold big at hP
  rcases hm' with rfl | rfl | rfl | rfl | rfl | rfl | rfl | rfl | rfl | rfl | rfl | rfl | rfl | rfl | rfl | rfl | rfl | rfl | rfl | rfl | rfl | rfl | rfl | rfl | rfl | rfl | rfl | rfl | rfl | rfl | rfl | rfl
  · have hP' : (256 * P + b) * 1 < 115792089237316195423570985008687907853269984665640564039457584007913129639936 := hP
    have e1 : P * 256 ^ (0 + 1) = P * 256 := rfl
    have e2 : (256 * P + b) * 256 ^ 0 = (256 * P + b) * 1 := rfl
    rw [e1, e2]
    constructor
    · show (P * 256 / 1 % 18446744073709551616) ||| (b * 1) = ((256 * P + b) * 1 / 1 % 18446744073709551616)
      rw [or_low (P * 256 / 1 % 18446744073709551616) (b * 1) 8 256 rfl (by omega) (lt_byte hb (by decide) rfl)]
      omega
    · intro j hj hne
      have hne' : j ≠ 0 := hne
      have hj' : j = 0 ∨ j = 1 ∨ j = 2 ∨ j = 3 := by omega
      rcases hj' with rfl | rfl | rfl | rfl
      · exact absurd rfl hne'
      · show (256 * P + b) * 1 / 18446744073709551616 % 18446744073709551616 = P * 256 / 18446744073709551616 % 18446744073709551616; omega
      · show (256 * P + b) * 1 / 340282366920938463463374607431768211456 % 18446744073709551616 = P * 256 / 340282366920938463463374607431768211456 % 18446744073709551616; omega
      · show (256 * P + b) * 1 / 6277101735386680763835789423207666416102355444464034512896 % 18446744073709551616 = P * 256 / 6277101735386680763835789423207666416102355444464034512896 % 18446744073709551616; omega
  · have hP' : (256 * P + b) * 256 < 115792089237316195423570985008687907853269984665640564039457584007913129639936 := hP
    have e1 : P * 256 ^ (1 + 1) = P * 65536 := rfl
    have e2 : (256 * P + b) * 256 ^ 1 = (256 * P + b) * 256 := rfl
    rw [e1, e2]
    constructor
    · show (P * 65536 / 1 % 18446744073709551616) ||| (b * 256) = ((256 * P + b) * 256 / 1 % 18446744073709551616)
      rw [or_low (P * 65536 / 1 % 18446744073709551616) (b * 256) 16 65536 rfl (by omega) (lt_byte hb (by decide) rfl)]
      omega
    · intro j hj hne
      have hne' : j ≠ 0 := hne
      have hj' : j = 0 ∨ j = 1 ∨ j = 2 ∨ j = 3 := by omega
      rcases hj' with rfl | rfl | rfl | rfl
      · exact absurd rfl hne'
      · show (256 * P + b) * 256 / 18446744073709551616 % 18446744073709551616 = P * 65536 / 18446744073709551616 % 18446744073709551616; omega
      · show (256 * P + b) * 256 / 340282366920938463463374607431768211456 % 18446744073709551616 = P * 65536 / 340282366920938463463374607431768211456 % 18446744073709551616; omega
      · show (256 * P + b) * 256 / 6277101735386680763835789423207666416102355444464034512896 % 18446744073709551616 = P * 65536 / 6277101735386680763835789423207666416102355444464034512896 % 18446744073709551616; omega
  · have hP' : (256 * P + b) * 65536 < 115792089237316195423570985008687907853269984665640564039457584007913129639936 := hP
    have e1 : P * 256 ^ (2 + 1) = P * 16777216 := rfl
    have e2 : (256 * P + b) * 256 ^ 2 = (256 * P + b) * 65536 := rfl
    rw [e1, e2]
    constructor
    · show (P * 16777216 / 1 % 18446744073709551616) ||| (b * 65536) = ((256 * P + b) * 65536 / 1 % 18446744073709551616)
      rw [or_low (P * 16777216 / 1 % 18446744073709551616) (b * 65536) 24 16777216 rfl (by omega) (lt_byte hb (by decide) rfl)]
      omega
    · intro j hj hne
      have hne' : j ≠ 0 := hne
      have hj' : j = 0 ∨ j = 1 ∨ j = 2 ∨ j = 3 := by omega
      rcases hj' with rfl | rfl | rfl | rfl
      · exact absurd rfl hne'
      · show (256 * P + b) * 65536 / 18446744073709551616 % 18446744073709551616 = P * 16777216 / 18446744073709551616 % 18446744073709551616; omega
      · show (256 * P + b) * 65536 / 340282366920938463463374607431768211456 % 18446744073709551616 = P * 16777216 / 340282366920938463463374607431768211456 % 18446744073709551616; omega
      · show (256 * P + b) * 65536 / 6277101735386680763835789423207666416102355444464034512896 % 18446744073709551616 = P * 16777216 / 6277101735386680763835789423207666416102355444464034512896 % 18446744073709551616; omega
  · have hP' : (256 * P + b) * 16777216 < 115792089237316195423570985008687907853269984665640564039457584007913129639936 := hP
    have e1 : P * 256 ^ (3 + 1) = P * 4294967296 := rfl
    have e2 : (256 * P + b) * 256 ^ 3 = (256 * P + b) * 16777216 := rfl
    rw [e1, e2]
    constructor
    · show (P * 4294967296 / 1 % 18446744073709551616) ||| (b * 16777216) = ((256 * P + b) * 16777216 / 1 % 18446744073709551616)
      rw [or_low (P * 4294967296 / 1 % 18446744073709551616) (b * 16777216) 32 4294967296 rfl (by omega) (lt_byte hb (by decide) rfl)]
      omega
    · intro j hj hne
      have hne' : j ≠ 0 := hne
      have hj' : j = 0 ∨ j = 1 ∨ j = 2 ∨ j = 3 := by omega
      rcases hj' with rfl | rfl | rfl | rfl
      · exact absurd rfl hne'
      · show (256 * P + b) * 16777216 / 18446744073709551616 % 18446744073709551616 = P * 4294967296 / 18446744073709551616 % 18446744073709551616; omega
      · show (256 * P + b) * 16777216 / 340282366920938463463374607431768211456 % 18446744073709551616 = P * 4294967296 / 340282366920938463463374607431768211456 % 18446744073709551616; omega
      · show (256 * P + b) * 16777216 / 6277101735386680763835789423207666416102355444464034512896 % 18446744073709551616 = P * 4294967296 / 6277101735386680763835789423207666416102355444464034512896 % 18446744073709551616; omega
  · have hP' : (256 * P + b) * 4294967296 < 115792089237316195423570985008687907853269984665640564039457584007913129639936 := hP
    have e1 : P * 256 ^ (4 + 1) = P * 1099511627776 := rfl
    have e2 : (256 * P + b) * 256 ^ 4 = (256 * P + b) * 4294967296 := rfl
    rw [e1, e2]
    constructor
    · show (P * 1099511627776 / 1 % 18446744073709551616) ||| (b * 4294967296) = ((256 * P + b) * 4294967296 / 1 % 18446744073709551616)
      rw [or_low (P * 1099511627776 / 1 % 18446744073709551616) (b * 4294967296) 40 1099511627776 rfl (by omega) (lt_byte hb (by decide) rfl)]
      omega
    · intro j hj hne
      have hne' : j ≠ 0 := hne
      have hj' : j = 0 ∨ j = 1 ∨ j = 2 ∨ j = 3 := by omega
      rcases hj' with rfl | rfl | rfl | rfl
      · exact absurd rfl hne'
      · show (256 * P + b) * 4294967296 / 18446744073709551616 % 18446744073709551616 = P * 1099511627776 / 18446744073709551616 % 18446744073709551616; omega
      · show (256 * P + b) * 4294967296 / 340282366920938463463374607431768211456 % 18446744073709551616 = P * 1099511627776 / 340282366920938463463374607431768211456 % 18446744073709551616; omega
      · show (256 * P + b) * 4294967296 / 6277101735386680763835789423207666416102355444464034512896 % 18446744073709551616 = P * 1099511627776 / 6277101735386680763835789423207666416102355444464034512896 % 18446744073709551616; omega
  · have hP' : (256 * P + b) * 1099511627776 < 115792089237316195423570985008687907853269984665640564039457584007913129639936 := hP
    have e1 : P * 256 ^ (5 + 1) = P * 281474976710656 := rfl
    have e2 : (256 * P + b) * 256 ^ 5 = (256 * P + b) * 1099511627776 := rfl
    rw [e1, e2]
    constructor
    · show (P * 281474976710656 / 1 % 18446744073709551616) ||| (b * 1099511627776) = ((256 * P + b) * 1099511627776 / 1 % 18446744073709551616)
      rw [or_low (P * 281474976710656 / 1 % 18446744073709551616) (b * 1099511627776) 48 281474976710656 rfl (by omega) (lt_byte hb (by decide) rfl)]
      omega
    · intro j hj hne
      have hne' : j ≠ 0 := hne
      have hj' : j = 0 ∨ j = 1 ∨ j = 2 ∨ j = 3 := by omega
      rcases hj' with rfl | rfl | rfl | rfl
      · exact absurd rfl hne'
      · show (256 * P + b) * 1099511627776 / 18446744073709551616 % 18446744073709551616 = P * 281474976710656 / 18446744073709551616 % 18446744073709551616; omega
      · show (256 * P + b) * 1099511627776 / 340282366920938463463374607431768211456 % 18446744073709551616 = P * 281474976710656 / 340282366920938463463374607431768211456 % 18446744073709551616; omega
      · show (256 * P + b) * 1099511627776 / 6277101735386680763835789423207666416102355444464034512896 % 18446744073709551616 = P * 281474976710656 / 6277101735386680763835789423207666416102355444464034512896 % 18446744073709551616; omega
  · have hP' : (256 * P + b) * 281474976710656 < 115792089237316195423570985008687907853269984665640564039457584007913129639936 := hP
    have e1 : P * 256 ^ (6 + 1) = P * 72057594037927936 := rfl
    have e2 : (256 * P + b) * 256 ^ 6 = (256 * P + b) * 281474976710656 := rfl
    rw [e1, e2]
    constructor
    · show (P * 72057594037927936 / 1 % 18446744073709551616) ||| (b * 281474976710656) = ((256 * P + b) * 281474976710656 / 1 % 18446744073709551616)
      rw [or_low (P * 72057594037927936 / 1 % 18446744073709551616) (b * 281474976710656) 56 72057594037927936 rfl (by omega) (lt_byte hb (by decide) rfl)]
      omega
    · intro j hj hne
      have hne' : j ≠ 0 := hne
      have hj' : j = 0 ∨ j = 1 ∨ j = 2 ∨ j = 3 := by omega
      rcases hj' with rfl | rfl | rfl | rfl
      · exact absurd rfl hne'
      · show (256 * P + b) * 281474976710656 / 18446744073709551616 % 18446744073709551616 = P * 72057594037927936 / 18446744073709551616 % 18446744073709551616; omega
      · show (256 * P + b) * 281474976710656 / 340282366920938463463374607431768211456 % 18446744073709551616 = P * 72057594037927936 / 340282366920938463463374607431768211456 % 18446744073709551616; omega
      · show (256 * P + b) * 281474976710656 / 6277101735386680763835789423207666416102355444464034512896 % 18446744073709551616 = P * 72057594037927936 / 6277101735386680763835789423207666416102355444464034512896 % 18446744073709551616; omega
  · have hP' : (256 * P + b) * 72057594037927936 < 115792089237316195423570985008687907853269984665640564039457584007913129639936 := hP
    have e1 : P * 256 ^ (7 + 1) = P * 18446744073709551616 := rfl
    have e2 : (256 * P + b) * 256 ^ 7 = (256 * P + b) * 72057594037927936 := rfl
    rw [e1, e2]
    constructor
    · show (P * 18446744073709551616 / 1 % 18446744073709551616) ||| (b * 72057594037927936) = ((256 * P + b) * 72057594037927936 / 1 % 18446744073709551616)
      rw [or_low (P * 18446744073709551616 / 1 % 18446744073709551616) (b * 72057594037927936) 64 18446744073709551616 rfl (by omega) (lt_byte hb (by decide) rfl)]
      omega
    · intro j hj hne
      have hne' : j ≠ 0 := hne
      have hj' : j = 0 ∨ j = 1 ∨ j = 2 ∨ j = 3 := by omega
      rcases hj' with rfl | rfl | rfl | rfl
      · exact absurd rfl hne'
      · show (256 * P + b) * 72057594037927936 / 18446744073709551616 % 18446744073709551616 = P * 18446744073709551616 / 18446744073709551616 % 18446744073709551616; omega
      · show (256 * P + b) * 72057594037927936 / 340282366920938463463374607431768211456 % 18446744073709551616 = P * 18446744073709551616 / 340282366920938463463374607431768211456 % 18446744073709551616; omega
      · show (256 * P + b) * 72057594037927936 / 6277101735386680763835789423207666416102355444464034512896 % 18446744073709551616 = P * 18446744073709551616 / 6277101735386680763835789423207666416102355444464034512896 % 18446744073709551616; omega
  · have hP' : (256 * P + b) * 18446744073709551616 < 115792089237316195423570985008687907853269984665640564039457584007913129639936 := hP
    have e1 : P * 256 ^ (8 + 1) = P * 4722366482869645213696 := rfl
    have e2 : (256 * P + b) * 256 ^ 8 = (256 * P + b) * 18446744073709551616 := rfl
    rw [e1, e2]
    constructor
    · show (P * 4722366482869645213696 / 18446744073709551616 % 18446744073709551616) ||| (b * 1) = ((256 * P + b) * 18446744073709551616 / 18446744073709551616 % 18446744073709551616)
      rw [or_low (P * 4722366482869645213696 / 18446744073709551616 % 18446744073709551616) (b * 1) 8 256 rfl (by omega) (lt_byte hb (by decide) rfl)]
      omega
    · intro j hj hne
      have hne' : j ≠ 1 := hne
      have hj' : j = 0 ∨ j = 1 ∨ j = 2 ∨ j = 3 := by omega
      rcases hj' with rfl | rfl | rfl | rfl
      · show (256 * P + b) * 18446744073709551616 / 1 % 18446744073709551616 = P * 4722366482869645213696 / 1 % 18446744073709551616; omega
      · exact absurd rfl hne'
      · show (256 * P + b) * 18446744073709551616 / 340282366920938463463374607431768211456 % 18446744073709551616 = P * 4722366482869645213696 / 340282366920938463463374607431768211456 % 18446744073709551616; omega
      · show (256 * P + b) * 18446744073709551616 / 6277101735386680763835789423207666416102355444464034512896 % 18446744073709551616 = P * 4722366482869645213696 / 6277101735386680763835789423207666416102355444464034512896 % 18446744073709551616; omega
  · have hP' : (256 * P + b) * 4722366482869645213696 < 115792089237316195423570985008687907853269984665640564039457584007913129639936 := hP
    have e1 : P * 256 ^ (9 + 1) = P * 1208925819614629174706176 := rfl
    have e2 : (256 * P + b) * 256 ^ 9 = (256 * P + b) * 4722366482869645213696 := rfl
    rw [e1, e2]
    constructor
    · show (P * 1208925819614629174706176 / 18446744073709551616 % 18446744073709551616) ||| (b * 256) = ((256 * P + b) * 4722366482869645213696 / 18446744073709551616 % 18446744073709551616)
      rw [or_low (P * 1208925819614629174706176 / 18446744073709551616 % 18446744073709551616) (b * 256) 16 65536 rfl (by omega) (lt_byte hb (by decide) rfl)]
      omega
    · intro j hj hne
      have hne' : j ≠ 1 := hne
      have hj' : j = 0 ∨ j = 1 ∨ j = 2 ∨ j = 3 := by omega
      rcases hj' with rfl | rfl | rfl | rfl
      · show (256 * P + b) * 4722366482869645213696 / 1 % 18446744073709551616 = P * 1208925819614629174706176 / 1 % 18446744073709551616; omega
      · exact absurd rfl hne'
      · show (256 * P + b) * 4722366482869645213696 / 340282366920938463463374607431768211456 % 18446744073709551616 = P * 1208925819614629174706176 / 340282366920938463463374607431768211456 % 18446744073709551616; omega
      · show (256 * P + b) * 4722366482869645213696 / 6277101735386680763835789423207666416102355444464034512896 % 18446744073709551616 = P * 1208925819614629174706176 / 6277101735386680763835789423207666416102355444464034512896 % 18446744073709551616; omega
  · have hP' : (256 * P + b) * 1208925819614629174706176 < 115792089237316195423570985008687907853269984665640564039457584007913129639936 := hP
    have e1 : P * 256 ^ (10 + 1) = P * 309485009821345068724781056 := rfl
    have e2 : (256 * P + b) * 256 ^ 10 = (256 * P + b) * 1208925819614629174706176 := rfl
    rw [e1, e2]
    constructor
    · show (P * 309485009821345068724781056 / 18446744073709551616 % 18446744073709551616) ||| (b * 65536) = ((256 * P + b) * 1208925819614629174706176 / 18446744073709551616 % 18446744073709551616)
      rw [or_low (P * 309485009821345068724781056 / 18446744073709551616 % 18446744073709551616) (b * 65536) 24 16777216 rfl (by omega) (lt_byte hb (by decide) rfl)]
      omega
    · intro j hj hne
      have hne' : j ≠ 1 := hne
      have hj' : j = 0 ∨ j = 1 ∨ j = 2 ∨ j = 3 := by omega
      rcases hj' with rfl | rfl | rfl | rfl
      · show (256 * P + b) * 1208925819614629174706176 / 1 % 18446744073709551616 = P * 309485009821345068724781056 / 1 % 18446744073709551616; omega
      · exact absurd rfl hne'
      · show (256 * P + b) * 1208925819614629174706176 / 340282366920938463463374607431768211456 % 18446744073709551616 = P * 309485009821345068724781056 / 340282366920938463463374607431768211456 % 18446744073709551616; omega
      · show (256 * P + b) * 1208925819614629174706176 / 6277101735386680763835789423207666416102355444464034512896 % 18446744073709551616 = P * 309485009821345068724781056 / 6277101735386680763835789423207666416102355444464034512896 % 18446744073709551616; omega
  · have hP' : (256 * P + b) * 309485009821345068724781056 < 115792089237316195423570985008687907853269984665640564039457584007913129639936 := hP
    have e1 : P * 256 ^ (11 + 1) = P * 79228162514264337593543950336 := rfl
    have e2 : (256 * P + b) * 256 ^ 11 = (256 * P + b) * 309485009821345068724781056 := rfl
    rw [e1, e2]
    constructor
    · show (P * 79228162514264337593543950336 / 18446744073709551616 % 18446744073709551616) ||| (b * 16777216) = ((256 * P + b) * 309485009821345068724781056 / 18446744073709551616 % 18446744073709551616)
      rw [or_low (P * 79228162514264337593543950336 / 18446744073709551616 % 18446744073709551616) (b * 16777216) 32 4294967296 rfl (by omega) (lt_byte hb (by decide) rfl)]
      omega
    · intro j hj hne
      have hne' : j ≠ 1 := hne
      have hj' : j = 0 ∨ j = 1 ∨ j = 2 ∨ j = 3 := by omega
      rcases hj' with rfl | rfl | rfl | rfl
      · show (256 * P + b) * 309485009821345068724781056 / 1 % 18446744073709551616 = P * 79228162514264337593543950336 / 1 % 18446744073709551616; omega
      · exact absurd rfl hne'
      · show (256 * P + b) * 309485009821345068724781056 / 340282366920938463463374607431768211456 % 18446744073709551616 = P * 79228162514264337593543950336 / 340282366920938463463374607431768211456 % 18446744073709551616; omega
      · show (256 * P + b) * 309485009821345068724781056 / 6277101735386680763835789423207666416102355444464034512896 % 18446744073709551616 = P * 79228162514264337593543950336 / 6277101735386680763835789423207666416102355444464034512896 % 18446744073709551616; omega
  · have hP' : (256 * P + b) * 79228162514264337593543950336 < 115792089237316195423570985008687907853269984665640564039457584007913129639936 := hP
    have e1 : P * 256 ^ (12 + 1) = P * 20282409603651670423947251286016 := rfl
    have e2 : (256 * P + b) * 256 ^ 12 = (256 * P + b) * 79228162514264337593543950336 := rfl
    rw [e1, e2]
    constructor
    · show (P * 20282409603651670423947251286016 / 18446744073709551616 % 18446744073709551616) ||| (b * 4294967296) = ((256 * P + b) * 79228162514264337593543950336 / 18446744073709551616 % 18446744073709551616)
      rw [or_low (P * 20282409603651670423947251286016 / 18446744073709551616 % 18446744073709551616) (b * 4294967296) 40 1099511627776 rfl (by omega) (lt_byte hb (by decide) rfl)]
      omega
    · intro j hj hne
      have hne' : j ≠ 1 := hne
      have hj' : j = 0 ∨ j = 1 ∨ j = 2 ∨ j = 3 := by omega
      rcases hj' with rfl | rfl | rfl | rfl
      · show (256 * P + b) * 79228162514264337593543950336 / 1 % 18446744073709551616 = P * 20282409603651670423947251286016 / 1 % 18446744073709551616; omega
      · exact absurd rfl hne'
      · show (256 * P + b) * 79228162514264337593543950336 / 340282366920938463463374607431768211456 % 18446744073709551616 = P * 20282409603651670423947251286016 / 340282366920938463463374607431768211456 % 18446744073709551616; omega
      · show (256 * P + b) * 79228162514264337593543950336 / 6277101735386680763835789423207666416102355444464034512896 % 18446744073709551616 = P * 20282409603651670423947251286016 / 6277101735386680763835789423207666416102355444464034512896 % 18446744073709551616; omega
  · have hP' : (256 * P + b) * 20282409603651670423947251286016 < 115792089237316195423570985008687907853269984665640564039457584007913129639936 := hP
    have e1 : P * 256 ^ (13 + 1) = P * 5192296858534827628530496329220096 := rfl
    have e2 : (256 * P + b) * 256 ^ 13 = (256 * P + b) * 20282409603651670423947251286016 := rfl
    rw [e1, e2]
    constructor
    · show (P * 5192296858534827628530496329220096 / 18446744073709551616 % 18446744073709551616) ||| (b * 1099511627776) = ((256 * P + b) * 20282409603651670423947251286016 / 18446744073709551616 % 18446744073709551616)
      rw [or_low (P * 5192296858534827628530496329220096 / 18446744073709551616 % 18446744073709551616) (b * 1099511627776) 48 281474976710656 rfl (by omega) (lt_byte hb (by decide) rfl)]
      omega
    · intro j hj hne
      have hne' : j ≠ 1 := hne
      have hj' : j = 0 ∨ j = 1 ∨ j = 2 ∨ j = 3 := by omega
      rcases hj' with rfl | rfl | rfl | rfl
      · show (256 * P + b) * 20282409603651670423947251286016 / 1 % 18446744073709551616 = P * 5192296858534827628530496329220096 / 1 % 18446744073709551616; omega
      · exact absurd rfl hne'
      · show (256 * P + b) * 20282409603651670423947251286016 / 340282366920938463463374607431768211456 % 18446744073709551616 = P * 5192296858534827628530496329220096 / 340282366920938463463374607431768211456 % 18446744073709551616; omega
      · show (256 * P + b) * 20282409603651670423947251286016 / 6277101735386680763835789423207666416102355444464034512896 % 18446744073709551616 = P * 5192296858534827628530496329220096 / 6277101735386680763835789423207666416102355444464034512896 % 18446744073709551616; omega
  · have hP' : (256 * P + b) * 5192296858534827628530496329220096 < 115792089237316195423570985008687907853269984665640564039457584007913129639936 := hP
    have e1 : P * 256 ^ (14 + 1) = P * 1329227995784915872903807060280344576 := rfl
    have e2 : (256 * P + b) * 256 ^ 14 = (256 * P + b) * 5192296858534827628530496329220096 := rfl
    rw [e1, e2]
    constructor
    · show (P * 1329227995784915872903807060280344576 / 18446744073709551616 % 18446744073709551616) ||| (b * 281474976710656) = ((256 * P + b) * 5192296858534827628530496329220096 / 18446744073709551616 % 18446744073709551616)
      rw [or_low (P * 1329227995784915872903807060280344576 / 18446744073709551616 % 18446744073709551616) (b * 281474976710656) 56 72057594037927936 rfl (by omega) (lt_byte hb (by decide) rfl)]
      omega
    · intro j hj hne
      have hne' : j ≠ 1 := hne
      have hj' : j = 0 ∨ j = 1 ∨ j = 2 ∨ j = 3 := by omega
      rcases hj' with rfl | rfl | rfl | rfl
      · show (256 * P + b) * 5192296858534827628530496329220096 / 1 % 18446744073709551616 = P * 1329227995784915872903807060280344576 / 1 % 18446744073709551616; omega
      · exact absurd rfl hne'
      · show (256 * P + b) * 5192296858534827628530496329220096 / 340282366920938463463374607431768211456 % 18446744073709551616 = P * 1329227995784915872903807060280344576 / 340282366920938463463374607431768211456 % 18446744073709551616; omega
      · show (256 * P + b) * 5192296858534827628530496329220096 / 6277101735386680763835789423207666416102355444464034512896 % 18446744073709551616 = P * 1329227995784915872903807060280344576 / 6277101735386680763835789423207666416102355444464034512896 % 18446744073709551616; omega
  · have hP' : (256 * P + b) * 1329227995784915872903807060280344576 < 115792089237316195423570985008687907853269984665640564039457584007913129639936 := hP
    have e1 : P * 256 ^ (15 + 1) = P * 340282366920938463463374607431768211456 := rfl
    have e2 : (256 * P + b) * 256 ^ 15 = (256 * P + b) * 1329227995784915872903807060280344576 := rfl
    rw [e1, e2]
    constructor
    · show (P * 340282366920938463463374607431768211456 / 18446744073709551616 % 18446744073709551616) ||| (b * 72057594037927936) = ((256 * P + b) * 1329227995784915872903807060280344576 / 18446744073709551616 % 18446744073709551616)
      rw [or_low (P * 340282366920938463463374607431768211456 / 18446744073709551616 % 18446744073709551616) (b * 72057594037927936) 64 18446744073709551616 rfl (by omega) (lt_byte hb (by decide) rfl)]
      omega
    · intro j hj hne
      have hne' : j ≠ 1 := hne
      have hj' : j = 0 ∨ j = 1 ∨ j = 2 ∨ j = 3 := by omega
      rcases hj' with rfl | rfl | rfl | rfl
      · show (256 * P + b) * 1329227995784915872903807060280344576 / 1 % 18446744073709551616 = P * 340282366920938463463374607431768211456 / 1 % 18446744073709551616; omega
      · exact absurd rfl hne'
      · show (256 * P + b) * 1329227995784915872903807060280344576 / 340282366920938463463374607431768211456 % 18446744073709551616 = P * 340282366920938463463374607431768211456 / 340282366920938463463374607431768211456 % 18446744073709551616; omega
      · show (256 * P + b) * 1329227995784915872903807060280344576 / 6277101735386680763835789423207666416102355444464034512896 % 18446744073709551616 = P * 340282366920938463463374607431768211456 / 6277101735386680763835789423207666416102355444464034512896 % 18446744073709551616; omega
  · have hP' : (256 * P + b) * 340282366920938463463374607431768211456 < 115792089237316195423570985008687907853269984665640564039457584007913129639936 := hP
    have e1 : P * 256 ^ (16 + 1) = P * 87112285931760246646623899502532662132736 := rfl
    have e2 : (256 * P + b) * 256 ^ 16 = (256 * P + b) * 340282366920938463463374607431768211456 := rfl
    rw [e1, e2]
    constructor
    · show (P * 87112285931760246646623899502532662132736 / 340282366920938463463374607431768211456 % 18446744073709551616) ||| (b * 1) = ((256 * P + b) * 340282366920938463463374607431768211456 / 340282366920938463463374607431768211456 % 18446744073709551616)
      rw [or_low (P * 87112285931760246646623899502532662132736 / 340282366920938463463374607431768211456 % 18446744073709551616) (b * 1) 8 256 rfl (by omega) (lt_byte hb (by decide) rfl)]
      omega
    · intro j hj hne
      have hne' : j ≠ 2 := hne
      have hj' : j = 0 ∨ j = 1 ∨ j = 2 ∨ j = 3 := by omega
      rcases hj' with rfl | rfl | rfl | rfl
      · show (256 * P + b) * 340282366920938463463374607431768211456 / 1 % 18446744073709551616 = P * 87112285931760246646623899502532662132736 / 1 % 18446744073709551616; omega
      · show (256 * P + b) * 340282366920938463463374607431768211456 / 18446744073709551616 % 18446744073709551616 = P * 87112285931760246646623899502532662132736 / 18446744073709551616 % 18446744073709551616; omega
      · exact absurd rfl hne'
      · show (256 * P + b) * 340282366920938463463374607431768211456 / 6277101735386680763835789423207666416102355444464034512896 % 18446744073709551616 = P * 87112285931760246646623899502532662132736 / 6277101735386680763835789423207666416102355444464034512896 % 18446744073709551616; omega
  · have hP' : (256 * P + b) * 87112285931760246646623899502532662132736 < 115792089237316195423570985008687907853269984665640564039457584007913129639936 := hP
    have e1 : P * 256 ^ (17 + 1) = P * 22300745198530623141535718272648361505980416 := rfl
    have e2 : (256 * P + b) * 256 ^ 17 = (256 * P + b) * 87112285931760246646623899502532662132736 := rfl
    rw [e1, e2]
    constructor
    · show (P * 22300745198530623141535718272648361505980416 / 340282366920938463463374607431768211456 % 18446744073709551616) ||| (b * 256) = ((256 * P + b) * 87112285931760246646623899502532662132736 / 340282366920938463463374607431768211456 % 18446744073709551616)
      rw [or_low (P * 22300745198530623141535718272648361505980416 / 340282366920938463463374607431768211456 % 18446744073709551616) (b * 256) 16 65536 rfl (by omega) (lt_byte hb (by decide) rfl)]
      omega
    · intro j hj hne
      have hne' : j ≠ 2 := hne
      have hj' : j = 0 ∨ j = 1 ∨ j = 2 ∨ j = 3 := by omega
      rcases hj' with rfl | rfl | rfl | rfl
      · show (256 * P + b) * 87112285931760246646623899502532662132736 / 1 % 18446744073709551616 = P * 22300745198530623141535718272648361505980416 / 1 % 18446744073709551616; omega
      · show (256 * P + b) * 87112285931760246646623899502532662132736 / 18446744073709551616 % 18446744073709551616 = P * 22300745198530623141535718272648361505980416 / 18446744073709551616 % 18446744073709551616; omega
      · exact absurd rfl hne'
      · show (256 * P + b) * 87112285931760246646623899502532662132736 / 6277101735386680763835789423207666416102355444464034512896 % 18446744073709551616 = P * 22300745198530623141535718272648361505980416 / 6277101735386680763835789423207666416102355444464034512896 % 18446744073709551616; omega
  · have hP' : (256 * P + b) * 22300745198530623141535718272648361505980416 < 115792089237316195423570985008687907853269984665640564039457584007913129639936 := hP
    have e1 : P * 256 ^ (18 + 1) = P * 5708990770823839524233143877797980545530986496 := rfl
    have e2 : (256 * P + b) * 256 ^ 18 = (256 * P + b) * 22300745198530623141535718272648361505980416 := rfl
    rw [e1, e2]
    constructor
    · show (P * 5708990770823839524233143877797980545530986496 / 340282366920938463463374607431768211456 % 18446744073709551616) ||| (b * 65536) = ((256 * P + b) * 22300745198530623141535718272648361505980416 / 340282366920938463463374607431768211456 % 18446744073709551616)
      rw [or_low (P * 5708990770823839524233143877797980545530986496 / 340282366920938463463374607431768211456 % 18446744073709551616) (b * 65536) 24 16777216 rfl (by omega) (lt_byte hb (by decide) rfl)]
      omega
    · intro j hj hne
      have hne' : j ≠ 2 := hne
      have hj' : j = 0 ∨ j = 1 ∨ j = 2 ∨ j = 3 := by omega
      rcases hj' with rfl | rfl | rfl | rfl
      · show (256 * P + b) * 22300745198530623141535718272648361505980416 / 1 % 18446744073709551616 = P * 5708990770823839524233143877797980545530986496 / 1 % 18446744073709551616; omega
      · show (256 * P + b) * 22300745198530623141535718272648361505980416 / 18446744073709551616 % 18446744073709551616 = P * 5708990770823839524233143877797980545530986496 / 18446744073709551616 % 18446744073709551616; omega
      · exact absurd rfl hne'
      · show (256 * P + b) * 22300745198530623141535718272648361505980416 / 6277101735386680763835789423207666416102355444464034512896 % 18446744073709551616 = P * 5708990770823839524233143877797980545530986496 / 6277101735386680763835789423207666416102355444464034512896 % 18446744073709551616; omega
  · have hP' : (256 * P + b) * 5708990770823839524233143877797980545530986496 < 115792089237316195423570985008687907853269984665640564039457584007913129639936 := hP
    have e1 : P * 256 ^ (19 + 1) = P * 1461501637330902918203684832716283019655932542976 := rfl
    have e2 : (256 * P + b) * 256 ^ 19 = (256 * P + b) * 5708990770823839524233143877797980545530986496 := rfl
    rw [e1, e2]
    constructor
    · show (P * 1461501637330902918203684832716283019655932542976 / 340282366920938463463374607431768211456 % 18446744073709551616) ||| (b * 16777216) = ((256 * P + b) * 5708990770823839524233143877797980545530986496 / 340282366920938463463374607431768211456 % 18446744073709551616)
      rw [or_low (P * 1461501637330902918203684832716283019655932542976 / 340282366920938463463374607431768211456 % 18446744073709551616) (b * 16777216) 32 4294967296 rfl (by omega) (lt_byte hb (by decide) rfl)]
      omega
    · intro j hj hne
      have hne' : j ≠ 2 := hne
      have hj' : j = 0 ∨ j = 1 ∨ j = 2 ∨ j = 3 := by omega
      rcases hj' with rfl | rfl | rfl | rfl
      · show (256 * P + b) * 5708990770823839524233143877797980545530986496 / 1 % 18446744073709551616 = P * 1461501637330902918203684832716283019655932542976 / 1 % 18446744073709551616; omega
      · show (256 * P + b) * 5708990770823839524233143877797980545530986496 / 18446744073709551616 % 18446744073709551616 = P * 1461501637330902918203684832716283019655932542976 / 18446744073709551616 % 18446744073709551616; omega
      · exact absurd rfl hne'
      · show (256 * P + b) * 5708990770823839524233143877797980545530986496 / 6277101735386680763835789423207666416102355444464034512896 % 18446744073709551616 = P * 1461501637330902918203684832716283019655932542976 / 6277101735386680763835789423207666416102355444464034512896 % 18446744073709551616; omega
  · have hP' : (256 * P + b) * 1461501637330902918203684832716283019655932542976 < 115792089237316195423570985008687907853269984665640564039457584007913129639936 := hP
    have e1 : P * 256 ^ (20 + 1) = P * 374144419156711147060143317175368453031918731001856 := rfl
    have e2 : (256 * P + b) * 256 ^ 20 = (256 * P + b) * 1461501637330902918203684832716283019655932542976 := rfl
    rw [e1, e2]
    constructor
    · show (P * 374144419156711147060143317175368453031918731001856 / 340282366920938463463374607431768211456 % 18446744073709551616) ||| (b * 4294967296) = ((256 * P + b) * 1461501637330902918203684832716283019655932542976 / 340282366920938463463374607431768211456 % 18446744073709551616)
      rw [or_low (P * 374144419156711147060143317175368453031918731001856 / 340282366920938463463374607431768211456 % 18446744073709551616) (b * 4294967296) 40 1099511627776 rfl (by omega) (lt_byte hb (by decide) rfl)]
      omega
    · intro j hj hne
      have hne' : j ≠ 2 := hne
      have hj' : j = 0 ∨ j = 1 ∨ j = 2 ∨ j = 3 := by omega
      rcases hj' with rfl | rfl | rfl | rfl
      · show (256 * P + b) * 1461501637330902918203684832716283019655932542976 / 1 % 18446744073709551616 = P * 374144419156711147060143317175368453031918731001856 / 1 % 18446744073709551616; omega
      · show (256 * P + b) * 1461501637330902918203684832716283019655932542976 / 18446744073709551616 % 18446744073709551616 = P * 374144419156711147060143317175368453031918731001856 / 18446744073709551616 % 18446744073709551616; omega
      · exact absurd rfl hne'
      · show (256 * P + b) * 1461501637330902918203684832716283019655932542976 / 6277101735386680763835789423207666416102355444464034512896 % 18446744073709551616 = P * 374144419156711147060143317175368453031918731001856 / 6277101735386680763835789423207666416102355444464034512896 % 18446744073709551616; omega
  · have hP' : (256 * P + b) * 374144419156711147060143317175368453031918731001856 < 115792089237316195423570985008687907853269984665640564039457584007913129639936 := hP
    have e1 : P * 256 ^ (21 + 1) = P * 95780971304118053647396689196894323976171195136475136 := rfl
    have e2 : (256 * P + b) * 256 ^ 21 = (256 * P + b) * 374144419156711147060143317175368453031918731001856 := rfl
    rw [e1, e2]
    constructor
    · show (P * 95780971304118053647396689196894323976171195136475136 / 340282366920938463463374607431768211456 % 18446744073709551616) ||| (b * 1099511627776) = ((256 * P + b) * 374144419156711147060143317175368453031918731001856 / 340282366920938463463374607431768211456 % 18446744073709551616)
      rw [or_low (P * 95780971304118053647396689196894323976171195136475136 / 340282366920938463463374607431768211456 % 18446744073709551616) (b * 1099511627776) 48 281474976710656 rfl (by omega) (lt_byte hb (by decide) rfl)]
      omega
    · intro j hj hne
      have hne' : j ≠ 2 := hne
      have hj' : j = 0 ∨ j = 1 ∨ j = 2 ∨ j = 3 := by omega
      rcases hj' with rfl | rfl | rfl | rfl
      · show (256 * P + b) * 374144419156711147060143317175368453031918731001856 / 1 % 18446744073709551616 = P * 95780971304118053647396689196894323976171195136475136 / 1 % 18446744073709551616; omega
      · show (256 * P + b) * 374144419156711147060143317175368453031918731001856 / 18446744073709551616 % 18446744073709551616 = P * 95780971304118053647396689196894323976171195136475136 / 18446744073709551616 % 18446744073709551616; omega
      · exact absurd rfl hne'
      · show (256 * P + b) * 374144419156711147060143317175368453031918731001856 / 6277101735386680763835789423207666416102355444464034512896 % 18446744073709551616 = P * 95780971304118053647396689196894323976171195136475136 / 6277101735386680763835789423207666416102355444464034512896 % 18446744073709551616; omega
  · have hP' : (256 * P + b) * 95780971304118053647396689196894323976171195136475136 < 115792089237316195423570985008687907853269984665640564039457584007913129639936 := hP
    have e1 : P * 256 ^ (22 + 1) = P * 24519928653854221733733552434404946937899825954937634816 := rfl
    have e2 : (256 * P + b) * 256 ^ 22 = (256 * P + b) * 95780971304118053647396689196894323976171195136475136 := rfl
    rw [e1, e2]
    constructor
    · show (P * 24519928653854221733733552434404946937899825954937634816 / 340282366920938463463374607431768211456 % 18446744073709551616) ||| (b * 281474976710656) = ((256 * P + b) * 95780971304118053647396689196894323976171195136475136 / 340282366920938463463374607431768211456 % 18446744073709551616)
      rw [or_low (P * 24519928653854221733733552434404946937899825954937634816 / 340282366920938463463374607431768211456 % 18446744073709551616) (b * 281474976710656) 56 72057594037927936 rfl (by omega) (lt_byte hb (by decide) rfl)]
      omega
    · intro j hj hne
      have hne' : j ≠ 2 := hne
      have hj' : j = 0 ∨ j = 1 ∨ j = 2 ∨ j = 3 := by omega
      rcases hj' with rfl | rfl | rfl | rfl
      · show (256 * P + b) * 95780971304118053647396689196894323976171195136475136 / 1 % 18446744073709551616 = P * 24519928653854221733733552434404946937899825954937634816 / 1 % 18446744073709551616; omega
      · show (256 * P + b) * 95780971304118053647396689196894323976171195136475136 / 18446744073709551616 % 18446744073709551616 = P * 24519928653854221733733552434404946937899825954937634816 / 18446744073709551616 % 18446744073709551616; omega
      · exact absurd rfl hne'
      · show (256 * P + b) * 95780971304118053647396689196894323976171195136475136 / 6277101735386680763835789423207666416102355444464034512896 % 18446744073709551616 = P * 24519928653854221733733552434404946937899825954937634816 / 6277101735386680763835789423207666416102355444464034512896 % 18446744073709551616; omega
  · have hP' : (256 * P + b) * 24519928653854221733733552434404946937899825954937634816 < 115792089237316195423570985008687907853269984665640564039457584007913129639936 := hP
    have e1 : P * 256 ^ (23 + 1) = P * 6277101735386680763835789423207666416102355444464034512896 := rfl
    have e2 : (256 * P + b) * 256 ^ 23 = (256 * P + b) * 24519928653854221733733552434404946937899825954937634816 := rfl
    rw [e1, e2]
    constructor
    · show (P * 6277101735386680763835789423207666416102355444464034512896 / 340282366920938463463374607431768211456 % 18446744073709551616) ||| (b * 72057594037927936) = ((256 * P + b) * 24519928653854221733733552434404946937899825954937634816 / 340282366920938463463374607431768211456 % 18446744073709551616)
      rw [or_low (P * 6277101735386680763835789423207666416102355444464034512896 / 340282366920938463463374607431768211456 % 18446744073709551616) (b * 72057594037927936) 64 18446744073709551616 rfl (by omega) (lt_byte hb (by decide) rfl)]
      omega
    · intro j hj hne
      have hne' : j ≠ 2 := hne
      have hj' : j = 0 ∨ j = 1 ∨ j = 2 ∨ j = 3 := by omega
      rcases hj' with rfl | rfl | rfl | rfl
      · show (256 * P + b) * 24519928653854221733733552434404946937899825954937634816 / 1 % 18446744073709551616 = P * 6277101735386680763835789423207666416102355444464034512896 / 1 % 18446744073709551616; omega
      · show (256 * P + b) * 24519928653854221733733552434404946937899825954937634816 / 18446744073709551616 % 18446744073709551616 = P * 6277101735386680763835789423207666416102355444464034512896 / 18446744073709551616 % 18446744073709551616; omega
      · exact absurd rfl hne'
      · show (256 * P + b) * 24519928653854221733733552434404946937899825954937634816 / 6277101735386680763835789423207666416102355444464034512896 % 18446744073709551616 = P * 6277101735386680763835789423207666416102355444464034512896 / 6277101735386680763835789423207666416102355444464034512896 % 18446744073709551616; omega
  · have hP' : (256 * P + b) * 6277101735386680763835789423207666416102355444464034512896 < 115792089237316195423570985008687907853269984665640564039457584007913129639936 := hP
    have e1 : P * 256 ^ (24 + 1) = P * 1606938044258990275541962092341162602522202993782792835301376 := rfl
    have e2 : (256 * P + b) * 256 ^ 24 = (256 * P + b) * 6277101735386680763835789423207666416102355444464034512896 := rfl
    rw [e1, e2]
    constructor
    · show (P * 1606938044258990275541962092341162602522202993782792835301376 / 6277101735386680763835789423207666416102355444464034512896 % 18446744073709551616) ||| (b * 1) = ((256 * P + b) * 6277101735386680763835789423207666416102355444464034512896 / 6277101735386680763835789423207666416102355444464034512896 % 18446744073709551616)
      rw [or_low (P * 1606938044258990275541962092341162602522202993782792835301376 / 6277101735386680763835789423207666416102355444464034512896 % 18446744073709551616) (b * 1) 8 256 rfl (by omega) (lt_byte hb (by decide) rfl)]
      omega
    · intro j hj hne
      have hne' : j ≠ 3 := hne
      have hj' : j = 0 ∨ j = 1 ∨ j = 2 ∨ j = 3 := by omega
      rcases hj' with rfl | rfl | rfl | rfl
      · show (256 * P + b) * 6277101735386680763835789423207666416102355444464034512896 / 1 % 18446744073709551616 = P * 1606938044258990275541962092341162602522202993782792835301376 / 1 % 18446744073709551616; omega
      · show (256 * P + b) * 6277101735386680763835789423207666416102355444464034512896 / 18446744073709551616 % 18446744073709551616 = P * 1606938044258990275541962092341162602522202993782792835301376 / 18446744073709551616 % 18446744073709551616; omega
      · show (256 * P + b) * 6277101735386680763835789423207666416102355444464034512896 / 340282366920938463463374607431768211456 % 18446744073709551616 = P * 1606938044258990275541962092341162602522202993782792835301376 / 340282366920938463463374607431768211456 % 18446744073709551616; omega
      · exact absurd rfl hne'
  · have hP' : (256 * P + b) * 1606938044258990275541962092341162602522202993782792835301376 < 115792089237316195423570985008687907853269984665640564039457584007913129639936 := hP
    have e1 : P * 256 ^ (25 + 1) = P * 411376139330301510538742295639337626245683966408394965837152256 := rfl
    have e2 : (256 * P + b) * 256 ^ 25 = (256 * P + b) * 1606938044258990275541962092341162602522202993782792835301376 := rfl
    rw [e1, e2]
    constructor
    · show (P * 411376139330301510538742295639337626245683966408394965837152256 / 6277101735386680763835789423207666416102355444464034512896 % 18446744073709551616) ||| (b * 256) = ((256 * P + b) * 1606938044258990275541962092341162602522202993782792835301376 / 6277101735386680763835789423207666416102355444464034512896 % 18446744073709551616)
      rw [or_low (P * 411376139330301510538742295639337626245683966408394965837152256 / 6277101735386680763835789423207666416102355444464034512896 % 18446744073709551616) (b * 256) 16 65536 rfl (by omega) (lt_byte hb (by decide) rfl)]
      omega
    · intro j hj hne
      have hne' : j ≠ 3 := hne
      have hj' : j = 0 ∨ j = 1 ∨ j = 2 ∨ j = 3 := by omega
      rcases hj' with rfl | rfl | rfl | rfl
      · show (256 * P + b) * 1606938044258990275541962092341162602522202993782792835301376 / 1 % 18446744073709551616 = P * 411376139330301510538742295639337626245683966408394965837152256 / 1 % 18446744073709551616; omega
      · show (256 * P + b) * 1606938044258990275541962092341162602522202993782792835301376 / 18446744073709551616 % 18446744073709551616 = P * 411376139330301510538742295639337626245683966408394965837152256 / 18446744073709551616 % 18446744073709551616; omega
      · show (256 * P + b) * 1606938044258990275541962092341162602522202993782792835301376 / 340282366920938463463374607431768211456 % 18446744073709551616 = P * 411376139330301510538742295639337626245683966408394965837152256 / 340282366920938463463374607431768211456 % 18446744073709551616; omega
      · exact absurd rfl hne'
  · have hP' : (256 * P + b) * 411376139330301510538742295639337626245683966408394965837152256 < 115792089237316195423570985008687907853269984665640564039457584007913129639936 := hP
    have e1 : P * 256 ^ (26 + 1) = P * 105312291668557186697918027683670432318895095400549111254310977536 := rfl
    have e2 : (256 * P + b) * 256 ^ 26 = (256 * P + b) * 411376139330301510538742295639337626245683966408394965837152256 := rfl
    rw [e1, e2]
    constructor
    · show (P * 105312291668557186697918027683670432318895095400549111254310977536 / 6277101735386680763835789423207666416102355444464034512896 % 18446744073709551616) ||| (b * 65536) = ((256 * P + b) * 411376139330301510538742295639337626245683966408394965837152256 / 6277101735386680763835789423207666416102355444464034512896 % 18446744073709551616)
      rw [or_low (P * 105312291668557186697918027683670432318895095400549111254310977536 / 6277101735386680763835789423207666416102355444464034512896 % 18446744073709551616) (b * 65536) 24 16777216 rfl (by omega) (lt_byte hb (by decide) rfl)]
      omega
    · intro j hj hne
      have hne' : j ≠ 3 := hne
      have hj' : j = 0 ∨ j = 1 ∨ j = 2 ∨ j = 3 := by omega
      rcases hj' with rfl | rfl | rfl | rfl
      · show (256 * P + b) * 411376139330301510538742295639337626245683966408394965837152256 / 1 % 18446744073709551616 = P * 105312291668557186697918027683670432318895095400549111254310977536 / 1 % 18446744073709551616; omega
      · show (256 * P + b) * 411376139330301510538742295639337626245683966408394965837152256 / 18446744073709551616 % 18446744073709551616 = P * 105312291668557186697918027683670432318895095400549111254310977536 / 18446744073709551616 % 18446744073709551616; omega
      · show (256 * P + b) * 411376139330301510538742295639337626245683966408394965837152256 / 340282366920938463463374607431768211456 % 18446744073709551616 = P * 105312291668557186697918027683670432318895095400549111254310977536 / 340282366920938463463374607431768211456 % 18446744073709551616; omega
      · exact absurd rfl hne'
  · have hP' : (256 * P + b) * 105312291668557186697918027683670432318895095400549111254310977536 < 115792089237316195423570985008687907853269984665640564039457584007913129639936 := hP
    have e1 : P * 256 ^ (27 + 1) = P * 26959946667150639794667015087019630673637144422540572481103610249216 := rfl
    have e2 : (256 * P + b) * 256 ^ 27 = (256 * P + b) * 105312291668557186697918027683670432318895095400549111254310977536 := rfl
    rw [e1, e2]
    constructor
    · show (P * 26959946667150639794667015087019630673637144422540572481103610249216 / 6277101735386680763835789423207666416102355444464034512896 % 18446744073709551616) ||| (b * 16777216) = ((256 * P + b) * 105312291668557186697918027683670432318895095400549111254310977536 / 6277101735386680763835789423207666416102355444464034512896 % 18446744073709551616)
      rw [or_low (P * 26959946667150639794667015087019630673637144422540572481103610249216 / 6277101735386680763835789423207666416102355444464034512896 % 18446744073709551616) (b * 16777216) 32 4294967296 rfl (by omega) (lt_byte hb (by decide) rfl)]
      omega
    · intro j hj hne
      have hne' : j ≠ 3 := hne
      have hj' : j = 0 ∨ j = 1 ∨ j = 2 ∨ j = 3 := by omega
      rcases hj' with rfl | rfl | rfl | rfl
      · show (256 * P + b) * 105312291668557186697918027683670432318895095400549111254310977536 / 1 % 18446744073709551616 = P * 26959946667150639794667015087019630673637144422540572481103610249216 / 1 % 18446744073709551616; omega
      · show (256 * P + b) * 105312291668557186697918027683670432318895095400549111254310977536 / 18446744073709551616 % 18446744073709551616 = P * 26959946667150639794667015087019630673637144422540572481103610249216 / 18446744073709551616 % 18446744073709551616; omega
      · show (256 * P + b) * 105312291668557186697918027683670432318895095400549111254310977536 / 340282366920938463463374607431768211456 % 18446744073709551616 = P * 26959946667150639794667015087019630673637144422540572481103610249216 / 340282366920938463463374607431768211456 % 18446744073709551616; omega
      · exact absurd rfl hne'
  · have hP' : (256 * P + b) * 26959946667150639794667015087019630673637144422540572481103610249216 < 115792089237316195423570985008687907853269984665640564039457584007913129639936 := hP
    have e1 : P * 256 ^ (28 + 1) = P * 6901746346790563787434755862277025452451108972170386555162524223799296 := rfl
    have e2 : (256 * P + b) * 256 ^ 28 = (256 * P + b) * 26959946667150639794667015087019630673637144422540572481103610249216 := rfl
    rw [e1, e2]
    constructor
    · show (P * 6901746346790563787434755862277025452451108972170386555162524223799296 / 6277101735386680763835789423207666416102355444464034512896 % 18446744073709551616) ||| (b * 4294967296) = ((256 * P + b) * 26959946667150639794667015087019630673637144422540572481103610249216 / 6277101735386680763835789423207666416102355444464034512896 % 18446744073709551616)
      rw [or_low (P * 6901746346790563787434755862277025452451108972170386555162524223799296 / 6277101735386680763835789423207666416102355444464034512896 % 18446744073709551616) (b * 4294967296) 40 1099511627776 rfl (by omega) (lt_byte hb (by decide) rfl)]
      omega
    · intro j hj hne
      have hne' : j ≠ 3 := hne
      have hj' : j = 0 ∨ j = 1 ∨ j = 2 ∨ j = 3 := by omega
      rcases hj' with rfl | rfl | rfl | rfl
      · show (256 * P + b) * 26959946667150639794667015087019630673637144422540572481103610249216 / 1 % 18446744073709551616 = P * 6901746346790563787434755862277025452451108972170386555162524223799296 / 1 % 18446744073709551616; omega
      · show (256 * P + b) * 26959946667150639794667015087019630673637144422540572481103610249216 / 18446744073709551616 % 18446744073709551616 = P * 6901746346790563787434755862277025452451108972170386555162524223799296 / 18446744073709551616 % 18446744073709551616; omega
      · show (256 * P + b) * 26959946667150639794667015087019630673637144422540572481103610249216 / 340282366920938463463374607431768211456 % 18446744073709551616 = P * 6901746346790563787434755862277025452451108972170386555162524223799296 / 340282366920938463463374607431768211456 % 18446744073709551616; omega
      · exact absurd rfl hne'
  · have hP' : (256 * P + b) * 6901746346790563787434755862277025452451108972170386555162524223799296 < 115792089237316195423570985008687907853269984665640564039457584007913129639936 := hP
    have e1 : P * 256 ^ (29 + 1) = P * 1766847064778384329583297500742918515827483896875618958121606201292619776 := rfl
    have e2 : (256 * P + b) * 256 ^ 29 = (256 * P + b) * 6901746346790563787434755862277025452451108972170386555162524223799296 := rfl
    rw [e1, e2]
    constructor
    · show (P * 1766847064778384329583297500742918515827483896875618958121606201292619776 / 6277101735386680763835789423207666416102355444464034512896 % 18446744073709551616) ||| (b * 1099511627776) = ((256 * P + b) * 6901746346790563787434755862277025452451108972170386555162524223799296 / 6277101735386680763835789423207666416102355444464034512896 % 18446744073709551616)
      rw [or_low (P * 1766847064778384329583297500742918515827483896875618958121606201292619776 / 6277101735386680763835789423207666416102355444464034512896 % 18446744073709551616) (b * 1099511627776) 48 281474976710656 rfl (by omega) (lt_byte hb (by decide) rfl)]
      omega
    · intro j hj hne
      have hne' : j ≠ 3 := hne
      have hj' : j = 0 ∨ j = 1 ∨ j = 2 ∨ j = 3 := by omega
      rcases hj' with rfl | rfl | rfl | rfl
      · show (256 * P + b) * 6901746346790563787434755862277025452451108972170386555162524223799296 / 1 % 18446744073709551616 = P * 1766847064778384329583297500742918515827483896875618958121606201292619776 / 1 % 18446744073709551616; omega
      · show (256 * P + b) * 6901746346790563787434755862277025452451108972170386555162524223799296 / 18446744073709551616 % 18446744073709551616 = P * 1766847064778384329583297500742918515827483896875618958121606201292619776 / 18446744073709551616 % 18446744073709551616; omega
      · show (256 * P + b) * 6901746346790563787434755862277025452451108972170386555162524223799296 / 340282366920938463463374607431768211456 % 18446744073709551616 = P * 1766847064778384329583297500742918515827483896875618958121606201292619776 / 340282366920938463463374607431768211456 % 18446744073709551616; omega
      · exact absurd rfl hne'
  · have hP' : (256 * P + b) * 1766847064778384329583297500742918515827483896875618958121606201292619776 < 115792089237316195423570985008687907853269984665640564039457584007913129639936 := hP
    have e1 : P * 256 ^ (30 + 1) = P * 452312848583266388373324160190187140051835877600158453279131187530910662656 := rfl
    have e2 : (256 * P + b) * 256 ^ 30 = (256 * P + b) * 1766847064778384329583297500742918515827483896875618958121606201292619776 := rfl
    rw [e1, e2]
    constructor
    · show (P * 452312848583266388373324160190187140051835877600158453279131187530910662656 / 6277101735386680763835789423207666416102355444464034512896 % 18446744073709551616) ||| (b * 281474976710656) = ((256 * P + b) * 1766847064778384329583297500742918515827483896875618958121606201292619776 / 6277101735386680763835789423207666416102355444464034512896 % 18446744073709551616)
      rw [or_low (P * 452312848583266388373324160190187140051835877600158453279131187530910662656 / 6277101735386680763835789423207666416102355444464034512896 % 18446744073709551616) (b * 281474976710656) 56 72057594037927936 rfl (by omega) (lt_byte hb (by decide) rfl)]
      omega
    · intro j hj hne
      have hne' : j ≠ 3 := hne
      have hj' : j = 0 ∨ j = 1 ∨ j = 2 ∨ j = 3 := by omega
      rcases hj' with rfl | rfl | rfl | rfl
      · show (256 * P + b) * 1766847064778384329583297500742918515827483896875618958121606201292619776 / 1 % 18446744073709551616 = P * 452312848583266388373324160190187140051835877600158453279131187530910662656 / 1 % 18446744073709551616; omega
      · show (256 * P + b) * 1766847064778384329583297500742918515827483896875618958121606201292619776 / 18446744073709551616 % 18446744073709551616 = P * 452312848583266388373324160190187140051835877600158453279131187530910662656 / 18446744073709551616 % 18446744073709551616; omega
      · show (256 * P + b) * 1766847064778384329583297500742918515827483896875618958121606201292619776 / 340282366920938463463374607431768211456 % 18446744073709551616 = P * 452312848583266388373324160190187140051835877600158453279131187530910662656 / 340282366920938463463374607431768211456 % 18446744073709551616; omega
      · exact absurd rfl hne'
  · have hP' : (256 * P + b) * 452312848583266388373324160190187140051835877600158453279131187530910662656 < 115792089237316195423570985008687907853269984665640564039457584007913129639936 := hP
    have e1 : P * 256 ^ (31 + 1) = P * 115792089237316195423570985008687907853269984665640564039457584007913129639936 := rfl
    have e2 : (256 * P + b) * 256 ^ 31 = (256 * P + b) * 452312848583266388373324160190187140051835877600158453279131187530910662656 := rfl
    rw [e1, e2]
    constructor
    · show (P * 115792089237316195423570985008687907853269984665640564039457584007913129639936 / 6277101735386680763835789423207666416102355444464034512896 % 18446744073709551616) ||| (b * 72057594037927936) = ((256 * P + b) * 452312848583266388373324160190187140051835877600158453279131187530910662656 / 6277101735386680763835789423207666416102355444464034512896 % 18446744073709551616)
      rw [or_low (P * 115792089237316195423570985008687907853269984665640564039457584007913129639936 / 6277101735386680763835789423207666416102355444464034512896 % 18446744073709551616) (b * 72057594037927936) 64 18446744073709551616 rfl (by omega) (lt_byte hb (by decide) rfl)]
      omega
    · intro j hj hne
      have hne' : j ≠ 3 := hne
      have hj' : j = 0 ∨ j = 1 ∨ j = 2 ∨ j = 3 := by omega
      rcases hj' with rfl | rfl | rfl | rfl
      · show (256 * P + b) * 452312848583266388373324160190187140051835877600158453279131187530910662656 / 1 % 18446744073709551616 = P * 115792089237316195423570985008687907853269984665640564039457584007913129639936 / 1 % 18446744073709551616; omega
      · show (256 * P + b) * 452312848583266388373324160190187140051835877600158453279131187530910662656 / 18446744073709551616 % 18446744073709551616 = P * 115792089237316195423570985008687907853269984665640564039457584007913129639936 / 18446744073709551616 % 18446744073709551616; omega
      · show (256 * P + b) * 452312848583266388373324160190187140051835877600158453279131187530910662656 / 340282366920938463463374607431768211456 % 18446744073709551616 = P * 115792089237316195423570985008687907853269984665640564039457584007913129639936 / 340282366920938463463374607431768211456 % 18446744073709551616; omega
      · exact absurd rfl hne'
end Go.Proofs.YtmmloghbnpfedaaDoor

namespace Go.Proofs.YtmmloghbnpfedaaDoor
open Go.ChangeShapes Go.WideShapes Go.ChangeAt Go.RowKit
set_option linter.unusedVariables false
/-- The number behind k bytes. -/
def fromN (s : ByteArray) (k : Nat) : Nat := sv (s.data.toList.take k) * 256 ^ (s.size - k)
theorem fromN_lt (s : ByteArray) (k : Nat) (h : s.size ≤ 32) (hk : k ≤ s.size) : fromN s k < big := by
  unfold fromN
  have h1 := sv_lt (s.data.toList.take k)
  have h2 : (s.data.toList.take k).length ≤ k := List.length_take_le _ _
  have h3 : 256 ^ (s.data.toList.take k).length ≤ 256 ^ k := Nat.pow_le_pow_right (by omega) h2
  have h4 : 256 ^ k * 256 ^ (s.size - k) = 256 ^ s.size := by rw [← Nat.pow_add]; congr 1; omega
  have h5 : 256 ^ s.size ≤ 256 ^ 32 := Nat.pow_le_pow_right (by omega) h
  have h6 : sv (s.data.toList.take k) * 256 ^ (s.size - k) < 256 ^ k * 256 ^ (s.size - k) := (Nat.mul_lt_mul_right (Nat.pow_pos (by omega))).2 (by omega)
  have h7 : (256 : Nat) ^ 32 = big := rfl
  omega
theorem fromN_split (s : ByteArray) (k m : Nat) (hk : k < s.size) (hm : s.size = k + 1 + m) :
    fromN s k = sv (s.data.toList.take k) * 256 ^ (m + 1) ∧ fromN s (k + 1) = (256 * sv (s.data.toList.take k) + s[k].toNat) * 256 ^ m := by
  unfold fromN
  constructor
  · congr 2; omega
  · have e : s.data.toList.take (k + 1) = s.data.toList.take k ++ [s[k]] := by rw [List.take_succ_eq_append_getElem (by simpa using hk)]; rfl
    rw [e, sv_snoc]
    congr 2; omega
theorem wi0 (n : Nat) : ((wi n 0 : Nat) : Int) = w0 n := by unfold wi w0; simp
theorem wi1 (n : Nat) : ((wi n 1 : Nat) : Int) = w1 n := rfl
theorem wi2 (n : Nat) : ((wi n 2 : Nat) : Int) = w2 n := rfl
theorem wi3 (n : Nat) : ((wi n 3 : Nat) : Int) = w3 n := rfl
theorem or_word (x b m : Nat) (hx : x < 18446744073709551616) (hb : b < 256) :
    bits BinOp.or IntKind.u64 (x : Int) (IntKind.u64.wrap ((b : Int) * 2 ^ (8 * (m % 8)))) = ((x ||| b * 2 ^ (8 * (m % 8)) : Nat) : Int) := by
  have hp : 2 ^ (8 * (m % 8)) ≤ 2 ^ 56 := Nat.pow_le_pow_right (by omega) (by omega)
  have hl : b * 2 ^ (8 * (m % 8)) < 18446744073709551616 := by
    have h1 : b * 2 ^ (8 * (m % 8)) ≤ 255 * 2 ^ 56 := Nat.mul_le_mul (by omega) hp
    omega
  have e2 : (b : Int) * 2 ^ (8 * (m % 8)) = ((b * 2 ^ (8 * (m % 8)) : Nat) : Int) := by push_cast; rfl
  rw [e2]
  have e3 : IntKind.u64.wrap ((b * 2 ^ (8 * (m % 8)) : Nat) : Int) = ((b * 2 ^ (8 * (m % 8)) : Nat) : Int) := by rw [IntKind.wrap_u64]; omega
  rw [e3]
  exact bits_or_u64_nat _ _ hx hl
def Holds4 (wr : World) (b : Nat) (n : Nat) : Prop :=
  (wr.cell? ⟨b, 0, none⟩ = some (.int .u64 (w0 n)) ∧ wr.cell? ⟨b, 1, none⟩ = some (.int .u64 (w1 n)) ∧ wr.cell? ⟨b, 2, none⟩ = some (.int .u64 (w2 n)) ∧ wr.cell? ⟨b, 3, none⟩ = some (.int .u64 (w3 n))) ∧
  (wr.frozen? ⟨b, 0, none⟩ = false ∧ wr.frozen? ⟨b, 1, none⟩ = false ∧ wr.frozen? ⟨b, 2, none⟩ = false ∧ wr.frozen? ⟨b, 3, none⟩ = false)
def FInv (w : World) (s : ByteArray) (k : Nat) (wr : World) : Prop := Below w.heap.size w wr ∧ Holds4 wr (w.heap.size + 1) (fromN s k) ∧ Holds4 wr w.heap.size 0
set_option maxHeartbeats 4000000 in
set_option maxRecDepth 100000 in
theorem from_short (s : ByteArray) (h : s.size ≤ 32) (w : World) : Calls Tryd.prog 42 #[.string s] w fun e w' => e = .returned (.tuple #[uv (sv s.data.toList), .int .i64 0]) ∧ Below w.heap.size w w' := by
  have hi : ¬ (32 : Int) < (s.size : Int) := by omega
  have hfin : fromN s s.size = sv s.data.toList := by unfold fromN; rw [List.take_of_length_le (by simp)]; simp
  have hend : ∀ k, ¬ k < s.size → k ≤ s.size → fromN s k = sv s.data.toList := fun k h1 h2 => by rw [show k = s.size by omega]; exact hfin
  have I : FInv w s 0 ((w.alloc (.cells #[.int .u64 0, .int .u64 0, .int .u64 0, .int .u64 0] 24)).alloc (.cells #[.int .u64 0, .int .u64 0, .int .u64 0, .int .u64 0] 24)) := by
    have z : fromN s 0 = 0 := by unfold fromN; simp [sv]
    have z0 : w0 0 = 0 := rfl
    have z1 : w1 0 = 0 := rfl
    have z2 : w2 0 = 0 := rfl
    have z3 : w3 0 = 0 := rfl
    refine ⟨((Below.refl _ _).alloc (Nat.le_refl _) _).alloc (by simp) _, ?_, ?_⟩
    · rw [z]; unfold Holds4; rw [z0, z1, z2, z3]; exact ⟨⟨by simp, by simp, by simp, by simp⟩, by simp, by simp, by simp, by simp⟩
    · unfold Holds4; rw [z0, z1, z2, z3]; exact ⟨⟨by simp, by simp, by simp, by simp⟩, by simp, by simp, by simp, by simp⟩
  have Hend := Lib.hid hend
  clear hfin hend
  go_enter Tryd.func42, Tryd.ntmps42
  go_wp2
  go_loopw [13] (fun i wr => ∃ k : Nat, k ≤ s.size ∧ i = .int .i64 k ∧ FInv w s k wr) (fun i _ => s.size - (intOf i).toNat)
  case atStart => exact ⟨0, by omega, rfl, I⟩
  case round =>
    obtain ⟨k, hk, rfl, J⟩ := hrel
    clear I
    obtain ⟨JB, ⟨⟨c0, c1, c2, c3⟩, f0, f1, f2, f3⟩, ⟨⟨r0, r1, r2, r3⟩, y0, y1, y2, y3⟩⟩ := J
    by_cases hlt : k < s.size
    · obtain ⟨m, hm⟩ : ∃ m, s.size = k + 1 + m := ⟨s.size - k - 1, by omega⟩
      have hb : ((s.size : Int) - 1 - (k : Int)) = (m : Int) := by omega
      have hm32 : m < 32 := by omega
      obtain ⟨n1, n2⟩ := fromN_split s k m hlt hm
      have hbig := fromN_lt s (k + 1) h (by omega)
      have hby : s[k].toNat < 256 := s[k].toNat_lt
      have OB := or_byte (sv (s.data.toList.take k)) s[k].toNat m hby hm32 (by rw [← n2]; exact hbig)
      rw [← n1, ← n2] at OB
      have HOB := Lib.hid OB
      clear hm n1 n2 OB hbig
      have hq : m / 8 = 0 ∨ m / 8 = 1 ∨ m / 8 = 2 ∨ m / 8 = 3 := by omega
      rcases hq with hq | hq | hq | hq
      · go_wp2_with fail
        go_region
        go_wp2
        go_roundw
        case rel =>
          obtain ⟨o1, o2⟩ := HOB.out
          rw [hq] at o1 o2
          have ev : bits BinOp.or IntKind.u64 (w0 (fromN s k)) (IntKind.u64.wrap ((s[k].toNat : Int) * 2 ^ (8 * (m % 8)))) = w0 (fromN s (k + 1)) := by
            rw [← wi0, or_word _ _ _ (by unfold wi; exact Nat.mod_lt _ (by omega)) hby, o1, wi0]
          have g1 : w1 (fromN s (k + 1)) = w1 (fromN s k) := by rw [← wi1, ← wi1, o2 1 (by omega) (by omega)]
          have g2 : w2 (fromN s (k + 1)) = w2 (fromN s k) := by rw [← wi2, ← wi2, o2 2 (by omega) (by omega)]
          have g3 : w3 (fromN s (k + 1)) = w3 (fromN s k) := by rw [← wi3, ← wi3, o2 3 (by omega) (by omega)]
          refine ⟨k + 1, by omega, by go_num, (JB.setCell (by simp) _).drew, ⟨⟨?_, ?_, ?_, ?_⟩, ?_, ?_, ?_, ?_⟩, ⟨⟨?_, ?_, ?_, ?_⟩, ?_, ?_, ?_, ?_⟩⟩
          · rw [← ev]; exact World.cell?_setCell_same _ _ _ c0
          · rw [g1]; exact (World.cell?_setCell_other _ _ _ _ (by simp)).trans c1
          · rw [g2]; exact (World.cell?_setCell_other _ _ _ _ (by simp)).trans c2
          · rw [g3]; exact (World.cell?_setCell_other _ _ _ _ (by simp)).trans c3
          · simp [f0]
          · simp [f1]
          · simp [f2]
          · simp [f3]
          · exact (World.cell?_setCell_other _ _ _ _ (by simp)).trans r0
          · exact (World.cell?_setCell_other _ _ _ _ (by simp)).trans r1
          · exact (World.cell?_setCell_other _ _ _ _ (by simp)).trans r2
          · exact (World.cell?_setCell_other _ _ _ _ (by simp)).trans r3
          · simp [y0]
          · simp [y1]
          · simp [y2]
          · simp [y3]
        case measure => simp [intOf]; omega
      · go_wp2_with fail
        go_region
        go_wp2
        go_roundw
        case rel =>
          obtain ⟨o1, o2⟩ := HOB.out
          rw [hq] at o1 o2
          have ev : bits BinOp.or IntKind.u64 (w1 (fromN s k)) (IntKind.u64.wrap ((s[k].toNat : Int) * 2 ^ (8 * (m % 8)))) = w1 (fromN s (k + 1)) := by
            rw [← wi1, or_word _ _ _ (by unfold wi; exact Nat.mod_lt _ (by omega)) hby, o1, wi1]
          have g0 : w0 (fromN s (k + 1)) = w0 (fromN s k) := by rw [← wi0, ← wi0, o2 0 (by omega) (by omega)]
          have g2 : w2 (fromN s (k + 1)) = w2 (fromN s k) := by rw [← wi2, ← wi2, o2 2 (by omega) (by omega)]
          have g3 : w3 (fromN s (k + 1)) = w3 (fromN s k) := by rw [← wi3, ← wi3, o2 3 (by omega) (by omega)]
          refine ⟨k + 1, by omega, by go_num, (JB.setCell (by simp) _).drew, ⟨⟨?_, ?_, ?_, ?_⟩, ?_, ?_, ?_, ?_⟩, ⟨⟨?_, ?_, ?_, ?_⟩, ?_, ?_, ?_, ?_⟩⟩
          · rw [g0]; exact (World.cell?_setCell_other _ _ _ _ (by simp)).trans c0
          · rw [← ev]; exact World.cell?_setCell_same _ _ _ c1
          · rw [g2]; exact (World.cell?_setCell_other _ _ _ _ (by simp)).trans c2
          · rw [g3]; exact (World.cell?_setCell_other _ _ _ _ (by simp)).trans c3
          · simp [f0]
          · simp [f1]
          · simp [f2]
          · simp [f3]
          · exact (World.cell?_setCell_other _ _ _ _ (by simp)).trans r0
          · exact (World.cell?_setCell_other _ _ _ _ (by simp)).trans r1
          · exact (World.cell?_setCell_other _ _ _ _ (by simp)).trans r2
          · exact (World.cell?_setCell_other _ _ _ _ (by simp)).trans r3
          · simp [y0]
          · simp [y1]
          · simp [y2]
          · simp [y3]
        case measure => simp [intOf]; omega
      · go_wp2_with fail
        go_region
        go_wp2
        go_roundw
        case rel =>
          obtain ⟨o1, o2⟩ := HOB.out
          rw [hq] at o1 o2
          have ev : bits BinOp.or IntKind.u64 (w2 (fromN s k)) (IntKind.u64.wrap ((s[k].toNat : Int) * 2 ^ (8 * (m % 8)))) = w2 (fromN s (k + 1)) := by
            rw [← wi2, or_word _ _ _ (by unfold wi; exact Nat.mod_lt _ (by omega)) hby, o1, wi2]
          have g0 : w0 (fromN s (k + 1)) = w0 (fromN s k) := by rw [← wi0, ← wi0, o2 0 (by omega) (by omega)]
          have g1 : w1 (fromN s (k + 1)) = w1 (fromN s k) := by rw [← wi1, ← wi1, o2 1 (by omega) (by omega)]
          have g3 : w3 (fromN s (k + 1)) = w3 (fromN s k) := by rw [← wi3, ← wi3, o2 3 (by omega) (by omega)]
          refine ⟨k + 1, by omega, by go_num, (JB.setCell (by simp) _).drew, ⟨⟨?_, ?_, ?_, ?_⟩, ?_, ?_, ?_, ?_⟩, ⟨⟨?_, ?_, ?_, ?_⟩, ?_, ?_, ?_, ?_⟩⟩
          · rw [g0]; exact (World.cell?_setCell_other _ _ _ _ (by simp)).trans c0
          · rw [g1]; exact (World.cell?_setCell_other _ _ _ _ (by simp)).trans c1
          · rw [← ev]; exact World.cell?_setCell_same _ _ _ c2
          · rw [g3]; exact (World.cell?_setCell_other _ _ _ _ (by simp)).trans c3
          · simp [f0]
          · simp [f1]
          · simp [f2]
          · simp [f3]
          · exact (World.cell?_setCell_other _ _ _ _ (by simp)).trans r0
          · exact (World.cell?_setCell_other _ _ _ _ (by simp)).trans r1
          · exact (World.cell?_setCell_other _ _ _ _ (by simp)).trans r2
          · exact (World.cell?_setCell_other _ _ _ _ (by simp)).trans r3
          · simp [y0]
          · simp [y1]
          · simp [y2]
          · simp [y3]
        case measure => simp [intOf]; omega
      · go_wp2_with fail
        go_region
        go_wp2
        go_roundw
        case rel =>
          obtain ⟨o1, o2⟩ := HOB.out
          rw [hq] at o1 o2
          have ev : bits BinOp.or IntKind.u64 (w3 (fromN s k)) (IntKind.u64.wrap ((s[k].toNat : Int) * 2 ^ (8 * (m % 8)))) = w3 (fromN s (k + 1)) := by
            rw [← wi3, or_word _ _ _ (by unfold wi; exact Nat.mod_lt _ (by omega)) hby, o1, wi3]
          have g0 : w0 (fromN s (k + 1)) = w0 (fromN s k) := by rw [← wi0, ← wi0, o2 0 (by omega) (by omega)]
          have g1 : w1 (fromN s (k + 1)) = w1 (fromN s k) := by rw [← wi1, ← wi1, o2 1 (by omega) (by omega)]
          have g2 : w2 (fromN s (k + 1)) = w2 (fromN s k) := by rw [← wi2, ← wi2, o2 2 (by omega) (by omega)]
          refine ⟨k + 1, by omega, by go_num, (JB.setCell (by simp) _).drew, ⟨⟨?_, ?_, ?_, ?_⟩, ?_, ?_, ?_, ?_⟩, ⟨⟨?_, ?_, ?_, ?_⟩, ?_, ?_, ?_, ?_⟩⟩
          · rw [g0]; exact (World.cell?_setCell_other _ _ _ _ (by simp)).trans c0
          · rw [g1]; exact (World.cell?_setCell_other _ _ _ _ (by simp)).trans c1
          · rw [g2]; exact (World.cell?_setCell_other _ _ _ _ (by simp)).trans c2
          · rw [← ev]; exact World.cell?_setCell_same _ _ _ c3
          · simp [f0]
          · simp [f1]
          · simp [f2]
          · simp [f3]
          · exact (World.cell?_setCell_other _ _ _ _ (by simp)).trans r0
          · exact (World.cell?_setCell_other _ _ _ _ (by simp)).trans r1
          · exact (World.cell?_setCell_other _ _ _ _ (by simp)).trans r2
          · exact (World.cell?_setCell_other _ _ _ _ (by simp)).trans r3
          · simp [y0]
          · simp [y1]
          · simp [y2]
          · simp [y3]
        case measure => simp [intOf]; omega
    · have HE := Lib.hid (Hend.out k hlt hk)
      go_wp2
      have hS0 : (wr.setCell ⟨w.heap.size, 0, none⟩ (.int .u64 (w0 (fromN s k)))).cell? ⟨w.heap.size, 0, none⟩ = some (.int .u64 (w0 (fromN s k))) := World.cell?_setCell_same _ _ _ r0
      have hS1 : ((wr.setCell ⟨w.heap.size, 0, none⟩ (.int .u64 (w0 (fromN s k)))).setCell ⟨w.heap.size, 1, none⟩ (.int .u64 (w1 (fromN s k)))).cell? ⟨w.heap.size, 1, none⟩ = some (.int .u64 (w1 (fromN s k))) := World.cell?_setCell_same _ _ _ ((World.cell?_setCell_other _ _ _ _ (by simp)).trans r1)
      have hS2 : (((wr.setCell ⟨w.heap.size, 0, none⟩ (.int .u64 (w0 (fromN s k)))).setCell ⟨w.heap.size, 1, none⟩ (.int .u64 (w1 (fromN s k)))).setCell ⟨w.heap.size, 2, none⟩ (.int .u64 (w2 (fromN s k)))).cell? ⟨w.heap.size, 2, none⟩ = some (.int .u64 (w2 (fromN s k))) := World.cell?_setCell_same _ _ _ ((World.cell?_setCell_other _ _ _ _ (by simp)).trans ((World.cell?_setCell_other _ _ _ _ (by simp)).trans r2))
      have hS3 : ((((wr.setCell ⟨w.heap.size, 0, none⟩ (.int .u64 (w0 (fromN s k)))).setCell ⟨w.heap.size, 1, none⟩ (.int .u64 (w1 (fromN s k)))).setCell ⟨w.heap.size, 2, none⟩ (.int .u64 (w2 (fromN s k)))).setCell ⟨w.heap.size, 3, none⟩ (.int .u64 (w3 (fromN s k)))).cell? ⟨w.heap.size, 3, none⟩ = some (.int .u64 (w3 (fromN s k))) := World.cell?_setCell_same _ _ _ ((World.cell?_setCell_other _ _ _ _ (by simp)).trans ((World.cell?_setCell_other _ _ _ _ (by simp)).trans ((World.cell?_setCell_other _ _ _ _ (by simp)).trans r3)))
      refine bodyPost_ret (v := .tuple #[uv (fromN s k), .int .i64 0]) (by simp [results, Tryd.results42, go_sem, hS0, hS1, hS2, hS3]) rfl ?_
      refine ⟨by rw [HE.out], ?_⟩
      exact ((((JB.setCell (by simp) _).setCell (by simp) _).setCell (by simp) _).setCell (by simp) _)
end Go.Proofs.YtmmloghbnpfedaaDoor

namespace Go.Proofs.YtmmloghbnpfedaaDoor
open Go Go.RowKit
set_option linter.unusedVariables false
theorem dAt_dgs (A q : Nat) (h : q < 16) : (dgs A 16).getD q 0 = dg A q := by
  unfold dgs
  simp [List.getD, List.getElem?_map, List.getElem?_range h]
theorem sv_big (s : ByteArray) (h : s.size ≤ 32) : sv (tl s) < big := by
  have h1 := sv_lt (tl s)
  have h2 : 256 ^ (tl s).length ≤ 256 ^ 32 := Nat.pow_le_pow_right (by omega) h
  have h3 : (256 : Nat) ^ 32 = big := rfl
  omega
theorem sv_take (s : ByteArray) (k : Nat) (h : k < s.size) : sv ((tl s).take (k + 1)) = 256 * sv ((tl s).take k) + by_ s k := by
  have h1 : k < (tl s).length := h
  rw [List.take_succ_eq_append_getElem h1, sv_snoc]
  unfold by_; rw [List.getD_eq_getElem?_getD, List.getElem?_eq_getElem h1]; rfl
end Go.Proofs.YtmmloghbnpfedaaDoor

namespace Go.Proofs.YtmmloghbnpfedaaDoor
open Go Go.RowKit
set_option linter.unusedVariables false
theorem byte0 (A : Nat) : IntKind.u8.wrap (((dg A 15 / 256 : Nat)) : Int) = Go.Proofs.YtmmloghbnpfedaaDoor.w3 A / 72057594037927936 % 256 := by
  unfold dg w3; rw [wr_u8]; simp only [Nat.reducePow]; omega
theorem byte1 (A : Nat) : IntKind.u8.wrap (((dg A 15 % 256 : Nat)) : Int) = Go.Proofs.YtmmloghbnpfedaaDoor.w3 A / 281474976710656 % 256 := by
  unfold dg w3; rw [wr_u8]; simp only [Nat.reducePow]; omega
theorem byte2 (A : Nat) : IntKind.u8.wrap (((dg A 14 / 256 : Nat)) : Int) = Go.Proofs.YtmmloghbnpfedaaDoor.w3 A / 1099511627776 % 256 := by
  unfold dg w3; rw [wr_u8]; simp only [Nat.reducePow]; omega
theorem byte3 (A : Nat) : IntKind.u8.wrap (((dg A 14 % 256 : Nat)) : Int) = Go.Proofs.YtmmloghbnpfedaaDoor.w3 A / 4294967296 % 256 := by
  unfold dg w3; rw [wr_u8]; simp only [Nat.reducePow]; omega
theorem byte4 (A : Nat) : IntKind.u8.wrap (((dg A 13 / 256 : Nat)) : Int) = Go.Proofs.YtmmloghbnpfedaaDoor.w3 A / 16777216 % 256 := by
  unfold dg w3; rw [wr_u8]; simp only [Nat.reducePow]; omega
theorem byte5 (A : Nat) : IntKind.u8.wrap (((dg A 13 % 256 : Nat)) : Int) = Go.Proofs.YtmmloghbnpfedaaDoor.w3 A / 65536 % 256 := by
  unfold dg w3; rw [wr_u8]; simp only [Nat.reducePow]; omega
theorem byte6 (A : Nat) : IntKind.u8.wrap (((dg A 12 / 256 : Nat)) : Int) = Go.Proofs.YtmmloghbnpfedaaDoor.w3 A / 256 % 256 := by
  unfold dg w3; rw [wr_u8]; simp only [Nat.reducePow]; omega
theorem byte7 (A : Nat) : IntKind.u8.wrap (((dg A 12 % 256 : Nat)) : Int) = Go.Proofs.YtmmloghbnpfedaaDoor.w3 A % 256 := by
  unfold dg w3; rw [wr_u8]; simp only [Nat.reducePow]; omega
theorem byte8 (A : Nat) : IntKind.u8.wrap (((dg A 11 / 256 : Nat)) : Int) = Go.Proofs.YtmmloghbnpfedaaDoor.w2 A / 72057594037927936 % 256 := by
  unfold dg w2; rw [wr_u8]; simp only [Nat.reducePow]; omega
theorem byte9 (A : Nat) : IntKind.u8.wrap (((dg A 11 % 256 : Nat)) : Int) = Go.Proofs.YtmmloghbnpfedaaDoor.w2 A / 281474976710656 % 256 := by
  unfold dg w2; rw [wr_u8]; simp only [Nat.reducePow]; omega
theorem byte10 (A : Nat) : IntKind.u8.wrap (((dg A 10 / 256 : Nat)) : Int) = Go.Proofs.YtmmloghbnpfedaaDoor.w2 A / 1099511627776 % 256 := by
  unfold dg w2; rw [wr_u8]; simp only [Nat.reducePow]; omega
theorem byte11 (A : Nat) : IntKind.u8.wrap (((dg A 10 % 256 : Nat)) : Int) = Go.Proofs.YtmmloghbnpfedaaDoor.w2 A / 4294967296 % 256 := by
  unfold dg w2; rw [wr_u8]; simp only [Nat.reducePow]; omega
theorem byte12 (A : Nat) : IntKind.u8.wrap (((dg A 9 / 256 : Nat)) : Int) = Go.Proofs.YtmmloghbnpfedaaDoor.w2 A / 16777216 % 256 := by
  unfold dg w2; rw [wr_u8]; simp only [Nat.reducePow]; omega
theorem byte13 (A : Nat) : IntKind.u8.wrap (((dg A 9 % 256 : Nat)) : Int) = Go.Proofs.YtmmloghbnpfedaaDoor.w2 A / 65536 % 256 := by
  unfold dg w2; rw [wr_u8]; simp only [Nat.reducePow]; omega
theorem byte14 (A : Nat) : IntKind.u8.wrap (((dg A 8 / 256 : Nat)) : Int) = Go.Proofs.YtmmloghbnpfedaaDoor.w2 A / 256 % 256 := by
  unfold dg w2; rw [wr_u8]; simp only [Nat.reducePow]; omega
theorem byte15 (A : Nat) : IntKind.u8.wrap (((dg A 8 % 256 : Nat)) : Int) = Go.Proofs.YtmmloghbnpfedaaDoor.w2 A % 256 := by
  unfold dg w2; rw [wr_u8]; simp only [Nat.reducePow]; omega
theorem byte16 (A : Nat) : IntKind.u8.wrap (((dg A 7 / 256 : Nat)) : Int) = Go.Proofs.YtmmloghbnpfedaaDoor.w1 A / 72057594037927936 % 256 := by
  unfold dg w1; rw [wr_u8]; simp only [Nat.reducePow]; omega
theorem byte17 (A : Nat) : IntKind.u8.wrap (((dg A 7 % 256 : Nat)) : Int) = Go.Proofs.YtmmloghbnpfedaaDoor.w1 A / 281474976710656 % 256 := by
  unfold dg w1; rw [wr_u8]; simp only [Nat.reducePow]; omega
theorem byte18 (A : Nat) : IntKind.u8.wrap (((dg A 6 / 256 : Nat)) : Int) = Go.Proofs.YtmmloghbnpfedaaDoor.w1 A / 1099511627776 % 256 := by
  unfold dg w1; rw [wr_u8]; simp only [Nat.reducePow]; omega
theorem byte19 (A : Nat) : IntKind.u8.wrap (((dg A 6 % 256 : Nat)) : Int) = Go.Proofs.YtmmloghbnpfedaaDoor.w1 A / 4294967296 % 256 := by
  unfold dg w1; rw [wr_u8]; simp only [Nat.reducePow]; omega
theorem byte20 (A : Nat) : IntKind.u8.wrap (((dg A 5 / 256 : Nat)) : Int) = Go.Proofs.YtmmloghbnpfedaaDoor.w1 A / 16777216 % 256 := by
  unfold dg w1; rw [wr_u8]; simp only [Nat.reducePow]; omega
theorem byte21 (A : Nat) : IntKind.u8.wrap (((dg A 5 % 256 : Nat)) : Int) = Go.Proofs.YtmmloghbnpfedaaDoor.w1 A / 65536 % 256 := by
  unfold dg w1; rw [wr_u8]; simp only [Nat.reducePow]; omega
theorem byte22 (A : Nat) : IntKind.u8.wrap (((dg A 4 / 256 : Nat)) : Int) = Go.Proofs.YtmmloghbnpfedaaDoor.w1 A / 256 % 256 := by
  unfold dg w1; rw [wr_u8]; simp only [Nat.reducePow]; omega
theorem byte23 (A : Nat) : IntKind.u8.wrap (((dg A 4 % 256 : Nat)) : Int) = Go.Proofs.YtmmloghbnpfedaaDoor.w1 A % 256 := by
  unfold dg w1; rw [wr_u8]; simp only [Nat.reducePow]; omega
theorem byte24 (A : Nat) : IntKind.u8.wrap (((dg A 3 / 256 : Nat)) : Int) = Go.Proofs.YtmmloghbnpfedaaDoor.w0 A / 72057594037927936 % 256 := by
  unfold dg w0; rw [wr_u8]; simp only [Nat.reducePow]; omega
theorem byte25 (A : Nat) : IntKind.u8.wrap (((dg A 3 % 256 : Nat)) : Int) = Go.Proofs.YtmmloghbnpfedaaDoor.w0 A / 281474976710656 % 256 := by
  unfold dg w0; rw [wr_u8]; simp only [Nat.reducePow]; omega
theorem byte26 (A : Nat) : IntKind.u8.wrap (((dg A 2 / 256 : Nat)) : Int) = Go.Proofs.YtmmloghbnpfedaaDoor.w0 A / 1099511627776 % 256 := by
  unfold dg w0; rw [wr_u8]; simp only [Nat.reducePow]; omega
theorem byte27 (A : Nat) : IntKind.u8.wrap (((dg A 2 % 256 : Nat)) : Int) = Go.Proofs.YtmmloghbnpfedaaDoor.w0 A / 4294967296 % 256 := by
  unfold dg w0; rw [wr_u8]; simp only [Nat.reducePow]; omega
theorem byte28 (A : Nat) : IntKind.u8.wrap (((dg A 1 / 256 : Nat)) : Int) = Go.Proofs.YtmmloghbnpfedaaDoor.w0 A / 16777216 % 256 := by
  unfold dg w0; rw [wr_u8]; simp only [Nat.reducePow]; omega
theorem byte29 (A : Nat) : IntKind.u8.wrap (((dg A 1 % 256 : Nat)) : Int) = Go.Proofs.YtmmloghbnpfedaaDoor.w0 A / 65536 % 256 := by
  unfold dg w0; rw [wr_u8]; simp only [Nat.reducePow]; omega
theorem byte30 (A : Nat) : IntKind.u8.wrap (((dg A 0 / 256 : Nat)) : Int) = Go.Proofs.YtmmloghbnpfedaaDoor.w0 A / 256 % 256 := by
  unfold dg w0; rw [wr_u8]; simp only [Nat.reducePow]; omega
theorem byte31 (A : Nat) : IntKind.u8.wrap (((dg A 0 % 256 : Nat)) : Int) = Go.Proofs.YtmmloghbnpfedaaDoor.w0 A % 256 := by
  unfold dg w0; rw [wr_u8]; simp only [Nat.reducePow]; omega
def bnI (A q : Nat) : Int := (bn A).getD q 0
theorem byteE (A j : Nat) (h1 : 1 ≤ j) (h2 : j ≤ 16) : IntKind.u8.wrap ((((dgs A 16).getD (j - 1) 0 / 256 : Nat)) : Int) = bnI A (32 - 2 * j) := by
  have h : j = 1 ∨ j = 2 ∨ j = 3 ∨ j = 4 ∨ j = 5 ∨ j = 6 ∨ j = 7 ∨ j = 8 ∨ j = 9 ∨ j = 10 ∨ j = 11 ∨ j = 12 ∨ j = 13 ∨ j = 14 ∨ j = 15 ∨ j = 16 := by omega
  rcases h with rfl | rfl | rfl | rfl | rfl | rfl | rfl | rfl | rfl | rfl | rfl | rfl | rfl | rfl | rfl | rfl
  · rw [dAt_dgs A 0 (by omega)]; exact byte30 A
  · rw [dAt_dgs A 1 (by omega)]; exact byte28 A
  · rw [dAt_dgs A 2 (by omega)]; exact byte26 A
  · rw [dAt_dgs A 3 (by omega)]; exact byte24 A
  · rw [dAt_dgs A 4 (by omega)]; exact byte22 A
  · rw [dAt_dgs A 5 (by omega)]; exact byte20 A
  · rw [dAt_dgs A 6 (by omega)]; exact byte18 A
  · rw [dAt_dgs A 7 (by omega)]; exact byte16 A
  · rw [dAt_dgs A 8 (by omega)]; exact byte14 A
  · rw [dAt_dgs A 9 (by omega)]; exact byte12 A
  · rw [dAt_dgs A 10 (by omega)]; exact byte10 A
  · rw [dAt_dgs A 11 (by omega)]; exact byte8 A
  · rw [dAt_dgs A 12 (by omega)]; exact byte6 A
  · rw [dAt_dgs A 13 (by omega)]; exact byte4 A
  · rw [dAt_dgs A 14 (by omega)]; exact byte2 A
  · rw [dAt_dgs A 15 (by omega)]; exact byte0 A
theorem byteO (A j : Nat) (h1 : 1 ≤ j) (h2 : j ≤ 16) : IntKind.u8.wrap ((((dgs A 16).getD (j - 1) 0 % 256 : Nat)) : Int) = bnI A (32 - 2 * j + 1) := by
  have h : j = 1 ∨ j = 2 ∨ j = 3 ∨ j = 4 ∨ j = 5 ∨ j = 6 ∨ j = 7 ∨ j = 8 ∨ j = 9 ∨ j = 10 ∨ j = 11 ∨ j = 12 ∨ j = 13 ∨ j = 14 ∨ j = 15 ∨ j = 16 := by omega
  rcases h with rfl | rfl | rfl | rfl | rfl | rfl | rfl | rfl | rfl | rfl | rfl | rfl | rfl | rfl | rfl | rfl
  · rw [dAt_dgs A 0 (by omega)]; exact byte31 A
  · rw [dAt_dgs A 1 (by omega)]; exact byte29 A
  · rw [dAt_dgs A 2 (by omega)]; exact byte27 A
  · rw [dAt_dgs A 3 (by omega)]; exact byte25 A
  · rw [dAt_dgs A 4 (by omega)]; exact byte23 A
  · rw [dAt_dgs A 5 (by omega)]; exact byte21 A
  · rw [dAt_dgs A 6 (by omega)]; exact byte19 A
  · rw [dAt_dgs A 7 (by omega)]; exact byte17 A
  · rw [dAt_dgs A 8 (by omega)]; exact byte15 A
  · rw [dAt_dgs A 9 (by omega)]; exact byte13 A
  · rw [dAt_dgs A 10 (by omega)]; exact byte11 A
  · rw [dAt_dgs A 11 (by omega)]; exact byte9 A
  · rw [dAt_dgs A 12 (by omega)]; exact byte7 A
  · rw [dAt_dgs A 13 (by omega)]; exact byte5 A
  · rw [dAt_dgs A 14 (by omega)]; exact byte3 A
  · rw [dAt_dgs A 15 (by omega)]; exact byte1 A
theorem bn_take (A k : Nat) (h : k + 2 ≤ 32) : List.take (k + 2) (bn A) = List.take k (bn A) ++ [bnI A k, bnI A (k + 1)] := by
  have hl : (bn A).length = 32 := rfl
  rw [List.take_succ_eq_append_getElem (show k + 1 < (bn A).length by omega), List.take_succ_eq_append_getElem (show k < (bn A).length by omega), List.append_assoc]
  simp [bnI, List.getD_eq_getElem?_getD, List.getElem?_eq_getElem (show k < (bn A).length by omega), List.getElem?_eq_getElem (show k + 1 < (bn A).length by omega)]
theorem bn_map (A k : Nat) (h : k + 2 ≤ 32) : List.map (Value.int .u8) (List.take (k + 2) (bn A)) = List.map (Value.int .u8) (List.take k (bn A)) ++ [.int .u8 (bnI A k), .int .u8 (bnI A (k + 1))] := by rw [bn_take A k h, List.map_append]; rfl
set_option maxRecDepth 100000 in
set_option maxHeartbeats 2000000 in
theorem refbytes_fn (A : Nat) (hA : A < big) : Fn Tryd.prog 34 #[uv A] (.string (bs A)) := by
  refine Fn.intro (c := codeOf Tryd.f34) [.tmp 2] 30 Tryd.func34 kr kr kr fun w => ?_
  have H0 := St.start w
  refine rS [.b, .v] H0 kr fun gs1 w1 H1 => ?_
  clear H0
  refine g_sreg [0, 1, 2] kr kr ?_
  refine rp [.l 0] H1 kr fun gs2 w2 H2 => ?_
  show WPs _ _ _ _ [1, 2] _ _
  clear H1
  refine s_callS H2 (some 7) 35 #[uv A] (fun _ => True) 3 1 (fun curZ capZ nZ lZ => (nZ = List.length lZ ∧ Rw 1 curZ capZ nZ (cellsD lZ) ∧ Ok lZ ∧ (lZ = dgs A 16 ∧ vl lZ = A ∧ List.length lZ = 16))) (of_fn A hA) trivial kr kr ?_
  intro b_1 cap_2 n_3 cur_4 l_5 w3 H3 hs_6; clear H2
  obtain ⟨hs_6n, hs_6r, hs_6o, hs_6s⟩ := hs_6
  obtain ⟨hs_6a, hs_6b, hs_6c⟩ := hs_6s
  refine rp [.v] H3 kr fun gs4 w4 H4 => ?_
  show WPs _ _ _ _ [] _ _
  clear H3
  refine s_nil ?_
  refine rS [.nw (fun b => .slice (some ⟨b, 0, none⟩) 0 0) #[] 5, .v] H4 kr fun gs5 w5 H5 => ?_
  clear H4
  refine g_seq kr ?_
  refine rS [.v] H5 kr fun gs6 w6 H6 => ?_
  clear H5
  refine g_block 0 kr ?_
  have HL1 : St w.heap.size w w6 [(b_1, Obj.cells cur_4 3 (0, 0)), ((gs1 0).b, Obj.cells (Value.cells (uv A)) 24 (0, 0)), ((gs5 0).b, Obj.cells #[] 5 (0, 0))] := H6.as kr
  clear H6
  have HD2 : St w.heap.size w w6 [(b_1, Obj.cells cur_4 3 (0, 0)), ((gs5 0).b, Obj.cells #[] 5 (0, 0))] := HL1.sub (List.Sublist.cons_cons _ (List.Sublist.cons _ (List.Sublist.cons_cons _ List.Sublist.slnil)))
  have HF3 : St w.heap.size w w6 [(b_1, Obj.cells cur_4 3 (0, 0)), ((gs5 0).b, Obj.cells #[] 5 (0, 0))] := HD2.front 0 kr kr
  have HF4 : St w.heap.size w w6 [((gs5 0).b, Obj.cells #[] 5 (0, 0)), (b_1, Obj.cells cur_4 3 (0, 0))] := HF3.front 1 kr kr
  refine g_loop kr (fun mz ρ ww => ∃ (b : Nat) (cap : Nat) (n : Nat) (cur : Array Value) (j : Nat), j = mz ∧ (n = 32 - 2 * j) ∧ (Rw 1 cur cap n (List.map (Value.int .u8) (List.take (32 - 2 * j) (bn A)))) ∧ (j ≤ 16) ∧ St w.heap.size w ww [(b, Obj.cells cur 5 (0, 0)), (b_1, Obj.cells cur_4 3 (0, 0))] ∧ Is [(0, uv A), (1, .pointer (some ⟨(gs1 0).b, 0, none⟩)), (2, .string (⟨#[]⟩)), (3, .slice (some ⟨b_1, 0, none⟩) n_3 cap_2), (4, .slice (some ⟨b, 0, none⟩) n cap), (5, .int .i64 (((j : Nat) : Int) - 1))] ρ) 16 ⟨(gs5 0).b, 0, 0, #[], 16, rfl, rfl, (Rw.lit #[] 0 rfl (by unfold maxLen; omega)), (by omega), HF4, (Is.of ⟨kr, kr, kr, kr, kr, kr, trivial⟩)⟩ ?_
  clear HF4
  rintro _ _ w7 ⟨b, cap, n, cur, j, rfl, hn, hr, hj, H7, _, rfl⟩
  refine g_seq kr ?_
  refine g_sreg [0, 1] kr kr ?_
  refine rp [.v] H7 kr fun gs8 w8 H8 => ?_
  show WPs _ _ _ _ [1] _ _
  clear H7
  by_cases hc5 : (((j : Nat) : Int) - 1 : Int) ≥ 0
  · skip
    refine rp [.e (v := .bool (decide (0 ≤ ((j : Nat) : Int) - 1))) (v' := .bool true) (bool_eq (decide_eq_true (by omega)))] H8 kr fun gs9 w9 H9 => ?_
    show WPs _ _ _ _ [] _ _
    clear H8
    refine s_nil ?_
    refine g_cond_t kr kr ?_
    refine g_skip kr ?_
    show WP _ _ _ _ _ _
    refine g_seq kr ?_
    refine g_block 1 kr ?_
    refine g_now 5 (v := .int .i64 (((j : Nat) : Int) - 1)) (v' := .int .i64 ((j - 1 : Nat) : Int)) (int_eq (show (((j : Nat) : Int) - 1) = ((j - 1 : Nat) : Int) from by omega)) kr ?_
    refine g_now 9 (v := .int .i64 (((j : Nat) : Int) - 1)) (v' := .int .i64 ((j - 1 : Nat) : Int)) (int_eq (show (((j : Nat) : Int) - 1) = ((j - 1 : Nat) : Int) from by omega)) kr ?_
    have hdd := ok_getD hs_6o (j - 1)
    have HL6 : St w.heap.size w w9 [(b, Obj.cells cur 5 (0, 0)), (b_1, Obj.cells cur_4 3 (0, 0))] := H9.as kr
    clear H9
    refine D2.g_draw0 [0, 1, 2, 3, 4, 5, 6, 7, 8, 9, 10, 11, 12, 13, 14, 15] [((some 13), fun _ => .slice (some ⟨b, 0, none⟩) n cap), ((some 14), fun _ => .slice (some ⟨b_1, 0, none⟩) n_3 cap_2), ((some 15), fun _ => .int .i64 ((j - 1 : Nat) : Int)), ((some 16), fun _ => .pointer (some ⟨b_1, 0 + (j - 1) * 1, none⟩)), ((some 17), fun _ => .int .i64 ((List.getD l_5 (j - 1) 0 : Nat) : Int)), ((some 18), fun _ => .int .i64 (((List.getD l_5 (j - 1) 0) / 256 : Nat) : Int)), ((some 19), fun _ => .int .u8 (bnI A (32 - 2 * j))), ((some 20), fun _ => .slice (some ⟨b_1, 0, none⟩) n_3 cap_2), ((some 21), fun _ => .int .i64 ((j - 1 : Nat) : Int)), ((some 22), fun _ => .pointer (some ⟨b_1, 0 + (j - 1) * 1, none⟩)), ((some 23), fun _ => .int .i64 ((List.getD l_5 (j - 1) 0 : Nat) : Int)), ((some 24), fun _ => .int .i64 (((List.getD l_5 (j - 1) 0) % 256 : Nat) : Int)), ((some 25), fun _ => .int .u8 (bnI A (32 - 2 * j + 1))), ((some 26), fun b => .slice (some ⟨b.b, 0, none⟩) 2 2), ((some 27), fun y => .slice (some ⟨y.b, 0, none⟩) y.n y.cap), ((some 4), fun y => .slice (some ⟨y.b, 0, none⟩) (y.n) (y.cap))] (D2.Pre w.heap.size w (fun L g => [(true, (bif L 14 then ((g 14).b, Obj.cells ((g 14).cur) 5 (0, 0)) else (b, Obj.cells cur 5 (0, 0)))), (true, (b_1, Obj.cells cur_4 3 (0, 0))), (L 13, ((g 13).b, Obj.cells #[.int .u8 (bnI A (32 - 2 * j)), .int .u8 (bnI A (32 - 2 * j + 1))] 5 (0, 0)))]) (fun L g => (L 14 = true → ((g 14).n = n + 2 ∧ Rw 1 (g 14).cur (g 14).cap (n + 2) (List.map (Value.int .u8) (List.take (32 - 2 * j + 2) (bn A))))) ∧ (L 15 = true → g 15 = g 14) ∧ True)) kr kr kr ⟨D2.StE.of HL6.drew _ kr, ⟨(fun h => nomatch h), (fun h => nomatch h), trivial⟩⟩ ⟨?_, ?_, ?_, ?_, ?_, ?_, ?_, ?_, ?_, ?_, ?_, ?_, ?_, ?_, ?_, ?_, trivial⟩ ?_
    · exact D2.gv_val (fun _ _ _ h => h) (fun g w => by kernel_rfl)
    · exact D2.gv_val (fun _ _ _ h => h) (fun g w => by kernel_rfl)
    · exact D2.gv_val (fun _ _ _ h => h) (fun g w => by kernel_rfl)
    · exact D2.gv_op (fun _ _ _ h => h) _ (fun g => by kernel_rfl) (fun g => (fun o w ho => idxS_run (kd := .i64) (t := 60) (e := 3) (size := 1) (bytes := 8) kr (x := (.tmp 14)) (y := (.tmp 15)) b_1 0 n_3 cap_2 (j - 1) ho kr kr (by omega) w))
    · exact D2.gv_load1 3 (.tmp 16) 1 (fun g => b_1) (fun g => 0 + (j - 1) * 1) (fun g => cur_4) 3 (0, 0) (fun _ _ _ h => h) (fun g => by kernel_rfl) (fun g => by kernel_rfl) (fun L g hN => kr) kr (fun L g hN hF => by exact (hs_6r.atD (by omega) hs_6n))
    · exact D2.gv_valE (fun _ _ _ h => h) (V' := .int .i64 (IntKind.i64.wrap (((List.getD l_5 (j - 1) 0 : Nat) : Int).tdiv 256))) (fun g w => by kernel_rfl) (int_eq (quoN_i64 (a := List.getD l_5 (j - 1) 0) (b := 256) (by omega)))
    · exact D2.gv_valE (fun _ _ _ h => h) (V' := .int .u8 (IntKind.u8.wrap ((((List.getD l_5 (j - 1) 0) / 256 : Nat) : Int)))) (fun g w => by kernel_rfl) (int_eq (by rw [hs_6a]; exact byteE A j (by omega) (by omega)))
    · exact D2.gv_val (fun _ _ _ h => h) (fun g w => by kernel_rfl)
    · exact D2.gv_val (fun _ _ _ h => h) (fun g w => by kernel_rfl)
    · exact D2.gv_op (fun _ _ _ h => h) _ (fun g => by kernel_rfl) (fun g => (fun o w ho => idxS_run (kd := .i64) (t := 60) (e := 3) (size := 1) (bytes := 8) kr (x := (.tmp 20)) (y := (.tmp 21)) b_1 0 n_3 cap_2 (j - 1) ho kr kr (by omega) w))
    · exact D2.gv_load1 3 (.tmp 22) 1 (fun g => b_1) (fun g => 0 + (j - 1) * 1) (fun g => cur_4) 3 (0, 0) (fun _ _ _ h => h) (fun g => by kernel_rfl) (fun g => by kernel_rfl) (fun L g hN => kr) kr (fun L g hN hF => by exact (hs_6r.atD (by omega) hs_6n))
    · exact D2.gv_valE (fun _ _ _ h => h) (V' := .int .i64 (Int.tmod ((List.getD l_5 (j - 1) 0 : Nat) : Int) 256)) (fun g w => by kernel_rfl) (int_eq (remN (List.getD l_5 (j - 1) 0) 256))
    · exact D2.gv_valE (fun _ _ _ h => h) (V' := .int .u8 (IntKind.u8.wrap ((((List.getD l_5 (j - 1) 0) % 256 : Nat) : Int)))) (fun g w => by kernel_rfl) (int_eq (by rw [hs_6a]; exact byteO A j (by omega) (by omega)))
    · exact D2.gv_new (fun b => .slice (some ⟨b, 0, none⟩) 2 2) #[.int .u8 (bnI A (32 - 2 * j)), .int .u8 (bnI A (32 - 2 * j + 1))] 5 2 (fun g w => by kernel_rfl) (fun L g b hN => kr) (fun L g b hN hF => hF)
    · exact D2.gv_append 69 5 1 1 (.tmp 13) (.tmp 26) 0 2 (fun g => b) (fun g => (g 13).b) (fun g => n) (fun g => 2) (fun g => cap) (fun g => 2) (fun g => cur) (fun g => #[.int .u8 (bnI A (32 - 2 * j)), .int .u8 (bnI A (32 - 2 * j + 1))]) 5 (0, 0) (fun g => (List.map (Value.int .u8) (List.take (32 - 2 * j) (bn A)))) (fun g => [.int .u8 (bnI A (32 - 2 * j)), .int .u8 (bnI A (32 - 2 * j + 1))]) (fun g => by kernel_rfl) kr (fun g => by kernel_rfl) (fun L g hN => (by have hL14 : L 14 = false := hN.1; exact D2.ent_get' (p := true) (e := (bif L 14 then ((g 14).b, Obj.cells ((g 14).cur) 5 (0, 0)) else (b, Obj.cells cur 5 (0, 0)))) kr (by rfl) (by simp only [hL14, cond_false] <;> rfl))) (fun L g hN hF => by exact hr) (fun g => by kernel_rfl) (fun L g hN => (by have hL13 : L 13 = true := (hN.bef 13 kr); exact D2.ent_get' (p := L 13) (e := ((g 13).b, Obj.cells #[.int .u8 (bnI A (32 - 2 * j)), .int .u8 (bnI A (32 - 2 * j + 1))] 5 (0, 0))) kr (by exact hL13) (by simp only [] <;> rfl))) (fun L g hN hF => by exact ⟨(by rfl), (by rfl), (by intro u hu; simp at hu; first | exact hu.elim | (rcases hu with rfl | rfl | rfl | rfl <;> rfl) | (rcases hu with rfl | rfl <;> rfl) | (subst hu; rfl)), (by omega), (by unfold maxLen; omega)⟩) (fun L g y hN => kr) (fun L g y hN hF hyn hyr => by have hnew := (show (y.n = n + 2 ∧ Rw 1 y.cur y.cap (n + 2) (List.map (Value.int .u8) (List.take (32 - 2 * j + 2) (bn A)))) from ⟨hyn, by rw [bn_map A _ (by omega)]; exact hyr⟩); exact ⟨fun _ => hnew, (fun hx => nomatch (Eq.trans (Eq.symm (show L 15 = true from hx)) (hN.post 15 kr))), trivial⟩)
    · exact D2.gv_valG (fun g => g 14) (fun L g w hN hp => ⟨hp.1, hp.2.1, fun _ => rfl, trivial⟩) (fun g w => by kernel_rfl)
    intro L0 G10 w10 hall HL; clear HL6
    have H10 : St w.heap.size w w10 [((G10 14).b, Obj.cells ((G10 14).cur) 5 (0, 0)), (b_1, Obj.cells cur_4 3 (0, 0)), ((G10 13).b, Obj.cells #[.int .u8 (bnI A (32 - 2 * j)), .int .u8 (bnI A (32 - 2 * j + 1))] 5 (0, 0))] := by have e13 := hall 13 (Nat.le_of_ble_eq_true kr); have e14 := hall 14 (Nat.le_of_ble_eq_true kr); have e15 := hall 15 (Nat.le_of_ble_eq_true kr); have hS := D2.StE.st HL.1; simp only [e13, e14, cond_true, D2.pres] at hS; exact hS
    have hf14_10 : ((G10 14).n = n + 2 ∧ Rw 1 (G10 14).cur (G10 14).cap (n + 2) (List.map (Value.int .u8) (List.take (32 - 2 * j + 2) (bn A)))) := HL.2.1 (hall 14 (Nat.le_of_ble_eq_true kr))
    have hf15_10 : G10 15 = G10 14 := HL.2.2.1 (hall 15 (Nat.le_of_ble_eq_true kr))
    clear HL hall
    rw [← hf15_10] at H10 hf14_10
    show WP _ _ _ _ _ _
    refine g_keep [0, 1, 2, 3, 4, 5, 10] fun ρ1 => ?_
    refine rL [.v, .e (v := .int .i64 (IntKind.i64.wrap (((j - 1 : Nat) : Int) - 1))) (v' := .int .i64 (((j - 1 : Nat) : Int) - 1)) (int_eq (wrap_i64 (by omega) (by omega))), .v] H10 kr fun gs11 w11 H11 => ?_
    clear H10
    have HL7 : St w.heap.size w w11 [((G10 15).b, Obj.cells ((G10 15).cur) 5 (0, 0)), (b_1, Obj.cells cur_4 3 (0, 0)), ((G10 13).b, Obj.cells #[.int .u8 (bnI A (32 - 2 * j)), .int .u8 (bnI A (32 - 2 * j + 1))] 5 (0, 0))] := H11.as kr
    clear H11
    have HD8 : St w.heap.size w w11 [((G10 15).b, Obj.cells ((G10 15).cur) 5 (0, 0)), (b_1, Obj.cells cur_4 3 (0, 0))] := HL7.sub (List.Sublist.cons_cons _ (List.Sublist.cons_cons _ (List.Sublist.cons _ List.Sublist.slnil)))
    show ∃ m, _ ∧ _
    exact ⟨_, (by omega), (G10 15).b, (G10 15).cap, (G10 15).n, (G10 15).cur, (j - 1), rfl, (by have h9 := hf14_10.1; omega), (by have h9 := hf14_10; rw [show 32 - 2 * (j - 1) = 32 - 2 * j + 2 by omega, h9.1]; exact h9.2), (by omega), HD8, (Is.of ⟨kr, kr, kr, kr, kr, kr, trivial⟩)⟩
  · skip
    refine rp [.e (v := .bool (decide (0 ≤ ((j : Nat) : Int) - 1))) (v' := .bool false) (bool_eq (decide_eq_false (by omega)))] H8 kr fun gs12 w12 H12 => ?_
    show WPs _ _ _ _ [] _ _
    clear H8
    refine s_nil ?_
    refine g_cond_f kr kr ?_
    refine g_exit 0 kr ?_
    show WP _ _ _ _ _ _
    obtain rfl : j = 0 := by omega
    refine g_sreg [0, 1, 2] kr kr ?_
    refine rp [.v] H12 kr fun gs13 w13 H13 => ?_
    show WPs _ _ _ _ [1, 2] _ _
    clear H12
    refine s_bytesStr H13 (some 29) 69 9 5 (.tmp 28) 0 b n cap cur 5 (0, 0) (bn A) kr kr kr kr kr kr kr hr ?_
    refine rp [.v] H13 kr fun gs14 w14 H14 => ?_
    show WPs _ _ _ _ [] _ _
    clear H13
    refine s_nil ?_
    refine g_ret kr ?_
    show ∃ vs, Res _ _ _ _ vs ∧ _
    refine ⟨[.string (strOfNums (bn A))], (.tmp (.string (strOfNums (bn A))) kr .nil), ?_, H14.below⟩
    rfl
end Go.Proofs.YtmmloghbnpfedaaDoor

namespace Go.Proofs.Kec
set_option maxRecDepth 100000
def e0 : List B64 := [1, 0, 0, 0, 0, 0, 0, 0, 0, 0, 0, 0, 0, 0, 0, 0, 9223372036854775808, 0, 0, 0, 0, 0, 0, 0, 0]
def e1 : List B64 := [4398046511105, 17592186044416, 4398046543872, 0, 17592186077184, 8, 52776560230400, 1152921504606846984, 52776558133248, 1152921504608944128, 2, 544, 262144, 514, 262176, 268436480, 68719493120, 1024, 268451840, 68719476736, 2305844108725321728, 2199023255552, 1099511627780, 2305845208236949504, 4]
def e2 : List B64 := [3904711243048682726, 1207872589841957126, 3184368193241127169, 12971028319727649889, 10286551402689075458, 1259783720018274, 12214679202016067586, 9224121225299901428, 2992272534782738451, 9800689182623078597, 4611726720294328428, 11685850236297012, 1495365005022904395, 15813382930697286, 6111808659584533265, 124981832595311936, 2684240834651972352, 4912301736543682948, 2488263262048755776, 4778390286886047620, 1163347847091065233, 16868443555924821730, 154580546982776916, 15564660919037354401, 2456770817776948750]
def e3 : List B64 := [8289102824591434380, 2650440079073489379, 11459863657423534455, 3078203046191370419, 10243614441579508732, 6715684478468316285, 9021721613749738627, 16323907559936263589, 14712371453287876238, 13207516449244145029, 6716728777335539109, 2516792122779427716, 5461754274945430388, 3341045827627689583, 3296329752392194682, 14297203439033465259, 11493424483223189197, 10504499887245279853, 3308135633588744113, 5098721825536174192, 8664368315221462042, 11716894083276002874, 2098923162028634215, 7303567510403455548, 4883930803803657273]
def e4 : List B64 := [9145702616912342758, 16632607361196628137, 5807045512169203855, 6548049296825423573, 2911560703121806936, 12452414146356170408, 431667818003843456, 4945739612319476974, 12460092556240016733, 7658648394962756264, 13350366495830902207, 1953387479264944757, 17420282858972716739, 1215582556029742168, 7692344429658740155, 17977349082556873670, 1858614526669458582, 10964871947398476332, 15514956647893279288, 179932933774914631, 17508529487041048502, 7503018368851633981, 929261442150911620, 2851383533632874710, 7153482467733786193]
def e5 : List B64 := [3217695626026700231, 7228520851561084131, 7840336919730310393, 6868346474795808920, 5817928043512098185, 483728965144457366, 2094125954139152251, 13290615271988912878, 6116732081573619054, 12404040371124941288, 5210583702804515577, 6569965374713754428, 9650717987591950737, 1838917144515589093, 6206879949013857101, 13836215650485784034, 2777104299206127432, 9162378715153818446, 2579248593664187030, 4649761399498197408, 4345672674621089333, 17727600499527599874, 15951120162837397783, 1486441073599636038, 7526975559096822753]
def e6 : List B64 := [248066060412482913, 10809642231442205384, 5504895099598155415, 2584332703152910123, 10449879252273190592, 13355132533173292400, 16887410369553470650, 1390404604944908871, 10467819199160078225, 12586248386544345989, 13287309445471910499, 9168388512907289048, 10117223767413104261, 15763460986669702239, 10756186891316440689, 4278624213941474887, 14275455272196532991, 18250878328984007816, 4482727192120861170, 9721683024389909677, 9163772564863624264, 8489753604216688595, 816201186782976613, 1144184611068540487, 4128866423754115227]
def e7 : List B64 := [18402963122672406245, 17859514631694764789, 14428715717768966649, 457031613351869429, 10894224858909162407, 8575137199002047859, 17809232792270138362, 4808146580191774126, 14627578404221294643, 7601016815347446848, 8500045888007553416, 2044036892383418708, 15900193137531961059, 8052354359019095129, 17216125304898466993, 16993524951797960044, 5609346022144275528, 15760809127494505806, 8446841439649264471, 18088848446523253189, 8270102827973632420, 9423595931552552983, 16228370102390044934, 12045389637071608679, 7056785534201200939]
def e8 : List B64 := [12753376061805899333, 2111981560556758208, 13166824882716378987, 12172034681548868104, 16455514320282466043, 3265329870635658802, 5063956176412677616, 15307341599108955523, 17042901249887048594, 15606817482875957131, 12401061165045441397, 14112825205738012444, 7528182654139171963, 679949399121675847, 16110029214220444666, 16075443586991710645, 11809122633193920135, 824682708434772612, 9546558219524207792, 14570838741769169544, 16015354101246307490, 14937681164076894612, 16170554185854218030, 13411014959602602192, 17659497305141992864]
def e9 : List B64 := [16607373423488820546, 2151422635867277830, 6572340985991069695, 14653210170250470996, 11791760579977573355, 4065323483469060406, 7283395855969466639, 13325119192580981824, 240953767092294249, 4061085087821419309, 15280882476846897925, 2750505582437592369, 2704748849273168765, 6327325585883090832, 2013544036530064293, 11337392647161457476, 9951477293767922198, 15216922623802272473, 4089965193502969186, 10262383148774694472, 11601735218912882699, 3910853304622802100, 1874362684601583732, 14635665072728267742, 11912924353201045756]
def e10 : List B64 := [12443570198016410408, 15073234423324879037, 16538284292177595253, 770694436111563450, 4661629519587471725, 4134871225352118654, 4776995384142827210, 15478826137546518068, 18066846374717646578, 14270287239788042585, 2910516952809473229, 949633455367371438, 5615595303185522976, 12732927536893994306, 1974801021048620803, 8494920415961791039, 4379175404697166052, 779617988408921914, 11515541233266066687, 10851941993204617098, 17521537655693928411, 15329457299099953713, 8642253880621323691, 13248831312752232176, 9167496934457325936]
def e11 : List B64 := [2784670699769870044, 12458046501618073558, 14125649387247164462, 2371862000334975945, 17449621713181921370, 18084473122477533316, 10555653529814021168, 1286435700208258660, 7900972333389060382, 13695579594619900831, 14617506584737283108, 16851691067561729428, 8573020770547936416, 15064676017279082892, 17197415585843555401, 15776906507246342037, 9813731578541049216, 12800378173865872612, 15297178561593300238, 11409222445058284577, 15122744860265765604, 5517594499147034503, 7999930204173150732, 15392201373165449930, 12679951944464799674]
def e12 : List B64 := [16291156846118844451, 9692757143822035377, 17748466164917623592, 18297723408675364712, 5768111022144358297, 5032647943730211172, 240223639921337555, 3573006762761062315, 4418081664467045005, 14050874540553342331, 10482449059741954494, 13992079101437996990, 2435977504749834253, 10982271880190543118, 11974228964236697225, 15115158931448373871, 12735725188152392398, 7627438592320754813, 272652177933322935, 14245570792134504674, 8744534987003128554, 11356875620725102920, 8928226865784257667, 1524680525473545806, 2896276078172484414]
def e13 : List B64 := [6665051101374537130, 5495771786181444414, 12537915500868265617, 17060231565289718284, 15561324751258473602, 7930404497004154902, 8849067938713931991, 6658565175150454632, 5282570462567558459, 11559245968373515903, 16566202011258081367, 674556369021680881, 3345820050997912695, 4671081468424751526, 7757084567577850828, 8502623553496775840, 3955259317059675661, 8106862701908889232, 6703677908344537012, 6580670985836187516, 9403347355581011122, 7905832091148999944, 5292914193962333749, 11887527448341663821, 16621059256266911255]
def e14 : List B64 := [10716439878011516281, 15967399425266700355, 12076011584974892592, 16248055671756128434, 10643350871698206347, 10594214463648586357, 7116189751946765041, 7750545512743031734, 18247594507314572309, 7378220163111131807, 14999407657225623861, 7928369854754402115, 17844316675013910964, 15171488774331430663, 7614485196347525793, 11605212344200916950, 15157978784662469348, 11718935584924530645, 5535191362811376685, 14772790920984104005, 10448524766163212306, 4825435813474788858, 17005218769600310333, 13954843883325706830, 4929584870877703474]
def e15 : List B64 := [1319998251610336165, 5389285008839651730, 9332282829561635961, 9409139626766683675, 6470951802939581099, 17252944717417249465, 17165277815629499916, 3963403808094557162, 14184007887274758158, 9596262242135920298, 10210589069919534081, 14250294093777783787, 8039572666876461379, 2368146889392807232, 1812659259149163614, 16807801796138206746, 11647457970582845122, 6166919066429959443, 1147388708393040668, 1303057136894895726, 1903883279373033606, 2131164935238924974, 4953436646693238779, 2641527683450144340, 2816144971954173157]
def e16 : List B64 := [13881630218582485081, 16617007106358093478, 8370579830314427868, 1713224054433245973, 13627151018451951556, 10871226027031491916, 4699765345504525133, 4286537013572583285, 17310739681736795836, 99398265043109114, 3545503971586557412, 7556410075305792076, 15679693291762405836, 2729857338541306968, 1921741768395976932, 14263894358714132532, 11009055271111244000, 845971141115169140, 13270182711450419347, 17079085579333711468, 10503578552956300308, 6627023678281057244, 5403374185706104778, 6659075922477107110, 8592110512596117136]
def e17 : List B64 := [8416411914720361245, 3448560865030073472, 3919536279875559698, 5573607003621883193, 984465805306826053, 15024535068875014392, 3681621266475130062, 9998293171501847344, 14839532389281272683, 533539312507974110, 16824156633091540864, 16389535479321433015, 13782841269213835654, 4122073509668400045, 7683819886385778366, 3592048281988696895, 8681389608761840015, 17598965942532483458, 16560167496673567885, 8777595276064781908, 9594426284182731638, 13108639988284796722, 15254667260581302934, 2433642677842468666, 1064465948127417059]
def e18 : List B64 := [534296193886098135, 3695287213502380591, 11532049842336470888, 17974523857070849737, 12954850201481240735, 5716772798672216727, 2583007236467463893, 10427970853733301948, 700439106234402195, 7192762512095310632, 4383158246966191391, 18315691205404178545, 18043931791961935518, 16287759594864535142, 15352249056180256782, 18367201066277418680, 6748360514621293390, 9837915013220625665, 12422998273549796530, 12621865645966804366, 4594662070598184093, 8622633690173154066, 12904333489760771204, 385777527094370260, 6037929239432104378]
def e19 : List B64 := [17242234307811427515, 7298945131924620938, 12512959417444303430, 16244176617175768424, 3826401358280227816, 8589395152097341129, 18321848104009695025, 11680515094655873510, 3680928998899718032, 5209258824295493052, 14420353876404795782, 13596398079702832869, 12202387532391994898, 721433745371800063, 9896885544113945439, 6680377346781173919, 5332700740124661618, 13318027231967735991, 16563930016949065197, 220674366890030230, 6699529091897125322, 2739507427232859638, 15711608159680198358, 15839554650221487652, 11575241304029856712]
def e20 : List B64 := [16702010266589328720, 11785696339686387325, 16232021429448662837, 4621936354538492110, 16839935569400247044, 3516106972774747115, 11724013555230036502, 7480607343544516906, 14577750021349342573, 2421771942493426498, 8252672638237332873, 8249004131460997133, 778286484670419507, 5467066643722607965, 1760155417958766819, 5539793005320924506, 11397623340431491872, 12864342638065520035, 12083379459737583179, 14892306294104856657, 14623186648705301253, 5128653977437664874, 14734488673449380773, 17399174579470271659, 14787652485258740643]
def e21 : List B64 := [16488390307541943305, 17559693018003947265, 9108537271992078214, 10423841811661870631, 3040236185740504183, 857882767517711827, 3492714315419207287, 2789125034051568249, 81920884436605105, 13331759205602966770, 16754353820981313164, 6741055624195280880, 5263857701266955350, 4627132801428790548, 7422782385993692804, 3730241882621406845, 4399100234652493596, 15025317568737056282, 4375033872217880358, 3359671850727625416, 1362862387812853932, 8387689881403993048, 8688947589982045175, 11585555971117405732, 16397411802621700634]
def e22 : List B64 := [7468857592912166551, 7509402213287554103, 5920166622310057021, 1245229838719934601, 11412606850931652734, 4778997266118777220, 13503050704312239975, 9078797036224177493, 9046123609337478232, 2279923682132033021, 968663569872637247, 12528780394224896734, 15109038439802043243, 2514154137644936742, 13074992029672084631, 9981334051720804394, 10929166993946436931, 10786302343937411402, 2172383237928275479, 15222838835840319035, 6535328264755286323, 3021073620629705380, 6914764477367934026, 14161662948158972437, 2646073473019538392]
def e23 : List B64 := [13219969621820782240, 3226093193424914092, 10846161881167012984, 13470522419822434072, 9395429576182681946, 8530498048516093610, 5651939854162289461, 7915235748700633099, 16590736201521082154, 11443586452577361644, 11578784407731530241, 12555284199035474007, 103191304442796045, 2407050918456829886, 8809156603158525029, 15242461923984447565, 13645658932555888328, 11207932644415108528, 2606492158503956003, 17367323008410274790, 14914538695926853805, 15728690031541589181, 7389391625128953151, 12128506732059288731, 17622300515349969486]
def e24 : List B64 := [4333579421379646149, 13836122230913597074, 4262519377828905189, 8116759062988257915, 8406387447366859581, 14671339323370021561, 2243375101132795228, 9371364203318886753, 9347994793612953298, 12814238161780307547, 4391692840257016808, 4309499098775122448, 13438072403645551266, 18018124564071650747, 4323130096954625545, 16970298442240338249, 1971761234120675839, 450719451514497906, 18340686150147091359, 11254645818134300982, 16062291397582171322, 1601982631079003425, 7734681229251997073, 13256946727218518206, 11816912122432958423]
end Go.Proofs.Kec

namespace Go.Proofs.YtmmloghbnpfedaaDoor.Ke
open Go Go.RowKit Go.Proofs.Kec
set_option linter.unusedVariables false
def uvT : Nat → Nat × Nat
  | 0 => (1, 0)
  | t + 1 => ((uvT t).2, (2 * (uvT t).1 + 3 * (uvT t).2) % 5)
theorem uvT_lt : ∀ t, (uvT t).1 < 5 ∧ (uvT t).2 < 5
  | 0 => by decide
  | t + 1 => ⟨(uvT_lt t).2, Nat.mod_lt _ (by decide)⟩
def rotN (x y : Nat) : Nat := match (List.range 24).find? (fun t => uvT t == (x, y)) with | some t => (t + 1) * (t + 2) / 2 % 64 | none => 0
theorem rotN_at {x y t : Nat} (ht : t < 24) (hno : ∀ j, j < t → uvT j ≠ (x, y)) (h1 : (uvT t).1 = x) (h2 : (uvT t).2 = y) : rotN x y = (t + 1) * (t + 2) / 2 % 64 := by
  unfold rotN
  have : (List.range 24).find? (fun t => uvT t == (x, y)) = some t := by
    rw [List.find?_range_eq_some]
    refine ⟨by simp [← h1, ← h2], by simp [ht], fun j hj => by simpa using hno j hj⟩
  rw [this]
theorem rotN_no {x y : Nat} (hno : ∀ j, j < 24 → uvT j ≠ (x, y)) : rotN x y = 0 := by
  unfold rotN
  have : (List.range 24).find? (fun t => uvT t == (x, y)) = none := by
    rw [List.find?_eq_none]; intro j hj; simpa using hno j (by simpa using hj)
  rw [this]
def regT : Nat → Nat
  | 0 => 1
  | k + 1 => if 2 * regT k > 255 then (2 * regT k) ^^^ 369 else 2 * regT k
theorem xor369 : ∀ r : Fin 512, Go.bits .xor .i64 ((r.val : Nat) : Int) 369 = ((r.val ^^^ 369 : Nat) : Int) := by decide +kernel
theorem reg_small : ∀ r : Fin 512, 255 < r.val → r.val ^^^ 369 < 256 := by decide +kernel
theorem regT_lt : ∀ k, regT k < 256
  | 0 => by decide
  | k + 1 => by
    have := regT_lt k
    unfold regT
    split
    · exact reg_small ⟨2 * regT k, by omega⟩ (by simp only; omega)
    · omega
theorem regX (k : Nat) : Go.bits .xor .i64 (((2 * regT k : Nat)) : Int) 369 = ((2 * regT k ^^^ 369 : Nat) : Int) := xor369 ⟨2 * regT k, by have := regT_lt k; omega⟩
def bitsT (k : Nat) : List Nat := (List.range k).map fun j => regT j % 2
theorem bitsT_succ (k : Nat) : bitsT (k + 1) = bitsT k ++ [regT k % 2] := by unfold bitsT; rw [List.range_succ, List.map_append]; rfl
theorem bitsT_len (k : Nat) : (bitsT k).length = k := by unfold bitsT; simp
def lastB (i : Nat) : Nat → BitVec 64
  | 0 => 0
  | j + 1 => if (bitsT 168).getD (j + 7 * i) 0 = 1 then lastB i j ||| (1 <<< (2 ^ j - 1)) else lastB i j
theorem last_mark : ∀ i : Fin 24, lastB i.val 7 = Kec.marks.getD i.val 0 := by decide +kernel
set_option maxRecDepth 100000 in
set_option maxHeartbeats 2000000 in
theorem at_fn (x y : Nat) (hx : x < 100) (hy : y < 100) : Fn Tryd.prog 99 #[.int .i64 ((x : Nat) : Int), .int .i64 ((y : Nat) : Int)] (.int .i64 ((x % 5 + 5 * (y % 5) : Nat) : Int)) := by
  refine Fn.intro (c := codeOf Tryd.f99) [.tmp 4] 11 Tryd.func99 kr kr kr fun w => ?_
  have H0 := St.start w
  refine rS [.v] H0 kr fun gs1 w1 H1 => ?_
  clear H0
  refine rS [.v, .e (v := .int .i64 (Int.tmod ((x : Nat) : Int) 5)) (v' := .int .i64 ((x % 5 : Nat) : Int)) (int_eq (remN x 5)), .v, .e (v := .int .i64 (Int.tmod ((y : Nat) : Int) 5)) (v' := .int .i64 ((y % 5 : Nat) : Int)) (int_eq (remN y 5)), .e (v := .int .i64 (IntKind.i64.wrap (5 * ((y % 5 : Nat) : Int)))) (v' := .int .i64 ((5 * (y % 5) : Nat) : Int)) (int_eq (wrapMul_i64 (a := 5) (b := y % 5) (by omega))), .e (v := .int .i64 (IntKind.i64.wrap (((x % 5 : Nat) : Int) + ((5 * (y % 5) : Nat) : Int)))) (v' := .int .i64 (((x % 5) + (5 * (y % 5)) : Nat) : Int)) (int_eq (wrapAdd_i64 (a := x % 5) (b := 5 * (y % 5)) (by omega))), .v] H1 kr fun gs2 w2 H2 => ?_
  clear H1
  refine g_ret kr ?_
  show ∃ vs, Res _ _ _ _ vs ∧ _
  refine ⟨[.int .i64 (((x % 5) + (5 * (y % 5)) : Nat) : Int)], (.tmp (.int .i64 (((x % 5) + (5 * (y % 5)) : Nat) : Int)) kr .nil), ?_, H2.below⟩
  rfl
set_option maxRecDepth 100000 in
set_option maxHeartbeats 2000000 in
theorem left0_fn (x : BitVec 64) : Fn Tryd.prog 100 #[.int .u64 ((BitVec.toNat x : Nat) : Int), .int .i64 0] (.int .u64 ((BitVec.toNat x : Nat) : Int)) := by
  refine Fn.intro (c := codeOf Tryd.f100) [.tmp 4] 18 Tryd.func100 kr kr kr fun w => ?_
  have H0 := St.start w
  refine rS [.v] H0 kr fun gs1 w1 H1 => ?_
  clear H0
  refine g_seq kr ?_
  refine rS [.v, .v] H1 kr fun gs2 w2 H2 => ?_
  clear H1
  refine g_cond_t kr kr ?_
  refine rS [.v, .v] H2 kr fun gs3 w3 H3 => ?_
  clear H2
  refine g_ret kr ?_
  show ∃ vs, Res _ _ _ _ vs ∧ _
  refine ⟨[.int .u64 ((BitVec.toNat x : Nat) : Int)], (.tmp (.int .u64 ((BitVec.toNat x : Nat) : Int)) kr .nil), ?_, H3.below⟩
  rfl
set_option maxRecDepth 100000 in
set_option maxHeartbeats 2000000 in
theorem left_fn (x : BitVec 64) (n : Nat) (h0 : 0 < n) (hn : n < 64) : Fn Tryd.prog 100 #[.int .u64 ((BitVec.toNat x : Nat) : Int), .int .i64 ((n : Nat) : Int)] (.int .u64 ((BitVec.toNat (rl x n) : Nat) : Int)) := by
  refine Fn.intro (c := codeOf Tryd.f100) [.tmp 4] 18 Tryd.func100 kr kr kr fun w => ?_
  have H0 := St.start w
  refine rS [.v] H0 kr fun gs1 w1 H1 => ?_
  clear H0
  refine g_seq kr ?_
  refine rS [.v, .e (v := .bool (((n : Nat) : Int) == 0)) (v' := .bool false) (bool_eq (beq_eq_false_iff_ne.2 (by omega)))] H1 kr fun gs2 w2 H2 => ?_
  clear H1
  refine g_cond_f kr kr ?_
  refine g_skip kr ?_
  show WP _ _ _ _ _ _
  refine rS [.v, .v, .e (v := .int .u64 (IntKind.u64.wrap (((n : Nat) : Int)))) (v' := .int .u64 ((n : Nat) : Int)) (int_eq (wrapN_u64 (a := n) (by omega))), .e (v := .int .u64 (IntKind.u64.wrap ((((BitVec.toNat x : Nat) : Int)) * 2 ^ (min n 64)))) (v' := .int .u64 ((BitVec.toNat (x <<< n) : Nat) : Int)) (bv_shl_u64 x n), .v, .v, .e (v := .int .i64 (IntKind.i64.wrap (64 - ((n : Nat) : Int)))) (v' := .int .i64 ((64 - n : Nat) : Int)) (int_eq (wrapSub_i64 (a := 64) (b := n) (by omega))), .e (v := .int .u64 (IntKind.u64.wrap (((64 - n : Nat) : Int)))) (v' := .int .u64 ((64 - n : Nat) : Int)) (int_eq (wrapN_u64 (a := 64 - n) (by omega))), .e (v := .int .u64 (Int.fdiv (((BitVec.toNat x : Nat) : Int)) (2 ^ (min (64 - n) 64)))) (v' := .int .u64 ((BitVec.toNat (x >>> (64 - n)) : Nat) : Int)) (bv_shr_u64 x (64 - n)), .e (v := .int .u64 (Go.bits .or .u64 (((BitVec.toNat (x <<< n) : Nat) : Int)) (((BitVec.toNat (x >>> (64 - n)) : Nat) : Int)))) (v' := .int .u64 ((BitVec.toNat ((x <<< n) ||| (x >>> (64 - n))) : Nat) : Int)) (bv_or_u64 (x <<< n) (x >>> (64 - n))), .v] H2 kr fun gs3 w3 H3 => ?_
  clear H2
  refine g_ret kr ?_
  show ∃ vs, Res _ _ _ _ vs ∧ _
  refine ⟨[.int .u64 ((BitVec.toNat ((x <<< n) ||| (x >>> (64 - n))) : Nat) : Int)], (.tmp (.int .u64 ((BitVec.toNat ((x <<< n) ||| (x >>> (64 - n))) : Nat) : Int)) kr .nil), ?_, H3.below⟩
  rw [← rl_of x n hn]; rfl
set_option maxRecDepth 100000 in
set_option maxHeartbeats 2000000 in
theorem turnR_fn (x y : Nat) (hx : x < 5) (hy : y < 5) : Fn Tryd.prog 101 #[.int .i64 ((x : Nat) : Int), .int .i64 ((y : Nat) : Int)] (.int .i64 ((rotN x y : Nat) : Int)) := by
  refine Fn.intro (c := codeOf Tryd.f101) [.tmp 4] 36 Tryd.func101 kr kr kr fun w => ?_
  have H0 := St.start w
  refine rS [.v] H0 kr fun gs1 w1 H1 => ?_
  clear H0
  refine rS [.v] H1 kr fun gs2 w2 H2 => ?_
  clear H1
  refine rS [.v] H2 kr fun gs3 w3 H3 => ?_
  clear H2
  refine g_seq kr ?_
  refine rS [.v] H3 kr fun gs4 w4 H4 => ?_
  clear H3
  refine g_block 0 kr ?_
  have HL1 : St w.heap.size w w4 [] := H4.as kr
  clear H4
  refine g_loop kr (fun mz ρ ww => ∃ (t : Nat), 24 - t = mz ∧ (t ≤ 24) ∧ (∀ j, j < t → uvT j ≠ (x, y)) ∧ St w.heap.size w ww [] ∧ Is [(0, .int .i64 ((x : Nat) : Int)), (1, .int .i64 ((y : Nat) : Int)), (5, .int .i64 (((uvT t).1 : Nat) : Int)), (6, .int .i64 (((uvT t).2 : Nat) : Int)), (7, .int .i64 ((t : Nat) : Int))] ρ) (24 - 0) ⟨0, rfl, (by omega), (fun j hj => absurd hj (by omega)), HL1, (Is.of ⟨kr, kr, kr, kr, kr, trivial⟩)⟩ ?_
  clear HL1
  rintro _ _ w5 ⟨t, rfl, ht, hno, H5, _, rfl⟩
  have hlt := uvT_lt t
  refine g_seq kr ?_
  refine g_sreg [0, 1] kr kr ?_
  refine rp [.v] H5 kr fun gs6 w6 H6 => ?_
  show WPs _ _ _ _ [1] _ _
  clear H5
  by_cases hc2 : (t : Nat) < 24
  · skip
    refine rp [.e (v := .bool (decide (((t : Nat) : Int) < 24))) (v' := .bool true) (bool_eq (decide_eq_true (by omega)))] H6 kr fun gs7 w7 H7 => ?_
    show WPs _ _ _ _ [] _ _
    clear H6
    refine s_nil ?_
    refine g_cond_t kr kr ?_
    refine g_skip kr ?_
    show WP _ _ _ _ _ _
    refine g_seq kr ?_
    refine g_block 1 kr ?_
    refine g_seq kr ?_
    refine g_sreg [0, 1, 2, 3, 4, 5, 6, 7] kr kr ?_
    refine rp [.v, .v] H7 kr fun gs8 w8 H8 => ?_
    show WPs _ _ _ _ [2, 3, 4, 5, 6, 7] _ _
    clear H7
    by_cases hc3 : ((uvT t).1 : Nat) = x
    · skip
      refine rp [.e (v := .bool ((((uvT t).1 : Nat) : Int) == ((x : Nat) : Int))) (v' := .bool true) (bool_eq (beq_iff_eq.2 (by omega))), .v, .v, .v] H8 kr fun gs9 w9 H9 => ?_
      show WPs _ _ _ _ [6, 7] _ _
      clear H8
      by_cases hc4 : ((uvT t).2 : Nat) = y
      · skip
        refine rp [.e (v := .bool ((((uvT t).2 : Nat) : Int) == ((y : Nat) : Int))) (v' := .bool true) (bool_eq (beq_iff_eq.2 (by omega))), .v] H9 kr fun gs10 w10 H10 => ?_
        show WPs _ _ _ _ [] _ _
        clear H9
        refine s_nil ?_
        refine g_cond_t kr kr ?_
        refine g_sreg [0, 1, 2, 3, 4, 5, 6, 7] kr kr ?_
        refine rp [.v, .e (v := .int .i64 (IntKind.i64.wrap (((t : Nat) : Int) + 1))) (v' := .int .i64 ((t + 1 : Nat) : Int)) (int_eq (wrapAdd_i64 (a := t) (b := 1) (by omega))), .v, .e (v := .int .i64 (IntKind.i64.wrap (((t : Nat) : Int) + 2))) (v' := .int .i64 ((t + 2 : Nat) : Int)) (int_eq (wrapAdd_i64 (a := t) (b := 2) (by omega)))] H10 kr fun gs11 w11 H11 => ?_
        show WPs _ _ _ _ [4, 5, 6, 7] _ _
        clear H10
        have hmul : (t + 1) * (t + 2) ≤ 25 * 26 := Nat.mul_le_mul (by omega) (by omega)
        refine rp [.e (v := .int .i64 (IntKind.i64.wrap (((t + 1 : Nat) : Int) * ((t + 2 : Nat) : Int)))) (v' := .int .i64 (((t + 1) * (t + 2) : Nat) : Int)) (int_eq (wrapMul_i64 (a := t + 1) (b := t + 2) (by omega))), .e (v := .int .i64 (IntKind.i64.wrap ((((t + 1) * (t + 2) : Nat) : Int).tdiv 2))) (v' := .int .i64 ((((t + 1) * (t + 2)) / 2 : Nat) : Int)) (int_eq (quoN_i64 (a := (t + 1) * (t + 2)) (b := 2) (by omega))), .e (v := .int .i64 (Int.tmod ((((t + 1) * (t + 2)) / 2 : Nat) : Int) 64)) (v' := .int .i64 (((((t + 1) * (t + 2)) / 2) % 64 : Nat) : Int)) (int_eq (remN (((t + 1) * (t + 2)) / 2) 64)), .v] H11 kr fun gs12 w12 H12 => ?_
        show WPs _ _ _ _ [] _ _
        clear H11
        refine s_nil ?_
        refine g_ret kr ?_
        show ∃ vs, Res _ _ _ _ vs ∧ _
        refine ⟨[.int .i64 (((((t + 1) * (t + 2)) / 2) % 64 : Nat) : Int)], (.tmp (.int .i64 (((((t + 1) * (t + 2)) / 2) % 64 : Nat) : Int)) kr .nil), ?_, H12.below⟩
        rw [rotN_at (t := t) (by omega) hno (by omega) (by omega)]; rfl
      · skip
        refine rp [.e (v := .bool ((((uvT t).2 : Nat) : Int) == ((y : Nat) : Int))) (v' := .bool false) (bool_eq (beq_eq_false_iff_ne.2 (by omega))), .v] H9 kr fun gs13 w13 H13 => ?_
        show WPs _ _ _ _ [] _ _
        clear H9
        refine s_nil ?_
        refine g_cond_f kr kr ?_
        refine g_skip kr ?_
        show WP _ _ _ _ _ _
        refine rS [.v, .v] H13 kr fun gs14 w14 H14 => ?_
        clear H13
        refine rS [.v, .e (v := .int .i64 (IntKind.i64.wrap (2 * (((uvT t).1 : Nat) : Int)))) (v' := .int .i64 ((2 * ((uvT t).1) : Nat) : Int)) (int_eq (wrapMul_i64 (a := 2) (b := (uvT t).1) (by omega))), .v, .e (v := .int .i64 (IntKind.i64.wrap (3 * (((uvT t).2 : Nat) : Int)))) (v' := .int .i64 ((3 * ((uvT t).2) : Nat) : Int)) (int_eq (wrapMul_i64 (a := 3) (b := (uvT t).2) (by omega))), .e (v := .int .i64 (IntKind.i64.wrap (((2 * ((uvT t).1) : Nat) : Int) + ((3 * ((uvT t).2) : Nat) : Int)))) (v' := .int .i64 (((2 * ((uvT t).1)) + (3 * ((uvT t).2)) : Nat) : Int)) (int_eq (wrapAdd_i64 (a := 2 * ((uvT t).1)) (b := 3 * ((uvT t).2)) (by omega))), .e (v := .int .i64 (Int.tmod (((2 * ((uvT t).1)) + (3 * ((uvT t).2)) : Nat) : Int) 5)) (v' := .int .i64 ((((2 * ((uvT t).1)) + (3 * ((uvT t).2))) % 5 : Nat) : Int)) (int_eq (remN ((2 * ((uvT t).1)) + (3 * ((uvT t).2))) 5)), .v] H14 kr fun gs15 w15 H15 => ?_
        clear H14
        refine g_keep [0, 1, 5, 6, 7, 8, 10, 20] fun ρ1 => ?_
        have HK5 := H15.keep
        clear H15
        refine rL [.v, .v] HK5 kr fun gs16 w16 H16 => ?_
        clear HK5
        show WP _ _ _ _ _ _
        refine rL [.v, .e (v := .int .i64 (IntKind.i64.wrap (((t : Nat) : Int) + 1))) (v' := .int .i64 ((t + 1 : Nat) : Int)) (int_eq (wrapAdd_i64 (a := t) (b := 1) (by omega))), .v] H16 kr fun gs17 w17 H17 => ?_
        clear H16
        have HL6 : St w.heap.size w w17 [] := H17.as kr
        clear H17
        show ∃ m, _ ∧ _
        exact ⟨_, (by omega), (t + 1), rfl, (by omega), (fun j hj => by rcases Nat.lt_succ_iff_lt_or_eq.1 hj with h | rfl; exact hno j h; intro e; have e1 := congrArg Prod.fst e; have e2 := congrArg Prod.snd e; simp only at e1 e2; omega), HL6, (Is.of ⟨kr, kr, kr, kr, kr, trivial⟩)⟩
    · skip
      refine rp [.e (v := .bool ((((uvT t).1 : Nat) : Int) == ((x : Nat) : Int))) (v' := .bool false) (bool_eq (beq_eq_false_iff_ne.2 (by omega))), .v, .n, .n, .n, .v] H8 kr fun gs18 w18 H18 => ?_
      show WPs _ _ _ _ [] _ _
      clear H8
      refine s_nil ?_
      refine g_cond_f kr kr ?_
      refine g_skip kr ?_
      show WP _ _ _ _ _ _
      refine rS [.v, .v] H18 kr fun gs19 w19 H19 => ?_
      clear H18
      refine rS [.v, .e (v := .int .i64 (IntKind.i64.wrap (2 * (((uvT t).1 : Nat) : Int)))) (v' := .int .i64 ((2 * ((uvT t).1) : Nat) : Int)) (int_eq (wrapMul_i64 (a := 2) (b := (uvT t).1) (by omega))), .v, .e (v := .int .i64 (IntKind.i64.wrap (3 * (((uvT t).2 : Nat) : Int)))) (v' := .int .i64 ((3 * ((uvT t).2) : Nat) : Int)) (int_eq (wrapMul_i64 (a := 3) (b := (uvT t).2) (by omega))), .e (v := .int .i64 (IntKind.i64.wrap (((2 * ((uvT t).1) : Nat) : Int) + ((3 * ((uvT t).2) : Nat) : Int)))) (v' := .int .i64 (((2 * ((uvT t).1)) + (3 * ((uvT t).2)) : Nat) : Int)) (int_eq (wrapAdd_i64 (a := 2 * ((uvT t).1)) (b := 3 * ((uvT t).2)) (by omega))), .e (v := .int .i64 (Int.tmod (((2 * ((uvT t).1)) + (3 * ((uvT t).2)) : Nat) : Int) 5)) (v' := .int .i64 ((((2 * ((uvT t).1)) + (3 * ((uvT t).2))) % 5 : Nat) : Int)) (int_eq (remN ((2 * ((uvT t).1)) + (3 * ((uvT t).2))) 5)), .v] H19 kr fun gs20 w20 H20 => ?_
      clear H19
      refine g_keep [0, 1, 5, 6, 7, 8, 10, 20] fun ρ2 => ?_
      have HK7 := H20.keep
      clear H20
      refine rL [.v, .v] HK7 kr fun gs21 w21 H21 => ?_
      clear HK7
      show WP _ _ _ _ _ _
      refine rL [.v, .e (v := .int .i64 (IntKind.i64.wrap (((t : Nat) : Int) + 1))) (v' := .int .i64 ((t + 1 : Nat) : Int)) (int_eq (wrapAdd_i64 (a := t) (b := 1) (by omega))), .v] H21 kr fun gs22 w22 H22 => ?_
      clear H21
      have HL8 : St w.heap.size w w22 [] := H22.as kr
      clear H22
      show ∃ m, _ ∧ _
      exact ⟨_, (by omega), (t + 1), rfl, (by omega), (fun j hj => by rcases Nat.lt_succ_iff_lt_or_eq.1 hj with h | rfl; exact hno j h; intro e; have e1 := congrArg Prod.fst e; have e2 := congrArg Prod.snd e; simp only at e1 e2; omega), HL8, (Is.of ⟨kr, kr, kr, kr, kr, trivial⟩)⟩
  · skip
    refine rp [.e (v := .bool (decide (((t : Nat) : Int) < 24))) (v' := .bool false) (bool_eq (decide_eq_false (by omega)))] H6 kr fun gs23 w23 H23 => ?_
    show WPs _ _ _ _ [] _ _
    clear H6
    refine s_nil ?_
    refine g_cond_f kr kr ?_
    refine g_exit 0 kr ?_
    show WP _ _ _ _ _ _
    refine rS [.v] H23 kr fun gs24 w24 H24 => ?_
    clear H23
    refine g_ret kr ?_
    show ∃ vs, Res _ _ _ _ vs ∧ _
    refine ⟨[.int .i64 0], (.tmp (.int .i64 0) kr .nil), ?_, H24.below⟩
    rw [rotN_no (fun j hj => hno j (by omega))]; rfl
set_option maxRecDepth 100000 in
set_option maxHeartbeats 2000000 in
theorem rowR_fn  : FnR Tryd.prog 104 #[.int .i64 168] (fun _ => True) (RetS 3 1 (fun cur cap n l => (n = 168 ∧ Rw 1 cur cap n (cellsD (bitsT 168))))) := by
  refine FnR.intro (c := codeOf Tryd.f104) [.tmp 2] 24 Tryd.func104 kr kr kr fun w hpre => ?_
  have H0 := St.start w
  refine rS [.v] H0 kr fun gs1 w1 H1 => ?_
  clear H0
  refine rS [.nw (fun b => .slice (some ⟨b, 0, none⟩) 0 0) #[] 3, .v] H1 kr fun gs2 w2 H2 => ?_
  clear H1
  refine rS [.v] H2 kr fun gs3 w3 H3 => ?_
  clear H2
  refine g_seq kr ?_
  refine rS [.v] H3 kr fun gs4 w4 H4 => ?_
  clear H3
  refine g_block 0 kr ?_
  have HL1 : St w.heap.size w w4 [((gs2 0).b, Obj.cells #[] 3 (0, 0))] := H4.as kr
  clear H4
  refine g_loop kr (fun mz ρ ww => ∃ (b : Nat) (cap : Nat) (n : Nat) (cur : Array Value) (k : Nat) (rg : Nat), 168 - k = mz ∧ (n = k) ∧ (Rw 1 cur cap n (cellsD (bitsT k))) ∧ (k ≤ 168) ∧ (rg = regT k) ∧ St w.heap.size w ww [(b, Obj.cells cur 3 (0, 0))] ∧ Is [(0, .int .i64 ((168 : Nat) : Int)), (2, .slice none 0 0), (3, .slice (some ⟨b, 0, none⟩) n cap), (4, .int .i64 ((rg : Nat) : Int)), (5, .int .i64 ((k : Nat) : Int))] ρ) (168 - 0) ⟨(gs2 0).b, 0, 0, #[], 0, 1, rfl, rfl, (Rw.lit #[] 0 rfl (by unfold maxLen; omega)), (by omega), rfl, HL1, (Is.of ⟨kr, kr, kr, kr, kr, trivial⟩)⟩ ?_
  clear HL1
  rintro _ _ w5 ⟨b, cap, n, cur, k, rg, rfl, hn, hr, hk, hrgk, H5, _, rfl⟩
  have hrg := regT_lt k; rw [← hrgk] at hrg
  refine g_seq kr ?_
  refine g_sreg [0, 1, 2] kr kr ?_
  refine rp [.v, .v] H5 kr fun gs6 w6 H6 => ?_
  show WPs _ _ _ _ [2] _ _
  clear H5
  by_cases hc2 : (k : Nat) < 168
  · skip
    refine rp [.e (v := .bool (decide (((k : Nat) : Int) < ((168 : Nat) : Int)))) (v' := .bool true) (bool_eq (decide_eq_true (by omega)))] H6 kr fun gs7 w7 H7 => ?_
    show WPs _ _ _ _ [] _ _
    clear H6
    refine s_nil ?_
    refine g_cond_t kr kr ?_
    refine g_skip kr ?_
    show WP _ _ _ _ _ _
    refine g_seq kr ?_
    refine g_block 1 kr ?_
    refine g_sreg [0, 1, 2, 3, 4, 5] kr kr ?_
    refine rp [.v, .v, .e (v := .int .i64 (Int.tmod ((rg : Nat) : Int) 2)) (v' := .int .i64 ((rg % 2 : Nat) : Int)) (int_eq (remN rg 2)), .nw (fun b => .slice (some ⟨b, 0, none⟩) 1 1) #[.int .i64 ((rg % 2 : Nat) : Int)] 3] H7 kr fun gs8 w8 H8 => ?_
    show WPs _ _ _ _ [4, 5] _ _
    clear H7
    refine s_append H8 (some 16) 59 3 1 8 (.tmp 12) (.tmp 15) 0 1 b ((gs8 3).b) n 1 cap 1 cur #[.int .i64 ((rg % 2 : Nat) : Int)] 3 (0, 0) (cellsD (bitsT k)) ([.int .i64 ((rg % 2 : Nat) : Int)]) (fun b_1 cur_3 => [(b_1, Obj.cells cur_3 3 (0, 0)), ((gs8 3).b, Obj.cells #[.int .i64 ((rg % 2 : Nat) : Int)] 3 (0, 0))]) kr kr kr kr kr hr kr kr (by rfl) (by rfl) (by intro u hu; simp at hu; first | exact hu.elim | (rcases hu with rfl | rfl | rfl | rfl <;> rfl) | (rcases hu with rfl | rfl <;> rfl) | (subst hu; rfl)) (by omega) (by unfold maxLen; omega) (fun _ _ => by kernel_rfl) ?_
    intro b_1 cap_2 cur_3 w9 H9 hr_4; clear H8
    refine rp [.v] H9 kr fun gs10 w10 H10 => ?_
    show WPs _ _ _ _ [] _ _
    clear H9
    refine s_nil ?_
    refine rS [.v, .e (v := .int .i64 (IntKind.i64.wrap (2 * ((rg : Nat) : Int)))) (v' := .int .i64 ((2 * rg : Nat) : Int)) (int_eq (wrapMul_i64 (a := 2) (b := rg) (by omega))), .v] H10 kr fun gs11 w11 H11 => ?_
    clear H10
    refine g_sreg [0, 1] kr kr ?_
    refine rp [.v] H11 kr fun gs12 w12 H12 => ?_
    show WPs _ _ _ _ [1] _ _
    clear H11
    by_cases hc3 : (2 * rg : Nat) > 255
    · skip
      refine rp [.e (v := .bool (decide (255 < ((2 * rg : Nat) : Int)))) (v' := .bool true) (bool_eq (decide_eq_true (by omega)))] H12 kr fun gs13 w13 H13 => ?_
      show WPs _ _ _ _ [] _ _
      clear H12
      refine s_nil ?_
      refine g_keep [0, 2, 3, 4, 5, 9, 20] fun ρ1 => ?_
      have HK4 := H13.keep
      clear H13
      refine g_cond_t kr kr ?_
      refine rL [.v, .e (v := .int .i64 (Go.bits .xor .i64 (((2 * rg : Nat)) : Int) 369)) (v' := .int .i64 ((2 * rg ^^^ 369 : Nat) : Int)) (int_eq (by rw [hrgk]; exact regX k)), .v] HK4 kr fun gs14 w14 H14 => ?_
      clear HK4
      show WP _ _ _ _ _ _
      refine rL [.v, .e (v := .int .i64 (IntKind.i64.wrap (((k : Nat) : Int) + 1))) (v' := .int .i64 ((k + 1 : Nat) : Int)) (int_eq (wrapAdd_i64 (a := k) (b := 1) (by omega))), .v] H14 kr fun gs15 w15 H15 => ?_
      clear H14
      have HL5 : St w.heap.size w w15 [(b_1, Obj.cells cur_3 3 (0, 0)), ((gs8 3).b, Obj.cells #[.int .i64 ((rg % 2 : Nat) : Int)] 3 (0, 0))] := H15.as kr
      clear H15
      have hrow : Rw 1 cur_3 cap_2 (n + 1) (cellsD (bitsT (k + 1))) := by rw [bitsT_succ, cellsD_append, ← hrgk]; exact hr_4
      have HD6 : St w.heap.size w w15 [(b_1, Obj.cells cur_3 3 (0, 0))] := HL5.sub (List.Sublist.cons_cons _ (List.Sublist.cons _ List.Sublist.slnil))
      show ∃ m, _ ∧ _
      exact ⟨_, (by omega), b_1, cap_2, (n + 1), cur_3, (k + 1), (2 * rg ^^^ 369), rfl, (by omega), hrow, (by omega), (by subst hrgk; exact (if_pos (by omega)).symm), HD6, (Is.of ⟨kr, kr, kr, kr, kr, trivial⟩)⟩
    · skip
      refine rp [.e (v := .bool (decide (255 < ((2 * rg : Nat) : Int)))) (v' := .bool false) (bool_eq (decide_eq_false (by omega)))] H12 kr fun gs16 w16 H16 => ?_
      show WPs _ _ _ _ [] _ _
      clear H12
      refine s_nil ?_
      refine g_keep [0, 2, 3, 4, 5, 9, 20] fun ρ2 => ?_
      have HK7 := H16.keep
      clear H16
      refine g_cond_f kr kr ?_
      refine g_skip kr ?_
      show WP _ _ _ _ _ _
      refine rL [.v, .e (v := .int .i64 (IntKind.i64.wrap (((k : Nat) : Int) + 1))) (v' := .int .i64 ((k + 1 : Nat) : Int)) (int_eq (wrapAdd_i64 (a := k) (b := 1) (by omega))), .v] HK7 kr fun gs17 w17 H17 => ?_
      clear HK7
      have HL8 : St w.heap.size w w17 [(b_1, Obj.cells cur_3 3 (0, 0)), ((gs8 3).b, Obj.cells #[.int .i64 ((rg % 2 : Nat) : Int)] 3 (0, 0))] := H17.as kr
      clear H17
      have hrow : Rw 1 cur_3 cap_2 (n + 1) (cellsD (bitsT (k + 1))) := by rw [bitsT_succ, cellsD_append, ← hrgk]; exact hr_4
      have HD9 : St w.heap.size w w17 [(b_1, Obj.cells cur_3 3 (0, 0))] := HL8.sub (List.Sublist.cons_cons _ (List.Sublist.cons _ List.Sublist.slnil))
      show ∃ m, _ ∧ _
      exact ⟨_, (by omega), b_1, cap_2, (n + 1), cur_3, (k + 1), (2 * rg), rfl, (by omega), hrow, (by omega), (by subst hrgk; exact (if_neg (by omega)).symm), HD9, (Is.of ⟨kr, kr, kr, kr, kr, trivial⟩)⟩
  · skip
    refine rp [.e (v := .bool (decide (((k : Nat) : Int) < ((168 : Nat) : Int)))) (v' := .bool false) (bool_eq (decide_eq_false (by omega)))] H6 kr fun gs18 w18 H18 => ?_
    show WPs _ _ _ _ [] _ _
    clear H6
    refine s_nil ?_
    refine g_cond_f kr kr ?_
    refine g_exit 0 kr ?_
    show WP _ _ _ _ _ _
    refine rS [.v, .v] H18 kr fun gs19 w19 H19 => ?_
    clear H18
    refine g_ret kr ?_
    show ∃ vs, Res _ _ _ _ vs ∧ _
    refine ⟨[.slice (some ⟨b, 0, none⟩) n cap], (.tmp (.slice (some ⟨b, 0, none⟩) n cap) kr .nil), H19.below, ?_⟩
    obtain rfl : k = 168 := by omega
    exact ⟨b, cap, _, _, [], rfl, H19.ge 0 (o := .cells cur 3 (0, 0)) kr, H19.get 0 kr, ⟨hn, hr⟩⟩
end Go.Proofs.YtmmloghbnpfedaaDoor.Ke

namespace Go.Proofs.YtmmloghbnpfedaaDoor.Ke
open Go Go.RowKit Go.Proofs.Kec
set_option linter.unusedVariables false
theorem bv_congr {a b : BitVec 64} (h : a = b) : Value.int .u64 ((BitVec.toNat a : Nat) : Int) = .int .u64 ((BitVec.toNat b : Nat) : Int) := by rw [h]
theorem sub_not (x : BitVec 64) : (18446744073709551615 : BitVec 64) - x = ~~~x := by
  apply BitVec.eq_of_toNat_eq
  have := x.isLt
  rw [BitVec.toNat_sub, BitVec.toNat_not]
  show (18446744073709551616 - x.toNat + 18446744073709551615) % 18446744073709551616 = 18446744073709551616 - 1 - x.toNat
  omega
set_option maxRecDepth 100000 in
set_option maxHeartbeats 2000000 in
theorem last_fn (i : Nat) (hi : i < 24) : Fn Tryd.prog 102 #[.int .i64 ((i : Nat) : Int)] (.int .u64 ((BitVec.toNat (lastB i 7) : Nat) : Int)) := by
  refine Fn.intro (c := codeOf Tryd.f102) [.tmp 2] 28 Tryd.func102 kr kr kr fun w => ?_
  have H0 := St.start w
  refine rS [.v] H0 kr fun gs1 w1 H1 => ?_
  clear H0
  refine g_sreg [0, 1] kr kr ?_
  refine s_callS H1 (some 7) 104 #[.int .i64 168] (fun _ => True) 3 1 (fun curZ capZ nZ lZ => (nZ = 168 ∧ Rw 1 curZ capZ nZ (cellsD (bitsT 168)))) rowR_fn trivial kr kr ?_
  intro b_1 cap_2 n_3 cur_4 l_5 w2 H2 hs_6; clear H1
  have hs_6n := hs_6.1
  refine rp [.v] H2 kr fun gs3 w3 H3 => ?_
  show WPs _ _ _ _ [] _ _
  clear H2
  refine s_nil ?_
  refine rS [.v] H3 kr fun gs4 w4 H4 => ?_
  clear H3
  refine rS [.v] H4 kr fun gs5 w5 H5 => ?_
  clear H4
  refine g_seq kr ?_
  refine rS [.v] H5 kr fun gs6 w6 H6 => ?_
  clear H5
  refine g_block 0 kr ?_
  have HL1 : St w.heap.size w w6 [(b_1, Obj.cells cur_4 3 (0, 0))] := H6.as kr
  clear H6
  refine g_loop kr (fun mz ρ ww => ∃ (j : Nat) (pl : Nat) (nn : BitVec 64), 7 - j = mz ∧ (j ≤ 7) ∧ (pl = 2 ^ j) ∧ (nn = lastB i j) ∧ St w.heap.size w ww [(b_1, Obj.cells cur_4 3 (0, 0))] ∧ Is [(0, .int .i64 ((i : Nat) : Int)), (2, .int .u64 0), (3, .slice (some ⟨b_1, 0, none⟩) n_3 cap_2), (4, .int .u64 ((BitVec.toNat nn : Nat) : Int)), (5, .int .u64 ((pl : Nat) : Int)), (6, .int .i64 ((j : Nat) : Int))] ρ) (7 - 0) ⟨0, 1, 0, rfl, (by omega), rfl, rfl, HL1, (Is.of ⟨kr, kr, kr, kr, kr, kr, trivial⟩)⟩ ?_
  clear HL1
  rintro _ _ w7 ⟨j, pl, nn, rfl, hj, hpl, hnn, H7, _, rfl⟩
  have hp1 : 1 ≤ pl := by rw [hpl]; exact Nat.one_le_two_pow
  have hp2 : pl ≤ 128 := by rw [hpl]; exact Nat.pow_le_pow_right (by omega) hj
  refine g_seq kr ?_
  refine g_sreg [0, 1] kr kr ?_
  refine rp [.v] H7 kr fun gs8 w8 H8 => ?_
  show WPs _ _ _ _ [1] _ _
  clear H7
  by_cases hc2 : (j : Nat) < 7
  · skip
    refine rp [.e (v := .bool (decide (((j : Nat) : Int) < 7))) (v' := .bool true) (bool_eq (decide_eq_true (by omega)))] H8 kr fun gs9 w9 H9 => ?_
    show WPs _ _ _ _ [] _ _
    clear H8
    refine s_nil ?_
    refine g_cond_t kr kr ?_
    refine g_skip kr ?_
    show WP _ _ _ _ _ _
    refine g_seq kr ?_
    refine g_block 1 kr ?_
    refine g_seq kr ?_
    refine g_sreg [0, 1, 2, 3, 4, 5, 6, 7] kr kr ?_
    refine rp [.v, .v, .v, .e (v := .int .i64 (IntKind.i64.wrap (7 * ((i : Nat) : Int)))) (v' := .int .i64 ((7 * i : Nat) : Int)) (int_eq (wrapMul_i64 (a := 7) (b := i) (by omega))), .e (v := .int .i64 (IntKind.i64.wrap (((j : Nat) : Int) + ((7 * i : Nat) : Int)))) (v' := .int .i64 ((j + (7 * i) : Nat) : Int)) (int_eq (wrapAdd_i64 (a := j) (b := 7 * i) (by omega))), .o (ins := [((.tmp 12), .slice (some ⟨b_1, 0, none⟩) n_3 cap_2), ((.tmp 16), .int .i64 ((j + (7 * i) : Nat) : Int))]) (v := .pointer (some ⟨b_1, 0 + (j + (7 * i)) * 1, none⟩)) (fun ρ o w ho hi => idxS_run (kd := .i64) (t := 59) (e := 3) (size := 1) (bytes := 8) kr (x := (.tmp 12)) (y := (.tmp 16)) b_1 0 n_3 cap_2 (j + (7 * i)) ho hi.1 hi.2.1 (by omega) w), .ls (C := cur_4) (off := 0 + (j + (7 * i)) * 1) (v := .int .i64 ((List.getD (bitsT 168) (j + (7 * i)) 0 : Nat) : Int)) 0 (hs_6.2.atD (by omega) (by rw [bitsT_len]; exact hs_6.1))] H9 kr fun gs10 w10 H10 => ?_
    show WPs _ _ _ _ [7] _ _
    clear H9
    by_cases hc3 : (List.getD (bitsT 168) (j + (7 * i)) 0 : Nat) = 1
    · skip
      refine rp [.e (v := .bool (((List.getD (bitsT 168) (j + (7 * i)) 0 : Nat) : Int) == 1)) (v' := .bool true) (bool_eq (beq_iff_eq.2 (by omega)))] H10 kr fun gs11 w11 H11 => ?_
      show WPs _ _ _ _ [] _ _
      clear H10
      refine s_nil ?_
      refine g_cond_t kr kr ?_
      refine rL [.v, .v, .e (v := .int .u64 (IntKind.u64.wrap (((pl : Nat) : Int) - 1))) (v' := .int .u64 ((pl - 1 : Nat) : Int)) (int_eq (wrapSub_u64 (a := pl) (b := 1) (by omega))), .e (v := .int .u64 (IntKind.u64.wrap ((1) * 2 ^ (min (pl - 1) 64)))) (v' := .int .u64 ((BitVec.toNat ((1 : BitVec 64) <<< (pl - 1)) : Nat) : Int)) (bv_shl_u64 (1 : BitVec 64) (pl - 1)), .e (v := .int .u64 (Go.bits .or .u64 (((BitVec.toNat nn : Nat) : Int)) (((BitVec.toNat ((1 : BitVec 64) <<< (pl - 1)) : Nat) : Int)))) (v' := .int .u64 ((BitVec.toNat (nn ||| ((1 : BitVec 64) <<< (pl - 1))) : Nat) : Int)) (bv_or_u64 nn ((1 : BitVec 64) <<< (pl - 1))), .v] H11 kr fun gs12 w12 H12 => ?_
      clear H11
      show WP _ _ _ _ _ _
      refine g_keep [0, 2, 3, 4, 5, 6, 9, 19] fun ρ1 => ?_
      have HK4 := H12.keep
      clear H12
      refine rL [.v, .e (v := .int .u64 (IntKind.u64.wrap (2 * ((pl : Nat) : Int)))) (v' := .int .u64 ((2 * pl : Nat) : Int)) (int_eq (wrapMul_u64 (a := 2) (b := pl) (by omega))), .v] HK4 kr fun gs13 w13 H13 => ?_
      clear HK4
      show WP _ _ _ _ _ _
      refine rL [.v, .e (v := .int .i64 (IntKind.i64.wrap (((j : Nat) : Int) + 1))) (v' := .int .i64 ((j + 1 : Nat) : Int)) (int_eq (wrapAdd_i64 (a := j) (b := 1) (by omega))), .v] H13 kr fun gs14 w14 H14 => ?_
      clear H13
      have HL5 : St w.heap.size w w14 [(b_1, Obj.cells cur_4 3 (0, 0))] := H14.as kr
      clear H14
      show ∃ m, _ ∧ _
      exact ⟨_, (by omega), (j + 1), (2 * pl), (nn ||| ((1 : BitVec 64) <<< (pl - 1))), rfl, (by omega), (by rw [hpl, Nat.pow_succ]; omega), (by subst hnn hpl; exact (if_pos (by assumption)).symm), HL5, (Is.of ⟨kr, kr, kr, kr, kr, kr, trivial⟩)⟩
    · skip
      refine rp [.e (v := .bool (((List.getD (bitsT 168) (j + (7 * i)) 0 : Nat) : Int) == 1)) (v' := .bool false) (bool_eq (beq_eq_false_iff_ne.2 (by omega)))] H10 kr fun gs15 w15 H15 => ?_
      show WPs _ _ _ _ [] _ _
      clear H10
      refine s_nil ?_
      refine g_cond_f kr kr ?_
      refine g_skip kr ?_
      show WP _ _ _ _ _ _
      refine rL [.v, .e (v := .int .u64 (IntKind.u64.wrap (2 * ((pl : Nat) : Int)))) (v' := .int .u64 ((2 * pl : Nat) : Int)) (int_eq (wrapMul_u64 (a := 2) (b := pl) (by omega))), .v] H15 kr fun gs16 w16 H16 => ?_
      clear H15
      show WP _ _ _ _ _ _
      refine g_keep [0, 2, 3, 4, 5, 6, 9, 19] fun ρ2 => ?_
      have HK6 := H16.keep
      clear H16
      refine rL [.v, .e (v := .int .i64 (IntKind.i64.wrap (((j : Nat) : Int) + 1))) (v' := .int .i64 ((j + 1 : Nat) : Int)) (int_eq (wrapAdd_i64 (a := j) (b := 1) (by omega))), .v] HK6 kr fun gs17 w17 H17 => ?_
      clear HK6
      have HL7 : St w.heap.size w w17 [(b_1, Obj.cells cur_4 3 (0, 0))] := H17.as kr
      clear H17
      show ∃ m, _ ∧ _
      exact ⟨_, (by omega), (j + 1), (2 * pl), (nn), rfl, (by omega), (by rw [hpl, Nat.pow_succ]; omega), (by subst hnn hpl; exact (if_neg (by assumption)).symm), HL7, (Is.of ⟨kr, kr, kr, kr, kr, kr, trivial⟩)⟩
  · skip
    refine rp [.e (v := .bool (decide (((j : Nat) : Int) < 7))) (v' := .bool false) (bool_eq (decide_eq_false (by omega)))] H8 kr fun gs18 w18 H18 => ?_
    show WPs _ _ _ _ [] _ _
    clear H8
    refine s_nil ?_
    refine g_cond_f kr kr ?_
    refine g_exit 0 kr ?_
    show WP _ _ _ _ _ _
    refine rS [.v, .v] H18 kr fun gs19 w19 H19 => ?_
    clear H18
    refine g_ret kr ?_
    show ∃ vs, Res _ _ _ _ vs ∧ _
    refine ⟨[.int .u64 ((BitVec.toNat nn : Nat) : Int)], (.tmp (.int .u64 ((BitVec.toNat nn : Nat) : Int)) kr .nil), ?_, H19.below⟩
    obtain rfl : j = 7 := by omega
    rw [hnn]; rfl
end Go.Proofs.YtmmloghbnpfedaaDoor.Ke

namespace Go.Proofs.YtmmloghbnpfedaaDoor.Ke
open Go Go.RowKit Go.Proofs.Kec
set_option linter.unusedVariables false
def arrW (n : Nat) (f : Nat → BitVec 64) : Value := .agg (arrF n fun j => .int .u64 ((BitVec.toNat (f j) : Nat) : Int)).toArray
theorem arrW_at {n : Nat} (f : Nat → BitVec 64) {k off : Nat} (ho : off = 0 + k * 1) (hk : k < n) : (Value.cells (arrW n f))[off]? = some (.int .u64 ((BitVec.toNat (f k) : Nat) : Int)) :=
  seg_at (pre := []) (post := []) (n := n) (f := fun j => .int .u64 ((BitVec.toNat (f j) : Nat) : Int)) (by show arrF n _ = [] ++ arrF n _ ++ []; simp) (by simpa using ho) hk
theorem arrW_put {n : Nat} {f g : Nat → BitVec 64} {k off : Nat} {x : BitVec 64} (ho : off = 0 + k * 1) (hk : k < n) (hg : ∀ j, j < n → g j = if j = k then x else f j) :
    ((Value.cells (arrW n f)).toList.take off ++ (Value.int .u64 ((BitVec.toNat x : Nat) : Int)).cells.toList ++ (Value.cells (arrW n f)).toList.drop (off + (Value.int .u64 ((BitVec.toNat x : Nat) : Int)).cells.size)).toArray = Value.cells (arrW n g) := by
  rw [seg_put (pre := []) (post := []) (n := n) (f := fun j => .int .u64 ((BitVec.toNat (f j) : Nat) : Int)) (g := fun j => .int .u64 ((BitVec.toNat (g j) : Nat) : Int)) (by show arrF n _ = [] ++ arrF n _ ++ []; simp) rfl (by simpa using ho) hk (fun j hj => by rw [hg j hj]; split <;> rfl)]
  simp; rfl
theorem arrW_congr {n : Nat} {f g : Nat → BitVec 64} (h : ∀ k, k < n → f k = g k) : arrW n f = arrW n g := by
  unfold arrW arrF
  rw [List.map_congr_left fun k hk => by rw [h k (by simpa using hk)]]
def pS (s : List (BitVec 64)) (x : Nat) : Nat → BitVec 64
  | 0 => 0
  | y + 1 => pS s x y ^^^ nth s (x + 5 * y)
theorem pS5 (s : List (BitVec 64)) (x : Nat) : pS s x 5 = cC s x := by
  show ((((0 ^^^ nth s x) ^^^ nth s (x + 5)) ^^^ nth s (x + 10)) ^^^ nth s (x + 15)) ^^^ nth s (x + 20) = _
  rw [show (0 : BitVec 64) = 0#64 from rfl, BitVec.zero_xor]; rfl
def cF (s : List (BitVec 64)) (x y k : Nat) : BitVec 64 := if k < x then cC s k else if k = x then pS s x y else 0
theorem cF_put (s : List (BitVec 64)) (x y j : Nat) : cF s x (y + 1) j = if j = x then cF s x y x ^^^ nth s (x + 5 * y) else cF s x y j := by
  unfold cF
  by_cases h : j = x
  · subst h; simp [pS]
  · rw [if_neg h, if_neg h, if_neg h]
theorem cF_row (s : List (BitVec 64)) (x y : Nat) (h : y = 5) : arrW 5 (cF s x y) = arrW 5 (cF s (x + 1) 0) := by
  subst h
  refine arrW_congr fun k _ => ?_
  unfold cF
  by_cases h1 : k < x
  · rw [if_pos h1, if_pos (by omega)]
  · rw [if_neg h1]
    by_cases h2 : k = x
    · rw [if_pos h2, if_pos (by omega), pS5, h2]
    · rw [if_neg h2, if_neg (by omega)]
      by_cases h3 : k = x + 1
      · rw [if_pos h3]; rfl
      · rw [if_neg h3]
theorem cF_all (s : List (BitVec 64)) (x : Nat) (h : x = 5) : arrW 5 (cF s x 0) = arrW 5 (cC s) := by
  subst h; exact arrW_congr fun k hk => by unfold cF; rw [if_pos hk]
def rk (k : Nat) : Nat := (3 * (k / 5) + k % 5) % 5 * 5 + k % 5
def bF (s : List (BitVec 64)) (x y k : Nat) : BitVec 64 := if rk k < 5 * x + y then pI s k else 0
theorem rk_lt (k : Nat) : rk k < 25 := by unfold rk; omega
theorem rk_one : ∀ x, x < 5 → ∀ y, y < 5 → ∀ k, k < 25 → (rk k = 5 * x + y ↔ k = y % 5 + 5 * ((2 * x + 3 * y) % 5)) := by decide
theorem bF_put (s : List (BitVec 64)) {x y j : Nat} (hx : x < 5) (hy : y < 5) (hj : j < 25) : bF s x (y + 1) j = if j = y % 5 + 5 * ((2 * x + 3 * y) % 5) then pI s (y % 5 + 5 * ((2 * x + 3 * y) % 5)) else bF s x y j := by
  have h := rk_one x hx y hy j hj
  unfold bF
  by_cases h1 : j = y % 5 + 5 * ((2 * x + 3 * y) % 5)
  · rw [if_pos h1, if_pos (by have := h.2 h1; omega), ← h1]
  · rw [if_neg h1]
    have h2 : rk j ≠ 5 * x + y := fun e => h1 (h.1 e)
    by_cases h3 : rk j < 5 * x + y
    · rw [if_pos h3, if_pos (by omega)]
    · rw [if_neg h3, if_neg (by omega)]
theorem bF_row (s : List (BitVec 64)) (x y : Nat) (h : y = 5) : arrW 25 (bF s x y) = arrW 25 (bF s (x + 1) 0) := by subst h; rfl
theorem bF_all (s : List (BitVec 64)) (x : Nat) (h : x = 5) : arrW 25 (bF s x 0) = arrW 25 (pI s) := by
  subst h; exact arrW_congr fun k _ => by unfold bF; rw [if_pos (rk_lt k)]
def oF (s : List (BitVec 64)) (x y k : Nat) : BitVec 64 := if k % 5 * 5 + k / 5 < 5 * x + y then xI (pI s) k else 0
theorem oF_put (s : List (BitVec 64)) {x y j : Nat} (hx : x < 5) (hy : y < 5) (hj : j < 25) : oF s x (y + 1) j = if j = x + 5 * y then xI (pI s) (x + 5 * y) else oF s x y j := by
  unfold oF
  by_cases h1 : j = x + 5 * y
  · rw [if_pos h1, if_pos (by omega), h1]
  · rw [if_neg h1]
    by_cases h3 : j % 5 * 5 + j / 5 < 5 * x + y
    · rw [if_pos h3, if_pos (by omega)]
    · rw [if_neg h3, if_neg (by omega)]
theorem oF_row (s : List (BitVec 64)) (x y : Nat) (h : y = 5) : arrW 25 (oF s x y) = arrW 25 (oF s (x + 1) 0) := by subst h; rfl
theorem oF_all (s : List (BitVec 64)) (x : Nat) (h : x = 5) : arrW 25 (oF s x 0) = svn (rnd s) := by
  subst h
  rw [arrW_congr (g := xI (pI s)) fun k hk => by unfold oF; rw [if_pos (by omega)]]
  rfl
theorem oF_rm (s : List (BitVec 64)) (z : BitVec 64) {x : Nat} (h : x = 5) :
    (List.take 0 (arrW 25 (oF s x 0)).cells.toList ++ (Value.int .u64 ((BitVec.toNat (oF s x 0 0 ^^^ z) : Nat) : Int)).cells.toList ++ List.drop (0 + (Value.int .u64 ((BitVec.toNat (oF s x 0 0 ^^^ z) : Nat) : Int)).cells.size) (arrW 25 (oF s x 0)).cells.toList).toArray = (svn (rm s z)).cells := by
  rw [oF_all s x h]; subst h; exact svn_rm s z
theorem th_at (s : List (BitVec 64)) {x y : Nat} (hx : x < 5) : nth s (x + 5 * y) ^^^ dD (cC s) x = th s (x + 5 * y) := by
  unfold th; rw [show (x + 5 * y) % 5 = x by omega]
theorem sr_at : ∀ x, x < 5 → ∀ y, y < 5 → srcT.getD (y % 5 + 5 * ((2 * x + 3 * y) % 5)) 0 = x + 5 * y ∧ rotT.getD (y % 5 + 5 * ((2 * x + 3 * y) % 5)) 0 = rotN x y ∧ rotN x y < 64 := by decide
theorem leftR_fn (s : List (BitVec 64)) (x y : Nat) (hx : x < 5) (hy : y < 5) : Fn Tryd.prog 100 #[.int .u64 ((BitVec.toNat (th s (x + 5 * y)) : Nat) : Int), .int .i64 ((rotN x y : Nat) : Int)] (.int .u64 ((BitVec.toNat (pI s (y % 5 + 5 * ((2 * x + 3 * y) % 5))) : Nat) : Int)) := by
  obtain ⟨h1, h2, h3⟩ := sr_at x hx y hy
  unfold pI; rw [h1, h2]
  by_cases h : rotN x y = 0
  · rw [h, rl0]; exact left0_fn _
  · exact left_fn _ _ (by omega) h3
theorem xI_at (b : Nat → BitVec 64) {x y : Nat} (hx : x < 5) (hy : y < 5) : b (x + 5 * y) ^^^ (~~~(b ((x + 1) % 5 + 5 * (y % 5))) &&& b ((x + 2) % 5 + 5 * (y % 5))) = xI b (x + 5 * y) := by
  unfold xI rowX
  rw [show (x + 5 * y) / 5 * 5 + ((x + 5 * y) % 5 + 1) % 5 = (x + 1) % 5 + 5 * (y % 5) by omega, show (x + 5 * y) / 5 * 5 + ((x + 5 * y) % 5 + 2) % 5 = (x + 2) % 5 + 5 * (y % 5) by omega, BitVec.and_comm]
set_option maxRecDepth 100000 in
set_option maxHeartbeats 2000000 in
theorem roundR_fn (s : List (BitVec 64)) (i : Nat) (hi : i < 24) : Fn Tryd.prog 91 #[svn s, .int .i64 ((i : Nat) : Int)] (svn (rm s (lastB i 7))) := by
  refine Fn.intro (c := codeOf Tryd.f91) [.cell 4 84] 117 Tryd.func91 kr kr kr fun w => ?_
  have H0 := St.start w
  refine rS [.b, .a] H0 kr fun gs1 w1 H1 => ?_
  clear H0
  refine rS [.v, .a, .s 2] H1 kr fun gs2 w2 H2 => ?_
  clear H1
  refine g_seq kr ?_
  refine rS [.v] H2 kr fun gs3 w3 H3 => ?_
  clear H2
  refine g_block 0 kr ?_
  have HL1 : St w.heap.size w w3 [((gs1 0).b, Obj.cells (Value.cells (svn s)) 84 (0, 0)), ((gs1 1).b, Obj.cells #[.int .u64 0, .int .u64 0, .int .u64 0, .int .u64 0, .int .u64 0, .int .u64 0, .int .u64 0, .int .u64 0, .int .u64 0, .int .u64 0, .int .u64 0, .int .u64 0, .int .u64 0, .int .u64 0, .int .u64 0, .int .u64 0, .int .u64 0, .int .u64 0, .int .u64 0, .int .u64 0, .int .u64 0, .int .u64 0, .int .u64 0, .int .u64 0, .int .u64 0] 84 (0, 0)), ((gs2 1).b, Obj.cells #[.int .u64 0, .int .u64 0, .int .u64 0, .int .u64 0, .int .u64 0] 117 (0, 0))] := H3.as kr
  clear H3
  have HM2 : St w.heap.size w w3 [((gs1 0).b, Obj.cells (Value.cells (svn s)) 84 (0, 0)), ((gs1 1).b, Obj.cells #[.int .u64 0, .int .u64 0, .int .u64 0, .int .u64 0, .int .u64 0, .int .u64 0, .int .u64 0, .int .u64 0, .int .u64 0, .int .u64 0, .int .u64 0, .int .u64 0, .int .u64 0, .int .u64 0, .int .u64 0, .int .u64 0, .int .u64 0, .int .u64 0, .int .u64 0, .int .u64 0, .int .u64 0, .int .u64 0, .int .u64 0, .int .u64 0, .int .u64 0] 84 (0, 0)), ((gs2 1).b, Obj.cells (Value.cells (arrW 5 (cF s 0 0))) 117 (0, 0))] := HL1
  refine g_loop kr (fun mz ρ ww => ∃ (x : Nat), 5 - x = mz ∧ (x ≤ 5) ∧ St w.heap.size w ww [((gs1 0).b, Obj.cells (Value.cells (svn s)) 84 (0, 0)), ((gs1 1).b, Obj.cells #[.int .u64 0, .int .u64 0, .int .u64 0, .int .u64 0, .int .u64 0, .int .u64 0, .int .u64 0, .int .u64 0, .int .u64 0, .int .u64 0, .int .u64 0, .int .u64 0, .int .u64 0, .int .u64 0, .int .u64 0, .int .u64 0, .int .u64 0, .int .u64 0, .int .u64 0, .int .u64 0, .int .u64 0, .int .u64 0, .int .u64 0, .int .u64 0, .int .u64 0] 84 (0, 0)), ((gs2 1).b, Obj.cells (Value.cells (arrW 5 (cF s x 0))) 117 (0, 0))] ∧ Is [(0, svn s), (1, .int .i64 ((i : Nat) : Int)), (2, .pointer (some ⟨(gs1 0).b, 0, none⟩)), (4, .pointer (some ⟨(gs1 1).b, 0, none⟩)), (5, .pointer (some ⟨(gs2 1).b, 0, none⟩)), (6, .int .i64 ((x : Nat) : Int))] ρ) (5 - 0) ⟨0, rfl, (by omega), HM2, (Is.of ⟨kr, kr, kr, kr, kr, kr, trivial⟩)⟩ ?_
  clear HM2
  rintro _ _ w4 ⟨x, rfl, hx, H4, _, rfl⟩
  refine g_seq kr ?_
  refine g_sreg [0, 1] kr kr ?_
  refine rp [.v] H4 kr fun gs5 w5 H5 => ?_
  show WPs _ _ _ _ [1] _ _
  clear H4
  by_cases hc3 : (x : Nat) < 5
  · skip
    refine rp [.e (v := .bool (decide (((x : Nat) : Int) < 5))) (v' := .bool true) (bool_eq (decide_eq_true (by omega)))] H5 kr fun gs6 w6 H6 => ?_
    show WPs _ _ _ _ [] _ _
    clear H5
    refine s_nil ?_
    refine g_cond_t kr kr ?_
    refine g_skip kr ?_
    show WP _ _ _ _ _ _
    refine g_seq kr ?_
    refine g_block 1 kr ?_
    refine rS [.v] H6 kr fun gs7 w7 H7 => ?_
    clear H6
    refine g_block 2 kr ?_
    have HL4 : St w.heap.size w w7 [((gs1 0).b, Obj.cells (Value.cells (svn s)) 84 (0, 0)), ((gs1 1).b, Obj.cells #[.int .u64 0, .int .u64 0, .int .u64 0, .int .u64 0, .int .u64 0, .int .u64 0, .int .u64 0, .int .u64 0, .int .u64 0, .int .u64 0, .int .u64 0, .int .u64 0, .int .u64 0, .int .u64 0, .int .u64 0, .int .u64 0, .int .u64 0, .int .u64 0, .int .u64 0, .int .u64 0, .int .u64 0, .int .u64 0, .int .u64 0, .int .u64 0, .int .u64 0] 84 (0, 0)), ((gs2 1).b, Obj.cells (Value.cells (arrW 5 (cF s x 0))) 117 (0, 0))] := H7.as kr
    clear H7
    refine g_loop kr (fun mz ρ ww => ∃ (y : Nat), 5 - y = mz ∧ (y ≤ 5) ∧ St w.heap.size w ww [((gs1 0).b, Obj.cells (Value.cells (svn s)) 84 (0, 0)), ((gs1 1).b, Obj.cells #[.int .u64 0, .int .u64 0, .int .u64 0, .int .u64 0, .int .u64 0, .int .u64 0, .int .u64 0, .int .u64 0, .int .u64 0, .int .u64 0, .int .u64 0, .int .u64 0, .int .u64 0, .int .u64 0, .int .u64 0, .int .u64 0, .int .u64 0, .int .u64 0, .int .u64 0, .int .u64 0, .int .u64 0, .int .u64 0, .int .u64 0, .int .u64 0, .int .u64 0] 84 (0, 0)), ((gs2 1).b, Obj.cells (Value.cells (arrW 5 (cF s x y))) 117 (0, 0))] ∧ Is [(0, svn s), (1, .int .i64 ((i : Nat) : Int)), (2, .pointer (some ⟨(gs1 0).b, 0, none⟩)), (4, .pointer (some ⟨(gs1 1).b, 0, none⟩)), (5, .pointer (some ⟨(gs2 1).b, 0, none⟩)), (6, .int .i64 ((x : Nat) : Int)), (7, .int .i64 ((y : Nat) : Int)), (18, .bool true)] ρ) (5 - 0) ⟨0, rfl, (by omega), HL4, (Is.of ⟨kr, kr, kr, kr, kr, kr, kr, kr, trivial⟩)⟩ ?_
    clear HL4
    rintro _ _ w8 ⟨y, rfl, hy, H8, _, rfl⟩
    refine g_seq kr ?_
    refine g_sreg [0, 1] kr kr ?_
    refine rp [.v] H8 kr fun gs9 w9 H9 => ?_
    show WPs _ _ _ _ [1] _ _
    clear H8
    by_cases hc5 : (y : Nat) < 5
    · skip
      refine rp [.e (v := .bool (decide (((y : Nat) : Int) < 5))) (v' := .bool true) (bool_eq (decide_eq_true (by omega)))] H9 kr fun gs10 w10 H10 => ?_
      show WPs _ _ _ _ [] _ _
      clear H9
      refine s_nil ?_
      refine g_cond_t kr kr ?_
      refine g_skip kr ?_
      show WP _ _ _ _ _ _
      refine g_seq kr ?_
      refine g_block 3 kr ?_
      refine dL [.v, .v, .o (ins := [((.tmp 5), .pointer (some ⟨(gs2 1).b, 0, none⟩)), ((.tmp 26), .int .i64 ((x : Nat) : Int))]) (v := .pointer (some ⟨(gs2 1).b, 0 + x * 1, none⟩)) (fun ρ o w ho hi => idxA_run (kd := .i64) (t := 117) (n := 5) (size := 1) kr (x := (.tmp 5)) (y := (.tmp 26)) (gs2 1).b 0 x ho hi.1 hi.2.1 (by omega) w), .ls (C := (Value.cells (arrW 5 (cF s x y)))) (off := 0 + x * 1) (v := .int .u64 ((BitVec.toNat (cF s x y x) : Nat) : Int)) 2 (arrW_at (n := 5) (cF s x y) (k := x) (by omega) (by omega)), .v, .v, .c (at_fn x y (by omega) (by omega)), .o (ins := [((.tmp 2), .pointer (some ⟨(gs1 0).b, 0, none⟩)), ((.tmp 31), .int .i64 ((x % 5 + 5 * (y % 5) : Nat) : Int))]) (v := .pointer (some ⟨(gs1 0).b, 0 + (x % 5 + 5 * (y % 5)) * 1, none⟩)) (fun ρ o w ho hi => idxA_run (kd := .i64) (t := 84) (n := 25) (size := 1) kr (x := (.tmp 2)) (y := (.tmp 31)) (gs1 0).b 0 (x % 5 + 5 * (y % 5)) ho hi.1 hi.2.1 (by omega) w), .ls (C := (Value.cells (svn s))) (off := 0 + (x % 5 + 5 * (y % 5)) * 1) (v := .int .u64 ((BitVec.toNat (nth s (x + 5 * y)) : Nat) : Int)) 0 (svn_at s (x + 5 * y) _ (by omega) (by omega)), .e (v := .int .u64 (Go.bits .xor .u64 (((BitVec.toNat (cF s x y x) : Nat) : Int)) (((BitVec.toNat (nth s (x + 5 * y)) : Nat) : Int)))) (v' := .int .u64 ((BitVec.toNat ((cF s x y x) ^^^ (nth s (x + 5 * y))) : Nat) : Int)) (bv_xor_u64 (cF s x y x) (nth s (x + 5 * y))), .o (ins := [((.tmp 5), .pointer (some ⟨(gs2 1).b, 0, none⟩)), ((.tmp 25), .int .i64 ((x : Nat) : Int))]) (v := .pointer (some ⟨(gs2 1).b, 0 + x * 1, none⟩)) (fun ρ o w ho hi => idxA_run (kd := .i64) (t := 117) (n := 5) (size := 1) kr (x := (.tmp 5)) (y := (.tmp 25)) (gs2 1).b 0 x ho hi.1 hi.2.1 (by omega) w), .se (C := (Value.cells (arrW 5 (cF s x y)))) (C' := (Value.cells (arrW 5 (cF s x (y + 1))))) (off := 0 + x * 1) (v := .int .u64 ((BitVec.toNat ((cF s x y x) ^^^ (nth s (x + 5 * y))) : Nat) : Int)) 2 (by show _ + 1 ≤ 5; omega) (arrW_put (k := x) (x := (cF s x y x) ^^^ (nth s (x + 5 * y))) (by omega) (by omega) (fun j hj => cF_put s x y j))] H10 kr fun w11 H11 => ?_
      clear H10
      show WP _ _ _ _ _ _
      refine g_keep [0, 1, 2, 4, 5, 6, 7, 18, 22] fun ρ1 => ?_
      have HK6 := H11.keep
      clear H11
      refine rL [.v, .e (v := .int .i64 (IntKind.i64.wrap (((y : Nat) : Int) + 1))) (v' := .int .i64 ((y + 1 : Nat) : Int)) (int_eq (wrapAdd_i64 (a := y) (b := 1) (by omega))), .v] HK6 kr fun gs12 w12 H12 => ?_
      clear HK6
      have HL7 : St w.heap.size w w12 [((gs1 0).b, Obj.cells (Value.cells (svn s)) 84 (0, 0)), ((gs1 1).b, Obj.cells #[.int .u64 0, .int .u64 0, .int .u64 0, .int .u64 0, .int .u64 0, .int .u64 0, .int .u64 0, .int .u64 0, .int .u64 0, .int .u64 0, .int .u64 0, .int .u64 0, .int .u64 0, .int .u64 0, .int .u64 0, .int .u64 0, .int .u64 0, .int .u64 0, .int .u64 0, .int .u64 0, .int .u64 0, .int .u64 0, .int .u64 0, .int .u64 0, .int .u64 0] 84 (0, 0)), ((gs2 1).b, Obj.cells (Value.cells (arrW 5 (cF s x (y + 1)))) 117 (0, 0))] := H12.as kr
      clear H12
      show ∃ m, _ ∧ _
      exact ⟨_, (by omega), (y + 1), rfl, (by omega), HL7, (Is.of ⟨kr, kr, kr, kr, kr, kr, kr, kr, trivial⟩)⟩
    · skip
      refine rp [.e (v := .bool (decide (((y : Nat) : Int) < 5))) (v' := .bool false) (bool_eq (decide_eq_false (by omega)))] H9 kr fun gs13 w13 H13 => ?_
      show WPs _ _ _ _ [] _ _
      clear H9
      refine s_nil ?_
      refine g_cond_f kr kr ?_
      refine g_exit 2 kr ?_
      show WP _ _ _ _ _ _
      refine rL [.v, .e (v := .int .i64 (IntKind.i64.wrap (((x : Nat) : Int) + 1))) (v' := .int .i64 ((x + 1 : Nat) : Int)) (int_eq (wrapAdd_i64 (a := x) (b := 1) (by omega))), .v] H13 kr fun gs14 w14 H14 => ?_
      clear H13
      have HL8 : St w.heap.size w w14 [((gs1 0).b, Obj.cells (Value.cells (svn s)) 84 (0, 0)), ((gs1 1).b, Obj.cells #[.int .u64 0, .int .u64 0, .int .u64 0, .int .u64 0, .int .u64 0, .int .u64 0, .int .u64 0, .int .u64 0, .int .u64 0, .int .u64 0, .int .u64 0, .int .u64 0, .int .u64 0, .int .u64 0, .int .u64 0, .int .u64 0, .int .u64 0, .int .u64 0, .int .u64 0, .int .u64 0, .int .u64 0, .int .u64 0, .int .u64 0, .int .u64 0, .int .u64 0] 84 (0, 0)), ((gs2 1).b, Obj.cells (Value.cells (arrW 5 (cF s x y))) 117 (0, 0))] := H14.as kr
      clear H14
      have HM9 : St w.heap.size w w14 [((gs1 0).b, Obj.cells (Value.cells (svn s)) 84 (0, 0)), ((gs1 1).b, Obj.cells #[.int .u64 0, .int .u64 0, .int .u64 0, .int .u64 0, .int .u64 0, .int .u64 0, .int .u64 0, .int .u64 0, .int .u64 0, .int .u64 0, .int .u64 0, .int .u64 0, .int .u64 0, .int .u64 0, .int .u64 0, .int .u64 0, .int .u64 0, .int .u64 0, .int .u64 0, .int .u64 0, .int .u64 0, .int .u64 0, .int .u64 0, .int .u64 0, .int .u64 0] 84 (0, 0)), ((gs2 1).b, Obj.cells (Value.cells (arrW 5 (cF s (x + 1) 0))) 117 (0, 0))] := by have h := HL8; rw [cF_row s x y (by omega)] at h; exact h
      show ∃ m, _ ∧ _
      exact ⟨_, (by omega), (x + 1), rfl, (by omega), HM9, (Is.of ⟨kr, kr, kr, kr, kr, kr, trivial⟩)⟩
  · skip
    refine rp [.e (v := .bool (decide (((x : Nat) : Int) < 5))) (v' := .bool false) (bool_eq (decide_eq_false (by omega)))] H5 kr fun gs15 w15 H15 => ?_
    show WPs _ _ _ _ [] _ _
    clear H5
    refine s_nil ?_
    refine g_cond_f kr kr ?_
    refine g_exit 0 kr ?_
    show WP _ _ _ _ _ _
    refine rS [.v, .a, .s 3] H15 kr fun gs16 w16 H16 => ?_
    clear H15
    refine g_seq kr ?_
    refine rS [.v] H16 kr fun gs17 w17 H17 => ?_
    clear H16
    refine g_block 4 kr ?_
    have HL10 : St w.heap.size w w17 [((gs1 0).b, Obj.cells (Value.cells (svn s)) 84 (0, 0)), ((gs1 1).b, Obj.cells #[.int .u64 0, .int .u64 0, .int .u64 0, .int .u64 0, .int .u64 0, .int .u64 0, .int .u64 0, .int .u64 0, .int .u64 0, .int .u64 0, .int .u64 0, .int .u64 0, .int .u64 0, .int .u64 0, .int .u64 0, .int .u64 0, .int .u64 0, .int .u64 0, .int .u64 0, .int .u64 0, .int .u64 0, .int .u64 0, .int .u64 0, .int .u64 0, .int .u64 0] 84 (0, 0)), ((gs2 1).b, Obj.cells (Value.cells (arrW 5 (cF s x 0))) 117 (0, 0)), ((gs16 1).b, Obj.cells #[.int .u64 0, .int .u64 0, .int .u64 0, .int .u64 0, .int .u64 0, .int .u64 0, .int .u64 0, .int .u64 0, .int .u64 0, .int .u64 0, .int .u64 0, .int .u64 0, .int .u64 0, .int .u64 0, .int .u64 0, .int .u64 0, .int .u64 0, .int .u64 0, .int .u64 0, .int .u64 0, .int .u64 0, .int .u64 0, .int .u64 0, .int .u64 0, .int .u64 0] 84 (0, 0))] := H17.as kr
    clear H17
    have HM11 : St w.heap.size w w17 [((gs1 0).b, Obj.cells (Value.cells (svn s)) 84 (0, 0)), ((gs1 1).b, Obj.cells #[.int .u64 0, .int .u64 0, .int .u64 0, .int .u64 0, .int .u64 0, .int .u64 0, .int .u64 0, .int .u64 0, .int .u64 0, .int .u64 0, .int .u64 0, .int .u64 0, .int .u64 0, .int .u64 0, .int .u64 0, .int .u64 0, .int .u64 0, .int .u64 0, .int .u64 0, .int .u64 0, .int .u64 0, .int .u64 0, .int .u64 0, .int .u64 0, .int .u64 0] 84 (0, 0)), ((gs2 1).b, Obj.cells (Value.cells (arrW 5 (cC s))) 117 (0, 0)), ((gs16 1).b, Obj.cells #[.int .u64 0, .int .u64 0, .int .u64 0, .int .u64 0, .int .u64 0, .int .u64 0, .int .u64 0, .int .u64 0, .int .u64 0, .int .u64 0, .int .u64 0, .int .u64 0, .int .u64 0, .int .u64 0, .int .u64 0, .int .u64 0, .int .u64 0, .int .u64 0, .int .u64 0, .int .u64 0, .int .u64 0, .int .u64 0, .int .u64 0, .int .u64 0, .int .u64 0] 84 (0, 0))] := by have h := HL10; rw [cF_all s x (by omega)] at h; exact h
    have HM12 : St w.heap.size w w17 [((gs1 0).b, Obj.cells (Value.cells (svn s)) 84 (0, 0)), ((gs1 1).b, Obj.cells #[.int .u64 0, .int .u64 0, .int .u64 0, .int .u64 0, .int .u64 0, .int .u64 0, .int .u64 0, .int .u64 0, .int .u64 0, .int .u64 0, .int .u64 0, .int .u64 0, .int .u64 0, .int .u64 0, .int .u64 0, .int .u64 0, .int .u64 0, .int .u64 0, .int .u64 0, .int .u64 0, .int .u64 0, .int .u64 0, .int .u64 0, .int .u64 0, .int .u64 0] 84 (0, 0)), ((gs2 1).b, Obj.cells (Value.cells (arrW 5 (cC s))) 117 (0, 0)), ((gs16 1).b, Obj.cells (Value.cells (arrW 25 (bF s 0 0))) 84 (0, 0))] := HM11
    refine g_loop kr (fun mz ρ ww => ∃ (u : Nat), 5 - u = mz ∧ (u ≤ 5) ∧ St w.heap.size w ww [((gs1 0).b, Obj.cells (Value.cells (svn s)) 84 (0, 0)), ((gs1 1).b, Obj.cells #[.int .u64 0, .int .u64 0, .int .u64 0, .int .u64 0, .int .u64 0, .int .u64 0, .int .u64 0, .int .u64 0, .int .u64 0, .int .u64 0, .int .u64 0, .int .u64 0, .int .u64 0, .int .u64 0, .int .u64 0, .int .u64 0, .int .u64 0, .int .u64 0, .int .u64 0, .int .u64 0, .int .u64 0, .int .u64 0, .int .u64 0, .int .u64 0, .int .u64 0] 84 (0, 0)), ((gs2 1).b, Obj.cells (Value.cells (arrW 5 (cC s))) 117 (0, 0)), ((gs16 1).b, Obj.cells (Value.cells (arrW 25 (bF s u 0))) 84 (0, 0))] ∧ Is [(0, svn s), (1, .int .i64 ((i : Nat) : Int)), (2, .pointer (some ⟨(gs1 0).b, 0, none⟩)), (4, .pointer (some ⟨(gs1 1).b, 0, none⟩)), (5, .pointer (some ⟨(gs2 1).b, 0, none⟩)), (6, .int .i64 ((x : Nat) : Int)), (8, .pointer (some ⟨(gs16 1).b, 0, none⟩)), (9, .int .i64 ((u : Nat) : Int)), (18, .bool false)] ρ) (5 - 0) ⟨0, rfl, (by omega), HM12, (Is.of ⟨kr, kr, kr, kr, kr, kr, kr, kr, kr, trivial⟩)⟩ ?_
    clear HM12
    rintro _ _ w18 ⟨u, rfl, hu, H18, _, rfl⟩
    refine g_seq kr ?_
    refine g_sreg [0, 1] kr kr ?_
    refine rp [.v] H18 kr fun gs19 w19 H19 => ?_
    show WPs _ _ _ _ [1] _ _
    clear H18
    by_cases hc13 : (u : Nat) < 5
    · skip
      refine rp [.e (v := .bool (decide (((u : Nat) : Int) < 5))) (v' := .bool true) (bool_eq (decide_eq_true (by omega)))] H19 kr fun gs20 w20 H20 => ?_
      show WPs _ _ _ _ [] _ _
      clear H19
      refine s_nil ?_
      refine g_cond_t kr kr ?_
      refine g_skip kr ?_
      show WP _ _ _ _ _ _
      refine g_seq kr ?_
      refine g_block 5 kr ?_
      refine dS [.v, .e (v := .int .i64 (IntKind.i64.wrap (((u : Nat) : Int) + 4))) (v' := .int .i64 ((u + 4 : Nat) : Int)) (int_eq (wrapAdd_i64 (a := u) (b := 4) (by omega))), .e (v := .int .i64 (Int.tmod ((u + 4 : Nat) : Int) 5)) (v' := .int .i64 (((u + 4) % 5 : Nat) : Int)) (int_eq (remN (u + 4) 5)), .o (ins := [((.tmp 5), .pointer (some ⟨(gs2 1).b, 0, none⟩)), ((.tmp 43), .int .i64 (((u + 4) % 5 : Nat) : Int))]) (v := .pointer (some ⟨(gs2 1).b, 0 + ((u + 4) % 5) * 1, none⟩)) (fun ρ o w ho hi => idxA_run (kd := .i64) (t := 117) (n := 5) (size := 1) kr (x := (.tmp 5)) (y := (.tmp 43)) (gs2 1).b 0 ((u + 4) % 5) ho hi.1 hi.2.1 (by omega) w), .ls (C := (Value.cells (arrW 5 (cC s)))) (off := 0 + ((u + 4) % 5) * 1) (v := .int .u64 ((BitVec.toNat (cC s ((u + 4) % 5)) : Nat) : Int)) 2 (arrW_at (n := 5) (cC s) (k := ((u + 4) % 5)) (by omega) (by omega)), .v, .e (v := .int .i64 (IntKind.i64.wrap (((u : Nat) : Int) + 1))) (v' := .int .i64 ((u + 1 : Nat) : Int)) (int_eq (wrapAdd_i64 (a := u) (b := 1) (by omega))), .e (v := .int .i64 (Int.tmod ((u + 1 : Nat) : Int) 5)) (v' := .int .i64 (((u + 1) % 5 : Nat) : Int)) (int_eq (remN (u + 1) 5)), .o (ins := [((.tmp 5), .pointer (some ⟨(gs2 1).b, 0, none⟩)), ((.tmp 48), .int .i64 (((u + 1) % 5 : Nat) : Int))]) (v := .pointer (some ⟨(gs2 1).b, 0 + ((u + 1) % 5) * 1, none⟩)) (fun ρ o w ho hi => idxA_run (kd := .i64) (t := 117) (n := 5) (size := 1) kr (x := (.tmp 5)) (y := (.tmp 48)) (gs2 1).b 0 ((u + 1) % 5) ho hi.1 hi.2.1 (by omega) w), .ls (C := (Value.cells (arrW 5 (cC s)))) (off := 0 + ((u + 1) % 5) * 1) (v := .int .u64 ((BitVec.toNat (cC s ((u + 1) % 5)) : Nat) : Int)) 2 (arrW_at (n := 5) (cC s) (k := ((u + 1) % 5)) (by omega) (by omega)), .c (left_fn (cC s ((u + 1) % 5)) 1 (by omega) (by omega)), .e (v := .int .u64 (Go.bits .xor .u64 (((BitVec.toNat (cC s ((u + 4) % 5)) : Nat) : Int)) (((BitVec.toNat (rl (cC s ((u + 1) % 5)) 1) : Nat) : Int)))) (v' := .int .u64 ((BitVec.toNat (dD (cC s) u) : Nat) : Int)) (bv_xor_u64 (cC s ((u + 4) % 5)) (rl (cC s ((u + 1) % 5)) 1)), .v] H20 kr fun w21 H21 => ?_
      clear H20
      refine g_keep [0, 1, 2, 4, 5, 6, 8, 9, 10, 18, 38] fun ρ2 => ?_
      have HK14 := H21.keep
      clear H21
      refine rS [.v] HK14 kr fun gs22 w22 H22 => ?_
      clear HK14
      refine g_block 6 kr ?_
      have HL15 : St w.heap.size w w22 [((gs1 0).b, Obj.cells (Value.cells (svn s)) 84 (0, 0)), ((gs1 1).b, Obj.cells #[.int .u64 0, .int .u64 0, .int .u64 0, .int .u64 0, .int .u64 0, .int .u64 0, .int .u64 0, .int .u64 0, .int .u64 0, .int .u64 0, .int .u64 0, .int .u64 0, .int .u64 0, .int .u64 0, .int .u64 0, .int .u64 0, .int .u64 0, .int .u64 0, .int .u64 0, .int .u64 0, .int .u64 0, .int .u64 0, .int .u64 0, .int .u64 0, .int .u64 0] 84 (0, 0)), ((gs2 1).b, Obj.cells (Value.cells (arrW 5 (cC s))) 117 (0, 0)), ((gs16 1).b, Obj.cells (Value.cells (arrW 25 (bF s u 0))) 84 (0, 0))] := H22.as kr
      clear H22
      refine g_loop kr (fun mz ρ ww => ∃ (v : Nat), 5 - v = mz ∧ (v ≤ 5) ∧ St w.heap.size w ww [((gs1 0).b, Obj.cells (Value.cells (svn s)) 84 (0, 0)), ((gs1 1).b, Obj.cells #[.int .u64 0, .int .u64 0, .int .u64 0, .int .u64 0, .int .u64 0, .int .u64 0, .int .u64 0, .int .u64 0, .int .u64 0, .int .u64 0, .int .u64 0, .int .u64 0, .int .u64 0, .int .u64 0, .int .u64 0, .int .u64 0, .int .u64 0, .int .u64 0, .int .u64 0, .int .u64 0, .int .u64 0, .int .u64 0, .int .u64 0, .int .u64 0, .int .u64 0] 84 (0, 0)), ((gs2 1).b, Obj.cells (Value.cells (arrW 5 (cC s))) 117 (0, 0)), ((gs16 1).b, Obj.cells (Value.cells (arrW 25 (bF s u v))) 84 (0, 0))] ∧ Is [(0, svn s), (1, .int .i64 ((i : Nat) : Int)), (2, .pointer (some ⟨(gs1 0).b, 0, none⟩)), (4, .pointer (some ⟨(gs1 1).b, 0, none⟩)), (5, .pointer (some ⟨(gs2 1).b, 0, none⟩)), (6, .int .i64 ((x : Nat) : Int)), (8, .pointer (some ⟨(gs16 1).b, 0, none⟩)), (9, .int .i64 ((u : Nat) : Int)), (10, .int .u64 ((BitVec.toNat (dD (cC s) u) : Nat) : Int)), (11, .int .i64 ((v : Nat) : Int)), (18, .bool false), (38, .bool true)] ρ) (5 - 0) ⟨0, rfl, (by omega), HL15, (Is.of ⟨kr, kr, kr, kr, kr, kr, kr, kr, kr, kr, kr, kr, trivial⟩)⟩ ?_
      clear HL15
      rintro _ _ w23 ⟨v, rfl, hv, H23, _, rfl⟩
      refine g_seq kr ?_
      refine g_sreg [0, 1] kr kr ?_
      refine rp [.v] H23 kr fun gs24 w24 H24 => ?_
      show WPs _ _ _ _ [1] _ _
      clear H23
      by_cases hc16 : (v : Nat) < 5
      · skip
        refine rp [.e (v := .bool (decide (((v : Nat) : Int) < 5))) (v' := .bool true) (bool_eq (decide_eq_true (by omega)))] H24 kr fun gs25 w25 H25 => ?_
        show WPs _ _ _ _ [] _ _
        clear H24
        refine s_nil ?_
        refine g_cond_t kr kr ?_
        refine g_skip kr ?_
        show WP _ _ _ _ _ _
        refine g_seq kr ?_
        refine g_block 7 kr ?_
        refine dL [.v, .v, .e (v := .int .i64 (IntKind.i64.wrap (2 * ((u : Nat) : Int)))) (v' := .int .i64 ((2 * u : Nat) : Int)) (int_eq (wrapMul_i64 (a := 2) (b := u) (by omega))), .v, .e (v := .int .i64 (IntKind.i64.wrap (3 * ((v : Nat) : Int)))) (v' := .int .i64 ((3 * v : Nat) : Int)) (int_eq (wrapMul_i64 (a := 3) (b := v) (by omega))), .e (v := .int .i64 (IntKind.i64.wrap (((2 * u : Nat) : Int) + ((3 * v : Nat) : Int)))) (v' := .int .i64 (((2 * u) + (3 * v) : Nat) : Int)) (int_eq (wrapAdd_i64 (a := 2 * u) (b := 3 * v) (by omega))), .c (at_fn v ((2 * u) + (3 * v)) (by omega) (by omega)), .v, .v, .c (at_fn u v (by omega) (by omega)), .o (ins := [((.tmp 2), .pointer (some ⟨(gs1 0).b, 0, none⟩)), ((.tmp 66), .int .i64 ((u % 5 + 5 * (v % 5) : Nat) : Int))]) (v := .pointer (some ⟨(gs1 0).b, 0 + (u % 5 + 5 * (v % 5)) * 1, none⟩)) (fun ρ o w ho hi => idxA_run (kd := .i64) (t := 84) (n := 25) (size := 1) kr (x := (.tmp 2)) (y := (.tmp 66)) (gs1 0).b 0 (u % 5 + 5 * (v % 5)) ho hi.1 hi.2.1 (by omega) w), .ls (C := (Value.cells (svn s))) (off := 0 + (u % 5 + 5 * (v % 5)) * 1) (v := .int .u64 ((BitVec.toNat (nth s (u + 5 * v)) : Nat) : Int)) 0 (svn_at s (u + 5 * v) _ (by omega) (by omega)), .v, .e (v := .int .u64 (Go.bits .xor .u64 (((BitVec.toNat (nth s (u + 5 * v)) : Nat) : Int)) (((BitVec.toNat (dD (cC s) u) : Nat) : Int)))) (v' := .int .u64 ((BitVec.toNat (th s (u + 5 * v)) : Nat) : Int)) ((bv_xor_u64 (nth s (u + 5 * v)) (dD (cC s) u)).trans (bv_congr (th_at s (by omega)))), .v, .v, .c (turnR_fn u v (by omega) (by omega)), .c (leftR_fn s u v (by omega) (by omega)), .o (ins := [((.tmp 8), .pointer (some ⟨(gs16 1).b, 0, none⟩)), ((.tmp 63), .int .i64 ((v % 5 + 5 * (((2 * u) + (3 * v)) % 5) : Nat) : Int))]) (v := .pointer (some ⟨(gs16 1).b, 0 + (v % 5 + 5 * (((2 * u) + (3 * v)) % 5)) * 1, none⟩)) (fun ρ o w ho hi => idxA_run (kd := .i64) (t := 84) (n := 25) (size := 1) kr (x := (.tmp 8)) (y := (.tmp 63)) (gs16 1).b 0 (v % 5 + 5 * (((2 * u) + (3 * v)) % 5)) ho hi.1 hi.2.1 (by omega) w), .se (C := (Value.cells (arrW 25 (bF s u v)))) (C' := (Value.cells (arrW 25 (bF s u (v + 1))))) (off := 0 + (v % 5 + 5 * (((2 * u) + (3 * v)) % 5)) * 1) (v := .int .u64 ((BitVec.toNat (pI s (v % 5 + 5 * ((2 * u + 3 * v) % 5))) : Nat) : Int)) 3 (by show _ + 1 ≤ 25; omega) (arrW_put (k := v % 5 + 5 * ((2 * u + 3 * v) % 5)) (x := pI s (v % 5 + 5 * ((2 * u + 3 * v) % 5))) (by omega) (by omega) (fun j hj => bF_put s (by omega) (by omega) hj))] H25 kr fun w26 H26 => ?_
        clear H25
        show WP _ _ _ _ _ _
        refine g_keep [0, 1, 2, 4, 5, 6, 8, 9, 10, 11, 18, 38, 54] fun ρ3 => ?_
        have HK17 := H26.keep
        clear H26
        refine rL [.v, .e (v := .int .i64 (IntKind.i64.wrap (((v : Nat) : Int) + 1))) (v' := .int .i64 ((v + 1 : Nat) : Int)) (int_eq (wrapAdd_i64 (a := v) (b := 1) (by omega))), .v] HK17 kr fun gs27 w27 H27 => ?_
        clear HK17
        have HL18 : St w.heap.size w w27 [((gs1 0).b, Obj.cells (Value.cells (svn s)) 84 (0, 0)), ((gs1 1).b, Obj.cells #[.int .u64 0, .int .u64 0, .int .u64 0, .int .u64 0, .int .u64 0, .int .u64 0, .int .u64 0, .int .u64 0, .int .u64 0, .int .u64 0, .int .u64 0, .int .u64 0, .int .u64 0, .int .u64 0, .int .u64 0, .int .u64 0, .int .u64 0, .int .u64 0, .int .u64 0, .int .u64 0, .int .u64 0, .int .u64 0, .int .u64 0, .int .u64 0, .int .u64 0] 84 (0, 0)), ((gs2 1).b, Obj.cells (Value.cells (arrW 5 (cC s))) 117 (0, 0)), ((gs16 1).b, Obj.cells (Value.cells (arrW 25 (bF s u (v + 1)))) 84 (0, 0))] := H27.as kr
        clear H27
        show ∃ m, _ ∧ _
        exact ⟨_, (by omega), (v + 1), rfl, (by omega), HL18, (Is.of ⟨kr, kr, kr, kr, kr, kr, kr, kr, kr, kr, kr, kr, trivial⟩)⟩
      · skip
        refine rp [.e (v := .bool (decide (((v : Nat) : Int) < 5))) (v' := .bool false) (bool_eq (decide_eq_false (by omega)))] H24 kr fun gs28 w28 H28 => ?_
        show WPs _ _ _ _ [] _ _
        clear H24
        refine s_nil ?_
        refine g_cond_f kr kr ?_
        refine g_exit 6 kr ?_
        show WP _ _ _ _ _ _
        refine rL [.v, .e (v := .int .i64 (IntKind.i64.wrap (((u : Nat) : Int) + 1))) (v' := .int .i64 ((u + 1 : Nat) : Int)) (int_eq (wrapAdd_i64 (a := u) (b := 1) (by omega))), .v] H28 kr fun gs29 w29 H29 => ?_
        clear H28
        have HL19 : St w.heap.size w w29 [((gs1 0).b, Obj.cells (Value.cells (svn s)) 84 (0, 0)), ((gs1 1).b, Obj.cells #[.int .u64 0, .int .u64 0, .int .u64 0, .int .u64 0, .int .u64 0, .int .u64 0, .int .u64 0, .int .u64 0, .int .u64 0, .int .u64 0, .int .u64 0, .int .u64 0, .int .u64 0, .int .u64 0, .int .u64 0, .int .u64 0, .int .u64 0, .int .u64 0, .int .u64 0, .int .u64 0, .int .u64 0, .int .u64 0, .int .u64 0, .int .u64 0, .int .u64 0] 84 (0, 0)), ((gs2 1).b, Obj.cells (Value.cells (arrW 5 (cC s))) 117 (0, 0)), ((gs16 1).b, Obj.cells (Value.cells (arrW 25 (bF s u v))) 84 (0, 0))] := H29.as kr
        clear H29
        have HM20 : St w.heap.size w w29 [((gs1 0).b, Obj.cells (Value.cells (svn s)) 84 (0, 0)), ((gs1 1).b, Obj.cells #[.int .u64 0, .int .u64 0, .int .u64 0, .int .u64 0, .int .u64 0, .int .u64 0, .int .u64 0, .int .u64 0, .int .u64 0, .int .u64 0, .int .u64 0, .int .u64 0, .int .u64 0, .int .u64 0, .int .u64 0, .int .u64 0, .int .u64 0, .int .u64 0, .int .u64 0, .int .u64 0, .int .u64 0, .int .u64 0, .int .u64 0, .int .u64 0, .int .u64 0] 84 (0, 0)), ((gs2 1).b, Obj.cells (Value.cells (arrW 5 (cC s))) 117 (0, 0)), ((gs16 1).b, Obj.cells (Value.cells (arrW 25 (bF s (u + 1) 0))) 84 (0, 0))] := by have h := HL19; rw [bF_row s u v (by omega)] at h; exact h
        show ∃ m, _ ∧ _
        exact ⟨_, (by omega), (u + 1), rfl, (by omega), HM20, (Is.of ⟨kr, kr, kr, kr, kr, kr, kr, kr, kr, trivial⟩)⟩
    · skip
      refine rp [.e (v := .bool (decide (((u : Nat) : Int) < 5))) (v' := .bool false) (bool_eq (decide_eq_false (by omega)))] H19 kr fun gs30 w30 H30 => ?_
      show WPs _ _ _ _ [] _ _
      clear H19
      refine s_nil ?_
      refine g_cond_f kr kr ?_
      refine g_exit 4 kr ?_
      show WP _ _ _ _ _ _
      refine rS [.v, .a, .s 4] H30 kr fun gs31 w31 H31 => ?_
      clear H30
      refine g_keep [0, 1, 2, 4, 5, 6, 8, 9, 12, 18, 38] fun ρ4 => ?_
      have HK21 := H31.keep
      clear H31
      refine g_seq kr ?_
      refine rS [.v] HK21 kr fun gs32 w32 H32 => ?_
      clear HK21
      refine g_block 8 kr ?_
      have HL22 : St w.heap.size w w32 [((gs1 0).b, Obj.cells (Value.cells (svn s)) 84 (0, 0)), ((gs1 1).b, Obj.cells #[.int .u64 0, .int .u64 0, .int .u64 0, .int .u64 0, .int .u64 0, .int .u64 0, .int .u64 0, .int .u64 0, .int .u64 0, .int .u64 0, .int .u64 0, .int .u64 0, .int .u64 0, .int .u64 0, .int .u64 0, .int .u64 0, .int .u64 0, .int .u64 0, .int .u64 0, .int .u64 0, .int .u64 0, .int .u64 0, .int .u64 0, .int .u64 0, .int .u64 0] 84 (0, 0)), ((gs2 1).b, Obj.cells (Value.cells (arrW 5 (cC s))) 117 (0, 0)), ((gs16 1).b, Obj.cells (Value.cells (arrW 25 (bF s u 0))) 84 (0, 0)), ((gs31 1).b, Obj.cells #[.int .u64 0, .int .u64 0, .int .u64 0, .int .u64 0, .int .u64 0, .int .u64 0, .int .u64 0, .int .u64 0, .int .u64 0, .int .u64 0, .int .u64 0, .int .u64 0, .int .u64 0, .int .u64 0, .int .u64 0, .int .u64 0, .int .u64 0, .int .u64 0, .int .u64 0, .int .u64 0, .int .u64 0, .int .u64 0, .int .u64 0, .int .u64 0, .int .u64 0] 84 (0, 0))] := H32.as kr
      clear H32
      have HM23 : St w.heap.size w w32 [((gs1 0).b, Obj.cells (Value.cells (svn s)) 84 (0, 0)), ((gs1 1).b, Obj.cells #[.int .u64 0, .int .u64 0, .int .u64 0, .int .u64 0, .int .u64 0, .int .u64 0, .int .u64 0, .int .u64 0, .int .u64 0, .int .u64 0, .int .u64 0, .int .u64 0, .int .u64 0, .int .u64 0, .int .u64 0, .int .u64 0, .int .u64 0, .int .u64 0, .int .u64 0, .int .u64 0, .int .u64 0, .int .u64 0, .int .u64 0, .int .u64 0, .int .u64 0] 84 (0, 0)), ((gs2 1).b, Obj.cells (Value.cells (arrW 5 (cC s))) 117 (0, 0)), ((gs16 1).b, Obj.cells (Value.cells (arrW 25 (pI s))) 84 (0, 0)), ((gs31 1).b, Obj.cells #[.int .u64 0, .int .u64 0, .int .u64 0, .int .u64 0, .int .u64 0, .int .u64 0, .int .u64 0, .int .u64 0, .int .u64 0, .int .u64 0, .int .u64 0, .int .u64 0, .int .u64 0, .int .u64 0, .int .u64 0, .int .u64 0, .int .u64 0, .int .u64 0, .int .u64 0, .int .u64 0, .int .u64 0, .int .u64 0, .int .u64 0, .int .u64 0, .int .u64 0] 84 (0, 0))] := by have h := HL22; rw [bF_all s u (by omega)] at h; exact h
      have HM24 : St w.heap.size w w32 [((gs1 0).b, Obj.cells (Value.cells (svn s)) 84 (0, 0)), ((gs1 1).b, Obj.cells #[.int .u64 0, .int .u64 0, .int .u64 0, .int .u64 0, .int .u64 0, .int .u64 0, .int .u64 0, .int .u64 0, .int .u64 0, .int .u64 0, .int .u64 0, .int .u64 0, .int .u64 0, .int .u64 0, .int .u64 0, .int .u64 0, .int .u64 0, .int .u64 0, .int .u64 0, .int .u64 0, .int .u64 0, .int .u64 0, .int .u64 0, .int .u64 0, .int .u64 0] 84 (0, 0)), ((gs2 1).b, Obj.cells (Value.cells (arrW 5 (cC s))) 117 (0, 0)), ((gs16 1).b, Obj.cells (Value.cells (arrW 25 (pI s))) 84 (0, 0)), ((gs31 1).b, Obj.cells (Value.cells (arrW 25 (oF s 0 0))) 84 (0, 0))] := HM23
      have HD25 : St w.heap.size w w32 [((gs1 1).b, Obj.cells #[.int .u64 0, .int .u64 0, .int .u64 0, .int .u64 0, .int .u64 0, .int .u64 0, .int .u64 0, .int .u64 0, .int .u64 0, .int .u64 0, .int .u64 0, .int .u64 0, .int .u64 0, .int .u64 0, .int .u64 0, .int .u64 0, .int .u64 0, .int .u64 0, .int .u64 0, .int .u64 0, .int .u64 0, .int .u64 0, .int .u64 0, .int .u64 0, .int .u64 0] 84 (0, 0)), ((gs16 1).b, Obj.cells (Value.cells (arrW 25 (pI s))) 84 (0, 0)), ((gs31 1).b, Obj.cells (Value.cells (arrW 25 (oF s 0 0))) 84 (0, 0))] := HM24.sub (List.Sublist.cons _ (List.Sublist.cons_cons _ (List.Sublist.cons _ (List.Sublist.cons_cons _ (List.Sublist.cons_cons _ List.Sublist.slnil)))))
      refine g_loop kr (fun mz ρ ww => ∃ (m : Nat), 5 - m = mz ∧ (m ≤ 5) ∧ St w.heap.size w ww [((gs1 1).b, Obj.cells #[.int .u64 0, .int .u64 0, .int .u64 0, .int .u64 0, .int .u64 0, .int .u64 0, .int .u64 0, .int .u64 0, .int .u64 0, .int .u64 0, .int .u64 0, .int .u64 0, .int .u64 0, .int .u64 0, .int .u64 0, .int .u64 0, .int .u64 0, .int .u64 0, .int .u64 0, .int .u64 0, .int .u64 0, .int .u64 0, .int .u64 0, .int .u64 0, .int .u64 0] 84 (0, 0)), ((gs16 1).b, Obj.cells (Value.cells (arrW 25 (pI s))) 84 (0, 0)), ((gs31 1).b, Obj.cells (Value.cells (arrW 25 (oF s m 0))) 84 (0, 0))] ∧ Is [(0, svn s), (1, .int .i64 ((i : Nat) : Int)), (2, .pointer (some ⟨(gs1 0).b, 0, none⟩)), (4, .pointer (some ⟨(gs1 1).b, 0, none⟩)), (5, .pointer (some ⟨(gs2 1).b, 0, none⟩)), (6, .int .i64 ((x : Nat) : Int)), (8, .pointer (some ⟨(gs16 1).b, 0, none⟩)), (9, .int .i64 ((u : Nat) : Int)), (12, .pointer (some ⟨(gs31 1).b, 0, none⟩)), (13, .int .i64 ((m : Nat) : Int)), (18, .bool false), (38, .bool false)] ρ) (5 - 0) ⟨0, rfl, (by omega), HD25, (Is.of ⟨kr, kr, kr, kr, kr, kr, kr, kr, kr, kr, kr, kr, trivial⟩)⟩ ?_
      clear HD25
      rintro _ _ w33 ⟨m, rfl, hm, H33, _, rfl⟩
      refine g_seq kr ?_
      refine g_sreg [0, 1] kr kr ?_
      refine rp [.v] H33 kr fun gs34 w34 H34 => ?_
      show WPs _ _ _ _ [1] _ _
      clear H33
      by_cases hc26 : (m : Nat) < 5
      · skip
        refine rp [.e (v := .bool (decide (((m : Nat) : Int) < 5))) (v' := .bool true) (bool_eq (decide_eq_true (by omega)))] H34 kr fun gs35 w35 H35 => ?_
        show WPs _ _ _ _ [] _ _
        clear H34
        refine s_nil ?_
        refine g_cond_t kr kr ?_
        refine g_skip kr ?_
        show WP _ _ _ _ _ _
        refine g_seq kr ?_
        refine g_block 9 kr ?_
        refine rS [.v] H35 kr fun gs36 w36 H36 => ?_
        clear H35
        refine g_block 10 kr ?_
        have HL27 : St w.heap.size w w36 [((gs1 1).b, Obj.cells #[.int .u64 0, .int .u64 0, .int .u64 0, .int .u64 0, .int .u64 0, .int .u64 0, .int .u64 0, .int .u64 0, .int .u64 0, .int .u64 0, .int .u64 0, .int .u64 0, .int .u64 0, .int .u64 0, .int .u64 0, .int .u64 0, .int .u64 0, .int .u64 0, .int .u64 0, .int .u64 0, .int .u64 0, .int .u64 0, .int .u64 0, .int .u64 0, .int .u64 0] 84 (0, 0)), ((gs16 1).b, Obj.cells (Value.cells (arrW 25 (pI s))) 84 (0, 0)), ((gs31 1).b, Obj.cells (Value.cells (arrW 25 (oF s m 0))) 84 (0, 0))] := H36.as kr
        clear H36
        refine g_loop kr (fun mz ρ ww => ∃ (l : Nat), 5 - l = mz ∧ (l ≤ 5) ∧ St w.heap.size w ww [((gs1 1).b, Obj.cells #[.int .u64 0, .int .u64 0, .int .u64 0, .int .u64 0, .int .u64 0, .int .u64 0, .int .u64 0, .int .u64 0, .int .u64 0, .int .u64 0, .int .u64 0, .int .u64 0, .int .u64 0, .int .u64 0, .int .u64 0, .int .u64 0, .int .u64 0, .int .u64 0, .int .u64 0, .int .u64 0, .int .u64 0, .int .u64 0, .int .u64 0, .int .u64 0, .int .u64 0] 84 (0, 0)), ((gs16 1).b, Obj.cells (Value.cells (arrW 25 (pI s))) 84 (0, 0)), ((gs31 1).b, Obj.cells (Value.cells (arrW 25 (oF s m l))) 84 (0, 0))] ∧ Is [(0, svn s), (1, .int .i64 ((i : Nat) : Int)), (2, .pointer (some ⟨(gs1 0).b, 0, none⟩)), (4, .pointer (some ⟨(gs1 1).b, 0, none⟩)), (5, .pointer (some ⟨(gs2 1).b, 0, none⟩)), (6, .int .i64 ((x : Nat) : Int)), (8, .pointer (some ⟨(gs16 1).b, 0, none⟩)), (9, .int .i64 ((u : Nat) : Int)), (12, .pointer (some ⟨(gs31 1).b, 0, none⟩)), (13, .int .i64 ((m : Nat) : Int)), (14, .int .i64 ((l : Nat) : Int)), (18, .bool false), (38, .bool false), (78, .bool true)] ρ) (5 - 0) ⟨0, rfl, (by omega), HL27, (Is.of ⟨kr, kr, kr, kr, kr, kr, kr, kr, kr, kr, kr, kr, kr, kr, trivial⟩)⟩ ?_
        clear HL27
        rintro _ _ w37 ⟨l, rfl, hl, H37, _, rfl⟩
        refine g_seq kr ?_
        refine g_sreg [0, 1] kr kr ?_
        refine rp [.v] H37 kr fun gs38 w38 H38 => ?_
        show WPs _ _ _ _ [1] _ _
        clear H37
        by_cases hc28 : (l : Nat) < 5
        · skip
          refine rp [.e (v := .bool (decide (((l : Nat) : Int) < 5))) (v' := .bool true) (bool_eq (decide_eq_true (by omega)))] H38 kr fun gs39 w39 H39 => ?_
          show WPs _ _ _ _ [] _ _
          clear H38
          refine s_nil ?_
          refine g_cond_t kr kr ?_
          refine g_skip kr ?_
          show WP _ _ _ _ _ _
          refine g_seq kr ?_
          refine g_block 11 kr ?_
          refine rS [.v, .e (v := .int .i64 (IntKind.i64.wrap (((m : Nat) : Int) + 1))) (v' := .int .i64 ((m + 1 : Nat) : Int)) (int_eq (wrapAdd_i64 (a := m) (b := 1) (by omega))), .v, .c (at_fn (m + 1) l (by omega) (by omega)), .o (ins := [((.tmp 8), .pointer (some ⟨(gs16 1).b, 0, none⟩)), ((.tmp 88), .int .i64 (((m + 1) % 5 + 5 * (l % 5) : Nat) : Int))]) (v := .pointer (some ⟨(gs16 1).b, 0 + ((m + 1) % 5 + 5 * (l % 5)) * 1, none⟩)) (fun ρ o w ho hi => idxA_run (kd := .i64) (t := 84) (n := 25) (size := 1) kr (x := (.tmp 8)) (y := (.tmp 88)) (gs16 1).b 0 ((m + 1) % 5 + 5 * (l % 5)) ho hi.1 hi.2.1 (by omega) w), .ls (C := (Value.cells (arrW 25 (pI s)))) (off := 0 + ((m + 1) % 5 + 5 * (l % 5)) * 1) (v := .int .u64 ((BitVec.toNat (pI s ((m + 1) % 5 + 5 * (l % 5))) : Nat) : Int)) 1 (arrW_at (n := 25) (pI s) (k := ((m + 1) % 5 + 5 * (l % 5))) (by omega) (by omega)), .e (v := .int .u64 (IntKind.u64.wrap ((18446744073709551615) - (((BitVec.toNat (pI s ((m + 1) % 5 + 5 * (l % 5))) : Nat) : Int))))) (v' := .int .u64 ((BitVec.toNat (~~~(pI s ((m + 1) % 5 + 5 * (l % 5)))) : Nat) : Int)) ((bv_sub_u64 (18446744073709551615 : BitVec 64) (pI s ((m + 1) % 5 + 5 * (l % 5)))).trans (bv_congr (sub_not (pI s ((m + 1) % 5 + 5 * (l % 5)))))), .v] H39 kr fun gs40 w40 H40 => ?_
          clear H39
          refine dL [.v, .v, .c (at_fn m l (by omega) (by omega)), .v, .v, .c (at_fn m l (by omega) (by omega)), .o (ins := [((.tmp 8), .pointer (some ⟨(gs16 1).b, 0, none⟩)), ((.tmp 97), .int .i64 ((m % 5 + 5 * (l % 5) : Nat) : Int))]) (v := .pointer (some ⟨(gs16 1).b, 0 + (m % 5 + 5 * (l % 5)) * 1, none⟩)) (fun ρ o w ho hi => idxA_run (kd := .i64) (t := 84) (n := 25) (size := 1) kr (x := (.tmp 8)) (y := (.tmp 97)) (gs16 1).b 0 (m % 5 + 5 * (l % 5)) ho hi.1 hi.2.1 (by omega) w), .ls (C := (Value.cells (arrW 25 (pI s)))) (off := 0 + (m % 5 + 5 * (l % 5)) * 1) (v := .int .u64 ((BitVec.toNat (pI s (m + 5 * l)) : Nat) : Int)) 1 (arrW_at (n := 25) (pI s) (k := m + 5 * l) (by omega) (by omega)), .v, .v, .e (v := .int .i64 (IntKind.i64.wrap (((m : Nat) : Int) + 2))) (v' := .int .i64 ((m + 2 : Nat) : Int)) (int_eq (wrapAdd_i64 (a := m) (b := 2) (by omega))), .v, .c (at_fn (m + 2) l (by omega) (by omega)), .o (ins := [((.tmp 8), .pointer (some ⟨(gs16 1).b, 0, none⟩)), ((.tmp 104), .int .i64 (((m + 2) % 5 + 5 * (l % 5) : Nat) : Int))]) (v := .pointer (some ⟨(gs16 1).b, 0 + ((m + 2) % 5 + 5 * (l % 5)) * 1, none⟩)) (fun ρ o w ho hi => idxA_run (kd := .i64) (t := 84) (n := 25) (size := 1) kr (x := (.tmp 8)) (y := (.tmp 104)) (gs16 1).b 0 ((m + 2) % 5 + 5 * (l % 5)) ho hi.1 hi.2.1 (by omega) w), .ls (C := (Value.cells (arrW 25 (pI s)))) (off := 0 + ((m + 2) % 5 + 5 * (l % 5)) * 1) (v := .int .u64 ((BitVec.toNat (pI s ((m + 2) % 5 + 5 * (l % 5))) : Nat) : Int)) 1 (arrW_at (n := 25) (pI s) (k := ((m + 2) % 5 + 5 * (l % 5))) (by omega) (by omega)), .e (v := .int .u64 (Go.bits .and .u64 (((BitVec.toNat (~~~(pI s ((m + 1) % 5 + 5 * (l % 5)))) : Nat) : Int)) (((BitVec.toNat (pI s ((m + 2) % 5 + 5 * (l % 5))) : Nat) : Int)))) (v' := .int .u64 ((BitVec.toNat ((~~~(pI s ((m + 1) % 5 + 5 * (l % 5)))) &&& (pI s ((m + 2) % 5 + 5 * (l % 5)))) : Nat) : Int)) (bv_and_u64 (~~~(pI s ((m + 1) % 5 + 5 * (l % 5)))) (pI s ((m + 2) % 5 + 5 * (l % 5)))), .e (v := .int .u64 (Go.bits .xor .u64 (((BitVec.toNat (pI s (m + 5 * l)) : Nat) : Int)) (((BitVec.toNat ((~~~(pI s ((m + 1) % 5 + 5 * (l % 5)))) &&& (pI s ((m + 2) % 5 + 5 * (l % 5)))) : Nat) : Int)))) (v' := .int .u64 ((BitVec.toNat (xI (pI s) (m + 5 * l)) : Nat) : Int)) ((bv_xor_u64 (pI s (m + 5 * l)) ((~~~(pI s ((m + 1) % 5 + 5 * (l % 5)))) &&& (pI s ((m + 2) % 5 + 5 * (l % 5))))).trans (bv_congr (xI_at (pI s) (by omega) (by omega)))), .o (ins := [((.tmp 12), .pointer (some ⟨(gs31 1).b, 0, none⟩)), ((.tmp 94), .int .i64 ((m % 5 + 5 * (l % 5) : Nat) : Int))]) (v := .pointer (some ⟨(gs31 1).b, 0 + (m % 5 + 5 * (l % 5)) * 1, none⟩)) (fun ρ o w ho hi => idxA_run (kd := .i64) (t := 84) (n := 25) (size := 1) kr (x := (.tmp 12)) (y := (.tmp 94)) (gs31 1).b 0 (m % 5 + 5 * (l % 5)) ho hi.1 hi.2.1 (by omega) w), .se (C := (Value.cells (arrW 25 (oF s m l)))) (C' := (Value.cells (arrW 25 (oF s m (l + 1))))) (off := 0 + (m % 5 + 5 * (l % 5)) * 1) (v := .int .u64 ((BitVec.toNat (xI (pI s) (m + 5 * l)) : Nat) : Int)) 2 (by show _ + 1 ≤ 25; omega) (arrW_put (k := m + 5 * l) (x := xI (pI s) (m + 5 * l)) (by omega) (by omega) (fun j hj => oF_put s (by omega) (by omega) hj))] H40 kr fun w41 H41 => ?_
          clear H40
          show WP _ _ _ _ _ _
          refine g_keep [0, 1, 2, 4, 5, 6, 8, 9, 12, 13, 14, 15, 18, 38, 78, 82] fun ρ5 => ?_
          have HK29 := H41.keep
          clear H41
          refine rL [.v, .e (v := .int .i64 (IntKind.i64.wrap (((l : Nat) : Int) + 1))) (v' := .int .i64 ((l + 1 : Nat) : Int)) (int_eq (wrapAdd_i64 (a := l) (b := 1) (by omega))), .v] HK29 kr fun gs42 w42 H42 => ?_
          clear HK29
          have HL30 : St w.heap.size w w42 [((gs1 1).b, Obj.cells #[.int .u64 0, .int .u64 0, .int .u64 0, .int .u64 0, .int .u64 0, .int .u64 0, .int .u64 0, .int .u64 0, .int .u64 0, .int .u64 0, .int .u64 0, .int .u64 0, .int .u64 0, .int .u64 0, .int .u64 0, .int .u64 0, .int .u64 0, .int .u64 0, .int .u64 0, .int .u64 0, .int .u64 0, .int .u64 0, .int .u64 0, .int .u64 0, .int .u64 0] 84 (0, 0)), ((gs16 1).b, Obj.cells (Value.cells (arrW 25 (pI s))) 84 (0, 0)), ((gs31 1).b, Obj.cells (Value.cells (arrW 25 (oF s m (l + 1)))) 84 (0, 0))] := H42.as kr
          clear H42
          show ∃ m, _ ∧ _
          exact ⟨_, (by omega), (l + 1), rfl, (by omega), HL30, (Is.of ⟨kr, kr, kr, kr, kr, kr, kr, kr, kr, kr, kr, kr, kr, kr, trivial⟩)⟩
        · skip
          refine rp [.e (v := .bool (decide (((l : Nat) : Int) < 5))) (v' := .bool false) (bool_eq (decide_eq_false (by omega)))] H38 kr fun gs43 w43 H43 => ?_
          show WPs _ _ _ _ [] _ _
          clear H38
          refine s_nil ?_
          refine g_cond_f kr kr ?_
          refine g_exit 10 kr ?_
          show WP _ _ _ _ _ _
          refine rL [.v, .e (v := .int .i64 (IntKind.i64.wrap (((m : Nat) : Int) + 1))) (v' := .int .i64 ((m + 1 : Nat) : Int)) (int_eq (wrapAdd_i64 (a := m) (b := 1) (by omega))), .v] H43 kr fun gs44 w44 H44 => ?_
          clear H43
          have HL31 : St w.heap.size w w44 [((gs1 1).b, Obj.cells #[.int .u64 0, .int .u64 0, .int .u64 0, .int .u64 0, .int .u64 0, .int .u64 0, .int .u64 0, .int .u64 0, .int .u64 0, .int .u64 0, .int .u64 0, .int .u64 0, .int .u64 0, .int .u64 0, .int .u64 0, .int .u64 0, .int .u64 0, .int .u64 0, .int .u64 0, .int .u64 0, .int .u64 0, .int .u64 0, .int .u64 0, .int .u64 0, .int .u64 0] 84 (0, 0)), ((gs16 1).b, Obj.cells (Value.cells (arrW 25 (pI s))) 84 (0, 0)), ((gs31 1).b, Obj.cells (Value.cells (arrW 25 (oF s m l))) 84 (0, 0))] := H44.as kr
          clear H44
          have HM32 : St w.heap.size w w44 [((gs1 1).b, Obj.cells #[.int .u64 0, .int .u64 0, .int .u64 0, .int .u64 0, .int .u64 0, .int .u64 0, .int .u64 0, .int .u64 0, .int .u64 0, .int .u64 0, .int .u64 0, .int .u64 0, .int .u64 0, .int .u64 0, .int .u64 0, .int .u64 0, .int .u64 0, .int .u64 0, .int .u64 0, .int .u64 0, .int .u64 0, .int .u64 0, .int .u64 0, .int .u64 0, .int .u64 0] 84 (0, 0)), ((gs16 1).b, Obj.cells (Value.cells (arrW 25 (pI s))) 84 (0, 0)), ((gs31 1).b, Obj.cells (Value.cells (arrW 25 (oF s (m + 1) 0))) 84 (0, 0))] := by have h := HL31; rw [oF_row s m l (by omega)] at h; exact h
          show ∃ m, _ ∧ _
          exact ⟨_, (by omega), (m + 1), rfl, (by omega), HM32, (Is.of ⟨kr, kr, kr, kr, kr, kr, kr, kr, kr, kr, kr, kr, trivial⟩)⟩
      · skip
        refine rp [.e (v := .bool (decide (((m : Nat) : Int) < 5))) (v' := .bool false) (bool_eq (decide_eq_false (by omega)))] H34 kr fun gs45 w45 H45 => ?_
        show WPs _ _ _ _ [] _ _
        clear H34
        refine s_nil ?_
        refine g_cond_f kr kr ?_
        refine g_exit 8 kr ?_
        show WP _ _ _ _ _ _
        refine dS [.v, .l 2, .v, .c (last_fn i (by omega)), .e (v := .int .u64 (Go.bits .xor .u64 (((BitVec.toNat (oF s m 0 0) : Nat) : Int)) (((BitVec.toNat (lastB i 7) : Nat) : Int)))) (v' := .int .u64 ((BitVec.toNat ((oF s m 0 0) ^^^ (lastB i 7)) : Nat) : Int)) (bv_xor_u64 (oF s m 0 0) (lastB i 7)), .v, .se (C := (Value.cells (arrW 25 (oF s m 0)))) (C' := (Value.cells (svn (rm s (lastB i 7))))) (off := 0) (v := .int .u64 ((BitVec.toNat ((oF s m 0 0) ^^^ (lastB i 7)) : Nat) : Int)) 2 (of_decide_eq_true kr) (oF_rm s (lastB i 7) (by omega))] H45 kr fun w46 H46 => ?_
        clear H45
        refine rS [.l 2, .s 0] H46 kr fun gs47 w47 H47 => ?_
        clear H46
        refine g_ret kr ?_
        show ∃ vs, Res _ _ _ _ vs ∧ _
        refine ⟨[svn (rm s (lastB i 7))], (.agg (b := (gs1 1).b) (Value.cells (svn (rm s (lastB i 7)))) 84 (0, 0) kr (H47.get 0 kr) kr .nil), ?_, H47.below⟩
        rfl
end Go.Proofs.YtmmloghbnpfedaaDoor.Ke

namespace Go.Proofs.YtmmloghbnpfedaaDoor.Ke
open Go Go.RowKit Go.Proofs.Kec
set_option linter.unusedVariables false
theorem mixL_succ (s : List (BitVec 64)) (j : Nat) (h : j < 24) : mixK s (j + 1) = rm (mixK s j) (lastB j 7) := by rw [mixK_succ s j h, ← last_mark ⟨j, h⟩]
set_option maxRecDepth 100000 in
set_option maxHeartbeats 2000000 in
theorem mixR_fn (s : List (BitVec 64)) : Fn Tryd.prog 70 #[svn s] (svn (mix s)) := by
  refine Fn.intro (c := codeOf Tryd.f70) [.cell 2 84] 12 Tryd.func70 kr kr kr fun w => ?_
  have H0 := St.start w
  refine rS [.b, .a] H0 kr fun gs1 w1 H1 => ?_
  clear H0
  refine g_seq kr ?_
  refine rS [.v] H1 kr fun gs2 w2 H2 => ?_
  clear H1
  refine g_block 0 kr ?_
  have HL1 : St w.heap.size w w2 [((gs1 0).b, Obj.cells (Value.cells (svn s)) 84 (0, 0)), ((gs1 1).b, Obj.cells #[.int .u64 0, .int .u64 0, .int .u64 0, .int .u64 0, .int .u64 0, .int .u64 0, .int .u64 0, .int .u64 0, .int .u64 0, .int .u64 0, .int .u64 0, .int .u64 0, .int .u64 0, .int .u64 0, .int .u64 0, .int .u64 0, .int .u64 0, .int .u64 0, .int .u64 0, .int .u64 0, .int .u64 0, .int .u64 0, .int .u64 0, .int .u64 0, .int .u64 0] 84 (0, 0))] := H2.as kr
  clear H2
  have HM2 : St w.heap.size w w2 [((gs1 0).b, Obj.cells (Value.cells (svn (mixK s 0))) 84 (0, 0)), ((gs1 1).b, Obj.cells #[.int .u64 0, .int .u64 0, .int .u64 0, .int .u64 0, .int .u64 0, .int .u64 0, .int .u64 0, .int .u64 0, .int .u64 0, .int .u64 0, .int .u64 0, .int .u64 0, .int .u64 0, .int .u64 0, .int .u64 0, .int .u64 0, .int .u64 0, .int .u64 0, .int .u64 0, .int .u64 0, .int .u64 0, .int .u64 0, .int .u64 0, .int .u64 0, .int .u64 0] 84 (0, 0))] := HL1
  refine g_loop kr (fun mz ρ ww => ∃ (j : Nat), 24 - j = mz ∧ (j ≤ 24) ∧ St w.heap.size w ww [((gs1 0).b, Obj.cells (Value.cells (svn (mixK s j))) 84 (0, 0)), ((gs1 1).b, Obj.cells #[.int .u64 0, .int .u64 0, .int .u64 0, .int .u64 0, .int .u64 0, .int .u64 0, .int .u64 0, .int .u64 0, .int .u64 0, .int .u64 0, .int .u64 0, .int .u64 0, .int .u64 0, .int .u64 0, .int .u64 0, .int .u64 0, .int .u64 0, .int .u64 0, .int .u64 0, .int .u64 0, .int .u64 0, .int .u64 0, .int .u64 0, .int .u64 0, .int .u64 0] 84 (0, 0))] ∧ Is [(0, svn s), (1, .pointer (some ⟨(gs1 0).b, 0, none⟩)), (2, .pointer (some ⟨(gs1 1).b, 0, none⟩)), (3, .int .i64 ((j : Nat) : Int))] ρ) (24 - 0) ⟨0, rfl, (by omega), HM2, (Is.of ⟨kr, kr, kr, kr, trivial⟩)⟩ ?_
  clear HM2
  rintro _ _ w3 ⟨j, rfl, hj, H3, _, rfl⟩
  refine g_seq kr ?_
  refine g_sreg [0, 1] kr kr ?_
  refine rp [.v] H3 kr fun gs4 w4 H4 => ?_
  show WPs _ _ _ _ [1] _ _
  clear H3
  by_cases hc3 : (j : Nat) < 24
  · skip
    refine rp [.e (v := .bool (decide (((j : Nat) : Int) < 24))) (v' := .bool true) (bool_eq (decide_eq_true (by omega)))] H4 kr fun gs5 w5 H5 => ?_
    show WPs _ _ _ _ [] _ _
    clear H4
    refine s_nil ?_
    refine g_cond_t kr kr ?_
    refine g_skip kr ?_
    show WP _ _ _ _ _ _
    refine g_seq kr ?_
    refine g_block 1 kr ?_
    refine rL [.l 0, .v, .c (roundR_fn (mixK s j) j (by omega)), .s 0] H5 kr fun gs6 w6 H6 => ?_
    clear H5
    show WP _ _ _ _ _ _
    refine rL [.v, .e (v := .int .i64 (IntKind.i64.wrap (((j : Nat) : Int) + 1))) (v' := .int .i64 ((j + 1 : Nat) : Int)) (int_eq (wrapAdd_i64 (a := j) (b := 1) (by omega))), .v] H6 kr fun gs7 w7 H7 => ?_
    clear H6
    have HL4 : St w.heap.size w w7 [((gs1 0).b, Obj.cells (Value.cells (svn (rm (mixK s j) (lastB j 7)))) 84 (0, 0)), ((gs1 1).b, Obj.cells #[.int .u64 0, .int .u64 0, .int .u64 0, .int .u64 0, .int .u64 0, .int .u64 0, .int .u64 0, .int .u64 0, .int .u64 0, .int .u64 0, .int .u64 0, .int .u64 0, .int .u64 0, .int .u64 0, .int .u64 0, .int .u64 0, .int .u64 0, .int .u64 0, .int .u64 0, .int .u64 0, .int .u64 0, .int .u64 0, .int .u64 0, .int .u64 0, .int .u64 0] 84 (0, 0))] := H7.as kr
    clear H7
    have HM5 : St w.heap.size w w7 [((gs1 0).b, Obj.cells (Value.cells (svn (mixK s (j + 1)))) 84 (0, 0)), ((gs1 1).b, Obj.cells #[.int .u64 0, .int .u64 0, .int .u64 0, .int .u64 0, .int .u64 0, .int .u64 0, .int .u64 0, .int .u64 0, .int .u64 0, .int .u64 0, .int .u64 0, .int .u64 0, .int .u64 0, .int .u64 0, .int .u64 0, .int .u64 0, .int .u64 0, .int .u64 0, .int .u64 0, .int .u64 0, .int .u64 0, .int .u64 0, .int .u64 0, .int .u64 0, .int .u64 0] 84 (0, 0))] := by rw [mixL_succ s j (by omega)]; exact HL4
    show ∃ m, _ ∧ _
    exact ⟨_, (by omega), (j + 1), rfl, (by omega), HM5, (Is.of ⟨kr, kr, kr, kr, trivial⟩)⟩
  · skip
    refine rp [.e (v := .bool (decide (((j : Nat) : Int) < 24))) (v' := .bool false) (bool_eq (decide_eq_false (by omega)))] H4 kr fun gs8 w8 H8 => ?_
    show WPs _ _ _ _ [] _ _
    clear H4
    refine s_nil ?_
    refine g_cond_f kr kr ?_
    refine g_exit 0 kr ?_
    show WP _ _ _ _ _ _
    refine rS [.l 0, .s 1] H8 kr fun gs9 w9 H9 => ?_
    clear H8
    refine g_ret kr ?_
    show ∃ vs, Res _ _ _ _ vs ∧ _
    refine ⟨[svn (mixK s j)], (.agg (b := (gs1 1).b) (Value.cells (svn (mixK s j))) 84 (0, 0) kr (H9.get 1 kr) kr .nil), ?_, H9.below⟩
    obtain rfl : j = 24 := by omega
    exact congrArg svn (mixK_all s)
end Go.Proofs.YtmmloghbnpfedaaDoor.Ke

namespace Go.Proofs.YtmmloghbnpfedaaDoor.Ke
open Go Go.RowKit Go.Proofs.Kec
set_option linter.unusedVariables false
def bt (X : List UInt8) (k : Nat) : B64 := byteB (X.getD k 0)
def wpx (X : List UInt8) (q : Nat) : Nat → B64
  | 0 => 0
  | m + 1 => wpx X q m ^^^ bt X (8 * q + m) <<< (8 * m)
/-- The word of eight bytes, from the highest one on: k of them are taken. -/
def wrk (X : List UInt8) (o : Nat) : Nat → B64
  | 0 => 0
  | k + 1 => 256 * wrk X o k + bt X (o + (7 - k))
theorem byteB_lt (b : UInt8) : (byteB b).toNat < 256 := by
  unfold byteB; rw [BitVec.toNat_ofNat]; have := b.toNat_lt; omega
theorem byte_xor (x : B64) (b : B64) (hb : b.toNat < 256) : x <<< 8 ^^^ b = 256 * x + b := by
  have hbit : ∀ i, 8 ≤ i → b.getLsbD i = false := fun i hi => by
    unfold BitVec.getLsbD
    exact Nat.testBit_lt_two_pow (Nat.lt_of_lt_of_le hb (show 256 ≤ 2 ^ i from Nat.pow_le_pow_right (n := 2) (by omega) hi))
  have h0 : x <<< 8 &&& b = 0#64 := by
    apply BitVec.eq_of_getLsbD_eq
    intro i hi
    rw [BitVec.getLsbD_and, BitVec.getLsbD_shiftLeft, BitVec.getLsbD_zero]
    by_cases h : i < 8
    · simp [h]
    · rw [hbit i (by omega)]; simp
  have h1 : x <<< 8 ^^^ b = x <<< 8 ||| b := by
    apply BitVec.eq_of_getLsbD_eq
    intro i hi
    rw [BitVec.getLsbD_xor, BitVec.getLsbD_or, BitVec.getLsbD_shiftLeft]
    by_cases h : i < 8
    · simp [h]
    · rw [hbit i (by omega)]; simp
  rw [h1, ← BitVec.add_eq_or_of_and_eq_zero _ _ h0, BitVec.shiftLeft_eq_mul_twoPow, BitVec.mul_comm]; rfl
theorem wr_inv (X : List UInt8) (q : Nat) : ∀ m, m ≤ 8 → wrk X (8 * q) 8 = wpx X q m ^^^ wrk X (8 * q) (8 - m) <<< (8 * m)
  | 0, _ => by show wrk X (8 * q) 8 = (0#64 : B64) ^^^ (wrk X (8 * q) 8) <<< (0 : Nat); rw [BitVec.zero_xor, BitVec.shiftLeft_zero]
  | m + 1, h => by
    rw [wr_inv X q m (by omega), show 8 - m = 8 - (m + 1) + 1 by omega]
    show _ ^^^ (256 * wrk X (8 * q) (8 - (m + 1)) + bt X (8 * q + (7 - (8 - (m + 1))))) <<< (8 * m) = (wpx X q m ^^^ bt X (8 * q + m) <<< (8 * m)) ^^^ _
    rw [show 7 - (8 - (m + 1)) = m by omega, ← byte_xor _ (bt X (8 * q + m)) (byteB_lt _), BitVec.shiftLeft_xor_distrib, show 8 * (m + 1) = 8 + 8 * m by omega, BitVec.shiftLeft_add, BitVec.xor_assoc, BitVec.xor_comm (bt X (8 * q + m) <<< (8 * m))]
theorem wpx_word (X : List UInt8) (q : Nat) : wpx X q 8 = wrk X (8 * q) 8 := by
  rw [wr_inv X q 8 (by omega)]
  show _ = _ ^^^ (0#64 : B64) <<< _
  rw [BitVec.zero_shiftLeft, BitVec.xor_zero]
/-- A state with a block's words laid in, i of them. -/
def xw (a : List B64) (f : Nat → B64) (i : Nat) : List B64 := (List.range 25).map fun j => if j < i then nth a j ^^^ f j else nth a j
theorem xw_len (a : List B64) (f : Nat → B64) (i : Nat) : (xw a f i).length = 25 := by unfold xw; simp
theorem nth_map (g : Nat → B64) (j : Nat) (h : j < 25) : nth ((List.range 25).map g) j = g j := by
  unfold nth; rw [List.getD_eq_getElem?_getD, List.getElem?_map]; simp [h]
theorem nth_xw (a : List B64) (f : Nat → B64) (i j : Nat) (h : j < 25) : nth (xw a f i) j = if j < i then nth a j ^^^ f j else nth a j := nth_map _ j h
theorem ext25 {s t : List B64} (hs : s.length = 25) (ht : t.length = 25) (h : ∀ j, j < 25 → nth s j = nth t j) : s = t := by
  apply List.ext_getElem (by rw [hs, ht])
  intro i h1 h2
  have := h i (by omega)
  unfold nth at this
  rw [List.getD_eq_getElem?_getD, List.getD_eq_getElem?_getD, List.getElem?_eq_getElem h1, List.getElem?_eq_getElem h2] at this
  exact this
theorem xw_zero {a : List B64} (f : Nat → B64) (ha : a.length = 25) : a = xw a f 0 := ext25 ha (xw_len _ _ _) fun j hj => by rw [nth_xw _ _ _ _ hj, if_neg (by omega)]
theorem xw_at (a : List B64) (f : Nat → B64) (i : Nat) (h : i < 25) : nth (xw a f i) i = nth a i := by rw [nth_xw _ _ _ _ h, if_neg (by omega)]
theorem xw_set (a : List B64) (f : Nat → B64) (i : Nat) (h : i < 25) : (xw a f i).set i (nth a i ^^^ f i) = xw a f (i + 1) := by
  refine ext25 (by rw [List.length_set, xw_len]) (xw_len _ _ _) fun j hj => ?_
  rw [nth_set _ _ _ _ (by rw [xw_len]; exact h)]
  by_cases e : j = i
  · subst e; rw [if_pos rfl, nth_xw _ _ _ _ hj, if_pos (by omega)]
  · rw [if_neg e, nth_xw _ _ _ _ hj, nth_xw _ _ _ _ hj]
    by_cases e2 : j < i
    · rw [if_pos e2, if_pos (by omega)]
    · rw [if_neg e2, if_neg (by omega)]
theorem lay_nth (s : List B64) (n : Nat) (b : B64) (j : Nat) (hs : s.length = 25) (hn : n < 200) : nth (lay s n b) j = if j = n / 8 then nth s (n / 8) ^^^ liftB b n else nth s j := by
  unfold lay; rw [nth_set _ _ _ _ (by omega)]
theorem bytes_in (a : List B64) (ha : a.length = 25) (X : List UInt8) : ∀ j, j ≤ 135 → j ≤ X.length → ∃ B, takeB (a, 0) (X.take j) = (B, j) ∧ B.length = 25 ∧ ∀ q, q < 25 → nth B q = nth a q ^^^ wpx X q (min 8 (j - 8 * q))
  | 0, _, _ => ⟨a, rfl, ha, fun q _ => by rw [show min 8 (0 - 8 * q) = 0 by omega]; show _ = _ ^^^ (0#64 : B64); rw [BitVec.xor_zero]⟩
  | j + 1, h, hX => by
    obtain ⟨B, hB, hl, hp⟩ := bytes_in a ha X j (by omega) (by omega)
    have hx : X.take (j + 1) = X.take j ++ [X.getD j 0] := by
      rw [List.take_add_one, List.getElem?_eq_getElem (show j < X.length by omega), Option.toList_some, List.getD_eq_getElem?_getD, List.getElem?_eq_getElem (show j < X.length by omega)]; rfl
    refine ⟨lay B j (bt X j), ?_, lay_len _ _ hl, fun q hq => ?_⟩
    · rw [hx, takeB_snoc, hB]
      unfold step1
      exact if_neg (by show ¬ j + 1 = 136; omega)
    · rw [lay_nth _ _ _ _ hl (by omega)]
      by_cases e : q = j / 8
      · rw [if_pos e, ← e, hp q hq, show min 8 (j + 1 - 8 * q) = min 8 (j - 8 * q) + 1 by omega]
        show _ = nth a q ^^^ (wpx X q (min 8 (j - 8 * q)) ^^^ bt X (8 * q + min 8 (j - 8 * q)) <<< (8 * min 8 (j - 8 * q)))
        rw [show 8 * q + min 8 (j - 8 * q) = j by omega]
        unfold liftB
        rw [show j % 8 * 8 = 8 * min 8 (j - 8 * q) by omega, BitVec.xor_assoc]
      · rw [if_neg e, hp q hq, show min 8 (j + 1 - 8 * q) = min 8 (j - 8 * q) by omega]
/-- A whole block. -/
theorem block_in (a : List B64) (ha : a.length = 25) (X : List UInt8) (hX : X.length = 136) : takeB (a, 0) X = (mix (xw a (fun q => wrk X (8 * q) 8) 17), 0) := by
  obtain ⟨B, hB, hl, hp⟩ := bytes_in a ha X 135 (by omega) (by omega)
  have hx : X = X.take 135 ++ [X.getD 135 0] := by
    conv => lhs; rw [← List.take_of_length_le (show X.length ≤ 135 + 1 by omega)]
    rw [List.take_add_one, List.getElem?_eq_getElem (show 135 < X.length by omega), Option.toList_some, List.getD_eq_getElem?_getD, List.getElem?_eq_getElem (show 135 < X.length by omega)]; rfl
  have h1 : takeB (a, 0) X = (mix (lay B 135 (bt X 135)), 0) := by
    rw [hx, takeB_snoc, hB]
    unfold step1
    rw [if_pos (by show 135 + 1 = 136; rfl)]
    congr 3
    unfold bt; rw [← hx]
  rw [h1]
  congr 2
  refine ext25 (lay_len _ _ hl) (xw_len _ _ _) fun q hq => ?_
  rw [lay_nth _ _ _ _ hl (by omega), nth_xw _ _ _ _ hq]
  by_cases e : q = 135 / 8
  · rw [if_pos e, if_pos (by omega), ← e, hp q hq, ← wpx_word, show min 8 (135 - 8 * q) = 7 by omega]
    show _ = nth a q ^^^ (wpx X q 7 ^^^ bt X (8 * q + 7) <<< (8 * 7))
    rw [show 8 * q + 7 = 135 by omega, BitVec.xor_assoc]; rfl
  · rw [if_neg e, hp q hq]
    by_cases e2 : q < 17
    · rw [if_pos e2, ← wpx_word, show min 8 (135 - 8 * q) = 8 by omega]
    · rw [if_neg e2, show min 8 (135 - 8 * q) = 0 by omega]
      show _ ^^^ (0#64 : B64) = _; rw [BitVec.xor_zero]
theorem lay_zero {s : List B64} (n : Nat) (hs : s.length = 25) (hn : n < 200) : lay s n 0 = s := ext25 (lay_len _ _ hs) hs fun j hj => by
  rw [lay_nth _ _ _ _ hs hn]
  by_cases e : j = n / 8
  · rw [if_pos e, ← e]; unfold liftB; show _ ^^^ (0#64 : B64) <<< _ = _; rw [BitVec.zero_shiftLeft, BitVec.xor_zero]
  · rw [if_neg e]
theorem zeros_in : ∀ (z n : Nat) {s : List B64}, s.length = 25 → n + z ≤ 135 → takeB (s, n) (List.replicate z 0) = (s, n + z)
  | 0, n, s, _, _ => rfl
  | z + 1, n, s, hs, h => by
    rw [List.replicate_succ]
    show takeB (step1 (s, n) 0) _ = _
    have e : step1 (s, n) 0 = (s, n + 1) := by
      unfold step1
      rw [if_neg (by show ¬ n + 1 = 136; omega)]
      show (lay s n (byteB 0), n + 1) = _
      rw [show byteB 0 = (0 : B64) from rfl, lay_zero n hs (by omega)]
    rw [e, zeros_in z (n + 1) hs (by omega)]
    congr 1; omega
theorem lay_two {s : List B64} (b c : B64) (hs : s.length = 25) : lay (lay s 135 b) 135 c = lay s 135 (b ^^^ c) := ext25 (lay_len _ _ (lay_len _ _ hs)) (lay_len _ _ hs) fun j hj => by
  rw [lay_nth _ _ _ _ (lay_len _ _ hs) (by omega), lay_nth _ _ _ _ hs (by omega), lay_nth _ _ _ _ hs (by omega), lay_nth _ _ _ _ hs (by omega)]
  by_cases e : j = 135 / 8
  · rw [if_pos e, if_pos rfl, if_pos e]; unfold liftB; rw [BitVec.shiftLeft_xor_distrib, BitVec.xor_assoc]
  · rw [if_neg e, if_neg e]; rw [if_neg e]
/-- A text with what the reference puts behind it; the last byte not yet raised. -/
def padK (s : ByteArray) (z : Nat) : List UInt8 := tl s ++ (1 :: List.replicate z 0)
theorem padK_succ (s : ByteArray) (z : Nat) : padK s z ++ [UInt8.ofBitVec (0 : BitVec 8)] = padK s (z + 1) := by
  unfold padK; rw [List.replicate_succ']; simp
theorem padK_len (s : ByteArray) (z : Nat) : (padK s z).length = ByteArray.size s + 1 + z := by unfold padK; simp [tl_len]; omega
def PK (s : ByteArray) (z : Nat) : List UInt8 := (padK s z).set ((padK s z).length - 1) (UInt8.ofBitVec (UInt8.toBitVec ((padK s z).getD ((padK s z).length - 1) 0) + (128 : BitVec 8)))
theorem PK_len (s : ByteArray) (z : Nat) : (PK s z).length = ByteArray.size s + 1 + z := by unfold PK; rw [List.length_set, padK_len]
theorem PK_zero (s : ByteArray) : PK s 0 = tl s ++ [129] := by
  unfold PK
  rw [padK_len, show ByteArray.size s + 1 + 0 - 1 = (tl s).length from by rw [tl_len]; omega]
  unfold padK
  rw [List.set_append_right _ _ (Nat.le_refl _), List.getD_eq_getElem?_getD, List.getElem?_append_right (Nat.le_refl _), Nat.sub_self]; rfl
theorem PK_succ (s : ByteArray) (z : Nat) : PK s (z + 1) = tl s ++ (1 :: (List.replicate z 0 ++ [128])) := by
  unfold PK
  rw [padK_len, show ByteArray.size s + 1 + (z + 1) - 1 = (tl s).length + (z + 1) from by rw [tl_len]; omega]
  unfold padK
  rw [List.set_append_right _ _ (by omega), List.getD_eq_getElem?_getD, List.getElem?_append_right (by omega), show (tl s).length + (z + 1) - (tl s).length = z + 1 by omega]
  congr 1
  rw [List.replicate_succ']
  have e : (1 :: (List.replicate z (0 : UInt8) ++ [0]))[z + 1]?.getD 0 = 0 := by simp
  rw [e, List.set_cons_succ, List.set_append_right _ _ (by simp), List.length_replicate, Nat.sub_self]; rfl
theorem takeB_lt (l : List UInt8) : ∀ {st : List B64 × Nat}, st.2 < 136 → (takeB st l).2 = (st.2 + l.length) % 136 := by
  induction l with
  | nil => intro st h; show st.2 = _; rw [List.length_nil, Nat.add_zero, Nat.mod_eq_of_lt h]
  | cons b l ih =>
    intro st h
    show (takeB (step1 st b) l).2 = _
    have e : (step1 st b).2 = (st.2 + 1) % 136 := by
      unfold step1
      split
      · rename_i q; show 0 = _; rw [q]
      · rename_i q; show st.2 + 1 = _; rw [Nat.mod_eq_of_lt (by omega)]
    rw [ih (by rw [e]; exact Nat.mod_lt _ (by omega)), e, List.length_cons, Nat.mod_add_mod]
    congr 1; omega
/-- All blocks of it leave the state whose first bytes are the sum. -/
theorem PK_all (s : ByteArray) (z : Nat) (hz : z = 135 - ByteArray.size s % 136) : takeB (zeroS, 0) (PK s z) = (mix (endB (takeB (zeroS, 0) (tl s))), 0) := by
  have hok := takeB_ok (tl s) zero_ok
  have hn := takeB_lt (tl s) (st := (zeroS, 0)) (by decide)
  rw [show (zeroS, 0).2 + (tl s).length = ByteArray.size s by rw [tl_len]; simp] at hn
  generalize hst : takeB (zeroS, 0) (tl s) = st at hok hn
  obtain ⟨S, n⟩ := st
  have hl : S.length = 25 := hok.len
  simp only at hn
  unfold endB
  cases z with
  | zero =>
    rw [PK_zero, takeB_snoc, hst]
    obtain rfl : n = 135 := by omega
    unfold step1
    rw [if_pos (by rfl), lay_two _ _ hl]
    rfl
  | succ z =>
    rw [PK_succ, takeB_append, hst]
    show takeB (step1 (S, n) 1) (List.replicate z 0 ++ [128]) = _
    have e : step1 (S, n) 1 = (lay S n 1, n + 1) := by
      unfold step1
      rw [if_neg (by show ¬ n + 1 = 136; omega)]; rfl
    rw [e, takeB_append, zeros_in z (n + 1) (lay_len _ _ hl) (by omega), show n + 1 + z = 135 by omega]
    show step1 (lay S n 1, 135) 128 = _
    unfold step1
    rw [if_pos (by rfl)]; rfl
def wd (s : ByteArray) (z m : Nat) (j : Nat) : B64 := wrk (List.take 8 (List.drop (136 * m + 8 * j) (PK s z))) 0 8
theorem wrk_congr (X Y : List UInt8) (o p : Nat) (h : ∀ k, k < 8 → X.getD (o + k) 0 = Y.getD (p + k) 0) : ∀ k, k ≤ 8 → wrk X o k = wrk Y p k
  | 0, _ => rfl
  | k + 1, hk => by
    show 256 * wrk X o k + bt X (o + (7 - k)) = 256 * wrk Y p k + bt Y (p + (7 - k))
    rw [wrk_congr X Y o p h k (by omega)]
    unfold bt; rw [h (7 - k) (by omega)]
theorem wd_is (s : ByteArray) (z m j : Nat) (hj : j < 17) (hm : 136 * m + 136 ≤ (PK s z).length) : wrk (List.take 136 (List.drop (136 * m) (PK s z))) (8 * j) 8 = wd s z m j :=
  wrk_congr _ _ _ _ (fun k hk => by
    rw [List.getD_eq_getElem?_getD, List.getD_eq_getElem?_getD, List.getElem?_take, if_pos (by omega), List.getElem?_drop, List.getElem?_take, if_pos (by omega), List.getElem?_drop]
    congr 2; omega) 8 (Nat.le_refl _)
theorem xw_congr (a : List B64) (f g : Nat → B64) (i : Nat) (h : ∀ j, j < i → f j = g j) : xw a f i = xw a g i := by
  unfold xw
  refine List.map_congr_left fun j _ => ?_
  split
  · rename_i hj; rw [h j hj]
  · rfl
theorem block_go (s : ByteArray) (z m : Nat) (a : List B64) (ha : a.length = 25) (h : takeB (zeroS, 0) ((PK s z).take (136 * m)) = (a, 0)) (hm : 136 * m + 136 ≤ (PK s z).length) :
    takeB (zeroS, 0) ((PK s z).take (136 * (m + 1))) = (mix (xw a (wd s z m) 17), 0) := by
  rw [show 136 * (m + 1) = 136 * m + 136 by omega, List.take_add, takeB_append, h, block_in a ha _ (by rw [List.length_take, List.length_drop]; omega)]
  rw [xw_congr a _ (wd s z m) 17 (fun j hj => wd_is s z m j hj hm)]
theorem sum_done (s : ByteArray) (z m : Nat) (a : List B64) (hz : z = 135 - ByteArray.size s % 136) (h : takeB (zeroS, 0) ((PK s z).take (136 * m)) = (a, 0)) (hm : ¬ 136 * m < (PK s z).length) : firstB a = sumB (tl s) := by
  rw [List.take_of_length_le (by omega), PK_all s z hz] at h
  have e : mix (endB (takeB (zeroS, 0) (tl s))) = a := congrArg Prod.fst h
  unfold sumB
  rw [e]
def outK (a : List B64) (i : Nat) : List UInt8 := (List.range i).map fun i => UInt8.ofNat ((nth a (i / 8)).toNat / 2 ^ (i % 8 * 8))
theorem outK_succ (a : List B64) (i : Nat) : outK a (i + 1) = outK a i ++ [UInt8.ofNat ((nth a (i / 8)).toNat / 2 ^ (i % 8 * 8))] := by unfold outK; rw [List.range_succ, List.map_append]; rfl
theorem outK_len (a : List B64) (i : Nat) : (outK a i).length = i := by unfold outK; simp
theorem byteK (x : B64) (i : Nat) : UInt8.ofBitVec (BitVec.setWidth 8 ((x >>> (8 * (i % 8))) % (256 : BitVec 64))) = UInt8.ofNat (x.toNat / 2 ^ (i % 8 * 8)) := by
  apply UInt8.toNat_inj.1
  show BitVec.toNat (BitVec.setWidth 8 ((x >>> (8 * (i % 8))) % (256 : BitVec 64))) = (UInt8.ofNat (x.toNat / 2 ^ (i % 8 * 8))).toNat
  rw [BitVec.toNat_setWidth, BitVec.toNat_umod, BitVec.toNat_ushiftRight, UInt8.toNat_ofNat', Nat.shiftRight_eq_div_pow, Nat.mul_comm (i % 8) 8]
  generalize x.toNat / 2 ^ (8 * (i % 8)) = X
  show X % 256 % 2 ^ 8 = X % 2 ^ 8
  omega
end Go.Proofs.YtmmloghbnpfedaaDoor.Ke
