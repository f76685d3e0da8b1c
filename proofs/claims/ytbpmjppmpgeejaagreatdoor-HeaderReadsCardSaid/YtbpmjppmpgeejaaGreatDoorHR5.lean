/-
  Texts of the proof,part 5.
-/
import Derived.Test.YtbpmjppmpgeejaaGreatDoorProg
import Derived.Laws.Bits64b
import Derived.Lib.Hide
import Derived.Deep.Upon
import Derived.ChangeKeysEq
import Derived.Laws.StructEq
import Derived.Laws.Externs
import Derived.Test.YtbpmjppmpgeejaaGreatDoorHR1
import Derived.Test.YtbpmjppmpgeejaaGreatDoorHR2
import Derived.Test.YtbpmjppmpgeejaaGreatDoorHR3
import Derived.Test.YtbpmjppmpgeejaaGreatDoorHR4
set_option maxRecDepth 100000
set_option maxHeartbeats 4000000
namespace Go.Proofs.YtbpmjppmpgeejaaGreatDoor
open Go Go.RowKit
set_option linter.unusedVariables false
theorem zj5 (a:Nat)(ha:a<big)(h:a=0):Fn Tryz.prog 109 #[uv a] (.bool false):=by
 refine Fn.intro (c:=zk Tryz.f109) [.tmp 2] 18 Tryz.func109 kr kr kr fun w=>?_;have H0:=St.start w;refine rS [.b,.v] H0 kr fun gs1 w1 H1=>?_;clear H0;refine rS [.c zal,.v,.v,.v,.a,.s 1,.v] H1 kr fun gs2 w2 H2=>?_;clear H1;refine rS [.l 0,.v,.oe (ins:=[((.tmp 9),uv a),((.tmp 10),.agg #[wZ,wZ,wZ,wZ])]) (v:=.bool (!decide (a=0))) (v':=.bool false) (fun ρ o w ho hi=>xY (x:=(.tmp 9)) (y:=(.tmp 10)) a 0 ha (by unfold big;omega) w ho hi.1 hi.2.1) (by rw [decide_eq_true h]<;>rfl),.v,.n,.n,.n,.n,.v,.v] H2 kr fun gs3 w3 H3=>?_;clear H2;refine zl kr<|wV ?_;refine ⟨[.bool false],(.tmp (.bool false) kr .nil),?_,H3.below⟩;rfl
theorem zj6 (a:Nat)(ha:a<big)(h: ¬a=0)(h2: ¬a<NR):Fn Tryz.prog 109 #[uv a] (.bool false):=by
 refine Fn.intro (c:=zk Tryz.f109) [.tmp 2] 18 Tryz.func109 kr kr kr fun w=>?_;have H0:=St.start w;refine rS [.b,.v] H0 kr fun gs1 w1 H1=>?_;clear H0;refine rS [.c zal,.v,.v,.v,.a,.s 1,.v] H1 kr fun gs2 w2 H2=>?_;clear H1;refine rS [.l 0,.v,.oe (ins:=[((.tmp 9),uv a),((.tmp 10),.agg #[wZ,wZ,wZ,wZ])]) (v:=.bool (!decide (a=0))) (v':=.bool true) (fun ρ o w ho hi=>xY (x:=(.tmp 9)) (y:=(.tmp 10)) a 0 ha (by unfold big;omega) w ho hi.1 hi.2.1) (by rw [decide_eq_false h]<;>rfl),.v,.l 0,.l 1,.c (vL a NR ha je.1),.E (.bool (decide (cm a NR<0))) (.bool false) (za (decide_eq_false (ze3 h2))),.v,.v] H2 kr fun gs3 w3 H3=>?_;clear H2;refine zl kr<|wV ?_;refine ⟨[.bool false],(.tmp (.bool false) kr .nil),?_,H3.below⟩;rfl
theorem zj7 (a:Nat)(ha:a<big)(h: ¬a=0)(h2:a<NR):Fn Tryz.prog 109 #[uv a] (.bool true):=by
 refine Fn.intro (c:=zk Tryz.f109) [.tmp 2] 18 Tryz.func109 kr kr kr fun w=>?_;have H0:=St.start w;refine rS [.b,.v] H0 kr fun gs1 w1 H1=>?_;clear H0;refine rS [.c zal,.v,.v,.v,.a,.s 1,.v] H1 kr fun gs2 w2 H2=>?_;clear H1;refine rS [.l 0,.v,.oe (ins:=[((.tmp 9),uv a),((.tmp 10),.agg #[wZ,wZ,wZ,wZ])]) (v:=.bool (!decide (a=0))) (v':=.bool true) (fun ρ o w ho hi=>xY (x:=(.tmp 9)) (y:=(.tmp 10)) a 0 ha (by unfold big;omega) w ho hi.1 hi.2.1) (by rw [decide_eq_false h]<;>rfl),.v,.l 0,.l 1,.c (vL a NR ha je.1),.E (.bool (decide (cm a NR<0))) (.bool true) (za (decide_eq_true (ze2 h2))),.v,.v] H2 kr fun gs3 w3 H3=>?_;clear H2;refine zl kr<|wV ?_;refine ⟨[.bool true],(.tmp (.bool true) kr .nil),?_,H3.below⟩;rfl
theorem zj8 (a:Nat)(ha:a<big):Fn Tryz.prog 109 #[uv a] (.bool (inN a)):=by
 by_cases h:a=0
 ·have:=zj5 a ha h;subst h;exact this
 ·rw [ze4 h];by_cases h2:a<NR
  ·rw [decide_eq_true h2];exact zj7 a ha h h2
  ·rw [decide_eq_false h2];exact zj6 a ha h h2
theorem ze5 (a:Nat)(ha:a<big):Fn Tryz.prog 137 #[uv a] (uv (ql 0 a NR)):=by
 refine Fn.intro (c:=zk Tryz.f137) [.cell 2 48] 12 Tryz.func137 kr kr kr fun w=>?_;have H0:=St.start w;refine rS [.b,.a] H0 kr fun gs1 w1 H1=>?_;clear H0;refine rS [.v,.l 0,.c (zjB 0 a (by unfold big;omega) ha),.v,.v,.v,.a,.s 2,.v] H1 kr fun gs2 w2 H2=>?_;clear H1;refine rS [.l 2,.s 1] H2 kr fun gs3 w3 H3=>?_;clear H2;refine zl kr<|wV ?_;refine ⟨[uv (ql 0 a NR)],(.agg (b:=(gs1 1).b) (Value.cells (uv (ql 0 a NR))) 48 (0,0) kr (H3.get 1 kr) kr .nil),?_,H3.below⟩;rfl
theorem zj9 (a:Nat)(ha:a<big)(h:a<ql 0 a NR):Fn Tryz.prog 110 #[uv a] (.bool true):=by
 refine Fn.intro (c:=zk Tryz.f110) [.tmp 2] 8 Tryz.func110 kr kr kr fun w=>?_;have H0:=St.start w;refine rS [.b,.v] H0 kr fun gs1 w1 H1=>?_;clear H0;refine dS [.l 0,.l 0,.c (ze5 a ha),.c (vL a (ql 0 a NR) ha (zeM je)),.E (.bool (decide (cm a (ql 0 a NR)<0))) (.bool true) (za (decide_eq_true (ze2 h))),.v] H1 kr fun w2 H2=>?_;clear H1;refine zl kr<|wV ?_;refine ⟨[.bool true],(.tmp (.bool true) kr .nil),?_,H2.below⟩;rfl
theorem zka (a:Nat)(ha:a<big)(h: ¬a<ql 0 a NR):Fn Tryz.prog 110 #[uv a] (.bool false):=by
 refine Fn.intro (c:=zk Tryz.f110) [.tmp 2] 8 Tryz.func110 kr kr kr fun w=>?_;have H0:=St.start w;refine rS [.b,.v] H0 kr fun gs1 w1 H1=>?_;clear H0;refine dS [.l 0,.l 0,.c (ze5 a ha),.c (vL a (ql 0 a NR) ha (zeM je)),.E (.bool (decide (cm a (ql 0 a NR)<0))) (.bool false) (za (decide_eq_false (ze3 h))),.v] H1 kr fun w2 H2=>?_;clear H1;refine zl kr<|wV ?_;refine ⟨[.bool false],(.tmp (.bool false) kr .nil),?_,H2.below⟩;rfl
theorem zkb (a:Nat)(ha:a<big):Fn Tryz.prog 110 #[uv a] (.bool (xJ a)):=by
 unfold xJ;by_cases h:a<ql 0 a NR
 ·rw [decide_eq_true h];exact zj9 a ha h
 ·rw [decide_eq_false h];exact zka a ha h
theorem zas (r s:Nat)(hr:r<big)(hs:s<big)(v:Int):Fn Tryz.prog 75 #[sgv r s (v)] (.bool (ya r s v)):=by
 refine Fn.intro (c:=zk Tryz.f75) [.tmp 2] 21 Tryz.func75 kr kr kr fun w=>?_;have H0:=St.start w;refine rS [.b,.v] H0 kr fun gs1 w1 H1=>?_;clear H0;refine zg [0,1,2,3,4,5,6,7,8,9,10,11,12,13,14,15,16,17,18] kr kr<|rp [.v,.l 0,.c (zj8 r hr)] H1 kr fun gs2 w2 H2=>wX [3,4,5,6,7,8,9,10,11,12,13,14,15,16,17,18] ?_;clear H1;refine Or.elim (Bool.eq_false_or_eq_true (inN r)).symm (fun hb1=>?_) (fun hb1=>?_)
 ·refine zz 5 (v:=.bool (inN r)) (v':=.bool false) (za hb1) kr<|rp [.v,.n,.n,.n,.v,.v,.n,.n,.n,.n] H2 kr fun gs3 w3 H3=>wX [13,14,15,16,17,18] ?_;clear H2;refine jE (some 16) kr kr<|jE (some 17) kr kr<|jE (some 18) kr kr<|rp [.n,.v,.v] H3 kr fun gs4 w4 H4=>wX [] ?_;clear H3;refine zc<|zl kr<|wV ?_;refine ⟨[.bool false],(.tmp (.bool false) kr .nil),?_,H4.below⟩;exact congrArg Value.bool (by unfold ya;simp [hb1]<;>omega)
 ·refine zz 5 (v:=.bool (inN r)) (v':=.bool true) (za hb1) kr<|rp [.v,.v,.l 0,.c (zkb s hs)] H2 kr fun gs5 w5 H5=>wX [7,8,9,10,11,12,13,14,15,16,17,18] ?_;clear H2;refine Or.elim (Bool.eq_false_or_eq_true (xJ s)).symm (fun hb2=>?_) (fun hb2=>?_)
  ·refine zz 9 (v:=.bool (xJ s)) (v':=.bool false) (za hb2) kr<|rp [.v,.v,.n,.n,.n,.n] H5 kr fun gs6 w6 H6=>wX [13,14,15,16,17,18] ?_;clear H5;refine jE (some 16) kr kr<|jE (some 17) kr kr<|jE (some 18) kr kr<|rp [.n,.v,.v] H6 kr fun gs7 w7 H7=>wX [] ?_;clear H6;refine zc<|zl kr<|wV ?_;refine ⟨[.bool false],(.tmp (.bool false) kr .nil),?_,H7.below⟩;exact congrArg Value.bool (by unfold ya;simp [hb1,hb2]<;>omega)
  ·refine zz 9 (v:=.bool (xJ s)) (v':=.bool true) (za hb2) kr<|rp [.v,.v,.v,.l 0] H5 kr fun gs8 w8 H8=>wX [11,12,13,14,15,16,17,18] ?_;clear H5;by_cases hc1:(v:Int)=0
   ·refine rp [.E (.bool (v==0)) (.bool true) (za (beq_iff_eq.2 (by omega))),.v,.n,.n,.n,.v,.v,.v] H8 kr fun gs9 w9 H9=>wX [] ?_;clear H8;refine zc<|zl kr<|wV ?_;refine ⟨[.bool true],(.tmp (.bool true) kr .nil),?_,H9.below⟩;exact congrArg Value.bool (by unfold ya;simp [hb1,hb2]<;>omega)
   ·refine rp [.E (.bool (v==0)) (.bool false) (za (beq_eq_false_iff_ne.2 (by omega))),.v,.v,.l 0] H8 kr fun gs10 w10 H10=>wX [15,16,17,18] ?_;clear H8;by_cases hc2:(v:Int)=1
    ·refine rp [.E (.bool (v==1)) (.bool true) (za (beq_iff_eq.2 (by omega))),.v,.v,.v] H10 kr fun gs11 w11 H11=>wX [] ?_;clear H10;refine zc<|zl kr<|wV ?_;refine ⟨[.bool true],(.tmp (.bool true) kr .nil),?_,H11.below⟩;exact congrArg Value.bool (by unfold ya;simp [hb1,hb2]<;>omega)
    ·refine rp [.E (.bool (v==1)) (.bool false) (za (beq_eq_false_iff_ne.2 (by omega))),.v,.v,.v] H10 kr fun gs12 w12 H12=>wX [] ?_;clear H10;refine zc<|zl kr<|wV ?_;refine ⟨[.bool false],(.tmp (.bool false) kr .nil),?_,H12.below⟩;exact congrArg Value.bool (by unfold ya;simp [hb1,hb2]<;>omega)
theorem ze6 (a:Nat)(ha:a<big):Fn Tryz.prog 49 #[uv a] (.bool (inN a)):=by
 refine Fn.intro (c:=zk Tryz.f49) [.tmp 2] 15 Tryz.func49 kr kr kr fun w=>?_;have H0:=St.start w;refine rS [.b,.v] H0 kr fun gs1 w1 H1=>?_;clear H0;refine zg [0,1,2] kr kr<|rp [.c ze1] H1 kr fun gs2 w2 H2=>wX [1,2] ?_;clear H1;refine kj H2 (some 5) 77 #[uv NR] (fun _=>True) 3 1 (fun curZ capZ nZ lZ=>(nZ=List.length lZ∧Rw 1 curZ capZ nZ (zS lZ)∧Ok lZ∧(lZ=dgs NR 16∧vl lZ=NR∧List.length lZ=16))) (vN NR je.1) trivial kr kr ?_;intro b_1 cap_2 n_3 cur_4 l_5 w3 H3 hs_6;clear H2;obtain ⟨hs_6n,hs_6r,hs_6o,hs_6s⟩:=hs_6;obtain ⟨hs_6a,hs_6b,hs_6c⟩:=hs_6s;refine rp [.v] H3 kr fun gs4 w4 H4=>wX [] ?_;clear H3;refine zc<|zg [0,1,2,3,4,5,6,7,8,9] kr kr<|rp [.l 1,.v] H4 kr fun gs5 w5 H5=>wX [2,3,4,5,6,7,8,9] ?_;clear H4;by_cases he1:(a:Nat)=0
 ·refine rp [.oe (ins:=[((.tmp 6),uv a),((.tmp 7),.agg #[wZ,wZ,wZ,wZ])]) (v:=.bool (!decide (a=0))) (v':=.bool false) (fun ρ o w ho hi=>xY (x:=(.tmp 6)) (y:=(.tmp 7)) a 0 ha (by unfold big;omega) w ho hi.1 hi.2.1) (by rw [decide_eq_true he1]<;>rfl),.v,.n,.n,.n,.n,.v,.v] H5 kr fun gs6 w6 H6=>wX [] ?_;clear H5;refine zc<|zl kr<|wV ?_;refine ⟨[.bool false],(.tmp (.bool false) kr .nil),?_,H6.below⟩;exact congrArg Value.bool (show false=inN a by rw [he1];rfl)
 ·refine rp [.oe (ins:=[((.tmp 6),uv a),((.tmp 7),.agg #[wZ,wZ,wZ,wZ])]) (v:=.bool (!decide (a=0))) (v':=.bool true) (fun ρ o w ho hi=>xY (x:=(.tmp 6)) (y:=(.tmp 7)) a 0 ha (by unfold big;omega) w ho hi.1 hi.2.1) (by rw [decide_eq_false he1]<;>rfl),.v,.l 1] H5 kr fun gs7 w7 H7=>wX [5,6,7,8,9] ?_;clear H5;refine kj H7 (some 11) 77 #[uv a] (fun _=>True) 3 1 (fun curZ capZ nZ lZ=>(nZ=List.length lZ∧Rw 1 curZ capZ nZ (zS lZ)∧Ok lZ∧(lZ=dgs a 16∧vl lZ=a∧List.length lZ=16))) (vN a ha) trivial kr kr ?_;intro b_7 cap_8 n_9 cur_10 l_11 w8 H8 hs_12;clear H7;obtain ⟨hs_12n,hs_12r,hs_12o,hs_12s⟩:=hs_12;obtain ⟨hs_12a,hs_12b,hs_12c⟩:=hs_12s;refine rp [.v,.cp (pre:=fun w=>w.heap[b_7]? =some (.cells cur_10 3 (0,0))∧w.heap[b_1]? =some (.cells cur_4 3 (0,0))) (ze0 l_11 l_5 b_7 n_9 cap_8 b_1 n_3 cap_2 cur_10 cur_4 hs_12n hs_6n hs_12r hs_6r hs_12o hs_6o (by omega) (by omega)) [(0,(b_7,Obj.cells cur_10 3 (0,0))),(1,(b_1,Obj.cells cur_4 3 (0,0)))] (fun w hb hd=>⟨hd.1,hd.2.1⟩),.v,.v] H8 kr fun gs9 w9 H9=>wX [] ?_;clear H8;refine zc<|zl kr<|wV ?_;refine ⟨[.bool (ls l_11 l_5)],(.tmp (.bool (ls l_11 l_5)) kr .nil),?_,H9.below⟩;exact congrArg Value.bool (show ls l_11 l_5=inN a by rw [ze4 he1];unfold ls;rw [hs_12b,hs_6b])
theorem zkc (a:Nat)(ha:a<big):Fn Tryz.prog 50 #[uv a] (.bool (xI a)):=by
 refine Fn.intro (c:=zk Tryz.f50) [.tmp 2] 12 Tryz.func50 kr kr kr fun w=>?_;have H0:=St.start w;refine rS [.b,.v] H0 kr fun gs1 w1 H1=>?_;clear H0;refine zg [0,1,2] kr kr<|rp [.l 0] H1 kr fun gs2 w2 H2=>wX [1,2] ?_;clear H1;refine kj H2 (some 5) 77 #[uv a] (fun _=>True) 3 1 (fun curZ capZ nZ lZ=>(nZ=List.length lZ∧Rw 1 curZ capZ nZ (zS lZ)∧Ok lZ∧(lZ=dgs a 16∧vl lZ=a∧List.length lZ=16))) (vN a ha) trivial kr kr ?_;intro b_1 cap_2 n_3 cur_4 l_5 w3 H3 hs_6;clear H2;obtain ⟨hs_6n,hs_6r,hs_6o,hs_6s⟩:=hs_6;obtain ⟨hs_6a,hs_6b,hs_6c⟩:=hs_6s;refine rp [.v] H3 kr fun gs4 w4 H4=>wX [] ?_;clear H3;refine zc<|zg [0,1,2,3,4,5,6] kr kr<|rp [.c ze1] H4 kr fun gs5 w5 H5=>wX [1,2,3,4,5,6] ?_;clear H4;refine kj H5 (some 7) 77 #[uv NR] (fun _=>True) 3 1 (fun curZ capZ nZ lZ=>(nZ=List.length lZ∧Rw 1 curZ capZ nZ (zS lZ)∧Ok lZ∧(lZ=dgs NR 16∧vl lZ=NR∧List.length lZ=16))) (vN NR je.1) trivial kr kr ?_;intro b_7 cap_8 n_9 cur_10 l_11 w6 H6 hs_12;clear H5;obtain ⟨hs_12n,hs_12r,hs_12o,hs_12s⟩:=hs_12;obtain ⟨hs_12a,hs_12b,hs_12c⟩:=hs_12s;refine rp [.v,.v] H6 kr fun gs7 w7 H7=>wX [4,5,6] ?_;clear H6;refine kj H7 (some 10) 80 #[.slice (some ⟨b_1,0,none⟩) n_3 cap_2,.slice (some ⟨b_1,0,none⟩) n_3 cap_2] (fun w=>w.heap[b_1]? =some (.cells cur_4 3 (0,0))∧w.heap[b_1]? =some (.cells cur_4 3 (0,0))) 3 1 (fun curZ capZ nZ lZ=>(nZ=List.length lZ∧Rw 1 curZ capZ nZ (zS lZ)∧Ok lZ∧(vl lZ=vl l_5+vl l_5∧List.length lZ≤max (List.length l_5) (List.length l_5)+1∧max (List.length l_5) (List.length l_5)≤List.length lZ))) (zeZ l_5 l_5 b_1 n_3 cap_2 b_1 n_3 cap_2 cur_4 cur_4 hs_6n hs_6n hs_6r hs_6r hs_6o hs_6o (by omega) (by omega)) (⟨(H7.get 1 kr),(H7.get 1 kr)⟩) kr kr ?_;intro b_13 cap_14 n_15 cur_16 l_17 w8 H8 hs_18;clear H7;obtain ⟨hs_18n,hs_18r,hs_18o,hs_18s⟩:=hs_18;refine rp [.cp (pre:=fun w=>w.heap[b_7]? =some (.cells cur_10 3 (0,0))∧w.heap[b_13]? =some (.cells cur_16 3 (0,0))) (ze0 l_11 l_17 b_7 n_9 cap_8 b_13 n_15 cap_14 cur_10 cur_16 hs_12n hs_18n hs_12r hs_18r hs_12o hs_18o (by omega) (by omega)) [(1,(b_7,Obj.cells cur_10 3 (0,0))),(0,(b_13,Obj.cells cur_16 3 (0,0)))] (fun w hb hd=>⟨hd.1,hd.2.1⟩),.v] H8 kr fun gs9 w9 H9=>wX [] ?_;clear H8;refine zc<|zl kr<|wV ?_;refine ⟨[.bool (ls l_11 l_17)],(.tmp (.bool (ls l_11 l_17)) kr .nil),?_,H9.below⟩;exact congrArg Value.bool (show ls l_11 l_17=xI a by unfold ls xI;rw [hs_12b,hs_18s.1,hs_6b])
theorem zb4 (r s:Nat)(hr:r<big)(hs:s<big)(v:Int):Fn Tryz.prog 30 #[sgv r s (v)] (.bool (ya r s v)):=by
 refine Fn.intro (c:=zk Tryz.f30) [.tmp 2] 27 Tryz.func30 kr kr kr fun w=>?_;have H0:=St.start w;refine rS [.b,.v] H0 kr fun gs1 w1 H1=>?_;clear H0;refine zg [0,1,2,3,4,5,6,7,8,9,10,11,12,13,14,15,16,17,18,19,20,21,22,23,24] kr kr<|rp [.v,.l 0,.c (ze6 r hr)] H1 kr fun gs2 w2 H2=>wX [3,4,5,6,7,8,9,10,11,12,13,14,15,16,17,18,19,20,21,22,23,24] ?_;clear H1;refine Or.elim (Bool.eq_false_or_eq_true (inN r)).symm (fun hb1=>?_) (fun hb1=>?_)
 ·refine zz 5 (v:=.bool (inN r)) (v':=.bool false) (za hb1) kr<|rp [.v,.n,.n,.n,.v,.v,.n,.n,.n,.n,.v,.v,.n,.n,.n,.v,.v,.n,.n,.n,.v,.v] H2 kr fun gs3 w3 H3=>wX [] ?_;clear H2;refine zc<|zl kr<|wV ?_;refine ⟨[.bool false],(.tmp (.bool false) kr .nil),?_,H3.below⟩;exact congrArg Value.bool (by unfold ya;rw [kH s hs];simp [hb1]<;>omega)
 ·refine zz 5 (v:=.bool (inN r)) (v':=.bool true) (za hb1) kr<|rp [.v,.v,.l 0,.c (ze6 s hs)] H2 kr fun gs4 w4 H4=>wX [7,8,9,10,11,12,13,14,15,16,17,18,19,20,21,22,23,24] ?_;clear H2;refine Or.elim (Bool.eq_false_or_eq_true (inN s)).symm (fun hb2=>?_) (fun hb2=>?_)
  ·refine zz 9 (v:=.bool (inN s)) (v':=.bool false) (za hb2) kr<|rp [.v,.v,.n,.n,.n,.n,.v,.v,.n,.n,.n,.v,.v,.n,.n,.n,.v,.v] H4 kr fun gs5 w5 H5=>wX [] ?_;clear H4;refine zc<|zl kr<|wV ?_;refine ⟨[.bool false],(.tmp (.bool false) kr .nil),?_,H5.below⟩;exact congrArg Value.bool (by unfold ya;rw [kH s hs];simp [hb1,hb2]<;>omega)
  ·refine zz 9 (v:=.bool (inN s)) (v':=.bool true) (za hb2) kr<|rp [.v,.v,.v,.l 0,.c (zkc s hs)] H4 kr fun gs6 w6 H6=>wX [12,13,14,15,16,17,18,19,20,21,22,23,24] ?_;clear H4;refine Or.elim (Bool.eq_false_or_eq_true (xI s)).symm (fun hb3=>?_) (fun hb3=>?_)
   ·refine zz 14 (v:=.bool (xI s)) (v':=.bool false) (za hb3) kr<|rp [.v,.v,.v,.v,.l 0] H6 kr fun gs7 w7 H7=>wX [17,18,19,20,21,22,23,24] ?_;clear H6;by_cases hc1:(v:Int)≥0
    ·refine rp [.E (.bool (decide (0≤v))) (.bool true) (za (decide_eq_true (by omega))),.v,.v,.v,.l 0] H7 kr fun gs8 w8 H8=>wX [22,23,24] ?_;clear H7;by_cases hc2:(v:Int)≤1
     ·refine rp [.E (.bool (decide (v≤1))) (.bool true) (za (decide_eq_true (by omega))),.v,.v] H8 kr fun gs9 w9 H9=>wX [] ?_;clear H8;refine zc<|zl kr<|wV ?_;refine ⟨[.bool true],(.tmp (.bool true) kr .nil),?_,H9.below⟩;exact congrArg Value.bool (by unfold ya;rw [kH s hs];simp [hb1,hb2,hb3]<;>omega)
     ·refine rp [.E (.bool (decide (v≤1))) (.bool false) (za (decide_eq_false (by omega))),.v,.v] H8 kr fun gs10 w10 H10=>wX [] ?_;clear H8;refine zc<|zl kr<|wV ?_;refine ⟨[.bool false],(.tmp (.bool false) kr .nil),?_,H10.below⟩;exact congrArg Value.bool (by unfold ya;rw [kH s hs];simp [hb1,hb2,hb3]<;>omega)
    ·refine rp [.E (.bool (decide (0≤v))) (.bool false) (za (decide_eq_false (by omega))),.v,.v,.n,.n,.n,.v,.v] H7 kr fun gs11 w11 H11=>wX [] ?_;clear H7;refine zc<|zl kr<|wV ?_;refine ⟨[.bool false],(.tmp (.bool false) kr .nil),?_,H11.below⟩;exact congrArg Value.bool (by unfold ya;rw [kH s hs];simp [hb1,hb2,hb3]<;>omega)
   ·refine zz 14 (v:=.bool (xI s)) (v':=.bool true) (za hb3) kr<|rp [.v,.v,.v,.n,.n,.n,.v,.v,.n,.n,.n,.v,.v] H6 kr fun gs12 w12 H12=>wX [] ?_;clear H6;refine zc<|zl kr<|wV ?_;refine ⟨[.bool false],(.tmp (.bool false) kr .nil),?_,H12.below⟩;exact congrArg Value.bool (by unfold ya;rw [kH s hs];simp [hb1,hb2,hb3]<;>omega)
end Go.Proofs.YtbpmjppmpgeejaaGreatDoor
namespace Go.Proofs.YtbpmjppmpgeejaaGreatDoor.Ke
open Go Go.RowKit Go.Proofs.Kec
set_option linter.unusedVariables false
end Go.Proofs.YtbpmjppmpgeejaaGreatDoor.Ke
namespace Go.Proofs.YtbpmjppmpgeejaaGreatDoor
open Go.Proofs.Kec
set_option maxRecDepth 100000
end Go.Proofs.YtbpmjppmpgeejaaGreatDoor
namespace Go.Proofs.YtbpmjppmpgeejaaGreatDoor
open Go Go.RowKit
set_option linter.unusedVariables false
open Go.Proofs.Kec Ke
theorem ze7 (A:Nat)(hA:A<big):Fn Tryz.prog 76 #[uv A] (.string (bs A)):=zj3 A hA
end Go.Proofs.YtbpmjppmpgeejaaGreatDoor
namespace Go.Proofs.YtbpmjppmpgeejaaGreatDoor
open Go.RowKit
def sv (l:List UInt8):Nat:=l.foldl (fun n b=>256*n+b.toNat) 0
theorem ze8 (l:List UInt8)(b:UInt8):sv (l++ [b])=256*sv l+b.toNat:=by
 unfold sv;rw [List.foldl_append];rfl
theorem ze9: ∀(l:List UInt8) (n:Nat),l.foldl (fun n b=>256*n+b.toNat) n<(n+1)*256^l.length
 | [],n=>by simp
 | b::l,n=>by
  rw [List.foldl_cons,List.length_cons,Nat.pow_succ];have h:=ze9 l (256*n+b.toNat);have hb:b.toNat<256:=b.toNat_lt;have h2:(256*n+b.toNat+1)*256^l.length≤((n+1)*256)*256^l.length:=Nat.mul_le_mul_right _ (by omega);have e:(n+1)*(256^l.length*256)=(n+1)*256*256^l.length:=by rw [Nat.mul_assoc (n+1) 256,Nat.mul_comm 256]
  omega
theorem zfa (l:List UInt8):sv l<256^l.length:=by
 have:=ze9 l 0;rw [Nat.one_mul] at this;exact this
def wi (n q:Nat):Nat:=n / 0x10000000000000000^q%0x10000000000000000
theorem zkd (x y k K:Nat)(hK:2^k=K)(hx:x%K=0)(hy:y<K):x ||| y=x+y:=by
 subst hK;have e:x=2^k*(x / 2^k):=by have:=Nat.div_add_mod x (2^k);omega
 rw [e];exact (Nat.two_pow_add_eq_or_of_lt hy (x / 2^k)).symm
theorem zke {b c K:Nat}(hb:b<256)(hc:0<c)(hK:256*c=K):b*c<K:=by
 subst hK;exact (Nat.mul_lt_mul_right hc).2 hb
theorem zkf (P b m:Nat)(hb:b<256)(hm:m<32)(hP:(256*P+b)*256^m<big):
 wi (P*256^(m+1)) (m / 8) ||| (b*2^(8*(m%8)))=wi ((256*P+b)*256^m) (m / 8)∧
 (∀j,j<4→j≠m / 8→wi ((256*P+b)*256^m) j=wi (P*256^(m+1)) j):=by
 obtain ⟨k,r,hr,rfl⟩:∃k r,r<8∧m=8*k+r:=⟨m / 8,m%8,Nat.mod_lt _ (by decide),by omega⟩
 have hk:(8*k+r) / 8=k:=by omega
 have hr':(8*k+r)%8=r:=by omega
 have hw:256^(8*k+r)=256^r*0x10000000000000000^k:=by rw [Nat.add_comm,Nat.pow_add,Nat.pow_mul]
 have hN:P*256^(8*k+r+1)=P*256^(r+1)*0x10000000000000000^k:=by
  rw [Nat.pow_succ,hw,Nat.pow_succ,Nat.mul_right_comm,Nat.mul_assoc P]
 have hN':(256*P+b)*256^(8*k+r)=(256*P+b)*256^r*0x10000000000000000^k:=by rw [hw,Nat.mul_assoc]
 rw [hk,hr',hN,hN'];have hp: ∀n,0<0x10000000000000000^n:=fun n=>Nat.pow_pos (by decide);have h8:r=0∨r=1∨r=2∨r=3∨r=4∨r=5∨r=6∨r=7:=by omega
 unfold wi;constructor
 ·rw [Nat.mul_div_cancel _ (hp k),Nat.mul_div_cancel _ (hp k),zkd _ _ (8*(r+1)) (256^(r+1)) (Nat.pow_mul 2 8 (r+1)) ?_ ?_]
  ·clear hN hN' hw hP;rcases h8 with rfl | rfl | rfl | rfl | rfl | rfl | rfl | rfl<;>simp only [Nat.reduceMul,Nat.reduceAdd,Nat.reducePow]<;>omega
  ·rw [Nat.mod_mod_of_dvd _ (show 256^(r+1)∣256^8 from Nat.pow_dvd_pow 256 hr),Nat.mul_mod_left]
  ·rw [Nat.pow_mul];exact zke hb (Nat.pow_pos (by decide)) (show 256*256^r=256^(r+1) by rw [Nat.pow_succ 256 r,Nat.mul_comm])
 ·intro j hj hne;rcases Nat.lt_or_gt_of_ne hne with h | h
  ·obtain ⟨d,rfl⟩:∃d,k=d+1+j:=⟨k-j-1,by omega⟩
   have e: ∀A,A*0x10000000000000000^(d+1+j) / 0x10000000000000000^j%0x10000000000000000=0:=fun A=>by
    rw [Nat.pow_add,←Nat.mul_assoc,Nat.mul_div_cancel _ (hp j),Nat.pow_succ,←Nat.mul_assoc,Nat.mul_mod_left]
   rw [e,e]
  ·obtain ⟨d,rfl⟩:∃d,j=k+1+d:=⟨j-k-1,by omega⟩
   have e: ∀A,A*0x10000000000000000^k / 0x10000000000000000^(k+1+d)=A / 0x10000000000000000 / 0x10000000000000000^d:=fun A=>by
    rw [Nat.pow_add,Nat.pow_succ,←Nat.div_div_eq_div_mul,←Nat.div_div_eq_div_mul,Nat.mul_div_cancel _ (hp k)]
   have e2:(256*P+b)*256^r / 0x10000000000000000=P*256^(r+1) / 0x10000000000000000:=by
    clear hN hN' hw hP e;rcases h8 with rfl | rfl | rfl | rfl | rfl | rfl | rfl | rfl<;>simp only [Nat.reduceMul,Nat.reduceAdd,Nat.reducePow]<;>omega
   rw [e,e,e2]
end Go.Proofs.YtbpmjppmpgeejaaGreatDoor
namespace Go.Proofs.YtbpmjppmpgeejaaGreatDoor
open Go.ChangeShapes Go.WideShapes Go.ChangeAt Go.RowKit
set_option linter.unusedVariables false
def zC (s:ByteArray)(k:Nat):Nat:=sv (s.data.toList.take k)*256^(s.size-k)
theorem zkg (s:ByteArray)(k:Nat)(h:s.size≤32)(hk:k≤s.size):zC s k<big:=by
 unfold zC;have h1:=zfa (s.data.toList.take k);have h2:(s.data.toList.take k).length≤k:=List.length_take_le _ _;have h3:256^(s.data.toList.take k).length≤256^k:=Nat.pow_le_pow_right (by omega) h2;have h4:256^k*256^(s.size-k)=256^s.size:=by rw [←Nat.pow_add];congr 1;omega
 have h5:256^s.size≤256^32:=Nat.pow_le_pow_right (by omega) h;have h6:sv (s.data.toList.take k)*256^(s.size-k)<256^k*256^(s.size-k):=(Nat.mul_lt_mul_right (Nat.pow_pos (by omega))).2 (by omega);have h7:(256:Nat)^32=big:=rfl;omega
theorem zkh (s:ByteArray)(k m:Nat)(hk:k<s.size)(hm:s.size=k+1+m):
 zC s k=sv (s.data.toList.take k)*256^(m+1)∧zC s (k+1)=(256*sv (s.data.toList.take k)+s[k].toNat)*256^m:=by
 unfold zC;constructor
 ·congr 2;omega
 ·have e:s.data.toList.take (k+1)=s.data.toList.take k++ [s[k]]:=by rw [List.take_succ_eq_append_getElem (by simpa using hk)];rfl
  rw [e,ze8];congr 2;omega
theorem wi0 (n:Nat):((wi n 0:Nat):Int)=w0 n:=by unfold wi w0;simp
theorem wi1 (n:Nat):((wi n 1:Nat):Int)=w1 n:=rfl
theorem wi2 (n:Nat):((wi n 2:Nat):Int)=w2 n:=rfl
theorem wi3 (n:Nat):((wi n 3:Nat):Int)=w3 n:=rfl
theorem zat (x b m:Nat)(hx:x<0x10000000000000000)(hb:b<256):
 bits BinOp.or IntKind.u64 (x:Int) (IntKind.u64.wrap ((b:Int)*2^(8*(m%8))))=((x ||| b*2^(8*(m%8)):Nat):Int):=by
 have hp:2^(8*(m%8))≤2^56:=Nat.pow_le_pow_right (by omega) (by omega);have hl:b*2^(8*(m%8))<0x10000000000000000:=by
  have h1:b*2^(8*(m%8))≤255*2^56:=Nat.mul_le_mul (by omega) hp;omega
 have e2:(b:Int)*2^(8*(m%8))=((b*2^(8*(m%8)):Nat):Int):=by push_cast;rfl
 rw [e2];have e3:IntKind.u64.wrap ((b*2^(8*(m%8)):Nat):Int)=((b*2^(8*(m%8)):Nat):Int):=by rw [IntKind.wrap_u64];omega
 rw [e3];exact bits_or_u64_nat _ _ hx hl
def zau (wr:World)(b:Nat)(n:Nat):Prop:=
 (wr.cell? ⟨b,0,none⟩=some (.int .u64 (w0 n))∧wr.cell? ⟨b,1,none⟩=some (.int .u64 (w1 n))∧wr.cell? ⟨b,2,none⟩=some (.int .u64 (w2 n))∧wr.cell? ⟨b,3,none⟩=some (.int .u64 (w3 n)))∧
 (wr.frozen? ⟨b,0,none⟩=false∧wr.frozen? ⟨b,1,none⟩=false∧wr.frozen? ⟨b,2,none⟩=false∧wr.frozen? ⟨b,3,none⟩=false)
def zfb (w:World)(s:ByteArray)(k:Nat)(wr:World):Prop:=Below w.heap.size w wr∧zau wr (w.heap.size+1) (zC s k)∧zau wr w.heap.size 0
theorem zav (s:ByteArray)(h:s.size≤32)(w:World):Calls Tryz.prog 95 #[.string s] w fun e w'=>e=.returned (.tuple #[uv (sv s.data.toList),.int .i64 0])∧Below w.heap.size w w':=by
 have hi: ¬(32:Int)<(s.size:Int):=by omega
 have hfin:zC s s.size=sv s.data.toList:=by unfold zC;rw [List.take_of_length_le (by simp)];simp
 have hend: ∀k,¬k<s.size→k≤s.size→zC s k=sv s.data.toList:=fun k h1 h2=>by rw [show k=s.size by omega];exact hfin
 have I:zfb w s 0 ((w.alloc (.cells #[wZ,wZ,wZ,wZ] 48)).alloc (.cells #[wZ,wZ,wZ,wZ] 48)):=by
  have z:zC s 0=0:=by unfold zC;simp [sv]
  have z0:w0 0=0:=rfl;have z1:w1 0=0:=rfl;have z2:w2 0=0:=rfl;have z3:w3 0=0:=rfl;refine ⟨((Below.refl _ _).alloc (Nat.le_refl _) _).alloc (by simp) _,?_,?_⟩
  ·rw [z];unfold zau;rw [z0,z1,z2,z3];exact ⟨⟨by simp,by simp,by simp,by simp⟩,by simp,by simp,by simp,by simp⟩
  ·unfold zau;rw [z0,z1,z2,z3];exact ⟨⟨by simp,by simp,by simp,by simp⟩,by simp,by simp,by simp,by simp⟩
 have Hend:=Lib.hid hend;clear hfin hend
 go_enter Tryz.func95,Tryz.ntmps95
 go_wp2
 go_loopw [13] (fun i wr=> ∃k:Nat,k≤s.size∧i=.int .i64 k∧zfb w s k wr) (fun i _=>s.size-(intOf i).toNat)
 case atStart=>exact ⟨0,by omega,rfl,I⟩
 case round=>
  obtain ⟨k,hk,rfl,J⟩:=hrel;clear I;obtain ⟨JB,⟨⟨c0,c1,c2,c3⟩,f0,f1,f2,f3⟩,⟨⟨r0,r1,r2,r3⟩,y0,y1,y2,y3⟩⟩:=J;by_cases hlt:k<s.size
  ·obtain ⟨m,hm⟩:∃m,s.size=k+1+m:=⟨s.size-k-1,by omega⟩
   have hb:((s.size:Int)-1-(k:Int))=(m:Int):=by omega
   have hm32:m<32:=by omega
   obtain ⟨n1,n2⟩:=zkh s k m hlt hm;have hbig:=zkg s (k+1) h (by omega);have hby:s[k].toNat<256:=s[k].toNat_lt;have OB:=zkf (sv (s.data.toList.take k)) s[k].toNat m hby hm32 (by rw [←n2];exact hbig);rw [←n1,←n2] at OB;have HOB:=Lib.hid OB;clear hm n1 n2 OB hbig;have hq:m / 8=0∨m / 8=1∨m / 8=2∨m / 8=3:=by omega
   rcases hq with hq|hq|hq|hq
   ·go_wp2_with fail
    go_region
    go_wp2
    go_roundw
    case rel=>
     obtain ⟨o1,o2⟩:=HOB.out;rw [hq] at o1 o2;have ev:bits BinOp.or IntKind.u64 (w0 (zC s k)) (IntKind.u64.wrap ((s[k].toNat:Int)*2^(8*(m%8))))=w0 (zC s (k+1)):=by
      rw [←wi0,zat _ _ _ (by unfold wi;exact Nat.mod_lt _ (by omega)) hby,o1,wi0]
     have g1:w1 (zC s (k+1))=w1 (zC s k):=by rw [←wi1,←wi1,o2 1 (by omega) (by omega)]
     have g2:w2 (zC s (k+1))=w2 (zC s k):=by rw [←wi2,←wi2,o2 2 (by omega) (by omega)]
     have g3:w3 (zC s (k+1))=w3 (zC s k):=by rw [←wi3,←wi3,o2 3 (by omega) (by omega)]
     refine ⟨k+1,by omega,by go_num,(JB.setCell (by simp) _).drew,⟨⟨?_,?_,?_,?_⟩,?_,?_,?_,?_⟩,⟨⟨?_,?_,?_,?_⟩,?_,?_,?_,?_⟩⟩
     ·rw [←ev];exact World.cell?_setCell_same _ _ _ c0
     ·rw [g1];exact (World.cell?_setCell_other _ _ _ _ (by simp)).trans c1
     ·rw [g2];exact (World.cell?_setCell_other _ _ _ _ (by simp)).trans c2
     ·rw [g3];exact (World.cell?_setCell_other _ _ _ _ (by simp)).trans c3
     ·simp [f0]
     ·simp [f1]
     ·simp [f2]
     ·simp [f3]
     ·exact (World.cell?_setCell_other _ _ _ _ (by simp)).trans r0
     ·exact (World.cell?_setCell_other _ _ _ _ (by simp)).trans r1
     ·exact (World.cell?_setCell_other _ _ _ _ (by simp)).trans r2
     ·exact (World.cell?_setCell_other _ _ _ _ (by simp)).trans r3
     ·simp [y0]
     ·simp [y1]
     ·simp [y2]
     ·simp [y3]
    case measure=>simp [intOf];omega
   ·go_wp2_with fail
    go_region
    go_wp2
    go_roundw
    case rel=>
     obtain ⟨o1,o2⟩:=HOB.out;rw [hq] at o1 o2;have ev:bits BinOp.or IntKind.u64 (w1 (zC s k)) (IntKind.u64.wrap ((s[k].toNat:Int)*2^(8*(m%8))))=w1 (zC s (k+1)):=by
      rw [←wi1,zat _ _ _ (by unfold wi;exact Nat.mod_lt _ (by omega)) hby,o1,wi1]
     have g0:w0 (zC s (k+1))=w0 (zC s k):=by rw [←wi0,←wi0,o2 0 (by omega) (by omega)]
     have g2:w2 (zC s (k+1))=w2 (zC s k):=by rw [←wi2,←wi2,o2 2 (by omega) (by omega)]
     have g3:w3 (zC s (k+1))=w3 (zC s k):=by rw [←wi3,←wi3,o2 3 (by omega) (by omega)]
     refine ⟨k+1,by omega,by go_num,(JB.setCell (by simp) _).drew,⟨⟨?_,?_,?_,?_⟩,?_,?_,?_,?_⟩,⟨⟨?_,?_,?_,?_⟩,?_,?_,?_,?_⟩⟩
     ·rw [g0];exact (World.cell?_setCell_other _ _ _ _ (by simp)).trans c0
     ·rw [←ev];exact World.cell?_setCell_same _ _ _ c1
     ·rw [g2];exact (World.cell?_setCell_other _ _ _ _ (by simp)).trans c2
     ·rw [g3];exact (World.cell?_setCell_other _ _ _ _ (by simp)).trans c3
     ·simp [f0]
     ·simp [f1]
     ·simp [f2]
     ·simp [f3]
     ·exact (World.cell?_setCell_other _ _ _ _ (by simp)).trans r0
     ·exact (World.cell?_setCell_other _ _ _ _ (by simp)).trans r1
     ·exact (World.cell?_setCell_other _ _ _ _ (by simp)).trans r2
     ·exact (World.cell?_setCell_other _ _ _ _ (by simp)).trans r3
     ·simp [y0]
     ·simp [y1]
     ·simp [y2]
     ·simp [y3]
    case measure=>simp [intOf];omega
   ·go_wp2_with fail
    go_region
    go_wp2
    go_roundw
    case rel=>
     obtain ⟨o1,o2⟩:=HOB.out;rw [hq] at o1 o2;have ev:bits BinOp.or IntKind.u64 (w2 (zC s k)) (IntKind.u64.wrap ((s[k].toNat:Int)*2^(8*(m%8))))=w2 (zC s (k+1)):=by
      rw [←wi2,zat _ _ _ (by unfold wi;exact Nat.mod_lt _ (by omega)) hby,o1,wi2]
     have g0:w0 (zC s (k+1))=w0 (zC s k):=by rw [←wi0,←wi0,o2 0 (by omega) (by omega)]
     have g1:w1 (zC s (k+1))=w1 (zC s k):=by rw [←wi1,←wi1,o2 1 (by omega) (by omega)]
     have g3:w3 (zC s (k+1))=w3 (zC s k):=by rw [←wi3,←wi3,o2 3 (by omega) (by omega)]
     refine ⟨k+1,by omega,by go_num,(JB.setCell (by simp) _).drew,⟨⟨?_,?_,?_,?_⟩,?_,?_,?_,?_⟩,⟨⟨?_,?_,?_,?_⟩,?_,?_,?_,?_⟩⟩
     ·rw [g0];exact (World.cell?_setCell_other _ _ _ _ (by simp)).trans c0
     ·rw [g1];exact (World.cell?_setCell_other _ _ _ _ (by simp)).trans c1
     ·rw [←ev];exact World.cell?_setCell_same _ _ _ c2
     ·rw [g3];exact (World.cell?_setCell_other _ _ _ _ (by simp)).trans c3
     ·simp [f0]
     ·simp [f1]
     ·simp [f2]
     ·simp [f3]
     ·exact (World.cell?_setCell_other _ _ _ _ (by simp)).trans r0
     ·exact (World.cell?_setCell_other _ _ _ _ (by simp)).trans r1
     ·exact (World.cell?_setCell_other _ _ _ _ (by simp)).trans r2
     ·exact (World.cell?_setCell_other _ _ _ _ (by simp)).trans r3
     ·simp [y0]
     ·simp [y1]
     ·simp [y2]
     ·simp [y3]
    case measure=>simp [intOf];omega
   ·go_wp2_with fail
    go_region
    go_wp2
    go_roundw
    case rel=>
     obtain ⟨o1,o2⟩:=HOB.out;rw [hq] at o1 o2;have ev:bits BinOp.or IntKind.u64 (w3 (zC s k)) (IntKind.u64.wrap ((s[k].toNat:Int)*2^(8*(m%8))))=w3 (zC s (k+1)):=by
      rw [←wi3,zat _ _ _ (by unfold wi;exact Nat.mod_lt _ (by omega)) hby,o1,wi3]
     have g0:w0 (zC s (k+1))=w0 (zC s k):=by rw [←wi0,←wi0,o2 0 (by omega) (by omega)]
     have g1:w1 (zC s (k+1))=w1 (zC s k):=by rw [←wi1,←wi1,o2 1 (by omega) (by omega)]
     have g2:w2 (zC s (k+1))=w2 (zC s k):=by rw [←wi2,←wi2,o2 2 (by omega) (by omega)]
     refine ⟨k+1,by omega,by go_num,(JB.setCell (by simp) _).drew,⟨⟨?_,?_,?_,?_⟩,?_,?_,?_,?_⟩,⟨⟨?_,?_,?_,?_⟩,?_,?_,?_,?_⟩⟩
     ·rw [g0];exact (World.cell?_setCell_other _ _ _ _ (by simp)).trans c0
     ·rw [g1];exact (World.cell?_setCell_other _ _ _ _ (by simp)).trans c1
     ·rw [g2];exact (World.cell?_setCell_other _ _ _ _ (by simp)).trans c2
     ·rw [←ev];exact World.cell?_setCell_same _ _ _ c3
     ·simp [f0]
     ·simp [f1]
     ·simp [f2]
     ·simp [f3]
     ·exact (World.cell?_setCell_other _ _ _ _ (by simp)).trans r0
     ·exact (World.cell?_setCell_other _ _ _ _ (by simp)).trans r1
     ·exact (World.cell?_setCell_other _ _ _ _ (by simp)).trans r2
     ·exact (World.cell?_setCell_other _ _ _ _ (by simp)).trans r3
     ·simp [y0]
     ·simp [y1]
     ·simp [y2]
     ·simp [y3]
    case measure=>simp [intOf];omega
  ·have HE:=Lib.hid (Hend.out k hlt hk)
   go_wp2
   have hS0:(wr.setCell ⟨w.heap.size,0,none⟩ (.int .u64 (w0 (zC s k)))).cell? ⟨w.heap.size,0,none⟩=some (.int .u64 (w0 (zC s k))):=World.cell?_setCell_same _ _ _ r0;have hS1:((wr.setCell ⟨w.heap.size,0,none⟩ (.int .u64 (w0 (zC s k)))).setCell ⟨w.heap.size,1,none⟩ (.int .u64 (w1 (zC s k)))).cell? ⟨w.heap.size,1,none⟩=some (.int .u64 (w1 (zC s k))):=World.cell?_setCell_same _ _ _ ((World.cell?_setCell_other _ _ _ _ (by simp)).trans r1);have hS2:(((wr.setCell ⟨w.heap.size,0,none⟩ (.int .u64 (w0 (zC s k)))).setCell ⟨w.heap.size,1,none⟩ (.int .u64 (w1 (zC s k)))).setCell ⟨w.heap.size,2,none⟩ (.int .u64 (w2 (zC s k)))).cell? ⟨w.heap.size,2,none⟩=some (.int .u64 (w2 (zC s k))):=World.cell?_setCell_same _ _ _ ((World.cell?_setCell_other _ _ _ _ (by simp)).trans ((World.cell?_setCell_other _ _ _ _ (by simp)).trans r2));have hS3:((((wr.setCell ⟨w.heap.size,0,none⟩ (.int .u64 (w0 (zC s k)))).setCell ⟨w.heap.size,1,none⟩ (.int .u64 (w1 (zC s k)))).setCell ⟨w.heap.size,2,none⟩ (.int .u64 (w2 (zC s k)))).setCell ⟨w.heap.size,3,none⟩ (.int .u64 (w3 (zC s k)))).cell? ⟨w.heap.size,3,none⟩=some (.int .u64 (w3 (zC s k))):=World.cell?_setCell_same _ _ _ ((World.cell?_setCell_other _ _ _ _ (by simp)).trans ((World.cell?_setCell_other _ _ _ _ (by simp)).trans ((World.cell?_setCell_other _ _ _ _ (by simp)).trans r3)));refine bodyPost_ret (v:=.tuple #[uv (zC s k),.int .i64 0]) (by simp [results,Tryz.results95,go_sem,hS0,hS1,hS2,hS3]) rfl ?_;refine ⟨by rw [HE.out],?_⟩;exact ((((JB.setCell (by simp) _).setCell (by simp) _).setCell (by simp) _).setCell (by simp) _)
end Go.Proofs.YtbpmjppmpgeejaaGreatDoor
namespace Go.Proofs.YtbpmjppmpgeejaaGreatDoor
open Go Go.RowKit
set_option linter.unusedVariables false
theorem yn (A q:Nat)(h:q<16):(dgs A 16).getD q 0=dgt A q:=by
 unfold dgs;simp [List.getD,List.getElem?_map,List.getElem?_range h]
theorem jD (s:ByteArray)(h:s.size≤32):sv (tl s)<big:=by
 have h1:=zfa (tl s);have h2:256^(tl s).length≤256^32:=Nat.pow_le_pow_right (by omega) h;have h3:(256:Nat)^32=big:=rfl;omega
theorem zki (s:ByteArray)(k:Nat)(h:k<s.size):sv ((tl s).take (k+1))=256*sv ((tl s).take k)+by_ s k:=by
 have h1:k<(tl s).length:=h;rw [List.take_succ_eq_append_getElem h1,ze8];unfold by_;rw [List.getD_eq_getElem?_getD,List.getElem?_eq_getElem h1];rfl
theorem zkj (A:Nat):IntKind.u8.wrap (((dgt A 15 / 256:Nat)):Int)=Go.Proofs.YtbpmjppmpgeejaaGreatDoor.w3 A / 72057594037927936%256:=by
 unfold dgt w3;rw [yi];simp only [Nat.reducePow];omega
theorem zkk (A:Nat):IntKind.u8.wrap (((dgt A 15%256:Nat)):Int)=Go.Proofs.YtbpmjppmpgeejaaGreatDoor.w3 A / 281474976710656%256:=by
 unfold dgt w3;rw [yi];simp only [Nat.reducePow];omega
theorem zkl (A:Nat):IntKind.u8.wrap (((dgt A 14 / 256:Nat)):Int)=Go.Proofs.YtbpmjppmpgeejaaGreatDoor.w3 A / 1099511627776%256:=by
 unfold dgt w3;rw [yi];simp only [Nat.reducePow];omega
theorem zkm (A:Nat):IntKind.u8.wrap (((dgt A 14%256:Nat)):Int)=Go.Proofs.YtbpmjppmpgeejaaGreatDoor.w3 A / 4294967296%256:=by
 unfold dgt w3;rw [yi];simp only [Nat.reducePow];omega
theorem zkn (A:Nat):IntKind.u8.wrap (((dgt A 13 / 256:Nat)):Int)=Go.Proofs.YtbpmjppmpgeejaaGreatDoor.w3 A / 16777216%256:=by
 unfold dgt w3;rw [yi];simp only [Nat.reducePow];omega
theorem zko (A:Nat):IntKind.u8.wrap (((dgt A 13%256:Nat)):Int)=Go.Proofs.YtbpmjppmpgeejaaGreatDoor.w3 A / 65536%256:=by
 unfold dgt w3;rw [yi];simp only [Nat.reducePow];omega
theorem zkp (A:Nat):IntKind.u8.wrap (((dgt A 12 / 256:Nat)):Int)=Go.Proofs.YtbpmjppmpgeejaaGreatDoor.w3 A / 256%256:=by
 unfold dgt w3;rw [yi];simp only [Nat.reducePow];omega
theorem zkq (A:Nat):IntKind.u8.wrap (((dgt A 12%256:Nat)):Int)=Go.Proofs.YtbpmjppmpgeejaaGreatDoor.w3 A%256:=by
 unfold dgt w3;rw [yi];simp only [Nat.reducePow];omega
theorem zkr (A:Nat):IntKind.u8.wrap (((dgt A 11 / 256:Nat)):Int)=Go.Proofs.YtbpmjppmpgeejaaGreatDoor.w2 A / 72057594037927936%256:=by
 unfold dgt w2;rw [yi];simp only [Nat.reducePow];omega
theorem zks (A:Nat):IntKind.u8.wrap (((dgt A 11%256:Nat)):Int)=Go.Proofs.YtbpmjppmpgeejaaGreatDoor.w2 A / 281474976710656%256:=by
 unfold dgt w2;rw [yi];simp only [Nat.reducePow];omega
theorem zkt (A:Nat):IntKind.u8.wrap (((dgt A 10 / 256:Nat)):Int)=Go.Proofs.YtbpmjppmpgeejaaGreatDoor.w2 A / 1099511627776%256:=by
 unfold dgt w2;rw [yi];simp only [Nat.reducePow];omega
theorem zku (A:Nat):IntKind.u8.wrap (((dgt A 10%256:Nat)):Int)=Go.Proofs.YtbpmjppmpgeejaaGreatDoor.w2 A / 4294967296%256:=by
 unfold dgt w2;rw [yi];simp only [Nat.reducePow];omega
theorem zkv (A:Nat):IntKind.u8.wrap (((dgt A 9 / 256:Nat)):Int)=Go.Proofs.YtbpmjppmpgeejaaGreatDoor.w2 A / 16777216%256:=by
 unfold dgt w2;rw [yi];simp only [Nat.reducePow];omega
theorem zkw (A:Nat):IntKind.u8.wrap (((dgt A 9%256:Nat)):Int)=Go.Proofs.YtbpmjppmpgeejaaGreatDoor.w2 A / 65536%256:=by
 unfold dgt w2;rw [yi];simp only [Nat.reducePow];omega
theorem zkx (A:Nat):IntKind.u8.wrap (((dgt A 8 / 256:Nat)):Int)=Go.Proofs.YtbpmjppmpgeejaaGreatDoor.w2 A / 256%256:=by
 unfold dgt w2;rw [yi];simp only [Nat.reducePow];omega
theorem zky (A:Nat):IntKind.u8.wrap (((dgt A 8%256:Nat)):Int)=Go.Proofs.YtbpmjppmpgeejaaGreatDoor.w2 A%256:=by
 unfold dgt w2;rw [yi];simp only [Nat.reducePow];omega
theorem zkz (A:Nat):IntKind.u8.wrap (((dgt A 7 / 256:Nat)):Int)=Go.Proofs.YtbpmjppmpgeejaaGreatDoor.w1 A / 72057594037927936%256:=by
 unfold dgt w1;rw [yi];simp only [Nat.reducePow];omega
theorem zkA (A:Nat):IntKind.u8.wrap (((dgt A 7%256:Nat)):Int)=Go.Proofs.YtbpmjppmpgeejaaGreatDoor.w1 A / 281474976710656%256:=by
 unfold dgt w1;rw [yi];simp only [Nat.reducePow];omega
theorem zkB (A:Nat):IntKind.u8.wrap (((dgt A 6 / 256:Nat)):Int)=Go.Proofs.YtbpmjppmpgeejaaGreatDoor.w1 A / 1099511627776%256:=by
 unfold dgt w1;rw [yi];simp only [Nat.reducePow];omega
theorem zkC (A:Nat):IntKind.u8.wrap (((dgt A 6%256:Nat)):Int)=Go.Proofs.YtbpmjppmpgeejaaGreatDoor.w1 A / 4294967296%256:=by
 unfold dgt w1;rw [yi];simp only [Nat.reducePow];omega
theorem zkD (A:Nat):IntKind.u8.wrap (((dgt A 5 / 256:Nat)):Int)=Go.Proofs.YtbpmjppmpgeejaaGreatDoor.w1 A / 16777216%256:=by
 unfold dgt w1;rw [yi];simp only [Nat.reducePow];omega
theorem zkE (A:Nat):IntKind.u8.wrap (((dgt A 5%256:Nat)):Int)=Go.Proofs.YtbpmjppmpgeejaaGreatDoor.w1 A / 65536%256:=by
 unfold dgt w1;rw [yi];simp only [Nat.reducePow];omega
theorem zkF (A:Nat):IntKind.u8.wrap (((dgt A 4 / 256:Nat)):Int)=Go.Proofs.YtbpmjppmpgeejaaGreatDoor.w1 A / 256%256:=by
 unfold dgt w1;rw [yi];simp only [Nat.reducePow];omega
theorem zkG (A:Nat):IntKind.u8.wrap (((dgt A 4%256:Nat)):Int)=Go.Proofs.YtbpmjppmpgeejaaGreatDoor.w1 A%256:=by
 unfold dgt w1;rw [yi];simp only [Nat.reducePow];omega
theorem zkH (A:Nat):IntKind.u8.wrap (((dgt A 3 / 256:Nat)):Int)=Go.Proofs.YtbpmjppmpgeejaaGreatDoor.w0 A / 72057594037927936%256:=by
 unfold dgt w0;rw [yi];simp only [Nat.reducePow];omega
theorem zkI (A:Nat):IntKind.u8.wrap (((dgt A 3%256:Nat)):Int)=Go.Proofs.YtbpmjppmpgeejaaGreatDoor.w0 A / 281474976710656%256:=by
 unfold dgt w0;rw [yi];simp only [Nat.reducePow];omega
theorem zkJ (A:Nat):IntKind.u8.wrap (((dgt A 2 / 256:Nat)):Int)=Go.Proofs.YtbpmjppmpgeejaaGreatDoor.w0 A / 1099511627776%256:=by
 unfold dgt w0;rw [yi];simp only [Nat.reducePow];omega
theorem zkK (A:Nat):IntKind.u8.wrap (((dgt A 2%256:Nat)):Int)=Go.Proofs.YtbpmjppmpgeejaaGreatDoor.w0 A / 4294967296%256:=by
 unfold dgt w0;rw [yi];simp only [Nat.reducePow];omega
theorem zkL (A:Nat):IntKind.u8.wrap (((dgt A 1 / 256:Nat)):Int)=Go.Proofs.YtbpmjppmpgeejaaGreatDoor.w0 A / 16777216%256:=by
 unfold dgt w0;rw [yi];simp only [Nat.reducePow];omega
theorem zkM (A:Nat):IntKind.u8.wrap (((dgt A 1%256:Nat)):Int)=Go.Proofs.YtbpmjppmpgeejaaGreatDoor.w0 A / 65536%256:=by
 unfold dgt w0;rw [yi];simp only [Nat.reducePow];omega
theorem zkN (A:Nat):IntKind.u8.wrap (((dgt A 0 / 256:Nat)):Int)=Go.Proofs.YtbpmjppmpgeejaaGreatDoor.w0 A / 256%256:=by
 unfold dgt w0;rw [yi];simp only [Nat.reducePow];omega
theorem zkO (A:Nat):IntKind.u8.wrap (((dgt A 0%256:Nat)):Int)=Go.Proofs.YtbpmjppmpgeejaaGreatDoor.w0 A%256:=by
 unfold dgt w0;rw [yi];simp only [Nat.reducePow];omega
def bnI (A q:Nat):Int:=(bn A).getD q 0
theorem zkP (A j:Nat)(h1:1≤j)(h2:j≤16):IntKind.u8.wrap ((((dgs A 16).getD (j-1) 0 / 256:Nat)):Int)=bnI A (32-2*j):=by
 have h:j=1∨j=2∨j=3∨j=4∨j=5∨j=6∨j=7∨j=8∨j=9∨j=10∨j=11∨j=12∨j=13∨j=14∨j=15∨j=16:=by omega
 rcases h with rfl|rfl|rfl|rfl|rfl|rfl|rfl|rfl|rfl|rfl|rfl|rfl|rfl|rfl|rfl|rfl
 ·rw [yn A 0 (by omega)];exact zkN A
 ·rw [yn A 1 (by omega)];exact zkL A
 ·rw [yn A 2 (by omega)];exact zkJ A
 ·rw [yn A 3 (by omega)];exact zkH A
 ·rw [yn A 4 (by omega)];exact zkF A
 ·rw [yn A 5 (by omega)];exact zkD A
 ·rw [yn A 6 (by omega)];exact zkB A
 ·rw [yn A 7 (by omega)];exact zkz A
 ·rw [yn A 8 (by omega)];exact zkx A
 ·rw [yn A 9 (by omega)];exact zkv A
 ·rw [yn A 10 (by omega)];exact zkt A
 ·rw [yn A 11 (by omega)];exact zkr A
 ·rw [yn A 12 (by omega)];exact zkp A
 ·rw [yn A 13 (by omega)];exact zkn A
 ·rw [yn A 14 (by omega)];exact zkl A
 ·rw [yn A 15 (by omega)];exact zkj A
theorem zkQ (A j:Nat)(h1:1≤j)(h2:j≤16):IntKind.u8.wrap ((((dgs A 16).getD (j-1) 0%256:Nat)):Int)=bnI A (32-2*j+1):=by
 have h:j=1∨j=2∨j=3∨j=4∨j=5∨j=6∨j=7∨j=8∨j=9∨j=10∨j=11∨j=12∨j=13∨j=14∨j=15∨j=16:=by omega
 rcases h with rfl|rfl|rfl|rfl|rfl|rfl|rfl|rfl|rfl|rfl|rfl|rfl|rfl|rfl|rfl|rfl
 ·rw [yn A 0 (by omega)];exact zkO A
 ·rw [yn A 1 (by omega)];exact zkM A
 ·rw [yn A 2 (by omega)];exact zkK A
 ·rw [yn A 3 (by omega)];exact zkI A
 ·rw [yn A 4 (by omega)];exact zkG A
 ·rw [yn A 5 (by omega)];exact zkE A
 ·rw [yn A 6 (by omega)];exact zkC A
 ·rw [yn A 7 (by omega)];exact zkA A
 ·rw [yn A 8 (by omega)];exact zky A
 ·rw [yn A 9 (by omega)];exact zkw A
 ·rw [yn A 10 (by omega)];exact zku A
 ·rw [yn A 11 (by omega)];exact zks A
 ·rw [yn A 12 (by omega)];exact zkq A
 ·rw [yn A 13 (by omega)];exact zko A
 ·rw [yn A 14 (by omega)];exact zkm A
 ·rw [yn A 15 (by omega)];exact zkk A
theorem zkR (A k:Nat)(h:k+2≤32):List.take (k+2) (bn A)=List.take k (bn A)++ [bnI A k,bnI A (k+1)]:=by
 have hl:(bn A).length=32:=rfl;rw [List.take_succ_eq_append_getElem (show k+1<(bn A).length by omega),List.take_succ_eq_append_getElem (show k<(bn A).length by omega),List.append_assoc];simp [bnI,List.getD_eq_getElem?_getD,List.getElem?_eq_getElem (show k<(bn A).length by omega),List.getElem?_eq_getElem (show k+1<(bn A).length by omega)]
theorem zkS (A k:Nat)(h:k+2≤32):List.map (Value.int .u8) (List.take (k+2) (bn A))=List.map (Value.int .u8) (List.take k (bn A))++ [.int .u8 (bnI A k),.int .u8 (bnI A (k+1))]:=by rw [zkR A k h,List.map_append];rfl
theorem zfc (A:Nat)(hA:A<big):Fn Tryz.prog 51 #[uv A] (.string (bs A)):=by
 refine Fn.intro (c:=zk Tryz.f51) [.tmp 2] 30 Tryz.func51 kr kr kr fun w=>?_;have H0:=St.start w;refine rS [.b,.v] H0 kr fun gs1 w1 H1=>?_;clear H0;refine zg [0,1,2] kr kr<|rp [.l 0] H1 kr fun gs2 w2 H2=>wX [1,2] ?_;clear H1;refine kj H2 (some 7) 77 #[uv A] (fun _=>True) 3 1 (fun curZ capZ nZ lZ=>(nZ=List.length lZ∧Rw 1 curZ capZ nZ (zS lZ)∧Ok lZ∧(lZ=dgs A 16∧vl lZ=A∧List.length lZ=16))) (vN A hA) trivial kr kr ?_;intro b_1 cap_2 n_3 cur_4 l_5 w3 H3 hs_6;clear H2;obtain ⟨hs_6n,hs_6r,hs_6o,hs_6s⟩:=hs_6;obtain ⟨hs_6a,hs_6b,hs_6c⟩:=hs_6s;refine rp [.v] H3 kr fun gs4 w4 H4=>wX [] ?_;clear H3;refine zc<|rS [.nw (fun b=>.slice (some ⟨b,0,none⟩) 0 0) #[] 5,.v] H4 kr fun gs5 w5 H5=>?_;clear H4;refine zb kr<|rS [.v] H5 kr fun gs6 w6 H6=>?_;clear H5;refine zn 0 kr ?_;have HL1:St w.heap.size w w6 [(b_1,Obj.cells cur_4 3 (0,0)),((gs1 0).b,Obj.cells (Value.cells (uv A)) 48 (0,0)),((gs5 0).b,Obj.cells #[] 5 (0,0))]:=H6.as kr;clear H6;have HD2:St w.heap.size w w6 [(b_1,Obj.cells cur_4 3 (0,0)),((gs5 0).b,Obj.cells #[] 5 (0,0))]:=HL1.sub (List.Sublist.cons_cons _ (List.Sublist.cons _ (List.Sublist.cons_cons _ List.Sublist.slnil)));have HF3:St w.heap.size w w6 [(b_1,Obj.cells cur_4 3 (0,0)),((gs5 0).b,Obj.cells #[] 5 (0,0))]:=HD2.front 0 kr kr;have HF4:St w.heap.size w w6 [((gs5 0).b,Obj.cells #[] 5 (0,0)),(b_1,Obj.cells cur_4 3 (0,0))]:=HF3.front 1 kr kr;refine zV kr (fun mz ρ ww=> ∃(b:Nat) (cap:Nat) (n:Nat) (cur:Array Value) (j:Nat),j=mz∧(n=32-2*j)∧(Rw 1 cur cap n (List.map (Value.int .u8) (List.take (32-2*j) (bn A))))∧(j≤16)∧St w.heap.size w ww [(b,Obj.cells cur 5 (0,0)),(b_1,Obj.cells cur_4 3 (0,0))]∧Is [(0,uv A),(1,.pointer (some ⟨(gs1 0).b,0,none⟩)),(2,.string (⟨#[]⟩)),(3,.slice (some ⟨b_1,0,none⟩) n_3 cap_2),(4,.slice (some ⟨b,0,none⟩) n cap),(5,.int .i64 ((j:Int)-1))] ρ) 16 ⟨(gs5 0).b,0,0,#[],16,rfl,rfl,(Rw.lit #[] 0 rfl (by unfold maxLen;omega)),(by omega),HF4,(Is.of ⟨kr,kr,kr,kr,kr,kr,trivial⟩)⟩ ?_;clear HF4;rintro _ _ w7 ⟨b,cap,n,cur,j,rfl,hn,hr,hj,H7,_,rfl⟩;refine zb kr<|zg [0,1] kr kr<|rp [.v] H7 kr fun gs8 w8 H8=>wX [1] ?_;clear H7;by_cases hc5:((j:Int)-1:Int)≥0
 ·refine rp [.E (.bool (decide (0≤(j:Int)-1))) (.bool true) (za (decide_eq_true (by omega)))] H8 kr fun gs9 w9 H9=>wX [] ?_;clear H8;refine zc<|zf kr kr<|zj kr<|wW<|zb kr<|zn 1 kr<|yl 5 (v:=.int .i64 ((j:Int)-1)) (v':=.int .i64 ((j-1:Nat):Int)) (zd (show ((j:Int)-1)=((j-1:Nat):Int) from by omega)) kr<|yl 9 (v:=.int .i64 ((j:Int)-1)) (v':=.int .i64 ((j-1:Nat):Int)) (zd (show ((j:Int)-1)=((j-1:Nat):Int) from by omega)) kr ?_;have hdd:=yB hs_6o (j-1);have HL6:St w.heap.size w w9 [(b,Obj.cells cur 5 (0,0)),(b_1,Obj.cells cur_4 3 (0,0))]:=H9.as kr;clear H9;refine D2.g_draw0 [0,1,2,3,4,5,6,7,8,9,10,11,12,13,14,15] [((some 13),fun _=>.slice (some ⟨b,0,none⟩) n cap),((some 14),fun _=>.slice (some ⟨b_1,0,none⟩) n_3 cap_2),((some 15),fun _=>.int .i64 ((j-1:Nat):Int)),((some 16),fun _=>.pointer (some ⟨b_1,0+(j-1)*1,none⟩)),((some 17),fun _=>.int .i64 ((List.getD l_5 (j-1) 0:Nat):Int)),((some 18),fun _=>.int .i64 (((List.getD l_5 (j-1) 0) / 256:Nat):Int)),((some 19),fun _=>.int .u8 (bnI A (32-2*j))),((some 20),fun _=>.slice (some ⟨b_1,0,none⟩) n_3 cap_2),((some 21),fun _=>.int .i64 ((j-1:Nat):Int)),((some 22),fun _=>.pointer (some ⟨b_1,0+(j-1)*1,none⟩)),((some 23),fun _=>.int .i64 ((List.getD l_5 (j-1) 0:Nat):Int)),((some 24),fun _=>.int .i64 (((List.getD l_5 (j-1) 0)%256:Nat):Int)),((some 25),fun _=>.int .u8 (bnI A (32-2*j+1))),((some 26),fun b=>.slice (some ⟨b.b,0,none⟩) 2 2),((some 27),fun y=>.slice (some ⟨y.b,0,none⟩) y.n y.cap),((some 4),fun y=>.slice (some ⟨y.b,0,none⟩) (y.n) (y.cap))] (D2.Pre w.heap.size w (fun L g=>[(true,(bif L 14 then ((g 14).b,Obj.cells ((g 14).cur) 5 (0,0)) else (b,Obj.cells cur 5 (0,0)))),(true,(b_1,Obj.cells cur_4 3 (0,0))),(L 13,((g 13).b,Obj.cells #[.int .u8 (bnI A (32-2*j)),.int .u8 (bnI A (32-2*j+1))] 5 (0,0)))]) (fun L g=>(L 14=true→((g 14).n=n+2∧Rw 1 (g 14).cur (g 14).cap (n+2) (List.map (Value.int .u8) (List.take (32-2*j+2) (bn A)))))∧(L 15=true→g 15=g 14)∧True)) kr kr kr ⟨D2.StE.of HL6.drew _ kr,⟨(fun h=>nomatch h),(fun h=>nomatch h),trivial⟩⟩ ⟨?_,?_,?_,?_,?_,?_,?_,?_,?_,?_,?_,?_,?_,?_,?_,?_,trivial⟩ ?_
  ·exact D2.gv_val (fun _ _ _ h=>h) (fun g w=>by kernel_rfl)
  ·exact D2.gv_val (fun _ _ _ h=>h) (fun g w=>by kernel_rfl)
  ·exact D2.gv_val (fun _ _ _ h=>h) (fun g w=>by kernel_rfl)
  ·exact D2.gv_op (fun _ _ _ h=>h) _ (fun g=>by kernel_rfl) (fun g=>(fun o w ho=>qM (kd:=.i64) (t:=107) (e:=3) (size:=1) (bytes:=8) kr (x:=(.tmp 14)) (y:=(.tmp 15)) b_1 0 n_3 cap_2 (j-1) ho kr kr (by omega) w))
  ·exact D2.gv_load1 3 (.tmp 16) 1 (fun g=>b_1) (fun g=>0+(j-1)*1) (fun g=>cur_4) 3 (0,0) (fun _ _ _ h=>h) (fun g=>by kernel_rfl) (fun g=>by kernel_rfl) (fun L g hN=>kr) kr (fun L g hN hF=>by exact (hs_6r.atD (by omega) hs_6n))
  ·exact D2.gv_valE (fun _ _ _ h=>h) (V':=.int .i64 (IntKind.i64.wrap (((List.getD l_5 (j-1) 0:Nat):Int).tdiv 256))) (fun g w=>by kernel_rfl) (zd (xQ (a:=List.getD l_5 (j-1) 0) (b:=256) (by omega)))
  ·exact D2.gv_valE (fun _ _ _ h=>h) (V':=.int .u8 (IntKind.u8.wrap ((((List.getD l_5 (j-1) 0) / 256:Nat):Int)))) (fun g w=>by kernel_rfl) (zd (by rw [hs_6a];exact zkP A j (by omega) (by omega)))
  ·exact D2.gv_val (fun _ _ _ h=>h) (fun g w=>by kernel_rfl)
  ·exact D2.gv_val (fun _ _ _ h=>h) (fun g w=>by kernel_rfl)
  ·exact D2.gv_op (fun _ _ _ h=>h) _ (fun g=>by kernel_rfl) (fun g=>(fun o w ho=>qM (kd:=.i64) (t:=107) (e:=3) (size:=1) (bytes:=8) kr (x:=(.tmp 20)) (y:=(.tmp 21)) b_1 0 n_3 cap_2 (j-1) ho kr kr (by omega) w))
  ·exact D2.gv_load1 3 (.tmp 22) 1 (fun g=>b_1) (fun g=>0+(j-1)*1) (fun g=>cur_4) 3 (0,0) (fun _ _ _ h=>h) (fun g=>by kernel_rfl) (fun g=>by kernel_rfl) (fun L g hN=>kr) kr (fun L g hN hF=>by exact (hs_6r.atD (by omega) hs_6n))
  ·exact D2.gv_valE (fun _ _ _ h=>h) (V':=.int .i64 (Int.tmod ((List.getD l_5 (j-1) 0:Nat):Int) 256)) (fun g w=>by kernel_rfl) (zd (jV (List.getD l_5 (j-1) 0) 256))
  ·exact D2.gv_valE (fun _ _ _ h=>h) (V':=.int .u8 (IntKind.u8.wrap ((((List.getD l_5 (j-1) 0)%256:Nat):Int)))) (fun g w=>by kernel_rfl) (zd (by rw [hs_6a];exact zkQ A j (by omega) (by omega)))
  ·exact D2.gv_new (fun b=>.slice (some ⟨b,0,none⟩) 2 2) #[.int .u8 (bnI A (32-2*j)),.int .u8 (bnI A (32-2*j+1))] 5 2 (fun g w=>by kernel_rfl) (fun L g b hN=>kr) (fun L g b hN hF=>hF)
  ·exact D2.gv_append 76 5 1 1 (.tmp 13) (.tmp 26) 0 2 (fun g=>b) (fun g=>(g 13).b) (fun g=>n) (fun g=>2) (fun g=>cap) (fun g=>2) (fun g=>cur) (fun g=>#[.int .u8 (bnI A (32-2*j)),.int .u8 (bnI A (32-2*j+1))]) 5 (0,0) (fun g=>(List.map (Value.int .u8) (List.take (32-2*j) (bn A)))) (fun g=>[.int .u8 (bnI A (32-2*j)),.int .u8 (bnI A (32-2*j+1))]) (fun g=>by kernel_rfl) kr (fun g=>by kernel_rfl) (fun L g hN=>(by have hL14:L 14=false:=hN.1;exact D2.ent_get' (p:=true) (e:=(bif L 14 then ((g 14).b,Obj.cells ((g 14).cur) 5 (0,0)) else (b,Obj.cells cur 5 (0,0)))) kr (by rfl) (by simp only [hL14,cond_true,cond_false]<;>rfl))) (fun L g hN hF=>by exact hr) (fun g=>by kernel_rfl) (fun L g hN=>(by have hL13:L 13=true:=(hN.bef 13 kr);exact D2.ent_get' (p:=L 13) (e:=((g 13).b,Obj.cells #[.int .u8 (bnI A (32-2*j)),.int .u8 (bnI A (32-2*j+1))] 5 (0,0))) kr (by exact hL13) (by simp only [hL13,cond_true,cond_false]<;>rfl))) (fun L g hN hF=>by exact ⟨(by rfl),(by rfl),(by intro u hu;simp at hu;first | exact hu.elim | (rcases hu with rfl | rfl | rfl | rfl<;>rfl) | (rcases hu with rfl | rfl<;>rfl) | (subst hu;rfl)),(by omega),(by unfold maxLen;omega)⟩) (fun L g y hN=>kr) (fun L g y hN hF hyn hyr=>by have hnew:=(show (y.n=n+2∧Rw 1 y.cur y.cap (n+2) (List.map (Value.int .u8) (List.take (32-2*j+2) (bn A)))) from ⟨hyn,by rw [zkS A _ (by omega)];exact hyr⟩);exact ⟨fun _=>hnew,(fun hx=>nomatch (Eq.trans (Eq.symm (show L 15=true from hx)) (hN.post 15 kr))),trivial⟩)
  ·exact D2.gv_valG (fun g=>g 14) (fun L g w hN hp=>⟨hp.1,hp.2.1,fun _=>rfl,trivial⟩) (fun g w=>by kernel_rfl)
  intro L0 G10 w10 hall HL;clear HL6;have H10:St w.heap.size w w10 [((G10 14).b,Obj.cells ((G10 14).cur) 5 (0,0)),(b_1,Obj.cells cur_4 3 (0,0)),((G10 13).b,Obj.cells #[.int .u8 (bnI A (32-2*j)),.int .u8 (bnI A (32-2*j+1))] 5 (0,0))]:=by have e13:=hall 13 (Nat.le_of_ble_eq_true kr);have e14:=hall 14 (Nat.le_of_ble_eq_true kr);have e15:=hall 15 (Nat.le_of_ble_eq_true kr);have hS:=D2.StE.st HL.1;simp only [e13,e14,e15,cond_true,D2.pres] at hS;exact hS
  have hf14_10:((G10 14).n=n+2∧Rw 1 (G10 14).cur (G10 14).cap (n+2) (List.map (Value.int .u8) (List.take (32-2*j+2) (bn A)))):=HL.2.1 (hall 14 (Nat.le_of_ble_eq_true kr));have hf15_10:G10 15=G10 14:=HL.2.2.1 (hall 15 (Nat.le_of_ble_eq_true kr));clear HL hall;rw [←hf15_10] at H10 hf14_10;refine wW<|zx [0,1,2,3,4,5,10] fun ρ1=>rL [.v,.E (.int .i64 (IntKind.i64.wrap (((j-1:Nat):Int)-1))) (.int .i64 (((j-1:Nat):Int)-1)) (zd (wrap_i64 (by omega) (by omega))),.v] H10 kr fun gs11 w11 H11=>?_;clear H10;have HL7:St w.heap.size w w11 [((G10 15).b,Obj.cells ((G10 15).cur) 5 (0,0)),(b_1,Obj.cells cur_4 3 (0,0)),((G10 13).b,Obj.cells #[.int .u8 (bnI A (32-2*j)),.int .u8 (bnI A (32-2*j+1))] 5 (0,0))]:=H11.as kr;clear H11;have HD8:St w.heap.size w w11 [((G10 15).b,Obj.cells ((G10 15).cur) 5 (0,0)),(b_1,Obj.cells cur_4 3 (0,0))]:=HL7.sub (List.Sublist.cons_cons _ (List.Sublist.cons_cons _ (List.Sublist.cons _ List.Sublist.slnil)));show ∃m,_∧_;exact ⟨_,(by omega),(G10 15).b,(G10 15).cap,(G10 15).n,(G10 15).cur,(j-1),rfl,(by have h9:=hf14_10.1;omega),(by have h9:=hf14_10;rw [show 32-2*(j-1)=32-2*j+2 by omega,h9.1];exact h9.2),(by omega),HD8,(Is.of ⟨kr,kr,kr,kr,kr,kr,trivial⟩)⟩
 ·refine rp [.E (.bool (decide (0≤(j:Int)-1))) (.bool false) (za (decide_eq_false (by omega)))] H8 kr fun gs12 w12 H12=>wX [] ?_;clear H8;refine zc<|zi kr kr<|zN 0 kr<|wW ?_;obtain rfl:j=0:=by omega
  refine zg [0,1,2] kr kr<|rp [.v] H12 kr fun gs13 w13 H13=>wX [1,2] ?_;clear H12;refine zdb H13 (some 29) 76 9 5 (.tmp 28) 0 b n cap cur 5 (0,0) (bn A) kr kr kr kr kr kr kr hr<|rp [.v] H13 kr fun gs14 w14 H14=>wX [] ?_;clear H13;refine zc<|zl kr<|wV ?_;refine ⟨[.string (strOfNums (bn A))],(.tmp (.string (strOfNums (bn A))) kr .nil),?_,H14.below⟩;rfl
theorem zaw (s:ByteArray)(hs:ByteArray.size s≤32):Fn Tryz.prog 63 #[.string s] (uv (sv (tl s))):=by
 refine Fn.intro (c:=zk Tryz.f63) [.cell 2 48] 23 Tryz.func63 kr kr kr fun w=>?_;have H0:=St.start w;refine rS [.a] H0 kr fun gs1 w1 H1=>?_;clear H0;refine rS [.nw (fun b=>.slice (some ⟨b,0,none⟩) 0 0) #[] 3,.v] H1 kr fun gs2 w2 H2=>?_;clear H1;refine zb kr<|rS [.v] H2 kr fun gs3 w3 H3=>?_;clear H2;refine zn 0 kr ?_;have HL1:St w.heap.size w w3 [((gs1 0).b,Obj.cells #[wZ,wZ,wZ,wZ] 48 (0,0)),((gs2 0).b,Obj.cells #[] 3 (0,0))]:=H3.as kr;clear H3;refine zV kr (fun mz ρ ww=> ∃(b:Nat) (cap:Nat) (n:Nat) (cur:Array Value) (l:List Nat) (k:Nat),ByteArray.size s+1-k=mz∧(n=List.length l)∧(Rw 1 cur cap n (zS l))∧(Ok l)∧(vl l=sv (List.take k (tl s)))∧(n≤3*k)∧(k≤ByteArray.size s)∧St w.heap.size w ww [((gs1 0).b,Obj.cells #[wZ,wZ,wZ,wZ] 48 (0,0)),(b,Obj.cells cur 3 (0,0))]∧Is [(0,.string s),(2,.pointer (some ⟨(gs1 0).b,0,none⟩)),(3,.slice (some ⟨b,0,none⟩) n cap),(4,.int .i64 (k:Int))] ρ) (ByteArray.size s+1-0) ⟨(gs2 0).b,0,0,#[],[],0,rfl,rfl,(Rw.lit #[] 0 rfl (by unfold maxLen;omega)),(by intro d hd;cases hd),rfl,(by omega),(by omega),HL1,(Is.of ⟨kr,kr,kr,kr,trivial⟩)⟩ ?_;clear HL1;rintro _ _ w4 ⟨b,cap,n,cur,l,k,rfl,hn,hr,hok,hv,hl,hk,H4,_,rfl⟩;have hby:=qg s k;have h256:vl [256]=256:=rfl;have hl256:List.length [256]=1:=rfl;have hlb:List.length [by_ s k]=1:=rfl;have hvb:vl [by_ s k]=by_ s k:=by simp [vl]
 refine zb kr<|zg [0,1,2,3] kr kr<|rp [.v,.v,.v] H4 kr fun gs5 w5 H5=>wX [3] ?_;clear H4;by_cases hc2:(k:Nat)<ByteArray.size s
 ·refine rp [.E (.bool (decide ((k:Int)<(ByteArray.size s:Int)))) (.bool true) (za (decide_eq_true (by omega)))] H5 kr fun gs6 w6 H6=>wX [] ?_;clear H5;refine zc<|zf kr kr<|zj kr<|wW<|zb kr<|zn 1 kr ?_;have HL3:St w.heap.size w w6 [((gs1 0).b,Obj.cells #[wZ,wZ,wZ,wZ] 48 (0,0)),(b,Obj.cells cur 3 (0,0))]:=H6.as kr;clear H6;refine D2.g_draw0 [0,1,2,3,4,5,6,7,8,9] [((some 12),fun _=>.slice (some ⟨b,0,none⟩) n cap),((some 13),fun b=>.slice (some ⟨b.b,0,none⟩) 1 1),((some 14),fun x=>.slice (some ⟨x.b,0,none⟩) x.n x.cap),((some 15),fun _=>.string s),((some 16),fun _=>.int .i64 (k:Int)),((some 17),fun _=>.int .u8 ((by_ s k:Nat):Int)),((some 18),fun _=>.int .i64 ((by_ s k:Nat):Int)),((some 19),fun b=>.slice (some ⟨b.b,0,none⟩) 1 1),((some 20),fun x=>.slice (some ⟨x.b,0,none⟩) x.n x.cap),((some 3),fun y=>.slice (some ⟨y.b,0,none⟩) (y.n) (y.cap))] (D2.Pre w.heap.size w (fun L g=>[(true,((gs1 0).b,Obj.cells #[wZ,wZ,wZ,wZ] 48 (0,0))),(true,(b,Obj.cells cur 3 (0,0))),(L 1,((g 1).b,Obj.cells #[.int .i64 256] 3 (0,0))),(L 2,((g 2).b,Obj.cells ((g 2).cur) 3 (0,0))),(L 7,((g 7).b,Obj.cells #[.int .i64 ((by_ s k:Nat):Int)] 3 (0,0))),(L 8,((g 8).b,Obj.cells ((g 8).cur) 3 (0,0)))]) (fun L g=>(L 2=true→((g 2).n=List.length ((g 2).l)∧Rw 1 (g 2).cur (g 2).cap (g 2).n (zS ((g 2).l))∧Ok ((g 2).l)∧(vl ((g 2).l)=vl l*vl ([256])∧List.length ((g 2).l)=List.length l+List.length ([256])+1)))∧(L 8=true→((g 8).n=List.length ((g 8).l)∧Rw 1 (g 8).cur (g 8).cap (g 8).n (zS ((g 8).l))∧Ok ((g 8).l)∧(vl ((g 8).l)=vl ((g 2).l)+vl ([by_ s k])∧List.length ((g 8).l)≤max (List.length ((g 2).l)) (List.length ([by_ s k]))+1∧max (List.length ((g 2).l)) (List.length ([by_ s k]))≤List.length ((g 8).l))))∧(L 9=true→g 9=g 8)∧True)) kr kr kr ⟨D2.StE.of HL3.drew _ kr,⟨(fun h=>nomatch h),(fun h=>nomatch h),(fun h=>nomatch h),trivial⟩⟩ ⟨?_,?_,?_,?_,?_,?_,?_,?_,?_,?_,trivial⟩ ?_
  ·exact D2.gv_val (fun _ _ _ h=>h) (fun g w=>by kernel_rfl)
  ·exact D2.gv_new (fun b=>.slice (some ⟨b,0,none⟩) 1 1) #[.int .i64 256] 3 2 (fun g w=>by kernel_rfl) (fun L g b hN=>kr) (fun L g b hN hF=>hF)
  ·exact D2.gv_callS 98 (fun g=>#[.slice (some ⟨b,0,none⟩) n cap,.slice (some ⟨(g 1).b,0,none⟩) 1 1]) (fun g=>fun w=>w.heap[b]? =some (.cells cur 3 (0,0))∧w.heap[(g 1).b]? =some (.cells #[.int .i64 256] 3 (0,0))) 3 1 (fun g curZ capZ nZ lZ=>(nZ=List.length lZ∧Rw 1 curZ capZ nZ (zS lZ)∧Ok lZ∧(vl lZ=vl l*vl ([256])∧List.length lZ=List.length l+List.length ([256])+1))) 3 (fun L g hN hF=>by exact zj0 l ([256]) b n cap ((g 1).b) 1 1 cur #[.int .i64 256] hn rfl hr (Rw.lit #[.int .i64 256] 1 (by rfl) (by unfold maxLen;omega)) hok (by intro d hd;simp at hd;omega) (by omega) (by simp)) (fun L g w hN hE hF=>by exact ⟨(hE.get 1 kr),(hE.get 2 (by have hL1:L 1=true:=(hN.bef 1 kr);exact D2.ent_get' (p:=L 1) (e:=((g 1).b,Obj.cells #[.int .i64 256] 3 (0,0))) kr (by exact hL1) (by simp only [hL1,cond_true,cond_false]<;>rfl)))⟩) (fun g w=>by kernel_rfl) (fun L g x hN=>kr) (fun L g x hN hF hS=>⟨fun _=>hS,(fun hx=>nomatch (Eq.trans (Eq.symm (show L 8=true from hx)) (hN.post 8 kr))),hF.2.2.1,trivial⟩)
  ·exact D2.gv_val (fun _ _ _ h=>h) (fun g w=>by kernel_rfl)
  ·exact D2.gv_val (fun _ _ _ h=>h) (fun g w=>by kernel_rfl)
  ·exact D2.gv_op (fun _ _ _ h=>h) _ (fun g=>by kernel_rfl) (fun g=>(fun o w ho=>zO (t:=9) (kd:=.i64) kr (x:=(.tmp 15)) (y:=(.tmp 16)) s k ho kr kr (by omega) w))
  ·exact D2.gv_valE (fun _ _ _ h=>h) (V':=.int .i64 (IntKind.i64.wrap (((by_ s k:Nat):Int)))) (fun g w=>by kernel_rfl) (zd (qC (a:=by_ s k) (by omega)))
  ·exact D2.gv_new (fun b=>.slice (some ⟨b,0,none⟩) 1 1) #[.int .i64 ((by_ s k:Nat):Int)] 3 4 (fun g w=>by kernel_rfl) (fun L g b hN=>kr) (fun L g b hN hF=>hF)
  ·exact D2.gv_callS 80 (fun g=>#[.slice (some ⟨(g 2).b,0,none⟩) ((g 2).n) ((g 2).cap),.slice (some ⟨(g 7).b,0,none⟩) 1 1]) (fun g=>fun w=>w.heap[(g 2).b]? =some (.cells (g 2).cur 3 (0,0))∧w.heap[(g 7).b]? =some (.cells #[.int .i64 ((by_ s k:Nat):Int)] 3 (0,0))) 3 1 (fun g curZ capZ nZ lZ=>(nZ=List.length lZ∧Rw 1 curZ capZ nZ (zS lZ)∧Ok lZ∧(vl lZ=vl ((g 2).l)+vl ([by_ s k])∧List.length lZ≤max (List.length ((g 2).l)) (List.length ([by_ s k]))+1∧max (List.length ((g 2).l)) (List.length ([by_ s k]))≤List.length lZ))) 5 (fun L g hN hF=>by have hf2:=(hF.1 (hN.bef 2 kr));exact zeZ ((g 2).l) ([by_ s k]) ((g 2).b) ((g 2).n) ((g 2).cap) ((g 7).b) 1 1 ((g 2).cur) #[.int .i64 ((by_ s k:Nat):Int)] hf2.1 rfl hf2.2.1 (Rw.lit #[.int .i64 ((by_ s k:Nat):Int)] 1 (by rfl) (by unfold maxLen;omega)) hf2.2.2.1 (by intro d hd;simp at hd;omega) (by have:=hf2.2.2.2;omega) (by simp)) (fun L g w hN hE hF=>by have hf2:=(hF.1 (hN.bef 2 kr));exact ⟨(hE.get 3 (by have hL2:L 2=true:=(hN.bef 2 kr);exact D2.ent_get' (p:=L 2) (e:=((g 2).b,Obj.cells ((g 2).cur) 3 (0,0))) kr (by exact hL2) (by simp only [hL2,cond_true,cond_false]<;>rfl))),(hE.get 4 (by have hL7:L 7=true:=(hN.bef 7 kr);exact D2.ent_get' (p:=L 7) (e:=((g 7).b,Obj.cells #[.int .i64 ((by_ s k:Nat):Int)] 3 (0,0))) kr (by exact hL7) (by simp only [hL7,cond_true,cond_false]<;>rfl)))⟩) (fun g w=>by kernel_rfl) (fun L g x hN=>kr) (fun L g x hN hF hS=>⟨hF.1,fun _=>hS,(fun hx=>nomatch (Eq.trans (Eq.symm (show L 9=true from hx)) (hN.post 9 kr))),trivial⟩)
  ·exact D2.gv_valG (fun g=>g 8) (fun L g w hN hp=>⟨hp.1,hp.2.1,hp.2.2.1,fun _=>rfl,trivial⟩) (fun g w=>by kernel_rfl)
  intro L0 G7 w7 hall HL;clear HL3;have H7:St w.heap.size w w7 [((gs1 0).b,Obj.cells #[wZ,wZ,wZ,wZ] 48 (0,0)),(b,Obj.cells cur 3 (0,0)),((G7 1).b,Obj.cells #[.int .i64 256] 3 (0,0)),((G7 2).b,Obj.cells ((G7 2).cur) 3 (0,0)),((G7 7).b,Obj.cells #[.int .i64 ((by_ s k:Nat):Int)] 3 (0,0)),((G7 8).b,Obj.cells ((G7 8).cur) 3 (0,0))]:=by have e1:=hall 1 (Nat.le_of_ble_eq_true kr);have e2:=hall 2 (Nat.le_of_ble_eq_true kr);have e7:=hall 7 (Nat.le_of_ble_eq_true kr);have e8:=hall 8 (Nat.le_of_ble_eq_true kr);have e9:=hall 9 (Nat.le_of_ble_eq_true kr);have hS:=D2.StE.st HL.1;simp only [e1,e2,e7,e8,e9,cond_true,D2.pres] at hS;exact hS
  have hf2_7:((G7 2).n=List.length ((G7 2).l)∧Rw 1 (G7 2).cur (G7 2).cap (G7 2).n (zS ((G7 2).l))∧Ok ((G7 2).l)∧(vl ((G7 2).l)=vl l*vl ([256])∧List.length ((G7 2).l)=List.length l+List.length ([256])+1)):=HL.2.1 (hall 2 (Nat.le_of_ble_eq_true kr));have hf8_7:((G7 8).n=List.length ((G7 8).l)∧Rw 1 (G7 8).cur (G7 8).cap (G7 8).n (zS ((G7 8).l))∧Ok ((G7 8).l)∧(vl ((G7 8).l)=vl ((G7 2).l)+vl ([by_ s k])∧List.length ((G7 8).l)≤max (List.length ((G7 2).l)) (List.length ([by_ s k]))+1∧max (List.length ((G7 2).l)) (List.length ([by_ s k]))≤List.length ((G7 8).l))):=HL.2.2.1 (hall 8 (Nat.le_of_ble_eq_true kr));have hf9_7:G7 9=G7 8:=HL.2.2.2.1 (hall 9 (Nat.le_of_ble_eq_true kr));clear HL hall;rw [←hf9_7] at H7 hf8_7;refine wW<|rL [.v,.E (.int .i64 (IntKind.i64.wrap ((k:Int)+1))) (.int .i64 ((k+1:Nat):Int)) (zd (zs (a:=k) (b:=1) (by omega))),.v] H7 kr fun gs8 w8 H8=>?_;clear H7;have HL4:St w.heap.size w w8 [((gs1 0).b,Obj.cells #[wZ,wZ,wZ,wZ] 48 (0,0)),(b,Obj.cells cur 3 (0,0)),((G7 1).b,Obj.cells #[.int .i64 256] 3 (0,0)),((G7 2).b,Obj.cells ((G7 2).cur) 3 (0,0)),((G7 7).b,Obj.cells #[.int .i64 ((by_ s k:Nat):Int)] 3 (0,0)),((G7 9).b,Obj.cells ((G7 9).cur) 3 (0,0))]:=H8.as kr;clear H8;have hst:=zki s k (by omega);have HD5:St w.heap.size w w8 [((gs1 0).b,Obj.cells #[wZ,wZ,wZ,wZ] 48 (0,0)),((G7 9).b,Obj.cells ((G7 9).cur) 3 (0,0))]:=HL4.sub (List.Sublist.cons_cons _ (List.Sublist.cons _ (List.Sublist.cons _ (List.Sublist.cons _ (List.Sublist.cons _ (List.Sublist.cons_cons _ List.Sublist.slnil))))));show ∃m,_∧_;exact ⟨_,(by omega),(G7 9).b,(G7 9).cap,(G7 9).n,(G7 9).cur,(G7 9).l,k+1,rfl,hf8_7.1,hf8_7.2.1,hf8_7.2.2.1,(by have e8:=hf8_7.2.2.2;have e2:=hf2_7.2.2.2;rw [hst,e8.1,e2.1,hvb,h256,hv];omega),(by have e8:=hf8_7.2.2.2;have e2:=hf2_7.2.2.2;have e0:=hf8_7.1;omega),(by omega),HD5,(Is.of ⟨kr,kr,kr,kr,trivial⟩)⟩
 ·refine rp [.E (.bool (decide ((k:Int)<(ByteArray.size s:Int)))) (.bool false) (za (decide_eq_false (by omega)))] H5 kr fun gs9 w9 H9=>wX [] ?_;clear H5;refine zc<|zi kr kr<|zN 0 kr<|wW<|zg [0,1,2] kr kr<|rp [.v] H9 kr fun gs10 w10 H10=>wX [1,2] ?_;clear H9;refine yJ H10 (some 22) 99 #[.slice (some ⟨b,0,none⟩) n cap] (fun w=>w.heap[b]? =some (.cells cur 3 (0,0))) (uv (sv (tl s))) (by have hnum:=zj1 l b n cap cur hn hr (by omega) hok;have heq:(vl l%big)=(sv (tl s)):=(by rw [hv,show k=ByteArray.size s by omega,List.take_of_length_le (Nat.le_of_eq (zt s)),Nat.mod_eq_of_lt (jD s hs)]);rw [heq] at hnum;exact hnum) (H10.get 1 kr) (fun w=>by kernel_rfl) kr ?_;intro w11 H11;clear H10;refine rp [.s 0] H11 kr fun gs12 w12 H12=>wX [] ?_;clear H11;refine zc<|zl kr<|wV ?_;refine ⟨[uv (sv (tl s))],(.agg (b:=(gs1 0).b) (Value.cells (uv (sv (tl s)))) 48 (0,0) kr (H12.get 0 kr) kr .nil),?_,H12.below⟩;rfl
theorem zkT (r s:Nat)(hr:r<big)(hs:s<big)(v:Int)(hm:ya r s v=false):Fn Tryz.prog 48 #[sgv r s (v)] (.tuple #[.string ⟨#[]⟩,.int .i64 1]):=by
 refine Fn.intro (c:=zk Tryz.f48) [.tmp 2,.tmp 3] 20 Tryz.func48 kr kr kr fun w=>?_;have H0:=St.start w;refine rS [.b,.v,.v] H0 kr fun gs1 w1 H1=>?_;clear H0;refine zb kr<|zg [0,1,2] kr kr<|rp [.l 0,.c (zas r s hr hs (v))] H1 kr fun gs2 w2 H2=>wX [2] ?_;clear H1;refine zz 5 (v:=.bool (ya r s (v))) (v':=.bool false) (za hm) kr<|rp [.v] H2 kr fun gs3 w3 H3=>wX [] ?_;clear H2;refine zc<|zf kr kr<|rS [.v,.v] H3 kr fun gs4 w4 H4=>?_;clear H3;refine zl kr<|wV ?_;refine ⟨[.string (⟨#[]⟩),.int .i64 1],(.tmp (.string (⟨#[]⟩)) kr (.tmp (.int .i64 1) kr .nil)),?_,H4.below⟩;rfl
theorem zfd (r s:Nat)(hr:r<big)(hs:s<big)(v:Int)(hm:ya r s v=true):Fn Tryz.prog 48 #[sgv r s (v)] (.tuple #[.string (sbs r s v),.int .i64 0]):=by
 refine Fn.intro (c:=zk Tryz.f48) [.tmp 2,.tmp 3] 20 Tryz.func48 kr kr kr fun w=>?_;have H0:=St.start w;refine rS [.b,.v,.v] H0 kr fun gs1 w1 H1=>?_;clear H0;refine zb kr<|zg [0,1,2] kr kr<|rp [.l 0,.c (zas r s hr hs (v))] H1 kr fun gs2 w2 H2=>wX [2] ?_;clear H1;refine zz 5 (v:=.bool (ya r s (v))) (v':=.bool true) (za hm) kr<|rp [.v] H2 kr fun gs3 w3 H3=>wX [] ?_;clear H2;refine zc<|zi kr kr<|zj kr<|wW<|dSg (fun gs4=>[.v,.l 0,.c (f:=76) (args:=#[uv r]) (v:=.string (bs r)) (ze7 r hr),.v,.l 0,.c (f:=76) (args:=#[uv s]) (v:=.string (bs s)) (ze7 s hs),.o (ins:=[((.tmp 9),.string (bs r)),((.tmp 12),.string (bs s))]) (v:=.string ((bs r)++(bs s))) (fun ρ o w ho hi=>ji (t:=9) (t':=9) (x:=(.tmp 9)) (y:=(.tmp 12)) (bs r) (bs s) w ho hi.1 hi.2.1 (by rw [qG,qG];omega)),.v,.l 0,.v,.nw (fun b=>.slice (some ⟨b,0,none⟩) 1 1) #[.int .u8 (IntKind.u8.wrap v)] 5,.x (ins:=[((.tmp 17),.slice (some ⟨(gs4 10).b,0,none⟩) 1 1)]) [(1,((gs4 10).b,Obj.cells #[.int .u8 (IntKind.u8.wrap v)] 5 (0,0)))] (jG (t:=76) (t':=9) (e:=5) [(IntKind.u8.wrap v)] kr kr kr (Rw.lit #[.int .u8 (IntKind.u8.wrap v)] 1 (by rfl) (by unfold maxLen;omega))),.o (ins:=[((.tmp 13),.string ((bs r)++(bs s))),((.tmp 18),.string (strOfNums ([(IntKind.u8.wrap v)])))]) (v:=.string (((bs r)++(bs s))++(strOfNums ([(IntKind.u8.wrap v)])))) (fun ρ o w ho hi=>ji (t:=9) (t':=9) (x:=(.tmp 13)) (y:=(.tmp 18)) ((bs r)++(bs s)) (strOfNums ([(IntKind.u8.wrap v)])) w ho hi.1 hi.2.1 (by rw [zar,qG,qG];show 32+32+1≤_;omega)),.v,.v]) H3 kr fun gs4 w4 H4=>?_;clear H3;refine zl kr<|wV ?_;refine ⟨[.string (((bs r)++(bs s))++(strOfNums ([(IntKind.u8.wrap v)]))),.int .i64 0],(.tmp (.string (((bs r)++(bs s))++(strOfNums ([(IntKind.u8.wrap v)])))) kr (.tmp (.int .i64 0) kr .nil)),?_,H4.below⟩;rfl
theorem zkU (r s:Nat)(hr:r<big)(hs:s<big)(v:Int):Fn Tryz.prog 32 #[sgv r s (v)] (.string (sbs r s v)):=by
 refine Fn.intro (c:=zk Tryz.f32) [.tmp 2] 16 Tryz.func32 kr kr kr fun w=>?_;have H0:=St.start w;refine rS [.b,.v] H0 kr fun gs1 w1 H1=>?_;clear H0;refine dSg (fun gs2=>[.v,.l 0,.c (zfc r hr),.v,.l 0,.c (zfc s hs),.o (ins:=[((.tmp 5),.string (bs r)),((.tmp 8),.string (bs s))]) (v:=.string ((bs r)++(bs s))) (fun ρ o w ho hi=>ji (t:=9) (t':=9) (x:=(.tmp 5)) (y:=(.tmp 8)) (bs r) (bs s) w ho hi.1 hi.2.1 (by rw [qG,qG];omega)),.v,.l 0,.v,.nw (fun b=>.slice (some ⟨b,0,none⟩) 1 1) #[.int .u8 (IntKind.u8.wrap v)] 5,.x (ins:=[((.tmp 13),.slice (some ⟨(gs2 10).b,0,none⟩) 1 1)]) [(1,((gs2 10).b,Obj.cells #[.int .u8 (IntKind.u8.wrap v)] 5 (0,0)))] (jG (t:=76) (t':=9) (e:=5) [(IntKind.u8.wrap v)] kr kr kr (Rw.lit #[.int .u8 (IntKind.u8.wrap v)] 1 (by rfl) (by unfold maxLen;omega))),.o (ins:=[((.tmp 9),.string ((bs r)++(bs s))),((.tmp 14),.string (strOfNums ([(IntKind.u8.wrap v)])))]) (v:=.string (((bs r)++(bs s))++(strOfNums ([(IntKind.u8.wrap v)])))) (fun ρ o w ho hi=>ji (t:=9) (t':=9) (x:=(.tmp 9)) (y:=(.tmp 14)) ((bs r)++(bs s)) (strOfNums ([(IntKind.u8.wrap v)])) w ho hi.1 hi.2.1 (by rw [zar,qG,qG];show 32+32+1≤_;omega)),.v]) H1 kr fun gs2 w2 H2=>?_;clear H1;refine zl kr<|wV ?_;refine ⟨[.string (((bs r)++(bs s))++(strOfNums ([(IntKind.u8.wrap v)])))],(.tmp (.string (((bs r)++(bs s))++(strOfNums ([(IntKind.u8.wrap v)])))) kr .nil),?_,H2.below⟩;rfl
theorem xK (t:ByteArray)(h:ByteArray.size t=65):ByteArray.size (ByteArray.extract t 0 32)≤32:=by rw [←zt,yO,List.length_drop,List.length_take,zt,h];decide
theorem xL (t:ByteArray)(h:ByteArray.size t=65):ByteArray.size (ByteArray.extract t 32 64)≤32:=by rw [←zt,yO,List.length_drop,List.length_take,zt,h];decide
theorem zkV (t:ByteArray)(ht:ByteArray.size t≤0x7fffffffffffffff)(hsz:ByteArray.size t≠65):Fn Tryz.prog 60 #[.string t] (.tuple #[sgv 0 0 0,.int .i64 4]):=by
 refine Fn.intro (c:=zk Tryz.f60) [.cell 2 50,.tmp 3] 32 Tryz.func60 kr kr kr fun w=>?_;have H0:=St.start w;refine rS [.a,.v] H0 kr fun gs1 w1 H1=>?_;clear H0;refine zb kr<|rS [.v,.v,.E (.bool (!((ByteArray.size t:Int)==65))) (.bool true) (za (by rw [beq_eq_false_iff_ne.2 (by omega)];rfl))] H1 kr fun gs2 w2 H2=>?_;clear H1;refine zf kr kr<|rS [.v,.s 0,.v] H2 kr fun gs3 w3 H3=>?_;clear H2;refine zl kr<|wV ?_;refine ⟨[sgv 0 0 (0),.int .i64 4],(.agg (b:=(gs1 0).b) (Value.cells (sgv 0 0 (0))) 50 (0,0) kr (H3.get 0 kr) kr (.tmp (.int .i64 4) kr .nil)),?_,H3.below⟩
 kernel_rfl
theorem zkW (t:ByteArray)(ht:ByteArray.size t≤0x7fffffffffffffff)(hsz:ByteArray.size t=65)(hm:ya (sv (tl (ByteArray.extract t 0 32))) (sv (tl (ByteArray.extract t 32 64))) (((by_ t 64:Nat)):Int)=true):Fn Tryz.prog 60 #[.string t] (.tuple #[sgv (sv (tl (ByteArray.extract t 0 32))) (sv (tl (ByteArray.extract t 32 64))) (((by_ t 64:Nat)):Int),.int .i64 0]):=by
 have hbl:=qg t 64;refine Fn.intro (c:=zk Tryz.f60) [.cell 2 50,.tmp 3] 32 Tryz.func60 kr kr kr fun w=>?_;have H0:=St.start w;refine rS [.a,.v] H0 kr fun gs1 w1 H1=>?_;clear H0;refine zb kr<|rS [.v,.v,.E (.bool (!((ByteArray.size t:Int)==65))) (.bool false) (za (by rw [beq_iff_eq.2 (by omega)];rfl))] H1 kr fun gs2 w2 H2=>?_;clear H1;refine zi kr kr<|zj kr<|wW<|rS [.v,.o (ins:=[((.tmp 9),.string t),((.const (.int .i64 64)),.int .i64 64)]) (v:=.int .u8 ((by_ t 64:Nat):Int)) (fun ρ o w ho hi=>zO (t:=9) (kd:=.i64) kr (x:=(.tmp 9)) (y:=(.const (.int .i64 64))) t 64 ho hi.1 hi.2.1 (by omega) w),.E (.int .i64 (IntKind.i64.wrap (((by_ t 64:Nat):Int)))) (.int .i64 ((by_ t 64:Nat):Int)) (zd (qC (a:=by_ t 64) (by omega))),.v,.a,.s 1] H2 kr fun gs3 w3 H3=>?_;clear H2;refine rS [.v,.o (ins:=[((.tmp 14),.string t),((.const (.int .i64 32)),.int .i64 32)]) (v:=.string (ByteArray.extract t 0 32)) (fun ρ o w ho hi=>jW (t:=9) (kd:=.i64) kr (x:=(.tmp 14)) (y:=(.const (.int .i64 32))) t 32 ho hi.1 hi.2.1 (by omega) w),.c (zav (ByteArray.extract t 0 32) (xK t hsz)),.v,.v,.v,.v,.s 1] H3 kr fun gs4 w4 H4=>?_;clear H3;refine zx [0,2,3,4,7] fun ρ1=>?_;have HK1:=H4.keep;clear H4;refine rS [.v,.o (ins:=[((.tmp 21),.string t),((.const (.int .i64 64)),.int .i64 64),((.const (.int .i64 32)),.int .i64 32)]) (v:=.string (ByteArray.extract t 32 64)) (fun ρ o w ho hi=>xS (t:=9) (kd:=.i64) (kz:=.i64) kr (x:=(.tmp 21)) (y:=(.const (.int .i64 64))) (z:=(.const (.int .i64 32))) t 32 64 ho hi.1 hi.2.1 hi.2.2.1 (by omega) (by omega) w),.c (zav (ByteArray.extract t 32 64) (xL t hsz)),.v,.v,.v,.v,.s 1] HK1 kr fun gs5 w5 H5=>?_;clear HK1;refine zb kr<|zg [0,1,2] kr kr<|rp [.l 1,.c (zas (sv (tl (ByteArray.extract t 0 32))) (sv (tl (ByteArray.extract t 32 64))) (jD (ByteArray.extract t 0 32) (xK t hsz)) (jD (ByteArray.extract t 32 64) (xL t hsz)) (((by_ t 64:Nat):Int)))] H5 kr fun gs6 w6 H6=>wX [2] ?_;clear H5;refine zz 28 (v:=.bool (ya (sv (tl (ByteArray.extract t 0 32))) (sv (tl (ByteArray.extract t 32 64))) (((by_ t 64:Nat):Int)))) (v':=.bool true) (za hm) kr<|rp [.v] H6 kr fun gs7 w7 H7=>wX [] ?_;clear H6;refine zc<|zi kr kr<|zj kr<|wW<|rS [.l 1,.s 0,.v] H7 kr fun gs8 w8 H8=>?_;clear H7;refine zl kr<|wV ?_;refine ⟨[sgv (sv (tl (ByteArray.extract t 0 32))) (sv (tl (ByteArray.extract t 32 64))) (((by_ t 64:Nat):Int)),.int .i64 0],(.agg (b:=(gs1 0).b) (Value.cells (sgv (sv (tl (ByteArray.extract t 0 32))) (sv (tl (ByteArray.extract t 32 64))) (((by_ t 64:Nat):Int)))) 50 (0,0) kr (H8.get 0 kr) kr (.tmp (.int .i64 0) kr .nil)),?_,H8.below⟩
 kernel_rfl
theorem zkX (t:ByteArray)(ht:ByteArray.size t≤0x7fffffffffffffff)(hsz:ByteArray.size t=65)(hm:ya (sv (tl (ByteArray.extract t 0 32))) (sv (tl (ByteArray.extract t 32 64))) (((by_ t 64:Nat)):Int)=false):Fn Tryz.prog 60 #[.string t] (.tuple #[sgv 0 0 0,.int .i64 4]):=by
 have hbl:=qg t 64;refine Fn.intro (c:=zk Tryz.f60) [.cell 2 50,.tmp 3] 32 Tryz.func60 kr kr kr fun w=>?_;have H0:=St.start w;refine rS [.a,.v] H0 kr fun gs1 w1 H1=>?_;clear H0;refine zb kr<|rS [.v,.v,.E (.bool (!((ByteArray.size t:Int)==65))) (.bool false) (za (by rw [beq_iff_eq.2 (by omega)];rfl))] H1 kr fun gs2 w2 H2=>?_;clear H1;refine zi kr kr<|zj kr<|wW<|rS [.v,.o (ins:=[((.tmp 9),.string t),((.const (.int .i64 64)),.int .i64 64)]) (v:=.int .u8 ((by_ t 64:Nat):Int)) (fun ρ o w ho hi=>zO (t:=9) (kd:=.i64) kr (x:=(.tmp 9)) (y:=(.const (.int .i64 64))) t 64 ho hi.1 hi.2.1 (by omega) w),.E (.int .i64 (IntKind.i64.wrap (((by_ t 64:Nat):Int)))) (.int .i64 ((by_ t 64:Nat):Int)) (zd (qC (a:=by_ t 64) (by omega))),.v,.a,.s 1] H2 kr fun gs3 w3 H3=>?_;clear H2;refine rS [.v,.o (ins:=[((.tmp 14),.string t),((.const (.int .i64 32)),.int .i64 32)]) (v:=.string (ByteArray.extract t 0 32)) (fun ρ o w ho hi=>jW (t:=9) (kd:=.i64) kr (x:=(.tmp 14)) (y:=(.const (.int .i64 32))) t 32 ho hi.1 hi.2.1 (by omega) w),.c (zav (ByteArray.extract t 0 32) (xK t hsz)),.v,.v,.v,.v,.s 1] H3 kr fun gs4 w4 H4=>?_;clear H3;refine zx [0,2,3,4,7] fun ρ1=>?_;have HK1:=H4.keep;clear H4;refine rS [.v,.o (ins:=[((.tmp 21),.string t),((.const (.int .i64 64)),.int .i64 64),((.const (.int .i64 32)),.int .i64 32)]) (v:=.string (ByteArray.extract t 32 64)) (fun ρ o w ho hi=>xS (t:=9) (kd:=.i64) (kz:=.i64) kr (x:=(.tmp 21)) (y:=(.const (.int .i64 64))) (z:=(.const (.int .i64 32))) t 32 64 ho hi.1 hi.2.1 hi.2.2.1 (by omega) (by omega) w),.c (zav (ByteArray.extract t 32 64) (xL t hsz)),.v,.v,.v,.v,.s 1] HK1 kr fun gs5 w5 H5=>?_;clear HK1;refine zb kr<|zg [0,1,2] kr kr<|rp [.l 1,.c (zas (sv (tl (ByteArray.extract t 0 32))) (sv (tl (ByteArray.extract t 32 64))) (jD (ByteArray.extract t 0 32) (xK t hsz)) (jD (ByteArray.extract t 32 64) (xL t hsz)) (((by_ t 64:Nat):Int)))] H5 kr fun gs6 w6 H6=>wX [2] ?_;clear H5;refine zz 28 (v:=.bool (ya (sv (tl (ByteArray.extract t 0 32))) (sv (tl (ByteArray.extract t 32 64))) (((by_ t 64:Nat):Int)))) (v':=.bool false) (za hm) kr<|rp [.v] H6 kr fun gs7 w7 H7=>wX [] ?_;clear H6;refine zc<|zf kr kr<|rS [.v,.s 0,.v] H7 kr fun gs8 w8 H8=>?_;clear H7;refine zl kr<|wV ?_;refine ⟨[sgv 0 0 (0),.int .i64 4],(.agg (b:=(gs1 0).b) (Value.cells (sgv 0 0 (0))) 50 (0,0) kr (H8.get 0 kr) kr (.tmp (.int .i64 4) kr .nil)),?_,H8.below⟩
 kernel_rfl
def xZ:ByteArray→Value:=fun t=>if ByteArray.size t≠65 then .tuple #[sgv 0 0 0,.int .i64 4] else if ya (sv (tl (ByteArray.extract t 0 32))) (sv (tl (ByteArray.extract t 32 64))) (((by_ t 64:Nat)):Int)=true then .tuple #[sgv (sv (tl (ByteArray.extract t 0 32))) (sv (tl (ByteArray.extract t 32 64))) (((by_ t 64:Nat)):Int),.int .i64 0] else .tuple #[sgv 0 0 0,.int .i64 4]
theorem zkY (t:ByteArray)(ht:ByteArray.size t≤0x7fffffffffffffff):Fn Tryz.prog 60 #[.string t] (xZ t):=by
 unfold xZ;by_cases h:ByteArray.size t≠65
 ·rw [if_pos h];exact zkV t ht h
 ·rw [if_neg h];have h2:ByteArray.size t=65:=by omega
  cases hm:ya (sv (tl (ByteArray.extract t 0 32))) (sv (tl (ByteArray.extract t 32 64))) (((by_ t 64:Nat)):Int)
  ·rw [if_neg (by simp)];exact zkX t ht h2 hm
  ·rw [if_pos rfl];exact zkW t ht h2 hm
theorem zkZ (t:ByteArray)(ht:ByteArray.size t≤0x7fffffffffffffff)(hsz:ByteArray.size t≠65):Fn Tryz.prog 39 #[.string t] (.tuple #[sgv 0 0 0,.int .i64 4]):=by
 refine Fn.intro (c:=zk Tryz.f39) [.cell 2 50,.tmp 3] 24 Tryz.func39 kr kr kr fun w=>?_;have H0:=St.start w;refine rS [.a,.v] H0 kr fun gs1 w1 H1=>?_;clear H0;refine zb kr<|rS [.v,.v,.E (.bool (!((ByteArray.size t:Int)==65))) (.bool true) (za (by rw [beq_eq_false_iff_ne.2 (by omega)];rfl))] H1 kr fun gs2 w2 H2=>?_;clear H1;refine zf kr kr<|rS [.v,.s 0,.v] H2 kr fun gs3 w3 H3=>?_;clear H2;refine zl kr<|wV ?_;refine ⟨[sgv 0 0 (0),.int .i64 4],(.agg (b:=(gs1 0).b) (Value.cells (sgv 0 0 (0))) 50 (0,0) kr (H3.get 0 kr) kr (.tmp (.int .i64 4) kr .nil)),?_,H3.below⟩
 kernel_rfl
theorem zk0 (t:ByteArray)(ht:ByteArray.size t≤0x7fffffffffffffff)(hsz:ByteArray.size t=65)(hm:ya (sv (tl (ByteArray.extract t 0 32))) (sv (tl (ByteArray.extract t 32 64))) (((by_ t 64:Nat)):Int)=true):Fn Tryz.prog 39 #[.string t] (.tuple #[sgv (sv (tl (ByteArray.extract t 0 32))) (sv (tl (ByteArray.extract t 32 64))) (((by_ t 64:Nat)):Int),.int .i64 0]):=by
 have hbl:=qg t 64;refine Fn.intro (c:=zk Tryz.f39) [.cell 2 50,.tmp 3] 24 Tryz.func39 kr kr kr fun w=>?_;have H0:=St.start w;refine rS [.a,.v] H0 kr fun gs1 w1 H1=>?_;clear H0;refine zb kr<|rS [.v,.v,.E (.bool (!((ByteArray.size t:Int)==65))) (.bool false) (za (by rw [beq_iff_eq.2 (by omega)];rfl))] H1 kr fun gs2 w2 H2=>?_;clear H1;refine zi kr kr<|zj kr<|wW<|dSg (fun gs3=>[.v,.o (ins:=[((.tmp 9),.string t),((.const (.int .i64 32)),.int .i64 32)]) (v:=.string (ByteArray.extract t 0 32)) (fun ρ o w ho hi=>jW (t:=9) (kd:=.i64) kr (x:=(.tmp 9)) (y:=(.const (.int .i64 32))) t 32 ho hi.1 hi.2.1 (by omega) w),.c (zaw (ByteArray.extract t 0 32) (xK t hsz)),.v,.o (ins:=[((.tmp 12),.string t),((.const (.int .i64 64)),.int .i64 64),((.const (.int .i64 32)),.int .i64 32)]) (v:=.string (ByteArray.extract t 32 64)) (fun ρ o w ho hi=>xS (t:=9) (kd:=.i64) (kz:=.i64) kr (x:=(.tmp 12)) (y:=(.const (.int .i64 64))) (z:=(.const (.int .i64 32))) t 32 64 ho hi.1 hi.2.1 hi.2.2.1 (by omega) (by omega) w),.c (zaw (ByteArray.extract t 32 64) (xL t hsz)),.v,.o (ins:=[((.tmp 15),.string t),((.const (.int .i64 64)),.int .i64 64)]) (v:=.int .u8 ((by_ t 64:Nat):Int)) (fun ρ o w ho hi=>zO (t:=9) (kd:=.i64) kr (x:=(.tmp 15)) (y:=(.const (.int .i64 64))) t 64 ho hi.1 hi.2.1 (by omega) w),.E (.int .i64 (IntKind.i64.wrap (((by_ t 64:Nat):Int)))) (.int .i64 ((by_ t 64:Nat):Int)) (zd (qC (a:=by_ t 64) (by omega))),.v,.a,.s 1]) H2 kr fun gs3 w3 H3=>?_;clear H2;refine zx [0,2,3,4,7] fun ρ1=>?_;have HK1:=H3.keep;clear H3;refine zb kr<|zg [0,1,2] kr kr<|rp [.l 1,.c (zb4 (sv (tl (ByteArray.extract t 0 32))) (sv (tl (ByteArray.extract t 32 64))) (jD (ByteArray.extract t 0 32) (xK t hsz)) (jD (ByteArray.extract t 32 64) (xL t hsz)) (((by_ t 64:Nat):Int)))] HK1 kr fun gs4 w4 H4=>wX [2] ?_;clear HK1;refine zz 20 (v:=.bool (ya (sv (tl (ByteArray.extract t 0 32))) (sv (tl (ByteArray.extract t 32 64))) (((by_ t 64:Nat):Int)))) (v':=.bool true) (za hm) kr<|rp [.v] H4 kr fun gs5 w5 H5=>wX [] ?_;clear H4;refine zc<|zi kr kr<|zj kr<|wW<|rS [.l 1,.s 0,.v] H5 kr fun gs6 w6 H6=>?_;clear H5;refine zl kr<|wV ?_;refine ⟨[sgv (sv (tl (ByteArray.extract t 0 32))) (sv (tl (ByteArray.extract t 32 64))) (((by_ t 64:Nat):Int)),.int .i64 0],(.agg (b:=(gs1 0).b) (Value.cells (sgv (sv (tl (ByteArray.extract t 0 32))) (sv (tl (ByteArray.extract t 32 64))) (((by_ t 64:Nat):Int)))) 50 (0,0) kr (H6.get 0 kr) kr (.tmp (.int .i64 0) kr .nil)),?_,H6.below⟩
 kernel_rfl
theorem zk1 (t:ByteArray)(ht:ByteArray.size t≤0x7fffffffffffffff)(hsz:ByteArray.size t=65)(hm:ya (sv (tl (ByteArray.extract t 0 32))) (sv (tl (ByteArray.extract t 32 64))) (((by_ t 64:Nat)):Int)=false):Fn Tryz.prog 39 #[.string t] (.tuple #[sgv 0 0 0,.int .i64 4]):=by
 have hbl:=qg t 64;refine Fn.intro (c:=zk Tryz.f39) [.cell 2 50,.tmp 3] 24 Tryz.func39 kr kr kr fun w=>?_;have H0:=St.start w;refine rS [.a,.v] H0 kr fun gs1 w1 H1=>?_;clear H0;refine zb kr<|rS [.v,.v,.E (.bool (!((ByteArray.size t:Int)==65))) (.bool false) (za (by rw [beq_iff_eq.2 (by omega)];rfl))] H1 kr fun gs2 w2 H2=>?_;clear H1;refine zi kr kr<|zj kr<|wW<|dSg (fun gs3=>[.v,.o (ins:=[((.tmp 9),.string t),((.const (.int .i64 32)),.int .i64 32)]) (v:=.string (ByteArray.extract t 0 32)) (fun ρ o w ho hi=>jW (t:=9) (kd:=.i64) kr (x:=(.tmp 9)) (y:=(.const (.int .i64 32))) t 32 ho hi.1 hi.2.1 (by omega) w),.c (zaw (ByteArray.extract t 0 32) (xK t hsz)),.v,.o (ins:=[((.tmp 12),.string t),((.const (.int .i64 64)),.int .i64 64),((.const (.int .i64 32)),.int .i64 32)]) (v:=.string (ByteArray.extract t 32 64)) (fun ρ o w ho hi=>xS (t:=9) (kd:=.i64) (kz:=.i64) kr (x:=(.tmp 12)) (y:=(.const (.int .i64 64))) (z:=(.const (.int .i64 32))) t 32 64 ho hi.1 hi.2.1 hi.2.2.1 (by omega) (by omega) w),.c (zaw (ByteArray.extract t 32 64) (xL t hsz)),.v,.o (ins:=[((.tmp 15),.string t),((.const (.int .i64 64)),.int .i64 64)]) (v:=.int .u8 ((by_ t 64:Nat):Int)) (fun ρ o w ho hi=>zO (t:=9) (kd:=.i64) kr (x:=(.tmp 15)) (y:=(.const (.int .i64 64))) t 64 ho hi.1 hi.2.1 (by omega) w),.E (.int .i64 (IntKind.i64.wrap (((by_ t 64:Nat):Int)))) (.int .i64 ((by_ t 64:Nat):Int)) (zd (qC (a:=by_ t 64) (by omega))),.v,.a,.s 1]) H2 kr fun gs3 w3 H3=>?_;clear H2;refine zx [0,2,3,4,7] fun ρ1=>?_;have HK1:=H3.keep;clear H3;refine zb kr<|zg [0,1,2] kr kr<|rp [.l 1,.c (zb4 (sv (tl (ByteArray.extract t 0 32))) (sv (tl (ByteArray.extract t 32 64))) (jD (ByteArray.extract t 0 32) (xK t hsz)) (jD (ByteArray.extract t 32 64) (xL t hsz)) (((by_ t 64:Nat):Int)))] HK1 kr fun gs4 w4 H4=>wX [2] ?_;clear HK1;refine zz 20 (v:=.bool (ya (sv (tl (ByteArray.extract t 0 32))) (sv (tl (ByteArray.extract t 32 64))) (((by_ t 64:Nat):Int)))) (v':=.bool false) (za hm) kr<|rp [.v] H4 kr fun gs5 w5 H5=>wX [] ?_;clear H4;refine zc<|zf kr kr<|rS [.v,.s 0,.v] H5 kr fun gs6 w6 H6=>?_;clear H5;refine zl kr<|wV ?_;refine ⟨[sgv 0 0 (0),.int .i64 4],(.agg (b:=(gs1 0).b) (Value.cells (sgv 0 0 (0))) 50 (0,0) kr (H6.get 0 kr) kr (.tmp (.int .i64 4) kr .nil)),?_,H6.below⟩
 kernel_rfl
theorem zk2 (t:ByteArray)(ht:ByteArray.size t≤0x7fffffffffffffff):Fn Tryz.prog 39 #[.string t] (xZ t):=by
 unfold xZ;by_cases h:ByteArray.size t≠65
 ·rw [if_pos h];exact zkZ t ht h
 ·rw [if_neg h];have h2:ByteArray.size t=65:=by omega
  cases hm:ya (sv (tl (ByteArray.extract t 0 32))) (sv (tl (ByteArray.extract t 32 64))) (((by_ t 64:Nat)):Int)
  ·rw [if_neg (by simp)];exact zk1 t ht h2 hm
  ·rw [if_pos rfl];exact zk0 t ht h2 hm
end Go.Proofs.YtbpmjppmpgeejaaGreatDoor
namespace Go.Proofs.YtbpmjppmpgeejaaGreatDoor
open Go.RowKit
theorem zk3 (x:Int)(_h0:0≤x)(h1:x<256):(UInt8.ofNat x.toNat).toNat=x.toNat:=by
 simp;omega
theorem zax (x:Int)(n:Nat)(hx:Wd x):
 256*(256*(256*(256*(256*(256*(256*(256*n+(x / 72057594037927936%256).toNat)+(x / 281474976710656%256).toNat)+(x / 1099511627776%256).toNat)+(x / 4294967296%256).toNat)+(x / 16777216%256).toNat)+(x / 65536%256).toNat)+(x / 256%256).toNat)+(x%256).toNat=0x10000000000000000*n+x.toNat:=by
 obtain ⟨hx0,hx1⟩:=hx;obtain ⟨y,rfl⟩:=Int.eq_ofNat_of_zero_le hx0;have hy:y<0x10000000000000000:=by omega
 have c0:((y:Int)%256).toNat=y%256:=by omega
 have c1:((y:Int) / 256%256).toNat=y / 256%256:=by omega
 have c2:((y:Int) / 65536%256).toNat=y / 65536%256:=by omega
 have c3:((y:Int) / 16777216%256).toNat=y / 16777216%256:=by omega
 have c4:((y:Int) / 4294967296%256).toNat=y / 4294967296%256:=by omega
 have c5:((y:Int) / 1099511627776%256).toNat=y / 1099511627776%256:=by omega
 have c6:((y:Int) / 281474976710656%256).toNat=y / 281474976710656%256:=by omega
 have c7:((y:Int) / 72057594037927936%256).toNat=y / 72057594037927936%256:=by omega
 rw [Int.toNat_natCast,c7,c6,c5,c4,c3,c2,c1,c0];clear c0 c1 c2 c3 c4 c5 c6 c7 hx0 hx1;have s0:y=256*(y / 256)+y%256:=by omega
 have s1:y / 256=256*(y / 65536)+y / 256%256:=by rw [show y / 65536=y / 256 / 256 from by rw [Nat.div_div_eq_div_mul]];omega
 have s2:y / 65536=256*(y / 16777216)+y / 65536%256:=by rw [show y / 16777216=y / 65536 / 256 from by rw [Nat.div_div_eq_div_mul]];omega
 have s3:y / 16777216=256*(y / 4294967296)+y / 16777216%256:=by rw [show y / 4294967296=y / 16777216 / 256 from by rw [Nat.div_div_eq_div_mul]];omega
 have s4:y / 4294967296=256*(y / 1099511627776)+y / 4294967296%256:=by rw [show y / 1099511627776=y / 4294967296 / 256 from by rw [Nat.div_div_eq_div_mul]];omega
 have s5:y / 1099511627776=256*(y / 281474976710656)+y / 1099511627776%256:=by rw [show y / 281474976710656=y / 1099511627776 / 256 from by rw [Nat.div_div_eq_div_mul]];omega
 have s6:y / 281474976710656=256*(y / 72057594037927936)+y / 281474976710656%256:=by rw [show y / 72057594037927936=y / 281474976710656 / 256 from by rw [Nat.div_div_eq_div_mul]];omega
 have s7:y / 72057594037927936%256=y / 72057594037927936:=by omega
 generalize y / 256=z1 at*;generalize y / 65536=z2 at*;generalize y / 16777216=z3 at*;generalize y / 4294967296=z4 at*;generalize y / 1099511627776=z5 at*;generalize y / 281474976710656=z6 at*;generalize y / 72057594037927936=z7 at*;omega
theorem zfe (A:Nat)(hA:A<big):sv (bs A).data.toList=A:=by
 have e:(bs A).data.toList=(bn A).map fun n=>UInt8.ofNat n.toNat:=by simp [bs,strOfNums]
 have b: ∀x:Int,(UInt8.ofNat (x%256).toNat).toNat=(x%256).toNat:=fun x=>zk3 _ (by omega) (by omega);rw [e];unfold sv bn;simp only [List.map_cons,List.map_nil,List.foldl_cons,List.foldl_nil,b];rw [zax _ _ (wd3 A),zax _ _ (wd2 A),zax _ _ (wd1 A),zax _ _ (wd0 A)];have h:=xg A hA;have h0:=wd0 A;have h1:=wd1 A;have h2:=wd2 A;have h3:=wd3 A;unfold Wd at h0 h1 h2 h3;omega
end Go.Proofs.YtbpmjppmpgeejaaGreatDoor
namespace Go.Proofs.YtbpmjppmpgeejaaGreatDoor
open Go Go.RowKit
set_option linter.unusedVariables false
theorem vO (r s:Nat)(v:Int):(sbs r s v).size=65:=by
 unfold sbs;rw [zar,zar,qG,qG];rfl
theorem zb5 (r s:Nat)(v:Int):tl (sbs r s v)=tl (bs r)++(tl (bs s)++tl (strOfNums [IntKind.u8.wrap v])):=by
 unfold sbs;rw [xv,xv,List.append_assoc]
theorem zk4 (r s:Nat)(v:Int):(sbs r s v).extract 0 32=bs r:=by
 apply qi;rw [yO,zb5,List.drop_zero];exact List.take_left' (by rw [zt];exact qG r)
theorem zk5 (r s:Nat)(v:Int):(sbs r s v).extract 32 64=bs s:=by
 have h1:(tl (bs r)).length=32:=by rw [zt];exact qG r
 have h2:(tl (bs s)).length=32:=by rw [zt];exact qG s
 apply qi;rw [yO,zb5,←List.append_assoc,List.take_left' (by rw [List.length_append];omega),List.drop_left' h1]
theorem zff (r s:Nat)(v:Nat)(hv:v<256):by_ (sbs r s (v:Int)) 64=v:=by
 have h1:(tl (bs r)).length=32:=by rw [zt];exact qG r
 have h2:(tl (bs s)).length=32:=by rw [zt];exact qG s
 unfold by_;rw [zb5,←List.append_assoc,List.getD_eq_getElem?_getD,List.getElem?_append_right (by rw [List.length_append];omega),List.length_append,h1,h2];have e:IntKind.u8.wrap (v:Int)=(v:Int):=by simp [IntKind.wrap,IntKind.bits,IntKind.signed];omega
 rw [e];show (((tl (strOfNums [(v:Int)]))[0]?).getD 0).toNat=v;have e2:tl (strOfNums [(v:Int)])=[UInt8.ofNat v]:=by simp [strOfNums,tl]
 rw [e2];simp;omega
def sgR (t:ByteArray):Nat:=sv (tl (t.extract 0 32))
def sgS (t:ByteArray):Nat:=sv (tl (t.extract 32 64))
def sgV (t:ByteArray):Int:=((by_ t 64:Nat):Int)
theorem zk6 {t:ByteArray}(h:t.size=65):sgR t<big:=jD _ (by rw [ByteArray.size_extract];omega)
theorem zk7 {t:ByteArray}(h:t.size=65):sgS t<big:=jD _ (by rw [ByteArray.size_extract];omega)
theorem zk8 {r s:Nat}{v:Int}(h:ya r s v=true):v=0∨v=1:=by
 unfold ya at h;rw [Bool.and_eq_true,Bool.or_eq_true,decide_eq_true_iff,decide_eq_true_iff] at h;exact h.2
theorem zb6 {r s:Nat}{v:Int}(hr:r<big):sgR (sbs r s v)=r:=by
 unfold sgR;rw [zk4];exact zfe r hr
theorem zb7 {r s:Nat}{v:Int}(hs:s<big):sgS (sbs r s v)=s:=by
 unfold sgS;rw [zk5];exact zfe s hs
theorem zb8 {r s:Nat}{v:Int}(h:ya r s v=true):sgV (sbs r s v)=v:=by
 unfold sgV;rcases zk8 h with rfl | rfl
 ·exact congrArg (Nat.cast:Nat→Int) (zff r s 0 (by decide))
 ·exact congrArg (Nat.cast:Nat→Int) (zff r s 1 (by decide))
theorem zk9 (t:ByteArray):xZ t=if t.size=65∧ya (sgR t) (sgS t) (sgV t)=true then .tuple #[sgv (sgR t) (sgS t) (sgV t),.int .i64 0] else .tuple #[sgv 0 0 0,.int .i64 4]:=by
 unfold xZ;by_cases h:t.size=65
 ·rw [if_neg (fun h9=>h9 h)];by_cases hm:ya (sgR t) (sgS t) (sgV t)=true
  ·rw [if_pos (show t.size=65∧ya (sgR t) (sgS t) (sgV t)=true from ⟨h,hm⟩)];exact if_pos hm
  ·rw [if_neg (show ¬(t.size=65∧ya (sgR t) (sgS t) (sgV t)=true) from fun h9=>hm h9.2)];exact if_neg hm
 ·rw [if_pos h,if_neg (fun h9=>h h9.1)]
theorem zla (r s:Nat)(v:Int)(r' s':Nat)(v':Int)(hr:r<big)(hs:s<big)(hr':r'<big)(hs':s'<big)(w:World):(Op.equalIn 10000 50 (.agg (Value.cells (sgv r s v))) (.agg (Value.cells (sgv r' s' v')))).run Tryz.prog w=.ok (decide (r=r')&&(decide (s=s')&&(v==v'))) w:=by
 rw [run_equalIn_struct w 9999 50 _ _ kr kr,
  show (Tryz.prog.fieldsOf 50).toList= [{ name:= "R",type:=48,offset:=0,embedded:=false,tag:= "",pkgPath:= "",byteOffset:=0 },{ name:= "S",type:=48,offset:=4,embedded:=false,tag:= "",pkgPath:= "",byteOffset:=32 },{ name:= "V",type:=3,offset:=8,embedded:=false,tag:= "",pkgPath:= "",byteOffset:=64 }] by kernel_rfl]
 have px: ∀r s v,(part 48 (Value.cells (sgv r s v)) 0).run Tryz.prog w=.ok (uv r) w:=fun r s v=>by kernel_rfl
 have py: ∀r s v,(part 48 (Value.cells (sgv r s v)) 4).run Tryz.prog w=.ok (uv s) w:=fun r s v=>by kernel_rfl
 have pb: ∀r s v,(part 3 (Value.cells (sgv r s v)) 8).run Tryz.prog w=.ok (.int .i64 v) w:=fun r s v=>by kernel_rfl
 have ex: ∀r r':Nat,r<big→r'<big→(Op.equalIn 9999 48 (uv r) (uv r')).run Tryz.prog w=.ok (decide (r=r')) w:=fun r r' hr hr'=>by
  have h9:=zeO hr hr';rw [←h9];exact zeN 9997 _ _ _ _ _ _ _ _ w
 have eb:(Op.equalIn 9999 3 (.int .i64 v) (.int .i64 v')).run Tryz.prog w=.ok (v==v') w:=by
  rw [run_equalIn_int w 9998 3 .i64 .i64 v v' Tryz.underlying3]
 have n1:("R" :String)≠ "_" :=by decide
 have n2:("S" :String)≠ "_" :=by decide
 have n3:("V" :String)≠ "_" :=by decide
 simp only [Op.eqFields,if_pos n1,if_pos n2,if_pos n3,Sem.run_bind,px,py,pb,Result.andThen_ok,ex r r' hr hr',ex s s' hs hs',eb,Sem.run_ite];by_cases h1:r=r'
 ·by_cases h2:s=s'
  ·cases h3:(v==v')<;>simp [h1,h2]
  ·simp [h1,h2]
 ·simp [h1]
theorem zlb {ρ:Env}(r s:Nat)(v:Int)(r' s':Nat)(v':Int)(hr:r<big)(hs:s<big)(hr':r'<big)(hs':s'<big){x y:Operand}{o:Oper}(w:World)(ho:o.op=.binOp .neq 50 x y 50)(hx:ev ρ x=.agg (Value.cells (sgv r s v)))(hy:ev ρ y=.agg (Value.cells (sgv r' s' v'))):
 (execOp (ev ρ) o).run Tryz.prog w=.ok (.value (.bool (!(decide (r=r')&&(decide (s=s')&&(v==v')))))) w:=by
 have h:=zla r s v r' s' v' hr hs hr' hs' w;generalize Value.cells (sgv r s v)=X at h hx;generalize Value.cells (sgv r' s' v')=Y at h hy;unfold execOp;simp only [ho,hx,hy,resolve,Sem.run_bind,Sem.run_pure,Result.andThen_ok,run_eqGuard_agg w _ _ _ _ _ _ (show Tryz.prog.eqGuardType Tryz.prog.depth 50=false by kernel_rfl),run_eql_struct,run_neq_struct,h]
theorem zay (m sz ln:Nat):zu 97 0 m sz ln=(decide (m=0)&&(decide (sz=20)&&decide (ln=0))):=by
 unfold zu yL yg yj;rw [Bool.eq_iff_iff];simp<;>omega
theorem zfg (m sz ln:Nat):zu 115 0 m sz ln=(decide (m=0)&&(decide (sz=65)&&decide (ln=0))):=by
 unfold zu yL yg yj;rw [Bool.eq_iff_iff];simp<;>omega
theorem zfh (m sz ln:Nat):zu 110 0 m sz ln=(decide (sz=0)&&decide (ln=0)):=by
 unfold zu yL yg yj;rw [Bool.eq_iff_iff];simp<;>omega
theorem zfi (m sz ln:Nat):zu 98 0 m sz ln=(decide (m=0)&&(decide (sz≤64)&&decide (ln=0))):=by
 unfold zu yL yg yj;rw [Bool.eq_iff_iff];simp<;>omega
theorem zaz (g:Nat)(q:ByteArray)(x:Nat×ByteArray)(l:Fe)(hg:by_ q 0=g)(h:g≠42):yS q x l=zu g 0 x.1 x.2.size l.len:=by
 have e:kdB q=.nil:=by unfold kdB;rw [hg,if_neg h]
 unfold yS;rw [e,hg,beq_eq_false_iff_ne.2 h];simp [Fr.len]
def sS:Fl ByteArray where
 K:=1
 cs x:=[.string x]
 pos:=by decide
 len _:=rfl
 one _:=fun u hu=>by obtain rfl:=List.mem_singleton.1 hu;rfl
theorem zM {P:Program}{ρ:Env}{t e:TypeId}{K bytes:Nat}(ht:yy P t=some (e,K,bytes)){x y:Operand}{o:Oper}{kd:IntKind}{p:Option Addr}(b q n c k:Nat)(hp:p=some ⟨b,q,none⟩)(ho:o.op=.indexAddr t x y)(hx:ev ρ x=.slice p n c)(hy:ev ρ y=.int kd (k:Int))(hk:k<n):
 ∀w,(execOp (ev ρ) o).run P w=.ok (.value (.pointer (some ⟨b,q+k*K,none⟩))) w:=by
 subst hp;exact qM ht b q n c k ho hx hy hk
section
variable {α:Type}{S:Fl α}
def AtF (S:Fl α)(w:World)(p:Option Addr)(n:Nat)(L:List α):Prop:=n=L.length∧(L=[]∨∃b off C T fz,p=some ⟨b,off,none⟩∧w.heap[b]? =some (.cells C T fz)∧xG S C off L)
theorem AtF.call {w w':World}{p:Option Addr}{n:Nat}{L:List α}(h:AtF S w p n L)(hb:Below w.heap.size w w'):AtF S w' p n L:=by
 obtain ⟨h1,h2⟩:=h;refine ⟨h1,h2.imp id ?_⟩;rintro ⟨b,off,C,T,fz,e,hh,hr⟩;exact ⟨b,off,C,T,fz,e,by rw [hb.block b (zq hh)];exact hh,hr⟩
theorem yk.atF {ty:TypeId}{p:Option Addr}{n c:Nat}{row:List (Nat×Obj)}{L:List α}(h:yk S ty p n c row L){B:Nat}{w0 w:World}{l:List (Nat×Obj)}(hS:St B w0 w l)(hl: ∀e∈row,e∈l):AtF S w p n L:=by
 rcases h with ⟨rfl,rfl,rfl,rfl,rfl⟩|⟨b,cur,rfl,rfl,hr⟩
 ·exact ⟨rfl,.inl rfl⟩
 ·exact ⟨hr.lenF.symm,.inr ⟨b,0,cur,ty,(0,0),rfl,(hS.own _ (hl _ (List.mem_singleton.2 rfl))).2,hr.rowAt⟩⟩
theorem zfj {P:Program}{ρ:Env}{w w0:World}{B:Nat}{bx n c mc e:Nat}{p:Option Addr}{row Z:List (Nat×Obj)}{M0:List α}{y:α}(HS:St B w0 w ((bx,.cells (S.cs y).toArray e (0,0))::(row++Z)))(hrow:yk S e p n c row M0)
 {t bytes:Nat} {s x:Operand} {o:Oper} (ht:yy P t=some (e,S.K,bytes)) (ho:o.op=yq t s x) (hs:ev ρ s=.slice p n c) (hx:ev ρ x=.slice (some ⟨bx,0,none⟩) 1 mc) (hb:(n+1)*bytes≤0x800000000000) (hm:n+1≤maxLen):
 ∃b' cap' cur' w',(execOp (ev ρ) o).run P w=.ok (.value (.slice (some ⟨b',0,none⟩) (n+1) cap')) w'∧St B w0 w' ((b',.cells cur' e (0,0))::Z)∧Rw S.K cur' cap' (n+1) (cellsF S (M0++ [y])):=by
 have hY:(S.cs y).toArray.size=S.K:=by rw [List.size_toArray,S.len]
 have hone: ∀u∈(S.cs y).toArray.toList,u.oneCell'=true:=fun u hu=>S.one y u (by simpa using hu);rcases hrow with ⟨rfl,rfl,rfl,rfl,rfl⟩ | ⟨b,cur,rfl,rfl,hrw⟩
 ·obtain ⟨b',cap',cur',w',hrun,HS',hr'⟩:=ur (k:=0) HS ht ho hs hx rfl hY hone hb;refine ⟨b',cap',cur',w',hrun,HS'.sub (List.Sublist.cons_cons _ (List.sublist_cons_self ..)),?_⟩;rw [zel];exact hr'
 ·obtain ⟨b',cap',cur',w',hrun,HS',hr'⟩:=vp (j:=1) (k:=0) HS ht ho hs rfl hrw hx rfl hY hone hb hm;refine ⟨b',cap',cur',w',hrun,HS'.sub (List.sublist_cons_self ..),?_⟩;rw [zel];exact hr'
end
section
variable {P:Program}{N:Nat}{ops:Array Oper}{K:Env→World→Prop}{ρ:Env}{w w0:World}{i B:Nat}{r:List Nat}{l:List (Nat×Obj)}
theorem xi (HS:St B w0 w l)(d:Option Nat)(V:Nat→Value)(C:Array Value)(T:TypeId)(h:opv P ops i ρ w=some (d,true,.ok (.value (V w.heap.size)) (w.alloc (.cells C T (0,0)))))(hd:dOK d N=true)
 (kk: ∀b w',St B w0 w' ((b,.cells C T (0,0))::l)→WPs P N ops K r (zr ρ d (V b)) w'):WPs P N ops K (i::r) ρ w:=by
 obtain ⟨o,ho,rfl,hw,hr⟩:=zU h;refine WPo.run ho hw fun a ha=>?_;rw [hr,Oper.upon_value];exact ⟨_,ha.put _ (zT hd) _,kk w.heap.size _ (HS.alloc _)⟩
theorem ka {α:Type}{S:Fl α}{nb n c:Nat}{p:Option Addr}{row Z:List (Nat×Obj)}{M:List α}{y:α}(d:Option Nat)(t e bytes:Nat)(s x:Operand)(HS:St B w0 w ((nb,.cells (S.cs y).toArray e (0,0))::(row++Z)))(hrow:yk S e p n c row M)
 (h:opk ops i ρ=some (d,true,yq t s x)) (hd:dOK d N=true) (ht:yy P t=some (e,S.K,bytes)) (hs:ev ρ s=.slice p n c) (hx:ev ρ x=.slice (some ⟨nb,0,none⟩) 1 1) (hb:(n+1)*bytes≤0x800000000000) (hm:n+1≤maxLen)
 (kk: ∀b' cap' cur' w',St B w0 w' ((b',.cells cur' e (0,0))::Z)→Rw S.K cur' cap' (n+1) (cellsF S (M++ [y]))→WPs P N ops K r (zr ρ d (.slice (some ⟨b',0,none⟩) (n+1) cap')) w'):WPs P N ops K (i::r) ρ w:=by
 obtain ⟨o,ho,rfl,hw,hop⟩:=zE h;obtain ⟨b',cap',cur',w',hrun,HS',hr'⟩:=zfj HS hrow ht hop hs hx hb hm;refine WPo.run ho hw fun a ha=>?_;rw [hrun,Oper.upon_value];exact ⟨_,ha.put _ (zT hd) _,kk b' cap' cur' w' HS' hr'⟩
end
def hv:List UInt8→List UInt8
 | []=>[]
 | b::t=>(b >>> 4)::(b &&& 15)::hv t
def isP (l:List UInt8):Bool:=l.all fun b=>decide (b.toNat≤15)
def jn:List UInt8→List UInt8
 | a::b::t=>(a <<< 4 ||| b)::jn t
 | _=>[]
def lexB:List UInt8→List UInt8→Bool
 | [],[]=>false
 | [],_::_=>true
 | _::_,[]=>false
 | a::l,b::m=>if a.toNat<b.toNat then true else if a=b then lexB l m else false
theorem zlc (l:List UInt8):lexB l []=false:=by cases l<;>rfl
theorem zb9: ∀l:List UInt8,lexB l l=false
 | []=>rfl
 | a::l=>by simp only [lexB,Nat.lt_irrefl,if_false,if_true];exact zb9 l
theorem zfk {a b:UInt8}{l m:List UInt8}(h:lexB (a::l) (b::m)=true):a.toNat<b.toNat∨(a=b∧lexB l m=true):=by
 unfold lexB at h;split at h
 ·rename_i q;exact .inl q
 ·split at h
  ·rename_i q;exact .inr ⟨q,h⟩
  ·cases h
theorem zld {x y z:List UInt8} :lexB x y=true→lexB y z=true→lexB x z=true:=by
 induction x generalizing y z with
 | nil=>
  intro h1 h2;cases z with
  | nil=>rw [zlc] at h2;cases h2
  | cons c z=>rfl
 | cons a x ih=>
  intro h1 h2;cases y with
  | nil=>cases h1
  | cons b y=>
   cases z with
   | nil=>cases h2
   | cons c z=>
    unfold lexB;rcases zfk h1 with q1 | ⟨rfl,q1⟩<;>rcases zfk h2 with q2 | ⟨rfl,q2⟩
    ·rw [if_pos (by omega)]
    ·rw [if_pos q1]
    ·rw [if_pos q2]
    ·rw [if_neg (Nat.lt_irrefl _),if_pos rfl];exact ih q1 q2
structure Nd where
 kind:Int
 part:ByteArray
 value:ByteArray
 kids:List Int
def kyB (l:List UInt8):Bool:=isP l&& !decide (l.length%2=1)
def kyS (l:List UInt8):ByteArray:=bif kyB l then zh (jn l) else ⟨#[]⟩
section
variable {P:Program}{N:Nat}{ops:Array Oper}{i:Nat}{r:List Nat}{K:Env→World→Prop}{ρ:Env}{w:World}
end
abbrev Pr:=ByteArray×ByteArray
def mayM (k v:ByteArray):Bool:=(decide (1≤k.size)&&decide (k.size≤32))&&(decide (1≤v.size)&&decide (v.size≤500))
def zle (part:List UInt8)(v:ByteArray)(ps:List Pr):List Pr:=if mayM (kyS part) v=true then ps++ [(kyS part,v)] else ps
def zlf (kind:Int)(i:Nat):List UInt8:=if kind=3 then [UInt8.ofNat i] else []
def zca (go:Int→List UInt8→Nat×List Pr→Nat×List Pr)(x:Nd)(part:List UInt8):Nat→Nat×List Pr→Nat×List Pr
 | 0,s=>s
 | i+1,s=>if x.kids.getD i (-1)= -1 then zca go x part i s else go (x.kids.getD i (-1)) (part++zlf x.kind i) (zca go x part i s)
def zfl (A:List Nd):Nat→Int→List UInt8→Nat×List Pr→Nat×List Pr
 | 0,_,_,s=>s
 | f+1,at_,ahead,s=>
  if s.1=0∨at_<0∨(A.length:Int)≤at_ then s
  else match A[at_.toNat]? with
   | none=>s
   | some x=>if 64<ahead.length+x.part.size then (s.1-1,s.2)
    else zca (zfl A f) x (ahead++tl x.part) 16 (s.1-1,zle (ahead++tl x.part) x.value s.2)
section
variable {P:Program}{N:Nat}{ops:Array Oper}{i:Nat}{r:List Nat}{K:Env→World→Prop}{ρ:Env}{w:World}
end
theorem zfm: ∀x y:List UInt8,Op.bytesLess x y=lexB x y
 | [],[]=>rfl
 | [],_::_=>rfl
 | _::_,[]=>rfl
 | a::x,b::y=>by
  unfold Op.bytesLess lexB;rw [zfm x y];by_cases h:a.toNat<b.toNat
  ·rw [if_pos h,decide_eq_true (show a<b from h)];rfl
  ·rw [if_neg h,decide_eq_false (show ¬a<b from h)];by_cases e:a=b
   ·rw [if_pos e,e];simp
   ·rw [if_neg e];simp [e]
theorem zcb (a b:ByteArray):Op.bytesLess a.toList b.toList=lexB (tl a) (tl b):=by
 rw [ByteArray.toList_eq,ByteArray.toList_eq];exact zfm _ _
def zm2 (A:List Nd)(root:Int):List Pr:=(zfl A 192 root [] (192,[])).2
structure OkP (L:List Pr):Prop where
 len:L.length≤64
 may: ∀x∈L,mayM x.1 x.2=true
 rise:L.Pairwise fun a b=>lexB (tl a.1) (tl b.1)=true
theorem qU {α:Type}{L:List α}{i:Nat}{a:α}(ha:L[i]? =some a):L.take (i+1)=L.take i++ [a]:=by
 rw [List.take_add_one,ha];rfl
theorem zfn: ∀ {x y:List UInt8},lexB x y=false→x≠y→lexB y x=true
 | [],[],_,h=>absurd rfl h
 | [],_::_,h,_=>by simp [lexB] at h
 | _::_,[],_,_=>rfl
 | a::x,b::y,h,hne=>by
  unfold lexB at h ⊢;by_cases e:a=b
  ·subst e;have hlt: ¬a.toNat<a.toNat:=Nat.lt_irrefl _;simp only [Nat.lt_irrefl,if_false,if_true] at h ⊢;exact zfn h fun e=>hne (by rw [e])
  ·have hn:a.toNat≠b.toNat:=fun q=>e (UInt8.toNat_inj.1 q);by_cases c:b.toNat<a.toNat
   ·rw [if_pos c]
   ·have:a.toNat<b.toNat:=by omega
    rw [if_pos this] at h;cases h
def upB:Option ByteArray→ByteArray→Bool
 | none,_=>true
 | some p,a=>lexB (tl p) (tl a)
theorem zfo {α:Type}{L:List α}{i:Nat}{x:α}(h:L[i]? =some x):L.drop i=x::L.drop (i+1):=by
 obtain ⟨hi,rfl⟩:=List.getElem?_eq_some_iff.1 h;exact (List.getElem_cons_drop (h:=hi)).symm
theorem zlg (form:ByteArray)(i:Nat)(op:Int)(hi:i<form.size)(hz:form.size≤1000)(hc:by_ form i=110):Fn Tryz.prog 81 #[.string form,iN i,.int .i64 op] (iN (i+1)):=by
 refine Fn.intro (c:=zk Tryz.f81) [.tmp 6] 72 Tryz.func81 kr kr kr fun w=>rS [.v] (St.start w) kr fun gs1 w1 H1=>zb kr<|rS [.v,.v,.v,.E (.bool (decide ((form.size:Int)≤(i:Int)))) (.bool false) (za (decide_eq_false (by omega)))] H1 kr fun gs2 w2 H2=>zi kr kr<|zj kr<|wW<|rS [.v,.v,.oe (ins:=[((.tmp 12),.string form),((.tmp 13),iN i)]) (v:=.int .u8 ((by_ form i:Nat):Int)) (v':=.int .u8 110) (fun ρ o w ho hi2=>zO (t:=9) (kd:=.i64) kr (x:=(.tmp 12)) (y:=(.tmp 13)) form i ho hi2.1 hi2.2.1 hi w) (by rw [hc];rfl),.v] H2 kr fun gs3 w3 H3=>zb kr<|rS [.v,.v,.v,.n,.n,.v,.v,.n,.n,.v,.v,.n,.n,.v,.v,.n,.n,.v] H3 kr fun gs4 w4 H4=>zf kr kr<|rS [.v,.E (.int .i64 (IntKind.i64.wrap ((i:Int)+1))) (iN (i+1)) (zd (zs (a:=i) (b:=1) (by omega))),.v] H4 kr fun gs5 w5 H5=>?_;exact rR [.tmp 6] [] (iN (i+1)) H5 kr
theorem zlh (form:ByteArray)(i:Nat)(op:Int)(hi:i<form.size)(hz:form.size≤1000)(hc:by_ form i=104):Fn Tryz.prog 81 #[.string form,iN i,.int .i64 op] (iN (i+1)):=by
 refine Fn.intro (c:=zk Tryz.f81) [.tmp 6] 72 Tryz.func81 kr kr kr fun w=>rS [.v] (St.start w) kr fun gs1 w1 H1=>zb kr<|rS [.v,.v,.v,.E (.bool (decide ((form.size:Int)≤(i:Int)))) (.bool false) (za (decide_eq_false (by omega)))] H1 kr fun gs2 w2 H2=>zi kr kr<|zj kr<|wW<|rS [.v,.v,.oe (ins:=[((.tmp 12),.string form),((.tmp 13),iN i)]) (v:=.int .u8 ((by_ form i:Nat):Int)) (v':=.int .u8 104) (fun ρ o w ho hi2=>zO (t:=9) (kd:=.i64) kr (x:=(.tmp 12)) (y:=(.tmp 13)) form i ho hi2.1 hi2.2.1 hi w) (by rw [hc];rfl),.v] H2 kr fun gs3 w3 H3=>zb kr<|rS [.v,.v,.v,.v,.v,.v,.v,.n,.n,.v,.v,.n,.n,.v,.v,.n,.n,.v] H3 kr fun gs4 w4 H4=>zf kr kr<|rS [.v,.E (.int .i64 (IntKind.i64.wrap ((i:Int)+1))) (iN (i+1)) (zd (zs (a:=i) (b:=1) (by omega))),.v] H4 kr fun gs5 w5 H5=>?_;exact rR [.tmp 6] [] (iN (i+1)) H5 kr
theorem zli (form:ByteArray)(i:Nat)(op:Int)(hi:i<form.size)(hz:form.size≤1000)(hc:by_ form i=97):Fn Tryz.prog 81 #[.string form,iN i,.int .i64 op] (iN (i+1)):=by
 refine Fn.intro (c:=zk Tryz.f81) [.tmp 6] 72 Tryz.func81 kr kr kr fun w=>rS [.v] (St.start w) kr fun gs1 w1 H1=>zb kr<|rS [.v,.v,.v,.E (.bool (decide ((form.size:Int)≤(i:Int)))) (.bool false) (za (decide_eq_false (by omega)))] H1 kr fun gs2 w2 H2=>zi kr kr<|zj kr<|wW<|rS [.v,.v,.oe (ins:=[((.tmp 12),.string form),((.tmp 13),iN i)]) (v:=.int .u8 ((by_ form i:Nat):Int)) (v':=.int .u8 97) (fun ρ o w ho hi2=>zO (t:=9) (kd:=.i64) kr (x:=(.tmp 12)) (y:=(.tmp 13)) form i ho hi2.1 hi2.2.1 hi w) (by rw [hc];rfl),.v] H2 kr fun gs3 w3 H3=>zb kr<|rS [.v,.v,.v,.v,.v,.v,.v,.v,.v,.v,.v,.n,.n,.v,.v,.n,.n,.v] H3 kr fun gs4 w4 H4=>zf kr kr<|rS [.v,.E (.int .i64 (IntKind.i64.wrap ((i:Int)+1))) (iN (i+1)) (zd (zs (a:=i) (b:=1) (by omega))),.v] H4 kr fun gs5 w5 H5=>?_;exact rR [.tmp 6] [] (iN (i+1)) H5 kr
theorem zlj (form:ByteArray)(i:Nat)(op:Int)(hi:i<form.size)(hz:form.size≤1000)(hc:by_ form i=115):Fn Tryz.prog 81 #[.string form,iN i,.int .i64 op] (iN (i+1)):=by
 refine Fn.intro (c:=zk Tryz.f81) [.tmp 6] 72 Tryz.func81 kr kr kr fun w=>rS [.v] (St.start w) kr fun gs1 w1 H1=>zb kr<|rS [.v,.v,.v,.E (.bool (decide ((form.size:Int)≤(i:Int)))) (.bool false) (za (decide_eq_false (by omega)))] H1 kr fun gs2 w2 H2=>zi kr kr<|zj kr<|wW<|rS [.v,.v,.oe (ins:=[((.tmp 12),.string form),((.tmp 13),iN i)]) (v:=.int .u8 ((by_ form i:Nat):Int)) (v':=.int .u8 115) (fun ρ o w ho hi2=>zO (t:=9) (kd:=.i64) kr (x:=(.tmp 12)) (y:=(.tmp 13)) form i ho hi2.1 hi2.2.1 hi w) (by rw [hc];rfl),.v] H2 kr fun gs3 w3 H3=>zb kr<|rS [.v,.v,.v,.v,.v,.v,.v,.v,.v,.v,.v,.v,.v,.v,.v,.n,.n,.v] H3 kr fun gs4 w4 H4=>zf kr kr<|rS [.v,.E (.int .i64 (IntKind.i64.wrap ((i:Int)+1))) (iN (i+1)) (zd (zs (a:=i) (b:=1) (by omega))),.v] H4 kr fun gs5 w5 H5=>?_;exact rR [.tmp 6] [] (iN (i+1)) H5 kr
theorem zlk (form:ByteArray)(i:Nat)(op:Int)(hi:i<form.size)(hz:form.size≤1000)(hc:by_ form i=98):Fn Tryz.prog 81 #[.string form,iN i,.int .i64 op] (iN (i+1)):=by
 refine Fn.intro (c:=zk Tryz.f81) [.tmp 6] 72 Tryz.func81 kr kr kr fun w=>rS [.v] (St.start w) kr fun gs1 w1 H1=>zb kr<|rS [.v,.v,.v,.E (.bool (decide ((form.size:Int)≤(i:Int)))) (.bool false) (za (decide_eq_false (by omega)))] H1 kr fun gs2 w2 H2=>zi kr kr<|zj kr<|wW<|rS [.v,.v,.oe (ins:=[((.tmp 12),.string form),((.tmp 13),iN i)]) (v:=.int .u8 ((by_ form i:Nat):Int)) (v':=.int .u8 98) (fun ρ o w ho hi2=>zO (t:=9) (kd:=.i64) kr (x:=(.tmp 12)) (y:=(.tmp 13)) form i ho hi2.1 hi2.2.1 hi w) (by rw [hc];rfl),.v] H2 kr fun gs3 w3 H3=>zb kr<|rS [.v,.v,.v,.v,.v,.v,.v,.v,.v,.v,.v,.v,.v,.v,.v,.v,.v,.v] H3 kr fun gs4 w4 H4=>zf kr kr<|rS [.v,.E (.int .i64 (IntKind.i64.wrap ((i:Int)+1))) (iN (i+1)) (zd (zs (a:=i) (b:=1) (by omega))),.v] H4 kr fun gs5 w5 H5=>?_;exact rR [.tmp 6] [] (iN (i+1)) H5 kr
theorem zfp (form:ByteArray)(i:Nat)(op:Int)(hi:i<form.size)(hz:form.size≤1000)(hc:yo (by_ form i)=true):Fn Tryz.prog 81 #[.string form,iN i,.int .i64 op] (iN (i+1)):=by
 rcases jo.1 hc with h|h|h|h|h
 ·exact zlg form i op hi hz h
 ·exact zlh form i op hi hz h
 ·exact zli form i op hi hz h
 ·exact zlj form i op hi hz h
 ·exact zlk form i op hi hz h
theorem zll (form:ByteArray)(i:Nat)(hi:i+1<form.size)(hz:form.size≤1000)(hc:by_ form i=42)(hn:yo (by_ form (i+1))=true):Fn Tryz.prog 81 #[.string form,iN i,.int .i64 0] (iN (i+2)):=by
 have hi1:i<form.size:=by omega
 refine Fn.intro (c:=zk Tryz.f81) [.tmp 6] 72 Tryz.func81 kr kr kr fun w=>rS [.v] (St.start w) kr fun gs1 w1 H1=>zb kr<|rS [.v,.v,.v,.E (.bool (decide ((form.size:Int)≤(i:Int)))) (.bool false) (za (decide_eq_false (by omega)))] H1 kr fun gs2 w2 H2=>zi kr kr<|zj kr<|wW<|rS [.v,.v,.oe (ins:=[((.tmp 12),.string form),((.tmp 13),iN i)]) (v:=.int .u8 ((by_ form i:Nat):Int)) (v':=.int .u8 42) (fun ρ o w ho hi2=>zO (t:=9) (kd:=.i64) kr (x:=(.tmp 12)) (y:=(.tmp 13)) form i ho hi2.1 hi2.2.1 hi1 w) (by rw [hc];rfl),.v] H2 kr fun gs3 w3 H3=>zb kr<|rS [.v,.v,.v,.v,.v,.v,.v,.v,.v,.v,.v,.v,.v,.v,.v,.v,.v,.v] H3 kr fun gs4 w4 H4=>zi kr kr<|zj kr<|wW<|zb kr<|rS [.v,.v] H4 kr fun gs5 w5 H5=>zi kr kr<|zj kr<|wW<|zb kr<|rS [.v,.v] H5 kr fun gs6 w6 H6=>zf kr kr<|rS [.v,.v,.E (.int .i64 (IntKind.i64.wrap ((i:Int)+1))) (iN (i+1)) (zd (zs (a:=i) (b:=1) (by omega))),.v,.v,.c (zfp form (i+1) 1 (by omega) hz hn),.v] H6 kr fun gs7 w7 H7=>?_;exact rR [.tmp 6] [] (iN (i+2)) H7 kr
theorem zlm (form:ByteArray)(i:Nat)(hi:i<form.size)(hz:form.size≤1000)(h:yo (by_ form i)=true∨(by_ form i=42∧i+1<form.size∧yo (by_ form (i+1))=true)):Fn Tryz.prog 81 #[.string form,iN i,.int .i64 0] (iN (nxK form i)):=by
 rcases h with h|⟨h1,h2,h3⟩
 ·have:nxK form i=i+1:=by unfold nxK;rw [if_neg];rw [jo] at h;omega
  rw [this];exact zfp form i 0 hi hz h
 ·have:nxK form i=i+2:=by unfold nxK;rw [if_pos h1]
  rw [this];exact zll form i h2 hz h1 h3
theorem zln {form:ByteArray}{i:Nat}(hi:i<form.size)(h:yo (by_ form i)=true∨(by_ form i=42∧i+1<form.size∧yo (by_ form (i+1))=true)):i<nxK form i∧nxK form i≤form.size:=by
 unfold nxK;rcases h with h | ⟨h1,h2,h3⟩
 ·rw [if_neg (by rw [jo] at h;omega)];omega
 ·rw [if_pos h1];omega
def zfq (ks:List ByteArray)(v:Value)(T:List (Nat×Obj)):Prop:=∃(p:Option Addr) (n c:Nat),v=.tuple #[.slice p n c,.bool true]∧yk sS 9 p n c T ks
theorem zcc (form:ByteArray)(ks:List ByteArray)(hF:xF form ks):FnT Tryz.prog 52 #[.string form] (fun _=>True) (zfq ks):=by
 have hz:=hF.size;refine FnT.intro (c:=zk Tryz.f52) [.tmp 2,.tmp 3] 31 Tryz.func52 kr kr kr fun w _=>?_;have H0:=St.start w;refine rS [.v,.v] H0 kr fun gs1 w1 H1=>rS [.nw (fun b=>.slice (some ⟨b,0,none⟩) 0 0) #[] 9,.v] H1 kr fun gs2 w2 H2=>zb kr<|rS [.v,.v,.E (.bool (decide (40<(form.size:Int)))) (.bool false) (za (decide_eq_false (by omega)))] H2 kr fun gs3 w3 H3=>zi kr kr<|zj kr<|wW<|rS [.v] H3 kr fun gs4 w4 H4=>zb kr<|zn 0 kr ?_;have H5:St w.heap.size w w4 [((gs2 0).b,.cells #[] 9 (0,0))]:=H4.as kr;refine zV kr (fun mz ρ ww=> ∃(i f:Nat) (M:List ByteArray) (bo N cap:Nat) (cur:Array Value),form.size-i=mz∧i≤form.size∧N=M.length∧N≤i∧form.size<i+f∧okK form f i=true∧M++ksM form f i=ks∧Rw 1 cur cap N (cellsF sS M)∧St w.heap.size w ww [(bo,.cells cur 9 (0,0))]∧Is [(0,.string form),(4,.slice (some ⟨bo,0,none⟩) N cap),(5,iN i)] ρ) (form.size-0) ⟨0,41,[],(gs2 0).b,0,0,#[],rfl,Nat.zero_le _,rfl,Nat.zero_le _,by omega,hF.ok,hF.cut,⟨rfl,Nat.le_refl _,by unfold maxLen;omega,rfl,rfl⟩,H5,(Is.of ⟨kr,kr,kr,trivial⟩)⟩ ?_;clear H0 H1 H2 H3 H4 H5;rintro _ _ w5 ⟨i,f,M,bo,N,cap,cur,rfl,hi0,hNM,hNi,hf,hok,hks,hRw,H6,_,rfl⟩;refine zb kr<|zb kr ?_;by_cases hi:i<form.size
 ·obtain ⟨f',rfl⟩:=ziD hok hi;obtain ⟨h1,h2⟩:=ziB hok hi;have hnx:=zln hi h1;have hk1:ksM form (f'+1) i=form.extract i (nxK form i)::ksM form f' (nxK form i):=by rw [ksM,if_pos hi]
  refine rL [.v,.v,.v,.E (.bool (decide ((i:Int)<(form.size:Int)))) (.bool true) (za (decide_eq_true (by omega)))] H6 kr fun gs6 w6 H7=>wW<|zf kr kr<|zj kr<|wW<|zn 1 kr<|rS [.v,.v,.c (zlm form i hi (by omega) h1),.v] H7 kr fun gs7 w7 H8=>zb kr<|zb kr<|rL [.v,.E (.bool (decide (((nxK form i:Nat):Int)<0))) (.bool false) (za (decide_eq_false (by omega)))] H8 kr fun gs8 w8 H9=>wW<|zi kr kr<|zj kr<|wW<|zg [0,1,2,3,4,5,6,7] kr kr<|rp [.v,.v,.v,.v,.o (ins:=[((.tmp 23),.string form),((.tmp 24),iN i),((.tmp 25),iN (nxK form i))]) (v:=.string (form.extract i (nxK form i))) (fun ρ o w ho hi2=>xS (t:=9) (kd:=.i64) (kz:=.i64) kr (x:=(.tmp 23)) (y:=(.tmp 25)) (z:=(.tmp 24)) form i (nxK form i) ho hi2.1 hi2.2.2.1 hi2.2.1 (by omega) (by omega) w)] H9 kr fun gs9 w9 H10=>wX [5,6,7] ?_;have H11:St w.heap.size w w9 [(bo,.cells cur 9 (0,0))]:=H10.as kr;refine xi H11 (some 27) (fun b=>.slice (some ⟨b,0,none⟩) 1 1) (sS.cs (form.extract i (nxK form i))).toArray 9 kr kr ?_;intro nb w10 H12;refine ka (S:=sS) (M:=M) (y:=form.extract i (nxK form i)) (row:=[(bo,.cells cur 9 (0,0))]) (Z:=[]) (some 28) 23 9 16 (.tmp 22) (.tmp 27) H12 (.inr ⟨bo,cur,rfl,rfl,hRw⟩) kr kr kr kr kr (by omega) (by unfold maxLen;omega) ?_;intro b' cap' cur' w11 H13 hRw';refine rp [.v] H13 kr fun gs10 w12 H14=>wX []<|zc<|wW<|rL [.v,.v] H14 kr fun gs11 w13 H15=>?_;show ∃m,_∧_;refine ⟨_,(by omega:form.size-nxK form i<form.size-i),nxK form i,f',M++ [form.extract i (nxK form i)],b',N+1,cap',cur',rfl,hnx.2,by rw [List.length_append,←hNM];rfl,by omega,by omega,h2,?_,hRw',H15.as kr,(Is.of ⟨kr,kr,kr,trivial⟩)⟩;rw [List.append_assoc,List.singleton_append,←hk1];exact hks
 ·have hk1:ksM form f i=[]:=ziC hok (by omega) hi;rw [hk1,List.append_nil] at hks;refine rL [.v,.v,.v,.E (.bool (decide ((i:Int)<(form.size:Int)))) (.bool false) (za (decide_eq_false (by omega)))] H6 kr fun gs6 w6 H7=>wW<|zi kr kr<|zN 0 kr<|wW<|rS [.v,.v,.v] H7 kr fun gs7 w7 H8=>rRr [.tmp 2,.tmp 3] [] (.tuple #[.slice (some ⟨bo,0,none⟩) N cap,.bool true]) (yp w.heap.size w (zfq ks)) H8 kr ?_;have H9:St w.heap.size w w7 [(bo,.cells cur 9 (0,0))]:=H8.as kr;subst hks;exact ⟨_,⟨_,_,_,rfl,.inr ⟨bo,cur,rfl,rfl,hRw⟩⟩,H9⟩
theorem jL {c m sz ln:Nat}(hc:yo c=true):zu c 0 m sz ln=if c=110 then decide (sz=0)&&decide (ln=0) else (decide (m=0)&&decide (ln=0))&&(if c=104 then decide (sz=32) else if c=97 then decide (sz=20) else if c=115 then decide (sz=65) else decide (sz≤64)):=by
 rcases jo.1 hc with rfl|rfl|rfl|rfl|rfl<;>(unfold zu yL yg yj;rw [Bool.eq_iff_iff];simp<;>omega)
theorem kI (a b:Nat):((a:Int)==(b:Int))=decide (a=b):=by
 rw [Bool.eq_iff_iff,beq_iff_eq,decide_eq_true_iff];omega
theorem zfr (s:ByteArray):(s.toList==(⟨#[]⟩:ByteArray).toList)=decide (s.size=0):=by
 rw [Bool.eq_iff_iff,decide_eq_true_iff];by_cases h:s.size=0
 ·obtain rfl:=jm h;exact ⟨fun _=>rfl,fun _=>uq _⟩
 ·rw [yA s ⟨#[]⟩ (fun e=>h (by rw [e];rfl))];exact ⟨fun h2=>(nomatch h2),fun h2=>absurd h2 h⟩
theorem zlo (q:ByteArray)(m:Nat)(s:ByteArray)(p:Option Addr)(n c:Nat)(hz:0<q.size)(hc:by_ q 0=110):Fn Tryz.prog 112 #[.string q,fld m s p n c] (.bool (zu 110 0 m s.size n)):=by
 refine Fn.intro (c:=zk Tryz.f112) [.tmp 4] 99 Tryz.func112 kr kr kr fun w=>rS [.b,.v] (St.start w) kr fun gs1 w1 H1=>?_;have H2:St w.heap.size w w1 [((gs1 0).b,fdO m s p n c)]:=H1.as kr;refine zb kr<|qA (Q:=fun e ρ ww=>e=.normal∧St w.heap.size w ww [((gs1 0).b,fdO m s p n c)]∧Is [(0,.string q),(3,.pointer (some ⟨(gs1 0).b,0,none⟩)),(5,.bool (decide (m=0)&&decide (n=0)))] ρ) ?_ ?_
 ·by_cases hm:m=0
  ·subst hm;by_cases hn:n=0
   ·subst hn;refine rL [.v,.l 0,.v,.v,.v,.l 0,.v,.v,.v,.v] H2 kr fun gs2 w2 H3=>?_;exact ⟨rfl,H3.as kr,Is.of ⟨kr,kr,kr,trivial⟩⟩
   ·have e5:(decide ((0:Nat)=0)&&decide (n=0))=false:=by simp [hn]
    rw [e5];refine rL [.v,.l 0,.v,.v,.v,.l 0,.v,.E (.bool ((n:Int)==0)) (.bool false) (za (beq_eq_false_iff_ne.2 (by omega))),.v,.v] H2 kr fun gs2 w2 H3=>?_;exact ⟨rfl,H3.as kr,Is.of ⟨kr,kr,kr,trivial⟩⟩
  ·have e5:(decide (m=0)&&decide (n=0))=false:=by simp [hm]
   rw [e5];refine rL [.v,.l 0,.E (.bool ((m:Int)==0)) (.bool false) (za (beq_eq_false_iff_ne.2 (by omega))),.v,.n,.n,.n,.n,.v,.v] H2 kr fun gs2 w2 H3=>?_;exact ⟨rfl,H3.as kr,Is.of ⟨kr,kr,kr,trivial⟩⟩
 rintro _ _ w3 ⟨rfl,H4,_,rfl⟩;refine wW<|zb kr<|rS [.v,.oe (ins:=[((.tmp 17),.string q)]) (v:=.int .u8 ((by_ q 0:Nat):Int)) (v':=.int .u8 110) (fun ρ o w ho hi2=>zO (t:=9) (kd:=.i64) kr (x:=(.tmp 17)) (y:=.const (.int .i64 0)) q 0 ho hi2.1 rfl hz w) (by rw [hc];rfl)] H4 kr fun gs3 w4 H5=>zn 0 kr<|rS [.v,.v] H5 kr fun gs5 w5 H6=>zf kr kr ?_;by_cases hs:s.size=0
 ·obtain rfl:=jm hs;refine rS [.v,.l 0,.v,.v,.v,.l 0,.v,.E (.bool ((n:Int)==0)) (.bool (decide (n=0))) (za (kI n 0)),.v,.v] H6 kr fun gs20 w20 H20=>?_;exact rRe [.tmp 4] [] (v:=.bool (decide (n=0))) (v':=.bool (zu 110 0 m (ByteArray.size ⟨#[]⟩) n)) H20 (za (by rw [jL (by decide)];rfl)) kr
 ·refine rS [.v,.l 0,.E (.bool (s.toList==(⟨#[]⟩:ByteArray).toList)) (.bool false) (za (by rw [zfr];exact decide_eq_false hs)),.v,.n,.n,.n,.n,.v,.v] H6 kr fun gs20 w20 H20=>?_;exact rRe [.tmp 4] [] (v:=.bool false) (v':=.bool (zu 110 0 m s.size n)) H20 (za (by rw [jL (by decide)];simp [hs])) kr
theorem zlp (q:ByteArray)(m:Nat)(s:ByteArray)(p:Option Addr)(n c:Nat)(hz:0<q.size)(hc:by_ q 0=104):Fn Tryz.prog 112 #[.string q,fld m s p n c] (.bool (zu 104 0 m s.size n)):=by
 refine Fn.intro (c:=zk Tryz.f112) [.tmp 4] 99 Tryz.func112 kr kr kr fun w=>rS [.b,.v] (St.start w) kr fun gs1 w1 H1=>?_;have H2:St w.heap.size w w1 [((gs1 0).b,fdO m s p n c)]:=H1.as kr;refine zb kr<|qA (Q:=fun e ρ ww=>e=.normal∧St w.heap.size w ww [((gs1 0).b,fdO m s p n c)]∧Is [(0,.string q),(3,.pointer (some ⟨(gs1 0).b,0,none⟩)),(5,.bool (decide (m=0)&&decide (n=0)))] ρ) ?_ ?_
 ·by_cases hm:m=0
  ·subst hm;by_cases hn:n=0
   ·subst hn;refine rL [.v,.l 0,.v,.v,.v,.l 0,.v,.v,.v,.v] H2 kr fun gs2 w2 H3=>?_;exact ⟨rfl,H3.as kr,Is.of ⟨kr,kr,kr,trivial⟩⟩
   ·have e5:(decide ((0:Nat)=0)&&decide (n=0))=false:=by simp [hn]
    rw [e5];refine rL [.v,.l 0,.v,.v,.v,.l 0,.v,.E (.bool ((n:Int)==0)) (.bool false) (za (beq_eq_false_iff_ne.2 (by omega))),.v,.v] H2 kr fun gs2 w2 H3=>?_;exact ⟨rfl,H3.as kr,Is.of ⟨kr,kr,kr,trivial⟩⟩
  ·have e5:(decide (m=0)&&decide (n=0))=false:=by simp [hm]
   rw [e5];refine rL [.v,.l 0,.E (.bool ((m:Int)==0)) (.bool false) (za (beq_eq_false_iff_ne.2 (by omega))),.v,.n,.n,.n,.n,.v,.v] H2 kr fun gs2 w2 H3=>?_;exact ⟨rfl,H3.as kr,Is.of ⟨kr,kr,kr,trivial⟩⟩
 rintro _ _ w3 ⟨rfl,H4,_,rfl⟩;refine wW<|zb kr<|rS [.v,.oe (ins:=[((.tmp 17),.string q)]) (v:=.int .u8 ((by_ q 0:Nat):Int)) (v':=.int .u8 104) (fun ρ o w ho hi2=>zO (t:=9) (kd:=.i64) kr (x:=(.tmp 17)) (y:=.const (.int .i64 0)) q 0 ho hi2.1 rfl hz w) (by rw [hc];rfl)] H4 kr fun gs3 w4 H5=>zn 0 kr<|rS [.v,.v] H5 kr fun gs5 w5 H6=>zi kr kr<|rS [.v,.v] H6 kr fun gs6 w6 H7=>zf kr kr ?_;obtain ⟨pl,hpl⟩:∃pl,(decide (m=0)&&decide (n=0))=pl:=⟨_,rfl⟩
 refine yl 5 (v:=.bool (decide (m=0)&&decide (n=0))) (v':=.bool pl) (by rw [hpl]) kr ?_;cases pl with
 | true=>
  refine rS [.v,.v,.v,.l 0,.v,.E (.bool ((s.size:Int)==32)) (.bool (decide (s.size=32))) (za (kI s.size 32)),.v,.v] H7 kr fun gs20 w20 H20=>?_;exact rRe [.tmp 4] [] (v:=.bool (decide (s.size=32))) (v':=.bool (zu 104 0 m s.size n)) H20 (za (by rw [jL (by decide),hpl];simp)) kr
 | false=>
  refine rS [.v,.v,.n,.n,.n,.n,.v,.v] H7 kr fun gs20 w20 H20=>?_;exact rRe [.tmp 4] [] (v:=.bool false) (v':=.bool (zu 104 0 m s.size n)) H20 (za (by rw [jL (by decide),hpl];rfl)) kr
theorem zlq (q:ByteArray)(m:Nat)(s:ByteArray)(p:Option Addr)(n c:Nat)(hz:0<q.size)(hc:by_ q 0=97):Fn Tryz.prog 112 #[.string q,fld m s p n c] (.bool (zu 97 0 m s.size n)):=by
 refine Fn.intro (c:=zk Tryz.f112) [.tmp 4] 99 Tryz.func112 kr kr kr fun w=>rS [.b,.v] (St.start w) kr fun gs1 w1 H1=>?_;have H2:St w.heap.size w w1 [((gs1 0).b,fdO m s p n c)]:=H1.as kr;refine zb kr<|qA (Q:=fun e ρ ww=>e=.normal∧St w.heap.size w ww [((gs1 0).b,fdO m s p n c)]∧Is [(0,.string q),(3,.pointer (some ⟨(gs1 0).b,0,none⟩)),(5,.bool (decide (m=0)&&decide (n=0)))] ρ) ?_ ?_
 ·by_cases hm:m=0
  ·subst hm;by_cases hn:n=0
   ·subst hn;refine rL [.v,.l 0,.v,.v,.v,.l 0,.v,.v,.v,.v] H2 kr fun gs2 w2 H3=>?_;exact ⟨rfl,H3.as kr,Is.of ⟨kr,kr,kr,trivial⟩⟩
   ·have e5:(decide ((0:Nat)=0)&&decide (n=0))=false:=by simp [hn]
    rw [e5];refine rL [.v,.l 0,.v,.v,.v,.l 0,.v,.E (.bool ((n:Int)==0)) (.bool false) (za (beq_eq_false_iff_ne.2 (by omega))),.v,.v] H2 kr fun gs2 w2 H3=>?_;exact ⟨rfl,H3.as kr,Is.of ⟨kr,kr,kr,trivial⟩⟩
  ·have e5:(decide (m=0)&&decide (n=0))=false:=by simp [hm]
   rw [e5];refine rL [.v,.l 0,.E (.bool ((m:Int)==0)) (.bool false) (za (beq_eq_false_iff_ne.2 (by omega))),.v,.n,.n,.n,.n,.v,.v] H2 kr fun gs2 w2 H3=>?_;exact ⟨rfl,H3.as kr,Is.of ⟨kr,kr,kr,trivial⟩⟩
 rintro _ _ w3 ⟨rfl,H4,_,rfl⟩;refine wW<|zb kr<|rS [.v,.oe (ins:=[((.tmp 17),.string q)]) (v:=.int .u8 ((by_ q 0:Nat):Int)) (v':=.int .u8 97) (fun ρ o w ho hi2=>zO (t:=9) (kd:=.i64) kr (x:=(.tmp 17)) (y:=.const (.int .i64 0)) q 0 ho hi2.1 rfl hz w) (by rw [hc];rfl)] H4 kr fun gs3 w4 H5=>zn 0 kr<|rS [.v,.v] H5 kr fun gs5 w5 H6=>zi kr kr<|rS [.v,.v] H6 kr fun gs6 w6 H7=>zi kr kr<|rS [.v,.v] H7 kr fun gs7 w7 H8=>zf kr kr ?_;obtain ⟨pl,hpl⟩:∃pl,(decide (m=0)&&decide (n=0))=pl:=⟨_,rfl⟩
 refine yl 5 (v:=.bool (decide (m=0)&&decide (n=0))) (v':=.bool pl) (by rw [hpl]) kr ?_;cases pl with
 | true=>
  refine rS [.v,.v,.v,.l 0,.v,.E (.bool ((s.size:Int)==20)) (.bool (decide (s.size=20))) (za (kI s.size 20)),.v,.v] H8 kr fun gs20 w20 H20=>?_;exact rRe [.tmp 4] [] (v:=.bool (decide (s.size=20))) (v':=.bool (zu 97 0 m s.size n)) H20 (za (by rw [jL (by decide),hpl];simp)) kr
 | false=>
  refine rS [.v,.v,.n,.n,.n,.n,.v,.v] H8 kr fun gs20 w20 H20=>?_;exact rRe [.tmp 4] [] (v:=.bool false) (v':=.bool (zu 97 0 m s.size n)) H20 (za (by rw [jL (by decide),hpl];rfl)) kr
theorem zlr (q:ByteArray)(m:Nat)(s:ByteArray)(p:Option Addr)(n c:Nat)(hz:0<q.size)(hc:by_ q 0=115):Fn Tryz.prog 112 #[.string q,fld m s p n c] (.bool (zu 115 0 m s.size n)):=by
 refine Fn.intro (c:=zk Tryz.f112) [.tmp 4] 99 Tryz.func112 kr kr kr fun w=>rS [.b,.v] (St.start w) kr fun gs1 w1 H1=>?_;have H2:St w.heap.size w w1 [((gs1 0).b,fdO m s p n c)]:=H1.as kr;refine zb kr<|qA (Q:=fun e ρ ww=>e=.normal∧St w.heap.size w ww [((gs1 0).b,fdO m s p n c)]∧Is [(0,.string q),(3,.pointer (some ⟨(gs1 0).b,0,none⟩)),(5,.bool (decide (m=0)&&decide (n=0)))] ρ) ?_ ?_
 ·by_cases hm:m=0
  ·subst hm;by_cases hn:n=0
   ·subst hn;refine rL [.v,.l 0,.v,.v,.v,.l 0,.v,.v,.v,.v] H2 kr fun gs2 w2 H3=>?_;exact ⟨rfl,H3.as kr,Is.of ⟨kr,kr,kr,trivial⟩⟩
   ·have e5:(decide ((0:Nat)=0)&&decide (n=0))=false:=by simp [hn]
    rw [e5];refine rL [.v,.l 0,.v,.v,.v,.l 0,.v,.E (.bool ((n:Int)==0)) (.bool false) (za (beq_eq_false_iff_ne.2 (by omega))),.v,.v] H2 kr fun gs2 w2 H3=>?_;exact ⟨rfl,H3.as kr,Is.of ⟨kr,kr,kr,trivial⟩⟩
  ·have e5:(decide (m=0)&&decide (n=0))=false:=by simp [hm]
   rw [e5];refine rL [.v,.l 0,.E (.bool ((m:Int)==0)) (.bool false) (za (beq_eq_false_iff_ne.2 (by omega))),.v,.n,.n,.n,.n,.v,.v] H2 kr fun gs2 w2 H3=>?_;exact ⟨rfl,H3.as kr,Is.of ⟨kr,kr,kr,trivial⟩⟩
 rintro _ _ w3 ⟨rfl,H4,_,rfl⟩;refine wW<|zb kr<|rS [.v,.oe (ins:=[((.tmp 17),.string q)]) (v:=.int .u8 ((by_ q 0:Nat):Int)) (v':=.int .u8 115) (fun ρ o w ho hi2=>zO (t:=9) (kd:=.i64) kr (x:=(.tmp 17)) (y:=.const (.int .i64 0)) q 0 ho hi2.1 rfl hz w) (by rw [hc];rfl)] H4 kr fun gs3 w4 H5=>zn 0 kr<|rS [.v,.v] H5 kr fun gs5 w5 H6=>zi kr kr<|rS [.v,.v] H6 kr fun gs6 w6 H7=>zi kr kr<|rS [.v,.v] H7 kr fun gs7 w7 H8=>zi kr kr<|rS [.v,.v] H8 kr fun gs8 w8 H9=>zf kr kr ?_;obtain ⟨pl,hpl⟩:∃pl,(decide (m=0)&&decide (n=0))=pl:=⟨_,rfl⟩
 refine yl 5 (v:=.bool (decide (m=0)&&decide (n=0))) (v':=.bool pl) (by rw [hpl]) kr ?_;cases pl with
 | true=>
  refine rS [.v,.v,.v,.l 0,.v,.E (.bool ((s.size:Int)==65)) (.bool (decide (s.size=65))) (za (kI s.size 65)),.v,.v] H9 kr fun gs20 w20 H20=>?_;exact rRe [.tmp 4] [] (v:=.bool (decide (s.size=65))) (v':=.bool (zu 115 0 m s.size n)) H20 (za (by rw [jL (by decide),hpl];simp)) kr
 | false=>
  refine rS [.v,.v,.n,.n,.n,.n,.v,.v] H9 kr fun gs20 w20 H20=>?_;exact rRe [.tmp 4] [] (v:=.bool false) (v':=.bool (zu 115 0 m s.size n)) H20 (za (by rw [jL (by decide),hpl];rfl)) kr
theorem zls (q:ByteArray)(m:Nat)(s:ByteArray)(p:Option Addr)(n c:Nat)(hz:0<q.size)(hc:by_ q 0=98):Fn Tryz.prog 112 #[.string q,fld m s p n c] (.bool (zu 98 0 m s.size n)):=by
 refine Fn.intro (c:=zk Tryz.f112) [.tmp 4] 99 Tryz.func112 kr kr kr fun w=>rS [.b,.v] (St.start w) kr fun gs1 w1 H1=>?_;have H2:St w.heap.size w w1 [((gs1 0).b,fdO m s p n c)]:=H1.as kr;refine zb kr<|qA (Q:=fun e ρ ww=>e=.normal∧St w.heap.size w ww [((gs1 0).b,fdO m s p n c)]∧Is [(0,.string q),(3,.pointer (some ⟨(gs1 0).b,0,none⟩)),(5,.bool (decide (m=0)&&decide (n=0)))] ρ) ?_ ?_
 ·by_cases hm:m=0
  ·subst hm;by_cases hn:n=0
   ·subst hn;refine rL [.v,.l 0,.v,.v,.v,.l 0,.v,.v,.v,.v] H2 kr fun gs2 w2 H3=>?_;exact ⟨rfl,H3.as kr,Is.of ⟨kr,kr,kr,trivial⟩⟩
   ·have e5:(decide ((0:Nat)=0)&&decide (n=0))=false:=by simp [hn]
    rw [e5];refine rL [.v,.l 0,.v,.v,.v,.l 0,.v,.E (.bool ((n:Int)==0)) (.bool false) (za (beq_eq_false_iff_ne.2 (by omega))),.v,.v] H2 kr fun gs2 w2 H3=>?_;exact ⟨rfl,H3.as kr,Is.of ⟨kr,kr,kr,trivial⟩⟩
  ·have e5:(decide (m=0)&&decide (n=0))=false:=by simp [hm]
   rw [e5];refine rL [.v,.l 0,.E (.bool ((m:Int)==0)) (.bool false) (za (beq_eq_false_iff_ne.2 (by omega))),.v,.n,.n,.n,.n,.v,.v] H2 kr fun gs2 w2 H3=>?_;exact ⟨rfl,H3.as kr,Is.of ⟨kr,kr,kr,trivial⟩⟩
 rintro _ _ w3 ⟨rfl,H4,_,rfl⟩;refine wW<|zb kr<|rS [.v,.oe (ins:=[((.tmp 17),.string q)]) (v:=.int .u8 ((by_ q 0:Nat):Int)) (v':=.int .u8 98) (fun ρ o w ho hi2=>zO (t:=9) (kd:=.i64) kr (x:=(.tmp 17)) (y:=.const (.int .i64 0)) q 0 ho hi2.1 rfl hz w) (by rw [hc];rfl)] H4 kr fun gs3 w4 H5=>zn 0 kr<|rS [.v,.v] H5 kr fun gs5 w5 H6=>zi kr kr<|rS [.v,.v] H6 kr fun gs6 w6 H7=>zi kr kr<|rS [.v,.v] H7 kr fun gs7 w7 H8=>zi kr kr<|rS [.v,.v] H8 kr fun gs8 w8 H9=>zi kr kr<|rS [.v,.v] H9 kr fun gs9 w9 H10=>zf kr kr ?_;obtain ⟨pl,hpl⟩:∃pl,(decide (m=0)&&decide (n=0))=pl:=⟨_,rfl⟩
 refine yl 5 (v:=.bool (decide (m=0)&&decide (n=0))) (v':=.bool pl) (by rw [hpl]) kr ?_;cases pl with
 | true=>
  refine rS [.v,.v,.v,.l 0,.v,.E (.bool (decide ((s.size:Int)≤64))) (.bool (decide (s.size≤64))) (za (by rw [decide_eq_decide];omega)),.v,.v] H10 kr fun gs20 w20 H20=>?_;exact rRe [.tmp 4] [] (v:=.bool (decide (s.size≤64))) (v':=.bool (zu 98 0 m s.size n)) H20 (za (by rw [jL (by decide),hpl];simp)) kr
 | false=>
  refine rS [.v,.v,.n,.n,.n,.n,.v,.v] H10 kr fun gs20 w20 H20=>?_;exact rRe [.tmp 4] [] (v:=.bool false) (v':=.bool (zu 98 0 m s.size n)) H20 (za (by rw [jL (by decide),hpl];rfl)) kr
theorem zfs (q:ByteArray)(m:Nat)(s:ByteArray)(p:Option Addr)(n c:Nat)(hz:0<q.size)(hc:yo (by_ q 0)=true):Fn Tryz.prog 112 #[.string q,fld m s p n c] (.bool (zu (by_ q 0) 0 m s.size n)):=by
 rcases jo.1 hc with h|h|h|h|h
 ·rw [h];exact zlo q m s p n c hz h
 ·rw [h];exact zlp q m s p n c hz h
 ·rw [h];exact zlq q m s p n c hz h
 ·rw [h];exact zlr q m s p n c hz h
 ·rw [h];exact zls q m s p n c hz h
theorem zlt (q:ByteArray)(m:Nat)(s:ByteArray)(p:Option Addr)(n c:Nat)(l:Fe)(hq:q.size=2)(hc:by_ q 0=42)(hl:yo (by_ q 1)=true):FnP Tryz.prog 112 #[.string q,fld m s p n c] (fun w=>SlR fS w.heap.size w p n l) (.bool (zu 42 1 m s.size n&&yR (by_ q 1) l)):=by
 have hz:0<q.size:=by omega
 have hq1:(q.extract 1 q.size).size=1:=by rw [ByteArray.size_extract];omega
 have hq2:by_ (q.extract 1 q.size) 0=by_ q 1:=by
  unfold by_;rw [yO,List.take_of_length_le (by rw [zt];omega)];simp [List.getD_eq_getElem?_getD]
 have hfs:zu 42 1 m s.size n=((decide (m=0)&&decide (s.size=0))&&decide (n≤40)):=by
  unfold zu yL yg yj;rw [Bool.eq_iff_iff];simp [and_assoc]
 rw [hfs];refine FnP.intro (c:=zk Tryz.f112) [.tmp 4] 99 Tryz.func112 kr kr kr fun w hF=>rS [.b,.v] (St.start w) kr fun gs1 w1 H1=>?_;have H2:St w.heap.size w w1 [((gs1 0).b,fdO m s p n c)]:=H1.as kr;refine zb kr<|qA (Q:=fun e ρ ww=>e=.normal∧St w.heap.size w ww [((gs1 0).b,fdO m s p n c)]∧Is [(0,.string q),(3,.pointer (some ⟨(gs1 0).b,0,none⟩)),(5,.bool (decide (m=0)&&decide (n=0)))] ρ) ?_ ?_
 ·by_cases hm:m=0
  ·subst hm;by_cases hn:n=0
   ·subst hn;refine rL [.v,.l 0,.v,.v,.v,.l 0,.v,.v,.v,.v] H2 kr fun gs2 w2 H3=>?_;exact ⟨rfl,H3.as kr,Is.of ⟨kr,kr,kr,trivial⟩⟩
   ·have e5:(decide ((0:Nat)=0)&&decide (n=0))=false:=by simp [hn]
    rw [e5];refine rL [.v,.l 0,.v,.v,.v,.l 0,.v,.E (.bool ((n:Int)==0)) (.bool false) (za (beq_eq_false_iff_ne.2 (by omega))),.v,.v] H2 kr fun gs2 w2 H3=>?_;exact ⟨rfl,H3.as kr,Is.of ⟨kr,kr,kr,trivial⟩⟩
  ·have e5:(decide (m=0)&&decide (n=0))=false:=by simp [hm]
   rw [e5];refine rL [.v,.l 0,.E (.bool ((m:Int)==0)) (.bool false) (za (beq_eq_false_iff_ne.2 (by omega))),.v,.n,.n,.n,.n,.v,.v] H2 kr fun gs2 w2 H3=>?_;exact ⟨rfl,H3.as kr,Is.of ⟨kr,kr,kr,trivial⟩⟩
 rintro _ _ w3 ⟨rfl,H4,_,rfl⟩;refine wW<|zb kr<|rS [.v,.oe (ins:=[((.tmp 17),.string q)]) (v:=.int .u8 ((by_ q 0:Nat):Int)) (v':=.int .u8 42) (fun ρ o w ho hi2=>zO (t:=9) (kd:=.i64) kr (x:=(.tmp 17)) (y:=.const (.int .i64 0)) q 0 ho hi2.1 rfl hz w) (by rw [hc];rfl)] H4 kr fun gs3 w4 H5=>zn 0 kr<|rS [.v,.v] H5 kr fun gs5 w5 H6=>zi kr kr<|rS [.v,.v] H6 kr fun gs6 w6 H7=>zi kr kr<|rS [.v,.v] H7 kr fun gs7 w7 H8=>zi kr kr<|rS [.v,.v] H8 kr fun gs8 w8 H9=>zi kr kr<|rS [.v,.v] H9 kr fun gs9 w9 H10=>zi kr kr<|zj kr<|wW<|zb kr ?_;have hn:=hF.1;have hnm:n≤0x800000000000:=hF.2.1;by_cases hm:m=0
 ·subst hm;by_cases hs:s.size=0
  ·obtain rfl:=jm hs;refine rS [.v,.l 0,.v,.v,.v,.l 0,.v,.v] H10 kr fun gs11 w11 H11=>zi kr kr<|zj kr<|wW<|zb kr<|rS [.v,.oe (ins:=[((.tmp 74),.string q)]) (v:=.int .u8 ((by_ q 0:Nat):Int)) (v':=.int .u8 42) (fun ρ o w ho hi2=>zO (t:=9) (kd:=.i64) kr (x:=(.tmp 74)) (y:=.const (.int .i64 0)) q 0 ho hi2.1 rfl hz w) (by rw [hc];rfl),.v] H11 kr fun gs12 w12 H12=>zi kr kr<|zj kr<|wW<|zb kr<|rS [.v,.l 0,.v,.v] H12 kr fun gs13 w13 H13=>zn 1 kr ?_;have H14:St w.heap.size w w13 [((gs1 0).b,fdO 0 ⟨#[]⟩ p n c)]:=H13.as kr;refine zV kr (fun mz ρ ww=> ∃(i:Nat) (r:Fe),n-i=mz∧FrR fS w.heap.size w p i r∧i+r.len=n∧yR (by_ q 1) l=yR (by_ q 1) r∧St w.heap.size w ww [((gs1 0).b,fdO 0 ⟨#[]⟩ p n c)]∧Is [(0,.string q),(3,.pointer (some ⟨(gs1 0).b,0,none⟩)),(83,.slice p n c),(84,iN n),(85,iN i)] ρ) (n-0) ⟨0,l,rfl,hF.start,by omega,rfl,H14,(Is.of ⟨kr,kr,kr,kr,kr,trivial⟩)⟩ ?_;clear H4 H5 H6 H7 H8 H9 H10 H11 H12 H13 H14;rintro _ _ w14 ⟨i,r,rfl,hR,hN,hst,H15,_,rfl⟩;by_cases hi:i<n
   ·refine rS [.E (.bool (decide ((i:Int)<(n:Int)))) (.bool true) (za (decide_eq_true (by omega)))] H15 kr fun gs16 w16 H16=>zb kr<|zf kr kr<|zj kr<|wW<|zb kr<|zn 2 kr ?_;obtain ⟨⟨m1,s1⟩,k1,r1,b1,off1,C1,T1,fz1,p1,n1,c1,rfl,hp1,hb1,hh1,hs1,hx1,hz1,hk1,hR1,hN1⟩:=FrR.open hR hN hi;refine rS [.o (ins:=[((.tmp 83),.slice p n c),((.tmp 85),iN i)]) (v:=.pointer (some ⟨b1,off1+i*3,none⟩)) (fun ρ o w ho hi2=>yD (kd:=.i64) (t:=41) (e:=44) (K:=3) (bytes:=48) kr (x:=(.tmp 83)) (y:=(.tmp 85)) b1 off1 n c i hp1 ho hi2.1 hi2.2.1 (by omega) w),.fp (off:=off1+i*3) (n:=3) (W:=#[.int .u64 (m1:Int),.string s1,.slice p1 n1 c1]) hh1 hb1 hs1 hx1,.a,.s 1] H16 kr fun gs17 w17 H17=>?_;have hcall:=zfs (q.extract 1 q.size) m1 s1 p1 n1 c1 (by omega) (by rw [hq2];exact hl);rw [hq2] at hcall;have hk1n:n1=k1.len:=hk1.1;cases hf:zu (by_ q 1) 0 m1 s1.size n1 with
    | true=>
     rw [hf] at hcall;refine dS [.v,.o (ins:=[((.tmp 89),.string q)]) (v:=.string (q.extract 1 q.size)) (fun ρ o w ho hi2=>kq (t:=9) (kz:=.i64) kr (x:=(.tmp 89)) (z:=.const (.int .i64 1)) q 1 ho hi2.1 rfl (by omega) w),.l 1,.c hcall,.v] H17 kr fun w18 H18=>zi kr kr<|zj kr<|wW<|rL [.E (.int .i64 (IntKind.i64.wrap ((i:Int)+1))) (iN (i+1)) (zd (zs (a:=i) (b:=1) (by omega))),.v] H18 kr fun gs19 w19 H19=>?_;have H20:St w.heap.size w w19 [((gs1 0).b,fdO 0 ⟨#[]⟩ p n c)]:=(show St w.heap.size w w19 [((gs1 0).b,fdO 0 ⟨#[]⟩ p n c),((gs17 2).b,fdO m1 s1 p1 n1 c1)] from H19).sub (List.Sublist.cons_cons _ (List.nil_sublist _));show ∃m,_∧_;refine ⟨_,(by omega),i+1,r1,rfl,hR1,hN1,?_,H20,(Is.of ⟨kr,kr,kr,kr,kr,trivial⟩)⟩;rw [hst];simp only [yR];rw [←hk1n,hf,Bool.true_and]
    | false=>
     rw [hf] at hcall;refine dS [.v,.o (ins:=[((.tmp 89),.string q)]) (v:=.string (q.extract 1 q.size)) (fun ρ o w ho hi2=>kq (t:=9) (kz:=.i64) kr (x:=(.tmp 89)) (z:=.const (.int .i64 1)) q 1 ho hi2.1 rfl (by omega) w),.l 1,.c hcall,.v] H17 kr fun w18 H18=>zf kr kr<|rS [.v] H18 kr fun gs19 w19 H19=>?_;exact rRe [.tmp 4] [] (v:=.bool false) (v':=.bool (((decide ((0:Nat)=0)&&decide (ByteArray.size ⟨#[]⟩=0))&&decide (n≤40))&&yR (by_ q 1) l)) H19 (za (by rw [hst];simp only [yR];rw [←hk1n,hf];simp)) kr
   ·refine rS [.E (.bool (decide ((i:Int)<(n:Int)))) (.bool false) (za (decide_eq_false (by omega)))] H15 kr fun gs16 w16 H16=>zb kr<|zi kr kr<|zN 1 kr<|wW ?_;obtain rfl:=FrR.done hN hi;refine rS [.v,.l 0,.v,.E (.bool (decide ((n:Int)≤40))) (.bool (decide (n≤40))) (za (by rw [decide_eq_decide];omega)),.v] H16 kr fun gs17 w17 H17=>?_;exact rRe [.tmp 4] [] (v:=.bool (decide (n≤40))) (v':=.bool (((decide ((0:Nat)=0)&&decide (ByteArray.size ⟨#[]⟩=0))&&decide (n≤40))&&yR (by_ q 1) l)) H17 (za (by rw [hst];show decide (n≤40)=((true&&decide (n≤40))&&true);simp)) kr
  ·refine rS [.v,.l 0,.v,.v,.v,.l 0,.E (.bool (!(s.toList==(⟨#[]⟩:ByteArray).toList))) (.bool true) (za (by rw [zfr,decide_eq_false hs];rfl)),.v] H10 kr fun gs11 w11 H11=>zf kr kr<|rS [.v] H11 kr fun gs12 w12 H12=>?_;exact rRe [.tmp 4] [] (v:=.bool false) (v':=.bool (((decide ((0:Nat)=0)&&decide (s.size=0))&&decide (n≤40))&&yR (by_ q 1) l)) H12 (za (by simp [hs])) kr
 ·refine rS [.v,.l 0,.E (.bool (!((m:Int)==0))) (.bool true) (za (by rw [beq_eq_false_iff_ne.2 (show (m:Int)≠0 by omega)];rfl)),.v,.n,.n,.n,.v] H10 kr fun gs11 w11 H11=>zf kr kr<|rS [.v] H11 kr fun gs12 w12 H12=>?_;exact rRe [.tmp 4] [] (v:=.bool false) (v':=.bool (((decide (m=0)&&decide (s.size=0))&&decide (n≤40))&&yR (by_ q 1) l)) H12 (za (by simp [hm])) kr
theorem zlu (q:ByteArray)(m:Nat)(s:ByteArray)(p:Option Addr)(n c:Nat)(l:Fe)(hk:kdOk q=true):FnP Tryz.prog 112 #[.string q,fld m s p n c] (fun w=>SlR fS w.heap.size w p n l) (.bool (yS q (m,s) l)):=fun w hF=>by
 have hn:=hF.1;rcases uT.1 hk with ⟨h1,h2⟩ | ⟨h1,h2,h3⟩
 ·have hne: ¬by_ q 0=42:=by rw [jo] at h2;omega
  have eb:kdB q=.nil:=by unfold kdB;rw [if_neg hne]
  have e:yS q (m,s) l=zu (by_ q 0) 0 m s.size n:=by
   unfold yS;rw [eb,beq_eq_false_iff_ne.2 hne,hn];simp [Fr.len]
  rw [e];exact zfs q m s p n c (by omega) h2 w
 ·have eb:kdB q=.cons (by_ q 1) .nil .nil:=by unfold kdB;rw [if_pos h2]
  have e:yS q (m,s) l=(zu 42 1 m s.size n&&yR (by_ q 1) l):=by
   unfold yS;rw [eb,h2,hn];simp [Fr.len]
  rw [e];exact zlt q m s p n c l h1 h2 h3 w hF
theorem zlv (ks:List ByteArray)(hk: ∀q∈ks,kdOk q=true)(kp:Option Addr)(kn kc:Nat)(p:Option Addr)(n c:Nat)(l:Fe)(hkn:kn≤1000):FnP Tryz.prog 83 #[.slice kp kn kc,.slice p n c] (fun w=>AtF sS w kp kn ks∧SlR fS w.heap.size w p n l) (.bool (yt ks l)):=by
 refine FnP.intro (c:=zk Tryz.f83) [.tmp 4] 27 Tryz.func83 kr kr kr fun w hP=>?_;obtain ⟨⟨hA,hA2⟩,hF⟩:=hP;have hn:=hF.1;have hnm:n≤0x800000000000:=hF.2.1;have H0:=St.start w;refine rS [.v] H0 kr fun gs1 w1 H1=>zb kr ?_;by_cases hl:kn=n
 ·refine rS [.v,.v,.v,.v,.E (.bool (!((kn:Int)==(n:Int)))) (.bool false) (za (by rw [kI,decide_eq_true hl];rfl))] H1 kr fun gs2 w2 H2=>zi kr kr<|zj kr<|wW<|zb kr<|rS [.v,.v,.v] H2 kr fun gs3 w3 H3=>zn 0 kr ?_;have H4:St w.heap.size w w3 []:=H3.as kr;refine zV kr (fun mz ρ ww=> ∃(i:Nat) (r:Fe),n-i=mz∧FrR fS w.heap.size w p i r∧i+r.len=n∧yt ks l=yt (ks.drop i) r∧St w.heap.size w ww []∧Is [(0,.slice kp kn kc),(1,.slice p n c),(12,iN n),(13,iN i)] ρ) (n-0) ⟨0,l,rfl,hF.start,by omega,rfl,H4,(Is.of ⟨kr,kr,kr,kr,trivial⟩)⟩ ?_;clear H0 H1 H2 H3 H4;rintro _ _ w4 ⟨i,r,rfl,hR,hN,hst,H5,_,rfl⟩;by_cases hi:i<n
  ·have hiA:i<ks.length:=by omega
   rcases hA2 with rfl|⟨ba,oa,CA,TA,fa,rfl,hha,hRa⟩
   ·exact absurd hiA (Nat.not_lt_zero _)
   have ca:CA[oa+i*1]? =some (.string ks[i]):=hRa.cell (List.getElem?_eq_getElem hiA) 0 (by decide);refine rS [.E (.bool (decide ((i:Int)<(n:Int)))) (.bool true) (za (decide_eq_true (by omega)))] H5 kr fun gs4 w5 H6=>zb kr<|zf kr kr<|zj kr<|wW<|zb kr<|zn 1 kr<|rS [.v,.v] H6 kr fun gs5 w6 H7=>?_;obtain ⟨⟨m1,s1⟩,k1,r1,b1,off1,C1,T1,fz1,p1,n1,c1,rfl,hp1,hb1,hh1,hs1,hx1,hz1,hk1,hR1,hN1⟩:=FrR.open hR hN hi;have hcall:=zlu ks[i] m1 s1 p1 n1 c1 k1 (hk _ (List.getElem_mem hiA));have hal:yt (ks.drop i) (.cons (m1,s1) k1 r1)=(yS ks[i] (m1,s1) k1&&yt (ks.drop (i+1)) r1):=by
    rw [List.drop_eq_getElem_cons hiA];rfl
   cases hf:yS ks[i] (m1,s1) k1 with
   | true=>
    rw [hf] at hcall hal;refine dS [.v,.v,.o (ins:=[((.tmp 16),.slice (some ⟨ba,oa,none⟩) kn kc),((.tmp 17),iN i)]) (v:=.pointer (some ⟨ba,oa+i*1,none⟩)) (fun ρ o w ho hi2=>zM (kd:=.i64) (t:=23) (e:=9) (K:=1) (bytes:=16) kr (x:=(.tmp 16)) (y:=(.tmp 17)) ba oa kn kc i rfl ho hi2.1 hi2.2.1 (by omega) w),.fs (off:=oa+i*1) (v:=.string ks[i]) hha (zq hha) ca,.v,.v,.o (ins:=[((.tmp 20),.slice p n c),((.tmp 21),iN i)]) (v:=.pointer (some ⟨b1,off1+i*3,none⟩)) (fun ρ o w ho hi2=>yD (kd:=.i64) (t:=41) (e:=44) (K:=3) (bytes:=48) kr (x:=(.tmp 20)) (y:=(.tmp 21)) b1 off1 n c i hp1 ho hi2.1 hi2.2.1 (by omega) w),.fp (off:=off1+i*3) (n:=3) (W:=#[.int .u64 (m1:Int),.string s1,.slice p1 n1 c1]) hh1 hb1 hs1 hx1,.cp (pre:=fun w=>SlR fS w.heap.size w p1 n1 k1) hcall [] (fun w hb hd=>hk1.call hb),.v] H7 kr fun w7 H8=>zi kr kr<|zj kr<|wW<|rL [.E (.int .i64 (IntKind.i64.wrap ((i:Int)+1))) (iN (i+1)) (zd (zs (a:=i) (b:=1) (by omega))),.v] H8 kr fun gs7 w8 H9=>?_;show ∃m,_∧_;exact ⟨_,(by omega),i+1,r1,rfl,hR1,hN1,by rw [hst,hal,Bool.true_and],H9.as kr,(Is.of ⟨kr,kr,kr,kr,trivial⟩)⟩
   | false=>
    rw [hf] at hcall hal;refine dS [.v,.v,.o (ins:=[((.tmp 16),.slice (some ⟨ba,oa,none⟩) kn kc),((.tmp 17),iN i)]) (v:=.pointer (some ⟨ba,oa+i*1,none⟩)) (fun ρ o w ho hi2=>zM (kd:=.i64) (t:=23) (e:=9) (K:=1) (bytes:=16) kr (x:=(.tmp 16)) (y:=(.tmp 17)) ba oa kn kc i rfl ho hi2.1 hi2.2.1 (by omega) w),.fs (off:=oa+i*1) (v:=.string ks[i]) hha (zq hha) ca,.v,.v,.o (ins:=[((.tmp 20),.slice p n c),((.tmp 21),iN i)]) (v:=.pointer (some ⟨b1,off1+i*3,none⟩)) (fun ρ o w ho hi2=>yD (kd:=.i64) (t:=41) (e:=44) (K:=3) (bytes:=48) kr (x:=(.tmp 20)) (y:=(.tmp 21)) b1 off1 n c i hp1 ho hi2.1 hi2.2.1 (by omega) w),.fp (off:=off1+i*3) (n:=3) (W:=#[.int .u64 (m1:Int),.string s1,.slice p1 n1 c1]) hh1 hb1 hs1 hx1,.cp (pre:=fun w=>SlR fS w.heap.size w p1 n1 k1) hcall [] (fun w hb hd=>hk1.call hb),.v] H7 kr fun w7 H8=>zf kr kr<|rS [.v] H8 kr fun gs7 w8 H9=>?_;exact rRe [.tmp 4] [] (v:=.bool false) (v':=.bool (yt ks l)) H9 (za (by rw [hst,hal];rfl)) kr
  ·obtain rfl:=FrR.done hN hi;refine rS [.E (.bool (decide ((i:Int)<(n:Int)))) (.bool false) (za (decide_eq_false (by omega)))] H5 kr fun gs4 w5 H6=>zb kr<|zi kr kr<|zN 0 kr<|wW<|rS [.v] H6 kr fun gs5 w6 H7=>?_;have e0:ks.drop i=[]:=List.drop_eq_nil_of_le (by simp only [Fr.len] at hN;omega);exact rRe [.tmp 4] [] (v:=.bool true) (v':=.bool (yt ks l)) H7 (za (by rw [hst,e0];rfl)) kr
 ·refine rS [.v,.v,.v,.v,.E (.bool (!((kn:Int)==(n:Int)))) (.bool true) (za (by rw [kI,decide_eq_false hl];rfl))] H1 kr fun gs2 w2 H2=>zf kr kr<|rS [.v] H2 kr fun gs3 w3 H3=>?_;have hno:yt ks l=false:=Bool.eq_false_iff.2 fun h=>hl (by rw [hA,hn,vI h]);exact rRe [.tmp 4] [] (v:=.bool false) (v':=.bool (yt ks l)) H3 (za hno.symm) kr
def kJ (B:Nat)(w:World)(A:List (El (Nat×ByteArray))):Prop:= ∀x∈A,SlR fS B w x.p x.n x.k
theorem kJ.snoc {B:Nat}{w:World}{A:List (El (Nat×ByteArray))}{x:El (Nat×ByteArray)}(h:kJ B w A)(hx:SlR fS B w x.p x.n x.k):kJ B w (A++ [x]):=fun y hy=>by
 rcases List.mem_append.1 hy with q|q
 ·exact h y q
 ·obtain rfl:=List.mem_singleton.1 q;exact hx
abbrev Fel:=El (Nat×ByteArray)
def qc:List Fel→Nat
 | []=>0
 | x::r=>x.k.cnt+qc r
theorem zcd: ∀L M,qc (L++M)=qc L+qc M
 | [],M=>by simp [qc]
 | x::r,M=>by simp only [List.cons_append,qc,zcd r M];omega
theorem zft: ∀(L:List Fel) (i:Nat) (x:Fel),L[i]? =some x→qc (L.drop i)=x.k.cnt+qc (L.drop (i+1))
 | [],_,_,h=>by simp at h
 | y::r,0,x,h=>by simp at h;subst h;simp [qc]
 | y::r,i+1,x,h=>by
  have:=zft r i x (by simpa using h)
  simpa using this
theorem Cnt.begin (t:Nat):Cnt t 1000 0 (qc []+t):=⟨by omega,fun _=>by simp [qc],fun h=>absurd h (by omega)⟩
theorem Cnt.pushE {t N:Nat}{A:List Fel}{r k1 r1:Fe}{m1:Nat×ByteArray}{p1:Option Addr}{n1 c1:Nat}(h:Cnt t 1000 N (qc A+r.cnt))(hr:r=.cons m1 k1 r1)(hn:N≤1000):Cnt t 1000 (N+1) (qc (A++ [(⟨m1,p1,n1,c1,k1⟩:Fel)])+r1.cnt):=by
 subst hr;refine Cnt.push (kc:=k1.cnt) (rc:=r1.cnt) h hn ?_;rw [zcd];rfl
theorem Cnt.pushD {t N q:Nat}{A:List Fel}{r k1 r1:Fe}{m1:Nat×ByteArray}{p1:Option Addr}{n1 c1:Nat}(h:Cnt t 1000 N (qc (A.drop q)+r.cnt))(hr:r=.cons m1 k1 r1)(hn:N≤1000)(hq:q≤A.length):Cnt t 1000 (N+1) (qc ((A++ [(⟨m1,p1,n1,c1,k1⟩:Fel)]).drop q)+r1.cnt):=by
 subst hr;refine Cnt.push (kc:=k1.cnt) (rc:=r1.cnt) h hn ?_;rw [List.drop_append_of_le_length hq,zcd];rfl
theorem zfu (p:Option Addr)(n c:Nat)(l:Fe):FnP Tryz.prog 82 #[.slice p n c,.int .i64 1000] (fun w=>SlR fS w.heap.size w p n l) (iN (qo l.cnt 1000)):=by
 refine FnP.intro (c:=zk Tryz.f82) [.tmp 4] 60 Tryz.func82 kr kr kr fun w hF=>?_;have H0:=St.start w;have hn:=hF.1;have hnm:n≤0x800000000000:=hF.2.1;refine rS [.v] H0 kr fun gs1 w1 H1=>rS [.nw (fun b=>.slice (some ⟨b,0,none⟩) 0 0) #[] 44,.v] H1 kr fun gs2 w2 H2=>zb kr<|zb kr<|rL [.v,.v,.v] H2 kr fun gs3 w3 H3=>wW<|zn 0 kr ?_;have H4:St w.heap.size w w3 [((gs2 0).b,frO #[])]:=H3.as kr;clear H0 H1 H2 H3;refine zV kr (fun mz ρ ww=> ∃(i:Nat) (r:Fe) (A:List (El (Nat×ByteArray))) (N bo cap:Nat) (cur:Array Value),n-i=mz∧N=A.length∧FrR fS w.heap.size w p i r∧i+r.len=n∧kJ w.heap.size w A∧N≤1001∧Cnt l.cnt 1000 N (qc A+r.cnt)∧Rw 3 cur cap N (zI fS A)∧St w.heap.size w ww [(bo,frO cur)]∧Is [(1,.int .i64 1000),(5,.slice (some ⟨bo,0,none⟩) N cap),(12,.slice p n c),(13,.int .i64 (n:Int)),(14,.int .i64 (i:Int))] ρ) (n-0) ⟨0,l,[],0,(gs2 0).b,0,#[],rfl,rfl,hF.start,by omega,(fun _ h=>nomatch h),by omega,Cnt.begin _,⟨rfl,Nat.le_refl _,by unfold maxLen;omega,rfl,rfl⟩,H4,(Is.of ⟨kr,kr,kr,kr,kr,trivial⟩)⟩ ?_;clear H4;rintro _ _ w4 ⟨i,r,A,N,bo,cap,cur,rfl,hNA,hR,hN,hA,hN5,hC,hRw,H5,_,rfl⟩;by_cases hi:i<n
 ·refine rS [.E (.bool (decide ((i:Int)<(n:Int)))) (.bool true) (za (decide_eq_true (by omega)))] H5 kr fun gs4 w5 H6=>zb kr<|zf kr kr<|zj kr<|wW<|zb kr<|zn 1 kr ?_;obtain ⟨⟨m1,s1⟩,k1,r1,b1,off1,C1,T1,fz1,p1,n1,c1,hr1,hp1,hb1,hh1,hs1,hx1,hz1,hk1,hR1,hN1⟩:=FrR.open hR hN hi;refine rS [.o (ins:=[((.tmp 12),.slice p n c),((.tmp 14),.int .i64 (i:Int))]) (v:=.pointer (some ⟨b1,off1+i*3,none⟩)) (fun ρ o w ho hi2=>yD (kd:=.i64) (t:=41) (e:=44) (K:=3) (bytes:=48) kr (x:=(.tmp 12)) (y:=(.tmp 14)) b1 off1 n c i hp1 ho hi2.1 hi2.2.1 (by omega) w),.fp (off:=off1+i*3) (n:=3) (W:=#[.int .u64 (m1:Int),.string s1,.slice p1 n1 c1]) hh1 hb1 hs1 hx1,.a,.s 1] H6 kr fun gs5 w6 H7=>?_;by_cases h1000:N≤1000
  ·refine rS [.v,.v,.v,.E (.bool (decide ((N:Int)≤1000))) (.bool true) (za (decide_eq_true (by omega)))] H7 kr fun gs6 w7 H8=>zf kr kr<|yv [0,1,2,3,4] kr<|rp [.v,.l 1] H8 kr fun gs7 w8 H9=>wX [2,3,4] ?_;have H10:St w.heap.size w w8 [(bo,frO cur),((gs5 2).b,fdO m1 s1 p1 n1 c1)]:=H9.as kr;refine zaX H10 (some 24) (fun b=>.slice (some ⟨b,0,none⟩) 1 1) #[.int .u64 (m1:Int),.string s1,.slice p1 n1 c1] 44 (fun w=>by kernel_rfl) kr ?_;intro bn w9 H11;refine zbN (K':=3) H11 (some 25) 41 44 48 (.tmp 22) (.tmp 24) 1 0 bo bn N cap 1 cur #[.int .u64 (m1:Int),.string s1,.slice p1 n1 c1] (zI fS A) kr kr kr kr kr hRw kr kr rfl (jA rfl) (by omega) (by unfold maxLen;omega) ?_;intro b' cap' cur' w10 H12 hr';have H13:St w.heap.size w w10 [(b',frO cur')]:=(show St w.heap.size w w10 [(bn,frO #[.int .u64 (m1:Int),.string s1,.slice p1 n1 c1]),(b',frO cur'),((gs5 2).b,fdO m1 s1 p1 n1 c1)] from H12).sub (List.Sublist.cons _ (List.Sublist.cons_cons _ (List.nil_sublist _)));refine rp [.v] H13 kr fun gs8 w11 H14=>wX []<|zc<|wW<|rL [.E (.int .i64 (IntKind.i64.wrap ((i:Int)+1))) (.int .i64 ((i+1:Nat):Int)) (zd (zs (a:=i) (b:=1) (by omega))),.v] H14 kr fun gs9 w12 H15=>?_;show ∃m,_∧_;refine ⟨_,(by omega),i+1,r1,A++ [(⟨(m1,s1),p1,n1,c1,k1⟩:El (Nat×ByteArray))],N+1,b',cap',cur',rfl,by rw [List.length_append,←hNA];rfl,hR1,hN1,hA.snoc hk1,by omega,Cnt.pushE hC hr1 h1000,?_,H15.as kr,(Is.of ⟨kr,kr,kr,kr,kr,trivial⟩)⟩;rw [xU];exact hr'
  ·refine rS [.v,.v,.v,.E (.bool (decide ((N:Int)≤1000))) (.bool false) (za (decide_eq_false (by omega)))] H7 kr fun gs6 w7 H8=>zi kr kr<|zj kr<|wW ?_;have H13:St w.heap.size w w7 [(bo,frO cur)]:=(show St w.heap.size w w7 [(bo,frO cur),((gs5 2).b,fdO m1 s1 p1 n1 c1)] from H8).sub (List.Sublist.cons_cons _ (List.nil_sublist _));refine rL [.E (.int .i64 (IntKind.i64.wrap ((i:Int)+1))) (.int .i64 ((i+1:Nat):Int)) (zd (zs (a:=i) (b:=1) (by omega))),.v] H13 kr fun gs9 w12 H15=>?_;show ∃m,_∧_;exact ⟨_,(by omega),i+1,r1,A,N,bo,cap,cur,rfl,hNA,hR1,hN1,hA,hN5,Cnt.full hC h1000,hRw,H15.as kr,(Is.of ⟨kr,kr,kr,kr,kr,trivial⟩)⟩
 ·refine rS [.E (.bool (decide ((i:Int)<(n:Int)))) (.bool false) (za (decide_eq_false (by omega)))] H5 kr fun gs4 w5 H6=>zb kr<|zi kr kr<|zN 0 kr<|wW<|zb kr<|rS [.v] H6 kr fun gs5 w6 H7=>zn 2 kr ?_;have H8:St w.heap.size w w6 [(bo,frO cur)]:=H7.as kr;have hC0:Cnt l.cnt 1000 N (qc (A.drop 0)):=by rw [FrR.done hN hi] at hC;exact hC
  refine zV kr (fun mz ρ ww=> ∃(q:Nat) (A:List (El (Nat×ByteArray))) (N bo cap:Nat) (cur:Array Value),1002-q=mz∧N=A.length∧kJ w.heap.size w A∧N≤1001∧q≤N∧Cnt l.cnt 1000 N (qc (A.drop q))∧Rw 3 cur cap N (zI fS A)∧St w.heap.size w ww [(bo,frO cur)]∧Is [(1,.int .i64 1000),(5,.slice (some ⟨bo,0,none⟩) N cap),(8,.int .i64 (q:Int))] ρ) (1002-0) ⟨0,A,N,bo,cap,cur,rfl,hNA,hA,hN5,Nat.zero_le _,hC0,hRw,H8,(Is.of ⟨kr,kr,kr,trivial⟩)⟩ ?_;clear H5 H6 H7 H8 hC0 hC hR hN hi hRw hA hNA hN5;clear bo cap cur N A i r;rintro _ _ w4 ⟨q,A,N,bo,cap,cur,rfl,hNA,hA,hN5,hq,hC,hRw,H5,_,rfl⟩;by_cases hqN:q<N
  ·by_cases h1000:N≤1000
   ·refine zb kr<|zb kr<|rL [.v,.v,.v,.E (.bool (decide ((q:Int)<(N:Int)))) (.bool true) (za (decide_eq_true (by omega))),.v,.v,.v,.v,.E (.bool (decide ((N:Int)≤1000))) (.bool true) (za (decide_eq_true (by omega))),.v] H5 kr fun gs4 w5 H6=>wW<|zf kr kr<|zj kr<|wW ?_;obtain ⟨x,hx⟩:∃x,A[q]? =some x:=⟨_,List.getElem?_eq_getElem (by omega)⟩
    have hxA:=hA x (List.mem_of_getElem? hx);have hxn:=hxA.1;have hxm:x.n≤0x800000000000:=hxA.2.1;have hcell:cur[0+q*3+2]? =some (.slice x.p x.n x.c):=by
     rw [Nat.zero_add,hRw.get _ (by omega)];exact zbc (S:=fS) A q x hx 2 (by decide)
    refine zb kr<|zn 3 kr<|rS [.v,.v,.o (ins:=[((.tmp 39),.slice (some ⟨bo,0,none⟩) N cap),((.tmp 40),.int .i64 (q:Int))]) (v:=.pointer (some ⟨bo,0+q*3,none⟩)) (fun ρ o w ho hi2=>yD (kd:=.i64) (t:=41) (e:=44) (K:=3) (bytes:=48) kr (x:=(.tmp 39)) (y:=(.tmp 40)) bo 0 N cap q rfl ho hi2.1 hi2.2.1 (by omega) w),.v,.ls 0 (C:=cur) (off:=0+q*3+2) (v:=.slice x.p x.n x.c) hcell,.v,.v] H6 kr fun gs5 w6 H7=>zn 4 kr ?_;have H8:St w.heap.size w w6 [(bo,frO cur)]:=H7.as kr;clear H5 H6 H7;refine zV kr (fun mz ρ ww=> ∃(i:Nat) (r:Fe) (A:List (El (Nat×ByteArray))) (N bo cap:Nat) (cur:Array Value),x.n-i=mz∧N=A.length∧FrR fS w.heap.size w x.p i r∧i+r.len=x.n∧kJ w.heap.size w A∧N≤1001∧q<N∧Cnt l.cnt 1000 N (qc (A.drop (q+1))+r.cnt)∧Rw 3 cur cap N (zI fS A)∧St w.heap.size w ww [(bo,frO cur)]∧Is [(1,.int .i64 1000),(5,.slice (some ⟨bo,0,none⟩) N cap),(8,.int .i64 (q:Int)),(43,.slice x.p x.n x.c),(44,.int .i64 ((x.n:Nat):Int)),(45,.int .i64 (i:Int))] ρ) (x.n-0) ⟨0,x.k,A,N,bo,cap,cur,rfl,hNA,hxA.start,by omega,hA,hN5,hqN,(by rw [zft A q x hx,Nat.add_comm] at hC;exact hC),hRw,H8,(Is.of ⟨kr,kr,kr,kr,kr,kr,trivial⟩)⟩ ?_;clear H8 hC hRw hA hNA hN5 hcell hx h1000 hqN hq;clear bo cap cur N A;rintro _ _ w4 ⟨i,r,A,N,bo,cap,cur,rfl,hNA,hR,hN,hA,hN5,hqN,hC,hRw,H5,_,rfl⟩;by_cases hi:i<x.n
    ·refine rS [.E (.bool (decide ((i:Int)<((x.n:Nat):Int)))) (.bool true) (za (decide_eq_true (by omega)))] H5 kr fun gs4 w5 H6=>zb kr<|zf kr kr<|zj kr<|wW<|zb kr<|zn 5 kr ?_;obtain ⟨⟨m1,s1⟩,k1,r1,b1,off1,C1,T1,fz1,p1,n1,c1,hr1,hp1,hb1,hh1,hs1,hx1,hz1,hk1,hR1,hN1⟩:=FrR.open hR hN hi;refine rS [.o (ins:=[((.tmp 43),.slice x.p x.n x.c),((.tmp 45),.int .i64 (i:Int))]) (v:=.pointer (some ⟨b1,off1+i*3,none⟩)) (fun ρ o w ho hi2=>yD (kd:=.i64) (t:=41) (e:=44) (K:=3) (bytes:=48) kr (x:=(.tmp 43)) (y:=(.tmp 45)) b1 off1 x.n x.c i hp1 ho hi2.1 hi2.2.1 (by omega) w),.fp (off:=off1+i*3) (n:=3) (W:=#[.int .u64 (m1:Int),.string s1,.slice p1 n1 c1]) hh1 hb1 hs1 hx1,.a,.s 1] H6 kr fun gs5 w6 H7=>?_;by_cases h1000:N≤1000
     ·refine rS [.v,.v,.v,.E (.bool (decide ((N:Int)≤1000))) (.bool true) (za (decide_eq_true (by omega)))] H7 kr fun gs6 w7 H8=>zf kr kr<|yv [0,1,2,3,4] kr<|rp [.v,.l 1] H8 kr fun gs7 w8 H9=>wX [2,3,4] ?_;have H10:St w.heap.size w w8 [(bo,frO cur),((gs5 2).b,fdO m1 s1 p1 n1 c1)]:=H9.as kr;refine zaX H10 (some 55) (fun b=>.slice (some ⟨b,0,none⟩) 1 1) #[.int .u64 (m1:Int),.string s1,.slice p1 n1 c1] 44 (fun w=>by kernel_rfl) kr ?_;intro bn w9 H11;refine zbN (K':=3) H11 (some 56) 41 44 48 (.tmp 53) (.tmp 55) 1 0 bo bn N cap 1 cur #[.int .u64 (m1:Int),.string s1,.slice p1 n1 c1] (zI fS A) kr kr kr kr kr hRw kr kr rfl (jA rfl) (by omega) (by unfold maxLen;omega) ?_;intro b' cap' cur' w10 H12 hr';have H13:St w.heap.size w w10 [(b',frO cur')]:=(show St w.heap.size w w10 [(bn,frO #[.int .u64 (m1:Int),.string s1,.slice p1 n1 c1]),(b',frO cur'),((gs5 2).b,fdO m1 s1 p1 n1 c1)] from H12).sub (List.Sublist.cons _ (List.Sublist.cons_cons _ (List.nil_sublist _)));refine rp [.v] H13 kr fun gs8 w11 H14=>wX []<|zc<|wW<|rL [.E (.int .i64 (IntKind.i64.wrap ((i:Int)+1))) (.int .i64 ((i+1:Nat):Int)) (zd (zs (a:=i) (b:=1) (by omega))),.v] H14 kr fun gs9 w12 H15=>?_;show ∃m,_∧_;refine ⟨_,(by omega),i+1,r1,A++ [(⟨(m1,s1),p1,n1,c1,k1⟩:El (Nat×ByteArray))],N+1,b',cap',cur',rfl,by rw [List.length_append,←hNA];rfl,hR1,hN1,hA.snoc hk1,by omega,by omega,Cnt.pushD hC hr1 h1000 (by omega),?_,H15.as kr,(Is.of ⟨kr,kr,kr,kr,kr,kr,trivial⟩)⟩;rw [xU];exact hr'
     ·refine rS [.v,.v,.v,.E (.bool (decide ((N:Int)≤1000))) (.bool false) (za (decide_eq_false (by omega)))] H7 kr fun gs6 w7 H8=>zi kr kr<|zj kr<|wW ?_;have H13:St w.heap.size w w7 [(bo,frO cur)]:=(show St w.heap.size w w7 [(bo,frO cur),((gs5 2).b,fdO m1 s1 p1 n1 c1)] from H8).sub (List.Sublist.cons_cons _ (List.nil_sublist _));refine rL [.E (.int .i64 (IntKind.i64.wrap ((i:Int)+1))) (.int .i64 ((i+1:Nat):Int)) (zd (zs (a:=i) (b:=1) (by omega))),.v] H13 kr fun gs9 w12 H15=>?_;show ∃m,_∧_;exact ⟨_,(by omega),i+1,r1,A,N,bo,cap,cur,rfl,hNA,hR1,hN1,hA,hN5,hqN,Cnt.full hC h1000,hRw,H15.as kr,(Is.of ⟨kr,kr,kr,kr,kr,kr,trivial⟩)⟩
    ·refine rS [.E (.bool (decide ((i:Int)<((x.n:Nat):Int)))) (.bool false) (za (decide_eq_false (by omega)))] H5 kr fun gs4 w5 H6=>zb kr<|zi kr kr<|zN 4 kr<|wW<|rL [.v,.E (.int .i64 (IntKind.i64.wrap ((q:Int)+1))) (.int .i64 ((q+1:Nat):Int)) (zd (zs (a:=q) (b:=1) (by omega))),.v] H6 kr fun gs5 w6 H7=>?_;show ∃m,_∧_;exact ⟨_,(by omega),q+1,A,N,bo,cap,cur,rfl,hNA,hA,hN5,hqN,(by rw [FrR.done hN hi] at hC;exact hC),hRw,H7.as kr,(Is.of ⟨kr,kr,kr,trivial⟩)⟩
   ·refine zb kr<|zb kr<|rL [.v,.v,.v,.E (.bool (decide ((q:Int)<(N:Int)))) (.bool true) (za (decide_eq_true (by omega))),.v,.v,.v,.v,.E (.bool (decide ((N:Int)≤1000))) (.bool false) (za (decide_eq_false (by omega))),.v] H5 kr fun gs4 w5 H6=>wW<|zi kr kr<|zN 2 kr<|wW<|rS [.v,.v,.v] H6 kr fun gs5 w6 H7=>?_;exact rRe [.tmp 4] [] (v:=iN N) (v':=iN (qo l.cnt 1000)) H7 (by rw [Cnt.done (.inr ⟨_,hC,by omega⟩)]) kr
  ·refine zb kr<|zb kr<|rL [.v,.v,.v,.E (.bool (decide ((q:Int)<(N:Int)))) (.bool false) (za (decide_eq_false (by omega))),.v,.n,.n,.n,.n,.v] H5 kr fun gs4 w5 H6=>wW<|zi kr kr<|zN 2 kr<|wW<|rS [.v,.v,.v] H6 kr fun gs5 w6 H7=>?_;exact rRe [.tmp 4] [] (v:=iN N) (v':=iN (qo l.cnt 1000)) H7 (by rw [Cnt.done (.inl (by rw [List.drop_eq_nil_of_le (by omega)] at hC;exact hC))]) kr
theorem zlw (form:ByteArray)(ks:List ByteArray)(hK:xF form ks)(p:Option Addr)(n c:Nat)(l:Fe):FnP Tryz.prog 53 #[.string form,.slice p n c] (fun w=>SlR fS w.heap.size w p n l) (.bool (decide (l.cnt≤1000)&&yt ks l)):=by
 refine FnP.intro (c:=zk Tryz.f53) [.tmp 4] 20 Tryz.func53 kr kr kr fun w hF=>rS [.v] (St.start w) kr fun gs1 w1 H1=>zg [0,1,2,3,4,5,6] kr kr<|rp [.v] H1 kr fun gs2 w2 H2=>wX [1,2,3,4,5,6] ?_;have H3:St w.heap.size w w2 []:=H2.as kr;refine qy H3 (some 9) 52 #[.string form] (zcc form ks hK) trivial kr kr ?_;rintro _ T w3 ⟨kp,kn,kc,rfl,hrow⟩ H4;refine rp [.v,.v,.v,.v,.v] H4 kr fun gs3 w4 H5=>wX []<|zc<|wW ?_;have hAt:=hrow.atF H5 fun e he=>List.mem_append_left _ he;have hkn:kn≤1000:=by rw [hAt.1];exact hK.few
 have hm:(qo l.cnt 1000≤1000)↔l.cnt≤1000:=by unfold qo;split<;>omega
 by_cases hc:l.cnt≤1000
 ·rw [decide_eq_true hc,Bool.true_and];refine zg [0,1,2,3,4,5,6,7,8] kr kr<|rp [.v,.cp (pre:=fun w=>SlR fS w.heap.size w p n l) (zfu p n c l) [] (fun w hb hd=>hF.call hb),.E (.bool (decide (((qo l.cnt 1000:Nat):Int)≤1000))) (.bool true) (za (decide_eq_true (by have:=hm.2 hc;omega))),.v,.v,.v] H5 kr fun gs4 w5 H6=>wX [6,7,8] ?_;have H7:St w.heap.size w w5 (T++ []):=H6.as kr;refine yJ H7 (some 18) 83 #[.slice kp kn kc,.slice p n c] _ _ (zlv ks hK.kd kp kn kc p n c l hkn) ⟨hrow.atF H7 fun e he=>List.mem_append_left _ he,hF.call H7.below⟩ (fun w=>by kernel_rfl) kr ?_;intro w6 H8;refine rp [.v,.v] H8 kr fun gs5 w7 H9=>wX []<|zc ?_;exact rR [.tmp 4] [] (.bool (yt ks l)) H9 kr
 ·rw [decide_eq_false hc,Bool.false_and];refine rS [.v,.cp (pre:=fun w=>SlR fS w.heap.size w p n l) (zfu p n c l) [] (fun w hb hd=>hF.call hb),.E (.bool (decide (((qo l.cnt 1000:Nat):Int)≤1000))) (.bool false) (za (decide_eq_false (by intro h;exact hc (hm.1 (by omega))))),.v,.n,.n,.n,.v,.v] H5 kr fun gs4 w5 H6=>?_;exact rR [.tmp 4] [] (.bool false) H6 kr
abbrev Sg:=Nat×Nat×Int
def sgF:Fl Sg where
 K:=9
 cs x:=[.int .u64 (w0 x.1),.int .u64 (w1 x.1),.int .u64 (w2 x.1),.int .u64 (w3 x.1),.int .u64 (w0 x.2.1),.int .u64 (w1 x.2.1),.int .u64 (w2 x.2.1),.int .u64 (w3 x.2.1),.int .i64 x.2.2]
 pos:=by decide
 len _:=rfl
 one a:=fun u hu=>by simp at hu;rcases hu with h | h | h | h | h | h | h | h | h<;>rw [h]<;>rfl
abbrev sgB (x:Sg):ByteArray:=sbs x.1 x.2.1 x.2.2
def sgOk (x:Sg):Prop:=x.1<big∧x.2.1<big
abbrev sgMay (x:Sg):Bool:=ya x.1 x.2.1 x.2.2
structure Hdr where
 pa:ByteArray
 hh:Nat
 ro:ByteArray
 tx:ByteArray
 pr:ByteArray
 va:ByteArray
 vs:List ByteArray
 vo:ByteArray
 ad:Bool
 rd:Nat
 ss:List Sg
theorem zce {h k:Hdr}(e1:h.pa=k.pa)(e2:h.hh=k.hh)(e3:h.ro=k.ro)(e4:h.tx=k.tx)(e5:h.pr=k.pr)(e6:h.va=k.va)(e7:h.vs=k.vs)(e8:h.vo=k.vo)(e9:h.ad=k.ad)(e10:h.rd=k.rd)(e11:h.ss=k.ss):h=k:=by
 cases h;cases k;simp only at*;subst e1 e2 e3 e4 e5 e6 e7 e8 e9 e10 e11;rfl
structure yx (h:Hdr):Prop where
 hh:h.hh<0x10000000000000000
 rd:h.rd<0x10000000000000000
 pa:h.pa.size≤1000000
 ro:h.ro.size≤1000000
 tx:h.tx.size≤1000000
 pr:h.pr.size≤1000000
 va:h.va.size≤1000000
 vo:h.vo.size≤1000000
 vs: ∀x∈h.vs,ByteArray.size x≤1000000
 vl:h.vs.length≤1000
 ss: ∀x∈h.ss,sgOk x
 sl:h.ss.length≤1000
def jt:Option ByteArray→List ByteArray→Bool
 | _,[]=>true
 | p,a::r=>decide (a.size=20)&&(upB p a&&jt (some a) r)
def setM (L:List ByteArray):Bool:=jt none L&&(decide (0<L.length)&&decide (L.length≤16))
def voteB (vo:ByteArray)(ad:Bool):Bool:=if vo.size=0 then !ad else decide (vo.size=20)
def yd (h:Hdr):Bool:=
 (decide (h.pa.size=32)&&(decide (h.ro.size=32)&&(decide (h.tx.size=32)&&(decide (h.pr.size=20)&&(decide (h.va.size≤8)&&setM h.vs)))))&&((voteB h.vo h.ad&&decide (h.ss.length≤16))&&h.ss.all sgMay)
def lsF:List ByteArray→Fe
 | []=>.nil
 | a::r=>.cons (0,a) .nil (lsF r)
theorem kb: ∀L,(lsF L).len=L.length
 | []=>rfl
 | a::r=>by simp only [lsF,Fr.len,List.length_cons,kb r]
theorem zfv: ∀L,(lsF L).cnt=L.length
 | []=>rfl
 | a::r=>by simp only [lsF,Fr.cnt,List.length_cons,zfv r];omega
theorem zcf: ∀ {L M:List ByteArray},lsF L=lsF M→L=M
 | [],[],_=>rfl
 | a::r,b::t,h=>by
  unfold lsF at h;injection h with h1 _ h2;injection h1 with _ h1
  rw [h1,zcf h2]
 | [],b::t,h=>by unfold lsF at h;cases h
 | a::r,[],h=>by unfold lsF at h;cases h
theorem zcg: ∀ {L:List ByteArray},(∀x∈L,ByteArray.size x≤0x800000000000)→(lsF L).all fS.ok
 | [],_=>trivial
 | a::r,h=>⟨⟨(by decide:0<0x10000000000000000),h a (List.mem_cons_self ..)⟩,trivial,zcg fun x hx=>h x (List.mem_cons_of_mem _ hx)⟩
def hdL (pa:ByteArray)(hh:Nat)(ro tx pr va:ByteArray)(L:List ByteArray)(vo:ByteArray)(a rd:Nat)(M:List ByteArray):Fe:=
 .cons (0,pa) .nil (.cons (hh,em) .nil (.cons (0,ro) .nil (.cons (0,tx) .nil (.cons (0,pr) .nil (.cons (0,va) .nil (.cons (0,em) (lsF L) (.cons (0,vo) .nil (.cons (a,em) .nil (.cons (rd,em) .nil (.cons (0,em) (lsF M) .nil))))))))))
def adN (b:Bool):Nat:=if b then 1 else 0
def hdF (h:Hdr):Fe:=hdL h.pa h.hh h.ro h.tx h.pr h.va h.vs h.vo (adN h.ad) h.rd (h.ss.map sgB)
abbrev yU:ByteArray:=⟨#[104,110,104,104,97,98,42,97,98,110,110,42,115]⟩
def hK:List ByteArray:=[⟨#[104]⟩,⟨#[110]⟩,⟨#[104]⟩,⟨#[104]⟩,⟨#[97]⟩,⟨#[98]⟩,⟨#[42,97]⟩,⟨#[98]⟩,⟨#[110]⟩,⟨#[110]⟩,⟨#[42,115]⟩]
theorem qV:xF yU hK:=⟨by decide,by kernel_rfl,by kernel_rfl,by kernel_rfl,List.all_eq_true.1 (show hK.all kdOk=true by kernel_rfl)⟩
def qW (h:Hdr):ByteArray:=(wrV yU (hdF h)).1
theorem zch {pa pa':ByteArray}{hh hh':Nat}{ro ro' tx tx' pr pr' va va':ByteArray}{L L':List ByteArray}{vo vo':ByteArray}{a a' rd rd':Nat}{M M':List ByteArray}(h:hdL pa hh ro tx pr va L vo a rd M=hdL pa' hh' ro' tx' pr' va' L' vo' a' rd' M'):
 pa=pa'∧hh=hh'∧ro=ro'∧tx=tx'∧pr=pr'∧va=va'∧L=L'∧vo=vo'∧a=a'∧rd=rd'∧M=M':=by
 unfold hdL at h;injection h with e1 _ h;injection h with e2 _ h;injection h with e3 _ h;injection h with e4 _ h;injection h with e5 _ h;injection h with e6 _ h;injection h with _ e7 h;injection h with e8 _ h;injection h with e9 _ h;injection h with e10 _ h;injection h with _ e11 _
 injection e1 with _ e1;injection e2 with e2 _;injection e3 with _ e3;injection e4 with _ e4;injection e5 with _ e5;injection e6 with _ e6;injection e8 with _ e8;injection e9 with e9 _;injection e10 with e10 _
 exact ⟨e1,e2,e3,e4,e5,e6,zcf e7,e8,e9,e10,zcf e11⟩
theorem zlx {a b:Bool}(h:adN a=adN b):a=b:=by cases a<;>cases b<;>first | rfl | cases h
theorem zly {x y:Sg}(hx:sgOk x)(hy:sgOk y)(mx:sgMay x=true)(my:sgMay y=true)(h:sgB x=sgB y):x=y:=by
 obtain ⟨r,s,v⟩:=x;obtain ⟨r',s',v'⟩:=y;have e1:=congrArg sgR h;have e2:=congrArg sgS h;have e3:=congrArg sgV h;rw [zb6 hx.1,zb6 hy.1] at e1;rw [zb7 hx.2,zb7 hy.2] at e2;rw [zb8 mx,zb8 my] at e3;exact Prod.ext e1 (Prod.ext e2 e3)
theorem zfw: ∀ {L M:List Sg},(∀x∈L,sgOk x)→(∀x∈M,sgOk x)→L.all sgMay=true→M.all sgMay=true→L.map sgB=M.map sgB→L=M
 | [],[],_,_,_,_,_=>rfl
 | x::r,y::t,hL,hM,aL,aM,h=>by
  simp only [List.all_cons,Bool.and_eq_true] at aL aM;simp only [List.map_cons,List.cons.injEq] at h;rw [zly (hL x (List.mem_cons_self ..)) (hM y (List.mem_cons_self ..)) aL.1 aM.1 h.1,zfw (fun z hz=>hL z (List.mem_cons_of_mem _ hz)) (fun z hz=>hM z (List.mem_cons_of_mem _ hz)) aL.2 aM.2 h.2]
 | [],y::t,_,_,_,_,h=>by simp at h
 | x::r,[],_,_,_,_,h=>by simp at h
structure RtH (h:Hdr):Prop where
 pa:h.pa.size=32
 ro:h.ro.size=32
 tx:h.tx.size=32
 pr:h.pr.size=20
 va:h.va.size≤8
 st:setM h.vs=true
 vo:voteB h.vo h.ad=true
 sl:h.ss.length≤16
 ss:h.ss.all sgMay=true
theorem qH {h:Hdr} :yd h=true↔RtH h:=by
 unfold yd;simp only [Bool.and_eq_true,decide_eq_true_eq];exact ⟨fun ⟨⟨h1,h2,h3,h4,h5,h6⟩,⟨h7,h8⟩,h9⟩=>⟨h1,h2,h3,h4,h5,h6,h7,h8,h9⟩,fun ⟨h1,h2,h3,h4,h5,h6,h7,h8,h9⟩=>⟨⟨h1,h2,h3,h4,h5,h6⟩,⟨h7,h8⟩,h9⟩⟩
theorem zlz {h k:Hdr}(oh:yx h)(ok:yx k)(rh:yd h=true)(rk:yd k=true)(e:hdF h=hdF k):h=k:=by
 have r1:=qH.1 rh;have r2:=qH.1 rk;obtain ⟨e1,e2,e3,e4,e5,e6,e7,e8,e9,e10,e11⟩:=zch e;have e9:=zlx e9;have e11:=zfw oh.ss ok.ss r1.ss r2.ss e11;exact zce e1 e2 e3 e4 e5 e6 e7 e8 e9 e10 e11
theorem zfx {p:Option ByteArray} : ∀ {L:List ByteArray},jt p L=true→ ∀x∈L,ByteArray.size x=20:=by
 intro L
 induction L generalizing p with
 | nil=>intro _ x hx;exact nomatch hx
 | cons a r ih=>
  intro h x hx;simp only [jt,Bool.and_eq_true,decide_eq_true_eq] at h;rcases List.mem_cons.1 hx with rfl | hx
  ·exact h.1
  ·exact ih h.2.2 x hx
theorem kK {h:Hdr}(o:yx h):(hdF h).all fS.ok:=by
 have z:(0:Nat)<0x10000000000000000:=by decide
 have ze:em.size≤0x800000000000:=Nat.zero_le _;have ha:adN h.ad<0x10000000000000000:=by unfold adN;split<;>decide
 have h1:=o.pa;have h2:=o.ro;have h3:=o.tx;have h4:=o.pr;have h5:=o.va;have h6:=o.vo
 exact ⟨⟨z,by show h.pa.size≤_;omega⟩,trivial,⟨o.hh,ze⟩,trivial,⟨z,by show h.ro.size≤_;omega⟩,trivial,⟨z,by show h.tx.size≤_;omega⟩,trivial,⟨z,by show h.pr.size≤_;omega⟩,trivial,⟨z,by show h.va.size≤_;omega⟩,trivial,⟨z,ze⟩,zcg fun x hx=>by have:=o.vs x hx;omega,
  ⟨z,by show h.vo.size≤_;omega⟩,trivial,⟨ha,ze⟩,trivial,⟨o.rd,ze⟩,trivial,⟨z,ze⟩,zcg fun x hx=>by obtain ⟨y,_,rfl⟩:=List.mem_map.1 hx;rw [vO];omega,trivial⟩
theorem zfy (m sz ln:Nat):zu 104 0 m sz ln=(decide (m=0)&&(decide (sz=32)&&decide (ln=0))):=by
 unfold zu yL yg yj;rw [Bool.eq_iff_iff];simp<;>omega
theorem zfz (m sz ln:Nat):zu 42 1 m sz ln=(decide (m=0)&&(decide (sz=0)&&decide (ln≤40))):=by
 unfold zu yL yg yj;rw [Bool.eq_iff_iff];simp<;>omega
theorem zfA (c:Nat)(q:ByteArray)(x:Nat×ByteArray)(l:Fe)(h0:by_ q 0=42)(h1:by_ q 1=c):yS q x l=(zu 42 1 x.1 x.2.size l.len&&yR c l):=by
 have e:kdB q=.cons c .nil .nil:=by unfold kdB;rw [if_pos h0,h1]
 unfold yS;rw [e,h0,h1];rfl
theorem kL {c z:Nat}(hf: ∀m sz ln,zu c 0 m sz ln=(decide (m=0)&&(decide (sz=z)&&decide (ln=0)))): ∀ {l:Fe},yR c l=true↔ ∃L:List ByteArray,l=lsF L∧ ∀x∈L,ByteArray.size x=z
 | .nil=>⟨fun _=>⟨[],rfl,fun _ h=>nomatch h⟩,fun _=>rfl⟩
 | .cons x l r=>by
  simp only [yR,hf,Bool.and_eq_true,decide_eq_true_eq];constructor
  ·rintro ⟨⟨h1,h2,h3⟩,h4⟩;obtain ⟨L,rfl,hL⟩:=(kL hf).1 h4;obtain rfl:=Fr.len_zero h3;obtain ⟨m,s⟩:=x;simp only at h1 h2;subst h1;exact ⟨s::L,rfl,fun y hy=>by rcases List.mem_cons.1 hy with rfl | hy;exact h2;exact hL y hy⟩
  ·rintro ⟨L,h1,h2⟩;cases L with
   | nil=>unfold lsF at h1;cases h1
   | cons a t=>
    unfold lsF at h1;injection h1 with e1 e2 e3
    subst e1 e2 e3;exact ⟨⟨rfl,h2 a (List.mem_cons_self ..),rfl⟩,(kL hf).2 ⟨t,rfl,fun y hy=>h2 y (List.mem_cons_of_mem _ hy)⟩⟩
theorem zci (l:Fe):yt hK l=true↔ ∃(pa:ByteArray) (hh:Nat) (ro tx pr va:ByteArray) (L:List ByteArray) (vo:ByteArray) (a rd:Nat) (M:List ByteArray),l=hdL pa hh ro tx pr va L vo a rd M∧
 pa.size=32∧ro.size=32∧tx.size=32∧pr.size=20∧va.size≤64∧(∀x∈L,ByteArray.size x=20)∧L.length≤40∧vo.size≤64∧(∀x∈M,ByteArray.size x=65)∧M.length≤40:=by
 have s1:=fun x l=>zaz 104 ⟨#[104]⟩ x l rfl (by decide);have s2:=fun x l=>zaz 110 ⟨#[110]⟩ x l rfl (by decide);have s3:=fun x l=>zaz 97 ⟨#[97]⟩ x l rfl (by decide);have s4:=fun x l=>zaz 98 ⟨#[98]⟩ x l rfl (by decide);have s5:=fun x l=>zfA 97 ⟨#[42,97]⟩ x l rfl rfl;have s6:=fun x l=>zfA 115 ⟨#[42,115]⟩ x l rfl rfl;constructor
 ·intro h;have hl:=vI h;unfold hK at h
  match l,h,hl with
  | .cons x1 l1 (.cons x2 l2 (.cons x3 l3 (.cons x4 l4 (.cons x5 l5 (.cons x6 l6 (.cons x7 l7 (.cons x8 l8 (.cons x9 l9 (.cons x10 l10 (.cons x11 l11 .nil)))))))))),h,_=>
   simp only [yt,s1,s2,s3,s4,s5,s6,zay,zfh,zfi,zfy,zfz,Bool.and_eq_true,decide_eq_true_eq] at h;obtain ⟨⟨a1,a2,a3⟩,⟨b1,b2⟩,⟨c1,c2,c3⟩,⟨d1,d2,d3⟩,⟨e1,e2,e3⟩,⟨f1,f2,f3⟩,⟨⟨g1,g2,g3⟩,g4⟩,⟨h1,h2,h3⟩,⟨i1,i2⟩,⟨j1,j2⟩,⟨⟨k1,k2,k3⟩,k4⟩,_⟩:=h;obtain ⟨L,rfl,hL⟩:=(kL zay).1 g4;obtain ⟨M,rfl,hM⟩:=(kL zfg).1 k4;rw [kb] at g3 k3;obtain ⟨m1,t1⟩:=x1;obtain ⟨m2,t2⟩:=x2;obtain ⟨m3,t3⟩:=x3;obtain ⟨m4,t4⟩:=x4;obtain ⟨m5,t5⟩:=x5;obtain ⟨m6,t6⟩:=x6;obtain ⟨m7,t7⟩:=x7;obtain ⟨m8,t8⟩:=x8;obtain ⟨m9,t9⟩:=x9;obtain ⟨m10,t10⟩:=x10;obtain ⟨m11,t11⟩:=x11;obtain rfl:=Fr.len_zero a3;obtain rfl:=Fr.len_zero b2;obtain rfl:=Fr.len_zero c3;obtain rfl:=Fr.len_zero d3;obtain rfl:=Fr.len_zero e3;obtain rfl:=Fr.len_zero f3;obtain rfl:=Fr.len_zero h3;obtain rfl:=Fr.len_zero i2;obtain rfl:=Fr.len_zero j2;obtain rfl:=jm b1;obtain rfl:=jm i1;obtain rfl:=jm j1;obtain rfl:=jm g2;obtain rfl:=jm k2;simp only at a1 c1 d1 e1 f1 g1 h1 k1;subst a1 c1 d1 e1 f1 g1 h1 k1;exact ⟨t1,m2,t3,t4,t5,t6,L,t8,m9,m10,M,rfl,a2,c2,d2,e2,f2,hL,g3,h2,hM,k3⟩
 ·rintro ⟨pa,hh,ro,tx,pr,va,L,vo,a,rd,M,rfl,h1,h2,h3,h4,h5,h6,h7,h8,h9,h10⟩;unfold hK hdL;simp only [yt,s1,s2,s3,s4,s5,s6,zay,zfh,zfi,zfy,zfz,(kL zay).2 ⟨L,rfl,h6⟩,(kL zfg).2 ⟨M,rfl,h9⟩,kb,h1,h2,h3,h4,h5,h7,h8,h10,Fr.len];rfl
def lsI:List ByteArray→Fo
 | []=>.nil
 | a::r=>.cons false a .nil (lsI r)
theorem zcj {c:Nat}(h1:c≠110)(h2:zR c=false): ∀(L:List ByteArray) (i:Nat),yu (lsF L) 42 (.cons c .nil .nil) i=lsI L
 | [],_=>rfl
 | a::r,i=>by
  unfold lsF lsI;rw [vF,vH,zcj h1 h2 r];unfold zQ zA;rw [if_neg h1,h2];rfl
theorem zfB: ∀L,(lsI L).cnt=L.length
 | []=>rfl
 | a::r=>by simp only [lsI,Fo.cnt,List.length_cons,zfB r];omega
theorem zck: ∀L,pureF (lsI L)=true
 | []=>rfl
 | a::r=>by
  show ((!mixed false a 0&&true)&&pureF (lsI r))=true;rw [zck r];rfl
theorem zfC: ∀L,dpF (lsI L)=0
 | []=>rfl
 | a::r=>by
  show max 0 (dpF (lsI r))=0;rw [zfC r];rfl
theorem zcl {z:Nat} : ∀ {L:List ByteArray},(∀x∈L,ByteArray.size x≤z)→wtF (lsI L)≤L.length*(9+z)
 | [],_=>Nat.zero_le _
 | a::r,h=>by
  have h1:=h a (List.mem_cons_self ..);have h2:=zcl (L:=r) fun x hx=>h x (List.mem_cons_of_mem _ hx);simp only [lsI,wtF,List.length_cons,Nat.succ_mul];omega
def hdI (h:Hdr):Fo:=
 .cons false h.pa .nil (.cons false (zh (dg h.hh)) .nil (.cons false h.ro .nil (.cons false h.tx .nil (.cons false h.pr .nil (.cons false h.va .nil (.cons true emB (lsI h.vs) (.cons false h.vo .nil (.cons false (zh (dg (adN h.ad))) .nil (.cons false (zh (dg h.rd)) .nil (.cons true emB (lsI (h.ss.map sgB)) .nil))))))))))
theorem zlA (h:Hdr):yu (hdF h) 40 (kfL hK) 0=hdI h:=by
 unfold hdF hdL hdI;rw [jr _ _ _ 0 (by decide),jr _ _ _ 1 (by decide),jr _ _ _ 2 (by decide),jr _ _ _ 3 (by decide),jr _ _ _ 4 (by decide),jr _ _ _ 5 (by decide),jr _ _ _ 6 (by decide),jr _ _ _ 7 (by decide),jr _ _ _ 8 (by decide),jr _ _ _ 9 (by decide),jr _ _ _ 10 (by decide)];have e1:zA 42 (.cons 97 .nil .nil) (lsF h.vs)=lsI h.vs:=by
  unfold zA;rw [if_pos (show zR 42=true from rfl)];exact zcj (by decide) rfl _ _
 have e2:zA 42 (.cons 115 .nil .nil) (lsF (h.ss.map sgB))=lsI (h.ss.map sgB):=by
  unfold zA;rw [if_pos (show zR 42=true from rfl)];exact zcj (by decide) rfl _ _
 rw [←e1,←e2];rfl
theorem zfD {vo:ByteArray}{ad:Bool}(h:voteB vo ad=true):vo.size≤20:=by
 unfold voteB at h;split at h
 ·omega
 ·have:=of_decide_eq_true h;omega
theorem zlB {h:Hdr}(r:yd h=true):yt hK (hdF h)=true:=by
 have q:=qH.1 r;have hs:=q.st;unfold setM at hs;simp only [Bool.and_eq_true,decide_eq_true_eq] at hs;have h1:=q.va;have h2:=zfD q.vo;have h3:=q.sl;exact (zci _).2 ⟨_,_,_,_,_,_,_,_,_,_,_,rfl,q.pa,q.ro,q.tx,q.pr,by omega,zfx hs.1,by omega,by omega,fun x hx=>by obtain ⟨y,_,rfl⟩:=List.mem_map.1 hx;exact vO _ _ _,by rw [List.length_map];omega⟩
theorem zlC {h:Hdr}(r:yd h=true):wtF (hdI h)≤2500:=by
 have q:=qH.1 r;have hs:=q.st;unfold setM at hs;simp only [Bool.and_eq_true,decide_eq_true_eq] at hs;have w1:=zcl (L:=h.vs) (z:=20) fun x hx=>Nat.le_of_eq (zfx hs.1 x hx);have w2:=zcl (L:=h.ss.map sgB) (z:=65) fun x hx=>by obtain ⟨y,_,rfl⟩:=List.mem_map.1 hx;exact Nat.le_of_eq (vO _ _ _)
 rw [List.length_map] at w2;have a1:=q.pa;have a2:=q.ro;have a3:=q.tx;have a4:=q.pr;have a5:=q.va;have a6:=zfD q.vo;have a7:=q.sl;have d1:=qj h.hh;have d2:=qj (adN h.ad);have d3:=qj h.rd;have ez:emB.size=0:=rfl;simp only [hdI,wtF,qh];omega
theorem zcm {h:Hdr}(r:yd h=true):(wrV yU (hdF h)).2=0:=by
 have q:=qH.1 r;have hs:=q.st;unfold setM at hs;simp only [Bool.and_eq_true,decide_eq_true_eq] at hs;have a7:=q.sl;have hc:(hdF h).cnt≤1000:=by
  simp only [hdF,hdL,Fr.cnt,zfv,List.length_map];omega
 have hw:=zlC r;have hci:(hdI h).cnt≤3999:=by
  simp only [hdI,Fo.cnt,zfB,List.length_map];omega
 have hp:pureF (hdI h)=true:=by
  have p1:=zck h.vs;have p2:=zck (h.ss.map sgB);simp only [hdI,pureF,p1,p2,mixed];rfl
 have hd:dpF (hdI h)=1:=by
  simp only [hdI,dpF,zfC,dp1];rfl
 have h1:=ku (hdI h);have h2:=zbd true emB (szF (hdI h));have ez:emB.size=0:=rfl;have hl:lf1 true emB (hdI h).len (lfF (hdI h)) 4000=some (3999-(hdI h).cnt):=by
  unfold lf1;rw [if_neg (by simp [mixed];rfl),xW,if_pos ⟨hp,hci⟩]
 rw [zeG qV,if_pos ⟨zlB r,hc⟩,zlA];unfold zP;rw [hl];simp only [];rw [if_neg (by rw [hd];decide),if_neg (by omega)]
theorem isK {l:List (Nat×Value)}{ρ:Env}(h:l.map (fun p=>ρ p.1)=l.map (·.2):=by kernel_rfl):Is l ρ:=by
 refine Is.of ?_
 induction l with
 | nil=>trivial
 | cons p r ih=>
  simp only [List.map_cons,List.cons.injEq] at h;exact ⟨h.1,ih h.2⟩
section
variable {P:Program}{N:Nat}{c:Code}{Q:Exit→Env→World→Prop}{ρ:Env}{w:World}
theorem yV (k:Q .normal ρ w)(h:(xr c&&kU (xq c))=true:=by kernel_rfl)(hx:ev ρ (jy c)=.bool false:=by kernel_rfl):WP P N c Q ρ w:=by
 rw [Bool.and_eq_true] at h;exact zi h.1 hx (zj h.2 k)
theorem zZ (k:WP P N (xm c) Q ρ w)(h:xr c=true:=by kernel_rfl)(hx:ev ρ (jy c)=.bool true:=by kernel_rfl):WP P N c Q ρ w:=zf h hx k
def zcn (c:Code):Code:=qq (qq c)
def zaA (c:Code):Code:=zD (zcn c)
def ju (c:Code):Code:=zy (zcn c)
def zco (c:Code):Code:=qq (zD (zy (ju c)))
def vP (c:Code):Code:=zy (zy (ju c))
def vQ (n:Nat):Code→Bool
 | .region _ ops d=>Nat.beq ops.size n&& !d
 | _=>false
theorem zfE {n:Nat}{c:Code}(h:vQ n c=true):∃id,c=.region id (zo c) false∧List.range (zo c).size=List.range n:=by
 cases c with
 | region id ops d=>
  cases d with
  | true=>simp [vQ] at h
  | false=>
   simp only [vQ,Bool.not_false,Bool.and_true] at h;exact ⟨id,rfl,congrArg List.range (Nat.eq_of_beq_eq_true h)⟩
 | _=>cases h
def zaB (a:Option Nat)(b:Nat):Bool:=match a with
 | some x=>Nat.beq x b
 | none=>false
theorem zcp {a:Option Nat}{b:Nat}(h:zaB a b=true):a=some b:=by
 cases a with
 | none=>cases h
 | some x=>exact congrArg some (Nat.eq_of_beq_eq_true h)
def zcq (nt ni b0 b1 tc:Nat)(c:Code):Bool:=
 zaB (vY c) b0&&(vZ (qq c)&&(qe (zcn c)&&(vQ nt (zaA c)&&(qe (ju c)&&(xr (zD (ju c))&&(kU (xm (zD (ju c)))&&(zaB (zaU (xq (zD (ju c)))) b0&&(qe (zy (ju c))&&(zaB (vY (zD (zy (ju c)))) b1&&vQ ni (vP c))))))))))
abbrev zfF (ti b0 b1:Nat)(inc:Env→Env)(I:Nat→Env→World→Prop)(Q:Exit→Env→World→Prop)(i:Nat):Exit→Env→World→Prop
 | .normal,ρ,w=>ρ ti=iN i∧I (i+1) (inc ρ) w
 | .exit k,ρ,w=>bif Nat.beq k b1 then ρ ti=iN i∧I (i+1) (inc ρ) w else bif Nat.beq k b0 then Q .normal ρ w else Q (.exit k) ρ w
 | e,ρ,w=>Q e ρ w
theorem zlD {ti b0 b1 tc nt ni n:Nat}{tst:Nat→Env→Env}{inc:Nat→Env→Env}(I:Nat→Env→World→Prop)
 (hs:zcq nt ni b0 b1 tc c=true) (hx:jy (zD (ju c))=.tmp tc)
 (hT: ∀i ρ w K,I i ρ w→K (tst i ρ) w→WPs P N (zo (zaA c)) K (List.range nt) ρ w) (hv: ∀i ρ w,I i ρ w→tst i ρ tc=.bool (decide ((i:Int)<(n:Int))))
 (hJ: ∀i ρ w K,i<n→ρ ti=iN i→K (inc i ρ) w→WPs P N (zo (vP c)) K (List.range ni) ρ w)
 (h0:I 0 ρ w) (hb: ∀i ρ w,i<n→I i ρ w→WP P N (zco c) (zfF ti b0 b1 (inc i) I Q i) (tst i ρ) w) (he: ∀ρ w,I n ρ w→Q .normal (tst n ρ) w):WP P N c Q ρ w:=by
 unfold zcq at hs;simp only [Bool.and_eq_true] at hs;obtain ⟨s1,s2,s3,s4,s5,s6,s7,s8,s9,s10,s11⟩:=hs;obtain ⟨id1,e1,l1⟩:=zfE s4;obtain ⟨id2,e2,l2⟩:=zfE s11;refine zn b0 (zcp s1)<|zV s2 (fun m ρ w=> ∃i,n-i=m∧i≤n∧I i ρ w) n ⟨0,rfl,Nat.zero_le _,h0⟩ ?_;rintro m ρ w ⟨i,rfl,hin,hI⟩;refine zb s3 ?_;show WP P N (zaA c) _ ρ w;rw [e1];refine WP.region _ l1<|hT i ρ w _ hI ?_;show WP P N (ju c) _ (tst i ρ) w;refine zb s5 ?_;have hval:=hv i ρ w hI;by_cases hi:i<n
 ·refine zf s6 (by rw [hx];show tst i ρ tc=_;rw [hval,decide_eq_true (by omega)])<|zj s7 ?_;show WP P N (zy (ju c)) _ (tst i ρ) w;refine zb s9<|zn b1 (zcp s10) ?_;have hfin: ∀(Q3:Exit→Env→World→Prop) ρ' w',(ρ' ti=iN i∧I (i+1) (inc i ρ') w')→(∀e ρ w,Q3 e ρ w=Q3 e ρ w)→WP P N (vP c) (nx (fun ρ' w'=> ∃m,m<n-i∧∃i,n-i=m∧i≤n∧I i ρ' w') Q3) ρ' w':=fun Q3 ρ' w' h _=>by
   rw [e2];refine WP.region _ l2 ?_;exact hJ i ρ' w' _ hi h.1 ⟨n-(i+1),by omega,i+1,rfl,by omega,h.2⟩
  refine qA (hb i ρ w hi hI) fun e ρ' w' h=>?_;cases e with
  | normal=>exact hfin _ ρ' w' h fun _ _ _=>rfl
  | exit k=>
   show bif Nat.beq k b1 then _ else _;change (bif Nat.beq k b1 then _ else _) at h;cases hk:Nat.beq k b1 with
   | true=>rw [hk] at h;exact hfin _ ρ' w' h fun _ _ _=>rfl
   | false=>rw [hk] at h;exact h
  | _=>exact h
 ·obtain rfl:i=n:=by omega
  refine zi s6 (by rw [hx];show tst i ρ tc=_;rw [hval,decide_eq_false (by omega)])<|zN b0 (zcp s8) ?_;show bif Nat.beq b0 b0 then _ else _;rw [Nat.beq_refl];exact he ρ w hI
theorem qX (ti tn tc tj b0 b1 n:Nat)(hn:n≤0x4000000000000000)(I:Nat→Env→World→Prop)(hI: ∀i ρ w,I i ρ w→ρ ti=iN i∧ρ tn=iN n)
 (h0:I 0 ρ w) (hb: ∀i ρ w,i<n→I i ρ w→WP P N (zco c) (zfF ti b0 b1 (fun ρ=>upd (upd ρ tj (iN (i+1))) ti (iN (i+1))) I Q i) (upd ρ tc (.bool true)) w)
 (he: ∀ρ w,I n ρ w→Q .normal (upd ρ tc (.bool false)) w)
 (hs:zcq 1 2 b0 b1 tc c=true:=by kernel_rfl) (hx:jy (zD (ju c))=.tmp tc:=by kernel_rfl)
 (ht: ∀(ρ0:Env) (i:Nat) w,opv P (zo (zaA c)) 0 (upd (upd ρ0 tn (iN n)) ti (iN i)) w=some (some tc,true,.ok (.value (.bool (decide ((i:Int)<(n:Int))))) w):=by exact fun ρ0 i w=>by kernel_rfl)
 (hj: ∀(ρ0:Env) (i:Nat) w,opv P (zo (vP c)) 0 (upd ρ0 ti (iN i)) w=some (some tj,true,.ok (.value (.int .i64 (IntKind.i64.wrap ((i:Int)+1)))) w):=by exact fun ρ0 i w=>by kernel_rfl)
 (hk: ∀(ρ0:Env) (v:Value) w,opv P (zo (vP c)) 1 (upd ρ0 tj v) w=some (some ti,true,.ok (.value v) w):=by exact fun ρ0 v w=>by kernel_rfl)
 (hd:(dOK (some tc) N&&(dOK (some tj) N&&dOK (some ti) N))=true:=by kernel_rfl):WP P N c Q ρ w:=by
 simp only [Bool.and_eq_true] at hd;refine zlD (ti:=ti) (tst:=fun i ρ=>upd ρ tc (.bool (decide ((i:Int)<(n:Int))))) (inc:=fun i ρ=>upd (upd ρ tj (iN (i+1))) ti (iN (i+1))) (n:=n) I hs hx (fun i ρ w K h k=>?_) (fun i ρ w h=>?_) (fun i ρ w K hi h k=>?_) h0 (fun i ρ w hi h=>?_) (fun ρ w h=>?_)
 ·have e:upd (upd ρ tn (iN n)) ti (iN i)=ρ:=by rw [kh (hI i ρ w h).2,kh (hI i ρ w h).1]
  refine zm (some tc) _ (fun w=>e▸ht ρ i w) hd.1 ?_;exact zc k
 ·show upd ρ tc _ tc=_;unfold upd;rw [Nat.beq_refl];rfl
 ·have e:upd ρ ti (iN i)=ρ:=kh h;refine qr (some tj) _ (iN (i+1)) (fun w=>e▸hj ρ i w) (zd (zs (a:=i) (b:=1) (by omega))) hd.2.1<|zm (some ti) (iN (i+1)) (fun w=>hk ρ (iN (i+1)) w) hd.2.2 ?_;exact zc k
 ·show WP P N (zco c) _ (upd ρ tc (.bool (decide ((i:Int)<(n:Int))))) w;rw [decide_eq_true (show (i:Int)<(n:Int) by omega)];exact hb i ρ w hi h
 ·show Q .normal (upd ρ tc (.bool (decide ((n:Int)<(n:Int))))) w;rw [decide_eq_false (show ¬(n:Int)<(n:Int) by omega)];exact he ρ w h
end
theorem AtF.row2 {α:Type}{S:Fl α}{w:World}{p:Option Addr}{n:Nat}{L:List α}(h:AtF S w p n L)(hn:0<n):∃b off C T fz,p=some ⟨b,off,none⟩∧w.heap[b]? =some (.cells C T fz)∧xG S C off L:=by
 rcases h.2 with rfl|h2
 ·have:=h.1;simp at this;omega
 ·exact h2
theorem zfG (x y:ByteArray):(Op.bytesLess x.toList y.toList||(x.toList==y.toList))= !(lexB (tl y) (tl x)):=by
 rw [zcb];by_cases h:x=y
 ·subst h;rw [uq,zb9];rfl
 ·rw [yA x y h,Bool.or_false];have hne:tl x≠tl y:=fun e=>h (qi e);cases h1:lexB (tl x) (tl y) with
  | true=>
   cases h2:lexB (tl y) (tl x) with
   | false=>rfl
   | true=>have:=zld h1 h2;rw [zb9] at this;cases this
  | false=>rw [zfn h1 hne];rfl
def jv (L:List ByteArray)(i:Nat):Option ByteArray:=if i=0 then none else L[i-1]?
theorem zaC {L:List ByteArray}{i:Nat}{x:ByteArray}(h:L[i]? =some x):jv L (i+1)=some x:=by
 unfold jv;rw [if_neg (by omega),Nat.add_sub_cancel,h]
theorem zlE (p:Option Addr)(n c:Nat)(L:List ByteArray)(hL:L.length≤1000000):FnP Tryz.prog 29 #[.slice p n c] (fun w=>AtF sS w p n L) (.bool (setM L)):=by
 refine FnP.intro (c:=zk Tryz.f29) [.tmp 2] 37 Tryz.func29 kr kr kr fun w hP=>?_;have hn:=hP.1;have H0:=St.start w;refine rS [.v] H0 kr fun gs1 w1 H1=>zb kr<|rS [.v,.v,.v] H1 kr fun gs2 w2 H2=>qX 7 6 8 28 0 1 n (by omega) (fun i ρ ww=>jt none L=jt (jv L i) (L.drop i)∧St w.heap.size w ww []∧Is [(0,.slice p n c),(5,.slice p n c),(6,iN n),(7,iN i)] ρ) (by rintro i _ ww ⟨_,_,_,rfl⟩;exact ⟨kr,kr⟩) ⟨rfl,H2.as kr,isK⟩ ?_ ?_
 ·clear H0 H1 H2;rintro i _ w4 hi ⟨hst,H5,_,rfl⟩;obtain ⟨x,hx⟩:∃x,L[i]? =some x:=⟨_,List.getElem?_eq_getElem (by omega)⟩
  obtain ⟨bl,off,C,T,fz,hp,hh,hR⟩:=hP.row2 (by omega);have hcx:C[off+i*1]? =some (.string x):=hR.cell hx 0 (by decide);rw [zfo hx] at hst;change jt none L=(decide (x.size=20)&&(upB (jv L i) x&&jt (some x) (L.drop (i+1)))) at hst;refine rS [.v,.o (ins:=[((.tmp 5),.slice p n c),((.tmp 7),iN i)]) (v:=.pointer (some ⟨bl,off+i*1,none⟩)) (fun ρ o w ho hi2=>zM (kd:=.i64) (t:=23) (e:=9) (K:=1) (bytes:=16) kr (x:=(.tmp 5)) (y:=(.tmp 7)) bl off n c i hp ho hi2.1 hi2.2.1 (by omega) w),.fs (off:=off+i*1) (v:=.string x) hh (zq hh) hcx,.v,.v] H5 kr fun gs5 w6 H7=>?_;by_cases h1:x.size=20
  case neg=>
   refine rS [.v,.v,.E (.bool (!((x.size:Int)==20))) (.bool true) (za (by rw [beq_eq_false_iff_ne.2 (by omega)];rfl)),.v,.n,.n,.n,.n,.n,.n,.n,.n,.n,.n,.n,.v] H7 kr fun gs6 w7 H8=>zZ<|rS [.v] H8 kr fun gs7 w8 H9=>?_;exact rRe [.tmp 2] [] (v:=.bool false) (v':=.bool (setM L)) H9 (za (by unfold setM;rw [hst,decide_eq_false h1];rfl)) kr
  rw [decide_eq_true h1] at hst;by_cases h0:i=0
  ·have hup:upB (jv L i) x=true:=by subst h0;rfl
   refine rS [.v,.v,.E (.bool (!((x.size:Int)==20))) (.bool false) (za (by rw [beq_iff_eq.2 (show (x.size:Int)=20 by omega)];rfl)),.v,.v,.E (.bool (decide ((i:Int)>0))) (.bool false) (za (decide_eq_false (by omega))),.v,.n,.n,.n,.n,.n,.n,.n,.v,.v] H7 kr fun gs6 w7 H8=>yV ?_;exact ⟨kr,by rw [zaC hx,hst,hup];rfl,H8.as kr,isK⟩
  ·obtain ⟨y,hy⟩:∃y,L[i-1]? =some y:=⟨_,List.getElem?_eq_getElem (by omega)⟩
   have hcell:C[off+(i-1)*1]? =some (.string y):=hR.cell hy 0 (by decide);have hpv:upB (jv L i) x=lexB (tl y) (tl x):=by unfold jv;rw [if_neg h0,hy];rfl
   rw [hpv] at hst;cases hup:lexB (tl y) (tl x) with
   | false=>
    refine rS [.v,.v,.E (.bool (!((x.size:Int)==20))) (.bool false) (za (by rw [beq_iff_eq.2 (show (x.size:Int)=20 by omega)];rfl)),.v,.v,.E (.bool (decide ((i:Int)>0))) (.bool true) (za (decide_eq_true (by omega))),.v,.v,.v,.v,.E (.int .i64 (IntKind.i64.wrap ((i:Int)-1))) (iN (i-1)) (zd (vm (a:=i) (b:=1) (by omega))),.o (ins:=[((.tmp 20),.slice p n c),((.tmp 22),iN (i-1))]) (v:=.pointer (some ⟨bl,off+(i-1)*1,none⟩)) (fun ρ o w ho hi2=>zM (kd:=.i64) (t:=23) (e:=9) (K:=1) (bytes:=16) kr (x:=(.tmp 20)) (y:=(.tmp 22)) bl off n c (i-1) hp ho hi2.1 hi2.2.1 (by omega) w),.fs (off:=off+(i-1)*1) (v:=.string y) hh (zq hh) hcell,.E (.bool (Op.bytesLess x.toList y.toList||(x.toList==y.toList))) (.bool true) (za (by rw [zfG,hup];rfl)),.v,.v] H7 kr fun gs6 w7 H8=>zZ<|rS [.v] H8 kr fun gs7 w8 H9=>?_;exact rRe [.tmp 2] [] (v:=.bool false) (v':=.bool (setM L)) H9 (za (by unfold setM;rw [hst,hup];rfl)) kr
   | true=>
    refine rS [.v,.v,.E (.bool (!((x.size:Int)==20))) (.bool false) (za (by rw [beq_iff_eq.2 (show (x.size:Int)=20 by omega)];rfl)),.v,.v,.E (.bool (decide ((i:Int)>0))) (.bool true) (za (decide_eq_true (by omega))),.v,.v,.v,.v,.E (.int .i64 (IntKind.i64.wrap ((i:Int)-1))) (iN (i-1)) (zd (vm (a:=i) (b:=1) (by omega))),.o (ins:=[((.tmp 20),.slice p n c),((.tmp 22),iN (i-1))]) (v:=.pointer (some ⟨bl,off+(i-1)*1,none⟩)) (fun ρ o w ho hi2=>zM (kd:=.i64) (t:=23) (e:=9) (K:=1) (bytes:=16) kr (x:=(.tmp 20)) (y:=(.tmp 22)) bl off n c (i-1) hp ho hi2.1 hi2.2.1 (by omega) w),.fs (off:=off+(i-1)*1) (v:=.string y) hh (zq hh) hcell,.E (.bool (Op.bytesLess x.toList y.toList||(x.toList==y.toList))) (.bool false) (za (by rw [zfG,hup];rfl)),.v,.v] H7 kr fun gs6 w7 H8=>yV ?_;exact ⟨kr,by rw [zaC hx,hst,hup];rfl,H8.as kr,isK⟩
 ·rintro _ w4 ⟨hst,H5,_,rfl⟩;rw [List.drop_of_length_le (by omega)] at hst;refine wW ?_;by_cases h0:0<n
  ·refine rS [.v,.v,.E (.bool (decide ((n:Int)>0))) (.bool true) (za (decide_eq_true (by omega))),.v,.v,.v,.E (.bool (decide ((n:Int)≤16))) (.bool (decide (n≤16))) (za (by rw [Bool.eq_iff_iff];simp<;>omega)),.v,.v] H5 kr fun gs6 w7 H8=>?_;exact rRe [.tmp 2] [] (v:=.bool (decide (n≤16))) (v':=.bool (setM L)) H8 (za (by unfold setM;rw [hst,←hn,decide_eq_true h0];rfl)) kr
  ·refine rS [.v,.v,.E (.bool (decide ((n:Int)>0))) (.bool false) (za (decide_eq_false (by omega))),.v,.n,.n,.n,.v,.v] H5 kr fun gs6 w7 H8=>?_;exact rRe [.tmp 2] [] (v:=.bool false) (v':=.bool (setM L)) H8 (za (by unfold setM;rw [hst,←hn,decide_eq_false h0];rfl)) kr
abbrev hdC (h:Hdr)(p:Option Addr)(n c:Nat)(q:Option Addr)(m k:Nat):Array Value:=#[.string h.pa,.int .u64 ((h.hh:Nat):Int),.string h.ro,.string h.tx,.string h.pr,.string h.va,.slice p n c,.string h.vo,.bool h.ad,.int .u64 ((h.rd:Nat):Int),.slice q m k]
abbrev hdV (h:Hdr)(p:Option Addr)(n c:Nat)(q:Option Addr)(m k:Nat):Value:=.agg (hdC h p n c q m k)
abbrev hdO (h:Hdr)(p:Option Addr)(n c:Nat)(q:Option Addr)(m k:Nat):Obj:=.cells (hdC h p n c q m k) 26 (0,0)
theorem zcr {h:Hdr}{b:Bool}(e:h.ad=b){p:Option Addr}{n c:Nat}{q:Option Addr}{m k:Nat} :hdO h p n c q m k=.cells #[.string h.pa,.int .u64 ((h.hh:Nat):Int),.string h.ro,.string h.tx,.string h.pr,.string h.va,.slice p n c,.string h.vo,.bool b,.int .u64 ((h.rd:Nat):Int),.slice q m k] 26 (0,0):=by subst e;rfl
def qI (w:World)(h:Hdr)(p:Option Addr)(n:Nat)(q:Option Addr)(m:Nat):Prop:=AtF sS w p n h.vs∧AtF sgF w q m h.ss
theorem qI.call {w w':World}{h:Hdr}{p:Option Addr}{n:Nat}{q:Option Addr}{m:Nat}(a:qI w h p n q m)(hb:Below w.heap.size w w'):qI w' h p n q m:=⟨a.1.call hb,a.2.call hb⟩
theorem kM {h:Hdr}{P:Prop}(f:RtH h→P)(hn: ¬P):Value.bool false=.bool (yd h):=congrArg Value.bool (Bool.eq_false_iff.2 fun e=>hn (f (qH.1 e))).symm
abbrev sgC (x:Sg):Array Value:=(sgF.cs x).toArray
abbrev sgO (x:Sg):Obj:=.cells (sgC x) 50 (0,0)
structure zaD (h:Hdr):Prop where
 vo:h.vo.size≤1000000
 vl:h.vs.length≤1000
 ss: ∀x∈h.ss,sgOk x
 sl:h.ss.length≤1000
theorem yx.sm {h:Hdr}(o:yx h):zaD h:=⟨o.vo,o.vl,o.ss,o.sl⟩
theorem zlF (h:Hdr)(o:zaD h)(p:Option Addr)(n c:Nat)(q:Option Addr)(m k:Nat):FnP Tryz.prog 12 #[hdV h p n c q m k] (fun w=>qI w h p n q m) (.bool (yd h)):=by
 refine FnP.intro (c:=zk Tryz.f12) [.tmp 2] 75 Tryz.func12 kr kr kr fun w hP=>?_;have hn:=hP.1.1;have hm:=hP.2.1;have hvl:=o.vl;have hsl:=o.sl;have hv64:=o.vo;have H0:=St.start w;refine rS [.b,.v] H0 kr fun gs1 w1 H1=>zb kr ?_;by_cases hpa:h.pa.size=32
 case neg=>
  refine rS [.v,.l 0,.v,.E (.bool (!(((h.pa.size:Nat):Int)==32))) (.bool true) (za (by rw [beq_eq_false_iff_ne.2 (by omega)];rfl)),.v,.n,.n,.n,.n,.v,.v,.n,.n,.n,.n,.v,.v,.n,.n,.n,.n,.v,.v,.n,.n,.n,.n,.v,.v,.n,.n,.n,.n,.v] H1 kr fun gs2 w2 H2=>zZ<|rS [.v] H2 kr fun gs3 w3 H3=>?_;exact rRe [.tmp 2] [] (v:=.bool false) (v':=.bool (yd h)) H3 (kM (·.pa) hpa) kr
 by_cases hro:h.ro.size=32
 case neg=>
  refine rS [.v,.l 0,.v,.E (.bool (!(((h.pa.size:Nat):Int)==32))) (.bool false) (za (by rw [beq_iff_eq.2 (show ((h.pa.size:Nat):Int)=32 by omega)];rfl)),.v,.v,.l 0,.v,.E (.bool (!(((h.ro.size:Nat):Int)==32))) (.bool true) (za (by rw [beq_eq_false_iff_ne.2 (by omega)];rfl)),.v,.v,.n,.n,.n,.n,.v,.v,.n,.n,.n,.n,.v,.v,.n,.n,.n,.n,.v,.v,.n,.n,.n,.n,.v] H1 kr fun gs2 w2 H2=>zZ<|rS [.v] H2 kr fun gs3 w3 H3=>?_;exact rRe [.tmp 2] [] (v:=.bool false) (v':=.bool (yd h)) H3 (kM (·.ro) hro) kr
 by_cases htx:h.tx.size=32
 case neg=>
  refine rS [.v,.l 0,.v,.E (.bool (!(((h.pa.size:Nat):Int)==32))) (.bool false) (za (by rw [beq_iff_eq.2 (show ((h.pa.size:Nat):Int)=32 by omega)];rfl)),.v,.v,.l 0,.v,.E (.bool (!(((h.ro.size:Nat):Int)==32))) (.bool false) (za (by rw [beq_iff_eq.2 (show ((h.ro.size:Nat):Int)=32 by omega)];rfl)),.v,.v,.v,.l 0,.v,.E (.bool (!(((h.tx.size:Nat):Int)==32))) (.bool true) (za (by rw [beq_eq_false_iff_ne.2 (by omega)];rfl)),.v,.v,.n,.n,.n,.n,.v,.v,.n,.n,.n,.n,.v,.v,.n,.n,.n,.n,.v] H1 kr fun gs2 w2 H2=>zZ<|rS [.v] H2 kr fun gs3 w3 H3=>?_;exact rRe [.tmp 2] [] (v:=.bool false) (v':=.bool (yd h)) H3 (kM (·.tx) htx) kr
 by_cases hpr:h.pr.size=20
 case neg=>
  refine rS [.v,.l 0,.v,.E (.bool (!(((h.pa.size:Nat):Int)==32))) (.bool false) (za (by rw [beq_iff_eq.2 (show ((h.pa.size:Nat):Int)=32 by omega)];rfl)),.v,.v,.l 0,.v,.E (.bool (!(((h.ro.size:Nat):Int)==32))) (.bool false) (za (by rw [beq_iff_eq.2 (show ((h.ro.size:Nat):Int)=32 by omega)];rfl)),.v,.v,.v,.l 0,.v,.E (.bool (!(((h.tx.size:Nat):Int)==32))) (.bool false) (za (by rw [beq_iff_eq.2 (show ((h.tx.size:Nat):Int)=32 by omega)];rfl)),.v,.v,.v,.l 0,.v,.E (.bool (!(((h.pr.size:Nat):Int)==20))) (.bool true) (za (by rw [beq_eq_false_iff_ne.2 (by omega)];rfl)),.v,.v,.n,.n,.n,.n,.v,.v,.n,.n,.n,.n,.v] H1 kr fun gs2 w2 H2=>zZ<|rS [.v] H2 kr fun gs3 w3 H3=>?_;exact rRe [.tmp 2] [] (v:=.bool false) (v':=.bool (yd h)) H3 (kM (·.pr) hpr) kr
 by_cases hva:h.va.size≤8
 case neg=>
  refine rS [.v,.l 0,.v,.E (.bool (!(((h.pa.size:Nat):Int)==32))) (.bool false) (za (by rw [beq_iff_eq.2 (show ((h.pa.size:Nat):Int)=32 by omega)];rfl)),.v,.v,.l 0,.v,.E (.bool (!(((h.ro.size:Nat):Int)==32))) (.bool false) (za (by rw [beq_iff_eq.2 (show ((h.ro.size:Nat):Int)=32 by omega)];rfl)),.v,.v,.v,.l 0,.v,.E (.bool (!(((h.tx.size:Nat):Int)==32))) (.bool false) (za (by rw [beq_iff_eq.2 (show ((h.tx.size:Nat):Int)=32 by omega)];rfl)),.v,.v,.v,.l 0,.v,.E (.bool (!(((h.pr.size:Nat):Int)==20))) (.bool false) (za (by rw [beq_iff_eq.2 (show ((h.pr.size:Nat):Int)=20 by omega)];rfl)),.v,.v,.v,.l 0,.v,.E (.bool (decide (((h.va.size:Nat):Int)>8))) (.bool true) (za (decide_eq_true (by omega))),.v,.v,.n,.n,.n,.n,.v] H1 kr fun gs2 w2 H2=>zZ<|rS [.v] H2 kr fun gs3 w3 H3=>?_;exact rRe [.tmp 2] [] (v:=.bool false) (v':=.bool (yd h)) H3 (kM (·.va) hva) kr
 have hset:=zlE p n c h.vs (by omega);by_cases hst:setM h.vs=true
 case neg=>
  rw [Bool.eq_false_iff.2 hst] at hset;refine rS [.v,.l 0,.v,.E (.bool (!(((h.pa.size:Nat):Int)==32))) (.bool false) (za (by rw [beq_iff_eq.2 (show ((h.pa.size:Nat):Int)=32 by omega)];rfl)),.v,.v,.l 0,.v,.E (.bool (!(((h.ro.size:Nat):Int)==32))) (.bool false) (za (by rw [beq_iff_eq.2 (show ((h.ro.size:Nat):Int)=32 by omega)];rfl)),.v,.v,.v,.l 0,.v,.E (.bool (!(((h.tx.size:Nat):Int)==32))) (.bool false) (za (by rw [beq_iff_eq.2 (show ((h.tx.size:Nat):Int)=32 by omega)];rfl)),.v,.v,.v,.l 0,.v,.E (.bool (!(((h.pr.size:Nat):Int)==20))) (.bool false) (za (by rw [beq_iff_eq.2 (show ((h.pr.size:Nat):Int)=20 by omega)];rfl)),.v,.v,.v,.l 0,.v,.E (.bool (decide (((h.va.size:Nat):Int)>8))) (.bool false) (za (decide_eq_false (by omega))),.v,.v,.v,.l 0,.cp (pre:=fun w=>AtF sS w p n h.vs) hset [] (fun w hb hd=>hP.1.call hb),.v,.v] H1 kr fun gs2 w2 H2=>zZ<|rS [.v] H2 kr fun gs3 w3 H3=>?_;exact rRe [.tmp 2] [] (v:=.bool false) (v':=.bool (yd h)) H3 (kM (·.st) hst) kr
 rw [hst] at hset;have hst2:=hst;refine rS [.v,.l 0,.v,.E (.bool (!(((h.pa.size:Nat):Int)==32))) (.bool false) (za (by rw [beq_iff_eq.2 (show ((h.pa.size:Nat):Int)=32 by omega)];rfl)),.v,.v,.l 0,.v,.E (.bool (!(((h.ro.size:Nat):Int)==32))) (.bool false) (za (by rw [beq_iff_eq.2 (show ((h.ro.size:Nat):Int)=32 by omega)];rfl)),.v,.v,.v,.l 0,.v,.E (.bool (!(((h.tx.size:Nat):Int)==32))) (.bool false) (za (by rw [beq_iff_eq.2 (show ((h.tx.size:Nat):Int)=32 by omega)];rfl)),.v,.v,.v,.l 0,.v,.E (.bool (!(((h.pr.size:Nat):Int)==20))) (.bool false) (za (by rw [beq_iff_eq.2 (show ((h.pr.size:Nat):Int)=20 by omega)];rfl)),.v,.v,.v,.l 0,.v,.E (.bool (decide (((h.va.size:Nat):Int)>8))) (.bool false) (za (decide_eq_false (by omega))),.v,.v,.v,.l 0,.cp (pre:=fun w=>AtF sS w p n h.vs) hset [] (fun w hb hd=>hP.1.call hb),.v,.v] H1 kr fun gs2 w2 H2=>yV<|wW<|zb kr<|qA (Q:=fun e ρ ww=>(e=.ret∧yd h=false∧Is [(2,.bool false)] ρ∧St w.heap.size w ww [])∨(e=.normal∧voteB h.vo h.ad=true∧m≤16∧St w.heap.size w ww [((gs1 0).b,hdO h p n c q m k)]∧Is [(1,.pointer (some ⟨(gs1 0).b,0,none⟩))] ρ)) ?_ ?_
 ·by_cases hz:h.vo.size=0
  ·have hv0:h.vo=⟨#[]⟩:=jm hz;cases had:h.ad with
   | true=>
    refine rS [.v,.l 0,.v,.E (.bool (!(((h.vo.size:Nat):Int)==0))) (.bool false) (za (by rw [beq_iff_eq.2 (show ((h.vo.size:Nat):Int)=0 by omega)];rfl)),.v,.n,.n,.n,.n,.v,.v,.v,.l 0,.E (.bool (h.vo.toList==(⟨#[]⟩:ByteArray).toList)) (.bool true) (za (zL _ _ hv0)),.v,.v,.l 0,.v,.v,.v,.n,.n,.n,.n,.v] (H2.as (l:=[((gs1 0).b,.cells (#[.string h.pa,.int .u64 ((h.hh:Nat):Int),.string h.ro,.string h.tx,.string h.pr,.string h.va,.slice p n c,.string h.vo,.bool true,.int .u64 ((h.rd:Nat):Int),.slice q m k]) 26 (0,0))]) (congrArg (fun o=>[((gs1 0).b,o)]) (zcr had))) kr fun gs4 w4 H4=>zZ<|rS [.v] H4 kr fun gs5 w5 H5=>?_;exact zl kr (.inl ⟨rfl,Bool.eq_false_iff.2 (fun e=>by have:=(qH.1 e).vo;unfold voteB at this;rw [if_pos hz,had] at this;exact absurd this (by decide)),isK,H5.sub (List.nil_sublist _)⟩)
   | false=>
    have H2':=H2.as (l:=[((gs1 0).b,.cells (#[.string h.pa,.int .u64 ((h.hh:Nat):Int),.string h.ro,.string h.tx,.string h.pr,.string h.va,.slice p n c,.string h.vo,.bool false,.int .u64 ((h.rd:Nat):Int),.slice q m k]) 26 (0,0))]) (congrArg (fun o=>[((gs1 0).b,o)]) (zcr had));by_cases h16:m≤16
    ·refine rS [.v,.l 0,.v,.E (.bool (!(((h.vo.size:Nat):Int)==0))) (.bool false) (za (by rw [beq_iff_eq.2 (show ((h.vo.size:Nat):Int)=0 by omega)];rfl)),.v,.n,.n,.n,.n,.v,.v,.v,.l 0,.E (.bool (h.vo.toList==(⟨#[]⟩:ByteArray).toList)) (.bool true) (za (zL _ _ hv0)),.v,.v,.l 0,.v,.v,.v,.v,.l 0,.v,.E (.bool (decide ((m:Int)>16))) (.bool false) (za (decide_eq_false (by omega))),.v] H2' kr fun gs4 w4 H4=>yV ?_;exact .inr ⟨rfl,by unfold voteB;rw [if_pos hz];rfl,h16,(H4.as (l:=[((gs1 0).b,.cells (#[.string h.pa,.int .u64 ((h.hh:Nat):Int),.string h.ro,.string h.tx,.string h.pr,.string h.va,.slice p n c,.string h.vo,.bool false,.int .u64 ((h.rd:Nat):Int),.slice q m k]) 26 (0,0))]) kr).as (congrArg (fun o=>[((gs1 0).b,o)]) (zcr had).symm),isK⟩
    ·refine rS [.v,.l 0,.v,.E (.bool (!(((h.vo.size:Nat):Int)==0))) (.bool false) (za (by rw [beq_iff_eq.2 (show ((h.vo.size:Nat):Int)=0 by omega)];rfl)),.v,.n,.n,.n,.n,.v,.v,.v,.l 0,.E (.bool (h.vo.toList==(⟨#[]⟩:ByteArray).toList)) (.bool true) (za (zL _ _ hv0)),.v,.v,.l 0,.v,.v,.v,.v,.l 0,.v,.E (.bool (decide ((m:Int)>16))) (.bool true) (za (decide_eq_true (by omega))),.v] H2' kr fun gs4 w4 H4=>zZ<|rS [.v] H4 kr fun gs5 w5 H5=>?_;exact zl kr (.inl ⟨rfl,Bool.eq_false_iff.2 (fun e=>by have:=(qH.1 e).sl;omega),isK,H5.sub (List.nil_sublist _)⟩)
  ·have hv0: ¬h.vo=⟨#[]⟩:=fun e=>hz (by rw [e];rfl);by_cases hz2:h.vo.size=20
   ·by_cases h16:m≤16
    ·refine rS [.v,.l 0,.v,.E (.bool (!(((h.vo.size:Nat):Int)==0))) (.bool true) (za (by rw [beq_eq_false_iff_ne.2 (by omega)];rfl)),.v,.v,.l 0,.v,.E (.bool (!(((h.vo.size:Nat):Int)==20))) (.bool false) (za (by rw [beq_iff_eq.2 (show ((h.vo.size:Nat):Int)=20 by omega)];rfl)),.v,.v,.v,.l 0,.E (.bool (h.vo.toList==(⟨#[]⟩:ByteArray).toList)) (.bool false) (za (yA _ _ hv0)),.v,.n,.n,.v,.v,.v,.v,.l 0,.v,.E (.bool (decide ((m:Int)>16))) (.bool false) (za (decide_eq_false (by omega))),.v] H2 kr fun gs4 w4 H4=>yV ?_;exact .inr ⟨rfl,by unfold voteB;rw [if_neg hz,decide_eq_true hz2],h16,H4.as kr,isK⟩
    ·refine rS [.v,.l 0,.v,.E (.bool (!(((h.vo.size:Nat):Int)==0))) (.bool true) (za (by rw [beq_eq_false_iff_ne.2 (by omega)];rfl)),.v,.v,.l 0,.v,.E (.bool (!(((h.vo.size:Nat):Int)==20))) (.bool false) (za (by rw [beq_iff_eq.2 (show ((h.vo.size:Nat):Int)=20 by omega)];rfl)),.v,.v,.v,.l 0,.E (.bool (h.vo.toList==(⟨#[]⟩:ByteArray).toList)) (.bool false) (za (yA _ _ hv0)),.v,.n,.n,.v,.v,.v,.v,.l 0,.v,.E (.bool (decide ((m:Int)>16))) (.bool true) (za (decide_eq_true (by omega))),.v] H2 kr fun gs4 w4 H4=>zZ<|rS [.v] H4 kr fun gs5 w5 H5=>?_;exact zl kr (.inl ⟨rfl,Bool.eq_false_iff.2 (fun e=>by have:=(qH.1 e).sl;omega),isK,H5.sub (List.nil_sublist _)⟩)
   ·refine rS [.v,.l 0,.v,.E (.bool (!(((h.vo.size:Nat):Int)==0))) (.bool true) (za (by rw [beq_eq_false_iff_ne.2 (by omega)];rfl)),.v,.v,.l 0,.v,.E (.bool (!(((h.vo.size:Nat):Int)==20))) (.bool true) (za (by rw [beq_eq_false_iff_ne.2 (by omega)];rfl)),.v,.v,.n,.n,.n,.n,.n,.n,.n,.v,.v,.n,.n,.n,.n,.v] H2 kr fun gs4 w4 H4=>zZ<|rS [.v] H4 kr fun gs5 w5 H5=>?_;exact zl kr (.inl ⟨rfl,Bool.eq_false_iff.2 (fun e=>by have:=(qH.1 e).vo;unfold voteB at this;rw [if_neg hz,decide_eq_false hz2] at this;cases this),isK,H5.sub (List.nil_sublist _)⟩)
 ·rintro _ _ w5 (⟨rfl,hr,⟨_,rfl⟩,H5⟩|⟨rfl,hvo,h16,H5,_,rfl⟩)
  ·refine wV ?_;refine ⟨[.bool false],(.tmp (.bool false) kr .nil),?_,H5.below⟩;rw [hr];rfl
  refine wW ?_;clear H0 H1 H2;refine zb kr<|rS [.v,.l 0,.v,.v] H5 kr fun gs6 w6 H6=>qX 67 66 68 74 0 1 m (by omega) (fun i ρ ww=>(h.ss.take i).all sgMay=true∧St w.heap.size w ww [((gs1 0).b,hdO h p n c q m k)]∧Is [(65,.slice q m k),(66,iN m),(67,iN i)] ρ) (by rintro i _ ww ⟨_,_,_,rfl⟩;exact ⟨kr,kr⟩) ⟨rfl,H6.as kr,isK⟩ ?_ ?_
  ·clear H5 H6;rintro i _ w7 hi ⟨hst,H7,_,rfl⟩;obtain ⟨x,hx⟩:∃x,h.ss[i]? =some x:=⟨_,List.getElem?_eq_getElem (by omega)⟩
   obtain ⟨bl,off,C,T,fz,hp,hh,hR⟩:=hP.2.row2 (by omega);have hxo:=o.ss x (List.mem_of_getElem? hx);have hsig:=zb4 x.1 x.2.1 hxo.1 hxo.2 x.2.2;refine rS [.o (ins:=[((.tmp 65),.slice q m k),((.tmp 67),iN i)]) (v:=.pointer (some ⟨bl,off+i*9,none⟩)) (fun ρ o w ho hi2=>zM (kd:=.i64) (t:=24) (e:=50) (K:=9) (bytes:=72) kr (x:=(.tmp 65)) (y:=(.tmp 67)) bl off m k i hp ho hi2.1 hi2.2.1 (by omega) w),.fp (off:=off+i*9) (n:=9) (W:=sgC x) hh (zq hh) (hR _ _ hx).1 (hR _ _ hx).2,.a,.s 1] H7 kr fun gs7 w8 H8=>?_;cases hmy:sgMay x with
   | false=>
    rw [show ya x.1 x.2.1 x.2.2=false from hmy] at hsig;refine rS [.l 1,.c hsig,.v] H8 kr fun gs8 w9 H9=>zZ<|rS [.v] H9 kr fun gs9 w10 H10=>?_;exact rRe [.tmp 2] [] (v:=.bool false) (v':=.bool (yd h)) H10 (congrArg Value.bool (Bool.eq_false_iff.2 fun e=>by have:=List.all_eq_true.1 (qH.1 e).ss x (List.mem_of_getElem? hx);rw [hmy] at this;cases this).symm) kr
   | true=>
    rw [show ya x.1 x.2.1 x.2.2=true from hmy] at hsig;refine rS [.l 1,.c hsig,.v] H8 kr fun gs8 w9 H9=>yV ?_;exact ⟨kr,by rw [qU hx,List.all_append,hst];simp [hmy],(H9.as (l:=[((gs1 0).b,hdO h p n c q m k),((gs7 2).b,sgO x)]) kr).sub (List.sublist_append_left [_] [_]),isK⟩
  ·rintro _ w7 ⟨hst,H7,_,rfl⟩;refine wW ?_;rw [List.take_of_length_le (by omega)] at hst;refine rS [.v] H7 kr fun gs7 w8 H8=>?_;exact rRe [.tmp 2] [] (v:=.bool true) (v':=.bool (yd h)) H8 (congrArg Value.bool (qH.2 ⟨hpa,hro,htx,hpr,hva,hst2,hvo,by omega,hst⟩).symm) kr
theorem zlG (h:Hdr)(o:yx h)(p:Option Addr)(n c:Nat)(q:Option Addr)(m k:Nat):FnP Tryz.prog 12 #[hdV h p n c q m k] (fun w=>qI w h p n q m) (.bool (yd h)):=zlF h o.sm p n c q m k
def pu1 (l:Bool)(s:ByteArray)(k:Fo):Bool:= !mixed l s k.len&&pureF k
def dq1 (l:Bool)(d:Nat):Nat:=if l then d+1 else d
def dqF:Fo→Nat
 | .nil=>0
 | .cons l s k r=>max (dq1 l (dqF k)) (dqF r)
theorem zcs: ∀k:Fo,dqF k≤k.cnt
 | .nil=>Nat.le_refl _
 | .cons l s k r=>by
  have h1:=zcs k;have h2:=zcs r;simp only [dqF,Fo.cnt,dq1];split<;>omega
theorem zct: ∀ {k:Fo},pureF k=true→dqF k=dpF k
 | .nil,_=>rfl
 | .cons l s k r,h=>by
  simp only [pureF,Bool.and_eq_true,Bool.not_eq_true'] at h;simp only [dqF,dpF];rw [zct h.1.2,zct h.2];congr 1;rcases qR h.1.1 with ⟨rfl,_⟩ | ⟨rfl,rfl⟩
  ·unfold dq1 dp1;simp;omega
  ·rfl
theorem zaE {l:Bool}{s:ByteArray}{k:Fo}(hm:mixed l s k.len=false)(hp:pureF k=true):dq1 l (dqF k)=dp1 l (dpF k):=by
 rw [zct hp];rcases qR hm with ⟨rfl,_⟩ | ⟨rfl,rfl⟩
 ·unfold dq1 dp1;simp;omega
 ·rfl
theorem zfH {l:Bool}{s:ByteArray}{k:Fo}(h:mixed l s k.len=true):pu1 l s k=false:=by unfold pu1;rw [h];rfl
theorem zaF {l:Bool}{s:ByteArray}{k:Fo}(h:mixed l s k.len=false):pu1 l s k=pureF k:=by unfold pu1;rw [h];rfl
theorem zlH {l:Bool}{s:ByteArray}{n:Nat}(hl:l=true)(hs: ¬s=⟨#[]⟩):mixed l s n=true:=by subst hl;unfold mixed;simpa using kt hs
theorem zlI {l:Bool}{s:ByteArray}{n:Nat}(hl:l=false)(hn:n≠0):mixed l s n=true:=by subst hl;unfold mixed;simpa using hn
theorem zfI {l:Bool}{s:ByteArray}{n:Nat}(hl:l=true)(hs:s=⟨#[]⟩):mixed l s n=false:=by subst hl hs;rfl
theorem zfJ {l:Bool}{s:ByteArray}{n:Nat}(hl:l=false)(hn:n=0):mixed l s n=false:=by subst hl hn;rfl
theorem zfK {l:Bool}{s:ByteArray}{k r:Fo}(h:pu1 l s k=true):pureF (.cons l s k r)=pureF r:=by
 unfold pu1 at h;show (!mixed l s k.len&&pureF k&&pureF r)=_;rw [h,Bool.true_and]
theorem zfL {l:Bool}{s:ByteArray}{k r:Fo}(h:pu1 l s k=false):pureF (.cons l s k r)=false:=by
 unfold pu1 at h;show (!mixed l s k.len&&pureF k&&pureF r)=_;rw [h,Bool.false_and]
theorem zlJ {l:Bool}{s:ByteArray}{k r:Fo}(h:pureF (.cons l s k r)=true):mixed l s k.len=false∧pureF k=true∧pureF r=true:=by
 simp only [pureF,Bool.and_eq_true,Bool.not_eq_true'] at h;exact ⟨h.1.1,h.1.2,h.2⟩
theorem zlK {f n:Nat}(h:n<56)(hf:f≤192):strOfNums [(BitVec.toNat (BitVec.ofNat 8 (f+n)):Int)]=zh (hd f n):=by
 unfold hd;rw [if_pos (by omega)];show (⟨#[UInt8.ofNat (Int.toNat _)]⟩:ByteArray)=⟨#[UInt8.ofNat (f+n)]⟩
 rw [Int.toNat_natCast,BitVec.toNat_ofNat,show (f+n)%2^8=f+n by omega]
theorem zlL {f n:Nat}(h: ¬n<56)(hf:f≤192):strOfNums [(BitVec.toNat (BitVec.ofNat 8 (f+55+ByteArray.size (zh (dg n)))):Int)]++zh (dg n)=zh (hd f n):=by
 have hl:=qj n;have e:UInt8.ofNat (Int.toNat (BitVec.toNat (BitVec.ofNat 8 (f+55+ByteArray.size (zh (dg n)))):Int))=UInt8.ofNat (f+55+(dg n).length):=by
  rw [Int.toNat_natCast,BitVec.toNat_ofNat,qh,show (f+55+(dg n).length)%2^8=f+55+(dg n).length by omega]
 apply qi;rw [xv];show [UInt8.ofNat _]++dg n=hd f n;unfold hd;rw [if_neg (by omega),e];rfl
theorem zlM {l:Bool}{s:ByteArray}{k:Fo}{a:ByteArray}(hl:l=true)(hm:mixed l s k.len=false)(hp:pureF k=true)(ha:wrF k=tl a):zh (hd 192 (ByteArray.size a))++a=zh (wr1 l s (szF k) (wrF k)):=by
 rcases qR hm with ⟨_,hs⟩|⟨h,_⟩
 ·subst hl hs;have hz:szF k=ByteArray.size a:=by rw [←ye hp,ha,zt]
  apply qi;rw [xv,qm,qm];unfold wr1;rw [if_neg (by decide),ha,hz];show _=hd 192 (0+_)++([]++tl a);rw [Nat.zero_add,List.nil_append]
 ·rw [hl] at h;cases h
theorem zlN {l:Bool}{s:ByteArray}{k:Fo}(hl:l=false)(hm:mixed l s k.len=false)(h:s.size=1)(h2:by_ s 0<128):s=zh (wr1 l s (szF k) (wrF k)):=by
 rcases qR hm with ⟨q,_⟩|⟨_,hk⟩
 ·rw [hl] at q;cases q
 ·subst hk;unfold wr1;rw [if_pos (by unfold zX;simp [h,h2])];show s=zh ([]++(tl s++ []));rw [List.nil_append,List.append_nil];exact (xT s).symm
theorem zfM {l:Bool}{s:ByteArray}{k:Fo}(hl:l=false)(hm:mixed l s k.len=false)(h: ¬(s.size=1∧by_ s 0<128)):zh (hd 128 (ByteArray.size s))++s=zh (wr1 l s (szF k) (wrF k)):=by
 rcases qR hm with ⟨q,_⟩|⟨_,hk⟩
 ·rw [hl] at q;cases q
 ·subst hl hk;apply qi;rw [xv,qm,qm];unfold wr1;rw [if_neg (by unfold zX;simpa using h)];show _=hd 128 (s.size+0)++(tl s++ []);rw [List.append_nil,Nat.add_zero]
section
variable {l:Bool}{s:ByteArray}{k:Fo}
theorem zaG (hc:k.cnt<4000):lf1 l s k.len (lfF k) 4000=if pu1 l s k=true then some (3999-k.cnt) else none:=by
 unfold lf1 pu1;cases hm:mixed l s k.len with
 | true=>rw [if_pos (Or.inr rfl)];rfl
 | false=>
  rw [if_neg (by simp),xW];cases hp:pureF k with
  | true=>rw [if_pos ⟨rfl,by omega⟩,if_pos (by rfl)]
  | false=>rw [if_neg (by simp),if_neg (by simp)]
theorem zlO (h:4000<qo (1+k.cnt) 4000):zP l s k.len k=(⟨#[]⟩,1):=by
 have hc:4000≤k.cnt:=by unfold qo at h;split at h<;>omega
 have e:lf1 l s k.len (lfF k) 4000=none:=by
  unfold lf1;split
  ·rfl
  ·rw [xW,if_neg (by omega)]
 unfold zP;rw [e]
theorem zlP (h: ¬4000<qo (1+k.cnt) 4000):k.cnt<4000:=by unfold qo at h;split at h<;>omega
theorem zlQ (hc:k.cnt<4000)(h:pu1 l s k=false):zP l s k.len k=(⟨#[]⟩,1):=by
 unfold zP;rw [zaG hc,h];rfl
theorem vR (h:pu1 l s k=true):mixed l s k.len=false∧pureF k=true:=by
 unfold pu1 at h;simp only [Bool.and_eq_true,Bool.not_eq_true'] at h;exact h
theorem zlR (hc:k.cnt<4000)(h:pu1 l s k=true)(hd:8<dq1 l (dqF k)):zP l s k.len k=(⟨#[]⟩,5):=by
 have hp:=vR h;rw [zaE hp.1 hp.2] at hd;unfold zP;rw [zaG hc,if_pos h];simp only [];rw [if_pos hd]
theorem zlS (hc:k.cnt<4000)(h:pu1 l s k=true)(hd: ¬8<dq1 l (dqF k))(hz:4000<ByteArray.size (zh (wr1 l s (szF k) (wrF k)))):zP l s k.len k=(⟨#[]⟩,2):=by
 have hp:=vR h;rw [zaE hp.1 hp.2] at hd;rw [qh,qn hp.1 (ye hp.2)] at hz;unfold zP;rw [zaG hc,if_pos h];simp only [];rw [if_neg hd,if_pos hz]
theorem zlT (hc:k.cnt<4000)(h:pu1 l s k=true)(hd: ¬8<dq1 l (dqF k))(hz: ¬4000<ByteArray.size (zh (wr1 l s (szF k) (wrF k)))):zP l s k.len k=(zh (wr1 l s (szF k) (wrF k)),0):=by
 have hp:=vR h;rw [zaE hp.1 hp.2] at hd;rw [qh,qn hp.1 (ye hp.2)] at hz;unfold zP;rw [zaG hc,if_pos h];simp only [];rw [if_neg hd,if_neg hz]
end
end Go.Proofs.YtbpmjppmpgeejaaGreatDoor
