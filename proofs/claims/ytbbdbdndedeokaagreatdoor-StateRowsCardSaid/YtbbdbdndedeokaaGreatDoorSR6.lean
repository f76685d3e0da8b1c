/-
  Texts of the proof,part 6.
-/
import Derived.Test.YtbbdbdndedeokaaGreatDoorProg
import Derived.Test.YtbbdbdndedeokaaGreatDoorSR2
import Derived.Test.YtbbdbdndedeokaaGreatDoorSR3
import Derived.Test.YtbbdbdndedeokaaGreatDoorSR5
set_option maxRecDepth 100000
set_option maxHeartbeats 4000000
namespace Go.Proofs.YtbbdbdndedeokaaGreatDoor
open Go Go.RowKit
open D2 (Gh)
set_option linter.unusedVariables false
theorem zcS {ρ:Env}{x y:Operand}{o:Oper}{kd:IntKind}(b n c k:Nat)(ho:o.op=.indexAddr 71 x y)(hx:ev ρ x=.slice (some ⟨b,0,none⟩) n c)(hy:ev ρ y=.int kd (k:Int))(hk:k<n)(w:World):
 (execOp (ev ρ) o).run Tryz.prog w=.ok (.value (.pointer (some ⟨b,0+k*3,none⟩))) w:=yb (kd:=kd) (t:=71) (e:=73) (K:=3) (bytes:=48) kr (x:=x) (y:=y) b 0 n c k rfl ho hx hy hk w
theorem zmw {ρ:Env}{x:Operand}{o:Oper}{w:World}{b k:Nat}{L:List X3}{y:X3}(h:jR w b L)(hy:L[k]? =some y)(ho:o.op=.load 73 x)(hx:ev ρ x=.pointer (some ⟨b,0+k*3,none⟩)):
 (execOp (ev ρ) o).run Tryz.prog w=.ok (.value (itV y)) w:=by
 obtain ⟨C,T,fz,hh,hR⟩:=h;have h1:0+k*3+3≤C.size:=(hR k y hy).1;have h2:C.extract (0+k*3) (0+k*3+3)=#[.bool y.l,.string y.s,.slice y.p y.n y.c]:=(hR k y hy).2;have hl:=jS (P:=Tryz.prog) (w:=w) (t:=73) (n:=3) kr hh h1;rw [h2] at hl;rw [Nat.zero_add] at hl;simp [execOp,ho,Instr.loadAt,Instr.sureAddr,hx,hl]
theorem zmx (p v:ByteArray)(kids:List Int)(bb cb:Nat)(Bl:List X3)(m:Nat)(xk:X3)(hp:p.size≤100000)(hi:isP (tl p)=true)(hk:kids.getD 0 (-1)=(m:Int))(hx:Bl[m]? =some xk):
 FnT Tryz.prog 68 #[.agg (nS.cs ⟨2,p,v,kids⟩).toArray,.slice (some ⟨bb,0,none⟩) Bl.length cb] (fun w=>jR w bb Bl) (xJ [b3 (zb (pk (tl p) false)),xk]):=by
 refine FnT.intro (c:=zl Tryz.f68) [.cell 4 73] 57 Tryz.func68 kr kr kr fun w hB=>?_;have hml:m<Bl.length:=(List.getElem?_eq_some_iff.1 hx).1;refine rS [.b,.a] (St.start w) kr fun gs1 w1 H1=>rS [.v,.l 0] H1 kr fun gs2 w2 H2=>zj 0 kr<|rS [.v,.v] H2 kr fun gs3 w3 H3=>zf kr kr<|rS [.v,.v] H3 kr fun gs3b w3b H3b=>zg kr kr ?_;have H4:St w.heap.size w w3b [((gs1 0).b,ndO ⟨2,p,v,kids⟩),((gs1 1).b,itO (b3 emB))]:=H3b.as kr;refine zc kr<|D2.g_draw0 [0,1,2,3,4,5,6,7,8,9,10,11] [(some 46,fun _=>.pointer (some ⟨(gs1 0).b,1,none⟩)),(some 47,fun _=>.string p),(some 48,fun _=>itV (b3 (zb (pk (tl p) false)))),(some 49,fun _=>.slice (some ⟨bb,0,none⟩) Bl.length cb),(some 50,fun _=>.pointer (some ⟨(gs1 0).b,3,none⟩)),(some 51,fun _=>.pointer (some ⟨(gs1 0).b,3,none⟩)),(some 52,fun _=>iN m),(some 53,fun _=>.pointer (some ⟨bb,0+m*3,none⟩)),(some 54,fun _=>itV xk),(some 55,fun y=>.slice (some ⟨y.b,0,none⟩) 2 2),(some 56,fun y=>.agg #[.bool true,.string emB,.slice (some ⟨y.b,0,none⟩) 2 y.cap]),(none,fun _=>undef)]
  (D2.chn [9,10,11] fun j g ww=>match j with
   | 0=>St w.heap.size w ww [((gs1 0).b,ndO ⟨2,p,v,kids⟩),((gs1 1).b,itO (b3 emB))]
   | 1=>St w.heap.size w ww [((gs1 0).b,ndO ⟨2,p,v,kids⟩),((gs1 1).b,itO (b3 emB)),((g 9).b,yl [b3 (zb (pk (tl p) false)),xk])]
   | 2=>St w.heap.size w ww [((gs1 0).b,ndO ⟨2,p,v,kids⟩),((gs1 1).b,itO (b3 emB)),((g 10).b,.cells (g 10).cur 73 (0,0))]∧Rw 3 (g 10).cur (g 10).cap 2 (cellsF iS [b3 (zb (pk (tl p) false)),xk])
   | _=>St w.heap.size w ww [((gs1 0).b,ndO ⟨2,p,v,kids⟩),((gs1 1).b,.cells #[.bool true,.string emB,.slice (some ⟨(g 10).b,0,none⟩) 2 (g 10).cap] 73 (0,0)),((g 10).b,.cells (g 10).cur 73 (0,0))]∧Rw 3 (g 10).cur (g 10).cap 2 (cellsF iS [b3 (zb (pk (tl p) false)),xk]))
  kr kr kr H4.drew ⟨?_,?_,?_,?_,?_,?_,?_,?_,?_,?_,?_,?_,trivial⟩ ?_
 ·exact D2.gv_val (fun _ _ _ h=>h) (fun g w=>by kernel_rfl)
 ·exact D2.gv_ld (fun _ _ _ h=>h) 9 (.tmp 46) (fun _=>(gs1 0).b) 1 (nS.cs ⟨2,p,v,kids⟩).toArray 118 (0,0) (fun g=>by kernel_rfl) (fun g=>by kernel_rfl) (fun L g w hN hp=>hp.get fun j hj h=>by
   match j,h with
   | 0,h=>exact St.get h 0 kr
   | 1,h=>exact St.get h 0 kr
   | 2,h=>exact St.get h.1 0 kr
   | _+3,h=>exact St.get h.1 0 kr) kr kr
 ·exact D2.gv_cW (fun _ _ _ h=>h) 106 #[.string p,.bool false] (zgY p false hp hi) (fun L g w w' hN hp hb=>by
   revert hp;unfold D2.chn
   generalize D2.stg [9,10,11] L=j;intro hp
   match j,hp with
   | 0,h=>exact h.call hb
   | 1,h=>exact h.call hb
   | 2,h=>exact ⟨h.1.call hb,h.2⟩
   | _+3,h=>exact ⟨h.1.call hb,h.2⟩) (fun g w=>by kernel_rfl)
 ·exact D2.gv_val (fun _ _ _ h=>h) (fun g w=>by kernel_rfl)
 ·exact D2.gv_val (fun _ _ _ h=>h) (fun g w=>by kernel_rfl)
 ·exact D2.gv_val (fun _ _ _ h=>h) (fun g w=>by kernel_rfl)
 ·exact D2.gv_ld (fun _ _ _ h=>h) 3 (.tmp 51) (fun _=>(gs1 0).b) 3 (nS.cs ⟨2,p,v,kids⟩).toArray 118 (0,0) (fun g=>by kernel_rfl) (fun g=>by kernel_rfl) (fun L g w hN hp=>hp.get fun j hj h=>by
   match j,h with
   | 0,h=>exact St.get h 0 kr
   | 1,h=>exact St.get h 0 kr
   | 2,h=>exact St.get h.1 0 kr
   | _+3,h=>exact St.get h.1 0 kr) kr ((show ldv Tryz.prog 3 3 (nS.cs ⟨2,p,v,kids⟩).toArray=.int .i64 (kids.getD 0 (-1)) by kernel_rfl).trans (ze hk))
 ·exact D2.gv_op (fun _ _ _ h=>h) (.indexAddr 71 (.tmp 49) (.tmp 52)) (fun g=>by kernel_rfl) (fun g o w ho=>zcS bb Bl.length cb m ho kr (show ev _ (.tmp 52)=.int .i64 (m:Int) by kernel_rfl) hml w)
 ·exact D2.gv_opW (fun _ _ _ h=>h) (.load 73 (.tmp 53)) (fun g=>by kernel_rfl) (fun L g o ww hN hp ho=>zmw (hB.call ((fun hp=>hp.get fun j hj h=>by
   match j,h with
   | 0,h=>exact h.below
   | 1,h=>exact h.below
   | 2,h=>exact h.1.below
   | _+3,h=>exact h.1.below) hp)) hx ho kr)
 ·refine D2.gv_chn 9 0 (fun L hN=>by
   have e9:=hN.1;have e10:=hN.post 10 kr;have e11:=hN.fwd e10 (show D2.edge _ 10 11=true by kernel_rfl)
   exact ⟨by (simp [D2.stg,e9,e10,e11])<;>rfl,by (simp [D2.stg,D2.put1,e9,e10,e11])<;>rfl⟩) fun g ww hq=>?_
  exact D2.run_new (F:=fun b=>.slice (some ⟨b,0,none⟩) 2 2) (ob:=yl [b3 (zb (pk (tl p) false)),xk]) kr ⟨{ b:=ww.heap.size },rfl,(St.alloc hq (yl [b3 (zb (pk (tl p) false)),xk])).perm (List.perm_append_comm (l₁:=[((gs1 0).b,ndO ⟨2,p,v,kids⟩),((gs1 1).b,itO (b3 emB))]) (l₂:=[(ww.heap.size,yl [b3 (zb (pk (tl p) false)),xk])]))⟩
 ·refine D2.gv_chn 10 1 (fun L hN=>by
   have e10:=hN.1;have e9:=hN.bef 9 kr;have e11:=hN.post 11 kr
   exact ⟨by (simp [D2.stg,e9,e10,e11])<;>rfl,by (simp [D2.stg,D2.put1,e9,e10,e11])<;>rfl⟩) fun g ww hq=>?_
  exact D2.run_ft (zcR (g 9).b 2 [b3 (zb (pk (tl p) false)),xk] (by simp)) (zg1 hq (by simp) (by simp)) kr fun v T w' hok hT=>by
   obtain ⟨b',c',cur,rfl,rfl,hr⟩:=hok;have h9:=(St.addAll hq hT).perm (List.perm_append_comm (l₁:=[((gs1 0).b,ndO ⟨2,p,v,kids⟩),((gs1 1).b,itO (b3 emB)),((g 9).b,yl [b3 (zb (pk (tl p) false)),xk])]) (l₂:=[(b',.cells cur 73 (0,0))]));exact ⟨{ b:=b',cap:=c',cur:=cur },rfl,h9.sub (List.Sublist.cons_cons _ (List.Sublist.cons_cons _ (List.sublist_cons_self ..))),hr⟩
 ·refine D2.gv_chn 11 2 (fun L hN=>by
   have e11:=hN.1;have e10:=hN.bef 10 kr;have e9:=hN.back e10 (show D2.edge _ 9 10=true by kernel_rfl)
   exact ⟨by (simp [D2.stg,e9,e10,e11])<;>rfl,by (simp [D2.stg,D2.put1,e9,e10,e11])<;>rfl⟩) fun g ww hq=>?_
  exact D2.run_sto (t:=73) (x:=.tmp 4) (y:=.tmp 56) (C:=#[.bool false,.string emB,.slice none 0 0]) (C':=#[.bool true,.string emB,.slice (some ⟨(g 10).b,0,none⟩) 2 (g 10).cap]) (T:=73) (off:=0) (b:=(gs1 1).b) (v:=.agg #[.bool true,.string emB,.slice (some ⟨(g 10).b,0,none⟩) 2 (g 10).cap]) kr kr kr kr kr (St.get hq.1 1 kr) (Nat.le_of_ble_eq_true kr) kr ⟨g 11,rfl,St.store (C:=#[.bool false,.string emB,.slice none 0 0]) (T:=73) hq.1 1 kr,hq.2⟩
 ·intro L1 g w9 hall hp;have hq:=hp.fin (fun k hk=>hall k (by simp at hk;rcases hk with rfl | rfl | rfl<;>exact Nat.le_of_ble_eq_true kr));refine wW<|rRr [.cell 4 73] [1] (.agg #[.bool true,.string emB,.slice (some ⟨(g 10).b,0,none⟩) 2 (g 10).cap]) (yf w.heap.size w (xJ [b3 (zb (pk (tl p) false)),xk])) hq.1 kr ?_;exact ⟨_,⟨(g 10).b,(g 10).cap,(g 10).cur,rfl,rfl,hq.2⟩,hq.1.sub ((List.sublist_cons_self ..).trans (List.sublist_cons_self ..))⟩
def jH (Bl:List X3)(kids:List Int)(c:Nat):X3:=if kids.getD c (-1)= -1 then b3 emB else Bl.getD (kids.getD c (-1)).toNat (b3 emB)
def Kl (Bl:List X3)(kids:List Int)(i:Nat):List X3:=(List.range 16).map fun c=>if c<i then jH Bl kids c else b3 emB
theorem uG (Bl:List X3)(kids:List Int)(i:Nat):(Kl Bl kids i).length=16:=by unfold Kl;simp
theorem zmy (Bl:List X3)(kids:List Int)(i:Nat)(hi:i<16):(Kl Bl kids i).set i (jH Bl kids i)=Kl Bl kids (i+1):=by
 apply List.ext_getElem?;intro j;unfold Kl;rw [List.getElem?_set];by_cases hj:i=j
 ·subst hj;rw [if_pos rfl,if_pos (by simpa using hi),List.getElem?_map,List.getElem?_range hi,Option.map_some,if_pos (Nat.lt_succ_self i)]
 ·rw [if_neg hj,List.getElem?_map,List.getElem?_map];by_cases h16:j<16
  ·rw [List.getElem?_range h16,Option.map_some,Option.map_some];by_cases hlt:j<i
   ·rw [if_pos hlt,if_pos (by omega)]
   ·rw [if_neg hlt,if_neg (by omega)]
  ·rw [List.getElem?_eq_none (by simpa using h16)];rfl
theorem zmz (Bl:List X3)(kids:List Int)(i:Nat)(hi:i<16)(h:kids.getD i (-1)= -1):Kl Bl kids (i+1)=Kl Bl kids i:=by
 unfold Kl;refine List.map_congr_left fun c _=>?_;by_cases hc:c<i
 ·rw [if_pos hc,if_pos (by omega)]
 ·rw [if_neg hc];by_cases he:c=i
  ·subst he;rw [if_pos (Nat.lt_succ_self c)];unfold jH;rw [if_pos h]
  ·rw [if_neg (by omega)]
theorem zmA (Bl:List X3)(kids:List Int):Kl Bl kids 16=(List.range 16).map (jH Bl kids):=by
 unfold Kl;refine List.map_congr_left fun c hc=>?_;rw [if_pos (List.mem_range.1 hc)]
theorem zmB (p v:ByteArray)(kids:List Int)(q:Option Addr)(cb:Nat)(Bl:List X3)(hk: ∀c,c<16→kids.getD c (-1)= -1∨∃m:Nat,kids.getD c (-1)=(m:Int)∧m<Bl.length):
 FnT Tryz.prog 68 #[.agg (nS.cs ⟨3,p,v,kids⟩).toArray,.slice q Bl.length cb] (fun w=>Bl=[]∨∃bb,q=some ⟨bb,0,none⟩∧jR w bb Bl) (xJ ((List.range 16).map (jH Bl kids)++ [b3 v])):=by
 refine FnT.intro (c:=zl Tryz.f68) [.cell 4 73] 57 Tryz.func68 kr kr kr fun w hB=>?_;have H0:=St.start w;refine rS [.b,.a] H0 kr fun gs1 w1 H1=>rS [.v,.l 0] H1 kr fun gs2 w2 H2=>zj 0 kr<|rS [.v,.v] H2 kr fun gs3 w3 H3=>zf kr kr<|rS [.v,.v] H3 kr fun gs3b w3b H3b=>zf kr kr<|rS [.nw (fun b=>.slice (some ⟨b,0,none⟩) 16 16) (cellsF iS (List.replicate 16 (b3 emB))).toArray 73,.v] H3b kr fun gs4 w4 H4=>zc kr<|rS [.v,.lp 0 (C:=(nS.cs ⟨3,p,v,kids⟩).toArray) (off:=3) (n:=16) (W:=(yG kids).toArray) (Nat.le_of_ble_eq_true kr) kr,.v] H4 kr fun gs5 w5 H5=>zj 1 kr ?_;have H6:St w.heap.size w w5 [((gs1 0).b,ndO ⟨3,p,v,kids⟩),((gs1 1).b,itO (b3 emB)),((gs4 0).b,yl (Kl Bl kids 0))]:=H5.as kr;refine zz kr (fun mz ρ ww=> ∃(i:Nat),16-i=mz∧i≤16∧St w.heap.size w ww [((gs1 0).b,ndO ⟨3,p,v,kids⟩),((gs1 1).b,itO (b3 emB)),((gs4 0).b,yl (Kl Bl kids i))]∧Is [(1,.slice q Bl.length cb),(2,.pointer (some ⟨(gs1 0).b,0,none⟩)),(4,.pointer (some ⟨(gs1 1).b,0,none⟩)),(5,.slice (some ⟨(gs4 0).b,0,none⟩) 16 16),(12,.agg (yG kids).toArray),(13,iN i)] ρ) (16-0)
  ⟨0,rfl,Nat.zero_le _,H6,(Is.of ⟨kr,kr,kr,kr,kr,kr,trivial⟩)⟩ ?_
 clear H0 H1 H2 H3 H3b H4 H5 H6;rintro _ _ w6 ⟨i,rfl,hi16,H1,_,rfl⟩;have hsz:(cellsF iS (Kl Bl kids i)).toArray.size=48:=by rw [List.size_toArray,yI,uG];rfl
 by_cases hi:i<16
 ·have hval:(yG kids).toArray[0+i*1]? =some (.int .i64 (kids.getD i (-1))):=by
   rw [Nat.zero_add,Nat.mul_one,List.getElem?_toArray];exact kt (f:=fun j=>Value.int .i64 (kids.getD j (-1))) hi
  refine rS [.E (.bool (decide ((i:Int)<16))) (.bool true) (za (decide_eq_true (by omega)))] H1 kr fun gs5 w7 H2=>zc kr<|zg kr kr<|zh kr<|wW<|zc kr<|zj 2 kr<|rS [.v,.o (ins:=[((.tmp 12),.agg (yG kids).toArray),((.tmp 13),iN i)]) (v:=.int .i64 (kids.getD i (-1))) (fun ρ o w ho hi2=>zbp (t:=116) (e:=3) (n:=16) (kd:=.i64) kr kr kr (x:=(.tmp 12)) (y:=(.tmp 13)) _ i _ ho hi2.1 hi2.2.1 hi hval w),.v,.v] H2 kr fun gs6 w8 H3=>?_;rcases hk i hi with hm | ⟨m,hm,hml⟩
  ·refine rS [.v,.E (.bool (!((kids.getD i (-1))== -1))) (.bool false) (za (by rw [hm];rfl))] H3 kr fun gs7 w9 H4=>zf kr kr<|zh kr<|wW<|rL [.E (.int .i64 (IntKind.i64.wrap ((i:Int)+1))) (iN (i+1)) (ze (zm (a:=i) (b:=1) (by omega))),.v] H4 kr fun gs8 w10 H5=>?_;show ∃m,_∧_;refine ⟨_,(by omega),i+1,rfl,hi,?_,(Is.of ⟨kr,kr,kr,kr,kr,kr,trivial⟩)⟩;rw [zmz Bl kids i hi hm];exact H5.as kr
  ·have hne: ¬Bl=[]:=by rintro rfl;exact absurd hml (Nat.not_lt_zero _)
   obtain ⟨bb,rfl,hrow⟩:=hB.resolve_left hne;obtain ⟨xk,hx⟩:∃x,Bl[m]? =some x:=⟨_,List.getElem?_eq_getElem hml⟩
   have hkx:jH Bl kids i=xk:=by
    unfold jH;rw [if_neg (by rw [hm];omega),hm,Int.toNat_natCast,List.getD_eq_getElem?_getD,hx];rfl
   obtain ⟨C,T,fz,hh,hR⟩:=hrow;refine rS [.v,.E (.bool (!((kids.getD i (-1))== -1))) (.bool true) (za (by rw [hm,beq_eq_false_iff_ne.2 (by omega)];rfl))] H3 kr fun gs7 w9 H4=>zg kr kr<|zZ 7 (v:=.int .i64 (kids.getD i (-1))) (v':=iN m) (ze hm) kr ?_
   refine rL [.v,.v,.v,.v,.o (ins:=[((.tmp 21),.slice (some ⟨bb,0,none⟩) Bl.length cb),((.tmp 22),iN m)]) (v:=.pointer (some ⟨bb,0+m*3,none⟩)) (fun ρ o w ho hi2=>zcS (kd:=.i64) bb Bl.length cb m ho hi2.1 hi2.2.1 hml w),.fp (off:=0+m*3) (n:=3) (W:=#[.bool xk.l,.string xk.s,.slice xk.p xk.n xk.c]) hh (zC hh) (hR m xk hx).1 (hR m xk hx).2,
    .o (ins:=[((.tmp 19),.slice (some ⟨(gs4 0).b,0,none⟩) 16 16),((.tmp 20),iN i)]) (v:=.pointer (some ⟨(gs4 0).b,0+i*3,none⟩)) (fun ρ o w ho hi2=>zcS (kd:=.i64) (gs4 0).b 16 16 i ho hi2.1 hi2.2.1 hi w),
    .se 2 (C:=(cellsF iS (Kl Bl kids i)).toArray) (C':=(cellsF iS (Kl Bl kids (i+1))).toArray) (off:=0+i*3) (v:=itV xk) (by rw [hsz];show 0+i*3+3≤48;omega) (by
     rw [←zmy Bl kids i hi,hkx,zg0 _ _ _ (by rw [uG];exact hi),List.toList_toArray];show _=((cellsF iS (Kl Bl kids i)).take (i*3)++X3.cs xk++(cellsF iS (Kl Bl kids i)).drop (i*3+3)).toArray
     rw [Nat.zero_add];rfl)] H4 kr fun gs8 w10 H5=>?_
   refine wW<|rL [.E (.int .i64 (IntKind.i64.wrap ((i:Int)+1))) (iN (i+1)) (ze (zm (a:=i) (b:=1) (by omega))),.v] H5 kr fun gs9 w11 H6=>?_;show ∃m,_∧_;exact ⟨_,(by omega),i+1,rfl,hi,H6.as kr,(Is.of ⟨kr,kr,kr,kr,kr,kr,trivial⟩)⟩
 ·obtain rfl:i=16:=by omega
  refine rS [.E (.bool (decide (((16:Nat):Int)<16))) (.bool false) (za (decide_eq_false (by omega)))] H1 kr fun gs5 w7 H2=>zc kr<|zf kr kr<|zw 1 kr<|wW ?_;have hr:Rw 3 (cellsF iS (Kl Bl kids 16)).toArray 16 16 (cellsF iS (Kl Bl kids 16)):=⟨by rw [yI,uG];rfl,Nat.le_refl _,by unfold maxLen;omega,by rw [List.toList_toArray,List.take_of_length_le (by rw [yI,uG];exact Nat.le_refl _)],hsz⟩
  refine zi [0,1,2,3,4,5,6,7] kr kr<|rp [.v,.v,.l 0,.c (zaQ v),.nw (fun b=>.slice (some ⟨b,0,none⟩) 1 1) #[.bool false,.string v,.slice none 0 0] 73] H2 kr fun gs6 w8 H3=>wX [5,6,7] ?_;have H4:St w.heap.size w w8 [((gs1 0).b,ndO ⟨3,p,v,kids⟩),((gs1 1).b,itO (b3 emB)),((gs4 0).b,yl (Kl Bl kids 16)),((gs6 4).b,itO (b3 v))]:=H3.as kr;refine xv (K':=3) H4 (some 32) 71 73 48 (.tmp 27) (.tmp 31) 2 3 (gs4 0).b (gs6 4).b 16 16 1 (cellsF iS (Kl Bl kids 16)).toArray #[.bool false,.string v,.slice none 0 0] (cellsF iS (Kl Bl kids 16)) kr kr kr kr kr hr kr kr rfl (qX rfl) (by omega) (by unfold maxLen;omega) ?_;intro b' cap' cur' w9 H5 hr';have hL17:(Kl Bl kids 16++ [b3 v]).length=17:=by rw [List.length_append,uG];rfl
  have hr2:Rw 3 cur' cap' 17 (cellsF iS (Kl Bl kids 16++ [b3 v])):=by rw [qF];exact hr'
  have H6:St w.heap.size w w9 [((gs1 0).b,ndO ⟨3,p,v,kids⟩),((gs1 1).b,itO (b3 emB)),(b',.cells cur' 73 (0,0)),((gs6 4).b,itO (b3 v))]:=H5.as kr;have hlst:=zcR b' cap' (Kl Bl kids 16++ [b3 v]) (by rw [hL17];omega);rw [hL17] at hlst;refine yZ H6 (some 33) 93 #[.slice (some ⟨b',0,none⟩) 17 cap'] hlst ⟨cur',73,(0,0),H6.get 2 kr,hr2.rowAt (S:=iS)⟩ kr kr ?_;rintro _ _ w10 ⟨b9,c9,cur9,rfl,rfl,hr9⟩ H7;rw [hL17] at hr9 ⊢;refine rp [.s 2] H7 kr fun gs7 w11 H8=>wX []<|zd ?_;have H9:St w.heap.size w w11 [(b9,.cells cur9 73 (0,0)),((gs1 0).b,ndO ⟨3,p,v,kids⟩),((gs1 1).b,.cells #[.bool true,.string emB,.slice (some ⟨b9,0,none⟩) 17 c9] 73 (0,0)),(b',.cells cur' 73 (0,0)),((gs6 4).b,itO (b3 v))]:=H8.as kr;refine rRr [.cell 4 73] [2] (.agg #[.bool true,.string emB,.slice (some ⟨b9,0,none⟩) 17 c9]) (yf w.heap.size w (xJ ((List.range 16).map (jH Bl kids)++ [b3 v]))) H8 kr ?_;rw [←zmA];exact ⟨_,⟨b9,c9,cur9,by rw [hL17],rfl,by rw [hL17];exact hr9⟩,H9.sub (List.Sublist.cons_cons _ (List.nil_sublist _))⟩
end Go.Proofs.YtbbdbdndedeokaaGreatDoor
namespace Go.Proofs.YtbbdbdndedeokaaGreatDoor
open Go Go.RowKit
set_option linter.unusedVariables false
theorem zaR {l:List UInt8}(h: ∀b∈l,b.toNat<16):isP l=true:=by
 unfold isP;rw [List.all_eq_true];intro b hb;have h2:=h b hb;simp;omega
structure zaS (B:List I3)(i:Nat)(x:Nd):Prop where
 cs:(∃p v ks,x=⟨1,p,v,ks⟩)∨(∃p v ks,∃m:Nat,x=⟨2,p,v,ks⟩∧ks.getD 0 (-1)=(m:Int)∧m<i)∨∃p v ks,x=⟨3,p,v,ks⟩∧ ∀c,c<16→ks.getD c (-1)= -1∨∃m:Nat,ks.getD c (-1)=(m:Int)∧m<i
 pt:x.part.size≤64∧isP (tl x.part)=true
 vl:x.value.size≤500
 it:Okm (itemN x B)
def jq (A:List Nd):Prop:= ∀i x,A[i]? =some x→zaS (qc (A.take i)) i x
theorem zmC:jq []:=fun i x h=>by simp at h
theorem zcT {A:List Nd}{x:Nd}(h:jq A)(hx:zaS (qc A) A.length x):jq (A++ [x]):=fun i y hy=>by
 by_cases hi:i<A.length
 ·rw [List.getElem?_append_left hi] at hy;rw [List.take_append_of_le_length (Nat.le_of_lt hi)];exact h i y hy
 ·rw [List.getElem?_append_right (by omega)] at hy;have h0:i-A.length=0:=by have:=(List.getElem?_eq_some_iff.1 hy).1;simp at this;omega
  rw [h0] at hy;obtain rfl:x=y:=by simpa using hy
  obtain rfl:i=A.length:=by omega
  rw [List.take_left];exact hx
def okS (l:List Ent):Prop:= ∀e∈l,e.1.length≤64∧e.2.size≤500
theorem zg2 {f:Nat}{l:List Ent}(h: ∀c A,jq A→zo c l≠[]→jq (zk f (zo c l) A).1)(A:List Nd)(hA:jq A): ∀n,jq (zu (zk f) l n A).1
 | 0=>hA
 | n+1=>by
  have ih:=zg2 h A hA n;show jq (zk f (zo n l) (zu (zk f) l n A).1).1;by_cases hn:zo n l=[]
  ·rw [hn];have e0:zk f ([]:List Ent) (zu (zk f) l n A).1=((zu (zk f) l n A).1,-1):=by cases f<;>simp [zk]
   rw [e0];exact ih
  ·exact h n _ ih hn
theorem zcU {A A':List Nd}{x x':Nd}(h:A++ [x]=A'++ [x']):A=A'∧x=x':=by
 have:=List.append_inj' h rfl;exact ⟨this.1,by simpa using this.2⟩
theorem zcV: ∀(f:Nat) (l:List Ent) (A:List Nd),Okl f l→okS l→jq A→jq (zk f l A).1
 | 0,_,A,_,_,hA=>hA
 | f+1,[],A,_,_,hA=>hA
 | f+1,[e],A,ho,hs,hA=>by
  obtain ⟨A',x,h1,_,h3⟩:=uF (f+1) [e] A (by simp) ho;have h4:(zk (f+1) [e] A).1=A++ [⟨1,zb e.1,e.2,qu⟩]:=rfl;obtain ⟨rfl,rfl⟩:=zcU (h1.symm.trans h4);have hse:=hs e (by simp);have hi:=(ki (f+1) [e] (by simp) ho hs).1;rw [h4];refine zcT hA ⟨.inl ⟨_,_,_,rfl⟩,⟨hse.1,zaR (ho e (by simp)).2⟩,hse.2,by rw [h3];exact hi⟩
 | f+1,e::e'::r,A,ho,hs,hA=>by
  obtain ⟨A',x,h1,_,h3⟩:=uF (f+1) (e::e'::r) A (by simp) ho;have hi:=(ki (f+1) (e::e'::r) (by simp) ho hs).1;have hse:=hs e (by simp);by_cases hc:0<zr (e::e'::r)
  ·have h4:=congrArg Prod.fst (zgL (f:=f) A hc);simp only at h4;have hd:zM (zr (e::e'::r)) (e::e'::r)≠[]:=by simp [zM]
   have hok:=kG (e:=e) rfl hc ho
   have hg:=zcV f _ A hok (fun x hx=>by
    obtain ⟨y,hy,rfl⟩:=List.mem_map.1 hx;have:=hs y hy
    exact ⟨by simp only [List.length_drop];omega,this.2⟩) hA
   obtain ⟨m,hm1,hm2,hm3⟩:=zaE f _ A hd hok;obtain ⟨rfl,rfl⟩:=zcU (h1.symm.trans h4);rw [h4];refine zcT hg ⟨.inr (.inl ⟨_,_,_,m,rfl,hm1,by omega⟩),⟨?_,zaR fun b hb=>(ho e (by simp)).2 b (List.mem_of_mem_take hb)⟩,by show (0:Nat)≤500;omega,by rw [h3];exact hi⟩;show (e.1.take _).length≤64;rw [List.length_take];omega
  ·have h4:=congrArg Prod.fst (zgM (f:=f) A hc);simp only at h4;obtain ⟨rfl,rfl⟩:=zcU (h1.symm.trans h4)
   have hg:=zg2 (f:=f) (l:=e::e'::r) (fun c B hB hn=>zcV f _ B (jZ c ho) (fun x hx=>by
    obtain ⟨b,hb,_⟩:=kH hx;have:=hs _ hb;simp only [List.length_cons] at this
    exact ⟨by omega,this.2⟩) hB) A hA 16
   rw [h4];refine zcT hg ⟨.inr (.inr ⟨_,_,_,rfl,fun c hc16=>?_⟩),⟨by show (0:Nat)≤64;omega,rfl⟩,zcP fun x hx=>(hs x hx).2,by rw [h3];exact hi⟩;rw [uv (zk f) (e::e'::r) A 16 c hc16];by_cases hn:zo c (e::e'::r)=[]
   ·left;rw [hn];cases f<;>simp [zk]
   ·right;obtain ⟨m,hm1,hm2,hm3⟩:=zaE f (zo c (e::e'::r)) (zu (zk f) (e::e'::r) c A).1 hn (jZ c ho);obtain ⟨Z,hZ⟩:=zb9 f (e::e'::r) A (c+1) 16 (by omega);refine ⟨m,hm1,?_⟩;rw [hZ];show m<((zk f (zo c (e::e'::r)) (zu (zk f) (e::e'::r) c A).1).1++Z).length;rw [List.length_append];omega
theorem kU {L:List Pr}(h:OkP L):Okl 65 (zF L)∧okS (zF L):=by
 refine ⟨fun e he=>?_,fun e he=>?_⟩
 ·obtain ⟨x,hx,rfl⟩:=List.mem_map.1 he;have:=(qY (h.may x hx)).1.2;refine ⟨?_,fun b hb=>zb2 _ b hb⟩;show (hv (tl x.1)).length<65;rw [xY,zy];omega
 ·obtain ⟨x,hx,rfl⟩:=List.mem_map.1 he;have h1:=(qY (h.may x hx)).1.2;have h2:=(qY (h.may x hx)).2.2;refine ⟨?_,h2⟩;show (hv (tl x.1)).length≤64;rw [xY,zy];omega
theorem zmD {L:List Pr}(h:OkP L):jq (zG L).1:=zcV 65 _ [] (kU h).1 (kU h).2 zmC
def jI (A:List Nd):I3:=match A.getLast? with
 | none=>bI ⟨#[]⟩
 | some x=>itemN x (qc A.dropLast)
theorem zg3 (A:List Nd)(x:Nd):jI (A++ [x])=itemN x (qc A):=by unfold jI;simp
theorem zmE {L:List Pr}(h:OkP L)(hn:L≠[]):jI (zG L).1=yM 65 (zF L):=by
 obtain ⟨A',x,h1,_,h3⟩:=uF 65 (zF L) [] (by cases L with|nil=>exact absurd rfl hn|cons a l=>simp [zF]) (kU h).1;show jI (zk 65 (zF L) []).1=_;rw [h1,zg3,h3]
section
variable {P:Program}{N:Nat}{ops:Array Oper}{K:Env→World→Prop}{ρ:Env}{w w0:World}{i B:Nat}{r:List Nat}{l:List (Nat×Obj)}
theorem zg4 (HS:St B w0 w l)(d:Option Nat)(V:Nat→Value)(C:Array Value)(T:TypeId)(h:opv P ops i ρ w=some (d,true,.ok (.value (V w.heap.size)) (w.alloc (.cells C T (0,0)))))(hd:dOK d N=true)
 (kk: ∀b w',St B w0 w' ((b,.cells C T (0,0))::l)→WPs P N ops K r (zt ρ d (V b)) w'):WPs P N ops K (i::r) ρ w:=by
 obtain ⟨o,ho,rfl,hw,hr⟩:=yg h;refine WPo.run ho hw fun a ha=>?_;rw [hr,Oper.upon_value];exact ⟨_,ha.put _ (zX hd) _,kk w.heap.size _ (HS.alloc _)⟩
theorem zg5 {α:Type}{S:Fl α}{nb n c:Nat}{p:Option Addr}{row Z:List (Nat×Obj)}{M:List α}{y:α}(d:Option Nat)(t e bytes:Nat)(s x:Operand)(HS:St B w0 w ((nb,.cells (S.cs y).toArray e (0,0))::(row++Z)))(hrow:zR S e p n c row M)
 (h:opk ops i ρ=some (d,true,yn t s x)) (hd:dOK d N=true) (ht:ye P t=some (e,S.K,bytes)) (hs:ev ρ s=.slice p n c) (hx:ev ρ x=.slice (some ⟨nb,0,none⟩) 1 1) (hb:(n+1)*bytes≤0x800000000000) (hm:n+1≤maxLen)
 (kk: ∀b' cap' cur' w',St B w0 w' ((b',.cells cur' e (0,0))::Z)→Rw S.K cur' cap' (n+1) (cellsF S (M++ [y]))→WPs P N ops K r (zt ρ d (.slice (some ⟨b',0,none⟩) (n+1) cap')) w'):WPs P N ops K (i::r) ρ w:=by
 have hY:(S.cs y).toArray.size=S.K:=by rw [List.size_toArray,S.len]
 have hone: ∀u∈(S.cs y).toArray.toList,u.oneCell'=true:=fun u hu=>S.one y u (by simpa using hu);rcases hrow with ⟨rfl,rfl,rfl,rfl,rfl⟩ | ⟨b,cur,rfl,rfl,hrw⟩
 ·refine zd5 HS d t e bytes s x 0 nb 1 (S.cs y).toArray h hd ht hs hx rfl hY hone hb fun b' cap' cur' w' HS' hr'=>kk b' cap' cur' w' (HS'.sub (List.Sublist.cons_cons _ (List.sublist_cons_self ..))) ?_;rw [qF];exact hr'
 ·refine xv HS d t e bytes s x 1 0 b nb n c 1 cur (S.cs y).toArray (cellsF S M) h hd ht hs rfl hrw hx rfl hY hone hb hm fun b' cap' cur' w' HS' hr'=>kk b' cap' cur' w' (HS'.sub (List.sublist_cons_self ..)) ?_;rw [qF];exact hr'
end
theorem zmF (x:Nd)(Bl:List X3)(q:Option Addr)(cb:Nat)(hg:zaS (Bl.map X3.i) Bl.length x):
 ∃L:List X3,lI (L.map X3.i)=itemN x (Bl.map X3.i)∧L.length≤17∧(∀T,AllIn T Bl→AllIn T L)∧
  FnT Tryz.prog 68 #[.agg (nS.cs x).toArray,.slice q Bl.length cb] (fun w=>Bl=[]∨∃bb,q=some ⟨bb,0,none⟩∧jR w bb Bl) (xJ L):=by
 obtain ⟨hsz,hp⟩:=hg.pt;have hv:=hg.vl;rcases hg.cs with ⟨p,v,ks,rfl⟩|⟨p,v,ks,m,rfl,hk,hm⟩|⟨p,v,ks,rfl,hk⟩
 ·refine ⟨[b3 (zb (pk (tl p) true)),b3 v],(zgI ..).symm,by simp,fun T _ y hy=>?_,fun w _=>zmv p v ks (.slice q Bl.length cb) (by have:p.size≤64:=hsz;omega) hp w trivial⟩;rcases List.mem_cons.1 hy with rfl | hy
  ·exact ⟨jz _ _,by have:=vC (tl p) true;rw [zy] at this;have h2:p.size≤64:=hsz;show (zb (pk (tl p) true)).size≤_;omega⟩
  ·rw [List.mem_singleton.1 hy];exact ⟨jz _ _,by have:v.size≤500:=hv;show v.size≤_;omega⟩
 ·obtain ⟨xk,hx⟩:∃x,Bl[m]? =some x:=⟨_,List.getElem?_eq_getElem hm⟩
  refine ⟨[b3 (zb (pk (tl p) false)),xk],?_,by simp,fun T hT y hy=>?_,fun w hw=>?_⟩
  ·rw [zgJ,hk,Int.toNat_natCast,List.getD_eq_getElem?_getD,List.getElem?_map,hx];rfl
  ·rcases List.mem_cons.1 hy with rfl|hy
   ·exact ⟨jz _ _,by have:=vC (tl p) false;rw [zy] at this;have h2:p.size≤64:=hsz;show (zb (pk (tl p) false)).size≤_;omega⟩
   ·rw [List.mem_singleton.1 hy];exact hT _ (List.mem_of_getElem? hx)
  ·rcases hw with rfl|⟨bb,rfl,hr⟩
   ·exact absurd hm (Nat.not_lt_zero _)
   ·exact zmx p v ks bb cb Bl m xk (by have:p.size≤64:=hsz;omega) hp hk hx w hr
 ·refine ⟨(List.range 16).map (jH Bl ks)++ [b3 v],?_,by simp,fun T hT y hy=>?_,zmB p v ks q cb Bl hk⟩
  ·rw [zgK,List.map_append,List.map_map];congr 2;refine List.map_congr_left fun c hc=>?_;show (jH Bl ks c).i=_;unfold jH;rcases hk c (List.mem_range.1 hc) with h | ⟨m,h,hm⟩
   ·rw [if_pos h,if_pos h];rfl
   ·rw [if_neg (by rw [h];omega),if_neg (by rw [h];omega),h,Int.toNat_natCast,List.getD_eq_getElem?_getD,List.getD_eq_getElem?_getD,List.getElem?_map,List.getElem?_eq_getElem hm];rfl
  ·rcases List.mem_append.1 hy with hy|hy
   ·obtain ⟨c,hc,rfl⟩:=List.mem_map.1 hy;unfold jH;rcases hk c (List.mem_range.1 hc) with h|⟨m,h,hm⟩
    ·rw [if_pos h];exact ⟨jz _ _,Nat.zero_le _⟩
    ·rw [if_neg (by rw [h];omega),h,Int.toNat_natCast,List.getD_eq_getElem?_getD,List.getElem?_eq_getElem hm];exact hT _ (List.getElem_mem hm)
   ·rw [List.mem_singleton.1 hy];exact ⟨jz _ _,by have:v.size≤500:=hv;show v.size≤_;omega⟩
def zg6 (A:List Nd)(v:Value)(T:List (Nat×Obj)):Prop:=∃X:X3,v=itV X∧X.i=jI A∧yh T X.p X.n X.k∧X.s=emB
theorem zmG {w w0:World}{B:Nat}{l row:List (Nat×Obj)}{q:Option Addr}{n c:Nat}{Bl:List X3}(h:zR iS 73 q n c row Bl)(hS:St B w0 w l)(hl: ∀e∈row,e∈l):Bl=[]∨∃bb,q=some ⟨bb,0,none⟩∧jR w bb Bl:=by
 rcases h with ⟨_,_,_,_,hB⟩|⟨b,cur,rfl,rfl,hr⟩
 ·exact .inl hB
 ·exact .inr ⟨b,rfl,cur,_,_,(hS.own _ (hl _ (List.mem_cons_self ..))).2,hr.rowAt⟩
theorem zmH (p:Option Addr)(n c:Nat)(A:List Nd)(hG:jq A)(hA:A.length≤0xe8d4a51000):
 FnT Tryz.prog 37 #[.slice p n c] (fun w=>yO w p n A∧Ke.Marks w) (zg6 A):=by
 refine FnT.intro (c:=zl Tryz.f37) [.cell 2 73] 23 Tryz.func37 kr kr kr fun w hP=>?_;obtain ⟨hN,hM⟩:=hP;have hn:=hN.1;have H0:=St.start w;refine rS [.a] H0 kr fun gs1 w1 H1=>rS [.a] H1 kr fun gs2 w2 H2=>rS [.v] H2 kr fun gs3 w3 H3=>zc kr<|rS [.v,.v,.v] H3 kr fun gs4 w4 H4=>zj 0 kr ?_;have H5:St w.heap.size w w4 ([((gs1 0).b,itO (b3 emB)),((gs2 0).b,itO (b3 emB))]++([]++ [])):=H4.as kr
 refine zz kr (fun mz ρ ww=> ∃(i:Nat) (q:Option Addr) (cb:Nat) (Bl:List X3) (Tb Tk:List (Nat×Obj)) (X:X3),n-i=mz∧i≤n∧zR iS 73 q i cb Tb Bl∧Bl.map X3.i=qc (A.take i)∧AllIn Tk Bl∧X.i=jI (A.take i)∧yh Tk X.p X.n X.k∧X.s=emB∧
  St w.heap.size w ww ([((gs1 0).b,itO (b3 emB)),((gs2 0).b,itO X)]++(Tb++Tk))∧Is [(2,.pointer (some ⟨(gs1 0).b,0,none⟩)),(3,.pointer (some ⟨(gs2 0).b,0,none⟩)),(4,.slice q i cb),(7,.slice p n c),(8,iN n),(9,iN i)] ρ) (n-0)
  ⟨0,none,0,[],[],[],b3 emB,rfl,Nat.zero_le _,.inl ⟨rfl,rfl,rfl,rfl,rfl⟩,rfl,(fun _ h=>nomatch h),rfl,jz _ _,rfl,H5,(Is.of ⟨kr,kr,kr,kr,kr,kr,trivial⟩)⟩ ?_
 clear H0 H1 H2 H3 H4 H5;generalize hb2:(gs1 0).b=b2;generalize hb3:(gs2 0).b=b3n;clear hb2 hb3;rintro _ _ w5 ⟨i,q,cb,Bl,Tb,Tk,X,rfl,hin,hrow,hB,hAll,hX,hXs,hXe,H5,_,rfl⟩;have hBl:Bl.length=i:=hrow.len;by_cases hi:i<n
 ·obtain ⟨x,hx⟩:∃x,A[i]? =some x:=⟨_,List.getElem?_eq_getElem (by omega)⟩
  obtain ⟨bl,off,C,T,fz,hp,hh,hR⟩:=hN.2.resolve_left (by intro h0;rw [h0] at hn;simp at hn;omega);have hgn:zaS (Bl.map X3.i) Bl.length x:=by rw [hB,hBl];exact hG i x hx
  obtain ⟨L,hL1,hL2,hL3,hL4⟩:=zmF x Bl q cb hgn;rw [hBl] at hL4;refine rS [.E (.bool (decide ((i:Int)<(n:Int)))) (.bool true) (za (decide_eq_true (by omega)))] H5 kr fun gs4 w5 H6=>zc kr<|zg kr kr<|zh kr<|wW<|zc kr<|zj 1 kr<|zi [0,1,2,3] kr kr<|rp [.o (ins:=[((.tmp 7),.slice p n c),((.tmp 9),iN i)]) (v:=.pointer (some ⟨bl,off+i*19,none⟩)) (fun ρ o w ho hi2=>yb (kd:=.i64) (t:=36) (e:=118) (K:=19) (bytes:=168) kr (x:=(.tmp 7)) (y:=(.tmp 9)) bl off n c i hp ho hi2.1 hi2.2.1 hi w),.fp (off:=off+i*19) (n:=19) (W:=(nS.cs x).toArray) hh (zC hh) (hR _ _ hx).1 (hR _ _ hx).2] H6 kr fun gs5 w6 H7=>wX [2,3]<|qA H7 (some 6) 118 (.agg (nS.cs ⟨0,⟨#[]⟩,⟨#[]⟩,List.replicate 16 0⟩).toArray) kr kr kr ?_;intro b6 w7 H8;refine rp [.s 0] H8 kr fun gs6 w8 H9=>wX []<|zd<|wW ?_;have H10:St w.heap.size w w8 ((b6,ndO x)::(b2,itO (b3 emB))::(b3n,itO X)::(Tb++Tk)):=H9.as kr;refine zi [0,1,2,3] kr kr<|rp [.l 0,.v] H10 kr fun gs7 w9 H11=>wX [2,3] ?_;have H11a:St w.heap.size w w9 ((b6,ndO x)::(b2,itO (b3 emB))::(b3n,itO X)::(Tb++Tk)):=H11.as kr;refine yZ H11a (some 15) 68 #[.agg (nS.cs x).toArray,.slice q i cb] hL4 (zmG hrow H11a fun e he=>by simp [he]) kr kr ?_;rintro _ _ w10 ⟨b',c',cur,rfl,rfl,hr⟩ H12;have H13:St w.heap.size w w10 ((b',.cells cur 73 (0,0))::(b6,ndO x)::(b2,itO (b3 emB))::(b3n,itO X)::(Tb++Tk)):=H12.as kr;refine rp [.s 3] H13 kr fun gs8 w11 H14=>wX []<|zd<|wW ?_;obtain ⟨X',hX'⟩:∃X':X3,X'=⟨true,emB,some ⟨b',0,none⟩,L.length,c',toFo L⟩:=⟨_,rfl⟩
  have hXi:X'.i=itemN x (qc (A.take i)):=by
   rw [hX',←hB,←hL1];show (⟨true,emB,toFo L⟩:I3)=_;rw [zcQ];rfl
  have hok:Okm X'.i:=by rw [hXi,←hB];exact hgn.it
  have H15:St w.heap.size w w11 ((b',.cells cur 73 (0,0))::(b6,ndO x)::(b2,itO (b3 emB))::(b3n,itO X')::(Tb++Tk)):=by rw [hX'];exact H14.as kr
  rw [zal] at hr;have hsl: ∀T',(b',Obj.cells cur 73 (0,0))∈T'→(∀e∈Tk,e∈T')→yh T' X'.p X'.n X'.k:=fun T' h1 h2=>by
   rw [hX'];exact hr.slIn h1 (hL3 _ (vt hAll h2)) (by omega)
  have hXs':X'.s=emB:=by rw [hX']
  have htold:=zmt X' hok (by rw [hXs'];exact Nat.zero_le _);refine qm [0,1,2,3,4,5] kr<|rp [.v,.l 3] H15 kr fun gs9 w12 H16=>wX [2,3,4,5] ?_;have H16a:St w.heap.size w w12 ((b',.cells cur 73 (0,0))::(b6,ndO x)::(b2,itO (b3 emB))::(b3n,itO X')::(Tb++Tk)):=H16.as kr
  refine qd H16a (some 18) 69 #[itV X'] _ _ htold ⟨(hsl ((b',.cells cur 73 (0,0))::Tk) (List.mem_cons_self ..) (fun e he=>List.mem_cons_of_mem _ he)).at H16a (fun e he=>by
   rcases List.mem_cons.1 he with rfl|he
   ·simp
   ·simp [he]),kh hM H16a.below⟩ (fun w=>by kernel_rfl) kr ?_
  intro w13 H17;refine zg4 H17 (some 19) (fun b=>.slice (some ⟨b,0,none⟩) 1 1) (iS.cs (jG X')).toArray 73 kr kr ?_;intro nb w14 H18;have H19:St w.heap.size w w14 ((nb,.cells (iS.cs (jG X')).toArray 73 (0,0))::(Tb++([(b',.cells cur 73 (0,0)),(b6,ndO x),(b2,itO (b3 emB)),(b3n,itO X')]++Tk))):=by
   have h9:=(List.perm_append_comm (l₁:=[(b',.cells cur 73 (0,0)),(b6,ndO x),(b2,itO (b3 emB)),(b3n,itO X')]) (l₂:=Tb)).append_right Tk;rw [List.append_assoc,List.append_assoc] at h9;exact H18.perm (List.Perm.cons _ h9.symm)
  refine zg5 (S:=iS) (some 20) 71 73 48 (.tmp 16) (.tmp 19) H19 hrow kr kr kr kr kr (by omega) (by unfold maxLen;omega) ?_;intro bn capn curn w15 H20 hrn;refine rp [.v] H20 kr fun gs10 w16 H21=>wX []<|zd<|wW<|rL [.E (.int .i64 (IntKind.i64.wrap ((i:Int)+1))) (iN (i+1)) (ze (zm (a:=i) (b:=1) (by omega))),.v] H21 kr fun gs11 w17 H22=>?_;show ∃m,_∧_;have H23:St w.heap.size w w17 ((bn,.cells curn 73 (0,0))::(b',.cells cur 73 (0,0))::(b6,ndO x)::(b2,itO (b3 emB))::(b3n,itO X')::Tk):=H22.as kr;have H24:St w.heap.size w w17 ([(b2,itO (b3 emB)),(b3n,itO X')]++([(bn,.cells curn 73 (0,0))]++((b',.cells cur 73 (0,0))::Tk))):=
   (H23.sub (List.Sublist.cons_cons _ (List.Sublist.cons_cons _ (List.sublist_cons_self ..)))).perm ((List.perm_append_comm (l₁:=[(b2,itO (b3 emB)),(b3n,itO X')]) (l₂:=[(bn,.cells curn 73 (0,0)),(b',.cells cur 73 (0,0))])).append_right Tk)
  have htk:=xf hx;refine ⟨_,(by omega),i+1,some ⟨bn,0,none⟩,capn,Bl++ [jG X'],[(bn,.cells curn 73 (0,0))],(b',.cells cur 73 (0,0))::Tk,X',rfl,hi,.inr ⟨bn,curn,rfl,rfl,hrn⟩,?_,?_,?_,hsl _ (List.mem_cons_self ..) (fun e he=>List.mem_cons_of_mem _ he),hXs',H24,(Is.of ⟨kr,kr,kr,kr,kr,kr,trivial⟩)⟩
  ·rw [htk,zgG,List.map_append,hB,List.map_singleton,zms,hXi]
  ·refine um (vt hAll fun e he=>List.mem_cons_of_mem _ he) ?_ ?_
   ·unfold jG;split
    ·exact hsl _ (List.mem_cons_self ..) (fun e he=>List.mem_cons_of_mem _ he)
    ·exact jz _ _
   ·unfold jG;split
    ·rw [hXs'];exact Nat.zero_le _
    ·show (zb (Kec.sumB (encI X'.i))).size≤_;rw [zO,Kec.sumB_len];omega
  ·rw [htk,zg3,hXi]
 ·obtain rfl:i=n:=by omega
  refine rS [.E (.bool (decide ((i:Int)<(i:Int)))) (.bool false) (za (decide_eq_false (by omega)))] H5 kr fun gs4 w5 H6=>zc kr<|zf kr kr<|zw 0 kr<|wW<|rS [.l 1,.s 0] H6 kr fun gs5 w6 H7=>?_;have H8:St w.heap.size w w6 ((b2,itO X)::(b3n,itO X)::(Tb++Tk)):=H7.as kr;refine rRr [.cell 2 73] [0] (itV X) (yf w.heap.size w (zg6 A)) H8 kr ?_;rw [List.take_of_length_le (by omega)] at hX;exact ⟨Tk,⟨X,rfl,hX,hXs,hXe⟩,H8.sub (List.Sublist.cons _ (List.Sublist.cons _ (List.sublist_append_right ..)))⟩
def pu1 (l:Bool)(s:ByteArray)(k:Fo):Bool:= !zS l s k.len&&pureF k
def dq1 (l:Bool)(d:Nat):Nat:=if l then d+1 else d
def dqF:Fo→Nat
 | .nil=>0
 | .cons l s k r=>max (dq1 l (dqF k)) (dqF r)
theorem zcW: ∀k:Fo,dqF k≤k.cnt
 | .nil=>Nat.le_refl _
 | .cons l s k r=>by
  have h1:=zcW k;have h2:=zcW r;simp only [dqF,Fo.cnt,dq1];split<;>omega
theorem zcX: ∀ {k:Fo},pureF k=true→dqF k=dpF k
 | .nil,_=>rfl
 | .cons l s k r,h=>by
  simp only [pureF,Bool.and_eq_true,Bool.not_eq_true'] at h;simp only [dqF,dpF];rw [zcX h.1.2,zcX h.2];congr 1;rcases ui h.1.1 with ⟨rfl,_⟩ | ⟨rfl,rfl⟩
  ·unfold dq1 dp1;simp;omega
  ·rfl
theorem zcY {l:Bool}{s:ByteArray}{k:Fo}(hm:zS l s k.len=false)(hp:pureF k=true):dq1 l (dqF k)=dp1 l (dpF k):=by
 rw [zcX hp];rcases ui hm with ⟨rfl,_⟩ | ⟨rfl,rfl⟩
 ·unfold dq1 dp1;simp;omega
 ·rfl
theorem zg7 {l:Bool}{s:ByteArray}{k:Fo}(h:zS l s k.len=true):pu1 l s k=false:=by unfold pu1;rw [h];rfl
theorem zaT {l:Bool}{s:ByteArray}{k:Fo}(h:zS l s k.len=false):pu1 l s k=pureF k:=by unfold pu1;rw [h];rfl
theorem zmI {l:Bool}{s:ByteArray}{n:Nat}(hl:l=true)(hs: ¬s=⟨#[]⟩):zS l s n=true:=by subst hl;unfold zS;simpa using zaf hs
theorem zmJ {l:Bool}{s:ByteArray}{n:Nat}(hl:l=false)(hn:n≠0):zS l s n=true:=by subst hl;unfold zS;simpa using hn
theorem zg8 {l:Bool}{s:ByteArray}{n:Nat}(hl:l=true)(hs:s=⟨#[]⟩):zS l s n=false:=by subst hl hs;rfl
theorem zg9 {l:Bool}{s:ByteArray}{n:Nat}(hl:l=false)(hn:n=0):zS l s n=false:=by subst hl hn;rfl
theorem zha {l:Bool}{s:ByteArray}{k r:Fo}(h:pu1 l s k=true):pureF (.cons l s k r)=pureF r:=by
 unfold pu1 at h;show (!zS l s k.len&&pureF k&&pureF r)=_;rw [h,Bool.true_and]
theorem zhb {l:Bool}{s:ByteArray}{k r:Fo}(h:pu1 l s k=false):pureF (.cons l s k r)=false:=by
 unfold pu1 at h;show (!zS l s k.len&&pureF k&&pureF r)=_;rw [h,Bool.false_and]
theorem zmK {l:Bool}{s:ByteArray}{k r:Fo}(h:pureF (.cons l s k r)=true):zS l s k.len=false∧pureF k=true∧pureF r=true:=by
 simp only [pureF,Bool.and_eq_true,Bool.not_eq_true'] at h;exact ⟨h.1.1,h.1.2,h.2⟩
theorem zmL {f n:Nat}(h:n<56)(hf:f≤192):strOfNums [(BitVec.toNat (BitVec.ofNat 8 (f+n)):Int)]=zb (hd f n):=by
 unfold hd;rw [if_pos (by omega)];show (⟨#[UInt8.ofNat (Int.toNat _)]⟩:ByteArray)=⟨#[UInt8.ofNat (f+n)]⟩
 rw [Int.toNat_natCast,BitVec.toNat_ofNat,show (f+n)%2^8=f+n by omega]
theorem zmM {f n:Nat}(h: ¬n<56)(hf:f≤192):strOfNums [(BitVec.toNat (BitVec.ofNat 8 (f+55+ByteArray.size (zb (dg n)))):Int)]++zb (dg n)=zb (hd f n):=by
 have hl:=jx n;have e:UInt8.ofNat (Int.toNat (BitVec.toNat (BitVec.ofNat 8 (f+55+ByteArray.size (zb (dg n)))):Int))=UInt8.ofNat (f+55+(dg n).length):=by
  rw [Int.toNat_natCast,BitVec.toNat_ofNat,zO,show (f+55+(dg n).length)%2^8=f+55+(dg n).length by omega]
 apply jv;rw [qg];show [UInt8.ofNat _]++dg n=hd f n;unfold hd;rw [if_neg (by omega),e];rfl
theorem zmN {l:Bool}{s:ByteArray}{k:Fo}{a:ByteArray}(hl:l=true)(hm:zS l s k.len=false)(hp:pureF k=true)(ha:wrF k=tl a):zb (hd 192 (ByteArray.size a))++a=zb (wr1 l s (szF k) (wrF k)):=by
 rcases ui hm with ⟨_,hs⟩|⟨h,_⟩
 ·subst hl hs;have hz:szF k=ByteArray.size a:=by rw [←jY hp,ha,zy]
  apply jv;rw [qg,yx,yx];unfold wr1;rw [if_neg (by decide),ha,hz];show _=hd 192 (0+_)++([]++tl a);rw [Nat.zero_add,List.nil_append]
 ·rw [hl] at h;cases h
theorem zmO {l:Bool}{s:ByteArray}{k:Fo}(hl:l=false)(hm:zS l s k.len=false)(h:s.size=1)(h2:by_ s 0<128):s=zb (wr1 l s (szF k) (wrF k)):=by
 rcases ui hm with ⟨q,_⟩|⟨_,hk⟩
 ·rw [hl] at q;cases q
 ·subst hk;unfold wr1;rw [if_pos (by unfold qp;simp [h,h2])];show s=zb ([]++(tl s++ []));rw [List.nil_append,List.append_nil];exact (ku s).symm
theorem zhc {l:Bool}{s:ByteArray}{k:Fo}(hl:l=false)(hm:zS l s k.len=false)(h: ¬(s.size=1∧by_ s 0<128)):zb (hd 128 (ByteArray.size s))++s=zb (wr1 l s (szF k) (wrF k)):=by
 rcases ui hm with ⟨q,_⟩|⟨_,hk⟩
 ·rw [hl] at q;cases q
 ·subst hl hk;apply jv;rw [qg,yx,yx];unfold wr1;rw [if_neg (by unfold qp;simpa using h)];show _=hd 128 (s.size+0)++(tl s++ []);rw [List.append_nil,Nat.add_zero]
section
variable {l:Bool}{s:ByteArray}{k:Fo}
theorem zaU (hc:k.cnt<4000):lf1 l s k.len (lfF k) 4000=if pu1 l s k=true then some (3999-k.cnt) else none:=by
 unfold lf1 pu1;cases hm:zS l s k.len with
 | true=>rw [if_pos (Or.inr rfl)];rfl
 | false=>
  rw [if_neg (by simp),xS];cases hp:pureF k with
  | true=>rw [if_pos ⟨rfl,by omega⟩,if_pos (by rfl)]
  | false=>rw [if_neg (by simp),if_neg (by simp)]
theorem zmP (h:4000<qG (1+k.cnt) 4000):yo l s k.len k=(⟨#[]⟩,1):=by
 have hc:4000≤k.cnt:=by unfold qG at h;split at h<;>omega
 have e:lf1 l s k.len (lfF k) 4000=none:=by
  unfold lf1;split
  ·rfl
  ·rw [xS,if_neg (by omega)]
 unfold yo;rw [e]
theorem zmQ (h: ¬4000<qG (1+k.cnt) 4000):k.cnt<4000:=by unfold qG at h;split at h<;>omega
theorem zmR (hc:k.cnt<4000)(h:pu1 l s k=false):yo l s k.len k=(⟨#[]⟩,1):=by
 unfold yo;rw [zaU hc,h];rfl
theorem uH (h:pu1 l s k=true):zS l s k.len=false∧pureF k=true:=by
 unfold pu1 at h;simp only [Bool.and_eq_true,Bool.not_eq_true'] at h;exact h
theorem zmS (hc:k.cnt<4000)(h:pu1 l s k=true)(hd:8<dq1 l (dqF k)):yo l s k.len k=(⟨#[]⟩,5):=by
 have hp:=uH h;rw [zcY hp.1 hp.2] at hd;unfold yo;rw [zaU hc,if_pos h];simp only [];rw [if_pos hd]
theorem zmT (hc:k.cnt<4000)(h:pu1 l s k=true)(hd: ¬8<dq1 l (dqF k))(hz:4000<ByteArray.size (zb (wr1 l s (szF k) (wrF k)))):yo l s k.len k=(⟨#[]⟩,2):=by
 have hp:=uH h;rw [zcY hp.1 hp.2] at hd;rw [zO,vo hp.1 (jY hp.2)] at hz;unfold yo;rw [zaU hc,if_pos h];simp only [];rw [if_neg hd,if_pos hz]
theorem zmU (hc:k.cnt<4000)(h:pu1 l s k=true)(hd: ¬8<dq1 l (dqF k))(hz: ¬4000<ByteArray.size (zb (wr1 l s (szF k) (wrF k)))):yo l s k.len k=(zb (wr1 l s (szF k) (wrF k)),0):=by
 have hp:=uH h;rw [zcY hp.1 hp.2] at hd;rw [zO,vo hp.1 (jY hp.2)] at hz;unfold yo;rw [zaU hc,if_pos h];simp only [];rw [if_neg hd,if_neg hz]
end
theorem zhd (n:Nat)(hn:n<0x10000000000000000):Fn Tryz.prog 109 #[.int .u64 (n:Int)] (.string (zb (dg n))):=by
 refine Fn.intro (c:=zl Tryz.f109) [.tmp 2] 16 Tryz.func109 kr kr kr fun w=>?_;have H0:=St.start w;refine rS [.v] H0 kr fun gs1 w1 H1=>?_;clear H0;refine rS [.v] H1 kr fun gs2 w2 H2=>?_;clear H1;refine zc kr<|zj 0 kr ?_;have HL1:St w.heap.size w w2 []:=H2.as kr;clear H2;refine zz kr (fun mz ρ ww=> ∃(q:Nat) (oz:ByteArray),q=mz∧(q≤n)∧(dg n=dg q++tl oz)∧St w.heap.size w ww []∧Is [(0,.int .u64 (q:Int)),(2,.string (⟨#[]⟩)),(3,.string oz)] ρ) n ⟨n,(⟨#[]⟩:ByteArray),rfl,(Nat.le_refl _),(by rw [show tl ⟨#[]⟩=[] from rfl,List.append_nil]),HL1,(Is.of ⟨kr,kr,kr,trivial⟩)⟩ ?_;clear HL1;rintro _ _ w3 ⟨q,oz,rfl,hq,hoz,H3,_,rfl⟩;refine zc kr<|zi [0,1] kr kr<|rp [.v] H3 kr fun gs4 w4 H4=>wX [1] ?_;clear H3;by_cases hc2:(q:Nat)>0
 ·refine rp [.E (.bool (decide (0<(q:Int)))) (.bool true) (za (decide_eq_true (by omega)))] H4 kr fun gs5 w5 H5=>wX [] ?_;clear H4;refine zd<|zg kr kr<|zh kr<|wW<|zj 1 kr<|rS [.v,.E (.int .u64 (Int.tmod (q:Int) 256)) (.int .u64 ((q%256:Nat):Int)) (ze (qL q 256)),.E (.int .u8 (IntKind.u8.wrap (((q%256:Nat):Int)))) (.int .u8 (BitVec.toNat (BitVec.ofNat 8 (q%256)):Int)) (xQ (q%256)),.nw (fun b=>.slice (some ⟨b,0,none⟩) 1 1) #[.int .u8 (BitVec.toNat (BitVec.ofNat 8 (q%256)):Int)] 5,.w fun nn=>.x (op:=.convert 80 9 (.tmp 9)) (ins:=[((.tmp 9),.slice (some ⟨(nn 0),0,none⟩) 1 1)]) [(0,((nn 0),Obj.cells #[.int .u8 (BitVec.toNat (BitVec.ofNat 8 (q%256)):Int)] 5 (0,0)))] (qM (t:=80) (t':=9) (e:=5) [(BitVec.toNat (BitVec.ofNat 8 (q%256)):Int)] kr kr kr (Rw.lit #[.int .u8 (BitVec.toNat (BitVec.ofNat 8 (q%256)):Int)] 1 (by rfl) (by unfold maxLen;omega))),.v,.o (ins:=[((.tmp 10),.string (strOfNums ([(BitVec.toNat (BitVec.ofNat 8 (q%256)):Int)]))),((.tmp 11),.string oz)]) (v:=.string ((strOfNums ([(BitVec.toNat (BitVec.ofNat 8 (q%256)):Int)]))++oz)) (fun ρ o w ho hi=>qR (t:=9) (t':=9) (x:=(.tmp 10)) (y:=(.tmp 11)) (strOfNums ([(BitVec.toNat (BitVec.ofNat 8 (q%256)):Int)])) oz w ho hi.1 hi.2.1 (by rw [strOfNums_size];have:=jx n;have h8:=congrArg List.length hoz;rw [List.length_append,zy] at h8;show 1+_≤_;omega)),.v] H5 kr fun gs6 w6 H6=>?_;clear H5;refine rL [.v,.E (.int .u64 (IntKind.u64.wrap ((q:Int).tdiv 256))) (.int .u64 ((q / 256:Nat):Int)) (ze (zib (a:=q) (b:=256) (by omega))),.v] H6 kr fun gs7 w7 H7=>?_;clear H6;have HL3:St w.heap.size w w7 [((gs6 3).b,Obj.cells #[.int .u8 (BitVec.toNat (BitVec.ofNat 8 (q%256)):Int)] 5 (0,0))]:=H7.as kr;clear H7;have HD4:St w.heap.size w w7 []:=HL3.sub (List.Sublist.cons _ List.Sublist.slnil);show ∃m,_∧_;exact ⟨_,(by omega),(q / 256),(((strOfNums ([(BitVec.toNat (BitVec.ofNat 8 (q%256)):Int)]))++oz)),rfl,(by omega),(zjK (by omega) (by omega) hoz),HD4,(Is.of ⟨kr,kr,kr,trivial⟩)⟩
 ·refine rp [.E (.bool (decide (0<(q:Int)))) (.bool false) (za (decide_eq_false (by omega)))] H4 kr fun gs8 w8 H8=>wX [] ?_;clear H4;refine zd<|zf kr kr<|zw 0 kr<|wW<|rS [.v,.v] H8 kr fun gs9 w9 H9=>?_;clear H8;refine zn kr<|wV ?_;refine ⟨[.string oz],(.tmp (.string oz) kr .nil),?_,H9.below⟩;have hq0:q=0:=by omega
  subst hq0;exact congrArg Value.string (zjL hoz).symm
theorem zcZ (f m:Nat)(hf:f≤192)(hm:m<0x7fffffffffffffff):Fn Tryz.prog 79 #[.int .i64 (f:Int),.int .i64 (m:Int)] (.string (zb (hd f m))):=by
 refine Fn.intro (c:=zl Tryz.f79) [.tmp 4] 27 Tryz.func79 kr kr kr fun w=>?_;have H0:=St.start w;refine rS [.v] H0 kr fun gs1 w1 H1=>?_;clear H0;refine zc kr<|zi [0,1] kr kr<|rp [.v] H1 kr fun gs2 w2 H2=>wX [1] ?_;clear H1;by_cases hc1:(m:Nat)<56
 ·refine rp [.E (.bool (decide ((m:Int)<56))) (.bool true) (za (decide_eq_true (by omega)))] H2 kr fun gs3 w3 H3=>wX [] ?_;clear H2;refine zd<|zg kr kr<|rS [.v,.v,.E (.int .i64 (IntKind.i64.wrap ((f:Int)+(m:Int)))) (.int .i64 ((f+m:Nat):Int)) (ze (zm (a:=f) (b:=m) (by omega))),.E (.int .u8 (IntKind.u8.wrap (((f+m:Nat):Int)))) (.int .u8 (BitVec.toNat (BitVec.ofNat 8 (f+m)):Int)) (xQ (f+m)),.nw (fun b=>.slice (some ⟨b,0,none⟩) 1 1) #[.int .u8 (BitVec.toNat (BitVec.ofNat 8 (f+m)):Int)] 5,.w fun nn=>.x (op:=.convert 80 9 (.tmp 12)) (ins:=[((.tmp 12),.slice (some ⟨(nn 0),0,none⟩) 1 1)]) [(0,((nn 0),Obj.cells #[.int .u8 (BitVec.toNat (BitVec.ofNat 8 (f+m)):Int)] 5 (0,0)))] (qM (t:=80) (t':=9) (e:=5) [(BitVec.toNat (BitVec.ofNat 8 (f+m)):Int)] kr kr kr (Rw.lit #[.int .u8 (BitVec.toNat (BitVec.ofNat 8 (f+m)):Int)] 1 (by rfl) (by unfold maxLen;omega))),.v] H3 kr fun gs4 w4 H4=>?_;clear H3;refine zn kr<|wV ?_;refine ⟨[.string (strOfNums ([(BitVec.toNat (BitVec.ofNat 8 (f+m)):Int)]))],(.tmp (.string (strOfNums ([(BitVec.toNat (BitVec.ofNat 8 (f+m)):Int)]))) kr .nil),?_,H4.below⟩;exact congrArg Value.string (zmL (by omega) (by omega))
 ·refine rp [.E (.bool (decide ((m:Int)<56))) (.bool false) (za (decide_eq_false (by omega)))] H2 kr fun gs5 w5 H5=>wX [] ?_;clear H2;refine zd<|zf kr kr<|zh kr<|wW<|rS [.v,.E (.int .u64 (IntKind.u64.wrap ((m:Int)))) (.int .u64 (m:Int)) (ze (ko (a:=m) (by omega))),.c (zhd m (by omega)),.v] H5 kr fun gs6 w6 H6=>?_;clear H5;have hdm:=jx m;have hdz:ByteArray.size (zb (dg m))≤8:=by rw [zO];exact hdm
  refine rS [.v,.E (.int .i64 (IntKind.i64.wrap ((f:Int)+55))) (.int .i64 ((f+55:Nat):Int)) (ze (zm (a:=f) (b:=55) (by omega))),.v,.v,.E (.int .i64 (IntKind.i64.wrap (((f+55:Nat):Int)+(ByteArray.size (zb (dg m)):Int)))) (.int .i64 (((f+55)+(ByteArray.size (zb (dg m))):Nat):Int)) (ze (zm (a:=f+55) (b:=ByteArray.size (zb (dg m))) (by omega))),.E (.int .u8 (IntKind.u8.wrap ((((f+55)+(ByteArray.size (zb (dg m))):Nat):Int)))) (.int .u8 (BitVec.toNat (BitVec.ofNat 8 ((f+55)+(ByteArray.size (zb (dg m))))):Int)) (xQ ((f+55)+(ByteArray.size (zb (dg m))))),.nw (fun b=>.slice (some ⟨b,0,none⟩) 1 1) #[.int .u8 (BitVec.toNat (BitVec.ofNat 8 ((f+55)+(ByteArray.size (zb (dg m))))):Int)] 5,.w fun nn=>.x (op:=.convert 80 9 (.tmp 23)) (ins:=[((.tmp 23),.slice (some ⟨(nn 0),0,none⟩) 1 1)]) [(0,((nn 0),Obj.cells #[.int .u8 (BitVec.toNat (BitVec.ofNat 8 ((f+55)+(ByteArray.size (zb (dg m))))):Int)] 5 (0,0)))] (qM (t:=80) (t':=9) (e:=5) [(BitVec.toNat (BitVec.ofNat 8 ((f+55)+(ByteArray.size (zb (dg m))))):Int)] kr kr kr (Rw.lit #[.int .u8 (BitVec.toNat (BitVec.ofNat 8 ((f+55)+(ByteArray.size (zb (dg m))))):Int)] 1 (by rfl) (by unfold maxLen;omega))),.v,.o (ins:=[((.tmp 24),.string (strOfNums ([(BitVec.toNat (BitVec.ofNat 8 ((f+55)+(ByteArray.size (zb (dg m))))):Int)]))),((.tmp 25),.string (zb (dg m)))]) (v:=.string ((strOfNums ([(BitVec.toNat (BitVec.ofNat 8 ((f+55)+(ByteArray.size (zb (dg m))))):Int)]))++(zb (dg m)))) (fun ρ o w ho hi=>qR (t:=9) (t':=9) (x:=(.tmp 24)) (y:=(.tmp 25)) (strOfNums ([(BitVec.toNat (BitVec.ofNat 8 ((f+55)+(ByteArray.size (zb (dg m))))):Int)])) (zb (dg m)) w ho hi.1 hi.2.1 (by rw [strOfNums_size,zO];have:=jx m;show 1+_≤_;omega)),.v] H6 kr fun gs7 w7 H7=>?_;clear H6;refine zn kr<|wV ?_;refine ⟨[.string ((strOfNums ([(BitVec.toNat (BitVec.ofNat 8 ((f+55)+(ByteArray.size (zb (dg m))))):Int)]))++(zb (dg m)))],(.tmp (.string ((strOfNums ([(BitVec.toNat (BitVec.ofNat 8 ((f+55)+(ByteArray.size (zb (dg m))))):Int)]))++(zb (dg m)))) kr .nil),?_,H7.below⟩;exact congrArg Value.string (zmM (by omega) (by omega))
theorem zmV (m:Nat)(ih: ∀(l:Bool) (s:ByteArray) (p:Option Addr) (n c:Nat) (k:Fo),s.size≤0x800000000000→zS l s k.len=false→pureF k=true→ByteArray.size s+wtF k≤0x4000000000000000→k.cnt<m→FnP Tryz.prog 45 #[.agg #[.bool l,.string s,.slice p n c]] (fun w=>zq w.heap.size w p n k) (.string (zb (wr1 l s (szF k) (wrF k)))))(l:Bool)(s:ByteArray)(p:Option Addr)(n c:Nat)(k:Fo)(hs:s.size≤0x800000000000)(hp1:zS l s k.len=false)(hp2:pureF k=true)(hw:ByteArray.size s+wtF k≤0x4000000000000000)(hkm:k.cnt<m+1):FnP Tryz.prog 45 #[.agg #[.bool l,.string s,.slice p n c]] (fun w=>zq w.heap.size w p n k) (.string (zb (wr1 l s (szF k) (wrF k)))):=by
 refine FnP.intro (c:=zl Tryz.f45) [.tmp 2] 44 Tryz.func45 kr kr kr fun w hpre=>?_;have H0:=St.start w;have hn:=hpre.1;have hnm:=hpre.2.1;refine rS [.b,.v] H0 kr fun gs1 w1 H1=>?_;clear H0;refine zc kr<|rS [.v,.l 0] H1 kr fun gs2 w2 H2=>?_;clear H1;rcases (Bool.eq_false_or_eq_true (l)).symm with hq1 | hq1
 ·refine zZ 7 (v:=.bool l) (v':=.bool false) (za hq1) kr<|zf kr kr<|zh kr<|wW<|zc kr<|zi [0,1,2,3,4,5,6,7,8,9] kr kr<|rp [.v,.l 0,.v] H2 kr fun gs3 w3 H3=>wX [3,4,5,6,7,8,9] ?_;clear H2;by_cases hc1:(ByteArray.size s:Nat)=1
  ·refine rp [.E (.bool ((ByteArray.size s:Int)==1)) (.bool true) (za (beq_iff_eq.2 (by omega))),.v,.v,.l 0,.o (ins:=[((.tmp 31),.string s),((.const (.int .i64 0)),.int .i64 0)]) (v:=.int .u8 ((by_ s 0:Nat):Int)) (fun ρ o w ho hi=>zQ (t:=9) (kd:=.i64) kr (x:=(.tmp 31)) (y:=(.const (.int .i64 0))) s 0 ho hi.1 hi.2.1 (by omega) w)] H3 kr fun gs4 w4 H4=>wX [8,9] ?_;clear H3;by_cases hc2:(by_ s 0:Nat)<128
   ·refine rp [.E (.bool (decide (((by_ s 0:Nat):Int)<128))) (.bool true) (za (decide_eq_true (by omega))),.v] H4 kr fun gs5 w5 H5=>wX [] ?_;clear H4;refine zd<|zg kr kr<|rS [.v,.l 0,.v] H5 kr fun gs6 w6 H6=>?_;clear H5;refine zn kr<|wV ?_;refine ⟨[.string s],(.tmp (.string s) kr .nil),?_,H6.below⟩;exact congrArg Value.string (zmO hq1 hp1 (by omega) (by omega))
   ·refine rp [.E (.bool (decide (((by_ s 0:Nat):Int)<128))) (.bool false) (za (decide_eq_false (by omega))),.v] H4 kr fun gs7 w7 H7=>wX [] ?_;clear H4;refine zd<|zf kr kr<|zh kr<|wW ?_;have hhl:=xx 128 (ByteArray.size s);have hhs:ByteArray.size (zb (hd 128 (ByteArray.size s)))≤9:=hhl.2;refine dS [.v,.l 0,.v,.c (zcZ 128 (ByteArray.size s) (by omega) (by omega)),.v,.l 0,.o (ins:=[((.tmp 40),.string (zb (hd 128 (ByteArray.size s)))),((.tmp 42),.string s)]) (v:=.string ((zb (hd 128 (ByteArray.size s)))++s)) (fun ρ o w ho hi=>qR (t:=9) (t':=9) (x:=(.tmp 40)) (y:=(.tmp 42)) (zb (hd 128 (ByteArray.size s))) s w ho hi.1 hi.2.1 (by omega)),.v] H7 kr fun w8 H8=>?_;clear H7;refine zn kr<|wV ?_;refine ⟨[.string ((zb (hd 128 (ByteArray.size s)))++s)],(.tmp (.string ((zb (hd 128 (ByteArray.size s)))++s)) kr .nil),?_,H8.below⟩;exact congrArg Value.string (zhc hq1 hp1 (by omega))
  ·refine rp [.E (.bool ((ByteArray.size s:Int)==1)) (.bool false) (za (beq_eq_false_iff_ne.2 (by omega))),.v,.n,.n,.n,.n,.v] H3 kr fun gs9 w9 H9=>wX [] ?_;clear H3;refine zd<|zf kr kr<|zh kr<|wW ?_;have hhl:=xx 128 (ByteArray.size s);have hhs:ByteArray.size (zb (hd 128 (ByteArray.size s)))≤9:=hhl.2;refine dS [.v,.l 0,.v,.c (zcZ 128 (ByteArray.size s) (by omega) (by omega)),.v,.l 0,.o (ins:=[((.tmp 40),.string (zb (hd 128 (ByteArray.size s)))),((.tmp 42),.string s)]) (v:=.string ((zb (hd 128 (ByteArray.size s)))++s)) (fun ρ o w ho hi=>qR (t:=9) (t':=9) (x:=(.tmp 40)) (y:=(.tmp 42)) (zb (hd 128 (ByteArray.size s))) s w ho hi.1 hi.2.1 (by omega)),.v] H9 kr fun w10 H10=>?_;clear H9;refine zn kr<|wV ?_;refine ⟨[.string ((zb (hd 128 (ByteArray.size s)))++s)],(.tmp (.string ((zb (hd 128 (ByteArray.size s)))++s)) kr .nil),?_,H10.below⟩;exact congrArg Value.string (zhc hq1 hp1 (by omega))
 ·refine zZ 7 (v:=.bool l) (v':=.bool true) (za hq1) kr<|zg kr kr<|rS [.v] H2 kr fun gs11 w11 H11=>?_;clear H2;refine zc kr<|rS [.v,.l 0,.v,.v] H11 kr fun gs12 w12 H12=>?_;clear H11;refine zj 0 kr ?_;have HL3:St w.heap.size w w12 [((gs1 0).b,Obj.cells #[.bool l,.string s,.slice p n c] 73 (0,0))]:=H12.as kr;clear H12;have HD4:St w.heap.size w w12 []:=HL3.sub (List.Sublist.cons _ List.Sublist.slnil);refine zz kr (fun mz ρ ww=> ∃(i:Nat) (r:Fo) (az:ByteArray),n-i=mz∧(FoR w.heap.size w p i r)∧(i+Fo.len r=n)∧(Fo.cnt r≤Fo.cnt k)∧(ByteArray.size az+wtF r≤0x4000000000000000)∧(pureF r=true)∧(wrF k=tl az++wrF r)∧St w.heap.size w ww []∧Is [(0,.agg #[.bool l,.string s,.slice p n c]),(1,.pointer (some ⟨(gs1 0).b,0,none⟩)),(2,.string (⟨#[]⟩)),(3,.string az),(7,.bool true),(9,.slice p n c),(10,.int .i64 (n:Int)),(11,.int .i64 (i:Int))] ρ) (n-0) ⟨0,k,(⟨#[]⟩:ByteArray),rfl,(zq.start hpre),(by have hn0:=(hpre).1;omega),(Nat.le_refl _),(by show 0+_≤_;omega),hp2,rfl,HD4,(Is.of ⟨kr,kr,kr,kr,kr,kr,kr,kr,trivial⟩)⟩ ?_;clear HD4;rintro _ _ w13 ⟨i,r,az,rfl,hR,hN,hcn,hwt,hpr,hall,H13,_,rfl⟩;by_cases hc5:(i:Nat)<n
  ·refine rS [.E (.bool (decide ((i:Int)<(n:Int)))) (.bool true) (za (decide_eq_true (by omega)))] H13 kr fun gs14 w14 H14=>?_;clear H13;refine zc kr<|zg kr kr<|zh kr<|wW<|zc kr<|zj 1 kr ?_;obtain ⟨l1,s1,k1,r1,b1,off1,C1,T1,fz1,p1,n1,c1,hr1,hp1,hb1,hh1,hs1,hx1,hz1,hk1,hR1,hN1⟩:=FoR.open hR hN (by omega);refine rS [.o (ins:=[((.tmp 9),.slice p n c),((.tmp 11),.int .i64 (i:Int))]) (v:=.pointer (some ⟨b1,off1+i*3,none⟩)) (fun ρ o w ho hi=>jX (kd:=.i64) (t:=71) (e:=73) (bytes:=48) kr (x:=(.tmp 9)) (y:=(.tmp 11)) b1 off1 n c i hp1 ho hi.1 hi.2.1 (by omega) w),.fp (off:=off1+i*3) (n:=3) (W:=#[.bool l1,.string s1,.slice p1 n1 c1]) hh1 hb1 hs1 hx1,.a,.s 0] H14 kr fun gs15 w15 H15=>?_;clear H14;have hcn1:=hcn;rw [hr1] at hcn1;simp only [Fo.cnt] at hcn1;have hwt1:=hwt;rw [hr1] at hwt1;simp only [wtF] at hwt1;have hpq1:=zmK (show pureF (.cons l1 s1 k1 r1)=true by rw [←hr1];exact hpr);have hwl1:ByteArray.size (zb (wr1 l1 s1 (szF k1) (wrF k1)))≤9+ByteArray.size s1+wtF k1:=by have h9:=ue (.cons l1 s1 k1 .nil);simp only [wrF,wtF,List.append_nil,Nat.add_zero] at h9;exact h9
   refine rL [.v,.l 0,.cp (pre:=fun w=>zq w.heap.size w p1 n1 k1) (ih l1 s1 p1 n1 c1 k1 hz1 hpq1.1 hpq1.2.1 (by omega) (by omega)) [] (fun w hb hd=>(zq.call hk1 hb)),.o (ins:=[((.tmp 15),.string az),((.tmp 17),.string (zb (wr1 l1 s1 (szF k1) (wrF k1))))]) (v:=.string (az++(zb (wr1 l1 s1 (szF k1) (wrF k1))))) (fun ρ o w ho hi=>qR (t:=9) (t':=9) (x:=(.tmp 15)) (y:=(.tmp 17)) az (zb (wr1 l1 s1 (szF k1) (wrF k1))) w ho hi.1 hi.2.1 (by omega)),.v] H15 kr fun gs16 w16 H16=>?_;clear H15;refine wW<|zJ [0,1,2,3,5,7,9,10,11,12] fun ρ1=>?_;have HK6:=H16.keep;clear H16;refine rL [.E (.int .i64 (IntKind.i64.wrap ((i:Int)+1))) (.int .i64 ((i+1:Nat):Int)) (ze (zm (a:=i) (b:=1) (by omega))),.v] HK6 kr fun gs17 w17 H17=>?_;clear HK6;have HL7:St w.heap.size w w17 [((gs15 2).b,Obj.cells #[.bool l1,.string s1,.slice p1 n1 c1] 73 (0,0))]:=H17.as kr;clear H17;have HD8:St w.heap.size w w17 []:=HL7.sub (List.Sublist.cons _ List.Sublist.slnil);show ∃m,_∧_;exact ⟨_,(by omega),(i+1),r1,((az++(zb (wr1 l1 s1 (szF k1) (wrF k1))))),rfl,hR1,hN1,(by omega),(by rw [ByteArray.size_append];omega),hpq1.2.2,(by rw [hall,hr1,qg,yx];simp only [wrF,List.append_assoc]),HD8,(Is.of ⟨kr,kr,kr,kr,kr,kr,kr,kr,trivial⟩)⟩
  ·refine rS [.E (.bool (decide ((i:Int)<(n:Int)))) (.bool false) (za (decide_eq_false (by omega)))] H13 kr fun gs18 w18 H18=>?_;clear H13;refine zc kr<|zf kr kr<|zw 0 kr<|wW ?_;have hdn:=FoR.done hN (by omega);rw [hdn] at hall;have hal:wrF k=tl az:=by rw [hall];exact List.append_nil _
   refine rS [.v,.v,.c (zcZ 192 (ByteArray.size az) (by omega) (by omega)),.v,.o (ins:=[((.tmp 22),.string (zb (hd 192 (ByteArray.size az)))),((.tmp 23),.string az)]) (v:=.string ((zb (hd 192 (ByteArray.size az)))++az)) (fun ρ o w ho hi=>qR (t:=9) (t':=9) (x:=(.tmp 22)) (y:=(.tmp 23)) (zb (hd 192 (ByteArray.size az))) az w ho hi.1 hi.2.1 (by have h9:=(xx 192 (ByteArray.size az)).2;have h8:ByteArray.size (zb (hd 192 (ByteArray.size az)))≤9:=h9;omega)),.v] H18 kr fun gs19 w19 H19=>?_;clear H18;refine zn kr<|wV ?_;refine ⟨[.string ((zb (hd 192 (ByteArray.size az)))++az)],(.tmp (.string ((zb (hd 192 (ByteArray.size az)))++az)) kr .nil),?_,H19.below⟩;exact congrArg Value.string (zmN hq1 hp1 hp2 hal)
theorem zhe (l:Bool)(s:ByteArray)(p:Option Addr)(n c:Nat)(k:Fo)(hs:s.size≤0x800000000000)(hp1:zS l s k.len=false)(hp2:pureF k=true)(hw:ByteArray.size s+wtF k≤0x4000000000000000):FnP Tryz.prog 45 #[.agg #[.bool l,.string s,.slice p n c]] (fun w=>zq w.heap.size w p n k) (.string (zb (wr1 l s (szF k) (wrF k)))):=by
 have key: ∀(m:Nat) (l:Bool) (s:ByteArray) (p:Option Addr) (n c:Nat) (k:Fo),s.size≤0x800000000000→zS l s k.len=false→pureF k=true→ByteArray.size s+wtF k≤0x4000000000000000→k.cnt<m→FnP Tryz.prog 45 #[.agg #[.bool l,.string s,.slice p n c]] (fun w=>zq w.heap.size w p n k) (.string (zb (wr1 l s (szF k) (wrF k)))):=by
  intro m
  induction m with
  | zero=>intros;omega
  | succ m ih=>intro l s p n c k hs hp1 hp2 hw hkm;exact zmV m ih l s p n c k hs hp1 hp2 hw hkm
 exact key (k.cnt+1) l s p n c k hs hp1 hp2 hw (by omega)
end Go.Proofs.YtbbdbdndedeokaaGreatDoor
namespace Go.Proofs.Kec
set_option maxRecDepth 100000
end Go.Proofs.Kec
namespace Go.Proofs.YtbbdbdndedeokaaGreatDoor.Ke
open Go Go.RowKit Go.Proofs.Kec
set_option linter.unusedVariables false
def uvT:Nat→Nat×Nat
 | 0=>(1,0)
 | t+1=>((uvT t).2,(2*(uvT t).1+3*(uvT t).2)%5)
theorem zhf: ∀t,(uvT t).1<5∧(uvT t).2<5
 | 0=>by decide
 | t+1=>⟨(zhf t).2,Nat.mod_lt _ (by decide)⟩
def xK (x y:Nat):Nat:=match (List.range 24).find? (fun t=>uvT t==(x,y)) with | some t=>(t+1)*(t+2) / 2%64 | none=>0
theorem zmW {x y t:Nat}(ht:t<24)(hno: ∀j,j<t→uvT j≠(x,y))(h1:(uvT t).1=x)(h2:(uvT t).2=y):xK x y=(t+1)*(t+2) / 2%64:=by
 unfold xK;have:(List.range 24).find? (fun t=>uvT t==(x,y))=some t:=by
  rw [List.find?_range_eq_some];refine ⟨by simp [←h1,←h2],by simp [ht],fun j hj=>by simpa using hno j hj⟩
 rw [this]
theorem zmX {x y:Nat}(hno: ∀j,j<24→uvT j≠(x,y)):xK x y=0:=by
 unfold xK;have:(List.range 24).find? (fun t=>uvT t==(x,y))=none:=by
  rw [List.find?_eq_none];intro j hj;simpa using hno j (by simpa using hj)
 rw [this]
def jJ:Nat→Nat
 | 0=>1
 | k+1=>if 2*jJ k>255 then (2*jJ k) ^^^ 369 else 2*jJ k
theorem zmY: ∀r:Fin 512,Go.bits .xor .i64 ((r.val:Nat):Int) 369=((r.val ^^^ 369:Nat):Int):=by decide+kernel
theorem zmZ: ∀r:Fin 512,255<r.val→r.val ^^^ 369<256:=by decide+kernel
theorem zc0: ∀k,jJ k<256
 | 0=>by decide
 | k+1=>by
  have:=zc0 k;unfold jJ;split
  ·exact zmZ ⟨2*jJ k,by omega⟩ (by simp only;omega)
  ·omega
theorem zm0 (k:Nat):Go.bits .xor .i64 (((2*jJ k:Nat)):Int) 369=((2*jJ k ^^^ 369:Nat):Int):=zmY ⟨2*jJ k,by have:=zc0 k;omega⟩
def qP (k:Nat):List Nat:=(List.range k).map fun j=>jJ j%2
theorem zhg (k:Nat):qP (k+1)=qP k++ [jJ k%2]:=by unfold qP;rw [List.range_succ,List.map_append];rfl
theorem zm1 (k:Nat):(qP k).length=k:=by unfold qP;simp
def qQ (i:Nat):Nat→BitVec 64
 | 0=>0
 | j+1=>if (qP 168).getD (j+7*i) 0=1 then qQ i j ||| (1 <<< (2^j-1)) else qQ i j
theorem zm2: ∀i:Fin 24,qQ i.val 7=Kec.marks.getD i.val 0:=by decide+kernel
theorem kV (x y:Nat)(hx:x<100)(hy:y<100):Fn Tryz.prog 110 #[.int .i64 (x:Int),.int .i64 (y:Int)] (.int .i64 ((x%5+5*(y%5):Nat):Int)):=by
 refine Fn.intro (c:=zl Tryz.f110) [.tmp 4] 11 Tryz.func110 kr kr kr fun w=>?_;have H0:=St.start w;refine rS [.v] H0 kr fun gs1 w1 H1=>?_;clear H0;refine rS [.v,.E (.int .i64 (Int.tmod (x:Int) 5)) (.int .i64 ((x%5:Nat):Int)) (ze (qL x 5)),.v,.E (.int .i64 (Int.tmod (y:Int) 5)) (.int .i64 ((y%5:Nat):Int)) (ze (qL y 5)),.E (.int .i64 (IntKind.i64.wrap (5*((y%5:Nat):Int)))) (.int .i64 ((5*(y%5):Nat):Int)) (ze (qB (a:=5) (b:=y%5) (by omega))),.E (.int .i64 (IntKind.i64.wrap (((x%5:Nat):Int)+((5*(y%5):Nat):Int)))) (.int .i64 (((x%5)+(5*(y%5)):Nat):Int)) (ze (zm (a:=x%5) (b:=5*(y%5)) (by omega))),.v] H1 kr fun gs2 w2 H2=>?_;clear H1;refine zn kr<|wV ?_;refine ⟨[.int .i64 (((x%5)+(5*(y%5)):Nat):Int)],(.tmp (.int .i64 (((x%5)+(5*(y%5)):Nat):Int)) kr .nil),?_,H2.below⟩;rfl
theorem zm3 (x:BitVec 64):Fn Tryz.prog 111 #[.int .u64 (BitVec.toNat x:Int),.int .i64 0] (.int .u64 (BitVec.toNat x:Int)):=by
 refine Fn.intro (c:=zl Tryz.f111) [.tmp 4] 18 Tryz.func111 kr kr kr fun w=>?_;have H0:=St.start w;refine rS [.v] H0 kr fun gs1 w1 H1=>?_;clear H0;refine zc kr<|rS [.v,.v] H1 kr fun gs2 w2 H2=>?_;clear H1;refine zg kr kr<|rS [.v,.v] H2 kr fun gs3 w3 H3=>?_;clear H2;refine zn kr<|wV ?_;refine ⟨[.int .u64 (BitVec.toNat x:Int)],(.tmp (.int .u64 (BitVec.toNat x:Int)) kr .nil),?_,H3.below⟩;rfl
theorem left_fn (x:BitVec 64)(n:Nat)(h0:0<n)(hn:n<64):Fn Tryz.prog 111 #[.int .u64 (BitVec.toNat x:Int),.int .i64 (n:Int)] (.int .u64 (BitVec.toNat (rl x n):Int)):=by
 refine Fn.intro (c:=zl Tryz.f111) [.tmp 4] 18 Tryz.func111 kr kr kr fun w=>?_;have H0:=St.start w;refine rS [.v] H0 kr fun gs1 w1 H1=>?_;clear H0;refine zc kr<|rS [.v,.E (.bool ((n:Int)==0)) (.bool false) (za (beq_eq_false_iff_ne.2 (by omega)))] H1 kr fun gs2 w2 H2=>?_;clear H1;refine zf kr kr<|zh kr<|wW<|rS [.v,.v,.E (.int .u64 (IntKind.u64.wrap ((n:Int)))) (.int .u64 (n:Int)) (ze (ko (a:=n) (by omega))),.E (.int .u64 (IntKind.u64.wrap (((BitVec.toNat x:Int))*2^(min n 64)))) (.int .u64 (BitVec.toNat (x <<< n):Int)) (uZ x n),.v,.v,.E (.int .i64 (IntKind.i64.wrap (64-(n:Int)))) (.int .i64 ((64-n:Nat):Int)) (ze (jh (a:=64) (b:=n) (by omega))),.E (.int .u64 (IntKind.u64.wrap (((64-n:Nat):Int)))) (.int .u64 ((64-n:Nat):Int)) (ze (ko (a:=64-n) (by omega))),.E (.int .u64 (Int.fdiv ((BitVec.toNat x:Int)) (2^(min (64-n) 64)))) (.int .u64 (BitVec.toNat (x >>> (64-n)):Int)) (zaa x (64-n)),.E (.int .u64 (Go.bits .or .u64 ((BitVec.toNat (x <<< n):Int)) ((BitVec.toNat (x >>> (64-n)):Int)))) (.int .u64 (BitVec.toNat ((x <<< n) ||| (x >>> (64-n))):Int)) (zbl (x <<< n) (x >>> (64-n))),.v] H2 kr fun gs3 w3 H3=>?_;clear H2;refine zn kr<|wV ?_;refine ⟨[.int .u64 (BitVec.toNat ((x <<< n) ||| (x >>> (64-n))):Int)],(.tmp (.int .u64 (BitVec.toNat ((x <<< n) ||| (x >>> (64-n))):Int)) kr .nil),?_,H3.below⟩;rw [←zgn x n hn];rfl
theorem zm4 (x y:Nat)(hx:x<5)(hy:y<5):Fn Tryz.prog 112 #[.int .i64 (x:Int),.int .i64 (y:Int)] (.int .i64 ((xK x y:Nat):Int)):=by
 refine Fn.intro (c:=zl Tryz.f112) [.tmp 4] 36 Tryz.func112 kr kr kr fun w=>?_;have H0:=St.start w;refine rS [.v] H0 kr fun gs1 w1 H1=>?_;clear H0;refine rS [.v] H1 kr fun gs2 w2 H2=>?_;clear H1;refine rS [.v] H2 kr fun gs3 w3 H3=>?_;clear H2;refine zc kr<|rS [.v] H3 kr fun gs4 w4 H4=>?_;clear H3;refine zj 0 kr ?_;have HL1:St w.heap.size w w4 []:=H4.as kr;clear H4;refine zz kr (fun mz ρ ww=> ∃(t:Nat),24-t=mz∧(t≤24)∧(∀j,j<t→uvT j≠(x,y))∧St w.heap.size w ww []∧Is [(0,.int .i64 (x:Int)),(1,.int .i64 (y:Int)),(5,.int .i64 (((uvT t).1:Nat):Int)),(6,.int .i64 (((uvT t).2:Nat):Int)),(7,.int .i64 (t:Int))] ρ) (24-0) ⟨0,rfl,(by omega),(fun j hj=>absurd hj (by omega)),HL1,(Is.of ⟨kr,kr,kr,kr,kr,trivial⟩)⟩ ?_;clear HL1;rintro _ _ w5 ⟨t,rfl,ht,hno,H5,_,rfl⟩;have hlt:=zhf t;refine zc kr<|zi [0,1] kr kr<|rp [.v] H5 kr fun gs6 w6 H6=>wX [1] ?_;clear H5;by_cases hc2:(t:Nat)<24
 ·refine rp [.E (.bool (decide ((t:Int)<24))) (.bool true) (za (decide_eq_true (by omega)))] H6 kr fun gs7 w7 H7=>wX [] ?_;clear H6;refine zd<|zg kr kr<|zh kr<|wW<|zc kr<|zj 1 kr<|zc kr<|zi [0,1,2,3,4,5,6,7] kr kr<|rp [.v,.v] H7 kr fun gs8 w8 H8=>wX [2,3,4,5,6,7] ?_;clear H7;by_cases hc3:((uvT t).1:Nat)=x
  ·refine rp [.E (.bool ((((uvT t).1:Nat):Int)==(x:Int))) (.bool true) (za (beq_iff_eq.2 (by omega))),.v,.v,.v] H8 kr fun gs9 w9 H9=>wX [6,7] ?_;clear H8;by_cases hc4:((uvT t).2:Nat)=y
   ·refine rp [.E (.bool ((((uvT t).2:Nat):Int)==(y:Int))) (.bool true) (za (beq_iff_eq.2 (by omega))),.v] H9 kr fun gs10 w10 H10=>wX [] ?_;clear H9;refine zd<|zg kr kr<|zi [0,1,2,3,4,5,6,7] kr kr<|rp [.v,.E (.int .i64 (IntKind.i64.wrap ((t:Int)+1))) (.int .i64 ((t+1:Nat):Int)) (ze (zm (a:=t) (b:=1) (by omega))),.v,.E (.int .i64 (IntKind.i64.wrap ((t:Int)+2))) (.int .i64 ((t+2:Nat):Int)) (ze (zm (a:=t) (b:=2) (by omega)))] H10 kr fun gs11 w11 H11=>wX [4,5,6,7] ?_;clear H10;have hmul:(t+1)*(t+2)≤25*26:=Nat.mul_le_mul (by omega) (by omega);refine rp [.E (.int .i64 (IntKind.i64.wrap (((t+1:Nat):Int)*((t+2:Nat):Int)))) (.int .i64 (((t+1)*(t+2):Nat):Int)) (ze (qB (a:=t+1) (b:=t+2) (by omega))),.E (.int .i64 (IntKind.i64.wrap ((((t+1)*(t+2):Nat):Int).tdiv 2))) (.int .i64 ((((t+1)*(t+2)) / 2:Nat):Int)) (ze (vd (a:=(t+1)*(t+2)) (b:=2) (by omega))),.E (.int .i64 (Int.tmod ((((t+1)*(t+2)) / 2:Nat):Int) 64)) (.int .i64 (((((t+1)*(t+2)) / 2)%64:Nat):Int)) (ze (qL (((t+1)*(t+2)) / 2) 64)),.v] H11 kr fun gs12 w12 H12=>wX [] ?_;clear H11;refine zd<|zn kr<|wV ?_;refine ⟨[.int .i64 (((((t+1)*(t+2)) / 2)%64:Nat):Int)],(.tmp (.int .i64 (((((t+1)*(t+2)) / 2)%64:Nat):Int)) kr .nil),?_,H12.below⟩;rw [zmW (t:=t) (by omega) hno (by omega) (by omega)];rfl
   ·refine rp [.E (.bool ((((uvT t).2:Nat):Int)==(y:Int))) (.bool false) (za (beq_eq_false_iff_ne.2 (by omega))),.v] H9 kr fun gs13 w13 H13=>wX [] ?_;clear H9;refine zd<|zf kr kr<|zh kr<|wW<|rS [.v,.v] H13 kr fun gs14 w14 H14=>?_;clear H13;refine rS [.v,.E (.int .i64 (IntKind.i64.wrap (2*(((uvT t).1:Nat):Int)))) (.int .i64 ((2*((uvT t).1):Nat):Int)) (ze (qB (a:=2) (b:=(uvT t).1) (by omega))),.v,.E (.int .i64 (IntKind.i64.wrap (3*(((uvT t).2:Nat):Int)))) (.int .i64 ((3*((uvT t).2):Nat):Int)) (ze (qB (a:=3) (b:=(uvT t).2) (by omega))),.E (.int .i64 (IntKind.i64.wrap (((2*((uvT t).1):Nat):Int)+((3*((uvT t).2):Nat):Int)))) (.int .i64 (((2*((uvT t).1))+(3*((uvT t).2)):Nat):Int)) (ze (zm (a:=2*((uvT t).1)) (b:=3*((uvT t).2)) (by omega))),.E (.int .i64 (Int.tmod (((2*((uvT t).1))+(3*((uvT t).2)):Nat):Int) 5)) (.int .i64 ((((2*((uvT t).1))+(3*((uvT t).2)))%5:Nat):Int)) (ze (qL ((2*((uvT t).1))+(3*((uvT t).2))) 5)),.v] H14 kr fun gs15 w15 H15=>?_;clear H14;refine zJ [0,1,5,6,7,8,10,20] fun ρ1=>?_;have HK5:=H15.keep;clear H15;refine rL [.v,.v] HK5 kr fun gs16 w16 H16=>?_;clear HK5;refine wW<|rL [.v,.E (.int .i64 (IntKind.i64.wrap ((t:Int)+1))) (.int .i64 ((t+1:Nat):Int)) (ze (zm (a:=t) (b:=1) (by omega))),.v] H16 kr fun gs17 w17 H17=>?_;clear H16;have HL6:St w.heap.size w w17 []:=H17.as kr;clear H17;show ∃m,_∧_;exact ⟨_,(by omega),(t+1),rfl,(by omega),(fun j hj=>by rcases Nat.lt_succ_iff_lt_or_eq.1 hj with h | rfl;exact hno j h;intro e;have e1:=congrArg Prod.fst e;have e2:=congrArg Prod.snd e;simp only at e1 e2;omega),HL6,(Is.of ⟨kr,kr,kr,kr,kr,trivial⟩)⟩
  ·refine rp [.E (.bool ((((uvT t).1:Nat):Int)==(x:Int))) (.bool false) (za (beq_eq_false_iff_ne.2 (by omega))),.v,.n,.n,.n,.v] H8 kr fun gs18 w18 H18=>wX [] ?_;clear H8;refine zd<|zf kr kr<|zh kr<|wW<|rS [.v,.v] H18 kr fun gs19 w19 H19=>?_;clear H18;refine rS [.v,.E (.int .i64 (IntKind.i64.wrap (2*(((uvT t).1:Nat):Int)))) (.int .i64 ((2*((uvT t).1):Nat):Int)) (ze (qB (a:=2) (b:=(uvT t).1) (by omega))),.v,.E (.int .i64 (IntKind.i64.wrap (3*(((uvT t).2:Nat):Int)))) (.int .i64 ((3*((uvT t).2):Nat):Int)) (ze (qB (a:=3) (b:=(uvT t).2) (by omega))),.E (.int .i64 (IntKind.i64.wrap (((2*((uvT t).1):Nat):Int)+((3*((uvT t).2):Nat):Int)))) (.int .i64 (((2*((uvT t).1))+(3*((uvT t).2)):Nat):Int)) (ze (zm (a:=2*((uvT t).1)) (b:=3*((uvT t).2)) (by omega))),.E (.int .i64 (Int.tmod (((2*((uvT t).1))+(3*((uvT t).2)):Nat):Int) 5)) (.int .i64 ((((2*((uvT t).1))+(3*((uvT t).2)))%5:Nat):Int)) (ze (qL ((2*((uvT t).1))+(3*((uvT t).2))) 5)),.v] H19 kr fun gs20 w20 H20=>?_;clear H19;refine zJ [0,1,5,6,7,8,10,20] fun ρ2=>?_;have HK7:=H20.keep;clear H20;refine rL [.v,.v] HK7 kr fun gs21 w21 H21=>?_;clear HK7;refine wW<|rL [.v,.E (.int .i64 (IntKind.i64.wrap ((t:Int)+1))) (.int .i64 ((t+1:Nat):Int)) (ze (zm (a:=t) (b:=1) (by omega))),.v] H21 kr fun gs22 w22 H22=>?_;clear H21;have HL8:St w.heap.size w w22 []:=H22.as kr;clear H22;show ∃m,_∧_;exact ⟨_,(by omega),(t+1),rfl,(by omega),(fun j hj=>by rcases Nat.lt_succ_iff_lt_or_eq.1 hj with h | rfl;exact hno j h;intro e;have e1:=congrArg Prod.fst e;have e2:=congrArg Prod.snd e;simp only at e1 e2;omega),HL8,(Is.of ⟨kr,kr,kr,kr,kr,trivial⟩)⟩
 ·refine rp [.E (.bool (decide ((t:Int)<24))) (.bool false) (za (decide_eq_false (by omega)))] H6 kr fun gs23 w23 H23=>wX [] ?_;clear H6;refine zd<|zf kr kr<|zw 0 kr<|wW<|rS [.v] H23 kr fun gs24 w24 H24=>?_;clear H23;refine zn kr<|wV ?_;refine ⟨[.int .i64 0],(.tmp (.int .i64 0) kr .nil),?_,H24.below⟩;rw [zmX (fun j hj=>hno j (by omega))];rfl
theorem zm5:FnR Tryz.prog 134 #[.int .i64 168] (fun _=>True) (zdn 3 1 (fun cur cap n l=>(n=168∧Rw 1 cur cap n (jg (qP 168))))):=by
 refine FnR.intro (c:=zl Tryz.f134) [.tmp 2] 24 Tryz.func134 kr kr kr fun w hpre=>?_;have H0:=St.start w;refine rS [.v] H0 kr fun gs1 w1 H1=>?_;clear H0;refine rS [.nw (fun b=>.slice (some ⟨b,0,none⟩) 0 0) #[] 3,.v] H1 kr fun gs2 w2 H2=>?_;clear H1;refine rS [.v] H2 kr fun gs3 w3 H3=>?_;clear H2;refine zc kr<|rS [.v] H3 kr fun gs4 w4 H4=>?_;clear H3;refine zj 0 kr ?_;have HL1:St w.heap.size w w4 [((gs2 0).b,Obj.cells #[] 3 (0,0))]:=H4.as kr;clear H4;refine zz kr (fun mz ρ ww=> ∃(b:Nat) (cap:Nat) (n:Nat) (cur:Array Value) (k:Nat) (rg:Nat),168-k=mz∧(n=k)∧(Rw 1 cur cap n (jg (qP k)))∧(k≤168)∧(rg=jJ k)∧St w.heap.size w ww [(b,Obj.cells cur 3 (0,0))]∧Is [(0,.int .i64 ((168:Nat):Int)),(2,.slice none 0 0),(3,.slice (some ⟨b,0,none⟩) n cap),(4,.int .i64 (rg:Int)),(5,.int .i64 (k:Int))] ρ) (168-0) ⟨(gs2 0).b,0,0,#[],0,1,rfl,rfl,(Rw.lit #[] 0 rfl (by unfold maxLen;omega)),(by omega),rfl,HL1,(Is.of ⟨kr,kr,kr,kr,kr,trivial⟩)⟩ ?_;clear HL1;rintro _ _ w5 ⟨b,cap,n,cur,k,rg,rfl,hn,hr,hk,hrgk,H5,_,rfl⟩;have hrg:=zc0 k;rw [←hrgk] at hrg;refine zc kr<|zi [0,1,2] kr kr<|rp [.v,.v] H5 kr fun gs6 w6 H6=>wX [2] ?_;clear H5;by_cases hc2:(k:Nat)<168
 ·refine rp [.E (.bool (decide ((k:Int)<((168:Nat):Int)))) (.bool true) (za (decide_eq_true (by omega)))] H6 kr fun gs7 w7 H7=>wX [] ?_;clear H6;refine zd<|zg kr kr<|zh kr<|wW<|zc kr<|zj 1 kr<|zi [0,1,2,3,4,5] kr kr<|rp [.v,.v,.E (.int .i64 (Int.tmod (rg:Int) 2)) (.int .i64 ((rg%2:Nat):Int)) (ze (qL rg 2)),.nw (fun b=>.slice (some ⟨b,0,none⟩) 1 1) #[.int .i64 ((rg%2:Nat):Int)] 3] H7 kr fun gs8 w8 H8=>wX [4,5] ?_;clear H7;refine za4 H8 (some 16) 177 3 1 8 (.tmp 12) (.tmp 15) 0 1 b ((gs8 3).b) n 1 cap 1 cur #[.int .i64 ((rg%2:Nat):Int)] 3 (0,0) (jg (qP k)) ([.int .i64 ((rg%2:Nat):Int)]) (fun b_1 cur_3=>[(b_1,Obj.cells cur_3 3 (0,0)),((gs8 3).b,Obj.cells #[.int .i64 ((rg%2:Nat):Int)] 3 (0,0))]) kr kr kr kr kr hr kr kr (by rfl) (by rfl) (by intro u hu;simp at hu;first | exact hu.elim | (rcases hu with rfl | rfl | rfl | rfl<;>rfl) | (rcases hu with rfl | rfl<;>rfl) | (subst hu;rfl)) (by omega) (by unfold maxLen;omega) (fun _ _=>by kernel_rfl) ?_;intro b_1 cap_2 cur_3 w9 H9 hr_4;clear H8;refine rp [.v] H9 kr fun gs10 w10 H10=>wX [] ?_;clear H9;refine zd<|rS [.v,.E (.int .i64 (IntKind.i64.wrap (2*(rg:Int)))) (.int .i64 ((2*rg:Nat):Int)) (ze (qB (a:=2) (b:=rg) (by omega))),.v] H10 kr fun gs11 w11 H11=>?_;clear H10;refine zi [0,1] kr kr<|rp [.v] H11 kr fun gs12 w12 H12=>wX [1] ?_;clear H11;by_cases hc3:(2*rg:Nat)>255
  ·refine rp [.E (.bool (decide (255<((2*rg:Nat):Int)))) (.bool true) (za (decide_eq_true (by omega)))] H12 kr fun gs13 w13 H13=>wX [] ?_;clear H12;refine zd<|zJ [0,2,3,4,5,9,20] fun ρ1=>?_;have HK4:=H13.keep;clear H13;refine zg kr kr<|rL [.v,.E (.int .i64 (Go.bits .xor .i64 (((2*rg:Nat)):Int) 369)) (.int .i64 ((2*rg ^^^ 369:Nat):Int)) (ze (by rw [hrgk];exact zm0 k)),.v] HK4 kr fun gs14 w14 H14=>?_;clear HK4;refine wW<|rL [.v,.E (.int .i64 (IntKind.i64.wrap ((k:Int)+1))) (.int .i64 ((k+1:Nat):Int)) (ze (zm (a:=k) (b:=1) (by omega))),.v] H14 kr fun gs15 w15 H15=>?_;clear H14;have HL5:St w.heap.size w w15 [(b_1,Obj.cells cur_3 3 (0,0)),((gs8 3).b,Obj.cells #[.int .i64 ((rg%2:Nat):Int)] 3 (0,0))]:=H15.as kr;clear H15;have hrow:Rw 1 cur_3 cap_2 (n+1) (jg (qP (k+1))):=by rw [zhg,zdo,←hrgk];exact hr_4
   have HD6:St w.heap.size w w15 [(b_1,Obj.cells cur_3 3 (0,0))]:=HL5.sub (List.Sublist.cons_cons _ (List.Sublist.cons _ List.Sublist.slnil));show ∃m,_∧_;exact ⟨_,(by omega),b_1,cap_2,(n+1),cur_3,(k+1),(2*rg ^^^ 369),rfl,(by omega),hrow,(by omega),(by subst hrgk;exact (if_pos (by omega)).symm),HD6,(Is.of ⟨kr,kr,kr,kr,kr,trivial⟩)⟩
  ·refine rp [.E (.bool (decide (255<((2*rg:Nat):Int)))) (.bool false) (za (decide_eq_false (by omega)))] H12 kr fun gs16 w16 H16=>wX [] ?_;clear H12;refine zd<|zJ [0,2,3,4,5,9,20] fun ρ2=>?_;have HK7:=H16.keep;clear H16;refine zf kr kr<|zh kr<|wW<|rL [.v,.E (.int .i64 (IntKind.i64.wrap ((k:Int)+1))) (.int .i64 ((k+1:Nat):Int)) (ze (zm (a:=k) (b:=1) (by omega))),.v] HK7 kr fun gs17 w17 H17=>?_;clear HK7;have HL8:St w.heap.size w w17 [(b_1,Obj.cells cur_3 3 (0,0)),((gs8 3).b,Obj.cells #[.int .i64 ((rg%2:Nat):Int)] 3 (0,0))]:=H17.as kr;clear H17;have hrow:Rw 1 cur_3 cap_2 (n+1) (jg (qP (k+1))):=by rw [zhg,zdo,←hrgk];exact hr_4
   have HD9:St w.heap.size w w17 [(b_1,Obj.cells cur_3 3 (0,0))]:=HL8.sub (List.Sublist.cons_cons _ (List.Sublist.cons _ List.Sublist.slnil));show ∃m,_∧_;exact ⟨_,(by omega),b_1,cap_2,(n+1),cur_3,(k+1),(2*rg),rfl,(by omega),hrow,(by omega),(by subst hrgk;exact (if_neg (by omega)).symm),HD9,(Is.of ⟨kr,kr,kr,kr,kr,trivial⟩)⟩
 ·refine rp [.E (.bool (decide ((k:Int)<((168:Nat):Int)))) (.bool false) (za (decide_eq_false (by omega)))] H6 kr fun gs18 w18 H18=>wX [] ?_;clear H6;refine zd<|zf kr kr<|zw 0 kr<|wW<|rS [.v,.v] H18 kr fun gs19 w19 H19=>?_;clear H18;refine zn kr<|wV ?_;refine ⟨[.slice (some ⟨b,0,none⟩) n cap],(.tmp (.slice (some ⟨b,0,none⟩) n cap) kr .nil),H19.below,?_⟩;obtain rfl:k=168:=by omega
  exact ⟨b,cap,_,_,[],rfl,H19.ge 0 (o:=.cells cur 3 (0,0)) kr,H19.get 0 kr,⟨hn,hr⟩⟩
theorem zc1 {a b:BitVec 64}(h:a=b):Value.int .u64 (BitVec.toNat a:Int)=.int .u64 (BitVec.toNat b:Int):=by rw [h]
theorem zm6 (x:BitVec 64):(0xffffffffffffffff:BitVec 64)-x= ~~~x:=by
 apply BitVec.eq_of_toNat_eq;have:=x.isLt;rw [BitVec.toNat_sub,BitVec.toNat_not];show (0x10000000000000000-x.toNat+0xffffffffffffffff)%0x10000000000000000=0x10000000000000000-1-x.toNat;omega
theorem zm7 (i:Nat)(hi:i<24):Fn Tryz.prog 113 #[.int .i64 (i:Int)] (.int .u64 (BitVec.toNat (qQ i 7):Int)):=by
 refine Fn.intro (c:=zl Tryz.f113) [.tmp 2] 28 Tryz.func113 kr kr kr fun w=>?_;have H0:=St.start w;refine rS [.v] H0 kr fun gs1 w1 H1=>?_;clear H0;refine zi [0,1] kr kr<|zhY H1 (some 7) 134 #[.int .i64 168] (fun _=>True) 3 1 (fun curZ capZ nZ lZ=>(nZ=168∧Rw 1 curZ capZ nZ (jg (qP 168)))) zm5 trivial kr kr ?_;intro b_1 cap_2 n_3 cur_4 l_5 w2 H2 hs_6;clear H1;have hs_6n:=hs_6.1;refine rp [.v] H2 kr fun gs3 w3 H3=>wX [] ?_;clear H2;refine zd<|rS [.v] H3 kr fun gs4 w4 H4=>?_;clear H3;refine rS [.v] H4 kr fun gs5 w5 H5=>?_;clear H4;refine zc kr<|rS [.v] H5 kr fun gs6 w6 H6=>?_;clear H5;refine zj 0 kr ?_;have HL1:St w.heap.size w w6 [(b_1,Obj.cells cur_4 3 (0,0))]:=H6.as kr;clear H6;refine zz kr (fun mz ρ ww=> ∃(j:Nat) (pl:Nat) (nn:BitVec 64),7-j=mz∧(j≤7)∧(pl=2^j)∧(nn=qQ i j)∧St w.heap.size w ww [(b_1,Obj.cells cur_4 3 (0,0))]∧Is [(0,.int .i64 (i:Int)),(2,wZ),(3,.slice (some ⟨b_1,0,none⟩) n_3 cap_2),(4,.int .u64 (BitVec.toNat nn:Int)),(5,.int .u64 (pl:Int)),(6,.int .i64 (j:Int))] ρ) (7-0) ⟨0,1,0,rfl,(by omega),rfl,rfl,HL1,(Is.of ⟨kr,kr,kr,kr,kr,kr,trivial⟩)⟩ ?_;clear HL1;rintro _ _ w7 ⟨j,pl,nn,rfl,hj,hpl,hnn,H7,_,rfl⟩;have hp1:1≤pl:=by rw [hpl];exact Nat.one_le_two_pow
 have hp2:pl≤128:=by rw [hpl];exact Nat.pow_le_pow_right (by omega) hj
 refine zc kr<|zi [0,1] kr kr<|rp [.v] H7 kr fun gs8 w8 H8=>wX [1] ?_;clear H7;by_cases hc2:(j:Nat)<7
 ·refine rp [.E (.bool (decide ((j:Int)<7))) (.bool true) (za (decide_eq_true (by omega)))] H8 kr fun gs9 w9 H9=>wX [] ?_;clear H8;refine zd<|zg kr kr<|zh kr<|wW<|zc kr<|zj 1 kr<|zc kr<|zi [0,1,2,3,4,5,6,7] kr kr<|rp [.v,.v,.v,.E (.int .i64 (IntKind.i64.wrap (7*(i:Int)))) (.int .i64 ((7*i:Nat):Int)) (ze (qB (a:=7) (b:=i) (by omega))),.E (.int .i64 (IntKind.i64.wrap ((j:Int)+((7*i:Nat):Int)))) (.int .i64 ((j+(7*i):Nat):Int)) (ze (zm (a:=j) (b:=7*i) (by omega))),.o (ins:=[((.tmp 12),.slice (some ⟨b_1,0,none⟩) n_3 cap_2),((.tmp 16),.int .i64 ((j+(7*i):Nat):Int))]) (v:=.pointer (some ⟨b_1,0+(j+(7*i))*1,none⟩)) (fun ρ o w ho hi=>jL (kd:=.i64) (t:=177) (e:=3) (size:=1) (bytes:=8) kr (x:=(.tmp 12)) (y:=(.tmp 16)) b_1 0 n_3 cap_2 (j+(7*i)) ho hi.1 hi.2.1 (by omega) w),.ls (C:=cur_4) (off:=0+(j+(7*i))*1) (v:=.int .i64 ((List.getD (qP 168) (j+(7*i)) 0:Nat):Int)) 0 (hs_6.2.atD (by omega) (by rw [zm1];exact hs_6.1))] H9 kr fun gs10 w10 H10=>wX [7] ?_;clear H9;by_cases hc3:(List.getD (qP 168) (j+(7*i)) 0:Nat)=1
  ·refine rp [.E (.bool (((List.getD (qP 168) (j+(7*i)) 0:Nat):Int)==1)) (.bool true) (za (beq_iff_eq.2 (by omega)))] H10 kr fun gs11 w11 H11=>wX [] ?_;clear H10;refine zd<|zg kr kr<|rL [.v,.v,.E (.int .u64 (IntKind.u64.wrap ((pl:Int)-1))) (.int .u64 ((pl-1:Nat):Int)) (ze (zdK (a:=pl) (b:=1) (by omega))),.E (.int .u64 (IntKind.u64.wrap ((1)*2^(min (pl-1) 64)))) (.int .u64 (BitVec.toNat ((1:BitVec 64) <<< (pl-1)):Int)) (uZ (1:BitVec 64) (pl-1)),.E (.int .u64 (Go.bits .or .u64 ((BitVec.toNat nn:Int)) ((BitVec.toNat ((1:BitVec 64) <<< (pl-1)):Int)))) (.int .u64 (BitVec.toNat (nn ||| ((1:BitVec 64) <<< (pl-1))):Int)) (zbl nn ((1:BitVec 64) <<< (pl-1))),.v] H11 kr fun gs12 w12 H12=>?_;clear H11;refine wW<|zJ [0,2,3,4,5,6,9,19] fun ρ1=>?_;have HK4:=H12.keep;clear H12;refine rL [.v,.E (.int .u64 (IntKind.u64.wrap (2*(pl:Int)))) (.int .u64 ((2*pl:Nat):Int)) (ze (zdL (a:=2) (b:=pl) (by omega))),.v] HK4 kr fun gs13 w13 H13=>?_;clear HK4;refine wW<|rL [.v,.E (.int .i64 (IntKind.i64.wrap ((j:Int)+1))) (.int .i64 ((j+1:Nat):Int)) (ze (zm (a:=j) (b:=1) (by omega))),.v] H13 kr fun gs14 w14 H14=>?_;clear H13;have HL5:St w.heap.size w w14 [(b_1,Obj.cells cur_4 3 (0,0))]:=H14.as kr;clear H14;show ∃m,_∧_;exact ⟨_,(by omega),(j+1),(2*pl),(nn ||| ((1:BitVec 64) <<< (pl-1))),rfl,(by omega),(by rw [hpl,Nat.pow_succ];omega),(by subst hnn hpl;exact (if_pos (by assumption)).symm),HL5,(Is.of ⟨kr,kr,kr,kr,kr,kr,trivial⟩)⟩
  ·refine rp [.E (.bool (((List.getD (qP 168) (j+(7*i)) 0:Nat):Int)==1)) (.bool false) (za (beq_eq_false_iff_ne.2 (by omega)))] H10 kr fun gs15 w15 H15=>wX [] ?_;clear H10;refine zd<|zf kr kr<|zh kr<|wW<|rL [.v,.E (.int .u64 (IntKind.u64.wrap (2*(pl:Int)))) (.int .u64 ((2*pl:Nat):Int)) (ze (zdL (a:=2) (b:=pl) (by omega))),.v] H15 kr fun gs16 w16 H16=>?_;clear H15;refine wW<|zJ [0,2,3,4,5,6,9,19] fun ρ2=>?_;have HK6:=H16.keep;clear H16;refine rL [.v,.E (.int .i64 (IntKind.i64.wrap ((j:Int)+1))) (.int .i64 ((j+1:Nat):Int)) (ze (zm (a:=j) (b:=1) (by omega))),.v] HK6 kr fun gs17 w17 H17=>?_;clear HK6;have HL7:St w.heap.size w w17 [(b_1,Obj.cells cur_4 3 (0,0))]:=H17.as kr;clear H17;show ∃m,_∧_;exact ⟨_,(by omega),(j+1),(2*pl),(nn),rfl,(by omega),(by rw [hpl,Nat.pow_succ];omega),(by subst hnn hpl;exact (if_neg (by assumption)).symm),HL7,(Is.of ⟨kr,kr,kr,kr,kr,kr,trivial⟩)⟩
 ·refine rp [.E (.bool (decide ((j:Int)<7))) (.bool false) (za (decide_eq_false (by omega)))] H8 kr fun gs18 w18 H18=>wX [] ?_;clear H8;refine zd<|zf kr kr<|zw 0 kr<|wW<|rS [.v,.v] H18 kr fun gs19 w19 H19=>?_;clear H18;refine zn kr<|wV ?_;refine ⟨[.int .u64 (BitVec.toNat nn:Int)],(.tmp (.int .u64 (BitVec.toNat nn:Int)) kr .nil),?_,H19.below⟩;obtain rfl:j=7:=by omega
  rw [hnn];rfl
def zA (n:Nat)(f:Nat→BitVec 64):Value:=.agg (zP n fun j=>.int .u64 (BitVec.toNat (f j):Int)).toArray
theorem vD {n:Nat}(f:Nat→BitVec 64){k off:Nat}(ho:off=0+k*1)(hk:k<n):(Value.cells (zA n f))[off]? =some (.int .u64 (BitVec.toNat (f k):Int)):=
 zit (pre:=[]) (post:=[]) (n:=n) (f:=fun j=>.int .u64 (BitVec.toNat (f j):Int)) (by show zP n _=[]++zP n _++ [];simp) (by simpa using ho) hk
theorem zc2 {n:Nat}{f g:Nat→BitVec 64}{k off:Nat}{x:BitVec 64}(ho:off=0+k*1)(hk:k<n)(hg: ∀j,j<n→g j=if j=k then x else f j):
 ((Value.cells (zA n f)).toList.take off++(Value.int .u64 (BitVec.toNat x:Int)).cells.toList++(Value.cells (zA n f)).toList.drop (off+(Value.int .u64 (BitVec.toNat x:Int)).cells.size)).toArray=Value.cells (zA n g):=by
 rw [vX (pre:=[]) (post:=[]) (n:=n) (f:=fun j=>.int .u64 (BitVec.toNat (f j):Int)) (g:=fun j=>.int .u64 (BitVec.toNat (g j):Int)) (by show zP n _=[]++zP n _++ [];simp) rfl (by simpa using ho) hk (fun j hj=>by rw [hg j hj];split<;>rfl)];simp;rfl
theorem zaV {n:Nat}{f g:Nat→BitVec 64}(h: ∀k,k<n→f k=g k):zA n f=zA n g:=by
 unfold zA zP;rw [List.map_congr_left fun k hk=>by rw [h k (by simpa using hk)]]
def pS (s:List (BitVec 64))(x:Nat):Nat→BitVec 64
 | 0=>0
 | y+1=>pS s x y ^^^ nth s (x+5*y)
theorem pS5 (s:List (BitVec 64))(x:Nat):pS s x 5=cC s x:=by
 show ((((0 ^^^ nth s x) ^^^ nth s (x+5)) ^^^ nth s (x+10)) ^^^ nth s (x+15)) ^^^ nth s (x+20)=_;rw [show (0:BitVec 64)=0#64 from rfl,BitVec.zero_xor];rfl
def cF (s:List (BitVec 64))(x y k:Nat):BitVec 64:=if k<x then cC s k else if k=x then pS s x y else 0
theorem zm8 (s:List (BitVec 64))(x y j:Nat):cF s x (y+1) j=if j=x then cF s x y x ^^^ nth s (x+5*y) else cF s x y j:=by
 unfold cF;by_cases h:j=x
 ·subst h;simp [pS]
 ·rw [if_neg h,if_neg h,if_neg h]
theorem zm9 (s:List (BitVec 64))(x y:Nat)(h:y=5):zA 5 (cF s x y)=zA 5 (cF s (x+1) 0):=by
 subst h;refine zaV fun k _=>?_;unfold cF;by_cases h1:k<x
 ·rw [if_pos h1,if_pos (by omega)]
 ·rw [if_neg h1];by_cases h2:k=x
  ·rw [if_pos h2,if_pos (by omega),pS5,h2]
  ·rw [if_neg h2,if_neg (by omega)];by_cases h3:k=x+1
   ·rw [if_pos h3];rfl
   ·rw [if_neg h3]
theorem zna (s:List (BitVec 64))(x:Nat)(h:x=5):zA 5 (cF s x 0)=zA 5 (cC s):=by
 subst h;exact zaV fun k hk=>by unfold cF;rw [if_pos hk]
def rk (k:Nat):Nat:=(3*(k / 5)+k%5)%5*5+k%5
def bF (s:List (BitVec 64))(x y k:Nat):BitVec 64:=if rk k<5*x+y then pI s k else 0
theorem znb (k:Nat):rk k<25:=by unfold rk;omega
theorem znc: ∀x,x<5→ ∀y,y<5→ ∀k,k<25→(rk k=5*x+y↔k=y%5+5*((2*x+3*y)%5)):=by decide
theorem znd (s:List (BitVec 64)){x y j:Nat}(hx:x<5)(hy:y<5)(hj:j<25):bF s x (y+1) j=if j=y%5+5*((2*x+3*y)%5) then pI s (y%5+5*((2*x+3*y)%5)) else bF s x y j:=by
 have h:=znc x hx y hy j hj;unfold bF;by_cases h1:j=y%5+5*((2*x+3*y)%5)
 ·rw [if_pos h1,if_pos (by have:=h.2 h1;omega),←h1]
 ·rw [if_neg h1];have h2:rk j≠5*x+y:=fun e=>h1 (h.1 e);by_cases h3:rk j<5*x+y
  ·rw [if_pos h3,if_pos (by omega)]
  ·rw [if_neg h3,if_neg (by omega)]
theorem zne (s:List (BitVec 64))(x y:Nat)(h:y=5):zA 25 (bF s x y)=zA 25 (bF s (x+1) 0):=by subst h;rfl
theorem znf (s:List (BitVec 64))(x:Nat)(h:x=5):zA 25 (bF s x 0)=zA 25 (pI s):=by
 subst h;exact zaV fun k _=>by unfold bF;rw [if_pos (znb k)]
def oF (s:List (BitVec 64))(x y k:Nat):BitVec 64:=if k%5*5+k / 5<5*x+y then xI (pI s) k else 0
theorem zng (s:List (BitVec 64)){x y j:Nat}(hx:x<5)(hy:y<5)(hj:j<25):oF s x (y+1) j=if j=x+5*y then xI (pI s) (x+5*y) else oF s x y j:=by
 unfold oF;by_cases h1:j=x+5*y
 ·rw [if_pos h1,if_pos (by omega),h1]
 ·rw [if_neg h1];by_cases h3:j%5*5+j / 5<5*x+y
  ·rw [if_pos h3,if_pos (by omega)]
  ·rw [if_neg h3,if_neg (by omega)]
theorem znh (s:List (BitVec 64))(x y:Nat)(h:y=5):zA 25 (oF s x y)=zA 25 (oF s (x+1) 0):=by subst h;rfl
theorem zni (s:List (BitVec 64))(x:Nat)(h:x=5):zA 25 (oF s x 0)=svn (rnd s):=by
 subst h;rw [zaV (g:=xI (pI s)) fun k hk=>by unfold oF;rw [if_pos (by omega)]];rfl
theorem znj (s:List (BitVec 64))(z:BitVec 64){x:Nat}(h:x=5):
 (List.take 0 (zA 25 (oF s x 0)).cells.toList++(Value.int .u64 (BitVec.toNat (oF s x 0 0 ^^^ z):Int)).cells.toList++List.drop (0+(Value.int .u64 (BitVec.toNat (oF s x 0 0 ^^^ z):Int)).cells.size) (zA 25 (oF s x 0)).cells.toList).toArray=(svn (rm s z)).cells:=by
 rw [zni s x h];subst h;exact zgq s z
theorem znk (s:List (BitVec 64)){x y:Nat}(hx:x<5):nth s (x+5*y) ^^^ dD (cC s) x=th s (x+5*y):=by
 unfold th;rw [show (x+5*y)%5=x by omega]
theorem znl: ∀x,x<5→ ∀y,y<5→zge.getD (y%5+5*((2*x+3*y)%5)) 0=x+5*y∧zgf.getD (y%5+5*((2*x+3*y)%5)) 0=xK x y∧xK x y<64:=by decide
theorem znm (s:List (BitVec 64))(x y:Nat)(hx:x<5)(hy:y<5):Fn Tryz.prog 111 #[.int .u64 (BitVec.toNat (th s (x+5*y)):Int),.int .i64 ((xK x y:Nat):Int)] (.int .u64 (BitVec.toNat (pI s (y%5+5*((2*x+3*y)%5))):Int)):=by
 obtain ⟨h1,h2,h3⟩:=znl x hx y hy;unfold pI;rw [h1,h2];by_cases h:xK x y=0
 ·rw [h,rl0];exact zm3 _
 ·exact left_fn _ _ (by omega) h3
theorem znn (b:Nat→BitVec 64){x y:Nat}(hx:x<5)(hy:y<5):b (x+5*y) ^^^ (~~~(b ((x+1)%5+5*(y%5))) &&& b ((x+2)%5+5*(y%5)))=xI b (x+5*y):=by
 unfold xI kM;rw [show (x+5*y) / 5*5+((x+5*y)%5+1)%5=(x+1)%5+5*(y%5) by omega,show (x+5*y) / 5*5+((x+5*y)%5+2)%5=(x+2)%5+5*(y%5) by omega,BitVec.and_comm]
theorem zno (s:List (BitVec 64))(i:Nat)(hi:i<24):Fn Tryz.prog 78 #[svn s,.int .i64 (i:Int)] (svn (rm s (qQ i 7))):=by
 refine Fn.intro (c:=zl Tryz.f78) [.cell 4 81] 117 Tryz.func78 kr kr kr fun w=>?_;have H0:=St.start w;refine rS [.b,.a] H0 kr fun gs1 w1 H1=>?_;clear H0;refine rS [.v,.a,.s 2] H1 kr fun gs2 w2 H2=>?_;clear H1;refine zc kr<|rS [.v] H2 kr fun gs3 w3 H3=>?_;clear H2;refine zj 0 kr ?_;have HL1:St w.heap.size w w3 [((gs1 0).b,Obj.cells (Value.cells (svn s)) 81 (0,0)),((gs1 1).b,Obj.cells #[wZ,wZ,wZ,wZ,wZ,wZ,wZ,wZ,wZ,wZ,wZ,wZ,wZ,wZ,wZ,wZ,wZ,wZ,wZ,wZ,wZ,wZ,wZ,wZ,wZ] 81 (0,0)),((gs2 1).b,Obj.cells #[wZ,wZ,wZ,wZ,wZ] 157 (0,0))]:=H3.as kr;clear H3;have HM2:St w.heap.size w w3 [((gs1 0).b,Obj.cells (Value.cells (svn s)) 81 (0,0)),((gs1 1).b,Obj.cells #[wZ,wZ,wZ,wZ,wZ,wZ,wZ,wZ,wZ,wZ,wZ,wZ,wZ,wZ,wZ,wZ,wZ,wZ,wZ,wZ,wZ,wZ,wZ,wZ,wZ] 81 (0,0)),((gs2 1).b,Obj.cells (Value.cells (zA 5 (cF s 0 0))) 157 (0,0))]:=HL1;refine zz kr (fun mz ρ ww=> ∃(x:Nat),5-x=mz∧(x≤5)∧St w.heap.size w ww [((gs1 0).b,Obj.cells (Value.cells (svn s)) 81 (0,0)),((gs1 1).b,Obj.cells #[wZ,wZ,wZ,wZ,wZ,wZ,wZ,wZ,wZ,wZ,wZ,wZ,wZ,wZ,wZ,wZ,wZ,wZ,wZ,wZ,wZ,wZ,wZ,wZ,wZ] 81 (0,0)),((gs2 1).b,Obj.cells (Value.cells (zA 5 (cF s x 0))) 157 (0,0))]∧Is [(0,svn s),(1,.int .i64 (i:Int)),(2,.pointer (some ⟨(gs1 0).b,0,none⟩)),(4,.pointer (some ⟨(gs1 1).b,0,none⟩)),(5,.pointer (some ⟨(gs2 1).b,0,none⟩)),(6,.int .i64 (x:Int))] ρ) (5-0) ⟨0,rfl,(by omega),HM2,(Is.of ⟨kr,kr,kr,kr,kr,kr,trivial⟩)⟩ ?_;clear HM2;rintro _ _ w4 ⟨x,rfl,hx,H4,_,rfl⟩;refine zc kr<|zi [0,1] kr kr<|rp [.v] H4 kr fun gs5 w5 H5=>wX [1] ?_;clear H4;by_cases hc3:(x:Nat)<5
 ·refine rp [.E (.bool (decide ((x:Int)<5))) (.bool true) (za (decide_eq_true (by omega)))] H5 kr fun gs6 w6 H6=>wX [] ?_;clear H5;refine zd<|zg kr kr<|zh kr<|wW<|zc kr<|zj 1 kr<|rS [.v] H6 kr fun gs7 w7 H7=>?_;clear H6;refine zj 2 kr ?_;have HL4:St w.heap.size w w7 [((gs1 0).b,Obj.cells (Value.cells (svn s)) 81 (0,0)),((gs1 1).b,Obj.cells #[wZ,wZ,wZ,wZ,wZ,wZ,wZ,wZ,wZ,wZ,wZ,wZ,wZ,wZ,wZ,wZ,wZ,wZ,wZ,wZ,wZ,wZ,wZ,wZ,wZ] 81 (0,0)),((gs2 1).b,Obj.cells (Value.cells (zA 5 (cF s x 0))) 157 (0,0))]:=H7.as kr;clear H7;refine zz kr (fun mz ρ ww=> ∃(y:Nat),5-y=mz∧(y≤5)∧St w.heap.size w ww [((gs1 0).b,Obj.cells (Value.cells (svn s)) 81 (0,0)),((gs1 1).b,Obj.cells #[wZ,wZ,wZ,wZ,wZ,wZ,wZ,wZ,wZ,wZ,wZ,wZ,wZ,wZ,wZ,wZ,wZ,wZ,wZ,wZ,wZ,wZ,wZ,wZ,wZ] 81 (0,0)),((gs2 1).b,Obj.cells (Value.cells (zA 5 (cF s x y))) 157 (0,0))]∧Is [(0,svn s),(1,.int .i64 (i:Int)),(2,.pointer (some ⟨(gs1 0).b,0,none⟩)),(4,.pointer (some ⟨(gs1 1).b,0,none⟩)),(5,.pointer (some ⟨(gs2 1).b,0,none⟩)),(6,.int .i64 (x:Int)),(7,.int .i64 (y:Int)),(18,.bool true)] ρ) (5-0) ⟨0,rfl,(by omega),HL4,(Is.of ⟨kr,kr,kr,kr,kr,kr,kr,kr,trivial⟩)⟩ ?_;clear HL4;rintro _ _ w8 ⟨y,rfl,hy,H8,_,rfl⟩;refine zc kr<|zi [0,1] kr kr<|rp [.v] H8 kr fun gs9 w9 H9=>wX [1] ?_;clear H8;by_cases hc5:(y:Nat)<5
  ·refine rp [.E (.bool (decide ((y:Int)<5))) (.bool true) (za (decide_eq_true (by omega)))] H9 kr fun gs10 w10 H10=>wX [] ?_;clear H9;refine zd<|zg kr kr<|zh kr<|wW<|zc kr<|zj 3 kr<|dL [.v,.v,.o (ins:=[((.tmp 5),.pointer (some ⟨(gs2 1).b,0,none⟩)),((.tmp 26),.int .i64 (x:Int))]) (v:=.pointer (some ⟨(gs2 1).b,0+x*1,none⟩)) (fun ρ o w ho hi=>yS (kd:=.i64) (t:=157) (n:=5) (size:=1) kr (x:=(.tmp 5)) (y:=(.tmp 26)) (gs2 1).b 0 x ho hi.1 hi.2.1 (by omega) w),.ls (C:=(Value.cells (zA 5 (cF s x y)))) (off:=0+x*1) (v:=.int .u64 (BitVec.toNat (cF s x y x):Int)) 2 (vD (n:=5) (cF s x y) (k:=x) (by omega) (by omega)),.v,.v,.c (kV x y (by omega) (by omega)),.o (ins:=[((.tmp 2),.pointer (some ⟨(gs1 0).b,0,none⟩)),((.tmp 31),.int .i64 ((x%5+5*(y%5):Nat):Int))]) (v:=.pointer (some ⟨(gs1 0).b,0+(x%5+5*(y%5))*1,none⟩)) (fun ρ o w ho hi=>yS (kd:=.i64) (t:=81) (n:=25) (size:=1) kr (x:=(.tmp 2)) (y:=(.tmp 31)) (gs1 0).b 0 (x%5+5*(y%5)) ho hi.1 hi.2.1 (by omega) w),.ls (C:=(Value.cells (svn s))) (off:=0+(x%5+5*(y%5))*1) (v:=.int .u64 (BitVec.toNat (nth s (x+5*y)):Int)) 0 (kQ s (x+5*y) _ (by omega) (by omega)),.E (.int .u64 (Go.bits .xor .u64 ((BitVec.toNat (cF s x y x):Int)) ((BitVec.toNat (nth s (x+5*y)):Int)))) (.int .u64 (BitVec.toNat ((cF s x y x) ^^^ (nth s (x+5*y))):Int)) (zD (cF s x y x) (nth s (x+5*y))),.o (ins:=[((.tmp 5),.pointer (some ⟨(gs2 1).b,0,none⟩)),((.tmp 25),.int .i64 (x:Int))]) (v:=.pointer (some ⟨(gs2 1).b,0+x*1,none⟩)) (fun ρ o w ho hi=>yS (kd:=.i64) (t:=157) (n:=5) (size:=1) kr (x:=(.tmp 5)) (y:=(.tmp 25)) (gs2 1).b 0 x ho hi.1 hi.2.1 (by omega) w),.se (C:=(Value.cells (zA 5 (cF s x y)))) (C':=(Value.cells (zA 5 (cF s x (y+1))))) (off:=0+x*1) (v:=.int .u64 (BitVec.toNat ((cF s x y x) ^^^ (nth s (x+5*y))):Int)) 2 (by show _+1≤5;omega) (zc2 (k:=x) (x:=(cF s x y x) ^^^ (nth s (x+5*y))) (by omega) (by omega) (fun j hj=>zm8 s x y j))] H10 kr fun w11 H11=>?_;clear H10;refine wW<|zJ [0,1,2,4,5,6,7,18,22] fun ρ1=>?_;have HK6:=H11.keep;clear H11;refine rL [.v,.E (.int .i64 (IntKind.i64.wrap ((y:Int)+1))) (.int .i64 ((y+1:Nat):Int)) (ze (zm (a:=y) (b:=1) (by omega))),.v] HK6 kr fun gs12 w12 H12=>?_;clear HK6;have HL7:St w.heap.size w w12 [((gs1 0).b,Obj.cells (Value.cells (svn s)) 81 (0,0)),((gs1 1).b,Obj.cells #[wZ,wZ,wZ,wZ,wZ,wZ,wZ,wZ,wZ,wZ,wZ,wZ,wZ,wZ,wZ,wZ,wZ,wZ,wZ,wZ,wZ,wZ,wZ,wZ,wZ] 81 (0,0)),((gs2 1).b,Obj.cells (Value.cells (zA 5 (cF s x (y+1)))) 157 (0,0))]:=H12.as kr;clear H12;show ∃m,_∧_;exact ⟨_,(by omega),(y+1),rfl,(by omega),HL7,(Is.of ⟨kr,kr,kr,kr,kr,kr,kr,kr,trivial⟩)⟩
  ·refine rp [.E (.bool (decide ((y:Int)<5))) (.bool false) (za (decide_eq_false (by omega)))] H9 kr fun gs13 w13 H13=>wX [] ?_;clear H9;refine zd<|zf kr kr<|zw 2 kr<|wW<|rL [.v,.E (.int .i64 (IntKind.i64.wrap ((x:Int)+1))) (.int .i64 ((x+1:Nat):Int)) (ze (zm (a:=x) (b:=1) (by omega))),.v] H13 kr fun gs14 w14 H14=>?_;clear H13;have HL8:St w.heap.size w w14 [((gs1 0).b,Obj.cells (Value.cells (svn s)) 81 (0,0)),((gs1 1).b,Obj.cells #[wZ,wZ,wZ,wZ,wZ,wZ,wZ,wZ,wZ,wZ,wZ,wZ,wZ,wZ,wZ,wZ,wZ,wZ,wZ,wZ,wZ,wZ,wZ,wZ,wZ] 81 (0,0)),((gs2 1).b,Obj.cells (Value.cells (zA 5 (cF s x y))) 157 (0,0))]:=H14.as kr;clear H14;have HM9:St w.heap.size w w14 [((gs1 0).b,Obj.cells (Value.cells (svn s)) 81 (0,0)),((gs1 1).b,Obj.cells #[wZ,wZ,wZ,wZ,wZ,wZ,wZ,wZ,wZ,wZ,wZ,wZ,wZ,wZ,wZ,wZ,wZ,wZ,wZ,wZ,wZ,wZ,wZ,wZ,wZ] 81 (0,0)),((gs2 1).b,Obj.cells (Value.cells (zA 5 (cF s (x+1) 0))) 157 (0,0))]:=by have h:=HL8;rw [zm9 s x y (by omega)] at h;exact h
   show ∃m,_∧_;exact ⟨_,(by omega),(x+1),rfl,(by omega),HM9,(Is.of ⟨kr,kr,kr,kr,kr,kr,trivial⟩)⟩
 ·refine rp [.E (.bool (decide ((x:Int)<5))) (.bool false) (za (decide_eq_false (by omega)))] H5 kr fun gs15 w15 H15=>wX [] ?_;clear H5;refine zd<|zf kr kr<|zw 0 kr<|wW<|rS [.v,.a,.s 3] H15 kr fun gs16 w16 H16=>?_;clear H15;refine zc kr<|rS [.v] H16 kr fun gs17 w17 H17=>?_;clear H16;refine zj 4 kr ?_;have HL10:St w.heap.size w w17 [((gs1 0).b,Obj.cells (Value.cells (svn s)) 81 (0,0)),((gs1 1).b,Obj.cells #[wZ,wZ,wZ,wZ,wZ,wZ,wZ,wZ,wZ,wZ,wZ,wZ,wZ,wZ,wZ,wZ,wZ,wZ,wZ,wZ,wZ,wZ,wZ,wZ,wZ] 81 (0,0)),((gs2 1).b,Obj.cells (Value.cells (zA 5 (cF s x 0))) 157 (0,0)),((gs16 1).b,Obj.cells #[wZ,wZ,wZ,wZ,wZ,wZ,wZ,wZ,wZ,wZ,wZ,wZ,wZ,wZ,wZ,wZ,wZ,wZ,wZ,wZ,wZ,wZ,wZ,wZ,wZ] 81 (0,0))]:=H17.as kr;clear H17;have HM11:St w.heap.size w w17 [((gs1 0).b,Obj.cells (Value.cells (svn s)) 81 (0,0)),((gs1 1).b,Obj.cells #[wZ,wZ,wZ,wZ,wZ,wZ,wZ,wZ,wZ,wZ,wZ,wZ,wZ,wZ,wZ,wZ,wZ,wZ,wZ,wZ,wZ,wZ,wZ,wZ,wZ] 81 (0,0)),((gs2 1).b,Obj.cells (Value.cells (zA 5 (cC s))) 157 (0,0)),((gs16 1).b,Obj.cells #[wZ,wZ,wZ,wZ,wZ,wZ,wZ,wZ,wZ,wZ,wZ,wZ,wZ,wZ,wZ,wZ,wZ,wZ,wZ,wZ,wZ,wZ,wZ,wZ,wZ] 81 (0,0))]:=by have h:=HL10;rw [zna s x (by omega)] at h;exact h
  have HM12:St w.heap.size w w17 [((gs1 0).b,Obj.cells (Value.cells (svn s)) 81 (0,0)),((gs1 1).b,Obj.cells #[wZ,wZ,wZ,wZ,wZ,wZ,wZ,wZ,wZ,wZ,wZ,wZ,wZ,wZ,wZ,wZ,wZ,wZ,wZ,wZ,wZ,wZ,wZ,wZ,wZ] 81 (0,0)),((gs2 1).b,Obj.cells (Value.cells (zA 5 (cC s))) 157 (0,0)),((gs16 1).b,Obj.cells (Value.cells (zA 25 (bF s 0 0))) 81 (0,0))]:=HM11;refine zz kr (fun mz ρ ww=> ∃(u:Nat),5-u=mz∧(u≤5)∧St w.heap.size w ww [((gs1 0).b,Obj.cells (Value.cells (svn s)) 81 (0,0)),((gs1 1).b,Obj.cells #[wZ,wZ,wZ,wZ,wZ,wZ,wZ,wZ,wZ,wZ,wZ,wZ,wZ,wZ,wZ,wZ,wZ,wZ,wZ,wZ,wZ,wZ,wZ,wZ,wZ] 81 (0,0)),((gs2 1).b,Obj.cells (Value.cells (zA 5 (cC s))) 157 (0,0)),((gs16 1).b,Obj.cells (Value.cells (zA 25 (bF s u 0))) 81 (0,0))]∧Is [(0,svn s),(1,.int .i64 (i:Int)),(2,.pointer (some ⟨(gs1 0).b,0,none⟩)),(4,.pointer (some ⟨(gs1 1).b,0,none⟩)),(5,.pointer (some ⟨(gs2 1).b,0,none⟩)),(6,.int .i64 (x:Int)),(8,.pointer (some ⟨(gs16 1).b,0,none⟩)),(9,.int .i64 (u:Int)),(18,.bool false)] ρ) (5-0) ⟨0,rfl,(by omega),HM12,(Is.of ⟨kr,kr,kr,kr,kr,kr,kr,kr,kr,trivial⟩)⟩ ?_;clear HM12;rintro _ _ w18 ⟨u,rfl,hu,H18,_,rfl⟩;refine zc kr<|zi [0,1] kr kr<|rp [.v] H18 kr fun gs19 w19 H19=>wX [1] ?_;clear H18;by_cases hc13:(u:Nat)<5
  ·refine rp [.E (.bool (decide ((u:Int)<5))) (.bool true) (za (decide_eq_true (by omega)))] H19 kr fun gs20 w20 H20=>wX [] ?_;clear H19;refine zd<|zg kr kr<|zh kr<|wW<|zc kr<|zj 5 kr<|dS [.v,.E (.int .i64 (IntKind.i64.wrap ((u:Int)+4))) (.int .i64 ((u+4:Nat):Int)) (ze (zm (a:=u) (b:=4) (by omega))),.E (.int .i64 (Int.tmod ((u+4:Nat):Int) 5)) (.int .i64 (((u+4)%5:Nat):Int)) (ze (qL (u+4) 5)),.o (ins:=[((.tmp 5),.pointer (some ⟨(gs2 1).b,0,none⟩)),((.tmp 43),.int .i64 (((u+4)%5:Nat):Int))]) (v:=.pointer (some ⟨(gs2 1).b,0+((u+4)%5)*1,none⟩)) (fun ρ o w ho hi=>yS (kd:=.i64) (t:=157) (n:=5) (size:=1) kr (x:=(.tmp 5)) (y:=(.tmp 43)) (gs2 1).b 0 ((u+4)%5) ho hi.1 hi.2.1 (by omega) w),.ls (C:=(Value.cells (zA 5 (cC s)))) (off:=0+((u+4)%5)*1) (v:=.int .u64 (BitVec.toNat (cC s ((u+4)%5)):Int)) 2 (vD (n:=5) (cC s) (k:=((u+4)%5)) (by omega) (by omega)),.v,.E (.int .i64 (IntKind.i64.wrap ((u:Int)+1))) (.int .i64 ((u+1:Nat):Int)) (ze (zm (a:=u) (b:=1) (by omega))),.E (.int .i64 (Int.tmod ((u+1:Nat):Int) 5)) (.int .i64 (((u+1)%5:Nat):Int)) (ze (qL (u+1) 5)),.o (ins:=[((.tmp 5),.pointer (some ⟨(gs2 1).b,0,none⟩)),((.tmp 48),.int .i64 (((u+1)%5:Nat):Int))]) (v:=.pointer (some ⟨(gs2 1).b,0+((u+1)%5)*1,none⟩)) (fun ρ o w ho hi=>yS (kd:=.i64) (t:=157) (n:=5) (size:=1) kr (x:=(.tmp 5)) (y:=(.tmp 48)) (gs2 1).b 0 ((u+1)%5) ho hi.1 hi.2.1 (by omega) w),.ls (C:=(Value.cells (zA 5 (cC s)))) (off:=0+((u+1)%5)*1) (v:=.int .u64 (BitVec.toNat (cC s ((u+1)%5)):Int)) 2 (vD (n:=5) (cC s) (k:=((u+1)%5)) (by omega) (by omega)),.c (left_fn (cC s ((u+1)%5)) 1 (by omega) (by omega)),.E (.int .u64 (Go.bits .xor .u64 ((BitVec.toNat (cC s ((u+4)%5)):Int)) ((BitVec.toNat (rl (cC s ((u+1)%5)) 1):Int)))) (.int .u64 (BitVec.toNat (dD (cC s) u):Int)) (zD (cC s ((u+4)%5)) (rl (cC s ((u+1)%5)) 1)),.v] H20 kr fun w21 H21=>?_;clear H20;refine zJ [0,1,2,4,5,6,8,9,10,18,38] fun ρ2=>?_;have HK14:=H21.keep;clear H21;refine rS [.v] HK14 kr fun gs22 w22 H22=>?_;clear HK14;refine zj 6 kr ?_;have HL15:St w.heap.size w w22 [((gs1 0).b,Obj.cells (Value.cells (svn s)) 81 (0,0)),((gs1 1).b,Obj.cells #[wZ,wZ,wZ,wZ,wZ,wZ,wZ,wZ,wZ,wZ,wZ,wZ,wZ,wZ,wZ,wZ,wZ,wZ,wZ,wZ,wZ,wZ,wZ,wZ,wZ] 81 (0,0)),((gs2 1).b,Obj.cells (Value.cells (zA 5 (cC s))) 157 (0,0)),((gs16 1).b,Obj.cells (Value.cells (zA 25 (bF s u 0))) 81 (0,0))]:=H22.as kr;clear H22;refine zz kr (fun mz ρ ww=> ∃(v:Nat),5-v=mz∧(v≤5)∧St w.heap.size w ww [((gs1 0).b,Obj.cells (Value.cells (svn s)) 81 (0,0)),((gs1 1).b,Obj.cells #[wZ,wZ,wZ,wZ,wZ,wZ,wZ,wZ,wZ,wZ,wZ,wZ,wZ,wZ,wZ,wZ,wZ,wZ,wZ,wZ,wZ,wZ,wZ,wZ,wZ] 81 (0,0)),((gs2 1).b,Obj.cells (Value.cells (zA 5 (cC s))) 157 (0,0)),((gs16 1).b,Obj.cells (Value.cells (zA 25 (bF s u v))) 81 (0,0))]∧Is [(0,svn s),(1,.int .i64 (i:Int)),(2,.pointer (some ⟨(gs1 0).b,0,none⟩)),(4,.pointer (some ⟨(gs1 1).b,0,none⟩)),(5,.pointer (some ⟨(gs2 1).b,0,none⟩)),(6,.int .i64 (x:Int)),(8,.pointer (some ⟨(gs16 1).b,0,none⟩)),(9,.int .i64 (u:Int)),(10,.int .u64 (BitVec.toNat (dD (cC s) u):Int)),(11,.int .i64 (v:Int)),(18,.bool false),(38,.bool true)] ρ) (5-0) ⟨0,rfl,(by omega),HL15,(Is.of ⟨kr,kr,kr,kr,kr,kr,kr,kr,kr,kr,kr,kr,trivial⟩)⟩ ?_;clear HL15;rintro _ _ w23 ⟨v,rfl,hv,H23,_,rfl⟩;refine zc kr<|zi [0,1] kr kr<|rp [.v] H23 kr fun gs24 w24 H24=>wX [1] ?_;clear H23;by_cases hc16:(v:Nat)<5
   ·refine rp [.E (.bool (decide ((v:Int)<5))) (.bool true) (za (decide_eq_true (by omega)))] H24 kr fun gs25 w25 H25=>wX [] ?_;clear H24;refine zd<|zg kr kr<|zh kr<|wW<|zc kr<|zj 7 kr<|dL [.v,.v,.E (.int .i64 (IntKind.i64.wrap (2*(u:Int)))) (.int .i64 ((2*u:Nat):Int)) (ze (qB (a:=2) (b:=u) (by omega))),.v,.E (.int .i64 (IntKind.i64.wrap (3*(v:Int)))) (.int .i64 ((3*v:Nat):Int)) (ze (qB (a:=3) (b:=v) (by omega))),.E (.int .i64 (IntKind.i64.wrap (((2*u:Nat):Int)+((3*v:Nat):Int)))) (.int .i64 (((2*u)+(3*v):Nat):Int)) (ze (zm (a:=2*u) (b:=3*v) (by omega))),.c (kV v ((2*u)+(3*v)) (by omega) (by omega)),.v,.v,.c (kV u v (by omega) (by omega)),.o (ins:=[((.tmp 2),.pointer (some ⟨(gs1 0).b,0,none⟩)),((.tmp 66),.int .i64 ((u%5+5*(v%5):Nat):Int))]) (v:=.pointer (some ⟨(gs1 0).b,0+(u%5+5*(v%5))*1,none⟩)) (fun ρ o w ho hi=>yS (kd:=.i64) (t:=81) (n:=25) (size:=1) kr (x:=(.tmp 2)) (y:=(.tmp 66)) (gs1 0).b 0 (u%5+5*(v%5)) ho hi.1 hi.2.1 (by omega) w),.ls (C:=(Value.cells (svn s))) (off:=0+(u%5+5*(v%5))*1) (v:=.int .u64 (BitVec.toNat (nth s (u+5*v)):Int)) 0 (kQ s (u+5*v) _ (by omega) (by omega)),.v,.E (.int .u64 (Go.bits .xor .u64 ((BitVec.toNat (nth s (u+5*v)):Int)) ((BitVec.toNat (dD (cC s) u):Int)))) (.int .u64 (BitVec.toNat (th s (u+5*v)):Int)) ((zD (nth s (u+5*v)) (dD (cC s) u)).trans (zc1 (znk s (by omega)))),.v,.v,.c (zm4 u v (by omega) (by omega)),.c (znm s u v (by omega) (by omega)),.o (ins:=[((.tmp 8),.pointer (some ⟨(gs16 1).b,0,none⟩)),((.tmp 63),.int .i64 ((v%5+5*(((2*u)+(3*v))%5):Nat):Int))]) (v:=.pointer (some ⟨(gs16 1).b,0+(v%5+5*(((2*u)+(3*v))%5))*1,none⟩)) (fun ρ o w ho hi=>yS (kd:=.i64) (t:=81) (n:=25) (size:=1) kr (x:=(.tmp 8)) (y:=(.tmp 63)) (gs16 1).b 0 (v%5+5*(((2*u)+(3*v))%5)) ho hi.1 hi.2.1 (by omega) w),.se (C:=(Value.cells (zA 25 (bF s u v)))) (C':=(Value.cells (zA 25 (bF s u (v+1))))) (off:=0+(v%5+5*(((2*u)+(3*v))%5))*1) (v:=.int .u64 (BitVec.toNat (pI s (v%5+5*((2*u+3*v)%5))):Int)) 3 (by show _+1≤25;omega) (zc2 (k:=v%5+5*((2*u+3*v)%5)) (x:=pI s (v%5+5*((2*u+3*v)%5))) (by omega) (by omega) (fun j hj=>znd s (by omega) (by omega) hj))] H25 kr fun w26 H26=>?_;clear H25;refine wW<|zJ [0,1,2,4,5,6,8,9,10,11,18,38,54] fun ρ3=>?_;have HK17:=H26.keep;clear H26;refine rL [.v,.E (.int .i64 (IntKind.i64.wrap ((v:Int)+1))) (.int .i64 ((v+1:Nat):Int)) (ze (zm (a:=v) (b:=1) (by omega))),.v] HK17 kr fun gs27 w27 H27=>?_;clear HK17;have HL18:St w.heap.size w w27 [((gs1 0).b,Obj.cells (Value.cells (svn s)) 81 (0,0)),((gs1 1).b,Obj.cells #[wZ,wZ,wZ,wZ,wZ,wZ,wZ,wZ,wZ,wZ,wZ,wZ,wZ,wZ,wZ,wZ,wZ,wZ,wZ,wZ,wZ,wZ,wZ,wZ,wZ] 81 (0,0)),((gs2 1).b,Obj.cells (Value.cells (zA 5 (cC s))) 157 (0,0)),((gs16 1).b,Obj.cells (Value.cells (zA 25 (bF s u (v+1)))) 81 (0,0))]:=H27.as kr;clear H27;show ∃m,_∧_;exact ⟨_,(by omega),(v+1),rfl,(by omega),HL18,(Is.of ⟨kr,kr,kr,kr,kr,kr,kr,kr,kr,kr,kr,kr,trivial⟩)⟩
   ·refine rp [.E (.bool (decide ((v:Int)<5))) (.bool false) (za (decide_eq_false (by omega)))] H24 kr fun gs28 w28 H28=>wX [] ?_;clear H24;refine zd<|zf kr kr<|zw 6 kr<|wW<|rL [.v,.E (.int .i64 (IntKind.i64.wrap ((u:Int)+1))) (.int .i64 ((u+1:Nat):Int)) (ze (zm (a:=u) (b:=1) (by omega))),.v] H28 kr fun gs29 w29 H29=>?_;clear H28;have HL19:St w.heap.size w w29 [((gs1 0).b,Obj.cells (Value.cells (svn s)) 81 (0,0)),((gs1 1).b,Obj.cells #[wZ,wZ,wZ,wZ,wZ,wZ,wZ,wZ,wZ,wZ,wZ,wZ,wZ,wZ,wZ,wZ,wZ,wZ,wZ,wZ,wZ,wZ,wZ,wZ,wZ] 81 (0,0)),((gs2 1).b,Obj.cells (Value.cells (zA 5 (cC s))) 157 (0,0)),((gs16 1).b,Obj.cells (Value.cells (zA 25 (bF s u v))) 81 (0,0))]:=H29.as kr;clear H29;have HM20:St w.heap.size w w29 [((gs1 0).b,Obj.cells (Value.cells (svn s)) 81 (0,0)),((gs1 1).b,Obj.cells #[wZ,wZ,wZ,wZ,wZ,wZ,wZ,wZ,wZ,wZ,wZ,wZ,wZ,wZ,wZ,wZ,wZ,wZ,wZ,wZ,wZ,wZ,wZ,wZ,wZ] 81 (0,0)),((gs2 1).b,Obj.cells (Value.cells (zA 5 (cC s))) 157 (0,0)),((gs16 1).b,Obj.cells (Value.cells (zA 25 (bF s (u+1) 0))) 81 (0,0))]:=by have h:=HL19;rw [zne s u v (by omega)] at h;exact h
    show ∃m,_∧_;exact ⟨_,(by omega),(u+1),rfl,(by omega),HM20,(Is.of ⟨kr,kr,kr,kr,kr,kr,kr,kr,kr,trivial⟩)⟩
  ·refine rp [.E (.bool (decide ((u:Int)<5))) (.bool false) (za (decide_eq_false (by omega)))] H19 kr fun gs30 w30 H30=>wX [] ?_;clear H19;refine zd<|zf kr kr<|zw 4 kr<|wW<|rS [.v,.a,.s 4] H30 kr fun gs31 w31 H31=>?_;clear H30;refine zJ [0,1,2,4,5,6,8,9,12,18,38] fun ρ4=>?_;have HK21:=H31.keep;clear H31;refine zc kr<|rS [.v] HK21 kr fun gs32 w32 H32=>?_;clear HK21;refine zj 8 kr ?_;have HL22:St w.heap.size w w32 [((gs1 0).b,Obj.cells (Value.cells (svn s)) 81 (0,0)),((gs1 1).b,Obj.cells #[wZ,wZ,wZ,wZ,wZ,wZ,wZ,wZ,wZ,wZ,wZ,wZ,wZ,wZ,wZ,wZ,wZ,wZ,wZ,wZ,wZ,wZ,wZ,wZ,wZ] 81 (0,0)),((gs2 1).b,Obj.cells (Value.cells (zA 5 (cC s))) 157 (0,0)),((gs16 1).b,Obj.cells (Value.cells (zA 25 (bF s u 0))) 81 (0,0)),((gs31 1).b,Obj.cells #[wZ,wZ,wZ,wZ,wZ,wZ,wZ,wZ,wZ,wZ,wZ,wZ,wZ,wZ,wZ,wZ,wZ,wZ,wZ,wZ,wZ,wZ,wZ,wZ,wZ] 81 (0,0))]:=H32.as kr;clear H32;have HM23:St w.heap.size w w32 [((gs1 0).b,Obj.cells (Value.cells (svn s)) 81 (0,0)),((gs1 1).b,Obj.cells #[wZ,wZ,wZ,wZ,wZ,wZ,wZ,wZ,wZ,wZ,wZ,wZ,wZ,wZ,wZ,wZ,wZ,wZ,wZ,wZ,wZ,wZ,wZ,wZ,wZ] 81 (0,0)),((gs2 1).b,Obj.cells (Value.cells (zA 5 (cC s))) 157 (0,0)),((gs16 1).b,Obj.cells (Value.cells (zA 25 (pI s))) 81 (0,0)),((gs31 1).b,Obj.cells #[wZ,wZ,wZ,wZ,wZ,wZ,wZ,wZ,wZ,wZ,wZ,wZ,wZ,wZ,wZ,wZ,wZ,wZ,wZ,wZ,wZ,wZ,wZ,wZ,wZ] 81 (0,0))]:=by have h:=HL22;rw [znf s u (by omega)] at h;exact h
   have HM24:St w.heap.size w w32 [((gs1 0).b,Obj.cells (Value.cells (svn s)) 81 (0,0)),((gs1 1).b,Obj.cells #[wZ,wZ,wZ,wZ,wZ,wZ,wZ,wZ,wZ,wZ,wZ,wZ,wZ,wZ,wZ,wZ,wZ,wZ,wZ,wZ,wZ,wZ,wZ,wZ,wZ] 81 (0,0)),((gs2 1).b,Obj.cells (Value.cells (zA 5 (cC s))) 157 (0,0)),((gs16 1).b,Obj.cells (Value.cells (zA 25 (pI s))) 81 (0,0)),((gs31 1).b,Obj.cells (Value.cells (zA 25 (oF s 0 0))) 81 (0,0))]:=HM23;have HD25:St w.heap.size w w32 [((gs1 1).b,Obj.cells #[wZ,wZ,wZ,wZ,wZ,wZ,wZ,wZ,wZ,wZ,wZ,wZ,wZ,wZ,wZ,wZ,wZ,wZ,wZ,wZ,wZ,wZ,wZ,wZ,wZ] 81 (0,0)),((gs16 1).b,Obj.cells (Value.cells (zA 25 (pI s))) 81 (0,0)),((gs31 1).b,Obj.cells (Value.cells (zA 25 (oF s 0 0))) 81 (0,0))]:=HM24.sub (List.Sublist.cons _ (List.Sublist.cons_cons _ (List.Sublist.cons _ (List.Sublist.cons_cons _ (List.Sublist.cons_cons _ List.Sublist.slnil)))));refine zz kr (fun mz ρ ww=> ∃(m:Nat),5-m=mz∧(m≤5)∧St w.heap.size w ww [((gs1 1).b,Obj.cells #[wZ,wZ,wZ,wZ,wZ,wZ,wZ,wZ,wZ,wZ,wZ,wZ,wZ,wZ,wZ,wZ,wZ,wZ,wZ,wZ,wZ,wZ,wZ,wZ,wZ] 81 (0,0)),((gs16 1).b,Obj.cells (Value.cells (zA 25 (pI s))) 81 (0,0)),((gs31 1).b,Obj.cells (Value.cells (zA 25 (oF s m 0))) 81 (0,0))]∧Is [(0,svn s),(1,.int .i64 (i:Int)),(2,.pointer (some ⟨(gs1 0).b,0,none⟩)),(4,.pointer (some ⟨(gs1 1).b,0,none⟩)),(5,.pointer (some ⟨(gs2 1).b,0,none⟩)),(6,.int .i64 (x:Int)),(8,.pointer (some ⟨(gs16 1).b,0,none⟩)),(9,.int .i64 (u:Int)),(12,.pointer (some ⟨(gs31 1).b,0,none⟩)),(13,.int .i64 (m:Int)),(18,.bool false),(38,.bool false)] ρ) (5-0) ⟨0,rfl,(by omega),HD25,(Is.of ⟨kr,kr,kr,kr,kr,kr,kr,kr,kr,kr,kr,kr,trivial⟩)⟩ ?_;clear HD25;rintro _ _ w33 ⟨m,rfl,hm,H33,_,rfl⟩;refine zc kr<|zi [0,1] kr kr<|rp [.v] H33 kr fun gs34 w34 H34=>wX [1] ?_;clear H33;by_cases hc26:(m:Nat)<5
   ·refine rp [.E (.bool (decide ((m:Int)<5))) (.bool true) (za (decide_eq_true (by omega)))] H34 kr fun gs35 w35 H35=>wX [] ?_;clear H34;refine zd<|zg kr kr<|zh kr<|wW<|zc kr<|zj 9 kr<|rS [.v] H35 kr fun gs36 w36 H36=>?_;clear H35;refine zj 10 kr ?_;have HL27:St w.heap.size w w36 [((gs1 1).b,Obj.cells #[wZ,wZ,wZ,wZ,wZ,wZ,wZ,wZ,wZ,wZ,wZ,wZ,wZ,wZ,wZ,wZ,wZ,wZ,wZ,wZ,wZ,wZ,wZ,wZ,wZ] 81 (0,0)),((gs16 1).b,Obj.cells (Value.cells (zA 25 (pI s))) 81 (0,0)),((gs31 1).b,Obj.cells (Value.cells (zA 25 (oF s m 0))) 81 (0,0))]:=H36.as kr;clear H36;refine zz kr (fun mz ρ ww=> ∃(l:Nat),5-l=mz∧(l≤5)∧St w.heap.size w ww [((gs1 1).b,Obj.cells #[wZ,wZ,wZ,wZ,wZ,wZ,wZ,wZ,wZ,wZ,wZ,wZ,wZ,wZ,wZ,wZ,wZ,wZ,wZ,wZ,wZ,wZ,wZ,wZ,wZ] 81 (0,0)),((gs16 1).b,Obj.cells (Value.cells (zA 25 (pI s))) 81 (0,0)),((gs31 1).b,Obj.cells (Value.cells (zA 25 (oF s m l))) 81 (0,0))]∧Is [(0,svn s),(1,.int .i64 (i:Int)),(2,.pointer (some ⟨(gs1 0).b,0,none⟩)),(4,.pointer (some ⟨(gs1 1).b,0,none⟩)),(5,.pointer (some ⟨(gs2 1).b,0,none⟩)),(6,.int .i64 (x:Int)),(8,.pointer (some ⟨(gs16 1).b,0,none⟩)),(9,.int .i64 (u:Int)),(12,.pointer (some ⟨(gs31 1).b,0,none⟩)),(13,.int .i64 (m:Int)),(14,.int .i64 (l:Int)),(18,.bool false),(38,.bool false),(78,.bool true)] ρ) (5-0) ⟨0,rfl,(by omega),HL27,(Is.of ⟨kr,kr,kr,kr,kr,kr,kr,kr,kr,kr,kr,kr,kr,kr,trivial⟩)⟩ ?_;clear HL27;rintro _ _ w37 ⟨l,rfl,hl,H37,_,rfl⟩;refine zc kr<|zi [0,1] kr kr<|rp [.v] H37 kr fun gs38 w38 H38=>wX [1] ?_;clear H37;by_cases hc28:(l:Nat)<5
    ·refine rp [.E (.bool (decide ((l:Int)<5))) (.bool true) (za (decide_eq_true (by omega)))] H38 kr fun gs39 w39 H39=>wX [] ?_;clear H38;refine zd<|zg kr kr<|zh kr<|wW<|zc kr<|zj 11 kr<|rS [.v,.E (.int .i64 (IntKind.i64.wrap (((m:Nat):Int)+1))) (.int .i64 ((m+1:Nat):Int)) (ze (zm (a:=m) (b:=1) (by omega))),.v,.c (kV (m+1) l (by omega) (by omega)),.o (ins:=[((.tmp 8),.pointer (some ⟨(gs16 1).b,0,none⟩)),((.tmp 88),.int .i64 (((m+1)%5+5*(l%5):Nat):Int))]) (v:=.pointer (some ⟨(gs16 1).b,0+((m+1)%5+5*(l%5))*1,none⟩)) (fun ρ o w ho hi=>yS (kd:=.i64) (t:=81) (n:=25) (size:=1) kr (x:=(.tmp 8)) (y:=(.tmp 88)) (gs16 1).b 0 ((m+1)%5+5*(l%5)) ho hi.1 hi.2.1 (by omega) w),.ls (C:=(Value.cells (zA 25 (pI s)))) (off:=0+((m+1)%5+5*(l%5))*1) (v:=.int .u64 (BitVec.toNat (pI s ((m+1)%5+5*(l%5))):Int)) 1 (vD (n:=25) (pI s) (k:=((m+1)%5+5*(l%5))) (by omega) (by omega)),.E (.int .u64 (IntKind.u64.wrap ((0xffffffffffffffff)-((BitVec.toNat (pI s ((m+1)%5+5*(l%5))):Int))))) (.int .u64 (BitVec.toNat (~~~(pI s ((m+1)%5+5*(l%5)))):Int)) ((zif (0xffffffffffffffff:BitVec 64) (pI s ((m+1)%5+5*(l%5)))).trans (zc1 (zm6 (pI s ((m+1)%5+5*(l%5)))))),.v] H39 kr fun gs40 w40 H40=>?_;clear H39;refine dL [.v,.v,.c (kV m l (by omega) (by omega)),.v,.v,.c (kV m l (by omega) (by omega)),.o (ins:=[((.tmp 8),.pointer (some ⟨(gs16 1).b,0,none⟩)),((.tmp 97),.int .i64 ((m%5+5*(l%5):Nat):Int))]) (v:=.pointer (some ⟨(gs16 1).b,0+(m%5+5*(l%5))*1,none⟩)) (fun ρ o w ho hi=>yS (kd:=.i64) (t:=81) (n:=25) (size:=1) kr (x:=(.tmp 8)) (y:=(.tmp 97)) (gs16 1).b 0 (m%5+5*(l%5)) ho hi.1 hi.2.1 (by omega) w),.ls (C:=(Value.cells (zA 25 (pI s)))) (off:=0+(m%5+5*(l%5))*1) (v:=.int .u64 (BitVec.toNat (pI s (m+5*l)):Int)) 1 (vD (n:=25) (pI s) (k:=m+5*l) (by omega) (by omega)),.v,.v,.E (.int .i64 (IntKind.i64.wrap (((m:Nat):Int)+2))) (.int .i64 ((m+2:Nat):Int)) (ze (zm (a:=m) (b:=2) (by omega))),.v,.c (kV (m+2) l (by omega) (by omega)),.o (ins:=[((.tmp 8),.pointer (some ⟨(gs16 1).b,0,none⟩)),((.tmp 104),.int .i64 (((m+2)%5+5*(l%5):Nat):Int))]) (v:=.pointer (some ⟨(gs16 1).b,0+((m+2)%5+5*(l%5))*1,none⟩)) (fun ρ o w ho hi=>yS (kd:=.i64) (t:=81) (n:=25) (size:=1) kr (x:=(.tmp 8)) (y:=(.tmp 104)) (gs16 1).b 0 ((m+2)%5+5*(l%5)) ho hi.1 hi.2.1 (by omega) w),.ls (C:=(Value.cells (zA 25 (pI s)))) (off:=0+((m+2)%5+5*(l%5))*1) (v:=.int .u64 (BitVec.toNat (pI s ((m+2)%5+5*(l%5))):Int)) 1 (vD (n:=25) (pI s) (k:=((m+2)%5+5*(l%5))) (by omega) (by omega)),.E (.int .u64 (Go.bits .and .u64 ((BitVec.toNat (~~~(pI s ((m+1)%5+5*(l%5)))):Int)) ((BitVec.toNat (pI s ((m+2)%5+5*(l%5))):Int)))) (.int .u64 (BitVec.toNat ((~~~(pI s ((m+1)%5+5*(l%5)))) &&& (pI s ((m+2)%5+5*(l%5)))):Int)) (zic (~~~(pI s ((m+1)%5+5*(l%5)))) (pI s ((m+2)%5+5*(l%5)))),.E (.int .u64 (Go.bits .xor .u64 ((BitVec.toNat (pI s (m+5*l)):Int)) ((BitVec.toNat ((~~~(pI s ((m+1)%5+5*(l%5)))) &&& (pI s ((m+2)%5+5*(l%5)))):Int)))) (.int .u64 (BitVec.toNat (xI (pI s) (m+5*l)):Int)) ((zD (pI s (m+5*l)) ((~~~(pI s ((m+1)%5+5*(l%5)))) &&& (pI s ((m+2)%5+5*(l%5))))).trans (zc1 (znn (pI s) (by omega) (by omega)))),.o (ins:=[((.tmp 12),.pointer (some ⟨(gs31 1).b,0,none⟩)),((.tmp 94),.int .i64 ((m%5+5*(l%5):Nat):Int))]) (v:=.pointer (some ⟨(gs31 1).b,0+(m%5+5*(l%5))*1,none⟩)) (fun ρ o w ho hi=>yS (kd:=.i64) (t:=81) (n:=25) (size:=1) kr (x:=(.tmp 12)) (y:=(.tmp 94)) (gs31 1).b 0 (m%5+5*(l%5)) ho hi.1 hi.2.1 (by omega) w),.se (C:=(Value.cells (zA 25 (oF s m l)))) (C':=(Value.cells (zA 25 (oF s m (l+1))))) (off:=0+(m%5+5*(l%5))*1) (v:=.int .u64 (BitVec.toNat (xI (pI s) (m+5*l)):Int)) 2 (by show _+1≤25;omega) (zc2 (k:=m+5*l) (x:=xI (pI s) (m+5*l)) (by omega) (by omega) (fun j hj=>zng s (by omega) (by omega) hj))] H40 kr fun w41 H41=>?_;clear H40;refine wW<|zJ [0,1,2,4,5,6,8,9,12,13,14,15,18,38,78,82] fun ρ5=>?_;have HK29:=H41.keep;clear H41;refine rL [.v,.E (.int .i64 (IntKind.i64.wrap ((l:Int)+1))) (.int .i64 ((l+1:Nat):Int)) (ze (zm (a:=l) (b:=1) (by omega))),.v] HK29 kr fun gs42 w42 H42=>?_;clear HK29;have HL30:St w.heap.size w w42 [((gs1 1).b,Obj.cells #[wZ,wZ,wZ,wZ,wZ,wZ,wZ,wZ,wZ,wZ,wZ,wZ,wZ,wZ,wZ,wZ,wZ,wZ,wZ,wZ,wZ,wZ,wZ,wZ,wZ] 81 (0,0)),((gs16 1).b,Obj.cells (Value.cells (zA 25 (pI s))) 81 (0,0)),((gs31 1).b,Obj.cells (Value.cells (zA 25 (oF s m (l+1)))) 81 (0,0))]:=H42.as kr;clear H42;show ∃m,_∧_;exact ⟨_,(by omega),(l+1),rfl,(by omega),HL30,(Is.of ⟨kr,kr,kr,kr,kr,kr,kr,kr,kr,kr,kr,kr,kr,kr,trivial⟩)⟩
    ·refine rp [.E (.bool (decide ((l:Int)<5))) (.bool false) (za (decide_eq_false (by omega)))] H38 kr fun gs43 w43 H43=>wX [] ?_;clear H38;refine zd<|zf kr kr<|zw 10 kr<|wW<|rL [.v,.E (.int .i64 (IntKind.i64.wrap ((m:Int)+1))) (.int .i64 ((m+1:Nat):Int)) (ze (zm (a:=m) (b:=1) (by omega))),.v] H43 kr fun gs44 w44 H44=>?_;clear H43;have HL31:St w.heap.size w w44 [((gs1 1).b,Obj.cells #[wZ,wZ,wZ,wZ,wZ,wZ,wZ,wZ,wZ,wZ,wZ,wZ,wZ,wZ,wZ,wZ,wZ,wZ,wZ,wZ,wZ,wZ,wZ,wZ,wZ] 81 (0,0)),((gs16 1).b,Obj.cells (Value.cells (zA 25 (pI s))) 81 (0,0)),((gs31 1).b,Obj.cells (Value.cells (zA 25 (oF s m l))) 81 (0,0))]:=H44.as kr;clear H44;have HM32:St w.heap.size w w44 [((gs1 1).b,Obj.cells #[wZ,wZ,wZ,wZ,wZ,wZ,wZ,wZ,wZ,wZ,wZ,wZ,wZ,wZ,wZ,wZ,wZ,wZ,wZ,wZ,wZ,wZ,wZ,wZ,wZ] 81 (0,0)),((gs16 1).b,Obj.cells (Value.cells (zA 25 (pI s))) 81 (0,0)),((gs31 1).b,Obj.cells (Value.cells (zA 25 (oF s (m+1) 0))) 81 (0,0))]:=by have h:=HL31;rw [znh s m l (by omega)] at h;exact h
     show ∃m,_∧_;exact ⟨_,(by omega),(m+1),rfl,(by omega),HM32,(Is.of ⟨kr,kr,kr,kr,kr,kr,kr,kr,kr,kr,kr,kr,trivial⟩)⟩
   ·refine rp [.E (.bool (decide ((m:Int)<5))) (.bool false) (za (decide_eq_false (by omega)))] H34 kr fun gs45 w45 H45=>wX [] ?_;clear H34;refine zd<|zf kr kr<|zw 8 kr<|wW<|dS [.v,.l 2,.v,.c (zm7 i (by omega)),.E (.int .u64 (Go.bits .xor .u64 ((BitVec.toNat (oF s m 0 0):Int)) ((BitVec.toNat (qQ i 7):Int)))) (.int .u64 (BitVec.toNat ((oF s m 0 0) ^^^ (qQ i 7)):Int)) (zD (oF s m 0 0) (qQ i 7)),.v,.se (C:=(Value.cells (zA 25 (oF s m 0)))) (C':=(Value.cells (svn (rm s (qQ i 7))))) (off:=0) (v:=.int .u64 (BitVec.toNat ((oF s m 0 0) ^^^ (qQ i 7)):Int)) 2 (of_decide_eq_true kr) (znj s (qQ i 7) (by omega))] H45 kr fun w46 H46=>?_;clear H45;refine rS [.l 2,.s 0] H46 kr fun gs47 w47 H47=>?_;clear H46;refine zn kr<|wV ?_;refine ⟨[svn (rm s (qQ i 7))],(.agg (b:=(gs1 1).b) (Value.cells (svn (rm s (qQ i 7)))) 81 (0,0) kr (H47.get 0 kr) kr .nil),?_,H47.below⟩;rfl
theorem znp (s:List (BitVec 64))(j:Nat)(h:j<24):yE s (j+1)=rm (yE s j) (qQ j 7):=by rw [zgo s j h,←zm2 ⟨j,h⟩]
theorem znq (s:List (BitVec 64)):Fn Tryz.prog 44 #[svn s] (svn (mix s)):=by
 refine Fn.intro (c:=zl Tryz.f44) [.cell 2 81] 12 Tryz.func44 kr kr kr fun w=>?_;have H0:=St.start w;refine rS [.b,.a] H0 kr fun gs1 w1 H1=>?_;clear H0;refine zc kr<|rS [.v] H1 kr fun gs2 w2 H2=>?_;clear H1;refine zj 0 kr ?_;have HL1:St w.heap.size w w2 [((gs1 0).b,Obj.cells (Value.cells (svn s)) 81 (0,0)),((gs1 1).b,Obj.cells #[wZ,wZ,wZ,wZ,wZ,wZ,wZ,wZ,wZ,wZ,wZ,wZ,wZ,wZ,wZ,wZ,wZ,wZ,wZ,wZ,wZ,wZ,wZ,wZ,wZ] 81 (0,0))]:=H2.as kr;clear H2;have HM2:St w.heap.size w w2 [((gs1 0).b,Obj.cells (Value.cells (svn (yE s 0))) 81 (0,0)),((gs1 1).b,Obj.cells #[wZ,wZ,wZ,wZ,wZ,wZ,wZ,wZ,wZ,wZ,wZ,wZ,wZ,wZ,wZ,wZ,wZ,wZ,wZ,wZ,wZ,wZ,wZ,wZ,wZ] 81 (0,0))]:=HL1;refine zz kr (fun mz ρ ww=> ∃(j:Nat),24-j=mz∧(j≤24)∧St w.heap.size w ww [((gs1 0).b,Obj.cells (Value.cells (svn (yE s j))) 81 (0,0)),((gs1 1).b,Obj.cells #[wZ,wZ,wZ,wZ,wZ,wZ,wZ,wZ,wZ,wZ,wZ,wZ,wZ,wZ,wZ,wZ,wZ,wZ,wZ,wZ,wZ,wZ,wZ,wZ,wZ] 81 (0,0))]∧Is [(0,svn s),(1,.pointer (some ⟨(gs1 0).b,0,none⟩)),(2,.pointer (some ⟨(gs1 1).b,0,none⟩)),(3,.int .i64 (j:Int))] ρ) (24-0) ⟨0,rfl,(by omega),HM2,(Is.of ⟨kr,kr,kr,kr,trivial⟩)⟩ ?_;clear HM2;rintro _ _ w3 ⟨j,rfl,hj,H3,_,rfl⟩;refine zc kr<|zi [0,1] kr kr<|rp [.v] H3 kr fun gs4 w4 H4=>wX [1] ?_;clear H3;by_cases hc3:(j:Nat)<24
 ·refine rp [.E (.bool (decide ((j:Int)<24))) (.bool true) (za (decide_eq_true (by omega)))] H4 kr fun gs5 w5 H5=>wX [] ?_;clear H4;refine zd<|zg kr kr<|zh kr<|wW<|zc kr<|zj 1 kr<|rL [.l 0,.v,.c (zno (yE s j) j (by omega)),.s 0] H5 kr fun gs6 w6 H6=>?_;clear H5;refine wW<|rL [.v,.E (.int .i64 (IntKind.i64.wrap ((j:Int)+1))) (.int .i64 ((j+1:Nat):Int)) (ze (zm (a:=j) (b:=1) (by omega))),.v] H6 kr fun gs7 w7 H7=>?_;clear H6;have HL4:St w.heap.size w w7 [((gs1 0).b,Obj.cells (Value.cells (svn (rm (yE s j) (qQ j 7)))) 81 (0,0)),((gs1 1).b,Obj.cells #[wZ,wZ,wZ,wZ,wZ,wZ,wZ,wZ,wZ,wZ,wZ,wZ,wZ,wZ,wZ,wZ,wZ,wZ,wZ,wZ,wZ,wZ,wZ,wZ,wZ] 81 (0,0))]:=H7.as kr;clear H7;have HM5:St w.heap.size w w7 [((gs1 0).b,Obj.cells (Value.cells (svn (yE s (j+1)))) 81 (0,0)),((gs1 1).b,Obj.cells #[wZ,wZ,wZ,wZ,wZ,wZ,wZ,wZ,wZ,wZ,wZ,wZ,wZ,wZ,wZ,wZ,wZ,wZ,wZ,wZ,wZ,wZ,wZ,wZ,wZ] 81 (0,0))]:=by rw [znp s j (by omega)];exact HL4
  show ∃m,_∧_;exact ⟨_,(by omega),(j+1),rfl,(by omega),HM5,(Is.of ⟨kr,kr,kr,kr,trivial⟩)⟩
 ·refine rp [.E (.bool (decide ((j:Int)<24))) (.bool false) (za (decide_eq_false (by omega)))] H4 kr fun gs8 w8 H8=>wX [] ?_;clear H4;refine zd<|zf kr kr<|zw 0 kr<|wW<|rS [.l 0,.s 1] H8 kr fun gs9 w9 H9=>?_;clear H8;refine zn kr<|wV ?_;refine ⟨[svn (yE s j)],(.agg (b:=(gs1 1).b) (Value.cells (svn (yE s j))) 81 (0,0) kr (H9.get 1 kr) kr .nil),?_,H9.below⟩;obtain rfl:j=24:=by omega
  exact congrArg svn (zgp s)
def bt (X:List UInt8)(k:Nat):B64:=kf (X.getD k 0)
def wpx (X:List UInt8)(q:Nat):Nat→B64
 | 0=>0
 | m+1=>wpx X q m ^^^ bt X (8*q+m) <<< (8*m)
def wrk (X:List UInt8)(o:Nat):Nat→B64
 | 0=>0
 | k+1=>256*wrk X o k+bt X (o+(7-k))
theorem znr (b:UInt8):(kf b).toNat<256:=by
 unfold kf;rw [BitVec.toNat_ofNat];have:=b.toNat_lt;omega
theorem zns (x:B64)(b:B64)(hb:b.toNat<256):x <<< 8 ^^^ b=256*x+b:=by
 have hbit: ∀i,8≤i→b.getLsbD i=false:=fun i hi=>by
  unfold BitVec.getLsbD;exact Nat.testBit_lt_two_pow (Nat.lt_of_lt_of_le hb (show 256≤2^i from Nat.pow_le_pow_right (n:=2) (by omega) hi))
 have h0:x <<< 8 &&& b=0#64:=by
  apply BitVec.eq_of_getLsbD_eq;intro i hi;rw [BitVec.getLsbD_and,BitVec.getLsbD_shiftLeft,BitVec.getLsbD_zero];by_cases h:i<8
  ·simp [h]
  ·rw [hbit i (by omega)];simp
 have h1:x <<< 8 ^^^ b=x <<< 8 ||| b:=by
  apply BitVec.eq_of_getLsbD_eq;intro i hi;rw [BitVec.getLsbD_xor,BitVec.getLsbD_or,BitVec.getLsbD_shiftLeft];by_cases h:i<8
  ·simp [h]
  ·rw [hbit i (by omega)];simp
 rw [h1,←BitVec.add_eq_or_of_and_eq_zero _ _ h0,BitVec.shiftLeft_eq_mul_twoPow,BitVec.mul_comm];rfl
theorem zhh (X:List UInt8)(q:Nat): ∀m,m≤8→wrk X (8*q) 8=wpx X q m ^^^ wrk X (8*q) (8-m) <<< (8*m)
 | 0,_=>by show wrk X (8*q) 8=(0#64:B64) ^^^ (wrk X (8*q) 8) <<< (0:Nat);rw [BitVec.zero_xor,BitVec.shiftLeft_zero]
 | m+1,h=>by
  rw [zhh X q m (by omega),show 8-m=8-(m+1)+1 by omega];show _ ^^^ (256*wrk X (8*q) (8-(m+1))+bt X (8*q+(7-(8-(m+1))))) <<< (8*m)=(wpx X q m ^^^ bt X (8*q+m) <<< (8*m)) ^^^ _;rw [show 7-(8-(m+1))=m by omega,←zns _ (bt X (8*q+m)) (znr _),BitVec.shiftLeft_xor_distrib,show 8*(m+1)=8+8*m by omega,BitVec.shiftLeft_add,BitVec.xor_assoc,BitVec.xor_comm (bt X (8*q+m) <<< (8*m))]
theorem zhi (X:List UInt8)(q:Nat):wpx X q 8=wrk X (8*q) 8:=by
 rw [zhh X q 8 (by omega)];show _=_ ^^^ (0#64:B64) <<< _;rw [BitVec.zero_shiftLeft,BitVec.xor_zero]
def xw (a:List B64)(f:Nat→B64)(i:Nat):List B64:=(List.range 25).map fun j=>if j<i then nth a j ^^^ f j else nth a j
theorem kW (a:List B64)(f:Nat→B64)(i:Nat):(xw a f i).length=25:=by unfold xw;simp
theorem znt (g:Nat→B64)(j:Nat)(h:j<25):nth ((List.range 25).map g) j=g j:=by
 unfold nth;rw [List.getD_eq_getElem?_getD,List.getElem?_map];simp [h]
theorem vE (a:List B64)(f:Nat→B64)(i j:Nat)(h:j<25):nth (xw a f i) j=if j<i then nth a j ^^^ f j else nth a j:=znt _ j h
theorem uI {s t:List B64}(hs:s.length=25)(ht:t.length=25)(h: ∀j,j<25→nth s j=nth t j):s=t:=by
 apply List.ext_getElem (by rw [hs,ht]);intro i h1 h2;have:=h i (by omega);unfold nth at this;rw [List.getD_eq_getElem?_getD,List.getD_eq_getElem?_getD,List.getElem?_eq_getElem h1,List.getElem?_eq_getElem h2] at this;exact this
theorem znu {a:List B64}(f:Nat→B64)(ha:a.length=25):a=xw a f 0:=uI ha (kW _ _ _) fun j hj=>by rw [vE _ _ _ _ hj,if_neg (by omega)]
theorem znv (a:List B64)(f:Nat→B64)(i:Nat)(h:i<25):nth (xw a f i) i=nth a i:=by rw [vE _ _ _ _ h,if_neg (by omega)]
theorem znw (a:List B64)(f:Nat→B64)(i:Nat)(h:i<25):(xw a f i).set i (nth a i ^^^ f i)=xw a f (i+1):=by
 refine uI (by rw [List.length_set,kW]) (kW _ _ _) fun j hj=>?_;rw [zaN _ _ _ _ (by rw [kW];exact h)];by_cases e:j=i
 ·subst e;rw [if_pos rfl,vE _ _ _ _ hj,if_pos (by omega)]
 ·rw [if_neg e,vE _ _ _ _ hj,vE _ _ _ _ hj];by_cases e2:j<i
  ·rw [if_pos e2,if_pos (by omega)]
  ·rw [if_neg e2,if_neg (by omega)]
theorem kX (s:List B64)(n:Nat)(b:B64)(j:Nat)(hs:s.length=25)(hn:n<200):nth (lay s n b) j=if j=n / 8 then nth s (n / 8) ^^^ qj b n else nth s j:=by
 unfold lay;rw [zaN _ _ _ _ (by omega)]
theorem zhj (a:List B64)(ha:a.length=25)(X:List UInt8): ∀j,j≤135→j≤X.length→∃B,yj (a,0) (X.take j)=(B,j)∧B.length=25∧ ∀q,q<25→nth B q=nth a q ^^^ wpx X q (min 8 (j-8*q))
 | 0,_,_=>⟨a,rfl,ha,fun q _=>by rw [show min 8 (0-8*q)=0 by omega];show _=_ ^^^ (0#64:B64);rw [BitVec.xor_zero]⟩
 | j+1,h,hX=>by
  obtain ⟨B,hB,hl,hp⟩:=zhj a ha X j (by omega) (by omega);have hx:X.take (j+1)=X.take j++ [X.getD j 0]:=by
   rw [List.take_add_one,List.getElem?_eq_getElem (show j<X.length by omega),Option.toList_some,List.getD_eq_getElem?_getD,List.getElem?_eq_getElem (show j<X.length by omega)];rfl
  refine ⟨lay B j (bt X j),?_,jo _ _ hl,fun q hq=>?_⟩
  ·rw [hx,zaJ,hB];unfold qx;exact if_neg (by show ¬j+1=136;omega)
  ·rw [kX _ _ _ _ hl (by omega)];by_cases e:q=j / 8
   ·rw [if_pos e,←e,hp q hq,show min 8 (j+1-8*q)=min 8 (j-8*q)+1 by omega];show _=nth a q ^^^ (wpx X q (min 8 (j-8*q)) ^^^ bt X (8*q+min 8 (j-8*q)) <<< (8*min 8 (j-8*q)));rw [show 8*q+min 8 (j-8*q)=j by omega];unfold qj;rw [show j%8*8=8*min 8 (j-8*q) by omega,BitVec.xor_assoc]
   ·rw [if_neg e,hp q hq,show min 8 (j+1-8*q)=min 8 (j-8*q) by omega]
theorem znx (a:List B64)(ha:a.length=25)(X:List UInt8)(hX:X.length=136):yj (a,0) X=(mix (xw a (fun q=>wrk X (8*q) 8) 17),0):=by
 obtain ⟨B,hB,hl,hp⟩:=zhj a ha X 135 (by omega) (by omega);have hx:X=X.take 135++ [X.getD 135 0]:=by
  conv=>lhs;rw [←List.take_of_length_le (show X.length≤135+1 by omega)]
  rw [List.take_add_one,List.getElem?_eq_getElem (show 135<X.length by omega),Option.toList_some,List.getD_eq_getElem?_getD,List.getElem?_eq_getElem (show 135<X.length by omega)];rfl
 have h1:yj (a,0) X=(mix (lay B 135 (bt X 135)),0):=by
  rw [hx,zaJ,hB];unfold qx;rw [if_pos (by show 135+1=136;rfl)];congr 3;unfold bt;rw [←hx]
 rw [h1];congr 2;refine uI (jo _ _ hl) (kW _ _ _) fun q hq=>?_;rw [kX _ _ _ _ hl (by omega),vE _ _ _ _ hq];by_cases e:q=135 / 8
 ·rw [if_pos e,if_pos (by omega),←e,hp q hq,←zhi,show min 8 (135-8*q)=7 by omega];show _=nth a q ^^^ (wpx X q 7 ^^^ bt X (8*q+7) <<< (8*7));rw [show 8*q+7=135 by omega,BitVec.xor_assoc];rfl
 ·rw [if_neg e,hp q hq];by_cases e2:q<17
  ·rw [if_pos e2,←zhi,show min 8 (135-8*q)=8 by omega]
  ·rw [if_neg e2,show min 8 (135-8*q)=0 by omega];show _ ^^^ (0#64:B64)=_;rw [BitVec.xor_zero]
theorem zny {s:List B64}(n:Nat)(hs:s.length=25)(hn:n<200):lay s n 0=s:=uI (jo _ _ hs) hs fun j hj=>by
 rw [kX _ _ _ _ hs hn];by_cases e:j=n / 8
 ·rw [if_pos e,←e];unfold qj;show _ ^^^ (0#64:B64) <<< _=_;rw [BitVec.zero_shiftLeft,BitVec.xor_zero]
 ·rw [if_neg e]
theorem zhk: ∀(z n:Nat) {s:List B64},s.length=25→n+z≤135→yj (s,n) (List.replicate z 0)=(s,n+z)
 | 0,n,s,_,_=>rfl
 | z+1,n,s,hs,h=>by
  rw [List.replicate_succ];show yj (qx (s,n) 0) _=_;have e:qx (s,n) 0=(s,n+1):=by
   unfold qx;rw [if_neg (by show ¬n+1=136;omega)];show (lay s n (kf 0),n+1)=_;rw [show kf 0=(0:B64) from rfl,zny n hs (by omega)]
  rw [e,zhk z (n+1) hs (by omega)];congr 1;omega
theorem znz {s:List B64}(b c:B64)(hs:s.length=25):lay (lay s 135 b) 135 c=lay s 135 (b ^^^ c):=uI (jo _ _ (jo _ _ hs)) (jo _ _ hs) fun j hj=>by
 rw [kX _ _ _ _ (jo _ _ hs) (by omega),kX _ _ _ _ hs (by omega),kX _ _ _ _ hs (by omega),kX _ _ _ _ hs (by omega)];by_cases e:j=135 / 8
 ·rw [if_pos e,if_pos rfl,if_pos e];unfold qj;rw [BitVec.shiftLeft_xor_distrib,BitVec.xor_assoc]
 ·rw [if_neg e,if_neg e];rw [if_neg e]
def yR (s:ByteArray)(z:Nat):List UInt8:=tl s++(1::List.replicate z 0)
theorem znA (s:ByteArray)(z:Nat):yR s z++ [UInt8.ofBitVec (0:BitVec 8)]=yR s (z+1):=by
 unfold yR;rw [List.replicate_succ'];simp
theorem uJ (s:ByteArray)(z:Nat):(yR s z).length=ByteArray.size s+1+z:=by unfold yR;simp [zy];omega
def PK (s:ByteArray)(z:Nat):List UInt8:=(yR s z).set ((yR s z).length-1) (UInt8.ofBitVec (UInt8.toBitVec ((yR s z).getD ((yR s z).length-1) 0)+(128:BitVec 8)))
theorem znB (s:ByteArray)(z:Nat):(PK s z).length=ByteArray.size s+1+z:=by unfold PK;rw [List.length_set,uJ]
theorem znC (s:ByteArray):PK s 0=tl s++ [129]:=by
 unfold PK;rw [uJ,show ByteArray.size s+1+0-1=(tl s).length from by rw [zy];omega];unfold yR;rw [List.set_append_right _ _ (Nat.le_refl _),List.getD_eq_getElem?_getD,List.getElem?_append_right (Nat.le_refl _),Nat.sub_self];rfl
theorem znD (s:ByteArray)(z:Nat):PK s (z+1)=tl s++(1::(List.replicate z 0++ [128])):=by
 unfold PK;rw [uJ,show ByteArray.size s+1+(z+1)-1=(tl s).length+(z+1) from by rw [zy];omega];unfold yR;rw [List.set_append_right _ _ (by omega),List.getD_eq_getElem?_getD,List.getElem?_append_right (by omega),show (tl s).length+(z+1)-(tl s).length=z+1 by omega];congr 1;rw [List.replicate_succ'];have e:(1::(List.replicate z (0:UInt8)++ [0]))[z+1]?.getD 0=0:=by simp
 rw [e,List.set_cons_succ,List.set_append_right _ _ (by simp),List.length_replicate,Nat.sub_self];rfl
theorem znE (l:List UInt8): ∀ {st:List B64×Nat},st.2<136→(yj st l).2=(st.2+l.length)%136:=by
 induction l with
 | nil=>intro st h;show st.2=_;rw [List.length_nil,Nat.add_zero,Nat.mod_eq_of_lt h]
 | cons b l ih=>
  intro st h;show (yj (qx st b) l).2=_;have e:(qx st b).2=(st.2+1)%136:=by
   unfold qx;split
   ·rename_i q;show 0=_;rw [q]
   ·rename_i q;show st.2+1=_;rw [Nat.mod_eq_of_lt (by omega)]
  rw [ih (by rw [e];exact Nat.mod_lt _ (by omega)),e,List.length_cons,Nat.mod_add_mod];congr 1;omega
theorem znF (s:ByteArray)(z:Nat)(hz:z=135-ByteArray.size s%136):yj (yW,0) (PK s z)=(mix (xg (yj (yW,0) (tl s))),0):=by
 have hok:=zcw (tl s) zcx;have hn:=znE (tl s) (st:=(yW,0)) (by decide);rw [show (yW,0).2+(tl s).length=ByteArray.size s by rw [zy];simp] at hn;generalize hst:yj (yW,0) (tl s)=st at hok hn;obtain ⟨S,n⟩:=st;have hl:S.length=25:=hok.len;simp only at hn;unfold xg;cases z with
 | zero=>
  rw [znC,zaJ,hst];obtain rfl:n=135:=by omega
  unfold qx;rw [if_pos (by rfl),znz _ _ hl];rfl
 | succ z=>
  rw [znD,zaI,hst];show yj (qx (S,n) 1) (List.replicate z 0++ [128])=_;have e:qx (S,n) 1=(lay S n 1,n+1):=by
   unfold qx;rw [if_neg (by show ¬n+1=136;omega)];rfl
  rw [e,zaI,zhk z (n+1) (jo _ _ hl) (by omega),show n+1+z=135 by omega];show qx (lay S n 1,135) 128=_;unfold qx;rw [if_pos (by rfl)];rfl
def wd (s:ByteArray)(z m:Nat)(j:Nat):B64:=wrk (List.take 8 (List.drop (136*m+8*j) (PK s z))) 0 8
theorem zhl (X Y:List UInt8)(o p:Nat)(h: ∀k,k<8→X.getD (o+k) 0=Y.getD (p+k) 0): ∀k,k≤8→wrk X o k=wrk Y p k
 | 0,_=>rfl
 | k+1,hk=>by
  show 256*wrk X o k+bt X (o+(7-k))=256*wrk Y p k+bt Y (p+(7-k));rw [zhl X Y o p h k (by omega)];unfold bt;rw [h (7-k) (by omega)]
theorem znG (s:ByteArray)(z m j:Nat)(hj:j<17)(hm:136*m+136≤(PK s z).length):wrk (List.take 136 (List.drop (136*m) (PK s z))) (8*j) 8=wd s z m j:=
 zhl _ _ _ _ (fun k hk=>by
  rw [List.getD_eq_getElem?_getD,List.getD_eq_getElem?_getD,List.getElem?_take,if_pos (by omega),List.getElem?_drop,List.getElem?_take,if_pos (by omega),List.getElem?_drop]
  congr 2;omega) 8 (Nat.le_refl _)
theorem znH (a:List B64)(f g:Nat→B64)(i:Nat)(h: ∀j,j<i→f j=g j):xw a f i=xw a g i:=by
 unfold xw;refine List.map_congr_left fun j _=>?_;split
 ·rename_i hj;rw [h j hj]
 ·rfl
theorem znI (s:ByteArray)(z m:Nat)(a:List B64)(ha:a.length=25)(h:yj (yW,0) ((PK s z).take (136*m))=(a,0))(hm:136*m+136≤(PK s z).length):
 yj (yW,0) ((PK s z).take (136*(m+1)))=(mix (xw a (wd s z m) 17),0):=by
 rw [show 136*(m+1)=136*m+136 by omega,List.take_add,zaI,h,znx a ha _ (by rw [List.length_take,List.length_drop];omega)];rw [znH a _ (wd s z m) 17 (fun j hj=>znG s z m j hj hm)]
theorem znJ (s:ByteArray)(z m:Nat)(a:List B64)(hz:z=135-ByteArray.size s%136)(h:yj (yW,0) ((PK s z).take (136*m))=(a,0))(hm: ¬136*m<(PK s z).length):jm a=sumB (tl s):=by
 rw [List.take_of_length_le (by omega),znF s z hz] at h;have e:mix (xg (yj (yW,0) (tl s)))=a:=congrArg Prod.fst h;unfold sumB;rw [e]
def ja (a:List B64)(i:Nat):List UInt8:=(List.range i).map fun i=>UInt8.ofNat ((nth a (i / 8)).toNat / 2^(i%8*8))
theorem znK (a:List B64)(i:Nat):ja a (i+1)=ja a i++ [UInt8.ofNat ((nth a (i / 8)).toNat / 2^(i%8*8))]:=by unfold ja;rw [List.range_succ,List.map_append];rfl
theorem znL (a:List B64)(i:Nat):(ja a i).length=i:=by unfold ja;simp
theorem znM (x:B64)(i:Nat):UInt8.ofBitVec (BitVec.setWidth 8 ((x >>> (8*(i%8)))%(256:BitVec 64)))=UInt8.ofNat (x.toNat / 2^(i%8*8)):=by
 apply UInt8.toNat_inj.1;show BitVec.toNat (BitVec.setWidth 8 ((x >>> (8*(i%8)))%(256:BitVec 64)))=(UInt8.ofNat (x.toNat / 2^(i%8*8))).toNat;rw [BitVec.toNat_setWidth,BitVec.toNat_umod,BitVec.toNat_ushiftRight,UInt8.toNat_ofNat',Nat.shiftRight_eq_div_pow,Nat.mul_comm (i%8) 8];generalize x.toNat / 2^(8*(i%8))=X;show X%256%2^8=X%2^8;omega
theorem znN (s:ByteArray)(hs:ByteArray.size s=8):Fn Tryz.prog 43 #[.string s] (.int .u64 (BitVec.toNat (wrk (tl s) 0 8):Int)):=by
 refine Fn.intro (c:=zl Tryz.f43) [.tmp 2] 17 Tryz.func43 kr kr kr fun w=>?_;have H0:=St.start w;refine rS [.v] H0 kr fun gs1 w1 H1=>?_;clear H0;refine rS [.v] H1 kr fun gs2 w2 H2=>?_;clear H1;refine zc kr<|rS [.v] H2 kr fun gs3 w3 H3=>?_;clear H2;refine zj 0 kr ?_;have HL1:St w.heap.size w w3 []:=H3.as kr;clear H3;refine zz kr (fun mz ρ ww=> ∃(j:Nat),j=mz∧(j≤8)∧St w.heap.size w ww []∧Is [(0,.string s),(2,wZ),(3,.int .u64 (BitVec.toNat (wrk (tl s) 0 (8-j)):Int)),(4,.int .i64 ((j:Int)-1))] ρ) 8 ⟨8,rfl,(by omega),HL1,(Is.of ⟨kr,kr,kr,kr,trivial⟩)⟩ ?_;clear HL1;rintro _ _ w4 ⟨j,rfl,hj,H4,_,rfl⟩;refine zc kr<|zi [0,1] kr kr<|rp [.v] H4 kr fun gs5 w5 H5=>wX [1] ?_;clear H4;by_cases hc2:((j:Int)-1:Int)≥0
 ·refine rp [.E (.bool (decide (0≤(j:Int)-1))) (.bool true) (za (decide_eq_true (by omega)))] H5 kr fun gs6 w6 H6=>wX [] ?_;clear H5;refine zd<|zg kr kr<|zh kr<|wW<|zc kr<|zj 1 kr<|zZ 4 (v:=.int .i64 ((j:Int)-1)) (v':=.int .i64 ((j-1:Nat):Int)) (ze (show ((j:Int)-1)=((j-1:Nat):Int) from by omega)) kr<|zZ 5 (v:=.int .i64 ((j:Int)-1)) (v':=.int .i64 ((j-1:Nat):Int)) (ze (show ((j:Int)-1)=((j-1:Nat):Int) from by omega)) kr ?_;have hbl:=zbn s (j-1);refine rL [.v,.E (.int .u64 (IntKind.u64.wrap ((256)*((BitVec.toNat (wrk (tl s) 0 (8-j)):Int))))) (.int .u64 (BitVec.toNat ((256:BitVec 64)*(wrk (tl s) 0 (8-j))):Int)) (zie (256:BitVec 64) (wrk (tl s) 0 (8-j))),.v,.v,.o (ins:=[((.tmp 11),.string s),((.tmp 12),.int .i64 ((j-1:Nat):Int))]) (v:=.int .u8 ((by_ s (j-1):Nat):Int)) (fun ρ o w ho hi=>zQ (t:=9) (kd:=.i64) kr (x:=(.tmp 11)) (y:=(.tmp 12)) s (j-1) ho hi.1 hi.2.1 (by omega) w),.E (.int .u64 (IntKind.u64.wrap (((by_ s (j-1):Nat):Int)))) (.int .u64 (BitVec.toNat (BitVec.ofNat 64 (by_ s (j-1))):Int)) (zdO (by_ s (j-1))),.E (.int .u64 (IntKind.u64.wrap (((BitVec.toNat ((256:BitVec 64)*(wrk (tl s) 0 (8-j))):Int))+((BitVec.toNat (BitVec.ofNat 64 (by_ s (j-1))):Int))))) (.int .u64 (BitVec.toNat (((256:BitVec 64)*(wrk (tl s) 0 (8-j)))+(BitVec.ofNat 64 (by_ s (j-1)))):Int)) (zid ((256:BitVec 64)*(wrk (tl s) 0 (8-j))) (BitVec.ofNat 64 (by_ s (j-1)))),.v] H6 kr fun gs7 w7 H7=>?_;clear H6;refine wW<|rL [.v,.E (.int .i64 (IntKind.i64.wrap (((j-1:Nat):Int)-1))) (.int .i64 (((j-1:Nat):Int)-1)) (ze (wrap_i64 (by omega) (by omega))),.v] H7 kr fun gs8 w8 H8=>?_;clear H7;have HL3:St w.heap.size w w8 []:=H8.as kr;clear H8;have hw:wrk (tl s) 0 (8-(j-1))=((256:BitVec 64)*(wrk (tl s) 0 (8-j)))+(BitVec.ofNat 64 (by_ s (j-1))):=by rw [show 8-(j-1)=8-j+1 by omega];show 256*wrk (tl s) 0 (8-j)+bt (tl s) (0+(7-(8-j)))=_;rw [show 0+(7-(8-j))=j-1 by omega];rfl
  show ∃m,_∧_;exact ⟨_,(by omega),(j-1),rfl,(by omega),HL3,(Is.of ⟨kr,kr,(Eq.trans (b:=.int .u64 (BitVec.toNat (((256:BitVec 64)*(wrk (tl s) 0 (8-j)))+(BitVec.ofNat 64 (by_ s (j-1)))):Int)) kr (by rw [hw])),kr,trivial⟩)⟩
 ·refine rp [.E (.bool (decide (0≤(j:Int)-1))) (.bool false) (za (decide_eq_false (by omega)))] H5 kr fun gs9 w9 H9=>wX [] ?_;clear H5;refine zd<|zf kr kr<|zw 0 kr<|wW<|rS [.v,.v] H9 kr fun gs10 w10 H10=>?_;clear H9;refine zn kr<|wV ?_;refine ⟨[.int .u64 (BitVec.toNat (wrk (tl s) 0 (8-j)):Int)],(.tmp (.int .u64 (BitVec.toNat (wrk (tl s) 0 (8-j)):Int)) kr .nil),?_,H10.below⟩;obtain rfl:j=0:=by omega
  rfl
theorem sumR_fn (s:ByteArray)(hsz:ByteArray.size s≤0x5af3107a4000):Fn Tryz.prog 25 #[.string s] (.string (zb (sumB (tl s)))):=by
 refine Fn.intro (c:=zl Tryz.f25) [.tmp 2] 86 Tryz.func25 kr kr kr fun w=>?_;have H0:=St.start w;refine rS [.v] H0 kr fun gs1 w1 H1=>?_;clear H0;refine zi [0,1,2] kr kr<|rp [.v] H1 kr fun gs2 w2 H2=>wX [1,2] ?_;clear H1;refine ziD H2 (some 10) 9 80 5 (.tmp 9) s kr kr kr kr kr kr (by unfold maxLen;omega) ?_;intro b_1 cap_2 cur_3 fz_4 w3 H3 hf_5 hr_6;clear H2;refine rp [.v] H3 kr fun gs4 w4 H4=>wX [] ?_;clear H3;refine zd<|zi [0,1,2,3] kr kr<|rp [.v,.nw (fun b=>.slice (some ⟨b,0,none⟩) 1 1) #[.int .u8 1] 5] H4 kr fun gs5 w5 H5=>wX [2,3] ?_;clear H4;refine zdW H5 (some 13) 80 5 1 1 (.tmp 11) (.tmp 12) 0 1 b_1 ((gs5 1).b) (ByteArray.size s) 1 cap_2 1 cur_3 #[.int .u8 1] fz_4 5 (0,0) (cellsB (tl s)) ([.int .u8 1]) (fun b_7 cur_9 fz_10=>[(b_7,Obj.cells cur_9 5 fz_10),((gs5 1).b,Obj.cells #[.int .u8 1] 5 (0,0))]) kr kr kr kr kr hf_5 hr_6 kr kr (by rfl) (by rfl) (by intro u hu;simp at hu;first | exact hu.elim | (rcases hu with rfl | rfl | rfl | rfl<;>rfl) | (rcases hu with rfl | rfl<;>rfl) | (subst hu;rfl)) (by omega) (by unfold maxLen;omega) (fun _ _ _=>by kernel_rfl) ?_;intro b_7 cap_8 cur_9 fz_10 w6 H6 hf_11 hr_12;clear H5;have hr_12t:Rw 1 cur_9 cap_8 ((ByteArray.size s)+1) (cellsB (tl s++ [UInt8.ofBitVec (1:BitVec 8)])):=by rw [xR];exact hr_12
 have hr_12n:(ByteArray.size s)+1=List.length (tl s++ [UInt8.ofBitVec (1:BitVec 8)]):=by have h0:ByteArray.size s=List.length (tl s):=rfl;rw [List.length_append,←h0];rfl
 refine rp [.v] H6 kr fun gs7 w7 H7=>wX [] ?_;clear H6;refine zd<|zc kr<|zj 0 kr ?_;have HL1:St w.heap.size w w7 [(b_7,Obj.cells cur_9 5 fz_10),((gs5 1).b,Obj.cells #[.int .u8 1] 5 (0,0))]:=H7.as kr;clear H7;have HD2:St w.heap.size w w7 [(b_7,Obj.cells cur_9 5 fz_10)]:=HL1.sub (List.Sublist.cons_cons _ (List.Sublist.cons _ List.Sublist.slnil));refine zz kr (fun mz ρ ww=> ∃(b:Nat) (cap:Nat) (n:Nat) (cur:Array Value) (fz:Nat×Nat) (z:Nat),135-z=mz∧(n=List.length (yR s z))∧(Rw 1 cur cap n (cellsB (yR s z)))∧(Clr fz cur)∧(z≤135-ByteArray.size s%136)∧St w.heap.size w ww [(b,Obj.cells cur 5 fz)]∧Is [(0,.string s),(2,.string (⟨#[]⟩)),(3,.slice (some ⟨b,0,none⟩) n cap)] ρ) (135-0) ⟨b_7,cap_8,(ByteArray.size s)+1,cur_9,fz_10,0,rfl,hr_12n,hr_12t,hf_11,(by omega),HD2,(Is.of ⟨kr,kr,kr,trivial⟩)⟩ ?_;clear HD2;rintro _ _ w8 ⟨b,cap,n,cur,fz,z,rfl,hn,hr,hf,hz,H8,_,rfl⟩;have hlz:=uJ s z;rw [←hn] at hlz;refine zc kr<|zi [0,1,2,3] kr kr<|rp [.v,.v,.E (.int .i64 (Int.tmod (n:Int) 136)) (.int .i64 ((n%136:Nat):Int)) (ze (qL n 136))] H8 kr fun gs9 w9 H9=>wX [3] ?_;clear H8;by_cases hc3:(n%136:Nat)>0
 ·refine rp [.E (.bool (decide (0<((n%136:Nat):Int)))) (.bool true) (za (decide_eq_true (by omega)))] H9 kr fun gs10 w10 H10=>wX [] ?_;clear H9;refine zd<|zg kr kr<|zh kr<|wW<|zj 1 kr<|qm [0,1,2,3] kr<|rp [.v,.nw (fun b=>.slice (some ⟨b,0,none⟩) 1 1) #[.int .u8 0] 5] H10 kr fun gs11 w11 H11=>wX [2,3] ?_;clear H10;refine zdW H11 (some 20) 80 5 1 1 (.tmp 18) (.tmp 19) 0 1 b ((gs11 1).b) n 1 cap 1 cur #[.int .u8 0] fz 5 (0,0) (cellsB (yR s z)) ([.int .u8 0]) (fun b_13 cur_15 fz_16=>[(b_13,Obj.cells cur_15 5 fz_16),((gs11 1).b,Obj.cells #[.int .u8 0] 5 (0,0))]) kr kr kr kr kr hf hr kr kr (by rfl) (by rfl) (by intro u hu;simp at hu;first | exact hu.elim | (rcases hu with rfl | rfl | rfl | rfl<;>rfl) | (rcases hu with rfl | rfl<;>rfl) | (subst hu;rfl)) (by omega) (by unfold maxLen;omega) (fun _ _ _=>by kernel_rfl) ?_;intro b_13 cap_14 cur_15 fz_16 w12 H12 hf_17 hr_18;clear H11;have hr_18t:Rw 1 cur_15 cap_14 (n+1) (cellsB (yR s z++ [UInt8.ofBitVec (0:BitVec 8)])):=by rw [xR];exact hr_18
  have hr_18n:n+1=List.length (yR s z++ [UInt8.ofBitVec (0:BitVec 8)]):=by have h0:n=List.length (yR s z):=hn;rw [List.length_append,←h0];rfl
  refine rp [.v] H12 kr fun gs13 w13 H13=>wX [] ?_;clear H12;refine zd ?_;have HL4:St w.heap.size w w13 [(b_13,Obj.cells cur_15 5 fz_16),((gs11 1).b,Obj.cells #[.int .u8 0] 5 (0,0))]:=H13.as kr;clear H13;have hrw:=hr_18t;rw [znA] at hrw;have HD5:St w.heap.size w w13 [(b_13,Obj.cells cur_15 5 fz_16)]:=HL4.sub (List.Sublist.cons_cons _ (List.Sublist.cons _ List.Sublist.slnil));show ∃m,_∧_;exact ⟨_,(by omega),b_13,cap_14,n+1,cur_15,fz_16,(z+1),rfl,(by rw [uJ];omega),hrw,hf_17,(by omega),HD5,(Is.of ⟨kr,kr,kr,trivial⟩)⟩
 ·refine rp [.E (.bool (decide (0<((n%136:Nat):Int)))) (.bool false) (za (decide_eq_false (by omega)))] H9 kr fun gs14 w14 H14=>wX [] ?_;clear H9;refine zd<|zf kr kr<|zw 0 kr<|wW ?_;have hnp:1≤n:=by omega
  refine zi [0,1,2,3,4,5,6,7,8,9,10,11,12] kr kr<|rp [.v,.v,.v,.E (.int .i64 (IntKind.i64.wrap ((n:Int)-1))) (.int .i64 ((n-1:Nat):Int)) (ze (jh (a:=n) (b:=1) (by omega))),.v,.v,.v,.E (.int .i64 (IntKind.i64.wrap ((n:Int)-1))) (.int .i64 ((n-1:Nat):Int)) (ze (jh (a:=n) (b:=1) (by omega))),.o (ins:=[((.tmp 25),.slice (some ⟨b,0,none⟩) n cap),((.tmp 28),.int .i64 ((n-1:Nat):Int))]) (v:=.pointer (some ⟨b,0+(n-1)*1,none⟩)) (fun ρ o w ho hi=>jL (kd:=.i64) (t:=80) (e:=5) (size:=1) (bytes:=1) kr (x:=(.tmp 25)) (y:=(.tmp 28)) b 0 n cap (n-1) ho hi.1 hi.2.1 (by omega) w),.ls (C:=cur) (off:=0+(n-1)*1) (v:=.int .u8 (BitVec.toNat (UInt8.toBitVec (List.getD (yR s z) (n-1) 0)):Int)) 0 (hr.atB (by omega) hn),.E (.int .u8 (IntKind.u8.wrap (((BitVec.toNat (UInt8.toBitVec (List.getD (yR s z) (n-1) 0)):Int))+(128)))) (.int .u8 (BitVec.toNat ((UInt8.toBitVec (List.getD (yR s z) (n-1) 0))+(128:BitVec 8)):Int)) (vf (UInt8.toBitVec (List.getD (yR s z) (n-1) 0)) (128:BitVec 8)),.o (ins:=[((.tmp 21),.slice (some ⟨b,0,none⟩) n cap),((.tmp 24),.int .i64 ((n-1:Nat):Int))]) (v:=.pointer (some ⟨b,0+(n-1)*1,none⟩)) (fun ρ o w ho hi=>jL (kd:=.i64) (t:=80) (e:=5) (size:=1) (bytes:=1) kr (x:=(.tmp 21)) (y:=(.tmp 24)) b 0 n cap (n-1) ho hi.1 hi.2.1 (by omega) w)] H14 kr fun gs15 w15 H15=>wX [12] ?_;clear H14;obtain ⟨cur_20,hc_21,hs_22,hr_23⟩:=hr.putB (n-1) (UInt8.ofBitVec ((UInt8.toBitVec (List.getD (yR s z) (n-1) 0))+(128:BitVec 8))) (by omega);refine ziE H15 0 [(b,Obj.cells cur_20 5 fz)] 5 (.tmp 32) (.tmp 31) b (0+(n-1)*1) cur cur_20 5 fz (.int .u8 (BitVec.toNat ((UInt8.toBitVec (List.getD (yR s z) (n-1) 0))+(128:BitVec 8)):Int)) kr kr kr kr hf kr kr hs_22 hc_21 kr ?_;intro w16 H16 hf_19;clear H15;refine zd<|zJ [0,2,3,17] fun ρ1=>rS [.v,.a,.s 1] H16 kr fun gs17 w17 H17=>?_;clear H16;refine zc kr<|rS [.v] H17 kr fun gs18 w18 H18=>?_;clear H17;refine zj 2 kr ?_;have HL6:St w.heap.size w w18 [(b,Obj.cells cur_20 5 fz),((gs17 1).b,Obj.cells #[wZ,wZ,wZ,wZ,wZ,wZ,wZ,wZ,wZ,wZ,wZ,wZ,wZ,wZ,wZ,wZ,wZ,wZ,wZ,wZ,wZ,wZ,wZ,wZ,wZ] 81 (0,0))]:=H18.as kr;clear H18;have hz2:z=135-ByteArray.size s%136:=by omega
  have hLr:Rw 1 cur_20 cap n (cellsB (PK s z)):=by have h0:=hr_23;rw [show n-1=(yR s z).length-1 by rw [←hn]] at h0;exact h0
  have hLn:n=List.length (PK s z):=by rw [znB];omega
  have hn136:n%136=0:=by omega
  have HS7:St w.heap.size w w18 [(b,Obj.cells cur_20 5 fz),((gs17 1).b,Obj.cells (Value.cells (svn yW)) 81 (0,0))]:=by rw [show (Value.cells (svn yW))=#[wZ,wZ,wZ,wZ,wZ,wZ,wZ,wZ,wZ,wZ,wZ,wZ,wZ,wZ,wZ,wZ,wZ,wZ,wZ,wZ,wZ,wZ,wZ,wZ,wZ] from by kernel_rfl];exact HL6
  have HF8:St w.heap.size w w18 [(b,Obj.cells cur_20 5 fz),((gs17 1).b,Obj.cells (Value.cells (svn yW)) 81 (0,0))]:=HS7.front 0 kr kr;have HF9:St w.heap.size w w18 [((gs17 1).b,Obj.cells (Value.cells (svn yW)) 81 (0,0)),(b,Obj.cells cur_20 5 fz)]:=HF8.front 1 kr kr;refine zz kr (fun mz ρ ww=> ∃(a:List (BitVec 64)) (m:Nat),n-136*m=mz∧(136*m≤n)∧(a.length=25)∧(yj (yW,0) ((PK s z).take (136*m))=(a,0))∧St w.heap.size w ww [((gs17 1).b,Obj.cells (Value.cells (svn a)) 81 (0,0)),(b,Obj.cells cur_20 5 fz)]∧Is [(0,.string s),(2,.string (⟨#[]⟩)),(3,.slice (some ⟨b,0,none⟩) n cap),(4,.pointer (some ⟨(gs17 1).b,0,none⟩)),(5,.int .i64 ((136*m:Nat):Int)),(17,.bool false)] ρ) (n-0) ⟨yW,0,rfl,(by omega),(by decide),rfl,HF9,(Is.of ⟨kr,kr,kr,kr,kr,kr,trivial⟩)⟩ ?_;clear HF9;rintro _ _ w19 ⟨a,m,rfl,hm,ha,ht,H19,_,rfl⟩;refine zc kr<|zi [0,1,2,3] kr kr<|rp [.v,.v,.v] H19 kr fun gs20 w20 H20=>wX [3] ?_;clear H19;by_cases hc10:(136*m:Nat)<n
  ·refine rp [.E (.bool (decide (((136*m:Nat):Int)<(n:Int)))) (.bool true) (za (decide_eq_true (by omega)))] H20 kr fun gs21 w21 H21=>wX [] ?_;clear H20;refine zd<|zg kr kr<|zh kr<|wW<|zc kr<|zj 3 kr<|zc kr<|rS [.v] H21 kr fun gs22 w22 H22=>?_;clear H21;refine zj 4 kr ?_;have HL11:St w.heap.size w w22 [((gs17 1).b,Obj.cells (Value.cells (svn a)) 81 (0,0)),(b,Obj.cells cur_20 5 fz)]:=H22.as kr;clear H22;have HX:St w.heap.size w w22 [((gs17 1).b,Obj.cells (Value.cells (svn (xw a (wd s z m) 0))) 81 (0,0)),(b,Obj.cells cur_20 5 fz)]:=by rw [←znu (wd s z m) ha];exact HL11
   refine zz kr (fun mz ρ ww=> ∃(i:Nat),17-i=mz∧(i≤17)∧St w.heap.size w ww [((gs17 1).b,Obj.cells (Value.cells (svn (xw a (wd s z m) i))) 81 (0,0)),(b,Obj.cells cur_20 5 fz)]∧Is [(0,.string s),(2,.string (⟨#[]⟩)),(3,.slice (some ⟨b,0,none⟩) n cap),(4,.pointer (some ⟨(gs17 1).b,0,none⟩)),(5,.int .i64 ((136*m:Nat):Int)),(6,.int .i64 (i:Int)),(17,.bool false),(37,.bool true)] ρ) (17-0) ⟨0,rfl,(by omega),HX,(Is.of ⟨kr,kr,kr,kr,kr,kr,kr,kr,trivial⟩)⟩ ?_;clear HX;rintro _ _ w23 ⟨i,rfl,hi,H23,_,rfl⟩;refine zc kr<|zi [0,1] kr kr<|rp [.v] H23 kr fun gs24 w24 H24=>wX [1] ?_;clear H23;by_cases hc12:(i:Nat)<17
   ·refine rp [.E (.bool (decide ((i:Int)<17))) (.bool true) (za (decide_eq_true (by omega)))] H24 kr fun gs25 w25 H25=>wX [] ?_;clear H24;refine zd<|zg kr kr<|zh kr<|wW<|zc kr<|zj 5 kr ?_;have HL13:St w.heap.size w w25 [((gs17 1).b,Obj.cells (Value.cells (svn (xw a (wd s z m) i))) 81 (0,0)),(b,Obj.cells cur_20 5 fz)]:=H25.as kr;clear H25;refine D2.g_draw0 [0,1,2,3,4,5,6,7,8,9,10,11,12,13,14,15,16,17,18,19] [((some 44),fun _=>.int .i64 (i:Int)),((some 45),fun _=>.int .i64 (i:Int)),((some 46),fun _=>.pointer (some ⟨(gs17 1).b,0+i*1,none⟩)),((some 47),fun _=>.int .u64 (BitVec.toNat (nth a i):Int)),((some 48),fun _=>.slice (some ⟨b,0,none⟩) n cap),((some 49),fun _=>.int .i64 ((136*m:Nat):Int)),((some 50),fun _=>.int .i64 (i:Int)),((some 51),fun _=>.int .i64 ((8*i:Nat):Int)),((some 52),fun _=>.int .i64 (((136*m)+(8*i):Nat):Int)),((some 53),fun _=>.int .i64 ((136*m:Nat):Int)),((some 54),fun _=>.int .i64 (i:Int)),((some 55),fun _=>.int .i64 ((8*i:Nat):Int)),((some 56),fun _=>.int .i64 (((136*m)+(8*i):Nat):Int)),((some 57),fun _=>.int .i64 ((((136*m)+(8*i))+8:Nat):Int)),((some 58),fun _=>.slice (some ⟨b,136*m+8*i,none⟩) 8 (cap-((136*m)+(8*i)))),((some 59),fun _=>.string (zb (List.take 8 (List.drop (136*m+8*i) (PK s z))))),((some 60),fun _=>.int .u64 (BitVec.toNat (wrk (List.take 8 (List.drop (136*m+8*i) (PK s z))) 0 8):Int)),((some 61),fun _=>.int .u64 (BitVec.toNat ((nth a i) ^^^ (wrk (List.take 8 (List.drop (136*m+8*i) (PK s z))) 0 8)):Int)),((some 62),fun _=>.pointer (some ⟨(gs17 1).b,0+i*1,none⟩)),(none,fun _=>undef)] (D2.Pre w.heap.size w (fun L g=>[(true,(bif L 19 then ((gs17 1).b,Obj.cells (Value.cells (svn (xw a (wd s z m) (i+1)))) 81 (0,0)) else ((gs17 1).b,Obj.cells (Value.cells (svn (xw a (wd s z m) i))) 81 (0,0)))),(true,(b,Obj.cells cur_20 5 fz))]) (fun L g=>True)) kr kr kr ⟨D2.StE.of HL13.drew _ kr,trivial⟩ ⟨?_,?_,?_,?_,?_,?_,?_,?_,?_,?_,?_,?_,?_,?_,?_,?_,?_,?_,?_,?_,trivial⟩ ?_
    ·exact D2.gv_val (fun _ _ _ h=>h) (fun g w=>by kernel_rfl)
    ·exact D2.gv_val (fun _ _ _ h=>h) (fun g w=>by kernel_rfl)
    ·exact D2.gv_op (fun _ _ _ h=>h) _ (fun g=>by kernel_rfl) (fun g=>(fun o w ho=>yS (kd:=.i64) (t:=81) (n:=25) (size:=1) kr (x:=(.tmp 4)) (y:=(.tmp 45)) (gs17 1).b 0 i ho kr kr (by omega) w))
    ·exact D2.gv_load1 28 (.tmp 46) 0 (fun g=>(gs17 1).b) (fun g=>0+i*1) (fun g=>(Value.cells (svn (xw a (wd s z m) i)))) 81 (0,0) (fun _ _ _ h=>h) (fun g=>by kernel_rfl) (fun g=>by kernel_rfl) (fun L g hN=>(by have hL19:L 19=false:=(hN.post 19 kr);exact D2.ent_get' (p:=true) (e:=(bif L 19 then ((gs17 1).b,Obj.cells (Value.cells (svn (xw a (wd s z m) (i+1)))) 81 (0,0)) else ((gs17 1).b,Obj.cells (Value.cells (svn (xw a (wd s z m) i))) 81 (0,0)))) kr (by rfl) (by simp only [hL19,cond_true,cond_false]<;>rfl))) kr (fun L g hN hF=>by exact ((show nth (xw a (wd s z m) i) i=nth a i from znv _ _ _ (by omega))▸kQ (xw a (wd s z m) i) i _ (by omega) (by omega)))
    ·exact D2.gv_val (fun _ _ _ h=>h) (fun g w=>by kernel_rfl)
    ·exact D2.gv_val (fun _ _ _ h=>h) (fun g w=>by kernel_rfl)
    ·exact D2.gv_val (fun _ _ _ h=>h) (fun g w=>by kernel_rfl)
    ·exact D2.gv_valE (fun _ _ _ h=>h) (V':=.int .i64 (IntKind.i64.wrap (8*(i:Int)))) (fun g w=>by kernel_rfl) (ze (qB (a:=8) (b:=i) (by omega)))
    ·exact D2.gv_valE (fun _ _ _ h=>h) (V':=.int .i64 (IntKind.i64.wrap (((136*m:Nat):Int)+((8*i:Nat):Int)))) (fun g w=>by kernel_rfl) (ze (zm (a:=136*m) (b:=8*i) (by omega)))
    ·exact D2.gv_val (fun _ _ _ h=>h) (fun g w=>by kernel_rfl)
    ·exact D2.gv_val (fun _ _ _ h=>h) (fun g w=>by kernel_rfl)
    ·exact D2.gv_valE (fun _ _ _ h=>h) (V':=.int .i64 (IntKind.i64.wrap (8*(i:Int)))) (fun g w=>by kernel_rfl) (ze (qB (a:=8) (b:=i) (by omega)))
    ·exact D2.gv_valE (fun _ _ _ h=>h) (V':=.int .i64 (IntKind.i64.wrap (((136*m:Nat):Int)+((8*i:Nat):Int)))) (fun g w=>by kernel_rfl) (ze (zm (a:=136*m) (b:=8*i) (by omega)))
    ·exact D2.gv_valE (fun _ _ _ h=>h) (V':=.int .i64 (IntKind.i64.wrap ((((136*m)+(8*i):Nat):Int)+8))) (fun g w=>by kernel_rfl) (ze (zm (a:=(136*m)+(8*i)) (b:=8) (by omega)))
    ·exact D2.gv_op (fun _ _ _ h=>h) _ (fun g=>by kernel_rfl) (fun g=>(fun o w ho=>ziB (kd:=.i64) (kz:=.i64) (t:=80) (e:=5) (size:=1) (bytes:=1) kr (x:=(.tmp 48)) (y:=(.tmp 57)) (z:=(.tmp 52)) b n cap ((136*m)+(8*i)) (((136*m)+(8*i))+8) ho kr kr kr (by have:=hLr.le;omega) (by omega) (by have:=hLr.le;omega) (136*m+8*i) (8) (by omega) (by omega) w))
    ·exact D2.gv_bytesCut 1 80 9 5 (.tmp 58) (fun g=>b) (136*m+8*i) 8 (cap-((136*m)+(8*i))) cap n cur_20 5 fz (PK s z) (fun _ _ _ h=>h) (fun g=>by kernel_rfl) kr kr kr (fun g=>by kernel_rfl) (fun L g hN=>kr) hLr (by omega)
    ·exact D2.gv_call 43 #[.string (zb (List.take 8 (List.drop (136*m+8*i) (PK s z))))] (fun _ _ _ h=>h) (znN (zb (List.take 8 (List.drop (136*m+8*i) (PK s z)))) (show ByteArray.size (zb (List.take 8 (List.drop (136*m+8*i) (PK s z))))=8 by rw [zO,List.length_take,List.length_drop];omega)) (fun g w=>by kernel_rfl)
    ·exact D2.gv_valE (fun _ _ _ h=>h) (V':=.int .u64 (Go.bits .xor .u64 ((BitVec.toNat (nth a i):Int)) ((BitVec.toNat (wrk (List.take 8 (List.drop (136*m+8*i) (PK s z))) 0 8):Int)))) (fun g w=>by kernel_rfl) (zD (nth a i) (wrk (List.take 8 (List.drop (136*m+8*i) (PK s z))) 0 8))
    ·exact D2.gv_op (fun _ _ _ h=>h) _ (fun g=>by kernel_rfl) (fun g=>(fun o w ho=>yS (kd:=.i64) (t:=81) (n:=25) (size:=1) kr (x:=(.tmp 4)) (y:=(.tmp 44)) (gs17 1).b 0 i ho kr kr (by omega) w))
    ·exact D2.gv_store 0 28 (.tmp 62) (.tmp 61) (fun g=>(gs17 1).b) (fun g=>0+i*1) (Value.cells (svn (xw a (wd s z m) i))) (Value.cells (svn (xw a (wd s z m) (i+1)))) 81 (.int .u64 (BitVec.toNat ((nth a i) ^^^ (wrk (List.take 8 (List.drop (136*m+8*i) (PK s z))) 0 8)):Int)) (fun g=>by kernel_rfl) (fun g=>by kernel_rfl) (fun g=>by kernel_rfl) kr kr (fun g=>(by show _+1≤25;omega)) (fun g=>((znw a (wd s z m) i (by omega))▸zaO (xw a (wd s z m) i) i _ ((nth a i) ^^^ (wrk (List.take 8 (List.drop (136*m+8*i) (PK s z))) 0 8)) (kW _ _ _) (by omega) (by omega))) (fun L g hN=>⟨(by have hL19:L 19=false:=hN.1;exact D2.ent_get' (p:=true) (e:=(bif L 19 then ((gs17 1).b,Obj.cells (Value.cells (svn (xw a (wd s z m) (i+1)))) 81 (0,0)) else ((gs17 1).b,Obj.cells (Value.cells (svn (xw a (wd s z m) i))) 81 (0,0)))) kr (by rfl) (by simp only [hL19,cond_true,cond_false]<;>rfl)),kr⟩) (fun L g hN hF=>hF)
    intro L0 G26 w26 hall HL;clear HL13;have H26:St w.heap.size w w26 [((gs17 1).b,Obj.cells (Value.cells (svn (xw a (wd s z m) (i+1)))) 81 (0,0)),(b,Obj.cells cur_20 5 fz)]:=by have e19:=hall 19 (Nat.le_of_ble_eq_true kr);have hS:=D2.StE.st HL.1;simp only [e19,cond_true,D2.pres] at hS;exact hS
    clear HL hall;refine wW<|zJ [0,2,3,4,5,6,17,37,41] fun ρ2=>rL [.v,.E (.int .i64 (IntKind.i64.wrap ((i:Int)+1))) (.int .i64 ((i+1:Nat):Int)) (ze (zm (a:=i) (b:=1) (by omega))),.v] H26 kr fun gs27 w27 H27=>?_;clear H26;have HL14:St w.heap.size w w27 [((gs17 1).b,Obj.cells (Value.cells (svn (xw a (wd s z m) (i+1)))) 81 (0,0)),(b,Obj.cells cur_20 5 fz)]:=H27.as kr;clear H27;show ∃m,_∧_;exact ⟨_,(by omega),(i+1),rfl,(by omega),HL14,(Is.of ⟨kr,kr,kr,kr,kr,kr,kr,kr,trivial⟩)⟩
   ·refine rp [.E (.bool (decide ((i:Int)<17))) (.bool false) (za (decide_eq_false (by omega)))] H24 kr fun gs28 w28 H28=>wX [] ?_;clear H24;refine zd<|zf kr kr<|zw 4 kr<|wW<|rL [.l 0,.c (znq (xw a (wd s z m) i)),.s 0] H28 kr fun gs29 w29 H29=>?_;clear H28;refine wW<|rL [.v,.E (.int .i64 (IntKind.i64.wrap (((136*m:Nat):Int)+136))) (.int .i64 (((136*m)+136:Nat):Int)) (ze (zm (a:=136*m) (b:=136) (by omega))),.v] H29 kr fun gs30 w30 H30=>?_;clear H29;have HL15:St w.heap.size w w30 [((gs17 1).b,Obj.cells (Value.cells (svn (mix (xw a (wd s z m) i)))) 81 (0,0)),(b,Obj.cells cur_20 5 fz)]:=H30.as kr;clear H30;have hw5:(.int .i64 (((136*m)+136:Nat):Int):Value)=.int .i64 ((136*(m+1):Nat):Int):=(ze (by omega))
    obtain rfl:i=17:=by omega
    show ∃m,_∧_;exact ⟨_,(by omega),(mix (xw a (wd s z m) 17)),(m+1),rfl,(by omega),(zcv (kW _ _ _)),(znI s z m a ha ht (by omega)),HL15,(Is.of ⟨kr,kr,kr,kr,(Eq.trans (b:=.int .i64 (((136*m)+136:Nat):Int)) kr hw5),kr,trivial⟩)⟩
  ·refine rp [.E (.bool (decide (((136*m:Nat):Int)<(n:Int)))) (.bool false) (za (decide_eq_false (by omega)))] H20 kr fun gs31 w31 H31=>wX [] ?_;clear H20;refine zd<|zf kr kr<|zw 2 kr<|wW<|rS [.nw (fun b=>.slice (some ⟨b,0,none⟩) 0 0) #[] 5,.v] H31 kr fun gs32 w32 H32=>?_;clear H31;refine zc kr<|rS [.v] H32 kr fun gs33 w33 H33=>?_;clear H32;refine zj 6 kr ?_;have HL16:St w.heap.size w w33 [((gs17 1).b,Obj.cells (Value.cells (svn a)) 81 (0,0)),(b,Obj.cells cur_20 5 fz),((gs32 0).b,Obj.cells #[] 5 (0,0))]:=H33.as kr;clear H33;have HD17:St w.heap.size w w33 [((gs17 1).b,Obj.cells (Value.cells (svn a)) 81 (0,0)),((gs32 0).b,Obj.cells #[] 5 (0,0))]:=HL16.sub (List.Sublist.cons_cons _ (List.Sublist.cons _ (List.Sublist.cons_cons _ List.Sublist.slnil)));have HF18:St w.heap.size w w33 [((gs17 1).b,Obj.cells (Value.cells (svn a)) 81 (0,0)),((gs32 0).b,Obj.cells #[] 5 (0,0))]:=HD17.front 0 kr kr;have HF19:St w.heap.size w w33 [((gs32 0).b,Obj.cells #[] 5 (0,0)),((gs17 1).b,Obj.cells (Value.cells (svn a)) 81 (0,0))]:=HF18.front 1 kr kr;refine zz kr (fun mz ρ ww=> ∃(bo:Nat) (capo:Nat) (no:Nat) (curo:Array Value) (i:Nat),32-i=mz∧(no=i)∧(Rw 1 curo capo no (cellsB (ja a i)))∧(i≤32)∧St w.heap.size w ww [(bo,Obj.cells curo 5 (0,0)),((gs17 1).b,Obj.cells (Value.cells (svn a)) 81 (0,0))]∧Is [(0,.string s),(2,.string (⟨#[]⟩)),(3,.slice (some ⟨b,0,none⟩) n cap),(4,.pointer (some ⟨(gs17 1).b,0,none⟩)),(5,.int .i64 ((136*m:Nat):Int)),(7,.slice (some ⟨bo,0,none⟩) no capo),(8,.int .i64 (i:Int)),(17,.bool false),(37,.bool false)] ρ) (32-0) ⟨(gs32 0).b,0,0,#[],0,rfl,rfl,(Rw.lit #[] 0 rfl (by unfold maxLen;omega)),(by omega),HF19,(Is.of ⟨kr,kr,kr,kr,kr,kr,kr,kr,kr,trivial⟩)⟩ ?_;clear HF19;rintro _ _ w34 ⟨bo,capo,no,curo,i,rfl,hno,hro,hi,H34,_,rfl⟩;refine zc kr<|zi [0,1] kr kr<|rp [.v] H34 kr fun gs35 w35 H35=>wX [1] ?_;clear H34;by_cases hc20:(i:Nat)<32
   ·refine rp [.E (.bool (decide ((i:Int)<32))) (.bool true) (za (decide_eq_true (by omega)))] H35 kr fun gs36 w36 H36=>wX [] ?_;clear H35;refine zd<|zg kr kr<|zh kr<|wW<|zc kr<|zj 7 kr<|qm [0,1,2,3,4,5,6,7,8,9,10,11,12,13,14] kr<|rp [.v,.v,.E (.int .i64 (IntKind.i64.wrap ((i:Int).tdiv 8))) (.int .i64 ((i / 8:Nat):Int)) (ze (vd (a:=i) (b:=8) (by omega))),.o (ins:=[((.tmp 4),.pointer (some ⟨(gs17 1).b,0,none⟩)),((.tmp 72),.int .i64 ((i / 8:Nat):Int))]) (v:=.pointer (some ⟨(gs17 1).b,0+(i / 8)*1,none⟩)) (fun ρ o w ho hi=>yS (kd:=.i64) (t:=81) (n:=25) (size:=1) kr (x:=(.tmp 4)) (y:=(.tmp 72)) (gs17 1).b 0 (i / 8) ho hi.1 hi.2.1 (by omega) w),.ls (C:=(Value.cells (svn a))) (off:=0+(i / 8)*1) (v:=.int .u64 (BitVec.toNat (nth a (i / 8)):Int)) 1 (kQ a (i / 8) _ (by omega) (by omega)),.v,.E (.int .i64 (Int.tmod (i:Int) 8)) (.int .i64 ((i%8:Nat):Int)) (ze (qL i 8)),.E (.int .i64 (IntKind.i64.wrap (8*((i%8:Nat):Int)))) (.int .i64 ((8*(i%8):Nat):Int)) (ze (qB (a:=8) (b:=i%8) (by omega))),.E (.int .u64 (IntKind.u64.wrap (((8*(i%8):Nat):Int)))) (.int .u64 ((8*(i%8):Nat):Int)) (ze (ko (a:=8*(i%8)) (by omega))),.E (.int .u64 (Int.fdiv ((BitVec.toNat (nth a (i / 8)):Int)) (2^(min (8*(i%8)) 64)))) (.int .u64 (BitVec.toNat ((nth a (i / 8)) >>> (8*(i%8))):Int)) (zaa (nth a (i / 8)) (8*(i%8))),.E (.int .u64 (Int.tmod ((BitVec.toNat ((nth a (i / 8)) >>> (8*(i%8))):Int)) (256))) (.int .u64 (BitVec.toNat (((nth a (i / 8)) >>> (8*(i%8)))%(256:BitVec 64)):Int)) (zig ((nth a (i / 8)) >>> (8*(i%8))) (256:BitVec 64)),.E (.int .u8 (IntKind.u8.wrap ((BitVec.toNat (((nth a (i / 8)) >>> (8*(i%8)))%(256:BitVec 64)):Int)))) (.int .u8 (BitVec.toNat (BitVec.setWidth 8 (((nth a (i / 8)) >>> (8*(i%8)))%(256:BitVec 64))):Int)) (zdP (((nth a (i / 8)) >>> (8*(i%8)))%(256:BitVec 64))),.nw (fun b=>.slice (some ⟨b,0,none⟩) 1 1) #[.int .u8 (BitVec.toNat (BitVec.setWidth 8 (((nth a (i / 8)) >>> (8*(i%8)))%(256:BitVec 64))):Int)] 5] H36 kr fun gs37 w37 H37=>wX [13,14] ?_;clear H36;refine za4 H37 (some 83) 80 5 1 1 (.tmp 70) (.tmp 82) 0 2 bo ((gs37 12).b) no 1 capo 1 curo #[.int .u8 (BitVec.toNat (BitVec.setWidth 8 (((nth a (i / 8)) >>> (8*(i%8)))%(256:BitVec 64))):Int)] 5 (0,0) (cellsB (ja a i)) ([.int .u8 (BitVec.toNat (BitVec.setWidth 8 (((nth a (i / 8)) >>> (8*(i%8)))%(256:BitVec 64))):Int)]) (fun b_24 cur_26=>[(b_24,Obj.cells cur_26 5 (0,0)),((gs17 1).b,Obj.cells (Value.cells (svn a)) 81 (0,0)),((gs37 12).b,Obj.cells #[.int .u8 (BitVec.toNat (BitVec.setWidth 8 (((nth a (i / 8)) >>> (8*(i%8)))%(256:BitVec 64))):Int)] 5 (0,0))]) kr kr kr kr kr hro kr kr (by rfl) (by rfl) (by intro u hu;simp at hu;first | exact hu.elim | (rcases hu with rfl | rfl | rfl | rfl<;>rfl) | (rcases hu with rfl | rfl<;>rfl) | (subst hu;rfl)) (by omega) (by unfold maxLen;omega) (fun _ _=>by kernel_rfl) ?_;intro b_24 cap_25 cur_26 w38 H38 hr_27;clear H37;have hr_27t:Rw 1 cur_26 cap_25 (no+1) (cellsB (ja a i++ [UInt8.ofBitVec (BitVec.setWidth 8 (((nth a (i / 8)) >>> (8*(i%8)))%(256:BitVec 64)))])):=by rw [xR];exact hr_27
    have hr_27n:no+1=List.length (ja a i++ [UInt8.ofBitVec (BitVec.setWidth 8 (((nth a (i / 8)) >>> (8*(i%8)))%(256:BitVec 64)))]):=by have h0:no=List.length (ja a i):=(by rw [znL];exact hno);rw [List.length_append,←h0];rfl
    refine rp [.v] H38 kr fun gs39 w39 H39=>wX [] ?_;clear H38;refine zd<|wW<|zJ [0,2,3,4,5,7,8,17,37,67] fun ρ3=>?_;have HK21:=H39.keep;clear H39;refine rL [.v,.E (.int .i64 (IntKind.i64.wrap ((i:Int)+1))) (.int .i64 ((i+1:Nat):Int)) (ze (zm (a:=i) (b:=1) (by omega))),.v] HK21 kr fun gs40 w40 H40=>?_;clear HK21;have HL22:St w.heap.size w w40 [(b_24,Obj.cells cur_26 5 (0,0)),((gs17 1).b,Obj.cells (Value.cells (svn a)) 81 (0,0)),((gs37 12).b,Obj.cells #[.int .u8 (BitVec.toNat (BitVec.setWidth 8 (((nth a (i / 8)) >>> (8*(i%8)))%(256:BitVec 64))):Int)] 5 (0,0))]:=H40.as kr;clear H40;have hrw:Rw 1 cur_26 cap_25 (no+1) (cellsB (ja a (i+1))):=by rw [znK];have h0:=hr_27t;rw [znM] at h0;exact h0
    have HD23:St w.heap.size w w40 [(b_24,Obj.cells cur_26 5 (0,0)),((gs17 1).b,Obj.cells (Value.cells (svn a)) 81 (0,0))]:=HL22.sub (List.Sublist.cons_cons _ (List.Sublist.cons_cons _ (List.Sublist.cons _ List.Sublist.slnil)));show ∃m,_∧_;exact ⟨_,(by omega),b_24,cap_25,no+1,cur_26,(i+1),rfl,(by omega),hrw,(by omega),HD23,(Is.of ⟨kr,kr,kr,kr,kr,kr,kr,kr,kr,trivial⟩)⟩
   ·refine rp [.E (.bool (decide ((i:Int)<32))) (.bool false) (za (decide_eq_false (by omega)))] H35 kr fun gs41 w41 H41=>wX [] ?_;clear H35;refine zd<|zf kr kr<|zw 6 kr<|wW<|zi [0,1,2] kr kr<|rp [.v] H41 kr fun gs42 w42 H42=>wX [1,2] ?_;clear H41;refine kw H42 (some 85) 80 9 5 (.tmp 84) 0 bo no capo curo 5 (0,0) (ja a i) kr kr kr kr kr kr kr hro<|rp [.v] H42 kr fun gs43 w43 H43=>wX [] ?_;clear H42;refine zd<|zn kr<|wV ?_;refine ⟨[.string (zb (ja a i))],(.tmp (.string (zb (ja a i))) kr .nil),?_,H43.below⟩;obtain rfl:i=32:=by omega
    exact congrArg (fun x=>Value.string (zb x)) (znJ s z m a hz2 ht (by omega))
end Go.Proofs.YtbbdbdndedeokaaGreatDoor.Ke
namespace Go.Proofs.YtbbdbdndedeokaaGreatDoor
open Go Go.RowKit
open D2 (Gh)
set_option linter.unusedVariables false
abbrev Xg (M:I3)(y:Gh):X3:=⟨M.l,M.s,pG y,M.k.len,y.cap,M.k⟩
def jb (M:I3)(v:Value)(T:List (Nat×Obj)):Prop:=∃y:Gh,v=itV (Xg M y)∧yh T (pG y) M.k.len M.k
theorem zc3 {M:I3}{L:List X3}(hM:M=lI (L.map X3.i)){b c:Nat}{cur:Array Value}{T:List (Nat×Obj)}(hr:Rw 3 cur c L.length (cellsF iS L))(hm:(b,Obj.cells cur 73 (0,0))∈T)(hA:AllIn T L)(hl:L.length≤1000):
 jb M (.agg #[.bool true,.string emB,.slice (some ⟨b,0,none⟩) L.length c]) T:=by
 have hk:M.k=toFo L:=by rw [hM,zcQ];rfl
 have hn:M.k.len=L.length:=by rw [hk,ug]
 refine ⟨{ b:=b,cap:=c,l:=[1] },?_,?_⟩
 ·show _=Value.agg #[.bool M.l,.string M.s,.slice (some ⟨b,0,none⟩) M.k.len c];rw [hn,hM];rfl
 ·show yh T (some ⟨b,0,none⟩) M.k.len M.k;rw [hn,hk];rw [zal] at hr;exact hr.slIn hm hA (by omega)
theorem zhm (s:ByteArray):jb (bI s) (itV (b3 s)) []:=⟨{ cap:=0 },rfl,rfl,Nat.zero_le _,.inl rfl⟩
theorem zhn {x:I3}(h:Okm x):ByteArray.size x.s+wtF x.k≤0x4000000000000000:=by
 have h1:=jY h.ok.2;have h3:=h.sz;have h4:=zaP h.ok.2;have h5:szF x.k+x.s.size≤(encI x).length:=by
  unfold encI wr1;rw [List.length_append,List.length_append,zy,h1];omega
 have h6:=zag h.ok.2;omega
theorem zc4 {x:I3}(h:Okm x)(y:Gh):FnP Tryz.prog 45 #[itV (Xg x y)] (fun w=>zq w.heap.size w (pG y) x.k.len x.k) (.string (zb (encI x))):=
 zhe x.l x.s (pG y) x.k.len y.cap x.k (by
  have h1:=h.sz;have h2:=zhn h;have h5:x.s.size≤(encI x).length:=by
   unfold encI wr1;rw [List.length_append,List.length_append,zy];omega
  omega) h.ok.1 h.ok.2 (zhn h)
def ItC (f:Nat):Prop:= ∀l:List Ent,l≠[]→Okl f l→okS l→l.length≤1000000→ ∀p n c,FnT Tryz.prog 46 #[.slice p n c] (fun w=>yH w p n (l.map pE)) (jb (yM f l))
def ToC (f:Nat):Prop:= ∀l:List Ent,Okl f l→okS l→l.length≤1000000→ ∀p n c,FnT Tryz.prog 82 #[.slice p n c] (fun w=>yH w p n (l.map pE)) (jb (qy f l))
theorem znO (f:Nat)(hI:ItC f):ToC f:=fun l ho hs hl p n c=>by
 refine FnT.intro (c:=zl Tryz.f82) [.cell 2 73] 20 Tryz.func82 kr kr kr fun w hP=>?_;have hn:=hP.1;rw [List.length_map] at hn;refine rS [.a] (St.start w) kr fun gs1 w1 H1=>zc kr ?_;by_cases hl0:l=[]
 ·subst hl0;obtain rfl:n=0:=hn;refine rS [.v,.v,.v] H1 kr fun gs2 w2 H2=>zg kr kr<|rS [.v,.s 0] H2 kr fun gs3 w3 H3=>?_;have H4:St w.heap.size w w3 [((gs1 0).b,itO (b3 emB))]:=H3.as kr;refine rRr [.cell 2 73] [0] (itV (b3 emB)) (yf w.heap.size w (jb (qy f []))) H4 kr ?_;exact ⟨[],zhm emB,H4.sub (List.nil_sublist _)⟩
 ·have hn0:n≠0:=by rw [hn];exact fun h=>hl0 (List.length_eq_zero_iff.1 h)
  refine rS [.v,.v,.E (.bool ((n:Int)==0)) (.bool false) (za (beq_eq_false_iff_ne.2 (by omega)))] H1 kr fun gs2 w2 H2=>zf kr kr<|zh kr<|wW ?_;have hok:Okm (yM f l):=(ki f l hl0 ho hs).1;have hM:qy f l=yp (yM f l):=by unfold qy;rw [if_neg hl0]
  have hit:=hI l hl0 ho hs hl p n c;rw [hM];generalize yM f l=M at*;refine zi [0,1,2,3] kr kr<|rp [.v] H2 kr fun gs3 w3 H3=>wX [1,2,3] ?_;have H4:St w.heap.size w w3 [((gs1 0).b,itO (b3 emB))]:=H3.as kr;refine yZ H4 (some 10) 46 #[.slice p n c] hit (hP.call H4.below) kr kr ?_;rintro _ T w4 ⟨y,rfl,hsl⟩ H5;have H6:St w.heap.size w w4 (((gs1 0).b,itO (b3 emB))::T):=H5.perm (List.perm_append_comm (l₁:=[((gs1 0).b,itO (b3 emB))]) (l₂:=T));refine qA H6 (some 3) 73 (itV (b3 emB)) kr kr kr ?_;intro b3n w5 H7;refine rp [.s 0] H7 kr fun gs4 w6 H8=>wX []<|zd<|wW ?_;have H9:St w.heap.size w w6 ((b3n,itO (Xg M y))::((gs1 0).b,itO (b3 emB))::T):=H8.as kr;refine zi [0,1,2] kr kr<|rp [.l 0] H9 kr fun gs5 w7 H10=>wX [1,2] ?_;have H11:St w.heap.size w w7 ((b3n,itO (Xg M y))::((gs1 0).b,itO (b3 emB))::T):=H10.as kr;refine qd H11 (some 12) 45 #[itV (Xg M y)] _ _ (zc4 hok y) (hsl.at H11 fun e he=>by simp [he]) (fun w=>by kernel_rfl) kr ?_;intro w8 H12;refine rp [.v] H12 kr fun gs6 w9 H13=>wX []<|zd<|wW<|zc kr ?_;by_cases hl:(encI M).length<32
  ·refine rS [.v,.v,.E (.bool (decide ((((zb (encI M)).size:Nat):Int)<32))) (.bool true) (za (decide_eq_true (by rw [zO];omega)))] H13 kr fun gs7 w10 H14=>zg kr kr<|rS [.l 0,.s 1] H14 kr fun gs8 w11 H15=>?_;have H16:St w.heap.size w w11 ((b3n,itO (Xg M y))::((gs1 0).b,itO (Xg M y))::T):=H15.as kr;refine rRr [.cell 2 73] [1] (itV (Xg M y)) (yf w.heap.size w (jb (yp M))) H16 kr ?_;refine ⟨T,⟨y,?_,?_⟩,H16.sub ((List.sublist_cons_self ..).trans (List.sublist_cons_self ..))⟩
   ·unfold yp;rw [if_pos hl]
   ·unfold yp;rw [if_pos hl];exact hsl
  ·refine rS [.v,.v,.E (.bool (decide ((((zb (encI M)).size:Nat):Int)<32))) (.bool false) (za (decide_eq_false (by rw [zO];omega)))] H13 kr fun gs7 w10 H14=>zf kr kr<|zh kr<|wW ?_;have hsz:=hok.sz;have hsum:=Ke.sumR_fn (zb (encI M)) (by rw [zO];omega);rw [yx] at hsum;refine rS [.v,.c hsum,.v,.s 1] H14 kr fun gs8 w11 H15=>?_;have H16:St w.heap.size w w11 ((b3n,itO (Xg M y))::((gs1 0).b,itO (b3 (zb (Kec.sumB (encI M)))))::T):=H15.as kr;refine rRr [.cell 2 73] [1] (itV (b3 (zb (Kec.sumB (encI M))))) (yf w.heap.size w (jb (yp M))) H16 kr ?_;refine ⟨[],?_,H16.sub (List.nil_sublist _)⟩;have e:yp M=bI (zb (Kec.sumB (encI M))):=by unfold yp;rw [if_neg hl]
   rw [e];exact zhm _
end Go.Proofs.YtbbdbdndedeokaaGreatDoor
namespace Go.Proofs.YtbbdbdndedeokaaGreatDoor
open Go Go.RowKit
open D2 (Gh)
set_option linter.unusedVariables false
theorem zho {l:List Ent}(h:okS l)(m:Nat):okS (zM m l):=fun x hx=>by
 obtain ⟨y,hy,rfl⟩:=List.mem_map.1 hx;have:=h y hy;exact ⟨by simp only [List.length_drop];omega,this.2⟩
theorem zhp {l:List Ent}(h:okS l)(c:Nat):okS (zo c l):=fun x hx=>by
 obtain ⟨b,hb,_⟩:=kH hx;have:=h _ hb;simp only [List.length_cons] at this;exact ⟨by omega,this.2⟩
theorem uK {l:List Ent}(h:okS l): ∀e∈l,e.1.length≤1000000:=fun e he=>by have:=(h e he).1;omega
abbrev bs2 (b2 b4:Nat)(q:Option Addr)(n c:Nat):List (Nat×Obj):=[(b2,itO (b3 emB)),(b4,xlO q n c)]
theorem znP (f:Nat)(x0:List UInt8)(v0:ByteArray)(ho:Okl (f+1) [(x0,v0)])(hs:okS [(x0,v0)])(p:Option Addr)(n c:Nat):FnT Tryz.prog 46 #[.slice p n c] (fun w=>yH w p n ([(x0,v0)].map pE)) (jb (yM (f+1) [(x0,v0)])):=by
 refine FnT.intro (c:=zl Tryz.f46) [.cell 2 73] 77 Tryz.func46 kr kr kr fun w hP=>?_;have hn:=hP.1;obtain rfl:n=1:=hn;have hn0:0<1:=by decide
 have hs0:=hs _ (List.mem_cons_self ..);have hlow:=(ho _ (List.mem_cons_self ..)).2;have hcomm:=zco p 1 c (x0,v0) [] (by simp) (uK hs);obtain ⟨br,off,C,T,fz,hp0,hh,hR⟩:=hP.row (by decide);have c0:C[off+0*2+0]? =some (.string (zb x0)):=hR.cell (i:=0) (x:=(zb x0,v0)) rfl 0 (by decide);have c1:C[off+0*2+1]? =some (.string v0):=hR.cell (i:=0) (x:=(zb x0,v0)) rfl 1 (by decide);have hpack:=zfc (zb x0) (by rw [zO];have:x0.length≤64:=hs0.1;omega) true (by rw [yx];exact zaR hlow);rw [yx] at hpack;refine rS [.a] (St.start w) kr fun gs1 w1 H1=>rS [.v,.cp (pre:=fun w=>yH w p 1 ([(x0,v0)].map pE)) hcomm [] (fun w hb hd=>hP.call hb),.v] H1 kr fun gs2 w2 H2=>rS [.v,.a,.s 1] H2 kr fun gs3 w3 H3=>zc kr<|rS [.v,.v,.v] H3 kr fun gs4 w4 H4=>zg kr kr ?_;generalize hb2:(gs1 0).b=b2 at*;generalize hb4:(gs3 1).b=b4 at*;have H5:St w.heap.size w w4 (bs2 b2 b4 none 0 0):=H4.as (by rw [←hb2,←hb4];kernel_rfl);subst hb2 hb4;refine zc kr ?_
 refine D2.g_draw0 [0,1,2,3,4,5,6,7,8,9,10,11,12,13,14,15,16] [(some 14,fun _=>.pointer (some ⟨(gs3 1).b,2,none⟩)),(some 15,fun _=>.slice none 0 0),(some 16,fun _=>.slice p 1 c),(some 17,fun _=>.pointer (some ⟨br,off+0*2,none⟩)),(some 18,fun _=>.pointer (some ⟨br,off+0*2+0,none⟩)),(some 19,fun _=>.string (zb x0)),(some 20,fun _=>.string (zb (pk x0 true))),(some 21,fun _=>itV (b3 (zb (pk x0 true)))),
  (some 22,fun _=>.slice p 1 c),(some 23,fun _=>.pointer (some ⟨br,off+0*2,none⟩)),(some 24,fun _=>.pointer (some ⟨br,off+0*2+1,none⟩)),(some 25,fun _=>.string v0),(some 26,fun _=>itV (b3 v0)),(some 27,fun y=>.slice (some ⟨y.b,0,none⟩) 2 2),(some 28,fun y=>.slice (some ⟨y.b,0,none⟩) (0+2) y.cap),(some 29,fun _=>.pointer (some ⟨(gs3 1).b,2,none⟩)),(none,fun _=>undef)]
  (D2.chn [13,14,16] fun j g ww=>match j with
   | 0=>St w.heap.size w ww (bs2 (gs1 0).b (gs3 1).b none 0 0)
   | 1=>St w.heap.size w ww ((bs2 (gs1 0).b (gs3 1).b none 0 0)++ [((g 13).b,yl [b3 (zb (pk x0 true)),b3 v0])])
   | 2=>St w.heap.size w ww ((bs2 (gs1 0).b (gs3 1).b none 0 0)++ [((g 14).b,.cells (g 14).cur 73 (0,0))])∧Rw 3 (g 14).cur (g 14).cap 2 (cellsF iS [b3 (zb (pk x0 true)),b3 v0])
   | _=>St w.heap.size w ww ((bs2 (gs1 0).b (gs3 1).b (some ⟨(g 14).b,0,none⟩) 2 (g 14).cap)++ [((g 14).b,.cells (g 14).cur 73 (0,0))])∧Rw 3 (g 14).cur (g 14).cap 2 (cellsF iS [b3 (zb (pk x0 true)),b3 v0]))
  kr kr kr H5.drew ⟨?_,?_,?_,?_,?_,?_,?_,?_,?_,?_,?_,?_,?_,?_,?_,?_,?_,trivial⟩ ?_
 ·exact D2.gv_val (fun _ _ _ h=>h) (fun g w=>by kernel_rfl)
 ·exact D2.gv_ld (fun _ _ _ h=>h) 71 (.tmp 14) (fun _=>(gs3 1).b) 2 #[.bool true,.string emB,.slice none 0 0] 73 (0,0) (fun g=>by kernel_rfl) (fun g=>by kernel_rfl) (fun L g w hN hp=>hp.getN 1 14 rfl (hN.post 14 kr) fun j hj h=>by
   match j,hj,h with
   | 0,_,h=>exact St.get h 1 kr
   | 1,_,h=>exact St.get h 1 kr
   | j+2,hj,_=>exact absurd hj (by omega)) kr kr
 ·exact D2.gv_val (fun _ _ _ h=>h) (fun g w=>by kernel_rfl)
 ·exact D2.gv_op (fun _ _ _ h=>h) (.indexAddr 50 (.tmp 16) (.const (.int .i64 0))) (fun g=>by kernel_rfl) (fun g o w ho=>yb (kd:=.i64) (t:=50) (e:=64) (K:=2) (bytes:=32) kr (x:=(.tmp 16)) (y:=.const (.int .i64 0)) br off 1 c 0 hp0 ho kr rfl hn0 w)
 ·exact D2.gv_val (fun _ _ _ h=>h) (fun g w=>by kernel_rfl)
 ·exact D2.gv_opW (fun _ _ _ h=>h) (.load 9 (.tmp 18)) (fun g=>by kernel_rfl) (fun L g o ww hN hp ho=>zbO kr (vr hh ((fun hp=>hp.get fun j hj h=>by
   match j,h with
   | 0,h=>exact h.below
   | 1,h=>exact h.below
   | 2,h=>exact h.1.below
   | _+3,h=>exact h.1.below) hp)) c0 ho kr)
 ·exact D2.gv_cW (fun _ _ _ h=>h) 81 #[.string (zb x0),.bool true] hpack (fun L g w w' hN hp hb=>by
   revert hp;unfold D2.chn
   generalize D2.stg [13,14,16] L=j;intro hp
   match j,hp with
   | 0,h=>exact h.call hb
   | 1,h=>exact h.call hb
   | 2,h=>exact ⟨h.1.call hb,h.2⟩
   | _+3,h=>exact ⟨h.1.call hb,h.2⟩) (fun g w=>by kernel_rfl)
 ·exact D2.gv_val (fun _ _ _ h=>h) (fun g w=>by kernel_rfl)
 ·exact D2.gv_val (fun _ _ _ h=>h) (fun g w=>by kernel_rfl)
 ·exact D2.gv_op (fun _ _ _ h=>h) (.indexAddr 50 (.tmp 22) (.const (.int .i64 0))) (fun g=>by kernel_rfl) (fun g o w ho=>yb (kd:=.i64) (t:=50) (e:=64) (K:=2) (bytes:=32) kr (x:=(.tmp 22)) (y:=.const (.int .i64 0)) br off 1 c 0 hp0 ho kr rfl hn0 w)
 ·exact D2.gv_val (fun _ _ _ h=>h) (fun g w=>by kernel_rfl)
 ·exact D2.gv_opW (fun _ _ _ h=>h) (.load 9 (.tmp 24)) (fun g=>by kernel_rfl) (fun L g o ww hN hp ho=>zbO kr (vr hh ((fun hp=>hp.get fun j hj h=>by
   match j,h with
   | 0,h=>exact h.below
   | 1,h=>exact h.below
   | 2,h=>exact h.1.below
   | _+3,h=>exact h.1.below) hp)) c1 ho kr)
 ·exact D2.gv_val (fun _ _ _ h=>h) (fun g w=>by kernel_rfl)
 ·refine D2.gv_chn 13 0 (fun L hN=>by
   have e13:=hN.1;have e14:=hN.post 14 kr;have e16:=hN.fwd e14 (show D2.edge _ 14 16=true by kernel_rfl)
   exact ⟨by (simp [D2.stg,e13,e14,e16])<;>rfl,by (simp [D2.stg,D2.put1,e13,e14,e16])<;>rfl⟩) fun g ww hq=>?_
  exact D2.run_new (F:=fun b=>.slice (some ⟨b,0,none⟩) 2 2) (ob:=yl [b3 (zb (pk x0 true)),b3 v0]) kr ⟨{ b:=ww.heap.size },rfl,(St.alloc hq (yl [b3 (zb (pk x0 true)),b3 v0])).perm (List.perm_append_comm (l₁:=bs2 (gs1 0).b (gs3 1).b none 0 0) (l₂:=[(ww.heap.size,yl [b3 (zb (pk x0 true)),b3 v0])]))⟩
 ·refine D2.gv_chn 14 1 (fun L hN=>by
   have e14:=hN.1;have e13:=hN.bef 13 kr;have e16:=hN.post 16 kr
   exact ⟨by (simp [D2.stg,e13,e14,e16])<;>rfl,by (simp [D2.stg,D2.put1,e13,e14,e16])<;>rfl⟩) fun g ww hq=>?_
  refine D2.run_of (op:=yn 71 (.tmp 15) (.tmp 27)) kr fun o ho=>?_;obtain ⟨b',cap',cur',w',hrun,HS',hr'⟩:=uk (S:=iS) (bx:=(g 13).b) (M0:=[]) (M:=[b3 (zb (pk x0 true)),b3 v0]) (row:=[]) (Z:=bs2 (gs1 0).b (gs3 1).b none 0 0) (n:=0) (c:=0) (p:=none) (m:=2) (mc:=2) (hq.perm (List.perm_append_comm (l₁:=[((g 13).b,yl [b3 (zb (pk x0 true)),b3 v0])]) (l₂:=bs2 (gs1 0).b (gs3 1).b none 0 0))) (.inl ⟨rfl,rfl,rfl,rfl,rfl⟩) (t:=71) (bytes:=48) kr ho kr kr rfl (by decide) (by decide) (by unfold maxLen;omega);exact ⟨_,w',hrun,{ b:=b',cap:=cap',cur:=cur' },rfl,HS'.perm (List.perm_append_comm (l₁:=bs2 (gs1 0).b (gs3 1).b none 0 0) (l₂:=[(b',.cells cur' 73 (0,0))])),hr'⟩
 ·exact D2.gv_val (fun _ _ _ h=>h) (fun g w=>by kernel_rfl)
 ·refine D2.gv_chn 16 2 (fun L hN=>by
   have e16:=hN.1;have e14:=hN.bef 14 kr;have e13:=hN.back e14 (show D2.edge _ 13 14=true by kernel_rfl)
   exact ⟨by (simp [D2.stg,e13,e14,e16])<;>rfl,by (simp [D2.stg,D2.put1,e13,e14,e16])<;>rfl⟩) fun g ww hq=>?_
  exact ul (t:=71) (x:=.tmp 29) (y:=.tmp 28) (T:=73) (b:=(gs3 1).b) (q:=none) (n:=0) (c:=0) (q':=some ⟨(g 14).b,0,none⟩) (n':=2) (c':=(g 14).cap) kr kr kr kr (St.get hq.1 1 kr) ⟨g 16,rfl,St.store (C:=#[.bool true,.string emB,.slice none 0 0]) (T:=73) hq.1 1 kr,hq.2⟩
 ·intro L1 g w9 hall hp;have hq:=hp.fin (fun k hk=>hall k (by simp at hk;rcases hk with rfl | rfl | rfl<;>exact Nat.le_of_ble_eq_true kr));refine wW<|rS [.l 1,.s 0] hq.1 kr fun gs6 w10 H6=>?_;have H7:St w.heap.size w w10 ([((gs1 0).b,xlO (some ⟨(g 14).b,0,none⟩) 2 (g 14).cap),((gs3 1).b,xlO (some ⟨(g 14).b,0,none⟩) 2 (g 14).cap)]++ [((g 14).b,.cells (g 14).cur 73 (0,0))]):=H6.as kr;refine rRr [.cell 2 73] [0] (.agg #[.bool true,.string emB,.slice (some ⟨(g 14).b,0,none⟩) 2 (g 14).cap]) (yf w.heap.size w (jb (yM (f+1) [(x0,v0)]))) H7 kr ?_;refine ⟨[((g 14).b,.cells (g 14).cur 73 (0,0))],zc3 (L:=[b3 (zb (pk x0 true)),b3 v0]) rfl hq.2 (List.mem_cons_self ..) (fun y hy=>?_) (by simp),H7.sub (List.sublist_append_right ..)⟩;have h64:x0.length≤64:=hs0.1;have h500:v0.size≤500:=hs0.2;rcases List.mem_cons.1 hy with rfl | hy
  ·exact ⟨jz _ _,by have:=vC x0 true;show (zb (pk x0 true)).size≤_;omega⟩
  ·rw [List.mem_singleton.1 hy];exact ⟨jz _ _,by show v0.size≤_;omega⟩
end Go.Proofs.YtbbdbdndedeokaaGreatDoor
namespace Go.Proofs.YtbbdbdndedeokaaGreatDoor
open Go Go.RowKit
open D2 (Gh)
set_option linter.unusedVariables false
theorem znQ (f:Nat)(hT:ToC f)(x0:List UInt8)(v0:ByteArray)(e':Ent)(r:List Ent)(ho:Okl (f+1) ((x0,v0)::e'::r))(hs:okS ((x0,v0)::e'::r))(hl:((x0,v0)::e'::r).length≤1000000)(hc:0<zr ((x0,v0)::e'::r))(p:Option Addr)(n c:Nat):FnT Tryz.prog 46 #[.slice p n c] (fun w=>yH w p n (((x0,v0)::e'::r).map pE)) (jb (yM (f+1) ((x0,v0)::e'::r))):=by
 refine FnT.intro (c:=zl Tryz.f46) [.cell 2 73] 77 Tryz.func46 kr kr kr fun w hP=>?_;have hn:=hP.1;rw [List.length_map] at hn;have hn2:2≤n:=by rw [hn];simp
 have hn0:0<n:=by omega
 have hs0:=hs _ (List.mem_cons_self ..);have h64:x0.length≤64:=hs0.1;have hlow:=(ho _ (List.mem_cons_self ..)).2;have hcomm:=zco p n c (x0,v0) (e'::r) hl (uK hs);have hkl:zr ((x0,v0)::e'::r)≤x0.length:=Nat.le_trans (jO rfl _ (List.mem_cons_self ..)) (us _ _);have hkall: ∀e∈((x0,v0)::e'::r),zr ((x0,v0)::e'::r)≤e.1.length:=fun e he=>Nat.le_trans (jO (e:=(x0,v0)) rfl e he) (us _ _);have hdl:(zM (zr ((x0,v0)::e'::r)) ((x0,v0)::e'::r)).length=((x0,v0)::e'::r).length:=xF _ _;have hdok:Okl f (zM (zr ((x0,v0)::e'::r)) ((x0,v0)::e'::r)):=kG (e:=(x0,v0)) rfl hc ho;have hdn:zM (zr ((x0,v0)::e'::r)) ((x0,v0)::e'::r)≠[]:=by simp [zM]
 have hcut:=zf8 p n c 16 (zr ((x0,v0)::e'::r)) ((x0,v0)::e'::r) hl (uK hs) (fun e he _=>hkall e he) (by omega);rw [zlg] at hcut;have hto:=hT _ hdok (zho hs _) (by omega);have hMk:=(ki f _ hdn hdok (zho hs _)).1;rw [zcL hc];have hM1:qy f (zM (zr ((x0,v0)::e'::r)) ((x0,v0)::e'::r))=yp (yM f (zM (zr ((x0,v0)::e'::r)) ((x0,v0)::e'::r))):=by unfold qy;rw [if_neg hdn]
 rw [←hM1];have hMs:=hMk.told;rw [←hM1] at hMs;generalize qy f (zM (zr ((x0,v0)::e'::r)) ((x0,v0)::e'::r))=M at*;clear hM1 hMk;obtain ⟨br,off,C,T,fz,hp0,hh,hR⟩:=hP.row hn0;have c0:C[off+0*2+0]? =some (.string (zb x0)):=hR.cell (i:=0) (x:=(zb x0,v0)) rfl 0 (by decide);generalize hL0:((x0,v0)::e'::r:List Ent)=L0 at*;generalize hkk:zr L0=k at*;have hext:=zlj x0 k;have hpack:=zfc (zb (x0.take k)) (by rw [zO,List.length_take];omega) false (by rw [yx];exact zaR fun b hb=>hlow b (List.mem_of_mem_take hb));rw [yx] at hpack;refine rS [.a] (St.start w) kr fun gs1 w1 H1=>rS [.v,.cp (pre:=fun w=>yH w p n (L0.map pE)) hcomm [] (fun w hb hd=>hP.call hb),.v] H1 kr fun gs2 w2 H2=>rS [.v,.a,.s 1] H2 kr fun gs3 w3 H3=>zc kr<|rS [.v,.v,.E (.bool ((n:Int)==1)) (.bool false) (za (beq_eq_false_iff_ne.2 (by omega)))] H3 kr fun gs4 w4 H4=>zf kr kr<|zh kr<|wW<|zc kr<|rS [.v,.E (.bool (decide ((0:Int)<(k:Int)))) (.bool true) (za (decide_eq_true (by omega)))] H4 kr fun gs5 w5 H5a=>zg kr kr ?_;have H5:St w.heap.size w w5 (bs2 (gs1 0).b (gs3 1).b none 0 0):=H5a.as kr;refine zc kr ?_
 refine D2.g_draw0 [0,1,2,3,4,5,6,7,8,9,10,11,12,13,14,15,16,17] [(some 33,fun _=>.pointer (some ⟨(gs3 1).b,2,none⟩)),(some 34,fun _=>.slice none 0 0),(some 35,fun _=>.slice p n c),(some 36,fun _=>.pointer (some ⟨br,off+0*2,none⟩)),(some 37,fun _=>.pointer (some ⟨br,off+0*2+0,none⟩)),(some 38,fun _=>.string (zb x0)),(some 39,fun _=>iN k),(some 40,fun _=>.string (zb (x0.take k))),(some 41,fun _=>.string (zb (pk (x0.take k) false))),(some 42,fun _=>itV (b3 (zb (pk (x0.take k) false)))),
  (some 43,fun _=>.slice p n c),(some 44,fun _=>iN k),(some 45,fun y=>.slice (pG y) y.n y.cap),(some 46,fun y=>itV (Xg M y)),(some 47,fun y=>.slice (some ⟨y.b,0,none⟩) 2 2),(some 48,fun y=>.slice (some ⟨y.b,0,none⟩) (0+2) y.cap),(some 49,fun _=>.pointer (some ⟨(gs3 1).b,2,none⟩)),(none,fun _=>undef)]
  (D2.chn [12,13,14,15,17] fun j g ww=>match j with
   | 0=>St w.heap.size w ww (bs2 (gs1 0).b (gs3 1).b none 0 0)
   | 1=> ∃T1,zR pS 64 (pG (g 12)) (g 12).n (g 12).cap T1 ((zM k L0).map pE)∧St w.heap.size w ww ((bs2 (gs1 0).b (gs3 1).b none 0 0)++T1)
   | 2=> ∃T2,yh T2 (pG (g 13)) M.k.len M.k∧St w.heap.size w ww ((bs2 (gs1 0).b (gs3 1).b none 0 0)++T2)
   | 3=> ∃T2,yh T2 (pG (g 13)) M.k.len M.k∧St w.heap.size w ww ((bs2 (gs1 0).b (gs3 1).b none 0 0)++(((g 14).b,yl [b3 (zb (pk (x0.take k) false)),Xg M (g 13)])::T2))
   | 4=> ∃T2,yh T2 (pG (g 13)) M.k.len M.k∧St w.heap.size w ww ((bs2 (gs1 0).b (gs3 1).b none 0 0)++(((g 15).b,.cells (g 15).cur 73 (0,0))::T2))∧Rw 3 (g 15).cur (g 15).cap 2 (cellsF iS [b3 (zb (pk (x0.take k) false)),Xg M (g 13)])
   | _=> ∃T2,yh T2 (pG (g 13)) M.k.len M.k∧St w.heap.size w ww ((bs2 (gs1 0).b (gs3 1).b (some ⟨(g 15).b,0,none⟩) 2 (g 15).cap)++(((g 15).b,.cells (g 15).cur 73 (0,0))::T2))∧Rw 3 (g 15).cur (g 15).cap 2 (cellsF iS [b3 (zb (pk (x0.take k) false)),Xg M (g 13)]))
  kr kr kr H5.drew ⟨?_,?_,?_,?_,?_,?_,?_,?_,?_,?_,?_,?_,?_,?_,?_,?_,?_,?_,trivial⟩ ?_
 ·exact D2.gv_val (fun _ _ _ h=>h) (fun g w=>by kernel_rfl)
 ·exact D2.gv_ld (fun _ _ _ h=>h) 71 (.tmp 33) (fun _=>(gs3 1).b) 2 #[.bool true,.string emB,.slice none 0 0] 73 (0,0) (fun g=>by kernel_rfl) (fun g=>by kernel_rfl) (fun L g w hN hp=>hp.getN 3 15 rfl (hN.post 15 kr) fun j hj h=>by
   match j,hj,h with
   | 0,_,h=>exact St.get h 1 kr
   | 1,_,h=>exact h.elim fun T h=>St.get h.2 1 kr
   | 2,_,h=>exact h.elim fun T h=>St.get h.2 1 kr
   | 3,_,h=>exact h.elim fun T h=>St.get h.2 1 kr
   | j+4,hj,_=>exact absurd hj (by omega)) kr kr
 ·exact D2.gv_val (fun _ _ _ h=>h) (fun g w=>by kernel_rfl)
 ·exact D2.gv_op (fun _ _ _ h=>h) (.indexAddr 50 (.tmp 35) (.const (.int .i64 0))) (fun g=>by kernel_rfl) (fun g o w ho=>yb (kd:=.i64) (t:=50) (e:=64) (K:=2) (bytes:=32) kr (x:=(.tmp 35)) (y:=.const (.int .i64 0)) br off n c 0 hp0 ho kr rfl hn0 w)
 ·exact D2.gv_val (fun _ _ _ h=>h) (fun g w=>by kernel_rfl)
 ·exact D2.gv_opW (fun _ _ _ h=>h) (.load 9 (.tmp 37)) (fun g=>by kernel_rfl) (fun L g o ww hN hp ho=>zbO kr (vr hh ((fun hp=>hp.get fun j hj h=>by
   match j,h with
   | 0,h=>exact h.below
   | 1,h=>exact h.elim fun T h=>h.2.below
   | 2,h=>exact h.elim fun T h=>h.2.below
   | 3,h=>exact h.elim fun T h=>h.2.below
   | 4,h=>exact h.elim fun T h=>h.2.1.below
   | _+5,h=>exact h.elim fun T h=>h.2.1.below) hp)) c0 ho kr)
 ·exact D2.gv_val (fun _ _ _ h=>h) (fun g w=>by kernel_rfl)
 ·exact D2.gv_opE (V':=.string ((zb x0).extract 0 k)) (fun _ _ _ h=>h) (.slice 9 (.tmp 38) none (some (.tmp 39)) none) (fun g=>by kernel_rfl) (fun g o w ho=>zbo (t:=9) (kd:=.i64) kr (x:=(.tmp 38)) (y:=(.tmp 39)) (zb x0) k ho kr kr (by rw [zO];exact hkl) w) (by rw [hext])
 ·exact D2.gv_cW (fun _ _ _ h=>h) 81 #[.string (zb (x0.take k)),.bool false] hpack (fun L g w w' hN hp hb=>by
   revert hp;unfold D2.chn
   generalize D2.stg [12,13,14,15,17] L=j;intro hp
   match j,hp with
   | 0,h=>exact h.call hb
   | 1,h=>exact h.elim fun T h=>⟨T,h.1,h.2.call hb⟩
   | 2,h=>exact h.elim fun T h=>⟨T,h.1,h.2.call hb⟩
   | 3,h=>exact h.elim fun T h=>⟨T,h.1,h.2.call hb⟩
   | 4,h=>exact h.elim fun T h=>⟨T,h.1,h.2.1.call hb,h.2.2⟩
   | _+5,h=>exact h.elim fun T h=>⟨T,h.1,h.2.1.call hb,h.2.2⟩) (fun g w=>by kernel_rfl)
 ·exact D2.gv_val (fun _ _ _ h=>h) (fun g w=>by kernel_rfl)
 ·exact D2.gv_val (fun _ _ _ h=>h) (fun g w=>by kernel_rfl)
 ·exact D2.gv_val (fun _ _ _ h=>h) (fun g w=>by kernel_rfl)
 ·refine D2.gv_chn 12 0 (fun L hN=>by
   have e12:=hN.1;have e13:=hN.post 13 kr;have e14:=hN.fwd e13 (show D2.edge _ 13 14=true by kernel_rfl);have e15:=hN.fwd e14 (show D2.edge _ 14 15=true by kernel_rfl);have e17:=hN.fwd e15 (show D2.edge _ 15 17=true by kernel_rfl)
   exact ⟨by (simp [D2.stg,e12,e13,e14,e15,e17])<;>rfl,by (simp [D2.stg,D2.put1,e12,e13,e14,e15,e17])<;>rfl⟩) fun g ww hq=>?_
  exact D2.run_ft hcut (hP.call hq.below) kr fun v T1 w' hok hT1=>by
   obtain ⟨p1,n1,c1,rfl,hrow⟩:=hok;obtain ⟨x,hx,hrow'⟩:=zad hrow;exact ⟨x,hx,T1,hrow',(St.addAll hq hT1).perm (List.perm_append_comm (l₁:=(bs2 (gs1 0).b (gs3 1).b none 0 0)) (l₂:=T1))⟩
 ·refine D2.gv_chn 13 1 (fun L hN=>by
   have e13:=hN.1;have e12:=hN.bef 12 kr;have e14:=hN.post 14 kr;have e15:=hN.fwd e14 (show D2.edge _ 14 15=true by kernel_rfl);have e17:=hN.fwd e15 (show D2.edge _ 15 17=true by kernel_rfl)
   exact ⟨by (simp [D2.stg,e12,e13,e14,e15,e17])<;>rfl,by (simp [D2.stg,D2.put1,e12,e13,e14,e15,e17])<;>rfl⟩) fun g ww hq=>?_
  obtain ⟨T1,hrow,hS⟩:=hq;exact D2.run_ft (hto (pG (g 12)) (g 12).n (g 12).cap) (hrow.prAt hS fun e he=>List.mem_append_right _ he) kr fun v T2 w' hok hT2=>by
   obtain ⟨y,rfl,hsl⟩:=hok;exact ⟨y,rfl,T2,hsl,((St.addAll hS hT2).sub (List.Sublist.append_left (List.sublist_append_left ..) T2)).perm (List.perm_append_comm (l₁:=(bs2 (gs1 0).b (gs3 1).b none 0 0)) (l₂:=T2))⟩
 ·refine D2.gv_chn 14 2 (fun L hN=>by
   have e14:=hN.1;have e13:=hN.bef 13 kr;have e12:=hN.back e13 (show D2.edge _ 12 13=true by kernel_rfl);have e15:=hN.post 15 kr;have e17:=hN.fwd e15 (show D2.edge _ 15 17=true by kernel_rfl)
   exact ⟨by (simp [D2.stg,e12,e13,e14,e15,e17])<;>rfl,by (simp [D2.stg,D2.put1,e12,e13,e14,e15,e17])<;>rfl⟩) fun g ww hq=>?_
  obtain ⟨T2,hsl,hS⟩:=hq;exact D2.run_new (F:=fun b=>.slice (some ⟨b,0,none⟩) 2 2) (ob:=yl [b3 (zb (pk (x0.take k) false)),Xg M (g 13)]) kr ⟨{ b:=ww.heap.size },rfl,T2,hsl,(St.alloc hS (yl [b3 (zb (pk (x0.take k) false)),Xg M (g 13)])).perm (List.perm_middle (l₁:=(bs2 (gs1 0).b (gs3 1).b none 0 0)))⟩
 ·refine D2.gv_chn 15 3 (fun L hN=>by
   have e15:=hN.1;have e14:=hN.bef 14 kr;have e13:=hN.back e14 (show D2.edge _ 13 14=true by kernel_rfl);have e12:=hN.back e13 (show D2.edge _ 12 13=true by kernel_rfl);have e17:=hN.post 17 kr
   exact ⟨by (simp [D2.stg,e12,e13,e14,e15,e17])<;>rfl,by (simp [D2.stg,D2.put1,e12,e13,e14,e15,e17])<;>rfl⟩) fun g ww hq=>?_
  obtain ⟨T2,hsl,hS⟩:=hq;refine D2.run_of (op:=yn 71 (.tmp 34) (.tmp 47)) kr fun o ho=>?_;obtain ⟨b',cap',cur',w',hrun,HS',hr'⟩:=uk (S:=iS) (bx:=(g 14).b) (M0:=[]) (M:=[b3 (zb (pk (x0.take k) false)),Xg M (g 13)]) (row:=[]) (Z:=(bs2 (gs1 0).b (gs3 1).b none 0 0)++T2) (n:=0) (c:=0) (p:=none) (m:=2) (mc:=2) (hS.perm (List.perm_middle (l₁:=(bs2 (gs1 0).b (gs3 1).b none 0 0))).symm) (.inl ⟨rfl,rfl,rfl,rfl,rfl⟩) (t:=71) (bytes:=48) kr ho kr kr rfl (by decide) (by decide) (by unfold maxLen;omega);exact ⟨_,w',hrun,{ b:=b',cap:=cap',cur:=cur' },rfl,T2,hsl,HS'.perm (List.perm_middle (l₁:=(bs2 (gs1 0).b (gs3 1).b none 0 0))),hr'⟩
 ·exact D2.gv_val (fun _ _ _ h=>h) (fun g w=>by kernel_rfl)
 ·refine D2.gv_chn 17 4 (fun L hN=>by
   have e17:=hN.1;have e15:=hN.bef 15 kr;have e14:=hN.back e15 (show D2.edge _ 14 15=true by kernel_rfl);have e13:=hN.back e14 (show D2.edge _ 13 14=true by kernel_rfl);have e12:=hN.back e13 (show D2.edge _ 12 13=true by kernel_rfl)
   exact ⟨by (simp [D2.stg,e12,e13,e14,e15,e17])<;>rfl,by (simp [D2.stg,D2.put1,e12,e13,e14,e15,e17])<;>rfl⟩) fun g ww hq=>?_
  obtain ⟨T2,hsl,hS,hr⟩:=hq;exact ul (t:=71) (x:=.tmp 49) (y:=.tmp 48) (T:=73) (b:=(gs3 1).b) (q:=none) (n:=0) (c:=0) (q':=some ⟨(g 15).b,0,none⟩) (n':=2) (c':=(g 15).cap) kr kr kr kr (St.get hS 1 kr) ⟨g 17,rfl,T2,hsl,St.store (C:=#[.bool true,.string emB,.slice none 0 0]) (T:=73) hS 1 kr,hr⟩
 ·intro L1 g w9 hall hp;have hq:=hp.fin (fun k hk=>hall k (by simp at hk;rcases hk with rfl | rfl | rfl | rfl | rfl<;>exact Nat.le_of_ble_eq_true kr));obtain ⟨T2,hsl,hS,hr⟩:=hq;refine wW<|rS [.l 1,.s 0] hS kr fun gs6 w10 H6=>?_;have H7:St w.heap.size w w10 ([((gs1 0).b,xlO (some ⟨(g 15).b,0,none⟩) 2 (g 15).cap),((gs3 1).b,xlO (some ⟨(g 15).b,0,none⟩) 2 (g 15).cap)]++(((g 15).b,.cells (g 15).cur 73 (0,0))::T2)):=H6.as kr;refine rRr [.cell 2 73] [0] (.agg #[.bool true,.string emB,.slice (some ⟨(g 15).b,0,none⟩) 2 (g 15).cap]) (yf w.heap.size w (jb (lI [bI (zb (pk (x0.take k) false)),M]))) H7 kr ?_;refine ⟨((g 15).b,.cells (g 15).cur 73 (0,0))::T2,zc3 (L:=[b3 (zb (pk (x0.take k) false)),Xg M (g 13)]) rfl hr (List.mem_cons_self ..) (fun y hy=>?_) (by simp),H7.sub (List.sublist_append_right ..)⟩;rcases List.mem_cons.1 hy with rfl | hy
  ·exact ⟨jz _ _,by have:=vC (x0.take k) false;rw [List.length_take] at this;show (zb (pk (x0.take k) false)).size≤_;omega⟩
  ·rw [List.mem_singleton.1 hy];refine ⟨hsl.mono fun e he=>List.mem_cons_of_mem _ he,?_⟩;have h5:M.s.size≤(encI M).length:=by
    unfold encI wr1;rw [List.length_append,List.length_append,zy];omega
   have:=hMs.2.2;show M.s.size≤_;omega
end Go.Proofs.YtbbdbdndedeokaaGreatDoor
namespace Go.Proofs.YtbbdbdndedeokaaGreatDoor
open Go Go.RowKit
open D2 (Gh)
set_option linter.unusedVariables false
theorem znR (f:Nat)(hT:ToC f)(x0:List UInt8)(v0:ByteArray)(e':Ent)(r:List Ent)(ho:Okl (f+1) ((x0,v0)::e'::r))(hs:okS ((x0,v0)::e'::r))(hl:((x0,v0)::e'::r).length≤1000000)(hc: ¬0<zr ((x0,v0)::e'::r))(p:Option Addr)(n c:Nat):FnT Tryz.prog 46 #[.slice p n c] (fun w=>yH w p n (((x0,v0)::e'::r).map pE)) (jb (yM (f+1) ((x0,v0)::e'::r))):=by
 refine FnT.intro (c:=zl Tryz.f46) [.cell 2 73] 77 Tryz.func46 kr kr kr fun w hP=>?_;have hn:=hP.1;rw [List.length_map] at hn;have hn2:2≤n:=by rw [hn];simp
 have hn0:0<n:=by omega
 have hs0:=hs _ (List.mem_cons_self ..);have h64:x0.length≤64:=hs0.1;have hlow:=(ho _ (List.mem_cons_self ..)).2;have hcomm:=zco p n c (x0,v0) (e'::r) hl (uK hs);rw [zcM hc];have hget:=zli p n c ((x0,v0)::e'::r) hl;have hlen:=uK hs;have hval:=zcP (l:=(x0,v0)::e'::r) fun x hx=>(hs x hx).2;have hMok: ∀i,(encI (qy f (zo i ((x0,v0)::e'::r)))).length≤41:=fun i=>by
  unfold qy;split
  ·decide
  ·rename_i hq
   exact ((ki f _ hq (jZ i ho) (zhp hs i)).1.told).2.2
 have hto: ∀i p n c,FnT Tryz.prog 82 #[.slice p n c] (fun w=>yH w p n ((zo i ((x0,v0)::e'::r)).map pE)) (jb (qy f (zo i ((x0,v0)::e'::r)))):=fun i p n c=>hT _ (jZ i ho) (zhp hs i) (Nat.le_trans (List.length_filterMap_le ..) hl) p n c;generalize hL0:((x0,v0)::e'::r:List Ent)=L0 at*;generalize hMf:(fun c=>qy f (zo c L0))=Mf;have hMf2: ∀i,qy f (zo i L0)=Mf i:=fun i=>by rw [←hMf]
 have hMok2: ∀i,(encI (Mf i)).length≤41:=fun i=>by rw [←hMf2];exact hMok i
 have H0:=St.start w;refine rS [.a] H0 kr fun gs1 w1 H1=>rS [.v,.cp (pre:=fun w=>yH w p n (L0.map pE)) hcomm [] (fun w hb hd=>hP.call hb),.v] H1 kr fun gs2 w2 H2=>rS [.v,.a,.s 1] H2 kr fun gs3 w3 H3=>zc kr<|rS [.v,.v,.E (.bool ((n:Int)==1)) (.bool false) (za (beq_eq_false_iff_ne.2 (by omega)))] H3 kr fun gs4 w4 H4=>zf kr kr<|zh kr<|wW<|zc kr<|rS [.v,.E (.bool (decide ((0:Int)<((zr L0:Nat):Int)))) (.bool false) (za (decide_eq_false (by omega)))] H4 kr fun gs5 w5 H5a=>zf kr kr<|zh kr<|wW<|zc kr<|rS [.v] H5a kr fun gs6 w6 H5b=>zj 0 kr ?_;have H5:St w.heap.size w w6 ((bs2 (gs1 0).b (gs3 1).b none 0 0)++([]++ [])):=H5b.as kr;clear H0 H1 H2 H3 H4 H5a H5b;refine zz kr (fun mz ρ ww=> ∃(i:Nat) (q:Option Addr) (cb:Nat) (Ks:List X3) (Tb Tk:List (Nat×Obj)),16-i=mz∧i≤16∧zR iS 73 q i cb Tb Ks∧Ks.map X3.i=(List.range i).map Mf∧AllIn Tk Ks∧St w.heap.size w ww ((bs2 (gs1 0).b (gs3 1).b q i cb)++(Tb++Tk))∧Is [(0,.slice p n c),(2,.pointer (some ⟨(gs1 0).b,0,none⟩)),(4,.pointer (some ⟨(gs3 1).b,0,none⟩)),(5,iN i)] ρ) (16-0)
  ⟨0,none,0,[],[],[],rfl,Nat.zero_le _,.inl ⟨rfl,rfl,rfl,rfl,rfl⟩,rfl,(fun _ h=>nomatch h),H5,(Is.of ⟨kr,kr,kr,kr,trivial⟩)⟩ ?_
 clear H5;rintro _ _ w7 ⟨i,q,cb,Ks,Tb,Tk,rfl,hi16,hrow,hKs,hAll,H6,_,rfl⟩;refine zc kr ?_;by_cases hi:i<16
 ·refine rS [.v,.E (.bool (decide ((i:Int)<16))) (.bool true) (za (decide_eq_true (by omega)))] H6 kr fun gs7 w8 H7a=>zg kr kr<|zh kr<|wW<|zc kr<|zj 1 kr ?_;have H7:St w.heap.size w w8 ((bs2 (gs1 0).b (gs3 1).b q i cb)++(Tb++Tk)):=H7a.as kr
  have hcut:=zf8 p n c i 1 L0 hl hlen (fun e he hk1=>by
   unfold qH at hk1;split at hk1
   ·simp at hk1;omega
   ·rename_i b t heq;rw [heq,List.length_cons];omega) (by omega)
  rw [zf6 i hi] at hcut;have hto2:=hto i;rw [hMf2] at hto2;refine D2.g_draw0 [0,1,2,3,4,5,6,7,8,9] [(some 55,fun _=>.pointer (some ⟨(gs3 1).b,2,none⟩)),(some 56,fun _=>.slice q i cb),(some 57,fun _=>.slice p n c),(some 58,fun _=>iN i),(some 59,fun y=>.slice (pG y) y.n y.cap),(some 60,fun y=>itV (Xg (Mf i) y)),(some 61,fun y=>.slice (some ⟨y.b,0,none⟩) 1 1),(some 62,fun y=>.slice (some ⟨y.b,0,none⟩) (i+1) y.cap),(some 63,fun _=>.pointer (some ⟨(gs3 1).b,2,none⟩)),(none,fun _=>undef)]
   (D2.chn [4,5,6,7,9] fun j g ww=>match j with
    | 0=>St w.heap.size w ww ((bs2 (gs1 0).b (gs3 1).b q i cb)++(Tb++Tk))
    | 1=> ∃T1,zR pS 64 (pG (g 4)) (g 4).n (g 4).cap T1 ((zo i L0).map pE)∧St w.heap.size w ww ((bs2 (gs1 0).b (gs3 1).b q i cb)++(Tb++(Tk++T1)))
    | 2=> ∃T2,yh T2 (pG (g 5)) (Mf i).k.len (Mf i).k∧St w.heap.size w ww ((bs2 (gs1 0).b (gs3 1).b q i cb)++(Tb++(Tk++T2)))
    | 3=> ∃T2,yh T2 (pG (g 5)) (Mf i).k.len (Mf i).k∧St w.heap.size w ww ((bs2 (gs1 0).b (gs3 1).b q i cb)++(((g 6).b,yl [Xg (Mf i) (g 5)])::(Tb++(Tk++T2))))
    | 4=> ∃T2,yh T2 (pG (g 5)) (Mf i).k.len (Mf i).k∧St w.heap.size w ww ((bs2 (gs1 0).b (gs3 1).b q i cb)++(((g 7).b,.cells (g 7).cur 73 (0,0))::(Tk++T2)))∧Rw 3 (g 7).cur (g 7).cap (i+1) (cellsF iS (Ks++ [Xg (Mf i) (g 5)]))
    | _=> ∃T2,yh T2 (pG (g 5)) (Mf i).k.len (Mf i).k∧St w.heap.size w ww ((bs2 (gs1 0).b (gs3 1).b (some ⟨(g 7).b,0,none⟩) (i+1) (g 7).cap)++(((g 7).b,.cells (g 7).cur 73 (0,0))::(Tk++T2)))∧Rw 3 (g 7).cur (g 7).cap (i+1) (cellsF iS (Ks++ [Xg (Mf i) (g 5)])))
   kr kr kr H7.drew ⟨?_,?_,?_,?_,?_,?_,?_,?_,?_,?_,trivial⟩ ?_
  ·exact D2.gv_val (fun _ _ _ h=>h) (fun g w=>by kernel_rfl)
  ·exact D2.gv_ld (fun _ _ _ h=>h) 71 (.tmp 55) (fun _=>(gs3 1).b) 2 #[.bool true,.string emB,.slice q i cb] 73 (0,0) (fun g=>by kernel_rfl) (fun g=>by kernel_rfl) (fun L g w hN hp=>hp.getN 3 7 rfl (hN.post 7 kr) fun j hj h=>by
    match j,hj,h with
    | 0,_,h=>exact St.get h 1 kr
    | 1,_,h=>exact h.elim fun T h=>St.get h.2 1 kr
    | 2,_,h=>exact h.elim fun T h=>St.get h.2 1 kr
    | 3,_,h=>exact h.elim fun T h=>St.get h.2 1 kr
    | j+4,hj,_=>exact absurd hj (by omega)) kr kr
  ·exact D2.gv_val (fun _ _ _ h=>h) (fun g w=>by kernel_rfl)
  ·exact D2.gv_val (fun _ _ _ h=>h) (fun g w=>by kernel_rfl)
  ·refine D2.gv_chn 4 0 (fun L hN=>by
   have e4:=hN.1;have e5:=hN.post 5 kr;have e6:=hN.fwd e5 (show D2.edge _ 5 6=true by kernel_rfl);have e7:=hN.fwd e6 (show D2.edge _ 6 7=true by kernel_rfl);have e9:=hN.fwd e7 (show D2.edge _ 7 9=true by kernel_rfl)
   exact ⟨by (simp [D2.stg,e4,e5,e6,e7,e9])<;>rfl,by (simp [D2.stg,D2.put1,e4,e5,e6,e7,e9])<;>rfl⟩) fun g ww hq=>?_
   exact D2.run_ft hcut (hP.call hq.below) kr fun v T1 w' hok hT1=>by
    obtain ⟨p1,n1,c1,rfl,hrow⟩:=hok;obtain ⟨x,hx,hrow'⟩:=zad hrow;exact ⟨x,hx,T1,hrow',(St.addAll hq hT1).perm (zbP (bs2 (gs1 0).b (gs3 1).b q i cb) Tb Tk T1)⟩
  ·refine D2.gv_chn 5 1 (fun L hN=>by
   have e5:=hN.1;have e4:=hN.bef 4 kr;have e6:=hN.post 6 kr;have e7:=hN.fwd e6 (show D2.edge _ 6 7=true by kernel_rfl);have e9:=hN.fwd e7 (show D2.edge _ 7 9=true by kernel_rfl)
   exact ⟨by (simp [D2.stg,e4,e5,e6,e7,e9])<;>rfl,by (simp [D2.stg,D2.put1,e4,e5,e6,e7,e9])<;>rfl⟩) fun g ww hq=>?_
   obtain ⟨T1,hrow1,hS⟩:=hq;exact D2.run_ft (hto2 (pG (g 4)) (g 4).n (g 4).cap) (hrow1.prAt hS fun e he=>List.mem_append_right _ (List.mem_append_right _ (List.mem_append_right _ he))) kr fun v T2 w' hok hT2=>by
    obtain ⟨y,rfl,hsl⟩:=hok;exact ⟨y,rfl,T2,hsl,((St.addAll hS hT2).sub (List.Sublist.append_left (List.Sublist.append_left (List.Sublist.append_left (List.sublist_append_left Tk T1) Tb) (bs2 (gs1 0).b (gs3 1).b q i cb)) T2)).perm (zbP (bs2 (gs1 0).b (gs3 1).b q i cb) Tb Tk T2)⟩
  ·refine D2.gv_chn 6 2 (fun L hN=>by
   have e6:=hN.1;have e5:=hN.bef 5 kr;have e4:=hN.back e5 (show D2.edge _ 4 5=true by kernel_rfl);have e7:=hN.post 7 kr;have e9:=hN.fwd e7 (show D2.edge _ 7 9=true by kernel_rfl)
   exact ⟨by (simp [D2.stg,e4,e5,e6,e7,e9])<;>rfl,by (simp [D2.stg,D2.put1,e4,e5,e6,e7,e9])<;>rfl⟩) fun g ww hq=>?_
   obtain ⟨T2,hsl,hS⟩:=hq;exact D2.run_new (F:=fun b=>.slice (some ⟨b,0,none⟩) 1 1) (ob:=yl [Xg (Mf i) (g 5)]) kr ⟨{ b:=ww.heap.size },rfl,T2,hsl,(St.alloc hS (yl [Xg (Mf i) (g 5)])).perm (List.perm_middle (l₁:=(bs2 (gs1 0).b (gs3 1).b q i cb)))⟩
  ·refine D2.gv_chn 7 3 (fun L hN=>by
   have e7:=hN.1;have e6:=hN.bef 6 kr;have e5:=hN.back e6 (show D2.edge _ 5 6=true by kernel_rfl);have e4:=hN.back e5 (show D2.edge _ 4 5=true by kernel_rfl);have e9:=hN.post 9 kr
   exact ⟨by (simp [D2.stg,e4,e5,e6,e7,e9])<;>rfl,by (simp [D2.stg,D2.put1,e4,e5,e6,e7,e9])<;>rfl⟩) fun g ww hq=>?_
   obtain ⟨T2,hsl,hS⟩:=hq;refine D2.run_of (op:=yn 71 (.tmp 56) (.tmp 61)) kr fun o ho=>?_;obtain ⟨b',cap',cur',w',hrun,HS',hr'⟩:=uk (S:=iS) (bx:=(g 6).b) (M0:=Ks) (M:=[Xg (Mf i) (g 5)]) (row:=Tb) (Z:=(bs2 (gs1 0).b (gs3 1).b q i cb)++(Tk++T2)) (n:=i) (c:=cb) (p:=q) (m:=1) (mc:=1) (hS.perm (zbQ ((g 6).b,yl [Xg (Mf i) (g 5)]) Tb (bs2 (gs1 0).b (gs3 1).b q i cb) (Tk++T2))) hrow (t:=71) (bytes:=48) kr ho kr kr rfl (by decide) (by omega) (by unfold maxLen;omega);exact ⟨_,w',hrun,{ b:=b',cap:=cap',cur:=cur' },rfl,T2,hsl,HS'.perm (List.perm_middle (l₁:=(bs2 (gs1 0).b (gs3 1).b q i cb))),hr'⟩
  ·exact D2.gv_val (fun _ _ _ h=>h) (fun g w=>by kernel_rfl)
  ·refine D2.gv_chn 9 4 (fun L hN=>by
   have e9:=hN.1;have e7:=hN.bef 7 kr;have e6:=hN.back e7 (show D2.edge _ 6 7=true by kernel_rfl);have e5:=hN.back e6 (show D2.edge _ 5 6=true by kernel_rfl);have e4:=hN.back e5 (show D2.edge _ 4 5=true by kernel_rfl)
   exact ⟨by (simp [D2.stg,e4,e5,e6,e7,e9])<;>rfl,by (simp [D2.stg,D2.put1,e4,e5,e6,e7,e9])<;>rfl⟩) fun g ww hq=>?_
   obtain ⟨T2,hsl,hS,hr⟩:=hq;exact ul (t:=71) (x:=.tmp 63) (y:=.tmp 62) (T:=73) (b:=(gs3 1).b) (q:=q) (n:=i) (c:=cb) (q':=some ⟨(g 7).b,0,none⟩) (n':=i+1) (c':=(g 7).cap) kr kr kr kr (St.get hS 1 kr) ⟨g 9,rfl,T2,hsl,St.store (C:=#[.bool true,.string emB,.slice q i cb]) (T:=73) hS 1 kr,hr⟩
  ·intro L1 g w9 hall hp;have hq:=hp.fin (fun k hk=>hall k (by simp at hk;rcases hk with rfl | rfl | rfl | rfl | rfl<;>exact Nat.le_of_ble_eq_true kr));obtain ⟨T2,hsl,hS,hr⟩:=hq;refine wW<|rL [.v,.E (.int .i64 (IntKind.i64.wrap ((i:Int)+1))) (iN (i+1)) (ze (zm (a:=i) (b:=1) (by omega))),.v] hS kr fun gs8 w10 H8=>?_;show ∃m,_∧_;have H9:St w.heap.size w w10 ((bs2 (gs1 0).b (gs3 1).b (some ⟨(g 7).b,0,none⟩) (i+1) (g 7).cap)++([((g 7).b,.cells (g 7).cur 73 (0,0))]++(Tk++T2))):=H8.as kr;refine ⟨_,(by omega),i+1,some ⟨(g 7).b,0,none⟩,(g 7).cap,(Ks++ [Xg (Mf i) (g 5)]),[((g 7).b,.cells (g 7).cur 73 (0,0))],Tk++T2,rfl,hi,.inr ⟨_,_,rfl,rfl,hr⟩,?_,?_,H9,(Is.of ⟨kr,kr,kr,kr,trivial⟩)⟩
   ·rw [List.map_append,hKs,List.range_succ,List.map_append];rfl
   ·refine um (vt hAll fun e he=>List.mem_append_left _ he) (hsl.mono fun e he=>List.mem_append_right _ he) ?_;have h5:(Mf i).s.size≤(encI (Mf i)).length:=by
     unfold encI wr1;rw [List.length_append,List.length_append,zy];omega
    have:=hMok2 i;show (Mf i).s.size≤_;omega
 ·obtain rfl:i=16:=by omega
  refine rS [.v,.E (.bool (decide (((16:Nat):Int)<16))) (.bool false) (za (decide_eq_false (by omega)))] H6 kr fun gs7 w8 H7a=>zf kr kr<|zw 0 kr<|wW<|rS [.v,.cp (pre:=fun w=>yH w p n (L0.map pE)) hget [] (fun w hb hd=>hP.call hb),.v,.v,.v,.v,.v] H7a kr fun gs8 w9 H8=>?_;have H9:St w.heap.size w w9 ((bs2 (gs1 0).b (gs3 1).b q 16 cb)++(Tb++Tk)):=H8.as kr;refine zi [0,1,2,3,4,5,6,7] kr kr<|rp [.v,.l 1,.v,.v] H9 kr fun gs9 w10 H10a=>wX [4,5,6,7] ?_;have H10:St w.heap.size w w10 ((bs2 (gs1 0).b (gs3 1).b q 16 cb)++(Tb++Tk)):=H10a.as kr;refine zg4 H10 (some 73) (fun b=>.slice (some ⟨b,0,none⟩) 1 1) (iS.cs (b3 (zW L0))).toArray 73 kr kr ?_;intro nb w11 H11;refine zg5 (S:=iS) (some 74) 71 73 48 (.tmp 70) (.tmp 73) (H11.perm (List.Perm.cons _ (zeM Tb (bs2 (gs1 0).b (gs3 1).b q 16 cb) Tk))) hrow kr kr kr kr kr (by omega) (by unfold maxLen;omega) ?_;intro bn capn curn w12 H12 hrn;have H13:St w.heap.size w w12 ((bn,.cells curn 73 (0,0))::((gs1 0).b,itO (b3 emB))::((gs3 1).b,xlO q 16 cb)::Tk):=H12;refine rp [.v,.s 2] H13 kr fun gs10 w13 H14=>wX []<|zd<|wW<|rS [.l 2,.s 1] H14 kr fun gs11 w14 H15=>?_;have H16:St w.heap.size w w14 ((bn,.cells curn 73 (0,0))::((gs1 0).b,xlO (some ⟨bn,0,none⟩) 17 capn)::((gs3 1).b,xlO (some ⟨bn,0,none⟩) 17 capn)::Tk):=H15.as kr;have hK16:Ks.length=16:=hrow.len;have hL17:(Ks++ [b3 (zW L0)]).length=17:=by rw [List.length_append,hK16];rfl
  refine rRr [.cell 2 73] [1] (.agg #[.bool true,.string emB,.slice (some ⟨bn,0,none⟩) 17 capn]) (yf w.heap.size w (jb (lI ((List.range 16).map (fun c=>qy f (zo c L0))++ [bI (zW L0)])))) H16 kr ?_;have hfin:=zc3 (M:=lI ((List.range 16).map (fun c=>qy f (zo c L0))++ [bI (zW L0)])) (L:=Ks++ [b3 (zW L0)]) (b:=bn) (c:=capn) (cur:=curn) (T:=(bn,.cells curn 73 (0,0))::Tk) (by rw [hMf,List.map_append,hKs];rfl) (by rw [hL17];exact hrn) (List.mem_cons_self ..) (um (vt hAll fun e he=>List.mem_cons_of_mem _ he) (jz _ _) (by show (zW L0).size≤_;omega)) (by omega);rw [hL17] at hfin;rw [hMf] at hfin ⊢;exact ⟨_,hfin,H16.sub (List.Sublist.cons_cons _ ((List.sublist_cons_self ..).trans (List.sublist_cons_self ..)))⟩
theorem zhq: ∀f,ItC f
 | 0=>fun l hl0 ho _ _ p n c=>by
  cases l with
  | nil=>exact absurd rfl hl0
  | cons e r=>exact absurd (ho e (List.mem_cons_self ..)).1 (Nat.not_lt_zero _)
 | f+1=>fun l hl0 ho hs hl p n c=>by
  have hT:=znO f (zhq f)
  match l,hl0,ho,hs,hl with
  | [],h,_,_,_=>exact absurd rfl h
  | [(x0,v0)],_,ho,hs,_=>exact znP f x0 v0 ho hs p n c
  | (x0,v0)::e'::r,_,ho,hs,hl=>
   by_cases hc:0<zr ((x0,v0)::e'::r)
   ·exact znQ f hT x0 v0 e' r ho hs hl hc p n c
   ·exact znR f hT x0 v0 e' r ho hs hl hc p n c
end Go.Proofs.YtbbdbdndedeokaaGreatDoor
namespace Go.Proofs.YtbbdbdndedeokaaGreatDoor
open Go Go.RowKit
set_option linter.unusedVariables false
theorem zhr:Okm (bI ⟨#[]⟩):=⟨kT _,by decide,fun _=>by decide,fun _=>by decide,by decide⟩
def jr (L:List Pr):I3:=if L=[] then bI ⟨#[]⟩ else yM 65 (zF L)
theorem zhs {L:List Pr}(h:L≠[]):zF L≠[]:=by cases L with | nil=>exact absurd rfl h | cons a l=>simp [zF]
theorem zht {L:List Pr}(h:OkP L):Okm (jr L):=by
 unfold jr;split
 ·exact zhr
 ·rename_i hn;exact (ki 65 (zF L) (zhs hn) (kU h).1 (kU h).2).1
theorem zhu {L:List Pr}(h:OkP L):jI (zG L).1=jr L:=by
 unfold jr;split
 ·rename_i hn;subst hn;rfl
 ·rename_i hn;exact zmE h hn
theorem znS (p:Option Addr)(n c:Nat)(root:Int)(A:List Nd)(hA: ∀x∈A,x.part.size≤0x800000000000)(hAl:A.length≤0xe8d4a51000)(hr:(qi A root).isSome=true)(hG:jq A)(hO:Okm (jI A)):
 FnP Tryz.prog 18 #[.agg #[.slice p n c,.int .i64 root]] (fun w=>yO w p n A∧Ke.Marks w) (.tuple #[.string (zb (Kec.sumB (encI (jI A)))),.int .i64 0]):=by
 refine FnP.intro (c:=zl Tryz.f18) [.tmp 2,.tmp 3] 18 Tryz.func18 kr kr kr fun w hN=>?_;obtain ⟨hN,hM⟩:=hN;have hri:=zk9 p n c root A hA hAl;rw [hr] at hri;have hsz:=hO.sz;have hsum:=zcH (zb (encI (jI A))) (by rw [zO];omega);rw [yx] at hsum;refine rS [.b,.v,.v] (St.start w) kr fun gs1 w1 H1=>zc kr<|rS [.l 0,.cp (pre:=fun w=>yO w p n A) hri [] (fun w hb hd=>hN.call hb),.v] H1 kr fun gs2 w2 H2=>zf kr kr<|zh kr<|wW<|zi [0,1,2,3,4,5,6,7,8] kr kr<|rp [.v,.l 0] H2 kr fun gs3 w3 H3=>wX [2,3,4,5,6,7,8] ?_;have H4:St w.heap.size w w3 [((gs1 0).b,.cells #[.slice p n c,.int .i64 root] 38 (0,0))]:=H3.as kr;refine yZ H4 (some 12) 37 #[.slice p n c] (zmH p n c A hG hAl) ⟨hN.call H4.below,kh hM H4.below⟩ kr kr ?_;rintro _ T w4 ⟨X,rfl,hXi,hXs,hXe⟩ H5;have henc:=zbG X.l X.s X.p X.n X.c X.k (by rw [hXe];exact Nat.zero_le _);have hOX:Okm X.i:=hXi▸hO;rw [show yo X.l X.s X.n X.k=(zb (encI (jI A)),0) by rw [hXs.1,←hXi];exact zgX hOX] at henc;refine qd H5 (some 13) 36 #[itV X] _ _ henc (hXs.at H5 fun e he=>by simp [he]) (fun w=>by kernel_rfl) kr ?_;intro w5 H6;refine rp [.v,.v,.v,.v,.v] H6 kr fun gs4 w6 H7=>wX []<|zd<|wW<|rS [.v,.cp hsum [] (fun w hb hd=>kh hM hb),.v,.v] H7 kr fun gs5 w7 H8=>?_;exact rR [.tmp 2,.tmp 3] [] (.tuple #[.string (zb (Kec.sumB (encI (jI A)))),.int .i64 0]) H8 kr
theorem znT (p:Option Addr)(n c:Nat)(L:List Pr)(h:OkP L):FnP Tryz.prog 18 #[.agg #[.slice p n c,.int .i64 (zG L).2]] (fun w=>yO w p n (zG L).1∧Ke.Marks w) (.tuple #[.string (zb (Kec.sumB (encI (jr L)))),.int .i64 0]):=by
 have h9:=znS p n c (zG L).2 (zG L).1 (zgE h) (zgF h) (by rw [zfY h];rfl) (zmD h) (by rw [zhu h];exact zht h);rw [zhu h] at h9;exact h9
end Go.Proofs.YtbbdbdndedeokaaGreatDoor
namespace Go.Proofs.YtbbdbdndedeokaaGreatDoor
open Go Go.RowKit
open D2 (Gh)
set_option linter.unusedVariables false
theorem znU (p:Option Addr)(n c:Nat)(L:List Pr)(h:OkP L):FnP Tryz.prog 26 #[.slice p n c] (fun w=>yH w p n L) (.string (zb (Kec.sumB (encI (jr L))))):=by
 refine FnP.intro (c:=zl Tryz.f26) [.tmp 2] 14 Tryz.func26 kr kr kr fun w hP=>?_;have hn:=hP.1;have hlen:=h.len;have hok:=zht h;have hsz:=hok.sz;have hsum:=Ke.sumR_fn (zb (encI (jr L))) (by rw [zO];omega);rw [yx] at hsum;refine rS [.v] (St.start w) kr fun gs1 w1 H1=>zc kr ?_;by_cases hL:L=[]
 ·subst hL;obtain rfl:n=0:=hn;refine rS [.v,.v,.v] H1 kr fun gs2 w2 H2=>zg kr kr<|rS [.v,.cp (pre:=fun w=>zq w.heap.size w none 0 .nil) (zc4 zhr { cap:=0 }) [] (fun w hb hd=>zq.nil _ _ _),.c hsum,.v] H2 kr fun gs3 w3 H3=>?_;exact rR [.tmp 2] [] (.string (zb (Kec.sumB (encI (jr []))))) H3 kr
 ·have hn0:n≠0:=by rw [hn];exact fun h=>hL (List.length_eq_zero_iff.1 h)
  have hr:jr L=yM 65 (zF L):=by unfold jr;rw [if_neg hL]
  refine rS [.v,.v,.E (.bool ((n:Int)==0)) (.bool false) (za (beq_eq_false_iff_ne.2 (by omega)))] H1 kr fun gs2 w2 H2=>zf kr kr<|zh kr<|wW ?_;have hpa:=zlf p n c L (by omega) (fun x hx=>by have:=(qY (h.may x hx)).1.2;omega);rw [zlk] at hpa;have hit:=zhq 65 (zF L) (zhs hL) (kU h).1 (kU h).2 (by show (L.map _).length≤_;rw [List.length_map];omega);rw [←hr] at hit;refine zi [0,1,2,3,4,5] kr kr<|rp [.v] H2 kr fun gs3 w3 H3=>wX [1,2,3,4,5] ?_;have H4:St w.heap.size w w3 []:=H3.as kr;refine yZ H4 (some 10) 47 #[.slice p n c] hpa (hP.call H4.below) kr kr ?_;rintro _ T1 w4 ⟨p1,n1,c1,rfl,hrow⟩ H5;refine yZ H5 (some 11) 46 #[.slice p1 n1 c1] (hit p1 n1 c1) (hrow.prAt H5 fun e he=>List.mem_append_left _ he) kr kr ?_;rintro _ T2 w5 ⟨y,rfl,hsl⟩ H6;refine qd H6 (some 12) 45 #[itV (Xg (jr L) y)] _ _ (zc4 hok y) (hsl.at H6 fun e he=>List.mem_append_left _ he) (fun w=>by kernel_rfl) kr ?_;intro w6 H7;refine rp [.c hsum,.v] H7 kr fun gs4 w7 H8=>wX []<|zd ?_;exact rR [.tmp 2] [] (.string (zb (Kec.sumB (encI (jr L))))) H8 kr
end Go.Proofs.YtbbdbdndedeokaaGreatDoor
