/-
  Texts of the proof,part 5.
-/
import Derived.Test.YtbpmjppmpgeejaaGreatDoorProg
import Derived.Test.YtbpmjppmpgeejaaGreatDoorHK1
import Derived.Test.YtbpmjppmpgeejaaGreatDoorHK2
import Derived.Test.YtbpmjppmpgeejaaGreatDoorHK3
import Derived.Test.YtbpmjppmpgeejaaGreatDoorHK4
set_option maxRecDepth 100000
set_option maxHeartbeats 4000000
namespace Go.Proofs.YtbpmjppmpgeejaaGreatDoor
open Go Go.RowKit
open D2 (Gh)
set_option linter.unusedVariables false
def zdM (h:Hdr)(v:Value)(T:List (Nat×Obj)):Prop:=∃p n c,v=.slice p n c∧RIn fS T p n (hdF h)
theorem zio (h:Hdr)(o:ye h)(hr:ya h=true)(p:Option Addr)(n c:Nat)(q:Option Addr)(m k:Nat):FnT Tryz.prog 23 #[hdV h p n c q m k] (fun w=>yU w h p n q m) (zdM h):=by
 refine FnT.intro (c:=zg Tryz.f23) [.tmp 2] 39 Tryz.func23 kr kr kr fun w hP=>?_;have hvl:=o.vl;have hsl:=o.sl;have hss:=(jN.1 hr).ss;have H0:=St.start w;refine zf [0,1] kr kr<|qS H0 (some 1) 26 (.tmp 0) (hdV h p n c q m k) kr kr kr ?_;intro bh w1 H1;refine rp [.v] H1 kr fun gs1 w2 H2=>wX []<|zb ?_;have H3:St w.heap.size w w2 [(bh,hdO h p n c q m k)]:=H2.as kr;refine zf [0] kr kr<|zE H3 (some 3) 67 (.agg #[.slice none 0 0]) kr kr kr ?_;intro bw w3 H4;refine zb ?_;have G0:St w.heap.size w w3 ([(bh,hdO h p n c q m k)]++(bw,wrO none 0 0)::([]++ [])):=H4.perm (List.Perm.swap _ _ _);have R0:RowE fS 44 none 0 0 [] ([]:List Fel):=.inl ⟨rfl,rfl,rfl,rfl,rfl⟩;refine zf [0,1,2] kr kr<|rp [.v,.l 0] G0 kr fun ga1 wa1 Ga1=>wX [2]<|ym (row:=[]) (L:=[]) [(bh,hdO h p n c q m k)] (q:=none) (n:=0) (c:=0) (p:=bw) (Ga1.as kr) R0 (some 6) 42 #[.pointer (some ⟨bw,0,none⟩),.string h.pa] (jO bw h.pa) (Nat.le_of_ble_eq_true kr) trivial kr kr ?_;rintro q1 n1 c1 row1 _ _ wb1 ⟨rfl,rfl⟩ R1 G1;refine zb<|wW<|zf [0,1,2] kr kr<|rp [.v,.l 0] G1 kr fun ga2 wa2 Ga2=>wX [2]<|ym (row:=row1) (L:=[]) [(bh,hdO h p n c q m k)] (q:=q1) (n:=n1) (c:=c1) (p:=bw) (Ga2.as kr) R1 (some 9) 43 #[.pointer (some ⟨bw,0,none⟩),.int .u64 ((h.hh:Nat):Int)] (ui bw h.hh) (Nat.le_of_ble_eq_true kr) trivial kr kr ?_;rintro q2 n2 c2 row2 _ _ wb2 ⟨rfl,rfl⟩ R2 G2;refine zb<|wW ?_;clear G1 Ga2 R1;refine zf [0,1,2] kr kr<|rp [.v,.l 0] G2 kr fun ga3 wa3 Ga3=>wX [2]<|ym (row:=row2) (L:=[]) [(bh,hdO h p n c q m k)] (q:=q2) (n:=n2) (c:=c2) (p:=bw) (Ga3.as kr) R2 (some 12) 42 #[.pointer (some ⟨bw,0,none⟩),.string h.ro] (jO bw h.ro) (Nat.le_of_ble_eq_true kr) trivial kr kr ?_;rintro q3 n3 c3 row3 _ _ wb3 ⟨rfl,rfl⟩ R3 G3;refine zb<|wW ?_;clear G2 Ga3 R2;refine zf [0,1,2] kr kr<|rp [.v,.l 0] G3 kr fun ga4 wa4 Ga4=>wX [2]<|ym (row:=row3) (L:=[]) [(bh,hdO h p n c q m k)] (q:=q3) (n:=n3) (c:=c3) (p:=bw) (Ga4.as kr) R3 (some 15) 42 #[.pointer (some ⟨bw,0,none⟩),.string h.tx] (jO bw h.tx) (Nat.le_of_ble_eq_true kr) trivial kr kr ?_;rintro q4 n4 c4 row4 _ _ wb4 ⟨rfl,rfl⟩ R4 G4;refine zb<|wW ?_;clear G3 Ga4 R3;refine zf [0,1,2] kr kr<|rp [.v,.l 0] G4 kr fun ga5 wa5 Ga5=>wX [2]<|ym (row:=row4) (L:=[]) [(bh,hdO h p n c q m k)] (q:=q4) (n:=n4) (c:=c4) (p:=bw) (Ga5.as kr) R4 (some 18) 42 #[.pointer (some ⟨bw,0,none⟩),.string h.pr] (jO bw h.pr) (Nat.le_of_ble_eq_true kr) trivial kr kr ?_;rintro q5 n5 c5 row5 _ _ wb5 ⟨rfl,rfl⟩ R5 G5;refine zb<|wW ?_;clear G4 Ga5 R4;refine zf [0,1,2] kr kr<|rp [.v,.l 0] G5 kr fun ga6 wa6 Ga6=>wX [2]<|ym (row:=row5) (L:=[]) [(bh,hdO h p n c q m k)] (q:=q5) (n:=n5) (c:=c5) (p:=bw) (Ga6.as kr) R5 (some 21) 42 #[.pointer (some ⟨bw,0,none⟩),.string h.va] (jO bw h.va) (Nat.le_of_ble_eq_true kr) trivial kr kr ?_;rintro q6 n6 c6 row6 _ _ wb6 ⟨rfl,rfl⟩ R6 G6;refine zb<|wW ?_;clear G5 Ga6 R5;refine zf [0,1,2] kr kr<|rp [.v,.l 0] G6 kr fun ga7 wa7 Ga7=>wX [2]<|ym (row:=row6) (L:=[]) [(bh,hdO h p n c q m k)] (q:=q6) (n:=n6) (c:=c6) (p:=bw) (Ga7.as kr) R6 (some 24) 44 #[.pointer (some ⟨bw,0,none⟩),.slice p n c] (zim bw p n c h.vs (by omega)) (Nat.le_of_ble_eq_true kr) hP.1 kr kr ?_;rintro q7 n7 c7 row7 _ T1 wb7 ⟨qa1,na1,ca1,rfl,hT1⟩ R7 G7;refine zb<|wW ?_;clear G6 Ga7 R6;refine zf [0,1,2] kr kr<|rp [.v,.l 0] G7 kr fun ga8 wa8 Ga8=>wX [2]<|ym (row:=row7) (L:=T1++ []) [(bh,hdO h p n c q m k)] (q:=q7) (n:=n7) (c:=c7) (p:=bw) (Ga8.as kr) R7 (some 27) 42 #[.pointer (some ⟨bw,0,none⟩),.string h.vo] (jO bw h.vo) (Nat.le_of_ble_eq_true kr) trivial kr kr ?_;rintro q8 n8 c8 row8 _ _ wb8 ⟨rfl,rfl⟩ R8 G8;refine zb<|wW ?_;clear G7 Ga8 R7;refine zf [0,1,2] kr kr<|rp [.v,.l 0] G8 kr fun ga9 wa9 Ga9=>wX [2]<|ym (row:=row8) (L:=T1++ []) [(bh,hdO h p n c q m k)] (q:=q8) (n:=n8) (c:=c8) (p:=bw) (Ga9.as kr) R8 (some 30) 45 #[.pointer (some ⟨bw,0,none⟩),.bool h.ad] (zii bw h.ad) (Nat.le_of_ble_eq_true kr) trivial kr kr ?_;rintro q9 n9 c9 row9 _ _ wb9 ⟨rfl,rfl⟩ R9 G9;refine zb<|wW ?_;clear G8 Ga9 R8;refine zf [0,1,2] kr kr<|rp [.v,.l 0] G9 kr fun ga10 wa10 Ga10=>wX [2]<|ym (row:=row9) (L:=T1++ []) [(bh,hdO h p n c q m k)] (q:=q9) (n:=n9) (c:=c9) (p:=bw) (Ga10.as kr) R9 (some 33) 43 #[.pointer (some ⟨bw,0,none⟩),.int .u64 ((h.rd:Nat):Int)] (ui bw h.rd) (Nat.le_of_ble_eq_true kr) trivial kr kr ?_;rintro q10 n10 c10 row10 _ _ wb10 ⟨rfl,rfl⟩ R10 G10;refine zb<|wW ?_;clear G9 Ga10 R9;refine zf [0,1,2] kr kr<|rp [.v,.l 0] G10 kr fun ga11 wa11 Ga11=>wX [2]<|ym (row:=row10) (L:=T1++ []) [(bh,hdO h p n c q m k)] (q:=q10) (n:=n10) (c:=c10) (p:=bw) (Ga11.as kr) R10 (some 36) 46 #[.pointer (some ⟨bw,0,none⟩),.slice q m k] (zin bw q m k h.ss (by omega) o.ss hss) (Nat.le_of_ble_eq_true kr) hP.2 kr kr ?_;rintro q11 n11 c11 row11 _ T2 wb11 ⟨qa2,na2,ca2,rfl,hT2⟩ R11 G11;refine zb<|wW ?_;clear G10 Ga11 R10;have nL:=R11.len (by decide);have hve: ∀x∈h.vs,ByteArray.size x≤0x800000000000:=fun x hx=>by have:=o.vs x hx;omega
 have hse: ∀x∈h.ss.map sgB,ByteArray.size x≤0x800000000000:=fun x hx=>by obtain ⟨y,_,rfl⟩:=List.mem_map.1 hx;rw [ua];omega
 refine rS [.v,.l 1,.v] G11 kr fun gs9 w9 H9=>rRr [.tmp 2] [] (.slice q11 n11 c11) (yn w.heap.size w (zdM h)) H9 kr ?_;have H10:St w.heap.size w w9 ((bh,hdO h p n c q m k)::(bw,wrO q11 n11 c11)::(row11++(T2++(T1++ [])))):=H9.as kr;refine ⟨row11++(T2++(T1++ [])),⟨q11,n11,c11,rfl,?_⟩,(H10.sub (List.sublist_cons_self ..)).sub (List.sublist_cons_self ..)⟩;have i1:=hT1.rIn (T:=[]) (by decide) (zdK hve []) (by show na1≤0x800000000000;have:=hT1.len (by decide);rw [List.length_map] at this;omega);have i2:=hT2.rIn (T:=[]) (by decide) (zdK hse []) (by show na2≤0x800000000000;have:=hT2.len (by decide);rw [List.length_map,List.length_map] at this;omega);rw [zdJ] at i1 i2;exact RowE.rIn (S:=fS) (L:=hdE h qa1 na1 ca1 qa2 na2 ca2) R11 (by decide) (zih o (i1.mono fun e he=>by simp at he ⊢;exact .inr he) (i2.mono fun e he=>by simp at he ⊢;exact .inl he)) (by show n11≤0x800000000000;rw [nL];exact Nat.le_of_ble_eq_true kr)
end Go.Proofs.YtbpmjppmpgeejaaGreatDoor
namespace Go.Proofs.YtbpmjppmpgeejaaGreatDoor
open Go Go.RowKit
set_option linter.unusedVariables false
def szM (h:Hdr):Bool:=(decide (h.pa.size=32)&&(decide (h.ro.size=32)&&decide (h.tx.size=32)))&&(decide (h.pr.size=20)&&decide (h.va.size≤8))
theorem zip (h:Hdr):ya h=(szM h&&(setM h.vs&&(voteB h.vo h.ad&&(decide (h.ss.length≤16)&&h.ss.all sgMay)))):=by
 unfold ya szM;cases decide (h.pa.size=32)<;>cases decide (h.ro.size=32)<;>cases decide (h.tx.size=32)<;>cases decide (h.pr.size=20)<;>cases decide (h.va.size≤8)<;>cases setM h.vs<;>cases voteB h.vo h.ad<;>cases decide (h.ss.length≤16)<;>rfl
theorem ziq (h:Hdr)(p:Option Addr)(n c:Nat)(q:Option Addr)(m k:Nat):Fn Tryz.prog 25 #[hdV h p n c q m k] (.bool (szM h)):=by
 refine Fn.intro (c:=zg Tryz.f25) [.tmp 2] 33 Tryz.func25 kr kr kr fun w=>rS [.b,.v] (St.start w) kr fun gs1 w1 H1=>?_;by_cases h_pa:h.pa.size=32
 case neg=>
  refine rS [.v,.l 0,.v,.E (.bool (((h.pa.size:Nat):Int)==32)) (.bool false) (za (beq_eq_false_iff_ne.2 (by omega))),.v,.n,.n,.n,.n,.v,.v,.n,.n,.n,.n,.v,.v] H1 kr fun gs2 w2 H2=>rS [.v,.v,.n,.n,.n,.n,.v,.v,.n,.n,.n,.n,.v,.v] H2 kr fun gs3 w3 H3=>?_;exact rRe [.tmp 2] [] (v:=.bool false) (v':=.bool (szM h)) H3 (za (by unfold szM;rw [decide_eq_false h_pa];first | rfl | simp)) kr
 by_cases h_ro:h.ro.size=32
 case neg=>
  refine rS [.v,.l 0,.v,.E (.bool (((h.pa.size:Nat):Int)==32)) (.bool true) (za (beq_iff_eq.2 (by omega))),.v,.v,.l 0,.v,.E (.bool (((h.ro.size:Nat):Int)==32)) (.bool false) (za (beq_eq_false_iff_ne.2 (by omega))),.v,.v,.n,.n,.n,.n,.v,.v] H1 kr fun gs2 w2 H2=>rS [.v,.v,.n,.n,.n,.n,.v,.v,.n,.n,.n,.n,.v,.v] H2 kr fun gs3 w3 H3=>?_;exact rRe [.tmp 2] [] (v:=.bool false) (v':=.bool (szM h)) H3 (za (by unfold szM;rw [decide_eq_false h_ro];first | rfl | simp)) kr
 by_cases h_tx:h.tx.size=32
 case neg=>
  refine rS [.v,.l 0,.v,.E (.bool (((h.pa.size:Nat):Int)==32)) (.bool true) (za (beq_iff_eq.2 (by omega))),.v,.v,.l 0,.v,.E (.bool (((h.ro.size:Nat):Int)==32)) (.bool true) (za (beq_iff_eq.2 (by omega))),.v,.v,.v,.l 0,.v,.E (.bool (((h.tx.size:Nat):Int)==32)) (.bool false) (za (beq_eq_false_iff_ne.2 (by omega))),.v,.v] H1 kr fun gs2 w2 H2=>rS [.v,.v,.n,.n,.n,.n,.v,.v,.n,.n,.n,.n,.v,.v] H2 kr fun gs3 w3 H3=>?_;exact rRe [.tmp 2] [] (v:=.bool false) (v':=.bool (szM h)) H3 (za (by unfold szM;rw [decide_eq_false h_tx];first | rfl | simp)) kr
 by_cases h_pr:h.pr.size=20
 case neg=>
  refine rS [.v,.l 0,.v,.E (.bool (((h.pa.size:Nat):Int)==32)) (.bool true) (za (beq_iff_eq.2 (by omega))),.v,.v,.l 0,.v,.E (.bool (((h.ro.size:Nat):Int)==32)) (.bool true) (za (beq_iff_eq.2 (by omega))),.v,.v,.v,.l 0,.v,.E (.bool (((h.tx.size:Nat):Int)==32)) (.bool true) (za (beq_iff_eq.2 (by omega))),.v,.v] H1 kr fun gs2 w2 H2=>rS [.v,.v,.v,.l 0,.v,.E (.bool (((h.pr.size:Nat):Int)==20)) (.bool false) (za (beq_eq_false_iff_ne.2 (by omega))),.v,.v,.n,.n,.n,.n,.v,.v] H2 kr fun gs3 w3 H3=>?_;exact rRe [.tmp 2] [] (v:=.bool false) (v':=.bool (szM h)) H3 (za (by unfold szM;rw [decide_eq_false h_pr];first | rfl | simp)) kr
 by_cases h_va:h.va.size≤8
 case neg=>
  refine rS [.v,.l 0,.v,.E (.bool (((h.pa.size:Nat):Int)==32)) (.bool true) (za (beq_iff_eq.2 (by omega))),.v,.v,.l 0,.v,.E (.bool (((h.ro.size:Nat):Int)==32)) (.bool true) (za (beq_iff_eq.2 (by omega))),.v,.v,.v,.l 0,.v,.E (.bool (((h.tx.size:Nat):Int)==32)) (.bool true) (za (beq_iff_eq.2 (by omega))),.v,.v] H1 kr fun gs2 w2 H2=>rS [.v,.v,.v,.l 0,.v,.E (.bool (((h.pr.size:Nat):Int)==20)) (.bool true) (za (beq_iff_eq.2 (by omega))),.v,.v,.v,.l 0,.v,.E (.bool (decide (((h.va.size:Nat):Int)≤8))) (.bool false) (za (decide_eq_false (by omega))),.v,.v] H2 kr fun gs3 w3 H3=>?_;exact rRe [.tmp 2] [] (v:=.bool false) (v':=.bool (szM h)) H3 (za (by unfold szM;rw [decide_eq_false h_va];first | rfl | simp)) kr
 refine rS [.v,.l 0,.v,.E (.bool (((h.pa.size:Nat):Int)==32)) (.bool true) (za (beq_iff_eq.2 (by omega))),.v,.v,.l 0,.v,.E (.bool (((h.ro.size:Nat):Int)==32)) (.bool true) (za (beq_iff_eq.2 (by omega))),.v,.v,.v,.l 0,.v,.E (.bool (((h.tx.size:Nat):Int)==32)) (.bool true) (za (beq_iff_eq.2 (by omega))),.v,.v] H1 kr fun gs2 w2 H2=>rS [.v,.v,.v,.l 0,.v,.E (.bool (((h.pr.size:Nat):Int)==20)) (.bool true) (za (beq_iff_eq.2 (by omega))),.v,.v,.v,.l 0,.v,.E (.bool (decide (((h.va.size:Nat):Int)≤8))) (.bool true) (za (decide_eq_true (by omega))),.v,.v] H2 kr fun gs3 w3 H3=>?_;exact rRe [.tmp 2] [] (v:=.bool true) (v':=.bool (szM h)) H3 (za (by unfold szM;rw [decide_eq_true h_pa,decide_eq_true h_ro,decide_eq_true h_tx,decide_eq_true h_pr,decide_eq_true h_va];first | rfl | simp)) kr
theorem zir (p:Option Addr)(n c:Nat)(L:List ByteArray)(hL:L.length≤1000000):FnP Tryz.prog 26 #[.slice p n c] (fun w=>AtF sS w p n L) (.bool (setM L)):=by
 refine FnP.intro (c:=zg Tryz.f26) [.tmp 2] 37 Tryz.func26 kr kr kr fun w hP=>?_;have hn:=hP.1;have H0:=St.start w;refine rS [.v] H0 kr fun gs1 w1 H1=>zd kr ?_;by_cases h0:n=0
 ·refine rS [.v,.v,.E (.bool ((n:Int)==0)) (.bool true) (za (beq_iff_eq.2 (by omega))),.v,.n,.n,.n,.v] H1 kr fun gs2 w2 H2=>yb<|rS [.v] H2 kr fun gs3 w3 H3=>?_;exact rRe [.tmp 2] [] (v:=.bool false) (v':=.bool (setM L)) H3 (za (by unfold setM;rw [←hn,decide_eq_false (show ¬0<n by omega)];simp)) kr
 by_cases h16:n≤16
 case neg=>
  refine rS [.v,.v,.E (.bool ((n:Int)==0)) (.bool false) (za (beq_eq_false_iff_ne.2 (by omega))),.v,.v,.v,.E (.bool (decide ((n:Int)>16))) (.bool true) (za (decide_eq_true (by omega))),.v] H1 kr fun gs2 w2 H2=>yb<|rS [.v] H2 kr fun gs3 w3 H3=>?_;exact rRe [.tmp 2] [] (v:=.bool false) (v':=.bool (setM L)) H3 (za (by unfold setM;rw [←hn,decide_eq_false h16];simp)) kr
 refine rS [.v,.v,.E (.bool ((n:Int)==0)) (.bool false) (za (beq_eq_false_iff_ne.2 (by omega))),.v,.v,.v,.E (.bool (decide ((n:Int)>16))) (.bool false) (za (decide_eq_false (by omega))),.v] H1 kr fun gs2 w2 H2=>yZ<|wW<|zd kr<|rS [.v,.v,.v] H2 kr fun gs3 w3 H3=>jt 15 14 16 36 0 1 n (by omega) (fun i ρ ww=>jM none L=jM (xb L i) (L.drop i)∧St w.heap.size w ww []∧Is [(0,.slice p n c),(13,.slice p n c),(14,iN n),(15,iN i)] ρ) (by rintro i _ ww ⟨_,_,_,rfl⟩;exact ⟨kr,kr⟩) ⟨rfl,H3.as kr,isK⟩ ?_ ?_
 ·clear H0 H1 H2 H3;rintro i _ w4 hi ⟨hst,H5,_,rfl⟩;obtain ⟨x,hx⟩:∃x,L[i]? =some x:=⟨_,List.getElem?_eq_getElem (by omega)⟩
  obtain ⟨bl,off,C,T,fz,hp,hh,hR⟩:=hP.row2 (by omega);have hcx:C[off+i*1]? =some (.string x):=hR.cell hx 0 (by decide);rw [zax hx] at hst;change jM none L=(decide (x.size=20)&&(upB (xb L i) x&&jM (some x) (L.drop (i+1)))) at hst;refine rS [.v,.o (ins:=[((.tmp 13),.slice p n c),((.tmp 15),iN i)]) (v:=.pointer (some ⟨bl,off+i*1,none⟩)) (fun ρ o w ho hi2=>zU (kd:=.i64) (t:=23) (e:=9) (K:=1) (bytes:=16) kr (x:=(.tmp 13)) (y:=(.tmp 15)) bl off n c i hp ho hi2.1 hi2.2.1 (by omega) w),.fs (off:=off+i*1) (v:=.string x) hh (zC hh) hcx,.v,.v] H5 kr fun gs5 w6 H7=>?_;by_cases h1:x.size=20
  case neg=>
   refine rS [.v,.v,.E (.bool (!((x.size:Int)==20))) (.bool true) (za (by rw [beq_eq_false_iff_ne.2 (by omega)];rfl)),.v,.n,.n,.n,.n,.n,.n,.n,.n,.n,.n,.n,.v] H7 kr fun gs6 w7 H8=>yb<|rS [.v] H8 kr fun gs7 w8 H9=>?_;exact rRe [.tmp 2] [] (v:=.bool false) (v':=.bool (setM L)) H9 (za (by unfold setM;rw [hst,decide_eq_false h1];rfl)) kr
  rw [decide_eq_true h1] at hst;by_cases h0:i=0
  ·have hup:upB (xb L i) x=true:=by subst h0;rfl
   refine rS [.v,.v,.E (.bool (!((x.size:Int)==20))) (.bool false) (za (by rw [beq_iff_eq.2 (show (x.size:Int)=20 by omega)];rfl)),.v,.v,.E (.bool (decide ((i:Int)>0))) (.bool false) (za (decide_eq_false (by omega))),.v,.n,.n,.n,.n,.n,.n,.n,.v,.v] H7 kr fun gs6 w7 H8=>yZ ?_;exact ⟨kr,by rw [zdD hx,hst,hup];rfl,H8.as kr,isK⟩
  ·obtain ⟨y,hy⟩:∃y,L[i-1]? =some y:=⟨_,List.getElem?_eq_getElem (by omega)⟩
   have hcell:C[off+(i-1)*1]? =some (.string y):=hR.cell hy 0 (by decide);have hpv:upB (xb L i) x=lexB (tl y) (tl x):=by unfold xb;rw [if_neg h0,hy];rfl
   rw [hpv] at hst;cases hup:lexB (tl y) (tl x) with
   | false=>
    refine rS [.v,.v,.E (.bool (!((x.size:Int)==20))) (.bool false) (za (by rw [beq_iff_eq.2 (show (x.size:Int)=20 by omega)];rfl)),.v,.v,.E (.bool (decide ((i:Int)>0))) (.bool true) (za (decide_eq_true (by omega))),.v,.v,.v,.E (.int .i64 (IntKind.i64.wrap ((i:Int)-1))) (iN (i-1)) (zr (uB (a:=i) (b:=1) (by omega))),.o (ins:=[((.tmp 27),.slice p n c),((.tmp 29),iN (i-1))]) (v:=.pointer (some ⟨bl,off+(i-1)*1,none⟩)) (fun ρ o w ho hi2=>zU (kd:=.i64) (t:=23) (e:=9) (K:=1) (bytes:=16) kr (x:=(.tmp 27)) (y:=(.tmp 29)) bl off n c (i-1) hp ho hi2.1 hi2.2.1 (by omega) w),.fs (off:=off+(i-1)*1) (v:=.string y) hh (zC hh) hcell,.v,.E (.bool (!(Op.bytesLess y.toList x.toList))) (.bool true) (za (by rw [zdp,hup];rfl)),.v,.v] H7 kr fun gs6 w7 H8=>yb<|rS [.v] H8 kr fun gs7 w8 H9=>?_;exact rRe [.tmp 2] [] (v:=.bool false) (v':=.bool (setM L)) H9 (za (by unfold setM;rw [hst,hup];rfl)) kr
   | true=>
    refine rS [.v,.v,.E (.bool (!((x.size:Int)==20))) (.bool false) (za (by rw [beq_iff_eq.2 (show (x.size:Int)=20 by omega)];rfl)),.v,.v,.E (.bool (decide ((i:Int)>0))) (.bool true) (za (decide_eq_true (by omega))),.v,.v,.v,.E (.int .i64 (IntKind.i64.wrap ((i:Int)-1))) (iN (i-1)) (zr (uB (a:=i) (b:=1) (by omega))),.o (ins:=[((.tmp 27),.slice p n c),((.tmp 29),iN (i-1))]) (v:=.pointer (some ⟨bl,off+(i-1)*1,none⟩)) (fun ρ o w ho hi2=>zU (kd:=.i64) (t:=23) (e:=9) (K:=1) (bytes:=16) kr (x:=(.tmp 27)) (y:=(.tmp 29)) bl off n c (i-1) hp ho hi2.1 hi2.2.1 (by omega) w),.fs (off:=off+(i-1)*1) (v:=.string y) hh (zC hh) hcell,.v,.E (.bool (!(Op.bytesLess y.toList x.toList))) (.bool false) (za (by rw [zdp,hup];rfl)),.v,.v] H7 kr fun gs6 w7 H8=>yZ ?_;exact ⟨kr,by rw [zdD hx,hst,hup];rfl,H8.as kr,isK⟩
 ·rintro _ w4 ⟨hst,H5,_,rfl⟩;rw [List.drop_of_length_le (by omega)] at hst;refine wW<|rS [.v] H5 kr fun gs6 w7 H8=>?_;exact rRe [.tmp 2] [] (v:=.bool true) (v':=.bool (setM L)) H8 (za (by unfold setM;rw [hst,←hn,decide_eq_true (show 0<n by omega),decide_eq_true h16];rfl)) kr
theorem zis (h:Hdr)(p:Option Addr)(n c:Nat)(q:Option Addr)(m k:Nat):Fn Tryz.prog 27 #[hdV h p n c q m k] (.bool (voteB h.vo h.ad)):=by
 refine Fn.intro (c:=zg Tryz.f27) [.tmp 2] 17 Tryz.func27 kr kr kr fun w=>rS [.b,.v] (St.start w) kr fun gs1 w1 H1=>?_;by_cases h1:h.vo.size=20
 ·refine rS [.v,.l 0,.v,.E (.bool (((h.vo.size:Nat):Int)==20)) (.bool true) (za (beq_iff_eq.2 (by omega))),.v,.n,.n,.n,.n,.n,.n,.n,.n,.v,.v] H1 kr fun gs2 w2 H2=>?_;exact rRe [.tmp 2] [] (v:=.bool true) (v':=.bool (voteB h.vo h.ad)) H2 (za (by unfold voteB;rw [if_neg (by omega),decide_eq_true h1])) kr
 by_cases h0:h.vo=em
 ·refine rS [.v,.l 0,.v,.E (.bool (((h.vo.size:Nat):Int)==20)) (.bool false) (za (beq_eq_false_iff_ne.2 (by omega))),.v,.v,.l 0,.E (.bool (h.vo.toList==em.toList)) (.bool true) (za (zD _ _ h0)),.v,.v,.l 0,.v,.v,.v,.v] H1 kr fun gs2 w2 H2=>?_;exact rRe [.tmp 2] [] (v:=.bool (!h.ad)) (v':=.bool (voteB h.vo h.ad)) H2 (za (by unfold voteB;rw [if_pos (by rw [h0];rfl)])) kr
 ·have h00:h.vo.size≠0:=fun e=>h0 (jJ e);refine rS [.v,.l 0,.v,.E (.bool (((h.vo.size:Nat):Int)==20)) (.bool false) (za (beq_eq_false_iff_ne.2 (by omega))),.v,.v,.l 0,.E (.bool (h.vo.toList==em.toList)) (.bool false) (za (yL _ _ h0)),.v,.n,.n,.n,.v,.v,.v] H1 kr fun gs2 w2 H2=>?_;exact rRe [.tmp 2] [] (v:=.bool false) (v':=.bool (voteB h.vo h.ad)) H2 (za (by unfold voteB;rw [if_neg h00,decide_eq_false h1])) kr
theorem zit (p:Option Addr)(n c:Nat)(L:List Sg)(hL:L.length≤1000)(ho: ∀x∈L,sgOk x):FnP Tryz.prog 28 #[.slice p n c] (fun w=>AtF sgF w p n L) (.bool (decide (L.length≤16)&&L.all sgMay)):=by
 refine FnP.intro (c:=zg Tryz.f28) [.tmp 2] 24 Tryz.func28 kr kr kr fun w hP=>?_;have hn:=hP.1;rw [←hn];have H0:=St.start w;refine rS [.v] H0 kr fun gs1 w1 H1=>zd kr ?_;by_cases h16:n≤16
 case neg=>
  refine rS [.v,.v,.E (.bool (decide ((n:Int)>16))) (.bool true) (za (decide_eq_true (by omega)))] H1 kr fun gs2 w2 H2=>yb<|rS [.v] H2 kr fun gs3 w3 H3=>?_;exact rRe [.tmp 2] [] (v:=.bool false) (v':=.bool (decide (n≤16)&&L.all sgMay)) H3 (za (by rw [decide_eq_false h16];rfl)) kr
 refine rS [.v,.v,.E (.bool (decide ((n:Int)>16))) (.bool false) (za (decide_eq_false (by omega)))] H1 kr fun gs2 w2 H2=>yZ<|wW ?_;rw [decide_eq_true h16,Bool.true_and];refine zd kr<|rS [.v,.v,.v] H2 kr fun gs3 w3 H3=>jt 12 11 13 23 0 1 n (by omega) (fun i ρ ww=>(L.take i).all sgMay=true∧St w.heap.size w ww []∧Is [(10,.slice p n c),(11,iN n),(12,iN i)] ρ) (by rintro i _ ww ⟨_,_,_,rfl⟩;exact ⟨kr,kr⟩) ⟨rfl,H3.as kr,isK⟩ ?_ ?_
 ·clear H0 H1 H2 H3;rintro i _ w7 hi ⟨hst,H7,_,rfl⟩;obtain ⟨x,hx⟩:∃x,L[i]? =some x:=⟨_,List.getElem?_eq_getElem (by omega)⟩
  obtain ⟨bl,off,C,T,fz,hp,hh,hR⟩:=hP.row2 (by omega);have hxm:=List.mem_of_getElem? hx;have hxo:=ho x hxm;refine rS [.o (ins:=[((.tmp 10),.slice p n c),((.tmp 12),iN i)]) (v:=.pointer (some ⟨bl,off+i*9,none⟩)) (fun ρ o w ho hi2=>zU (kd:=.i64) (t:=24) (e:=50) (K:=9) (bytes:=72) kr (x:=(.tmp 10)) (y:=(.tmp 12)) bl off n c i hp ho hi2.1 hi2.2.1 (by omega) w),.fp (off:=off+i*9) (n:=9) (W:=sgC x) hh (zC hh) (hR _ _ hx).1 (hR _ _ hx).2,.a,.s 0] H7 kr fun gs7 w8 H8=>?_;cases hmy:sgMay x with
  | false=>
   refine rS [.l 0,.c (zhH x.1 x.2.1 hxo.1 hxo.2 x.2.2 hmy),.v,.v,.v,.v,.v] H8 kr fun gs8 w9 H9=>rS [.v,.v] H9 kr fun gs9 w10 H10=>yb<|rS [.v] H10 kr fun gs10 w11 H11=>?_;exact rRe [.tmp 2] [] (v:=.bool false) (v':=.bool (L.all sgMay)) H11 (congrArg Value.bool (Bool.eq_false_iff.2 fun e=>by have:=List.all_eq_true.1 e x hxm;rw [hmy] at this;cases this).symm) kr
  | true=>
   refine rS [.l 0,.c (zdh x.1 x.2.1 hxo.1 hxo.2 x.2.2 hmy),.v,.v,.v,.v,.v] H8 kr fun gs8 w9 H9=>rS [.v,.v] H9 kr fun gs9 w10 H10=>yZ ?_;exact ⟨kr,by rw [qW hx,List.all_append,hst];simp [hmy],(H10.as (l:=[((gs7 2).b,sgO x)]) kr).sub (List.nil_sublist _),isK⟩
 ·rintro _ w7 ⟨hst,H7,_,rfl⟩;refine wW ?_;rw [List.take_of_length_le (by omega)] at hst;refine rS [.v] H7 kr fun gs7 w8 H8=>?_;exact rRe [.tmp 2] [] (v:=.bool true) (v':=.bool (L.all sgMay)) H8 (congrArg Value.bool hst.symm) kr
theorem uj (h:Hdr)(o:zaJ h)(p:Option Addr)(n c:Nat)(q:Option Addr)(m k:Nat):FnP Tryz.prog 11 #[hdV h p n c q m k] (fun w=>yU w h p n q m) (.bool (ya h)):=by
 have hvl:=o.vl;have hsl:=o.sl;have hsz:=ziq h p n c q m k;have hst:=zir p n c h.vs (by omega);have hvt:=zis h p n c q m k;have hse:=zit q m k h.ss hsl o.ss;rw [zip h];refine FnP.intro (c:=zg Tryz.f11) [.tmp 2] 19 Tryz.func11 kr kr kr fun w hP=>rS [.b,.v] (St.start w) kr fun gs1 w1 H1=>?_;generalize szM h=b1 at*;generalize setM h.vs=b2 at*;generalize voteB h.vo h.ad=b3 at*;generalize (decide (h.ss.length≤16)&&h.ss.all sgMay)=b4 at*;cases b1 with
 | false=>
  refine rS [.l 0,.c hsz,.v,.n,.n,.n,.v,.v,.n,.n,.v,.v,.n,.n,.n,.v,.v] H1 kr fun gs2 w2 H2=>?_;exact rR [.tmp 2] [] (.bool false) H2 kr
 | true=>
  cases b2 with
  | false=>
   refine rS [.l 0,.c hsz,.v,.v,.l 0,.cp (pre:=fun w=>AtF sS w p n h.vs) hst [] (fun w hb hd=>hP.1.call hb),.v,.v,.n,.n,.v,.v,.n,.n,.n,.v,.v] H1 kr fun gs2 w2 H2=>?_;exact rR [.tmp 2] [] (.bool false) H2 kr
  | true=>
   cases b3 with
   | false=>
    refine rS [.l 0,.c hsz,.v,.v,.l 0,.cp (pre:=fun w=>AtF sS w p n h.vs) hst [] (fun w hb hd=>hP.1.call hb),.v,.v,.l 0,.c hvt,.v,.v,.n,.n,.n,.v,.v] H1 kr fun gs2 w2 H2=>?_;exact rR [.tmp 2] [] (.bool false) H2 kr
   | true=>
    refine rS [.l 0,.c hsz,.v,.v,.l 0,.cp (pre:=fun w=>AtF sS w p n h.vs) hst [] (fun w hb hd=>hP.1.call hb),.v,.v,.l 0,.c hvt,.v,.v,.v,.l 0,.cp (pre:=fun w=>AtF sgF w q m h.ss) hse [] (fun w hb hd=>hP.2.call hb),.v,.v] H1 kr fun gs2 w2 H2=>?_;exact rR [.tmp 2] [] (.bool b4) H2 kr
end Go.Proofs.YtbpmjppmpgeejaaGreatDoor
namespace Go.Proofs.Kec
set_option maxRecDepth 100000
end Go.Proofs.Kec
namespace Go.Proofs.YtbpmjppmpgeejaaGreatDoor.Ke
open Go Go.RowKit Go.Proofs.Kec
set_option linter.unusedVariables false
end Go.Proofs.YtbpmjppmpgeejaaGreatDoor.Ke
namespace Go.Proofs.YtbpmjppmpgeejaaGreatDoor
open Go Go.RowKit
open D2 (Gh)
set_option linter.unusedVariables false
theorem ziu (h:Hdr):(qi h).size≤4000:=zhq _ _
end Go.Proofs.YtbpmjppmpgeejaaGreatDoor
namespace Go.Proofs.YtbpmjppmpgeejaaGreatDoor
open Go Go.RowKit
open D2 (Gh)
set_option linter.unusedVariables false
abbrev zdN:Value:=.tuple #[.string em,.int .i64 1]
theorem ziv {h:Hdr}(hr:ya h=true):jr (wrV yT (hdF h))=.tuple #[.string (qi h),.int .i64 0]:=by
 unfold jr qi;rw [zaE hr];rfl
theorem zdO (h:Hdr)(o:zaJ h)(hr:ya h=false)(p:Option Addr)(n c:Nat)(q:Option Addr)(m k:Nat):FnP Tryz.prog 7 #[hdV h p n c q m k] (fun w=>yU w h p n q m) zdN:=by
 have hR:=uj h o p n c q m k;rw [hr] at hR;refine FnP.intro (c:=zg Tryz.f7) [.tmp 2,.tmp 3] 12 Tryz.func7 kr kr kr fun w hP=>rS [.b,.v,.v] (St.start w) kr fun gs1 w1 H1=>zd kr<|rS [.l 0,.cp hR [] (fun w hb hd=>hP.call hb),.v] H1 kr fun gs2 w2 H2=>yb<|rS [.v,.v] H2 kr fun gs3 w3 H3=>?_;exact rR [.tmp 2,.tmp 3] [] zdN H3 kr
theorem uk (h:Hdr)(o:ye h)(hr:ya h=true)(p:Option Addr)(n c:Nat)(q:Option Addr)(m k:Nat):FnP Tryz.prog 7 #[hdV h p n c q m k] (fun w=>yU w h p n q m) (.tuple #[.string (qi h),.int .i64 0]):=by
 have hR:=uj h o.sm p n c q m k;rw [hr] at hR;refine FnP.intro (c:=zg Tryz.f7) [.tmp 2,.tmp 3] 12 Tryz.func7 kr kr kr fun w hP=>rS [.b,.v,.v] (St.start w) kr fun gs1 w1 H1=>zd kr<|rS [.l 0,.cp hR [] (fun w hb hd=>hP.call hb),.v] H1 kr fun gs2 w2 H2=>yZ<|wW<|zf [0,1,2,3,4,5,6] kr kr<|rp [.l 0] H2 kr fun gs3 w3 H3=>wX [1,2,3,4,5,6] ?_;have H4:St w.heap.size w w3 [((gs1 0).b,hdO h p n c q m k)]:=H3.as kr;refine qH H4 (some 8) 23 #[hdV h p n c q m k] (zio h o hr p n c q m k) (hP.call H4.below) kr kr ?_;rintro _ T w4 ⟨pf,nf,cf,rfl,hin⟩ H5;refine yJ H5 (some 9) 22 #[.string yT,.slice pf nf cf] _ _ (zhk yT pf nf cf (hdF h)) (hin.at H5 fun e he=>List.mem_append_left _ he) (fun w=>by kernel_rfl) kr ?_;intro w5 H6;refine rp [.v,.v,.v,.v] H6 kr fun gs4 w6 H7=>wX []<|zb<|wW ?_;exact rRe [.tmp 2,.tmp 3] [] (v:=jr (wrV yT (hdF h))) (v':=.tuple #[.string (qi h),.int .i64 0]) H7 (ziv hr) kr
end Go.Proofs.YtbpmjppmpgeejaaGreatDoor
namespace Go.Proofs.YtbpmjppmpgeejaaGreatDoor
open Go Go.RowKit
open D2 (Gh)
set_option linter.unusedVariables false
def z32:ByteArray:=zh (List.replicate 32 0)
def z20:ByteArray:=z32.extract 0 20
theorem kA:z32.size=32:=by decide
theorem zdP:z20.size=20:=by decide
def qF:Hdr:=⟨z32,0,z32,z32,z20,em,[z20],em,false,0,[]⟩
theorem zdQ:ya qF=true:=jN.2 ⟨kA,kA,kA,zdP,Nat.zero_le _,by decide,rfl,by decide,rfl⟩
theorem zdR:ye qF:=by
 have h1:=kA;have h2:=zdP;exact ⟨by decide,by decide,by show z32.size≤_;omega,by show z32.size≤_;omega,by show z32.size≤_;omega,by show z20.size≤_;omega,Nat.zero_le _,Nat.zero_le _,(fun x hx=>by rw [List.mem_singleton.1 hx];omega),by decide,(fun _ h=>nomatch h),by decide⟩
def zdS (v:Value)(T:List (Nat×Obj)):Prop:=∃b,v=hdV qF (some ⟨b,0,none⟩) 1 1 none 0 0∧T=[(b,.cells #[.string z20] 9 (0,0))]
theorem zdT {w w0:World}{B b:Nat}{l:List (Nat×Obj)}(H:St B w0 w l)(hm:(b,Obj.cells #[.string z20] 9 (0,0))∈l):yU w qF (some ⟨b,0,none⟩) 1 none 0:=
 ⟨⟨rfl,.inr ⟨b,0,_,_,_,rfl,(H.own _ hm).2,Rw.rowAt (S:=sS) (cap:=1) (n:=1) ⟨rfl,Nat.le_refl _,by decide,rfl,rfl⟩⟩⟩,rfl,.inl rfl⟩
theorem zdU:FnT Tryz.prog 31 #[] (fun _=>True) zdS:=by
 refine FnT.intro (c:=zg Tryz.f31) [.cell 0 26] 13 Tryz.func31 kr kr kr fun w _=>rS [.a] (St.start w) kr fun gs1 w1 H1=>zf [0,1,2] kr kr<|zbl H1 (some 2) 76 5 1 (.int .u8 0) (.const (.int .i64 32)) (.const (.int .i64 32)) .i64 .i64 32 kr kr kr kr rfl kr kr (by decide) (by decide) ?_;intro b cur w2 H2 hr;rw [←zbq] at hr;refine zeA H2 (some 3) 76 9 5 (.tmp 2) 0 b 32 32 cur 5 (0,0) (List.replicate 32 0) kr kr kr kr kr kr kr hr ?_;have H3:=H2.sub (List.sublist_cons_self ..);refine rp [.v] H3 kr fun gs2 w3 H4=>wX []<|zb<|wW<|xP [(0,.pointer (some ⟨(gs1 0).b,0,none⟩)),(1,.string z32)] kr fun ρ1=>?_;have hz:=kA;refine dSg (fun gs=>[.v,.v,.v,.v,.o (ins:=[((.tmp 7),.string z32),((.const (.int .i64 20)),iN 20)]) (v:=.string z20) (fun ρ o w ho hi=>jB (t:=9) (kd:=.i64) kr (x:=(.tmp 7)) (y:=(.const (.int .i64 20))) z32 20 ho hi.1 hi.2.1 (by omega) w),.v,.o (ins:=[((.tmp 9),.string z32),((.const (.int .i64 20)),iN 20)]) (v:=.string z20) (fun ρ o w ho hi=>jB (t:=9) (kd:=.i64) kr (x:=(.tmp 9)) (y:=(.const (.int .i64 20))) z32 20 ho hi.1 hi.2.1 (by omega) w),.nw (fun b=>.slice (some ⟨b,0,none⟩) 1 1) #[.string z20] 9,.v,.s 0]) H4 kr fun gs3 w4 H5=>rRr [.cell 0 26] [0] (hdV qF (some ⟨(gs3 7).b,0,none⟩) 1 1 none 0 0) (yn w.heap.size w zdS) H5 kr ?_;exact ⟨_,⟨(gs3 7).b,rfl,rfl⟩,(H5.as (l:=[((gs1 0).b,hdO qF (some ⟨(gs3 7).b,0,none⟩) 1 1 none 0 0),((gs3 7).b,.cells #[.string z20] 9 (0,0))]) kr).sub (List.sublist_cons_self ..)⟩
end Go.Proofs.YtbpmjppmpgeejaaGreatDoor
namespace Go.Proofs.YtbpmjppmpgeejaaGreatDoor
open Go Go.RowKit
open D2 (Gh)
set_option linter.unusedVariables false
theorem ziw {α:Type}{S:Fl α}{w:World}{b m k:Nat}{cur:Array Value}{T:TypeId}{M:List α}(h:Rw S.K cur k m (cellsF S M))(hh:w.heap[b]? =some (.cells cur T (0,0))):AtF S w (some ⟨b,0,none⟩) m M:=⟨h.lenF.symm,.inr ⟨b,0,cur,T,(0,0),rfl,hh,h.rowAt⟩⟩
theorem zix:100<(qi qF).size:=by decide+kernel
theorem zdV:Fn Tryz.prog 13 #[] (.bool true):=by
 have hz:=zix;refine Fn.intro (c:=zg Tryz.f13) [.tmp 0] 19 Tryz.func13 kr kr kr fun w=>rS [.v] (St.start w) kr fun gs1 w1 H1=>?_;have H2:St w.heap.size w w1 []:=H1.as kr;refine zf [0,1,2,3,4,5,6] kr kr<|qH H2 (some 4) 31 #[] zdU trivial kr kr ?_;rintro _ _ w2 ⟨b,rfl,rfl⟩ H3;refine yJ H3 (some 5) 7 #[hdV qF (some ⟨b,0,none⟩) 1 1 none 0 0] _ _ (uk qF zdR zdQ (some ⟨b,0,none⟩) 1 1 none 0 0) (zdT H3 (List.mem_cons_self ..)) (fun w=>by kernel_rfl) kr ?_;intro w3 H4;refine rp [.v,.v,.v,.v,.v] H4 kr fun gs2 w4 H5=>wX []<|zb<|wW<|zf [0,1,2,3,4,5,6,7,8,9,10,11] kr kr<|rp [.v,.v,.v,.v,.v,.E (.bool (decide ((((qi qF).size:Nat):Int)>100))) (.bool true) (za (decide_eq_true (by omega))),.v,.v] H5 kr fun gs3 w5 H6=>wX [8,9,10,11]<|qH H6 (some 16) 31 #[] zdU trivial kr kr ?_;rintro _ _ w6 ⟨b,rfl,rfl⟩ H7;have hR:=uj qF zdR.sm (some ⟨b,0,none⟩) 1 1 none 0 0;rw [zdQ] at hR;refine yJ H7 (some 17) 11 #[hdV qF (some ⟨b,0,none⟩) 1 1 none 0 0] _ _ hR (zdT H7 (List.mem_cons_self ..)) (fun w=>by kernel_rfl) kr ?_;intro w7 H8;refine rp [.v,.v] H8 kr fun gs4 w8 H9=>wX []<|zb ?_;exact rR [.tmp 0] [] (.bool true) H9 kr
end Go.Proofs.YtbpmjppmpgeejaaGreatDoor
namespace Go.Proofs.YtbpmjppmpgeejaaGreatDoor
open Go Go.RowKit
set_option linter.unusedVariables false
theorem ziy {α:Type}{S:Fl α}{P:Program}{ρ:Env}{w w0:World}{B:Nat}{l:List (Nat×Obj)}(HS:St B w0 w l){t e bytes:Nat}{s x:Operand}{o:Oper}{j b n cap m c:Nat}{p:Option Addr}{cur:Array Value}{xs:List Value}{M:List α}(ht:zY P t=some (e,S.K,bytes))(ho:o.op=yi t s x)
 (hs:ev ρ s=.slice (some ⟨b,0,none⟩) n cap) (hj:l[j]? =some (b,.cells cur e (0,0))) (hr:Rw S.K cur cap n xs) (hx:ev ρ x=.slice p m c) (hA:AtF S w p m M) (hp:qy p m c)
 (hb:(n+m)*bytes≤0x800000000000) (hm:n+m≤maxLen):∃b' cap' cur' w',(execOp (ev ρ) o).run P w=.ok (.value (.slice (some ⟨b',0,none⟩) (n+m) cap')) w'∧St B w0 w' (l.set j (b',.cells cur' e (0,0)))∧Rw S.K cur' cap' (n+m) (xs++cellsF S M):=by
 rcases hp with ⟨rfl,rfl,rfl⟩|⟨⟨a,rfl⟩,_⟩
 ·obtain ⟨it,z,hu,hi,hz,hsz,hby,hzs,hz0⟩:=yP ht;obtain rfl:M=[]:=List.length_eq_zero_iff.1 hA.1.symm;have hrun:=run_append_nothing (P:=P) w t t o.type e it hu hi (some ⟨b,0,none⟩) n cap hr.le (.slice none 0 0) ⟨.inl ⟨e,hu⟩,fun w'=>by simp [Builtin.lenOf],by simp [Builtin.firstCells],by simp [Builtin.firstCells],by simp,(fun _ h=>by cases h)⟩;refine ⟨b,cap,cur,w,?_,?_,?_⟩
  ·unfold execOp;simp only [ho,yi,resolve,invoke,builtin,Sem.run_bind,Sem.run_pure,Result.andThen_ok,List.map_toArray,List.map_cons,List.map_nil,hs,hx,hrun,Nat.add_zero]
  ·obtain ⟨hlt,he⟩:=List.getElem?_eq_some_iff.1 hj;rw [←he,List.set_getElem_self];exact HS
  ·simpa [cellsF] using hr
 ·refine zeE (S:=S) HS ht ho hs hj hr hx hA.1 ?_ hb hm;rcases hA.2 with h | ⟨bx,off,C,T,fz,e1,h2,h3⟩
  ·exact .inl h
  ·exact .inr ⟨bx,off,C,T,fz,Option.some.inj e1,h2,h3⟩
theorem ziz {α:Type}{M:List α}{i:Nat}{x:α}(h:M[i]? =some x):M=M.take i++x::M.drop (i+1)∧(M.take i).length=i:=by
 obtain ⟨hi,rfl⟩:=List.getElem?_eq_some_iff.1 h;exact ⟨by rw [List.getElem_cons_drop,List.take_append_drop],by rw [List.length_take];omega⟩
theorem Rw.setF {α:Type}{S:Fl α}{cur:Array Value}{cap n i:Nat}{M:List α}{x y:α}(h:Rw S.K cur cap n (cellsF S M))(hM:M[i]? =some x)(j:Nat)(v:Value)(hj:j+v.cells.size≤S.K)(hx:(S.cs x).take j++v.cells.toList++(S.cs x).drop (j+v.cells.size)=S.cs y):
 0+i*S.K+j+v.cells.size≤cur.size∧Rw S.K (Go.Proofs.YtbpmjppmpgeejaaGreatDoor.putA cur (0+i*S.K+j) v) cap n (cellsF S (M.set i y)):=by
 have hl:M.length=n:=h.lenF;have hi:=(List.getElem?_eq_some_iff.1 hM).1;obtain ⟨e1,e2⟩:=ziz hM;have hlt:(i+1)*S.K≤n*S.K:=Nat.mul_le_mul_right _ (by omega);rw [Nat.succ_mul] at hlt;have hp:=h.putA (0+i*S.K+j) v (by omega);refine ⟨hp.1,?_⟩;have hc:(cellsF S (M.take i)).length=i*S.K:=by rw [xm,e2]
 have hxl:=S.len x;have eM:cellsF S M=cellsF S (M.take i)++(S.cs x++cellsF S (M.drop (i+1))):=by
  conv=>lhs;rw [e1]
  rw [kY];rfl
 have eS:cellsF S (M.set i y)=cellsF S (M.take i)++(S.cs y++cellsF S (M.drop (i+1))):=by
  rw [List.set_eq_take_append_cons_drop,if_pos hi,kY];rfl
 have q:=hp.2;rw [eM] at q;rw [eS,←hx];have t1:(cellsF S (M.take i)++(S.cs x++cellsF S (M.drop (i+1)))).take (0+i*S.K+j)=cellsF S (M.take i)++(S.cs x).take j:=by
  rw [List.take_append,hc,show 0+i*S.K+j-i*S.K=j by omega,List.take_of_length_le (by rw [hc];omega),List.take_append_of_le_length (by omega)]
 have t2:(cellsF S (M.take i)++(S.cs x++cellsF S (M.drop (i+1)))).drop (0+i*S.K+j+v.cells.size)=(S.cs x).drop (j+v.cells.size)++cellsF S (M.drop (i+1)):=by
  rw [List.drop_append,hc,show 0+i*S.K+j+v.cells.size-i*S.K=j+v.cells.size by omega,List.drop_of_length_le (by rw [hc];omega),List.nil_append,List.drop_append_of_le_length (by omega)]
 rw [t1,t2] at q;rw [show cellsF S (M.take i)++((S.cs x).take j++v.cells.toList++(S.cs x).drop (j+v.cells.size)++cellsF S (M.drop (i+1)))=cellsF S (M.take i)++(S.cs x).take j++v.cells.toList++((S.cs x).drop (j+v.cells.size)++cellsF S (M.drop (i+1))) by simp only [List.append_assoc]];exact q
end Go.Proofs.YtbpmjppmpgeejaaGreatDoor
namespace Go.Proofs.YtbpmjppmpgeejaaGreatDoor
open Go Go.RowKit
open D2 (Gh)
set_option linter.unusedVariables false
def zW (x:ByteArray):ByteArray:=x.extract 0 (min x.size 50)
theorem ziA (x:ByteArray):(zW x).size≤50:=by unfold zW;rw [ByteArray.size_extract];omega
theorem xd (s:ByteArray):Fn Tryz.prog 21 #[.string s] (.string (zW s)):=by
 refine Fn.intro (c:=zg Tryz.f21) [.tmp 2] 8 Tryz.func21 kr kr kr fun w=>rS [.v] (St.start w) kr fun gs1 w1 H1=>rS [.v,.v,.v,.E (.int .i64 (if (50:Int)<(s.size:Int) then (50:Int) else (s.size:Int))) (iN (min s.size 50)) (zr (by split<;>omega)),.o (ins:=[((.tmp 3),.string s),((.tmp 6),iN (min s.size 50))]) (v:=.string (zW s)) (fun ρ o w ho hi=>jB (t:=9) (kd:=.i64) kr (x:=(.tmp 3)) (y:=(.tmp 6)) s (min s.size 50) ho hi.1 hi.2.1 (Nat.min_le_left _ _) w),.v] H1 kr fun gs2 w2 H2=>?_;exact rR [.tmp 2] [] (.string (zW s)) H2 kr
def hdZ:Hdr:=⟨em,0,em,em,em,em,[],em,false,0,[]⟩
def ziB (h:Hdr):Hdr:=⟨zW h.pa,h.hh,zW h.ro,zW h.tx,zW h.pr,zW h.va,h.vs,zW h.vo,h.ad,h.rd,h.ss⟩
def qr (h:Hdr):Hdr:=⟨zW h.pa,h.hh,zW h.ro,zW h.tx,zW h.pr,zW h.va,(h.vs.take 20).map zW,zW h.vo,h.ad,h.rd,h.ss.take 20⟩
theorem ziC {h:Hdr}(h1:h.hh<0x10000000000000000)(h2:h.rd<0x10000000000000000)(h3: ∀x∈h.ss,sgOk x):ye (qr h):=by
 have z:=ziA;have le: ∀x,(zW x).size≤1000000:=fun x=>by have:=z x;omega
 exact ⟨h1,h2,le _,le _,le _,le _,le _,le _,(fun x hx=>by obtain ⟨y,_,rfl⟩:=List.mem_map.1 hx;exact le _),by show ((h.vs.take 20).map zW).length≤_;rw [List.length_map,List.length_take];omega,fun x hx=>h3 x (List.mem_of_mem_take hx),by show (h.ss.take 20).length≤_;rw [List.length_take];omega⟩
theorem zdW {α:Type}{L:List α}{n z:Nat}(h:n=L.length):L.take (min n z)=L.take z:=by
 subst h;by_cases hl:L.length≤z
 ·rw [Nat.min_eq_left hl,List.take_of_length_le (Nat.le_refl _),List.take_of_length_le hl]
 ·rw [Nat.min_eq_right (by omega)]
theorem ziD {α:Type}{g:α→α}{M:List α}{i:Nat}{x:α}(h:M[i]? =some x):((M.take i).map g++M.drop i)[i]? =some x∧((M.take i).map g++M.drop i).set i (g x)=(M.take (i+1)).map g++M.drop (i+1):=by
 have hi:=(List.getElem?_eq_some_iff.1 h).1;have hl:((M.take i).map g).length=i:=by rw [List.length_map,List.length_take];omega
 constructor
 ·rw [List.getElem?_append_right (by omega),hl,Nat.sub_self,zax h];rfl
 ·rw [List.set_append_right (h:=by omega),hl,Nat.sub_self,zax h,qW h,List.map_append,List.append_assoc];rfl
def zdX (h:Hdr)(q:Option Addr)(k:Nat)(v:Value)(T:List (Nat×Obj)):Prop:=∃(b n c:Nat) (cur:Array Value),v=hdV (qr h) (some ⟨b,0,none⟩) n c q (h.ss.take 20).length k∧T=[(b,.cells cur 9 (0,0))]∧Rw 1 cur c n (cellsF sS (qr h).vs)
theorem ziE (h:Hdr)(p:Option Addr)(n c:Nat)(q:Option Addr)(m k:Nat)(hp:qy p n c)(hq:qy q m k):FnT Tryz.prog 6 #[hdV h p n c q m k] (fun w=>yU w h p n q m) (zdX h q k):=by
 refine FnT.intro (c:=zg Tryz.f6) [.cell 2 26] 71 Tryz.func6 kr kr kr fun w hP=>?_;have hn:=hP.1.1;have hm:=hP.2.1;have hT:=hP.1.take (min n 20) (Nat.min_le_left _ _);rw [zdW hn] at hT;have hnv:min n 20=(h.vs.take 20).length:=hT.1;have hms:(h.ss.take 20).length=min m 20:=by rw [List.length_take,←hm];omega
 obtain ⟨nv,env⟩:∃nv,min n 20=nv:=⟨_,rfl⟩
 rw [env] at hT hnv;obtain ⟨ms,ems⟩:∃ms,(h.ss.take 20).length=ms:=⟨_,rfl⟩
 rw [ems] at hms;have H0:=St.start w;refine rS [.b,.a] H0 kr fun gs1 w1 H1=>rS [.v] H1 kr fun gs2 w2 H2=>dS [.v,.v,.l 0,.c (xd h.pa),.v,.v,.l 0,.c (xd h.ro),.v,.v,.l 0,.c (xd h.tx),.v,.v,.l 0,.c (xd h.pr),.v,.v,.l 0,.c (xd h.va),.v,.v,.l 0,.c (xd h.vo),.v,.s 0,.v,.s 0,.v,.s 0,.v,.s 0,.v,.s 0,.v,.s 0] H2 kr fun w3 H3=>?_;obtain ⟨hc,ehc⟩:∃hc,ziB h=hc:=⟨_,rfl⟩
 have H4:St w.heap.size w w3 [((gs1 0).b,.cells (hdC hc p n c q m k) 26 (0,0)),((gs1 1).b,hdO hdZ none 0 0 none 0 0)]:=H3.as (by rw [←ehc];kernel_rfl);refine xP [(1,.pointer (some ⟨(gs1 0).b,0,none⟩)),(2,.pointer (some ⟨(gs1 1).b,0,none⟩)),(3,.func (.func 21) #[] #[])] kr fun ρ1=>?_;clear H0 H1 H2 H3;refine zd kr<|D2.g_draw0 [0,1,2,3,4,5,6,7,8,9,10,11,12,13,14,15,16,17,18,19] [(some 36,fun y=>.slice (some ⟨y.b,0,none⟩) 0 0),(some 37,fun _=>.pointer (some ⟨(gs1 0).b,6,none⟩)),(some 38,fun _=>.slice p n c),(some 39,fun _=>.pointer (some ⟨(gs1 0).b,6,none⟩)),(some 40,fun _=>.slice p n c),(some 41,fun _=>iN n),(some 42,fun _=>iN nv),(some 43,fun _=>.slice p nv c),(some 44,fun y=>.slice (some ⟨y.b,0,none⟩) nv y.cap),(some 45,fun _=>.pointer (some ⟨(gs1 0).b,10,none⟩)),(some 46,fun _=>.slice q m k),(some 47,fun _=>.pointer (some ⟨(gs1 0).b,10,none⟩)),(some 48,fun _=>.slice q m k),(some 49,fun _=>iN m),(some 50,fun _=>iN ms),(some 51,fun _=>.slice q ms k),(some 52,fun _=>.pointer (some ⟨(gs1 0).b,6,none⟩)),(none,fun _=>undef),(some 53,fun _=>.pointer (some ⟨(gs1 0).b,10,none⟩)),(none,fun _=>undef)]
  (D2.chn [0,8,17,19] (fun j g ww=>match j with
   | 0=>St w.heap.size w ww [((gs1 0).b,.cells (hdC hc p n c q m k) 26 (0,0)),((gs1 1).b,hdO hdZ none 0 0 none 0 0)]
   | 1=>St w.heap.size w ww [((g 0).b,.cells #[] 9 (0,0)),((gs1 0).b,.cells (hdC hc p n c q m k) 26 (0,0)),((gs1 1).b,hdO hdZ none 0 0 none 0 0)]
   | 2=>Rw 1 (g 8).cur (g 8).cap nv (cellsF sS (h.vs.take 20))∧St w.heap.size w ww [((g 8).b,.cells (g 8).cur 9 (0,0)),((gs1 0).b,.cells (hdC hc p n c q m k) 26 (0,0)),((gs1 1).b,hdO hdZ none 0 0 none 0 0)]
   | 3=>Rw 1 (g 8).cur (g 8).cap nv (cellsF sS (h.vs.take 20))∧St w.heap.size w ww [((g 8).b,.cells (g 8).cur 9 (0,0)),((gs1 0).b,.cells (hdC hc (some ⟨(g 8).b,0,none⟩) nv (g 8).cap q m k) 26 (0,0)),((gs1 1).b,hdO hdZ none 0 0 none 0 0)]
   | _=>Rw 1 (g 8).cur (g 8).cap nv (cellsF sS (h.vs.take 20))∧St w.heap.size w ww [((g 8).b,.cells (g 8).cur 9 (0,0)),((gs1 0).b,.cells (hdC hc (some ⟨(g 8).b,0,none⟩) nv (g 8).cap q ms k) 26 (0,0)),((gs1 1).b,hdO hdZ none 0 0 none 0 0)])) kr kr kr H4.drew ⟨?_,?_,?_,?_,?_,?_,?_,?_,?_,?_,?_,?_,?_,?_,?_,?_,?_,?_,?_,?_,trivial⟩ ?_
 ·refine D2.gv_chn 0 0 (fun L hN=>by
   have e0:=hN.1;have e8:=hN.post 8 kr;have e17:=hN.fwd e8 (show D2.edge _ 8 17=true by kernel_rfl);have e19:=hN.fwd e17 (show D2.edge _ 17 19=true by kernel_rfl)
   exact ⟨by (simp [D2.stg,e0,e8,e17,e19])<;>rfl,by (simp [D2.stg,D2.put1,e0,e8,e17,e19])<;>rfl⟩) fun g ww hq=>?_
  exact D2.run_new (F:=fun b=>.slice (some ⟨b,0,none⟩) 0 0) (ob:=.cells #[] 9 (0,0)) kr ⟨{ b:=ww.heap.size },rfl,St.alloc hq _⟩
 ·exact D2.gv_val (fun _ _ _ h=>h) (fun g w=>by kernel_rfl)
 ·exact D2.gv_ld (fun _ _ _ h=>h) 23 (.tmp 37) (fun _=>(gs1 0).b) 6 (hdC hc p n c q m k) 26 (0,0) (fun g=>by kernel_rfl) (fun g=>by kernel_rfl) (fun L1 g ww hN hp=>D2.chn.getN hp 2 17 rfl (hN.post 17 kr) fun j hj h=>by
   match j,h with
   | 0,h=>exact St.get h 0 kr
   | 1,h=>exact St.get h 1 kr
   | 2,h=>exact St.get h.2 1 kr) kr kr
 ·exact D2.gv_val (fun _ _ _ h=>h) (fun g w=>by kernel_rfl)
 ·exact D2.gv_ld (fun _ _ _ h=>h) 23 (.tmp 39) (fun _=>(gs1 0).b) 6 (hdC hc p n c q m k) 26 (0,0) (fun g=>by kernel_rfl) (fun g=>by kernel_rfl) (fun L1 g ww hN hp=>D2.chn.getN hp 2 17 rfl (hN.post 17 kr) fun j hj h=>by
   match j,h with
   | 0,h=>exact St.get h 0 kr
   | 1,h=>exact St.get h 1 kr
   | 2,h=>exact St.get h.2 1 kr) kr kr
 ·exact D2.gv_val (fun _ _ _ h=>h) (fun g w=>by kernel_rfl)
 ·exact D2.gv_valE (V':=.int .i64 (if (20:Int)<(n:Int) then (20:Int) else (n:Int))) (fun _ _ _ h=>h) (fun g w=>by kernel_rfl) (zr (by rw [←env];split<;>omega))
 ·exact D2.gv_op (fun _ _ _ h=>h) (.slice 23 (.tmp 38) none (some (.tmp 42)) none) (fun g=>by kernel_rfl) (fun g o w ho=>zbz (t:=23) (e:=9) (size:=1) (bytes:=16) (kd:=.i64) kr (x:=(.tmp 38)) (y:=(.tmp 42)) hp (by omega) ho kr kr w)
 ·refine D2.gv_chn 8 1 (fun L hN=>by
   have e8:=hN.1;have e0:=hN.bef 0 kr;have e17:=hN.post 17 kr;have e19:=hN.fwd e17 (show D2.edge _ 17 19=true by kernel_rfl)
   exact ⟨by (simp [D2.stg,e0,e8,e17,e19])<;>rfl,by (simp [D2.stg,D2.put1,e0,e8,e17,e19])<;>rfl⟩) fun g ww hq=>?_
  refine D2.run_of (op:=yi 23 (.tmp 36) (.tmp 43)) kr fun o ho=>?_;obtain ⟨b',cap',cur',w',hrun,HS',hr'⟩:=ziy (S:=sS) (j:=0) (cur:=#[]) (cap:=0) (b:=(g 0).b) hq (t:=23) (bytes:=16) (n:=0) (xs:=[]) kr ho kr kr ⟨rfl,Nat.le_refl _,Nat.zero_le _,rfl,rfl⟩ kr (hT.call (St.below hq)) (hp.cut (by omega)) (by omega) (by unfold maxLen;omega);rw [Nat.zero_add] at hrun hr';rw [List.nil_append] at hr';exact ⟨_,w',hrun,{ b:=b',cap:=cap',cur:=cur' },rfl,hr',HS'⟩
 ·exact D2.gv_val (fun _ _ _ h=>h) (fun g w=>by kernel_rfl)
 ·exact D2.gv_ld (fun _ _ _ h=>h) 24 (.tmp 45) (fun _=>(gs1 0).b) 10 (hdC hc p n c q m k) 26 (0,0) (fun g=>by kernel_rfl) (fun g=>by kernel_rfl) (fun L1 g ww hN hp=>D2.chn.getN hp 2 17 rfl (hN.post 17 kr) fun j hj h=>by
   match j,h with
   | 0,h=>exact St.get h 0 kr
   | 1,h=>exact St.get h 1 kr
   | 2,h=>exact St.get h.2 1 kr) kr kr
 ·exact D2.gv_val (fun _ _ _ h=>h) (fun g w=>by kernel_rfl)
 ·exact D2.gv_ld (fun _ _ _ h=>h) 24 (.tmp 47) (fun _=>(gs1 0).b) 10 (hdC hc p n c q m k) 26 (0,0) (fun g=>by kernel_rfl) (fun g=>by kernel_rfl) (fun L1 g ww hN hp=>D2.chn.getN hp 2 17 rfl (hN.post 17 kr) fun j hj h=>by
   match j,h with
   | 0,h=>exact St.get h 0 kr
   | 1,h=>exact St.get h 1 kr
   | 2,h=>exact St.get h.2 1 kr) kr kr
 ·exact D2.gv_val (fun _ _ _ h=>h) (fun g w=>by kernel_rfl)
 ·exact D2.gv_valE (V':=.int .i64 (if (20:Int)<(m:Int) then (20:Int) else (m:Int))) (fun _ _ _ h=>h) (fun g w=>by kernel_rfl) (zr (by rw [hms];split<;>omega))
 ·exact D2.gv_op (fun _ _ _ h=>h) (.slice 24 (.tmp 46) none (some (.tmp 50)) none) (fun g=>by kernel_rfl) (fun g o w ho=>zbz (t:=24) (e:=50) (size:=9) (bytes:=72) (kd:=.i64) kr (x:=(.tmp 46)) (y:=(.tmp 50)) hq (by omega) ho kr kr w)
 ·exact D2.gv_val (fun _ _ _ h=>h) (fun g w=>by kernel_rfl)
 ·refine D2.gv_chn 17 2 (fun L hN=>by
   have e17:=hN.1;have e8:=hN.bef 8 kr;have e0:=hN.back e8 (show D2.edge _ 0 8=true by kernel_rfl);have e19:=hN.post 19 kr
   exact ⟨by (simp [D2.stg,e0,e8,e17,e19])<;>rfl,by (simp [D2.stg,D2.put1,e0,e8,e17,e19])<;>rfl⟩) fun g ww hq=>?_
  exact D2.run_sto (t:=23) (x:=.tmp 52) (y:=.tmp 44) (b:=(gs1 0).b) (off:=6) (C:=hdC hc p n c q m k) (C':=hdC hc (some ⟨(g 8).b,0,none⟩) nv (g 8).cap q m k) (T:=26) (v:=.slice (some ⟨(g 8).b,0,none⟩) nv (g 8).cap) kr kr kr kr kr (St.get hq.2 1 kr) (Nat.le_of_ble_eq_true kr) kr ⟨g 17,rfl,hq.1,St.store (C:=hdC hc p n c q m k) (T:=26) hq.2 1 kr⟩
 ·exact D2.gv_val (fun _ _ _ h=>h) (fun g w=>by kernel_rfl)
 ·refine D2.gv_chn 19 3 (fun L hN=>by
   have e19:=hN.1;have e17:=hN.bef 17 kr;have e8:=hN.back e17 (show D2.edge _ 8 17=true by kernel_rfl);have e0:=hN.back e8 (show D2.edge _ 0 8=true by kernel_rfl)
   exact ⟨by (simp [D2.stg,e0,e8,e17,e19])<;>rfl,by (simp [D2.stg,D2.put1,e0,e8,e17,e19])<;>rfl⟩) fun g ww hq=>?_
  exact D2.run_sto (t:=24) (x:=.tmp 53) (y:=.tmp 51) (b:=(gs1 0).b) (off:=10) (C:=hdC hc (some ⟨(g 8).b,0,none⟩) nv (g 8).cap q m k) (C':=hdC hc (some ⟨(g 8).b,0,none⟩) nv (g 8).cap q ms k) (T:=26) (v:=.slice q ms k) kr kr kr kr kr (St.get hq.2 1 kr) (Nat.le_of_ble_eq_true kr) kr ⟨g 19,rfl,hq.1,St.store (C:=hdC hc (some ⟨(g 8).b,0,none⟩) nv (g 8).cap q m k) (T:=26) hq.2 1 kr⟩
 intro L1 g w5 hall hp9;obtain ⟨hrw,H5⟩:=hp9.fin (fun k hk=>hall k (by simp at hk;rcases hk with rfl | rfl | rfl | rfl<;>exact Nat.le_of_ble_eq_true kr));refine wW ?_;generalize (g 8).b=b at*;generalize (g 8).cap=cv at*;generalize (g 8).cur=cur at*;have H6:St w.heap.size w w5 [(b,.cells cur 9 (0,0)),((gs1 0).b,.cells (hdC hc (some ⟨b,0,none⟩) nv cv q ms k) 26 (0,0)),((gs1 1).b,hdO hdZ none 0 0 none 0 0)]:=H5;refine zd kr<|rS [.v,.l 1,.v,.v] H6 kr fun gs3 w6 H7=>?_;generalize hMV:h.vs.take 20=M at*;refine jt 57 56 58 69 0 1 nv (by omega) (fun i ρ ww=> ∃cur,Rw 1 cur cv nv (cellsF sS ((M.take i).map zW++M.drop i))∧St w.heap.size w ww [(b,.cells cur 9 (0,0)),((gs1 0).b,.cells (hdC hc (some ⟨b,0,none⟩) nv cv q ms k) 26 (0,0)),((gs1 1).b,hdO hdZ none 0 0 none 0 0)]∧Is [(1,.pointer (some ⟨(gs1 0).b,0,none⟩)),(2,.pointer (some ⟨(gs1 1).b,0,none⟩)),(3,.func (.func 21) #[] #[]),(55,.slice (some ⟨b,0,none⟩) nv cv),(56,iN nv),(57,iN i)] ρ) (by rintro i _ ww ⟨_,_,_,_,rfl⟩;exact ⟨kr,kr⟩) ⟨cur,hrw,H7.as kr,isK⟩ ?_ ?_
 ·clear H4 H5 H6 H7 hrw;rintro i _ w7 hi ⟨cur,hrw,H8,_,rfl⟩;obtain ⟨x,hx⟩:∃x,M[i]? =some x:=⟨_,List.getElem?_eq_getElem (by omega)⟩
  obtain ⟨hx2,hset⟩:=ziD (g:=zW) hx;have hput:=Rw.setF (S:=sS) (y:=zW x) hrw hx2 0 (.string (zW x)) (show 0+1≤1 by decide) rfl;rw [hset] at hput;have hcell:cur[0+i*1]? =some (.string x):=(hrw.rowAt (S:=sS)).cell hx2 0 (by decide);refine rS [.v,.o (ins:=[((.tmp 55),.slice (some ⟨b,0,none⟩) nv cv),((.tmp 57),iN i)]) (v:=.pointer (some ⟨b,0+i*1,none⟩)) (fun ρ o w ho hi2=>zU (kd:=.i64) (t:=23) (e:=9) (K:=1) (bytes:=16) kr (x:=(.tmp 55)) (y:=(.tmp 57)) b 0 nv cv i rfl ho hi2.1 hi2.2.1 (by omega) w),.ls 0 (C:=cur) (off:=0+i*1) (v:=.string x) hcell,.v,.v] H8 kr fun gs4 w8 H9=>dL [.v,.l 1,.v,.v,.v,.c (xd x),.o (ins:=[((.tmp 63),.slice (some ⟨b,0,none⟩) nv cv),((.tmp 64),iN i)]) (v:=.pointer (some ⟨b,0+i*1,none⟩)) (fun ρ o w ho hi2=>zU (kd:=.i64) (t:=23) (e:=9) (K:=1) (bytes:=16) kr (x:=(.tmp 63)) (y:=(.tmp 64)) b 0 nv cv i rfl ho hi2.1 hi2.2.1 (by omega) w),.se 0 (C:=cur) (C':=putA cur (0+i*1+0) (.string (zW x))) (off:=0+i*1) (v:=.string (zW x)) hput.1 rfl] H9 kr fun w9 H10=>?_;exact ⟨kr,_,hput.2,H10.as kr,isK⟩
 ·rintro _ w7 ⟨cur,hrw,H8,_,rfl⟩;rw [List.take_of_length_le (by omega),List.drop_of_length_le (by omega),List.append_nil] at hrw;refine wW<|rS [.l 1,.s 2] H8 kr fun gs4 w8 H9=>rRr [.cell 2 26] [2] (hdV (qr h) (some ⟨b,0,none⟩) nv cv q ms k) (yn w.heap.size w (zdX h q k)) H9 (by rw [show qr h=⟨hc.pa,hc.hh,hc.ro,hc.tx,hc.pr,hc.va,M.map zW,hc.vo,hc.ad,hc.rd,h.ss.take 20⟩ by rw [←ehc,←hMV];rfl];kernel_rfl) ?_;refine ⟨_,⟨b,nv,cv,cur,by rw [ems],rfl,?_⟩,H9.sub (List.Sublist.cons_cons _ (List.nil_sublist _))⟩;show Rw 1 cur cv nv (cellsF sS ((h.vs.take 20).map zW));rw [hMV];exact hrw
end Go.Proofs.YtbpmjppmpgeejaaGreatDoor
namespace Go.Proofs.YtbpmjppmpgeejaaGreatDoor
open Go Go.RowKit
open D2 (Gh)
set_option linter.unusedVariables false
end Go.Proofs.YtbpmjppmpgeejaaGreatDoor
namespace Go.Proofs.YtbpmjppmpgeejaaGreatDoor
open Go Go.RowKit
set_option linter.unusedVariables false
theorem zdY (h k:Hdr)(oh:ye h)(ok:ye k)(p:Option Addr)(n c:Nat)(q:Option Addr)(m cq:Nat)(p':Option Addr)(n' c':Nat)(q':Option Addr)(m' cq':Nat)(b:Bool)(hb:b=true↔h=k):
 FnP Tryz.prog 20 #[hdV h p n c q m cq,hdV k p' n' c' q' m' cq'] (fun w=>yU w h p n q m∧yU w k p' n' q' m') (.bool b):=by
 have no:h≠k→b=false:=fun hne=>Bool.eq_false_iff.2 fun e=>hne (hb.1 e);refine FnP.intro (c:=zg Tryz.f20) [.tmp 4] 120 Tryz.func20 kr kr kr fun w hP=>?_;obtain ⟨hP,hP'⟩:=hP;have hn:=hP.1.1;have hm:=hP.2.1;have hn':=hP'.1.1;have hm':=hP'.2.1;have hvl:=oh.vl;have hsl:=oh.sl;have hvl':=ok.vl;have hsl':=ok.sl;have H0:=St.start w;refine rS [.b,.b,.v] H0 kr fun gs1 w1 H1=>zd kr ?_;by_cases e_pa:h.pa=k.pa
 case neg=>
  refine rS [.v,.l 0,.v,.l 1,.E (.bool (!(h.pa.toList==k.pa.toList))) (.bool true) (za (by rw [yL _ _ e_pa];rfl)),.v,.n,.n,.n,.n,.n,.v,.v,.n,.n,.n,.n,.n,.v,.v,.n,.n,.n,.n,.n,.v,.v,.n,.n,.n,.n,.n,.v,.v,.n,.n,.n,.n,.n,.v,.v,.n,.n,.n,.n,.n,.v,.v,.n,.n,.n,.n,.n,.v,.v,.n,.n,.n,.n,.n,.v] H1 kr fun gs2 w2 H2=>yb<|rS [.v] H2 kr fun gs5 w5 H5=>?_;exact rRe [.tmp 4] [] (v:=.bool false) (v':=.bool b) H5 (za ((no fun e=>e_pa (by rw [e])).symm)) kr
 by_cases e_hh:h.hh=k.hh
 case neg=>
  refine rS [.v,.l 0,.v,.l 1,.E (.bool (!(h.pa.toList==k.pa.toList))) (.bool false) (za (by rw [zD _ _ e_pa];rfl)),.v,.v,.l 0,.v,.l 1,.E (.bool (((h.hh:Nat):Int)!=((k.hh:Nat):Int))) (.bool true) (za (bne_iff_ne.2 (by omega))),.v,.v,.n,.n,.n,.n,.n,.v,.v,.n,.n,.n,.n,.n,.v,.v,.n,.n,.n,.n,.n,.v,.v,.n,.n,.n,.n,.n,.v,.v,.n,.n,.n,.n,.n,.v,.v,.n,.n,.n,.n,.n,.v,.v,.n,.n,.n,.n,.n,.v] H1 kr fun gs2 w2 H2=>yb<|rS [.v] H2 kr fun gs5 w5 H5=>?_;exact rRe [.tmp 4] [] (v:=.bool false) (v':=.bool b) H5 (za ((no fun e=>e_hh (by rw [e])).symm)) kr
 by_cases e_ro:h.ro=k.ro
 case neg=>
  refine rS [.v,.l 0,.v,.l 1,.E (.bool (!(h.pa.toList==k.pa.toList))) (.bool false) (za (by rw [zD _ _ e_pa];rfl)),.v,.v,.l 0,.v,.l 1,.E (.bool (((h.hh:Nat):Int)!=((k.hh:Nat):Int))) (.bool false) (za (by rw [e_hh];exact bne_self_eq_false' _)),.v,.v,.v,.l 0,.v,.l 1,.E (.bool (!(h.ro.toList==k.ro.toList))) (.bool true) (za (by rw [yL _ _ e_ro];rfl)),.v,.v,.n,.n,.n,.n,.n,.v,.v,.n,.n,.n,.n,.n,.v,.v,.n,.n,.n,.n,.n,.v,.v,.n,.n,.n,.n,.n,.v,.v,.n,.n,.n,.n,.n,.v,.v,.n,.n,.n,.n,.n,.v] H1 kr fun gs2 w2 H2=>yb<|rS [.v] H2 kr fun gs5 w5 H5=>?_;exact rRe [.tmp 4] [] (v:=.bool false) (v':=.bool b) H5 (za ((no fun e=>e_ro (by rw [e])).symm)) kr
 by_cases e_tx:h.tx=k.tx
 case neg=>
  refine rS [.v,.l 0,.v,.l 1,.E (.bool (!(h.pa.toList==k.pa.toList))) (.bool false) (za (by rw [zD _ _ e_pa];rfl)),.v,.v,.l 0,.v,.l 1,.E (.bool (((h.hh:Nat):Int)!=((k.hh:Nat):Int))) (.bool false) (za (by rw [e_hh];exact bne_self_eq_false' _)),.v,.v,.v,.l 0,.v,.l 1,.E (.bool (!(h.ro.toList==k.ro.toList))) (.bool false) (za (by rw [zD _ _ e_ro];rfl)),.v,.v,.v,.l 0,.v,.l 1,.E (.bool (!(h.tx.toList==k.tx.toList))) (.bool true) (za (by rw [yL _ _ e_tx];rfl)),.v,.v,.n,.n,.n,.n,.n,.v,.v,.n,.n,.n,.n,.n,.v,.v,.n,.n,.n,.n,.n,.v,.v,.n,.n,.n,.n,.n,.v,.v,.n,.n,.n,.n,.n,.v] H1 kr fun gs2 w2 H2=>yb<|rS [.v] H2 kr fun gs5 w5 H5=>?_;exact rRe [.tmp 4] [] (v:=.bool false) (v':=.bool b) H5 (za ((no fun e=>e_tx (by rw [e])).symm)) kr
 by_cases e_pr:h.pr=k.pr
 case neg=>
  refine rS [.v,.l 0,.v,.l 1,.E (.bool (!(h.pa.toList==k.pa.toList))) (.bool false) (za (by rw [zD _ _ e_pa];rfl)),.v,.v,.l 0,.v,.l 1,.E (.bool (((h.hh:Nat):Int)!=((k.hh:Nat):Int))) (.bool false) (za (by rw [e_hh];exact bne_self_eq_false' _)),.v,.v,.v,.l 0,.v,.l 1,.E (.bool (!(h.ro.toList==k.ro.toList))) (.bool false) (za (by rw [zD _ _ e_ro];rfl)),.v,.v,.v,.l 0,.v,.l 1,.E (.bool (!(h.tx.toList==k.tx.toList))) (.bool false) (za (by rw [zD _ _ e_tx];rfl)),.v,.v,.v,.l 0,.v,.l 1,.E (.bool (!(h.pr.toList==k.pr.toList))) (.bool true) (za (by rw [yL _ _ e_pr];rfl)),.v,.v,.n,.n,.n,.n,.n,.v,.v,.n,.n,.n,.n,.n,.v,.v,.n,.n,.n,.n,.n,.v,.v,.n,.n,.n,.n,.n,.v] H1 kr fun gs2 w2 H2=>yb<|rS [.v] H2 kr fun gs5 w5 H5=>?_;exact rRe [.tmp 4] [] (v:=.bool false) (v':=.bool b) H5 (za ((no fun e=>e_pr (by rw [e])).symm)) kr
 by_cases e_va:h.va=k.va
 case neg=>
  refine rS [.v,.l 0,.v,.l 1,.E (.bool (!(h.pa.toList==k.pa.toList))) (.bool false) (za (by rw [zD _ _ e_pa];rfl)),.v,.v,.l 0,.v,.l 1,.E (.bool (((h.hh:Nat):Int)!=((k.hh:Nat):Int))) (.bool false) (za (by rw [e_hh];exact bne_self_eq_false' _)),.v,.v,.v,.l 0,.v,.l 1,.E (.bool (!(h.ro.toList==k.ro.toList))) (.bool false) (za (by rw [zD _ _ e_ro];rfl)),.v,.v,.v,.l 0,.v,.l 1,.E (.bool (!(h.tx.toList==k.tx.toList))) (.bool false) (za (by rw [zD _ _ e_tx];rfl)),.v,.v,.v,.l 0,.v,.l 1,.E (.bool (!(h.pr.toList==k.pr.toList))) (.bool false) (za (by rw [zD _ _ e_pr];rfl)),.v,.v,.v,.l 0,.v,.l 1,.E (.bool (!(h.va.toList==k.va.toList))) (.bool true) (za (by rw [yL _ _ e_va];rfl)),.v,.v,.n,.n,.n,.n,.n,.v,.v,.n,.n,.n,.n,.n,.v,.v,.n,.n,.n,.n,.n,.v] H1 kr fun gs2 w2 H2=>yb<|rS [.v] H2 kr fun gs5 w5 H5=>?_;exact rRe [.tmp 4] [] (v:=.bool false) (v':=.bool b) H5 (za ((no fun e=>e_va (by rw [e])).symm)) kr
 by_cases e_vo:h.vo=k.vo
 case neg=>
  refine rS [.v,.l 0,.v,.l 1,.E (.bool (!(h.pa.toList==k.pa.toList))) (.bool false) (za (by rw [zD _ _ e_pa];rfl)),.v,.v,.l 0,.v,.l 1,.E (.bool (((h.hh:Nat):Int)!=((k.hh:Nat):Int))) (.bool false) (za (by rw [e_hh];exact bne_self_eq_false' _)),.v,.v,.v,.l 0,.v,.l 1,.E (.bool (!(h.ro.toList==k.ro.toList))) (.bool false) (za (by rw [zD _ _ e_ro];rfl)),.v,.v,.v,.l 0,.v,.l 1,.E (.bool (!(h.tx.toList==k.tx.toList))) (.bool false) (za (by rw [zD _ _ e_tx];rfl)),.v,.v,.v,.l 0,.v,.l 1,.E (.bool (!(h.pr.toList==k.pr.toList))) (.bool false) (za (by rw [zD _ _ e_pr];rfl)),.v,.v,.v,.l 0,.v,.l 1,.E (.bool (!(h.va.toList==k.va.toList))) (.bool false) (za (by rw [zD _ _ e_va];rfl)),.v,.v,.v,.l 0,.v,.l 1,.E (.bool (!(h.vo.toList==k.vo.toList))) (.bool true) (za (by rw [yL _ _ e_vo];rfl)),.v,.v,.n,.n,.n,.n,.n,.v,.v,.n,.n,.n,.n,.n,.v] H1 kr fun gs2 w2 H2=>yb<|rS [.v] H2 kr fun gs5 w5 H5=>?_;exact rRe [.tmp 4] [] (v:=.bool false) (v':=.bool b) H5 (za ((no fun e=>e_vo (by rw [e])).symm)) kr
 by_cases e_ad:h.ad=k.ad
 case neg=>
  refine rS [.v,.l 0,.v,.l 1,.E (.bool (!(h.pa.toList==k.pa.toList))) (.bool false) (za (by rw [zD _ _ e_pa];rfl)),.v,.v,.l 0,.v,.l 1,.E (.bool (((h.hh:Nat):Int)!=((k.hh:Nat):Int))) (.bool false) (za (by rw [e_hh];exact bne_self_eq_false' _)),.v,.v,.v,.l 0,.v,.l 1,.E (.bool (!(h.ro.toList==k.ro.toList))) (.bool false) (za (by rw [zD _ _ e_ro];rfl)),.v,.v,.v,.l 0,.v,.l 1,.E (.bool (!(h.tx.toList==k.tx.toList))) (.bool false) (za (by rw [zD _ _ e_tx];rfl)),.v,.v,.v,.l 0,.v,.l 1,.E (.bool (!(h.pr.toList==k.pr.toList))) (.bool false) (za (by rw [zD _ _ e_pr];rfl)),.v,.v,.v,.l 0,.v,.l 1,.E (.bool (!(h.va.toList==k.va.toList))) (.bool false) (za (by rw [zD _ _ e_va];rfl)),.v,.v,.v,.l 0,.v,.l 1,.E (.bool (!(h.vo.toList==k.vo.toList))) (.bool false) (za (by rw [zD _ _ e_vo];rfl)),.v,.v,.v,.l 0,.v,.l 1,.E (.bool (h.ad !=k.ad)) (.bool true) (za (bne_iff_ne.2 e_ad)),.v,.v,.n,.n,.n,.n,.n,.v] H1 kr fun gs2 w2 H2=>yb<|rS [.v] H2 kr fun gs5 w5 H5=>?_;exact rRe [.tmp 4] [] (v:=.bool false) (v':=.bool b) H5 (za ((no fun e=>e_ad (by rw [e])).symm)) kr
 by_cases e_rd:h.rd=k.rd
 case neg=>
  refine rS [.v,.l 0,.v,.l 1,.E (.bool (!(h.pa.toList==k.pa.toList))) (.bool false) (za (by rw [zD _ _ e_pa];rfl)),.v,.v,.l 0,.v,.l 1,.E (.bool (((h.hh:Nat):Int)!=((k.hh:Nat):Int))) (.bool false) (za (by rw [e_hh];exact bne_self_eq_false' _)),.v,.v,.v,.l 0,.v,.l 1,.E (.bool (!(h.ro.toList==k.ro.toList))) (.bool false) (za (by rw [zD _ _ e_ro];rfl)),.v,.v,.v,.l 0,.v,.l 1,.E (.bool (!(h.tx.toList==k.tx.toList))) (.bool false) (za (by rw [zD _ _ e_tx];rfl)),.v,.v,.v,.l 0,.v,.l 1,.E (.bool (!(h.pr.toList==k.pr.toList))) (.bool false) (za (by rw [zD _ _ e_pr];rfl)),.v,.v,.v,.l 0,.v,.l 1,.E (.bool (!(h.va.toList==k.va.toList))) (.bool false) (za (by rw [zD _ _ e_va];rfl)),.v,.v,.v,.l 0,.v,.l 1,.E (.bool (!(h.vo.toList==k.vo.toList))) (.bool false) (za (by rw [zD _ _ e_vo];rfl)),.v,.v,.v,.l 0,.v,.l 1,.E (.bool (h.ad !=k.ad)) (.bool false) (za (by rw [e_ad];exact bne_self_eq_false' _)),.v,.v,.v,.l 0,.v,.l 1,.E (.bool (((h.rd:Nat):Int)!=((k.rd:Nat):Int))) (.bool true) (za (bne_iff_ne.2 (by omega))),.v] H1 kr fun gs2 w2 H2=>yb<|rS [.v] H2 kr fun gs5 w5 H5=>?_;exact rRe [.tmp 4] [] (v:=.bool false) (v':=.bool b) H5 (za ((no fun e=>e_rd (by rw [e])).symm)) kr
 refine rS [.v,.l 0,.v,.l 1,.E (.bool (!(h.pa.toList==k.pa.toList))) (.bool false) (za (by rw [zD _ _ e_pa];rfl)),.v,.v,.l 0,.v,.l 1,.E (.bool (((h.hh:Nat):Int)!=((k.hh:Nat):Int))) (.bool false) (za (by rw [e_hh];exact bne_self_eq_false' _)),.v,.v,.v,.l 0,.v,.l 1,.E (.bool (!(h.ro.toList==k.ro.toList))) (.bool false) (za (by rw [zD _ _ e_ro];rfl)),.v,.v,.v,.l 0,.v,.l 1,.E (.bool (!(h.tx.toList==k.tx.toList))) (.bool false) (za (by rw [zD _ _ e_tx];rfl)),.v,.v,.v,.l 0,.v,.l 1,.E (.bool (!(h.pr.toList==k.pr.toList))) (.bool false) (za (by rw [zD _ _ e_pr];rfl)),.v,.v,.v,.l 0,.v,.l 1,.E (.bool (!(h.va.toList==k.va.toList))) (.bool false) (za (by rw [zD _ _ e_va];rfl)),.v,.v,.v,.l 0,.v,.l 1,.E (.bool (!(h.vo.toList==k.vo.toList))) (.bool false) (za (by rw [zD _ _ e_vo];rfl)),.v,.v,.v,.l 0,.v,.l 1,.E (.bool (h.ad !=k.ad)) (.bool false) (za (by rw [e_ad];exact bne_self_eq_false' _)),.v,.v,.v,.l 0,.v,.l 1,.E (.bool (((h.rd:Nat):Int)!=((k.rd:Nat):Int))) (.bool false) (za (by rw [e_rd];exact bne_self_eq_false' _)),.v] H1 kr fun gs2 w2 H2=>yZ<|wW ?_;clear H0 H1;refine zd kr ?_;by_cases en:n=n'
 case neg=>
  refine rS [.v,.l 0,.v,.v,.l 1,.v,.E (.bool ((n:Int)!=(n':Int))) (.bool true) (za (bne_iff_ne.2 (by omega))),.v,.n,.n,.n,.n,.n,.n,.n,.v] H2 kr fun gs3 w3 H3=>yb<|rS [.v] H3 kr fun gs5 w5 H5=>?_;exact rRe [.tmp 4] [] (v:=.bool false) (v':=.bool b) H5 (za ((no fun e=>en (by rw [hn,hn',e])).symm)) kr
 by_cases em_:m=m'
 case neg=>
  refine rS [.v,.l 0,.v,.v,.l 1,.v,.E (.bool ((n:Int)!=(n':Int))) (.bool false) (za (by rw [en];exact bne_self_eq_false' _)),.v,.v,.l 0,.v,.v,.l 1,.v,.E (.bool ((m:Int)!=(m':Int))) (.bool true) (za (bne_iff_ne.2 (by omega))),.v] H2 kr fun gs3 w3 H3=>yb<|rS [.v] H3 kr fun gs5 w5 H5=>?_;exact rRe [.tmp 4] [] (v:=.bool false) (v':=.bool b) H5 (za ((no fun e=>em_ (by rw [hm,hm',e])).symm)) kr
 subst en em_;refine rS [.v,.l 0,.v,.v,.l 1,.v,.E (.bool ((n:Int)!=(n:Int))) (.bool false) (za (bne_self_eq_false' _)),.v,.v,.l 0,.v,.v,.l 1,.v,.E (.bool ((m:Int)!=(m:Int))) (.bool false) (za (bne_self_eq_false' _)),.v] H2 kr fun gs3 w3 H3=>yZ<|wW<|zd kr<|rS [.v,.l 0,.v,.v] H3 kr fun gs4 w4 H4=>jt 87 86 88 101 0 1 n (by omega) (fun i ρ ww=>h.vs.take i=k.vs.take i∧St w.heap.size w ww [((gs1 0).b,hdO h p n c q m cq),((gs1 1).b,hdO k p' n c' q' m cq')]∧Is [(2,.pointer (some ⟨(gs1 0).b,0,none⟩)),(3,.pointer (some ⟨(gs1 1).b,0,none⟩)),(86,iN n),(87,iN i)] ρ) (by rintro i _ ww ⟨_,_,_,rfl⟩;exact ⟨kr,kr⟩) ⟨rfl,H4.as kr,isK⟩ ?_ ?_
 ·clear H2 H3 H4;rintro i _ w5 hi ⟨htk,H5,_,rfl⟩;obtain ⟨x,hx⟩:∃x,h.vs[i]? =some x:=⟨_,List.getElem?_eq_getElem (by omega)⟩
  obtain ⟨y,hy⟩:∃y,k.vs[i]? =some y:=⟨_,List.getElem?_eq_getElem (by omega)⟩
  obtain ⟨bl,off,C,T,fz,hp,hh,hR⟩:=hP.1.row2 (by omega);obtain ⟨bl2,off2,C2,T2,fz2,hp2,hh2,hR2⟩:=hP'.1.row2 (by omega);have cx:C[off+i*1]? =some (.string x):=hR.cell hx 0 (by decide);have cy:C2[off2+i*1]? =some (.string y):=hR2.cell hy 0 (by decide);refine rS [.v,.v] H5 kr fun gs5 w6 H6=>?_;by_cases exy:x=y
  ·refine dS [.v,.l 0,.v,.o (ins:=[((.tmp 91),.slice p n c),((.tmp 92),iN i)]) (v:=.pointer (some ⟨bl,off+i*1,none⟩)) (fun ρ o w ho hi2=>zU (kd:=.i64) (t:=23) (e:=9) (K:=1) (bytes:=16) kr (x:=(.tmp 91)) (y:=(.tmp 92)) bl off n c i hp ho hi2.1 hi2.2.1 (by omega) w),.fs (off:=off+i*1) (v:=.string x) hh (zC hh) cx,.v,.l 1,.v,.o (ins:=[((.tmp 96),.slice p' n c'),((.tmp 97),iN i)]) (v:=.pointer (some ⟨bl2,off2+i*1,none⟩)) (fun ρ o w ho hi2=>zU (kd:=.i64) (t:=23) (e:=9) (K:=1) (bytes:=16) kr (x:=(.tmp 96)) (y:=(.tmp 97)) bl2 off2 n c' i hp2 ho hi2.1 hi2.2.1 (by omega) w),.fs (off:=off2+i*1) (v:=.string y) hh2 (zC hh2) cy,.E (.bool (!(x.toList==y.toList))) (.bool false) (za (by rw [zD _ _ exy];rfl))] H6 kr fun w7 H7=>yZ ?_;exact ⟨kr,by rw [qW hx,qW hy,htk,exy],H7.as kr,isK⟩
  ·refine dS [.v,.l 0,.v,.o (ins:=[((.tmp 91),.slice p n c),((.tmp 92),iN i)]) (v:=.pointer (some ⟨bl,off+i*1,none⟩)) (fun ρ o w ho hi2=>zU (kd:=.i64) (t:=23) (e:=9) (K:=1) (bytes:=16) kr (x:=(.tmp 91)) (y:=(.tmp 92)) bl off n c i hp ho hi2.1 hi2.2.1 (by omega) w),.fs (off:=off+i*1) (v:=.string x) hh (zC hh) cx,.v,.l 1,.v,.o (ins:=[((.tmp 96),.slice p' n c'),((.tmp 97),iN i)]) (v:=.pointer (some ⟨bl2,off2+i*1,none⟩)) (fun ρ o w ho hi2=>zU (kd:=.i64) (t:=23) (e:=9) (K:=1) (bytes:=16) kr (x:=(.tmp 96)) (y:=(.tmp 97)) bl2 off2 n c' i hp2 ho hi2.1 hi2.2.1 (by omega) w),.fs (off:=off2+i*1) (v:=.string y) hh2 (zC hh2) cy,.E (.bool (!(x.toList==y.toList))) (.bool true) (za (by rw [yL _ _ exy];rfl))] H6 kr fun w7 H7=>yb<|rS [.v] H7 kr fun gs5 w5 H5=>?_;exact rRe [.tmp 4] [] (v:=.bool false) (v':=.bool b) H5 (za ((no fun e=>exy (by subst e;rw [hx] at hy;exact Option.some.inj hy)).symm)) kr
 ·rintro _ w5 ⟨htk,H5,_,rfl⟩;rw [List.take_of_length_le (by omega),List.take_of_length_le (by omega)] at htk;refine wW<|zd kr<|rS [.v,.l 0,.v,.v] H5 kr fun gs5 w6 H6=>jt 105 104 106 119 2 3 m (by omega) (fun i ρ ww=>h.ss.take i=k.ss.take i∧St w.heap.size w ww [((gs1 0).b,hdO h p n c q m cq),((gs1 1).b,hdO k p' n c' q' m cq')]∧Is [(2,.pointer (some ⟨(gs1 0).b,0,none⟩)),(3,.pointer (some ⟨(gs1 1).b,0,none⟩)),(104,iN m),(105,iN i)] ρ) (by rintro i _ ww ⟨_,_,_,rfl⟩;exact ⟨kr,kr⟩) ⟨rfl,H6.as kr,isK⟩ ?_ ?_
  ·clear H2 H3 H4 H5 H6;rintro i _ w5 hi ⟨htk2,H5,_,rfl⟩;obtain ⟨x,hx⟩:∃x,h.ss[i]? =some x:=⟨_,List.getElem?_eq_getElem (by omega)⟩
   obtain ⟨y,hy⟩:∃y,k.ss[i]? =some y:=⟨_,List.getElem?_eq_getElem (by omega)⟩
   obtain ⟨bl,off,C,T,fz,hp,hh,hR⟩:=hP.2.row2 (by omega);obtain ⟨bl2,off2,C2,T2,fz2,hp2,hh2,hR2⟩:=hP'.2.row2 (by omega);have hxo:=oh.ss x (List.mem_of_getElem? hx);have hyo:=ok.ss y (List.mem_of_getElem? hy);refine rS [.v,.v] H5 kr fun gs5 w6 H6=>?_;have hcmp:(decide (x.1=y.1)&&(decide (x.2.1=y.2.1)&&(x.2.2==y.2.2)))=true↔x=y:=by
    obtain ⟨a,b',c2⟩:=x;obtain ⟨a2,b2,c3⟩:=y;simp
   generalize hg:(decide (x.1=y.1)&&(decide (x.2.1=y.2.1)&&(x.2.2==y.2.2)))=g at hcmp;have hit:=fun (v:Bool) (hv:(!g)=v) (ρ:Env) (o:Oper) (w:World) (ho:o.op=.binOp .neq 50 (.tmp 112) (.tmp 117) 50) (hi:Ins (ev ρ) [((.tmp 112),.agg (sgC x)),((.tmp 117),.agg (sgC y))])=>(zhU x.1 x.2.1 x.2.2 y.1 y.2.1 y.2.2 hxo.1 hxo.2 hyo.1 hyo.2 w ho hi.1 hi.2.1).trans (by rw [hg,hv]);cases g with
   | true=>
    have exy:=hcmp.1 rfl;refine dS [.v,.l 0,.v,.o (ins:=[((.tmp 109),.slice q m cq),((.tmp 110),iN i)]) (v:=.pointer (some ⟨bl,off+i*9,none⟩)) (fun ρ o w ho hi2=>zU (kd:=.i64) (t:=24) (e:=50) (K:=9) (bytes:=72) kr (x:=(.tmp 109)) (y:=(.tmp 110)) bl off m cq i hp ho hi2.1 hi2.2.1 (by omega) w),.fp (off:=off+i*9) (n:=9) (W:=sgC x) hh (zC hh) (hR _ _ hx).1 (hR _ _ hx).2,.v,.l 1,.v,.o (ins:=[((.tmp 114),.slice q' m cq'),((.tmp 115),iN i)]) (v:=.pointer (some ⟨bl2,off2+i*9,none⟩)) (fun ρ o w ho hi2=>zU (kd:=.i64) (t:=24) (e:=50) (K:=9) (bytes:=72) kr (x:=(.tmp 114)) (y:=(.tmp 115)) bl2 off2 m cq' i hp2 ho hi2.1 hi2.2.1 (by omega) w),.fp (off:=off2+i*9) (n:=9) (W:=sgC y) hh2 (zC hh2) (hR2 _ _ hy).1 (hR2 _ _ hy).2,.o (hit false rfl)] H6 kr fun w7 H7=>yZ ?_;exact ⟨kr,by rw [qW hx,qW hy,htk2,exy],H7.as kr,isK⟩
   | false=>
    refine dS [.v,.l 0,.v,.o (ins:=[((.tmp 109),.slice q m cq),((.tmp 110),iN i)]) (v:=.pointer (some ⟨bl,off+i*9,none⟩)) (fun ρ o w ho hi2=>zU (kd:=.i64) (t:=24) (e:=50) (K:=9) (bytes:=72) kr (x:=(.tmp 109)) (y:=(.tmp 110)) bl off m cq i hp ho hi2.1 hi2.2.1 (by omega) w),.fp (off:=off+i*9) (n:=9) (W:=sgC x) hh (zC hh) (hR _ _ hx).1 (hR _ _ hx).2,.v,.l 1,.v,.o (ins:=[((.tmp 114),.slice q' m cq'),((.tmp 115),iN i)]) (v:=.pointer (some ⟨bl2,off2+i*9,none⟩)) (fun ρ o w ho hi2=>zU (kd:=.i64) (t:=24) (e:=50) (K:=9) (bytes:=72) kr (x:=(.tmp 114)) (y:=(.tmp 115)) bl2 off2 m cq' i hp2 ho hi2.1 hi2.2.1 (by omega) w),.fp (off:=off2+i*9) (n:=9) (W:=sgC y) hh2 (zC hh2) (hR2 _ _ hy).1 (hR2 _ _ hy).2,.o (hit true rfl)] H6 kr fun w7 H7=>yb<|rS [.v] H7 kr fun gs5 w5 H5=>?_;exact rRe [.tmp 4] [] (v:=.bool false) (v':=.bool b) H5 (za ((no fun e=>absurd (hcmp.2 (by subst e;rw [hx] at hy;exact Option.some.inj hy)) (by decide)).symm)) kr
  ·rintro _ w7 ⟨htk2,H7,_,rfl⟩;rw [List.take_of_length_le (by omega),List.take_of_length_le (by omega)] at htk2;refine wW<|rS [.v] H7 kr fun gs8 w8 H8=>?_;exact rRe [.tmp 4] [] (v:=.bool true) (v':=.bool b) H8 (za (hb.2 (zay e_pa e_hh e_ro e_tx e_pr e_va htk e_vo e_ad e_rd htk2)).symm) kr
def isIt (t:ByteArray)(l:Bool)(s:ByteArray)(k:Fo)(m:Nat):Prop:= ∀(l':Bool) (s':ByteArray) (k':Fo) (X:List UInt8),mixed l' s' k'.len=false→pureF k'=true→tl t=wr1 l' s' (szF k') (wrF k')++X→l'=l∧s'=s∧k'=k∧m=(wr1 l' s' (szF k') (wrF k')).length
structure RdI (t:ByteArray)(l:Bool)(s:ByteArray)(p:Option Addr)(n:Nat)(k:Fo)(m:Nat)(T:List (Nat×Obj)):Prop where
 mix:mixed l s k.len=false
 pur:pureF k=true
 inn:SlIn T p n k
 ssz:s.size≤m
 one:1≤m
 le:m≤t.size
 cnt:1+k.cnt≤m
 wt:9+s.size+wtF k≤10*m
 is:isIt t l s k m
def appF:List X3→Fo→Fo
 | [],r=>r
 | x::M,r=>.cons x.l x.s x.k (appF M r)
structure RdL (t:ByteArray)(a b j:Nat)(p:Option Addr)(n c:Nat)(row:List (Nat×Obj))(M:List X3)(T:List (Nat×Obj)):Prop where
 row:RowSt p n c row M
 lo:a≤j
 hi:j≤a+b
 num:n≤(toFo M).cnt
 cnt:(toFo M).cnt≤j-a
 wt:wtF (toFo M)≤10*(j-a)
 pur:pureF (toFo M)=true
 inn:AllIn T M
 rest: ∀k',pureF k'=true→tl (t.extract a (a+b))=wrF k'→∃r,pureF r=true∧tl (t.extract j (a+b))=wrF r∧k'=appF M r
section
variable {t:ByteArray}{a b j:Nat}{p:Option Addr}{n c:Nat}{row:List (Nat×Obj)}{M:List X3}{T:List (Nat×Obj)}
end
section
variable {P:Program}{N:Nat}{ops:Array Oper}{K:Env→World→Prop}{ρ:Env}{w w0:World}{i B:Nat}{r:List Nat}{l:List (Nat×Obj)}
end
end Go.Proofs.YtbpmjppmpgeejaaGreatDoor
namespace Go.Proofs.YtbpmjppmpgeejaaGreatDoor
open Go Go.RowKit
open D2 (Gh)
set_option linter.unusedVariables false
section
variable {P:Program}{N:Nat}{ops:Array Oper}{i:Nat}{r:List Nat}{K:Env→World→Prop}{ρ:Env}{w w0:World}{B:Nat}{l:List (Nat×Obj)}
end
end Go.Proofs.YtbpmjppmpgeejaaGreatDoor
namespace Go.Proofs.YtbpmjppmpgeejaaGreatDoor
open Go Go.RowKit
open D2 (Gh)
set_option linter.unusedVariables false
def hd0:Hdr:=⟨em,0,em,em,em,em,[],em,false,0,[]⟩
def xe (S:ByteArray)(v:Value)(T:List (Nat×Obj)):Prop:=
 (∃(h:Hdr) (p:Option Addr) (n c:Nat) (q:Option Addr) (m k:Nat) (T1 T2:List (Nat×Obj)),v=.tuple #[hdV h p n c q m k,.int .i64 0]∧ya h=true∧ye h∧qx sS 9 p n c T1 h.vs∧qx sgF 50 q m k T2 h.ss∧T=T1++T2∧wrV yT (hdF h)=(S,0))∨
 (v=.tuple #[hdV hd0 none 0 0 none 0 0,.int .i64 4]∧T=[]∧ ∀h:Hdr,ya h=true→ye h→wrV yT (hdF h)≠(S,0))
def qj (t:ByteArray):Sg:=if zZ (sgR t) (sgS t) (sgV t)=true then (sgR t,sgS t,sgV t) else (0,0,0)
theorem ziF {t:ByteArray}(h:t.size=65):∃e:Int,kt t=.tuple #[.agg (sgC (qj t)),.int .i64 e]:=by
 rw [zhS];unfold qj;by_cases hm:zZ (sgR t) (sgS t) (sgV t)=true
 ·rw [if_pos ⟨h,hm⟩,if_pos hm];exact ⟨0,rfl⟩
 ·rw [if_neg (fun h9=>hm h9.2),if_neg hm];exact ⟨4,rfl⟩
theorem ziG {t:ByteArray}(h:t.size=65):sgOk (qj t):=by
 unfold qj;split
 ·exact ⟨zhP h,zhQ h⟩
 ·exact ⟨by decide,by decide⟩
theorem ziH {x:Sg}(o:sgOk x)(m:sgMay x=true):qj (sgB x)=x:=by
 obtain ⟨r,s,v⟩:=x;unfold qj;rw [zat o.1,zau o.2,zav m,if_pos m]
theorem zdZ: ∀ {L:List Sg},(∀x∈L,sgOk x)→L.all sgMay=true→(L.map sgB).map qj=L
 | [],_,_=>rfl
 | x::r,o,m=>by
  simp only [List.all_cons,Bool.and_eq_true] at m;rw [List.map_cons,List.map_cons,ziH (o x (List.mem_cons_self ..)) m.1,zdZ (fun y hy=>o y (List.mem_cons_of_mem _ hy)) m.2]
def hdX (pa:ByteArray)(hn:Nat)(ro tx pr va vo:ByteArray)(a rd:Nat)(L M:List ByteArray):Hdr:=⟨pa,hn,ro,tx,pr,va,L,vo,decide (0<a),rd,M.map qj⟩
theorem ziI {h:Hdr}(o:ye h)(r:ya h=true):hdX h.pa h.hh h.ro h.tx h.pr h.va h.vo (adN h.ad) h.rd h.vs (h.ss.map sgB)=h:=by
 refine zay rfl rfl rfl rfl rfl rfl rfl rfl ?_ rfl (zdZ o.ss (jN.1 r).ss);show decide (0<adN h.ad)=h.ad;cases h.ad<;>rfl
theorem zaK {B:Nat}{w:World}{p:Option Addr}{n:Nat}{l:Fe}(h:SlR fS B w p n l)(h0:l≠.nil):∃b off C T fz,p=some ⟨b,off,none⟩∧w.heap[b]? =some (.cells C T fz)∧
 ∀(i:Nat) (a:Nat×ByteArray) (k:Fe),l.at i=some (a,k)→C[off+i*3+0]? =some (.int .u64 ((a.1:Nat):Int))∧C[off+i*3+1]? =some (.string a.2)∧∃p' n' c',C[off+i*3+2]? =some (.slice p' n' c')∧SlR fS B w p' n' k∧off+i*3+3≤C.size∧C.extract (off+i*3) (off+i*3+3)=#[.int .u64 ((a.1:Nat):Int),.string a.2,.slice p' n' c']:=by
 obtain ⟨h1,h2,rfl|⟨b,off,e,hF⟩⟩:=h
 ·exact absurd rfl h0
 ·cases l with
  | nil=>exact absurd rfl h0
  | cons a0 k0 r0=>
   obtain ⟨⟨C,T,fz,_,_,_,_,hh,_⟩,_⟩:=id hF;refine ⟨b,off,C,T,fz,e,hh,fun i a k hk=>?_⟩;obtain ⟨C',T',fz',p',n',c',hb,hh',hs,hx,hok,hn',hm',hs'⟩:=yR.at hF hk;rw [hh] at hh';injection hh' with hh';injection hh' with hC _ _;subst hC;have hs:off+i*3+3≤C.size:=hs;have key: ∀j,j<3→C[off+i*3+j]? =([Value.int .u64 ((a.1:Nat):Int),.string a.2,.slice p' n' c']:List Value)[j]? :=fun j hj=>by
    have:(C.extract (off+i*3) (off+i*3+3))[j]? =C[off+i*3+j]? :=by rw [Array.getElem?_extract,if_pos (by omega)]
    rw [←this];have hx2:C.extract (off+i*3) (off+i*3+3)=([Value.int .u64 ((a.1:Nat):Int),.string a.2,.slice p' n' c']:List Value).toArray:=hx;rw [hx2];simp
   exact ⟨key 0 (by decide),key 1 (by decide),p',n',c',key 2 (by decide),⟨hn',hm',hs'⟩,hs,hx⟩
theorem zaL: ∀ {L:List ByteArray} {i:Nat} {x:ByteArray},L[i]? =some x→(lsF L).at i=some ((0,x),.nil)
 | a::r,0,x,h=>by simp at h;subst h;rfl
 | a::r,i+1,x,h=>zaL (L:=r) (by simpa using h)
theorem zd0 {L:List ByteArray}(h:0<L.length):lsF L≠.nil:=by cases L with | nil=>simp at h | cons a r=>intro e;unfold lsF at e;cases e
end Go.Proofs.YtbpmjppmpgeejaaGreatDoor
namespace Go.Proofs.YtbpmjppmpgeejaaGreatDoor
open Go Go.RowKit
open D2 (Gh)
set_option linter.unusedVariables false
def zd1 (h:Hdr)(v:Value)(T:List (Nat×Obj)):Prop:=∃(q1:Option Addr) (n1 c1:Nat) (q2:Option Addr) (n2 c2:Nat) (T1 T2:List (Nat×Obj)),v=hdV h q1 n1 c1 q2 n2 c2∧qx sS 9 q1 n1 c1 T1 h.vs∧qx sgF 50 q2 n2 c2 T2 h.ss∧T=T1++T2
theorem ziJ {k:Kf}{l:Fe}{S:ByteArray}(h:yl 40 k (0,⟨#[]⟩) l=(S,0)):S≠em:=by
 obtain ⟨_,he⟩:=jZ h;have h1:(zP true ⟨#[]⟩ (zN 40 k l).len (zN 40 k l)).2=0:=by rw [he]
 obtain ⟨e,hm,hp,_⟩:=kg h1;have h2:=(qU hm hp rfl).1;rw [he] at e;intro e0;have e3:=congrArg ByteArray.size e;rw [ql] at e3;have e4:S.size=0:=by rw [e0];rfl
 have e5:S.size=_:=e3;omega
theorem ziK (pa:ByteArray)(hn:Nat)(ro tx pr va:ByteArray)(L:List ByteArray)(vo:ByteArray)(a rd:Nat)(M:List ByteArray)(hLl:L.length≤40)(hMl:M.length≤40)(z9: ∀x∈M,ByteArray.size x=65)(p4:Option Addr)(c4:Nat):
 FnT Tryz.prog 37 #[.slice p4 11 c4] (fun w=>SlR fS w.heap.size w p4 11 (hdL pa hn ro tx pr va L vo a rd M)) (zd1 (hdX pa hn ro tx pr va vo a rd L M)):=by
 refine FnT.intro (c:=zg Tryz.f37) [.cell 2 26] 88 Tryz.func37 kr kr kr fun w hP=>rS [.a] (St.start w) kr fun gs1 w6 H1=>?_;have H6:St w.heap.size w w6 [((gs1 0).b,hdO hd0 none 0 0 none 0 0)]:=H1.as kr;have hsl:=SlR.call hP H6.below;have J0:=St.start w6;obtain ⟨b,off,C,Tt,fz,hp,hh,hcell⟩:=zaK hsl (by unfold hdL;exact fun e=>nomatch e);have f0:=(hcell 0 _ _ rfl).2.1;have f1:=(hcell 1 _ _ rfl).1;have f2:=(hcell 2 _ _ rfl).2.1;have f3:=(hcell 3 _ _ rfl).2.1;have f4:=(hcell 4 _ _ rfl).2.1;have f5:=(hcell 5 _ _ rfl).2.1;obtain ⟨p6,n6,c6,f6,s6,_⟩:=(hcell 6 _ _ rfl).2.2;have f7:=(hcell 7 _ _ rfl).2.1;have f8:=(hcell 8 _ _ rfl).1;have f9:=(hcell 9 _ _ rfl).1;obtain ⟨p10,n10,c10,f10,s10,_⟩:=(hcell 10 _ _ rfl).2.2;have hn6:n6=L.length:=s6.1.trans (ku L);have hn10:n10=M.length:=s10.1.trans (ku M);refine xP [(0,.slice p4 11 c4),(2,.pointer (some ⟨(gs1 0).b,0,none⟩))] kr fun ρ1=>dSg (fun gsd=>[.v,.o (ins:=[((.tmp 10),.slice p4 11 c4)]) (v:=.pointer (some ⟨b,off+0*3,none⟩)) (fun ρ o w ho hi2=>zU (kd:=.i64) (t:=41) (e:=44) (K:=3) (bytes:=48) kr (x:=(.tmp 10)) (y:=.const (.int .i64 0)) b off 11 c4 0 hp ho hi2.1 rfl (by decide) w),.v,.fs (off:=off+0*3+1) (v:=.string pa) hh (zC hh) f0,.v,.o (ins:=[((.tmp 14),.slice p4 11 c4)]) (v:=.pointer (some ⟨b,off+1*3,none⟩)) (fun ρ o w ho hi2=>zU (kd:=.i64) (t:=41) (e:=44) (K:=3) (bytes:=48) kr (x:=(.tmp 14)) (y:=.const (.int .i64 1)) b off 11 c4 1 hp ho hi2.1 rfl (by decide) w),.v,.fs (off:=off+1*3+0) (v:=.int .u64 (hn:Int)) hh (zC hh) f1,.v,.o (ins:=[((.tmp 18),.slice p4 11 c4)]) (v:=.pointer (some ⟨b,off+2*3,none⟩)) (fun ρ o w ho hi2=>zU (kd:=.i64) (t:=41) (e:=44) (K:=3) (bytes:=48) kr (x:=(.tmp 18)) (y:=.const (.int .i64 2)) b off 11 c4 2 hp ho hi2.1 rfl (by decide) w),.v,.fs (off:=off+2*3+1) (v:=.string ro) hh (zC hh) f2,.v,.o (ins:=[((.tmp 22),.slice p4 11 c4)]) (v:=.pointer (some ⟨b,off+3*3,none⟩)) (fun ρ o w ho hi2=>zU (kd:=.i64) (t:=41) (e:=44) (K:=3) (bytes:=48) kr (x:=(.tmp 22)) (y:=.const (.int .i64 3)) b off 11 c4 3 hp ho hi2.1 rfl (by decide) w),.v,.fs (off:=off+3*3+1) (v:=.string tx) hh (zC hh) f3,.v,.o (ins:=[((.tmp 26),.slice p4 11 c4)]) (v:=.pointer (some ⟨b,off+4*3,none⟩)) (fun ρ o w ho hi2=>zU (kd:=.i64) (t:=41) (e:=44) (K:=3) (bytes:=48) kr (x:=(.tmp 26)) (y:=.const (.int .i64 4)) b off 11 c4 4 hp ho hi2.1 rfl (by decide) w),.v,.fs (off:=off+4*3+1) (v:=.string pr) hh (zC hh) f4,.v,.o (ins:=[((.tmp 30),.slice p4 11 c4)]) (v:=.pointer (some ⟨b,off+5*3,none⟩)) (fun ρ o w ho hi2=>zU (kd:=.i64) (t:=41) (e:=44) (K:=3) (bytes:=48) kr (x:=(.tmp 30)) (y:=.const (.int .i64 5)) b off 11 c4 5 hp ho hi2.1 rfl (by decide) w),.v,.fs (off:=off+5*3+1) (v:=.string va) hh (zC hh) f5,.v,.o (ins:=[((.tmp 34),.slice p4 11 c4)]) (v:=.pointer (some ⟨b,off+7*3,none⟩)) (fun ρ o w ho hi2=>zU (kd:=.i64) (t:=41) (e:=44) (K:=3) (bytes:=48) kr (x:=(.tmp 34)) (y:=.const (.int .i64 7)) b off 11 c4 7 hp ho hi2.1 rfl (by decide) w),.v,.fs (off:=off+7*3+1) (v:=.string vo) hh (zC hh) f7,.v,.o (ins:=[((.tmp 38),.slice p4 11 c4)]) (v:=.pointer (some ⟨b,off+8*3,none⟩)) (fun ρ o w ho hi2=>zU (kd:=.i64) (t:=41) (e:=44) (K:=3) (bytes:=48) kr (x:=(.tmp 38)) (y:=.const (.int .i64 8)) b off 11 c4 8 hp ho hi2.1 rfl (by decide) w),.v,.fs (off:=off+8*3+0) (v:=.int .u64 (a:Int)) hh (zC hh) f8,.E (.bool ((a:Int)!=0)) (.bool (decide (0<a))) (za (by rw [Bool.eq_iff_iff];simp<;>omega)),.v,.o (ins:=[((.tmp 43),.slice p4 11 c4)]) (v:=.pointer (some ⟨b,off+9*3,none⟩)) (fun ρ o w ho hi2=>zU (kd:=.i64) (t:=41) (e:=44) (K:=3) (bytes:=48) kr (x:=(.tmp 43)) (y:=.const (.int .i64 9)) b off 11 c4 9 hp ho hi2.1 rfl (by decide) w),.v,.fs (off:=off+9*3+0) (v:=.int .u64 (rd:Int)) hh (zC hh) f9,.v,.a,.s 0]) J0 kr fun gsd w7 J1=>?_;obtain ⟨b6,hb6⟩:∃b6,(gsd 38).b=b6:=⟨_,rfl⟩
 have J2:St w6.heap.size w6 w7 [(b6,Obj.cells (hdC (hdX pa hn ro tx pr va vo a rd L M) none 0 0 none 0 0) 26 (0,0))]:=J1.as (by rw [←hb6];kernel_rfl);refine xP [(0,.slice p4 11 c4),(2,.pointer (some ⟨(gs1 0).b,0,none⟩)),(3,.pointer (some ⟨b6,0,none⟩))] (by rw [←hb6];kernel_rfl) fun ρ2=>?_;clear J0 J1 hb6;refine zd kr<|rS [.v,.o (ins:=[((.tmp 48),.slice p4 11 c4)]) (v:=.pointer (some ⟨b,off+6*3,none⟩)) (fun ρ o w ho hi2=>zU (kd:=.i64) (t:=41) (e:=44) (K:=3) (bytes:=48) kr (x:=(.tmp 48)) (y:=.const (.int .i64 6)) b off 11 c4 6 hp ho hi2.1 rfl (by decide) w),.v,.fs (off:=off+6*3+2) (v:=.slice p6 n6 c6) hh (zC hh) f6,.v,.v] J2 kr fun gs5 w8 J3=>jt 53 52 54 64 0 1 n6 (by omega) (fun i ρ ww=> ∃q1 cb1 Tb,qx sS 9 q1 i cb1 Tb (L.take i)∧St w6.heap.size w6 ww ((b6,Obj.cells (hdC (hdX pa hn ro tx pr va vo a rd L M) q1 i cb1 none 0 0) 26 (0,0))::Tb)∧Is [(0,.slice p4 11 c4),(2,.pointer (some ⟨(gs1 0).b,0,none⟩)),(3,.pointer (some ⟨b6,0,none⟩)),(51,.slice p6 n6 c6),(52,iN n6),(53,iN i)] ρ) (by rintro i _ ww ⟨_,_,_,_,_,_,rfl⟩;exact ⟨kr,kr⟩) ⟨none,0,[],.inl ⟨rfl,rfl,rfl,rfl,rfl⟩,J3.as kr,isK⟩ ?_ ?_
 ·clear J2 J3;rintro i _ w9 hi ⟨q1,cb1,Tb,hrow,J4,_,rfl⟩;obtain ⟨x,hx⟩:∃x,L[i]? =some x:=⟨_,List.getElem?_eq_getElem (by omega)⟩
  obtain ⟨bx,ox,CX,TX,fx,hpx,hhx,hcx⟩:=zaK s6 (zd0 (by omega));obtain ⟨_,_,px,nx,cx,_,_,e1,e2⟩:=hcx i _ _ (zaL hx);refine zf [0,1,2,3] kr kr<|rp [.o (ins:=[((.tmp 51),.slice p6 n6 c6),((.tmp 53),iN i)]) (v:=.pointer (some ⟨bx,ox+i*3,none⟩)) (fun ρ o w ho hi2=>zU (kd:=.i64) (t:=41) (e:=44) (K:=3) (bytes:=48) kr (x:=(.tmp 51)) (y:=(.tmp 53)) bx ox n6 c6 i hpx ho hi2.1 hi2.2.1 (by omega) w),.fp (off:=ox+i*3) (n:=3) (W:=#[wZ,.string x,.slice px nx cx]) hhx (zC hhx) e1 e2] J4 kr fun gs6 w10 J5=>wX [2,3] ?_;have J6:St w6.heap.size w6 w10 ((b6,Obj.cells (hdC (hdX pa hn ro tx pr va vo a rd L M) q1 i cb1 none 0 0) 26 (0,0))::Tb):=J5.as kr;refine zE J6 (some 5) 44 (.agg #[wZ,.string em,.slice none 0 0]) kr kr kr ?_;intro b8 w11 J7;refine rp [.s 0] J7 kr fun gs7 w12 J8=>wX []<|zb<|ys [0,1,2,3,4,5,6,7] kr<|rp [.v,.l 1,.v,.l 0] J8 kr fun gs8 w13 J9=>wX [4,5,6,7] ?_;have J10:St w6.heap.size w6 w13 ((b8,.cells #[wZ,.string x,.slice px nx cx] 44 (0,0))::(b6,Obj.cells (hdC (hdX pa hn ro tx pr va vo a rd L M) q1 i cb1 none 0 0) 26 (0,0))::Tb):=J9.as kr;refine zbA J10 (some 61) (fun b=>.slice (some ⟨b,0,none⟩) 1 1) (sS.cs x).toArray 9 kr kr ?_;intro bn w14 J11;refine zbB (S:=sS) (some 62) 23 9 16 (.tmp 58) (.tmp 61) (J11.perm (List.Perm.cons _ (List.perm_append_comm (l₁:=Tb) (l₂:=[(b8,.cells #[wZ,.string x,.slice px nx cx] 44 (0,0)),(b6,Obj.cells (hdC (hdX pa hn ro tx pr va vo a rd L M) q1 i cb1 none 0 0) 26 (0,0))])))) hrow kr kr kr kr kr (by omega) (by unfold maxLen;omega) ?_;intro b' cap' cur' w15 J12 hr';refine rp [.v,.s 2] J12 kr fun gs9 w16 J13=>wX []<|zb ?_;have J14:St w6.heap.size w6 w16 [(b',.cells cur' 9 (0,0)),(b8,.cells #[wZ,.string x,.slice px nx cx] 44 (0,0)),(b6,Obj.cells (hdC (hdX pa hn ro tx pr va vo a rd L M) (some ⟨b',0,none⟩) (i+1) cap' none 0 0) 26 (0,0))]:=J13.as kr;refine ⟨kr,some ⟨b',0,none⟩,cap',[(b',.cells cur' 9 (0,0))],.inr ⟨b',cur',rfl,rfl,?_⟩,(J14.sub (List.Sublist.cons_cons _ (List.sublist_cons_self ..))).perm (List.perm_append_comm (l₁:=[(b6,Obj.cells (hdC (hdX pa hn ro tx pr va vo a rd L M) (some ⟨b',0,none⟩) (i+1) cap' none 0 0) 26 (0,0))]) (l₂:=[(b',Obj.cells cur' 9 (0,0))])),isK⟩;rw [qW hx];exact hr'
 ·rintro _ w9 ⟨q1,cb1,Tb,hrow,J4,_,rfl⟩;clear J2 J3;rw [List.take_of_length_le (by omega)] at hrow;refine wW<|zd kr<|rS [.v,.o (ins:=[((.tmp 65),.slice p4 11 c4)]) (v:=.pointer (some ⟨b,off+10*3,none⟩)) (fun ρ o w ho hi2=>zU (kd:=.i64) (t:=41) (e:=44) (K:=3) (bytes:=48) kr (x:=(.tmp 65)) (y:=.const (.int .i64 10)) b off 11 c4 10 hp ho hi2.1 rfl (by decide) w),.v,.fs (off:=off+10*3+2) (v:=.slice p10 n10 c10) hh (zC hh) f10,.v,.v] J4 kr fun gs6 w10 J5=>jt 70 69 71 86 2 3 n10 (by omega) (fun i ρ ww=> ∃q2 cb2 T2,qx sgF 50 q2 i cb2 T2 ((M.take i).map qj)∧St w6.heap.size w6 ww ((b6,Obj.cells (hdC (hdX pa hn ro tx pr va vo a rd L M) q1 n6 cb1 q2 i cb2) 26 (0,0))::(Tb++T2))∧Is [(0,.slice p4 11 c4),(2,.pointer (some ⟨(gs1 0).b,0,none⟩)),(3,.pointer (some ⟨b6,0,none⟩)),(68,.slice p10 n10 c10),(69,iN n10),(70,iN i)] ρ) (by rintro i _ ww ⟨_,_,_,_,_,_,rfl⟩;exact ⟨kr,kr⟩) ⟨none,0,[],.inl ⟨rfl,rfl,rfl,rfl,rfl⟩,by rw [List.append_nil];exact J5.as kr,isK⟩ ?_ ?_
  ·clear J4 J5;rintro i _ w11 hi ⟨q2,cb2,T2,hrow2,J6,_,rfl⟩;obtain ⟨x,hx⟩:∃x,M[i]? =some x:=⟨_,List.getElem?_eq_getElem (by omega)⟩
   have hx65:=z9 x (List.mem_of_getElem? hx);obtain ⟨bx,ox,CX,TX,fx,hpx,hhx,hcx⟩:=zaK s10 (zd0 (by omega));obtain ⟨_,_,px,nx,cx,_,_,e1,e2⟩:=hcx i _ _ (zaL hx);obtain ⟨ee,hfr9⟩:=ziF hx65;have hfr:=zhL x (by omega);rw [hfr9] at hfr;refine zf [0,1,2,3] kr kr<|rp [.o (ins:=[((.tmp 68),.slice p10 n10 c10),((.tmp 70),iN i)]) (v:=.pointer (some ⟨bx,ox+i*3,none⟩)) (fun ρ o w ho hi2=>zU (kd:=.i64) (t:=41) (e:=44) (K:=3) (bytes:=48) kr (x:=(.tmp 68)) (y:=(.tmp 70)) bx ox n10 c10 i hpx ho hi2.1 hi2.2.1 (by omega) w),.fp (off:=ox+i*3) (n:=3) (W:=#[wZ,.string x,.slice px nx cx]) hhx (zC hhx) e1 e2] J6 kr fun gs7 w12 J7=>wX [2,3] ?_;have J8:St w6.heap.size w6 w12 ((b6,Obj.cells (hdC (hdX pa hn ro tx pr va vo a rd L M) q1 n6 cb1 q2 i cb2) 26 (0,0))::(Tb++T2)):=J7.as kr;refine zE J8 (some 7) 44 (.agg #[wZ,.string em,.slice none 0 0]) kr kr kr ?_;intro b10 w13 J9;refine rp [.s 0] J9 kr fun gs8 w14 J10=>wX []<|zb<|zf [0,1,2,3,4,5,6,7,8] kr kr<|rp [.v,.l 0,.c hfr,.v,.v,.v] J10 kr fun gs9 w15 J11=>wX [6,7,8] ?_;have J12:St w6.heap.size w6 w15 ((b10,.cells #[wZ,.string x,.slice px nx cx] 44 (0,0))::(b6,Obj.cells (hdC (hdX pa hn ro tx pr va vo a rd L M) q1 n6 cb1 q2 i cb2) 26 (0,0))::(Tb++T2)):=J11.as kr;refine zE J12 (some 8) 50 (.agg (sgC (0,0,0))) kr kr kr ?_;intro b11 w16 J13;refine rp [.s 0,.v] J13 kr fun gs10 w17 J14=>wX []<|zb<|ys [0,1,2,3,4,5,6] kr<|rp [.v,.l 2,.l 0] J14 kr fun gs11 w18 J15=>wX [3,4,5,6] ?_;have J16:St w6.heap.size w6 w18 ((b11,sgO (qj x))::(b10,.cells #[wZ,.string x,.slice px nx cx] 44 (0,0))::(b6,Obj.cells (hdC (hdX pa hn ro tx pr va vo a rd L M) q1 n6 cb1 q2 i cb2) 26 (0,0))::(Tb++T2)):=J15.as kr;refine zbA J16 (some 83) (fun b=>.slice (some ⟨b,0,none⟩) 1 1) (sgF.cs (qj x)).toArray 50 kr kr ?_;intro bn w19 J17;refine zbB (S:=sgF) (some 84) 24 50 72 (.tmp 81) (.tmp 83) (J17.perm (List.Perm.cons _ (zdL [(b11,sgO (qj x)),(b10,.cells #[wZ,.string x,.slice px nx cx] 44 (0,0)),(b6,Obj.cells (hdC (hdX pa hn ro tx pr va vo a rd L M) q1 n6 cb1 q2 i cb2) 26 (0,0))] Tb T2))) hrow2 kr kr kr kr kr (by omega) (by unfold maxLen;omega) ?_;intro b' cap' cur' w20 J18 hr';refine rp [.v,.s 3] J18 kr fun gs12 w21 J19=>wX []<|zb ?_;have J20:St w6.heap.size w6 w21 ((b',.cells cur' 50 (0,0))::(b11,sgO (qj x))::(b10,.cells #[wZ,.string x,.slice px nx cx] 44 (0,0))::(b6,Obj.cells (hdC (hdX pa hn ro tx pr va vo a rd L M) q1 n6 cb1 (some ⟨b',0,none⟩) (i+1) cap') 26 (0,0))::Tb):=J19.as kr;refine ⟨kr,some ⟨b',0,none⟩,cap',[(b',.cells cur' 50 (0,0))],.inr ⟨b',cur',rfl,rfl,?_⟩,(J20.sub (List.Sublist.cons_cons _ (List.Sublist.cons _ (List.sublist_cons_self ..)))).perm (zdL [(b6,Obj.cells (hdC (hdX pa hn ro tx pr va vo a rd L M) q1 n6 cb1 (some ⟨b',0,none⟩) (i+1) cap') 26 (0,0))] Tb [(b',Obj.cells cur' 50 (0,0))]).symm,isK⟩;rw [qW hx,List.map_append];exact hr'
  ·rintro _ w11 ⟨q2,cb2,T2,hrow2,J6,_,rfl⟩;clear J4 J5;rw [List.take_of_length_le (by omega)] at hrow2;refine wW ?_;have H9:St w.heap.size w w11 ((b6,Obj.cells (hdC (hdX pa hn ro tx pr va vo a rd L M) q1 n6 cb1 q2 n10 cb2) 26 (0,0))::((gs1 0).b,hdO hd0 none 0 0 none 0 0)::(Tb++T2)):=(H6.addAll J6).perm (List.Perm.cons _ (List.perm_append_comm (l₁:=[((gs1 0).b,hdO hd0 none 0 0 none 0 0)]) (l₂:=Tb++T2)));refine rS [.l 0,.s 1] H9 kr fun gs10 w17 H10=>rRr [.cell 2 26] [1] (hdV (hdX pa hn ro tx pr va vo a rd L M) q1 n6 cb1 q2 n10 cb2) (yn w.heap.size w (zd1 (hdX pa hn ro tx pr va vo a rd L M))) H10 kr ?_;exact ⟨Tb++T2,⟨q1,n6,cb1,q2,n10,cb2,Tb,T2,rfl,hrow,hrow2,rfl⟩,(H10.as (l:=(b6,Obj.cells (hdC (hdX pa hn ro tx pr va vo a rd L M) q1 n6 cb1 q2 n10 cb2) 26 (0,0))::((gs1 0).b,hdO (hdX pa hn ro tx pr va vo a rd L M) q1 n6 cb1 q2 n10 cb2)::(Tb++T2)) kr).sub (List.Sublist.cons _ (List.sublist_cons_self ..))⟩
theorem zd2 (S:ByteArray)(hS:S.size≤4100):FnT Tryz.prog 18 #[.string S] (fun _=>True) (xe S):=by
 refine FnT.intro (c:=zg Tryz.f18) [.cell 2 26,.tmp 3] 29 Tryz.func18 kr kr kr fun w _=>?_;have H0:=St.start w;refine rS [.a,.v] H0 kr fun gs1 w1 H1=>zf [0,1,2,3,4,5,6] kr kr<|rp [.v] H1 kr fun gs2 w2 H2=>wX [1,2,3,4,5,6] ?_;have H3:St w.heap.size w w2 [((gs1 0).b,hdO hd0 none 0 0 none 0 0)]:=H2.as kr;refine qH H3 (some 11) 36 #[.string yT,.string S] (zhp yT S (by omega)) trivial kr kr ?_;intro v T w3 hrd H4;rcases hrd with ⟨p4,n4,c4,l4,k4,hp4,rfl,hR4,hw4⟩ | ⟨e,he,rfl,hbad⟩
 case inr=>
  refine rp [.v,.v,.v,.v,.v] H4 kr fun gs3 w4 H5=>wX []<|zb<|wW<|zd kr<|rS [.v,.E (.bool (e !=0)) (.bool true) (za (bne_iff_ne.2 he))] H5 kr fun gs4 w5 H6=>yb ?_;have H7:St w.heap.size w w5 [((gs1 0).b,hdO hd0 none 0 0 none 0 0)]:=H6.sub (List.sublist_append_right T _);refine rS [.v,.s 0,.v] H7 kr fun gs20 w20 H20=>rRr [.cell 2 26,.tmp 3] [0] (.tuple #[hdV hd0 none 0 0 none 0 0,.int .i64 4]) (yn w.heap.size w (xe S)) H20 kr ?_;exact ⟨[],.inr ⟨rfl,rfl,fun h hr ho e9=>hbad _ _ xa.parse (ud ho) (by unfold wrV at e9;rw [xa.parse] at e9;exact e9)⟩,H20.sub (List.nil_sublist _)⟩
 obtain rfl:kfL hK=k4:=Option.some.inj (xa.parse.symm.trans hp4);have hne:=ziJ hw4;refine rp [.v,.v,.v,.v,.v] H4 kr fun gs3 w4 H5=>wX []<|zb<|wW<|zd kr<|rS [.v,.v] H5 kr fun gs4 w6 H6=>yZ<|wW ?_;have hfit:=(zan xa.kd l4).1 (jZ hw4).1;obtain ⟨pa,hn,ro,tx,pr,va,L,vo,a,rd,M,rfl,z1,z2,z3,z4,z5,z6,z7,z8,z9,z10⟩:=(zdx l4).1 hfit.1;have hsl:=hR4.at H6 fun e he=>List.mem_append_left _ he;have hok4:=hsl.ok;have eqH: ∀h:Hdr,ya h=true→ye h→wrV yT (hdF h)=(S,0)→(hdX pa hn ro tx pr va vo a rd L M)=h:=fun h hr ho e=>by
  unfold wrV at e;rw [xa.parse] at e;have e2:=zc9 hw4 e hok4 (ud ho);obtain ⟨rfl,rfl,rfl,rfl,rfl,rfl,rfl,rfl,rfl,rfl,rfl⟩:=zdr e2;exact ziI ho hr
 have hox:ye (hdX pa hn ro tx pr va vo a rd L M):=⟨hok4.2.2.1.1,hok4.2.2.2.2.2.2.2.2.2.2.2.2.2.2.2.2.2.2.1.1,by show pa.size≤_;omega,by show ro.size≤_;omega,by show tx.size≤_;omega,by show pr.size≤_;omega,by show va.size≤_;omega,by show vo.size≤_;omega,(fun x hx=>by have:=z6 x hx;omega),by show L.length≤_;omega,(fun x hx=>by obtain ⟨y,hy,rfl⟩:=List.mem_map.1 hx;exact ziG (z9 y hy)),by show (M.map qj).length≤_;rw [List.length_map];omega⟩
 obtain rfl:n4=11:=hsl.1;refine zf [0,1,2,3] kr kr<|rp [.v] H6 kr fun gs5 w7 H7=>wX [1,2,3] ?_;have H8:St w.heap.size w w7 (T++ [((gs1 0).b,hdO hd0 none 0 0 none 0 0)]):=H7.as kr;refine qH H8 (some 18) 37 #[.slice p4 11 c4] (ziK pa hn ro tx pr va L vo a rd M (by omega) (by omega) z9 p4 c4) (hR4.at H8 fun e he=>List.mem_append_left _ he) kr kr ?_;rintro _ _ w8 ⟨q1,n6,cb1,q2,n10,cb2,Tb,T2,rfl,hrow,hrow2,rfl⟩ H9;refine zE H9 (some 6) 26 (hdV hd0 none 0 0 none 0 0) kr kr kr ?_;intro b6 w9 H10;refine rp [.s 0] H10 kr fun gs6 w10 H11=>wX []<|zb<|wW ?_;have H12:St w.heap.size w w10 ((b6,Obj.cells (hdC (hdX pa hn ro tx pr va vo a rd L M) q1 n6 cb1 q2 n10 cb2) 26 (0,0))::((Tb++T2)++(T++ [((gs1 0).b,hdO hd0 none 0 0 none 0 0)]))):=H11.as kr;have H13:St w.heap.size w w10 ((b6,Obj.cells (hdC (hdX pa hn ro tx pr va vo a rd L M) q1 n6 cb1 q2 n10 cb2) 26 (0,0))::((gs1 0).b,hdO hd0 none 0 0 none 0 0)::(Tb++T2)):=(H12.sub (List.Sublist.cons_cons _ (List.Sublist.append (List.Sublist.refl (Tb++T2)) (List.sublist_append_right T [((gs1 0).b,hdO hd0 none 0 0 none 0 0)])))).perm (List.Perm.cons _ (List.perm_append_comm (l₁:=[((gs1 0).b,hdO hd0 none 0 0 none 0 0)]) (l₂:=Tb++T2)));clear H0 H1 H2 H3 H4 H5 H6 H7 H8 H9 H10 H11 H12 hsl;have hat: ∀ {ww:World},St w.heap.size w ww ((b6,Obj.cells (hdC (hdX pa hn ro tx pr va vo a rd L M) q1 n6 cb1 q2 n10 cb2) 26 (0,0))::((gs1 0).b,hdO hd0 none 0 0 none 0 0)::(Tb++T2))→yU ww (hdX pa hn ro tx pr va vo a rd L M) q1 n6 q2 n10:=fun H=>⟨hrow.atF H fun e he=>by simp [he],hrow2.atF H fun e he=>by simp [he]⟩
 refine zd kr<|zf [0,1,2,3,4,5,6] kr kr<|rp [.l 0] H13 kr fun gs7 w12 J7=>wX [1,2,3,4,5,6] ?_;have J8:St w.heap.size w w12 ((b6,Obj.cells (hdC (hdX pa hn ro tx pr va vo a rd L M) q1 n6 cb1 q2 n10 cb2) 26 (0,0))::((gs1 0).b,hdO hd0 none 0 0 none 0 0)::(Tb++T2)):=J7.as kr;cases hr:ya (hdX pa hn ro tx pr va vo a rd L M) with
 | false=>
  refine yJ J8 (some 21) 7 #[hdV (hdX pa hn ro tx pr va vo a rd L M) q1 n6 cb1 q2 n10 cb2] _ _ (zdO (hdX pa hn ro tx pr va vo a rd L M) hox.sm hr q1 n6 cb1 q2 n10 cb2) (hat J8) (fun w=>by kernel_rfl) kr ?_;intro w13 J9;refine rp [.v,.v,.v,.v,.v] J9 kr fun gs8 w14 J10=>wX []<|zb<|wW<|rS [.v,.v,.E (.bool (!(em.toList==S.toList))) (.bool true) (za (by rw [yL _ _ (fun e=>hne e.symm)];rfl))] J10 kr fun gs9 w15 J11=>?_;have G:St w.heap.size w w15 ((b6,Obj.cells (hdC (hdX pa hn ro tx pr va vo a rd L M) q1 n6 cb1 q2 n10 cb2) 26 (0,0))::((gs1 0).b,hdO hd0 none 0 0 none 0 0)::(Tb++T2)):=J11.as kr;refine yb<|rS [.v,.s 1,.v] G kr fun gs20 w20 H20=>rRr [.cell 2 26,.tmp 3] [1] (.tuple #[hdV hd0 none 0 0 none 0 0,.int .i64 4]) (yn w.heap.size w (xe S)) H20 kr ?_;exact ⟨[],.inr ⟨rfl,rfl,fun h hr2 ho e9=>by rw [eqH h hr2 ho e9,hr2] at hr;cases hr⟩,H20.sub (List.nil_sublist _)⟩
 | true=>
  refine yJ J8 (some 21) 7 #[hdV (hdX pa hn ro tx pr va vo a rd L M) q1 n6 cb1 q2 n10 cb2] _ _ (uk (hdX pa hn ro tx pr va vo a rd L M) hox hr q1 n6 cb1 q2 n10 cb2) (hat J8) (fun w=>by kernel_rfl) kr ?_;intro w13 J9;refine rp [.v,.v,.v,.v,.v] J9 kr fun gs8 w14 J10=>wX []<|zb<|wW ?_;by_cases hrec:qi (hdX pa hn ro tx pr va vo a rd L M)=S
  case neg=>
   refine rS [.v,.v,.E (.bool (!((qi (hdX pa hn ro tx pr va vo a rd L M)).toList==S.toList))) (.bool true) (za (by rw [yL _ _ hrec];rfl))] J10 kr fun gs9 w15 J11=>?_;have G:St w.heap.size w w15 ((b6,Obj.cells (hdC (hdX pa hn ro tx pr va vo a rd L M) q1 n6 cb1 q2 n10 cb2) 26 (0,0))::((gs1 0).b,hdO hd0 none 0 0 none 0 0)::(Tb++T2)):=J11.as kr;refine yb<|rS [.v,.s 1,.v] G kr fun gs20 w20 H20=>rRr [.cell 2 26,.tmp 3] [1] (.tuple #[hdV hd0 none 0 0 none 0 0,.int .i64 4]) (yn w.heap.size w (xe S)) H20 kr ?_;exact ⟨[],.inr ⟨rfl,rfl,fun h hr2 ho e9=>hrec (by rw [eqH h hr2 ho e9];exact congrArg Prod.fst e9)⟩,H20.sub (List.nil_sublist _)⟩
  refine rS [.v,.v,.E (.bool (!((qi (hdX pa hn ro tx pr va vo a rd L M)).toList==S.toList))) (.bool false) (za (by rw [zD _ _ hrec];rfl))] J10 kr fun gs9 w15 J11=>?_;have G:St w.heap.size w w15 ((b6,Obj.cells (hdC (hdX pa hn ro tx pr va vo a rd L M) q1 n6 cb1 q2 n10 cb2) 26 (0,0))::((gs1 0).b,hdO hd0 none 0 0 none 0 0)::(Tb++T2)):=J11.as kr;refine yZ<|wW<|rS [.l 0,.s 1,.v] G kr fun gs10 w17 H10=>rRr [.cell 2 26,.tmp 3] [1] (.tuple #[hdV (hdX pa hn ro tx pr va vo a rd L M) q1 n6 cb1 q2 n10 cb2,.int .i64 0]) (yn w.heap.size w (xe S)) H10 kr ?_;exact ⟨Tb++T2,.inl ⟨(hdX pa hn ro tx pr va vo a rd L M),q1,n6,cb1,q2,n10,cb2,Tb,T2,rfl,hr,hox,hrow,hrow2,rfl,Prod.ext hrec (zaE hr)⟩,(H10.as (l:=(b6,Obj.cells (hdC (hdX pa hn ro tx pr va vo a rd L M) q1 n6 cb1 q2 n10 cb2) 26 (0,0))::((gs1 0).b,hdO (hdX pa hn ro tx pr va vo a rd L M) q1 n6 cb1 q2 n10 cb2)::(Tb++T2)) kr).sub (List.Sublist.cons _ (List.sublist_cons_self ..))⟩
end Go.Proofs.YtbpmjppmpgeejaaGreatDoor
namespace Go.Proofs.YtbpmjppmpgeejaaGreatDoor
open Go Go.RowKit
open D2 (Gh)
set_option linter.unusedVariables false
def RdH (S:ByteArray)(h:Hdr)(e:Int):Prop:=(e=0∧ya h=true∧wrV yT (hdF h)=(S,0))∨(e=4∧h=hd0∧ ∀k:Hdr,ya k=true→ye k→wrV yT (hdF k)≠(S,0))
theorem zaM:ye hd0:=⟨by decide,by decide,Nat.zero_le _,Nat.zero_le _,Nat.zero_le _,Nat.zero_le _,Nat.zero_le _,Nat.zero_le _,(fun _ h=>nomatch h),Nat.zero_le _,(fun _ h=>nomatch h),Nat.zero_le _⟩
theorem xe.one {S:ByteArray}{v:Value}{T:List (Nat×Obj)}(h:xe S v T):∃(h:Hdr) (p:Option Addr) (n c:Nat) (q:Option Addr) (m k:Nat) (T1 T2:List (Nat×Obj)) (e:Int),v=.tuple #[hdV h p n c q m k,.int .i64 e]∧ye h∧qx sS 9 p n c T1 h.vs∧qx sgF 50 q m k T2 h.ss∧T=T1++T2∧RdH S h e:=by
 rcases h with ⟨h,p,n,c,q,m,k,T1,T2,hv,hr,ho,h1,h2,hT,hw⟩|⟨hv,hT,hno⟩
 ·exact ⟨h,p,n,c,q,m,k,T1,T2,0,hv,ho,h1,h2,hT,.inl ⟨rfl,hr,hw⟩⟩
 ·exact ⟨hd0,none,0,0,none,0,0,[],[],4,hv,zaM,.inl ⟨rfl,rfl,rfl,rfl,rfl⟩,.inl ⟨rfl,rfl,rfl,rfl,rfl⟩,hT,.inr ⟨rfl,rfl,hno⟩⟩
theorem ziL {h k:Hdr}{S:ByteArray}(oh:ye h)(ok:ye k)(rh:ya h=true)(rk:ya k=true)(e1:wrV yT (hdF h)=(S,0))(e2:wrV yT (hdF k)=(S,0)):h=k:=by
 unfold wrV at e1 e2;rw [xa.parse] at e1 e2;exact zhZ oh ok rh rk (zc9 e1 e2 (ud oh) (ud ok))
theorem RdH.eq {S:ByteArray}{h k:Hdr}{e f:Int}(a:RdH S h e)(b:RdH S k f)(oh:ye h)(ok:ye k):h=k∧e=f:=by
 rcases a with ⟨e1,e2,e3⟩|⟨e1,e2,e3⟩<;>rcases b with ⟨f1,f2,f3⟩ | ⟨f1,f2,f3⟩
 ·exact ⟨ziL oh ok e2 f2 e3 f3,by omega⟩
 ·exact absurd e3 (f3 h e2 oh)
 ·exact absurd f3 (e3 k f2 ok)
 ·exact ⟨by rw [e2,f2],by omega⟩
theorem ziM {h:Hdr}(r:ya h=true):RdH (qi h) h 0:=.inl ⟨rfl,r,Prod.ext rfl (zaE r)⟩
end Go.Proofs.YtbpmjppmpgeejaaGreatDoor
namespace Go.Proofs.YtbpmjppmpgeejaaGreatDoor
open Go Go.RowKit
open D2 (Gh)
set_option linter.unusedVariables false
end Go.Proofs.YtbpmjppmpgeejaaGreatDoor
namespace Go.Proofs.YtbpmjppmpgeejaaGreatDoor
open Go Go.RowKit
open D2 (Gh)
set_option linter.unusedVariables false
theorem ziN (hd:Hdr)(p:Option Addr)(n c:Nat)(q:Option Addr)(m k:Nat)(hp:qy p n c)(hq:qy q m k)(hnum:zdH hd)(s:ByteArray):FnP Tryz.prog 5 #[hdV hd p n c q m k,.string s] (fun w=>yU w hd p n q m) (.bool true):=by
 refine FnP.intro (c:=zg Tryz.f5) [.tmp 4] 72 Tryz.func5 kr kr kr fun w hP=>?_;have hm:=hP.2.1;have H0:=St.start w;obtain ⟨S,hS⟩:∃S,s.extract 0 (min s.size 3000)=S:=⟨_,rfl⟩
 have hSz:S.size≤3000:=by rw [←hS,ByteArray.size_extract];omega
 refine rS [.b,.v] H0 kr fun gs1 w1 H1=>?_;have H1':St w.heap.size w w1 [((gs1 0).b,hdO hd p n c q m k)]:=H1.as kr;refine zd kr<|D2.g_draw0 [0,1,2,3,4,5,6,7,8] [(some 13,fun _=>hdV hd p n c q m k),(some 14,fun y=>hdV (qr hd) (some ⟨y.b,0,none⟩) y.n y.cap q (hd.ss.take 20).length k),(some 15,fun _=>.string s),(some 16,fun _=>.string s),(some 17,fun _=>iN s.size),(some 18,fun _=>iN (min s.size 3000)),(some 19,fun _=>.string (s.extract 0 (min s.size 3000))),(none,fun _=>undef),(some 1,fun _=>.string (s.extract 0 (min s.size 3000)))]
  (D2.chn [1,7] (fun j g ww=>match j with
   | 0=>St w.heap.size w ww [((gs1 0).b,hdO hd p n c q m k)]
   | 1=>Rw 1 (g 1).cur (g 1).cap (g 1).n (cellsF sS (qr hd).vs)∧St w.heap.size w ww [((g 1).b,.cells (g 1).cur 9 (0,0)),((gs1 0).b,hdO hd p n c q m k)]
   | _=>Rw 1 (g 1).cur (g 1).cap (g 1).n (cellsF sS (qr hd).vs)∧St w.heap.size w ww [((g 1).b,.cells (g 1).cur 9 (0,0)),((gs1 0).b,hdO (qr hd) (some ⟨(g 1).b,0,none⟩) (g 1).n (g 1).cap q (hd.ss.take 20).length k)])) kr kr kr H1'.drew ⟨?_,?_,?_,?_,?_,?_,?_,?_,?_,trivial⟩ ?_
 ·exact D2.gv_ld (fun _ _ _ h=>h) 26 (.tmp 2) (fun _=>(gs1 0).b) 0 (hdC hd p n c q m k) 26 (0,0) (fun g=>by kernel_rfl) (fun g=>by kernel_rfl) (fun L1 g ww hN hp=>D2.chn.getN hp 1 7 rfl (hN.post 7 kr) fun j hj h=>by
   match j,h with
   | 0,h=>exact St.get h 0 kr
   | 1,h=>exact St.get h.2 1 kr) kr kr
 ·refine D2.gv_chn 1 0 (fun L hN=>by
   have e1:=hN.1;have e7:=hN.post 7 kr
   exact ⟨by (simp [D2.stg,e1,e7])<;>rfl,by (simp [D2.stg,D2.put1,e1,e7])<;>rfl⟩) fun g ww hq1=>?_
  refine D2.run_ft (ziE hd p n c q m k hp hq) (hP.call (St.below hq1)) kr ?_;rintro _ _ w' ⟨b,m',k',cur,rfl,rfl,hrw⟩ hT;exact ⟨{ b:=b,n:=m',cap:=k',cur:=cur },rfl,hrw,(St.addAll hq1 hT).as kr⟩
 ·exact D2.gv_val (fun _ _ _ h=>h) (fun g w=>by kernel_rfl)
 ·exact D2.gv_val (fun _ _ _ h=>h) (fun g w=>by kernel_rfl)
 ·exact D2.gv_val (fun _ _ _ h=>h) (fun g w=>by kernel_rfl)
 ·exact D2.gv_valE (V':=.int .i64 (if (3000:Int)<(s.size:Int) then (3000:Int) else (s.size:Int))) (fun _ _ _ h=>h) (fun g w=>by kernel_rfl) (zr (by split<;>omega))
 ·exact D2.gv_op (fun _ _ _ h=>h) (.slice 9 (.tmp 15) none (some (.tmp 18)) none) (fun g=>by kernel_rfl) (fun g o w ho=>jB (t:=9) (kd:=.i64) kr (x:=(.tmp 15)) (y:=(.tmp 18)) s (min s.size 3000) ho kr kr (Nat.min_le_left _ _) w)
 ·refine D2.gv_chn 7 1 (fun L hN=>by
   have e7:=hN.1;have e1:=hN.bef 1 kr
   exact ⟨by (simp [D2.stg,e1,e7])<;>rfl,by (simp [D2.stg,D2.put1,e1,e7])<;>rfl⟩) fun g ww hq1=>?_
  exact D2.run_sto (t:=26) (x:=.tmp 2) (y:=.tmp 14) (b:=(gs1 0).b) (off:=0) (C:=hdC hd p n c q m k) (C':=hdC (qr hd) (some ⟨(g 1).b,0,none⟩) (g 1).n (g 1).cap q (hd.ss.take 20).length k) (T:=26) (v:=hdV (qr hd) (some ⟨(g 1).b,0,none⟩) (g 1).n (g 1).cap q (hd.ss.take 20).length k) kr kr kr kr kr (St.get hq1.2 1 kr) (Nat.le_of_ble_eq_true kr) kr ⟨g 7,rfl,hq1.1,St.store (C:=hdC hd p n c q m k) (T:=26) hq1.2 1 kr⟩
 ·exact D2.gv_val (fun _ _ _ h=>h) (fun g w=>by kernel_rfl)
 intro L1 g w3 hall hp9;obtain ⟨hrw,H3⟩:=hp9.fin (fun k hk=>hall k (by simp at hk;rcases hk with rfl | rfl<;>exact Nat.le_of_ble_eq_true kr));refine wW<|xP [(1,.string (s.extract 0 (min s.size 3000))),(2,.pointer (some ⟨(gs1 0).b,0,none⟩))] kr fun ρ1=>?_;rw [hS];generalize (g 1).b=b at*;generalize (g 1).n=n1 at*;generalize (g 1).cap=c1 at*;generalize (g 1).cur=cur at*;have hq2:=hP.2.take (min m 20) (Nat.min_le_left _ _);rw [zdW hm] at hq2;have hms:(hd.ss.take 20).length=min m 20:=by rw [List.length_take,←hm];omega
 rw [←hms] at hq2;have o:=ziC hnum.1 hnum.2.1 hnum.2.2;change AtF sgF w q (hd.ss.take 20).length (qr hd).ss at hq2;generalize (hd.ss.take 20).length=ms at*;generalize qr hd=h at*;have hat: ∀ {ww:World},ww.heap[b]? =some (.cells cur 9 (0,0))→Below w.heap.size w ww→yU ww h (some ⟨b,0,none⟩) n1 q ms:=fun hh hb=>⟨ziw (S:=sS) hrw hh,hq2.call hb⟩
 clear H0 H1 H1';refine zd kr<|jR (Q:=fun e ρ ww=>e=.normal∧St w.heap.size w ww []∧Is [(1,.string S)] ρ) ?_ ?_
 ·cases hr:ya h with
  | false=>
   refine rS [.l 1,.cp (zdO h o.sm hr (some ⟨b,0,none⟩) n1 c1 q ms k) [(0,(b,Obj.cells cur 9 (0,0)))] (fun w hb hd=>hat hd.1 hb),.v,.v,.v,.v,.v] H3 kr fun gs4 w4 H4=>rS [.v,.v] H4 kr fun gs5 w5 H5=>yZ ?_;exact ⟨rfl,(H5.as (l:=[(b,Obj.cells cur 9 (0,0)),((gs1 0).b,hdO h (some ⟨b,0,none⟩) n1 c1 q ms k)]) kr).sub (List.nil_sublist _),isK⟩
  | true=>
   refine rS [.l 1,.cp (uk h o hr (some ⟨b,0,none⟩) n1 c1 q ms k) [(0,(b,Obj.cells cur 9 (0,0)))] (fun w hb hd=>hat hd.1 hb),.v,.v,.v,.v,.v] H3 kr fun gs4 w4 H4=>rS [.v,.v] H4 kr fun gs5 w5 H5=>yb ?_;have hz:=ziu h;refine zf [0,1,2,3,4,5,6,7] kr kr<|rp [.v] H5 kr fun gsr1 wr1 Hr1=>wX [1,2,3,4,5,6,7] ?_;have Hs1:St w.heap.size w wr1 [(b,Obj.cells cur 9 (0,0)),((gs1 0).b,hdO h (some ⟨b,0,none⟩) n1 c1 q ms k)]:=Hr1.as kr;refine qH Hs1 (some 29) 18 #[.string (qi h)] (zd2 (qi h) (by omega)) trivial kr kr ?_;intro v T1 wt1 hrd1 Ht1;obtain ⟨h1,p1,n1_,c1_,q1,m1,k1,Ta1,Tb1,e1,rfl,o1,ra1,rb1,rfl,rd1⟩:=hrd1.one;refine rp [.v,.v,.v] Ht1 kr fun gsu1 wu1 Hu1=>wX [5,6,7] ?_;have Hv1:St w.heap.size w wu1 ((Ta1++Tb1)++ [(b,Obj.cells cur 9 (0,0)),((gs1 0).b,hdO h (some ⟨b,0,none⟩) n1 c1 q ms k)]):=Hu1.as kr;refine zE Hv1 (some 7) 26 (hdV hd0 none 0 0 none 0 0) kr kr kr ?_;intro b1 ww1 Hw1;refine rp [.s 0,.v] Hw1 kr fun gsx1 wx1 Hx1=>wX []<|zb<|wW ?_;have Hy1:St w.heap.size w wx1 ((b1,hdO h1 p1 n1_ c1_ q1 m1 k1)::((Ta1++Tb1)++ [(b,Obj.cells cur 9 (0,0)),((gs1 0).b,hdO h (some ⟨b,0,none⟩) n1 c1 q ms k)])):=Hx1.as kr;obtain ⟨eh,ee⟩:=rd1.eq (ziM hr) o1 o;subst ee
   have G:St w.heap.size w wx1 ((b,Obj.cells cur 9 (0,0))::((gs1 0).b,hdO h (some ⟨b,0,none⟩) n1 c1 q ms k)::(b1,hdO h1 p1 n1_ c1_ q1 m1 k1)::(Ta1++Tb1)):=Hy1.perm (by
    show ([(b,Obj.cells cur 9 (0,0)),((gs1 0).b,hdO h (some ⟨b,0,none⟩) n1 c1 q ms k)]++((b1,hdO h1 p1 n1_ c1_ q1 m1 k1)::(Ta1++Tb1))).Perm ((b1,hdO h1 p1 n1_ c1_ q1 m1 k1)::((Ta1++Tb1)++ [(b,Obj.cells cur 9 (0,0)),((gs1 0).b,hdO h (some ⟨b,0,none⟩) n1 c1 q ms k)]))
    exact List.perm_append_comm (l₁:=[(b,Obj.cells cur 9 (0,0)),((gs1 0).b,hdO h (some ⟨b,0,none⟩) n1 c1 q ms k)]) (l₂:=(b1,hdO h1 p1 n1_ c1_ q1 m1 k1)::(Ta1++Tb1)))
   have hlk:=zdY h h1 o o1 (some ⟨b,0,none⟩) n1 c1 q ms k p1 n1_ c1_ q1 m1 k1 true (by simp [eh]);clear H4 H5 Hr1 Hs1 Ht1 Hu1 Hv1 Hw1 Hx1 Hy1;refine zf [0,1,2,3,4,5,6,7] kr kr<|rp [.v,.v,.v,.l 1,.l 2] G kr fun gs6 w6 G1=>wX [5,6,7] ?_;have G2:St w.heap.size w w6 ((b,Obj.cells cur 9 (0,0))::((gs1 0).b,hdO h (some ⟨b,0,none⟩) n1 c1 q ms k)::(b1,hdO h1 p1 n1_ c1_ q1 m1 k1)::(Ta1++Tb1)):=G1.as kr;refine yJ G2 (some 37) 20 #[hdV h (some ⟨b,0,none⟩) n1 c1 q ms k,hdV h1 p1 n1_ c1_ q1 m1 k1] _ _ hlk ⟨hat (G2.get 0 kr) G2.below,ra1.atF G2 fun e he=>by simp [he],rb1.atF G2 fun e he=>by simp [he]⟩ (fun w=>by kernel_rfl) kr ?_;intro w7 G3;refine rp [.v,.v] G3 kr fun gs7 w8 G4=>wX []<|zb<|wW<|yZ ?_;exact ⟨rfl,G4.sub (List.nil_sublist _),isK⟩
 ·rintro _ _ w4 ⟨rfl,J0,_,rfl⟩;clear H3 hat hq2 hrw;refine wW<|zf [0,1,2,3,4,5,6,7] kr kr<|rp [.v] J0 kr fun gsr2 wr2 Hr2=>wX [1,2,3,4,5,6,7] ?_;have Hs2:St w.heap.size w wr2 []:=Hr2.as kr;refine qH Hs2 (some 42) 18 #[.string S] (zd2 S (by omega)) trivial kr kr ?_;intro v T2 wt2 hrd2 Ht2;obtain ⟨h2,p2,n2,c2,q2,m2,k2,Ta2,Tb2,e2,rfl,o2,ra2,rb2,rfl,rd2⟩:=hrd2.one;refine rp [.v,.v,.v] Ht2 kr fun gsu2 wu2 Hu2=>wX [5,6,7] ?_;have Hv2:St w.heap.size w wu2 ((Ta2++Tb2)++ []):=Hu2.as kr;refine zE Hv2 (some 9) 26 (hdV hd0 none 0 0 none 0 0) kr kr kr ?_;intro b2 ww2 Hw2;refine rp [.s 0,.v] Hw2 kr fun gsx2 wx2 Hx2=>wX []<|zb<|wW ?_;have Hy2:St w.heap.size w wx2 ((b2,hdO h2 p2 n2 c2 q2 m2 k2)::((Ta2++Tb2)++ [])):=Hx2.as kr;have G:St w.heap.size w wx2 ((b2,hdO h2 p2 n2 c2 q2 m2 k2)::(Ta2++Tb2)):=by rw [List.append_nil] at Hy2;exact Hy2
  clear J0 Hr2 Hs2 Ht2 Hu2 Hv2 Hw2 Hx2 Hy2;have hat2: ∀ {ww:World},St w.heap.size w ww ((b2,hdO h2 p2 n2 c2 q2 m2 k2)::(Ta2++Tb2))→yU ww h2 p2 n2 q2 m2:=fun Hq=>⟨ra2.atF Hq fun e he=>by simp [he],rb2.atF Hq fun e he=>by simp [he]⟩
  rcases rd2 with ⟨rfl,hr2,hw2⟩|⟨rfl,rfl,hno⟩
  case inr=>
   have hlk:=zdY hd0 hd0 zaM zaM p2 n2 c2 q2 m2 k2 none 0 0 none 0 0 true (by simp);refine zd kr<|rS [.v,.v] G kr fun gs3 w5 G1=>yb<|zf [0,1,2,3,4,5,6] kr kr<|rp [.c zdV,.v,.l 0,.v] G1 kr fun gs4 w6 G2=>wX [4,5,6] ?_;have G3:St w.heap.size w w6 ((b2,hdO hd0 p2 n2 c2 q2 m2 k2)::(Ta2++Tb2)):=G2.as kr;refine yJ G3 (some 51) 20 #[hdV hd0 p2 n2 c2 q2 m2 k2,hdV hd0 none 0 0 none 0 0] _ _ hlk ⟨hat2 G3,⟨rfl,.inl rfl⟩,rfl,.inl rfl⟩ (fun w=>by kernel_rfl) kr ?_;intro w7 G4;refine rp [.v,.v] G4 kr fun gs5 w8 G5=>wX []<|zb<|wW ?_;exact rR [.tmp 4] [] (.bool true) G5 kr
  have hrec:qi h2=S:=congrArg Prod.fst hw2;have hB:=uk h2 o2 hr2 p2 n2 c2 q2 m2 k2;rw [hrec] at hB;have hR:=uj h2 o2.sm p2 n2 c2 q2 m2 k2;rw [hr2] at hR;refine zd kr<|rS [.v,.v] G kr fun gs3 w5 G1=>yZ<|wW<|zf [0,1,2,3,4,5,6] kr kr<|rp [.l 0] G1 kr fun gs4 w6 G2=>wX [1,2,3,4,5,6] ?_;have G3:St w.heap.size w w6 ((b2,hdO h2 p2 n2 c2 q2 m2 k2)::(Ta2++Tb2)):=G2.as kr;refine yJ G3 (some 55) 7 #[hdV h2 p2 n2 c2 q2 m2 k2] _ _ hB (hat2 G3) (fun w=>by kernel_rfl) kr ?_;intro w7 G4;refine rp [.v,.v,.v,.v,.v] G4 kr fun gs5 w8 G5=>wX []<|zb<|wW<|zf [0,1,2,3,4,5,6,7,8,9,10,11,12,13,14] kr kr<|rp [.c zdV,.v,.v,.v,.v,.v,.v,.v,.E (.bool (S.toList==S.toList)) (.bool true) (za (zbo S)),.v,.v,.l 0] G5 kr fun gs6 w9 G6=>wX [12,13,14] ?_;have G7:St w.heap.size w w9 ((b2,hdO h2 p2 n2 c2 q2 m2 k2)::(Ta2++Tb2)):=G6.as kr;refine yJ G7 (some 70) 11 #[hdV h2 p2 n2 c2 q2 m2 k2] _ _ hR (hat2 G7) (fun w=>by kernel_rfl) kr ?_;intro w10 G8;refine rp [.v,.v] G8 kr fun gs7 w11 G9=>wX []<|zb<|wW ?_;exact rR [.tmp 4] [] (.bool true) G9 kr
end Go.Proofs.YtbpmjppmpgeejaaGreatDoor
