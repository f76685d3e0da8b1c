/-
  Texts of the proof,part 6.
-/
import Derived.Test.YtcjejfklpegobaaGreatDoorProg
import Derived.Laws.StructEq
import Derived.Test.YtcjejfklpegobaaGreatDoorBZ1
import Derived.Test.YtcjejfklpegobaaGreatDoorBZ2
import Derived.Test.YtcjejfklpegobaaGreatDoorBZ3
import Derived.Test.YtcjejfklpegobaaGreatDoorBZ4
import Derived.Test.YtcjejfklpegobaaGreatDoorBZ5
set_option maxRecDepth 100000
set_option maxHeartbeats 4000000
open Go Go.RowKit
open BitVec renaming toNat->Qj,ofNat->Qw,toNat_ofNat->UM
open Bool renaming and_eq_true->Qu,eq_false_or_eq_true->Q4,not_eq_true'->Rf,eq_false_iff->RE,eq_iff_iff->RM,true_and->UJ
open DataW renaming trod->Rg
open IntKind renaming i64->Qz,u64->QA,u8->QG
open List renaming length->Qo,getElem?_eq_getElem->Qr,length_append->Qx,take_of_length_le->Qy,append_assoc->QD,nil_sublist->QE,mem_of_getElem?->QF,append_nil->QI,all_eq_true->QN,mem_cons_of_mem->QR,getElem?_eq_some_iff->QT,range->QW,mem_cons_self->QX,map_cons->Q8,length_map->Ra,length_take->Rb,mem_append_left->Rd,take->Re,length_cons->Rh,mem_map->Rk,nil_append->RS,mem_singleton->RY,cons->Uf,mem_cons->Uj,drop->UB,drop_of_length_le->UE,drop_eq_nil_of_le->U6
open List.Sublist renaming cons_cons->Qq,cons->Qs,slnil->QS
open Nat renaming eq_of_beq_eq_true->QB,le_refl->QH,beq->QL,zero_le->QU,zero_add->Q9,beq_refl->RG,add_zero->RL,succ_mul->Ur,sub_self->V7,le_of_eq->WB,add_comm->WC
open Obj renaming cells->Qk
open Op renaming equalIn->UR,bytesLess->VQ
open Option renaming some->Rr
open Or renaming inr->UP,inl->Vy
open Result renaming andThen_ok->QJ
open Sem renaming run_bind->Q7,run_pure->Up
open UInt8 renaming ofNat->QY
open Value renaming cells->Qn,string->RQ,bool->RV
open _root_.ByteArray renaming size->Ql,toList->Rs,size_extract->Uq
namespace Go.Proofs.YtcjejfklpegobaaGreatDoor
theorem kf {c m sz ln:Nat}(hc:yD c=true):zw c 0 m sz ln=if c=110 then decide (sz=0)&&decide (ln=0) else (decide (m=0)&&decide (ln=0))&&(if c=104 then decide (sz=32) else if c=97 then decide (sz=20) else if c=115 then decide (sz=65) else decide (sz<=64)):=by
 rcases xy.1 hc with rfl|rfl|rfl|rfl|rfl<;>(unfold zw qe yr yz;rw[RM];simp<;>omega)
theorem uI (a b:Nat):((a:Int)==(b:Int))=decide (a=b):=by
 rw[RM,beq_iff_eq,decide_eq_true_iff];omega
theorem zin (s:Qa):(s.toList==(⟨#[]⟩:Qa).toList)=decide (s.size=0):=by
 rw[RM,decide_eq_true_iff];by_cases h:s.size=0
 ·obtain rfl:=jN h;exact⟨fun _=>rfl,fun _=>vc _⟩
 ·rw[jG s ⟨#[]⟩ (fun e=>h (by rw[e];rfl))];exact⟨fun h2=>(nomatch h2),fun h2=>absurd h2 h⟩
theorem zpe (q:Qa)(m:Nat)(s:Qa)(p:Qc)(n c:Nat)(hz:0<q.size)(hc:by_ q 0=110):Fn Tryz.prog 150 #[.string q,fld m s p n c] (.bool (zw 110 0 m s.size n)):=by
 refine zv [.tmp 4] 99 Tryz.func150 fun w=>rS [.b,.v] (St.start w) kr fun gs1 w1 H1=>?_;have H2:St w.heap.size w w1 [((gs1 0).b,fdO m s p n c)]:=H1.as kr;refine za kr<|qS (Q:=fun e ρ ww=>e=.normal/\St w.heap.size w ww [((gs1 0).b,fdO m s p n c)]/\Is [(0,.string q),(3,Qe (gs1 0).b),(5,.bool (decide (m=0)&&decide (n=0)))] ρ) ?_ ?_
 ·by_cases hm:m=0
  ·subst hm;by_cases hn:n=0
   ·subst hn;refine rL [.v,.l 0,.v,.v,.v,.l 0,.v,.v,.v,.v] H2 kr fun gs2 w2 H3=>?_;exact⟨rfl,H3.as kr,zl⟩
   ·have e5:(decide ((0:Nat)=0)&&decide (n=0))=false:=by simp[hn]
    rw[e5];refine rL [.v,.l 0,.v,.v,.v,.l 0,.v,itD (n:Int) 0,.v,.v] H2 kr fun gs2 w2 H3=>?_;exact⟨rfl,H3.as kr,zl⟩
  ·have e5:(decide (m=0)&&decide (n=0))=false:=by simp[hm]
   rw[e5];refine rL [.v,.l 0,itD (m:Int) 0,.v,.n,.n,.n,.n,.v,.v] H2 kr fun gs2 w2 H3=>?_;exact⟨rfl,H3.as kr,zl⟩
 rintro _ _ w3 ⟨rfl,H4,_,rfl⟩;refine wW<|za kr<|rS [.v,.oe (ins:=[((.tmp 17),.string q)]) (v:=.int .u8 ((by_ q 0:Nat):Int)) (v':=.int .u8 110) (fun ρ o w ho hi2=>yy (t:=9) (kd:=.i64) kr (x:=(.tmp 17)) (y:=.const (.int .i64 0)) q 0 ho hi2.1 rfl hz w) (by rw[hc];rfl)] H4 kr fun gs3 w4 H5=>zm 0 kr<|rS [.v,.v] H5 kr fun gs5 w5 H6=>zh kr kr ?_;by_cases hs:s.size=0
 ·obtain rfl:=jN hs;refine rS [.v,.l 0,.v,.v,.v,.l 0,.v,.E (.bool ((n:Int)==0)) (.bool (decide (n=0))) (zc (uI n 0)),.v,.v] H6 kr fun gs20 w20 H20=>?_;exact rRe [.tmp 4] [] (v:=.bool (decide (n=0))) (v':=.bool (zw 110 0 m (Ql ⟨#[]⟩) n)) H20 (zc (by rw[kf (by decide)];rfl)) kr
 ·refine rS [.v,.l 0,.E (.bool (s.toList==(⟨#[]⟩:Qa).toList)) (.bool false) (zc (by rw[zin];exact decide_eq_false hs)),.v,.n,.n,.n,.n,.v,.v] H6 kr fun gs20 w20 H20=>?_;exact rRe [.tmp 4] [] (v:=.bool false) (v':=.bool (zw 110 0 m s.size n)) H20 (zc (by rw[kf (by decide)];simp[hs])) kr
theorem zpf (q:Qa)(m:Nat)(s:Qa)(p:Qc)(n c:Nat)(hz:0<q.size)(hc:by_ q 0=104):Fn Tryz.prog 150 #[.string q,fld m s p n c] (.bool (zw 104 0 m s.size n)):=by
 refine zv [.tmp 4] 99 Tryz.func150 fun w=>rS [.b,.v] (St.start w) kr fun gs1 w1 H1=>?_;have H2:St w.heap.size w w1 [((gs1 0).b,fdO m s p n c)]:=H1.as kr;refine za kr<|qS (Q:=fun e ρ ww=>e=.normal/\St w.heap.size w ww [((gs1 0).b,fdO m s p n c)]/\Is [(0,.string q),(3,Qe (gs1 0).b),(5,.bool (decide (m=0)&&decide (n=0)))] ρ) ?_ ?_
 ·by_cases hm:m=0
  ·subst hm;by_cases hn:n=0
   ·subst hn;refine rL [.v,.l 0,.v,.v,.v,.l 0,.v,.v,.v,.v] H2 kr fun gs2 w2 H3=>?_;exact⟨rfl,H3.as kr,zl⟩
   ·have e5:(decide ((0:Nat)=0)&&decide (n=0))=false:=by simp[hn]
    rw[e5];refine rL [.v,.l 0,.v,.v,.v,.l 0,.v,itD (n:Int) 0,.v,.v] H2 kr fun gs2 w2 H3=>?_;exact⟨rfl,H3.as kr,zl⟩
  ·have e5:(decide (m=0)&&decide (n=0))=false:=by simp[hm]
   rw[e5];refine rL [.v,.l 0,itD (m:Int) 0,.v,.n,.n,.n,.n,.v,.v] H2 kr fun gs2 w2 H3=>?_;exact⟨rfl,H3.as kr,zl⟩
 rintro _ _ w3 ⟨rfl,H4,_,rfl⟩;refine wW<|za kr<|rS [.v,.oe (ins:=[((.tmp 17),.string q)]) (v:=.int .u8 ((by_ q 0:Nat):Int)) (v':=.int .u8 104) (fun ρ o w ho hi2=>yy (t:=9) (kd:=.i64) kr (x:=(.tmp 17)) (y:=.const (.int .i64 0)) q 0 ho hi2.1 rfl hz w) (by rw[hc];rfl)] H4 kr fun gs3 w4 H5=>zm 0 kr<|rS [.v,.v] H5 kr fun gs5 w5 H6=>zi kr kr<|rS [.v,.v] H6 kr fun gs6 w6 H7=>zh kr kr ?_;obtain⟨pl,hpl⟩:∃pl,(decide (m=0)&&decide (n=0))=pl:=⟨_,rfl⟩
 refine yv 5 (v:=.bool (decide (m=0)&&decide (n=0))) (v':=.bool pl) (by rw[hpl]) kr ?_;cases pl with
 | true=>
  refine rS [.v,.v,.v,.l 0,.v,.E (.bool ((s.size:Int)==32)) (.bool (decide (s.size=32))) (zc (uI s.size 32)),.v,.v] H7 kr fun gs20 w20 H20=>?_;exact rRe [.tmp 4] [] (v:=.bool (decide (s.size=32))) (v':=.bool (zw 104 0 m s.size n)) H20 (zc (by rw[kf (by decide),hpl];simp)) kr
 | false=>
  refine rS [.v,.v,.n,.n,.n,.n,.v,.v] H7 kr fun gs20 w20 H20=>?_;exact rRe [.tmp 4] [] (v:=.bool false) (v':=.bool (zw 104 0 m s.size n)) H20 (zc (by rw[kf (by decide),hpl];rfl)) kr
theorem zpg (q:Qa)(m:Nat)(s:Qa)(p:Qc)(n c:Nat)(hz:0<q.size)(hc:by_ q 0=97):Fn Tryz.prog 150 #[.string q,fld m s p n c] (.bool (zw 97 0 m s.size n)):=by
 refine zv [.tmp 4] 99 Tryz.func150 fun w=>rS [.b,.v] (St.start w) kr fun gs1 w1 H1=>?_;have H2:St w.heap.size w w1 [((gs1 0).b,fdO m s p n c)]:=H1.as kr;refine za kr<|qS (Q:=fun e ρ ww=>e=.normal/\St w.heap.size w ww [((gs1 0).b,fdO m s p n c)]/\Is [(0,.string q),(3,Qe (gs1 0).b),(5,.bool (decide (m=0)&&decide (n=0)))] ρ) ?_ ?_
 ·by_cases hm:m=0
  ·subst hm;by_cases hn:n=0
   ·subst hn;refine rL [.v,.l 0,.v,.v,.v,.l 0,.v,.v,.v,.v] H2 kr fun gs2 w2 H3=>?_;exact⟨rfl,H3.as kr,zl⟩
   ·have e5:(decide ((0:Nat)=0)&&decide (n=0))=false:=by simp[hn]
    rw[e5];refine rL [.v,.l 0,.v,.v,.v,.l 0,.v,itD (n:Int) 0,.v,.v] H2 kr fun gs2 w2 H3=>?_;exact⟨rfl,H3.as kr,zl⟩
  ·have e5:(decide (m=0)&&decide (n=0))=false:=by simp[hm]
   rw[e5];refine rL [.v,.l 0,itD (m:Int) 0,.v,.n,.n,.n,.n,.v,.v] H2 kr fun gs2 w2 H3=>?_;exact⟨rfl,H3.as kr,zl⟩
 rintro _ _ w3 ⟨rfl,H4,_,rfl⟩;refine wW<|za kr<|rS [.v,.oe (ins:=[((.tmp 17),.string q)]) (v:=.int .u8 ((by_ q 0:Nat):Int)) (v':=.int .u8 97) (fun ρ o w ho hi2=>yy (t:=9) (kd:=.i64) kr (x:=(.tmp 17)) (y:=.const (.int .i64 0)) q 0 ho hi2.1 rfl hz w) (by rw[hc];rfl)] H4 kr fun gs3 w4 H5=>zm 0 kr<|rS [.v,.v] H5 kr fun gs5 w5 H6=>zi kr kr<|rS [.v,.v] H6 kr fun gs6 w6 H7=>zi kr kr<|rS [.v,.v] H7 kr fun gs7 w7 H8=>zh kr kr ?_;obtain⟨pl,hpl⟩:∃pl,(decide (m=0)&&decide (n=0))=pl:=⟨_,rfl⟩
 refine yv 5 (v:=.bool (decide (m=0)&&decide (n=0))) (v':=.bool pl) (by rw[hpl]) kr ?_;cases pl with
 | true=>
  refine rS [.v,.v,.v,.l 0,.v,.E (.bool ((s.size:Int)==20)) (.bool (decide (s.size=20))) (zc (uI s.size 20)),.v,.v] H8 kr fun gs20 w20 H20=>?_;exact rRe [.tmp 4] [] (v:=.bool (decide (s.size=20))) (v':=.bool (zw 97 0 m s.size n)) H20 (zc (by rw[kf (by decide),hpl];simp)) kr
 | false=>
  refine rS [.v,.v,.n,.n,.n,.n,.v,.v] H8 kr fun gs20 w20 H20=>?_;exact rRe [.tmp 4] [] (v:=.bool false) (v':=.bool (zw 97 0 m s.size n)) H20 (zc (by rw[kf (by decide),hpl];rfl)) kr
theorem zph (q:Qa)(m:Nat)(s:Qa)(p:Qc)(n c:Nat)(hz:0<q.size)(hc:by_ q 0=115):Fn Tryz.prog 150 #[.string q,fld m s p n c] (.bool (zw 115 0 m s.size n)):=by
 refine zv [.tmp 4] 99 Tryz.func150 fun w=>rS [.b,.v] (St.start w) kr fun gs1 w1 H1=>?_;have H2:St w.heap.size w w1 [((gs1 0).b,fdO m s p n c)]:=H1.as kr;refine za kr<|qS (Q:=fun e ρ ww=>e=.normal/\St w.heap.size w ww [((gs1 0).b,fdO m s p n c)]/\Is [(0,.string q),(3,Qe (gs1 0).b),(5,.bool (decide (m=0)&&decide (n=0)))] ρ) ?_ ?_
 ·by_cases hm:m=0
  ·subst hm;by_cases hn:n=0
   ·subst hn;refine rL [.v,.l 0,.v,.v,.v,.l 0,.v,.v,.v,.v] H2 kr fun gs2 w2 H3=>?_;exact⟨rfl,H3.as kr,zl⟩
   ·have e5:(decide ((0:Nat)=0)&&decide (n=0))=false:=by simp[hn]
    rw[e5];refine rL [.v,.l 0,.v,.v,.v,.l 0,.v,itD (n:Int) 0,.v,.v] H2 kr fun gs2 w2 H3=>?_;exact⟨rfl,H3.as kr,zl⟩
  ·have e5:(decide (m=0)&&decide (n=0))=false:=by simp[hm]
   rw[e5];refine rL [.v,.l 0,itD (m:Int) 0,.v,.n,.n,.n,.n,.v,.v] H2 kr fun gs2 w2 H3=>?_;exact⟨rfl,H3.as kr,zl⟩
 rintro _ _ w3 ⟨rfl,H4,_,rfl⟩;refine wW<|za kr<|rS [.v,.oe (ins:=[((.tmp 17),.string q)]) (v:=.int .u8 ((by_ q 0:Nat):Int)) (v':=.int .u8 115) (fun ρ o w ho hi2=>yy (t:=9) (kd:=.i64) kr (x:=(.tmp 17)) (y:=.const (.int .i64 0)) q 0 ho hi2.1 rfl hz w) (by rw[hc];rfl)] H4 kr fun gs3 w4 H5=>zm 0 kr<|rS [.v,.v] H5 kr fun gs5 w5 H6=>zi kr kr<|rS [.v,.v] H6 kr fun gs6 w6 H7=>zi kr kr<|rS [.v,.v] H7 kr fun gs7 w7 H8=>zi kr kr<|rS [.v,.v] H8 kr fun gs8 w8 H9=>zh kr kr ?_;obtain⟨pl,hpl⟩:∃pl,(decide (m=0)&&decide (n=0))=pl:=⟨_,rfl⟩
 refine yv 5 (v:=.bool (decide (m=0)&&decide (n=0))) (v':=.bool pl) (by rw[hpl]) kr ?_;cases pl with
 | true=>
  refine rS [.v,.v,.v,.l 0,.v,.E (.bool ((s.size:Int)==65)) (.bool (decide (s.size=65))) (zc (uI s.size 65)),.v,.v] H9 kr fun gs20 w20 H20=>?_;exact rRe [.tmp 4] [] (v:=.bool (decide (s.size=65))) (v':=.bool (zw 115 0 m s.size n)) H20 (zc (by rw[kf (by decide),hpl];simp)) kr
 | false=>
  refine rS [.v,.v,.n,.n,.n,.n,.v,.v] H9 kr fun gs20 w20 H20=>?_;exact rRe [.tmp 4] [] (v:=.bool false) (v':=.bool (zw 115 0 m s.size n)) H20 (zc (by rw[kf (by decide),hpl];rfl)) kr
theorem zpi (q:Qa)(m:Nat)(s:Qa)(p:Qc)(n c:Nat)(hz:0<q.size)(hc:by_ q 0=98):Fn Tryz.prog 150 #[.string q,fld m s p n c] (.bool (zw 98 0 m s.size n)):=by
 refine zv [.tmp 4] 99 Tryz.func150 fun w=>rS [.b,.v] (St.start w) kr fun gs1 w1 H1=>?_;have H2:St w.heap.size w w1 [((gs1 0).b,fdO m s p n c)]:=H1.as kr;refine za kr<|qS (Q:=fun e ρ ww=>e=.normal/\St w.heap.size w ww [((gs1 0).b,fdO m s p n c)]/\Is [(0,.string q),(3,Qe (gs1 0).b),(5,.bool (decide (m=0)&&decide (n=0)))] ρ) ?_ ?_
 ·by_cases hm:m=0
  ·subst hm;by_cases hn:n=0
   ·subst hn;refine rL [.v,.l 0,.v,.v,.v,.l 0,.v,.v,.v,.v] H2 kr fun gs2 w2 H3=>?_;exact⟨rfl,H3.as kr,zl⟩
   ·have e5:(decide ((0:Nat)=0)&&decide (n=0))=false:=by simp[hn]
    rw[e5];refine rL [.v,.l 0,.v,.v,.v,.l 0,.v,itD (n:Int) 0,.v,.v] H2 kr fun gs2 w2 H3=>?_;exact⟨rfl,H3.as kr,zl⟩
  ·have e5:(decide (m=0)&&decide (n=0))=false:=by simp[hm]
   rw[e5];refine rL [.v,.l 0,itD (m:Int) 0,.v,.n,.n,.n,.n,.v,.v] H2 kr fun gs2 w2 H3=>?_;exact⟨rfl,H3.as kr,zl⟩
 rintro _ _ w3 ⟨rfl,H4,_,rfl⟩;refine wW<|za kr<|rS [.v,.oe (ins:=[((.tmp 17),.string q)]) (v:=.int .u8 ((by_ q 0:Nat):Int)) (v':=.int .u8 98) (fun ρ o w ho hi2=>yy (t:=9) (kd:=.i64) kr (x:=(.tmp 17)) (y:=.const (.int .i64 0)) q 0 ho hi2.1 rfl hz w) (by rw[hc];rfl)] H4 kr fun gs3 w4 H5=>zm 0 kr<|rS [.v,.v] H5 kr fun gs5 w5 H6=>zi kr kr<|rS [.v,.v] H6 kr fun gs6 w6 H7=>zi kr kr<|rS [.v,.v] H7 kr fun gs7 w7 H8=>zi kr kr<|rS [.v,.v] H8 kr fun gs8 w8 H9=>zi kr kr<|rS [.v,.v] H9 kr fun gs9 w9 H10=>zh kr kr ?_;obtain⟨pl,hpl⟩:∃pl,(decide (m=0)&&decide (n=0))=pl:=⟨_,rfl⟩
 refine yv 5 (v:=.bool (decide (m=0)&&decide (n=0))) (v':=.bool pl) (by rw[hpl]) kr ?_;cases pl with
 | true=>
  refine rS [.v,.v,.v,.l 0,.v,.E (.bool (decide ((s.size:Int)<=64))) (.bool (decide (s.size<=64))) (zc (by rw[decide_eq_decide];omega)),.v,.v] H10 kr fun gs20 w20 H20=>?_;exact rRe [.tmp 4] [] (v:=.bool (decide (s.size<=64))) (v':=.bool (zw 98 0 m s.size n)) H20 (zc (by rw[kf (by decide),hpl];simp)) kr
 | false=>
  refine rS [.v,.v,.n,.n,.n,.n,.v,.v] H10 kr fun gs20 w20 H20=>?_;exact rRe [.tmp 4] [] (v:=.bool false) (v':=.bool (zw 98 0 m s.size n)) H20 (zc (by rw[kf (by decide),hpl];rfl)) kr
theorem zio (q:Qa)(m:Nat)(s:Qa)(p:Qc)(n c:Nat)(hz:0<q.size)(hc:yD (by_ q 0)=true):Fn Tryz.prog 150 #[.string q,fld m s p n c] (.bool (zw (by_ q 0) 0 m s.size n)):=by
 rcases xy.1 hc with h|h|h|h|h
 ·rw[h];exact zpe q m s p n c hz h
 ·rw[h];exact zpf q m s p n c hz h
 ·rw[h];exact zpg q m s p n c hz h
 ·rw[h];exact zph q m s p n c hz h
 ·rw[h];exact zpi q m s p n c hz h
theorem zpj (q:Qa)(m:Nat)(s:Qa)(p:Qc)(n c:Nat)(l:Fe)(hq:q.size=2)(hc:by_ q 0=42)(hl:yD (by_ q 1)=true):FnP Tryz.prog 150 #[.string q,fld m s p n c] (fun w=>SlR fS w.heap.size w p n l) (.bool (zw 42 1 m s.size n&&qu (by_ q 1) l)):=by
 have hz:0<q.size:=by omega
 have hq1:(q.extract 1 q.size).size=1:=by rw[Uq];omega
 have hq2:by_ (q.extract 1 q.size) 0=by_ q 1:=by
  unfold by_;rw[yT,Qy (by rw[zu];omega)];simp[List.getD_eq_getElem?_getD]
 have hfs:zw 42 1 m s.size n=((decide (m=0)&&decide (s.size=0))&&decide (n<=40)):=by
  unfold zw qe yr yz;rw[RM];simp[and_assoc]
 rw[hfs];refine zR [.tmp 4] 99 Tryz.func150 fun w hF=>rS [.b,.v] (St.start w) kr fun gs1 w1 H1=>?_;have H2:St w.heap.size w w1 [((gs1 0).b,fdO m s p n c)]:=H1.as kr;refine za kr<|qS (Q:=fun e ρ ww=>e=.normal/\St w.heap.size w ww [((gs1 0).b,fdO m s p n c)]/\Is [(0,.string q),(3,Qe (gs1 0).b),(5,.bool (decide (m=0)&&decide (n=0)))] ρ) ?_ ?_
 ·by_cases hm:m=0
  ·subst hm;by_cases hn:n=0
   ·subst hn;refine rL [.v,.l 0,.v,.v,.v,.l 0,.v,.v,.v,.v] H2 kr fun gs2 w2 H3=>?_;exact⟨rfl,H3.as kr,zl⟩
   ·have e5:(decide ((0:Nat)=0)&&decide (n=0))=false:=by simp[hn]
    rw[e5];refine rL [.v,.l 0,.v,.v,.v,.l 0,.v,itD (n:Int) 0,.v,.v] H2 kr fun gs2 w2 H3=>?_;exact⟨rfl,H3.as kr,zl⟩
  ·have e5:(decide (m=0)&&decide (n=0))=false:=by simp[hm]
   rw[e5];refine rL [.v,.l 0,itD (m:Int) 0,.v,.n,.n,.n,.n,.v,.v] H2 kr fun gs2 w2 H3=>?_;exact⟨rfl,H3.as kr,zl⟩
 rintro _ _ w3 ⟨rfl,H4,_,rfl⟩;refine wW<|za kr<|rS [.v,.oe (ins:=[((.tmp 17),.string q)]) (v:=.int .u8 ((by_ q 0:Nat):Int)) (v':=.int .u8 42) (fun ρ o w ho hi2=>yy (t:=9) (kd:=.i64) kr (x:=(.tmp 17)) (y:=.const (.int .i64 0)) q 0 ho hi2.1 rfl hz w) (by rw[hc];rfl)] H4 kr fun gs3 w4 H5=>zm 0 kr<|rS [.v,.v] H5 kr fun gs5 w5 H6=>zi kr kr<|rS [.v,.v] H6 kr fun gs6 w6 H7=>zi kr kr<|rS [.v,.v] H7 kr fun gs7 w7 H8=>zi kr kr<|rS [.v,.v] H8 kr fun gs8 w8 H9=>zi kr kr<|rS [.v,.v] H9 kr fun gs9 w9 H10=>zi kr kr<|zj kr<|wW<|za kr ?_;have hn:=hF.1;have hnm:n<=0x800000000000:=hF.2.1;by_cases hm:m=0
 ·subst hm;by_cases hs:s.size=0
  ·obtain rfl:=jN hs;refine rS [.v,.l 0,.v,.v,.v,.l 0,.v,.v] H10 kr fun gs11 w11 H11=>zi kr kr<|zj kr<|wW<|za kr<|rS [.v,.oe (ins:=[((.tmp 74),.string q)]) (v:=.int .u8 ((by_ q 0:Nat):Int)) (v':=.int .u8 42) (fun ρ o w ho hi2=>yy (t:=9) (kd:=.i64) kr (x:=(.tmp 74)) (y:=.const (.int .i64 0)) q 0 ho hi2.1 rfl hz w) (by rw[hc];rfl),.v] H11 kr fun gs12 w12 H12=>zi kr kr<|zj kr<|wW<|za kr<|rS [.v,.l 0,.v,.v] H12 kr fun gs13 w13 H13=>zm 1 kr ?_;have H14:St w.heap.size w w13 [((gs1 0).b,fdO 0 ⟨#[]⟩ p n c)]:=H13.as kr;refine zO kr (fun mz ρ ww=> ∃(i:Nat) (r:Fe),n-i=mz/\FrR fS w.heap.size w p i r/\i+r.len=n/\qu (by_ q 1) l=qu (by_ q 1) r/\St w.heap.size w ww [((gs1 0).b,fdO 0 ⟨#[]⟩ p n c)]/\Is [(0,.string q),(3,Qe (gs1 0).b),(83,.slice p n c),(84,iN n),(85,iN i)] ρ) (n-0) ⟨0,l,rfl,hF.start,by omega,rfl,H14,zl⟩ ?_;clear H4 H5 H6 H7 H8 H9 H10 H11 H12 H13 H14;rintro _ _ w14 ⟨i,r,rfl,hR,hN,hst,H15,_,rfl⟩;by_cases hi:i<n
   ·refine rS [itT ((i:Int)<(n:Int))] H15 kr fun gs16 w16 H16=>za kr<|zh kr kr<|zj kr<|wW<|za kr<|zm 2 kr ?_;obtain⟨⟨m1,s1⟩,k1,r1,b1,off1,C1,T1,fz1,p1,n1,c1,rfl,hp1,hb1,hh1,hs1,hx1,hz1,hk1,hR1,hN1⟩:=FrR.open hR hN hi;refine rS [itX 83 85 85 89 3 48 b1 off1 n c i hp1,.fp (off:=off1+i*3) (n:=3) (W:=#[.int .u64 (m1:Int),.string s1,.slice p1 n1 c1]) hh1 hb1 hs1 hx1,.a,.s 1] H16 kr fun gs17 w17 H17=>?_;have hcall:=zio (q.extract 1 q.size) m1 s1 p1 n1 c1 (by omega) (by rw[hq2];exact hl);rw[hq2]at hcall;have hk1n:n1=k1.len:=hk1.1;cases hf:zw (by_ q 1) 0 m1 s1.size n1 with
    | true=>
     rw[hf]at hcall;refine dS [.v,.o (ins:=[((.tmp 89),.string q)]) (v:=.string (q.extract 1 q.size)) (fun ρ o w ho hi2=>uq (t:=9) (kz:=.i64) kr (x:=(.tmp 89)) (z:=.const (.int .i64 1)) q 1 ho hi2.1 rfl (by omega) w),.l 1,.c hcall,.v] H17 kr fun w18 H18=>zi kr kr<|zj kr<|wW<|rL [itI i 1,.v] H18 kr fun gs19 w19 H19=>?_;have H20:St w.heap.size w w19 [((gs1 0).b,fdO 0 ⟨#[]⟩ p n c)]:=(show St w.heap.size w w19 [((gs1 0).b,fdO 0 ⟨#[]⟩ p n c),((gs17 2).b,fdO m1 s1 p1 n1 c1)] from H19).sub (Qq _ (QE _));show ∃m,_/\_;refine⟨_,(by omega),i+1,r1,rfl,hR1,hN1,?_,H20,zl⟩;rw[hst];simp only[qu];rw[<-hk1n,hf,UJ]
    | false=>
     rw[hf]at hcall;refine dS [.v,.o (ins:=[((.tmp 89),.string q)]) (v:=.string (q.extract 1 q.size)) (fun ρ o w ho hi2=>uq (t:=9) (kz:=.i64) kr (x:=(.tmp 89)) (z:=.const (.int .i64 1)) q 1 ho hi2.1 rfl (by omega) w),.l 1,.c hcall,.v] H17 kr fun w18 H18=>zh kr kr<|rS [.v] H18 kr fun gs19 w19 H19=>?_;exact rRe [.tmp 4] [] (v:=.bool false) (v':=.bool (((decide ((0:Nat)=0)&&decide (Ql ⟨#[]⟩=0))&&decide (n<=40))&&qu (by_ q 1) l)) H19 (zc (by rw[hst];simp only[qu];rw[<-hk1n,hf];simp)) kr
   ·refine rS [itF ((i:Int)<(n:Int))] H15 kr fun gs16 w16 H16=>za kr<|zi kr kr<|zE 1 kr<|wW ?_;obtain rfl:=FrR.done hN hi;refine rS [.v,.l 0,.v,.E (.bool (decide ((n:Int)<=40))) (.bool (decide (n<=40))) (zc (by rw[decide_eq_decide];omega)),.v] H16 kr fun gs17 w17 H17=>?_;exact rRe [.tmp 4] [] (v:=.bool (decide (n<=40))) (v':=.bool (((decide ((0:Nat)=0)&&decide (Ql ⟨#[]⟩=0))&&decide (n<=40))&&qu (by_ q 1) l)) H17 (zc (by rw[hst];show decide (n<=40)=((true&&decide (n<=40))&&true);simp)) kr
  ·refine rS [.v,.l 0,.v,.v,.v,.l 0,.E (.bool (!(s.toList==(⟨#[]⟩:Qa).toList))) (.bool true) (zc (by rw[zin,decide_eq_false hs];rfl)),.v] H10 kr fun gs11 w11 H11=>zh kr kr<|rS [.v] H11 kr fun gs12 w12 H12=>?_;exact rRe [.tmp 4] [] (v:=.bool false) (v':=.bool (((decide ((0:Nat)=0)&&decide (s.size=0))&&decide (n<=40))&&qu (by_ q 1) l)) H12 (zc (by simp[hs])) kr
 ·refine rS [.v,.l 0,.E (.bool (!((m:Int)==0))) (.bool true) (zc (by rw[beq_eq_false_iff_ne.2 (show (m:Int)≠0 by omega)];rfl)),.v,.n,.n,.n,.v] H10 kr fun gs11 w11 H11=>zh kr kr<|rS [.v] H11 kr fun gs12 w12 H12=>?_;exact rRe [.tmp 4] [] (v:=.bool false) (v':=.bool (((decide (m=0)&&decide (s.size=0))&&decide (n<=40))&&qu (by_ q 1) l)) H12 (zc (by simp[hm])) kr
theorem zpk (q:Qa)(m:Nat)(s:Qa)(p:Qc)(n c:Nat)(l:Fe)(hk:kdOk q=true):FnP Tryz.prog 150 #[.string q,fld m s p n c] (fun w=>SlR fS w.heap.size w p n l) (.bool (qv q (m,s) l)):=fun w hF=>by
 have hn:=hF.1;rcases zbZ.1 hk with⟨h1,h2⟩ | ⟨h1,h2,h3⟩
 ·have hne: ¬by_ q 0=42:=by rw[xy]at h2;omega
  have eb:kdB q=.nil:=by unfold kdB;rw[if_neg hne]
  have e:qv q (m,s) l=zw (by_ q 0) 0 m s.size n:=by
   unfold qv;rw[eb,beq_eq_false_iff_ne.2 hne,hn];simp[Fr.len]
  rw[e];exact zio q m s p n c (by omega) h2 w
 ·have eb:kdB q=.cons (by_ q 1) .nil .nil:=by unfold kdB;rw[if_pos h2]
  have e:qv q (m,s) l=(zw 42 1 m s.size n&&qu (by_ q 1) l):=by
   unfold qv;rw[eb,h2,hn];simp[Fr.len]
  rw[e];exact zpj q m s p n c l h1 h2 h3 w hF
theorem zpl (ks:Qi)(hk: ∀q∈ks,kdOk q=true)(kp:Qc)(kn kc:Nat)(p:Qc)(n c:Nat)(l:Fe)(hkn:kn<=1000):FnP Tryz.prog 129 #[.slice kp kn kc,.slice p n c] (fun w=>AtF sS w kp kn ks/\SlR fS w.heap.size w p n l) (.bool (yo ks l)):=by
 refine zR [.tmp 4] 27 Tryz.func129 fun w hP=>?_;obtain⟨⟨hA,hA2⟩,hF⟩:=hP;have hn:=hF.1;have hnm:n<=0x800000000000:=hF.2.1;have H0:=St.start w;refine rS [.v] H0 kr fun gs1 w1 H1=>za kr ?_;by_cases hl:kn=n
 ·refine rS [.v,.v,.v,.v,.E (.bool (!((kn:Int)==(n:Int)))) (.bool false) (zc (by rw[uI,decide_eq_true hl];rfl))] H1 kr fun gs2 w2 H2=>zi kr kr<|zj kr<|wW<|za kr<|rS [.v,.v,.v] H2 kr fun gs3 w3 H3=>zm 0 kr ?_;have H4:St w.heap.size w w3 []:=H3.as kr;refine zO kr (fun mz ρ ww=> ∃(i:Nat) (r:Fe),n-i=mz/\FrR fS w.heap.size w p i r/\i+r.len=n/\yo ks l=yo (ks.drop i) r/\St w.heap.size w ww []/\Is [(0,.slice kp kn kc),(1,.slice p n c),(12,iN n),(13,iN i)] ρ) (n-0) ⟨0,l,rfl,hF.start,by omega,rfl,H4,zl⟩ ?_;clear H0 H1 H2 H3 H4;rintro _ _ w4 ⟨i,r,rfl,hR,hN,hst,H5,_,rfl⟩;by_cases hi:i<n
  ·have hiA:i<ks.length:=by omega
   rcases hA2 with rfl|⟨ba,oa,CA,TA,fa,rfl,hha,hRa⟩
   ·exact absurd hiA (Nat.not_lt_zero _)
   have ca:CA[oa+i*1]? =some (.string ks[i]):=hRa.cell (Qr hiA) 0 (by decide);refine rS [itT ((i:Int)<(n:Int))] H5 kr fun gs4 w5 H6=>za kr<|zh kr kr<|zj kr<|wW<|za kr<|zm 1 kr<|rS [.v,.v] H6 kr fun gs5 w6 H7=>?_;obtain⟨⟨m1,s1⟩,k1,r1,b1,off1,C1,T1,fz1,p1,n1,c1,rfl,hp1,hb1,hh1,hs1,hx1,hz1,hk1,hR1,hN1⟩:=FrR.open hR hN hi;have hcall:=zpk ks[i] m1 s1 p1 n1 c1 k1 (hk _ (List.getElem_mem hiA));have hal:yo (ks.drop i) (.cons (m1,s1) k1 r1)=(qv ks[i] (m1,s1) k1&&yo (ks.drop (i+1)) r1):=by
    rw[List.drop_eq_getElem_cons hiA];rfl
   cases hf:qv ks[i] (m1,s1) k1 with
   | true=>
    rw[hf]at hcall hal;refine dS [.v,.v,itX 16 17 23 9 1 16 ba oa kn kc i rfl,.fs (off:=oa+i*1) (v:=.string ks[i]) hha (zo hha) ca,.v,.v,itX 20 21 85 89 3 48 b1 off1 n c i hp1,.fp (off:=off1+i*3) (n:=3) (W:=#[.int .u64 (m1:Int),.string s1,.slice p1 n1 c1]) hh1 hb1 hs1 hx1,.cp (pre:=fun w=>SlR fS w.heap.size w p1 n1 k1) hcall [] (fun w hb hd=>hk1.call hb),.v] H7 kr fun w7 H8=>zi kr kr<|zj kr<|wW<|rL [itI i 1,.v] H8 kr fun gs7 w8 H9=>?_;show ∃m,_/\_;exact⟨_,(by omega),i+1,r1,rfl,hR1,hN1,by rw[hst,hal,UJ],H9.as kr,zl⟩
   | false=>
    rw[hf]at hcall hal;refine dS [.v,.v,itX 16 17 23 9 1 16 ba oa kn kc i rfl,.fs (off:=oa+i*1) (v:=.string ks[i]) hha (zo hha) ca,.v,.v,itX 20 21 85 89 3 48 b1 off1 n c i hp1,.fp (off:=off1+i*3) (n:=3) (W:=#[.int .u64 (m1:Int),.string s1,.slice p1 n1 c1]) hh1 hb1 hs1 hx1,.cp (pre:=fun w=>SlR fS w.heap.size w p1 n1 k1) hcall [] (fun w hb hd=>hk1.call hb),.v] H7 kr fun w7 H8=>zh kr kr<|rS [.v] H8 kr fun gs7 w8 H9=>?_;exact rRe [.tmp 4] [] (v:=.bool false) (v':=.bool (yo ks l)) H9 (zc (by rw[hst,hal];rfl)) kr
  ·obtain rfl:=FrR.done hN hi;refine rS [itF ((i:Int)<(n:Int))] H5 kr fun gs4 w5 H6=>za kr<|zi kr kr<|zE 0 kr<|wW<|rS [.v] H6 kr fun gs5 w6 H7=>?_;have e0:ks.drop i=[]:=U6 (by simp only[Fr.len]at hN;omega);exact rRe [.tmp 4] [] (v:=.bool true) (v':=.bool (yo ks l)) H7 (zc (by rw[hst,e0];rfl)) kr
 ·refine rS [.v,.v,.v,.v,.E (.bool (!((kn:Int)==(n:Int)))) (.bool true) (zc (by rw[uI,decide_eq_false hl];rfl))] H1 kr fun gs2 w2 H2=>zh kr kr<|rS [.v] H2 kr fun gs3 w3 H3=>?_;have hno:yo ks l=false:=RE.2 fun h=>hl (by rw[hA,hn,zaK h]);exact rRe [.tmp 4] [] (v:=.bool false) (v':=.bool (yo ks l)) H3 (zc hno.symm) kr
def uJ (B:Nat)(w:World)(A:List (El (Nat×Qa))):Prop:= ∀x∈A,SlR fS B w x.p x.n x.k
theorem uJ.snoc {B:Nat}{w:World}{A:List (El (Nat×Qa))}{x:El (Nat×Qa)}(h:uJ B w A)(hx:SlR fS B w x.p x.n x.k):uJ B w (A++ [x]):=fun y hy=>by
 rcases List.mem_append.1 hy with q|q
 ·exact h y q
 ·obtain rfl:=RY.1 q;exact hx
abbrev Fel:=El (Nat×Qa)
def qP:List Fel->Nat
 | []=>0
 | x::r=>x.k.cnt+qP r
theorem zem: ∀L M,qP (L++M)=qP L+qP M
 | [],M=>by simp[qP]
 | x::r,M=>by simp only[List.cons_append,qP,zem r M];omega
theorem zip: ∀(L:List Fel) (i:Nat) (x:Fel),L[i]? =some x->qP (L.drop i)=x.k.cnt+qP (L.drop (i+1))
 | [],_,_,h=>by simp at h
 | y::r,0,x,h=>by simp at h;subst h;simp[qP]
 | y::r,i+1,x,h=>by
  have:=zip r i x (by simpa using h)
  simpa using this
theorem Cnt.begin (t:Nat):Cnt t 1000 0 (qP []+t):=⟨by omega,fun _=>by simp[qP],fun h=>absurd h (by omega)⟩
theorem Cnt.pushE {t N:Nat}{A:List Fel}{r k1 r1:Fe}{m1:Nat×Qa}{p1:Qc}{n1 c1:Nat}(h:Cnt t 1000 N (qP A+r.cnt))(hr:r=.cons m1 k1 r1)(hn:N<=1000):Cnt t 1000 (N+1) (qP (A++ [(⟨m1,p1,n1,c1,k1⟩:Fel)])+r1.cnt):=by
 subst hr;refine Cnt.push (kc:=k1.cnt) (rc:=r1.cnt) h hn ?_;rw[zem];rfl
theorem Cnt.pushD {t N q:Nat}{A:List Fel}{r k1 r1:Fe}{m1:Nat×Qa}{p1:Qc}{n1 c1:Nat}(h:Cnt t 1000 N (qP (A.drop q)+r.cnt))(hr:r=.cons m1 k1 r1)(hn:N<=1000)(hq:q<=A.length):Cnt t 1000 (N+1) (qP ((A++ [(⟨m1,p1,n1,c1,k1⟩:Fel)]).drop q)+r1.cnt):=by
 subst hr;refine Cnt.push (kc:=k1.cnt) (rc:=r1.cnt) h hn ?_;rw[List.drop_append_of_le_length hq,zem];rfl
theorem ziq (p:Qc)(n c:Nat)(l:Fe):FnP Tryz.prog 128 #[.slice p n c,.int .i64 1000] (fun w=>SlR fS w.heap.size w p n l) (iN (jb l.cnt 1000)):=by
 refine zR [.tmp 4] 60 Tryz.func128 fun w hF=>?_;have H0:=St.start w;have hn:=hF.1;have hnm:n<=0x800000000000:=hF.2.1;refine rS [.v] H0 kr fun gs1 w1 H1=>rS [.nw (fun b=>Qf b 0 0) #[] 89,.v] H1 kr fun gs2 w2 H2=>za kr<|za kr<|rL [.v,.v,.v] H2 kr fun gs3 w3 H3=>wW<|zm 0 kr ?_;have H4:St w.heap.size w w3 [((gs2 0).b,frO #[])]:=H3.as kr;clear H0 H1 H2 H3;refine zO kr (fun mz ρ ww=> ∃(i:Nat) (r:Fe) (A:List (El (Nat×Qa))) (N bo cap:Nat) (cur:Qd),n-i=mz/\N=A.length/\FrR fS w.heap.size w p i r/\i+r.len=n/\uJ w.heap.size w A/\N<=1001/\Cnt l.cnt 1000 N (qP A+r.cnt)/\Rw 3 cur cap N (zU fS A)/\St w.heap.size w ww [(bo,frO cur)]/\Is [(1,.int .i64 1000),(5,Qf bo N cap),(12,.slice p n c),(13,.int .i64 (n:Int)),(14,.int .i64 (i:Int))] ρ) (n-0) ⟨0,l,[],0,(gs2 0).b,0,#[],rfl,rfl,hF.start,by omega,(fun _ h=>nomatch h),by omega,Cnt.begin _,⟨rfl,QH _,by unfold maxLen;omega,rfl,rfl⟩,H4,zl⟩ ?_;clear H4;rintro _ _ w4 ⟨i,r,A,N,bo,cap,cur,rfl,hNA,hR,hN,hA,hN5,hC,hRw,H5,_,rfl⟩;by_cases hi:i<n
 ·refine rS [itT ((i:Int)<(n:Int))] H5 kr fun gs4 w5 H6=>za kr<|zh kr kr<|zj kr<|wW<|za kr<|zm 1 kr ?_;obtain⟨⟨m1,s1⟩,k1,r1,b1,off1,C1,T1,fz1,p1,n1,c1,hr1,hp1,hb1,hh1,hs1,hx1,hz1,hk1,hR1,hN1⟩:=FrR.open hR hN hi;refine rS [itX 12 14 85 89 3 48 b1 off1 n c i hp1,.fp (off:=off1+i*3) (n:=3) (W:=#[.int .u64 (m1:Int),.string s1,.slice p1 n1 c1]) hh1 hb1 hs1 hx1,.a,.s 1] H6 kr fun gs5 w6 H7=>?_;by_cases h1000:N<=1000
  ·refine rS [.v,.v,.v,itT ((N:Int)<=1000)] H7 kr fun gs6 w7 H8=>zh kr kr<|yu [0,1,2,3,4] kr<|rp [.v,.l 1] H8 kr fun gs7 w8 H9=>wX [2,3,4] ?_;have H10:St w.heap.size w w8 [(bo,frO cur),((gs5 2).b,fdO m1 s1 p1 n1 c1)]:=H9.as kr;refine zc0 H10 (some 24) (fun b=>Qf b 1 1) #[.int .u64 (m1:Int),.string s1,.slice p1 n1 c1] 89 (fun w=>by kernel_rfl) kr ?_;intro bn w9 H11;refine zdj (K':=3) H11 (some 25) 85 89 48 (.tmp 22) (.tmp 24) 1 0 bo bn N cap 1 cur #[.int .u64 (m1:Int),.string s1,.slice p1 n1 c1] (zU fS A) kr kr kr kr kr hRw kr kr rfl (xP rfl) (by omega) (by unfold maxLen;omega) ?_;intro b' cap' cur' w10 H12 hr';have H13:St w.heap.size w w10 [(b',frO cur')]:=(show St w.heap.size w w10 [(bn,frO #[.int .u64 (m1:Int),.string s1,.slice p1 n1 c1]),(b',frO cur'),((gs5 2).b,fdO m1 s1 p1 n1 c1)] from H12).sub (Qs _ (Qq _ (QE _)));refine rp [.v] H13 kr fun gs8 w11 H14=>wX []<|zb<|wW<|rL [itI i 1,.v] H14 kr fun gs9 w12 H15=>?_;show ∃m,_/\_;refine⟨_,(by omega),i+1,r1,A++ [(⟨(m1,s1),p1,n1,c1,k1⟩:El (Nat×Qa))],N+1,b',cap',cur',rfl,by rw[Qx,<-hNA];rfl,hR1,hN1,hA.snoc hk1,by omega,Cnt.pushE hC hr1 h1000,?_,H15.as kr,zl⟩;rw[vP];exact hr'
  ·refine rS [.v,.v,.v,itF ((N:Int)<=1000)] H7 kr fun gs6 w7 H8=>zi kr kr<|zj kr<|wW ?_;have H13:St w.heap.size w w7 [(bo,frO cur)]:=(show St w.heap.size w w7 [(bo,frO cur),((gs5 2).b,fdO m1 s1 p1 n1 c1)] from H8).sub (Qq _ (QE _));refine rL [itI i 1,.v] H13 kr fun gs9 w12 H15=>?_;show ∃m,_/\_;exact⟨_,(by omega),i+1,r1,A,N,bo,cap,cur,rfl,hNA,hR1,hN1,hA,hN5,Cnt.full hC h1000,hRw,H15.as kr,zl⟩
 ·refine rS [itF ((i:Int)<(n:Int))] H5 kr fun gs4 w5 H6=>za kr<|zi kr kr<|zE 0 kr<|wW<|za kr<|rS [.v] H6 kr fun gs5 w6 H7=>zm 2 kr ?_;have H8:St w.heap.size w w6 [(bo,frO cur)]:=H7.as kr;have hC0:Cnt l.cnt 1000 N (qP (A.drop 0)):=by rw[FrR.done hN hi]at hC;exact hC
  refine zO kr (fun mz ρ ww=> ∃(q:Nat) (A:List (El (Nat×Qa))) (N bo cap:Nat) (cur:Qd),1002-q=mz/\N=A.length/\uJ w.heap.size w A/\N<=1001/\q<=N/\Cnt l.cnt 1000 N (qP (A.drop q))/\Rw 3 cur cap N (zU fS A)/\St w.heap.size w ww [(bo,frO cur)]/\Is [(1,.int .i64 1000),(5,Qf bo N cap),(8,.int .i64 (q:Int))] ρ) (1002-0) ⟨0,A,N,bo,cap,cur,rfl,hNA,hA,hN5,QU _,hC0,hRw,H8,zl⟩ ?_;clear H5 H6 H7 H8 hC0 hC hR hN hi hRw hA hNA hN5;clear bo cap cur N A i r;rintro _ _ w4 ⟨q,A,N,bo,cap,cur,rfl,hNA,hA,hN5,hq,hC,hRw,H5,_,rfl⟩;by_cases hqN:q<N
  ·by_cases h1000:N<=1000
   ·refine za kr<|za kr<|rL [.v,.v,.v,itT ((q:Int)<(N:Int)),.v,.v,.v,.v,itT ((N:Int)<=1000),.v] H5 kr fun gs4 w5 H6=>wW<|zh kr kr<|zj kr<|wW ?_;obtain⟨x,hx⟩:∃x,A[q]? =some x:=⟨_,Qr (by omega)⟩
    have hxA:=hA x (QF hx);have hxn:=hxA.1;have hxm:x.n<=0x800000000000:=hxA.2.1;have hcell:cur[0+q*3+2]? =some (.slice x.p x.n x.c):=by
     rw[Q9,hRw.get _ (by omega)];exact zdg (S:=fS) A q x hx 2 (by decide)
    refine za kr<|zm 3 kr<|rS [.v,.v,itX 39 40 85 89 3 48 bo 0 N cap q rfl,.v,.ls 0 (C:=cur) (off:=0+q*3+2) (v:=.slice x.p x.n x.c) hcell,.v,.v] H6 kr fun gs5 w6 H7=>zm 4 kr ?_;have H8:St w.heap.size w w6 [(bo,frO cur)]:=H7.as kr;clear H5 H6 H7;refine zO kr (fun mz ρ ww=> ∃(i:Nat) (r:Fe) (A:List (El (Nat×Qa))) (N bo cap:Nat) (cur:Qd),x.n-i=mz/\N=A.length/\FrR fS w.heap.size w x.p i r/\i+r.len=x.n/\uJ w.heap.size w A/\N<=1001/\q<N/\Cnt l.cnt 1000 N (qP (A.drop (q+1))+r.cnt)/\Rw 3 cur cap N (zU fS A)/\St w.heap.size w ww [(bo,frO cur)]/\Is [(1,.int .i64 1000),(5,Qf bo N cap),(8,.int .i64 (q:Int)),(43,.slice x.p x.n x.c),(44,.int .i64 ((x.n:Nat):Int)),(45,.int .i64 (i:Int))] ρ) (x.n-0) ⟨0,x.k,A,N,bo,cap,cur,rfl,hNA,hxA.start,by omega,hA,hN5,hqN,(by rw[zip A q x hx,WC]at hC;exact hC),hRw,H8,zl⟩ ?_;clear H8 hC hRw hA hNA hN5 hcell hx h1000 hqN hq;clear bo cap cur N A;rintro _ _ w4 ⟨i,r,A,N,bo,cap,cur,rfl,hNA,hR,hN,hA,hN5,hqN,hC,hRw,H5,_,rfl⟩;by_cases hi:i<x.n
    ·refine rS [itT ((i:Int)<((x.n:Nat):Int))] H5 kr fun gs4 w5 H6=>za kr<|zh kr kr<|zj kr<|wW<|za kr<|zm 5 kr ?_;obtain⟨⟨m1,s1⟩,k1,r1,b1,off1,C1,T1,fz1,p1,n1,c1,hr1,hp1,hb1,hh1,hs1,hx1,hz1,hk1,hR1,hN1⟩:=FrR.open hR hN hi;refine rS [itX 43 45 85 89 3 48 b1 off1 x.n x.c i hp1,.fp (off:=off1+i*3) (n:=3) (W:=#[.int .u64 (m1:Int),.string s1,.slice p1 n1 c1]) hh1 hb1 hs1 hx1,.a,.s 1] H6 kr fun gs5 w6 H7=>?_;by_cases h1000:N<=1000
     ·refine rS [.v,.v,.v,itT ((N:Int)<=1000)] H7 kr fun gs6 w7 H8=>zh kr kr<|yu [0,1,2,3,4] kr<|rp [.v,.l 1] H8 kr fun gs7 w8 H9=>wX [2,3,4] ?_;have H10:St w.heap.size w w8 [(bo,frO cur),((gs5 2).b,fdO m1 s1 p1 n1 c1)]:=H9.as kr;refine zc0 H10 (some 55) (fun b=>Qf b 1 1) #[.int .u64 (m1:Int),.string s1,.slice p1 n1 c1] 89 (fun w=>by kernel_rfl) kr ?_;intro bn w9 H11;refine zdj (K':=3) H11 (some 56) 85 89 48 (.tmp 53) (.tmp 55) 1 0 bo bn N cap 1 cur #[.int .u64 (m1:Int),.string s1,.slice p1 n1 c1] (zU fS A) kr kr kr kr kr hRw kr kr rfl (xP rfl) (by omega) (by unfold maxLen;omega) ?_;intro b' cap' cur' w10 H12 hr';have H13:St w.heap.size w w10 [(b',frO cur')]:=(show St w.heap.size w w10 [(bn,frO #[.int .u64 (m1:Int),.string s1,.slice p1 n1 c1]),(b',frO cur'),((gs5 2).b,fdO m1 s1 p1 n1 c1)] from H12).sub (Qs _ (Qq _ (QE _)));refine rp [.v] H13 kr fun gs8 w11 H14=>wX []<|zb<|wW<|rL [itI i 1,.v] H14 kr fun gs9 w12 H15=>?_;show ∃m,_/\_;refine⟨_,(by omega),i+1,r1,A++ [(⟨(m1,s1),p1,n1,c1,k1⟩:El (Nat×Qa))],N+1,b',cap',cur',rfl,by rw[Qx,<-hNA];rfl,hR1,hN1,hA.snoc hk1,by omega,by omega,Cnt.pushD hC hr1 h1000 (by omega),?_,H15.as kr,zl⟩;rw[vP];exact hr'
     ·refine rS [.v,.v,.v,itF ((N:Int)<=1000)] H7 kr fun gs6 w7 H8=>zi kr kr<|zj kr<|wW ?_;have H13:St w.heap.size w w7 [(bo,frO cur)]:=(show St w.heap.size w w7 [(bo,frO cur),((gs5 2).b,fdO m1 s1 p1 n1 c1)] from H8).sub (Qq _ (QE _));refine rL [itI i 1,.v] H13 kr fun gs9 w12 H15=>?_;show ∃m,_/\_;exact⟨_,(by omega),i+1,r1,A,N,bo,cap,cur,rfl,hNA,hR1,hN1,hA,hN5,hqN,Cnt.full hC h1000,hRw,H15.as kr,zl⟩
    ·refine rS [itF ((i:Int)<((x.n:Nat):Int))] H5 kr fun gs4 w5 H6=>za kr<|zi kr kr<|zE 4 kr<|wW<|rL [.v,itI q 1,.v] H6 kr fun gs5 w6 H7=>?_;show ∃m,_/\_;exact⟨_,(by omega),q+1,A,N,bo,cap,cur,rfl,hNA,hA,hN5,hqN,(by rw[FrR.done hN hi]at hC;exact hC),hRw,H7.as kr,zl⟩
   ·refine za kr<|za kr<|rL [.v,.v,.v,itT ((q:Int)<(N:Int)),.v,.v,.v,.v,itF ((N:Int)<=1000),.v] H5 kr fun gs4 w5 H6=>wW<|zi kr kr<|zE 2 kr<|wW<|rS [.v,.v,.v] H6 kr fun gs5 w6 H7=>?_;exact rRe [.tmp 4] [] (v:=iN N) (v':=iN (jb l.cnt 1000)) H7 (by rw[Cnt.done (.inr ⟨_,hC,by omega⟩)]) kr
  ·refine za kr<|za kr<|rL [.v,.v,.v,itF ((q:Int)<(N:Int)),.v,.n,.n,.n,.n,.v] H5 kr fun gs4 w5 H6=>wW<|zi kr kr<|zE 2 kr<|wW<|rS [.v,.v,.v] H6 kr fun gs5 w6 H7=>?_;exact rRe [.tmp 4] [] (v:=iN N) (v':=iN (jb l.cnt 1000)) H7 (by rw[Cnt.done (.inl (by rw[U6 (by omega)]at hC;exact hC))]) kr
theorem zpm (form:Qa)(ks:Qi)(hK:kN form ks)(p:Qc)(n c:Nat)(l:Fe):FnP Tryz.prog 89 #[.string form,.slice p n c] (fun w=>SlR fS w.heap.size w p n l) (.bool (decide (l.cnt<=1000)&&yo ks l)):=by
 refine zR [.tmp 4] 20 Tryz.func89 fun w hF=>rS [.v] (St.start w) kr fun gs1 w1 H1=>zd [0,1,2,3,4,5,6] kr kr<|rp [.v] H1 kr fun gs2 w2 H2=>wX [1,2,3,4,5,6] ?_;have H3:St w.heap.size w w2 []:=H2.as kr;refine qk H3 (some 9) 82 #[.string form] (zel form ks hK) trivial kr kr ?_;rintro _ T w3 ⟨kp,kn,kc,rfl,hrow⟩ H4;refine rp [.v,.v,.v,.v,.v] H4 kr fun gs3 w4 H5=>wX []<|zb<|wW ?_;have hAt:=hrow.atF H5 fun e he=>Rd _ he;have hkn:kn<=1000:=by rw[hAt.1];exact hK.few
 have hm:(jb l.cnt 1000<=1000)↔l.cnt<=1000:=by unfold jb;split<;>omega
 by_cases hc:l.cnt<=1000
 ·rw[decide_eq_true hc,UJ];refine zd [0,1,2,3,4,5,6,7,8] kr kr<|rp [.v,.cp (pre:=fun w=>SlR fS w.heap.size w p n l) (ziq p n c l) [] (fun w hb hd=>hF.call hb),itT (((jb l.cnt 1000:Nat):Int)<=1000) (by have:=hm.2 hc;omega),.v,.v,.v] H5 kr fun gs4 w5 H6=>wX [6,7,8] ?_;have H7:St w.heap.size w w5 (T++ []):=H6.as kr;refine yP H7 (some 18) 129 #[.slice kp kn kc,.slice p n c] _ _ (zpl ks hK.kd kp kn kc p n c l hkn) ⟨hrow.atF H7 fun e he=>Rd _ he,hF.call H7.below⟩ ?_;intro w6 H8;refine rp [.v,.v] H8 kr fun gs5 w7 H9=>wX []<|zb ?_;exact rR [.tmp 4] [] (.bool (yo ks l)) H9 kr
 ·rw[decide_eq_false hc,Bool.false_and];refine rS [.v,.cp (pre:=fun w=>SlR fS w.heap.size w p n l) (ziq p n c l) [] (fun w hb hd=>hF.call hb),itF (((jb l.cnt 1000:Nat):Int)<=1000) (by intro h;exact hc (hm.1 (by omega))),.v,.n,.n,.n,.v,.v] H5 kr fun gs4 w5 H6=>?_;exact rR [.tmp 4] [] (.bool false) H6 kr
abbrev Sg:=Nat×Nat×Int
def sgF:Fl Sg where
 K:=9
 cs x:=[.int .u64 (w0 x.1),.int .u64 (w1 x.1),.int .u64 (w2 x.1),.int .u64 (w3 x.1),.int .u64 (w0 x.2.1),.int .u64 (w1 x.2.1),.int .u64 (w2 x.2.1),.int .u64 (w3 x.2.1),.int .i64 x.2.2]
 pos:=by decide
 len _:=rfl
 one a:=fun u hu=>by simp at hu;rcases hu with h | h | h | h | h | h | h | h | h<;>rw[h]<;>rfl
abbrev sgB (x:Sg):Qa:=sbs x.1 x.2.1 x.2.2
def sgOk (x:Sg):Prop:=x.1<big/\x.2.1<big
abbrev sgMay (x:Sg):Bool:=zP x.1 x.2.1 x.2.2
structure Hdr where
 pa:Qa
 hh:Nat
 ro:Qa
 tx:Qa
 pr:Qa
 va:Qa
 vs:Qi
 vo:Qa
 ad:Bool
 rd:Nat
 ss:List Sg
theorem zen {h k:Hdr}(e1:h.pa=k.pa)(e2:h.hh=k.hh)(e3:h.ro=k.ro)(e4:h.tx=k.tx)(e5:h.pr=k.pr)(e6:h.va=k.va)(e7:h.vs=k.vs)(e8:h.vo=k.vo)(e9:h.ad=k.ad)(e10:h.rd=k.rd)(e11:h.ss=k.ss):h=k:=by
 cases h;cases k;simp only at*;subst e1 e2 e3 e4 e5 e6 e7 e8 e9 e10 e11;rfl
structure yj (h:Hdr):Prop where
 hh:h.hh<0x10000000000000000
 rd:h.rd<0x10000000000000000
 pa:h.pa.size<=1000000
 ro:h.ro.size<=1000000
 tx:h.tx.size<=1000000
 pr:h.pr.size<=1000000
 va:h.va.size<=1000000
 vo:h.vo.size<=1000000
 vs: ∀x∈h.vs,Ql x<=1000000
 vl:h.vs.length<=1000
 ss: ∀x∈h.ss,sgOk x
 sl:h.ss.length<=1000
def xD:Option Qa->Qi->Bool
 | _,[]=>true
 | p,a::r=>decide (a.size=20)&&(upB p a&&xD (some a) r)
def setM (L:Qi):Bool:=xD none L&&(decide (0<L.length)&&decide (L.length<=16))
def voteB (vo:Qa)(ad:Bool):Bool:=if vo.size=0 then !ad else decide (vo.size=20)
def rightH (h:Hdr):Bool:=
 (decide (h.pa.size=32)&&(decide (h.ro.size=32)&&(decide (h.tx.size=32)&&(decide (h.pr.size=20)&&(decide (h.va.size<=8)&&setM h.vs)))))&&((voteB h.vo h.ad&&decide (h.ss.length<=16))&&h.ss.all sgMay)
def lsF:Qi->Fe
 | []=>.nil
 | a::r=>.cons (0,a) .nil (lsF r)
theorem vY: ∀L,(lsF L).len=L.length
 | []=>rfl
 | a::r=>by simp only[lsF,Fr.len,Rh,vY r]
theorem zeo: ∀L,(lsF L).cnt=L.length
 | []=>rfl
 | a::r=>by simp only[lsF,Fr.cnt,Rh,zeo r];omega
theorem zep: ∀ {L M:Qi},lsF L=lsF M->L=M
 | [],[],_=>rfl
 | a::r,b::t,h=>by
  unfold lsF at h;injection h with h1 _ h2;injection h1 with _ h1
  rw[h1,zep h2]
 | [],b::t,h=>by unfold lsF at h;cases h
 | a::r,[],h=>by unfold lsF at h;cases h
theorem zeq: ∀ {L:Qi},(∀x∈L,Ql x<=0x800000000000)->(lsF L).all fS.ok
 | [],_=>trivial
 | a::r,h=>⟨⟨(by decide:0<0x10000000000000000),h a (QX ..)⟩,trivial,zeq fun x hx=>h x (QR _ hx)⟩
def hdL (pa:Qa)(hh:Nat)(ro tx pr va:Qa)(L:Qi)(vo:Qa)(a rd:Nat)(M:Qi):Fe:=
 .cons (0,pa) .nil (.cons (hh,em) .nil (.cons (0,ro) .nil (.cons (0,tx) .nil (.cons (0,pr) .nil (.cons (0,va) .nil (.cons (0,em) (lsF L) (.cons (0,vo) .nil (.cons (a,em) .nil (.cons (rd,em) .nil (.cons (0,em) (lsF M) .nil))))))))))
def adN (b:Bool):Nat:=if b then 1 else 0
def hdF (h:Hdr):Fe:=hdL h.pa h.hh h.ro h.tx h.pr h.va h.vs h.vo (adN h.ad) h.rd (h.ss.map sgB)
abbrev qa:Qa:=⟨#[104,110,104,104,97,98,42,97,98,110,110,42,115]⟩
def hK:Qi:=[⟨#[104]⟩,⟨#[110]⟩,⟨#[104]⟩,⟨#[104]⟩,⟨#[97]⟩,⟨#[98]⟩,⟨#[42,97]⟩,⟨#[98]⟩,⟨#[110]⟩,⟨#[110]⟩,⟨#[42,115]⟩]
theorem jq:kN qa hK:=⟨by decide,by kernel_rfl,by kernel_rfl,by kernel_rfl,QN.1 (show hK.all kdOk=true by kernel_rfl)⟩
def zY (h:Hdr):Qa:=(wrV qa (hdF h)).1
theorem zer {pa pa':Qa}{hh hh':Nat}{ro ro' tx tx' pr pr' va va':Qa}{L L':Qi}{vo vo':Qa}{a a' rd rd':Nat}{M M':Qi}(h:hdL pa hh ro tx pr va L vo a rd M=hdL pa' hh' ro' tx' pr' va' L' vo' a' rd' M'):
 pa=pa'/\hh=hh'/\ro=ro'/\tx=tx'/\pr=pr'/\va=va'/\L=L'/\vo=vo'/\a=a'/\rd=rd'/\M=M':=by
 unfold hdL at h;injection h with e1 _ h;injection h with e2 _ h;injection h with e3 _ h;injection h with e4 _ h;injection h with e5 _ h;injection h with e6 _ h;injection h with _ e7 h;injection h with e8 _ h;injection h with e9 _ h;injection h with e10 _ h;injection h with _ e11 _
 injection e1 with _ e1;injection e2 with e2 _;injection e3 with _ e3;injection e4 with _ e4;injection e5 with _ e5;injection e6 with _ e6;injection e8 with _ e8;injection e9 with e9 _;injection e10 with e10 _
 exact⟨e1,e2,e3,e4,e5,e6,zep e7,e8,e9,e10,zep e11⟩
theorem zpn {a b:Bool}(h:adN a=adN b):a=b:=by cases a<;>cases b<;>first | rfl | cases h
theorem zir {x y:Sg}(hx:sgOk x)(hy:sgOk y)(mx:sgMay x=true)(my:sgMay y=true)(h:sgB x=sgB y):x=y:=by
 obtain⟨r,s,v⟩:=x;obtain⟨r',s',v'⟩:=y;have e1:=congrArg sgR h;have e2:=congrArg sgS h;have e3:=congrArg sgV h;rw[zaO hx.1,zaO hy.1]at e1;rw[zaP hx.2,zaP hy.2]at e2;rw[zaQ mx,zaQ my]at e3;exact Prod.ext e1 (Prod.ext e2 e3)
theorem zis: ∀ {L M:List Sg},(∀x∈L,sgOk x)->(∀x∈M,sgOk x)->L.all sgMay=true->M.all sgMay=true->L.map sgB=M.map sgB->L=M
 | [],[],_,_,_,_,_=>rfl
 | x::r,y::t,hL,hM,aL,aM,h=>by
  simp only[List.all_cons,Qu]at aL aM;simp only[Q8,Uf.injEq]at h;rw[zir (hL x (QX ..)) (hM y (QX ..)) aL.1 aM.1 h.1,zis (fun z hz=>hL z (QR _ hz)) (fun z hz=>hM z (QR _ hz)) aL.2 aM.2 h.2]
 | [],y::t,_,_,_,_,h=>by simp at h
 | x::r,[],_,_,_,_,h=>by simp at h
structure RtH (h:Hdr):Prop where
 pa:h.pa.size=32
 ro:h.ro.size=32
 tx:h.tx.size=32
 pr:h.pr.size=20
 va:h.va.size<=8
 st:setM h.vs=true
 vo:voteB h.vo h.ad=true
 sl:h.ss.length<=16
 ss:h.ss.all sgMay=true
theorem jC {h:Hdr} :rightH h=true↔RtH h:=by
 unfold rightH;simp only[Qu,decide_eq_true_eq];exact⟨fun⟨⟨h1,h2,h3,h4,h5,h6⟩,⟨h7,h8⟩,h9⟩=>⟨h1,h2,h3,h4,h5,h6,h7,h8,h9⟩,fun⟨h1,h2,h3,h4,h5,h6,h7,h8,h9⟩=>⟨⟨h1,h2,h3,h4,h5,h6⟩,⟨h7,h8⟩,h9⟩⟩
theorem zpo {h k:Hdr}(oh:yj h)(ok:yj k)(rh:rightH h=true)(rk:rightH k=true)(e:hdF h=hdF k):h=k:=by
 have r1:=jC.1 rh;have r2:=jC.1 rk;obtain⟨e1,e2,e3,e4,e5,e6,e7,e8,e9,e10,e11⟩:=zer e;have e9:=zpn e9;have e11:=zis oh.ss ok.ss r1.ss r2.ss e11;exact zen e1 e2 e3 e4 e5 e6 e7 e8 e9 e10 e11
theorem zit {p:Option Qa} : ∀ {L:Qi},xD p L=true-> ∀x∈L,Ql x=20:=by
 intro L
 induction L generalizing p with
 | nil=>intro _ x hx;exact nomatch hx
 | cons a r ih=>
  intro h x hx;simp only[xD,Qu,decide_eq_true_eq]at h;rcases Uj.1 hx with rfl | hx
  ·exact h.1
  ·exact ih h.2.2 x hx
theorem uK {h:Hdr}(o:yj h):(hdF h).all fS.ok:=by
 have z:(0:Nat)<0x10000000000000000:=by decide
 have ze:em.size<=0x800000000000:=QU _;have ha:adN h.ad<0x10000000000000000:=by unfold adN;split<;>decide
 have h1:=o.pa;have h2:=o.ro;have h3:=o.tx;have h4:=o.pr;have h5:=o.va;have h6:=o.vo
 exact⟨⟨z,by show h.pa.size<=_;omega⟩,trivial,⟨o.hh,ze⟩,trivial,⟨z,by show h.ro.size<=_;omega⟩,trivial,⟨z,by show h.tx.size<=_;omega⟩,trivial,⟨z,by show h.pr.size<=_;omega⟩,trivial,⟨z,by show h.va.size<=_;omega⟩,trivial,⟨z,ze⟩,zeq fun x hx=>by have:=o.vs x hx;omega,
  ⟨z,by show h.vo.size<=_;omega⟩,trivial,⟨ha,ze⟩,trivial,⟨o.rd,ze⟩,trivial,⟨z,ze⟩,zeq fun x hx=>by obtain⟨y,_,rfl⟩:=Rk.1 hx;rw[jZ];omega,trivial⟩
theorem ziu (m sz ln:Nat):zw 104 0 m sz ln=(decide (m=0)&&(decide (sz=32)&&decide (ln=0))):=by
 unfold zw qe yr yz;rw[RM];simp<;>omega
theorem ziv (m sz ln:Nat):zw 42 1 m sz ln=(decide (m=0)&&(decide (sz=0)&&decide (ln<=40))):=by
 unfold zw qe yr yz;rw[RM];simp<;>omega
theorem ziw (c:Nat)(q:Qa)(x:Nat×Qa)(l:Fe)(h0:by_ q 0=42)(h1:by_ q 1=c):qv q x l=(zw 42 1 x.1 x.2.size l.len&&qu c l):=by
 have e:kdB q=.cons c .nil .nil:=by unfold kdB;rw[if_pos h0,h1]
 unfold qv;rw[e,h0,h1];rfl
theorem uL {c z:Nat}(hf: ∀m sz ln,zw c 0 m sz ln=(decide (m=0)&&(decide (sz=z)&&decide (ln=0)))): ∀ {l:Fe},qu c l=true↔ ∃L:Qi,l=lsF L/\ ∀x∈L,Ql x=z
 | .nil=>⟨fun _=>⟨[],rfl,fun _ h=>nomatch h⟩,fun _=>rfl⟩
 | .cons x l r=>by
  simp only[qu,hf,Qu,decide_eq_true_eq];constructor
  ·rintro⟨⟨h1,h2,h3⟩,h4⟩;obtain⟨L,rfl,hL⟩:=(uL hf).1 h4;obtain rfl:=Fr.len_zero h3;obtain⟨m,s⟩:=x;simp only at h1 h2;subst h1;exact⟨s::L,rfl,fun y hy=>by rcases Uj.1 hy with rfl | hy;exact h2;exact hL y hy⟩
  ·rintro⟨L,h1,h2⟩;cases L with
   | nil=>unfold lsF at h1;cases h1
   | cons a t=>
    unfold lsF at h1;injection h1 with e1 e2 e3
    subst e1 e2 e3;exact⟨⟨rfl,h2 a (QX ..),rfl⟩,(uL hf).2 ⟨t,rfl,fun y hy=>h2 y (QR _ hy)⟩⟩
theorem zes (l:Fe):yo hK l=true↔ ∃(pa:Qa) (hh:Nat) (ro tx pr va:Qa) (L:Qi) (vo:Qa) (a rd:Nat) (M:Qi),l=hdL pa hh ro tx pr va L vo a rd M/\
 pa.size=32/\ro.size=32/\tx.size=32/\pr.size=20/\va.size<=64/\(∀x∈L,Ql x=20)/\L.length<=40/\vo.size<=64/\(∀x∈M,Ql x=65)/\M.length<=40:=by
 have s1:=fun x l=>xQ 104 ⟨#[104]⟩ x l rfl (by decide);have s2:=fun x l=>xQ 110 ⟨#[110]⟩ x l rfl (by decide);have s3:=fun x l=>xQ 97 ⟨#[97]⟩ x l rfl (by decide);have s4:=fun x l=>xQ 98 ⟨#[98]⟩ x l rfl (by decide);have s5:=fun x l=>ziw 97 ⟨#[42,97]⟩ x l rfl rfl;have s6:=fun x l=>ziw 115 ⟨#[42,115]⟩ x l rfl rfl;constructor
 ·intro h;have hl:=zaK h;unfold hK at h
  match l,h,hl with
  | .cons x1 l1 (.cons x2 l2 (.cons x3 l3 (.cons x4 l4 (.cons x5 l5 (.cons x6 l6 (.cons x7 l7 (.cons x8 l8 (.cons x9 l9 (.cons x10 l10 (.cons x11 l11 .nil)))))))))),h,_=>
   simp only[yo,s1,s2,s3,s4,s5,s6,uH,zcu,zif,ziu,ziv,Qu,decide_eq_true_eq]at h;obtain⟨⟨a1,a2,a3⟩,⟨b1,b2⟩,⟨c1,c2,c3⟩,⟨d1,d2,d3⟩,⟨e1,e2,e3⟩,⟨f1,f2,f3⟩,⟨⟨g1,g2,g3⟩,g4⟩,⟨h1,h2,h3⟩,⟨i1,i2⟩,⟨j1,j2⟩,⟨⟨k1,k2,k3⟩,k4⟩,_⟩:=h;obtain⟨L,rfl,hL⟩:=(uL uH).1 g4;obtain⟨M,rfl,hM⟩:=(uL zct).1 k4;rw[vY]at g3 k3;obtain⟨m1,t1⟩:=x1;obtain⟨m2,t2⟩:=x2;obtain⟨m3,t3⟩:=x3;obtain⟨m4,t4⟩:=x4;obtain⟨m5,t5⟩:=x5;obtain⟨m6,t6⟩:=x6;obtain⟨m7,t7⟩:=x7;obtain⟨m8,t8⟩:=x8;obtain⟨m9,t9⟩:=x9;obtain⟨m10,t10⟩:=x10;obtain⟨m11,t11⟩:=x11;obtain rfl:=Fr.len_zero a3;obtain rfl:=Fr.len_zero b2;obtain rfl:=Fr.len_zero c3;obtain rfl:=Fr.len_zero d3;obtain rfl:=Fr.len_zero e3;obtain rfl:=Fr.len_zero f3;obtain rfl:=Fr.len_zero h3;obtain rfl:=Fr.len_zero i2;obtain rfl:=Fr.len_zero j2;obtain rfl:=jN b1;obtain rfl:=jN i1;obtain rfl:=jN j1;obtain rfl:=jN g2;obtain rfl:=jN k2;simp only at a1 c1 d1 e1 f1 g1 h1 k1;subst a1 c1 d1 e1 f1 g1 h1 k1;exact⟨t1,m2,t3,t4,t5,t6,L,t8,m9,m10,M,rfl,a2,c2,d2,e2,f2,hL,g3,h2,hM,k3⟩
 ·rintro⟨pa,hh,ro,tx,pr,va,L,vo,a,rd,M,rfl,h1,h2,h3,h4,h5,h6,h7,h8,h9,h10⟩;unfold hK hdL;simp only[yo,s1,s2,s3,s4,s5,s6,uH,zcu,zif,ziu,ziv,(uL uH).2 ⟨L,rfl,h6⟩,(uL zct).2 ⟨M,rfl,h9⟩,vY,h1,h2,h3,h4,h5,h7,h8,h10,Fr.len];rfl
def lsI:Qi->Fo
 | []=>.nil
 | a::r=>.cons false a .nil (lsI r)
theorem zet {c:Nat}(h1:c≠110)(h2:yb c=false): ∀(L:Qi) (i:Nat),yF (lsF L) 42 (.cons c .nil .nil) i=lsI L
 | [],_=>rfl
 | a::r,i=>by
  unfold lsF lsI;rw[zaH,zaJ,zet h1 h2 r];unfold zX zI;rw[if_neg h1,h2];rfl
theorem zix: ∀L,(lsI L).len=L.length
 | []=>rfl
 | a::r=>by simp only[lsI,Fo.len,Rh,zix r]
theorem zeu: ∀L,(lsI L).cnt=L.length
 | []=>rfl
 | a::r=>by simp only[lsI,Fo.cnt,Rh,zeu r];omega
theorem zcx: ∀L,pureF (lsI L)=true
 | []=>rfl
 | a::r=>by
  show ((!mixed false a 0&&true)&&pureF (lsI r))=true;rw[zcx r];rfl
theorem zev: ∀L,dpF (lsI L)=0
 | []=>rfl
 | a::r=>by
  show max 0 (dpF (lsI r))=0;rw[zev r];rfl
theorem zcy {z:Nat} : ∀ {L:Qi},(∀x∈L,Ql x<=z)->wtF (lsI L)<=L.length*(9+z)
 | [],_=>QU _
 | a::r,h=>by
  have h1:=h a (QX ..);have h2:=zcy (L:=r) fun x hx=>h x (QR _ hx);simp only[lsI,wtF,Rh,Ur];omega
def hdI (h:Hdr):Fo:=
 .cons false h.pa .nil (.cons false (zg (dg h.hh)) .nil (.cons false h.ro .nil (.cons false h.tx .nil (.cons false h.pr .nil (.cons false h.va .nil (.cons true emB (lsI h.vs) (.cons false h.vo .nil (.cons false (zg (dg (adN h.ad))) .nil (.cons false (zg (dg h.rd)) .nil (.cons true emB (lsI (h.ss.map sgB)) .nil))))))))))
theorem ziy (h:Hdr):yF (hdF h) 40 (kfL hK) 0=hdI h:=by
 unfold hdF hdL hdI;rw[jm _ _ _ 0 (by decide),jm _ _ _ 1 (by decide),jm _ _ _ 2 (by decide),jm _ _ _ 3 (by decide),jm _ _ _ 4 (by decide),jm _ _ _ 5 (by decide),jm _ _ _ 6 (by decide),jm _ _ _ 7 (by decide),jm _ _ _ 8 (by decide),jm _ _ _ 9 (by decide),jm _ _ _ 10 (by decide)];have e1:zI 42 (.cons 97 .nil .nil) (lsF h.vs)=lsI h.vs:=by
  unfold zI;rw[if_pos (show yb 42=true from rfl)];exact zet (by decide) rfl _ _
 have e2:zI 42 (.cons 115 .nil .nil) (lsF (h.ss.map sgB))=lsI (h.ss.map sgB):=by
  unfold zI;rw[if_pos (show yb 42=true from rfl)];exact zet (by decide) rfl _ _
 rw[<-e1,<-e2];rfl
theorem ziz {vo:Qa}{ad:Bool}(h:voteB vo ad=true):vo.size<=20:=by
 unfold voteB at h;split at h
 ·omega
 ·have:=of_decide_eq_true h;omega
theorem ziA {h:Hdr}(r:rightH h=true):yo hK (hdF h)=true:=by
 have q:=jC.1 r;have hs:=q.st;unfold setM at hs;simp only[Qu,decide_eq_true_eq]at hs;have h1:=q.va;have h2:=ziz q.vo;have h3:=q.sl;exact(zes _).2 ⟨_,_,_,_,_,_,_,_,_,_,_,rfl,q.pa,q.ro,q.tx,q.pr,by omega,zit hs.1,by omega,by omega,fun x hx=>by obtain⟨y,_,rfl⟩:=Rk.1 hx;exact jZ _ _ _,by rw[Ra];omega⟩
theorem ziB {h:Hdr}(r:rightH h=true):wtF (hdI h)<=2500:=by
 have q:=jC.1 r;have hs:=q.st;unfold setM at hs;simp only[Qu,decide_eq_true_eq]at hs;have w1:=zcy (L:=h.vs) (z:=20) fun x hx=>WB (zit hs.1 x hx);have w2:=zcy (L:=h.ss.map sgB) (z:=65) fun x hx=>by obtain⟨y,_,rfl⟩:=Rk.1 hx;exact WB (jZ _ _ _)
 rw[Ra]at w2;have a1:=q.pa;have a2:=q.ro;have a3:=q.tx;have a4:=q.pr;have a5:=q.va;have a6:=ziz q.vo;have a7:=q.sl;have d1:=qB h.hh;have d2:=qB (adN h.ad);have d3:=qB h.rd;have ez:emB.size=0:=rfl;simp only[hdI,wtF,yU];omega
theorem xR {h:Hdr}(r:rightH h=true):(wrV qa (hdF h)).2=0:=by
 have q:=jC.1 r;have hs:=q.st;unfold setM at hs;simp only[Qu,decide_eq_true_eq]at hs;have a7:=q.sl;have hc:(hdF h).cnt<=1000:=by
  simp only[hdF,hdL,Fr.cnt,zeo,Ra];omega
 have hw:=ziB r;have hci:(hdI h).cnt<=3999:=by
  simp only[hdI,Fo.cnt,zeu,Ra];omega
 have hp:pureF (hdI h)=true:=by
  have p1:=zcx h.vs;have p2:=zcx (h.ss.map sgB);simp only[hdI,pureF,p1,p2,mixed];rfl
 have hd:dpF (hdI h)=1:=by
  simp only[hdI,dpF,zev,dp1];rfl
 have h1:=vg (hdI h);have h2:=zav true emB (szF (hdI h));have ez:emB.size=0:=rfl;have hl:lf1 true emB (hdI h).len (lfF (hdI h)) 4000=some (3999-(hdI h).cnt):=by
  unfold lf1;rw[if_neg (by simp[mixed];rfl),kG,if_pos ⟨hp,hci⟩]
 rw[zaM jq,if_pos ⟨ziA r,hc⟩,ziy];unfold zC;rw[hl];simp only[];rw[if_neg (by rw[hd];decide),if_neg (by omega)]
theorem isK {l:List (Nat×Value)}{ρ:Env}(h:l.map (fun p=>ρ p.1)=l.map (·.2):=by kernel_rfl):Is l ρ:=by
 refine Is.of ?_
 induction l with
 | nil=>trivial
 | cons p r ih=>
  simp only[Q8,Uf.injEq]at h;exact⟨h.1,ih h.2⟩
section
variable {P:Program}{N:Nat}{c:Code}{Q:Exit->Env->World->Prop}{ρ:Env}{w:World}
theorem yh (k:Q .normal ρ w)(h:(kx c&&uk (kw c))=true:=by kernel_rfl)(hx:ev ρ (jQ c)=.bool false:=by kernel_rfl):WP P N c Q ρ w:=by
 rw[Qu]at h;exact zi h.1 hx (zj h.2 k)
theorem zJ (k:WP P N (ku c) Q ρ w)(h:kx c=true:=by kernel_rfl)(hx:ev ρ (jQ c)=.bool true:=by kernel_rfl):WP P N c Q ρ w:=zh h hx k
def xE (c:Code):Code:=qR (qR c)
def zcz (c:Code):Code:=zH (xE c)
def xF (c:Code):Code:=zy (xE c)
def zew (c:Code):Code:=qR (zH (zy (xF c)))
def zaR (c:Code):Code:=zy (zy (xF c))
def vZ (n:Nat):Code->Bool
 | .region _ ops d=>QL ops.size n&& !d
 | _=>false
theorem zcA {n:Nat}{c:Code}(h:vZ n c=true):∃id,c=.region id (zp c) false/\QW (zp c).size=QW n:=by
 cases c with
 | region id ops d=>
  cases d with
  | true=>simp[vZ]at h
  | false=>
   simp only[vZ,Bool.not_false,Bool.and_true]at h;exact⟨id,rfl,congrArg QW (QB h)⟩
 | _=>cases h
def ua (a:Option Nat)(b:Nat):Bool:=match a with
 | some x=>QL x b
 | none=>false
theorem uM {a:Option Nat}{b:Nat}(h:ua a b=true):a=some b:=by
 cases a with
 | none=>cases h
 | some x=>exact congrArg some (QB h)
def zex (nt ni b0 b1 tc:Nat)(c:Code):Bool:=
 ua (uj c) b0&&(uX (qR c)&&(qo (xE c)&&(vZ nt (zcz c)&&(qo (xF c)&&(kx (zH (xF c))&&(uk (ku (zH (xF c)))&&(ua (za6 (kw (zH (xF c)))) b0&&(qo (zy (xF c))&&(ua (uj (zH (zy (xF c)))) b1&&vZ ni (zaR c))))))))))
abbrev zcB (ti b0 b1:Nat)(inc:Env->Env)(I:Nat->Env->World->Prop)(Q:Exit->Env->World->Prop)(i:Nat):Exit->Env->World->Prop
 | .normal,ρ,w=>ρ ti=iN i/\I (i+1) (inc ρ) w
 | .exit k,ρ,w=>bif QL k b1 then ρ ti=iN i/\I (i+1) (inc ρ) w else bif QL k b0 then Q .normal ρ w else Q (.exit k) ρ w
 | e,ρ,w=>Q e ρ w
theorem zpp {ti b0 b1 tc nt ni n:Nat}{tst:Nat->Env->Env}{inc:Nat->Env->Env}(I:Nat->Env->World->Prop)
 (hs:zex nt ni b0 b1 tc c=true) (hx:jQ (zH (xF c))=.tmp tc)
 (hT: ∀i ρ w K,I i ρ w->K (tst i ρ) w->WPs P N (zp (zcz c)) K (QW nt) ρ w) (hv: ∀i ρ w,I i ρ w->tst i ρ tc=.bool (decide ((i:Int)<(n:Int))))
 (hJ: ∀i ρ w K,i<n->ρ ti=iN i->K (inc i ρ) w->WPs P N (zp (zaR c)) K (QW ni) ρ w)
 (h0:I 0 ρ w) (hb: ∀i ρ w,i<n->I i ρ w->WP P N (zew c) (zcB ti b0 b1 (inc i) I Q i) (tst i ρ) w) (he: ∀ρ w,I n ρ w->Q .normal (tst n ρ) w):WP P N c Q ρ w:=by
 unfold zex at hs;simp only[Qu]at hs;obtain⟨s1,s2,s3,s4,s5,s6,s7,s8,s9,s10,s11⟩:=hs;obtain⟨id1,e1,l1⟩:=zcA s4;obtain⟨id2,e2,l2⟩:=zcA s11;refine zm b0 (uM s1)<|zO s2 (fun m ρ w=> ∃i,n-i=m/\i<=n/\I i ρ w) n ⟨0,rfl,QU _,h0⟩ ?_;rintro m ρ w ⟨i,rfl,hin,hI⟩;refine za s3 ?_;show WP P N (zcz c) _ ρ w;rw[e1];refine WP.region _ l1<|hT i ρ w _ hI ?_;show WP P N (xF c) _ (tst i ρ) w;refine za s5 ?_;have hval:=hv i ρ w hI;by_cases hi:i<n
 ·refine zh s6 (by rw[hx];show tst i ρ tc=_;rw[hval,decide_eq_true (by omega)])<|zj s7 ?_;show WP P N (zy (xF c)) _ (tst i ρ) w;refine za s9<|zm b1 (uM s10) ?_;have hfin: ∀(Q3:Exit->Env->World->Prop) ρ' w',(ρ' ti=iN i/\I (i+1) (inc i ρ') w')->(∀e ρ w,Q3 e ρ w=Q3 e ρ w)->WP P N (zaR c) (nx (fun ρ' w'=> ∃m,m<n-i/\∃i,n-i=m/\i<=n/\I i ρ' w') Q3) ρ' w':=fun Q3 ρ' w' h _=>by
   rw[e2];refine WP.region _ l2 ?_;exact hJ i ρ' w' _ hi h.1 ⟨n-(i+1),by omega,i+1,rfl,by omega,h.2⟩
  refine qS (hb i ρ w hi hI) fun e ρ' w' h=>?_;cases e with
  | normal=>exact hfin _ ρ' w' h fun _ _ _=>rfl
  | exit k=>
   show bif QL k b1 then _ else _;change (bif QL k b1 then _ else _)at h;cases hk:QL k b1 with
   | true=>rw[hk]at h;exact hfin _ ρ' w' h fun _ _ _=>rfl
   | false=>rw[hk]at h;exact h
  | _=>exact h
 ·obtain rfl:i=n:=by omega
  refine zi s6 (by rw[hx];show tst i ρ tc=_;rw[hval,decide_eq_false (by omega)])<|zE b0 (uM s8) ?_;show bif QL b0 b0 then _ else _;rw[RG];exact he ρ w hI
theorem yR (ti tn tc tj b0 b1 n:Nat)(hn:n<=0x4000000000000000)(I:Nat->Env->World->Prop)(hI: ∀i ρ w,I i ρ w->ρ ti=iN i/\ρ tn=iN n)
 (h0:I 0 ρ w) (hb: ∀i ρ w,i<n->I i ρ w->WP P N (zew c) (zcB ti b0 b1 (fun ρ=>upd (upd ρ tj (iN (i+1))) ti (iN (i+1))) I Q i) (upd ρ tc (.bool true)) w)
 (he: ∀ρ w,I n ρ w->Q .normal (upd ρ tc (.bool false)) w)
 (hs:zex 1 2 b0 b1 tc c=true:=by kernel_rfl) (hx:jQ (zH (xF c))=.tmp tc:=by kernel_rfl)
 (ht: ∀(ρ0:Env) (i:Nat) w,opv P (zp (zcz c)) 0 (upd (upd ρ0 tn (iN n)) ti (iN i)) w=some (some tc,true,.ok (.value (.bool (decide ((i:Int)<(n:Int))))) w):=by exact fun ρ0 i w=>by kernel_rfl)
 (hj: ∀(ρ0:Env) (i:Nat) w,opv P (zp (zaR c)) 0 (upd ρ0 ti (iN i)) w=some (some tj,true,.ok (.value (.int .i64 (Qz.wrap ((i:Int)+1)))) w):=by exact fun ρ0 i w=>by kernel_rfl)
 (hk: ∀(ρ0:Env) (v:Value) w,opv P (zp (zaR c)) 1 (upd ρ0 tj v) w=some (some ti,true,.ok (.value v) w):=by exact fun ρ0 v w=>by kernel_rfl)
 (hd:(dOK (some tc) N&&(dOK (some tj) N&&dOK (some ti) N))=true:=by kernel_rfl):WP P N c Q ρ w:=by
 simp only[Qu]at hd;refine zpp (ti:=ti) (tst:=fun i ρ=>upd ρ tc (.bool (decide ((i:Int)<(n:Int))))) (inc:=fun i ρ=>upd (upd ρ tj (iN (i+1))) ti (iN (i+1))) (n:=n) I hs hx (fun i ρ w K h k=>?_) (fun i ρ w h=>?_) (fun i ρ w K hi h k=>?_) h0 (fun i ρ w hi h=>?_) (fun ρ w h=>?_)
 ·have e:upd (upd ρ tn (iN n)) ti (iN i)=ρ:=by rw[kX (hI i ρ w h).2,kX (hI i ρ w h).1]
  refine jv (some tc) _ (fun w=>e▸ht ρ i w) hd.1 ?_;exact zb k
 ·show upd ρ tc _ tc=_;unfold upd;rw[RG];rfl
 ·have e:upd ρ ti (iN i)=ρ:=kX h;refine qZ (some tj) _ (iN (i+1)) (fun w=>e▸hj ρ i w) (zf (ya (a:=i) (b:=1) (by omega))) hd.2.1<|jv (some ti) (iN (i+1)) (fun w=>hk ρ (iN (i+1)) w) hd.2.2 ?_;exact zb k
 ·show WP P N (zew c) _ (upd ρ tc (.bool (decide ((i:Int)<(n:Int))))) w;rw[decide_eq_true (show (i:Int)<(n:Int) by omega)];exact hb i ρ w hi h
 ·show Q .normal (upd ρ tc (.bool (decide ((n:Int)<(n:Int))))) w;rw[decide_eq_false (show ¬(n:Int)<(n:Int) by omega)];exact he ρ w h
end
theorem AtF.row2 {α:Type}{S:Fl α}{w:World}{p:Qc}{n:Nat}{L:List α}(h:AtF S w p n L)(hn:0<n):∃b off C T fz,p=some ⟨b,off,none⟩/\w.heap[b]? =some (.cells C T fz)/\xK S C off L:=by
 rcases h.2 with rfl|h2
 ·have:=h.1;simp at this;omega
 ·exact h2
theorem ziC (x y:Qa):(VQ x.toList y.toList||(x.toList==y.toList))= !(lexB (tl y) (tl x)):=by
 rw[zek];by_cases h:x=y
 ·subst h;rw[vc,zei];rfl
 ·rw[jG x y h,Bool.or_false];have hne:tl x≠tl y:=fun e=>h (qj e);cases h1:lexB (tl x) (tl y) with
  | true=>
   cases h2:lexB (tl y) (tl x) with
   | false=>rfl
   | true=>have:=zo3 h1 h2;rw[zei]at this;cases this
  | false=>rw[zik h1 hne];rfl
def xG (L:Qi)(i:Nat):Option Qa:=if i=0 then none else L[i-1]?
theorem zcC {L:Qi}{i:Nat}{x:Qa}(h:L[i]? =some x):xG L (i+1)=some x:=by
 unfold xG;rw[if_neg (by omega),Nat.add_sub_cancel,h]
theorem zpq (p:Qc)(n c:Nat)(L:Qi)(hL:L.length<=1000000):FnP Tryz.prog 58 #[.slice p n c] (fun w=>AtF sS w p n L) (.bool (setM L)):=by
 refine zR [.tmp 2] 37 Tryz.func58 fun w hP=>?_;have hn:=hP.1;have H0:=St.start w;refine rS [.v] H0 kr fun gs1 w1 H1=>za kr<|rS [.v,.v,.v] H1 kr fun gs2 w2 H2=>yR 7 6 8 28 0 1 n (by omega) (fun i ρ ww=>xD none L=xD (xG L i) (L.drop i)/\St w.heap.size w ww []/\Is [(0,.slice p n c),(5,.slice p n c),(6,iN n),(7,iN i)] ρ) (by rintro i _ ww ⟨_,_,_,rfl⟩;exact⟨kr,kr⟩) ⟨rfl,H2.as kr,isK⟩ ?_ ?_
 ·clear H0 H1 H2;rintro i _ w4 hi ⟨hst,H5,_,rfl⟩;obtain⟨x,hx⟩:∃x,L[i]? =some x:=⟨_,Qr (by omega)⟩
  obtain⟨bl,off,C,T,fz,hp,hh,hR⟩:=hP.row2 (by omega);have hcx:C[off+i*1]? =some (.string x):=hR.cell hx 0 (by decide);rw[zcw hx]at hst;change xD none L=(decide (x.size=20)&&(upB (xG L i) x&&xD (some x) (L.drop (i+1))))at hst;refine rS [.v,itX 5 7 23 9 1 16 bl off n c i hp,.fs (off:=off+i*1) (v:=.string x) hh (zo hh) hcx,.v,.v] H5 kr fun gs5 w6 H7=>?_;by_cases h1:x.size=20
  case neg=>
   refine rS [.v,.v,.E (.bool (!((x.size:Int)==20))) (.bool true) (zc (by rw[beq_eq_false_iff_ne.2 (by omega)];rfl)),.v,.n,.n,.n,.n,.n,.n,.n,.n,.n,.n,.n,.v] H7 kr fun gs6 w7 H8=>zJ<|rS [.v] H8 kr fun gs7 w8 H9=>?_;exact rRe [.tmp 2] [] (v:=.bool false) (v':=.bool (setM L)) H9 (zc (by unfold setM;rw[hst,decide_eq_false h1];rfl)) kr
  rw[decide_eq_true h1]at hst;by_cases h0:i=0
  ·have hup:upB (xG L i) x=true:=by subst h0;rfl
   refine rS [.v,.v,.E (.bool (!((x.size:Int)==20))) (.bool false) (zc (by rw[beq_iff_eq.2 (show (x.size:Int)=20 by omega)];rfl)),.v,.v,itF ((i:Int)>0),.v,.n,.n,.n,.n,.n,.n,.n,.v,.v] H7 kr fun gs6 w7 H8=>yh ?_;exact⟨kr,by rw[zcC hx,hst,hup];rfl,H8.as kr,isK⟩
  ·obtain⟨y,hy⟩:∃y,L[i-1]? =some y:=⟨_,Qr (by omega)⟩
   have hcell:C[off+(i-1)*1]? =some (.string y):=hR.cell hy 0 (by decide);have hpv:upB (xG L i) x=lexB (tl y) (tl x):=by unfold xG;rw[if_neg h0,hy];rfl
   rw[hpv]at hst;cases hup:lexB (tl y) (tl x) with
   | false=>
    refine rS [.v,.v,.E (.bool (!((x.size:Int)==20))) (.bool false) (zc (by rw[beq_iff_eq.2 (show (x.size:Int)=20 by omega)];rfl)),.v,.v,itT ((i:Int)>0),.v,.v,.v,.v,.E (.int .i64 (Qz.wrap ((i:Int)-1))) (iN (i-1)) (zf (kZ (a:=i) (b:=1) (by omega))),itX 20 22 23 9 1 16 bl off n c (i-1) hp,.fs (off:=off+(i-1)*1) (v:=.string y) hh (zo hh) hcell,.E (.bool (VQ x.toList y.toList||(x.toList==y.toList))) (.bool true) (zc (by rw[ziC,hup];rfl)),.v,.v] H7 kr fun gs6 w7 H8=>zJ<|rS [.v] H8 kr fun gs7 w8 H9=>?_;exact rRe [.tmp 2] [] (v:=.bool false) (v':=.bool (setM L)) H9 (zc (by unfold setM;rw[hst,hup];rfl)) kr
   | true=>
    refine rS [.v,.v,.E (.bool (!((x.size:Int)==20))) (.bool false) (zc (by rw[beq_iff_eq.2 (show (x.size:Int)=20 by omega)];rfl)),.v,.v,itT ((i:Int)>0),.v,.v,.v,.v,.E (.int .i64 (Qz.wrap ((i:Int)-1))) (iN (i-1)) (zf (kZ (a:=i) (b:=1) (by omega))),itX 20 22 23 9 1 16 bl off n c (i-1) hp,.fs (off:=off+(i-1)*1) (v:=.string y) hh (zo hh) hcell,.E (.bool (VQ x.toList y.toList||(x.toList==y.toList))) (.bool false) (zc (by rw[ziC,hup];rfl)),.v,.v] H7 kr fun gs6 w7 H8=>yh ?_;exact⟨kr,by rw[zcC hx,hst,hup];rfl,H8.as kr,isK⟩
 ·rintro _ w4 ⟨hst,H5,_,rfl⟩;rw[UE (by omega)]at hst;refine wW ?_;by_cases h0:0<n
  ·refine rS [.v,.v,itT ((n:Int)>0),.v,.v,.v,.E (.bool (decide ((n:Int)<=16))) (.bool (decide (n<=16))) (zc (by rw[RM];simp<;>omega)),.v,.v] H5 kr fun gs6 w7 H8=>?_;exact rRe [.tmp 2] [] (v:=.bool (decide (n<=16))) (v':=.bool (setM L)) H8 (zc (by unfold setM;rw[hst,<-hn,decide_eq_true h0];rfl)) kr
  ·refine rS [.v,.v,itF ((n:Int)>0),.v,.n,.n,.n,.v,.v] H5 kr fun gs6 w7 H8=>?_;exact rRe [.tmp 2] [] (v:=.bool false) (v':=.bool (setM L)) H8 (zc (by unfold setM;rw[hst,<-hn,decide_eq_false h0];rfl)) kr
abbrev hdC (h:Hdr)(p:Qc)(n c:Nat)(q:Qc)(m k:Nat):Qd:=#[.string h.pa,.int .u64 ((h.hh:Nat):Int),.string h.ro,.string h.tx,.string h.pr,.string h.va,.slice p n c,.string h.vo,.bool h.ad,.int .u64 ((h.rd:Nat):Int),.slice q m k]
abbrev hdV (h:Hdr)(p:Qc)(n c:Nat)(q:Qc)(m k:Nat):Value:=.agg (hdC h p n c q m k)
abbrev hdO (h:Hdr)(p:Qc)(n c:Nat)(q:Qc)(m k:Nat):Obj:=.cells (hdC h p n c q m k) 26
theorem zey {h:Hdr}{b:Bool}(e:h.ad=b){p:Qc}{n c:Nat}{q:Qc}{m k:Nat} :hdO h p n c q m k=.cells #[.string h.pa,.int .u64 ((h.hh:Nat):Int),.string h.ro,.string h.tx,.string h.pr,.string h.va,.slice p n c,.string h.vo,.bool b,.int .u64 ((h.rd:Nat):Int),.slice q m k] 26 (0,0):=by subst e;rfl
def qG (w:World)(h:Hdr)(p:Qc)(n:Nat)(q:Qc)(m:Nat):Prop:=AtF sS w p n h.vs/\AtF sgF w q m h.ss
theorem qG.call {w w':World}{h:Hdr}{p:Qc}{n:Nat}{q:Qc}{m:Nat}(a:qG w h p n q m)(hb:Below w.heap.size w w'):qG w' h p n q m:=⟨a.1.call hb,a.2.call hb⟩
theorem uN {h:Hdr}{P:Prop}(f:RtH h->P)(hn: ¬P):RV false=.bool (rightH h):=congrArg RV (RE.2 fun e=>hn (f (jC.1 e))).symm
abbrev sgC (x:Sg):Qd:=(sgF.cs x).toArray
abbrev sgO (x:Sg):Obj:=.cells (sgC x) 52
structure ub (h:Hdr):Prop where
 vo:h.vo.size<=1000000
 vl:h.vs.length<=1000
 ss: ∀x∈h.ss,sgOk x
 sl:h.ss.length<=1000
theorem yj.sm {h:Hdr}(o:yj h):ub h:=⟨o.vo,o.vl,o.ss,o.sl⟩
theorem ziD (h:Hdr)(o:ub h)(p:Qc)(n c:Nat)(q:Qc)(m k:Nat):FnP Tryz.prog 30 #[hdV h p n c q m k] (fun w=>qG w h p n q m) (.bool (rightH h)):=by
 refine zR [.tmp 2] 75 Tryz.func30 fun w hP=>?_;have hn:=hP.1.1;have hm:=hP.2.1;have hvl:=o.vl;have hsl:=o.sl;have hv64:=o.vo;have H0:=St.start w;refine rS [.b,.v] H0 kr fun gs1 w1 H1=>za kr ?_;by_cases hpa:h.pa.size=32
 case neg=>
  refine rS [.v,.l 0,.v,.E (.bool (!(((h.pa.size:Nat):Int)==32))) (.bool true) (zc (by rw[beq_eq_false_iff_ne.2 (by omega)];rfl)),.v,.n,.n,.n,.n,.v,.v,.n,.n,.n,.n,.v,.v,.n,.n,.n,.n,.v,.v,.n,.n,.n,.n,.v,.v,.n,.n,.n,.n,.v] H1 kr fun gs2 w2 H2=>zJ<|rS [.v] H2 kr fun gs3 w3 H3=>?_;exact rRe [.tmp 2] [] (v:=.bool false) (v':=.bool (rightH h)) H3 (uN (·.pa) hpa) kr
 by_cases hro:h.ro.size=32
 case neg=>
  refine rS [.v,.l 0,.v,.E (.bool (!(((h.pa.size:Nat):Int)==32))) (.bool false) (zc (by rw[beq_iff_eq.2 (show ((h.pa.size:Nat):Int)=32 by omega)];rfl)),.v,.v,.l 0,.v,.E (.bool (!(((h.ro.size:Nat):Int)==32))) (.bool true) (zc (by rw[beq_eq_false_iff_ne.2 (by omega)];rfl)),.v,.v,.n,.n,.n,.n,.v,.v,.n,.n,.n,.n,.v,.v,.n,.n,.n,.n,.v,.v,.n,.n,.n,.n,.v] H1 kr fun gs2 w2 H2=>zJ<|rS [.v] H2 kr fun gs3 w3 H3=>?_;exact rRe [.tmp 2] [] (v:=.bool false) (v':=.bool (rightH h)) H3 (uN (·.ro) hro) kr
 by_cases htx:h.tx.size=32
 case neg=>
  refine rS [.v,.l 0,.v,.E (.bool (!(((h.pa.size:Nat):Int)==32))) (.bool false) (zc (by rw[beq_iff_eq.2 (show ((h.pa.size:Nat):Int)=32 by omega)];rfl)),.v,.v,.l 0,.v,.E (.bool (!(((h.ro.size:Nat):Int)==32))) (.bool false) (zc (by rw[beq_iff_eq.2 (show ((h.ro.size:Nat):Int)=32 by omega)];rfl)),.v,.v,.v,.l 0,.v,.E (.bool (!(((h.tx.size:Nat):Int)==32))) (.bool true) (zc (by rw[beq_eq_false_iff_ne.2 (by omega)];rfl)),.v,.v,.n,.n,.n,.n,.v,.v,.n,.n,.n,.n,.v,.v,.n,.n,.n,.n,.v] H1 kr fun gs2 w2 H2=>zJ<|rS [.v] H2 kr fun gs3 w3 H3=>?_;exact rRe [.tmp 2] [] (v:=.bool false) (v':=.bool (rightH h)) H3 (uN (·.tx) htx) kr
 by_cases hpr:h.pr.size=20
 case neg=>
  refine rS [.v,.l 0,.v,.E (.bool (!(((h.pa.size:Nat):Int)==32))) (.bool false) (zc (by rw[beq_iff_eq.2 (show ((h.pa.size:Nat):Int)=32 by omega)];rfl)),.v,.v,.l 0,.v,.E (.bool (!(((h.ro.size:Nat):Int)==32))) (.bool false) (zc (by rw[beq_iff_eq.2 (show ((h.ro.size:Nat):Int)=32 by omega)];rfl)),.v,.v,.v,.l 0,.v,.E (.bool (!(((h.tx.size:Nat):Int)==32))) (.bool false) (zc (by rw[beq_iff_eq.2 (show ((h.tx.size:Nat):Int)=32 by omega)];rfl)),.v,.v,.v,.l 0,.v,.E (.bool (!(((h.pr.size:Nat):Int)==20))) (.bool true) (zc (by rw[beq_eq_false_iff_ne.2 (by omega)];rfl)),.v,.v,.n,.n,.n,.n,.v,.v,.n,.n,.n,.n,.v] H1 kr fun gs2 w2 H2=>zJ<|rS [.v] H2 kr fun gs3 w3 H3=>?_;exact rRe [.tmp 2] [] (v:=.bool false) (v':=.bool (rightH h)) H3 (uN (·.pr) hpr) kr
 by_cases hva:h.va.size<=8
 case neg=>
  refine rS [.v,.l 0,.v,.E (.bool (!(((h.pa.size:Nat):Int)==32))) (.bool false) (zc (by rw[beq_iff_eq.2 (show ((h.pa.size:Nat):Int)=32 by omega)];rfl)),.v,.v,.l 0,.v,.E (.bool (!(((h.ro.size:Nat):Int)==32))) (.bool false) (zc (by rw[beq_iff_eq.2 (show ((h.ro.size:Nat):Int)=32 by omega)];rfl)),.v,.v,.v,.l 0,.v,.E (.bool (!(((h.tx.size:Nat):Int)==32))) (.bool false) (zc (by rw[beq_iff_eq.2 (show ((h.tx.size:Nat):Int)=32 by omega)];rfl)),.v,.v,.v,.l 0,.v,.E (.bool (!(((h.pr.size:Nat):Int)==20))) (.bool false) (zc (by rw[beq_iff_eq.2 (show ((h.pr.size:Nat):Int)=20 by omega)];rfl)),.v,.v,.v,.l 0,.v,itT (((h.va.size:Nat):Int)>8),.v,.v,.n,.n,.n,.n,.v] H1 kr fun gs2 w2 H2=>zJ<|rS [.v] H2 kr fun gs3 w3 H3=>?_;exact rRe [.tmp 2] [] (v:=.bool false) (v':=.bool (rightH h)) H3 (uN (·.va) hva) kr
 have hset:=zpq p n c h.vs (by omega);by_cases hst:setM h.vs=true
 case neg=>
  rw[RE.2 hst]at hset;refine rS [.v,.l 0,.v,.E (.bool (!(((h.pa.size:Nat):Int)==32))) (.bool false) (zc (by rw[beq_iff_eq.2 (show ((h.pa.size:Nat):Int)=32 by omega)];rfl)),.v,.v,.l 0,.v,.E (.bool (!(((h.ro.size:Nat):Int)==32))) (.bool false) (zc (by rw[beq_iff_eq.2 (show ((h.ro.size:Nat):Int)=32 by omega)];rfl)),.v,.v,.v,.l 0,.v,.E (.bool (!(((h.tx.size:Nat):Int)==32))) (.bool false) (zc (by rw[beq_iff_eq.2 (show ((h.tx.size:Nat):Int)=32 by omega)];rfl)),.v,.v,.v,.l 0,.v,.E (.bool (!(((h.pr.size:Nat):Int)==20))) (.bool false) (zc (by rw[beq_iff_eq.2 (show ((h.pr.size:Nat):Int)=20 by omega)];rfl)),.v,.v,.v,.l 0,.v,itF (((h.va.size:Nat):Int)>8),.v,.v,.v,.l 0,.cp (pre:=fun w=>AtF sS w p n h.vs) hset [] (fun w hb hd=>hP.1.call hb),.v,.v] H1 kr fun gs2 w2 H2=>zJ<|rS [.v] H2 kr fun gs3 w3 H3=>?_;exact rRe [.tmp 2] [] (v:=.bool false) (v':=.bool (rightH h)) H3 (uN (·.st) hst) kr
 rw[hst]at hset;have hst2:=hst;refine rS [.v,.l 0,.v,.E (.bool (!(((h.pa.size:Nat):Int)==32))) (.bool false) (zc (by rw[beq_iff_eq.2 (show ((h.pa.size:Nat):Int)=32 by omega)];rfl)),.v,.v,.l 0,.v,.E (.bool (!(((h.ro.size:Nat):Int)==32))) (.bool false) (zc (by rw[beq_iff_eq.2 (show ((h.ro.size:Nat):Int)=32 by omega)];rfl)),.v,.v,.v,.l 0,.v,.E (.bool (!(((h.tx.size:Nat):Int)==32))) (.bool false) (zc (by rw[beq_iff_eq.2 (show ((h.tx.size:Nat):Int)=32 by omega)];rfl)),.v,.v,.v,.l 0,.v,.E (.bool (!(((h.pr.size:Nat):Int)==20))) (.bool false) (zc (by rw[beq_iff_eq.2 (show ((h.pr.size:Nat):Int)=20 by omega)];rfl)),.v,.v,.v,.l 0,.v,itF (((h.va.size:Nat):Int)>8),.v,.v,.v,.l 0,.cp (pre:=fun w=>AtF sS w p n h.vs) hset [] (fun w hb hd=>hP.1.call hb),.v,.v] H1 kr fun gs2 w2 H2=>yh<|wW<|za kr<|qS (Q:=fun e ρ ww=>(e=.ret/\rightH h=false/\Is [(2,.bool false)] ρ/\St w.heap.size w ww [])\/(e=.normal/\voteB h.vo h.ad=true/\m<=16/\St w.heap.size w ww [((gs1 0).b,hdO h p n c q m k)]/\Is [(1,Qe (gs1 0).b)] ρ)) ?_ ?_
 ·by_cases hz:h.vo.size=0
  ·have hv0:h.vo=⟨#[]⟩:=jN hz;cases had:h.ad with
   | true=>
    refine rS [.v,.l 0,.v,.E (.bool (!(((h.vo.size:Nat):Int)==0))) (.bool false) (zc (by rw[beq_iff_eq.2 (show ((h.vo.size:Nat):Int)=0 by omega)];rfl)),.v,.n,.n,.n,.n,.v,.v,.v,.l 0,.E (.bool (h.vo.toList==(⟨#[]⟩:Qa).toList)) (.bool true) (zc (xu _ _ hv0)),.v,.v,.l 0,.v,.v,.v,.n,.n,.n,.n,.v] (H2.as (l:=[((gs1 0).b,.cells (#[.string h.pa,.int .u64 ((h.hh:Nat):Int),.string h.ro,.string h.tx,.string h.pr,.string h.va,.slice p n c,.string h.vo,.bool true,.int .u64 ((h.rd:Nat):Int),.slice q m k]) 26)]) (congrArg (fun o=>[((gs1 0).b,o)]) (zey had))) kr fun gs4 w4 H4=>zJ<|rS [.v] H4 kr fun gs5 w5 H5=>?_;exact zk kr (.inl ⟨rfl,RE.2 (fun e=>by have:=(jC.1 e).vo;unfold voteB at this;rw[if_pos hz,had]at this;exact absurd this (by decide)),isK,H5.sub (QE _)⟩)
   | false=>
    have H2':=H2.as (l:=[((gs1 0).b,.cells (#[.string h.pa,.int .u64 ((h.hh:Nat):Int),.string h.ro,.string h.tx,.string h.pr,.string h.va,.slice p n c,.string h.vo,.bool false,.int .u64 ((h.rd:Nat):Int),.slice q m k]) 26)]) (congrArg (fun o=>[((gs1 0).b,o)]) (zey had));by_cases h16:m<=16
    ·refine rS [.v,.l 0,.v,.E (.bool (!(((h.vo.size:Nat):Int)==0))) (.bool false) (zc (by rw[beq_iff_eq.2 (show ((h.vo.size:Nat):Int)=0 by omega)];rfl)),.v,.n,.n,.n,.n,.v,.v,.v,.l 0,.E (.bool (h.vo.toList==(⟨#[]⟩:Qa).toList)) (.bool true) (zc (xu _ _ hv0)),.v,.v,.l 0,.v,.v,.v,.v,.l 0,.v,itF ((m:Int)>16),.v] H2' kr fun gs4 w4 H4=>yh ?_;exact .inr ⟨rfl,by unfold voteB;rw[if_pos hz];rfl,h16,(H4.as (l:=[((gs1 0).b,.cells (#[.string h.pa,.int .u64 ((h.hh:Nat):Int),.string h.ro,.string h.tx,.string h.pr,.string h.va,.slice p n c,.string h.vo,.bool false,.int .u64 ((h.rd:Nat):Int),.slice q m k]) 26)]) kr).as (congrArg (fun o=>[((gs1 0).b,o)]) (zey had).symm),isK⟩
    ·refine rS [.v,.l 0,.v,.E (.bool (!(((h.vo.size:Nat):Int)==0))) (.bool false) (zc (by rw[beq_iff_eq.2 (show ((h.vo.size:Nat):Int)=0 by omega)];rfl)),.v,.n,.n,.n,.n,.v,.v,.v,.l 0,.E (.bool (h.vo.toList==(⟨#[]⟩:Qa).toList)) (.bool true) (zc (xu _ _ hv0)),.v,.v,.l 0,.v,.v,.v,.v,.l 0,.v,itT ((m:Int)>16),.v] H2' kr fun gs4 w4 H4=>zJ<|rS [.v] H4 kr fun gs5 w5 H5=>?_;exact zk kr (.inl ⟨rfl,RE.2 (fun e=>by have:=(jC.1 e).sl;omega),isK,H5.sub (QE _)⟩)
  ·have hv0: ¬h.vo=⟨#[]⟩:=fun e=>hz (by rw[e];rfl);by_cases hz2:h.vo.size=20
   ·by_cases h16:m<=16
    ·refine rS [.v,.l 0,.v,.E (.bool (!(((h.vo.size:Nat):Int)==0))) (.bool true) (zc (by rw[beq_eq_false_iff_ne.2 (by omega)];rfl)),.v,.v,.l 0,.v,.E (.bool (!(((h.vo.size:Nat):Int)==20))) (.bool false) (zc (by rw[beq_iff_eq.2 (show ((h.vo.size:Nat):Int)=20 by omega)];rfl)),.v,.v,.v,.l 0,.E (.bool (h.vo.toList==(⟨#[]⟩:Qa).toList)) (.bool false) (zc (jG _ _ hv0)),.v,.n,.n,.v,.v,.v,.v,.l 0,.v,itF ((m:Int)>16),.v] H2 kr fun gs4 w4 H4=>yh ?_;exact .inr ⟨rfl,by unfold voteB;rw[if_neg hz,decide_eq_true hz2],h16,H4.as kr,isK⟩
    ·refine rS [.v,.l 0,.v,.E (.bool (!(((h.vo.size:Nat):Int)==0))) (.bool true) (zc (by rw[beq_eq_false_iff_ne.2 (by omega)];rfl)),.v,.v,.l 0,.v,.E (.bool (!(((h.vo.size:Nat):Int)==20))) (.bool false) (zc (by rw[beq_iff_eq.2 (show ((h.vo.size:Nat):Int)=20 by omega)];rfl)),.v,.v,.v,.l 0,.E (.bool (h.vo.toList==(⟨#[]⟩:Qa).toList)) (.bool false) (zc (jG _ _ hv0)),.v,.n,.n,.v,.v,.v,.v,.l 0,.v,itT ((m:Int)>16),.v] H2 kr fun gs4 w4 H4=>zJ<|rS [.v] H4 kr fun gs5 w5 H5=>?_;exact zk kr (.inl ⟨rfl,RE.2 (fun e=>by have:=(jC.1 e).sl;omega),isK,H5.sub (QE _)⟩)
   ·refine rS [.v,.l 0,.v,.E (.bool (!(((h.vo.size:Nat):Int)==0))) (.bool true) (zc (by rw[beq_eq_false_iff_ne.2 (by omega)];rfl)),.v,.v,.l 0,.v,.E (.bool (!(((h.vo.size:Nat):Int)==20))) (.bool true) (zc (by rw[beq_eq_false_iff_ne.2 (by omega)];rfl)),.v,.v,.n,.n,.n,.n,.n,.n,.n,.v,.v,.n,.n,.n,.n,.v] H2 kr fun gs4 w4 H4=>zJ<|rS [.v] H4 kr fun gs5 w5 H5=>?_;exact zk kr (.inl ⟨rfl,RE.2 (fun e=>by have:=(jC.1 e).vo;unfold voteB at this;rw[if_neg hz,decide_eq_false hz2]at this;cases this),isK,H5.sub (QE _)⟩)
 ·rintro _ _ w5 (⟨rfl,hr,⟨_,rfl⟩,H5⟩|⟨rfl,hvo,h16,H5,_,rfl⟩)
  ·refine wV ?_;refine⟨[.bool false],(.tmp (.bool false) kr .nil),?_,H5.below⟩;rw[hr];rfl
  refine wW ?_;clear H0 H1 H2;refine za kr<|rS [.v,.l 0,.v,.v] H5 kr fun gs6 w6 H6=>yR 67 66 68 74 0 1 m (by omega) (fun i ρ ww=>(h.ss.take i).all sgMay=true/\St w.heap.size w ww [((gs1 0).b,hdO h p n c q m k)]/\Is [(65,.slice q m k),(66,iN m),(67,iN i)] ρ) (by rintro i _ ww ⟨_,_,_,rfl⟩;exact⟨kr,kr⟩) ⟨rfl,H6.as kr,isK⟩ ?_ ?_
  ·clear H5 H6;rintro i _ w7 hi ⟨hst,H7,_,rfl⟩;obtain⟨x,hx⟩:∃x,h.ss[i]? =some x:=⟨_,Qr (by omega)⟩
   obtain⟨bl,off,C,T,fz,hp,hh,hR⟩:=hP.2.row2 (by omega);have hxo:=o.ss x (QF hx);have hsig:=zcf x.1 x.2.1 hxo.1 hxo.2 x.2.2;refine rS [itX 65 67 24 52 9 72 bl off m k i hp,.fp (off:=off+i*9) (n:=9) (W:=sgC x) hh (zo hh) (hR _ _ hx).1 (hR _ _ hx).2,.a,.s 1] H7 kr fun gs7 w8 H8=>?_;cases hmy:sgMay x with
   | false=>
    rw[show zP x.1 x.2.1 x.2.2=false from hmy]at hsig;refine rS [.l 1,.c hsig,.v] H8 kr fun gs8 w9 H9=>zJ<|rS [.v] H9 kr fun gs9 w10 H10=>?_;exact rRe [.tmp 2] [] (v:=.bool false) (v':=.bool (rightH h)) H10 (congrArg RV (RE.2 fun e=>by have:=QN.1 (jC.1 e).ss x (QF hx);rw[hmy]at this;cases this).symm) kr
   | true=>
    rw[show zP x.1 x.2.1 x.2.2=true from hmy]at hsig;refine rS [.l 1,.c hsig,.v] H8 kr fun gs8 w9 H9=>yh ?_;exact⟨kr,by rw[yZ hx,List.all_append,hst];simp[hmy],(H9.as (l:=[((gs1 0).b,hdO h p n c q m k),((gs7 2).b,sgO x)]) kr).sub (List.sublist_append_left [_] [_]),isK⟩
  ·rintro _ w7 ⟨hst,H7,_,rfl⟩;refine wW ?_;rw[Qy (by omega)]at hst;refine rS [.v] H7 kr fun gs7 w8 H8=>?_;exact rRe [.tmp 2] [] (v:=.bool true) (v':=.bool (rightH h)) H8 (congrArg RV (jC.2 ⟨hpa,hro,htx,hpr,hva,hst2,hvo,by omega,hst⟩).symm) kr
theorem zpr (h:Hdr)(o:yj h)(p:Qc)(n c:Nat)(q:Qc)(m k:Nat):FnP Tryz.prog 30 #[hdV h p n c q m k] (fun w=>qG w h p n q m) (.bool (rightH h)):=ziD h o.sm p n c q m k
section
open Go.ChangeShapes Go.WideShapes Go.ChangeAt
theorem ziE:Tryz.prog.cellsOf 26=11:=kr
theorem zez:Tryz.prog.cellsOf 52=9:=kr
theorem zps:Tryz.prog.cellsOf 3=1:=kr
theorem zeA:Tryz.prog.cellsOf 9=1:=kr
theorem ziF:Tryz.prog.cellsOf 22=1:=kr
theorem zpt:Tryz.prog.cellsOf 4=1:=kr
theorem zpu:Tryz.prog.cellsOf 23=1:=kr
theorem zpv:Tryz.prog.cellsOf 24=1:=kr
theorem ziG {α:Type}(l:List α)(h:l.length=11):∃a0 a1 a2 a3 a4 a5 a6 a7 a8 a9 a10,l=[a0,a1,a2,a3,a4,a5,a6,a7,a8,a9,a10]:=by
 match l,h with
 | [a0,a1,a2,a3,a4,a5,a6,a7,a8,a9,a10],_=>exact⟨_,_,_,_,_,_,_,_,_,_,_,rfl⟩
section
variable {H:Type}{enc:TypeId×Value->H}{W:World}{sp:Nat->Bool}{held:Bool}
theorem ziH (fuel:Nat)(cs:List Value)(x:DataW H×List MemPlace)(h:Rg enc Tryz.prog W 0 sp held fuel 52 cs=some x):∃a:Sg,cs=sgF.cs a/\sgOk a:=by
 obtain⟨y0,y1,y2,m,hx,hl,hy0,hy1,hy2⟩:=Go.Deep.trod_struct3 Tryz.underlying52 h;rw[zez]at hl;obtain⟨c0,c1,c2,c3,c4,c5,c6,c7,c8,rfl⟩:=zlG cs hl;rw[zlF]at hy0 hy1;rw[zps]at hy2;obtain⟨n,hn,a0,a1,a2,a3⟩:=zgi (show Rg enc Tryz.prog W 0 sp held m 50 [c0,c1,c2,c3]=some y0 from hy0);obtain⟨k,hk,b0',b1,b2,b3⟩:=zgi (show Rg enc Tryz.prog W 0 sp held m 50 [c4,c5,c6,c7]=some y1 from hy1);obtain⟨z,hz,_,_⟩:=DataW.trod_int Tryz.underlying3 (show Rg enc Tryz.prog W 0 sp held m 3 [c8]=some y2 from hy2);have hz:c8=.int .i64 z:=by simpa using hz
 exact⟨(n,k,z),by rw[a0,a1,a2,a3,b0',b1,b2,b3,hz];rfl,hn,hk⟩
theorem zpw (fuel:Nat)(cs:List Value)(x:DataW H×List MemPlace)(h:Rg enc Tryz.prog W 0 sp held fuel 9 cs=some x):∃a:Qa,cs=sS.cs a/\a.size<=maxLen:=by
 obtain⟨s,e0,_,hs⟩:=DataW.trod_string Tryz.underlying9 h;exact⟨s,e0,hs⟩
def zeB (h:Hdr):Prop:=h.hh<0x10000000000000000/\h.rd<0x10000000000000000/\ ∀x∈h.ss,sgOk x
end
end
abbrev Txn:=Qa×Nat×Nat×Sg
abbrev tnC (x:Txn):Qd:=#[.string x.1,.int .u64 ((x.2.1:Nat):Int),.int .u64 ((x.2.2.1:Nat):Int),.int .u64 (w0 x.2.2.2.1),.int .u64 (w1 x.2.2.2.1),.int .u64 (w2 x.2.2.2.1),.int .u64 (w3 x.2.2.2.1),.int .u64 (w0 x.2.2.2.2.1),.int .u64 (w1 x.2.2.2.2.1),.int .u64 (w2 x.2.2.2.2.1),.int .u64 (w3 x.2.2.2.2.1),.int .i64 x.2.2.2.2.2]
def tnS:Fl Txn where
 K:=12
 cs x:=(tnC x).toList
 pos:=by decide
 len _:=rfl
 one a:=fun u hu=>by simp[tnC]at hu;rcases hu with h | h | h | h | h | h | h | h | h | h | h | h<;>rw[h]<;>rfl
abbrev tnV (x:Txn):Value:=.agg (tnC x)
def yS (x:Txn):Prop:=x.2.1<0x10000000000000000/\x.2.2.1<0x10000000000000000/\sgOk x.2.2.2
theorem zpx (x y:Sg)(hx:sgOk x)(hy:sgOk y)(w:World):(UR 9999 52 (.agg (Qn (sgv x.1 x.2.1 x.2.2))) (.agg (Qn (sgv y.1 y.2.1 y.2.2)))).run Tryz.prog w=.ok (decide (x=y)) w:=by
 obtain⟨r,s,v⟩:=x;obtain⟨r',s',v'⟩:=y;obtain⟨hr,hs⟩:=hx;obtain⟨hr',hs'⟩:=hy
 rw[run_equalIn_struct w 9998 52 _ _ kr kr,
  show (Tryz.prog.fieldsOf 52).toList= [{ name:= "R",type:=50,offset:=0,embedded:=false,tag:= "",pkgPath:= "",byteOffset:=0 },{ name:= "S",type:=50,offset:=4,embedded:=false,tag:= "",pkgPath:= "",byteOffset:=32 },{ name:= "V",type:=3,offset:=8,embedded:=false,tag:= "",pkgPath:= "",byteOffset:=64 }] by kernel_rfl]
 have px: ∀r s v,(part 50 (Qn (sgv r s v)) 0).run Tryz.prog w=.ok (uv r) w:=fun r s v=>by kernel_rfl
 have py: ∀r s v,(part 50 (Qn (sgv r s v)) 4).run Tryz.prog w=.ok (uv s) w:=fun r s v=>by kernel_rfl
 have pb: ∀r s v,(part 3 (Qn (sgv r s v)) 8).run Tryz.prog w=.ok (.int .i64 v) w:=fun r s v=>by kernel_rfl
 have ex: ∀r r':Nat,r<big->r'<big->(UR 9998 50 (uv r) (uv r')).run Tryz.prog w=.ok (decide (r=r')) w:=fun r r' hr hr'=>by
  have h9:=zdu hr hr';rw[<-h9];exact zdr 9996 _ _ _ _ _ _ _ _ w
 have eb:(UR 9998 3 (.int .i64 v) (.int .i64 v')).run Tryz.prog w=.ok (v==v') w:=by
  rw[run_equalIn_int w 9997 3 .i64 .i64 v v' Tryz.underlying3]
 have n1:("R" :String)≠ "_" :=by decide
 have n2:("S" :String)≠ "_" :=by decide
 have n3:("V" :String)≠ "_" :=by decide
 simp only[Op.eqFields,if_pos n1,if_pos n2,if_pos n3,Q7,px,py,pb,QJ,ex r r' hr hr',ex s s' hs hs',eb,Sem.run_ite];by_cases h1:r=r'
 ·by_cases h2:s=s'
  ·by_cases h3:v=v'<;>simp[h1,h2,h3]
  ·simp[h1,h2]
 ·simp[h1]
theorem zpy (x y:Txn)(hx:yS x)(hy:yS y)(w:World):(UR 10000 54 (tnV x) (tnV y)).run Tryz.prog w=.ok (decide (x=y)) w:=by
 rw[run_equalIn_struct w 9999 54 _ _ kr kr,
  show (Tryz.prog.fieldsOf 54).toList= [{ name:= "To",type:=9,offset:=0,embedded:=false,tag:= "",pkgPath:= "",byteOffset:=0 },{ name:= "Amount",type:=22,offset:=1,embedded:=false,tag:= "",pkgPath:= "",byteOffset:=16 },{ name:= "Nonce",type:=22,offset:=2,embedded:=false,tag:= "",pkgPath:= "",byteOffset:=24 },{ name:= "Sig",type:=52,offset:=3,embedded:=false,tag:= "",pkgPath:= "",byteOffset:=32 }] by kernel_rfl]
 have p0: ∀x:Txn,(part 9 (tnC x) 0).run Tryz.prog w=.ok (.string x.1) w:=fun x=>by kernel_rfl
 have p1: ∀x:Txn,(part 22 (tnC x) 1).run Tryz.prog w=.ok (.int .u64 ((x.2.1:Nat):Int)) w:=fun x=>by kernel_rfl
 have p2: ∀x:Txn,(part 22 (tnC x) 2).run Tryz.prog w=.ok (.int .u64 ((x.2.2.1:Nat):Int)) w:=fun x=>by kernel_rfl
 have p3: ∀x:Txn,(part 52 (tnC x) 3).run Tryz.prog w=.ok (.agg (Qn (sgv x.2.2.2.1 x.2.2.2.2.1 x.2.2.2.2.2))) w:=fun x=>by kernel_rfl
 have ex:(UR 9999 9 (.string x.1) (.string y.1)).run Tryz.prog w=.ok (decide (x.1=y.1)) w:=by
  rw[run_equalIn_string w 9998 9 _ _ Tryz.underlying9];by_cases e:x.1=y.1
  ·rw[xu _ _ e,decide_eq_true e]
  ·rw[jG _ _ e,decide_eq_false e]
 have en: ∀a b:Nat,(UR 9999 22 (.int .u64 ((a:Nat):Int)) (.int .u64 ((b:Nat):Int))).run Tryz.prog w=.ok (decide (a=b)) w:=fun a b=>by
  rw[run_equalIn_int w 9998 22 .u64 .u64 _ _ Tryz.underlying22];by_cases e:a=b
  ·rw[decide_eq_true e,e];simp
  ·rw[decide_eq_false e,beq_eq_false_iff_ne.2 (by omega)]
 have es:=zpx x.2.2.2 y.2.2.2 hx.2.2 hy.2.2 w;have n1:("To" :String)≠ "_" :=by decide
 have n2:("Amount" :String)≠ "_" :=by decide
 have n3:("Nonce" :String)≠ "_" :=by decide
 have n4:("Sig" :String)≠ "_" :=by decide
 simp only[Op.eqFields,if_pos n1,if_pos n2,if_pos n3,if_pos n4,Q7,p0,p1,p2,p3,QJ,ex,en,es,Sem.run_ite];obtain⟨a,b,c,d⟩:=x;obtain⟨a',b',c',d'⟩:=y;by_cases h1:a=a'
 ·by_cases h2:b=b'
  ·by_cases h3:c=c'
   ·by_cases h4:d=d'<;>simp[h1,h2,h3,h4]
   ·simp[h1,h2,h3]
  ·simp[h1,h2]
 ·simp[h1]
theorem zpz {ρ:Env}(x y:Txn)(hx:yS x)(hy:yS y){s t:Operand}{o:Oper}(w:World)(ho:o.op=.binOp .neq 54 s t 54)(h1:ev ρ s=tnV x)(h2:ev ρ t=tnV y):
 (execOp (ev ρ) o).run Tryz.prog w=.ok (.value (.bool (!decide (x=y)))) w:=by
 have h:=zpy x y hx hy w;change ev ρ s=.agg (tnC x)at h1;change ev ρ t=.agg (tnC y)at h2;change (UR 10000 54 (.agg (tnC x)) (.agg (tnC y))).run Tryz.prog w=_ at h;generalize tnC x=X at h h1;generalize tnC y=Y at h h2;unfold execOp;simp only[ho,h1,h2,resolve,Q7,Up,QJ,run_eqGuard_agg w _ _ _ _ _ _ (show Tryz.prog.eqGuardType Tryz.prog.depth 54=false by kernel_rfl),run_eql_struct,run_neq_struct,h]
theorem zpA (h k:Hdr)(oh:yj h)(ok:yj k)(p:Qc)(n c:Nat)(q:Qc)(m cq:Nat)(p':Qc)(n' c':Nat)(q':Qc)(m' cq':Nat)(b:Bool)(hb:b=true↔h=k):
 FnP Tryz.prog 27 #[hdV h p n c q m cq,hdV k p' n' c' q' m' cq'] (fun w=>qG w h p n q m/\qG w k p' n' q' m') (.bool b):=by
 have no:h≠k->b=false:=fun hne=>RE.2 fun e=>hne (hb.1 e);refine zR [.tmp 4] 120 Tryz.func27 fun w hP=>?_;obtain⟨hP,hP'⟩:=hP;have hn:=hP.1.1;have hm:=hP.2.1;have hn':=hP'.1.1;have hm':=hP'.2.1;have hvl:=oh.vl;have hsl:=oh.sl;have hvl':=ok.vl;have hsl':=ok.sl;have H0:=St.start w;refine rS [.b,.b,.v] H0 kr fun gs1 w1 H1=>za kr ?_;by_cases e_pa:h.pa=k.pa
 case neg=>
  refine rS [.v,.l 0,.v,.l 1,itO h.pa k.pa e_pa,.v,.n,.n,.n,.n,.n,.v,.v,.n,.n,.n,.n,.n,.v,.v,.n,.n,.n,.n,.n,.v,.v,.n,.n,.n,.n,.n,.v,.v,.n,.n,.n,.n,.n,.v,.v,.n,.n,.n,.n,.n,.v,.v,.n,.n,.n,.n,.n,.v,.v,.n,.n,.n,.n,.n,.v] H1 kr fun gs2 w2 H2=>zJ<|rS [.v] H2 kr fun gs5 w5 H5=>?_;exact rRe [.tmp 4] [] (v:=.bool false) (v':=.bool b) H5 (zc ((no fun e=>e_pa (by rw[e])).symm)) kr
 by_cases e_hh:h.hh=k.hh
 case neg=>
  refine rS [.v,.l 0,.v,.l 1,itE h.pa k.pa e_pa,.v,.v,.l 0,.v,.l 1,.E (.bool (((h.hh:Nat):Int)!=((k.hh:Nat):Int))) (.bool true) (zc (bne_iff_ne.2 (by omega))),.v,.v,.n,.n,.n,.n,.n,.v,.v,.n,.n,.n,.n,.n,.v,.v,.n,.n,.n,.n,.n,.v,.v,.n,.n,.n,.n,.n,.v,.v,.n,.n,.n,.n,.n,.v,.v,.n,.n,.n,.n,.n,.v,.v,.n,.n,.n,.n,.n,.v] H1 kr fun gs2 w2 H2=>zJ<|rS [.v] H2 kr fun gs5 w5 H5=>?_;exact rRe [.tmp 4] [] (v:=.bool false) (v':=.bool b) H5 (zc ((no fun e=>e_hh (by rw[e])).symm)) kr
 by_cases e_ro:h.ro=k.ro
 case neg=>
  refine rS [.v,.l 0,.v,.l 1,itE h.pa k.pa e_pa,.v,.v,.l 0,.v,.l 1,.E (.bool (((h.hh:Nat):Int)!=((k.hh:Nat):Int))) (.bool false) (zc (by rw[e_hh];exact bne_self_eq_false' _)),.v,.v,.v,.l 0,.v,.l 1,itO h.ro k.ro e_ro,.v,.v,.n,.n,.n,.n,.n,.v,.v,.n,.n,.n,.n,.n,.v,.v,.n,.n,.n,.n,.n,.v,.v,.n,.n,.n,.n,.n,.v,.v,.n,.n,.n,.n,.n,.v,.v,.n,.n,.n,.n,.n,.v] H1 kr fun gs2 w2 H2=>zJ<|rS [.v] H2 kr fun gs5 w5 H5=>?_;exact rRe [.tmp 4] [] (v:=.bool false) (v':=.bool b) H5 (zc ((no fun e=>e_ro (by rw[e])).symm)) kr
 by_cases e_tx:h.tx=k.tx
 case neg=>
  refine rS [.v,.l 0,.v,.l 1,itE h.pa k.pa e_pa,.v,.v,.l 0,.v,.l 1,.E (.bool (((h.hh:Nat):Int)!=((k.hh:Nat):Int))) (.bool false) (zc (by rw[e_hh];exact bne_self_eq_false' _)),.v,.v,.v,.l 0,.v,.l 1,itE h.ro k.ro e_ro,.v,.v,.v,.l 0,.v,.l 1,itO h.tx k.tx e_tx,.v,.v,.n,.n,.n,.n,.n,.v,.v,.n,.n,.n,.n,.n,.v,.v,.n,.n,.n,.n,.n,.v,.v,.n,.n,.n,.n,.n,.v,.v,.n,.n,.n,.n,.n,.v] H1 kr fun gs2 w2 H2=>zJ<|rS [.v] H2 kr fun gs5 w5 H5=>?_;exact rRe [.tmp 4] [] (v:=.bool false) (v':=.bool b) H5 (zc ((no fun e=>e_tx (by rw[e])).symm)) kr
 by_cases e_pr:h.pr=k.pr
 case neg=>
  refine rS [.v,.l 0,.v,.l 1,itE h.pa k.pa e_pa,.v,.v,.l 0,.v,.l 1,.E (.bool (((h.hh:Nat):Int)!=((k.hh:Nat):Int))) (.bool false) (zc (by rw[e_hh];exact bne_self_eq_false' _)),.v,.v,.v,.l 0,.v,.l 1,itE h.ro k.ro e_ro,.v,.v,.v,.l 0,.v,.l 1,itE h.tx k.tx e_tx,.v,.v,.v,.l 0,.v,.l 1,itO h.pr k.pr e_pr,.v,.v,.n,.n,.n,.n,.n,.v,.v,.n,.n,.n,.n,.n,.v,.v,.n,.n,.n,.n,.n,.v,.v,.n,.n,.n,.n,.n,.v] H1 kr fun gs2 w2 H2=>zJ<|rS [.v] H2 kr fun gs5 w5 H5=>?_;exact rRe [.tmp 4] [] (v:=.bool false) (v':=.bool b) H5 (zc ((no fun e=>e_pr (by rw[e])).symm)) kr
 by_cases e_va:h.va=k.va
 case neg=>
  refine rS [.v,.l 0,.v,.l 1,itE h.pa k.pa e_pa,.v,.v,.l 0,.v,.l 1,.E (.bool (((h.hh:Nat):Int)!=((k.hh:Nat):Int))) (.bool false) (zc (by rw[e_hh];exact bne_self_eq_false' _)),.v,.v,.v,.l 0,.v,.l 1,itE h.ro k.ro e_ro,.v,.v,.v,.l 0,.v,.l 1,itE h.tx k.tx e_tx,.v,.v,.v,.l 0,.v,.l 1,itE h.pr k.pr e_pr,.v,.v,.v,.l 0,.v,.l 1,itO h.va k.va e_va,.v,.v,.n,.n,.n,.n,.n,.v,.v,.n,.n,.n,.n,.n,.v,.v,.n,.n,.n,.n,.n,.v] H1 kr fun gs2 w2 H2=>zJ<|rS [.v] H2 kr fun gs5 w5 H5=>?_;exact rRe [.tmp 4] [] (v:=.bool false) (v':=.bool b) H5 (zc ((no fun e=>e_va (by rw[e])).symm)) kr
 by_cases e_vo:h.vo=k.vo
 case neg=>
  refine rS [.v,.l 0,.v,.l 1,itE h.pa k.pa e_pa,.v,.v,.l 0,.v,.l 1,.E (.bool (((h.hh:Nat):Int)!=((k.hh:Nat):Int))) (.bool false) (zc (by rw[e_hh];exact bne_self_eq_false' _)),.v,.v,.v,.l 0,.v,.l 1,itE h.ro k.ro e_ro,.v,.v,.v,.l 0,.v,.l 1,itE h.tx k.tx e_tx,.v,.v,.v,.l 0,.v,.l 1,itE h.pr k.pr e_pr,.v,.v,.v,.l 0,.v,.l 1,itE h.va k.va e_va,.v,.v,.v,.l 0,.v,.l 1,itO h.vo k.vo e_vo,.v,.v,.n,.n,.n,.n,.n,.v,.v,.n,.n,.n,.n,.n,.v] H1 kr fun gs2 w2 H2=>zJ<|rS [.v] H2 kr fun gs5 w5 H5=>?_;exact rRe [.tmp 4] [] (v:=.bool false) (v':=.bool b) H5 (zc ((no fun e=>e_vo (by rw[e])).symm)) kr
 by_cases e_ad:h.ad=k.ad
 case neg=>
  refine rS [.v,.l 0,.v,.l 1,itE h.pa k.pa e_pa,.v,.v,.l 0,.v,.l 1,.E (.bool (((h.hh:Nat):Int)!=((k.hh:Nat):Int))) (.bool false) (zc (by rw[e_hh];exact bne_self_eq_false' _)),.v,.v,.v,.l 0,.v,.l 1,itE h.ro k.ro e_ro,.v,.v,.v,.l 0,.v,.l 1,itE h.tx k.tx e_tx,.v,.v,.v,.l 0,.v,.l 1,itE h.pr k.pr e_pr,.v,.v,.v,.l 0,.v,.l 1,itE h.va k.va e_va,.v,.v,.v,.l 0,.v,.l 1,itE h.vo k.vo e_vo,.v,.v,.v,.l 0,.v,.l 1,.E (.bool (h.ad !=k.ad)) (.bool true) (zc (bne_iff_ne.2 e_ad)),.v,.v,.n,.n,.n,.n,.n,.v] H1 kr fun gs2 w2 H2=>zJ<|rS [.v] H2 kr fun gs5 w5 H5=>?_;exact rRe [.tmp 4] [] (v:=.bool false) (v':=.bool b) H5 (zc ((no fun e=>e_ad (by rw[e])).symm)) kr
 by_cases e_rd:h.rd=k.rd
 case neg=>
  refine rS [.v,.l 0,.v,.l 1,itE h.pa k.pa e_pa,.v,.v,.l 0,.v,.l 1,.E (.bool (((h.hh:Nat):Int)!=((k.hh:Nat):Int))) (.bool false) (zc (by rw[e_hh];exact bne_self_eq_false' _)),.v,.v,.v,.l 0,.v,.l 1,itE h.ro k.ro e_ro,.v,.v,.v,.l 0,.v,.l 1,itE h.tx k.tx e_tx,.v,.v,.v,.l 0,.v,.l 1,itE h.pr k.pr e_pr,.v,.v,.v,.l 0,.v,.l 1,itE h.va k.va e_va,.v,.v,.v,.l 0,.v,.l 1,itE h.vo k.vo e_vo,.v,.v,.v,.l 0,.v,.l 1,.E (.bool (h.ad !=k.ad)) (.bool false) (zc (by rw[e_ad];exact bne_self_eq_false' _)),.v,.v,.v,.l 0,.v,.l 1,.E (.bool (((h.rd:Nat):Int)!=((k.rd:Nat):Int))) (.bool true) (zc (bne_iff_ne.2 (by omega))),.v] H1 kr fun gs2 w2 H2=>zJ<|rS [.v] H2 kr fun gs5 w5 H5=>?_;exact rRe [.tmp 4] [] (v:=.bool false) (v':=.bool b) H5 (zc ((no fun e=>e_rd (by rw[e])).symm)) kr
 refine rS [.v,.l 0,.v,.l 1,itE h.pa k.pa e_pa,.v,.v,.l 0,.v,.l 1,.E (.bool (((h.hh:Nat):Int)!=((k.hh:Nat):Int))) (.bool false) (zc (by rw[e_hh];exact bne_self_eq_false' _)),.v,.v,.v,.l 0,.v,.l 1,itE h.ro k.ro e_ro,.v,.v,.v,.l 0,.v,.l 1,itE h.tx k.tx e_tx,.v,.v,.v,.l 0,.v,.l 1,itE h.pr k.pr e_pr,.v,.v,.v,.l 0,.v,.l 1,itE h.va k.va e_va,.v,.v,.v,.l 0,.v,.l 1,itE h.vo k.vo e_vo,.v,.v,.v,.l 0,.v,.l 1,.E (.bool (h.ad !=k.ad)) (.bool false) (zc (by rw[e_ad];exact bne_self_eq_false' _)),.v,.v,.v,.l 0,.v,.l 1,.E (.bool (((h.rd:Nat):Int)!=((k.rd:Nat):Int))) (.bool false) (zc (by rw[e_rd];exact bne_self_eq_false' _)),.v] H1 kr fun gs2 w2 H2=>yh<|wW ?_;clear H0 H1;refine za kr ?_;by_cases en:n=n'
 case neg=>
  refine rS [.v,.l 0,.v,.v,.l 1,.v,.E (.bool ((n:Int)!=(n':Int))) (.bool true) (zc (bne_iff_ne.2 (by omega))),.v,.n,.n,.n,.n,.n,.n,.n,.v] H2 kr fun gs3 w3 H3=>zJ<|rS [.v] H3 kr fun gs5 w5 H5=>?_;exact rRe [.tmp 4] [] (v:=.bool false) (v':=.bool b) H5 (zc ((no fun e=>en (by rw[hn,hn',e])).symm)) kr
 by_cases em_:m=m'
 case neg=>
  refine rS [.v,.l 0,.v,.v,.l 1,.v,.E (.bool ((n:Int)!=(n':Int))) (.bool false) (zc (by rw[en];exact bne_self_eq_false' _)),.v,.v,.l 0,.v,.v,.l 1,.v,.E (.bool ((m:Int)!=(m':Int))) (.bool true) (zc (bne_iff_ne.2 (by omega))),.v] H2 kr fun gs3 w3 H3=>zJ<|rS [.v] H3 kr fun gs5 w5 H5=>?_;exact rRe [.tmp 4] [] (v:=.bool false) (v':=.bool b) H5 (zc ((no fun e=>em_ (by rw[hm,hm',e])).symm)) kr
 subst en em_;refine rS [.v,.l 0,.v,.v,.l 1,.v,.E (.bool ((n:Int)!=(n:Int))) (.bool false) (zc (bne_self_eq_false' _)),.v,.v,.l 0,.v,.v,.l 1,.v,.E (.bool ((m:Int)!=(m:Int))) (.bool false) (zc (bne_self_eq_false' _)),.v] H2 kr fun gs3 w3 H3=>yh<|wW<|za kr<|rS [.v,.l 0,.v,.v] H3 kr fun gs4 w4 H4=>yR 87 86 88 101 0 1 n (by omega) (fun i ρ ww=>h.vs.take i=k.vs.take i/\St w.heap.size w ww [((gs1 0).b,hdO h p n c q m cq),((gs1 1).b,hdO k p' n c' q' m cq')]/\Is [(2,Qe (gs1 0).b),(3,Qe (gs1 1).b),(86,iN n),(87,iN i)] ρ) (by rintro i _ ww ⟨_,_,_,rfl⟩;exact⟨kr,kr⟩) ⟨rfl,H4.as kr,isK⟩ ?_ ?_
 ·clear H2 H3 H4;rintro i _ w5 hi ⟨htk,H5,_,rfl⟩;obtain⟨x,hx⟩:∃x,h.vs[i]? =some x:=⟨_,Qr (by omega)⟩
  obtain⟨y,hy⟩:∃y,k.vs[i]? =some y:=⟨_,Qr (by omega)⟩
  obtain⟨bl,off,C,T,fz,hp,hh,hR⟩:=hP.1.row2 (by omega);obtain⟨bl2,off2,C2,T2,fz2,hp2,hh2,hR2⟩:=hP'.1.row2 (by omega);have cx:C[off+i*1]? =some (.string x):=hR.cell hx 0 (by decide);have cy:C2[off2+i*1]? =some (.string y):=hR2.cell hy 0 (by decide);refine rS [.v,.v] H5 kr fun gs5 w6 H6=>?_;by_cases exy:x=y
  ·refine dS [.v,.l 0,.v,itX 91 92 23 9 1 16 bl off n c i hp,.fs (off:=off+i*1) (v:=.string x) hh (zo hh) cx,.v,.l 1,.v,itX 96 97 23 9 1 16 bl2 off2 n c' i hp2,.fs (off:=off2+i*1) (v:=.string y) hh2 (zo hh2) cy,itE x y exy] H6 kr fun w7 H7=>yh ?_;exact⟨kr,by rw[yZ hx,yZ hy,htk,exy],H7.as kr,isK⟩
  ·refine dS [.v,.l 0,.v,itX 91 92 23 9 1 16 bl off n c i hp,.fs (off:=off+i*1) (v:=.string x) hh (zo hh) cx,.v,.l 1,.v,itX 96 97 23 9 1 16 bl2 off2 n c' i hp2,.fs (off:=off2+i*1) (v:=.string y) hh2 (zo hh2) cy,itO x y exy] H6 kr fun w7 H7=>zJ<|rS [.v] H7 kr fun gs5 w5 H5=>?_;exact rRe [.tmp 4] [] (v:=.bool false) (v':=.bool b) H5 (zc ((no fun e=>exy (by subst e;rw[hx]at hy;exact Rr.inj hy)).symm)) kr
 ·rintro _ w5 ⟨htk,H5,_,rfl⟩;rw[Qy (by omega),Qy (by omega)]at htk;refine wW<|za kr<|rS [.v,.l 0,.v,.v] H5 kr fun gs5 w6 H6=>yR 105 104 106 119 2 3 m (by omega) (fun i ρ ww=>h.ss.take i=k.ss.take i/\St w.heap.size w ww [((gs1 0).b,hdO h p n c q m cq),((gs1 1).b,hdO k p' n c' q' m cq')]/\Is [(2,Qe (gs1 0).b),(3,Qe (gs1 1).b),(104,iN m),(105,iN i)] ρ) (by rintro i _ ww ⟨_,_,_,rfl⟩;exact⟨kr,kr⟩) ⟨rfl,H6.as kr,isK⟩ ?_ ?_
  ·clear H2 H3 H4 H5 H6;rintro i _ w5 hi ⟨htk2,H5,_,rfl⟩;obtain⟨x,hx⟩:∃x,h.ss[i]? =some x:=⟨_,Qr (by omega)⟩
   obtain⟨y,hy⟩:∃y,k.ss[i]? =some y:=⟨_,Qr (by omega)⟩
   obtain⟨bl,off,C,T,fz,hp,hh,hR⟩:=hP.2.row2 (by omega);obtain⟨bl2,off2,C2,T2,fz2,hp2,hh2,hR2⟩:=hP'.2.row2 (by omega);have hxo:=oh.ss x (QF hx);have hyo:=ok.ss y (QF hy);refine rS [.v,.v] H5 kr fun gs5 w6 H6=>?_;have hcmp:(decide (x.1=y.1)&&(decide (x.2.1=y.2.1)&&(x.2.2==y.2.2)))=true↔x=y:=by
    obtain⟨a,b',c2⟩:=x;obtain⟨a2,b2,c3⟩:=y;simp
   generalize hg:(decide (x.1=y.1)&&(decide (x.2.1=y.2.1)&&(x.2.2==y.2.2)))=g at hcmp;have hit:=fun (v:Bool) (hv:(!g)=v) (ρ:Env) (o:Oper) (w:World) (ho:o.op=.binOp .neq 52 (.tmp 112) (.tmp 117) 52) (hi:Ins (ev ρ) [((.tmp 112),.agg (sgC x)),((.tmp 117),.agg (sgC y))])=>(zeg x.1 x.2.1 x.2.2 y.1 y.2.1 y.2.2 hxo.1 hxo.2 hyo.1 hyo.2 w ho hi.1 hi.2.1).trans (by rw[hg,hv]);cases g with
   | true=>
    have exy:=hcmp.1 rfl;refine dS [.v,.l 0,.v,itX 109 110 24 52 9 72 bl off m cq i hp,.fp (off:=off+i*9) (n:=9) (W:=sgC x) hh (zo hh) (hR _ _ hx).1 (hR _ _ hx).2,.v,.l 1,.v,itX 114 115 24 52 9 72 bl2 off2 m cq' i hp2,.fp (off:=off2+i*9) (n:=9) (W:=sgC y) hh2 (zo hh2) (hR2 _ _ hy).1 (hR2 _ _ hy).2,.o (hit false rfl)] H6 kr fun w7 H7=>yh ?_;exact⟨kr,by rw[yZ hx,yZ hy,htk2,exy],H7.as kr,isK⟩
   | false=>
    refine dS [.v,.l 0,.v,itX 109 110 24 52 9 72 bl off m cq i hp,.fp (off:=off+i*9) (n:=9) (W:=sgC x) hh (zo hh) (hR _ _ hx).1 (hR _ _ hx).2,.v,.l 1,.v,itX 114 115 24 52 9 72 bl2 off2 m cq' i hp2,.fp (off:=off2+i*9) (n:=9) (W:=sgC y) hh2 (zo hh2) (hR2 _ _ hy).1 (hR2 _ _ hy).2,.o (hit true rfl)] H6 kr fun w7 H7=>zJ<|rS [.v] H7 kr fun gs5 w5 H5=>?_;exact rRe [.tmp 4] [] (v:=.bool false) (v':=.bool b) H5 (zc ((no fun e=>absurd (hcmp.2 (by subst e;rw[hx]at hy;exact Rr.inj hy)) (by decide)).symm)) kr
  ·rintro _ w7 ⟨htk2,H7,_,rfl⟩;rw[Qy (by omega),Qy (by omega)]at htk2;refine wW<|rS [.v] H7 kr fun gs8 w8 H8=>?_;exact rRe [.tmp 4] [] (v:=.bool true) (v':=.bool b) H8 (zc (hb.2 (zen e_pa e_hh e_ro e_tx e_pr e_va htk e_vo e_ad e_rd htk2)).symm) kr
theorem ziI {α:Type}{S:Fl α}{P:Program}{ρ:Env}{w w0:World}{B:Nat}{l:Qb}(HS:St B w0 w l){t e bytes:Nat}{s x:Operand}{o:Oper}{j b n cap m c:Nat}{p:Qc}{cur:Qd}{xs:List Value}{M:List α}(ht:yp P t=some (e,S.K,bytes))(ho:o.op=ym t s x)
 (hs:ev ρ s=Qf b n cap) (hj:l[j]? =some (b,.cells cur e)) (hr:Rw S.K cur cap n xs) (hx:ev ρ x=.slice p m c) (hA:AtF S w p m M) (hp:qL p m c)
 (hb:(n+m)*bytes<=0x800000000000) (hm:n+m<=maxLen):∃b' cap' cur' w',(execOp (ev ρ) o).run P w=.ok (.value (Qf b' (n+m) cap')) w'/\St B w0 w' (l.set j (b',.cells cur' e))/\Rw S.K cur' cap' (n+m) (xs++cellsF S M):=by
 rcases hp with⟨rfl,rfl,rfl⟩|⟨⟨a,rfl⟩,_⟩
 ·obtain⟨it,z,hu,hi,hz,hsz,hby,hzs,hz0⟩:=qi ht;obtain rfl:M=[]:=List.length_eq_zero_iff.1 hA.1.symm;have hrun:=run_append_nothing (P:=P) w t t o.type e it hu hi (Qg b) n cap hr.le (.slice none 0 0) ⟨.inl ⟨e,hu⟩,fun w'=>by simp[Builtin.lenOf],by simp[Builtin.firstCells],by simp[Builtin.firstCells],by simp,(fun _ h=>by cases h)⟩;refine⟨b,cap,cur,w,?_,?_,?_⟩
  ·unfold execOp;simp only[ho,ym,resolve,invoke,builtin,Q7,Up,QJ,List.map_toArray,Q8,List.map_nil,hs,hx,hrun,RL]
  ·obtain⟨hlt,he⟩:=QT.1 hj;rw[<-he,List.set_getElem_self];exact HS
  ·simpa [cellsF] using hr
 ·refine zfU (S:=S) HS ht ho hs hj hr hx hA.1 ?_ hb hm;rcases hA.2 with h | ⟨bx,off,C,T,fz,e1,h2,h3⟩
  ·exact .inl h
  ·exact .inr ⟨bx,off,C,T,fz,Rr.inj e1,h2,h3⟩
theorem zpB {α:Type}{S:Fl α}{P:Program}{N:Nat}{ops:Array Oper}{K:Env->World->Prop}{ρ:Env}{w w0:World}{i B:Nat}{r:List Nat}{l:Qb}(HS:St B w0 w l)(d:Option Nat)(t e bytes:Nat)(s x:Operand)(j b n cap m c:Nat)(p:Qc)(cur:Qd)(xs:List Value)(M:List α)(h:opk ops i ρ=some (d,true,ym t s x))(hd:dOK d N=true)(ht:yp P t=some (e,S.K,bytes))
 (hs:ev ρ s=Qf b n cap) (hj:l[j]? =some (b,.cells cur e)) (hr:Rw S.K cur cap n xs) (hx:ev ρ x=.slice p m c) (hA:AtF S w p m M) (hp:qL p m c)
 (hb:(n+m)*bytes<=0x800000000000) (hm:n+m<=maxLen)
 (kk: ∀b' cap' cur' w',St B w0 w' (l.set j (b',.cells cur' e))->Rw S.K cur' cap' (n+m) (xs++cellsF S M)->WPs P N ops K r (zr ρ d (Qf b' (n+m) cap')) w'):WPs P N ops K (i::r) ρ w:=by
 obtain⟨o,ho,rfl,hw,hop⟩:=zM h;obtain⟨b',cap',cur',w',hrun,HS',hr'⟩:=ziI (S:=S) HS ht hop hs hj hr hx hA hp hb hm;refine WPo.run ho hw fun a ha=>?_;rw[hrun,Oper.upon_value];exact⟨_,ha.put _ (zZ hd) _,kk b' cap' cur' w' HS' hr'⟩
theorem zpC {α:Type}{M:List α}{i:Nat}{x:α}(h:M[i]? =some x):M=M.take i++x::M.drop (i+1)/\(M.take i).length=i:=by
 obtain⟨hi,rfl⟩:=QT.1 h;exact⟨by rw[List.getElem_cons_drop,List.take_append_drop],by rw[Rb];omega⟩
theorem Rw.setF {α:Type}{S:Fl α}{cur:Qd}{cap n i:Nat}{M:List α}{x y:α}(h:Rw S.K cur cap n (cellsF S M))(hM:M[i]? =some x)(j:Nat)(v:Value)(hj:j+v.cells.size<=S.K)(hx:(S.cs x).take j++v.cells.toList++(S.cs x).drop (j+v.cells.size)=S.cs y):
 0+i*S.K+j+v.cells.size<=cur.size/\Rw S.K (Go.Proofs.YtcjejfklpegobaaGreatDoor.putA cur (0+i*S.K+j) v) cap n (cellsF S (M.set i y)):=by
 have hl:M.length=n:=h.lenF;have hi:=(QT.1 hM).1;obtain⟨e1,e2⟩:=zpC hM;have hlt:(i+1)*S.K<=n*S.K:=Nat.mul_le_mul_right _ (by omega);rw[Ur]at hlt;have hp:=h.putA (0+i*S.K+j) v (by omega);refine⟨hp.1,?_⟩;have hc:(cellsF S (M.take i)).length=i*S.K:=by rw[xv,e2]
 have hxl:=S.len x;have eM:cellsF S M=cellsF S (M.take i)++(S.cs x++cellsF S (M.drop (i+1))):=by
  conv=>lhs;rw[e1]
  rw[zaq];rfl
 have eS:cellsF S (M.set i y)=cellsF S (M.take i)++(S.cs y++cellsF S (M.drop (i+1))):=by
  rw[List.set_eq_take_append_cons_drop,if_pos hi,zaq];rfl
 have q:=hp.2;rw[eM]at q;rw[eS,<-hx];have t1:(cellsF S (M.take i)++(S.cs x++cellsF S (M.drop (i+1)))).take (0+i*S.K+j)=cellsF S (M.take i)++(S.cs x).take j:=by
  rw[List.take_append,hc,show 0+i*S.K+j-i*S.K=j by omega,Qy (by rw[hc];omega),List.take_append_of_le_length (by omega)]
 have t2:(cellsF S (M.take i)++(S.cs x++cellsF S (M.drop (i+1)))).drop (0+i*S.K+j+v.cells.size)=(S.cs x).drop (j+v.cells.size)++cellsF S (M.drop (i+1)):=by
  rw[List.drop_append,hc,show 0+i*S.K+j+v.cells.size-i*S.K=j+v.cells.size by omega,UE (by rw[hc];omega),RS,List.drop_append_of_le_length (by omega)]
 rw[t1,t2]at q;rw[show cellsF S (M.take i)++((S.cs x).take j++v.cells.toList++(S.cs x).drop (j+v.cells.size)++cellsF S (M.drop (i+1)))=cellsF S (M.take i)++(S.cs x).take j++v.cells.toList++((S.cs x).drop (j+v.cells.size)++cellsF S (M.drop (i+1))) by simp only[QD]];exact q
section
open D2 (Gh)
def yM (x:Qa):Qa:=x.extract 0 (min x.size 50)
theorem zpD (x:Qa):(yM x).size<=50:=by unfold yM;rw[Uq];omega
def zpE (h:Hdr):Hdr:=⟨yM h.pa,h.hh,yM h.ro,yM h.tx,yM h.pr,yM h.va,h.vs,yM h.vo,h.ad,h.rd,h.ss⟩
def xS (h:Hdr):Hdr:=⟨yM h.pa,h.hh,yM h.ro,yM h.tx,yM h.pr,yM h.va,(h.vs.take 20).map yM,yM h.vo,h.ad,h.rd,h.ss.take 20⟩
theorem zpF {h:Hdr}(h1:h.hh<0x10000000000000000)(h2:h.rd<0x10000000000000000)(h3: ∀x∈h.ss,sgOk x):yj (xS h):=by
 have z:=zpD;have le: ∀x,(yM x).size<=1000000:=fun x=>by have:=z x;omega
 exact⟨h1,h2,le _,le _,le _,le _,le _,le _,(fun x hx=>by obtain⟨y,_,rfl⟩:=Rk.1 hx;exact le _),by show ((h.vs.take 20).map yM).length<=_;rw[Ra,Rb];omega,fun x hx=>h3 x (List.mem_of_mem_take hx),by show (h.ss.take 20).length<=_;rw[Rb];omega⟩
theorem zeC {α:Type}{L:List α}{n z:Nat}(h:n=L.length):L.take (min n z)=L.take z:=by
 subst h;by_cases hl:L.length<=z
 ·rw[Nat.min_eq_left hl,Qy (QH _),Qy hl]
 ·rw[Nat.min_eq_right (by omega)]
theorem ziJ {α:Type}{g:α->α}{M:List α}{i:Nat}{x:α}(h:M[i]? =some x):((M.take i).map g++M.drop i)[i]? =some x/\((M.take i).map g++M.drop i).set i (g x)=(M.take (i+1)).map g++M.drop (i+1):=by
 have hi:=(QT.1 h).1;have hl:((M.take i).map g).length=i:=by rw[Ra,Rb];omega
 constructor
 ·rw[List.getElem?_append_right (by omega),hl,V7,zcw h];rfl
 ·rw[List.set_append_right (h:=by omega),hl,V7,zcw h,yZ h,List.map_append,QD];rfl
end
theorem zpG (p:Qc)(n c:Nat)(A:List Txn)(p':Qc)(n' c':Nat)(B:List Txn)(b:Bool)(hb:b=true↔A=B)(hA:A.length<=1000000)(oA: ∀x∈A,yS x)(oB: ∀x∈B,yS x):FnP Tryz.prog 28 #[.slice p n c,.slice p' n' c'] (fun w=>AtF tnS w p n A/\AtF tnS w p' n' B) (.bool b):=by
 have no:A≠B->b=false:=fun hne=>RE.2 fun e=>hne (hb.1 e);refine zR [.tmp 4] 26 Tryz.func28 fun w hP=>?_;obtain⟨hP,hP'⟩:=hP;have hn:=hP.1;have hn':=hP'.1;refine rS [.v] (St.start w) kr fun gs1 w1 H1=>za kr ?_;by_cases en:n=n'
 case neg=>
  refine rS [.v,.v,.v,.v,.E (.bool ((n:Int)!=(n':Int))) (.bool true) (zc (bne_iff_ne.2 (by omega)))] H1 kr fun gs3 w3 H3=>zJ<|rS [.v] H3 kr fun gs8 w8 H8=>?_;exact rRe [.tmp 4] [] (v:=.bool false) (v':=.bool b) H8 (zc (no fun e=>en (by rw[hn,hn',e])).symm) kr
 subst en;refine rS [.v,.v,.v,.v,.E (.bool ((n:Int)!=(n:Int))) (.bool false) (zc (bne_self_eq_false' _))] H1 kr fun gs3 w3 H3=>yh<|wW<|za kr<|rS [.v,.v,.v] H3 kr fun gs4 w4 H4=>yR 13 12 14 25 0 1 n (by omega) (fun i ρ ww=>A.take i=B.take i/\St w.heap.size w ww []/\Is [(0,.slice p n c),(1,.slice p' n c'),(12,iN n),(13,iN i)] ρ) (by rintro i _ ww ⟨_,_,_,rfl⟩;exact⟨kr,kr⟩) ⟨rfl,H4.as kr,isK⟩ ?_ ?_
 ·clear H4;rintro i _ w5 hi ⟨htk,H5,_,rfl⟩;obtain⟨x,hx⟩:∃x,A[i]? =some x:=⟨_,Qr (by omega)⟩
  obtain⟨y,hy⟩:∃y,B[i]? =some y:=⟨_,Qr (by omega)⟩
  obtain⟨bl,off,C,T,fz,hp,hh,hR⟩:=hP.row2 (by omega);obtain⟨bl2,off2,C2,T2,fz2,hp2,hh2,hR2⟩:=hP'.row2 (by omega);refine rS [.v,.v] H5 kr fun gs5 w6 H6=>?_;have hit:=fun (v:Bool) (hv:(!decide (x=y))=v) (ρ:Env) (o:Oper) (w:World) (ho:o.op=.binOp .neq 54 (.tmp 19) (.tmp 23) 54) (hi:Ins (ev ρ) [((.tmp 19),tnV x),((.tmp 23),tnV y)])=>(zpz x y (oA x (QF hx)) (oB y (QF hy)) w ho hi.1 hi.2.1).trans (by rw[hv]);by_cases exy:x=y
  ·refine dS [.v,.v,itX 16 17 27 54 12 104 bl off n c i hp,.fp (off:=off+i*12) (n:=12) (W:=tnC x) hh (zo hh) (hR _ _ hx).1 (hR _ _ hx).2,.v,.v,itX 20 21 27 54 12 104 bl2 off2 n c' i hp2,.fp (off:=off2+i*12) (n:=12) (W:=tnC y) hh2 (zo hh2) (hR2 _ _ hy).1 (hR2 _ _ hy).2,.o (hit false (by rw[decide_eq_true exy];rfl))] H6 kr fun w7 H7=>yh ?_;exact⟨kr,by rw[yZ hx,yZ hy,htk,exy],H7.as kr,isK⟩
  ·refine dS [.v,.v,itX 16 17 27 54 12 104 bl off n c i hp,.fp (off:=off+i*12) (n:=12) (W:=tnC x) hh (zo hh) (hR _ _ hx).1 (hR _ _ hx).2,.v,.v,itX 20 21 27 54 12 104 bl2 off2 n c' i hp2,.fp (off:=off2+i*12) (n:=12) (W:=tnC y) hh2 (zo hh2) (hR2 _ _ hy).1 (hR2 _ _ hy).2,.o (hit true (by rw[decide_eq_false exy];rfl))] H6 kr fun w7 H7=>zJ<|rS [.v] H7 kr fun gs8 w8 H8=>?_;exact rRe [.tmp 4] [] (v:=.bool false) (v':=.bool b) H8 (zc (no fun e=>exy (by rw[e,hy]at hx;exact(Rr.inj hx).symm)).symm) kr
 ·clear H4;rintro _ w5 ⟨htk,H5,_,rfl⟩;rw[Qy (by omega),Qy (by omega)]at htk;refine wW<|rS [.v] H5 kr fun gs8 w8 H8=>?_;exact rRe [.tmp 4] [] (v:=.bool true) (v':=.bool b) H8 (zc (hb.2 htk).symm) kr
abbrev bkC (h:Hdr)(p:Qc)(n c:Nat)(q:Qc)(m k:Nat)(t:Qc)(z d:Nat):Qd:=#[.string h.pa,.int .u64 ((h.hh:Nat):Int),.string h.ro,.string h.tx,.string h.pr,.string h.va,.slice p n c,.string h.vo,.bool h.ad,.int .u64 ((h.rd:Nat):Int),.slice q m k,.slice t z d]
abbrev bkV (h:Hdr)(p:Qc)(n c:Nat)(q:Qc)(m k:Nat)(t:Qc)(z d:Nat):Value:=.agg (bkC h p n c q m k t z d)
def qH (w:World)(h:Hdr)(l:List Txn)(p:Qc)(n:Nat)(q:Qc)(m:Nat)(t:Qc)(z:Nat):Prop:=qG w h p n q m/\AtF tnS w t z l
theorem zpH (h:Hdr)(l:List Txn)(h':Hdr)(l':List Txn)(oh:yj h)(oh':yj h')(hl:l.length<=1000000)(ol: ∀x∈l,yS x)(ol': ∀x∈l',yS x)(p:Qc)(n c:Nat)(q:Qc)(m k:Nat)(t:Qc)(z d:Nat)(p':Qc)(n' c':Nat)(q':Qc)(m' k':Nat)(t':Qc)(z' d':Nat)(b:Bool)(hb:b=true↔h=h'/\l=l'):
 FnP Tryz.prog 9 #[bkV h p n c q m k t z d,bkV h' p' n' c' q' m' k' t' z' d'] (fun w=>qH w h l p n q m t z/\qH w h' l' p' n' q' m' t' z') (.bool b):=by
 refine zR [.tmp 4] 17 Tryz.func9 fun w hP=>?_;obtain⟨⟨hH,hT⟩,hH',hT'⟩:=hP;refine rS [.b,.b,.v] (St.start w) kr fun gs1 w1 H1=>?_;have lk:=fun g (hg:g=true↔h=h')=>zpA h h' oh oh' p n c q m k p' n' c' q' m' k' g hg;have sm:=fun g (hg:g=true↔l=l')=>zpG t z d l t' z' d' l' g hg hl ol ol';by_cases e1:h=h'
 ·have lk1:=lk true ⟨fun _=>e1,fun _=>rfl⟩;have sm1:=sm b (hb.trans ⟨fun q=>q.2,fun q=>⟨e1,q⟩⟩);refine rS [.v,.l 0,.v,.l 1,.cp (pre:=fun w=>qG w h p n q m/\qG w h' p' n' q' m') lk1 [] (fun w hb hd=>⟨hH.call hb,hH'.call hb⟩),.v,.v,.l 0,.v,.l 1,.cp (pre:=fun w=>AtF tnS w t z l/\AtF tnS w t' z' l') sm1 [] (fun w hb hd=>⟨hT.call hb,hT'.call hb⟩),.v,.v] H1 kr fun gs2 w2 H2=>?_;exact rR [.tmp 4] [] (.bool b) H2 kr
 ·have lk1:=lk false ⟨fun q=>absurd q Bool.false_ne_true,fun q=>absurd q e1⟩;have e9:b=false:=RE.2 fun q=>e1 (hb.1 q).1;refine rS [.v,.l 0,.v,.l 1,.cp (pre:=fun w=>qG w h p n q m/\qG w h' p' n' q' m') lk1 [] (fun w hb hd=>⟨hH.call hb,hH'.call hb⟩),.v,.n,.n,.n,.n,.n,.v,.v] H1 kr fun gs2 w2 H2=>?_;exact rRe [.tmp 4] [] (v:=.bool false) (v':=.bool b) H2 (zc e9.symm) kr
def ziK {α:Type}(S:Fl α)(T:TypeId)(M:List α)(v:Value)(l:Qb):Prop:=∃(b m k:Nat) (cur:Qd),v=Qf b m k/\l=[(b,.cells cur T)]/\Rw S.K cur k m (cellsF S M)
def pu1 (l:Bool)(s:Qa)(k:Fo):Bool:= !mixed l s k.len&&pureF k
def dq1 (l:Bool)(d:Nat):Nat:=if l then d+1 else d
def dqF:Fo->Nat
 | .nil=>0
 | .cons l s k r=>max (dq1 l (dqF k)) (dqF r)
theorem zeD: ∀k:Fo,dqF k<=k.cnt
 | .nil=>QH _
 | .cons l s k r=>by
  have h1:=zeD k;have h2:=zeD r;simp only[dqF,Fo.cnt,dq1];split<;>omega
theorem zeE: ∀ {k:Fo},pureF k=true->dqF k=dpF k
 | .nil,_=>rfl
 | .cons l s k r,h=>by
  simp only[pureF,Qu,Rf]at h;simp only[dqF,dpF];rw[zeE h.1.2,zeE h.2];congr 1;rcases jk h.1.1 with⟨rfl,_⟩ | ⟨rfl,rfl⟩
  ·unfold dq1 dp1;simp;omega
  ·rfl
theorem zcD {l:Bool}{s:Qa}{k:Fo}(hm:mixed l s k.len=false)(hp:pureF k=true):dq1 l (dqF k)=dp1 l (dpF k):=by
 rw[zeE hp];rcases jk hm with⟨rfl,_⟩ | ⟨rfl,rfl⟩
 ·unfold dq1 dp1;simp;omega
 ·rfl
theorem ziL {l:Bool}{s:Qa}{k:Fo}(h:mixed l s k.len=true):pu1 l s k=false:=by unfold pu1;rw[h];rfl
theorem zcE {l:Bool}{s:Qa}{k:Fo}(h:mixed l s k.len=false):pu1 l s k=pureF k:=by unfold pu1;rw[h];rfl
theorem zpI {l:Bool}{s:Qa}{n:Nat}(hl:l=true)(hs: ¬s=⟨#[]⟩):mixed l s n=true:=by subst hl;unfold mixed;simpa using ux hs
theorem zpJ {l:Bool}{s:Qa}{n:Nat}(hl:l=false)(hn:n≠0):mixed l s n=true:=by subst hl;unfold mixed;simpa using hn
theorem ziM {l:Bool}{s:Qa}{n:Nat}(hl:l=true)(hs:s=⟨#[]⟩):mixed l s n=false:=by subst hl hs;rfl
theorem ziN {l:Bool}{s:Qa}{n:Nat}(hl:l=false)(hn:n=0):mixed l s n=false:=by subst hl hn;rfl
theorem ziO {l:Bool}{s:Qa}{k r:Fo}(h:pu1 l s k=true):pureF (.cons l s k r)=pureF r:=by
 unfold pu1 at h;show (!mixed l s k.len&&pureF k&&pureF r)=_;rw[h,UJ]
theorem ziP {l:Bool}{s:Qa}{k r:Fo}(h:pu1 l s k=false):pureF (.cons l s k r)=false:=by
 unfold pu1 at h;show (!mixed l s k.len&&pureF k&&pureF r)=_;rw[h,Bool.false_and]
theorem zpK {l:Bool}{s:Qa}{k r:Fo}(h:pureF (.cons l s k r)=true):mixed l s k.len=false/\pureF k=true/\pureF r=true:=by
 simp only[pureF,Qu,Rf]at h;exact⟨h.1.1,h.1.2,h.2⟩
theorem zpL {f n:Nat}(h:n<56)(hf:f<=192):strOfNums [(Qj (Qw 8 (f+n)):Int)]=zg (hd f n):=by
 unfold hd;rw[if_pos (by omega)];show (⟨#[QY (Int.toNat _)]⟩:Qa)=⟨#[QY (f+n)]⟩
 rw[Int.toNat_natCast,UM,show (f+n)%2^8=f+n by omega]
theorem zpM {f n:Nat}(h: ¬n<56)(hf:f<=192):strOfNums [(Qj (Qw 8 (f+55+Ql (zg (dg n)))):Int)]++zg (dg n)=zg (hd f n):=by
 have hl:=qB n;have e:QY (Int.toNat (Qj (Qw 8 (f+55+Ql (zg (dg n)))):Int))=QY (f+55+(dg n).length):=by
  rw[Int.toNat_natCast,UM,yU,show (f+55+(dg n).length)%2^8=f+55+(dg n).length by omega]
 apply qj;rw[xr];show [QY _]++dg n=hd f n;unfold hd;rw[if_neg (by omega),e];rfl
theorem zpN {l:Bool}{s:Qa}{k:Fo}{a:Qa}(hl:l=true)(hm:mixed l s k.len=false)(hp:pureF k=true)(ha:wrF k=tl a):zg (hd 192 (Ql a))++a=zg (wr1 l s (szF k) (wrF k)):=by
 rcases jk hm with⟨_,hs⟩|⟨h,_⟩
 ·subst hl hs;have hz:szF k=Ql a:=by rw[<-yi hp,ha,zu]
  apply qj;rw[xr,qq,qq];unfold wr1;rw[if_neg (by decide),ha,hz];show _=hd 192 (0+_)++([]++tl a);rw[Q9,RS]
 ·rw[hl]at h;cases h
theorem zpO {l:Bool}{s:Qa}{k:Fo}(hl:l=false)(hm:mixed l s k.len=false)(h:s.size=1)(h2:by_ s 0<128):s=zg (wr1 l s (szF k) (wrF k)):=by
 rcases jk hm with⟨q,_⟩|⟨_,hk⟩
 ·rw[hl]at q;cases q
 ·subst hk;unfold wr1;rw[if_pos (by unfold yf;simp[h,h2])];show s=zg ([]++(tl s++ []));rw[RS,QI];exact(vO s).symm
theorem ziQ {l:Bool}{s:Qa}{k:Fo}(hl:l=false)(hm:mixed l s k.len=false)(h: ¬(s.size=1/\by_ s 0<128)):zg (hd 128 (Ql s))++s=zg (wr1 l s (szF k) (wrF k)):=by
 rcases jk hm with⟨q,_⟩|⟨_,hk⟩
 ·rw[hl]at q;cases q
 ·subst hl hk;apply qj;rw[xr,qq,qq];unfold wr1;rw[if_neg (by unfold yf;simpa using h)];show _=hd 128 (s.size+0)++(tl s++ []);rw[QI,RL]
section
variable {l:Bool}{s:Qa}{k:Fo}
theorem zcF (hc:k.cnt<4000):lf1 l s k.len (lfF k) 4000=if pu1 l s k=true then some (3999-k.cnt) else none:=by
 unfold lf1 pu1;cases hm:mixed l s k.len with
 | true=>rw[if_pos (UP rfl)];rfl
 | false=>
  rw[if_neg (by simp),kG];cases hp:pureF k with
  | true=>rw[if_pos ⟨rfl,by omega⟩,if_pos (by rfl)]
  | false=>rw[if_neg (by simp),if_neg (by simp)]
theorem zpP (h:4000<jb (1+k.cnt) 4000):zC l s k.len k=(⟨#[]⟩,1):=by
 have hc:4000<=k.cnt:=by unfold jb at h;split at h<;>omega
 have e:lf1 l s k.len (lfF k) 4000=none:=by
  unfold lf1;split
  ·rfl
  ·rw[kG,if_neg (by omega)]
 unfold zC;rw[e]
theorem zpQ (h: ¬4000<jb (1+k.cnt) 4000):k.cnt<4000:=by unfold jb at h;split at h<;>omega
theorem zpR (hc:k.cnt<4000)(h:pu1 l s k=false):zC l s k.len k=(⟨#[]⟩,1):=by
 unfold zC;rw[zcF hc,h];rfl
theorem zaS (h:pu1 l s k=true):mixed l s k.len=false/\pureF k=true:=by
 unfold pu1 at h;simp only[Qu,Rf]at h;exact h
theorem zpS (hc:k.cnt<4000)(h:pu1 l s k=true)(hd:8<dq1 l (dqF k)):zC l s k.len k=(⟨#[]⟩,5):=by
 have hp:=zaS h;rw[zcD hp.1 hp.2]at hd;unfold zC;rw[zcF hc,if_pos h];simp only[];rw[if_pos hd]
theorem zpT (hc:k.cnt<4000)(h:pu1 l s k=true)(hd: ¬8<dq1 l (dqF k))(hz:4000<Ql (zg (wr1 l s (szF k) (wrF k)))):zC l s k.len k=(⟨#[]⟩,2):=by
 have hp:=zaS h;rw[zcD hp.1 hp.2]at hd;rw[yU,qV hp.1 (yi hp.2)]at hz;unfold zC;rw[zcF hc,if_pos h];simp only[];rw[if_neg hd,if_pos hz]
theorem zpU (hc:k.cnt<4000)(h:pu1 l s k=true)(hd: ¬8<dq1 l (dqF k))(hz: ¬4000<Ql (zg (wr1 l s (szF k) (wrF k)))):zC l s k.len k=(zg (wr1 l s (szF k) (wrF k)),0):=by
 have hp:=zaS h;rw[zcD hp.1 hp.2]at hd;rw[yU,qV hp.1 (yi hp.2)]at hz;unfold zC;rw[zcF hc,if_pos h];simp only[];rw[if_neg hd,if_neg hz]
end
theorem zcG (n:Nat)(hn:n<0x10000000000000000):Fn Tryz.prog 92 #[.int .u64 (n:Int)] (.string (zg (dg n))):=by
 refine zv [.tmp 2] 16 Tryz.func92 fun w=>?_;have H0:=St.start w;refine rS [.v] H0 kr fun gs1 w1 H1=>?_;clear H0;refine rS [.v] H1 kr fun gs2 w2 H2=>?_;clear H1;refine za kr<|zm 0 kr ?_;have HL1:St w.heap.size w w2 []:=H2.as kr;clear H2;refine zO kr (fun mz ρ ww=> ∃(q:Nat) (oz:Qa),q=mz/\(q<=n)/\(dg n=dg q++tl oz)/\St w.heap.size w ww []/\Is [(0,.int .u64 (q:Int)),(2,.string (⟨#[]⟩)),(3,.string oz)] ρ) n ⟨n,(⟨#[]⟩:Qa),rfl,(QH _),(by rw[show tl ⟨#[]⟩=[] from rfl,QI]),HL1,zl⟩ ?_;clear HL1;rintro _ _ w3 ⟨q,oz,rfl,hq,hoz,H3,_,rfl⟩;refine za kr<|zd [0,1] kr kr<|rp [.v] H3 kr fun gs4 w4 H4=>wX [1] ?_;clear H3;by_cases hc2:(q:Nat)>0
 ·refine rp [itT (0<(q:Int))] H4 kr fun gs5 w5 H5=>wX [] ?_;clear H4;refine zb<|zh kr kr<|zj kr<|wW<|zm 1 kr<|rS [.v,.E (.int .u64 (Int.tmod (q:Int) 256)) (.int .u64 ((q%256:Nat):Int)) (zf (qw q 256)),.E (.int .u8 (QG.wrap (((q%256:Nat):Int)))) (.int .u8 (Qj (Qw 8 (q%256)):Int)) (vb (q%256)),.nw (fun b=>Qf b 1 1) #[.int .u8 (Qj (Qw 8 (q%256)):Int)] 5,.w fun nn=>.x (op:=.convert 95 9 (.tmp 9)) (ins:=[((.tmp 9),Qf (nn 0) 1 1)]) [(0,((nn 0),Qk #[.int .u8 (Qj (Qw 8 (q%256)):Int)] 5 (0,0)))] (xX (t:=95) (t':=9) (e:=5) [(Qj (Qw 8 (q%256)):Int)] kr kr kr (Rw.lit #[.int .u8 (Qj (Qw 8 (q%256)):Int)] 1 (by rfl) (by unfold maxLen;omega))),.v,.o (ins:=[((.tmp 10),.string (strOfNums ([(Qj (Qw 8 (q%256)):Int)]))),((.tmp 11),.string oz)]) (v:=.string ((strOfNums ([(Qj (Qw 8 (q%256)):Int)]))++oz)) (fun ρ o w ho hi=>jS (t:=9) (t':=9) (x:=(.tmp 10)) (y:=(.tmp 11)) (strOfNums ([(Qj (Qw 8 (q%256)):Int)])) oz w ho hi.1 hi.2.1 (by rw[strOfNums_size];have:=qB n;have h8:=congrArg Qo hoz;rw[Qx,zu]at h8;show 1+_<=_;omega)),.v] H5 kr fun gs6 w6 H6=>?_;clear H5;refine rL [.v,.E (.int .u64 (QA.wrap ((q:Int).tdiv 256))) (.int .u64 ((q / 256:Nat):Int)) (zf (zkf (a:=q) (b:=256) (by omega))),.v] H6 kr fun gs7 w7 H7=>?_;clear H6;have HL3:St w.heap.size w w7 [((gs6 3).b,Qk #[.int .u8 (Qj (Qw 8 (q%256)):Int)] 5 (0,0))]:=H7.as kr;clear H7;have HD4:St w.heap.size w w7 []:=HL3.sub (Qs _ QS);show ∃m,_/\_;exact⟨_,(by omega),(q / 256),(((strOfNums ([(Qj (Qw 8 (q%256)):Int)]))++oz)),rfl,(by omega),(zmy (by omega) (by omega) hoz),HD4,zl⟩
 ·refine rp [itF (0<(q:Int))] H4 kr fun gs8 w8 H8=>wX [] ?_;clear H4;refine zb<|zi kr kr<|zE 0 kr<|wW<|rS [.v,.v] H8 kr fun gs9 w9 H9=>?_;clear H8;refine zk kr<|wV ?_;refine⟨[.string oz],(.tmp (.string oz) kr .nil),?_,H9.below⟩;have hq0:q=0:=by omega
  subst hq0;exact congrArg RQ (zmz hoz).symm
theorem zeF (f m:Nat)(hf:f<=192)(hm:m<0x7fffffffffffffff):Fn Tryz.prog 64 #[.int .i64 (f:Int),.int .i64 (m:Int)] (.string (zg (hd f m))):=by
 refine zv [.tmp 4] 27 Tryz.func64 fun w=>?_;have H0:=St.start w;refine rS [.v] H0 kr fun gs1 w1 H1=>?_;clear H0;refine za kr<|zd [0,1] kr kr<|rp [.v] H1 kr fun gs2 w2 H2=>wX [1] ?_;clear H1;by_cases hc1:(m:Nat)<56
 ·refine rp [itT ((m:Int)<56)] H2 kr fun gs3 w3 H3=>wX [] ?_;clear H2;refine zb<|zh kr kr<|rS [.v,.v,.E (.int .i64 (Qz.wrap ((f:Int)+(m:Int)))) (.int .i64 ((f+m:Nat):Int)) (zf (ya (a:=f) (b:=m) (by omega))),.E (.int .u8 (QG.wrap (((f+m:Nat):Int)))) (.int .u8 (Qj (Qw 8 (f+m)):Int)) (vb (f+m)),.nw (fun b=>Qf b 1 1) #[.int .u8 (Qj (Qw 8 (f+m)):Int)] 5,.w fun nn=>.x (op:=.convert 95 9 (.tmp 12)) (ins:=[((.tmp 12),Qf (nn 0) 1 1)]) [(0,((nn 0),Qk #[.int .u8 (Qj (Qw 8 (f+m)):Int)] 5 (0,0)))] (xX (t:=95) (t':=9) (e:=5) [(Qj (Qw 8 (f+m)):Int)] kr kr kr (Rw.lit #[.int .u8 (Qj (Qw 8 (f+m)):Int)] 1 (by rfl) (by unfold maxLen;omega))),.v] H3 kr fun gs4 w4 H4=>?_;clear H3;refine zk kr<|wV ?_;refine⟨[.string (strOfNums ([(Qj (Qw 8 (f+m)):Int)]))],(.tmp (.string (strOfNums ([(Qj (Qw 8 (f+m)):Int)]))) kr .nil),?_,H4.below⟩;exact congrArg RQ (zpL (by omega) (by omega))
 ·refine rp [itF ((m:Int)<56)] H2 kr fun gs5 w5 H5=>wX [] ?_;clear H2;refine zb<|zi kr kr<|zj kr<|wW<|rS [.v,.E (.int .u64 (QA.wrap ((m:Int)))) (.int .u64 (m:Int)) (zf (yw (a:=m) (by omega))),.c (zcG m (by omega)),.v] H5 kr fun gs6 w6 H6=>?_;clear H5;have hdm:=qB m;have hdz:Ql (zg (dg m))<=8:=by rw[yU];exact hdm
  refine rS [.v,itI f 55,.v,.v,.E (.int .i64 (Qz.wrap (((f+55:Nat):Int)+(Ql (zg (dg m)):Int)))) (.int .i64 (((f+55)+(Ql (zg (dg m))):Nat):Int)) (zf (ya (a:=f+55) (b:=Ql (zg (dg m))) (by omega))),.E (.int .u8 (QG.wrap ((((f+55)+(Ql (zg (dg m))):Nat):Int)))) (.int .u8 (Qj (Qw 8 ((f+55)+(Ql (zg (dg m))))):Int)) (vb ((f+55)+(Ql (zg (dg m))))),.nw (fun b=>Qf b 1 1) #[.int .u8 (Qj (Qw 8 ((f+55)+(Ql (zg (dg m))))):Int)] 5,.w fun nn=>.x (op:=.convert 95 9 (.tmp 23)) (ins:=[((.tmp 23),Qf (nn 0) 1 1)]) [(0,((nn 0),Qk #[.int .u8 (Qj (Qw 8 ((f+55)+(Ql (zg (dg m))))):Int)] 5 (0,0)))] (xX (t:=95) (t':=9) (e:=5) [(Qj (Qw 8 ((f+55)+(Ql (zg (dg m))))):Int)] kr kr kr (Rw.lit #[.int .u8 (Qj (Qw 8 ((f+55)+(Ql (zg (dg m))))):Int)] 1 (by rfl) (by unfold maxLen;omega))),.v,.o (ins:=[((.tmp 24),.string (strOfNums ([(Qj (Qw 8 ((f+55)+(Ql (zg (dg m))))):Int)]))),((.tmp 25),.string (zg (dg m)))]) (v:=.string ((strOfNums ([(Qj (Qw 8 ((f+55)+(Ql (zg (dg m))))):Int)]))++(zg (dg m)))) (fun ρ o w ho hi=>jS (t:=9) (t':=9) (x:=(.tmp 24)) (y:=(.tmp 25)) (strOfNums ([(Qj (Qw 8 ((f+55)+(Ql (zg (dg m))))):Int)])) (zg (dg m)) w ho hi.1 hi.2.1 (by rw[strOfNums_size,yU];have:=qB m;show 1+_<=_;omega)),.v] H6 kr fun gs7 w7 H7=>?_;clear H6;refine zk kr<|wV ?_;refine⟨[.string ((strOfNums ([(Qj (Qw 8 ((f+55)+(Ql (zg (dg m))))):Int)]))++(zg (dg m)))],(.tmp (.string ((strOfNums ([(Qj (Qw 8 ((f+55)+(Ql (zg (dg m))))):Int)]))++(zg (dg m)))) kr .nil),?_,H7.below⟩;exact congrArg RQ (zpM (by omega) (by omega))
theorem zpV (m:Nat)(ih: ∀(l:Bool) (s:Qa) (p:Qc) (n c:Nat) (k:Fo),s.size<=0x800000000000->mixed l s k.len=false->pureF k=true->Ql s+wtF k<=0x4000000000000000->k.cnt<m->FnP Tryz.prog 36 #[.agg #[.bool l,.string s,.slice p n c]] (fun w=>zq w.heap.size w p n k) (.string (zg (wr1 l s (szF k) (wrF k)))))(l:Bool)(s:Qa)(p:Qc)(n c:Nat)(k:Fo)(hs:s.size<=0x800000000000)(hp1:mixed l s k.len=false)(hp2:pureF k=true)(hw:Ql s+wtF k<=0x4000000000000000)(hkm:k.cnt<m+1):FnP Tryz.prog 36 #[.agg #[.bool l,.string s,.slice p n c]] (fun w=>zq w.heap.size w p n k) (.string (zg (wr1 l s (szF k) (wrF k)))):=by
 refine zR [.tmp 2] 44 Tryz.func36 fun w hpre=>?_;have H0:=St.start w;have hn:=hpre.1;have hnm:=hpre.2.1;refine rS [.b,.v] H0 kr fun gs1 w1 H1=>?_;clear H0;refine za kr<|rS [.v,.l 0] H1 kr fun gs2 w2 H2=>?_;clear H1;rcases (Q4 (l)).symm with hq1 | hq1
 ·refine yv 7 (v:=.bool l) (v':=.bool false) (zc hq1) kr<|zi kr kr<|zj kr<|wW<|za kr<|zd [0,1,2,3,4,5,6,7,8,9] kr kr<|rp [.v,.l 0,.v] H2 kr fun gs3 w3 H3=>wX [3,4,5,6,7,8,9] ?_;clear H2;by_cases hc1:(Ql s:Nat)=1
  ·refine rp [itQ (Ql s:Int) 1,.v,.v,.l 0,itC 31 (.const (.int .i64 0)) 9 s 0] H3 kr fun gs4 w4 H4=>wX [8,9] ?_;clear H3;by_cases hc2:(by_ s 0:Nat)<128
   ·refine rp [itT (((by_ s 0:Nat):Int)<128),.v] H4 kr fun gs5 w5 H5=>wX [] ?_;clear H4;refine zb<|zh kr kr<|rS [.v,.l 0,.v] H5 kr fun gs6 w6 H6=>?_;clear H5;refine zk kr<|wV ?_;refine⟨[.string s],(.tmp (.string s) kr .nil),?_,H6.below⟩;exact congrArg RQ (zpO hq1 hp1 (by omega) (by omega))
   ·refine rp [itF (((by_ s 0:Nat):Int)<128),.v] H4 kr fun gs7 w7 H7=>wX [] ?_;clear H4;refine zb<|zi kr kr<|zj kr<|wW ?_;have hhl:=xN 128 (Ql s);have hhs:Ql (zg (hd 128 (Ql s)))<=9:=hhl.2;refine dS [.v,.l 0,.v,.c (zeF 128 (Ql s) (by omega) (by omega)),.v,.l 0,.o (ins:=[((.tmp 40),.string (zg (hd 128 (Ql s)))),((.tmp 42),.string s)]) (v:=.string ((zg (hd 128 (Ql s)))++s)) (fun ρ o w ho hi=>jS (t:=9) (t':=9) (x:=(.tmp 40)) (y:=(.tmp 42)) (zg (hd 128 (Ql s))) s w ho hi.1 hi.2.1 (by omega)),.v] H7 kr fun w8 H8=>?_;clear H7;refine zk kr<|wV ?_;refine⟨[.string ((zg (hd 128 (Ql s)))++s)],(.tmp (.string ((zg (hd 128 (Ql s)))++s)) kr .nil),?_,H8.below⟩;exact congrArg RQ (ziQ hq1 hp1 (by omega))
  ·refine rp [itD (Ql s:Int) 1,.v,.n,.n,.n,.n,.v] H3 kr fun gs9 w9 H9=>wX [] ?_;clear H3;refine zb<|zi kr kr<|zj kr<|wW ?_;have hhl:=xN 128 (Ql s);have hhs:Ql (zg (hd 128 (Ql s)))<=9:=hhl.2;refine dS [.v,.l 0,.v,.c (zeF 128 (Ql s) (by omega) (by omega)),.v,.l 0,.o (ins:=[((.tmp 40),.string (zg (hd 128 (Ql s)))),((.tmp 42),.string s)]) (v:=.string ((zg (hd 128 (Ql s)))++s)) (fun ρ o w ho hi=>jS (t:=9) (t':=9) (x:=(.tmp 40)) (y:=(.tmp 42)) (zg (hd 128 (Ql s))) s w ho hi.1 hi.2.1 (by omega)),.v] H9 kr fun w10 H10=>?_;clear H9;refine zk kr<|wV ?_;refine⟨[.string ((zg (hd 128 (Ql s)))++s)],(.tmp (.string ((zg (hd 128 (Ql s)))++s)) kr .nil),?_,H10.below⟩;exact congrArg RQ (ziQ hq1 hp1 (by omega))
 ·refine yv 7 (v:=.bool l) (v':=.bool true) (zc hq1) kr<|zh kr kr<|rS [.v] H2 kr fun gs11 w11 H11=>?_;clear H2;refine za kr<|rS [.v,.l 0,.v,.v] H11 kr fun gs12 w12 H12=>?_;clear H11;refine zm 0 kr ?_;have HL3:St w.heap.size w w12 [((gs1 0).b,Qk #[.bool l,.string s,.slice p n c] 58 (0,0))]:=H12.as kr;clear H12;have HD4:St w.heap.size w w12 []:=HL3.sub (Qs _ QS);refine zO kr (fun mz ρ ww=> ∃(i:Nat) (r:Fo) (az:Qa),n-i=mz/\(FoR w.heap.size w p i r)/\(i+Fo.len r=n)/\(Fo.cnt r<=Fo.cnt k)/\(Ql az+wtF r<=0x4000000000000000)/\(pureF r=true)/\(wrF k=tl az++wrF r)/\St w.heap.size w ww []/\Is [(0,.agg #[.bool l,.string s,.slice p n c]),(1,Qe (gs1 0).b),(2,.string (⟨#[]⟩)),(3,.string az),(7,.bool true),(9,.slice p n c),(10,.int .i64 (n:Int)),(11,.int .i64 (i:Int))] ρ) (n-0) ⟨0,k,(⟨#[]⟩:Qa),rfl,(zq.start hpre),(by have hn0:=(hpre).1;omega),(QH _),(by show 0+_<=_;omega),hp2,rfl,HD4,zl⟩ ?_;clear HD4;rintro _ _ w13 ⟨i,r,az,rfl,hR,hN,hcn,hwt,hpr,hall,H13,_,rfl⟩;by_cases hc5:(i:Nat)<n
  ·refine rS [itT ((i:Int)<(n:Int))] H13 kr fun gs14 w14 H14=>?_;clear H13;refine za kr<|zh kr kr<|zj kr<|wW<|za kr<|zm 1 kr ?_;obtain⟨l1,s1,k1,r1,b1,off1,C1,T1,fz1,p1,n1,c1,hr1,hp1,hb1,hh1,hs1,hx1,hz1,hk1,hR1,hN1⟩:=FoR.open hR hN (by omega);refine rS [itX 9 11 47 58 3 48 b1 off1 n c i hp1,.fp (off:=off1+i*3) (n:=3) (W:=#[.bool l1,.string s1,.slice p1 n1 c1]) hh1 hb1 hs1 hx1,.a,.s 0] H14 kr fun gs15 w15 H15=>?_;clear H14;have hcn1:=hcn;rw[hr1]at hcn1;simp only[Fo.cnt]at hcn1;have hwt1:=hwt;rw[hr1]at hwt1;simp only[wtF]at hwt1;have hpq1:=zpK (show pureF (.cons l1 s1 k1 r1)=true by rw[<-hr1];exact hpr);have hwl1:Ql (zg (wr1 l1 s1 (szF k1) (wrF k1)))<=9+Ql s1+wtF k1:=by have h9:=zaw (.cons l1 s1 k1 .nil);simp only[wrF,wtF,QI,RL]at h9;exact h9
   refine rL [.v,.l 0,.cp (pre:=fun w=>zq w.heap.size w p1 n1 k1) (ih l1 s1 p1 n1 c1 k1 hz1 hpq1.1 hpq1.2.1 (by omega) (by omega)) [] (fun w hb hd=>(zq.call hk1 hb)),.o (ins:=[((.tmp 15),.string az),((.tmp 17),.string (zg (wr1 l1 s1 (szF k1) (wrF k1))))]) (v:=.string (az++(zg (wr1 l1 s1 (szF k1) (wrF k1))))) (fun ρ o w ho hi=>jS (t:=9) (t':=9) (x:=(.tmp 15)) (y:=(.tmp 17)) az (zg (wr1 l1 s1 (szF k1) (wrF k1))) w ho hi.1 hi.2.1 (by omega)),.v] H15 kr fun gs16 w16 H16=>?_;clear H15;refine wW<|zt [0,1,2,3,5,7,9,10,11,12] fun ρ1=>?_;have HK6:=H16.keep;clear H16;refine rL [itI i 1,.v] HK6 kr fun gs17 w17 H17=>?_;clear HK6;have HL7:St w.heap.size w w17 [((gs15 2).b,Qk #[.bool l1,.string s1,.slice p1 n1 c1] 58 (0,0))]:=H17.as kr;clear H17;have HD8:St w.heap.size w w17 []:=HL7.sub (Qs _ QS);show ∃m,_/\_;exact⟨_,(by omega),(i+1),r1,((az++(zg (wr1 l1 s1 (szF k1) (wrF k1))))),rfl,hR1,hN1,(by omega),(by rw[ByteArray.size_append];omega),hpq1.2.2,(by rw[hall,hr1,xr,qq];simp only[wrF,QD]),HD8,zl⟩
  ·refine rS [itF ((i:Int)<(n:Int))] H13 kr fun gs18 w18 H18=>?_;clear H13;refine za kr<|zi kr kr<|zE 0 kr<|wW ?_;have hdn:=FoR.done hN (by omega);rw[hdn]at hall;have hal:wrF k=tl az:=by rw[hall];exact QI _
   refine rS [.v,.v,.c (zeF 192 (Ql az) (by omega) (by omega)),.v,.o (ins:=[((.tmp 22),.string (zg (hd 192 (Ql az)))),((.tmp 23),.string az)]) (v:=.string ((zg (hd 192 (Ql az)))++az)) (fun ρ o w ho hi=>jS (t:=9) (t':=9) (x:=(.tmp 22)) (y:=(.tmp 23)) (zg (hd 192 (Ql az))) az w ho hi.1 hi.2.1 (by have h9:=(xN 192 (Ql az)).2;have h8:Ql (zg (hd 192 (Ql az)))<=9:=h9;omega)),.v] H18 kr fun gs19 w19 H19=>?_;clear H18;refine zk kr<|wV ?_;refine⟨[.string ((zg (hd 192 (Ql az)))++az)],(.tmp (.string ((zg (hd 192 (Ql az)))++az)) kr .nil),?_,H19.below⟩;exact congrArg RQ (zpN hq1 hp1 hp2 hal)
theorem zeG (l:Bool)(s:Qa)(p:Qc)(n c:Nat)(k:Fo)(hs:s.size<=0x800000000000)(hp1:mixed l s k.len=false)(hp2:pureF k=true)(hw:Ql s+wtF k<=0x4000000000000000):FnP Tryz.prog 36 #[.agg #[.bool l,.string s,.slice p n c]] (fun w=>zq w.heap.size w p n k) (.string (zg (wr1 l s (szF k) (wrF k)))):=by
 have key: ∀(m:Nat) (l:Bool) (s:Qa) (p:Qc) (n c:Nat) (k:Fo),s.size<=0x800000000000->mixed l s k.len=false->pureF k=true->Ql s+wtF k<=0x4000000000000000->k.cnt<m->FnP Tryz.prog 36 #[.agg #[.bool l,.string s,.slice p n c]] (fun w=>zq w.heap.size w p n k) (.string (zg (wr1 l s (szF k) (wrF k)))):=by
  intro m
  induction m with
  | zero=>intros;omega
  | succ m ih=>intro l s p n c k hs hp1 hp2 hw hkm;exact zpV m ih l s p n c k hs hp1 hp2 hw hkm
 exact key (k.cnt+1) l s p n c k hs hp1 hp2 hw (by omega)
theorem zpW (n:Nat)(hn:n<0x10000000000000000):Fn Tryz.prog 130 #[.int .u64 (n:Int)] (.agg #[.bool false,.string (zg (dg n)),.slice none 0 0]):=by
 refine zv [.cell 2 58] 6 Tryz.func130 fun w=>?_;have H0:=St.start w;refine rS [.a] H0 kr fun gs1 w1 H1=>?_;clear H0;refine rS [.v,.c (zcG n (by omega)),.v,.s 0] H1 kr fun gs2 w2 H2=>?_;clear H1;refine zk kr<|wV ?_;refine⟨[.agg #[.bool false,.string (zg (dg n)),.slice none 0 0]],(.agg (b:=(gs1 0).b) #[.bool false,.string (zg (dg n)),.slice none 0 0] 58 (0,0) kr (H2.get 0 kr) kr .nil),?_,H2.below⟩;rfl
theorem ziR (l:Bool)(s:Qa)(p:Qc)(n c:Nat)(k:Fo)(hs:s.size<=0x800000000000):FnP Tryz.prog 116 #[.agg #[.bool l,.string s,.slice p n c]] (fun w=>zq w.heap.size w p n k) (zaB (jj l s n)):=by
 refine zR [.tmp 2,.tmp 3] 41 Tryz.func116 fun w hpre=>?_;have H0:=St.start w;have hn:=hpre.1;have hnm:=hpre.2.1;refine rS [.b,.v,.v] H0 kr fun gs1 w1 H1=>?_;clear H0;refine za kr<|zd [0,1,2,3,4,5,6,7,8,9,10,11,12,13] kr kr<|rp [.v,.l 0,.v] H1 kr fun gs2 w2 H2=>wX [3,4,5,6,7,8,9,10,11,12,13] ?_;clear H1;refine Or.elim (Q4 (l)).symm (fun hq1=>?_) (fun hq1=>?_)
 ·refine zL 7 (v:=.bool l) (v':=.bool false) (zc hq1) kr<|zL 8 (v:=.bool l) (v':=.bool false) (zc hq1) kr<|rp [.v,.l 0,.v] H2 kr fun gs3 w3 H3=>wX [6,7,8,9,10,11,12,13] ?_;clear H2;by_cases hc1:(n:Nat)>0
  ·refine rp [itT (0<(n:Int)),.v,.v,.n,.n,.n,.n,.v] H3 kr fun gs4 w4 H4=>wX [] ?_;clear H3;refine zb<|zt [0,1,2,3,19] fun ρ1=>?_;have HK2:=H4.keep;clear H4;refine zh kr kr<|rS [.v,.v] HK2 kr fun gs5 w5 H5=>?_;clear HK2;refine zk kr<|wV ?_;refine⟨[wZ,.int .i64 4],(.tmp (wZ) kr (.tmp (.int .i64 4) kr .nil)),?_,H5.below⟩;exact(by first | exact(kH (UP (Vy (by omega)))).symm | exact(kH (UP (UP (zdQ (Vy (by omega)))))).symm)
  ·refine rp [itF (0<(n:Int)),.v,.v,.v,.l 0,.v] H3 kr fun gs6 w6 H6=>wX [12,13] ?_;clear H3;by_cases hc3:(Ql s:Nat)>8
   ·refine rp [itT (8<(Ql s:Int)),.v] H6 kr fun gs7 w7 H7=>wX [] ?_;clear H6;refine zb<|zt [0,1,2,3,19] fun ρ2=>?_;have HK4:=H7.keep;clear H7;refine zh kr kr<|rS [.v,.v] HK4 kr fun gs8 w8 H8=>?_;clear HK4;refine zk kr<|wV ?_;refine⟨[wZ,.int .i64 4],(.tmp (wZ) kr (.tmp (.int .i64 4) kr .nil)),?_,H8.below⟩;exact(by first | exact(kH (UP (Vy (by omega)))).symm | exact(kH (UP (UP (zdQ (Vy (by omega)))))).symm)
   ·refine rp [itF (8<(Ql s:Int)),.v] H6 kr fun gs9 w9 H9=>wX [] ?_;clear H6;refine zb<|zt [0,1,2,3,19] fun ρ3=>?_;have HK5:=H9.keep;clear H9;refine zi kr kr<|zj kr<|wW<|rS [.v] HK5 kr fun gs10 w10 H10=>?_;clear HK5;refine za kr<|rS [.v] H10 kr fun gs11 w11 H11=>?_;clear H10;refine zm 0 kr ?_;have HL6:St w.heap.size w w11 [((gs1 0).b,Qk #[.bool l,.string s,.slice p n c] 58 (0,0))]:=H11.as kr;clear H11;refine zO kr (fun mz ρ ww=> ∃(i:Nat),Ql s-i=mz/\(i<=Ql s)/\St w.heap.size w ww [((gs1 0).b,Qk #[.bool l,.string s,.slice p n c] 58 (0,0))]/\Is [(0,.agg #[.bool l,.string s,.slice p n c]),(1,Qe (gs1 0).b),(2,wZ),(3,.int .i64 0),(4,.int .u64 ((val (Re i (tl s)):Nat):Int)),(5,.int .i64 (i:Int)),(19,.bool false)] ρ) (Ql s-0) ⟨0,rfl,(by omega),HL6,zl⟩ ?_;clear HL6;rintro _ _ w12 ⟨i,rfl,hi,H12,_,rfl⟩;refine za kr<|zd [0,1,2,3,4] kr kr<|rp [.v,.v,.l 0,.v] H12 kr fun gs13 w13 H13=>wX [4] ?_;clear H12;by_cases hc7:(i:Nat)<Ql s
    ·refine rp [itT ((i:Int)<(Ql s:Int))] H13 kr fun gs14 w14 H14=>wX [] ?_;clear H13;refine zb<|zh kr kr<|zj kr<|wW<|za kr<|zm 1 kr ?_;have hvl:=zdN (tl s) i (by omega);have hbl:=qp s i;refine rL [.v,.E (.int .u64 (QA.wrap (256*((val (Re i (tl s)):Nat):Int)))) (.int .u64 ((256*(val (Re i (tl s))):Nat):Int)) (zf (jx (a:=256) (b:=val (Re i (tl s))) (by omega))),.v,.l 0,.v,itC 30 (.tmp 31) 9 s i,.E (.int .u64 (QA.wrap (((by_ s i:Nat):Int)))) (.int .u64 ((by_ s i:Nat):Int)) (zf (yw (a:=by_ s i) (by omega))),.E (.int .u64 (QA.wrap (((256*(val (Re i (tl s))):Nat):Int)+((by_ s i:Nat):Int)))) (.int .u64 ((val (Re (i+1) (tl s)):Nat):Int)) (zf (by rw[zdO s i (by omega),jw (a:=256*(val (Re i (tl s)))) (b:=by_ s i) (by omega),Nat.mul_comm])),.v] H14 kr fun gs15 w15 H15=>?_;clear H14;refine wW<|rL [.v,itI i 1,.v] H15 kr fun gs16 w16 H16=>?_;clear H15;have HL8:St w.heap.size w w16 [((gs1 0).b,Qk #[.bool l,.string s,.slice p n c] 58 (0,0))]:=H16.as kr;clear H16;show ∃m,_/\_;exact⟨_,(by omega),(i+1),rfl,(by omega),HL8,zl⟩
    ·refine rp [itF ((i:Int)<(Ql s:Int))] H13 kr fun gs17 w17 H17=>wX [] ?_;clear H13;refine zb<|zi kr kr<|zE 0 kr<|wW<|za kr ?_;by_cases hx9:zg (dg (val (tl s)))=s
     ·have hfull:Re i (tl s)=tl s:=Qy (by rw[zu];omega);have hv8:=zaz (l:=tl s) (by rw[zu];omega);refine yv 4 (v:=.int .u64 ((val (Re i (tl s)):Nat):Int)) (v':=.int .u64 ((val (tl s):Nat):Int)) (by rw[hfull]) kr<|dS [.v,.c (zcG (val (tl s)) hv8),.v,.l 0,.E (.bool (!(Rs (zg (dg (val (tl s))))==Rs s))) (.bool false) (zc (by rw[xu (zg (dg (val (tl s)))) s hx9];rfl))] H17 kr fun w18 H18=>?_;clear H17;refine zi kr kr<|zj kr<|wW<|rS [.v,.v,.v] H18 kr fun gs19 w19 H19=>?_;clear H18;refine zk kr<|wV ?_;refine⟨[.int .u64 ((val (tl s):Nat):Int),.int .i64 0],(.tmp (.int .u64 ((val (tl s):Nat):Int)) kr (.tmp (.int .i64 0) kr .nil)),?_,H19.below⟩;exact(zmx hq1 (by omega) (by omega) hx9).symm
     ·have hfull:Re i (tl s)=tl s:=Qy (by rw[zu];omega);have hv8:=zaz (l:=tl s) (by rw[zu];omega);refine yv 4 (v:=.int .u64 ((val (Re i (tl s)):Nat):Int)) (v':=.int .u64 ((val (tl s):Nat):Int)) (by rw[hfull]) kr<|dS [.v,.c (zcG (val (tl s)) hv8),.v,.l 0,.E (.bool (!(Rs (zg (dg (val (tl s))))==Rs s))) (.bool true) (zc (by rw[jG (zg (dg (val (tl s)))) s hx9];rfl))] H17 kr fun w20 H20=>?_;clear H17;refine zh kr kr<|rS [.v,.v] H20 kr fun gs21 w21 H21=>?_;clear H20;refine zk kr<|wV ?_;refine⟨[wZ,.int .i64 4],(.tmp (wZ) kr (.tmp (.int .i64 4) kr .nil)),?_,H21.below⟩;exact(kH (UP (UP (zmw (by omega) hx9)))).symm
 ·refine zL 7 (v:=.bool l) (v':=.bool true) (zc hq1) kr<|zL 8 (v:=.bool l) (v':=.bool true) (zc hq1) kr<|rp [.n,.n,.n,.n,.v,.v,.n,.n,.n,.n,.v] H2 kr fun gs22 w22 H22=>wX [] ?_;clear H2;refine zb<|zt [0,1,2,3,19] fun ρ4=>?_;have HK10:=H22.keep;clear H22;refine zh kr kr<|rS [.v,.v] HK10 kr fun gs23 w23 H23=>?_;clear HK10;refine zk kr<|wV ?_;refine⟨[wZ,.int .i64 4],(.tmp (wZ) kr (.tmp (.int .i64 4) kr .nil)),?_,H23.below⟩;exact(kH (Vy hq1)).symm
theorem zpX (l:Bool)(s:Qa)(p:Qc)(n c:Nat)(k:Fo)(hs:s.size<=0x800000000000)(lim:Nat)(hlim:lim<=4000):FnP Tryz.prog 131 #[.agg #[.bool l,.string s,.slice p n c],.int .i64 (lim:Int)] (fun w=>zq w.heap.size w p n k) (.int .i64 ((jb (1+k.cnt) lim:Nat):Int)):=by
 refine zR [.tmp 4] 44 Tryz.func131 fun w hpre=>?_;have H0:=St.start w;have hn:=hpre.1;have hnm:=hpre.2.1;refine rS [.b,.v] H0 kr fun gs1 w1 H1=>?_;clear H0;refine rS [.l 0,.nw (fun b=>Qf b 1 1) #[.bool l,.string s,.slice p n c] 58,.v] H1 kr fun gs2 w2 H2=>?_;clear H1;refine za kr<|rS [.v] H2 kr fun gs3 w3 H3=>?_;clear H2;refine zm 0 kr ?_;have HL1:St w.heap.size w w3 [((gs1 0).b,Qk #[.bool l,.string s,.slice p n c] 58 (0,0)),((gs2 1).b,Qk #[.bool l,.string s,.slice p n c] 58 (0,0))]:=H3.as kr;clear H3;have HD2:St w.heap.size w w3 [((gs2 1).b,Qk #[.bool l,.string s,.slice p n c] 58 (0,0))]:=HL1.sub (Qs _ (Qq _ QS));refine zO kr (fun mz ρ ww=> ∃(bL:Nat) (capL:Nat) (nL:Nat) (curL:Qd) (L:List X3) (i:Nat),lim+2-i=mz/\(nL=Qo L)/\(Rw 3 curL capL nL (cells3 L))/\(zay w.heap.size w L)/\(i<=nL)/\(Cnt (1+k.cnt) lim nL (jz (UB i L)))/\St w.heap.size w ww [(bL,Qk curL 58)]/\Is [(0,.agg #[.bool l,.string s,.slice p n c]),(1,.int .i64 (lim:Int)),(2,Qe (gs1 0).b),(4,.int .i64 0),(5,Qf bL nL capL),(6,.int .i64 (i:Int))] ρ) (lim+2-0) ⟨(gs2 1).b,1,1,#[.bool l,.string s,.slice p n c],[X3.mk l s p n c k],0,rfl,rfl,(Rw.lit #[.bool l,.string s,.slice p n c] 1 (by rfl) (by unfold maxLen;omega)),(by intro x hx;rw[RY.1 hx];exact⟨hpre,hs⟩),(by omega),⟨by omega,fun _=>by show 1+(k.cnt+0)=_;omega,fun h=>by omega⟩,HD2,zl⟩ ?_;clear HD2;rintro _ _ w4 ⟨bL,capL,nL,curL,L,i,rfl,hnL,hrL,hAL,hi,hC,H4,_,rfl⟩;refine za kr<|zd [0,1,2,3,4,5,6,7,8,9] kr kr<|rp [.v,.v,.v] H4 kr fun gs5 w5 H5=>wX [3,4,5,6,7,8,9] ?_;clear H4;by_cases hc3:(i:Nat)<nL
 ·refine rp [itT ((i:Int)<(nL:Int)),.v,.v,.v,.v] H5 kr fun gs6 w6 H6=>wX [8,9] ?_;clear H5;by_cases hc4:(nL:Nat)<=lim
  ·refine rp [itT ((nL:Int)<=(lim:Int)),.v] H6 kr fun gs7 w7 H7=>wX [] ?_;clear H6;refine zb<|zh kr kr<|zj kr<|wW<|za kr<|zm 1 kr<|zd [0,1,2,3,4,5,6] kr kr<|rp [.v,.v,itX 23 24 47 58 3 48 bL 0 nL capL i rfl,.v] H7 kr fun gs8 w8 H8=>wX [4,5,6] ?_;clear H7;obtain⟨x,hx⟩:∃x,L[i]? =some x:=⟨_,Qr (by omega)⟩
   obtain⟨xl,xs,xp,xn,xc,xk⟩:=x;have hxa:=hAL _ (QF hx);have hxk:zq w.heap.size w xp xn xk:=hxa.1;have hxm:=hxk.2.1;refine rp [.ls (C:=curL) (off:=0+i*3+2) (v:=.slice xp xn xc) 0 (by rw[Q9];exact(Rw.at3 hrL hx).2.2),.v,.v] H8 kr fun gs9 w9 H9=>wX [] ?_;clear H8;refine zb<|zt [0,1,2,4,5,6,20,27,28,29] fun ρ1=>?_;have HK5:=H9.keep;clear H9;refine zm 2 kr ?_;have HL6:St w.heap.size w w9 [(bL,Qk curL 58)]:=HK5.as kr;clear HK5;refine zO kr (fun mz ρ ww=> ∃(iM:Nat) (rM:Fo) (bM:Nat) (capM:Nat) (nM:Nat) (curM:Qd) (M:List X3),xn-iM=mz/\(FoR w.heap.size w xp iM rM)/\(iM+Fo.len rM=xn)/\(nM=Qo M)/\(Rw 3 curM capM nM (cells3 M))/\(zay w.heap.size w M)/\(i<nM)/\(Cnt (1+k.cnt) lim nM (jz (UB (i+1) M)+Fo.cnt rM))/\St w.heap.size w ww [(bM,Qk curM 58)]/\Is [(0,.agg #[.bool l,.string s,.slice p n c]),(1,.int .i64 (lim:Int)),(2,Qe (gs1 0).b),(4,.int .i64 0),(5,Qf bM nM capM),(6,.int .i64 (i:Int)),(20,.bool true),(27,.slice xp xn xc),(28,.int .i64 (xn:Int)),(29,.int .i64 (iM:Int))] ρ) (xn-0) ⟨0,xk,bL,capL,nL,curL,L,rfl,(zq.start hxk),(by have hn0:=(hxk).1;omega),hnL,hrL,hAL,(by omega),(by have h9:=hC;rw[zgI L i _ hx]at h9;rw[WC (jz _)];exact h9),HL6,zl⟩ ?_;clear HL6;rintro _ _ w10 ⟨iM,rM,bM,capM,nM,curM,M,rfl,hRM,hNM,hnM,hrM,hAM,hiM,hCM,H10,_,rfl⟩;by_cases hc7:(iM:Nat)<xn
   ·refine rS [itT ((iM:Int)<(xn:Int))] H10 kr fun gs11 w11 H11=>?_;clear H10;refine za kr<|zh kr kr<|zj kr<|wW<|za kr<|zm 3 kr ?_;obtain⟨l1,s1,k1,r1,b1,off1,C1,T1,fz1,p1,n1,c1,hr1,hp1,hb1,hh1,hs1,hx1,hz1,hk1,hR1,hN1⟩:=FoR.open hRM hNM (by omega);refine rS [itX 27 29 47 58 3 48 b1 off1 xn xc iM hp1,.fp (off:=off1+iM*3) (n:=3) (W:=#[.bool l1,.string s1,.slice p1 n1 c1]) hh1 hb1 hs1 hx1,.a,.s 1] H11 kr fun gs12 w12 H12=>?_;clear H11;refine zd [0,1,2,3] kr kr<|rp [.v,.v,.v] H12 kr fun gs13 w13 H13=>wX [3] ?_;clear H12;by_cases hc8:(nM:Nat)<=lim
    ·refine rp [itT ((nM:Int)<=(lim:Int))] H13 kr fun gs14 w14 H14=>wX [] ?_;clear H13;refine zb<|zh kr kr<|yu [0,1,2,3,4] kr<|rp [.v,.l 1,.nw (fun b=>Qf b 1 1) #[.bool l1,.string s1,.slice p1 n1 c1] 58] H14 kr fun gs15 w15 H15=>wX [3,4] ?_;clear H14;refine vI H15 (some 40) 47 58 3 48 (.tmp 37) (.tmp 39) 0 2 bM ((gs15 2).b) nM 1 capM 1 curM #[.bool l1,.string s1,.slice p1 n1 c1] 58 (0,0) (cells3 M) ([.bool l1,.string s1,.slice p1 n1 c1]) (fun b_1 cur_3=>[(b_1,Qk cur_3 58),((gs12 2).b,Qk #[.bool l1,.string s1,.slice p1 n1 c1] 58 (0,0)),((gs15 2).b,Qk #[.bool l1,.string s1,.slice p1 n1 c1] 58 (0,0))]) kr kr kr kr kr hrM kr kr (by rfl) (by rfl) (by intro u hu;simp at hu;rcases hu with rfl | rfl | rfl<;>rfl) (by omega) (by unfold maxLen;omega) (fun _ _=>by kernel_rfl) ?_;intro b_1 cap_2 cur_3 w16 H16 hr_4;clear H15;have hr_4t:Rw 3 cur_3 cap_2 (nM+1) (cells3 (M++ [X3.mk l1 s1 p1 n1 c1 k1])):=by rw[zbD];exact hr_4
     have hr_4n:nM+1=Qo (M++ [X3.mk l1 s1 p1 n1 c1 k1]):=by rw[Qx,<-hnM];rfl
     refine rp [.v] H16 kr fun gs17 w17 H17=>wX [] ?_;clear H16;refine zb<|wW<|rL [itI iM 1,.v] H17 kr fun gs18 w18 H18=>?_;clear H17;have HL9:St w.heap.size w w18 [(b_1,Qk cur_3 58),((gs12 2).b,Qk #[.bool l1,.string s1,.slice p1 n1 c1] 58 (0,0)),((gs15 2).b,Qk #[.bool l1,.string s1,.slice p1 n1 c1] 58 (0,0))]:=H18.as kr;clear H18;have HD10:St w.heap.size w w18 [(b_1,Qk cur_3 58)]:=HL9.sub (Qq _ (Qs _ (Qs _ QS)));show ∃m,_/\_;exact⟨_,(by omega),(iM+1),r1,b_1,cap_2,nM+1,cur_3,(M++ [X3.mk l1 s1 p1 n1 c1 k1]),rfl,hR1,hN1,hr_4n,hr_4t,(hAM.push (x:=X3.mk l1 s1 p1 n1 c1 k1) hk1 hz1),(by omega),(by have h9:=hCM;rw[hr1]at h9;simp only[Fo.cnt]at h9;exact h9.push (by omega) (zmn (by omega))),HD10,zl⟩
    ·refine rp [itF ((nM:Int)<=(lim:Int))] H13 kr fun gs19 w19 H19=>wX [] ?_;clear H13;refine zb<|zi kr kr<|zj kr<|wW<|rL [itI iM 1,.v] H19 kr fun gs20 w20 H20=>?_;clear H19;have HL11:St w.heap.size w w20 [(bM,Qk curM 58),((gs12 2).b,Qk #[.bool l1,.string s1,.slice p1 n1 c1] 58 (0,0))]:=H20.as kr;clear H20;have HD12:St w.heap.size w w20 [(bM,Qk curM 58)]:=HL11.sub (Qq _ (Qs _ QS));show ∃m,_/\_;exact⟨_,(by omega),(iM+1),r1,bM,capM,nM,curM,M,rfl,hR1,hN1,hnM,hrM,hAM,(by omega),(hCM.full (by omega)),HD12,zl⟩
   ·refine rS [itF ((iM:Int)<(xn:Int))] H10 kr fun gs21 w21 H21=>?_;clear H10;refine za kr<|zi kr kr<|zE 2 kr<|wW<|rL [.v,itI i 1,.v] H21 kr fun gs22 w22 H22=>?_;clear H21;have HL13:St w.heap.size w w22 [(bM,Qk curM 58)]:=H22.as kr;clear H22;show ∃m,_/\_;exact⟨_,(by omega),bM,capM,nM,curM,M,(i+1),rfl,hnM,hrM,hAM,(by omega),(by have h9:=hCM;rw[FoR.done hNM (by omega)]at h9;exact h9),HL13,zl⟩
  ·refine rp [itF ((nL:Int)<=(lim:Int)),.v] H6 kr fun gs23 w23 H23=>wX [] ?_;clear H6;refine zb<|zi kr kr<|zE 0 kr<|wW<|rS [.v,.v,.v] H23 kr fun gs24 w24 H24=>?_;clear H23;refine zk kr<|wV ?_;refine⟨[.int .i64 (nL:Int)],(.tmp (.int .i64 (nL:Int)) kr .nil),?_,H24.below⟩;refine zf ?_;rw[Cnt.done (len:=nL) ?_];by_cases hlast:i<nL
   ·exact UP ⟨_,hC,by omega⟩
   ·exact Vy (by have h9:=hC;rw[U6 (by omega)]at h9;exact h9)
 ·refine rp [itF ((i:Int)<(nL:Int)),.v,.n,.n,.n,.n,.v] H5 kr fun gs25 w25 H25=>wX [] ?_;clear H5;refine zb<|zi kr kr<|zE 0 kr<|wW<|rS [.v,.v,.v] H25 kr fun gs26 w26 H26=>?_;clear H25;refine zk kr<|wV ?_;refine⟨[.int .i64 (nL:Int)],(.tmp (.int .i64 (nL:Int)) kr .nil),?_,H26.below⟩;refine zf ?_;rw[Cnt.done (len:=nL) ?_];by_cases hlast:i<nL
  ·exact UP ⟨_,hC,by omega⟩
  ·exact Vy (by have h9:=hC;rw[U6 (by omega)]at h9;exact h9)
theorem zpY (m:Nat)(ih: ∀(l:Bool) (s:Qa) (p:Qc) (n c:Nat) (k:Fo),s.size<=0x800000000000->k.cnt<m->FnP Tryz.prog 132 #[.agg #[.bool l,.string s,.slice p n c]] (fun w=>zq w.heap.size w p n k) (.bool (pu1 l s k)))(l:Bool)(s:Qa)(p:Qc)(n c:Nat)(k:Fo)(hs:s.size<=0x800000000000)(hkm:k.cnt<m+1):FnP Tryz.prog 132 #[.agg #[.bool l,.string s,.slice p n c]] (fun w=>zq w.heap.size w p n k) (.bool (pu1 l s k)):=by
 refine zR [.tmp 2] 34 Tryz.func132 fun w hpre=>?_;have H0:=St.start w;have hn:=hpre.1;have hnm:=hpre.2.1;refine rS [.b,.v] H0 kr fun gs1 w1 H1=>?_;clear H0;refine za kr<|zd [0,1,2,3,4,5,6,7,8,9,10,11,12,13,14,15,16,17] kr kr<|rp [.v,.l 0,.v] H1 kr fun gs2 w2 H2=>wX [3,4,5,6,7,8,9,10,11,12,13,14,15,16,17] ?_;clear H1;rcases (Q4 (l)).symm with hq1 | hq1
 ·refine zL 6 (v:=.bool l) (v':=.bool false) (zc hq1) kr<|zL 7 (v:=.bool l) (v':=.bool false) (zc hq1) kr<|rp [.n,.n,.n,.v,.v,.v,.l 0] H2 kr fun gs3 w3 H3=>wX [10,11,12,13,14,15,16,17] ?_;clear H2;refine zL 14 (v:=.bool l) (v':=.bool false) (zc hq1) kr<|rp [.v,.v,.v,.l 0,.v] H3 kr fun gs4 w4 H4=>wX [15,16,17] ?_;clear H3;by_cases hc1:(n:Nat)>0
  ·refine rp [itT (0<(n:Int)),.v,.v] H4 kr fun gs5 w5 H5=>wX [] ?_;clear H4;refine zb<|zt [0,1,2,22] fun ρ1=>?_;have HK2:=H5.keep;clear H5;refine zh kr kr<|rS [.v] HK2 kr fun gs6 w6 H6=>?_;clear HK2;refine zk kr<|wV ?_;refine⟨[.bool false],(.tmp (.bool false) kr .nil),?_,H6.below⟩;exact zc (ziL (zpJ hq1 (by omega))).symm
  ·refine rp [itF (0<(n:Int)),.v,.v] H4 kr fun gs7 w7 H7=>wX [] ?_;clear H4;refine zb<|zt [0,1,2,22] fun ρ2=>?_;have HK3:=H7.keep;clear H7;refine zi kr kr<|zj kr<|wW<|za kr<|rS [.v,.l 0,.v,.v] HK3 kr fun gs8 w8 H8=>?_;clear HK3;refine zm 0 kr ?_;have HL4:St w.heap.size w w8 [((gs1 0).b,Qk #[.bool l,.string s,.slice p n c] 58 (0,0))]:=H8.as kr;clear H8;have HD5:St w.heap.size w w8 []:=HL4.sub (Qs _ QS);refine zO kr (fun mz ρ ww=> ∃(i:Nat) (r:Fo),n-i=mz/\(FoR w.heap.size w p i r)/\(i+Fo.len r=n)/\(Fo.cnt r<=Fo.cnt k)/\(pureF k=pureF r)/\St w.heap.size w ww []/\Is [(0,.agg #[.bool l,.string s,.slice p n c]),(1,Qe (gs1 0).b),(22,.bool false),(24,.slice p n c),(25,.int .i64 (n:Int)),(26,.int .i64 (i:Int))] ρ) (n-0) ⟨0,k,rfl,(zq.start hpre),(by have hn0:=(hpre).1;omega),(QH _),rfl,HD5,zl⟩ ?_;clear HD5;rintro _ _ w9 ⟨i,r,rfl,hR,hN,hcn,hpu,H9,_,rfl⟩;by_cases hc6:(i:Nat)<n
   ·refine rS [itT ((i:Int)<(n:Int))] H9 kr fun gs10 w10 H10=>?_;clear H9;refine za kr<|zh kr kr<|zj kr<|wW<|za kr<|zm 1 kr ?_;obtain⟨l1,s1,k1,r1,b1,off1,C1,T1,fz1,p1,n1,c1,hr1,hp1,hb1,hh1,hs1,hx1,hz1,hk1,hR1,hN1⟩:=FoR.open hR hN (by omega);refine rS [itX 24 26 47 58 3 48 b1 off1 n c i hp1,.fp (off:=off1+i*3) (n:=3) (W:=#[.bool l1,.string s1,.slice p1 n1 c1]) hh1 hb1 hs1 hx1,.a,.s 0] H10 kr fun gs11 w11 H11=>?_;clear H10;have hcn1:=hcn;rw[hr1]at hcn1;simp only[Fo.cnt]at hcn1;refine zd [0,1,2] kr kr<|rp [.l 0,.cp (pre:=fun w=>zq w.heap.size w p1 n1 k1) (ih l1 s1 p1 n1 c1 k1 hz1 (by omega)) [] (fun w hb hd=>(zq.call hk1 hb))] H11 kr fun gs12 w12 H12=>wX [2] ?_;clear H11;rcases (Q4 (pu1 l1 s1 k1)).symm with hq3 | hq3
    ·refine zL 31 (v:=.bool (pu1 l1 s1 k1)) (v':=.bool false) (zc hq3) kr<|rp [.v] H12 kr fun gs13 w13 H13=>wX [] ?_;clear H12;refine zb<|zh kr kr<|rS [.v] H13 kr fun gs14 w14 H14=>?_;clear H13;refine zk kr<|wV ?_;refine⟨[.bool false],(.tmp (.bool false) kr .nil),?_,H14.below⟩;exact zc (by rw[zcE (ziN hq1 (by omega)),hpu,hr1];exact(ziP (by have h9:=hq3;simpa using h9)).symm)
    ·refine zL 31 (v:=.bool (pu1 l1 s1 k1)) (v':=.bool true) (zc hq3) kr<|rp [.v] H12 kr fun gs15 w15 H15=>wX [] ?_;clear H12;refine zb<|zi kr kr<|zj kr<|wW<|rL [itI i 1,.v] H15 kr fun gs16 w16 H16=>?_;clear H15;have HL7:St w.heap.size w w16 [((gs11 2).b,Qk #[.bool l1,.string s1,.slice p1 n1 c1] 58 (0,0))]:=H16.as kr;clear H16;have HD8:St w.heap.size w w16 []:=HL7.sub (Qs _ QS);show ∃m,_/\_;exact⟨_,(by omega),(i+1),r1,rfl,hR1,hN1,(by omega),(by rw[hpu,hr1];exact ziO (by have h9:=hq3;simpa using h9)),HD8,zl⟩
   ·refine rS [itF ((i:Int)<(n:Int))] H9 kr fun gs17 w17 H17=>?_;clear H9;refine za kr<|zi kr kr<|zE 0 kr<|wW<|rS [.v] H17 kr fun gs18 w18 H18=>?_;clear H17;refine zk kr<|wV ?_;refine⟨[.bool true],(.tmp (.bool true) kr .nil),?_,H18.below⟩;exact zc (by rw[zcE (ziN hq1 (by omega)),hpu,FoR.done hN (by omega)];rfl)
 ·refine zL 6 (v:=.bool l) (v':=.bool true) (zc hq1) kr<|zL 7 (v:=.bool l) (v':=.bool true) (zc hq1) kr<|rp [.v,.l 0] H2 kr fun gs19 w19 H19=>wX [5,6,7,8,9,10,11,12,13,14,15,16,17] ?_;clear H2;by_cases hx9:s=⟨#[]⟩
  ·refine rp [itE s (⟨#[]⟩) hx9,.v,.v,.v,.l 0] H19 kr fun gs20 w20 H20=>wX [10,11,12,13,14,15,16,17] ?_;clear H19;refine zL 14 (v:=.bool l) (v':=.bool true) (zc hq1) kr<|rp [.v,.v,.n,.n,.n,.n,.v,.v] H20 kr fun gs21 w21 H21=>wX [] ?_;clear H20;refine zb<|zt [0,1,2,22] fun ρ3=>?_;have HK10:=H21.keep;clear H21;refine zi kr kr<|zj kr<|wW<|za kr<|rS [.v,.l 0,.v,.v] HK10 kr fun gs22 w22 H22=>?_;clear HK10;refine zm 0 kr ?_;have HL11:St w.heap.size w w22 [((gs1 0).b,Qk #[.bool l,.string s,.slice p n c] 58 (0,0))]:=H22.as kr;clear H22;have HD12:St w.heap.size w w22 []:=HL11.sub (Qs _ QS);refine zO kr (fun mz ρ ww=> ∃(i:Nat) (r:Fo),n-i=mz/\(FoR w.heap.size w p i r)/\(i+Fo.len r=n)/\(Fo.cnt r<=Fo.cnt k)/\(pureF k=pureF r)/\St w.heap.size w ww []/\Is [(0,.agg #[.bool l,.string s,.slice p n c]),(1,Qe (gs1 0).b),(22,.bool false),(24,.slice p n c),(25,.int .i64 (n:Int)),(26,.int .i64 (i:Int))] ρ) (n-0) ⟨0,k,rfl,(zq.start hpre),(by have hn0:=(hpre).1;omega),(QH _),rfl,HD12,zl⟩ ?_;clear HD12;rintro _ _ w23 ⟨i,r,rfl,hR,hN,hcn,hpu,H23,_,rfl⟩;by_cases hc13:(i:Nat)<n
   ·refine rS [itT ((i:Int)<(n:Int))] H23 kr fun gs24 w24 H24=>?_;clear H23;refine za kr<|zh kr kr<|zj kr<|wW<|za kr<|zm 1 kr ?_;obtain⟨l2,s2,k2,r2,b2,off2,C2,T2,fz2,p2,n2,c2,hr2,hp2,hb2,hh2,hs2,hx2,hz2,hk2,hR2,hN2⟩:=FoR.open hR hN (by omega);refine rS [itX 24 26 47 58 3 48 b2 off2 n c i hp2,.fp (off:=off2+i*3) (n:=3) (W:=#[.bool l2,.string s2,.slice p2 n2 c2]) hh2 hb2 hs2 hx2,.a,.s 0] H24 kr fun gs25 w25 H25=>?_;clear H24;have hcn2:=hcn;rw[hr2]at hcn2;simp only[Fo.cnt]at hcn2;refine zd [0,1,2] kr kr<|rp [.l 0,.cp (pre:=fun w=>zq w.heap.size w p2 n2 k2) (ih l2 s2 p2 n2 c2 k2 hz2 (by omega)) [] (fun w hb hd=>(zq.call hk2 hb))] H25 kr fun gs26 w26 H26=>wX [2] ?_;clear H25;rcases (Q4 (pu1 l2 s2 k2)).symm with hq5 | hq5
    ·refine zL 31 (v:=.bool (pu1 l2 s2 k2)) (v':=.bool false) (zc hq5) kr<|rp [.v] H26 kr fun gs27 w27 H27=>wX [] ?_;clear H26;refine zb<|zh kr kr<|rS [.v] H27 kr fun gs28 w28 H28=>?_;clear H27;refine zk kr<|wV ?_;refine⟨[.bool false],(.tmp (.bool false) kr .nil),?_,H28.below⟩;exact zc (by rw[zcE (ziM hq1 hx9),hpu,hr2];exact(ziP (by have h9:=hq5;simpa using h9)).symm)
    ·refine zL 31 (v:=.bool (pu1 l2 s2 k2)) (v':=.bool true) (zc hq5) kr<|rp [.v] H26 kr fun gs29 w29 H29=>wX [] ?_;clear H26;refine zb<|zi kr kr<|zj kr<|wW<|rL [itI i 1,.v] H29 kr fun gs30 w30 H30=>?_;clear H29;have HL14:St w.heap.size w w30 [((gs25 2).b,Qk #[.bool l2,.string s2,.slice p2 n2 c2] 58 (0,0))]:=H30.as kr;clear H30;have HD15:St w.heap.size w w30 []:=HL14.sub (Qs _ QS);show ∃m,_/\_;exact⟨_,(by omega),(i+1),r2,rfl,hR2,hN2,(by omega),(by rw[hpu,hr2];exact ziO (by have h9:=hq5;simpa using h9)),HD15,zl⟩
   ·refine rS [itF ((i:Int)<(n:Int))] H23 kr fun gs31 w31 H31=>?_;clear H23;refine za kr<|zi kr kr<|zE 0 kr<|wW<|rS [.v] H31 kr fun gs32 w32 H32=>?_;clear H31;refine zk kr<|wV ?_;refine⟨[.bool true],(.tmp (.bool true) kr .nil),?_,H32.below⟩;exact zc (by rw[zcE (ziM hq1 hx9),hpu,FoR.done hN (by omega)];rfl)
  ·refine rp [itO s (⟨#[]⟩) hx9,.v,.v,.n,.n,.n,.n] H19 kr fun gs33 w33 H33=>wX [12,13,14,15,16,17] ?_;clear H19;refine xT (some 17) kr kr<|xT (some 18) kr kr<|xT (some 19) kr kr<|xT (some 20) kr kr<|rp [.n,.v] H33 kr fun gs34 w34 H34=>wX [] ?_;clear H33;refine zb<|zh kr kr<|rS [.v] H34 kr fun gs35 w35 H35=>?_;clear H34;refine zk kr<|wV ?_;refine⟨[.bool false],(.tmp (.bool false) kr .nil),?_,H35.below⟩;exact zc (ziL (zpI hq1 hx9)).symm
theorem zpZ (l:Bool)(s:Qa)(p:Qc)(n c:Nat)(k:Fo)(hs:s.size<=0x800000000000):FnP Tryz.prog 132 #[.agg #[.bool l,.string s,.slice p n c]] (fun w=>zq w.heap.size w p n k) (.bool (pu1 l s k)):=by
 have key: ∀(m:Nat) (l:Bool) (s:Qa) (p:Qc) (n c:Nat) (k:Fo),s.size<=0x800000000000->k.cnt<m->FnP Tryz.prog 132 #[.agg #[.bool l,.string s,.slice p n c]] (fun w=>zq w.heap.size w p n k) (.bool (pu1 l s k)):=by
  intro m
  induction m with
  | zero=>intros;omega
  | succ m ih=>intro l s p n c k hs hkm;exact zpY m ih l s p n c k hs hkm
 exact key (k.cnt+1) l s p n c k hs (by omega)
theorem zp0 (m:Nat)(ih: ∀(l:Bool) (s:Qa) (p:Qc) (n c:Nat) (k:Fo),s.size<=0x800000000000->k.cnt<=1000000->k.cnt<m->FnP Tryz.prog 51 #[.agg #[.bool l,.string s,.slice p n c]] (fun w=>zq w.heap.size w p n k) (.int .i64 ((dq1 l (dqF k):Nat):Int)))(l:Bool)(s:Qa)(p:Qc)(n c:Nat)(k:Fo)(hs:s.size<=0x800000000000)(hk6:k.cnt<=1000000)(hkm:k.cnt<m+1):FnP Tryz.prog 51 #[.agg #[.bool l,.string s,.slice p n c]] (fun w=>zq w.heap.size w p n k) (.int .i64 ((dq1 l (dqF k):Nat):Int)):=by
 refine zR [.tmp 2] 26 Tryz.func51 fun w hpre=>?_;have H0:=St.start w;have hn:=hpre.1;have hnm:=hpre.2.1;have hdk:=zeD k;refine rS [.b,.v] H0 kr fun gs1 w1 H1=>?_;clear H0;refine rS [.v] H1 kr fun gs2 w2 H2=>?_;clear H1;refine za kr<|rS [.v,.l 0,.v,.v] H2 kr fun gs3 w3 H3=>?_;clear H2;refine zm 0 kr ?_;have HL1:St w.heap.size w w3 [((gs1 0).b,Qk #[.bool l,.string s,.slice p n c] 58 (0,0))]:=H3.as kr;clear H3;refine zO kr (fun mz ρ ww=> ∃(i:Nat) (r:Fo) (d:Nat),n-i=mz/\(FoR w.heap.size w p i r)/\(i+Fo.len r=n)/\(Fo.cnt r<=Fo.cnt k)/\(dqF k=max d (dqF r))/\St w.heap.size w ww [((gs1 0).b,Qk #[.bool l,.string s,.slice p n c] 58 (0,0))]/\Is [(0,.agg #[.bool l,.string s,.slice p n c]),(1,Qe (gs1 0).b),(2,.int .i64 0),(3,.int .i64 (d:Int)),(8,.slice p n c),(9,.int .i64 (n:Int)),(10,.int .i64 (i:Int))] ρ) (n-0) ⟨0,k,0,rfl,(zq.start hpre),(by have hn0:=(hpre).1;omega),(QH _),(by omega),HL1,zl⟩ ?_;clear HL1;rintro _ _ w4 ⟨i,r,d,rfl,hR,hN,hcn,hd,H4,_,rfl⟩;by_cases hc2:(i:Nat)<n
 ·refine rS [itT ((i:Int)<(n:Int))] H4 kr fun gs5 w5 H5=>?_;clear H4;refine za kr<|zh kr kr<|zj kr<|wW<|za kr<|zm 1 kr ?_;obtain⟨l1,s1,k1,r1,b1,off1,C1,T1,fz1,p1,n1,c1,hr1,hp1,hb1,hh1,hs1,hx1,hz1,hk1,hR1,hN1⟩:=FoR.open hR hN (by omega);refine rS [itX 8 10 47 58 3 48 b1 off1 n c i hp1,.fp (off:=off1+i*3) (n:=3) (W:=#[.bool l1,.string s1,.slice p1 n1 c1]) hh1 hb1 hs1 hx1,.a,.s 1] H5 kr fun gs6 w6 H6=>?_;clear H5;have hcn1:=hcn;rw[hr1]at hcn1;simp only[Fo.cnt]at hcn1;refine rS [.l 1,.cp (pre:=fun w=>zq w.heap.size w p1 n1 k1) (ih l1 s1 p1 n1 c1 k1 hz1 (by omega) (by omega)) [] (fun w hb hd=>(zq.call hk1 hb)),.v] H6 kr fun gs7 w7 H7=>?_;clear H6;refine zd [0,1,2] kr kr<|rp [.v,.v] H7 kr fun gs8 w8 H8=>wX [2] ?_;clear H7;by_cases hc3:(dq1 l1 (dqF k1):Nat)>d
  ·refine rp [.E (.bool (decide ((d:Int)<((dq1 l1 (dqF k1):Nat):Int)))) (.bool true) (zc (decide_eq_true (by omega)))] H8 kr fun gs9 w9 H9=>wX [] ?_;clear H8;refine zb<|zt [0,1,2,3,5,6,8,9,10,11,18] fun ρ1=>?_;have HK4:=H9.keep;clear H9;refine zh kr kr<|rL [.v,.v] HK4 kr fun gs10 w10 H10=>?_;clear HK4;refine wW<|rL [itI i 1,.v] H10 kr fun gs11 w11 H11=>?_;clear H10;have HL5:St w.heap.size w w11 [((gs1 0).b,Qk #[.bool l,.string s,.slice p n c] 58 (0,0)),((gs6 2).b,Qk #[.bool l1,.string s1,.slice p1 n1 c1] 58 (0,0))]:=H11.as kr;clear H11;have HD6:St w.heap.size w w11 [((gs1 0).b,Qk #[.bool l,.string s,.slice p n c] 58 (0,0))]:=HL5.sub (Qq _ (Qs _ QS));show ∃m,_/\_;exact⟨_,(by omega),(i+1),r1,(dq1 l1 (dqF k1)),rfl,hR1,hN1,(by omega),(by rw[hd,hr1];simp only[dqF];omega),HD6,zl⟩
  ·refine rp [.E (.bool (decide ((d:Int)<((dq1 l1 (dqF k1):Nat):Int)))) (.bool false) (zc (decide_eq_false (by omega)))] H8 kr fun gs12 w12 H12=>wX [] ?_;clear H8;refine zb<|zt [0,1,2,3,5,6,8,9,10,11,18] fun ρ2=>?_;have HK7:=H12.keep;clear H12;refine zi kr kr<|zj kr<|wW<|rL [itI i 1,.v] HK7 kr fun gs13 w13 H13=>?_;clear HK7;have HL8:St w.heap.size w w13 [((gs1 0).b,Qk #[.bool l,.string s,.slice p n c] 58 (0,0)),((gs6 2).b,Qk #[.bool l1,.string s1,.slice p1 n1 c1] 58 (0,0))]:=H13.as kr;clear H13;have HD9:St w.heap.size w w13 [((gs1 0).b,Qk #[.bool l,.string s,.slice p n c] 58 (0,0))]:=HL8.sub (Qq _ (Qs _ QS));show ∃m,_/\_;exact⟨_,(by omega),(i+1),r1,(d),rfl,hR1,hN1,(by omega),(by rw[hd,hr1];simp only[dqF];omega),HD9,zl⟩
 ·refine rS [itF ((i:Int)<(n:Int))] H4 kr fun gs14 w14 H14=>?_;clear H4;refine za kr<|zi kr kr<|zE 0 kr<|wW<|za kr<|rS [.v,.l 0] H14 kr fun gs15 w15 H15=>?_;clear H14;rcases (Q4 (l)).symm with hq1 | hq1
  ·refine yv 22 (v:=.bool l) (v':=.bool false) (zc hq1) kr<|zi kr kr<|zj kr<|wW<|rS [.v,.v] H15 kr fun gs16 w16 H16=>?_;clear H15;refine zk kr<|wV ?_;refine⟨[.int .i64 (d:Int)],(.tmp (.int .i64 (d:Int)) kr .nil),?_,H16.below⟩;refine zf ?_;rw[hq1,hd,FoR.done hN (by omega)];show _=((max d 0:Nat):Int);omega
  ·refine yv 22 (v:=.bool l) (v':=.bool true) (zc hq1) kr<|zh kr kr<|rL [.v,itI d 1,.v] H15 kr fun gs17 w17 H17=>?_;clear H15;refine wW<|rS [.v,.v] H17 kr fun gs18 w18 H18=>?_;clear H17;refine zk kr<|wV ?_;refine⟨[.int .i64 ((d+1:Nat):Int)],(.tmp (.int .i64 ((d+1:Nat):Int)) kr .nil),?_,H18.below⟩;refine zf ?_;rw[hq1,hd,FoR.done hN (by omega)];show _=((max d 0+1:Nat):Int);omega
theorem ziS (l:Bool)(s:Qa)(p:Qc)(n c:Nat)(k:Fo)(hs:s.size<=0x800000000000)(hk6:k.cnt<=1000000):FnP Tryz.prog 51 #[.agg #[.bool l,.string s,.slice p n c]] (fun w=>zq w.heap.size w p n k) (.int .i64 ((dq1 l (dqF k):Nat):Int)):=by
 have key: ∀(m:Nat) (l:Bool) (s:Qa) (p:Qc) (n c:Nat) (k:Fo),s.size<=0x800000000000->k.cnt<=1000000->k.cnt<m->FnP Tryz.prog 51 #[.agg #[.bool l,.string s,.slice p n c]] (fun w=>zq w.heap.size w p n k) (.int .i64 ((dq1 l (dqF k):Nat):Int)):=by
  intro m
  induction m with
  | zero=>intros;omega
  | succ m ih=>intro l s p n c k hs hk6 hkm;exact zp0 m ih l s p n c k hs hk6 hkm
 exact key (k.cnt+1) l s p n c k hs hk6 (by omega)
theorem zp1 (l:Bool)(s:Qa)(p:Qc)(n c:Nat)(k:Fo)(hs:s.size<=0x800000000000):FnP Tryz.prog 91 #[.agg #[.bool l,.string s,.slice p n c]] (fun w=>zq w.heap.size w p n k) (xZ (zC l s (Fo.len k) k)):=by
 refine zR [.tmp 2,.tmp 3] 22 Tryz.func91 fun w hpre=>?_;have H0:=St.start w;have hn:=hpre.1;have hnm:=hpre.2.1;refine rS [.b,.v,.v] H0 kr fun gs1 w1 H1=>?_;clear H0;refine za kr<|zd [0,1,2,3,4,5,6,7] kr kr<|rp [.l 0,.cp (pre:=fun w=>zq w.heap.size w p n k) (zpX l s p n c k (by omega) 4000 (by omega)) [] (fun w hb hd=>(zq.call hpre hb))] H1 kr fun gs2 w2 H2=>wX [2,3,4,5,6,7] ?_;clear H1;by_cases hc1:(jb (1+Fo.cnt k) 4000:Nat)>4000
 ·refine rp [.E (.bool (decide (4000<((jb (1+Fo.cnt k) 4000:Nat):Int)))) (.bool true) (zc (decide_eq_true (by omega))),.v,.n,.n,.n,.v] H2 kr fun gs3 w3 H3=>wX [] ?_;clear H2;refine zb<|zh kr kr<|rS [.v,.v] H3 kr fun gs4 w4 H4=>?_;clear H3;refine zk kr<|wV ?_;refine⟨[.string (⟨#[]⟩),.int .i64 1],(.tmp (.string (⟨#[]⟩)) kr (.tmp (.int .i64 1) kr .nil)),?_,H4.below⟩;rw[show zC l s (Fo.len k) k=_ from zpP (by omega)];rfl
 ·have hcn:k.cnt<4000:=zpQ (by omega);have hwt:=hpre.wt;refine rp [.E (.bool (decide (4000<((jb (1+Fo.cnt k) 4000:Nat):Int)))) (.bool false) (zc (decide_eq_false (by omega))),.v,.l 0,.cp (pre:=fun w=>zq w.heap.size w p n k) (zpZ l s p n c k (by omega)) [] (fun w hb hd=>(zq.call hpre hb))] H2 kr fun gs5 w5 H5=>wX [6,7] ?_;clear H2;rcases (Q4 (pu1 l s k)).symm with hq1 | hq1
  ·refine zL 10 (v:=.bool (pu1 l s k)) (v':=.bool false) (zc hq1) kr<|rp [.v,.v] H5 kr fun gs6 w6 H6=>wX [] ?_;clear H5;refine zb<|zh kr kr<|rS [.v,.v] H6 kr fun gs7 w7 H7=>?_;clear H6;refine zk kr<|wV ?_;refine⟨[.string (⟨#[]⟩),.int .i64 1],(.tmp (.string (⟨#[]⟩)) kr (.tmp (.int .i64 1) kr .nil)),?_,H7.below⟩;rw[show zC l s (Fo.len k) k=_ from zpR hcn hq1];rfl
  ·refine zL 10 (v:=.bool (pu1 l s k)) (v':=.bool true) (zc hq1) kr<|rp [.v,.v] H5 kr fun gs8 w8 H8=>wX [] ?_;clear H5;refine zb<|zi kr kr<|zj kr<|wW<|za kr<|zd [0,1,2] kr kr<|rp [.l 0,.cp (pre:=fun w=>zq w.heap.size w p n k) (ziS l s p n c k (by omega) (by omega)) [] (fun w hb hd=>(zq.call hpre hb))] H8 kr fun gs9 w9 H9=>wX [2] ?_;clear H8;by_cases hc2:(dq1 l (dqF k):Nat)>8
   ·refine rp [.E (.bool (decide (8<((dq1 l (dqF k):Nat):Int)))) (.bool true) (zc (decide_eq_true (by omega)))] H9 kr fun gs10 w10 H10=>wX [] ?_;clear H9;refine zb<|zh kr kr<|rS [.v,.v] H10 kr fun gs11 w11 H11=>?_;clear H10;refine zk kr<|wV ?_;refine⟨[.string (⟨#[]⟩),.int .i64 5],(.tmp (.string (⟨#[]⟩)) kr (.tmp (.int .i64 5) kr .nil)),?_,H11.below⟩;rw[show zC l s (Fo.len k) k=_ from zpS hcn hq1 (by omega)];rfl
   ·refine rp [.E (.bool (decide (8<((dq1 l (dqF k):Nat):Int)))) (.bool false) (zc (decide_eq_false (by omega)))] H9 kr fun gs12 w12 H12=>wX [] ?_;clear H9;refine zb<|zi kr kr<|zj kr<|wW<|rS [.l 0,.cp (pre:=fun w=>zq w.heap.size w p n k) (zeG l s p n c k (by omega) (zaS hq1).1 (zaS hq1).2 (by omega)) [] (fun w hb hd=>(zq.call hpre hb)),.v] H12 kr fun gs13 w13 H13=>?_;clear H12;refine zt [0,1,2,3,4,12,15] fun ρ1=>?_;have HK3:=H13.keep;clear H13;refine za kr<|zd [0,1,2] kr kr<|rp [.v,.v] HK3 kr fun gs14 w14 H14=>wX [2] ?_;clear HK3;by_cases hc4:(Ql (zg (wr1 l s (szF k) (wrF k))):Nat)>4000
    ·refine rp [.E (.bool (decide (4000<(Ql (zg (wr1 l s (szF k) (wrF k))):Int)))) (.bool true) (zc (decide_eq_true (by omega)))] H14 kr fun gs15 w15 H15=>wX [] ?_;clear H14;refine zb<|zh kr kr<|rS [.v,.v] H15 kr fun gs16 w16 H16=>?_;clear H15;refine zk kr<|wV ?_;refine⟨[.string (⟨#[]⟩),.int .i64 2],(.tmp (.string (⟨#[]⟩)) kr (.tmp (.int .i64 2) kr .nil)),?_,H16.below⟩;rw[show zC l s (Fo.len k) k=_ from zpT hcn hq1 (by omega) (by omega)];rfl
    ·refine rp [.E (.bool (decide (4000<(Ql (zg (wr1 l s (szF k) (wrF k))):Int)))) (.bool false) (zc (decide_eq_false (by omega)))] H14 kr fun gs17 w17 H17=>wX [] ?_;clear H14;refine zb<|zi kr kr<|zj kr<|wW<|rS [.v,.v,.v] H17 kr fun gs18 w18 H18=>?_;clear H17;refine zk kr<|wV ?_;refine⟨[.string (zg (wr1 l s (szF k) (wrF k))),.int .i64 0],(.tmp (.string (zg (wr1 l s (szF k) (wrF k)))) kr (.tmp (.int .i64 0) kr .nil)),?_,H18.below⟩;rw[show zC l s (Fo.len k) k=_ from zpU hcn hq1 (by omega) (by omega)];rfl
end Go.Proofs.YtcjejfklpegobaaGreatDoor
