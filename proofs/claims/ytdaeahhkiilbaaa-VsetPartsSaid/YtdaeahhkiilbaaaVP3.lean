/-
  Texts of the proof,part 3.
-/
import Derived.Test.YtdaeahhkiilbaaaProg
import Derived.Laws.Externs
import Derived.MapKept
import Derived.Test.YtdaeahhkiilbaaaVP1
import Derived.Test.YtdaeahhkiilbaaaVP2
set_option maxRecDepth 100000
set_option maxHeartbeats 4000000
set_option linter.unusedVariables false
open Go Go.RowKit
open Bool renaming false_ne_true->QS,eq_false_iff->QZ,true_and->Ry,eq_iff_iff->RS,false_or->Ub,and_false->U6
open Instr renaming findNow->UN,sameNow->UO
open IntKind renaming i64->Qo,u64->UI,wrap_u64->UU
open List renaming getElem?_eq_getElem->Ql,mem_of_getElem?->Qp,take_of_length_le->Qq,getElem?_eq_some_iff->Qt,length_take->Qw,sublist_cons_self->QB,sublist_append_right->QC,drop_of_length_le->QE,length_append->QF,append_assoc->QJ,map_cons->QK,mem_cons->QN,mem_cons_self->QU,mem_cons_of_mem->Q7,getElem?_eq_none->Q9,perm_append_comm_assoc->Rb,perm_append_comm->Rd,filter_append->Re,filter_eq_self->Rf,drop_drop->Rg,filter_cons_of_neg->Rk,nil_sublist->Rl,length_cons->Ru,not_mem_nil->Rv,append_nil->RD,length_drop->RK,map_toArray->RN,nodup_cons->RP,length_filter_le->RV,getElem?_drop->R1,map_nil->R5,getElem?_take->R7,filter_cons_of_pos->R9,ext_getElem?->Ue,take_take->Ug,mem_append_left->Ul,sublist_append_left->Uz,take_append_drop->UJ,toList_toArray->UT
open List.Sublist renaming cons_cons->Qx,append->Q8,refl->Rz
open MapKept renaming run_getObj_map->R3,run_checkKey->Ud,run_findKey->Uk
open Nat renaming le_of_ble_eq_true->Qr,le_refl->Qs,zero_add->Qy,zero_le->QH,mul_le_mul_right->QR,le_trans->Ro,min_eq_left->Rx,add_zero->RB,lt_succ_self->R0,not_lt_zero->Ua,min->Ur,add_mul->Ux,min_le_left->UQ
open Obj renaming cells->Qk
open Op renaming bytesLess->RZ
open Result renaming andThen_ok->QA,andThen->UH
open Sem renaming run_bind->QM,run_pure->RY
open World renaming frozen?->UM,shape?->US
open _root_.Array renaming length_toList->QD,getElem?_toList->Rr
open _root_.ByteArray renaming size->Qu
namespace Go.Proofs.Ytdaeahhkiilbaaa
section
open D2 (Gh)
theorem zZ {w w':World}{b:Nat}{o:Obj}(h:w.heap[b]? =some o)(hb:Below w.heap.size w w'):w'.heap[b]? =some o:=by rw[hb.block b (zj h)];exact h
theorem zaJ (x y:Qa):(!(RZ x.toList y.toList))= !(zf (tl x) (tl y)):=by rw[jH]
def qp (a:Qa):Nat->Qi->Int
 | _,[]=> -1
 | k,x::r=>if x=a then (k:Int) else qp a (k+1) r
theorem zaK (a:Qa): ∀(L:Qi) (k:Nat),decide (qp a k L≥0)=zK a L
 | [],k=>rfl
 | x::r,k=>by
  unfold qp zK;by_cases h:x=a
  ·rw[if_pos h,decide_eq_true h];exact decide_eq_true (by omega)
  ·rw[if_neg h,decide_eq_false h,Ub];exact zaK a r (k+1)
theorem zdG (p:Qc)(n c:Nat)(L:Qi)(a:Qa)(hL:L.length<=1000000):FnP Try.prog 76 #[.slice p n c,.string a] (fun w=>AtF sS w p n L) (.int .i64 (qp a 0 L)):=by
 refine FnP.intro (c:=zk Try.f76) [.tmp 4] 19 Try.func76 kr kr kr fun w hP=>?_;have hn:=hP.1;have H0:=St.start w;refine rS [.v] H0 kr fun gs1 w1 H1=>zb kr<|rS [.v,.v,.v] H1 kr fun gs2 w2 H2=>yk 8 7 9 18 0 1 n (by omega) (fun i ρ ww=>qp a 0 L=qp a i (L.drop i)/\St w.heap.size w ww []/\Is [(0,.slice p n c),(1,.string a),(7,iN n),(8,iN i)] ρ) (by rintro i _ ww ⟨_,_,_,rfl⟩;exact⟨kr,kr⟩) ⟨rfl,H2.as kr,isK⟩ ?_ ?_
 ·clear H0 H1 H2;rintro i _ w3 hi ⟨hst,H3,_,rfl⟩;obtain⟨x,hx⟩:∃x,L[i]? =some x:=⟨_,Ql (by omega)⟩
  obtain⟨bl,off,C,T,fz,hp,hh,hR⟩:=hP.row2 (by omega);have hcx:C[off+i*1]? =some (.string x):=hR.cell hx 0 (by decide);rw[qs hx]at hst;change qp a 0 L=(if x=a then (i:Int) else qp a (i+1) (L.drop (i+1)))at hst;refine rS [.v,.v] H3 kr fun gs4 w4 H4=>?_;by_cases e:a=x
  ·refine rS [.v,.v,.v,.o (ins:=[((.tmp 12),.slice p n c),((.tmp 13),iN i)]) (v:=.pointer (some ⟨bl,off+i*1,none⟩)) (fun ρ o w ho hi2=>zp (kd:=.i64) (t:=22) (e:=9) (K:=1) (bytes:=16) kr (x:=(.tmp 12)) (y:=(.tmp 13)) bl off n c i hp ho hi2.1 hi2.2.1 (by omega) w),.fs (off:=off+i*1) (v:=.string x) hh (zj hh) hcx,.E (.bool (a.toList==x.toList)) (.bool true) (za (yS _ _ e))] H4 kr fun gs5 w5 H5=>zq<|rS [.v,.v] H5 kr fun gs6 w6 H6=>?_;exact rRe [.tmp 4] [] (v:=iN i) (v':=.int .i64 (qp a 0 L)) H6 (ze (by rw[hst,if_pos e.symm])) kr
  ·refine rS [.v,.v,.v,.o (ins:=[((.tmp 12),.slice p n c),((.tmp 13),iN i)]) (v:=.pointer (some ⟨bl,off+i*1,none⟩)) (fun ρ o w ho hi2=>zp (kd:=.i64) (t:=22) (e:=9) (K:=1) (bytes:=16) kr (x:=(.tmp 12)) (y:=(.tmp 13)) bl off n c i hp ho hi2.1 hi2.2.1 (by omega) w),.fs (off:=off+i*1) (v:=.string x) hh (zj hh) hcx,.E (.bool (a.toList==x.toList)) (.bool false) (za (yO _ _ e))] H4 kr fun gs5 w5 H5=>zu ?_;exact⟨kr,by rw[hst,if_neg (fun q=>e q.symm)],H5.as kr,isK⟩
 ·rintro _ w3 ⟨hst,H3,_,rfl⟩;rw[QE (by omega)]at hst;refine wW<|rS [.v] H3 kr fun gs4 w4 H4=>?_;exact rRe [.tmp 4] [] (v:=.int .i64 (-1)) (v':=.int .i64 (qp a 0 L)) H4 (ze hst.symm) kr
theorem zdH (p:Qc)(n c:Nat)(L:Qi)(a:Qa)(hL:L.length<=1000000):FnP Try.prog 60 #[.slice p n c,.string a] (fun w=>AtF sS w p n L) (.bool (zK a L)):=by
 refine FnP.intro (c:=zk Try.f60) [.tmp 4] 9 Try.func60 kr kr kr fun w hP=>?_;have hi:=zdG p n c L a hL;refine rS [.v] (St.start w) kr fun gs1 w1 H1=>rS [.v,.v,.cp (pre:=fun w=>AtF sS w p n L) hi [] (fun w hb hd=>hP.call hb),.E (.bool (decide (qp a 0 L≥0))) (.bool (zK a L)) (za (zaK a L 0)),.v] H1 kr fun gs2 w2 H2=>?_;exact rR [.tmp 4] [] (.bool (zK a L)) H2 kr
theorem vD (q:Qc)(m cq:Nat)(L:Qi)(p:Qc)(n c:Nat)(a:Qa)(hL:L.length<=1000000):FnP Try.prog 47 #[snV q m cq p n c,.string a] (fun w=>AtF sS w q m L) (.bool (zK a L)):=by
 refine FnP.intro (c:=zk Try.f47) [.tmp 4] 9 Try.func47 kr kr kr fun w hP=>?_;have hi:=zdH q m cq L a hL;refine rS [.b,.v] (St.start w) kr fun gs1 w1 H1=>rS [.v,.l 0,.v,.cp (pre:=fun w=>AtF sS w q m L) hi [] (fun w hb hd=>hP.call hb),.v] H1 kr fun gs2 w2 H2=>?_;exact rR [.tmp 4] [] (.bool (zK a L)) H2 kr
theorem zdI (q:Qc)(m cq:Nat)(p:Qc)(n c:Nat)(V:List Bal)(b:Bal)(hV:V.length<=1000000):FnP Try.prog 51 #[snV q m cq p n c,blV b] (fun w=>AtF blS w p n V) (iN (zv b V)):=by
 refine FnP.intro (c:=zk Try.f51) [.tmp 4] 31 Try.func51 kr kr kr fun w hP=>?_;have hn:=hP.1;have H0:=St.start w;refine rS [.b,.b,.v] H0 kr fun gs1 w1 H1=>rS [.v] H1 kr fun gs2 w2 H2=>zb kr<|rS [.v,.l 0,.v,.v] H2 kr fun gs3 w3 H3=>yk 11 10 12 29 0 1 n (by omega) (fun i ρ ww=>St w.heap.size w ww [((gs1 0).b,snO q m cq p n c),((gs1 1).b,blO b)]/\Is [(3,Qe (gs1 1).b),(5,iN (zv b (V.take i))),(9,.slice p n c),(10,iN n),(11,iN i)] ρ) (by rintro i _ ww ⟨_,_,rfl⟩;exact⟨kr,kr⟩) ⟨H3.as kr,isK⟩ ?_ ?_
 ·clear H0 H1 H2 H3;rintro i _ w4 hi ⟨H4,_,rfl⟩;obtain⟨x,hx⟩:∃x,V[i]? =some x:=⟨_,Ql (by omega)⟩
  obtain⟨bl,off,C,T,fz,hp,hh,hR⟩:=hP.row2 (by omega);have hle:=zak b (V.take i);rw[Qw]at hle;have hsn:zv b (V.take (i+1))=zv b (V.take i)+if yl b x=true then 1 else 0:=by rw[zX hx,zdl]
  refine rS [.o (ins:=[((.tmp 9),.slice p n c),((.tmp 11),iN i)]) (v:=.pointer (some ⟨bl,off+i*3,none⟩)) (fun ρ o w ho hi2=>zp (kd:=.i64) (t:=30) (e:=56) (K:=3) (bytes:=40) kr (x:=(.tmp 9)) (y:=(.tmp 11)) bl off n c i hp ho hi2.1 hi2.2.1 (by omega) w),.fp (off:=off+i*3) (n:=3) (W:=blC x) hh (zj hh) (hR _ _ hx).1 (hR _ _ hx).2,.a,.s 2] H4 kr fun gs4 w5 H5=>?_;have drop1: ∀ {ww:World},St w.heap.size w ww [((gs1 0).b,snO q m cq p n c),((gs1 1).b,blO b),((gs4 2).b,blO x)]->St w.heap.size w ww [((gs1 0).b,snO q m cq p n c),((gs1 1).b,blO b)]:=fun H=>H.sub (Uz [_,_] [_]);by_cases e:x.2.1=b.2.1
  ·refine rS [.v,.l 2,.v,.l 1,.E (.bool (x.2.1.toList==b.2.1.toList)) (.bool true) (za (yS _ _ e)),.v,.v,.l 2,.v,.l 1,.E (.bool (x.2.2==b.2.2)) (.bool (yl b x)) (za (by unfold yl;rw[decide_eq_true e];rfl)),.v] H5 kr fun gs5 w6 H6=>?_;by_cases hf:yl b x=true
   ·refine jg 26 (v:=.bool (yl b x)) (v':=.bool true) (by rw[hf]) kr<|zq ?_;rw[if_pos hf]at hsn;refine rL [.v,.E (.int .i64 (Qo.wrap (((zv b (V.take i):Nat):Int)+1))) (iN (zv b (V.take (i+1)))) (ze (by rw[hsn];exact zA (a:=zv b (V.take i)) (b:=1) (by omega))),.v] H6 kr fun gs6 w7 H7=>?_;exact⟨kr,drop1 (H7.as kr),isK⟩
   ·refine jg 26 (v:=.bool (yl b x)) (v':=.bool false) (by rw[QZ.2 hf]) kr<|zu ?_;rw[if_neg hf,RB]at hsn;exact⟨kr,drop1 (H6.as kr),(congrArg (fun k=>Is [(3,Qe (gs1 1).b),(5,iN k),(9,.slice p n c),(10,iN n),(11,iN (i+1))] _) hsn).mpr isK⟩
  ·refine rS [.v,.l 2,.v,.l 1,.E (.bool (x.2.1.toList==b.2.1.toList)) (.bool false) (za (yO _ _ e)),.v,.n,.n,.n,.n,.n,.v] H5 kr fun gs5 w6 H6=>zu ?_;rw[if_neg (by unfold yl;rw[decide_eq_false e];exact QS),RB]at hsn;exact⟨kr,drop1 (H6.as kr),(congrArg (fun k=>Is [(3,Qe (gs1 1).b),(5,iN k),(9,.slice p n c),(10,iN n),(11,iN (i+1))] _) hsn).mpr isK⟩
 ·rintro _ w4 ⟨H4,_,rfl⟩;rw[Qq (by omega)];refine wW<|rS [.v,.v] H4 kr fun gs4 w5 H5=>?_;exact rR [.tmp 4] [] (iN (zv b V)) H5 kr
theorem zaL (q:Qc)(m cq:Nat)(L:Qi)(p:Qc)(n c:Nat)(b:Bal)(hL:L.length<=1000000):FnP Try.prog 43 #[snV q m cq p n c,blV b] (fun w=>AtF sS w q m L) (.bool (zP L b)):=by
 refine FnP.intro (c:=zk Try.f43) [.tmp 4] 24 Try.func43 kr kr kr fun w hP=>?_;have h1:=vD q m cq L p n c b.1 hL;have h2:=vD q m cq L p n c b.2.1 hL;refine rS [.b,.b,.v] (St.start w) kr fun gs1 w1 H1=>?_;unfold zP;cases e1:zK b.1 L with
 | false=>
  rw[e1]at h1;refine dS [.l 0,.v,.l 1,.cp (pre:=fun w=>AtF sS w q m L) h1 [] (fun w hb hd=>hP.call hb),.v,.n,.n,.n,.n,.v,.v,.n,.n,.n,.n,.n,.n,.n,.v,.v] H1 kr fun w2 H2=>?_;exact rR [.tmp 4] [] (.bool false) H2 kr
 | true=>
  rw[e1]at h1;by_cases e2:b.2.1.size=20
  ·rw[decide_eq_true e2];refine dS [.l 0,.v,.l 1,.cp (pre:=fun w=>AtF sS w q m L) h1 [] (fun w hb hd=>hP.call hb),.v,.v,.l 1,.v,.E (.bool (((b.2.1.size:Nat):Int)==20)) (.bool true) (za (beq_iff_eq.2 (by omega))),.v,.v,.l 0,.v,.l 1,.cp (pre:=fun w=>AtF sS w q m L) h2 [] (fun w hb hd=>hP.call hb),.v,.l 1,.E (.bool (zK b.2.1 L !=b.2.2)) (.bool (zK b.2.1 L !=b.2.2)) rfl,.v,.v] H1 kr fun w2 H2=>?_;exact rR [.tmp 4] [] (.bool (zK b.2.1 L !=b.2.2)) H2 kr
  ·rw[decide_eq_false e2];refine dS [.l 0,.v,.l 1,.cp (pre:=fun w=>AtF sS w q m L) h1 [] (fun w hb hd=>hP.call hb),.v,.v,.l 1,.v,.E (.bool (((b.2.1.size:Nat):Int)==20)) (.bool false) (za (beq_eq_false_iff_ne.2 (by omega))),.v,.v,.n,.n,.n,.n,.n,.n,.n,.v,.v] H1 kr fun w2 H2=>?_;exact rR [.tmp 4] [] (.bool false) H2 kr
theorem zdJ (q:Qc)(m cq:Nat)(L:Qi)(p:Qc)(n c:Nat)(b:Bal)(hL:L.length<=1000000):FnP Try.prog 48 #[snV q m cq p n c,blV b] (fun w=>AtF sS w q m L) (.bool (ja L b)):=by
 refine FnP.intro (c:=zk Try.f48) [.tmp 4] 19 Try.func48 kr kr kr fun w hP=>?_;have hm:=hP.1;have h1:=zaL q m cq L p n c b hL;refine rS [.b,.b,.v] (St.start w) kr fun gs1 w1 H1=>zb kr ?_;unfold ja;cases ef:zP L b with
 | false=>
  rw[ef]at h1;refine rS [.l 0,.l 1,.cp (pre:=fun w=>AtF sS w q m L) h1 [] (fun w hb hd=>hP.call hb),.v] H1 kr fun gs2 w2 H2=>zq<|rS [.v] H2 kr fun gs3 w3 H3=>?_;exact rR [.tmp 4] [] (.bool false) H3 kr
 | true=>
  rw[ef]at h1;refine rS [.l 0,.l 1,.cp (pre:=fun w=>AtF sS w q m L) h1 [] (fun w hb hd=>hP.call hb),.v] H1 kr fun gs2 w2 H2=>zu<|wW<|zb kr ?_;obtain⟨b1,b2,b3⟩:=b;cases b3 with
  | true=>
   refine rS [.v,.l 1] H2 kr fun gs3 w3 H3=>zq<|rS [.v,.l 0,.v,.E (.bool (decide ((m:Int)<16))) (.bool (decide (L.length<16))) (za (by rw[RS,decide_eq_true_iff,decide_eq_true_iff];omega)),.v] H3 kr fun gs4 w4 H4=>?_;exact rR [.tmp 4] [] (.bool (decide (L.length<16))) H4 kr
  | false=>
   refine rS [.v,.l 1] H2 kr fun gs3 w3 H3=>zu<|wW<|rS [.v,.l 0,.v,.E (.bool (decide ((m:Int)>1))) (.bool (decide (1<L.length))) (za (by rw[RS,decide_eq_true_iff,decide_eq_true_iff];omega)),.v] H3 kr fun gs4 w4 H4=>?_;exact rR [.tmp 4] [] (.bool (decide (1<L.length))) H4 kr
theorem zdK (p:Qc)(n c:Nat)(L:Qi)(hL:L.length<=1000000):FnP Try.prog 31 #[.slice p n c] (fun w=>AtF sS w p n L) (.bool (zH L)):=by
 refine FnP.intro (c:=zk Try.f31) [.tmp 2] 37 Try.func31 kr kr kr fun w hP=>?_;have hn:=hP.1;have H0:=St.start w;refine rS [.v] H0 kr fun gs1 w1 H1=>zb kr ?_;by_cases h0:n=0
 ·refine rS [.v,.v,.E (.bool ((n:Int)==0)) (.bool true) (za (beq_iff_eq.2 (by omega))),.v,.n,.n,.n,.v] H1 kr fun gs2 w2 H2=>zq<|rS [.v] H2 kr fun gs3 w3 H3=>?_;exact rRe [.tmp 2] [] (v:=.bool false) (v':=.bool (zH L)) H3 (za (by unfold zH;rw[decide_eq_false (show ¬0<L.length by omega),Bool.false_and,U6])) kr
 by_cases h16:16<n
 ·refine rS [.v,.v,.E (.bool ((n:Int)==0)) (.bool false) (za (beq_eq_false_iff_ne.2 (by omega))),.v,.v,.v,.E (.bool (decide ((n:Int)>16))) (.bool true) (za (decide_eq_true (by omega))),.v] H1 kr fun gs2 w2 H2=>zq<|rS [.v] H2 kr fun gs3 w3 H3=>?_;exact rRe [.tmp 2] [] (v:=.bool false) (v':=.bool (zH L)) H3 (za (by unfold zH;rw[decide_eq_false (show ¬L.length<=16 by omega),U6,U6])) kr
 refine rS [.v,.v,.E (.bool ((n:Int)==0)) (.bool false) (za (beq_eq_false_iff_ne.2 (by omega))),.v,.v,.v,.E (.bool (decide ((n:Int)>16))) (.bool false) (za (decide_eq_false (by omega))),.v] H1 kr fun gs2 w2 H2=>zu<|wW ?_;have hsm:zH L=yA none L:=by unfold zH;rw[decide_eq_true (show 0<L.length by omega),decide_eq_true (show L.length<=16 by omega)];simp
 rw[hsm];refine zb kr<|rS [.v,.v,.v] H2 kr fun gs3 w3 H3=>yk 15 14 16 36 0 1 n (by omega) (fun i ρ ww=>yA none L=yA (yG L i) (L.drop i)/\St w.heap.size w ww []/\Is [(0,.slice p n c),(13,.slice p n c),(14,iN n),(15,iN i)] ρ) (by rintro i _ ww ⟨_,_,_,rfl⟩;exact⟨kr,kr⟩) ⟨rfl,H3.as kr,isK⟩ ?_ ?_
 ·clear H0 H1 H2 H3;rintro i _ w4 hi ⟨hst,H5,_,rfl⟩;obtain⟨x,hx⟩:∃x,L[i]? =some x:=⟨_,Ql (by omega)⟩
  obtain⟨bl,off,C,T,fz,hp,hh,hR⟩:=hP.row2 (by omega);have hcx:C[off+i*1]? =some (.string x):=hR.cell hx 0 (by decide);rw[qs hx]at hst;change yA none L=(decide (x.size=20)&&(upB (yG L i) x&&yA (some x) (L.drop (i+1))))at hst;refine rS [.v,.o (ins:=[((.tmp 13),.slice p n c),((.tmp 15),iN i)]) (v:=.pointer (some ⟨bl,off+i*1,none⟩)) (fun ρ o w ho hi2=>zp (kd:=.i64) (t:=22) (e:=9) (K:=1) (bytes:=16) kr (x:=(.tmp 13)) (y:=(.tmp 15)) bl off n c i hp ho hi2.1 hi2.2.1 (by omega) w),.fs (off:=off+i*1) (v:=.string x) hh (zj hh) hcx,.v,.v] H5 kr fun gs5 w6 H7=>?_;by_cases h1:x.size=20
  case neg=>
   refine rS [.v,.v,.E (.bool (!((x.size:Int)==20))) (.bool true) (za (by rw[beq_eq_false_iff_ne.2 (by omega)];rfl)),.v,.n,.n,.n,.n,.n,.n,.n,.n,.n,.n,.n,.v] H7 kr fun gs6 w7 H8=>zq<|rS [.v] H8 kr fun gs7 w8 H9=>?_;exact rRe [.tmp 2] [] (v:=.bool false) (v':=.bool (yA none L)) H9 (za (by rw[hst,decide_eq_false h1];rfl)) kr
  rw[decide_eq_true h1,Ry]at hst;by_cases hi0:i=0
  ·have hu:upB (yG L i) x=true:=by
    have:yG L i=none:=by unfold yG;rw[if_pos hi0]
    rw[this];rfl
   refine rS [.v,.v,.E (.bool (!((x.size:Int)==20))) (.bool false) (za (by rw[beq_iff_eq.2 (show (x.size:Int)=20 by omega)];rfl)),.v,.v,.E (.bool (decide ((i:Int)>0))) (.bool false) (za (decide_eq_false (by omega))),.v,.n,.n,.n,.n,.n,.n,.n,.v,.v] H7 kr fun gs6 w7 H8=>zu ?_;exact⟨kr,by rw[xX hx,hst,hu];rfl,H8.as kr,isK⟩
  ·obtain⟨y,hy⟩:∃y,L[i-1]? =some y:=⟨_,Ql (by omega)⟩
   have hcy:C[off+(i-1)*1]? =some (.string y):=hR.cell hy 0 (by decide);have hpv:upB (yG L i) x=zf (tl y) (tl x):=by
    have:yG L i=some y:=by unfold yG;rw[if_neg hi0,hy]
    rw[this];rfl
   rw[hpv]at hst;cases hup:zf (tl y) (tl x) with
   | false=>
    refine rS [.v,.v,.E (.bool (!((x.size:Int)==20))) (.bool false) (za (by rw[beq_iff_eq.2 (show (x.size:Int)=20 by omega)];rfl)),.v,.v,.E (.bool (decide ((i:Int)>0))) (.bool true) (za (decide_eq_true (by omega))),.v,.v,.v,.E (.int .i64 (Qo.wrap ((i:Int)-1))) (iN (i-1)) (ze (qg (a:=i) (b:=1) (by omega))),.o (ins:=[((.tmp 27),.slice p n c),((.tmp 29),iN (i-1))]) (v:=.pointer (some ⟨bl,off+(i-1)*1,none⟩)) (fun ρ o w ho hi2=>zp (kd:=.i64) (t:=22) (e:=9) (K:=1) (bytes:=16) kr (x:=(.tmp 27)) (y:=(.tmp 29)) bl off n c (i-1) hp ho hi2.1 hi2.2.1 (by omega) w),.fs (off:=off+(i-1)*1) (v:=.string y) hh (zj hh) hcy,.v,.E (.bool (!(RZ y.toList x.toList))) (.bool true) (za (by rw[zaJ,hup];rfl)),.v,.v] H7 kr fun gs6 w7 H8=>zq<|rS [.v] H8 kr fun gs7 w8 H9=>?_;exact rRe [.tmp 2] [] (v:=.bool false) (v':=.bool (yA none L)) H9 (za (by rw[hst,hup];rfl)) kr
   | true=>
    refine rS [.v,.v,.E (.bool (!((x.size:Int)==20))) (.bool false) (za (by rw[beq_iff_eq.2 (show (x.size:Int)=20 by omega)];rfl)),.v,.v,.E (.bool (decide ((i:Int)>0))) (.bool true) (za (decide_eq_true (by omega))),.v,.v,.v,.E (.int .i64 (Qo.wrap ((i:Int)-1))) (iN (i-1)) (ze (qg (a:=i) (b:=1) (by omega))),.o (ins:=[((.tmp 27),.slice p n c),((.tmp 29),iN (i-1))]) (v:=.pointer (some ⟨bl,off+(i-1)*1,none⟩)) (fun ρ o w ho hi2=>zp (kd:=.i64) (t:=22) (e:=9) (K:=1) (bytes:=16) kr (x:=(.tmp 27)) (y:=(.tmp 29)) bl off n c (i-1) hp ho hi2.1 hi2.2.1 (by omega) w),.fs (off:=off+(i-1)*1) (v:=.string y) hh (zj hh) hcy,.v,.E (.bool (!(RZ y.toList x.toList))) (.bool false) (za (by rw[zaJ,hup];rfl)),.v,.v] H7 kr fun gs6 w7 H8=>zu ?_;exact⟨kr,by rw[xX hx,hst,hup];rfl,H8.as kr,isK⟩
 ·rintro _ w4 ⟨hst,H5,_,rfl⟩;rw[QE (by omega)]at hst;refine wW<|rS [.v] H5 kr fun gs6 w7 H8=>?_;exact rRe [.tmp 2] [] (v:=.bool true) (v':=.bool (yA none L)) H8 (za hst.symm) kr
theorem zaM (x b:Bal)(k:Nat):FnP Try.prog 55 #[blV x,Qe k] (fun w=>w.heap[k]? =some (blO b)) (.bool (aheadB x b)):=by
 refine FnP.intro (c:=zk Try.f55) [.tmp 3] 19 Try.func55 kr kr kr fun w hP=>rS [.b,.v] (St.start w) kr fun gs1 w1 H1=>zb kr ?_;by_cases e:x.2.1=b.2.1
 ·refine rS [.v,.l 0,.v,.fs (off:=1) (v:=.string b.2.1) hP (zj hP) kr,.E (.bool (!(x.2.1.toList==b.2.1.toList))) (.bool false) (za (by rw[yS _ _ e];rfl))] H1 kr fun gs2 w2 H2=>zu<|wW<|rS [.v,.l 0,.v,.fs (off:=0) (v:=.string b.1) hP (zj hP) kr,.E (.bool (RZ x.1.toList b.1.toList)) (.bool (aheadB x b)) (za (by unfold aheadB;rw[if_pos e,jH])),.v] H2 kr fun gs3 w3 H3=>?_;exact rR [.tmp 3] [] (.bool (aheadB x b)) H3 kr
 ·refine rS [.v,.l 0,.v,.fs (off:=1) (v:=.string b.2.1) hP (zj hP) kr,.E (.bool (!(x.2.1.toList==b.2.1.toList))) (.bool true) (za (by rw[yO _ _ e];rfl))] H1 kr fun gs2 w2 H2=>zq<|rS [.v,.l 0,.v,.fs (off:=1) (v:=.string b.2.1) hP (zj hP) kr,.E (.bool (RZ x.2.1.toList b.2.1.toList)) (.bool (aheadB x b)) (za (by unfold aheadB;rw[if_neg e,jH])),.v] H2 kr fun gs3 w3 H3=>?_;exact rR [.tmp 3] [] (.bool (aheadB x b)) H3 kr
abbrev ahV (k:Nat):Value:=.func (.func 55) #[] #[Qe k]
theorem zaN (b:Bal):FnT Try.prog 44 #[blV b] (fun _=>True) (fun v l=> ∃k,v=ahV k/\l=[(k,blO b)]):=by
 refine FnT.intro (c:=zk Try.f44) [.tmp 2] 4 Try.func44 kr kr kr fun w _=>rS [.b,.v] (St.start w) kr fun gs1 w1 H1=>rS [.v,.v] H1 kr fun gs2 w2 H2=>rRr [.tmp 2] [] (ahV (gs1 0).b) (ys w.heap.size w (fun v l=> ∃k,v=ahV k/\l=[(k,blO b)])) H2 kr ?_;exact⟨_,⟨(gs1 0).b,rfl,rfl⟩,H2.as kr⟩
abbrev ki (x:Operand):Op:=.call { callee:=.value (.func 44),args:=#[x],argTypes:=#[56] }
theorem zaO {ρ:Env}{o:Oper}{w:World}{x:Operand}{b:Bal}(ho:o.op=ki x)(hx:ev ρ x=blV b):D2.Runs Try.prog (fun v w'=> ∃g:Gh,v=ahV g.b/\Below w.heap.size w w'/\w.heap.size<=g.b/\w'.heap[g.b]? =some (blO b)) ((execOp (ev ρ) o).run Try.prog w):=by
 have e:(execOp (ev ρ) o).run Try.prog w=.ok (.enter 44 #[blV b]) w:=by
  have ha:(#[x]:Array Operand).map (ev ρ)=#[blV b]:=by simp[hx]
  unfold execOp;rw[ho];simp only[ki,resolve,ha];rfl
 rw[e];refine Calls.mono (zaN b w trivial) ?_;rintro e w' ⟨v,T,rfl,⟨k,rfl,rfl⟩,hT⟩;exact⟨_,rfl,{ b:=k },rfl,St.below hT,(St.ge hT 0 rfl),St.get hT 0 rfl⟩
theorem zdL (q:Qc)(mm cq:Nat)(L:Qi)(p:Qc)(n c:Nat)(V:List Bal)(hL:L.length<=1000000)(hV:V.length<=1000000):FnP Try.prog 32 #[snV q mm cq p n c] (fun w=>yf w L V q mm p n) (.bool (qc L V)):=by
 refine FnP.intro (c:=zk Try.f32) [.tmp 2] 55 Try.func32 kr kr kr fun w hP=>?_;obtain⟨hS,hVV⟩:=hP;have hmm:=hS.1;have hn:=hVV.1;have H0:=St.start w;refine rS [.b,.v] H0 kr fun gs1 w1 H1=>rS [.v] H1 kr fun gs2 w2 H2=>zb kr<|rS [.v,.l 0,.v,.v] H2 kr fun gs3 w3 H3=>yk 9 8 10 54 0 1 n (by omega) (fun i ρ ww=> ∃m,qc L V=jI L (yB V i) m (V.drop i)/\m<=i/\St w.heap.size w ww [((gs1 0).b,snO q mm cq p n c)]/\Is [(1,Qe (gs1 0).b),(3,iN m),(7,.slice p n c),(8,iN n),(9,iN i)] ρ) (by rintro i _ ww ⟨_,_,_,_,_,rfl⟩;exact⟨kr,kr⟩) ⟨0,rfl,Qs _,H3.as kr,isK⟩ ?_ ?_
 ·clear H0 H1 H2 H3;rintro i _ w4 hi ⟨k,hst,hki,H4,_,rfl⟩;obtain⟨x,hx⟩:∃x,V[i]? =some x:=⟨_,Ql (by omega)⟩
  obtain⟨bl,off,C,T,fz,hp,hh,hR⟩:=hVV.row2 (by omega);have hfit:=zaL q mm cq L p n c x hL;rw[qs hx]at hst;change qc L V=(zP L x&&(qt (yB V i) x&&(decide (2*qY (yB V i) k x<=L.length)&&jI L (some x) (qY (yB V i) k x) (V.drop (i+1)))))at hst;rw[<-zdm hx]at hst;refine rS [.v,.o (ins:=[((.tmp 7),.slice p n c),((.tmp 9),iN i)]) (v:=.pointer (some ⟨bl,off+i*3,none⟩)) (fun ρ o w ho hi2=>zp (kd:=.i64) (t:=30) (e:=56) (K:=3) (bytes:=40) kr (x:=(.tmp 7)) (y:=(.tmp 9)) bl off n c i hp ho hi2.1 hi2.2.1 (by omega) w),.fp (off:=off+i*3) (n:=3) (W:=blC x) hh (zj hh) (hR _ _ hx).1 (hR _ _ hx).2,.a,.v,.s 1] H4 kr fun gs4 w5 HA=>zb kr ?_;cases ef:zP L x with
  | false=>
   rw[ef]at hfit;refine rS [.l 0,.l 1,.cp (pre:=fun w=>AtF sS w q mm L) hfit [] (fun w hb hd=>hS.call hb),.v] HA kr fun gs5 w6 H5=>zq<|rS [.v] H5 kr fun gsr wr Hr=>?_;exact rRe [.tmp 2] [] (v:=.bool false) (v':=.bool (qc L V)) Hr (za (by rw[hst,ef];rfl)) kr
  | true=>
   rw[ef]at hfit;refine rS [.l 0,.l 1,.cp (pre:=fun w=>AtF sS w q mm L) hfit [] (fun w hb hd=>hS.call hb),.v] HA kr fun gs5 w6 H5=>zu<|wW<|zb kr ?_;by_cases hi0:i=0
   ·have hp0:yB V i=none:=by unfold yB;rw[if_pos hi0]
    have ea:qt (yB V i) x=true:=by rw[hp0];rfl
    refine dS [.v,.E (.bool (decide ((i:Int)>0))) (.bool false) (za (decide_eq_false (by omega))),.v,.n,.n,.n,.n,.n,.n,.n,.n,.n,.n,.v] H5 kr fun w6 H6=>zu<|wW<|zb kr<|dS [.v,.E (.bool (decide ((i:Int)>0))) (.bool false) (za (decide_eq_false (by omega))),.v,.n,.n,.n,.n,.n,.n,.n,.n,.n,.n,.v] H6 kr fun w7 H7=>zu ?_;have drop1: ∀ {ww:World},St w.heap.size w ww [((gs1 0).b,snO q mm cq p n c),((gs4 3).b,blO x)]->St w.heap.size w ww [((gs1 0).b,snO q mm cq p n c)]:=fun H=>H.sub (Uz [_] [_]);refine wW<|rS [.v,.E (.int .i64 (Qo.wrap ((k:Int)+1))) (iN (k+1)) (ze (zA (a:=k) (b:=1) (by omega))),.v] H7 kr fun gs8 w8 H8=>?_;have hrun:qY (yB V i) k x=k+1:=by rw[hp0];rfl
    rw[hrun]at hst;by_cases h2:2*(k+1)<=L.length
    ·refine rS [.v,.E (.int .i64 (Qo.wrap (2*((k+1:Nat):Int)))) (iN (2*(k+1))) (ze (qE (a:=2) (b:=k+1) (by omega))),.v,.l 0,.v,.E (.bool (decide (((2*(k+1):Nat):Int)>(mm:Int)))) (.bool false) (za (decide_eq_false (by omega)))] H8 kr fun gs9 w9 H9=>zu ?_;exact⟨kr,k+1,hst.trans (by rw[ef,ea,decide_eq_true h2,Ry,Ry,Ry]),by omega,drop1 (H9.as kr),isK⟩
    ·refine rS [.v,.E (.int .i64 (Qo.wrap (2*((k+1:Nat):Int)))) (iN (2*(k+1))) (ze (qE (a:=2) (b:=k+1) (by omega))),.v,.l 0,.v,.E (.bool (decide (((2*(k+1):Nat):Int)>(mm:Int)))) (.bool true) (za (decide_eq_true (by omega)))] H8 kr fun gs9 w9 H9=>zq<|rS [.v] H9 kr fun gsr wr Hr=>?_;exact rRe [.tmp 2] [] (v:=.bool false) (v':=.bool (qc L V)) Hr (za (by rw[hst,ef,ea,decide_eq_false h2];rfl)) kr
   ·obtain⟨y,hy⟩:∃y,V[i-1]? =some y:=⟨_,Ql (by omega)⟩
    have hp0:yB V i=some y:=by unfold yB;rw[if_neg hi0,hy]
    have hcy:C[off+(i-1)*3+1]? =some (.string y.2.1):=hR.cell hy 1 (by decide);have ha:=fun k=>zaM y x k;cases ea':aheadB y x with
    | false=>
     have ea:qt (yB V i) x=false:=by rw[hp0];exact ea'
     rw[ea']at ha;refine dSg (fun gs=>[.v,.E (.bool (decide ((i:Int)>0))) (.bool true) (za (decide_eq_true (by omega))),.v,.l 1,.g [((.tmp 21),blV x)] (ki (.tmp 21)) [] (fun g=>ahV g.b) (.new (blO x)) (fun ρ o w ho hi2 hd hb=>zaO ho hi2.1),.v,.l 0,.v,.E (.int .i64 (Qo.wrap ((i:Int)-1))) (iN (i-1)) (ze (qg (a:=i) (b:=1) (by omega))),.o (ins:=[((.tmp 24),.slice p n c),((.tmp 26),iN (i-1))]) (v:=.pointer (some ⟨bl,off+(i-1)*3,none⟩)) (fun ρ o w ho hi2=>zp (kd:=.i64) (t:=30) (e:=56) (K:=3) (bytes:=40) kr (x:=(.tmp 24)) (y:=(.tmp 26)) bl off n c (i-1) hp ho hi2.1 hi2.2.1 (by omega) w),.fp (off:=off+(i-1)*3) (n:=3) (W:=blC y) hh (zj hh) (hR _ _ hy).1 (hR _ _ hy).2,.cp (pre:=fun w=>w.heap[(gs 4).b]? =some (blO x)) (ha (gs 4).b) [(2,((gs 4).b,blO x))] (fun w hb hd=>hd.1),.v,.v]) H5 kr fun gs w6 H6=>zq<|rS [.v] H6 kr fun gsr wr Hr=>?_;exact rRe [.tmp 2] [] (v:=.bool false) (v':=.bool (qc L V)) Hr (za (by rw[hst,ef,ea];rfl)) kr
    | true=>
     have ea:qt (yB V i) x=true:=by rw[hp0];exact ea'
     rw[ea']at ha;refine dSg (fun gs=>[.v,.E (.bool (decide ((i:Int)>0))) (.bool true) (za (decide_eq_true (by omega))),.v,.l 1,.g [((.tmp 21),blV x)] (ki (.tmp 21)) [] (fun g=>ahV g.b) (.new (blO x)) (fun ρ o w ho hi2 hd hb=>zaO ho hi2.1),.v,.l 0,.v,.E (.int .i64 (Qo.wrap ((i:Int)-1))) (iN (i-1)) (ze (qg (a:=i) (b:=1) (by omega))),.o (ins:=[((.tmp 24),.slice p n c),((.tmp 26),iN (i-1))]) (v:=.pointer (some ⟨bl,off+(i-1)*3,none⟩)) (fun ρ o w ho hi2=>zp (kd:=.i64) (t:=30) (e:=56) (K:=3) (bytes:=40) kr (x:=(.tmp 24)) (y:=(.tmp 26)) bl off n c (i-1) hp ho hi2.1 hi2.2.1 (by omega) w),.fp (off:=off+(i-1)*3) (n:=3) (W:=blC y) hh (zj hh) (hR _ _ hy).1 (hR _ _ hy).2,.cp (pre:=fun w=>w.heap[(gs 4).b]? =some (blO x)) (ha (gs 4).b) [(2,((gs 4).b,blO x))] (fun w hb hd=>hd.1),.v,.v]) H5 kr fun gs w6 H6=>zu<|wW<|zb kr ?_;have drop1: ∀ {ww:World},St w.heap.size w ww [((gs1 0).b,snO q mm cq p n c),((gs4 3).b,blO x),((gs 4).b,blO x)]->St w.heap.size w ww [((gs1 0).b,snO q mm cq p n c)]:=fun H=>H.sub (Uz [_] [_,_]);by_cases ew:y.2.1=x.2.1
     ·refine dS [.v,.E (.bool (decide ((i:Int)>0))) (.bool true) (za (decide_eq_true (by omega))),.v,.v,.l 0,.v,.E (.int .i64 (Qo.wrap ((i:Int)-1))) (iN (i-1)) (ze (qg (a:=i) (b:=1) (by omega))),.o (ins:=[((.tmp 36),.slice p n c),((.tmp 38),iN (i-1))]) (v:=.pointer (some ⟨bl,off+(i-1)*3,none⟩)) (fun ρ o w ho hi2=>zp (kd:=.i64) (t:=30) (e:=56) (K:=3) (bytes:=40) kr (x:=(.tmp 36)) (y:=(.tmp 38)) bl off n c (i-1) hp ho hi2.1 hi2.2.1 (by omega) w),.v,.fs (off:=off+(i-1)*3+1) (v:=.string y.2.1) hh (zj hh) hcy,.v,.l 1,.E (.bool (!(y.2.1.toList==x.2.1.toList))) (.bool false) (za (by rw[yS _ _ ew];rfl)),.v] H6 kr fun w7 H7=>zu<|wW<|rS [.v,.E (.int .i64 (Qo.wrap ((k:Int)+1))) (iN (k+1)) (ze (zA (a:=k) (b:=1) (by omega))),.v] H7 kr fun gs8 w8 H8=>?_;have hrun:qY (yB V i) k x=k+1:=by rw[hp0];show (if y.2.1=x.2.1 then k else 0)+1=_;rw[if_pos ew]
      rw[hrun]at hst;by_cases h2:2*(k+1)<=L.length
      ·refine rS [.v,.E (.int .i64 (Qo.wrap (2*((k+1:Nat):Int)))) (iN (2*(k+1))) (ze (qE (a:=2) (b:=k+1) (by omega))),.v,.l 0,.v,.E (.bool (decide (((2*(k+1):Nat):Int)>(mm:Int)))) (.bool false) (za (decide_eq_false (by omega)))] H8 kr fun gs9 w9 H9=>zu ?_;exact⟨kr,k+1,hst.trans (by rw[ef,ea,decide_eq_true h2,Ry,Ry,Ry]),by omega,drop1 (H9.as kr),isK⟩
      ·refine rS [.v,.E (.int .i64 (Qo.wrap (2*((k+1:Nat):Int)))) (iN (2*(k+1))) (ze (qE (a:=2) (b:=k+1) (by omega))),.v,.l 0,.v,.E (.bool (decide (((2*(k+1):Nat):Int)>(mm:Int)))) (.bool true) (za (decide_eq_true (by omega)))] H8 kr fun gs9 w9 H9=>zq<|rS [.v] H9 kr fun gsr wr Hr=>?_;exact rRe [.tmp 2] [] (v:=.bool false) (v':=.bool (qc L V)) Hr (za (by rw[hst,ef,ea,decide_eq_false h2];rfl)) kr
     ·refine dS [.v,.E (.bool (decide ((i:Int)>0))) (.bool true) (za (decide_eq_true (by omega))),.v,.v,.l 0,.v,.E (.int .i64 (Qo.wrap ((i:Int)-1))) (iN (i-1)) (ze (qg (a:=i) (b:=1) (by omega))),.o (ins:=[((.tmp 36),.slice p n c),((.tmp 38),iN (i-1))]) (v:=.pointer (some ⟨bl,off+(i-1)*3,none⟩)) (fun ρ o w ho hi2=>zp (kd:=.i64) (t:=30) (e:=56) (K:=3) (bytes:=40) kr (x:=(.tmp 36)) (y:=(.tmp 38)) bl off n c (i-1) hp ho hi2.1 hi2.2.1 (by omega) w),.v,.fs (off:=off+(i-1)*3+1) (v:=.string y.2.1) hh (zj hh) hcy,.v,.l 1,.E (.bool (!(y.2.1.toList==x.2.1.toList))) (.bool true) (za (by rw[yO _ _ ew];rfl)),.v] H6 kr fun w7 H7=>zq<|rL [.v] H7 kr fun gsz wz Hz=>wW<|rS [.v,.E (.int .i64 (Qo.wrap (((0:Nat):Int)+1))) (iN (0+1)) (ze (zA (a:=0) (b:=1) (by omega))),.v] Hz kr fun gs8 w8 H8=>?_;have hrun:qY (yB V i) k x=0+1:=by rw[hp0];show (if y.2.1=x.2.1 then k else 0)+1=_;rw[if_neg ew]
      rw[hrun]at hst;by_cases h2:2*(0+1)<=L.length
      ·refine rS [.v,.E (.int .i64 (Qo.wrap (2*((0+1:Nat):Int)))) (iN (2*(0+1))) (ze (qE (a:=2) (b:=0+1) (by omega))),.v,.l 0,.v,.E (.bool (decide (((2*(0+1):Nat):Int)>(mm:Int)))) (.bool false) (za (decide_eq_false (by omega)))] H8 kr fun gs9 w9 H9=>zu ?_;exact⟨kr,0+1,hst.trans (by rw[ef,ea,decide_eq_true h2,Ry,Ry,Ry]),by omega,drop1 (H9.as kr),isK⟩
      ·refine rS [.v,.E (.int .i64 (Qo.wrap (2*((0+1:Nat):Int)))) (iN (2*(0+1))) (ze (qE (a:=2) (b:=0+1) (by omega))),.v,.l 0,.v,.E (.bool (decide (((2*(0+1):Nat):Int)>(mm:Int)))) (.bool true) (za (decide_eq_true (by omega)))] H8 kr fun gs9 w9 H9=>zq<|rS [.v] H9 kr fun gsr wr Hr=>?_;exact rRe [.tmp 2] [] (v:=.bool false) (v':=.bool (qc L V)) Hr (za (by rw[hst,ef,ea,decide_eq_false h2];rfl)) kr
 ·rintro _ w4 ⟨k,hst,_,H5,_,rfl⟩;rw[QE (by omega)]at hst;refine wW<|rS [.v] H5 kr fun gs6 w7 H8=>?_;exact rRe [.tmp 2] [] (v:=.bool true) (v':=.bool (qc L V)) H8 (za hst.symm) kr
theorem vE (q:Qc)(mm cq:Nat)(L:Qi)(p:Qc)(n c:Nat)(V:List Bal)(hL:L.length<=1000000)(hV:V.length<=1000000):FnP Try.prog 21 #[snV q mm cq p n c] (fun w=>yf w L V q mm p n) (.bool (zF L V)):=by
 rw[<-zdD];refine FnP.intro (c:=zk Try.f21) [.tmp 2] 10 Try.func21 kr kr kr fun w hP=>?_;obtain⟨hS,hVV⟩:=hP;have h1:=zdK q mm cq L hL;have h2:=zdL q mm cq L p n c V hL hV;refine rS [.b,.v] (St.start w) kr fun gs1 w1 H1=>?_;cases e1:zH L with
 | false=>
  rw[e1]at h1;refine rS [.v,.l 0,.cp (pre:=fun w=>AtF sS w q mm L) h1 [] (fun w hb hd=>hS.call hb),.v,.n,.n,.v,.v] H1 kr fun gs2 w2 H2=>?_;exact rR [.tmp 2] [] (.bool false) H2 kr
 | true=>
  rw[e1]at h1;refine rS [.v,.l 0,.cp (pre:=fun w=>AtF sS w q mm L) h1 [] (fun w hb hd=>hS.call hb),.v,.l 0,.cp (pre:=fun w=>yf w L V q mm p n) h2 [] (fun w hb hd=>⟨hS.call hb,hVV.call hb⟩),.v,.v] H1 kr fun gs2 w2 H2=>?_;exact rR [.tmp 2] [] (.bool (qc L V)) H2 kr
end
section
open D2 (Gh Runs)
section
variable {P:Program}{B:Nat}{w0:World}
theorem zdM {w:World}(g:Nat)(C:Qd):w.grownBy (w.setRow g C) (some g):=⟨rfl,rfl,rfl,by simp,fun k _ hk=>setRow_other w g k _ (fun e=>hk (by simp[e]))⟩
theorem jb {dT sT e size:Nat}(hu:P.underlying dT=some (.slice e))(hs:(P.info? e).map (·.size)=some size){x y:Operand}{j b off dLen dCap sLen sCap:Nat}{a:Addr}{cur:Qd}{T:TypeId}{cs:List Value}{rd:List (Nat×(Nat×Obj))}
 (hn:cs.length=Ur sLen dLen*size) (hsrc: ∀w,Hd ((j,(b,.cells cur T))::rd) w-> ∀q v,cs[q]? =some v->w.cell? (a.add q)=some v) (hfit:off+cs.length<=cur.size) (h1: ∀v∈cs,v.oneCell'=true):
 ∀(ρ:Env) (o:Oper) (w:World),o.op=.call { callee:=.builtin .copy,args:=#[x,y],argTypes:=#[dT,sT] } ->Ins (ev ρ) [(x,.slice (some ⟨b,off,none⟩) dLen dCap),(y,.slice (some a) sLen sCap)]->Hd ((j,(b,.cells cur T))::rd) w->Below B w0 w->
  Runs P (fun v w'=> ∃g:Gh,v=.int .i64 ((Ur sLen dLen:Nat):Int)/\∃q,(List.lookup j ((j,(b,Qk cur T))::rd))=some q/\w.grownBy w' (some q.1)/\w'.heap[q.1]? =some (.cells (zh cur off cs) T)) ((execOp (ev ρ) o).run P w):=fun ρ o w ho hi hd hb=>by
 have hg:w.heap[b]? =some (.cells cur T):=hd.1;have hrun:=zcb (P:=P) (w:=w) dT sT o.type e size hu hs b off dLen dCap a sLen sCap cur T cs hg hn (hsrc w hd) hfit h1;have hex:(execOp (ev ρ) o).run P w=.ok (.value (.int .i64 ((Ur sLen dLen:Nat):Int))) (w.setRow b (zh cur off cs)):=by
  unfold execOp;simp only[ho,resolve,invoke,builtin,QM,RY,QA,RN,QK,R5,hi.1,hi.2.1,hrun]
 rw[hex];exact⟨default,rfl,(b,.cells cur T),by simp[List.lookup],zdM b _,setRow_heap w b cur _ T (0,0) hg⟩
theorem jc {w:World}{b off:Nat}{cur:Qd}{T:TypeId}{fz:Nat×Nat}{cs:List Value}(hg:w.heap[b]? =some (.cells cur T fz))(h: ∀q v,cs[q]? =some v->cur[off+q]? =some v): ∀q v,cs[q]? =some v->w.cell? ((⟨b,off,none⟩:Addr).add q)=some v:=fun q v hq=>by
 rw[qf];simp[World.cell?,hg,h q v hq]
end
section
variable {α:Type}{S:Fl α}
theorem xl (L:List α)(i:Nat)(h:i<=L.length):cellsF S (L.take i)=(cellsF S L).take (i*S.K):=by
 have e:cellsF S L=cellsF S (L.take i)++cellsF S (L.drop i):=by rw[<-qT,UJ]
 rw[e,List.take_left'];rw[yi,Qw,Rx h]
theorem zaP (L:List α)(i:Nat)(h:i<=L.length):cellsF S (L.drop i)=(cellsF S L).drop (i*S.K):=by
 have e:cellsF S L=cellsF S (L.take i)++cellsF S (L.drop i):=by rw[<-qT,UJ]
 rw[e,List.drop_left'];rw[yi,Qw,Rx h]
end
end
section
open D2 (Gh)
abbrev sxO (x:Qa):Obj:=.cells #[.string x] 9 (0,0)
def zR (B:Nat)(w0:World)(Lr:Qb)(L:List Bal)(v:Value)(w:World):Prop:=∃(q:Qc) (m k:Nat) (row:Qb),v=.slice q m k/\zw blS 56 q m k row L/\St B w0 w (row++Lr)
theorem zdN (p:Qc)(n c:Nat)(L:List Bal)(x:Bal)(bv:Nat)(row Lr:Qb){B:Nat}{w0 w:World}(hrow:zw blS 56 p n c row L)(h:St B w0 w (row++((bv,blO x)::Lr)))(hL:L.length<=1000000):
 Calls Try.prog 63 #[.slice p n c,iN n,Qf bv 1 1] w fun e w'=> ∃v,e=.returned v/\zR B w0 Lr (L++ [x]) v w':=by
 refine yJ (c:=zk Try.f63) (rs:=[.tmp 6]) (N:=95) Try.func63 kr kr kr ?_;have hlen:=hrow.len;rcases hrow with⟨rfl,rfl,rfl,rfl,rfl⟩ | ⟨bw,cur,rfl,rfl,hrw⟩
 ·refine rS [.v] h kr fun gs1 w1 H1=>rS [.v,.v,.v] H1 kr fun gs2 w2 H2=>rS [.v,.v,.v] H2 kr fun gs3 w3 H3=>zb kr<|rS [.v,.v] H3 kr fun gs4 w4 H4=>zE kr kr<|zM kr<|wW<|rS [.v,.v,.v] H4 kr fun gs5 w5 H5=>zb kr<|rS [.v,.v,.v] H5 kr fun gs6 w6 H6=>zN kr kr<|zg [0,1,2,3] kr kr<|rp [.v,.v] H6 kr fun gs7 w7 H7=>wX [2,3] ?_;have H8:St B w0 w7 ((bv,blO x)::Lr):=H7.as kr;refine uK (K':=3) H8 (some 25) 30 56 40 (.tmp 23) (.tmp 24) 0 bv 1 #[.string x.1,.string x.2.1,.bool x.2.2] kr kr kr kr kr kr rfl (jG rfl) (by omega) ?_;intro b' cap' cur' w8 H9 hrw;refine rp [.v] H9 kr fun gs8 w9 H10=>wX []<|zc ?_;have H11:St B w0 w9 ((b',.cells cur' 56)::(bv,blO x)::Lr):=H10.as kr;refine rRr [.tmp 6] [] (Qf b' 1 cap') (zR B w0 Lr ([]++ [x])) H10 kr ?_;refine⟨Qg b',1,cap',_,rfl,.inr ⟨b',cur',rfl,rfl,hrw⟩,H11.sub ?_⟩;exact Qx _ (QB ..)
 ·have hin:(n:Int)≠ -1:=by omega
  refine rS [.v] h kr fun gs1 w1 H1=>rS [.v,.v,.o (ins:=[((.tmp 10),Qf bw n c),((.tmp 11),iN n)]) (v:=.slice (some ⟨bw,if c=n then 0 else 0+n*3,none⟩) (n-n) (c-n)) (fun ρ o w ho hi2=>yb (kz:=.i64) (t:=30) (e:=56) (size:=3) (bytes:=40) kr (x:=(.tmp 10)) (z:=(.tmp 11)) bw 0 n c n ho hi2.1 hi2.2.1 (Qs _) hrw.le w)] H1 kr fun gs2 w2 H2=>rS [.v,.v,.v] H2 kr fun gs3 w3 H3=>zb kr<|rS [.v,.v] H3 kr fun gs4 w4 H4=>zE kr kr<|zM kr<|wW<|rS [.v,.v,.v] H4 kr fun gs5 w5 H5=>zb kr<|rS [.v,.v,.E (.bool ((n:Int)==(n:Int))) (.bool true) (za (beq_self_eq_true _))] H5 kr fun gs6 w6 H6=>zN kr kr<|zg [0,1,2,3] kr kr<|rp [.v,.v] H6 kr fun gs7 w7 H7=>wX [2,3] ?_;have H8:St B w0 w7 ((bw,.cells cur 56)::(bv,blO x)::Lr):=H7.as kr;refine uJ (K':=3) H8 (some 25) 30 56 40 (.tmp 23) (.tmp 24) 0 1 bw bv n c 1 cur #[.string x.1,.string x.2.1,.bool x.2.2] (cellsF blS L) kr kr kr kr kr hrw kr kr rfl (jG rfl) (by omega) (by unfold maxLen;omega) ?_;intro b' cap' cur' w8 H9 hrw';refine rp [.v] H9 kr fun gs8 w9 H10=>wX []<|zc ?_;have H11:St B w0 w9 ((b',.cells cur' 56)::(bv,blO x)::Lr):=H10.as kr;refine rRr [.tmp 6] [] (Qf b' (n+1) cap') (zR B w0 Lr (L++ [x])) H10 kr ?_;refine⟨Qg b',n+1,cap',_,rfl,.inr ⟨b',cur',rfl,rfl,?_⟩,H11.sub ?_⟩
  ·rw[xa];exact hrw'
  ·exact Qx _ (QB ..)
theorem zdO {cur:Qd}{xs X D:List Value}{i n c:Nat}(hsz:cur.size=c*3)(htk:cur.toList.take (n*3)=xs)(hD:D=xs.drop (i*3))(hxs:xs.length=n*3)(hX:X.length=3)(hi:i<n)(hc:n+1<=c):
 (zh (zh cur ((i+1)*3) D) (i*3) X).toList.take ((n+1)*3)=xs.take (i*3)++(X++D):=by
 have hDl:D.length=(n-i)*3:=by rw[hD,RK,hxs];omega
 have s1:(zh cur ((i+1)*3) D).size=c*3:=by rw[yF (by omega),hsz]
 have hcl:cur.toList.length=c*3:=by rw[QD,hsz]
 rw[qU (C:=zh cur ((i+1)*3) D) (o:=i*3) (vs:=X) (m:=(n+1)*3) (by omega) (by omega),
  xb (C:=cur) (o:=(i+1)*3) (vs:=D) (m:=i*3) (by omega) (by omega),
  qU (C:=cur) (o:=(i+1)*3) (vs:=D) (m:=(n+1)*3) (by omega) (by omega)]
 have e1:(cur.toList.take ((n+1)*3)).drop ((i+1)*3+D.length)=[]:=QE (by rw[Qw];omega);have e2:cur.toList.take (i*3)=xs.take (i*3):=by rw[<-htk,Ug,Rx (by omega)]
 have e3:(cur.toList.take ((i+1)*3)++D).drop (i*3+X.length)=D:=List.drop_left' (by rw[Qw];omega);rw[e1,RD,e3,e2,QJ]
theorem zdP {cur:Qd}{xs X D:List Value}{i n c:Nat}(hsz:cur.size=c*3)(htk:cur.toList.take (i*3)=xs.take (i*3))(hxs:xs.length=n*3)(hX:X.length=3)(hDl:D.length=(n-i)*3)(hi:i<n)(hc:n+1<=c):
 (zh (zh cur (i*3) X) ((i+1)*3) D).toList.take ((n+1)*3)=xs.take (i*3)++(X++D):=by
 have s1:(zh cur (i*3) X).size=c*3:=by rw[yF (by omega),hsz]
 have hcl:cur.toList.length=c*3:=by rw[QD,hsz]
 have hcl1:(zh cur (i*3) X).toList.length=c*3:=by rw[QD,s1]
 rw[qU (C:=zh cur (i*3) X) (o:=(i+1)*3) (vs:=D) (m:=(n+1)*3) (by omega) (by omega),
  qU (C:=cur) (o:=i*3) (vs:=X) (m:=(i+1)*3) (by omega) (by omega)]
 have e1:((zh cur (i*3) X).toList.take ((n+1)*3)).drop ((i+1)*3+D.length)=[]:=QE (by rw[Qw];omega);have e2:(cur.toList.take ((i+1)*3)).drop (i*3+X.length)=[]:=QE (by rw[Qw];omega);rw[e1,e2,RD,RD,htk,QJ]
theorem zdQ (bv bw:Nat)(cur:Qd)(x:Bal)(la lb cb i:Nat)(hne:bw≠bv)(hc:cur.size≠0){ρ:Env}{o:Oper}{w:World}(ho:o.op=.call { callee:=.value (.func 77),args:=#[.tmp 61,.tmp 66],argTypes:=#[30,30] })
 (hx:ev ρ (.tmp 61)=Qf bv la 1) (hy:ev ρ (.tmp 66)=.slice (some ⟨bw,i*3,none⟩) lb cb) (hv:w.heap[bv]? =some (blO x)) (hw:w.heap[bw]? =some (.cells cur 56)):
 (execOp (ev ρ) o).run Try.prog w=.ok (.value (.bool false)) w:=by
 rw[vV (f:=77) (args:=#[Qf bv la 1,.slice (some ⟨bw,i*3,none⟩) lb cb]) ho rfl rfl (by simp[hx,hy])]
 rw[run_callFunc_extern Try.func77 kr kr kr (e:=Extern.SlicesOverlaps.overlaps #[30,30] #[4]) kr,
  Lib.run_overlaps_apart w 30 4 56 Try.underlying30 3 (fun w=>by
   obtain⟨it,hi,hsz⟩:=Option.map_eq_some_iff.1 (show (Try.prog.info? 56).map (·.size)=some 3 by kernel_rfl)
   simp[sizeOf,typeInfo,hi,hsz]) ⟨bv,0,none⟩ ⟨bw,i*3,none⟩ la 1 lb cb (Ne.symm hne) 56 56 3 cur.size (by simp[US,hv]) (by simp[US,hw]) hc (by simp[UM,hv]) (by simp[UM,hv])]
 rfl
theorem zdR (bw n c:Nat)(cur:Qd)(L:List Bal)(x:Bal)(i bv:Nat)(Lr:Qb){B:Nat}{w0 w:World}(hrw:Rw 3 cur c n (cellsF blS L))(h:St B w0 w ((bw,.cells cur 56)::(bv,blO x)::Lr))(hi:i<n)(hL:n<=1000000):
 Calls Try.prog 63 #[Qf bw n c,iN i,Qf bv 1 1] w fun e w'=> ∃v,e=.returned v/\zR B w0 Lr (L.take i++x::L.drop i) v w':=by
 refine yJ (c:=zk Try.f63) (rs:=[.tmp 6]) (N:=95) Try.func63 kr kr kr ?_;have hlenL:L.length=n:=hrw.lenF (S:=blS);have hcl:(cellsF blS L).length=n*3:=by rw[yi,hlenL];rfl
 have hle:=hrw.le;have hmx:=hrw.max;have hnd:bw≠bv:=by
  have q:=(RP.1 h.nd).1;intro e;exact q (by rw[e];exact QU ..)
 have etk:cellsF blS (L.take i)=(cellsF blS L).take (i*3):=xl L i (by omega);have edr:cellsF blS (L.drop i)=(cellsF blS L).drop (i*3):=zaP L i (by omega);have hxs:([.string x.1,.string x.2.1,.bool x.2.2]:List Value).length=3:=rfl;have ex:blS.cs x=[.string x.1,.string x.2.1,.bool x.2.2]:=rfl;have hdl:((cellsF blS L).drop (i*3)).length=(n-i)*3:=by rw[RK,hcl];omega
 have ecell:cellsF blS (L.take i++x::L.drop i)=(cellsF blS L).take (i*3)++([.string x.1,.string x.2.1,.bool x.2.2]++(cellsF blS L).drop (i*3)):=by
  rw[qT,etk];show _++(blS.cs x++cellsF blS (L.drop i))=_;rw[edr,ex]
 have hlen2:(L.take i++x::L.drop i).length=n+1:=by simp;omega
 have h1d: ∀v∈(cellsF blS L).drop (i*3),v.oneCell'=true:=fun v hv=>xI L v (List.mem_of_mem_drop hv);have h1x: ∀v∈([.string x.1,.string x.2.1,.bool x.2.2]:List Value),v.oneCell'=true:=jG rfl;have hsrcD: ∀q v,((cellsF blS L).drop (i*3))[q]? =some v->cur[i*3+q]? =some v:=fun q v hq=>by
  rw[R1]at hq;have hlt:=(Qt.1 hq).1;rw[hrw.get (i*3+q) (by omega)];exact hq
 refine rS [.v] h kr fun gs1 w1 H1=>rS [.v,.v,.oe (ins:=[((.tmp 10),Qf bw n c),((.tmp 11),iN i)]) (v:=.slice (some ⟨bw,if c=i then 0 else 0+i*3,none⟩) (n-i) (c-i)) (v':=.slice (some ⟨bw,i*3,none⟩) (n-i) (c-i)) (fun ρ o w ho hi2=>yb (kz:=.i64) (t:=30) (e:=56) (size:=3) (bytes:=40) kr (x:=(.tmp 10)) (z:=(.tmp 11)) bw 0 n c i ho hi2.1 hi2.2.1 (by omega) (hle) w) (by rw[if_neg (by omega),Qy])] H1 kr fun gs2 w2 H2=>rS [.v,.v,.v] H2 kr fun gs3 w3 H3=>zb kr<|rS [.v,.v] H3 kr fun gs4 w4 H4=>zE kr kr<|zM kr<|wW<|rS [.v,.v,.v] H4 kr fun gs5 w5 H5=>zb kr<|rS [.v,.v,.E (.bool ((i:Int)==(n:Int))) (.bool false) (za (beq_eq_false_iff_ne.2 (by omega)))] H5 kr fun gs6 w6 H6=>zE kr kr<|zM kr<|wW<|zb kr ?_;by_cases hroom:n+1<=c
 ·refine rS [.v,.v,.E (.int .i64 (Qo.wrap ((n:Int)+1))) (iN (n+1)) (ze (zA (a:=n) (b:=1) (by omega))),.v,.v,.E (.bool (decide (((n+1:Nat):Int)>(c:Int)))) (.bool false) (za (decide_eq_false (by omega)))] H6 kr fun gs7 w7 H7=>zE kr kr<|zM kr<|wW<|rS [.v,.v,.v,.E (.int .i64 (Qo.wrap ((n:Int)+1))) (iN (n+1)) (ze (zA (a:=n) (b:=1) (by omega))),.o (ins:=[((.tmp 56),Qf bw n c),((.tmp 59),iN (n+1))]) (v:=Qf bw (n+1) c) (fun ρ o w ho hi2=>qS (kd:=.i64) (t:=30) (e:=56) (size:=3) (bytes:=40) kr (x:=(.tmp 56)) (y:=(.tmp 59)) bw n c (n+1) ho hi2.1 hi2.2.1 (hroom) w),.v] H7 kr fun gs8 w8 H8=>zb kr ?_
  refine rS [.v,.v,.v,.v,.E (.int .i64 (Qo.wrap ((i:Int)+1))) (iN (i+1)) (ze (zA (a:=i) (b:=1) (by omega))),.oe (ins:=[((.tmp 62),Qf bw (n+1) c),((.tmp 65),iN (i+1))]) (v:=.slice (some ⟨bw,if c=(i+1) then 0 else 0+(i+1)*3,none⟩) ((n+1)-(i+1)) (c-(i+1))) (v':=.slice (some ⟨bw,(i+1)*3,none⟩) ((n+1)-(i+1)) (c-(i+1))) (fun ρ o w ho hi2=>yb (kz:=.i64) (t:=30) (e:=56) (size:=3) (bytes:=40) kr (x:=(.tmp 62)) (z:=(.tmp 65)) bw 0 (n+1) c (i+1) ho hi2.1 hi2.2.1 (by omega) (hroom) w) (by rw[if_neg (by omega),Qy]),
   .x (ins:=[((.tmp 61),Qf bv 1 1),((.tmp 66),.slice (some ⟨bw,(i+1)*3,none⟩) ((n+1)-(i+1)) (c-(i+1)))]) (op:=.call { callee:=.value (.func 77),args:=#[.tmp 61,.tmp 66],argTypes:=#[30,30] }) (v:=.bool false) [(1,(bv,blO x)),(0,(bw,.cells cur 56))] (fun ρ o w ho hi2 hd=>zdQ bv bw cur x _ _ _ (i+1) hnd (by rw[hrw.sz];omega) ho hi2.1 hi2.2.1 hd.1 hd.2.1),.v] H8 kr fun gs9 w9 H9=>?_
  refine zN kr kr ?_
  refine dS [.v,.v,.v,.E (.int .i64 (Qo.wrap ((i:Int)+1))) (iN (i+1)) (ze (zA (a:=i) (b:=1) (by omega))),.oe (ins:=[((.tmp 69),Qf bw (n+1) c),((.tmp 72),iN (i+1))]) (v:=.slice (some ⟨bw,if c=(i+1) then 0 else 0+(i+1)*3,none⟩) ((n+1)-(i+1)) (c-(i+1))) (v':=.slice (some ⟨bw,(i+1)*3,none⟩) ((n+1)-(i+1)) (c-(i+1))) (fun ρ o w ho hi2=>yb (kz:=.i64) (t:=30) (e:=56) (size:=3) (bytes:=40) kr (x:=(.tmp 69)) (z:=(.tmp 72)) bw 0 (n+1) c (i+1) ho hi2.1 hi2.2.1 (by omega) (hroom) w) (by rw[if_neg (by omega),Qy]),.v,.v,.oe (ins:=[((.tmp 74),Qf bw (n+1) c),((.tmp 75),iN i)]) (v:=.slice (some ⟨bw,if c=i then 0 else 0+i*3,none⟩) ((n+1)-i) (c-i)) (v':=.slice (some ⟨bw,i*3,none⟩) ((n+1)-i) (c-i)) (fun ρ o w ho hi2=>yb (kz:=.i64) (t:=30) (e:=56) (size:=3) (bytes:=40) kr (x:=(.tmp 74)) (z:=(.tmp 75)) bw 0 (n+1) c i ho hi2.1 hi2.2.1 (by omega) (hroom) w) (by rw[if_neg (by omega),Qy]),
   .g [((.tmp 73),.slice (some ⟨bw,(i+1)*3,none⟩) ((n+1)-(i+1)) (c-(i+1))),((.tmp 76),.slice (some ⟨bw,i*3,none⟩) ((n+1)-i) (c-i))] (.call { callee:=.builtin .copy,args:=#[.tmp 73,.tmp 76],argTypes:=#[30,30] }) ((0,(bw,Qk (cur) 56))::[]) (fun _=>.int .i64 ((Ur ((n+1)-i) ((n+1)-(i+1)):Nat):Int)) (.turn 0 (.cells (zh (cur) ((i+1)*3) ((cellsF blS L).drop (i*3))) 56)) (jb (dT:=30) (sT:=30) (e:=56) (size:=3) kr kr (x:=(.tmp 73)) (y:=(.tmp 76)) (j:=0) (b:=bw) (off:=(i+1)*3) (dLen:=(n+1)-(i+1)) (dCap:=c-(i+1)) (sLen:=(n+1)-i) (sCap:=c-i) (a:=⟨bw,i*3,none⟩) (cur:=cur) (T:=56) (cs:=(cellsF blS L).drop (i*3)) (rd:=[]) (by rw[hdl];show _=min _ _*3;omega) (fun w hd=>jc hd.1 hsrcD) (by rw[hdl,hrw.sz];omega) (h1d))] H9 kr fun w10 H10=>?_
  have hsz1:(zh cur ((i+1)*3) ((cellsF blS L).drop (i*3))).size=c*3:=by rw[yF (by rw[hdl,hrw.sz];omega),hrw.sz]
  refine rS [.v,.v,.oe (ins:=[((.tmp 78),Qf bw (n+1) c),((.tmp 79),iN i)]) (v:=.slice (some ⟨bw,if c=i then 0 else 0+i*3,none⟩) ((n+1)-i) (c-i)) (v':=.slice (some ⟨bw,i*3,none⟩) ((n+1)-i) (c-i)) (fun ρ o w ho hi2=>yb (kz:=.i64) (t:=30) (e:=56) (size:=3) (bytes:=40) kr (x:=(.tmp 78)) (z:=(.tmp 79)) bw 0 (n+1) c i ho hi2.1 hi2.2.1 (by omega) (hroom) w) (by rw[if_neg (by omega),Qy]),.v,
   .g [((.tmp 80),.slice (some ⟨bw,i*3,none⟩) ((n+1)-i) (c-i)),((.tmp 81),Qf bv (1) (1))] (.call { callee:=.builtin .copy,args:=#[.tmp 80,.tmp 81],argTypes:=#[30,30] }) ((0,(bw,Qk (zh cur ((i+1)*3) ((cellsF blS L).drop (i*3))) 56))::[(1,(bv,blO x))]) (fun _=>.int .i64 ((Ur (1) ((n+1)-i):Nat):Int)) (.turn 0 (.cells (zh (zh cur ((i+1)*3) ((cellsF blS L).drop (i*3))) (i*3) ([.string x.1,.string x.2.1,.bool x.2.2])) 56 (0,0))) (jb (dT:=30) (sT:=30) (e:=56) (size:=3) kr kr (x:=(.tmp 80)) (y:=(.tmp 81)) (j:=0) (b:=bw) (off:=i*3) (dLen:=(n+1)-i) (dCap:=c-i) (sLen:=1) (sCap:=1) (a:=⟨bv,0,none⟩) (cur:=zh cur ((i+1)*3) ((cellsF blS L).drop (i*3))) (T:=56) (cs:=[.string x.1,.string x.2.1,.bool x.2.2]) (rd:=[(1,(bv,blO x))]) (by show 3=min _ _*3;omega) (fun w hd=>jc hd.2.1 (fun q v hq=>by rw[Qy,<-Rr];exact hq)) (by rw[hsz1,hxs];omega) (h1x))] H10 kr fun gs11 w11 H11=>?_
  refine rS [.v,.v] H11 kr fun gs12 w12 H12=>rRr [.tmp 6] [] (Qf bw (n+1) c) (zR B w0 Lr (L.take i++x::L.drop i)) H12 kr ?_;have hfin:Rw 3 (zh (zh cur ((i+1)*3) ((cellsF blS L).drop (i*3))) (i*3) [.string x.1,.string x.2.1,.bool x.2.2]) c (n+1) (cellsF blS (L.take i++x::L.drop i)):=by
   refine⟨by rw[yi,hlen2];rfl,hroom,hmx,?_,by rw[yF (by rw[hsz1,hxs];omega),hsz1]⟩;rw[ecell];exact zdO hrw.sz hrw.take rfl hcl hxs hi hroom
  exact⟨Qg bw,n+1,c,_,rfl,.inr ⟨bw,_,rfl,rfl,hfin⟩,(H12.as (l:=(bw,.cells (zh (zh cur ((i+1)*3) ((cellsF blS L).drop (i*3))) (i*3) [.string x.1,.string x.2.1,.bool x.2.2]) 56 (0,0))::(bv,blO x)::Lr) kr).sub (Qx _ (QB ..))⟩
 ·refine rS [.v,.v,.E (.int .i64 (Qo.wrap ((n:Int)+1))) (iN (n+1)) (ze (zA (a:=n) (b:=1) (by omega))),.v,.v,.E (.bool (decide (((n+1:Nat):Int)>(c:Int)))) (.bool true) (za (decide_eq_true (by omega)))] H6 kr fun gs7 w7 H7=>zN kr kr ?_;have hm1:i+(n+1-i)=n+1:=by omega
  refine zg [0,1,2,3,4,5,6,7,8,9] kr kr<|rp [.v,.v,.o (ins:=[((.tmp 32),Qf bw n c),((.tmp 33),iN i)]) (v:=Qf bw i c) (fun ρ o w ho hi2=>qS (kd:=.i64) (t:=30) (e:=56) (size:=3) (bytes:=40) kr (x:=(.tmp 32)) (y:=(.tmp 33)) bw n c i ho hi2.1 hi2.2.1 (by omega) w),.v,.v,.E (.int .i64 (Qo.wrap ((n:Int)+1))) (iN (n+1)) (ze (zA (a:=n) (b:=1) (by omega))),.v,.E (.int .i64 (Qo.wrap (((n+1:Nat):Int)-(i:Int)))) (iN (n+1-i)) (ze (qg (by omega)))] H7 kr fun gs8 w8 H8=>wX [8,9] ?_;have H9:St B w0 w8 ((bw,.cells cur 56)::(bv,blO x)::Lr):=H8.as kr;refine uF H9 (some 40) 30 3 56 3 40 .i64 (.tmp 34) (.tmp 39) 0 bw i c (n+1-i) cur ((cellsF blS L).take (i*3)) kr kr kr kr kr kr rfl (hrw.cut i (by omega)) (by omega) (by omega) (by omega) (by unfold maxLen;omega) ?_;intro b' cap' cur' w9 H10 hcp hcx hcs htk;rw[hm1]at hcp⊢;refine rp [.v] H10 kr fun gs9 w10 H11=>wX []<|zc ?_;have H12:St B w0 w10 ((b',.cells cur' 56)::(bw,.cells cur 56)::(bv,blO x)::Lr):=H11.as kr;have hs1:(zh cur' (i*3) [.string x.1,.string x.2.1,.bool x.2.2]).size=cap'*3:=by rw[yF (by rw[hcs,hxs];omega),hcs]
  refine rS [.v,.v,.oe (ins:=[((.tmp 41),Qf b' (n+1) cap'),((.tmp 42),iN i)]) (v:=.slice (some ⟨b',if cap'=i then 0 else 0+i*3,none⟩) ((n+1)-i) (cap'-i)) (v':=.slice (some ⟨b',i*3,none⟩) ((n+1)-i) (cap'-i)) (fun ρ o w ho hi2=>yb (kz:=.i64) (t:=30) (e:=56) (size:=3) (bytes:=40) kr (x:=(.tmp 41)) (z:=(.tmp 42)) b' 0 (n+1) cap' i ho hi2.1 hi2.2.1 (by omega) (hcp) w) (by rw[if_neg (by omega),Qy]),.v,
   .g [((.tmp 43),.slice (some ⟨b',i*3,none⟩) ((n+1)-i) (cap'-i)),((.tmp 44),Qf bv (1) (1))] (.call { callee:=.builtin .copy,args:=#[.tmp 43,.tmp 44],argTypes:=#[30,30] }) ((0,(b',Qk (cur') 56))::[(2,(bv,blO x))]) (fun _=>.int .i64 ((Ur (1) ((n+1)-i):Nat):Int)) (.turn 0 (.cells (zh (cur') (i*3) ([.string x.1,.string x.2.1,.bool x.2.2])) 56)) (jb (dT:=30) (sT:=30) (e:=56) (size:=3) kr kr (x:=(.tmp 43)) (y:=(.tmp 44)) (j:=0) (b:=b') (off:=i*3) (dLen:=(n+1)-i) (dCap:=cap'-i) (sLen:=1) (sCap:=1) (a:=⟨bv,0,none⟩) (cur:=cur') (T:=56) (cs:=[.string x.1,.string x.2.1,.bool x.2.2]) (rd:=[(2,(bv,blO x))]) (by show 3=min _ _*3;omega) (fun w hd=>jc hd.2.1 (fun q v hq=>by rw[Qy,<-Rr];exact hq)) (by rw[hcs,hxs];omega) (h1x))] H12 kr fun gs11 w11 H13=>?_
  refine dS [.v,.v,.v,.E (.int .i64 (Qo.wrap ((i:Int)+1))) (iN (i+1)) (ze (zA (a:=i) (b:=1) (by omega))),.oe (ins:=[((.tmp 46),Qf b' (n+1) cap'),((.tmp 49),iN (i+1))]) (v:=.slice (some ⟨b',if cap'=(i+1) then 0 else 0+(i+1)*3,none⟩) ((n+1)-(i+1)) (cap'-(i+1))) (v':=.slice (some ⟨b',(i+1)*3,none⟩) ((n+1)-(i+1)) (cap'-(i+1))) (fun ρ o w ho hi2=>yb (kz:=.i64) (t:=30) (e:=56) (size:=3) (bytes:=40) kr (x:=(.tmp 46)) (z:=(.tmp 49)) b' 0 (n+1) cap' (i+1) ho hi2.1 hi2.2.1 (by omega) (hcp) w) (by rw[if_neg (by omega),Qy]),.v,.v,.oe (ins:=[((.tmp 51),Qf bw n c),((.tmp 52),iN i)]) (v:=.slice (some ⟨bw,if c=i then 0 else 0+i*3,none⟩) (n-i) (c-i)) (v':=.slice (some ⟨bw,i*3,none⟩) (n-i) (c-i)) (fun ρ o w ho hi2=>yb (kz:=.i64) (t:=30) (e:=56) (size:=3) (bytes:=40) kr (x:=(.tmp 51)) (z:=(.tmp 52)) bw 0 n c i ho hi2.1 hi2.2.1 (by omega) (hle) w) (by rw[if_neg (by omega),Qy]),
   .g [((.tmp 50),.slice (some ⟨b',(i+1)*3,none⟩) ((n+1)-(i+1)) (cap'-(i+1))),((.tmp 53),.slice (some ⟨bw,i*3,none⟩) (n-i) (c-i))] (.call { callee:=.builtin .copy,args:=#[.tmp 50,.tmp 53],argTypes:=#[30,30] }) ((0,(b',Qk (zh cur' (i*3) [.string x.1,.string x.2.1,.bool x.2.2]) 56))::[(1,(bw,.cells cur 56))]) (fun _=>.int .i64 ((Ur (n-i) ((n+1)-(i+1)):Nat):Int)) (.turn 0 (.cells (zh (zh cur' (i*3) [.string x.1,.string x.2.1,.bool x.2.2]) ((i+1)*3) ((cellsF blS L).drop (i*3))) 56)) (jb (dT:=30) (sT:=30) (e:=56) (size:=3) kr kr (x:=(.tmp 50)) (y:=(.tmp 53)) (j:=0) (b:=b') (off:=(i+1)*3) (dLen:=(n+1)-(i+1)) (dCap:=cap'-(i+1)) (sLen:=n-i) (sCap:=c-i) (a:=⟨bw,i*3,none⟩) (cur:=zh cur' (i*3) [.string x.1,.string x.2.1,.bool x.2.2]) (T:=56) (cs:=(cellsF blS L).drop (i*3)) (rd:=[(1,(bw,.cells cur 56))]) (by rw[hdl];show _=min _ _*3;omega) (fun w hd=>jc hd.2.1 hsrcD) (by rw[hdl,hs1];omega) (h1d))] H13 kr fun w12 H14=>?_
  refine rS [.v,.v] H14 kr fun gs12 w13 H15=>rRr [.tmp 6] [] (Qf b' (n+1) cap') (zR B w0 Lr (L.take i++x::L.drop i)) H15 kr ?_;have hfin:Rw 3 (zh (zh cur' (i*3) [.string x.1,.string x.2.1,.bool x.2.2]) ((i+1)*3) ((cellsF blS L).drop (i*3))) cap' (n+1) (cellsF blS (L.take i++x::L.drop i)):=by
   refine⟨by rw[yi,hlen2];rfl,hcp,hcx,?_,by rw[yF (by rw[hs1,hdl];omega),hs1]⟩;rw[ecell];exact zdP hcs htk hcl hxs hdl hi hcp
  exact⟨Qg b',n+1,cap',_,rfl,.inr ⟨b',_,rfl,rfl,hfin⟩,(H15.as (l:=(b',.cells (zh (zh cur' (i*3) [.string x.1,.string x.2.1,.bool x.2.2]) ((i+1)*3) ((cellsF blS L).drop (i*3))) 56)::(bw,.cells cur 56)::(bv,blO x)::Lr) kr).sub (Qx _ ((QB ..).trans (QB ..)))⟩
theorem vF (p:Qc)(n c:Nat)(L:List Bal)(x:Bal)(i bv:Nat)(row Lr:Qb){B:Nat}{w0 w:World}(hrow:zw blS 56 p n c row L)(h:St B w0 w (row++((bv,blO x)::Lr)))(hi:i<=n)(hL:L.length<=1000000):
 Calls Try.prog 63 #[.slice p n c,iN i,Qf bv 1 1] w fun e w'=> ∃v,e=.returned v/\zR B w0 Lr (L.take i++x::L.drop i) v w':=by
 have hlen:=hrow.len;by_cases e:i=n
 ·subst e;rw[Qq (by omega),QE (by omega)];exact zdN p i c L x bv row Lr hrow h hL
 ·rcases hrow with⟨rfl,rfl,rfl,rfl,rfl⟩|⟨bw,cur,rfl,rfl,hrw⟩
  ·omega
  ·exact zdR bw n c cur L x i bv Lr hrw h (by omega) (by omega)
def yn (B:Nat)(w0:World)(Lr:Qb)(L:Qi)(v:Value)(w:World):Prop:=∃(q:Qc) (m k:Nat) (row:Qb),v=.slice q m k/\zw sS 9 q m k row L/\St B w0 w (row++Lr)
theorem zdS (p:Qc)(n c:Nat)(L:Qi)(x:Qa)(bv:Nat)(row Lr:Qb){B:Nat}{w0 w:World}(hrow:zw sS 9 p n c row L)(h:St B w0 w (row++((bv,sxO x)::Lr)))(hL:L.length<=1000000):
 Calls Try.prog 81 #[.slice p n c,iN n,Qf bv 1 1] w fun e w'=> ∃v,e=.returned v/\yn B w0 Lr (L++ [x]) v w':=by
 refine yJ (c:=zk Try.f81) (rs:=[.tmp 6]) (N:=95) Try.func81 kr kr kr ?_;have hlen:=hrow.len;rcases hrow with⟨rfl,rfl,rfl,rfl,rfl⟩ | ⟨bw,cur,rfl,rfl,hrw⟩
 ·refine rS [.v] h kr fun gs1 w1 H1=>rS [.v,.v,.v] H1 kr fun gs2 w2 H2=>rS [.v,.v,.v] H2 kr fun gs3 w3 H3=>zb kr<|rS [.v,.v] H3 kr fun gs4 w4 H4=>zE kr kr<|zM kr<|wW<|rS [.v,.v,.v] H4 kr fun gs5 w5 H5=>zb kr<|rS [.v,.v,.v] H5 kr fun gs6 w6 H6=>zN kr kr<|zg [0,1,2,3] kr kr<|rp [.v,.v] H6 kr fun gs7 w7 H7=>wX [2,3] ?_;have H8:St B w0 w7 ((bv,sxO x)::Lr):=H7.as kr;refine uK (K':=1) H8 (some 25) 22 9 16 (.tmp 23) (.tmp 24) 0 bv 1 #[.string x] kr kr kr kr kr kr rfl (jG rfl) (by omega) ?_;intro b' cap' cur' w8 H9 hrw;refine rp [.v] H9 kr fun gs8 w9 H10=>wX []<|zc ?_;have H11:St B w0 w9 ((b',.cells cur' 9)::(bv,sxO x)::Lr):=H10.as kr;refine rRr [.tmp 6] [] (Qf b' 1 cap') (yn B w0 Lr ([]++ [x])) H10 kr ?_;refine⟨Qg b',1,cap',_,rfl,.inr ⟨b',cur',rfl,rfl,hrw⟩,H11.sub ?_⟩;exact Qx _ (QB ..)
 ·have hin:(n:Int)≠ -1:=by omega
  refine rS [.v] h kr fun gs1 w1 H1=>rS [.v,.v,.o (ins:=[((.tmp 10),Qf bw n c),((.tmp 11),iN n)]) (v:=.slice (some ⟨bw,if c=n then 0 else 0+n*1,none⟩) (n-n) (c-n)) (fun ρ o w ho hi2=>yb (kz:=.i64) (t:=22) (e:=9) (size:=1) (bytes:=16) kr (x:=(.tmp 10)) (z:=(.tmp 11)) bw 0 n c n ho hi2.1 hi2.2.1 (Qs _) hrw.le w)] H1 kr fun gs2 w2 H2=>rS [.v,.v,.v] H2 kr fun gs3 w3 H3=>zb kr<|rS [.v,.v] H3 kr fun gs4 w4 H4=>zE kr kr<|zM kr<|wW<|rS [.v,.v,.v] H4 kr fun gs5 w5 H5=>zb kr<|rS [.v,.v,.E (.bool ((n:Int)==(n:Int))) (.bool true) (za (beq_self_eq_true _))] H5 kr fun gs6 w6 H6=>zN kr kr<|zg [0,1,2,3] kr kr<|rp [.v,.v] H6 kr fun gs7 w7 H7=>wX [2,3] ?_;have H8:St B w0 w7 ((bw,.cells cur 9)::(bv,sxO x)::Lr):=H7.as kr;refine uJ (K':=1) H8 (some 25) 22 9 16 (.tmp 23) (.tmp 24) 0 1 bw bv n c 1 cur #[.string x] (cellsF sS L) kr kr kr kr kr hrw kr kr rfl (jG rfl) (by omega) (by unfold maxLen;omega) ?_;intro b' cap' cur' w8 H9 hrw';refine rp [.v] H9 kr fun gs8 w9 H10=>wX []<|zc ?_;have H11:St B w0 w9 ((b',.cells cur' 9)::(bv,sxO x)::Lr):=H10.as kr;refine rRr [.tmp 6] [] (Qf b' (n+1) cap') (yn B w0 Lr (L++ [x])) H10 kr ?_;refine⟨Qg b',n+1,cap',_,rfl,.inr ⟨b',cur',rfl,rfl,?_⟩,H11.sub ?_⟩
  ·rw[xa];exact hrw'
  ·exact Qx _ (QB ..)
theorem zdT {cur:Qd}{xs X D:List Value}{i n c:Nat}(hsz:cur.size=c*1)(htk:cur.toList.take (n*1)=xs)(hD:D=xs.drop (i*1))(hxs:xs.length=n*1)(hX:X.length=1)(hi:i<n)(hc:n+1<=c):
 (zh (zh cur ((i+1)*1) D) (i*1) X).toList.take ((n+1)*1)=xs.take (i*1)++(X++D):=by
 have hDl:D.length=(n-i)*1:=by rw[hD,RK,hxs];omega
 have s1:(zh cur ((i+1)*1) D).size=c*1:=by rw[yF (by omega),hsz]
 have hcl:cur.toList.length=c*1:=by rw[QD,hsz]
 rw[qU (C:=zh cur ((i+1)*1) D) (o:=i*1) (vs:=X) (m:=(n+1)*1) (by omega) (by omega),
  xb (C:=cur) (o:=(i+1)*1) (vs:=D) (m:=i*1) (by omega) (by omega),
  qU (C:=cur) (o:=(i+1)*1) (vs:=D) (m:=(n+1)*1) (by omega) (by omega)]
 have e1:(cur.toList.take ((n+1)*1)).drop ((i+1)*1+D.length)=[]:=QE (by rw[Qw];omega);have e2:cur.toList.take (i*1)=xs.take (i*1):=by rw[<-htk,Ug,Rx (by omega)]
 have e3:(cur.toList.take ((i+1)*1)++D).drop (i*1+X.length)=D:=List.drop_left' (by rw[Qw];omega);rw[e1,RD,e3,e2,QJ]
theorem zdU {cur:Qd}{xs X D:List Value}{i n c:Nat}(hsz:cur.size=c*1)(htk:cur.toList.take (i*1)=xs.take (i*1))(hxs:xs.length=n*1)(hX:X.length=1)(hDl:D.length=(n-i)*1)(hi:i<n)(hc:n+1<=c):
 (zh (zh cur (i*1) X) ((i+1)*1) D).toList.take ((n+1)*1)=xs.take (i*1)++(X++D):=by
 have s1:(zh cur (i*1) X).size=c*1:=by rw[yF (by omega),hsz]
 have hcl:cur.toList.length=c*1:=by rw[QD,hsz]
 have hcl1:(zh cur (i*1) X).toList.length=c*1:=by rw[QD,s1]
 rw[qU (C:=zh cur (i*1) X) (o:=(i+1)*1) (vs:=D) (m:=(n+1)*1) (by omega) (by omega),
  qU (C:=cur) (o:=i*1) (vs:=X) (m:=(i+1)*1) (by omega) (by omega)]
 have e1:((zh cur (i*1) X).toList.take ((n+1)*1)).drop ((i+1)*1+D.length)=[]:=QE (by rw[Qw];omega);have e2:(cur.toList.take ((i+1)*1)).drop (i*1+X.length)=[]:=QE (by rw[Qw];omega);rw[e1,e2,RD,RD,htk,QJ]
theorem zdV (bv bw:Nat)(cur:Qd)(x:Qa)(la lb cb i:Nat)(hne:bw≠bv)(hc:cur.size≠0){ρ:Env}{o:Oper}{w:World}(ho:o.op=.call { callee:=.value (.func 88),args:=#[.tmp 61,.tmp 66],argTypes:=#[22,22] })
 (hx:ev ρ (.tmp 61)=Qf bv la 1) (hy:ev ρ (.tmp 66)=.slice (some ⟨bw,i*1,none⟩) lb cb) (hv:w.heap[bv]? =some (sxO x)) (hw:w.heap[bw]? =some (.cells cur 9)):
 (execOp (ev ρ) o).run Try.prog w=.ok (.value (.bool false)) w:=by
 rw[vV (f:=88) (args:=#[Qf bv la 1,.slice (some ⟨bw,i*1,none⟩) lb cb]) ho rfl rfl (by simp[hx,hy])]
 rw[run_callFunc_extern Try.func88 kr kr kr (e:=Extern.SlicesOverlaps.overlaps #[22,22] #[4]) kr,
  Lib.run_overlaps_apart w 22 4 9 Try.underlying22 1 (fun w=>by
   obtain⟨it,hi,hsz⟩:=Option.map_eq_some_iff.1 (show (Try.prog.info? 9).map (·.size)=some 1 by kernel_rfl)
   simp[sizeOf,typeInfo,hi,hsz]) ⟨bv,0,none⟩ ⟨bw,i*1,none⟩ la 1 lb cb (Ne.symm hne) 9 9 1 cur.size (by simp[US,hv]) (by simp[US,hw]) hc (by simp[UM,hv]) (by simp[UM,hv])]
 rfl
theorem zdW (bw n c:Nat)(cur:Qd)(L:Qi)(x:Qa)(i bv:Nat)(Lr:Qb){B:Nat}{w0 w:World}(hrw:Rw 1 cur c n (cellsF sS L))(h:St B w0 w ((bw,.cells cur 9)::(bv,sxO x)::Lr))(hi:i<n)(hL:n<=1000000):
 Calls Try.prog 81 #[Qf bw n c,iN i,Qf bv 1 1] w fun e w'=> ∃v,e=.returned v/\yn B w0 Lr (L.take i++x::L.drop i) v w':=by
 refine yJ (c:=zk Try.f81) (rs:=[.tmp 6]) (N:=95) Try.func81 kr kr kr ?_;have hlenL:L.length=n:=hrw.lenF (S:=sS);have hcl:(cellsF sS L).length=n*1:=by rw[yi,hlenL];rfl
 have hle:=hrw.le;have hmx:=hrw.max;have hnd:bw≠bv:=by
  have q:=(RP.1 h.nd).1;intro e;exact q (by rw[e];exact QU ..)
 have etk:cellsF sS (L.take i)=(cellsF sS L).take (i*1):=xl L i (by omega);have edr:cellsF sS (L.drop i)=(cellsF sS L).drop (i*1):=zaP L i (by omega);have hxs:([.string x]:List Value).length=1:=rfl;have ex:sS.cs x=[.string x]:=rfl;have hdl:((cellsF sS L).drop (i*1)).length=(n-i)*1:=by rw[RK,hcl];omega
 have ecell:cellsF sS (L.take i++x::L.drop i)=(cellsF sS L).take (i*1)++([.string x]++(cellsF sS L).drop (i*1)):=by
  rw[qT,etk];show _++(sS.cs x++cellsF sS (L.drop i))=_;rw[edr,ex]
 have hlen2:(L.take i++x::L.drop i).length=n+1:=by simp;omega
 have h1d: ∀v∈(cellsF sS L).drop (i*1),v.oneCell'=true:=fun v hv=>xI L v (List.mem_of_mem_drop hv);have h1x: ∀v∈([.string x]:List Value),v.oneCell'=true:=jG rfl;have hsrcD: ∀q v,((cellsF sS L).drop (i*1))[q]? =some v->cur[i*1+q]? =some v:=fun q v hq=>by
  rw[R1]at hq;have hlt:=(Qt.1 hq).1;rw[hrw.get (i*1+q) (by omega)];exact hq
 refine rS [.v] h kr fun gs1 w1 H1=>rS [.v,.v,.oe (ins:=[((.tmp 10),Qf bw n c),((.tmp 11),iN i)]) (v:=.slice (some ⟨bw,if c=i then 0 else 0+i*1,none⟩) (n-i) (c-i)) (v':=.slice (some ⟨bw,i*1,none⟩) (n-i) (c-i)) (fun ρ o w ho hi2=>yb (kz:=.i64) (t:=22) (e:=9) (size:=1) (bytes:=16) kr (x:=(.tmp 10)) (z:=(.tmp 11)) bw 0 n c i ho hi2.1 hi2.2.1 (by omega) (hle) w) (by rw[if_neg (by omega),Qy])] H1 kr fun gs2 w2 H2=>rS [.v,.v,.v] H2 kr fun gs3 w3 H3=>zb kr<|rS [.v,.v] H3 kr fun gs4 w4 H4=>zE kr kr<|zM kr<|wW<|rS [.v,.v,.v] H4 kr fun gs5 w5 H5=>zb kr<|rS [.v,.v,.E (.bool ((i:Int)==(n:Int))) (.bool false) (za (beq_eq_false_iff_ne.2 (by omega)))] H5 kr fun gs6 w6 H6=>zE kr kr<|zM kr<|wW<|zb kr ?_;by_cases hroom:n+1<=c
 ·refine rS [.v,.v,.E (.int .i64 (Qo.wrap ((n:Int)+1))) (iN (n+1)) (ze (zA (a:=n) (b:=1) (by omega))),.v,.v,.E (.bool (decide (((n+1:Nat):Int)>(c:Int)))) (.bool false) (za (decide_eq_false (by omega)))] H6 kr fun gs7 w7 H7=>zE kr kr<|zM kr<|wW<|rS [.v,.v,.v,.E (.int .i64 (Qo.wrap ((n:Int)+1))) (iN (n+1)) (ze (zA (a:=n) (b:=1) (by omega))),.o (ins:=[((.tmp 56),Qf bw n c),((.tmp 59),iN (n+1))]) (v:=Qf bw (n+1) c) (fun ρ o w ho hi2=>qS (kd:=.i64) (t:=22) (e:=9) (size:=1) (bytes:=16) kr (x:=(.tmp 56)) (y:=(.tmp 59)) bw n c (n+1) ho hi2.1 hi2.2.1 (hroom) w),.v] H7 kr fun gs8 w8 H8=>zb kr ?_
  refine rS [.v,.v,.v,.v,.E (.int .i64 (Qo.wrap ((i:Int)+1))) (iN (i+1)) (ze (zA (a:=i) (b:=1) (by omega))),.oe (ins:=[((.tmp 62),Qf bw (n+1) c),((.tmp 65),iN (i+1))]) (v:=.slice (some ⟨bw,if c=(i+1) then 0 else 0+(i+1)*1,none⟩) ((n+1)-(i+1)) (c-(i+1))) (v':=.slice (some ⟨bw,(i+1)*1,none⟩) ((n+1)-(i+1)) (c-(i+1))) (fun ρ o w ho hi2=>yb (kz:=.i64) (t:=22) (e:=9) (size:=1) (bytes:=16) kr (x:=(.tmp 62)) (z:=(.tmp 65)) bw 0 (n+1) c (i+1) ho hi2.1 hi2.2.1 (by omega) (hroom) w) (by rw[if_neg (by omega),Qy]),
   .x (ins:=[((.tmp 61),Qf bv 1 1),((.tmp 66),.slice (some ⟨bw,(i+1)*1,none⟩) ((n+1)-(i+1)) (c-(i+1)))]) (op:=.call { callee:=.value (.func 88),args:=#[.tmp 61,.tmp 66],argTypes:=#[22,22] }) (v:=.bool false) [(1,(bv,sxO x)),(0,(bw,.cells cur 9))] (fun ρ o w ho hi2 hd=>zdV bv bw cur x _ _ _ (i+1) hnd (by rw[hrw.sz];omega) ho hi2.1 hi2.2.1 hd.1 hd.2.1),.v] H8 kr fun gs9 w9 H9=>?_
  refine zN kr kr ?_
  refine dS [.v,.v,.v,.E (.int .i64 (Qo.wrap ((i:Int)+1))) (iN (i+1)) (ze (zA (a:=i) (b:=1) (by omega))),.oe (ins:=[((.tmp 69),Qf bw (n+1) c),((.tmp 72),iN (i+1))]) (v:=.slice (some ⟨bw,if c=(i+1) then 0 else 0+(i+1)*1,none⟩) ((n+1)-(i+1)) (c-(i+1))) (v':=.slice (some ⟨bw,(i+1)*1,none⟩) ((n+1)-(i+1)) (c-(i+1))) (fun ρ o w ho hi2=>yb (kz:=.i64) (t:=22) (e:=9) (size:=1) (bytes:=16) kr (x:=(.tmp 69)) (z:=(.tmp 72)) bw 0 (n+1) c (i+1) ho hi2.1 hi2.2.1 (by omega) (hroom) w) (by rw[if_neg (by omega),Qy]),.v,.v,.oe (ins:=[((.tmp 74),Qf bw (n+1) c),((.tmp 75),iN i)]) (v:=.slice (some ⟨bw,if c=i then 0 else 0+i*1,none⟩) ((n+1)-i) (c-i)) (v':=.slice (some ⟨bw,i*1,none⟩) ((n+1)-i) (c-i)) (fun ρ o w ho hi2=>yb (kz:=.i64) (t:=22) (e:=9) (size:=1) (bytes:=16) kr (x:=(.tmp 74)) (z:=(.tmp 75)) bw 0 (n+1) c i ho hi2.1 hi2.2.1 (by omega) (hroom) w) (by rw[if_neg (by omega),Qy]),
   .g [((.tmp 73),.slice (some ⟨bw,(i+1)*1,none⟩) ((n+1)-(i+1)) (c-(i+1))),((.tmp 76),.slice (some ⟨bw,i*1,none⟩) ((n+1)-i) (c-i))] (.call { callee:=.builtin .copy,args:=#[.tmp 73,.tmp 76],argTypes:=#[22,22] }) ((0,(bw,Qk (cur) 9))::[]) (fun _=>.int .i64 ((Ur ((n+1)-i) ((n+1)-(i+1)):Nat):Int)) (.turn 0 (.cells (zh (cur) ((i+1)*1) ((cellsF sS L).drop (i*1))) 9)) (jb (dT:=22) (sT:=22) (e:=9) (size:=1) kr kr (x:=(.tmp 73)) (y:=(.tmp 76)) (j:=0) (b:=bw) (off:=(i+1)*1) (dLen:=(n+1)-(i+1)) (dCap:=c-(i+1)) (sLen:=(n+1)-i) (sCap:=c-i) (a:=⟨bw,i*1,none⟩) (cur:=cur) (T:=9) (cs:=(cellsF sS L).drop (i*1)) (rd:=[]) (by rw[hdl];show _=min _ _*1;omega) (fun w hd=>jc hd.1 hsrcD) (by rw[hdl,hrw.sz];omega) (h1d))] H9 kr fun w10 H10=>?_
  have hsz1:(zh cur ((i+1)*1) ((cellsF sS L).drop (i*1))).size=c*1:=by rw[yF (by rw[hdl,hrw.sz];omega),hrw.sz]
  refine rS [.v,.v,.oe (ins:=[((.tmp 78),Qf bw (n+1) c),((.tmp 79),iN i)]) (v:=.slice (some ⟨bw,if c=i then 0 else 0+i*1,none⟩) ((n+1)-i) (c-i)) (v':=.slice (some ⟨bw,i*1,none⟩) ((n+1)-i) (c-i)) (fun ρ o w ho hi2=>yb (kz:=.i64) (t:=22) (e:=9) (size:=1) (bytes:=16) kr (x:=(.tmp 78)) (z:=(.tmp 79)) bw 0 (n+1) c i ho hi2.1 hi2.2.1 (by omega) (hroom) w) (by rw[if_neg (by omega),Qy]),.v,
   .g [((.tmp 80),.slice (some ⟨bw,i*1,none⟩) ((n+1)-i) (c-i)),((.tmp 81),Qf bv (1) (1))] (.call { callee:=.builtin .copy,args:=#[.tmp 80,.tmp 81],argTypes:=#[22,22] }) ((0,(bw,Qk (zh cur ((i+1)*1) ((cellsF sS L).drop (i*1))) 9))::[(1,(bv,sxO x))]) (fun _=>.int .i64 ((Ur (1) ((n+1)-i):Nat):Int)) (.turn 0 (.cells (zh (zh cur ((i+1)*1) ((cellsF sS L).drop (i*1))) (i*1) ([.string x])) 9 (0,0))) (jb (dT:=22) (sT:=22) (e:=9) (size:=1) kr kr (x:=(.tmp 80)) (y:=(.tmp 81)) (j:=0) (b:=bw) (off:=i*1) (dLen:=(n+1)-i) (dCap:=c-i) (sLen:=1) (sCap:=1) (a:=⟨bv,0,none⟩) (cur:=zh cur ((i+1)*1) ((cellsF sS L).drop (i*1))) (T:=9) (cs:=[.string x]) (rd:=[(1,(bv,sxO x))]) (by show 1=min _ _*1;omega) (fun w hd=>jc hd.2.1 (fun q v hq=>by rw[Qy,<-Rr];exact hq)) (by rw[hsz1,hxs];omega) (h1x))] H10 kr fun gs11 w11 H11=>?_
  refine rS [.v,.v] H11 kr fun gs12 w12 H12=>rRr [.tmp 6] [] (Qf bw (n+1) c) (yn B w0 Lr (L.take i++x::L.drop i)) H12 kr ?_;have hfin:Rw 1 (zh (zh cur ((i+1)*1) ((cellsF sS L).drop (i*1))) (i*1) [.string x]) c (n+1) (cellsF sS (L.take i++x::L.drop i)):=by
   refine⟨by rw[yi,hlen2];rfl,hroom,hmx,?_,by rw[yF (by rw[hsz1,hxs];omega),hsz1]⟩;rw[ecell];exact zdT hrw.sz hrw.take rfl hcl hxs hi hroom
  exact⟨Qg bw,n+1,c,_,rfl,.inr ⟨bw,_,rfl,rfl,hfin⟩,(H12.as (l:=(bw,.cells (zh (zh cur ((i+1)*1) ((cellsF sS L).drop (i*1))) (i*1) [.string x]) 9 (0,0))::(bv,sxO x)::Lr) kr).sub (Qx _ (QB ..))⟩
 ·refine rS [.v,.v,.E (.int .i64 (Qo.wrap ((n:Int)+1))) (iN (n+1)) (ze (zA (a:=n) (b:=1) (by omega))),.v,.v,.E (.bool (decide (((n+1:Nat):Int)>(c:Int)))) (.bool true) (za (decide_eq_true (by omega)))] H6 kr fun gs7 w7 H7=>zN kr kr ?_;have hm1:i+(n+1-i)=n+1:=by omega
  refine zg [0,1,2,3,4,5,6,7,8,9] kr kr<|rp [.v,.v,.o (ins:=[((.tmp 32),Qf bw n c),((.tmp 33),iN i)]) (v:=Qf bw i c) (fun ρ o w ho hi2=>qS (kd:=.i64) (t:=22) (e:=9) (size:=1) (bytes:=16) kr (x:=(.tmp 32)) (y:=(.tmp 33)) bw n c i ho hi2.1 hi2.2.1 (by omega) w),.v,.v,.E (.int .i64 (Qo.wrap ((n:Int)+1))) (iN (n+1)) (ze (zA (a:=n) (b:=1) (by omega))),.v,.E (.int .i64 (Qo.wrap (((n+1:Nat):Int)-(i:Int)))) (iN (n+1-i)) (ze (qg (by omega)))] H7 kr fun gs8 w8 H8=>wX [8,9] ?_;have H9:St B w0 w8 ((bw,.cells cur 9)::(bv,sxO x)::Lr):=H8.as kr;refine uF H9 (some 40) 22 3 9 1 16 .i64 (.tmp 34) (.tmp 39) 0 bw i c (n+1-i) cur ((cellsF sS L).take (i*1)) kr kr kr kr kr kr rfl (hrw.cut i (by omega)) (by omega) (by omega) (by omega) (by unfold maxLen;omega) ?_;intro b' cap' cur' w9 H10 hcp hcx hcs htk;rw[hm1]at hcp⊢;refine rp [.v] H10 kr fun gs9 w10 H11=>wX []<|zc ?_;have H12:St B w0 w10 ((b',.cells cur' 9)::(bw,.cells cur 9)::(bv,sxO x)::Lr):=H11.as kr;have hs1:(zh cur' (i*1) [.string x]).size=cap'*1:=by rw[yF (by rw[hcs,hxs];omega),hcs]
  refine rS [.v,.v,.oe (ins:=[((.tmp 41),Qf b' (n+1) cap'),((.tmp 42),iN i)]) (v:=.slice (some ⟨b',if cap'=i then 0 else 0+i*1,none⟩) ((n+1)-i) (cap'-i)) (v':=.slice (some ⟨b',i*1,none⟩) ((n+1)-i) (cap'-i)) (fun ρ o w ho hi2=>yb (kz:=.i64) (t:=22) (e:=9) (size:=1) (bytes:=16) kr (x:=(.tmp 41)) (z:=(.tmp 42)) b' 0 (n+1) cap' i ho hi2.1 hi2.2.1 (by omega) (hcp) w) (by rw[if_neg (by omega),Qy]),.v,
   .g [((.tmp 43),.slice (some ⟨b',i*1,none⟩) ((n+1)-i) (cap'-i)),((.tmp 44),Qf bv (1) (1))] (.call { callee:=.builtin .copy,args:=#[.tmp 43,.tmp 44],argTypes:=#[22,22] }) ((0,(b',Qk (cur') 9))::[(2,(bv,sxO x))]) (fun _=>.int .i64 ((Ur (1) ((n+1)-i):Nat):Int)) (.turn 0 (.cells (zh (cur') (i*1) ([.string x])) 9)) (jb (dT:=22) (sT:=22) (e:=9) (size:=1) kr kr (x:=(.tmp 43)) (y:=(.tmp 44)) (j:=0) (b:=b') (off:=i*1) (dLen:=(n+1)-i) (dCap:=cap'-i) (sLen:=1) (sCap:=1) (a:=⟨bv,0,none⟩) (cur:=cur') (T:=9) (cs:=[.string x]) (rd:=[(2,(bv,sxO x))]) (by show 1=min _ _*1;omega) (fun w hd=>jc hd.2.1 (fun q v hq=>by rw[Qy,<-Rr];exact hq)) (by rw[hcs,hxs];omega) (h1x))] H12 kr fun gs11 w11 H13=>?_
  refine dS [.v,.v,.v,.E (.int .i64 (Qo.wrap ((i:Int)+1))) (iN (i+1)) (ze (zA (a:=i) (b:=1) (by omega))),.oe (ins:=[((.tmp 46),Qf b' (n+1) cap'),((.tmp 49),iN (i+1))]) (v:=.slice (some ⟨b',if cap'=(i+1) then 0 else 0+(i+1)*1,none⟩) ((n+1)-(i+1)) (cap'-(i+1))) (v':=.slice (some ⟨b',(i+1)*1,none⟩) ((n+1)-(i+1)) (cap'-(i+1))) (fun ρ o w ho hi2=>yb (kz:=.i64) (t:=22) (e:=9) (size:=1) (bytes:=16) kr (x:=(.tmp 46)) (z:=(.tmp 49)) b' 0 (n+1) cap' (i+1) ho hi2.1 hi2.2.1 (by omega) (hcp) w) (by rw[if_neg (by omega),Qy]),.v,.v,.oe (ins:=[((.tmp 51),Qf bw n c),((.tmp 52),iN i)]) (v:=.slice (some ⟨bw,if c=i then 0 else 0+i*1,none⟩) (n-i) (c-i)) (v':=.slice (some ⟨bw,i*1,none⟩) (n-i) (c-i)) (fun ρ o w ho hi2=>yb (kz:=.i64) (t:=22) (e:=9) (size:=1) (bytes:=16) kr (x:=(.tmp 51)) (z:=(.tmp 52)) bw 0 n c i ho hi2.1 hi2.2.1 (by omega) (hle) w) (by rw[if_neg (by omega),Qy]),
   .g [((.tmp 50),.slice (some ⟨b',(i+1)*1,none⟩) ((n+1)-(i+1)) (cap'-(i+1))),((.tmp 53),.slice (some ⟨bw,i*1,none⟩) (n-i) (c-i))] (.call { callee:=.builtin .copy,args:=#[.tmp 50,.tmp 53],argTypes:=#[22,22] }) ((0,(b',Qk (zh cur' (i*1) [.string x]) 9))::[(1,(bw,.cells cur 9))]) (fun _=>.int .i64 ((Ur (n-i) ((n+1)-(i+1)):Nat):Int)) (.turn 0 (.cells (zh (zh cur' (i*1) [.string x]) ((i+1)*1) ((cellsF sS L).drop (i*1))) 9)) (jb (dT:=22) (sT:=22) (e:=9) (size:=1) kr kr (x:=(.tmp 50)) (y:=(.tmp 53)) (j:=0) (b:=b') (off:=(i+1)*1) (dLen:=(n+1)-(i+1)) (dCap:=cap'-(i+1)) (sLen:=n-i) (sCap:=c-i) (a:=⟨bw,i*1,none⟩) (cur:=zh cur' (i*1) [.string x]) (T:=9) (cs:=(cellsF sS L).drop (i*1)) (rd:=[(1,(bw,.cells cur 9))]) (by rw[hdl];show _=min _ _*1;omega) (fun w hd=>jc hd.2.1 hsrcD) (by rw[hdl,hs1];omega) (h1d))] H13 kr fun w12 H14=>?_
  refine rS [.v,.v] H14 kr fun gs12 w13 H15=>rRr [.tmp 6] [] (Qf b' (n+1) cap') (yn B w0 Lr (L.take i++x::L.drop i)) H15 kr ?_;have hfin:Rw 1 (zh (zh cur' (i*1) [.string x]) ((i+1)*1) ((cellsF sS L).drop (i*1))) cap' (n+1) (cellsF sS (L.take i++x::L.drop i)):=by
   refine⟨by rw[yi,hlen2];rfl,hcp,hcx,?_,by rw[yF (by rw[hs1,hdl];omega),hs1]⟩;rw[ecell];exact zdU hcs htk hcl hxs hdl hi hcp
  exact⟨Qg b',n+1,cap',_,rfl,.inr ⟨b',_,rfl,rfl,hfin⟩,(H15.as (l:=(b',.cells (zh (zh cur' (i*1) [.string x]) ((i+1)*1) ((cellsF sS L).drop (i*1))) 9)::(bw,.cells cur 9)::(bv,sxO x)::Lr) kr).sub (Qx _ ((QB ..).trans (QB ..)))⟩
theorem vG (p:Qc)(n c:Nat)(L:Qi)(x:Qa)(i bv:Nat)(row Lr:Qb){B:Nat}{w0 w:World}(hrow:zw sS 9 p n c row L)(h:St B w0 w (row++((bv,sxO x)::Lr)))(hi:i<=n)(hL:L.length<=1000000):
 Calls Try.prog 81 #[.slice p n c,iN i,Qf bv 1 1] w fun e w'=> ∃v,e=.returned v/\yn B w0 Lr (L.take i++x::L.drop i) v w':=by
 have hlen:=hrow.len;by_cases e:i=n
 ·subst e;rw[Qq (by omega),QE (by omega)];exact zdS p i c L x bv row Lr hrow h hL
 ·rcases hrow with⟨rfl,rfl,rfl,rfl,rfl⟩|⟨bw,cur,rfl,rfl,hrw⟩
  ·omega
  ·exact zdW bw n c cur L x i bv Lr hrw h (by omega) (by omega)
theorem zaQ {ρ:Env}(x y:Bal){s t:Operand}{o:Oper}(w:World)(ho:o.op=.binOp .eql 56 s t 56)(hx:ev ρ s=blV x)(hy:ev ρ t=blV y):
 (execOp (ev ρ) o).run Try.prog w=.ok (.value (.bool (decide (x=y)))) w:=by
 have h:=zal x y w;change ev ρ s=.agg (blC x)at hx;change ev ρ t=.agg (blC y)at hy;change (Op.equalIn 10000 56 (.agg (blC x)) (.agg (blC y))).run Try.prog w=_ at h;generalize blC x=X at h hx;generalize blC y=Y at h hy;unfold execOp;simp only[ho,hx,hy,resolve,QM,RY,QA,run_eqGuard_agg w _ _ _ _ _ _ (show Try.prog.eqGuardType Try.prog.depth 56=false by kernel_rfl),run_eql_struct,run_neq_struct,h]
theorem zaR {α:Type}(f:α->Bool): ∀(L:List α) (i:Nat) (x:α),i<zl f L->L[i]? =some x->f x=true
 | [],i,x,h,_=>absurd h (Ua _)
 | y::r,0,x,h,e=>by
  obtain rfl:y=x:=by simpa using e
  unfold zl at h;by_cases q:f y=true
  ·exact q
  ·rw[if_neg q]at h;omega
 | y::r,i+1,x,h,e=>by
  unfold zl at h;by_cases q:f y=true
  ·rw[if_pos q]at h;exact zaR f r i x (by omega) (by simpa using e)
  ·rw[if_neg q]at h;omega
theorem zaS {α:Type}(f:α->Bool){R:α->α->Prop}(hd: ∀x y,R x y->f y=true->f x=true): ∀(L:List α),L.Pairwise R-> ∀(i:Nat) (x:α),zl f L<=i->L[i]? =some x->f x=false
 | [],_,i,x,_,e=>by simp at e
 | y::r,hs,i,x,h,e=>by
  obtain⟨h1,h2⟩:=List.pairwise_cons.1 hs;unfold zl at h;by_cases q:f y=true
  ·rw[if_pos q]at h;obtain⟨i,rfl⟩:∃k,i=k+1:=⟨i-1,by omega⟩
   exact zaS f hd r h2 i x (by omega) (by simpa using e)
  ·cases i with
   | zero=>
    obtain rfl:y=x:=by simpa using e
    exact QZ.2 q
   | succ i=>
    have hx:x∈r:=Qp (by simpa using e);exact QZ.2 fun p=>q (hd y x (h1 x hx) p)
theorem kj {α:Type}(f:α->Bool){R:α->α->Prop}(hd: ∀x y,R x y->f y=true->f x=true){L:List α}(hs:L.Pairwise R){i:Nat}{x:α}(e:L[i]? =some x):f x=decide (i<zl f L):=by
 by_cases h:i<zl f L
 ·rw[decide_eq_true h];exact zaR f L i x h e
 ·rw[decide_eq_false h];exact zaS f hd L hs i x (by omega) e
theorem zdX (x:Qa)(b:Bal)(k:Nat):FnP Try.prog 67 #[.string x,Qe k] (fun w=>w.heap[k]? =some (blO b)) (.bool (zf (tl x) (tl b.2.1))):=by
 refine FnP.intro (c:=zk Try.f67) [.tmp 3] 8 Try.func67 kr kr kr fun w hP=>rS [.v] (St.start w) kr fun gs1 w1 H1=>rS [.v,.v,.fs (off:=1) (v:=.string b.2.1) hP (zj hP) kr,.E (.bool (RZ x.toList b.2.1.toList)) (.bool (zf (tl x) (tl b.2.1))) (za (jH _ _)),.v] H1 kr fun gs2 w2 H2=>?_;exact rR [.tmp 3] [] (.bool (zf (tl x) (tl b.2.1))) H2 kr
abbrev leV (k:Nat):Value:=.func (.func 67) #[] #[Qe k]
theorem zaT (p:Qc)(n c:Nat)(V:List Bal)(b:Bal)(i k5 k3 k:Nat)(x:Bal)(hx:V[i]? =some x)(hL:V.length<=1000000):FnP Try.prog 62 #[iN i,Qe k5,Qe k3] (fun w=>w.heap[k5]? =some (.cells #[ahV k] 73 (0,0))/\w.heap[k3]? =some (.cells #[.slice p n c] 30 (0,0))/\w.heap[k]? =some (blO b)/\AtF blS w p n V) (.bool (!(aheadB x b))):=by
 refine FnP.intro (c:=zk Try.f62) [.tmp 4] 12 Try.func62 kr kr kr fun w hP=>?_;obtain⟨h5,h3,hk,hA⟩:=hP;have hn:=hA.1;have hi:i<V.length:=(Qt.1 hx).1;obtain⟨bl,off,C,T,fz,hp,hh,hR⟩:=hA.row2 (by omega);refine rS [.v] (St.start w) kr fun gs1 w1 H1=>dS [.fs (off:=0) (v:=ahV k) h5 (zj h5) kr,.fs (off:=0) (v:=.slice p n c) h3 (zj h3) kr,.v,.o (ins:=[((.tmp 6),.slice p n c),((.tmp 7),iN i)]) (v:=.pointer (some ⟨bl,off+i*3,none⟩)) (fun ρ o w ho hi2=>zp (kd:=.i64) (t:=30) (e:=56) (K:=3) (bytes:=40) kr (x:=(.tmp 6)) (y:=(.tmp 7)) bl off n c i hp ho hi2.1 hi2.2.1 (by omega) w),.fp (off:=off+i*3) (n:=3) (W:=blC x) hh (zj hh) (hR _ _ hx).1 (hR _ _ hx).2,.cp (pre:=fun w=>w.heap[k]? =some (blO b)) (zaM x b k) [] (fun w hb hd=>zZ hk hb),.v,.v] H1 kr fun w2 H2=>?_;exact rR [.tmp 4] [] (.bool (!(aheadB x b))) H2 kr
theorem zaU (n a:Nat)(ha:a<=n)(hn:n<=1000000)(c0 c1:Value)(pre:World->Prop)(hst: ∀w w',pre w->Below w.heap.size w w'->pre w')(hc: ∀i,i<n->FnP Try.prog 62 #[iN i,c0,c1] pre (.bool (!decide (i<a)))):
 FnP Try.prog 61 #[iN n,.func (.func 62) #[] #[c0,c1]] pre (iN a):=by
 refine FnP.intro (c:=zk Try.f61) [.tmp 4] 26 Try.func61 kr kr kr fun w hP=>?_;have H0:=St.start w;refine rS [.v] H0 kr fun gs1 w1 H1=>rS [.v,.v,.v] H1 kr fun gs2 w2 H2=>zb kr<|yo 0 kr<|qP kr (fun mz ρ ww=> ∃(i j:Nat),j-i=mz/\i<=a/\a<=j/\j<=n/\St w.heap.size w ww []/\Is [(1,.func (.func 62) #[] #[c0,c1]),(5,iN i),(6,iN j)] ρ) (n-0) ⟨0,n,rfl,QH _,ha,Qs _,H2.as kr,isK⟩ ?_;clear H0 H1 H2;rintro _ _ w4 ⟨i,j,rfl,hia,haj,hjn,H4,_,rfl⟩;refine zb kr<|zb kr ?_;by_cases hi:i<j
 ·refine rL [.v,.v,.E (.bool (decide ((i:Int)<(j:Int)))) (.bool true) (za (decide_eq_true (by omega)))] H4 kr fun gs4 w5 H5=>wW<|zN kr kr<|zM kr<|wW<|yo 1 kr<|rS [.v,.v,.E (.int .i64 (Qo.wrap ((i:Int)+(j:Int)))) (iN (i+j)) (ze (zA (a:=i) (b:=j) (by omega))),.E (.int .u64 (UI.wrap ((i+j:Nat):Int))) (.int .u64 ((i+j:Nat):Int)) (ze (by rw[UU];omega)),.E (.int .u64 (Int.fdiv ((i+j:Nat):Int) (2^1))) (.int .u64 (((i+j) / 2:Nat):Int)) (ze (uw (k:=1) (i+j) 2 rfl)),.E (.int .i64 (Qo.wrap (((i+j) / 2:Nat):Int))) (iN ((i+j) / 2)) (ze (ux (by omega))),.v] H5 kr fun gs5 w6 H6=>?_;have hm:(i+j) / 2<n:=by omega
  have hcm:=hc ((i+j) / 2) hm;by_cases hlt:(i+j) / 2<a
  ·rw[decide_eq_true hlt]at hcm;refine rS [.v,.v,.cp (pre:=pre) hcm [] (fun w' hb hd=>hst w w' hP hb),.v] H6 kr fun gs6 w7 H7=>zN kr kr<|rL [.v,.E (.int .i64 (Qo.wrap (((i+j) / 2:Nat)+1))) (iN ((i+j) / 2+1)) (ze (zA (a:=(i+j) / 2) (b:=1) (by omega))),.v] H7 kr fun gs7 w8 H8=>?_;show ∃m,_/\_;exact⟨_,(by omega),(i+j) / 2+1,j,rfl,by omega,haj,hjn,H8.as kr,isK⟩
  ·rw[decide_eq_false hlt]at hcm;refine rS [.v,.v,.cp (pre:=pre) hcm [] (fun w' hb hd=>hst w w' hP hb),.v] H6 kr fun gs6 w7 H7=>zE kr kr<|rL [.v,.v] H7 kr fun gs7 w8 H8=>?_;show ∃m,_/\_;exact⟨_,(by omega),i,(i+j) / 2,rfl,hia,by omega,by omega,H8.as kr,isK⟩
 ·refine rL [.v,.v,.E (.bool (decide ((i:Int)<(j:Int)))) (.bool false) (za (decide_eq_false (by omega)))] H4 kr fun gs4 w5 H5=>wW<|zE kr kr<|qe 0 kr<|wW ?_;obtain rfl:i=a:=by omega
  refine rS [.v,.v] H5 kr fun gs6 w6 H6=>?_;exact rR [.tmp 4] [] (iN i) H6 kr
theorem zdY (p:Qc)(n c:Nat)(V:List Bal)(b:Bal)(k:Nat)(row Lr:Qb){B:Nat}{w0 w:World}(hrow:zw blS 56 p n c row V)(h:St B w0 w (row++((k,blO b)::Lr)))(hs:qI V)(hL:V.length<=1000000):
 Calls Try.prog 49 #[.slice p n c,blV b,ahV k] w fun e w'=> ∃v,e=.returned v/\zR B w0 ((k,blO b)::Lr) (zo (fun x=>aheadB x b) b V) v w':=by
 refine yJ (c:=zk Try.f49) (rs:=[.tmp 6]) (N:=30) Try.func49 kr kr kr ?_;have hlen:=hrow.len;refine zg [0,1,2,3] kr kr<|yR h (some 3) 30 (.tmp 0) (.slice p n c) kr kr kr ?_;intro b3 wb3 Hb3;refine yR Hb3 (some 4) 56 (.tmp 1) (blV b) kr kr kr ?_;intro b4 wb4 Hb4;refine yR Hb4 (some 5) 73 (.tmp 2) (ahV k) kr kr kr ?_;intro b5 wb5 Hb5;refine rp [.v] Hb5 kr fun gs0 w0' H0=>wX []<|zc<|wW ?_;rcases hrow with⟨rfl,rfl,rfl,rfl,rfl⟩ | ⟨bw,cur,rfl,rfl,hrw⟩
 ·have H1:St B w0 w0' ((b5,.cells #[ahV k] 73 (0,0))::(b4,blO b)::(b3,.cells #[.slice none 0 0] 30 (0,0))::(k,blO b)::Lr):=H0.as kr
  have hsr:=zaU 0 (zl (fun x=>aheadB x b) []) (by have:=qZ (fun x=>aheadB x b) [];exact this) (by omega) (Qe b5) (Qe b3) (fun w=>w.heap[b5]? =some (.cells #[ahV k] 73 (0,0))/\w.heap[b3]? =some (.cells #[.slice none 0 0] 30 (0,0))/\w.heap[k]? =some (blO b)/\AtF blS w none 0 []) (fun w w' h hb=>⟨zZ h.1 hb,zZ h.2.1 hb,zZ h.2.2.1 hb,h.2.2.2.call hb⟩) (fun i hi=>by
   obtain⟨x,hx⟩:∃x,([]:List Bal)[i]? =some x:=⟨_,Ql (by exact absurd hi (Ua _))⟩
   rw[<-kj (fun x=>aheadB x b) (fun x y hxy hy=>jo hxy hy) hs hx]
   exact zaT none 0 0 [] b i b5 b3 k x hx (QH _))
  refine rS [.l 2,.v,.v,.cp (pre:=(fun w=>w.heap[b5]? =some (.cells #[ahV k] 73 (0,0))/\w.heap[b3]? =some (.cells #[.slice none 0 0] 30 (0,0))/\w.heap[k]? =some (blO b)/\AtF blS w none 0 [])) hsr [(0,(b5,.cells #[ahV k] 73 (0,0))),(2,(b3,.cells #[.slice none 0 0] 30 (0,0))),(3,(k,blO b))] (fun w hb hd=>⟨hd.1,hd.2.1,hd.2.2.1,⟨rfl,.inl rfl⟩⟩),.v] H1 kr fun gs1 w1 H2=>zb kr<|dS [.v,.l 2,.v,.E (.bool (decide (((0:Nat):Int)<((0:Nat):Int)))) (.bool false) (za (rfl)),.v,.n,.n,.n,.n,.n,.n,.v] H2 kr fun w2 H3=>zu<|wW<|zg [0,1,2,3,4,5] kr kr<|rp [.l 2,.v,.l 1] H3 kr fun gs3 w3 H4=>wX [3,4,5] ?_;have H5:St B w0 w3 ((b5,.cells #[ahV k] 73 (0,0))::(b4,blO b)::(b3,.cells #[.slice none 0 0] 30 (0,0))::(k,blO b)::Lr):=H4.as kr;refine jA H5 (some 28) (fun b=>Qf b 1 1) (blC b) 56 kr kr ?_;intro bn w4 H6;refine qa (R:=zR B w0 (((b5,.cells #[ahV k] 73 (0,0))::(b4,blO b)::(b3,.cells #[.slice none 0 0] 30 (0,0))::(k,blO b)::Lr)) ([].take 0++b::[].drop 0)) (some 29) 63 #[.slice none 0 0,iN 0,Qf bn 1 1] (vF none 0 0 [] b 0 bn [] (((b5,.cells #[ahV k] 73 (0,0))::(b4,blO b)::(b3,.cells #[.slice none 0 0] 30 (0,0))::(k,blO b)::Lr)) (.inl ⟨rfl,rfl,rfl,rfl,rfl⟩) (H6) (Qs _) (QH _)) kr kr ?_;rintro v w5 ⟨q',m',k',row',rfl,hrow',H7⟩;refine rp [.v] H7 kr fun gs5 w6 H8=>wX []<|zc<|wW<|rRr [.tmp 6] [] (.slice q' m' k') (zR B w0 ((k,blO b)::Lr) (zo (fun x=>aheadB x b) b [])) H8 kr ?_;refine⟨q',m',k',row',rfl,?_,(H8.as (l:=row'++((b5,.cells #[ahV k] 73 (0,0))::(b4,blO b)::(b3,.cells #[.slice none 0 0] 30 (0,0))::(k,blO b)::Lr)) kr).sub (Q8 (Rz _) (QC [_,_,_] _))⟩;exact hrow'
 ·have H1:St B w0 w0' ((b5,.cells #[ahV k] 73 (0,0))::(b4,blO b)::(b3,.cells #[Qf bw n c] 30 (0,0))::(bw,.cells cur 56)::(k,blO b)::Lr):=H0.as kr
  have hsr:=zaU n (zl (fun x=>aheadB x b) V) (by have:=qZ (fun x=>aheadB x b) V;omega) (by omega) (Qe b5) (Qe b3) (fun w=>w.heap[b5]? =some (.cells #[ahV k] 73 (0,0))/\w.heap[b3]? =some (.cells #[Qf bw n c] 30 (0,0))/\w.heap[k]? =some (blO b)/\AtF blS w (Qg bw) n V) (fun w w' h hb=>⟨zZ h.1 hb,zZ h.2.1 hb,zZ h.2.2.1 hb,h.2.2.2.call hb⟩) (fun i hi=>by
   obtain⟨x,hx⟩:∃x,V[i]? =some x:=⟨_,Ql (by omega)⟩
   rw[<-kj (fun x=>aheadB x b) (fun x y hxy hy=>jo hxy hy) hs hx]
   exact zaT (Qg bw) n c V b i b5 b3 k x hx hL)
  refine rS [.l 2,.v,.v,.cp (pre:=(fun w=>w.heap[b5]? =some (.cells #[ahV k] 73 (0,0))/\w.heap[b3]? =some (.cells #[Qf bw n c] 30 (0,0))/\w.heap[k]? =some (blO b)/\AtF blS w (Qg bw) n V)) hsr [(0,(b5,.cells #[ahV k] 73 (0,0))),(2,(b3,.cells #[Qf bw n c] 30 (0,0))),(4,(k,blO b)),(3,(bw,.cells cur 56))] (fun w hb hd=>⟨hd.1,hd.2.1,hd.2.2.1,vk hrw hd.2.2.2.1⟩),.v] H1 kr fun gs1 w1 H2=>zb kr ?_;have hpl:=qZ (fun x=>aheadB x b) V;by_cases hat:zl (fun x=>aheadB x b) V<n
  ·obtain⟨x,hx⟩:∃x,V[zl (fun x=>aheadB x b) V]? =some x:=⟨_,Ql (by omega)⟩
   have hR:=hrw.rowAt;by_cases hxb:x=b
   ·refine dS [.v,.l 2,.v,.E (.bool (decide (((zl (fun x=>aheadB x b) V:Nat):Int)<(n:Int)))) (.bool true) (za (decide_eq_true (by omega))),.v,.l 2,.v,.o (ins:=[((.tmp 17),Qf bw n c),((.tmp 18),iN (zl (fun x=>aheadB x b) V))]) (v:=.pointer (some ⟨bw,0+(zl (fun x=>aheadB x b) V)*3,none⟩)) (fun ρ o w ho hi2=>zp (kd:=.i64) (t:=30) (e:=56) (K:=3) (bytes:=40) kr (x:=(.tmp 17)) (y:=(.tmp 18)) bw 0 n c (zl (fun x=>aheadB x b) V) rfl ho hi2.1 hi2.2.1 hat w),.lp 3 (C:=cur) (off:=0+(zl (fun x=>aheadB x b) V)*3) (n:=3) (W:=blC x) (hR _ _ hx).1 (hR _ _ hx).2,.l 1,.oe (ins:=[((.tmp 20),blV x),((.tmp 21),blV b)]) (op:=.binOp .eql 56 (.tmp 20) (.tmp 21) 56) (v:=.bool (decide (x=b))) (v':=.bool true) (fun ρ o w ho hi2=>zaQ x b w ho hi2.1 hi2.2.1) (za (decide_eq_true hxb)),.v] H2 kr fun w2 H3=>zq<|rS [.l 2,.v] H3 kr fun gs3 w3 H4=>rRr [.tmp 6] [] (Qf bw n c) (zR B w0 ((k,blO b)::Lr) (zo (fun x=>aheadB x b) b V)) H4 kr ?_;refine⟨Qg bw,n,c,[(bw,.cells cur 56)],rfl,?_,(H4.as (l:=((b5,.cells #[ahV k] 73 (0,0))::(b4,blO b)::(b3,.cells #[Qf bw n c] 30 (0,0))::(bw,.cells cur 56)::(k,blO b)::Lr)) kr).sub (QC [_,_,_] _)⟩;rw[show zo (fun x=>aheadB x b) b V=V by unfold zo;rw[if_pos (by rw[hx,hxb])]];exact .inr ⟨bw,cur,rfl,rfl,hrw⟩
   ·refine dS [.v,.l 2,.v,.E (.bool (decide (((zl (fun x=>aheadB x b) V:Nat):Int)<(n:Int)))) (.bool true) (za (decide_eq_true (by omega))),.v,.l 2,.v,.o (ins:=[((.tmp 17),Qf bw n c),((.tmp 18),iN (zl (fun x=>aheadB x b) V))]) (v:=.pointer (some ⟨bw,0+(zl (fun x=>aheadB x b) V)*3,none⟩)) (fun ρ o w ho hi2=>zp (kd:=.i64) (t:=30) (e:=56) (K:=3) (bytes:=40) kr (x:=(.tmp 17)) (y:=(.tmp 18)) bw 0 n c (zl (fun x=>aheadB x b) V) rfl ho hi2.1 hi2.2.1 hat w),.lp 3 (C:=cur) (off:=0+(zl (fun x=>aheadB x b) V)*3) (n:=3) (W:=blC x) (hR _ _ hx).1 (hR _ _ hx).2,.l 1,.oe (ins:=[((.tmp 20),blV x),((.tmp 21),blV b)]) (op:=.binOp .eql 56 (.tmp 20) (.tmp 21) 56) (v:=.bool (decide (x=b))) (v':=.bool false) (fun ρ o w ho hi2=>zaQ x b w ho hi2.1 hi2.2.1) (za (decide_eq_false hxb)),.v] H2 kr fun w2 H3=>zu<|wW<|zg [0,1,2,3,4,5] kr kr<|rp [.l 2,.v,.l 1] H3 kr fun gs3 w3 H4=>wX [3,4,5] ?_;have H5:St B w0 w3 ((b5,.cells #[ahV k] 73 (0,0))::(b4,blO b)::(b3,.cells #[Qf bw n c] 30 (0,0))::(bw,.cells cur 56)::(k,blO b)::Lr):=H4.as kr;refine jA H5 (some 28) (fun b=>Qf b 1 1) (blC b) 56 kr kr ?_;intro bn w4 H6;refine qa (R:=zR B w0 (((b5,.cells #[ahV k] 73 (0,0))::(b4,blO b)::(b3,.cells #[Qf bw n c] 30 (0,0))::(k,blO b)::Lr)) (V.take (zl (fun x=>aheadB x b) V)++b::V.drop (zl (fun x=>aheadB x b) V))) (some 29) 63 #[Qf bw n c,iN (zl (fun x=>aheadB x b) V),Qf bn 1 1] (vF (Qg bw) n c V b (zl (fun x=>aheadB x b) V) bn [(bw,.cells cur 56)] (((b5,.cells #[ahV k] 73 (0,0))::(b4,blO b)::(b3,.cells #[Qf bw n c] 30 (0,0))::(k,blO b)::Lr)) (.inr ⟨bw,cur,rfl,rfl,hrw⟩) (H6.perm (Rb [(bw,.cells cur 56)] ((bn,blO b)::(b5,.cells #[ahV k] 73 (0,0))::(b4,blO b)::(b3,.cells #[Qf bw n c] 30 (0,0))::[]) ((k,blO b)::Lr))) (by omega) hL) kr kr ?_;rintro v w5 ⟨q',m',k',row',rfl,hrow',H7⟩;refine rp [.v] H7 kr fun gs5 w6 H8=>wX []<|zc<|wW<|rRr [.tmp 6] [] (.slice q' m' k') (zR B w0 ((k,blO b)::Lr) (zo (fun x=>aheadB x b) b V)) H8 kr ?_;refine⟨q',m',k',row',rfl,?_,(H8.as (l:=row'++((b5,.cells #[ahV k] 73 (0,0))::(b4,blO b)::(b3,.cells #[Qf bw n c] 30 (0,0))::(k,blO b)::Lr)) kr).sub (Q8 (Rz _) (QC [_,_,_] _))⟩;rw[show zo (fun x=>aheadB x b) b V=V.take (zl (fun x=>aheadB x b) V)++b::V.drop (zl (fun x=>aheadB x b) V) by unfold zo;rw[if_neg (by rw[hx];exact fun q=>hxb (Option.some.inj q))]];exact hrow'
  ·refine dS [.v,.l 2,.v,.E (.bool (decide (((zl (fun x=>aheadB x b) V:Nat):Int)<(n:Int)))) (.bool false) (za (decide_eq_false (by omega))),.v,.n,.n,.n,.n,.n,.n,.v] H2 kr fun w2 H3=>zu<|wW<|zg [0,1,2,3,4,5] kr kr<|rp [.l 2,.v,.l 1] H3 kr fun gs3 w3 H4=>wX [3,4,5] ?_;have H5:St B w0 w3 ((b5,.cells #[ahV k] 73 (0,0))::(b4,blO b)::(b3,.cells #[Qf bw n c] 30 (0,0))::(bw,.cells cur 56)::(k,blO b)::Lr):=H4.as kr;refine jA H5 (some 28) (fun b=>Qf b 1 1) (blC b) 56 kr kr ?_;intro bn w4 H6;refine qa (R:=zR B w0 (((b5,.cells #[ahV k] 73 (0,0))::(b4,blO b)::(b3,.cells #[Qf bw n c] 30 (0,0))::(k,blO b)::Lr)) (V.take (zl (fun x=>aheadB x b) V)++b::V.drop (zl (fun x=>aheadB x b) V))) (some 29) 63 #[Qf bw n c,iN (zl (fun x=>aheadB x b) V),Qf bn 1 1] (vF (Qg bw) n c V b (zl (fun x=>aheadB x b) V) bn [(bw,.cells cur 56)] (((b5,.cells #[ahV k] 73 (0,0))::(b4,blO b)::(b3,.cells #[Qf bw n c] 30 (0,0))::(k,blO b)::Lr)) (.inr ⟨bw,cur,rfl,rfl,hrw⟩) (H6.perm (Rb [(bw,.cells cur 56)] ((bn,blO b)::(b5,.cells #[ahV k] 73 (0,0))::(b4,blO b)::(b3,.cells #[Qf bw n c] 30 (0,0))::[]) ((k,blO b)::Lr))) (by omega) hL) kr kr ?_;rintro v w5 ⟨q',m',k',row',rfl,hrow',H7⟩;refine rp [.v] H7 kr fun gs5 w6 H8=>wX []<|zc<|wW<|rRr [.tmp 6] [] (.slice q' m' k') (zR B w0 ((k,blO b)::Lr) (zo (fun x=>aheadB x b) b V)) H8 kr ?_;refine⟨q',m',k',row',rfl,?_,(H8.as (l:=row'++((b5,.cells #[ahV k] 73 (0,0))::(b4,blO b)::(b3,.cells #[Qf bw n c] 30 (0,0))::(k,blO b)::Lr)) kr).sub (Q8 (Rz _) (QC [_,_,_] _))⟩;rw[show zo (fun x=>aheadB x b) b V=V.take (zl (fun x=>aheadB x b) V)++b::V.drop (zl (fun x=>aheadB x b) V) by unfold zo;rw[if_neg (by rw[Q9 (by omega)];exact fun q=>nomatch q)]];exact hrow'
theorem zaV (p:Qc)(n c:Nat)(L:Qi)(b:Bal)(i k5 k3 k:Nat)(x:Qa)(hx:L[i]? =some x)(hL:L.length<=1000000):FnP Try.prog 80 #[iN i,Qe k5,Qe k3] (fun w=>w.heap[k5]? =some (.cells #[leV k] 87 (0,0))/\w.heap[k3]? =some (.cells #[.slice p n c] 22 (0,0))/\w.heap[k]? =some (blO b)/\AtF sS w p n L) (.bool (!(zf (tl x) (tl b.2.1)))):=by
 refine FnP.intro (c:=zk Try.f80) [.tmp 4] 12 Try.func80 kr kr kr fun w hP=>?_;obtain⟨h5,h3,hk,hA⟩:=hP;have hn:=hA.1;have hi:i<L.length:=(Qt.1 hx).1;obtain⟨bl,off,C,T,fz,hp,hh,hR⟩:=hA.row2 (by omega);have hcx:C[off+i*1]? =some (.string x):=hR.cell hx 0 (by decide);refine rS [.v] (St.start w) kr fun gs1 w1 H1=>dS [.fs (off:=0) (v:=leV k) h5 (zj h5) kr,.fs (off:=0) (v:=.slice p n c) h3 (zj h3) kr,.v,.o (ins:=[((.tmp 6),.slice p n c),((.tmp 7),iN i)]) (v:=.pointer (some ⟨bl,off+i*1,none⟩)) (fun ρ o w ho hi2=>zp (kd:=.i64) (t:=22) (e:=9) (K:=1) (bytes:=16) kr (x:=(.tmp 6)) (y:=(.tmp 7)) bl off n c i hp ho hi2.1 hi2.2.1 (by omega) w),.fs (off:=off+i*1) (v:=.string x) hh (zj hh) hcx,.cp (pre:=fun w=>w.heap[k]? =some (blO b)) (zdX x b k) [] (fun w hb hd=>zZ hk hb),.v,.v] H1 kr fun w2 H2=>?_;exact rR [.tmp 4] [] (.bool (!(zf (tl x) (tl b.2.1)))) H2 kr
theorem zaW (n a:Nat)(ha:a<=n)(hn:n<=1000000)(c0 c1:Value)(pre:World->Prop)(hst: ∀w w',pre w->Below w.heap.size w w'->pre w')(hc: ∀i,i<n->FnP Try.prog 80 #[iN i,c0,c1] pre (.bool (!decide (i<a)))):
 FnP Try.prog 61 #[iN n,.func (.func 80) #[] #[c0,c1]] pre (iN a):=by
 refine FnP.intro (c:=zk Try.f61) [.tmp 4] 26 Try.func61 kr kr kr fun w hP=>?_;have H0:=St.start w;refine rS [.v] H0 kr fun gs1 w1 H1=>rS [.v,.v,.v] H1 kr fun gs2 w2 H2=>zb kr<|yo 0 kr<|qP kr (fun mz ρ ww=> ∃(i j:Nat),j-i=mz/\i<=a/\a<=j/\j<=n/\St w.heap.size w ww []/\Is [(1,.func (.func 80) #[] #[c0,c1]),(5,iN i),(6,iN j)] ρ) (n-0) ⟨0,n,rfl,QH _,ha,Qs _,H2.as kr,isK⟩ ?_;clear H0 H1 H2;rintro _ _ w4 ⟨i,j,rfl,hia,haj,hjn,H4,_,rfl⟩;refine zb kr<|zb kr ?_;by_cases hi:i<j
 ·refine rL [.v,.v,.E (.bool (decide ((i:Int)<(j:Int)))) (.bool true) (za (decide_eq_true (by omega)))] H4 kr fun gs4 w5 H5=>wW<|zN kr kr<|zM kr<|wW<|yo 1 kr<|rS [.v,.v,.E (.int .i64 (Qo.wrap ((i:Int)+(j:Int)))) (iN (i+j)) (ze (zA (a:=i) (b:=j) (by omega))),.E (.int .u64 (UI.wrap ((i+j:Nat):Int))) (.int .u64 ((i+j:Nat):Int)) (ze (by rw[UU];omega)),.E (.int .u64 (Int.fdiv ((i+j:Nat):Int) (2^1))) (.int .u64 (((i+j) / 2:Nat):Int)) (ze (uw (k:=1) (i+j) 2 rfl)),.E (.int .i64 (Qo.wrap (((i+j) / 2:Nat):Int))) (iN ((i+j) / 2)) (ze (ux (by omega))),.v] H5 kr fun gs5 w6 H6=>?_;have hm:(i+j) / 2<n:=by omega
  have hcm:=hc ((i+j) / 2) hm;by_cases hlt:(i+j) / 2<a
  ·rw[decide_eq_true hlt]at hcm;refine rS [.v,.v,.cp (pre:=pre) hcm [] (fun w' hb hd=>hst w w' hP hb),.v] H6 kr fun gs6 w7 H7=>zN kr kr<|rL [.v,.E (.int .i64 (Qo.wrap (((i+j) / 2:Nat)+1))) (iN ((i+j) / 2+1)) (ze (zA (a:=(i+j) / 2) (b:=1) (by omega))),.v] H7 kr fun gs7 w8 H8=>?_;show ∃m,_/\_;exact⟨_,(by omega),(i+j) / 2+1,j,rfl,by omega,haj,hjn,H8.as kr,isK⟩
  ·rw[decide_eq_false hlt]at hcm;refine rS [.v,.v,.cp (pre:=pre) hcm [] (fun w' hb hd=>hst w w' hP hb),.v] H6 kr fun gs6 w7 H7=>zE kr kr<|rL [.v,.v] H7 kr fun gs7 w8 H8=>?_;show ∃m,_/\_;exact⟨_,(by omega),i,(i+j) / 2,rfl,hia,by omega,by omega,H8.as kr,isK⟩
 ·refine rL [.v,.v,.E (.bool (decide ((i:Int)<(j:Int)))) (.bool false) (za (decide_eq_false (by omega)))] H4 kr fun gs4 w5 H5=>wW<|zE kr kr<|qe 0 kr<|wW ?_;obtain rfl:i=a:=by omega
  refine rS [.v,.v] H5 kr fun gs6 w6 H6=>?_;exact rR [.tmp 4] [] (iN i) H6 kr
theorem zdZ (p:Qc)(n c:Nat)(L:Qi)(b:Bal)(k:Nat)(row Lr:Qb){B:Nat}{w0 w:World}(hrow:zw sS 9 p n c row L)(h:St B w0 w (row++((k,blO b)::Lr)))(hs:qJ L)(hL:L.length<=1000000):
 Calls Try.prog 66 #[.slice p n c,.string b.2.1,leV k] w fun e w'=> ∃v,e=.returned v/\yn B w0 ((k,blO b)::Lr) (zo (fun x=>zf (tl x) (tl b.2.1)) b.2.1 L) v w':=by
 refine yJ (c:=zk Try.f66) (rs:=[.tmp 6]) (N:=30) Try.func66 kr kr kr ?_;have hlen:=hrow.len;refine zg [0,1,2] kr kr<|yR h (some 3) 22 (.tmp 0) (.slice p n c) kr kr kr ?_;intro b3 wb3 Hb3;refine yR Hb3 (some 5) 87 (.tmp 2) (leV k) kr kr kr ?_;intro b5 wb5 Hb5;refine rp [.v] Hb5 kr fun gs0 w0' H0=>wX []<|zc<|wW ?_;rcases hrow with⟨rfl,rfl,rfl,rfl,rfl⟩ | ⟨bw,cur,rfl,rfl,hrw⟩
 ·have H1:St B w0 w0' ((b5,.cells #[leV k] 87 (0,0))::(b3,.cells #[.slice none 0 0] 22 (0,0))::(k,blO b)::Lr):=H0.as kr
  have hsr:=zaW 0 (zl (fun x=>zf (tl x) (tl b.2.1)) []) (by have:=qZ (fun x=>zf (tl x) (tl b.2.1)) [];exact this) (by omega) (Qe b5) (Qe b3) (fun w=>w.heap[b5]? =some (.cells #[leV k] 87 (0,0))/\w.heap[b3]? =some (.cells #[.slice none 0 0] 22 (0,0))/\w.heap[k]? =some (blO b)/\AtF sS w none 0 []) (fun w w' h hb=>⟨zZ h.1 hb,zZ h.2.1 hb,zZ h.2.2.1 hb,h.2.2.2.call hb⟩) (fun i hi=>by
   obtain⟨x,hx⟩:∃x,([]:Qi)[i]? =some x:=⟨_,Ql (by exact absurd hi (Ua _))⟩
   rw[<-kj (fun x=>zf (tl x) (tl b.2.1)) (fun x y hxy hy=>jj hxy hy) hs hx]
   exact zaV none 0 0 [] b i b5 b3 k x hx (QH _))
  refine rS [.l 1,.v,.v,.cp (pre:=(fun w=>w.heap[b5]? =some (.cells #[leV k] 87 (0,0))/\w.heap[b3]? =some (.cells #[.slice none 0 0] 22 (0,0))/\w.heap[k]? =some (blO b)/\AtF sS w none 0 [])) hsr [(0,(b5,.cells #[leV k] 87 (0,0))),(1,(b3,.cells #[.slice none 0 0] 22 (0,0))),(2,(k,blO b))] (fun w hb hd=>⟨hd.1,hd.2.1,hd.2.2.1,⟨rfl,.inl rfl⟩⟩),.v] H1 kr fun gs1 w1 H2=>zb kr<|rS [.v,.l 1,.v,.E (.bool (decide (((0:Nat):Int)<((0:Nat):Int)))) (.bool false) (za (rfl)),.v,.n,.n,.n,.n,.n,.n,.v] H2 kr fun gs2 w2 H3=>zu<|wW<|zg [0,1,2,3,4,5] kr kr<|rp [.l 1,.v,.v] H3 kr fun gs3 w3 H4=>wX [3,4,5] ?_;have H5:St B w0 w3 ((b5,.cells #[leV k] 87 (0,0))::(b3,.cells #[.slice none 0 0] 22 (0,0))::(k,blO b)::Lr):=H4.as kr;refine jA H5 (some 28) (fun b=>Qf b 1 1) #[.string b.2.1] 9 kr kr ?_;intro bn w4 H6;refine qa (R:=yn B w0 (((b5,.cells #[leV k] 87 (0,0))::(b3,.cells #[.slice none 0 0] 22 (0,0))::(k,blO b)::Lr)) ([].take 0++b.2.1::[].drop 0)) (some 29) 81 #[.slice none 0 0,iN 0,Qf bn 1 1] (vG none 0 0 [] b.2.1 0 bn [] (((b5,.cells #[leV k] 87 (0,0))::(b3,.cells #[.slice none 0 0] 22 (0,0))::(k,blO b)::Lr)) (.inl ⟨rfl,rfl,rfl,rfl,rfl⟩) (H6) (Qs _) (QH _)) kr kr ?_;rintro v w5 ⟨q',m',k',row',rfl,hrow',H7⟩;refine rp [.v] H7 kr fun gs5 w6 H8=>wX []<|zc<|wW<|rRr [.tmp 6] [] (.slice q' m' k') (yn B w0 ((k,blO b)::Lr) (zo (fun x=>zf (tl x) (tl b.2.1)) b.2.1 [])) H8 kr ?_;refine⟨q',m',k',row',rfl,?_,(H8.as (l:=row'++((b5,.cells #[leV k] 87 (0,0))::(b3,.cells #[.slice none 0 0] 22 (0,0))::(k,blO b)::Lr)) kr).sub (Q8 (Rz _) (QC [_,_] _))⟩;exact hrow'
 ·have H1:St B w0 w0' ((b5,.cells #[leV k] 87 (0,0))::(b3,.cells #[Qf bw n c] 22 (0,0))::(bw,.cells cur 9)::(k,blO b)::Lr):=H0.as kr
  have hsr:=zaW n (zl (fun x=>zf (tl x) (tl b.2.1)) L) (by have:=qZ (fun x=>zf (tl x) (tl b.2.1)) L;omega) (by omega) (Qe b5) (Qe b3) (fun w=>w.heap[b5]? =some (.cells #[leV k] 87 (0,0))/\w.heap[b3]? =some (.cells #[Qf bw n c] 22 (0,0))/\w.heap[k]? =some (blO b)/\AtF sS w (Qg bw) n L) (fun w w' h hb=>⟨zZ h.1 hb,zZ h.2.1 hb,zZ h.2.2.1 hb,h.2.2.2.call hb⟩) (fun i hi=>by
   obtain⟨x,hx⟩:∃x,L[i]? =some x:=⟨_,Ql (by omega)⟩
   rw[<-kj (fun x=>zf (tl x) (tl b.2.1)) (fun x y hxy hy=>jj hxy hy) hs hx]
   exact zaV (Qg bw) n c L b i b5 b3 k x hx hL)
  refine rS [.l 1,.v,.v,.cp (pre:=(fun w=>w.heap[b5]? =some (.cells #[leV k] 87 (0,0))/\w.heap[b3]? =some (.cells #[Qf bw n c] 22 (0,0))/\w.heap[k]? =some (blO b)/\AtF sS w (Qg bw) n L)) hsr [(0,(b5,.cells #[leV k] 87 (0,0))),(1,(b3,.cells #[Qf bw n c] 22 (0,0))),(3,(k,blO b)),(2,(bw,.cells cur 9))] (fun w hb hd=>⟨hd.1,hd.2.1,hd.2.2.1,vk hrw hd.2.2.2.1⟩),.v] H1 kr fun gs1 w1 H2=>zb kr ?_;have hpl:=qZ (fun x=>zf (tl x) (tl b.2.1)) L;by_cases hat:zl (fun x=>zf (tl x) (tl b.2.1)) L<n
  ·obtain⟨x,hx⟩:∃x,L[zl (fun x=>zf (tl x) (tl b.2.1)) L]? =some x:=⟨_,Ql (by omega)⟩
   have hR:=hrw.rowAt;by_cases hxb:x=b.2.1
   ·refine rS [.v,.l 1,.v,.E (.bool (decide (((zl (fun x=>zf (tl x) (tl b.2.1)) L:Nat):Int)<(n:Int)))) (.bool true) (za (decide_eq_true (by omega))),.v,.l 1,.v,.o (ins:=[((.tmp 17),Qf bw n c),((.tmp 18),iN (zl (fun x=>zf (tl x) (tl b.2.1)) L))]) (v:=.pointer (some ⟨bw,0+(zl (fun x=>zf (tl x) (tl b.2.1)) L)*1,none⟩)) (fun ρ o w ho hi2=>zp (kd:=.i64) (t:=22) (e:=9) (K:=1) (bytes:=16) kr (x:=(.tmp 17)) (y:=(.tmp 18)) bw 0 n c (zl (fun x=>zf (tl x) (tl b.2.1)) L) rfl ho hi2.1 hi2.2.1 hat w),.ls 2 (C:=cur) (off:=0+(zl (fun x=>zf (tl x) (tl b.2.1)) L)*1) (v:=.string x) (hR.cell hx 0 (by decide)),.v,.E (.bool (x.toList==b.2.1.toList)) (.bool true) (za (yS _ _ hxb)),.v] H2 kr fun gs2 w2 H3=>zq<|rS [.l 1,.v] H3 kr fun gs3 w3 H4=>rRr [.tmp 6] [] (Qf bw n c) (yn B w0 ((k,blO b)::Lr) (zo (fun x=>zf (tl x) (tl b.2.1)) b.2.1 L)) H4 kr ?_;refine⟨Qg bw,n,c,[(bw,.cells cur 9)],rfl,?_,(H4.as (l:=((b5,.cells #[leV k] 87 (0,0))::(b3,.cells #[Qf bw n c] 22 (0,0))::(bw,.cells cur 9)::(k,blO b)::Lr)) kr).sub (QC [_,_] _)⟩;rw[show zo (fun x=>zf (tl x) (tl b.2.1)) b.2.1 L=L by unfold zo;rw[if_pos (by rw[hx,hxb])]];exact .inr ⟨bw,cur,rfl,rfl,hrw⟩
   ·refine rS [.v,.l 1,.v,.E (.bool (decide (((zl (fun x=>zf (tl x) (tl b.2.1)) L:Nat):Int)<(n:Int)))) (.bool true) (za (decide_eq_true (by omega))),.v,.l 1,.v,.o (ins:=[((.tmp 17),Qf bw n c),((.tmp 18),iN (zl (fun x=>zf (tl x) (tl b.2.1)) L))]) (v:=.pointer (some ⟨bw,0+(zl (fun x=>zf (tl x) (tl b.2.1)) L)*1,none⟩)) (fun ρ o w ho hi2=>zp (kd:=.i64) (t:=22) (e:=9) (K:=1) (bytes:=16) kr (x:=(.tmp 17)) (y:=(.tmp 18)) bw 0 n c (zl (fun x=>zf (tl x) (tl b.2.1)) L) rfl ho hi2.1 hi2.2.1 hat w),.ls 2 (C:=cur) (off:=0+(zl (fun x=>zf (tl x) (tl b.2.1)) L)*1) (v:=.string x) (hR.cell hx 0 (by decide)),.v,.E (.bool (x.toList==b.2.1.toList)) (.bool false) (za (yO _ _ hxb)),.v] H2 kr fun gs2 w2 H3=>zu<|wW<|zg [0,1,2,3,4,5] kr kr<|rp [.l 1,.v,.v] H3 kr fun gs3 w3 H4=>wX [3,4,5] ?_;have H5:St B w0 w3 ((b5,.cells #[leV k] 87 (0,0))::(b3,.cells #[Qf bw n c] 22 (0,0))::(bw,.cells cur 9)::(k,blO b)::Lr):=H4.as kr;refine jA H5 (some 28) (fun b=>Qf b 1 1) #[.string b.2.1] 9 kr kr ?_;intro bn w4 H6;refine qa (R:=yn B w0 (((b5,.cells #[leV k] 87 (0,0))::(b3,.cells #[Qf bw n c] 22 (0,0))::(k,blO b)::Lr)) (L.take (zl (fun x=>zf (tl x) (tl b.2.1)) L)++b.2.1::L.drop (zl (fun x=>zf (tl x) (tl b.2.1)) L))) (some 29) 81 #[Qf bw n c,iN (zl (fun x=>zf (tl x) (tl b.2.1)) L),Qf bn 1 1] (vG (Qg bw) n c L b.2.1 (zl (fun x=>zf (tl x) (tl b.2.1)) L) bn [(bw,.cells cur 9)] (((b5,.cells #[leV k] 87 (0,0))::(b3,.cells #[Qf bw n c] 22 (0,0))::(k,blO b)::Lr)) (.inr ⟨bw,cur,rfl,rfl,hrw⟩) (H6.perm (Rb [(bw,.cells cur 9)] ((bn,sxO b.2.1)::(b5,.cells #[leV k] 87 (0,0))::(b3,.cells #[Qf bw n c] 22 (0,0))::[]) ((k,blO b)::Lr))) (by omega) hL) kr kr ?_;rintro v w5 ⟨q',m',k',row',rfl,hrow',H7⟩;refine rp [.v] H7 kr fun gs5 w6 H8=>wX []<|zc<|wW<|rRr [.tmp 6] [] (.slice q' m' k') (yn B w0 ((k,blO b)::Lr) (zo (fun x=>zf (tl x) (tl b.2.1)) b.2.1 L)) H8 kr ?_;refine⟨q',m',k',row',rfl,?_,(H8.as (l:=row'++((b5,.cells #[leV k] 87 (0,0))::(b3,.cells #[Qf bw n c] 22 (0,0))::(k,blO b)::Lr)) kr).sub (Q8 (Rz _) (QC [_,_] _))⟩;rw[show zo (fun x=>zf (tl x) (tl b.2.1)) b.2.1 L=L.take (zl (fun x=>zf (tl x) (tl b.2.1)) L)++b.2.1::L.drop (zl (fun x=>zf (tl x) (tl b.2.1)) L) by unfold zo;rw[if_neg (by rw[hx];exact fun q=>hxb (Option.some.inj q))]];exact hrow'
  ·refine rS [.v,.l 1,.v,.E (.bool (decide (((zl (fun x=>zf (tl x) (tl b.2.1)) L:Nat):Int)<(n:Int)))) (.bool false) (za (decide_eq_false (by omega))),.v,.n,.n,.n,.n,.n,.n,.v] H2 kr fun gs2 w2 H3=>zu<|wW<|zg [0,1,2,3,4,5] kr kr<|rp [.l 1,.v,.v] H3 kr fun gs3 w3 H4=>wX [3,4,5] ?_;have H5:St B w0 w3 ((b5,.cells #[leV k] 87 (0,0))::(b3,.cells #[Qf bw n c] 22 (0,0))::(bw,.cells cur 9)::(k,blO b)::Lr):=H4.as kr;refine jA H5 (some 28) (fun b=>Qf b 1 1) #[.string b.2.1] 9 kr kr ?_;intro bn w4 H6;refine qa (R:=yn B w0 (((b5,.cells #[leV k] 87 (0,0))::(b3,.cells #[Qf bw n c] 22 (0,0))::(k,blO b)::Lr)) (L.take (zl (fun x=>zf (tl x) (tl b.2.1)) L)++b.2.1::L.drop (zl (fun x=>zf (tl x) (tl b.2.1)) L))) (some 29) 81 #[Qf bw n c,iN (zl (fun x=>zf (tl x) (tl b.2.1)) L),Qf bn 1 1] (vG (Qg bw) n c L b.2.1 (zl (fun x=>zf (tl x) (tl b.2.1)) L) bn [(bw,.cells cur 9)] (((b5,.cells #[leV k] 87 (0,0))::(b3,.cells #[Qf bw n c] 22 (0,0))::(k,blO b)::Lr)) (.inr ⟨bw,cur,rfl,rfl,hrw⟩) (H6.perm (Rb [(bw,.cells cur 9)] ((bn,sxO b.2.1)::(b5,.cells #[leV k] 87 (0,0))::(b3,.cells #[Qf bw n c] 22 (0,0))::[]) ((k,blO b)::Lr))) (by omega) hL) kr kr ?_;rintro v w5 ⟨q',m',k',row',rfl,hrow',H7⟩;refine rp [.v] H7 kr fun gs5 w6 H8=>wX []<|zc<|wW<|rRr [.tmp 6] [] (.slice q' m' k') (yn B w0 ((k,blO b)::Lr) (zo (fun x=>zf (tl x) (tl b.2.1)) b.2.1 L)) H8 kr ?_;refine⟨q',m',k',row',rfl,?_,(H8.as (l:=row'++((b5,.cells #[leV k] 87 (0,0))::(b3,.cells #[Qf bw n c] 22 (0,0))::(k,blO b)::Lr)) kr).sub (Q8 (Rz _) (QC [_,_] _))⟩;rw[show zo (fun x=>zf (tl x) (tl b.2.1)) b.2.1 L=L.take (zl (fun x=>zf (tl x) (tl b.2.1)) L)++b.2.1::L.drop (zl (fun x=>zf (tl x) (tl b.2.1)) L) by unfold zo;rw[if_neg (by rw[Q9 (by omega)];exact fun q=>nomatch q)]];exact hrow'
end
theorem zd0 {α:Type}{S:Fl α}{P:Program}{ρ:Env}{w w0:World}{B:Nat}{l:Qb}(HS:St B w0 w l){t e bytes:Nat}{s x:Operand}{o:Oper}{j b n cap m c:Nat}{p:Qc}{cur:Qd}{xs:List Value}{M:List α}(ht:zV P t=some (e,S.K,bytes))(ho:o.op=yN t s x)
 (hs:ev ρ s=Qf b n cap) (hj:l[j]? =some (b,.cells cur e)) (hr:Rw S.K cur cap n xs) (hx:ev ρ x=.slice p m c) (hA:AtF S w p m M) (hp:yd p m c)
 (hb:(n+m)*bytes<=0x800000000000) (hm:n+m<=maxLen):∃b' cap' cur' w',(execOp (ev ρ) o).run P w=.ok (.value (Qf b' (n+m) cap')) w'/\St B w0 w' (l.set j (b',.cells cur' e))/\Rw S.K cur' cap' (n+m) (xs++cellsF S M):=by
 rcases hp with⟨rfl,rfl,rfl⟩|⟨⟨a,rfl⟩,_⟩
 ·obtain⟨it,z,hu,hi,hz,hsz,hby,hzs,hz0⟩:=yM ht;obtain rfl:M=[]:=List.length_eq_zero_iff.1 hA.1.symm;have hrun:=run_append_nothing (P:=P) w t t o.type e it hu hi (Qg b) n cap hr.le (.slice none 0 0) ⟨.inl ⟨e,hu⟩,fun w'=>by simp[Builtin.lenOf],by simp[Builtin.firstCells],by simp[Builtin.firstCells],by simp,(fun _ h=>by cases h)⟩;refine⟨b,cap,cur,w,?_,?_,?_⟩
  ·unfold execOp;simp only[ho,yN,resolve,invoke,builtin,QM,RY,QA,RN,QK,R5,hs,hx,hrun,RB]
  ·obtain⟨hlt,he⟩:=Qt.1 hj;rw[<-he,List.set_getElem_self];exact HS
  ·simpa [cellsF] using hr
 ·refine zb9 (S:=S) HS ht ho hs hj hr hx hA.1 ?_ hb hm;rcases hA.2 with h | ⟨bx,off,C,T,fz,e1,h2,h3⟩
  ·exact .inl h
  ·exact .inr ⟨bx,off,C,T,fz,Option.some.inj e1,h2,h3⟩
theorem zd1 {α:Type}{S:Fl α}{P:Program}{N:Nat}{ops:Array Oper}{K:Env->World->Prop}{ρ:Env}{w w0:World}{i B:Nat}{r:List Nat}{l:Qb}(HS:St B w0 w l)(d:Option Nat)(t e bytes:Nat)(s x:Operand)(j b n cap m c:Nat)(p:Qc)(cur:Qd)(xs:List Value)(M:List α)(h:opk ops i ρ=some (d,true,yN t s x))(hd:dOK d N=true)(ht:zV P t=some (e,S.K,bytes))
 (hs:ev ρ s=Qf b n cap) (hj:l[j]? =some (b,.cells cur e)) (hr:Rw S.K cur cap n xs) (hx:ev ρ x=.slice p m c) (hA:AtF S w p m M) (hp:yd p m c)
 (hb:(n+m)*bytes<=0x800000000000) (hm:n+m<=maxLen)
 (kk: ∀b' cap' cur' w',St B w0 w' (l.set j (b',.cells cur' e))->Rw S.K cur' cap' (n+m) (xs++cellsF S M)->WPs P N ops K r (zm ρ d (Qf b' (n+m) cap')) w'):WPs P N ops K (i::r) ρ w:=by
 obtain⟨o,ho,rfl,hw,hop⟩:=zJ h;obtain⟨b',cap',cur',w',hrun,HS',hr'⟩:=zd0 (S:=S) HS ht hop hs hj hr hx hA hp hb hm;refine WPo.run ho hw fun a ha=>?_;rw[hrun,Oper.upon_value];exact⟨_,ha.put _ (zS hd) _,kk b' cap' cur' w' HS' hr'⟩
theorem zd2 {α:Type}{M:List α}{i:Nat}{x:α}(h:M[i]? =some x):M=M.take i++x::M.drop (i+1)/\(M.take i).length=i:=by
 obtain⟨hi,rfl⟩:=Qt.1 h;exact⟨by rw[List.getElem_cons_drop,UJ],by rw[Qw];omega⟩
theorem Rw.setF {α:Type}{S:Fl α}{cur:Qd}{cap n i:Nat}{M:List α}{x y:α}(h:Rw S.K cur cap n (cellsF S M))(hM:M[i]? =some x)(j:Nat)(v:Value)(hj:j+v.cells.size<=S.K)(hx:(S.cs x).take j++v.cells.toList++(S.cs x).drop (j+v.cells.size)=S.cs y):
 0+i*S.K+j+v.cells.size<=cur.size/\Rw S.K (Go.Proofs.Ytdaeahhkiilbaaa.putA cur (0+i*S.K+j) v) cap n (cellsF S (M.set i y)):=by
 have hl:M.length=n:=h.lenF;have hi:=(Qt.1 hM).1;obtain⟨e1,e2⟩:=zd2 hM;have hlt:(i+1)*S.K<=n*S.K:=QR _ (by omega);rw[Nat.succ_mul]at hlt;have hp:=h.putA (0+i*S.K+j) v (by omega);refine⟨hp.1,?_⟩;have hc:(cellsF S (M.take i)).length=i*S.K:=by rw[yi,e2]
 have hxl:=S.len x;have eM:cellsF S M=cellsF S (M.take i)++(S.cs x++cellsF S (M.drop (i+1))):=by
  conv=>lhs;rw[e1]
  rw[qT];rfl
 have eS:cellsF S (M.set i y)=cellsF S (M.take i)++(S.cs y++cellsF S (M.drop (i+1))):=by
  rw[List.set_eq_take_append_cons_drop,if_pos hi,qT];rfl
 have q:=hp.2;rw[eM]at q;rw[eS,<-hx];have t1:(cellsF S (M.take i)++(S.cs x++cellsF S (M.drop (i+1)))).take (0+i*S.K+j)=cellsF S (M.take i)++(S.cs x).take j:=by
  rw[List.take_append,hc,show 0+i*S.K+j-i*S.K=j by omega,Qq (by rw[hc];omega),List.take_append_of_le_length (by omega)]
 have t2:(cellsF S (M.take i)++(S.cs x++cellsF S (M.drop (i+1)))).drop (0+i*S.K+j+v.cells.size)=(S.cs x).drop (j+v.cells.size)++cellsF S (M.drop (i+1)):=by
  rw[List.drop_append,hc,show 0+i*S.K+j+v.cells.size-i*S.K=j+v.cells.size by omega,QE (by rw[hc];omega),List.nil_append,List.drop_append_of_le_length (by omega)]
 rw[t1,t2]at q;rw[show cellsF S (M.take i)++((S.cs x).take j++v.cells.toList++(S.cs x).drop (j+v.cells.size)++cellsF S (M.drop (i+1)))=cellsF S (M.take i)++(S.cs x).take j++v.cells.toList++((S.cs x).drop (j+v.cells.size)++cellsF S (M.drop (i+1))) by simp only[QJ]];exact q
section
open D2 (Gh)
abbrev yI:=List (Qa×Nat)
def ya:Nat->yI->List MapEntry
 | _,[]=>[]
 | k,x::r=>⟨.string x.1,iN x.2,k⟩::ya (k+1) r
def mpO (A:yI):Obj:=.map (ya 0 A).toArray A.length
def zL (a:Qa):yI->Nat
 | []=>0
 | x::r=>if x.1=a then x.2 else zL a r
def yU (a:Qa)(v:Nat):yI->yI
 | []=>[(a,v)]
 | x::r=>if x.1=a then (a,v)::r else x::yU a v r
def jJ (A:yI)(x:Bal):yI:=yU x.2.1 (zL x.2.1 A+1) A
def zx (V:List Bal):yI:=V.foldl jJ []
theorem zaX (V:List Bal)(x:Bal):zx (V++ [x])=jJ (zx V) x:=by unfold zx;rw[List.foldl_append];rfl
theorem zaY (a b:Qa)(v:Nat): ∀A:yI,zL b (yU a v A)=if a=b then v else zL b A
 | []=>rfl
 | x::r=>by
  unfold yU;by_cases h:x.1=a
  ·rw[if_pos h];show (if a=b then v else zL b r)=_;by_cases e:a=b
   ·rw[if_pos e,if_pos e]
   ·rw[if_neg e,if_neg e];show _=if x.1=b then x.2 else zL b r;rw[if_neg (by rw[h];exact e)]
  ·rw[if_neg h];show (if x.1=b then x.2 else zL b (yU a v r))=_;rw[zaY a b v r];by_cases e:a=b
   ·subst e;rw[if_neg h,if_pos rfl,if_pos rfl]
   ·rw[if_neg e,if_neg e];rfl
theorem zaZ (a:Qa)(V:List Bal):zL a (zx V)=whoC a V:=by
 refine zaH (P:=fun V=>zL a (zx V)=whoC a V) rfl (fun A x ih=>?_) V;rw[zaX,vA];unfold jJ;rw[zaY,<-ih];by_cases e:x.2.1=a
 ·rw[if_pos e,if_pos e,e]
 ·rw[if_neg e,if_neg e,RB]
theorem vH (a:Qa)(v:Nat): ∀(A:yI) (k i:Nat),(UN .string (.string a) (ya k A) i=some none/\zL a A=0/\yU a v A=A++ [(a,v)])\/
 ∃j n,A[j]? =some (a,n)/\UN .string (.string a) (ya k A) i=some (some (i+j,iN n))/\zL a A=n/\yU a v A=A.set j (a,v)
 | [],k,i=>.inl ⟨rfl,rfl,rfl⟩
 | x::r,k,i=>by
  by_cases h:x.1=a
  ·refine .inr ⟨0,x.2,by rw[<-h];rfl,?_,by unfold zL;rw[if_pos h],by unfold yU;rw[if_pos h];rfl⟩;show (match UO .string (.string a) (.string x.1) with | some true=>_ | some false=>_ | none=>_)=_;rw[show UO .string (.string a) (.string x.1)=some true from congrArg some ((MapKept.bytes_beq _ _).2 h.symm)];rfl
  ·have hs:UO .string (.string a) (.string x.1)=some false:=congrArg some (QZ.2 fun q=>h ((MapKept.bytes_beq _ _).1 q).symm);have hf:UN .string (.string a) (ya k (x::r)) i=UN .string (.string a) (ya (k+1) r) (i+1):=by
    show (match UO .string (.string a) (.string x.1) with | some true=>_ | some false=>_ | none=>_)=_;rw[hs]
   rcases vH a v r (k+1) (i+1) with⟨h1,h2,h3⟩|⟨j,n,h1,h2,h3,h4⟩
   ·exact .inl ⟨hf.trans h1,by unfold zL;rw[if_neg h];exact h2,by unfold yU;rw[if_neg h,h3];rfl⟩
   ·refine .inr ⟨j+1,n,by simpa using h1,?_,by unfold zL;rw[if_neg h];exact h3,by unfold yU;rw[if_neg h,h4];rfl⟩;rw[hf,h2,show i+1+j=i+(j+1) by omega]
theorem za0 (a:Qa)(v:Nat): ∀(A:yI) (k:Nat),ya k (A++ [(a,v)])=ya k A++ [⟨.string a,iN v,k+A.length⟩]
 | [],k=>rfl
 | x::r,k=>by
  show _::ya (k+1) (r++ [(a,v)])=_::(ya (k+1) r++_);rw[za0 a v r (k+1),show k+1+r.length=k+(x::r).length by rw[Ru];omega]
theorem za1: ∀(A:yI) (k:Nat),(ya k A).length=A.length
 | [],_=>rfl
 | x::r,k=>by show (ya (k+1) r).length+1=_;rw[za1 r (k+1)];rfl
theorem za2: ∀(A:yI) (k j:Nat) (x:Qa×Nat),A[j]? =some x->(ya k A)[j]? =some ⟨.string x.1,iN x.2,k+j⟩
 | [],_,_,_,h=>by simp at h
 | y::r,k,0,x,h=>by
  obtain rfl:y=x:=by simpa using h
  rfl
 | y::r,k,j+1,x,h=>by
  show (ya (k+1) r)[j]? =_;rw[za2 r (k+1) j x (by simpa using h),show k+1+j=k+(j+1) by omega]
theorem za3 (a:Qa)(v:Nat): ∀(A:yI) (k j:Nat),j<A.length->ya k (A.set j (a,v))=(ya k A).set j ⟨.string a,iN v,k+j⟩
 | [],_,_,h=>absurd h (Ua _)
 | y::r,k,0,_=>rfl
 | y::r,k,j+1,h=>by
  show _::ya (k+1) (r.set j (a,v))=_::(ya (k+1) r).set j _;rw[za3 a v r (k+1) j (by simpa using h),show k+1+j=k+(j+1) by omega]
section
variable {w:World}{b:Nat}{A:yI}
theorem za4 (hb:w.heap[b]? =some (mpO A))(a:Qa):(Instr.lookup 103 (.map (some b)) (.string a) false).run Try.prog w=.ok (iN (zL a A)) w:=by
 have hb':w.heap[b]? =some (.map (ya 0 A).toArray A.length):=hb;have hk:MapKept.IsKey .string (.string a):=trivial;have hz:(zeroValue 3).run Try.prog w=.ok (.int .i64 0) w:=kr;rcases vH a 0 A 0 0 with⟨h1,h2,h3⟩ | ⟨j,n,h1,h2,h3,h4⟩
 ·simp[Instr.lookup,run_underlying Try.underlying103,R3 hb',Ud Try.underlying9 hk,Uk Try.underlying9 h1,hz,UH,h2]
 ·simp[Instr.lookup,run_underlying Try.underlying103,R3 hb',Ud Try.underlying9 hk,Uk Try.underlying9 h2,UH,h3]
theorem zd3 (hb:w.heap[b]? =some (mpO A))(a:Qa)(v:Nat):(Instr.mapUpdate 103 (.map (some b)) (.string a) (iN v)).run Try.prog w=.ok () { w with heap:=w.heap.setIfInBounds b (mpO (yU a v A)) } :=by
 have hb':w.heap[b]? =some (.map (ya 0 A).toArray A.length):=hb;have hk:MapKept.IsKey .string (.string a):=trivial;rcases vH a v A 0 0 with⟨h1,h2,h3⟩ | ⟨j,n,h1,h2,h3,h4⟩
 ·have e:mpO (yU a v A)=.map ((ya 0 A).toArray.push ⟨.string a,iN v,A.length⟩) (A.length+1):=by
   unfold mpO;rw[h3,za0,Qy,QF];simp
  rw[e];simp[Instr.mapUpdate,run_underlying Try.underlying103,R3 hb',Ud Try.underlying9 hk,Uk Try.underlying9 h1,MapKept.run_setObj_map _ hb',UH]
 ·have hj:j<A.length:=(Qt.1 h1).1;have he:=za2 A 0 j _ h1;have e:mpO (yU a v A)=.map ((ya 0 A).toArray.modify j fun e=> { e with key:=.string a,val:=iN v }) A.length:=by
   unfold mpO;rw[h4,za3 a v A 0 j hj,List.length_set];congr 1;apply Array.toList_inj.1;rw[Array.toList_modify,UT,UT];apply Ue;intro q;rw[List.getElem?_set,List.getElem?_modify];by_cases hq:j=q
   ·subst hq;rw[if_pos rfl,if_pos (by rw[za1];exact hj),he];simp
   ·rw[if_neg hq];simp[hq]
  rw[e];rw[Qy]at h2;have hes:(ya 0 A)[j]? =some ⟨.string a,iN n,0+j⟩:=he;simp[Instr.mapUpdate,run_underlying Try.underlying103,R3 hb',Ud Try.underlying9 hk,Uk Try.underlying9 h2,hes,MapKept.run_keyThatStays hk,MapKept.run_setObj_map _ hb',UH]
end
theorem zd4 (x y:Qa):(x.toList==y.toList)=decide (x=y):=by
 by_cases e:x=y
 ·rw[yS _ _ e,decide_eq_true e]
 ·rw[yO _ _ e,decide_eq_false e]
def zD {α:Type}(f:α->Bool):Nat->List α->Int
 | _,[]=> -1
 | k,x::r=>if f x=true then (k:Int) else zD f (k+1) r
theorem ko {α:Type}(f:α->Bool): ∀(L:List α) (k:Nat),(zD f k L= -1/\ ∀x∈L,f x=false)\/∃i x,L[i]? =some x/\zD f k L=((k+i:Nat):Int)/\f x=true/\ ∀y∈L.take i,f y=false
 | [],_=>.inl ⟨rfl,fun x hx=>absurd hx Rv⟩
 | x::r,k=>by
  unfold zD;by_cases h:f x=true
  ·rw[if_pos h];exact .inr ⟨0,x,rfl,rfl,h,fun y hy=>absurd hy (by simp)⟩
  ·rw[if_neg h];rcases ko f r (k+1) with⟨h1,h2⟩ | ⟨i,y,h1,h2,h3,h4⟩
   ·refine .inl ⟨h1,fun y hy=>?_⟩;rcases QN.1 hy with rfl | hy
    ·exact QZ.2 h
    ·exact h2 y hy
   ·refine .inr ⟨i+1,y,by simpa using h1,by rw[h2,show k+1+i=k+(i+1) by omega],h3,fun z hz=>?_⟩;rw[List.take_succ_cons]at hz;rcases QN.1 hz with rfl | hz
    ·exact QZ.2 h
    ·exact h4 z hz
theorem vI {α:Type}{M:List α}{i:Nat}{x:α}(h:i<M.length):(M.set i x).take (i+1)=M.take i++ [x]:=by
 rw[zX (show (M.set i x)[i]? =some x by rw[List.getElem?_set_self h])];congr 1;apply Ue;intro q;rw[R7,R7];by_cases hq:q<i
 ·rw[if_pos hq,if_pos hq,List.getElem?_set_ne (by omega)]
 ·rw[if_neg hq,if_neg hq]
theorem zd5 (x b:Bal)(k:Nat):FnP Try.prog 65 #[blV x,Qe k] (fun w=>w.heap[k]? =some (blO b)) (.bool (goB b x)):=by
 refine FnP.intro (c:=zk Try.f65) [.tmp 3] 16 Try.func65 kr kr kr fun w hP=>?_;unfold goB;refine rS [.b,.v] (St.start w) kr fun gs1 w1 H1=>?_;by_cases e:x.2.1=b.2.1
 ·rw[decide_eq_true e];refine rS [.v,.l 0,.v,.fs (off:=1) (v:=.string b.2.1) hP (zj hP) kr,.E (.bool (x.2.1.toList==b.2.1.toList)) (.bool true) (za (yS _ _ e)),.v,.n,.n,.n,.n,.n,.v,.v] H1 kr fun gs2 w2 H2=>?_;exact rR [.tmp 3] [] (.bool true) H2 kr
 ·rw[decide_eq_false e,Ub];by_cases e2:x.1=b.2.1
  ·rw[decide_eq_true e2];refine rS [.v,.l 0,.v,.fs (off:=1) (v:=.string b.2.1) hP (zj hP) kr,.E (.bool (x.2.1.toList==b.2.1.toList)) (.bool false) (za (yO _ _ e)),.v,.v,.l 0,.v,.fs (off:=1) (v:=.string b.2.1) hP (zj hP) kr,.E (.bool (x.1.toList==b.2.1.toList)) (.bool true) (za (yS _ _ e2)),.v,.v] H1 kr fun gs2 w2 H2=>?_;exact rR [.tmp 3] [] (.bool true) H2 kr
  ·rw[decide_eq_false e2];refine rS [.v,.l 0,.v,.fs (off:=1) (v:=.string b.2.1) hP (zj hP) kr,.E (.bool (x.2.1.toList==b.2.1.toList)) (.bool false) (za (yO _ _ e)),.v,.v,.l 0,.v,.fs (off:=1) (v:=.string b.2.1) hP (zj hP) kr,.E (.bool (x.1.toList==b.2.1.toList)) (.bool false) (za (yO _ _ e2)),.v,.v] H1 kr fun gs2 w2 H2=>?_;exact rR [.tmp 3] [] (.bool false) H2 kr
theorem zd6 (x:Qa)(b:Bal)(k:Nat):FnP Try.prog 69 #[.string x,Qe k] (fun w=>w.heap[k]? =some (blO b)) (.bool (decide (x=b.2.1))):=by
 refine FnP.intro (c:=zk Try.f69) [.tmp 3] 8 Try.func69 kr kr kr fun w hP=>rS [.v] (St.start w) kr fun gs1 w1 H1=>rS [.v,.v,.fs (off:=1) (v:=.string b.2.1) hP (zj hP) kr,.E (.bool (x.toList==b.2.1.toList)) (.bool (decide (x=b.2.1))) (za (zd4 x b.2.1)),.v] H1 kr fun gs2 w2 H2=>?_;exact rR [.tmp 3] [] (.bool (decide (x=b.2.1))) H2 kr
theorem za5 (x:Bal)(W:List Bal)(hW:W.length<=1000000)(km kM ks:Nat)(q:Qc)(m cq:Nat)(p:Qc)(n c:Nat)(hm:m<=1000000):FnP Try.prog 83 #[blV x,Qe km,Qe ks] (fun w=>w.heap[km]? =some (.cells #[.map (some kM)] 103 (0,0))/\w.heap[kM]? =some (mpO (zx W))/\w.heap[ks]? =some (snO q m cq p n c)) (.bool (yH W m x)):=by
 refine FnP.intro (c:=zk Try.f83) [.tmp 4] 14 Try.func83 kr kr kr fun w hP=>?_;obtain⟨h1,h2,h3⟩:=hP;have hw:=zaG x.2.1 W;refine rS [.b,.v] (St.start w) kr fun gs1 w1 H1=>?_
 refine rS [.fs (off:=0) (v:=.map (some kM)) h1 (zj h1) kr,.v,.l 0,.g [((.tmp 5),.map (some kM)),((.tmp 7),.string x.2.1)] (.lookup 103 (.tmp 5) (.tmp 7) false) [] (fun _=>iN (whoC x.2.1 W)) .no (fun ρ o ww ho hi hd hb=>by
  have hr:=za4 (zZ h2 (hb.mono (Qs _))) x.2.1;have e:(execOp (ev ρ) o).run Try.prog ww=.ok (.value (iN (zL x.2.1 (zx W)))) ww:=by
   unfold execOp;simp only[ho,hi.1,hi.2.1,QM,hr,QA];rfl
  rw[e,zaZ]
  exact⟨default,rfl,Below.refl _ _⟩),.E (.int .i64 (Qo.wrap (2*((whoC x.2.1 W:Nat):Int)))) (iN (2*whoC x.2.1 W)) (ze (qE (a:=2) (b:=whoC x.2.1 W) (by omega))),.v,.fs (off:=0) (v:=.slice q m cq) h3 (zj h3) kr,.v,.E (.bool (decide (((2*whoC x.2.1 W:Nat):Int)>(m:Int)))) (.bool (yH W m x)) (za (by unfold yH;rw[RS,decide_eq_true_iff,decide_eq_true_iff];omega)),.v] H1 kr fun gs2 w2 H2=>?_
 exact rR [.tmp 4] [] (.bool (yH W m x)) H2 kr
theorem zd7 (p:Qc)(n c:Nat)(L:List Bal)(c0:Value)(del:Bal->Bool)(pre:World->Prop)(hst: ∀w w',pre w->Below w.heap.size w w'->pre w')(hc: ∀x∈L,FnP Try.prog 65 #[blV x,c0] pre (.bool (del x)))(hL:L.length<=1000000):FnP Try.prog 79 #[.slice p n c,(.func (.func 65) #[] #[c0])] (fun w=>pre w/\AtF blS w p n L) (.int .i64 (zD del 0 L)):=by
 refine FnP.intro (c:=zk Try.f79) [.tmp 4] 19 Try.func79 kr kr kr fun w hPP=>?_;obtain⟨hpre,hP⟩:=hPP;have hn:=hP.1;have H0:=St.start w;refine rS [.v] H0 kr fun gs1 w1 H1=>zb kr<|rS [.v,.v,.v] H1 kr fun gs2 w2 H2=>yk 8 7 9 18 0 1 n (by omega) (fun i ρ ww=>zD del 0 L=zD del i (L.drop i)/\St w.heap.size w ww []/\Is [(0,.slice p n c),(1,.func (.func 65) #[] #[c0]),(7,iN n),(8,iN i)] ρ) (by rintro i _ ww ⟨_,_,_,rfl⟩;exact⟨kr,kr⟩) ⟨rfl,H2.as kr,isK⟩ ?_ ?_
 ·clear H0 H1 H2;rintro i _ w3 hi ⟨hst2,H3,_,rfl⟩;obtain⟨x,hx⟩:∃x,L[i]? =some x:=⟨_,Ql (by omega)⟩
  obtain⟨bl,off,C,T,fz,hp,hh,hR⟩:=hP.row2 (by omega);have hcx2:=hc x (Qp hx);rw[qs hx]at hst2;change zD del 0 L=(if del x=true then (i:Int) else zD del (i+1) (L.drop (i+1)))at hst2;refine rS [.v,.v] H3 kr fun gs4 w4 H4=>?_;cases e:del x with
  | true=>
   rw[e]at hcx2;refine rS [.v,.v,.v,.o (ins:=[((.tmp 12),.slice p n c),((.tmp 13),iN i)]) (v:=.pointer (some ⟨bl,off+i*3,none⟩)) (fun ρ o w ho hi2=>zp (kd:=.i64) (t:=30) (e:=56) (K:=3) (bytes:=40) kr (x:=(.tmp 12)) (y:=(.tmp 13)) bl off n c i hp ho hi2.1 hi2.2.1 (by omega) w),.fp (off:=off+i*3) (n:=3) (W:=blC x) hh (zj hh) (hR _ _ hx).1 (hR _ _ hx).2,.cp (pre:=pre) hcx2 [] (fun w' hb hd=>hst w w' hpre hb)] H4 kr fun gs5 w5 H5=>zq<|rS [.v,.v] H5 kr fun gs6 w6 H6=>?_;exact rRe [.tmp 4] [] (v:=iN i) (v':=.int .i64 (zD del 0 L)) H6 (ze (by rw[hst2,if_pos e])) kr
  | false=>
   rw[e]at hcx2;refine rS [.v,.v,.v,.o (ins:=[((.tmp 12),.slice p n c),((.tmp 13),iN i)]) (v:=.pointer (some ⟨bl,off+i*3,none⟩)) (fun ρ o w ho hi2=>zp (kd:=.i64) (t:=30) (e:=56) (K:=3) (bytes:=40) kr (x:=(.tmp 12)) (y:=(.tmp 13)) bl off n c i hp ho hi2.1 hi2.2.1 (by omega) w),.fp (off:=off+i*3) (n:=3) (W:=blC x) hh (zj hh) (hR _ _ hx).1 (hR _ _ hx).2,.cp (pre:=pre) hcx2 [] (fun w' hb hd=>hst w w' hpre hb)] H4 kr fun gs5 w5 H5=>zu ?_;exact⟨kr,by rw[hst2,if_neg (by rw[e];exact QS)],H5.as kr,isK⟩
 ·rintro _ w3 ⟨hst2,H3,_,rfl⟩;rw[QE (by omega)]at hst2;refine wW<|rS [.v] H3 kr fun gs4 w4 H4=>?_;exact rRe [.tmp 4] [] (v:=.int .i64 (-1)) (v':=.int .i64 (zD del 0 L)) H4 (ze hst2.symm) kr
theorem zd8 (p:Qc)(n c:Nat)(L:List Bal)(c0:Value)(del:Bal->Bool)(pre:World->Prop)(row Lr:Qb){B:Nat}{w0 w:World}(hst: ∀w w',pre w->Below w.heap.size w w'->pre w')(hc: ∀x∈L,FnP Try.prog 65 #[blV x,c0] pre (.bool (del x)))(hpre: ∀(w':World) (X:Qb),St B w0 w' (X++Lr)->pre w')
 (hrow:zw blS 56 p n c row L) (h:St B w0 w (row++Lr)) (hL:L.length<=1000000):
 Calls Try.prog 64 #[.slice p n c,(.func (.func 65) #[] #[c0])] w fun e w'=> ∃v,e=.returned v/\zR B w0 Lr (L.filter (fun x=> !del x)) v w':=by
 refine yJ (c:=zk Try.f64) (rs:=[.tmp 4]) (N:=42) Try.func64 kr kr kr ?_;have hlen:=hrow.len;refine rS [.v] h kr fun gs1 w1 H1=>zg [0,1,2,3] kr kr<|rp [.v,.v] H1 kr fun gs2 w2 H2=>wX [2,3] ?_;have H2b:St B w0 w2 (row++Lr):=H2.as kr;refine yY H2b (some 10) 79 #[.slice p n c,.func (.func 65) #[] #[c0]] _ _ (zd7 p n c L c0 del pre hst hc hL) ⟨hpre w2 row H2b,hrow.atF H2b fun e he=>Ul _ he⟩ (fun w=>by kernel_rfl) kr ?_;intro w3 H3;refine rp [.v] H3 kr fun gs3 w4 H4=>wX []<|zc<|wW ?_;have H4b:St B w0 w4 (row++Lr):=H4.as kr;refine zb kr ?_;rcases ko del L 0 with⟨h1,h2⟩ | ⟨i0,x0,hx0,h1,h2,h3⟩
 ·refine rS [.v,.E (.bool (zD del 0 L== -1)) (.bool true) (za (by rw[h1];rfl))] H4b kr fun gs4 w5 H5=>zq<|rS [.v,.v] H5 kr fun gs5 w6 H6=>rRr [.tmp 4] [] (.slice p n c) (zR B w0 Lr (L.filter (fun x=> !del x))) H6 kr ?_;rw[Rf.2 fun x hx=>by rw[h2 x hx];rfl];exact⟨p,n,c,row,rfl,hrow,H6.as kr⟩
 rw[Qy]at h1;have hi0:i0<L.length:=(Qt.1 hx0).1;rcases hrow with⟨rfl,rfl,rfl,rfl,rfl⟩ | ⟨bw,cur0,rfl,rfl,hrw0⟩
 ·simp at hi0
 clear H1 H2 H2b H3 h;refine rS [.v,.E (.bool (zD del 0 L== -1)) (.bool false) (za (by rw[h1];exact beq_eq_false_iff_ne.2 (by omega)))] H4b kr fun gs4 w5 H5=>zu<|wW<|zb kr<|rS [.v,.E (.int .i64 (Qo.wrap (zD del 0 L+1))) (iN (i0+1)) (ze (by rw[h1];exact zA (a:=i0) (b:=1) (by omega))),.v] H5 kr fun gs5 w6 H6=>jg 5 (v:=.int .i64 (zD del 0 L)) (v':=iN i0) (ze h1) kr<|yo 0 kr ?_;have hstart:(L.take (i0+1)).filter (fun x=> !del x)=L.take i0:=by
  rw[zX hx0,Re,Rf.2 fun y hy=>by rw[h3 y hy];rfl];rw[Rk (by rw[h2];exact QS)];simp
 refine qP kr (fun mz ρ ww=> ∃(i j:Nat) (cur:Qd) (M:List Bal),n-j=mz/\i<j/\j<=n/\Rw 3 cur c n (cellsF blS M)/\M.take i=(L.take j).filter (fun x=> !del x)/\M.drop j=L.drop j/\St B w0 ww ((bw,.cells cur 56)::Lr)/\Is [(0,Qf bw n c),(1,.func (.func 65) #[] #[c0]),(5,iN i),(6,iN j)] ρ) (n-(i0+1)) ⟨i0,i0+1,cur0,L,rfl,R0 _,by omega,hrw0,hstart.symm,rfl,H6.as kr,isK⟩ ?_;clear H4 H4b H5 H6 hstart hrw0 h1 h2 h3 hx0;rintro _ _ w4 ⟨i,j,cur,M,rfl,hij,hjn,hrw,htk,hdr,H4,_,rfl⟩;have hMl:M.length=n:=Rw.lenF (S:=blS) hrw;refine zb kr<|zb kr ?_;by_cases hj:j<n
 ·refine rL [.v,.v,.v,.E (.bool (decide ((j:Int)<(n:Int)))) (.bool true) (za (decide_eq_true (by omega)))] H4 kr fun gs4 w5 H5=>wW<|zN kr kr<|zM kr<|wW<|zb kr<|yo 1 kr ?_;obtain⟨x,hx⟩:∃x,L[j]? =some x:=⟨_,Ql (by omega)⟩
  have hxM:M[j]? =some x:=by
   have:=congrArg (fun l=>l[0]?) hdr;simp only[R1,RB]at this;rw[this,hx]
  have hR:=Rw.rowAt (S:=blS) hrw;have hcx:=hc x (Qp hx);refine zg [0,1,2,3,4,5] kr kr<|rp [.v,.v,.o (ins:=[((.tmp 22),Qf bw n c),((.tmp 23),iN j)]) (v:=.pointer (some ⟨bw,0+j*3,none⟩)) (fun ρ o w ho hi2=>zp (kd:=.i64) (t:=30) (e:=56) (K:=3) (bytes:=40) kr (x:=(.tmp 22)) (y:=(.tmp 23)) bw 0 n c j rfl ho hi2.1 hi2.2.1 (by omega) w),.lp 0 (C:=cur) (off:=0+j*3) (n:=3) (W:=blC x) (hR _ _ hxM).1 (hR _ _ hxM).2] H5 kr fun gs7 w7 H7=>wX [4,5] ?_;have H8:St B w0 w7 ((bw,.cells cur 56)::Lr):=H7.as kr;refine zU H8 (some 7) 56 (.agg #[.string em,.string em,.bool false]) kr kr kr ?_;intro b7 w8 H9;refine rp [.s 0] H9 kr fun gs9 w9 H10=>wX []<|zc<|wW ?_;have H11:St B w0 w9 ((b7,blO x)::(bw,.cells cur 56)::Lr):=H10.as kr;cases e:del x with
  | false=>
   rw[e]at hcx;refine zg [0,1,2,3] kr kr<|rp [.v,.l 0] H11 kr fun gsa wa Ha=>wX [2,3] ?_;have Hb:St B w0 wa ((b7,blO x)::(bw,.cells cur 56)::Lr):=Ha.as kr;refine yY Hb (some 28) 65 #[blV x,c0] _ _ hcx (hpre wa [(b7,blO x),(bw,.cells cur 56)] Hb) (fun w=>by kernel_rfl) kr ?_;intro wc Hc;refine rp [.v] Hc kr fun gsd wd Hd=>wX []<|zc<|wW ?_;have He:St B w0 wd ((b7,blO x)::(bw,.cells cur 56)::Lr):=Hd.as kr;refine zq ?_;have hset:=Rw.setF (S:=blS) hrw (show M[i]? =some M[i] from Ql (by omega)) 0 (blV x) (Qs _) (y:=x) rfl;refine rS [.v,.v,.l 0,.o (ins:=[((.tmp 30),Qf bw n c),((.tmp 31),iN i)]) (v:=.pointer (some ⟨bw,0+i*3,none⟩)) (fun ρ o w ho hi2=>zp (kd:=.i64) (t:=30) (e:=56) (K:=3) (bytes:=40) kr (x:=(.tmp 30)) (y:=(.tmp 31)) bw 0 n c i rfl ho hi2.1 hi2.2.1 (by omega) w),.se 1 (C:=cur) (C':=putA cur (0+i*3+0) (blV x)) (off:=0+i*3) (v:=blV x) hset.1 rfl] He kr fun gsf wf Hf=>rL [.v,.E (.int .i64 (Qo.wrap ((i:Int)+1))) (iN (i+1)) (ze (zA (a:=i) (b:=1) (by omega))),.v] Hf kr fun gsg wg Hg=>wW<|rL [.v,.E (.int .i64 (Qo.wrap ((j:Int)+1))) (iN (j+1)) (ze (zA (a:=j) (b:=1) (by omega))),.v] Hg kr fun gsh wh Hh=>?_;show ∃m,_/\_;refine⟨_,(by omega),i+1,j+1,_,M.set i x,rfl,by omega,hj,hset.2,?_,?_,(Hh.as (l:=(b7,blO x)::(bw,.cells (putA cur (0+i*3+0) (blV x)) 56)::Lr) kr).sub (QB ..),isK⟩
   ·rw[vI (by omega),htk,zX hx,Re,R9 (by rw[e];rfl)];rfl
   ·rw[List.drop_set_of_lt (by omega),<-Rg,<-Rg,hdr]
  | true=>
   rw[e]at hcx;refine zg [0,1,2,3] kr kr<|rp [.v,.l 0] H11 kr fun gsa wa Ha=>wX [2,3] ?_;have Hb:St B w0 wa ((b7,blO x)::(bw,.cells cur 56)::Lr):=Ha.as kr;refine yY Hb (some 28) 65 #[blV x,c0] _ _ hcx (hpre wa [(b7,blO x),(bw,.cells cur 56)] Hb) (fun w=>by kernel_rfl) kr ?_;intro wc Hc;refine rp [.v] Hc kr fun gsd wd Hd=>wX []<|zc<|wW ?_;have He:St B w0 wd ((b7,blO x)::(bw,.cells cur 56)::Lr):=Hd.as kr;refine zu<|wW<|rL [.v,.E (.int .i64 (Qo.wrap ((j:Int)+1))) (iN (j+1)) (ze (zA (a:=j) (b:=1) (by omega))),.v] He kr fun gsh wh Hh=>?_;show ∃m,_/\_;refine⟨_,(by omega),i,j+1,cur,M,rfl,by omega,hj,hrw,?_,?_,(Hh.as (l:=(b7,blO x)::(bw,.cells cur 56)::Lr) kr).sub (QB ..),isK⟩
   ·rw[htk,zX hx,Re,Rk (by rw[e];exact QS)];simp
   ·rw[<-Rg,<-Rg,hdr]
 ·refine rL [.v,.v,.v,.E (.bool (decide ((j:Int)<(n:Int)))) (.bool false) (za (decide_eq_false (by omega)))] H4 kr fun gs4 w5 H5=>wW<|zE kr kr<|qe 0 kr<|wW ?_;obtain rfl:j=n:=by omega
  rw[Qq (l:=L) (by omega)]at htk;have hle:=hrw.le;refine zg [0,1,2,3] kr kr<|rp [.v,.v,.oe (ins:=[((.tmp 36),Qf bw j c),((.tmp 37),iN i)]) (v:=.slice (some ⟨bw,if c=i then 0 else 0+i*3,none⟩) (j-i) (c-i)) (v':=.slice (some ⟨bw,i*3,none⟩) (j-i) (c-i)) (fun ρ o w ho hi2=>yb (kz:=.i64) (t:=30) (e:=56) (size:=3) (bytes:=40) kr (x:=(.tmp 36)) (z:=(.tmp 37)) bw 0 j c i ho hi2.1 hi2.2.1 (by omega) hle w) (by rw[if_neg (by omega),Qy])] H5 kr fun gs6 w6 H6=>wX [3] ?_;have H7:St B w0 w6 ((bw,.cells cur 56)::Lr):=H6.as kr;have hsz:=hrw.sz;refine kX H7 none 30 56 3 40 (.tmp 38) 0 bw (i*3) (j-i) (c-i) cur 56 kr kr kr kr kr rfl (by omega) (by rw[hsz,<-Ux];exact QR _ (by omega)) ?_;intro Z w7 hZ H8;refine zc<|wW ?_;have H9:St B w0 w7 ((bw,.cells (zh cur (i*3) Z) 56)::Lr):=H8.as kr;refine rS [.v,.v,.o (ins:=[((.tmp 39),Qf bw j c),((.tmp 40),iN i)]) (v:=Qf bw i c) (fun ρ o w ho hi2=>qS (kd:=.i64) (t:=30) (e:=56) (size:=3) (bytes:=40) kr (x:=(.tmp 39)) (y:=(.tmp 40)) bw j c i ho hi2.1 hi2.2.1 (by omega) w),.v] H9 kr fun gs8 w8 H10=>rRr [.tmp 4] [] (Qf bw i c) (zR B w0 Lr (L.filter (fun x=> !del x))) H10 kr ?_;refine⟨Qg bw,i,c,[(bw,.cells (zh cur (i*3) Z) 56)],rfl,.inr ⟨bw,_,rfl,rfl,?_⟩,H10.as kr⟩;have hfit:i*3+Z.length<=cur.size:=by rw[hZ,hsz,<-Ux];exact QR _ (by omega)
  have hfl:(L.filter (fun x=> !del x)).length=i:=by rw[<-htk,Qw];omega
  refine⟨by rw[yi,hfl],by omega,hrw.max,?_,by rw[yF hfit];exact hsz⟩;show (zh cur (i*3) Z).toList.take (i*3)=_;have e1:cellsF blS (L.filter (fun x=> !del x))=(cellsF blS M).take (i*3):=by rw[<-htk,xl M i (by omega)];rfl
  rw[xb (C:=cur) (o:=i*3) (vs:=Z) (m:=i*3) (by omega) (Qs _),e1,<-hrw.take,Ug,Rx (QR _ (by omega))]
theorem zd9 (p:Qc)(n c:Nat)(L:List Bal)(c0 c1:Value)(del:Bal->Bool)(pre:World->Prop)(hst: ∀w w',pre w->Below w.heap.size w w'->pre w')(hc: ∀x∈L,FnP Try.prog 83 #[blV x,c0,c1] pre (.bool (del x)))(hL:L.length<=1000000):FnP Try.prog 79 #[.slice p n c,(.func (.func 83) #[] #[c0,c1])] (fun w=>pre w/\AtF blS w p n L) (.int .i64 (zD del 0 L)):=by
 refine FnP.intro (c:=zk Try.f79) [.tmp 4] 19 Try.func79 kr kr kr fun w hPP=>?_;obtain⟨hpre,hP⟩:=hPP;have hn:=hP.1;have H0:=St.start w;refine rS [.v] H0 kr fun gs1 w1 H1=>zb kr<|rS [.v,.v,.v] H1 kr fun gs2 w2 H2=>yk 8 7 9 18 0 1 n (by omega) (fun i ρ ww=>zD del 0 L=zD del i (L.drop i)/\St w.heap.size w ww []/\Is [(0,.slice p n c),(1,.func (.func 83) #[] #[c0,c1]),(7,iN n),(8,iN i)] ρ) (by rintro i _ ww ⟨_,_,_,rfl⟩;exact⟨kr,kr⟩) ⟨rfl,H2.as kr,isK⟩ ?_ ?_
 ·clear H0 H1 H2;rintro i _ w3 hi ⟨hst2,H3,_,rfl⟩;obtain⟨x,hx⟩:∃x,L[i]? =some x:=⟨_,Ql (by omega)⟩
  obtain⟨bl,off,C,T,fz,hp,hh,hR⟩:=hP.row2 (by omega);have hcx2:=hc x (Qp hx);rw[qs hx]at hst2;change zD del 0 L=(if del x=true then (i:Int) else zD del (i+1) (L.drop (i+1)))at hst2;refine rS [.v,.v] H3 kr fun gs4 w4 H4=>?_;cases e:del x with
  | true=>
   rw[e]at hcx2;refine rS [.v,.v,.v,.o (ins:=[((.tmp 12),.slice p n c),((.tmp 13),iN i)]) (v:=.pointer (some ⟨bl,off+i*3,none⟩)) (fun ρ o w ho hi2=>zp (kd:=.i64) (t:=30) (e:=56) (K:=3) (bytes:=40) kr (x:=(.tmp 12)) (y:=(.tmp 13)) bl off n c i hp ho hi2.1 hi2.2.1 (by omega) w),.fp (off:=off+i*3) (n:=3) (W:=blC x) hh (zj hh) (hR _ _ hx).1 (hR _ _ hx).2,.cp (pre:=pre) hcx2 [] (fun w' hb hd=>hst w w' hpre hb)] H4 kr fun gs5 w5 H5=>zq<|rS [.v,.v] H5 kr fun gs6 w6 H6=>?_;exact rRe [.tmp 4] [] (v:=iN i) (v':=.int .i64 (zD del 0 L)) H6 (ze (by rw[hst2,if_pos e])) kr
  | false=>
   rw[e]at hcx2;refine rS [.v,.v,.v,.o (ins:=[((.tmp 12),.slice p n c),((.tmp 13),iN i)]) (v:=.pointer (some ⟨bl,off+i*3,none⟩)) (fun ρ o w ho hi2=>zp (kd:=.i64) (t:=30) (e:=56) (K:=3) (bytes:=40) kr (x:=(.tmp 12)) (y:=(.tmp 13)) bl off n c i hp ho hi2.1 hi2.2.1 (by omega) w),.fp (off:=off+i*3) (n:=3) (W:=blC x) hh (zj hh) (hR _ _ hx).1 (hR _ _ hx).2,.cp (pre:=pre) hcx2 [] (fun w' hb hd=>hst w w' hpre hb)] H4 kr fun gs5 w5 H5=>zu ?_;exact⟨kr,by rw[hst2,if_neg (by rw[e];exact QS)],H5.as kr,isK⟩
 ·rintro _ w3 ⟨hst2,H3,_,rfl⟩;rw[QE (by omega)]at hst2;refine wW<|rS [.v] H3 kr fun gs4 w4 H4=>?_;exact rRe [.tmp 4] [] (v:=.int .i64 (-1)) (v':=.int .i64 (zD del 0 L)) H4 (ze hst2.symm) kr
theorem za6 (p:Qc)(n c:Nat)(L:List Bal)(c0 c1:Value)(del:Bal->Bool)(pre:World->Prop)(row Lr:Qb){B:Nat}{w0 w:World}(hst: ∀w w',pre w->Below w.heap.size w w'->pre w')(hc: ∀x∈L,FnP Try.prog 83 #[blV x,c0,c1] pre (.bool (del x)))(hpre: ∀(w':World) (X:Qb),St B w0 w' (X++Lr)->pre w')
 (hrow:zw blS 56 p n c row L) (h:St B w0 w (row++Lr)) (hL:L.length<=1000000):
 Calls Try.prog 64 #[.slice p n c,(.func (.func 83) #[] #[c0,c1])] w fun e w'=> ∃v,e=.returned v/\zR B w0 Lr (L.filter (fun x=> !del x)) v w':=by
 refine yJ (c:=zk Try.f64) (rs:=[.tmp 4]) (N:=42) Try.func64 kr kr kr ?_;have hlen:=hrow.len;refine rS [.v] h kr fun gs1 w1 H1=>zg [0,1,2,3] kr kr<|rp [.v,.v] H1 kr fun gs2 w2 H2=>wX [2,3] ?_;have H2b:St B w0 w2 (row++Lr):=H2.as kr;refine yY H2b (some 10) 79 #[.slice p n c,.func (.func 83) #[] #[c0,c1]] _ _ (zd9 p n c L c0 c1 del pre hst hc hL) ⟨hpre w2 row H2b,hrow.atF H2b fun e he=>Ul _ he⟩ (fun w=>by kernel_rfl) kr ?_;intro w3 H3;refine rp [.v] H3 kr fun gs3 w4 H4=>wX []<|zc<|wW ?_;have H4b:St B w0 w4 (row++Lr):=H4.as kr;refine zb kr ?_;rcases ko del L 0 with⟨h1,h2⟩ | ⟨i0,x0,hx0,h1,h2,h3⟩
 ·refine rS [.v,.E (.bool (zD del 0 L== -1)) (.bool true) (za (by rw[h1];rfl))] H4b kr fun gs4 w5 H5=>zq<|rS [.v,.v] H5 kr fun gs5 w6 H6=>rRr [.tmp 4] [] (.slice p n c) (zR B w0 Lr (L.filter (fun x=> !del x))) H6 kr ?_;rw[Rf.2 fun x hx=>by rw[h2 x hx];rfl];exact⟨p,n,c,row,rfl,hrow,H6.as kr⟩
 rw[Qy]at h1;have hi0:i0<L.length:=(Qt.1 hx0).1;rcases hrow with⟨rfl,rfl,rfl,rfl,rfl⟩ | ⟨bw,cur0,rfl,rfl,hrw0⟩
 ·simp at hi0
 clear H1 H2 H2b H3 h;refine rS [.v,.E (.bool (zD del 0 L== -1)) (.bool false) (za (by rw[h1];exact beq_eq_false_iff_ne.2 (by omega)))] H4b kr fun gs4 w5 H5=>zu<|wW<|zb kr<|rS [.v,.E (.int .i64 (Qo.wrap (zD del 0 L+1))) (iN (i0+1)) (ze (by rw[h1];exact zA (a:=i0) (b:=1) (by omega))),.v] H5 kr fun gs5 w6 H6=>jg 5 (v:=.int .i64 (zD del 0 L)) (v':=iN i0) (ze h1) kr<|yo 0 kr ?_;have hstart:(L.take (i0+1)).filter (fun x=> !del x)=L.take i0:=by
  rw[zX hx0,Re,Rf.2 fun y hy=>by rw[h3 y hy];rfl];rw[Rk (by rw[h2];exact QS)];simp
 refine qP kr (fun mz ρ ww=> ∃(i j:Nat) (cur:Qd) (M:List Bal),n-j=mz/\i<j/\j<=n/\Rw 3 cur c n (cellsF blS M)/\M.take i=(L.take j).filter (fun x=> !del x)/\M.drop j=L.drop j/\St B w0 ww ((bw,.cells cur 56)::Lr)/\Is [(0,Qf bw n c),(1,.func (.func 83) #[] #[c0,c1]),(5,iN i),(6,iN j)] ρ) (n-(i0+1)) ⟨i0,i0+1,cur0,L,rfl,R0 _,by omega,hrw0,hstart.symm,rfl,H6.as kr,isK⟩ ?_;clear H4 H4b H5 H6 hstart hrw0 h1 h2 h3 hx0;rintro _ _ w4 ⟨i,j,cur,M,rfl,hij,hjn,hrw,htk,hdr,H4,_,rfl⟩;have hMl:M.length=n:=Rw.lenF (S:=blS) hrw;refine zb kr<|zb kr ?_;by_cases hj:j<n
 ·refine rL [.v,.v,.v,.E (.bool (decide ((j:Int)<(n:Int)))) (.bool true) (za (decide_eq_true (by omega)))] H4 kr fun gs4 w5 H5=>wW<|zN kr kr<|zM kr<|wW<|zb kr<|yo 1 kr ?_;obtain⟨x,hx⟩:∃x,L[j]? =some x:=⟨_,Ql (by omega)⟩
  have hxM:M[j]? =some x:=by
   have:=congrArg (fun l=>l[0]?) hdr;simp only[R1,RB]at this;rw[this,hx]
  have hR:=Rw.rowAt (S:=blS) hrw;have hcx:=hc x (Qp hx);refine zg [0,1,2,3,4,5] kr kr<|rp [.v,.v,.o (ins:=[((.tmp 22),Qf bw n c),((.tmp 23),iN j)]) (v:=.pointer (some ⟨bw,0+j*3,none⟩)) (fun ρ o w ho hi2=>zp (kd:=.i64) (t:=30) (e:=56) (K:=3) (bytes:=40) kr (x:=(.tmp 22)) (y:=(.tmp 23)) bw 0 n c j rfl ho hi2.1 hi2.2.1 (by omega) w),.lp 0 (C:=cur) (off:=0+j*3) (n:=3) (W:=blC x) (hR _ _ hxM).1 (hR _ _ hxM).2] H5 kr fun gs7 w7 H7=>wX [4,5] ?_;have H8:St B w0 w7 ((bw,.cells cur 56)::Lr):=H7.as kr;refine zU H8 (some 7) 56 (.agg #[.string em,.string em,.bool false]) kr kr kr ?_;intro b7 w8 H9;refine rp [.s 0] H9 kr fun gs9 w9 H10=>wX []<|zc<|wW ?_;have H11:St B w0 w9 ((b7,blO x)::(bw,.cells cur 56)::Lr):=H10.as kr;cases e:del x with
  | false=>
   rw[e]at hcx;refine zg [0,1,2,3] kr kr<|rp [.v,.l 0] H11 kr fun gsa wa Ha=>wX [2,3] ?_;have Hb:St B w0 wa ((b7,blO x)::(bw,.cells cur 56)::Lr):=Ha.as kr;refine yY Hb (some 28) 83 #[blV x,c0,c1] _ _ hcx (hpre wa [(b7,blO x),(bw,.cells cur 56)] Hb) (fun w=>by kernel_rfl) kr ?_;intro wc Hc;refine rp [.v] Hc kr fun gsd wd Hd=>wX []<|zc<|wW ?_;have He:St B w0 wd ((b7,blO x)::(bw,.cells cur 56)::Lr):=Hd.as kr;refine zq ?_;have hset:=Rw.setF (S:=blS) hrw (show M[i]? =some M[i] from Ql (by omega)) 0 (blV x) (Qs _) (y:=x) rfl;refine rS [.v,.v,.l 0,.o (ins:=[((.tmp 30),Qf bw n c),((.tmp 31),iN i)]) (v:=.pointer (some ⟨bw,0+i*3,none⟩)) (fun ρ o w ho hi2=>zp (kd:=.i64) (t:=30) (e:=56) (K:=3) (bytes:=40) kr (x:=(.tmp 30)) (y:=(.tmp 31)) bw 0 n c i rfl ho hi2.1 hi2.2.1 (by omega) w),.se 1 (C:=cur) (C':=putA cur (0+i*3+0) (blV x)) (off:=0+i*3) (v:=blV x) hset.1 rfl] He kr fun gsf wf Hf=>rL [.v,.E (.int .i64 (Qo.wrap ((i:Int)+1))) (iN (i+1)) (ze (zA (a:=i) (b:=1) (by omega))),.v] Hf kr fun gsg wg Hg=>wW<|rL [.v,.E (.int .i64 (Qo.wrap ((j:Int)+1))) (iN (j+1)) (ze (zA (a:=j) (b:=1) (by omega))),.v] Hg kr fun gsh wh Hh=>?_;show ∃m,_/\_;refine⟨_,(by omega),i+1,j+1,_,M.set i x,rfl,by omega,hj,hset.2,?_,?_,(Hh.as (l:=(b7,blO x)::(bw,.cells (putA cur (0+i*3+0) (blV x)) 56)::Lr) kr).sub (QB ..),isK⟩
   ·rw[vI (by omega),htk,zX hx,Re,R9 (by rw[e];rfl)];rfl
   ·rw[List.drop_set_of_lt (by omega),<-Rg,<-Rg,hdr]
  | true=>
   rw[e]at hcx;refine zg [0,1,2,3] kr kr<|rp [.v,.l 0] H11 kr fun gsa wa Ha=>wX [2,3] ?_;have Hb:St B w0 wa ((b7,blO x)::(bw,.cells cur 56)::Lr):=Ha.as kr;refine yY Hb (some 28) 83 #[blV x,c0,c1] _ _ hcx (hpre wa [(b7,blO x),(bw,.cells cur 56)] Hb) (fun w=>by kernel_rfl) kr ?_;intro wc Hc;refine rp [.v] Hc kr fun gsd wd Hd=>wX []<|zc<|wW ?_;have He:St B w0 wd ((b7,blO x)::(bw,.cells cur 56)::Lr):=Hd.as kr;refine zu<|wW<|rL [.v,.E (.int .i64 (Qo.wrap ((j:Int)+1))) (iN (j+1)) (ze (zA (a:=j) (b:=1) (by omega))),.v] He kr fun gsh wh Hh=>?_;show ∃m,_/\_;refine⟨_,(by omega),i,j+1,cur,M,rfl,by omega,hj,hrw,?_,?_,(Hh.as (l:=(b7,blO x)::(bw,.cells cur 56)::Lr) kr).sub (QB ..),isK⟩
   ·rw[htk,zX hx,Re,Rk (by rw[e];exact QS)];simp
   ·rw[<-Rg,<-Rg,hdr]
 ·refine rL [.v,.v,.v,.E (.bool (decide ((j:Int)<(n:Int)))) (.bool false) (za (decide_eq_false (by omega)))] H4 kr fun gs4 w5 H5=>wW<|zE kr kr<|qe 0 kr<|wW ?_;obtain rfl:j=n:=by omega
  rw[Qq (l:=L) (by omega)]at htk;have hle:=hrw.le;refine zg [0,1,2,3] kr kr<|rp [.v,.v,.oe (ins:=[((.tmp 36),Qf bw j c),((.tmp 37),iN i)]) (v:=.slice (some ⟨bw,if c=i then 0 else 0+i*3,none⟩) (j-i) (c-i)) (v':=.slice (some ⟨bw,i*3,none⟩) (j-i) (c-i)) (fun ρ o w ho hi2=>yb (kz:=.i64) (t:=30) (e:=56) (size:=3) (bytes:=40) kr (x:=(.tmp 36)) (z:=(.tmp 37)) bw 0 j c i ho hi2.1 hi2.2.1 (by omega) hle w) (by rw[if_neg (by omega),Qy])] H5 kr fun gs6 w6 H6=>wX [3] ?_;have H7:St B w0 w6 ((bw,.cells cur 56)::Lr):=H6.as kr;have hsz:=hrw.sz;refine kX H7 none 30 56 3 40 (.tmp 38) 0 bw (i*3) (j-i) (c-i) cur 56 kr kr kr kr kr rfl (by omega) (by rw[hsz,<-Ux];exact QR _ (by omega)) ?_;intro Z w7 hZ H8;refine zc<|wW ?_;have H9:St B w0 w7 ((bw,.cells (zh cur (i*3) Z) 56)::Lr):=H8.as kr;refine rS [.v,.v,.o (ins:=[((.tmp 39),Qf bw j c),((.tmp 40),iN i)]) (v:=Qf bw i c) (fun ρ o w ho hi2=>qS (kd:=.i64) (t:=30) (e:=56) (size:=3) (bytes:=40) kr (x:=(.tmp 39)) (y:=(.tmp 40)) bw j c i ho hi2.1 hi2.2.1 (by omega) w),.v] H9 kr fun gs8 w8 H10=>rRr [.tmp 4] [] (Qf bw i c) (zR B w0 Lr (L.filter (fun x=> !del x))) H10 kr ?_;refine⟨Qg bw,i,c,[(bw,.cells (zh cur (i*3) Z) 56)],rfl,.inr ⟨bw,_,rfl,rfl,?_⟩,H10.as kr⟩;have hfit:i*3+Z.length<=cur.size:=by rw[hZ,hsz,<-Ux];exact QR _ (by omega)
  have hfl:(L.filter (fun x=> !del x)).length=i:=by rw[<-htk,Qw];omega
  refine⟨by rw[yi,hfl],by omega,hrw.max,?_,by rw[yF hfit];exact hsz⟩;show (zh cur (i*3) Z).toList.take (i*3)=_;have e1:cellsF blS (L.filter (fun x=> !del x))=(cellsF blS M).take (i*3):=by rw[<-htk,xl M i (by omega)];rfl
  rw[xb (C:=cur) (o:=i*3) (vs:=Z) (m:=i*3) (by omega) (Qs _),e1,<-hrw.take,Ug,Rx (QR _ (by omega))]
theorem zea (p:Qc)(n c:Nat)(L:Qi)(c0:Value)(del:Qa->Bool)(pre:World->Prop)(hst: ∀w w',pre w->Below w.heap.size w w'->pre w')(hc: ∀x∈L,FnP Try.prog 69 #[.string x,c0] pre (.bool (del x)))(hL:L.length<=1000000):FnP Try.prog 82 #[.slice p n c,(.func (.func 69) #[] #[c0])] (fun w=>pre w/\AtF sS w p n L) (.int .i64 (zD del 0 L)):=by
 refine FnP.intro (c:=zk Try.f82) [.tmp 4] 19 Try.func82 kr kr kr fun w hPP=>?_;obtain⟨hpre,hP⟩:=hPP;have hn:=hP.1;have H0:=St.start w;refine rS [.v] H0 kr fun gs1 w1 H1=>zb kr<|rS [.v,.v,.v] H1 kr fun gs2 w2 H2=>yk 8 7 9 18 0 1 n (by omega) (fun i ρ ww=>zD del 0 L=zD del i (L.drop i)/\St w.heap.size w ww []/\Is [(0,.slice p n c),(1,.func (.func 69) #[] #[c0]),(7,iN n),(8,iN i)] ρ) (by rintro i _ ww ⟨_,_,_,rfl⟩;exact⟨kr,kr⟩) ⟨rfl,H2.as kr,isK⟩ ?_ ?_
 ·clear H0 H1 H2;rintro i _ w3 hi ⟨hst2,H3,_,rfl⟩;obtain⟨x,hx⟩:∃x,L[i]? =some x:=⟨_,Ql (by omega)⟩
  obtain⟨bl,off,C,T,fz,hp,hh,hR⟩:=hP.row2 (by omega);have hcx:C[off+i*1]? =some (.string x):=hR.cell hx 0 (by decide);have hcx2:=hc x (Qp hx);rw[qs hx]at hst2;change zD del 0 L=(if del x=true then (i:Int) else zD del (i+1) (L.drop (i+1)))at hst2;refine rS [.v,.v] H3 kr fun gs4 w4 H4=>?_;cases e:del x with
  | true=>
   rw[e]at hcx2;refine rS [.v,.v,.v,.o (ins:=[((.tmp 12),.slice p n c),((.tmp 13),iN i)]) (v:=.pointer (some ⟨bl,off+i*1,none⟩)) (fun ρ o w ho hi2=>zp (kd:=.i64) (t:=22) (e:=9) (K:=1) (bytes:=16) kr (x:=(.tmp 12)) (y:=(.tmp 13)) bl off n c i hp ho hi2.1 hi2.2.1 (by omega) w),.fs (off:=off+i*1) (v:=.string x) hh (zj hh) hcx,.cp (pre:=pre) hcx2 [] (fun w' hb hd=>hst w w' hpre hb)] H4 kr fun gs5 w5 H5=>zq<|rS [.v,.v] H5 kr fun gs6 w6 H6=>?_;exact rRe [.tmp 4] [] (v:=iN i) (v':=.int .i64 (zD del 0 L)) H6 (ze (by rw[hst2,if_pos e])) kr
  | false=>
   rw[e]at hcx2;refine rS [.v,.v,.v,.o (ins:=[((.tmp 12),.slice p n c),((.tmp 13),iN i)]) (v:=.pointer (some ⟨bl,off+i*1,none⟩)) (fun ρ o w ho hi2=>zp (kd:=.i64) (t:=22) (e:=9) (K:=1) (bytes:=16) kr (x:=(.tmp 12)) (y:=(.tmp 13)) bl off n c i hp ho hi2.1 hi2.2.1 (by omega) w),.fs (off:=off+i*1) (v:=.string x) hh (zj hh) hcx,.cp (pre:=pre) hcx2 [] (fun w' hb hd=>hst w w' hpre hb)] H4 kr fun gs5 w5 H5=>zu ?_;exact⟨kr,by rw[hst2,if_neg (by rw[e];exact QS)],H5.as kr,isK⟩
 ·rintro _ w3 ⟨hst2,H3,_,rfl⟩;rw[QE (by omega)]at hst2;refine wW<|rS [.v] H3 kr fun gs4 w4 H4=>?_;exact rRe [.tmp 4] [] (v:=.int .i64 (-1)) (v':=.int .i64 (zD del 0 L)) H4 (ze hst2.symm) kr
theorem zeb (p:Qc)(n c:Nat)(L:Qi)(c0:Value)(del:Qa->Bool)(pre:World->Prop)(row Lr:Qb){B:Nat}{w0 w:World}(hst: ∀w w',pre w->Below w.heap.size w w'->pre w')(hc: ∀x∈L,FnP Try.prog 69 #[.string x,c0] pre (.bool (del x)))(hpre: ∀(w':World) (X:Qb),St B w0 w' (X++Lr)->pre w')
 (hrow:zw sS 9 p n c row L) (h:St B w0 w (row++Lr)) (hL:L.length<=1000000):
 Calls Try.prog 68 #[.slice p n c,(.func (.func 69) #[] #[c0])] w fun e w'=> ∃v,e=.returned v/\yn B w0 Lr (L.filter (fun x=> !del x)) v w':=by
 refine yJ (c:=zk Try.f68) (rs:=[.tmp 4]) (N:=42) Try.func68 kr kr kr ?_;have hlen:=hrow.len;refine rS [.v] h kr fun gs1 w1 H1=>zg [0,1,2,3] kr kr<|rp [.v,.v] H1 kr fun gs2 w2 H2=>wX [2,3] ?_;have H2b:St B w0 w2 (row++Lr):=H2.as kr;refine yY H2b (some 10) 82 #[.slice p n c,.func (.func 69) #[] #[c0]] _ _ (zea p n c L c0 del pre hst hc hL) ⟨hpre w2 row H2b,hrow.atF H2b fun e he=>Ul _ he⟩ (fun w=>by kernel_rfl) kr ?_;intro w3 H3;refine rp [.v] H3 kr fun gs3 w4 H4=>wX []<|zc<|wW ?_;have H4b:St B w0 w4 (row++Lr):=H4.as kr;refine zb kr ?_;rcases ko del L 0 with⟨h1,h2⟩ | ⟨i0,x0,hx0,h1,h2,h3⟩
 ·refine rS [.v,.E (.bool (zD del 0 L== -1)) (.bool true) (za (by rw[h1];rfl))] H4b kr fun gs4 w5 H5=>zq<|rS [.v,.v] H5 kr fun gs5 w6 H6=>rRr [.tmp 4] [] (.slice p n c) (yn B w0 Lr (L.filter (fun x=> !del x))) H6 kr ?_;rw[Rf.2 fun x hx=>by rw[h2 x hx];rfl];exact⟨p,n,c,row,rfl,hrow,H6.as kr⟩
 rw[Qy]at h1;have hi0:i0<L.length:=(Qt.1 hx0).1;rcases hrow with⟨rfl,rfl,rfl,rfl,rfl⟩ | ⟨bw,cur0,rfl,rfl,hrw0⟩
 ·simp at hi0
 clear H1 H2 H2b H3 h;refine rS [.v,.E (.bool (zD del 0 L== -1)) (.bool false) (za (by rw[h1];exact beq_eq_false_iff_ne.2 (by omega)))] H4b kr fun gs4 w5 H5=>zu<|wW<|zb kr<|rS [.v,.E (.int .i64 (Qo.wrap (zD del 0 L+1))) (iN (i0+1)) (ze (by rw[h1];exact zA (a:=i0) (b:=1) (by omega))),.v] H5 kr fun gs5 w6 H6=>jg 5 (v:=.int .i64 (zD del 0 L)) (v':=iN i0) (ze h1) kr<|yo 0 kr ?_;have hstart:(L.take (i0+1)).filter (fun x=> !del x)=L.take i0:=by
  rw[zX hx0,Re,Rf.2 fun y hy=>by rw[h3 y hy];rfl];rw[Rk (by rw[h2];exact QS)];simp
 refine qP kr (fun mz ρ ww=> ∃(i j:Nat) (cur:Qd) (M:Qi),n-j=mz/\i<j/\j<=n/\Rw 1 cur c n (cellsF sS M)/\M.take i=(L.take j).filter (fun x=> !del x)/\M.drop j=L.drop j/\St B w0 ww ((bw,.cells cur 9)::Lr)/\Is [(0,Qf bw n c),(1,.func (.func 69) #[] #[c0]),(5,iN i),(6,iN j)] ρ) (n-(i0+1)) ⟨i0,i0+1,cur0,L,rfl,R0 _,by omega,hrw0,hstart.symm,rfl,H6.as kr,isK⟩ ?_;clear H4 H4b H5 H6 hstart hrw0 h1 h2 h3 hx0;rintro _ _ w4 ⟨i,j,cur,M,rfl,hij,hjn,hrw,htk,hdr,H4,_,rfl⟩;have hMl:M.length=n:=Rw.lenF (S:=sS) hrw;refine zb kr<|zb kr ?_;by_cases hj:j<n
 ·refine rL [.v,.v,.v,.E (.bool (decide ((j:Int)<(n:Int)))) (.bool true) (za (decide_eq_true (by omega)))] H4 kr fun gs4 w5 H5=>wW<|zN kr kr<|zM kr<|wW<|zb kr<|yo 1 kr ?_;obtain⟨x,hx⟩:∃x,L[j]? =some x:=⟨_,Ql (by omega)⟩
  have hxM:M[j]? =some x:=by
   have:=congrArg (fun l=>l[0]?) hdr;simp only[R1,RB]at this;rw[this,hx]
  have hR:=Rw.rowAt (S:=sS) hrw;have hcx:=hc x (Qp hx);refine rS [.v,.v,.o (ins:=[((.tmp 22),Qf bw n c),((.tmp 23),iN j)]) (v:=.pointer (some ⟨bw,0+j*1,none⟩)) (fun ρ o w ho hi2=>zp (kd:=.i64) (t:=22) (e:=9) (K:=1) (bytes:=16) kr (x:=(.tmp 22)) (y:=(.tmp 23)) bw 0 n c j rfl ho hi2.1 hi2.2.1 (by omega) w),.ls 0 (C:=cur) (off:=0+j*1) (v:=.string x) (hR.cell hxM 0 (by decide)),.v] H5 kr fun gs9 w9 H10=>?_;have H11:St B w0 w9 ((bw,.cells cur 9)::Lr):=H10.as kr;cases e:del x with
  | false=>
   rw[e]at hcx;refine zg [0,1,2,3] kr kr<|rp [.v,.v] H11 kr fun gsa wa Ha=>wX [2,3] ?_;have Hb:St B w0 wa ((bw,.cells cur 9)::Lr):=Ha.as kr;refine yY Hb (some 28) 69 #[.string x,c0] _ _ hcx (hpre wa [(bw,.cells cur 9)] Hb) (fun w=>by kernel_rfl) kr ?_;intro wc Hc;refine rp [.v] Hc kr fun gsd wd Hd=>wX []<|zc<|wW ?_;have He:St B w0 wd ((bw,.cells cur 9)::Lr):=Hd.as kr;refine zq ?_;have hset:=Rw.setF (S:=sS) hrw (show M[i]? =some M[i] from Ql (by omega)) 0 (.string x) (Qs _) (y:=x) rfl;refine rS [.v,.v,.v,.o (ins:=[((.tmp 30),Qf bw n c),((.tmp 31),iN i)]) (v:=.pointer (some ⟨bw,0+i*1,none⟩)) (fun ρ o w ho hi2=>zp (kd:=.i64) (t:=22) (e:=9) (K:=1) (bytes:=16) kr (x:=(.tmp 30)) (y:=(.tmp 31)) bw 0 n c i rfl ho hi2.1 hi2.2.1 (by omega) w),.se 0 (C:=cur) (C':=putA cur (0+i*1+0) (.string x)) (off:=0+i*1) (v:=.string x) hset.1 rfl] He kr fun gsf wf Hf=>rL [.v,.E (.int .i64 (Qo.wrap ((i:Int)+1))) (iN (i+1)) (ze (zA (a:=i) (b:=1) (by omega))),.v] Hf kr fun gsg wg Hg=>wW<|rL [.v,.E (.int .i64 (Qo.wrap ((j:Int)+1))) (iN (j+1)) (ze (zA (a:=j) (b:=1) (by omega))),.v] Hg kr fun gsh wh Hh=>?_;show ∃m,_/\_;refine⟨_,(by omega),i+1,j+1,_,M.set i x,rfl,by omega,hj,hset.2,?_,?_,Hh.as kr,isK⟩
   ·rw[vI (by omega),htk,zX hx,Re,R9 (by rw[e];rfl)];rfl
   ·rw[List.drop_set_of_lt (by omega),<-Rg,<-Rg,hdr]
  | true=>
   rw[e]at hcx;refine zg [0,1,2,3] kr kr<|rp [.v,.v] H11 kr fun gsa wa Ha=>wX [2,3] ?_;have Hb:St B w0 wa ((bw,.cells cur 9)::Lr):=Ha.as kr;refine yY Hb (some 28) 69 #[.string x,c0] _ _ hcx (hpre wa [(bw,.cells cur 9)] Hb) (fun w=>by kernel_rfl) kr ?_;intro wc Hc;refine rp [.v] Hc kr fun gsd wd Hd=>wX []<|zc<|wW ?_;have He:St B w0 wd ((bw,.cells cur 9)::Lr):=Hd.as kr;refine zu<|wW<|rL [.v,.E (.int .i64 (Qo.wrap ((j:Int)+1))) (iN (j+1)) (ze (zA (a:=j) (b:=1) (by omega))),.v] He kr fun gsh wh Hh=>?_;show ∃m,_/\_;refine⟨_,(by omega),i,j+1,cur,M,rfl,by omega,hj,hrw,?_,?_,Hh.as kr,isK⟩
   ·rw[htk,zX hx,Re,Rk (by rw[e];exact QS)];simp
   ·rw[<-Rg,<-Rg,hdr]
 ·refine rL [.v,.v,.v,.E (.bool (decide ((j:Int)<(n:Int)))) (.bool false) (za (decide_eq_false (by omega)))] H4 kr fun gs4 w5 H5=>wW<|zE kr kr<|qe 0 kr<|wW ?_;obtain rfl:j=n:=by omega
  rw[Qq (l:=L) (by omega)]at htk;have hle:=hrw.le;refine zg [0,1,2,3] kr kr<|rp [.v,.v,.oe (ins:=[((.tmp 36),Qf bw j c),((.tmp 37),iN i)]) (v:=.slice (some ⟨bw,if c=i then 0 else 0+i*1,none⟩) (j-i) (c-i)) (v':=.slice (some ⟨bw,i*1,none⟩) (j-i) (c-i)) (fun ρ o w ho hi2=>yb (kz:=.i64) (t:=22) (e:=9) (size:=1) (bytes:=16) kr (x:=(.tmp 36)) (z:=(.tmp 37)) bw 0 j c i ho hi2.1 hi2.2.1 (by omega) hle w) (by rw[if_neg (by omega),Qy])] H5 kr fun gs6 w6 H6=>wX [3] ?_;have H7:St B w0 w6 ((bw,.cells cur 9)::Lr):=H6.as kr;have hsz:=hrw.sz;refine kX H7 none 22 9 1 16 (.tmp 38) 0 bw (i*1) (j-i) (c-i) cur 9 kr kr kr kr kr rfl (by omega) (by rw[hsz,<-Ux];exact QR _ (by omega)) ?_;intro Z w7 hZ H8;refine zc<|wW ?_;have H9:St B w0 w7 ((bw,.cells (zh cur (i*1) Z) 9)::Lr):=H8.as kr;refine rS [.v,.v,.o (ins:=[((.tmp 39),Qf bw j c),((.tmp 40),iN i)]) (v:=Qf bw i c) (fun ρ o w ho hi2=>qS (kd:=.i64) (t:=22) (e:=9) (size:=1) (bytes:=16) kr (x:=(.tmp 39)) (y:=(.tmp 40)) bw j c i ho hi2.1 hi2.2.1 (by omega) w),.v] H9 kr fun gs8 w8 H10=>rRr [.tmp 4] [] (Qf bw i c) (yn B w0 Lr (L.filter (fun x=> !del x))) H10 kr ?_;refine⟨Qg bw,i,c,[(bw,.cells (zh cur (i*1) Z) 9)],rfl,.inr ⟨bw,_,rfl,rfl,?_⟩,H10.as kr⟩;have hfit:i*1+Z.length<=cur.size:=by rw[hZ,hsz,<-Ux];exact QR _ (by omega)
  have hfl:(L.filter (fun x=> !del x)).length=i:=by rw[<-htk,Qw];omega
  refine⟨by rw[yi,hfl],by omega,hrw.max,?_,by rw[yF hfit];exact hsz⟩;show (zh cur (i*1) Z).toList.take (i*1)=_;have e1:cellsF sS (L.filter (fun x=> !del x))=(cellsF sS M).take (i*1):=by rw[<-htk,xl M i (by omega)];rfl
  rw[xb (C:=cur) (o:=i*1) (vs:=Z) (m:=i*1) (by omega) (Qs _),e1,<-hrw.take,Ug,Rx (QR _ (by omega))]
theorem zec {P:Program}{N:Nat}{ops:Array Oper}{i:Nat}{r:List Nat}{K:Env->World->Prop}{ρ:Env}{w w0:World}{B:Nat}{l:Qb}(HS:St B w0 w l)(d:Option Nat)(V:Nat->Value)(o:Obj)(h:opv P ops i ρ w=some (d,true,.ok (.value (V w.heap.size)) (w.alloc o)))(hd:dOK d N=true)
 (kk: ∀b w',St B w0 w' ((b,o)::l)->WPs P N ops K r (zm ρ d (V b)) w'):WPs P N ops K (i::r) ρ w:=by
 obtain⟨o',ho,rfl,hw,hr⟩:=yh h;refine WPo.run ho hw fun a ha=>?_;rw[hr,Oper.upon_value];exact⟨_,ha.put _ (zS hd) _,kk w.heap.size _ (HS.alloc _)⟩
theorem qL {α:Type}(A X Z:List α):(X++(A++Z)).Perm (A++(X++Z)):=Rb X A Z
theorem kp {α:Type}(A X Y Z:List α):(Y++(A++(X++Z))).Perm (A++(X++(Y++Z))):=(qL A Y (X++Z)).trans (List.Perm.append_left A (qL X Y Z))
theorem vJ (b:Bal)(h1:b.1.size<=1000000)(h2:b.2.1.size<=1000000):Fn Try.prog 50 #[blV b] (blV b):=by
 refine Fn.intro (c:=zk Try.f50) [.cell 2 56] 12 Try.func50 kr kr kr fun w=>rS [.b,.a] (St.start w) kr fun gs1 w1 H1=>dS [.v,.l 0,.c (jE b.1 h1),.v,.l 0,.c (jE b.2.1 h2),.v,.l 0,.v,.s 1] H1 kr fun w2 H2=>?_;exact rR [.cell 2 56] [1] (blV b) H2 kr
def za7 (L:Qi)(V:List Bal)(v:Value)(T:Qb):Prop:=∃(q:Qc) (m cq:Nat) (p:Qc) (n c:Nat) (T1 T2:Qb),v=snV q m cq p n c/\T=T1++T2/\zw sS 9 q m cq T1 L/\zw blS 56 p n c T2 V
theorem za8 (q:Qc)(m cq:Nat)(L:Qi)(p:Qc)(n c:Nat)(V:List Bal)(hL:L.length<=1000000)(hV:V.length<=1000000)(hsL: ∀x∈L,Qu x<=1000000)(hsV: ∀x∈V,Qu x.1<=1000000/\Qu x.2.1<=1000000):
 FnT Try.prog 42 #[snV q m cq p n c] (fun w=>yf w L V q m p n) (za7 L V):=by
 refine FnT.intro (c:=zk Try.f42) [.cell 2 32] 39 Try.func42 kr kr kr fun w hP=>?_;obtain⟨hS,hVV⟩:=hP;have hm:=hS.1;have hn:=hVV.1;have H0:=St.start w;refine rS [.b,.a] H0 kr fun gs1 w1 H1=>rS [.a] H1 kr fun gs2 w2 H2=>?_;have H2b:St w.heap.size w w2 [((gs2 0).b,snO none 0 0 none 0 0),((gs1 1).b,snO none 0 0 none 0 0),((gs1 0).b,snO q m cq p n c)]:=(H2.as (l:=[((gs1 0).b,snO q m cq p n c),((gs1 1).b,snO none 0 0 none 0 0),((gs2 0).b,snO none 0 0 none 0 0)]) kr).perm (List.reverse_perm _).symm;generalize (gs2 0).b=b3 at*;generalize (gs1 1).b=b2 at*;generalize (gs1 0).b=b1 at*;refine jh [(1,Qe b1),(2,Qe b2),(3,Qe b3)] kr fun ρ0=>?_;clear H0 H1 H2;refine zb kr<|rS [.v,.l 2,.v,.v] H2b kr fun gs3 w3 H3=>yk 11 10 12 22 0 1 m (by omega) (fun i ρ ww=> ∃qA mA kA rowA,zw sS 9 qA mA kA rowA (L.take i)/\St w.heap.size w ww (rowA++ [(b3,snO qA mA kA none 0 0),(b2,snO none 0 0 none 0 0),(b1,snO q m cq p n c)])/\Is [(1,Qe b1),(2,Qe b2),(3,Qe b3),(9,.slice q m cq),(10,iN m),(11,iN i)] ρ) (by rintro i _ ww ⟨_,_,_,_,_,_,_,rfl⟩;exact⟨kr,kr⟩) ⟨none,0,0,[],.inl ⟨rfl,rfl,rfl,rfl,rfl⟩,H3.as kr,isK⟩ ?_ ?_
 ·clear H2b H3;rintro i _ w4 hi ⟨qA,mA,kA,rowA,hrow,H4,_,rfl⟩;have hmA:mA=i:=by rw[<-hrow.len,Qw];omega
  obtain⟨x,hx⟩:∃x,L[i]? =some x:=⟨_,Ql (by omega)⟩
  obtain⟨bl,off,C,T,fz,hp,hh,hR⟩:=hS.row2 (by omega);have hcx:C[off+i*1]? =some (.string x):=hR.cell hx 0 (by decide);refine rS [.o (ins:=[((.tmp 9),.slice q m cq),((.tmp 11),iN i)]) (v:=.pointer (some ⟨bl,off+i*1,none⟩)) (fun ρ o w ho hi2=>zp (kd:=.i64) (t:=22) (e:=9) (K:=1) (bytes:=16) kr (x:=(.tmp 9)) (y:=(.tmp 11)) bl off m cq i hp ho hi2.1 hi2.2.1 (by omega) w),.fs (off:=off+i*1) (v:=.string x) hh (zj hh) hcx,.v] H4 kr fun gs5 w5 H5=>?_;have H8:St w.heap.size w w5 (rowA++ [(b3,snO qA mA kA none 0 0),(b2,snO none 0 0 none 0 0),(b1,snO q m cq p n c)]):=H5.as kr;refine D2.g_draw0 [0,1,2,3,4,5,6,7] [(some 15,fun _=>Qe b3),(some 16,fun _=>.slice qA mA kA),(some 17,fun _=>.string x),(some 18,fun _=>.string x),(some 19,fun y=>Qf y.b 1 1),(some 20,fun y=>Qf y.b (mA+1) y.cap),(some 21,fun _=>Qe b3),(none,fun _=>undef)]
   (D2.chn [4,5,7] fun j g ww=>match j with
    | 0=>St w.heap.size w ww (rowA++ [(b3,snO qA mA kA none 0 0),(b2,snO none 0 0 none 0 0),(b1,snO q m cq p n c)])
    | 1=>St w.heap.size w ww (((g 4).b,.cells (sS.cs x).toArray 9)::(rowA++ [(b3,snO qA mA kA none 0 0),(b2,snO none 0 0 none 0 0),(b1,snO q m cq p n c)]))
    | 2=>St w.heap.size w ww (((g 5).b,.cells (g 5).cur 9)::[(b3,snO qA mA kA none 0 0),(b2,snO none 0 0 none 0 0),(b1,snO q m cq p n c)])/\Rw 1 (g 5).cur (g 5).cap (mA+1) (cellsF sS (L.take i++ [x]))
    | _=>St w.heap.size w ww (((g 5).b,.cells (g 5).cur 9)::[(b3,snO (some ⟨(g 5).b,0,none⟩) (mA+1) (g 5).cap none 0 0),(b2,snO none 0 0 none 0 0),(b1,snO q m cq p n c)])/\Rw 1 (g 5).cur (g 5).cap (mA+1) (cellsF sS (L.take i++ [x])))
   kr kr kr H8.drew ⟨?_,?_,?_,?_,?_,?_,?_,?_,trivial⟩ ?_
  ·exact D2.gv_val (fun _ _ _ h=>h) (fun g w=>by kernel_rfl)
  ·exact D2.gv_ld (fun _ _ _ h=>h) 22 (.tmp 15) (fun _=>b3) 0 #[.slice qA mA kA,.slice none 0 0] 32 (0,0) (fun g=>by kernel_rfl) (fun g=>by kernel_rfl) (fun L g w hN hp=>hp.getN 2 7 rfl (hN.post 7 kr) fun j hj h=>by
    match j,hj,h with
    | 0,_,h=>exact(h.own (b3,.cells #[.slice qA mA kA,.slice none 0 0] 32 (0,0)) (by simp)).2
    | 1,_,h=>exact(h.own (b3,.cells #[.slice qA mA kA,.slice none 0 0] 32 (0,0)) (by simp)).2
    | 2,_,h=>exact(h.1.own (b3,.cells #[.slice qA mA kA,.slice none 0 0] 32 (0,0)) (by simp)).2) kr kr
  ·exact D2.gv_val (fun _ _ _ h=>h) (fun g w=>by kernel_rfl)
  ·exact D2.gv_cW (fun _ _ _ h=>h) 19 #[.string x] (jE x (hsL x (Qp hx))) (fun L g w w' hN hp hb=>by
    revert hp;unfold D2.chn
    generalize D2.stg [4,5,7] L=j;intro hp
    match j,hp with
    | 0,h=>exact h.call hb
    | 1,h=>exact h.call hb
    | 2,h=>exact⟨h.1.call hb,h.2⟩
    | _+3,h=>exact⟨h.1.call hb,h.2⟩) (fun g w=>by kernel_rfl)
  ·refine D2.gv_chn 4 0 (fun L hN=>by
    have e4:=hN.1;have e5:=hN.post 5 kr;have e7:=hN.fwd e5 (show D2.edge _ 5 7=true by kernel_rfl)
    exact⟨by (simp[D2.stg,e4,e5,e7])<;>rfl,by (simp[D2.stg,D2.put1,e4,e5,e7])<;>rfl⟩) fun g ww hq=>?_
   exact D2.run_new (F:=fun b=>Qf b 1 1) (ob:=.cells (sS.cs x).toArray 9) kr ⟨{ b:=ww.heap.size },rfl,St.alloc hq _⟩
  ·refine D2.gv_chn 5 1 (fun L hN=>by
    have e5:=hN.1;have e4:=hN.bef 4 kr;have e7:=hN.post 7 kr
    exact⟨by (simp[D2.stg,e4,e5,e7])<;>rfl,by (simp[D2.stg,D2.put1,e4,e5,e7])<;>rfl⟩) fun g ww hq=>?_
   refine D2.run_of (op:=yN 22 (.tmp 16) (.tmp 19)) kr fun o ho=>?_;obtain⟨b',cap',cur',w',hrun,HS',hr'⟩:=uL (S:=sS) (bx:=(g 4).b) (M0:=L.take i) (y:=x) (row:=rowA) (Z:=[(b3,snO qA mA kA none 0 0),(b2,snO none 0 0 none 0 0),(b1,snO q m cq p n c)]) (n:=mA) (c:=kA) (p:=qA) (mc:=1) hq hrow (t:=22) (bytes:=16) kr ho kr kr (by omega) (by unfold maxLen;omega);exact⟨_,w',hrun,{ b:=b',cap:=cap',cur:=cur' },rfl,HS',hr'⟩
  ·exact D2.gv_val (fun _ _ _ h=>h) (fun g w=>by kernel_rfl)
  ·refine D2.gv_chn 7 2 (fun L hN=>by
    have e7:=hN.1;have e5:=hN.bef 5 kr;have e4:=hN.back e5 (show D2.edge _ 4 5=true by kernel_rfl)
    exact⟨by (simp[D2.stg,e4,e5,e7])<;>rfl,by (simp[D2.stg,D2.put1,e4,e5,e7])<;>rfl⟩) fun g ww hq=>?_
   exact D2.run_sto (t:=22) (x:=.tmp 21) (y:=.tmp 20) (C:=#[.slice qA mA kA,.slice none 0 0]) (C':=#[Qf (g 5).b (mA+1) (g 5).cap,.slice none 0 0]) (T:=32) (off:=0) (b:=b3) (v:=Qf (g 5).b (mA+1) (g 5).cap) kr kr kr kr kr (St.get hq.1 1 kr) (Qr kr) kr ⟨g 7,rfl,St.store (C:=#[.slice qA mA kA,.slice none 0 0]) (T:=32) hq.1 1 kr,hq.2⟩
  ·intro L1 g w9 hall hp;have hq:=hp.fin (fun k hk=>hall k (by simp at hk;rcases hk with rfl | rfl | rfl<;>exact Qr kr));exact⟨kr,Qg (g 5).b,mA+1,(g 5).cap,[((g 5).b,.cells (g 5).cur 9)],.inr ⟨_,_,rfl,rfl,by rw[zX hx];exact hq.2⟩,hq.1,isK⟩
 ·clear H2b H3;rintro _ w4 ⟨qA,mA,kA,rowA,hrowA,H4,_,rfl⟩;rw[Qq (by omega)]at hrowA;refine wW<|zb kr ?_;have H4b:St w.heap.size w w4 ((b3,snO qA mA kA none 0 0)::(b2,snO none 0 0 none 0 0)::(b1,snO q m cq p n c)::rowA):=H4.perm (Rd (l₁:=[(b3,snO qA mA kA none 0 0),(b2,snO none 0 0 none 0 0),(b1,snO q m cq p n c)]) (l₂:=rowA));refine rS [.v,.l 2,.v,.v] H4b kr fun gs5 w5 H5=>yk 26 25 27 37 2 3 n (by omega) (fun i ρ ww=> ∃qB mB kB rowB,zw blS 56 qB mB kB rowB (V.take i)/\St w.heap.size w ww (rowB++((b3,snO qA mA kA qB mB kB)::(b2,snO none 0 0 none 0 0)::(b1,snO q m cq p n c)::rowA))/\Is [(1,Qe b1),(2,Qe b2),(3,Qe b3),(24,.slice p n c),(25,iN n),(26,iN i)] ρ) (by rintro i _ ww ⟨_,_,_,_,_,_,_,rfl⟩;exact⟨kr,kr⟩) ⟨none,0,0,[],.inl ⟨rfl,rfl,rfl,rfl,rfl⟩,H5.as kr,isK⟩ ?_ ?_
  ·clear H4 H4b H5;rintro i _ w4 hi ⟨qB,mB,kB,rowB,hrow,H4,_,rfl⟩;have hmB:mB=i:=by rw[<-hrow.len,Qw];omega
   obtain⟨x,hx⟩:∃x,V[i]? =some x:=⟨_,Ql (by omega)⟩
   obtain⟨bl,off,C,T,fz,hp,hh,hR⟩:=hVV.row2 (by omega);refine zg [0,1,2,3] kr kr<|rp [.o (ins:=[((.tmp 24),.slice p n c),((.tmp 26),iN i)]) (v:=.pointer (some ⟨bl,off+i*3,none⟩)) (fun ρ o w ho hi2=>zp (kd:=.i64) (t:=30) (e:=56) (K:=3) (bytes:=40) kr (x:=(.tmp 24)) (y:=(.tmp 26)) bl off n c i hp ho hi2.1 hi2.2.1 (by omega) w),.fp (off:=off+i*3) (n:=3) (W:=blC x) hh (zj hh) (hR _ _ hx).1 (hR _ _ hx).2] H4 kr fun gs6 w6 H6=>wX [2,3] ?_;have H7:St w.heap.size w w6 (rowB++((b3,snO qA mA kA qB mB kB)::(b2,snO none 0 0 none 0 0)::(b1,snO q m cq p n c)::rowA)):=H6.as kr;refine zU H7 (some 7) 56 (.agg #[.string em,.string em,.bool false]) kr kr kr ?_;intro b7 w7 H7a;refine rp [.s 0] H7a kr fun gs8 w8 H7b=>wX []<|zc<|wW ?_;have H8:St w.heap.size w w8 (rowB++((b7,blO x)::(b3,snO qA mA kA qB mB kB)::(b2,snO none 0 0 none 0 0)::(b1,snO q m cq p n c)::rowA)):=(H7b.as (l:=(b7,blO x)::(rowB++((b3,snO qA mA kA qB mB kB)::(b2,snO none 0 0 none 0 0)::(b1,snO q m cq p n c)::rowA))) kr).perm List.perm_middle;refine D2.g_draw0 [0,1,2,3,4,5,6,7] [(some 30,fun _=>.pointer (some ⟨b3,1,none⟩)),(some 31,fun _=>.slice qB mB kB),(some 32,fun _=>blV x),(some 33,fun _=>blV x),(some 34,fun y=>Qf y.b 1 1),(some 35,fun y=>Qf y.b (mB+1) y.cap),(some 36,fun _=>.pointer (some ⟨b3,1,none⟩)),(none,fun _=>undef)]
    (D2.chn [4,5,7] fun j g ww=>match j with
     | 0=>St w.heap.size w ww (rowB++((b7,blO x)::(b3,snO qA mA kA qB mB kB)::(b2,snO none 0 0 none 0 0)::(b1,snO q m cq p n c)::rowA))
     | 1=>St w.heap.size w ww (((g 4).b,.cells (blS.cs x).toArray 56)::(rowB++((b7,blO x)::(b3,snO qA mA kA qB mB kB)::(b2,snO none 0 0 none 0 0)::(b1,snO q m cq p n c)::rowA)))
     | 2=>St w.heap.size w ww (((g 5).b,.cells (g 5).cur 56)::((b7,blO x)::(b3,snO qA mA kA qB mB kB)::(b2,snO none 0 0 none 0 0)::(b1,snO q m cq p n c)::rowA))/\Rw 3 (g 5).cur (g 5).cap (mB+1) (cellsF blS (V.take i++ [x]))
     | _=>St w.heap.size w ww (((g 5).b,.cells (g 5).cur 56)::((b7,blO x)::(b3,snO qA mA kA (some ⟨(g 5).b,0,none⟩) (mB+1) (g 5).cap)::(b2,snO none 0 0 none 0 0)::(b1,snO q m cq p n c)::rowA))/\Rw 3 (g 5).cur (g 5).cap (mB+1) (cellsF blS (V.take i++ [x])))
    kr kr kr H8.drew ⟨?_,?_,?_,?_,?_,?_,?_,?_,trivial⟩ ?_
   ·exact D2.gv_val (fun _ _ _ h=>h) (fun g w=>by kernel_rfl)
   ·exact D2.gv_ld (fun _ _ _ h=>h) 30 (.tmp 30) (fun _=>b3) 1 #[.slice qA mA kA,.slice qB mB kB] 32 (0,0) (fun g=>by kernel_rfl) (fun g=>by kernel_rfl) (fun L g w hN hp=>hp.getN 2 7 rfl (hN.post 7 kr) fun j hj h=>by
     match j,hj,h with
     | 0,_,h=>exact(h.own (b3,.cells #[.slice qA mA kA,.slice qB mB kB] 32 (0,0)) (by simp)).2
     | 1,_,h=>exact(h.own (b3,.cells #[.slice qA mA kA,.slice qB mB kB] 32 (0,0)) (by simp)).2
     | 2,_,h=>exact(h.1.own (b3,.cells #[.slice qA mA kA,.slice qB mB kB] 32 (0,0)) (by simp)).2) kr kr
   ·exact D2.gv_ld (fun _ _ _ h=>h) 56 (.tmp 7) (fun _=>b7) 0 (blC x) 56 (0,0) (fun g=>by kernel_rfl) (fun g=>by kernel_rfl) (fun L g w hN hp=>hp.get fun j hj h=>by
     match j,h with
     | 0,h=>exact(h.own (b7,blO x) (by simp)).2
     | 1,h=>exact(h.own (b7,blO x) (by simp)).2
     | 2,h=>exact(h.1.own (b7,blO x) (by simp)).2
     | _+3,h=>exact(h.1.own (b7,blO x) (by simp)).2) kr kr
   ·exact D2.gv_cW (fun _ _ _ h=>h) 50 #[blV x] (vJ x (hsV x (Qp hx)).1 (hsV x (Qp hx)).2) (fun L g w w' hN hp hb=>by
     revert hp;unfold D2.chn
     generalize D2.stg [4,5,7] L=j;intro hp
     match j,hp with
     | 0,h=>exact h.call hb
     | 1,h=>exact h.call hb
     | 2,h=>exact⟨h.1.call hb,h.2⟩
     | _+3,h=>exact⟨h.1.call hb,h.2⟩) (fun g w=>by kernel_rfl)
   ·refine D2.gv_chn 4 0 (fun L hN=>by
     have e4:=hN.1;have e5:=hN.post 5 kr;have e7:=hN.fwd e5 (show D2.edge _ 5 7=true by kernel_rfl)
     exact⟨by (simp[D2.stg,e4,e5,e7])<;>rfl,by (simp[D2.stg,D2.put1,e4,e5,e7])<;>rfl⟩) fun g ww hq=>?_
    exact D2.run_new (F:=fun b=>Qf b 1 1) (ob:=.cells (blS.cs x).toArray 56) kr ⟨{ b:=ww.heap.size },rfl,St.alloc hq _⟩
   ·refine D2.gv_chn 5 1 (fun L hN=>by
     have e5:=hN.1;have e4:=hN.bef 4 kr;have e7:=hN.post 7 kr
     exact⟨by (simp[D2.stg,e4,e5,e7])<;>rfl,by (simp[D2.stg,D2.put1,e4,e5,e7])<;>rfl⟩) fun g ww hq=>?_
    refine D2.run_of (op:=yN 30 (.tmp 31) (.tmp 34)) kr fun o ho=>?_;obtain⟨b',cap',cur',w',hrun,HS',hr'⟩:=uL (S:=blS) (bx:=(g 4).b) (M0:=V.take i) (y:=x) (row:=rowB) (Z:=((b7,blO x)::(b3,snO qA mA kA qB mB kB)::(b2,snO none 0 0 none 0 0)::(b1,snO q m cq p n c)::rowA)) (n:=mB) (c:=kB) (p:=qB) (mc:=1) hq hrow (t:=30) (bytes:=40) kr ho kr kr (by omega) (by unfold maxLen;omega);exact⟨_,w',hrun,{ b:=b',cap:=cap',cur:=cur' },rfl,HS',hr'⟩
   ·exact D2.gv_val (fun _ _ _ h=>h) (fun g w=>by kernel_rfl)
   ·refine D2.gv_chn 7 2 (fun L hN=>by
     have e7:=hN.1;have e5:=hN.bef 5 kr;have e4:=hN.back e5 (show D2.edge _ 4 5=true by kernel_rfl)
     exact⟨by (simp[D2.stg,e4,e5,e7])<;>rfl,by (simp[D2.stg,D2.put1,e4,e5,e7])<;>rfl⟩) fun g ww hq=>?_
    exact D2.run_sto (t:=30) (x:=.tmp 36) (y:=.tmp 35) (C:=#[.slice qA mA kA,.slice qB mB kB]) (C':=#[.slice qA mA kA,Qf (g 5).b (mB+1) (g 5).cap]) (T:=32) (off:=1) (b:=b3) (v:=Qf (g 5).b (mB+1) (g 5).cap) kr kr kr kr kr (St.get hq.1 2 kr) (Qr kr) kr ⟨g 7,rfl,St.store (C:=#[.slice qA mA kA,.slice qB mB kB]) (T:=32) hq.1 2 kr,hq.2⟩
   ·intro L1 g w9 hall hp;have hq:=hp.fin (fun k hk=>hall k (by simp at hk;rcases hk with rfl | rfl | rfl<;>exact Qr kr));exact⟨kr,Qg (g 5).b,mB+1,(g 5).cap,[((g 5).b,.cells (g 5).cur 56)],.inr ⟨_,_,rfl,rfl,by rw[zX hx];exact hq.2⟩,hq.1.sub (Qx _ (QB ..)),isK⟩
  ·clear H4 H4b H5;rintro _ w4 ⟨qB,mB,kB,rowB,hrowB,H4,_,rfl⟩;rw[Qq (by omega)]at hrowB;refine wW ?_;have H4b:St w.heap.size w w4 ((b3,snO qA mA kA qB mB kB)::(b2,snO none 0 0 none 0 0)::(b1,snO q m cq p n c)::(rowA++rowB)):=H4.perm (Rd (l₁:=(b3,snO qA mA kA qB mB kB)::(b2,snO none 0 0 none 0 0)::(b1,snO q m cq p n c)::rowA) (l₂:=rowB));refine rS [.l 0,.s 1] H4b kr fun gs6 w6 H6=>rRr [.cell 2 32] [1] (snV qA mA kA qB mB kB) (ys w.heap.size w (za7 L V)) H6 kr ?_;exact⟨rowA++rowB,⟨qA,mA,kA,qB,mB,kB,rowA,rowB,rfl,rfl,hrowA,hrowB⟩,(H6.as (l:=(b3,snO qA mA kA qB mB kB)::(b2,snO qA mA kA qB mB kB)::(b1,snO q m cq p n c)::(rowA++rowB)) kr).sub (QC [_,_,_] _)⟩
def kq (B:Nat)(w0:World)(Lr:Qb)(q:Qc)(m cq:Nat)(V:List Bal)(v:Value)(w:World):Prop:=∃(p:Qc) (n c:Nat) (row:Qb),v=snV q m cq p n c/\zw blS 56 p n c row V/\St B w0 w (row++Lr)
def vK (B:Nat)(w0:World)(Lr:Qb)(r:Qi×List Bal)(v:Value)(w:World):Prop:=∃(q:Qc) (m cq:Nat) (p:Qc) (n c:Nat) (rL rV:Qb),v=snV q m cq p n c/\zw sS 9 q m cq rL r.1/\zw blS 56 p n c rV r.2/\St B w0 w (rL++(rV++Lr))
theorem zed (q:Qc)(m cq:Nat)(p:Qc)(n c:Nat)(V:List Bal)(row Lr:Qb){B:Nat}{w0 w:World}(hm:m<=1000000)(hrow:zw blS 56 p n c row V)(h:St B w0 w (row++Lr))(hV:V.length<=1000000):
 Calls Try.prog 70 #[snV q m cq p n c] w fun e w'=> ∃v,e=.returned v/\kq B w0 Lr q m cq (V.filter (fun x=> !yH V m x)) v w':=by
 refine yJ (c:=zk Try.f70) (rs:=[.cell 2 32]) (N:=26) Try.func70 kr kr kr ?_;have hlen:=hrow.len;refine zg [0,1] kr kr<|yR h (some 1) 32 (.tmp 0) (snV q m cq p n c) kr kr kr ?_;intro b1 w1 H1;refine zU H1 (some 2) 32 (snV none 0 0 none 0 0) kr kr kr ?_;intro b2 w2 H2;refine zc<|wW<|zg [0,1,2] kr kr<|zec H2 (some 6) (fun b=>.map (some b)) (mpO []) kr kr ?_;intro bm w2b H2b;refine zU H2b (some 3) 103 (.map none) kr kr kr ?_;intro b3 w3a H3;refine rp [.s 0] H3 kr fun gs4 w3 H4=>wX []<|zc<|wW ?_;rcases hrow with⟨rfl,rfl,rfl,rfl,rfl⟩ | ⟨bw,cur,rfl,rfl,hrw⟩
 ·have H4b:St B w0 w3 ((b3,Qk #[.map (some bm)] 103 (0,0))::(bm,mpO (zx ([])))::(b2,snO none 0 0 none 0 0)::(b1,snO q m cq none 0 0)::Lr):=H4.as kr;refine zb kr<|rS [.v,.l 3,.v,.v] H4b kr fun gs5 w5 H5=>yk 10 9 11 19 0 1 0 (by omega) (fun i ρ ww=>St B w0 ww ((b3,Qk #[.map (some bm)] 103 (0,0))::(bm,mpO (zx (([]:List Bal).take i)))::(b2,snO none 0 0 none 0 0)::(b1,snO q m cq none 0 0)::Lr)/\Is [(1,Qe b1),(2,Qe b2),(3,Qe b3),(8,.slice none 0 0),(9,iN 0),(10,iN i)] ρ) (by rintro i _ ww ⟨_,_,rfl⟩;exact⟨kr,kr⟩) ⟨H5.as kr,isK⟩ (fun i ρ ww hi=>absurd hi (Ua _)) ?_;rintro _ w4 ⟨H6,_,rfl⟩;refine wW<|zg [0,1,2,3,4,5] kr kr<|rp [.v,.l 3,.v] H6 kr fun gs7 w7 H7=>wX [3,4,5] ?_;have H8:St B w0 w7 ((b3,Qk #[.map (some bm)] 103 (0,0))::(bm,mpO (zx ([])))::(b2,snO none 0 0 none 0 0)::(b1,snO q m cq none 0 0)::Lr):=H7.as kr
  refine qa (R:=zR B w0 ((b3,Qk #[.map (some bm)] 103 (0,0))::(bm,mpO (zx ([])))::(b2,snO none 0 0 none 0 0)::(b1,snO q m cq none 0 0)::Lr) (([]:List Bal).filter (fun x=> !yH ([]:List Bal) m x))) (some 23) 64 #[.slice none 0 0,.func (.func 83) #[] #[Qe b3,Qe b1]] (za6 none 0 0 ([]:List Bal) (Qe b3) (Qe b1) (yH ([]:List Bal) m) (fun w=>w.heap[b3]? =some (.cells #[.map (some bm)] 103 (0,0))/\w.heap[bm]? =some (mpO (zx ([]:List Bal)))/\w.heap[b1]? =some (snO q m cq none 0 0)) ([]:Qb) ((b3,Qk #[.map (some bm)] 103 (0,0))::(bm,mpO (zx ([])))::(b2,snO none 0 0 none 0 0)::(b1,snO q m cq none 0 0)::Lr) (fun w w' h hb=>⟨zZ h.1 hb,zZ h.2.1 hb,zZ h.2.2 hb⟩) (fun x _=>za5 x ([]:List Bal) (QH _) b3 bm b1 q m cq none 0 0 hm)
   (fun w' X h=>⟨(h.own (b3,Qk #[.map (some bm)] 103 (0,0)) (by simp)).2,(h.own (bm,mpO (zx ([]))) (by simp)).2,(h.own (b1,snO q m cq none 0 0) (by simp)).2⟩) (.inl ⟨rfl,rfl,rfl,rfl,rfl⟩) (H8) (QH _)) kr kr ?_
  rintro v w8 ⟨p',n',c',row',rfl,hrow',H9⟩;have H10:St B w0 w8 ((b3,Qk #[.map (some bm)] 103 (0,0))::(bm,mpO (zx ([])))::(b2,snO none 0 0 none 0 0)::(b1,snO q m cq none 0 0)::(row'++Lr)):=H9.perm (qL [(b3,Qk #[.map (some bm)] 103 (0,0)),(bm,mpO (zx ([]))),(b2,snO none 0 0 none 0 0),(b1,snO q m cq none 0 0)] row' Lr).symm;refine rp [.v,.s 3] H10 kr fun gs9 w9 H11=>wX []<|zc<|wW ?_;have H12:St B w0 w9 ((b3,Qk #[.map (some bm)] 103 (0,0))::(bm,mpO (zx ([])))::(b2,snO none 0 0 none 0 0)::(b1,snO q m cq p' n' c')::(row'++Lr)):=H11.as kr;refine rS [.l 3,.s 2] H12 kr fun gs10 w10 H13=>rRr [.cell 2 32] [2] (snV q m cq p' n' c') (kq B w0 Lr q m cq (([]:List Bal).filter (fun x=> !yH ([]:List Bal) m x))) H13 kr ?_;exact⟨p',n',c',row',rfl,hrow',(H13.as (l:=(b3,Qk #[.map (some bm)] 103 (0,0))::(bm,mpO (zx ([])))::(b2,snO q m cq p' n' c')::(b1,snO q m cq p' n' c')::(row'++Lr)) kr).sub (QC [_,_,_,_] _)⟩
 ·have H4b:St B w0 w3 ((b3,Qk #[.map (some bm)] 103 (0,0))::(bm,mpO (zx ([])))::(b2,snO none 0 0 none 0 0)::(b1,snO q m cq (Qg bw) n c)::(bw,.cells cur 56)::Lr):=H4.as kr;refine zb kr<|rS [.v,.l 3,.v,.v] H4b kr fun gs5 w5 H5=>yk 10 9 11 19 0 1 n (by omega) (fun i ρ ww=>St B w0 ww ((b3,Qk #[.map (some bm)] 103 (0,0))::(bm,mpO (zx (V.take i)))::(b2,snO none 0 0 none 0 0)::(b1,snO q m cq (Qg bw) n c)::(bw,.cells cur 56)::Lr)/\Is [(1,Qe b1),(2,Qe b2),(3,Qe b3),(8,Qf bw n c),(9,iN n),(10,iN i)] ρ) (by rintro i _ ww ⟨_,_,rfl⟩;exact⟨kr,kr⟩) ⟨H5.as kr,isK⟩ (?_) ?_
  ·clear H4b H5;rintro i _ w4 hi ⟨H4,_,rfl⟩;obtain⟨x,hx⟩:∃x,V[i]? =some x:=⟨_,Ql (by omega)⟩
   have hR:=Rw.rowAt (S:=blS) hrw;have hwl:=zaG x.2.1 (V.take i);rw[Qw]at hwl;refine zg [0,1,2,3] kr kr<|rp [.o (ins:=[((.tmp 8),Qf bw n c),((.tmp 10),iN i)]) (v:=.pointer (some ⟨bw,0+i*3,none⟩)) (fun ρ o w ho hi2=>zp (kd:=.i64) (t:=30) (e:=56) (K:=3) (bytes:=40) kr (x:=(.tmp 8)) (y:=(.tmp 10)) bw 0 n c i rfl ho hi2.1 hi2.2.1 hi w),.lp 4 (C:=cur) (off:=0+i*3) (n:=3) (W:=blC x) (hR _ _ hx).1 (hR _ _ hx).2] H4 kr fun gs6 w6 H6=>wX [2,3] ?_;have H7:St B w0 w6 ((b3,Qk #[.map (some bm)] 103 (0,0))::(bm,mpO (zx (V.take i)))::(b2,snO none 0 0 none 0 0)::(b1,snO q m cq (Qg bw) n c)::(bw,.cells cur 56)::Lr):=H6.as kr;refine zU H7 (some 5) 56 (.agg #[.string em,.string em,.bool false]) kr kr kr ?_;intro b5 w7 H8;refine rp [.s 0] H8 kr fun gs8 w8 H9=>wX []<|zc<|wW ?_;have H10:St B w0 w8 ((b5,blO x)::(b3,Qk #[.map (some bm)] 103 (0,0))::(bm,mpO (zx (V.take i)))::(b2,snO none 0 0 none 0 0)::(b1,snO q m cq (Qg bw) n c)::(bw,.cells cur 56)::Lr):=H9.as kr;have hlk:zL x.2.1 (zx (V.take i))=whoC x.2.1 (V.take i):=zaZ _ _
   refine rL [.l 1,.v,.l 0,.x (ins:=[((.tmp 14),.map (some bm)),((.tmp 16),.string x.2.1)]) (op:=.lookup 103 (.tmp 14) (.tmp 16) false) (v:=iN (zL x.2.1 (zx (V.take i)))) [(2,(bm,mpO (zx (V.take i))))] (fun ρ o w ho hi2 hd=>by
    have hr:=za4 hd.1 x.2.1
    unfold execOp;simp only[ho,hi2.1,hi2.2.1,QM,hr,QA];rfl),.E (.int .i64 (Qo.wrap (((zL x.2.1 (zx (V.take i)):Nat):Int)+1))) (iN (zL x.2.1 (zx (V.take i))+1)) (ze (zA (a:=zL x.2.1 (zx (V.take i))) (b:=1) (by omega))),
    .g [((.tmp 14),.map (some bm)),((.tmp 16),.string x.2.1),((.tmp 18),iN (zL x.2.1 (zx (V.take i))+1))] (.mapUpdate 103 (.tmp 14) (.tmp 16) (.tmp 18)) [(2,(bm,mpO (zx (V.take i))))] (fun _=>undef) (.turn 2 (mpO (jJ (zx (V.take i)) x))) (fun ρ o w ho hi2 hd hb=>by
     have hr:=zd3 hd.1 x.2.1 (zL x.2.1 (zx (V.take i))+1);have e:(execOp (ev ρ) o).run Try.prog w=.ok .skip { w with heap:=w.heap.setIfInBounds bm (mpO (jJ (zx (V.take i)) x)) } :=by
      unfold execOp;simp only[ho,hi2.1,hi2.2.1,hi2.2.2.1,QM,hr,QA];rfl
     rw[e];have hlt:=zj hd.1
     exact⟨default,rfl,(bm,mpO (zx (V.take i))),rfl,⟨rfl,rfl,rfl,by simp,fun k _ hk=>by simp[Array.getElem?_setIfInBounds,show ¬bm=k from fun e=>hk (by rw[e])]⟩,by simp[Array.getElem?_setIfInBounds,hlt]⟩)] H10 kr fun gs9 w9 H11=>?_
   refine⟨kr,?_,isK⟩;rw[zX hx,zaX];exact(H11.as (l:=(b5,blO x)::(b3,Qk #[.map (some bm)] 103 (0,0))::(bm,mpO (jJ (zx (V.take i)) x))::(b2,snO none 0 0 none 0 0)::(b1,snO q m cq (Qg bw) n c)::(bw,.cells cur 56)::Lr) kr).sub (QB ..)
  ·rintro _ w4 ⟨H6,_,rfl⟩;rw[Qq (l:=V) (by omega)]at H6;refine wW<|zg [0,1,2,3,4,5] kr kr<|rp [.v,.l 3,.v] H6 kr fun gs7 w7 H7=>wX [3,4,5] ?_;have H8:St B w0 w7 ((b3,Qk #[.map (some bm)] 103 (0,0))::(bm,mpO (zx (V)))::(b2,snO none 0 0 none 0 0)::(b1,snO q m cq (Qg bw) n c)::(bw,.cells cur 56)::Lr):=H7.as kr
   refine qa (R:=zR B w0 ((b3,Qk #[.map (some bm)] 103 (0,0))::(bm,mpO (zx (V)))::(b2,snO none 0 0 none 0 0)::(b1,snO q m cq (Qg bw) n c)::Lr) (V.filter (fun x=> !yH V m x))) (some 23) 64 #[Qf bw n c,.func (.func 83) #[] #[Qe b3,Qe b1]] (za6 (Qg bw) n c V (Qe b3) (Qe b1) (yH V m) (fun w=>w.heap[b3]? =some (.cells #[.map (some bm)] 103 (0,0))/\w.heap[bm]? =some (mpO (zx V))/\w.heap[b1]? =some (snO q m cq (Qg bw) n c)) [(bw,.cells cur 56)] ((b3,Qk #[.map (some bm)] 103 (0,0))::(bm,mpO (zx (V)))::(b2,snO none 0 0 none 0 0)::(b1,snO q m cq (Qg bw) n c)::Lr) (fun w w' h hb=>⟨zZ h.1 hb,zZ h.2.1 hb,zZ h.2.2 hb⟩) (fun x _=>za5 x V hV b3 bm b1 q m cq (Qg bw) n c hm)
    (fun w' X h=>⟨(h.own (b3,Qk #[.map (some bm)] 103 (0,0)) (by simp)).2,(h.own (bm,mpO (zx (V))) (by simp)).2,(h.own (b1,snO q m cq (Qg bw) n c) (by simp)).2⟩) (.inr ⟨bw,cur,rfl,rfl,hrw⟩) (H8.perm (qL [(b3,Qk #[.map (some bm)] 103 (0,0)),(bm,mpO (zx V)),(b2,snO none 0 0 none 0 0),(b1,snO q m cq (Qg bw) n c)] [(bw,Qk cur 56)] Lr)) hV) kr kr ?_
   rintro v w8 ⟨p',n',c',row',rfl,hrow',H9⟩;have H10:St B w0 w8 ((b3,Qk #[.map (some bm)] 103 (0,0))::(bm,mpO (zx (V)))::(b2,snO none 0 0 none 0 0)::(b1,snO q m cq (Qg bw) n c)::(row'++Lr)):=H9.perm (qL [(b3,Qk #[.map (some bm)] 103 (0,0)),(bm,mpO (zx (V))),(b2,snO none 0 0 none 0 0),(b1,snO q m cq (Qg bw) n c)] row' Lr).symm;refine rp [.v,.s 3] H10 kr fun gs9 w9 H11=>wX []<|zc<|wW ?_;have H12:St B w0 w9 ((b3,Qk #[.map (some bm)] 103 (0,0))::(bm,mpO (zx (V)))::(b2,snO none 0 0 none 0 0)::(b1,snO q m cq p' n' c')::(row'++Lr)):=H11.as kr;refine rS [.l 3,.s 2] H12 kr fun gs10 w10 H13=>rRr [.cell 2 32] [2] (snV q m cq p' n' c') (kq B w0 Lr q m cq (V.filter (fun x=> !yH V m x))) H13 kr ?_;exact⟨p',n',c',row',rfl,hrow',(H13.as (l:=(b3,Qk #[.map (some bm)] 103 (0,0))::(bm,mpO (zx (V)))::(b2,snO q m cq p' n' c')::(b1,snO q m cq p' n' c')::(row'++Lr)) kr).sub (QC [_,_,_,_] _)⟩
theorem zee (q:Qc)(m cq:Nat)(L:Qi)(p:Qc)(n c:Nat)(V:List Bal)(b:Bal)(rL rV Lr:Qb){B:Nat}{w0 w:World}(hrL:zw sS 9 q m cq rL L)(hrV:zw blS 56 p n c rV V)(h:St B w0 w (rL++(rV++Lr)))(hs:qJ L)(hL:L.length<=1000000)(hV:V.length<=1000000):
 Calls Try.prog 52 #[snV q m cq p n c,blV b] w fun e w'=> ∃v,e=.returned v/\vK B w0 Lr (yC L V b) v w':=by
 refine yJ (c:=zk Try.f52) (rs:=[.cell 4 32]) (N:=27) Try.func52 kr kr kr ?_;have hlenL:=hrL.len;refine zg [0,1,2] kr kr<|yR h (some 2) 32 (.tmp 0) (snV q m cq p n c) kr kr kr ?_;intro b2 w1 H1;refine yR H1 (some 3) 56 (.tmp 1) (blV b) kr kr kr ?_;intro b3 w2 H2;refine zU H2 (some 4) 32 (snV none 0 0 none 0 0) kr kr kr ?_;intro b4 w3 H3;refine zc<|wW<|zg [0,1,2,3,4,5] kr kr<|rp [.v,.l 2,.v] H3 kr fun gs4 w4 H4=>wX [3,4,5] ?_;have H5:St B w0 w4 ((b4,snO none 0 0 none 0 0)::(b3,blO b)::(b2,snO q m cq p n c)::(rL++(rV++Lr))):=H4.as kr;refine qa (R:=zR B w0 ((b4,snO none 0 0 none 0 0)::(b3,blO b)::(b2,snO q m cq p n c)::(rL++Lr)) (V.filter (fun x=> !goB b x))) (some 8) 64 #[.slice p n c,.func (.func 65) #[] #[Qe b3]] (zd8 p n c V (Qe b3) (goB b) (fun w=>w.heap[b3]? =some (blO b)) rV ((b4,snO none 0 0 none 0 0)::(b3,blO b)::(b2,snO q m cq p n c)::(rL++Lr)) (fun w w' h hb=>zZ h hb) (fun x _=>zd5 x b b3) (fun w' X h=>(h.own (b3,blO b) (by simp)).2) hrV (H5.perm (kp [(b4,snO none 0 0 none 0 0),(b3,blO b),(b2,snO q m cq p n c)] rL rV Lr)) hV) kr kr ?_;rintro v w5 ⟨p1,n1,c1,rV1,rfl,hrV1,H6⟩;have H7:St B w0 w5 ((b4,snO none 0 0 none 0 0)::(b3,blO b)::(b2,snO q m cq p n c)::(rL++(rV1++Lr))):=H6.perm (kp [(b4,snO none 0 0 none 0 0),(b3,blO b),(b2,snO q m cq p n c)] rL rV1 Lr).symm;refine rp [.v,.s 2] H7 kr fun gs8 w8 H8=>wX []<|zc<|wW ?_;have H9:St B w0 w8 ((b4,snO none 0 0 none 0 0)::(b3,blO b)::(b2,snO q m cq p1 n1 c1)::(rL++(rV1++Lr))):=H8.as kr;have hV1:(V.filter (fun x=> !goB b x)).length<=1000000:=Ro (RV _ _) hV;refine zb kr ?_;obtain⟨b_1,b_2,b_3⟩:=b;cases b_3 with
 | true=>
  refine rS [.v,.l 1] H9 kr fun gs9 w9 H10=>zq<|zg [0,1,2,3,4,5,6,7] kr kr<|rp [.v,.l 2,.v,.l 1,.v] H10 kr fun gs11 w11 H11=>wX [5,6,7] ?_;have H12:St B w0 w11 ((b4,snO none 0 0 none 0 0)::(b3,blO (b_1,b_2,true))::(b2,snO q m cq p1 n1 c1)::(rL++(rV1++Lr))):=H11.as kr;refine qa (R:=yn B w0 ((b3,blO (b_1,b_2,true))::(b4,snO none 0 0 none 0 0)::(b2,snO q m cq p1 n1 c1)::(rV1++Lr)) (zo (fun x=>zf (tl x) (tl b_2)) b_2 L)) (some 17) 66 #[.slice q m cq,.string b_2,leV b3] (zdZ q m cq L (b_1,b_2,true) b3 rL ((b4,snO none 0 0 none 0 0)::(b2,snO q m cq p1 n1 c1)::(rV1++Lr)) hrL (H12.perm ((qL [(b3,blO (b_1,b_2,true)),(b4,snO none 0 0 none 0 0),(b2,snO q m cq p1 n1 c1)] rL (rV1++Lr)).trans (List.Perm.swap _ _ _))) hs hL) kr kr ?_;rintro v w12 ⟨q1,m1,cq1,rL1,rfl,hrL1,H13⟩;have H14:St B w0 w12 ((b4,snO none 0 0 none 0 0)::(b3,blO (b_1,b_2,true))::(b2,snO q m cq p1 n1 c1)::(rL1++(rV1++Lr))):=H13.perm ((List.Perm.swap _ _ _).trans (qL [(b3,blO (b_1,b_2,true)),(b4,snO none 0 0 none 0 0),(b2,snO q m cq p1 n1 c1)] rL1 (rV1++Lr)).symm);refine rp [.v,.s 2] H14 kr fun gs15 w15 H15=>wX []<|zc<|wW ?_;have H16:St B w0 w15 ((b4,snO none 0 0 none 0 0)::(b3,blO (b_1,b_2,true))::(b2,snO q1 m1 cq1 p1 n1 c1)::(rL1++(rV1++Lr))):=H15.as kr;refine rS [.l 2,.s 0] H16 kr fun gs17 w17 H17=>rRr [.cell 4 32] [0] (snV q1 m1 cq1 p1 n1 c1) (vK B w0 Lr (yC L V (b_1,b_2,true))) H17 kr ?_;refine⟨q1,m1,cq1,p1,n1,c1,rL1,rV1,rfl,?_,?_,(H17.as (l:=((b4,snO q1 m1 cq1 p1 n1 c1)::(b3,blO (b_1,b_2,true))::(b2,snO q1 m1 cq1 p1 n1 c1)::(rL1++(rV1++Lr)))) kr).sub (QC [_,_,_] _)⟩
  ·unfold yC;rw[if_pos rfl];exact hrL1
  ·unfold yC;rw[if_pos rfl];exact hrV1
 | false=>
  refine rS [.v,.l 1] H9 kr fun gs9 w9 H10=>zu<|wW<|zg [0,1,2,3,4,5] kr kr<|rp [.v,.l 2,.v] H10 kr fun gs11 w11 H11=>wX [3,4,5] ?_;have H12:St B w0 w11 ((b4,snO none 0 0 none 0 0)::(b3,blO (b_1,b_2,false))::(b2,snO q m cq p1 n1 c1)::(rL++(rV1++Lr))):=H11.as kr;refine qa (R:=yn B w0 ((b4,snO none 0 0 none 0 0)::(b3,blO (b_1,b_2,false))::(b2,snO q m cq p1 n1 c1)::(rV1++Lr)) (L.filter (fun x=> !decide (x=b_2)))) (some 23) 68 #[.slice q m cq,.func (.func 69) #[] #[Qe b3]] (zeb q m cq L (Qe b3) (fun x=>decide (x=b_2)) (fun w=>w.heap[b3]? =some (blO (b_1,b_2,false))) rL ((b4,snO none 0 0 none 0 0)::(b3,blO (b_1,b_2,false))::(b2,snO q m cq p1 n1 c1)::(rV1++Lr)) (fun w w' h hb=>zZ h hb) (fun x _=>zd6 x (b_1,b_2,false) b3) (fun w' X h=>(h.own (b3,blO (b_1,b_2,false)) (by simp)).2) hrL (H12.perm (qL [(b4,snO none 0 0 none 0 0),(b3,blO (b_1,b_2,false)),(b2,snO q m cq p1 n1 c1)] rL (rV1++Lr))) hL) kr kr ?_;rintro v w12 ⟨q1,m1,cq1,rL1,rfl,hrL1,H13⟩;have H14:St B w0 w12 ((b4,snO none 0 0 none 0 0)::(b3,blO (b_1,b_2,false))::(b2,snO q m cq p1 n1 c1)::(rL1++(rV1++Lr))):=H13.perm (qL [(b4,snO none 0 0 none 0 0),(b3,blO (b_1,b_2,false)),(b2,snO q m cq p1 n1 c1)] rL1 (rV1++Lr)).symm;refine rp [.v,.s 2] H14 kr fun gs15 w15 H15=>wX []<|zc<|wW ?_;have hm1:m1<=1000000:=by rw[<-hrL1.len];exact Ro (RV _ _) hL
  refine zg [0,1,2] kr kr<|rp [.l 2] H15 kr fun gs16 w16 H16a=>wX [1,2] ?_;have H16:St B w0 w16 ((b4,snO none 0 0 none 0 0)::(b3,blO (b_1,b_2,false))::(b2,snO q1 m1 cq1 p1 n1 c1)::(rL1++(rV1++Lr))):=H16a.as kr;refine qa (R:=kq B w0 ((b4,snO none 0 0 none 0 0)::(b3,blO (b_1,b_2,false))::(b2,snO q1 m1 cq1 p1 n1 c1)::(rL1++Lr)) q1 m1 cq1 ((V.filter (fun x=> !goB (b_1,b_2,false) x)).filter (fun x=> !yH (V.filter (fun x=> !goB (b_1,b_2,false) x)) m1 x))) (some 26) 70 #[snV q1 m1 cq1 p1 n1 c1] (zed q1 m1 cq1 p1 n1 c1 (V.filter (fun x=> !goB (b_1,b_2,false) x)) rV1 ((b4,snO none 0 0 none 0 0)::(b3,blO (b_1,b_2,false))::(b2,snO q1 m1 cq1 p1 n1 c1)::(rL1++Lr)) hm1 hrV1 (H16.perm (kp [(b4,snO none 0 0 none 0 0),(b3,blO (b_1,b_2,false)),(b2,snO q1 m1 cq1 p1 n1 c1)] rL1 rV1 Lr)) hV1) kr kr ?_;rintro v w17 ⟨p2,n2,c2,rV2,rfl,hrV2,H17⟩;have H18:St B w0 w17 ((b4,snO none 0 0 none 0 0)::(b3,blO (b_1,b_2,false))::(b2,snO q1 m1 cq1 p1 n1 c1)::(rL1++(rV2++Lr))):=H17.perm (kp [(b4,snO none 0 0 none 0 0),(b3,blO (b_1,b_2,false)),(b2,snO q1 m1 cq1 p1 n1 c1)] rL1 rV2 Lr).symm;refine rp [.s 0] H18 kr fun gs19 w19 H19=>wX []<|zc<|wW<|rRr [.cell 4 32] [0] (snV q1 m1 cq1 p2 n2 c2) (vK B w0 Lr (yC L V (b_1,b_2,false))) H19 kr ?_;refine⟨q1,m1,cq1,p2,n2,c2,rL1,rV2,rfl,?_,?_,(H19.as (l:=((b4,snO q1 m1 cq1 p2 n2 c2)::(b3,blO (b_1,b_2,false))::(b2,snO q1 m1 cq1 p1 n1 c1)::(rL1++(rV2++Lr)))) kr).sub (QC [_,_,_] _)⟩
  ·unfold yC;rw[if_neg QS];exact hrL1
  ·unfold yC;rw[if_neg QS];have hl1:(L.filter (fun x=> !decide (x=b_2))).length=m1:=hrL1.len;show zw blS 56 p2 n2 c2 rV2 ((V.filter fun x=> !goB (b_1,b_2,false) x).filter fun x=> !yH (V.filter fun x=> !goB (b_1,b_2,false) x) (L.filter (fun x=> !decide (x=b_2))).length x);rw[hl1];exact hrV2
def qG (y:Gh):Qc:=if y.l.getD 0 0=0 then none else Qg y.b
def pG2 (y:Gh):Qc:=if y.l.getD 1 0=0 then none else some ⟨y.l.getD 2 0,0,none⟩
theorem za9 {α β:Type}{S1:Fl α}{S2:Fl β}{t1 t2:TypeId}{q p:Qc}{m cq n c:Nat}{r1 r2:Qb}{L:List α}{V:List β}(h1:zw S1 t1 q m cq r1 L)(h2:zw S2 t2 p n c r2 V):∃x:Gh,q=qG x/\m=x.n/\cq=x.cap/\p=pG2 x/\n=x.l.getD 3 0/\c=x.l.getD 4 0:=by
 rcases h1 with⟨rfl,rfl,rfl,_,_⟩|⟨b1,_,rfl,_,_⟩<;>rcases h2 with⟨rfl,rfl,rfl,_,_⟩ | ⟨b2,_,rfl,_,_⟩
 ·exact⟨{ n:=0,cap:=0,l:=[0,0,0,0,0] },rfl,rfl,rfl,rfl,rfl,rfl⟩
 ·exact⟨{ n:=0,cap:=0,l:=[0,1,b2,n,c] },rfl,rfl,rfl,rfl,rfl,rfl⟩
 ·exact⟨{ b:=b1,n:=m,cap:=cq,l:=[1,0,0,0,0] },rfl,rfl,rfl,rfl,rfl,rfl⟩
 ·exact⟨{ b:=b1,n:=m,cap:=cq,l:=[1,1,b2,n,c] },rfl,rfl,rfl,rfl,rfl,rfl⟩
abbrev snG (y:Gh):Value:=snV (qG y) y.n y.cap (pG2 y) (y.l.getD 3 0) (y.l.getD 4 0)
theorem D2.run_cc {P:Program}{ops:Array Oper}{d:Option Nat}{ρ:Env}{k:Nat}{w:World}{S:Value->World->Prop}{f:Nat}{args:Qd}{R:Value->World->Prop}(hc:Calls P f args w fun e w'=> ∃v,e=.returned v/\R v w')(h:opv P ops k ρ w=some (d,true,.ok (.enter f args) w))(hS: ∀v w',R v w'->S v w'):
 ∃o,ops[k]? =some o/\o.dst=d/\Region.wanted o (zy ops ρ)=true/\D2.Runs P S ((execOp (ev ρ) o).run P w):=by
 obtain⟨o,ho,hd,hw,hr⟩:=yh h;refine⟨o,ho,hd,hw,?_⟩;rw[hr];refine Calls.mono hc ?_;rintro e w' ⟨v,rfl,hR⟩;exact⟨v,rfl,hS v w' hR⟩
theorem zba {α:Type}(A X Y:List α):(Y++(A++X)).Perm (A++(X++Y)):=by rw[<-QJ A X Y];exact Rd
theorem zbb {α:Type}(A X Y:List α):(X++(Y++A)).Perm (A++(X++Y)):=by rw[<-QJ X Y A];exact Rd
theorem zef {α:Type}[DecidableEq α](f:α->Bool)(b:α)(L:List α):(zo f b L).length<=L.length+1:=by
 unfold zo;split
 ·omega
 ·have:=qZ f L;rw[QF,Ru,Qw,RK];omega
theorem xm {L:Qi}{V:List Bal}(h:zF L V=true):(∀x∈L,Qu x<=1000000)/\(∀x∈V,Qu x.1<=1000000/\Qu x.2.1<=1000000):=by
 obtain⟨r1,r2,r3⟩:=jp.1 h;obtain⟨s1,s2,s3,s4⟩:=xi.1 r3;refine⟨fun x hx=>by rw[s1 x hx];decide,fun x hx=>?_⟩;obtain⟨f1,f2,f3⟩:=qv.1 (r1 x hx).1;exact⟨by rw[s1 _ f1];decide,by rw[f2];decide⟩
theorem zeg (q:Qc)(m cq:Nat)(L:Qi)(p:Qc)(n c:Nat)(V:List Bal)(b:Bal)(hL:L.length<=100000)(hV:V.length<=100000):FnT Try.prog 34 #[snV q m cq p n c,blV b] (fun w=>yf w L V q m p n) (zI q m cq L p n c V (zY L V b)):=by
 refine FnT.intro (c:=zk Try.f34) [.cell 4 32,.tmp 5] 39 Try.func34 kr kr kr fun w hP=>?_;obtain⟨hS,hVV⟩:=hP;have hright:=vE q m cq L p n c V (by omega) (by omega);have hcast:=zdJ q m cq L p n c b (by omega);have H0:=St.start w;refine rS [.b,.b,.a,.v] H0 kr fun gs1 w1 H1=>zb kr ?_;cases hr:zF L V with
 | false=>
  rw[hr]at hright;refine rS [.l 0,.cp (pre:=fun w=>yf w L V q m p n) hright [] (fun w hb hd=>⟨hS.call hb,hVV.call hb⟩),.v] H1 kr fun gs2 w2 H2=>zq<|rS [.v,.s 2,.v] H2 kr fun gse we He=>rRr [.cell 4 32,.tmp 5] [2] (.tuple #[snV none 0 0 none 0 0,.int .i64 1]) (ys w.heap.size w (zI q m cq L p n c V (zY L V b))) He kr ?_;rw[<-kh,show qw L V b=([],[],1) by unfold qw;rw[if_pos hr]];exact⟨_,zI.no (e:=1),He.sub (Rl _)⟩
 | true=>
  rw[hr]at hright;refine rS [.l 0,.cp (pre:=fun w=>yf w L V q m p n) hright [] (fun w hb hd=>⟨hS.call hb,hVV.call hb⟩),.v] H1 kr fun gs2 w2 H2=>zu<|wW<|zb kr ?_;cases hcb:ja L b with
  | false=>
   rw[hcb]at hcast;refine rS [.l 0,.l 1,.cp (pre:=fun w=>AtF sS w q m L) hcast [] (fun w hb hd=>hS.call hb),.v] H2 kr fun gs3 w3 H3=>zq<|rS [.v,.s 2,.v] H3 kr fun gse we He=>rRr [.cell 4 32,.tmp 5] [2] (.tuple #[snV none 0 0 none 0 0,.int .i64 44]) (ys w.heap.size w (zI q m cq L p n c V (zY L V b))) He kr ?_;rw[<-kh,show qw L V b=([],[],44) by unfold qw;rw[if_neg (by rw[hr];decide),if_pos hcb]];exact⟨_,zI.no (e:=44),He.sub (Rl _)⟩
  | true=>
   rw[hcb]at hcast;refine rS [.l 0,.l 1,.cp (pre:=fun w=>AtF sS w q m L) hcast [] (fun w hb hd=>hS.call hb),.v] H2 kr fun gs3 w3 H3=>zu<|wW ?_;obtain⟨r1,hsB,r3⟩:=jp.1 hr;obtain⟨s1,hsL,s3,s4⟩:=xi.1 r3;have hfit:zP L b=true:=by
    unfold ja at hcb;rw[Bool.and_eq_true]at hcb;exact hcb.1
   obtain⟨f1,f2,f3⟩:=qv.1 hfit;have hb1:b.1.size<=1000000:=by rw[s1 _ f1];decide
   have hb2:b.2.1.size<=1000000:=by rw[f2];decide
   have hlen:=zef (fun x=>aheadB x b) b V;have hcnt:=zak b (zo (fun x=>aheadB x b) b V);have H3b:St w.heap.size w w3 [((gs1 0).b,snO q m cq p n c),((gs1 1).b,blO b),((gs1 2).b,snO none 0 0 none 0 0)]:=H3.as kr;generalize (gs1 0).b=b0 at*;generalize (gs1 1).b=b1 at*;generalize (gs1 2).b=b2 at*;refine jh [(2,Qe b0),(3,Qe b1),(4,Qe b2)] kr fun ρ0=>?_;clear H0 H1 H2 H3;refine zg [0,1,2,3] kr kr<|rp [.l 0] H3b kr fun gs4 w4 H4=>wX [1,2,3] ?_;have H5:St w.heap.size w w4 [(b0,snO q m cq p n c),(b1,blO b),(b2,snO none 0 0 none 0 0)]:=H4.as kr;refine qr H5 (some 17) 42 #[snV q m cq p n c] (za8 q m cq L p n c V (by omega) (by omega) (xm hr).1 (xm hr).2) ⟨hS.call H5.below,hVV.call H5.below⟩ kr kr ?_;rintro v T w5 ⟨q1,m1,cq1,p1,n1,c1,rL,rV,rfl,rfl,hrL,hrV⟩ H6;have H6b:St w.heap.size w w5 ((b0,snO q m cq p n c)::(b1,blO b)::(b2,snO none 0 0 none 0 0)::(rL++rV)):=H6.perm (Rd (l₁:=[(b0,snO q m cq p n c),(b1,blO b),(b2,snO none 0 0 none 0 0)]) (l₂:=rL++rV));refine zU H6b (some 6) 32 (snV none 0 0 none 0 0) kr kr kr ?_;intro b6 w6 H7;refine rp [.s 0] H7 kr fun gs8 w8 H8a=>wX []<|zc<|wW ?_;have H8:St w.heap.size w w8 ((b6,snO q1 m1 cq1 p1 n1 c1)::(b0,snO q m cq p n c)::(b1,blO b)::(b2,snO none 0 0 none 0 0)::(rL++rV)):=H8a.as kr;have hmL:L.length=m1:=hrL.len;refine zb kr<|D2.g_draw0 [0,1,2,3,4,5,6,7,8] [(some 18,fun _=>.pointer (some ⟨b6,1,none⟩)),(some 19,fun _=>.slice p1 n1 c1),(some 20,fun _=>blV b),(some 21,fun _=>blV b),(some 22,fun _=>blV b),(some 23,fun y=>ahV y.b),(some 24,fun y=>.slice (pG y) y.n y.cap),(some 25,fun _=>.pointer (some ⟨b6,1,none⟩)),(none,fun _=>undef)]
    (D2.chn [5,6,8] fun j g ww=>match j with
     | 0=>St w.heap.size w ww ((b6,snO q1 m1 cq1 p1 n1 c1)::(b0,snO q m cq p n c)::(b1,blO b)::(b2,snO none 0 0 none 0 0)::(rL++rV))
     | 1=>St w.heap.size w ww (((g 5).b,blO b)::((b6,snO q1 m1 cq1 p1 n1 c1)::(b0,snO q m cq p n c)::(b1,blO b)::(b2,snO none 0 0 none 0 0)::(rL++rV)))
     | 2=> ∃rN,zw blS 56 (pG (g 6)) (g 6).n (g 6).cap rN (zo (fun x=>aheadB x b) b V)/\St w.heap.size w ww (((g 5).b,blO b)::((b6,snO q1 m1 cq1 p1 n1 c1)::(b0,snO q m cq p n c)::(b1,blO b)::(b2,snO none 0 0 none 0 0)::(rL++rN)))
     | _=> ∃rN,zw blS 56 (pG (g 6)) (g 6).n (g 6).cap rN (zo (fun x=>aheadB x b) b V)/\St w.heap.size w ww (((g 5).b,blO b)::((b6,snO q1 m1 cq1 (pG (g 6)) (g 6).n (g 6).cap)::(b0,snO q m cq p n c)::(b1,blO b)::(b2,snO none 0 0 none 0 0)::(rL++rN))))
    kr kr kr H8.drew ⟨?_,?_,?_,?_,?_,?_,?_,?_,?_,trivial⟩ ?_
   ·exact D2.gv_val (fun _ _ _ h=>h) (fun g w=>by kernel_rfl)
   ·exact D2.gv_ld (fun _ _ _ h=>h) 30 (.tmp 18) (fun _=>b6) 1 #[.slice q1 m1 cq1,.slice p1 n1 c1] 32 (0,0) (fun g=>by kernel_rfl) (fun g=>by kernel_rfl) (fun L g w hN hp=>hp.getN 2 8 rfl (hN.post 8 kr) fun j hj h=>by
     match j,hj,h with
     | 0,_,h=>exact(h.own (b6,snO q1 m1 cq1 p1 n1 c1) (by simp)).2
     | 1,_,h=>exact(h.own (b6,snO q1 m1 cq1 p1 n1 c1) (by simp)).2
     | 2,_,h=>exact(let ⟨_,_,hh⟩:=h;(hh.own (b6,snO q1 m1 cq1 p1 n1 c1) (by simp)).2)) kr kr
   ·exact D2.gv_ld (fun _ _ _ h=>h) 56 (.tmp 3) (fun _=>b1) 0 (blC b) 56 (0,0) (fun g=>by kernel_rfl) (fun g=>by kernel_rfl) (fun L g w hN hp=>hp.get fun j hj h=>by
     match j,h with
     | 0,h=>exact(h.own (b1,blO b) (by simp)).2
     | 1,h=>exact(h.own (b1,blO b) (by simp)).2
     | 2,h=>exact(let ⟨_,_,hh⟩:=h;(hh.own (b1,blO b) (by simp)).2)
     | _+3,h=>exact(let ⟨_,_,hh⟩:=h;(hh.own (b1,blO b) (by simp)).2)) kr kr
   ·exact D2.gv_cW (fun _ _ _ h=>h) 50 #[blV b] (vJ b hb1 hb2) (fun L g w w' hN hp hb=>by
     revert hp;unfold D2.chn
     generalize D2.stg [5,6,8] L=j;intro hp
     match j,hp with
     | 0,h=>exact h.call hb
     | 1,h=>exact h.call hb
     | 2,h=>exact(let ⟨r,hr,hh⟩:=h;⟨r,hr,hh.call hb⟩)
     | _+3,h=>exact(let ⟨r,hr,hh⟩:=h;⟨r,hr,hh.call hb⟩)) (fun g w=>by kernel_rfl)
   ·exact D2.gv_ld (fun _ _ _ h=>h) 56 (.tmp 3) (fun _=>b1) 0 (blC b) 56 (0,0) (fun g=>by kernel_rfl) (fun g=>by kernel_rfl) (fun L g w hN hp=>hp.get fun j hj h=>by
     match j,h with
     | 0,h=>exact(h.own (b1,blO b) (by simp)).2
     | 1,h=>exact(h.own (b1,blO b) (by simp)).2
     | 2,h=>exact(let ⟨_,_,hh⟩:=h;(hh.own (b1,blO b) (by simp)).2)
     | _+3,h=>exact(let ⟨_,_,hh⟩:=h;(hh.own (b1,blO b) (by simp)).2)) kr kr
   ·refine D2.gv_chn 5 0 (fun L hN=>by
     have e5:=hN.1;have e6:=hN.post 6 kr;have e8:=hN.fwd e6 (show D2.edge _ 6 8=true by kernel_rfl)
     exact⟨by (simp[D2.stg,e5,e6,e8])<;>rfl,by (simp[D2.stg,D2.put1,e5,e6,e8])<;>rfl⟩) fun g ww hq=>?_
    exact D2.run_ft (zaN b) trivial kr (fun v T w' ⟨k,hv,hT⟩ hSt=>⟨{ b:=k },hv,by rw[hT]at hSt;exact hq.addAll hSt⟩)
   ·refine D2.gv_chn 6 1 (fun L hN=>by
     have e6:=hN.1;have e5:=hN.bef 5 kr;have e8:=hN.post 8 kr
     exact⟨by (simp[D2.stg,e5,e6,e8])<;>rfl,by (simp[D2.stg,D2.put1,e5,e6,e8])<;>rfl⟩) fun g ww hq=>?_
    refine D2.run_cc (zdY p1 n1 c1 V b (g 5).b rV ((b6,snO q1 m1 cq1 p1 n1 c1)::(b0,snO q m cq p n c)::(b1,blO b)::(b2,snO none 0 0 none 0 0)::rL) hrV (hq.perm (zba [((g 5).b,blO b),(b6,snO q1 m1 cq1 p1 n1 c1),(b0,snO q m cq p n c),(b1,blO b),(b2,snO none 0 0 none 0 0)] rL rV)) hsB (by omega)) kr fun v w' hR=>?_;obtain⟨p',n',k',rN,rfl,hrN,hSt⟩:=hR;obtain⟨y,hy,hrN'⟩:=zca hrN;exact⟨y,hy,rN,hrN',hSt.perm (zba [((g 5).b,blO b),(b6,snO q1 m1 cq1 p1 n1 c1),(b0,snO q m cq p n c),(b1,blO b),(b2,snO none 0 0 none 0 0)] rL rN).symm⟩
   ·exact D2.gv_val (fun _ _ _ h=>h) (fun g w=>by kernel_rfl)
   ·refine D2.gv_chn 8 2 (fun L hN=>by
     have e8:=hN.1;have e6:=hN.bef 6 kr;have e5:=hN.back e6 (show D2.edge _ 5 6=true by kernel_rfl)
     exact⟨by (simp[D2.stg,e5,e6,e8])<;>rfl,by (simp[D2.stg,D2.put1,e5,e6,e8])<;>rfl⟩) fun g ww hq=>?_
    obtain⟨rN,hrN,hq⟩:=hq;exact D2.run_sto (t:=30) (x:=.tmp 25) (y:=.tmp 24) (C:=#[.slice q1 m1 cq1,.slice p1 n1 c1]) (C':=#[.slice q1 m1 cq1,.slice (pG (g 6)) (g 6).n (g 6).cap]) (T:=32) (off:=1) (b:=b6) (v:=.slice (pG (g 6)) (g 6).n (g 6).cap) kr kr kr kr kr (St.get hq 1 kr) (Qr kr) kr ⟨g 8,rfl,rN,hrN,St.store (C:=#[.slice q1 m1 cq1,.slice p1 n1 c1]) (T:=32) hq 1 kr⟩
   intro L1 g w9 hall hp;have hq:=hp.fin (fun k hk=>hall k (by simp at hk;rcases hk with rfl | rfl | rfl<;>exact Qr kr));obtain⟨rN,hrN,H9⟩:=hq;refine wW<|jh [(3,Qe b1),(4,Qe b2),(6,Qe b6)] kr fun ρ1=>?_;have H10:St w.heap.size w w9 ((b6,snO q1 m1 cq1 (pG (g 6)) (g 6).n (g 6).cap)::(b0,snO q m cq p n c)::(b1,blO b)::(b2,snO none 0 0 none 0 0)::(rL++rN)):=H9.sub (QB ..);generalize pG (g 6)=p2 at hrN H10;generalize (g 6).n=n2 at hrN H10;generalize (g 6).cap=c2 at hrN H10;clear hp hall H9;refine zb kr<|zb kr<|D2.g_draw0 [0,1,2,3,4,5,6,7] [(some 26,fun _=>snV q1 m1 cq1 p2 n2 c2),(some 27,fun _=>blV b),(some 28,fun _=>iN (zv b (zo (fun x=>aheadB x b) b V))),(some 29,fun _=>iN (2*zv b (zo (fun x=>aheadB x b) b V))),(some 30,fun _=>Qe b6),(some 31,fun _=>.slice q1 m1 cq1),(some 32,fun _=>iN m1),(some 33,fun _=>.bool (decide (m1<2*zv b (zo (fun x=>aheadB x b) b V))))]
    (fun _ _ ww=>St w.heap.size w ww ((b6,snO q1 m1 cq1 p2 n2 c2)::(b0,snO q m cq p n c)::(b1,blO b)::(b2,snO none 0 0 none 0 0)::(rL++rN))) kr kr kr H10.drew ⟨?_,?_,?_,?_,?_,?_,?_,?_,trivial⟩ ?_
   ·exact D2.gv_ld (fun _ _ _ h=>h) 32 (.tmp 6) (fun _=>b6) 0 #[.slice q1 m1 cq1,.slice p2 n2 c2] 32 (0,0) (fun g=>by kernel_rfl) (fun g=>by kernel_rfl) (fun L g w hN hp=>(hp.own (b6,snO q1 m1 cq1 p2 n2 c2) (by simp)).2) kr kr
   ·exact D2.gv_ld (fun _ _ _ h=>h) 56 (.tmp 3) (fun _=>b1) 0 (blC b) 56 (0,0) (fun g=>by kernel_rfl) (fun g=>by kernel_rfl) (fun L g w hN hp=>(hp.own (b1,blO b) (by simp)).2) kr kr
   ·exact D2.gv_cpW (fun _ _ _ h=>h) 51 #[snV q1 m1 cq1 p2 n2 c2,blV b] (zdI q1 m1 cq1 p2 n2 c2 (zo (fun x=>aheadB x b) b V) b (by omega)) (fun L g w hN hp=>hrN.atF hp fun e he=>Q7 _ (Q7 _ (Q7 _ (Q7 _ (List.mem_append_right _ he))))) (fun L g w w' hN hp hb=>hp.call hb) (fun g w=>by kernel_rfl)
   ·exact D2.gv_valE (V':=.int .i64 (Qo.wrap (2*((zv b (zo (fun x=>aheadB x b) b V):Nat):Int)))) (fun _ _ _ h=>h) (fun g w=>by kernel_rfl) (ze (qE (a:=2) (b:=zv b (zo (fun x=>aheadB x b) b V)) (by omega)))
   ·exact D2.gv_val (fun _ _ _ h=>h) (fun g w=>by kernel_rfl)
   ·exact D2.gv_ld (fun _ _ _ h=>h) 22 (.tmp 30) (fun _=>b6) 0 #[.slice q1 m1 cq1,.slice p2 n2 c2] 32 (0,0) (fun g=>by kernel_rfl) (fun g=>by kernel_rfl) (fun L g w hN hp=>(hp.own (b6,snO q1 m1 cq1 p2 n2 c2) (by simp)).2) kr kr
   ·exact D2.gv_val (fun _ _ _ h=>h) (fun g w=>by kernel_rfl)
   ·exact D2.gv_valE (V':=.bool (decide (((2*zv b (zo (fun x=>aheadB x b) b V):Nat):Int)>(m1:Int)))) (fun _ _ _ h=>h) (fun g w=>by kernel_rfl) (za (by rw[RS,decide_eq_true_iff,decide_eq_true_iff];omega))
   intro L9 g9 w11 _ H11;refine wW ?_;by_cases hmany:m1<2*zv b (zo (fun x=>aheadB x b) b V)
   ·refine jg 33 (v:=.bool (decide (m1<2*zv b (zo (fun x=>aheadB x b) b V)))) (v':=.bool true) (by rw[decide_eq_true hmany]) kr<|zq<|D2.g_draw0 [0,1,2,3,4] [(some 34,fun _=>snV q1 m1 cq1 p2 n2 c2),(some 35,fun _=>blV b),(some 36,fun _=>blV b),(some 37,fun y=>snG y),(none,fun _=>undef)]
     (D2.chn [3,4] fun j g ww=>match j with
      | 0=>St w.heap.size w ww ((b6,snO q1 m1 cq1 p2 n2 c2)::(b0,snO q m cq p n c)::(b1,blO b)::(b2,snO none 0 0 none 0 0)::(rL++rN))
      | 1=> ∃r1 r2,zw sS 9 (qG (g 3)) (g 3).n (g 3).cap r1 (yC L (zo (fun x=>aheadB x b) b V) b).1/\zw blS 56 (pG2 (g 3)) ((g 3).l.getD 3 0) ((g 3).l.getD 4 0) r2 (yC L (zo (fun x=>aheadB x b) b V) b).2/\St w.heap.size w ww ((b6,snO q1 m1 cq1 p2 n2 c2)::(b0,snO q m cq p n c)::(b1,blO b)::(b2,snO none 0 0 none 0 0)::(r1++r2))
      | _=> ∃r1 r2,zw sS 9 (qG (g 3)) (g 3).n (g 3).cap r1 (yC L (zo (fun x=>aheadB x b) b V) b).1/\zw blS 56 (pG2 (g 3)) ((g 3).l.getD 3 0) ((g 3).l.getD 4 0) r2 (yC L (zo (fun x=>aheadB x b) b V) b).2/\St w.heap.size w ww ((b6,snO (qG (g 3)) (g 3).n (g 3).cap (pG2 (g 3)) ((g 3).l.getD 3 0) ((g 3).l.getD 4 0))::(b0,snO q m cq p n c)::(b1,blO b)::(b2,snO none 0 0 none 0 0)::(r1++r2)))
     kr kr kr H11.drew ⟨?_,?_,?_,?_,?_,trivial⟩ ?_
    ·exact D2.gv_ld (fun _ _ _ h=>h) 32 (.tmp 6) (fun _=>b6) 0 #[.slice q1 m1 cq1,.slice p2 n2 c2] 32 (0,0) (fun g=>by kernel_rfl) (fun g=>by kernel_rfl) (fun L g w hN hp=>hp.getN 1 4 rfl (hN.post 4 kr) fun j hj h=>by
      match j,hj,h with
      | 0,_,h=>exact(h.own (b6,snO q1 m1 cq1 p2 n2 c2) (by simp)).2
      | 1,_,h=>exact(let ⟨_,_,_,_,hh⟩:=h;(hh.own (b6,snO q1 m1 cq1 p2 n2 c2) (by simp)).2)) kr kr
    ·exact D2.gv_ld (fun _ _ _ h=>h) 56 (.tmp 3) (fun _=>b1) 0 (blC b) 56 (0,0) (fun g=>by kernel_rfl) (fun g=>by kernel_rfl) (fun L g w hN hp=>hp.get fun j hj h=>by
      match j,h with
      | 0,h=>exact(h.own (b1,blO b) (by simp)).2
      | 1,h=>exact(let ⟨_,_,_,_,hh⟩:=h;(hh.own (b1,blO b) (by simp)).2)
      | _+2,h=>exact(let ⟨_,_,_,_,hh⟩:=h;(hh.own (b1,blO b) (by simp)).2)) kr kr
    ·exact D2.gv_cW (fun _ _ _ h=>h) 50 #[blV b] (vJ b hb1 hb2) (fun L g w w' hN hp hb=>by
      revert hp;unfold D2.chn
      generalize D2.stg [3,4] L=j;intro hp
      match j,hp with
      | 0,h=>exact h.call hb
      | 1,h=>exact(let ⟨r1,r2,h1,h2,hh⟩:=h;⟨r1,r2,h1,h2,hh.call hb⟩)
      | _+2,h=>exact(let ⟨r1,r2,h1,h2,hh⟩:=h;⟨r1,r2,h1,h2,hh.call hb⟩)) (fun g w=>by kernel_rfl)
    ·refine D2.gv_chn 3 0 (fun L hN=>by
      have e3:=hN.1;have e4:=hN.post 4 kr
      exact⟨by (simp[D2.stg,e3,e4])<;>rfl,by (simp[D2.stg,D2.put1,e3,e4])<;>rfl⟩) fun g ww hq=>?_
     refine D2.run_cc (zee q1 m1 cq1 L p2 n2 c2 (zo (fun x=>aheadB x b) b V) b rL rN [(b6,snO q1 m1 cq1 p2 n2 c2),(b0,snO q m cq p n c),(b1,blO b),(b2,snO none 0 0 none 0 0)] hrL hrN (hq.perm (zbb _ rL rN)) hsL (by omega) (by omega)) kr fun v w' hR=>?_;obtain⟨q',m',cq',p',n',c',r1,r2,rfl,h1,h2,hSt⟩:=hR;obtain⟨y,e1,e2,e3,e4,e5,e6⟩:=za9 h1 h2;subst e1 e2 e3 e4 e5 e6;exact⟨y,rfl,r1,r2,h1,h2,hSt.perm (zbb [(b6,snO q1 m1 cq1 p2 n2 c2),(b0,snO q m cq p n c),(b1,blO b),(b2,snO none 0 0 none 0 0)] r1 r2).symm⟩
    ·refine D2.gv_chn 4 1 (fun L hN=>by
      have e4:=hN.1;have e3:=hN.bef 3 kr
      exact⟨by (simp[D2.stg,e3,e4])<;>rfl,by (simp[D2.stg,D2.put1,e3,e4])<;>rfl⟩) fun g ww hq=>?_
     obtain⟨r1,r2,h1,h2,hq⟩:=hq;exact D2.run_sto (t:=32) (x:=.tmp 6) (y:=.tmp 37) (C:=#[.slice q1 m1 cq1,.slice p2 n2 c2]) (C':=#[.slice (qG (g 3)) (g 3).n (g 3).cap,.slice (pG2 (g 3)) ((g 3).l.getD 3 0) ((g 3).l.getD 4 0)]) (T:=32) (off:=0) (b:=b6) (v:=snG (g 3)) kr kr kr kr kr (St.get hq 0 kr) (Qr kr) kr ⟨g 4,rfl,r1,r2,h1,h2,St.store (C:=#[.slice q1 m1 cq1,.slice p2 n2 c2]) (T:=32) hq 0 kr⟩
    intro L1 g w12 hall hp;have hq:=hp.fin (fun k hk=>hall k (by simp at hk;rcases hk with rfl | rfl<;>exact Qr kr));obtain⟨r1,r2,h1,h2,H12⟩:=hq;refine wW<|rS [.l 0,.s 3,.v] H12 kr fun gs13 w13 H13=>rRr [.cell 4 32,.tmp 5] [3] (.tuple #[snG (g 3),.int .i64 0]) (ys w.heap.size w (zI q m cq L p n c V (zY L V b))) H13 kr ?_;rw[<-kh,show qw L V b=((yC L (zo (fun x=>aheadB x b) b V) b).1,(yC L (zo (fun x=>aheadB x b) b V) b).2,0) by unfold qw;rw[if_neg (by rw[hr];decide),if_neg (by rw[hcb];decide),if_pos (by rw[hrL.len];exact hmany)]];exact⟨r1++r2,⟨qG (g 3),(g 3).n,(g 3).cap,pG2 (g 3),(g 3).l.getD 3 0,(g 3).l.getD 4 0,r1,r2,rfl,rfl,.inr h1,.inr h2⟩,(H13.as (l:=(b6,snO (qG (g 3)) (g 3).n (g 3).cap (pG2 (g 3)) ((g 3).l.getD 3 0) ((g 3).l.getD 4 0))::(b0,snO q m cq p n c)::(b1,blO b)::(b2,snO (qG (g 3)) (g 3).n (g 3).cap (pG2 (g 3)) ((g 3).l.getD 3 0) ((g 3).l.getD 4 0))::(r1++r2)) kr).sub (QC [_,_,_,_] _)⟩
   ·refine jg 33 (v:=.bool (decide (m1<2*zv b (zo (fun x=>aheadB x b) b V)))) (v':=.bool false) (by rw[decide_eq_false hmany]) kr<|zu<|wW<|rS [.l 0,.s 3,.v] H11 kr fun gs13 w13 H13=>rRr [.cell 4 32,.tmp 5] [3] (.tuple #[snV q1 m1 cq1 p2 n2 c2,.int .i64 0]) (ys w.heap.size w (zI q m cq L p n c V (zY L V b))) H13 kr ?_;rw[<-kh,show qw L V b=(L,(zo (fun x=>aheadB x b) b V),0) by unfold qw;rw[if_neg (by rw[hr];decide),if_neg (by rw[hcb];decide),if_neg (by rw[hrL.len];exact hmany)]];exact⟨rL++rN,⟨q1,m1,cq1,p2,n2,c2,rL,rN,rfl,rfl,.inr hrL,.inr hrN⟩,(H13.as (l:=(b6,snO q1 m1 cq1 p2 n2 c2)::(b0,snO q m cq p n c)::(b1,blO b)::(b2,snO q1 m1 cq1 p2 n2 c2)::(rL++rN)) kr).sub (QC [_,_,_,_] _)⟩
def yV (L:Qi)(V:List Bal):Qi×List Bal×Nat:=if zF L V=false then ([],[],1) else (L,[],0)
theorem zbc (q:Qc)(m cq:Nat)(L:Qi)(p:Qc)(n c:Nat)(V:List Bal)(hL:L.length<=100000)(hV:V.length<=100000):FnT Try.prog 29 #[snV q m cq p n c] (fun w=>yf w L V q m p n) (zI q m cq L p n c V (yV L V)):=by
 refine FnT.intro (c:=zk Try.f29) [.cell 2 32,.tmp 3] 12 Try.func29 kr kr kr fun w hP=>?_;obtain⟨hS,hVV⟩:=hP;have hright:=vE q m cq L p n c V (by omega) (by omega);refine rS [.b,.a,.v] (St.start w) kr fun gs1 w1 H1=>zb kr ?_;cases hr:zF L V with
 | false=>
  rw[hr]at hright;refine rS [.l 0,.cp (pre:=fun w=>yf w L V q m p n) hright [] (fun w hb hd=>⟨hS.call hb,hVV.call hb⟩),.v] H1 kr fun gs2 w2 H2=>zq<|rS [.v,.s 1,.v] H2 kr fun gse we He=>rRr [.cell 2 32,.tmp 3] [1] (.tuple #[snV none 0 0 none 0 0,.int .i64 1]) (ys w.heap.size w (zI q m cq L p n c V (yV L V))) He kr ?_;rw[show yV L V=([],[],1) by unfold yV;rw[if_pos hr]];exact⟨_,zI.no (e:=1),He.sub (Rl _)⟩
 | true=>
  rw[hr]at hright;refine rS [.l 0,.cp (pre:=fun w=>yf w L V q m p n) hright [] (fun w hb hd=>⟨hS.call hb,hVV.call hb⟩),.v] H1 kr fun gs2 w2 H2=>zu<|wW<|zg [0,1,2,3,4,5] kr kr<|rp [.v,.l 0,.v] H2 kr fun gs4 w4 H4=>wX [3,4,5] ?_;have H5:St w.heap.size w w4 [((gs1 0).b,snO q m cq p n c),((gs1 1).b,snO none 0 0 none 0 0)]:=H4.as kr;refine qr H5 (some 11) 42 #[snV q m cq none 0 0] (za8 q m cq L none 0 0 [] (by omega) (QH _) (xm hr).1 (fun x hx=>absurd hx Rv)) ⟨hS.call H5.below,rfl,.inl rfl⟩ kr kr ?_;rintro v T w5 ⟨q1,m1,cq1,p1,n1,c1,rL,rV,rfl,rfl,hrL,hrV⟩ H6;have H6b:St w.heap.size w w5 (((gs1 0).b,snO q m cq p n c)::((gs1 1).b,snO none 0 0 none 0 0)::(rL++rV)):=H6.perm (Rd (l₁:=[((gs1 0).b,snO q m cq p n c),((gs1 1).b,snO none 0 0 none 0 0)]) (l₂:=rL++rV));refine rp [.s 1,.v] H6b kr fun gs8 w8 H8=>wX []<|zc<|wW<|rRr [.cell 2 32,.tmp 3] [1] (.tuple #[snV q1 m1 cq1 p1 n1 c1,.int .i64 0]) (ys w.heap.size w (zI q m cq L p n c V (yV L V))) H8 kr ?_;rw[show yV L V=(L,[],0) by unfold yV;rw[if_neg (by rw[hr];decide)]];exact⟨rL++rV,⟨q1,m1,cq1,p1,n1,c1,rL,rV,rfl,rfl,.inr hrL,.inr hrV⟩,(H8.as (l:=((gs1 0).b,snO q m cq p n c)::((gs1 1).b,snO q1 m1 cq1 p1 n1 c1)::(rL++rV)) kr).sub (QC [_,_] _)⟩
end
section
open D2 (Gh)
theorem zbd {q0 p0 q p:Qc}{m0 c0 n0 d0 m cq n c:Nat}{L0 L:Qi}{V0 V:List Bal}{A B T l:Qb}{b0:Nat}{w0 w:World}(hA:yc sS 9 q0 m0 c0 L0 q m cq A L)(hB:yc blS 56 p0 n0 d0 V0 p n c B V)(hT:T=A++B)(hS:St b0 w0 w l)(hl: ∀e∈T,e∈l)(h0:yf w L0 V0 q0 m0 p0 n0):yf w L V q m p n:=
 ⟨hA.at hS (fun e he=>hl e (by rw[hT];exact Ul _ he)) h0.1,hB.at hS (fun e he=>hl e (by rw[hT];exact List.mem_append_right _ he)) h0.2⟩
section
variable {P:Program}{N:Nat}{c:Code}{Q:Exit->Env->World->Prop}{ρ:Env}{w:World}
end
end
section
open D2 (Gh)
open Go.ChangeShapes Go.WideShapes Go.ChangeAt
section
variable {H:Type}{enc:TypeId×Value->H}{W:World}{sp:Nat->Bool}{held:Bool}
theorem zeh {v:Value}{d:DataW H}{p:List MemPlace}{base:Nat}(hv:Value.okWide Try.prog W .any base 22 v)(h:DataW.Trod enc Try.prog W 0 sp held 22 v d p):
 ∃(q:Qc) (n c:Nat) (L:Qi),v=.slice q n c/\yd q n c/\(∀x∈L,x.size<=maxLen)/\AtF sS W q n L:=
 uN Try.underlying22 vj zaj hv h
end
section
variable {H:Type}{enc:TypeId×Value->H}{W:World}{sp:Nat->Bool}{held:Bool}
end
def qx (n:Int):Nat:=(min (max n 0) 1000000).toNat
def zbe (n:Int):Nat:=(2*qx n+2) / 3
def zbf (n:Int):Nat:=(qx n-1) / 3
def vL:Prop:= ∀n:Int,-0x8000000000000000<=n->n<=0x7fffffffffffffff->Fn Try.prog 8 #[.int .i64 n] (iN (zbe n))
def vM:Prop:= ∀n:Int,-0x8000000000000000<=n->n<=0x7fffffffffffffff->Fn Try.prog 9 #[.int .i64 n] (iN (zbf n))
theorem zei (hQ:vL)(hF:vM):Fn Try.prog 11 #[] (.bool true):=by
 refine Fn.intro (c:=zk Try.f11) [.tmp 0] 7 Try.func11 kr kr kr fun w=>rS [.v] (St.start w) kr fun gs1 w1 H1=>rS [.c (hQ 4 (by decide) (by decide)),.v,.v,.c (hF 4 (by decide) (by decide)),.v,.v,.v] H1 kr fun gs2 w2 H2=>?_;exact rR [.tmp 0] [] (.bool true) H2 kr
end
section
open D2 (Gh)
def qd (x:Qa):Qa:=x.extract 0 (min x.size 50)
theorem zej (x:Qa):(qd x).size<=50:=by unfold qd;rw[ByteArray.size_extract];omega
theorem zbg {α:Type}{L:List α}{n z:Nat}(h:n=L.length):L.take (min n z)=L.take z:=by
 subst h;by_cases hl:L.length<=z
 ·rw[Rx hl,Qq (Qs _),Qq hl]
 ·rw[Nat.min_eq_right (by omega)]
end
theorem jK (s:Qa):Fn Try.prog 20 #[.string s] (.string (qd s)):=by
 refine Fn.intro (c:=zk Try.f20) [.tmp 2] 8 Try.func20 kr kr kr fun w=>rS [.v] (St.start w) kr fun gs1 w1 H1=>rS [.v,.v,.v,.E (.int .i64 (if (50:Int)<(s.size:Int) then (50:Int) else (s.size:Int))) (iN (min s.size 50)) (ze (by split<;>omega)),.o (ins:=[((.tmp 3),.string s),((.tmp 6),iN (min s.size 50))]) (v:=.string (qd s)) (fun ρ o w ho hi=>zb0 (t:=9) (kd:=.i64) kr (x:=(.tmp 3)) (y:=(.tmp 6)) s (min s.size 50) ho hi.1 hi.2.1 (UQ _ _) w),.v] H1 kr fun gs2 w2 H2=>?_;exact rR [.tmp 2] [] (.string (qd s)) H2 kr
def few20 (h:Hdr):Hdr:=⟨qd h.pa,h.hh,qd h.ro,qd h.tx,qd h.pr,qd h.va,h.vs.take 20,qd h.vo,h.ad,h.rd,h.ss.take 20⟩
theorem zek {h:Hdr}(h3: ∀x∈h.ss,sgOk x):jk (few20 h):=
 ⟨by have:=zej h.vo;show (qd h.vo).size<=_;omega,by show (h.vs.take 20).length<=_;rw[Qw];omega,fun x hx=>h3 x (List.mem_of_mem_take hx),by show (h.ss.take 20).length<=_;rw[Qw];omega⟩
theorem yP.few20 {w:World}{h:Hdr}{p:Qc}{n:Nat}{q:Qc}{m:Nat}(a:yP w h p n q m):yP w (few20 h) p (min n 20) q (min m 20):=by
 have h1:=a.1.take (min n 20) (UQ _ _);have h2:=a.2.take (min m 20) (UQ _ _);rw[zbg a.1.1]at h1;rw[zbg a.2.1]at h2;exact⟨h1,h2⟩
theorem zel (h:Hdr)(p:Qc)(n c:Nat)(q:Qc)(m k:Nat)(hp:yd p n c)(hq:yd q m k):Fn Try.prog 12 #[hdV h p n c q m k] (hdV (few20 h) p (min n 20) c q (min m 20) k):=by
 refine Fn.intro (c:=zk Try.f12) [.cell 2 35] 51 Try.func12 kr kr kr fun w=>rS [.b,.a] (St.start w) kr fun gs1 w1 H1=>rS [.v] H1 kr fun gs2 w2 H2=>dS [.v,.v,.l 0,.c (jK h.pa),.v,.v,.l 0,.c (jK h.ro),.v,.v,.l 0,.c (jK h.tx),.v,.v,.l 0,.c (jK h.pr),.v,.v,.l 0,.c (jK h.va),.v,.v,.l 0,.c (jK h.vo),.v,.s 0,.v,.s 0,.v,.s 0,.v,.s 0,.v,.s 0,.v,.s 0] H2 kr fun w3 H3=>dS [.v,.l 0,.v,.l 0,.v,.E (.int .i64 (if (20:Int)<(n:Int) then (20:Int) else (n:Int))) (iN (min n 20)) (ze (by split<;>omega)),.o (ins:=[((.tmp 35),.slice p n c),((.tmp 39),iN (min n 20))]) (v:=.slice p (min n 20) c) (fun ρ o w ho hi=>xJ (t:=22) (e:=9) (size:=1) (bytes:=16) (kd:=.i64) kr (x:=(.tmp 35)) (y:=(.tmp 39)) hp (by omega) ho hi.1 hi.2.1 w),.v,.l 0,.v,.l 0,.v,.E (.int .i64 (if (20:Int)<(m:Int) then (20:Int) else (m:Int))) (iN (min m 20)) (ze (by split<;>omega)),.o (ins:=[((.tmp 42),.slice q m k),((.tmp 46),iN (min m 20))]) (v:=.slice q (min m 20) k) (fun ρ o w ho hi=>xJ (t:=33) (e:=66) (size:=9) (bytes:=72) (kd:=.i64) kr (x:=(.tmp 42)) (y:=(.tmp 46)) hq (by omega) ho hi.1 hi.2.1 w),.v,.s 0,.v,.s 0] H3 kr fun w4 H4=>rS [.l 0,.s 1] H4 kr fun gs5 w5 H5=>?_;exact rR [.cell 2 35] [1] (hdV (few20 h) p (min n 20) c q (min m 20) k) H5 kr
end Go.Proofs.Ytdaeahhkiilbaaa
