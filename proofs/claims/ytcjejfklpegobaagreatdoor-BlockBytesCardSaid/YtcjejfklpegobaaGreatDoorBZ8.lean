/-
  Texts of the proof,part 8.
-/
import Derived.Test.YtcjejfklpegobaaGreatDoorProg
import Derived.Test.YtcjejfklpegobaaGreatDoorBZ2
import Derived.Test.YtcjejfklpegobaaGreatDoorBZ3
import Derived.Test.YtcjejfklpegobaaGreatDoorBZ4
import Derived.Test.YtcjejfklpegobaaGreatDoorBZ5
import Derived.Test.YtcjejfklpegobaaGreatDoorBZ6
import Derived.Test.YtcjejfklpegobaaGreatDoorBZ7
set_option maxRecDepth 100000
set_option maxHeartbeats 4000000
open Go Go.RowKit
open BitVec renaming toNat->Qj,ofNat->Qw,setWidth->Ry,xor_assoc->Vz,xor_zero->VD
open Bool renaming and_eq_true->Qu,eq_false_iff->RE,true_and->UJ
open Go renaming bits->Q2
open Int renaming tmod->UA,fdiv->Vc
open IntKind renaming i64->Qz,u64->QA,u8->QG
open List renaming getD->Qm,length->Qo,getElem?_eq_getElem->Qr,sublist_cons_self->Qt,length_append->Qx,take_of_length_le->Qy,append_assoc->QD,nil_sublist->QE,mem_of_getElem?->QF,append_nil->QI,sublist_append_right->QK,all_eq_true->QN,getD_eq_getElem?_getD->QO,mem_cons_of_mem->QR,perm_append_comm->QV,range->QW,mem_cons_self->QX,mem_append_right->QZ,length_map->Ra,length_take->Rb,mem_append_left->Rd,take->Re,length_cons->Rh,mem_map->Rk,cons_append->Rm,replicate->RB,map_append->RD,nil_append->RS,mem_cons->Uj,getElem?_append_right->Uo,getElem?_take->Ut,length_drop->Uv,drop->UB,drop_of_length_le->UE,map_congr_left->Vo,take_add_one->VC,all_append->VH,set_append_right->VJ,length_set->Wh,getElem?_drop->Wu
open List.Perm renaming cons->QM,swap->Uz
open List.Sublist renaming cons_cons->Qq,cons->Qs,slnil->QS,refl->Rn,append->Vh
open Nat renaming le_of_ble_eq_true->Qp,le_refl->QH,beq->QL,zero_le->QU,zero_add->Q9,mod_eq_of_lt->Rj,beq_refl->RG,mod_lt->RT,pow_succ->RW,pow_le_pow_right->Uh,min_le_left->Vu,sub_self->V7
open Obj renaming cells->Qk
open Prod renaming ext->UN,fst->VR
open UInt8 renaming ofNat->QY,ofBitVec->Ub,toBitVec->US
open Value renaming cells->Qn,int->Q0,string->RQ,bool->RV
open _root_.ByteArray renaming size->Ql,size_extract->Uq
namespace Go.Proofs.YtcjejfklpegobaaGreatDoor
def szM (h:Hdr):Bool:=(decide (h.pa.size=32)&&(decide (h.ro.size=32)&&decide (h.tx.size=32)))&&(decide (h.pr.size=20)&&decide (h.va.size<=8))
theorem zqU (h:Hdr):rightH h=(szM h&&(setM h.vs&&(voteB h.vo h.ad&&(decide (h.ss.length<=16)&&h.ss.all sgMay)))):=by
 unfold rightH szM;cases decide (h.pa.size=32)<;>cases decide (h.ro.size=32)<;>cases decide (h.tx.size=32)<;>cases decide (h.pr.size=20)<;>cases decide (h.va.size<=8)<;>cases setM h.vs<;>cases voteB h.vo h.ad<;>cases decide (h.ss.length<=16)<;>rfl
theorem zqV (h:Hdr)(p:Qc)(n c:Nat)(q:Qc)(m k:Nat):Fn Tryz.prog 54 #[hdV h p n c q m k] (.bool (szM h)):=by
 refine zv [.tmp 2] 33 Tryz.func54 fun w=>rS [.b,.v] (St.start w) kr fun gs1 w1 H1=>?_;by_cases h_pa:h.pa.size=32
 case neg=>
  refine rS [.v,.l 0,.v,itD ((h.pa.size:Nat):Int) 32,.v,.n,.n,.n,.n,.v,.v,.n,.n,.n,.n,.v,.v] H1 kr fun gs2 w2 H2=>rS [.v,.v,.n,.n,.n,.n,.v,.v,.n,.n,.n,.n,.v,.v] H2 kr fun gs3 w3 H3=>?_;exact rRe [.tmp 2] [] (v:=.bool false) (v':=.bool (szM h)) H3 (zc (by unfold szM;rw[decide_eq_false h_pa];first | rfl | simp)) kr
 by_cases h_ro:h.ro.size=32
 case neg=>
  refine rS [.v,.l 0,.v,itQ ((h.pa.size:Nat):Int) 32,.v,.v,.l 0,.v,itD ((h.ro.size:Nat):Int) 32,.v,.v,.n,.n,.n,.n,.v,.v] H1 kr fun gs2 w2 H2=>rS [.v,.v,.n,.n,.n,.n,.v,.v,.n,.n,.n,.n,.v,.v] H2 kr fun gs3 w3 H3=>?_;exact rRe [.tmp 2] [] (v:=.bool false) (v':=.bool (szM h)) H3 (zc (by unfold szM;rw[decide_eq_false h_ro];first | rfl | simp)) kr
 by_cases h_tx:h.tx.size=32
 case neg=>
  refine rS [.v,.l 0,.v,itQ ((h.pa.size:Nat):Int) 32,.v,.v,.l 0,.v,itQ ((h.ro.size:Nat):Int) 32,.v,.v,.v,.l 0,.v,itD ((h.tx.size:Nat):Int) 32,.v,.v] H1 kr fun gs2 w2 H2=>rS [.v,.v,.n,.n,.n,.n,.v,.v,.n,.n,.n,.n,.v,.v] H2 kr fun gs3 w3 H3=>?_;exact rRe [.tmp 2] [] (v:=.bool false) (v':=.bool (szM h)) H3 (zc (by unfold szM;rw[decide_eq_false h_tx];first | rfl | simp)) kr
 by_cases h_pr:h.pr.size=20
 case neg=>
  refine rS [.v,.l 0,.v,itQ ((h.pa.size:Nat):Int) 32,.v,.v,.l 0,.v,itQ ((h.ro.size:Nat):Int) 32,.v,.v,.v,.l 0,.v,itQ ((h.tx.size:Nat):Int) 32,.v,.v] H1 kr fun gs2 w2 H2=>rS [.v,.v,.v,.l 0,.v,itD ((h.pr.size:Nat):Int) 20,.v,.v,.n,.n,.n,.n,.v,.v] H2 kr fun gs3 w3 H3=>?_;exact rRe [.tmp 2] [] (v:=.bool false) (v':=.bool (szM h)) H3 (zc (by unfold szM;rw[decide_eq_false h_pr];first | rfl | simp)) kr
 by_cases h_va:h.va.size<=8
 case neg=>
  refine rS [.v,.l 0,.v,itQ ((h.pa.size:Nat):Int) 32,.v,.v,.l 0,.v,itQ ((h.ro.size:Nat):Int) 32,.v,.v,.v,.l 0,.v,itQ ((h.tx.size:Nat):Int) 32,.v,.v] H1 kr fun gs2 w2 H2=>rS [.v,.v,.v,.l 0,.v,itQ ((h.pr.size:Nat):Int) 20,.v,.v,.v,.l 0,.v,itF (((h.va.size:Nat):Int)<=8),.v,.v] H2 kr fun gs3 w3 H3=>?_;exact rRe [.tmp 2] [] (v:=.bool false) (v':=.bool (szM h)) H3 (zc (by unfold szM;rw[decide_eq_false h_va];first | rfl | simp)) kr
 refine rS [.v,.l 0,.v,itQ ((h.pa.size:Nat):Int) 32,.v,.v,.l 0,.v,itQ ((h.ro.size:Nat):Int) 32,.v,.v,.v,.l 0,.v,itQ ((h.tx.size:Nat):Int) 32,.v,.v] H1 kr fun gs2 w2 H2=>rS [.v,.v,.v,.l 0,.v,itQ ((h.pr.size:Nat):Int) 20,.v,.v,.v,.l 0,.v,itT (((h.va.size:Nat):Int)<=8),.v,.v] H2 kr fun gs3 w3 H3=>?_;exact rRe [.tmp 2] [] (v:=.bool true) (v':=.bool (szM h)) H3 (zc (by unfold szM;rw[decide_eq_true h_pa,decide_eq_true h_ro,decide_eq_true h_tx,decide_eq_true h_pr,decide_eq_true h_va];first | rfl | simp)) kr
theorem zqW (p:Qc)(n c:Nat)(L:Qi)(hL:L.length<=1000000):FnP Tryz.prog 55 #[.slice p n c] (fun w=>AtF sS w p n L) (.bool (setM L)):=by
 refine zR [.tmp 2] 37 Tryz.func55 fun w hP=>?_;have hn:=hP.1;have H0:=St.start w;refine rS [.v] H0 kr fun gs1 w1 H1=>za kr ?_;by_cases h0:n=0
 ·refine rS [.v,.v,itQ (n:Int) 0,.v,.n,.n,.n,.v] H1 kr fun gs2 w2 H2=>zJ<|rS [.v] H2 kr fun gs3 w3 H3=>?_;exact rRe [.tmp 2] [] (v:=.bool false) (v':=.bool (setM L)) H3 (zc (by unfold setM;rw[<-hn,decide_eq_false (show ¬0<n by omega)];simp)) kr
 by_cases h16:n<=16
 case neg=>
  refine rS [.v,.v,itD (n:Int) 0,.v,.v,.v,itT ((n:Int)>16),.v] H1 kr fun gs2 w2 H2=>zJ<|rS [.v] H2 kr fun gs3 w3 H3=>?_;exact rRe [.tmp 2] [] (v:=.bool false) (v':=.bool (setM L)) H3 (zc (by unfold setM;rw[<-hn,decide_eq_false h16];simp)) kr
 refine rS [.v,.v,itD (n:Int) 0,.v,.v,.v,itF ((n:Int)>16),.v] H1 kr fun gs2 w2 H2=>yh<|wW<|za kr<|rS [.v,.v,.v] H2 kr fun gs3 w3 H3=>yR 15 14 16 36 0 1 n (by omega) (fun i ρ ww=>xD none L=xD (xG L i) (L.drop i)/\St w.heap.size w ww []/\Is [(0,.slice p n c),(13,.slice p n c),(14,iN n),(15,iN i)] ρ) (by rintro i _ ww ⟨_,_,_,rfl⟩;exact⟨kr,kr⟩) ⟨rfl,H3.as kr,isK⟩ ?_ ?_
 ·clear H0 H1 H2 H3;rintro i _ w4 hi ⟨hst,H5,_,rfl⟩;obtain⟨x,hx⟩:∃x,L[i]? =some x:=⟨_,Qr (by omega)⟩
  obtain⟨bl,off,C,T,fz,hp,hh,hR⟩:=hP.row2 (by omega);have hcx:C[off+i*1]? =some (.string x):=hR.cell hx 0 (by decide);rw[zcw hx]at hst;change xD none L=(decide (x.size=20)&&(upB (xG L i) x&&xD (some x) (L.drop (i+1))))at hst;refine rS [.v,itX 13 15 23 9 1 16 bl off n c i hp,.fs (off:=off+i*1) (v:=.string x) hh (zo hh) hcx,.v,.v] H5 kr fun gs5 w6 H7=>?_;by_cases h1:x.size=20
  case neg=>
   refine rS [.v,.v,.E (.bool (!((x.size:Int)==20))) (.bool true) (zc (by rw[beq_eq_false_iff_ne.2 (by omega)];rfl)),.v,.n,.n,.n,.n,.n,.n,.n,.n,.n,.n,.n,.v] H7 kr fun gs6 w7 H8=>zJ<|rS [.v] H8 kr fun gs7 w8 H9=>?_;exact rRe [.tmp 2] [] (v:=.bool false) (v':=.bool (setM L)) H9 (zc (by unfold setM;rw[hst,decide_eq_false h1];rfl)) kr
  rw[decide_eq_true h1]at hst;by_cases h0:i=0
  ·have hup:upB (xG L i) x=true:=by subst h0;rfl
   refine rS [.v,.v,.E (.bool (!((x.size:Int)==20))) (.bool false) (zc (by rw[beq_iff_eq.2 (show (x.size:Int)=20 by omega)];rfl)),.v,.v,itF ((i:Int)>0),.v,.n,.n,.n,.n,.n,.n,.n,.v,.v] H7 kr fun gs6 w7 H8=>yh ?_;exact⟨kr,by rw[zcC hx,hst,hup];rfl,H8.as kr,isK⟩
  ·obtain⟨y,hy⟩:∃y,L[i-1]? =some y:=⟨_,Qr (by omega)⟩
   have hcell:C[off+(i-1)*1]? =some (.string y):=hR.cell hy 0 (by decide);have hpv:upB (xG L i) x=lexB (tl y) (tl x):=by unfold xG;rw[if_neg h0,hy];rfl
   rw[hpv]at hst;cases hup:lexB (tl y) (tl x) with
   | false=>
    refine rS [.v,.v,.E (.bool (!((x.size:Int)==20))) (.bool false) (zc (by rw[beq_iff_eq.2 (show (x.size:Int)=20 by omega)];rfl)),.v,.v,itT ((i:Int)>0),.v,.v,.v,.E (.int .i64 (Qz.wrap ((i:Int)-1))) (iN (i-1)) (zf (kZ (a:=i) (b:=1) (by omega))),itX 27 29 23 9 1 16 bl off n c (i-1) hp,.fs (off:=off+(i-1)*1) (v:=.string y) hh (zo hh) hcell,.v,.E (.bool (!(Op.bytesLess y.toList x.toList))) (.bool true) (zc (by rw[zek,hup];rfl)),.v,.v] H7 kr fun gs6 w7 H8=>zJ<|rS [.v] H8 kr fun gs7 w8 H9=>?_;exact rRe [.tmp 2] [] (v:=.bool false) (v':=.bool (setM L)) H9 (zc (by unfold setM;rw[hst,hup];rfl)) kr
   | true=>
    refine rS [.v,.v,.E (.bool (!((x.size:Int)==20))) (.bool false) (zc (by rw[beq_iff_eq.2 (show (x.size:Int)=20 by omega)];rfl)),.v,.v,itT ((i:Int)>0),.v,.v,.v,.E (.int .i64 (Qz.wrap ((i:Int)-1))) (iN (i-1)) (zf (kZ (a:=i) (b:=1) (by omega))),itX 27 29 23 9 1 16 bl off n c (i-1) hp,.fs (off:=off+(i-1)*1) (v:=.string y) hh (zo hh) hcell,.v,.E (.bool (!(Op.bytesLess y.toList x.toList))) (.bool false) (zc (by rw[zek,hup];rfl)),.v,.v] H7 kr fun gs6 w7 H8=>yh ?_;exact⟨kr,by rw[zcC hx,hst,hup];rfl,H8.as kr,isK⟩
 ·rintro _ w4 ⟨hst,H5,_,rfl⟩;rw[UE (by omega)]at hst;refine wW<|rS [.v] H5 kr fun gs6 w7 H8=>?_;exact rRe [.tmp 2] [] (v:=.bool true) (v':=.bool (setM L)) H8 (zc (by unfold setM;rw[hst,<-hn,decide_eq_true (show 0<n by omega),decide_eq_true h16];rfl)) kr
theorem zqX (h:Hdr)(p:Qc)(n c:Nat)(q:Qc)(m k:Nat):Fn Tryz.prog 56 #[hdV h p n c q m k] (.bool (voteB h.vo h.ad)):=by
 refine zv [.tmp 2] 17 Tryz.func56 fun w=>rS [.b,.v] (St.start w) kr fun gs1 w1 H1=>?_;by_cases h1:h.vo.size=20
 ·refine rS [.v,.l 0,.v,itQ ((h.vo.size:Nat):Int) 20,.v,.n,.n,.n,.n,.n,.n,.n,.n,.v,.v] H1 kr fun gs2 w2 H2=>?_;exact rRe [.tmp 2] [] (v:=.bool true) (v':=.bool (voteB h.vo h.ad)) H2 (zc (by unfold voteB;rw[if_neg (by omega),decide_eq_true h1])) kr
 by_cases h0:h.vo=em
 ·refine rS [.v,.l 0,.v,itD ((h.vo.size:Nat):Int) 20,.v,.v,.l 0,.E (.bool (h.vo.toList==em.toList)) (.bool true) (zc (xu _ _ h0)),.v,.v,.l 0,.v,.v,.v,.v] H1 kr fun gs2 w2 H2=>?_;exact rRe [.tmp 2] [] (v:=.bool (!h.ad)) (v':=.bool (voteB h.vo h.ad)) H2 (zc (by unfold voteB;rw[if_pos (by rw[h0];rfl)])) kr
 ·have h00:h.vo.size≠0:=fun e=>h0 (jN e);refine rS [.v,.l 0,.v,itD ((h.vo.size:Nat):Int) 20,.v,.v,.l 0,.E (.bool (h.vo.toList==em.toList)) (.bool false) (zc (jG _ _ h0)),.v,.n,.n,.n,.v,.v,.v] H1 kr fun gs2 w2 H2=>?_;exact rRe [.tmp 2] [] (v:=.bool false) (v':=.bool (voteB h.vo h.ad)) H2 (zc (by unfold voteB;rw[if_neg h00,decide_eq_false h1])) kr
theorem zqY (p:Qc)(n c:Nat)(L:List Sg)(hL:L.length<=1000)(ho: ∀x∈L,sgOk x):FnP Tryz.prog 57 #[.slice p n c] (fun w=>AtF sgF w p n L) (.bool (decide (L.length<=16)&&L.all sgMay)):=by
 refine zR [.tmp 2] 24 Tryz.func57 fun w hP=>?_;have hn:=hP.1;rw[<-hn];have H0:=St.start w;refine rS [.v] H0 kr fun gs1 w1 H1=>za kr ?_;by_cases h16:n<=16
 case neg=>
  refine rS [.v,.v,itT ((n:Int)>16)] H1 kr fun gs2 w2 H2=>zJ<|rS [.v] H2 kr fun gs3 w3 H3=>?_;exact rRe [.tmp 2] [] (v:=.bool false) (v':=.bool (decide (n<=16)&&L.all sgMay)) H3 (zc (by rw[decide_eq_false h16];rfl)) kr
 refine rS [.v,.v,itF ((n:Int)>16)] H1 kr fun gs2 w2 H2=>yh<|wW ?_;rw[decide_eq_true h16,UJ];refine za kr<|rS [.v,.v,.v] H2 kr fun gs3 w3 H3=>yR 12 11 13 23 0 1 n (by omega) (fun i ρ ww=>(L.take i).all sgMay=true/\St w.heap.size w ww []/\Is [(10,.slice p n c),(11,iN n),(12,iN i)] ρ) (by rintro i _ ww ⟨_,_,_,rfl⟩;exact⟨kr,kr⟩) ⟨rfl,H3.as kr,isK⟩ ?_ ?_
 ·clear H0 H1 H2 H3;rintro i _ w7 hi ⟨hst,H7,_,rfl⟩;obtain⟨x,hx⟩:∃x,L[i]? =some x:=⟨_,Qr (by omega)⟩
  obtain⟨bl,off,C,T,fz,hp,hh,hR⟩:=hP.row2 (by omega);have hxm:=QF hx;have hxo:=ho x hxm;refine rS [itX 10 12 24 52 9 72 bl off n c i hp,.fp (off:=off+i*9) (n:=9) (W:=sgC x) hh (zo hh) (hR _ _ hx).1 (hR _ _ hx).2,.a,.s 0] H7 kr fun gs7 w8 H8=>?_;cases hmy:sgMay x with
  | false=>
   refine rS [.l 0,.c (zh7 x.1 x.2.1 hxo.1 hxo.2 x.2.2 hmy),.v,.v,.v,.v,.v] H8 kr fun gs8 w9 H9=>rS [.v,.v] H9 kr fun gs9 w10 H10=>zJ<|rS [.v] H10 kr fun gs10 w11 H11=>?_;exact rRe [.tmp 2] [] (v:=.bool false) (v':=.bool (L.all sgMay)) H11 (congrArg RV (RE.2 fun e=>by have:=QN.1 e x hxm;rw[hmy]at this;cases this).symm) kr
  | true=>
   refine rS [.l 0,.c (zed x.1 x.2.1 hxo.1 hxo.2 x.2.2 hmy),.v,.v,.v,.v,.v] H8 kr fun gs8 w9 H9=>rS [.v,.v] H9 kr fun gs9 w10 H10=>yh ?_;exact⟨kr,by rw[yZ hx,VH,hst];simp[hmy],(H10.as (l:=[((gs7 2).b,sgO x)]) kr).sub (QE _),isK⟩
 ·rintro _ w7 ⟨hst,H7,_,rfl⟩;refine wW ?_;rw[Qy (by omega)]at hst;refine rS [.v] H7 kr fun gs7 w8 H8=>?_;exact rRe [.tmp 2] [] (v:=.bool true) (v':=.bool (L.all sgMay)) H8 (congrArg RV hst.symm) kr
theorem zeP (h:Hdr)(o:ub h)(p:Qc)(n c:Nat)(q:Qc)(m k:Nat):FnP Tryz.prog 29 #[hdV h p n c q m k] (fun w=>qG w h p n q m) (.bool (rightH h)):=by
 have hvl:=o.vl;have hsl:=o.sl;have hsz:=zqV h p n c q m k;have hst:=zqW p n c h.vs (by omega);have hvt:=zqX h p n c q m k;have hse:=zqY q m k h.ss hsl o.ss;rw[zqU h];refine zR [.tmp 2] 19 Tryz.func29 fun w hP=>rS [.b,.v] (St.start w) kr fun gs1 w1 H1=>?_;generalize szM h=b1 at*;generalize setM h.vs=b2 at*;generalize voteB h.vo h.ad=b3 at*;generalize (decide (h.ss.length<=16)&&h.ss.all sgMay)=b4 at*;cases b1 with
 | false=>
  refine rS [.l 0,.c hsz,.v,.n,.n,.n,.v,.v,.n,.n,.v,.v,.n,.n,.n,.v,.v] H1 kr fun gs2 w2 H2=>?_;exact rR [.tmp 2] [] (.bool false) H2 kr
 | true=>
  cases b2 with
  | false=>
   refine rS [.l 0,.c hsz,.v,.v,.l 0,.cp (pre:=fun w=>AtF sS w p n h.vs) hst [] (fun w hb hd=>hP.1.call hb),.v,.v,.n,.n,.v,.v,.n,.n,.n,.v,.v] H1 kr fun gs2 w2 H2=>?_;exact rR [.tmp 2] [] (.bool false) H2 kr
  | true=>
   cases b3 with
   | false=>
    refine rS [.l 0,.c hsz,.v,.v,.l 0,.cp (pre:=fun w=>AtF sS w p n h.vs) hst [] (fun w hb hd=>hP.1.call hb),.v,.v,.l 0,.c hvt,.v,.v,.n,.n,.n,.v,.v] H1 kr fun gs2 w2 H2=>?_;exact rR [.tmp 2] [] (.bool false) H2 kr
   | true=>
    refine rS [.l 0,.c hsz,.v,.v,.l 0,.cp (pre:=fun w=>AtF sS w p n h.vs) hst [] (fun w hb hd=>hP.1.call hb),.v,.v,.l 0,.c hvt,.v,.v,.v,.l 0,.cp (pre:=fun w=>AtF sgF w q m h.ss) hse [] (fun w hb hd=>hP.2.call hb),.v,.v] H1 kr fun gs2 w2 H2=>?_;exact rR [.tmp 2] [] (.bool b4) H2 kr
section
variable {P:Program}{N:Nat}{c:Code}{Q:Exit->Env->World->Prop}{ρ:Env}{w:World}
def zaY (c:Code):Code:=zH (zH (xE c))
def uS (c:Code):Code:=zy (zH (xE c))
def zeQ (c:Code):Code:=qR (zH (zy (xE c)))
def uT (c:Code):Code:=zy (zy (xE c))
def zeR (nt ni b0 b1:Nat)(c:Code):Bool:=
 ua (uj c) b0&&(uX (qR c)&&(qo (xE c)&&(qo (zH (xE c))&&(vZ nt (zaY c)&&(kx (uS c)&&(uk (ku (uS c))&&(ua (za6 (kw (uS c))) b0&&(qo (zy (xE c))&&(ua (uj (zH (zy (xE c)))) b1&&vZ ni (uT c))))))))))
theorem zqZ {ti b0 b1 tc nt ni n:Nat}{tst:Nat->Env->Env}{inc:Nat->Env->Env}(I:Nat->Env->World->Prop)
 (hs:zeR nt ni b0 b1 c=true) (hx:jQ (uS c)=.tmp tc)
 (hT: ∀i ρ w K,I i ρ w->K (tst i ρ) w->WPs P N (zp (zaY c)) K (QW nt) ρ w) (hv: ∀i ρ w,I i ρ w->tst i ρ tc=.bool (decide ((i:Int)<(n:Int))))
 (hJ: ∀i ρ w K,i<n->ρ ti=iN i->K (inc i ρ) w->WPs P N (zp (uT c)) K (QW ni) ρ w)
 (h0:I 0 ρ w) (hb: ∀i ρ w,i<n->I i ρ w->WP P N (zeQ c) (zcB ti b0 b1 (inc i) I Q i) (tst i ρ) w) (he: ∀ρ w,I n ρ w->Q .normal (tst n ρ) w):WP P N c Q ρ w:=by
 unfold zeR at hs;simp only[Qu]at hs;obtain⟨s1,s2,s3,s4,s5,s6,s7,s8,s9,s10,s11⟩:=hs;obtain⟨id1,e1,l1⟩:=zcA s5;obtain⟨id2,e2,l2⟩:=zcA s11;refine zm b0 (uM s1)<|zO s2 (fun m ρ w=> ∃i,n-i=m/\i<=n/\I i ρ w) n ⟨0,rfl,QU _,h0⟩ ?_;rintro m ρ w ⟨i,rfl,hin,hI⟩;refine za s3<|za s4 ?_;show WP P N (zaY c) _ ρ w;rw[e1];refine WP.region _ l1<|hT i ρ w _ hI ?_;show WP P N (uS c) _ (tst i ρ) w;have hval:=hv i ρ w hI;by_cases hi:i<n
 ·refine zh s6 (by rw[hx];show tst i ρ tc=_;rw[hval,decide_eq_true (by omega)])<|zj s7 ?_;show WP P N (zy (xE c)) _ (tst i ρ) w;refine za s9<|zm b1 (uM s10) ?_;have hfin: ∀(Q3:Exit->Env->World->Prop) ρ' w',(ρ' ti=iN i/\I (i+1) (inc i ρ') w')->WP P N (uT c) (nx (fun ρ' w'=> ∃m,m<n-i/\∃i,n-i=m/\i<=n/\I i ρ' w') Q3) ρ' w':=fun Q3 ρ' w' h=>by
   rw[e2];refine WP.region _ l2 ?_;exact hJ i ρ' w' _ hi h.1 ⟨n-(i+1),by omega,i+1,rfl,by omega,h.2⟩
  refine qS (hb i ρ w hi hI) fun e ρ' w' h=>?_;cases e with
  | normal=>exact hfin _ ρ' w' h
  | exit k=>
   show bif QL k b1 then _ else _;change (bif QL k b1 then _ else _)at h;cases hk:QL k b1 with
   | true=>rw[hk]at h;exact hfin _ ρ' w' h
   | false=>rw[hk]at h;exact h
  | _=>exact h
 ·obtain rfl:i=n:=by omega
  refine zi s6 (by rw[hx];show tst i ρ tc=_;rw[hval,decide_eq_false (by omega)])<|zE b0 (uM s8) ?_;show bif QL b0 b0 then _ else _;rw[RG];exact he ρ w hI
abbrev zjl (ti tk tj i:Nat)(ρ:Env):Env:=upd (upd (upd ρ tk (iN i)) tj (iN (i+1))) ti (iN (i+1))
abbrev zaZ (tm tc i:Nat)(b:Bool)(ρ:Env):Env:=upd (upd ρ tm (iN i)) tc (.bool b)
theorem uU (ti tm tc tk tj b0 b1 n:Nat)(I:Nat->Env->World->Prop)(h0:I 0 ρ w)
 (hb: ∀i ρ w,i<n->I i ρ w->WP P N (zeQ c) (zcB ti b0 b1 (zjl ti tk tj i) I Q i) (zaZ tm tc i true ρ) w) (he: ∀ρ w,I n ρ w->Q .normal (zaZ tm tc n false ρ) w)
 (hI: ∀i ρ w,I i ρ w->ρ ti=iN i:=by rintro i _ ww ⟨_,_,rfl⟩;exact kr)
 (hn:n<=0x4000000000000000:=by decide)
 (hs:zeR 2 3 b0 b1 c=true:=by kernel_rfl) (hx:jQ (uS c)=.tmp tc:=by kernel_rfl)
 (h1: ∀(ρ0:Env) (v:Value) w,opv P (zp (zaY c)) 0 (upd ρ0 ti v) w=some (some tm,true,.ok (.value v) w):=by intro ρ0 v w;kernel_rfl)
 (h2: ∀(ρ0:Env) (i:Nat) w,opv P (zp (zaY c)) 1 (upd ρ0 tm (iN i)) w=some (some tc,true,.ok (.value (.bool (decide ((i:Int)<(n:Int))))) w):=by intro ρ0 i w;kernel_rfl)
 (h3: ∀(ρ0:Env) (v:Value) w,opv P (zp (uT c)) 0 (upd ρ0 ti v) w=some (some tk,true,.ok (.value v) w):=by intro ρ0 v w;kernel_rfl)
 (h4: ∀(ρ0:Env) (i:Nat) w,opv P (zp (uT c)) 1 (upd ρ0 tk (iN i)) w=some (some tj,true,.ok (.value (.int .i64 (Qz.wrap ((i:Int)+1)))) w):=by intro ρ0 i w;kernel_rfl)
 (h5: ∀(ρ0:Env) (v:Value) w,opv P (zp (uT c)) 2 (upd ρ0 tj v) w=some (some ti,true,.ok (.value v) w):=by intro ρ0 v w;kernel_rfl)
 (hd:(dOK (some tm) N&&(dOK (some tc) N&&(dOK (some tk) N&&(dOK (some tj) N&&dOK (some ti) N))))=true:=by kernel_rfl):WP P N c Q ρ w:=by
 simp only[Qu]at hd;obtain⟨d1,d2,d3,d4,d5⟩:=hd;refine zqZ (ti:=ti) (tst:=fun i ρ=>zaZ tm tc i (decide ((i:Int)<(n:Int))) ρ) (inc:=zjl ti tk tj) (n:=n) I hs hx (fun i ρ w K h k=>?_) (fun i ρ w h=>?_) (fun i ρ w K hi h k=>?_) h0 (fun i ρ w hi h=>?_) (fun ρ w h=>?_)
 ·have e:upd ρ ti (iN i)=ρ:=kX (hI i ρ w h);refine jv (some tm) (iN i) (fun w=>e▸h1 ρ (iN i) w) d1<|jv (some tc) _ (fun w=>h2 ρ i w) d2 ?_;exact zb k
 ·show upd _ tc _ tc=_;unfold upd;rw[RG];rfl
 ·have e:upd ρ ti (iN i)=ρ:=kX h;refine jv (some tk) (iN i) (fun w=>e▸h3 ρ (iN i) w) d3<|qZ (some tj) _ (iN (i+1)) (fun w=>h4 ρ i w) (zf (ya (a:=i) (b:=1) (by omega))) d4<|jv (some ti) (iN (i+1)) (fun w=>h5 _ (iN (i+1)) w) d5 ?_;exact zb k
 ·show WP P N (zeQ c) _ (zaZ tm tc i (decide ((i:Int)<(n:Int))) ρ) w;rw[decide_eq_true (show (i:Int)<(n:Int) by omega)];exact hb i ρ w hi h
 ·show Q .normal (zaZ tm tc n (decide ((n:Int)<(n:Int))) ρ) w;rw[decide_eq_false (show ¬(n:Int)<(n:Int) by omega)];exact he ρ w h
end
end Go.Proofs.YtcjejfklpegobaaGreatDoor
namespace Go.Proofs.Kec
end Go.Proofs.Kec
namespace Go.Proofs.YtcjejfklpegobaaGreatDoor
namespace Ke
open Go.Proofs.Kec
def uvT:Nat->Nat×Nat
 | 0=>(1,0)
 | t+1=>((uvT t).2,(2*(uvT t).1+3*(uvT t).2)%5)
theorem zjm: ∀t,(uvT t).1<5/\(uvT t).2<5
 | 0=>by decide
 | t+1=>⟨(zjm t).2,RT _ (by decide)⟩
def kU (x y:Nat):Nat:=match (QW 24).find? (fun t=>uvT t==(x,y)) with | some t=>(t+1)*(t+2) / 2%64 | none=>0
theorem zq0 {x y t:Nat}(ht:t<24)(hno: ∀j,j<t->uvT j≠(x,y))(h1:(uvT t).1=x)(h2:(uvT t).2=y):kU x y=(t+1)*(t+2) / 2%64:=by
 unfold kU;have:(QW 24).find? (fun t=>uvT t==(x,y))=some t:=by
  rw[List.find?_range_eq_some];refine⟨by simp[<-h1,<-h2],by simp[ht],fun j hj=>by simpa using hno j hj⟩
 rw[this]
theorem zq1 {x y:Nat}(hno: ∀j,j<24->uvT j≠(x,y)):kU x y=0:=by
 unfold kU;have:(QW 24).find? (fun t=>uvT t==(x,y))=none:=by
  rw[List.find?_eq_none];intro j hj;simpa using hno j (by simpa using hj)
 rw[this]
def xJ:Nat->Nat
 | 0=>1
 | k+1=>if 2*xJ k>255 then (2*xJ k) ^^^ 369 else 2*xJ k
theorem zq2: ∀r:Fin 512,Q2 .xor .i64 ((r.val:Nat):Int) 369=((r.val ^^^ 369:Nat):Int):=by decide+kernel
theorem zq3: ∀r:Fin 512,255<r.val->r.val ^^^ 369<256:=by decide+kernel
theorem zeS: ∀k,xJ k<256
 | 0=>by decide
 | k+1=>by
  have:=zeS k;unfold xJ;split
  ·exact zq3 ⟨2*xJ k,by omega⟩ (by simp only;omega)
  ·omega
theorem zq4 (k:Nat):Q2 .xor .i64 (((2*xJ k:Nat)):Int) 369=((2*xJ k ^^^ 369:Nat):Int):=zq2 ⟨2*xJ k,by have:=zeS k;omega⟩
def jr (k:Nat):List Nat:=(QW k).map fun j=>xJ j%2
theorem zjn (k:Nat):jr (k+1)=jr k++ [xJ k%2]:=by unfold jr;rw[List.range_succ,RD];rfl
theorem zq5 (k:Nat):(jr k).length=k:=by unfold jr;simp
def xf (i:Nat):Nat->BitVec 64
 | 0=>0
 | j+1=>if (jr 168).getD (j+7*i) 0=1 then xf i j ||| (1 <<< (2^j-1)) else xf i j
theorem zq6: ∀i:Fin 24,xf i.val 7=Kec.marks.getD i.val 0:=by decide+kernel
theorem ue (x y:Nat)(hx:x<100)(hy:y<100):Fn Tryz.prog 124 #[.int .i64 (x:Int),.int .i64 (y:Int)] (.int .i64 ((x%5+5*(y%5):Nat):Int)):=by
 refine zv [.tmp 4] 11 Tryz.func124 fun w=>?_;have H0:=St.start w;refine rS [.v] H0 kr fun gs1 w1 H1=>?_;clear H0;refine rS [.v,.E (.int .i64 (UA (x:Int) 5)) (.int .i64 ((x%5:Nat):Int)) (zf (qw x 5)),.v,.E (.int .i64 (UA (y:Int) 5)) (.int .i64 ((y%5:Nat):Int)) (zf (qw y 5)),.E (.int .i64 (Qz.wrap (5*((y%5:Nat):Int)))) (.int .i64 ((5*(y%5):Nat):Int)) (zf (ja (a:=5) (b:=y%5) (by omega))),.E (.int .i64 (Qz.wrap (((x%5:Nat):Int)+((5*(y%5):Nat):Int)))) (.int .i64 (((x%5)+(5*(y%5)):Nat):Int)) (zf (ya (a:=x%5) (b:=5*(y%5)) (by omega))),.v] H1 kr fun gs2 w2 H2=>?_;clear H1;refine zk kr<|wV ?_;refine⟨[.int .i64 (((x%5)+(5*(y%5)):Nat):Int)],(.tmp (.int .i64 (((x%5)+(5*(y%5)):Nat):Int)) kr .nil),?_,H2.below⟩;rfl
theorem zq7 (x:BitVec 64):Fn Tryz.prog 125 #[.int .u64 (Qj x:Int),.int .i64 0] (.int .u64 (Qj x:Int)):=by
 refine zv [.tmp 4] 18 Tryz.func125 fun w=>?_;have H0:=St.start w;refine rS [.v] H0 kr fun gs1 w1 H1=>?_;clear H0;refine za kr<|rS [.v,.v] H1 kr fun gs2 w2 H2=>?_;clear H1;refine zh kr kr<|rS [.v,.v] H2 kr fun gs3 w3 H3=>?_;clear H2;refine zk kr<|wV ?_;refine⟨[.int .u64 (Qj x:Int)],(.tmp (.int .u64 (Qj x:Int)) kr .nil),?_,H3.below⟩;rfl
theorem left_fn (x:BitVec 64)(n:Nat)(h0:0<n)(hn:n<64):Fn Tryz.prog 125 #[.int .u64 (Qj x:Int),.int .i64 (n:Int)] (.int .u64 (Qj (rl x n):Int)):=by
 refine zv [.tmp 4] 18 Tryz.func125 fun w=>?_;have H0:=St.start w;refine rS [.v] H0 kr fun gs1 w1 H1=>?_;clear H0;refine za kr<|rS [.v,itD (n:Int) 0] H1 kr fun gs2 w2 H2=>?_;clear H1;refine zi kr kr<|zj kr<|wW<|rS [.v,.v,.E (.int .u64 (QA.wrap ((n:Int)))) (.int .u64 (n:Int)) (zf (yw (a:=n) (by omega))),.E (.int .u64 (QA.wrap (((Qj x:Int))*2^(min n 64)))) (.int .u64 (Qj (x <<< n):Int)) (zbi x n),.v,.v,.E (.int .i64 (Qz.wrap (64-(n:Int)))) (.int .i64 ((64-n:Nat):Int)) (zf (kZ (a:=64) (b:=n) (by omega))),.E (.int .u64 (QA.wrap (((64-n:Nat):Int)))) (.int .u64 ((64-n:Nat):Int)) (zf (yw (a:=64-n) (by omega))),.E (.int .u64 (Vc ((Qj x:Int)) (2^(min (64-n) 64)))) (.int .u64 (Qj (x >>> (64-n)):Int)) (zbj x (64-n)),.E (.int .u64 (Q2 .or .u64 ((Qj (x <<< n):Int)) ((Qj (x >>> (64-n)):Int)))) (.int .u64 (Qj ((x <<< n) ||| (x >>> (64-n))):Int)) (zdb (x <<< n) (x >>> (64-n))),.v] H2 kr fun gs3 w3 H3=>?_;clear H2;refine zk kr<|wV ?_;refine⟨[.int .u64 (Qj ((x <<< n) ||| (x >>> (64-n))):Int)],(.tmp (.int .u64 (Qj ((x <<< n) ||| (x >>> (64-n))):Int)) kr .nil),?_,H3.below⟩;rw[<-zhX x n hn];rfl
theorem zq8 (x y:Nat)(hx:x<5)(hy:y<5):Fn Tryz.prog 126 #[.int .i64 (x:Int),.int .i64 (y:Int)] (.int .i64 ((kU x y:Nat):Int)):=by
 refine zv [.tmp 4] 36 Tryz.func126 fun w=>?_;have H0:=St.start w;refine rS [.v] H0 kr fun gs1 w1 H1=>?_;clear H0;refine rS [.v] H1 kr fun gs2 w2 H2=>?_;clear H1;refine rS [.v] H2 kr fun gs3 w3 H3=>?_;clear H2;refine za kr<|rS [.v] H3 kr fun gs4 w4 H4=>?_;clear H3;refine zm 0 kr ?_;have HL1:St w.heap.size w w4 []:=H4.as kr;clear H4;refine zO kr (fun mz ρ ww=> ∃(t:Nat),24-t=mz/\(t<=24)/\(∀j,j<t->uvT j≠(x,y))/\St w.heap.size w ww []/\Is [(0,.int .i64 (x:Int)),(1,.int .i64 (y:Int)),(5,.int .i64 (((uvT t).1:Nat):Int)),(6,.int .i64 (((uvT t).2:Nat):Int)),(7,.int .i64 (t:Int))] ρ) (24-0) ⟨0,rfl,(by omega),(fun j hj=>absurd hj (by omega)),HL1,zl⟩ ?_;clear HL1;rintro _ _ w5 ⟨t,rfl,ht,hno,H5,_,rfl⟩;have hlt:=zjm t;refine za kr<|zd [0,1] kr kr<|rp [.v] H5 kr fun gs6 w6 H6=>wX [1] ?_;clear H5;by_cases hc2:(t:Nat)<24
 ·refine rp [itT ((t:Int)<24)] H6 kr fun gs7 w7 H7=>wX [] ?_;clear H6;refine zb<|zh kr kr<|zj kr<|wW<|za kr<|zm 1 kr<|za kr<|zd [0,1,2,3,4,5,6,7] kr kr<|rp [.v,.v] H7 kr fun gs8 w8 H8=>wX [2,3,4,5,6,7] ?_;clear H7;by_cases hc3:((uvT t).1:Nat)=x
  ·refine rp [.E (.bool ((((uvT t).1:Nat):Int)==(x:Int))) (.bool true) (zc (beq_iff_eq.2 (by omega))),.v,.v,.v] H8 kr fun gs9 w9 H9=>wX [6,7] ?_;clear H8;by_cases hc4:((uvT t).2:Nat)=y
   ·refine rp [.E (.bool ((((uvT t).2:Nat):Int)==(y:Int))) (.bool true) (zc (beq_iff_eq.2 (by omega))),.v] H9 kr fun gs10 w10 H10=>wX [] ?_;clear H9;refine zb<|zh kr kr<|zd [0,1,2,3,4,5,6,7] kr kr<|rp [.v,itI t 1,.v,itI t 2] H10 kr fun gs11 w11 H11=>wX [4,5,6,7] ?_;clear H10;have hmul:(t+1)*(t+2)<=25*26:=Nat.mul_le_mul (by omega) (by omega);refine rp [.E (.int .i64 (Qz.wrap (((t+1:Nat):Int)*((t+2:Nat):Int)))) (.int .i64 (((t+1)*(t+2):Nat):Int)) (zf (ja (a:=t+1) (b:=t+2) (by omega))),.E (.int .i64 (Qz.wrap ((((t+1)*(t+2):Nat):Int).tdiv 2))) (.int .i64 ((((t+1)*(t+2)) / 2:Nat):Int)) (zf (xq (a:=(t+1)*(t+2)) (b:=2) (by omega))),.E (.int .i64 (UA ((((t+1)*(t+2)) / 2:Nat):Int) 64)) (.int .i64 (((((t+1)*(t+2)) / 2)%64:Nat):Int)) (zf (qw (((t+1)*(t+2)) / 2) 64)),.v] H11 kr fun gs12 w12 H12=>wX [] ?_;clear H11;refine zb<|zk kr<|wV ?_;refine⟨[.int .i64 (((((t+1)*(t+2)) / 2)%64:Nat):Int)],(.tmp (.int .i64 (((((t+1)*(t+2)) / 2)%64:Nat):Int)) kr .nil),?_,H12.below⟩;rw[zq0 (t:=t) (by omega) hno (by omega) (by omega)];rfl
   ·refine rp [.E (.bool ((((uvT t).2:Nat):Int)==(y:Int))) (.bool false) (zc (beq_eq_false_iff_ne.2 (by omega))),.v] H9 kr fun gs13 w13 H13=>wX [] ?_;clear H9;refine zb<|zi kr kr<|zj kr<|wW<|rS [.v,.v] H13 kr fun gs14 w14 H14=>?_;clear H13;refine rS [.v,.E (.int .i64 (Qz.wrap (2*(((uvT t).1:Nat):Int)))) (.int .i64 ((2*((uvT t).1):Nat):Int)) (zf (ja (a:=2) (b:=(uvT t).1) (by omega))),.v,.E (.int .i64 (Qz.wrap (3*(((uvT t).2:Nat):Int)))) (.int .i64 ((3*((uvT t).2):Nat):Int)) (zf (ja (a:=3) (b:=(uvT t).2) (by omega))),.E (.int .i64 (Qz.wrap (((2*((uvT t).1):Nat):Int)+((3*((uvT t).2):Nat):Int)))) (.int .i64 (((2*((uvT t).1))+(3*((uvT t).2)):Nat):Int)) (zf (ya (a:=2*((uvT t).1)) (b:=3*((uvT t).2)) (by omega))),.E (.int .i64 (UA (((2*((uvT t).1))+(3*((uvT t).2)):Nat):Int) 5)) (.int .i64 ((((2*((uvT t).1))+(3*((uvT t).2)))%5:Nat):Int)) (zf (qw ((2*((uvT t).1))+(3*((uvT t).2))) 5)),.v] H14 kr fun gs15 w15 H15=>?_;clear H14;refine zt [0,1,5,6,7,8,10,20] fun ρ1=>?_;have HK5:=H15.keep;clear H15;refine rL [.v,.v] HK5 kr fun gs16 w16 H16=>?_;clear HK5;refine wW<|rL [.v,itI t 1,.v] H16 kr fun gs17 w17 H17=>?_;clear H16;have HL6:St w.heap.size w w17 []:=H17.as kr;clear H17;show ∃m,_/\_;exact⟨_,(by omega),(t+1),rfl,(by omega),(fun j hj=>by rcases Nat.lt_succ_iff_lt_or_eq.1 hj with h | rfl;exact hno j h;intro e;have e1:=congrArg VR e;have e2:=congrArg Prod.snd e;simp only at e1 e2;omega),HL6,zl⟩
  ·refine rp [.E (.bool ((((uvT t).1:Nat):Int)==(x:Int))) (.bool false) (zc (beq_eq_false_iff_ne.2 (by omega))),.v,.n,.n,.n,.v] H8 kr fun gs18 w18 H18=>wX [] ?_;clear H8;refine zb<|zi kr kr<|zj kr<|wW<|rS [.v,.v] H18 kr fun gs19 w19 H19=>?_;clear H18;refine rS [.v,.E (.int .i64 (Qz.wrap (2*(((uvT t).1:Nat):Int)))) (.int .i64 ((2*((uvT t).1):Nat):Int)) (zf (ja (a:=2) (b:=(uvT t).1) (by omega))),.v,.E (.int .i64 (Qz.wrap (3*(((uvT t).2:Nat):Int)))) (.int .i64 ((3*((uvT t).2):Nat):Int)) (zf (ja (a:=3) (b:=(uvT t).2) (by omega))),.E (.int .i64 (Qz.wrap (((2*((uvT t).1):Nat):Int)+((3*((uvT t).2):Nat):Int)))) (.int .i64 (((2*((uvT t).1))+(3*((uvT t).2)):Nat):Int)) (zf (ya (a:=2*((uvT t).1)) (b:=3*((uvT t).2)) (by omega))),.E (.int .i64 (UA (((2*((uvT t).1))+(3*((uvT t).2)):Nat):Int) 5)) (.int .i64 ((((2*((uvT t).1))+(3*((uvT t).2)))%5:Nat):Int)) (zf (qw ((2*((uvT t).1))+(3*((uvT t).2))) 5)),.v] H19 kr fun gs20 w20 H20=>?_;clear H19;refine zt [0,1,5,6,7,8,10,20] fun ρ2=>?_;have HK7:=H20.keep;clear H20;refine rL [.v,.v] HK7 kr fun gs21 w21 H21=>?_;clear HK7;refine wW<|rL [.v,itI t 1,.v] H21 kr fun gs22 w22 H22=>?_;clear H21;have HL8:St w.heap.size w w22 []:=H22.as kr;clear H22;show ∃m,_/\_;exact⟨_,(by omega),(t+1),rfl,(by omega),(fun j hj=>by rcases Nat.lt_succ_iff_lt_or_eq.1 hj with h | rfl;exact hno j h;intro e;have e1:=congrArg VR e;have e2:=congrArg Prod.snd e;simp only at e1 e2;omega),HL8,zl⟩
 ·refine rp [itF ((t:Int)<24)] H6 kr fun gs23 w23 H23=>wX [] ?_;clear H6;refine zb<|zi kr kr<|zE 0 kr<|wW<|rS [.v] H23 kr fun gs24 w24 H24=>?_;clear H23;refine zk kr<|wV ?_;refine⟨[.int .i64 0],(.tmp (.int .i64 0) kr .nil),?_,H24.below⟩;rw[zq1 (fun j hj=>hno j (by omega))];rfl
theorem zq9:FnR Tryz.prog 149 #[.int .i64 168] (fun _=>True) (vK 3 1 (fun cur cap n l=>(n=168/\Rw 1 cur cap n (zW (jr 168))))):=by
 refine vF [.tmp 2] 24 Tryz.func149 fun w hpre=>?_;have H0:=St.start w;refine rS [.v] H0 kr fun gs1 w1 H1=>?_;clear H0;refine rS [.nw (fun b=>Qf b 0 0) #[] 3,.v] H1 kr fun gs2 w2 H2=>?_;clear H1;refine rS [.v] H2 kr fun gs3 w3 H3=>?_;clear H2;refine za kr<|rS [.v] H3 kr fun gs4 w4 H4=>?_;clear H3;refine zm 0 kr ?_;have HL1:St w.heap.size w w4 [((gs2 0).b,Qk #[] 3 (0,0))]:=H4.as kr;clear H4;refine zO kr (fun mz ρ ww=> ∃(b:Nat) (cap:Nat) (n:Nat) (cur:Qd) (k:Nat) (rg:Nat),168-k=mz/\(n=k)/\(Rw 1 cur cap n (zW (jr k)))/\(k<=168)/\(rg=xJ k)/\St w.heap.size w ww [(b,Qk cur 3)]/\Is [(0,.int .i64 ((168:Nat):Int)),(2,.slice none 0 0),(3,Qf b n cap),(4,.int .i64 (rg:Int)),(5,.int .i64 (k:Int))] ρ) (168-0) ⟨(gs2 0).b,0,0,#[],0,1,rfl,rfl,(Rw.lit #[] 0 rfl (by unfold maxLen;omega)),(by omega),rfl,HL1,zl⟩ ?_;clear HL1;rintro _ _ w5 ⟨b,cap,n,cur,k,rg,rfl,hn,hr,hk,hrgk,H5,_,rfl⟩;have hrg:=zeS k;rw[<-hrgk]at hrg;refine za kr<|zd [0,1,2] kr kr<|rp [.v,.v] H5 kr fun gs6 w6 H6=>wX [2] ?_;clear H5;by_cases hc2:(k:Nat)<168
 ·refine rp [itT ((k:Int)<((168:Nat):Int))] H6 kr fun gs7 w7 H7=>wX [] ?_;clear H6;refine zb<|zh kr kr<|zj kr<|wW<|za kr<|zm 1 kr<|zd [0,1,2,3,4,5] kr kr<|rp [.v,.v,.E (.int .i64 (UA (rg:Int) 2)) (.int .i64 ((rg%2:Nat):Int)) (zf (qw rg 2)),.nw (fun b=>Qf b 1 1) #[.int .i64 ((rg%2:Nat):Int)] 3] H7 kr fun gs8 w8 H8=>wX [4,5] ?_;clear H7;refine vI H8 (some 16) 163 3 1 8 (.tmp 12) (.tmp 15) 0 1 b ((gs8 3).b) n 1 cap 1 cur #[.int .i64 ((rg%2:Nat):Int)] 3 (0,0) (zW (jr k)) ([.int .i64 ((rg%2:Nat):Int)]) (fun b_1 cur_3=>[(b_1,Qk cur_3 3),((gs8 3).b,Qk #[.int .i64 ((rg%2:Nat):Int)] 3 (0,0))]) kr kr kr kr kr hr kr kr (by rfl) (by rfl) (by intro u hu;simp at hu;first | exact hu.elim | (rcases hu with rfl | rfl | rfl | rfl<;>rfl) | (rcases hu with rfl | rfl<;>rfl) | (subst hu;rfl)) (by omega) (by unfold maxLen;omega) (fun _ _=>by kernel_rfl) ?_;intro b_1 cap_2 cur_3 w9 H9 hr_4;clear H8;refine rp [.v] H9 kr fun gs10 w10 H10=>wX [] ?_;clear H9;refine zb<|rS [.v,.E (.int .i64 (Qz.wrap (2*(rg:Int)))) (.int .i64 ((2*rg:Nat):Int)) (zf (ja (a:=2) (b:=rg) (by omega))),.v] H10 kr fun gs11 w11 H11=>?_;clear H10;refine zd [0,1] kr kr<|rp [.v] H11 kr fun gs12 w12 H12=>wX [1] ?_;clear H11;by_cases hc3:(2*rg:Nat)>255
  ·refine rp [itT (255<((2*rg:Nat):Int))] H12 kr fun gs13 w13 H13=>wX [] ?_;clear H12;refine zb<|zt [0,2,3,4,5,9,20] fun ρ1=>?_;have HK4:=H13.keep;clear H13;refine zh kr kr<|rL [.v,.E (.int .i64 (Q2 .xor .i64 (((2*rg:Nat)):Int) 369)) (.int .i64 ((2*rg ^^^ 369:Nat):Int)) (zf (by rw[hrgk];exact zq4 k)),.v] HK4 kr fun gs14 w14 H14=>?_;clear HK4;refine wW<|rL [.v,itI k 1,.v] H14 kr fun gs15 w15 H15=>?_;clear H14;have HL5:St w.heap.size w w15 [(b_1,Qk cur_3 3),((gs8 3).b,Qk #[.int .i64 ((rg%2:Nat):Int)] 3 (0,0))]:=H15.as kr;clear H15;have hrow:Rw 1 cur_3 cap_2 (n+1) (zW (jr (k+1))):=by rw[zjn,um,<-hrgk];exact hr_4
   have HD6:St w.heap.size w w15 [(b_1,Qk cur_3 3)]:=HL5.sub (Qq _ (Qs _ QS));show ∃m,_/\_;exact⟨_,(by omega),b_1,cap_2,(n+1),cur_3,(k+1),(2*rg ^^^ 369),rfl,(by omega),hrow,(by omega),(by subst hrgk;exact(if_pos (by omega)).symm),HD6,zl⟩
  ·refine rp [itF (255<((2*rg:Nat):Int))] H12 kr fun gs16 w16 H16=>wX [] ?_;clear H12;refine zb<|zt [0,2,3,4,5,9,20] fun ρ2=>?_;have HK7:=H16.keep;clear H16;refine zi kr kr<|zj kr<|wW<|rL [.v,itI k 1,.v] HK7 kr fun gs17 w17 H17=>?_;clear HK7;have HL8:St w.heap.size w w17 [(b_1,Qk cur_3 3),((gs8 3).b,Qk #[.int .i64 ((rg%2:Nat):Int)] 3 (0,0))]:=H17.as kr;clear H17;have hrow:Rw 1 cur_3 cap_2 (n+1) (zW (jr (k+1))):=by rw[zjn,um,<-hrgk];exact hr_4
   have HD9:St w.heap.size w w17 [(b_1,Qk cur_3 3)]:=HL8.sub (Qq _ (Qs _ QS));show ∃m,_/\_;exact⟨_,(by omega),b_1,cap_2,(n+1),cur_3,(k+1),(2*rg),rfl,(by omega),hrow,(by omega),(by subst hrgk;exact(if_neg (by omega)).symm),HD9,zl⟩
 ·refine rp [itF ((k:Int)<((168:Nat):Int))] H6 kr fun gs18 w18 H18=>wX [] ?_;clear H6;refine zb<|zi kr kr<|zE 0 kr<|wW<|rS [.v,.v] H18 kr fun gs19 w19 H19=>?_;clear H18;refine zk kr<|wV ?_;refine⟨[Qf b n cap],(.tmp (Qf b n cap) kr .nil),H19.below,?_⟩;obtain rfl:k=168:=by omega
  exact⟨b,cap,_,_,[],rfl,H19.ge 0 (o:=.cells cur 3) kr,H19.get 0 kr,⟨hn,hr⟩⟩
theorem zeT {a b:BitVec 64}(h:a=b):Q0 .u64 (Qj a:Int)=.int .u64 (Qj b:Int):=by rw[h]
theorem zra (x:BitVec 64):(0xffffffffffffffff:BitVec 64)-x= ~~~x:=by
 apply BitVec.eq_of_toNat_eq;have:=x.isLt;rw[BitVec.toNat_sub,BitVec.toNat_not];show (0x10000000000000000-x.toNat+0xffffffffffffffff)%0x10000000000000000=0x10000000000000000-1-x.toNat;omega
theorem zrb (i:Nat)(hi:i<24):Fn Tryz.prog 127 #[.int .i64 (i:Int)] (.int .u64 (Qj (xf i 7):Int)):=by
 refine zv [.tmp 2] 28 Tryz.func127 fun w=>?_;have H0:=St.start w;refine rS [.v] H0 kr fun gs1 w1 H1=>?_;clear H0;refine zd [0,1] kr kr<|vL H1 (some 7) 149 #[.int .i64 168] (fun _=>True) 3 1 (fun curZ capZ nZ lZ=>(nZ=168/\Rw 1 curZ capZ nZ (zW (jr 168)))) zq9 trivial kr kr ?_;intro b_1 cap_2 n_3 cur_4 l_5 w2 H2 hs_6;clear H1;have hs_6n:=hs_6.1;refine rp [.v] H2 kr fun gs3 w3 H3=>wX [] ?_;clear H2;refine zb<|rS [.v] H3 kr fun gs4 w4 H4=>?_;clear H3;refine rS [.v] H4 kr fun gs5 w5 H5=>?_;clear H4;refine za kr<|rS [.v] H5 kr fun gs6 w6 H6=>?_;clear H5;refine zm 0 kr ?_;have HL1:St w.heap.size w w6 [(b_1,Qk cur_4 3)]:=H6.as kr;clear H6;refine zO kr (fun mz ρ ww=> ∃(j:Nat) (pl:Nat) (nn:BitVec 64),7-j=mz/\(j<=7)/\(pl=2^j)/\(nn=xf i j)/\St w.heap.size w ww [(b_1,Qk cur_4 3)]/\Is [(0,.int .i64 (i:Int)),(2,wZ),(3,Qf b_1 n_3 cap_2),(4,.int .u64 (Qj nn:Int)),(5,.int .u64 (pl:Int)),(6,.int .i64 (j:Int))] ρ) (7-0) ⟨0,1,0,rfl,(by omega),rfl,rfl,HL1,zl⟩ ?_;clear HL1;rintro _ _ w7 ⟨j,pl,nn,rfl,hj,hpl,hnn,H7,_,rfl⟩;have hp1:1<=pl:=by rw[hpl];exact Nat.one_le_two_pow
 have hp2:pl<=128:=by rw[hpl];exact Uh (by omega) hj
 refine za kr<|zd [0,1] kr kr<|rp [.v] H7 kr fun gs8 w8 H8=>wX [1] ?_;clear H7;by_cases hc2:(j:Nat)<7
 ·refine rp [itT ((j:Int)<7)] H8 kr fun gs9 w9 H9=>wX [] ?_;clear H8;refine zb<|zh kr kr<|zj kr<|wW<|za kr<|zm 1 kr<|za kr<|zd [0,1,2,3,4,5,6,7] kr kr<|rp [.v,.v,.v,.E (.int .i64 (Qz.wrap (7*(i:Int)))) (.int .i64 ((7*i:Nat):Int)) (zf (ja (a:=7) (b:=i) (by omega))),.E (.int .i64 (Qz.wrap ((j:Int)+((7*i:Nat):Int)))) (.int .i64 ((j+(7*i):Nat):Int)) (zf (ya (a:=j) (b:=7*i) (by omega))),itX 12 16 163 3 1 8 b_1 0 n_3 cap_2 (j+(7*i)) rfl,.ls (C:=cur_4) (off:=0+(j+(7*i))*1) (v:=.int .i64 ((Qm (jr 168) (j+(7*i)) 0:Nat):Int)) 0 (hs_6.2.atD (by omega) (by rw[zq5];exact hs_6.1))] H9 kr fun gs10 w10 H10=>wX [7] ?_;clear H9;by_cases hc3:(Qm (jr 168) (j+(7*i)) 0:Nat)=1
  ·refine rp [.E (.bool (((Qm (jr 168) (j+(7*i)) 0:Nat):Int)==1)) (.bool true) (zc (beq_iff_eq.2 (by omega)))] H10 kr fun gs11 w11 H11=>wX [] ?_;clear H10;refine zb<|zh kr kr<|rL [.v,.v,.E (.int .u64 (QA.wrap ((pl:Int)-1))) (.int .u64 ((pl-1:Nat):Int)) (zf (zfE (a:=pl) (b:=1) (by omega))),.E (.int .u64 (QA.wrap ((1)*2^(min (pl-1) 64)))) (.int .u64 (Qj ((1:BitVec 64) <<< (pl-1)):Int)) (zbi (1:BitVec 64) (pl-1)),.E (.int .u64 (Q2 .or .u64 ((Qj nn:Int)) ((Qj ((1:BitVec 64) <<< (pl-1)):Int)))) (.int .u64 (Qj (nn ||| ((1:BitVec 64) <<< (pl-1))):Int)) (zdb nn ((1:BitVec 64) <<< (pl-1))),.v] H11 kr fun gs12 w12 H12=>?_;clear H11;refine wW<|zt [0,2,3,4,5,6,9,19] fun ρ1=>?_;have HK4:=H12.keep;clear H12;refine rL [.v,.E (.int .u64 (QA.wrap (2*(pl:Int)))) (.int .u64 ((2*pl:Nat):Int)) (zf (jx (a:=2) (b:=pl) (by omega))),.v] HK4 kr fun gs13 w13 H13=>?_;clear HK4;refine wW<|rL [.v,itI j 1,.v] H13 kr fun gs14 w14 H14=>?_;clear H13;have HL5:St w.heap.size w w14 [(b_1,Qk cur_4 3)]:=H14.as kr;clear H14;show ∃m,_/\_;exact⟨_,(by omega),(j+1),(2*pl),(nn ||| ((1:BitVec 64) <<< (pl-1))),rfl,(by omega),(by rw[hpl,RW];omega),(by subst hnn hpl;exact(if_pos (by assumption)).symm),HL5,zl⟩
  ·refine rp [.E (.bool (((Qm (jr 168) (j+(7*i)) 0:Nat):Int)==1)) (.bool false) (zc (beq_eq_false_iff_ne.2 (by omega)))] H10 kr fun gs15 w15 H15=>wX [] ?_;clear H10;refine zb<|zi kr kr<|zj kr<|wW<|rL [.v,.E (.int .u64 (QA.wrap (2*(pl:Int)))) (.int .u64 ((2*pl:Nat):Int)) (zf (jx (a:=2) (b:=pl) (by omega))),.v] H15 kr fun gs16 w16 H16=>?_;clear H15;refine wW<|zt [0,2,3,4,5,6,9,19] fun ρ2=>?_;have HK6:=H16.keep;clear H16;refine rL [.v,itI j 1,.v] HK6 kr fun gs17 w17 H17=>?_;clear HK6;have HL7:St w.heap.size w w17 [(b_1,Qk cur_4 3)]:=H17.as kr;clear H17;show ∃m,_/\_;exact⟨_,(by omega),(j+1),(2*pl),(nn),rfl,(by omega),(by rw[hpl,RW];omega),(by subst hnn hpl;exact(if_neg (by assumption)).symm),HL7,zl⟩
 ·refine rp [itF ((j:Int)<7)] H8 kr fun gs18 w18 H18=>wX [] ?_;clear H8;refine zb<|zi kr kr<|zE 0 kr<|wW<|rS [.v,.v] H18 kr fun gs19 w19 H19=>?_;clear H18;refine zk kr<|wV ?_;refine⟨[.int .u64 (Qj nn:Int)],(.tmp (.int .u64 (Qj nn:Int)) kr .nil),?_,H19.below⟩;obtain rfl:j=7:=by omega
  rw[hnn];rfl
def yt (n:Nat)(f:Nat->BitVec 64):Value:=.agg (qd n fun j=>.int .u64 (Qj (f j):Int)).toArray
theorem zeU {n:Nat}(f:Nat->BitVec 64){k off:Nat}(ho:off=0+k*1)(hk:k<n):(Qn (yt n f))[off]? =some (.int .u64 (Qj (f k):Int)):=
 zko (pre:=[]) (post:=[]) (n:=n) (f:=fun j=>.int .u64 (Qj (f j):Int)) (by show qd n _=[]++qd n _++ [];simp) (by simpa using ho) hk
theorem zrc {n:Nat}{f g:Nat->BitVec 64}{k off:Nat}{x:BitVec 64}(ho:off=0+k*1)(hk:k<n)(hg: ∀j,j<n->g j=if j=k then x else f j):
 ((Qn (yt n f)).toList.take off++(Q0 .u64 (Qj x:Int)).cells.toList++(Qn (yt n f)).toList.drop (off+(Q0 .u64 (Qj x:Int)).cells.size)).toArray=Qn (yt n g):=by
 rw[zfL (pre:=[]) (post:=[]) (n:=n) (f:=fun j=>.int .u64 (Qj (f j):Int)) (g:=fun j=>.int .u64 (Qj (g j):Int)) (by show qd n _=[]++qd n _++ [];simp) rfl (by simpa using ho) hk (fun j hj=>by rw[hg j hj];split<;>rfl)];simp;rfl
theorem zcS {n:Nat}{f g:Nat->BitVec 64}(h: ∀k,k<n->f k=g k):yt n f=yt n g:=by
 unfold yt qd;rw[Vo fun k hk=>by rw[h k (by simpa using hk)]]
def pS (s:List (BitVec 64))(x:Nat):Nat->BitVec 64
 | 0=>0
 | y+1=>pS s x y ^^^ nth s (x+5*y)
theorem pS5 (s:List (BitVec 64))(x:Nat):pS s x 5=cC s x:=by
 show ((((0 ^^^ nth s x) ^^^ nth s (x+5)) ^^^ nth s (x+10)) ^^^ nth s (x+15)) ^^^ nth s (x+20)=_;rw[show (0:BitVec 64)=0#64 from rfl,BitVec.zero_xor];rfl
def cF (s:List (BitVec 64))(x y k:Nat):BitVec 64:=if k<x then cC s k else if k=x then pS s x y else 0
theorem zrd (s:List (BitVec 64))(x y j:Nat):cF s x (y+1) j=if j=x then cF s x y x ^^^ nth s (x+5*y) else cF s x y j:=by
 unfold cF;by_cases h:j=x
 ·subst h;simp[pS]
 ·rw[if_neg h,if_neg h,if_neg h]
theorem zre (s:List (BitVec 64))(x y:Nat)(h:y=5):yt 5 (cF s x y)=yt 5 (cF s (x+1) 0):=by
 subst h;refine zcS fun k _=>?_;unfold cF;by_cases h1:k<x
 ·rw[if_pos h1,if_pos (by omega)]
 ·rw[if_neg h1];by_cases h2:k=x
  ·rw[if_pos h2,if_pos (by omega),pS5,h2]
  ·rw[if_neg h2,if_neg (by omega)];by_cases h3:k=x+1
   ·rw[if_pos h3];rfl
   ·rw[if_neg h3]
theorem zrf (s:List (BitVec 64))(x:Nat)(h:x=5):yt 5 (cF s x 0)=yt 5 (cC s):=by
 subst h;exact zcS fun k hk=>by unfold cF;rw[if_pos hk]
def rk (k:Nat):Nat:=(3*(k / 5)+k%5)%5*5+k%5
def bF (s:List (BitVec 64))(x y k:Nat):BitVec 64:=if rk k<5*x+y then pI s k else 0
theorem zrg (k:Nat):rk k<25:=by unfold rk;omega
theorem zrh: ∀x,x<5-> ∀y,y<5-> ∀k,k<25->(rk k=5*x+y↔k=y%5+5*((2*x+3*y)%5)):=by decide
theorem zri (s:List (BitVec 64)){x y j:Nat}(hx:x<5)(hy:y<5)(hj:j<25):bF s x (y+1) j=if j=y%5+5*((2*x+3*y)%5) then pI s (y%5+5*((2*x+3*y)%5)) else bF s x y j:=by
 have h:=zrh x hx y hy j hj;unfold bF;by_cases h1:j=y%5+5*((2*x+3*y)%5)
 ·rw[if_pos h1,if_pos (by have:=h.2 h1;omega),<-h1]
 ·rw[if_neg h1];have h2:rk j≠5*x+y:=fun e=>h1 (h.1 e);by_cases h3:rk j<5*x+y
  ·rw[if_pos h3,if_pos (by omega)]
  ·rw[if_neg h3,if_neg (by omega)]
theorem zrj (s:List (BitVec 64))(x y:Nat)(h:y=5):yt 25 (bF s x y)=yt 25 (bF s (x+1) 0):=by subst h;rfl
theorem zrk (s:List (BitVec 64))(x:Nat)(h:x=5):yt 25 (bF s x 0)=yt 25 (pI s):=by
 subst h;exact zcS fun k _=>by unfold bF;rw[if_pos (zrg k)]
def oF (s:List (BitVec 64))(x y k:Nat):BitVec 64:=if k%5*5+k / 5<5*x+y then xI (pI s) k else 0
theorem zrl (s:List (BitVec 64)){x y j:Nat}(hx:x<5)(hy:y<5)(hj:j<25):oF s x (y+1) j=if j=x+5*y then xI (pI s) (x+5*y) else oF s x y j:=by
 unfold oF;by_cases h1:j=x+5*y
 ·rw[if_pos h1,if_pos (by omega),h1]
 ·rw[if_neg h1];by_cases h3:j%5*5+j / 5<5*x+y
  ·rw[if_pos h3,if_pos (by omega)]
  ·rw[if_neg h3,if_neg (by omega)]
theorem zrm (s:List (BitVec 64))(x y:Nat)(h:y=5):yt 25 (oF s x y)=yt 25 (oF s (x+1) 0):=by subst h;rfl
theorem zrn (s:List (BitVec 64))(x:Nat)(h:x=5):yt 25 (oF s x 0)=svn (rnd s):=by
 subst h;rw[zcS (g:=xI (pI s)) fun k hk=>by unfold oF;rw[if_pos (by omega)]];rfl
theorem zro (s:List (BitVec 64))(z:BitVec 64){x:Nat}(h:x=5):
 (Re 0 (yt 25 (oF s x 0)).cells.toList++(Q0 .u64 (Qj (oF s x 0 0 ^^^ z):Int)).cells.toList++UB (0+(Q0 .u64 (Qj (oF s x 0 0 ^^^ z):Int)).cells.size) (yt 25 (oF s x 0)).cells.toList).toArray=(svn (rm s z)).cells:=by
 rw[zrn s x h];subst h;exact zh0 s z
theorem zrp (s:List (BitVec 64)){x y:Nat}(hx:x<5):nth s (x+5*y) ^^^ dD (cC s) x=th s (x+5*y):=by
 unfold th;rw[show (x+5*y)%5=x by omega]
theorem zrq: ∀x,x<5-> ∀y,y<5->zhU.getD (y%5+5*((2*x+3*y)%5)) 0=x+5*y/\zhV.getD (y%5+5*((2*x+3*y)%5)) 0=kU x y/\kU x y<64:=by decide
theorem zrr (s:List (BitVec 64))(x y:Nat)(hx:x<5)(hy:y<5):Fn Tryz.prog 125 #[.int .u64 (Qj (th s (x+5*y)):Int),.int .i64 ((kU x y:Nat):Int)] (.int .u64 (Qj (pI s (y%5+5*((2*x+3*y)%5))):Int)):=by
 obtain⟨h1,h2,h3⟩:=zrq x hx y hy;unfold pI;rw[h1,h2];by_cases h:kU x y=0
 ·rw[h,rl0];exact zq7 _
 ·exact left_fn _ _ (by omega) h3
theorem zrs (b:Nat->BitVec 64){x y:Nat}(hx:x<5)(hy:y<5):b (x+5*y) ^^^ (~~~(b ((x+1)%5+5*(y%5))) &&& b ((x+2)%5+5*(y%5)))=xI b (x+5*y):=by
 unfold xI vW;rw[show (x+5*y) / 5*5+((x+5*y)%5+1)%5=(x+1)%5+5*(y%5) by omega,show (x+5*y) / 5*5+((x+5*y)%5+2)%5=(x+2)%5+5*(y%5) by omega,BitVec.and_comm]
section
variable {B:Nat}{w0:World}
abbrev bvV (x:BitVec 64):Value:=.int .u64 (Qj x:Int)
abbrev aO (f:Nat->BitVec 64):Obj:=.cells (Qn (yt 25 f)) 76
abbrev cO (f:Nat->BitVec 64):Obj:=.cells (Qn (yt 5 f)) 170
def iB (x y b k:Nat)(hk:k<25:=by omega):It Tryz.prog B w0:=.o (ins:=[((.tmp x),Qe b),((.tmp y),iN k)]) (v:=.pointer (some ⟨b,0+k*1,none⟩)) (fun ρ o w ho hi=>xj (kd:=.i64) (t:=76) (n:=25) (size:=1) kr (x:=(.tmp x)) (y:=(.tmp y)) b 0 k ho hi.1 hi.2.1 hk w)
def iC (x y b k:Nat)(hk:k<5:=by omega):It Tryz.prog B w0:=.o (ins:=[((.tmp x),Qe b),((.tmp y),iN k)]) (v:=.pointer (some ⟨b,0+k*1,none⟩)) (fun ρ o w ho hi=>xj (kd:=.i64) (t:=170) (n:=5) (size:=1) kr (x:=(.tmp x)) (y:=(.tmp y)) b 0 k ho hi.1 hi.2.1 hk w)
def lA (j n:Nat)(f:Nat->BitVec 64)(k:Nat)(hk:k<n:=by omega):It Tryz.prog B w0:=.ls (C:=Qn (yt n f)) (off:=0+k*1) (v:=bvV (f k)) j (zeU f (by omega) hk)
def lS (s:List (BitVec 64))(q k:Nat)(e:k=q:=by omega)(hk:q<25:=by omega):It Tryz.prog B w0:=.ls (C:=Qn (svn s)) (off:=0+k*1) (v:=bvV (nth s q)) 0 (uG s q _ (by omega) hk)
theorem zrt (n:Nat)(f:Nat->BitVec 64):(Qn (yt n f)).size=n:=by unfold yt qd;simp[Qn]
def sA (j n k:Nat)(f g:Nat->BitVec 64)(x:BitVec 64)(hk:k<n)(hg: ∀j,j<n->g j=if j=k then x else f j)(off:Nat:=k)(e:off=k:=by omega):It Tryz.prog B w0:=.se (C:=Qn (yt n f)) (C':=Qn (yt n g)) (off:=0+off*1) (v:=bvV x) j (by rw[zrt];show _+1<=n;omega) (zrc (k:=k) (x:=x) (by omega) hk hg)
def iX (x y:BitVec 64):It Tryz.prog B w0:=.E (.int .u64 (Q2 .xor .u64 (Qj x:Int) (Qj y:Int))) (bvV (x ^^^ y)) (zG x y)
def iP (a b:Nat)(h:a+b<=0x7fffffffffffffff:=by omega):It Tryz.prog B w0:=.E (.int .i64 (Qz.wrap ((a:Int)+(b:Int)))) (iN (a+b)) (zf (ya (a:=a) (b:=b) h))
def iM (a b:Nat)(h:a*b<=0x7fffffffffffffff:=by omega):It Tryz.prog B w0:=.E (.int .i64 (Qz.wrap ((a:Int)*(b:Int)))) (iN (a*b)) (zf (ja (a:=a) (b:=b) h))
def iR (a b:Nat):It Tryz.prog B w0:=.E (.int .i64 (UA (a:Int) (b:Int))) (iN (a%b)) (zf (qw a b))
end
theorem zru (s:List (BitVec 64))(i:Nat)(hi:i<24):Fn Tryz.prog 87 #[svn s,.int .i64 (i:Int)] (svn (rm s (xf i 7))):=by
 refine zv [.cell 4 76] 117 Tryz.func87 fun w=>?_;have H0:=St.start w;refine rS [.b,.a] H0 kr fun gs1 w1 H1=>rS [.v,.a,.s 2] H1 kr fun gs2 w2 H2=>za kr<|rS [.v] H2 kr fun gs3 w3 H3=>uU 6 17 18 19 20 0 1 5 (fun x ρ ww=>St w.heap.size w ww [((gs1 0).b,Qk (Qn (svn s)) 76),((gs1 1).b,aO fun _=>0),((gs2 1).b,cO (cF s x 0))]/\Is [(1,iN i),(2,Qe (gs1 0).b),(4,Qe (gs1 1).b),(5,Qe (gs2 1).b),(6,iN x)] ρ) ⟨H3.as kr,isK⟩ ?_ ?_
 ·rintro x _ w4 hx ⟨H4,_,rfl⟩;refine rS [.v] H4 kr fun gs4 w5 H5=>uU 7 21 22 23 24 2 3 5 (fun y ρ ww=>St w.heap.size w ww [((gs1 0).b,Qk (Qn (svn s)) 76),((gs1 1).b,aO fun _=>0),((gs2 1).b,cO (cF s x y))]/\Is [(1,iN i),(2,Qe (gs1 0).b),(4,Qe (gs1 1).b),(5,Qe (gs2 1).b),(6,iN x),(7,iN y)] ρ) ⟨H5.as kr,isK⟩ ?_ ?_
  ·rintro y _ w6 hy ⟨H6,_,rfl⟩;refine dL [.v,.v,iC 5 26 (gs2 1).b x,lA 2 5 (cF s x y) x,.v,.v,.c (ue x y (by omega) (by omega)),iB 2 31 (gs1 0).b (x%5+5*(y%5)),lS s (x+5*y) (x%5+5*(y%5)),iX (cF s x y x) (nth s (x+5*y)),iC 5 25 (gs2 1).b x,sA 2 5 x (cF s x y) (cF s x (y+1)) (cF s x y x ^^^ nth s (x+5*y)) hx (fun j _=>zrd s x y j)] H6 kr fun w7 H7=>?_;exact⟨kr,H7.as kr,isK⟩
  ·rintro _ w6 ⟨H6,_,rfl⟩;exact⟨kr,by show St _ _ _ [_,_,(_,Qk (Qn (yt 5 (cF s (x+1) 0))) _ _)];rw[<-zre s x 5 rfl];exact H6.as kr,isK⟩
 rintro _ w4 ⟨H4,_,rfl⟩;have H5:St w.heap.size w w4 [((gs1 0).b,Qk (Qn (svn s)) 76),((gs1 1).b,aO fun _=>0),((gs2 1).b,cO (cC s))]:=by show St _ _ _ [_,_,(_,Qk (Qn (yt 5 (cC s))) _ _)];rw[<-zrf s 5 rfl];exact H4.as kr
 clear H0 H1 H2 H3 H4;refine wW<|rS [.v,.a,.s 3] H5 kr fun gs5 w5 H6=>za kr<|rS [.v] H6 kr fun gs6 w6 H7=>uU 9 37 38 39 40 4 5 5 (fun x ρ ww=>St w.heap.size w ww [((gs1 0).b,Qk (Qn (svn s)) 76),((gs1 1).b,aO fun _=>0),((gs2 1).b,cO (cC s)),((gs5 1).b,aO (bF s x 0))]/\Is [(1,iN i),(2,Qe (gs1 0).b),(4,Qe (gs1 1).b),(5,Qe (gs2 1).b),(8,Qe (gs5 1).b),(9,iN x)] ρ) ⟨H7.as kr,isK⟩ ?_ ?_
 ·rintro x _ w7 hx ⟨H8,_,rfl⟩;refine dS [.v,iP x 4,iR (x+4) 5,iC 5 43 (gs2 1).b ((x+4)%5),lA 2 5 (cC s) ((x+4)%5),.v,iP x 1,iR (x+1) 5,iC 5 48 (gs2 1).b ((x+1)%5),lA 2 5 (cC s) ((x+1)%5),.c (left_fn (cC s ((x+1)%5)) 1 (by omega) (by omega)),iX (cC s ((x+4)%5)) (rl (cC s ((x+1)%5)) 1),.v] H8 kr fun w8 H9=>rS [.v] H9 kr fun gs7 w9 H10=>uU 11 53 54 55 56 6 7 5 (fun y ρ ww=>St w.heap.size w ww [((gs1 0).b,Qk (Qn (svn s)) 76),((gs1 1).b,aO fun _=>0),((gs2 1).b,cO (cC s)),((gs5 1).b,aO (bF s x y))]/\Is [(1,iN i),(2,Qe (gs1 0).b),(4,Qe (gs1 1).b),(5,Qe (gs2 1).b),(8,Qe (gs5 1).b),(9,iN x),(10,bvV (dD (cC s) x)),(11,iN y)] ρ) ⟨H10.as kr,isK⟩ ?_ ?_
  ·rintro y _ w10 hy ⟨H11,_,rfl⟩;refine dL [.v,.v,iM 2 x,.v,iM 3 y,iP (2*x) (3*y),.c (ue y (2*x+3*y) (by omega) (by omega)),.v,.v,.c (ue x y (by omega) (by omega)),iB 2 66 (gs1 0).b (x%5+5*(y%5)),lS s (x+5*y) (x%5+5*(y%5)),.v,.E (.int .u64 (Q2 .xor .u64 (Qj (nth s (x+5*y)):Int) (Qj (dD (cC s) x):Int))) (bvV (th s (x+5*y))) ((zG (nth s (x+5*y)) (dD (cC s) x)).trans (zeT (zrp s hx))),.v,.v,.c (zq8 x y hx hy),.c (zrr s x y hx hy),iB 8 63 (gs5 1).b (y%5+5*((2*x+3*y)%5)),sA 3 25 (y%5+5*((2*x+3*y)%5)) (bF s x y) (bF s x (y+1)) (pI s (y%5+5*((2*x+3*y)%5))) (by omega) (fun j hj=>zri s hx hy hj)] H11 kr fun w11 H12=>?_;exact⟨kr,H12.as kr,isK⟩
  ·rintro _ w10 ⟨H11,_,rfl⟩;exact⟨kr,by show St _ _ _ [_,_,_,(_,Qk (Qn (yt 25 (bF s (x+1) 0))) _ _)];rw[<-zrj s x 5 rfl];exact H11.as kr,isK⟩
 rintro _ w7 ⟨H8,_,rfl⟩;have H9:St w.heap.size w w7 [((gs1 0).b,Qk (Qn (svn s)) 76),((gs1 1).b,aO fun _=>0),((gs2 1).b,cO (cC s)),((gs5 1).b,aO (pI s))]:=by show St _ _ _ [_,_,_,(_,Qk (Qn (yt 25 (pI s))) _ _)];rw[<-zrk s 5 rfl];exact H8.as kr
 clear H5 H6 H7 H8;refine wW<|rS [.v,.a,.s 4] H9 kr fun gs8 w8 H10=>za kr<|rS [.v] H10 kr fun gs9 w9 H11=>uU 13 77 78 79 80 8 9 5 (fun x ρ ww=>St w.heap.size w ww [((gs1 0).b,Qk (Qn (svn s)) 76),((gs1 1).b,aO fun _=>0),((gs2 1).b,cO (cC s)),((gs5 1).b,aO (pI s)),((gs8 1).b,aO (oF s x 0))]/\Is [(1,iN i),(2,Qe (gs1 0).b),(4,Qe (gs1 1).b),(5,Qe (gs2 1).b),(8,Qe (gs5 1).b),(12,Qe (gs8 1).b),(13,iN x)] ρ) ⟨H11.as kr,isK⟩ ?_ ?_
 ·rintro x _ w10 hx ⟨H12,_,rfl⟩;refine rS [.v] H12 kr fun gs10 w11 H13=>uU 14 81 82 83 84 10 11 5 (fun y ρ ww=>St w.heap.size w ww [((gs1 0).b,Qk (Qn (svn s)) 76),((gs1 1).b,aO fun _=>0),((gs2 1).b,cO (cC s)),((gs5 1).b,aO (pI s)),((gs8 1).b,aO (oF s x y))]/\Is [(1,iN i),(2,Qe (gs1 0).b),(4,Qe (gs1 1).b),(5,Qe (gs2 1).b),(8,Qe (gs5 1).b),(12,Qe (gs8 1).b),(13,iN x),(14,iN y)] ρ) ⟨H13.as kr,isK⟩ ?_ ?_
  ·rintro y _ w12 hy ⟨H14,_,rfl⟩;refine rS [.v,iP x 1,.v,.c (ue (x+1) y (by omega) (by omega)),iB 8 88 (gs5 1).b ((x+1)%5+5*(y%5)),lA 3 25 (pI s) ((x+1)%5+5*(y%5)),.E (.int .u64 (QA.wrap (0xffffffffffffffff-(Qj (pI s ((x+1)%5+5*(y%5))):Int)))) (bvV (~~~(pI s ((x+1)%5+5*(y%5))))) ((zkk (0xffffffffffffffff:BitVec 64) (pI s ((x+1)%5+5*(y%5)))).trans (zeT (zra (pI s ((x+1)%5+5*(y%5)))))),.v] H14 kr fun gs11 w13 H15=>dL [.v,.v,.c (ue x y (by omega) (by omega)),.v,.v,.c (ue x y (by omega) (by omega)),iB 8 97 (gs5 1).b (x%5+5*(y%5)),.ls (C:=Qn (yt 25 (pI s))) (off:=0+(x%5+5*(y%5))*1) (v:=bvV (pI s (x+5*y))) 3 (zeU (n:=25) (pI s) (k:=x+5*y) (by omega) (by omega)),.v,.v,iP x 2,.v,.c (ue (x+2) y (by omega) (by omega)),iB 8 104 (gs5 1).b ((x+2)%5+5*(y%5)),lA 3 25 (pI s) ((x+2)%5+5*(y%5)),.E (.int .u64 (Q2 .and .u64 ((Qj (~~~(pI s ((x+1)%5+5*(y%5)))):Int)) ((Qj (pI s ((x+2)%5+5*(y%5))):Int)))) (.int .u64 (Qj ((~~~(pI s ((x+1)%5+5*(y%5)))) &&& (pI s ((x+2)%5+5*(y%5)))):Int)) (zkh (~~~(pI s ((x+1)%5+5*(y%5)))) (pI s ((x+2)%5+5*(y%5)))),.E (.int .u64 (Q2 .xor .u64 ((Qj (pI s (x+5*y)):Int)) ((Qj ((~~~(pI s ((x+1)%5+5*(y%5)))) &&& (pI s ((x+2)%5+5*(y%5)))):Int)))) (.int .u64 (Qj (xI (pI s) (x+5*y)):Int)) ((zG (pI s (x+5*y)) ((~~~(pI s ((x+1)%5+5*(y%5)))) &&& (pI s ((x+2)%5+5*(y%5))))).trans (zeT (zrs (pI s) (by omega) (by omega)))),iB 12 94 (gs8 1).b (x%5+5*(y%5)),sA 4 25 (x+5*y) (oF s x y) (oF s x (y+1)) (xI (pI s) (x+5*y)) (by omega) (fun j hj=>zrl s hx hy hj) (x%5+5*(y%5))] H15 kr fun w14 H16=>?_;exact⟨kr,H16.as kr,isK⟩
  ·rintro _ w12 ⟨H14,_,rfl⟩;exact⟨kr,by show St _ _ _ [_,_,_,_,(_,Qk (Qn (yt 25 (oF s (x+1) 0))) _ _)];rw[<-zrm s x 5 rfl];exact H14.as kr,isK⟩
 rintro _ w10 ⟨H12,_,rfl⟩;have H13:St w.heap.size w w10 [((gs1 0).b,Qk (Qn (svn s)) 76),((gs1 1).b,aO fun _=>0),((gs2 1).b,cO (cC s)),((gs5 1).b,aO (pI s)),((gs8 1).b,aO (oF s 5 0))]:=H12.as kr;refine wW<|dS [.v,.ls (C:=Qn (yt 25 (oF s 5 0))) (off:=0) (v:=bvV (oF s 5 0 0)) 4 (zeU (n:=25) (oF s 5 0) (k:=0) (by omega) (by omega)),.v,.c (zrb i (by omega)),iX (oF s 5 0 0) (xf i 7),.v,.se (C:=Qn (yt 25 (oF s 5 0))) (C':=Qn (svn (rm s (xf i 7)))) (off:=0) (v:=bvV (oF s 5 0 0 ^^^ xf i 7)) 4 (of_decide_eq_true kr) (zro s (xf i 7) rfl)] H13 kr fun w11 H14=>rS [.l 4,.s 1] H14 kr fun gs12 w12 H15=>?_;exact rR [.cell 4 76] [1] (svn (rm s (xf i 7))) H15 kr
theorem zrv (s:List (BitVec 64))(j:Nat)(h:j<24):yI s (j+1)=rm (yI s j) (xf j 7):=by rw[zhY s j h,<-zq6 ⟨j,h⟩]
theorem zrw (s:List (BitVec 64)):Fn Tryz.prog 61 #[svn s] (svn (mix s)):=by
 refine zv [.cell 2 76] 12 Tryz.func61 fun w=>?_;have H0:=St.start w;refine rS [.b,.a] H0 kr fun gs1 w1 H1=>?_;clear H0;refine za kr<|rS [.v] H1 kr fun gs2 w2 H2=>?_;clear H1;refine zm 0 kr ?_;have HL1:St w.heap.size w w2 [((gs1 0).b,Qk (Qn (svn s)) 76),((gs1 1).b,Qk #[wZ,wZ,wZ,wZ,wZ,wZ,wZ,wZ,wZ,wZ,wZ,wZ,wZ,wZ,wZ,wZ,wZ,wZ,wZ,wZ,wZ,wZ,wZ,wZ,wZ] 76 (0,0))]:=H2.as kr;clear H2;have HM2:St w.heap.size w w2 [((gs1 0).b,Qk (Qn (svn (yI s 0))) 76),((gs1 1).b,Qk #[wZ,wZ,wZ,wZ,wZ,wZ,wZ,wZ,wZ,wZ,wZ,wZ,wZ,wZ,wZ,wZ,wZ,wZ,wZ,wZ,wZ,wZ,wZ,wZ,wZ] 76 (0,0))]:=HL1;refine zO kr (fun mz ρ ww=> ∃(j:Nat),24-j=mz/\(j<=24)/\St w.heap.size w ww [((gs1 0).b,Qk (Qn (svn (yI s j))) 76),((gs1 1).b,Qk #[wZ,wZ,wZ,wZ,wZ,wZ,wZ,wZ,wZ,wZ,wZ,wZ,wZ,wZ,wZ,wZ,wZ,wZ,wZ,wZ,wZ,wZ,wZ,wZ,wZ] 76 (0,0))]/\Is [(0,svn s),(1,Qe (gs1 0).b),(2,Qe (gs1 1).b),(3,.int .i64 (j:Int))] ρ) (24-0) ⟨0,rfl,(by omega),HM2,zl⟩ ?_;clear HM2;rintro _ _ w3 ⟨j,rfl,hj,H3,_,rfl⟩;refine za kr<|zd [0,1] kr kr<|rp [.v] H3 kr fun gs4 w4 H4=>wX [1] ?_;clear H3;by_cases hc3:(j:Nat)<24
 ·refine rp [itT ((j:Int)<24)] H4 kr fun gs5 w5 H5=>wX [] ?_;clear H4;refine zb<|zh kr kr<|zj kr<|wW<|za kr<|zm 1 kr<|rL [.l 0,.v,.c (zru (yI s j) j (by omega)),.s 0] H5 kr fun gs6 w6 H6=>?_;clear H5;refine wW<|rL [.v,itI j 1,.v] H6 kr fun gs7 w7 H7=>?_;clear H6;have HL4:St w.heap.size w w7 [((gs1 0).b,Qk (Qn (svn (rm (yI s j) (xf j 7)))) 76 (0,0)),((gs1 1).b,Qk #[wZ,wZ,wZ,wZ,wZ,wZ,wZ,wZ,wZ,wZ,wZ,wZ,wZ,wZ,wZ,wZ,wZ,wZ,wZ,wZ,wZ,wZ,wZ,wZ,wZ] 76 (0,0))]:=H7.as kr;clear H7;have HM5:St w.heap.size w w7 [((gs1 0).b,Qk (Qn (svn (yI s (j+1)))) 76 (0,0)),((gs1 1).b,Qk #[wZ,wZ,wZ,wZ,wZ,wZ,wZ,wZ,wZ,wZ,wZ,wZ,wZ,wZ,wZ,wZ,wZ,wZ,wZ,wZ,wZ,wZ,wZ,wZ,wZ] 76 (0,0))]:=by rw[zrv s j (by omega)];exact HL4
  show ∃m,_/\_;exact⟨_,(by omega),(j+1),rfl,(by omega),HM5,zl⟩
 ·refine rp [itF ((j:Int)<24)] H4 kr fun gs8 w8 H8=>wX [] ?_;clear H4;refine zb<|zi kr kr<|zE 0 kr<|wW<|rS [.l 0,.s 1] H8 kr fun gs9 w9 H9=>?_;clear H8;refine zk kr<|wV ?_;refine⟨[svn (yI s j)],(.agg (b:=(gs1 1).b) (Qn (svn (yI s j))) 76 (0,0) kr (H9.get 1 kr) kr .nil),?_,H9.below⟩;obtain rfl:j=24:=by omega
  exact congrArg svn (zhZ s)
def bt (X:List UInt8)(k:Nat):B64:=vw (X.getD k 0)
def wpx (X:List UInt8)(q:Nat):Nat->B64
 | 0=>0
 | m+1=>wpx X q m ^^^ bt X (8*q+m) <<< (8*m)
def wrk (X:List UInt8)(o:Nat):Nat->B64
 | 0=>0
 | k+1=>256*wrk X o k+bt X (o+(7-k))
theorem zrx (b:UInt8):(vw b).toNat<256:=by
 unfold vw;rw[BitVec.toNat_ofNat];have:=b.toNat_lt;omega
theorem zry (x:B64)(b:B64)(hb:b.toNat<256):x <<< 8 ^^^ b=256*x+b:=by
 have hbit: ∀i,8<=i->b.getLsbD i=false:=fun i hi=>by
  unfold BitVec.getLsbD;exact Nat.testBit_lt_two_pow (Nat.lt_of_lt_of_le hb (show 256<=2^i from Uh (n:=2) (by omega) hi))
 have h0:x <<< 8 &&& b=0#64:=by
  apply BitVec.eq_of_getLsbD_eq;intro i hi;rw[BitVec.getLsbD_and,BitVec.getLsbD_shiftLeft,BitVec.getLsbD_zero];by_cases h:i<8
  ·simp[h]
  ·rw[hbit i (by omega)];simp
 have h1:x <<< 8 ^^^ b=x <<< 8 ||| b:=by
  apply BitVec.eq_of_getLsbD_eq;intro i hi;rw[BitVec.getLsbD_xor,BitVec.getLsbD_or,BitVec.getLsbD_shiftLeft];by_cases h:i<8
  ·simp[h]
  ·rw[hbit i (by omega)];simp
 rw[h1,<-BitVec.add_eq_or_of_and_eq_zero _ _ h0,BitVec.shiftLeft_eq_mul_twoPow,BitVec.mul_comm];rfl
theorem zjo (X:List UInt8)(q:Nat): ∀m,m<=8->wrk X (8*q) 8=wpx X q m ^^^ wrk X (8*q) (8-m) <<< (8*m)
 | 0,_=>by show wrk X (8*q) 8=(0#64:B64) ^^^ (wrk X (8*q) 8) <<< (0:Nat);rw[BitVec.zero_xor,BitVec.shiftLeft_zero]
 | m+1,h=>by
  rw[zjo X q m (by omega),show 8-m=8-(m+1)+1 by omega];show _ ^^^ (256*wrk X (8*q) (8-(m+1))+bt X (8*q+(7-(8-(m+1))))) <<< (8*m)=(wpx X q m ^^^ bt X (8*q+m) <<< (8*m)) ^^^ _;rw[show 7-(8-(m+1))=m by omega,<-zry _ (bt X (8*q+m)) (zrx _),BitVec.shiftLeft_xor_distrib,show 8*(m+1)=8+8*m by omega,BitVec.shiftLeft_add,Vz,BitVec.xor_comm (bt X (8*q+m) <<< (8*m))]
theorem zjp (X:List UInt8)(q:Nat):wpx X q 8=wrk X (8*q) 8:=by
 rw[zjo X q 8 (by omega)];show _=_ ^^^ (0#64:B64) <<< _;rw[BitVec.zero_shiftLeft,VD]
def xw (a:List B64)(f:Nat->B64)(i:Nat):List B64:=(QW 25).map fun j=>if j<i then nth a j ^^^ f j else nth a j
theorem uf (a:List B64)(f:Nat->B64)(i:Nat):(xw a f i).length=25:=by unfold xw;simp
theorem zrz (g:Nat->B64)(j:Nat)(h:j<25):nth ((QW 25).map g) j=g j:=by
 unfold nth;rw[QO,List.getElem?_map];simp[h]
theorem uV (a:List B64)(f:Nat->B64)(i j:Nat)(h:j<25):nth (xw a f i) j=if j<i then nth a j ^^^ f j else nth a j:=zrz _ j h
theorem za0 {s t:List B64}(hs:s.length=25)(ht:t.length=25)(h: ∀j,j<25->nth s j=nth t j):s=t:=by
 apply List.ext_getElem (by rw[hs,ht]);intro i h1 h2;have:=h i (by omega);unfold nth at this;rw[QO,QO,Qr h1,Qr h2]at this;exact this
theorem zrA {a:List B64}(f:Nat->B64)(ha:a.length=25):a=xw a f 0:=za0 ha (uf _ _ _) fun j hj=>by rw[uV _ _ _ _ hj,if_neg (by omega)]
theorem zrB (a:List B64)(f:Nat->B64)(i:Nat)(h:i<25):nth (xw a f i) i=nth a i:=by rw[uV _ _ _ _ h,if_neg (by omega)]
theorem zrC (a:List B64)(f:Nat->B64)(i:Nat)(h:i<25):(xw a f i).set i (nth a i ^^^ f i)=xw a f (i+1):=by
 refine za0 (by rw[Wh,uf]) (uf _ _ _) fun j hj=>?_;rw[zci _ _ _ _ (by rw[uf];exact h)];by_cases e:j=i
 ·subst e;rw[if_pos rfl,uV _ _ _ _ hj,if_pos (by omega)]
 ·rw[if_neg e,uV _ _ _ _ hj,uV _ _ _ _ hj];by_cases e2:j<i
  ·rw[if_pos e2,if_pos (by omega)]
  ·rw[if_neg e2,if_neg (by omega)]
theorem ug (s:List B64)(n:Nat)(b:B64)(j:Nat)(hs:s.length=25)(hn:n<200):nth (lay s n b) j=if j=n / 8 then nth s (n / 8) ^^^ qF b n else nth s j:=by
 unfold lay;rw[zci _ _ _ _ (by omega)]
theorem zjq (a:List B64)(ha:a.length=25)(X:List UInt8): ∀j,j<=135->j<=X.length->∃B,takeB (a,0) (X.take j)=(B,j)/\B.length=25/\ ∀q,q<25->nth B q=nth a q ^^^ wpx X q (min 8 (j-8*q))
 | 0,_,_=>⟨a,rfl,ha,fun q _=>by rw[show min 8 (0-8*q)=0 by omega];show _=_ ^^^ (0#64:B64);rw[VD]⟩
 | j+1,h,hX=>by
  obtain⟨B,hB,hl,hp⟩:=zjq a ha X j (by omega) (by omega);have hx:X.take (j+1)=X.take j++ [X.getD j 0]:=by
   rw[VC,Qr (show j<X.length by omega),Option.toList_some,QO,Qr (show j<X.length by omega)];rfl
  refine⟨lay B j (bt X j),?_,jY _ _ hl,fun q hq=>?_⟩
  ·rw[hx,zch,hB];unfold qN;exact if_neg (by show ¬j+1=136;omega)
  ·rw[ug _ _ _ _ hl (by omega)];by_cases e:q=j / 8
   ·rw[if_pos e,<-e,hp q hq,show min 8 (j+1-8*q)=min 8 (j-8*q)+1 by omega];show _=nth a q ^^^ (wpx X q (min 8 (j-8*q)) ^^^ bt X (8*q+min 8 (j-8*q)) <<< (8*min 8 (j-8*q)));rw[show 8*q+min 8 (j-8*q)=j by omega];unfold qF;rw[show j%8*8=8*min 8 (j-8*q) by omega,Vz]
   ·rw[if_neg e,hp q hq,show min 8 (j+1-8*q)=min 8 (j-8*q) by omega]
theorem zrD (a:List B64)(ha:a.length=25)(X:List UInt8)(hX:X.length=136):takeB (a,0) X=(mix (xw a (fun q=>wrk X (8*q) 8) 17),0):=by
 obtain⟨B,hB,hl,hp⟩:=zjq a ha X 135 (by omega) (by omega);have hx:X=X.take 135++ [X.getD 135 0]:=by
  conv=>lhs;rw[<-Qy (show X.length<=135+1 by omega)]
  rw[VC,Qr (show 135<X.length by omega),Option.toList_some,QO,Qr (show 135<X.length by omega)];rfl
 have h1:takeB (a,0) X=(mix (lay B 135 (bt X 135)),0):=by
  rw[hx,zch,hB];unfold qN;rw[if_pos (by show 135+1=136;rfl)];congr 3;unfold bt;rw[<-hx]
 rw[h1];congr 2;refine za0 (jY _ _ hl) (uf _ _ _) fun q hq=>?_;rw[ug _ _ _ _ hl (by omega),uV _ _ _ _ hq];by_cases e:q=135 / 8
 ·rw[if_pos e,if_pos (by omega),<-e,hp q hq,<-zjp,show min 8 (135-8*q)=7 by omega];show _=nth a q ^^^ (wpx X q 7 ^^^ bt X (8*q+7) <<< (8*7));rw[show 8*q+7=135 by omega,Vz];rfl
 ·rw[if_neg e,hp q hq];by_cases e2:q<17
  ·rw[if_pos e2,<-zjp,show min 8 (135-8*q)=8 by omega]
  ·rw[if_neg e2,show min 8 (135-8*q)=0 by omega];show _ ^^^ (0#64:B64)=_;rw[VD]
theorem zrE {s:List B64}(n:Nat)(hs:s.length=25)(hn:n<200):lay s n 0=s:=za0 (jY _ _ hs) hs fun j hj=>by
 rw[ug _ _ _ _ hs hn];by_cases e:j=n / 8
 ·rw[if_pos e,<-e];unfold qF;show _ ^^^ (0#64:B64) <<< _=_;rw[BitVec.zero_shiftLeft,VD]
 ·rw[if_neg e]
theorem zjr: ∀(z n:Nat) {s:List B64},s.length=25->n+z<=135->takeB (s,n) (RB z 0)=(s,n+z)
 | 0,n,s,_,_=>rfl
 | z+1,n,s,hs,h=>by
  rw[List.replicate_succ];show takeB (qN (s,n) 0) _=_;have e:qN (s,n) 0=(s,n+1):=by
   unfold qN;rw[if_neg (by show ¬n+1=136;omega)];show (lay s n (vw 0),n+1)=_;rw[show vw 0=(0:B64) from rfl,zrE n hs (by omega)]
  rw[e,zjr z (n+1) hs (by omega)];congr 1;omega
theorem zrF {s:List B64}(b c:B64)(hs:s.length=25):lay (lay s 135 b) 135 c=lay s 135 (b ^^^ c):=za0 (jY _ _ (jY _ _ hs)) (jY _ _ hs) fun j hj=>by
 rw[ug _ _ _ _ (jY _ _ hs) (by omega),ug _ _ _ _ hs (by omega),ug _ _ _ _ hs (by omega),ug _ _ _ _ hs (by omega)];by_cases e:j=135 / 8
 ·rw[if_pos e,if_pos rfl,if_pos e];unfold qF;rw[BitVec.shiftLeft_xor_distrib,Vz]
 ·rw[if_neg e,if_neg e];rw[if_neg e]
def qb (s:Qa)(z:Nat):List UInt8:=tl s++(1::RB z 0)
theorem zrG (s:Qa)(z:Nat):qb s z++ [Ub (0:BitVec 8)]=qb s (z+1):=by
 unfold qb;rw[List.replicate_succ'];simp
theorem za1 (s:Qa)(z:Nat):(qb s z).length=Ql s+1+z:=by unfold qb;simp[zu];omega
def PK (s:Qa)(z:Nat):List UInt8:=(qb s z).set ((qb s z).length-1) (Ub (US ((qb s z).getD ((qb s z).length-1) 0)+(128:BitVec 8)))
theorem zrH (s:Qa)(z:Nat):(PK s z).length=Ql s+1+z:=by unfold PK;rw[Wh,za1]
theorem zrI (s:Qa):PK s 0=tl s++ [129]:=by
 unfold PK;rw[za1,show Ql s+1+0-1=(tl s).length from by rw[zu];omega];unfold qb;rw[VJ _ _ (QH _),QO,Uo (QH _),V7];rfl
theorem zrJ (s:Qa)(z:Nat):PK s (z+1)=tl s++(1::(RB z 0++ [128])):=by
 unfold PK;rw[za1,show Ql s+1+(z+1)-1=(tl s).length+(z+1) from by rw[zu];omega];unfold qb;rw[VJ _ _ (by omega),QO,Uo (by omega),show (tl s).length+(z+1)-(tl s).length=z+1 by omega];congr 1;rw[List.replicate_succ'];have e:(1::(RB z (0:UInt8)++ [0]))[z+1]?.getD 0=0:=by simp
 rw[e,List.set_cons_succ,VJ _ _ (by simp),List.length_replicate,V7];rfl
theorem zrK (l:List UInt8): ∀ {st:List B64×Nat},st.2<136->(takeB st l).2=(st.2+l.length)%136:=by
 induction l with
 | nil=>intro st h;show st.2=_;rw[List.length_nil,Nat.add_zero,Rj h]
 | cons b l ih=>
  intro st h;show (takeB (qN st b) l).2=_;have e:(qN st b).2=(st.2+1)%136:=by
   unfold qN;split
   ·rename_i q;show 0=_;rw[q]
   ·rename_i q;show st.2+1=_;rw[Rj (by omega)]
  rw[ih (by rw[e];exact RT _ (by omega)),e,Rh,Nat.mod_add_mod];congr 1;omega
theorem zrL (s:Qa)(z:Nat)(hz:z=135-Ql s%136):takeB (zeroS,0) (PK s z)=(mix (endB (takeB (zeroS,0) (tl s))),0):=by
 have hok:=takeB_ok (tl s) zero_ok;have hn:=zrK (tl s) (st:=(zeroS,0)) (by decide);rw[show (zeroS,0).2+(tl s).length=Ql s by rw[zu];simp]at hn;generalize hst:takeB (zeroS,0) (tl s)=st at hok hn;obtain⟨S,n⟩:=st;have hl:S.length=25:=hok.len;simp only at hn;unfold endB;cases z with
 | zero=>
  rw[zrI,zch,hst];obtain rfl:n=135:=by omega
  unfold qN;rw[if_pos (by rfl),zrF _ _ hl];rfl
 | succ z=>
  rw[zrJ,takeB_append,hst];show takeB (qN (S,n) 1) (RB z 0++ [128])=_;have e:qN (S,n) 1=(lay S n 1,n+1):=by
   unfold qN;rw[if_neg (by show ¬n+1=136;omega)];rfl
  rw[e,takeB_append,zjr z (n+1) (jY _ _ hl) (by omega),show n+1+z=135 by omega];show qN (lay S n 1,135) 128=_;unfold qN;rw[if_pos (by rfl)];rfl
def wd (s:Qa)(z m:Nat)(j:Nat):B64:=wrk (Re 8 (UB (136*m+8*j) (PK s z))) 0 8
theorem zjs (X Y:List UInt8)(o p:Nat)(h: ∀k,k<8->X.getD (o+k) 0=Y.getD (p+k) 0): ∀k,k<=8->wrk X o k=wrk Y p k
 | 0,_=>rfl
 | k+1,hk=>by
  show 256*wrk X o k+bt X (o+(7-k))=256*wrk Y p k+bt Y (p+(7-k));rw[zjs X Y o p h k (by omega)];unfold bt;rw[h (7-k) (by omega)]
theorem zrM (s:Qa)(z m j:Nat)(hj:j<17)(hm:136*m+136<=(PK s z).length):wrk (Re 136 (UB (136*m) (PK s z))) (8*j) 8=wd s z m j:=
 zjs _ _ _ _ (fun k hk=>by
  rw[QO,QO,Ut,if_pos (by omega),Wu,Ut,if_pos (by omega),Wu]
  congr 2;omega) 8 (QH _)
theorem zrN (a:List B64)(f g:Nat->B64)(i:Nat)(h: ∀j,j<i->f j=g j):xw a f i=xw a g i:=by
 unfold xw;refine Vo fun j _=>?_;split
 ·rename_i hj;rw[h j hj]
 ·rfl
theorem zrO (s:Qa)(z m:Nat)(a:List B64)(ha:a.length=25)(h:takeB (zeroS,0) ((PK s z).take (136*m))=(a,0))(hm:136*m+136<=(PK s z).length):
 takeB (zeroS,0) ((PK s z).take (136*(m+1)))=(mix (xw a (wd s z m) 17),0):=by
 rw[show 136*(m+1)=136*m+136 by omega,List.take_add,takeB_append,h,zrD a ha _ (by rw[Rb,Uv];omega)];rw[zrN a _ (wd s z m) 17 (fun j hj=>zrM s z m j hj hm)]
theorem zrP (s:Qa)(z m:Nat)(a:List B64)(hz:z=135-Ql s%136)(h:takeB (zeroS,0) ((PK s z).take (136*m))=(a,0))(hm: ¬136*m<(PK s z).length):firstB a=sumB (tl s):=by
 rw[Qy (by omega),zrL s z hz]at h;have e:mix (endB (takeB (zeroS,0) (tl s)))=a:=congrArg VR h;unfold sumB;rw[e]
def jO (a:List B64)(i:Nat):List UInt8:=(QW i).map fun i=>QY ((nth a (i / 8)).toNat / 2^(i%8*8))
theorem zrQ (a:List B64)(i:Nat):jO a (i+1)=jO a i++ [QY ((nth a (i / 8)).toNat / 2^(i%8*8))]:=by unfold jO;rw[List.range_succ,RD];rfl
theorem zrR (a:List B64)(i:Nat):(jO a i).length=i:=by unfold jO;simp
theorem zrS (x:B64)(i:Nat):Ub (Ry 8 ((x >>> (8*(i%8)))%(256:BitVec 64)))=QY (x.toNat / 2^(i%8*8)):=by
 apply UInt8.toNat_inj.1;show Qj (Ry 8 ((x >>> (8*(i%8)))%(256:BitVec 64)))=(QY (x.toNat / 2^(i%8*8))).toNat;rw[BitVec.toNat_setWidth,BitVec.toNat_umod,BitVec.toNat_ushiftRight,UInt8.toNat_ofNat',Nat.shiftRight_eq_div_pow,Nat.mul_comm (i%8) 8];generalize x.toNat / 2^(8*(i%8))=X;show X%256%2^8=X%2^8;omega
theorem zrT (s:Qa)(hs:Ql s=8):Fn Tryz.prog 60 #[.string s] (.int .u64 (Qj (wrk (tl s) 0 8):Int)):=by
 refine zv [.tmp 2] 17 Tryz.func60 fun w=>?_;have H0:=St.start w;refine rS [.v] H0 kr fun gs1 w1 H1=>?_;clear H0;refine rS [.v] H1 kr fun gs2 w2 H2=>?_;clear H1;refine za kr<|rS [.v] H2 kr fun gs3 w3 H3=>?_;clear H2;refine zm 0 kr ?_;have HL1:St w.heap.size w w3 []:=H3.as kr;clear H3;refine zO kr (fun mz ρ ww=> ∃(j:Nat),j=mz/\(j<=8)/\St w.heap.size w ww []/\Is [(0,.string s),(2,wZ),(3,.int .u64 (Qj (wrk (tl s) 0 (8-j)):Int)),(4,.int .i64 ((j:Int)-1))] ρ) 8 ⟨8,rfl,(by omega),HL1,zl⟩ ?_;clear HL1;rintro _ _ w4 ⟨j,rfl,hj,H4,_,rfl⟩;refine za kr<|zd [0,1] kr kr<|rp [.v] H4 kr fun gs5 w5 H5=>wX [1] ?_;clear H4;by_cases hc2:((j:Int)-1:Int)≥0
 ·refine rp [itT (0<=(j:Int)-1)] H5 kr fun gs6 w6 H6=>wX [] ?_;clear H5;refine zb<|zh kr kr<|zj kr<|wW<|za kr<|zm 1 kr<|yv 4 (v:=.int .i64 ((j:Int)-1)) (v':=.int .i64 ((j-1:Nat):Int)) (zf (show ((j:Int)-1)=((j-1:Nat):Int) from by omega)) kr<|yv 5 (v:=.int .i64 ((j:Int)-1)) (v':=.int .i64 ((j-1:Nat):Int)) (zf (show ((j:Int)-1)=((j-1:Nat):Int) from by omega)) kr ?_;have hbl:=qp s (j-1);refine rL [.v,.E (.int .u64 (QA.wrap ((256)*((Qj (wrk (tl s) 0 (8-j)):Int))))) (.int .u64 (Qj ((256:BitVec 64)*(wrk (tl s) 0 (8-j))):Int)) (zkj (256:BitVec 64) (wrk (tl s) 0 (8-j))),.v,.v,itC 11 (.tmp 12) 9 s (j-1),.E (.int .u64 (QA.wrap (((by_ s (j-1):Nat):Int)))) (.int .u64 (Qj (Qw 64 (by_ s (j-1))):Int)) (zfG (by_ s (j-1))),.E (.int .u64 (QA.wrap (((Qj ((256:BitVec 64)*(wrk (tl s) 0 (8-j))):Int))+((Qj (Qw 64 (by_ s (j-1))):Int))))) (.int .u64 (Qj (((256:BitVec 64)*(wrk (tl s) 0 (8-j)))+(Qw 64 (by_ s (j-1)))):Int)) (zki ((256:BitVec 64)*(wrk (tl s) 0 (8-j))) (Qw 64 (by_ s (j-1)))),.v] H6 kr fun gs7 w7 H7=>?_;clear H6;refine wW<|rL [.v,.E (.int .i64 (Qz.wrap (((j-1:Nat):Int)-1))) (.int .i64 (((j-1:Nat):Int)-1)) (zf (wrap_i64 (by omega) (by omega))),.v] H7 kr fun gs8 w8 H8=>?_;clear H7;have HL3:St w.heap.size w w8 []:=H8.as kr;clear H8;have hw:wrk (tl s) 0 (8-(j-1))=((256:BitVec 64)*(wrk (tl s) 0 (8-j)))+(Qw 64 (by_ s (j-1))):=by rw[show 8-(j-1)=8-j+1 by omega];show 256*wrk (tl s) 0 (8-j)+bt (tl s) (0+(7-(8-j)))=_;rw[show 0+(7-(8-j))=j-1 by omega];rfl
  show ∃m,_/\_;exact⟨_,(by omega),(j-1),rfl,(by omega),HL3,(Is.of ⟨kr,kr,(Eq.trans (b:=.int .u64 (Qj (((256:BitVec 64)*(wrk (tl s) 0 (8-j)))+(Qw 64 (by_ s (j-1)))):Int)) kr (by rw[hw])),kr,trivial⟩)⟩
 ·refine rp [itF (0<=(j:Int)-1)] H5 kr fun gs9 w9 H9=>wX [] ?_;clear H5;refine zb<|zi kr kr<|zE 0 kr<|wW<|rS [.v,.v] H9 kr fun gs10 w10 H10=>?_;clear H9;refine zk kr<|wV ?_;refine⟨[.int .u64 (Qj (wrk (tl s) 0 (8-j)):Int)],(.tmp (.int .u64 (Qj (wrk (tl s) 0 (8-j)):Int)) kr .nil),?_,H10.below⟩;obtain rfl:j=0:=by omega
  rfl
theorem sumR_fn (s:Qa)(hsz:Ql s<=0x5af3107a4000):Fn Tryz.prog 33 #[.string s] (.string (zg (sumB (tl s)))):=by
 refine zv [.tmp 2] 86 Tryz.func33 fun w=>?_;have H0:=St.start w;refine rS [.v] H0 kr fun gs1 w1 H1=>?_;clear H0;refine zd [0,1,2] kr kr<|rp [.v] H1 kr fun gs2 w2 H2=>wX [1,2] ?_;clear H1;refine zkz H2 (some 10) 9 95 5 (.tmp 9) s kr kr kr kr kr kr (by unfold maxLen;omega) ?_;intro b_1 cap_2 cur_3 fz_4 w3 H3 hf_5 hr_6;clear H2;refine rp [.v] H3 kr fun gs4 w4 H4=>wX [] ?_;clear H3;refine zb<|zd [0,1,2,3] kr kr<|rp [.v,.nw (fun b=>Qf b 1 1) #[.int .u8 1] 5] H4 kr fun gs5 w5 H5=>wX [2,3] ?_;clear H4;refine zfQ H5 (some 13) 95 5 1 1 (.tmp 11) (.tmp 12) 0 1 b_1 ((gs5 1).b) (Ql s) 1 cap_2 1 cur_3 #[.int .u8 1] fz_4 5 (0,0) (cellsB (tl s)) ([.int .u8 1]) (fun b_7 cur_9 fz_10=>[(b_7,Qk cur_9 5 fz_10),((gs5 1).b,Qk #[.int .u8 1] 5 (0,0))]) kr kr kr kr kr hf_5 hr_6 kr kr (by rfl) (by rfl) (by intro u hu;simp at hu;first | exact hu.elim | (rcases hu with rfl | rfl | rfl | rfl<;>rfl) | (rcases hu with rfl | rfl<;>rfl) | (subst hu;rfl)) (by omega) (by unfold maxLen;omega) (fun _ _ _=>by kernel_rfl) ?_;intro b_7 cap_8 cur_9 fz_10 w6 H6 hf_11 hr_12;clear H5;have hr_12t:Rw 1 cur_9 cap_8 ((Ql s)+1) (cellsB (tl s++ [Ub (1:BitVec 8)])):=by rw[zan];exact hr_12
 have hr_12n:(Ql s)+1=Qo (tl s++ [Ub (1:BitVec 8)]):=by have h0:Ql s=Qo (tl s):=rfl;rw[Qx,<-h0];rfl
 refine rp [.v] H6 kr fun gs7 w7 H7=>wX [] ?_;clear H6;refine zb<|za kr<|zm 0 kr ?_;have HL1:St w.heap.size w w7 [(b_7,Qk cur_9 5 fz_10),((gs5 1).b,Qk #[.int .u8 1] 5 (0,0))]:=H7.as kr;clear H7;have HD2:St w.heap.size w w7 [(b_7,Qk cur_9 5 fz_10)]:=HL1.sub (Qq _ (Qs _ QS));refine zO kr (fun mz ρ ww=> ∃(b:Nat) (cap:Nat) (n:Nat) (cur:Qd) (fz:Nat×Nat) (z:Nat),135-z=mz/\(n=Qo (qb s z))/\(Rw 1 cur cap n (cellsB (qb s z)))/\(Clr fz cur)/\(z<=135-Ql s%136)/\St w.heap.size w ww [(b,Qk cur 5 fz)]/\Is [(0,.string s),(2,.string (⟨#[]⟩)),(3,Qf b n cap)] ρ) (135-0) ⟨b_7,cap_8,(Ql s)+1,cur_9,fz_10,0,rfl,hr_12n,hr_12t,hf_11,(by omega),HD2,zl⟩ ?_;clear HD2;rintro _ _ w8 ⟨b,cap,n,cur,fz,z,rfl,hn,hr,hf,hz,H8,_,rfl⟩;have hlz:=za1 s z;rw[<-hn]at hlz;refine za kr<|zd [0,1,2,3] kr kr<|rp [.v,.v,.E (.int .i64 (UA (n:Int) 136)) (.int .i64 ((n%136:Nat):Int)) (zf (qw n 136))] H8 kr fun gs9 w9 H9=>wX [3] ?_;clear H8;by_cases hc3:(n%136:Nat)>0
 ·refine rp [itT (0<((n%136:Nat):Int))] H9 kr fun gs10 w10 H10=>wX [] ?_;clear H9;refine zb<|zh kr kr<|zj kr<|wW<|zm 1 kr<|yu [0,1,2,3] kr<|rp [.v,.nw (fun b=>Qf b 1 1) #[.int .u8 0] 5] H10 kr fun gs11 w11 H11=>wX [2,3] ?_;clear H10;refine zfQ H11 (some 20) 95 5 1 1 (.tmp 18) (.tmp 19) 0 1 b ((gs11 1).b) n 1 cap 1 cur #[.int .u8 0] fz 5 (0,0) (cellsB (qb s z)) ([.int .u8 0]) (fun b_13 cur_15 fz_16=>[(b_13,Qk cur_15 5 fz_16),((gs11 1).b,Qk #[.int .u8 0] 5 (0,0))]) kr kr kr kr kr hf hr kr kr (by rfl) (by rfl) (by intro u hu;simp at hu;first | exact hu.elim | (rcases hu with rfl | rfl | rfl | rfl<;>rfl) | (rcases hu with rfl | rfl<;>rfl) | (subst hu;rfl)) (by omega) (by unfold maxLen;omega) (fun _ _ _=>by kernel_rfl) ?_;intro b_13 cap_14 cur_15 fz_16 w12 H12 hf_17 hr_18;clear H11;have hr_18t:Rw 1 cur_15 cap_14 (n+1) (cellsB (qb s z++ [Ub (0:BitVec 8)])):=by rw[zan];exact hr_18
  have hr_18n:n+1=Qo (qb s z++ [Ub (0:BitVec 8)]):=by have h0:n=Qo (qb s z):=hn;rw[Qx,<-h0];rfl
  refine rp [.v] H12 kr fun gs13 w13 H13=>wX [] ?_;clear H12;refine zb ?_;have HL4:St w.heap.size w w13 [(b_13,Qk cur_15 5 fz_16),((gs11 1).b,Qk #[.int .u8 0] 5 (0,0))]:=H13.as kr;clear H13;have hrw:=hr_18t;rw[zrG]at hrw;have HD5:St w.heap.size w w13 [(b_13,Qk cur_15 5 fz_16)]:=HL4.sub (Qq _ (Qs _ QS));show ∃m,_/\_;exact⟨_,(by omega),b_13,cap_14,n+1,cur_15,fz_16,(z+1),rfl,(by rw[za1];omega),hrw,hf_17,(by omega),HD5,zl⟩
 ·refine rp [itF (0<((n%136:Nat):Int))] H9 kr fun gs14 w14 H14=>wX [] ?_;clear H9;refine zb<|zi kr kr<|zE 0 kr<|wW ?_;have hnp:1<=n:=by omega
  refine zd [0,1,2,3,4,5,6,7,8,9,10,11,12] kr kr<|rp [.v,.v,.v,.E (.int .i64 (Qz.wrap ((n:Int)-1))) (.int .i64 ((n-1:Nat):Int)) (zf (kZ (a:=n) (b:=1) (by omega))),.v,.v,.v,.E (.int .i64 (Qz.wrap ((n:Int)-1))) (.int .i64 ((n-1:Nat):Int)) (zf (kZ (a:=n) (b:=1) (by omega))),itX 25 28 95 5 1 1 b 0 n cap (n-1) rfl,.ls (C:=cur) (off:=0+(n-1)*1) (v:=.int .u8 (Qj (US (Qm (qb s z) (n-1) 0)):Int)) 0 (hr.atB (by omega) hn),.E (.int .u8 (QG.wrap (((Qj (US (Qm (qb s z) (n-1) 0)):Int))+(128)))) (.int .u8 (Qj ((US (Qm (qb s z) (n-1) 0))+(128:BitVec 8)):Int)) (zam (US (Qm (qb s z) (n-1) 0)) (128:BitVec 8)),itX 21 24 95 5 1 1 b 0 n cap (n-1) rfl] H14 kr fun gs15 w15 H15=>wX [12] ?_;clear H14;obtain⟨cur_20,hc_21,hs_22,hr_23⟩:=hr.putB (n-1) (Ub ((US (Qm (qb s z) (n-1) 0))+(128:BitVec 8))) (by omega);refine zkA H15 0 [(b,Qk cur_20 5 fz)] 5 (.tmp 32) (.tmp 31) b (0+(n-1)*1) cur cur_20 5 fz (.int .u8 (Qj ((US (Qm (qb s z) (n-1) 0))+(128:BitVec 8)):Int)) kr kr kr kr hf kr kr hs_22 hc_21 kr ?_;intro w16 H16 hf_19;clear H15;refine zb<|zt [0,2,3,17] fun ρ1=>rS [.v,.a,.s 1] H16 kr fun gs17 w17 H17=>?_;clear H16;refine za kr<|rS [.v] H17 kr fun gs18 w18 H18=>?_;clear H17;refine zm 2 kr ?_;have HL6:St w.heap.size w w18 [(b,Qk cur_20 5 fz),((gs17 1).b,Qk #[wZ,wZ,wZ,wZ,wZ,wZ,wZ,wZ,wZ,wZ,wZ,wZ,wZ,wZ,wZ,wZ,wZ,wZ,wZ,wZ,wZ,wZ,wZ,wZ,wZ] 76 (0,0))]:=H18.as kr;clear H18;have hz2:z=135-Ql s%136:=by omega
  have hLr:Rw 1 cur_20 cap n (cellsB (PK s z)):=by have h0:=hr_23;rw[show n-1=(qb s z).length-1 by rw[<-hn]]at h0;exact h0
  have hLn:n=Qo (PK s z):=by rw[zrH];omega
  have hn136:n%136=0:=by omega
  have HS7:St w.heap.size w w18 [(b,Qk cur_20 5 fz),((gs17 1).b,Qk (Qn (svn zeroS)) 76)]:=by rw[show (Qn (svn zeroS))=#[wZ,wZ,wZ,wZ,wZ,wZ,wZ,wZ,wZ,wZ,wZ,wZ,wZ,wZ,wZ,wZ,wZ,wZ,wZ,wZ,wZ,wZ,wZ,wZ,wZ] from by kernel_rfl];exact HL6
  have HF8:St w.heap.size w w18 [(b,Qk cur_20 5 fz),((gs17 1).b,Qk (Qn (svn zeroS)) 76)]:=HS7.front 0 kr kr;have HF9:St w.heap.size w w18 [((gs17 1).b,Qk (Qn (svn zeroS)) 76),(b,Qk cur_20 5 fz)]:=HF8.front 1 kr kr;refine zO kr (fun mz ρ ww=> ∃(a:List (BitVec 64)) (m:Nat),n-136*m=mz/\(136*m<=n)/\(a.length=25)/\(takeB (zeroS,0) ((PK s z).take (136*m))=(a,0))/\St w.heap.size w ww [((gs17 1).b,Qk (Qn (svn a)) 76),(b,Qk cur_20 5 fz)]/\Is [(0,.string s),(2,.string (⟨#[]⟩)),(3,Qf b n cap),(4,Qe (gs17 1).b),(5,.int .i64 ((136*m:Nat):Int)),(17,.bool false)] ρ) (n-0) ⟨zeroS,0,rfl,(by omega),(by decide),rfl,HF9,zl⟩ ?_;clear HF9;rintro _ _ w19 ⟨a,m,rfl,hm,ha,ht,H19,_,rfl⟩;refine za kr<|zd [0,1,2,3] kr kr<|rp [.v,.v,.v] H19 kr fun gs20 w20 H20=>wX [3] ?_;clear H19;by_cases hc10:(136*m:Nat)<n
  ·refine rp [itT (((136*m:Nat):Int)<(n:Int))] H20 kr fun gs21 w21 H21=>wX [] ?_;clear H20;refine zb<|zh kr kr<|zj kr<|wW<|za kr<|zm 3 kr<|za kr<|rS [.v] H21 kr fun gs22 w22 H22=>?_;clear H21;refine zm 4 kr ?_;have HL11:St w.heap.size w w22 [((gs17 1).b,Qk (Qn (svn a)) 76),(b,Qk cur_20 5 fz)]:=H22.as kr;clear H22;have HX:St w.heap.size w w22 [((gs17 1).b,Qk (Qn (svn (xw a (wd s z m) 0))) 76 (0,0)),(b,Qk cur_20 5 fz)]:=by rw[<-zrA (wd s z m) ha];exact HL11
   refine zO kr (fun mz ρ ww=> ∃(i:Nat),17-i=mz/\(i<=17)/\St w.heap.size w ww [((gs17 1).b,Qk (Qn (svn (xw a (wd s z m) i))) 76 (0,0)),(b,Qk cur_20 5 fz)]/\Is [(0,.string s),(2,.string (⟨#[]⟩)),(3,Qf b n cap),(4,Qe (gs17 1).b),(5,.int .i64 ((136*m:Nat):Int)),(6,.int .i64 (i:Int)),(17,.bool false),(37,.bool true)] ρ) (17-0) ⟨0,rfl,(by omega),HX,zl⟩ ?_;clear HX;rintro _ _ w23 ⟨i,rfl,hi,H23,_,rfl⟩;refine za kr<|zd [0,1] kr kr<|rp [.v] H23 kr fun gs24 w24 H24=>wX [1] ?_;clear H23;by_cases hc12:(i:Nat)<17
   ·refine rp [itT ((i:Int)<17)] H24 kr fun gs25 w25 H25=>wX [] ?_;clear H24;refine zb<|zh kr kr<|zj kr<|wW<|za kr<|zm 5 kr ?_;have HL13:St w.heap.size w w25 [((gs17 1).b,Qk (Qn (svn (xw a (wd s z m) i))) 76 (0,0)),(b,Qk cur_20 5 fz)]:=H25.as kr;clear H25;refine D2.g_draw0 [0,1,2,3,4,5,6,7,8,9,10,11,12,13,14,15,16,17,18,19] [((some 44),fun _=>.int .i64 (i:Int)),((some 45),fun _=>.int .i64 (i:Int)),((some 46),fun _=>.pointer (some ⟨(gs17 1).b,0+i*1,none⟩)),((some 47),fun _=>.int .u64 (Qj (nth a i):Int)),((some 48),fun _=>Qf b n cap),((some 49),fun _=>.int .i64 ((136*m:Nat):Int)),((some 50),fun _=>.int .i64 (i:Int)),((some 51),fun _=>.int .i64 ((8*i:Nat):Int)),((some 52),fun _=>.int .i64 (((136*m)+(8*i):Nat):Int)),((some 53),fun _=>.int .i64 ((136*m:Nat):Int)),((some 54),fun _=>.int .i64 (i:Int)),((some 55),fun _=>.int .i64 ((8*i:Nat):Int)),((some 56),fun _=>.int .i64 (((136*m)+(8*i):Nat):Int)),((some 57),fun _=>.int .i64 ((((136*m)+(8*i))+8:Nat):Int)),((some 58),fun _=>.slice (some ⟨b,136*m+8*i,none⟩) 8 (cap-((136*m)+(8*i)))),((some 59),fun _=>.string (zg (Re 8 (UB (136*m+8*i) (PK s z))))),((some 60),fun _=>.int .u64 (Qj (wrk (Re 8 (UB (136*m+8*i) (PK s z))) 0 8):Int)),((some 61),fun _=>.int .u64 (Qj ((nth a i) ^^^ (wrk (Re 8 (UB (136*m+8*i) (PK s z))) 0 8)):Int)),((some 62),fun _=>.pointer (some ⟨(gs17 1).b,0+i*1,none⟩)),(none,fun _=>undef)] (D2.Pre w.heap.size w (fun L g=>[(true,(bif L 19 then ((gs17 1).b,Qk (Qn (svn (xw a (wd s z m) (i+1)))) 76 (0,0)) else ((gs17 1).b,Qk (Qn (svn (xw a (wd s z m) i))) 76 (0,0)))),(true,(b,Qk cur_20 5 fz))]) (fun L g=>True)) kr kr kr ⟨D2.StE.of HL13.drew _ kr,trivial⟩ ⟨?_,?_,?_,?_,?_,?_,?_,?_,?_,?_,?_,?_,?_,?_,?_,?_,?_,?_,?_,?_,trivial⟩ ?_
    ·exact D2.gv_vala
    ·exact D2.gv_vala
    ·exact D2.gv_op (fun _ _ _ h=>h) _ (fun g=>by kernel_rfl) (fun g=>(fun o w ho=>xj (kd:=.i64) (t:=76) (n:=25) (size:=1) kr (x:=(.tmp 4)) (y:=(.tmp 45)) (gs17 1).b 0 i ho kr kr (by omega) w))
    ·exact D2.gv_load1 22 (.tmp 46) 0 (fun g=>(gs17 1).b) (fun g=>0+i*1) (fun g=>(Qn (svn (xw a (wd s z m) i)))) 76 (0,0) (fun _ _ _ h=>h) (fun g=>by kernel_rfl) (fun g=>by kernel_rfl) (fun L g hN=>(by have hL19:L 19=false:=(hN.post 19 kr);exact D2.ent_get' (p:=true) (e:=(bif L 19 then ((gs17 1).b,Qk (Qn (svn (xw a (wd s z m) (i+1)))) 76 (0,0)) else ((gs17 1).b,Qk (Qn (svn (xw a (wd s z m) i))) 76 (0,0)))) kr (by rfl) (by simp only[hL19,cond_true,cond_false]<;>rfl))) kr (fun L g hN hF=>by exact((show nth (xw a (wd s z m) i) i=nth a i from zrB _ _ _ (by omega))▸uG (xw a (wd s z m) i) i _ (by omega) (by omega)))
    ·exact D2.gv_vala
    ·exact D2.gv_vala
    ·exact D2.gv_vala
    ·exact D2.gv_valE (fun _ _ _ h=>h) (V':=.int .i64 (Qz.wrap (8*(i:Int)))) (fun g w=>by kernel_rfl) (zf (ja (a:=8) (b:=i) (by omega)))
    ·exact D2.gv_valE (fun _ _ _ h=>h) (V':=.int .i64 (Qz.wrap (((136*m:Nat):Int)+((8*i:Nat):Int)))) (fun g w=>by kernel_rfl) (zf (ya (a:=136*m) (b:=8*i) (by omega)))
    ·exact D2.gv_vala
    ·exact D2.gv_vala
    ·exact D2.gv_valE (fun _ _ _ h=>h) (V':=.int .i64 (Qz.wrap (8*(i:Int)))) (fun g w=>by kernel_rfl) (zf (ja (a:=8) (b:=i) (by omega)))
    ·exact D2.gv_valE (fun _ _ _ h=>h) (V':=.int .i64 (Qz.wrap (((136*m:Nat):Int)+((8*i:Nat):Int)))) (fun g w=>by kernel_rfl) (zf (ya (a:=136*m) (b:=8*i) (by omega)))
    ·exact D2.gv_valE (fun _ _ _ h=>h) (V':=.int .i64 (Qz.wrap ((((136*m)+(8*i):Nat):Int)+8))) (fun g w=>by kernel_rfl) (zf (ya (a:=(136*m)+(8*i)) (b:=8) (by omega)))
    ·exact D2.gv_op (fun _ _ _ h=>h) _ (fun g=>by kernel_rfl) (fun g=>(fun o w ho=>zkx (kd:=.i64) (kz:=.i64) (t:=95) (e:=5) (size:=1) (bytes:=1) kr (x:=(.tmp 48)) (y:=(.tmp 57)) (z:=(.tmp 52)) b n cap ((136*m)+(8*i)) (((136*m)+(8*i))+8) ho kr kr kr (by have:=hLr.le;omega) (by omega) (by have:=hLr.le;omega) (136*m+8*i) (8) (by omega) (by omega) w))
    ·exact D2.gv_bytesCut 1 95 9 5 (.tmp 58) (fun g=>b) (136*m+8*i) 8 (cap-((136*m)+(8*i))) cap n cur_20 5 fz (PK s z) (fun _ _ _ h=>h) (fun g=>by kernel_rfl) kr kr kr (fun g=>by kernel_rfl) (fun L g hN=>kr) hLr (by omega)
    ·exact D2.gv_call 60 #[.string (zg (Re 8 (UB (136*m+8*i) (PK s z))))] (fun _ _ _ h=>h) (zrT (zg (Re 8 (UB (136*m+8*i) (PK s z)))) (show Ql (zg (Re 8 (UB (136*m+8*i) (PK s z))))=8 by rw[yU,Rb,Uv];omega)) (fun g w=>by kernel_rfl)
    ·exact D2.gv_valE (fun _ _ _ h=>h) (V':=.int .u64 (Q2 .xor .u64 ((Qj (nth a i):Int)) ((Qj (wrk (Re 8 (UB (136*m+8*i) (PK s z))) 0 8):Int)))) (fun g w=>by kernel_rfl) (zG (nth a i) (wrk (Re 8 (UB (136*m+8*i) (PK s z))) 0 8))
    ·exact D2.gv_op (fun _ _ _ h=>h) _ (fun g=>by kernel_rfl) (fun g=>(fun o w ho=>xj (kd:=.i64) (t:=76) (n:=25) (size:=1) kr (x:=(.tmp 4)) (y:=(.tmp 44)) (gs17 1).b 0 i ho kr kr (by omega) w))
    ·exact D2.gv_store 0 22 (.tmp 62) (.tmp 61) (fun g=>(gs17 1).b) (fun g=>0+i*1) (Qn (svn (xw a (wd s z m) i))) (Qn (svn (xw a (wd s z m) (i+1)))) 76 (.int .u64 (Qj ((nth a i) ^^^ (wrk (Re 8 (UB (136*m+8*i) (PK s z))) 0 8)):Int)) (fun g=>by kernel_rfl) (fun g=>by kernel_rfl) (fun g=>by kernel_rfl) kr kr (fun g=>(by show _+1<=25;omega)) (fun g=>((zrC a (wd s z m) i (by omega))▸zcj (xw a (wd s z m) i) i _ ((nth a i) ^^^ (wrk (Re 8 (UB (136*m+8*i) (PK s z))) 0 8)) (uf _ _ _) (by omega) (by omega))) (fun L g hN=>⟨(by have hL19:L 19=false:=hN.1;exact D2.ent_get' (p:=true) (e:=(bif L 19 then ((gs17 1).b,Qk (Qn (svn (xw a (wd s z m) (i+1)))) 76 (0,0)) else ((gs17 1).b,Qk (Qn (svn (xw a (wd s z m) i))) 76 (0,0)))) kr (by rfl) (by simp only[hL19,cond_true,cond_false]<;>rfl)),kr⟩) (fun L g hN hF=>hF)
    intro L0 G26 w26 hall HL;clear HL13;have H26:St w.heap.size w w26 [((gs17 1).b,Qk (Qn (svn (xw a (wd s z m) (i+1)))) 76 (0,0)),(b,Qk cur_20 5 fz)]:=by have e19:=hall 19 (Qp kr);have hS:=D2.StE.st HL.1;simp only[e19,cond_true,D2.pres]at hS;exact hS
    clear HL hall;refine wW<|zt [0,2,3,4,5,6,17,37,41] fun ρ2=>rL [.v,itI i 1,.v] H26 kr fun gs27 w27 H27=>?_;clear H26;have HL14:St w.heap.size w w27 [((gs17 1).b,Qk (Qn (svn (xw a (wd s z m) (i+1)))) 76 (0,0)),(b,Qk cur_20 5 fz)]:=H27.as kr;clear H27;show ∃m,_/\_;exact⟨_,(by omega),(i+1),rfl,(by omega),HL14,zl⟩
   ·refine rp [itF ((i:Int)<17)] H24 kr fun gs28 w28 H28=>wX [] ?_;clear H24;refine zb<|zi kr kr<|zE 4 kr<|wW<|rL [.l 0,.c (zrw (xw a (wd s z m) i)),.s 0] H28 kr fun gs29 w29 H29=>?_;clear H28;refine wW<|rL [.v,.E (.int .i64 (Qz.wrap (((136*m:Nat):Int)+136))) (.int .i64 (((136*m)+136:Nat):Int)) (zf (ya (a:=136*m) (b:=136) (by omega))),.v] H29 kr fun gs30 w30 H30=>?_;clear H29;have HL15:St w.heap.size w w30 [((gs17 1).b,Qk (Qn (svn (mix (xw a (wd s z m) i)))) 76 (0,0)),(b,Qk cur_20 5 fz)]:=H30.as kr;clear H30;have hw5:(.int .i64 (((136*m)+136:Nat):Int):Value)=.int .i64 ((136*(m+1):Nat):Int):=(zf (by omega))
    obtain rfl:i=17:=by omega
    show ∃m,_/\_;exact⟨_,(by omega),(mix (xw a (wd s z m) 17)),(m+1),rfl,(by omega),(zea (uf _ _ _)),(zrO s z m a ha ht (by omega)),HL15,(Is.of ⟨kr,kr,kr,kr,(Eq.trans (b:=.int .i64 (((136*m)+136:Nat):Int)) kr hw5),kr,trivial⟩)⟩
  ·refine rp [itF (((136*m:Nat):Int)<(n:Int))] H20 kr fun gs31 w31 H31=>wX [] ?_;clear H20;refine zb<|zi kr kr<|zE 2 kr<|wW<|rS [.nw (fun b=>Qf b 0 0) #[] 5,.v] H31 kr fun gs32 w32 H32=>?_;clear H31;refine za kr<|rS [.v] H32 kr fun gs33 w33 H33=>?_;clear H32;refine zm 6 kr ?_;have HL16:St w.heap.size w w33 [((gs17 1).b,Qk (Qn (svn a)) 76),(b,Qk cur_20 5 fz),((gs32 0).b,Qk #[] 5 (0,0))]:=H33.as kr;clear H33;have HD17:St w.heap.size w w33 [((gs17 1).b,Qk (Qn (svn a)) 76),((gs32 0).b,Qk #[] 5 (0,0))]:=HL16.sub (Qq _ (Qs _ (Qq _ QS)));have HF18:St w.heap.size w w33 [((gs17 1).b,Qk (Qn (svn a)) 76),((gs32 0).b,Qk #[] 5 (0,0))]:=HD17.front 0 kr kr;have HF19:St w.heap.size w w33 [((gs32 0).b,Qk #[] 5 (0,0)),((gs17 1).b,Qk (Qn (svn a)) 76)]:=HF18.front 1 kr kr;refine zO kr (fun mz ρ ww=> ∃(bo:Nat) (capo:Nat) (no:Nat) (curo:Qd) (i:Nat),32-i=mz/\(no=i)/\(Rw 1 curo capo no (cellsB (jO a i)))/\(i<=32)/\St w.heap.size w ww [(bo,Qk curo 5),((gs17 1).b,Qk (Qn (svn a)) 76)]/\Is [(0,.string s),(2,.string (⟨#[]⟩)),(3,Qf b n cap),(4,Qe (gs17 1).b),(5,.int .i64 ((136*m:Nat):Int)),(7,Qf bo no capo),(8,.int .i64 (i:Int)),(17,.bool false),(37,.bool false)] ρ) (32-0) ⟨(gs32 0).b,0,0,#[],0,rfl,rfl,(Rw.lit #[] 0 rfl (by unfold maxLen;omega)),(by omega),HF19,zl⟩ ?_;clear HF19;rintro _ _ w34 ⟨bo,capo,no,curo,i,rfl,hno,hro,hi,H34,_,rfl⟩;refine za kr<|zd [0,1] kr kr<|rp [.v] H34 kr fun gs35 w35 H35=>wX [1] ?_;clear H34;by_cases hc20:(i:Nat)<32
   ·refine rp [itT ((i:Int)<32)] H35 kr fun gs36 w36 H36=>wX [] ?_;clear H35;refine zb<|zh kr kr<|zj kr<|wW<|za kr<|zm 7 kr<|yu [0,1,2,3,4,5,6,7,8,9,10,11,12,13,14] kr<|rp [.v,.v,.E (.int .i64 (Qz.wrap ((i:Int).tdiv 8))) (.int .i64 ((i / 8:Nat):Int)) (zf (xq (a:=i) (b:=8) (by omega))),.o (ins:=[((.tmp 4),Qe (gs17 1).b),((.tmp 72),.int .i64 ((i / 8:Nat):Int))]) (v:=.pointer (some ⟨(gs17 1).b,0+(i / 8)*1,none⟩)) (fun ρ o w ho hi=>xj (kd:=.i64) (t:=76) (n:=25) (size:=1) kr (x:=(.tmp 4)) (y:=(.tmp 72)) (gs17 1).b 0 (i / 8) ho hi.1 hi.2.1 (by omega) w),.ls (C:=(Qn (svn a))) (off:=0+(i / 8)*1) (v:=.int .u64 (Qj (nth a (i / 8)):Int)) 1 (uG a (i / 8) _ (by omega) (by omega)),.v,.E (.int .i64 (UA (i:Int) 8)) (.int .i64 ((i%8:Nat):Int)) (zf (qw i 8)),.E (.int .i64 (Qz.wrap (8*((i%8:Nat):Int)))) (.int .i64 ((8*(i%8):Nat):Int)) (zf (ja (a:=8) (b:=i%8) (by omega))),.E (.int .u64 (QA.wrap (((8*(i%8):Nat):Int)))) (.int .u64 ((8*(i%8):Nat):Int)) (zf (yw (a:=8*(i%8)) (by omega))),.E (.int .u64 (Vc ((Qj (nth a (i / 8)):Int)) (2^(min (8*(i%8)) 64)))) (.int .u64 (Qj ((nth a (i / 8)) >>> (8*(i%8))):Int)) (zbj (nth a (i / 8)) (8*(i%8))),.E (.int .u64 (UA ((Qj ((nth a (i / 8)) >>> (8*(i%8))):Int)) (256))) (.int .u64 (Qj (((nth a (i / 8)) >>> (8*(i%8)))%(256:BitVec 64)):Int)) (zkl ((nth a (i / 8)) >>> (8*(i%8))) (256:BitVec 64)),.E (.int .u8 (QG.wrap ((Qj (((nth a (i / 8)) >>> (8*(i%8)))%(256:BitVec 64)):Int)))) (.int .u8 (Qj (Ry 8 (((nth a (i / 8)) >>> (8*(i%8)))%(256:BitVec 64))):Int)) (zfH (((nth a (i / 8)) >>> (8*(i%8)))%(256:BitVec 64))),.nw (fun b=>Qf b 1 1) #[.int .u8 (Qj (Ry 8 (((nth a (i / 8)) >>> (8*(i%8)))%(256:BitVec 64))):Int)] 5] H36 kr fun gs37 w37 H37=>wX [13,14] ?_;clear H36;refine vI H37 (some 83) 95 5 1 1 (.tmp 70) (.tmp 82) 0 2 bo ((gs37 12).b) no 1 capo 1 curo #[.int .u8 (Qj (Ry 8 (((nth a (i / 8)) >>> (8*(i%8)))%(256:BitVec 64))):Int)] 5 (0,0) (cellsB (jO a i)) ([.int .u8 (Qj (Ry 8 (((nth a (i / 8)) >>> (8*(i%8)))%(256:BitVec 64))):Int)]) (fun b_24 cur_26=>[(b_24,Qk cur_26 5),((gs17 1).b,Qk (Qn (svn a)) 76),((gs37 12).b,Qk #[.int .u8 (Qj (Ry 8 (((nth a (i / 8)) >>> (8*(i%8)))%(256:BitVec 64))):Int)] 5 (0,0))]) kr kr kr kr kr hro kr kr (by rfl) (by rfl) (by intro u hu;simp at hu;first | exact hu.elim | (rcases hu with rfl | rfl | rfl | rfl<;>rfl) | (rcases hu with rfl | rfl<;>rfl) | (subst hu;rfl)) (by omega) (by unfold maxLen;omega) (fun _ _=>by kernel_rfl) ?_;intro b_24 cap_25 cur_26 w38 H38 hr_27;clear H37;have hr_27t:Rw 1 cur_26 cap_25 (no+1) (cellsB (jO a i++ [Ub (Ry 8 (((nth a (i / 8)) >>> (8*(i%8)))%(256:BitVec 64)))])):=by rw[zan];exact hr_27
    have hr_27n:no+1=Qo (jO a i++ [Ub (Ry 8 (((nth a (i / 8)) >>> (8*(i%8)))%(256:BitVec 64)))]):=by have h0:no=Qo (jO a i):=(by rw[zrR];exact hno);rw[Qx,<-h0];rfl
    refine rp [.v] H38 kr fun gs39 w39 H39=>wX [] ?_;clear H38;refine zb<|wW<|zt [0,2,3,4,5,7,8,17,37,67] fun ρ3=>?_;have HK21:=H39.keep;clear H39;refine rL [.v,itI i 1,.v] HK21 kr fun gs40 w40 H40=>?_;clear HK21;have HL22:St w.heap.size w w40 [(b_24,Qk cur_26 5),((gs17 1).b,Qk (Qn (svn a)) 76),((gs37 12).b,Qk #[.int .u8 (Qj (Ry 8 (((nth a (i / 8)) >>> (8*(i%8)))%(256:BitVec 64))):Int)] 5 (0,0))]:=H40.as kr;clear H40;have hrw:Rw 1 cur_26 cap_25 (no+1) (cellsB (jO a (i+1))):=by rw[zrQ];have h0:=hr_27t;rw[zrS]at h0;exact h0
    have HD23:St w.heap.size w w40 [(b_24,Qk cur_26 5),((gs17 1).b,Qk (Qn (svn a)) 76)]:=HL22.sub (Qq _ (Qq _ (Qs _ QS)));show ∃m,_/\_;exact⟨_,(by omega),b_24,cap_25,no+1,cur_26,(i+1),rfl,(by omega),hrw,(by omega),HD23,zl⟩
   ·refine rp [itF ((i:Int)<32)] H35 kr fun gs41 w41 H41=>wX [] ?_;clear H35;refine zb<|zi kr kr<|zE 6 kr<|wW<|zd [0,1,2] kr kr<|rp [.v] H41 kr fun gs42 w42 H42=>wX [1,2] ?_;clear H41;refine zfP H42 (some 85) 95 9 5 (.tmp 84) 0 bo no capo curo 5 (0,0) (jO a i) kr kr kr kr kr kr kr hro<|rp [.v] H42 kr fun gs43 w43 H43=>wX [] ?_;clear H42;refine zb<|zk kr<|wV ?_;refine⟨[.string (zg (jO a i))],(.tmp (.string (zg (jO a i))) kr .nil),?_,H43.below⟩;obtain rfl:i=32:=by omega
    exact congrArg (fun x=>RQ (zg x)) (zrP s z m a hz2 ht (by omega))
end Ke
section
open D2 (Gh)
def qY (s:Qa):Qa:=zg (Kec.sumB (tl s))
theorem zcT (s:Qa):(qY s).size=32:=by unfold qY;rw[yU];exact Kec.sumB_len _
abbrev zjt:Value:=.tuple #[.string em,.int .i64 1]
theorem zrU {h:Hdr}(hr:rightH h=true):jl (wrV qa (hdF h))=.tuple #[.string (zY h),.int .i64 0]:=by
 unfold jl zY;rw[xR hr];rfl
theorem zrV (h:Hdr)(o:ub h)(hr:rightH h=false)(p:Qc)(n c:Nat)(q:Qc)(m k:Nat):FnP Tryz.prog 39 #[hdV h p n c q m k] (fun w=>qG w h p n q m) zjt:=by
 have hR:=zeP h o p n c q m k;rw[hr]at hR;refine zR [.tmp 2,.tmp 3] 12 Tryz.func39 fun w hP=>rS [.b,.v,.v] (St.start w) kr fun gs1 w1 H1=>za kr<|rS [.l 0,.cp hR [] (fun w hb hd=>hP.call hb),.v] H1 kr fun gs2 w2 H2=>zJ<|rS [.v,.v] H2 kr fun gs3 w3 H3=>?_;exact rR [.tmp 2,.tmp 3] [] zjt H3 kr
theorem zju (h:Hdr)(o:yj h)(hr:rightH h=true)(p:Qc)(n c:Nat)(q:Qc)(m k:Nat):FnP Tryz.prog 39 #[hdV h p n c q m k] (fun w=>qG w h p n q m) (.tuple #[.string (zY h),.int .i64 0]):=by
 have hR:=zeP h o.sm p n c q m k;rw[hr]at hR;refine zR [.tmp 2,.tmp 3] 12 Tryz.func39 fun w hP=>rS [.b,.v,.v] (St.start w) kr fun gs1 w1 H1=>za kr<|rS [.l 0,.cp hR [] (fun w hb hd=>hP.call hb),.v] H1 kr fun gs2 w2 H2=>yh<|wW<|zd [0,1,2,3,4,5,6] kr kr<|rp [.l 0] H2 kr fun gs3 w3 H3=>wX [1,2,3,4,5,6] ?_;have H4:St w.heap.size w w3 [((gs1 0).b,hdO h p n c q m k)]:=H3.as kr;refine qk H4 (some 8) 71 #[hdV h p n c q m k] (zqT h o hr p n c q m k) (hP.call H4.below) kr kr ?_;rintro _ T w4 ⟨pf,nf,cf,rfl,hin⟩ H5;refine yP H5 (some 9) 70 #[.string qa,.slice pf nf cf] _ _ (zhL qa pf nf cf (hdF h)) (hin.at H5 fun e he=>Rd _ he) ?_;intro w5 H6;refine rp [.v,.v,.v,.v] H6 kr fun gs4 w6 H7=>wX []<|zb<|wW ?_;exact rRe [.tmp 2,.tmp 3] [] (v:=jl (wrV qa (hdF h))) (v':=.tuple #[.string (zY h),.int .i64 0]) H7 (zrU hr) kr
def RdH (S:Qa)(h:Hdr)(e:Int):Prop:=(e=0/\rightH h=true/\wrV qa (hdF h)=(S,0))\/(e=4/\h=hd0/\ ∀k:Hdr,rightH k=true->yj k->wrV qa (hdF k)≠(S,0))
theorem zjv:yj hd0:=⟨by decide,by decide,QU _,QU _,QU _,QU _,QU _,QU _,(fun _ h=>nomatch h),QU _,(fun _ h=>nomatch h),QU _⟩
theorem xH.one {S:Qa}{v:Value}{T:Qb}(h:xH S v T):∃(h:Hdr) (p:Qc) (n c:Nat) (q:Qc) (m k:Nat) (T1 T2:Qb) (e:Int),v=.tuple #[hdV h p n c q m k,.int .i64 e]/\yj h/\yl sS 9 p n c T1 h.vs/\yl sgF 52 q m k T2 h.ss/\T=T1++T2/\RdH S h e:=by
 rcases h with⟨h,p,n,c,q,m,k,T1,T2,hv,hr,ho,h1,h2,hT,hw⟩|⟨hv,hT,hno⟩
 ·exact⟨h,p,n,c,q,m,k,T1,T2,0,hv,ho,h1,h2,hT,.inl ⟨rfl,hr,hw⟩⟩
 ·exact⟨hd0,none,0,0,none,0,0,[],[],4,hv,zjv,.inl ⟨rfl,rfl,rfl,rfl,rfl⟩,.inl ⟨rfl,rfl,rfl,rfl,rfl⟩,hT,.inr ⟨rfl,rfl,hno⟩⟩
theorem zeV {h k:Hdr}{S:Qa}(oh:yj h)(ok:yj k)(rh:rightH h=true)(rk:rightH k=true)(e1:wrV qa (hdF h)=(S,0))(e2:wrV qa (hdF k)=(S,0)):h=k:=by
 unfold wrV at e1 e2;rw[jq.parse]at e1 e2;exact zpo oh ok rh rk (uE e1 e2 (uK oh) (uK ok))
end
abbrev kj (x:Txn):Qa×Nat:=txW x.1 x.2.1 x.2.2.1 x.2.2.2.1 x.2.2.2.2.1 x.2.2.2.2.2
abbrev zD (x:Txn):Qa:=(kj x).1
abbrev rtX (x:Txn):Bool:=yQ x.1 x.2.2.2.1 x.2.2.2.2.1 x.2.2.2.2.2
def vB (x:Txn):Fo:=.cons false x.1 .nil (.cons false (zg (dg x.2.1)) .nil (.cons false (zg (dg x.2.2.1)) .nil (.cons false (sgB x.2.2.2) .nil .nil)))
theorem zrW (x:Txn):yF (txF x.1 x.2.1 x.2.2.1 (sgB x.2.2.2)) 40 (kfL xC) 0=vB x:=by
 unfold txF vB;rw[jm _ _ _ 0 (by decide),jm _ _ _ 1 (by decide),jm _ _ _ 2 (by decide),jm _ _ _ 3 (by decide)];rfl
theorem za2 {x:Txn} :rtX x=true↔x.1.size=20/\sgMay x.2.2.2=true:=by
 unfold rtX yQ;rw[Qu,decide_eq_true_iff]
theorem zjw {x:Txn}(r:rtX x=true):kj x=zC true emB (vB x).len (vB x):=by
 have q:=za2.1 r;unfold kj;rw[ke r,zaM jp,if_pos ⟨(zcv _).2 ⟨_,_,_,_,rfl,q.1,jZ _ _ _⟩,by rw[zo0];decide⟩];rw[show txF x.1 x.2.1 x.2.2.1 (sbs x.2.2.2.1 x.2.2.2.2.1 x.2.2.2.2.2)=txF x.1 x.2.1 x.2.2.1 (sgB x.2.2.2) from rfl,zrW]
theorem zjx {x:Txn}(r:rtX x=true):wtF (vB x)<=200:=by
 have q:=za2.1 r;have d1:=qB x.2.1;have d2:=qB x.2.2.1;have d3:(sgB x.2.2.2).size=65:=jZ _ _ _;have ez:emB.size=0:=rfl;simp only[vB,wtF,yU];omega
theorem zjy {k:Fo}(hp:pureF k=true)(hc:k.cnt<=3999)(hd:dpF k<=7)(hw:wtF k<=3980):(zC true emB k.len k).2=0:=by
 have h1:=vg k;have h2:=zav true emB (szF k);have ez:emB.size=0:=rfl;have hl:lf1 true emB k.len (lfF k) 4000=some (3999-k.cnt):=by
  unfold lf1;rw[if_neg (by simp[mixed];rfl),kG,if_pos ⟨hp,hc⟩]
 have hd1: ¬8<dp1 true (dpF k):=by unfold dp1;simp<;>omega
 unfold zC;rw[hl];simp only[];rw[if_neg hd1,if_neg (by omega)]
theorem zjz {k:Fo}(h:(zC true emB k.len k).2=0):(zC true emB k.len k).1.size<=9+wtF k:=by
 obtain⟨e,_,_,_,_,_,hl⟩:=jW h;have h1:=vg k;have h2:=zav true emB (szF k);have ez:emB.size=0:=rfl;rw[e,yU];have hl2:(wr1 true emB (szF k) (wrF k)).length=sz1 true emB (szF k):=by first | exact hl.1 | exact hl
 omega
theorem uh {x:Txn}(r:rtX x=true):(kj x).2=0:=by
 rw[zjw r];exact zjy rfl (by simp only[vB,Fo.cnt];omega) (by simp only[vB,dpF,dp1];decide) (by have:=zjx r;omega)
theorem zeW {x:Txn}(r:rtX x=true):(zD x).size<=209:=by
 have h:=uh r;have hw:=zjx r;unfold zD;rw[zjw r]at h⊢;have:=zjz h;omega
theorem zrX {h:Hdr}(r:rightH h=true):wrV qa (hdF h)=zC true emB (hdI h).len (hdI h):=by
 have q:=jC.1 r;have hs:=q.st;unfold setM at hs;simp only[Qu,decide_eq_true_eq]at hs;have a7:=q.sl;have hc:(hdF h).cnt<=1000:=by
  simp only[hdF,hdL,Fr.cnt,zeo,Ra];omega
 rw[zaM jq,if_pos ⟨ziA r,hc⟩,ziy]
theorem zeX {h:Hdr}(r:rightH h=true):(zY h).size<=2509:=by
 have h0:=xR r;have hw:=ziB r;unfold zY;rw[zrX r]at h0⊢;have:=zjz h0;omega
def jt:Qi->Qa
 | []=>em
 | a::r=>a++jt r
def sumTs (L:List Txn):Qa:=qY (jt (L.map fun x=>qY (zD x)))
def yA (h:Hdr)(L:List Txn):Bool:=rightH h&&(decide (L.length<=4)&&(L.all rtX&&decide (sumTs L=h.tx)))
def bkI (s:Qa)(L:Qi):Fo:=.cons false s .nil (lsI L)
def jf (h:Hdr)(L:List Txn):Qa×Nat:=zC true emB (bkI (zY h) (L.map zD)).len (bkI (zY h) (L.map zD))
structure zeY (h:Hdr)(L:List Txn):Prop where
 hd:rightH h=true
 ln:L.length<=4
 al:L.all rtX=true
 sm:sumTs L=h.tx
theorem qJ {h:Hdr}{L:List Txn} :yA h L=true↔zeY h L:=by
 unfold yA;simp only[Qu,decide_eq_true_eq];exact⟨fun⟨a,b,c,d⟩=>⟨a,b,c,d⟩,fun⟨a,b,c,d⟩=>⟨a,b,c,d⟩⟩
theorem za3 {h:Hdr}{L:List Txn}(r:yA h L=true):(jf h L).2=0:=by
 have q:=qJ.1 r;have hs:=zeX q.hd;have hl:=q.ln;have hw:=zcy (L:=L.map zD) (z:=209) fun x hx=>by
  obtain⟨y,hy,rfl⟩:=Rk.1 hx;exact zeW (QN.1 q.al y hy)
 rw[Ra]at hw;have hp:=zcx (L.map zD);have hd:=zev (L.map zD);refine zjy ?_ ?_ ?_ ?_
 ·simp only[bkI,pureF,hp,mixed];rfl
 ·simp only[bkI,Fo.cnt,zeu,Ra];omega
 ·simp only[bkI,dpF,hd,dp1];decide
 ·simp only[bkI,wtF];omega
theorem zjA: ∀ {L M:Qi},lsI L=lsI M->L=M
 | [],[],_=>rfl
 | a::r,b::t,h=>by
  unfold lsI at h;injection h with _ h1 _ h2
  rw[h1,zjA h2]
 | [],b::t,h=>by unfold lsI at h;cases h
 | a::r,[],h=>by unfold lsI at h;cases h
theorem zrY {x y:Txn}(ox:yS x)(oy:yS y)(rx:rtX x=true)(ry:rtX y=true)(e:zD x=zD y):x=y:=by
 have e1:kj x=(zD x,0):=UN rfl (uh rx);have e2:kj y=(zD x,0):=UN e.symm (uh ry);unfold kj at e1 e2;rw[ke rx]at e1;rw[ke ry]at e2;unfold wrV at e1 e2;rw[jp.parse]at e1 e2;have qx:=za2.1 rx;have qy:=za2.1 ry;have h:=uE e1 e2 (uQ (by omega) ox.1 ox.2.1 (by rw[jZ];omega)) (uQ (by omega) oy.1 oy.2.1 (by rw[jZ];omega));obtain⟨a1,a2,a3,a4⟩:=zeh h;exact UN a1 (UN a2 (UN a3 (zir ox.2.2 oy.2.2 qx.2 qy.2 a4)))
theorem zcU: ∀ {L M:List Txn},(∀x∈L,yS x)->(∀x∈M,yS x)->L.all rtX=true->M.all rtX=true->L.map zD=M.map zD->L=M
 | [],[],_,_,_,_,_=>rfl
 | x::r,y::t,oL,oM,aL,aM,h=>by
  simp only[List.all_cons,Qu]at aL aM;simp only[List.map_cons,List.cons.injEq]at h;rw[zrY (oL x (QX ..)) (oM y (QX ..)) aL.1 aM.1 h.1,zcU (fun z hz=>oL z (QR _ hz)) (fun z hz=>oM z (QR _ hz)) aL.2 aM.2 h.2]
 | [],y::t,_,_,_,_,h=>by simp at h
 | x::r,[],_,_,_,_,h=>by simp at h
theorem zrZ {h k:Hdr}{L M:List Txn}(oh:yj h)(ok:yj k)(oL: ∀x∈L,yS x)(oM: ∀x∈M,yS x)(r1:yA h L=true)(r2:yA k M=true)(e:(jf h L).1=(jf k M).1):h=k/\L=M:=by
 have q1:=qJ.1 r1;have q2:=qJ.1 r2;have w1:=za3 r1;have w2:=za3 r2;obtain⟨e1,_⟩:=jW w1;obtain⟨e2,_⟩:=jW w2;unfold jf at e;rw[e1,e2]at e;have e3:=congrArg tl e;rw[qq,qq]at e3;obtain⟨_,_,e4,_⟩:=zmI (A:=[]) (B:=[]) w1 w2 (by rw[QI,QI];exact e3);unfold bkI at e4;injection e4 with _ a1 _ a2
 have e5:h=k:=zeV oh ok q1.hd q2.hd (UN rfl (xR q1.hd)) (UN a1.symm (xR q2.hd));exact⟨e5,zcU oL oM q1.al q2.al (zjA a2)⟩
def za4 (x:Txn):Txn:=(x.1.extract 0 (min x.1.size 40),x.2)
def xg (l:List Txn):List Txn:=(l.take 8).map za4
theorem zjB {l:List Txn}(h: ∀x∈l,yS x): ∀x∈xg l,yS x/\x.1.size<=40:=fun x hx=>by
 obtain⟨y,hy,rfl⟩:=Rk.1 hx;refine⟨h y (List.mem_of_mem_take hy),?_⟩;show (y.1.extract 0 (min y.1.size 40)).size<=40;rw[Uq];omega
theorem zr0 (p:Qc)(n c:Nat)(L:List Txn)(hp:qL p n c):FnT Tryz.prog 17 #[.slice p n c] (fun w=>AtF tnS w p n L) (ziK tnS 54 (xg L)):=by
 refine qz [.tmp 2] 32 Tryz.func17 fun w hP=>?_;have hn:=hP.1;have hP2:=hP.take (min n 8) (Vu _ _);rw[zeC hn]at hP2;have hml:min n 8=(L.take 8).length:=hP2.1;unfold xg;generalize hM:L.take 8=M at*;obtain⟨m,hm⟩:∃m,min n 8=m:=⟨_,rfl⟩
 have H0:=St.start w;refine rS [.v] H0 kr fun gs1 w1 H1=>zd [0,1,2,3,4,5,6,7] kr kr<|rp [.nw (fun b=>Qf b 0 0) #[] 54,.v,.v,.v,.E (.int .i64 (if (8:Int)<(n:Int) then (8:Int) else (n:Int))) (iN m) (zf (by rw[<-hm];split<;>omega)),.o (ins:=[((.tmp 6),.slice p n c),((.tmp 9),iN m)]) (v:=.slice p m c) (fun ρ o w ho hi=>zdl (t:=27) (e:=54) (size:=12) (bytes:=104) (kd:=.i64) kr (x:=(.tmp 6)) (y:=(.tmp 9)) hp (by omega) ho hi.1 hi.2.1 w)] H1 kr fun gs2 w2 H2=>wX [6,7] ?_;have H3:St w.heap.size w w2 [((gs2 0).b,.cells #[] 54 (0,0))]:=H2.as kr;rw[hm]at hP2;refine zpB (S:=tnS) H3 (some 11) 27 54 104 (.tmp 5) (.tmp 10) 0 (gs2 0).b 0 0 m c p #[] [] M kr kr kr kr kr ⟨rfl,QH _,QU _,rfl,rfl⟩ kr (hP2.call H3.below) (hp.cut (by omega)) (by omega) (by unfold maxLen;omega) ?_;intro b k cur w3 H4 hrw;rw[Q9,RS]at hrw;rw[Q9];refine rp [.v] H4 kr fun gs3 w4 H5=>wX []<|zb<|wW<|za kr<|rS [.v,.v,.v] H5 kr fun gs4 w5 H6=>?_;have H7:St w.heap.size w w5 [(b,.cells cur 54)]:=H6.as kr;refine yR 14 13 15 30 0 1 m (by omega) (fun i ρ ww=> ∃cur,Rw 12 cur k m (cellsF tnS ((M.take i).map za4++M.drop i))/\St w.heap.size w ww [(b,.cells cur 54)]/\Is [(0,Qf b m k),(12,Qf b m k),(13,iN m),(14,iN i)] ρ) (by rintro i _ ww ⟨_,_,_,_,rfl⟩;exact⟨kr,kr⟩) ⟨cur,hrw,H7,isK⟩ ?_ ?_
 ·clear H0 H1 H2 H3 H4 H5 H6 H7 hrw;rintro i _ w4 hi ⟨cur,hrw,H5,_,rfl⟩;obtain⟨x,hx⟩:∃x,M[i]? =some x:=⟨_,Qr (by omega)⟩
  obtain⟨hx2,hset⟩:=ziJ (g:=za4) hx;have hput:=Rw.setF (S:=tnS) (y:=za4 x) hrw hx2 0 (.string (x.1.extract 0 (min x.1.size 40))) (show 0+1<=12 by decide) rfl;rw[hset]at hput;have hat:=hrw.rowAt (S:=tnS) i x hx2;refine rS [.v,itX 12 14 27 54 12 104 b 0 m k i rfl,.lp 0 (C:=cur) (off:=0+i*12) (n:=12) (W:=tnC x) hat.1 hat.2,.a,.v,.s 1] H5 kr fun gs5 w6 H7=>rL [.v,.v,.v,.l 1,.v,.l 1,.v,.E (.int .i64 (if (40:Int)<((x.1.size:Nat):Int) then (40:Int) else ((x.1.size:Nat):Int))) (iN (min x.1.size 40)) (zf (by split<;>omega)),.o (ins:=[((.tmp 22),.string x.1),((.tmp 26),iN (min x.1.size 40))]) (v:=.string (x.1.extract 0 (min x.1.size 40))) (fun ρ o w ho hi=>xW (t:=9) (kd:=.i64) kr (x:=(.tmp 22)) (y:=(.tmp 26)) x.1 (min x.1.size 40) ho hi.1 hi.2.1 (Vu _ _) w),itX 19 20 27 54 12 104 b 0 m k i rfl,.v,.se 0 (C:=cur) (C':=putA cur (0+i*12+0) (.string (x.1.extract 0 (min x.1.size 40)))) (off:=0+i*12+0) (v:=.string (x.1.extract 0 (min x.1.size 40))) hput.1 rfl] H7 kr fun gs6 w7 H8=>?_;exact⟨kr,_,hput.2,(H8.as (l:=[(b,.cells (putA cur (0+i*12+0) (.string (x.1.extract 0 (min x.1.size 40)))) 54 (0,0)),((gs5 3).b,.cells (tnC x) 54)]) kr).sub (List.sublist_append_left [_] [_]),isK⟩
 ·clear H0 H1 H2 H3 H4 H5 H6 H7 hrw;rintro _ w4 ⟨cur,hrw,H5,_,rfl⟩;rw[Qy (by omega),UE (by omega),QI]at hrw;refine wW<|rS [.v,.v] H5 kr fun gs5 w6 H7=>rRr [.tmp 2] [] (Qf b m k) (zV w.heap.size w (ziK tnS 54 (M.map za4))) H7 kr ?_;exact⟨_,⟨b,m,k,cur,rfl,rfl,hrw⟩,H7.as kr⟩
theorem zeZ: ∀(L:Qi) (x:Qa),tl (jt (L++ [x]))=tl (jt L)++tl x
 | [],x=>by
  show tl (x++em)=tl em++tl x;rw[xr];show tl x++ []=[]++tl x;rw[QI,RS]
 | a::r,x=>by
  show tl (a++jt (r++ [x]))=tl (a++jt r)++tl x;rw[xr,xr,zeZ r x,QD]
def tkQ (A:Qi):List (BitVec 64)×Nat:=Kec.takeB (Kec.zeroS,0) (tl (jt A))
theorem zjC (A:Qi):Kec.StOK (tkQ A):=Kec.takeB_ok _ Kec.zero_ok
theorem zr1 (A:Qi)(x:Qa):tkQ (A++ [x])=Kec.takeB (tkQ A) (tl x):=by
 unfold tkQ;rw[zeZ,Kec.takeB_append]
theorem zr2 (p:Qc)(n c:Nat)(A:Qi)(hA:A.length<=1000000)(hz: ∀x∈A,x.size<=1000000):FnP Tryz.prog 21 #[.slice p n c] (fun w=>AtF sS w p n A/\Ke.Marks w) (.string (qY (jt A))):=by
 refine zR [.tmp 2] 26 Tryz.func21 fun w hP=>?_;obtain⟨hP,hM⟩:=hP;have hn:=hP.1;have H0:=St.start w;refine rS [.v] H0 kr fun gs1 w1 H1=>rS [.a] H1 kr fun gs2 w2 H2=>rS [.v] H2 kr fun gs3 w3 H3=>za kr<|rS [.v,.v,.v] H3 kr fun gs4 w4 H4=>yR 9 8 10 20 0 1 n (by omega) (fun i ρ ww=> ∃q,tkQ (A.take i)=q/\St w.heap.size w ww [((gs2 0).b,.cells (Qn (Ke.svn q.1)) 76)]/\Is [(3,Qe (gs2 0).b),(4,.int .i64 ((q.2:Nat):Int)),(7,.slice p n c),(8,iN n),(9,iN i)] ρ) (by rintro i _ ww ⟨_,_,_,_,rfl⟩;exact⟨kr,kr⟩) ⟨(Kec.zeroS,0),rfl,H4.as kr,isK⟩ ?_ ?_
 ·clear H0 H1 H2 H3 H4;rintro i _ w5 hi ⟨q,hq,H5,_,rfl⟩;obtain⟨x,hx⟩:∃x,A[i]? =some x:=⟨_,Qr (by omega)⟩
  obtain⟨bl,off,C,T,fz,hp,hh,hR⟩:=hP.row2 (by omega);have hcx:C[off+i*1]? =some (.string x):=hR.cell hx 0 (by decide);have hqk:Kec.StOK q:=hq▸zjC _;have hzx:=hz x (QF hx);refine rS [itX 7 9 23 9 1 16 bl off n c i hp,.fs (off:=off+i*1) (v:=.string x) hh (zo hh) hcx,.v] H5 kr fun gs5 w6 H6=>rL [.l 0,.v,.v,.cp (pre:=Ke.Marks) (Ke.take_fnq q hqk x (by omega)) [] (fun w hb hd=>qm hM hb),.v,.v,.v,.s 0,.v] H6 kr fun gs6 w7 H7=>?_;exact⟨kr,_,(by rw[yZ hx,zr1,hq]),H7.as kr,isK⟩
 ·clear H0 H1 H2 H3 H4;rintro _ w5 ⟨q,hq,H5,_,rfl⟩;rw[Qy (by omega)]at hq;have hqk:Kec.StOK q:=hq▸zjC _;refine wW<|rS [.l 0,.v,.c (Ke.end_fnq q hqk),.cp (pre:=Ke.Marks) (Ke.mix_fn (Kec.endB q)) [] (fun w hb hd=>qm hM hb),.c (Ke.first_fn (Kec.mix (Kec.endB q))),.v] H5 kr fun gs8 w8 H8=>?_;exact rRe [.tmp 2] [] (v:=.string (zg (Kec.firstB (Kec.mix (Kec.endB q))))) (v':=.string (qY (jt A))) H8 (by rw[<-hq];rfl) kr
def vC (L:List Txn):Value:=.tuple #[.string (if L.all rtX=true then sumTs L else em),.int .i64 (if L.all rtX=true then 0 else 1)]
def qn (x:Txn):Prop:=yS x/\x.1.size<=1000000
abbrev tn0:Txn:=(em,0,0,0,0,0)
abbrev tnO (x:Txn):Obj:=.cells (tnC x) 54
theorem zr3 (x:Txn)(o:qn x)(r:rtX x=true):FnP Tryz.prog 20 #[tnV x] Ke.Marks (.tuple #[.string (qY (zD x)),.int .i64 0]):=by
 have h:=zjj x.1 x.2.1 x.2.2.1 x.2.2.2.1 x.2.2.2.2.1 x.2.2.2.2.2 o.2 o.1.1 o.1.2.1 o.1.2.2.1 o.1.2.2.2;rw[if_pos (uh r)]at h;exact h
theorem zr4 (x:Txn)(o:qn x)(r:rtX x=false):FnP Tryz.prog 20 #[tnV x] Ke.Marks (.tuple #[.string em,.int .i64 1]):=by
 have h:=zjj x.1 x.2.1 x.2.2.1 x.2.2.2.1 x.2.2.2.2.1 x.2.2.2.2.2 o.2 o.1.1 o.1.2.1 o.1.2.2.1 o.1.2.2.2;rw[zo1 (show yQ x.1 x.2.2.2.1 x.2.2.2.2.1 x.2.2.2.2.2=false from r)]at h;exact h
theorem ze0 (p:Qc)(n c:Nat)(L:List Txn)(hL:L.length<=1000000)(hO: ∀x∈L,qn x):FnP Tryz.prog 6 #[.slice p n c] (fun w=>AtF tnS w p n L/\Ke.Marks w) (vC L):=by
 refine zR [.tmp 2,.tmp 3] 30 Tryz.func6 fun w hP=>?_;obtain⟨hP,hM⟩:=hP;have hn:=hP.1;have H0:=St.start w;refine rS [.v,.v] H0 kr fun gs1 w1 H1=>rS [.v] H1 kr fun gs2 w2 H2=>za kr<|rS [.v,.v,.v] H2 kr fun gs3 w3 H3=>yR 11 10 12 27 0 1 n (by omega) (fun i ρ ww=> ∃q m k row,(L.take i).all rtX=true/\yl sS 9 q m k row ((L.take i).map fun x=>qY (zD x))/\St w.heap.size w ww row/\Is [(0,.slice p n c),(4,.slice q m k),(9,.slice p n c),(10,iN n),(11,iN i)] ρ) (by rintro i _ ww ⟨_,_,_,_,_,_,_,_,rfl⟩;exact⟨kr,kr⟩) ⟨none,0,0,[],rfl,.inl ⟨rfl,rfl,rfl,rfl,rfl⟩,H3.as kr,isK⟩ ?_ ?_
 ·clear H0 H1 H2 H3;rintro i _ w5 hi ⟨q,m,k,row,hal,hrow,H5,_,rfl⟩;obtain⟨x,hx⟩:∃x,L[i]? =some x:=⟨_,Qr (by omega)⟩
  obtain⟨bl,off,C,T,fz,hp,hh,hR⟩:=hP.row2 (by omega);have ox:=hO x (QF hx);have hm:=hrow.len;rw[Ra,Rb]at hm;refine zd [0,1,2,3] kr kr<|rp [itX 9 11 27 54 12 104 bl off n c i hp,.fp (off:=off+i*12) (n:=12) (W:=tnC x) hh (zo hh) (hR _ _ hx).1 (hR _ _ hx).2] H5 kr fun gs5 w6 H6=>wX [2,3] ?_;have H6':St w.heap.size w w6 row:=H6.as kr;refine zA H6' (some 6) 54 (tnV tn0) kr kr kr ?_;intro b1 w7 H7;refine rp [.s 0] H7 kr fun gs6 w8 H8=>wX []<|zb ?_;have H9:St w.heap.size w w8 ((b1,tnO x)::row):=H8.as kr;cases rx:rtX x with
  | false=>
   have e9:L.all rtX≠true:=fun e=>by
    rw[QN.1 e x (QF hx)]at rx;cases rx
   refine rS [.l 0,.cp (pre:=Ke.Marks) (zr4 x ox rx) [] (fun w hb hd=>qm hM hb),.v,.v,.v,.v,.v] H9 kr fun gs7 w9 H10=>za kr<|rS [.v,.v] H10 kr fun gs8 w10 H11=>zJ<|rS [.v,.v,.v] H11 kr fun gs9 w11 H12=>?_;exact rRe [.tmp 2,.tmp 3] [] (v:=.tuple #[.string em,.int .i64 1]) (v':=vC L) H12 (by unfold vC;rw[if_neg e9,if_neg e9]) kr
  | true=>
   refine rS [.l 0,.cp (pre:=Ke.Marks) (zr3 x ox rx) [] (fun w hb hd=>qm hM hb),.v,.v,.v,.v,.v] H9 kr fun gs7 w9 H10=>za kr<|rS [.v,.v] H10 kr fun gs8 w10 H11=>yh<|wW<|yu [0,1,2,3,4] kr<|rp [.v,.v] H11 kr fun gs9 w11 H12=>wX [2,3,4] ?_;have H13:St w.heap.size w w11 ((b1,tnO x)::row):=H12.as kr;refine jT H13 (some 25) (fun b=>Qf b 1 1) (sS.cs (qY (zD x))).toArray 9 kr kr ?_;intro nb w12 H14;refine xL (S:=sS) (Z:=[(b1,tnO x)]) (some 26) 23 9 16 (.tmp 23) (.tmp 25) (H14.perm (QM _ (QV (l₁:=row) (l₂:=[(b1,tnO x)])))) hrow kr kr kr kr kr (by omega) (by unfold maxLen;omega) ?_;intro b' cap' cur' w13 H15 hrn;refine rp [.v] H15 kr fun gs10 w14 H16=>wX []<|zb ?_;have H17:St w.heap.size w w14 [(b',.cells cur' 9),(b1,tnO x)]:=H16.as kr;refine⟨kr,Qg b',m+1,cap',[(b',.cells cur' 9)],?_,.inr ⟨b',cur',rfl,rfl,?_⟩,H17.sub (Qq _ (QE _)),isK⟩
   ·rw[yZ hx,VH,hal,UJ];simpa using rx
   ·rw[yZ hx,RD];exact hrn
 ·clear H0 H1 H2 H3;rintro _ w5 ⟨q,m,k,row,hal,hrow,H5,_,rfl⟩;rw[Qy (by omega)]at hal hrow;refine wW<|zd [0,1,2,3] kr kr<|rp [.v] H5 kr fun gs5 w6 H6=>wX [1,2,3] ?_;have H7:St w.heap.size w w6 row:=H6.as kr;refine zaa H7 (some 29) 21 #[.slice q m k] _ _ (zr2 q m k (L.map fun x=>qY (zD x)) (by rw[Ra];exact hL) (fun y hy=>by obtain⟨z,_,rfl⟩:=Rk.1 hy;rw[zcT];omega)) ⟨hrow.atF H7 fun e he=>he,qm hM H7.below⟩ (fun w=>by kernel_rfl) kr ?_;intro w7 H8;refine rp [.v,.v] H8 kr fun gs6 w8 H9=>wX []<|zb<|wW ?_;exact rRe [.tmp 2,.tmp 3] [] (v:=.tuple #[.string (qY (jt (L.map fun x=>qY (zD x)))),.int .i64 0]) (v':=vC L) H9 (by unfold vC;rw[if_pos hal,if_pos hal];rfl) kr
abbrev bkO (h:Hdr)(p:Qc)(n c:Nat)(q:Qc)(m k:Nat)(t:Qc)(z e:Nat):Obj:=.cells (bkC h p n c q m k t z e) 29
theorem zcV (h:Hdr)(L:List Txn)(o:ub h)(hL:L.length<=1000000)(hO: ∀x∈L,qn x)(p:Qc)(n c:Nat)(q:Qc)(m k:Nat)(t:Qc)(z e:Nat):FnP Tryz.prog 10 #[bkV h p n c q m k t z e] (fun w=>qH w h L p n q m t z/\Ke.Marks w) (.bool (yA h L)):=by
 refine zR [.tmp 2] 30 Tryz.func10 fun w hP=>?_;obtain⟨⟨hH,hT⟩,hM⟩:=hP;have hz:=hT.1;have no: ¬zeY h L->yA h L=false:=fun g=>RE.2 fun e=>g (qJ.1 e);have hR:=zeP h o p n c q m k;have hs:=ze0 t z e L hL hO;refine rS [.b,.v] (St.start w) kr fun gs1 w1 H1=>za kr ?_;by_cases h4:z<=4
 case neg=>
  refine rS [.v,.l 0,.v,itT ((z:Int)>4),.v,.n,.n,.n,.n,.v] H1 kr fun gs2 w2 H2=>zJ<|rS [.v] H2 kr fun gs3 w3 H3=>?_;exact rRe [.tmp 2] [] (v:=.bool false) (v':=.bool (yA h L)) H3 (zc (no fun g=>h4 (by rw[hz];exact g.ln)).symm) kr
 cases hr:rightH h with
 | false=>
  rw[hr]at hR;refine rS [.v,.l 0,.v,itF ((z:Int)>4),.v,.v,.l 0,.cp hR [] (fun w hb hd=>hH.call hb),.v,.v] H1 kr fun gs2 w2 H2=>zJ<|rS [.v] H2 kr fun gs3 w3 H3=>?_;exact rRe [.tmp 2] [] (v:=.bool false) (v':=.bool (yA h L)) H3 (zc (no fun g=>by rw[g.hd]at hr;cases hr).symm) kr
 | true=>
  rw[hr]at hR;refine rS [.v,.l 0,.v,itF ((z:Int)>4),.v,.v,.l 0,.cp hR [] (fun w hb hd=>hH.call hb),.v,.v] H1 kr fun gs2 w2 H2=>yh<|wW ?_;by_cases hal:L.all rtX=true
  case neg=>
   unfold vC at hs;rw[if_neg hal,if_neg hal]at hs;refine rS [.v,.l 0,.cp hs [] (fun w hb hd=>⟨hT.call hb,qm hM hb⟩),.v,.v,.v,.v,.v] H2 kr fun gs3 w3 H3=>rS [.v,.v,.v,.n,.n,.n,.n,.n,.v,.v] H3 kr fun gs4 w4 H4=>?_;exact rRe [.tmp 2] [] (v:=.bool false) (v':=.bool (yA h L)) H4 (zc (no fun g=>hal g.al).symm) kr
  unfold vC at hs;rw[if_pos hal,if_pos hal]at hs;refine rS [.v,.l 0,.cp hs [] (fun w hb hd=>⟨hT.call hb,qm hM hb⟩),.v,.v,.v,.v,.v] H2 kr fun gs3 w3 H3=>rS [.v,.v,.v,.v,.v,.v,.l 0,.E (.bool ((sumTs L).toList==h.tx.toList)) (.bool (yA h L)) (zc ?_),.v,.v] H3 kr fun gs4 w4 H4=>?_
  ·by_cases e9:sumTs L=h.tx
   ·rw[xu _ _ e9,qJ.2 ⟨hr,by omega,hal,e9⟩]
   ·rw[jG _ _ e9,no fun g=>e9 g.sm]
  exact rR [.tmp 2] [] (.bool (yA h L)) H4 kr
def zjD (M:Qi)(v:Value)(T:Qb):Prop:=∃(b n c:Nat) (cur:Qd),v=Qf b n c/\T=[(b,.cells cur 58)]/\Rw 3 cur c n (cellsF iS (M.map b3))
theorem zr5 (x:Txn)(o:qn x)(r:rtX x=true):Fn Tryz.prog 40 #[tnV x] (.tuple #[.string (zD x),.int .i64 0]):=by
 have h:=zjh x.1 x.2.1 x.2.2.1 x.2.2.2.1 x.2.2.2.2.1 x.2.2.2.2.2 o.2 o.1.1 o.1.2.1 o.1.2.2.1 o.1.2.2.2;have e:jl (kj x)=.tuple #[.string (zD x),.int .i64 0]:=by unfold jl;rw[uh r];rfl
 rw[<-e];exact h
theorem zr6 (h:Hdr)(L:List Txn)(o:yj h)(hL:L.length<=1000000)(hO: ∀x∈L,qn x)(hr:rightH h=true)(hal:L.all rtX=true)(p:Qc)(n c:Nat)(q:Qc)(m k:Nat)(t:Qc)(z e:Nat):FnT Tryz.prog 19 #[bkV h p n c q m k t z e] (fun w=>qH w h L p n q m t z) (zjD (zY h::L.map zD)):=by
 refine qz [.tmp 2] 38 Tryz.func19 fun w hP=>?_;obtain⟨hH,hT⟩:=hP;have hz:=hT.1;have H0:=St.start w;refine rS [.b,.v] H0 kr fun gs1 w1 H1=>rS [.v,.l 0,.cp (zju h o hr p n c q m k) [] (fun w hb hd=>hH.call hb),.v,.v,.v,.v,.v] H1 kr fun gs2 w2 H2=>rS [.v,.v,.nw (fun b=>Qf b 1 1) (iS.cs (b3 (zY h))).toArray 58,.v] H2 kr fun gs3 w3 H3=>za kr<|rS [.v,.l 0,.v,.v] H3 kr fun gs4 w4 H4=>yR 22 21 23 36 0 1 z (by omega) (fun i ρ ww=> ∃b k1 cur,Rw 3 cur k1 (i+1) (cellsF iS ((zY h::(L.take i).map zD).map b3))/\St w.heap.size w ww [((gs1 0).b,bkO h p n c q m k t z e),(b,.cells cur 58)]/\Is [(1,Qe (gs1 0).b),(5,Qf b (i+1) k1),(20,.slice t z e),(21,iN z),(22,iN i)] ρ) (by rintro i _ ww ⟨_,_,_,_,_,_,rfl⟩;exact⟨kr,kr⟩) ⟨(gs3 2).b,1,(iS.cs (b3 (zY h))).toArray,⟨rfl,QH _,by decide,rfl,rfl⟩,H4.as kr,isK⟩ ?_ ?_
 ·clear H0 H1 H2 H3 H4;rintro i _ w5 hi ⟨b,k1,cur,hrw,H5,_,rfl⟩;obtain⟨x,hx⟩:∃x,L[i]? =some x:=⟨_,Qr (by omega)⟩
  obtain⟨bl,off,C,T,fz,hp,hh,hR⟩:=hT.row2 (by omega);have ox:=hO x (QF hx);have rx:=QN.1 hal x (QF hx);refine rS [itX 20 22 27 54 12 104 bl off z e i hp,.fp (off:=off+i*12) (n:=12) (W:=tnC x) hh (zo hh) (hR _ _ hx).1 (hR _ _ hx).2,.a,.s 2] H5 kr fun gs5 w6 H6=>rS [.l 2,.c (zr5 x ox rx),.v,.v,.v,.v,.v] H6 kr fun gs6 w7 H7=>yu [0,1,2,3,4,5] kr<|rp [.v,.v,.v] H7 kr fun gs7 w8 H8=>wX [3,4,5] ?_;have H9:St w.heap.size w w8 [((gs1 0).b,bkO h p n c q m k t z e),(b,.cells cur 58),((gs5 2).b,tnO x)]:=H8.as kr;refine jT H9 (some 34) (fun b=>Qf b 1 1) (iS.cs (b3 (zD x))).toArray 58 kr kr ?_;intro nb w9 H10;refine xL (S:=iS) (row:=[(b,.cells cur 58)]) (Z:=[((gs1 0).b,bkO h p n c q m k t z e),((gs5 2).b,tnO x)]) (some 35) 47 58 48 (.tmp 31) (.tmp 34) (H10.perm (QM _ (Uz _ _ _))) (.inr ⟨b,cur,rfl,rfl,hrw⟩) kr kr kr kr kr (by omega) (by unfold maxLen;omega) ?_;intro b' cap' cur' w10 H11 hrn;refine rp [.v] H11 kr fun gs8 w11 H12=>wX []<|zb ?_;have H13:St w.heap.size w w11 [(b',.cells cur' 58),((gs1 0).b,bkO h p n c q m k t z e),((gs5 2).b,tnO x)]:=H12.as kr;refine⟨kr,b',cap',cur',?_,(H13.sub (Qq _ (Qq _ (QE _)))).perm (Uz _ _ _),isK⟩;rw[yZ hx,RD,<-Rm,RD];exact hrn
 ·clear H0 H1 H2 H3 H4;rintro _ w5 ⟨b,k1,cur,hrw,H5,_,rfl⟩;rw[Qy (by omega)]at hrw;refine wW<|rS [.v,.v] H5 kr fun gs5 w6 H6=>rRr [.tmp 2] [] (Qf b (z+1) k1) (zV w.heap.size w (zjD (zY h::L.map zD))) H6 kr ?_;exact⟨_,⟨b,z+1,k1,cur,rfl,rfl,hrw⟩,(H6.as (l:=[((gs1 0).b,bkO h p n c q m k t z e),(b,.cells cur 58)]) kr).sub (Qt ..)⟩
theorem ze1: ∀M:Qi,toFo (M.map b3)=lsI M
 | []=>rfl
 | a::r=>by
  show Fo.cons false a .nil (toFo (r.map b3))=_;rw[ze1 r];rfl
theorem zr7 (M:Qi)(hM: ∀x∈M,x.size<=1000000)(b n c:Nat)(cur:Qd)(hrw:Rw 3 cur c n (cellsF iS (M.map b3)))(hn:0<n)(hn2:n<=2000000):FnP Tryz.prog 18 #[Qf b n c] (fun w=>w.heap[b]? =some (.cells cur 58)) (xZ (zC true emB (lsI M).len (lsI M))):=by
 refine zR [.tmp 2,.tmp 3] 9 Tryz.func18 fun w hP=>?_;have hlen:n=(M.map b3).length:=(Rw.lenF (S:=iS) hrw).symm;obtain rfl:n=(lsI M).len:=by rw[hlen,zix,Ra]
 rw[zb1]at hrw;refine rS [.v,.v] (St.start w) kr fun gs1 w1 H1=>zd [0,1,2,3,4,5,6] kr kr<|rp [.v] H1 kr fun gs2 w2 H2=>wX [1,2,3,4,5,6] ?_;have H3:St w.heap.size w w2 []:=H2.as kr;refine zdT H3 (some 5) 38 #[Qf b (lsI M).len c] (fun w=>(lsI M).len=Qo (M.map b3)/\jL w (Qg b) (M.map b3)) 58 (fun v=>.agg #[.bool true,.string ⟨#[]⟩,v]) (lsI M).len (M.map b3) (zhC _ _ _ (M.map b3) (by omega)) (hrw.cellsAt (T:=58) (fz:=(0,0)) (zhu hP H3.below)) kr kr (fun w' h0=>absurd h0 (by omega)) ?_;intro bl cap cur2 w3 H4 hr
 have hsl:SlIn [(bl,.cells cur2 58)] (Qg bl) (lsI M).len (toFo (M.map b3)):=hr.slIn (ty:=58) (fz:=(0,0)) (QX ..) (fun y hy=>by
  obtain⟨x,hx,rfl⟩:=Rk.1 hy
  exact⟨zd2 _ _,by have:=hM x hx;show x.size<=_;omega⟩) (by omega)
 rw[ze1]at hsl;have hE:=zgG true emB (Qg bl) (lsI M).len cap (lsI M) (QU _);refine yP H4 (some 6) 37 #[.agg #[.bool true,.string ⟨#[]⟩,Qf bl (lsI M).len cap]] _ _ hE (hsl.at H4 fun e he=>he) ?_;intro w4 H5;refine rp [.v,.v,.v,.v] H5 kr fun gs4 w5 H6=>wX []<|zb<|wW ?_;exact rR [.tmp 2,.tmp 3] [] (xZ (zC true emB (lsI M).len (lsI M))) H6 kr
theorem zr8 (h:Hdr)(L:List Txn)(o:ub h)(hL:L.length<=1000000)(hO: ∀x∈L,qn x)(r:yA h L=false)(p:Qc)(n c:Nat)(q:Qc)(m k:Nat)(t:Qc)(z e:Nat):FnP Tryz.prog 5 #[bkV h p n c q m k t z e] (fun w=>qH w h L p n q m t z/\Ke.Marks w) (.tuple #[.string em,.int .i64 1]):=by
 have hR:=zcV h L o hL hO p n c q m k t z e;rw[r]at hR;refine zR [.tmp 2,.tmp 3] 12 Tryz.func5 fun w hP=>rS [.b,.v,.v] (St.start w) kr fun gs1 w1 H1=>za kr<|rS [.l 0,.cp hR [] (fun w hb hd=>⟨⟨hP.1.1.call hb,hP.1.2.call hb⟩,qm hP.2 hb⟩),.v] H1 kr fun gs2 w2 H2=>zJ<|rS [.v,.v] H2 kr fun gs3 w3 H3=>?_;exact rR [.tmp 2,.tmp 3] [] (.tuple #[.string em,.int .i64 1]) H3 kr
theorem zr9 (h:Hdr)(L:List Txn)(o:yj h)(hO: ∀x∈L,qn x)(r:yA h L=true)(p:Qc)(n c:Nat)(q:Qc)(m k:Nat)(t:Qc)(z e:Nat):FnP Tryz.prog 5 #[bkV h p n c q m k t z e] (fun w=>qH w h L p n q m t z/\Ke.Marks w) (.tuple #[.string (jf h L).1,.int .i64 0]):=by
 have g:=qJ.1 r;have hln:=g.ln;have hR:=zcV h L o.sm (by omega) hO p n c q m k t z e;rw[r]at hR;refine zR [.tmp 2,.tmp 3] 12 Tryz.func5 fun w hP=>?_;have hz:=hP.1.2.1;refine rS [.b,.v,.v] (St.start w) kr fun gs1 w1 H1=>za kr<|rS [.l 0,.cp hR [] (fun w hb hd=>⟨⟨hP.1.1.call hb,hP.1.2.call hb⟩,qm hP.2 hb⟩),.v] H1 kr fun gs2 w2 H2=>yh<|wW<|zd [0,1,2,3,4,5,6] kr kr<|rp [.l 0] H2 kr fun gs3 w3 H3=>wX [1,2,3,4,5,6] ?_;have H4:St w.heap.size w w3 [((gs1 0).b,bkO h p n c q m k t z e)]:=H3.as kr;refine qk H4 (some 8) 19 #[bkV h p n c q m k t z e] (zr6 h L o (by omega) hO g.hd g.al p n c q m k t z e) ⟨hP.1.1.call H4.below,hP.1.2.call H4.below⟩ kr kr ?_;rintro _ _ w4 ⟨b,n2,c2,cur,rfl,rfl,hrw⟩ H5;have hl2:=Rw.lenF (S:=iS) hrw;rw[Ra,Rh,Ra]at hl2
 refine zaa H5 (some 9) 18 #[Qf b n2 c2] _ _ (zr7 (zY h::L.map zD) (fun x hx=>by
  rcases Uj.1 hx with rfl|hx
  ·have:=zeX g.hd;omega
  ·obtain⟨y,hy,rfl⟩:=Rk.1 hx
   have:=zeW (QN.1 g.al y hy);omega) b n2 c2 cur hrw (by omega) (by omega)) (H5.get 0 rfl) (fun w=>by kernel_rfl) kr ?_
 intro w5 H6;refine rp [.v,.v,.v,.v] H6 kr fun gs4 w6 H7=>wX []<|zb<|wW ?_;exact rRe [.tmp 2,.tmp 3] [] (v:=xZ (jf h L)) (v':=.tuple #[.string (jf h L).1,.int .i64 0]) H7 (by unfold xZ;rw[za3 r];rfl) kr
section
open D2 (Gh)
def zjE (h:Hdr)(v:Value)(T:Qb):Prop:=∃(q1:Qc) (n1 c1:Nat) (q2:Qc) (n2 c2:Nat) (T1 T2:Qb),v=hdV h q1 n1 c1 q2 n2 c2/\yl sS 9 q1 n1 c1 T1 h.vs/\yl sgF 52 q2 n2 c2 T2 h.ss/\T=T1++T2
theorem ze2 {k:Kf}{l:Fe}{S:Qa}(h:yL 40 k (0,⟨#[]⟩) l=(S,0)):S≠em:=by
 obtain⟨_,he⟩:=xA h;have h1:(zC true ⟨#[]⟩ (zI 40 k l).len (zI 40 k l)).2=0:=by rw[he]
 obtain⟨e,hm,hp,_⟩:=jW h1;have h2:=(xO hm hp rfl).1;rw[he]at e;intro e0;have e3:=congrArg Ql e;rw[yU]at e3;have e4:S.size=0:=by rw[e0];rfl
 have e5:S.size=_:=e3;omega
theorem zsa (pa:Qa)(hn:Nat)(ro tx pr va:Qa)(L:Qi)(vo:Qa)(a rd:Nat)(M:Qi)(hLl:L.length<=40)(hMl:M.length<=40)(z9: ∀x∈M,Ql x=65)(p4:Qc)(c4:Nat):
 FnT Tryz.prog 78 #[.slice p4 11 c4] (fun w=>SlR fS w.heap.size w p4 11 (hdL pa hn ro tx pr va L vo a rd M)) (zjE (hdX pa hn ro tx pr va vo a rd L M)):=by
 refine qz [.cell 2 26] 88 Tryz.func78 fun w hP=>rS [.a] (St.start w) kr fun gs1 w6 H1=>?_;have H6:St w.heap.size w w6 [((gs1 0).b,hdO hd0 none 0 0 none 0 0)]:=H1.as kr;have hsl:=SlR.call hP H6.below;have J0:=St.start w6;obtain⟨b,off,C,Tt,fz,hp,hh,hcell⟩:=uP hsl (by unfold hdL;exact fun e=>nomatch e);have f0:=(hcell 0 _ _ rfl).2.1;have f1:=(hcell 1 _ _ rfl).1;have f2:=(hcell 2 _ _ rfl).2.1;have f3:=(hcell 3 _ _ rfl).2.1;have f4:=(hcell 4 _ _ rfl).2.1;have f5:=(hcell 5 _ _ rfl).2.1;obtain⟨p6,n6,c6,f6,s6,_⟩:=(hcell 6 _ _ rfl).2.2;have f7:=(hcell 7 _ _ rfl).2.1;have f8:=(hcell 8 _ _ rfl).1;have f9:=(hcell 9 _ _ rfl).1;obtain⟨p10,n10,c10,f10,s10,_⟩:=(hcell 10 _ _ rfl).2.2;have hn6:n6=L.length:=s6.1.trans (vY L);have hn10:n10=M.length:=s10.1.trans (vY M);refine xV [(0,.slice p4 11 c4),(2,Qe (gs1 0).b)] kr fun ρ1=>dSg (fun gsd=>[.v,.o (ins:=[((.tmp 10),.slice p4 11 c4)]) (v:=.pointer (some ⟨b,off+0*3,none⟩)) (fun ρ o w ho hi2=>yV (kd:=.i64) (t:=85) (e:=89) (K:=3) (bytes:=48) kr (x:=(.tmp 10)) (y:=.const (.int .i64 0)) b off 11 c4 0 hp ho hi2.1 rfl (by decide) w),.v,.fs (off:=off+0*3+1) (v:=.string pa) hh (zo hh) f0,.v,.o (ins:=[((.tmp 14),.slice p4 11 c4)]) (v:=.pointer (some ⟨b,off+1*3,none⟩)) (fun ρ o w ho hi2=>yV (kd:=.i64) (t:=85) (e:=89) (K:=3) (bytes:=48) kr (x:=(.tmp 14)) (y:=.const (.int .i64 1)) b off 11 c4 1 hp ho hi2.1 rfl (by decide) w),.v,.fs (off:=off+1*3+0) (v:=.int .u64 (hn:Int)) hh (zo hh) f1,.v,.o (ins:=[((.tmp 18),.slice p4 11 c4)]) (v:=.pointer (some ⟨b,off+2*3,none⟩)) (fun ρ o w ho hi2=>yV (kd:=.i64) (t:=85) (e:=89) (K:=3) (bytes:=48) kr (x:=(.tmp 18)) (y:=.const (.int .i64 2)) b off 11 c4 2 hp ho hi2.1 rfl (by decide) w),.v,.fs (off:=off+2*3+1) (v:=.string ro) hh (zo hh) f2,.v,.o (ins:=[((.tmp 22),.slice p4 11 c4)]) (v:=.pointer (some ⟨b,off+3*3,none⟩)) (fun ρ o w ho hi2=>yV (kd:=.i64) (t:=85) (e:=89) (K:=3) (bytes:=48) kr (x:=(.tmp 22)) (y:=.const (.int .i64 3)) b off 11 c4 3 hp ho hi2.1 rfl (by decide) w),.v,.fs (off:=off+3*3+1) (v:=.string tx) hh (zo hh) f3,.v,.o (ins:=[((.tmp 26),.slice p4 11 c4)]) (v:=.pointer (some ⟨b,off+4*3,none⟩)) (fun ρ o w ho hi2=>yV (kd:=.i64) (t:=85) (e:=89) (K:=3) (bytes:=48) kr (x:=(.tmp 26)) (y:=.const (.int .i64 4)) b off 11 c4 4 hp ho hi2.1 rfl (by decide) w),.v,.fs (off:=off+4*3+1) (v:=.string pr) hh (zo hh) f4,.v,.o (ins:=[((.tmp 30),.slice p4 11 c4)]) (v:=.pointer (some ⟨b,off+5*3,none⟩)) (fun ρ o w ho hi2=>yV (kd:=.i64) (t:=85) (e:=89) (K:=3) (bytes:=48) kr (x:=(.tmp 30)) (y:=.const (.int .i64 5)) b off 11 c4 5 hp ho hi2.1 rfl (by decide) w),.v,.fs (off:=off+5*3+1) (v:=.string va) hh (zo hh) f5,.v,.o (ins:=[((.tmp 34),.slice p4 11 c4)]) (v:=.pointer (some ⟨b,off+7*3,none⟩)) (fun ρ o w ho hi2=>yV (kd:=.i64) (t:=85) (e:=89) (K:=3) (bytes:=48) kr (x:=(.tmp 34)) (y:=.const (.int .i64 7)) b off 11 c4 7 hp ho hi2.1 rfl (by decide) w),.v,.fs (off:=off+7*3+1) (v:=.string vo) hh (zo hh) f7,.v,.o (ins:=[((.tmp 38),.slice p4 11 c4)]) (v:=.pointer (some ⟨b,off+8*3,none⟩)) (fun ρ o w ho hi2=>yV (kd:=.i64) (t:=85) (e:=89) (K:=3) (bytes:=48) kr (x:=(.tmp 38)) (y:=.const (.int .i64 8)) b off 11 c4 8 hp ho hi2.1 rfl (by decide) w),.v,.fs (off:=off+8*3+0) (v:=.int .u64 (a:Int)) hh (zo hh) f8,.E (.bool ((a:Int)!=0)) (.bool (decide (0<a))) (zc (by rw[Bool.eq_iff_iff];simp<;>omega)),.v,.o (ins:=[((.tmp 43),.slice p4 11 c4)]) (v:=.pointer (some ⟨b,off+9*3,none⟩)) (fun ρ o w ho hi2=>yV (kd:=.i64) (t:=85) (e:=89) (K:=3) (bytes:=48) kr (x:=(.tmp 43)) (y:=.const (.int .i64 9)) b off 11 c4 9 hp ho hi2.1 rfl (by decide) w),.v,.fs (off:=off+9*3+0) (v:=.int .u64 (rd:Int)) hh (zo hh) f9,.v,.a,.s 0]) J0 kr fun gsd w7 J1=>?_;obtain⟨b6,hb6⟩:∃b6,(gsd 38).b=b6:=⟨_,rfl⟩
 have J2:St w6.heap.size w6 w7 [(b6,Qk (hdC (hdX pa hn ro tx pr va vo a rd L M) none 0 0 none 0 0) 26)]:=J1.as (by rw[<-hb6];kernel_rfl);refine xV [(0,.slice p4 11 c4),(2,Qe (gs1 0).b),(3,Qe b6)] (by rw[<-hb6];kernel_rfl) fun ρ2=>?_;clear J0 J1 hb6;refine za kr<|rS [.v,.o (ins:=[((.tmp 48),.slice p4 11 c4)]) (v:=.pointer (some ⟨b,off+6*3,none⟩)) (fun ρ o w ho hi2=>yV (kd:=.i64) (t:=85) (e:=89) (K:=3) (bytes:=48) kr (x:=(.tmp 48)) (y:=.const (.int .i64 6)) b off 11 c4 6 hp ho hi2.1 rfl (by decide) w),.v,.fs (off:=off+6*3+2) (v:=.slice p6 n6 c6) hh (zo hh) f6,.v,.v] J2 kr fun gs5 w8 J3=>yR 53 52 54 64 0 1 n6 (by omega) (fun i ρ ww=> ∃q1 cb1 Tb,yl sS 9 q1 i cb1 Tb (L.take i)/\St w6.heap.size w6 ww ((b6,Qk (hdC (hdX pa hn ro tx pr va vo a rd L M) q1 i cb1 none 0 0) 26)::Tb)/\Is [(0,.slice p4 11 c4),(2,Qe (gs1 0).b),(3,Qe b6),(51,.slice p6 n6 c6),(52,iN n6),(53,iN i)] ρ) (by rintro i _ ww ⟨_,_,_,_,_,_,rfl⟩;exact⟨kr,kr⟩) ⟨none,0,[],.inl ⟨rfl,rfl,rfl,rfl,rfl⟩,J3.as kr,isK⟩ ?_ ?_
 ·clear J2 J3;rintro i _ w9 hi ⟨q1,cb1,Tb,hrow,J4,_,rfl⟩;obtain⟨x,hx⟩:∃x,L[i]? =some x:=⟨_,Qr (by omega)⟩
  obtain⟨bx,ox,CX,TX,fx,hpx,hhx,hcx⟩:=uP s6 (zcO (by omega));obtain⟨_,_,px,nx,cx,_,_,e1,e2⟩:=hcx i _ _ (zaW hx);refine zd [0,1,2,3] kr kr<|rp [itX 51 53 85 89 3 48 bx ox n6 c6 i hpx,.fp (off:=ox+i*3) (n:=3) (W:=#[wZ,.string x,.slice px nx cx]) hhx (zo hhx) e1 e2] J4 kr fun gs6 w10 J5=>wX [2,3] ?_;have J6:St w6.heap.size w6 w10 ((b6,Qk (hdC (hdX pa hn ro tx pr va vo a rd L M) q1 i cb1 none 0 0) 26)::Tb):=J5.as kr;refine zA J6 (some 5) 89 (.agg #[wZ,.string em,.slice none 0 0]) kr kr kr ?_;intro b8 w11 J7;refine rp [.s 0] J7 kr fun gs7 w12 J8=>wX []<|zb<|yu [0,1,2,3,4,5,6,7] kr<|rp [.v,.l 1,.v,.l 0] J8 kr fun gs8 w13 J9=>wX [4,5,6,7] ?_;have J10:St w6.heap.size w6 w13 ((b8,.cells #[wZ,.string x,.slice px nx cx] 89 (0,0))::(b6,Qk (hdC (hdX pa hn ro tx pr va vo a rd L M) q1 i cb1 none 0 0) 26)::Tb):=J9.as kr;refine jT J10 (some 61) (fun b=>Qf b 1 1) (sS.cs x).toArray 9 kr kr ?_;intro bn w14 J11;refine xL (S:=sS) (some 62) 23 9 16 (.tmp 58) (.tmp 61) (J11.perm (QM _ (QV (l₁:=Tb) (l₂:=[(b8,.cells #[wZ,.string x,.slice px nx cx] 89 (0,0)),(b6,Qk (hdC (hdX pa hn ro tx pr va vo a rd L M) q1 i cb1 none 0 0) 26)])))) hrow kr kr kr kr kr (by omega) (by unfold maxLen;omega) ?_;intro b' cap' cur' w15 J12 hr';refine rp [.v,.s 2] J12 kr fun gs9 w16 J13=>wX []<|zb ?_;have J14:St w6.heap.size w6 w16 [(b',.cells cur' 9),(b8,.cells #[wZ,.string x,.slice px nx cx] 89 (0,0)),(b6,Qk (hdC (hdX pa hn ro tx pr va vo a rd L M) (Qg b') (i+1) cap' none 0 0) 26)]:=J13.as kr;refine⟨kr,Qg b',cap',[(b',.cells cur' 9)],.inr ⟨b',cur',rfl,rfl,?_⟩,(J14.sub (Qq _ (Qt ..))).perm (QV (l₁:=[(b6,Qk (hdC (hdX pa hn ro tx pr va vo a rd L M) (Qg b') (i+1) cap' none 0 0) 26)]) (l₂:=[(b',Qk cur' 9)])),isK⟩;rw[yZ hx];exact hr'
 ·rintro _ w9 ⟨q1,cb1,Tb,hrow,J4,_,rfl⟩;clear J2 J3;rw[Qy (by omega)]at hrow;refine wW<|za kr<|rS [.v,.o (ins:=[((.tmp 65),.slice p4 11 c4)]) (v:=.pointer (some ⟨b,off+10*3,none⟩)) (fun ρ o w ho hi2=>yV (kd:=.i64) (t:=85) (e:=89) (K:=3) (bytes:=48) kr (x:=(.tmp 65)) (y:=.const (.int .i64 10)) b off 11 c4 10 hp ho hi2.1 rfl (by decide) w),.v,.fs (off:=off+10*3+2) (v:=.slice p10 n10 c10) hh (zo hh) f10,.v,.v] J4 kr fun gs6 w10 J5=>yR 70 69 71 86 2 3 n10 (by omega) (fun i ρ ww=> ∃q2 cb2 T2,yl sgF 52 q2 i cb2 T2 ((M.take i).map qI)/\St w6.heap.size w6 ww ((b6,Qk (hdC (hdX pa hn ro tx pr va vo a rd L M) q1 n6 cb1 q2 i cb2) 26)::(Tb++T2))/\Is [(0,.slice p4 11 c4),(2,Qe (gs1 0).b),(3,Qe b6),(68,.slice p10 n10 c10),(69,iN n10),(70,iN i)] ρ) (by rintro i _ ww ⟨_,_,_,_,_,_,rfl⟩;exact⟨kr,kr⟩) ⟨none,0,[],.inl ⟨rfl,rfl,rfl,rfl,rfl⟩,by rw[QI];exact J5.as kr,isK⟩ ?_ ?_
  ·clear J4 J5;rintro i _ w11 hi ⟨q2,cb2,T2,hrow2,J6,_,rfl⟩;obtain⟨x,hx⟩:∃x,M[i]? =some x:=⟨_,Qr (by omega)⟩
   have hx65:=z9 x (QF hx);obtain⟨bx,ox,CX,TX,fx,hpx,hhx,hcx⟩:=uP s10 (zcO (by omega));obtain⟨_,_,px,nx,cx,_,_,e1,e2⟩:=hcx i _ _ (zaW hx);obtain⟨ee,hfr9⟩:=zi8 hx65;have hfr:=zh9 x (by omega);rw[hfr9]at hfr;refine zd [0,1,2,3] kr kr<|rp [itX 68 70 85 89 3 48 bx ox n10 c10 i hpx,.fp (off:=ox+i*3) (n:=3) (W:=#[wZ,.string x,.slice px nx cx]) hhx (zo hhx) e1 e2] J6 kr fun gs7 w12 J7=>wX [2,3] ?_;have J8:St w6.heap.size w6 w12 ((b6,Qk (hdC (hdX pa hn ro tx pr va vo a rd L M) q1 n6 cb1 q2 i cb2) 26)::(Tb++T2)):=J7.as kr;refine zA J8 (some 7) 89 (.agg #[wZ,.string em,.slice none 0 0]) kr kr kr ?_;intro b10 w13 J9;refine rp [.s 0] J9 kr fun gs8 w14 J10=>wX []<|zb<|zd [0,1,2,3,4,5,6,7,8] kr kr<|rp [.v,.l 0,.c hfr,.v,.v,.v] J10 kr fun gs9 w15 J11=>wX [6,7,8] ?_;have J12:St w6.heap.size w6 w15 ((b10,.cells #[wZ,.string x,.slice px nx cx] 89 (0,0))::(b6,Qk (hdC (hdX pa hn ro tx pr va vo a rd L M) q1 n6 cb1 q2 i cb2) 26)::(Tb++T2)):=J11.as kr;refine zA J12 (some 8) 52 (.agg (sgC (0,0,0))) kr kr kr ?_;intro b11 w16 J13;refine rp [.s 0,.v] J13 kr fun gs10 w17 J14=>wX []<|zb<|yu [0,1,2,3,4,5,6] kr<|rp [.v,.l 2,.l 0] J14 kr fun gs11 w18 J15=>wX [3,4,5,6] ?_;have J16:St w6.heap.size w6 w18 ((b11,sgO (qI x))::(b10,.cells #[wZ,.string x,.slice px nx cx] 89 (0,0))::(b6,Qk (hdC (hdX pa hn ro tx pr va vo a rd L M) q1 n6 cb1 q2 i cb2) 26)::(Tb++T2)):=J15.as kr;refine jT J16 (some 83) (fun b=>Qf b 1 1) (sgF.cs (qI x)).toArray 52 kr kr ?_;intro bn w19 J17;refine xL (S:=sgF) (some 84) 24 52 72 (.tmp 81) (.tmp 83) (J17.perm (QM _ (kg [(b11,sgO (qI x)),(b10,.cells #[wZ,.string x,.slice px nx cx] 89 (0,0)),(b6,Qk (hdC (hdX pa hn ro tx pr va vo a rd L M) q1 n6 cb1 q2 i cb2) 26)] Tb T2))) hrow2 kr kr kr kr kr (by omega) (by unfold maxLen;omega) ?_;intro b' cap' cur' w20 J18 hr';refine rp [.v,.s 3] J18 kr fun gs12 w21 J19=>wX []<|zb ?_;have J20:St w6.heap.size w6 w21 ((b',.cells cur' 52)::(b11,sgO (qI x))::(b10,.cells #[wZ,.string x,.slice px nx cx] 89 (0,0))::(b6,Qk (hdC (hdX pa hn ro tx pr va vo a rd L M) q1 n6 cb1 (Qg b') (i+1) cap') 26)::Tb):=J19.as kr;refine⟨kr,Qg b',cap',[(b',.cells cur' 52)],.inr ⟨b',cur',rfl,rfl,?_⟩,(J20.sub (Qq _ (Qs _ (Qt ..)))).perm (kg [(b6,Qk (hdC (hdX pa hn ro tx pr va vo a rd L M) q1 n6 cb1 (Qg b') (i+1) cap') 26)] Tb [(b',Qk cur' 52)]).symm,isK⟩;rw[yZ hx,RD];exact hr'
  ·rintro _ w11 ⟨q2,cb2,T2,hrow2,J6,_,rfl⟩;clear J4 J5;rw[Qy (by omega)]at hrow2;refine wW ?_;have H9:St w.heap.size w w11 ((b6,Qk (hdC (hdX pa hn ro tx pr va vo a rd L M) q1 n6 cb1 q2 n10 cb2) 26)::((gs1 0).b,hdO hd0 none 0 0 none 0 0)::(Tb++T2)):=(H6.addAll J6).perm (QM _ (QV (l₁:=[((gs1 0).b,hdO hd0 none 0 0 none 0 0)]) (l₂:=Tb++T2)));refine rS [.l 0,.s 1] H9 kr fun gs10 w17 H10=>rRr [.cell 2 26] [1] (hdV (hdX pa hn ro tx pr va vo a rd L M) q1 n6 cb1 q2 n10 cb2) (zV w.heap.size w (zjE (hdX pa hn ro tx pr va vo a rd L M))) H10 kr ?_;exact⟨Tb++T2,⟨q1,n6,cb1,q2,n10,cb2,Tb,T2,rfl,hrow,hrow2,rfl⟩,(H10.as (l:=(b6,Qk (hdC (hdX pa hn ro tx pr va vo a rd L M) q1 n6 cb1 q2 n10 cb2) 26)::((gs1 0).b,hdO (hdX pa hn ro tx pr va vo a rd L M) q1 n6 cb1 q2 n10 cb2)::(Tb++T2)) kr).sub (Qs _ (Qt ..))⟩
theorem zsb (S:Qa)(hS:S.size<=4100):FnT Tryz.prog 48 #[.string S] (fun _=>True) (xH S):=by
 refine qz [.cell 2 26,.tmp 3] 29 Tryz.func48 fun w _=>?_;have H0:=St.start w;refine rS [.a,.v] H0 kr fun gs1 w1 H1=>zd [0,1,2,3,4,5,6] kr kr<|rp [.v] H1 kr fun gs2 w2 H2=>wX [1,2,3,4,5,6] ?_;have H3:St w.heap.size w w2 [((gs1 0).b,hdO hd0 none 0 0 none 0 0)]:=H2.as kr;refine qk H3 (some 11) 77 #[.string qa,.string S] (zhN qa S (by omega)) trivial kr kr ?_;intro v T w3 hrd H4;rcases hrd with⟨p4,n4,c4,l4,k4,hp4,rfl,hR4,hw4⟩ | ⟨e,he,rfl,hbad⟩
 case inr=>
  refine rp [.v,.v,.v,.v,.v] H4 kr fun gs3 w4 H5=>wX []<|zb<|wW<|za kr<|rS [.v,.E (.bool (e !=0)) (.bool true) (zc (bne_iff_ne.2 he))] H5 kr fun gs4 w5 H6=>zJ ?_;have H7:St w.heap.size w w5 [((gs1 0).b,hdO hd0 none 0 0 none 0 0)]:=H6.sub (QK T _);refine rS [.v,.s 0,.v] H7 kr fun gs20 w20 H20=>rRr [.cell 2 26,.tmp 3] [0] (.tuple #[hdV hd0 none 0 0 none 0 0,.int .i64 4]) (zV w.heap.size w (xH S)) H20 kr ?_;exact⟨[],.inr ⟨rfl,rfl,fun h hr ho e9=>hbad _ _ jq.parse (uK ho) (by unfold wrV at e9;rw[jq.parse]at e9;exact e9)⟩,H20.sub (QE _)⟩
 obtain rfl:kfL hK=k4:=Option.some.inj (jq.parse.symm.trans hp4);have hne:=ze2 hw4;refine rp [.v,.v,.v,.v,.v] H4 kr fun gs3 w4 H5=>wX []<|zb<|wW<|za kr<|rS [.v,.v] H5 kr fun gs4 w6 H6=>yh<|wW ?_;have hfit:=(uC jq.kd l4).1 (xA hw4).1;obtain⟨pa,hn,ro,tx,pr,va,L,vo,a,rd,M,rfl,z1,z2,z3,z4,z5,z6,z7,z8,z9,z10⟩:=(zes l4).1 hfit.1;have hsl:=hR4.at H6 fun e he=>Rd _ he;have hok4:=hsl.ok;have eqH: ∀h:Hdr,rightH h=true->yj h->wrV qa (hdF h)=(S,0)->(hdX pa hn ro tx pr va vo a rd L M)=h:=fun h hr ho e=>by
  unfold wrV at e;rw[jq.parse]at e;have e2:=uE hw4 e hok4 (uK ho);obtain⟨rfl,rfl,rfl,rfl,rfl,rfl,rfl,rfl,rfl,rfl,rfl⟩:=zer e2;exact zjb ho hr
 have hox:yj (hdX pa hn ro tx pr va vo a rd L M):=⟨hok4.2.2.1.1,hok4.2.2.2.2.2.2.2.2.2.2.2.2.2.2.2.2.2.2.1.1,by show pa.size<=_;omega,by show ro.size<=_;omega,by show tx.size<=_;omega,by show pr.size<=_;omega,by show va.size<=_;omega,by show vo.size<=_;omega,(fun x hx=>by have:=z6 x hx;omega),by show L.length<=_;omega,(fun x hx=>by obtain⟨y,hy,rfl⟩:=Rk.1 hx;exact zi9 (z9 y hy)),by show (M.map qI).length<=_;rw[Ra];omega⟩
 obtain rfl:n4=11:=hsl.1;refine zd [0,1,2,3] kr kr<|rp [.v] H6 kr fun gs5 w7 H7=>wX [1,2,3] ?_;have H8:St w.heap.size w w7 (T++ [((gs1 0).b,hdO hd0 none 0 0 none 0 0)]):=H7.as kr;refine qk H8 (some 18) 78 #[.slice p4 11 c4] (zsa pa hn ro tx pr va L vo a rd M (by omega) (by omega) z9 p4 c4) (hR4.at H8 fun e he=>Rd _ he) kr kr ?_;rintro _ _ w8 ⟨q1,n6,cb1,q2,n10,cb2,Tb,T2,rfl,hrow,hrow2,rfl⟩ H9;refine zA H9 (some 6) 26 (hdV hd0 none 0 0 none 0 0) kr kr kr ?_;intro b6 w9 H10;refine rp [.s 0] H10 kr fun gs6 w10 H11=>wX []<|zb<|wW ?_;have H12:St w.heap.size w w10 ((b6,Qk (hdC (hdX pa hn ro tx pr va vo a rd L M) q1 n6 cb1 q2 n10 cb2) 26)::((Tb++T2)++(T++ [((gs1 0).b,hdO hd0 none 0 0 none 0 0)]))):=H11.as kr;have H13:St w.heap.size w w10 ((b6,Qk (hdC (hdX pa hn ro tx pr va vo a rd L M) q1 n6 cb1 q2 n10 cb2) 26)::((gs1 0).b,hdO hd0 none 0 0 none 0 0)::(Tb++T2)):=(H12.sub (Qq _ (Vh (Rn (Tb++T2)) (QK T [((gs1 0).b,hdO hd0 none 0 0 none 0 0)])))).perm (QM _ (QV (l₁:=[((gs1 0).b,hdO hd0 none 0 0 none 0 0)]) (l₂:=Tb++T2)));clear H0 H1 H2 H3 H4 H5 H6 H7 H8 H9 H10 H11 H12 hsl;have hat: ∀ {ww:World},St w.heap.size w ww ((b6,Qk (hdC (hdX pa hn ro tx pr va vo a rd L M) q1 n6 cb1 q2 n10 cb2) 26)::((gs1 0).b,hdO hd0 none 0 0 none 0 0)::(Tb++T2))->qG ww (hdX pa hn ro tx pr va vo a rd L M) q1 n6 q2 n10:=fun H=>⟨hrow.atF H fun e he=>by simp[he],hrow2.atF H fun e he=>by simp[he]⟩
 refine za kr<|zd [0,1,2,3,4,5,6] kr kr<|rp [.l 0] H13 kr fun gs7 w12 J7=>wX [1,2,3,4,5,6] ?_;have J8:St w.heap.size w w12 ((b6,Qk (hdC (hdX pa hn ro tx pr va vo a rd L M) q1 n6 cb1 q2 n10 cb2) 26)::((gs1 0).b,hdO hd0 none 0 0 none 0 0)::(Tb++T2)):=J7.as kr;cases hr:rightH (hdX pa hn ro tx pr va vo a rd L M) with
 | false=>
  refine yP J8 (some 21) 39 #[hdV (hdX pa hn ro tx pr va vo a rd L M) q1 n6 cb1 q2 n10 cb2] _ _ (zrV (hdX pa hn ro tx pr va vo a rd L M) hox.sm hr q1 n6 cb1 q2 n10 cb2) (hat J8) ?_;intro w13 J9;refine rp [.v,.v,.v,.v,.v] J9 kr fun gs8 w14 J10=>wX []<|zb<|wW<|rS [.v,.v,itO em S (fun e=>hne e.symm)] J10 kr fun gs9 w15 J11=>?_;have G:St w.heap.size w w15 ((b6,Qk (hdC (hdX pa hn ro tx pr va vo a rd L M) q1 n6 cb1 q2 n10 cb2) 26)::((gs1 0).b,hdO hd0 none 0 0 none 0 0)::(Tb++T2)):=J11.as kr;refine zJ<|rS [.v,.s 1,.v] G kr fun gs20 w20 H20=>rRr [.cell 2 26,.tmp 3] [1] (.tuple #[hdV hd0 none 0 0 none 0 0,.int .i64 4]) (zV w.heap.size w (xH S)) H20 kr ?_;exact⟨[],.inr ⟨rfl,rfl,fun h hr2 ho e9=>by rw[eqH h hr2 ho e9,hr2]at hr;cases hr⟩,H20.sub (QE _)⟩
 | true=>
  refine yP J8 (some 21) 39 #[hdV (hdX pa hn ro tx pr va vo a rd L M) q1 n6 cb1 q2 n10 cb2] _ _ (zju (hdX pa hn ro tx pr va vo a rd L M) hox hr q1 n6 cb1 q2 n10 cb2) (hat J8) ?_;intro w13 J9;refine rp [.v,.v,.v,.v,.v] J9 kr fun gs8 w14 J10=>wX []<|zb<|wW ?_;by_cases hrec:zY (hdX pa hn ro tx pr va vo a rd L M)=S
  case neg=>
   refine rS [.v,.v,itO (zY (hdX pa hn ro tx pr va vo a rd L M)) S hrec] J10 kr fun gs9 w15 J11=>?_;have G:St w.heap.size w w15 ((b6,Qk (hdC (hdX pa hn ro tx pr va vo a rd L M) q1 n6 cb1 q2 n10 cb2) 26)::((gs1 0).b,hdO hd0 none 0 0 none 0 0)::(Tb++T2)):=J11.as kr;refine zJ<|rS [.v,.s 1,.v] G kr fun gs20 w20 H20=>rRr [.cell 2 26,.tmp 3] [1] (.tuple #[hdV hd0 none 0 0 none 0 0,.int .i64 4]) (zV w.heap.size w (xH S)) H20 kr ?_;exact⟨[],.inr ⟨rfl,rfl,fun h hr2 ho e9=>hrec (by rw[eqH h hr2 ho e9];exact congrArg VR e9)⟩,H20.sub (QE _)⟩
  refine rS [.v,.v,itE (zY (hdX pa hn ro tx pr va vo a rd L M)) S hrec] J10 kr fun gs9 w15 J11=>?_;have G:St w.heap.size w w15 ((b6,Qk (hdC (hdX pa hn ro tx pr va vo a rd L M) q1 n6 cb1 q2 n10 cb2) 26)::((gs1 0).b,hdO hd0 none 0 0 none 0 0)::(Tb++T2)):=J11.as kr;refine yh<|wW<|rS [.l 0,.s 1,.v] G kr fun gs10 w17 H10=>rRr [.cell 2 26,.tmp 3] [1] (.tuple #[hdV (hdX pa hn ro tx pr va vo a rd L M) q1 n6 cb1 q2 n10 cb2,.int .i64 0]) (zV w.heap.size w (xH S)) H10 kr ?_;exact⟨Tb++T2,.inl ⟨(hdX pa hn ro tx pr va vo a rd L M),q1,n6,cb1,q2,n10,cb2,Tb,T2,rfl,hr,hox,hrow,hrow2,rfl,UN hrec (xR hr)⟩,(H10.as (l:=(b6,Qk (hdC (hdX pa hn ro tx pr va vo a rd L M) q1 n6 cb1 q2 n10 cb2) 26)::((gs1 0).b,hdO (hdX pa hn ro tx pr va vo a rd L M) q1 n6 cb1 q2 n10 cb2)::(Tb++T2)) kr).sub (Qs _ (Qt ..))⟩
end
def sI:Fo->Qi
 | .nil=>[]
 | .cons _ s _ r=>s::sI r
theorem zjF: ∀L,sI (lsI L)=L
 | []=>rfl
 | a::r=>by
  show a::sI (lsI r)=_;rw[zjF r]
theorem zjG: ∀ {k:Fo},pureF k=true->(∀x∈sI k,x≠emB)->k=lsI (sI k)
 | .nil,_,_=>rfl
 | .cons l s k r,hp,hn=>by
  simp only[pureF,Qu,Bool.not_eq_true']at hp;have h2:=zjG hp.2 fun x hx=>hn x (QR _ hx);rcases jk hp.1.1 with⟨_,rfl⟩ | ⟨rfl,rfl⟩
  ·exact absurd rfl (hn _ (QX ..))
  ·show Fo.cons false s .nil r=.cons false s .nil (lsI (sI r));rw[<-h2]
theorem ze3: ∀ {k:Fo} {x:Qa},x∈sI k->x.size<=szF k
 | .cons l s k r,x,hx=>by
  have h:s.size<=sz1 l s (szF k):=by
   unfold sz1;split
   ·rename_i q
    rw[jV q];exact QH _
   ·omega
  simp only[szF];rcases Uj.1 hx with rfl | hx
  ·omega
  ·have:=ze3 hx;omega
theorem zsc {h:Hdr}(r:rightH h=true):zY h≠emB:=by
 have h0:wrV qa (hdF h)=(zY h,0):=UN rfl (xR r);unfold wrV at h0;rw[jq.parse]at h0;exact ze2 h0
theorem zsd {x:Txn}(r:rtX x=true):zD x≠emB:=by
 have h0:kj x=(zD x,0):=UN rfl (uh r);unfold kj at h0;rw[ke (show yQ x.1 x.2.2.2.1 x.2.2.2.2.1 x.2.2.2.2.2=true from r)]at h0;unfold wrV at h0;rw[jp.parse]at h0;exact ze2 h0
def ju (R:Hdr->List Txn->Int->Prop)(v:Value)(T:Qb):Prop:=∃(h:Hdr) (L:List Txn) (p:Qc) (n c:Nat) (q:Qc) (m k:Nat) (t:Qc) (z d:Nat) (T1 T2 T3:Qb) (e:Int),v=.tuple #[bkV h p n c q m k t z d,.int .i64 e]/\yj h/\(∀x∈L,qn x)/\yl sS 9 p n c T1 h.vs/\yl sgF 52 q m k T2 h.ss/\yl tnS 54 t z d T3 L/\T=(T1++T2)++T3/\R h L e
theorem kV {R:Hdr->List Txn->Int->Prop}(h:R hd0 [] 4):ju R (.tuple #[bkV hd0 none 0 0 none 0 0 none 0 0,.int .i64 4]) []:=
 ⟨hd0,[],none,0,0,none,0,0,none,0,0,[],[],[],4,rfl,zjv,(fun _ h=>nomatch h),.inl ⟨rfl,rfl,rfl,rfl,rfl⟩,.inl ⟨rfl,rfl,rfl,rfl,rfl⟩,.inl ⟨rfl,rfl,rfl,rfl,rfl⟩,rfl,h⟩
def vD (I:Fo)(h:Hdr)(L:List Txn)(e:Int):Prop:=(e=0/\yA h L=true/\sI I=zY h::L.map zD)\/(e=4/\h=hd0/\L=[]/\ ∀(k:Hdr) (M:List Txn),yA k M=true->yj k->(∀x∈M,yS x)->sI I≠zY k::M.map zD)
def jP (S:Qa)(h:Hdr)(L:List Txn)(e:Int):Prop:=(e=0/\yA h L=true/\jf h L=(S,0))\/(e=4/\h=hd0/\L=[]/\ ∀(k:Hdr) (M:List Txn),yA k M=true->yj k->(∀x∈M,yS x)->jf k M≠(S,0))
theorem za5 {S:Qa}{l:Bool}{s:Qa}{I:Fo}(h4:S.size<=4000)(hi:yd S l s I ⟨#[]⟩)(hd:dp1 l (dpF I)<=8){h:Hdr}{L:List Txn}{e:Int}(r:vD I h L e):jP S h L e:=by
 rcases r with⟨e0,hr,hs⟩|⟨e4,hh,hL,hno⟩
 ·have q:=qJ.1 hr;have hk:I=bkI (zY h) (L.map zD):=by
   have h9:=zjG hi.2.1 fun x hx=>by
    rw[hs]at hx;rcases Uj.1 hx with rfl | hx
    ·exact zsc q.hd
    ·obtain⟨y,hy,rfl⟩:=Rk.1 hx;exact zsd (QN.1 q.al y hy)
   rw[h9,hs];rfl
  subst hk;have he:=znz h4 hi hd;rcases jk hi.1 with⟨rfl,rfl⟩ | ⟨_,h0⟩
  ·exact .inl ⟨e0,hr,he⟩
  ·cases h0
 ·refine .inr ⟨e4,hh,hL,fun k M rk ok om hb=>?_⟩;have h9:=vV hb;have e9:=(yd.inj h4 hi h9).2.2;refine hno k M rk ok om ?_;rw[e9];show zY k::sI (lsI (M.map zD))=_;rw[zjF]
theorem ki.one {S:Qa}{v:Value}{T:Qb}(h:ki S v T):∃(x:Txn) (e:Int),v=.tuple #[tnV x,.int .i64 e]/\((e=0/\rtX x=true/\qn x/\zD x=S)\/(e=4/\qn x/\ ∀y:Txn,rtX y=true->yS y->zD y≠S)):=by
 rcases h with⟨to,a,n,r,s,vv,hv,hr,ha,hn,h1,h2,hw⟩|⟨hv,hno⟩
 ·have q:=za2.1 (show rtX (to,a,n,r,s,vv)=true from hr);exact⟨(to,a,n,r,s,vv),0,hv,.inl ⟨rfl,hr,⟨⟨ha,hn,h1,h2⟩,by rw[q.1];decide⟩,congrArg VR hw⟩⟩
 ·refine⟨tn0,4,hv,.inr ⟨rfl,⟨⟨by decide,by decide,⟨by decide,by decide⟩⟩,QU _⟩,fun y ry oy hy=>?_⟩⟩;exact hno y.1 y.2.1 y.2.2.1 y.2.2.2.1 y.2.2.2.2.1 y.2.2.2.2.2 ry oy.1 oy.2.1 oy.2.2.1 oy.2.2.2 (UN hy (uh ry))
theorem zse (I:Fo)(hz: ∀x∈sI I,x.size<=4000)(hl:I.len<=1000000)(p:Qc)(n c:Nat)(hc:n<=c):FnT Tryz.prog 23 #[.slice p n c] (fun w=>zq w.heap.size w p n I/\Ke.Marks w) (ju (vD I)):=by
 refine qz [.cell 2 29,.tmp 3] 58 Tryz.func23 fun w hP=>?_;obtain⟨hS,hM⟩:=hP;have hn:=hS.1;have H0:=St.start w;refine rS [.a,.v] H0 kr fun gs1 w1 H1=>za kr ?_;by_cases h0:n=0
 ·refine rS [.v,.v,itQ (n:Int) 0] H1 kr fun gs2 w2 H2=>zJ<|rS [.v,.s 0,.v] H2 kr fun gs3 w3 H3=>?_;have hI:I=.nil:=hS.zero h0;refine rRr [.cell 2 29,.tmp 3] [0] (.tuple #[bkV hd0 none 0 0 none 0 0 none 0 0,.int .i64 4]) (zV w.heap.size w (ju (vD I))) H3 kr ?_;exact⟨[],kV (.inr ⟨rfl,rfl,rfl,fun k M _ _ _ h9=>by rw[hI]at h9;cases h9⟩),H3.sub (QE _)⟩
 refine rS [.v,.v,itD (n:Int) 0] H1 kr fun gs2 w2 H2=>yh<|wW ?_;obtain⟨l0,s0,kk0,I',b,off,C,T,fz,p',n',c',rfl,rfl,_,hh,hsz0,hex,_,_,hR,hlen⟩:=hS.start.open (by omega) (show 0<n by omega);have hs0:s0.size<=4000:=hz s0 (QX ..);obtain⟨f0,f1,f2⟩:=uR hsz0 hex;have HB:St w.heap.size w w2 [((gs1 0).b,bkO hd0 none 0 0 none 0 0 none 0 0)]:=H2.as kr;refine zd [0,1,2,3,4,5,6,7,8,9,10] kr kr<|rp [.v,.o (ins:=[((.tmp 16),.slice (some ⟨b,off,none⟩) n c)]) (v:=.pointer (some ⟨b,off+0*3,none⟩)) (fun ρ o w ho hi2=>yV (kd:=.i64) (t:=47) (e:=58) (K:=3) (bytes:=48) kr (x:=(.tmp 16)) (y:=.const (.int .i64 0)) b off n c 0 rfl ho hi2.1 rfl (by omega) w),.v,.fs (off:=off+0*3+1) (v:=.string s0) hh (zo hh) f1] HB kr fun gs3 w3 H3=>wX [4,5,6,7,8,9,10] ?_;have H4:St w.heap.size w w3 [((gs1 0).b,bkO hd0 none 0 0 none 0 0 none 0 0)]:=H3.as kr;refine qk H4 (some 20) 48 #[.string s0] (zsb s0 (by omega)) trivial kr kr ?_;intro v Tz w4 hrd H5;obtain⟨h1,p1,n1,c1,q1,m1,k1,T1,T2,e1,rfl,o1,ra,rb,rfl,rd1⟩:=hrd.one;refine rp [.v,.v,.v] H5 kr fun gs4 w5 H6=>wX [8,9,10] ?_;have H7:St w.heap.size w w5 ((T1++T2)++ [((gs1 0).b,bkO hd0 none 0 0 none 0 0 none 0 0)]):=H6.as kr;refine zA H7 (some 4) 26 (hdV hd0 none 0 0 none 0 0) kr kr kr ?_;intro b4 w6 H8;refine rp [.s 0,.v] H8 kr fun gs5 w7 H9=>wX []<|zb<|wW ?_;have H10:St w.heap.size w w7 ((b4,hdO h1 p1 n1 c1 q1 m1 k1)::((T1++T2)++ [((gs1 0).b,bkO hd0 none 0 0 none 0 0 none 0 0)])):=H9.as kr;have H11:St w.heap.size w w7 ((b4,hdO h1 p1 n1 c1 q1 m1 k1)::((gs1 0).b,bkO hd0 none 0 0 none 0 0 none 0 0)::(T1++T2)):=H10.perm (QM _ (QV (l₁:=[((gs1 0).b,bkO hd0 none 0 0 none 0 0 none 0 0)]) (l₂:=T1++T2)));clear H0 H1 H2 H3 H4 H5 H6 H7 H8 H9 H10 HB;obtain⟨Tb,hTb⟩:∃Tb,T1++T2=Tb:=⟨_,rfl⟩
 rw[hTb]at H11;have hA: ∀e∈T1,e∈Tb:=fun e he=>hTb▸Rd _ he;have hB: ∀e∈T2,e∈Tb:=fun e he=>hTb▸QZ _ he;refine za kr ?_;rcases rd1 with⟨rfl,hr1,hw1⟩ | ⟨rfl,rfl,hno⟩
 case inr=>
  refine rS [.v,.v] H11 kr fun gs6 w8 H12=>zJ<|rS [.v,.v,.s 1,.v] H12 kr fun gs7 w9 H13=>rRr [.cell 2 29,.tmp 3] [1] (.tuple #[bkV hd0 none 0 0 none 0 0 none 0 0,.int .i64 4]) (zV w.heap.size w (ju (vD (.cons l0 s0 kk0 I')))) H13 kr ?_;exact⟨[],kV (.inr ⟨rfl,rfl,rfl,fun k M rk ok om h9=>hno k (qJ.1 rk).hd ok (by rw[show sI (Fo.cons l0 s0 kk0 I')=s0::sI I' from rfl]at h9;injection h9 with h9;rw[h9];exact UN rfl (xR (qJ.1 rk).hd))⟩),H13.sub (QE _)⟩
 refine rS [.v,.v] H11 kr fun gs6 w8 H12=>yh<|wW<|zd [0,1,2,3] kr kr<|rp [.l 0,.v] H12 kr fun gs7 w9 H13=>wX [2,3] ?_;have H14:St w.heap.size w w9 ((b4,hdO h1 p1 n1 c1 q1 m1 k1)::((gs1 0).b,bkO hd0 none 0 0 none 0 0 none 0 0)::Tb):=H13.as kr;refine zA H14 (some 6) 29 (bkV hd0 none 0 0 none 0 0 none 0 0) kr kr kr ?_;intro b6 w10 H15;refine rp [.s 0] H15 kr fun gs8 w11 H16=>wX []<|zb<|wW ?_;have H17:St w.heap.size w w11 ((b6,bkO h1 p1 n1 c1 q1 m1 k1 none 0 0)::(b4,hdO h1 p1 n1 c1 q1 m1 k1)::((gs1 0).b,bkO hd0 none 0 0 none 0 0 none 0 0)::Tb):=H16.as kr;have H18:St w.heap.size w w11 (((gs1 0).b,bkO hd0 none 0 0 none 0 0 none 0 0)::(b6,bkO h1 p1 n1 c1 q1 m1 k1 none 0 0)::Tb):=(H17.sub (Qq _ (Qt ..))).perm (Uz _ _ _);obtain⟨pt,hpt⟩:∃pt,some (⟨b,if c=1 then off else off+1*3,none⟩:Addr)=pt:=⟨_,rfl⟩
 obtain⟨m,hm⟩:∃m,n-1=m:=⟨_,rfl⟩
 have hR1:FoR w.heap.size w pt 0 I':=by
  rcases hR with h|⟨b9,o9,e9,h⟩
  ·exact .inl h
  ·injection e9 with e9
   injection e9 with e9 e10
   subst e9 e10;by_cases hc1:c=1
   ·left;cases I' with
    | nil=>rfl
    | cons _ _ _ r=>simp only[Fo.len]at hlen;omega
   ·exact .inr ⟨b,off+1*3,by rw[<-hpt,if_neg hc1],h⟩
 have hlm:I'.len=m:=by omega
 refine za kr<|rS [.v,.o (ins:=[((.tmp 29),.slice (some ⟨b,off,none⟩) n c)]) (v:=.slice pt m (c-1)) (fun ρ o w ho hi2=>by rw[<-hpt,<-hm];exact zih (t:=47) (e:=58) (size:=3) (bytes:=48) kr (x:=(.tmp 29)) (z:=.const (.int .i64 1)) b off n c 1 ho hi2.1 rfl (by omega) hc w),.v,.v] H18 kr fun gs9 w12 H19=>?_;clear H11 H12 H13 H14 H15 H16 H17 H18;refine yR 32 31 33 52 0 1 m (by simp only[Fo.len]at hl;omega) (fun i ρ ww=> ∃L r t e T3,sI I'=L.map zD++sI r/\L.all rtX=true/\(∀x∈L,qn x)/\FoR w.heap.size w pt i r/\i+r.len=m/\yl tnS 54 t i e T3 L/\St w.heap.size w ww (((gs1 0).b,bkO hd0 none 0 0 none 0 0 none 0 0)::(b6,bkO h1 p1 n1 c1 q1 m1 k1 t i e)::(Tb++T3))/\Is [(2,Qe (gs1 0).b),(6,Qe b6),(30,.slice pt m (c-1)),(31,iN m),(32,iN i)] ρ) (by rintro i _ ww ⟨_,_,_,_,_,_,_,_,_,_,_,_,_,rfl⟩;exact⟨kr,kr⟩) ⟨[],I',none,0,[],rfl,rfl,(fun _ h=>nomatch h),hR1,by omega,.inl ⟨rfl,rfl,rfl,rfl,rfl⟩,by rw[QI];exact H19.as kr,isK⟩ ?_ ?_
 ·clear H19;rintro i _ w5 hi ⟨L,r,t,e,T3,hsI,hal,hsm,hFr,hlr,hrow,H5,_,rfl⟩;obtain⟨l2,s2,k2,r',bb,o2,C2,Ty2,fz2,p2,n2,c2,rfl,hp2,_,hh2,hsz2,hex2,_,_,hFr',hlr'⟩:=hFr.open hlr hi;have hs2:s2.size<=4000:=hz s2 (QR _ (by rw[hsI];exact QZ _ (QX ..)));have hLl:=hrow.len;refine zd [0,1,2,3] kr kr<|rp [itX 30 32 47 58 3 48 bb o2 m (c-1) i hp2,.fp (off:=o2+i*3) (n:=3) (W:=#[.bool l2,.string s2,.slice p2 n2 c2]) hh2 (zo hh2) hsz2 hex2] H5 kr fun gs5 w6 H6=>wX [2,3] ?_;have H7:St w.heap.size w w6 (((gs1 0).b,bkO hd0 none 0 0 none 0 0 none 0 0)::(b6,bkO h1 p1 n1 c1 q1 m1 k1 t i e)::(Tb++T3)):=H6.as kr;refine zA H7 (some 8) 58 (.agg #[.bool false,.string ⟨#[]⟩,.slice none 0 0]) kr kr kr ?_;intro b8 w7 H8;refine rp [.s 0] H8 kr fun gs6 w8 H9=>wX []<|zb<|zd [0,1,2,3,4,5,6,7,8] kr kr<|rp [.v,.l 0] H9 kr fun gs7 w9 H10=>wX [2,3,4,5,6,7,8] ?_;have H11:St w.heap.size w w9 ((b8,.cells #[.bool l2,.string s2,.slice p2 n2 c2] 58 (0,0))::((gs1 0).b,bkO hd0 none 0 0 none 0 0 none 0 0)::(b6,bkO h1 p1 n1 c1 q1 m1 k1 t i e)::(Tb++T3)):=H10.as kr;refine qk H11 (some 39) 49 #[.string s2] (zqM s2 (by omega)) trivial kr kr ?_;intro v Tx w10 hrt H12;obtain⟨x,ex,rfl,hx⟩:=hrt.one;refine rp [.v,.v,.v] H12 kr fun gs8 w11 H13=>wX [6,7,8] ?_;have H14:St w.heap.size w w11 (Tx++((b8,.cells #[.bool l2,.string s2,.slice p2 n2 c2] 58 (0,0))::((gs1 0).b,bkO hd0 none 0 0 none 0 0 none 0 0)::(b6,bkO h1 p1 n1 c1 q1 m1 k1 t i e)::(Tb++T3))):=H13.as kr;have H15:St w.heap.size w w11 (((gs1 0).b,bkO hd0 none 0 0 none 0 0 none 0 0)::(b6,bkO h1 p1 n1 c1 q1 m1 k1 t i e)::(Tb++T3)):=H14.sub ((Qt ..).trans (QK ..));refine zA H15 (some 9) 54 (tnV tn0) kr kr kr ?_;intro b9 w12 H16;refine rp [.s 0,.v] H16 kr fun gs9 w13 H17=>wX []<|zb ?_;have H18:St w.heap.size w w13 ((b9,tnO x)::((gs1 0).b,bkO hd0 none 0 0 none 0 0 none 0 0)::(b6,bkO h1 p1 n1 c1 q1 m1 k1 t i e)::(Tb++T3)):=H17.as kr;clear H5 H6 H7 H8 H9 H10 H11 H12 H13 H14 H15 H16 H17;refine za kr ?_;rcases hx with⟨rfl,rx,ox,ex9⟩ | ⟨rfl,_,hno⟩
  case inr=>
   refine rS [.v,.v] H18 kr fun gs10 w14 H19=>zJ<|rS [.v,.v,.s 1,.v] H19 kr fun gs11 w15 H20=>rRr [.cell 2 29,.tmp 3] [1] (.tuple #[bkV hd0 none 0 0 none 0 0 none 0 0,.int .i64 4]) (zV w.heap.size w (ju (vD (.cons l0 s0 kk0 I')))) H20 kr ?_
   exact⟨[],kV (.inr ⟨rfl,rfl,rfl,fun k M rk ok om h9=>by
    rw[show sI (Fo.cons l0 s0 kk0 I')=s0::sI I' from rfl]at h9;injection h9 with _ h9
    rw[hsI]at h9;have h8:s2∈M.map zD:=by rw[<-h9];exact QZ _ (QX ..)
    obtain⟨y,hy,e9⟩:=Rk.1 h8
    exact hno y (QN.1 (qJ.1 rk).al y hy) (om y hy) e9⟩),H20.sub (QE _)⟩
  refine rS [.v,.v] H18 kr fun gs10 w14 H19=>yh<|wW<|yu [0,1,2,3,4,5,6] kr<|rp [.v,.l 2,.l 0] H19 kr fun gs11 w15 H20=>wX [3,4,5,6] ?_;have H21:St w.heap.size w w15 ((b9,tnO x)::((gs1 0).b,bkO hd0 none 0 0 none 0 0 none 0 0)::(b6,bkO h1 p1 n1 c1 q1 m1 k1 t i e)::(Tb++T3)):=H20.as kr;refine jT H21 (some 49) (fun b=>Qf b 1 1) (tnS.cs x).toArray 54 kr kr ?_;intro bn w16 H22;refine xL (S:=tnS) (some 50) 27 54 104 (.tmp 47) (.tmp 49) (H22.perm (QM _ (kg [(b9,tnO x),((gs1 0).b,bkO hd0 none 0 0 none 0 0 none 0 0),(b6,bkO h1 p1 n1 c1 q1 m1 k1 t i e)] Tb T3))) hrow kr kr kr kr kr (by simp only[Fo.len]at hl hlr;omega) (by unfold maxLen;simp only[Fo.len]at hl hlr;omega) ?_;intro b' cap' cur' w17 H23 hr';refine rp [.v,.s 3] H23 kr fun gs12 w18 H24=>wX []<|zb ?_;have H25:St w.heap.size w w18 ((b',.cells cur' 54)::(b9,tnO x)::((gs1 0).b,bkO hd0 none 0 0 none 0 0 none 0 0)::(b6,bkO h1 p1 n1 c1 q1 m1 k1 (Qg b') (i+1) cap')::Tb):=H24.as kr;refine⟨kr,L++ [x],r',Qg b',cap',[(b',.cells cur' 54)],?_,?_,?_,hFr',hlr',.inr ⟨b',cur',rfl,rfl,hr'⟩,(H25.sub (Qq _ (Qt ..))).perm (kg [((gs1 0).b,bkO hd0 none 0 0 none 0 0 none 0 0),(b6,bkO h1 p1 n1 c1 q1 m1 k1 (Qg b') (i+1) cap')] Tb [(b',.cells cur' 54)]).symm,isK⟩
  ·rw[hsI,RD,QD,List.map_singleton,ex9];rfl
  ·rw[VH,hal,UJ];simpa using rx
  ·intro y hy;rcases List.mem_append.1 hy with hy | hy
   ·exact hsm y hy
   ·obtain rfl:=List.mem_singleton.1 hy;exact ox
 ·clear H19;rintro _ w5 ⟨L,r,t,e,T3,hsI,hal,hsm,hFr,hlr,hrow,H5,_,rfl⟩;obtain rfl:r=.nil:=FoR.done hlr (by omega);rw[show sI Fo.nil=[] from rfl,QI]at hsI;have hLl:=hrow.len;have hR:=zcV h1 L o1.sm (by simp only[Fo.len]at hl;omega) hsm p1 n1 c1 q1 m1 k1 t m e;refine wW<|za kr<|zd [0,1,2] kr kr<|rp [.l 1] H5 kr fun gs5 w6 H6=>wX [1,2] ?_;have H7:St w.heap.size w w6 (((gs1 0).b,bkO hd0 none 0 0 none 0 0 none 0 0)::(b6,bkO h1 p1 n1 c1 q1 m1 k1 t m e)::(Tb++T3)):=H6.as kr;refine zaa H7 (some 54) 10 #[bkV h1 p1 n1 c1 q1 m1 k1 t m e] _ _ hR ⟨⟨⟨ra.atF H7 fun e he=>by simp[hA e he],rb.atF H7 fun e he=>by simp[hB e he]⟩,hrow.atF H7 fun e he=>by simp[he]⟩,qm hM H7.below⟩ (fun w=>by kernel_rfl) kr ?_;intro w7 H8;refine rp [.v] H8 kr fun gs6 w8 H9=>wX []<|zb<|wW ?_;have H10:St w.heap.size w w8 (((gs1 0).b,bkO hd0 none 0 0 none 0 0 none 0 0)::(b6,bkO h1 p1 n1 c1 q1 m1 k1 t m e)::(Tb++T3)):=H9.as kr;cases hrb:yA h1 L with
  | false=>
   refine zJ<|rS [.v,.s 0,.v] H10 kr fun gs7 w9 H11=>rRr [.cell 2 29,.tmp 3] [0] (.tuple #[bkV hd0 none 0 0 none 0 0 none 0 0,.int .i64 4]) (zV w.heap.size w (ju (vD (.cons l0 s0 kk0 I')))) H11 kr ?_
   exact⟨[],kV (.inr ⟨rfl,rfl,rfl,fun k M rk ok om h9=>by
    have q:=qJ.1 rk;rw[show sI (Fo.cons l0 s0 kk0 I')=s0::sI I' from rfl,hsI]at h9;injection h9 with h9 h8
    have e1:h1=k:=zeV o1 ok hr1 q.hd hw1 (by rw[h9];exact UN rfl (xR q.hd));have e2:L=M:=zcU (fun x hx=>(hsm x hx).1) om hal q.al h8;rw[e1,e2,rk]at hrb
    cases hrb⟩),H11.sub (QE _)⟩
  | true=>
   refine yh<|wW<|rS [.l 1,.s 0,.v] H10 kr fun gs7 w9 H11=>rRr [.cell 2 29,.tmp 3] [0] (.tuple #[bkV h1 p1 n1 c1 q1 m1 k1 t m e,.int .i64 0]) (zV w.heap.size w (ju (vD (.cons l0 s0 kk0 I')))) H11 kr ?_;have H12:St w.heap.size w w9 (((gs1 0).b,bkO h1 p1 n1 c1 q1 m1 k1 t m e)::(b6,bkO h1 p1 n1 c1 q1 m1 k1 t m e)::(Tb++T3)):=H11.as kr;refine⟨Tb++T3,⟨h1,L,p1,n1,c1,q1,m1,k1,t,m,e,T1,T2,T3,0,rfl,o1,hsm,ra,rb,hrow,by rw[hTb],.inl ⟨rfl,hrb,?_⟩⟩,H12.sub (Qs _ (Qt ..))⟩;show s0::sI I'=_;rw[hsI,show zY h1=s0 from congrArg VR hw1]
theorem zsf (s:Qa)(hs:s.size<=1000000):FnT Tryz.prog 7 #[.string s] Ke.Marks (ju (jP s)):=by
 refine qz [.cell 2 29,.tmp 3] 19 Tryz.func7 fun w hM=>rS [.a,.v] (St.start w) kr fun gs1 w1 H1=>zd [0,1,2,3,4,5,6,7] kr kr<|rp [.v] H1 kr fun gs2 w2 H2=>wX [1,2,3,4,5,6,7] ?_;have H3:St w.heap.size w w2 [((gs1 0).b,bkO hd0 none 0 0 none 0 0 none 0 0)]:=H2.as kr;refine vU H3 (some 8) 22 #[.string s] (zhk s (by omega)) kr kr ?_;intro vd Td w3 hdec H4;have hdc:=hdec;rcases hdec.casesC with⟨l1,s1,p1,n1,c1,k1,rfl,hit,hsl,hs1,hdp,h4⟩ | ⟨er,her,rfl,rfl⟩
 ·refine rp [.v,.v,.v] H4 kr fun gs3 w4 H5=>wX [5,6,7] ?_;have H6:St w.heap.size w w4 (Td++ [((gs1 0).b,bkO hd0 none 0 0 none 0 0 none 0 0)]):=H5.as kr;refine zA H6 (some 4) 58 (.agg #[.bool false,.string ⟨#[]⟩,.slice none 0 0]) kr kr kr ?_;intro b4 w5 H7;refine rp [.s 0,.v] H7 kr fun gs4 w6 H8=>wX []<|zb<|wW ?_;have H9:St w.heap.size w w6 ((b4,.cells #[.bool l1,.string s1,.slice p1 n1 c1] 58 (0,0))::(Td++ [((gs1 0).b,bkO hd0 none 0 0 none 0 0 none 0 0)])):=H8.as kr;have H10:St w.heap.size w w6 ((b4,.cells #[.bool l1,.string s1,.slice p1 n1 c1] 58 (0,0))::((gs1 0).b,bkO hd0 none 0 0 none 0 0 none 0 0)::Td):=H9.perm (QM _ (QV (l₁:=[((gs1 0).b,bkO hd0 none 0 0 none 0 0 none 0 0)]) (l₂:=Td)));refine za kr<|rS [.v,.v] H10 kr fun gs5 w7 H11=>yh<|wW<|zd [0,1,2,3,4,5,6] kr kr<|rp [.v,.l 0] H11 kr fun gs6 w8 H12=>wX [2,3,4,5,6] ?_;have H13:St w.heap.size w w8 ((b4,.cells #[.bool l1,.string s1,.slice p1 n1 c1] 58 (0,0))::((gs1 0).b,bkO hd0 none 0 0 none 0 0 none 0 0)::Td):=H12.as kr;have hsz:=hit.sz;have hlen:=Fo.len_le k1;refine qk H13 (some 16) 23 #[.slice p1 n1 c1] (zse k1 (fun x hx=>by have:=ze3 hx;omega) (by omega) p1 n1 c1 hsl.2) ⟨hsl.1.at H13 fun e he=>by simp[he],qm hM H13.below⟩ kr kr ?_;rintro _ T w9 ⟨h,L,p,n,c,q,m,k,t,z,d,T1,T2,T3,e,rfl,oh,oL,ra,rb,rc,rfl,rd⟩ H14;have H15:St w.heap.size w w9 ((b4,.cells #[.bool l1,.string s1,.slice p1 n1 c1] 58 (0,0))::((gs1 0).b,bkO hd0 none 0 0 none 0 0 none 0 0)::(Td++((T1++T2)++T3))):=H14.perm (QV (l₁:=(b4,Qk #[.bool l1,.string s1,.slice p1 n1 c1] 58 (0,0))::((gs1 0).b,bkO hd0 none 0 0 none 0 0 none 0 0)::Td) (l₂:=(T1++T2)++T3));refine rp [.v,.v,.s 1,.v] H15 kr fun gs7 w10 H16=>wX []<|zb<|wW<|rRr [.cell 2 29,.tmp 3] [1] (.tuple #[bkV h p n c q m k t z d,.int .i64 e]) (zV w.heap.size w (ju (jP s))) H16 kr ?_;have H17:St w.heap.size w w10 ((b4,.cells #[.bool l1,.string s1,.slice p1 n1 c1] 58 (0,0))::((gs1 0).b,bkO h p n c q m k t z d)::(Td++((T1++T2)++T3))):=H16.as kr;exact⟨(T1++T2)++T3,⟨h,L,p,n,c,q,m,k,t,z,d,T1,T2,T3,e,rfl,oh,oL,ra,rb,rc,rfl,za5 h4 hit hdp rd⟩,H17.sub (Qs _ (Qs _ (QK ..)))⟩
 ·refine rp [.v,.v,.v] H4 kr fun gs3 w4 H5=>wX [5,6,7] ?_;have H6:St w.heap.size w w4 [((gs1 0).b,bkO hd0 none 0 0 none 0 0 none 0 0)]:=H5.as kr;refine zA H6 (some 4) 58 (.agg #[.bool false,.string ⟨#[]⟩,.slice none 0 0]) kr kr kr ?_;intro b4 w5 H7;refine rp [.s 0,.v] H7 kr fun gs4 w6 H8=>wX []<|zb<|wW<|za kr<|rS [.v,.E (.bool (er !=0)) (.bool true) (zc (bne_iff_ne.2 her))] H8 kr fun gs5 w7 H9=>zJ<|rS [.v,.s 1,.v] H9 kr fun gs6 w8 H10=>rRr [.cell 2 29,.tmp 3] [1] (.tuple #[bkV hd0 none 0 0 none 0 0 none 0 0,.int .i64 4]) (zV w.heap.size w (ju (jP s))) H10 kr ?_
  exact⟨[],kV (.inr ⟨rfl,rfl,rfl,fun k M rk ok om h9=>by
   have hd9:kL (zC true emB (bkI (zY k) (M.map zD)).len (bkI (zY k) (M.map zD))).1 (erV er) []:=by
    rw[show (zC true emB (bkI (zY k) (M.map zD)).len (bkI (zY k) (M.map zD))).1=s from congrArg VR h9];exact hdc
   obtain⟨p9,n9,c9,hv,_⟩:=zhI (za3 rk) hd9;unfold erV at hv;injection hv with hv;have h9:=congrArg (fun a:Qd=>a[1]?) hv;simp at h9
   exact her h9⟩),H10.sub (QE _)⟩
theorem zsg {w:World}{b:Nat}(x1 x2 x3 x4:Nat×Qa)(hh:w.heap[b]? =some (.cells (ud x1 x2 x3 x4) 89))(h1:fS.ok x1)(h2:fS.ok x2)(h3:fS.ok x3)(h4:fS.ok x4):SlR fS w.heap.size w (Qg b) 4 (.cons x1 .nil (.cons x2 .nil (.cons x3 .nil (.cons x4 .nil .nil)))):=
 ⟨rfl,by decide,.inr ⟨b,0,rfl,⟨_,_,_,none,0,0,zo hh,hh,of_decide_eq_true kr,by kernel_rfl,h1,rfl,by decide,.inl rfl⟩,⟨_,_,_,none,0,0,zo hh,hh,of_decide_eq_true kr,by kernel_rfl,h2,rfl,by decide,.inl rfl⟩,⟨_,_,_,none,0,0,zo hh,hh,of_decide_eq_true kr,by kernel_rfl,h3,rfl,by decide,.inl rfl⟩,⟨_,_,_,none,0,0,zo hh,hh,of_decide_eq_true kr,by kernel_rfl,h4,rfl,by decide,.inl rfl⟩,trivial⟩⟩
theorem zsh (to:Qa)(a n r s:Nat)(v:Int)(hr:r<big)(hs:s<big):Fn Tryz.prog 31 #[txV to a n r s v] (.bool (yQ to r s v)):=by
 refine zv [.tmp 2] 12 Tryz.func31 fun w=>rS [.b,.v] (St.start w) kr fun gs1 w1 H1=>?_;by_cases hz:to.size=20
 ·refine rS [.v,.l 0,.v,itQ (to.size:Int) 20,.v,.v,.l 0,.c (zcf r s hr hs v),.v,.v] H1 kr fun gs3 w3 H3=>?_;exact rRe [.tmp 2] [] (v:=.bool (zP r s v)) (v':=.bool (yQ to r s v)) H3 (zc (by unfold yQ;rw[decide_eq_true hz];rfl)) kr
 ·refine rS [.v,.l 0,.v,itD (to.size:Int) 20,.v,.n,.n,.n,.v,.v] H1 kr fun gs3 w3 H3=>?_;exact rRe [.tmp 2] [] (v:=.bool false) (v':=.bool (yQ to r s v)) H3 (zc (by unfold yQ;rw[decide_eq_false hz];rfl)) kr
theorem zjH (to:Qa)(a n r s:Nat)(v:Int)(hz:to.size<=1000000)(ha:a<0x10000000000000000)(hn:n<0x10000000000000000)(hr:r<big)(hs:s<big):Fn Tryz.prog 35 #[txV to a n r s v] (.string (wrV je (txF to a n (sbs r s v))).1):=by
 have hsz:(sbs r s v).size<=0x800000000000:=by rw[jZ];omega
 refine zv [.tmp 2] 24 Tryz.func35 fun w=>rS [.b,.v] (St.start w) kr fun gs1 w1 H1=>dSg (fun gs2=>[.v,.l 0,.v,.v,.l 0,.v,.v,.l 0,.v,.v,.l 0,.c (f:=62) (args:=#[sgv r s v]) (v:=.string (sbs r s v)) (zh8 r s hr hs v),.v,.nw (fun b=>Qf b 4 4) (ud (0,to) (a,em) (n,em) (0,sbs r s v)) 89,.cp (pre:=fun w=>SlR fS w.heap.size w (Qg (gs2 13).b) 4 (txF to a n (sbs r s v))) (zeH je xC jp (by decide) (Qg (gs2 13).b) 4 4 (txF to a n (sbs r s v))) [(1,((gs2 13).b,Qk (ud (0,to) (a,em) (n,em) (0,sbs r s v)) 89))] (fun w hb hd=>zsg (0,to) (a,em) (n,em) (0,sbs r s v) hd.1 ⟨(by decide:0<0x10000000000000000),by show to.size<=_;omega⟩ ⟨ha,QU _⟩ ⟨hn,QU _⟩ ⟨(by decide:0<0x10000000000000000),hsz⟩),.v,.v,.v,.v,.v]) H1 kr fun gs2 w2 H2=>rS [.v,.v] H2 kr fun gs3 w3 H3=>?_;exact rR [.tmp 2] [] (.string (wrV je (txF to a n (sbs r s v))).1) H3 kr
theorem zsi (to:Qa)(a n r s:Nat)(v:Int)(hz:to.size<=1000000)(ha:a<0x10000000000000000)(hn:n<0x10000000000000000)(hr:r<big)(hs:s<big):Fn Tryz.prog 32 #[txV to a n r s v] (.string (zg (Kec.sumB (tl (wrV je (txF to a n (sbs r s v))).1)))):=by
 have hw:=zhO je (txF to a n (sbs r s v));have hbytes:=zjH to a n r s v hz ha hn hr hs;generalize (wrV je (txF to a n (sbs r s v))).1=xb at*;refine zv [.tmp 2] 6 Tryz.func32 fun w=>rS [.b,.v] (St.start w) kr fun gs1 w1 H1=>rS [.l 0,.c hbytes,.c (Ke.sumR_fn xb (by omega)),.v] H1 kr fun gs2 w2 H2=>?_;exact rR [.tmp 2] [] (.string (zg (Kec.sumB (tl xb)))) H2 kr
theorem zsj (S:Qa)(hS:S.size<=4100):FnT Tryz.prog 26 #[.string S] (fun _=>True) (ki S):=by
 have hno:(∀(to:Qa) (a n:Nat) (sg:Qa),sg.size=65->zP (sgR sg) (sgS sg) (sgV sg)=true->to.size=20->a<0x10000000000000000->n<0x10000000000000000->yL 40 (kfL xC) (0,⟨#[]⟩) (txF to a n sg)≠(S,0))-> ∀(to:Qa) (a n r s:Nat) (vv:Int),yQ to r s vv=true->a<0x10000000000000000->n<0x10000000000000000->r<big->s<big->txW to a n r s vv≠(S,0):=fun h to a n r s vv hR ha hn hr hs e=>by
  rw[ke hR]at e;unfold yQ at hR;rw[Qu,decide_eq_true_iff]at hR;refine h to a n (sbs r s vv) (jZ r s vv) (by rw[zaO hr,zaP hs,zaQ hR.2];exact hR.2) hR.1 ha hn ?_;unfold wrV at e;rw[jp.parse]at e;exact e
 refine qz [.cell 2 54,.tmp 3] 41 Tryz.func26 fun w _=>rS [.a,.v] (St.start w) kr fun gs1 w1 H1=>zd [0,1,2,3,4,5,6] kr kr<|rp [.v] H1 kr fun gs2 w2 H2=>wX [1,2,3,4,5,6] ?_;have H3:St w.heap.size w w2 [((gs1 0).b,txO em 0 0 0 0 0)]:=H2.as kr;refine qk H3 (some 10) 52 #[.string je,.string S] (zi7 je S xC jp (by decide) (by omega)) trivial kr kr ?_;intro v T w3 hrd H4;rcases hrd with⟨p4,n4,c4,l4,k4,hp4,rfl,hR4,hw4⟩ | ⟨e,he,rfl,hbad⟩
 ·obtain rfl:kfL xC=k4:=Option.some.inj (jp.parse.symm.trans hp4);refine rp [.v,.v,.v,.v,.v] H4 kr fun gs3 w4 H5=>wX []<|zb<|wW<|za kr<|rS [.v,.v] H5 kr fun gs4 w5 H6=>zi kr kr<|zj kr<|wW ?_;have hfit:=(uC jp.kd l4).1 (xA hw4).1;obtain⟨to,a,n,sg,rfl,hto,hsg⟩:=(zcv l4).1 hfit.1;have hok4:=(hR4.at H6 fun e he=>Rd _ he).ok;have ha:a<0x10000000000000000:=hok4.2.2.1.1;have hn:n<0x10000000000000000:=hok4.2.2.2.2.1.1;obtain⟨rfl,b,off,C,ty,fz,rfl,hmem,e1,e2,e3,e4⟩:=zji hR4 H6 fun e he=>Rd _ he;have H7:St w.heap.size w w5 [(b,.cells C ty fz),((gs1 0).b,txO em 0 0 0 0 0)]:=H6.sub (Vh (List.singleton_sublist.2 hmem) (Rn _));have hfr:=zia sg (by omega);rw[zef]at hfr;by_cases hm:zP (sgR sg) (sgS sg) (sgV sg)=true
  ·rw[if_pos ⟨hsg,hm⟩]at hfr;refine rS [.v,.o (ins:=[((.tmp 17),.slice (some ⟨b,off,none⟩) 4 c4)]) (v:=.pointer (some ⟨b,off+3*3,none⟩)) (fun ρ o w ho hi2=>qX (kd:=.i64) (t:=85) (e:=89) (K:=3) (bytes:=48) kr (x:=(.tmp 17)) (y:=.const (.int .i64 3)) b off 4 c4 3 rfl ho hi2.1 rfl (by decide) w),.v,.ls 0 (C:=C) (off:=off+3*3+1) (v:=.string sg) e4,.c hfr,.v,.v,.v,.a,.s 2,.v] H7 kr fun gs5 w7 H9=>za kr<|rS [.v,.v] H9 kr fun gs6 w8 H10=>zi kr kr<|zj kr<|wW<|dS [.v,.o (ins:=[((.tmp 27),.slice (some ⟨b,off,none⟩) 4 c4)]) (v:=.pointer (some ⟨b,off+0*3,none⟩)) (fun ρ o w ho hi2=>qX (kd:=.i64) (t:=85) (e:=89) (K:=3) (bytes:=48) kr (x:=(.tmp 27)) (y:=.const (.int .i64 0)) b off 4 c4 0 rfl ho hi2.1 rfl (by decide) w),.v,.ls 0 (C:=C) (off:=off+0*3+1) (v:=.string to) e1,.v,.o (ins:=[((.tmp 31),.slice (some ⟨b,off,none⟩) 4 c4)]) (v:=.pointer (some ⟨b,off+1*3,none⟩)) (fun ρ o w ho hi2=>qX (kd:=.i64) (t:=85) (e:=89) (K:=3) (bytes:=48) kr (x:=(.tmp 31)) (y:=.const (.int .i64 1)) b off 4 c4 1 rfl ho hi2.1 rfl (by decide) w),.v,.ls 0 (C:=C) (off:=off+1*3+0) (v:=.int .u64 (a:Int)) e2,.v,.o (ins:=[((.tmp 35),.slice (some ⟨b,off,none⟩) 4 c4)]) (v:=.pointer (some ⟨b,off+2*3,none⟩)) (fun ρ o w ho hi2=>qX (kd:=.i64) (t:=85) (e:=89) (K:=3) (bytes:=48) kr (x:=(.tmp 35)) (y:=.const (.int .i64 2)) b off 4 c4 2 rfl ho hi2.1 rfl (by decide) w),.v,.ls 0 (C:=C) (off:=off+2*3+0) (v:=.int .u64 (n:Int)) e3,.l 2,.v,.s 1,.v] H10 kr fun w9 H11=>rRr [.cell 2 54,.tmp 3] [1] (.tuple #[txV to a n (sgR sg) (sgS sg) (sgV sg),.int .i64 0]) (zV w.heap.size w (ki S)) H11 kr ?_;have hR:yQ to (sgR sg) (sgS sg) (sgV sg)=true:=by unfold yQ;rw[decide_eq_true hto,hm];rfl
   refine⟨[],.inl ⟨to,a,n,_,_,_,rfl,hR,ha,hn,zcr hsg,zcs hsg,?_⟩,H11.sub (QE _)⟩;rw[ke hR,zie hsg];unfold wrV;rw[jp.parse];exact hw4
  ·rw[if_neg (fun h9=>hm h9.2)]at hfr;refine rS [.v,.o (ins:=[((.tmp 17),.slice (some ⟨b,off,none⟩) 4 c4)]) (v:=.pointer (some ⟨b,off+3*3,none⟩)) (fun ρ o w ho hi2=>qX (kd:=.i64) (t:=85) (e:=89) (K:=3) (bytes:=48) kr (x:=(.tmp 17)) (y:=.const (.int .i64 3)) b off 4 c4 3 rfl ho hi2.1 rfl (by decide) w),.v,.ls 0 (C:=C) (off:=off+3*3+1) (v:=.string sg) e4,.c hfr,.v,.v,.v,.a,.s 2,.v] H7 kr fun gs5 w7 H9=>za kr<|rS [.v,.v] H9 kr fun gs6 w8 H10=>zh kr kr<|rS [.v,.s 1,.v] H10 kr fun gs7 w9 H11=>rRr [.cell 2 54,.tmp 3] [1] (.tuple #[txV em 0 0 0 0 0,.int .i64 4]) (zV w.heap.size w (ki S)) H11 kr ?_;refine⟨[],.inr ⟨rfl,hno fun to' a' n' sg' h1 h2 h3 ha' hn' e=>?_⟩,H11.sub (QE _)⟩;have:=uE e hw4 (uQ (by omega) ha' hn' (by omega)) hok4;obtain⟨_,_,_,rfl⟩:=zeh this;exact hm h2
 ·refine rp [.v,.v,.v,.v,.v] H4 kr fun gs3 w4 H5=>wX []<|zb<|wW<|za kr<|rS [.v,.E (.bool (!(e==0))) (.bool true) (zc (by rw[beq_eq_false_iff_ne.2 he];rfl))] H5 kr fun gs4 w5 H6=>zh kr kr ?_;have H7:St w.heap.size w w5 [((gs1 0).b,txO em 0 0 0 0 0)]:=H6.sub (QK T _);refine rS [.v,.s 0,.v] H7 kr fun gs5 w6 H8=>rRr [.cell 2 54,.tmp 3] [0] (.tuple #[txV em 0 0 0 0 0,.int .i64 4]) (zV w.heap.size w (ki S)) H8 kr ?_;refine⟨[],.inr ⟨rfl,hno fun to' a' n' sg' h1 h2 h3 ha' hn' e=>?_⟩,H8.sub (QE _)⟩;exact hbad _ _ jp.parse (uQ (by omega) ha' hn' (by omega)) e
section
open D2 (Gh)
theorem zsk (A:Qi)(x:Qa):jt (A++ [x])=jt A++x:=qj (by rw[zeZ,xr])
theorem zjI: ∀M:Qi,(∀x∈M,Ql x=32)->(jt M).size=32*M.length
 | [],_=>rfl
 | a::r,h=>by
  show (a++jt r).size=_;rw[ByteArray.size_append,h a (QX ..),zjI r fun x hx=>h x (QR _ hx),Rh];omega
theorem zjJ (p:Qc)(n c:Nat)(L:List Txn)(hL:L.length<=1000000)(hO: ∀x∈L,yS x):FnP Tryz.prog 13 #[.slice p n c] (fun w=>AtF tnS w p n L) (.bool (L.all rtX)):=by
 refine zR [.tmp 2] 15 Tryz.func13 fun w hP=>?_;have hn:=hP.1;have H0:=St.start w;refine rS [.v] H0 kr fun gs1 w1 H1=>za kr<|rS [.v,.v,.v] H1 kr fun gs3 w3 H3=>yR 7 6 8 14 0 1 n (by omega) (fun i ρ ww=>(L.take i).all rtX=true/\St w.heap.size w ww []/\Is [(5,.slice p n c),(6,iN n),(7,iN i)] ρ) (by rintro i _ ww ⟨_,_,_,rfl⟩;exact⟨kr,kr⟩) ⟨rfl,H3.as kr,isK⟩ ?_ ?_
 ·clear H0 H1 H3;rintro i _ w5 hi ⟨hal,H5,_,rfl⟩;obtain⟨x,hx⟩:∃x,L[i]? =some x:=⟨_,Qr (by omega)⟩
  obtain⟨bl,off,C,T,fz,hp,hh,hR⟩:=hP.row2 (by omega);have ox:=hO x (QF hx);have hr:Fn Tryz.prog 31 #[tnV x] (.bool (rtX x)):=zsh x.1 x.2.1 x.2.2.1 x.2.2.2.1 x.2.2.2.2.1 x.2.2.2.2.2 ox.2.2.1 ox.2.2.2;refine rS [itX 5 7 27 54 12 104 bl off n c i hp,.fp (off:=off+i*12) (n:=12) (W:=tnC x) hh (zo hh) (hR _ _ hx).1 (hR _ _ hx).2,.a,.s 0] H5 kr fun gs4 w6 H6=>?_;cases rx:rtX x with
  | false=>
   rw[rx]at hr;refine rS [.l 0,.c hr,.v] H6 kr fun gs5 w7 H7=>zJ<|rS [.v] H7 kr fun gs6 w8 H8=>?_;exact rRe [.tmp 2] [] (v:=.bool false) (v':=.bool (L.all rtX)) H8 (zc (RE.2 fun e=>by rw[QN.1 e x (QF hx)]at rx;cases rx).symm) kr
  | true=>
   rw[rx]at hr;refine rS [.l 0,.c hr,.v] H6 kr fun gs5 w7 H7=>yh ?_;exact⟨kr,by rw[yZ hx,VH,hal,UJ];simpa using rx,(H7.as (l:=[((gs4 2).b,tnO x)]) kr).sub (QE _),isK⟩
 ·clear H0 H1 H3;rintro _ w5 ⟨hal,H5,_,rfl⟩;rw[Qy (by omega)]at hal;refine wW<|rS [.v] H5 kr fun gs6 w8 H8=>?_;exact rRe [.tmp 2] [] (v:=.bool true) (v':=.bool (L.all rtX)) H8 (zc hal.symm) kr
theorem ze4 (p:Qc)(n c:Nat)(L:List Txn)(hL:L.length<=1000000)(hO: ∀x∈L,qn x)(hal:L.all rtX=true):FnP Tryz.prog 14 #[.slice p n c] (fun w=>AtF tnS w p n L) (.string (sumTs L)):=by
 refine zR [.tmp 2] 19 Tryz.func14 fun w hP=>?_;have hn:=hP.1;have hz: ∀M:List Txn,(jt (M.map fun x=>qY (zD x))).size=32*M.length:=fun M=>by
  rw[zjI _ fun y hy=>by obtain⟨u,_,rfl⟩:=Rk.1 hy;exact zcT _,Ra]
 have H0:=St.start w;refine rS [.v] H0 kr fun gs1 w1 H1=>rS [.v] H1 kr fun gs2 w2 H2=>za kr<|rS [.v,.v,.v] H2 kr fun gs3 w3 H3=>yR 8 7 9 16 0 1 n (by omega) (fun i ρ ww=> ∃a,jt ((L.take i).map fun x=>qY (zD x))=a/\St w.heap.size w ww []/\Is [(3,.string a),(6,.slice p n c),(7,iN n),(8,iN i)] ρ) (by rintro i _ ww ⟨_,_,_,_,rfl⟩;exact⟨kr,kr⟩) ⟨em,rfl,H3.as kr,isK⟩ ?_ ?_
 ·clear H0 H1 H2 H3;rintro i _ w5 hi ⟨a,ha,H5,_,rfl⟩;obtain⟨x,hx⟩:∃x,L[i]? =some x:=⟨_,Qr (by omega)⟩
  obtain⟨bl,off,C,T,fz,hp,hh,hR⟩:=hP.row2 (by omega);have ox:=hO x (QF hx);have rx:=QN.1 hal x (QF hx);have hs:Fn Tryz.prog 32 #[tnV x] (.string (qY (zD x))):=by
   have h:=zsi x.1 x.2.1 x.2.2.1 x.2.2.2.1 x.2.2.2.2.1 x.2.2.2.2.2 ox.2 ox.1.1 ox.1.2.1 ox.1.2.2.1 ox.1.2.2.2;rw[<-ke (show yQ x.1 x.2.2.2.1 x.2.2.2.2.1 x.2.2.2.2.2=true from rx)]at h;exact h
  have hsz:=hz (L.take i);rw[ha,Rb]at hsz;have hs32:=zcT (zD x);refine rS [itX 6 8 27 54 12 104 bl off n c i hp,.fp (off:=off+i*12) (n:=12) (W:=tnC x) hh (zo hh) (hR _ _ hx).1 (hR _ _ hx).2,.a,.s 0] H5 kr fun gs4 w6 H6=>rL [.v,.l 0,.c hs,.o (ins:=[((.tmp 12),.string a),((.tmp 14),.string (qY (zD x)))]) (v:=.string (a++qY (zD x))) (fun ρ o w ho hi=>jS (t:=9) (t':=9) (x:=(.tmp 12)) (y:=(.tmp 14)) a (qY (zD x)) w ho hi.1 hi.2.1 (by omega)),.v] H6 kr fun gs5 w7 H7=>?_;exact⟨kr,_,by rw[yZ hx,RD,List.map_singleton,zsk,ha],(H7.as (l:=[((gs4 2).b,tnO x)]) kr).sub (QE _),isK⟩
 ·clear H0 H1 H2 H3;rintro _ w5 ⟨a,ha,H5,_,rfl⟩;rw[Qy (by omega)]at ha;have hsz:=hz L;rw[ha]at hsz;have hS:=Ke.sumR_fn a (by omega);refine wW<|rS [.v,.c hS,.v] H5 kr fun gs6 w8 H8=>?_;exact rRe [.tmp 2] [] (v:=.string (zg (Kec.sumB (tl a)))) (v':=.string (sumTs L)) H8 (by unfold sumTs;rw[ha];rfl) kr
theorem zjK (h:Hdr)(L:List Txn)(o:ub h)(hL:L.length<=1000000)(hO: ∀x∈L,qn x)(p:Qc)(n c:Nat)(q:Qc)(m k:Nat)(t:Qc)(z e:Nat):FnP Tryz.prog 11 #[bkV h p n c q m k t z e] (fun w=>qH w h L p n q m t z) (.bool (yA h L)):=by
 refine zR [.tmp 2] 26 Tryz.func11 fun w hP=>?_;obtain⟨hH,hT⟩:=hP;have hz:=hT.1;have no: ¬zeY h L->yA h L=false:=fun g=>RE.2 fun e=>g (qJ.1 e);have hR:=ziD h o p n c q m k;have hA:=zjJ t z e L hL fun x hx=>(hO x hx).1;refine rS [.b,.v] (St.start w) kr fun gs1 w1 H1=>?_;cases hr:rightH h with
 | false=>
  rw[hr]at hR;refine dS [.v,.l 0,.cp hR [] (fun w hb hd=>hH.call hb),.v,.n,.n,.n,.n,.v,.v,.n,.n,.n,.v,.v,.n,.n,.n,.n,.n,.n,.n,.v,.v] H1 kr fun w2 H2=>?_;exact rRe [.tmp 2] [] (v:=.bool false) (v':=.bool (yA h L)) H2 (zc (no fun g=>by rw[g.hd]at hr;cases hr).symm) kr
 | true=>
  rw[hr]at hR;by_cases h4:z<=4
  case neg=>
   refine dS [.v,.l 0,.cp hR [] (fun w hb hd=>hH.call hb),.v,.v,.l 0,.v,itF ((z:Int)<=4),.v,.v,.n,.n,.n,.v,.v,.n,.n,.n,.n,.n,.n,.n,.v,.v] H1 kr fun w2 H2=>?_;exact rRe [.tmp 2] [] (v:=.bool false) (v':=.bool (yA h L)) H2 (zc (no fun g=>h4 (by rw[hz];exact g.ln)).symm) kr
  cases hal:L.all rtX with
  | false=>
   rw[hal]at hA;refine dS [.v,.l 0,.cp hR [] (fun w hb hd=>hH.call hb),.v,.v,.l 0,.v,itT ((z:Int)<=4),.v,.v,.v,.l 0,.cp hA [] (fun w hb hd=>hT.call hb),.v,.v,.n,.n,.n,.n,.n,.n,.n,.v,.v] H1 kr fun w2 H2=>?_;exact rRe [.tmp 2] [] (v:=.bool false) (v':=.bool (yA h L)) H2 (zc (no fun g=>by rw[g.al]at hal;cases hal).symm) kr
  | true=>
   rw[hal]at hA;refine dS [.v,.l 0,.cp hR [] (fun w hb hd=>hH.call hb),.v,.v,.l 0,.v,itT ((z:Int)<=4),.v,.v,.v,.l 0,.cp hA [] (fun w hb hd=>hT.call hb),.v,.v,.v,.l 0,.cp (ze4 t z e L hL hO hal) [] (fun w hb hd=>hT.call hb),.v,.v,.l 0,.E (.bool ((sumTs L).toList==h.tx.toList)) (.bool (yA h L)) (zc ?_),.v,.v] H1 kr fun w2 H2=>?_
   ·by_cases e9:sumTs L=h.tx
    ·rw[xu _ _ e9,qJ.2 ⟨hr,by omega,hal,e9⟩]
    ·rw[jG _ _ e9,no fun g=>e9 g.sm]
   exact rR [.tmp 2] [] (.bool (yA h L)) H2 kr
theorem zjL (h:Hdr)(L:List Txn)(o:yj h)(hO: ∀x∈L,qn x)(r:yA h L=true)(p:Qc)(n c:Nat)(q:Qc)(m k:Nat)(t:Qc)(z e:Nat):FnP Tryz.prog 15 #[bkV h p n c q m k t z e] (fun w=>qH w h L p n q m t z) (.string (jf h L).1):=by
 have g:=qJ.1 r;have hln:=g.ln;have hal:=g.al;refine zR [.tmp 2] 30 Tryz.func15 fun w hP=>?_;obtain⟨hH,hT⟩:=hP;have hz:=hT.1;have H0:=St.start w;refine rS [.b,.v] H0 kr fun gs1 w1 H1=>rS [.v,.l 0,.cp (ziY h o p n c q m k) [] (fun w hb hd=>hH.call hb),.v,.nw (fun b=>Qf b 1 1) (iS.cs (b3 (zY h))).toArray 58,.v,.a,.s 2] H1 kr fun gs2 w2 H2=>za kr<|rS [.v,.l 0,.v,.v] H2 kr fun gs3 w3 H3=>?_;have H3':St w.heap.size w w3 [((gs1 0).b,bkO h p n c q m k t z e),((gs2 4).b,.cells (iS.cs (b3 (zY h))).toArray 58),((gs2 6).b,Qk #[.bool true,.string emB,Qf (gs2 4).b 1 1] 58 (0,0))]:=H3.as kr;have H3b:St w.heap.size w w3 [((gs2 4).b,.cells (iS.cs (b3 (zY h))).toArray 58),((gs2 6).b,Qk #[.bool true,.string emB,Qf (gs2 4).b 1 1] 58 (0,0)),((gs1 0).b,bkO h p n c q m k t z e)]:=H3'.perm (QV (l₁:=[((gs2 4).b,Qk (iS.cs (b3 (zY h))).toArray 58),((gs2 6).b,Qk #[.bool true,.string emB,Qf (gs2 4).b 1 1] 58 (0,0))]) (l₂:=[((gs1 0).b,bkO h p n c q m k t z e)]));refine yR 15 14 16 27 0 1 z (by omega) (fun i ρ ww=> ∃b k1 cur,Rw 3 cur k1 (i+1) (cellsF iS ((zY h::(L.take i).map zD).map b3))/\St w.heap.size w ww [(b,Qk cur 58),((gs2 6).b,Qk #[.bool true,.string emB,Qf b (i+1) k1] 58 (0,0)),((gs1 0).b,bkO h p n c q m k t z e)]/\Is [(1,Qe (gs1 0).b),(3,Qe (gs2 6).b),(13,.slice t z e),(14,iN z),(15,iN i)] ρ) (by rintro i _ ww ⟨_,_,_,_,_,_,rfl⟩;exact⟨kr,kr⟩) ⟨(gs2 4).b,1,(iS.cs (b3 (zY h))).toArray,⟨rfl,QH _,by decide,rfl,rfl⟩,H3b,isK⟩ ?_ ?_
 ·clear H0 H1 H2 H3 H3' H3b;rintro i _ w5 hi ⟨b,k1,cur,hrw,H5,_,rfl⟩;obtain⟨x,hx⟩:∃x,L[i]? =some x:=⟨_,Qr (by omega)⟩
  obtain⟨bl,off,C,T,fz,hp,hh,hR⟩:=hT.row2 (by omega);have ox:=hO x (QF hx);have rx:=QN.1 hal x (QF hx);have hby:Fn Tryz.prog 35 #[tnV x] (.string (zD x)):=by
   have h:=zjH x.1 x.2.1 x.2.2.1 x.2.2.2.1 x.2.2.2.2.1 x.2.2.2.2.2 ox.2 ox.1.1 ox.1.2.1 ox.1.2.2.1 ox.1.2.2.2;rw[<-ke (show yQ x.1 x.2.2.2.1 x.2.2.2.2.1 x.2.2.2.2.2=true from rx)]at h;exact h
  refine rS [itX 13 15 27 54 12 104 bl off z e i hp,.fp (off:=off+i*12) (n:=12) (W:=tnC x) hh (zo hh) (hR _ _ hx).1 (hR _ _ hx).2,.a,.s 3] H5 kr fun gs4 w6 H6=>?_;have H7:St w.heap.size w w6 [(b,Qk cur 58),((gs2 6).b,Qk #[.bool true,.string emB,Qf b (i+1) k1] 58 (0,0)),((gs1 0).b,bkO h p n c q m k t z e),((gs4 2).b,tnO x)]:=H6.as kr;refine xV [(1,Qe (gs1 0).b),(3,Qe (gs2 6).b),(5,Qe (gs4 2).b),(13,.slice t z e),(14,iN z),(15,iN i)] kr fun ρ1=>D2.g_draw0 [0,1,2,3,4,5,6,7,8] [(some 19,fun _=>.pointer (some ⟨(gs2 6).b,2,none⟩)),(some 20,fun _=>Qf b (i+1) k1),(some 21,fun _=>tnV x),(some 22,fun _=>.string (zD x)),(some 23,fun _=>itV (b3 (zD x))),(some 24,fun y=>Qf y.b 1 1),(some 25,fun y=>Qf y.b (i+1+1) y.cap),(some 26,fun _=>.pointer (some ⟨(gs2 6).b,2,none⟩)),(none,fun _=>undef)]
   (D2.chn [5,6,8] (fun j g ww=>match j with
    | 0=>St w.heap.size w ww [(b,Qk cur 58),((gs2 6).b,Qk #[.bool true,.string emB,.slice (some ⟨b,0,none⟩) (i+1) k1] 58 (0,0)),((gs1 0).b,bkO h p n c q m k t z e),((gs4 2).b,tnO x)]
    | 1=>St w.heap.size w ww [((g 5).b,.cells (iS.cs (b3 (zD x))).toArray 58),(b,Qk cur 58),((gs2 6).b,Qk #[.bool true,.string emB,.slice (some ⟨b,0,none⟩) (i+1) k1] 58 (0,0)),((gs1 0).b,bkO h p n c q m k t z e),((gs4 2).b,tnO x)]
    | 2=>Rw 3 (g 6).cur (g 6).cap (i+1+1) (cellsF iS (((zY h::(L.take i).map zD).map b3)++ [b3 (zD x)]))/\St w.heap.size w ww [((g 6).b,.cells (g 6).cur 58),((gs2 6).b,Qk #[.bool true,.string emB,.slice (some ⟨b,0,none⟩) (i+1) k1] 58 (0,0)),((gs1 0).b,bkO h p n c q m k t z e),((gs4 2).b,tnO x)]
    | _=>Rw 3 (g 6).cur (g 6).cap (i+1+1) (cellsF iS (((zY h::(L.take i).map zD).map b3)++ [b3 (zD x)]))/\St w.heap.size w ww [((g 6).b,.cells (g 6).cur 58),((gs2 6).b,Qk #[.bool true,.string emB,.slice (some ⟨(g 6).b,0,none⟩) (i+1+1) (g 6).cap] 58 (0,0)),((gs1 0).b,bkO h p n c q m k t z e),((gs4 2).b,tnO x)])) kr kr kr H7.drew ⟨?_,?_,?_,?_,?_,?_,?_,?_,?_,trivial⟩ ?_
  ·exact D2.gv_vala
  ·exact D2.gv_ld (fun _ _ _ h=>h) 47 (.tmp 19) (fun _=>(gs2 6).b) 2 (#[.bool true,.string emB,Qf b (i+1) k1]) 58 (0,0) (fun g=>by kernel_rfl) (fun g=>by kernel_rfl) (fun L1 g ww hN hp=>D2.chn.getN hp 1 6 rfl (hN.post 6 kr) fun j hj h=>by
    match j,h with
    | 0,h=>exact St.get h 1 kr
    | 1,h=>exact St.get h 2 kr) kr kr
  ·exact D2.gv_ld (fun _ _ _ h=>h) 54 (.tmp 5) (fun _=>(gs4 2).b) 0 (tnC x) 54 (0,0) (fun g=>by kernel_rfl) (fun g=>by kernel_rfl) (fun L1 g ww hN hp=>hp.get fun j hj h=>by
   match j,h with
   | 0,h=>exact St.get h 3 kr
   | 1,h=>exact St.get h 4 kr
   | 2,h=>exact St.get h.2 3 kr
   | _+3,h=>exact St.get h.2 3 kr) kr kr
  ·exact D2.gv_cW (fun _ _ _ h=>h) 35 #[tnV x] hby (fun L g w w' hN hp hb=>by
   revert hp;unfold D2.chn
   generalize D2.stg [5,6,8] L=j;intro hp
   match j,hp with
   | 0,h=>exact St.call h hb
   | 1,h=>exact St.call h hb
   | 2,h=>exact⟨h.1,St.call h.2 hb⟩
   | _+3,h=>exact⟨h.1,St.call h.2 hb⟩) (fun g w=>by kernel_rfl)
  ·exact D2.gv_vala
  ·refine D2.gv_chn 5 0 (fun L hN=>by
   have e5:=hN.1;have e6:=hN.post 6 kr;have e8:=hN.fwd e6 (show D2.edge _ 6 8=true by kernel_rfl)
   exact⟨by (simp[D2.stg,e5,e6,e8])<;>rfl,by (simp[D2.stg,D2.put1,e5,e6,e8])<;>rfl⟩) fun g ww hq=>?_
   exact D2.run_new (F:=fun b=>Qf b 1 1) (ob:=.cells (iS.cs (b3 (zD x))).toArray 58) kr ⟨{ b:=ww.heap.size },rfl,St.alloc hq _⟩
  ·refine D2.gv_chn 6 1 (fun L hN=>by
   have e6:=hN.1;have e5:=hN.bef 5 kr;have e8:=hN.post 8 kr
   exact⟨by (simp[D2.stg,e5,e6,e8])<;>rfl,by (simp[D2.stg,D2.put1,e5,e6,e8])<;>rfl⟩) fun g ww hq=>?_
   refine D2.run_of (op:=ym 47 (.tmp 20) (.tmp 24)) kr fun o ho=>?_;obtain⟨b',cap',cur',w',hrun,HS',hr'⟩:=zdm (S:=iS) (y:=b3 (zD x)) (row:=[(b,Qk cur 58)]) (Z:=[((gs2 6).b,Qk #[.bool true,.string emB,Qf b (i+1) k1] 58 (0,0)),((gs1 0).b,bkO h p n c q m k t z e),((gs4 2).b,tnO x)]) (mc:=1) hq (.inr ⟨b,cur,rfl,rfl,hrw⟩) (t:=47) (bytes:=48) kr ho kr kr (by omega) (by unfold maxLen;omega);exact⟨_,w',hrun,{ b:=b',cap:=cap',cur:=cur' },rfl,hr',HS'⟩
  ·exact D2.gv_vala
  ·refine D2.gv_chn 8 2 (fun L hN=>by
   have e8:=hN.1;have e6:=hN.bef 6 kr;have e5:=hN.back e6 (show D2.edge _ 5 6=true by kernel_rfl)
   exact⟨by (simp[D2.stg,e5,e6,e8])<;>rfl,by (simp[D2.stg,D2.put1,e5,e6,e8])<;>rfl⟩) fun g ww hq=>?_
   exact zd4 (t:=47) (x:=.tmp 26) (y:=.tmp 25) (b:=(gs2 6).b) (q:=Qg b) (n:=i+1) (c:=k1) (q':=Qg (g 6).b) (n':=i+1+1) (c':=(g 6).cap) (T:=58) kr kr kr kr (St.get hq.2 1 kr) ⟨g 8,rfl,hq.1,St.store (C:=#[.bool true,.string emB,Qf b (i+1) k1]) (T:=58) hq.2 1 kr⟩
  intro L1 g w7 hall hp9;obtain⟨hrn,H8⟩:=hp9.fin (fun k hk=>hall k (by simp at hk;rcases hk with rfl | rfl | rfl<;>exact Qp kr));refine⟨kr,(g 6).b,(g 6).cap,(g 6).cur,?_,St.sub H8 (Qq _ (Qq _ (Qq _ (QE _)))),isK⟩;rw[yZ hx,RD,<-Rm,RD];exact hrn
 ·clear H0 H1 H2 H3 H3' H3b;rintro _ w5 ⟨b,k1,cur,hrw,H5,_,rfl⟩;rw[Qy (by omega)]at hrw;have hlen:=Rw.lenF (S:=iS) hrw;rw[zb1]at hrw
  have hsl:SlIn [(b,Qk cur 58)] (Qg b) (z+1) (toFo ((zY h::L.map zD).map b3)):=hrw.slIn (ty:=58) (fz:=(0,0)) (QX ..) (fun y hy=>by
   obtain⟨u,hu,rfl⟩:=Rk.1 hy;refine⟨zd2 _ _,?_⟩;show u.size<=_;rcases Uj.1 hu with rfl|hu
   ·have:=zeX g.hd;omega
   ·obtain⟨v,hv,rfl⟩:=Rk.1 hu
    have:=zeW (QN.1 g.al v hv);omega) (by omega)
  rw[ze1]at hsl;have hw:=za3 r;obtain⟨e1,e2,e3,e4,_,e6,_⟩:=jW hw;have hpw:=zgs e2 e3 e6 rfl;have hW:=zeG true emB (Qg b) (z+1) k1 (bkI (zY h) (L.map zD)) (QU _) e2 e3 (by omega);refine wW<|zd [0,1,2] kr kr<|rp [.l 1] H5 kr fun gs5 w6 H6=>wX [1,2] ?_;have H7:St w.heap.size w w6 [(b,Qk cur 58),((gs2 6).b,Qk #[.bool true,.string emB,Qf b (z+1) k1] 58 (0,0)),((gs1 0).b,bkO h p n c q m k t z e)]:=H6.as kr;refine yP H7 (some 29) 36 #[.agg #[.bool true,.string emB,Qf b (z+1) k1]] _ _ hW (hsl.at H7 fun e he=>by simp at he;simp[he]) ?_;intro w7 H8;refine rp [.v] H8 kr fun gs6 w8 H9=>wX []<|zb<|wW ?_;exact rRe [.tmp 2] [] (v:=.string (zg (wr1 true emB (szF (bkI (zY h) (L.map zD))) (wrF (bkI (zY h) (L.map zD)))))) (v':=.string (jf h L).1) H9 (congrArg RQ e1.symm) kr
end
end Go.Proofs.YtcjejfklpegobaaGreatDoor
