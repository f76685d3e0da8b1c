/-
  Texts of the proof,part 3.
-/
import Derived.Test.YtdaeahhkiilbaaaProg
import Derived.Laws.StructEq
import Derived.Laws.Externs
import Derived.Test.YtdaeahhkiilbaaaVN1
import Derived.Test.YtdaeahhkiilbaaaVN2
set_option maxRecDepth 100000
set_option maxHeartbeats 4000000
set_option linter.unusedVariables false
open Go Go.RowKit
open Bool renaming eq_false_iff->QI,false_ne_true->QR,true_and->Q7,eq_iff_iff->RQ,and_false->Vl
open DataW renaming trod->QC,trod_string->Ug,trod_int->Ul
open List renaming length_append->Qz,drop_of_length_le->QD,sublist_cons_self->QE,nil_sublist->QH,sublist_append_left->QM,perm_append_comm->QP,append_assoc->QX,pairwise_cons->QY,length_cons->Rg,filter_append->Rh,filter_cons_of_neg->Rl,filter_eq_self->Ro,append_nil->Ru,mem_singleton->Rz,foldl_cons->RC,length_filter_le->RE,not_mem_nil->RH,filter_cons->RK,filter_cons_of_pos->RV,filter_sublist->Uz,nil_append->UE,mem_append->UH,take_append_drop->Vp
open List.Pairwise renaming filter->RS
open List.Perm renaming swap->UO,cons->UQ,append_left->Vh
open Nat renaming zero_le->QO,add_zero->RF,lt_irrefl->UC,min->US
open Op renaming bytesLess->Rv,equalIn->UR
open Prod renaming ext->U4
open Value renaming okWide->UP
open _root_.Bool renaming and_eq_true->Qo,or_eq_true->R2,false_or->Ue
open _root_.Go.IntKind renaming i64->Qn
open _root_.List renaming getElem?_eq_getElem->Ql,take_of_length_le->Qp,mem_of_getElem?->Qs,length_take->Qt,mem_cons->QV,mem_cons_self->Q8,mem_cons_of_mem->Rm,mem_filter->Rr
open _root_.Nat renaming le_refl->Qu,min_eq_left->Ri,le_trans->RA
open _root_.Option renaming some->Q6
namespace Go.Proofs.Ytdaeahhkiilbaaa
abbrev hdC (h:Hdr)(p:Qc)(n c:Nat)(q:Qc)(m k:Nat):Qd:=#[.string h.pa,.int .u64 ((h.hh:Nat):Int),.string h.ro,.string h.tx,.string h.pr,.string h.va,.slice p n c,.string h.vo,.bool h.ad,.int .u64 ((h.rd:Nat):Int),.slice q m k]
abbrev hdV (h:Hdr)(p:Qc)(n c:Nat)(q:Qc)(m k:Nat):Value:=.agg (hdC h p n c q m k)
abbrev hdO (h:Hdr)(p:Qc)(n c:Nat)(q:Qc)(m k:Nat):Obj:=.cells (hdC h p n c q m k) 35
theorem ui {h:Hdr}{b:Bool}(e:h.ad=b){p:Qc}{n c:Nat}{q:Qc}{m k:Nat} :hdO h p n c q m k=.cells #[.string h.pa,.int .u64 ((h.hh:Nat):Int),.string h.ro,.string h.tx,.string h.pr,.string h.va,.slice p n c,.string h.vo,.bool b,.int .u64 ((h.rd:Nat):Int),.slice q m k] 35 (0,0):=by subst e;rfl
def yu (w:World)(h:Hdr)(p:Qc)(n:Nat)(q:Qc)(m:Nat):Prop:=AtF sS w p n h.vs/\AtF sgF w q m h.ss
theorem yu.call {w w':World}{h:Hdr}{p:Qc}{n:Nat}{q:Qc}{m:Nat}(a:yu w h p n q m)(hb:Below w.heap.size w w'):yu w' h p n q m:=⟨a.1.call hb,a.2.call hb⟩
theorem xc {h:Hdr}{P:Prop}(f:RtH h->P)(hn: ¬P):Value.bool false=.bool (yn h):=congrArg Value.bool (QI.2 fun e=>hn (f (jD.1 e))).symm
abbrev sgC (x:Sg):Qd:=(sgF.cs x).toArray
abbrev sgO (x:Sg):Obj:=.cells (sgC x) 66
structure qI (h:Hdr):Prop where
 vo:h.vo.size<=1000000
 vl:h.vs.length<=1000
 ss: ∀x∈h.ss,sgOk x
 sl:h.ss.length<=1000
theorem zeP (h:Hdr)(o:qI h)(p:Qc)(n c:Nat)(q:Qc)(m k:Nat):FnP Try.prog 25 #[hdV h p n c q m k] (fun w=>yu w h p n q m) (.bool (yn h)):=by
 refine FnP.intro (c:=zk Try.f25) [.tmp 2] 75 Try.func25 kr kr kr fun w hP=>?_;have hn:=hP.1.1;have hm:=hP.2.1;have hvl:=o.vl;have hsl:=o.sl;have hv64:=o.vo;have H0:=St.start w;refine rS [.b,.v] H0 kr fun gs1 w1 H1=>zb kr ?_;by_cases hpa:h.pa.size=32
 case neg=>
  refine rS [.v,.l 0,.v,.E (.bool (!(((h.pa.size:Nat):Int)==32))) (.bool true) (za (by rw[beq_eq_false_iff_ne.2 (by omega)];rfl)),.v,.n,.n,.n,.n,.v,.v,.n,.n,.n,.n,.v,.v,.n,.n,.n,.n,.v,.v,.n,.n,.n,.n,.v,.v,.n,.n,.n,.n,.v] H1 kr fun gs2 w2 H2=>zh<|rS [.v] H2 kr fun gs3 w3 H3=>?_;exact rRe [.tmp 2] [] (v:=.bool false) (v':=.bool (yn h)) H3 (xc (·.pa) hpa) kr
 by_cases hro:h.ro.size=32
 case neg=>
  refine rS [.v,.l 0,.v,.E (.bool (!(((h.pa.size:Nat):Int)==32))) (.bool false) (za (by rw[beq_iff_eq.2 (show ((h.pa.size:Nat):Int)=32 by omega)];rfl)),.v,.v,.l 0,.v,.E (.bool (!(((h.ro.size:Nat):Int)==32))) (.bool true) (za (by rw[beq_eq_false_iff_ne.2 (by omega)];rfl)),.v,.v,.n,.n,.n,.n,.v,.v,.n,.n,.n,.n,.v,.v,.n,.n,.n,.n,.v,.v,.n,.n,.n,.n,.v] H1 kr fun gs2 w2 H2=>zh<|rS [.v] H2 kr fun gs3 w3 H3=>?_;exact rRe [.tmp 2] [] (v:=.bool false) (v':=.bool (yn h)) H3 (xc (·.ro) hro) kr
 by_cases htx:h.tx.size=32
 case neg=>
  refine rS [.v,.l 0,.v,.E (.bool (!(((h.pa.size:Nat):Int)==32))) (.bool false) (za (by rw[beq_iff_eq.2 (show ((h.pa.size:Nat):Int)=32 by omega)];rfl)),.v,.v,.l 0,.v,.E (.bool (!(((h.ro.size:Nat):Int)==32))) (.bool false) (za (by rw[beq_iff_eq.2 (show ((h.ro.size:Nat):Int)=32 by omega)];rfl)),.v,.v,.v,.l 0,.v,.E (.bool (!(((h.tx.size:Nat):Int)==32))) (.bool true) (za (by rw[beq_eq_false_iff_ne.2 (by omega)];rfl)),.v,.v,.n,.n,.n,.n,.v,.v,.n,.n,.n,.n,.v,.v,.n,.n,.n,.n,.v] H1 kr fun gs2 w2 H2=>zh<|rS [.v] H2 kr fun gs3 w3 H3=>?_;exact rRe [.tmp 2] [] (v:=.bool false) (v':=.bool (yn h)) H3 (xc (·.tx) htx) kr
 by_cases hpr:h.pr.size=20
 case neg=>
  refine rS [.v,.l 0,.v,.E (.bool (!(((h.pa.size:Nat):Int)==32))) (.bool false) (za (by rw[beq_iff_eq.2 (show ((h.pa.size:Nat):Int)=32 by omega)];rfl)),.v,.v,.l 0,.v,.E (.bool (!(((h.ro.size:Nat):Int)==32))) (.bool false) (za (by rw[beq_iff_eq.2 (show ((h.ro.size:Nat):Int)=32 by omega)];rfl)),.v,.v,.v,.l 0,.v,.E (.bool (!(((h.tx.size:Nat):Int)==32))) (.bool false) (za (by rw[beq_iff_eq.2 (show ((h.tx.size:Nat):Int)=32 by omega)];rfl)),.v,.v,.v,.l 0,.v,.E (.bool (!(((h.pr.size:Nat):Int)==20))) (.bool true) (za (by rw[beq_eq_false_iff_ne.2 (by omega)];rfl)),.v,.v,.n,.n,.n,.n,.v,.v,.n,.n,.n,.n,.v] H1 kr fun gs2 w2 H2=>zh<|rS [.v] H2 kr fun gs3 w3 H3=>?_;exact rRe [.tmp 2] [] (v:=.bool false) (v':=.bool (yn h)) H3 (xc (·.pr) hpr) kr
 by_cases hva:h.va.size<=8
 case neg=>
  refine rS [.v,.l 0,.v,.E (.bool (!(((h.pa.size:Nat):Int)==32))) (.bool false) (za (by rw[beq_iff_eq.2 (show ((h.pa.size:Nat):Int)=32 by omega)];rfl)),.v,.v,.l 0,.v,.E (.bool (!(((h.ro.size:Nat):Int)==32))) (.bool false) (za (by rw[beq_iff_eq.2 (show ((h.ro.size:Nat):Int)=32 by omega)];rfl)),.v,.v,.v,.l 0,.v,.E (.bool (!(((h.tx.size:Nat):Int)==32))) (.bool false) (za (by rw[beq_iff_eq.2 (show ((h.tx.size:Nat):Int)=32 by omega)];rfl)),.v,.v,.v,.l 0,.v,.E (.bool (!(((h.pr.size:Nat):Int)==20))) (.bool false) (za (by rw[beq_iff_eq.2 (show ((h.pr.size:Nat):Int)=20 by omega)];rfl)),.v,.v,.v,.l 0,.v,.E (.bool (decide (((h.va.size:Nat):Int)>8))) (.bool true) (za (decide_eq_true (by omega))),.v,.v,.n,.n,.n,.n,.v] H1 kr fun gs2 w2 H2=>zh<|rS [.v] H2 kr fun gs3 w3 H3=>?_;exact rRe [.tmp 2] [] (v:=.bool false) (v':=.bool (yn h)) H3 (xc (·.va) hva) kr
 have hset:=zbg p n c h.vs (by omega);by_cases hst:setM h.vs=true
 case neg=>
  rw[QI.2 hst]at hset;refine rS [.v,.l 0,.v,.E (.bool (!(((h.pa.size:Nat):Int)==32))) (.bool false) (za (by rw[beq_iff_eq.2 (show ((h.pa.size:Nat):Int)=32 by omega)];rfl)),.v,.v,.l 0,.v,.E (.bool (!(((h.ro.size:Nat):Int)==32))) (.bool false) (za (by rw[beq_iff_eq.2 (show ((h.ro.size:Nat):Int)=32 by omega)];rfl)),.v,.v,.v,.l 0,.v,.E (.bool (!(((h.tx.size:Nat):Int)==32))) (.bool false) (za (by rw[beq_iff_eq.2 (show ((h.tx.size:Nat):Int)=32 by omega)];rfl)),.v,.v,.v,.l 0,.v,.E (.bool (!(((h.pr.size:Nat):Int)==20))) (.bool false) (za (by rw[beq_iff_eq.2 (show ((h.pr.size:Nat):Int)=20 by omega)];rfl)),.v,.v,.v,.l 0,.v,.E (.bool (decide (((h.va.size:Nat):Int)>8))) (.bool false) (za (decide_eq_false (by omega))),.v,.v,.v,.l 0,.cp (pre:=fun w=>AtF sS w p n h.vs) hset [] (fun w hb hd=>hP.1.call hb),.v,.v] H1 kr fun gs2 w2 H2=>zh<|rS [.v] H2 kr fun gs3 w3 H3=>?_;exact rRe [.tmp 2] [] (v:=.bool false) (v':=.bool (yn h)) H3 (xc (·.st) hst) kr
 rw[hst]at hset;have hst2:=hst;refine rS [.v,.l 0,.v,.E (.bool (!(((h.pa.size:Nat):Int)==32))) (.bool false) (za (by rw[beq_iff_eq.2 (show ((h.pa.size:Nat):Int)=32 by omega)];rfl)),.v,.v,.l 0,.v,.E (.bool (!(((h.ro.size:Nat):Int)==32))) (.bool false) (za (by rw[beq_iff_eq.2 (show ((h.ro.size:Nat):Int)=32 by omega)];rfl)),.v,.v,.v,.l 0,.v,.E (.bool (!(((h.tx.size:Nat):Int)==32))) (.bool false) (za (by rw[beq_iff_eq.2 (show ((h.tx.size:Nat):Int)=32 by omega)];rfl)),.v,.v,.v,.l 0,.v,.E (.bool (!(((h.pr.size:Nat):Int)==20))) (.bool false) (za (by rw[beq_iff_eq.2 (show ((h.pr.size:Nat):Int)=20 by omega)];rfl)),.v,.v,.v,.l 0,.v,.E (.bool (decide (((h.va.size:Nat):Int)>8))) (.bool false) (za (decide_eq_false (by omega))),.v,.v,.v,.l 0,.cp (pre:=fun w=>AtF sS w p n h.vs) hset [] (fun w hb hd=>hP.1.call hb),.v,.v] H1 kr fun gs2 w2 H2=>zl<|wW<|zb kr<|qV (Q:=fun e ρ ww=>(e=.ret/\yn h=false/\Is [(2,.bool false)] ρ/\St w.heap.size w ww [])\/(e=.normal/\voteB h.vo h.ad=true/\m<=16/\St w.heap.size w ww [((gs1 0).b,hdO h p n c q m k)]/\Is [(1,Qe (gs1 0).b)] ρ)) ?_ ?_
 ·by_cases hz:h.vo.size=0
  ·have hv0:h.vo=⟨#[]⟩:=za2 hz;cases had:h.ad with
   | true=>
    refine rS [.v,.l 0,.v,.E (.bool (!(((h.vo.size:Nat):Int)==0))) (.bool false) (za (by rw[beq_iff_eq.2 (show ((h.vo.size:Nat):Int)=0 by omega)];rfl)),.v,.n,.n,.n,.n,.v,.v,.v,.l 0,.E (.bool (h.vo.toList==(⟨#[]⟩:Qa).toList)) (.bool true) (za (ya _ _ hv0)),.v,.v,.l 0,.v,.v,.v,.n,.n,.n,.n,.v] (H2.as (l:=[((gs1 0).b,.cells (#[.string h.pa,.int .u64 ((h.hh:Nat):Int),.string h.ro,.string h.tx,.string h.pr,.string h.va,.slice p n c,.string h.vo,.bool true,.int .u64 ((h.rd:Nat):Int),.slice q m k]) 35)]) (congrArg (fun o=>[((gs1 0).b,o)]) (ui had))) kr fun gs4 w4 H4=>zh<|rS [.v] H4 kr fun gs5 w5 H5=>?_;exact zA kr (.inl ⟨rfl,QI.2 (fun e=>by have:=(jD.1 e).vo;unfold voteB at this;rw[if_pos hz,had]at this;exact absurd this (by decide)),isK,H5.sub (QH _)⟩)
   | false=>
    have H2':=H2.as (l:=[((gs1 0).b,.cells (#[.string h.pa,.int .u64 ((h.hh:Nat):Int),.string h.ro,.string h.tx,.string h.pr,.string h.va,.slice p n c,.string h.vo,.bool false,.int .u64 ((h.rd:Nat):Int),.slice q m k]) 35)]) (congrArg (fun o=>[((gs1 0).b,o)]) (ui had));by_cases h16:m<=16
    ·refine rS [.v,.l 0,.v,.E (.bool (!(((h.vo.size:Nat):Int)==0))) (.bool false) (za (by rw[beq_iff_eq.2 (show ((h.vo.size:Nat):Int)=0 by omega)];rfl)),.v,.n,.n,.n,.n,.v,.v,.v,.l 0,.E (.bool (h.vo.toList==(⟨#[]⟩:Qa).toList)) (.bool true) (za (ya _ _ hv0)),.v,.v,.l 0,.v,.v,.v,.v,.l 0,.v,.E (.bool (decide ((m:Int)>16))) (.bool false) (za (decide_eq_false (by omega))),.v] H2' kr fun gs4 w4 H4=>zl ?_;exact .inr ⟨rfl,by unfold voteB;rw[if_pos hz];rfl,h16,(H4.as (l:=[((gs1 0).b,.cells (#[.string h.pa,.int .u64 ((h.hh:Nat):Int),.string h.ro,.string h.tx,.string h.pr,.string h.va,.slice p n c,.string h.vo,.bool false,.int .u64 ((h.rd:Nat):Int),.slice q m k]) 35)]) kr).as (congrArg (fun o=>[((gs1 0).b,o)]) (ui had).symm),isK⟩
    ·refine rS [.v,.l 0,.v,.E (.bool (!(((h.vo.size:Nat):Int)==0))) (.bool false) (za (by rw[beq_iff_eq.2 (show ((h.vo.size:Nat):Int)=0 by omega)];rfl)),.v,.n,.n,.n,.n,.v,.v,.v,.l 0,.E (.bool (h.vo.toList==(⟨#[]⟩:Qa).toList)) (.bool true) (za (ya _ _ hv0)),.v,.v,.l 0,.v,.v,.v,.v,.l 0,.v,.E (.bool (decide ((m:Int)>16))) (.bool true) (za (decide_eq_true (by omega))),.v] H2' kr fun gs4 w4 H4=>zh<|rS [.v] H4 kr fun gs5 w5 H5=>?_;exact zA kr (.inl ⟨rfl,QI.2 (fun e=>by have:=(jD.1 e).sl;omega),isK,H5.sub (QH _)⟩)
  ·have hv0: ¬h.vo=⟨#[]⟩:=fun e=>hz (by rw[e];rfl);by_cases hz2:h.vo.size=20
   ·by_cases h16:m<=16
    ·refine rS [.v,.l 0,.v,.E (.bool (!(((h.vo.size:Nat):Int)==0))) (.bool true) (za (by rw[beq_eq_false_iff_ne.2 (by omega)];rfl)),.v,.v,.l 0,.v,.E (.bool (!(((h.vo.size:Nat):Int)==20))) (.bool false) (za (by rw[beq_iff_eq.2 (show ((h.vo.size:Nat):Int)=20 by omega)];rfl)),.v,.v,.v,.l 0,.E (.bool (h.vo.toList==(⟨#[]⟩:Qa).toList)) (.bool false) (za (zT _ _ hv0)),.v,.n,.n,.v,.v,.v,.v,.l 0,.v,.E (.bool (decide ((m:Int)>16))) (.bool false) (za (decide_eq_false (by omega))),.v] H2 kr fun gs4 w4 H4=>zl ?_;exact .inr ⟨rfl,by unfold voteB;rw[if_neg hz,decide_eq_true hz2],h16,H4.as kr,isK⟩
    ·refine rS [.v,.l 0,.v,.E (.bool (!(((h.vo.size:Nat):Int)==0))) (.bool true) (za (by rw[beq_eq_false_iff_ne.2 (by omega)];rfl)),.v,.v,.l 0,.v,.E (.bool (!(((h.vo.size:Nat):Int)==20))) (.bool false) (za (by rw[beq_iff_eq.2 (show ((h.vo.size:Nat):Int)=20 by omega)];rfl)),.v,.v,.v,.l 0,.E (.bool (h.vo.toList==(⟨#[]⟩:Qa).toList)) (.bool false) (za (zT _ _ hv0)),.v,.n,.n,.v,.v,.v,.v,.l 0,.v,.E (.bool (decide ((m:Int)>16))) (.bool true) (za (decide_eq_true (by omega))),.v] H2 kr fun gs4 w4 H4=>zh<|rS [.v] H4 kr fun gs5 w5 H5=>?_;exact zA kr (.inl ⟨rfl,QI.2 (fun e=>by have:=(jD.1 e).sl;omega),isK,H5.sub (QH _)⟩)
   ·refine rS [.v,.l 0,.v,.E (.bool (!(((h.vo.size:Nat):Int)==0))) (.bool true) (za (by rw[beq_eq_false_iff_ne.2 (by omega)];rfl)),.v,.v,.l 0,.v,.E (.bool (!(((h.vo.size:Nat):Int)==20))) (.bool true) (za (by rw[beq_eq_false_iff_ne.2 (by omega)];rfl)),.v,.v,.n,.n,.n,.n,.n,.n,.n,.v,.v,.n,.n,.n,.n,.v] H2 kr fun gs4 w4 H4=>zh<|rS [.v] H4 kr fun gs5 w5 H5=>?_;exact zA kr (.inl ⟨rfl,QI.2 (fun e=>by have:=(jD.1 e).vo;unfold voteB at this;rw[if_neg hz,decide_eq_false hz2]at this;cases this),isK,H5.sub (QH _)⟩)
 ·rintro _ _ w5 (⟨rfl,hr,⟨_,rfl⟩,H5⟩|⟨rfl,hvo,h16,H5,_,rfl⟩)
  ·refine wV ?_;refine⟨[.bool false],(.tmp (.bool false) kr .nil),?_,H5.below⟩;rw[hr];rfl
  refine wW ?_;clear H0 H1 H2;refine zb kr<|rS [.v,.l 0,.v,.v] H5 kr fun gs6 w6 H6=>zR 67 66 68 74 0 1 m (by omega) (fun i ρ ww=>(h.ss.take i).all sgMay=true/\St w.heap.size w ww [((gs1 0).b,hdO h p n c q m k)]/\Is [(65,.slice q m k),(66,iN m),(67,iN i)] ρ) (by rintro i _ ww ⟨_,_,_,rfl⟩;exact⟨kr,kr⟩) ⟨rfl,H6.as kr,isK⟩ ?_ ?_
  ·clear H5 H6;rintro i _ w7 hi ⟨hst,H7,_,rfl⟩;obtain⟨x,hx⟩:∃x,h.ss[i]? =some x:=⟨_,Ql (by omega)⟩
   obtain⟨bl,off,C,T,fz,hp,hh,hR⟩:=hP.2.row2 (by omega);have hxo:=o.ss x (Qs hx);have hsig:=zeH x.1 x.2.1 hxo.1 hxo.2 x.2.2;refine rS [.o (ins:=[((.tmp 65),.slice q m k),((.tmp 67),iN i)]) (v:=.pointer (some ⟨bl,off+i*9,none⟩)) (fun ρ o w ho hi2=>zo (kd:=.i64) (t:=33) (e:=66) (K:=9) (bytes:=72) kr (x:=(.tmp 65)) (y:=(.tmp 67)) bl off m k i hp ho hi2.1 hi2.2.1 (by omega) w),.fp (off:=off+i*9) (n:=9) (W:=sgC x) hh (zf hh) (hR _ _ hx).1 (hR _ _ hx).2,.a,.s 1] H7 kr fun gs7 w8 H8=>?_;cases hmy:sgMay x with
   | false=>
    rw[show yx x.1 x.2.1 x.2.2=false from hmy]at hsig;refine rS [.l 1,.c hsig,.v] H8 kr fun gs8 w9 H9=>zh<|rS [.v] H9 kr fun gs9 w10 H10=>?_;exact rRe [.tmp 2] [] (v:=.bool false) (v':=.bool (yn h)) H10 (congrArg Value.bool (QI.2 fun e=>by have:=List.all_eq_true.1 (jD.1 e).ss x (Qs hx);rw[hmy]at this;cases this).symm) kr
   | true=>
    rw[show yx x.1 x.2.1 x.2.2=true from hmy]at hsig;refine rS [.l 1,.c hsig,.v] H8 kr fun gs8 w9 H9=>zl ?_;exact⟨kr,by rw[zU hx,List.all_append,hst];simp[hmy],(H9.as (l:=[((gs1 0).b,hdO h p n c q m k),((gs7 2).b,sgO x)]) kr).sub (QM [_] [_]),isK⟩
  ·rintro _ w7 ⟨hst,H7,_,rfl⟩;refine wW ?_;rw[Qp (by omega)]at hst;refine rS [.v] H7 kr fun gs7 w8 H8=>?_;exact rRe [.tmp 2] [] (v:=.bool true) (v':=.bool (yn h)) H8 (congrArg Value.bool (jD.2 ⟨hpa,hro,htx,hpr,hva,hst2,hvo,by omega,hst⟩).symm) kr
section
open Go.ChangeShapes Go.WideShapes Go.ChangeAt
theorem uj:Try.prog.cellsOf 35=11:=kr
theorem uk:Try.prog.cellsOf 66=9:=kr
theorem zeQ:Try.prog.cellsOf 3=1:=kr
theorem xd:Try.prog.cellsOf 9=1:=kr
theorem zbh:Try.prog.cellsOf 23=1:=kr
theorem ul:Try.prog.cellsOf 4=1:=kr
theorem um:Try.prog.cellsOf 22=1:=kr
theorem zbi:Try.prog.cellsOf 33=1:=kr
theorem kW {α:Type}(l:List α)(h:l.length=11):∃a0 a1 a2 a3 a4 a5 a6 a7 a8 a9 a10,l=[a0,a1,a2,a3,a4,a5,a6,a7,a8,a9,a10]:=by
 match l,h with
 | [a0,a1,a2,a3,a4,a5,a6,a7,a8,a9,a10],_=>exact⟨_,_,_,_,_,_,_,_,_,_,_,rfl⟩
section
variable {H:Type}{enc:TypeId×Value->H}{W:World}{sp:Nat->Bool}{held:Bool}
theorem zbj (fuel:Nat)(cs:List Value)(x:DataW H×List MemPlace)(h:QC enc Try.prog W 0 sp held fuel 66 cs=some x):∃a:Sg,cs=sgF.cs a/\sgOk a:=by
 obtain⟨y0,y1,y2,m,hx,hl,hy0,hy1,hy2⟩:=Go.Deep.trod_struct3 Try.underlying66 h;rw[uk]at hl;obtain⟨c0,c1,c2,c3,c4,c5,c6,c7,c8,rfl⟩:=zer cs hl;rw[zeq]at hy0 hy1;rw[zeQ]at hy2;obtain⟨n,hn,a0,a1,a2,a3⟩:=za1 (show QC enc Try.prog W 0 sp held m 64 [c0,c1,c2,c3]=some y0 from hy0);obtain⟨k,hk,b0',b1,b2,b3⟩:=za1 (show QC enc Try.prog W 0 sp held m 64 [c4,c5,c6,c7]=some y1 from hy1);obtain⟨z,hz,_,_⟩:=Ul Try.underlying3 (show QC enc Try.prog W 0 sp held m 3 [c8]=some y2 from hy2);have hz:c8=.int .i64 z:=by simpa using hz
 exact⟨(n,k,z),by rw[a0,a1,a2,a3,b0',b1,b2,b3,hz];rfl,hn,hk⟩
theorem un (fuel:Nat)(cs:List Value)(x:DataW H×List MemPlace)(h:QC enc Try.prog W 0 sp held fuel 9 cs=some x):∃a:Qa,cs=sS.cs a/\a.size<=maxLen:=by
 obtain⟨s,e0,_,hs⟩:=Ug Try.underlying9 h;exact⟨s,e0,hs⟩
def qJ (h:Hdr):Prop:=h.hh<0x10000000000000000/\h.rd<0x10000000000000000/\ ∀x∈h.ss,sgOk x
theorem zeR {v:Value}{d:DataW H}{p:List MemPlace}{base:Nat}(hv:UP Try.prog W .any base 35 v)(h:DataW.Trod enc Try.prog W 0 sp held 35 v d p):
 ∃(hd:Hdr) (p:Qc) (n c:Nat) (q:Qc) (m k:Nat),v=hdV hd p n c q m k/\yb p n c/\yb q m k/\qJ hd/\yu W hd p n q m:=by
 obtain⟨cs,rfl,hsz,_⟩:∃cs,v=.agg cs/\cs.size=Try.prog.cellsOf 35/\Row.okWide Try.prog W .any base 35 cs:=by
  simpa [UP,Try.underlying35] using hv
 rw[uj]at hsz;obtain⟨l⟩:=cs;obtain⟨c0,c1,c2,c3,c4,c5,c6,c7,c8,c9,c10,rfl⟩:=kW l hsz;obtain⟨fuel,hf⟩:=h;obtain⟨xs,m,rfl,hxx,hl,hlen,hff⟩:=DataW.trod_struct Try.underlying35 hf;obtain⟨y0,y1,y2,y3,y4,y5,y6,y7,y8,y9,y10,rfl⟩:=kW xs hlen;have g0:=hff 0 _ rfl;have g1:=hff 1 _ rfl;have g2:=hff 2 _ rfl;have g3:=hff 3 _ rfl;have g4:=hff 4 _ rfl;have g5:=hff 5 _ rfl;have g6:=hff 6 _ rfl;have g7:=hff 7 _ rfl;have g8:=hff 8 _ rfl;have g9:=hff 9 _ rfl;have g10:=hff 10 _ rfl;change QC enc Try.prog W 0 sp held m 9 (([c0,c1,c2,c3,c4,c5,c6,c7,c8,c9,c10].drop 0).take (Try.prog.cellsOf 9))=some y0 at g0;change QC enc Try.prog W 0 sp held m 23 (([c0,c1,c2,c3,c4,c5,c6,c7,c8,c9,c10].drop 1).take (Try.prog.cellsOf 23))=some y1 at g1;change QC enc Try.prog W 0 sp held m 9 (([c0,c1,c2,c3,c4,c5,c6,c7,c8,c9,c10].drop 2).take (Try.prog.cellsOf 9))=some y2 at g2;change QC enc Try.prog W 0 sp held m 9 (([c0,c1,c2,c3,c4,c5,c6,c7,c8,c9,c10].drop 3).take (Try.prog.cellsOf 9))=some y3 at g3;change QC enc Try.prog W 0 sp held m 9 (([c0,c1,c2,c3,c4,c5,c6,c7,c8,c9,c10].drop 4).take (Try.prog.cellsOf 9))=some y4 at g4;change QC enc Try.prog W 0 sp held m 9 (([c0,c1,c2,c3,c4,c5,c6,c7,c8,c9,c10].drop 5).take (Try.prog.cellsOf 9))=some y5 at g5;change QC enc Try.prog W 0 sp held m 22 (([c0,c1,c2,c3,c4,c5,c6,c7,c8,c9,c10].drop 6).take (Try.prog.cellsOf 22))=some y6 at g6;change QC enc Try.prog W 0 sp held m 9 (([c0,c1,c2,c3,c4,c5,c6,c7,c8,c9,c10].drop 7).take (Try.prog.cellsOf 9))=some y7 at g7;change QC enc Try.prog W 0 sp held m 4 (([c0,c1,c2,c3,c4,c5,c6,c7,c8,c9,c10].drop 8).take (Try.prog.cellsOf 4))=some y8 at g8;change QC enc Try.prog W 0 sp held m 23 (([c0,c1,c2,c3,c4,c5,c6,c7,c8,c9,c10].drop 9).take (Try.prog.cellsOf 23))=some y9 at g9;change QC enc Try.prog W 0 sp held m 33 (([c0,c1,c2,c3,c4,c5,c6,c7,c8,c9,c10].drop 10).take (Try.prog.cellsOf 33))=some y10 at g10;rw[xd]at g0 g2 g3 g4 g5 g7;rw[zbh]at g1 g9;rw[ul]at g8;rw[um]at g6;rw[zbi]at g10;have str: ∀ {c:Value} {y:DataW H×List MemPlace},QC enc Try.prog W 0 sp held m 9 [c]=some y->∃s,c=.string s:=fun {c y} g=>by
  obtain⟨s,e,_,_⟩:=Ug Try.underlying9 g;exact⟨s,by simpa using e⟩
 have num: ∀ {c:Value} {y:DataW H×List MemPlace},QC enc Try.prog W 0 sp held m 23 [c]=some y->∃n:Nat,n<0x10000000000000000/\c=.int .u64 ((n:Nat):Int):=fun {c y} g=>by
  obtain⟨z,e,_,hw⟩:=Ul Try.underlying23 g;obtain⟨n,hn,rfl⟩:=vT hw;exact⟨n,hn,by simpa using e⟩
 obtain⟨s0,rfl⟩:=str g0;obtain⟨n1,h1,rfl⟩:=num g1;obtain⟨s2,rfl⟩:=str g2;obtain⟨s3,rfl⟩:=str g3;obtain⟨s4,rfl⟩:=str g4;obtain⟨s5,rfl⟩:=str g5;obtain⟨s7,rfl⟩:=str g7;obtain⟨n9,h9,rfl⟩:=num g9;obtain⟨b,e8,_⟩:=DataW.trod_bool Try.underlying4 (show QC enc Try.prog W 0 sp held m 4 [c8]=some y8 from g8);obtain rfl:c8=.bool b:=by simpa using e8
 obtain⟨p,n,c,L,rfl,sl,_,at6⟩:=jB (S:=sS) Try.underlying22 xd un (show QC enc Try.prog W 0 sp held m 22 [c6]=some y6 from g6);obtain⟨q,mm,k,M,rfl,sl2,ok2,at10⟩:=jB (S:=sgF) Try.underlying33 uk zbj (show QC enc Try.prog W 0 sp held m 33 [c10]=some y10 from g10);exact⟨⟨s0,n1,s2,s3,s4,s5,L,s7,b,n9,M⟩,p,n,c,q,mm,k,rfl,sl,sl2,⟨h1,h9,ok2⟩,at6,at10⟩
end
end
abbrev Bal:=Qa×Qa×Bool
def blS:Fl Bal where
 K:=3
 cs x:=[.string x.1,.string x.2.1,.bool x.2.2]
 pos:=by decide
 len _:=rfl
 one a:=fun u hu=>by simp at hu;rcases hu with h | h | h<;>rw[h]<;>rfl
abbrev blV (x:Bal):Value:=.agg #[.string x.1,.string x.2.1,.bool x.2.2]
abbrev blC (x:Bal):Qd:=#[.string x.1,.string x.2.1,.bool x.2.2]
def zF (a:Qa):Qi->Bool
 | []=>false
 | x::r=>decide (x=a)||zF a r
theorem jE {a:Qa} : ∀ {L:Qi},zF a L=true↔a∈L
 | []=>by simp[zF]
 | x::r=>by
  simp only[zF,R2,decide_eq_true_eq,jE (L:=r),QV];exact⟨fun h=>h.imp Eq.symm id,fun h=>h.imp Eq.symm id⟩
def yc (b x:Bal):Bool:=decide (x.2.1=b.2.1)&&(x.2.2==b.2.2)
def zg (b:Bal)(V:List Bal):Nat:=(V.filter (yc b)).length
theorem zbk (b:Bal)(V:List Bal)(x:Bal):zg b (V++ [x])=zg b V+if yc b x=true then 1 else 0:=by
 unfold zg;rw[Rh,Qz];congr 1;by_cases h:yc b x=true
 ·rw[if_pos h,RV h];rfl
 ·rw[if_neg h,Rl h];rfl
theorem xf (b:Bal)(V:List Bal):zg b V<=V.length:=RE _ _
def zQ (L:Qi)(b:Bal):Bool:=zF b.1 L&&(decide (b.2.1.size=20)&&(zF b.2.1 L !=b.2.2))
def aheadB (a b:Bal):Bool:=if a.2.1=b.2.1 then zi (tl a.1) (tl b.1) else zi (tl a.2.1) (tl b.2.1)
def qj:Option Bal->Bal->Bool
 | none,_=>true
 | some a,b=>aheadB a b
def xg (L:Qi)(V:List Bal):Option Bal->List Bal->Bool
 | _,[]=>true
 | p,b::r=>zQ L b&&(qj p b&&(decide (2*zg b V<=L.length)&&xg L V (some b) r))
def zz (L:Qi)(V:List Bal):Bool:=xg L V none V&&setM L
def yj (V:List Bal)(i:Nat):Option Bal:=if i=0 then none else V[i-1]?
theorem zbl {V:List Bal}{i:Nat}{x:Bal}(h:V[i]? =some x):yj V (i+1)=some x:=by
 unfold yj;rw[if_neg (by omega),Nat.add_sub_cancel,h]
def zV (b:Bal)(s:List Bal×Bool)(x:Bal):List Bal×Bool:=if (!s.2&& !aheadB x b)=true then (s.1++ [b],true) else s
def yD (b:Bal)(s:List Bal×Bool)(x:Bal):List Bal×Bool:=(if x.2.1=b.2.1/\x.1=b.1 then s.1 else s.1++ [x],s.2)
def qa (b:Bal)(V:List Bal):List Bal×Bool:=V.foldl (fun s x=>yD b (zV b s x) x) ([],false)
theorem zeS (b:Bal)(V:List Bal)(x:Bal):qa b (V++ [x])=yD b (zV b (qa b V) x) x:=by
 unfold qa;rw[List.foldl_append];rfl
def zx (b:Bal)(V:List Bal):List Bal:=if (qa b V).2=true then (qa b V).1 else (qa b V).1++ [b]
def zW (a:Qa)(s:Qi×Bool)(x:Qa):Qi×Bool:=if (!s.2&&zi (tl a) (tl x))=true then (s.1++ [a],true) else s
def yH (a:Qa)(s:Qi×Bool)(x:Qa):Qi×Bool:=(if x=a then s.1 else s.1++ [x],s.2)
def yR (a:Qa)(add:Bool)(L:Qi):Qi×Bool:=L.foldl (fun s x=>yH a (zW a s x) x) ([],!add)
theorem zeT (a:Qa)(add:Bool)(L:Qi)(x:Qa):yR a add (L++ [x])=yH a (zW a (yR a add L) x) x:=by
 unfold yR;rw[List.foldl_append];rfl
def zM (a:Qa)(add:Bool)(L:Qi):Qi:=if (yR a add L).2=true then (yR a add L).1 else (yR a add L).1++ [a]
def zN (b x:Bal):Bool:=decide (x.2.1≠b.2.1)&&(b.2.2||decide (x.1≠b.2.1))
def zC (L:Qi)(V:List Bal)(b:Bal):Qi×List Bal×Nat:=
 if zz L V=false then ([],[],1)
 else if zQ L b=false\/(b.2.2=true/\16<=L.length)\/(b.2.2=false/\L.length=1) then ([],[],44)
 else if 2*zg b (zx b V)<=L.length then (L,zx b V,0)
 else (zM b.2.1 b.2.2 L,((zx b V).filter (zN b)).filter (fun x=>b.2.2||decide (2*zg x ((zx b V).filter (zN b))<=(zM b.2.1 b.2.2 L).length)),0)
abbrev blO (x:Bal):Obj:=.cells (blC x) 56
theorem uo (p:Qc)(n c:Nat)(L:Qi)(a:Qa)(hL:L.length<=1000000):FnP Try.prog 27 #[.slice p n c,.string a] (fun w=>AtF sS w p n L) (.bool (zF a L)):=by
 refine FnP.intro (c:=zk Try.f27) [.tmp 4] 17 Try.func27 kr kr kr fun w hP=>?_;have hn:=hP.1;have H0:=St.start w;refine rS [.v] H0 kr fun gs1 w1 H1=>zb kr<|rS [.v,.v,.v] H1 kr fun gs2 w2 H2=>zR 9 8 10 16 0 1 n (by omega) (fun i ρ ww=>zF a L=zF a (L.drop i)/\St w.heap.size w ww []/\Is [(1,.string a),(7,.slice p n c),(8,iN n),(9,iN i)] ρ) (by rintro i _ ww ⟨_,_,_,rfl⟩;exact⟨kr,kr⟩) ⟨rfl,H2.as kr,isK⟩ ?_ ?_
 ·clear H0 H1 H2;rintro i _ w3 hi ⟨hst,H3,_,rfl⟩;obtain⟨x,hx⟩:∃x,L[i]? =some x:=⟨_,Ql (by omega)⟩
  obtain⟨bl,off,C,T,fz,hp,hh,hR⟩:=hP.row2 (by omega);have hcx:C[off+i*1]? =some (.string x):=hR.cell hx 0 (by decide);rw[qi hx]at hst;change zF a L=(decide (x=a)||zF a (L.drop (i+1)))at hst;refine rS [.o (ins:=[((.tmp 7),.slice p n c),((.tmp 9),iN i)]) (v:=.pointer (some ⟨bl,off+i*1,none⟩)) (fun ρ o w ho hi2=>zo (kd:=.i64) (t:=22) (e:=9) (K:=1) (bytes:=16) kr (x:=(.tmp 7)) (y:=(.tmp 9)) bl off n c i hp ho hi2.1 hi2.2.1 (by omega) w),.fs (off:=off+i*1) (v:=.string x) hh (zf hh) hcx,.v] H3 kr fun gs4 w4 H4=>?_;by_cases e:x=a
  ·refine rS [.v,.v,.E (.bool (x.toList==a.toList)) (.bool true) (za (ya _ _ e))] H4 kr fun gs5 w5 H5=>zh<|rS [.v] H5 kr fun gs6 w6 H6=>?_;exact rRe [.tmp 4] [] (v:=.bool true) (v':=.bool (zF a L)) H6 (za (by rw[hst,decide_eq_true e];rfl)) kr
  ·refine rS [.v,.v,.E (.bool (x.toList==a.toList)) (.bool false) (za (zT _ _ e))] H4 kr fun gs5 w5 H5=>zl ?_;exact⟨kr,by rw[hst,decide_eq_false e];rfl,H5.as kr,isK⟩
 ·rintro _ w3 ⟨hst,H3,_,rfl⟩;rw[QD (by omega)]at hst;refine wW<|rS [.v] H3 kr fun gs4 w4 H4=>?_;exact rRe [.tmp 4] [] (v:=.bool false) (v':=.bool (zF a L)) H4 (za hst.symm) kr
theorem up (p:Qc)(n c:Nat)(V:List Bal)(b:Bal)(hV:V.length<=1000000):FnP Try.prog 37 #[.slice p n c,blV b] (fun w=>AtF blS w p n V) (iN (zg b V)):=by
 refine FnP.intro (c:=zk Try.f37) [.tmp 4] 30 Try.func37 kr kr kr fun w hP=>?_;have hn:=hP.1;have H0:=St.start w;refine rS [.b,.v] H0 kr fun gs1 w1 H1=>rS [.v] H1 kr fun gs2 w2 H2=>zb kr<|rS [.v,.v,.v] H2 kr fun gs3 w3 H3=>zR 10 9 11 28 0 1 n (by omega) (fun i ρ ww=>St w.heap.size w ww [((gs1 0).b,blO b)]/\Is [(3,Qe (gs1 0).b),(5,iN (zg b (V.take i))),(8,.slice p n c),(9,iN n),(10,iN i)] ρ) (by rintro i _ ww ⟨_,_,rfl⟩;exact⟨kr,kr⟩) ⟨H3.as kr,isK⟩ ?_ ?_
 ·clear H0 H1 H2 H3;rintro i _ w4 hi ⟨H4,_,rfl⟩;obtain⟨x,hx⟩:∃x,V[i]? =some x:=⟨_,Ql (by omega)⟩
  obtain⟨bl,off,C,T,fz,hp,hh,hR⟩:=hP.row2 (by omega);have hle:=xf b (V.take i);rw[Qt]at hle;have hsn:zg b (V.take (i+1))=zg b (V.take i)+if yc b x=true then 1 else 0:=by rw[zU hx,zbk]
  refine rS [.o (ins:=[((.tmp 8),.slice p n c),((.tmp 10),iN i)]) (v:=.pointer (some ⟨bl,off+i*3,none⟩)) (fun ρ o w ho hi2=>zo (kd:=.i64) (t:=30) (e:=56) (K:=3) (bytes:=40) kr (x:=(.tmp 8)) (y:=(.tmp 10)) bl off n c i hp ho hi2.1 hi2.2.1 (by omega) w),.fp (off:=off+i*3) (n:=3) (W:=blC x) hh (zf hh) (hR _ _ hx).1 (hR _ _ hx).2,.a,.s 1] H4 kr fun gs4 w5 H5=>?_;have drop1: ∀ {ww:World},St w.heap.size w ww [((gs1 0).b,blO b),((gs4 2).b,blO x)]->St w.heap.size w ww [((gs1 0).b,blO b)]:=fun H=>H.sub (QM [_] [_]);by_cases e:x.2.1=b.2.1
  ·refine rS [.v,.l 1,.v,.l 0,.E (.bool (x.2.1.toList==b.2.1.toList)) (.bool true) (za (ya _ _ e)),.v,.v,.l 1,.v,.l 0,.E (.bool (x.2.2==b.2.2)) (.bool (yc b x)) (za (by unfold yc;rw[decide_eq_true e];rfl)),.v] H5 kr fun gs5 w6 H6=>?_;by_cases hf:yc b x=true
   ·refine qY 25 (v:=.bool (yc b x)) (v':=.bool true) (by rw[hf]) kr<|zh ?_;rw[if_pos hf]at hsn;refine rL [.v,.E (.int .i64 (Qn.wrap (((zg b (V.take i):Nat):Int)+1))) (iN (zg b (V.take (i+1)))) (zd (by rw[hsn];exact zy (a:=zg b (V.take i)) (b:=1) (by omega))),.v] H6 kr fun gs6 w7 H7=>?_;exact⟨kr,drop1 (H7.as kr),isK⟩
   ·refine qY 25 (v:=.bool (yc b x)) (v':=.bool false) (by rw[QI.2 hf]) kr<|zl ?_;rw[if_neg hf,RF]at hsn;exact⟨kr,drop1 (H6.as kr),(congrArg (fun k=>Is [(3,Qe (gs1 0).b),(5,iN k),(8,.slice p n c),(9,iN n),(10,iN (i+1))] _) hsn).mpr isK⟩
  ·refine rS [.v,.l 1,.v,.l 0,.E (.bool (x.2.1.toList==b.2.1.toList)) (.bool false) (za (zT _ _ e)),.v,.n,.n,.n,.n,.n,.v] H5 kr fun gs5 w6 H6=>zl ?_;rw[if_neg (by unfold yc;rw[decide_eq_false e];exact QR),RF]at hsn;exact⟨kr,drop1 (H6.as kr),(congrArg (fun k=>Is [(3,Qe (gs1 0).b),(5,iN k),(8,.slice p n c),(9,iN n),(10,iN (i+1))] _) hsn).mpr isK⟩
 ·rintro _ w4 ⟨H4,_,rfl⟩;rw[Qp (by omega)];refine wW<|rS [.v,.v] H4 kr fun gs4 w5 H5=>?_;exact rR [.tmp 4] [] (iN (zg b V)) H5 kr
theorem zbm (a b:Bal):Fn Try.prog 36 #[blV a,blV b] (.bool (aheadB a b)):=by
 refine Fn.intro (c:=zk Try.f36) [.tmp 4] 20 Try.func36 kr kr kr fun w=>rS [.b,.b,.v] (St.start w) kr fun gs1 w1 H1=>zb kr ?_;by_cases e:a.2.1=b.2.1
 ·refine rS [.v,.l 0,.v,.l 1,.E (.bool (!(a.2.1.toList==b.2.1.toList))) (.bool false) (za (by rw[ya _ _ e];rfl))] H1 kr fun gs2 w2 H2=>zl<|wW<|rS [.v,.l 0,.v,.l 1,.E (.bool (Rv a.1.toList b.1.toList)) (.bool (aheadB a b)) (za (by unfold aheadB;rw[if_pos e,ja])),.v] H2 kr fun gs3 w3 H3=>?_;exact rR [.tmp 4] [] (.bool (aheadB a b)) H3 kr
 ·refine rS [.v,.l 0,.v,.l 1,.E (.bool (!(a.2.1.toList==b.2.1.toList))) (.bool true) (za (by rw[zT _ _ e];rfl))] H1 kr fun gs2 w2 H2=>zh<|rS [.v,.l 0,.v,.l 1,.E (.bool (Rv a.2.1.toList b.2.1.toList)) (.bool (aheadB a b)) (za (by unfold aheadB;rw[if_neg e,ja])),.v] H2 kr fun gs3 w3 H3=>?_;exact rR [.tmp 4] [] (.bool (aheadB a b)) H3 kr
theorem zbn (p:Qc)(n c:Nat)(L:Qi)(b:Bal)(hL:L.length<=1000000):FnP Try.prog 35 #[.slice p n c,blV b] (fun w=>AtF sS w p n L) (.bool (zQ L b)):=by
 refine FnP.intro (c:=zk Try.f35) [.tmp 4] 24 Try.func35 kr kr kr fun w hP=>?_;have h1:=uo p n c L b.1 hL;have h2:=uo p n c L b.2.1 hL;refine rS [.b,.v] (St.start w) kr fun gs1 w1 H1=>?_;unfold zQ;cases e1:zF b.1 L with
 | false=>
  rw[e1]at h1;refine dS [.v,.v,.l 0,.cp (pre:=fun w=>AtF sS w p n L) h1 [] (fun w hb hd=>hP.call hb),.v,.n,.n,.n,.n,.v,.v,.n,.n,.n,.n,.n,.n,.n,.v,.v] H1 kr fun w2 H2=>?_;exact rR [.tmp 4] [] (.bool false) H2 kr
 | true=>
  rw[e1]at h1;by_cases e2:b.2.1.size=20
  ·rw[decide_eq_true e2];refine dS [.v,.v,.l 0,.cp (pre:=fun w=>AtF sS w p n L) h1 [] (fun w hb hd=>hP.call hb),.v,.v,.l 0,.v,.E (.bool (((b.2.1.size:Nat):Int)==20)) (.bool true) (za (beq_iff_eq.2 (by omega))),.v,.v,.v,.v,.l 0,.cp (pre:=fun w=>AtF sS w p n L) h2 [] (fun w hb hd=>hP.call hb),.v,.l 0,.E (.bool (zF b.2.1 L !=b.2.2)) (.bool (zF b.2.1 L !=b.2.2)) rfl,.v,.v] H1 kr fun w2 H2=>?_;exact rR [.tmp 4] [] (.bool (zF b.2.1 L !=b.2.2)) H2 kr
  ·rw[decide_eq_false e2];refine dS [.v,.v,.l 0,.cp (pre:=fun w=>AtF sS w p n L) h1 [] (fun w hb hd=>hP.call hb),.v,.v,.l 0,.v,.E (.bool (((b.2.1.size:Nat):Int)==20)) (.bool false) (za (beq_eq_false_iff_ne.2 (by omega))),.v,.v,.n,.n,.n,.n,.n,.n,.n,.v,.v] H1 kr fun w2 H2=>?_;exact rR [.tmp 4] [] (.bool false) H2 kr
abbrev snV (q:Qc)(m cq:Nat)(p:Qc)(n c:Nat):Value:=.agg #[.slice q m cq,.slice p n c]
abbrev snO (q:Qc)(m cq:Nat)(p:Qc)(n c:Nat):Obj:=.cells #[.slice q m cq,.slice p n c] 32 (0,0)
def zG (w:World)(L:Qi)(V:List Bal)(q:Qc)(m:Nat)(p:Qc)(n:Nat):Prop:=AtF sS w q m L/\AtF blS w p n V
theorem uq (q:Qc)(m cq:Nat)(L:Qi)(p:Qc)(n c:Nat)(V:List Bal)(hL:L.length<=1000000)(hV:V.length<=1000000):FnP Try.prog 24 #[snV q m cq p n c] (fun w=>zG w L V q m p n) (.bool (zz L V)):=by
 refine FnP.intro (c:=zk Try.f24) [.tmp 2] 48 Try.func24 kr kr kr fun w hP=>?_;obtain⟨hS,hVV⟩:=hP;have hm:=hS.1;have hn:=hVV.1;have hset:=zbg q m cq L hL;have H0:=St.start w;refine rS [.b,.v] H0 kr fun gs1 w1 H1=>zb kr<|rS [.v,.l 0,.v,.v] H1 kr fun gs2 w2 H2=>zR 8 7 9 44 0 1 n (by omega) (fun i ρ ww=>zz L V=(xg L V (yj V i) (V.drop i)&&setM L)/\St w.heap.size w ww [((gs1 0).b,snO q m cq p n c)]/\Is [(1,Qe (gs1 0).b),(6,.slice p n c),(7,iN n),(8,iN i)] ρ) (by rintro i _ ww ⟨_,_,_,rfl⟩;exact⟨kr,kr⟩) ⟨rfl,H2.as kr,isK⟩ ?_ ?_
 ·clear H0 H1 H2;rintro i _ w3 hi ⟨hst,H3,_,rfl⟩;obtain⟨x,hx⟩:∃x,V[i]? =some x:=⟨_,Ql (by omega)⟩
  obtain⟨bl,off,C,T,fz,hp,hh,hR⟩:=hVV.row2 (by omega);have hle:=xf x V;have h1:=zbn q m cq L x hL;have hc:=up p n c V x hV;rw[qi hx]at hst;change zz L V=((zQ L x&&(qj (yj V i) x&&(decide (2*zg x V<=L.length)&&xg L V (some x) (V.drop (i+1)))))&&setM L)at hst;rw[<-zbl hx]at hst;refine rS [.v,.o (ins:=[((.tmp 6),.slice p n c),((.tmp 8),iN i)]) (v:=.pointer (some ⟨bl,off+i*3,none⟩)) (fun ρ o w ho hi2=>zo (kd:=.i64) (t:=30) (e:=56) (K:=3) (bytes:=40) kr (x:=(.tmp 6)) (y:=(.tmp 8)) bl off n c i hp ho hi2.1 hi2.2.1 (by omega) w),.fp (off:=off+i*3) (n:=3) (W:=blC x) hh (zf hh) (hR _ _ hx).1 (hR _ _ hx).2,.a,.v,.s 1] H3 kr fun gs4 w4 H4=>?_;have drop1: ∀ {ww:World},St w.heap.size w ww [((gs1 0).b,snO q m cq p n c),((gs4 3).b,blO x)]->St w.heap.size w ww [((gs1 0).b,snO q m cq p n c)]:=fun H=>H.sub (QM [_] [_]);cases ef:zQ L x with
  | false=>
   rw[ef]at h1;refine dS [.v,.l 0,.l 1,.cp (pre:=fun w=>AtF sS w q m L) h1 [] (fun w hb hd=>hS.call hb),.v,.v,.n,.n,.n,.n,.n,.n,.n,.n,.n,.n,.n,.n,.n,.v,.v,.n,.n,.n,.n,.n,.n,.n,.n,.n,.v] H4 kr fun w5 H5=>zh<|rS [.v] H5 kr fun gs6 w6 H6=>?_;exact rRe [.tmp 2] [] (v:=.bool false) (v':=.bool (zz L V)) H6 (za (by rw[hst,ef];rfl)) kr
  | true=>
   rw[ef]at h1;by_cases hi0:i=0
   ·have ea:qj (yj V i) x=true:=by
     have hp0:yj V i=none:=by unfold yj;rw[if_pos hi0]
     rw[hp0];rfl
    by_cases h2:2*zg x V<=L.length
    ·refine dS [.v,.l 0,.l 1,.cp (pre:=fun w=>AtF sS w q m L) h1 [] (fun w hb hd=>hS.call hb),.v,.v,.v,.E (.bool (decide ((i:Int)>0))) (.bool false) (za (decide_eq_false (by omega))),.v,.n,.n,.n,.n,.n,.n,.n,.n,.n,.v,.v,.v,.v,.l 0,.l 1,.cp (pre:=fun w=>AtF blS w p n V) hc [] (fun w hb hd=>hVV.call hb),.E (.int .i64 (Qn.wrap (2*((zg x V:Nat):Int)))) (iN (2*zg x V)) (zd (yB (a:=2) (b:=zg x V) (by omega))),.v,.l 0,.v,.E (.bool (decide (((2*zg x V:Nat):Int)>(m:Int)))) (.bool false) (za (decide_eq_false (by omega))),.v] H4 kr fun w5 H5=>zl ?_;exact⟨kr,hst.trans (by rw[ef,ea,decide_eq_true h2,Q7,Q7,Q7]),drop1 (H5.as kr),isK⟩
    ·refine dS [.v,.l 0,.l 1,.cp (pre:=fun w=>AtF sS w q m L) h1 [] (fun w hb hd=>hS.call hb),.v,.v,.v,.E (.bool (decide ((i:Int)>0))) (.bool false) (za (decide_eq_false (by omega))),.v,.n,.n,.n,.n,.n,.n,.n,.n,.n,.v,.v,.v,.v,.l 0,.l 1,.cp (pre:=fun w=>AtF blS w p n V) hc [] (fun w hb hd=>hVV.call hb),.E (.int .i64 (Qn.wrap (2*((zg x V:Nat):Int)))) (iN (2*zg x V)) (zd (yB (a:=2) (b:=zg x V) (by omega))),.v,.l 0,.v,.E (.bool (decide (((2*zg x V:Nat):Int)>(m:Int)))) (.bool true) (za (decide_eq_true (by omega))),.v] H4 kr fun w5 H5=>zh<|rS [.v] H5 kr fun gs6 w6 H6=>?_;exact rRe [.tmp 2] [] (v:=.bool false) (v':=.bool (zz L V)) H6 (za (by rw[hst,ef,ea,decide_eq_false h2];rfl)) kr
   ·obtain⟨y,hy⟩:∃y,V[i-1]? =some y:=⟨_,Ql (by omega)⟩
    have hp0:yj V i=some y:=by unfold yj;rw[if_neg hi0,hy]
    have ha:=zbm y x;cases ea':aheadB y x with
    | false=>
     have ea:qj (yj V i) x=false:=by rw[hp0];exact ea'
     rw[ea']at ha;refine dS [.v,.l 0,.l 1,.cp (pre:=fun w=>AtF sS w q m L) h1 [] (fun w hb hd=>hS.call hb),.v,.v,.v,.E (.bool (decide ((i:Int)>0))) (.bool true) (za (decide_eq_true (by omega))),.v,.v,.l 0,.v,.E (.int .i64 (Qn.wrap ((i:Int)-1))) (iN (i-1)) (zd (yO (a:=i) (b:=1) (by omega))),.o (ins:=[((.tmp 23),.slice p n c),((.tmp 25),iN (i-1))]) (v:=.pointer (some ⟨bl,off+(i-1)*3,none⟩)) (fun ρ o w ho hi2=>zo (kd:=.i64) (t:=30) (e:=56) (K:=3) (bytes:=40) kr (x:=(.tmp 23)) (y:=(.tmp 25)) bl off n c (i-1) hp ho hi2.1 hi2.2.1 (by omega) w),.fp (off:=off+(i-1)*3) (n:=3) (W:=blC y) hh (zf hh) (hR _ _ hy).1 (hR _ _ hy).2,.l 1,.c ha,.v,.v,.v,.v,.n,.n,.n,.n,.n,.n,.n,.n,.n,.v] H4 kr fun w5 H5=>zh<|rS [.v] H5 kr fun gs6 w6 H6=>?_;exact rRe [.tmp 2] [] (v:=.bool false) (v':=.bool (zz L V)) H6 (za (by rw[hst,ef,ea];rfl)) kr
    | true=>
     have ea:qj (yj V i) x=true:=by rw[hp0];exact ea'
     rw[ea']at ha;by_cases h2:2*zg x V<=L.length
     ·refine dS [.v,.l 0,.l 1,.cp (pre:=fun w=>AtF sS w q m L) h1 [] (fun w hb hd=>hS.call hb),.v,.v,.v,.E (.bool (decide ((i:Int)>0))) (.bool true) (za (decide_eq_true (by omega))),.v,.v,.l 0,.v,.E (.int .i64 (Qn.wrap ((i:Int)-1))) (iN (i-1)) (zd (yO (a:=i) (b:=1) (by omega))),.o (ins:=[((.tmp 23),.slice p n c),((.tmp 25),iN (i-1))]) (v:=.pointer (some ⟨bl,off+(i-1)*3,none⟩)) (fun ρ o w ho hi2=>zo (kd:=.i64) (t:=30) (e:=56) (K:=3) (bytes:=40) kr (x:=(.tmp 23)) (y:=(.tmp 25)) bl off n c (i-1) hp ho hi2.1 hi2.2.1 (by omega) w),.fp (off:=off+(i-1)*3) (n:=3) (W:=blC y) hh (zf hh) (hR _ _ hy).1 (hR _ _ hy).2,.l 1,.c ha,.v,.v,.v,.v,.v,.l 0,.l 1,.cp (pre:=fun w=>AtF blS w p n V) hc [] (fun w hb hd=>hVV.call hb),.E (.int .i64 (Qn.wrap (2*((zg x V:Nat):Int)))) (iN (2*zg x V)) (zd (yB (a:=2) (b:=zg x V) (by omega))),.v,.l 0,.v,.E (.bool (decide (((2*zg x V:Nat):Int)>(m:Int)))) (.bool false) (za (decide_eq_false (by omega))),.v] H4 kr fun w5 H5=>zl ?_;exact⟨kr,hst.trans (by rw[ef,ea,decide_eq_true h2,Q7,Q7,Q7]),drop1 (H5.as kr),isK⟩
     ·refine dS [.v,.l 0,.l 1,.cp (pre:=fun w=>AtF sS w q m L) h1 [] (fun w hb hd=>hS.call hb),.v,.v,.v,.E (.bool (decide ((i:Int)>0))) (.bool true) (za (decide_eq_true (by omega))),.v,.v,.l 0,.v,.E (.int .i64 (Qn.wrap ((i:Int)-1))) (iN (i-1)) (zd (yO (a:=i) (b:=1) (by omega))),.o (ins:=[((.tmp 23),.slice p n c),((.tmp 25),iN (i-1))]) (v:=.pointer (some ⟨bl,off+(i-1)*3,none⟩)) (fun ρ o w ho hi2=>zo (kd:=.i64) (t:=30) (e:=56) (K:=3) (bytes:=40) kr (x:=(.tmp 23)) (y:=(.tmp 25)) bl off n c (i-1) hp ho hi2.1 hi2.2.1 (by omega) w),.fp (off:=off+(i-1)*3) (n:=3) (W:=blC y) hh (zf hh) (hR _ _ hy).1 (hR _ _ hy).2,.l 1,.c ha,.v,.v,.v,.v,.v,.l 0,.l 1,.cp (pre:=fun w=>AtF blS w p n V) hc [] (fun w hb hd=>hVV.call hb),.E (.int .i64 (Qn.wrap (2*((zg x V:Nat):Int)))) (iN (2*zg x V)) (zd (yB (a:=2) (b:=zg x V) (by omega))),.v,.l 0,.v,.E (.bool (decide (((2*zg x V:Nat):Int)>(m:Int)))) (.bool true) (za (decide_eq_true (by omega))),.v] H4 kr fun w5 H5=>zh<|rS [.v] H5 kr fun gs6 w6 H6=>?_;exact rRe [.tmp 2] [] (v:=.bool false) (v':=.bool (zz L V)) H6 (za (by rw[hst,ef,ea,decide_eq_false h2];rfl)) kr
 ·rintro _ w3 ⟨hst,H3,_,rfl⟩;rw[QD (by omega)]at hst;change zz L V=setM L at hst;rw[<-hst]at hset;refine wW<|rS [.v,.l 0,.cp (pre:=fun w=>AtF sS w q m L) hset [] (fun w hb hd=>hS.call hb),.v] H3 kr fun gs4 w4 H4=>?_;exact rR [.tmp 2] [] (.bool (zz L V)) H4 kr
theorem zeU (b:Bal)(s:List Bal×Bool)(x:Bal):(zV b s x).1.length<=s.1.length+1:=by
 unfold zV;split
 ·show (s.1++ [b]).length<=_;rw[Qz];exact Qu _
 ·omega
theorem zbo (b:Bal)(s:List Bal×Bool)(x:Bal):(yD b s x).1.length<=s.1.length+1:=by
 show (if x.2.1=b.2.1/\x.1=b.1 then s.1 else s.1++ [x]).length<=_;split
 ·omega
 ·rw[Qz];exact Qu _
theorem zbp (b:Bal): ∀(V:List Bal) (s:List Bal×Bool),(V.foldl (fun s x=>yD b (zV b s x) x) s).1.length<=s.1.length+2*V.length
 | [],s=>by simp
 | x::r,s=>by
  have h1:=zbp b r (yD b (zV b s x) x);have h2:=zbo b (zV b s x) x;have h3:=zeU b s x;rw[RC,Rg];omega
theorem ur (b:Bal)(V:List Bal):(qa b V).1.length<=2*V.length:=by
 have:=zbp b V ([],false);unfold qa;simpa using this
theorem zeV (a:Qa)(s:Qi×Bool)(x:Qa):(zW a s x).1.length<=s.1.length+1:=by
 unfold zW;split
 ·show (s.1++ [a]).length<=_;rw[Qz];exact Qu _
 ·omega
theorem zbq (a:Qa)(s:Qi×Bool)(x:Qa):(yH a s x).1.length<=s.1.length+1:=by
 show (if x=a then s.1 else s.1++ [x]).length<=_;split
 ·omega
 ·rw[Qz];exact Qu _
theorem zbr (a:Qa): ∀(L:Qi) (s:Qi×Bool),(L.foldl (fun s x=>yH a (zW a s x) x) s).1.length<=s.1.length+2*L.length
 | [],s=>by simp
 | x::r,s=>by
  have h1:=zbr a r (yH a (zW a s x) x);have h2:=zbq a (zW a s x) x;have h3:=zeV a s x;rw[RC,Rg];omega
theorem us (a:Qa)(add:Bool)(L:Qi):(yR a add L).1.length<=2*L.length:=by
 have:=zbr a L ([],!add);unfold yR;simpa using this
def kX {α:Type}(S:Fl α)(T:TypeId)(M:List α)(v:Value)(l:Qb):Prop:=∃(b m k:Nat) (cur:Qd),v=Qf b m k/\l=[(b,.cells cur T)]/\Rw S.K cur k m (cellsF S M)
theorem zeW (p:Qc)(n c:Nat)(V:List Bal)(b:Bal)(hV:V.length<=1000000):FnT Try.prog 40 #[.slice p n c,blV b] (fun w=>AtF blS w p n V) (kX blS 56 (zx b V)):=by
 refine FnT.intro (c:=zk Try.f40) [.tmp 4] 52 Try.func40 kr kr kr fun w hP=>?_;have hn:=hP.1;have H0:=St.start w;refine rS [.b,.v] H0 kr fun gs1 w1 H1=>rS [.nw (fun b=>Qf b 0 0) #[] 56,.v] H1 kr fun gs2 w2 H2=>rS [.v] H2 kr fun gs3 w3 H3=>zb kr<|rS [.v,.v,.v] H3 kr fun gsi wi Hi=>zR 12 11 13 44 0 1 n (by omega) (fun i ρ ww=> ∃(M:List Bal) (d:Bool) (rb k cap:Nat) (cur:Qd),qa b (V.take i)=(M,d)/\Rw 3 cur cap k (cellsF blS M)/\St w.heap.size w ww [(rb,.cells cur 56),((gs1 0).b,blO b)]/\Is [(3,Qe (gs1 0).b),(5,Qf rb k cap),(6,.bool d),(10,.slice p n c),(11,iN n),(12,iN i)] ρ) (by rintro i _ ww ⟨_,_,_,_,_,_,_,_,_,_,rfl⟩;exact⟨kr,kr⟩) ⟨[],false,_,0,0,#[],rfl,⟨rfl,Qu _,QO _,rfl,rfl⟩,(Hi.as (l:=[((gs1 0).b,blO b),((gs2 0).b,.cells #[] 56 (0,0))]) kr).perm (UO _ _ _),isK⟩ ?_ ?_
 ·clear H0 H1 H2 H3 Hi;rintro i _ w4 hi ⟨M,d,rb,k,cap,cur,hs,hrw,H4,_,rfl⟩;obtain⟨x,hx⟩:∃x,V[i]? =some x:=⟨_,Ql (by omega)⟩
  obtain⟨bl,off,C,T,fz,hp,hh,hR⟩:=hP.row2 (by omega);have hk:M.length=k:=Rw.lenF (S:=blS) hrw;have hlen:M.length<=2*i:=by
   have h9:=ur b (V.take i);rw[hs,Qt]at h9;change M.length<=2*min i V.length at h9;omega
  have hsn:qa b (V.take (i+1))=yD b (zV b (M,d) x) x:=by rw[zU hx,zeS,hs]
  have ha:=zbm x b;refine rS [.o (ins:=[((.tmp 10),.slice p n c),((.tmp 12),iN i)]) (v:=.pointer (some ⟨bl,off+i*3,none⟩)) (fun ρ o w ho hi2=>zo (kd:=.i64) (t:=30) (e:=56) (K:=3) (bytes:=40) kr (x:=(.tmp 10)) (y:=(.tmp 12)) bl off n c i hp ho hi2.1 hi2.2.1 (by omega) w),.fp (off:=off+i*3) (n:=3) (W:=blC x) hh (zf hh) (hR _ _ hx).1 (hR _ _ hx).2,.a,.s 2] H4 kr fun gs4 w5 H5=>zb kr<|qV (Q:=fun e ρ ww=>e=.normal/\∃(M1:List Bal) (d1:Bool) (rb k cap:Nat) (cur:Qd),zV b (M,d) x=(M1,d1)/\M1.length<=2*i+1/\Rw 3 cur cap k (cellsF blS M1)/\St w.heap.size w ww [(rb,.cells cur 56),((gs1 0).b,blO b),((gs4 2).b,blO x)]/\Is [(3,Qe (gs1 0).b),(5,Qf rb k cap),(6,.bool d1),(8,Qe (gs4 2).b),(10,.slice p n c),(11,iN n),(12,iN i)] ρ) ?_ ?_
  ·cases d with
   | true=>
    refine rS [.v,.v,.v,.n,.n,.n,.n,.v] H5 kr fun gs5 w6 H6=>zl ?_;exact⟨rfl,M,true,rb,k,cap,cur,rfl,by omega,hrw,H6.as kr,isK⟩
   | false=>
    cases ea:aheadB x b with
    | true=>
     rw[ea]at ha;refine rS [.v,.v,.v,.l 2,.l 1,.c ha,.v,.v] H5 kr fun gs5 w6 H6=>zl ?_;exact⟨rfl,M,false,rb,k,cap,cur,by unfold zV;rw[ea];rfl,by omega,hrw,H6.as kr,isK⟩
    | false=>
     rw[ea]at ha;refine rS [.v,.v,.v,.l 2,.l 1,.c ha,.v,.v] H5 kr fun gs5 w6 H6=>zh<|ze [0,1,2,3,4] kr kr<|rp [.v,.l 1] H6 kr fun gsA wA HA=>wX [2,3,4] ?_;have HB:St w.heap.size w wA ((rb,.cells cur 56)::[((gs1 0).b,blO b),((gs4 2).b,blO x)]):=HA.as kr;refine yG HB (some 26) (fun b=>Qf b 1 1) (blS.cs b).toArray 56 kr kr ?_;intro bn wB HC;refine qF (S:=blS) (row:=[(rb,.cells cur 56)]) (Z:=[((gs1 0).b,blO b),((gs4 2).b,blO x)]) (some 27) 30 56 40 (.tmp 24) (.tmp 26) HC (.inr ⟨rb,cur,rfl,rfl,hrw⟩) kr kr kr kr kr (by omega) (by unfold maxLen;omega) ?_;intro b' cap' cur' wC HD hr';refine rp [.v] HD kr fun gsB wD HE=>wX []<|zc<|rL [.v] HE kr fun gs7 w7 H7=>?_;exact⟨rfl,M++ [b],true,b',k+1,cap',cur',by unfold zV;rw[ea];rfl,by rw[Qz];show M.length+1<=_;omega,hr',H7.as kr,isK⟩
  ·clear H4 H5 hrw hk;rintro _ _ w6 ⟨rfl,M1,d1,rb,k,cap,cur,hT,hl1,hrw,H6,_,rfl⟩;have hk:M1.length=k:=Rw.lenF (S:=blS) hrw;rw[hT]at hsn;refine wW ?_;by_cases e1:x.2.1=b.2.1
   ·by_cases e2:x.1=b.1
    ·refine rS [.v,.l 2,.v,.l 1,.E (.bool (!(x.2.1.toList==b.2.1.toList))) (.bool false) (za (by rw[ya _ _ e1];rfl)),.v,.v,.l 2,.v,.l 1,.E (.bool (!(x.1.toList==b.1.toList))) (.bool false) (za (by rw[ya _ _ e2];rfl)),.v] H6 kr fun gs7 w7 H7=>zl ?_;exact⟨kr,M1,d1,rb,k,cap,cur,hsn.trans (by unfold yD;rw[if_pos ⟨e1,e2⟩]),hrw,(H7.as (l:=[(rb,.cells cur 56),((gs1 0).b,blO b),((gs4 2).b,blO x)]) kr).sub (QM [_,_] [_]),isK⟩
    ·refine rS [.v,.l 2,.v,.l 1,.E (.bool (!(x.2.1.toList==b.2.1.toList))) (.bool false) (za (by rw[ya _ _ e1];rfl)),.v,.v,.l 2,.v,.l 1,.E (.bool (!(x.1.toList==b.1.toList))) (.bool true) (za (by rw[zT _ _ e2];rfl)),.v] H6 kr fun gs7 w7 H7=>zh<|ql [0,1,2,3,4] kr<|rp [.v,.l 2] H7 kr fun gsA wA HA=>wX [2,3,4] ?_;have HB:St w.heap.size w wA ((rb,.cells cur 56)::[((gs1 0).b,blO b),((gs4 2).b,blO x)]):=HA.as kr;refine yG HB (some 42) (fun b=>Qf b 1 1) (blS.cs x).toArray 56 kr kr ?_;intro bn wB HC;refine qF (S:=blS) (row:=[(rb,.cells cur 56)]) (Z:=[((gs1 0).b,blO b),((gs4 2).b,blO x)]) (some 43) 30 56 40 (.tmp 40) (.tmp 42) HC (.inr ⟨rb,cur,rfl,rfl,hrw⟩) kr kr kr kr kr (by omega) (by unfold maxLen;omega) ?_;intro b' cap' cur' wC HD hr';refine rp [.v] HD kr fun gsB wD HE=>wX []<|zc ?_;exact⟨kr,M1++ [x],d1,b',k+1,cap',cur',hsn.trans (by unfold yD;rw[if_neg (fun h=>e2 h.2)]),hr',(HE.as (l:=[(b',.cells cur' 56),((gs1 0).b,blO b),((gs4 2).b,blO x)]) kr).sub (QM [_,_] [_]),isK⟩
   ·refine rS [.v,.l 2,.v,.l 1,.E (.bool (!(x.2.1.toList==b.2.1.toList))) (.bool true) (za (by rw[zT _ _ e1];rfl)),.v,.n,.n,.n,.n,.n,.v] H6 kr fun gs7 w7 H7=>zh<|ql [0,1,2,3,4] kr<|rp [.v,.l 2] H7 kr fun gsA wA HA=>wX [2,3,4] ?_;have HB:St w.heap.size w wA ((rb,.cells cur 56)::[((gs1 0).b,blO b),((gs4 2).b,blO x)]):=HA.as kr;refine yG HB (some 42) (fun b=>Qf b 1 1) (blS.cs x).toArray 56 kr kr ?_;intro bn wB HC;refine qF (S:=blS) (row:=[(rb,.cells cur 56)]) (Z:=[((gs1 0).b,blO b),((gs4 2).b,blO x)]) (some 43) 30 56 40 (.tmp 40) (.tmp 42) HC (.inr ⟨rb,cur,rfl,rfl,hrw⟩) kr kr kr kr kr (by omega) (by unfold maxLen;omega) ?_;intro b' cap' cur' wC HD hr';refine rp [.v] HD kr fun gsB wD HE=>wX []<|zc ?_;exact⟨kr,M1++ [x],d1,b',k+1,cap',cur',hsn.trans (by unfold yD;rw[if_neg (fun h=>e1 h.1)]),hr',(HE.as (l:=[(b',.cells cur' 56),((gs1 0).b,blO b),((gs4 2).b,blO x)]) kr).sub (QM [_,_] [_]),isK⟩
 ·clear H0 H1 H2 H3 Hi;rintro _ w4 ⟨M,d,rb,k,cap,cur,hs,hrw,H4,_,rfl⟩;have hk:M.length=k:=Rw.lenF (S:=blS) hrw;have hlen:M.length<=2*n:=by
   have h9:=ur b (V.take n);rw[hs,Qt]at h9;change M.length<=2*min n V.length at h9;omega
  rw[Qp (by omega)]at hs;refine wW<|zb kr<|qV (Q:=fun e ρ ww=>e=.normal/\∃(rb k cap:Nat) (cur:Qd),Rw 3 cur cap k (cellsF blS (zx b V))/\St w.heap.size w ww [(rb,.cells cur 56),((gs1 0).b,blO b)]/\Is [(5,Qf rb k cap)] ρ) ?_ ?_
  ·cases d with
   | true=>
    have e9:zx b V=M:=by unfold zx;rw[hs];rfl
    refine rS [.v,.v] H4 kr fun gs5 w6 H6=>zl ?_;exact⟨rfl,rb,k,cap,cur,by rw[e9];exact hrw,H6.as kr,isK⟩
   | false=>
    have e9:zx b V=M++ [b]:=by unfold zx;rw[hs];rfl
    refine rS [.v,.v] H4 kr fun gs5 w6 H6=>zh<|ql [0,1,2,3,4] kr<|rp [.v,.l 1] H6 kr fun gsA wA HA=>wX [2,3,4] ?_;have HB:St w.heap.size w wA ((rb,.cells cur 56)::[((gs1 0).b,blO b)]):=HA.as kr;refine yG HB (some 49) (fun b=>Qf b 1 1) (blS.cs b).toArray 56 kr kr ?_;intro bn wB HC;refine qF (S:=blS) (row:=[(rb,.cells cur 56)]) (Z:=[((gs1 0).b,blO b)]) (some 50) 30 56 40 (.tmp 47) (.tmp 49) HC (.inr ⟨rb,cur,rfl,rfl,hrw⟩) kr kr kr kr kr (by omega) (by unfold maxLen;omega) ?_;intro b' cap' cur' wC HD hr';refine rp [.v] HD kr fun gsB wD HE=>wX []<|zc ?_;exact⟨rfl,b',k+1,cap',cur',by rw[e9];exact hr',HE.as kr,isK⟩
  ·clear H4 hrw hk;rintro _ _ w6 ⟨rfl,rb,k,cap,cur,hrw,H6,_,rfl⟩;refine wW<|rS [.v,.v] H6 kr fun gs7 w7 H7=>rRr [.tmp 4] [] (Qf rb k cap) (zJ w.heap.size w (kX blS 56 (zx b V))) H7 kr ?_;exact⟨_,⟨rb,k,cap,cur,rfl,rfl,hrw⟩,(H7.as (l:=[(rb,.cells cur 56),((gs1 0).b,blO b)]) kr).sub (QM [_] [_])⟩
theorem zeX (p:Qc)(n c:Nat)(L:Qi)(a:Qa)(add:Bool)(hL:L.length<=1000000):FnT Try.prog 41 #[.slice p n c,.string a,.bool add] (fun w=>AtF sS w p n L) (kX sS 9 (zM a add L)):=by
 refine FnT.intro (c:=zk Try.f41) [.tmp 6] 46 Try.func41 kr kr kr fun w hP=>?_;have hn:=hP.1;have H0:=St.start w;refine rS [.v] H0 kr fun gs1 w1 H1=>rS [.nw (fun b=>Qf b 0 0) #[] 9,.v] H1 kr fun gs2 w2 H2=>rS [.v,.v,.v] H2 kr fun gs3 w3 H3=>zb kr<|rS [.v,.v,.v] H3 kr fun gsi wi Hi=>zR 16 15 17 38 0 1 n (by omega) (fun i ρ ww=> ∃(M:Qi) (d:Bool) (rb k cap:Nat) (cur:Qd),yR a add (L.take i)=(M,d)/\Rw 1 cur cap k (cellsF sS M)/\St w.heap.size w ww [(rb,.cells cur 9)]/\Is [(1,.string a),(7,Qf rb k cap),(8,.bool d),(14,.slice p n c),(15,iN n),(16,iN i)] ρ) (by rintro i _ ww ⟨_,_,_,_,_,_,_,_,_,_,rfl⟩;exact⟨kr,kr⟩) ⟨[],!add,_,0,0,#[],rfl,⟨rfl,Qu _,QO _,rfl,rfl⟩,Hi.as (l:=[((gs2 0).b,.cells #[] 9 (0,0))]) kr,isK⟩ ?_ ?_
 ·clear H0 H1 H2 H3 Hi;rintro i _ w4 hi ⟨M,d,rb,k,cap,cur,hs,hrw,H4,_,rfl⟩;obtain⟨x,hx⟩:∃x,L[i]? =some x:=⟨_,Ql (by omega)⟩
  obtain⟨bl,off,C,T,fz,hp,hh,hR⟩:=hP.row2 (by omega);have hcx:C[off+i*1]? =some (.string x):=hR.cell hx 0 (by decide);have hk:M.length=k:=Rw.lenF (S:=sS) hrw;have hlen:M.length<=2*i:=by
   have h9:=us a add (L.take i);rw[hs,Qt]at h9;change M.length<=2*min i L.length at h9;omega
  have hsn:yR a add (L.take (i+1))=yH a (zW a (M,d) x) x:=by rw[zU hx,zeT,hs]
  refine rS [.o (ins:=[((.tmp 14),.slice p n c),((.tmp 16),iN i)]) (v:=.pointer (some ⟨bl,off+i*1,none⟩)) (fun ρ o w ho hi2=>zo (kd:=.i64) (t:=22) (e:=9) (K:=1) (bytes:=16) kr (x:=(.tmp 14)) (y:=(.tmp 16)) bl off n c i hp ho hi2.1 hi2.2.1 (by omega) w),.fs (off:=off+i*1) (v:=.string x) hh (zf hh) hcx,.v] H4 kr fun gs4 w5 H5=>zb kr<|qV (Q:=fun e ρ ww=>e=.normal/\∃(M1:Qi) (d1:Bool) (rb k cap:Nat) (cur:Qd),zW a (M,d) x=(M1,d1)/\M1.length<=2*i+1/\Rw 1 cur cap k (cellsF sS M1)/\St w.heap.size w ww [(rb,.cells cur 9)]/\Is [(1,.string a),(7,Qf rb k cap),(8,.bool d1),(10,.string x),(14,.slice p n c),(15,iN n),(16,iN i)] ρ) ?_ ?_
  ·cases d with
   | true=>
    refine rS [.v,.v,.v,.n,.n,.n,.v] H5 kr fun gs5 w6 H6=>zl ?_;exact⟨rfl,M,true,rb,k,cap,cur,rfl,by omega,hrw,H6.as kr,isK⟩
   | false=>
    cases ea:zi (tl a) (tl x) with
    | false=>
     refine rS [.v,.v,.v,.v,.v,.E (.bool (!(Rv x.toList a.toList||x.toList==a.toList))) (.bool false) (za (by rw[kV,ea];rfl)),.v] H5 kr fun gs5 w6 H6=>zl ?_;exact⟨rfl,M,false,rb,k,cap,cur,by unfold zW;rw[ea];rfl,by omega,hrw,H6.as kr,isK⟩
    | true=>
     refine rS [.v,.v,.v,.v,.v,.E (.bool (!(Rv x.toList a.toList||x.toList==a.toList))) (.bool true) (za (by rw[kV,ea];rfl)),.v] H5 kr fun gs5 w6 H6=>zh<|ze [0,1,2,3,4] kr kr<|rp [.v,.v] H6 kr fun gsA wA HA=>wX [2,3,4] ?_;have HB:St w.heap.size w wA ((rb,.cells cur 9)::[]):=HA.as kr;refine yG HB (some 29) (fun b=>Qf b 1 1) (sS.cs a).toArray 9 kr kr ?_;intro bn wB HC;refine qF (S:=sS) (row:=[(rb,.cells cur 9)]) (Z:=[]) (some 30) 22 9 16 (.tmp 27) (.tmp 29) HC (.inr ⟨rb,cur,rfl,rfl,hrw⟩) kr kr kr kr kr (by omega) (by unfold maxLen;omega) ?_;intro b' cap' cur' wC HD hr';refine rp [.v] HD kr fun gsB wD HE=>wX []<|zc<|rL [.v] HE kr fun gs7 w7 H7=>?_;exact⟨rfl,M++ [a],true,b',k+1,cap',cur',by unfold zW;rw[ea];rfl,by rw[Qz];show M.length+1<=_;omega,hr',H7.as kr,isK⟩
  ·clear H4 H5 hrw hk;rintro _ _ w6 ⟨rfl,M1,d1,rb,k,cap,cur,hT,hl1,hrw,H6,_,rfl⟩;have hk:M1.length=k:=Rw.lenF (S:=sS) hrw;rw[hT]at hsn;refine wW ?_;by_cases e1:x=a
   ·refine rS [.v,.v,.E (.bool (!(x.toList==a.toList))) (.bool false) (za (by rw[ya _ _ e1];rfl))] H6 kr fun gs7 w7 H7=>zl ?_;exact⟨kr,M1,d1,rb,k,cap,cur,hsn.trans (by unfold yH;rw[if_pos e1]),hrw,H7.as kr,isK⟩
   ·refine rS [.v,.v,.E (.bool (!(x.toList==a.toList))) (.bool true) (za (by rw[zT _ _ e1];rfl))] H6 kr fun gs7 w7 H7=>zh<|ql [0,1,2,3,4] kr<|rp [.v,.v] H7 kr fun gsA wA HA=>wX [2,3,4] ?_;have HB:St w.heap.size w wA ((rb,.cells cur 9)::[]):=HA.as kr;refine yG HB (some 36) (fun b=>Qf b 1 1) (sS.cs x).toArray 9 kr kr ?_;intro bn wB HC;refine qF (S:=sS) (row:=[(rb,.cells cur 9)]) (Z:=[]) (some 37) 22 9 16 (.tmp 34) (.tmp 36) HC (.inr ⟨rb,cur,rfl,rfl,hrw⟩) kr kr kr kr kr (by omega) (by unfold maxLen;omega) ?_;intro b' cap' cur' wC HD hr';refine rp [.v] HD kr fun gsB wD HE=>wX []<|zc ?_;exact⟨kr,M1++ [x],d1,b',k+1,cap',cur',hsn.trans (by unfold yH;rw[if_neg e1]),hr',HE.as kr,isK⟩
 ·clear H0 H1 H2 H3 Hi;rintro _ w4 ⟨M,d,rb,k,cap,cur,hs,hrw,H4,_,rfl⟩;have hk:M.length=k:=Rw.lenF (S:=sS) hrw;have hlen:M.length<=2*n:=by
   have h9:=us a add (L.take n);rw[hs,Qt]at h9;change M.length<=2*min n L.length at h9;omega
  rw[Qp (by omega)]at hs;refine wW<|zb kr<|qV (Q:=fun e ρ ww=>e=.normal/\∃(rb k cap:Nat) (cur:Qd),Rw 1 cur cap k (cellsF sS (zM a add L))/\St w.heap.size w ww [(rb,.cells cur 9)]/\Is [(7,Qf rb k cap)] ρ) ?_ ?_
  ·cases d with
   | true=>
    have e9:zM a add L=M:=by unfold zM;rw[hs];rfl
    refine rS [.v,.v] H4 kr fun gs5 w6 H6=>zl ?_;exact⟨rfl,rb,k,cap,cur,by rw[e9];exact hrw,H6.as kr,isK⟩
   | false=>
    have e9:zM a add L=M++ [a]:=by unfold zM;rw[hs];rfl
    refine rS [.v,.v] H4 kr fun gs5 w6 H6=>zh<|ql [0,1,2,3,4] kr<|rp [.v,.v] H6 kr fun gsA wA HA=>wX [2,3,4] ?_;have HB:St w.heap.size w wA ((rb,.cells cur 9)::[]):=HA.as kr;refine yG HB (some 43) (fun b=>Qf b 1 1) (sS.cs a).toArray 9 kr kr ?_;intro bn wB HC;refine qF (S:=sS) (row:=[(rb,.cells cur 9)]) (Z:=[]) (some 44) 22 9 16 (.tmp 41) (.tmp 43) HC (.inr ⟨rb,cur,rfl,rfl,hrw⟩) kr kr kr kr kr (by omega) (by unfold maxLen;omega) ?_;intro b' cap' cur' wC HD hr';refine rp [.v] HD kr fun gsB wD HE=>wX []<|zc ?_;exact⟨rfl,b',k+1,cap',cur',by rw[e9];exact hr',HE.as kr,isK⟩
  ·clear H4 hrw hk;rintro _ _ w6 ⟨rfl,rb,k,cap,cur,hrw,H6,_,rfl⟩;refine wW<|rS [.v,.v] H6 kr fun gs7 w7 H7=>rRr [.tmp 6] [] (Qf rb k cap) (zJ w.heap.size w (kX sS 9 (zM a add L))) H7 kr ?_;exact⟨_,⟨rb,k,cap,cur,rfl,rfl,hrw⟩,H7.as kr⟩
theorem jF {α:Type}{S:Fl α}{w:World}{b n cap:Nat}{cur:Qd}{T:TypeId}{M:List α}(hr:Rw S.K cur cap n (cellsF S M))(h:w.heap[b]? =some (.cells cur T)):AtF S w (Qg b) n M:=⟨(Rw.lenF (S:=S) hr).symm,.inr ⟨b,0,cur,T,(0,0),rfl,h,hr.rowAt⟩⟩
theorem zeY {α:Type}{S:Fl α}{ty:TypeId}{p:Qc}{n c:Nat}{row:Qb}{L:List α}(h:zv S ty p n c row L):L.length=n:=by
 rcases h with⟨_,rfl,_,_,rfl⟩|⟨b,cur,_,_,hrw⟩
 ·rfl
 ·exact Rw.lenF (S:=S) hrw
theorem jG {α:Type}{f:α->Bool}{W:List α}{i:Nat}{x:α}(h:W[i]? =some x):(W.take (i+1)).filter f=(W.take i).filter f++if f x=true then [x] else []:=by
 rw[zU h,Rh];congr 1;by_cases e:f x=true
 ·rw[if_pos e,RV e];rfl
 ·rw[if_neg e,Rl e];rfl
theorem zbs {α:Type}(f:α->Bool)(W:List α)(i:Nat):((W.take i).filter f).length<=W.length:=by
 have h1:=RE f (W.take i);rw[Qt]at h1;omega
theorem zeZ (b:Bal)(V:List Bal):(zx b V).length<=2*V.length+1:=by
 have h:=ur b V;unfold zx;split
 ·omega
 ·rw[Qz];show (qa b V).1.length+1<=_;omega
theorem ze0 (a:Qa)(add:Bool)(L:Qi):(zM a add L).length<=2*L.length+1:=by
 have h:=us a add L;unfold zM;split
 ·omega
 ·rw[Qz];show (yR a add L).1.length+1<=_;omega
def yk {α:Type}(S:Fl α)(ty:TypeId)(q0:Qc)(m0 c0:Nat)(L0:List α)(q:Qc)(m c:Nat)(T:Qb)(L:List α):Prop:=(T=[]/\q=q0/\m=m0/\c=c0/\L=L0)\/zv S ty q m c T L
def zq (q0:Qc)(m0 cq0:Nat)(L0:Qi)(p0:Qc)(n0 c0:Nat)(V0:List Bal)(r:Qi×List Bal×Nat)(v:Value)(T:Qb):Prop:=
 ∃(q:Qc) (m cq:Nat) (p:Qc) (n c:Nat) (T1 T2:Qb),v=.tuple #[snV q m cq p n c,.int .i64 ((r.2.2:Nat):Int)]/\T=T1++T2/\yk sS 9 q0 m0 cq0 L0 q m cq T1 r.1/\yk blS 56 p0 n0 c0 V0 p n c T2 r.2.1
theorem zq.no {q0:Qc}{m0 cq0:Nat}{L0:Qi}{p0:Qc}{n0 c0:Nat}{V0:List Bal}{e:Nat} :zq q0 m0 cq0 L0 p0 n0 c0 V0 ([],[],e) (.tuple #[snV none 0 0 none 0 0,.int .i64 (e:Int)]) []:=
 ⟨none,0,0,none,0,0,[],[],rfl,rfl,.inr (.inl ⟨rfl,rfl,rfl,rfl,rfl⟩),.inr (.inl ⟨rfl,rfl,rfl,rfl,rfl⟩)⟩
def zbt (L:Qi)(V:List Bal)(b:Bal):Qi×List Bal×Nat:=
 if 2*zg b (zx b V)<=L.length then (L,zx b V,0)
 else (zM b.2.1 b.2.2 L,((zx b V).filter (zN b)).filter (fun x=>b.2.2||decide (2*zg x ((zx b V).filter (zN b))<=(zM b.2.1 b.2.2 L).length)),0)
theorem ze1 (q:Qc)(m cq:Nat)(L:Qi)(p:Qc)(n c:Nat)(V:List Bal)(b:Bal)(hL:L.length<=100000)(hV:V.length<=100000):FnT Try.prog 28 #[snV q m cq p n c,blV b] (fun w=>zG w L V q m p n) (zq q m cq L p n c V (zC L V b)):=by
 refine FnT.intro (c:=zk Try.f28) [.cell 4 32,.tmp 5] 122 Try.func28 kr kr kr fun w hP=>?_;obtain⟨hS,hVV⟩:=hP;have hm:=hS.1;have hn:=hVV.1;have hright:=uq q m cq L p n c V (by omega) (by omega);have hf:=zbn q m cq L b (by omega);have H0:=St.start w;refine rS [.b,.b,.a,.v] H0 kr fun gs1 w1 H1=>?_;have go: ∀(ρ:Env) (ww:World),zC L V b=zbt L V b->St w.heap.size w ww [((gs1 0).b,snO q m cq p n c),((gs1 1).b,blO b),((gs1 2).b,snO none 0 0 none 0 0)]->Is [(2,Qe (gs1 0).b),(3,Qe (gs1 1).b),(4,Qe (gs1 2).b)] ρ->WP Try.prog 122 (yE (yE (yE (zk Try.f28)))) (qd Try.prog [.cell 4 32,.tmp 5] (zJ w.heap.size w (zq q m cq L p n c V (zC L V b)))) ρ ww:=by
  clear H0 H1 hright hf;rintro _ w3 hX H3 ⟨_,rfl⟩;refine ze [0,1,2,3,4] kr kr<|rp [.v,.l 0,.l 1] H3 kr fun gs3 w4 H4=>wX [3,4] ?_;have H5:St w.heap.size w w4 [((gs1 0).b,snO q m cq p n c),((gs1 1).b,blO b),((gs1 2).b,snO none 0 0 none 0 0)]:=H4.as kr;refine yY H5 (some 47) 40 #[.slice p n c,blV b] (zeW p n c V b (by omega)) (hVV.call H5.below) kr kr ?_;rintro _ _ w5 ⟨vb,vk,vcap,vcur,rfl,rfl,hvrw⟩ H6;refine rp [.v] H6 kr fun gs4 w6 H7=>wX []<|zc<|wW<|zb kr ?_;have hvl:=zeZ b V;unfold zbt at hX;generalize zx b V=W at*;have hvk:W.length=vk:=Rw.lenF (S:=blS) hvrw;have hc:=up (Qg vb) vk vcap W b (by omega);have hcl:=xf b W;have H8:St w.heap.size w w6 [(vb,.cells vcur 56),((gs1 0).b,snO q m cq p n c),((gs1 1).b,blO b),((gs1 2).b,snO none 0 0 none 0 0)]:=H7.as kr;by_cases h2:2*zg b W<=L.length
  ·refine dS [.v,.l 2,.cp (pre:=fun w=>AtF blS w (Qg vb) vk W) hc [(0,((vb,.cells vcur 56)))] (fun w hb hd=>jF (S:=blS) hvrw hd.1),.E (.int .i64 (Qn.wrap (2*(((zg b W):Nat):Int)))) (iN (2*zg b W)) (zd (yB (a:=2) (b:=zg b W) (by omega))),.v,.l 1,.v,.E (.bool (decide (((2*zg b W:Nat):Int)<=(m:Int)))) (.bool true) (za (decide_eq_true (by omega)))] H8 kr fun w7 H9=>zh<|rS [.v,.l 1,.v,.v,.s 3,.v] H9 kr fun gs5 w8 H10=>rRr [.cell 4 32,.tmp 5] [3] (.tuple #[snV q m cq (Qg vb) vk vcap,.int .i64 0]) (zJ w.heap.size w (zq q m cq L p n c V (zC L V b))) H10 kr ?_;rw[hX.trans (if_pos h2)];exact⟨_,⟨q,m,cq,_,vk,vcap,[],[(vb,.cells vcur 56)],rfl,rfl,.inl ⟨rfl,rfl,rfl,rfl,rfl⟩,.inr (.inr ⟨vb,vcur,rfl,rfl,hvrw⟩)⟩,(H10.as (l:=[(vb,.cells vcur 56),((gs1 0).b,snO q m cq p n c),((gs1 1).b,blO b),((gs1 2).b,snO q m cq (Qg vb) vk vcap)]) kr).sub (QM [_] [_,_,_])⟩
  ·refine dS [.v,.l 2,.cp (pre:=fun w=>AtF blS w (Qg vb) vk W) hc [(0,((vb,.cells vcur 56)))] (fun w hb hd=>jF (S:=blS) hvrw hd.1),.E (.int .i64 (Qn.wrap (2*(((zg b W):Nat):Int)))) (iN (2*zg b W)) (zd (yB (a:=2) (b:=zg b W) (by omega))),.v,.l 1,.v,.E (.bool (decide (((2*zg b W:Nat):Int)<=(m:Int)))) (.bool false) (za (decide_eq_false (by omega)))] H8 kr fun w7 H9=>zl<|wW<|rS [.nw (fun b=>Qf b 0 0) #[] 56,.v] H9 kr fun gs5 w8 H10=>zb kr<|rS [.v,.v,.v] H10 kr fun gs6 w9 H11=>?_
   replace hX:=hX.trans (if_neg h2)
   have H11':St w.heap.size w w9 ([((gs5 0).b,.cells #[] 56 (0,0))]++ [(vb,.cells vcur 56),((gs1 0).b,snO q m cq p n c),((gs1 1).b,blO b),((gs1 2).b,snO none 0 0 none 0 0)]):=(H11.as (l:=[(vb,.cells vcur 56),((gs1 0).b,snO q m cq p n c),((gs1 1).b,blO b),((gs1 2).b,snO none 0 0 none 0 0)]++ [((gs5 0).b,.cells #[] 56 (0,0))]) kr).perm QP;refine zR 63 62 64 87 0 1 vk (by omega) (fun i ρ ww=> ∃(lb k cap:Nat) (cur:Qd),Rw 3 cur cap k (cellsF blS ((W.take i).filter (zN b)))/\St w.heap.size w ww [(lb,.cells cur 56),(vb,.cells vcur 56),((gs1 0).b,snO q m cq p n c),((gs1 1).b,blO b),((gs1 2).b,snO none 0 0 none 0 0)]/\Is [(2,Qe (gs1 0).b),(3,Qe (gs1 1).b),(4,Qe (gs1 2).b),(7,Qf lb k cap),(61,Qf vb vk vcap),(62,iN vk),(63,iN i)] ρ) (by rintro i _ ww ⟨_,_,_,_,_,_,_,rfl⟩;exact⟨kr,kr⟩) ⟨(gs5 0).b,0,0,#[],⟨rfl,Qu _,QO _,rfl,rfl⟩,H11',isK⟩ ?_ ?_
   ·clear H3 H4 H5 H6 H7 H8 H9 H10 H11;rintro i _ w11 hi ⟨lb,k,cap,cur,hrw,H11,_,rfl⟩;obtain⟨x,hx⟩:∃x,W[i]? =some x:=⟨_,Ql (by omega)⟩
    have hat:=hvrw.rowAt (S:=blS) i x hx;have hk:((W.take i).filter (zN b)).length=k:=Rw.lenF (S:=blS) hrw;have hk2:=zbs (zN b) W i;generalize hM:(W.take i).filter (zN b)=M at hrw hk hk2;refine rS [.o (ins:=[((.tmp 61),Qf vb vk vcap),((.tmp 63),iN i)]) (v:=.pointer (some ⟨vb,0+i*3,none⟩)) (fun ρ o w ho hi2=>zo (kd:=.i64) (t:=30) (e:=56) (K:=3) (bytes:=40) kr (x:=(.tmp 61)) (y:=(.tmp 63)) vb 0 vk vcap i rfl ho hi2.1 hi2.2.1 (by omega) w),.lp 1 (C:=vcur) (off:=0+i*3) (n:=3) (W:=blC x) hat.1 hat.2,.a,.s 5] H11 kr fun gs8 w12 H12=>?_;by_cases e1:x.2.1=b.2.1
    ·have hst: ¬zN b x=true:=by unfold zN;rw[decide_eq_false (fun h=>h e1)];exact QR
     refine rS [.v,.l 5,.v,.l 3,.E (.bool (!(x.2.1.toList==b.2.1.toList))) (.bool false) (za (by rw[ya _ _ e1];rfl)),.v,.n,.n,.n,.n,.n,.n,.n,.n,.n,.v] H12 kr fun gs9 w13 H13=>zl ?_;exact⟨kr,lb,k,cap,cur,by rw[jG hx,if_neg hst,hM,Ru];exact hrw,(H13.as (l:=[(lb,.cells cur 56),(vb,.cells vcur 56),((gs1 0).b,snO q m cq p n c),((gs1 1).b,blO b),((gs1 2).b,snO none 0 0 none 0 0),((gs8 2).b,blO x)]) kr).sub (QM [_,_,_,_,_] [_]),isK⟩
    ·by_cases hb2:b.2.2=true
     ·have hst:zN b x=true:=by unfold zN;rw[decide_eq_true e1,hb2];rfl
      refine rS [.v,.l 5,.v,.l 3,.E (.bool (!(x.2.1.toList==b.2.1.toList))) (.bool true) (za (by rw[zT _ _ e1];rfl)),.v,.v,.l 3,.E (.bool b.2.2) (.bool true) (za hb2),.n,.n,.n,.n,.n,.v,.v] H12 kr fun gs9 w13 H13=>zh<|ql [0,1,2,3,4] kr<|rp [.v,.l 5] H13 kr fun gsA wA HA=>wX [2,3,4] ?_;have HB:St w.heap.size w wA ((lb,.cells cur 56)::[(vb,.cells vcur 56),((gs1 0).b,snO q m cq p n c),((gs1 1).b,blO b),((gs1 2).b,snO none 0 0 none 0 0),((gs8 2).b,blO x)]):=HA.as kr;refine yG HB (some 85) (fun b=>Qf b 1 1) (blS.cs x).toArray 56 kr kr ?_;intro bn wB HC;refine qF (S:=blS) (row:=[(lb,.cells cur 56)]) (Z:=[(vb,.cells vcur 56),((gs1 0).b,snO q m cq p n c),((gs1 1).b,blO b),((gs1 2).b,snO none 0 0 none 0 0),((gs8 2).b,blO x)]) (some 86) 30 56 40 (.tmp 83) (.tmp 85) HC (.inr ⟨lb,cur,rfl,rfl,hrw⟩) kr kr kr kr kr (by omega) (by unfold maxLen;omega) ?_;intro b' cap' cur' wC HD hr';refine rp [.v] HD kr fun gsB wD HE=>wX []<|zc ?_;exact⟨kr,b',k+1,cap',cur',by rw[jG hx,if_pos hst,hM];exact hr',(HE.as (l:=[(b',.cells cur' 56),(vb,.cells vcur 56),((gs1 0).b,snO q m cq p n c),((gs1 1).b,blO b),((gs1 2).b,snO none 0 0 none 0 0),((gs8 2).b,blO x)]) kr).sub (QM [_,_,_,_,_] [_]),isK⟩
     ·replace hb2:=QI.2 hb2
      by_cases e2:x.1=b.2.1
      ·have hst: ¬zN b x=true:=by unfold zN;rw[decide_eq_true e1,hb2,decide_eq_false (fun h=>h e2)];exact QR
       refine rS [.v,.l 5,.v,.l 3,.E (.bool (!(x.2.1.toList==b.2.1.toList))) (.bool true) (za (by rw[zT _ _ e1];rfl)),.v,.v,.l 3,.E (.bool b.2.2) (.bool false) (za hb2),.v,.l 5,.v,.l 3,.E (.bool (!(x.1.toList==b.2.1.toList))) (.bool false) (za (by rw[ya _ _ e2];rfl)),.v,.v] H12 kr fun gs9 w13 H13=>zl ?_;exact⟨kr,lb,k,cap,cur,by rw[jG hx,if_neg hst,hM,Ru];exact hrw,(H13.as (l:=[(lb,.cells cur 56),(vb,.cells vcur 56),((gs1 0).b,snO q m cq p n c),((gs1 1).b,blO b),((gs1 2).b,snO none 0 0 none 0 0),((gs8 2).b,blO x)]) kr).sub (QM [_,_,_,_,_] [_]),isK⟩
      ·have hst:zN b x=true:=by unfold zN;rw[decide_eq_true e1,hb2,decide_eq_true e2];rfl
       refine rS [.v,.l 5,.v,.l 3,.E (.bool (!(x.2.1.toList==b.2.1.toList))) (.bool true) (za (by rw[zT _ _ e1];rfl)),.v,.v,.l 3,.E (.bool b.2.2) (.bool false) (za hb2),.v,.l 5,.v,.l 3,.E (.bool (!(x.1.toList==b.2.1.toList))) (.bool true) (za (by rw[zT _ _ e2];rfl)),.v,.v] H12 kr fun gs9 w13 H13=>zh<|ql [0,1,2,3,4] kr<|rp [.v,.l 5] H13 kr fun gsA wA HA=>wX [2,3,4] ?_;have HB:St w.heap.size w wA ((lb,.cells cur 56)::[(vb,.cells vcur 56),((gs1 0).b,snO q m cq p n c),((gs1 1).b,blO b),((gs1 2).b,snO none 0 0 none 0 0),((gs8 2).b,blO x)]):=HA.as kr;refine yG HB (some 85) (fun b=>Qf b 1 1) (blS.cs x).toArray 56 kr kr ?_;intro bn wB HC;refine qF (S:=blS) (row:=[(lb,.cells cur 56)]) (Z:=[(vb,.cells vcur 56),((gs1 0).b,snO q m cq p n c),((gs1 1).b,blO b),((gs1 2).b,snO none 0 0 none 0 0),((gs8 2).b,blO x)]) (some 86) 30 56 40 (.tmp 83) (.tmp 85) HC (.inr ⟨lb,cur,rfl,rfl,hrw⟩) kr kr kr kr kr (by omega) (by unfold maxLen;omega) ?_;intro b' cap' cur' wC HD hr';refine rp [.v] HD kr fun gsB wD HE=>wX []<|zc ?_;exact⟨kr,b',k+1,cap',cur',by rw[jG hx,if_pos hst,hM];exact hr',(HE.as (l:=[(b',.cells cur' 56),(vb,.cells vcur 56),((gs1 0).b,snO q m cq p n c),((gs1 1).b,blO b),((gs1 2).b,snO none 0 0 none 0 0),((gs8 2).b,blO x)]) kr).sub (QM [_,_,_,_,_] [_]),isK⟩
   ·clear H3 H4 H5 H6 H7 H8 H9 H10 H11;rintro _ w11 ⟨lb,lk,lcap,lcur,hlrw,H11,_,rfl⟩;rw[Qp (by omega)]at hlrw;have hfl:=RE (zN b) W;generalize W.filter (zN b)=F at*;have hlk:F.length=lk:=Rw.lenF (S:=blS) hlrw;refine wW<|ze [0,1,2,3,4,5,6,7,8,9] kr kr<|rp [.v,.l 2,.v,.l 3,.v,.l 3] H11 kr fun gs7 w12 H12=>wX [6,7,8,9] ?_;have H13:St w.heap.size w w12 [(lb,.cells lcur 56),(vb,.cells vcur 56),((gs1 0).b,snO q m cq p n c),((gs1 1).b,blO b),((gs1 2).b,snO none 0 0 none 0 0)]:=H12.as kr;refine yY H13 (some 94) 41 #[.slice q m cq,.string b.2.1,.bool b.2.2] (zeX q m cq L b.2.1 b.2.2 (by omega)) (hS.call H13.below) kr kr ?_;rintro _ _ w13 ⟨nb,nk,ncap,ncur,rfl,rfl,hnrw⟩ H14;have hnk:(zM b.2.1 b.2.2 L).length=nk:=Rw.lenF (S:=sS) hnrw;have hnl:=ze0 b.2.1 b.2.2 L;refine rp [.v,.a,.s 6] H14 kr fun gs8 w14 H15=>wX []<|zc<|wW<|zb kr<|rS [.v,.v,.v] H15 kr fun gs9 w15 H16=>?_;obtain⟨ob,hob⟩:∃z,(gs8 1).b=z:=⟨_,rfl⟩
    have H17:St w.heap.size w w15 [(nb,.cells ncur 9),(lb,.cells lcur 56),(vb,.cells vcur 56),((gs1 0).b,snO q m cq p n c),((gs1 1).b,blO b),((gs1 2).b,snO none 0 0 none 0 0),(ob,snO (Qg nb) nk ncap none 0 0)]:=H16.as (by rw[<-hob];kernel_rfl);have H18:St w.heap.size w w15 [(ob,snO (Qg nb) nk ncap none 0 0),(nb,.cells ncur 9),(lb,.cells lcur 56),((gs1 1).b,blO b),((gs1 2).b,snO none 0 0 none 0 0)]:=(H17.perm (QP (l₁:=[(ob,snO (Qg nb) nk ncap none 0 0)]) (l₂:=[(nb,.cells ncur 9),(lb,.cells lcur 56),(vb,.cells vcur 56),((gs1 0).b,snO q m cq p n c),((gs1 1).b,blO b),((gs1 2).b,snO none 0 0 none 0 0)]))).sub (.cons_cons _ (.cons_cons _ (.cons_cons _ (.cons _ (.cons _ (.refl _))))));refine zR 98 97 99 120 2 3 lk (by omega) (fun i ρ ww=> ∃(po:Qc) (no co:Nat) (To:Qb),zv blS 56 po no co To ((F.take i).filter (fun x=>b.2.2||decide (2*zg x F<=(zM b.2.1 b.2.2 L).length)))/\St w.heap.size w ww ((ob,snO (Qg nb) nk ncap po no co)::(nb,.cells ncur 9)::(lb,.cells lcur 56)::((gs1 1).b,blO b)::((gs1 2).b,snO none 0 0 none 0 0)::To)/\Is [(3,Qe (gs1 1).b),(4,Qe (gs1 2).b),(7,Qf lb lk lcap),(10,Qe ob),(96,Qf lb lk lcap),(97,iN lk),(98,iN i)] ρ) (by rintro i _ ww ⟨_,_,_,_,_,_,_,rfl⟩;exact⟨kr,kr⟩) ⟨none,0,0,[],.inl ⟨rfl,rfl,rfl,rfl,rfl⟩,H18,by rw[<-hob];exact isK⟩ ?_ ?_
    ·clear H11 H12 H13 H14 H15 H16 H17 H18;rintro i _ w16 hi ⟨po,no,co,To,hrow,H17,_,rfl⟩;obtain⟨x,hx⟩:∃x,F[i]? =some x:=⟨_,Ql (by omega)⟩
     have hat:=hlrw.rowAt (S:=blS) i x hx;have hk:=zeY hrow;have hk2:=zbs (fun x=>b.2.2||decide (2*zg x F<=(zM b.2.1 b.2.2 L).length)) F i;have hcx:=xf x F;have hc2:=up (Qg lb) lk lcap F x (by omega);refine ze [0,1,2,3] kr kr<|rp [.o (ins:=[((.tmp 96),Qf lb lk lcap),((.tmp 98),iN i)]) (v:=.pointer (some ⟨lb,0+i*3,none⟩)) (fun ρ o w ho hi2=>zo (kd:=.i64) (t:=30) (e:=56) (K:=3) (bytes:=40) kr (x:=(.tmp 96)) (y:=(.tmp 98)) lb 0 lk lcap i rfl ho hi2.1 hi2.2.1 (by omega) w),.lp 2 (C:=lcur) (off:=0+i*3) (n:=3) (W:=blC x) hat.1 hat.2] H17 kr fun gs10 w17 H18=>wX [2,3] ?_;have H18':St w.heap.size w w17 ((ob,snO (Qg nb) nk ncap po no co)::(nb,.cells ncur 9)::(lb,.cells lcur 56)::((gs1 1).b,blO b)::((gs1 2).b,snO none 0 0 none 0 0)::To):=H18.as kr;refine zY H18' (some 12) 56 (.agg #[.string em,.string em,.bool false]) kr kr kr ?_;intro xb w18 H19;refine rp [.s 0] H19 kr fun gs10 w19 H19=>wX []<|zc<|wW ?_;have H19':St w.heap.size w w19 ((xb,blO x)::(ob,snO (Qg nb) nk ncap po no co)::(nb,.cells ncur 9)::(lb,.cells lcur 56)::((gs1 1).b,blO b)::((gs1 2).b,snO none 0 0 none 0 0)::To):=H19.as kr;by_cases hb2:b.2.2=true
     ·refine dS [.v,.l 4,.E (.bool b.2.2) (.bool true) (za hb2),.n,.n,.n,.n,.n,.n,.n,.n,.v] H19' kr fun w20 H20=>zh<|ql [0,1,2,3,4,5,6] kr<|rp [.v,.l 1,.l 0] H20 kr fun gs11 w21 H21=>wX [3,4,5,6] ?_;have H22:St w.heap.size w w21 ((xb,blO x)::(ob,snO (Qg nb) nk ncap po no co)::(nb,.cells ncur 9)::(lb,.cells lcur 56)::((gs1 1).b,blO b)::((gs1 2).b,snO none 0 0 none 0 0)::To):=H21.as kr;refine yG H22 (some 117) (fun b=>Qf b 1 1) (blS.cs x).toArray 56 kr kr ?_;intro bn w22 H23;refine qF (S:=blS) (some 118) 30 56 40 (.tmp 115) (.tmp 117) (H23.perm (UQ _ (QP (l₁:=To) (l₂:=[(xb,blO x),(ob,snO (Qg nb) nk ncap po no co),(nb,.cells ncur 9),(lb,.cells lcur 56),((gs1 1).b,blO b),((gs1 2).b,snO none 0 0 none 0 0)])))) hrow kr kr kr kr kr (by omega) (by unfold maxLen;omega) ?_;intro b' cap' cur' w23 H24 hr';refine rp [.v,.s 2] H24 kr fun gs12 w24 H25=>wX []<|zc ?_;have H26:St w.heap.size w w24 [(b',.cells cur' 56),(xb,blO x),(ob,snO (Qg nb) nk ncap (Qg b') (no+1) cap'),(nb,.cells ncur 9),(lb,.cells lcur 56),((gs1 1).b,blO b),((gs1 2).b,snO none 0 0 none 0 0)]:=H25.as kr;exact⟨kr,Qg b',no+1,cap',[(b',.cells cur' 56)],.inr ⟨b',cur',rfl,rfl,by rw[jG hx,if_pos (by show (b.2.2||_)=true;rw[hb2];rfl)];exact hr'⟩,(H26.perm (QP (l₁:=[(xb,blO x),(ob,snO (Qg nb) nk ncap (Qg b') (no+1) cap'),(nb,.cells ncur 9),(lb,.cells lcur 56),((gs1 1).b,blO b),((gs1 2).b,snO none 0 0 none 0 0)]) (l₂:=[(b',.cells cur' 56)]))).sub (QE _ _),isK⟩
     ·replace hb2:=QI.2 hb2
      by_cases h3:2*zg x F<=nk
      ·refine dS [.v,.l 4,.E (.bool b.2.2) (.bool false) (za hb2),.v,.l 0,.cp (pre:=fun w=>AtF blS w (Qg lb) lk F) hc2 [(3,((lb,.cells lcur 56)))] (fun w hb hd=>jF (S:=blS) hlrw hd.1),.E (.int .i64 (Qn.wrap (2*(((zg x F):Nat):Int)))) (iN (2*zg x F)) (zd (yB (a:=2) (b:=zg x F) (by omega))),.v,.l 1,.v,.E (.bool (decide (((2*zg x F:Nat):Int)<=(nk:Int)))) (.bool true) (za (decide_eq_true (by omega))),.v] H19' kr fun w20 H20=>zh<|ql [0,1,2,3,4,5,6] kr<|rp [.v,.l 1,.l 0] H20 kr fun gs11 w21 H21=>wX [3,4,5,6] ?_;have H22:St w.heap.size w w21 ((xb,blO x)::(ob,snO (Qg nb) nk ncap po no co)::(nb,.cells ncur 9)::(lb,.cells lcur 56)::((gs1 1).b,blO b)::((gs1 2).b,snO none 0 0 none 0 0)::To):=H21.as kr;refine yG H22 (some 117) (fun b=>Qf b 1 1) (blS.cs x).toArray 56 kr kr ?_;intro bn w22 H23;refine qF (S:=blS) (some 118) 30 56 40 (.tmp 115) (.tmp 117) (H23.perm (UQ _ (QP (l₁:=To) (l₂:=[(xb,blO x),(ob,snO (Qg nb) nk ncap po no co),(nb,.cells ncur 9),(lb,.cells lcur 56),((gs1 1).b,blO b),((gs1 2).b,snO none 0 0 none 0 0)])))) hrow kr kr kr kr kr (by omega) (by unfold maxLen;omega) ?_;intro b' cap' cur' w23 H24 hr';refine rp [.v,.s 2] H24 kr fun gs12 w24 H25=>wX []<|zc ?_;have H26:St w.heap.size w w24 [(b',.cells cur' 56),(xb,blO x),(ob,snO (Qg nb) nk ncap (Qg b') (no+1) cap'),(nb,.cells ncur 9),(lb,.cells lcur 56),((gs1 1).b,blO b),((gs1 2).b,snO none 0 0 none 0 0)]:=H25.as kr;exact⟨kr,Qg b',no+1,cap',[(b',.cells cur' 56)],.inr ⟨b',cur',rfl,rfl,by rw[jG hx,if_pos (by show (b.2.2||decide _)=true;rw[decide_eq_true (show 2*zg x F<=(zM b.2.1 b.2.2 L).length by omega),hb2];rfl)];exact hr'⟩,(H26.perm (QP (l₁:=[(xb,blO x),(ob,snO (Qg nb) nk ncap (Qg b') (no+1) cap'),(nb,.cells ncur 9),(lb,.cells lcur 56),((gs1 1).b,blO b),((gs1 2).b,snO none 0 0 none 0 0)]) (l₂:=[(b',.cells cur' 56)]))).sub (QE _ _),isK⟩
      ·refine dS [.v,.l 4,.E (.bool b.2.2) (.bool false) (za hb2),.v,.l 0,.cp (pre:=fun w=>AtF blS w (Qg lb) lk F) hc2 [(3,((lb,.cells lcur 56)))] (fun w hb hd=>jF (S:=blS) hlrw hd.1),.E (.int .i64 (Qn.wrap (2*(((zg x F):Nat):Int)))) (iN (2*zg x F)) (zd (yB (a:=2) (b:=zg x F) (by omega))),.v,.l 1,.v,.E (.bool (decide (((2*zg x F:Nat):Int)<=(nk:Int)))) (.bool false) (za (decide_eq_false (by omega))),.v] H19' kr fun w20 H20=>zl ?_;exact⟨kr,po,no,co,To,by rw[jG hx,if_neg (by show ¬(b.2.2||decide _)=true;rw[decide_eq_false (show ¬2*zg x F<=(zM b.2.1 b.2.2 L).length by omega),hb2];exact QR),Ru];exact hrow,(H20.as (l:=(xb,blO x)::(ob,snO (Qg nb) nk ncap po no co)::(nb,.cells ncur 9)::(lb,.cells lcur 56)::((gs1 1).b,blO b)::((gs1 2).b,snO none 0 0 none 0 0)::To) kr).sub (QE _ _),isK⟩
    ·clear H11 H12 H13 H14 H15 H16 H17 H18;rintro _ w16 ⟨po,no,co,To,hrow,H17,_,rfl⟩;rw[Qp (by omega)]at hrow;refine wW<|rS [.l 0,.s 4,.v] H17 kr fun gs10 w17 H18=>rRr [.cell 4 32,.tmp 5] [4] (.tuple #[snV (Qg nb) nk ncap po no co,.int .i64 0]) (zJ w.heap.size w (zq q m cq L p n c V (zC L V b))) H18 kr ?_;rw[hX];exact⟨_,⟨_,nk,ncap,po,no,co,[(nb,.cells ncur 9)],To,rfl,rfl,.inr (.inr ⟨nb,ncur,rfl,rfl,hnrw⟩),.inr hrow⟩,(H18.as (l:=(ob,snO (Qg nb) nk ncap po no co)::(nb,.cells ncur 9)::(lb,.cells lcur 56)::((gs1 1).b,blO b)::((gs1 2).b,snO (Qg nb) nk ncap po no co)::To) kr).sub (.cons _ (.cons_cons _ (.cons _ (.cons _ (.cons _ (.refl _))))))⟩
 refine zb kr ?_;cases hr:zz L V with
 | false=>
  rw[hr]at hright;refine rS [.l 0,.cp (pre:=fun w=>zG w L V q m p n) hright [] (fun w hb hd=>⟨hS.call hb,hVV.call hb⟩),.v] H1 kr fun gs2 w2 H2=>zh<|rS [.v,.s 2,.v] H2 kr fun gs3 w3 H3=>rRr [.cell 4 32,.tmp 5] [2] (.tuple #[snV none 0 0 none 0 0,.int .i64 1]) (zJ w.heap.size w (zq q m cq L p n c V (zC L V b))) H3 kr ?_;rw[show zC L V b=([],[],1) by unfold zC;rw[if_pos hr]];exact⟨_,zq.no (e:=1),H3.sub (QH _)⟩
 | true=>
  rw[hr]at hright;refine rS [.l 0,.cp (pre:=fun w=>zG w L V q m p n) hright [] (fun w hb hd=>⟨hS.call hb,hVV.call hb⟩),.v] H1 kr fun gs2 w2 H2=>zl<|wW<|zb kr ?_;cases ef:zQ L b with
  | false=>
   rw[ef]at hf;refine rS [.v,.l 0,.l 1,.cp (pre:=fun w=>AtF sS w q m L) hf [] (fun w hb hd=>hS.call hb),.v,.v,.n,.n,.n,.n,.n,.n,.n,.n,.v,.v,.n,.n,.n,.n,.n,.n,.n,.n,.n,.v] H2 kr fun gs3 w3 H3=>zh<|rS [.v,.s 2,.v] H3 kr fun gs4 w4 H4=>rRr [.cell 4 32,.tmp 5] [2] (.tuple #[snV none 0 0 none 0 0,.int .i64 44]) (zJ w.heap.size w (zq q m cq L p n c V (zC L V b))) H4 kr ?_;rw[show zC L V b=([],[],44) by unfold zC;rw[if_neg (by rw[hr];decide),if_pos (.inl ef)]];exact⟨_,zq.no (e:=44),H4.sub (QH _)⟩
  | true=>
   rw[ef]at hf;have efn: ¬zQ L b=false:=by rw[ef];decide
   by_cases hb2:b.2.2=true
   ·have hb3: ¬b.2.2=false:=by rw[hb2];decide
    by_cases h16:16<=L.length
    ·refine rS [.v,.l 0,.l 1,.cp (pre:=fun w=>AtF sS w q m L) hf [] (fun w hb hd=>hS.call hb),.v,.v,.v,.l 1,.E (.bool b.2.2) (.bool true) (za hb2),.v,.l 0,.v,.E (.bool (decide ((m:Int)≥16))) (.bool true) (za (decide_eq_true (by omega))),.v,.v,.v,.n,.n,.n,.n,.n,.n,.n,.n,.n,.v] H2 kr fun gs3 w3 H3=>zh<|rS [.v,.s 2,.v] H3 kr fun gs4 w4 H4=>rRr [.cell 4 32,.tmp 5] [2] (.tuple #[snV none 0 0 none 0 0,.int .i64 44]) (zJ w.heap.size w (zq q m cq L p n c V (zC L V b))) H4 kr ?_;rw[show zC L V b=([],[],44) by unfold zC;rw[if_neg (by rw[hr];decide),if_pos (.inr (.inl ⟨hb2,h16⟩))]];exact⟨_,zq.no (e:=44),H4.sub (QH _)⟩
    ·refine rS [.v,.l 0,.l 1,.cp (pre:=fun w=>AtF sS w q m L) hf [] (fun w hb hd=>hS.call hb),.v,.v,.v,.l 1,.E (.bool b.2.2) (.bool true) (za hb2),.v,.l 0,.v,.E (.bool (decide ((m:Int)≥16))) (.bool false) (za (decide_eq_false (by omega))),.v,.v,.v,.v,.l 1,.E (.bool (!b.2.2)) (.bool false) (za (by rw[hb2];rfl)),.v,.n,.n,.n,.n,.v,.v] H2 kr fun gs3 w3 H3=>zl ?_;exact go _ _ (by unfold zC;rw[if_neg (by rw[hr];decide),if_neg (fun h=>h.elim efn fun h=>h.elim (fun h=>h16 h.2) fun h=>hb3 h.1)];rfl) (H3.as kr) isK
   ·replace hb3:=hb2
    replace hb2:=QI.2 hb2
    by_cases h1:L.length=1
    ·refine rS [.v,.l 0,.l 1,.cp (pre:=fun w=>AtF sS w q m L) hf [] (fun w hb hd=>hS.call hb),.v,.v,.v,.l 1,.E (.bool b.2.2) (.bool false) (za hb2),.n,.n,.n,.n,.v,.v,.v,.v,.l 1,.E (.bool (!b.2.2)) (.bool true) (za (by rw[hb2];rfl)),.v,.v,.l 0,.v,.E (.bool ((m:Int)==1)) (.bool true) (za (beq_iff_eq.2 (by omega))),.v,.v] H2 kr fun gs3 w3 H3=>zh<|rS [.v,.s 2,.v] H3 kr fun gs4 w4 H4=>rRr [.cell 4 32,.tmp 5] [2] (.tuple #[snV none 0 0 none 0 0,.int .i64 44]) (zJ w.heap.size w (zq q m cq L p n c V (zC L V b))) H4 kr ?_;rw[show zC L V b=([],[],44) by unfold zC;rw[if_neg (by rw[hr];decide),if_pos (.inr (.inr ⟨hb2,h1⟩))]];exact⟨_,zq.no (e:=44),H4.sub (QH _)⟩
    ·refine rS [.v,.l 0,.l 1,.cp (pre:=fun w=>AtF sS w q m L) hf [] (fun w hb hd=>hS.call hb),.v,.v,.v,.l 1,.E (.bool b.2.2) (.bool false) (za hb2),.n,.n,.n,.n,.v,.v,.v,.v,.l 1,.E (.bool (!b.2.2)) (.bool true) (za (by rw[hb2];rfl)),.v,.v,.l 0,.v,.E (.bool ((m:Int)==1)) (.bool false) (za (beq_eq_false_iff_ne.2 (by omega))),.v,.v] H2 kr fun gs3 w3 H3=>zl ?_;exact go _ _ (by unfold zC;rw[if_neg (by rw[hr];decide),if_neg (fun h=>h.elim efn fun h=>h.elim (fun h=>hb3 h.1) fun h=>h1 h.2)];rfl) (H3.as kr) isK
theorem zbu (x y:Bal)(w:World):(UR 10000 56 (blV x) (blV y)).run Try.prog w=.ok (decide (x=y)) w:=by
 rw[run_equalIn_struct w 9999 56 _ _ kr kr,
  show (Try.prog.fieldsOf 56).toList= [{ name:= "Voter",type:=9,offset:=0,embedded:=false,tag:= "",pkgPath:= "",byteOffset:=0 },{ name:= "Who",type:=9,offset:=1,embedded:=false,tag:= "",pkgPath:= "",byteOffset:=16 },{ name:= "Add",type:=4,offset:=2,embedded:=false,tag:= "",pkgPath:= "",byteOffset:=32 }] by kernel_rfl]
 have px: ∀x:Bal,(part 9 (blC x) 0).run Try.prog w=.ok (.string x.1) w:=fun x=>by kernel_rfl
 have py: ∀x:Bal,(part 9 (blC x) 1).run Try.prog w=.ok (.string x.2.1) w:=fun x=>by kernel_rfl
 have pb: ∀x:Bal,(part 4 (blC x) 2).run Try.prog w=.ok (.bool x.2.2) w:=fun x=>by kernel_rfl
 have ex: ∀a b:Qa,(UR 9999 9 (.string a) (.string b)).run Try.prog w=.ok (decide (a=b)) w:=fun a b=>by
  rw[run_equalIn_string w 9998 9 a b Try.underlying9];by_cases e:a=b
  ·rw[ya _ _ e,decide_eq_true e]
  ·rw[zT _ _ e,decide_eq_false e]
 have eb:(UR 9999 4 (.bool x.2.2) (.bool y.2.2)).run Try.prog w=.ok (x.2.2==y.2.2) w:=by
  rw[run_equalIn_bool' w 9998 4 x.2.2 y.2.2 Try.underlying4]
 have n1:("Voter" :String)≠ "_" :=by decide
 have n2:("Who" :String)≠ "_" :=by decide
 have n3:("Add" :String)≠ "_" :=by decide
 simp only[Op.eqFields,if_pos n1,if_pos n2,if_pos n3,Sem.run_bind,px,py,pb,Result.andThen_ok,ex,eb,Sem.run_ite];obtain⟨a,b,c⟩:=x;obtain⟨a',b',c'⟩:=y;by_cases h1:a=a'
 ·by_cases h2:b=b'
  ·cases c<;>cases c'<;>simp[h1,h2]
  ·simp[h1,h2]
 ·simp[h1]
theorem ze2 {ρ:Env}(x y:Bal){s t:Operand}{o:Oper}(w:World)(ho:o.op=.binOp .neq 56 s t 56)(hx:ev ρ s=blV x)(hy:ev ρ t=blV y):
 (execOp (ev ρ) o).run Try.prog w=.ok (.value (.bool (!decide (x=y)))) w:=by
 have h:=zbu x y w;change ev ρ s=.agg (blC x)at hx;change ev ρ t=.agg (blC y)at hy;change (UR 10000 56 (.agg (blC x)) (.agg (blC y))).run Try.prog w=_ at h;generalize blC x=X at h hx;generalize blC y=Y at h hy;unfold execOp;simp only[ho,hx,hy,resolve,Sem.run_bind,Sem.run_pure,Result.andThen_ok,run_eqGuard_agg w _ _ _ _ _ _ (show Try.prog.eqGuardType Try.prog.depth 56=false by kernel_rfl),run_eql_struct,run_neq_struct,h]
theorem ze3 (p:Qc)(n c:Nat)(A:Qi)(p':Qc)(n' c':Nat)(B:Qi)(b:Bool)(hb:b=true↔A=B)(hA:A.length<=1000000):FnP Try.prog 26 #[.slice p n c,.slice p' n' c'] (fun w=>AtF sS w p n A/\AtF sS w p' n' B) (.bool b):=by
 have no:A≠B->b=false:=fun hne=>QI.2 fun e=>hne (hb.1 e);refine FnP.intro (c:=zk Try.f26) [.tmp 4] 26 Try.func26 kr kr kr fun w hP=>?_;obtain⟨hP,hP'⟩:=hP;have hn:=hP.1;have hn':=hP'.1;refine rS [.v] (St.start w) kr fun gs1 w1 H1=>zb kr ?_;by_cases en:n=n'
 case neg=>
  refine rS [.v,.v,.v,.v,.E (.bool ((n:Int)!=(n':Int))) (.bool true) (za (bne_iff_ne.2 (by omega)))] H1 kr fun gs3 w3 H3=>zh<|rS [.v] H3 kr fun gs8 w8 H8=>?_;exact rRe [.tmp 4] [] (v:=.bool false) (v':=.bool b) H8 (za (no fun e=>en (by rw[hn,hn',e])).symm) kr
 subst en;refine rS [.v,.v,.v,.v,.E (.bool ((n:Int)!=(n:Int))) (.bool false) (za (bne_self_eq_false' _))] H1 kr fun gs3 w3 H3=>zl<|wW<|zb kr<|rS [.v,.v,.v] H3 kr fun gs4 w4 H4=>zR 13 12 14 25 0 1 n (by omega) (fun i ρ ww=>A.take i=B.take i/\St w.heap.size w ww []/\Is [(0,.slice p n c),(1,.slice p' n c'),(12,iN n),(13,iN i)] ρ) (by rintro i _ ww ⟨_,_,_,rfl⟩;exact⟨kr,kr⟩) ⟨rfl,H4.as kr,isK⟩ ?_ ?_
 ·clear H4;rintro i _ w5 hi ⟨htk,H5,_,rfl⟩;obtain⟨x,hx⟩:∃x,A[i]? =some x:=⟨_,Ql (by omega)⟩
  obtain⟨y,hy⟩:∃y,B[i]? =some y:=⟨_,Ql (by omega)⟩
  obtain⟨bl,off,C,T,fz,hp,hh,hR⟩:=hP.row2 (by omega);obtain⟨bl2,off2,C2,T2,fz2,hp2,hh2,hR2⟩:=hP'.row2 (by omega);have cx:C[off+i*1]? =some (.string x):=hR.cell hx 0 (by decide);have cy:C2[off2+i*1]? =some (.string y):=hR2.cell hy 0 (by decide);refine rS [.v,.v] H5 kr fun gs5 w6 H6=>?_;by_cases exy:x=y
  ·refine dS [.v,.v,.o (ins:=[((.tmp 16),.slice p n c),((.tmp 17),iN i)]) (v:=.pointer (some ⟨bl,off+i*1,none⟩)) (fun ρ o w ho hi2=>zo (kd:=.i64) (t:=22) (e:=9) (K:=1) (bytes:=16) kr (x:=(.tmp 16)) (y:=(.tmp 17)) bl off n c i hp ho hi2.1 hi2.2.1 (by omega) w),.fs (off:=off+i*1) (v:=.string x) hh (zf hh) cx,.v,.v,.o (ins:=[((.tmp 20),.slice p' n c'),((.tmp 21),iN i)]) (v:=.pointer (some ⟨bl2,off2+i*1,none⟩)) (fun ρ o w ho hi2=>zo (kd:=.i64) (t:=22) (e:=9) (K:=1) (bytes:=16) kr (x:=(.tmp 20)) (y:=(.tmp 21)) bl2 off2 n c' i hp2 ho hi2.1 hi2.2.1 (by omega) w),.fs (off:=off2+i*1) (v:=.string y) hh2 (zf hh2) cy,.E (.bool (!(x.toList==y.toList))) (.bool false) (za (by rw[ya _ _ exy];rfl))] H6 kr fun w7 H7=>zl ?_;exact⟨kr,by rw[zU hx,zU hy,htk,exy],H7.as kr,isK⟩
  ·refine dS [.v,.v,.o (ins:=[((.tmp 16),.slice p n c),((.tmp 17),iN i)]) (v:=.pointer (some ⟨bl,off+i*1,none⟩)) (fun ρ o w ho hi2=>zo (kd:=.i64) (t:=22) (e:=9) (K:=1) (bytes:=16) kr (x:=(.tmp 16)) (y:=(.tmp 17)) bl off n c i hp ho hi2.1 hi2.2.1 (by omega) w),.fs (off:=off+i*1) (v:=.string x) hh (zf hh) cx,.v,.v,.o (ins:=[((.tmp 20),.slice p' n c'),((.tmp 21),iN i)]) (v:=.pointer (some ⟨bl2,off2+i*1,none⟩)) (fun ρ o w ho hi2=>zo (kd:=.i64) (t:=22) (e:=9) (K:=1) (bytes:=16) kr (x:=(.tmp 20)) (y:=(.tmp 21)) bl2 off2 n c' i hp2 ho hi2.1 hi2.2.1 (by omega) w),.fs (off:=off2+i*1) (v:=.string y) hh2 (zf hh2) cy,.E (.bool (!(x.toList==y.toList))) (.bool true) (za (by rw[zT _ _ exy];rfl))] H6 kr fun w7 H7=>zh<|rS [.v] H7 kr fun gs8 w8 H8=>?_;exact rRe [.tmp 4] [] (v:=.bool false) (v':=.bool b) H8 (za (no fun e=>exy (by subst e;rw[hx]at hy;exact Q6.inj hy)).symm) kr
 ·clear H4;rintro _ w5 ⟨htk,H5,_,rfl⟩;rw[Qp (by omega),Qp (by omega)]at htk;refine wW<|rS [.v] H5 kr fun gs8 w8 H8=>?_;exact rRe [.tmp 4] [] (v:=.bool true) (v':=.bool b) H8 (za (hb.2 htk).symm) kr
theorem zbv (q:Qc)(m cq:Nat)(L:Qi)(p:Qc)(n c:Nat)(V:List Bal)(q':Qc)(m' cq':Nat)(L':Qi)(p':Qc)(n' c':Nat)(V':List Bal)(b:Bool)(hb:b=true↔L=L'/\V=V')(hL:L.length<=1000000)(hV:V.length<=1000000):
 FnP Try.prog 17 #[snV q m cq p n c,snV q' m' cq' p' n' c'] (fun w=>zG w L V q m p n/\zG w L' V' q' m' p' n') (.bool b):=by
 have no: ¬(L=L'/\V=V')->b=false:=fun hne=>QI.2 fun e=>hne (hb.1 e);refine FnP.intro (c:=zk Try.f17) [.tmp 4] 59 Try.func17 kr kr kr fun w hP=>?_;obtain⟨⟨hS,hV⟩,hS',hV'⟩:=hP;have hm:=hS.1;have hn:=hV.1;have hm':=hS'.1;have hn':=hV'.1;refine rS [.b,.b,.v] (St.start w) kr fun gs1 w1 H1=>zb kr ?_;by_cases em_:m=m'
 case neg=>
  refine rS [.v,.l 0,.v,.v,.l 1,.v,.E (.bool ((m:Int)!=(m':Int))) (.bool true) (za (bne_iff_ne.2 (by omega))),.v,.n,.n,.n,.n,.n,.n,.n,.v] H1 kr fun gs3 w3 H3=>zh<|rS [.v] H3 kr fun gs8 w8 H8=>?_;exact rRe [.tmp 4] [] (v:=.bool false) (v':=.bool b) H8 (za (no fun e=>em_ (by rw[hm,hm',e.1])).symm) kr
 by_cases en:n=n'
 case neg=>
  subst em_;refine rS [.v,.l 0,.v,.v,.l 1,.v,.E (.bool ((m:Int)!=(m:Int))) (.bool false) (za (bne_self_eq_false' _)),.v,.v,.l 0,.v,.v,.l 1,.v,.E (.bool ((n:Int)!=(n':Int))) (.bool true) (za (bne_iff_ne.2 (by omega))),.v] H1 kr fun gs3 w3 H3=>zh<|rS [.v] H3 kr fun gs8 w8 H8=>?_;exact rRe [.tmp 4] [] (v:=.bool false) (v':=.bool b) H8 (za (no fun e=>en (by rw[hn,hn',e.2])).symm) kr
 subst en em_;refine rS [.v,.l 0,.v,.v,.l 1,.v,.E (.bool ((m:Int)!=(m:Int))) (.bool false) (za (bne_self_eq_false' _)),.v,.v,.l 0,.v,.v,.l 1,.v,.E (.bool ((n:Int)!=(n:Int))) (.bool false) (za (bne_self_eq_false' _)),.v] H1 kr fun gs3 w3 H3=>zl<|wW<|zb kr<|rS [.v,.l 0,.v,.v] H3 kr fun gs4 w4 H4=>zR 26 25 27 40 0 1 m (by omega) (fun i ρ ww=>L.take i=L'.take i/\St w.heap.size w ww [((gs1 0).b,snO q m cq p n c),((gs1 1).b,snO q' m cq' p' n c')]/\Is [(2,Qe (gs1 0).b),(3,Qe (gs1 1).b),(25,iN m),(26,iN i)] ρ) (by rintro i _ ww ⟨_,_,_,rfl⟩;exact⟨kr,kr⟩) ⟨rfl,H4.as kr,isK⟩ ?_ ?_
 ·clear H4;rintro i _ w5 hi ⟨htk,H5,_,rfl⟩;obtain⟨x,hx⟩:∃x,L[i]? =some x:=⟨_,Ql (by omega)⟩
  obtain⟨y,hy⟩:∃y,L'[i]? =some y:=⟨_,Ql (by omega)⟩
  obtain⟨bl,off,C,T,fz,hp,hh,hR⟩:=hS.row2 (by omega);obtain⟨bl2,off2,C2,T2,fz2,hp2,hh2,hR2⟩:=hS'.row2 (by omega);have cx:C[off+i*1]? =some (.string x):=hR.cell hx 0 (by decide);have cy:C2[off2+i*1]? =some (.string y):=hR2.cell hy 0 (by decide);refine rS [.v,.v] H5 kr fun gs5 w6 H6=>?_;by_cases exy:x=y
  ·refine dS [.v,.l 0,.v,.o (ins:=[((.tmp 30),.slice q m cq),((.tmp 31),iN i)]) (v:=.pointer (some ⟨bl,off+i*1,none⟩)) (fun ρ o w ho hi2=>zo (kd:=.i64) (t:=22) (e:=9) (K:=1) (bytes:=16) kr (x:=(.tmp 30)) (y:=(.tmp 31)) bl off m cq i hp ho hi2.1 hi2.2.1 (by omega) w),.fs (off:=off+i*1) (v:=.string x) hh (zf hh) cx,.v,.l 1,.v,.o (ins:=[((.tmp 35),.slice q' m cq'),((.tmp 36),iN i)]) (v:=.pointer (some ⟨bl2,off2+i*1,none⟩)) (fun ρ o w ho hi2=>zo (kd:=.i64) (t:=22) (e:=9) (K:=1) (bytes:=16) kr (x:=(.tmp 35)) (y:=(.tmp 36)) bl2 off2 m cq' i hp2 ho hi2.1 hi2.2.1 (by omega) w),.fs (off:=off2+i*1) (v:=.string y) hh2 (zf hh2) cy,.E (.bool (!(x.toList==y.toList))) (.bool false) (za (by rw[ya _ _ exy];rfl))] H6 kr fun w7 H7=>zl ?_;exact⟨kr,by rw[zU hx,zU hy,htk,exy],H7.as kr,isK⟩
  ·refine dS [.v,.l 0,.v,.o (ins:=[((.tmp 30),.slice q m cq),((.tmp 31),iN i)]) (v:=.pointer (some ⟨bl,off+i*1,none⟩)) (fun ρ o w ho hi2=>zo (kd:=.i64) (t:=22) (e:=9) (K:=1) (bytes:=16) kr (x:=(.tmp 30)) (y:=(.tmp 31)) bl off m cq i hp ho hi2.1 hi2.2.1 (by omega) w),.fs (off:=off+i*1) (v:=.string x) hh (zf hh) cx,.v,.l 1,.v,.o (ins:=[((.tmp 35),.slice q' m cq'),((.tmp 36),iN i)]) (v:=.pointer (some ⟨bl2,off2+i*1,none⟩)) (fun ρ o w ho hi2=>zo (kd:=.i64) (t:=22) (e:=9) (K:=1) (bytes:=16) kr (x:=(.tmp 35)) (y:=(.tmp 36)) bl2 off2 m cq' i hp2 ho hi2.1 hi2.2.1 (by omega) w),.fs (off:=off2+i*1) (v:=.string y) hh2 (zf hh2) cy,.E (.bool (!(x.toList==y.toList))) (.bool true) (za (by rw[zT _ _ exy];rfl))] H6 kr fun w7 H7=>zh<|rS [.v] H7 kr fun gs8 w8 H8=>?_;exact rRe [.tmp 4] [] (v:=.bool false) (v':=.bool b) H8 (za (no fun e=>exy (by rw[e.1,hy]at hx;exact(Q6.inj hx).symm)).symm) kr
 ·clear H4;rintro _ w5 ⟨htk,H5,_,rfl⟩;rw[Qp (by omega),Qp (by omega)]at htk;refine wW<|zb kr<|rS [.v,.l 0,.v,.v] H5 kr fun gs5 w6 H6=>zR 44 43 45 58 2 3 n (by omega) (fun i ρ ww=>V.take i=V'.take i/\St w.heap.size w ww [((gs1 0).b,snO q m cq p n c),((gs1 1).b,snO q' m cq' p' n c')]/\Is [(2,Qe (gs1 0).b),(3,Qe (gs1 1).b),(43,iN n),(44,iN i)] ρ) (by rintro i _ ww ⟨_,_,_,rfl⟩;exact⟨kr,kr⟩) ⟨rfl,H6.as kr,isK⟩ ?_ ?_
  ·clear H5 H6;rintro i _ w5 hi ⟨htk2,H5,_,rfl⟩;obtain⟨x,hx⟩:∃x,V[i]? =some x:=⟨_,Ql (by omega)⟩
   obtain⟨y,hy⟩:∃y,V'[i]? =some y:=⟨_,Ql (by omega)⟩
   obtain⟨bl,off,C,T,fz,hp,hh,hR⟩:=hV.row2 (by omega);obtain⟨bl2,off2,C2,T2,fz2,hp2,hh2,hR2⟩:=hV'.row2 (by omega);refine rS [.v,.v] H5 kr fun gs5 w6 H6=>?_;have hit:=fun (v:Bool) (hv:(!decide (x=y))=v) (ρ:Env) (o:Oper) (w:World) (ho:o.op=.binOp .neq 56 (.tmp 51) (.tmp 56) 56) (hi:Ins (ev ρ) [((.tmp 51),blV x),((.tmp 56),blV y)])=>(ze2 x y w ho hi.1 hi.2.1).trans (by rw[hv]);by_cases exy:x=y
   ·refine dS [.v,.l 0,.v,.o (ins:=[((.tmp 48),.slice p n c),((.tmp 49),iN i)]) (v:=.pointer (some ⟨bl,off+i*3,none⟩)) (fun ρ o w ho hi2=>zo (kd:=.i64) (t:=30) (e:=56) (K:=3) (bytes:=40) kr (x:=(.tmp 48)) (y:=(.tmp 49)) bl off n c i hp ho hi2.1 hi2.2.1 (by omega) w),.fp (off:=off+i*3) (n:=3) (W:=blC x) hh (zf hh) (hR _ _ hx).1 (hR _ _ hx).2,.v,.l 1,.v,.o (ins:=[((.tmp 53),.slice p' n c'),((.tmp 54),iN i)]) (v:=.pointer (some ⟨bl2,off2+i*3,none⟩)) (fun ρ o w ho hi2=>zo (kd:=.i64) (t:=30) (e:=56) (K:=3) (bytes:=40) kr (x:=(.tmp 53)) (y:=(.tmp 54)) bl2 off2 n c' i hp2 ho hi2.1 hi2.2.1 (by omega) w),.fp (off:=off2+i*3) (n:=3) (W:=blC y) hh2 (zf hh2) (hR2 _ _ hy).1 (hR2 _ _ hy).2,.o (hit false (by rw[decide_eq_true exy];rfl))] H6 kr fun w7 H7=>zl ?_;exact⟨kr,by rw[zU hx,zU hy,htk2,exy],H7.as kr,isK⟩
   ·refine dS [.v,.l 0,.v,.o (ins:=[((.tmp 48),.slice p n c),((.tmp 49),iN i)]) (v:=.pointer (some ⟨bl,off+i*3,none⟩)) (fun ρ o w ho hi2=>zo (kd:=.i64) (t:=30) (e:=56) (K:=3) (bytes:=40) kr (x:=(.tmp 48)) (y:=(.tmp 49)) bl off n c i hp ho hi2.1 hi2.2.1 (by omega) w),.fp (off:=off+i*3) (n:=3) (W:=blC x) hh (zf hh) (hR _ _ hx).1 (hR _ _ hx).2,.v,.l 1,.v,.o (ins:=[((.tmp 53),.slice p' n c'),((.tmp 54),iN i)]) (v:=.pointer (some ⟨bl2,off2+i*3,none⟩)) (fun ρ o w ho hi2=>zo (kd:=.i64) (t:=30) (e:=56) (K:=3) (bytes:=40) kr (x:=(.tmp 53)) (y:=(.tmp 54)) bl2 off2 n c' i hp2 ho hi2.1 hi2.2.1 (by omega) w),.fp (off:=off2+i*3) (n:=3) (W:=blC y) hh2 (zf hh2) (hR2 _ _ hy).1 (hR2 _ _ hy).2,.o (hit true (by rw[decide_eq_false exy];rfl))] H6 kr fun w7 H7=>zh<|rS [.v] H7 kr fun gs8 w8 H8=>?_;exact rRe [.tmp 4] [] (v:=.bool false) (v':=.bool b) H8 (za (no fun e=>exy (by rw[e.2,hy]at hx;exact(Q6.inj hx).symm)).symm) kr
  ·rintro _ w7 ⟨htk2,H7,_,rfl⟩;rw[Qp (by omega),Qp (by omega)]at htk2;refine wW<|rS [.v] H7 kr fun gs8 w8 H8=>?_;exact rRe [.tmp 4] [] (v:=.bool true) (v':=.bool b) H8 (za (hb.2 ⟨htk,htk2⟩).symm) kr
theorem zq.via {q0:Qc}{m0 cq0:Nat}{L0:Qi}{p0:Qc}{n0 c0:Nat}{V0:List Bal}{p1:Qc}{n1 c1:Nat}{V1:List Bal}{r:Qi×List Bal×Nat}{v:Value}{T:Qb}(h1:yk blS 56 p0 n0 c0 V0 p1 n1 c1 [] V1)(h:zq q0 m0 cq0 L0 p1 n1 c1 V1 r v T):zq q0 m0 cq0 L0 p0 n0 c0 V0 r v T:=by
 obtain⟨q,m,cq,p,n,c,T1,T2,hv,hT,ha,hb⟩:=h;refine⟨q,m,cq,p,n,c,T1,T2,hv,hT,ha,?_⟩;rcases hb with⟨rfl,rfl,rfl,rfl,hb⟩|hb
 ·rw[hb];exact h1
 ·exact .inr hb
def yg (V:List Bal)(h:Hdr)(ep:Nat):List Bal:=if h.hh%ep=0 then [] else V
def zs (L:Qi)(V:List Bal)(h:Hdr)(ep:Nat):Qi×List Bal×Nat:=
 if zz L V=false\/yn h=false\/ep=0 then ([],[],1)
 else if h.vs≠L then ([],[],43)
 else if zF h.pr L=false then ([],[],42)
 else if h.vo=em then (L,yg V h ep,0)
 else zC L (yg V h ep) (h.pr,h.vo,h.ad)
theorem zbw (q:Qc)(m cq:Nat)(L:Qi)(p:Qc)(n c:Nat)(V:List Bal)(h:Hdr)(o:qI h)(p':Qc)(n' c':Nat)(q':Qc)(m' cq':Nat)(ep:Nat)(hL:L.length<=100000)(hV:V.length<=100000):
 FnT Try.prog 14 #[snV q m cq p n c,hdV h p' n' c' q' m' cq',.int .u64 (ep:Int)] (fun w=>zG w L V q m p n/\yu w h p' n' q' m') (zq q m cq L p n c V (zs L V h ep)):=by
 refine FnT.intro (c:=zk Try.f14) [.cell 6 32,.tmp 7] 58 Try.func14 kr kr kr fun w hP=>?_;obtain⟨⟨hS,hVV⟩,hH⟩:=hP;have hm:=hS.1;have hn:=hVV.1;have hvl:=o.vl;have hr1:=uq q m cq L p n c V (by omega) (by omega);have hr2:=zeP h o p' n' c' q' m' cq';have hsm:=ze3 p' n' c' h.vs q m cq L (decide (h.vs=L)) decide_eq_true_iff (by omega);have hha:=uo q m cq L h.pr (by omega);have H0:=St.start w;refine rS [.b,.b,.a,.v] H0 kr fun gs1 w1 H1=>zb kr ?_;cases e1:zz L V with
 | false=>
  rw[e1]at hr1;refine rS [.l 0,.cp (pre:=fun w=>zG w L V q m p n) hr1 [] (fun w hb hd=>⟨hS.call hb,hVV.call hb⟩),.v,.v,.n,.n,.n,.v,.v,.n,.n,.v] H1 kr fun gs2 w2 H2=>zh<|rS [.v,.s 2,.v] H2 kr fun gs9 w9 H9=>rRr [.cell 6 32,.tmp 7] [2] (.tuple #[snV none 0 0 none 0 0,.int .i64 1]) (zJ w.heap.size w (zq q m cq L p n c V (zs L V h ep))) H9 kr ?_;rw[show zs L V h ep=([],[],1) by unfold zs;rw[if_pos (.inl e1)]];exact⟨_,zq.no (e:=1),H9.sub (QH _)⟩
 | true=>
 rw[e1]at hr1;cases e2:yn h with
 | false=>
  rw[e2]at hr2;refine rS [.l 0,.cp (pre:=fun w=>zG w L V q m p n) hr1 [] (fun w hb hd=>⟨hS.call hb,hVV.call hb⟩),.v,.v,.l 1,.cp (pre:=fun w=>yu w h p' n' q' m') hr2 [] (fun w hb hd=>hH.call hb),.v,.v,.v,.n,.n,.v] H1 kr fun gs2 w2 H2=>zh<|rS [.v,.s 2,.v] H2 kr fun gs9 w9 H9=>rRr [.cell 6 32,.tmp 7] [2] (.tuple #[snV none 0 0 none 0 0,.int .i64 1]) (zJ w.heap.size w (zq q m cq L p n c V (zs L V h ep))) H9 kr ?_;rw[show zs L V h ep=([],[],1) by unfold zs;rw[if_pos (.inr (.inl e2))]];exact⟨_,zq.no (e:=1),H9.sub (QH _)⟩
 | true=>
 rw[e2]at hr2;by_cases e3:ep=0
 case pos=>
  refine rS [.l 0,.cp (pre:=fun w=>zG w L V q m p n) hr1 [] (fun w hb hd=>⟨hS.call hb,hVV.call hb⟩),.v,.v,.l 1,.cp (pre:=fun w=>yu w h p' n' q' m') hr2 [] (fun w hb hd=>hH.call hb),.v,.v,.v,.v,.E (.bool ((ep:Int)==0)) (.bool true) (za (beq_iff_eq.2 (by omega))),.v] H1 kr fun gs2 w2 H2=>zh<|rS [.v,.s 2,.v] H2 kr fun gs9 w9 H9=>rRr [.cell 6 32,.tmp 7] [2] (.tuple #[snV none 0 0 none 0 0,.int .i64 1]) (zJ w.heap.size w (zq q m cq L p n c V (zs L V h ep))) H9 kr ?_;rw[show zs L V h ep=([],[],1) by unfold zs;rw[if_pos (.inr (.inr e3))]];exact⟨_,zq.no (e:=1),H9.sub (QH _)⟩
 have hep:ep≠0:=e3;have h1: ¬(zz L V=false\/yn h=false\/ep=0):=by rw[e1,e2];intro h9;rcases h9 with h9 | h9 | h9;cases h9;cases h9;exact e3 h9
 refine rS [.l 0,.cp (pre:=fun w=>zG w L V q m p n) hr1 [] (fun w hb hd=>⟨hS.call hb,hVV.call hb⟩),.v,.v,.l 1,.cp (pre:=fun w=>yu w h p' n' q' m') hr2 [] (fun w hb hd=>hH.call hb),.v,.v,.v,.v,.E (.bool ((ep:Int)==0)) (.bool false) (za (beq_eq_false_iff_ne.2 (by omega))),.v] H1 kr fun gs2 w2 H2=>zl<|wW<|zb kr ?_;by_cases e4:h.vs=L
 case neg=>
  rw[decide_eq_false e4]at hsm;refine rS [.v,.l 1,.v,.l 0,.cp (pre:=fun w=>AtF sS w p' n' h.vs/\AtF sS w q m L) hsm [] (fun w hb hd=>⟨hH.1.call hb,hS.call hb⟩),.v] H2 kr fun gs3 w3 H3=>zh<|rS [.v,.s 2,.v] H3 kr fun gs9 w9 H9=>rRr [.cell 6 32,.tmp 7] [2] (.tuple #[snV none 0 0 none 0 0,.int .i64 43]) (zJ w.heap.size w (zq q m cq L p n c V (zs L V h ep))) H9 kr ?_;rw[show zs L V h ep=([],[],43) by unfold zs;rw[if_neg h1,if_pos e4]];exact⟨_,zq.no (e:=43),H9.sub (QH _)⟩
 rw[decide_eq_true e4]at hsm;have h2: ¬h.vs≠L:=fun h9=>h9 e4;refine rS [.v,.l 1,.v,.l 0,.cp (pre:=fun w=>AtF sS w p' n' h.vs/\AtF sS w q m L) hsm [] (fun w hb hd=>⟨hH.1.call hb,hS.call hb⟩),.v] H2 kr fun gs3 w3 H3=>zl<|wW<|zb kr ?_;cases e5:zF h.pr L with
 | false=>
  rw[e5]at hha;refine rS [.v,.l 0,.v,.l 1,.cp (pre:=fun w=>AtF sS w q m L) hha [] (fun w hb hd=>hS.call hb),.v] H3 kr fun gs4 w4 H4=>zh<|rS [.v,.s 2,.v] H4 kr fun gs9 w9 H9=>rRr [.cell 6 32,.tmp 7] [2] (.tuple #[snV none 0 0 none 0 0,.int .i64 42]) (zJ w.heap.size w (zq q m cq L p n c V (zs L V h ep))) H9 kr ?_;rw[show zs L V h ep=([],[],42) by unfold zs;rw[if_neg h1,if_neg h2,if_pos e5]];exact⟨_,zq.no (e:=42),H9.sub (QH _)⟩
 | true=>
 rw[e5]at hha;have h3: ¬zF h.pr L=false:=by rw[e5];decide
 refine rS [.v,.l 0,.v,.l 1,.cp (pre:=fun w=>AtF sS w q m L) hha [] (fun w hb hd=>hS.call hb),.v] H3 kr fun gs4 w4 H4=>zl<|wW<|zb kr<|qV (Q:=fun e ρ ww=>e=.normal/\∃(p1:Qc) (n1 c1:Nat),yk blS 56 p n c V p1 n1 c1 [] (yg V h ep)/\AtF blS w p1 n1 (yg V h ep)/\St w.heap.size w ww [((gs1 0).b,snO q m cq p1 n1 c1),((gs1 1).b,hdO h p' n' c' q' m' cq'),((gs1 2).b,snO none 0 0 none 0 0)]/\Is [(3,Qe (gs1 0).b),(4,Qe (gs1 1).b),(6,Qe (gs1 2).b)] ρ) ?_ ?_
 ·unfold yg;by_cases e6:h.hh%ep=0
  ·rw[if_pos e6];refine rS [.v,.l 1,.v,.oe (ins:=[((.tmp 36),.int .u64 ((h.hh:Nat):Int)),((.tmp 37),.int .u64 (ep:Int))]) (v:=.int .u64 (Int.tmod ((h.hh:Nat):Int) (ep:Int))) (v':=.int .u64 ((h.hh%ep:Nat):Int)) (fun ρ o w ho hi=>kw (n:=0) (t:=23) (t':=23) (x:=(.tmp 36)) (y:=(.tmp 37)) h.hh ep hep w ho hi.1 hi.2.1) (zd (qZ h.hh ep)),.E (.bool (((h.hh%ep:Nat):Int)==0)) (.bool true) (za (beq_iff_eq.2 (by omega)))] H4 kr fun gs5 w5 H5=>zh<|rL [.v,.l 0,.v,.s 0] H5 kr fun gs6 w6 H6=>?_;exact⟨rfl,none,0,0,.inr (.inl ⟨rfl,rfl,rfl,rfl,rfl⟩),⟨rfl,.inl rfl⟩,H6.as kr,isK⟩
  ·rw[if_neg e6];refine rS [.v,.l 1,.v,.oe (ins:=[((.tmp 36),.int .u64 ((h.hh:Nat):Int)),((.tmp 37),.int .u64 (ep:Int))]) (v:=.int .u64 (Int.tmod ((h.hh:Nat):Int) (ep:Int))) (v':=.int .u64 ((h.hh%ep:Nat):Int)) (fun ρ o w ho hi=>kw (n:=0) (t:=23) (t':=23) (x:=(.tmp 36)) (y:=(.tmp 37)) h.hh ep hep w ho hi.1 hi.2.1) (zd (qZ h.hh ep)),.E (.bool (((h.hh%ep:Nat):Int)==0)) (.bool false) (za (beq_eq_false_iff_ne.2 (by omega)))] H4 kr fun gs5 w5 H5=>zl ?_;exact⟨rfl,p,n,c,.inl ⟨rfl,rfl,rfl,rfl,rfl⟩,hVV,H5.as kr,isK⟩
 ·clear H0 H1 H2 H3 H4;rintro _ _ w5 ⟨rfl,p1,n1,c1,hor,hV1,H5,_,rfl⟩;have hn1:(yg V h ep).length<=100000:=by
   unfold yg;split
   ·exact QO _
   ·exact hV
  refine wW<|zb kr ?_;by_cases e7:h.vo=em
  ·refine rS [.v,.l 1,.E (.bool (h.vo.toList==(⟨#[]⟩:Qa).toList)) (.bool true) (za (ya _ _ e7))] H5 kr fun gs6 w6 H6=>zh<|rS [.l 0,.s 2,.v] H6 kr fun gs9 w9 H9=>rRr [.cell 6 32,.tmp 7] [2] (.tuple #[snV q m cq p1 n1 c1,.int .i64 0]) (zJ w.heap.size w (zq q m cq L p n c V (zs L V h ep))) H9 kr ?_;rw[show zs L V h ep=(L,yg V h ep,0) by unfold zs;rw[if_neg h1,if_neg h2,if_neg h3,if_pos e7]];exact⟨_,⟨q,m,cq,p1,n1,c1,[],[],rfl,rfl,.inl ⟨rfl,rfl,rfl,rfl,rfl⟩,hor⟩,H9.sub (QH _)⟩
  ·refine rS [.v,.l 1,.E (.bool (h.vo.toList==(⟨#[]⟩:Qa).toList)) (.bool false) (za (zT _ _ e7))] H5 kr fun gs6 w6 H6=>zl<|wW<|ze [0,1,2,3,4,5,6,7,8,9,10,11,12] kr kr<|rp [.l 0,.v,.l 1,.v,.l 1,.v,.l 1,.v] H6 kr fun gs7 w7 H7=>wX [8,9,10,11,12] ?_;have H8:St w.heap.size w w7 [((gs1 0).b,snO q m cq p1 n1 c1),((gs1 1).b,hdO h p' n' c' q' m' cq'),((gs1 2).b,snO none 0 0 none 0 0)]:=H7.as kr;refine yY H8 (some 55) 28 #[snV q m cq p1 n1 c1,blV (h.pr,h.vo,h.ad)] (ze1 q m cq L p1 n1 c1 (yg V h ep) (h.pr,h.vo,h.ad) hL hn1) ⟨hS.call H8.below,hV1.call H8.below⟩ kr kr ?_;rintro _ _ w8 ⟨q2,m2,cq2,p2,n2,c2,T1,T2,rfl,rfl,ho1,ho2⟩ H9;have H10:St w.heap.size w w8 (((gs1 0).b,snO q m cq p1 n1 c1)::((gs1 1).b,hdO h p' n' c' q' m' cq')::((gs1 2).b,snO none 0 0 none 0 0)::(T1++T2)):=H9.perm (QP (l₁:=[((gs1 0).b,snO q m cq p1 n1 c1),((gs1 1).b,hdO h p' n' c' q' m' cq'),((gs1 2).b,snO none 0 0 none 0 0)]) (l₂:=T1++T2));refine rp [.v,.v,.s 2,.v] H10 kr fun gs9 w9 H11=>wX []<|zc<|wW<|rRr [.cell 6 32,.tmp 7] [2] (.tuple #[snV q2 m2 cq2 p2 n2 c2,.int .i64 (((zC L (yg V h ep) (h.pr,h.vo,h.ad)).2.2:Nat):Int)]) (zJ w.heap.size w (zq q m cq L p n c V (zs L V h ep))) H11 kr ?_;rw[show zs L V h ep=zC L (yg V h ep) (h.pr,h.vo,h.ad) by unfold zs;rw[if_neg h1,if_neg h2,if_neg h3,if_neg e7]];exact⟨_,zq.via hor ⟨q2,m2,cq2,p2,n2,c2,T1,T2,rfl,rfl,ho1,ho2⟩,(H11.as (l:=((gs1 0).b,snO q m cq p1 n1 c1)::((gs1 1).b,hdO h p' n' c' q' m' cq')::((gs1 2).b,snO q2 m2 cq2 p2 n2 c2)::(T1++T2)) kr).sub (.cons _ (.cons _ (.cons _ (.refl _))))⟩
section
variable {l:Bool}{s:Qa}{k:Fo}
end
section
open D2 (Gh)
end
section
variable {t:Qa}{a b j:Nat}{p:Qc}{n c:Nat}{row:Qb}{M:List X3}{T:Qb}
end
section
variable {P:Program}{N:Nat}{ops:Array Oper}{K:Env->World->Prop}{ρ:Env}{w w0:World}{i B:Nat}{r:List Nat}{l:Qb}
end
section
open D2 (Gh)
section
variable {P:Program}{N:Nat}{ops:Array Oper}{i:Nat}{r:List Nat}{K:Env->World->Prop}{ρ:Env}{w w0:World}{B:Nat}{l:Qb}
end
def hd0:Hdr:=⟨em,0,em,em,em,em,[],em,false,0,[]⟩
end
abbrev Hed:=Hdr×(Qc×Nat×Nat)×(Qc×Nat×Nat)
abbrev heC (x:Hed):Qd:=hdC x.1 x.2.1.1 x.2.1.2.1 x.2.1.2.2 x.2.2.1 x.2.2.2.1 x.2.2.2.2
def heS:Fl Hed where
 K:=11
 cs x:=(heC x).toList
 pos:=by decide
 len _:=rfl
 one a:=fun u hu=>by simp[hdC]at hu;rcases hu with h | h | h | h | h | h | h | h | h | h | h<;>rw[h]<;>rfl
def qy (w:World)(p:Qc)(n:Nat)(X:List Hed):Prop:=AtF heS w p n X/\ ∀x∈X,yu w x.1 x.2.1.1 x.2.1.2.1 x.2.2.1 x.2.2.2.1
theorem qy.call {w w':World}{p:Qc}{n:Nat}{X:List Hed}(a:qy w p n X)(hb:Below w.heap.size w w'):qy w' p n X:=⟨a.1.call hb,fun x hx=>(a.2 x hx).call hb⟩
def yI (ep:Nat):Qi×List Bal->List Hdr->Qi×List Bal×Nat
 | s,[]=>(s.1,s.2,0)
 | s,h::r=>if (zs s.1 s.2 h ep).2.2=0 then yI ep ((zs s.1 s.2 h ep).1,(zs s.1 s.2 h ep).2.1) r else ([],[],(zs s.1 s.2 h ep).2.2)
def yd (L:Qi)(l:List Hdr)(ep:Nat):Qi×List Bal×Nat:=
 if zz L []=false\/ep=0 then ([],[],1) else yI ep (L,[]) l
abbrev wt (b:Bool):Nat:=if b=true then 0 else 1
theorem zbx (b:Bal): ∀(V:List Bal) (s:List Bal×Bool),(V.foldl (fun s x=>yD b (zV b s x) x) s).1.length+wt (V.foldl (fun s x=>yD b (zV b s x) x) s).2<=s.1.length+wt s.2+V.length
 | [],s=>by simp
 | x::r,s=>by
  have h1:=zbx b r (yD b (zV b s x) x);have h2:(yD b (zV b s x) x).1.length<=(zV b s x).1.length+1:=zbo b _ x;have h3:(zV b s x).1.length+wt (zV b s x).2<=s.1.length+wt s.2:=by
   unfold zV;split
   ·rename_i h9
    have h8:s.2=false:=by cases h7:s.2 with
     | false=>rfl
     | true=>rw[h7]at h9;cases h9
    show (s.1++ [b]).length+wt true<=_;rw[Qz,h8];exact Qu _
   ·exact Qu _
  have h4:(yD b (zV b s x) x).2=(zV b s x).2:=rfl;rw[h4]at h1;rw[RC,Rg];omega
theorem ze4 (b:Bal)(V:List Bal):(zx b V).length<=V.length+1:=by
 have h:=zbx b V ([],false);change (qa b V).1.length+wt (qa b V).2<=0+1+V.length at h;unfold zx;split
 ·omega
 ·rename_i h9
  rw[show wt (qa b V).2=1 from if_neg h9]at h;rw[Qz];show (qa b V).1.length+1<=_;omega
theorem zby (a:Qa): ∀(L:Qi) (s:Qi×Bool),(L.foldl (fun s x=>yH a (zW a s x) x) s).1.length+wt (L.foldl (fun s x=>yH a (zW a s x) x) s).2<=s.1.length+wt s.2+L.length
 | [],s=>by simp
 | x::r,s=>by
  have h1:=zby a r (yH a (zW a s x) x);have h2:(yH a (zW a s x) x).1.length<=(zW a s x).1.length+1:=zbq a _ x;have h3:(zW a s x).1.length+wt (zW a s x).2<=s.1.length+wt s.2:=by
   unfold zW;split
   ·rename_i h9
    have h8:s.2=false:=by cases h7:s.2 with
     | false=>rfl
     | true=>rw[h7]at h9;cases h9
    show (s.1++ [a]).length+wt true<=_;rw[Qz,h8];exact Qu _
   ·exact Qu _
  have h4:(yH a (zW a s x) x).2=(zW a s x).2:=rfl;rw[h4]at h1;rw[RC,Rg];omega
theorem ze5 (a:Qa)(add:Bool)(L:Qi):(zM a add L).length<=L.length+1:=by
 have h:=zby a L ([],!add);change (yR a add L).1.length+wt (yR a add L).2<=0+wt (!add)+L.length at h;have h1:wt (!add)<=1:=by cases add<;>decide
 unfold zM;split
 ·omega
 ·rename_i h9
  rw[show wt (yR a add L).2=1 from if_neg h9]at h;rw[Qz];show (yR a add L).1.length+1<=_;omega
theorem ze6 (L:Qi)(V:List Bal)(b:Bal):(zC L V b).1.length<=L.length+1/\(zC L V b).2.1.length<=V.length+1:=by
 have h1:=ze4 b V;have h2:=ze5 b.2.1 b.2.2 L;unfold zC;split
 ·exact⟨QO _,QO _⟩
 ·split
  ·exact⟨QO _,QO _⟩
  ·split
   ·exact⟨Nat.le_succ _,h1⟩
   ·refine⟨h2,?_⟩;have h3:=RE (zN b) (zx b V);have h4:=RE (fun x=>b.2.2||decide (2*zg x ((zx b V).filter (zN b))<=(zM b.2.1 b.2.2 L).length)) ((zx b V).filter (zN b));exact RA h4 (RA h3 h1)
theorem kY (L:Qi)(V:List Bal)(h:Hdr)(ep:Nat):(zs L V h ep).1.length<=L.length+1/\(zs L V h ep).2.1.length<=V.length+1:=by
 have h1:(yg V h ep).length<=V.length:=by
  unfold yg;split
  ·exact QO _
  ·exact Qu _
 have h2:=ze6 L (yg V h ep) (h.pr,h.vo,h.ad);unfold zs;split
 ·exact⟨QO _,QO _⟩
 ·split
  ·exact⟨QO _,QO _⟩
  ·split
   ·exact⟨QO _,QO _⟩
   ·split
    ·exact⟨Nat.le_succ _,Nat.le_succ_of_le h1⟩
    ·exact⟨h2.1,RA h2.2 (Nat.succ_le_succ h1)⟩
theorem yk.step {α:Type}{S:Fl α}{ty:TypeId}{q0:Qc}{m0 c0:Nat}{L0:List α}{q1:Qc}{m1 c1:Nat}{A:Qb}{L1:List α}{q2:Qc}{m2 c2:Nat}{T:Qb}{L2:List α}(h1:yk S ty q0 m0 c0 L0 q1 m1 c1 A L1)(h2:yk S ty q1 m1 c1 L1 q2 m2 c2 T L2):∃A',yk S ty q0 m0 c0 L0 q2 m2 c2 A' L2/\A'.Sublist (T++A):=by
 rcases h2 with⟨rfl,rfl,rfl,rfl,rfl⟩|h2
 ·exact⟨A,h1,.refl _⟩
 ·exact⟨T,.inr h2,QM _ _⟩
theorem yk.at {α:Type}{S:Fl α}{ty:TypeId}{q0:Qc}{m0 c0:Nat}{L0:List α}{q:Qc}{m c:Nat}{T:Qb}{L:List α}(h:yk S ty q0 m0 c0 L0 q m c T L){B:Nat}{w0 w:World}{l:Qb}(hS:St B w0 w l)(hl: ∀e∈T,e∈l)(hA:AtF S w q0 m0 L0):AtF S w q m L:=by
 rcases h with⟨rfl,rfl,rfl,rfl,rfl⟩|h
 ·exact hA
 ·exact h.atF hS hl
theorem xM {α:Type}(A B C D E:List α):(E++((A++C)++(B++D))).Perm ((A++B)++(E++(C++D))):=by
 have h1:((A++C)++(B++D)).Perm ((A++B)++(C++D)):=by
  rw[QX,QX];refine Vh A ?_;rw[<-QX,<-QX];exact List.Perm.append_right D QP
 exact(Vh E h1).trans (by rw[<-QX,<-QX (A++B)];exact List.Perm.append_right _ QP)
theorem ze7 (q:Qc)(m cq:Nat)(L:Qi)(pl:Qc)(n cl:Nat)(X:List Hed)(ep:Nat)(hL:L.length<=1000)(hX:X.length<=1000)(hok: ∀x∈X,qI x.1):
 FnT Try.prog 16 #[.slice q m cq,.slice pl n cl,.int .u64 (ep:Int)] (fun w=>AtF sS w q m L/\qy w pl n X) (zq q m cq L none 0 0 [] (yd L (X.map (·.1)) ep)):=by
 refine FnT.intro (c:=zk Try.f16) [.cell 6 32,.tmp 7] 43 Try.func16 kr kr kr fun w hP=>?_;obtain⟨hS,hXX⟩:=hP;have hm:=hS.1;have hn:=hXX.1.1;have hr1:=uq q m cq L none 0 0 [] (by omega) (QO _);have H0:=St.start w;refine rS [.a,.v] H0 kr fun gs1 w1 H1=>rS [.v,.v,.a,.s 1] H1 kr fun gs2 w2 H2=>zb kr ?_;cases e1:zz L [] with
 | false=>
  rw[e1]at hr1;refine rS [.l 1,.cp (pre:=fun w=>zG w L [] q m none 0) hr1 [] (fun w hb hd=>⟨hS.call hb,⟨rfl,.inl rfl⟩⟩),.v,.v,.n,.n,.v] H2 kr fun gs3 w3 H3=>zh<|rS [.v,.s 0,.v] H3 kr fun gs9 w9 H9=>rRr [.cell 6 32,.tmp 7] [0] (.tuple #[snV none 0 0 none 0 0,.int .i64 1]) (zJ w.heap.size w (zq q m cq L none 0 0 [] (yd L (X.map (·.1)) ep))) H9 kr ?_;rw[show yd L (X.map (·.1)) ep=([],[],1) by unfold yd;rw[if_pos (.inl e1)]];exact⟨_,zq.no (e:=1),H9.sub (QH _)⟩
 | true=>
 rw[e1]at hr1;by_cases e3:ep=0
 case pos=>
  refine rS [.l 1,.cp (pre:=fun w=>zG w L [] q m none 0) hr1 [] (fun w hb hd=>⟨hS.call hb,⟨rfl,.inl rfl⟩⟩),.v,.v,.v,.E (.bool ((ep:Int)==0)) (.bool true) (za (beq_iff_eq.2 (by omega))),.v] H2 kr fun gs3 w3 H3=>zh<|rS [.v,.s 0,.v] H3 kr fun gs9 w9 H9=>rRr [.cell 6 32,.tmp 7] [0] (.tuple #[snV none 0 0 none 0 0,.int .i64 1]) (zJ w.heap.size w (zq q m cq L none 0 0 [] (yd L (X.map (·.1)) ep))) H9 kr ?_;rw[show yd L (X.map (·.1)) ep=([],[],1) by unfold yd;rw[if_pos (.inr e3)]];exact⟨_,zq.no (e:=1),H9.sub (QH _)⟩
 have h1: ¬(zz L []=false\/ep=0):=by rw[e1];intro h9;rcases h9 with h9 | h9;cases h9;exact e3 h9
 have hF:yd L (X.map (·.1)) ep=yI ep (L,[]) (X.map (·.1)):=by unfold yd;rw[if_neg h1]
 refine rS [.l 1,.cp (pre:=fun w=>zG w L [] q m none 0) hr1 [] (fun w hb hd=>⟨hS.call hb,⟨rfl,.inl rfl⟩⟩),.v,.v,.v,.E (.bool ((ep:Int)==0)) (.bool false) (za (beq_eq_false_iff_ne.2 (by omega))),.v] H2 kr fun gs3 w3 H3=>zl<|wW<|zb kr<|rS [.v,.v,.v] H3 kr fun gs4 w4 H4=>zR 25 24 26 41 0 1 n (by omega) (fun i ρ ww=> ∃(q1:Qc) (m1 cq1:Nat) (p1:Qc) (n1 c1:Nat) (L1:Qi) (V1:List Bal) (TA TB:Qb),yd L (X.map (·.1)) ep=yI ep (L1,V1) ((X.drop i).map (·.1))/\L1.length<=L.length+i/\V1.length<=i/\yk sS 9 q m cq L q1 m1 cq1 TA L1/\yk blS 56 none 0 0 [] p1 n1 c1 TB V1/\St w.heap.size w ww (((gs1 0).b,snO none 0 0 none 0 0)::((gs2 2).b,snO q1 m1 cq1 p1 n1 c1)::(TA++TB))/\Is [(2,.int .u64 (ep:Int)),(6,Qe (gs1 0).b),(8,Qe (gs2 2).b),(23,.slice pl n cl),(24,iN n),(25,iN i)] ρ) (by rintro i _ ww ⟨_,_,_,_,_,_,_,_,_,_,_,_,_,_,_,_,_,rfl⟩;exact⟨kr,kr⟩) ⟨q,m,cq,none,0,0,L,[],[],[],hF,Qu _,Qu _,.inl ⟨rfl,rfl,rfl,rfl,rfl⟩,.inl ⟨rfl,rfl,rfl,rfl,rfl⟩,H4.as kr,isK⟩ ?_ ?_
 ·clear H0 H1 H2 H3 H4;rintro i _ w5 hi ⟨q1,m1,cq1,p1,n1,c1,L1,V1,TA,TB,hst,hl1,hv1,hrA,hrB,H5,_,rfl⟩;obtain⟨x,hx⟩:∃x,X[i]? =some x:=⟨_,Ql (by omega)⟩
  obtain⟨bl,off,C,T,fz,hp,hh,hR⟩:=hXX.1.row2 (by omega);have hxm:=Qs hx;refine ze [0,1,2,3] kr kr<|rp [.o (ins:=[((.tmp 23),.slice pl n cl),((.tmp 25),iN i)]) (v:=.pointer (some ⟨bl,off+i*11,none⟩)) (fun ρ o w ho hi2=>zo (kd:=.i64) (t:=36) (e:=35) (K:=11) (bytes:=168) kr (x:=(.tmp 23)) (y:=(.tmp 25)) bl off n cl i hp ho hi2.1 hi2.2.1 (by omega) w),.fp (off:=off+i*11) (n:=11) (W:=heC x) hh (zf hh) (hR _ _ hx).1 (hR _ _ hx).2] H5 kr fun gs5 w6 H6=>wX [2,3] ?_;have H7:St w.heap.size w w6 (((gs1 0).b,snO none 0 0 none 0 0)::((gs2 2).b,snO q1 m1 cq1 p1 n1 c1)::(TA++TB)):=H6.as kr;refine zY H7 (some 10) 35 (hdV hd0 none 0 0 none 0 0) kr kr kr ?_;intro hb w7 H8;refine rp [.s 0] H8 kr fun gs6 w8 H9=>wX []<|zc<|wW<|ze [0,1,2,3,4,5,6,7,8,9] kr kr<|rp [.l 2,.l 0,.v] H9 kr fun gs7 w9 H10=>wX [3,4,5,6,7,8,9] ?_;have H11:St w.heap.size w w9 ((hb,.cells (heC x) 35)::((gs1 0).b,snO none 0 0 none 0 0)::((gs2 2).b,snO q1 m1 cq1 p1 n1 c1)::(TA++TB)):=H10.as kr;have hle:=kY L1 V1 x.1 ep;have hst2:yd L (X.map (·.1)) ep=if (zs L1 V1 x.1 ep).2.2=0 then yI ep ((zs L1 V1 x.1 ep).1,(zs L1 V1 x.1 ep).2.1) ((X.drop (i+1)).map (·.1)) else ([],[],(zs L1 V1 x.1 ep).2.2):=by rw[hst,qi hx];rfl
  refine yY H11 (some 33) 14 #[snV q1 m1 cq1 p1 n1 c1,.agg (heC x),.int .u64 (ep:Int)] (zbw q1 m1 cq1 L1 p1 n1 c1 V1 x.1 (hok x hxm) x.2.1.1 x.2.1.2.1 x.2.1.2.2 x.2.2.1 x.2.2.2.1 x.2.2.2.2 ep (by omega) (by omega)) ⟨⟨hrA.at H11 (fun e he=>by simp[he]) (hS.call H11.below),hrB.at H11 (fun e he=>by simp[he]) ⟨rfl,.inl rfl⟩⟩,(hXX.2 x hxm).call H11.below⟩ kr kr ?_;generalize zs L1 V1 x.1 ep=r at hle hst2;rintro _ _ w10 ⟨q2,m2,cq2,p2,n2,c2,T1,T2,rfl,rfl,ho1,ho2⟩ H12;obtain⟨TA',hrA',hsA⟩:=hrA.step ho1;obtain⟨TB',hrB',hsB⟩:=hrB.step ho2;have H13:St w.heap.size w w10 ((hb,.cells (heC x) 35)::((gs1 0).b,snO none 0 0 none 0 0)::((gs2 2).b,snO q1 m1 cq1 p1 n1 c1)::(TA'++TB')):=(H12.perm (xM T1 T2 TA TB [(hb,.cells (heC x) 35),((gs1 0).b,snO none 0 0 none 0 0),((gs2 2).b,snO q1 m1 cq1 p1 n1 c1)])).sub (.cons_cons _ (.cons_cons _ (.cons_cons _ (hsA.append hsB))));refine rp [.v,.v,.v] H13 kr fun gs8 w11 H14=>wX [7,8,9] ?_;have H15:St w.heap.size w w11 ((hb,.cells (heC x) 35)::((gs1 0).b,snO none 0 0 none 0 0)::((gs2 2).b,snO q1 m1 cq1 p1 n1 c1)::(TA'++TB')):=H14.as kr;refine zY H15 (some 11) 32 (snV none 0 0 none 0 0) kr kr kr ?_;intro tb w12 H16;refine rp [.s 0,.v] H16 kr fun gs9 w13 H17=>wX []<|zc<|wW ?_;have H18:St w.heap.size w w13 ((tb,snO q2 m2 cq2 p2 n2 c2)::(hb,.cells (heC x) 35)::((gs1 0).b,snO none 0 0 none 0 0)::((gs2 2).b,snO q1 m1 cq1 p1 n1 c1)::(TA'++TB')):=H17.as kr;refine zb kr ?_;by_cases e9:r.2.2=0
  ·refine rS [.v,.E (.bool (((r.2.2:Nat):Int)!=0)) (.bool false) (za (by rw[e9];rfl))] H18 kr fun gs10 w14 H19=>zl<|wW<|rL [.l 0,.s 3] H19 kr fun gs11 w15 H20=>?_;exact⟨kr,q2,m2,cq2,p2,n2,c2,r.1,r.2.1,TA',TB',hst2.trans (if_pos e9),by omega,by omega,hrA',hrB',(H20.as (l:=(tb,snO q2 m2 cq2 p2 n2 c2)::(hb,.cells (heC x) 35)::((gs1 0).b,snO none 0 0 none 0 0)::((gs2 2).b,snO q2 m2 cq2 p2 n2 c2)::(TA'++TB')) kr).sub (.cons _ (.cons _ (.refl _))),isK⟩
  ·refine rS [.v,.E (.bool (((r.2.2:Nat):Int)!=0)) (.bool true) (za (bne_iff_ne.2 (by omega)))] H18 kr fun gs10 w14 H19=>zh<|rS [.v,.v,.s 2,.v] H19 kr fun gs11 w15 H20=>rRr [.cell 6 32,.tmp 7] [2] (.tuple #[snV none 0 0 none 0 0,.int .i64 ((r.2.2:Nat):Int)]) (zJ w.heap.size w (zq q m cq L none 0 0 [] (yd L (X.map (·.1)) ep))) H20 kr ?_;rw[hst2.trans (if_neg e9)];exact⟨_,zq.no (e:=r.2.2),H20.sub (QH _)⟩
 ·clear H0 H1 H2 H3 H4;rintro _ w5 ⟨q1,m1,cq1,p1,n1,c1,L1,V1,TA,TB,hst,hl1,hv1,hrA,hrB,H5,_,rfl⟩;rw[QD (by omega)]at hst;change yd L (X.map (·.1)) ep=(L1,V1,0)at hst;refine wW<|rS [.l 1,.s 0,.v] H5 kr fun gs9 w9 H9=>rRr [.cell 6 32,.tmp 7] [0] (.tuple #[snV q1 m1 cq1 p1 n1 c1,.int .i64 0]) (zJ w.heap.size w (zq q m cq L none 0 0 [] (yd L (X.map (·.1)) ep))) H9 kr ?_;rw[hst];exact⟨_,⟨q1,m1,cq1,p1,n1,c1,TA,TB,rfl,rfl,hrA,hrB⟩,(H9.as (l:=((gs1 0).b,snO q1 m1 cq1 p1 n1 c1)::((gs2 2).b,snO q1 m1 cq1 p1 n1 c1)::(TA++TB)) kr).sub (.cons _ (.cons _ (.refl _)))⟩
section
open Go.ChangeShapes Go.WideShapes Go.ChangeAt
theorem zbz:Try.prog.cellsOf 56=3:=kr
theorem ze8:Try.prog.cellsOf 32=2:=kr
theorem ze9:Try.prog.cellsOf 30=1:=kr
theorem zbA {α:Type}(l:List α)(h:l.length=2):∃a0 a1,l=[a0,a1]:=by
 match l,h with
 | [a0,a1],_=>exact⟨_,_,rfl⟩
theorem zfa {α:Type}(l:List α)(h:l.length=3):∃a0 a1 a2,l=[a0,a1,a2]:=by
 match l,h with
 | [a0,a1,a2],_=>exact⟨_,_,_,rfl⟩
section
variable {H:Type}{enc:TypeId×Value->H}{W:World}{sp:Nat->Bool}{held:Bool}
theorem zfb (fuel:Nat)(cs:List Value)(x:DataW H×List MemPlace)(h:QC enc Try.prog W 0 sp held fuel 56 cs=some x):∃a:Bal,cs=blS.cs a/\True:=by
 obtain⟨y0,y1,y2,m,hx,hl,hy0,hy1,hy2⟩:=Go.Deep.trod_struct3 Try.underlying56 h;rw[zbz]at hl;obtain⟨c0,c1,c2,rfl⟩:=zfa cs hl;rw[xd]at hy0 hy1;rw[ul]at hy2;obtain⟨s0,e0,_,_⟩:=Ug Try.underlying9 (show QC enc Try.prog W 0 sp held m 9 [c0]=some y0 from hy0);obtain⟨s1,e1,_,_⟩:=Ug Try.underlying9 (show QC enc Try.prog W 0 sp held m 9 [c1]=some y1 from hy1);obtain⟨b,e2,_⟩:=DataW.trod_bool Try.underlying4 (show QC enc Try.prog W 0 sp held m 4 [c2]=some y2 from hy2);obtain rfl:c0=.string s0:=by simpa using e0
 obtain rfl:c1=.string s1:=by simpa using e1
 obtain rfl:c2=.bool b:=by simpa using e2
 exact⟨(s0,s1,b),rfl,trivial⟩
theorem zfc {v:Value}{d:DataW H}{p:List MemPlace}{base:Nat}(hv:UP Try.prog W .any base 32 v)(h:DataW.Trod enc Try.prog W 0 sp held 32 v d p):
 ∃(q:Qc) (m cq:Nat) (L:Qi) (p:Qc) (n c:Nat) (V:List Bal),v=snV q m cq p n c/\yb q m cq/\yb p n c/\zG W L V q m p n:=by
 obtain⟨cs,rfl,hsz,_⟩:∃cs,v=.agg cs/\cs.size=Try.prog.cellsOf 32/\Row.okWide Try.prog W .any base 32 cs:=by
  simpa [UP,Try.underlying32] using hv
 rw[ze8]at hsz;obtain⟨l⟩:=cs;obtain⟨c0,c1,rfl⟩:=zbA l hsz;obtain⟨fuel,hf⟩:=h;obtain⟨xs,m,rfl,hxx,hl,hlen,hff⟩:=DataW.trod_struct Try.underlying32 hf;obtain⟨y0,y1,rfl⟩:=zbA xs hlen;have g0:=hff 0 _ rfl;have g1:=hff 1 _ rfl;change QC enc Try.prog W 0 sp held m 22 (([c0,c1].drop 0).take (Try.prog.cellsOf 22))=some y0 at g0;change QC enc Try.prog W 0 sp held m 30 (([c0,c1].drop 1).take (Try.prog.cellsOf 30))=some y1 at g1;rw[um]at g0;rw[ze9]at g1;obtain⟨q,mm,cq,L,rfl,sl,_,atL⟩:=jB (S:=sS) Try.underlying22 xd un (show QC enc Try.prog W 0 sp held m 22 [c0]=some y0 from g0);obtain⟨p,n,c,V,rfl,sl2,_,atV⟩:=jB (S:=blS) Try.underlying30 zbz zfb (show QC enc Try.prog W 0 sp held m 30 [c1]=some y1 from g1);exact⟨q,mm,cq,L,p,n,c,V,rfl,sl,sl2,atL,atV⟩
theorem zfd (fuel:Nat)(cs:List Value)(x:DataW H×List MemPlace)(h:QC enc Try.prog W 0 sp held fuel 35 cs=some x):∃a:Hed,cs=heS.cs a/\(qJ a.1/\yb a.2.1.1 a.2.1.2.1 a.2.1.2.2/\yb a.2.2.1 a.2.2.2.1 a.2.2.2.2/\yu W a.1 a.2.1.1 a.2.1.2.1 a.2.2.1 a.2.2.2.1):=by
 obtain⟨xs,m,rfl,hxx,hl,hlen,hff⟩:=DataW.trod_struct Try.underlying35 h;rw[uj]at hl;obtain⟨c0,c1,c2,c3,c4,c5,c6,c7,c8,c9,c10,rfl⟩:=kW cs hl;obtain⟨y0,y1,y2,y3,y4,y5,y6,y7,y8,y9,y10,rfl⟩:=kW xs hlen;have g0:=hff 0 _ rfl;have g1:=hff 1 _ rfl;have g2:=hff 2 _ rfl;have g3:=hff 3 _ rfl;have g4:=hff 4 _ rfl;have g5:=hff 5 _ rfl;have g6:=hff 6 _ rfl;have g7:=hff 7 _ rfl;have g8:=hff 8 _ rfl;have g9:=hff 9 _ rfl;have g10:=hff 10 _ rfl;change QC enc Try.prog W 0 sp held m 9 (([c0,c1,c2,c3,c4,c5,c6,c7,c8,c9,c10].drop 0).take (Try.prog.cellsOf 9))=some y0 at g0;change QC enc Try.prog W 0 sp held m 23 (([c0,c1,c2,c3,c4,c5,c6,c7,c8,c9,c10].drop 1).take (Try.prog.cellsOf 23))=some y1 at g1;change QC enc Try.prog W 0 sp held m 9 (([c0,c1,c2,c3,c4,c5,c6,c7,c8,c9,c10].drop 2).take (Try.prog.cellsOf 9))=some y2 at g2;change QC enc Try.prog W 0 sp held m 9 (([c0,c1,c2,c3,c4,c5,c6,c7,c8,c9,c10].drop 3).take (Try.prog.cellsOf 9))=some y3 at g3;change QC enc Try.prog W 0 sp held m 9 (([c0,c1,c2,c3,c4,c5,c6,c7,c8,c9,c10].drop 4).take (Try.prog.cellsOf 9))=some y4 at g4;change QC enc Try.prog W 0 sp held m 9 (([c0,c1,c2,c3,c4,c5,c6,c7,c8,c9,c10].drop 5).take (Try.prog.cellsOf 9))=some y5 at g5;change QC enc Try.prog W 0 sp held m 22 (([c0,c1,c2,c3,c4,c5,c6,c7,c8,c9,c10].drop 6).take (Try.prog.cellsOf 22))=some y6 at g6;change QC enc Try.prog W 0 sp held m 9 (([c0,c1,c2,c3,c4,c5,c6,c7,c8,c9,c10].drop 7).take (Try.prog.cellsOf 9))=some y7 at g7;change QC enc Try.prog W 0 sp held m 4 (([c0,c1,c2,c3,c4,c5,c6,c7,c8,c9,c10].drop 8).take (Try.prog.cellsOf 4))=some y8 at g8;change QC enc Try.prog W 0 sp held m 23 (([c0,c1,c2,c3,c4,c5,c6,c7,c8,c9,c10].drop 9).take (Try.prog.cellsOf 23))=some y9 at g9;change QC enc Try.prog W 0 sp held m 33 (([c0,c1,c2,c3,c4,c5,c6,c7,c8,c9,c10].drop 10).take (Try.prog.cellsOf 33))=some y10 at g10;rw[xd]at g0 g2 g3 g4 g5 g7;rw[zbh]at g1 g9;rw[ul]at g8;rw[um]at g6;rw[zbi]at g10;have str: ∀ {c:Value} {y:DataW H×List MemPlace},QC enc Try.prog W 0 sp held m 9 [c]=some y->∃s,c=.string s:=fun {c y} g=>by
  obtain⟨s,e,_,_⟩:=Ug Try.underlying9 g;exact⟨s,by simpa using e⟩
 have num: ∀ {c:Value} {y:DataW H×List MemPlace},QC enc Try.prog W 0 sp held m 23 [c]=some y->∃n:Nat,n<0x10000000000000000/\c=.int .u64 ((n:Nat):Int):=fun {c y} g=>by
  obtain⟨z,e,_,hw⟩:=Ul Try.underlying23 g;obtain⟨n,hn,rfl⟩:=vT hw;exact⟨n,hn,by simpa using e⟩
 obtain⟨s0,rfl⟩:=str g0;obtain⟨n1,h1,rfl⟩:=num g1;obtain⟨s2,rfl⟩:=str g2;obtain⟨s3,rfl⟩:=str g3;obtain⟨s4,rfl⟩:=str g4;obtain⟨s5,rfl⟩:=str g5;obtain⟨s7,rfl⟩:=str g7;obtain⟨n9,h9,rfl⟩:=num g9;obtain⟨b,e8,_⟩:=DataW.trod_bool Try.underlying4 (show QC enc Try.prog W 0 sp held m 4 [c8]=some y8 from g8);obtain rfl:c8=.bool b:=by simpa using e8
 obtain⟨p,n,c,L,rfl,sl,_,at6⟩:=jB (S:=sS) Try.underlying22 xd un (show QC enc Try.prog W 0 sp held m 22 [c6]=some y6 from g6);obtain⟨q,mm,k,M,rfl,sl2,ok2,at10⟩:=jB (S:=sgF) Try.underlying33 uk zbj (show QC enc Try.prog W 0 sp held m 33 [c10]=some y10 from g10);exact⟨(⟨s0,n1,s2,s3,s4,s5,L,s7,b,n9,M⟩,(p,n,c),(q,mm,k)),rfl,⟨h1,h9,ok2⟩,sl,sl2,at6,at10⟩
theorem zfe {v:Value}{d:DataW H}{p:List MemPlace}{base:Nat}(hv:UP Try.prog W .any base 36 v)(h:DataW.Trod enc Try.prog W 0 sp held 36 v d p):
 ∃(q:Qc) (n c:Nat) (X:List Hed),v=.slice q n c/\yb q n c/\(∀a∈X,qJ a.1/\yb a.2.1.1 a.2.1.2.1 a.2.1.2.2/\yb a.2.2.1 a.2.2.2.1 a.2.2.2.2/\yu W a.1 a.2.1.1 a.2.1.2.1 a.2.2.1 a.2.2.2.1)/\AtF heS W q n X:=
 zdA (S:=heS) Try.underlying36 uj zfd hv h
end
end
theorem zbB: ∀ {x y:List UInt8},zi x y=false->x≠y->zi y x=true
 | [],[],_,h=>absurd rfl h
 | [],_::_,h,_=>by simp[zi]at h
 | _::_,[],_,_=>rfl
 | a::x,b::y,h,hne=>by
  unfold zi at h⊢;by_cases e:a=b
  ·subst e;have hlt: ¬a.toNat<a.toNat:=UC _;simp only[UC,if_false,if_true]at h⊢;exact zbB h fun e=>hne (by rw[e])
  ·have hn:a.toNat≠b.toNat:=fun q=>e (UInt8.toNat_inj.1 q);by_cases c:b.toNat<a.toNat
   ·rw[if_pos c]
   ·have:a.toNat<b.toNat:=by omega
    rw[if_pos this]at h;cases h
theorem kZ {a b:Qa}(h:zi (tl a) (tl b)=false)(hne:a≠b):zi (tl b) (tl a)=true:=zbB h fun e=>hne (vO e)
theorem zbC {a b:Qa}(h:zi (tl a) (tl b)=true):a≠b:=fun e=>by rw[e,jZ]at h;cases h
theorem zbD {a b:Qa}(h:zi (tl a) (tl b)=true):zi (tl b) (tl a)=false:=QI.2 fun e=>by
 have:=jq h e;rw[jZ]at this;cases this
def nsB (b x:Bal):Bool:= !(decide (x.2.1=b.2.1)&&decide (x.1=b.1))
theorem qK {b x:Bal} :nsB b x=true↔ ¬(x.2.1=b.2.1/\x.1=b.1):=by
 unfold nsB;by_cases h1:x.2.1=b.2.1<;>by_cases h2:x.1=b.1<;>simp[h1,h2]
theorem jH {a b c:Bal}(h1:aheadB a b=true)(h2:aheadB b c=true):aheadB a c=true:=by
 unfold aheadB at*;by_cases e1:a.2.1=b.2.1
 ·rw[if_pos e1]at h1;by_cases e2:b.2.1=c.2.1
  ·rw[if_pos e2]at h2;rw[if_pos (e1.trans e2)];exact jq h1 h2
  ·rw[if_neg e2]at h2;rw[if_neg (by rw[e1];exact e2),e1];exact h2
 ·rw[if_neg e1]at h1;by_cases e2:b.2.1=c.2.1
  ·rw[if_pos e2]at h2;rw[if_neg (by rw[<-e2];exact e1),<-e2];exact h1
  ·rw[if_neg e2]at h2;have h3:=jq h1 h2;rw[if_neg (zbC h3)];exact h3
theorem vc {b x:Bal}(h:aheadB x b=true):nsB b x=true:=qK.2 fun e=>by
 unfold aheadB at h;rw[if_pos e.1,e.2,jZ]at h;cases h
theorem ut {x b:Bal}(h:aheadB x b=false)(hn:nsB b x=true):aheadB b x=true:=by
 have h1:=qK.1 hn;unfold aheadB at*;by_cases e:x.2.1=b.2.1
 ·rw[if_pos e]at h;rw[if_pos e.symm];exact kZ h fun e2=>h1 ⟨e,e2⟩
 ·rw[if_neg e]at h;rw[if_neg (fun q=>e q.symm)];exact kZ h e
def qP (b:Bal):List Bal->List Bal
 | []=>[b]
 | x::r=>if aheadB x b=true then x::qP b r else b::(x::r).filter (nsB b)
theorem zbE (b x:Bal)(r:List Bal):qP b (x::r)=if aheadB x b=true then x::qP b r else b::(x::r).filter (nsB b):=rfl
theorem zbF (b:Bal)(s:List Bal×Bool)(x:Bal):yD b s x=(if nsB b x=true then s.1++ [x] else s.1,s.2):=by
 unfold yD;by_cases h:x.2.1=b.2.1/\x.1=b.1
 ·rw[if_pos h,if_neg (fun e=>qK.1 e h)]
 ·rw[if_neg h,if_pos (qK.2 h)]
theorem uu (b:Bal): ∀(V:List Bal) (A:List Bal),V.foldl (fun s x=>yD b (zV b s x) x) (A,true)=(A++V.filter (nsB b),true)
 | [],A=>by simp
 | x::r,A=>by
  rw[RC,show zV b (A,true) x=(A,true) from rfl,zbF,RK];by_cases h:nsB b x=true
  ·rw[if_pos h,if_pos h,uu b r];simp
  ·rw[if_neg h,if_neg h,uu b r]
def zbG (b:Bal)(s:List Bal×Bool):List Bal:=if s.2=true then s.1 else s.1++ [b]
theorem zbH (b:Bal): ∀(V:List Bal) (A:List Bal),zbG b (V.foldl (fun s x=>yD b (zV b s x) x) (A,false))=A++qP b V
 | [],A=>rfl
 | x::r,A=>by
  rw[RC];cases h:aheadB x b with
  | true=>
   have e1:zV b (A,false) x=(A,false):=by unfold zV;rw[h];rfl
   rw[e1,zbF,if_pos (vc h),zbH b r];rw[zbE,if_pos h];simp
  | false=>
   have e1:zV b (A,false) x=(A++ [b],true):=by unfold zV;rw[h];rfl
   rw[e1];have e2:=uu b (x::r) (A++ [b]);rw[RC,show zV b (A++ [b],true) x=(A++ [b],true) from rfl]at e2;rw[e2];unfold zbG qP;rw[if_pos rfl,if_neg (by rw[h];decide)];simp
theorem uw (b:Bal)(V:List Bal):zx b V=qP b V:=by
 have:=zbH b V [];rw[UE]at this;exact this
abbrev jb (V:List Bal):Prop:=V.Pairwise fun a b=>aheadB a b=true
theorem ux (b:Bal): ∀V:List Bal,(qP b V).Perm (b::V.filter (nsB b))
 | []=>.refl _
 | x::r=>by
  unfold qP;by_cases h:aheadB x b=true
  ·rw[if_pos h,RK,if_pos (vc h)];exact(UQ _ (ux b r)).trans (UO _ _ _)
  ·rw[if_neg h]
theorem zbI (b:Bal): ∀ {V:List Bal},jb V->jb (qP b V)
 | [],_=>List.pairwise_singleton _ _
 | x::r,hs=>by
  obtain⟨h1,h2⟩:=QY.1 hs;unfold qP;by_cases h:aheadB x b=true
  ·rw[if_pos h];refine QY.2 ⟨fun y hy=>?_,zbI b h2⟩;rcases QV.1 ((ux b r).mem_iff.1 hy) with rfl | hy
   ·exact h
   ·exact h1 y (Rr.1 hy).1
  ·rw[if_neg h];refine QY.2 ⟨fun y hy=>?_,RS _ hs⟩;obtain⟨hm,hn⟩:=Rr.1 hy;rcases QV.1 hm with rfl | hm
   ·exact ut (QI.2 h) hn
   ·have h3:=h1 y hm;by_cases hx:nsB b x=true
    ·exact jH (ut (QI.2 h) hx) h3
    ·
     have hxb:x.2.1=b.2.1/\x.1=b.1:=by
      by_cases q:x.2.1=b.2.1/\x.1=b.1
      ·exact q
      ·exact absurd (qK.2 q) hx
     unfold aheadB at h3⊢;rw[hxb.1,hxb.2]at h3;exact h3
theorem zbJ (b:Bal)(V:List Bal):(zx b V).Perm (b::V.filter (nsB b)):=by rw[uw];exact ux b V
theorem zbK (b:Bal){V:List Bal}(h:jb V):jb (zx b V):=by rw[uw];exact zbI b h
theorem zff (c b:Bal)(V:List Bal):zg c (zx b V)=(if yc c b=true then 1 else 0)+((V.filter (nsB b)).filter (yc c)).length:=by
 unfold zg;rw[((zbJ b V).filter (yc c)).length_eq,RK];split
 ·rw[Rg];omega
 ·omega
abbrev jc (L:Qi):Prop:=L.Pairwise fun a b=>zi (tl a) (tl b)=true
theorem zbL (L:Qi)(V:List Bal): ∀(W:List Bal) (p:Option Bal),xg L V p W=true↔(∀x∈W,zQ L x=true/\2*zg x V<=L.length)/\jb W/\ ∀x∈W,qj p x=true
 | [],p=>⟨fun _=>⟨fun x hx=>absurd hx (RH),List.Pairwise.nil,fun x hx=>absurd hx (RH)⟩,fun _=>rfl⟩
 | b::r,p=>by
  have ih:=zbL L V r (some b);show (zQ L b&&(qj p b&&(decide (2*zg b V<=L.length)&&xg L V (some b) r)))=true↔_;rw[Qo,Qo,Qo,ih,decide_eq_true_iff];constructor
  ·rintro⟨h1,h2,h3,h4,h5,h6⟩;refine⟨fun x hx=>?_,QY.2 ⟨h6,h5⟩,fun x hx=>?_⟩
   ·rcases QV.1 hx with rfl|hx
    ·exact⟨h1,h3⟩
    ·exact h4 x hx
   ·rcases QV.1 hx with rfl|hx
    ·exact h2
    ·cases p with
     | none=>rfl
     | some a=>exact jH h2 (h6 x hx)
  ·rintro⟨h1,h2,h3⟩;obtain⟨h4,h5⟩:=QY.1 h2;have h6:=h1 b (Q8 ..);exact⟨h6.1,h3 b (Q8 ..),h6.2,fun x hx=>h1 x (Rm _ hx),h5,h4⟩
theorem jI {L:Qi}{V:List Bal} :zz L V=true↔(∀x∈V,zQ L x=true/\2*zg x V<=L.length)/\jb V/\setM L=true:=by
 unfold zz;rw[Qo,zbL];exact⟨fun h=>⟨h.1.1,h.1.2.1,h.2⟩,fun h=>⟨⟨h.1,h.2.1,fun _ _=>rfl⟩,h.2.2⟩⟩
theorem zbM: ∀(W:Qi) (p:Option Qa),yy p W=true↔(∀x∈W,x.size=20)/\jc W/\ ∀x∈W,upB p x=true
 | [],p=>⟨fun _=>⟨fun x hx=>absurd hx (RH),List.Pairwise.nil,fun x hx=>absurd hx (RH)⟩,fun _=>rfl⟩
 | b::r,p=>by
  have ih:=zbM r (some b);show (decide (b.size=20)&&(upB p b&&yy (some b) r))=true↔_;rw[Qo,Qo,ih,decide_eq_true_iff];constructor
  ·rintro⟨h1,h2,h4,h5,h6⟩;refine⟨fun x hx=>?_,QY.2 ⟨h6,h5⟩,fun x hx=>?_⟩
   ·rcases QV.1 hx with rfl|hx
    ·exact h1
    ·exact h4 x hx
   ·rcases QV.1 hx with rfl|hx
    ·exact h2
    ·cases p with
     | none=>rfl
     | some a=>exact jq h2 (h6 x hx)
  ·rintro⟨h1,h2,h3⟩;obtain⟨h4,h5⟩:=QY.1 h2;exact⟨h1 b (Q8 ..),h3 b (Q8 ..),fun x hx=>h1 x (Rm _ hx),h5,h4⟩
theorem xN {L:Qi} :setM L=true↔(∀x∈L,x.size=20)/\jc L/\0<L.length/\L.length<=16:=by
 unfold setM;rw[Qo,Qo,zbM,decide_eq_true_iff,decide_eq_true_iff];exact⟨fun h=>⟨h.1.1,h.1.2.1,h.2⟩,fun h=>⟨⟨h.1,h.2.1,fun _ _=>rfl⟩,h.2.2⟩⟩
theorem qQ {L:Qi}{b:Bal} :zQ L b=true↔b.1∈L/\b.2.1.size=20/\zF b.2.1 L= !b.2.2:=by
 unfold zQ;rw[Qo,Qo,jE,decide_eq_true_iff];refine and_congr Iff.rfl (and_congr Iff.rfl ?_);cases zF b.2.1 L<;>cases b.2.2<;>simp
def neA (a x:Qa):Bool:= !decide (x=a)
theorem qL {a x:Qa} :neA a x=true↔x≠a:=by unfold neA;by_cases h:x=a<;>simp[h]
def je (a:Qa):Qi->Qi
 | []=>[a]
 | x::r=>if zi (tl a) (tl x)=true then a::(x::r).filter (neA a) else if x=a then je a r else x::je a r
theorem vd (a x:Qa)(r:Qi):je a (x::r)=if zi (tl a) (tl x)=true then a::(x::r).filter (neA a) else if x=a then je a r else x::je a r:=rfl
theorem zbN (a:Qa)(s:Qi×Bool)(x:Qa):yH a s x=(if neA a x=true then s.1++ [x] else s.1,s.2):=by
 unfold yH;by_cases h:x=a
 ·rw[if_pos h,if_neg (fun e=>qL.1 e h)]
 ·rw[if_neg h,if_pos (qL.2 h)]
theorem ve (a:Qa): ∀(L A:Qi),L.foldl (fun s x=>yH a (zW a s x) x) (A,true)=(A++L.filter (neA a),true)
 | [],A=>by simp
 | x::r,A=>by
  rw[RC,show zW a (A,true) x=(A,true) from rfl,zbN,RK];by_cases h:neA a x=true
  ·rw[if_pos h,if_pos h,ve a r];simp
  ·rw[if_neg h,if_neg h,ve a r]
def zbO (a:Qa)(s:Qi×Bool):Qi:=if s.2=true then s.1 else s.1++ [a]
theorem uy (a:Qa): ∀(L A:Qi),zbO a (L.foldl (fun s x=>yH a (zW a s x) x) (A,false))=A++je a L
 | [],A=>rfl
 | x::r,A=>by
  rw[RC,vd];cases h:zi (tl a) (tl x) with
  | true=>
   have e1:zW a (A,false) x=(A++ [a],true):=by unfold zW;rw[h];rfl
   rw[e1];have e2:=ve a (x::r) (A++ [a]);rw[RC,show zW a (A++ [a],true) x=(A++ [a],true) from rfl]at e2;rw[e2,if_pos rfl];unfold zbO;rw[if_pos rfl];simp
  | false=>
   have e1:zW a (A,false) x=(A,false):=by unfold zW;rw[h];rfl
   rw[e1,zbN,if_neg QR];by_cases e:x=a
   ·rw[if_neg (fun q=>qL.1 q e),if_pos e];exact uy a r A
   ·rw[if_pos (qL.2 e),if_neg e];exact(uy a r (A++ [x])).trans (by simp)
theorem vf (a:Qa)(L:Qi):zM a true L=je a L:=by
 have:=uy a L [];rw[UE]at this;exact this
theorem vg (a:Qa)(L:Qi):zM a false L=L.filter (neA a):=by
 have:=ve a L [];rw[UE]at this;unfold zM yR;rw[show (!false)=true from rfl,this,if_pos rfl]
theorem xO (a:Qa): ∀L:Qi,(je a L).Perm (a::L.filter (neA a))
 | []=>.refl _
 | x::r=>by
  rw[vd];by_cases h:zi (tl a) (tl x)=true
  ·rw[if_pos h]
  ·rw[if_neg h];by_cases e:x=a
   ·rw[if_pos e,RK,if_neg (fun q=>qL.1 q e)];exact xO a r
   ·rw[if_neg e,RK,if_pos (qL.2 e)];exact(UQ _ (xO a r)).trans (UO _ _ _)
theorem uz (a:Qa): ∀ {L:Qi},jc L->jc (je a L)
 | [],_=>List.pairwise_singleton _ _
 | x::r,hs=>by
  obtain⟨h1,h2⟩:=QY.1 hs;rw[vd];by_cases h:zi (tl a) (tl x)=true
  ·rw[if_pos h];refine QY.2 ⟨fun y hy=>?_,RS _ hs⟩;rcases QV.1 (Rr.1 hy).1 with rfl | hm
   ·exact h
   ·exact jq h (h1 y hm)
  ·rw[if_neg h];by_cases e:x=a
   ·rw[if_pos e];exact uz a h2
   ·rw[if_neg e];refine QY.2 ⟨fun y hy=>?_,uz a h2⟩;rcases QV.1 ((xO a r).mem_iff.1 hy) with rfl | hy
    ·exact kZ (QI.2 h) fun q=>e q.symm
    ·exact h1 y (Rr.1 hy).1
theorem uA {a:Qa}{L:Qi}(h:a∉L):L.filter (neA a)=L:=Ro.2 fun x hx=>qL.2 fun e=>h (e▸hx)
theorem zbP {a:Qa} : ∀ {L:Qi},jc L->a∈L->(L.filter (neA a)).length+1=L.length
 | [],_,h=>absurd h (RH)
 | x::r,hs,h=>by
  obtain⟨h1,h2⟩:=QY.1 hs;rw[RK];by_cases e:x=a
  ·rw[if_neg (fun q=>qL.1 q e),uA (fun hm=>zbC (h1 a hm) e),Rg]
  ·rw[if_pos (qL.2 e),Rg,Rg];rcases QV.1 h with q | q
   ·exact absurd q.symm e
   ·have:=zbP h2 q;omega
theorem uB {a:Qa}{add:Bool}{L:Qi}{x:Qa} :x∈zM a add L↔(add=true/\x=a)\/(x∈L/\x≠a):=by
 cases add with
 | true=>
  rw[vf,(xO a L).mem_iff,QV,Rr,qL];simp
 | false=>
  rw[vg,Rr,qL];simp
theorem zbQ {a:Qa}{L:Qi}(h:a∉L):(zM a true L).length=L.length+1:=by
 rw[vf,(xO a L).length_eq,Rg,uA h]
theorem zfg {a:Qa}{L:Qi}(hs:jc L)(h:a∈L):(zM a false L).length+1=L.length:=by
 rw[vg];exact zbP hs h
theorem xP {a:Qa}{L:Qi}(h:zF a L=false):a∉L:=fun e=>by rw[jE.2 e]at h;cases h
theorem zfh {a:Qa}{L M:Qi}(h:a∈L↔a∈M):zF a L=zF a M:=by
 cases e:zF a M with
 | true=>exact jE.2 (h.2 (jE.1 e))
 | false=>exact QI.2 fun q=>xP e (h.1 (jE.1 q))
theorem zfi {a:Qa}{add:Bool}{L:Qi}(hr:setM L=true)(ha:a.size=20)(hh:zF a L= !add)(h1:add=true->L.length<16)(h2:add=false->L.length≠1):setM (zM a add L)=true:=by
 obtain⟨q1,q2,q3,q4⟩:=xN.1 hr;refine xN.2 ⟨fun x hx=>?_,?_,?_⟩
 ·rcases uB.1 hx with⟨_,rfl⟩|⟨hx,_⟩
  ·exact ha
  ·exact q1 x hx
 ·cases add with
  | true=>rw[vf];exact uz a q2
  | false=>rw[vg];exact RS _ q2
 ·cases add with
  | true=>
   have:=zbQ (xP hh);have:=h1 rfl;omega
  | false=>
   have:=zfg q2 (jE.1 hh);have:=h2 rfl;omega
theorem zfj {b x:Bal}(h:yc x b=true):zg x=zg b:=by
 unfold yc at h;rw[Qo,decide_eq_true_iff,beq_iff_eq]at h;funext V;unfold zg;congr 2;funext y;unfold yc;rw[h.1,h.2]
theorem uC {c:Bal}{A V:List Bal}(h:A.Sublist V):zg c A<=zg c V:=(h.filter _).length_le
theorem zbR {b x:Bal}{V:List Bal}(h: ¬yc x b=true):zg x (zx b V)<=zg x V:=by
 rw[zff,if_neg h,Nat.zero_add];exact uC (Uz)
theorem uD {b x:Bal}{V:List Bal} :x∈zx b V↔x=b\/(x∈V/\nsB b x=true):=by
 rw[(zbJ b V).mem_iff,QV,Rr]
theorem zfk {L:Qi}{V:List Bal}{b:Bal}(h:(zC L V b).2.2=0):zz L V=true/\zQ L b=true/\(b.2.2=true->L.length<16)/\(b.2.2=false->L.length≠1)/\
 zC L V b=if 2*zg b (zx b V)<=L.length then (L,zx b V,0) else (zM b.2.1 b.2.2 L,((zx b V).filter (zN b)).filter (fun x=>b.2.2||decide (2*zg x ((zx b V).filter (zN b))<=(zM b.2.1 b.2.2 L).length)),0):=by
 unfold zC at h⊢;by_cases h1:zz L V=false
 ·rw[if_pos h1]at h;cases h
 rw[if_neg h1]at h⊢;by_cases h2:zQ L b=false\/(b.2.2=true/\16<=L.length)\/(b.2.2=false/\L.length=1)
 ·rw[if_pos h2]at h;cases h
 rw[if_neg h2];refine⟨by cases e:zz L V<;>simp_all,by cases e:zQ L b<;>simp_all,fun e=>?_,fun e q=>h2 (.inr (.inr ⟨e,q⟩)),rfl⟩;exact Nat.lt_of_not_le fun q=>h2 (.inr (.inl ⟨e,q⟩))
theorem zfl {L:Qi}{V:List Bal}{b:Bal}(h:(zC L V b).2.2=0):zz (zC L V b).1 (zC L V b).2.1=true:=by
 obtain⟨hr,hf,ha,hc,e⟩:=zfk h;rw[e];obtain⟨r1,r2,r3⟩:=jI.1 hr;obtain⟨f1,f2,f3⟩:=qQ.1 hf;by_cases h2:2*zg b (zx b V)<=L.length
 ·rw[if_pos h2];refine jI.2 ⟨fun x hx=>?_,zbK b r2,r3⟩;rcases uD.1 hx with rfl | ⟨hx,hn⟩
  ·exact⟨hf,h2⟩
  ·refine⟨(r1 x hx).1,?_⟩;by_cases q:yc x b=true
   ·rw[zfj q];exact h2
   ·have:=zbR (V:=V) q;have:=(r1 x hx).2;show 2*zg x (zx b V)<=L.length;omega
 ·rw[if_neg h2];have hset:setM (zM b.2.1 b.2.2 L)=true:=zfi r3 f2 f3 ha hc;refine jI.2 ⟨fun x hx=>?_,(RS _ (RS _ (zbK b r2))),hset⟩;change x∈((zx b V).filter (zN b)).filter _ at hx;obtain⟨hx1,hx2⟩:=Rr.1 hx;obtain⟨hx3,hx4⟩:=Rr.1 hx1;unfold zN at hx4;rw[Qo,decide_eq_true_iff,R2,decide_eq_true_iff]at hx4;have hxV:x∈V:=by
   rcases uD.1 hx3 with rfl|⟨hx,_⟩
   ·exact absurd rfl hx4.1
   ·exact hx
  obtain⟨g1,g2⟩:=r1 x hxV;obtain⟨g3,g4,g5⟩:=qQ.1 g1;refine⟨qQ.2 ⟨uB.2 ?_,g4,?_⟩,?_⟩
  ·by_cases q:x.1=b.2.1
   ·rcases hx4.2 with h9|h9
    ·exact .inl ⟨h9,q⟩
    ·exact absurd q h9
   ·exact .inr ⟨g3,q⟩
  ·refine(zfh ?_).trans g5;rw[uB];exact⟨fun h9=>h9.elim (fun q=>absurd q.2 hx4.1) (·.1),fun h9=>.inr ⟨h9,hx4.1⟩⟩
  ·show 2*zg x (((zx b V).filter (zN b)).filter _)<=(zM b.2.1 b.2.2 L).length;cases had:b.2.2 with
   | true=>
    have k1:zg x (((zx b V).filter (zN b)).filter (fun x=>true||decide (2*zg x ((zx b V).filter (zN b))<=(zM b.2.1 true L).length)))<=zg x (zx b V):=uC (List.Sublist.trans Uz Uz)
    have k2:zg x (zx b V)<=zg x V:=zbR fun q=>hx4.1 (by
     unfold yc at q;rw[Qo,decide_eq_true_iff]at q;exact q.1.symm)
    rw[had]at f3;have k3:=zbQ (xP f3);omega
   | false=>
    rw[had,Ue,decide_eq_true_iff]at hx2;exact RA (Nat.mul_le_mul_left 2 (uC Uz)) hx2
def whoC (a:Qa)(V:List Bal):Nat:=(V.filter fun x=>decide (x.2.1=a)).length
theorem zbS (a:Qa)(V:List Bal):whoC a V<=V.length:=RE _ _
theorem uE (a:Qa)(V:List Bal)(x:Bal):whoC a (V++ [x])=whoC a V+if x.2.1=a then 1 else 0:=by
 unfold whoC;rw[Rh,Qz];congr 1;by_cases h:x.2.1=a
 ·rw[if_pos h,RV (by simpa using h)];rfl
 ·rw[if_neg h,Rl (by simpa using h)];rfl
def jr:Option Bal->Nat->Bal->Nat
 | none,m,_=>m+1
 | some a,m,x=>(if a.2.1=x.2.1 then m else 0)+1
def xh (L:Qi):Option Bal->Nat->List Bal->Bool
 | _,_,[]=>true
 | p,m,x::r=>zQ L x&&(qj p x&&(decide (2*jr p m x<=L.length)&&xh L (some x) (jr p m x) r))
def qz (L:Qi)(V:List Bal):Bool:=xh L none 0 V
theorem uF {L:Qi}{V:List Bal}{x:Bal}(hx:zQ L x=true)(hV: ∀y∈V,zQ L y=true):zg x V=whoC x.2.1 V:=by
 unfold zg whoC;congr 1;refine List.filter_congr fun y hy=>?_;obtain⟨_,_,h1⟩:=qQ.1 hx;obtain⟨_,_,h2⟩:=qQ.1 (hV y hy);unfold yc;by_cases e:y.2.1=x.2.1
 ·rw[e,h1]at h2;rw[decide_eq_true e,Q7,beq_iff_eq];cases hy2:y.2.2<;>cases hx2:x.2.2<;>simp_all
 ·rw[decide_eq_false e];rfl
structure Run (A:List Bal)(p:Option Bal)(m:Nat):Prop where
 no:p=none->A=[]/\m=0
 so: ∀a,p=some a->m=whoC a.2.1 A/\ ∀y∈A,y=a\/aheadB y a=true
theorem Run.next {A:List Bal}{p:Option Bal}{m:Nat}{x:Bal}(h:Run A p m)(hp:qj p x=true):Run (A++ [x]) (some x) (jr p m x):=by
 refine⟨(fun q=>nomatch q),fun a q=>?_⟩;obtain rfl:x=a:=Q6.inj q;refine⟨?_,fun y hy=>?_⟩
 ·rw[uE,if_pos rfl];cases p with
  | none=>
   obtain⟨rfl,rfl⟩:=h.no rfl;rfl
  | some a=>
   obtain⟨hm,ha⟩:=h.so a rfl;show (if a.2.1=x.2.1 then m else 0)+1=_;by_cases e:a.2.1=x.2.1
   ·rw[if_pos e,hm,e]
   ·rw[if_neg e];congr 1;unfold whoC;rw[List.filter_eq_nil_iff.2,List.length_nil];intro y hy;simp only[decide_eq_true_eq];intro hyx;have hp2:aheadB a x=true:=hp;have hlt:zi (tl a.2.1) (tl x.2.1)=true:=by unfold aheadB at hp2;rwa [if_neg e]at hp2
    rcases ha y hy with rfl|hya
    ·exact e hyx
    ·unfold aheadB at hya;by_cases e2:y.2.1=a.2.1
     ·exact e (e2.symm.trans hyx)
     ·rw[if_neg e2,hyx]at hya;rw[zbD hlt]at hya;cases hya
 ·rcases UH.1 hy with hy|hy
  ·cases p with
   | none=>rw[(h.no rfl).1]at hy;exact nomatch hy
   | some a=>
    have hp2:aheadB a x=true:=hp;rcases (h.so a rfl).2 y hy with rfl | q
    ·exact .inr hp2
    ·exact .inr (jH q hp2)
  ·exact .inl (Rz.1 hy)
theorem uG {L:Qi} : ∀(W A:List Bal) (p:Option Bal) (m:Nat),Run A p m->(xh L p m W=true↔(∀x∈W,zQ L x=true)/\jb W/\(∀x∈W,qj p x=true)/\ ∀B x C,W=B++x::C->2*whoC x.2.1 (A++B++ [x])<=L.length)
 | [],A,p,m,_=>⟨fun _=>⟨fun x hx=>absurd hx (RH),List.Pairwise.nil,fun x hx=>absurd hx (RH),fun B x C h=>by simp at h⟩,fun _=>rfl⟩
 | x::r,A,p,m,hR=>by
  unfold xh;rw[Qo,Qo,Qo,decide_eq_true_iff];constructor
  ·rintro⟨h1,h2,h3,h4⟩;have hn:=hR.next h2
   obtain⟨g1,g2,g3,g4⟩:=(uG r (A++ [x]) (some x) _ hn).1 h4;refine⟨fun y hy=>?_,QY.2 ⟨g3,g2⟩,fun y hy=>?_,fun B y C e=>?_⟩
   ·rcases QV.1 hy with rfl|hy
    ·exact h1
    ·exact g1 y hy
   ·rcases QV.1 hy with rfl|hy
    ·exact h2
    ·cases p with
     | none=>rfl
     | some a=>exact jH h2 (g3 y hy)
   ·cases B with
    | nil=>
     obtain⟨rfl,rfl⟩:x=y/\r=C:=by simpa using e
     rw[Ru,<-(hn.so x rfl).1];exact h3
    | cons z B=>
     obtain⟨rfl,e⟩:x=z/\r=B++y::C:=by simpa using e
     have:=g4 B y C (by assumption);rw[show A++x::B=A++ [x]++B by simp];exact this
  ·rintro⟨g1,g2,g3,g4⟩;obtain⟨q1,q2⟩:=QY.1 g2;have h2:=g3 x (Q8 ..);have hn:=hR.next h2
   refine⟨g1 x (Q8 ..),h2,?_,(uG r (A++ [x]) (some x) _ hn).2 ⟨fun y hy=>g1 y (Rm _ hy),q2,q1,fun B y C e=>?_⟩⟩
   ·have:=g4 [] x r rfl;rw[Ru,<-(hn.so x rfl).1]at this;exact this
   ·have:=g4 (x::B) y C (by rw[e];rfl);rw[show A++ [x]++B=A++x::B by simp];exact this
theorem zbT {α:Type}{P:List α->Prop}(h0:P [])(h1: ∀A x,P A->P (A++ [x]))(V:List α):P V:=by
 have: ∀n (V:List α),V.length=n->P V:=by
  intro n
  induction n with
  | zero=>intro V h;rw[List.length_eq_zero_iff.1 h];exact h0
  | succ n ih=>
   intro V h;have hne:V≠[]:=fun e=>by rw[e]at h;cases h
   have:=h1 V.dropLast (V.getLast hne) (ih _ (by rw[List.length_dropLast,h];rfl))
   rwa [List.dropLast_concat_getLast hne]at this
 exact this _ V rfl
theorem zfm {k:Nat}(V:List Bal):(∀B x C,V=B++x::C->2*whoC x.2.1 (B++ [x])<=k)-> ∀x∈V,2*whoC x.2.1 V<=k:=by
 refine zbT (P:=fun V=>(∀B x C,V=B++x::C->2*whoC x.2.1 (B++ [x])<=k)-> ∀x∈V,2*whoC x.2.1 V<=k) (fun _ x hx=>absurd hx (RH)) (fun A y ih h x hx=>?_) V;have hy:=h A y [] rfl;by_cases e:x.2.1=y.2.1
 ·rw[e];exact hy
 ·rcases UH.1 hx with hx|hx
  ·have:=ih (fun B z C q=>h B z (C++ [y]) (by rw[q];simp)) x hx;rw[uE,if_neg (fun q=>e q.symm)];exact this
  ·rw[Rz.1 hx]at e;exact absurd rfl e
theorem zfn (L:Qi)(V:List Bal):(setM L&&qz L V)=zz L V:=by
 rw[RQ,jI,Qo];unfold qz;rw[uG V [] none 0 ⟨fun _=>⟨rfl,rfl⟩,(fun a h=>nomatch h)⟩];constructor
 ·rintro⟨hs,h1,h2,_,h4⟩;have h5:=zfm (k:=L.length) V (fun B x C e=>by simpa using h4 B x C e);exact⟨fun x hx=>⟨h1 x hx,by rw[uF (h1 x hx) h1];exact h5 x hx⟩,h2,hs⟩
 ·rintro⟨h1,h2,hs⟩;refine⟨hs,fun x hx=>(h1 x hx).1,h2,fun _ _=>rfl,fun B x C e=>?_⟩;have hx:x∈V:=by rw[e];simp
  have:=(h1 x hx).2;rw[uF (h1 x hx).1 (fun y hy=>(h1 y hy).1)]at this;have hsub:(([]:List Bal)++B++ [x]).Sublist V:=by
   rw[e,UE];exact List.Sublist.append (List.Sublist.refl _) (List.Sublist.cons_cons _ (QH _))
  have:whoC x.2.1 ([]++B++ [x])<=whoC x.2.1 V:=(hsub.filter _).length_le;omega
def zp {α:Type}(f:α->Bool):List α->Nat
 | []=>0
 | x::r=>if f x=true then zp f r+1 else 0
theorem jt {α:Type}(f:α->Bool): ∀L:List α,zp f L<=L.length
 | []=>Qu _
 | x::r=>by
  have:=jt f r;unfold zp;split
  ·rw[Rg];omega
  ·omega
def zu {α:Type}[DecidableEq α](f:α->Bool)(b:α)(L:List α):List α:=if L[zp f L]? =some b then L else L.take (zp f L)++b::L.drop (zp f L)
theorem zbU {α:Type}[DecidableEq α](f:α->Bool)(b x:α)(r:List α):zu f b (x::r)=if f x=true then x::zu f b r else if x=b then x::r else b::x::r:=by
 unfold zu;rw[zp];by_cases h:f x=true
 ·rw[if_pos h,if_pos h];rw[List.getElem?_cons_succ];by_cases e:r[zp f r]? =some b
  ·rw[if_pos e,if_pos e]
  ·rw[if_neg e,if_neg e];rfl
 ·rw[if_neg h,if_neg h,List.getElem?_cons_zero];by_cases e:x=b
  ·rw[if_pos e,if_pos (by rw[e])]
  ·rw[if_neg e,if_neg (fun q=>e (Q6.inj q))];rfl
theorem zfo (b:Bal): ∀ {V:List Bal},jb V->(∀x∈V,nsB b x=false->x=b)->zu (fun x=>aheadB x b) b V=zx b V:=by
 intro V hs hb;rw[uw]
 induction V with
 | nil=>rfl
 | cons x r ih=>
  obtain⟨h1,h2⟩:=QY.1 hs;rw[zbU,zbE];by_cases h:aheadB x b=true
  ·rw[if_pos h,if_pos h,ih h2 fun y hy=>hb y (Rm _ hy)]
  ·rw[if_neg h,if_neg h];by_cases e:x=b
   ·rw[if_pos e];subst e;rw[RK,if_neg (fun e=>qK.1 e ⟨rfl,rfl⟩),Ro.2];intro y hy;exact qK.2 fun q=>qK.1 (vc (h1 y hy)) ⟨q.1.symm,q.2.symm⟩
   ·rw[if_neg e];have hn:nsB b x=true:=by
     cases q:nsB b x with
     | true=>rfl
     | false=>exact absurd (hb x (Q8 ..) q) e
    have ha:=ut (QI.2 h) hn;rw[Ro.2];intro y hy;rcases QV.1 hy with rfl | hy
    ·exact hn
    ·exact qK.2 fun q=>qK.1 (vc (jH ha (h1 y hy))) ⟨q.1.symm,q.2.symm⟩
theorem zfp (a:Qa): ∀ {L:Qi},jc L->a∉L->zu (fun x=>zi (tl x) (tl a)) a L=zM a true L:=by
 intro L hs ha;rw[vf]
 induction L with
 | nil=>rfl
 | cons x r ih=>
  obtain⟨h1,h2⟩:=QY.1 hs;have hxa:x≠a:=fun e=>ha (by rw[e];exact Q8 ..);rw[zbU,vd];by_cases h:zi (tl x) (tl a)=true
  ·rw[if_pos h,if_neg (by rw[zbD h];exact QR),if_neg hxa,ih h2 fun q=>ha (Rm _ q)]
  ·rw[if_neg h,if_neg hxa,if_pos (kZ (QI.2 h) hxa),uA ha]
def goB (b x:Bal):Bool:=decide (x.2.1=b.2.1)||decide (x.1=b.2.1)
def qb (many:List Bal)(n:Nat)(x:Bal):Bool:=decide (n<2*whoC x.2.1 many)
def yS (L:Qi)(V:List Bal)(b:Bal):Qi×List Bal:=
 if b.2.2=true then (zu (fun x=>zi (tl x) (tl b.2.1)) b.2.1 L,V.filter fun x=> !goB b x)
 else (L.filter (fun x=> !decide (x=b.2.1)),(V.filter fun x=> !goB b x).filter fun x=> !qb (V.filter fun x=> !goB b x) (L.filter (fun x=> !decide (x=b.2.1))).length x)
def ju (L:Qi)(b:Bal):Bool:=zQ L b&&(if b.2.2=true then decide (L.length<16) else decide (1<L.length))
def qR (L:Qi)(V:List Bal)(b:Bal):Qi×List Bal×Nat:=
 if zz L V=false then ([],[],1)
 else if ju L b=false then ([],[],44)
 else if L.length<2*zg b (zu (fun x=>aheadB x b) b V) then ((yS L (zu (fun x=>aheadB x b) b V) b).1,(yS L (zu (fun x=>aheadB x b) b V) b).2,0)
 else (L,zu (fun x=>aheadB x b) b V,0)
theorem vh (L:Qi)(V:List Bal)(b:Bal):qR L V b=zC L V b:=by
 unfold qR zC;by_cases hr:zz L V=false
 ·rw[if_pos hr,if_pos hr]
 rw[if_neg hr,if_neg hr];have hr:zz L V=true:=by cases q:zz L V<;>simp_all
 obtain⟨r1,r2,r3⟩:=jI.1 hr;obtain⟨s1,s2,s3,s4⟩:=xN.1 r3;by_cases hc:ju L b=false
 ·rw[if_pos hc,if_pos];unfold ju at hc;cases ef:zQ L b with
  | false=>exact .inl rfl
  | true=>
   rw[ef,Q7]at hc;cases eb:b.2.2 with
   | true=>rw[eb,if_pos rfl,decide_eq_false_iff_not]at hc;exact .inr (.inl ⟨rfl,by omega⟩)
   | false=>rw[eb,if_neg (by decide),decide_eq_false_iff_not]at hc;exact .inr (.inr ⟨rfl,by omega⟩)
 have hc':zQ L b=true/\(if b.2.2=true then decide (L.length<16) else decide (1<L.length))=true:=by
  unfold ju at hc
  rwa [Bool.not_eq_false,Qo]at hc
 obtain⟨hf,hl⟩:=hc';obtain⟨f1,f2,f3⟩:=qQ.1 hf;have hno: ¬(zQ L b=false\/(b.2.2=true/\16<=L.length)\/(b.2.2=false/\L.length=1)):=fun h=>by
  rcases h with h|⟨h,h9⟩|⟨h,h9⟩
  ·rw[hf]at h;cases h
  ·rw[h,if_pos rfl,decide_eq_true_iff]at hl;omega
  ·rw[h,if_neg (by decide),decide_eq_true_iff]at hl;omega
 rw[if_neg hc,if_neg hno];have hput:zu (fun x=>aheadB x b) b V=zx b V:=zfo b r2 fun x hx hn=>by
  have hn: ¬nsB b x=true:=by rw[hn];exact QR
  have hq:x.2.1=b.2.1/\x.1=b.1:=by
   by_cases q:x.2.1=b.2.1/\x.1=b.1
   ·exact q
   ·exact absurd (qK.2 q) hn
  obtain⟨g1,g2,g3⟩:=qQ.1 (r1 x hx).1;rw[hq.1,f3]at g3;exact U4 hq.2 (U4 hq.1 (by cases e1:x.2.2<;>cases e2:b.2.2<;>simp_all))
 rw[hput];by_cases h2:2*zg b (zx b V)<=L.length
 ·rw[if_neg (by omega),if_pos h2]
 rw[if_pos (by omega),if_neg h2];have hall: ∀x∈zx b V,zQ L x=true:=fun x hx=>by
  rcases uD.1 hx with rfl|⟨hx,_⟩
  ·exact hf
  ·exact(r1 x hx).1
 have hgo:((zx b V).filter fun x=> !goB b x)=(zx b V).filter (zN b):=List.filter_congr fun x hx=>by
  unfold goB zN;have hx1:=(qQ.1 (hall x hx)).1;by_cases e1:x.2.1=b.2.1
  ·simp[e1]
  cases eb:b.2.2 with
  | false=>by_cases e2:x.1=b.2.1<;>simp[e1,e2]
  | true=>
   rw[eb]at f3;have:x.1≠b.2.1:=fun q=>xP f3 (q▸hx1);simp[e1,this]
 unfold yS;rw[hgo];cases eb:b.2.2 with
 | true=>
  rw[eb]at f3;rw[if_pos rfl,zfp b.2.1 s2 (xP f3)];refine U4 rfl (U4 ?_ rfl);show (zx b V).filter (zN b)=((zx b V).filter (zN b)).filter _;exact(Ro.2 fun x _=>rfl).symm
 | false=>
  rw[if_neg (by decide)];have hcut:L.filter (fun x=> !decide (x=b.2.1))=zM b.2.1 false L:=by rw[vg];rfl
  rw[hcut];refine U4 rfl (U4 ?_ rfl);refine List.filter_congr fun x hx=>?_;have hx1:=Rr.1 hx;have hw:=uF (L:=L) (V:=(zx b V).filter (zN b)) (hall x hx1.1) (fun y hy=>hall y (Rr.1 hy).1);unfold qb;rw[<-hw,Ue];by_cases q:2*zg x ((zx b V).filter (zN b))<=(zM b.2.1 false L).length
  ·rw[decide_eq_true q,decide_eq_false (by omega)];rfl
  ·rw[decide_eq_false q,decide_eq_true (by omega)];rfl
section
open D2 (Gh)
theorem yo {w w':World}{b:Nat}{o:Obj}(h:w.heap[b]? =some o)(hb:Below w.heap.size w w'):w'.heap[b]? =some o:=by rw[hb.block b (zf h)];exact h
theorem zbV (x y:Qa):(!(Rv x.toList y.toList))= !(zi (tl x) (tl y)):=by rw[ja]
def qM (a:Qa):Nat->Qi->Int
 | _,[]=> -1
 | k,x::r=>if x=a then (k:Int) else qM a (k+1) r
theorem zbW (a:Qa): ∀(L:Qi) (k:Nat),decide (qM a k L≥0)=zF a L
 | [],k=>rfl
 | x::r,k=>by
  unfold qM zF;by_cases h:x=a
  ·rw[if_pos h,decide_eq_true h];exact decide_eq_true (by omega)
  ·rw[if_neg h,decide_eq_false h,Ue];exact zbW a r (k+1)
theorem zfq (p:Qc)(n c:Nat)(L:Qi)(a:Qa)(hL:L.length<=1000000):FnP Try.prog 76 #[.slice p n c,.string a] (fun w=>AtF sS w p n L) (.int .i64 (qM a 0 L)):=by
 refine FnP.intro (c:=zk Try.f76) [.tmp 4] 19 Try.func76 kr kr kr fun w hP=>?_;have hn:=hP.1;have H0:=St.start w;refine rS [.v] H0 kr fun gs1 w1 H1=>zb kr<|rS [.v,.v,.v] H1 kr fun gs2 w2 H2=>zR 8 7 9 18 0 1 n (by omega) (fun i ρ ww=>qM a 0 L=qM a i (L.drop i)/\St w.heap.size w ww []/\Is [(0,.slice p n c),(1,.string a),(7,iN n),(8,iN i)] ρ) (by rintro i _ ww ⟨_,_,_,rfl⟩;exact⟨kr,kr⟩) ⟨rfl,H2.as kr,isK⟩ ?_ ?_
 ·clear H0 H1 H2;rintro i _ w3 hi ⟨hst,H3,_,rfl⟩;obtain⟨x,hx⟩:∃x,L[i]? =some x:=⟨_,Ql (by omega)⟩
  obtain⟨bl,off,C,T,fz,hp,hh,hR⟩:=hP.row2 (by omega);have hcx:C[off+i*1]? =some (.string x):=hR.cell hx 0 (by decide);rw[qi hx]at hst;change qM a 0 L=(if x=a then (i:Int) else qM a (i+1) (L.drop (i+1)))at hst;refine rS [.v,.v] H3 kr fun gs4 w4 H4=>?_;by_cases e:a=x
  ·refine rS [.v,.v,.v,.o (ins:=[((.tmp 12),.slice p n c),((.tmp 13),iN i)]) (v:=.pointer (some ⟨bl,off+i*1,none⟩)) (fun ρ o w ho hi2=>zo (kd:=.i64) (t:=22) (e:=9) (K:=1) (bytes:=16) kr (x:=(.tmp 12)) (y:=(.tmp 13)) bl off n c i hp ho hi2.1 hi2.2.1 (by omega) w),.fs (off:=off+i*1) (v:=.string x) hh (zf hh) hcx,.E (.bool (a.toList==x.toList)) (.bool true) (za (ya _ _ e))] H4 kr fun gs5 w5 H5=>zh<|rS [.v,.v] H5 kr fun gs6 w6 H6=>?_;exact rRe [.tmp 4] [] (v:=iN i) (v':=.int .i64 (qM a 0 L)) H6 (zd (by rw[hst,if_pos e.symm])) kr
  ·refine rS [.v,.v,.v,.o (ins:=[((.tmp 12),.slice p n c),((.tmp 13),iN i)]) (v:=.pointer (some ⟨bl,off+i*1,none⟩)) (fun ρ o w ho hi2=>zo (kd:=.i64) (t:=22) (e:=9) (K:=1) (bytes:=16) kr (x:=(.tmp 12)) (y:=(.tmp 13)) bl off n c i hp ho hi2.1 hi2.2.1 (by omega) w),.fs (off:=off+i*1) (v:=.string x) hh (zf hh) hcx,.E (.bool (a.toList==x.toList)) (.bool false) (za (zT _ _ e))] H4 kr fun gs5 w5 H5=>zl ?_;exact⟨kr,by rw[hst,if_neg (fun q=>e q.symm)],H5.as kr,isK⟩
 ·rintro _ w3 ⟨hst,H3,_,rfl⟩;rw[QD (by omega)]at hst;refine wW<|rS [.v] H3 kr fun gs4 w4 H4=>?_;exact rRe [.tmp 4] [] (v:=.int .i64 (-1)) (v':=.int .i64 (qM a 0 L)) H4 (zd hst.symm) kr
theorem zfr (p:Qc)(n c:Nat)(L:Qi)(a:Qa)(hL:L.length<=1000000):FnP Try.prog 60 #[.slice p n c,.string a] (fun w=>AtF sS w p n L) (.bool (zF a L)):=by
 refine FnP.intro (c:=zk Try.f60) [.tmp 4] 9 Try.func60 kr kr kr fun w hP=>?_;have hi:=zfq p n c L a hL;refine rS [.v] (St.start w) kr fun gs1 w1 H1=>rS [.v,.v,.cp (pre:=fun w=>AtF sS w p n L) hi [] (fun w hb hd=>hP.call hb),.E (.bool (decide (qM a 0 L≥0))) (.bool (zF a L)) (za (zbW a L 0)),.v] H1 kr fun gs2 w2 H2=>?_;exact rR [.tmp 4] [] (.bool (zF a L)) H2 kr
theorem uH (q:Qc)(m cq:Nat)(L:Qi)(p:Qc)(n c:Nat)(a:Qa)(hL:L.length<=1000000):FnP Try.prog 47 #[snV q m cq p n c,.string a] (fun w=>AtF sS w q m L) (.bool (zF a L)):=by
 refine FnP.intro (c:=zk Try.f47) [.tmp 4] 9 Try.func47 kr kr kr fun w hP=>?_;have hi:=zfr q m cq L a hL;refine rS [.b,.v] (St.start w) kr fun gs1 w1 H1=>rS [.v,.l 0,.v,.cp (pre:=fun w=>AtF sS w q m L) hi [] (fun w hb hd=>hP.call hb),.v] H1 kr fun gs2 w2 H2=>?_;exact rR [.tmp 4] [] (.bool (zF a L)) H2 kr
theorem zfs (q:Qc)(m cq:Nat)(p:Qc)(n c:Nat)(V:List Bal)(b:Bal)(hV:V.length<=1000000):FnP Try.prog 51 #[snV q m cq p n c,blV b] (fun w=>AtF blS w p n V) (iN (zg b V)):=by
 refine FnP.intro (c:=zk Try.f51) [.tmp 4] 31 Try.func51 kr kr kr fun w hP=>?_;have hn:=hP.1;have H0:=St.start w;refine rS [.b,.b,.v] H0 kr fun gs1 w1 H1=>rS [.v] H1 kr fun gs2 w2 H2=>zb kr<|rS [.v,.l 0,.v,.v] H2 kr fun gs3 w3 H3=>zR 11 10 12 29 0 1 n (by omega) (fun i ρ ww=>St w.heap.size w ww [((gs1 0).b,snO q m cq p n c),((gs1 1).b,blO b)]/\Is [(3,Qe (gs1 1).b),(5,iN (zg b (V.take i))),(9,.slice p n c),(10,iN n),(11,iN i)] ρ) (by rintro i _ ww ⟨_,_,rfl⟩;exact⟨kr,kr⟩) ⟨H3.as kr,isK⟩ ?_ ?_
 ·clear H0 H1 H2 H3;rintro i _ w4 hi ⟨H4,_,rfl⟩;obtain⟨x,hx⟩:∃x,V[i]? =some x:=⟨_,Ql (by omega)⟩
  obtain⟨bl,off,C,T,fz,hp,hh,hR⟩:=hP.row2 (by omega);have hle:=xf b (V.take i);rw[Qt]at hle;have hsn:zg b (V.take (i+1))=zg b (V.take i)+if yc b x=true then 1 else 0:=by rw[zU hx,zbk]
  refine rS [.o (ins:=[((.tmp 9),.slice p n c),((.tmp 11),iN i)]) (v:=.pointer (some ⟨bl,off+i*3,none⟩)) (fun ρ o w ho hi2=>zo (kd:=.i64) (t:=30) (e:=56) (K:=3) (bytes:=40) kr (x:=(.tmp 9)) (y:=(.tmp 11)) bl off n c i hp ho hi2.1 hi2.2.1 (by omega) w),.fp (off:=off+i*3) (n:=3) (W:=blC x) hh (zf hh) (hR _ _ hx).1 (hR _ _ hx).2,.a,.s 2] H4 kr fun gs4 w5 H5=>?_;have drop1: ∀ {ww:World},St w.heap.size w ww [((gs1 0).b,snO q m cq p n c),((gs1 1).b,blO b),((gs4 2).b,blO x)]->St w.heap.size w ww [((gs1 0).b,snO q m cq p n c),((gs1 1).b,blO b)]:=fun H=>H.sub (QM [_,_] [_]);by_cases e:x.2.1=b.2.1
  ·refine rS [.v,.l 2,.v,.l 1,.E (.bool (x.2.1.toList==b.2.1.toList)) (.bool true) (za (ya _ _ e)),.v,.v,.l 2,.v,.l 1,.E (.bool (x.2.2==b.2.2)) (.bool (yc b x)) (za (by unfold yc;rw[decide_eq_true e];rfl)),.v] H5 kr fun gs5 w6 H6=>?_;by_cases hf:yc b x=true
   ·refine qY 26 (v:=.bool (yc b x)) (v':=.bool true) (by rw[hf]) kr<|zh ?_;rw[if_pos hf]at hsn;refine rL [.v,.E (.int .i64 (Qn.wrap (((zg b (V.take i):Nat):Int)+1))) (iN (zg b (V.take (i+1)))) (zd (by rw[hsn];exact zy (a:=zg b (V.take i)) (b:=1) (by omega))),.v] H6 kr fun gs6 w7 H7=>?_;exact⟨kr,drop1 (H7.as kr),isK⟩
   ·refine qY 26 (v:=.bool (yc b x)) (v':=.bool false) (by rw[QI.2 hf]) kr<|zl ?_;rw[if_neg hf,RF]at hsn;exact⟨kr,drop1 (H6.as kr),(congrArg (fun k=>Is [(3,Qe (gs1 1).b),(5,iN k),(9,.slice p n c),(10,iN n),(11,iN (i+1))] _) hsn).mpr isK⟩
  ·refine rS [.v,.l 2,.v,.l 1,.E (.bool (x.2.1.toList==b.2.1.toList)) (.bool false) (za (zT _ _ e)),.v,.n,.n,.n,.n,.n,.v] H5 kr fun gs5 w6 H6=>zl ?_;rw[if_neg (by unfold yc;rw[decide_eq_false e];exact QR),RF]at hsn;exact⟨kr,drop1 (H6.as kr),(congrArg (fun k=>Is [(3,Qe (gs1 1).b),(5,iN k),(9,.slice p n c),(10,iN n),(11,iN (i+1))] _) hsn).mpr isK⟩
 ·rintro _ w4 ⟨H4,_,rfl⟩;rw[Qp (by omega)];refine wW<|rS [.v,.v] H4 kr fun gs4 w5 H5=>?_;exact rR [.tmp 4] [] (iN (zg b V)) H5 kr
theorem zbX (q:Qc)(m cq:Nat)(L:Qi)(p:Qc)(n c:Nat)(b:Bal)(hL:L.length<=1000000):FnP Try.prog 43 #[snV q m cq p n c,blV b] (fun w=>AtF sS w q m L) (.bool (zQ L b)):=by
 refine FnP.intro (c:=zk Try.f43) [.tmp 4] 24 Try.func43 kr kr kr fun w hP=>?_;have h1:=uH q m cq L p n c b.1 hL;have h2:=uH q m cq L p n c b.2.1 hL;refine rS [.b,.b,.v] (St.start w) kr fun gs1 w1 H1=>?_;unfold zQ;cases e1:zF b.1 L with
 | false=>
  rw[e1]at h1;refine dS [.l 0,.v,.l 1,.cp (pre:=fun w=>AtF sS w q m L) h1 [] (fun w hb hd=>hP.call hb),.v,.n,.n,.n,.n,.v,.v,.n,.n,.n,.n,.n,.n,.n,.v,.v] H1 kr fun w2 H2=>?_;exact rR [.tmp 4] [] (.bool false) H2 kr
 | true=>
  rw[e1]at h1;by_cases e2:b.2.1.size=20
  ·rw[decide_eq_true e2];refine dS [.l 0,.v,.l 1,.cp (pre:=fun w=>AtF sS w q m L) h1 [] (fun w hb hd=>hP.call hb),.v,.v,.l 1,.v,.E (.bool (((b.2.1.size:Nat):Int)==20)) (.bool true) (za (beq_iff_eq.2 (by omega))),.v,.v,.l 0,.v,.l 1,.cp (pre:=fun w=>AtF sS w q m L) h2 [] (fun w hb hd=>hP.call hb),.v,.l 1,.E (.bool (zF b.2.1 L !=b.2.2)) (.bool (zF b.2.1 L !=b.2.2)) rfl,.v,.v] H1 kr fun w2 H2=>?_;exact rR [.tmp 4] [] (.bool (zF b.2.1 L !=b.2.2)) H2 kr
  ·rw[decide_eq_false e2];refine dS [.l 0,.v,.l 1,.cp (pre:=fun w=>AtF sS w q m L) h1 [] (fun w hb hd=>hP.call hb),.v,.v,.l 1,.v,.E (.bool (((b.2.1.size:Nat):Int)==20)) (.bool false) (za (beq_eq_false_iff_ne.2 (by omega))),.v,.v,.n,.n,.n,.n,.n,.n,.n,.v,.v] H1 kr fun w2 H2=>?_;exact rR [.tmp 4] [] (.bool false) H2 kr
theorem zft (q:Qc)(m cq:Nat)(L:Qi)(p:Qc)(n c:Nat)(b:Bal)(hL:L.length<=1000000):FnP Try.prog 48 #[snV q m cq p n c,blV b] (fun w=>AtF sS w q m L) (.bool (ju L b)):=by
 refine FnP.intro (c:=zk Try.f48) [.tmp 4] 19 Try.func48 kr kr kr fun w hP=>?_;have hm:=hP.1;have h1:=zbX q m cq L p n c b hL;refine rS [.b,.b,.v] (St.start w) kr fun gs1 w1 H1=>zb kr ?_;unfold ju;cases ef:zQ L b with
 | false=>
  rw[ef]at h1;refine rS [.l 0,.l 1,.cp (pre:=fun w=>AtF sS w q m L) h1 [] (fun w hb hd=>hP.call hb),.v] H1 kr fun gs2 w2 H2=>zh<|rS [.v] H2 kr fun gs3 w3 H3=>?_;exact rR [.tmp 4] [] (.bool false) H3 kr
 | true=>
  rw[ef]at h1;refine rS [.l 0,.l 1,.cp (pre:=fun w=>AtF sS w q m L) h1 [] (fun w hb hd=>hP.call hb),.v] H1 kr fun gs2 w2 H2=>zl<|wW<|zb kr ?_;obtain⟨b1,b2,b3⟩:=b;cases b3 with
  | true=>
   refine rS [.v,.l 1] H2 kr fun gs3 w3 H3=>zh<|rS [.v,.l 0,.v,.E (.bool (decide ((m:Int)<16))) (.bool (decide (L.length<16))) (za (by rw[RQ,decide_eq_true_iff,decide_eq_true_iff];omega)),.v] H3 kr fun gs4 w4 H4=>?_;exact rR [.tmp 4] [] (.bool (decide (L.length<16))) H4 kr
  | false=>
   refine rS [.v,.l 1] H2 kr fun gs3 w3 H3=>zl<|wW<|rS [.v,.l 0,.v,.E (.bool (decide ((m:Int)>1))) (.bool (decide (1<L.length))) (za (by rw[RQ,decide_eq_true_iff,decide_eq_true_iff];omega)),.v] H3 kr fun gs4 w4 H4=>?_;exact rR [.tmp 4] [] (.bool (decide (1<L.length))) H4 kr
theorem zfu (p:Qc)(n c:Nat)(L:Qi)(hL:L.length<=1000000):FnP Try.prog 31 #[.slice p n c] (fun w=>AtF sS w p n L) (.bool (setM L)):=by
 refine FnP.intro (c:=zk Try.f31) [.tmp 2] 37 Try.func31 kr kr kr fun w hP=>?_;have hn:=hP.1;have H0:=St.start w;refine rS [.v] H0 kr fun gs1 w1 H1=>zb kr ?_;by_cases h0:n=0
 ·refine rS [.v,.v,.E (.bool ((n:Int)==0)) (.bool true) (za (beq_iff_eq.2 (by omega))),.v,.n,.n,.n,.v] H1 kr fun gs2 w2 H2=>zh<|rS [.v] H2 kr fun gs3 w3 H3=>?_;exact rRe [.tmp 2] [] (v:=.bool false) (v':=.bool (setM L)) H3 (za (by unfold setM;rw[decide_eq_false (show ¬0<L.length by omega),Bool.false_and,Vl])) kr
 by_cases h16:16<n
 ·refine rS [.v,.v,.E (.bool ((n:Int)==0)) (.bool false) (za (beq_eq_false_iff_ne.2 (by omega))),.v,.v,.v,.E (.bool (decide ((n:Int)>16))) (.bool true) (za (decide_eq_true (by omega))),.v] H1 kr fun gs2 w2 H2=>zh<|rS [.v] H2 kr fun gs3 w3 H3=>?_;exact rRe [.tmp 2] [] (v:=.bool false) (v':=.bool (setM L)) H3 (za (by unfold setM;rw[decide_eq_false (show ¬L.length<=16 by omega),Vl,Vl])) kr
 refine rS [.v,.v,.E (.bool ((n:Int)==0)) (.bool false) (za (beq_eq_false_iff_ne.2 (by omega))),.v,.v,.v,.E (.bool (decide ((n:Int)>16))) (.bool false) (za (decide_eq_false (by omega))),.v] H1 kr fun gs2 w2 H2=>zl<|wW ?_;have hsm:setM L=yy none L:=by unfold setM;rw[decide_eq_true (show 0<L.length by omega),decide_eq_true (show L.length<=16 by omega)];simp
 rw[hsm];refine zb kr<|rS [.v,.v,.v] H2 kr fun gs3 w3 H3=>zR 15 14 16 36 0 1 n (by omega) (fun i ρ ww=>yy none L=yy (yz L i) (L.drop i)/\St w.heap.size w ww []/\Is [(0,.slice p n c),(13,.slice p n c),(14,iN n),(15,iN i)] ρ) (by rintro i _ ww ⟨_,_,_,rfl⟩;exact⟨kr,kr⟩) ⟨rfl,H3.as kr,isK⟩ ?_ ?_
 ·clear H0 H1 H2 H3;rintro i _ w4 hi ⟨hst,H5,_,rfl⟩;obtain⟨x,hx⟩:∃x,L[i]? =some x:=⟨_,Ql (by omega)⟩
  obtain⟨bl,off,C,T,fz,hp,hh,hR⟩:=hP.row2 (by omega);have hcx:C[off+i*1]? =some (.string x):=hR.cell hx 0 (by decide);rw[qi hx]at hst;change yy none L=(decide (x.size=20)&&(upB (yz L i) x&&yy (some x) (L.drop (i+1))))at hst;refine rS [.v,.o (ins:=[((.tmp 13),.slice p n c),((.tmp 15),iN i)]) (v:=.pointer (some ⟨bl,off+i*1,none⟩)) (fun ρ o w ho hi2=>zo (kd:=.i64) (t:=22) (e:=9) (K:=1) (bytes:=16) kr (x:=(.tmp 13)) (y:=(.tmp 15)) bl off n c i hp ho hi2.1 hi2.2.1 (by omega) w),.fs (off:=off+i*1) (v:=.string x) hh (zf hh) hcx,.v,.v] H5 kr fun gs5 w6 H7=>?_;by_cases h1:x.size=20
  case neg=>
   refine rS [.v,.v,.E (.bool (!((x.size:Int)==20))) (.bool true) (za (by rw[beq_eq_false_iff_ne.2 (by omega)];rfl)),.v,.n,.n,.n,.n,.n,.n,.n,.n,.n,.n,.n,.v] H7 kr fun gs6 w7 H8=>zh<|rS [.v] H8 kr fun gs7 w8 H9=>?_;exact rRe [.tmp 2] [] (v:=.bool false) (v':=.bool (yy none L)) H9 (za (by rw[hst,decide_eq_false h1];rfl)) kr
  rw[decide_eq_true h1,Q7]at hst;by_cases hi0:i=0
  ·have hu:upB (yz L i) x=true:=by
    have:yz L i=none:=by unfold yz;rw[if_pos hi0]
    rw[this];rfl
   refine rS [.v,.v,.E (.bool (!((x.size:Int)==20))) (.bool false) (za (by rw[beq_iff_eq.2 (show (x.size:Int)=20 by omega)];rfl)),.v,.v,.E (.bool (decide ((i:Int)>0))) (.bool false) (za (decide_eq_false (by omega))),.v,.n,.n,.n,.n,.n,.n,.n,.v,.v] H7 kr fun gs6 w7 H8=>zl ?_;exact⟨kr,by rw[xa hx,hst,hu];rfl,H8.as kr,isK⟩
  ·obtain⟨y,hy⟩:∃y,L[i-1]? =some y:=⟨_,Ql (by omega)⟩
   have hcy:C[off+(i-1)*1]? =some (.string y):=hR.cell hy 0 (by decide);have hpv:upB (yz L i) x=zi (tl y) (tl x):=by
    have:yz L i=some y:=by unfold yz;rw[if_neg hi0,hy]
    rw[this];rfl
   rw[hpv]at hst;cases hup:zi (tl y) (tl x) with
   | false=>
    refine rS [.v,.v,.E (.bool (!((x.size:Int)==20))) (.bool false) (za (by rw[beq_iff_eq.2 (show (x.size:Int)=20 by omega)];rfl)),.v,.v,.E (.bool (decide ((i:Int)>0))) (.bool true) (za (decide_eq_true (by omega))),.v,.v,.v,.E (.int .i64 (Qn.wrap ((i:Int)-1))) (iN (i-1)) (zd (yO (a:=i) (b:=1) (by omega))),.o (ins:=[((.tmp 27),.slice p n c),((.tmp 29),iN (i-1))]) (v:=.pointer (some ⟨bl,off+(i-1)*1,none⟩)) (fun ρ o w ho hi2=>zo (kd:=.i64) (t:=22) (e:=9) (K:=1) (bytes:=16) kr (x:=(.tmp 27)) (y:=(.tmp 29)) bl off n c (i-1) hp ho hi2.1 hi2.2.1 (by omega) w),.fs (off:=off+(i-1)*1) (v:=.string y) hh (zf hh) hcy,.v,.E (.bool (!(Rv y.toList x.toList))) (.bool true) (za (by rw[zbV,hup];rfl)),.v,.v] H7 kr fun gs6 w7 H8=>zh<|rS [.v] H8 kr fun gs7 w8 H9=>?_;exact rRe [.tmp 2] [] (v:=.bool false) (v':=.bool (yy none L)) H9 (za (by rw[hst,hup];rfl)) kr
   | true=>
    refine rS [.v,.v,.E (.bool (!((x.size:Int)==20))) (.bool false) (za (by rw[beq_iff_eq.2 (show (x.size:Int)=20 by omega)];rfl)),.v,.v,.E (.bool (decide ((i:Int)>0))) (.bool true) (za (decide_eq_true (by omega))),.v,.v,.v,.E (.int .i64 (Qn.wrap ((i:Int)-1))) (iN (i-1)) (zd (yO (a:=i) (b:=1) (by omega))),.o (ins:=[((.tmp 27),.slice p n c),((.tmp 29),iN (i-1))]) (v:=.pointer (some ⟨bl,off+(i-1)*1,none⟩)) (fun ρ o w ho hi2=>zo (kd:=.i64) (t:=22) (e:=9) (K:=1) (bytes:=16) kr (x:=(.tmp 27)) (y:=(.tmp 29)) bl off n c (i-1) hp ho hi2.1 hi2.2.1 (by omega) w),.fs (off:=off+(i-1)*1) (v:=.string y) hh (zf hh) hcy,.v,.E (.bool (!(Rv y.toList x.toList))) (.bool false) (za (by rw[zbV,hup];rfl)),.v,.v] H7 kr fun gs6 w7 H8=>zl ?_;exact⟨kr,by rw[xa hx,hst,hup];rfl,H8.as kr,isK⟩
 ·rintro _ w4 ⟨hst,H5,_,rfl⟩;rw[QD (by omega)]at hst;refine wW<|rS [.v] H5 kr fun gs6 w7 H8=>?_;exact rRe [.tmp 2] [] (v:=.bool true) (v':=.bool (yy none L)) H8 (za hst.symm) kr
theorem zbY (x b:Bal)(k:Nat):FnP Try.prog 55 #[blV x,Qe k] (fun w=>w.heap[k]? =some (blO b)) (.bool (aheadB x b)):=by
 refine FnP.intro (c:=zk Try.f55) [.tmp 3] 19 Try.func55 kr kr kr fun w hP=>rS [.b,.v] (St.start w) kr fun gs1 w1 H1=>zb kr ?_;by_cases e:x.2.1=b.2.1
 ·refine rS [.v,.l 0,.v,.fs (off:=1) (v:=.string b.2.1) hP (zf hP) kr,.E (.bool (!(x.2.1.toList==b.2.1.toList))) (.bool false) (za (by rw[ya _ _ e];rfl))] H1 kr fun gs2 w2 H2=>zl<|wW<|rS [.v,.l 0,.v,.fs (off:=0) (v:=.string b.1) hP (zf hP) kr,.E (.bool (Rv x.1.toList b.1.toList)) (.bool (aheadB x b)) (za (by unfold aheadB;rw[if_pos e,ja])),.v] H2 kr fun gs3 w3 H3=>?_;exact rR [.tmp 3] [] (.bool (aheadB x b)) H3 kr
 ·refine rS [.v,.l 0,.v,.fs (off:=1) (v:=.string b.2.1) hP (zf hP) kr,.E (.bool (!(x.2.1.toList==b.2.1.toList))) (.bool true) (za (by rw[zT _ _ e];rfl))] H1 kr fun gs2 w2 H2=>zh<|rS [.v,.l 0,.v,.fs (off:=1) (v:=.string b.2.1) hP (zf hP) kr,.E (.bool (Rv x.2.1.toList b.2.1.toList)) (.bool (aheadB x b)) (za (by unfold aheadB;rw[if_neg e,ja])),.v] H2 kr fun gs3 w3 H3=>?_;exact rR [.tmp 3] [] (.bool (aheadB x b)) H3 kr
abbrev ahV (k:Nat):Value:=.func (.func 55) #[] #[Qe k]
theorem zbZ (b:Bal):FnT Try.prog 44 #[blV b] (fun _=>True) (fun v l=> ∃k,v=ahV k/\l=[(k,blO b)]):=by
 refine FnT.intro (c:=zk Try.f44) [.tmp 2] 4 Try.func44 kr kr kr fun w _=>rS [.b,.v] (St.start w) kr fun gs1 w1 H1=>rS [.v,.v] H1 kr fun gs2 w2 H2=>rRr [.tmp 2] [] (ahV (gs1 0).b) (zJ w.heap.size w (fun v l=> ∃k,v=ahV k/\l=[(k,blO b)])) H2 kr ?_;exact⟨_,⟨(gs1 0).b,rfl,rfl⟩,H2.as kr⟩
abbrev vi (x:Operand):Op:=.call { callee:=.value (.func 44),args:=#[x],argTypes:=#[56] }
theorem zb0 {ρ:Env}{o:Oper}{w:World}{x:Operand}{b:Bal}(ho:o.op=vi x)(hx:ev ρ x=blV b):D2.Runs Try.prog (fun v w'=> ∃g:Gh,v=ahV g.b/\Below w.heap.size w w'/\w.heap.size<=g.b/\w'.heap[g.b]? =some (blO b)) ((execOp (ev ρ) o).run Try.prog w):=by
 have e:(execOp (ev ρ) o).run Try.prog w=.ok (.enter 44 #[blV b]) w:=by
  have ha:(#[x]:Array Operand).map (ev ρ)=#[blV b]:=by simp[hx]
  unfold execOp;rw[ho];simp only[vi,resolve,ha];rfl
 rw[e];refine Calls.mono (zbZ b w trivial) ?_;rintro e w' ⟨v,T,rfl,⟨k,rfl,rfl⟩,hT⟩;exact⟨_,rfl,{ b:=k },rfl,St.below hT,(St.ge hT 0 rfl),St.get hT 0 rfl⟩
theorem zfv (q:Qc)(mm cq:Nat)(L:Qi)(p:Qc)(n c:Nat)(V:List Bal)(hL:L.length<=1000000)(hV:V.length<=1000000):FnP Try.prog 32 #[snV q mm cq p n c] (fun w=>zG w L V q mm p n) (.bool (qz L V)):=by
 refine FnP.intro (c:=zk Try.f32) [.tmp 2] 55 Try.func32 kr kr kr fun w hP=>?_;obtain⟨hS,hVV⟩:=hP;have hmm:=hS.1;have hn:=hVV.1;have H0:=St.start w;refine rS [.b,.v] H0 kr fun gs1 w1 H1=>rS [.v] H1 kr fun gs2 w2 H2=>zb kr<|rS [.v,.l 0,.v,.v] H2 kr fun gs3 w3 H3=>zR 9 8 10 54 0 1 n (by omega) (fun i ρ ww=> ∃m,qz L V=xh L (yj V i) m (V.drop i)/\m<=i/\St w.heap.size w ww [((gs1 0).b,snO q mm cq p n c)]/\Is [(1,Qe (gs1 0).b),(3,iN m),(7,.slice p n c),(8,iN n),(9,iN i)] ρ) (by rintro i _ ww ⟨_,_,_,_,_,rfl⟩;exact⟨kr,kr⟩) ⟨0,rfl,Qu _,H3.as kr,isK⟩ ?_ ?_
 ·clear H0 H1 H2 H3;rintro i _ w4 hi ⟨k,hst,hki,H4,_,rfl⟩;obtain⟨x,hx⟩:∃x,V[i]? =some x:=⟨_,Ql (by omega)⟩
  obtain⟨bl,off,C,T,fz,hp,hh,hR⟩:=hVV.row2 (by omega);have hfit:=zbX q mm cq L p n c x hL;rw[qi hx]at hst;change qz L V=(zQ L x&&(qj (yj V i) x&&(decide (2*jr (yj V i) k x<=L.length)&&xh L (some x) (jr (yj V i) k x) (V.drop (i+1)))))at hst;rw[<-zbl hx]at hst;refine rS [.v,.o (ins:=[((.tmp 7),.slice p n c),((.tmp 9),iN i)]) (v:=.pointer (some ⟨bl,off+i*3,none⟩)) (fun ρ o w ho hi2=>zo (kd:=.i64) (t:=30) (e:=56) (K:=3) (bytes:=40) kr (x:=(.tmp 7)) (y:=(.tmp 9)) bl off n c i hp ho hi2.1 hi2.2.1 (by omega) w),.fp (off:=off+i*3) (n:=3) (W:=blC x) hh (zf hh) (hR _ _ hx).1 (hR _ _ hx).2,.a,.v,.s 1] H4 kr fun gs4 w5 HA=>zb kr ?_;cases ef:zQ L x with
  | false=>
   rw[ef]at hfit;refine rS [.l 0,.l 1,.cp (pre:=fun w=>AtF sS w q mm L) hfit [] (fun w hb hd=>hS.call hb),.v] HA kr fun gs5 w6 H5=>zh<|rS [.v] H5 kr fun gsr wr Hr=>?_;exact rRe [.tmp 2] [] (v:=.bool false) (v':=.bool (qz L V)) Hr (za (by rw[hst,ef];rfl)) kr
  | true=>
   rw[ef]at hfit;refine rS [.l 0,.l 1,.cp (pre:=fun w=>AtF sS w q mm L) hfit [] (fun w hb hd=>hS.call hb),.v] HA kr fun gs5 w6 H5=>zl<|wW<|zb kr ?_;by_cases hi0:i=0
   ·have hp0:yj V i=none:=by unfold yj;rw[if_pos hi0]
    have ea:qj (yj V i) x=true:=by rw[hp0];rfl
    refine dS [.v,.E (.bool (decide ((i:Int)>0))) (.bool false) (za (decide_eq_false (by omega))),.v,.n,.n,.n,.n,.n,.n,.n,.n,.n,.n,.v] H5 kr fun w6 H6=>zl<|wW<|zb kr<|dS [.v,.E (.bool (decide ((i:Int)>0))) (.bool false) (za (decide_eq_false (by omega))),.v,.n,.n,.n,.n,.n,.n,.n,.n,.n,.n,.v] H6 kr fun w7 H7=>zl ?_;have drop1: ∀ {ww:World},St w.heap.size w ww [((gs1 0).b,snO q mm cq p n c),((gs4 3).b,blO x)]->St w.heap.size w ww [((gs1 0).b,snO q mm cq p n c)]:=fun H=>H.sub (QM [_] [_]);refine wW<|rS [.v,.E (.int .i64 (Qn.wrap ((k:Int)+1))) (iN (k+1)) (zd (zy (a:=k) (b:=1) (by omega))),.v] H7 kr fun gs8 w8 H8=>?_;have hrun:jr (yj V i) k x=k+1:=by rw[hp0];rfl
    rw[hrun]at hst;by_cases h2:2*(k+1)<=L.length
    ·refine rS [.v,.E (.int .i64 (Qn.wrap (2*((k+1:Nat):Int)))) (iN (2*(k+1))) (zd (yB (a:=2) (b:=k+1) (by omega))),.v,.l 0,.v,.E (.bool (decide (((2*(k+1):Nat):Int)>(mm:Int)))) (.bool false) (za (decide_eq_false (by omega)))] H8 kr fun gs9 w9 H9=>zl ?_;exact⟨kr,k+1,hst.trans (by rw[ef,ea,decide_eq_true h2,Q7,Q7,Q7]),by omega,drop1 (H9.as kr),isK⟩
    ·refine rS [.v,.E (.int .i64 (Qn.wrap (2*((k+1:Nat):Int)))) (iN (2*(k+1))) (zd (yB (a:=2) (b:=k+1) (by omega))),.v,.l 0,.v,.E (.bool (decide (((2*(k+1):Nat):Int)>(mm:Int)))) (.bool true) (za (decide_eq_true (by omega)))] H8 kr fun gs9 w9 H9=>zh<|rS [.v] H9 kr fun gsr wr Hr=>?_;exact rRe [.tmp 2] [] (v:=.bool false) (v':=.bool (qz L V)) Hr (za (by rw[hst,ef,ea,decide_eq_false h2];rfl)) kr
   ·obtain⟨y,hy⟩:∃y,V[i-1]? =some y:=⟨_,Ql (by omega)⟩
    have hp0:yj V i=some y:=by unfold yj;rw[if_neg hi0,hy]
    have hcy:C[off+(i-1)*3+1]? =some (.string y.2.1):=hR.cell hy 1 (by decide);have ha:=fun k=>zbY y x k;cases ea':aheadB y x with
    | false=>
     have ea:qj (yj V i) x=false:=by rw[hp0];exact ea'
     rw[ea']at ha;refine dSg (fun gs=>[.v,.E (.bool (decide ((i:Int)>0))) (.bool true) (za (decide_eq_true (by omega))),.v,.l 1,.g [((.tmp 21),blV x)] (vi (.tmp 21)) [] (fun g=>ahV g.b) (.new (blO x)) (fun ρ o w ho hi2 hd hb=>zb0 ho hi2.1),.v,.l 0,.v,.E (.int .i64 (Qn.wrap ((i:Int)-1))) (iN (i-1)) (zd (yO (a:=i) (b:=1) (by omega))),.o (ins:=[((.tmp 24),.slice p n c),((.tmp 26),iN (i-1))]) (v:=.pointer (some ⟨bl,off+(i-1)*3,none⟩)) (fun ρ o w ho hi2=>zo (kd:=.i64) (t:=30) (e:=56) (K:=3) (bytes:=40) kr (x:=(.tmp 24)) (y:=(.tmp 26)) bl off n c (i-1) hp ho hi2.1 hi2.2.1 (by omega) w),.fp (off:=off+(i-1)*3) (n:=3) (W:=blC y) hh (zf hh) (hR _ _ hy).1 (hR _ _ hy).2,.cp (pre:=fun w=>w.heap[(gs 4).b]? =some (blO x)) (ha (gs 4).b) [(2,((gs 4).b,blO x))] (fun w hb hd=>hd.1),.v,.v]) H5 kr fun gs w6 H6=>zh<|rS [.v] H6 kr fun gsr wr Hr=>?_;exact rRe [.tmp 2] [] (v:=.bool false) (v':=.bool (qz L V)) Hr (za (by rw[hst,ef,ea];rfl)) kr
    | true=>
     have ea:qj (yj V i) x=true:=by rw[hp0];exact ea'
     rw[ea']at ha;refine dSg (fun gs=>[.v,.E (.bool (decide ((i:Int)>0))) (.bool true) (za (decide_eq_true (by omega))),.v,.l 1,.g [((.tmp 21),blV x)] (vi (.tmp 21)) [] (fun g=>ahV g.b) (.new (blO x)) (fun ρ o w ho hi2 hd hb=>zb0 ho hi2.1),.v,.l 0,.v,.E (.int .i64 (Qn.wrap ((i:Int)-1))) (iN (i-1)) (zd (yO (a:=i) (b:=1) (by omega))),.o (ins:=[((.tmp 24),.slice p n c),((.tmp 26),iN (i-1))]) (v:=.pointer (some ⟨bl,off+(i-1)*3,none⟩)) (fun ρ o w ho hi2=>zo (kd:=.i64) (t:=30) (e:=56) (K:=3) (bytes:=40) kr (x:=(.tmp 24)) (y:=(.tmp 26)) bl off n c (i-1) hp ho hi2.1 hi2.2.1 (by omega) w),.fp (off:=off+(i-1)*3) (n:=3) (W:=blC y) hh (zf hh) (hR _ _ hy).1 (hR _ _ hy).2,.cp (pre:=fun w=>w.heap[(gs 4).b]? =some (blO x)) (ha (gs 4).b) [(2,((gs 4).b,blO x))] (fun w hb hd=>hd.1),.v,.v]) H5 kr fun gs w6 H6=>zl<|wW<|zb kr ?_;have drop1: ∀ {ww:World},St w.heap.size w ww [((gs1 0).b,snO q mm cq p n c),((gs4 3).b,blO x),((gs 4).b,blO x)]->St w.heap.size w ww [((gs1 0).b,snO q mm cq p n c)]:=fun H=>H.sub (QM [_] [_,_]);by_cases ew:y.2.1=x.2.1
     ·refine dS [.v,.E (.bool (decide ((i:Int)>0))) (.bool true) (za (decide_eq_true (by omega))),.v,.v,.l 0,.v,.E (.int .i64 (Qn.wrap ((i:Int)-1))) (iN (i-1)) (zd (yO (a:=i) (b:=1) (by omega))),.o (ins:=[((.tmp 36),.slice p n c),((.tmp 38),iN (i-1))]) (v:=.pointer (some ⟨bl,off+(i-1)*3,none⟩)) (fun ρ o w ho hi2=>zo (kd:=.i64) (t:=30) (e:=56) (K:=3) (bytes:=40) kr (x:=(.tmp 36)) (y:=(.tmp 38)) bl off n c (i-1) hp ho hi2.1 hi2.2.1 (by omega) w),.v,.fs (off:=off+(i-1)*3+1) (v:=.string y.2.1) hh (zf hh) hcy,.v,.l 1,.E (.bool (!(y.2.1.toList==x.2.1.toList))) (.bool false) (za (by rw[ya _ _ ew];rfl)),.v] H6 kr fun w7 H7=>zl<|wW<|rS [.v,.E (.int .i64 (Qn.wrap ((k:Int)+1))) (iN (k+1)) (zd (zy (a:=k) (b:=1) (by omega))),.v] H7 kr fun gs8 w8 H8=>?_;have hrun:jr (yj V i) k x=k+1:=by rw[hp0];show (if y.2.1=x.2.1 then k else 0)+1=_;rw[if_pos ew]
      rw[hrun]at hst;by_cases h2:2*(k+1)<=L.length
      ·refine rS [.v,.E (.int .i64 (Qn.wrap (2*((k+1:Nat):Int)))) (iN (2*(k+1))) (zd (yB (a:=2) (b:=k+1) (by omega))),.v,.l 0,.v,.E (.bool (decide (((2*(k+1):Nat):Int)>(mm:Int)))) (.bool false) (za (decide_eq_false (by omega)))] H8 kr fun gs9 w9 H9=>zl ?_;exact⟨kr,k+1,hst.trans (by rw[ef,ea,decide_eq_true h2,Q7,Q7,Q7]),by omega,drop1 (H9.as kr),isK⟩
      ·refine rS [.v,.E (.int .i64 (Qn.wrap (2*((k+1:Nat):Int)))) (iN (2*(k+1))) (zd (yB (a:=2) (b:=k+1) (by omega))),.v,.l 0,.v,.E (.bool (decide (((2*(k+1):Nat):Int)>(mm:Int)))) (.bool true) (za (decide_eq_true (by omega)))] H8 kr fun gs9 w9 H9=>zh<|rS [.v] H9 kr fun gsr wr Hr=>?_;exact rRe [.tmp 2] [] (v:=.bool false) (v':=.bool (qz L V)) Hr (za (by rw[hst,ef,ea,decide_eq_false h2];rfl)) kr
     ·refine dS [.v,.E (.bool (decide ((i:Int)>0))) (.bool true) (za (decide_eq_true (by omega))),.v,.v,.l 0,.v,.E (.int .i64 (Qn.wrap ((i:Int)-1))) (iN (i-1)) (zd (yO (a:=i) (b:=1) (by omega))),.o (ins:=[((.tmp 36),.slice p n c),((.tmp 38),iN (i-1))]) (v:=.pointer (some ⟨bl,off+(i-1)*3,none⟩)) (fun ρ o w ho hi2=>zo (kd:=.i64) (t:=30) (e:=56) (K:=3) (bytes:=40) kr (x:=(.tmp 36)) (y:=(.tmp 38)) bl off n c (i-1) hp ho hi2.1 hi2.2.1 (by omega) w),.v,.fs (off:=off+(i-1)*3+1) (v:=.string y.2.1) hh (zf hh) hcy,.v,.l 1,.E (.bool (!(y.2.1.toList==x.2.1.toList))) (.bool true) (za (by rw[zT _ _ ew];rfl)),.v] H6 kr fun w7 H7=>zh<|rL [.v] H7 kr fun gsz wz Hz=>wW<|rS [.v,.E (.int .i64 (Qn.wrap (((0:Nat):Int)+1))) (iN (0+1)) (zd (zy (a:=0) (b:=1) (by omega))),.v] Hz kr fun gs8 w8 H8=>?_;have hrun:jr (yj V i) k x=0+1:=by rw[hp0];show (if y.2.1=x.2.1 then k else 0)+1=_;rw[if_neg ew]
      rw[hrun]at hst;by_cases h2:2*(0+1)<=L.length
      ·refine rS [.v,.E (.int .i64 (Qn.wrap (2*((0+1:Nat):Int)))) (iN (2*(0+1))) (zd (yB (a:=2) (b:=0+1) (by omega))),.v,.l 0,.v,.E (.bool (decide (((2*(0+1):Nat):Int)>(mm:Int)))) (.bool false) (za (decide_eq_false (by omega)))] H8 kr fun gs9 w9 H9=>zl ?_;exact⟨kr,0+1,hst.trans (by rw[ef,ea,decide_eq_true h2,Q7,Q7,Q7]),by omega,drop1 (H9.as kr),isK⟩
      ·refine rS [.v,.E (.int .i64 (Qn.wrap (2*((0+1:Nat):Int)))) (iN (2*(0+1))) (zd (yB (a:=2) (b:=0+1) (by omega))),.v,.l 0,.v,.E (.bool (decide (((2*(0+1):Nat):Int)>(mm:Int)))) (.bool true) (za (decide_eq_true (by omega)))] H8 kr fun gs9 w9 H9=>zh<|rS [.v] H9 kr fun gsr wr Hr=>?_;exact rRe [.tmp 2] [] (v:=.bool false) (v':=.bool (qz L V)) Hr (za (by rw[hst,ef,ea,decide_eq_false h2];rfl)) kr
 ·rintro _ w4 ⟨k,hst,_,H5,_,rfl⟩;rw[QD (by omega)]at hst;refine wW<|rS [.v] H5 kr fun gs6 w7 H8=>?_;exact rRe [.tmp 2] [] (v:=.bool true) (v':=.bool (qz L V)) H8 (za hst.symm) kr
theorem uI (q:Qc)(mm cq:Nat)(L:Qi)(p:Qc)(n c:Nat)(V:List Bal)(hL:L.length<=1000000)(hV:V.length<=1000000):FnP Try.prog 21 #[snV q mm cq p n c] (fun w=>zG w L V q mm p n) (.bool (zz L V)):=by
 rw[<-zfn];refine FnP.intro (c:=zk Try.f21) [.tmp 2] 10 Try.func21 kr kr kr fun w hP=>?_;obtain⟨hS,hVV⟩:=hP;have h1:=zfu q mm cq L hL;have h2:=zfv q mm cq L p n c V hL hV;refine rS [.b,.v] (St.start w) kr fun gs1 w1 H1=>?_;cases e1:setM L with
 | false=>
  rw[e1]at h1;refine rS [.v,.l 0,.cp (pre:=fun w=>AtF sS w q mm L) h1 [] (fun w hb hd=>hS.call hb),.v,.n,.n,.v,.v] H1 kr fun gs2 w2 H2=>?_;exact rR [.tmp 2] [] (.bool false) H2 kr
 | true=>
  rw[e1]at h1;refine rS [.v,.l 0,.cp (pre:=fun w=>AtF sS w q mm L) h1 [] (fun w hb hd=>hS.call hb),.v,.l 0,.cp (pre:=fun w=>zG w L V q mm p n) h2 [] (fun w hb hd=>⟨hS.call hb,hVV.call hb⟩),.v,.v] H1 kr fun gs2 w2 H2=>?_;exact rR [.tmp 2] [] (.bool (qz L V)) H2 kr
end
section
open D2 (Gh Runs)
section
variable {P:Program}{B:Nat}{w0:World}
theorem zfw {w:World}(g:Nat)(C:Qd):w.grownBy (w.setRow g C) (some g):=⟨rfl,rfl,rfl,by simp,fun k _ hk=>setRow_other w g k _ (fun e=>hk (by simp[e]))⟩
theorem jv {dT sT e size:Nat}(hu:P.underlying dT=some (.slice e))(hs:(P.info? e).map (·.size)=some size){x y:Operand}{j b off dLen dCap sLen sCap:Nat}{a:Addr}{cur:Qd}{T:TypeId}{cs:List Value}{rd:List (Nat×(Nat×Obj))}
 (hn:cs.length=US sLen dLen*size) (hsrc: ∀w,Hd ((j,(b,.cells cur T))::rd) w-> ∀q v,cs[q]? =some v->w.cell? (a.add q)=some v) (hfit:off+cs.length<=cur.size) (h1: ∀v∈cs,v.oneCell'=true):
 ∀(ρ:Env) (o:Oper) (w:World),o.op=.call { callee:=.builtin .copy,args:=#[x,y],argTypes:=#[dT,sT] } ->Ins (ev ρ) [(x,.slice (some ⟨b,off,none⟩) dLen dCap),(y,.slice (some a) sLen sCap)]->Hd ((j,(b,.cells cur T))::rd) w->Below B w0 w->
  Runs P (fun v w'=> ∃g:Gh,v=.int .i64 ((US sLen dLen:Nat):Int)/\∃q,(List.lookup j ((j,(b,Obj.cells cur T))::rd))=some q/\w.grownBy w' (some q.1)/\w'.heap[q.1]? =some (.cells (zm cur off cs) T)) ((execOp (ev ρ) o).run P w):=fun ρ o w ho hi hd hb=>by
 have hg:w.heap[b]? =some (.cells cur T):=hd.1;have hrun:=zdq (P:=P) (w:=w) dT sT o.type e size hu hs b off dLen dCap a sLen sCap cur T cs hg hn (hsrc w hd) hfit h1;have hex:(execOp (ev ρ) o).run P w=.ok (.value (.int .i64 ((US sLen dLen:Nat):Int))) (w.setRow b (zm cur off cs)):=by
  unfold execOp;simp only[ho,resolve,invoke,builtin,Sem.run_bind,Sem.run_pure,Result.andThen_ok,List.map_toArray,List.map_cons,List.map_nil,hi.1,hi.2.1,hrun]
 rw[hex];exact⟨default,rfl,(b,.cells cur T),by simp[List.lookup],zfw b _,setRow_heap w b cur _ T (0,0) hg⟩
theorem jw {w:World}{b off:Nat}{cur:Qd}{T:TypeId}{fz:Nat×Nat}{cs:List Value}(hg:w.heap[b]? =some (.cells cur T fz))(h: ∀q v,cs[q]? =some v->cur[off+q]? =some v): ∀q v,cs[q]? =some v->w.cell? ((⟨b,off,none⟩:Addr).add q)=some v:=fun q v hq=>by
 rw[qn];simp[World.cell?,hg,h q v hq]
end
section
variable {α:Type}{S:Fl α}
theorem xQ (L:List α)(i:Nat)(h:i<=L.length):cellsF S (L.take i)=(cellsF S L).take (i*S.K):=by
 have e:cellsF S L=cellsF S (L.take i)++cellsF S (L.drop i):=by rw[<-jk,Vp]
 rw[e,List.take_left'];rw[yv,Qt,Ri h]
theorem zb1 (L:List α)(i:Nat)(h:i<=L.length):cellsF S (L.drop i)=(cellsF S L).drop (i*S.K):=by
 have e:cellsF S L=cellsF S (L.take i)++cellsF S (L.drop i):=by rw[<-jk,Vp]
 rw[e,List.drop_left'];rw[yv,Qt,Ri h]
end
end
end Go.Proofs.Ytdaeahhkiilbaaa
