/-
  Texts of the proof,part 5.
-/
import Derived.Test.YtcjejfklpegobaaGreatDoorProg
import Derived.Laws.BitsLemmas
import Derived.Laws.BitsAllLaws
import Derived.Laws.BytesArg
import Derived.Below
import Derived.Laws.Bits64b
import Derived.Lib.Hide
import Derived.ChangeKeysEq
import Derived.Laws.StructEq
import Derived.Laws.Externs
import Derived.Test.YtcjejfklpegobaaGreatDoorBZ1
import Derived.Test.YtcjejfklpegobaaGreatDoorBZ2
import Derived.Test.YtcjejfklpegobaaGreatDoorBZ3
import Derived.Test.YtcjejfklpegobaaGreatDoorBZ4
set_option maxRecDepth 100000
set_option maxHeartbeats 4000000
open Go Go.RowKit
open BitVec renaming toNat->Qj,ofNat->Qw,setWidth->Ry
open Bool renaming and_eq_true->Qu,eq_false_or_eq_true->Q4,eq_iff_iff->RM,true_and->UJ
open Go renaming bits->Q2
open Instr renaming sliceBounds->Uu,sliceBound->UK,sliceAt->UT,slice->U9
open Int renaming tmod->UA,toNat_natCast->UL,fdiv->Vc
open IntKind renaming i64->Qz,u64->QA,u8->QG,signed->We,wrap->Wj,bits->Wk
open List renaming getD->Qm,length->Qo,getElem?_eq_getElem->Qr,length_append->Qx,take_of_length_le->Qy,append_assoc->QD,nil_sublist->QE,append_nil->QI,getD_eq_getElem?_getD->QO,mem_cons_of_mem->QR,range->QW,mem_append_right->QZ,map_cons->Q8,length_take->Rb,mem_append_left->Rd,take->Re,map_nil->Ug,getElem?_set->Ul,length_drop->Uv,take_succ_eq_append_getElem->UC,take_add_one->VC,map->VP,take_append_drop->VV,foldl_append->V6,drop_zero->Wo
open List.Sublist renaming cons_cons->Qq,cons->Qs,slnil->QS
open Nat renaming le_of_ble_eq_true->Qp,le_refl->QH,zero_le->QU,reducePow->Q5,mod_eq_of_lt->Rj,div_div_eq_div_mul->Rz,mod_lt->RT,pow_succ->RW,pow_le_pow_right->Uh,mul_assoc->Um,pow_add->UZ,mul_div_cancel->Vr,pow_pos->VF,mul_comm->VW,lt_irrefl->V1,mul_mod_left->Wi
open Obj renaming cells->Qk
open Op renaming equalIn->UR,bytesLess->VQ
open UInt8 renaming ofNat->QY,ofBitVec->Ub,toNat_inj->U4
open Value renaming cells->Qn,int->Q0,bool->RV
open World renaming cell?_setCell_other->QC,cell?_setCell_same->RJ
open _root_.ByteArray renaming size->Ql,extract->Qv,size_extract->Uq
namespace Go.Proofs.YtcjejfklpegobaaGreatDoor
def jl (x:Qa×Nat):Value:=.tuple #[.string x.1,.int .i64 ((x.2:Nat):Int)]
theorem zhK (g:Nat)(p:Qc)(n c:Nat)(b:Kf)(m:Nat)(s:Qa)(p2:Qc)(n2 c2:Nat)(l:Fe)(hm:m<0x10000000000000000)(hs:s.size<=0x800000000000):
 FnP Tryz.prog 99 #[knd g p n c,fld m s p2 n2 c2] (fun w=>SlR kS w.heap.size w p n b/\SlR fS w.heap.size w p2 n2 l) (jl (yL g b (m,s) l)):=by
 refine zR [.tmp 4,.tmp 5] 16 Tryz.func99 fun w hpre=>?_;have H0:=St.start w;obtain⟨hK,hF⟩:=hpre;refine rS [.b,.b,.v,.v] H0 kr fun gs1 w1 H1=>?_;clear H0;refine za kr ?_;unfold yL;by_cases hl:yn g b (m,s) l 1001<0
 ·rw[if_pos hl];refine rS [.l 0,.l 1,.cp (pre:=fun w=>SlR kS w.heap.size w p n b/\SlR fS w.heap.size w p2 n2 l) (zhB l g p n c b m s p2 n2 c2 1001) [] (fun w hb hd=>⟨hK.call hb,hF.call hb⟩),itT (yn g b (m,s) l 1001<0) hl] H1 kr fun gs2 w2 H2=>zh kr kr<|rS [.v,.v] H2 kr fun gs3 w3 H3=>?_;exact rR [.tmp 4,.tmp 5] [] (jl (⟨#[]⟩,1)) H3 kr
 ·rw[if_neg hl];refine rS [.l 0,.l 1,.cp (pre:=fun w=>SlR kS w.heap.size w p n b/\SlR fS w.heap.size w p2 n2 l) (zhB l g p n c b m s p2 n2 c2 1001) [] (fun w hb hd=>⟨hK.call hb,hF.call hb⟩),itF (yn g b (m,s) l 1001<0) hl] H1 kr fun gs2 w2 H2=>zi kr kr<|zj kr<|wW<|zd [0,1,2,3,4,5,6,7] kr kr<|rp [.l 0,.l 1] H2 kr fun gs3 w3 H3=>wX [2,3,4,5,6,7]<|qk H3 (some 12) 136 #[knd g p n c,fld m s p2 n2 c2] (zns l g p n c b m s p2 n2 c2 1001 hm (Int.not_lt.1 hl)) ⟨hK.call H3.below,hF.call H3.below⟩ kr kr ?_;intro v T w4 hok H4;obtain⟨q1,q2,q3,rfl,hsl⟩:=hok;refine yP H4 (some 13) 37 #[itm (yb g) (zX g (m,s)) q1 q2 q3] _ _ (zgG (yb g) (zX g (m,s)) q1 q2 q3 (zI g b l) (zb6 hs)) (hsl.at H4 fun e he=>Rd _ he) ?_;intro w5 H5;rw[hsl.1];have H6:=H5.sub (QE _);refine rp [.v,.v,.v,.v] H6 kr fun gs4 w6 H7=>wX []<|zb ?_;exact rR [.tmp 4,.tmp 5] [] (jl (zC (yb g) (zX g (m,s)) (zI g b l).len (zI g b l))) H7 kr
def wrV (form:Qa)(l:Fe):Qa×Nat:=match parseM form with
 | none=>(⟨#[]⟩,1)
 | some k=>yL 40 k (0,⟨#[]⟩) l
theorem zhL (form:Qa)(p:Qc)(n c:Nat)(l:Fe):FnP Tryz.prog 70 #[.string form,.slice p n c] (fun w=>SlR fS w.heap.size w p n l) (jl (wrV form l)):=by
 refine zR [.tmp 4,.tmp 5] 21 Tryz.func70 fun w hF=>?_;have H0:=St.start w;refine rS [.v,.v] H0 kr fun gs1 w1 H1=>?_;clear H0;refine zd [0,1,2,3,4,5,6,7] kr kr<|rp [.v] H1 kr fun gs2 w2 H2=>wX [1,2,3,4,5,6,7]<|qk H2 (some 10) 98 #[.string form] (zhJ form) trivial kr kr ?_;intro v T w3 hok H3;unfold wrV;rcases hok with⟨q1,q2,q3,k,hp,rfl,hk⟩ | ⟨hp,g',q1,q2,q3,rfl⟩
 ·rw[hp];refine rp [.v,.v,.v] H3 kr fun gs3 w4 H4=>wX [5,6,7] ?_;have H5:St w.heap.size w w4 (T++ []):=H4.as kr;refine zA H5 (some 6) 139 (.agg #[.int .u8 0,.slice none 0 0]) kr kr kr ?_;intro b6 w5 H6;refine rp [.s 0,.v] H6 kr fun gs4 w6 H7=>wX []<|zb<|za kr<|rS [.v,.v] H7 kr fun gs5 w7 H8=>zi kr kr<|zj kr<|wW<|zd [0,1,2,3,4,5,6,7] kr kr<|rp [.l 0,.v,.v] H8 kr fun gs6 w8 H9=>wX [3,4,5,6,7] ?_;have H10:St w.heap.size w w8 ((b6,kdO 40 q1 q2 q3)::(T++ [])):=H9.as kr;refine yP H10 (some 18) 99 #[knd 40 q1 q2 q3,fld 0 ⟨#[]⟩ p n c] _ _ (zhK 40 q1 q2 q3 k 0 ⟨#[]⟩ p n c l (by decide) (by decide)) ⟨hk.at H10 fun e he=>QR _ (Rd _ he),hF.call H10.below⟩ ?_;intro w9 H11;have H12:=H11.sub (QE _);refine rp [.v,.v,.v,.v] H12 kr fun gs7 w10 H13=>wX []<|zb ?_;exact rR [.tmp 4,.tmp 5] [] (jl (yL 40 k (0,⟨#[]⟩) l)) H13 kr
 ·rw[hp];refine rp [.v,.v,.v] H3 kr fun gs3 w4 H4=>wX [5,6,7] ?_;have H5:St w.heap.size w w4 (T++ []):=H4.as kr;refine zA H5 (some 6) 139 (.agg #[.int .u8 0,.slice none 0 0]) kr kr kr ?_;intro b6 w5 H6;refine rp [.s 0,.v] H6 kr fun gs4 w6 H7=>wX []<|zb<|za kr<|rS [.v,.v] H7 kr fun gs5 w7 H8=>zh kr kr ?_;have H9:=H8.sub (QE _);refine rS [.v,.v] H9 kr fun gs6 w8 H10=>?_;exact rR [.tmp 4,.tmp 5] [] (jl (⟨#[]⟩,1)) H10 kr
def kb (form s:Qa)(v:Value)(T:Qb):Prop:=
 (∃(p:Qc) (n c:Nat) (l:Fe) (k:Kf),parseM form=some k/\v=.tuple #[.slice p n c,.int .i64 0]/\RIn fS T p n l/\yL 40 k (0,⟨#[]⟩) l=(s,0))\/
 (∃e:Int,e≠0/\v=.tuple #[.slice none 0 0,.int .i64 e]/\ ∀(k:Kf) (l:Fe),parseM form=some k->l.all fS.ok->yL 40 k (0,⟨#[]⟩) l≠(s,0))
theorem znC (l:Bool)(s:Qa)(n:Nat)(k:Fo):(zC l s n k).2=0\/(zC l s n k).1=⟨#[]⟩:=by
 unfold zC;split
 ·exact .inr rfl
 ·split
  ·exact .inr rfl
  ·split
   ·exact .inr rfl
   ·exact .inl rfl
theorem xA {k:Kf}{l:Fe}{s:Qa}(h:yL 40 k (0,⟨#[]⟩) l=(s,0)): ¬yn 40 k (0,⟨#[]⟩) l 1001<0/\zC true ⟨#[]⟩ (zI 40 k l).len (zI 40 k l)=(s,0):=by
 unfold yL at h;by_cases hl:yn 40 k (0,⟨#[]⟩) l 1001<0
 ·rw[if_pos hl]at h;exact absurd (congrArg Prod.snd h) Nat.one_ne_zero
 ·rw[if_neg hl]at h;exact⟨hl,h⟩
theorem zhM (k:Kf)(l:Fe):(yL 40 k (0,⟨#[]⟩) l).2=0\/(yL 40 k (0,⟨#[]⟩) l).1=⟨#[]⟩:=by
 unfold yL;split
 ·exact .inr rfl
 ·exact znC ..
theorem znD {k:Kf}{l:Fe}{s:Qa}{v:Value}{T:Qb}(h:yL 40 k (0,⟨#[]⟩) l=(s,0))(ho:l.all fS.ok)(hd:kL s v T):
 ∃(p:Qc) (n c:Nat),v=.tuple #[.agg #[.bool true,.string ⟨#[]⟩,.slice p n c],.int .i64 0]/\SlIn T p n (zI 40 k l)/\ys 40 k (zI 40 k l)=l:=by
 obtain⟨hl,he⟩:=xA h;have h1:(zC true ⟨#[]⟩ (zI 40 k l).len (zI 40 k l)).2=0:=by rw[he]
 have h2:kL (zC true ⟨#[]⟩ (zI 40 k l).len (zI 40 k l)).1 v T:=by rw[he];exact hd
 obtain⟨p,n,c,hv,hT⟩:=zhI h1 h2;exact⟨p,n,c,hv,hT,(zaI (by decide) ho hl).2.2⟩
theorem znE {t:Qa}{l:Bool}{s:Qa}{k:Fo}(h:yd t l s k ⟨#[]⟩):t≠⟨#[]⟩:=fun e=>by
 obtain⟨hm,hp,hi⟩:=h;have h1:=(xO hm hp rfl).1;have h2:=congrArg Qo hi;rw[e,Qx]at h2;have h3:(tl (⟨#[]⟩:Qa)).length=0:=rfl;omega
theorem zaM {form:Qa}{ks:Qi}(hK:kN form ks)(l:Fe):wrV form l=if yo ks l=true/\l.cnt<=1000 then zC true emB (yF l 40 (kfL ks) 0).len (yF l 40 (kfL ks) 0) else (emB,1):=by
 unfold wrV;rw[hK.parse];show yL 40 (kfL ks) (0,⟨#[]⟩) l=_;unfold yL;by_cases h:yo ks l=true/\l.cnt<=1000
 ·rw[if_pos h,if_neg ((uC hK.kd l).2 h)];rfl
 ·rw[if_neg h,if_pos];by_cases hn:yn 40 (kfL ks) (0,⟨#[]⟩) l 1001<0
  ·exact hn
  ·exact absurd ((uC hK.kd l).1 hn) h
theorem jm {ks:Qi}(x:Nat×Qa)(l r:Fe)(i:Nat)(hi:i<ks.length):yF (.cons x l r) 40 (kfL ks) i=.cons (yb (by_ ks[i] 0)) (zX (by_ ks[i] 0) x) (zI (by_ ks[i] 0) (kdB ks[i]) l) (yF r 40 (kfL ks) (i+1)):=by
 rw[zaH,zd1,Qr hi]
abbrev fO (p:Qc)(n c:Nat):Obj:=.cells #[wZ,.string ⟨#[]⟩,.slice p n c] 89 (0,0)
theorem zhN (form s:Qa)(hs:s.size<=0x800000000000):FnT Tryz.prog 77 #[.string form,.string s] (fun _=>True) (kb form s):=by
 refine qz [.tmp 4,.tmp 5] 42 Tryz.func77 fun w _=>?_;have H0:=St.start w;refine rS [.v,.v] H0 kr fun gs1 w1 H1=>?_;clear H0;refine zd [0,1,2,3,4,5,6,7] kr kr<|rp [.v] H1 kr fun gs2 w2 H2=>wX [1,2,3,4,5,6,7]<|qk H2 (some 15) 98 #[.string form] (zhJ form) trivial kr kr ?_;intro v T w3 hok H3;rcases hok with⟨q1,q2,q3,k,hp,rfl,hk⟩ | ⟨hp,g',q1,q2,q3,rfl⟩
 ·refine rp [.v,.v,.v] H3 kr fun gs3 w4 H4=>wX [5,6,7] ?_;have H5:St w.heap.size w w4 (T++ []):=H4.as kr;refine zA H5 (some 6) 139 (.agg #[.int .u8 0,.slice none 0 0]) kr kr kr ?_;intro b6 w5 H6;refine rp [.s 0,.v] H6 kr fun gs4 w6 H7=>wX []<|zb<|za kr<|rS [.v,.v] H7 kr fun gs5 w7 H8=>zi kr kr<|zj kr<|wW<|zd [0,1,2,3,4,5,6,7] kr kr<|rp [.v] H8 kr fun gs6 w8 H9=>wX [1,2,3,4,5,6,7] ?_;have H10:St w.heap.size w w8 ((b6,kdO 40 q1 q2 q3)::(T++ [])):=H9.as kr;refine vU H10 (some 22) 22 #[.string s] (zhk s hs) kr kr ?_;intro vd Td w9 hdec H11;rcases hdec.cases with⟨l1,s1,p1,n1,c1,k1,rfl,hit,hsl,hs1,hdp,h4⟩ | ⟨er,her,rfl,rfl⟩
  ·refine rp [.v,.v,.v] H11 kr fun gs7 w10 H12=>wX [5,6,7] ?_;have H13:St w.heap.size w w10 (Td++((b6,kdO 40 q1 q2 q3)::(T++ []))):=H12.as kr;refine zA H13 (some 8) 58 (.agg #[.bool false,.string ⟨#[]⟩,.slice none 0 0]) kr kr kr ?_;intro b8 w11 H14;refine rp [.s 0,.v] H14 kr fun gs8 w12 H15=>wX []<|zb ?_;have H16:St w.heap.size w w12 ((b8,ixO l1 s1 p1 n1 c1)::(Td++((b6,kdO 40 q1 q2 q3)::(T++ [])))):=H15.as kr;have H17:St w.heap.size w w12 ((b6,kdO 40 q1 q2 q3)::(b8,ixO l1 s1 p1 n1 c1)::(Td++T)):=by
    refine H16.perm ?_;rw[QI];exact(List.Perm.swap _ _ _).trans (List.Perm.cons _ List.perm_middle.symm)
   refine za kr<|rS [.v,.v] H17 kr fun gs9 w13 H18=>zi kr kr<|zj kr<|wW<|zd [0,1,2,3,4] kr kr<|rp [.l 0,.l 1] H18 kr fun gs10 w14 H19=>wX [2,3,4] ?_;have H20:St w.heap.size w w14 ((b6,kdO 40 q1 q2 q3)::(b8,ixO l1 s1 p1 n1 c1)::(Td++T)):=H19.as kr;have hcnt:=hit.sz.2;refine qk H20 (some 30) 113 #[knd 40 q1 q2 q3,itm l1 s1 p1 n1 c1] (znv k1 40 q1 q2 q3 k l1 s1 p1 n1 c1 (by omega) (by omega)) ⟨hk.at H20 fun e he=>QR _ (QR _ (QZ _ he)),hsl.at H20 fun e he=>QR _ (QR _ (Rd _ he))⟩ kr kr ?_;intro vf Tf w15 hfld H21;obtain⟨pf,nf,cf,rfl,hTf⟩:=hfld;refine zA H21 (some 10) 89 (.agg #[wZ,.string ⟨#[]⟩,.slice none 0 0]) kr kr kr ?_;intro b10 w16 H22;refine rp [.s 0] H22 kr fun gs11 w17 H23=>wX []<|zb ?_;have H24:St w.heap.size w w17 ((b10,fO pf nf cf)::(Tf++((b6,kdO 40 q1 q2 q3)::(b8,ixO l1 s1 p1 n1 c1)::(Td++T)))):=H23.as kr;have H25:St w.heap.size w w17 ((b10,fO pf nf cf)::(b6,kdO 40 q1 q2 q3)::(b8,ixO l1 s1 p1 n1 c1)::(Tf++(Td++T))):=
    H24.perm (List.Perm.cons _ (List.perm_append_comm_assoc Tf [(b6,kdO 40 q1 q2 q3),(b8,ixO l1 s1 p1 n1 c1)] (Td++T)).symm)
   refine za kr<|zd [0,1,2,3,4,5,6,7] kr kr<|rp [.l 1,.l 0] H25 kr fun gs12 w18 H26=>wX [2,3,4,5,6,7] ?_;have H27:St w.heap.size w w18 ((b10,fO pf nf cf)::(b6,kdO 40 q1 q2 q3)::(b8,ixO l1 s1 p1 n1 c1)::(Tf++(Td++T))):=H26.as kr;have hmF: ∀e∈Tf,e∈(b10,fO pf nf cf)::(b6,kdO 40 q1 q2 q3)::(b8,ixO l1 s1 p1 n1 c1)::(Tf++(Td++T)):=fun e he=>QR _ (QR _ (QR _ (Rd _ he)));have hmK: ∀e∈T,e∈(b10,fO pf nf cf)::(b6,kdO 40 q1 q2 q3)::(b8,ixO l1 s1 p1 n1 c1)::(Tf++(Td++T)):=fun e he=>QR _ (QR _ (QR _ (QZ _ (QZ _ he))));have hok:=(hTf.at H27 hmF).ok;refine yP H27 (some 34) 99 #[knd 40 q1 q2 q3,fld 0 ⟨#[]⟩ pf nf cf] _ _ (zhK 40 q1 q2 q3 k 0 ⟨#[]⟩ pf nf cf (ys 40 k k1) (by decide) (by decide)) ⟨hk.at H27 hmK,hTf.at H27 hmF⟩ ?_;intro w19 H28;refine rp [.v,.v,.v,.v,.v] H28 kr fun gs13 w20 H29=>wX []<|zb ?_;by_cases hmade:(yL 40 k (0,⟨#[]⟩) (ys 40 k k1)).1=s
   ·refine rS [.v,.v,itE (yL 40 k (0,⟨#[]⟩) (ys 40 k k1)).1 s hmade] H29 kr fun gs14 w21 H30=>zi kr kr<|zj kr<|wW<|rS [.v,.l 0,.v,.v] H30 kr fun gs15 w22 H31=>rRr [.tmp 4,.tmp 5] [] (.tuple #[.slice pf nf cf,.int .i64 0]) (zV w.heap.size w (kb form s)) H31 kr ?_;have H32:St w.heap.size w w22 ((b10,fO pf nf cf)::(b6,kdO 40 q1 q2 q3)::(b8,ixO l1 s1 p1 n1 c1)::(Tf++(Td++T))):=H31.as kr;refine⟨Tf,.inl ⟨pf,nf,cf,ys 40 k k1,k,hp,rfl,hTf,?_⟩,H32.sub (Qs _ (Qs _ (Qs _ (List.sublist_append_left _ _))))⟩;rcases zhM k (ys 40 k k1) with h | h
    ·exact Prod.ext hmade h
    ·exact absurd (hmade.symm.trans h) (znE hit)
   ·refine rS [.v,.v,itO (yL 40 k (0,⟨#[]⟩) (ys 40 k k1)).1 s hmade] H29 kr fun gs14 w21 H30=>zh kr kr<|rS [.v,.v] H30 kr fun gs15 w22 H31=>rRr [.tmp 4,.tmp 5] [] (.tuple #[.slice none 0 0,.int .i64 4]) (zV w.heap.size w (kb form s)) H31 kr ?_;refine⟨[],.inr ⟨4,by decide,rfl,fun k' l' hp' ho' hw'=>?_⟩,H31.sub (QE _)⟩;obtain rfl:k=k':=Option.some.inj (hp.symm.trans hp');obtain⟨hl9,he9⟩:=xA hw';have hf:=(zaI (by decide) ho' hl9).2.2;have hk9:=(yd.inj h4 hit (vV he9)).2.2;rw[hk9,hf,hw']at hmade;exact hmade rfl
  ·have hno: ∀(k':Kf) (l':Fe),parseM form=some k'->l'.all fS.ok->yL 40 k' (0,⟨#[]⟩) l'≠(s,0):=fun k' l' _ ho' hw'=>by
    obtain⟨p9,n9,c9,hv,_⟩:=znD hw' ho' hdec;unfold erV at hv;injection hv with hv;have h9:=congrArg (fun a:Qd=>a[1]?) hv;simp at h9;exact her h9
   refine rp [.v,.v,.v] H11 kr fun gs7 w10 H12=>wX [5,6,7] ?_;have H13:St w.heap.size w w10 ([]++((b6,kdO 40 q1 q2 q3)::(T++ []))):=H12.as kr;refine zA H13 (some 8) 58 (.agg #[.bool false,.string ⟨#[]⟩,.slice none 0 0]) kr kr kr ?_;intro b8 w11 H14;refine rp [.s 0,.v] H14 kr fun gs8 w12 H15=>wX []<|zb<|za kr<|rS [.v,.E (.bool (!(er==0))) (.bool true) (zc (by rw[beq_eq_false_iff_ne.2 her];rfl))] H15 kr fun gs9 w13 H16=>zh kr kr<|rS [.v,.v,.v] H16 kr fun gs10 w14 H17=>rRr [.tmp 4,.tmp 5] [] (.tuple #[.slice none 0 0,.int .i64 er]) (zV w.heap.size w (kb form s)) H17 kr ?_;exact⟨[],.inr ⟨er,her,rfl,hno⟩,H17.sub (QE _)⟩
 ·refine rp [.v,.v,.v] H3 kr fun gs3 w4 H4=>wX [5,6,7] ?_;have H5:St w.heap.size w w4 (T++ []):=H4.as kr;refine zA H5 (some 6) 139 (.agg #[.int .u8 0,.slice none 0 0]) kr kr kr ?_;intro b6 w5 H6;refine rp [.s 0,.v] H6 kr fun gs4 w6 H7=>wX []<|zb<|za kr<|rS [.v,.v] H7 kr fun gs5 w7 H8=>zh kr kr<|rS [.v,.v] H8 kr fun gs6 w8 H10=>rRr [.tmp 4,.tmp 5] [] (.tuple #[.slice none 0 0,.int .i64 1]) (zV w.heap.size w (kb form s)) H10 kr ?_;exact⟨[],.inr ⟨1,by decide,rfl,fun k l h=>by rw[hp]at h;cases h⟩,H10.sub (QE _)⟩
theorem uE {k:Kf}{l l':Fe}{s:Qa}(h:yL 40 k (0,⟨#[]⟩) l=(s,0))(h':yL 40 k (0,⟨#[]⟩) l'=(s,0))(ho:l.all fS.ok)(ho':l'.all fS.ok):l=l':=by
 obtain⟨h1,h2⟩:=xA h;obtain⟨h1',h2'⟩:=xA h';have hi:=vV h2;have hz:s.size<=4000:=by
  have:=jW (show (zC true ⟨#[]⟩ (zI 40 k l).len (zI 40 k l)).2=0 by rw[h2]);have h9:=congrArg Ql this.1;rw[h2,yU,this.2.2.2.2.2.2]at h9;simp only at h9;omega
 have e:=(yd.inj hz hi (vV h2')).2.2;rw[<-(zaI (by decide) ho h1).2.2,<-(zaI (by decide) ho' h1').2.2,e]
theorem zhO (form:Qa)(l:Fe):(wrV form l).1.size<=4000:=by
 unfold wrV;split
 ·exact QU _
 ·rename_i k _
  rcases zhM k l with h|h
  ·have h2:=xA (s:=(yL 40 k (0,⟨#[]⟩) l).1) (Prod.ext rfl h);have:=jW (show (zC true ⟨#[]⟩ (zI 40 k l).len (zI 40 k l)).2=0 by rw[h2.2]);have h9:=congrArg Ql this.1;rw[h2.2,yU,this.2.2.2.2.2.2]at h9;simp only at h9;omega
  ·rw[h];exact QU _
theorem zhP {A B:Nat}(h:A<B):cm A B<0:=by unfold cm;split<;>(try split)<;>omega
theorem zhQ {A B:Nat}(h: ¬A<B): ¬cm A B<0:=by unfold cm;split<;>(try split)<;>omega
section
section
variable {p H Q:Nat}
end
open Go Go.RowKit Go.Proofs.Zm
end
section
open Go.ChangeShapes Go.WideShapes Go.ChangeAt
def bn (A:Nat):List Int:=[w3 A / 72057594037927936%256,w3 A / 281474976710656%256,w3 A / 1099511627776%256,w3 A / 4294967296%256,w3 A / 16777216%256,w3 A / 65536%256,w3 A / 256%256,w3 A%256,w2 A / 72057594037927936%256,w2 A / 281474976710656%256,w2 A / 1099511627776%256,w2 A / 4294967296%256,w2 A / 16777216%256,w2 A / 65536%256,w2 A / 256%256,w2 A%256,w1 A / 72057594037927936%256,w1 A / 281474976710656%256,w1 A / 1099511627776%256,w1 A / 4294967296%256,w1 A / 16777216%256,w1 A / 65536%256,w1 A / 256%256,w1 A%256,w0 A / 72057594037927936%256,w0 A / 281474976710656%256,w0 A / 1099511627776%256,w0 A / 4294967296%256,w0 A / 16777216%256,w0 A / 65536%256,w0 A / 256%256,w0 A%256]
def bs (A:Nat):Qa:=strOfNums (bn A)
theorem znF (w:World)(O:Obj)(xs:List Int)(n:Nat)(hn:xs.length=n)(C:Qd)(hC:C=(xs.map (Q0 .u8)).toArray):
 (convert 95 9 (.slice (some ⟨w.heap.size+1,0,none⟩) n n)).run Tryz.prog ((w.alloc O).alloc (.cells C 112))=.ok (.string (strOfNums xs)) ((w.alloc O).alloc (.cells C 112)):=by
 subst hC;refine run_convert_bytes_arg _ 95 5 Tryz.underlying95 Tryz.underlying5 _ 0 n n xs hn ?_ 9 Tryz.underlying9;intro i hi;have h:=heap_alloc2_new w O (.cells (xs.map (Q0 .u8)).toArray 112);rw[cell_of_row _ _ _ _ _ _ h];have hi':i<xs.length:=by omega
 simp[hi']
theorem znG (A:Nat)(hA:A<big)(w:World):Calls Tryz.prog 106 #[uv A] w fun e w'=>e=.returned (.string (bs A))/\Below w.heap.size w w':=by
 have hc:=fun (O:Obj)=>znF w O (bn A) 32 rfl _ rfl;simp only[bn,Q8,Ug]at hc;unfold uv
 go_enter Tryz.func106,Tryz.ntmps106
 go_wp2
 go_rounds 33
 go_ret
 exact⟨rfl,by go_grown⟩
theorem jo (A:Nat):(bs A).size=32:=rfl
end
def inN (a:Nat):Bool:= !decide (a=0)&&decide (a<NR)
def vt (a:Nat):Bool:=decide (NR<a+a)
def vu (a:Nat):Bool:=decide (a<qU 0 a NR)
theorem znH:inN 0=false:=rfl
theorem zhR {a:Nat}(h: ¬a=0):inN a=decide (a<NR):=by unfold inN;rw[decide_eq_false h];rfl
theorem znI:NR%2=1:=by decide+kernel
theorem uF (a:Nat)(ha:a<big):vu a=(inN a&& !vt a):=by
 have hpos:0<NR:=by decide+kernel
 have hodd:=znI;unfold vu inN vt qU;rw[Nat.zero_mod,Nat.zero_add];generalize NR=M at*;have hm:=RT a hpos;by_cases h0:a=0
 ·subst h0;rw[Nat.zero_mod,Nat.sub_zero,Nat.mod_self];rfl
 ·by_cases h1:a<M
  ·rw[Rj h1,Rj (by omega),decide_eq_false h0,decide_eq_true h1];rw[RM];simp only[decide_eq_true_eq,Bool.not_false,UJ,Bool.not_eq_true',decide_eq_false_iff_not];omega
  ·have h2:=RT (M-a%M) hpos;rw[decide_eq_false h1,decide_eq_false h0,decide_eq_false (by omega)];rfl
def zP (r s:Nat)(v:Int):Bool:=inN r&&vu s&&(decide (v=0)||decide (v=1))
def sgv (r s:Nat)(v:Int):Value:=.agg #[.int .u64 (w0 r),.int .u64 (w1 r),.int .u64 (w2 r),.int .u64 (w3 r),.int .u64 (w0 s),.int .u64 (w1 s),.int .u64 (w2 s),.int .u64 (w3 s),.int .i64 v]
def sbs (r s:Nat)(v:Int):Qa:=(bs r++bs s)++strOfNums [QG.wrap v]
theorem zcd (a b:Qa):(a++b).size=a.size+b.size:=ByteArray.size_append
theorem znJ (a:Nat)(ha:a<big)(h:a=0):Fn Tryz.prog 141 #[uv a] (.bool false):=by
 refine zv [.tmp 2] 18 Tryz.func141 fun w=>?_;have H0:=St.start w;refine rS [.b,.v] H0 kr fun gs1 w1 H1=>?_;clear H0;refine rS [.c zbs,.v,.v,.v,.a,.s 1,.v] H1 kr fun gs2 w2 H2=>?_;clear H1;refine rS [.l 0,.v,.oe (ins:=[((.tmp 9),uv a),((.tmp 10),.agg #[wZ,wZ,wZ,wZ])]) (v:=.bool (!decide (a=0))) (v':=.bool false) (fun ρ o w ho hi=>vR (x:=(.tmp 9)) (y:=(.tmp 10)) a 0 ha (by unfold big;omega) w ho hi.1 hi.2.1) (by rw[decide_eq_true h]<;>rfl),.v,.n,.n,.n,.n,.v,.v] H2 kr fun gs3 w3 H3=>?_;clear H2;refine zk kr<|wV ?_;refine⟨[.bool false],(.tmp (.bool false) kr .nil),?_,H3.below⟩;rfl
theorem znK (a:Nat)(ha:a<big)(h: ¬a=0)(h2: ¬a<NR):Fn Tryz.prog 141 #[uv a] (.bool false):=by
 refine zv [.tmp 2] 18 Tryz.func141 fun w=>?_;have H0:=St.start w;refine rS [.b,.v] H0 kr fun gs1 w1 H1=>?_;clear H0;refine rS [.c zbs,.v,.v,.v,.a,.s 1,.v] H1 kr fun gs2 w2 H2=>?_;clear H1;refine rS [.l 0,.v,.oe (ins:=[((.tmp 9),uv a),((.tmp 10),.agg #[wZ,wZ,wZ,wZ])]) (v:=.bool (!decide (a=0))) (v':=.bool true) (fun ρ o w ho hi=>vR (x:=(.tmp 9)) (y:=(.tmp 10)) a 0 ha (by unfold big;omega) w ho hi.1 hi.2.1) (by rw[decide_eq_false h]<;>rfl),.v,.l 0,.l 1,.c (zas a NR ha jU.1),itF (cm a NR<0) (zhQ h2),.v,.v] H2 kr fun gs3 w3 H3=>?_;clear H2;refine zk kr<|wV ?_;refine⟨[.bool false],(.tmp (.bool false) kr .nil),?_,H3.below⟩;rfl
theorem znL (a:Nat)(ha:a<big)(h: ¬a=0)(h2:a<NR):Fn Tryz.prog 141 #[uv a] (.bool true):=by
 refine zv [.tmp 2] 18 Tryz.func141 fun w=>?_;have H0:=St.start w;refine rS [.b,.v] H0 kr fun gs1 w1 H1=>?_;clear H0;refine rS [.c zbs,.v,.v,.v,.a,.s 1,.v] H1 kr fun gs2 w2 H2=>?_;clear H1;refine rS [.l 0,.v,.oe (ins:=[((.tmp 9),uv a),((.tmp 10),.agg #[wZ,wZ,wZ,wZ])]) (v:=.bool (!decide (a=0))) (v':=.bool true) (fun ρ o w ho hi=>vR (x:=(.tmp 9)) (y:=(.tmp 10)) a 0 ha (by unfold big;omega) w ho hi.1 hi.2.1) (by rw[decide_eq_false h]<;>rfl),.v,.l 0,.l 1,.c (zas a NR ha jU.1),itT (cm a NR<0) (zhP h2),.v,.v] H2 kr fun gs3 w3 H3=>?_;clear H2;refine zk kr<|wV ?_;refine⟨[.bool true],(.tmp (.bool true) kr .nil),?_,H3.below⟩;rfl
theorem znM (a:Nat)(ha:a<big):Fn Tryz.prog 141 #[uv a] (.bool (inN a)):=by
 by_cases h:a=0
 ·have:=znJ a ha h;subst h;exact this
 ·rw[zhR h];by_cases h2:a<NR
  ·rw[decide_eq_true h2];exact znL a ha h h2
  ·rw[decide_eq_false h2];exact znK a ha h h2
theorem zhS (a:Nat)(ha:a<big):Fn Tryz.prog 157 #[uv a] (uv (qU 0 a NR)):=by
 refine zv [.cell 2 50] 12 Tryz.func157 fun w=>?_;have H0:=St.start w;refine rS [.b,.a] H0 kr fun gs1 w1 H1=>?_;clear H0;refine rS [.v,.l 0,.c (zld 0 a (by unfold big;omega) ha),.v,.v,.v,.a,.s 2,.v] H1 kr fun gs2 w2 H2=>?_;clear H1;refine rS [.l 2,.s 1] H2 kr fun gs3 w3 H3=>?_;clear H2;refine zk kr<|wV ?_;refine⟨[uv (qU 0 a NR)],(.agg (b:=(gs1 1).b) (Qn (uv (qU 0 a NR))) 50 (0,0) kr (H3.get 1 kr) kr .nil),?_,H3.below⟩;rfl
theorem znN (a:Nat)(ha:a<big)(h:a<qU 0 a NR):Fn Tryz.prog 142 #[uv a] (.bool true):=by
 refine zv [.tmp 2] 8 Tryz.func142 fun w=>?_;have H0:=St.start w;refine rS [.b,.v] H0 kr fun gs1 w1 H1=>?_;clear H0;refine dS [.l 0,.l 0,.c (zhS a ha),.c (zas a (qU 0 a NR) ha (zf4 jU)),itT (cm a (qU 0 a NR)<0) (zhP h),.v] H1 kr fun w2 H2=>?_;clear H1;refine zk kr<|wV ?_;refine⟨[.bool true],(.tmp (.bool true) kr .nil),?_,H2.below⟩;rfl
theorem znO (a:Nat)(ha:a<big)(h: ¬a<qU 0 a NR):Fn Tryz.prog 142 #[uv a] (.bool false):=by
 refine zv [.tmp 2] 8 Tryz.func142 fun w=>?_;have H0:=St.start w;refine rS [.b,.v] H0 kr fun gs1 w1 H1=>?_;clear H0;refine dS [.l 0,.l 0,.c (zhS a ha),.c (zas a (qU 0 a NR) ha (zf4 jU)),itF (cm a (qU 0 a NR)<0) (zhQ h),.v] H1 kr fun w2 H2=>?_;clear H1;refine zk kr<|wV ?_;refine⟨[.bool false],(.tmp (.bool false) kr .nil),?_,H2.below⟩;rfl
theorem znP (a:Nat)(ha:a<big):Fn Tryz.prog 142 #[uv a] (.bool (vu a)):=by
 unfold vu;by_cases h:a<qU 0 a NR
 ·rw[decide_eq_true h];exact znN a ha h
 ·rw[decide_eq_false h];exact znO a ha h
theorem zce (r s:Nat)(hr:r<big)(hs:s<big)(v:Int):Fn Tryz.prog 105 #[sgv r s (v)] (.bool (zP r s v)):=by
 refine zv [.tmp 2] 21 Tryz.func105 fun w=>?_;have H0:=St.start w;refine rS [.b,.v] H0 kr fun gs1 w1 H1=>?_;clear H0;refine zd [0,1,2,3,4,5,6,7,8,9,10,11,12,13,14,15,16,17,18] kr kr<|rp [.v,.l 0,.c (znM r hr)] H1 kr fun gs2 w2 H2=>wX [3,4,5,6,7,8,9,10,11,12,13,14,15,16,17,18] ?_;clear H1;refine Or.elim (Q4 (inN r)).symm (fun hb1=>?_) (fun hb1=>?_)
 ·refine zL 5 (v:=.bool (inN r)) (v':=.bool false) (zc hb1) kr<|rp [.v,.n,.n,.n,.v,.v,.n,.n,.n,.n] H2 kr fun gs3 w3 H3=>wX [13,14,15,16,17,18] ?_;clear H2;refine xT (some 16) kr kr<|xT (some 17) kr kr<|xT (some 18) kr kr<|rp [.n,.v,.v] H3 kr fun gs4 w4 H4=>wX [] ?_;clear H3;refine zb<|zk kr<|wV ?_;refine⟨[.bool false],(.tmp (.bool false) kr .nil),?_,H4.below⟩;exact congrArg RV (by unfold zP;simp[hb1]<;>omega)
 ·refine zL 5 (v:=.bool (inN r)) (v':=.bool true) (zc hb1) kr<|rp [.v,.v,.l 0,.c (znP s hs)] H2 kr fun gs5 w5 H5=>wX [7,8,9,10,11,12,13,14,15,16,17,18] ?_;clear H2;refine Or.elim (Q4 (vu s)).symm (fun hb2=>?_) (fun hb2=>?_)
  ·refine zL 9 (v:=.bool (vu s)) (v':=.bool false) (zc hb2) kr<|rp [.v,.v,.n,.n,.n,.n] H5 kr fun gs6 w6 H6=>wX [13,14,15,16,17,18] ?_;clear H5;refine xT (some 16) kr kr<|xT (some 17) kr kr<|xT (some 18) kr kr<|rp [.n,.v,.v] H6 kr fun gs7 w7 H7=>wX [] ?_;clear H6;refine zb<|zk kr<|wV ?_;refine⟨[.bool false],(.tmp (.bool false) kr .nil),?_,H7.below⟩;exact congrArg RV (by unfold zP;simp[hb1,hb2]<;>omega)
  ·refine zL 9 (v:=.bool (vu s)) (v':=.bool true) (zc hb2) kr<|rp [.v,.v,.v,.l 0] H5 kr fun gs8 w8 H8=>wX [11,12,13,14,15,16,17,18] ?_;clear H5;by_cases hc1:(v:Int)=0
   ·refine rp [itQ v 0,.v,.n,.n,.n,.v,.v,.v] H8 kr fun gs9 w9 H9=>wX [] ?_;clear H8;refine zb<|zk kr<|wV ?_;refine⟨[.bool true],(.tmp (.bool true) kr .nil),?_,H9.below⟩;exact congrArg RV (by unfold zP;simp[hb1,hb2]<;>omega)
   ·refine rp [itD v 0,.v,.v,.l 0] H8 kr fun gs10 w10 H10=>wX [15,16,17,18] ?_;clear H8;by_cases hc2:(v:Int)=1
    ·refine rp [itQ v 1,.v,.v,.v] H10 kr fun gs11 w11 H11=>wX [] ?_;clear H10;refine zb<|zk kr<|wV ?_;refine⟨[.bool true],(.tmp (.bool true) kr .nil),?_,H11.below⟩;exact congrArg RV (by unfold zP;simp[hb1,hb2]<;>omega)
    ·refine rp [itD v 1,.v,.v,.v] H10 kr fun gs12 w12 H12=>wX [] ?_;clear H10;refine zb<|zk kr<|wV ?_;refine⟨[.bool false],(.tmp (.bool false) kr .nil),?_,H12.below⟩;exact congrArg RV (by unfold zP;simp[hb1,hb2]<;>omega)
theorem zhT (a:Nat)(ha:a<big):Fn Tryz.prog 85 #[uv a] (.bool (inN a)):=by
 refine zv [.tmp 2] 15 Tryz.func85 fun w=>?_;have H0:=St.start w;refine rS [.b,.v] H0 kr fun gs1 w1 H1=>?_;clear H0;refine zd [0,1,2] kr kr<|rp [.c zgh] H1 kr fun gs2 w2 H2=>wX [1,2] ?_;clear H1;refine vL H2 (some 5) 121 #[uv NR] (fun _=>True) 3 1 (fun curZ capZ nZ lZ=>(nZ=Qo lZ/\Rw 1 curZ capZ nZ (zW lZ)/\Ok lZ/\(lZ=dgs NR 16/\vl lZ=NR/\Qo lZ=16))) (zau NR jU.1) trivial kr kr ?_;intro b_1 cap_2 n_3 cur_4 l_5 w3 H3 hs_6;clear H2;obtain⟨hs_6n,hs_6r,hs_6o,hs_6s⟩:=hs_6;obtain⟨hs_6a,hs_6b,hs_6c⟩:=hs_6s;refine rp [.v] H3 kr fun gs4 w4 H4=>wX [] ?_;clear H3;refine zb<|zd [0,1,2,3,4,5,6,7,8,9] kr kr<|rp [.l 1,.v] H4 kr fun gs5 w5 H5=>wX [2,3,4,5,6,7,8,9] ?_;clear H4;by_cases he1:(a:Nat)=0
 ·refine rp [.oe (ins:=[((.tmp 6),uv a),((.tmp 7),.agg #[wZ,wZ,wZ,wZ])]) (v:=.bool (!decide (a=0))) (v':=.bool false) (fun ρ o w ho hi=>vR (x:=(.tmp 6)) (y:=(.tmp 7)) a 0 ha (by unfold big;omega) w ho hi.1 hi.2.1) (by rw[decide_eq_true he1]<;>rfl),.v,.n,.n,.n,.n,.v,.v] H5 kr fun gs6 w6 H6=>wX [] ?_;clear H5;refine zb<|zk kr<|wV ?_;refine⟨[.bool false],(.tmp (.bool false) kr .nil),?_,H6.below⟩;exact congrArg RV (show false=inN a by rw[he1];rfl)
 ·refine rp [.oe (ins:=[((.tmp 6),uv a),((.tmp 7),.agg #[wZ,wZ,wZ,wZ])]) (v:=.bool (!decide (a=0))) (v':=.bool true) (fun ρ o w ho hi=>vR (x:=(.tmp 6)) (y:=(.tmp 7)) a 0 ha (by unfold big;omega) w ho hi.1 hi.2.1) (by rw[decide_eq_false he1]<;>rfl),.v,.l 1] H5 kr fun gs7 w7 H7=>wX [5,6,7,8,9] ?_;clear H5;refine vL H7 (some 11) 121 #[uv a] (fun _=>True) 3 1 (fun curZ capZ nZ lZ=>(nZ=Qo lZ/\Rw 1 curZ capZ nZ (zW lZ)/\Ok lZ/\(lZ=dgs a 16/\vl lZ=a/\Qo lZ=16))) (zau a ha) trivial kr kr ?_;intro b_7 cap_8 n_9 cur_10 l_11 w8 H8 hs_12;clear H7;obtain⟨hs_12n,hs_12r,hs_12o,hs_12s⟩:=hs_12;obtain⟨hs_12a,hs_12b,hs_12c⟩:=hs_12s;refine rp [.v,.cp (pre:=fun w=>w.heap[b_7]? =some (.cells cur_10 3)/\w.heap[b_1]? =some (.cells cur_4 3)) (zgg l_11 l_5 b_7 n_9 cap_8 b_1 n_3 cap_2 cur_10 cur_4 hs_12n hs_6n hs_12r hs_6r hs_12o hs_6o (by omega) (by omega)) [(0,(b_7,Qk cur_10 3)),(1,(b_1,Qk cur_4 3))] (fun w hb hd=>⟨hd.1,hd.2.1⟩),.v,.v] H8 kr fun gs9 w9 H9=>wX [] ?_;clear H8;refine zb<|zk kr<|wV ?_;refine⟨[.bool (ls l_11 l_5)],(.tmp (.bool (ls l_11 l_5)) kr .nil),?_,H9.below⟩;exact congrArg RV (show ls l_11 l_5=inN a by rw[zhR he1];unfold ls;rw[hs_12b,hs_6b])
theorem znQ (a:Nat)(ha:a<big):Fn Tryz.prog 86 #[uv a] (.bool (vt a)):=by
 refine zv [.tmp 2] 12 Tryz.func86 fun w=>?_;have H0:=St.start w;refine rS [.b,.v] H0 kr fun gs1 w1 H1=>?_;clear H0;refine zd [0,1,2] kr kr<|rp [.l 0] H1 kr fun gs2 w2 H2=>wX [1,2] ?_;clear H1;refine vL H2 (some 5) 121 #[uv a] (fun _=>True) 3 1 (fun curZ capZ nZ lZ=>(nZ=Qo lZ/\Rw 1 curZ capZ nZ (zW lZ)/\Ok lZ/\(lZ=dgs a 16/\vl lZ=a/\Qo lZ=16))) (zau a ha) trivial kr kr ?_;intro b_1 cap_2 n_3 cur_4 l_5 w3 H3 hs_6;clear H2;obtain⟨hs_6n,hs_6r,hs_6o,hs_6s⟩:=hs_6;obtain⟨hs_6a,hs_6b,hs_6c⟩:=hs_6s;refine rp [.v] H3 kr fun gs4 w4 H4=>wX [] ?_;clear H3;refine zb<|zd [0,1,2,3,4,5,6] kr kr<|rp [.c zgh] H4 kr fun gs5 w5 H5=>wX [1,2,3,4,5,6] ?_;clear H4;refine vL H5 (some 7) 121 #[uv NR] (fun _=>True) 3 1 (fun curZ capZ nZ lZ=>(nZ=Qo lZ/\Rw 1 curZ capZ nZ (zW lZ)/\Ok lZ/\(lZ=dgs NR 16/\vl lZ=NR/\Qo lZ=16))) (zau NR jU.1) trivial kr kr ?_;intro b_7 cap_8 n_9 cur_10 l_11 w6 H6 hs_12;clear H5;obtain⟨hs_12n,hs_12r,hs_12o,hs_12s⟩:=hs_12;obtain⟨hs_12a,hs_12b,hs_12c⟩:=hs_12s;refine rp [.v,.v] H6 kr fun gs7 w7 H7=>wX [4,5,6] ?_;clear H6;refine vL H7 (some 10) 118 #[Qf b_1 n_3 cap_2,Qf b_1 n_3 cap_2] (fun w=>w.heap[b_1]? =some (.cells cur_4 3)/\w.heap[b_1]? =some (.cells cur_4 3)) 3 1 (fun curZ capZ nZ lZ=>(nZ=Qo lZ/\Rw 1 curZ capZ nZ (zW lZ)/\Ok lZ/\(vl lZ=vl l_5+vl l_5/\Qo lZ<=max (Qo l_5) (Qo l_5)+1/\max (Qo l_5) (Qo l_5)<=Qo lZ))) (zgf l_5 l_5 b_1 n_3 cap_2 b_1 n_3 cap_2 cur_4 cur_4 hs_6n hs_6n hs_6r hs_6r hs_6o hs_6o (by omega) (by omega)) (⟨(H7.get 1 kr),(H7.get 1 kr)⟩) kr kr ?_;intro b_13 cap_14 n_15 cur_16 l_17 w8 H8 hs_18;clear H7;obtain⟨hs_18n,hs_18r,hs_18o,hs_18s⟩:=hs_18;refine rp [.cp (pre:=fun w=>w.heap[b_7]? =some (.cells cur_10 3)/\w.heap[b_13]? =some (.cells cur_16 3)) (zgg l_11 l_17 b_7 n_9 cap_8 b_13 n_15 cap_14 cur_10 cur_16 hs_12n hs_18n hs_12r hs_18r hs_12o hs_18o (by omega) (by omega)) [(1,(b_7,Qk cur_10 3)),(0,(b_13,Qk cur_16 3))] (fun w hb hd=>⟨hd.1,hd.2.1⟩),.v] H8 kr fun gs9 w9 H9=>wX [] ?_;clear H8;refine zb<|zk kr<|wV ?_;refine⟨[.bool (ls l_11 l_17)],(.tmp (.bool (ls l_11 l_17)) kr .nil),?_,H9.below⟩;exact congrArg RV (show ls l_11 l_17=vt a by unfold ls vt;rw[hs_12b,hs_18s.1,hs_6b])
theorem zcf (r s:Nat)(hr:r<big)(hs:s<big)(v:Int):Fn Tryz.prog 59 #[sgv r s (v)] (.bool (zP r s v)):=by
 refine zv [.tmp 2] 27 Tryz.func59 fun w=>?_;have H0:=St.start w;refine rS [.b,.v] H0 kr fun gs1 w1 H1=>?_;clear H0;refine zd [0,1,2,3,4,5,6,7,8,9,10,11,12,13,14,15,16,17,18,19,20,21,22,23,24] kr kr<|rp [.v,.l 0,.c (zhT r hr)] H1 kr fun gs2 w2 H2=>wX [3,4,5,6,7,8,9,10,11,12,13,14,15,16,17,18,19,20,21,22,23,24] ?_;clear H1;refine Or.elim (Q4 (inN r)).symm (fun hb1=>?_) (fun hb1=>?_)
 ·refine zL 5 (v:=.bool (inN r)) (v':=.bool false) (zc hb1) kr<|rp [.v,.n,.n,.n,.v,.v,.n,.n,.n,.n,.v,.v,.n,.n,.n,.v,.v,.n,.n,.n,.v,.v] H2 kr fun gs3 w3 H3=>wX [] ?_;clear H2;refine zb<|zk kr<|wV ?_;refine⟨[.bool false],(.tmp (.bool false) kr .nil),?_,H3.below⟩;exact congrArg RV (by unfold zP;rw[uF s hs];simp[hb1]<;>omega)
 ·refine zL 5 (v:=.bool (inN r)) (v':=.bool true) (zc hb1) kr<|rp [.v,.v,.l 0,.c (zhT s hs)] H2 kr fun gs4 w4 H4=>wX [7,8,9,10,11,12,13,14,15,16,17,18,19,20,21,22,23,24] ?_;clear H2;refine Or.elim (Q4 (inN s)).symm (fun hb2=>?_) (fun hb2=>?_)
  ·refine zL 9 (v:=.bool (inN s)) (v':=.bool false) (zc hb2) kr<|rp [.v,.v,.n,.n,.n,.n,.v,.v,.n,.n,.n,.v,.v,.n,.n,.n,.v,.v] H4 kr fun gs5 w5 H5=>wX [] ?_;clear H4;refine zb<|zk kr<|wV ?_;refine⟨[.bool false],(.tmp (.bool false) kr .nil),?_,H5.below⟩;exact congrArg RV (by unfold zP;rw[uF s hs];simp[hb1,hb2]<;>omega)
  ·refine zL 9 (v:=.bool (inN s)) (v':=.bool true) (zc hb2) kr<|rp [.v,.v,.v,.l 0,.c (znQ s hs)] H4 kr fun gs6 w6 H6=>wX [12,13,14,15,16,17,18,19,20,21,22,23,24] ?_;clear H4;refine Or.elim (Q4 (vt s)).symm (fun hb3=>?_) (fun hb3=>?_)
   ·refine zL 14 (v:=.bool (vt s)) (v':=.bool false) (zc hb3) kr<|rp [.v,.v,.v,.v,.l 0] H6 kr fun gs7 w7 H7=>wX [17,18,19,20,21,22,23,24] ?_;clear H6;by_cases hc1:(v:Int)≥0
    ·refine rp [itT (0<=v),.v,.v,.v,.l 0] H7 kr fun gs8 w8 H8=>wX [22,23,24] ?_;clear H7;by_cases hc2:(v:Int)<=1
     ·refine rp [itT (v<=1),.v,.v] H8 kr fun gs9 w9 H9=>wX [] ?_;clear H8;refine zb<|zk kr<|wV ?_;refine⟨[.bool true],(.tmp (.bool true) kr .nil),?_,H9.below⟩;exact congrArg RV (by unfold zP;rw[uF s hs];simp[hb1,hb2,hb3]<;>omega)
     ·refine rp [itF (v<=1),.v,.v] H8 kr fun gs10 w10 H10=>wX [] ?_;clear H8;refine zb<|zk kr<|wV ?_;refine⟨[.bool false],(.tmp (.bool false) kr .nil),?_,H10.below⟩;exact congrArg RV (by unfold zP;rw[uF s hs];simp[hb1,hb2,hb3]<;>omega)
    ·refine rp [itF (0<=v),.v,.v,.n,.n,.n,.v,.v] H7 kr fun gs11 w11 H11=>wX [] ?_;clear H7;refine zb<|zk kr<|wV ?_;refine⟨[.bool false],(.tmp (.bool false) kr .nil),?_,H11.below⟩;exact congrArg RV (by unfold zP;rw[uF s hs];simp[hb1,hb2,hb3]<;>omega)
   ·refine zL 14 (v:=.bool (vt s)) (v':=.bool true) (zc hb3) kr<|rp [.v,.v,.v,.n,.n,.n,.v,.v,.n,.n,.n,.v,.v] H6 kr fun gs12 w12 H12=>wX [] ?_;clear H6;refine zb<|zk kr<|wV ?_;refine⟨[.bool false],(.tmp (.bool false) kr .nil),?_,H12.below⟩;exact congrArg RV (by unfold zP;rw[uF s hs];simp[hb1,hb2,hb3]<;>omega)
end Go.Proofs.YtcjejfklpegobaaGreatDoor
namespace Go.Proofs.Kec
abbrev B64:=BitVec 64
def nth (s:List B64)(k:Nat):B64:=s.getD k 0
def rl (x:B64)(n:Nat):B64:=x.rotateLeft n
def vW (v w x:B64):B64:=v ^^^ (x &&& ~~~ w)
def cC (s:List B64)(x:Nat):B64:=nth s x ^^^ nth s (x+5) ^^^ nth s (x+10) ^^^ nth s (x+15) ^^^ nth s (x+20)
def dD (c:Nat->B64)(x:Nat):B64:=c ((x+4)%5) ^^^ rl (c ((x+1)%5)) 1
def zhU:List Nat:=[0,6,12,18,24,3,9,10,16,22,1,7,13,19,20,4,5,11,17,23,2,8,14,15,21]
def zhV:List Nat:=[0,44,43,21,14,28,20,3,45,61,1,6,25,8,18,27,36,10,15,56,62,55,39,41,2]
def th (s:List B64)(i:Nat):B64:=nth s i ^^^ dD (cC s) (i%5)
def pI (s:List B64)(k:Nat):B64:=rl (th s (zhU.getD k 0)) (zhV.getD k 0)
def xI (b:Nat->B64)(k:Nat):B64:=vW (b k) (b (k / 5*5+(k%5+1)%5)) (b (k / 5*5+(k%5+2)%5))
def rnd (s:List B64):List B64:=(QW 25).map (xI (pI s))
theorem znR (a:B64)(n i:Nat)(hi:i<64):(rl a n).getLsbD i=a.getLsbD ((i+64-n%64)%64):=by
 unfold rl;rw[BitVec.getLsbD_rotateLeft];by_cases h:i<n%64
 ·rw[decide_eq_true h,cond_true];congr 1;omega
 ·rw[decide_eq_false h,cond_false,decide_eq_true hi,UJ];congr 1;omega
theorem znS (s:List B64):(rnd s).length=25:=by unfold rnd;simp
def zcg (m:B64)(s:List B64):List B64:=(nth s 0 ^^^ m)::s.drop 1
def rm (s:List B64)(m:B64):List B64:=zcg m (rnd s)
def marks:List B64:=[0x0000000000000001,0x0000000000008082,0x800000000000808A,0x8000000080008000,
 0x000000000000808B,0x0000000080000001,0x8000000080008081,0x8000000000008009,
 0x000000000000008A,0x0000000000000088,0x0000000080008009,0x000000008000000A,
 0x000000008000808B,0x800000000000008B,0x8000000000008089,0x8000000000008003,
 0x8000000000008002,0x8000000000000080,0x000000000000800A,0x800000008000000A,
 0x8000000080008081,0x8000000000008080,0x0000000080000001,0x8000000080008008]
def mix (s:List B64):List B64:=marks.foldl rm s
theorem znT (m:B64){s:List B64}(h:s.length=25):(zcg m s).length=25:=by unfold zcg;simp[h]
theorem znU (s:List B64)(m:B64):(rm s m).length=25:=znT m (znS s)
theorem zhW: ∀(ms:List B64) {s:List B64},s.length=25->(ms.foldl rm s).length=25
 | [],_,h=>h
 | m::ms,s,_=>zhW ms (znU s m)
theorem zea {s:List B64}(h:s.length=25):(mix s).length=25:=zhW _ h
def vw (b:UInt8):B64:=Qw 64 b.toNat
def qF (b:B64)(i:Nat):B64:=b <<< (i%8*8)
def lay (s:List B64)(n:Nat)(b:B64):List B64:=s.set (n / 8) (nth s (n / 8) ^^^ qF b n)
def qN (st:List B64×Nat)(b:UInt8):List B64×Nat:=
 if st.2+1=136 then (mix (lay st.1 st.2 (vw b)),0) else (lay st.1 st.2 (vw b),st.2+1)
def takeB (st:List B64×Nat)(l:List UInt8):List B64×Nat:=l.foldl qN st
def endB (st:List B64×Nat):List B64:=lay (lay st.1 st.2 1) 135 0x80
def firstB (s:List B64):List UInt8:=(QW 32).map fun i=>QY ((nth s (i / 8)).toNat / 2^(i%8*8))
def zeroS:List B64:=List.replicate 25 0
def sumB (l:List UInt8):List UInt8:=firstB (mix (endB (takeB (zeroS,0) l)))
theorem jY {s:List B64}(n:Nat)(b:B64)(h:s.length=25):(lay s n b).length=25:=by unfold lay;simp[h]
structure StOK (st:List B64×Nat):Prop where
 len:st.1.length=25
 lt:st.2<136
theorem znV {st:List B64×Nat}(b:UInt8)(h:StOK st):StOK (qN st b):=by
 unfold qN;split
 ·exact⟨zea (jY _ _ h.len),(by decide:0<136)⟩
 ·exact⟨jY _ _ h.len,by have:=h.lt;simp only;omega⟩
theorem takeB_ok: ∀(l:List UInt8) {st:List B64×Nat},StOK st->StOK (takeB st l)
 | [],_,h=>h
 | b::l,st,h=>takeB_ok l (znV b h)
theorem takeB_append (st:List B64×Nat)(l m:List UInt8):takeB st (l++m)=takeB (takeB st l) m:=by unfold takeB;exact V6
theorem zch (st:List B64×Nat)(l:List UInt8)(b:UInt8):takeB st (l++ [b])=qN (takeB st l) b:=by rw[takeB_append];rfl
theorem zero_ok:StOK (zeroS,0):=⟨by decide,by decide⟩
theorem znW (s:List B64):(firstB s).length=32:=by unfold firstB;simp
theorem sumB_len (l:List UInt8):(sumB l).length=32:=znW _
end Go.Proofs.Kec
namespace Go.Proofs.YtcjejfklpegobaaGreatDoor
namespace Ke
open Go.Proofs.Kec
theorem zhX (x:BitVec 64)(n:Nat)(h:n<64):x <<< n ||| x >>> (64-n)=rl x n:=by
 unfold rl BitVec.rotateLeft BitVec.rotateLeftAux;rw[Rj h]
theorem znX (n:Nat)(h:n<64):Q0 .u64 (Q2 .and .u64 (n:Int) 63)=.int .u64 (n:Int):=by
 rw[show (63:Int)=((63:Nat):Int) from rfl,u64_and_nat n 63 (by omega) (by omega),show (63:Nat)=2^6-1 from rfl,Nat.and_two_pow_sub_one_eq_mod,Rj (by omega)]
theorem znY (x:BitVec 64)(n:Nat)(hn:n<64):Fn Tryz.prog 143 #[.int .u64 (Qj x:Int),.int .i64 (n:Int)] (.int .u64 (Qj (rl x n):Int)):=by
 refine zv [.tmp 4] 17 Tryz.func143 fun w=>?_;have H0:=St.start w;refine rS [.v] H0 kr fun gs1 w1 H1=>?_;clear H0;refine rS [.v,.E (.int .u64 (QA.wrap ((n:Int)))) (.int .u64 (n:Int)) (zf (yw (a:=n) (by omega))),.E (.int .u64 (Q2 .and .u64 (n:Int) 63)) (.int .u64 (n:Int)) (znX n hn),.v] H1 kr fun gs2 w2 H2=>?_;clear H1;refine rS [.v,.v,.E (.int .u64 (QA.wrap (((Qj x:Int))*2^(min n 64)))) (.int .u64 (Qj (x <<< n):Int)) (zbi x n),.v,.v,.E (.int .u64 (QA.wrap (64-(n:Int)))) (.int .u64 ((64-n:Nat):Int)) (zf (zfE (a:=64) (b:=n) (by omega))),.E (.int .u64 (Vc ((Qj x:Int)) (2^(min (64-n) 64)))) (.int .u64 (Qj (x >>> (64-n)):Int)) (zbj x (64-n)),.E (.int .u64 (Q2 .or .u64 ((Qj (x <<< n):Int)) ((Qj (x >>> (64-n)):Int)))) (.int .u64 (Qj ((x <<< n) ||| (x >>> (64-n))):Int)) (zdb (x <<< n) (x >>> (64-n))),.v] H2 kr fun gs3 w3 H3=>?_;clear H2;refine zk kr<|wV ?_;refine⟨[.int .u64 (Qj ((x <<< n) ||| (x >>> (64-n))):Int)],(.tmp (.int .u64 (Qj ((x <<< n) ||| (x >>> (64-n))):Int)) kr .nil),?_,H3.below⟩;rw[<-zhX x n hn];rfl
theorem yG (x:BitVec 64)(n:Nat)(hn:n<64):Fn Tryz.prog 107 #[.int .u64 (Qj x:Int),.int .i64 (n:Int)] (.int .u64 (Qj (rl x n):Int)):=by
 refine zv [.tmp 4] 8 Tryz.func107 fun w=>?_;have H0:=St.start w;refine rS [.v] H0 kr fun gs1 w1 H1=>?_;clear H0;refine rS [.v,.v,.c (znY x n (by omega)),.v] H1 kr fun gs2 w2 H2=>?_;clear H1;refine zk kr<|wV ?_;refine⟨[.int .u64 (Qj (rl x n):Int)],(.tmp (.int .u64 (Qj (rl x n):Int)) kr .nil),?_,H2.below⟩;rfl
theorem zaN (xa xb xc xd xe:BitVec 64):Fn Tryz.prog 108 #[.int .u64 (Qj xa:Int),.int .u64 (Qj xb:Int),.int .u64 (Qj xc:Int),.int .u64 (Qj xd:Int),.int .u64 (Qj xe:Int)] (.tuple #[.int .u64 (Qj (vW xa xb xc):Int),.int .u64 (Qj (vW xb xc xd):Int),.int .u64 (Qj (vW xc xd xe):Int),.int .u64 (Qj (vW xd xe xa):Int),.int .u64 (Qj (vW xe xa xb):Int)]):=by
 refine zv [.tmp 10,.tmp 11,.tmp 12,.tmp 13,.tmp 14] 40 Tryz.func108 fun w=>?_;have H0:=St.start w;refine rS [.v,.v,.v,.v,.v] H0 kr fun gs1 w1 H1=>?_;clear H0;refine rS [.v,.v,.v,.E (.int .u64 (Q2 .andNot .u64 ((Qj xc:Int)) ((Qj xb:Int)))) (.int .u64 (Qj (xc &&& ~~~xb):Int)) (zal xc xb),.E (.int .u64 (Q2 .xor .u64 ((Qj xa:Int)) ((Qj (xc &&& ~~~xb):Int)))) (.int .u64 (Qj (xa ^^^ (xc &&& ~~~xb)):Int)) (zG xa (xc &&& ~~~xb)),.v,.v,.v,.E (.int .u64 (Q2 .andNot .u64 ((Qj xd:Int)) ((Qj xc:Int)))) (.int .u64 (Qj (xd &&& ~~~xc):Int)) (zal xd xc),.E (.int .u64 (Q2 .xor .u64 ((Qj xb:Int)) ((Qj (xd &&& ~~~xc):Int)))) (.int .u64 (Qj (xb ^^^ (xd &&& ~~~xc)):Int)) (zG xb (xd &&& ~~~xc)),.v,.v,.v,.E (.int .u64 (Q2 .andNot .u64 ((Qj xe:Int)) ((Qj xd:Int)))) (.int .u64 (Qj (xe &&& ~~~xd):Int)) (zal xe xd),.E (.int .u64 (Q2 .xor .u64 ((Qj xc:Int)) ((Qj (xe &&& ~~~xd):Int)))) (.int .u64 (Qj (xc ^^^ (xe &&& ~~~xd)):Int)) (zG xc (xe &&& ~~~xd)),.v,.v,.v,.E (.int .u64 (Q2 .andNot .u64 ((Qj xa:Int)) ((Qj xe:Int)))) (.int .u64 (Qj (xa &&& ~~~xe):Int)) (zal xa xe),.E (.int .u64 (Q2 .xor .u64 ((Qj xd:Int)) ((Qj (xa &&& ~~~xe):Int)))) (.int .u64 (Qj (xd ^^^ (xa &&& ~~~xe)):Int)) (zG xd (xa &&& ~~~xe)),.v,.v,.v,.E (.int .u64 (Q2 .andNot .u64 ((Qj xb:Int)) ((Qj xa:Int)))) (.int .u64 (Qj (xb &&& ~~~xa):Int)) (zal xb xa),.E (.int .u64 (Q2 .xor .u64 ((Qj xe:Int)) ((Qj (xb &&& ~~~xa):Int)))) (.int .u64 (Qj (xe ^^^ (xb &&& ~~~xa)):Int)) (zG xe (xb &&& ~~~xa)),.v,.v,.v,.v,.v] H1 kr fun gs2 w2 H2=>?_;clear H1;refine zk kr<|wV ?_;refine⟨[.int .u64 (Qj (xa ^^^ (xc &&& ~~~xb)):Int),.int .u64 (Qj (xb ^^^ (xd &&& ~~~xc)):Int),.int .u64 (Qj (xc ^^^ (xe &&& ~~~xd)):Int),.int .u64 (Qj (xd ^^^ (xa &&& ~~~xe)):Int),.int .u64 (Qj (xe ^^^ (xb &&& ~~~xa)):Int)],(.tmp (.int .u64 (Qj (xa ^^^ (xc &&& ~~~xb)):Int)) kr (.tmp (.int .u64 (Qj (xb ^^^ (xd &&& ~~~xc)):Int)) kr (.tmp (.int .u64 (Qj (xc ^^^ (xe &&& ~~~xd)):Int)) kr (.tmp (.int .u64 (Qj (xd ^^^ (xa &&& ~~~xe)):Int)) kr (.tmp (.int .u64 (Qj (xe ^^^ (xb &&& ~~~xa)):Int)) kr .nil))))),?_,H2.below⟩;rfl
def svn (s:List (BitVec 64)):Value:=.agg #[.int .u64 (Qj (nth s 0):Int),.int .u64 (Qj (nth s 1):Int),.int .u64 (Qj (nth s 2):Int),.int .u64 (Qj (nth s 3):Int),.int .u64 (Qj (nth s 4):Int),.int .u64 (Qj (nth s 5):Int),.int .u64 (Qj (nth s 6):Int),.int .u64 (Qj (nth s 7):Int),.int .u64 (Qj (nth s 8):Int),.int .u64 (Qj (nth s 9):Int),.int .u64 (Qj (nth s 10):Int),.int .u64 (Qj (nth s 11):Int),.int .u64 (Qj (nth s 12):Int),.int .u64 (Qj (nth s 13):Int),.int .u64 (Qj (nth s 14):Int),.int .u64 (Qj (nth s 15):Int),.int .u64 (Qj (nth s 16):Int),.int .u64 (Qj (nth s 17):Int),.int .u64 (Qj (nth s 18):Int),.int .u64 (Qj (nth s 19):Int),.int .u64 (Qj (nth s 20):Int),.int .u64 (Qj (nth s 21):Int),.int .u64 (Qj (nth s 22):Int),.int .u64 (Qj (nth s 23):Int),.int .u64 (Qj (nth s 24):Int)]
theorem rl0 (x:BitVec 64):rl x 0=x:=by
 apply BitVec.eq_of_getLsbD_eq;intro i hi;rw[znR _ _ _ hi];congr 1;omega
theorem pI0 (s:List (BitVec 64)):pI s 0=th s 0:=rl0 _
theorem znZ (s:List (BitVec 64)):Fn Tryz.prog 108 #[.int .u64 (Qj (th s 0):Int),.int .u64 (Qj (pI s 1):Int),.int .u64 (Qj (pI s 2):Int),.int .u64 (Qj (pI s 3):Int),.int .u64 (Qj (pI s 4):Int)] (.tuple #[.int .u64 (Qj (xI (pI s) 0):Int),.int .u64 (Qj (xI (pI s) 1):Int),.int .u64 (Qj (xI (pI s) 2):Int),.int .u64 (Qj (xI (pI s) 3):Int),.int .u64 (Qj (xI (pI s) 4):Int)]):=by
 rw[<-pI0 s];exact zaN (pI s 0) (pI s 1) (pI s 2) (pI s 3) (pI s 4)
theorem zn0 (s:List (BitVec 64)):Fn Tryz.prog 74 #[svn s] (svn (rnd s)):=by
 refine zv [.cell 2 76] 288 Tryz.func74 fun w=>?_;have H0:=St.start w;refine rS [.b,.a] H0 kr fun gs1 w1 H1=>?_;clear H0;refine rS [.v,.l 0,.v,.l 0,.E (.int .u64 (Q2 .xor .u64 ((Qj (nth s 0):Int)) ((Qj (nth s 5):Int)))) (.int .u64 (Qj ((nth s 0) ^^^ (nth s 5)):Int)) (zG (nth s 0) (nth s 5)),.v,.l 0,.E (.int .u64 (Q2 .xor .u64 ((Qj ((nth s 0) ^^^ (nth s 5)):Int)) ((Qj (nth s 10):Int)))) (.int .u64 (Qj (((nth s 0) ^^^ (nth s 5)) ^^^ (nth s 10)):Int)) (zG ((nth s 0) ^^^ (nth s 5)) (nth s 10)),.v,.l 0,.E (.int .u64 (Q2 .xor .u64 ((Qj (((nth s 0) ^^^ (nth s 5)) ^^^ (nth s 10)):Int)) ((Qj (nth s 15):Int)))) (.int .u64 (Qj ((((nth s 0) ^^^ (nth s 5)) ^^^ (nth s 10)) ^^^ (nth s 15)):Int)) (zG (((nth s 0) ^^^ (nth s 5)) ^^^ (nth s 10)) (nth s 15)),.v,.l 0,.E (.int .u64 (Q2 .xor .u64 ((Qj ((((nth s 0) ^^^ (nth s 5)) ^^^ (nth s 10)) ^^^ (nth s 15)):Int)) ((Qj (nth s 20):Int)))) (.int .u64 (Qj (cC s 0):Int)) (zG ((((nth s 0) ^^^ (nth s 5)) ^^^ (nth s 10)) ^^^ (nth s 15)) (nth s 20)),.v] H1 kr fun gs2 w2 H2=>?_;clear H1;refine zt [0,1,2,3] fun ρ1=>?_;have HK1:=H2.keep;clear H2;refine rS [.v,.l 0,.v,.l 0,.E (.int .u64 (Q2 .xor .u64 ((Qj (nth s 1):Int)) ((Qj (nth s 6):Int)))) (.int .u64 (Qj ((nth s 1) ^^^ (nth s 6)):Int)) (zG (nth s 1) (nth s 6)),.v,.l 0,.E (.int .u64 (Q2 .xor .u64 ((Qj ((nth s 1) ^^^ (nth s 6)):Int)) ((Qj (nth s 11):Int)))) (.int .u64 (Qj (((nth s 1) ^^^ (nth s 6)) ^^^ (nth s 11)):Int)) (zG ((nth s 1) ^^^ (nth s 6)) (nth s 11)),.v,.l 0,.E (.int .u64 (Q2 .xor .u64 ((Qj (((nth s 1) ^^^ (nth s 6)) ^^^ (nth s 11)):Int)) ((Qj (nth s 16):Int)))) (.int .u64 (Qj ((((nth s 1) ^^^ (nth s 6)) ^^^ (nth s 11)) ^^^ (nth s 16)):Int)) (zG (((nth s 1) ^^^ (nth s 6)) ^^^ (nth s 11)) (nth s 16)),.v,.l 0,.E (.int .u64 (Q2 .xor .u64 ((Qj ((((nth s 1) ^^^ (nth s 6)) ^^^ (nth s 11)) ^^^ (nth s 16)):Int)) ((Qj (nth s 21):Int)))) (.int .u64 (Qj (cC s 1):Int)) (zG ((((nth s 1) ^^^ (nth s 6)) ^^^ (nth s 11)) ^^^ (nth s 16)) (nth s 21)),.v] HK1 kr fun gs3 w3 H3=>?_;clear HK1;refine rS [.v,.l 0,.v,.l 0,.E (.int .u64 (Q2 .xor .u64 ((Qj (nth s 2):Int)) ((Qj (nth s 7):Int)))) (.int .u64 (Qj ((nth s 2) ^^^ (nth s 7)):Int)) (zG (nth s 2) (nth s 7)),.v,.l 0,.E (.int .u64 (Q2 .xor .u64 ((Qj ((nth s 2) ^^^ (nth s 7)):Int)) ((Qj (nth s 12):Int)))) (.int .u64 (Qj (((nth s 2) ^^^ (nth s 7)) ^^^ (nth s 12)):Int)) (zG ((nth s 2) ^^^ (nth s 7)) (nth s 12)),.v,.l 0,.E (.int .u64 (Q2 .xor .u64 ((Qj (((nth s 2) ^^^ (nth s 7)) ^^^ (nth s 12)):Int)) ((Qj (nth s 17):Int)))) (.int .u64 (Qj ((((nth s 2) ^^^ (nth s 7)) ^^^ (nth s 12)) ^^^ (nth s 17)):Int)) (zG (((nth s 2) ^^^ (nth s 7)) ^^^ (nth s 12)) (nth s 17)),.v,.l 0,.E (.int .u64 (Q2 .xor .u64 ((Qj ((((nth s 2) ^^^ (nth s 7)) ^^^ (nth s 12)) ^^^ (nth s 17)):Int)) ((Qj (nth s 22):Int)))) (.int .u64 (Qj (cC s 2):Int)) (zG ((((nth s 2) ^^^ (nth s 7)) ^^^ (nth s 12)) ^^^ (nth s 17)) (nth s 22)),.v] H3 kr fun gs4 w4 H4=>?_;clear H3;refine zt [0,1,2,3,4,5] fun ρ2=>?_;have HK2:=H4.keep;clear H4;refine rS [.v,.l 0,.v,.l 0,.E (.int .u64 (Q2 .xor .u64 ((Qj (nth s 3):Int)) ((Qj (nth s 8):Int)))) (.int .u64 (Qj ((nth s 3) ^^^ (nth s 8)):Int)) (zG (nth s 3) (nth s 8)),.v,.l 0,.E (.int .u64 (Q2 .xor .u64 ((Qj ((nth s 3) ^^^ (nth s 8)):Int)) ((Qj (nth s 13):Int)))) (.int .u64 (Qj (((nth s 3) ^^^ (nth s 8)) ^^^ (nth s 13)):Int)) (zG ((nth s 3) ^^^ (nth s 8)) (nth s 13)),.v,.l 0,.E (.int .u64 (Q2 .xor .u64 ((Qj (((nth s 3) ^^^ (nth s 8)) ^^^ (nth s 13)):Int)) ((Qj (nth s 18):Int)))) (.int .u64 (Qj ((((nth s 3) ^^^ (nth s 8)) ^^^ (nth s 13)) ^^^ (nth s 18)):Int)) (zG (((nth s 3) ^^^ (nth s 8)) ^^^ (nth s 13)) (nth s 18)),.v,.l 0,.E (.int .u64 (Q2 .xor .u64 ((Qj ((((nth s 3) ^^^ (nth s 8)) ^^^ (nth s 13)) ^^^ (nth s 18)):Int)) ((Qj (nth s 23):Int)))) (.int .u64 (Qj (cC s 3):Int)) (zG ((((nth s 3) ^^^ (nth s 8)) ^^^ (nth s 13)) ^^^ (nth s 18)) (nth s 23)),.v] HK2 kr fun gs5 w5 H5=>?_;clear HK2;refine rS [.v,.l 0,.v,.l 0,.E (.int .u64 (Q2 .xor .u64 ((Qj (nth s 4):Int)) ((Qj (nth s 9):Int)))) (.int .u64 (Qj ((nth s 4) ^^^ (nth s 9)):Int)) (zG (nth s 4) (nth s 9)),.v,.l 0,.E (.int .u64 (Q2 .xor .u64 ((Qj ((nth s 4) ^^^ (nth s 9)):Int)) ((Qj (nth s 14):Int)))) (.int .u64 (Qj (((nth s 4) ^^^ (nth s 9)) ^^^ (nth s 14)):Int)) (zG ((nth s 4) ^^^ (nth s 9)) (nth s 14)),.v,.l 0,.E (.int .u64 (Q2 .xor .u64 ((Qj (((nth s 4) ^^^ (nth s 9)) ^^^ (nth s 14)):Int)) ((Qj (nth s 19):Int)))) (.int .u64 (Qj ((((nth s 4) ^^^ (nth s 9)) ^^^ (nth s 14)) ^^^ (nth s 19)):Int)) (zG (((nth s 4) ^^^ (nth s 9)) ^^^ (nth s 14)) (nth s 19)),.v,.l 0,.E (.int .u64 (Q2 .xor .u64 ((Qj ((((nth s 4) ^^^ (nth s 9)) ^^^ (nth s 14)) ^^^ (nth s 19)):Int)) ((Qj (nth s 24):Int)))) (.int .u64 (Qj (cC s 4):Int)) (zG ((((nth s 4) ^^^ (nth s 9)) ^^^ (nth s 14)) ^^^ (nth s 19)) (nth s 24)),.v] H5 kr fun gs6 w6 H6=>?_;clear H5;refine zt [0,1,2,3,4,5,6,7] fun ρ3=>?_;have HK3:=H6.keep;clear H6;refine rS [.v,.v,.c (yG (cC s 1) 1 (by omega)),.E (.int .u64 (Q2 .xor .u64 ((Qj (cC s 4):Int)) ((Qj (rl (cC s 1) 1):Int)))) (.int .u64 (Qj (dD (cC s) 0):Int)) (zG (cC s 4) (rl (cC s 1) 1)),.v] HK3 kr fun gs7 w7 H7=>?_;clear HK3;refine rS [.v,.v,.c (yG (cC s 2) 1 (by omega)),.E (.int .u64 (Q2 .xor .u64 ((Qj (cC s 0):Int)) ((Qj (rl (cC s 2) 1):Int)))) (.int .u64 (Qj (dD (cC s) 1):Int)) (zG (cC s 0) (rl (cC s 2) 1)),.v] H7 kr fun gs8 w8 H8=>?_;clear H7;refine rS [.v,.v,.c (yG (cC s 3) 1 (by omega)),.E (.int .u64 (Q2 .xor .u64 ((Qj (cC s 1):Int)) ((Qj (rl (cC s 3) 1):Int)))) (.int .u64 (Qj (dD (cC s) 2):Int)) (zG (cC s 1) (rl (cC s 3) 1)),.v] H8 kr fun gs9 w9 H9=>?_;clear H8;refine rS [.v,.v,.c (yG (cC s 4) 1 (by omega)),.E (.int .u64 (Q2 .xor .u64 ((Qj (cC s 2):Int)) ((Qj (rl (cC s 4) 1):Int)))) (.int .u64 (Qj (dD (cC s) 3):Int)) (zG (cC s 2) (rl (cC s 4) 1)),.v] H9 kr fun gs10 w10 H10=>?_;clear H9;refine zt [0,1,2,3,4,5,6,7,8,9,10,11] fun ρ4=>?_;have HK4:=H10.keep;clear H10;refine rS [.v,.v,.c (yG (cC s 0) 1 (by omega)),.E (.int .u64 (Q2 .xor .u64 ((Qj (cC s 3):Int)) ((Qj (rl (cC s 0) 1):Int)))) (.int .u64 (Qj (dD (cC s) 4):Int)) (zG (cC s 3) (rl (cC s 0) 1)),.v] HK4 kr fun gs11 w11 H11=>?_;clear HK4;refine dS [.v,.l 0,.v,.E (.int .u64 (Q2 .xor .u64 ((Qj (nth s 0):Int)) ((Qj (dD (cC s) 0):Int)))) (.int .u64 (Qj (th s 0):Int)) (zG (nth s 0) (dD (cC s) 0)),.v,.l 0,.v,.E (.int .u64 (Q2 .xor .u64 ((Qj (nth s 6):Int)) ((Qj (dD (cC s) 1):Int)))) (.int .u64 (Qj (th s 6):Int)) (zG (nth s 6) (dD (cC s) 1)),.c (yG (th s 6) 44 (by omega)),.v,.l 0,.v,.E (.int .u64 (Q2 .xor .u64 ((Qj (nth s 12):Int)) ((Qj (dD (cC s) 2):Int)))) (.int .u64 (Qj (th s 12):Int)) (zG (nth s 12) (dD (cC s) 2)),.c (yG (th s 12) 43 (by omega)),.v,.l 0,.v,.E (.int .u64 (Q2 .xor .u64 ((Qj (nth s 18):Int)) ((Qj (dD (cC s) 3):Int)))) (.int .u64 (Qj (th s 18):Int)) (zG (nth s 18) (dD (cC s) 3)),.c (yG (th s 18) 21 (by omega)),.v,.l 0,.v,.E (.int .u64 (Q2 .xor .u64 ((Qj (nth s 24):Int)) ((Qj (dD (cC s) 4):Int)))) (.int .u64 (Qj (th s 24):Int)) (zG (nth s 24) (dD (cC s) 4)),.c (yG (th s 24) 14 (by omega)),.c (znZ s),.v,.v,.v,.v,.v,.v,.v,.s 1,.v,.s 1,.v,.s 1,.v,.s 1,.v,.s 1] H11 kr fun w12 H12=>?_;clear H11;refine zt [0,1,2,3,4,5,6,7,8,9,10,11,12] fun ρ5=>?_;have HK5:=H12.keep;clear H12;refine dS [.v,.l 0,.v,.E (.int .u64 (Q2 .xor .u64 ((Qj (nth s 3):Int)) ((Qj (dD (cC s) 3):Int)))) (.int .u64 (Qj (th s 3):Int)) (zG (nth s 3) (dD (cC s) 3)),.c (yG (th s 3) 28 (by omega)),.v,.l 0,.v,.E (.int .u64 (Q2 .xor .u64 ((Qj (nth s 9):Int)) ((Qj (dD (cC s) 4):Int)))) (.int .u64 (Qj (th s 9):Int)) (zG (nth s 9) (dD (cC s) 4)),.c (yG (th s 9) 20 (by omega)),.v,.l 0,.v,.E (.int .u64 (Q2 .xor .u64 ((Qj (nth s 10):Int)) ((Qj (dD (cC s) 0):Int)))) (.int .u64 (Qj (th s 10):Int)) (zG (nth s 10) (dD (cC s) 0)),.c (yG (th s 10) 3 (by omega)),.v,.l 0,.v,.E (.int .u64 (Q2 .xor .u64 ((Qj (nth s 16):Int)) ((Qj (dD (cC s) 1):Int)))) (.int .u64 (Qj (th s 16):Int)) (zG (nth s 16) (dD (cC s) 1)),.c (yG (th s 16) 45 (by omega)),.v,.l 0,.v,.E (.int .u64 (Q2 .xor .u64 ((Qj (nth s 22):Int)) ((Qj (dD (cC s) 2):Int)))) (.int .u64 (Qj (th s 22):Int)) (zG (nth s 22) (dD (cC s) 2)),.c (yG (th s 22) 61 (by omega)),.c (zaN (pI s 5) (pI s 6) (pI s 7) (pI s 8) (pI s 9)),.v,.v,.v,.v,.v,.v,.v,.s 1,.v,.s 1,.v,.s 1,.v,.s 1,.v,.s 1] HK5 kr fun w13 H13=>?_;clear HK5;refine zt [0,1,2,3,4,5,6,7,8,9,10,11,12] fun ρ6=>?_;have HK6:=H13.keep;clear H13;refine dS [.v,.l 0,.v,.E (.int .u64 (Q2 .xor .u64 ((Qj (nth s 1):Int)) ((Qj (dD (cC s) 1):Int)))) (.int .u64 (Qj (th s 1):Int)) (zG (nth s 1) (dD (cC s) 1)),.c (yG (th s 1) 1 (by omega)),.v,.l 0,.v,.E (.int .u64 (Q2 .xor .u64 ((Qj (nth s 7):Int)) ((Qj (dD (cC s) 2):Int)))) (.int .u64 (Qj (th s 7):Int)) (zG (nth s 7) (dD (cC s) 2)),.c (yG (th s 7) 6 (by omega)),.v,.l 0,.v,.E (.int .u64 (Q2 .xor .u64 ((Qj (nth s 13):Int)) ((Qj (dD (cC s) 3):Int)))) (.int .u64 (Qj (th s 13):Int)) (zG (nth s 13) (dD (cC s) 3)),.c (yG (th s 13) 25 (by omega)),.v,.l 0,.v,.E (.int .u64 (Q2 .xor .u64 ((Qj (nth s 19):Int)) ((Qj (dD (cC s) 4):Int)))) (.int .u64 (Qj (th s 19):Int)) (zG (nth s 19) (dD (cC s) 4)),.c (yG (th s 19) 8 (by omega)),.v,.l 0,.v,.E (.int .u64 (Q2 .xor .u64 ((Qj (nth s 20):Int)) ((Qj (dD (cC s) 0):Int)))) (.int .u64 (Qj (th s 20):Int)) (zG (nth s 20) (dD (cC s) 0)),.c (yG (th s 20) 18 (by omega)),.c (zaN (pI s 10) (pI s 11) (pI s 12) (pI s 13) (pI s 14)),.v,.v,.v,.v,.v,.v,.v,.s 1,.v,.s 1,.v,.s 1,.v,.s 1,.v,.s 1] HK6 kr fun w14 H14=>?_;clear HK6;refine zt [0,1,2,3,4,5,6,7,8,9,10,11,12] fun ρ7=>?_;have HK7:=H14.keep;clear H14;refine dS [.v,.l 0,.v,.E (.int .u64 (Q2 .xor .u64 ((Qj (nth s 4):Int)) ((Qj (dD (cC s) 4):Int)))) (.int .u64 (Qj (th s 4):Int)) (zG (nth s 4) (dD (cC s) 4)),.c (yG (th s 4) 27 (by omega)),.v,.l 0,.v,.E (.int .u64 (Q2 .xor .u64 ((Qj (nth s 5):Int)) ((Qj (dD (cC s) 0):Int)))) (.int .u64 (Qj (th s 5):Int)) (zG (nth s 5) (dD (cC s) 0)),.c (yG (th s 5) 36 (by omega)),.v,.l 0,.v,.E (.int .u64 (Q2 .xor .u64 ((Qj (nth s 11):Int)) ((Qj (dD (cC s) 1):Int)))) (.int .u64 (Qj (th s 11):Int)) (zG (nth s 11) (dD (cC s) 1)),.c (yG (th s 11) 10 (by omega)),.v,.l 0,.v,.E (.int .u64 (Q2 .xor .u64 ((Qj (nth s 17):Int)) ((Qj (dD (cC s) 2):Int)))) (.int .u64 (Qj (th s 17):Int)) (zG (nth s 17) (dD (cC s) 2)),.c (yG (th s 17) 15 (by omega)),.v,.l 0,.v,.E (.int .u64 (Q2 .xor .u64 ((Qj (nth s 23):Int)) ((Qj (dD (cC s) 3):Int)))) (.int .u64 (Qj (th s 23):Int)) (zG (nth s 23) (dD (cC s) 3)),.c (yG (th s 23) 56 (by omega)),.c (zaN (pI s 15) (pI s 16) (pI s 17) (pI s 18) (pI s 19)),.v,.v,.v,.v,.v,.v,.v,.s 1,.v,.s 1,.v,.s 1,.v,.s 1,.v,.s 1] HK7 kr fun w15 H15=>?_;clear HK7;refine zt [0,1,2,3,4,5,6,7,8,9,10,11,12] fun ρ8=>?_;have HK8:=H15.keep;clear H15;refine dS [.v,.l 0,.v,.E (.int .u64 (Q2 .xor .u64 ((Qj (nth s 2):Int)) ((Qj (dD (cC s) 2):Int)))) (.int .u64 (Qj (th s 2):Int)) (zG (nth s 2) (dD (cC s) 2)),.c (yG (th s 2) 62 (by omega)),.v,.l 0,.v,.E (.int .u64 (Q2 .xor .u64 ((Qj (nth s 8):Int)) ((Qj (dD (cC s) 3):Int)))) (.int .u64 (Qj (th s 8):Int)) (zG (nth s 8) (dD (cC s) 3)),.c (yG (th s 8) 55 (by omega)),.v,.l 0,.v,.E (.int .u64 (Q2 .xor .u64 ((Qj (nth s 14):Int)) ((Qj (dD (cC s) 4):Int)))) (.int .u64 (Qj (th s 14):Int)) (zG (nth s 14) (dD (cC s) 4)),.c (yG (th s 14) 39 (by omega)),.v,.l 0,.v,.E (.int .u64 (Q2 .xor .u64 ((Qj (nth s 15):Int)) ((Qj (dD (cC s) 0):Int)))) (.int .u64 (Qj (th s 15):Int)) (zG (nth s 15) (dD (cC s) 0)),.c (yG (th s 15) 41 (by omega)),.v,.l 0,.v,.E (.int .u64 (Q2 .xor .u64 ((Qj (nth s 21):Int)) ((Qj (dD (cC s) 1):Int)))) (.int .u64 (Qj (th s 21):Int)) (zG (nth s 21) (dD (cC s) 1)),.c (yG (th s 21) 2 (by omega)),.c (zaN (pI s 20) (pI s 21) (pI s 22) (pI s 23) (pI s 24)),.v,.v,.v,.v,.v,.v,.v,.s 1,.v,.s 1,.v,.s 1,.v,.s 1,.v,.s 1] HK8 kr fun w16 H16=>?_;clear HK8;refine zt [0,1,2,3,4,5,6,7,8,9,10,11,12] fun ρ9=>?_;have HK9:=H16.keep;clear H16;refine rS [.l 1,.s 1] HK9 kr fun gs17 w17 H17=>?_;clear HK9;refine zk kr<|wV ?_;refine⟨[.agg #[.int .u64 (Qj (xI (pI s) 0):Int),.int .u64 (Qj (xI (pI s) 1):Int),.int .u64 (Qj (xI (pI s) 2):Int),.int .u64 (Qj (xI (pI s) 3):Int),.int .u64 (Qj (xI (pI s) 4):Int),.int .u64 (Qj (xI (pI s) 5):Int),.int .u64 (Qj (xI (pI s) 6):Int),.int .u64 (Qj (xI (pI s) 7):Int),.int .u64 (Qj (xI (pI s) 8):Int),.int .u64 (Qj (xI (pI s) 9):Int),.int .u64 (Qj (xI (pI s) 10):Int),.int .u64 (Qj (xI (pI s) 11):Int),.int .u64 (Qj (xI (pI s) 12):Int),.int .u64 (Qj (xI (pI s) 13):Int),.int .u64 (Qj (xI (pI s) 14):Int),.int .u64 (Qj (xI (pI s) 15):Int),.int .u64 (Qj (xI (pI s) 16):Int),.int .u64 (Qj (xI (pI s) 17):Int),.int .u64 (Qj (xI (pI s) 18):Int),.int .u64 (Qj (xI (pI s) 19):Int),.int .u64 (Qj (xI (pI s) 20):Int),.int .u64 (Qj (xI (pI s) 21):Int),.int .u64 (Qj (xI (pI s) 22):Int),.int .u64 (Qj (xI (pI s) 23):Int),.int .u64 (Qj (xI (pI s) 24):Int)]],(.agg (b:=(gs1 1).b) #[.int .u64 (Qj (xI (pI s) 0):Int),.int .u64 (Qj (xI (pI s) 1):Int),.int .u64 (Qj (xI (pI s) 2):Int),.int .u64 (Qj (xI (pI s) 3):Int),.int .u64 (Qj (xI (pI s) 4):Int),.int .u64 (Qj (xI (pI s) 5):Int),.int .u64 (Qj (xI (pI s) 6):Int),.int .u64 (Qj (xI (pI s) 7):Int),.int .u64 (Qj (xI (pI s) 8):Int),.int .u64 (Qj (xI (pI s) 9):Int),.int .u64 (Qj (xI (pI s) 10):Int),.int .u64 (Qj (xI (pI s) 11):Int),.int .u64 (Qj (xI (pI s) 12):Int),.int .u64 (Qj (xI (pI s) 13):Int),.int .u64 (Qj (xI (pI s) 14):Int),.int .u64 (Qj (xI (pI s) 15):Int),.int .u64 (Qj (xI (pI s) 16):Int),.int .u64 (Qj (xI (pI s) 17):Int),.int .u64 (Qj (xI (pI s) 18):Int),.int .u64 (Qj (xI (pI s) 19):Int),.int .u64 (Qj (xI (pI s) 20):Int),.int .u64 (Qj (xI (pI s) 21):Int),.int .u64 (Qj (xI (pI s) 22):Int),.int .u64 (Qj (xI (pI s) 23):Int),.int .u64 (Qj (xI (pI s) 24):Int)] 76 (0,0) kr (H17.get 1 kr) kr .nil),?_,H17.below⟩;rfl
def marksC:Qd:=(Kec.marks.map fun m=>Q0 .u64 (Qj m:Int)).toArray
def Marks (w:World):Prop:=∃T fz,w.heap[0]? =some (.cells marksC T fz)
theorem zn1 (k q:Nat)(hq:q=k)(h:k<24):marksC[q]? =some (Q0 .u64 (Qj (Kec.marks.getD k 0):Int)):=by
 subst hq;have hl:Kec.marks.length=24:=rfl;unfold marksC;simp[hl,h]
def yI (s:List (BitVec 64))(j:Nat):List (BitVec 64):=(Kec.marks.take j).foldl rm s
theorem zhY (s:List (BitVec 64))(j:Nat)(h:j<24):yI s (j+1)=rm (yI s j) (Kec.marks.getD j 0):=by
 have hl:Kec.marks.length=24:=rfl;unfold yI;rw[VC,V6,Qr (by omega)];simp[hl,h]
theorem zhZ (s:List (BitVec 64)):yI s 24=mix s:=by
 unfold yI mix;rw[Qy (by decide)]
theorem yY (s:List (BitVec 64))(m:BitVec 64)(k:Nat):nth (rm s m) (k+1)=nth (rnd s) (k+1):=by
 unfold rm zcg nth;simp
theorem zh0 (s:List (BitVec 64))(m:BitVec 64):((Qn (svn (rnd s))).toList.take 0++(Qn (.int .u64 (Qj (nth (rnd s) 0 ^^^ m):Int))).toList++(Qn (svn (rnd s))).toList.drop (0+1)).toArray=Qn (svn (rm s m)):=by
 have e1:nth (rm s m) 1=nth (rnd s) 1:=yY s m 0;have e2:nth (rm s m) 2=nth (rnd s) 2:=yY s m 1;have e3:nth (rm s m) 3=nth (rnd s) 3:=yY s m 2;have e4:nth (rm s m) 4=nth (rnd s) 4:=yY s m 3;have e5:nth (rm s m) 5=nth (rnd s) 5:=yY s m 4;have e6:nth (rm s m) 6=nth (rnd s) 6:=yY s m 5;have e7:nth (rm s m) 7=nth (rnd s) 7:=yY s m 6;have e8:nth (rm s m) 8=nth (rnd s) 8:=yY s m 7;have e9:nth (rm s m) 9=nth (rnd s) 9:=yY s m 8;have e10:nth (rm s m) 10=nth (rnd s) 10:=yY s m 9;have e11:nth (rm s m) 11=nth (rnd s) 11:=yY s m 10;have e12:nth (rm s m) 12=nth (rnd s) 12:=yY s m 11;have e13:nth (rm s m) 13=nth (rnd s) 13:=yY s m 12;have e14:nth (rm s m) 14=nth (rnd s) 14:=yY s m 13;have e15:nth (rm s m) 15=nth (rnd s) 15:=yY s m 14;have e16:nth (rm s m) 16=nth (rnd s) 16:=yY s m 15;have e17:nth (rm s m) 17=nth (rnd s) 17:=yY s m 16;have e18:nth (rm s m) 18=nth (rnd s) 18:=yY s m 17;have e19:nth (rm s m) 19=nth (rnd s) 19:=yY s m 18;have e20:nth (rm s m) 20=nth (rnd s) 20:=yY s m 19;have e21:nth (rm s m) 21=nth (rnd s) 21:=yY s m 20;have e22:nth (rm s m) 22=nth (rnd s) 22:=yY s m 21;have e23:nth (rm s m) 23=nth (rnd s) 23:=yY s m 22;have e24:nth (rm s m) 24=nth (rnd s) 24:=yY s m 23;have e0:nth (rm s m) 0=nth (rnd s) 0 ^^^ m:=rfl;unfold svn;rw[e0,e1,e2,e3,e4,e5,e6,e7,e8,e9,e10,e11,e12,e13,e14,e15,e16,e17,e18,e19,e20,e21,e22,e23,e24];rfl
theorem zn2 (s:List (BitVec 64))(T:TypeId)(fz:Nat×Nat):FnP Tryz.prog 44 #[svn s] (fun w=>w.heap[0]? =some (.cells marksC T fz)) (svn (mix s)):=by
 refine zR [.cell 2 76] 18 Tryz.func44 fun w hpre=>?_;have H0:=St.start w;refine rS [.b,.a] H0 kr fun gs1 w1 H1=>?_;clear H0;refine za kr<|rS [.f hpre (zo hpre),.v] H1 kr fun gs2 w2 H2=>?_;clear H1;refine zm 0 kr ?_;have HL1:St w.heap.size w w2 [((gs1 0).b,Qk (Qn (svn s)) 76),((gs1 1).b,Qk #[wZ,wZ,wZ,wZ,wZ,wZ,wZ,wZ,wZ,wZ,wZ,wZ,wZ,wZ,wZ,wZ,wZ,wZ,wZ,wZ,wZ,wZ,wZ,wZ,wZ] 76 (0,0))]:=H2.as kr;clear H2;have HM2:St w.heap.size w w2 [((gs1 0).b,Qk (Qn (svn (yI s 0))) 76),((gs1 1).b,Qk #[wZ,wZ,wZ,wZ,wZ,wZ,wZ,wZ,wZ,wZ,wZ,wZ,wZ,wZ,wZ,wZ,wZ,wZ,wZ,wZ,wZ,wZ,wZ,wZ,wZ] 76 (0,0))]:=HL1;refine zO kr (fun mz ρ ww=> ∃(j:Nat),24-j=mz/\(j<=24)/\St w.heap.size w ww [((gs1 0).b,Qk (Qn (svn (yI s j))) 76),((gs1 1).b,Qk #[wZ,wZ,wZ,wZ,wZ,wZ,wZ,wZ,wZ,wZ,wZ,wZ,wZ,wZ,wZ,wZ,wZ,wZ,wZ,wZ,wZ,wZ,wZ,wZ,wZ] 76 (0,0))]/\Is [(0,svn s),(1,Qe (gs1 0).b),(2,Qe (gs1 1).b),(5,.agg marksC),(6,.int .i64 (j:Int))] ρ) (24-0) ⟨0,rfl,(by omega),HM2,zl⟩ ?_;clear HM2;rintro _ _ w3 ⟨j,rfl,hj,H3,_,rfl⟩;by_cases hc3:(j:Nat)<24
 ·refine rS [itT ((j:Int)<24)] H3 kr fun gs4 w4 H4=>?_;clear H3;refine za kr<|zh kr kr<|zj kr<|wW<|za kr<|zm 1 kr<|rS [.o (ins:=[((.tmp 5),.agg marksC),((.tmp 6),.int .i64 (j:Int))]) (v:=.int .u64 (Qj (Qm Kec.marks j 0):Int)) (fun ρ o w ho hi=>zkp (t:=113) (e:=22) (kd:=.i64) (n:=24) kr kr kr (x:=(.tmp 5)) (y:=(.tmp 6)) (Qn (.agg marksC)) j (.int .u64 (Qj (Qm Kec.marks j 0):Int)) ho hi.1 hi.2.1 (by omega) (zn1 j _ (by omega) (by omega)) w),.v] H4 kr fun gs5 w5 H5=>?_;clear H4;refine rS [.l 0,.c (zn0 (yI s j)),.s 0] H5 kr fun gs6 w6 H6=>?_;clear H5;refine rL [.v,.l 0,.v,.E (.int .u64 (Q2 .xor .u64 ((Qj (nth (rnd (yI s j)) 0):Int)) ((Qj (Qm Kec.marks j 0):Int)))) (.int .u64 (Qj ((nth (rnd (yI s j)) 0) ^^^ (Qm Kec.marks j 0)):Int)) (zG (nth (rnd (yI s j)) 0) (Qm Kec.marks j 0)),.v,.se (C:=(Qn (svn (rnd (yI s j))))) (C':=(Qn (svn (rm (yI s j) (Qm Kec.marks j 0))))) (off:=0) (v:=.int .u64 (Qj ((nth (rnd (yI s j)) 0) ^^^ (Qm Kec.marks j 0)):Int)) 0 (of_decide_eq_true kr) (zh0 (yI s j) (Qm Kec.marks j 0))] H6 kr fun gs7 w7 H7=>?_;clear H6;refine wW<|rL [itI j 1,.v] H7 kr fun gs8 w8 H8=>?_;clear H7;have HL4:St w.heap.size w w8 [((gs1 0).b,Qk (Qn (svn (rm (yI s j) (Qm Kec.marks j 0)))) 76 (0,0)),((gs1 1).b,Qk #[wZ,wZ,wZ,wZ,wZ,wZ,wZ,wZ,wZ,wZ,wZ,wZ,wZ,wZ,wZ,wZ,wZ,wZ,wZ,wZ,wZ,wZ,wZ,wZ,wZ] 76 (0,0))]:=H8.as kr;clear H8;have HM5:St w.heap.size w w8 [((gs1 0).b,Qk (Qn (svn (yI s (j+1)))) 76 (0,0)),((gs1 1).b,Qk #[wZ,wZ,wZ,wZ,wZ,wZ,wZ,wZ,wZ,wZ,wZ,wZ,wZ,wZ,wZ,wZ,wZ,wZ,wZ,wZ,wZ,wZ,wZ,wZ,wZ] 76 (0,0))]:=by rw[zhY s j (by omega)];exact HL4
  show ∃m,_/\_;exact⟨_,(by omega),(j+1),rfl,(by omega),HM5,zl⟩
 ·refine rS [itF ((j:Int)<24)] H3 kr fun gs9 w9 H9=>?_;clear H3;refine za kr<|zi kr kr<|zE 0 kr<|wW<|rS [.l 0,.s 1] H9 kr fun gs10 w10 H10=>?_;clear H9;refine zk kr<|wV ?_;refine⟨[svn (yI s j)],(.agg (b:=(gs1 1).b) (Qn (svn (yI s j))) 76 (0,0) kr (H10.get 1 kr) kr .nil),?_,H10.below⟩;obtain rfl:j=24:=by omega
  exact congrArg svn (zhZ s)
theorem mix_fn (s:List (BitVec 64)):FnP Tryz.prog 44 #[svn s] Marks (svn (mix s)):=fun w ⟨T,fz,h⟩=>zn2 s T fz w h
theorem tcd {α:Type}(L:List α)(q:Nat)(x:α)(h:q<L.length):L.take q++ [x]++L.drop (q+1)=L.set q x:=by
 rw[List.set_eq_take_append_cons_drop,if_pos h,QD];rfl
theorem zeb (s:List (BitVec 64)):Qn (svn s)=((QW 25).map fun k=>Q0 .u64 (Qj (nth s k):Int)).toArray:=rfl
theorem uG (s:List (BitVec 64))(k q:Nat)(hq:q=k)(hk:k<25):(Qn (svn s))[q]? =some (Q0 .u64 (Qj (nth s k):Int)):=by
 subst hq;rw[zeb];simp[hk]
theorem zci (s:List (BitVec 64))(k j:Nat)(x:BitVec 64)(hk:k<s.length):nth (s.set k x) j=if j=k then x else nth s j:=by
 unfold nth;rw[QO,QO,Ul];by_cases h:k=j
 ·subst h;simp[hk]
 ·rw[if_neg h,if_neg (fun e=>h e.symm)]
theorem zcj (s:List (BitVec 64))(k q:Nat)(x:BitVec 64)(hs:s.length=25)(hq:q=k)(hk:k<25):
 ((Qn (svn s)).toList.take q++(Qn (.int .u64 (Qj x:Int))).toList++(Qn (svn s)).toList.drop (q+(Qn (.int .u64 (Qj x:Int))).size)).toArray=Qn (svn (s.set k x)):=by
 subst hq;rw[zeb,zeb];congr 1;show Re q _++ [Q0 .u64 (Qj x:Int)]++List.drop (q+1) _=_;rw[tcd _ q _ (by simpa using hk)];apply List.ext_getElem?;intro j;rw[List.toList_toArray];rw[Ul];by_cases h:q=j
 ·subst h;simp[hk,zci s q q x (by omega)]
 ·by_cases hj:j<25
  ·simp[h,hj,zci s q j x (by omega),show ¬j=q from fun e=>h e.symm]
  ·simp[h,hj]
theorem Marks.oldB {B:Nat}{w0 w:World}(HS:Below B w0 w)(hB:B=w0.heap.size)(h:Marks w0):Marks w:=by
 obtain⟨T,fz,h⟩:=h;exact⟨T,fz,by rw[HS.block 0 (by rw[hB];exact zo h)];exact h⟩
theorem zh1 {s s1:List (BitVec 64)}{n n1 k:Nat}{t:Qa}(h:takeB (s,n) ((tl t).take k)=(s1,n1))(hk:k<Ql t):
 takeB (s,n) ((tl t).take (k+1))=(if n1+1=136 then (mix (lay s1 n1 (Qw 64 (by_ t k))),0) else (lay s1 n1 (Qw 64 (by_ t k)),n1+1)):=by
 have hk':k<(tl t).length:=hk;rw[VC,Qr hk',Option.toList_some,zch,h];unfold qN vw by_;rw[QO,Qr hk',Option.getD_some]
theorem zec (b i:Nat)(hi:i<1000):Fn Tryz.prog 73 #[.int .u8 (b:Int),.int .i64 (i:Int)] (.int .u64 (Qj (qF (Qw 64 b) i):Int)):=by
 refine zv [.tmp 4] 11 Tryz.func73 fun w=>?_;have H0:=St.start w;refine rS [.v] H0 kr fun gs1 w1 H1=>?_;clear H0;refine rS [.v,.E (.int .u64 (QA.wrap (b:Int))) (.int .u64 (Qj (Qw 64 b):Int)) (zfG b),.v,.E (.int .i64 (UA (i:Int) 8)) (.int .i64 ((i%8:Nat):Int)) (zf (qw i 8)),.E (.int .i64 (Qz.wrap (((i%8:Nat):Int)*8))) (.int .i64 (((i%8)*8:Nat):Int)) (zf (ja (a:=i%8) (b:=8) (by omega))),.E (.int .u64 (QA.wrap (((Qj (Qw 64 b):Int))*2^(min ((i%8)*8) 64)))) (.int .u64 (Qj ((Qw 64 b) <<< ((i%8)*8)):Int)) (zbi (Qw 64 b) ((i%8)*8)),.v] H1 kr fun gs2 w2 H2=>?_;clear H1;refine zk kr<|wV ?_;refine⟨[.int .u64 (Qj ((Qw 64 b) <<< ((i%8)*8)):Int)],(.tmp (.int .u64 (Qj ((Qw 64 b) <<< ((i%8)*8)):Int)) kr .nil),?_,H2.below⟩;rfl
theorem zn3 (s:List (BitVec 64))(n:Nat)(t:Qa)(hs:s.length=25)(hn:n<136)(ht:Ql t<0x4000000000000000):FnP Tryz.prog 42 #[svn s,.int .i64 (n:Int),.string t] (Marks) (.tuple #[svn (takeB (s,n) (tl t)).1,.int .i64 (((takeB (s,n) (tl t)).2:Nat):Int)]):=by
 refine zR [.cell 6 76,.tmp 7] 34 Tryz.func42 fun w hpre=>?_;have H0:=St.start w;refine rS [.b,.a,.v] H0 kr fun gs1 w1 H1=>?_;clear H0;refine za kr<|rS [.v,.v,.v] H1 kr fun gs2 w2 H2=>?_;clear H1;refine zm 0 kr ?_;have HL1:St w.heap.size w w2 [((gs1 0).b,Qk (Qn (svn s)) 76),((gs1 1).b,Qk #[wZ,wZ,wZ,wZ,wZ,wZ,wZ,wZ,wZ,wZ,wZ,wZ,wZ,wZ,wZ,wZ,wZ,wZ,wZ,wZ,wZ,wZ,wZ,wZ,wZ] 76 (0,0))]:=H2.as kr;clear H2;refine zO kr (fun mz ρ ww=> ∃(s1:List (BitVec 64)) (n1:Nat) (k:Nat),Ql t-k=mz/\(s1.length=25)/\(n1<136)/\(k<=Ql t)/\(takeB (s,n) ((tl t).take k)=(s1,n1))/\St w.heap.size w ww [((gs1 0).b,Qk (Qn (svn s1)) 76),((gs1 1).b,Qk #[wZ,wZ,wZ,wZ,wZ,wZ,wZ,wZ,wZ,wZ,wZ,wZ,wZ,wZ,wZ,wZ,wZ,wZ,wZ,wZ,wZ,wZ,wZ,wZ,wZ] 76 (0,0))]/\Is [(0,svn s),(1,.int .i64 (n1:Int)),(2,.string t),(3,Qe (gs1 0).b),(6,Qe (gs1 1).b),(7,.int .i64 0),(10,.int .i64 (Ql t:Int)),(11,.int .i64 (k:Int))] ρ) (Ql t-0) ⟨s,n,0,rfl,hs,hn,(by omega),rfl,HL1,zl⟩ ?_;clear HL1;rintro _ _ w3 ⟨s1,n1,k,rfl,hs1,hn1,hk,htk,H3,_,rfl⟩;have hbl:=qp t k;by_cases hc2:(k:Nat)<Ql t
 ·refine rS [itT ((k:Int)<(Ql t:Int))] H3 kr fun gs4 w4 H4=>?_;clear H3;refine za kr<|zh kr kr<|zj kr<|wW<|za kr<|zm 1 kr<|rS [.v,.v] H4 kr fun gs5 w5 H5=>?_;clear H4;refine dS [.v,.E (.int .i64 (Qz.wrap ((n1:Int).tdiv 8))) (.int .i64 ((n1 / 8:Nat):Int)) (zf (xq (a:=n1) (b:=8) (by omega))),.o (ins:=[((.tmp 3),Qe (gs1 0).b),((.tmp 15),.int .i64 ((n1 / 8:Nat):Int))]) (v:=.pointer (some ⟨(gs1 0).b,0+(n1 / 8)*1,none⟩)) (fun ρ o w ho hi=>xj (kd:=.i64) (t:=76) (n:=25) (size:=1) kr (x:=(.tmp 3)) (y:=(.tmp 15)) (gs1 0).b 0 (n1 / 8) ho hi.1 hi.2.1 (by omega) w),.ls (C:=(Qn (svn s1))) (off:=0+(n1 / 8)*1) (v:=.int .u64 (Qj (nth s1 (n1 / 8)):Int)) 0 (uG s1 (n1 / 8) _ (by omega) (by omega)),.v,.v,itC 18 (.tmp 19) 9 t k,.v,.c (zec (by_ t k) n1 (by omega)),.E (.int .u64 (Q2 .xor .u64 ((Qj (nth s1 (n1 / 8)):Int)) ((Qj (qF (Qw 64 (by_ t k)) n1):Int)))) (.int .u64 (Qj ((nth s1 (n1 / 8)) ^^^ (qF (Qw 64 (by_ t k)) n1)):Int)) (zG (nth s1 (n1 / 8)) (qF (Qw 64 (by_ t k)) n1)),.o (ins:=[((.tmp 3),Qe (gs1 0).b),((.tmp 15),.int .i64 ((n1 / 8:Nat):Int))]) (v:=.pointer (some ⟨(gs1 0).b,0+(n1 / 8)*1,none⟩)) (fun ρ o w ho hi=>xj (kd:=.i64) (t:=76) (n:=25) (size:=1) kr (x:=(.tmp 3)) (y:=(.tmp 15)) (gs1 0).b 0 (n1 / 8) ho hi.1 hi.2.1 (by omega) w),.se (C:=(Qn (svn s1))) (C':=(Qn (svn (lay s1 n1 (Qw 64 (by_ t k)))))) (off:=0+(n1 / 8)*1) (v:=.int .u64 (Qj ((nth s1 (n1 / 8)) ^^^ (qF (Qw 64 (by_ t k)) n1)):Int)) 0 (by show _+1<=25;omega) (zcj s1 (n1 / 8) _ ((nth s1 (n1 / 8)) ^^^ (qF (Qw 64 (by_ t k)) n1)) hs1 (by omega) (by omega))] H5 kr fun w6 H6=>?_;clear H5;refine zt [0,1,2,3,6,7,8,10,11,12] fun ρ1=>?_;have HK3:=H6.keep;clear H6;refine rS [.v,itI n1 1,.v] HK3 kr fun gs7 w7 H7=>?_;clear HK3;refine zd [0,1] kr kr<|rp [.v] H7 kr fun gs8 w8 H8=>wX [1] ?_;clear H7;by_cases hc4:(n1+1:Nat)=136
  ·refine rp [itQ ((n1+1:Nat):Int) 136] H8 kr fun gs9 w9 H9=>wX [] ?_;clear H8;refine zb<|zh kr kr<|rL [.l 0,.cp (pre:=Marks) (mix_fn (lay s1 n1 (Qw 64 (by_ t k)))) [] (fun w hb hd=>(Marks.oldB hb rfl hpre)),.s 0,.v] H9 kr fun gs10 w10 H10=>?_;clear H9;refine wW<|rL [itI k 1,.v] H10 kr fun gs11 w11 H11=>?_;clear H10;have HL5:St w.heap.size w w11 [((gs1 0).b,Qk (Qn (svn (mix (lay s1 n1 (Qw 64 (by_ t k)))))) 76 (0,0)),((gs1 1).b,Qk #[wZ,wZ,wZ,wZ,wZ,wZ,wZ,wZ,wZ,wZ,wZ,wZ,wZ,wZ,wZ,wZ,wZ,wZ,wZ,wZ,wZ,wZ,wZ,wZ,wZ] 76 (0,0))]:=H11.as kr;clear H11;show ∃m,_/\_;exact⟨_,(by omega),(mix (lay s1 n1 (Qw 64 (by_ t k)))),0,(k+1),rfl,(zea (jY _ _ hs1)),(by omega),(by omega),((zh1 htk (by omega)).trans (if_pos (by omega))),HL5,zl⟩
  ·refine rp [itD ((n1+1:Nat):Int) 136] H8 kr fun gs12 w12 H12=>wX [] ?_;clear H8;refine zb<|zi kr kr<|zj kr<|wW<|rL [itI k 1,.v] H12 kr fun gs13 w13 H13=>?_;clear H12;have HL6:St w.heap.size w w13 [((gs1 0).b,Qk (Qn (svn (lay s1 n1 (Qw 64 (by_ t k))))) 76 (0,0)),((gs1 1).b,Qk #[wZ,wZ,wZ,wZ,wZ,wZ,wZ,wZ,wZ,wZ,wZ,wZ,wZ,wZ,wZ,wZ,wZ,wZ,wZ,wZ,wZ,wZ,wZ,wZ,wZ] 76 (0,0))]:=H13.as kr;clear H13;show ∃m,_/\_;exact⟨_,(by omega),(lay s1 n1 (Qw 64 (by_ t k))),(n1+1),(k+1),rfl,(jY _ _ hs1),(by omega),(by omega),((zh1 htk (by omega)).trans (if_neg (by omega))),HL6,zl⟩
 ·refine rS [itF ((k:Int)<(Ql t:Int))] H3 kr fun gs14 w14 H14=>?_;clear H3;refine za kr<|zi kr kr<|zE 0 kr<|wW<|rS [.l 0,.v,.s 1,.v] H14 kr fun gs15 w15 H15=>?_;clear H14;refine zk kr<|wV ?_;refine⟨[svn s1,.int .i64 (n1:Int)],(.agg (b:=(gs1 1).b) (Qn (svn s1)) 76 (0,0) kr (H15.get 1 kr) kr (.tmp (.int .i64 (n1:Int)) kr .nil)),?_,H15.below⟩;rw[Qy (show (tl t).length<=k by rw[zu];omega)]at htk;rw[htk];rfl
theorem zn4 (s:List (BitVec 64))(n:Nat)(hs:s.length=25)(hn:n<136):Fn Tryz.prog 45 #[svn s,.int .i64 (n:Int)] (svn (endB (s,n))):=by
 refine zv [.cell 4 76] 19 Tryz.func45 fun w=>?_;have H0:=St.start w;refine rS [.b,.a] H0 kr fun gs1 w1 H1=>?_;clear H0;refine dS [.v,.E (.int .i64 (Qz.wrap ((n:Int).tdiv 8))) (.int .i64 ((n / 8:Nat):Int)) (zf (xq (a:=n) (b:=8) (by omega))),.o (ins:=[((.tmp 2),Qe (gs1 0).b),((.tmp 6),.int .i64 ((n / 8:Nat):Int))]) (v:=.pointer (some ⟨(gs1 0).b,0+(n / 8)*1,none⟩)) (fun ρ o w ho hi=>xj (kd:=.i64) (t:=76) (n:=25) (size:=1) kr (x:=(.tmp 2)) (y:=(.tmp 6)) (gs1 0).b 0 (n / 8) ho hi.1 hi.2.1 (by omega) w),.ls (C:=(Qn (svn s))) (off:=0+(n / 8)*1) (v:=.int .u64 (Qj (nth s (n / 8)):Int)) 0 (uG s (n / 8) _ (by omega) (by omega)),.v,.c (zec 1 n (by omega)),.E (.int .u64 (Q2 .xor .u64 ((Qj (nth s (n / 8)):Int)) ((Qj (qF (Qw 64 1) n):Int)))) (.int .u64 (Qj ((nth s (n / 8)) ^^^ (qF (Qw 64 1) n)):Int)) (zG (nth s (n / 8)) (qF (Qw 64 1) n)),.o (ins:=[((.tmp 2),Qe (gs1 0).b),((.tmp 6),.int .i64 ((n / 8:Nat):Int))]) (v:=.pointer (some ⟨(gs1 0).b,0+(n / 8)*1,none⟩)) (fun ρ o w ho hi=>xj (kd:=.i64) (t:=76) (n:=25) (size:=1) kr (x:=(.tmp 2)) (y:=(.tmp 6)) (gs1 0).b 0 (n / 8) ho hi.1 hi.2.1 (by omega) w),.se (C:=(Qn (svn s))) (C':=(Qn (svn (lay s n 1)))) (off:=0+(n / 8)*1) (v:=.int .u64 (Qj ((nth s (n / 8)) ^^^ (qF (Qw 64 1) n)):Int)) 0 (by show _+1<=25;omega) (zcj s (n / 8) _ ((nth s (n / 8)) ^^^ (qF (Qw 64 1) n)) hs (by omega) (by omega))] H1 kr fun w2 H2=>?_;clear H1;refine dS [.v,.l 0,.c (zec 128 135 (by omega)),.E (.int .u64 (Q2 .xor .u64 ((Qj (nth (lay s n 1) 16):Int)) ((Qj (qF (Qw 64 128) 135):Int)))) (.int .u64 (Qj ((nth (lay s n 1) 16) ^^^ (qF (Qw 64 128) 135)):Int)) (zG (nth (lay s n 1) 16) (qF (Qw 64 128) 135)),.v,.se (C:=(Qn (svn (lay s n 1)))) (C':=(Qn (svn (lay (lay s n 1) 135 128)))) (off:=16) (v:=.int .u64 (Qj ((nth (lay s n 1) 16) ^^^ (qF (Qw 64 128) 135)):Int)) 0 (of_decide_eq_true kr) (zcj (lay s n 1) 16 16 _ (jY _ _ hs) rfl (by omega))] H2 kr fun w3 H3=>?_;clear H2;refine zt [0,1,2,4] fun ρ1=>?_;have HK1:=H3.keep;clear H3;refine rS [.l 0,.s 1] HK1 kr fun gs4 w4 H4=>?_;clear HK1;refine zk kr<|wV ?_;refine⟨[svn (lay (lay s n 1) 135 128)],(.agg (b:=(gs1 1).b) (Qn (svn (lay (lay s n 1) 135 128))) 76 (0,0) kr (H4.get 1 kr) kr .nil),?_,H4.below⟩;rfl
theorem b8 (x:BitVec 64)(sh:Nat):QY (Int.toNat ((Qj (Ry 8 (x >>> sh)):Int)))=QY (Qj x / 2^sh):=by
 apply U4.1;rw[UL,BitVec.toNat_setWidth,BitVec.toNat_ushiftRight,Nat.shiftRight_eq_div_pow];simp
theorem take_fnq (q:List (BitVec 64)×Nat)(hq:StOK q)(t:Qa)(ht:Ql t<0x4000000000000000):
 FnP Tryz.prog 42 #[svn q.1,.int .i64 ((q.2:Nat):Int),.string t] Marks (.tuple #[svn (takeB q (tl t)).1,.int .i64 (((takeB q (tl t)).2:Nat):Int)]):=zn3 q.1 q.2 t hq.len hq.lt ht
theorem end_fnq (q:List (BitVec 64)×Nat)(hq:StOK q):Fn Tryz.prog 45 #[svn q.1,.int .i64 ((q.2:Nat):Int)] (svn (endB q)):=zn4 q.1 q.2 hq.len hq.lt
def kF (s:List (BitVec 64))(i j:Nat):BitVec 8:=if j<i then Ry 8 (nth s (j / 8) >>> (j%8*8)) else 0
theorem zn5 (s:List (BitVec 64))(i j:Nat):kF s (i+1) j=if j=i then Ry 8 (nth s (i / 8) >>> (i%8*8)) else kF s i j:=by
 unfold kF;by_cases h:j=i
 ·subst h;rw[if_pos (by omega),if_pos rfl]
 ·rw[if_neg h];by_cases h2:j<i
  ·rw[if_pos (by omega),if_pos h2]
  ·rw[if_neg (by omega),if_neg h2]
theorem zn6 (s:List (BitVec 64)):((QW 32).map fun i=>Ub (kF s 32 i))=firstB s:=by
 unfold firstB;refine List.map_congr_left fun i hi=>?_;unfold kF;rw[if_pos (by simpa using hi)];have h:=b8 (nth s (i / 8)) (i%8*8);rw[UL]at h;rw[<-h];apply U4.1;have:=(Ry 8 (nth s (i / 8) >>> (i%8*8))).isLt;rw[UInt8.toNat_ofNat_of_lt' (by simpa using this)];rfl
theorem first_fn (s:List (BitVec 64)):Fn Tryz.prog 43 #[svn s] (.string (zg (firstB s))):=by
 refine zv [.tmp 2] 22 Tryz.func43 fun w=>?_;have H0:=St.start w;refine rS [.b,.v] H0 kr fun gs1 w1 H1=>?_;clear H0;refine rS [.a] H1 kr fun gs2 w2 H2=>?_;clear H1;refine za kr<|rS [.v] H2 kr fun gs3 w3 H3=>?_;clear H2;refine zm 0 kr ?_;have HL1:St w.heap.size w w3 [((gs1 0).b,Qk (Qn (svn s)) 76),((gs2 0).b,Qk (Qn (zks .u8 32)) 112)]:=H3.as kr;clear H3;have HM2:St w.heap.size w w3 [((gs1 0).b,Qk (Qn (svn s)) 76),((gs2 0).b,Qk (Qn (xt 32 (kF s 0))) 112)]:=HL1;refine zO kr (fun mz ρ ww=> ∃(i:Nat),32-i=mz/\(i<=32)/\St w.heap.size w ww [((gs1 0).b,Qk (Qn (svn s)) 76),((gs2 0).b,Qk (Qn (xt 32 (kF s i))) 112)]/\Is [(0,svn s),(1,Qe (gs1 0).b),(2,.string (⟨#[]⟩)),(3,Qe (gs2 0).b),(5,.int .i64 (i:Int))] ρ) (32-0) ⟨0,rfl,(by omega),HM2,zl⟩ ?_;clear HM2;rintro _ _ w4 ⟨i,rfl,hi,H4,_,rfl⟩;by_cases hc3:(i:Nat)<32
 ·refine rS [itT ((i:Int)<32)] H4 kr fun gs5 w5 H5=>?_;clear H4;refine za kr<|zh kr kr<|zj kr<|wW<|za kr<|zm 1 kr<|rS [.v,.v] H5 kr fun gs6 w6 H6=>?_;clear H5;refine rL [.v,.v,.E (.int .i64 (Qz.wrap ((i:Int).tdiv 8))) (.int .i64 ((i / 8:Nat):Int)) (zf (xq (a:=i) (b:=8) (by omega))),.o (ins:=[((.tmp 1),Qe (gs1 0).b),((.tmp 10),.int .i64 ((i / 8:Nat):Int))]) (v:=.pointer (some ⟨(gs1 0).b,0+(i / 8)*1,none⟩)) (fun ρ o w ho hi=>xj (kd:=.i64) (t:=76) (n:=25) (size:=1) kr (x:=(.tmp 1)) (y:=(.tmp 10)) (gs1 0).b 0 (i / 8) ho hi.1 hi.2.1 (by omega) w),.ls (C:=(Qn (svn s))) (off:=0+(i / 8)*1) (v:=.int .u64 (Qj (nth s (i / 8)):Int)) 0 (uG s (i / 8) _ (by omega) (by omega)),.v,.E (.int .i64 (UA (i:Int) 8)) (.int .i64 ((i%8:Nat):Int)) (zf (qw i 8)),.E (.int .i64 (Qz.wrap (((i%8:Nat):Int)*8))) (.int .i64 (((i%8)*8:Nat):Int)) (zf (ja (a:=i%8) (b:=8) (by omega))),.E (.int .u64 (Vc ((Qj (nth s (i / 8)):Int)) (2^(min ((i%8)*8) 64)))) (.int .u64 (Qj ((nth s (i / 8)) >>> ((i%8)*8)):Int)) (zbj (nth s (i / 8)) ((i%8)*8)),.E (.int .u8 (QG.wrap ((Qj ((nth s (i / 8)) >>> ((i%8)*8)):Int)))) (.int .u8 (Qj (Ry 8 ((nth s (i / 8)) >>> ((i%8)*8))):Int)) (zfH ((nth s (i / 8)) >>> ((i%8)*8))),.o (ins:=[((.tmp 3),Qe (gs2 0).b),((.tmp 8),.int .i64 (i:Int))]) (v:=.pointer (some ⟨(gs2 0).b,0+i*1,none⟩)) (fun ρ o w ho hi=>xj (kd:=.i64) (t:=112) (n:=32) (size:=1) kr (x:=(.tmp 3)) (y:=(.tmp 8)) (gs2 0).b 0 i ho hi.1 hi.2.1 (by omega) w),.se (C:=(Qn (xt 32 (kF s i)))) (C':=(Qn (xt 32 (kF s (i+1))))) (off:=0+i*1) (v:=.int .u8 (Qj (Ry 8 ((nth s (i / 8)) >>> ((i%8)*8))):Int)) 1 (by show _+1<=32;omega) (zkt (k:=i) (x:=Ry 8 ((nth s (i / 8)) >>> ((i%8)*8))) (by omega) (by omega) (fun j _=>zn5 s i j))] H6 kr fun gs7 w7 H7=>?_;clear H6;refine wW<|zt [0,1,2,3,4,5,6] fun ρ1=>?_;have HK4:=H7.keep;clear H7;refine rL [itI i 1,.v] HK4 kr fun gs8 w8 H8=>?_;clear HK4;have HL5:St w.heap.size w w8 [((gs1 0).b,Qk (Qn (svn s)) 76),((gs2 0).b,Qk (Qn (xt 32 (kF s (i+1)))) 112 (0,0))]:=H8.as kr;clear H8;show ∃m,_/\_;exact⟨_,(by omega),(i+1),rfl,(by omega),HL5,zl⟩
 ·refine rS [itF ((i:Int)<32)] H4 kr fun gs9 w9 H9=>?_;clear H4;refine za kr<|zi kr kr<|zE 0 kr<|wW<|zd [0,1,2] kr kr<|rp [.o (ins:=[((.tmp 3),Qe (gs2 0).b)]) (v:=Qf (gs2 0).b 32 32) (fun ρ o w ho hi=>zfN (t:=112) (n:=32) (e:=5) (z:=1) kr kr (x:=(.tmp 3)) ((gs2 0).b) ho hi.1 w)] H9 kr fun gs10 w10 H10=>wX [1,2] ?_;clear H9;have hi32:i=32:=by omega
  have hrow:=zku 32 (kF s i) (by unfold maxLen;omega);rw[show ((QW 32).map fun j=>Ub (kF s i j))=firstB s by rw[hi32];exact zn6 _]at hrow;refine zfP H10 (some 21) 95 9 5 (.tmp 20) 1 ((gs2 0).b) 32 32 (Qn (xt 32 (kF s i))) 112 (0,0) (firstB s) kr kr kr kr kr kr kr hrow<|rp [.v] H10 kr fun gs11 w11 H11=>wX [] ?_;clear H10;refine zb<|zk kr<|wV ?_;refine⟨[.string (zg (firstB s))],(.tmp (.string (zg (firstB s))) kr .nil),?_,H11.below⟩;rfl
theorem of_fn1 (b:Nat)(s1:Qa)(h1:Ql s1<0x4000000000000000):FnP Tryz.prog 21 #[Qf b 1 1] (fun w=>Marks w/\w.heap[b]? =some (.cells #[.string s1] 9 (0,0))) (.string (zg (sumB (tl s1)))):=by
 refine zR [.tmp 2] 26 Tryz.func21 fun w hpre=>?_;have H0:=St.start w;refine rS [.v] H0 kr fun gs1 w1 H1=>?_;clear H0;refine rS [.a] H1 kr fun gs2 w2 H2=>?_;clear H1;refine rS [.v] H2 kr fun gs3 w3 H3=>?_;clear H2;refine za kr<|rS [.v,.v,.v] H3 kr fun gs4 w4 H4=>?_;clear H3;refine zm 0 kr ?_;have HL1:St w.heap.size w w4 [((gs2 0).b,Qk #[wZ,wZ,wZ,wZ,wZ,wZ,wZ,wZ,wZ,wZ,wZ,wZ,wZ,wZ,wZ,wZ,wZ,wZ,wZ,wZ,wZ,wZ,wZ,wZ,wZ] 76 (0,0))]:=H4.as kr;clear H4;refine zcX kr<|rS [.v] HL1 kr fun gs5 w5 H5=>?_;clear HL1;refine za kr<|zh kr kr<|zj kr<|wW<|za kr<|zm 1 kr<|rS [itX 7 9 23 9 1 16 b 0 1 1 0 rfl,.fs (off:=0+0*1) (v:=.string s1) hpre.2 (zo hpre.2) (by rfl),.v] H5 kr fun gs6 w6 H6=>?_;clear H5;refine rL [.l 0,.v,.v,.cp (pre:=Marks) (take_fnq (zeroS,0) zero_ok s1 (by assumption)) [] (fun w hb hd=>(Marks.oldB hb rfl hpre.1)),.v,.v,.v,.s 0,.v] H6 kr fun gs7 w7 H7=>?_;clear H6;refine wW<|zt [0,2,3,4,6,7,8,9,10] fun ρ1=>?_;have HK2:=H7.keep;clear H7;refine rL [.v,.v] HK2 kr fun gs8 w8 H8=>?_;clear HK2;show WPL _ _ _ _ _ _;refine yO<|rS [.v] H8 kr fun gs9 w9 H9=>?_;clear H8;refine za kr<|zi kr kr<|zE 0 kr<|wW<|rS [.l 0,.v,.c (end_fnq (takeB (zeroS,0) (tl s1)) (takeB_ok _ zero_ok)),.cp (pre:=Marks) (mix_fn (endB (takeB (zeroS,0) (tl s1)))) [] (fun w hb hd=>(Marks.oldB hb rfl hpre.1)),.c (first_fn (mix (endB (takeB (zeroS,0) (tl s1))))),.v] H9 kr fun gs10 w10 H10=>?_;clear H9;refine zk kr<|wV ?_;refine⟨[.string (zg (firstB (mix (endB (takeB (zeroS,0) (tl s1))))))],(.tmp (.string (zg (firstB (mix (endB (takeB (zeroS,0) (tl s1))))))) kr .nil),?_,H10.below⟩;rfl
end Ke
section
open Go.Proofs.Kec
end
section
open Go.Proofs.Kec Ke
theorem zh2 (A:Nat)(hA:A<big):Fn Tryz.prog 106 #[uv A] (.string (bs A)):=znG A hA
end
def sv (l:List UInt8):Nat:=l.foldl (fun n b=>256*n+b.toNat) 0
theorem zck (l:List UInt8)(b:UInt8):sv (l++ [b])=256*sv l+b.toNat:=by
 unfold sv;rw[V6];rfl
theorem zh3: ∀(l:List UInt8) (n:Nat),l.foldl (fun n b=>256*n+b.toNat) n<(n+1)*256^l.length
 | [],n=>by simp
 | b::l,n=>by
  rw[List.foldl_cons,List.length_cons,RW];have h:=zh3 l (256*n+b.toNat);have hb:b.toNat<256:=b.toNat_lt;have h2:(256*n+b.toNat+1)*256^l.length<=((n+1)*256)*256^l.length:=Nat.mul_le_mul_right _ (by omega);have e:(n+1)*(256^l.length*256)=(n+1)*256*256^l.length:=by rw[Um (n+1) 256,VW 256]
  omega
theorem zh4 (l:List UInt8):sv l<256^l.length:=by
 have:=zh3 l 0;rw[Nat.one_mul]at this;exact this
def wi (n q:Nat):Nat:=n / 0x10000000000000000^q%0x10000000000000000
theorem zn7 (x y k K:Nat)(hK:2^k=K)(hx:x%K=0)(hy:y<K):x ||| y=x+y:=by
 subst hK;have e:x=2^k*(x / 2^k):=by have:=Nat.div_add_mod x (2^k);omega
 rw[e];exact(Nat.two_pow_add_eq_or_of_lt hy (x / 2^k)).symm
theorem zn8 {b c K:Nat}(hb:b<256)(hc:0<c)(hK:256*c=K):b*c<K:=by
 subst hK;exact(Nat.mul_lt_mul_right hc).2 hb
theorem zn9 (P b m:Nat)(hb:b<256)(hm:m<32)(hP:(256*P+b)*256^m<big):
 wi (P*256^(m+1)) (m / 8) ||| (b*2^(8*(m%8)))=wi ((256*P+b)*256^m) (m / 8)/\
 (∀j,j<4->j≠m / 8->wi ((256*P+b)*256^m) j=wi (P*256^(m+1)) j):=by
 obtain⟨k,r,hr,rfl⟩:∃k r,r<8/\m=8*k+r:=⟨m / 8,m%8,RT _ (by decide),by omega⟩
 have hk:(8*k+r) / 8=k:=by omega
 have hr':(8*k+r)%8=r:=by omega
 have hw:256^(8*k+r)=256^r*0x10000000000000000^k:=by rw[Nat.add_comm,UZ,Nat.pow_mul]
 have hN:P*256^(8*k+r+1)=P*256^(r+1)*0x10000000000000000^k:=by
  rw[RW,hw,RW,Nat.mul_right_comm,Um P]
 have hN':(256*P+b)*256^(8*k+r)=(256*P+b)*256^r*0x10000000000000000^k:=by rw[hw,Um]
 rw[hk,hr',hN,hN'];have hp: ∀n,0<0x10000000000000000^n:=fun n=>VF (by decide);have h8:r=0\/r=1\/r=2\/r=3\/r=4\/r=5\/r=6\/r=7:=by omega
 unfold wi;constructor
 ·rw[Vr _ (hp k),Vr _ (hp k),zn7 _ _ (8*(r+1)) (256^(r+1)) (Nat.pow_mul 2 8 (r+1)) ?_ ?_]
  ·clear hN hN' hw hP;rcases h8 with rfl | rfl | rfl | rfl | rfl | rfl | rfl | rfl<;>simp only[Nat.reduceMul,Nat.reduceAdd,Q5]<;>omega
  ·rw[Nat.mod_mod_of_dvd _ (show 256^(r+1)∣256^8 from Nat.pow_dvd_pow 256 hr),Wi]
  ·rw[Nat.pow_mul];exact zn8 hb (VF (by decide)) (show 256*256^r=256^(r+1) by rw[RW 256 r,VW])
 ·intro j hj hne;rcases Nat.lt_or_gt_of_ne hne with h | h
  ·obtain⟨d,rfl⟩:∃d,k=d+1+j:=⟨k-j-1,by omega⟩
   have e: ∀A,A*0x10000000000000000^(d+1+j) / 0x10000000000000000^j%0x10000000000000000=0:=fun A=>by
    rw[UZ,<-Um,Vr _ (hp j),RW,<-Um,Wi]
   rw[e,e]
  ·obtain⟨d,rfl⟩:∃d,j=k+1+d:=⟨j-k-1,by omega⟩
   have e: ∀A,A*0x10000000000000000^k / 0x10000000000000000^(k+1+d)=A / 0x10000000000000000 / 0x10000000000000000^d:=fun A=>by
    rw[UZ,RW,<-Rz,<-Rz,Vr _ (hp k)]
   have e2:(256*P+b)*256^r / 0x10000000000000000=P*256^(r+1) / 0x10000000000000000:=by
    clear hN hN' hw hP e;rcases h8 with rfl | rfl | rfl | rfl | rfl | rfl | rfl | rfl<;>simp only[Nat.reduceMul,Nat.reduceAdd,Q5]<;>omega
   rw[e,e,e2]
section
open Go.ChangeShapes Go.WideShapes Go.ChangeAt
def zN (s:Qa)(k:Nat):Nat:=sv (s.data.toList.take k)*256^(s.size-k)
theorem zoa (s:Qa)(k:Nat)(h:s.size<=32)(hk:k<=s.size):zN s k<big:=by
 unfold zN;have h1:=zh4 (s.data.toList.take k);have h2:(s.data.toList.take k).length<=k:=List.length_take_le _ _;have h3:256^(s.data.toList.take k).length<=256^k:=Uh (by omega) h2;have h4:256^k*256^(s.size-k)=256^s.size:=by rw[<-UZ];congr 1;omega
 have h5:256^s.size<=256^32:=Uh (by omega) h;have h6:sv (s.data.toList.take k)*256^(s.size-k)<256^k*256^(s.size-k):=(Nat.mul_lt_mul_right (VF (by omega))).2 (by omega);have h7:(256:Nat)^32=big:=rfl;omega
theorem zob (s:Qa)(k m:Nat)(hk:k<s.size)(hm:s.size=k+1+m):
 zN s k=sv (s.data.toList.take k)*256^(m+1)/\zN s (k+1)=(256*sv (s.data.toList.take k)+s[k].toNat)*256^m:=by
 unfold zN;constructor
 ·congr 2;omega
 ·have e:s.data.toList.take (k+1)=s.data.toList.take k++ [s[k]]:=by rw[UC (by simpa using hk)];rfl
  rw[e,zck];congr 2;omega
theorem wi0 (n:Nat):((wi n 0:Nat):Int)=w0 n:=by unfold wi w0;simp
theorem wi1 (n:Nat):((wi n 1:Nat):Int)=w1 n:=rfl
theorem wi2 (n:Nat):((wi n 2:Nat):Int)=w2 n:=rfl
theorem wi3 (n:Nat):((wi n 3:Nat):Int)=w3 n:=rfl
theorem zcl (x b m:Nat)(hx:x<0x10000000000000000)(hb:b<256):
 bits BinOp.or QA (x:Int) (QA.wrap ((b:Int)*2^(8*(m%8))))=((x ||| b*2^(8*(m%8)):Nat):Int):=by
 have hp:2^(8*(m%8))<=2^56:=Uh (by omega) (by omega);have hl:b*2^(8*(m%8))<0x10000000000000000:=by
  have h1:b*2^(8*(m%8))<=255*2^56:=Nat.mul_le_mul (by omega) hp;omega
 have e2:(b:Int)*2^(8*(m%8))=((b*2^(8*(m%8)):Nat):Int):=by push_cast;rfl
 rw[e2];have e3:QA.wrap ((b*2^(8*(m%8)):Nat):Int)=((b*2^(8*(m%8)):Nat):Int):=by rw[IntKind.wrap_u64];omega
 rw[e3];exact bits_or_u64_nat _ _ hx hl
def zcm (wr:World)(b:Nat)(n:Nat):Prop:=
 (wr.cell? ⟨b,0,none⟩=some (.int .u64 (w0 n))/\wr.cell? ⟨b,1,none⟩=some (.int .u64 (w1 n))/\wr.cell? ⟨b,2,none⟩=some (.int .u64 (w2 n))/\wr.cell? ⟨b,3,none⟩=some (.int .u64 (w3 n)))/\
 (wr.frozen? ⟨b,0,none⟩=false/\wr.frozen? ⟨b,1,none⟩=false/\wr.frozen? ⟨b,2,none⟩=false/\wr.frozen? ⟨b,3,none⟩=false)
def zh5 (w:World)(s:Qa)(k:Nat)(wr:World):Prop:=Below w.heap.size w wr/\zcm wr (w.heap.size+1) (zN s k)/\zcm wr w.heap.size 0
theorem zcn (s:Qa)(h:s.size<=32)(w:World):Calls Tryz.prog 114 #[.string s] w fun e w'=>e=.returned (.tuple #[uv (sv s.data.toList),.int .i64 0])/\Below w.heap.size w w':=by
 have hi: ¬(32:Int)<(s.size:Int):=by omega
 have hfin:zN s s.size=sv s.data.toList:=by unfold zN;rw[Qy (by simp)];simp
 have hend: ∀k,¬k<s.size->k<=s.size->zN s k=sv s.data.toList:=fun k h1 h2=>by rw[show k=s.size by omega];exact hfin
 have I:zh5 w s 0 ((w.alloc (.cells #[wZ,wZ,wZ,wZ] 50)).alloc (.cells #[wZ,wZ,wZ,wZ] 50)):=by
  have z:zN s 0=0:=by unfold zN;simp[sv]
  have z0:w0 0=0:=rfl;have z1:w1 0=0:=rfl;have z2:w2 0=0:=rfl;have z3:w3 0=0:=rfl;refine⟨((Below.refl _ _).alloc (QH _) _).alloc (by simp) _,?_,?_⟩
  ·rw[z];unfold zcm;rw[z0,z1,z2,z3];exact⟨⟨by simp,by simp,by simp,by simp⟩,by simp,by simp,by simp,by simp⟩
  ·unfold zcm;rw[z0,z1,z2,z3];exact⟨⟨by simp,by simp,by simp,by simp⟩,by simp,by simp,by simp,by simp⟩
 have Hend:=Lib.hid hend;clear hfin hend
 go_enter Tryz.func114,Tryz.ntmps114
 go_wp2
 go_loopw [13] (fun i wr=> ∃k:Nat,k<=s.size/\i=.int .i64 k/\zh5 w s k wr) (fun i _=>s.size-(intOf i).toNat)
 case atStart=>exact⟨0,by omega,rfl,I⟩
 case round=>
  obtain⟨k,hk,rfl,J⟩:=hrel;clear I;obtain⟨JB,⟨⟨c0,c1,c2,c3⟩,f0,f1,f2,f3⟩,⟨⟨r0,r1,r2,r3⟩,y0,y1,y2,y3⟩⟩:=J;by_cases hlt:k<s.size
  ·obtain⟨m,hm⟩:∃m,s.size=k+1+m:=⟨s.size-k-1,by omega⟩
   have hb:((s.size:Int)-1-(k:Int))=(m:Int):=by omega
   have hm32:m<32:=by omega
   obtain⟨n1,n2⟩:=zob s k m hlt hm;have hbig:=zoa s (k+1) h (by omega);have hby:s[k].toNat<256:=s[k].toNat_lt;have OB:=zn9 (sv (s.data.toList.take k)) s[k].toNat m hby hm32 (by rw[<-n2];exact hbig);rw[<-n1,<-n2]at OB;have HOB:=Lib.hid OB;clear hm n1 n2 OB hbig;have hq:m / 8=0\/m / 8=1\/m / 8=2\/m / 8=3:=by omega
   rcases hq with hq|hq|hq|hq
   ·go_wp2_with fail
    go_region
    go_wp2
    go_roundw
    case rel=>
     obtain⟨o1,o2⟩:=HOB.out;rw[hq]at o1 o2;have ev:bits BinOp.or QA (w0 (zN s k)) (QA.wrap ((s[k].toNat:Int)*2^(8*(m%8))))=w0 (zN s (k+1)):=by
      rw[<-wi0,zcl _ _ _ (by unfold wi;exact RT _ (by omega)) hby,o1,wi0]
     have g1:w1 (zN s (k+1))=w1 (zN s k):=by rw[<-wi1,<-wi1,o2 1 (by omega) (by omega)]
     have g2:w2 (zN s (k+1))=w2 (zN s k):=by rw[<-wi2,<-wi2,o2 2 (by omega) (by omega)]
     have g3:w3 (zN s (k+1))=w3 (zN s k):=by rw[<-wi3,<-wi3,o2 3 (by omega) (by omega)]
     refine⟨k+1,by omega,by go_num,(JB.setCell (by simp) _).drew,⟨⟨?_,?_,?_,?_⟩,?_,?_,?_,?_⟩,⟨⟨?_,?_,?_,?_⟩,?_,?_,?_,?_⟩⟩
     ·rw[<-ev];exact RJ _ _ _ c0
     ·rw[g1];exact(QC _ _ _ _ (by simp)).trans c1
     ·rw[g2];exact(QC _ _ _ _ (by simp)).trans c2
     ·rw[g3];exact(QC _ _ _ _ (by simp)).trans c3
     ·simp[f0]
     ·simp[f1]
     ·simp[f2]
     ·simp[f3]
     ·exact(QC _ _ _ _ (by simp)).trans r0
     ·exact(QC _ _ _ _ (by simp)).trans r1
     ·exact(QC _ _ _ _ (by simp)).trans r2
     ·exact(QC _ _ _ _ (by simp)).trans r3
     ·simp[y0]
     ·simp[y1]
     ·simp[y2]
     ·simp[y3]
    case measure=>simp[intOf];omega
   ·go_wp2_with fail
    go_region
    go_wp2
    go_roundw
    case rel=>
     obtain⟨o1,o2⟩:=HOB.out;rw[hq]at o1 o2;have ev:bits BinOp.or QA (w1 (zN s k)) (QA.wrap ((s[k].toNat:Int)*2^(8*(m%8))))=w1 (zN s (k+1)):=by
      rw[<-wi1,zcl _ _ _ (by unfold wi;exact RT _ (by omega)) hby,o1,wi1]
     have g0:w0 (zN s (k+1))=w0 (zN s k):=by rw[<-wi0,<-wi0,o2 0 (by omega) (by omega)]
     have g2:w2 (zN s (k+1))=w2 (zN s k):=by rw[<-wi2,<-wi2,o2 2 (by omega) (by omega)]
     have g3:w3 (zN s (k+1))=w3 (zN s k):=by rw[<-wi3,<-wi3,o2 3 (by omega) (by omega)]
     refine⟨k+1,by omega,by go_num,(JB.setCell (by simp) _).drew,⟨⟨?_,?_,?_,?_⟩,?_,?_,?_,?_⟩,⟨⟨?_,?_,?_,?_⟩,?_,?_,?_,?_⟩⟩
     ·rw[g0];exact(QC _ _ _ _ (by simp)).trans c0
     ·rw[<-ev];exact RJ _ _ _ c1
     ·rw[g2];exact(QC _ _ _ _ (by simp)).trans c2
     ·rw[g3];exact(QC _ _ _ _ (by simp)).trans c3
     ·simp[f0]
     ·simp[f1]
     ·simp[f2]
     ·simp[f3]
     ·exact(QC _ _ _ _ (by simp)).trans r0
     ·exact(QC _ _ _ _ (by simp)).trans r1
     ·exact(QC _ _ _ _ (by simp)).trans r2
     ·exact(QC _ _ _ _ (by simp)).trans r3
     ·simp[y0]
     ·simp[y1]
     ·simp[y2]
     ·simp[y3]
    case measure=>simp[intOf];omega
   ·go_wp2_with fail
    go_region
    go_wp2
    go_roundw
    case rel=>
     obtain⟨o1,o2⟩:=HOB.out;rw[hq]at o1 o2;have ev:bits BinOp.or QA (w2 (zN s k)) (QA.wrap ((s[k].toNat:Int)*2^(8*(m%8))))=w2 (zN s (k+1)):=by
      rw[<-wi2,zcl _ _ _ (by unfold wi;exact RT _ (by omega)) hby,o1,wi2]
     have g0:w0 (zN s (k+1))=w0 (zN s k):=by rw[<-wi0,<-wi0,o2 0 (by omega) (by omega)]
     have g1:w1 (zN s (k+1))=w1 (zN s k):=by rw[<-wi1,<-wi1,o2 1 (by omega) (by omega)]
     have g3:w3 (zN s (k+1))=w3 (zN s k):=by rw[<-wi3,<-wi3,o2 3 (by omega) (by omega)]
     refine⟨k+1,by omega,by go_num,(JB.setCell (by simp) _).drew,⟨⟨?_,?_,?_,?_⟩,?_,?_,?_,?_⟩,⟨⟨?_,?_,?_,?_⟩,?_,?_,?_,?_⟩⟩
     ·rw[g0];exact(QC _ _ _ _ (by simp)).trans c0
     ·rw[g1];exact(QC _ _ _ _ (by simp)).trans c1
     ·rw[<-ev];exact RJ _ _ _ c2
     ·rw[g3];exact(QC _ _ _ _ (by simp)).trans c3
     ·simp[f0]
     ·simp[f1]
     ·simp[f2]
     ·simp[f3]
     ·exact(QC _ _ _ _ (by simp)).trans r0
     ·exact(QC _ _ _ _ (by simp)).trans r1
     ·exact(QC _ _ _ _ (by simp)).trans r2
     ·exact(QC _ _ _ _ (by simp)).trans r3
     ·simp[y0]
     ·simp[y1]
     ·simp[y2]
     ·simp[y3]
    case measure=>simp[intOf];omega
   ·go_wp2_with fail
    go_region
    go_wp2
    go_roundw
    case rel=>
     obtain⟨o1,o2⟩:=HOB.out;rw[hq]at o1 o2;have ev:bits BinOp.or QA (w3 (zN s k)) (QA.wrap ((s[k].toNat:Int)*2^(8*(m%8))))=w3 (zN s (k+1)):=by
      rw[<-wi3,zcl _ _ _ (by unfold wi;exact RT _ (by omega)) hby,o1,wi3]
     have g0:w0 (zN s (k+1))=w0 (zN s k):=by rw[<-wi0,<-wi0,o2 0 (by omega) (by omega)]
     have g1:w1 (zN s (k+1))=w1 (zN s k):=by rw[<-wi1,<-wi1,o2 1 (by omega) (by omega)]
     have g2:w2 (zN s (k+1))=w2 (zN s k):=by rw[<-wi2,<-wi2,o2 2 (by omega) (by omega)]
     refine⟨k+1,by omega,by go_num,(JB.setCell (by simp) _).drew,⟨⟨?_,?_,?_,?_⟩,?_,?_,?_,?_⟩,⟨⟨?_,?_,?_,?_⟩,?_,?_,?_,?_⟩⟩
     ·rw[g0];exact(QC _ _ _ _ (by simp)).trans c0
     ·rw[g1];exact(QC _ _ _ _ (by simp)).trans c1
     ·rw[g2];exact(QC _ _ _ _ (by simp)).trans c2
     ·rw[<-ev];exact RJ _ _ _ c3
     ·simp[f0]
     ·simp[f1]
     ·simp[f2]
     ·simp[f3]
     ·exact(QC _ _ _ _ (by simp)).trans r0
     ·exact(QC _ _ _ _ (by simp)).trans r1
     ·exact(QC _ _ _ _ (by simp)).trans r2
     ·exact(QC _ _ _ _ (by simp)).trans r3
     ·simp[y0]
     ·simp[y1]
     ·simp[y2]
     ·simp[y3]
    case measure=>simp[intOf];omega
  ·have HE:=Lib.hid (Hend.out k hlt hk)
   go_wp2
   have hS0:(wr.setCell ⟨w.heap.size,0,none⟩ (.int .u64 (w0 (zN s k)))).cell? ⟨w.heap.size,0,none⟩=some (.int .u64 (w0 (zN s k))):=RJ _ _ _ r0;have hS1:((wr.setCell ⟨w.heap.size,0,none⟩ (.int .u64 (w0 (zN s k)))).setCell ⟨w.heap.size,1,none⟩ (.int .u64 (w1 (zN s k)))).cell? ⟨w.heap.size,1,none⟩=some (.int .u64 (w1 (zN s k))):=RJ _ _ _ ((QC _ _ _ _ (by simp)).trans r1);have hS2:(((wr.setCell ⟨w.heap.size,0,none⟩ (.int .u64 (w0 (zN s k)))).setCell ⟨w.heap.size,1,none⟩ (.int .u64 (w1 (zN s k)))).setCell ⟨w.heap.size,2,none⟩ (.int .u64 (w2 (zN s k)))).cell? ⟨w.heap.size,2,none⟩=some (.int .u64 (w2 (zN s k))):=RJ _ _ _ ((QC _ _ _ _ (by simp)).trans ((QC _ _ _ _ (by simp)).trans r2));have hS3:((((wr.setCell ⟨w.heap.size,0,none⟩ (.int .u64 (w0 (zN s k)))).setCell ⟨w.heap.size,1,none⟩ (.int .u64 (w1 (zN s k)))).setCell ⟨w.heap.size,2,none⟩ (.int .u64 (w2 (zN s k)))).setCell ⟨w.heap.size,3,none⟩ (.int .u64 (w3 (zN s k)))).cell? ⟨w.heap.size,3,none⟩=some (.int .u64 (w3 (zN s k))):=RJ _ _ _ ((QC _ _ _ _ (by simp)).trans ((QC _ _ _ _ (by simp)).trans ((QC _ _ _ _ (by simp)).trans r3)));refine bodyPost_ret (v:=.tuple #[uv (zN s k),.int .i64 0]) (by simp[results,Tryz.results114,go_sem,hS0,hS1,hS2,hS3]) rfl ?_;refine⟨by rw[HE.out],?_⟩;exact((((JB.setCell (by simp) _).setCell (by simp) _).setCell (by simp) _).setCell (by simp) _)
end
theorem yC (A q:Nat)(h:q<16):(dgs A 16).getD q 0=dgt A q:=by
 unfold dgs;simp[Qm,List.getElem?_map,List.getElem?_range h]
theorem xB (s:Qa)(h:s.size<=32):sv (tl s)<big:=by
 have h1:=zh4 (tl s);have h2:256^(tl s).length<=256^32:=Uh (by omega) h;have h3:(256:Nat)^32=big:=rfl;omega
theorem zoc (s:Qa)(k:Nat)(h:k<s.size):sv ((tl s).take (k+1))=256*sv ((tl s).take k)+by_ s k:=by
 have h1:k<(tl s).length:=h;rw[UC h1,zck];unfold by_;rw[QO,Qr h1];rfl
theorem zod (A:Nat):QG.wrap (((dgt A 15 / 256:Nat)):Int)=Go.Proofs.YtcjejfklpegobaaGreatDoor.w3 A / 72057594037927936%256:=by
 unfold dgt w3;rw[yq];simp only[Q5];omega
theorem zoe (A:Nat):QG.wrap (((dgt A 15%256:Nat)):Int)=Go.Proofs.YtcjejfklpegobaaGreatDoor.w3 A / 281474976710656%256:=by
 unfold dgt w3;rw[yq];simp only[Q5];omega
theorem zog (A:Nat):QG.wrap (((dgt A 14 / 256:Nat)):Int)=Go.Proofs.YtcjejfklpegobaaGreatDoor.w3 A / 1099511627776%256:=by
 unfold dgt w3;rw[yq];simp only[Q5];omega
theorem zoh (A:Nat):QG.wrap (((dgt A 14%256:Nat)):Int)=Go.Proofs.YtcjejfklpegobaaGreatDoor.w3 A / 4294967296%256:=by
 unfold dgt w3;rw[yq];simp only[Q5];omega
theorem zoi (A:Nat):QG.wrap (((dgt A 13 / 256:Nat)):Int)=Go.Proofs.YtcjejfklpegobaaGreatDoor.w3 A / 16777216%256:=by
 unfold dgt w3;rw[yq];simp only[Q5];omega
theorem zoj (A:Nat):QG.wrap (((dgt A 13%256:Nat)):Int)=Go.Proofs.YtcjejfklpegobaaGreatDoor.w3 A / 65536%256:=by
 unfold dgt w3;rw[yq];simp only[Q5];omega
theorem zok (A:Nat):QG.wrap (((dgt A 12 / 256:Nat)):Int)=Go.Proofs.YtcjejfklpegobaaGreatDoor.w3 A / 256%256:=by
 unfold dgt w3;rw[yq];simp only[Q5];omega
theorem zol (A:Nat):QG.wrap (((dgt A 12%256:Nat)):Int)=Go.Proofs.YtcjejfklpegobaaGreatDoor.w3 A%256:=by
 unfold dgt w3;rw[yq];simp only[Q5];omega
theorem zom (A:Nat):QG.wrap (((dgt A 11 / 256:Nat)):Int)=Go.Proofs.YtcjejfklpegobaaGreatDoor.w2 A / 72057594037927936%256:=by
 unfold dgt w2;rw[yq];simp only[Q5];omega
theorem zon (A:Nat):QG.wrap (((dgt A 11%256:Nat)):Int)=Go.Proofs.YtcjejfklpegobaaGreatDoor.w2 A / 281474976710656%256:=by
 unfold dgt w2;rw[yq];simp only[Q5];omega
theorem zoo (A:Nat):QG.wrap (((dgt A 10 / 256:Nat)):Int)=Go.Proofs.YtcjejfklpegobaaGreatDoor.w2 A / 1099511627776%256:=by
 unfold dgt w2;rw[yq];simp only[Q5];omega
theorem zop (A:Nat):QG.wrap (((dgt A 10%256:Nat)):Int)=Go.Proofs.YtcjejfklpegobaaGreatDoor.w2 A / 4294967296%256:=by
 unfold dgt w2;rw[yq];simp only[Q5];omega
theorem zoq (A:Nat):QG.wrap (((dgt A 9 / 256:Nat)):Int)=Go.Proofs.YtcjejfklpegobaaGreatDoor.w2 A / 16777216%256:=by
 unfold dgt w2;rw[yq];simp only[Q5];omega
theorem zor (A:Nat):QG.wrap (((dgt A 9%256:Nat)):Int)=Go.Proofs.YtcjejfklpegobaaGreatDoor.w2 A / 65536%256:=by
 unfold dgt w2;rw[yq];simp only[Q5];omega
theorem zos (A:Nat):QG.wrap (((dgt A 8 / 256:Nat)):Int)=Go.Proofs.YtcjejfklpegobaaGreatDoor.w2 A / 256%256:=by
 unfold dgt w2;rw[yq];simp only[Q5];omega
theorem zot (A:Nat):QG.wrap (((dgt A 8%256:Nat)):Int)=Go.Proofs.YtcjejfklpegobaaGreatDoor.w2 A%256:=by
 unfold dgt w2;rw[yq];simp only[Q5];omega
theorem zou (A:Nat):QG.wrap (((dgt A 7 / 256:Nat)):Int)=Go.Proofs.YtcjejfklpegobaaGreatDoor.w1 A / 72057594037927936%256:=by
 unfold dgt w1;rw[yq];simp only[Q5];omega
theorem zov (A:Nat):QG.wrap (((dgt A 7%256:Nat)):Int)=Go.Proofs.YtcjejfklpegobaaGreatDoor.w1 A / 281474976710656%256:=by
 unfold dgt w1;rw[yq];simp only[Q5];omega
theorem zow (A:Nat):QG.wrap (((dgt A 6 / 256:Nat)):Int)=Go.Proofs.YtcjejfklpegobaaGreatDoor.w1 A / 1099511627776%256:=by
 unfold dgt w1;rw[yq];simp only[Q5];omega
theorem zox (A:Nat):QG.wrap (((dgt A 6%256:Nat)):Int)=Go.Proofs.YtcjejfklpegobaaGreatDoor.w1 A / 4294967296%256:=by
 unfold dgt w1;rw[yq];simp only[Q5];omega
theorem zoy (A:Nat):QG.wrap (((dgt A 5 / 256:Nat)):Int)=Go.Proofs.YtcjejfklpegobaaGreatDoor.w1 A / 16777216%256:=by
 unfold dgt w1;rw[yq];simp only[Q5];omega
theorem zoz (A:Nat):QG.wrap (((dgt A 5%256:Nat)):Int)=Go.Proofs.YtcjejfklpegobaaGreatDoor.w1 A / 65536%256:=by
 unfold dgt w1;rw[yq];simp only[Q5];omega
theorem zoA (A:Nat):QG.wrap (((dgt A 4 / 256:Nat)):Int)=Go.Proofs.YtcjejfklpegobaaGreatDoor.w1 A / 256%256:=by
 unfold dgt w1;rw[yq];simp only[Q5];omega
theorem zoB (A:Nat):QG.wrap (((dgt A 4%256:Nat)):Int)=Go.Proofs.YtcjejfklpegobaaGreatDoor.w1 A%256:=by
 unfold dgt w1;rw[yq];simp only[Q5];omega
theorem zoC (A:Nat):QG.wrap (((dgt A 3 / 256:Nat)):Int)=Go.Proofs.YtcjejfklpegobaaGreatDoor.w0 A / 72057594037927936%256:=by
 unfold dgt w0;rw[yq];simp only[Q5];omega
theorem zoD (A:Nat):QG.wrap (((dgt A 3%256:Nat)):Int)=Go.Proofs.YtcjejfklpegobaaGreatDoor.w0 A / 281474976710656%256:=by
 unfold dgt w0;rw[yq];simp only[Q5];omega
theorem zoE (A:Nat):QG.wrap (((dgt A 2 / 256:Nat)):Int)=Go.Proofs.YtcjejfklpegobaaGreatDoor.w0 A / 1099511627776%256:=by
 unfold dgt w0;rw[yq];simp only[Q5];omega
theorem zoF (A:Nat):QG.wrap (((dgt A 2%256:Nat)):Int)=Go.Proofs.YtcjejfklpegobaaGreatDoor.w0 A / 4294967296%256:=by
 unfold dgt w0;rw[yq];simp only[Q5];omega
theorem zoG (A:Nat):QG.wrap (((dgt A 1 / 256:Nat)):Int)=Go.Proofs.YtcjejfklpegobaaGreatDoor.w0 A / 16777216%256:=by
 unfold dgt w0;rw[yq];simp only[Q5];omega
theorem zoH (A:Nat):QG.wrap (((dgt A 1%256:Nat)):Int)=Go.Proofs.YtcjejfklpegobaaGreatDoor.w0 A / 65536%256:=by
 unfold dgt w0;rw[yq];simp only[Q5];omega
theorem zoI (A:Nat):QG.wrap (((dgt A 0 / 256:Nat)):Int)=Go.Proofs.YtcjejfklpegobaaGreatDoor.w0 A / 256%256:=by
 unfold dgt w0;rw[yq];simp only[Q5];omega
theorem zoJ (A:Nat):QG.wrap (((dgt A 0%256:Nat)):Int)=Go.Proofs.YtcjejfklpegobaaGreatDoor.w0 A%256:=by
 unfold dgt w0;rw[yq];simp only[Q5];omega
def bnI (A q:Nat):Int:=(bn A).getD q 0
theorem zoK (A j:Nat)(h1:1<=j)(h2:j<=16):QG.wrap ((((dgs A 16).getD (j-1) 0 / 256:Nat)):Int)=bnI A (32-2*j):=by
 have h:j=1\/j=2\/j=3\/j=4\/j=5\/j=6\/j=7\/j=8\/j=9\/j=10\/j=11\/j=12\/j=13\/j=14\/j=15\/j=16:=by omega
 rcases h with rfl|rfl|rfl|rfl|rfl|rfl|rfl|rfl|rfl|rfl|rfl|rfl|rfl|rfl|rfl|rfl
 ·rw[yC A 0 (by omega)];exact zoI A
 ·rw[yC A 1 (by omega)];exact zoG A
 ·rw[yC A 2 (by omega)];exact zoE A
 ·rw[yC A 3 (by omega)];exact zoC A
 ·rw[yC A 4 (by omega)];exact zoA A
 ·rw[yC A 5 (by omega)];exact zoy A
 ·rw[yC A 6 (by omega)];exact zow A
 ·rw[yC A 7 (by omega)];exact zou A
 ·rw[yC A 8 (by omega)];exact zos A
 ·rw[yC A 9 (by omega)];exact zoq A
 ·rw[yC A 10 (by omega)];exact zoo A
 ·rw[yC A 11 (by omega)];exact zom A
 ·rw[yC A 12 (by omega)];exact zok A
 ·rw[yC A 13 (by omega)];exact zoi A
 ·rw[yC A 14 (by omega)];exact zog A
 ·rw[yC A 15 (by omega)];exact zod A
theorem zoL (A j:Nat)(h1:1<=j)(h2:j<=16):QG.wrap ((((dgs A 16).getD (j-1) 0%256:Nat)):Int)=bnI A (32-2*j+1):=by
 have h:j=1\/j=2\/j=3\/j=4\/j=5\/j=6\/j=7\/j=8\/j=9\/j=10\/j=11\/j=12\/j=13\/j=14\/j=15\/j=16:=by omega
 rcases h with rfl|rfl|rfl|rfl|rfl|rfl|rfl|rfl|rfl|rfl|rfl|rfl|rfl|rfl|rfl|rfl
 ·rw[yC A 0 (by omega)];exact zoJ A
 ·rw[yC A 1 (by omega)];exact zoH A
 ·rw[yC A 2 (by omega)];exact zoF A
 ·rw[yC A 3 (by omega)];exact zoD A
 ·rw[yC A 4 (by omega)];exact zoB A
 ·rw[yC A 5 (by omega)];exact zoz A
 ·rw[yC A 6 (by omega)];exact zox A
 ·rw[yC A 7 (by omega)];exact zov A
 ·rw[yC A 8 (by omega)];exact zot A
 ·rw[yC A 9 (by omega)];exact zor A
 ·rw[yC A 10 (by omega)];exact zop A
 ·rw[yC A 11 (by omega)];exact zon A
 ·rw[yC A 12 (by omega)];exact zol A
 ·rw[yC A 13 (by omega)];exact zoj A
 ·rw[yC A 14 (by omega)];exact zoh A
 ·rw[yC A 15 (by omega)];exact zoe A
theorem zoM (A k:Nat)(h:k+2<=32):Re (k+2) (bn A)=Re k (bn A)++ [bnI A k,bnI A (k+1)]:=by
 have hl:(bn A).length=32:=rfl;rw[UC (show k+1<(bn A).length by omega),UC (show k<(bn A).length by omega),QD];simp[bnI,QO,Qr (show k<(bn A).length by omega),Qr (show k+1<(bn A).length by omega)]
theorem zoN (A k:Nat)(h:k+2<=32):VP (Q0 .u8) (Re (k+2) (bn A))=VP (Q0 .u8) (Re k (bn A))++ [.int .u8 (bnI A k),.int .u8 (bnI A (k+1))]:=by rw[zoM A k h,List.map_append];rfl
theorem zh6 (A:Nat)(hA:A<big):Fn Tryz.prog 88 #[uv A] (.string (bs A)):=by
 refine zv [.tmp 2] 30 Tryz.func88 fun w=>?_;have H0:=St.start w;refine rS [.b,.v] H0 kr fun gs1 w1 H1=>?_;clear H0;refine zd [0,1,2] kr kr<|rp [.l 0] H1 kr fun gs2 w2 H2=>wX [1,2] ?_;clear H1;refine vL H2 (some 7) 121 #[uv A] (fun _=>True) 3 1 (fun curZ capZ nZ lZ=>(nZ=Qo lZ/\Rw 1 curZ capZ nZ (zW lZ)/\Ok lZ/\(lZ=dgs A 16/\vl lZ=A/\Qo lZ=16))) (zau A hA) trivial kr kr ?_;intro b_1 cap_2 n_3 cur_4 l_5 w3 H3 hs_6;clear H2;obtain⟨hs_6n,hs_6r,hs_6o,hs_6s⟩:=hs_6;obtain⟨hs_6a,hs_6b,hs_6c⟩:=hs_6s;refine rp [.v] H3 kr fun gs4 w4 H4=>wX [] ?_;clear H3;refine zb<|rS [.nw (fun b=>Qf b 0 0) #[] 5,.v] H4 kr fun gs5 w5 H5=>?_;clear H4;refine za kr<|rS [.v] H5 kr fun gs6 w6 H6=>?_;clear H5;refine zm 0 kr ?_;have HL1:St w.heap.size w w6 [(b_1,Qk cur_4 3),((gs1 0).b,Qk (Qn (uv A)) 50),((gs5 0).b,Qk #[] 5 (0,0))]:=H6.as kr;clear H6;have HD2:St w.heap.size w w6 [(b_1,Qk cur_4 3),((gs5 0).b,Qk #[] 5 (0,0))]:=HL1.sub (Qq _ (Qs _ (Qq _ QS)));have HF3:St w.heap.size w w6 [(b_1,Qk cur_4 3),((gs5 0).b,Qk #[] 5 (0,0))]:=HD2.front 0 kr kr;have HF4:St w.heap.size w w6 [((gs5 0).b,Qk #[] 5 (0,0)),(b_1,Qk cur_4 3)]:=HF3.front 1 kr kr;refine zO kr (fun mz ρ ww=> ∃(b:Nat) (cap:Nat) (n:Nat) (cur:Qd) (j:Nat),j=mz/\(n=32-2*j)/\(Rw 1 cur cap n (VP (Q0 .u8) (Re (32-2*j) (bn A))))/\(j<=16)/\St w.heap.size w ww [(b,Qk cur 5),(b_1,Qk cur_4 3)]/\Is [(0,uv A),(1,Qe (gs1 0).b),(2,.string (⟨#[]⟩)),(3,Qf b_1 n_3 cap_2),(4,Qf b n cap),(5,.int .i64 ((j:Int)-1))] ρ) 16 ⟨(gs5 0).b,0,0,#[],16,rfl,rfl,(Rw.lit #[] 0 rfl (by unfold maxLen;omega)),(by omega),HF4,zl⟩ ?_;clear HF4;rintro _ _ w7 ⟨b,cap,n,cur,j,rfl,hn,hr,hj,H7,_,rfl⟩;refine za kr<|zd [0,1] kr kr<|rp [.v] H7 kr fun gs8 w8 H8=>wX [1] ?_;clear H7;by_cases hc5:((j:Int)-1:Int)≥0
 ·refine rp [itT (0<=(j:Int)-1)] H8 kr fun gs9 w9 H9=>wX [] ?_;clear H8;refine zb<|zh kr kr<|zj kr<|wW<|za kr<|zm 1 kr<|yv 5 (v:=.int .i64 ((j:Int)-1)) (v':=.int .i64 ((j-1:Nat):Int)) (zf (show ((j:Int)-1)=((j-1:Nat):Int) from by omega)) kr<|yv 9 (v:=.int .i64 ((j:Int)-1)) (v':=.int .i64 ((j-1:Nat):Int)) (zf (show ((j:Int)-1)=((j-1:Nat):Int) from by omega)) kr ?_;have hdd:=yK hs_6o (j-1);have HL6:St w.heap.size w w9 [(b,Qk cur 5),(b_1,Qk cur_4 3)]:=H9.as kr;clear H9;refine D2.g_draw0 [0,1,2,3,4,5,6,7,8,9,10,11,12,13,14,15] [((some 13),fun _=>Qf b n cap),((some 14),fun _=>Qf b_1 n_3 cap_2),((some 15),fun _=>.int .i64 ((j-1:Nat):Int)),((some 16),fun _=>.pointer (some ⟨b_1,0+(j-1)*1,none⟩)),((some 17),fun _=>.int .i64 ((Qm l_5 (j-1) 0:Nat):Int)),((some 18),fun _=>.int .i64 (((Qm l_5 (j-1) 0) / 256:Nat):Int)),((some 19),fun _=>.int .u8 (bnI A (32-2*j))),((some 20),fun _=>Qf b_1 n_3 cap_2),((some 21),fun _=>.int .i64 ((j-1:Nat):Int)),((some 22),fun _=>.pointer (some ⟨b_1,0+(j-1)*1,none⟩)),((some 23),fun _=>.int .i64 ((Qm l_5 (j-1) 0:Nat):Int)),((some 24),fun _=>.int .i64 (((Qm l_5 (j-1) 0)%256:Nat):Int)),((some 25),fun _=>.int .u8 (bnI A (32-2*j+1))),((some 26),fun b=>Qf b.b 2 2),((some 27),fun y=>Qf y.b y.n y.cap),((some 4),fun y=>Qf y.b (y.n) (y.cap))] (D2.Pre w.heap.size w (fun L g=>[(true,(bif L 14 then ((g 14).b,Qk ((g 14).cur) 5) else (b,Qk cur 5))),(true,(b_1,Qk cur_4 3)),(L 13,((g 13).b,Qk #[.int .u8 (bnI A (32-2*j)),.int .u8 (bnI A (32-2*j+1))] 5 (0,0)))]) (fun L g=>(L 14=true->((g 14).n=n+2/\Rw 1 (g 14).cur (g 14).cap (n+2) (VP (Q0 .u8) (Re (32-2*j+2) (bn A)))))/\(L 15=true->g 15=g 14)/\True)) kr kr kr ⟨D2.StE.of HL6.drew _ kr,⟨(fun h=>nomatch h),(fun h=>nomatch h),trivial⟩⟩ ⟨?_,?_,?_,?_,?_,?_,?_,?_,?_,?_,?_,?_,?_,?_,?_,?_,trivial⟩ ?_
  ·exact D2.gv_vala
  ·exact D2.gv_vala
  ·exact D2.gv_vala
  ·exact D2.gv_op (fun _ _ _ h=>h) _ (fun g=>by kernel_rfl) (fun g=>(fun o w ho=>vJ (kd:=.i64) (t:=164) (e:=3) (size:=1) (bytes:=8) kr (x:=(.tmp 14)) (y:=(.tmp 15)) b_1 0 n_3 cap_2 (j-1) ho kr kr (by omega) w))
  ·exact D2.gv_load1 3 (.tmp 16) 1 (fun g=>b_1) (fun g=>0+(j-1)*1) (fun g=>cur_4) 3 (0,0) (fun _ _ _ h=>h) (fun g=>by kernel_rfl) (fun g=>by kernel_rfl) (fun L g hN=>kr) kr (fun L g hN hF=>by exact(hs_6r.atD (by omega) hs_6n))
  ·exact D2.gv_valE (fun _ _ _ h=>h) (V':=.int .i64 (Qz.wrap (((Qm l_5 (j-1) 0:Nat):Int).tdiv 256))) (fun g w=>by kernel_rfl) (zf (xq (a:=Qm l_5 (j-1) 0) (b:=256) (by omega)))
  ·exact D2.gv_valE (fun _ _ _ h=>h) (V':=.int .u8 (QG.wrap ((((Qm l_5 (j-1) 0) / 256:Nat):Int)))) (fun g w=>by kernel_rfl) (zf (by rw[hs_6a];exact zoK A j (by omega) (by omega)))
  ·exact D2.gv_vala
  ·exact D2.gv_vala
  ·exact D2.gv_op (fun _ _ _ h=>h) _ (fun g=>by kernel_rfl) (fun g=>(fun o w ho=>vJ (kd:=.i64) (t:=164) (e:=3) (size:=1) (bytes:=8) kr (x:=(.tmp 20)) (y:=(.tmp 21)) b_1 0 n_3 cap_2 (j-1) ho kr kr (by omega) w))
  ·exact D2.gv_load1 3 (.tmp 22) 1 (fun g=>b_1) (fun g=>0+(j-1)*1) (fun g=>cur_4) 3 (0,0) (fun _ _ _ h=>h) (fun g=>by kernel_rfl) (fun g=>by kernel_rfl) (fun L g hN=>kr) kr (fun L g hN hF=>by exact(hs_6r.atD (by omega) hs_6n))
  ·exact D2.gv_valE (fun _ _ _ h=>h) (V':=.int .i64 (UA ((Qm l_5 (j-1) 0:Nat):Int) 256)) (fun g w=>by kernel_rfl) (zf (qw (Qm l_5 (j-1) 0) 256))
  ·exact D2.gv_valE (fun _ _ _ h=>h) (V':=.int .u8 (QG.wrap ((((Qm l_5 (j-1) 0)%256:Nat):Int)))) (fun g w=>by kernel_rfl) (zf (by rw[hs_6a];exact zoL A j (by omega) (by omega)))
  ·exact D2.gv_new (fun b=>Qf b 2 2) #[.int .u8 (bnI A (32-2*j)),.int .u8 (bnI A (32-2*j+1))] 5 2 (fun g w=>by kernel_rfl) (fun L g b hN=>kr) (fun L g b hN hF=>hF)
  ·exact D2.gv_append 95 5 1 1 (.tmp 13) (.tmp 26) 0 2 (fun g=>b) (fun g=>(g 13).b) (fun g=>n) (fun g=>2) (fun g=>cap) (fun g=>2) (fun g=>cur) (fun g=>#[.int .u8 (bnI A (32-2*j)),.int .u8 (bnI A (32-2*j+1))]) 5 (0,0) (fun g=>(VP (Q0 .u8) (Re (32-2*j) (bn A)))) (fun g=>[.int .u8 (bnI A (32-2*j)),.int .u8 (bnI A (32-2*j+1))]) (fun g=>by kernel_rfl) kr (fun g=>by kernel_rfl) (fun L g hN=>(by have hL14:L 14=false:=hN.1;exact D2.ent_get' (p:=true) (e:=(bif L 14 then ((g 14).b,Qk ((g 14).cur) 5) else (b,Qk cur 5))) kr (by rfl) (by simp only[hL14,cond_true,cond_false]<;>rfl))) (fun L g hN hF=>by exact hr) (fun g=>by kernel_rfl) (fun L g hN=>(by have hL13:L 13=true:=(hN.bef 13 kr);exact D2.ent_get' (p:=L 13) (e:=((g 13).b,Qk #[.int .u8 (bnI A (32-2*j)),.int .u8 (bnI A (32-2*j+1))] 5 (0,0))) kr (by exact hL13) (by simp only[hL13,cond_true,cond_false]<;>rfl))) (fun L g hN hF=>by exact⟨(by rfl),(by rfl),(by intro u hu;simp at hu;first | exact hu.elim | (rcases hu with rfl | rfl | rfl | rfl<;>rfl) | (rcases hu with rfl | rfl<;>rfl) | (subst hu;rfl)),(by omega),(by unfold maxLen;omega)⟩) (fun L g y hN=>kr) (fun L g y hN hF hyn hyr=>by have hnew:=(show (y.n=n+2/\Rw 1 y.cur y.cap (n+2) (VP (Q0 .u8) (Re (32-2*j+2) (bn A)))) from ⟨hyn,by rw[zoN A _ (by omega)];exact hyr⟩);exact⟨fun _=>hnew,(fun hx=>nomatch (Eq.trans (Eq.symm (show L 15=true from hx)) (hN.post 15 kr))),trivial⟩)
  ·exact D2.gv_valG (fun g=>g 14) (fun L g w hN hp=>⟨hp.1,hp.2.1,fun _=>rfl,trivial⟩) (fun g w=>by kernel_rfl)
  intro L0 G10 w10 hall HL;clear HL6;have H10:St w.heap.size w w10 [((G10 14).b,Qk ((G10 14).cur) 5),(b_1,Qk cur_4 3),((G10 13).b,Qk #[.int .u8 (bnI A (32-2*j)),.int .u8 (bnI A (32-2*j+1))] 5 (0,0))]:=by have e13:=hall 13 (Qp kr);have e14:=hall 14 (Qp kr);have e15:=hall 15 (Qp kr);have hS:=D2.StE.st HL.1;simp only[e13,e14,e15,cond_true,D2.pres]at hS;exact hS
  have hf14_10:((G10 14).n=n+2/\Rw 1 (G10 14).cur (G10 14).cap (n+2) (VP (Q0 .u8) (Re (32-2*j+2) (bn A)))):=HL.2.1 (hall 14 (Qp kr));have hf15_10:G10 15=G10 14:=HL.2.2.1 (hall 15 (Qp kr));clear HL hall;rw[<-hf15_10]at H10 hf14_10;refine wW<|zt [0,1,2,3,4,5,10] fun ρ1=>rL [.v,.E (.int .i64 (Qz.wrap (((j-1:Nat):Int)-1))) (.int .i64 (((j-1:Nat):Int)-1)) (zf (wrap_i64 (by omega) (by omega))),.v] H10 kr fun gs11 w11 H11=>?_;clear H10;have HL7:St w.heap.size w w11 [((G10 15).b,Qk ((G10 15).cur) 5),(b_1,Qk cur_4 3),((G10 13).b,Qk #[.int .u8 (bnI A (32-2*j)),.int .u8 (bnI A (32-2*j+1))] 5 (0,0))]:=H11.as kr;clear H11;have HD8:St w.heap.size w w11 [((G10 15).b,Qk ((G10 15).cur) 5),(b_1,Qk cur_4 3)]:=HL7.sub (Qq _ (Qq _ (Qs _ QS)));show ∃m,_/\_;exact⟨_,(by omega),(G10 15).b,(G10 15).cap,(G10 15).n,(G10 15).cur,(j-1),rfl,(by have h9:=hf14_10.1;omega),(by have h9:=hf14_10;rw[show 32-2*(j-1)=32-2*j+2 by omega,h9.1];exact h9.2),(by omega),HD8,zl⟩
 ·refine rp [itF (0<=(j:Int)-1)] H8 kr fun gs12 w12 H12=>wX [] ?_;clear H8;refine zb<|zi kr kr<|zE 0 kr<|wW ?_;obtain rfl:j=0:=by omega
  refine zd [0,1,2] kr kr<|rp [.v] H12 kr fun gs13 w13 H13=>wX [1,2] ?_;clear H12;refine zfK H13 (some 29) 95 9 5 (.tmp 28) 0 b n cap cur 5 (0,0) (bn A) kr kr kr kr kr kr kr hr<|rp [.v] H13 kr fun gs14 w14 H14=>wX [] ?_;clear H13;refine zb<|zk kr<|wV ?_;refine⟨[.string (strOfNums (bn A))],(.tmp (.string (strOfNums (bn A))) kr .nil),?_,H14.below⟩;rfl
theorem zco (s:Qa)(hs:Ql s<=32):Fn Tryz.prog 84 #[.string s] (uv (sv (tl s))):=by
 refine zv [.cell 2 50] 23 Tryz.func84 fun w=>?_;have H0:=St.start w;refine rS [.a] H0 kr fun gs1 w1 H1=>?_;clear H0;refine rS [.nw (fun b=>Qf b 0 0) #[] 3,.v] H1 kr fun gs2 w2 H2=>?_;clear H1;refine za kr<|rS [.v] H2 kr fun gs3 w3 H3=>?_;clear H2;refine zm 0 kr ?_;have HL1:St w.heap.size w w3 [((gs1 0).b,Qk #[wZ,wZ,wZ,wZ] 50 (0,0)),((gs2 0).b,Qk #[] 3 (0,0))]:=H3.as kr;clear H3;refine zO kr (fun mz ρ ww=> ∃(b:Nat) (cap:Nat) (n:Nat) (cur:Qd) (l:List Nat) (k:Nat),Ql s+1-k=mz/\(n=Qo l)/\(Rw 1 cur cap n (zW l))/\(Ok l)/\(vl l=sv (Re k (tl s)))/\(n<=3*k)/\(k<=Ql s)/\St w.heap.size w ww [((gs1 0).b,Qk #[wZ,wZ,wZ,wZ] 50 (0,0)),(b,Qk cur 3)]/\Is [(0,.string s),(2,Qe (gs1 0).b),(3,Qf b n cap),(4,.int .i64 (k:Int))] ρ) (Ql s+1-0) ⟨(gs2 0).b,0,0,#[],[],0,rfl,rfl,(Rw.lit #[] 0 rfl (by unfold maxLen;omega)),(by intro d hd;cases hd),rfl,(by omega),(by omega),HL1,zl⟩ ?_;clear HL1;rintro _ _ w4 ⟨b,cap,n,cur,l,k,rfl,hn,hr,hok,hv,hl,hk,H4,_,rfl⟩;have hby:=qp s k;have h256:vl [256]=256:=rfl;have hl256:Qo [256]=1:=rfl;have hlb:Qo [by_ s k]=1:=rfl;have hvb:vl [by_ s k]=by_ s k:=by simp[vl]
 refine za kr<|zd [0,1,2,3] kr kr<|rp [.v,.v,.v] H4 kr fun gs5 w5 H5=>wX [3] ?_;clear H4;by_cases hc2:(k:Nat)<Ql s
 ·refine rp [itT ((k:Int)<(Ql s:Int))] H5 kr fun gs6 w6 H6=>wX [] ?_;clear H5;refine zb<|zh kr kr<|zj kr<|wW<|za kr<|zm 1 kr ?_;have HL3:St w.heap.size w w6 [((gs1 0).b,Qk #[wZ,wZ,wZ,wZ] 50 (0,0)),(b,Qk cur 3)]:=H6.as kr;clear H6;refine D2.g_draw0 [0,1,2,3,4,5,6,7,8,9] [((some 12),fun _=>Qf b n cap),((some 13),fun b=>Qf b.b 1 1),((some 14),fun x=>Qf x.b x.n x.cap),((some 15),fun _=>.string s),((some 16),fun _=>.int .i64 (k:Int)),((some 17),fun _=>.int .u8 ((by_ s k:Nat):Int)),((some 18),fun _=>.int .i64 ((by_ s k:Nat):Int)),((some 19),fun b=>Qf b.b 1 1),((some 20),fun x=>Qf x.b x.n x.cap),((some 3),fun y=>Qf y.b (y.n) (y.cap))] (D2.Pre w.heap.size w (fun L g=>[(true,((gs1 0).b,Qk #[wZ,wZ,wZ,wZ] 50 (0,0))),(true,(b,Qk cur 3)),(L 1,((g 1).b,Qk #[.int .i64 256] 3 (0,0))),(L 2,((g 2).b,Qk ((g 2).cur) 3)),(L 7,((g 7).b,Qk #[.int .i64 ((by_ s k:Nat):Int)] 3 (0,0))),(L 8,((g 8).b,Qk ((g 8).cur) 3))]) (fun L g=>(L 2=true->((g 2).n=Qo ((g 2).l)/\Rw 1 (g 2).cur (g 2).cap (g 2).n (zW ((g 2).l))/\Ok ((g 2).l)/\(vl ((g 2).l)=vl l*vl ([256])/\Qo ((g 2).l)=Qo l+Qo ([256])+1)))/\(L 8=true->((g 8).n=Qo ((g 8).l)/\Rw 1 (g 8).cur (g 8).cap (g 8).n (zW ((g 8).l))/\Ok ((g 8).l)/\(vl ((g 8).l)=vl ((g 2).l)+vl ([by_ s k])/\Qo ((g 8).l)<=max (Qo ((g 2).l)) (Qo ([by_ s k]))+1/\max (Qo ((g 2).l)) (Qo ([by_ s k]))<=Qo ((g 8).l))))/\(L 9=true->g 9=g 8)/\True)) kr kr kr ⟨D2.StE.of HL3.drew _ kr,⟨(fun h=>nomatch h),(fun h=>nomatch h),(fun h=>nomatch h),trivial⟩⟩ ⟨?_,?_,?_,?_,?_,?_,?_,?_,?_,?_,trivial⟩ ?_
  ·exact D2.gv_vala
  ·exact D2.gv_new (fun b=>Qf b 1 1) #[.int .i64 256] 3 2 (fun g w=>by kernel_rfl) (fun L g b hN=>kr) (fun L g b hN hF=>hF)
  ·exact D2.gv_callS 119 (fun g=>#[Qf b n cap,Qf (g 1).b 1 1]) (fun g=>fun w=>w.heap[b]? =some (.cells cur 3)/\w.heap[(g 1).b]? =some (.cells #[.int .i64 256] 3 (0,0))) 3 1 (fun g curZ capZ nZ lZ=>(nZ=Qo lZ/\Rw 1 curZ capZ nZ (zW lZ)/\Ok lZ/\(vl lZ=vl l*vl ([256])/\Qo lZ=Qo l+Qo ([256])+1))) 3 (fun L g hN hF=>by exact zlC l ([256]) b n cap ((g 1).b) 1 1 cur #[.int .i64 256] hn rfl hr (Rw.lit #[.int .i64 256] 1 (by rfl) (by unfold maxLen;omega)) hok (by intro d hd;simp at hd;omega) (by omega) (by simp)) (fun L g w hN hE hF=>by exact⟨(hE.get 1 kr),(hE.get 2 (by have hL1:L 1=true:=(hN.bef 1 kr);exact D2.ent_get' (p:=L 1) (e:=((g 1).b,Qk #[.int .i64 256] 3 (0,0))) kr (by exact hL1) (by simp only[hL1,cond_true,cond_false]<;>rfl)))⟩) (fun g w=>by kernel_rfl) (fun L g x hN=>kr) (fun L g x hN hF hS=>⟨fun _=>hS,(fun hx=>nomatch (Eq.trans (Eq.symm (show L 8=true from hx)) (hN.post 8 kr))),hF.2.2.1,trivial⟩)
  ·exact D2.gv_vala
  ·exact D2.gv_vala
  ·exact D2.gv_op (fun _ _ _ h=>h) _ (fun g=>by kernel_rfl) (fun g=>(fun o w ho=>yy (t:=9) (kd:=.i64) kr (x:=(.tmp 15)) (y:=(.tmp 16)) s k ho kr kr (by omega) w))
  ·exact D2.gv_valE (fun _ _ _ h=>h) (V':=.int .i64 (Qz.wrap (((by_ s k:Nat):Int)))) (fun g w=>by kernel_rfl) (zf (jy (a:=by_ s k) (by omega)))
  ·exact D2.gv_new (fun b=>Qf b 1 1) #[.int .i64 ((by_ s k:Nat):Int)] 3 4 (fun g w=>by kernel_rfl) (fun L g b hN=>kr) (fun L g b hN hF=>hF)
  ·exact D2.gv_callS 118 (fun g=>#[Qf (g 2).b ((g 2).n) ((g 2).cap),Qf (g 7).b 1 1]) (fun g=>fun w=>w.heap[(g 2).b]? =some (.cells (g 2).cur 3)/\w.heap[(g 7).b]? =some (.cells #[.int .i64 ((by_ s k:Nat):Int)] 3 (0,0))) 3 1 (fun g curZ capZ nZ lZ=>(nZ=Qo lZ/\Rw 1 curZ capZ nZ (zW lZ)/\Ok lZ/\(vl lZ=vl ((g 2).l)+vl ([by_ s k])/\Qo lZ<=max (Qo ((g 2).l)) (Qo ([by_ s k]))+1/\max (Qo ((g 2).l)) (Qo ([by_ s k]))<=Qo lZ))) 5 (fun L g hN hF=>by have hf2:=(hF.1 (hN.bef 2 kr));exact zgf ((g 2).l) ([by_ s k]) ((g 2).b) ((g 2).n) ((g 2).cap) ((g 7).b) 1 1 ((g 2).cur) #[.int .i64 ((by_ s k:Nat):Int)] hf2.1 rfl hf2.2.1 (Rw.lit #[.int .i64 ((by_ s k:Nat):Int)] 1 (by rfl) (by unfold maxLen;omega)) hf2.2.2.1 (by intro d hd;simp at hd;omega) (by have:=hf2.2.2.2;omega) (by simp)) (fun L g w hN hE hF=>by have hf2:=(hF.1 (hN.bef 2 kr));exact⟨(hE.get 3 (by have hL2:L 2=true:=(hN.bef 2 kr);exact D2.ent_get' (p:=L 2) (e:=((g 2).b,Qk ((g 2).cur) 3)) kr (by exact hL2) (by simp only[hL2,cond_true,cond_false]<;>rfl))),(hE.get 4 (by have hL7:L 7=true:=(hN.bef 7 kr);exact D2.ent_get' (p:=L 7) (e:=((g 7).b,Qk #[.int .i64 ((by_ s k:Nat):Int)] 3 (0,0))) kr (by exact hL7) (by simp only[hL7,cond_true,cond_false]<;>rfl)))⟩) (fun g w=>by kernel_rfl) (fun L g x hN=>kr) (fun L g x hN hF hS=>⟨hF.1,fun _=>hS,(fun hx=>nomatch (Eq.trans (Eq.symm (show L 9=true from hx)) (hN.post 9 kr))),trivial⟩)
  ·exact D2.gv_valG (fun g=>g 8) (fun L g w hN hp=>⟨hp.1,hp.2.1,hp.2.2.1,fun _=>rfl,trivial⟩) (fun g w=>by kernel_rfl)
  intro L0 G7 w7 hall HL;clear HL3;have H7:St w.heap.size w w7 [((gs1 0).b,Qk #[wZ,wZ,wZ,wZ] 50 (0,0)),(b,Qk cur 3),((G7 1).b,Qk #[.int .i64 256] 3 (0,0)),((G7 2).b,Qk ((G7 2).cur) 3),((G7 7).b,Qk #[.int .i64 ((by_ s k:Nat):Int)] 3 (0,0)),((G7 8).b,Qk ((G7 8).cur) 3)]:=by have e1:=hall 1 (Qp kr);have e2:=hall 2 (Qp kr);have e7:=hall 7 (Qp kr);have e8:=hall 8 (Qp kr);have e9:=hall 9 (Qp kr);have hS:=D2.StE.st HL.1;simp only[e1,e2,e7,e8,e9,cond_true,D2.pres]at hS;exact hS
  have hf2_7:((G7 2).n=Qo ((G7 2).l)/\Rw 1 (G7 2).cur (G7 2).cap (G7 2).n (zW ((G7 2).l))/\Ok ((G7 2).l)/\(vl ((G7 2).l)=vl l*vl ([256])/\Qo ((G7 2).l)=Qo l+Qo ([256])+1)):=HL.2.1 (hall 2 (Qp kr));have hf8_7:((G7 8).n=Qo ((G7 8).l)/\Rw 1 (G7 8).cur (G7 8).cap (G7 8).n (zW ((G7 8).l))/\Ok ((G7 8).l)/\(vl ((G7 8).l)=vl ((G7 2).l)+vl ([by_ s k])/\Qo ((G7 8).l)<=max (Qo ((G7 2).l)) (Qo ([by_ s k]))+1/\max (Qo ((G7 2).l)) (Qo ([by_ s k]))<=Qo ((G7 8).l))):=HL.2.2.1 (hall 8 (Qp kr));have hf9_7:G7 9=G7 8:=HL.2.2.2.1 (hall 9 (Qp kr));clear HL hall;rw[<-hf9_7]at H7 hf8_7;refine wW<|rL [.v,itI k 1,.v] H7 kr fun gs8 w8 H8=>?_;clear H7;have HL4:St w.heap.size w w8 [((gs1 0).b,Qk #[wZ,wZ,wZ,wZ] 50 (0,0)),(b,Qk cur 3),((G7 1).b,Qk #[.int .i64 256] 3 (0,0)),((G7 2).b,Qk ((G7 2).cur) 3),((G7 7).b,Qk #[.int .i64 ((by_ s k:Nat):Int)] 3 (0,0)),((G7 9).b,Qk ((G7 9).cur) 3)]:=H8.as kr;clear H8;have hst:=zoc s k (by omega);have HD5:St w.heap.size w w8 [((gs1 0).b,Qk #[wZ,wZ,wZ,wZ] 50 (0,0)),((G7 9).b,Qk ((G7 9).cur) 3)]:=HL4.sub (Qq _ (Qs _ (Qs _ (Qs _ (Qs _ (Qq _ QS))))));show ∃m,_/\_;exact⟨_,(by omega),(G7 9).b,(G7 9).cap,(G7 9).n,(G7 9).cur,(G7 9).l,k+1,rfl,hf8_7.1,hf8_7.2.1,hf8_7.2.2.1,(by have e8:=hf8_7.2.2.2;have e2:=hf2_7.2.2.2;rw[hst,e8.1,e2.1,hvb,h256,hv];omega),(by have e8:=hf8_7.2.2.2;have e2:=hf2_7.2.2.2;have e0:=hf8_7.1;omega),(by omega),HD5,zl⟩
 ·refine rp [itF ((k:Int)<(Ql s:Int))] H5 kr fun gs9 w9 H9=>wX [] ?_;clear H5;refine zb<|zi kr kr<|zE 0 kr<|wW<|zd [0,1,2] kr kr<|rp [.v] H9 kr fun gs10 w10 H10=>wX [1,2] ?_;clear H9;refine yP H10 (some 22) 120 #[Qf b n cap] (fun w=>w.heap[b]? =some (.cells cur 3)) (uv (sv (tl s))) (by have hnum:=zlD l b n cap cur hn hr (by omega) hok;have heq:(vl l%big)=(sv (tl s)):=(by rw[hv,show k=Ql s by omega,Qy (Nat.le_of_eq (zu s)),Rj (xB s hs)]);rw[heq]at hnum;exact hnum) (H10.get 1 kr) ?_;intro w11 H11;clear H10;refine rp [.s 0] H11 kr fun gs12 w12 H12=>wX [] ?_;clear H11;refine zb<|zk kr<|wV ?_;refine⟨[uv (sv (tl s))],(.agg (b:=(gs1 0).b) (Qn (uv (sv (tl s)))) 50 (0,0) kr (H12.get 0 kr) kr .nil),?_,H12.below⟩;rfl
theorem zh7 (r s:Nat)(hr:r<big)(hs:s<big)(v:Int)(hm:zP r s v=false):Fn Tryz.prog 72 #[sgv r s (v)] (.tuple #[.string ⟨#[]⟩,.int .i64 1]):=by
 refine zv [.tmp 2,.tmp 3] 20 Tryz.func72 fun w=>?_;have H0:=St.start w;refine rS [.b,.v,.v] H0 kr fun gs1 w1 H1=>?_;clear H0;refine za kr<|zd [0,1,2] kr kr<|rp [.l 0,.c (zce r s hr hs (v))] H1 kr fun gs2 w2 H2=>wX [2] ?_;clear H1;refine zL 5 (v:=.bool (zP r s (v))) (v':=.bool false) (zc hm) kr<|rp [.v] H2 kr fun gs3 w3 H3=>wX [] ?_;clear H2;refine zb<|zh kr kr<|rS [.v,.v] H3 kr fun gs4 w4 H4=>?_;clear H3;refine zk kr<|wV ?_;refine⟨[.string (⟨#[]⟩),.int .i64 1],(.tmp (.string (⟨#[]⟩)) kr (.tmp (.int .i64 1) kr .nil)),?_,H4.below⟩;rfl
theorem zed (r s:Nat)(hr:r<big)(hs:s<big)(v:Int)(hm:zP r s v=true):Fn Tryz.prog 72 #[sgv r s (v)] (.tuple #[.string (sbs r s v),.int .i64 0]):=by
 refine zv [.tmp 2,.tmp 3] 20 Tryz.func72 fun w=>?_;have H0:=St.start w;refine rS [.b,.v,.v] H0 kr fun gs1 w1 H1=>?_;clear H0;refine za kr<|zd [0,1,2] kr kr<|rp [.l 0,.c (zce r s hr hs (v))] H1 kr fun gs2 w2 H2=>wX [2] ?_;clear H1;refine zL 5 (v:=.bool (zP r s (v))) (v':=.bool true) (zc hm) kr<|rp [.v] H2 kr fun gs3 w3 H3=>wX [] ?_;clear H2;refine zb<|zi kr kr<|zj kr<|wW<|dSg (fun gs4=>[.v,.l 0,.c (f:=106) (args:=#[uv r]) (v:=.string (bs r)) (zh2 r hr),.v,.l 0,.c (f:=106) (args:=#[uv s]) (v:=.string (bs s)) (zh2 s hs),.o (ins:=[((.tmp 9),.string (bs r)),((.tmp 12),.string (bs s))]) (v:=.string ((bs r)++(bs s))) (fun ρ o w ho hi=>jS (t:=9) (t':=9) (x:=(.tmp 9)) (y:=(.tmp 12)) (bs r) (bs s) w ho hi.1 hi.2.1 (by rw[jo,jo];omega)),.v,.l 0,.v,.nw (fun b=>Qf b 1 1) #[.int .u8 (QG.wrap v)] 5,.x (ins:=[((.tmp 17),Qf (gs4 10).b 1 1)]) [(1,((gs4 10).b,Qk #[.int .u8 (QG.wrap v)] 5 (0,0)))] (xX (t:=95) (t':=9) (e:=5) [(QG.wrap v)] kr kr kr (Rw.lit #[.int .u8 (QG.wrap v)] 1 (by rfl) (by unfold maxLen;omega))),.o (ins:=[((.tmp 13),.string ((bs r)++(bs s))),((.tmp 18),.string (strOfNums ([(QG.wrap v)])))]) (v:=.string (((bs r)++(bs s))++(strOfNums ([(QG.wrap v)])))) (fun ρ o w ho hi=>jS (t:=9) (t':=9) (x:=(.tmp 13)) (y:=(.tmp 18)) ((bs r)++(bs s)) (strOfNums ([(QG.wrap v)])) w ho hi.1 hi.2.1 (by rw[zcd,jo,jo];show 32+32+1<=_;omega)),.v,.v]) H3 kr fun gs4 w4 H4=>?_;clear H3;refine zk kr<|wV ?_;refine⟨[.string (((bs r)++(bs s))++(strOfNums ([(QG.wrap v)]))),.int .i64 0],(.tmp (.string (((bs r)++(bs s))++(strOfNums ([(QG.wrap v)])))) kr (.tmp (.int .i64 0) kr .nil)),?_,H4.below⟩;rfl
theorem zh8 (r s:Nat)(hr:r<big)(hs:s<big)(v:Int):Fn Tryz.prog 62 #[sgv r s (v)] (.string (sbs r s v)):=by
 refine zv [.tmp 2] 16 Tryz.func62 fun w=>?_;have H0:=St.start w;refine rS [.b,.v] H0 kr fun gs1 w1 H1=>?_;clear H0;refine dSg (fun gs2=>[.v,.l 0,.c (zh6 r hr),.v,.l 0,.c (zh6 s hs),.o (ins:=[((.tmp 5),.string (bs r)),((.tmp 8),.string (bs s))]) (v:=.string ((bs r)++(bs s))) (fun ρ o w ho hi=>jS (t:=9) (t':=9) (x:=(.tmp 5)) (y:=(.tmp 8)) (bs r) (bs s) w ho hi.1 hi.2.1 (by rw[jo,jo];omega)),.v,.l 0,.v,.nw (fun b=>Qf b 1 1) #[.int .u8 (QG.wrap v)] 5,.x (ins:=[((.tmp 13),Qf (gs2 10).b 1 1)]) [(1,((gs2 10).b,Qk #[.int .u8 (QG.wrap v)] 5 (0,0)))] (xX (t:=95) (t':=9) (e:=5) [(QG.wrap v)] kr kr kr (Rw.lit #[.int .u8 (QG.wrap v)] 1 (by rfl) (by unfold maxLen;omega))),.o (ins:=[((.tmp 9),.string ((bs r)++(bs s))),((.tmp 14),.string (strOfNums ([(QG.wrap v)])))]) (v:=.string (((bs r)++(bs s))++(strOfNums ([(QG.wrap v)])))) (fun ρ o w ho hi=>jS (t:=9) (t':=9) (x:=(.tmp 9)) (y:=(.tmp 14)) ((bs r)++(bs s)) (strOfNums ([(QG.wrap v)])) w ho hi.1 hi.2.1 (by rw[zcd,jo,jo];show 32+32+1<=_;omega)),.v]) H1 kr fun gs2 w2 H2=>?_;clear H1;refine zk kr<|wV ?_;refine⟨[.string (((bs r)++(bs s))++(strOfNums ([(QG.wrap v)])))],(.tmp (.string (((bs r)++(bs s))++(strOfNums ([(QG.wrap v)])))) kr .nil),?_,H2.below⟩;rfl
theorem vx (t:Qa)(h:Ql t=65):Ql (Qv t 0 32)<=32:=by rw[<-zu,yT,Uv,Rb,zu,h];decide
theorem vy (t:Qa)(h:Ql t=65):Ql (Qv t 32 64)<=32:=by rw[<-zu,yT,Uv,Rb,zu,h];decide
theorem zoO (t:Qa)(ht:Ql t<=0x7fffffffffffffff)(hsz:Ql t≠65):Fn Tryz.prog 79 #[.string t] (.tuple #[sgv 0 0 0,.int .i64 4]):=by
 refine zv [.cell 2 52,.tmp 3] 32 Tryz.func79 fun w=>?_;have H0:=St.start w;refine rS [.a,.v] H0 kr fun gs1 w1 H1=>?_;clear H0;refine za kr<|rS [.v,.v,.E (.bool (!((Ql t:Int)==65))) (.bool true) (zc (by rw[beq_eq_false_iff_ne.2 (by omega)];rfl))] H1 kr fun gs2 w2 H2=>?_;clear H1;refine zh kr kr<|rS [.v,.s 0,.v] H2 kr fun gs3 w3 H3=>?_;clear H2;refine zk kr<|wV ?_;refine⟨[sgv 0 0 (0),.int .i64 4],(.agg (b:=(gs1 0).b) (Qn (sgv 0 0 (0))) 52 (0,0) kr (H3.get 0 kr) kr (.tmp (.int .i64 4) kr .nil)),?_,H3.below⟩
 kernel_rfl
theorem zoP (t:Qa)(ht:Ql t<=0x7fffffffffffffff)(hsz:Ql t=65)(hm:zP (sv (tl (Qv t 0 32))) (sv (tl (Qv t 32 64))) (((by_ t 64:Nat)):Int)=true):Fn Tryz.prog 79 #[.string t] (.tuple #[sgv (sv (tl (Qv t 0 32))) (sv (tl (Qv t 32 64))) (((by_ t 64:Nat)):Int),.int .i64 0]):=by
 have hbl:=qp t 64;refine zv [.cell 2 52,.tmp 3] 32 Tryz.func79 fun w=>?_;have H0:=St.start w;refine rS [.a,.v] H0 kr fun gs1 w1 H1=>?_;clear H0;refine za kr<|rS [.v,.v,.E (.bool (!((Ql t:Int)==65))) (.bool false) (zc (by rw[beq_iff_eq.2 (by omega)];rfl))] H1 kr fun gs2 w2 H2=>?_;clear H1;refine zi kr kr<|zj kr<|wW<|rS [.v,itC 9 (.const (.int .i64 64)) 9 t 64,.E (.int .i64 (Qz.wrap (((by_ t 64:Nat):Int)))) (.int .i64 ((by_ t 64:Nat):Int)) (zf (jy (a:=by_ t 64) (by omega))),.v,.a,.s 1] H2 kr fun gs3 w3 H3=>?_;clear H2;refine rS [.v,.o (ins:=[((.tmp 14),.string t),((.const (.int .i64 32)),.int .i64 32)]) (v:=.string (Qv t 0 32)) (fun ρ o w ho hi=>xW (t:=9) (kd:=.i64) kr (x:=(.tmp 14)) (y:=(.const (.int .i64 32))) t 32 ho hi.1 hi.2.1 (by omega) w),.c (zcn (Qv t 0 32) (vx t hsz)),.v,.v,.v,.v,.s 1] H3 kr fun gs4 w4 H4=>?_;clear H3;refine zt [0,2,3,4,7] fun ρ1=>?_;have HK1:=H4.keep;clear H4;refine rS [.v,.o (ins:=[((.tmp 21),.string t),((.const (.int .i64 64)),.int .i64 64),((.const (.int .i64 32)),.int .i64 32)]) (v:=.string (Qv t 32 64)) (fun ρ o w ho hi=>vN (t:=9) (kd:=.i64) (kz:=.i64) kr (x:=(.tmp 21)) (y:=(.const (.int .i64 64))) (z:=(.const (.int .i64 32))) t 32 64 ho hi.1 hi.2.1 hi.2.2.1 (by omega) (by omega) w),.c (zcn (Qv t 32 64) (vy t hsz)),.v,.v,.v,.v,.s 1] HK1 kr fun gs5 w5 H5=>?_;clear HK1;refine za kr<|zd [0,1,2] kr kr<|rp [.l 1,.c (zce (sv (tl (Qv t 0 32))) (sv (tl (Qv t 32 64))) (xB (Qv t 0 32) (vx t hsz)) (xB (Qv t 32 64) (vy t hsz)) (((by_ t 64:Nat):Int)))] H5 kr fun gs6 w6 H6=>wX [2] ?_;clear H5;refine zL 28 (v:=.bool (zP (sv (tl (Qv t 0 32))) (sv (tl (Qv t 32 64))) (((by_ t 64:Nat):Int)))) (v':=.bool true) (zc hm) kr<|rp [.v] H6 kr fun gs7 w7 H7=>wX [] ?_;clear H6;refine zb<|zi kr kr<|zj kr<|wW<|rS [.l 1,.s 0,.v] H7 kr fun gs8 w8 H8=>?_;clear H7;refine zk kr<|wV ?_;refine⟨[sgv (sv (tl (Qv t 0 32))) (sv (tl (Qv t 32 64))) (((by_ t 64:Nat):Int)),.int .i64 0],(.agg (b:=(gs1 0).b) (Qn (sgv (sv (tl (Qv t 0 32))) (sv (tl (Qv t 32 64))) (((by_ t 64:Nat):Int)))) 52 (0,0) kr (H8.get 0 kr) kr (.tmp (.int .i64 0) kr .nil)),?_,H8.below⟩
 kernel_rfl
theorem zoQ (t:Qa)(ht:Ql t<=0x7fffffffffffffff)(hsz:Ql t=65)(hm:zP (sv (tl (Qv t 0 32))) (sv (tl (Qv t 32 64))) (((by_ t 64:Nat)):Int)=false):Fn Tryz.prog 79 #[.string t] (.tuple #[sgv 0 0 0,.int .i64 4]):=by
 have hbl:=qp t 64;refine zv [.cell 2 52,.tmp 3] 32 Tryz.func79 fun w=>?_;have H0:=St.start w;refine rS [.a,.v] H0 kr fun gs1 w1 H1=>?_;clear H0;refine za kr<|rS [.v,.v,.E (.bool (!((Ql t:Int)==65))) (.bool false) (zc (by rw[beq_iff_eq.2 (by omega)];rfl))] H1 kr fun gs2 w2 H2=>?_;clear H1;refine zi kr kr<|zj kr<|wW<|rS [.v,itC 9 (.const (.int .i64 64)) 9 t 64,.E (.int .i64 (Qz.wrap (((by_ t 64:Nat):Int)))) (.int .i64 ((by_ t 64:Nat):Int)) (zf (jy (a:=by_ t 64) (by omega))),.v,.a,.s 1] H2 kr fun gs3 w3 H3=>?_;clear H2;refine rS [.v,.o (ins:=[((.tmp 14),.string t),((.const (.int .i64 32)),.int .i64 32)]) (v:=.string (Qv t 0 32)) (fun ρ o w ho hi=>xW (t:=9) (kd:=.i64) kr (x:=(.tmp 14)) (y:=(.const (.int .i64 32))) t 32 ho hi.1 hi.2.1 (by omega) w),.c (zcn (Qv t 0 32) (vx t hsz)),.v,.v,.v,.v,.s 1] H3 kr fun gs4 w4 H4=>?_;clear H3;refine zt [0,2,3,4,7] fun ρ1=>?_;have HK1:=H4.keep;clear H4;refine rS [.v,.o (ins:=[((.tmp 21),.string t),((.const (.int .i64 64)),.int .i64 64),((.const (.int .i64 32)),.int .i64 32)]) (v:=.string (Qv t 32 64)) (fun ρ o w ho hi=>vN (t:=9) (kd:=.i64) (kz:=.i64) kr (x:=(.tmp 21)) (y:=(.const (.int .i64 64))) (z:=(.const (.int .i64 32))) t 32 64 ho hi.1 hi.2.1 hi.2.2.1 (by omega) (by omega) w),.c (zcn (Qv t 32 64) (vy t hsz)),.v,.v,.v,.v,.s 1] HK1 kr fun gs5 w5 H5=>?_;clear HK1;refine za kr<|zd [0,1,2] kr kr<|rp [.l 1,.c (zce (sv (tl (Qv t 0 32))) (sv (tl (Qv t 32 64))) (xB (Qv t 0 32) (vx t hsz)) (xB (Qv t 32 64) (vy t hsz)) (((by_ t 64:Nat):Int)))] H5 kr fun gs6 w6 H6=>wX [2] ?_;clear H5;refine zL 28 (v:=.bool (zP (sv (tl (Qv t 0 32))) (sv (tl (Qv t 32 64))) (((by_ t 64:Nat):Int)))) (v':=.bool false) (zc hm) kr<|rp [.v] H6 kr fun gs7 w7 H7=>wX [] ?_;clear H6;refine zb<|zh kr kr<|rS [.v,.s 0,.v] H7 kr fun gs8 w8 H8=>?_;clear H7;refine zk kr<|wV ?_;refine⟨[sgv 0 0 (0),.int .i64 4],(.agg (b:=(gs1 0).b) (Qn (sgv 0 0 (0))) 52 (0,0) kr (H8.get 0 kr) kr (.tmp (.int .i64 4) kr .nil)),?_,H8.below⟩
 kernel_rfl
def vX:Qa->Value:=fun t=>if Ql t≠65 then .tuple #[sgv 0 0 0,.int .i64 4] else if zP (sv (tl (Qv t 0 32))) (sv (tl (Qv t 32 64))) (((by_ t 64:Nat)):Int)=true then .tuple #[sgv (sv (tl (Qv t 0 32))) (sv (tl (Qv t 32 64))) (((by_ t 64:Nat)):Int),.int .i64 0] else .tuple #[sgv 0 0 0,.int .i64 4]
theorem zh9 (t:Qa)(ht:Ql t<=0x7fffffffffffffff):Fn Tryz.prog 79 #[.string t] (vX t):=by
 unfold vX;by_cases h:Ql t≠65
 ·rw[if_pos h];exact zoO t ht h
 ·rw[if_neg h];have h2:Ql t=65:=by omega
  cases hm:zP (sv (tl (Qv t 0 32))) (sv (tl (Qv t 32 64))) (((by_ t 64:Nat)):Int)
  ·rw[if_neg (by simp)];exact zoQ t ht h2 hm
  ·rw[if_pos rfl];exact zoP t ht h2 hm
theorem zoR (t:Qa)(ht:Ql t<=0x7fffffffffffffff)(hsz:Ql t≠65):Fn Tryz.prog 53 #[.string t] (.tuple #[sgv 0 0 0,.int .i64 4]):=by
 refine zv [.cell 2 52,.tmp 3] 24 Tryz.func53 fun w=>?_;have H0:=St.start w;refine rS [.a,.v] H0 kr fun gs1 w1 H1=>?_;clear H0;refine za kr<|rS [.v,.v,.E (.bool (!((Ql t:Int)==65))) (.bool true) (zc (by rw[beq_eq_false_iff_ne.2 (by omega)];rfl))] H1 kr fun gs2 w2 H2=>?_;clear H1;refine zh kr kr<|rS [.v,.s 0,.v] H2 kr fun gs3 w3 H3=>?_;clear H2;refine zk kr<|wV ?_;refine⟨[sgv 0 0 (0),.int .i64 4],(.agg (b:=(gs1 0).b) (Qn (sgv 0 0 (0))) 52 (0,0) kr (H3.get 0 kr) kr (.tmp (.int .i64 4) kr .nil)),?_,H3.below⟩
 kernel_rfl
theorem zoS (t:Qa)(ht:Ql t<=0x7fffffffffffffff)(hsz:Ql t=65)(hm:zP (sv (tl (Qv t 0 32))) (sv (tl (Qv t 32 64))) (((by_ t 64:Nat)):Int)=true):Fn Tryz.prog 53 #[.string t] (.tuple #[sgv (sv (tl (Qv t 0 32))) (sv (tl (Qv t 32 64))) (((by_ t 64:Nat)):Int),.int .i64 0]):=by
 have hbl:=qp t 64;refine zv [.cell 2 52,.tmp 3] 24 Tryz.func53 fun w=>?_;have H0:=St.start w;refine rS [.a,.v] H0 kr fun gs1 w1 H1=>?_;clear H0;refine za kr<|rS [.v,.v,.E (.bool (!((Ql t:Int)==65))) (.bool false) (zc (by rw[beq_iff_eq.2 (by omega)];rfl))] H1 kr fun gs2 w2 H2=>?_;clear H1;refine zi kr kr<|zj kr<|wW<|dSg (fun gs3=>[.v,.o (ins:=[((.tmp 9),.string t),((.const (.int .i64 32)),.int .i64 32)]) (v:=.string (Qv t 0 32)) (fun ρ o w ho hi=>xW (t:=9) (kd:=.i64) kr (x:=(.tmp 9)) (y:=(.const (.int .i64 32))) t 32 ho hi.1 hi.2.1 (by omega) w),.c (zco (Qv t 0 32) (vx t hsz)),.v,.o (ins:=[((.tmp 12),.string t),((.const (.int .i64 64)),.int .i64 64),((.const (.int .i64 32)),.int .i64 32)]) (v:=.string (Qv t 32 64)) (fun ρ o w ho hi=>vN (t:=9) (kd:=.i64) (kz:=.i64) kr (x:=(.tmp 12)) (y:=(.const (.int .i64 64))) (z:=(.const (.int .i64 32))) t 32 64 ho hi.1 hi.2.1 hi.2.2.1 (by omega) (by omega) w),.c (zco (Qv t 32 64) (vy t hsz)),.v,itC 15 (.const (.int .i64 64)) 9 t 64,.E (.int .i64 (Qz.wrap (((by_ t 64:Nat):Int)))) (.int .i64 ((by_ t 64:Nat):Int)) (zf (jy (a:=by_ t 64) (by omega))),.v,.a,.s 1]) H2 kr fun gs3 w3 H3=>?_;clear H2;refine zt [0,2,3,4,7] fun ρ1=>?_;have HK1:=H3.keep;clear H3;refine za kr<|zd [0,1,2] kr kr<|rp [.l 1,.c (zcf (sv (tl (Qv t 0 32))) (sv (tl (Qv t 32 64))) (xB (Qv t 0 32) (vx t hsz)) (xB (Qv t 32 64) (vy t hsz)) (((by_ t 64:Nat):Int)))] HK1 kr fun gs4 w4 H4=>wX [2] ?_;clear HK1;refine zL 20 (v:=.bool (zP (sv (tl (Qv t 0 32))) (sv (tl (Qv t 32 64))) (((by_ t 64:Nat):Int)))) (v':=.bool true) (zc hm) kr<|rp [.v] H4 kr fun gs5 w5 H5=>wX [] ?_;clear H4;refine zb<|zi kr kr<|zj kr<|wW<|rS [.l 1,.s 0,.v] H5 kr fun gs6 w6 H6=>?_;clear H5;refine zk kr<|wV ?_;refine⟨[sgv (sv (tl (Qv t 0 32))) (sv (tl (Qv t 32 64))) (((by_ t 64:Nat):Int)),.int .i64 0],(.agg (b:=(gs1 0).b) (Qn (sgv (sv (tl (Qv t 0 32))) (sv (tl (Qv t 32 64))) (((by_ t 64:Nat):Int)))) 52 (0,0) kr (H6.get 0 kr) kr (.tmp (.int .i64 0) kr .nil)),?_,H6.below⟩
 kernel_rfl
theorem zoT (t:Qa)(ht:Ql t<=0x7fffffffffffffff)(hsz:Ql t=65)(hm:zP (sv (tl (Qv t 0 32))) (sv (tl (Qv t 32 64))) (((by_ t 64:Nat)):Int)=false):Fn Tryz.prog 53 #[.string t] (.tuple #[sgv 0 0 0,.int .i64 4]):=by
 have hbl:=qp t 64;refine zv [.cell 2 52,.tmp 3] 24 Tryz.func53 fun w=>?_;have H0:=St.start w;refine rS [.a,.v] H0 kr fun gs1 w1 H1=>?_;clear H0;refine za kr<|rS [.v,.v,.E (.bool (!((Ql t:Int)==65))) (.bool false) (zc (by rw[beq_iff_eq.2 (by omega)];rfl))] H1 kr fun gs2 w2 H2=>?_;clear H1;refine zi kr kr<|zj kr<|wW<|dSg (fun gs3=>[.v,.o (ins:=[((.tmp 9),.string t),((.const (.int .i64 32)),.int .i64 32)]) (v:=.string (Qv t 0 32)) (fun ρ o w ho hi=>xW (t:=9) (kd:=.i64) kr (x:=(.tmp 9)) (y:=(.const (.int .i64 32))) t 32 ho hi.1 hi.2.1 (by omega) w),.c (zco (Qv t 0 32) (vx t hsz)),.v,.o (ins:=[((.tmp 12),.string t),((.const (.int .i64 64)),.int .i64 64),((.const (.int .i64 32)),.int .i64 32)]) (v:=.string (Qv t 32 64)) (fun ρ o w ho hi=>vN (t:=9) (kd:=.i64) (kz:=.i64) kr (x:=(.tmp 12)) (y:=(.const (.int .i64 64))) (z:=(.const (.int .i64 32))) t 32 64 ho hi.1 hi.2.1 hi.2.2.1 (by omega) (by omega) w),.c (zco (Qv t 32 64) (vy t hsz)),.v,itC 15 (.const (.int .i64 64)) 9 t 64,.E (.int .i64 (Qz.wrap (((by_ t 64:Nat):Int)))) (.int .i64 ((by_ t 64:Nat):Int)) (zf (jy (a:=by_ t 64) (by omega))),.v,.a,.s 1]) H2 kr fun gs3 w3 H3=>?_;clear H2;refine zt [0,2,3,4,7] fun ρ1=>?_;have HK1:=H3.keep;clear H3;refine za kr<|zd [0,1,2] kr kr<|rp [.l 1,.c (zcf (sv (tl (Qv t 0 32))) (sv (tl (Qv t 32 64))) (xB (Qv t 0 32) (vx t hsz)) (xB (Qv t 32 64) (vy t hsz)) (((by_ t 64:Nat):Int)))] HK1 kr fun gs4 w4 H4=>wX [2] ?_;clear HK1;refine zL 20 (v:=.bool (zP (sv (tl (Qv t 0 32))) (sv (tl (Qv t 32 64))) (((by_ t 64:Nat):Int)))) (v':=.bool false) (zc hm) kr<|rp [.v] H4 kr fun gs5 w5 H5=>wX [] ?_;clear H4;refine zb<|zh kr kr<|rS [.v,.s 0,.v] H5 kr fun gs6 w6 H6=>?_;clear H5;refine zk kr<|wV ?_;refine⟨[sgv 0 0 (0),.int .i64 4],(.agg (b:=(gs1 0).b) (Qn (sgv 0 0 (0))) 52 (0,0) kr (H6.get 0 kr) kr (.tmp (.int .i64 4) kr .nil)),?_,H6.below⟩
 kernel_rfl
theorem zia (t:Qa)(ht:Ql t<=0x7fffffffffffffff):Fn Tryz.prog 53 #[.string t] (vX t):=by
 unfold vX;by_cases h:Ql t≠65
 ·rw[if_pos h];exact zoR t ht h
 ·rw[if_neg h];have h2:Ql t=65:=by omega
  cases hm:zP (sv (tl (Qv t 0 32))) (sv (tl (Qv t 32 64))) (((by_ t 64:Nat)):Int)
  ·rw[if_neg (by simp)];exact zoT t ht h2 hm
  ·rw[if_pos rfl];exact zoS t ht h2 hm
theorem zoU (x:Int)(_h0:0<=x)(h1:x<256):(QY x.toNat).toNat=x.toNat:=by
 simp;omega
theorem zcp (x:Int)(n:Nat)(hx:Wd x):
 256*(256*(256*(256*(256*(256*(256*(256*n+(x / 72057594037927936%256).toNat)+(x / 281474976710656%256).toNat)+(x / 1099511627776%256).toNat)+(x / 4294967296%256).toNat)+(x / 16777216%256).toNat)+(x / 65536%256).toNat)+(x / 256%256).toNat)+(x%256).toNat=0x10000000000000000*n+x.toNat:=by
 obtain⟨hx0,hx1⟩:=hx;obtain⟨y,rfl⟩:=Int.eq_ofNat_of_zero_le hx0;have hy:y<0x10000000000000000:=by omega
 have c0:((y:Int)%256).toNat=y%256:=by omega
 have c1:((y:Int) / 256%256).toNat=y / 256%256:=by omega
 have c2:((y:Int) / 65536%256).toNat=y / 65536%256:=by omega
 have c3:((y:Int) / 16777216%256).toNat=y / 16777216%256:=by omega
 have c4:((y:Int) / 4294967296%256).toNat=y / 4294967296%256:=by omega
 have c5:((y:Int) / 1099511627776%256).toNat=y / 1099511627776%256:=by omega
 have c6:((y:Int) / 281474976710656%256).toNat=y / 281474976710656%256:=by omega
 have c7:((y:Int) / 72057594037927936%256).toNat=y / 72057594037927936%256:=by omega
 rw[UL,c7,c6,c5,c4,c3,c2,c1,c0];clear c0 c1 c2 c3 c4 c5 c6 c7 hx0 hx1;have s0:y=256*(y / 256)+y%256:=by omega
 have s1:y / 256=256*(y / 65536)+y / 256%256:=by rw[show y / 65536=y / 256 / 256 from by rw[Rz]];omega
 have s2:y / 65536=256*(y / 16777216)+y / 65536%256:=by rw[show y / 16777216=y / 65536 / 256 from by rw[Rz]];omega
 have s3:y / 16777216=256*(y / 4294967296)+y / 16777216%256:=by rw[show y / 4294967296=y / 16777216 / 256 from by rw[Rz]];omega
 have s4:y / 4294967296=256*(y / 1099511627776)+y / 4294967296%256:=by rw[show y / 1099511627776=y / 4294967296 / 256 from by rw[Rz]];omega
 have s5:y / 1099511627776=256*(y / 281474976710656)+y / 1099511627776%256:=by rw[show y / 281474976710656=y / 1099511627776 / 256 from by rw[Rz]];omega
 have s6:y / 281474976710656=256*(y / 72057594037927936)+y / 281474976710656%256:=by rw[show y / 72057594037927936=y / 281474976710656 / 256 from by rw[Rz]];omega
 have s7:y / 72057594037927936%256=y / 72057594037927936:=by omega
 generalize y / 256=z1 at*;generalize y / 65536=z2 at*;generalize y / 16777216=z3 at*;generalize y / 4294967296=z4 at*;generalize y / 1099511627776=z5 at*;generalize y / 281474976710656=z6 at*;generalize y / 72057594037927936=z7 at*;omega
theorem zee (A:Nat)(hA:A<big):sv (bs A).data.toList=A:=by
 have e:(bs A).data.toList=(bn A).map fun n=>QY n.toNat:=by simp[bs,strOfNums]
 have b: ∀x:Int,(QY (x%256).toNat).toNat=(x%256).toNat:=fun x=>zoU _ (by omega) (by omega);rw[e];unfold sv bn;simp only[Q8,Ug,List.foldl_cons,List.foldl_nil,b];rw[zcp _ _ (wd3 A),zcp _ _ (wd2 A),zcp _ _ (wd1 A),zcp _ _ (wd0 A)];have h:=kD A hA;have h0:=wd0 A;have h1:=wd1 A;have h2:=wd2 A;have h3:=wd3 A;unfold Wd at h0 h1 h2 h3;omega
theorem zib: ∀(n:Nat) (a b:List UInt8),a.length=n->b.length=n->sv a=sv b->a=b
 | 0,a,b,ha,hb,_=>by rw[List.length_eq_zero_iff.1 ha,List.length_eq_zero_iff.1 hb]
 | n+1,a,b,ha,hb,h=>by
  rcases List.eq_nil_or_concat a with rfl|⟨a,x,rfl⟩
  ·simp at ha
  rcases List.eq_nil_or_concat b with rfl|⟨b,y,rfl⟩
  ·simp at hb
  simp only[List.concat_eq_append]at ha hb h⊢;rw[zck,zck]at h;have hx:=x.toNat_lt;have hy:=y.toNat_lt;have h1:sv a=sv b:=by omega
  have h2:x.toNat=y.toNat:=by omega
  rw[zib n a b (by simpa using ha) (by simpa using hb) h1,U4.1 h2]
theorem zic {t:Qa}(h:t.size=32):bs (sv (tl t))=t:=by
 have hb:sv (tl t)<big:=xB t (by omega);apply qj;exact zib 32 _ _ (jo _) (by rw[zu,h]) (zee _ hb)
theorem jZ (r s:Nat)(v:Int):(sbs r s v).size=65:=by
 unfold sbs;rw[zcd,zcd,jo,jo];rfl
theorem zcq (r s:Nat)(v:Int):tl (sbs r s v)=tl (bs r)++(tl (bs s)++tl (strOfNums [QG.wrap v])):=by
 unfold sbs;rw[xr,xr,QD]
theorem zoV (r s:Nat)(v:Int):(sbs r s v).extract 0 32=bs r:=by
 apply qj;rw[yT,zcq,Wo];exact List.take_left' (by rw[zu];exact jo r)
theorem zoW (r s:Nat)(v:Int):(sbs r s v).extract 32 64=bs s:=by
 have h1:(tl (bs r)).length=32:=by rw[zu];exact jo r
 have h2:(tl (bs s)).length=32:=by rw[zu];exact jo s
 apply qj;rw[yT,zcq,<-QD,List.take_left' (by rw[Qx];omega),List.drop_left' h1]
theorem zid (r s:Nat)(v:Nat)(hv:v<256):by_ (sbs r s (v:Int)) 64=v:=by
 have h1:(tl (bs r)).length=32:=by rw[zu];exact jo r
 have h2:(tl (bs s)).length=32:=by rw[zu];exact jo s
 unfold by_;rw[zcq,<-QD,QO,List.getElem?_append_right (by rw[Qx];omega),Qx,h1,h2];have e:QG.wrap (v:Int)=(v:Int):=by simp[Wj,Wk,We];omega
 rw[e];show (((tl (strOfNums [(v:Int)]))[0]?).getD 0).toNat=v;have e2:tl (strOfNums [(v:Int)])=[QY v]:=by simp[strOfNums,tl]
 rw[e2];simp;omega
def sgR (t:Qa):Nat:=sv (tl (t.extract 0 32))
def sgS (t:Qa):Nat:=sv (tl (t.extract 32 64))
def sgV (t:Qa):Int:=((by_ t 64:Nat):Int)
theorem zcr {t:Qa}(h:t.size=65):sgR t<big:=xB _ (by rw[Uq];omega)
theorem zcs {t:Qa}(h:t.size=65):sgS t<big:=xB _ (by rw[Uq];omega)
theorem zie {t:Qa}(h:t.size=65):sbs (sgR t) (sgS t) (sgV t)=t:=by
 have hl:(tl t).length=65:=by rw[zu,h]
 apply qj;rw[zcq];unfold sgR sgS sgV;rw[zic (by rw[Uq];omega),zic (by rw[Uq];omega),yT,yT,Wo];have e:tl (strOfNums [QG.wrap ((by_ t 64:Nat):Int)])=(tl t).drop 64:=by
  have hb:=qp t 64;have e1:QG.wrap ((by_ t 64:Nat):Int)=((by_ t 64:Nat):Int):=by simp[Wj,Wk,We];omega
  rw[e1];have e2:tl (strOfNums [((by_ t 64:Nat):Int)])=[QY (by_ t 64)]:=by simp[strOfNums,tl]
  rw[e2,List.drop_eq_getElem_cons (by omega),List.drop_eq_nil_of_le (by omega)];congr 1;unfold by_;rw[QO,Qr (by omega:64<(tl t).length)];simp
 rw[e];have h1:((tl t).take 64).drop 32++(tl t).drop 64=(tl t).drop 32:=by
  rw[List.drop_take];have:(tl t).drop 64=((tl t).drop 32).drop 32:=by rw[List.drop_drop]
  rw[this];exact VV 32 _
 rw[h1];exact VV 32 _
theorem zoX {r s:Nat}{v:Int}(h:zP r s v=true):v=0\/v=1:=by
 unfold zP at h;rw[Qu,Bool.or_eq_true,decide_eq_true_iff,decide_eq_true_iff]at h;exact h.2
theorem zoY {r s:Nat}{v:Int}(h:zP r s v=true):r≠0:=fun e=>by
 subst e;unfold zP at h;rw[znH]at h;simp at h
theorem zaO {r s:Nat}{v:Int}(hr:r<big):sgR (sbs r s v)=r:=by
 unfold sgR;rw[zoV];exact zee r hr
theorem zaP {r s:Nat}{v:Int}(hs:s<big):sgS (sbs r s v)=s:=by
 unfold sgS;rw[zoW];exact zee s hs
theorem zaQ {r s:Nat}{v:Int}(h:zP r s v=true):sgV (sbs r s v)=v:=by
 unfold sgV;rcases zoX h with rfl | rfl
 ·exact congrArg (Nat.cast:Nat->Int) (zid r s 0 (by decide))
 ·exact congrArg (Nat.cast:Nat->Int) (zid r s 1 (by decide))
theorem zef (t:Qa):vX t=if t.size=65/\zP (sgR t) (sgS t) (sgV t)=true then .tuple #[sgv (sgR t) (sgS t) (sgV t),.int .i64 0] else .tuple #[sgv 0 0 0,.int .i64 4]:=by
 unfold vX;by_cases h:t.size=65
 ·rw[if_neg (fun h9=>h9 h)];by_cases hm:zP (sgR t) (sgS t) (sgV t)=true
  ·rw[if_pos (show t.size=65/\zP (sgR t) (sgS t) (sgV t)=true from ⟨h,hm⟩)];exact if_pos hm
  ·rw[if_neg (show ¬(t.size=65/\zP (sgR t) (sgS t) (sgV t)=true) from fun h9=>hm h9.2)];exact if_neg hm
 ·rw[if_pos h,if_neg (fun h9=>h h9.1)]
theorem zoZ (r s:Nat)(v:Int)(r' s':Nat)(v':Int)(hr:r<big)(hs:s<big)(hr':r'<big)(hs':s'<big)(w:World):(UR 10000 52 (.agg (Qn (sgv r s v))) (.agg (Qn (sgv r' s' v')))).run Tryz.prog w=.ok (decide (r=r')&&(decide (s=s')&&(v==v'))) w:=by
 rw[run_equalIn_struct w 9999 52 _ _ kr kr,
  show (Tryz.prog.fieldsOf 52).toList= [{ name:= "R",type:=50,offset:=0,embedded:=false,tag:= "",pkgPath:= "",byteOffset:=0 },{ name:= "S",type:=50,offset:=4,embedded:=false,tag:= "",pkgPath:= "",byteOffset:=32 },{ name:= "V",type:=3,offset:=8,embedded:=false,tag:= "",pkgPath:= "",byteOffset:=64 }] by kernel_rfl]
 have px: ∀r s v,(part 50 (Qn (sgv r s v)) 0).run Tryz.prog w=.ok (uv r) w:=fun r s v=>by kernel_rfl
 have py: ∀r s v,(part 50 (Qn (sgv r s v)) 4).run Tryz.prog w=.ok (uv s) w:=fun r s v=>by kernel_rfl
 have pb: ∀r s v,(part 3 (Qn (sgv r s v)) 8).run Tryz.prog w=.ok (.int .i64 v) w:=fun r s v=>by kernel_rfl
 have ex: ∀r r':Nat,r<big->r'<big->(UR 9999 50 (uv r) (uv r')).run Tryz.prog w=.ok (decide (r=r')) w:=fun r r' hr hr'=>by
  have h9:=zdu hr hr';rw[<-h9];exact zdr 9997 _ _ _ _ _ _ _ _ w
 have eb:(UR 9999 3 (.int .i64 v) (.int .i64 v')).run Tryz.prog w=.ok (v==v') w:=by
  rw[run_equalIn_int w 9998 3 .i64 .i64 v v' Tryz.underlying3]
 have n1:("R" :String)≠ "_" :=by decide
 have n2:("S" :String)≠ "_" :=by decide
 have n3:("V" :String)≠ "_" :=by decide
 simp only[Op.eqFields,if_pos n1,if_pos n2,if_pos n3,Sem.run_bind,px,py,pb,Result.andThen_ok,ex r r' hr hr',ex s s' hs hs',eb,Sem.run_ite];by_cases h1:r=r'
 ·by_cases h2:s=s'
  ·cases h3:(v==v')<;>simp[h1,h2]
  ·simp[h1,h2]
 ·simp[h1]
theorem zeg {ρ:Env}(r s:Nat)(v:Int)(r' s':Nat)(v':Int)(hr:r<big)(hs:s<big)(hr':r'<big)(hs':s'<big){x y:Operand}{o:Oper}(w:World)(ho:o.op=.binOp .neq 52 x y 52)(hx:ev ρ x=.agg (Qn (sgv r s v)))(hy:ev ρ y=.agg (Qn (sgv r' s' v'))):
 (execOp (ev ρ) o).run Tryz.prog w=.ok (.value (.bool (!(decide (r=r')&&(decide (s=s')&&(v==v')))))) w:=by
 have h:=zoZ r s v r' s' v' hr hs hr' hs' w;generalize Qn (sgv r s v)=X at h hx;generalize Qn (sgv r' s' v')=Y at h hy;unfold execOp;simp only[ho,hx,hy,resolve,Sem.run_bind,Sem.run_pure,Result.andThen_ok,run_eqGuard_agg w _ _ _ _ _ _ (show Tryz.prog.eqGuardType Tryz.prog.depth 52=false by kernel_rfl),run_eql_struct,run_neq_struct,h]
abbrev je:Qa:=⟨#[97,110,110,115]⟩
def xC:Qi:=[⟨#[97]⟩,⟨#[110]⟩,⟨#[110]⟩,⟨#[115]⟩]
theorem jp:kN je xC:=⟨by decide,by kernel_rfl,by kernel_rfl,by kernel_rfl,List.all_eq_true.1 (show xC.all kdOk=true by kernel_rfl)⟩
def txF (to:Qa)(a n:Nat)(sg:Qa):Fe:=.cons (0,to) .nil (.cons (a,em) .nil (.cons (n,em) .nil (.cons (0,sg) .nil .nil)))
theorem uH (m sz ln:Nat):zw 97 0 m sz ln=(decide (m=0)&&(decide (sz=20)&&decide (ln=0))):=by
 unfold zw qe yr yz;rw[RM];simp<;>omega
theorem zct (m sz ln:Nat):zw 115 0 m sz ln=(decide (m=0)&&(decide (sz=65)&&decide (ln=0))):=by
 unfold zw qe yr yz;rw[RM];simp<;>omega
theorem zcu (m sz ln:Nat):zw 110 0 m sz ln=(decide (sz=0)&&decide (ln=0)):=by
 unfold zw qe yr yz;rw[RM];simp<;>omega
theorem zif (m sz ln:Nat):zw 98 0 m sz ln=(decide (m=0)&&(decide (sz<=64)&&decide (ln=0))):=by
 unfold zw qe yr yz;rw[RM];simp<;>omega
theorem xQ (g:Nat)(q:Qa)(x:Nat×Qa)(l:Fe)(hg:by_ q 0=g)(h:g≠42):qv q x l=zw g 0 x.1 x.2.size l.len:=by
 have e:kdB q=.nil:=by unfold kdB;rw[hg,if_neg h]
 unfold qv;rw[e,hg,beq_eq_false_iff_ne.2 h];simp[Fr.len]
theorem zcv (l:Fe):yo xC l=true↔ ∃(to:Qa) (a n:Nat) (sg:Qa),l=txF to a n sg/\to.size=20/\sg.size=65:=by
 constructor
 ·intro h;unfold xC at h
  match l,h with
  | .cons x1 l1 (.cons x2 l2 (.cons x3 l3 (.cons x4 l4 .nil))),h=>
   simp only[yo,xQ 97 ⟨#[97]⟩ x1 l1 rfl (by decide),xQ 110 ⟨#[110]⟩ x2 l2 rfl (by decide),xQ 110 ⟨#[110]⟩ x3 l3 rfl (by decide),xQ 115 ⟨#[115]⟩ x4 l4 rfl (by decide),uH,zct,zcu,Qu,decide_eq_true_eq]at h;obtain⟨⟨h1,h2,h3⟩,⟨h4,h5⟩,⟨h6,h7⟩,⟨h8,h9,h10⟩,_⟩:=h;obtain⟨m1,s1⟩:=x1;obtain⟨m2,s2⟩:=x2;obtain⟨m3,s3⟩:=x3;obtain⟨m4,s4⟩:=x4;obtain rfl:=Fr.len_zero h3;obtain rfl:=Fr.len_zero h5;obtain rfl:=Fr.len_zero h7;obtain rfl:=Fr.len_zero h10;obtain rfl:=jN h4;obtain rfl:=jN h6;simp only at h1 h8;subst h1 h8;exact⟨s1,m2,m3,s4,rfl,h2,h9⟩
  | .nil,h=>exact nomatch h
  | .cons _ _ .nil,h=>simp[yo]at h
  | .cons _ _ (.cons _ _ .nil),h=>simp[yo]at h
  | .cons _ _ (.cons _ _ (.cons _ _ .nil)),h=>simp[yo]at h
  | .cons _ _ (.cons _ _ (.cons _ _ (.cons _ _ (.cons _ _ _)))),h=>simp[yo]at h
 ·rintro⟨to,a,n,sg,rfl,h1,h2⟩;unfold xC txF;simp only[yo,xQ 97 ⟨#[97]⟩ _ _ rfl (by decide),xQ 110 ⟨#[110]⟩ _ _ rfl (by decide),xQ 115 ⟨#[115]⟩ _ _ rfl (by decide),uH,zct,zcu,h1,h2];rfl
theorem zo0 (to:Qa)(a n:Nat)(sg:Qa):(txF to a n sg).cnt=4:=rfl
def yQ (to:Qa)(r s:Nat)(v:Int):Bool:=decide (to.size=20)&&zP r s v
def txW (to:Qa)(a n r s:Nat)(v:Int):Qa×Nat:=wrV je (txF to a n (if zP r s v=true then sbs r s v else em))
theorem zo1 {to:Qa}{a n r s:Nat}{v:Int}(h:yQ to r s v=false):txW to a n r s v=(em,1):=by
 unfold txW;rw[zaM jp,if_neg];rintro⟨h1,_⟩;obtain⟨to',a',n',sg',e,h2,h3⟩:=(zcv _).1 h1;unfold txF at e;injection e with e1 _ e2;injection e2 with _ _ e3;injection e3 with _ _ e4;injection e4 with e5
 injection e1 with _ e6;injection e5 with _ e7
 unfold yQ at h;subst e6;rw[decide_eq_true h2,UJ]at h;rw[h]at e7;rw[if_neg (by decide)]at e7;rw[<-e7]at h3;cases h3
theorem ke {to:Qa}{a n r s:Nat}{v:Int}(h:yQ to r s v=true):txW to a n r s v=wrV je (txF to a n (sbs r s v)):=by
 unfold yQ at h;rw[Qu]at h;unfold txW;rw[if_pos h.2]
theorem zeh {to to':Qa}{a a' n n':Nat}{sg sg':Qa}(h:txF to a n sg=txF to' a' n' sg'):to=to'/\a=a'/\n=n'/\sg=sg':=by
 unfold txF at h;injection h with e1 _ e2;injection e2 with e3 _ e4;injection e4 with e5 _ e6;injection e6 with e7
 injection e1 with _ e1;injection e3 with e3 _;injection e5 with e5 _;injection e7 with _ e7
 exact⟨e1,e3,e5,e7⟩
def hv:List UInt8->List UInt8
 | []=>[]
 | b::t=>(b >>> 4)::(b &&& 15)::hv t
def isP (l:List UInt8):Bool:=l.all fun b=>decide (b.toNat<=15)
def jn:List UInt8->List UInt8
 | a::b::t=>(a <<< 4 ||| b)::jn t
 | _=>[]
def lexB:List UInt8->List UInt8->Bool
 | [],[]=>false
 | [],_::_=>true
 | _::_,[]=>false
 | a::l,b::m=>if a.toNat<b.toNat then true else if a=b then lexB l m else false
theorem zo2 (l:List UInt8):lexB l []=false:=by cases l<;>rfl
theorem zei: ∀l:List UInt8,lexB l l=false
 | []=>rfl
 | a::l=>by simp only[lexB,V1,if_false,if_true];exact zei l
theorem zig {a b:UInt8}{l m:List UInt8}(h:lexB (a::l) (b::m)=true):a.toNat<b.toNat\/(a=b/\lexB l m=true):=by
 unfold lexB at h;split at h
 ·rename_i q;exact .inl q
 ·split at h
  ·rename_i q;exact .inr ⟨q,h⟩
  ·cases h
theorem zo3 {x y z:List UInt8} :lexB x y=true->lexB y z=true->lexB x z=true:=by
 induction x generalizing y z with
 | nil=>
  intro h1 h2;cases z with
  | nil=>rw[zo2]at h2;cases h2
  | cons c z=>rfl
 | cons a x ih=>
  intro h1 h2;cases y with
  | nil=>cases h1
  | cons b y=>
   cases z with
   | nil=>cases h2
   | cons c z=>
    unfold lexB;rcases zig h1 with q1 | ⟨rfl,q1⟩<;>rcases zig h2 with q2 | ⟨rfl,q2⟩
    ·rw[if_pos (by omega)]
    ·rw[if_pos q1]
    ·rw[if_pos q2]
    ·rw[if_neg (V1 _),if_pos rfl];exact ih q1 q2
structure Nd where
 kind:Int
 part:Qa
 value:Qa
 kids:List Int
def kyB (l:List UInt8):Bool:=isP l&& !decide (l.length%2=1)
def kyS (l:List UInt8):Qa:=bif kyB l then zg (jn l) else ⟨#[]⟩
theorem zih {P:Program}{ρ:Env}{t e:TypeId}{size bytes:Nat}(ht:yp P t=some (e,size,bytes)){x z:Operand}{o:Oper}{kz:IntKind}(b q n c j:Nat)(ho:o.op=.slice t x (some z) none none)(hx:ev ρ x=.slice (some ⟨b,q,none⟩) n c)
 (hz:ev ρ z=.int kz (j:Int)) (hj:j<=n) (hn:n<=c):
 ∀w,(execOp (ev ρ) o).run P w=.ok (.value (.slice (some ⟨b,if c=j then q else q+j*size,none⟩) (n-j) (c-j))) w:=fun w=>by
 obtain⟨it,z',hu,hi,hz',hsz,hby,hzs,h0⟩:=qi ht;have hS:(sizeOf e).run P w=.ok size w:=by simp[sizeOf,typeInfo,hi,hsz]
 unfold execOp;by_cases hc:c=j
 ·have hnj:n=j:=by omega
  subst hc hnj;simp[ho,hx,hz,UT,U9,Uu,UK,asIntOf,run_underlying hu,hS]
 ·simp[ho,hx,hz,UT,U9,Uu,UK,asIntOf,run_underlying hu,hS,hj,qh,hc]
section
variable {P:Program}{N:Nat}{ops:Array Oper}{i:Nat}{r:List Nat}{K:Env->World->Prop}{ρ:Env}{w:World}
end
abbrev Pr:=Qa×Qa
def mayM (k v:Qa):Bool:=(decide (1<=k.size)&&decide (k.size<=32))&&(decide (1<=v.size)&&decide (v.size<=500))
def zo4 (part:List UInt8)(v:Qa)(ps:List Pr):List Pr:=if mayM (kyS part) v=true then ps++ [(kyS part,v)] else ps
def zo5 (kind:Int)(i:Nat):List UInt8:=if kind=3 then [QY i] else []
def zej (go:Int->List UInt8->Nat×List Pr->Nat×List Pr)(x:Nd)(part:List UInt8):Nat->Nat×List Pr->Nat×List Pr
 | 0,s=>s
 | i+1,s=>if x.kids.getD i (-1)= -1 then zej go x part i s else go (x.kids.getD i (-1)) (part++zo5 x.kind i) (zej go x part i s)
def zii (A:List Nd):Nat->Int->List UInt8->Nat×List Pr->Nat×List Pr
 | 0,_,_,s=>s
 | f+1,at_,ahead,s=>
  if s.1=0\/at_<0\/(A.length:Int)<=at_ then s
  else match A[at_.toNat]? with
   | none=>s
   | some x=>if 64<ahead.length+x.part.size then (s.1-1,s.2)
    else zej (zii A f) x (ahead++tl x.part) 16 (s.1-1,zo4 (ahead++tl x.part) x.value s.2)
section
variable {P:Program}{N:Nat}{ops:Array Oper}{i:Nat}{r:List Nat}{K:Env->World->Prop}{ρ:Env}{w:World}
end
theorem zij: ∀x y:List UInt8,VQ x y=lexB x y
 | [],[]=>rfl
 | [],_::_=>rfl
 | _::_,[]=>rfl
 | a::x,b::y=>by
  unfold VQ lexB;rw[zij x y];by_cases h:a.toNat<b.toNat
  ·rw[if_pos h,decide_eq_true (show a<b from h)];rfl
  ·rw[if_neg h,decide_eq_false (show ¬a<b from h)];by_cases e:a=b
   ·rw[if_pos e,e];simp
   ·rw[if_neg e];simp[e]
theorem zek (a b:Qa):VQ a.toList b.toList=lexB (tl a) (tl b):=by
 rw[ByteArray.toList_eq,ByteArray.toList_eq];exact zij _ _
def zsz (A:List Nd)(root:Int):List Pr:=(zii A 192 root [] (192,[])).2
structure OkP (L:List Pr):Prop where
 len:L.length<=64
 may: ∀x∈L,mayM x.1 x.2=true
 rise:L.Pairwise fun a b=>lexB (tl a.1) (tl b.1)=true
theorem yZ {α:Type}{L:List α}{i:Nat}{a:α}(ha:L[i]? =some a):L.take (i+1)=L.take i++ [a]:=by
 rw[VC,ha];rfl
theorem zik: ∀ {x y:List UInt8},lexB x y=false->x≠y->lexB y x=true
 | [],[],_,h=>absurd rfl h
 | [],_::_,h,_=>by simp[lexB]at h
 | _::_,[],_,_=>rfl
 | a::x,b::y,h,hne=>by
  unfold lexB at h⊢;by_cases e:a=b
  ·subst e;have hlt: ¬a.toNat<a.toNat:=V1 _;simp only[V1,if_false,if_true]at h⊢;exact zik h fun e=>hne (by rw[e])
  ·have hn:a.toNat≠b.toNat:=fun q=>e (U4.1 q);by_cases c:b.toNat<a.toNat
   ·rw[if_pos c]
   ·have:a.toNat<b.toNat:=by omega
    rw[if_pos this]at h;cases h
def upB:Option Qa->Qa->Bool
 | none,_=>true
 | some p,a=>lexB (tl p) (tl a)
theorem zcw {α:Type}{L:List α}{i:Nat}{x:α}(h:L[i]? =some x):L.drop i=x::L.drop (i+1):=by
 obtain⟨hi,rfl⟩:=List.getElem?_eq_some_iff.1 h;exact(List.getElem_cons_drop (h:=hi)).symm
theorem zo6 (form:Qa)(i:Nat)(op:Int)(hi:i<form.size)(hz:form.size<=1000)(hc:by_ form i=110):Fn Tryz.prog 115 #[.string form,iN i,.int .i64 op] (iN (i+1)):=by
 refine zv [.tmp 6] 72 Tryz.func115 fun w=>rS [.v] (St.start w) kr fun gs1 w1 H1=>za kr<|rS [.v,.v,.v,itF ((form.size:Int)<=(i:Int))] H1 kr fun gs2 w2 H2=>zi kr kr<|zj kr<|wW<|rS [.v,.v,.oe (ins:=[((.tmp 12),.string form),((.tmp 13),iN i)]) (v:=.int .u8 ((by_ form i:Nat):Int)) (v':=.int .u8 110) (fun ρ o w ho hi2=>yy (t:=9) (kd:=.i64) kr (x:=(.tmp 12)) (y:=(.tmp 13)) form i ho hi2.1 hi2.2.1 hi w) (by rw[hc];rfl),.v] H2 kr fun gs3 w3 H3=>za kr<|rS [.v,.v,.v,.n,.n,.v,.v,.n,.n,.v,.v,.n,.n,.v,.v,.n,.n,.v] H3 kr fun gs4 w4 H4=>zh kr kr<|rS [.v,itI i 1,.v] H4 kr fun gs5 w5 H5=>?_;exact rR [.tmp 6] [] (iN (i+1)) H5 kr
theorem zo7 (form:Qa)(i:Nat)(op:Int)(hi:i<form.size)(hz:form.size<=1000)(hc:by_ form i=104):Fn Tryz.prog 115 #[.string form,iN i,.int .i64 op] (iN (i+1)):=by
 refine zv [.tmp 6] 72 Tryz.func115 fun w=>rS [.v] (St.start w) kr fun gs1 w1 H1=>za kr<|rS [.v,.v,.v,itF ((form.size:Int)<=(i:Int))] H1 kr fun gs2 w2 H2=>zi kr kr<|zj kr<|wW<|rS [.v,.v,.oe (ins:=[((.tmp 12),.string form),((.tmp 13),iN i)]) (v:=.int .u8 ((by_ form i:Nat):Int)) (v':=.int .u8 104) (fun ρ o w ho hi2=>yy (t:=9) (kd:=.i64) kr (x:=(.tmp 12)) (y:=(.tmp 13)) form i ho hi2.1 hi2.2.1 hi w) (by rw[hc];rfl),.v] H2 kr fun gs3 w3 H3=>za kr<|rS [.v,.v,.v,.v,.v,.v,.v,.n,.n,.v,.v,.n,.n,.v,.v,.n,.n,.v] H3 kr fun gs4 w4 H4=>zh kr kr<|rS [.v,itI i 1,.v] H4 kr fun gs5 w5 H5=>?_;exact rR [.tmp 6] [] (iN (i+1)) H5 kr
theorem zo8 (form:Qa)(i:Nat)(op:Int)(hi:i<form.size)(hz:form.size<=1000)(hc:by_ form i=97):Fn Tryz.prog 115 #[.string form,iN i,.int .i64 op] (iN (i+1)):=by
 refine zv [.tmp 6] 72 Tryz.func115 fun w=>rS [.v] (St.start w) kr fun gs1 w1 H1=>za kr<|rS [.v,.v,.v,itF ((form.size:Int)<=(i:Int))] H1 kr fun gs2 w2 H2=>zi kr kr<|zj kr<|wW<|rS [.v,.v,.oe (ins:=[((.tmp 12),.string form),((.tmp 13),iN i)]) (v:=.int .u8 ((by_ form i:Nat):Int)) (v':=.int .u8 97) (fun ρ o w ho hi2=>yy (t:=9) (kd:=.i64) kr (x:=(.tmp 12)) (y:=(.tmp 13)) form i ho hi2.1 hi2.2.1 hi w) (by rw[hc];rfl),.v] H2 kr fun gs3 w3 H3=>za kr<|rS [.v,.v,.v,.v,.v,.v,.v,.v,.v,.v,.v,.n,.n,.v,.v,.n,.n,.v] H3 kr fun gs4 w4 H4=>zh kr kr<|rS [.v,itI i 1,.v] H4 kr fun gs5 w5 H5=>?_;exact rR [.tmp 6] [] (iN (i+1)) H5 kr
theorem zo9 (form:Qa)(i:Nat)(op:Int)(hi:i<form.size)(hz:form.size<=1000)(hc:by_ form i=115):Fn Tryz.prog 115 #[.string form,iN i,.int .i64 op] (iN (i+1)):=by
 refine zv [.tmp 6] 72 Tryz.func115 fun w=>rS [.v] (St.start w) kr fun gs1 w1 H1=>za kr<|rS [.v,.v,.v,itF ((form.size:Int)<=(i:Int))] H1 kr fun gs2 w2 H2=>zi kr kr<|zj kr<|wW<|rS [.v,.v,.oe (ins:=[((.tmp 12),.string form),((.tmp 13),iN i)]) (v:=.int .u8 ((by_ form i:Nat):Int)) (v':=.int .u8 115) (fun ρ o w ho hi2=>yy (t:=9) (kd:=.i64) kr (x:=(.tmp 12)) (y:=(.tmp 13)) form i ho hi2.1 hi2.2.1 hi w) (by rw[hc];rfl),.v] H2 kr fun gs3 w3 H3=>za kr<|rS [.v,.v,.v,.v,.v,.v,.v,.v,.v,.v,.v,.v,.v,.v,.v,.n,.n,.v] H3 kr fun gs4 w4 H4=>zh kr kr<|rS [.v,itI i 1,.v] H4 kr fun gs5 w5 H5=>?_;exact rR [.tmp 6] [] (iN (i+1)) H5 kr
theorem zpa (form:Qa)(i:Nat)(op:Int)(hi:i<form.size)(hz:form.size<=1000)(hc:by_ form i=98):Fn Tryz.prog 115 #[.string form,iN i,.int .i64 op] (iN (i+1)):=by
 refine zv [.tmp 6] 72 Tryz.func115 fun w=>rS [.v] (St.start w) kr fun gs1 w1 H1=>za kr<|rS [.v,.v,.v,itF ((form.size:Int)<=(i:Int))] H1 kr fun gs2 w2 H2=>zi kr kr<|zj kr<|wW<|rS [.v,.v,.oe (ins:=[((.tmp 12),.string form),((.tmp 13),iN i)]) (v:=.int .u8 ((by_ form i:Nat):Int)) (v':=.int .u8 98) (fun ρ o w ho hi2=>yy (t:=9) (kd:=.i64) kr (x:=(.tmp 12)) (y:=(.tmp 13)) form i ho hi2.1 hi2.2.1 hi w) (by rw[hc];rfl),.v] H2 kr fun gs3 w3 H3=>za kr<|rS [.v,.v,.v,.v,.v,.v,.v,.v,.v,.v,.v,.v,.v,.v,.v,.v,.v,.v] H3 kr fun gs4 w4 H4=>zh kr kr<|rS [.v,itI i 1,.v] H4 kr fun gs5 w5 H5=>?_;exact rR [.tmp 6] [] (iN (i+1)) H5 kr
theorem zil (form:Qa)(i:Nat)(op:Int)(hi:i<form.size)(hz:form.size<=1000)(hc:yD (by_ form i)=true):Fn Tryz.prog 115 #[.string form,iN i,.int .i64 op] (iN (i+1)):=by
 rcases xy.1 hc with h|h|h|h|h
 ·exact zo6 form i op hi hz h
 ·exact zo7 form i op hi hz h
 ·exact zo8 form i op hi hz h
 ·exact zo9 form i op hi hz h
 ·exact zpa form i op hi hz h
theorem zpb (form:Qa)(i:Nat)(hi:i+1<form.size)(hz:form.size<=1000)(hc:by_ form i=42)(hn:yD (by_ form (i+1))=true):Fn Tryz.prog 115 #[.string form,iN i,.int .i64 0] (iN (i+2)):=by
 have hi1:i<form.size:=by omega
 refine zv [.tmp 6] 72 Tryz.func115 fun w=>rS [.v] (St.start w) kr fun gs1 w1 H1=>za kr<|rS [.v,.v,.v,itF ((form.size:Int)<=(i:Int))] H1 kr fun gs2 w2 H2=>zi kr kr<|zj kr<|wW<|rS [.v,.v,.oe (ins:=[((.tmp 12),.string form),((.tmp 13),iN i)]) (v:=.int .u8 ((by_ form i:Nat):Int)) (v':=.int .u8 42) (fun ρ o w ho hi2=>yy (t:=9) (kd:=.i64) kr (x:=(.tmp 12)) (y:=(.tmp 13)) form i ho hi2.1 hi2.2.1 hi1 w) (by rw[hc];rfl),.v] H2 kr fun gs3 w3 H3=>za kr<|rS [.v,.v,.v,.v,.v,.v,.v,.v,.v,.v,.v,.v,.v,.v,.v,.v,.v,.v] H3 kr fun gs4 w4 H4=>zi kr kr<|zj kr<|wW<|za kr<|rS [.v,.v] H4 kr fun gs5 w5 H5=>zi kr kr<|zj kr<|wW<|za kr<|rS [.v,.v] H5 kr fun gs6 w6 H6=>zh kr kr<|rS [.v,.v,itI i 1,.v,.v,.c (zil form (i+1) 1 (by omega) hz hn),.v] H6 kr fun gs7 w7 H7=>?_;exact rR [.tmp 6] [] (iN (i+2)) H7 kr
theorem zpc (form:Qa)(i:Nat)(hi:i<form.size)(hz:form.size<=1000)(h:yD (by_ form i)=true\/(by_ form i=42/\i+1<form.size/\yD (by_ form (i+1))=true)):Fn Tryz.prog 115 #[.string form,iN i,.int .i64 0] (iN (nxK form i)):=by
 rcases h with h|⟨h1,h2,h3⟩
 ·have:nxK form i=i+1:=by unfold nxK;rw[if_neg];rw[xy]at h;omega
  rw[this];exact zil form i 0 hi hz h
 ·have:nxK form i=i+2:=by unfold nxK;rw[if_pos h1]
  rw[this];exact zpb form i h2 hz h1 h3
theorem zpd {form:Qa}{i:Nat}(hi:i<form.size)(h:yD (by_ form i)=true\/(by_ form i=42/\i+1<form.size/\yD (by_ form (i+1))=true)):i<nxK form i/\nxK form i<=form.size:=by
 unfold nxK;rcases h with h | ⟨h1,h2,h3⟩
 ·rw[if_neg (by rw[xy]at h;omega)];omega
 ·rw[if_pos h1];omega
def zim (ks:Qi)(v:Value)(T:Qb):Prop:=∃(p:Qc) (n c:Nat),v=.tuple #[.slice p n c,.bool true]/\yl sS 9 p n c T ks
theorem zel (form:Qa)(ks:Qi)(hF:kN form ks):FnT Tryz.prog 82 #[.string form] (fun _=>True) (zim ks):=by
 have hz:=hF.size;refine qz [.tmp 2,.tmp 3] 31 Tryz.func82 fun w _=>?_;have H0:=St.start w;refine rS [.v,.v] H0 kr fun gs1 w1 H1=>rS [.nw (fun b=>Qf b 0 0) #[] 9,.v] H1 kr fun gs2 w2 H2=>za kr<|rS [.v,.v,itF (40<(form.size:Int))] H2 kr fun gs3 w3 H3=>zi kr kr<|zj kr<|wW<|rS [.v] H3 kr fun gs4 w4 H4=>za kr<|zm 0 kr ?_;have H5:St w.heap.size w w4 [((gs2 0).b,.cells #[] 9 (0,0))]:=H4.as kr;refine zO kr (fun mz ρ ww=> ∃(i f:Nat) (M:Qi) (bo N cap:Nat) (cur:Qd),form.size-i=mz/\i<=form.size/\N=M.length/\N<=i/\form.size<i+f/\okK form f i=true/\M++ksM form f i=ks/\Rw 1 cur cap N (cellsF sS M)/\St w.heap.size w ww [(bo,.cells cur 9)]/\Is [(0,.string form),(4,Qf bo N cap),(5,iN i)] ρ) (form.size-0) ⟨0,41,[],(gs2 0).b,0,0,#[],rfl,QU _,rfl,QU _,by omega,hF.ok,hF.cut,⟨rfl,QH _,by unfold maxLen;omega,rfl,rfl⟩,H5,zl⟩ ?_;clear H0 H1 H2 H3 H4 H5;rintro _ _ w5 ⟨i,f,M,bo,N,cap,cur,rfl,hi0,hNM,hNi,hf,hok,hks,hRw,H6,_,rfl⟩;refine za kr<|za kr ?_;by_cases hi:i<form.size
 ·obtain⟨f',rfl⟩:=znk hok hi;obtain⟨h1,h2⟩:=zni hok hi;have hnx:=zpd hi h1;have hk1:ksM form (f'+1) i=form.extract i (nxK form i)::ksM form f' (nxK form i):=by rw[ksM,if_pos hi]
  refine rL [.v,.v,.v,itT ((i:Int)<(form.size:Int))] H6 kr fun gs6 w6 H7=>wW<|zh kr kr<|zj kr<|wW<|zm 1 kr<|rS [.v,.v,.c (zpc form i hi (by omega) h1),.v] H7 kr fun gs7 w7 H8=>za kr<|za kr<|rL [.v,itF (((nxK form i:Nat):Int)<0)] H8 kr fun gs8 w8 H9=>wW<|zi kr kr<|zj kr<|wW<|zd [0,1,2,3,4,5,6,7] kr kr<|rp [.v,.v,.v,.v,.o (ins:=[((.tmp 23),.string form),((.tmp 24),iN i),((.tmp 25),iN (nxK form i))]) (v:=.string (form.extract i (nxK form i))) (fun ρ o w ho hi2=>vN (t:=9) (kd:=.i64) (kz:=.i64) kr (x:=(.tmp 23)) (y:=(.tmp 25)) (z:=(.tmp 24)) form i (nxK form i) ho hi2.1 hi2.2.2.1 hi2.2.1 (by omega) (by omega) w)] H9 kr fun gs9 w9 H10=>wX [5,6,7] ?_;have H11:St w.heap.size w w9 [(bo,.cells cur 9)]:=H10.as kr;refine jT H11 (some 27) (fun b=>Qf b 1 1) (sS.cs (form.extract i (nxK form i))).toArray 9 kr kr ?_;intro nb w10 H12;refine xL (S:=sS) (M:=M) (y:=form.extract i (nxK form i)) (row:=[(bo,.cells cur 9)]) (Z:=[]) (some 28) 23 9 16 (.tmp 22) (.tmp 27) H12 (.inr ⟨bo,cur,rfl,rfl,hRw⟩) kr kr kr kr kr (by omega) (by unfold maxLen;omega) ?_;intro b' cap' cur' w11 H13 hRw';refine rp [.v] H13 kr fun gs10 w12 H14=>wX []<|zb<|wW<|rL [.v,.v] H14 kr fun gs11 w13 H15=>?_;show ∃m,_/\_;refine⟨_,(by omega:form.size-nxK form i<form.size-i),nxK form i,f',M++ [form.extract i (nxK form i)],b',N+1,cap',cur',rfl,hnx.2,by rw[Qx,<-hNM];rfl,by omega,by omega,h2,?_,hRw',H15.as kr,zl⟩;rw[QD,List.singleton_append,<-hk1];exact hks
 ·have hk1:ksM form f i=[]:=znj hok (by omega) hi;rw[hk1,QI]at hks;refine rL [.v,.v,.v,itF ((i:Int)<(form.size:Int))] H6 kr fun gs6 w6 H7=>wW<|zi kr kr<|zE 0 kr<|wW<|rS [.v,.v,.v] H7 kr fun gs7 w7 H8=>rRr [.tmp 2,.tmp 3] [] (.tuple #[Qf bo N cap,.bool true]) (zV w.heap.size w (zim ks)) H8 kr ?_;have H9:St w.heap.size w w7 [(bo,.cells cur 9)]:=H8.as kr;subst hks;exact⟨_,⟨_,_,_,rfl,.inr ⟨bo,cur,rfl,rfl,hRw⟩⟩,H9⟩
end Go.Proofs.YtcjejfklpegobaaGreatDoor
