/-
  Texts of the proof,part 3.
-/
import Derived.Test.YtdlllbaejgoncaaProg
import Derived.MapKept
import Derived.Test.YtdlllbaejgoncaaVK1
import Derived.Test.YtdlllbaejgoncaaVK2
set_option maxRecDepth 100000
set_option maxHeartbeats 4000000
set_option linter.unusedVariables false
open Go Go.RowKit
open Bool renaming and_eq_true->Qk,false_ne_true->QN,eq_false_iff->QR,eq_iff_iff->Ue
open Instr renaming findNow->Uq,sameNow->Ur
open IntKind renaming i64->Qm
open List renaming getElem?_eq_getElem->Qj,mem_of_getElem?->Qo,sublist_cons_self->Qp,getElem?_eq_some_iff->Qr,length_take->Qv,sublist_append_right->Qy,drop_of_length_le->Qz,take_of_length_le->QA,length_append->QD,mem_cons->QJ,append_assoc->QK,filter_append->Q2,mem_cons_of_mem->Q4,perm_append_comm_assoc->Q6,getElem?_eq_none->Q7,filter_cons_of_neg->Q8,filter_eq_self->Ra,drop_drop->Rb,length_cons->Rq,length_filter_le->Ry,perm_append_comm->RA,filter_cons_of_pos->RG,getElem?_take->RY,ext_getElem?->R0,mem_append_left->R5,take_take->R7,getElem?_drop->Uh,nil_sublist->Uk,toList_toArray->UK
open List.Perm renaming append_left->RT,cons->Uw,swap->Ux
open List.Sublist renaming cons_cons->QH,append->Re,refl->Rn,cons->RE
open MapKept renaming run_getObj_map->RU,run_checkKey->RZ,run_findKey->R4
open Nat renaming le_refl->Qs,zero_add->Qu,le_of_ble_eq_true->Qw,mul_le_mul_right->QO,zero_le->Q5,min_eq_left->Rk,le_trans->Rp,add_zero->RD,not_lt_zero->RI,lt_succ_self->RR,add_mul->Ug
open Obj renaming cells->Qx
open Result renaming andThen_ok->QC,andThen->Uo
open Sem renaming run_bind->QT
open _root_.ByteArray renaming size->Qq
namespace Go.Proofs.Ytdlllbaejgoncaa
section
open D2 (Gh)
theorem up {ρ:Env}(x y:Bal){s t:Operand}{o:Oper}(w:World)(ho:o.op=.binOp .eql 27 s t 27)(hx:ev ρ s=blV x)(hy:ev ρ t=blV y):
 (execOp (ev ρ) o).run Try.prog w=.ok (.value (.bool (decide (x=y)))) w:=by
 have h:=zaV x y w;change ev ρ s=.agg (blC x)at hx;change ev ρ t=.agg (blC y)at hy;change (Op.equalIn 10000 27 (.agg (blC x)) (.agg (blC y))).run Try.prog w=_ at h;generalize blC x=X at h hx;generalize blC y=Y at h hy;unfold execOp;simp only[ho,hx,hy,resolve,QT,Sem.run_pure,QC,run_eqGuard_agg w _ _ _ _ _ _ (show Try.prog.eqGuardType Try.prog.depth 27=false by kernel_rfl),run_eql_struct,run_neq_struct,h]
theorem uq {α:Type}(f:α->Bool): ∀(L:List α) (i:Nat) (x:α),i<zj f L->L[i]? =some x->f x=true
 | [],i,x,h,_=>absurd h (RI _)
 | y::r,0,x,h,e=>by
  obtain rfl:y=x:=by simpa using e
  unfold zj at h;by_cases q:f y=true
  ·exact q
  ·rw[if_neg q]at h;omega
 | y::r,i+1,x,h,e=>by
  unfold zj at h;by_cases q:f y=true
  ·rw[if_pos q]at h;exact uq f r i x (by omega) (by simpa using e)
  ·rw[if_neg q]at h;omega
theorem ur {α:Type}(f:α->Bool){R:α->α->Prop}(hd: ∀x y,R x y->f y=true->f x=true): ∀(L:List α),L.Pairwise R-> ∀(i:Nat) (x:α),zj f L<=i->L[i]? =some x->f x=false
 | [],_,i,x,_,e=>by simp at e
 | y::r,hs,i,x,h,e=>by
  obtain⟨h1,h2⟩:=List.pairwise_cons.1 hs;unfold zj at h;by_cases q:f y=true
  ·rw[if_pos q]at h;obtain⟨i,rfl⟩:∃k,i=k+1:=⟨i-1,by omega⟩
   exact ur f hd r h2 i x (by omega) (by simpa using e)
  ·cases i with
   | zero=>
    obtain rfl:y=x:=by simpa using e
    exact QR.2 q
   | succ i=>
    have hx:x∈r:=Qo (by simpa using e);exact QR.2 fun p=>q (hd y x (h1 x hx) p)
theorem xg {α:Type}(f:α->Bool){R:α->α->Prop}(hd: ∀x y,R x y->f y=true->f x=true){L:List α}(hs:L.Pairwise R){i:Nat}{x:α}(e:L[i]? =some x):f x=decide (i<zj f L):=by
 by_cases h:i<zj f L
 ·rw[decide_eq_true h];exact uq f L i x h e
 ·rw[decide_eq_false h];exact ur f hd L hs i x (by omega) e
theorem zbv (x:Qa)(b:Bal)(k:Nat):FnP Try.prog 42 #[.string x,Qe k] (fun w=>w.heap[k]? =some (blO b)) (.bool (zd (tl x) (tl b.2.1))):=by
 refine FnP.intro (c:=zr Try.f42) [.tmp 3] 8 Try.func42 kr kr kr fun w hP=>rS [.v] (St.start w) kr fun gs1 w1 H1=>rS [.v,.v,.fs (off:=1) (v:=.string b.2.1) hP (zk hP) kr,.E (.bool (Op.bytesLess x.toList b.2.1.toList)) (.bool (zd (tl x) (tl b.2.1))) (za (qJ _ _)),.v] H1 kr fun gs2 w2 H2=>?_;exact rR [.tmp 3] [] (.bool (zd (tl x) (tl b.2.1))) H2 kr
abbrev leV (k:Nat):Value:=.func (.func 42) #[] #[Qe k]
theorem us (p:Qc)(n c:Nat)(V:List Bal)(b:Bal)(i k5 k3 k:Nat)(x:Bal)(hx:V[i]? =some x)(hL:V.length<=1000000):FnP Try.prog 36 #[iN i,Qe k5,Qe k3] (fun w=>w.heap[k5]? =some (.cells #[ahV k] 45 (0,0))/\w.heap[k3]? =some (.cells #[.slice p n c] 23 (0,0))/\w.heap[k]? =some (blO b)/\AtF blS w p n V) (.bool (!(aheadB x b))):=by
 refine FnP.intro (c:=zr Try.f36) [.tmp 4] 12 Try.func36 kr kr kr fun w hP=>?_;obtain⟨h5,h3,hk,hA⟩:=hP;have hn:=hA.1;have hi:i<V.length:=(Qr.1 hx).1;obtain⟨bl,off,C,T,fz,hp,hh,hR⟩:=hA.row2 (by omega);refine rS [.v] (St.start w) kr fun gs1 w1 H1=>dS [.fs (off:=0) (v:=ahV k) h5 (zk h5) kr,.fs (off:=0) (v:=.slice p n c) h3 (zk h3) kr,.v,.o (ins:=[((.tmp 6),.slice p n c),((.tmp 7),iN i)]) (v:=.pointer (some ⟨bl,off+i*3,none⟩)) (fun ρ o w ho hi2=>zt (kd:=.i64) (t:=23) (e:=27) (K:=3) (bytes:=40) kr (x:=(.tmp 6)) (y:=(.tmp 7)) bl off n c i hp ho hi2.1 hi2.2.1 (by omega) w),.fp (off:=off+i*3) (n:=3) (W:=blC x) hh (zk hh) (hR _ _ hx).1 (hR _ _ hx).2,.cp (pre:=fun w=>w.heap[k]? =some (blO b)) (ul x b k) [] (fun w hb hd=>zT hk hb),.v,.v] H1 kr fun w2 H2=>?_;exact rR [.tmp 4] [] (.bool (!(aheadB x b))) H2 kr
theorem ut (n a:Nat)(ha:a<=n)(hn:n<=1000000)(c0 c1:Value)(pre:World->Prop)(hst: ∀w w',pre w->Below w.heap.size w w'->pre w')(hc: ∀i,i<n->FnP Try.prog 36 #[iN i,c0,c1] pre (.bool (!decide (i<a)))):
 FnP Try.prog 35 #[iN n,.func (.func 36) #[] #[c0,c1]] pre (iN a):=by
 refine FnP.intro (c:=zr Try.f35) [.tmp 4] 26 Try.func35 kr kr kr fun w hP=>?_;have H0:=St.start w;refine rS [.v] H0 kr fun gs1 w1 H1=>rS [.v,.v,.v] H1 kr fun gs2 w2 H2=>ze kr<|yC 0 kr<|qQ kr (fun mz ρ ww=> ∃(i j:Nat),j-i=mz/\i<=a/\a<=j/\j<=n/\St w.heap.size w ww []/\Is [(1,.func (.func 36) #[] #[c0,c1]),(5,iN i),(6,iN j)] ρ) (n-0) ⟨0,n,rfl,Q5 _,ha,Qs _,H2.as kr,isK⟩ ?_;clear H0 H1 H2;rintro _ _ w4 ⟨i,j,rfl,hia,haj,hjn,H4,_,rfl⟩;refine ze kr<|ze kr ?_;by_cases hi:i<j
 ·refine rL [.v,.v,.E (.bool (decide ((i:Int)<(j:Int)))) (.bool true) (za (decide_eq_true (by omega)))] H4 kr fun gs4 w5 H5=>wW<|yd kr kr<|zQ kr<|wW<|yC 1 kr<|rS [.v,.v,.E (.int .i64 (Qm.wrap ((i:Int)+(j:Int)))) (iN (i+j)) (zf (zw (a:=i) (b:=j) (by omega))),.E (.int .u64 (IntKind.u64.wrap ((i+j:Nat):Int))) (.int .u64 ((i+j:Nat):Int)) (zf (by rw[IntKind.wrap_u64];omega)),.E (.int .u64 (Int.fdiv ((i+j:Nat):Int) (2^1))) (.int .u64 (((i+j) / 2:Nat):Int)) (zf (vf (k:=1) (i+j) 2 rfl)),.E (.int .i64 (Qm.wrap (((i+j) / 2:Nat):Int))) (iN ((i+j) / 2)) (zf (vg (by omega))),.v] H5 kr fun gs5 w6 H6=>?_;have hm:(i+j) / 2<n:=by omega
  have hcm:=hc ((i+j) / 2) hm;by_cases hlt:(i+j) / 2<a
  ·rw[decide_eq_true hlt]at hcm;refine rS [.v,.v,.cp (pre:=pre) hcm [] (fun w' hb hd=>hst w w' hP hb),.v] H6 kr fun gs6 w7 H7=>yd kr kr<|rL [.v,.E (.int .i64 (Qm.wrap (((i+j) / 2:Nat)+1))) (iN ((i+j) / 2+1)) (zf (zw (a:=(i+j) / 2) (b:=1) (by omega))),.v] H7 kr fun gs7 w8 H8=>?_;show ∃m,_/\_;exact⟨_,(by omega),(i+j) / 2+1,j,rfl,by omega,haj,hjn,H8.as kr,isK⟩
  ·rw[decide_eq_false hlt]at hcm;refine rS [.v,.v,.cp (pre:=pre) hcm [] (fun w' hb hd=>hst w w' hP hb),.v] H6 kr fun gs6 w7 H7=>zN kr kr<|rL [.v,.v] H7 kr fun gs7 w8 H8=>?_;show ∃m,_/\_;exact⟨_,(by omega),i,(i+j) / 2,rfl,hia,by omega,by omega,H8.as kr,isK⟩
 ·refine rL [.v,.v,.E (.bool (decide ((i:Int)<(j:Int)))) (.bool false) (za (decide_eq_false (by omega)))] H4 kr fun gs4 w5 H5=>wW<|zN kr kr<|qm 0 kr<|wW ?_;obtain rfl:i=a:=by omega
  refine rS [.v,.v] H5 kr fun gs6 w6 H6=>?_;exact rR [.tmp 4] [] (iN i) H6 kr
theorem zbw (p:Qc)(n c:Nat)(V:List Bal)(b:Bal)(k:Nat)(row Lr:Qb){B:Nat}{w0 w:World}(hrow:zz blS 27 p n c row V)(h:St B w0 w (row++((k,blO b)::Lr)))(hs:qe V)(hL:V.length<=1000000):
 Calls Try.prog 21 #[.slice p n c,blV b,ahV k] w fun e w'=> ∃v,e=.returned v/\zR B w0 ((k,blO b)::Lr) (zm (fun x=>aheadB x b) b V) v w':=by
 refine yt (c:=zr Try.f21) (rs:=[.tmp 6]) (N:=30) Try.func21 kr kr kr ?_;have hlen:=hrow.len;refine zo [0,1,2,3] kr kr<|qn h (some 3) 23 (.tmp 0) (.slice p n c) kr kr kr ?_;intro b3 wb3 Hb3;refine qn Hb3 (some 4) 27 (.tmp 1) (blV b) kr kr kr ?_;intro b4 wb4 Hb4;refine qn Hb4 (some 5) 45 (.tmp 2) (ahV k) kr kr kr ?_;intro b5 wb5 Hb5;refine rp [.v] Hb5 kr fun gs0 w0' H0=>wX []<|zl<|wW ?_;rcases hrow with⟨rfl,rfl,rfl,rfl,rfl⟩ | ⟨bw,cur,rfl,rfl,hrw⟩
 ·have H1:St B w0 w0' ((b5,.cells #[ahV k] 45 (0,0))::(b4,blO b)::(b3,.cells #[.slice none 0 0] 23 (0,0))::(k,blO b)::Lr):=H0.as kr
  have hsr:=ut 0 (zj (fun x=>aheadB x b) []) (by have:=qw (fun x=>aheadB x b) [];exact this) (by omega) (Qe b5) (Qe b3) (fun w=>w.heap[b5]? =some (.cells #[ahV k] 45 (0,0))/\w.heap[b3]? =some (.cells #[.slice none 0 0] 23 (0,0))/\w.heap[k]? =some (blO b)/\AtF blS w none 0 []) (fun w w' h hb=>⟨zT h.1 hb,zT h.2.1 hb,zT h.2.2.1 hb,h.2.2.2.call hb⟩) (fun i hi=>by
   obtain⟨x,hx⟩:∃x,([]:List Bal)[i]? =some x:=⟨_,Qj (by exact absurd hi (RI _))⟩
   rw[<-xg (fun x=>aheadB x b) (fun x y hxy hy=>qM hxy hy) hs hx]
   exact us none 0 0 [] b i b5 b3 k x hx (Q5 _))
  refine rS [.l 2,.v,.v,.cp (pre:=(fun w=>w.heap[b5]? =some (.cells #[ahV k] 45 (0,0))/\w.heap[b3]? =some (.cells #[.slice none 0 0] 23 (0,0))/\w.heap[k]? =some (blO b)/\AtF blS w none 0 [])) hsr [(0,(b5,.cells #[ahV k] 45 (0,0))),(2,(b3,.cells #[.slice none 0 0] 23 (0,0))),(3,(k,blO b))] (fun w hb hd=>⟨hd.1,hd.2.1,hd.2.2.1,⟨rfl,.inl rfl⟩⟩),.v] H1 kr fun gs1 w1 H2=>ze kr<|dS [.v,.l 2,.v,.E (.bool (decide (((0:Nat):Int)<((0:Nat):Int)))) (.bool false) (za (rfl)),.v,.n,.n,.n,.n,.n,.n,.v] H2 kr fun w2 H3=>zq<|wW<|zo [0,1,2,3,4,5] kr kr<|rp [.l 2,.v,.l 1] H3 kr fun gs3 w3 H4=>wX [3,4,5] ?_;have H5:St B w0 w3 ((b5,.cells #[ahV k] 45 (0,0))::(b4,blO b)::(b3,.cells #[.slice none 0 0] 23 (0,0))::(k,blO b)::Lr):=H4.as kr;refine qI H5 (some 28) (fun b=>Qf b 1 1) (blC b) 27 kr kr ?_;intro bn w4 H6;refine yF (R:=zR B w0 (((b5,.cells #[ahV k] 45 (0,0))::(b4,blO b)::(b3,.cells #[.slice none 0 0] 23 (0,0))::(k,blO b)::Lr)) ([].take 0++b::[].drop 0)) (some 29) 37 #[.slice none 0 0,iN 0,Qf bn 1 1] (kp none 0 0 [] b 0 bn [] (((b5,.cells #[ahV k] 45 (0,0))::(b4,blO b)::(b3,.cells #[.slice none 0 0] 23 (0,0))::(k,blO b)::Lr)) (.inl ⟨rfl,rfl,rfl,rfl,rfl⟩) (H6) (Qs _) (Q5 _)) kr kr ?_;rintro v w5 ⟨q',m',k',row',rfl,hrow',H7⟩;refine rp [.v] H7 kr fun gs5 w6 H8=>wX []<|zl<|wW<|rRr [.tmp 6] [] (.slice q' m' k') (zR B w0 ((k,blO b)::Lr) (zm (fun x=>aheadB x b) b [])) H8 kr ?_;refine⟨q',m',k',row',rfl,?_,(H8.as (l:=row'++((b5,.cells #[ahV k] 45 (0,0))::(b4,blO b)::(b3,.cells #[.slice none 0 0] 23 (0,0))::(k,blO b)::Lr)) kr).sub (Re (Rn _) (Qy [_,_,_] _))⟩;exact hrow'
 ·have H1:St B w0 w0' ((b5,.cells #[ahV k] 45 (0,0))::(b4,blO b)::(b3,.cells #[Qf bw n c] 23 (0,0))::(bw,.cells cur 27)::(k,blO b)::Lr):=H0.as kr
  have hsr:=ut n (zj (fun x=>aheadB x b) V) (by have:=qw (fun x=>aheadB x b) V;omega) (by omega) (Qe b5) (Qe b3) (fun w=>w.heap[b5]? =some (.cells #[ahV k] 45 (0,0))/\w.heap[b3]? =some (.cells #[Qf bw n c] 23 (0,0))/\w.heap[k]? =some (blO b)/\AtF blS w (Qg bw) n V) (fun w w' h hb=>⟨zT h.1 hb,zT h.2.1 hb,zT h.2.2.1 hb,h.2.2.2.call hb⟩) (fun i hi=>by
   obtain⟨x,hx⟩:∃x,V[i]? =some x:=⟨_,Qj (by omega)⟩
   rw[<-xg (fun x=>aheadB x b) (fun x y hxy hy=>qM hxy hy) hs hx]
   exact us (Qg bw) n c V b i b5 b3 k x hx hL)
  refine rS [.l 2,.v,.v,.cp (pre:=(fun w=>w.heap[b5]? =some (.cells #[ahV k] 45 (0,0))/\w.heap[b3]? =some (.cells #[Qf bw n c] 23 (0,0))/\w.heap[k]? =some (blO b)/\AtF blS w (Qg bw) n V)) hsr [(0,(b5,.cells #[ahV k] 45 (0,0))),(2,(b3,.cells #[Qf bw n c] 23 (0,0))),(4,(k,blO b)),(3,(bw,.cells cur 27))] (fun w hb hd=>⟨hd.1,hd.2.1,hd.2.2.1,jt hrw hd.2.2.2.1⟩),.v] H1 kr fun gs1 w1 H2=>ze kr ?_;have hpl:=qw (fun x=>aheadB x b) V;by_cases hat:zj (fun x=>aheadB x b) V<n
  ·obtain⟨x,hx⟩:∃x,V[zj (fun x=>aheadB x b) V]? =some x:=⟨_,Qj (by omega)⟩
   have hR:=hrw.rowAt;by_cases hxb:x=b
   ·refine dS [.v,.l 2,.v,.E (.bool (decide (((zj (fun x=>aheadB x b) V:Nat):Int)<(n:Int)))) (.bool true) (za (decide_eq_true (by omega))),.v,.l 2,.v,.o (ins:=[((.tmp 17),Qf bw n c),((.tmp 18),iN (zj (fun x=>aheadB x b) V))]) (v:=.pointer (some ⟨bw,0+(zj (fun x=>aheadB x b) V)*3,none⟩)) (fun ρ o w ho hi2=>zt (kd:=.i64) (t:=23) (e:=27) (K:=3) (bytes:=40) kr (x:=(.tmp 17)) (y:=(.tmp 18)) bw 0 n c (zj (fun x=>aheadB x b) V) rfl ho hi2.1 hi2.2.1 hat w),.lp 3 (C:=cur) (off:=0+(zj (fun x=>aheadB x b) V)*3) (n:=3) (W:=blC x) (hR _ _ hx).1 (hR _ _ hx).2,.l 1,.oe (ins:=[((.tmp 20),blV x),((.tmp 21),blV b)]) (op:=.binOp .eql 27 (.tmp 20) (.tmp 21) 27) (v:=.bool (decide (x=b))) (v':=.bool true) (fun ρ o w ho hi2=>up x b w ho hi2.1 hi2.2.1) (za (decide_eq_true hxb)),.v] H2 kr fun w2 H3=>zu<|rS [.l 2,.v] H3 kr fun gs3 w3 H4=>rRr [.tmp 6] [] (Qf bw n c) (zR B w0 ((k,blO b)::Lr) (zm (fun x=>aheadB x b) b V)) H4 kr ?_;refine⟨Qg bw,n,c,[(bw,.cells cur 27)],rfl,?_,(H4.as (l:=((b5,.cells #[ahV k] 45 (0,0))::(b4,blO b)::(b3,.cells #[Qf bw n c] 23 (0,0))::(bw,.cells cur 27)::(k,blO b)::Lr)) kr).sub (Qy [_,_,_] _)⟩;rw[show zm (fun x=>aheadB x b) b V=V by unfold zm;rw[if_pos (by rw[hx,hxb])]];exact .inr ⟨bw,cur,rfl,rfl,hrw⟩
   ·refine dS [.v,.l 2,.v,.E (.bool (decide (((zj (fun x=>aheadB x b) V:Nat):Int)<(n:Int)))) (.bool true) (za (decide_eq_true (by omega))),.v,.l 2,.v,.o (ins:=[((.tmp 17),Qf bw n c),((.tmp 18),iN (zj (fun x=>aheadB x b) V))]) (v:=.pointer (some ⟨bw,0+(zj (fun x=>aheadB x b) V)*3,none⟩)) (fun ρ o w ho hi2=>zt (kd:=.i64) (t:=23) (e:=27) (K:=3) (bytes:=40) kr (x:=(.tmp 17)) (y:=(.tmp 18)) bw 0 n c (zj (fun x=>aheadB x b) V) rfl ho hi2.1 hi2.2.1 hat w),.lp 3 (C:=cur) (off:=0+(zj (fun x=>aheadB x b) V)*3) (n:=3) (W:=blC x) (hR _ _ hx).1 (hR _ _ hx).2,.l 1,.oe (ins:=[((.tmp 20),blV x),((.tmp 21),blV b)]) (op:=.binOp .eql 27 (.tmp 20) (.tmp 21) 27) (v:=.bool (decide (x=b))) (v':=.bool false) (fun ρ o w ho hi2=>up x b w ho hi2.1 hi2.2.1) (za (decide_eq_false hxb)),.v] H2 kr fun w2 H3=>zq<|wW<|zo [0,1,2,3,4,5] kr kr<|rp [.l 2,.v,.l 1] H3 kr fun gs3 w3 H4=>wX [3,4,5] ?_;have H5:St B w0 w3 ((b5,.cells #[ahV k] 45 (0,0))::(b4,blO b)::(b3,.cells #[Qf bw n c] 23 (0,0))::(bw,.cells cur 27)::(k,blO b)::Lr):=H4.as kr;refine qI H5 (some 28) (fun b=>Qf b 1 1) (blC b) 27 kr kr ?_;intro bn w4 H6;refine yF (R:=zR B w0 (((b5,.cells #[ahV k] 45 (0,0))::(b4,blO b)::(b3,.cells #[Qf bw n c] 23 (0,0))::(k,blO b)::Lr)) (V.take (zj (fun x=>aheadB x b) V)++b::V.drop (zj (fun x=>aheadB x b) V))) (some 29) 37 #[Qf bw n c,iN (zj (fun x=>aheadB x b) V),Qf bn 1 1] (kp (Qg bw) n c V b (zj (fun x=>aheadB x b) V) bn [(bw,.cells cur 27)] (((b5,.cells #[ahV k] 45 (0,0))::(b4,blO b)::(b3,.cells #[Qf bw n c] 23 (0,0))::(k,blO b)::Lr)) (.inr ⟨bw,cur,rfl,rfl,hrw⟩) (H6.perm (Q6 [(bw,.cells cur 27)] ((bn,blO b)::(b5,.cells #[ahV k] 45 (0,0))::(b4,blO b)::(b3,.cells #[Qf bw n c] 23 (0,0))::[]) ((k,blO b)::Lr))) (by omega) hL) kr kr ?_;rintro v w5 ⟨q',m',k',row',rfl,hrow',H7⟩;refine rp [.v] H7 kr fun gs5 w6 H8=>wX []<|zl<|wW<|rRr [.tmp 6] [] (.slice q' m' k') (zR B w0 ((k,blO b)::Lr) (zm (fun x=>aheadB x b) b V)) H8 kr ?_;refine⟨q',m',k',row',rfl,?_,(H8.as (l:=row'++((b5,.cells #[ahV k] 45 (0,0))::(b4,blO b)::(b3,.cells #[Qf bw n c] 23 (0,0))::(k,blO b)::Lr)) kr).sub (Re (Rn _) (Qy [_,_,_] _))⟩;rw[show zm (fun x=>aheadB x b) b V=V.take (zj (fun x=>aheadB x b) V)++b::V.drop (zj (fun x=>aheadB x b) V) by unfold zm;rw[if_neg (by rw[hx];exact fun q=>hxb (Option.some.inj q))]];exact hrow'
  ·refine dS [.v,.l 2,.v,.E (.bool (decide (((zj (fun x=>aheadB x b) V:Nat):Int)<(n:Int)))) (.bool false) (za (decide_eq_false (by omega))),.v,.n,.n,.n,.n,.n,.n,.v] H2 kr fun w2 H3=>zq<|wW<|zo [0,1,2,3,4,5] kr kr<|rp [.l 2,.v,.l 1] H3 kr fun gs3 w3 H4=>wX [3,4,5] ?_;have H5:St B w0 w3 ((b5,.cells #[ahV k] 45 (0,0))::(b4,blO b)::(b3,.cells #[Qf bw n c] 23 (0,0))::(bw,.cells cur 27)::(k,blO b)::Lr):=H4.as kr;refine qI H5 (some 28) (fun b=>Qf b 1 1) (blC b) 27 kr kr ?_;intro bn w4 H6;refine yF (R:=zR B w0 (((b5,.cells #[ahV k] 45 (0,0))::(b4,blO b)::(b3,.cells #[Qf bw n c] 23 (0,0))::(k,blO b)::Lr)) (V.take (zj (fun x=>aheadB x b) V)++b::V.drop (zj (fun x=>aheadB x b) V))) (some 29) 37 #[Qf bw n c,iN (zj (fun x=>aheadB x b) V),Qf bn 1 1] (kp (Qg bw) n c V b (zj (fun x=>aheadB x b) V) bn [(bw,.cells cur 27)] (((b5,.cells #[ahV k] 45 (0,0))::(b4,blO b)::(b3,.cells #[Qf bw n c] 23 (0,0))::(k,blO b)::Lr)) (.inr ⟨bw,cur,rfl,rfl,hrw⟩) (H6.perm (Q6 [(bw,.cells cur 27)] ((bn,blO b)::(b5,.cells #[ahV k] 45 (0,0))::(b4,blO b)::(b3,.cells #[Qf bw n c] 23 (0,0))::[]) ((k,blO b)::Lr))) (by omega) hL) kr kr ?_;rintro v w5 ⟨q',m',k',row',rfl,hrow',H7⟩;refine rp [.v] H7 kr fun gs5 w6 H8=>wX []<|zl<|wW<|rRr [.tmp 6] [] (.slice q' m' k') (zR B w0 ((k,blO b)::Lr) (zm (fun x=>aheadB x b) b V)) H8 kr ?_;refine⟨q',m',k',row',rfl,?_,(H8.as (l:=row'++((b5,.cells #[ahV k] 45 (0,0))::(b4,blO b)::(b3,.cells #[Qf bw n c] 23 (0,0))::(k,blO b)::Lr)) kr).sub (Re (Rn _) (Qy [_,_,_] _))⟩;rw[show zm (fun x=>aheadB x b) b V=V.take (zj (fun x=>aheadB x b) V)++b::V.drop (zj (fun x=>aheadB x b) V) by unfold zm;rw[if_neg (by rw[Q7 (by omega)];exact fun q=>nomatch q)]];exact hrow'
theorem uu (p:Qc)(n c:Nat)(L:Qi)(b:Bal)(i k5 k3 k:Nat)(x:Qa)(hx:L[i]? =some x)(hL:L.length<=1000000):FnP Try.prog 51 #[iN i,Qe k5,Qe k3] (fun w=>w.heap[k5]? =some (.cells #[leV k] 59 (0,0))/\w.heap[k3]? =some (.cells #[.slice p n c] 22 (0,0))/\w.heap[k]? =some (blO b)/\AtF sS w p n L) (.bool (!(zd (tl x) (tl b.2.1)))):=by
 refine FnP.intro (c:=zr Try.f51) [.tmp 4] 12 Try.func51 kr kr kr fun w hP=>?_;obtain⟨h5,h3,hk,hA⟩:=hP;have hn:=hA.1;have hi:i<L.length:=(Qr.1 hx).1;obtain⟨bl,off,C,T,fz,hp,hh,hR⟩:=hA.row2 (by omega);have hcx:C[off+i*1]? =some (.string x):=hR.cell hx 0 (by decide);refine rS [.v] (St.start w) kr fun gs1 w1 H1=>dS [.fs (off:=0) (v:=leV k) h5 (zk h5) kr,.fs (off:=0) (v:=.slice p n c) h3 (zk h3) kr,.v,.o (ins:=[((.tmp 6),.slice p n c),((.tmp 7),iN i)]) (v:=.pointer (some ⟨bl,off+i*1,none⟩)) (fun ρ o w ho hi2=>zt (kd:=.i64) (t:=22) (e:=9) (K:=1) (bytes:=16) kr (x:=(.tmp 6)) (y:=(.tmp 7)) bl off n c i hp ho hi2.1 hi2.2.1 (by omega) w),.fs (off:=off+i*1) (v:=.string x) hh (zk hh) hcx,.cp (pre:=fun w=>w.heap[k]? =some (blO b)) (zbv x b k) [] (fun w hb hd=>zT hk hb),.v,.v] H1 kr fun w2 H2=>?_;exact rR [.tmp 4] [] (.bool (!(zd (tl x) (tl b.2.1)))) H2 kr
theorem uv (n a:Nat)(ha:a<=n)(hn:n<=1000000)(c0 c1:Value)(pre:World->Prop)(hst: ∀w w',pre w->Below w.heap.size w w'->pre w')(hc: ∀i,i<n->FnP Try.prog 51 #[iN i,c0,c1] pre (.bool (!decide (i<a)))):
 FnP Try.prog 35 #[iN n,.func (.func 51) #[] #[c0,c1]] pre (iN a):=by
 refine FnP.intro (c:=zr Try.f35) [.tmp 4] 26 Try.func35 kr kr kr fun w hP=>?_;have H0:=St.start w;refine rS [.v] H0 kr fun gs1 w1 H1=>rS [.v,.v,.v] H1 kr fun gs2 w2 H2=>ze kr<|yC 0 kr<|qQ kr (fun mz ρ ww=> ∃(i j:Nat),j-i=mz/\i<=a/\a<=j/\j<=n/\St w.heap.size w ww []/\Is [(1,.func (.func 51) #[] #[c0,c1]),(5,iN i),(6,iN j)] ρ) (n-0) ⟨0,n,rfl,Q5 _,ha,Qs _,H2.as kr,isK⟩ ?_;clear H0 H1 H2;rintro _ _ w4 ⟨i,j,rfl,hia,haj,hjn,H4,_,rfl⟩;refine ze kr<|ze kr ?_;by_cases hi:i<j
 ·refine rL [.v,.v,.E (.bool (decide ((i:Int)<(j:Int)))) (.bool true) (za (decide_eq_true (by omega)))] H4 kr fun gs4 w5 H5=>wW<|yd kr kr<|zQ kr<|wW<|yC 1 kr<|rS [.v,.v,.E (.int .i64 (Qm.wrap ((i:Int)+(j:Int)))) (iN (i+j)) (zf (zw (a:=i) (b:=j) (by omega))),.E (.int .u64 (IntKind.u64.wrap ((i+j:Nat):Int))) (.int .u64 ((i+j:Nat):Int)) (zf (by rw[IntKind.wrap_u64];omega)),.E (.int .u64 (Int.fdiv ((i+j:Nat):Int) (2^1))) (.int .u64 (((i+j) / 2:Nat):Int)) (zf (vf (k:=1) (i+j) 2 rfl)),.E (.int .i64 (Qm.wrap (((i+j) / 2:Nat):Int))) (iN ((i+j) / 2)) (zf (vg (by omega))),.v] H5 kr fun gs5 w6 H6=>?_;have hm:(i+j) / 2<n:=by omega
  have hcm:=hc ((i+j) / 2) hm;by_cases hlt:(i+j) / 2<a
  ·rw[decide_eq_true hlt]at hcm;refine rS [.v,.v,.cp (pre:=pre) hcm [] (fun w' hb hd=>hst w w' hP hb),.v] H6 kr fun gs6 w7 H7=>yd kr kr<|rL [.v,.E (.int .i64 (Qm.wrap (((i+j) / 2:Nat)+1))) (iN ((i+j) / 2+1)) (zf (zw (a:=(i+j) / 2) (b:=1) (by omega))),.v] H7 kr fun gs7 w8 H8=>?_;show ∃m,_/\_;exact⟨_,(by omega),(i+j) / 2+1,j,rfl,by omega,haj,hjn,H8.as kr,isK⟩
  ·rw[decide_eq_false hlt]at hcm;refine rS [.v,.v,.cp (pre:=pre) hcm [] (fun w' hb hd=>hst w w' hP hb),.v] H6 kr fun gs6 w7 H7=>zN kr kr<|rL [.v,.v] H7 kr fun gs7 w8 H8=>?_;show ∃m,_/\_;exact⟨_,(by omega),i,(i+j) / 2,rfl,hia,by omega,by omega,H8.as kr,isK⟩
 ·refine rL [.v,.v,.E (.bool (decide ((i:Int)<(j:Int)))) (.bool false) (za (decide_eq_false (by omega)))] H4 kr fun gs4 w5 H5=>wW<|zN kr kr<|qm 0 kr<|wW ?_;obtain rfl:i=a:=by omega
  refine rS [.v,.v] H5 kr fun gs6 w6 H6=>?_;exact rR [.tmp 4] [] (iN i) H6 kr
theorem zbx (p:Qc)(n c:Nat)(L:Qi)(b:Bal)(k:Nat)(row Lr:Qb){B:Nat}{w0 w:World}(hrow:zz sS 9 p n c row L)(h:St B w0 w (row++((k,blO b)::Lr)))(hs:qf L)(hL:L.length<=1000000):
 Calls Try.prog 41 #[.slice p n c,.string b.2.1,leV k] w fun e w'=> ∃v,e=.returned v/\zY B w0 ((k,blO b)::Lr) (zm (fun x=>zd (tl x) (tl b.2.1)) b.2.1 L) v w':=by
 refine yt (c:=zr Try.f41) (rs:=[.tmp 6]) (N:=30) Try.func41 kr kr kr ?_;have hlen:=hrow.len;refine zo [0,1,2] kr kr<|qn h (some 3) 22 (.tmp 0) (.slice p n c) kr kr kr ?_;intro b3 wb3 Hb3;refine qn Hb3 (some 5) 59 (.tmp 2) (leV k) kr kr kr ?_;intro b5 wb5 Hb5;refine rp [.v] Hb5 kr fun gs0 w0' H0=>wX []<|zl<|wW ?_;rcases hrow with⟨rfl,rfl,rfl,rfl,rfl⟩ | ⟨bw,cur,rfl,rfl,hrw⟩
 ·have H1:St B w0 w0' ((b5,.cells #[leV k] 59 (0,0))::(b3,.cells #[.slice none 0 0] 22 (0,0))::(k,blO b)::Lr):=H0.as kr
  have hsr:=uv 0 (zj (fun x=>zd (tl x) (tl b.2.1)) []) (by have:=qw (fun x=>zd (tl x) (tl b.2.1)) [];exact this) (by omega) (Qe b5) (Qe b3) (fun w=>w.heap[b5]? =some (.cells #[leV k] 59 (0,0))/\w.heap[b3]? =some (.cells #[.slice none 0 0] 22 (0,0))/\w.heap[k]? =some (blO b)/\AtF sS w none 0 []) (fun w w' h hb=>⟨zT h.1 hb,zT h.2.1 hb,zT h.2.2.1 hb,h.2.2.2.call hb⟩) (fun i hi=>by
   obtain⟨x,hx⟩:∃x,([]:Qi)[i]? =some x:=⟨_,Qj (by exact absurd hi (RI _))⟩
   rw[<-xg (fun x=>zd (tl x) (tl b.2.1)) (fun x y hxy hy=>qt hxy hy) hs hx]
   exact uu none 0 0 [] b i b5 b3 k x hx (Q5 _))
  refine rS [.l 1,.v,.v,.cp (pre:=(fun w=>w.heap[b5]? =some (.cells #[leV k] 59 (0,0))/\w.heap[b3]? =some (.cells #[.slice none 0 0] 22 (0,0))/\w.heap[k]? =some (blO b)/\AtF sS w none 0 [])) hsr [(0,(b5,.cells #[leV k] 59 (0,0))),(1,(b3,.cells #[.slice none 0 0] 22 (0,0))),(2,(k,blO b))] (fun w hb hd=>⟨hd.1,hd.2.1,hd.2.2.1,⟨rfl,.inl rfl⟩⟩),.v] H1 kr fun gs1 w1 H2=>ze kr<|rS [.v,.l 1,.v,.E (.bool (decide (((0:Nat):Int)<((0:Nat):Int)))) (.bool false) (za (rfl)),.v,.n,.n,.n,.n,.n,.n,.v] H2 kr fun gs2 w2 H3=>zq<|wW<|zo [0,1,2,3,4,5] kr kr<|rp [.l 1,.v,.v] H3 kr fun gs3 w3 H4=>wX [3,4,5] ?_;have H5:St B w0 w3 ((b5,.cells #[leV k] 59 (0,0))::(b3,.cells #[.slice none 0 0] 22 (0,0))::(k,blO b)::Lr):=H4.as kr;refine qI H5 (some 28) (fun b=>Qf b 1 1) #[.string b.2.1] 9 kr kr ?_;intro bn w4 H6;refine yF (R:=zY B w0 (((b5,.cells #[leV k] 59 (0,0))::(b3,.cells #[.slice none 0 0] 22 (0,0))::(k,blO b)::Lr)) ([].take 0++b.2.1::[].drop 0)) (some 29) 52 #[.slice none 0 0,iN 0,Qf bn 1 1] (kq none 0 0 [] b.2.1 0 bn [] (((b5,.cells #[leV k] 59 (0,0))::(b3,.cells #[.slice none 0 0] 22 (0,0))::(k,blO b)::Lr)) (.inl ⟨rfl,rfl,rfl,rfl,rfl⟩) (H6) (Qs _) (Q5 _)) kr kr ?_;rintro v w5 ⟨q',m',k',row',rfl,hrow',H7⟩;refine rp [.v] H7 kr fun gs5 w6 H8=>wX []<|zl<|wW<|rRr [.tmp 6] [] (.slice q' m' k') (zY B w0 ((k,blO b)::Lr) (zm (fun x=>zd (tl x) (tl b.2.1)) b.2.1 [])) H8 kr ?_;refine⟨q',m',k',row',rfl,?_,(H8.as (l:=row'++((b5,.cells #[leV k] 59 (0,0))::(b3,.cells #[.slice none 0 0] 22 (0,0))::(k,blO b)::Lr)) kr).sub (Re (Rn _) (Qy [_,_] _))⟩;exact hrow'
 ·have H1:St B w0 w0' ((b5,.cells #[leV k] 59 (0,0))::(b3,.cells #[Qf bw n c] 22 (0,0))::(bw,.cells cur 9)::(k,blO b)::Lr):=H0.as kr
  have hsr:=uv n (zj (fun x=>zd (tl x) (tl b.2.1)) L) (by have:=qw (fun x=>zd (tl x) (tl b.2.1)) L;omega) (by omega) (Qe b5) (Qe b3) (fun w=>w.heap[b5]? =some (.cells #[leV k] 59 (0,0))/\w.heap[b3]? =some (.cells #[Qf bw n c] 22 (0,0))/\w.heap[k]? =some (blO b)/\AtF sS w (Qg bw) n L) (fun w w' h hb=>⟨zT h.1 hb,zT h.2.1 hb,zT h.2.2.1 hb,h.2.2.2.call hb⟩) (fun i hi=>by
   obtain⟨x,hx⟩:∃x,L[i]? =some x:=⟨_,Qj (by omega)⟩
   rw[<-xg (fun x=>zd (tl x) (tl b.2.1)) (fun x y hxy hy=>qt hxy hy) hs hx]
   exact uu (Qg bw) n c L b i b5 b3 k x hx hL)
  refine rS [.l 1,.v,.v,.cp (pre:=(fun w=>w.heap[b5]? =some (.cells #[leV k] 59 (0,0))/\w.heap[b3]? =some (.cells #[Qf bw n c] 22 (0,0))/\w.heap[k]? =some (blO b)/\AtF sS w (Qg bw) n L)) hsr [(0,(b5,.cells #[leV k] 59 (0,0))),(1,(b3,.cells #[Qf bw n c] 22 (0,0))),(3,(k,blO b)),(2,(bw,.cells cur 9))] (fun w hb hd=>⟨hd.1,hd.2.1,hd.2.2.1,jt hrw hd.2.2.2.1⟩),.v] H1 kr fun gs1 w1 H2=>ze kr ?_;have hpl:=qw (fun x=>zd (tl x) (tl b.2.1)) L;by_cases hat:zj (fun x=>zd (tl x) (tl b.2.1)) L<n
  ·obtain⟨x,hx⟩:∃x,L[zj (fun x=>zd (tl x) (tl b.2.1)) L]? =some x:=⟨_,Qj (by omega)⟩
   have hR:=hrw.rowAt;by_cases hxb:x=b.2.1
   ·refine rS [.v,.l 1,.v,.E (.bool (decide (((zj (fun x=>zd (tl x) (tl b.2.1)) L:Nat):Int)<(n:Int)))) (.bool true) (za (decide_eq_true (by omega))),.v,.l 1,.v,.o (ins:=[((.tmp 17),Qf bw n c),((.tmp 18),iN (zj (fun x=>zd (tl x) (tl b.2.1)) L))]) (v:=.pointer (some ⟨bw,0+(zj (fun x=>zd (tl x) (tl b.2.1)) L)*1,none⟩)) (fun ρ o w ho hi2=>zt (kd:=.i64) (t:=22) (e:=9) (K:=1) (bytes:=16) kr (x:=(.tmp 17)) (y:=(.tmp 18)) bw 0 n c (zj (fun x=>zd (tl x) (tl b.2.1)) L) rfl ho hi2.1 hi2.2.1 hat w),.ls 2 (C:=cur) (off:=0+(zj (fun x=>zd (tl x) (tl b.2.1)) L)*1) (v:=.string x) (hR.cell hx 0 (by decide)),.v,.E (.bool (x.toList==b.2.1.toList)) (.bool true) (za (yi _ _ hxb)),.v] H2 kr fun gs2 w2 H3=>zu<|rS [.l 1,.v] H3 kr fun gs3 w3 H4=>rRr [.tmp 6] [] (Qf bw n c) (zY B w0 ((k,blO b)::Lr) (zm (fun x=>zd (tl x) (tl b.2.1)) b.2.1 L)) H4 kr ?_;refine⟨Qg bw,n,c,[(bw,.cells cur 9)],rfl,?_,(H4.as (l:=((b5,.cells #[leV k] 59 (0,0))::(b3,.cells #[Qf bw n c] 22 (0,0))::(bw,.cells cur 9)::(k,blO b)::Lr)) kr).sub (Qy [_,_] _)⟩;rw[show zm (fun x=>zd (tl x) (tl b.2.1)) b.2.1 L=L by unfold zm;rw[if_pos (by rw[hx,hxb])]];exact .inr ⟨bw,cur,rfl,rfl,hrw⟩
   ·refine rS [.v,.l 1,.v,.E (.bool (decide (((zj (fun x=>zd (tl x) (tl b.2.1)) L:Nat):Int)<(n:Int)))) (.bool true) (za (decide_eq_true (by omega))),.v,.l 1,.v,.o (ins:=[((.tmp 17),Qf bw n c),((.tmp 18),iN (zj (fun x=>zd (tl x) (tl b.2.1)) L))]) (v:=.pointer (some ⟨bw,0+(zj (fun x=>zd (tl x) (tl b.2.1)) L)*1,none⟩)) (fun ρ o w ho hi2=>zt (kd:=.i64) (t:=22) (e:=9) (K:=1) (bytes:=16) kr (x:=(.tmp 17)) (y:=(.tmp 18)) bw 0 n c (zj (fun x=>zd (tl x) (tl b.2.1)) L) rfl ho hi2.1 hi2.2.1 hat w),.ls 2 (C:=cur) (off:=0+(zj (fun x=>zd (tl x) (tl b.2.1)) L)*1) (v:=.string x) (hR.cell hx 0 (by decide)),.v,.E (.bool (x.toList==b.2.1.toList)) (.bool false) (za (yj _ _ hxb)),.v] H2 kr fun gs2 w2 H3=>zq<|wW<|zo [0,1,2,3,4,5] kr kr<|rp [.l 1,.v,.v] H3 kr fun gs3 w3 H4=>wX [3,4,5] ?_;have H5:St B w0 w3 ((b5,.cells #[leV k] 59 (0,0))::(b3,.cells #[Qf bw n c] 22 (0,0))::(bw,.cells cur 9)::(k,blO b)::Lr):=H4.as kr;refine qI H5 (some 28) (fun b=>Qf b 1 1) #[.string b.2.1] 9 kr kr ?_;intro bn w4 H6;refine yF (R:=zY B w0 (((b5,.cells #[leV k] 59 (0,0))::(b3,.cells #[Qf bw n c] 22 (0,0))::(k,blO b)::Lr)) (L.take (zj (fun x=>zd (tl x) (tl b.2.1)) L)++b.2.1::L.drop (zj (fun x=>zd (tl x) (tl b.2.1)) L))) (some 29) 52 #[Qf bw n c,iN (zj (fun x=>zd (tl x) (tl b.2.1)) L),Qf bn 1 1] (kq (Qg bw) n c L b.2.1 (zj (fun x=>zd (tl x) (tl b.2.1)) L) bn [(bw,.cells cur 9)] (((b5,.cells #[leV k] 59 (0,0))::(b3,.cells #[Qf bw n c] 22 (0,0))::(k,blO b)::Lr)) (.inr ⟨bw,cur,rfl,rfl,hrw⟩) (H6.perm (Q6 [(bw,.cells cur 9)] ((bn,sxO b.2.1)::(b5,.cells #[leV k] 59 (0,0))::(b3,.cells #[Qf bw n c] 22 (0,0))::[]) ((k,blO b)::Lr))) (by omega) hL) kr kr ?_;rintro v w5 ⟨q',m',k',row',rfl,hrow',H7⟩;refine rp [.v] H7 kr fun gs5 w6 H8=>wX []<|zl<|wW<|rRr [.tmp 6] [] (.slice q' m' k') (zY B w0 ((k,blO b)::Lr) (zm (fun x=>zd (tl x) (tl b.2.1)) b.2.1 L)) H8 kr ?_;refine⟨q',m',k',row',rfl,?_,(H8.as (l:=row'++((b5,.cells #[leV k] 59 (0,0))::(b3,.cells #[Qf bw n c] 22 (0,0))::(k,blO b)::Lr)) kr).sub (Re (Rn _) (Qy [_,_] _))⟩;rw[show zm (fun x=>zd (tl x) (tl b.2.1)) b.2.1 L=L.take (zj (fun x=>zd (tl x) (tl b.2.1)) L)++b.2.1::L.drop (zj (fun x=>zd (tl x) (tl b.2.1)) L) by unfold zm;rw[if_neg (by rw[hx];exact fun q=>hxb (Option.some.inj q))]];exact hrow'
  ·refine rS [.v,.l 1,.v,.E (.bool (decide (((zj (fun x=>zd (tl x) (tl b.2.1)) L:Nat):Int)<(n:Int)))) (.bool false) (za (decide_eq_false (by omega))),.v,.n,.n,.n,.n,.n,.n,.v] H2 kr fun gs2 w2 H3=>zq<|wW<|zo [0,1,2,3,4,5] kr kr<|rp [.l 1,.v,.v] H3 kr fun gs3 w3 H4=>wX [3,4,5] ?_;have H5:St B w0 w3 ((b5,.cells #[leV k] 59 (0,0))::(b3,.cells #[Qf bw n c] 22 (0,0))::(bw,.cells cur 9)::(k,blO b)::Lr):=H4.as kr;refine qI H5 (some 28) (fun b=>Qf b 1 1) #[.string b.2.1] 9 kr kr ?_;intro bn w4 H6;refine yF (R:=zY B w0 (((b5,.cells #[leV k] 59 (0,0))::(b3,.cells #[Qf bw n c] 22 (0,0))::(k,blO b)::Lr)) (L.take (zj (fun x=>zd (tl x) (tl b.2.1)) L)++b.2.1::L.drop (zj (fun x=>zd (tl x) (tl b.2.1)) L))) (some 29) 52 #[Qf bw n c,iN (zj (fun x=>zd (tl x) (tl b.2.1)) L),Qf bn 1 1] (kq (Qg bw) n c L b.2.1 (zj (fun x=>zd (tl x) (tl b.2.1)) L) bn [(bw,.cells cur 9)] (((b5,.cells #[leV k] 59 (0,0))::(b3,.cells #[Qf bw n c] 22 (0,0))::(k,blO b)::Lr)) (.inr ⟨bw,cur,rfl,rfl,hrw⟩) (H6.perm (Q6 [(bw,.cells cur 9)] ((bn,sxO b.2.1)::(b5,.cells #[leV k] 59 (0,0))::(b3,.cells #[Qf bw n c] 22 (0,0))::[]) ((k,blO b)::Lr))) (by omega) hL) kr kr ?_;rintro v w5 ⟨q',m',k',row',rfl,hrow',H7⟩;refine rp [.v] H7 kr fun gs5 w6 H8=>wX []<|zl<|wW<|rRr [.tmp 6] [] (.slice q' m' k') (zY B w0 ((k,blO b)::Lr) (zm (fun x=>zd (tl x) (tl b.2.1)) b.2.1 L)) H8 kr ?_;refine⟨q',m',k',row',rfl,?_,(H8.as (l:=row'++((b5,.cells #[leV k] 59 (0,0))::(b3,.cells #[Qf bw n c] 22 (0,0))::(k,blO b)::Lr)) kr).sub (Re (Rn _) (Qy [_,_] _))⟩;rw[show zm (fun x=>zd (tl x) (tl b.2.1)) b.2.1 L=L.take (zj (fun x=>zd (tl x) (tl b.2.1)) L)++b.2.1::L.drop (zj (fun x=>zd (tl x) (tl b.2.1)) L) by unfold zm;rw[if_neg (by rw[Q7 (by omega)];exact fun q=>nomatch q)]];exact hrow'
end
theorem zby {α:Type}{M:List α}{i:Nat}{x:α}(h:M[i]? =some x):M=M.take i++x::M.drop (i+1)/\(M.take i).length=i:=by
 obtain⟨hi,rfl⟩:=Qr.1 h;exact⟨by rw[List.getElem_cons_drop,List.take_append_drop],by rw[Qv];omega⟩
theorem Rw.setF {α:Type}{S:Fl α}{cur:Qd}{cap n i:Nat}{M:List α}{x y:α}(h:Rw S.K cur cap n (zb S M))(hM:M[i]? =some x)(j:Nat)(v:Value)(hj:j+v.cells.size<=S.K)(hx:(S.cs x).take j++v.cells.toList++(S.cs x).drop (j+v.cells.size)=S.cs y):
 0+i*S.K+j+v.cells.size<=cur.size/\Rw S.K (Go.Proofs.Ytdlllbaejgoncaa.putA cur (0+i*S.K+j) v) cap n (zb S (M.set i y)):=by
 have hl:M.length=n:=h.lenF;have hi:=(Qr.1 hM).1;obtain⟨e1,e2⟩:=zby hM;have hlt:(i+1)*S.K<=n*S.K:=QO _ (by omega);rw[Nat.succ_mul]at hlt;have hp:=h.putA (0+i*S.K+j) v (by omega);refine⟨hp.1,?_⟩;have hc:(zb S (M.take i)).length=i*S.K:=by rw[yo,e2]
 have hxl:=S.len x;have eM:zb S M=zb S (M.take i)++(S.cs x++zb S (M.drop (i+1))):=by
  conv=>lhs;rw[e1]
  rw[qq];rfl
 have eS:zb S (M.set i y)=zb S (M.take i)++(S.cs y++zb S (M.drop (i+1))):=by
  rw[List.set_eq_take_append_cons_drop,if_pos hi,qq];rfl
 have q:=hp.2;rw[eM]at q;rw[eS,<-hx];have t1:(zb S (M.take i)++(S.cs x++zb S (M.drop (i+1)))).take (0+i*S.K+j)=zb S (M.take i)++(S.cs x).take j:=by
  rw[List.take_append,hc,show 0+i*S.K+j-i*S.K=j by omega,QA (by rw[hc];omega),List.take_append_of_le_length (by omega)]
 have t2:(zb S (M.take i)++(S.cs x++zb S (M.drop (i+1)))).drop (0+i*S.K+j+v.cells.size)=(S.cs x).drop (j+v.cells.size)++zb S (M.drop (i+1)):=by
  rw[List.drop_append,hc,show 0+i*S.K+j+v.cells.size-i*S.K=j+v.cells.size by omega,Qz (by rw[hc];omega),List.nil_append,List.drop_append_of_le_length (by omega)]
 rw[t1,t2]at q;rw[show zb S (M.take i)++((S.cs x).take j++v.cells.toList++(S.cs x).drop (j+v.cells.size)++zb S (M.drop (i+1)))=zb S (M.take i)++(S.cs x).take j++v.cells.toList++((S.cs x).drop (j+v.cells.size)++zb S (M.drop (i+1))) by simp only[QK]];exact q
section
open D2 (Gh)
abbrev ys:=List (Qa×Nat)
def zU:Nat->ys->List MapEntry
 | _,[]=>[]
 | k,x::r=>⟨.string x.1,iN x.2,k⟩::zU (k+1) r
def mpO (A:ys):Obj:=.map (zU 0 A).toArray A.length
def zG (a:Qa):ys->Nat
 | []=>0
 | x::r=>if x.1=a then x.2 else zG a r
def yA (a:Qa)(v:Nat):ys->ys
 | []=>[(a,v)]
 | x::r=>if x.1=a then (a,v)::r else x::yA a v r
def qY (A:ys)(x:Bal):ys:=yA x.2.1 (zG x.2.1 A+1) A
def zs (V:List Bal):ys:=V.foldl qY []
theorem uw (V:List Bal)(x:Bal):zs (V++ [x])=qY (zs V) x:=by unfold zs;rw[List.foldl_append];rfl
theorem ux (a b:Qa)(v:Nat): ∀A:ys,zG b (yA a v A)=if a=b then v else zG b A
 | []=>rfl
 | x::r=>by
  unfold yA;by_cases h:x.1=a
  ·rw[if_pos h];show (if a=b then v else zG b r)=_;by_cases e:a=b
   ·rw[if_pos e,if_pos e]
   ·rw[if_neg e,if_neg e];show _=if x.1=b then x.2 else zG b r;rw[if_neg (by rw[h];exact e)]
  ·rw[if_neg h];show (if x.1=b then x.2 else zG b (yA a v r))=_;rw[ux a b v r];by_cases e:a=b
   ·subst e;rw[if_neg h,if_pos rfl,if_pos rfl]
   ·rw[if_neg e,if_neg e];rfl
theorem uy (a:Qa)(V:List Bal):zG a (zs V)=whoC a V:=by
 refine ug (P:=fun V=>zG a (zs V)=whoC a V) rfl (fun A x ih=>?_) V;rw[uw,kg];unfold qY;rw[ux,<-ih];by_cases e:x.2.1=a
 ·rw[if_pos e,if_pos e,e]
 ·rw[if_neg e,if_neg e,RD]
theorem kt (a:Qa)(v:Nat): ∀(A:ys) (k i:Nat),(Uq .string (.string a) (zU k A) i=some none/\zG a A=0/\yA a v A=A++ [(a,v)])\/
 ∃j n,A[j]? =some (a,n)/\Uq .string (.string a) (zU k A) i=some (some (i+j,iN n))/\zG a A=n/\yA a v A=A.set j (a,v)
 | [],k,i=>.inl ⟨rfl,rfl,rfl⟩
 | x::r,k,i=>by
  by_cases h:x.1=a
  ·refine .inr ⟨0,x.2,by rw[<-h];rfl,?_,by unfold zG;rw[if_pos h],by unfold yA;rw[if_pos h];rfl⟩;show (match Ur .string (.string a) (.string x.1) with | some true=>_ | some false=>_ | none=>_)=_;rw[show Ur .string (.string a) (.string x.1)=some true from congrArg some ((MapKept.bytes_beq _ _).2 h.symm)];rfl
  ·have hs:Ur .string (.string a) (.string x.1)=some false:=congrArg some (QR.2 fun q=>h ((MapKept.bytes_beq _ _).1 q).symm);have hf:Uq .string (.string a) (zU k (x::r)) i=Uq .string (.string a) (zU (k+1) r) (i+1):=by
    show (match Ur .string (.string a) (.string x.1) with | some true=>_ | some false=>_ | none=>_)=_;rw[hs]
   rcases kt a v r (k+1) (i+1) with⟨h1,h2,h3⟩|⟨j,n,h1,h2,h3,h4⟩
   ·exact .inl ⟨hf.trans h1,by unfold zG;rw[if_neg h];exact h2,by unfold yA;rw[if_neg h,h3];rfl⟩
   ·refine .inr ⟨j+1,n,by simpa using h1,?_,by unfold zG;rw[if_neg h];exact h3,by unfold yA;rw[if_neg h,h4];rfl⟩;rw[hf,h2,show i+1+j=i+(j+1) by omega]
theorem uz (a:Qa)(v:Nat): ∀(A:ys) (k:Nat),zU k (A++ [(a,v)])=zU k A++ [⟨.string a,iN v,k+A.length⟩]
 | [],k=>rfl
 | x::r,k=>by
  show _::zU (k+1) (r++ [(a,v)])=_::(zU (k+1) r++_);rw[uz a v r (k+1),show k+1+r.length=k+(x::r).length by rw[Rq];omega]
theorem uA: ∀(A:ys) (k:Nat),(zU k A).length=A.length
 | [],_=>rfl
 | x::r,k=>by show (zU (k+1) r).length+1=_;rw[uA r (k+1)];rfl
theorem uB: ∀(A:ys) (k j:Nat) (x:Qa×Nat),A[j]? =some x->(zU k A)[j]? =some ⟨.string x.1,iN x.2,k+j⟩
 | [],_,_,_,h=>by simp at h
 | y::r,k,0,x,h=>by
  obtain rfl:y=x:=by simpa using h
  rfl
 | y::r,k,j+1,x,h=>by
  show (zU (k+1) r)[j]? =_;rw[uB r (k+1) j x (by simpa using h),show k+1+j=k+(j+1) by omega]
theorem uC (a:Qa)(v:Nat): ∀(A:ys) (k j:Nat),j<A.length->zU k (A.set j (a,v))=(zU k A).set j ⟨.string a,iN v,k+j⟩
 | [],_,_,h=>absurd h (RI _)
 | y::r,k,0,_=>rfl
 | y::r,k,j+1,h=>by
  show _::zU (k+1) (r.set j (a,v))=_::(zU (k+1) r).set j _;rw[uC a v r (k+1) j (by simpa using h),show k+1+j=k+(j+1) by omega]
section
variable {w:World}{b:Nat}{A:ys}
theorem uD (hb:w.heap[b]? =some (mpO A))(a:Qa):(Instr.lookup 68 (.map (some b)) (.string a) false).run Try.prog w=.ok (iN (zG a A)) w:=by
 have hb':w.heap[b]? =some (.map (zU 0 A).toArray A.length):=hb;have hk:MapKept.IsKey .string (.string a):=trivial;have hz:(zeroValue 3).run Try.prog w=.ok (.int .i64 0) w:=kr;rcases kt a 0 A 0 0 with⟨h1,h2,h3⟩ | ⟨j,n,h1,h2,h3,h4⟩
 ·simp[Instr.lookup,run_underlying Try.underlying68,RU hb',RZ Try.underlying9 hk,R4 Try.underlying9 h1,hz,Uo,h2]
 ·simp[Instr.lookup,run_underlying Try.underlying68,RU hb',RZ Try.underlying9 hk,R4 Try.underlying9 h2,Uo,h3]
theorem zbz (hb:w.heap[b]? =some (mpO A))(a:Qa)(v:Nat):(Instr.mapUpdate 68 (.map (some b)) (.string a) (iN v)).run Try.prog w=.ok () { w with heap:=w.heap.setIfInBounds b (mpO (yA a v A)) } :=by
 have hb':w.heap[b]? =some (.map (zU 0 A).toArray A.length):=hb;have hk:MapKept.IsKey .string (.string a):=trivial;rcases kt a v A 0 0 with⟨h1,h2,h3⟩ | ⟨j,n,h1,h2,h3,h4⟩
 ·have e:mpO (yA a v A)=.map ((zU 0 A).toArray.push ⟨.string a,iN v,A.length⟩) (A.length+1):=by
   unfold mpO;rw[h3,uz,Qu,QD];simp
  rw[e];simp[Instr.mapUpdate,run_underlying Try.underlying68,RU hb',RZ Try.underlying9 hk,R4 Try.underlying9 h1,MapKept.run_setObj_map _ hb',Uo]
 ·have hj:j<A.length:=(Qr.1 h1).1;have he:=uB A 0 j _ h1;have e:mpO (yA a v A)=.map ((zU 0 A).toArray.modify j fun e=> { e with key:=.string a,val:=iN v }) A.length:=by
   unfold mpO;rw[h4,uC a v A 0 j hj,List.length_set];congr 1;apply Array.toList_inj.1;rw[Array.toList_modify,UK,UK];apply R0;intro q;rw[List.getElem?_set,List.getElem?_modify];by_cases hq:j=q
   ·subst hq;rw[if_pos rfl,if_pos (by rw[uA];exact hj),he];simp
   ·rw[if_neg hq];simp[hq]
  rw[e];rw[Qu]at h2;have hes:(zU 0 A)[j]? =some ⟨.string a,iN n,0+j⟩:=he;simp[Instr.mapUpdate,run_underlying Try.underlying68,RU hb',RZ Try.underlying9 hk,R4 Try.underlying9 h2,hes,MapKept.run_keyThatStays hk,MapKept.run_setObj_map _ hb',Uo]
end
theorem zbA (x y:Qa):(x.toList==y.toList)=decide (x=y):=by
 by_cases e:x=y
 ·rw[yi _ _ e,decide_eq_true e]
 ·rw[yj _ _ e,decide_eq_false e]
def zB {α:Type}(f:α->Bool):Nat->List α->Int
 | _,[]=> -1
 | k,x::r=>if f x=true then (k:Int) else zB f (k+1) r
theorem xh {α:Type}(f:α->Bool): ∀(L:List α) (k:Nat),(zB f k L= -1/\ ∀x∈L,f x=false)\/∃i x,L[i]? =some x/\zB f k L=((k+i:Nat):Int)/\f x=true/\ ∀y∈L.take i,f y=false
 | [],_=>.inl ⟨rfl,fun x hx=>absurd hx List.not_mem_nil⟩
 | x::r,k=>by
  unfold zB;by_cases h:f x=true
  ·rw[if_pos h];exact .inr ⟨0,x,rfl,rfl,h,fun y hy=>absurd hy (by simp)⟩
  ·rw[if_neg h];rcases xh f r (k+1) with⟨h1,h2⟩ | ⟨i,y,h1,h2,h3,h4⟩
   ·refine .inl ⟨h1,fun y hy=>?_⟩;rcases QJ.1 hy with rfl | hy
    ·exact QR.2 h
    ·exact h2 y hy
   ·refine .inr ⟨i+1,y,by simpa using h1,by rw[h2,show k+1+i=k+(i+1) by omega],h3,fun z hz=>?_⟩;rw[List.take_succ_cons]at hz;rcases QJ.1 hz with rfl | hz
    ·exact QR.2 h
    ·exact h4 z hz
theorem ku {α:Type}{M:List α}{i:Nat}{x:α}(h:i<M.length):(M.set i x).take (i+1)=M.take i++ [x]:=by
 rw[yk (show (M.set i x)[i]? =some x by rw[List.getElem?_set_self h])];congr 1;apply R0;intro q;rw[RY,RY];by_cases hq:q<i
 ·rw[if_pos hq,if_pos hq,List.getElem?_set_ne (by omega)]
 ·rw[if_neg hq,if_neg hq]
theorem zbB (x b:Bal)(k:Nat):FnP Try.prog 40 #[blV x,Qe k] (fun w=>w.heap[k]? =some (blO b)) (.bool (goB b x)):=by
 refine FnP.intro (c:=zr Try.f40) [.tmp 3] 16 Try.func40 kr kr kr fun w hP=>?_;unfold goB;refine rS [.b,.v] (St.start w) kr fun gs1 w1 H1=>?_;by_cases e:x.2.1=b.2.1
 ·rw[decide_eq_true e];refine rS [.v,.l 0,.v,.fs (off:=1) (v:=.string b.2.1) hP (zk hP) kr,.E (.bool (x.2.1.toList==b.2.1.toList)) (.bool true) (za (yi _ _ e)),.v,.n,.n,.n,.n,.n,.v,.v] H1 kr fun gs2 w2 H2=>?_;exact rR [.tmp 3] [] (.bool true) H2 kr
 ·rw[decide_eq_false e,Bool.false_or];by_cases e2:x.1=b.2.1
  ·rw[decide_eq_true e2];refine rS [.v,.l 0,.v,.fs (off:=1) (v:=.string b.2.1) hP (zk hP) kr,.E (.bool (x.2.1.toList==b.2.1.toList)) (.bool false) (za (yj _ _ e)),.v,.v,.l 0,.v,.fs (off:=1) (v:=.string b.2.1) hP (zk hP) kr,.E (.bool (x.1.toList==b.2.1.toList)) (.bool true) (za (yi _ _ e2)),.v,.v] H1 kr fun gs2 w2 H2=>?_;exact rR [.tmp 3] [] (.bool true) H2 kr
  ·rw[decide_eq_false e2];refine rS [.v,.l 0,.v,.fs (off:=1) (v:=.string b.2.1) hP (zk hP) kr,.E (.bool (x.2.1.toList==b.2.1.toList)) (.bool false) (za (yj _ _ e)),.v,.v,.l 0,.v,.fs (off:=1) (v:=.string b.2.1) hP (zk hP) kr,.E (.bool (x.1.toList==b.2.1.toList)) (.bool false) (za (yj _ _ e2)),.v,.v] H1 kr fun gs2 w2 H2=>?_;exact rR [.tmp 3] [] (.bool false) H2 kr
theorem zbC (x:Qa)(b:Bal)(k:Nat):FnP Try.prog 44 #[.string x,Qe k] (fun w=>w.heap[k]? =some (blO b)) (.bool (decide (x=b.2.1))):=by
 refine FnP.intro (c:=zr Try.f44) [.tmp 3] 8 Try.func44 kr kr kr fun w hP=>rS [.v] (St.start w) kr fun gs1 w1 H1=>rS [.v,.v,.fs (off:=1) (v:=.string b.2.1) hP (zk hP) kr,.E (.bool (x.toList==b.2.1.toList)) (.bool (decide (x=b.2.1))) (za (zbA x b.2.1)),.v] H1 kr fun gs2 w2 H2=>?_;exact rR [.tmp 3] [] (.bool (decide (x=b.2.1))) H2 kr
theorem uE (x:Bal)(W:List Bal)(hW:W.length<=1000000)(km kM ks:Nat)(q:Qc)(m cq:Nat)(p:Qc)(n c:Nat)(hm:m<=1000000):FnP Try.prog 54 #[blV x,Qe km,Qe ks] (fun w=>w.heap[km]? =some (.cells #[.map (some kM)] 68 (0,0))/\w.heap[kM]? =some (mpO (zs W))/\w.heap[ks]? =some (snO q m cq p n c)) (.bool (yr W m x)):=by
 refine FnP.intro (c:=zr Try.f54) [.tmp 4] 14 Try.func54 kr kr kr fun w hP=>?_;obtain⟨h1,h2,h3⟩:=hP;have hw:=uf x.2.1 W;refine rS [.b,.v] (St.start w) kr fun gs1 w1 H1=>?_
 refine rS [.fs (off:=0) (v:=.map (some kM)) h1 (zk h1) kr,.v,.l 0,.g [((.tmp 5),.map (some kM)),((.tmp 7),.string x.2.1)] (.lookup 68 (.tmp 5) (.tmp 7) false) [] (fun _=>iN (whoC x.2.1 W)) .no (fun ρ o ww ho hi hd hb=>by
  have hr:=uD (zT h2 (hb.mono (Qs _))) x.2.1;have e:(execOp (ev ρ) o).run Try.prog ww=.ok (.value (iN (zG x.2.1 (zs W)))) ww:=by
   unfold execOp;simp only[ho,hi.1,hi.2.1,QT,hr,QC];rfl
  rw[e,uy]
  exact⟨default,rfl,Below.refl _ _⟩),.E (.int .i64 (Qm.wrap (2*((whoC x.2.1 W:Nat):Int)))) (iN (2*whoC x.2.1 W)) (zf (yu (a:=2) (b:=whoC x.2.1 W) (by omega))),.v,.fs (off:=0) (v:=.slice q m cq) h3 (zk h3) kr,.v,.E (.bool (decide (((2*whoC x.2.1 W:Nat):Int)>(m:Int)))) (.bool (yr W m x)) (za (by unfold yr;rw[Ue,decide_eq_true_iff,decide_eq_true_iff];omega)),.v] H1 kr fun gs2 w2 H2=>?_
 exact rR [.tmp 4] [] (.bool (yr W m x)) H2 kr
theorem zbD (p:Qc)(n c:Nat)(L:List Bal)(c0:Value)(del:Bal->Bool)(pre:World->Prop)(hst: ∀w w',pre w->Below w.heap.size w w'->pre w')(hc: ∀x∈L,FnP Try.prog 40 #[blV x,c0] pre (.bool (del x)))(hL:L.length<=1000000):FnP Try.prog 50 #[.slice p n c,(.func (.func 40) #[] #[c0])] (fun w=>pre w/\AtF blS w p n L) (.int .i64 (zB del 0 L)):=by
 refine FnP.intro (c:=zr Try.f50) [.tmp 4] 19 Try.func50 kr kr kr fun w hPP=>?_;obtain⟨hpre,hP⟩:=hPP;have hn:=hP.1;have H0:=St.start w;refine rS [.v] H0 kr fun gs1 w1 H1=>ze kr<|rS [.v,.v,.v] H1 kr fun gs2 w2 H2=>ye 8 7 9 18 0 1 n (by omega) (fun i ρ ww=>zB del 0 L=zB del i (L.drop i)/\St w.heap.size w ww []/\Is [(0,.slice p n c),(1,.func (.func 40) #[] #[c0]),(7,iN n),(8,iN i)] ρ) (by rintro i _ ww ⟨_,_,_,rfl⟩;exact⟨kr,kr⟩) ⟨rfl,H2.as kr,isK⟩ ?_ ?_
 ·clear H0 H1 H2;rintro i _ w3 hi ⟨hst2,H3,_,rfl⟩;obtain⟨x,hx⟩:∃x,L[i]? =some x:=⟨_,Qj (by omega)⟩
  obtain⟨bl,off,C,T,fz,hp,hh,hR⟩:=hP.row2 (by omega);have hcx2:=hc x (Qo hx);rw[qc hx]at hst2;change zB del 0 L=(if del x=true then (i:Int) else zB del (i+1) (L.drop (i+1)))at hst2;refine rS [.v,.v] H3 kr fun gs4 w4 H4=>?_;cases e:del x with
  | true=>
   rw[e]at hcx2;refine rS [.v,.v,.v,.o (ins:=[((.tmp 12),.slice p n c),((.tmp 13),iN i)]) (v:=.pointer (some ⟨bl,off+i*3,none⟩)) (fun ρ o w ho hi2=>zt (kd:=.i64) (t:=23) (e:=27) (K:=3) (bytes:=40) kr (x:=(.tmp 12)) (y:=(.tmp 13)) bl off n c i hp ho hi2.1 hi2.2.1 (by omega) w),.fp (off:=off+i*3) (n:=3) (W:=blC x) hh (zk hh) (hR _ _ hx).1 (hR _ _ hx).2,.cp (pre:=pre) hcx2 [] (fun w' hb hd=>hst w w' hpre hb)] H4 kr fun gs5 w5 H5=>zu<|rS [.v,.v] H5 kr fun gs6 w6 H6=>?_;exact rRe [.tmp 4] [] (v:=iN i) (v':=.int .i64 (zB del 0 L)) H6 (zf (by rw[hst2,if_pos e])) kr
  | false=>
   rw[e]at hcx2;refine rS [.v,.v,.v,.o (ins:=[((.tmp 12),.slice p n c),((.tmp 13),iN i)]) (v:=.pointer (some ⟨bl,off+i*3,none⟩)) (fun ρ o w ho hi2=>zt (kd:=.i64) (t:=23) (e:=27) (K:=3) (bytes:=40) kr (x:=(.tmp 12)) (y:=(.tmp 13)) bl off n c i hp ho hi2.1 hi2.2.1 (by omega) w),.fp (off:=off+i*3) (n:=3) (W:=blC x) hh (zk hh) (hR _ _ hx).1 (hR _ _ hx).2,.cp (pre:=pre) hcx2 [] (fun w' hb hd=>hst w w' hpre hb)] H4 kr fun gs5 w5 H5=>zq ?_;exact⟨kr,by rw[hst2,if_neg (by rw[e];exact QN)],H5.as kr,isK⟩
 ·rintro _ w3 ⟨hst2,H3,_,rfl⟩;rw[Qz (by omega)]at hst2;refine wW<|rS [.v] H3 kr fun gs4 w4 H4=>?_;exact rRe [.tmp 4] [] (v:=.int .i64 (-1)) (v':=.int .i64 (zB del 0 L)) H4 (zf hst2.symm) kr
theorem zbE (p:Qc)(n c:Nat)(L:List Bal)(c0:Value)(del:Bal->Bool)(pre:World->Prop)(row Lr:Qb){B:Nat}{w0 w:World}(hst: ∀w w',pre w->Below w.heap.size w w'->pre w')(hc: ∀x∈L,FnP Try.prog 40 #[blV x,c0] pre (.bool (del x)))(hpre: ∀(w':World) (X:Qb),St B w0 w' (X++Lr)->pre w')
 (hrow:zz blS 27 p n c row L) (h:St B w0 w (row++Lr)) (hL:L.length<=1000000):
 Calls Try.prog 39 #[.slice p n c,(.func (.func 40) #[] #[c0])] w fun e w'=> ∃v,e=.returned v/\zR B w0 Lr (L.filter (fun x=> !del x)) v w':=by
 refine yt (c:=zr Try.f39) (rs:=[.tmp 4]) (N:=42) Try.func39 kr kr kr ?_;have hlen:=hrow.len;refine rS [.v] h kr fun gs1 w1 H1=>zo [0,1,2,3] kr kr<|rp [.v,.v] H1 kr fun gs2 w2 H2=>wX [2,3] ?_;have H2b:St B w0 w2 (row++Lr):=H2.as kr;refine yJ H2b (some 10) 50 #[.slice p n c,.func (.func 40) #[] #[c0]] _ _ (zbD p n c L c0 del pre hst hc hL) ⟨hpre w2 row H2b,hrow.atF H2b fun e he=>R5 _ he⟩ (fun w=>by kernel_rfl) kr ?_;intro w3 H3;refine rp [.v] H3 kr fun gs3 w4 H4=>wX []<|zl<|wW ?_;have H4b:St B w0 w4 (row++Lr):=H4.as kr;refine ze kr ?_;rcases xh del L 0 with⟨h1,h2⟩ | ⟨i0,x0,hx0,h1,h2,h3⟩
 ·refine rS [.v,.E (.bool (zB del 0 L== -1)) (.bool true) (za (by rw[h1];rfl))] H4b kr fun gs4 w5 H5=>zu<|rS [.v,.v] H5 kr fun gs5 w6 H6=>rRr [.tmp 4] [] (.slice p n c) (zR B w0 Lr (L.filter (fun x=> !del x))) H6 kr ?_;rw[Ra.2 fun x hx=>by rw[h2 x hx];rfl];exact⟨p,n,c,row,rfl,hrow,H6.as kr⟩
 rw[Qu]at h1;have hi0:i0<L.length:=(Qr.1 hx0).1;rcases hrow with⟨rfl,rfl,rfl,rfl,rfl⟩ | ⟨bw,cur0,rfl,rfl,hrw0⟩
 ·simp at hi0
 clear H1 H2 H2b H3 h;refine rS [.v,.E (.bool (zB del 0 L== -1)) (.bool false) (za (by rw[h1];exact beq_eq_false_iff_ne.2 (by omega)))] H4b kr fun gs4 w5 H5=>zq<|wW<|ze kr<|rS [.v,.E (.int .i64 (Qm.wrap (zB del 0 L+1))) (iN (i0+1)) (zf (by rw[h1];exact zw (a:=i0) (b:=1) (by omega))),.v] H5 kr fun gs5 w6 H6=>qb 5 (v:=.int .i64 (zB del 0 L)) (v':=iN i0) (zf h1) kr<|yC 0 kr ?_;have hstart:(L.take (i0+1)).filter (fun x=> !del x)=L.take i0:=by
  rw[yk hx0,Q2,Ra.2 fun y hy=>by rw[h3 y hy];rfl];rw[Q8 (by rw[h2];exact QN)];simp
 refine qQ kr (fun mz ρ ww=> ∃(i j:Nat) (cur:Qd) (M:List Bal),n-j=mz/\i<j/\j<=n/\Rw 3 cur c n (zb blS M)/\M.take i=(L.take j).filter (fun x=> !del x)/\M.drop j=L.drop j/\St B w0 ww ((bw,.cells cur 27)::Lr)/\Is [(0,Qf bw n c),(1,.func (.func 40) #[] #[c0]),(5,iN i),(6,iN j)] ρ) (n-(i0+1)) ⟨i0,i0+1,cur0,L,rfl,RR _,by omega,hrw0,hstart.symm,rfl,H6.as kr,isK⟩ ?_;clear H4 H4b H5 H6 hstart hrw0 h1 h2 h3 hx0;rintro _ _ w4 ⟨i,j,cur,M,rfl,hij,hjn,hrw,htk,hdr,H4,_,rfl⟩;have hMl:M.length=n:=Rw.lenF (S:=blS) hrw;refine ze kr<|ze kr ?_;by_cases hj:j<n
 ·refine rL [.v,.v,.v,.E (.bool (decide ((j:Int)<(n:Int)))) (.bool true) (za (decide_eq_true (by omega)))] H4 kr fun gs4 w5 H5=>wW<|yd kr kr<|zQ kr<|wW<|ze kr<|yC 1 kr ?_;obtain⟨x,hx⟩:∃x,L[j]? =some x:=⟨_,Qj (by omega)⟩
  have hxM:M[j]? =some x:=by
   have:=congrArg (fun l=>l[0]?) hdr;simp only[Uh,RD]at this;rw[this,hx]
  have hR:=Rw.rowAt (S:=blS) hrw;have hcx:=hc x (Qo hx);refine zo [0,1,2,3,4,5] kr kr<|rp [.v,.v,.o (ins:=[((.tmp 22),Qf bw n c),((.tmp 23),iN j)]) (v:=.pointer (some ⟨bw,0+j*3,none⟩)) (fun ρ o w ho hi2=>zt (kd:=.i64) (t:=23) (e:=27) (K:=3) (bytes:=40) kr (x:=(.tmp 22)) (y:=(.tmp 23)) bw 0 n c j rfl ho hi2.1 hi2.2.1 (by omega) w),.lp 0 (C:=cur) (off:=0+j*3) (n:=3) (W:=blC x) (hR _ _ hxM).1 (hR _ _ hxM).2] H5 kr fun gs7 w7 H7=>wX [4,5] ?_;have H8:St B w0 w7 ((bw,.cells cur 27)::Lr):=H7.as kr;refine yD H8 (some 7) 27 (.agg #[.string em,.string em,.bool false]) kr kr kr ?_;intro b7 w8 H9;refine rp [.s 0] H9 kr fun gs9 w9 H10=>wX []<|zl<|wW ?_;have H11:St B w0 w9 ((b7,blO x)::(bw,.cells cur 27)::Lr):=H10.as kr;cases e:del x with
  | false=>
   rw[e]at hcx;refine zo [0,1,2,3] kr kr<|rp [.v,.l 0] H11 kr fun gsa wa Ha=>wX [2,3] ?_;have Hb:St B w0 wa ((b7,blO x)::(bw,.cells cur 27)::Lr):=Ha.as kr;refine yJ Hb (some 28) 40 #[blV x,c0] _ _ hcx (hpre wa [(b7,blO x),(bw,.cells cur 27)] Hb) (fun w=>by kernel_rfl) kr ?_;intro wc Hc;refine rp [.v] Hc kr fun gsd wd Hd=>wX []<|zl<|wW ?_;have He:St B w0 wd ((b7,blO x)::(bw,.cells cur 27)::Lr):=Hd.as kr;refine zu ?_;have hset:=Rw.setF (S:=blS) hrw (show M[i]? =some M[i] from Qj (by omega)) 0 (blV x) (Qs _) (y:=x) rfl;refine rS [.v,.v,.l 0,.o (ins:=[((.tmp 30),Qf bw n c),((.tmp 31),iN i)]) (v:=.pointer (some ⟨bw,0+i*3,none⟩)) (fun ρ o w ho hi2=>zt (kd:=.i64) (t:=23) (e:=27) (K:=3) (bytes:=40) kr (x:=(.tmp 30)) (y:=(.tmp 31)) bw 0 n c i rfl ho hi2.1 hi2.2.1 (by omega) w),.se 1 (C:=cur) (C':=putA cur (0+i*3+0) (blV x)) (off:=0+i*3) (v:=blV x) hset.1 rfl] He kr fun gsf wf Hf=>rL [.v,.E (.int .i64 (Qm.wrap ((i:Int)+1))) (iN (i+1)) (zf (zw (a:=i) (b:=1) (by omega))),.v] Hf kr fun gsg wg Hg=>wW<|rL [.v,.E (.int .i64 (Qm.wrap ((j:Int)+1))) (iN (j+1)) (zf (zw (a:=j) (b:=1) (by omega))),.v] Hg kr fun gsh wh Hh=>?_;show ∃m,_/\_;refine⟨_,(by omega),i+1,j+1,_,M.set i x,rfl,by omega,hj,hset.2,?_,?_,(Hh.as (l:=(b7,blO x)::(bw,.cells (putA cur (0+i*3+0) (blV x)) 27)::Lr) kr).sub (Qp ..),isK⟩
   ·rw[ku (by omega),htk,yk hx,Q2,RG (by rw[e];rfl)];rfl
   ·rw[List.drop_set_of_lt (by omega),<-Rb,<-Rb,hdr]
  | true=>
   rw[e]at hcx;refine zo [0,1,2,3] kr kr<|rp [.v,.l 0] H11 kr fun gsa wa Ha=>wX [2,3] ?_;have Hb:St B w0 wa ((b7,blO x)::(bw,.cells cur 27)::Lr):=Ha.as kr;refine yJ Hb (some 28) 40 #[blV x,c0] _ _ hcx (hpre wa [(b7,blO x),(bw,.cells cur 27)] Hb) (fun w=>by kernel_rfl) kr ?_;intro wc Hc;refine rp [.v] Hc kr fun gsd wd Hd=>wX []<|zl<|wW ?_;have He:St B w0 wd ((b7,blO x)::(bw,.cells cur 27)::Lr):=Hd.as kr;refine zq<|wW<|rL [.v,.E (.int .i64 (Qm.wrap ((j:Int)+1))) (iN (j+1)) (zf (zw (a:=j) (b:=1) (by omega))),.v] He kr fun gsh wh Hh=>?_;show ∃m,_/\_;refine⟨_,(by omega),i,j+1,cur,M,rfl,by omega,hj,hrw,?_,?_,(Hh.as (l:=(b7,blO x)::(bw,.cells cur 27)::Lr) kr).sub (Qp ..),isK⟩
   ·rw[htk,yk hx,Q2,Q8 (by rw[e];exact QN)];simp
   ·rw[<-Rb,<-Rb,hdr]
 ·refine rL [.v,.v,.v,.E (.bool (decide ((j:Int)<(n:Int)))) (.bool false) (za (decide_eq_false (by omega)))] H4 kr fun gs4 w5 H5=>wW<|zN kr kr<|qm 0 kr<|wW ?_;obtain rfl:j=n:=by omega
  rw[QA (l:=L) (by omega)]at htk;have hle:=hrw.le;refine zo [0,1,2,3] kr kr<|rp [.v,.v,.oe (ins:=[((.tmp 36),Qf bw j c),((.tmp 37),iN i)]) (v:=.slice (some ⟨bw,if c=i then 0 else 0+i*3,none⟩) (j-i) (c-i)) (v':=.slice (some ⟨bw,i*3,none⟩) (j-i) (c-i)) (fun ρ o w ho hi2=>zX (kz:=.i64) (t:=23) (e:=27) (size:=3) (bytes:=40) kr (x:=(.tmp 36)) (z:=(.tmp 37)) bw 0 j c i ho hi2.1 hi2.2.1 (by omega) hle w) (by rw[if_neg (by omega),Qu])] H5 kr fun gs6 w6 H6=>wX [3] ?_;have H7:St B w0 w6 ((bw,.cells cur 27)::Lr):=H6.as kr;have hsz:=hrw.sz;refine xN H7 none 23 27 3 40 (.tmp 38) 0 bw (i*3) (j-i) (c-i) cur 27 kr kr kr kr kr rfl (by omega) (by rw[hsz,<-Ug];exact QO _ (by omega)) ?_;intro Z w7 hZ H8;refine zl<|wW ?_;have H9:St B w0 w7 ((bw,.cells (zg cur (i*3) Z) 27)::Lr):=H8.as kr;refine rS [.v,.v,.o (ins:=[((.tmp 39),Qf bw j c),((.tmp 40),iN i)]) (v:=Qf bw i c) (fun ρ o w ho hi2=>qD (kd:=.i64) (t:=23) (e:=27) (size:=3) (bytes:=40) kr (x:=(.tmp 39)) (y:=(.tmp 40)) bw j c i ho hi2.1 hi2.2.1 (by omega) w),.v] H9 kr fun gs8 w8 H10=>rRr [.tmp 4] [] (Qf bw i c) (zR B w0 Lr (L.filter (fun x=> !del x))) H10 kr ?_;refine⟨Qg bw,i,c,[(bw,.cells (zg cur (i*3) Z) 27)],rfl,.inr ⟨bw,_,rfl,rfl,?_⟩,H10.as kr⟩;have hfit:i*3+Z.length<=cur.size:=by rw[hZ,hsz,<-Ug];exact QO _ (by omega)
  have hfl:(L.filter (fun x=> !del x)).length=i:=by rw[<-htk,Qv];omega
  refine⟨by rw[yo,hfl],by omega,hrw.max,?_,by rw[yp hfit];exact hsz⟩;show (zg cur (i*3) Z).toList.take (i*3)=_;have e1:zb blS (L.filter (fun x=> !del x))=(zb blS M).take (i*3):=by rw[<-htk,jw M i (by omega)];rfl
  rw[jo (C:=cur) (o:=i*3) (vs:=Z) (m:=i*3) (by omega) (Qs _),e1,<-hrw.take,R7,Rk (QO _ (by omega))]
theorem zbF (p:Qc)(n c:Nat)(L:List Bal)(c0 c1:Value)(del:Bal->Bool)(pre:World->Prop)(hst: ∀w w',pre w->Below w.heap.size w w'->pre w')(hc: ∀x∈L,FnP Try.prog 54 #[blV x,c0,c1] pre (.bool (del x)))(hL:L.length<=1000000):FnP Try.prog 50 #[.slice p n c,(.func (.func 54) #[] #[c0,c1])] (fun w=>pre w/\AtF blS w p n L) (.int .i64 (zB del 0 L)):=by
 refine FnP.intro (c:=zr Try.f50) [.tmp 4] 19 Try.func50 kr kr kr fun w hPP=>?_;obtain⟨hpre,hP⟩:=hPP;have hn:=hP.1;have H0:=St.start w;refine rS [.v] H0 kr fun gs1 w1 H1=>ze kr<|rS [.v,.v,.v] H1 kr fun gs2 w2 H2=>ye 8 7 9 18 0 1 n (by omega) (fun i ρ ww=>zB del 0 L=zB del i (L.drop i)/\St w.heap.size w ww []/\Is [(0,.slice p n c),(1,.func (.func 54) #[] #[c0,c1]),(7,iN n),(8,iN i)] ρ) (by rintro i _ ww ⟨_,_,_,rfl⟩;exact⟨kr,kr⟩) ⟨rfl,H2.as kr,isK⟩ ?_ ?_
 ·clear H0 H1 H2;rintro i _ w3 hi ⟨hst2,H3,_,rfl⟩;obtain⟨x,hx⟩:∃x,L[i]? =some x:=⟨_,Qj (by omega)⟩
  obtain⟨bl,off,C,T,fz,hp,hh,hR⟩:=hP.row2 (by omega);have hcx2:=hc x (Qo hx);rw[qc hx]at hst2;change zB del 0 L=(if del x=true then (i:Int) else zB del (i+1) (L.drop (i+1)))at hst2;refine rS [.v,.v] H3 kr fun gs4 w4 H4=>?_;cases e:del x with
  | true=>
   rw[e]at hcx2;refine rS [.v,.v,.v,.o (ins:=[((.tmp 12),.slice p n c),((.tmp 13),iN i)]) (v:=.pointer (some ⟨bl,off+i*3,none⟩)) (fun ρ o w ho hi2=>zt (kd:=.i64) (t:=23) (e:=27) (K:=3) (bytes:=40) kr (x:=(.tmp 12)) (y:=(.tmp 13)) bl off n c i hp ho hi2.1 hi2.2.1 (by omega) w),.fp (off:=off+i*3) (n:=3) (W:=blC x) hh (zk hh) (hR _ _ hx).1 (hR _ _ hx).2,.cp (pre:=pre) hcx2 [] (fun w' hb hd=>hst w w' hpre hb)] H4 kr fun gs5 w5 H5=>zu<|rS [.v,.v] H5 kr fun gs6 w6 H6=>?_;exact rRe [.tmp 4] [] (v:=iN i) (v':=.int .i64 (zB del 0 L)) H6 (zf (by rw[hst2,if_pos e])) kr
  | false=>
   rw[e]at hcx2;refine rS [.v,.v,.v,.o (ins:=[((.tmp 12),.slice p n c),((.tmp 13),iN i)]) (v:=.pointer (some ⟨bl,off+i*3,none⟩)) (fun ρ o w ho hi2=>zt (kd:=.i64) (t:=23) (e:=27) (K:=3) (bytes:=40) kr (x:=(.tmp 12)) (y:=(.tmp 13)) bl off n c i hp ho hi2.1 hi2.2.1 (by omega) w),.fp (off:=off+i*3) (n:=3) (W:=blC x) hh (zk hh) (hR _ _ hx).1 (hR _ _ hx).2,.cp (pre:=pre) hcx2 [] (fun w' hb hd=>hst w w' hpre hb)] H4 kr fun gs5 w5 H5=>zq ?_;exact⟨kr,by rw[hst2,if_neg (by rw[e];exact QN)],H5.as kr,isK⟩
 ·rintro _ w3 ⟨hst2,H3,_,rfl⟩;rw[Qz (by omega)]at hst2;refine wW<|rS [.v] H3 kr fun gs4 w4 H4=>?_;exact rRe [.tmp 4] [] (v:=.int .i64 (-1)) (v':=.int .i64 (zB del 0 L)) H4 (zf hst2.symm) kr
theorem uF (p:Qc)(n c:Nat)(L:List Bal)(c0 c1:Value)(del:Bal->Bool)(pre:World->Prop)(row Lr:Qb){B:Nat}{w0 w:World}(hst: ∀w w',pre w->Below w.heap.size w w'->pre w')(hc: ∀x∈L,FnP Try.prog 54 #[blV x,c0,c1] pre (.bool (del x)))(hpre: ∀(w':World) (X:Qb),St B w0 w' (X++Lr)->pre w')
 (hrow:zz blS 27 p n c row L) (h:St B w0 w (row++Lr)) (hL:L.length<=1000000):
 Calls Try.prog 39 #[.slice p n c,(.func (.func 54) #[] #[c0,c1])] w fun e w'=> ∃v,e=.returned v/\zR B w0 Lr (L.filter (fun x=> !del x)) v w':=by
 refine yt (c:=zr Try.f39) (rs:=[.tmp 4]) (N:=42) Try.func39 kr kr kr ?_;have hlen:=hrow.len;refine rS [.v] h kr fun gs1 w1 H1=>zo [0,1,2,3] kr kr<|rp [.v,.v] H1 kr fun gs2 w2 H2=>wX [2,3] ?_;have H2b:St B w0 w2 (row++Lr):=H2.as kr;refine yJ H2b (some 10) 50 #[.slice p n c,.func (.func 54) #[] #[c0,c1]] _ _ (zbF p n c L c0 c1 del pre hst hc hL) ⟨hpre w2 row H2b,hrow.atF H2b fun e he=>R5 _ he⟩ (fun w=>by kernel_rfl) kr ?_;intro w3 H3;refine rp [.v] H3 kr fun gs3 w4 H4=>wX []<|zl<|wW ?_;have H4b:St B w0 w4 (row++Lr):=H4.as kr;refine ze kr ?_;rcases xh del L 0 with⟨h1,h2⟩ | ⟨i0,x0,hx0,h1,h2,h3⟩
 ·refine rS [.v,.E (.bool (zB del 0 L== -1)) (.bool true) (za (by rw[h1];rfl))] H4b kr fun gs4 w5 H5=>zu<|rS [.v,.v] H5 kr fun gs5 w6 H6=>rRr [.tmp 4] [] (.slice p n c) (zR B w0 Lr (L.filter (fun x=> !del x))) H6 kr ?_;rw[Ra.2 fun x hx=>by rw[h2 x hx];rfl];exact⟨p,n,c,row,rfl,hrow,H6.as kr⟩
 rw[Qu]at h1;have hi0:i0<L.length:=(Qr.1 hx0).1;rcases hrow with⟨rfl,rfl,rfl,rfl,rfl⟩ | ⟨bw,cur0,rfl,rfl,hrw0⟩
 ·simp at hi0
 clear H1 H2 H2b H3 h;refine rS [.v,.E (.bool (zB del 0 L== -1)) (.bool false) (za (by rw[h1];exact beq_eq_false_iff_ne.2 (by omega)))] H4b kr fun gs4 w5 H5=>zq<|wW<|ze kr<|rS [.v,.E (.int .i64 (Qm.wrap (zB del 0 L+1))) (iN (i0+1)) (zf (by rw[h1];exact zw (a:=i0) (b:=1) (by omega))),.v] H5 kr fun gs5 w6 H6=>qb 5 (v:=.int .i64 (zB del 0 L)) (v':=iN i0) (zf h1) kr<|yC 0 kr ?_;have hstart:(L.take (i0+1)).filter (fun x=> !del x)=L.take i0:=by
  rw[yk hx0,Q2,Ra.2 fun y hy=>by rw[h3 y hy];rfl];rw[Q8 (by rw[h2];exact QN)];simp
 refine qQ kr (fun mz ρ ww=> ∃(i j:Nat) (cur:Qd) (M:List Bal),n-j=mz/\i<j/\j<=n/\Rw 3 cur c n (zb blS M)/\M.take i=(L.take j).filter (fun x=> !del x)/\M.drop j=L.drop j/\St B w0 ww ((bw,.cells cur 27)::Lr)/\Is [(0,Qf bw n c),(1,.func (.func 54) #[] #[c0,c1]),(5,iN i),(6,iN j)] ρ) (n-(i0+1)) ⟨i0,i0+1,cur0,L,rfl,RR _,by omega,hrw0,hstart.symm,rfl,H6.as kr,isK⟩ ?_;clear H4 H4b H5 H6 hstart hrw0 h1 h2 h3 hx0;rintro _ _ w4 ⟨i,j,cur,M,rfl,hij,hjn,hrw,htk,hdr,H4,_,rfl⟩;have hMl:M.length=n:=Rw.lenF (S:=blS) hrw;refine ze kr<|ze kr ?_;by_cases hj:j<n
 ·refine rL [.v,.v,.v,.E (.bool (decide ((j:Int)<(n:Int)))) (.bool true) (za (decide_eq_true (by omega)))] H4 kr fun gs4 w5 H5=>wW<|yd kr kr<|zQ kr<|wW<|ze kr<|yC 1 kr ?_;obtain⟨x,hx⟩:∃x,L[j]? =some x:=⟨_,Qj (by omega)⟩
  have hxM:M[j]? =some x:=by
   have:=congrArg (fun l=>l[0]?) hdr;simp only[Uh,RD]at this;rw[this,hx]
  have hR:=Rw.rowAt (S:=blS) hrw;have hcx:=hc x (Qo hx);refine zo [0,1,2,3,4,5] kr kr<|rp [.v,.v,.o (ins:=[((.tmp 22),Qf bw n c),((.tmp 23),iN j)]) (v:=.pointer (some ⟨bw,0+j*3,none⟩)) (fun ρ o w ho hi2=>zt (kd:=.i64) (t:=23) (e:=27) (K:=3) (bytes:=40) kr (x:=(.tmp 22)) (y:=(.tmp 23)) bw 0 n c j rfl ho hi2.1 hi2.2.1 (by omega) w),.lp 0 (C:=cur) (off:=0+j*3) (n:=3) (W:=blC x) (hR _ _ hxM).1 (hR _ _ hxM).2] H5 kr fun gs7 w7 H7=>wX [4,5] ?_;have H8:St B w0 w7 ((bw,.cells cur 27)::Lr):=H7.as kr;refine yD H8 (some 7) 27 (.agg #[.string em,.string em,.bool false]) kr kr kr ?_;intro b7 w8 H9;refine rp [.s 0] H9 kr fun gs9 w9 H10=>wX []<|zl<|wW ?_;have H11:St B w0 w9 ((b7,blO x)::(bw,.cells cur 27)::Lr):=H10.as kr;cases e:del x with
  | false=>
   rw[e]at hcx;refine zo [0,1,2,3] kr kr<|rp [.v,.l 0] H11 kr fun gsa wa Ha=>wX [2,3] ?_;have Hb:St B w0 wa ((b7,blO x)::(bw,.cells cur 27)::Lr):=Ha.as kr;refine yJ Hb (some 28) 54 #[blV x,c0,c1] _ _ hcx (hpre wa [(b7,blO x),(bw,.cells cur 27)] Hb) (fun w=>by kernel_rfl) kr ?_;intro wc Hc;refine rp [.v] Hc kr fun gsd wd Hd=>wX []<|zl<|wW ?_;have He:St B w0 wd ((b7,blO x)::(bw,.cells cur 27)::Lr):=Hd.as kr;refine zu ?_;have hset:=Rw.setF (S:=blS) hrw (show M[i]? =some M[i] from Qj (by omega)) 0 (blV x) (Qs _) (y:=x) rfl;refine rS [.v,.v,.l 0,.o (ins:=[((.tmp 30),Qf bw n c),((.tmp 31),iN i)]) (v:=.pointer (some ⟨bw,0+i*3,none⟩)) (fun ρ o w ho hi2=>zt (kd:=.i64) (t:=23) (e:=27) (K:=3) (bytes:=40) kr (x:=(.tmp 30)) (y:=(.tmp 31)) bw 0 n c i rfl ho hi2.1 hi2.2.1 (by omega) w),.se 1 (C:=cur) (C':=putA cur (0+i*3+0) (blV x)) (off:=0+i*3) (v:=blV x) hset.1 rfl] He kr fun gsf wf Hf=>rL [.v,.E (.int .i64 (Qm.wrap ((i:Int)+1))) (iN (i+1)) (zf (zw (a:=i) (b:=1) (by omega))),.v] Hf kr fun gsg wg Hg=>wW<|rL [.v,.E (.int .i64 (Qm.wrap ((j:Int)+1))) (iN (j+1)) (zf (zw (a:=j) (b:=1) (by omega))),.v] Hg kr fun gsh wh Hh=>?_;show ∃m,_/\_;refine⟨_,(by omega),i+1,j+1,_,M.set i x,rfl,by omega,hj,hset.2,?_,?_,(Hh.as (l:=(b7,blO x)::(bw,.cells (putA cur (0+i*3+0) (blV x)) 27)::Lr) kr).sub (Qp ..),isK⟩
   ·rw[ku (by omega),htk,yk hx,Q2,RG (by rw[e];rfl)];rfl
   ·rw[List.drop_set_of_lt (by omega),<-Rb,<-Rb,hdr]
  | true=>
   rw[e]at hcx;refine zo [0,1,2,3] kr kr<|rp [.v,.l 0] H11 kr fun gsa wa Ha=>wX [2,3] ?_;have Hb:St B w0 wa ((b7,blO x)::(bw,.cells cur 27)::Lr):=Ha.as kr;refine yJ Hb (some 28) 54 #[blV x,c0,c1] _ _ hcx (hpre wa [(b7,blO x),(bw,.cells cur 27)] Hb) (fun w=>by kernel_rfl) kr ?_;intro wc Hc;refine rp [.v] Hc kr fun gsd wd Hd=>wX []<|zl<|wW ?_;have He:St B w0 wd ((b7,blO x)::(bw,.cells cur 27)::Lr):=Hd.as kr;refine zq<|wW<|rL [.v,.E (.int .i64 (Qm.wrap ((j:Int)+1))) (iN (j+1)) (zf (zw (a:=j) (b:=1) (by omega))),.v] He kr fun gsh wh Hh=>?_;show ∃m,_/\_;refine⟨_,(by omega),i,j+1,cur,M,rfl,by omega,hj,hrw,?_,?_,(Hh.as (l:=(b7,blO x)::(bw,.cells cur 27)::Lr) kr).sub (Qp ..),isK⟩
   ·rw[htk,yk hx,Q2,Q8 (by rw[e];exact QN)];simp
   ·rw[<-Rb,<-Rb,hdr]
 ·refine rL [.v,.v,.v,.E (.bool (decide ((j:Int)<(n:Int)))) (.bool false) (za (decide_eq_false (by omega)))] H4 kr fun gs4 w5 H5=>wW<|zN kr kr<|qm 0 kr<|wW ?_;obtain rfl:j=n:=by omega
  rw[QA (l:=L) (by omega)]at htk;have hle:=hrw.le;refine zo [0,1,2,3] kr kr<|rp [.v,.v,.oe (ins:=[((.tmp 36),Qf bw j c),((.tmp 37),iN i)]) (v:=.slice (some ⟨bw,if c=i then 0 else 0+i*3,none⟩) (j-i) (c-i)) (v':=.slice (some ⟨bw,i*3,none⟩) (j-i) (c-i)) (fun ρ o w ho hi2=>zX (kz:=.i64) (t:=23) (e:=27) (size:=3) (bytes:=40) kr (x:=(.tmp 36)) (z:=(.tmp 37)) bw 0 j c i ho hi2.1 hi2.2.1 (by omega) hle w) (by rw[if_neg (by omega),Qu])] H5 kr fun gs6 w6 H6=>wX [3] ?_;have H7:St B w0 w6 ((bw,.cells cur 27)::Lr):=H6.as kr;have hsz:=hrw.sz;refine xN H7 none 23 27 3 40 (.tmp 38) 0 bw (i*3) (j-i) (c-i) cur 27 kr kr kr kr kr rfl (by omega) (by rw[hsz,<-Ug];exact QO _ (by omega)) ?_;intro Z w7 hZ H8;refine zl<|wW ?_;have H9:St B w0 w7 ((bw,.cells (zg cur (i*3) Z) 27)::Lr):=H8.as kr;refine rS [.v,.v,.o (ins:=[((.tmp 39),Qf bw j c),((.tmp 40),iN i)]) (v:=Qf bw i c) (fun ρ o w ho hi2=>qD (kd:=.i64) (t:=23) (e:=27) (size:=3) (bytes:=40) kr (x:=(.tmp 39)) (y:=(.tmp 40)) bw j c i ho hi2.1 hi2.2.1 (by omega) w),.v] H9 kr fun gs8 w8 H10=>rRr [.tmp 4] [] (Qf bw i c) (zR B w0 Lr (L.filter (fun x=> !del x))) H10 kr ?_;refine⟨Qg bw,i,c,[(bw,.cells (zg cur (i*3) Z) 27)],rfl,.inr ⟨bw,_,rfl,rfl,?_⟩,H10.as kr⟩;have hfit:i*3+Z.length<=cur.size:=by rw[hZ,hsz,<-Ug];exact QO _ (by omega)
  have hfl:(L.filter (fun x=> !del x)).length=i:=by rw[<-htk,Qv];omega
  refine⟨by rw[yo,hfl],by omega,hrw.max,?_,by rw[yp hfit];exact hsz⟩;show (zg cur (i*3) Z).toList.take (i*3)=_;have e1:zb blS (L.filter (fun x=> !del x))=(zb blS M).take (i*3):=by rw[<-htk,jw M i (by omega)];rfl
  rw[jo (C:=cur) (o:=i*3) (vs:=Z) (m:=i*3) (by omega) (Qs _),e1,<-hrw.take,R7,Rk (QO _ (by omega))]
theorem zbG (p:Qc)(n c:Nat)(L:Qi)(c0:Value)(del:Qa->Bool)(pre:World->Prop)(hst: ∀w w',pre w->Below w.heap.size w w'->pre w')(hc: ∀x∈L,FnP Try.prog 44 #[.string x,c0] pre (.bool (del x)))(hL:L.length<=1000000):FnP Try.prog 53 #[.slice p n c,(.func (.func 44) #[] #[c0])] (fun w=>pre w/\AtF sS w p n L) (.int .i64 (zB del 0 L)):=by
 refine FnP.intro (c:=zr Try.f53) [.tmp 4] 19 Try.func53 kr kr kr fun w hPP=>?_;obtain⟨hpre,hP⟩:=hPP;have hn:=hP.1;have H0:=St.start w;refine rS [.v] H0 kr fun gs1 w1 H1=>ze kr<|rS [.v,.v,.v] H1 kr fun gs2 w2 H2=>ye 8 7 9 18 0 1 n (by omega) (fun i ρ ww=>zB del 0 L=zB del i (L.drop i)/\St w.heap.size w ww []/\Is [(0,.slice p n c),(1,.func (.func 44) #[] #[c0]),(7,iN n),(8,iN i)] ρ) (by rintro i _ ww ⟨_,_,_,rfl⟩;exact⟨kr,kr⟩) ⟨rfl,H2.as kr,isK⟩ ?_ ?_
 ·clear H0 H1 H2;rintro i _ w3 hi ⟨hst2,H3,_,rfl⟩;obtain⟨x,hx⟩:∃x,L[i]? =some x:=⟨_,Qj (by omega)⟩
  obtain⟨bl,off,C,T,fz,hp,hh,hR⟩:=hP.row2 (by omega);have hcx:C[off+i*1]? =some (.string x):=hR.cell hx 0 (by decide);have hcx2:=hc x (Qo hx);rw[qc hx]at hst2;change zB del 0 L=(if del x=true then (i:Int) else zB del (i+1) (L.drop (i+1)))at hst2;refine rS [.v,.v] H3 kr fun gs4 w4 H4=>?_;cases e:del x with
  | true=>
   rw[e]at hcx2;refine rS [.v,.v,.v,.o (ins:=[((.tmp 12),.slice p n c),((.tmp 13),iN i)]) (v:=.pointer (some ⟨bl,off+i*1,none⟩)) (fun ρ o w ho hi2=>zt (kd:=.i64) (t:=22) (e:=9) (K:=1) (bytes:=16) kr (x:=(.tmp 12)) (y:=(.tmp 13)) bl off n c i hp ho hi2.1 hi2.2.1 (by omega) w),.fs (off:=off+i*1) (v:=.string x) hh (zk hh) hcx,.cp (pre:=pre) hcx2 [] (fun w' hb hd=>hst w w' hpre hb)] H4 kr fun gs5 w5 H5=>zu<|rS [.v,.v] H5 kr fun gs6 w6 H6=>?_;exact rRe [.tmp 4] [] (v:=iN i) (v':=.int .i64 (zB del 0 L)) H6 (zf (by rw[hst2,if_pos e])) kr
  | false=>
   rw[e]at hcx2;refine rS [.v,.v,.v,.o (ins:=[((.tmp 12),.slice p n c),((.tmp 13),iN i)]) (v:=.pointer (some ⟨bl,off+i*1,none⟩)) (fun ρ o w ho hi2=>zt (kd:=.i64) (t:=22) (e:=9) (K:=1) (bytes:=16) kr (x:=(.tmp 12)) (y:=(.tmp 13)) bl off n c i hp ho hi2.1 hi2.2.1 (by omega) w),.fs (off:=off+i*1) (v:=.string x) hh (zk hh) hcx,.cp (pre:=pre) hcx2 [] (fun w' hb hd=>hst w w' hpre hb)] H4 kr fun gs5 w5 H5=>zq ?_;exact⟨kr,by rw[hst2,if_neg (by rw[e];exact QN)],H5.as kr,isK⟩
 ·rintro _ w3 ⟨hst2,H3,_,rfl⟩;rw[Qz (by omega)]at hst2;refine wW<|rS [.v] H3 kr fun gs4 w4 H4=>?_;exact rRe [.tmp 4] [] (v:=.int .i64 (-1)) (v':=.int .i64 (zB del 0 L)) H4 (zf hst2.symm) kr
theorem zbH (p:Qc)(n c:Nat)(L:Qi)(c0:Value)(del:Qa->Bool)(pre:World->Prop)(row Lr:Qb){B:Nat}{w0 w:World}(hst: ∀w w',pre w->Below w.heap.size w w'->pre w')(hc: ∀x∈L,FnP Try.prog 44 #[.string x,c0] pre (.bool (del x)))(hpre: ∀(w':World) (X:Qb),St B w0 w' (X++Lr)->pre w')
 (hrow:zz sS 9 p n c row L) (h:St B w0 w (row++Lr)) (hL:L.length<=1000000):
 Calls Try.prog 43 #[.slice p n c,(.func (.func 44) #[] #[c0])] w fun e w'=> ∃v,e=.returned v/\zY B w0 Lr (L.filter (fun x=> !del x)) v w':=by
 refine yt (c:=zr Try.f43) (rs:=[.tmp 4]) (N:=42) Try.func43 kr kr kr ?_;have hlen:=hrow.len;refine rS [.v] h kr fun gs1 w1 H1=>zo [0,1,2,3] kr kr<|rp [.v,.v] H1 kr fun gs2 w2 H2=>wX [2,3] ?_;have H2b:St B w0 w2 (row++Lr):=H2.as kr;refine yJ H2b (some 10) 53 #[.slice p n c,.func (.func 44) #[] #[c0]] _ _ (zbG p n c L c0 del pre hst hc hL) ⟨hpre w2 row H2b,hrow.atF H2b fun e he=>R5 _ he⟩ (fun w=>by kernel_rfl) kr ?_;intro w3 H3;refine rp [.v] H3 kr fun gs3 w4 H4=>wX []<|zl<|wW ?_;have H4b:St B w0 w4 (row++Lr):=H4.as kr;refine ze kr ?_;rcases xh del L 0 with⟨h1,h2⟩ | ⟨i0,x0,hx0,h1,h2,h3⟩
 ·refine rS [.v,.E (.bool (zB del 0 L== -1)) (.bool true) (za (by rw[h1];rfl))] H4b kr fun gs4 w5 H5=>zu<|rS [.v,.v] H5 kr fun gs5 w6 H6=>rRr [.tmp 4] [] (.slice p n c) (zY B w0 Lr (L.filter (fun x=> !del x))) H6 kr ?_;rw[Ra.2 fun x hx=>by rw[h2 x hx];rfl];exact⟨p,n,c,row,rfl,hrow,H6.as kr⟩
 rw[Qu]at h1;have hi0:i0<L.length:=(Qr.1 hx0).1;rcases hrow with⟨rfl,rfl,rfl,rfl,rfl⟩ | ⟨bw,cur0,rfl,rfl,hrw0⟩
 ·simp at hi0
 clear H1 H2 H2b H3 h;refine rS [.v,.E (.bool (zB del 0 L== -1)) (.bool false) (za (by rw[h1];exact beq_eq_false_iff_ne.2 (by omega)))] H4b kr fun gs4 w5 H5=>zq<|wW<|ze kr<|rS [.v,.E (.int .i64 (Qm.wrap (zB del 0 L+1))) (iN (i0+1)) (zf (by rw[h1];exact zw (a:=i0) (b:=1) (by omega))),.v] H5 kr fun gs5 w6 H6=>qb 5 (v:=.int .i64 (zB del 0 L)) (v':=iN i0) (zf h1) kr<|yC 0 kr ?_;have hstart:(L.take (i0+1)).filter (fun x=> !del x)=L.take i0:=by
  rw[yk hx0,Q2,Ra.2 fun y hy=>by rw[h3 y hy];rfl];rw[Q8 (by rw[h2];exact QN)];simp
 refine qQ kr (fun mz ρ ww=> ∃(i j:Nat) (cur:Qd) (M:Qi),n-j=mz/\i<j/\j<=n/\Rw 1 cur c n (zb sS M)/\M.take i=(L.take j).filter (fun x=> !del x)/\M.drop j=L.drop j/\St B w0 ww ((bw,.cells cur 9)::Lr)/\Is [(0,Qf bw n c),(1,.func (.func 44) #[] #[c0]),(5,iN i),(6,iN j)] ρ) (n-(i0+1)) ⟨i0,i0+1,cur0,L,rfl,RR _,by omega,hrw0,hstart.symm,rfl,H6.as kr,isK⟩ ?_;clear H4 H4b H5 H6 hstart hrw0 h1 h2 h3 hx0;rintro _ _ w4 ⟨i,j,cur,M,rfl,hij,hjn,hrw,htk,hdr,H4,_,rfl⟩;have hMl:M.length=n:=Rw.lenF (S:=sS) hrw;refine ze kr<|ze kr ?_;by_cases hj:j<n
 ·refine rL [.v,.v,.v,.E (.bool (decide ((j:Int)<(n:Int)))) (.bool true) (za (decide_eq_true (by omega)))] H4 kr fun gs4 w5 H5=>wW<|yd kr kr<|zQ kr<|wW<|ze kr<|yC 1 kr ?_;obtain⟨x,hx⟩:∃x,L[j]? =some x:=⟨_,Qj (by omega)⟩
  have hxM:M[j]? =some x:=by
   have:=congrArg (fun l=>l[0]?) hdr;simp only[Uh,RD]at this;rw[this,hx]
  have hR:=Rw.rowAt (S:=sS) hrw;have hcx:=hc x (Qo hx);refine rS [.v,.v,.o (ins:=[((.tmp 22),Qf bw n c),((.tmp 23),iN j)]) (v:=.pointer (some ⟨bw,0+j*1,none⟩)) (fun ρ o w ho hi2=>zt (kd:=.i64) (t:=22) (e:=9) (K:=1) (bytes:=16) kr (x:=(.tmp 22)) (y:=(.tmp 23)) bw 0 n c j rfl ho hi2.1 hi2.2.1 (by omega) w),.ls 0 (C:=cur) (off:=0+j*1) (v:=.string x) (hR.cell hxM 0 (by decide)),.v] H5 kr fun gs9 w9 H10=>?_;have H11:St B w0 w9 ((bw,.cells cur 9)::Lr):=H10.as kr;cases e:del x with
  | false=>
   rw[e]at hcx;refine zo [0,1,2,3] kr kr<|rp [.v,.v] H11 kr fun gsa wa Ha=>wX [2,3] ?_;have Hb:St B w0 wa ((bw,.cells cur 9)::Lr):=Ha.as kr;refine yJ Hb (some 28) 44 #[.string x,c0] _ _ hcx (hpre wa [(bw,.cells cur 9)] Hb) (fun w=>by kernel_rfl) kr ?_;intro wc Hc;refine rp [.v] Hc kr fun gsd wd Hd=>wX []<|zl<|wW ?_;have He:St B w0 wd ((bw,.cells cur 9)::Lr):=Hd.as kr;refine zu ?_;have hset:=Rw.setF (S:=sS) hrw (show M[i]? =some M[i] from Qj (by omega)) 0 (.string x) (Qs _) (y:=x) rfl;refine rS [.v,.v,.v,.o (ins:=[((.tmp 30),Qf bw n c),((.tmp 31),iN i)]) (v:=.pointer (some ⟨bw,0+i*1,none⟩)) (fun ρ o w ho hi2=>zt (kd:=.i64) (t:=22) (e:=9) (K:=1) (bytes:=16) kr (x:=(.tmp 30)) (y:=(.tmp 31)) bw 0 n c i rfl ho hi2.1 hi2.2.1 (by omega) w),.se 0 (C:=cur) (C':=putA cur (0+i*1+0) (.string x)) (off:=0+i*1) (v:=.string x) hset.1 rfl] He kr fun gsf wf Hf=>rL [.v,.E (.int .i64 (Qm.wrap ((i:Int)+1))) (iN (i+1)) (zf (zw (a:=i) (b:=1) (by omega))),.v] Hf kr fun gsg wg Hg=>wW<|rL [.v,.E (.int .i64 (Qm.wrap ((j:Int)+1))) (iN (j+1)) (zf (zw (a:=j) (b:=1) (by omega))),.v] Hg kr fun gsh wh Hh=>?_;show ∃m,_/\_;refine⟨_,(by omega),i+1,j+1,_,M.set i x,rfl,by omega,hj,hset.2,?_,?_,Hh.as kr,isK⟩
   ·rw[ku (by omega),htk,yk hx,Q2,RG (by rw[e];rfl)];rfl
   ·rw[List.drop_set_of_lt (by omega),<-Rb,<-Rb,hdr]
  | true=>
   rw[e]at hcx;refine zo [0,1,2,3] kr kr<|rp [.v,.v] H11 kr fun gsa wa Ha=>wX [2,3] ?_;have Hb:St B w0 wa ((bw,.cells cur 9)::Lr):=Ha.as kr;refine yJ Hb (some 28) 44 #[.string x,c0] _ _ hcx (hpre wa [(bw,.cells cur 9)] Hb) (fun w=>by kernel_rfl) kr ?_;intro wc Hc;refine rp [.v] Hc kr fun gsd wd Hd=>wX []<|zl<|wW ?_;have He:St B w0 wd ((bw,.cells cur 9)::Lr):=Hd.as kr;refine zq<|wW<|rL [.v,.E (.int .i64 (Qm.wrap ((j:Int)+1))) (iN (j+1)) (zf (zw (a:=j) (b:=1) (by omega))),.v] He kr fun gsh wh Hh=>?_;show ∃m,_/\_;refine⟨_,(by omega),i,j+1,cur,M,rfl,by omega,hj,hrw,?_,?_,Hh.as kr,isK⟩
   ·rw[htk,yk hx,Q2,Q8 (by rw[e];exact QN)];simp
   ·rw[<-Rb,<-Rb,hdr]
 ·refine rL [.v,.v,.v,.E (.bool (decide ((j:Int)<(n:Int)))) (.bool false) (za (decide_eq_false (by omega)))] H4 kr fun gs4 w5 H5=>wW<|zN kr kr<|qm 0 kr<|wW ?_;obtain rfl:j=n:=by omega
  rw[QA (l:=L) (by omega)]at htk;have hle:=hrw.le;refine zo [0,1,2,3] kr kr<|rp [.v,.v,.oe (ins:=[((.tmp 36),Qf bw j c),((.tmp 37),iN i)]) (v:=.slice (some ⟨bw,if c=i then 0 else 0+i*1,none⟩) (j-i) (c-i)) (v':=.slice (some ⟨bw,i*1,none⟩) (j-i) (c-i)) (fun ρ o w ho hi2=>zX (kz:=.i64) (t:=22) (e:=9) (size:=1) (bytes:=16) kr (x:=(.tmp 36)) (z:=(.tmp 37)) bw 0 j c i ho hi2.1 hi2.2.1 (by omega) hle w) (by rw[if_neg (by omega),Qu])] H5 kr fun gs6 w6 H6=>wX [3] ?_;have H7:St B w0 w6 ((bw,.cells cur 9)::Lr):=H6.as kr;have hsz:=hrw.sz;refine xN H7 none 22 9 1 16 (.tmp 38) 0 bw (i*1) (j-i) (c-i) cur 9 kr kr kr kr kr rfl (by omega) (by rw[hsz,<-Ug];exact QO _ (by omega)) ?_;intro Z w7 hZ H8;refine zl<|wW ?_;have H9:St B w0 w7 ((bw,.cells (zg cur (i*1) Z) 9)::Lr):=H8.as kr;refine rS [.v,.v,.o (ins:=[((.tmp 39),Qf bw j c),((.tmp 40),iN i)]) (v:=Qf bw i c) (fun ρ o w ho hi2=>qD (kd:=.i64) (t:=22) (e:=9) (size:=1) (bytes:=16) kr (x:=(.tmp 39)) (y:=(.tmp 40)) bw j c i ho hi2.1 hi2.2.1 (by omega) w),.v] H9 kr fun gs8 w8 H10=>rRr [.tmp 4] [] (Qf bw i c) (zY B w0 Lr (L.filter (fun x=> !del x))) H10 kr ?_;refine⟨Qg bw,i,c,[(bw,.cells (zg cur (i*1) Z) 9)],rfl,.inr ⟨bw,_,rfl,rfl,?_⟩,H10.as kr⟩;have hfit:i*1+Z.length<=cur.size:=by rw[hZ,hsz,<-Ug];exact QO _ (by omega)
  have hfl:(L.filter (fun x=> !del x)).length=i:=by rw[<-htk,Qv];omega
  refine⟨by rw[yo,hfl],by omega,hrw.max,?_,by rw[yp hfit];exact hsz⟩;show (zg cur (i*1) Z).toList.take (i*1)=_;have e1:zb sS (L.filter (fun x=> !del x))=(zb sS M).take (i*1):=by rw[<-htk,jw M i (by omega)];rfl
  rw[jo (C:=cur) (o:=i*1) (vs:=Z) (m:=i*1) (by omega) (Qs _),e1,<-hrw.take,R7,Rk (QO _ (by omega))]
theorem zbI {P:Program}{N:Nat}{ops:Array Oper}{i:Nat}{r:List Nat}{K:Env->World->Prop}{ρ:Env}{w w0:World}{B:Nat}{l:Qb}(HS:St B w0 w l)(d:Option Nat)(V:Nat->Value)(o:Obj)(h:opv P ops i ρ w=some (d,true,.ok (.value (V w.heap.size)) (w.alloc o)))(hd:dOK d N=true)
 (kk: ∀b w',St B w0 w' ((b,o)::l)->WPs P N ops K r (zn ρ d (V b)) w'):WPs P N ops K (i::r) ρ w:=by
 obtain⟨o',ho,rfl,hw,hr⟩:=yc h;refine WPo.run ho hw fun a ha=>?_;rw[hr,Oper.upon_value];exact⟨_,ha.put _ (zV hd) _,kk w.heap.size _ (HS.alloc _)⟩
theorem qi {α:Type}(A X Z:List α):(X++(A++Z)).Perm (A++(X++Z)):=Q6 X A Z
theorem xi {α:Type}(A X Y Z:List α):(Y++(A++(X++Z))).Perm (A++(X++(Y++Z))):=(qi A Y (X++Z)).trans (RT A (qi X Y Z))
theorem kw (b:Bal)(h1:b.1.size<=1000000)(h2:b.2.1.size<=1000000):Fn Try.prog 22 #[blV b] (blV b):=by
 refine Fn.intro (c:=zr Try.f22) [.cell 2 27] 12 Try.func22 kr kr kr fun w=>rS [.b,.a] (St.start w) kr fun gs1 w1 H1=>dS [.v,.l 0,.c (xO b.1 h1),.v,.l 0,.c (xO b.2.1 h2),.v,.l 0,.v,.s 1] H1 kr fun w2 H2=>?_;exact rR [.cell 2 27] [1] (blV b) H2 kr
def uG (L:Qi)(V:List Bal)(v:Value)(T:Qb):Prop:=∃(q:Qc) (m cq:Nat) (p:Qc) (n c:Nat) (T1 T2:Qb),v=snV q m cq p n c/\T=T1++T2/\zz sS 9 q m cq T1 L/\zz blS 27 p n c T2 V
theorem zbJ (q:Qc)(m cq:Nat)(L:Qi)(p:Qc)(n c:Nat)(V:List Bal)(hL:L.length<=1000000)(hV:V.length<=1000000)(hsL: ∀x∈L,Qq x<=1000000)(hsV: ∀x∈V,Qq x.1<=1000000/\Qq x.2.1<=1000000):
 FnT Try.prog 20 #[snV q m cq p n c] (fun w=>zM w L V q m p n) (uG L V):=by
 refine FnT.intro (c:=zr Try.f20) [.cell 2 25] 39 Try.func20 kr kr kr fun w hP=>?_;obtain⟨hS,hVV⟩:=hP;have hm:=hS.1;have hn:=hVV.1;have H0:=St.start w;refine rS [.b,.a] H0 kr fun gs1 w1 H1=>rS [.a] H1 kr fun gs2 w2 H2=>?_;have H2b:St w.heap.size w w2 [((gs2 0).b,snO none 0 0 none 0 0),((gs1 1).b,snO none 0 0 none 0 0),((gs1 0).b,snO q m cq p n c)]:=(H2.as (l:=[((gs1 0).b,snO q m cq p n c),((gs1 1).b,snO none 0 0 none 0 0),((gs2 0).b,snO none 0 0 none 0 0)]) kr).perm (List.reverse_perm _).symm;generalize (gs2 0).b=b3 at*;generalize (gs1 1).b=b2 at*;generalize (gs1 0).b=b1 at*;refine jO [(1,Qe b1),(2,Qe b2),(3,Qe b3)] kr fun ρ0=>?_;clear H0 H1 H2;refine ze kr<|rS [.v,.l 2,.v,.v] H2b kr fun gs3 w3 H3=>ye 11 10 12 22 0 1 m (by omega) (fun i ρ ww=> ∃qA mA kA rowA,zz sS 9 qA mA kA rowA (L.take i)/\St w.heap.size w ww (rowA++ [(b3,snO qA mA kA none 0 0),(b2,snO none 0 0 none 0 0),(b1,snO q m cq p n c)])/\Is [(1,Qe b1),(2,Qe b2),(3,Qe b3),(9,.slice q m cq),(10,iN m),(11,iN i)] ρ) (by rintro i _ ww ⟨_,_,_,_,_,_,_,rfl⟩;exact⟨kr,kr⟩) ⟨none,0,0,[],.inl ⟨rfl,rfl,rfl,rfl,rfl⟩,H3.as kr,isK⟩ ?_ ?_
 ·clear H2b H3;rintro i _ w4 hi ⟨qA,mA,kA,rowA,hrow,H4,_,rfl⟩;have hmA:mA=i:=by rw[<-hrow.len,Qv];omega
  obtain⟨x,hx⟩:∃x,L[i]? =some x:=⟨_,Qj (by omega)⟩
  obtain⟨bl,off,C,T,fz,hp,hh,hR⟩:=hS.row2 (by omega);have hcx:C[off+i*1]? =some (.string x):=hR.cell hx 0 (by decide);refine rS [.o (ins:=[((.tmp 9),.slice q m cq),((.tmp 11),iN i)]) (v:=.pointer (some ⟨bl,off+i*1,none⟩)) (fun ρ o w ho hi2=>zt (kd:=.i64) (t:=22) (e:=9) (K:=1) (bytes:=16) kr (x:=(.tmp 9)) (y:=(.tmp 11)) bl off m cq i hp ho hi2.1 hi2.2.1 (by omega) w),.fs (off:=off+i*1) (v:=.string x) hh (zk hh) hcx,.v] H4 kr fun gs5 w5 H5=>?_;have H8:St w.heap.size w w5 (rowA++ [(b3,snO qA mA kA none 0 0),(b2,snO none 0 0 none 0 0),(b1,snO q m cq p n c)]):=H5.as kr;refine D2.g_draw0 [0,1,2,3,4,5,6,7] [(some 15,fun _=>Qe b3),(some 16,fun _=>.slice qA mA kA),(some 17,fun _=>.string x),(some 18,fun _=>.string x),(some 19,fun y=>Qf y.b 1 1),(some 20,fun y=>Qf y.b (mA+1) y.cap),(some 21,fun _=>Qe b3),(none,fun _=>undef)]
   (D2.chn [4,5,7] fun j g ww=>match j with
    | 0=>St w.heap.size w ww (rowA++ [(b3,snO qA mA kA none 0 0),(b2,snO none 0 0 none 0 0),(b1,snO q m cq p n c)])
    | 1=>St w.heap.size w ww (((g 4).b,.cells (sS.cs x).toArray 9)::(rowA++ [(b3,snO qA mA kA none 0 0),(b2,snO none 0 0 none 0 0),(b1,snO q m cq p n c)]))
    | 2=>St w.heap.size w ww (((g 5).b,.cells (g 5).cur 9)::[(b3,snO qA mA kA none 0 0),(b2,snO none 0 0 none 0 0),(b1,snO q m cq p n c)])/\Rw 1 (g 5).cur (g 5).cap (mA+1) (zb sS (L.take i++ [x]))
    | _=>St w.heap.size w ww (((g 5).b,.cells (g 5).cur 9)::[(b3,snO (some ⟨(g 5).b,0,none⟩) (mA+1) (g 5).cap none 0 0),(b2,snO none 0 0 none 0 0),(b1,snO q m cq p n c)])/\Rw 1 (g 5).cur (g 5).cap (mA+1) (zb sS (L.take i++ [x])))
   kr kr kr H8.drew ⟨?_,?_,?_,?_,?_,?_,?_,?_,trivial⟩ ?_
  ·exact D2.gv_val (fun _ _ _ h=>h) (fun g w=>by kernel_rfl)
  ·exact D2.gv_ld (fun _ _ _ h=>h) 22 (.tmp 15) (fun _=>b3) 0 #[.slice qA mA kA,.slice none 0 0] 25 (0,0) (fun g=>by kernel_rfl) (fun g=>by kernel_rfl) (fun L g w hN hp=>hp.getN 2 7 rfl (hN.post 7 kr) fun j hj h=>by
    match j,hj,h with
    | 0,_,h=>exact(h.own (b3,.cells #[.slice qA mA kA,.slice none 0 0] 25 (0,0)) (by simp)).2
    | 1,_,h=>exact(h.own (b3,.cells #[.slice qA mA kA,.slice none 0 0] 25 (0,0)) (by simp)).2
    | 2,_,h=>exact(h.1.own (b3,.cells #[.slice qA mA kA,.slice none 0 0] 25 (0,0)) (by simp)).2) kr kr
  ·exact D2.gv_val (fun _ _ _ h=>h) (fun g w=>by kernel_rfl)
  ·exact D2.gv_cW (fun _ _ _ h=>h) 34 #[.string x] (xO x (hsL x (Qo hx))) (fun L g w w' hN hp hb=>by
    revert hp;unfold D2.chn
    generalize D2.stg [4,5,7] L=j;intro hp
    match j,hp with
    | 0,h=>exact h.call hb
    | 1,h=>exact h.call hb
    | 2,h=>exact⟨h.1.call hb,h.2⟩
    | _+3,h=>exact⟨h.1.call hb,h.2⟩) (fun g w=>by kernel_rfl)
  ·refine D2.gv_chn 4 0 (fun L hN=>by
    have e4:=hN.1;have e5:=hN.post 5 kr;have e7:=hN.fwd e5 (show D2.edge _ 5 7=true by kernel_rfl)
    exact⟨by (simp[D2.stg,e4,e5,e7])<;>rfl,by (simp[D2.stg,D2.put1,e4,e5,e7])<;>rfl⟩) fun g ww hq=>?_
   exact D2.run_new (F:=fun b=>Qf b 1 1) (ob:=.cells (sS.cs x).toArray 9) kr ⟨{ b:=ww.heap.size },rfl,St.alloc hq _⟩
  ·refine D2.gv_chn 5 1 (fun L hN=>by
    have e5:=hN.1;have e4:=hN.bef 4 kr;have e7:=hN.post 7 kr
    exact⟨by (simp[D2.stg,e4,e5,e7])<;>rfl,by (simp[D2.stg,D2.put1,e4,e5,e7])<;>rfl⟩) fun g ww hq=>?_
   refine D2.run_of (op:=yY 22 (.tmp 16) (.tmp 19)) kr fun o ho=>?_;obtain⟨b',cap',cur',w',hrun,HS',hr'⟩:=vt (S:=sS) (bx:=(g 4).b) (M0:=L.take i) (y:=x) (row:=rowA) (Z:=[(b3,snO qA mA kA none 0 0),(b2,snO none 0 0 none 0 0),(b1,snO q m cq p n c)]) (n:=mA) (c:=kA) (p:=qA) (mc:=1) hq hrow (t:=22) (bytes:=16) kr ho kr kr (by omega) (by unfold maxLen;omega);exact⟨_,w',hrun,{ b:=b',cap:=cap',cur:=cur' },rfl,HS',hr'⟩
  ·exact D2.gv_val (fun _ _ _ h=>h) (fun g w=>by kernel_rfl)
  ·refine D2.gv_chn 7 2 (fun L hN=>by
    have e7:=hN.1;have e5:=hN.bef 5 kr;have e4:=hN.back e5 (show D2.edge _ 4 5=true by kernel_rfl)
    exact⟨by (simp[D2.stg,e4,e5,e7])<;>rfl,by (simp[D2.stg,D2.put1,e4,e5,e7])<;>rfl⟩) fun g ww hq=>?_
   exact D2.run_sto (t:=22) (x:=.tmp 21) (y:=.tmp 20) (C:=#[.slice qA mA kA,.slice none 0 0]) (C':=#[Qf (g 5).b (mA+1) (g 5).cap,.slice none 0 0]) (T:=25) (off:=0) (b:=b3) (v:=Qf (g 5).b (mA+1) (g 5).cap) kr kr kr kr kr (St.get hq.1 1 kr) (Qw kr) kr ⟨g 7,rfl,St.store (C:=#[.slice qA mA kA,.slice none 0 0]) (T:=25) hq.1 1 kr,hq.2⟩
  ·intro L1 g w9 hall hp;have hq:=hp.fin (fun k hk=>hall k (by simp at hk;rcases hk with rfl | rfl | rfl<;>exact Qw kr));exact⟨kr,Qg (g 5).b,mA+1,(g 5).cap,[((g 5).b,.cells (g 5).cur 9)],.inr ⟨_,_,rfl,rfl,by rw[yk hx];exact hq.2⟩,hq.1,isK⟩
 ·clear H2b H3;rintro _ w4 ⟨qA,mA,kA,rowA,hrowA,H4,_,rfl⟩;rw[QA (by omega)]at hrowA;refine wW<|ze kr ?_;have H4b:St w.heap.size w w4 ((b3,snO qA mA kA none 0 0)::(b2,snO none 0 0 none 0 0)::(b1,snO q m cq p n c)::rowA):=H4.perm (RA (l₁:=[(b3,snO qA mA kA none 0 0),(b2,snO none 0 0 none 0 0),(b1,snO q m cq p n c)]) (l₂:=rowA));refine rS [.v,.l 2,.v,.v] H4b kr fun gs5 w5 H5=>ye 26 25 27 37 2 3 n (by omega) (fun i ρ ww=> ∃qB mB kB rowB,zz blS 27 qB mB kB rowB (V.take i)/\St w.heap.size w ww (rowB++((b3,snO qA mA kA qB mB kB)::(b2,snO none 0 0 none 0 0)::(b1,snO q m cq p n c)::rowA))/\Is [(1,Qe b1),(2,Qe b2),(3,Qe b3),(24,.slice p n c),(25,iN n),(26,iN i)] ρ) (by rintro i _ ww ⟨_,_,_,_,_,_,_,rfl⟩;exact⟨kr,kr⟩) ⟨none,0,0,[],.inl ⟨rfl,rfl,rfl,rfl,rfl⟩,H5.as kr,isK⟩ ?_ ?_
  ·clear H4 H4b H5;rintro i _ w4 hi ⟨qB,mB,kB,rowB,hrow,H4,_,rfl⟩;have hmB:mB=i:=by rw[<-hrow.len,Qv];omega
   obtain⟨x,hx⟩:∃x,V[i]? =some x:=⟨_,Qj (by omega)⟩
   obtain⟨bl,off,C,T,fz,hp,hh,hR⟩:=hVV.row2 (by omega);refine zo [0,1,2,3] kr kr<|rp [.o (ins:=[((.tmp 24),.slice p n c),((.tmp 26),iN i)]) (v:=.pointer (some ⟨bl,off+i*3,none⟩)) (fun ρ o w ho hi2=>zt (kd:=.i64) (t:=23) (e:=27) (K:=3) (bytes:=40) kr (x:=(.tmp 24)) (y:=(.tmp 26)) bl off n c i hp ho hi2.1 hi2.2.1 (by omega) w),.fp (off:=off+i*3) (n:=3) (W:=blC x) hh (zk hh) (hR _ _ hx).1 (hR _ _ hx).2] H4 kr fun gs6 w6 H6=>wX [2,3] ?_;have H7:St w.heap.size w w6 (rowB++((b3,snO qA mA kA qB mB kB)::(b2,snO none 0 0 none 0 0)::(b1,snO q m cq p n c)::rowA)):=H6.as kr;refine yD H7 (some 7) 27 (.agg #[.string em,.string em,.bool false]) kr kr kr ?_;intro b7 w7 H7a;refine rp [.s 0] H7a kr fun gs8 w8 H7b=>wX []<|zl<|wW ?_;have H8:St w.heap.size w w8 (rowB++((b7,blO x)::(b3,snO qA mA kA qB mB kB)::(b2,snO none 0 0 none 0 0)::(b1,snO q m cq p n c)::rowA)):=(H7b.as (l:=(b7,blO x)::(rowB++((b3,snO qA mA kA qB mB kB)::(b2,snO none 0 0 none 0 0)::(b1,snO q m cq p n c)::rowA))) kr).perm List.perm_middle;refine D2.g_draw0 [0,1,2,3,4,5,6,7] [(some 30,fun _=>.pointer (some ⟨b3,1,none⟩)),(some 31,fun _=>.slice qB mB kB),(some 32,fun _=>blV x),(some 33,fun _=>blV x),(some 34,fun y=>Qf y.b 1 1),(some 35,fun y=>Qf y.b (mB+1) y.cap),(some 36,fun _=>.pointer (some ⟨b3,1,none⟩)),(none,fun _=>undef)]
    (D2.chn [4,5,7] fun j g ww=>match j with
     | 0=>St w.heap.size w ww (rowB++((b7,blO x)::(b3,snO qA mA kA qB mB kB)::(b2,snO none 0 0 none 0 0)::(b1,snO q m cq p n c)::rowA))
     | 1=>St w.heap.size w ww (((g 4).b,.cells (blS.cs x).toArray 27)::(rowB++((b7,blO x)::(b3,snO qA mA kA qB mB kB)::(b2,snO none 0 0 none 0 0)::(b1,snO q m cq p n c)::rowA)))
     | 2=>St w.heap.size w ww (((g 5).b,.cells (g 5).cur 27)::((b7,blO x)::(b3,snO qA mA kA qB mB kB)::(b2,snO none 0 0 none 0 0)::(b1,snO q m cq p n c)::rowA))/\Rw 3 (g 5).cur (g 5).cap (mB+1) (zb blS (V.take i++ [x]))
     | _=>St w.heap.size w ww (((g 5).b,.cells (g 5).cur 27)::((b7,blO x)::(b3,snO qA mA kA (some ⟨(g 5).b,0,none⟩) (mB+1) (g 5).cap)::(b2,snO none 0 0 none 0 0)::(b1,snO q m cq p n c)::rowA))/\Rw 3 (g 5).cur (g 5).cap (mB+1) (zb blS (V.take i++ [x])))
    kr kr kr H8.drew ⟨?_,?_,?_,?_,?_,?_,?_,?_,trivial⟩ ?_
   ·exact D2.gv_val (fun _ _ _ h=>h) (fun g w=>by kernel_rfl)
   ·exact D2.gv_ld (fun _ _ _ h=>h) 23 (.tmp 30) (fun _=>b3) 1 #[.slice qA mA kA,.slice qB mB kB] 25 (0,0) (fun g=>by kernel_rfl) (fun g=>by kernel_rfl) (fun L g w hN hp=>hp.getN 2 7 rfl (hN.post 7 kr) fun j hj h=>by
     match j,hj,h with
     | 0,_,h=>exact(h.own (b3,.cells #[.slice qA mA kA,.slice qB mB kB] 25 (0,0)) (by simp)).2
     | 1,_,h=>exact(h.own (b3,.cells #[.slice qA mA kA,.slice qB mB kB] 25 (0,0)) (by simp)).2
     | 2,_,h=>exact(h.1.own (b3,.cells #[.slice qA mA kA,.slice qB mB kB] 25 (0,0)) (by simp)).2) kr kr
   ·exact D2.gv_ld (fun _ _ _ h=>h) 27 (.tmp 7) (fun _=>b7) 0 (blC x) 27 (0,0) (fun g=>by kernel_rfl) (fun g=>by kernel_rfl) (fun L g w hN hp=>hp.get fun j hj h=>by
     match j,h with
     | 0,h=>exact(h.own (b7,blO x) (by simp)).2
     | 1,h=>exact(h.own (b7,blO x) (by simp)).2
     | 2,h=>exact(h.1.own (b7,blO x) (by simp)).2
     | _+3,h=>exact(h.1.own (b7,blO x) (by simp)).2) kr kr
   ·exact D2.gv_cW (fun _ _ _ h=>h) 22 #[blV x] (kw x (hsV x (Qo hx)).1 (hsV x (Qo hx)).2) (fun L g w w' hN hp hb=>by
     revert hp;unfold D2.chn
     generalize D2.stg [4,5,7] L=j;intro hp
     match j,hp with
     | 0,h=>exact h.call hb
     | 1,h=>exact h.call hb
     | 2,h=>exact⟨h.1.call hb,h.2⟩
     | _+3,h=>exact⟨h.1.call hb,h.2⟩) (fun g w=>by kernel_rfl)
   ·refine D2.gv_chn 4 0 (fun L hN=>by
     have e4:=hN.1;have e5:=hN.post 5 kr;have e7:=hN.fwd e5 (show D2.edge _ 5 7=true by kernel_rfl)
     exact⟨by (simp[D2.stg,e4,e5,e7])<;>rfl,by (simp[D2.stg,D2.put1,e4,e5,e7])<;>rfl⟩) fun g ww hq=>?_
    exact D2.run_new (F:=fun b=>Qf b 1 1) (ob:=.cells (blS.cs x).toArray 27) kr ⟨{ b:=ww.heap.size },rfl,St.alloc hq _⟩
   ·refine D2.gv_chn 5 1 (fun L hN=>by
     have e5:=hN.1;have e4:=hN.bef 4 kr;have e7:=hN.post 7 kr
     exact⟨by (simp[D2.stg,e4,e5,e7])<;>rfl,by (simp[D2.stg,D2.put1,e4,e5,e7])<;>rfl⟩) fun g ww hq=>?_
    refine D2.run_of (op:=yY 23 (.tmp 31) (.tmp 34)) kr fun o ho=>?_;obtain⟨b',cap',cur',w',hrun,HS',hr'⟩:=vt (S:=blS) (bx:=(g 4).b) (M0:=V.take i) (y:=x) (row:=rowB) (Z:=((b7,blO x)::(b3,snO qA mA kA qB mB kB)::(b2,snO none 0 0 none 0 0)::(b1,snO q m cq p n c)::rowA)) (n:=mB) (c:=kB) (p:=qB) (mc:=1) hq hrow (t:=23) (bytes:=40) kr ho kr kr (by omega) (by unfold maxLen;omega);exact⟨_,w',hrun,{ b:=b',cap:=cap',cur:=cur' },rfl,HS',hr'⟩
   ·exact D2.gv_val (fun _ _ _ h=>h) (fun g w=>by kernel_rfl)
   ·refine D2.gv_chn 7 2 (fun L hN=>by
     have e7:=hN.1;have e5:=hN.bef 5 kr;have e4:=hN.back e5 (show D2.edge _ 4 5=true by kernel_rfl)
     exact⟨by (simp[D2.stg,e4,e5,e7])<;>rfl,by (simp[D2.stg,D2.put1,e4,e5,e7])<;>rfl⟩) fun g ww hq=>?_
    exact D2.run_sto (t:=23) (x:=.tmp 36) (y:=.tmp 35) (C:=#[.slice qA mA kA,.slice qB mB kB]) (C':=#[.slice qA mA kA,Qf (g 5).b (mB+1) (g 5).cap]) (T:=25) (off:=1) (b:=b3) (v:=Qf (g 5).b (mB+1) (g 5).cap) kr kr kr kr kr (St.get hq.1 2 kr) (Qw kr) kr ⟨g 7,rfl,St.store (C:=#[.slice qA mA kA,.slice qB mB kB]) (T:=25) hq.1 2 kr,hq.2⟩
   ·intro L1 g w9 hall hp;have hq:=hp.fin (fun k hk=>hall k (by simp at hk;rcases hk with rfl | rfl | rfl<;>exact Qw kr));exact⟨kr,Qg (g 5).b,mB+1,(g 5).cap,[((g 5).b,.cells (g 5).cur 27)],.inr ⟨_,_,rfl,rfl,by rw[yk hx];exact hq.2⟩,hq.1.sub (QH _ (Qp ..)),isK⟩
  ·clear H4 H4b H5;rintro _ w4 ⟨qB,mB,kB,rowB,hrowB,H4,_,rfl⟩;rw[QA (by omega)]at hrowB;refine wW ?_;have H4b:St w.heap.size w w4 ((b3,snO qA mA kA qB mB kB)::(b2,snO none 0 0 none 0 0)::(b1,snO q m cq p n c)::(rowA++rowB)):=H4.perm (RA (l₁:=(b3,snO qA mA kA qB mB kB)::(b2,snO none 0 0 none 0 0)::(b1,snO q m cq p n c)::rowA) (l₂:=rowB));refine rS [.l 0,.s 1] H4b kr fun gs6 w6 H6=>rRr [.cell 2 25] [1] (snV qA mA kA qB mB kB) (qF w.heap.size w (uG L V)) H6 kr ?_;exact⟨rowA++rowB,⟨qA,mA,kA,qB,mB,kB,rowA,rowB,rfl,rfl,hrowA,hrowB⟩,(H6.as (l:=(b3,snO qA mA kA qB mB kB)::(b2,snO qA mA kA qB mB kB)::(b1,snO q m cq p n c)::(rowA++rowB)) kr).sub (Qy [_,_,_] _)⟩
def xj (B:Nat)(w0:World)(Lr:Qb)(q:Qc)(m cq:Nat)(V:List Bal)(v:Value)(w:World):Prop:=∃(p:Qc) (n c:Nat) (row:Qb),v=snV q m cq p n c/\zz blS 27 p n c row V/\St B w0 w (row++Lr)
def kx (B:Nat)(w0:World)(Lr:Qb)(r:Qi×List Bal)(v:Value)(w:World):Prop:=∃(q:Qc) (m cq:Nat) (p:Qc) (n c:Nat) (rL rV:Qb),v=snV q m cq p n c/\zz sS 9 q m cq rL r.1/\zz blS 27 p n c rV r.2/\St B w0 w (rL++(rV++Lr))
theorem zbK (q:Qc)(m cq:Nat)(p:Qc)(n c:Nat)(V:List Bal)(row Lr:Qb){B:Nat}{w0 w:World}(hm:m<=1000000)(hrow:zz blS 27 p n c row V)(h:St B w0 w (row++Lr))(hV:V.length<=1000000):
 Calls Try.prog 45 #[snV q m cq p n c] w fun e w'=> ∃v,e=.returned v/\xj B w0 Lr q m cq (V.filter (fun x=> !yr V m x)) v w':=by
 refine yt (c:=zr Try.f45) (rs:=[.cell 2 25]) (N:=26) Try.func45 kr kr kr ?_;have hlen:=hrow.len;refine zo [0,1] kr kr<|qn h (some 1) 25 (.tmp 0) (snV q m cq p n c) kr kr kr ?_;intro b1 w1 H1;refine yD H1 (some 2) 25 (snV none 0 0 none 0 0) kr kr kr ?_;intro b2 w2 H2;refine zl<|wW<|zo [0,1,2] kr kr<|zbI H2 (some 6) (fun b=>.map (some b)) (mpO []) kr kr ?_;intro bm w2b H2b;refine yD H2b (some 3) 68 (.map none) kr kr kr ?_;intro b3 w3a H3;refine rp [.s 0] H3 kr fun gs4 w3 H4=>wX []<|zl<|wW ?_;rcases hrow with⟨rfl,rfl,rfl,rfl,rfl⟩ | ⟨bw,cur,rfl,rfl,hrw⟩
 ·have H4b:St B w0 w3 ((b3,Qx #[.map (some bm)] 68 (0,0))::(bm,mpO (zs ([])))::(b2,snO none 0 0 none 0 0)::(b1,snO q m cq none 0 0)::Lr):=H4.as kr;refine ze kr<|rS [.v,.l 3,.v,.v] H4b kr fun gs5 w5 H5=>ye 10 9 11 19 0 1 0 (by omega) (fun i ρ ww=>St B w0 ww ((b3,Qx #[.map (some bm)] 68 (0,0))::(bm,mpO (zs (([]:List Bal).take i)))::(b2,snO none 0 0 none 0 0)::(b1,snO q m cq none 0 0)::Lr)/\Is [(1,Qe b1),(2,Qe b2),(3,Qe b3),(8,.slice none 0 0),(9,iN 0),(10,iN i)] ρ) (by rintro i _ ww ⟨_,_,rfl⟩;exact⟨kr,kr⟩) ⟨H5.as kr,isK⟩ (fun i ρ ww hi=>absurd hi (RI _)) ?_;rintro _ w4 ⟨H6,_,rfl⟩;refine wW<|zo [0,1,2,3,4,5] kr kr<|rp [.v,.l 3,.v] H6 kr fun gs7 w7 H7=>wX [3,4,5] ?_;have H8:St B w0 w7 ((b3,Qx #[.map (some bm)] 68 (0,0))::(bm,mpO (zs ([])))::(b2,snO none 0 0 none 0 0)::(b1,snO q m cq none 0 0)::Lr):=H7.as kr
  refine yF (R:=zR B w0 ((b3,Qx #[.map (some bm)] 68 (0,0))::(bm,mpO (zs ([])))::(b2,snO none 0 0 none 0 0)::(b1,snO q m cq none 0 0)::Lr) (([]:List Bal).filter (fun x=> !yr ([]:List Bal) m x))) (some 23) 39 #[.slice none 0 0,.func (.func 54) #[] #[Qe b3,Qe b1]] (uF none 0 0 ([]:List Bal) (Qe b3) (Qe b1) (yr ([]:List Bal) m) (fun w=>w.heap[b3]? =some (.cells #[.map (some bm)] 68 (0,0))/\w.heap[bm]? =some (mpO (zs ([]:List Bal)))/\w.heap[b1]? =some (snO q m cq none 0 0)) ([]:Qb) ((b3,Qx #[.map (some bm)] 68 (0,0))::(bm,mpO (zs ([])))::(b2,snO none 0 0 none 0 0)::(b1,snO q m cq none 0 0)::Lr) (fun w w' h hb=>⟨zT h.1 hb,zT h.2.1 hb,zT h.2.2 hb⟩) (fun x _=>uE x ([]:List Bal) (Q5 _) b3 bm b1 q m cq none 0 0 hm)
   (fun w' X h=>⟨(h.own (b3,Qx #[.map (some bm)] 68 (0,0)) (by simp)).2,(h.own (bm,mpO (zs ([]))) (by simp)).2,(h.own (b1,snO q m cq none 0 0) (by simp)).2⟩) (.inl ⟨rfl,rfl,rfl,rfl,rfl⟩) (H8) (Q5 _)) kr kr ?_
  rintro v w8 ⟨p',n',c',row',rfl,hrow',H9⟩;have H10:St B w0 w8 ((b3,Qx #[.map (some bm)] 68 (0,0))::(bm,mpO (zs ([])))::(b2,snO none 0 0 none 0 0)::(b1,snO q m cq none 0 0)::(row'++Lr)):=H9.perm (qi [(b3,Qx #[.map (some bm)] 68 (0,0)),(bm,mpO (zs ([]))),(b2,snO none 0 0 none 0 0),(b1,snO q m cq none 0 0)] row' Lr).symm;refine rp [.v,.s 3] H10 kr fun gs9 w9 H11=>wX []<|zl<|wW ?_;have H12:St B w0 w9 ((b3,Qx #[.map (some bm)] 68 (0,0))::(bm,mpO (zs ([])))::(b2,snO none 0 0 none 0 0)::(b1,snO q m cq p' n' c')::(row'++Lr)):=H11.as kr;refine rS [.l 3,.s 2] H12 kr fun gs10 w10 H13=>rRr [.cell 2 25] [2] (snV q m cq p' n' c') (xj B w0 Lr q m cq (([]:List Bal).filter (fun x=> !yr ([]:List Bal) m x))) H13 kr ?_;exact⟨p',n',c',row',rfl,hrow',(H13.as (l:=(b3,Qx #[.map (some bm)] 68 (0,0))::(bm,mpO (zs ([])))::(b2,snO q m cq p' n' c')::(b1,snO q m cq p' n' c')::(row'++Lr)) kr).sub (Qy [_,_,_,_] _)⟩
 ·have H4b:St B w0 w3 ((b3,Qx #[.map (some bm)] 68 (0,0))::(bm,mpO (zs ([])))::(b2,snO none 0 0 none 0 0)::(b1,snO q m cq (Qg bw) n c)::(bw,.cells cur 27)::Lr):=H4.as kr;refine ze kr<|rS [.v,.l 3,.v,.v] H4b kr fun gs5 w5 H5=>ye 10 9 11 19 0 1 n (by omega) (fun i ρ ww=>St B w0 ww ((b3,Qx #[.map (some bm)] 68 (0,0))::(bm,mpO (zs (V.take i)))::(b2,snO none 0 0 none 0 0)::(b1,snO q m cq (Qg bw) n c)::(bw,.cells cur 27)::Lr)/\Is [(1,Qe b1),(2,Qe b2),(3,Qe b3),(8,Qf bw n c),(9,iN n),(10,iN i)] ρ) (by rintro i _ ww ⟨_,_,rfl⟩;exact⟨kr,kr⟩) ⟨H5.as kr,isK⟩ (?_) ?_
  ·clear H4b H5;rintro i _ w4 hi ⟨H4,_,rfl⟩;obtain⟨x,hx⟩:∃x,V[i]? =some x:=⟨_,Qj (by omega)⟩
   have hR:=Rw.rowAt (S:=blS) hrw;have hwl:=uf x.2.1 (V.take i);rw[Qv]at hwl;refine zo [0,1,2,3] kr kr<|rp [.o (ins:=[((.tmp 8),Qf bw n c),((.tmp 10),iN i)]) (v:=.pointer (some ⟨bw,0+i*3,none⟩)) (fun ρ o w ho hi2=>zt (kd:=.i64) (t:=23) (e:=27) (K:=3) (bytes:=40) kr (x:=(.tmp 8)) (y:=(.tmp 10)) bw 0 n c i rfl ho hi2.1 hi2.2.1 hi w),.lp 4 (C:=cur) (off:=0+i*3) (n:=3) (W:=blC x) (hR _ _ hx).1 (hR _ _ hx).2] H4 kr fun gs6 w6 H6=>wX [2,3] ?_;have H7:St B w0 w6 ((b3,Qx #[.map (some bm)] 68 (0,0))::(bm,mpO (zs (V.take i)))::(b2,snO none 0 0 none 0 0)::(b1,snO q m cq (Qg bw) n c)::(bw,.cells cur 27)::Lr):=H6.as kr;refine yD H7 (some 5) 27 (.agg #[.string em,.string em,.bool false]) kr kr kr ?_;intro b5 w7 H8;refine rp [.s 0] H8 kr fun gs8 w8 H9=>wX []<|zl<|wW ?_;have H10:St B w0 w8 ((b5,blO x)::(b3,Qx #[.map (some bm)] 68 (0,0))::(bm,mpO (zs (V.take i)))::(b2,snO none 0 0 none 0 0)::(b1,snO q m cq (Qg bw) n c)::(bw,.cells cur 27)::Lr):=H9.as kr;have hlk:zG x.2.1 (zs (V.take i))=whoC x.2.1 (V.take i):=uy _ _
   refine rL [.l 1,.v,.l 0,.x (ins:=[((.tmp 14),.map (some bm)),((.tmp 16),.string x.2.1)]) (op:=.lookup 68 (.tmp 14) (.tmp 16) false) (v:=iN (zG x.2.1 (zs (V.take i)))) [(2,(bm,mpO (zs (V.take i))))] (fun ρ o w ho hi2 hd=>by
    have hr:=uD hd.1 x.2.1
    unfold execOp;simp only[ho,hi2.1,hi2.2.1,QT,hr,QC];rfl),.E (.int .i64 (Qm.wrap (((zG x.2.1 (zs (V.take i)):Nat):Int)+1))) (iN (zG x.2.1 (zs (V.take i))+1)) (zf (zw (a:=zG x.2.1 (zs (V.take i))) (b:=1) (by omega))),
    .g [((.tmp 14),.map (some bm)),((.tmp 16),.string x.2.1),((.tmp 18),iN (zG x.2.1 (zs (V.take i))+1))] (.mapUpdate 68 (.tmp 14) (.tmp 16) (.tmp 18)) [(2,(bm,mpO (zs (V.take i))))] (fun _=>undef) (.turn 2 (mpO (qY (zs (V.take i)) x))) (fun ρ o w ho hi2 hd hb=>by
     have hr:=zbz hd.1 x.2.1 (zG x.2.1 (zs (V.take i))+1);have e:(execOp (ev ρ) o).run Try.prog w=.ok .skip { w with heap:=w.heap.setIfInBounds bm (mpO (qY (zs (V.take i)) x)) } :=by
      unfold execOp;simp only[ho,hi2.1,hi2.2.1,hi2.2.2.1,QT,hr,QC];rfl
     rw[e];have hlt:=zk hd.1
     exact⟨default,rfl,(bm,mpO (zs (V.take i))),rfl,⟨rfl,rfl,rfl,by simp,fun k _ hk=>by simp[Array.getElem?_setIfInBounds,show ¬bm=k from fun e=>hk (by rw[e])]⟩,by simp[Array.getElem?_setIfInBounds,hlt]⟩)] H10 kr fun gs9 w9 H11=>?_
   refine⟨kr,?_,isK⟩;rw[yk hx,uw];exact(H11.as (l:=(b5,blO x)::(b3,Qx #[.map (some bm)] 68 (0,0))::(bm,mpO (qY (zs (V.take i)) x))::(b2,snO none 0 0 none 0 0)::(b1,snO q m cq (Qg bw) n c)::(bw,.cells cur 27)::Lr) kr).sub (Qp ..)
  ·rintro _ w4 ⟨H6,_,rfl⟩;rw[QA (l:=V) (by omega)]at H6;refine wW<|zo [0,1,2,3,4,5] kr kr<|rp [.v,.l 3,.v] H6 kr fun gs7 w7 H7=>wX [3,4,5] ?_;have H8:St B w0 w7 ((b3,Qx #[.map (some bm)] 68 (0,0))::(bm,mpO (zs (V)))::(b2,snO none 0 0 none 0 0)::(b1,snO q m cq (Qg bw) n c)::(bw,.cells cur 27)::Lr):=H7.as kr
   refine yF (R:=zR B w0 ((b3,Qx #[.map (some bm)] 68 (0,0))::(bm,mpO (zs (V)))::(b2,snO none 0 0 none 0 0)::(b1,snO q m cq (Qg bw) n c)::Lr) (V.filter (fun x=> !yr V m x))) (some 23) 39 #[Qf bw n c,.func (.func 54) #[] #[Qe b3,Qe b1]] (uF (Qg bw) n c V (Qe b3) (Qe b1) (yr V m) (fun w=>w.heap[b3]? =some (.cells #[.map (some bm)] 68 (0,0))/\w.heap[bm]? =some (mpO (zs V))/\w.heap[b1]? =some (snO q m cq (Qg bw) n c)) [(bw,.cells cur 27)] ((b3,Qx #[.map (some bm)] 68 (0,0))::(bm,mpO (zs (V)))::(b2,snO none 0 0 none 0 0)::(b1,snO q m cq (Qg bw) n c)::Lr) (fun w w' h hb=>⟨zT h.1 hb,zT h.2.1 hb,zT h.2.2 hb⟩) (fun x _=>uE x V hV b3 bm b1 q m cq (Qg bw) n c hm)
    (fun w' X h=>⟨(h.own (b3,Qx #[.map (some bm)] 68 (0,0)) (by simp)).2,(h.own (bm,mpO (zs (V))) (by simp)).2,(h.own (b1,snO q m cq (Qg bw) n c) (by simp)).2⟩) (.inr ⟨bw,cur,rfl,rfl,hrw⟩) (H8.perm (qi [(b3,Qx #[.map (some bm)] 68 (0,0)),(bm,mpO (zs V)),(b2,snO none 0 0 none 0 0),(b1,snO q m cq (Qg bw) n c)] [(bw,Qx cur 27)] Lr)) hV) kr kr ?_
   rintro v w8 ⟨p',n',c',row',rfl,hrow',H9⟩;have H10:St B w0 w8 ((b3,Qx #[.map (some bm)] 68 (0,0))::(bm,mpO (zs (V)))::(b2,snO none 0 0 none 0 0)::(b1,snO q m cq (Qg bw) n c)::(row'++Lr)):=H9.perm (qi [(b3,Qx #[.map (some bm)] 68 (0,0)),(bm,mpO (zs (V))),(b2,snO none 0 0 none 0 0),(b1,snO q m cq (Qg bw) n c)] row' Lr).symm;refine rp [.v,.s 3] H10 kr fun gs9 w9 H11=>wX []<|zl<|wW ?_;have H12:St B w0 w9 ((b3,Qx #[.map (some bm)] 68 (0,0))::(bm,mpO (zs (V)))::(b2,snO none 0 0 none 0 0)::(b1,snO q m cq p' n' c')::(row'++Lr)):=H11.as kr;refine rS [.l 3,.s 2] H12 kr fun gs10 w10 H13=>rRr [.cell 2 25] [2] (snV q m cq p' n' c') (xj B w0 Lr q m cq (V.filter (fun x=> !yr V m x))) H13 kr ?_;exact⟨p',n',c',row',rfl,hrow',(H13.as (l:=(b3,Qx #[.map (some bm)] 68 (0,0))::(bm,mpO (zs (V)))::(b2,snO q m cq p' n' c')::(b1,snO q m cq p' n' c')::(row'++Lr)) kr).sub (Qy [_,_,_,_] _)⟩
theorem zbL (q:Qc)(m cq:Nat)(L:Qi)(p:Qc)(n c:Nat)(V:List Bal)(b:Bal)(rL rV Lr:Qb){B:Nat}{w0 w:World}(hrL:zz sS 9 q m cq rL L)(hrV:zz blS 27 p n c rV V)(h:St B w0 w (rL++(rV++Lr)))(hs:qf L)(hL:L.length<=1000000)(hV:V.length<=1000000):
 Calls Try.prog 24 #[snV q m cq p n c,blV b] w fun e w'=> ∃v,e=.returned v/\kx B w0 Lr (ym L V b) v w':=by
 refine yt (c:=zr Try.f24) (rs:=[.cell 4 25]) (N:=27) Try.func24 kr kr kr ?_;have hlenL:=hrL.len;refine zo [0,1,2] kr kr<|qn h (some 2) 25 (.tmp 0) (snV q m cq p n c) kr kr kr ?_;intro b2 w1 H1;refine qn H1 (some 3) 27 (.tmp 1) (blV b) kr kr kr ?_;intro b3 w2 H2;refine yD H2 (some 4) 25 (snV none 0 0 none 0 0) kr kr kr ?_;intro b4 w3 H3;refine zl<|wW<|zo [0,1,2,3,4,5] kr kr<|rp [.v,.l 2,.v] H3 kr fun gs4 w4 H4=>wX [3,4,5] ?_;have H5:St B w0 w4 ((b4,snO none 0 0 none 0 0)::(b3,blO b)::(b2,snO q m cq p n c)::(rL++(rV++Lr))):=H4.as kr;refine yF (R:=zR B w0 ((b4,snO none 0 0 none 0 0)::(b3,blO b)::(b2,snO q m cq p n c)::(rL++Lr)) (V.filter (fun x=> !goB b x))) (some 8) 39 #[.slice p n c,.func (.func 40) #[] #[Qe b3]] (zbE p n c V (Qe b3) (goB b) (fun w=>w.heap[b3]? =some (blO b)) rV ((b4,snO none 0 0 none 0 0)::(b3,blO b)::(b2,snO q m cq p n c)::(rL++Lr)) (fun w w' h hb=>zT h hb) (fun x _=>zbB x b b3) (fun w' X h=>(h.own (b3,blO b) (by simp)).2) hrV (H5.perm (xi [(b4,snO none 0 0 none 0 0),(b3,blO b),(b2,snO q m cq p n c)] rL rV Lr)) hV) kr kr ?_;rintro v w5 ⟨p1,n1,c1,rV1,rfl,hrV1,H6⟩;have H7:St B w0 w5 ((b4,snO none 0 0 none 0 0)::(b3,blO b)::(b2,snO q m cq p n c)::(rL++(rV1++Lr))):=H6.perm (xi [(b4,snO none 0 0 none 0 0),(b3,blO b),(b2,snO q m cq p n c)] rL rV1 Lr).symm;refine rp [.v,.s 2] H7 kr fun gs8 w8 H8=>wX []<|zl<|wW ?_;have H9:St B w0 w8 ((b4,snO none 0 0 none 0 0)::(b3,blO b)::(b2,snO q m cq p1 n1 c1)::(rL++(rV1++Lr))):=H8.as kr;have hV1:(V.filter (fun x=> !goB b x)).length<=1000000:=Rp (Ry _ _) hV;refine ze kr ?_;obtain⟨b_1,b_2,b_3⟩:=b;cases b_3 with
 | true=>
  refine rS [.v,.l 1] H9 kr fun gs9 w9 H10=>zu<|zo [0,1,2,3,4,5,6,7] kr kr<|rp [.v,.l 2,.v,.l 1,.v] H10 kr fun gs11 w11 H11=>wX [5,6,7] ?_;have H12:St B w0 w11 ((b4,snO none 0 0 none 0 0)::(b3,blO (b_1,b_2,true))::(b2,snO q m cq p1 n1 c1)::(rL++(rV1++Lr))):=H11.as kr;refine yF (R:=zY B w0 ((b3,blO (b_1,b_2,true))::(b4,snO none 0 0 none 0 0)::(b2,snO q m cq p1 n1 c1)::(rV1++Lr)) (zm (fun x=>zd (tl x) (tl b_2)) b_2 L)) (some 17) 41 #[.slice q m cq,.string b_2,leV b3] (zbx q m cq L (b_1,b_2,true) b3 rL ((b4,snO none 0 0 none 0 0)::(b2,snO q m cq p1 n1 c1)::(rV1++Lr)) hrL (H12.perm ((qi [(b3,blO (b_1,b_2,true)),(b4,snO none 0 0 none 0 0),(b2,snO q m cq p1 n1 c1)] rL (rV1++Lr)).trans (Ux _ _ _))) hs hL) kr kr ?_;rintro v w12 ⟨q1,m1,cq1,rL1,rfl,hrL1,H13⟩;have H14:St B w0 w12 ((b4,snO none 0 0 none 0 0)::(b3,blO (b_1,b_2,true))::(b2,snO q m cq p1 n1 c1)::(rL1++(rV1++Lr))):=H13.perm ((Ux _ _ _).trans (qi [(b3,blO (b_1,b_2,true)),(b4,snO none 0 0 none 0 0),(b2,snO q m cq p1 n1 c1)] rL1 (rV1++Lr)).symm);refine rp [.v,.s 2] H14 kr fun gs15 w15 H15=>wX []<|zl<|wW ?_;have H16:St B w0 w15 ((b4,snO none 0 0 none 0 0)::(b3,blO (b_1,b_2,true))::(b2,snO q1 m1 cq1 p1 n1 c1)::(rL1++(rV1++Lr))):=H15.as kr;refine rS [.l 2,.s 0] H16 kr fun gs17 w17 H17=>rRr [.cell 4 25] [0] (snV q1 m1 cq1 p1 n1 c1) (kx B w0 Lr (ym L V (b_1,b_2,true))) H17 kr ?_;refine⟨q1,m1,cq1,p1,n1,c1,rL1,rV1,rfl,?_,?_,(H17.as (l:=((b4,snO q1 m1 cq1 p1 n1 c1)::(b3,blO (b_1,b_2,true))::(b2,snO q1 m1 cq1 p1 n1 c1)::(rL1++(rV1++Lr)))) kr).sub (Qy [_,_,_] _)⟩
  ·unfold ym;rw[if_pos rfl];exact hrL1
  ·unfold ym;rw[if_pos rfl];exact hrV1
 | false=>
  refine rS [.v,.l 1] H9 kr fun gs9 w9 H10=>zq<|wW<|zo [0,1,2,3,4,5] kr kr<|rp [.v,.l 2,.v] H10 kr fun gs11 w11 H11=>wX [3,4,5] ?_;have H12:St B w0 w11 ((b4,snO none 0 0 none 0 0)::(b3,blO (b_1,b_2,false))::(b2,snO q m cq p1 n1 c1)::(rL++(rV1++Lr))):=H11.as kr;refine yF (R:=zY B w0 ((b4,snO none 0 0 none 0 0)::(b3,blO (b_1,b_2,false))::(b2,snO q m cq p1 n1 c1)::(rV1++Lr)) (L.filter (fun x=> !decide (x=b_2)))) (some 23) 43 #[.slice q m cq,.func (.func 44) #[] #[Qe b3]] (zbH q m cq L (Qe b3) (fun x=>decide (x=b_2)) (fun w=>w.heap[b3]? =some (blO (b_1,b_2,false))) rL ((b4,snO none 0 0 none 0 0)::(b3,blO (b_1,b_2,false))::(b2,snO q m cq p1 n1 c1)::(rV1++Lr)) (fun w w' h hb=>zT h hb) (fun x _=>zbC x (b_1,b_2,false) b3) (fun w' X h=>(h.own (b3,blO (b_1,b_2,false)) (by simp)).2) hrL (H12.perm (qi [(b4,snO none 0 0 none 0 0),(b3,blO (b_1,b_2,false)),(b2,snO q m cq p1 n1 c1)] rL (rV1++Lr))) hL) kr kr ?_;rintro v w12 ⟨q1,m1,cq1,rL1,rfl,hrL1,H13⟩;have H14:St B w0 w12 ((b4,snO none 0 0 none 0 0)::(b3,blO (b_1,b_2,false))::(b2,snO q m cq p1 n1 c1)::(rL1++(rV1++Lr))):=H13.perm (qi [(b4,snO none 0 0 none 0 0),(b3,blO (b_1,b_2,false)),(b2,snO q m cq p1 n1 c1)] rL1 (rV1++Lr)).symm;refine rp [.v,.s 2] H14 kr fun gs15 w15 H15=>wX []<|zl<|wW ?_;have hm1:m1<=1000000:=by rw[<-hrL1.len];exact Rp (Ry _ _) hL
  refine zo [0,1,2] kr kr<|rp [.l 2] H15 kr fun gs16 w16 H16a=>wX [1,2] ?_;have H16:St B w0 w16 ((b4,snO none 0 0 none 0 0)::(b3,blO (b_1,b_2,false))::(b2,snO q1 m1 cq1 p1 n1 c1)::(rL1++(rV1++Lr))):=H16a.as kr;refine yF (R:=xj B w0 ((b4,snO none 0 0 none 0 0)::(b3,blO (b_1,b_2,false))::(b2,snO q1 m1 cq1 p1 n1 c1)::(rL1++Lr)) q1 m1 cq1 ((V.filter (fun x=> !goB (b_1,b_2,false) x)).filter (fun x=> !yr (V.filter (fun x=> !goB (b_1,b_2,false) x)) m1 x))) (some 26) 45 #[snV q1 m1 cq1 p1 n1 c1] (zbK q1 m1 cq1 p1 n1 c1 (V.filter (fun x=> !goB (b_1,b_2,false) x)) rV1 ((b4,snO none 0 0 none 0 0)::(b3,blO (b_1,b_2,false))::(b2,snO q1 m1 cq1 p1 n1 c1)::(rL1++Lr)) hm1 hrV1 (H16.perm (xi [(b4,snO none 0 0 none 0 0),(b3,blO (b_1,b_2,false)),(b2,snO q1 m1 cq1 p1 n1 c1)] rL1 rV1 Lr)) hV1) kr kr ?_;rintro v w17 ⟨p2,n2,c2,rV2,rfl,hrV2,H17⟩;have H18:St B w0 w17 ((b4,snO none 0 0 none 0 0)::(b3,blO (b_1,b_2,false))::(b2,snO q1 m1 cq1 p1 n1 c1)::(rL1++(rV2++Lr))):=H17.perm (xi [(b4,snO none 0 0 none 0 0),(b3,blO (b_1,b_2,false)),(b2,snO q1 m1 cq1 p1 n1 c1)] rL1 rV2 Lr).symm;refine rp [.s 0] H18 kr fun gs19 w19 H19=>wX []<|zl<|wW<|rRr [.cell 4 25] [0] (snV q1 m1 cq1 p2 n2 c2) (kx B w0 Lr (ym L V (b_1,b_2,false))) H19 kr ?_;refine⟨q1,m1,cq1,p2,n2,c2,rL1,rV2,rfl,?_,?_,(H19.as (l:=((b4,snO q1 m1 cq1 p2 n2 c2)::(b3,blO (b_1,b_2,false))::(b2,snO q1 m1 cq1 p1 n1 c1)::(rL1++(rV2++Lr)))) kr).sub (Qy [_,_,_] _)⟩
  ·unfold ym;rw[if_neg QN];exact hrL1
  ·unfold ym;rw[if_neg QN];have hl1:(L.filter (fun x=> !decide (x=b_2))).length=m1:=hrL1.len;show zz blS 27 p2 n2 c2 rV2 ((V.filter fun x=> !goB (b_1,b_2,false) x).filter fun x=> !yr (V.filter fun x=> !goB (b_1,b_2,false) x) (L.filter (fun x=> !decide (x=b_2))).length x);rw[hl1];exact hrV2
def qG (y:Gh):Qc:=if y.l.getD 0 0=0 then none else Qg y.b
def pG2 (y:Gh):Qc:=if y.l.getD 1 0=0 then none else some ⟨y.l.getD 2 0,0,none⟩
theorem zbM {α β:Type}{S1:Fl α}{S2:Fl β}{t1 t2:TypeId}{q p:Qc}{m cq n c:Nat}{r1 r2:Qb}{L:List α}{V:List β}(h1:zz S1 t1 q m cq r1 L)(h2:zz S2 t2 p n c r2 V):∃x:Gh,q=qG x/\m=x.n/\cq=x.cap/\p=pG2 x/\n=x.l.getD 3 0/\c=x.l.getD 4 0:=by
 rcases h1 with⟨rfl,rfl,rfl,_,_⟩|⟨b1,_,rfl,_,_⟩<;>rcases h2 with⟨rfl,rfl,rfl,_,_⟩ | ⟨b2,_,rfl,_,_⟩
 ·exact⟨{ n:=0,cap:=0,l:=[0,0,0,0,0] },rfl,rfl,rfl,rfl,rfl,rfl⟩
 ·exact⟨{ n:=0,cap:=0,l:=[0,1,b2,n,c] },rfl,rfl,rfl,rfl,rfl,rfl⟩
 ·exact⟨{ b:=b1,n:=m,cap:=cq,l:=[1,0,0,0,0] },rfl,rfl,rfl,rfl,rfl,rfl⟩
 ·exact⟨{ b:=b1,n:=m,cap:=cq,l:=[1,1,b2,n,c] },rfl,rfl,rfl,rfl,rfl,rfl⟩
abbrev snG (y:Gh):Value:=snV (qG y) y.n y.cap (pG2 y) (y.l.getD 3 0) (y.l.getD 4 0)
theorem D2.run_cc {P:Program}{ops:Array Oper}{d:Option Nat}{ρ:Env}{k:Nat}{w:World}{S:Value->World->Prop}{f:Nat}{args:Qd}{R:Value->World->Prop}(hc:Calls P f args w fun e w'=> ∃v,e=.returned v/\R v w')(h:opv P ops k ρ w=some (d,true,.ok (.enter f args) w))(hS: ∀v w',R v w'->S v w'):
 ∃o,ops[k]? =some o/\o.dst=d/\Region.wanted o (zv ops ρ)=true/\D2.Runs P S ((execOp (ev ρ) o).run P w):=by
 obtain⟨o,ho,hd,hw,hr⟩:=yc h;refine⟨o,ho,hd,hw,?_⟩;rw[hr];refine Calls.mono hc ?_;rintro e w' ⟨v,rfl,hR⟩;exact⟨v,rfl,hS v w' hR⟩
theorem uH {α:Type}(A X Y:List α):(Y++(A++X)).Perm (A++(X++Y)):=by rw[<-QK A X Y];exact RA
theorem uI {α:Type}(A X Y:List α):(X++(Y++A)).Perm (A++(X++Y)):=by rw[<-QK X Y A];exact RA
theorem zbN {α:Type}[DecidableEq α](f:α->Bool)(b:α)(L:List α):(zm f b L).length<=L.length+1:=by
 unfold zm;split
 ·omega
 ·have:=qw f L;rw[QD,Rq,Qv,List.length_drop];omega
theorem uJ {L:Qi}{V:List Bal}(h:zE L V=true):(∀x∈L,Qq x<=1000000)/\(∀x∈V,Qq x.1<=1000000/\Qq x.2.1<=1000000):=by
 obtain⟨r1,r2,r3⟩:=yO.1 h;obtain⟨s1,s2,s3,s4⟩:=qg.1 r3;refine⟨fun x hx=>by rw[s1 x hx];decide,fun x hx=>?_⟩;obtain⟨f1,f2,f3⟩:=yP.1 (r1 x hx).1;exact⟨by rw[s1 _ f1];decide,by rw[f2];decide⟩
theorem uK (q:Qc)(m cq:Nat)(L:Qi)(p:Qc)(n c:Nat)(V:List Bal)(b:Bal)(hL:L.length<=100000)(hV:V.length<=100000):FnT Try.prog 8 #[snV q m cq p n c,blV b] (fun w=>zM w L V q m p n) (qd q m cq L p n c V (zF L V b)):=by
 refine FnT.intro (c:=zr Try.f8) [.cell 4 25,.tmp 5] 39 Try.func8 kr kr kr fun w hP=>?_;obtain⟨hS,hVV⟩:=hP;have hright:=ko q m cq L p n c V (by omega) (by omega);have hcast:=zbh q m cq L p n c b (by omega);have H0:=St.start w;refine rS [.b,.b,.a,.v] H0 kr fun gs1 w1 H1=>ze kr ?_;cases hr:zE L V with
 | false=>
  rw[hr]at hright;refine rS [.l 0,.cp (pre:=fun w=>zM w L V q m p n) hright [] (fun w hb hd=>⟨hS.call hb,hVV.call hb⟩),.v] H1 kr fun gs2 w2 H2=>zu<|rS [.v,.s 2,.v] H2 kr fun gse we He=>rRr [.cell 4 25,.tmp 5] [2] (.tuple #[snV none 0 0 none 0 0,.int .i64 1]) (qF w.heap.size w (qd q m cq L p n c V (zF L V b))) He kr ?_;rw[<-xd,show yV L V b=([],[],1) by unfold yV;rw[if_pos hr]];exact⟨_,qd.no (e:=1),He.sub (Uk _)⟩
 | true=>
  rw[hr]at hright;refine rS [.l 0,.cp (pre:=fun w=>zM w L V q m p n) hright [] (fun w hb hd=>⟨hS.call hb,hVV.call hb⟩),.v] H1 kr fun gs2 w2 H2=>zq<|wW<|ze kr ?_;cases hcb:qx L b with
  | false=>
   rw[hcb]at hcast;refine rS [.l 0,.l 1,.cp (pre:=fun w=>AtF sS w q m L) hcast [] (fun w hb hd=>hS.call hb),.v] H2 kr fun gs3 w3 H3=>zu<|rS [.v,.s 2,.v] H3 kr fun gse we He=>rRr [.cell 4 25,.tmp 5] [2] (.tuple #[snV none 0 0 none 0 0,.int .i64 44]) (qF w.heap.size w (qd q m cq L p n c V (zF L V b))) He kr ?_;rw[<-xd,show yV L V b=([],[],44) by unfold yV;rw[if_neg (by rw[hr];decide),if_pos hcb]];exact⟨_,qd.no (e:=44),He.sub (Uk _)⟩
  | true=>
   rw[hcb]at hcast;refine rS [.l 0,.l 1,.cp (pre:=fun w=>AtF sS w q m L) hcast [] (fun w hb hd=>hS.call hb),.v] H2 kr fun gs3 w3 H3=>zq<|wW ?_;obtain⟨r1,hsB,r3⟩:=yO.1 hr;obtain⟨s1,hsL,s3,s4⟩:=qg.1 r3;have hfit:zD L b=true:=by
    unfold qx at hcb;rw[Qk]at hcb;exact hcb.1
   obtain⟨f1,f2,f3⟩:=yP.1 hfit;have hb1:b.1.size<=1000000:=by rw[s1 _ f1];decide
   have hb2:b.2.1.size<=1000000:=by rw[f2];decide
   have hlen:=zbN (fun x=>aheadB x b) b V;have hcnt:=jW b (zm (fun x=>aheadB x b) b V);have H3b:St w.heap.size w w3 [((gs1 0).b,snO q m cq p n c),((gs1 1).b,blO b),((gs1 2).b,snO none 0 0 none 0 0)]:=H3.as kr;generalize (gs1 0).b=b0 at*;generalize (gs1 1).b=b1 at*;generalize (gs1 2).b=b2 at*;refine jO [(2,Qe b0),(3,Qe b1),(4,Qe b2)] kr fun ρ0=>?_;clear H0 H1 H2 H3;refine zo [0,1,2,3] kr kr<|rp [.l 0] H3b kr fun gs4 w4 H4=>wX [1,2,3] ?_;have H5:St w.heap.size w w4 [(b0,snO q m cq p n c),(b1,blO b),(b2,snO none 0 0 none 0 0)]:=H4.as kr;refine xJ H5 (some 17) 20 #[snV q m cq p n c] (zbJ q m cq L p n c V (by omega) (by omega) (uJ hr).1 (uJ hr).2) ⟨hS.call H5.below,hVV.call H5.below⟩ kr kr ?_;rintro v T w5 ⟨q1,m1,cq1,p1,n1,c1,rL,rV,rfl,rfl,hrL,hrV⟩ H6;have H6b:St w.heap.size w w5 ((b0,snO q m cq p n c)::(b1,blO b)::(b2,snO none 0 0 none 0 0)::(rL++rV)):=H6.perm (RA (l₁:=[(b0,snO q m cq p n c),(b1,blO b),(b2,snO none 0 0 none 0 0)]) (l₂:=rL++rV));refine yD H6b (some 6) 25 (snV none 0 0 none 0 0) kr kr kr ?_;intro b6 w6 H7;refine rp [.s 0] H7 kr fun gs8 w8 H8a=>wX []<|zl<|wW ?_;have H8:St w.heap.size w w8 ((b6,snO q1 m1 cq1 p1 n1 c1)::(b0,snO q m cq p n c)::(b1,blO b)::(b2,snO none 0 0 none 0 0)::(rL++rV)):=H8a.as kr;have hmL:L.length=m1:=hrL.len;refine ze kr<|D2.g_draw0 [0,1,2,3,4,5,6,7,8] [(some 18,fun _=>.pointer (some ⟨b6,1,none⟩)),(some 19,fun _=>.slice p1 n1 c1),(some 20,fun _=>blV b),(some 21,fun _=>blV b),(some 22,fun _=>blV b),(some 23,fun y=>ahV y.b),(some 24,fun y=>.slice (pG y) y.n y.cap),(some 25,fun _=>.pointer (some ⟨b6,1,none⟩)),(none,fun _=>undef)]
    (D2.chn [5,6,8] fun j g ww=>match j with
     | 0=>St w.heap.size w ww ((b6,snO q1 m1 cq1 p1 n1 c1)::(b0,snO q m cq p n c)::(b1,blO b)::(b2,snO none 0 0 none 0 0)::(rL++rV))
     | 1=>St w.heap.size w ww (((g 5).b,blO b)::((b6,snO q1 m1 cq1 p1 n1 c1)::(b0,snO q m cq p n c)::(b1,blO b)::(b2,snO none 0 0 none 0 0)::(rL++rV)))
     | 2=> ∃rN,zz blS 27 (pG (g 6)) (g 6).n (g 6).cap rN (zm (fun x=>aheadB x b) b V)/\St w.heap.size w ww (((g 5).b,blO b)::((b6,snO q1 m1 cq1 p1 n1 c1)::(b0,snO q m cq p n c)::(b1,blO b)::(b2,snO none 0 0 none 0 0)::(rL++rN)))
     | _=> ∃rN,zz blS 27 (pG (g 6)) (g 6).n (g 6).cap rN (zm (fun x=>aheadB x b) b V)/\St w.heap.size w ww (((g 5).b,blO b)::((b6,snO q1 m1 cq1 (pG (g 6)) (g 6).n (g 6).cap)::(b0,snO q m cq p n c)::(b1,blO b)::(b2,snO none 0 0 none 0 0)::(rL++rN))))
    kr kr kr H8.drew ⟨?_,?_,?_,?_,?_,?_,?_,?_,?_,trivial⟩ ?_
   ·exact D2.gv_val (fun _ _ _ h=>h) (fun g w=>by kernel_rfl)
   ·exact D2.gv_ld (fun _ _ _ h=>h) 23 (.tmp 18) (fun _=>b6) 1 #[.slice q1 m1 cq1,.slice p1 n1 c1] 25 (0,0) (fun g=>by kernel_rfl) (fun g=>by kernel_rfl) (fun L g w hN hp=>hp.getN 2 8 rfl (hN.post 8 kr) fun j hj h=>by
     match j,hj,h with
     | 0,_,h=>exact(h.own (b6,snO q1 m1 cq1 p1 n1 c1) (by simp)).2
     | 1,_,h=>exact(h.own (b6,snO q1 m1 cq1 p1 n1 c1) (by simp)).2
     | 2,_,h=>exact(let ⟨_,_,hh⟩:=h;(hh.own (b6,snO q1 m1 cq1 p1 n1 c1) (by simp)).2)) kr kr
   ·exact D2.gv_ld (fun _ _ _ h=>h) 27 (.tmp 3) (fun _=>b1) 0 (blC b) 27 (0,0) (fun g=>by kernel_rfl) (fun g=>by kernel_rfl) (fun L g w hN hp=>hp.get fun j hj h=>by
     match j,h with
     | 0,h=>exact(h.own (b1,blO b) (by simp)).2
     | 1,h=>exact(h.own (b1,blO b) (by simp)).2
     | 2,h=>exact(let ⟨_,_,hh⟩:=h;(hh.own (b1,blO b) (by simp)).2)
     | _+3,h=>exact(let ⟨_,_,hh⟩:=h;(hh.own (b1,blO b) (by simp)).2)) kr kr
   ·exact D2.gv_cW (fun _ _ _ h=>h) 22 #[blV b] (kw b hb1 hb2) (fun L g w w' hN hp hb=>by
     revert hp;unfold D2.chn
     generalize D2.stg [5,6,8] L=j;intro hp
     match j,hp with
     | 0,h=>exact h.call hb
     | 1,h=>exact h.call hb
     | 2,h=>exact(let ⟨r,hr,hh⟩:=h;⟨r,hr,hh.call hb⟩)
     | _+3,h=>exact(let ⟨r,hr,hh⟩:=h;⟨r,hr,hh.call hb⟩)) (fun g w=>by kernel_rfl)
   ·exact D2.gv_ld (fun _ _ _ h=>h) 27 (.tmp 3) (fun _=>b1) 0 (blC b) 27 (0,0) (fun g=>by kernel_rfl) (fun g=>by kernel_rfl) (fun L g w hN hp=>hp.get fun j hj h=>by
     match j,h with
     | 0,h=>exact(h.own (b1,blO b) (by simp)).2
     | 1,h=>exact(h.own (b1,blO b) (by simp)).2
     | 2,h=>exact(let ⟨_,_,hh⟩:=h;(hh.own (b1,blO b) (by simp)).2)
     | _+3,h=>exact(let ⟨_,_,hh⟩:=h;(hh.own (b1,blO b) (by simp)).2)) kr kr
   ·refine D2.gv_chn 5 0 (fun L hN=>by
     have e5:=hN.1;have e6:=hN.post 6 kr;have e8:=hN.fwd e6 (show D2.edge _ 6 8=true by kernel_rfl)
     exact⟨by (simp[D2.stg,e5,e6,e8])<;>rfl,by (simp[D2.stg,D2.put1,e5,e6,e8])<;>rfl⟩) fun g ww hq=>?_
    exact D2.run_ft (um b) trivial kr (fun v T w' ⟨k,hv,hT⟩ hSt=>⟨{ b:=k },hv,by rw[hT]at hSt;exact hq.addAll hSt⟩)
   ·refine D2.gv_chn 6 1 (fun L hN=>by
     have e6:=hN.1;have e5:=hN.bef 5 kr;have e8:=hN.post 8 kr
     exact⟨by (simp[D2.stg,e5,e6,e8])<;>rfl,by (simp[D2.stg,D2.put1,e5,e6,e8])<;>rfl⟩) fun g ww hq=>?_
    refine D2.run_cc (zbw p1 n1 c1 V b (g 5).b rV ((b6,snO q1 m1 cq1 p1 n1 c1)::(b0,snO q m cq p n c)::(b1,blO b)::(b2,snO none 0 0 none 0 0)::rL) hrV (hq.perm (uH [((g 5).b,blO b),(b6,snO q1 m1 cq1 p1 n1 c1),(b0,snO q m cq p n c),(b1,blO b),(b2,snO none 0 0 none 0 0)] rL rV)) hsB (by omega)) kr fun v w' hR=>?_;obtain⟨p',n',k',rN,rfl,hrN,hSt⟩:=hR;obtain⟨y,hy,hrN'⟩:=zaw hrN;exact⟨y,hy,rN,hrN',hSt.perm (uH [((g 5).b,blO b),(b6,snO q1 m1 cq1 p1 n1 c1),(b0,snO q m cq p n c),(b1,blO b),(b2,snO none 0 0 none 0 0)] rL rN).symm⟩
   ·exact D2.gv_val (fun _ _ _ h=>h) (fun g w=>by kernel_rfl)
   ·refine D2.gv_chn 8 2 (fun L hN=>by
     have e8:=hN.1;have e6:=hN.bef 6 kr;have e5:=hN.back e6 (show D2.edge _ 5 6=true by kernel_rfl)
     exact⟨by (simp[D2.stg,e5,e6,e8])<;>rfl,by (simp[D2.stg,D2.put1,e5,e6,e8])<;>rfl⟩) fun g ww hq=>?_
    obtain⟨rN,hrN,hq⟩:=hq;exact D2.run_sto (t:=23) (x:=.tmp 25) (y:=.tmp 24) (C:=#[.slice q1 m1 cq1,.slice p1 n1 c1]) (C':=#[.slice q1 m1 cq1,.slice (pG (g 6)) (g 6).n (g 6).cap]) (T:=25) (off:=1) (b:=b6) (v:=.slice (pG (g 6)) (g 6).n (g 6).cap) kr kr kr kr kr (St.get hq 1 kr) (Qw kr) kr ⟨g 8,rfl,rN,hrN,St.store (C:=#[.slice q1 m1 cq1,.slice p1 n1 c1]) (T:=25) hq 1 kr⟩
   intro L1 g w9 hall hp;have hq:=hp.fin (fun k hk=>hall k (by simp at hk;rcases hk with rfl | rfl | rfl<;>exact Qw kr));obtain⟨rN,hrN,H9⟩:=hq;refine wW<|jO [(3,Qe b1),(4,Qe b2),(6,Qe b6)] kr fun ρ1=>?_;have H10:St w.heap.size w w9 ((b6,snO q1 m1 cq1 (pG (g 6)) (g 6).n (g 6).cap)::(b0,snO q m cq p n c)::(b1,blO b)::(b2,snO none 0 0 none 0 0)::(rL++rN)):=H9.sub (Qp ..);generalize pG (g 6)=p2 at hrN H10;generalize (g 6).n=n2 at hrN H10;generalize (g 6).cap=c2 at hrN H10;clear hp hall H9;refine ze kr<|ze kr<|D2.g_draw0 [0,1,2,3,4,5,6,7] [(some 26,fun _=>snV q1 m1 cq1 p2 n2 c2),(some 27,fun _=>blV b),(some 28,fun _=>iN (zh b (zm (fun x=>aheadB x b) b V))),(some 29,fun _=>iN (2*zh b (zm (fun x=>aheadB x b) b V))),(some 30,fun _=>Qe b6),(some 31,fun _=>.slice q1 m1 cq1),(some 32,fun _=>iN m1),(some 33,fun _=>.bool (decide (m1<2*zh b (zm (fun x=>aheadB x b) b V))))]
    (fun _ _ ww=>St w.heap.size w ww ((b6,snO q1 m1 cq1 p2 n2 c2)::(b0,snO q m cq p n c)::(b1,blO b)::(b2,snO none 0 0 none 0 0)::(rL++rN))) kr kr kr H10.drew ⟨?_,?_,?_,?_,?_,?_,?_,?_,trivial⟩ ?_
   ·exact D2.gv_ld (fun _ _ _ h=>h) 25 (.tmp 6) (fun _=>b6) 0 #[.slice q1 m1 cq1,.slice p2 n2 c2] 25 (0,0) (fun g=>by kernel_rfl) (fun g=>by kernel_rfl) (fun L g w hN hp=>(hp.own (b6,snO q1 m1 cq1 p2 n2 c2) (by simp)).2) kr kr
   ·exact D2.gv_ld (fun _ _ _ h=>h) 27 (.tmp 3) (fun _=>b1) 0 (blC b) 27 (0,0) (fun g=>by kernel_rfl) (fun g=>by kernel_rfl) (fun L g w hN hp=>(hp.own (b1,blO b) (by simp)).2) kr kr
   ·exact D2.gv_cpW (fun _ _ _ h=>h) 15 #[snV q1 m1 cq1 p2 n2 c2,blV b] (zbg q1 m1 cq1 p2 n2 c2 (zm (fun x=>aheadB x b) b V) b (by omega)) (fun L g w hN hp=>hrN.atF hp fun e he=>Q4 _ (Q4 _ (Q4 _ (Q4 _ (List.mem_append_right _ he))))) (fun L g w w' hN hp hb=>hp.call hb) (fun g w=>by kernel_rfl)
   ·exact D2.gv_valE (V':=.int .i64 (Qm.wrap (2*((zh b (zm (fun x=>aheadB x b) b V):Nat):Int)))) (fun _ _ _ h=>h) (fun g w=>by kernel_rfl) (zf (yu (a:=2) (b:=zh b (zm (fun x=>aheadB x b) b V)) (by omega)))
   ·exact D2.gv_val (fun _ _ _ h=>h) (fun g w=>by kernel_rfl)
   ·exact D2.gv_ld (fun _ _ _ h=>h) 22 (.tmp 30) (fun _=>b6) 0 #[.slice q1 m1 cq1,.slice p2 n2 c2] 25 (0,0) (fun g=>by kernel_rfl) (fun g=>by kernel_rfl) (fun L g w hN hp=>(hp.own (b6,snO q1 m1 cq1 p2 n2 c2) (by simp)).2) kr kr
   ·exact D2.gv_val (fun _ _ _ h=>h) (fun g w=>by kernel_rfl)
   ·exact D2.gv_valE (V':=.bool (decide (((2*zh b (zm (fun x=>aheadB x b) b V):Nat):Int)>(m1:Int)))) (fun _ _ _ h=>h) (fun g w=>by kernel_rfl) (za (by rw[Ue,decide_eq_true_iff,decide_eq_true_iff];omega))
   intro L9 g9 w11 _ H11;refine wW ?_;by_cases hmany:m1<2*zh b (zm (fun x=>aheadB x b) b V)
   ·refine qb 33 (v:=.bool (decide (m1<2*zh b (zm (fun x=>aheadB x b) b V)))) (v':=.bool true) (by rw[decide_eq_true hmany]) kr<|zu<|D2.g_draw0 [0,1,2,3,4] [(some 34,fun _=>snV q1 m1 cq1 p2 n2 c2),(some 35,fun _=>blV b),(some 36,fun _=>blV b),(some 37,fun y=>snG y),(none,fun _=>undef)]
     (D2.chn [3,4] fun j g ww=>match j with
      | 0=>St w.heap.size w ww ((b6,snO q1 m1 cq1 p2 n2 c2)::(b0,snO q m cq p n c)::(b1,blO b)::(b2,snO none 0 0 none 0 0)::(rL++rN))
      | 1=> ∃r1 r2,zz sS 9 (qG (g 3)) (g 3).n (g 3).cap r1 (ym L (zm (fun x=>aheadB x b) b V) b).1/\zz blS 27 (pG2 (g 3)) ((g 3).l.getD 3 0) ((g 3).l.getD 4 0) r2 (ym L (zm (fun x=>aheadB x b) b V) b).2/\St w.heap.size w ww ((b6,snO q1 m1 cq1 p2 n2 c2)::(b0,snO q m cq p n c)::(b1,blO b)::(b2,snO none 0 0 none 0 0)::(r1++r2))
      | _=> ∃r1 r2,zz sS 9 (qG (g 3)) (g 3).n (g 3).cap r1 (ym L (zm (fun x=>aheadB x b) b V) b).1/\zz blS 27 (pG2 (g 3)) ((g 3).l.getD 3 0) ((g 3).l.getD 4 0) r2 (ym L (zm (fun x=>aheadB x b) b V) b).2/\St w.heap.size w ww ((b6,snO (qG (g 3)) (g 3).n (g 3).cap (pG2 (g 3)) ((g 3).l.getD 3 0) ((g 3).l.getD 4 0))::(b0,snO q m cq p n c)::(b1,blO b)::(b2,snO none 0 0 none 0 0)::(r1++r2)))
     kr kr kr H11.drew ⟨?_,?_,?_,?_,?_,trivial⟩ ?_
    ·exact D2.gv_ld (fun _ _ _ h=>h) 25 (.tmp 6) (fun _=>b6) 0 #[.slice q1 m1 cq1,.slice p2 n2 c2] 25 (0,0) (fun g=>by kernel_rfl) (fun g=>by kernel_rfl) (fun L g w hN hp=>hp.getN 1 4 rfl (hN.post 4 kr) fun j hj h=>by
      match j,hj,h with
      | 0,_,h=>exact(h.own (b6,snO q1 m1 cq1 p2 n2 c2) (by simp)).2
      | 1,_,h=>exact(let ⟨_,_,_,_,hh⟩:=h;(hh.own (b6,snO q1 m1 cq1 p2 n2 c2) (by simp)).2)) kr kr
    ·exact D2.gv_ld (fun _ _ _ h=>h) 27 (.tmp 3) (fun _=>b1) 0 (blC b) 27 (0,0) (fun g=>by kernel_rfl) (fun g=>by kernel_rfl) (fun L g w hN hp=>hp.get fun j hj h=>by
      match j,h with
      | 0,h=>exact(h.own (b1,blO b) (by simp)).2
      | 1,h=>exact(let ⟨_,_,_,_,hh⟩:=h;(hh.own (b1,blO b) (by simp)).2)
      | _+2,h=>exact(let ⟨_,_,_,_,hh⟩:=h;(hh.own (b1,blO b) (by simp)).2)) kr kr
    ·exact D2.gv_cW (fun _ _ _ h=>h) 22 #[blV b] (kw b hb1 hb2) (fun L g w w' hN hp hb=>by
      revert hp;unfold D2.chn
      generalize D2.stg [3,4] L=j;intro hp
      match j,hp with
      | 0,h=>exact h.call hb
      | 1,h=>exact(let ⟨r1,r2,h1,h2,hh⟩:=h;⟨r1,r2,h1,h2,hh.call hb⟩)
      | _+2,h=>exact(let ⟨r1,r2,h1,h2,hh⟩:=h;⟨r1,r2,h1,h2,hh.call hb⟩)) (fun g w=>by kernel_rfl)
    ·refine D2.gv_chn 3 0 (fun L hN=>by
      have e3:=hN.1;have e4:=hN.post 4 kr
      exact⟨by (simp[D2.stg,e3,e4])<;>rfl,by (simp[D2.stg,D2.put1,e3,e4])<;>rfl⟩) fun g ww hq=>?_
     refine D2.run_cc (zbL q1 m1 cq1 L p2 n2 c2 (zm (fun x=>aheadB x b) b V) b rL rN [(b6,snO q1 m1 cq1 p2 n2 c2),(b0,snO q m cq p n c),(b1,blO b),(b2,snO none 0 0 none 0 0)] hrL hrN (hq.perm (uI _ rL rN)) hsL (by omega) (by omega)) kr fun v w' hR=>?_;obtain⟨q',m',cq',p',n',c',r1,r2,rfl,h1,h2,hSt⟩:=hR;obtain⟨y,e1,e2,e3,e4,e5,e6⟩:=zbM h1 h2;subst e1 e2 e3 e4 e5 e6;exact⟨y,rfl,r1,r2,h1,h2,hSt.perm (uI [(b6,snO q1 m1 cq1 p2 n2 c2),(b0,snO q m cq p n c),(b1,blO b),(b2,snO none 0 0 none 0 0)] r1 r2).symm⟩
    ·refine D2.gv_chn 4 1 (fun L hN=>by
      have e4:=hN.1;have e3:=hN.bef 3 kr
      exact⟨by (simp[D2.stg,e3,e4])<;>rfl,by (simp[D2.stg,D2.put1,e3,e4])<;>rfl⟩) fun g ww hq=>?_
     obtain⟨r1,r2,h1,h2,hq⟩:=hq;exact D2.run_sto (t:=25) (x:=.tmp 6) (y:=.tmp 37) (C:=#[.slice q1 m1 cq1,.slice p2 n2 c2]) (C':=#[.slice (qG (g 3)) (g 3).n (g 3).cap,.slice (pG2 (g 3)) ((g 3).l.getD 3 0) ((g 3).l.getD 4 0)]) (T:=25) (off:=0) (b:=b6) (v:=snG (g 3)) kr kr kr kr kr (St.get hq 0 kr) (Qw kr) kr ⟨g 4,rfl,r1,r2,h1,h2,St.store (C:=#[.slice q1 m1 cq1,.slice p2 n2 c2]) (T:=25) hq 0 kr⟩
    intro L1 g w12 hall hp;have hq:=hp.fin (fun k hk=>hall k (by simp at hk;rcases hk with rfl | rfl<;>exact Qw kr));obtain⟨r1,r2,h1,h2,H12⟩:=hq;refine wW<|rS [.l 0,.s 3,.v] H12 kr fun gs13 w13 H13=>rRr [.cell 4 25,.tmp 5] [3] (.tuple #[snG (g 3),.int .i64 0]) (qF w.heap.size w (qd q m cq L p n c V (zF L V b))) H13 kr ?_;rw[<-xd,show yV L V b=((ym L (zm (fun x=>aheadB x b) b V) b).1,(ym L (zm (fun x=>aheadB x b) b V) b).2,0) by unfold yV;rw[if_neg (by rw[hr];decide),if_neg (by rw[hcb];decide),if_pos (by rw[hrL.len];exact hmany)]];exact⟨r1++r2,⟨qG (g 3),(g 3).n,(g 3).cap,pG2 (g 3),(g 3).l.getD 3 0,(g 3).l.getD 4 0,r1,r2,rfl,rfl,.inr h1,.inr h2⟩,(H13.as (l:=(b6,snO (qG (g 3)) (g 3).n (g 3).cap (pG2 (g 3)) ((g 3).l.getD 3 0) ((g 3).l.getD 4 0))::(b0,snO q m cq p n c)::(b1,blO b)::(b2,snO (qG (g 3)) (g 3).n (g 3).cap (pG2 (g 3)) ((g 3).l.getD 3 0) ((g 3).l.getD 4 0))::(r1++r2)) kr).sub (Qy [_,_,_,_] _)⟩
   ·refine qb 33 (v:=.bool (decide (m1<2*zh b (zm (fun x=>aheadB x b) b V)))) (v':=.bool false) (by rw[decide_eq_false hmany]) kr<|zq<|wW<|rS [.l 0,.s 3,.v] H11 kr fun gs13 w13 H13=>rRr [.cell 4 25,.tmp 5] [3] (.tuple #[snV q1 m1 cq1 p2 n2 c2,.int .i64 0]) (qF w.heap.size w (qd q m cq L p n c V (zF L V b))) H13 kr ?_;rw[<-xd,show yV L V b=(L,(zm (fun x=>aheadB x b) b V),0) by unfold yV;rw[if_neg (by rw[hr];decide),if_neg (by rw[hcb];decide),if_neg (by rw[hrL.len];exact hmany)]];exact⟨rL++rN,⟨q1,m1,cq1,p2,n2,c2,rL,rN,rfl,rfl,.inr hrL,.inr hrN⟩,(H13.as (l:=(b6,snO q1 m1 cq1 p2 n2 c2)::(b0,snO q m cq p n c)::(b1,blO b)::(b2,snO q1 m1 cq1 p2 n2 c2)::(rL++rN)) kr).sub (Qy [_,_,_,_] _)⟩
end
theorem zM.few {w:World}{L:Qi}{V:List Bal}{q:Qc}{m:Nat}{p:Qc}{n:Nat}(h:zM w L V q m p n):zM w (L.take 20) (V.take 60) q (min m 20) p (min n 60):=by
 have h1:=h.1.take (min m 20) (Nat.min_le_left _ _);have h2:=h.2.take (min n 60) (Nat.min_le_left _ _);have e1:L.take (min m 20)=L.take 20:=by
  rw[h.1.1];by_cases hl:L.length<=20
  ·rw[Rk hl,QA (Qs _),QA hl]
  ·rw[Nat.min_eq_right (by omega)]
 have e2:V.take (min n 60)=V.take 60:=by
  rw[h.2.1];by_cases hl:V.length<=60
  ·rw[Rk hl,QA (Qs _),QA hl]
  ·rw[Nat.min_eq_right (by omega)]
 rw[e1]at h1;rw[e2]at h2;exact⟨h1,h2⟩
section
open D2 (Gh)
theorem qZ {q0 p0 q p:Qc}{m0 c0 n0 d0 m cq n c:Nat}{L0 L:Qi}{V0 V:List Bal}{A B T l:Qb}{b0:Nat}{w0 w:World}(hA:yG sS 9 q0 m0 c0 L0 q m cq A L)(hB:yG blS 27 p0 n0 d0 V0 p n c B V)(hT:T=A++B)(hS:St b0 w0 w l)(hl: ∀e∈T,e∈l)(h0:zM w L0 V0 q0 m0 p0 n0):zM w L V q m p n:=
 ⟨hA.at hS (fun e he=>hl e (by rw[hT];exact R5 _ he)) h0.1,hB.at hS (fun e he=>hl e (by rw[hT];exact List.mem_append_right _ he)) h0.2⟩
theorem zM.call {w w':World}{L:Qi}{V:List Bal}{q p:Qc}{m n:Nat}(h:zM w L V q m p n)(hb:Below w.heap.size w w'):zM w' L V q m p n:=⟨h.1.call hb,h.2.call hb⟩
section
variable {P:Program}{N:Nat}{c:Code}{Q:Exit->Env->World->Prop}{ρ:Env}{w:World}
abbrev qC (i:Nat):Value:=.int .i64 (Qm.wrap ((i:Int)+1))
theorem zbO (ti tn tc tj b0 b1 n:Nat)(I:Nat->Env->World->Prop)(hI: ∀i ρ w,I i ρ w->ρ ti=iN i/\ρ tn=iN n)
 (h0:I 0 ρ w) (hb: ∀i ρ w,i<n->I i ρ w->WP P N (jq c) (xS ti b0 b1 (fun ρ=>upd (upd ρ tj (qC i)) ti (qC i)) I Q i) (upd ρ tc (.bool true)) w)
 (he: ∀ρ w,I n ρ w->Q .normal (upd ρ tc (.bool false)) w)
 (hs:jU 1 2 b0 b1 tc c=true:=by kernel_rfl) (hx:qj (zI (yz c))=.tmp tc:=by kernel_rfl)
 (ht: ∀(ρ0:Env) (i:Nat) w,opv P (zc (jp c)) 0 (upd (upd ρ0 tn (iN n)) ti (iN i)) w=some (some tc,true,.ok (.value (.bool (decide ((i:Int)<(n:Int))))) w):=by exact fun ρ0 i w=>by kernel_rfl)
 (hj: ∀(ρ0:Env) (i:Nat) w,opv P (zc (qK c)) 0 (upd ρ0 ti (iN i)) w=some (some tj,true,.ok (.value (.int .i64 (Qm.wrap ((i:Int)+1)))) w):=by exact fun ρ0 i w=>by kernel_rfl)
 (hk: ∀(ρ0:Env) (v:Value) w,opv P (zc (qK c)) 1 (upd ρ0 tj v) w=some (some ti,true,.ok (.value v) w):=by exact fun ρ0 v w=>by kernel_rfl)
 (hd:(dOK (some tc) N&&(dOK (some tj) N&&dOK (some ti) N))=true:=by kernel_rfl):WP P N c Q ρ w:=by
 simp only[Qk]at hd;refine vA (ti:=ti) (tst:=fun i ρ=>upd ρ tc (.bool (decide ((i:Int)<(n:Int))))) (inc:=fun i ρ=>upd (upd ρ tj (qC i)) ti (qC i)) (n:=n) I hs hx (fun i ρ w K h k=>?_) (fun i ρ w h=>?_) (fun i ρ w K hi h k=>?_) h0 (fun i ρ w hi h=>?_) (fun ρ w h=>?_)
 ·have e:upd (upd ρ tn (iN n)) ti (iN i)=ρ:=by rw[qo (hI i ρ w h).2,qo (hI i ρ w h).1]
  refine zW (some tc) _ (fun w=>e▸ht ρ i w) hd.1 ?_;exact zl k
 ·show upd ρ tc _ tc=_;unfold upd;rw[Nat.beq_refl];rfl
 ·have e:upd ρ ti (iN i)=ρ:=qo h;refine zW (some tj) (qC i) (fun w=>e▸hj ρ i w) hd.2.1<|zW (some ti) (qC i) (fun w=>hk ρ (qC i) w) hd.2.2 ?_;exact zl k
 ·show WP P N (jq c) _ (upd ρ tc (.bool (decide ((i:Int)<(n:Int))))) w;rw[decide_eq_true (show (i:Int)<(n:Int) by omega)];exact hb i ρ w hi h
 ·show Q .normal (upd ρ tc (.bool (decide ((n:Int)<(n:Int))))) w;rw[decide_eq_false (show ¬(n:Int)<(n:Int) by omega)];exact he ρ w h
end
def aS:Qa:=⟨#[97,97,97,97,97,97,97,97,97,97,97,97,97,97,97,97,97,97,97,97]⟩
def bS:Qa:=⟨#[98,98,98,98,98,98,98,98,98,98,98,98,98,98,98,98,98,98,98,98]⟩
theorem zbP:zF [aS] [] (aS,bS,true)=([aS,bS],[],0):=by decide+kernel
theorem zbQ:zE [aS,bS] []=true:=by decide+kernel
theorem ky:Fn Try.prog 18 #[] (.bool true):=by
 refine Fn.intro (c:=zr Try.f18) [.tmp 0] 28 Try.func18 kr kr kr fun w=>?_;have hc:=fun bn=>uK (Qg bn) 1 1 [aS] none 0 0 [] (aS,bS,true) (by decide) (by decide);rw[zbP]at hc;refine rS [.v] (St.start w) kr fun gs1 w1 H1=>zo [0,1,2,3,4,5,6,7,8,9] kr kr<|qI H1 (some 4) (fun b=>Qf b 1 1) #[.string aS] 9 kr kr ?_;intro bn w2 H2;refine rp [.v,.v] H2 kr fun gs101 v1 K1=>wX [3,4,5,6,7,8,9] ?_;have K2:St w.heap.size w v1 ((bn,Qx #[.string aS] 9 (0,0))::[]):=K1.as kr;refine xJ K2 (some 7) 8 #[snV (Qg bn) 1 1 none 0 0,blV (aS,bS,true)] (hc bn) ⟨jt (S:=sS) (M:=[aS]) ⟨rfl,Qs _,by unfold maxLen;omega,rfl,rfl⟩ (St.get K2 0 rfl),⟨rfl,.inl rfl⟩⟩ kr kr ?_;rintro v T1 v2 ⟨q1,m1,cq1,p1,n1,c1,A1,B1,rfl,hT1,hA1,hB1⟩ K3;have K4:St w.heap.size w v2 ((bn,Qx #[.string aS] 9 (0,0))::(T1++ [])):=K3.perm (Q6 [(bn,Qx #[.string aS] 9 (0,0))] T1 []);refine rp [.v,.v,.v] K4 kr fun gs102 v3 K5=>wX [7,8,9] ?_;have K6:St w.heap.size w v3 ((bn,Qx #[.string aS] 9 (0,0))::(T1++ [])):=K5.as kr;refine yD K6 (some 1) 25 (snV none 0 0 none 0 0) kr kr kr ?_;intro k1 v4 K7;refine rp [.s 0,.v] K7 kr fun gs103 v5 K8=>wX []<|zl<|wW ?_;have K9:St w.heap.size w v5 ((k1,snO q1 m1 cq1 p1 n1 c1)::(bn,Qx #[.string aS] 9 (0,0))::(T1++ [])):=K8.as kr;have hs:zM v5 [aS,bS] [] q1 m1 p1 n1:=qZ hA1 hB1 hT1 K9 (fun e he=>by simp[he]) ⟨jt (S:=sS) (M:=[aS]) ⟨rfl,Qs _,by unfold maxLen;omega,rfl,rfl⟩ (St.get K9 1 rfl),⟨rfl,.inl rfl⟩⟩;obtain rfl:m1=2:=hs.1.1;obtain rfl:n1=0:=hs.2.1;have hr:=ko q1 2 cq1 [aS,bS] p1 0 c1 [] (by decide) (by decide);rw[zbQ]at hr;refine zo [0,1,2,3,4,5,6,7,8,9,10,11,12,13,14,15,16,17,18] kr kr<|rp [.v,.v,.v,.v,.l 0,.v,.v,.v,.v,.v,.l 0,.v,.v,.v,.v,.l 0] K9 kr fun gs104 v6 K10=>wX [16,17,18] ?_;have hs2:zM v6 [aS,bS] [] q1 2 p1 0:=qZ hA1 hB1 hT1 (K10.as (l:=((k1,snO q1 2 cq1 p1 0 c1)::(bn,Qx #[.string aS] 9 (0,0))::(T1++ []))) kr) (fun e he=>by simp[he]) ⟨jt (S:=sS) (M:=[aS]) ⟨rfl,Qs _,by unfold maxLen;omega,rfl,rfl⟩ (St.get (K10.as (l:=((k1,snO q1 2 cq1 p1 0 c1)::(bn,Qx #[.string aS] 9 (0,0))::(T1++ []))) kr) 1 rfl),⟨rfl,.inl rfl⟩⟩;have K11:St w.heap.size w v6 ((k1,snO q1 2 cq1 p1 0 c1)::(bn,Qx #[.string aS] 9 (0,0))::(T1++ [])):=K10.as kr;refine yJ K11 (some 26) 11 #[snV q1 2 cq1 p1 0 c1] _ _ (hr) hs2 (fun w=>by kernel_rfl) kr ?_;intro v7 K12;refine rp [.v,.v] K12 kr fun gs105 v8 K13=>wX []<|zl<|wW ?_;exact rR [.tmp 0] [] (.bool true) K13 kr
end
section
open D2 (Gh)
open Go.ChangeShapes Go.WideShapes Go.ChangeAt
section
variable {H:Type}{enc:TypeId×Value->H}{W:World}{sp:Nat->Bool}{held:Bool}
theorem zbR {v:Value}{d:DataW H}{p:List MemPlace}{base:Nat}(hv:Value.okWide Try.prog W .any base 22 v)(h:DataW.Trod enc Try.prog W 0 sp held 22 v d p):
 ∃(q:Qc) (n c:Nat) (L:Qi),v=.slice q n c/\qH q n c/\(∀x∈L,x.size<=maxLen)/\AtF sS W q n L:=
 vu Try.underlying22 vC zaP hv h
end
theorem uL {α:Type}(T A:List α)(e:α):(e::(T++A)).Perm (T++(A++ [e])):=by
 rw[<-QK];exact(List.perm_append_singleton e (T++A)).symm
def zH (b:Bal)(V:List Bal):Nat:=(V.filter (yH b)).length
theorem uM (b:Bal)(V:List Bal):zH b V<=V.length:=Ry _ _
theorem zbS (b:Bal)(V:List Bal)(x:Bal):zH b (V++ [x])=zH b V+if yH b x=true then 1 else 0:=by
 unfold zH;rw[Q2,QD];congr 1;by_cases h:yH b x=true
 ·rw[if_pos h,RG h];rfl
 ·rw[if_neg h,Q8 h];rfl
theorem zbT (q:Qc)(m cq:Nat)(L:Qi)(sl1:qH q m cq)(ok1: ∀x∈L,Qq x<=maxLen)(pl:Qc)(nl cl:Nat)(X:List Bal)(sl2:qH pl nl cl)(ok2: ∀x∈X,True):FnP Try.prog 4 #[.slice q m cq,.slice pl nl cl] (fun w=>AtF sS w q m L/\AtF blS w pl nl X) (.bool true):=by
 refine FnP.intro (c:=zr Try.f4) [.tmp 4] 135 Try.func4 kr kr kr fun w hPP=>?_;obtain⟨hPq,hX⟩:=hPP;have hS0:zM w (L.take 20) [] q (min m 20) none 0:=⟨(zM.few (V:=[]) (p:=none) (n:=0) ⟨hPq,rfl,.inl rfl⟩).1,rfl,.inl rfl⟩
 have l1:(L.take 20).length<=20:=by rw[Qv];omega
 have hnl:=hX.1;have H0:=St.start w;refine rS [.v] H0 kr fun gs0 w0 H0a=>rS [.v,.v,.v,.E (.int .i64 (if (20:Int)<(m:Int) then (20:Int) else (m:Int))) (iN (min m 20)) (zf (by split<;>omega)),.o (ins:=[((.tmp 15),.slice q m cq),((.tmp 18),iN (min m 20))]) (v:=.slice q (min m 20) cq) (fun ρ o w ho hi=>zaA (t:=22) (e:=9) (size:=1) (bytes:=16) (kd:=.i64) kr (x:=(.tmp 15)) (y:=(.tmp 18)) sl1 (by omega) ho hi.1 hi.2.1 w),.v,.a,.s 0] H0a kr fun gs1 w1 H1=>?_;have H2:St w.heap.size w w1 [((gs1 6).b,snO q (min m 20) cq none 0 0)]:=H1.as kr;generalize (gs1 6).b=b5 at*;refine jO [(1,.slice pl nl cl),(5,Qe b5)] kr fun ρ0=>?_;clear H0 H0a H1;generalize L.take 20=L0 at hS0 l1;generalize min m 20=m0 at hS0 H2;have hm0:=hS0.1.1;have hr1:=ko q m0 cq L0 none 0 0 [] (by omega) (Q5 _);have hr2:=vG q m0 cq L0 none 0 0 [] (by omega) (Q5 _);refine ze kr ?_;cases hr:zE L0 [] with
 | false=>
  rw[hr]at hr1 hr2;refine rS [.l 0,.cp (pre:=fun w=>zM w L0 [] q m0 none 0) hr2 [] (fun w' hb hd=>hS0.call hb),.v] H2 kr fun gs3 w3 H3=>zu<|rS [.c ky,.v,.l 0,.cp (pre:=fun w=>zM w L0 [] q m0 none 0) hr1 [] (fun w' hb hd=>hS0.call hb),.v,.v,.v] H3 kr fun gs4 w4 H4=>?_;exact rR [.tmp 4] [] (.bool true) H4 kr
 | true=>
  rw[hr]at hr2;refine rS [.l 0,.cp (pre:=fun w=>zM w L0 [] q m0 none 0) hr2 [] (fun w' hb hd=>hS0.call hb),.v] H2 kr fun gs3 w3 H3=>zq<|wW<|ze kr<|rS [.v,.v,.v] H3 kr fun gs4 w4 H4=>zbO 32 31 33 133 0 1 nl (fun i ρ ww=> ∃q' m' cq' p' n' c' LL VV A B',zE LL VV=true/\VV.length<=i/\yG sS 9 q m0 cq L0 q' m' cq' A LL/\yG blS 27 none 0 0 [] p' n' c' B' VV/\i<=40/\St w.heap.size w ww ((b5,snO q' m' cq' p' n' c')::(A++B'))/\Is [(5,Qe b5),(30,.slice pl nl cl),(31,iN nl),(32,iN i)] ρ) (by rintro i _ ww ⟨_,_,_,_,_,_,_,_,_,_,_,_,_,_,_,_,_,rfl⟩;exact⟨kr,kr⟩) ⟨q,m0,cq,none,0,0,L0,[],[],[],hr,Qs _,.inl ⟨rfl,rfl,rfl,rfl,rfl⟩,.inl ⟨rfl,rfl,rfl,rfl,rfl⟩,Q5 _,H4.as kr,isK⟩ ?_ ?_
  ·rintro i _ w5 hi ⟨q',m',cq',p',n',c',LL,VV,A,B',hrv,hvl,hA,hB,hi40,H5,_,rfl⟩;obtain⟨x,hx⟩:∃x,X[i]? =some x:=⟨_,Qj (by omega)⟩
   obtain⟨bl,off,C,T,fz,hp,hh,hR⟩:=hX.row2 (by omega);have sAt: ∀ {ww:World} {l:Qb},St w.heap.size w ww l->(∀e∈A,e∈l)->(∀e∈B',e∈l)->zM ww LL VV q' m' p' n':=fun hS h1 h2=>⟨hA.at hS h1 (hS0.1.call hS.below),hB.at hS h2 ⟨rfl,.inl rfl⟩⟩
   have hLL:LL.length<=16:=(qg.1 (yO.1 hrv).2.2).2.2.2;have hLL0:0<LL.length:=(qg.1 (yO.1 hrv).2.2).2.2.1;refine zo [0,1,2,3,4,5] kr kr<|rp [.v,.o (ins:=[((.tmp 30),.slice pl nl cl),((.tmp 32),iN i)]) (v:=.pointer (some ⟨bl,off+i*3,none⟩)) (fun ρ o w ho hi2=>zt (kd:=.i64) (t:=23) (e:=27) (K:=3) (bytes:=40) kr (x:=(.tmp 30)) (y:=(.tmp 32)) bl off nl cl i hp ho hi2.1 hi2.2.1 (by omega) w),.fp (off:=off+i*3) (n:=3) (W:=blC x) hh (zk hh) (hR _ _ hx).1 (hR _ _ hx).2] H5 kr fun gs101 v1 K1=>wX [3,4,5] ?_;have K2:St w.heap.size w v1 ((b5,snO q' m' cq' p' n' c')::(A++B')):=K1.as kr;refine yD K2 (some 7) 27 (.agg #[.string em,.string em,.bool false]) kr kr kr ?_;intro b7 v2 K3;refine rp [.v,.s 0] K3 kr fun gs102 v3 K4=>wX []<|zl<|wW ?_;have K5:St w.heap.size w v3 ((b7,blO x)::(b5,snO q' m' cq' p' n' c')::(A++B')):=K4.as kr;refine ze kr ?_;by_cases h40:40<=i
   ·refine rS [.v,.E (.bool (decide ((i:Int)≥40))) (.bool true) (za (decide_eq_true (by omega)))] K5 kr fun gs40 w40 H40=>zu<|qm 0 kr<|wW<|rS [.c ky,.v] (H40.sub (Uk _)) kr fun gsf wf Hf=>?_;exact rR [.tmp 4] [] (.bool true) Hf kr
   refine rS [.v,.E (.bool (decide ((i:Int)≥40))) (.bool false) (za (decide_eq_false (by omega)))] K5 kr fun gs103 v4 K6=>zN kr kr<|zQ kr<|wW ?_;have hinc:qC i=iN (i+1):=zf (zw (a:=i) (b:=1) (by omega));have hcl:=zaY LL VV x;have hc1:=uK q' m' cq' LL p' n' c' VV x (by omega) (by omega);have hrf:= @za9 LL VV x;have hkp:= @za8 LL VV x;have hrt:= @ue LL VV x;generalize hxr:zF LL VV x=xr at hc1 hcl hrf hrt hkp;obtain⟨xL,xV,xe⟩:=xr;change xL.length<=LL.length+1/\xV.length<=VV.length+1 at hcl;refine zo [0,1,2,3,4,5,6,7,8] kr kr<|rp [.l 1,.l 0] K6 kr fun gs104 v5 K7=>wX [2,3,4,5,6,7,8] ?_;have K8:St w.heap.size w v5 ((b7,blO x)::(b5,snO q' m' cq' p' n' c')::(A++B')):=K7.as kr;refine xJ K8 (some 42) 8 #[snV q' m' cq' p' n' c',blV x] (hc1) (sAt K8 (fun e he=>by simp[he]) (fun e he=>by simp[he])) kr kr ?_;rintro v T1 v6 ⟨q1,m1,cq1,p1,n1,c1,A1,B1,rfl,hT1,hA1,hB1⟩ K9;have K10:St w.heap.size w v6 ((b7,blO x)::(b5,snO q' m' cq' p' n' c')::(T1++(A++B'))):=K9.perm (Q6 [(b7,blO x),(b5,snO q' m' cq' p' n' c')] T1 (A++B'));refine rp [.v,.v,.v] K10 kr fun gs105 v7 K11=>wX [6,7,8] ?_;have K12:St w.heap.size w v7 ((b7,blO x)::(b5,snO q' m' cq' p' n' c')::(T1++(A++B'))):=K11.as kr;refine yD K12 (some 8) 25 (snV none 0 0 none 0 0) kr kr kr ?_;intro k1 v8 K13;refine rp [.s 0,.v] K13 kr fun gs106 v9 K14=>wX []<|zl<|wW ?_;have K15:St w.heap.size w v9 ((k1,snO q1 m1 cq1 p1 n1 c1)::(b7,blO x)::(b5,snO q' m' cq' p' n' c')::(T1++(A++B'))):=K14.as kr;refine ze kr ?_;by_cases he:xe=0
   case neg=>
    obtain⟨h9,h44⟩:=hrf he;obtain⟨rfl,rfl⟩:xL=[]/\xV=[]:=by simpa using h9
    obtain rfl:xe=44:=h44 hrv;have hs1:zM v9 [] [] q1 m1 p1 n1:=qZ hA1 hB1 hT1 K15 (fun e he=>by simp[he]) ((sAt K15 (fun e he=>by simp[he]) (fun e he=>by simp[he])));obtain rfl:m1=0:=hs1.1.1;refine rS [.v,.v] K15 kr fun gs107 v10 K16=>zu<|ze kr<|rS [.v,.v,.v,.v,.l 0,.v,.v,.v] K16 kr fun gs108 v11 K17=>zN kr kr<|zQ kr<|wW ?_;have K18:St w.heap.size w v11 ((k1,snO q1 0 cq1 p1 n1 c1)::(b7,blO x)::(b5,snO q' m' cq' p' n' c')::(T1++(A++B'))):=K17.as kr;refine qm 1 kr ?_;show _/\_;refine⟨kr,q',m',cq',p',n',c',LL,VV,A,B',hrv,by omega,hA,hB,by omega,K18.sub ?_,(congrArg (fun v=>Is [(5,Qe b5),(30,.slice pl nl cl),(31,iN nl),(32,v)] _) hinc).mp isK⟩;exact RE _ (RE _ (QH _ (Qy _ _)))
   subst he;refine rS [.v,.v] K15 kr fun gs107 v10 K16=>zN kr kr<|zQ kr<|wW ?_;have hrx:zE xL xV=true:=hrt rfl;obtain⟨g1,g2,g3,g4,g5⟩:=hkp rfl;change 1<=xL.length at g1;change xL.length<=LL.length+1 at g2;change LL.length<=xL.length+1 at g3;change LL.length≠xL.length↔LL.length<2*(zH x VV+1)at g4;change LL.length≠xL.length->zA x.2.1 xL=x.2.2 at g5;have K17:St w.heap.size w v10 ((k1,snO q1 m1 cq1 p1 n1 c1)::(b7,blO x)::(b5,snO q' m' cq' p' n' c')::(T1++(A++B'))):=K16.as kr;have hs1:zM v10 xL xV q1 m1 p1 n1:=qZ hA1 hB1 hT1 K17 (fun e he=>by simp[he]) ((sAt K17 (fun e he=>by simp[he]) (fun e he=>by simp[he])));have hm1:m1=xL.length:=hs1.1.1;have hsP:zM v10 LL VV q' m' p' n':=(sAt K17 (fun e he=>by simp[he]) (fun e he=>by simp[he]))
   have hm':m'=LL.length:=hsP.1.1;have hn':n'=VV.length:=hsP.2.1;clear hs1 hsP;refine dS [.v,.l 2,.v,.v,.l 0,.v,.v,.v] K17 kr fun v11 K18=>ze kr ?_;have hrr:=vG q1 m1 cq1 xL p1 n1 c1 xV (by omega) (by omega);rw[hrx]at hrr;refine zo [0,1,2,3,4,5,6,7,8,9,10,11,12,13,14,15,16,17,18] kr kr<|rp [.l 0] K18 kr fun gs108 v12 K19=>wX [1,2,3,4,5,6,7,8,9,10,11,12,13,14,15,16,17,18] ?_;have K20:St w.heap.size w v12 ((k1,snO q1 m1 cq1 p1 n1 c1)::(b7,blO x)::(b5,snO q' m' cq' p' n' c')::(T1++(A++B'))):=K19.as kr;refine yJ K20 (some 62) 12 #[snV q1 m1 cq1 p1 n1 c1] _ _ (hrr) (qZ hA1 hB1 hT1 K20 (fun e he=>by simp[he]) ((sAt K20 (fun e he=>by simp[he]) (fun e he=>by simp[he])))) (fun w=>by kernel_rfl) kr ?_;intro v13 K21;refine rp [.v,.v,.v,.E (.bool (decide ((m1:Int)<1))) (.bool false) (za (decide_eq_false (by omega))),.v,.v,.v,.v,.E (.int .i64 (Qm.wrap ((m':Int)+1))) (iN (m'+1)) (zf (zw (a:=m') (b:=1) (by omega))),.E (.bool (decide ((m1:Int)>((m'+1:Nat):Int)))) (.bool false) (za (decide_eq_false (by omega))),.v,.v,.v,.v,.E (.int .i64 (Qm.wrap ((m':Int)-1))) (iN (m'-1)) (zf (yv (a:=m') (b:=1) (by omega))),.E (.bool (decide ((m1:Int)<((m'-1:Nat):Int)))) (.bool false) (za (decide_eq_false (by omega))),.v] K21 kr fun gs109 v14 K22=>wX []<|zl<|wW<|zN kr kr<|zQ kr<|wW<|rS [.v] K22 kr fun gs110 v15 K23=>?_;have K24:St w.heap.size w v15 ((k1,snO q1 m1 cq1 p1 n1 c1)::(b7,blO x)::(b5,snO q' m' cq' p' n' c')::(T1++(A++B'))):=K23.as kr;refine ze kr<|kF (Q:=fun e ρ ww=>e=.normal/\St w.heap.size w ww ((k1,snO q1 m1 cq1 p1 n1 c1)::(b7,blO x)::(b5,snO q' m' cq' p' n' c')::(T1++(A++B')))/\Is [(5,Qe b5),(7,Qe b7),(8,Qe k1),(10,iN m'),(11,iN m1),(12,iN (zH x VV)),(30,.slice pl nl cl),(31,iN nl),(32,iN i)] ρ) ?_ ?_
   ·rcases hB with⟨hb1,hb2,hb3,hb4,hb5⟩|⟨hb1,hb2,hb3,hb4,hb5⟩|⟨bw,cur,hb1,hb2,hrw⟩
    ·subst hb1 hb2 hb3 hb4 hb5;refine rS [.v,.l 2,.v,.v] K24 kr fun gs111 v16 K25=>ye 83 82 84 108 2 3 0 (by omega) (fun j ρ ww=>St w.heap.size w ww ((k1,snO q1 m1 cq1 p1 n1 c1)::(b7,blO x)::(b5,snO q' m' cq' none 0 0)::(T1++(A++ [])))/\Is [(5,Qe b5),(7,Qe b7),(8,Qe k1),(10,iN m'),(11,iN m1),(12,iN 0),(30,.slice pl nl cl),(31,iN nl),(32,iN i),(82,iN 0),(83,iN j)] ρ) (by rintro j _ ww ⟨_,_,rfl⟩;exact⟨kr,kr⟩) ⟨K25.as kr,isK⟩ (fun j ρ ww hj=>absurd hj (RI _)) ?_;rintro _ w9 ⟨H9,_,rfl⟩;exact⟨rfl,H9,isK⟩
    ·subst hb1 hb2 hb3 hb4 hb5;refine rS [.v,.l 2,.v,.v] K24 kr fun gs111 v16 K25=>ye 83 82 84 108 2 3 0 (by omega) (fun j ρ ww=>St w.heap.size w ww ((k1,snO q1 m1 cq1 p1 n1 c1)::(b7,blO x)::(b5,snO q' m' cq' none 0 0)::(T1++(A++ [])))/\Is [(5,Qe b5),(7,Qe b7),(8,Qe k1),(10,iN m'),(11,iN m1),(12,iN 0),(30,.slice pl nl cl),(31,iN nl),(32,iN i),(82,iN 0),(83,iN j)] ρ) (by rintro j _ ww ⟨_,_,rfl⟩;exact⟨kr,kr⟩) ⟨K25.as kr,isK⟩ (fun j ρ ww hj=>absurd hj (RI _)) ?_;rintro _ w9 ⟨H9,_,rfl⟩;exact⟨rfl,H9,isK⟩
    ·subst hb1 hb2;have HP:St w.heap.size w v15 ((k1,snO q1 m1 cq1 p1 n1 c1)::(b7,blO x)::(b5,snO q' m' cq' (Qg bw) n' c')::(bw,Qx cur 27)::(T1++A)):=K24.perm (RT [(k1,snO q1 m1 cq1 p1 n1 c1),(b7,blO x),(b5,snO q' m' cq' (Qg bw) n' c')] (uL T1 A (bw,Qx cur 27)));refine rS [.v,.l 2,.v,.v] HP kr fun gs111 v16 K25=>ye 83 82 84 108 2 3 n' (by omega) (fun j ρ ww=>St w.heap.size w ww ((k1,snO q1 m1 cq1 p1 n1 c1)::(b7,blO x)::(b5,snO q' m' cq' (Qg bw) n' c')::(bw,Qx cur 27)::(T1++A))/\Is [(5,Qe b5),(7,Qe b7),(8,Qe k1),(10,iN m'),(11,iN m1),(12,iN (zH x (VV.take j))),(30,.slice pl nl cl),(31,iN nl),(32,iN i),(81,Qf bw n' c'),(82,iN n'),(83,iN j)] ρ) (by rintro j _ ww ⟨_,_,rfl⟩;exact⟨kr,kr⟩) ⟨K25.as kr,isK⟩ ?_ ?_
     ·rintro j _ w6 hj ⟨H6,_,rfl⟩;obtain⟨y,hy⟩:∃y,VV[j]? =some y:=⟨_,Qj (by omega)⟩
      have hRr:=Rw.rowAt (S:=blS) hrw;have hhl:=uM x (VV.take j);rw[Qv]at hhl;have hsn:zH x (VV.take (j+1))=zH x (VV.take j)+if yH x y=true then 1 else 0:=by rw[yk hy,zbS]
      refine zo [0,1,2,3] kr kr<|rp [.o (ins:=[((.tmp 81),Qf bw n' c'),((.tmp 83),iN j)]) (v:=.pointer (some ⟨bw,0+j*3,none⟩)) (fun ρ o w ho hi2=>zt (kd:=.i64) (t:=23) (e:=27) (K:=3) (bytes:=40) kr (x:=(.tmp 81)) (y:=(.tmp 83)) bw 0 n' c' j rfl ho hi2.1 hi2.2.1 hj w),.lp 3 (C:=cur) (off:=0+j*3) (n:=3) (W:=blC y) (hRr _ _ hy).1 (hRr _ _ hy).2] H6 kr fun gs112 v17 K26=>wX [2,3] ?_;have K27:St w.heap.size w v17 ((k1,snO q1 m1 cq1 p1 n1 c1)::(b7,blO x)::(b5,snO q' m' cq' (Qg bw) n' c')::(bw,Qx cur 27)::(T1++A)):=K26.as kr;refine yD K27 (some 14) 27 (.agg #[.string em,.string em,.bool false]) kr kr kr ?_;intro b14 v18 K28;refine rp [.s 0] K28 kr fun gs113 v19 K29=>wX []<|zl<|wW ?_;have K30:St w.heap.size w v19 ((b14,blO y)::(k1,snO q1 m1 cq1 p1 n1 c1)::(b7,blO x)::(b5,snO q' m' cq' (Qg bw) n' c')::(bw,Qx cur 27)::(T1++A)):=K29.as kr;by_cases e1:y.2.1=x.2.1
      case neg=>
       refine rS [.v,.l 0,.v,.l 2,.E (.bool (y.2.1.toList==x.2.1.toList)) (.bool false) (za (yj _ _ e1)),.v,.n,.n,.n,.n,.n,.v,.v,.n,.n,.n,.n,.n,.v] K30 kr fun gs114 v20 K31=>zq ?_;rw[if_neg (by unfold yH;simp[e1]),RD]at hsn;exact⟨kr,(K31.as (l:=((b14,blO y)::(k1,snO q1 m1 cq1 p1 n1 c1)::(b7,blO x)::(b5,snO q' m' cq' (Qg bw) n' c')::(bw,Qx cur 27)::(T1++A))) kr).sub (Qp ..),(congrArg (fun k=>Is [(5,Qe b5),(7,Qe b7),(8,Qe k1),(10,iN m'),(11,iN m1),(12,iN k),(30,.slice pl nl cl),(31,iN nl),(32,iN i),(81,Qf bw n' c'),(82,iN n'),(83,iN (j+1))] _) hsn).mpr isK⟩
      cases e2:(y.2.2==x.2.2) with
      | false=>
       refine rS [.v,.l 0,.v,.l 2,.E (.bool (y.2.1.toList==x.2.1.toList)) (.bool true) (za (yi _ _ e1)),.v,.v,.l 0,.v,.l 2,.E (.bool (y.2.2==x.2.2)) (.bool false) (za (e2)),.v,.v,.n,.n,.n,.n,.n,.v] K30 kr fun gs114 v20 K31=>zq ?_;rw[if_neg (by unfold yH;rw[e2];simp),RD]at hsn;exact⟨kr,(K31.as (l:=((b14,blO y)::(k1,snO q1 m1 cq1 p1 n1 c1)::(b7,blO x)::(b5,snO q' m' cq' (Qg bw) n' c')::(bw,Qx cur 27)::(T1++A))) kr).sub (Qp ..),(congrArg (fun k=>Is [(5,Qe b5),(7,Qe b7),(8,Qe k1),(10,iN m'),(11,iN m1),(12,iN k),(30,.slice pl nl cl),(31,iN nl),(32,iN i),(81,Qf bw n' c'),(82,iN n'),(83,iN (j+1))] _) hsn).mpr isK⟩
      | true=>
       by_cases e3:y.1=x.1
       case pos=>
        refine rS [.v,.l 0,.v,.l 2,.E (.bool (y.2.1.toList==x.2.1.toList)) (.bool true) (za (yi _ _ e1)),.v,.v,.l 0,.v,.l 2,.E (.bool (y.2.2==x.2.2)) (.bool true) (za (e2)),.v,.v,.v,.l 0,.v,.l 2,.E (.bool (!(y.1.toList==x.1.toList))) (.bool false) (za (by rw[yi _ _ e3];rfl)),.v] K30 kr fun gs114 v20 K31=>zq ?_;rw[if_neg (by unfold yH;simp[e3]),RD]at hsn;exact⟨kr,(K31.as (l:=((b14,blO y)::(k1,snO q1 m1 cq1 p1 n1 c1)::(b7,blO x)::(b5,snO q' m' cq' (Qg bw) n' c')::(bw,Qx cur 27)::(T1++A))) kr).sub (Qp ..),(congrArg (fun k=>Is [(5,Qe b5),(7,Qe b7),(8,Qe k1),(10,iN m'),(11,iN m1),(12,iN k),(30,.slice pl nl cl),(31,iN nl),(32,iN i),(81,Qf bw n' c'),(82,iN n'),(83,iN (j+1))] _) hsn).mpr isK⟩
       refine rS [.v,.l 0,.v,.l 2,.E (.bool (y.2.1.toList==x.2.1.toList)) (.bool true) (za (yi _ _ e1)),.v,.v,.l 0,.v,.l 2,.E (.bool (y.2.2==x.2.2)) (.bool true) (za (e2)),.v,.v,.v,.l 0,.v,.l 2,.E (.bool (!(y.1.toList==x.1.toList))) (.bool true) (za (by rw[yj _ _ e3];rfl)),.v] K30 kr fun gs114 v20 K31=>zu ?_;rw[if_pos (by unfold yH;rw[e2,decide_eq_true e1,decide_eq_false e3];rfl)]at hsn;refine rL [.v,.E (.int .i64 (Qm.wrap (((zH x (VV.take j):Nat):Int)+1))) (iN (zH x (VV.take (j+1)))) (zf (by rw[hsn];exact zw (a:=zH x (VV.take j)) (b:=1) (by omega))),.v] K31 kr fun gsr wr Hr=>?_;exact⟨kr,(Hr.as (l:=((b14,blO y)::(k1,snO q1 m1 cq1 p1 n1 c1)::(b7,blO x)::(b5,snO q' m' cq' (Qg bw) n' c')::(bw,Qx cur 27)::(T1++A))) kr).sub (Qp ..),isK⟩
     ·rintro _ w9 ⟨H9,_,rfl⟩;rw[QA (l:=VV) (by omega)];exact⟨rfl,H9.perm (RT [(k1,snO q1 m1 cq1 p1 n1 c1),(b7,blO x),(b5,snO q' m' cq' (Qg bw) n' c')] (uL T1 A (bw,Qx cur 27)).symm),isK⟩
   rintro _ _ w10 ⟨rfl,H10,_,rfl⟩;refine wW<|ze kr<|ze kr ?_;have hhc:=uM x VV;by_cases hd:m'=m1
   ·have hnot: ¬LL.length<2*(zH x VV+1):=fun h=>(g4.2 h) (by omega)
    refine dL [.v,.v,.E (.bool ((m':Int)!=(m1:Int))) (.bool false) (za (by rw[show m1=m' from hd.symm];exact bne_self_eq_false' _)),.v,.E (.int .i64 (Qm.wrap ((((zH x VV):Nat):Int)+1))) (iN ((zH x VV)+1)) (zf (zw (a:=(zH x VV)) (b:=1) (by omega))),.E (.int .i64 (Qm.wrap (2*(((zH x VV)+1:Nat):Int)))) (iN (2*((zH x VV)+1))) (zf (yu (a:=2) (b:=(zH x VV)+1) (by omega))),.v,.E (.bool (decide (((2*((zH x VV)+1):Nat):Int)>(m':Int)))) (.bool false) (za (decide_eq_false (by omega))),.v,.v,.v,.v,.E (.bool ((m':Int)!=(m1:Int))) (.bool false) (za (by rw[show m1=m' from hd.symm];exact bne_self_eq_false' _)),.v,.n,.n,.n,.n,.n,.n,.n,.v,.v] H10 kr fun v16 K25=>wW ?_;have K26:St w.heap.size w v16 ((k1,snO q1 m1 cq1 p1 n1 c1)::(b7,blO x)::(b5,snO q' m' cq' p' n' c')::(T1++(A++B'))):=K25.as kr;refine zN kr kr<|zQ kr<|wW<|rL [.l 0,.s 2] K26 kr fun gsz wz Hz=>?_;have Hz2:St w.heap.size w wz ((k1,snO q1 m1 cq1 p1 n1 c1)::(b7,blO x)::(b5,snO q1 m1 cq1 p1 n1 c1)::(T1++(A++B'))):=Hz.as kr;obtain⟨A2,hA2,sA⟩:=hA.step hA1;obtain⟨B2,hB2,sB⟩:=hB.step hB1;subst hT1;refine⟨kr,q1,m1,cq1,p1,n1,c1,xL,xV,A2,B2,hrx,by omega,hA2,hB2,by omega,?_,(congrArg (fun v=>Is [(5,Qe b5),(30,.slice pl nl cl),(31,iN nl),(32,v)] _) hinc).mp isK⟩;exact((Hz2.sub (RE _ (RE _ (Rn _)))).perm (Uw _ (show ((A1++A)++(B1++B')).Perm ((A1++B1)++(A++B')) from vJ A1 B1 A B' []))).sub (QH _ (Re sA sB))
   ·have hyes:LL.length<2*(zH x VV+1):=g4.1 (by omega);have hhas:=kj q1 m1 cq1 xL p1 n1 c1 x.2.1 (by omega);rw[g5 (by omega)]at hhas;have K25:St w.heap.size w w10 ((k1,snO q1 m1 cq1 p1 n1 c1)::(b7,blO x)::(b5,snO q' m' cq' p' n' c')::(T1++(A++B'))):=H10.as kr;refine D2.g_draw0 [0,1,2,3,4,5,6,7,8,9,10,11,12,13,14,15,16,17,18,19,20,21,22] [(some 109,fun _=>iN m'),(some 110,fun _=>iN m1),(some 111,fun _=>.bool true),(some 112,fun _=>iN (zH x VV)),(some 113,fun _=>iN ((zH x VV)+1)),(some 114,fun _=>iN (2*((zH x VV)+1))),(some 115,fun _=>iN m'),(some 116,fun _=>.bool true),(some 117,fun _=>.bool false),(some 118,fun _=>.bool false),(some 119,fun _=>iN m'),(some 120,fun _=>iN m1),(some 121,fun _=>.bool true),(some 122,fun _=>.bool true),(some 123,fun _=>snV q1 m1 cq1 p1 n1 c1),(some 124,fun _=>.pointer (some ⟨b7,1,none⟩)),(some 125,fun _=>.string x.2.1),(some 126,fun _=>.bool x.2.2),(some 127,fun _=>.pointer (some ⟨b7,2,none⟩)),(some 128,fun _=>.bool x.2.2),(some 129,fun _=>.bool false),(some 130,fun _=>.bool false),(some 131,fun _=>.bool false)]
     (fun _ _ ww=>St w.heap.size w ww ((k1,snO q1 m1 cq1 p1 n1 c1)::(b7,blO x)::(b5,snO q' m' cq' p' n' c')::(T1++(A++B')))) kr kr kr K25.drew ⟨?_,?_,?_,?_,?_,?_,?_,?_,?_,?_,?_,?_,?_,?_,?_,?_,?_,?_,?_,?_,?_,?_,?_,trivial⟩ ?_
    ·exact D2.gv_val (fun _ _ _ h=>h) (fun g w=>by kernel_rfl)
    ·exact D2.gv_val (fun _ _ _ h=>h) (fun g w=>by kernel_rfl)
    ·exact D2.gv_valE (V':=(.bool ((m':Int)!=(m1:Int)))) (fun _ _ _ h=>h) (fun g w=>by kernel_rfl) (za (bne_iff_ne.2 (by omega)))
    ·exact D2.gv_val (fun _ _ _ h=>h) (fun g w=>by kernel_rfl)
    ·exact D2.gv_valE (V':=(.int .i64 (Qm.wrap ((((zH x VV):Nat):Int)+1)))) (fun _ _ _ h=>h) (fun g w=>by kernel_rfl) (zf (zw (a:=(zH x VV)) (b:=1) (by omega)))
    ·exact D2.gv_valE (V':=(.int .i64 (Qm.wrap (2*(((zH x VV)+1:Nat):Int))))) (fun _ _ _ h=>h) (fun g w=>by kernel_rfl) (zf (yu (a:=2) (b:=(zH x VV)+1) (by omega)))
    ·exact D2.gv_val (fun _ _ _ h=>h) (fun g w=>by kernel_rfl)
    ·exact D2.gv_valE (V':=(.bool (decide (((2*((zH x VV)+1):Nat):Int)>(m':Int))))) (fun _ _ _ h=>h) (fun g w=>by kernel_rfl) (za (decide_eq_true (by omega)))
    ·exact D2.gv_val (fun _ _ _ h=>h) (fun g w=>by kernel_rfl)
    ·exact D2.gv_val (fun _ _ _ h=>h) (fun g w=>by kernel_rfl)
    ·exact D2.gv_val (fun _ _ _ h=>h) (fun g w=>by kernel_rfl)
    ·exact D2.gv_val (fun _ _ _ h=>h) (fun g w=>by kernel_rfl)
    ·exact D2.gv_valE (V':=(.bool ((m':Int)!=(m1:Int)))) (fun _ _ _ h=>h) (fun g w=>by kernel_rfl) (za (bne_iff_ne.2 (by omega)))
    ·exact D2.gv_val (fun _ _ _ h=>h) (fun g w=>by kernel_rfl)
    ·exact D2.gv_ld (fun _ _ _ h=>h) 25 (.tmp 8) (fun _=>k1) 0 #[.slice q1 m1 cq1,.slice p1 n1 c1] 25 (0,0) (fun g=>by kernel_rfl) (fun g=>by kernel_rfl) (fun L g w hN hp=>(hp.own (k1,.cells #[.slice q1 m1 cq1,.slice p1 n1 c1] 25 (0,0)) (by simp)).2) kr kr
    ·exact D2.gv_val (fun _ _ _ h=>h) (fun g w=>by kernel_rfl)
    ·exact D2.gv_ld (fun _ _ _ h=>h) 9 (.tmp 124) (fun _=>b7) 1 (blC x) 27 (0,0) (fun g=>by kernel_rfl) (fun g=>by kernel_rfl) (fun L g w hN hp=>(hp.own (b7,.cells (blC x) 27) (by simp)).2) kr kr
    ·exact D2.gv_cpW (fun _ _ _ h=>h) 13 #[snV q1 m1 cq1 p1 n1 c1,.string x.2.1] (hhas) (fun L g w hN hp=>(qZ hA1 hB1 hT1 hp (fun e he=>by simp[he]) ((sAt hp (fun e he=>by simp[he]) (fun e he=>by simp[he])))).1) (fun L g w w' hN hp hb=>hp.call hb) (fun g w=>by kernel_rfl)
    ·exact D2.gv_val (fun _ _ _ h=>h) (fun g w=>by kernel_rfl)
    ·exact D2.gv_ld (fun _ _ _ h=>h) 4 (.tmp 127) (fun _=>b7) 2 (blC x) 27 (0,0) (fun g=>by kernel_rfl) (fun g=>by kernel_rfl) (fun L g w hN hp=>(hp.own (b7,.cells (blC x) 27) (by simp)).2) kr kr
    ·exact D2.gv_valE (V':=(.bool (x.2.2 !=x.2.2))) (fun _ _ _ h=>h) (fun g w=>by kernel_rfl) (za (bne_self_eq_false _))
    ·exact D2.gv_val (fun _ _ _ h=>h) (fun g w=>by kernel_rfl)
    ·exact D2.gv_val (fun _ _ _ h=>h) (fun g w=>by kernel_rfl)
    intro L9 g9 v16 _ K26;refine wW ?_;have K27:St w.heap.size w v16 ((k1,snO q1 m1 cq1 p1 n1 c1)::(b7,blO x)::(b5,snO q' m' cq' p' n' c')::(T1++(A++B'))):=K26.as kr;refine zN kr kr<|zQ kr<|wW<|rL [.l 0,.s 2] K27 kr fun gsz wz Hz=>?_;have Hz2:St w.heap.size w wz ((k1,snO q1 m1 cq1 p1 n1 c1)::(b7,blO x)::(b5,snO q1 m1 cq1 p1 n1 c1)::(T1++(A++B'))):=Hz.as kr;obtain⟨A2,hA2,sA⟩:=hA.step hA1;obtain⟨B2,hB2,sB⟩:=hB.step hB1;subst hT1;refine⟨kr,q1,m1,cq1,p1,n1,c1,xL,xV,A2,B2,hrx,by omega,hA2,hB2,by omega,?_,(congrArg (fun v=>Is [(5,Qe b5),(30,.slice pl nl cl),(31,iN nl),(32,v)] _) hinc).mp isK⟩;exact((Hz2.sub (RE _ (RE _ (Rn _)))).perm (Uw _ (show ((A1++A)++(B1++B')).Perm ((A1++B1)++(A++B')) from vJ A1 B1 A B' []))).sub (QH _ (Re sA sB))
  ·rintro _ w5 ⟨q',m',cq',p',n',c',LL,VV,A,B',hrv,hvl,hA,hB,hi40,H5,_,rfl⟩;refine wW<|rS [.c ky,.v] (H5.sub (Uk _)) kr fun gsf wf Hf=>?_;exact rR [.tmp 4] [] (.bool true) Hf kr
end
end Go.Proofs.Ytdlllbaejgoncaa
