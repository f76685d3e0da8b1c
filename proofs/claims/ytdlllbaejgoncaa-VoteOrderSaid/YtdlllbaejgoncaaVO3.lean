/-
  Texts of the proof,part 3.
-/
import Derived.Test.YtdlllbaejgoncaaProg
import Derived.MapKept
import Derived.Test.YtdlllbaejgoncaaVO2
set_option maxRecDepth 100000
set_option maxHeartbeats 4000000
set_option linter.unusedVariables false
open Go Go.RowKit
open Bool renaming false_ne_true->QL,eq_false_iff->QM,eq_iff_iff->Uj
open Instr renaming findNow->Um,sameNow->Un
open IntKind renaming i64->Qm
open List renaming getElem?_eq_getElem->Qj,mem_of_getElem?->Qo,getElem?_eq_some_iff->Qp,take_of_length_le->Qv,length_take->Qw,sublist_cons_self->Qx,sublist_append_right->QA,drop_of_length_le->QC,length_append->QF,mem_cons->QJ,perm_append_comm_assoc->QP,mem_cons_of_mem->Q4,filter_append->Q5,filter_eq_self->Q7,drop_drop->Q8,append_assoc->Rd,filter_cons_of_neg->Rg,length_cons->Ro,perm_append_comm->RE,length_filter_le->RI,getElem?_take->RU,filter_cons_of_pos->RV,ext_getElem?->RX,mem_append_left->R1,take_take->R3,getElem?_drop->Ub,toList_toArray->UI
open MapKept renaming run_getObj_map->RQ,run_checkKey->RW,run_findKey->R0
open Nat renaming le_refl->Qs,zero_add->Qt,le_of_ble_eq_true->Qu,mul_le_mul_right->QR,le_trans->Rb,zero_le->Rf,min_eq_left->Rl,lt_succ_self->RN,add_mul->Ua,add_zero->Uk,not_lt_zero->Uo
open Obj renaming cells->QB
open Result renaming andThen_ok->Qz,andThen->Ui
open _root_.ByteArray renaming size->Qq
namespace Go.Proofs.Ytdlllbaejgoncaa
section
open D2 (Gh)
abbrev yn:=List (Qa×Nat)
def zO:Nat->yn->List MapEntry
 | _,[]=>[]
 | k,x::r=>⟨.string x.1,iN x.2,k⟩::zO (k+1) r
def mpO (A:yn):Obj:=.map (zO 0 A).toArray A.length
def zC (a:Qa):yn->Nat
 | []=>0
 | x::r=>if x.1=a then x.2 else zC a r
def yw (a:Qa)(v:Nat):yn->yn
 | []=>[(a,v)]
 | x::r=>if x.1=a then (a,v)::r else x::yw a v r
def qZ (A:yn)(x:Bal):yn:=yw x.2.1 (zC x.2.1 A+1) A
def zr (V:List Bal):yn:=V.foldl qZ []
theorem uA (V:List Bal)(x:Bal):zr (V++ [x])=qZ (zr V) x:=by unfold zr;rw[List.foldl_append];rfl
theorem uB (a b:Qa)(v:Nat): ∀A:yn,zC b (yw a v A)=if a=b then v else zC b A
 | []=>rfl
 | x::r=>by
  unfold yw;by_cases h:x.1=a
  ·rw[if_pos h];show (if a=b then v else zC b r)=_;by_cases e:a=b
   ·rw[if_pos e,if_pos e]
   ·rw[if_neg e,if_neg e];show _=if x.1=b then x.2 else zC b r;rw[if_neg (by rw[h];exact e)]
  ·rw[if_neg h];show (if x.1=b then x.2 else zC b (yw a v r))=_;rw[uB a b v r];by_cases e:a=b
   ·subst e;rw[if_neg h,if_pos rfl,if_pos rfl]
   ·rw[if_neg e,if_neg e];rfl
theorem uC (a:Qa)(V:List Bal):zC a (zr V)=whoC a V:=by
 refine ui (P:=fun V=>zC a (zr V)=whoC a V) rfl (fun A x ih=>?_) V;rw[uA,kq];unfold qZ;rw[uB,<-ih];by_cases e:x.2.1=a
 ·rw[if_pos e,if_pos e,e]
 ·rw[if_neg e,if_neg e,Uk]
theorem ky (a:Qa)(v:Nat): ∀(A:yn) (k i:Nat),(Um .string (.string a) (zO k A) i=some none/\zC a A=0/\yw a v A=A++ [(a,v)])\/
 ∃j n,A[j]? =some (a,n)/\Um .string (.string a) (zO k A) i=some (some (i+j,iN n))/\zC a A=n/\yw a v A=A.set j (a,v)
 | [],k,i=>.inl ⟨rfl,rfl,rfl⟩
 | x::r,k,i=>by
  by_cases h:x.1=a
  ·refine .inr ⟨0,x.2,by rw[<-h];rfl,?_,by unfold zC;rw[if_pos h],by unfold yw;rw[if_pos h];rfl⟩;show (match Un .string (.string a) (.string x.1) with | some true=>_ | some false=>_ | none=>_)=_;rw[show Un .string (.string a) (.string x.1)=some true from congrArg some ((MapKept.bytes_beq _ _).2 h.symm)];rfl
  ·have hs:Un .string (.string a) (.string x.1)=some false:=congrArg some (QM.2 fun q=>h ((MapKept.bytes_beq _ _).1 q).symm);have hf:Um .string (.string a) (zO k (x::r)) i=Um .string (.string a) (zO (k+1) r) (i+1):=by
    show (match Un .string (.string a) (.string x.1) with | some true=>_ | some false=>_ | none=>_)=_;rw[hs]
   rcases ky a v r (k+1) (i+1) with⟨h1,h2,h3⟩|⟨j,n,h1,h2,h3,h4⟩
   ·exact .inl ⟨hf.trans h1,by unfold zC;rw[if_neg h];exact h2,by unfold yw;rw[if_neg h,h3];rfl⟩
   ·refine .inr ⟨j+1,n,by simpa using h1,?_,by unfold zC;rw[if_neg h];exact h3,by unfold yw;rw[if_neg h,h4];rfl⟩;rw[hf,h2,show i+1+j=i+(j+1) by omega]
theorem uD (a:Qa)(v:Nat): ∀(A:yn) (k:Nat),zO k (A++ [(a,v)])=zO k A++ [⟨.string a,iN v,k+A.length⟩]
 | [],k=>rfl
 | x::r,k=>by
  show _::zO (k+1) (r++ [(a,v)])=_::(zO (k+1) r++_);rw[uD a v r (k+1),show k+1+r.length=k+(x::r).length by rw[Ro];omega]
theorem uE: ∀(A:yn) (k:Nat),(zO k A).length=A.length
 | [],_=>rfl
 | x::r,k=>by show (zO (k+1) r).length+1=_;rw[uE r (k+1)];rfl
theorem uF: ∀(A:yn) (k j:Nat) (x:Qa×Nat),A[j]? =some x->(zO k A)[j]? =some ⟨.string x.1,iN x.2,k+j⟩
 | [],_,_,_,h=>by simp at h
 | y::r,k,0,x,h=>by
  obtain rfl:y=x:=by simpa using h
  rfl
 | y::r,k,j+1,x,h=>by
  show (zO (k+1) r)[j]? =_;rw[uF r (k+1) j x (by simpa using h),show k+1+j=k+(j+1) by omega]
theorem uG (a:Qa)(v:Nat): ∀(A:yn) (k j:Nat),j<A.length->zO k (A.set j (a,v))=(zO k A).set j ⟨.string a,iN v,k+j⟩
 | [],_,_,h=>absurd h (Uo _)
 | y::r,k,0,_=>rfl
 | y::r,k,j+1,h=>by
  show _::zO (k+1) (r.set j (a,v))=_::(zO (k+1) r).set j _;rw[uG a v r (k+1) j (by simpa using h),show k+1+j=k+(j+1) by omega]
section
variable {w:World}{b:Nat}{A:yn}
theorem uH (hb:w.heap[b]? =some (mpO A))(a:Qa):(Instr.lookup 68 (.map (some b)) (.string a) false).run Try.prog w=.ok (iN (zC a A)) w:=by
 have hb':w.heap[b]? =some (.map (zO 0 A).toArray A.length):=hb;have hk:MapKept.IsKey .string (.string a):=trivial;have hz:(zeroValue 3).run Try.prog w=.ok (.int .i64 0) w:=kr;rcases ky a 0 A 0 0 with⟨h1,h2,h3⟩ | ⟨j,n,h1,h2,h3,h4⟩
 ·simp[Instr.lookup,run_underlying Try.underlying68,RQ hb',RW Try.underlying9 hk,R0 Try.underlying9 h1,hz,Ui,h2]
 ·simp[Instr.lookup,run_underlying Try.underlying68,RQ hb',RW Try.underlying9 hk,R0 Try.underlying9 h2,Ui,h3]
theorem zbE (hb:w.heap[b]? =some (mpO A))(a:Qa)(v:Nat):(Instr.mapUpdate 68 (.map (some b)) (.string a) (iN v)).run Try.prog w=.ok () { w with heap:=w.heap.setIfInBounds b (mpO (yw a v A)) } :=by
 have hb':w.heap[b]? =some (.map (zO 0 A).toArray A.length):=hb;have hk:MapKept.IsKey .string (.string a):=trivial;rcases ky a v A 0 0 with⟨h1,h2,h3⟩ | ⟨j,n,h1,h2,h3,h4⟩
 ·have e:mpO (yw a v A)=.map ((zO 0 A).toArray.push ⟨.string a,iN v,A.length⟩) (A.length+1):=by
   unfold mpO;rw[h3,uD,Qt,QF];simp
  rw[e];simp[Instr.mapUpdate,run_underlying Try.underlying68,RQ hb',RW Try.underlying9 hk,R0 Try.underlying9 h1,MapKept.run_setObj_map _ hb',Ui]
 ·have hj:j<A.length:=(Qp.1 h1).1;have he:=uF A 0 j _ h1;have e:mpO (yw a v A)=.map ((zO 0 A).toArray.modify j fun e=> { e with key:=.string a,val:=iN v }) A.length:=by
   unfold mpO;rw[h4,uG a v A 0 j hj,List.length_set];congr 1;apply Array.toList_inj.1;rw[Array.toList_modify,UI,UI];apply RX;intro q;rw[List.getElem?_set,List.getElem?_modify];by_cases hq:j=q
   ·subst hq;rw[if_pos rfl,if_pos (by rw[uE];exact hj),he];simp
   ·rw[if_neg hq];simp[hq]
  rw[e];rw[Qt]at h2;have hes:(zO 0 A)[j]? =some ⟨.string a,iN n,0+j⟩:=he;simp[Instr.mapUpdate,run_underlying Try.underlying68,RQ hb',RW Try.underlying9 hk,R0 Try.underlying9 h2,hes,MapKept.run_keyThatStays hk,MapKept.run_setObj_map _ hb',Ui]
end
theorem zbF (x y:Qa):(x.toList==y.toList)=decide (x=y):=by
 by_cases e:x=y
 ·rw[yH _ _ e,decide_eq_true e]
 ·rw[yp _ _ e,decide_eq_false e]
def zA {α:Type}(f:α->Bool):Nat->List α->Int
 | _,[]=> -1
 | k,x::r=>if f x=true then (k:Int) else zA f (k+1) r
theorem xm {α:Type}(f:α->Bool): ∀(L:List α) (k:Nat),(zA f k L= -1/\ ∀x∈L,f x=false)\/∃i x,L[i]? =some x/\zA f k L=((k+i:Nat):Int)/\f x=true/\ ∀y∈L.take i,f y=false
 | [],_=>.inl ⟨rfl,fun x hx=>absurd hx List.not_mem_nil⟩
 | x::r,k=>by
  unfold zA;by_cases h:f x=true
  ·rw[if_pos h];exact .inr ⟨0,x,rfl,rfl,h,fun y hy=>absurd hy (by simp)⟩
  ·rw[if_neg h];rcases xm f r (k+1) with⟨h1,h2⟩ | ⟨i,y,h1,h2,h3,h4⟩
   ·refine .inl ⟨h1,fun y hy=>?_⟩;rcases QJ.1 hy with rfl | hy
    ·exact QM.2 h
    ·exact h2 y hy
   ·refine .inr ⟨i+1,y,by simpa using h1,by rw[h2,show k+1+i=k+(i+1) by omega],h3,fun z hz=>?_⟩;rw[List.take_succ_cons]at hz;rcases QJ.1 hz with rfl | hz
    ·exact QM.2 h
    ·exact h4 z hz
theorem kC {α:Type}{M:List α}{i:Nat}{x:α}(h:i<M.length):(M.set i x).take (i+1)=M.take i++ [x]:=by
 rw[ya (show (M.set i x)[i]? =some x by rw[List.getElem?_set_self h])];congr 1;apply RX;intro q;rw[RU,RU];by_cases hq:q<i
 ·rw[if_pos hq,if_pos hq,List.getElem?_set_ne (by omega)]
 ·rw[if_neg hq,if_neg hq]
theorem zbG (x b:Bal)(k:Nat):FnP Try.prog 40 #[blV x,Qe k] (fun w=>w.heap[k]? =some (blO b)) (.bool (goB b x)):=by
 refine FnP.intro (c:=zu Try.f40) [.tmp 3] 16 Try.func40 kr kr kr fun w hP=>?_;unfold goB;refine rS [.b,.v] (St.start w) kr fun gs1 w1 H1=>?_;by_cases e:x.2.1=b.2.1
 ·rw[decide_eq_true e];refine rS [.v,.l 0,.v,.fs (off:=1) (v:=.string b.2.1) hP (zk hP) kr,.E (.bool (x.2.1.toList==b.2.1.toList)) (.bool true) (za (yH _ _ e)),.v,.n,.n,.n,.n,.n,.v,.v] H1 kr fun gs2 w2 H2=>?_;exact rR [.tmp 3] [] (.bool true) H2 kr
 ·rw[decide_eq_false e,Bool.false_or];by_cases e2:x.1=b.2.1
  ·rw[decide_eq_true e2];refine rS [.v,.l 0,.v,.fs (off:=1) (v:=.string b.2.1) hP (zk hP) kr,.E (.bool (x.2.1.toList==b.2.1.toList)) (.bool false) (za (yp _ _ e)),.v,.v,.l 0,.v,.fs (off:=1) (v:=.string b.2.1) hP (zk hP) kr,.E (.bool (x.1.toList==b.2.1.toList)) (.bool true) (za (yH _ _ e2)),.v,.v] H1 kr fun gs2 w2 H2=>?_;exact rR [.tmp 3] [] (.bool true) H2 kr
  ·rw[decide_eq_false e2];refine rS [.v,.l 0,.v,.fs (off:=1) (v:=.string b.2.1) hP (zk hP) kr,.E (.bool (x.2.1.toList==b.2.1.toList)) (.bool false) (za (yp _ _ e)),.v,.v,.l 0,.v,.fs (off:=1) (v:=.string b.2.1) hP (zk hP) kr,.E (.bool (x.1.toList==b.2.1.toList)) (.bool false) (za (yp _ _ e2)),.v,.v] H1 kr fun gs2 w2 H2=>?_;exact rR [.tmp 3] [] (.bool false) H2 kr
theorem zbH (x:Qa)(b:Bal)(k:Nat):FnP Try.prog 44 #[.string x,Qe k] (fun w=>w.heap[k]? =some (blO b)) (.bool (decide (x=b.2.1))):=by
 refine FnP.intro (c:=zu Try.f44) [.tmp 3] 8 Try.func44 kr kr kr fun w hP=>rS [.v] (St.start w) kr fun gs1 w1 H1=>rS [.v,.v,.fs (off:=1) (v:=.string b.2.1) hP (zk hP) kr,.E (.bool (x.toList==b.2.1.toList)) (.bool (decide (x=b.2.1))) (za (zbF x b.2.1)),.v] H1 kr fun gs2 w2 H2=>?_;exact rR [.tmp 3] [] (.bool (decide (x=b.2.1))) H2 kr
theorem uI (x:Bal)(W:List Bal)(hW:W.length<=1000000)(km kM ks:Nat)(q:Qc)(m cq:Nat)(p:Qc)(n c:Nat)(hm:m<=1000000):FnP Try.prog 54 #[blV x,Qe km,Qe ks] (fun w=>w.heap[km]? =some (.cells #[.map (some kM)] 68 (0,0))/\w.heap[kM]? =some (mpO (zr W))/\w.heap[ks]? =some (snO q m cq p n c)) (.bool (ym W m x)):=by
 refine FnP.intro (c:=zu Try.f54) [.tmp 4] 14 Try.func54 kr kr kr fun w hP=>?_;obtain⟨h1,h2,h3⟩:=hP;have hw:=uh x.2.1 W;refine rS [.b,.v] (St.start w) kr fun gs1 w1 H1=>?_
 refine rS [.fs (off:=0) (v:=.map (some kM)) h1 (zk h1) kr,.v,.l 0,.g [((.tmp 5),.map (some kM)),((.tmp 7),.string x.2.1)] (.lookup 68 (.tmp 5) (.tmp 7) false) [] (fun _=>iN (whoC x.2.1 W)) .no (fun ρ o ww ho hi hd hb=>by
  have hr:=uH (zN h2 (hb.mono (Qs _))) x.2.1;have e:(execOp (ev ρ) o).run Try.prog ww=.ok (.value (iN (zC x.2.1 (zr W)))) ww:=by
   unfold execOp;simp only[ho,hi.1,hi.2.1,Sem.run_bind,hr,Qz];rfl
  rw[e,uC]
  exact⟨default,rfl,Below.refl _ _⟩),.E (.int .i64 (Qm.wrap (2*((whoC x.2.1 W:Nat):Int)))) (iN (2*whoC x.2.1 W)) (zh (qk (a:=2) (b:=whoC x.2.1 W) (by omega))),.v,.fs (off:=0) (v:=.slice q m cq) h3 (zk h3) kr,.v,.E (.bool (decide (((2*whoC x.2.1 W:Nat):Int)>(m:Int)))) (.bool (ym W m x)) (za (by unfold ym;rw[Uj,decide_eq_true_iff,decide_eq_true_iff];omega)),.v] H1 kr fun gs2 w2 H2=>?_
 exact rR [.tmp 4] [] (.bool (ym W m x)) H2 kr
theorem zbI (p:Qc)(n c:Nat)(L:List Bal)(c0:Value)(del:Bal->Bool)(pre:World->Prop)(hst: ∀w w',pre w->Below w.heap.size w w'->pre w')(hc: ∀x∈L,FnP Try.prog 40 #[blV x,c0] pre (.bool (del x)))(hL:L.length<=1000000):FnP Try.prog 50 #[.slice p n c,(.func (.func 40) #[] #[c0])] (fun w=>pre w/\AtF blS w p n L) (.int .i64 (zA del 0 L)):=by
 refine FnP.intro (c:=zu Try.f50) [.tmp 4] 19 Try.func50 kr kr kr fun w hPP=>?_;obtain⟨hpre,hP⟩:=hPP;have hn:=hP.1;have H0:=St.start w;refine rS [.v] H0 kr fun gs1 w1 H1=>zf kr<|rS [.v,.v,.v] H1 kr fun gs2 w2 H2=>yv 8 7 9 18 0 1 n (by omega) (fun i ρ ww=>zA del 0 L=zA del i (L.drop i)/\St w.heap.size w ww []/\Is [(0,.slice p n c),(1,.func (.func 40) #[] #[c0]),(7,iN n),(8,iN i)] ρ) (by rintro i _ ww ⟨_,_,_,rfl⟩;exact⟨kr,kr⟩) ⟨rfl,H2.as kr,isK⟩ ?_ ?_
 ·clear H0 H1 H2;rintro i _ w3 hi ⟨hst2,H3,_,rfl⟩;obtain⟨x,hx⟩:∃x,L[i]? =some x:=⟨_,Qj (by omega)⟩
  obtain⟨bl,off,C,T,fz,hp,hh,hR⟩:=hP.row2 (by omega);have hcx2:=hc x (Qo hx);rw[qT hx]at hst2;change zA del 0 L=(if del x=true then (i:Int) else zA del (i+1) (L.drop (i+1)))at hst2;refine rS [.v,.v] H3 kr fun gs4 w4 H4=>?_;cases e:del x with
  | true=>
   rw[e]at hcx2;refine rS [.v,.v,.v,.o (ins:=[((.tmp 12),.slice p n c),((.tmp 13),iN i)]) (v:=.pointer (some ⟨bl,off+i*3,none⟩)) (fun ρ o w ho hi2=>zv (kd:=.i64) (t:=23) (e:=27) (K:=3) (bytes:=40) kr (x:=(.tmp 12)) (y:=(.tmp 13)) bl off n c i hp ho hi2.1 hi2.2.1 (by omega) w),.fp (off:=off+i*3) (n:=3) (W:=blC x) hh (zk hh) (hR _ _ hx).1 (hR _ _ hx).2,.cp (pre:=pre) hcx2 [] (fun w' hb hd=>hst w w' hpre hb)] H4 kr fun gs5 w5 H5=>zy<|rS [.v,.v] H5 kr fun gs6 w6 H6=>?_;exact rRe [.tmp 4] [] (v:=iN i) (v':=.int .i64 (zA del 0 L)) H6 (zh (by rw[hst2,if_pos e])) kr
  | false=>
   rw[e]at hcx2;refine rS [.v,.v,.v,.o (ins:=[((.tmp 12),.slice p n c),((.tmp 13),iN i)]) (v:=.pointer (some ⟨bl,off+i*3,none⟩)) (fun ρ o w ho hi2=>zv (kd:=.i64) (t:=23) (e:=27) (K:=3) (bytes:=40) kr (x:=(.tmp 12)) (y:=(.tmp 13)) bl off n c i hp ho hi2.1 hi2.2.1 (by omega) w),.fp (off:=off+i*3) (n:=3) (W:=blC x) hh (zk hh) (hR _ _ hx).1 (hR _ _ hx).2,.cp (pre:=pre) hcx2 [] (fun w' hb hd=>hst w w' hpre hb)] H4 kr fun gs5 w5 H5=>zx ?_;exact⟨kr,by rw[hst2,if_neg (by rw[e];exact QL)],H5.as kr,isK⟩
 ·rintro _ w3 ⟨hst2,H3,_,rfl⟩;rw[QC (by omega)]at hst2;refine wW<|rS [.v] H3 kr fun gs4 w4 H4=>?_;exact rRe [.tmp 4] [] (v:=.int .i64 (-1)) (v':=.int .i64 (zA del 0 L)) H4 (zh hst2.symm) kr
theorem zbJ (p:Qc)(n c:Nat)(L:List Bal)(c0:Value)(del:Bal->Bool)(pre:World->Prop)(row Lr:Qb){B:Nat}{w0 w:World}(hst: ∀w w',pre w->Below w.heap.size w w'->pre w')(hc: ∀x∈L,FnP Try.prog 40 #[blV x,c0] pre (.bool (del x)))(hpre: ∀(w':World) (X:Qb),St B w0 w' (X++Lr)->pre w')
 (hrow:zz blS 27 p n c row L) (h:St B w0 w (row++Lr)) (hL:L.length<=1000000):
 Calls Try.prog 39 #[.slice p n c,(.func (.func 40) #[] #[c0])] w fun e w'=> ∃v,e=.returned v/\zK B w0 Lr (L.filter (fun x=> !del x)) v w':=by
 refine yo (c:=zu Try.f39) (rs:=[.tmp 4]) (N:=42) Try.func39 kr kr kr ?_;have hlen:=hrow.len;refine rS [.v] h kr fun gs1 w1 H1=>zp [0,1,2,3] kr kr<|rp [.v,.v] H1 kr fun gs2 w2 H2=>wX [2,3] ?_;have H2b:St B w0 w2 (row++Lr):=H2.as kr;refine yF H2b (some 10) 50 #[.slice p n c,.func (.func 40) #[] #[c0]] _ _ (zbI p n c L c0 del pre hst hc hL) ⟨hpre w2 row H2b,hrow.atF H2b fun e he=>R1 _ he⟩ (fun w=>by kernel_rfl) kr ?_;intro w3 H3;refine rp [.v] H3 kr fun gs3 w4 H4=>wX []<|zm<|wW ?_;have H4b:St B w0 w4 (row++Lr):=H4.as kr;refine zf kr ?_;rcases xm del L 0 with⟨h1,h2⟩ | ⟨i0,x0,hx0,h1,h2,h3⟩
 ·refine rS [.v,.E (.bool (zA del 0 L== -1)) (.bool true) (za (by rw[h1];rfl))] H4b kr fun gs4 w5 H5=>zy<|rS [.v,.v] H5 kr fun gs5 w6 H6=>rRr [.tmp 4] [] (.slice p n c) (zK B w0 Lr (L.filter (fun x=> !del x))) H6 kr ?_;rw[Q7.2 fun x hx=>by rw[h2 x hx];rfl];exact⟨p,n,c,row,rfl,hrow,H6.as kr⟩
 rw[Qt]at h1;have hi0:i0<L.length:=(Qp.1 hx0).1;rcases hrow with⟨rfl,rfl,rfl,rfl,rfl⟩ | ⟨bw,cur0,rfl,rfl,hrw0⟩
 ·simp at hi0
 clear H1 H2 H2b H3 h;refine rS [.v,.E (.bool (zA del 0 L== -1)) (.bool false) (za (by rw[h1];exact beq_eq_false_iff_ne.2 (by omega)))] H4b kr fun gs4 w5 H5=>zx<|wW<|zf kr<|rS [.v,.E (.int .i64 (Qm.wrap (zA del 0 L+1))) (iN (i0+1)) (zh (by rw[h1];exact zB (a:=i0) (b:=1) (by omega))),.v] H5 kr fun gs5 w6 H6=>qy 5 (v:=.int .i64 (zA del 0 L)) (v':=iN i0) (zh h1) kr<|yy 0 kr ?_;have hstart:(L.take (i0+1)).filter (fun x=> !del x)=L.take i0:=by
  rw[ya hx0,Q5,Q7.2 fun y hy=>by rw[h3 y hy];rfl];rw[Rg (by rw[h2];exact QL)];simp
 refine qN kr (fun mz ρ ww=> ∃(i j:Nat) (cur:Qd) (M:List Bal),n-j=mz/\i<j/\j<=n/\Rw 3 cur c n (zb blS M)/\M.take i=(L.take j).filter (fun x=> !del x)/\M.drop j=L.drop j/\St B w0 ww ((bw,.cells cur 27)::Lr)/\Is [(0,Qf bw n c),(1,.func (.func 40) #[] #[c0]),(5,iN i),(6,iN j)] ρ) (n-(i0+1)) ⟨i0,i0+1,cur0,L,rfl,RN _,by omega,hrw0,hstart.symm,rfl,H6.as kr,isK⟩ ?_;clear H4 H4b H5 H6 hstart hrw0 h1 h2 h3 hx0;rintro _ _ w4 ⟨i,j,cur,M,rfl,hij,hjn,hrw,htk,hdr,H4,_,rfl⟩;have hMl:M.length=n:=Rw.lenF (S:=blS) hrw;refine zf kr<|zf kr ?_;by_cases hj:j<n
 ·refine rL [.v,.v,.v,.E (.bool (decide ((j:Int)<(n:Int)))) (.bool true) (za (decide_eq_true (by omega)))] H4 kr fun gs4 w5 H5=>wW<|zY kr kr<|zT kr<|wW<|zf kr<|yy 1 kr ?_;obtain⟨x,hx⟩:∃x,L[j]? =some x:=⟨_,Qj (by omega)⟩
  have hxM:M[j]? =some x:=by
   have:=congrArg (fun l=>l[0]?) hdr;simp only[Ub,Uk]at this;rw[this,hx]
  have hR:=Rw.rowAt (S:=blS) hrw;have hcx:=hc x (Qo hx);refine zp [0,1,2,3,4,5] kr kr<|rp [.v,.v,.o (ins:=[((.tmp 22),Qf bw n c),((.tmp 23),iN j)]) (v:=.pointer (some ⟨bw,0+j*3,none⟩)) (fun ρ o w ho hi2=>zv (kd:=.i64) (t:=23) (e:=27) (K:=3) (bytes:=40) kr (x:=(.tmp 22)) (y:=(.tmp 23)) bw 0 n c j rfl ho hi2.1 hi2.2.1 (by omega) w),.lp 0 (C:=cur) (off:=0+j*3) (n:=3) (W:=blC x) (hR _ _ hxM).1 (hR _ _ hxM).2] H5 kr fun gs7 w7 H7=>wX [4,5] ?_;have H8:St B w0 w7 ((bw,.cells cur 27)::Lr):=H7.as kr;refine yu H8 (some 7) 27 (.agg #[.string em,.string em,.bool false]) kr kr kr ?_;intro b7 w8 H9;refine rp [.s 0] H9 kr fun gs9 w9 H10=>wX []<|zm<|wW ?_;have H11:St B w0 w9 ((b7,blO x)::(bw,.cells cur 27)::Lr):=H10.as kr;cases e:del x with
  | false=>
   rw[e]at hcx;refine zp [0,1,2,3] kr kr<|rp [.v,.l 0] H11 kr fun gsa wa Ha=>wX [2,3] ?_;have Hb:St B w0 wa ((b7,blO x)::(bw,.cells cur 27)::Lr):=Ha.as kr;refine yF Hb (some 28) 40 #[blV x,c0] _ _ hcx (hpre wa [(b7,blO x),(bw,.cells cur 27)] Hb) (fun w=>by kernel_rfl) kr ?_;intro wc Hc;refine rp [.v] Hc kr fun gsd wd Hd=>wX []<|zm<|wW ?_;have He:St B w0 wd ((b7,blO x)::(bw,.cells cur 27)::Lr):=Hd.as kr;refine zy ?_;have hset:=Rw.setF (S:=blS) hrw (show M[i]? =some M[i] from Qj (by omega)) 0 (blV x) (Qs _) (y:=x) rfl;refine rS [.v,.v,.l 0,.o (ins:=[((.tmp 30),Qf bw n c),((.tmp 31),iN i)]) (v:=.pointer (some ⟨bw,0+i*3,none⟩)) (fun ρ o w ho hi2=>zv (kd:=.i64) (t:=23) (e:=27) (K:=3) (bytes:=40) kr (x:=(.tmp 30)) (y:=(.tmp 31)) bw 0 n c i rfl ho hi2.1 hi2.2.1 (by omega) w),.se 1 (C:=cur) (C':=putA cur (0+i*3+0) (blV x)) (off:=0+i*3) (v:=blV x) hset.1 rfl] He kr fun gsf wf Hf=>rL [.v,.E (.int .i64 (Qm.wrap ((i:Int)+1))) (iN (i+1)) (zh (zB (a:=i) (b:=1) (by omega))),.v] Hf kr fun gsg wg Hg=>wW<|rL [.v,.E (.int .i64 (Qm.wrap ((j:Int)+1))) (iN (j+1)) (zh (zB (a:=j) (b:=1) (by omega))),.v] Hg kr fun gsh wh Hh=>?_;show ∃m,_/\_;refine⟨_,(by omega),i+1,j+1,_,M.set i x,rfl,by omega,hj,hset.2,?_,?_,(Hh.as (l:=(b7,blO x)::(bw,.cells (putA cur (0+i*3+0) (blV x)) 27)::Lr) kr).sub (Qx ..),isK⟩
   ·rw[kC (by omega),htk,ya hx,Q5,RV (by rw[e];rfl)];rfl
   ·rw[List.drop_set_of_lt (by omega),<-Q8,<-Q8,hdr]
  | true=>
   rw[e]at hcx;refine zp [0,1,2,3] kr kr<|rp [.v,.l 0] H11 kr fun gsa wa Ha=>wX [2,3] ?_;have Hb:St B w0 wa ((b7,blO x)::(bw,.cells cur 27)::Lr):=Ha.as kr;refine yF Hb (some 28) 40 #[blV x,c0] _ _ hcx (hpre wa [(b7,blO x),(bw,.cells cur 27)] Hb) (fun w=>by kernel_rfl) kr ?_;intro wc Hc;refine rp [.v] Hc kr fun gsd wd Hd=>wX []<|zm<|wW ?_;have He:St B w0 wd ((b7,blO x)::(bw,.cells cur 27)::Lr):=Hd.as kr;refine zx<|wW<|rL [.v,.E (.int .i64 (Qm.wrap ((j:Int)+1))) (iN (j+1)) (zh (zB (a:=j) (b:=1) (by omega))),.v] He kr fun gsh wh Hh=>?_;show ∃m,_/\_;refine⟨_,(by omega),i,j+1,cur,M,rfl,by omega,hj,hrw,?_,?_,(Hh.as (l:=(b7,blO x)::(bw,.cells cur 27)::Lr) kr).sub (Qx ..),isK⟩
   ·rw[htk,ya hx,Q5,Rg (by rw[e];exact QL)];simp
   ·rw[<-Q8,<-Q8,hdr]
 ·refine rL [.v,.v,.v,.E (.bool (decide ((j:Int)<(n:Int)))) (.bool false) (za (decide_eq_false (by omega)))] H4 kr fun gs4 w5 H5=>wW<|zQ kr kr<|qM 0 kr<|wW ?_;obtain rfl:j=n:=by omega
  rw[Qv (l:=L) (by omega)]at htk;have hle:=hrw.le;refine zp [0,1,2,3] kr kr<|rp [.v,.v,.oe (ins:=[((.tmp 36),Qf bw j c),((.tmp 37),iN i)]) (v:=.slice (some ⟨bw,if c=i then 0 else 0+i*3,none⟩) (j-i) (c-i)) (v':=.slice (some ⟨bw,i*3,none⟩) (j-i) (c-i)) (fun ρ o w ho hi2=>zR (kz:=.i64) (t:=23) (e:=27) (size:=3) (bytes:=40) kr (x:=(.tmp 36)) (z:=(.tmp 37)) bw 0 j c i ho hi2.1 hi2.2.1 (by omega) hle w) (by rw[if_neg (by omega),Qt])] H5 kr fun gs6 w6 H6=>wX [3] ?_;have H7:St B w0 w6 ((bw,.cells cur 27)::Lr):=H6.as kr;have hsz:=hrw.sz;refine xQ H7 none 23 27 3 40 (.tmp 38) 0 bw (i*3) (j-i) (c-i) cur 27 kr kr kr kr kr rfl (by omega) (by rw[hsz,<-Ua];exact QR _ (by omega)) ?_;intro Z w7 hZ H8;refine zm<|wW ?_;have H9:St B w0 w7 ((bw,.cells (ze cur (i*3) Z) 27)::Lr):=H8.as kr;refine rS [.v,.v,.o (ins:=[((.tmp 39),Qf bw j c),((.tmp 40),iN i)]) (v:=Qf bw i c) (fun ρ o w ho hi2=>qz (kd:=.i64) (t:=23) (e:=27) (size:=3) (bytes:=40) kr (x:=(.tmp 39)) (y:=(.tmp 40)) bw j c i ho hi2.1 hi2.2.1 (by omega) w),.v] H9 kr fun gs8 w8 H10=>rRr [.tmp 4] [] (Qf bw i c) (zK B w0 Lr (L.filter (fun x=> !del x))) H10 kr ?_;refine⟨Qg bw,i,c,[(bw,.cells (ze cur (i*3) Z) 27)],rfl,.inr ⟨bw,_,rfl,rfl,?_⟩,H10.as kr⟩;have hfit:i*3+Z.length<=cur.size:=by rw[hZ,hsz,<-Ua];exact QR _ (by omega)
  have hfl:(L.filter (fun x=> !del x)).length=i:=by rw[<-htk,Qw];omega
  refine⟨by rw[yk,hfl],by omega,hrw.max,?_,by rw[yl hfit];exact hsz⟩;show (ze cur (i*3) Z).toList.take (i*3)=_;have e1:zb blS (L.filter (fun x=> !del x))=(zb blS M).take (i*3):=by rw[<-htk,jz M i (by omega)];rfl
  rw[jq (C:=cur) (o:=i*3) (vs:=Z) (m:=i*3) (by omega) (Qs _),e1,<-hrw.take,R3,Rl (QR _ (by omega))]
theorem zbK (p:Qc)(n c:Nat)(L:List Bal)(c0 c1:Value)(del:Bal->Bool)(pre:World->Prop)(hst: ∀w w',pre w->Below w.heap.size w w'->pre w')(hc: ∀x∈L,FnP Try.prog 54 #[blV x,c0,c1] pre (.bool (del x)))(hL:L.length<=1000000):FnP Try.prog 50 #[.slice p n c,(.func (.func 54) #[] #[c0,c1])] (fun w=>pre w/\AtF blS w p n L) (.int .i64 (zA del 0 L)):=by
 refine FnP.intro (c:=zu Try.f50) [.tmp 4] 19 Try.func50 kr kr kr fun w hPP=>?_;obtain⟨hpre,hP⟩:=hPP;have hn:=hP.1;have H0:=St.start w;refine rS [.v] H0 kr fun gs1 w1 H1=>zf kr<|rS [.v,.v,.v] H1 kr fun gs2 w2 H2=>yv 8 7 9 18 0 1 n (by omega) (fun i ρ ww=>zA del 0 L=zA del i (L.drop i)/\St w.heap.size w ww []/\Is [(0,.slice p n c),(1,.func (.func 54) #[] #[c0,c1]),(7,iN n),(8,iN i)] ρ) (by rintro i _ ww ⟨_,_,_,rfl⟩;exact⟨kr,kr⟩) ⟨rfl,H2.as kr,isK⟩ ?_ ?_
 ·clear H0 H1 H2;rintro i _ w3 hi ⟨hst2,H3,_,rfl⟩;obtain⟨x,hx⟩:∃x,L[i]? =some x:=⟨_,Qj (by omega)⟩
  obtain⟨bl,off,C,T,fz,hp,hh,hR⟩:=hP.row2 (by omega);have hcx2:=hc x (Qo hx);rw[qT hx]at hst2;change zA del 0 L=(if del x=true then (i:Int) else zA del (i+1) (L.drop (i+1)))at hst2;refine rS [.v,.v] H3 kr fun gs4 w4 H4=>?_;cases e:del x with
  | true=>
   rw[e]at hcx2;refine rS [.v,.v,.v,.o (ins:=[((.tmp 12),.slice p n c),((.tmp 13),iN i)]) (v:=.pointer (some ⟨bl,off+i*3,none⟩)) (fun ρ o w ho hi2=>zv (kd:=.i64) (t:=23) (e:=27) (K:=3) (bytes:=40) kr (x:=(.tmp 12)) (y:=(.tmp 13)) bl off n c i hp ho hi2.1 hi2.2.1 (by omega) w),.fp (off:=off+i*3) (n:=3) (W:=blC x) hh (zk hh) (hR _ _ hx).1 (hR _ _ hx).2,.cp (pre:=pre) hcx2 [] (fun w' hb hd=>hst w w' hpre hb)] H4 kr fun gs5 w5 H5=>zy<|rS [.v,.v] H5 kr fun gs6 w6 H6=>?_;exact rRe [.tmp 4] [] (v:=iN i) (v':=.int .i64 (zA del 0 L)) H6 (zh (by rw[hst2,if_pos e])) kr
  | false=>
   rw[e]at hcx2;refine rS [.v,.v,.v,.o (ins:=[((.tmp 12),.slice p n c),((.tmp 13),iN i)]) (v:=.pointer (some ⟨bl,off+i*3,none⟩)) (fun ρ o w ho hi2=>zv (kd:=.i64) (t:=23) (e:=27) (K:=3) (bytes:=40) kr (x:=(.tmp 12)) (y:=(.tmp 13)) bl off n c i hp ho hi2.1 hi2.2.1 (by omega) w),.fp (off:=off+i*3) (n:=3) (W:=blC x) hh (zk hh) (hR _ _ hx).1 (hR _ _ hx).2,.cp (pre:=pre) hcx2 [] (fun w' hb hd=>hst w w' hpre hb)] H4 kr fun gs5 w5 H5=>zx ?_;exact⟨kr,by rw[hst2,if_neg (by rw[e];exact QL)],H5.as kr,isK⟩
 ·rintro _ w3 ⟨hst2,H3,_,rfl⟩;rw[QC (by omega)]at hst2;refine wW<|rS [.v] H3 kr fun gs4 w4 H4=>?_;exact rRe [.tmp 4] [] (v:=.int .i64 (-1)) (v':=.int .i64 (zA del 0 L)) H4 (zh hst2.symm) kr
theorem uJ (p:Qc)(n c:Nat)(L:List Bal)(c0 c1:Value)(del:Bal->Bool)(pre:World->Prop)(row Lr:Qb){B:Nat}{w0 w:World}(hst: ∀w w',pre w->Below w.heap.size w w'->pre w')(hc: ∀x∈L,FnP Try.prog 54 #[blV x,c0,c1] pre (.bool (del x)))(hpre: ∀(w':World) (X:Qb),St B w0 w' (X++Lr)->pre w')
 (hrow:zz blS 27 p n c row L) (h:St B w0 w (row++Lr)) (hL:L.length<=1000000):
 Calls Try.prog 39 #[.slice p n c,(.func (.func 54) #[] #[c0,c1])] w fun e w'=> ∃v,e=.returned v/\zK B w0 Lr (L.filter (fun x=> !del x)) v w':=by
 refine yo (c:=zu Try.f39) (rs:=[.tmp 4]) (N:=42) Try.func39 kr kr kr ?_;have hlen:=hrow.len;refine rS [.v] h kr fun gs1 w1 H1=>zp [0,1,2,3] kr kr<|rp [.v,.v] H1 kr fun gs2 w2 H2=>wX [2,3] ?_;have H2b:St B w0 w2 (row++Lr):=H2.as kr;refine yF H2b (some 10) 50 #[.slice p n c,.func (.func 54) #[] #[c0,c1]] _ _ (zbK p n c L c0 c1 del pre hst hc hL) ⟨hpre w2 row H2b,hrow.atF H2b fun e he=>R1 _ he⟩ (fun w=>by kernel_rfl) kr ?_;intro w3 H3;refine rp [.v] H3 kr fun gs3 w4 H4=>wX []<|zm<|wW ?_;have H4b:St B w0 w4 (row++Lr):=H4.as kr;refine zf kr ?_;rcases xm del L 0 with⟨h1,h2⟩ | ⟨i0,x0,hx0,h1,h2,h3⟩
 ·refine rS [.v,.E (.bool (zA del 0 L== -1)) (.bool true) (za (by rw[h1];rfl))] H4b kr fun gs4 w5 H5=>zy<|rS [.v,.v] H5 kr fun gs5 w6 H6=>rRr [.tmp 4] [] (.slice p n c) (zK B w0 Lr (L.filter (fun x=> !del x))) H6 kr ?_;rw[Q7.2 fun x hx=>by rw[h2 x hx];rfl];exact⟨p,n,c,row,rfl,hrow,H6.as kr⟩
 rw[Qt]at h1;have hi0:i0<L.length:=(Qp.1 hx0).1;rcases hrow with⟨rfl,rfl,rfl,rfl,rfl⟩ | ⟨bw,cur0,rfl,rfl,hrw0⟩
 ·simp at hi0
 clear H1 H2 H2b H3 h;refine rS [.v,.E (.bool (zA del 0 L== -1)) (.bool false) (za (by rw[h1];exact beq_eq_false_iff_ne.2 (by omega)))] H4b kr fun gs4 w5 H5=>zx<|wW<|zf kr<|rS [.v,.E (.int .i64 (Qm.wrap (zA del 0 L+1))) (iN (i0+1)) (zh (by rw[h1];exact zB (a:=i0) (b:=1) (by omega))),.v] H5 kr fun gs5 w6 H6=>qy 5 (v:=.int .i64 (zA del 0 L)) (v':=iN i0) (zh h1) kr<|yy 0 kr ?_;have hstart:(L.take (i0+1)).filter (fun x=> !del x)=L.take i0:=by
  rw[ya hx0,Q5,Q7.2 fun y hy=>by rw[h3 y hy];rfl];rw[Rg (by rw[h2];exact QL)];simp
 refine qN kr (fun mz ρ ww=> ∃(i j:Nat) (cur:Qd) (M:List Bal),n-j=mz/\i<j/\j<=n/\Rw 3 cur c n (zb blS M)/\M.take i=(L.take j).filter (fun x=> !del x)/\M.drop j=L.drop j/\St B w0 ww ((bw,.cells cur 27)::Lr)/\Is [(0,Qf bw n c),(1,.func (.func 54) #[] #[c0,c1]),(5,iN i),(6,iN j)] ρ) (n-(i0+1)) ⟨i0,i0+1,cur0,L,rfl,RN _,by omega,hrw0,hstart.symm,rfl,H6.as kr,isK⟩ ?_;clear H4 H4b H5 H6 hstart hrw0 h1 h2 h3 hx0;rintro _ _ w4 ⟨i,j,cur,M,rfl,hij,hjn,hrw,htk,hdr,H4,_,rfl⟩;have hMl:M.length=n:=Rw.lenF (S:=blS) hrw;refine zf kr<|zf kr ?_;by_cases hj:j<n
 ·refine rL [.v,.v,.v,.E (.bool (decide ((j:Int)<(n:Int)))) (.bool true) (za (decide_eq_true (by omega)))] H4 kr fun gs4 w5 H5=>wW<|zY kr kr<|zT kr<|wW<|zf kr<|yy 1 kr ?_;obtain⟨x,hx⟩:∃x,L[j]? =some x:=⟨_,Qj (by omega)⟩
  have hxM:M[j]? =some x:=by
   have:=congrArg (fun l=>l[0]?) hdr;simp only[Ub,Uk]at this;rw[this,hx]
  have hR:=Rw.rowAt (S:=blS) hrw;have hcx:=hc x (Qo hx);refine zp [0,1,2,3,4,5] kr kr<|rp [.v,.v,.o (ins:=[((.tmp 22),Qf bw n c),((.tmp 23),iN j)]) (v:=.pointer (some ⟨bw,0+j*3,none⟩)) (fun ρ o w ho hi2=>zv (kd:=.i64) (t:=23) (e:=27) (K:=3) (bytes:=40) kr (x:=(.tmp 22)) (y:=(.tmp 23)) bw 0 n c j rfl ho hi2.1 hi2.2.1 (by omega) w),.lp 0 (C:=cur) (off:=0+j*3) (n:=3) (W:=blC x) (hR _ _ hxM).1 (hR _ _ hxM).2] H5 kr fun gs7 w7 H7=>wX [4,5] ?_;have H8:St B w0 w7 ((bw,.cells cur 27)::Lr):=H7.as kr;refine yu H8 (some 7) 27 (.agg #[.string em,.string em,.bool false]) kr kr kr ?_;intro b7 w8 H9;refine rp [.s 0] H9 kr fun gs9 w9 H10=>wX []<|zm<|wW ?_;have H11:St B w0 w9 ((b7,blO x)::(bw,.cells cur 27)::Lr):=H10.as kr;cases e:del x with
  | false=>
   rw[e]at hcx;refine zp [0,1,2,3] kr kr<|rp [.v,.l 0] H11 kr fun gsa wa Ha=>wX [2,3] ?_;have Hb:St B w0 wa ((b7,blO x)::(bw,.cells cur 27)::Lr):=Ha.as kr;refine yF Hb (some 28) 54 #[blV x,c0,c1] _ _ hcx (hpre wa [(b7,blO x),(bw,.cells cur 27)] Hb) (fun w=>by kernel_rfl) kr ?_;intro wc Hc;refine rp [.v] Hc kr fun gsd wd Hd=>wX []<|zm<|wW ?_;have He:St B w0 wd ((b7,blO x)::(bw,.cells cur 27)::Lr):=Hd.as kr;refine zy ?_;have hset:=Rw.setF (S:=blS) hrw (show M[i]? =some M[i] from Qj (by omega)) 0 (blV x) (Qs _) (y:=x) rfl;refine rS [.v,.v,.l 0,.o (ins:=[((.tmp 30),Qf bw n c),((.tmp 31),iN i)]) (v:=.pointer (some ⟨bw,0+i*3,none⟩)) (fun ρ o w ho hi2=>zv (kd:=.i64) (t:=23) (e:=27) (K:=3) (bytes:=40) kr (x:=(.tmp 30)) (y:=(.tmp 31)) bw 0 n c i rfl ho hi2.1 hi2.2.1 (by omega) w),.se 1 (C:=cur) (C':=putA cur (0+i*3+0) (blV x)) (off:=0+i*3) (v:=blV x) hset.1 rfl] He kr fun gsf wf Hf=>rL [.v,.E (.int .i64 (Qm.wrap ((i:Int)+1))) (iN (i+1)) (zh (zB (a:=i) (b:=1) (by omega))),.v] Hf kr fun gsg wg Hg=>wW<|rL [.v,.E (.int .i64 (Qm.wrap ((j:Int)+1))) (iN (j+1)) (zh (zB (a:=j) (b:=1) (by omega))),.v] Hg kr fun gsh wh Hh=>?_;show ∃m,_/\_;refine⟨_,(by omega),i+1,j+1,_,M.set i x,rfl,by omega,hj,hset.2,?_,?_,(Hh.as (l:=(b7,blO x)::(bw,.cells (putA cur (0+i*3+0) (blV x)) 27)::Lr) kr).sub (Qx ..),isK⟩
   ·rw[kC (by omega),htk,ya hx,Q5,RV (by rw[e];rfl)];rfl
   ·rw[List.drop_set_of_lt (by omega),<-Q8,<-Q8,hdr]
  | true=>
   rw[e]at hcx;refine zp [0,1,2,3] kr kr<|rp [.v,.l 0] H11 kr fun gsa wa Ha=>wX [2,3] ?_;have Hb:St B w0 wa ((b7,blO x)::(bw,.cells cur 27)::Lr):=Ha.as kr;refine yF Hb (some 28) 54 #[blV x,c0,c1] _ _ hcx (hpre wa [(b7,blO x),(bw,.cells cur 27)] Hb) (fun w=>by kernel_rfl) kr ?_;intro wc Hc;refine rp [.v] Hc kr fun gsd wd Hd=>wX []<|zm<|wW ?_;have He:St B w0 wd ((b7,blO x)::(bw,.cells cur 27)::Lr):=Hd.as kr;refine zx<|wW<|rL [.v,.E (.int .i64 (Qm.wrap ((j:Int)+1))) (iN (j+1)) (zh (zB (a:=j) (b:=1) (by omega))),.v] He kr fun gsh wh Hh=>?_;show ∃m,_/\_;refine⟨_,(by omega),i,j+1,cur,M,rfl,by omega,hj,hrw,?_,?_,(Hh.as (l:=(b7,blO x)::(bw,.cells cur 27)::Lr) kr).sub (Qx ..),isK⟩
   ·rw[htk,ya hx,Q5,Rg (by rw[e];exact QL)];simp
   ·rw[<-Q8,<-Q8,hdr]
 ·refine rL [.v,.v,.v,.E (.bool (decide ((j:Int)<(n:Int)))) (.bool false) (za (decide_eq_false (by omega)))] H4 kr fun gs4 w5 H5=>wW<|zQ kr kr<|qM 0 kr<|wW ?_;obtain rfl:j=n:=by omega
  rw[Qv (l:=L) (by omega)]at htk;have hle:=hrw.le;refine zp [0,1,2,3] kr kr<|rp [.v,.v,.oe (ins:=[((.tmp 36),Qf bw j c),((.tmp 37),iN i)]) (v:=.slice (some ⟨bw,if c=i then 0 else 0+i*3,none⟩) (j-i) (c-i)) (v':=.slice (some ⟨bw,i*3,none⟩) (j-i) (c-i)) (fun ρ o w ho hi2=>zR (kz:=.i64) (t:=23) (e:=27) (size:=3) (bytes:=40) kr (x:=(.tmp 36)) (z:=(.tmp 37)) bw 0 j c i ho hi2.1 hi2.2.1 (by omega) hle w) (by rw[if_neg (by omega),Qt])] H5 kr fun gs6 w6 H6=>wX [3] ?_;have H7:St B w0 w6 ((bw,.cells cur 27)::Lr):=H6.as kr;have hsz:=hrw.sz;refine xQ H7 none 23 27 3 40 (.tmp 38) 0 bw (i*3) (j-i) (c-i) cur 27 kr kr kr kr kr rfl (by omega) (by rw[hsz,<-Ua];exact QR _ (by omega)) ?_;intro Z w7 hZ H8;refine zm<|wW ?_;have H9:St B w0 w7 ((bw,.cells (ze cur (i*3) Z) 27)::Lr):=H8.as kr;refine rS [.v,.v,.o (ins:=[((.tmp 39),Qf bw j c),((.tmp 40),iN i)]) (v:=Qf bw i c) (fun ρ o w ho hi2=>qz (kd:=.i64) (t:=23) (e:=27) (size:=3) (bytes:=40) kr (x:=(.tmp 39)) (y:=(.tmp 40)) bw j c i ho hi2.1 hi2.2.1 (by omega) w),.v] H9 kr fun gs8 w8 H10=>rRr [.tmp 4] [] (Qf bw i c) (zK B w0 Lr (L.filter (fun x=> !del x))) H10 kr ?_;refine⟨Qg bw,i,c,[(bw,.cells (ze cur (i*3) Z) 27)],rfl,.inr ⟨bw,_,rfl,rfl,?_⟩,H10.as kr⟩;have hfit:i*3+Z.length<=cur.size:=by rw[hZ,hsz,<-Ua];exact QR _ (by omega)
  have hfl:(L.filter (fun x=> !del x)).length=i:=by rw[<-htk,Qw];omega
  refine⟨by rw[yk,hfl],by omega,hrw.max,?_,by rw[yl hfit];exact hsz⟩;show (ze cur (i*3) Z).toList.take (i*3)=_;have e1:zb blS (L.filter (fun x=> !del x))=(zb blS M).take (i*3):=by rw[<-htk,jz M i (by omega)];rfl
  rw[jq (C:=cur) (o:=i*3) (vs:=Z) (m:=i*3) (by omega) (Qs _),e1,<-hrw.take,R3,Rl (QR _ (by omega))]
theorem zbL (p:Qc)(n c:Nat)(L:Qi)(c0:Value)(del:Qa->Bool)(pre:World->Prop)(hst: ∀w w',pre w->Below w.heap.size w w'->pre w')(hc: ∀x∈L,FnP Try.prog 44 #[.string x,c0] pre (.bool (del x)))(hL:L.length<=1000000):FnP Try.prog 53 #[.slice p n c,(.func (.func 44) #[] #[c0])] (fun w=>pre w/\AtF sS w p n L) (.int .i64 (zA del 0 L)):=by
 refine FnP.intro (c:=zu Try.f53) [.tmp 4] 19 Try.func53 kr kr kr fun w hPP=>?_;obtain⟨hpre,hP⟩:=hPP;have hn:=hP.1;have H0:=St.start w;refine rS [.v] H0 kr fun gs1 w1 H1=>zf kr<|rS [.v,.v,.v] H1 kr fun gs2 w2 H2=>yv 8 7 9 18 0 1 n (by omega) (fun i ρ ww=>zA del 0 L=zA del i (L.drop i)/\St w.heap.size w ww []/\Is [(0,.slice p n c),(1,.func (.func 44) #[] #[c0]),(7,iN n),(8,iN i)] ρ) (by rintro i _ ww ⟨_,_,_,rfl⟩;exact⟨kr,kr⟩) ⟨rfl,H2.as kr,isK⟩ ?_ ?_
 ·clear H0 H1 H2;rintro i _ w3 hi ⟨hst2,H3,_,rfl⟩;obtain⟨x,hx⟩:∃x,L[i]? =some x:=⟨_,Qj (by omega)⟩
  obtain⟨bl,off,C,T,fz,hp,hh,hR⟩:=hP.row2 (by omega);have hcx:C[off+i*1]? =some (.string x):=hR.cell hx 0 (by decide);have hcx2:=hc x (Qo hx);rw[qT hx]at hst2;change zA del 0 L=(if del x=true then (i:Int) else zA del (i+1) (L.drop (i+1)))at hst2;refine rS [.v,.v] H3 kr fun gs4 w4 H4=>?_;cases e:del x with
  | true=>
   rw[e]at hcx2;refine rS [.v,.v,.v,.o (ins:=[((.tmp 12),.slice p n c),((.tmp 13),iN i)]) (v:=.pointer (some ⟨bl,off+i*1,none⟩)) (fun ρ o w ho hi2=>zv (kd:=.i64) (t:=22) (e:=9) (K:=1) (bytes:=16) kr (x:=(.tmp 12)) (y:=(.tmp 13)) bl off n c i hp ho hi2.1 hi2.2.1 (by omega) w),.fs (off:=off+i*1) (v:=.string x) hh (zk hh) hcx,.cp (pre:=pre) hcx2 [] (fun w' hb hd=>hst w w' hpre hb)] H4 kr fun gs5 w5 H5=>zy<|rS [.v,.v] H5 kr fun gs6 w6 H6=>?_;exact rRe [.tmp 4] [] (v:=iN i) (v':=.int .i64 (zA del 0 L)) H6 (zh (by rw[hst2,if_pos e])) kr
  | false=>
   rw[e]at hcx2;refine rS [.v,.v,.v,.o (ins:=[((.tmp 12),.slice p n c),((.tmp 13),iN i)]) (v:=.pointer (some ⟨bl,off+i*1,none⟩)) (fun ρ o w ho hi2=>zv (kd:=.i64) (t:=22) (e:=9) (K:=1) (bytes:=16) kr (x:=(.tmp 12)) (y:=(.tmp 13)) bl off n c i hp ho hi2.1 hi2.2.1 (by omega) w),.fs (off:=off+i*1) (v:=.string x) hh (zk hh) hcx,.cp (pre:=pre) hcx2 [] (fun w' hb hd=>hst w w' hpre hb)] H4 kr fun gs5 w5 H5=>zx ?_;exact⟨kr,by rw[hst2,if_neg (by rw[e];exact QL)],H5.as kr,isK⟩
 ·rintro _ w3 ⟨hst2,H3,_,rfl⟩;rw[QC (by omega)]at hst2;refine wW<|rS [.v] H3 kr fun gs4 w4 H4=>?_;exact rRe [.tmp 4] [] (v:=.int .i64 (-1)) (v':=.int .i64 (zA del 0 L)) H4 (zh hst2.symm) kr
theorem zbM (p:Qc)(n c:Nat)(L:Qi)(c0:Value)(del:Qa->Bool)(pre:World->Prop)(row Lr:Qb){B:Nat}{w0 w:World}(hst: ∀w w',pre w->Below w.heap.size w w'->pre w')(hc: ∀x∈L,FnP Try.prog 44 #[.string x,c0] pre (.bool (del x)))(hpre: ∀(w':World) (X:Qb),St B w0 w' (X++Lr)->pre w')
 (hrow:zz sS 9 p n c row L) (h:St B w0 w (row++Lr)) (hL:L.length<=1000000):
 Calls Try.prog 43 #[.slice p n c,(.func (.func 44) #[] #[c0])] w fun e w'=> ∃v,e=.returned v/\zS B w0 Lr (L.filter (fun x=> !del x)) v w':=by
 refine yo (c:=zu Try.f43) (rs:=[.tmp 4]) (N:=42) Try.func43 kr kr kr ?_;have hlen:=hrow.len;refine rS [.v] h kr fun gs1 w1 H1=>zp [0,1,2,3] kr kr<|rp [.v,.v] H1 kr fun gs2 w2 H2=>wX [2,3] ?_;have H2b:St B w0 w2 (row++Lr):=H2.as kr;refine yF H2b (some 10) 53 #[.slice p n c,.func (.func 44) #[] #[c0]] _ _ (zbL p n c L c0 del pre hst hc hL) ⟨hpre w2 row H2b,hrow.atF H2b fun e he=>R1 _ he⟩ (fun w=>by kernel_rfl) kr ?_;intro w3 H3;refine rp [.v] H3 kr fun gs3 w4 H4=>wX []<|zm<|wW ?_;have H4b:St B w0 w4 (row++Lr):=H4.as kr;refine zf kr ?_;rcases xm del L 0 with⟨h1,h2⟩ | ⟨i0,x0,hx0,h1,h2,h3⟩
 ·refine rS [.v,.E (.bool (zA del 0 L== -1)) (.bool true) (za (by rw[h1];rfl))] H4b kr fun gs4 w5 H5=>zy<|rS [.v,.v] H5 kr fun gs5 w6 H6=>rRr [.tmp 4] [] (.slice p n c) (zS B w0 Lr (L.filter (fun x=> !del x))) H6 kr ?_;rw[Q7.2 fun x hx=>by rw[h2 x hx];rfl];exact⟨p,n,c,row,rfl,hrow,H6.as kr⟩
 rw[Qt]at h1;have hi0:i0<L.length:=(Qp.1 hx0).1;rcases hrow with⟨rfl,rfl,rfl,rfl,rfl⟩ | ⟨bw,cur0,rfl,rfl,hrw0⟩
 ·simp at hi0
 clear H1 H2 H2b H3 h;refine rS [.v,.E (.bool (zA del 0 L== -1)) (.bool false) (za (by rw[h1];exact beq_eq_false_iff_ne.2 (by omega)))] H4b kr fun gs4 w5 H5=>zx<|wW<|zf kr<|rS [.v,.E (.int .i64 (Qm.wrap (zA del 0 L+1))) (iN (i0+1)) (zh (by rw[h1];exact zB (a:=i0) (b:=1) (by omega))),.v] H5 kr fun gs5 w6 H6=>qy 5 (v:=.int .i64 (zA del 0 L)) (v':=iN i0) (zh h1) kr<|yy 0 kr ?_;have hstart:(L.take (i0+1)).filter (fun x=> !del x)=L.take i0:=by
  rw[ya hx0,Q5,Q7.2 fun y hy=>by rw[h3 y hy];rfl];rw[Rg (by rw[h2];exact QL)];simp
 refine qN kr (fun mz ρ ww=> ∃(i j:Nat) (cur:Qd) (M:Qi),n-j=mz/\i<j/\j<=n/\Rw 1 cur c n (zb sS M)/\M.take i=(L.take j).filter (fun x=> !del x)/\M.drop j=L.drop j/\St B w0 ww ((bw,.cells cur 9)::Lr)/\Is [(0,Qf bw n c),(1,.func (.func 44) #[] #[c0]),(5,iN i),(6,iN j)] ρ) (n-(i0+1)) ⟨i0,i0+1,cur0,L,rfl,RN _,by omega,hrw0,hstart.symm,rfl,H6.as kr,isK⟩ ?_;clear H4 H4b H5 H6 hstart hrw0 h1 h2 h3 hx0;rintro _ _ w4 ⟨i,j,cur,M,rfl,hij,hjn,hrw,htk,hdr,H4,_,rfl⟩;have hMl:M.length=n:=Rw.lenF (S:=sS) hrw;refine zf kr<|zf kr ?_;by_cases hj:j<n
 ·refine rL [.v,.v,.v,.E (.bool (decide ((j:Int)<(n:Int)))) (.bool true) (za (decide_eq_true (by omega)))] H4 kr fun gs4 w5 H5=>wW<|zY kr kr<|zT kr<|wW<|zf kr<|yy 1 kr ?_;obtain⟨x,hx⟩:∃x,L[j]? =some x:=⟨_,Qj (by omega)⟩
  have hxM:M[j]? =some x:=by
   have:=congrArg (fun l=>l[0]?) hdr;simp only[Ub,Uk]at this;rw[this,hx]
  have hR:=Rw.rowAt (S:=sS) hrw;have hcx:=hc x (Qo hx);refine rS [.v,.v,.o (ins:=[((.tmp 22),Qf bw n c),((.tmp 23),iN j)]) (v:=.pointer (some ⟨bw,0+j*1,none⟩)) (fun ρ o w ho hi2=>zv (kd:=.i64) (t:=22) (e:=9) (K:=1) (bytes:=16) kr (x:=(.tmp 22)) (y:=(.tmp 23)) bw 0 n c j rfl ho hi2.1 hi2.2.1 (by omega) w),.ls 0 (C:=cur) (off:=0+j*1) (v:=.string x) (hR.cell hxM 0 (by decide)),.v] H5 kr fun gs9 w9 H10=>?_;have H11:St B w0 w9 ((bw,.cells cur 9)::Lr):=H10.as kr;cases e:del x with
  | false=>
   rw[e]at hcx;refine zp [0,1,2,3] kr kr<|rp [.v,.v] H11 kr fun gsa wa Ha=>wX [2,3] ?_;have Hb:St B w0 wa ((bw,.cells cur 9)::Lr):=Ha.as kr;refine yF Hb (some 28) 44 #[.string x,c0] _ _ hcx (hpre wa [(bw,.cells cur 9)] Hb) (fun w=>by kernel_rfl) kr ?_;intro wc Hc;refine rp [.v] Hc kr fun gsd wd Hd=>wX []<|zm<|wW ?_;have He:St B w0 wd ((bw,.cells cur 9)::Lr):=Hd.as kr;refine zy ?_;have hset:=Rw.setF (S:=sS) hrw (show M[i]? =some M[i] from Qj (by omega)) 0 (.string x) (Qs _) (y:=x) rfl;refine rS [.v,.v,.v,.o (ins:=[((.tmp 30),Qf bw n c),((.tmp 31),iN i)]) (v:=.pointer (some ⟨bw,0+i*1,none⟩)) (fun ρ o w ho hi2=>zv (kd:=.i64) (t:=22) (e:=9) (K:=1) (bytes:=16) kr (x:=(.tmp 30)) (y:=(.tmp 31)) bw 0 n c i rfl ho hi2.1 hi2.2.1 (by omega) w),.se 0 (C:=cur) (C':=putA cur (0+i*1+0) (.string x)) (off:=0+i*1) (v:=.string x) hset.1 rfl] He kr fun gsf wf Hf=>rL [.v,.E (.int .i64 (Qm.wrap ((i:Int)+1))) (iN (i+1)) (zh (zB (a:=i) (b:=1) (by omega))),.v] Hf kr fun gsg wg Hg=>wW<|rL [.v,.E (.int .i64 (Qm.wrap ((j:Int)+1))) (iN (j+1)) (zh (zB (a:=j) (b:=1) (by omega))),.v] Hg kr fun gsh wh Hh=>?_;show ∃m,_/\_;refine⟨_,(by omega),i+1,j+1,_,M.set i x,rfl,by omega,hj,hset.2,?_,?_,Hh.as kr,isK⟩
   ·rw[kC (by omega),htk,ya hx,Q5,RV (by rw[e];rfl)];rfl
   ·rw[List.drop_set_of_lt (by omega),<-Q8,<-Q8,hdr]
  | true=>
   rw[e]at hcx;refine zp [0,1,2,3] kr kr<|rp [.v,.v] H11 kr fun gsa wa Ha=>wX [2,3] ?_;have Hb:St B w0 wa ((bw,.cells cur 9)::Lr):=Ha.as kr;refine yF Hb (some 28) 44 #[.string x,c0] _ _ hcx (hpre wa [(bw,.cells cur 9)] Hb) (fun w=>by kernel_rfl) kr ?_;intro wc Hc;refine rp [.v] Hc kr fun gsd wd Hd=>wX []<|zm<|wW ?_;have He:St B w0 wd ((bw,.cells cur 9)::Lr):=Hd.as kr;refine zx<|wW<|rL [.v,.E (.int .i64 (Qm.wrap ((j:Int)+1))) (iN (j+1)) (zh (zB (a:=j) (b:=1) (by omega))),.v] He kr fun gsh wh Hh=>?_;show ∃m,_/\_;refine⟨_,(by omega),i,j+1,cur,M,rfl,by omega,hj,hrw,?_,?_,Hh.as kr,isK⟩
   ·rw[htk,ya hx,Q5,Rg (by rw[e];exact QL)];simp
   ·rw[<-Q8,<-Q8,hdr]
 ·refine rL [.v,.v,.v,.E (.bool (decide ((j:Int)<(n:Int)))) (.bool false) (za (decide_eq_false (by omega)))] H4 kr fun gs4 w5 H5=>wW<|zQ kr kr<|qM 0 kr<|wW ?_;obtain rfl:j=n:=by omega
  rw[Qv (l:=L) (by omega)]at htk;have hle:=hrw.le;refine zp [0,1,2,3] kr kr<|rp [.v,.v,.oe (ins:=[((.tmp 36),Qf bw j c),((.tmp 37),iN i)]) (v:=.slice (some ⟨bw,if c=i then 0 else 0+i*1,none⟩) (j-i) (c-i)) (v':=.slice (some ⟨bw,i*1,none⟩) (j-i) (c-i)) (fun ρ o w ho hi2=>zR (kz:=.i64) (t:=22) (e:=9) (size:=1) (bytes:=16) kr (x:=(.tmp 36)) (z:=(.tmp 37)) bw 0 j c i ho hi2.1 hi2.2.1 (by omega) hle w) (by rw[if_neg (by omega),Qt])] H5 kr fun gs6 w6 H6=>wX [3] ?_;have H7:St B w0 w6 ((bw,.cells cur 9)::Lr):=H6.as kr;have hsz:=hrw.sz;refine xQ H7 none 22 9 1 16 (.tmp 38) 0 bw (i*1) (j-i) (c-i) cur 9 kr kr kr kr kr rfl (by omega) (by rw[hsz,<-Ua];exact QR _ (by omega)) ?_;intro Z w7 hZ H8;refine zm<|wW ?_;have H9:St B w0 w7 ((bw,.cells (ze cur (i*1) Z) 9)::Lr):=H8.as kr;refine rS [.v,.v,.o (ins:=[((.tmp 39),Qf bw j c),((.tmp 40),iN i)]) (v:=Qf bw i c) (fun ρ o w ho hi2=>qz (kd:=.i64) (t:=22) (e:=9) (size:=1) (bytes:=16) kr (x:=(.tmp 39)) (y:=(.tmp 40)) bw j c i ho hi2.1 hi2.2.1 (by omega) w),.v] H9 kr fun gs8 w8 H10=>rRr [.tmp 4] [] (Qf bw i c) (zS B w0 Lr (L.filter (fun x=> !del x))) H10 kr ?_;refine⟨Qg bw,i,c,[(bw,.cells (ze cur (i*1) Z) 9)],rfl,.inr ⟨bw,_,rfl,rfl,?_⟩,H10.as kr⟩;have hfit:i*1+Z.length<=cur.size:=by rw[hZ,hsz,<-Ua];exact QR _ (by omega)
  have hfl:(L.filter (fun x=> !del x)).length=i:=by rw[<-htk,Qw];omega
  refine⟨by rw[yk,hfl],by omega,hrw.max,?_,by rw[yl hfit];exact hsz⟩;show (ze cur (i*1) Z).toList.take (i*1)=_;have e1:zb sS (L.filter (fun x=> !del x))=(zb sS M).take (i*1):=by rw[<-htk,jz M i (by omega)];rfl
  rw[jq (C:=cur) (o:=i*1) (vs:=Z) (m:=i*1) (by omega) (Qs _),e1,<-hrw.take,R3,Rl (QR _ (by omega))]
theorem zbN {P:Program}{N:Nat}{ops:Array Oper}{i:Nat}{r:List Nat}{K:Env->World->Prop}{ρ:Env}{w w0:World}{B:Nat}{l:Qb}(HS:St B w0 w l)(d:Option Nat)(V:Nat->Value)(o:Obj)(h:opv P ops i ρ w=some (d,true,.ok (.value (V w.heap.size)) (w.alloc o)))(hd:dOK d N=true)
 (kk: ∀b w',St B w0 w' ((b,o)::l)->WPs P N ops K r (zo ρ d (V b)) w'):WPs P N ops K (i::r) ρ w:=by
 obtain⟨o',ho,rfl,hw,hr⟩:=zX h;refine WPo.run ho hw fun a ha=>?_;rw[hr,Oper.upon_value];exact⟨_,ha.put _ (zP hd) _,kk w.heap.size _ (HS.alloc _)⟩
theorem qf {α:Type}(A X Z:List α):(X++(A++Z)).Perm (A++(X++Z)):=QP X A Z
theorem xn {α:Type}(A X Y Z:List α):(Y++(A++(X++Z))).Perm (A++(X++(Y++Z))):=(qf A Y (X++Z)).trans (List.Perm.append_left A (qf X Y Z))
theorem kD (b:Bal)(h1:b.1.size<=1000000)(h2:b.2.1.size<=1000000):Fn Try.prog 22 #[blV b] (blV b):=by
 refine Fn.intro (c:=zu Try.f22) [.cell 2 27] 12 Try.func22 kr kr kr fun w=>rS [.b,.a] (St.start w) kr fun gs1 w1 H1=>dS [.v,.l 0,.c (xR b.1 h1),.v,.l 0,.c (xR b.2.1 h2),.v,.l 0,.v,.s 1] H1 kr fun w2 H2=>?_;exact rR [.cell 2 27] [1] (blV b) H2 kr
def uK (L:Qi)(V:List Bal)(v:Value)(T:Qb):Prop:=∃(q:Qc) (m cq:Nat) (p:Qc) (n c:Nat) (T1 T2:Qb),v=snV q m cq p n c/\T=T1++T2/\zz sS 9 q m cq T1 L/\zz blS 27 p n c T2 V
theorem zbO (q:Qc)(m cq:Nat)(L:Qi)(p:Qc)(n c:Nat)(V:List Bal)(hL:L.length<=1000000)(hV:V.length<=1000000)(hsL: ∀x∈L,Qq x<=1000000)(hsV: ∀x∈V,Qq x.1<=1000000/\Qq x.2.1<=1000000):
 FnT Try.prog 20 #[snV q m cq p n c] (fun w=>zM w L V q m p n) (uK L V):=by
 refine FnT.intro (c:=zu Try.f20) [.cell 2 25] 39 Try.func20 kr kr kr fun w hP=>?_;obtain⟨hS,hVV⟩:=hP;have hm:=hS.1;have hn:=hVV.1;have H0:=St.start w;refine rS [.b,.a] H0 kr fun gs1 w1 H1=>rS [.a] H1 kr fun gs2 w2 H2=>?_;have H2b:St w.heap.size w w2 [((gs2 0).b,snO none 0 0 none 0 0),((gs1 1).b,snO none 0 0 none 0 0),((gs1 0).b,snO q m cq p n c)]:=(H2.as (l:=[((gs1 0).b,snO q m cq p n c),((gs1 1).b,snO none 0 0 none 0 0),((gs2 0).b,snO none 0 0 none 0 0)]) kr).perm (List.reverse_perm _).symm;generalize (gs2 0).b=b3 at*;generalize (gs1 1).b=b2 at*;generalize (gs1 0).b=b1 at*;refine jS [(1,Qe b1),(2,Qe b2),(3,Qe b3)] kr fun ρ0=>?_;clear H0 H1 H2;refine zf kr<|rS [.v,.l 2,.v,.v] H2b kr fun gs3 w3 H3=>yv 11 10 12 22 0 1 m (by omega) (fun i ρ ww=> ∃qA mA kA rowA,zz sS 9 qA mA kA rowA (L.take i)/\St w.heap.size w ww (rowA++ [(b3,snO qA mA kA none 0 0),(b2,snO none 0 0 none 0 0),(b1,snO q m cq p n c)])/\Is [(1,Qe b1),(2,Qe b2),(3,Qe b3),(9,.slice q m cq),(10,iN m),(11,iN i)] ρ) (by rintro i _ ww ⟨_,_,_,_,_,_,_,rfl⟩;exact⟨kr,kr⟩) ⟨none,0,0,[],.inl ⟨rfl,rfl,rfl,rfl,rfl⟩,H3.as kr,isK⟩ ?_ ?_
 ·clear H2b H3;rintro i _ w4 hi ⟨qA,mA,kA,rowA,hrow,H4,_,rfl⟩;have hmA:mA=i:=by rw[<-hrow.len,Qw];omega
  obtain⟨x,hx⟩:∃x,L[i]? =some x:=⟨_,Qj (by omega)⟩
  obtain⟨bl,off,C,T,fz,hp,hh,hR⟩:=hS.row2 (by omega);have hcx:C[off+i*1]? =some (.string x):=hR.cell hx 0 (by decide);refine rS [.o (ins:=[((.tmp 9),.slice q m cq),((.tmp 11),iN i)]) (v:=.pointer (some ⟨bl,off+i*1,none⟩)) (fun ρ o w ho hi2=>zv (kd:=.i64) (t:=22) (e:=9) (K:=1) (bytes:=16) kr (x:=(.tmp 9)) (y:=(.tmp 11)) bl off m cq i hp ho hi2.1 hi2.2.1 (by omega) w),.fs (off:=off+i*1) (v:=.string x) hh (zk hh) hcx,.v] H4 kr fun gs5 w5 H5=>?_;have H8:St w.heap.size w w5 (rowA++ [(b3,snO qA mA kA none 0 0),(b2,snO none 0 0 none 0 0),(b1,snO q m cq p n c)]):=H5.as kr;refine D2.g_draw0 [0,1,2,3,4,5,6,7] [(some 15,fun _=>Qe b3),(some 16,fun _=>.slice qA mA kA),(some 17,fun _=>.string x),(some 18,fun _=>.string x),(some 19,fun y=>Qf y.b 1 1),(some 20,fun y=>Qf y.b (mA+1) y.cap),(some 21,fun _=>Qe b3),(none,fun _=>undef)]
   (D2.chn [4,5,7] fun j g ww=>match j with
    | 0=>St w.heap.size w ww (rowA++ [(b3,snO qA mA kA none 0 0),(b2,snO none 0 0 none 0 0),(b1,snO q m cq p n c)])
    | 1=>St w.heap.size w ww (((g 4).b,.cells (sS.cs x).toArray 9)::(rowA++ [(b3,snO qA mA kA none 0 0),(b2,snO none 0 0 none 0 0),(b1,snO q m cq p n c)]))
    | 2=>St w.heap.size w ww (((g 5).b,.cells (g 5).cur 9)::[(b3,snO qA mA kA none 0 0),(b2,snO none 0 0 none 0 0),(b1,snO q m cq p n c)])/\Rw 1 (g 5).cur (g 5).cap (mA+1) (zb sS (L.take i++ [x]))
    | _=>St w.heap.size w ww (((g 5).b,.cells (g 5).cur 9)::[(b3,snO (some ⟨(g 5).b,0,none⟩) (mA+1) (g 5).cap none 0 0),(b2,snO none 0 0 none 0 0),(b1,snO q m cq p n c)])/\Rw 1 (g 5).cur (g 5).cap (mA+1) (zb sS (L.take i++ [x])))
   kr kr kr H8.drew ⟨?_,?_,?_,?_,?_,?_,?_,?_,trivial⟩ ?_
  ·exact D2.gv_val (fun _ _ _ h=>h) (fun g w=>by kernel_rfl)
  ·exact D2.gv_ld (fun _ _ _ h=>h) 22 (.tmp 15) (fun _=>b3) 0 #[.slice qA mA kA,.slice none 0 0] 25 (0,0) (fun g=>by kernel_rfl) (fun g=>by kernel_rfl) (fun L g w hN hp=>hp.getN 2 7 rfl (hN.post 7 kr) fun j hj h=>by
    match j,hj,h with
    | 0,_,h=>exact(h.own (b3,.cells #[.slice qA mA kA,.slice none 0 0] 25 (0,0)) (by simp)).2
    | 1,_,h=>exact(h.own (b3,.cells #[.slice qA mA kA,.slice none 0 0] 25 (0,0)) (by simp)).2
    | 2,_,h=>exact(h.1.own (b3,.cells #[.slice qA mA kA,.slice none 0 0] 25 (0,0)) (by simp)).2) kr kr
  ·exact D2.gv_val (fun _ _ _ h=>h) (fun g w=>by kernel_rfl)
  ·exact D2.gv_cW (fun _ _ _ h=>h) 34 #[.string x] (xR x (hsL x (Qo hx))) (fun L g w w' hN hp hb=>by
    revert hp;unfold D2.chn
    generalize D2.stg [4,5,7] L=j;intro hp
    match j,hp with
    | 0,h=>exact h.call hb
    | 1,h=>exact h.call hb
    | 2,h=>exact⟨h.1.call hb,h.2⟩
    | _+3,h=>exact⟨h.1.call hb,h.2⟩) (fun g w=>by kernel_rfl)
  ·refine D2.gv_chn 4 0 (fun L hN=>by
    have e4:=hN.1;have e5:=hN.post 5 kr;have e7:=hN.fwd e5 (show D2.edge _ 5 7=true by kernel_rfl)
    exact⟨by (simp[D2.stg,e4,e5,e7])<;>rfl,by (simp[D2.stg,D2.put1,e4,e5,e7])<;>rfl⟩) fun g ww hq=>?_
   exact D2.run_new (F:=fun b=>Qf b 1 1) (ob:=.cells (sS.cs x).toArray 9) kr ⟨{ b:=ww.heap.size },rfl,St.alloc hq _⟩
  ·refine D2.gv_chn 5 1 (fun L hN=>by
    have e5:=hN.1;have e4:=hN.bef 4 kr;have e7:=hN.post 7 kr
    exact⟨by (simp[D2.stg,e4,e5,e7])<;>rfl,by (simp[D2.stg,D2.put1,e4,e5,e7])<;>rfl⟩) fun g ww hq=>?_
   refine D2.run_of (op:=yZ 22 (.tmp 16) (.tmp 19)) kr fun o ho=>?_;obtain⟨b',cap',cur',w',hrun,HS',hr'⟩:=vx (S:=sS) (bx:=(g 4).b) (M0:=L.take i) (y:=x) (row:=rowA) (Z:=[(b3,snO qA mA kA none 0 0),(b2,snO none 0 0 none 0 0),(b1,snO q m cq p n c)]) (n:=mA) (c:=kA) (p:=qA) (mc:=1) hq hrow (t:=22) (bytes:=16) kr ho kr kr (by omega) (by unfold maxLen;omega);exact⟨_,w',hrun,{ b:=b',cap:=cap',cur:=cur' },rfl,HS',hr'⟩
  ·exact D2.gv_val (fun _ _ _ h=>h) (fun g w=>by kernel_rfl)
  ·refine D2.gv_chn 7 2 (fun L hN=>by
    have e7:=hN.1;have e5:=hN.bef 5 kr;have e4:=hN.back e5 (show D2.edge _ 4 5=true by kernel_rfl)
    exact⟨by (simp[D2.stg,e4,e5,e7])<;>rfl,by (simp[D2.stg,D2.put1,e4,e5,e7])<;>rfl⟩) fun g ww hq=>?_
   exact D2.run_sto (t:=22) (x:=.tmp 21) (y:=.tmp 20) (C:=#[.slice qA mA kA,.slice none 0 0]) (C':=#[Qf (g 5).b (mA+1) (g 5).cap,.slice none 0 0]) (T:=25) (off:=0) (b:=b3) (v:=Qf (g 5).b (mA+1) (g 5).cap) kr kr kr kr kr (St.get hq.1 1 kr) (Qu kr) kr ⟨g 7,rfl,St.store (C:=#[.slice qA mA kA,.slice none 0 0]) (T:=25) hq.1 1 kr,hq.2⟩
  ·intro L1 g w9 hall hp;have hq:=hp.fin (fun k hk=>hall k (by simp at hk;rcases hk with rfl | rfl | rfl<;>exact Qu kr));exact⟨kr,Qg (g 5).b,mA+1,(g 5).cap,[((g 5).b,.cells (g 5).cur 9)],.inr ⟨_,_,rfl,rfl,by rw[ya hx];exact hq.2⟩,hq.1,isK⟩
 ·clear H2b H3;rintro _ w4 ⟨qA,mA,kA,rowA,hrowA,H4,_,rfl⟩;rw[Qv (by omega)]at hrowA;refine wW<|zf kr ?_;have H4b:St w.heap.size w w4 ((b3,snO qA mA kA none 0 0)::(b2,snO none 0 0 none 0 0)::(b1,snO q m cq p n c)::rowA):=H4.perm (RE (l₁:=[(b3,snO qA mA kA none 0 0),(b2,snO none 0 0 none 0 0),(b1,snO q m cq p n c)]) (l₂:=rowA));refine rS [.v,.l 2,.v,.v] H4b kr fun gs5 w5 H5=>yv 26 25 27 37 2 3 n (by omega) (fun i ρ ww=> ∃qB mB kB rowB,zz blS 27 qB mB kB rowB (V.take i)/\St w.heap.size w ww (rowB++((b3,snO qA mA kA qB mB kB)::(b2,snO none 0 0 none 0 0)::(b1,snO q m cq p n c)::rowA))/\Is [(1,Qe b1),(2,Qe b2),(3,Qe b3),(24,.slice p n c),(25,iN n),(26,iN i)] ρ) (by rintro i _ ww ⟨_,_,_,_,_,_,_,rfl⟩;exact⟨kr,kr⟩) ⟨none,0,0,[],.inl ⟨rfl,rfl,rfl,rfl,rfl⟩,H5.as kr,isK⟩ ?_ ?_
  ·clear H4 H4b H5;rintro i _ w4 hi ⟨qB,mB,kB,rowB,hrow,H4,_,rfl⟩;have hmB:mB=i:=by rw[<-hrow.len,Qw];omega
   obtain⟨x,hx⟩:∃x,V[i]? =some x:=⟨_,Qj (by omega)⟩
   obtain⟨bl,off,C,T,fz,hp,hh,hR⟩:=hVV.row2 (by omega);refine zp [0,1,2,3] kr kr<|rp [.o (ins:=[((.tmp 24),.slice p n c),((.tmp 26),iN i)]) (v:=.pointer (some ⟨bl,off+i*3,none⟩)) (fun ρ o w ho hi2=>zv (kd:=.i64) (t:=23) (e:=27) (K:=3) (bytes:=40) kr (x:=(.tmp 24)) (y:=(.tmp 26)) bl off n c i hp ho hi2.1 hi2.2.1 (by omega) w),.fp (off:=off+i*3) (n:=3) (W:=blC x) hh (zk hh) (hR _ _ hx).1 (hR _ _ hx).2] H4 kr fun gs6 w6 H6=>wX [2,3] ?_;have H7:St w.heap.size w w6 (rowB++((b3,snO qA mA kA qB mB kB)::(b2,snO none 0 0 none 0 0)::(b1,snO q m cq p n c)::rowA)):=H6.as kr;refine yu H7 (some 7) 27 (.agg #[.string em,.string em,.bool false]) kr kr kr ?_;intro b7 w7 H7a;refine rp [.s 0] H7a kr fun gs8 w8 H7b=>wX []<|zm<|wW ?_;have H8:St w.heap.size w w8 (rowB++((b7,blO x)::(b3,snO qA mA kA qB mB kB)::(b2,snO none 0 0 none 0 0)::(b1,snO q m cq p n c)::rowA)):=(H7b.as (l:=(b7,blO x)::(rowB++((b3,snO qA mA kA qB mB kB)::(b2,snO none 0 0 none 0 0)::(b1,snO q m cq p n c)::rowA))) kr).perm List.perm_middle;refine D2.g_draw0 [0,1,2,3,4,5,6,7] [(some 30,fun _=>.pointer (some ⟨b3,1,none⟩)),(some 31,fun _=>.slice qB mB kB),(some 32,fun _=>blV x),(some 33,fun _=>blV x),(some 34,fun y=>Qf y.b 1 1),(some 35,fun y=>Qf y.b (mB+1) y.cap),(some 36,fun _=>.pointer (some ⟨b3,1,none⟩)),(none,fun _=>undef)]
    (D2.chn [4,5,7] fun j g ww=>match j with
     | 0=>St w.heap.size w ww (rowB++((b7,blO x)::(b3,snO qA mA kA qB mB kB)::(b2,snO none 0 0 none 0 0)::(b1,snO q m cq p n c)::rowA))
     | 1=>St w.heap.size w ww (((g 4).b,.cells (blS.cs x).toArray 27)::(rowB++((b7,blO x)::(b3,snO qA mA kA qB mB kB)::(b2,snO none 0 0 none 0 0)::(b1,snO q m cq p n c)::rowA)))
     | 2=>St w.heap.size w ww (((g 5).b,.cells (g 5).cur 27)::((b7,blO x)::(b3,snO qA mA kA qB mB kB)::(b2,snO none 0 0 none 0 0)::(b1,snO q m cq p n c)::rowA))/\Rw 3 (g 5).cur (g 5).cap (mB+1) (zb blS (V.take i++ [x]))
     | _=>St w.heap.size w ww (((g 5).b,.cells (g 5).cur 27)::((b7,blO x)::(b3,snO qA mA kA (some ⟨(g 5).b,0,none⟩) (mB+1) (g 5).cap)::(b2,snO none 0 0 none 0 0)::(b1,snO q m cq p n c)::rowA))/\Rw 3 (g 5).cur (g 5).cap (mB+1) (zb blS (V.take i++ [x])))
    kr kr kr H8.drew ⟨?_,?_,?_,?_,?_,?_,?_,?_,trivial⟩ ?_
   ·exact D2.gv_val (fun _ _ _ h=>h) (fun g w=>by kernel_rfl)
   ·exact D2.gv_ld (fun _ _ _ h=>h) 23 (.tmp 30) (fun _=>b3) 1 #[.slice qA mA kA,.slice qB mB kB] 25 (0,0) (fun g=>by kernel_rfl) (fun g=>by kernel_rfl) (fun L g w hN hp=>hp.getN 2 7 rfl (hN.post 7 kr) fun j hj h=>by
     match j,hj,h with
     | 0,_,h=>exact(h.own (b3,.cells #[.slice qA mA kA,.slice qB mB kB] 25 (0,0)) (by simp)).2
     | 1,_,h=>exact(h.own (b3,.cells #[.slice qA mA kA,.slice qB mB kB] 25 (0,0)) (by simp)).2
     | 2,_,h=>exact(h.1.own (b3,.cells #[.slice qA mA kA,.slice qB mB kB] 25 (0,0)) (by simp)).2) kr kr
   ·exact D2.gv_ld (fun _ _ _ h=>h) 27 (.tmp 7) (fun _=>b7) 0 (blC x) 27 (0,0) (fun g=>by kernel_rfl) (fun g=>by kernel_rfl) (fun L g w hN hp=>hp.get fun j hj h=>by
     match j,h with
     | 0,h=>exact(h.own (b7,blO x) (by simp)).2
     | 1,h=>exact(h.own (b7,blO x) (by simp)).2
     | 2,h=>exact(h.1.own (b7,blO x) (by simp)).2
     | _+3,h=>exact(h.1.own (b7,blO x) (by simp)).2) kr kr
   ·exact D2.gv_cW (fun _ _ _ h=>h) 22 #[blV x] (kD x (hsV x (Qo hx)).1 (hsV x (Qo hx)).2) (fun L g w w' hN hp hb=>by
     revert hp;unfold D2.chn
     generalize D2.stg [4,5,7] L=j;intro hp
     match j,hp with
     | 0,h=>exact h.call hb
     | 1,h=>exact h.call hb
     | 2,h=>exact⟨h.1.call hb,h.2⟩
     | _+3,h=>exact⟨h.1.call hb,h.2⟩) (fun g w=>by kernel_rfl)
   ·refine D2.gv_chn 4 0 (fun L hN=>by
     have e4:=hN.1;have e5:=hN.post 5 kr;have e7:=hN.fwd e5 (show D2.edge _ 5 7=true by kernel_rfl)
     exact⟨by (simp[D2.stg,e4,e5,e7])<;>rfl,by (simp[D2.stg,D2.put1,e4,e5,e7])<;>rfl⟩) fun g ww hq=>?_
    exact D2.run_new (F:=fun b=>Qf b 1 1) (ob:=.cells (blS.cs x).toArray 27) kr ⟨{ b:=ww.heap.size },rfl,St.alloc hq _⟩
   ·refine D2.gv_chn 5 1 (fun L hN=>by
     have e5:=hN.1;have e4:=hN.bef 4 kr;have e7:=hN.post 7 kr
     exact⟨by (simp[D2.stg,e4,e5,e7])<;>rfl,by (simp[D2.stg,D2.put1,e4,e5,e7])<;>rfl⟩) fun g ww hq=>?_
    refine D2.run_of (op:=yZ 23 (.tmp 31) (.tmp 34)) kr fun o ho=>?_;obtain⟨b',cap',cur',w',hrun,HS',hr'⟩:=vx (S:=blS) (bx:=(g 4).b) (M0:=V.take i) (y:=x) (row:=rowB) (Z:=((b7,blO x)::(b3,snO qA mA kA qB mB kB)::(b2,snO none 0 0 none 0 0)::(b1,snO q m cq p n c)::rowA)) (n:=mB) (c:=kB) (p:=qB) (mc:=1) hq hrow (t:=23) (bytes:=40) kr ho kr kr (by omega) (by unfold maxLen;omega);exact⟨_,w',hrun,{ b:=b',cap:=cap',cur:=cur' },rfl,HS',hr'⟩
   ·exact D2.gv_val (fun _ _ _ h=>h) (fun g w=>by kernel_rfl)
   ·refine D2.gv_chn 7 2 (fun L hN=>by
     have e7:=hN.1;have e5:=hN.bef 5 kr;have e4:=hN.back e5 (show D2.edge _ 4 5=true by kernel_rfl)
     exact⟨by (simp[D2.stg,e4,e5,e7])<;>rfl,by (simp[D2.stg,D2.put1,e4,e5,e7])<;>rfl⟩) fun g ww hq=>?_
    exact D2.run_sto (t:=23) (x:=.tmp 36) (y:=.tmp 35) (C:=#[.slice qA mA kA,.slice qB mB kB]) (C':=#[.slice qA mA kA,Qf (g 5).b (mB+1) (g 5).cap]) (T:=25) (off:=1) (b:=b3) (v:=Qf (g 5).b (mB+1) (g 5).cap) kr kr kr kr kr (St.get hq.1 2 kr) (Qu kr) kr ⟨g 7,rfl,St.store (C:=#[.slice qA mA kA,.slice qB mB kB]) (T:=25) hq.1 2 kr,hq.2⟩
   ·intro L1 g w9 hall hp;have hq:=hp.fin (fun k hk=>hall k (by simp at hk;rcases hk with rfl | rfl | rfl<;>exact Qu kr));exact⟨kr,Qg (g 5).b,mB+1,(g 5).cap,[((g 5).b,.cells (g 5).cur 27)],.inr ⟨_,_,rfl,rfl,by rw[ya hx];exact hq.2⟩,hq.1.sub (List.Sublist.cons_cons _ (Qx ..)),isK⟩
  ·clear H4 H4b H5;rintro _ w4 ⟨qB,mB,kB,rowB,hrowB,H4,_,rfl⟩;rw[Qv (by omega)]at hrowB;refine wW ?_;have H4b:St w.heap.size w w4 ((b3,snO qA mA kA qB mB kB)::(b2,snO none 0 0 none 0 0)::(b1,snO q m cq p n c)::(rowA++rowB)):=H4.perm (RE (l₁:=(b3,snO qA mA kA qB mB kB)::(b2,snO none 0 0 none 0 0)::(b1,snO q m cq p n c)::rowA) (l₂:=rowB));refine rS [.l 0,.s 1] H4b kr fun gs6 w6 H6=>rRr [.cell 2 25] [1] (snV qA mA kA qB mB kB) (qD w.heap.size w (uK L V)) H6 kr ?_;exact⟨rowA++rowB,⟨qA,mA,kA,qB,mB,kB,rowA,rowB,rfl,rfl,hrowA,hrowB⟩,(H6.as (l:=(b3,snO qA mA kA qB mB kB)::(b2,snO qA mA kA qB mB kB)::(b1,snO q m cq p n c)::(rowA++rowB)) kr).sub (QA [_,_,_] _)⟩
def xo (B:Nat)(w0:World)(Lr:Qb)(q:Qc)(m cq:Nat)(V:List Bal)(v:Value)(w:World):Prop:=∃(p:Qc) (n c:Nat) (row:Qb),v=snV q m cq p n c/\zz blS 27 p n c row V/\St B w0 w (row++Lr)
def kE (B:Nat)(w0:World)(Lr:Qb)(r:Qi×List Bal)(v:Value)(w:World):Prop:=∃(q:Qc) (m cq:Nat) (p:Qc) (n c:Nat) (rL rV:Qb),v=snV q m cq p n c/\zz sS 9 q m cq rL r.1/\zz blS 27 p n c rV r.2/\St B w0 w (rL++(rV++Lr))
theorem zbP (q:Qc)(m cq:Nat)(p:Qc)(n c:Nat)(V:List Bal)(row Lr:Qb){B:Nat}{w0 w:World}(hm:m<=1000000)(hrow:zz blS 27 p n c row V)(h:St B w0 w (row++Lr))(hV:V.length<=1000000):
 Calls Try.prog 45 #[snV q m cq p n c] w fun e w'=> ∃v,e=.returned v/\xo B w0 Lr q m cq (V.filter (fun x=> !ym V m x)) v w':=by
 refine yo (c:=zu Try.f45) (rs:=[.cell 2 25]) (N:=26) Try.func45 kr kr kr ?_;have hlen:=hrow.len;refine zp [0,1] kr kr<|qi h (some 1) 25 (.tmp 0) (snV q m cq p n c) kr kr kr ?_;intro b1 w1 H1;refine yu H1 (some 2) 25 (snV none 0 0 none 0 0) kr kr kr ?_;intro b2 w2 H2;refine zm<|wW<|zp [0,1,2] kr kr<|zbN H2 (some 6) (fun b=>.map (some b)) (mpO []) kr kr ?_;intro bm w2b H2b;refine yu H2b (some 3) 68 (.map none) kr kr kr ?_;intro b3 w3a H3;refine rp [.s 0] H3 kr fun gs4 w3 H4=>wX []<|zm<|wW ?_;rcases hrow with⟨rfl,rfl,rfl,rfl,rfl⟩ | ⟨bw,cur,rfl,rfl,hrw⟩
 ·have H4b:St B w0 w3 ((b3,QB #[.map (some bm)] 68 (0,0))::(bm,mpO (zr ([])))::(b2,snO none 0 0 none 0 0)::(b1,snO q m cq none 0 0)::Lr):=H4.as kr;refine zf kr<|rS [.v,.l 3,.v,.v] H4b kr fun gs5 w5 H5=>yv 10 9 11 19 0 1 0 (by omega) (fun i ρ ww=>St B w0 ww ((b3,QB #[.map (some bm)] 68 (0,0))::(bm,mpO (zr (([]:List Bal).take i)))::(b2,snO none 0 0 none 0 0)::(b1,snO q m cq none 0 0)::Lr)/\Is [(1,Qe b1),(2,Qe b2),(3,Qe b3),(8,.slice none 0 0),(9,iN 0),(10,iN i)] ρ) (by rintro i _ ww ⟨_,_,rfl⟩;exact⟨kr,kr⟩) ⟨H5.as kr,isK⟩ (fun i ρ ww hi=>absurd hi (Uo _)) ?_;rintro _ w4 ⟨H6,_,rfl⟩;refine wW<|zp [0,1,2,3,4,5] kr kr<|rp [.v,.l 3,.v] H6 kr fun gs7 w7 H7=>wX [3,4,5] ?_;have H8:St B w0 w7 ((b3,QB #[.map (some bm)] 68 (0,0))::(bm,mpO (zr ([])))::(b2,snO none 0 0 none 0 0)::(b1,snO q m cq none 0 0)::Lr):=H7.as kr
  refine yA (R:=zK B w0 ((b3,QB #[.map (some bm)] 68 (0,0))::(bm,mpO (zr ([])))::(b2,snO none 0 0 none 0 0)::(b1,snO q m cq none 0 0)::Lr) (([]:List Bal).filter (fun x=> !ym ([]:List Bal) m x))) (some 23) 39 #[.slice none 0 0,.func (.func 54) #[] #[Qe b3,Qe b1]] (uJ none 0 0 ([]:List Bal) (Qe b3) (Qe b1) (ym ([]:List Bal) m) (fun w=>w.heap[b3]? =some (.cells #[.map (some bm)] 68 (0,0))/\w.heap[bm]? =some (mpO (zr ([]:List Bal)))/\w.heap[b1]? =some (snO q m cq none 0 0)) ([]:Qb) ((b3,QB #[.map (some bm)] 68 (0,0))::(bm,mpO (zr ([])))::(b2,snO none 0 0 none 0 0)::(b1,snO q m cq none 0 0)::Lr) (fun w w' h hb=>⟨zN h.1 hb,zN h.2.1 hb,zN h.2.2 hb⟩) (fun x _=>uI x ([]:List Bal) (Rf _) b3 bm b1 q m cq none 0 0 hm)
   (fun w' X h=>⟨(h.own (b3,QB #[.map (some bm)] 68 (0,0)) (by simp)).2,(h.own (bm,mpO (zr ([]))) (by simp)).2,(h.own (b1,snO q m cq none 0 0) (by simp)).2⟩) (.inl ⟨rfl,rfl,rfl,rfl,rfl⟩) (H8) (Rf _)) kr kr ?_
  rintro v w8 ⟨p',n',c',row',rfl,hrow',H9⟩;have H10:St B w0 w8 ((b3,QB #[.map (some bm)] 68 (0,0))::(bm,mpO (zr ([])))::(b2,snO none 0 0 none 0 0)::(b1,snO q m cq none 0 0)::(row'++Lr)):=H9.perm (qf [(b3,QB #[.map (some bm)] 68 (0,0)),(bm,mpO (zr ([]))),(b2,snO none 0 0 none 0 0),(b1,snO q m cq none 0 0)] row' Lr).symm;refine rp [.v,.s 3] H10 kr fun gs9 w9 H11=>wX []<|zm<|wW ?_;have H12:St B w0 w9 ((b3,QB #[.map (some bm)] 68 (0,0))::(bm,mpO (zr ([])))::(b2,snO none 0 0 none 0 0)::(b1,snO q m cq p' n' c')::(row'++Lr)):=H11.as kr;refine rS [.l 3,.s 2] H12 kr fun gs10 w10 H13=>rRr [.cell 2 25] [2] (snV q m cq p' n' c') (xo B w0 Lr q m cq (([]:List Bal).filter (fun x=> !ym ([]:List Bal) m x))) H13 kr ?_;exact⟨p',n',c',row',rfl,hrow',(H13.as (l:=(b3,QB #[.map (some bm)] 68 (0,0))::(bm,mpO (zr ([])))::(b2,snO q m cq p' n' c')::(b1,snO q m cq p' n' c')::(row'++Lr)) kr).sub (QA [_,_,_,_] _)⟩
 ·have H4b:St B w0 w3 ((b3,QB #[.map (some bm)] 68 (0,0))::(bm,mpO (zr ([])))::(b2,snO none 0 0 none 0 0)::(b1,snO q m cq (Qg bw) n c)::(bw,.cells cur 27)::Lr):=H4.as kr;refine zf kr<|rS [.v,.l 3,.v,.v] H4b kr fun gs5 w5 H5=>yv 10 9 11 19 0 1 n (by omega) (fun i ρ ww=>St B w0 ww ((b3,QB #[.map (some bm)] 68 (0,0))::(bm,mpO (zr (V.take i)))::(b2,snO none 0 0 none 0 0)::(b1,snO q m cq (Qg bw) n c)::(bw,.cells cur 27)::Lr)/\Is [(1,Qe b1),(2,Qe b2),(3,Qe b3),(8,Qf bw n c),(9,iN n),(10,iN i)] ρ) (by rintro i _ ww ⟨_,_,rfl⟩;exact⟨kr,kr⟩) ⟨H5.as kr,isK⟩ (?_) ?_
  ·clear H4b H5;rintro i _ w4 hi ⟨H4,_,rfl⟩;obtain⟨x,hx⟩:∃x,V[i]? =some x:=⟨_,Qj (by omega)⟩
   have hR:=Rw.rowAt (S:=blS) hrw;have hwl:=uh x.2.1 (V.take i);rw[Qw]at hwl;refine zp [0,1,2,3] kr kr<|rp [.o (ins:=[((.tmp 8),Qf bw n c),((.tmp 10),iN i)]) (v:=.pointer (some ⟨bw,0+i*3,none⟩)) (fun ρ o w ho hi2=>zv (kd:=.i64) (t:=23) (e:=27) (K:=3) (bytes:=40) kr (x:=(.tmp 8)) (y:=(.tmp 10)) bw 0 n c i rfl ho hi2.1 hi2.2.1 hi w),.lp 4 (C:=cur) (off:=0+i*3) (n:=3) (W:=blC x) (hR _ _ hx).1 (hR _ _ hx).2] H4 kr fun gs6 w6 H6=>wX [2,3] ?_;have H7:St B w0 w6 ((b3,QB #[.map (some bm)] 68 (0,0))::(bm,mpO (zr (V.take i)))::(b2,snO none 0 0 none 0 0)::(b1,snO q m cq (Qg bw) n c)::(bw,.cells cur 27)::Lr):=H6.as kr;refine yu H7 (some 5) 27 (.agg #[.string em,.string em,.bool false]) kr kr kr ?_;intro b5 w7 H8;refine rp [.s 0] H8 kr fun gs8 w8 H9=>wX []<|zm<|wW ?_;have H10:St B w0 w8 ((b5,blO x)::(b3,QB #[.map (some bm)] 68 (0,0))::(bm,mpO (zr (V.take i)))::(b2,snO none 0 0 none 0 0)::(b1,snO q m cq (Qg bw) n c)::(bw,.cells cur 27)::Lr):=H9.as kr;have hlk:zC x.2.1 (zr (V.take i))=whoC x.2.1 (V.take i):=uC _ _
   refine rL [.l 1,.v,.l 0,.x (ins:=[((.tmp 14),.map (some bm)),((.tmp 16),.string x.2.1)]) (op:=.lookup 68 (.tmp 14) (.tmp 16) false) (v:=iN (zC x.2.1 (zr (V.take i)))) [(2,(bm,mpO (zr (V.take i))))] (fun ρ o w ho hi2 hd=>by
    have hr:=uH hd.1 x.2.1
    unfold execOp;simp only[ho,hi2.1,hi2.2.1,Sem.run_bind,hr,Qz];rfl),.E (.int .i64 (Qm.wrap (((zC x.2.1 (zr (V.take i)):Nat):Int)+1))) (iN (zC x.2.1 (zr (V.take i))+1)) (zh (zB (a:=zC x.2.1 (zr (V.take i))) (b:=1) (by omega))),
    .g [((.tmp 14),.map (some bm)),((.tmp 16),.string x.2.1),((.tmp 18),iN (zC x.2.1 (zr (V.take i))+1))] (.mapUpdate 68 (.tmp 14) (.tmp 16) (.tmp 18)) [(2,(bm,mpO (zr (V.take i))))] (fun _=>undef) (.turn 2 (mpO (qZ (zr (V.take i)) x))) (fun ρ o w ho hi2 hd hb=>by
     have hr:=zbE hd.1 x.2.1 (zC x.2.1 (zr (V.take i))+1);have e:(execOp (ev ρ) o).run Try.prog w=.ok .skip { w with heap:=w.heap.setIfInBounds bm (mpO (qZ (zr (V.take i)) x)) } :=by
      unfold execOp;simp only[ho,hi2.1,hi2.2.1,hi2.2.2.1,Sem.run_bind,hr,Qz];rfl
     rw[e];have hlt:=zk hd.1
     exact⟨default,rfl,(bm,mpO (zr (V.take i))),rfl,⟨rfl,rfl,rfl,by simp,fun k _ hk=>by simp[Array.getElem?_setIfInBounds,show ¬bm=k from fun e=>hk (by rw[e])]⟩,by simp[Array.getElem?_setIfInBounds,hlt]⟩)] H10 kr fun gs9 w9 H11=>?_
   refine⟨kr,?_,isK⟩;rw[ya hx,uA];exact(H11.as (l:=(b5,blO x)::(b3,QB #[.map (some bm)] 68 (0,0))::(bm,mpO (qZ (zr (V.take i)) x))::(b2,snO none 0 0 none 0 0)::(b1,snO q m cq (Qg bw) n c)::(bw,.cells cur 27)::Lr) kr).sub (Qx ..)
  ·rintro _ w4 ⟨H6,_,rfl⟩;rw[Qv (l:=V) (by omega)]at H6;refine wW<|zp [0,1,2,3,4,5] kr kr<|rp [.v,.l 3,.v] H6 kr fun gs7 w7 H7=>wX [3,4,5] ?_;have H8:St B w0 w7 ((b3,QB #[.map (some bm)] 68 (0,0))::(bm,mpO (zr (V)))::(b2,snO none 0 0 none 0 0)::(b1,snO q m cq (Qg bw) n c)::(bw,.cells cur 27)::Lr):=H7.as kr
   refine yA (R:=zK B w0 ((b3,QB #[.map (some bm)] 68 (0,0))::(bm,mpO (zr (V)))::(b2,snO none 0 0 none 0 0)::(b1,snO q m cq (Qg bw) n c)::Lr) (V.filter (fun x=> !ym V m x))) (some 23) 39 #[Qf bw n c,.func (.func 54) #[] #[Qe b3,Qe b1]] (uJ (Qg bw) n c V (Qe b3) (Qe b1) (ym V m) (fun w=>w.heap[b3]? =some (.cells #[.map (some bm)] 68 (0,0))/\w.heap[bm]? =some (mpO (zr V))/\w.heap[b1]? =some (snO q m cq (Qg bw) n c)) [(bw,.cells cur 27)] ((b3,QB #[.map (some bm)] 68 (0,0))::(bm,mpO (zr (V)))::(b2,snO none 0 0 none 0 0)::(b1,snO q m cq (Qg bw) n c)::Lr) (fun w w' h hb=>⟨zN h.1 hb,zN h.2.1 hb,zN h.2.2 hb⟩) (fun x _=>uI x V hV b3 bm b1 q m cq (Qg bw) n c hm)
    (fun w' X h=>⟨(h.own (b3,QB #[.map (some bm)] 68 (0,0)) (by simp)).2,(h.own (bm,mpO (zr (V))) (by simp)).2,(h.own (b1,snO q m cq (Qg bw) n c) (by simp)).2⟩) (.inr ⟨bw,cur,rfl,rfl,hrw⟩) (H8.perm (qf [(b3,QB #[.map (some bm)] 68 (0,0)),(bm,mpO (zr V)),(b2,snO none 0 0 none 0 0),(b1,snO q m cq (Qg bw) n c)] [(bw,QB cur 27)] Lr)) hV) kr kr ?_
   rintro v w8 ⟨p',n',c',row',rfl,hrow',H9⟩;have H10:St B w0 w8 ((b3,QB #[.map (some bm)] 68 (0,0))::(bm,mpO (zr (V)))::(b2,snO none 0 0 none 0 0)::(b1,snO q m cq (Qg bw) n c)::(row'++Lr)):=H9.perm (qf [(b3,QB #[.map (some bm)] 68 (0,0)),(bm,mpO (zr (V))),(b2,snO none 0 0 none 0 0),(b1,snO q m cq (Qg bw) n c)] row' Lr).symm;refine rp [.v,.s 3] H10 kr fun gs9 w9 H11=>wX []<|zm<|wW ?_;have H12:St B w0 w9 ((b3,QB #[.map (some bm)] 68 (0,0))::(bm,mpO (zr (V)))::(b2,snO none 0 0 none 0 0)::(b1,snO q m cq p' n' c')::(row'++Lr)):=H11.as kr;refine rS [.l 3,.s 2] H12 kr fun gs10 w10 H13=>rRr [.cell 2 25] [2] (snV q m cq p' n' c') (xo B w0 Lr q m cq (V.filter (fun x=> !ym V m x))) H13 kr ?_;exact⟨p',n',c',row',rfl,hrow',(H13.as (l:=(b3,QB #[.map (some bm)] 68 (0,0))::(bm,mpO (zr (V)))::(b2,snO q m cq p' n' c')::(b1,snO q m cq p' n' c')::(row'++Lr)) kr).sub (QA [_,_,_,_] _)⟩
theorem zbQ (q:Qc)(m cq:Nat)(L:Qi)(p:Qc)(n c:Nat)(V:List Bal)(b:Bal)(rL rV Lr:Qb){B:Nat}{w0 w:World}(hrL:zz sS 9 q m cq rL L)(hrV:zz blS 27 p n c rV V)(h:St B w0 w (rL++(rV++Lr)))(hs:qd L)(hL:L.length<=1000000)(hV:V.length<=1000000):
 Calls Try.prog 24 #[snV q m cq p n c,blV b] w fun e w'=> ∃v,e=.returned v/\kE B w0 Lr (yi L V b) v w':=by
 refine yo (c:=zu Try.f24) (rs:=[.cell 4 25]) (N:=27) Try.func24 kr kr kr ?_;have hlenL:=hrL.len;refine zp [0,1,2] kr kr<|qi h (some 2) 25 (.tmp 0) (snV q m cq p n c) kr kr kr ?_;intro b2 w1 H1;refine qi H1 (some 3) 27 (.tmp 1) (blV b) kr kr kr ?_;intro b3 w2 H2;refine yu H2 (some 4) 25 (snV none 0 0 none 0 0) kr kr kr ?_;intro b4 w3 H3;refine zm<|wW<|zp [0,1,2,3,4,5] kr kr<|rp [.v,.l 2,.v] H3 kr fun gs4 w4 H4=>wX [3,4,5] ?_;have H5:St B w0 w4 ((b4,snO none 0 0 none 0 0)::(b3,blO b)::(b2,snO q m cq p n c)::(rL++(rV++Lr))):=H4.as kr;refine yA (R:=zK B w0 ((b4,snO none 0 0 none 0 0)::(b3,blO b)::(b2,snO q m cq p n c)::(rL++Lr)) (V.filter (fun x=> !goB b x))) (some 8) 39 #[.slice p n c,.func (.func 40) #[] #[Qe b3]] (zbJ p n c V (Qe b3) (goB b) (fun w=>w.heap[b3]? =some (blO b)) rV ((b4,snO none 0 0 none 0 0)::(b3,blO b)::(b2,snO q m cq p n c)::(rL++Lr)) (fun w w' h hb=>zN h hb) (fun x _=>zbG x b b3) (fun w' X h=>(h.own (b3,blO b) (by simp)).2) hrV (H5.perm (xn [(b4,snO none 0 0 none 0 0),(b3,blO b),(b2,snO q m cq p n c)] rL rV Lr)) hV) kr kr ?_;rintro v w5 ⟨p1,n1,c1,rV1,rfl,hrV1,H6⟩;have H7:St B w0 w5 ((b4,snO none 0 0 none 0 0)::(b3,blO b)::(b2,snO q m cq p n c)::(rL++(rV1++Lr))):=H6.perm (xn [(b4,snO none 0 0 none 0 0),(b3,blO b),(b2,snO q m cq p n c)] rL rV1 Lr).symm;refine rp [.v,.s 2] H7 kr fun gs8 w8 H8=>wX []<|zm<|wW ?_;have H9:St B w0 w8 ((b4,snO none 0 0 none 0 0)::(b3,blO b)::(b2,snO q m cq p1 n1 c1)::(rL++(rV1++Lr))):=H8.as kr;have hV1:(V.filter (fun x=> !goB b x)).length<=1000000:=Rb (RI _ _) hV;refine zf kr ?_;obtain⟨b_1,b_2,b_3⟩:=b;cases b_3 with
 | true=>
  refine rS [.v,.l 1] H9 kr fun gs9 w9 H10=>zy<|zp [0,1,2,3,4,5,6,7] kr kr<|rp [.v,.l 2,.v,.l 1,.v] H10 kr fun gs11 w11 H11=>wX [5,6,7] ?_;have H12:St B w0 w11 ((b4,snO none 0 0 none 0 0)::(b3,blO (b_1,b_2,true))::(b2,snO q m cq p1 n1 c1)::(rL++(rV1++Lr))):=H11.as kr;refine yA (R:=zS B w0 ((b3,blO (b_1,b_2,true))::(b4,snO none 0 0 none 0 0)::(b2,snO q m cq p1 n1 c1)::(rV1++Lr)) (zn (fun x=>zd (tl x) (tl b_2)) b_2 L)) (some 17) 41 #[.slice q m cq,.string b_2,leV b3] (zbC q m cq L (b_1,b_2,true) b3 rL ((b4,snO none 0 0 none 0 0)::(b2,snO q m cq p1 n1 c1)::(rV1++Lr)) hrL (H12.perm ((qf [(b3,blO (b_1,b_2,true)),(b4,snO none 0 0 none 0 0),(b2,snO q m cq p1 n1 c1)] rL (rV1++Lr)).trans (List.Perm.swap _ _ _))) hs hL) kr kr ?_;rintro v w12 ⟨q1,m1,cq1,rL1,rfl,hrL1,H13⟩;have H14:St B w0 w12 ((b4,snO none 0 0 none 0 0)::(b3,blO (b_1,b_2,true))::(b2,snO q m cq p1 n1 c1)::(rL1++(rV1++Lr))):=H13.perm ((List.Perm.swap _ _ _).trans (qf [(b3,blO (b_1,b_2,true)),(b4,snO none 0 0 none 0 0),(b2,snO q m cq p1 n1 c1)] rL1 (rV1++Lr)).symm);refine rp [.v,.s 2] H14 kr fun gs15 w15 H15=>wX []<|zm<|wW ?_;have H16:St B w0 w15 ((b4,snO none 0 0 none 0 0)::(b3,blO (b_1,b_2,true))::(b2,snO q1 m1 cq1 p1 n1 c1)::(rL1++(rV1++Lr))):=H15.as kr;refine rS [.l 2,.s 0] H16 kr fun gs17 w17 H17=>rRr [.cell 4 25] [0] (snV q1 m1 cq1 p1 n1 c1) (kE B w0 Lr (yi L V (b_1,b_2,true))) H17 kr ?_;refine⟨q1,m1,cq1,p1,n1,c1,rL1,rV1,rfl,?_,?_,(H17.as (l:=((b4,snO q1 m1 cq1 p1 n1 c1)::(b3,blO (b_1,b_2,true))::(b2,snO q1 m1 cq1 p1 n1 c1)::(rL1++(rV1++Lr)))) kr).sub (QA [_,_,_] _)⟩
  ·unfold yi;rw[if_pos rfl];exact hrL1
  ·unfold yi;rw[if_pos rfl];exact hrV1
 | false=>
  refine rS [.v,.l 1] H9 kr fun gs9 w9 H10=>zx<|wW<|zp [0,1,2,3,4,5] kr kr<|rp [.v,.l 2,.v] H10 kr fun gs11 w11 H11=>wX [3,4,5] ?_;have H12:St B w0 w11 ((b4,snO none 0 0 none 0 0)::(b3,blO (b_1,b_2,false))::(b2,snO q m cq p1 n1 c1)::(rL++(rV1++Lr))):=H11.as kr;refine yA (R:=zS B w0 ((b4,snO none 0 0 none 0 0)::(b3,blO (b_1,b_2,false))::(b2,snO q m cq p1 n1 c1)::(rV1++Lr)) (L.filter (fun x=> !decide (x=b_2)))) (some 23) 43 #[.slice q m cq,.func (.func 44) #[] #[Qe b3]] (zbM q m cq L (Qe b3) (fun x=>decide (x=b_2)) (fun w=>w.heap[b3]? =some (blO (b_1,b_2,false))) rL ((b4,snO none 0 0 none 0 0)::(b3,blO (b_1,b_2,false))::(b2,snO q m cq p1 n1 c1)::(rV1++Lr)) (fun w w' h hb=>zN h hb) (fun x _=>zbH x (b_1,b_2,false) b3) (fun w' X h=>(h.own (b3,blO (b_1,b_2,false)) (by simp)).2) hrL (H12.perm (qf [(b4,snO none 0 0 none 0 0),(b3,blO (b_1,b_2,false)),(b2,snO q m cq p1 n1 c1)] rL (rV1++Lr))) hL) kr kr ?_;rintro v w12 ⟨q1,m1,cq1,rL1,rfl,hrL1,H13⟩;have H14:St B w0 w12 ((b4,snO none 0 0 none 0 0)::(b3,blO (b_1,b_2,false))::(b2,snO q m cq p1 n1 c1)::(rL1++(rV1++Lr))):=H13.perm (qf [(b4,snO none 0 0 none 0 0),(b3,blO (b_1,b_2,false)),(b2,snO q m cq p1 n1 c1)] rL1 (rV1++Lr)).symm;refine rp [.v,.s 2] H14 kr fun gs15 w15 H15=>wX []<|zm<|wW ?_;have hm1:m1<=1000000:=by rw[<-hrL1.len];exact Rb (RI _ _) hL
  refine zp [0,1,2] kr kr<|rp [.l 2] H15 kr fun gs16 w16 H16a=>wX [1,2] ?_;have H16:St B w0 w16 ((b4,snO none 0 0 none 0 0)::(b3,blO (b_1,b_2,false))::(b2,snO q1 m1 cq1 p1 n1 c1)::(rL1++(rV1++Lr))):=H16a.as kr;refine yA (R:=xo B w0 ((b4,snO none 0 0 none 0 0)::(b3,blO (b_1,b_2,false))::(b2,snO q1 m1 cq1 p1 n1 c1)::(rL1++Lr)) q1 m1 cq1 ((V.filter (fun x=> !goB (b_1,b_2,false) x)).filter (fun x=> !ym (V.filter (fun x=> !goB (b_1,b_2,false) x)) m1 x))) (some 26) 45 #[snV q1 m1 cq1 p1 n1 c1] (zbP q1 m1 cq1 p1 n1 c1 (V.filter (fun x=> !goB (b_1,b_2,false) x)) rV1 ((b4,snO none 0 0 none 0 0)::(b3,blO (b_1,b_2,false))::(b2,snO q1 m1 cq1 p1 n1 c1)::(rL1++Lr)) hm1 hrV1 (H16.perm (xn [(b4,snO none 0 0 none 0 0),(b3,blO (b_1,b_2,false)),(b2,snO q1 m1 cq1 p1 n1 c1)] rL1 rV1 Lr)) hV1) kr kr ?_;rintro v w17 ⟨p2,n2,c2,rV2,rfl,hrV2,H17⟩;have H18:St B w0 w17 ((b4,snO none 0 0 none 0 0)::(b3,blO (b_1,b_2,false))::(b2,snO q1 m1 cq1 p1 n1 c1)::(rL1++(rV2++Lr))):=H17.perm (xn [(b4,snO none 0 0 none 0 0),(b3,blO (b_1,b_2,false)),(b2,snO q1 m1 cq1 p1 n1 c1)] rL1 rV2 Lr).symm;refine rp [.s 0] H18 kr fun gs19 w19 H19=>wX []<|zm<|wW<|rRr [.cell 4 25] [0] (snV q1 m1 cq1 p2 n2 c2) (kE B w0 Lr (yi L V (b_1,b_2,false))) H19 kr ?_;refine⟨q1,m1,cq1,p2,n2,c2,rL1,rV2,rfl,?_,?_,(H19.as (l:=((b4,snO q1 m1 cq1 p2 n2 c2)::(b3,blO (b_1,b_2,false))::(b2,snO q1 m1 cq1 p1 n1 c1)::(rL1++(rV2++Lr)))) kr).sub (QA [_,_,_] _)⟩
  ·unfold yi;rw[if_neg QL];exact hrL1
  ·unfold yi;rw[if_neg QL];have hl1:(L.filter (fun x=> !decide (x=b_2))).length=m1:=hrL1.len;show zz blS 27 p2 n2 c2 rV2 ((V.filter fun x=> !goB (b_1,b_2,false) x).filter fun x=> !ym (V.filter fun x=> !goB (b_1,b_2,false) x) (L.filter (fun x=> !decide (x=b_2))).length x);rw[hl1];exact hrV2
def qG (y:Gh):Qc:=if y.l.getD 0 0=0 then none else Qg y.b
def pG2 (y:Gh):Qc:=if y.l.getD 1 0=0 then none else some ⟨y.l.getD 2 0,0,none⟩
theorem zbR {α β:Type}{S1:Fl α}{S2:Fl β}{t1 t2:TypeId}{q p:Qc}{m cq n c:Nat}{r1 r2:Qb}{L:List α}{V:List β}(h1:zz S1 t1 q m cq r1 L)(h2:zz S2 t2 p n c r2 V):∃x:Gh,q=qG x/\m=x.n/\cq=x.cap/\p=pG2 x/\n=x.l.getD 3 0/\c=x.l.getD 4 0:=by
 rcases h1 with⟨rfl,rfl,rfl,_,_⟩|⟨b1,_,rfl,_,_⟩<;>rcases h2 with⟨rfl,rfl,rfl,_,_⟩ | ⟨b2,_,rfl,_,_⟩
 ·exact⟨{ n:=0,cap:=0,l:=[0,0,0,0,0] },rfl,rfl,rfl,rfl,rfl,rfl⟩
 ·exact⟨{ n:=0,cap:=0,l:=[0,1,b2,n,c] },rfl,rfl,rfl,rfl,rfl,rfl⟩
 ·exact⟨{ b:=b1,n:=m,cap:=cq,l:=[1,0,0,0,0] },rfl,rfl,rfl,rfl,rfl,rfl⟩
 ·exact⟨{ b:=b1,n:=m,cap:=cq,l:=[1,1,b2,n,c] },rfl,rfl,rfl,rfl,rfl,rfl⟩
abbrev snG (y:Gh):Value:=snV (qG y) y.n y.cap (pG2 y) (y.l.getD 3 0) (y.l.getD 4 0)
theorem D2.run_cc {P:Program}{ops:Array Oper}{d:Option Nat}{ρ:Env}{k:Nat}{w:World}{S:Value->World->Prop}{f:Nat}{args:Qd}{R:Value->World->Prop}(hc:Calls P f args w fun e w'=> ∃v,e=.returned v/\R v w')(h:opv P ops k ρ w=some (d,true,.ok (.enter f args) w))(hS: ∀v w',R v w'->S v w'):
 ∃o,ops[k]? =some o/\o.dst=d/\Region.wanted o (zt ops ρ)=true/\D2.Runs P S ((execOp (ev ρ) o).run P w):=by
 obtain⟨o,ho,hd,hw,hr⟩:=zX h;refine⟨o,ho,hd,hw,?_⟩;rw[hr];refine Calls.mono hc ?_;rintro e w' ⟨v,rfl,hR⟩;exact⟨v,rfl,hS v w' hR⟩
theorem uL {α:Type}(A X Y:List α):(Y++(A++X)).Perm (A++(X++Y)):=by rw[<-Rd A X Y];exact RE
theorem uM {α:Type}(A X Y:List α):(X++(Y++A)).Perm (A++(X++Y)):=by rw[<-Rd X Y A];exact RE
theorem zbS {α:Type}[DecidableEq α](f:α->Bool)(b:α)(L:List α):(zn f b L).length<=L.length+1:=by
 unfold zn;split
 ·omega
 ·have:=qt f L;rw[QF,Ro,Qw,List.length_drop];omega
theorem uN {L:Qi}{V:List Bal}(h:yc L V=true):(∀x∈L,Qq x<=1000000)/\(∀x∈V,Qq x.1<=1000000/\Qq x.2.1<=1000000):=by
 obtain⟨r1,r2,r3⟩:=yT.1 h;obtain⟨s1,s2,s3,s4⟩:=qJ.1 r3;refine⟨fun x hx=>by rw[s1 x hx];decide,fun x hx=>?_⟩;obtain⟨f1,f2,f3⟩:=yK.1 (r1 x hx).1;exact⟨by rw[s1 _ f1];decide,by rw[f2];decide⟩
theorem jA (q:Qc)(m cq:Nat)(L:Qi)(p:Qc)(n c:Nat)(V:List Bal)(b:Bal)(hL:L.length<=100000)(hV:V.length<=100000):FnT Try.prog 8 #[snV q m cq p n c,blV b] (fun w=>zM w L V q m p n) (qc q m cq L p n c V (zs L V b)):=by
 refine FnT.intro (c:=zu Try.f8) [.cell 4 25,.tmp 5] 39 Try.func8 kr kr kr fun w hP=>?_;obtain⟨hS,hVV⟩:=hP;have hright:=ur q m cq L p n c V (by omega) (by omega);have hcast:=zbm q m cq L p n c b (by omega);have H0:=St.start w;refine rS [.b,.b,.a,.v] H0 kr fun gs1 w1 H1=>zf kr ?_;cases hr:yc L V with
 | false=>
  rw[hr]at hright;refine rS [.l 0,.cp (pre:=fun w=>zM w L V q m p n) hright [] (fun w hb hd=>⟨hS.call hb,hVV.call hb⟩),.v] H1 kr fun gs2 w2 H2=>zy<|rS [.v,.s 2,.v] H2 kr fun gse we He=>rRr [.cell 4 25,.tmp 5] [2] (.tuple #[snV none 0 0 none 0 0,.int .i64 1]) (qD w.heap.size w (qc q m cq L p n c V (zs L V b))) He kr ?_;rw[<-xj,show yU L V b=([],[],1) by unfold yU;rw[if_pos hr]];exact⟨_,qc.no (e:=1),He.sub (List.nil_sublist _)⟩
 | true=>
  rw[hr]at hright;refine rS [.l 0,.cp (pre:=fun w=>zM w L V q m p n) hright [] (fun w hb hd=>⟨hS.call hb,hVV.call hb⟩),.v] H1 kr fun gs2 w2 H2=>zx<|wW<|zf kr ?_;cases hcb:qu L b with
  | false=>
   rw[hcb]at hcast;refine rS [.l 0,.l 1,.cp (pre:=fun w=>AtF sS w q m L) hcast [] (fun w hb hd=>hS.call hb),.v] H2 kr fun gs3 w3 H3=>zy<|rS [.v,.s 2,.v] H3 kr fun gse we He=>rRr [.cell 4 25,.tmp 5] [2] (.tuple #[snV none 0 0 none 0 0,.int .i64 44]) (qD w.heap.size w (qc q m cq L p n c V (zs L V b))) He kr ?_;rw[<-xj,show yU L V b=([],[],44) by unfold yU;rw[if_neg (by rw[hr];decide),if_pos hcb]];exact⟨_,qc.no (e:=44),He.sub (List.nil_sublist _)⟩
  | true=>
   rw[hcb]at hcast;refine rS [.l 0,.l 1,.cp (pre:=fun w=>AtF sS w q m L) hcast [] (fun w hb hd=>hS.call hb),.v] H2 kr fun gs3 w3 H3=>zx<|wW ?_;obtain⟨r1,hsB,r3⟩:=yT.1 hr;obtain⟨s1,hsL,s3,s4⟩:=qJ.1 r3;have hfit:zH L b=true:=by
    unfold qu at hcb;rw[Bool.and_eq_true]at hcb;exact hcb.1
   obtain⟨f1,f2,f3⟩:=yK.1 hfit;have hb1:b.1.size<=1000000:=by rw[s1 _ f1];decide
   have hb2:b.2.1.size<=1000000:=by rw[f2];decide
   have hlen:=zbS (fun x=>aheadB x b) b V;have hcnt:=vG b (zn (fun x=>aheadB x b) b V);have H3b:St w.heap.size w w3 [((gs1 0).b,snO q m cq p n c),((gs1 1).b,blO b),((gs1 2).b,snO none 0 0 none 0 0)]:=H3.as kr;generalize (gs1 0).b=b0 at*;generalize (gs1 1).b=b1 at*;generalize (gs1 2).b=b2 at*;refine jS [(2,Qe b0),(3,Qe b1),(4,Qe b2)] kr fun ρ0=>?_;clear H0 H1 H2 H3;refine zp [0,1,2,3] kr kr<|rp [.l 0] H3b kr fun gs4 w4 H4=>wX [1,2,3] ?_;have H5:St w.heap.size w w4 [(b0,snO q m cq p n c),(b1,blO b),(b2,snO none 0 0 none 0 0)]:=H4.as kr;refine qR H5 (some 17) 20 #[snV q m cq p n c] (zbO q m cq L p n c V (by omega) (by omega) (uN hr).1 (uN hr).2) ⟨hS.call H5.below,hVV.call H5.below⟩ kr kr ?_;rintro v T w5 ⟨q1,m1,cq1,p1,n1,c1,rL,rV,rfl,rfl,hrL,hrV⟩ H6;have H6b:St w.heap.size w w5 ((b0,snO q m cq p n c)::(b1,blO b)::(b2,snO none 0 0 none 0 0)::(rL++rV)):=H6.perm (RE (l₁:=[(b0,snO q m cq p n c),(b1,blO b),(b2,snO none 0 0 none 0 0)]) (l₂:=rL++rV));refine yu H6b (some 6) 25 (snV none 0 0 none 0 0) kr kr kr ?_;intro b6 w6 H7;refine rp [.s 0] H7 kr fun gs8 w8 H8a=>wX []<|zm<|wW ?_;have H8:St w.heap.size w w8 ((b6,snO q1 m1 cq1 p1 n1 c1)::(b0,snO q m cq p n c)::(b1,blO b)::(b2,snO none 0 0 none 0 0)::(rL++rV)):=H8a.as kr;have hmL:L.length=m1:=hrL.len;refine zf kr<|D2.g_draw0 [0,1,2,3,4,5,6,7,8] [(some 18,fun _=>.pointer (some ⟨b6,1,none⟩)),(some 19,fun _=>.slice p1 n1 c1),(some 20,fun _=>blV b),(some 21,fun _=>blV b),(some 22,fun _=>blV b),(some 23,fun y=>ahV y.b),(some 24,fun y=>.slice (pG y) y.n y.cap),(some 25,fun _=>.pointer (some ⟨b6,1,none⟩)),(none,fun _=>undef)]
    (D2.chn [5,6,8] fun j g ww=>match j with
     | 0=>St w.heap.size w ww ((b6,snO q1 m1 cq1 p1 n1 c1)::(b0,snO q m cq p n c)::(b1,blO b)::(b2,snO none 0 0 none 0 0)::(rL++rV))
     | 1=>St w.heap.size w ww (((g 5).b,blO b)::((b6,snO q1 m1 cq1 p1 n1 c1)::(b0,snO q m cq p n c)::(b1,blO b)::(b2,snO none 0 0 none 0 0)::(rL++rV)))
     | 2=> ∃rN,zz blS 27 (pG (g 6)) (g 6).n (g 6).cap rN (zn (fun x=>aheadB x b) b V)/\St w.heap.size w ww (((g 5).b,blO b)::((b6,snO q1 m1 cq1 p1 n1 c1)::(b0,snO q m cq p n c)::(b1,blO b)::(b2,snO none 0 0 none 0 0)::(rL++rN)))
     | _=> ∃rN,zz blS 27 (pG (g 6)) (g 6).n (g 6).cap rN (zn (fun x=>aheadB x b) b V)/\St w.heap.size w ww (((g 5).b,blO b)::((b6,snO q1 m1 cq1 (pG (g 6)) (g 6).n (g 6).cap)::(b0,snO q m cq p n c)::(b1,blO b)::(b2,snO none 0 0 none 0 0)::(rL++rN))))
    kr kr kr H8.drew ⟨?_,?_,?_,?_,?_,?_,?_,?_,?_,trivial⟩ ?_
   ·exact D2.gv_val (fun _ _ _ h=>h) (fun g w=>by kernel_rfl)
   ·exact D2.gv_ld (fun _ _ _ h=>h) 23 (.tmp 18) (fun _=>b6) 1 #[.slice q1 m1 cq1,.slice p1 n1 c1] 25 (0,0) (fun g=>by kernel_rfl) (fun g=>by kernel_rfl) (fun L g w hN hp=>hp.getN 2 8 rfl (hN.post 8 kr) fun j hj h=>by
     match j,hj,h with
     | 0,_,h=>exact(h.own (b6,snO q1 m1 cq1 p1 n1 c1) (by simp)).2
     | 1,_,h=>exact(h.own (b6,snO q1 m1 cq1 p1 n1 c1) (by simp)).2
     | 2,_,h=>exact(let ⟨_,_,hh⟩:=h;(hh.own (b6,snO q1 m1 cq1 p1 n1 c1) (by simp)).2)) kr kr
   ·exact D2.gv_ld (fun _ _ _ h=>h) 27 (.tmp 3) (fun _=>b1) 0 (blC b) 27 (0,0) (fun g=>by kernel_rfl) (fun g=>by kernel_rfl) (fun L g w hN hp=>hp.get fun j hj h=>by
     match j,h with
     | 0,h=>exact(h.own (b1,blO b) (by simp)).2
     | 1,h=>exact(h.own (b1,blO b) (by simp)).2
     | 2,h=>exact(let ⟨_,_,hh⟩:=h;(hh.own (b1,blO b) (by simp)).2)
     | _+3,h=>exact(let ⟨_,_,hh⟩:=h;(hh.own (b1,blO b) (by simp)).2)) kr kr
   ·exact D2.gv_cW (fun _ _ _ h=>h) 22 #[blV b] (kD b hb1 hb2) (fun L g w w' hN hp hb=>by
     revert hp;unfold D2.chn
     generalize D2.stg [5,6,8] L=j;intro hp
     match j,hp with
     | 0,h=>exact h.call hb
     | 1,h=>exact h.call hb
     | 2,h=>exact(let ⟨r,hr,hh⟩:=h;⟨r,hr,hh.call hb⟩)
     | _+3,h=>exact(let ⟨r,hr,hh⟩:=h;⟨r,hr,hh.call hb⟩)) (fun g w=>by kernel_rfl)
   ·exact D2.gv_ld (fun _ _ _ h=>h) 27 (.tmp 3) (fun _=>b1) 0 (blC b) 27 (0,0) (fun g=>by kernel_rfl) (fun g=>by kernel_rfl) (fun L g w hN hp=>hp.get fun j hj h=>by
     match j,h with
     | 0,h=>exact(h.own (b1,blO b) (by simp)).2
     | 1,h=>exact(h.own (b1,blO b) (by simp)).2
     | 2,h=>exact(let ⟨_,_,hh⟩:=h;(hh.own (b1,blO b) (by simp)).2)
     | _+3,h=>exact(let ⟨_,_,hh⟩:=h;(hh.own (b1,blO b) (by simp)).2)) kr kr
   ·refine D2.gv_chn 5 0 (fun L hN=>by
     have e5:=hN.1;have e6:=hN.post 6 kr;have e8:=hN.fwd e6 (show D2.edge _ 6 8=true by kernel_rfl)
     exact⟨by (simp[D2.stg,e5,e6,e8])<;>rfl,by (simp[D2.stg,D2.put1,e5,e6,e8])<;>rfl⟩) fun g ww hq=>?_
    exact D2.run_ft (up b) trivial kr (fun v T w' ⟨k,hv,hT⟩ hSt=>⟨{ b:=k },hv,by rw[hT]at hSt;exact hq.addAll hSt⟩)
   ·refine D2.gv_chn 6 1 (fun L hN=>by
     have e6:=hN.1;have e5:=hN.bef 5 kr;have e8:=hN.post 8 kr
     exact⟨by (simp[D2.stg,e5,e6,e8])<;>rfl,by (simp[D2.stg,D2.put1,e5,e6,e8])<;>rfl⟩) fun g ww hq=>?_
    refine D2.run_cc (zbB p1 n1 c1 V b (g 5).b rV ((b6,snO q1 m1 cq1 p1 n1 c1)::(b0,snO q m cq p n c)::(b1,blO b)::(b2,snO none 0 0 none 0 0)::rL) hrV (hq.perm (uL [((g 5).b,blO b),(b6,snO q1 m1 cq1 p1 n1 c1),(b0,snO q m cq p n c),(b1,blO b),(b2,snO none 0 0 none 0 0)] rL rV)) hsB (by omega)) kr fun v w' hR=>?_;obtain⟨p',n',k',rN,rfl,hrN,hSt⟩:=hR;obtain⟨y,hy,hrN'⟩:=zay hrN;exact⟨y,hy,rN,hrN',hSt.perm (uL [((g 5).b,blO b),(b6,snO q1 m1 cq1 p1 n1 c1),(b0,snO q m cq p n c),(b1,blO b),(b2,snO none 0 0 none 0 0)] rL rN).symm⟩
   ·exact D2.gv_val (fun _ _ _ h=>h) (fun g w=>by kernel_rfl)
   ·refine D2.gv_chn 8 2 (fun L hN=>by
     have e8:=hN.1;have e6:=hN.bef 6 kr;have e5:=hN.back e6 (show D2.edge _ 5 6=true by kernel_rfl)
     exact⟨by (simp[D2.stg,e5,e6,e8])<;>rfl,by (simp[D2.stg,D2.put1,e5,e6,e8])<;>rfl⟩) fun g ww hq=>?_
    obtain⟨rN,hrN,hq⟩:=hq;exact D2.run_sto (t:=23) (x:=.tmp 25) (y:=.tmp 24) (C:=#[.slice q1 m1 cq1,.slice p1 n1 c1]) (C':=#[.slice q1 m1 cq1,.slice (pG (g 6)) (g 6).n (g 6).cap]) (T:=25) (off:=1) (b:=b6) (v:=.slice (pG (g 6)) (g 6).n (g 6).cap) kr kr kr kr kr (St.get hq 1 kr) (Qu kr) kr ⟨g 8,rfl,rN,hrN,St.store (C:=#[.slice q1 m1 cq1,.slice p1 n1 c1]) (T:=25) hq 1 kr⟩
   intro L1 g w9 hall hp;have hq:=hp.fin (fun k hk=>hall k (by simp at hk;rcases hk with rfl | rfl | rfl<;>exact Qu kr));obtain⟨rN,hrN,H9⟩:=hq;refine wW<|jS [(3,Qe b1),(4,Qe b2),(6,Qe b6)] kr fun ρ1=>?_;have H10:St w.heap.size w w9 ((b6,snO q1 m1 cq1 (pG (g 6)) (g 6).n (g 6).cap)::(b0,snO q m cq p n c)::(b1,blO b)::(b2,snO none 0 0 none 0 0)::(rL++rN)):=H9.sub (Qx ..);generalize pG (g 6)=p2 at hrN H10;generalize (g 6).n=n2 at hrN H10;generalize (g 6).cap=c2 at hrN H10;clear hp hall H9;refine zf kr<|zf kr<|D2.g_draw0 [0,1,2,3,4,5,6,7] [(some 26,fun _=>snV q1 m1 cq1 p2 n2 c2),(some 27,fun _=>blV b),(some 28,fun _=>iN (zl b (zn (fun x=>aheadB x b) b V))),(some 29,fun _=>iN (2*zl b (zn (fun x=>aheadB x b) b V))),(some 30,fun _=>Qe b6),(some 31,fun _=>.slice q1 m1 cq1),(some 32,fun _=>iN m1),(some 33,fun _=>.bool (decide (m1<2*zl b (zn (fun x=>aheadB x b) b V))))]
    (fun _ _ ww=>St w.heap.size w ww ((b6,snO q1 m1 cq1 p2 n2 c2)::(b0,snO q m cq p n c)::(b1,blO b)::(b2,snO none 0 0 none 0 0)::(rL++rN))) kr kr kr H10.drew ⟨?_,?_,?_,?_,?_,?_,?_,?_,trivial⟩ ?_
   ·exact D2.gv_ld (fun _ _ _ h=>h) 25 (.tmp 6) (fun _=>b6) 0 #[.slice q1 m1 cq1,.slice p2 n2 c2] 25 (0,0) (fun g=>by kernel_rfl) (fun g=>by kernel_rfl) (fun L g w hN hp=>(hp.own (b6,snO q1 m1 cq1 p2 n2 c2) (by simp)).2) kr kr
   ·exact D2.gv_ld (fun _ _ _ h=>h) 27 (.tmp 3) (fun _=>b1) 0 (blC b) 27 (0,0) (fun g=>by kernel_rfl) (fun g=>by kernel_rfl) (fun L g w hN hp=>(hp.own (b1,blO b) (by simp)).2) kr kr
   ·exact D2.gv_cpW (fun _ _ _ h=>h) 15 #[snV q1 m1 cq1 p2 n2 c2,blV b] (zbl q1 m1 cq1 p2 n2 c2 (zn (fun x=>aheadB x b) b V) b (by omega)) (fun L g w hN hp=>hrN.atF hp fun e he=>Q4 _ (Q4 _ (Q4 _ (Q4 _ (List.mem_append_right _ he))))) (fun L g w w' hN hp hb=>hp.call hb) (fun g w=>by kernel_rfl)
   ·exact D2.gv_valE (V':=.int .i64 (Qm.wrap (2*((zl b (zn (fun x=>aheadB x b) b V):Nat):Int)))) (fun _ _ _ h=>h) (fun g w=>by kernel_rfl) (zh (qk (a:=2) (b:=zl b (zn (fun x=>aheadB x b) b V)) (by omega)))
   ·exact D2.gv_val (fun _ _ _ h=>h) (fun g w=>by kernel_rfl)
   ·exact D2.gv_ld (fun _ _ _ h=>h) 22 (.tmp 30) (fun _=>b6) 0 #[.slice q1 m1 cq1,.slice p2 n2 c2] 25 (0,0) (fun g=>by kernel_rfl) (fun g=>by kernel_rfl) (fun L g w hN hp=>(hp.own (b6,snO q1 m1 cq1 p2 n2 c2) (by simp)).2) kr kr
   ·exact D2.gv_val (fun _ _ _ h=>h) (fun g w=>by kernel_rfl)
   ·exact D2.gv_valE (V':=.bool (decide (((2*zl b (zn (fun x=>aheadB x b) b V):Nat):Int)>(m1:Int)))) (fun _ _ _ h=>h) (fun g w=>by kernel_rfl) (za (by rw[Uj,decide_eq_true_iff,decide_eq_true_iff];omega))
   intro L9 g9 w11 _ H11;refine wW ?_;by_cases hmany:m1<2*zl b (zn (fun x=>aheadB x b) b V)
   ·refine qy 33 (v:=.bool (decide (m1<2*zl b (zn (fun x=>aheadB x b) b V)))) (v':=.bool true) (by rw[decide_eq_true hmany]) kr<|zy<|D2.g_draw0 [0,1,2,3,4] [(some 34,fun _=>snV q1 m1 cq1 p2 n2 c2),(some 35,fun _=>blV b),(some 36,fun _=>blV b),(some 37,fun y=>snG y),(none,fun _=>undef)]
     (D2.chn [3,4] fun j g ww=>match j with
      | 0=>St w.heap.size w ww ((b6,snO q1 m1 cq1 p2 n2 c2)::(b0,snO q m cq p n c)::(b1,blO b)::(b2,snO none 0 0 none 0 0)::(rL++rN))
      | 1=> ∃r1 r2,zz sS 9 (qG (g 3)) (g 3).n (g 3).cap r1 (yi L (zn (fun x=>aheadB x b) b V) b).1/\zz blS 27 (pG2 (g 3)) ((g 3).l.getD 3 0) ((g 3).l.getD 4 0) r2 (yi L (zn (fun x=>aheadB x b) b V) b).2/\St w.heap.size w ww ((b6,snO q1 m1 cq1 p2 n2 c2)::(b0,snO q m cq p n c)::(b1,blO b)::(b2,snO none 0 0 none 0 0)::(r1++r2))
      | _=> ∃r1 r2,zz sS 9 (qG (g 3)) (g 3).n (g 3).cap r1 (yi L (zn (fun x=>aheadB x b) b V) b).1/\zz blS 27 (pG2 (g 3)) ((g 3).l.getD 3 0) ((g 3).l.getD 4 0) r2 (yi L (zn (fun x=>aheadB x b) b V) b).2/\St w.heap.size w ww ((b6,snO (qG (g 3)) (g 3).n (g 3).cap (pG2 (g 3)) ((g 3).l.getD 3 0) ((g 3).l.getD 4 0))::(b0,snO q m cq p n c)::(b1,blO b)::(b2,snO none 0 0 none 0 0)::(r1++r2)))
     kr kr kr H11.drew ⟨?_,?_,?_,?_,?_,trivial⟩ ?_
    ·exact D2.gv_ld (fun _ _ _ h=>h) 25 (.tmp 6) (fun _=>b6) 0 #[.slice q1 m1 cq1,.slice p2 n2 c2] 25 (0,0) (fun g=>by kernel_rfl) (fun g=>by kernel_rfl) (fun L g w hN hp=>hp.getN 1 4 rfl (hN.post 4 kr) fun j hj h=>by
      match j,hj,h with
      | 0,_,h=>exact(h.own (b6,snO q1 m1 cq1 p2 n2 c2) (by simp)).2
      | 1,_,h=>exact(let ⟨_,_,_,_,hh⟩:=h;(hh.own (b6,snO q1 m1 cq1 p2 n2 c2) (by simp)).2)) kr kr
    ·exact D2.gv_ld (fun _ _ _ h=>h) 27 (.tmp 3) (fun _=>b1) 0 (blC b) 27 (0,0) (fun g=>by kernel_rfl) (fun g=>by kernel_rfl) (fun L g w hN hp=>hp.get fun j hj h=>by
      match j,h with
      | 0,h=>exact(h.own (b1,blO b) (by simp)).2
      | 1,h=>exact(let ⟨_,_,_,_,hh⟩:=h;(hh.own (b1,blO b) (by simp)).2)
      | _+2,h=>exact(let ⟨_,_,_,_,hh⟩:=h;(hh.own (b1,blO b) (by simp)).2)) kr kr
    ·exact D2.gv_cW (fun _ _ _ h=>h) 22 #[blV b] (kD b hb1 hb2) (fun L g w w' hN hp hb=>by
      revert hp;unfold D2.chn
      generalize D2.stg [3,4] L=j;intro hp
      match j,hp with
      | 0,h=>exact h.call hb
      | 1,h=>exact(let ⟨r1,r2,h1,h2,hh⟩:=h;⟨r1,r2,h1,h2,hh.call hb⟩)
      | _+2,h=>exact(let ⟨r1,r2,h1,h2,hh⟩:=h;⟨r1,r2,h1,h2,hh.call hb⟩)) (fun g w=>by kernel_rfl)
    ·refine D2.gv_chn 3 0 (fun L hN=>by
      have e3:=hN.1;have e4:=hN.post 4 kr
      exact⟨by (simp[D2.stg,e3,e4])<;>rfl,by (simp[D2.stg,D2.put1,e3,e4])<;>rfl⟩) fun g ww hq=>?_
     refine D2.run_cc (zbQ q1 m1 cq1 L p2 n2 c2 (zn (fun x=>aheadB x b) b V) b rL rN [(b6,snO q1 m1 cq1 p2 n2 c2),(b0,snO q m cq p n c),(b1,blO b),(b2,snO none 0 0 none 0 0)] hrL hrN (hq.perm (uM _ rL rN)) hsL (by omega) (by omega)) kr fun v w' hR=>?_;obtain⟨q',m',cq',p',n',c',r1,r2,rfl,h1,h2,hSt⟩:=hR;obtain⟨y,e1,e2,e3,e4,e5,e6⟩:=zbR h1 h2;subst e1 e2 e3 e4 e5 e6;exact⟨y,rfl,r1,r2,h1,h2,hSt.perm (uM [(b6,snO q1 m1 cq1 p2 n2 c2),(b0,snO q m cq p n c),(b1,blO b),(b2,snO none 0 0 none 0 0)] r1 r2).symm⟩
    ·refine D2.gv_chn 4 1 (fun L hN=>by
      have e4:=hN.1;have e3:=hN.bef 3 kr
      exact⟨by (simp[D2.stg,e3,e4])<;>rfl,by (simp[D2.stg,D2.put1,e3,e4])<;>rfl⟩) fun g ww hq=>?_
     obtain⟨r1,r2,h1,h2,hq⟩:=hq;exact D2.run_sto (t:=25) (x:=.tmp 6) (y:=.tmp 37) (C:=#[.slice q1 m1 cq1,.slice p2 n2 c2]) (C':=#[.slice (qG (g 3)) (g 3).n (g 3).cap,.slice (pG2 (g 3)) ((g 3).l.getD 3 0) ((g 3).l.getD 4 0)]) (T:=25) (off:=0) (b:=b6) (v:=snG (g 3)) kr kr kr kr kr (St.get hq 0 kr) (Qu kr) kr ⟨g 4,rfl,r1,r2,h1,h2,St.store (C:=#[.slice q1 m1 cq1,.slice p2 n2 c2]) (T:=25) hq 0 kr⟩
    intro L1 g w12 hall hp;have hq:=hp.fin (fun k hk=>hall k (by simp at hk;rcases hk with rfl | rfl<;>exact Qu kr));obtain⟨r1,r2,h1,h2,H12⟩:=hq;refine wW<|rS [.l 0,.s 3,.v] H12 kr fun gs13 w13 H13=>rRr [.cell 4 25,.tmp 5] [3] (.tuple #[snG (g 3),.int .i64 0]) (qD w.heap.size w (qc q m cq L p n c V (zs L V b))) H13 kr ?_;rw[<-xj,show yU L V b=((yi L (zn (fun x=>aheadB x b) b V) b).1,(yi L (zn (fun x=>aheadB x b) b V) b).2,0) by unfold yU;rw[if_neg (by rw[hr];decide),if_neg (by rw[hcb];decide),if_pos (by rw[hrL.len];exact hmany)]];exact⟨r1++r2,⟨qG (g 3),(g 3).n,(g 3).cap,pG2 (g 3),(g 3).l.getD 3 0,(g 3).l.getD 4 0,r1,r2,rfl,rfl,.inr h1,.inr h2⟩,(H13.as (l:=(b6,snO (qG (g 3)) (g 3).n (g 3).cap (pG2 (g 3)) ((g 3).l.getD 3 0) ((g 3).l.getD 4 0))::(b0,snO q m cq p n c)::(b1,blO b)::(b2,snO (qG (g 3)) (g 3).n (g 3).cap (pG2 (g 3)) ((g 3).l.getD 3 0) ((g 3).l.getD 4 0))::(r1++r2)) kr).sub (QA [_,_,_,_] _)⟩
   ·refine qy 33 (v:=.bool (decide (m1<2*zl b (zn (fun x=>aheadB x b) b V)))) (v':=.bool false) (by rw[decide_eq_false hmany]) kr<|zx<|wW<|rS [.l 0,.s 3,.v] H11 kr fun gs13 w13 H13=>rRr [.cell 4 25,.tmp 5] [3] (.tuple #[snV q1 m1 cq1 p2 n2 c2,.int .i64 0]) (qD w.heap.size w (qc q m cq L p n c V (zs L V b))) H13 kr ?_;rw[<-xj,show yU L V b=(L,(zn (fun x=>aheadB x b) b V),0) by unfold yU;rw[if_neg (by rw[hr];decide),if_neg (by rw[hcb];decide),if_neg (by rw[hrL.len];exact hmany)]];exact⟨rL++rN,⟨q1,m1,cq1,p2,n2,c2,rL,rN,rfl,rfl,.inr hrL,.inr hrN⟩,(H13.as (l:=(b6,snO q1 m1 cq1 p2 n2 c2)::(b0,snO q m cq p n c)::(b1,blO b)::(b2,snO q1 m1 cq1 p2 n2 c2)::(rL++rN)) kr).sub (QA [_,_,_,_] _)⟩
end
theorem zbT (q:Qc)(m cq:Nat)(p:Qc)(n c:Nat)(hq:qp q m cq)(hp:qp p n c):Fn Try.prog 7 #[snV q m cq p n c] (snV q (min m 20) cq p (min n 60) c):=by
 refine Fn.intro (c:=zu Try.f7) [.cell 2 25] 18 Try.func7 kr kr kr fun w=>rS [.b,.a] (St.start w) kr fun gs1 w1 H1=>dS [.v,.l 0,.v,.l 0,.v,.E (.int .i64 (if (20:Int)<(m:Int) then (20:Int) else (m:Int))) (iN (min m 20)) (zh (by split<;>omega)),.o (ins:=[((.tmp 4),.slice q m cq),((.tmp 8),iN (min m 20))]) (v:=.slice q (min m 20) cq) (fun ρ o w ho hi=>vw (t:=22) (e:=9) (size:=1) (bytes:=16) (kd:=.i64) kr (x:=(.tmp 4)) (y:=(.tmp 8)) hq (by omega) ho hi.1 hi.2.1 w),.v,.l 0,.v,.l 0,.v,.E (.int .i64 (if (60:Int)<(n:Int) then (60:Int) else (n:Int))) (iN (min n 60)) (zh (by split<;>omega)),.o (ins:=[((.tmp 11),.slice p n c),((.tmp 15),iN (min n 60))]) (v:=.slice p (min n 60) c) (fun ρ o w ho hi=>vw (t:=23) (e:=27) (size:=3) (bytes:=40) (kd:=.i64) kr (x:=(.tmp 11)) (y:=(.tmp 15)) hp (by omega) ho hi.1 hi.2.1 w),.v,.s 1] H1 kr fun w2 H2=>?_;exact rR [.cell 2 25] [1] (snV q (min m 20) cq p (min n 60) c) H2 kr
theorem zM.few {w:World}{L:Qi}{V:List Bal}{q:Qc}{m:Nat}{p:Qc}{n:Nat}(h:zM w L V q m p n):zM w (L.take 20) (V.take 60) q (min m 20) p (min n 60):=by
 have h1:=h.1.take (min m 20) (Nat.min_le_left _ _);have h2:=h.2.take (min n 60) (Nat.min_le_left _ _);have e1:L.take (min m 20)=L.take 20:=by
  rw[h.1.1];by_cases hl:L.length<=20
  ·rw[Rl hl,Qv (Qs _),Qv hl]
  ·rw[Nat.min_eq_right (by omega)]
 have e2:V.take (min n 60)=V.take 60:=by
  rw[h.2.1];by_cases hl:V.length<=60
  ·rw[Rl hl,Qv (Qs _),Qv hl]
  ·rw[Nat.min_eq_right (by omega)]
 rw[e1]at h1;rw[e2]at h2;exact⟨h1,h2⟩
section
open D2 (Gh)
theorem yW {q0 p0 q p:Qc}{m0 c0 n0 d0 m cq n c:Nat}{L0 L:Qi}{V0 V:List Bal}{A B T l:Qb}{b0:Nat}{w0 w:World}(hA:qU sS 9 q0 m0 c0 L0 q m cq A L)(hB:qU blS 27 p0 n0 d0 V0 p n c B V)(hT:T=A++B)(hS:St b0 w0 w l)(hl: ∀e∈T,e∈l)(h0:zM w L0 V0 q0 m0 p0 n0):zM w L V q m p n:=
 ⟨hA.at hS (fun e he=>hl e (by rw[hT];exact R1 _ he)) h0.1,hB.at hS (fun e he=>hl e (by rw[hT];exact List.mem_append_right _ he)) h0.2⟩
theorem zM.call {w w':World}{L:Qi}{V:List Bal}{q p:Qc}{m n:Nat}(h:zM w L V q m p n)(hb:Below w.heap.size w w'):zM w' L V q m p n:=⟨h.1.call hb,h.2.call hb⟩
section
variable {P:Program}{N:Nat}{c:Code}{Q:Exit->Env->World->Prop}{ρ:Env}{w:World}
end
def aS:Qa:=⟨#[97,97,97,97,97,97,97,97,97,97,97,97,97,97,97,97,97,97,97,97]⟩
def bS:Qa:=⟨#[98,98,98,98,98,98,98,98,98,98,98,98,98,98,98,98,98,98,98,98]⟩
theorem zbU:zs [aS] [] (aS,bS,true)=([aS,bS],[],0):=by decide+kernel
theorem zbV:yc [aS,bS] []=true:=by decide+kernel
theorem ja:Fn Try.prog 18 #[] (.bool true):=by
 refine Fn.intro (c:=zu Try.f18) [.tmp 0] 28 Try.func18 kr kr kr fun w=>?_;have hc:=fun bn=>jA (Qg bn) 1 1 [aS] none 0 0 [] (aS,bS,true) (by decide) (by decide);rw[zbU]at hc;refine rS [.v] (St.start w) kr fun gs1 w1 H1=>zp [0,1,2,3,4,5,6,7,8,9] kr kr<|qE H1 (some 4) (fun b=>Qf b 1 1) #[.string aS] 9 kr kr ?_;intro bn w2 H2;refine rp [.v,.v] H2 kr fun gs101 v1 K1=>wX [3,4,5,6,7,8,9] ?_;have K2:St w.heap.size w v1 ((bn,QB #[.string aS] 9 (0,0))::[]):=K1.as kr;refine qR K2 (some 7) 8 #[snV (Qg bn) 1 1 none 0 0,blV (aS,bS,true)] (hc bn) ⟨jv (S:=sS) (M:=[aS]) ⟨rfl,Qs _,by unfold maxLen;omega,rfl,rfl⟩ (St.get K2 0 rfl),⟨rfl,.inl rfl⟩⟩ kr kr ?_;rintro v T1 v2 ⟨q1,m1,cq1,p1,n1,c1,A1,B1,rfl,hT1,hA1,hB1⟩ K3;have K4:St w.heap.size w v2 ((bn,QB #[.string aS] 9 (0,0))::(T1++ [])):=K3.perm (QP [(bn,QB #[.string aS] 9 (0,0))] T1 []);refine rp [.v,.v,.v] K4 kr fun gs102 v3 K5=>wX [7,8,9] ?_;have K6:St w.heap.size w v3 ((bn,QB #[.string aS] 9 (0,0))::(T1++ [])):=K5.as kr;refine yu K6 (some 1) 25 (snV none 0 0 none 0 0) kr kr kr ?_;intro k1 v4 K7;refine rp [.s 0,.v] K7 kr fun gs103 v5 K8=>wX []<|zm<|wW ?_;have K9:St w.heap.size w v5 ((k1,snO q1 m1 cq1 p1 n1 c1)::(bn,QB #[.string aS] 9 (0,0))::(T1++ [])):=K8.as kr;have hs:zM v5 [aS,bS] [] q1 m1 p1 n1:=yW hA1 hB1 hT1 K9 (fun e he=>by simp[he]) ⟨jv (S:=sS) (M:=[aS]) ⟨rfl,Qs _,by unfold maxLen;omega,rfl,rfl⟩ (St.get K9 1 rfl),⟨rfl,.inl rfl⟩⟩;obtain rfl:m1=2:=hs.1.1;obtain rfl:n1=0:=hs.2.1;have hr:=ur q1 2 cq1 [aS,bS] p1 0 c1 [] (by decide) (by decide);rw[zbV]at hr;refine zp [0,1,2,3,4,5,6,7,8,9,10,11,12,13,14,15,16,17,18] kr kr<|rp [.v,.v,.v,.v,.l 0,.v,.v,.v,.v,.v,.l 0,.v,.v,.v,.v,.l 0] K9 kr fun gs104 v6 K10=>wX [16,17,18] ?_;have hs2:zM v6 [aS,bS] [] q1 2 p1 0:=yW hA1 hB1 hT1 (K10.as (l:=((k1,snO q1 2 cq1 p1 0 c1)::(bn,QB #[.string aS] 9 (0,0))::(T1++ []))) kr) (fun e he=>by simp[he]) ⟨jv (S:=sS) (M:=[aS]) ⟨rfl,Qs _,by unfold maxLen;omega,rfl,rfl⟩ (St.get (K10.as (l:=((k1,snO q1 2 cq1 p1 0 c1)::(bn,QB #[.string aS] 9 (0,0))::(T1++ []))) kr) 1 rfl),⟨rfl,.inl rfl⟩⟩;have K11:St w.heap.size w v6 ((k1,snO q1 2 cq1 p1 0 c1)::(bn,QB #[.string aS] 9 (0,0))::(T1++ [])):=K10.as kr;refine yF K11 (some 26) 11 #[snV q1 2 cq1 p1 0 c1] _ _ (hr) hs2 (fun w=>by kernel_rfl) kr ?_;intro v7 K12;refine rp [.v,.v] K12 kr fun gs105 v8 K13=>wX []<|zm<|wW ?_;exact rR [.tmp 0] [] (.bool true) K13 kr
theorem zbW (q:Qc)(m cq:Nat)(L:Qi)(p:Qc)(n c:Nat)(V:List Bal)(sl1:qp q m cq)(sl2:qp p n c)(a b:Bal):FnP Try.prog 6 #[snV q m cq p n c,blV a,blV b] (fun w=>zM w L V q m p n) (.bool true):=by
 refine FnP.intro (c:=zu Try.f6) [.tmp 6] 87 Try.func6 kr kr kr fun w hP=>?_;have hP0:=hP.few;have l1:(L.take 20).length<=20:=by rw[Qw];omega
 have l2:(V.take 60).length<=60:=by rw[Qw];omega
 have hf:=zbT q m cq p n c sl1 sl2;generalize L.take 20=L0 at hP0 l1;generalize V.take 60=V0 at hP0 l2;generalize min m 20=m0 at hP0 hf;generalize min n 60=n0 at hP0 hf;have hm0:=hP0.1.1;have hn0:=hP0.2.1;have H0:=St.start w;refine rS [.b,.b,.b,.v] H0 kr fun gs1 w1 H1=>rS [.l 0,.c hf,.s 0] H1 kr fun gs2 w2 H2=>?_;have H3:St w.heap.size w w2 [((gs1 0).b,snO q m0 cq p n0 c),((gs1 1).b,blO a),((gs1 2).b,blO b)]:=H2.as kr;generalize (gs1 0).b=b3 at*;generalize (gs1 1).b=b4 at*;generalize (gs1 2).b=b5 at*;refine jS [(3,Qe b3),(4,Qe b4),(5,Qe b5)] kr fun ρ0=>?_;clear H0 H1 H2;have hxl:=vK L0 V0 a;have hyl:=vK L0 V0 b;have hc1:=jA q m0 cq L0 p n0 c V0 a (by omega) (by omega);have hc2:=jA q m0 cq L0 p n0 c V0 b (by omega) (by omega);have hord:= @zbe L0 V0 a b;generalize hx:zs L0 V0 a=xr at hc1 hxl hord;obtain⟨xL,xV,xe⟩:=xr;generalize hy:zs L0 V0 b=yr at hc2 hyl hord;obtain⟨yL,yV,ye⟩:=yr;change xL.length<=L0.length+1/\xV.length<=V0.length+1 at hxl;change yL.length<=L0.length+1/\yV.length<=V0.length+1 at hyl;refine zp [0,1,2,3,4,5,6,7,8] kr kr<|rp [.l 0,.l 1] H3 kr fun gs101 v1 K1=>wX [2,3,4,5,6,7,8] ?_;have K2:St w.heap.size w v1 ((b3,snO q m0 cq p n0 c)::(b4,blO a)::(b5,blO b)::[]):=K1.as kr;refine qR K2 (some 20) 8 #[snV q m0 cq p n0 c,blV a] (hc1) (hP0.call K2.below) kr kr ?_;rintro v T1 v2 ⟨q1,m1,cq1,p1,n1,c1,A1,B1,rfl,hT1,hA1,hB1⟩ K3;have K4:St w.heap.size w v2 ((b3,snO q m0 cq p n0 c)::(b4,blO a)::(b5,blO b)::(T1++ [])):=K3.perm (QP [(b3,snO q m0 cq p n0 c),(b4,blO a),(b5,blO b)] T1 []);refine rp [.v,.v,.v] K4 kr fun gs102 v3 K5=>wX [6,7,8] ?_;have K6:St w.heap.size w v3 ((b3,snO q m0 cq p n0 c)::(b4,blO a)::(b5,blO b)::(T1++ [])):=K5.as kr;refine yu K6 (some 7) 25 (snV none 0 0 none 0 0) kr kr kr ?_;intro k1 v4 K7;refine rp [.s 0,.v] K7 kr fun gs103 v5 K8=>wX []<|zm<|wW ?_;have K9:St w.heap.size w v5 ((k1,snO q1 m1 cq1 p1 n1 c1)::(b3,snO q m0 cq p n0 c)::(b4,blO a)::(b5,blO b)::(T1++ [])):=K8.as kr;refine zp [0,1,2,3,4,5,6,7,8] kr kr<|rp [.l 1,.l 3] K9 kr fun gs104 v6 K10=>wX [2,3,4,5,6,7,8] ?_;have K11:St w.heap.size w v6 ((k1,snO q1 m1 cq1 p1 n1 c1)::(b3,snO q m0 cq p n0 c)::(b4,blO a)::(b5,blO b)::(T1++ [])):=K10.as kr;refine qR K11 (some 26) 8 #[snV q m0 cq p n0 c,blV b] (hc2) (hP0.call K11.below) kr kr ?_;rintro v T2 v7 ⟨q2,m2,cq2,p2,n2,c2,A2,B2,rfl,hT2,hA2,hB2⟩ K12;have K13:St w.heap.size w v7 ((k1,snO q1 m1 cq1 p1 n1 c1)::(b3,snO q m0 cq p n0 c)::(b4,blO a)::(b5,blO b)::(T2++(T1++ []))):=K12.perm (QP [(k1,snO q1 m1 cq1 p1 n1 c1),(b3,snO q m0 cq p n0 c),(b4,blO a),(b5,blO b)] T2 (T1++ []));refine rp [.v,.v,.v] K13 kr fun gs105 v8 K14=>wX [6,7,8] ?_;have K15:St w.heap.size w v8 ((k1,snO q1 m1 cq1 p1 n1 c1)::(b3,snO q m0 cq p n0 c)::(b4,blO a)::(b5,blO b)::(T2++(T1++ []))):=K14.as kr;refine yu K15 (some 9) 25 (snV none 0 0 none 0 0) kr kr kr ?_;intro k2 v9 K16;refine rp [.s 0,.v] K16 kr fun gs106 v10 K17=>wX []<|zm<|wW ?_;have K18:St w.heap.size w v10 ((k2,snO q2 m2 cq2 p2 n2 c2)::(k1,snO q1 m1 cq1 p1 n1 c1)::(b3,snO q m0 cq p n0 c)::(b4,blO a)::(b5,blO b)::(T2++(T1++ []))):=K17.as kr;have hs1:zM v10 xL xV q1 m1 p1 n1:=yW hA1 hB1 hT1 K18 (fun e he=>by simp[he]) (hP0.call K18.below);have hs2:zM v10 yL yV q2 m2 p2 n2:=yW hA2 hB2 hT2 K18 (fun e he=>by simp[he]) (hP0.call K18.below);have hm1:m1=xL.length:=hs1.1.1;have hm2:m2=yL.length:=hs2.1.1;refine zf kr ?_;by_cases h1:xe=0
 case neg=>
  refine rS [.v,.E (.bool ((xe:Int)!=0)) (.bool true) (za (bne_iff_ne.2 (by omega))),.v,.n,.n,.v,.v,.n,.n,.n,.n,.n,.v,.v,.n,.n,.n,.n,.n,.n,.n,.v,.v,.n,.n,.n,.n,.n,.n,.n,.v] K18 kr fun gs107 v11 K19=>zy<|rS [.c ja,.v] K19 kr fun gs108 v12 K20=>?_;exact rR [.tmp 6] [] (.bool true) K20 kr
 subst h1;by_cases h2:ye=0
 case neg=>
  refine rS [.v,.v,.v,.v,.E (.bool ((ye:Int)!=0)) (.bool true) (za (bne_iff_ne.2 (by omega))),.v,.v,.n,.n,.n,.n,.n,.v,.v,.n,.n,.n,.n,.n,.n,.n,.v,.v,.n,.n,.n,.n,.n,.n,.n,.v] K18 kr fun gs107 v11 K19=>zy<|rS [.c ja,.v] K19 kr fun gs108 v12 K20=>?_;exact rR [.tmp 6] [] (.bool true) K20 kr
 subst h2;by_cases h3:a.2.1=b.2.1
 case pos=>
  refine rS [.v,.v,.v,.v,.v,.v,.v,.v,.l 3,.v,.l 4,.E (.bool (a.2.1.toList==b.2.1.toList)) (.bool true) (za (yH _ _ h3)),.v,.v,.n,.n,.n,.n,.n,.n,.n,.v,.v,.n,.n,.n,.n,.n,.n,.n,.v] K18 kr fun gs107 v11 K19=>zy<|rS [.c ja,.v] K19 kr fun gs108 v12 K20=>?_;exact rR [.tmp 6] [] (.bool true) K20 kr
 by_cases h4:xL.length=L0.length
 case neg=>
  refine rS [.v,.v,.v,.v,.v,.v,.v,.v,.l 3,.v,.l 4,.E (.bool (a.2.1.toList==b.2.1.toList)) (.bool false) (za (yp _ _ h3)),.v,.v,.v,.l 1,.v,.v,.l 2,.v,.E (.bool ((m1:Int)!=(m0:Int))) (.bool true) (za (bne_iff_ne.2 (by omega))),.v,.v,.n,.n,.n,.n,.n,.n,.n,.v] K18 kr fun gs107 v11 K19=>zy<|rS [.c ja,.v] K19 kr fun gs108 v12 K20=>?_;exact rR [.tmp 6] [] (.bool true) K20 kr
 by_cases h5:yL.length=L0.length
 case neg=>
  refine rS [.v,.v,.v,.v,.v,.v,.v,.v,.l 3,.v,.l 4,.E (.bool (a.2.1.toList==b.2.1.toList)) (.bool false) (za (yp _ _ h3)),.v,.v,.v,.l 1,.v,.v,.l 2,.v,.E (.bool ((m1:Int)!=(m0:Int))) (.bool false) (za (by rw[show m1=m0 by omega];exact bne_self_eq_false' _)),.v,.v,.v,.l 0,.v,.v,.l 2,.v,.E (.bool ((m2:Int)!=(m0:Int))) (.bool true) (za (bne_iff_ne.2 (by omega))),.v] K18 kr fun gs107 v11 K19=>zy<|rS [.c ja,.v] K19 kr fun gs108 v12 K20=>?_;exact rR [.tmp 6] [] (.bool true) K20 kr
 refine rS [.v,.v,.v,.v,.v,.v,.v,.v,.l 3,.v,.l 4,.E (.bool (a.2.1.toList==b.2.1.toList)) (.bool false) (za (yp _ _ h3)),.v,.v,.v,.l 1,.v,.v,.l 2,.v,.E (.bool ((m1:Int)!=(m0:Int))) (.bool false) (za (by rw[show m1=m0 by omega];exact bne_self_eq_false' _)),.v,.v,.v,.l 0,.v,.v,.l 2,.v,.E (.bool ((m2:Int)!=(m0:Int))) (.bool false) (za (by rw[show m2=m0 by omega];exact bne_self_eq_false' _)),.v] K18 kr fun gs107 v11 K19=>zQ kr kr<|zT kr<|wW ?_;obtain⟨o1,o2⟩:=hord rfl rfl h3 h4 h5;change zs xL xV b=(L0,zj b (zj a V0),0)at o1;change zs yL yV a=(L0,zj b (zj a V0),0)at o2;have hz1:=xY a V0;have hz2:=xY b (zj a V0);have hc3:=jA q1 m1 cq1 xL p1 n1 c1 xV b (by omega) (by omega);have hc4:=jA q2 m2 cq2 yL p2 n2 c2 yV a (by omega) (by omega);rw[o1]at hc3;rw[o2]at hc4;generalize zj b (zj a V0)=Z at hc3 hc4 hz2;refine zp [0,1,2,3,4,5,6,7,8] kr kr<|rp [.l 1,.l 4] K19 kr fun gs108 v12 K20=>wX [2,3,4,5,6,7,8] ?_;have K21:St w.heap.size w v12 ((k2,snO q2 m2 cq2 p2 n2 c2)::(k1,snO q1 m1 cq1 p1 n1 c1)::(b3,snO q m0 cq p n0 c)::(b4,blO a)::(b5,blO b)::(T2++(T1++ []))):=K20.as kr;refine qR K21 (some 64) 8 #[snV q1 m1 cq1 p1 n1 c1,blV b] (hc3) (yW hA1 hB1 hT1 K21 (fun e he=>by simp[he]) (hP0.call K21.below)) kr kr ?_;rintro v T3 v13 ⟨q3,m3,cq3,p3,n3,c3,A3,B3,rfl,hT3,hA3,hB3⟩ K22;have K23:St w.heap.size w v13 ((k2,snO q2 m2 cq2 p2 n2 c2)::(k1,snO q1 m1 cq1 p1 n1 c1)::(b3,snO q m0 cq p n0 c)::(b4,blO a)::(b5,blO b)::(T3++(T2++(T1++ [])))):=K22.perm (QP [(k2,snO q2 m2 cq2 p2 n2 c2),(k1,snO q1 m1 cq1 p1 n1 c1),(b3,snO q m0 cq p n0 c),(b4,blO a),(b5,blO b)] T3 (T2++(T1++ [])));refine rp [.v,.v,.v] K23 kr fun gs109 v14 K24=>wX [6,7,8] ?_;have K25:St w.heap.size w v14 ((k2,snO q2 m2 cq2 p2 n2 c2)::(k1,snO q1 m1 cq1 p1 n1 c1)::(b3,snO q m0 cq p n0 c)::(b4,blO a)::(b5,blO b)::(T3++(T2++(T1++ [])))):=K24.as kr;refine yu K25 (some 11) 25 (snV none 0 0 none 0 0) kr kr kr ?_;intro k3 v15 K26;refine rp [.s 0,.v] K26 kr fun gs110 v16 K27=>wX []<|zm<|wW ?_;have K28:St w.heap.size w v16 ((k3,snO q3 m3 cq3 p3 n3 c3)::(k2,snO q2 m2 cq2 p2 n2 c2)::(k1,snO q1 m1 cq1 p1 n1 c1)::(b3,snO q m0 cq p n0 c)::(b4,blO a)::(b5,blO b)::(T3++(T2++(T1++ [])))):=K27.as kr;refine zp [0,1,2,3,4,5,6,7,8] kr kr<|rp [.l 1,.l 4] K28 kr fun gs111 v17 K29=>wX [2,3,4,5,6,7,8] ?_;have K30:St w.heap.size w v17 ((k3,snO q3 m3 cq3 p3 n3 c3)::(k2,snO q2 m2 cq2 p2 n2 c2)::(k1,snO q1 m1 cq1 p1 n1 c1)::(b3,snO q m0 cq p n0 c)::(b4,blO a)::(b5,blO b)::(T3++(T2++(T1++ [])))):=K29.as kr;refine qR K30 (some 70) 8 #[snV q2 m2 cq2 p2 n2 c2,blV a] (hc4) (yW hA2 hB2 hT2 K30 (fun e he=>by simp[he]) (hP0.call K30.below)) kr kr ?_;rintro v T4 v18 ⟨q4,m4,cq4,p4,n4,c4,A4,B4,rfl,hT4,hA4,hB4⟩ K31;have K32:St w.heap.size w v18 ((k3,snO q3 m3 cq3 p3 n3 c3)::(k2,snO q2 m2 cq2 p2 n2 c2)::(k1,snO q1 m1 cq1 p1 n1 c1)::(b3,snO q m0 cq p n0 c)::(b4,blO a)::(b5,blO b)::(T4++(T3++(T2++(T1++ []))))):=K31.perm (QP [(k3,snO q3 m3 cq3 p3 n3 c3),(k2,snO q2 m2 cq2 p2 n2 c2),(k1,snO q1 m1 cq1 p1 n1 c1),(b3,snO q m0 cq p n0 c),(b4,blO a),(b5,blO b)] T4 (T3++(T2++(T1++ []))));refine rp [.v,.v,.v] K32 kr fun gs112 v19 K33=>wX [6,7,8] ?_;have K34:St w.heap.size w v19 ((k3,snO q3 m3 cq3 p3 n3 c3)::(k2,snO q2 m2 cq2 p2 n2 c2)::(k1,snO q1 m1 cq1 p1 n1 c1)::(b3,snO q m0 cq p n0 c)::(b4,blO a)::(b5,blO b)::(T4++(T3++(T2++(T1++ []))))):=K33.as kr;refine yu K34 (some 13) 25 (snV none 0 0 none 0 0) kr kr kr ?_;intro k4 v20 K35;refine rp [.s 0,.v] K35 kr fun gs113 v21 K36=>wX []<|zm<|wW ?_;have K37:St w.heap.size w v21 ((k4,snO q4 m4 cq4 p4 n4 c4)::(k3,snO q3 m3 cq3 p3 n3 c3)::(k2,snO q2 m2 cq2 p2 n2 c2)::(k1,snO q1 m1 cq1 p1 n1 c1)::(b3,snO q m0 cq p n0 c)::(b4,blO a)::(b5,blO b)::(T4++(T3++(T2++(T1++ []))))):=K36.as kr;refine zp [0,1,2,3,4,5,6,7,8,9,10,11,12,13,14] kr kr<|rp [.c ja,.v,.v,.v,.v,.v,.v,.v,.v,.v,.l 1,.l 0] K37 kr fun gs114 v22 K38=>wX [12,13,14] ?_;have K39:St w.heap.size w v22 ((k4,snO q4 m4 cq4 p4 n4 c4)::(k3,snO q3 m3 cq3 p3 n3 c3)::(k2,snO q2 m2 cq2 p2 n2 c2)::(k1,snO q1 m1 cq1 p1 n1 c1)::(b3,snO q m0 cq p n0 c)::(b4,blO a)::(b5,blO b)::(T4++(T3++(T2++(T1++ []))))):=K38.as kr;refine yF K39 (some 85) 17 #[snV q3 m3 cq3 p3 n3 c3,snV q4 m4 cq4 p4 n4 c4] _ _ (zaW q3 m3 cq3 L0 p3 n3 c3 Z q4 m4 cq4 L0 p4 n4 c4 Z true ⟨fun _=>⟨rfl,rfl⟩,fun _=>rfl⟩ (by omega) (by omega)) ⟨yW hA3 hB3 hT3 K39 (fun e he=>by simp[he]) (yW hA1 hB1 hT1 K39 (fun e he=>by simp[he]) (hP0.call K39.below)),yW hA4 hB4 hT4 K39 (fun e he=>by simp[he]) (yW hA2 hB2 hT2 K39 (fun e he=>by simp[he]) (hP0.call K39.below))⟩ (fun w=>by kernel_rfl) kr ?_;intro v23 K40;refine rp [.v,.v] K40 kr fun gs115 v24 K41=>wX []<|zm<|wW ?_;exact rR [.tmp 6] [] (.bool true) K41 kr
end
end Go.Proofs.Ytdlllbaejgoncaa
