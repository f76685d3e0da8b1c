/-
  Texts of the proof,part 2.
-/
import Derived.Lib.AppendZeros
import Derived.Lib.Overlaps
import Derived.Scope
import Derived.Deep.Upon
import Derived.Test.YtdaeahhkiilbaaaRows
import Derived.ChangeArms
import Derived.ChangeSlices
import Derived.OpenShut
import Derived.Deep.Strs
import Derived.DataReads
import Derived.ProofKit
import Derived.WalkKit
import Derived.Below
import Derived.KernelRfl
import Derived.Test.YtdaeahhkiilbaaaProg
import Derived.Handy
import Derived.WalkLawsBesides
import Derived.Shelf.Spec.BitsCarry
import Derived.Shelf.Bits.Mul64
import Derived.Laws.Bits64b
import Derived.Lib.BitFns
import Derived.Shelf.Strconv.Itoa0
import Derived.Lib.Hide
import Derived.Laws.StructEq
import Derived.ChangeKeysEq
import Derived.Test.YtdaeahhkiilbaaaChecked
import Derived.Laws.IdiomArrays
import Derived.Lib.AppendStr
import Derived.Lib.Builder
import Derived.Recover
import Derived.Laws.BitsLemmas
import Derived.Laws.BitsAllLaws
import Derived.Laws.BytesArg
import Derived.Laws.Externs
import Derived.Test.YtdaeahhkiilbaaaVN1
set_option maxRecDepth 100000
set_option maxHeartbeats 4000000
set_option linter.unusedVariables false
open Go Go.RowKit
open Bool renaming eq_false_or_eq_true->RL,eq_iff_iff->RQ
open Builtin renaming zeroCells->Q9
open DataW renaming trod->QC,trod_int->Ul
open Instr renaming sliceBounds->Uk,sliceBound->Uu,sliceAt->UN,slice->UW,index->Vb
open Int renaming eq_ofNat_of_zero_le->Rk,natCast_mul->Uh,mul_add->UJ,natCast_pow->UU,mul_assoc->U3,tmod->Vi
open IntKind renaming u8->R0
open Lib renaming hid->Ui
open List renaming getD->Qm,length->Qr,length_append->Qz,drop_of_length_le->QD,sublist_cons_self->QE,getElem?_eq_none->QK,append_assoc->QX,length_cons->Rg,mem_singleton->Rz,length_drop->RU,size_toArray->UG,mem_append->UH,toList_toArray->U8,take_append->Vm
open List.Sublist renaming cons_cons->QA,cons->Rs,slnil->R4
open Nat renaming beq->Qx,zero_le->QO,mod_eq_of_lt->QZ,mod_lt->RD,add_zero->RF,mul_zero->UB,lt_irrefl->UC,mul_add->UK,add_mod_right->UL,mul_le_mul_left->U1,pow_succ->U9,mul_one->Vt
open Op renaming bytesLess->Rv,equalIn->UR
open UInt8 renaming ofNat->Vc
open Value renaming cells->Qk
open _root_.Array renaming length_toList->QN
open _root_.Bool renaming and_eq_true->Qo,false_eq_true->RG,not_false->U2
open _root_.ByteArray renaming size->Qy
open _root_.Go.IntKind renaming i64->Qn,u64->Ur,wrap_u64->U7
open _root_.Go.Obj renaming cells->Qj
open _root_.Go.Oper renaming upon_value->Rn
open _root_.Go.Region renaming wanted->QF
open _root_.Go.Result renaming andThen_ok->QG
open _root_.Go.Sem renaming run_bind->QW,run_pure->R9
open _root_.Go.Value renaming bool->Rj,int->Ve
open _root_.List renaming getElem?_eq_getElem->Ql,take_of_length_le->Qp,length_take->Qt,getElem?_eq_some_iff->Qv,range->QL,map_cons->QT,mem_map->Rx,map_toArray->RT,map_nil->R7,take_take->Up
open _root_.Nat renaming eq_of_beq_eq_true->Qq,le_refl->Qu,le_of_ble_eq_true->Qw,zero_add->QB,mul_le_mul_right->Q0,beq_refl->Rd,min_eq_left->Ri,lt_or_ge->RP,lt_trichotomy->R6
namespace Go.Proofs.Ytdaeahhkiilbaaa
namespace D2
section
variable {P:Program}{ops:Array Oper}{R:(Nat->Gh)->Env}{d:Option Nat}
theorem gv_cW {pre:(Nat->Bool)->(Nat->Gh)->World->Prop}{i:Nat}{V:Value}(hs: ∀L g w,pre L g w->pre (put1 L i) g w)(f:Nat)(args:Qd)(hc:Fn P f args V)(hb: ∀L g w w',Now ops i L->pre L g w->Below w.heap.size w w'->pre L g w')(h: ∀g w,opv P ops i (R g) w=some (d,true,.ok (.enter f args) w)):Gives P ops R pre i d (fun _=>V):=
 gv_cpW hs f args (pr:=fun _=>True) (fun w _=>hc w) (fun _ _ _ _ _=>trivial) hb h
variable {B:Nat}{w0:World}{E row:Qb}{Y:Qd}{ty:TypeId}{n:Nat}{K:Nat}{xs:List Value}
end
end D2
section
variable {α:Type}{S:Fl α}
theorem qE.at {C:Qd}{off:Nat}{L:List α}(h:qE S C off L){q:Nat}{u:Value}(hq:(cellsF S L)[q]? =some u):C[off+q]? =some u:=by
 have hlt:=(Qv.1 hq).1;rw[yv]at hlt;have hK:=S.pos;have hi:q / S.K<L.length:=(Nat.div_lt_iff_lt_mul hK).2 hlt;obtain⟨x,hx⟩:∃x,L[q / S.K]? =some x:=⟨_,Ql hi⟩
 have hj:=RD q hK;have e:q / S.K*S.K+q%S.K=q:=Nat.div_add_mod' q S.K;have h1:=vP L _ x hx (q%S.K) hj;have h2:=h.cell hx (q%S.K) hj;rw[e]at h1;rw[Nat.add_assoc,e]at h2;rw[h2,<-h1,hq]
variable {P:Program}{ρ:Env}{w w0:World}{B:Nat}{l:Qb}
theorem zdo (HS:St B w0 w l){t e bytes:Nat}{s x:Operand}{o:Oper}{j b n cap m c:Nat}{a:Addr}{cur:Qd}{xs:List Value}{M:List α}(ht:yh P t=some (e,S.K,bytes))(ho:o.op=yF t s x)
 (hs:ev ρ s=Qf b n cap) (hj:l[j]? =some (b,.cells cur e)) (hr:Rw S.K cur cap n xs) (hx:ev ρ x=.slice (some a) m c) (hM:m=M.length)
 (hk:M=[]\/∃bx off C T fz,a=⟨bx,off,none⟩/\w.heap[bx]? =some (.cells C T fz)/\qE S C off M)
 (hb:(n+m)*bytes<=0x800000000000) (hm:n+m<=maxLen):∃b' cap' cur' w',(execOp (ev ρ) o).run P w=.ok (.value (Qf b' (n+m) cap')) w'/\St B w0 w' (l.set j (b',.cells cur' e))/\Rw S.K cur' cap' (n+m) (xs++cellsF S M):=by
 obtain⟨it,z,hu,hi,hz,hsz,hby,hzs,h0⟩:=yX ht;have hnews: ∀q u,(cellsF S M)[q]? =some u->w.cell? (a.add q)=some u:=fun q u hq=>by
  rcases hk with rfl|⟨bx,off,C,T,fz,rfl,hh,hR⟩
  ·simp[cellsF]at hq
  ·rw[qn];simp[World.cell?,hh,hR.at hq]
 obtain⟨v',w',hrun,hown,hgr,hnil,hblk⟩:=run_append_own_at (P:=P) w B t o.type e it z S.K bytes hu hi hz hsz hby hzs h0 _ n xs (hr.owns (HS.ge j hj) (HS.get j hj)) a m c (cellsF S M) (by rw[yv,hM]) hnews (kD M) hm hb HS.le;have hown':=hown;rcases hown'.2 with⟨hv,_⟩|⟨g,cap',cur',rfl,hbg,hg,hnc,hcm,hcs,htk⟩
 ·exact absurd (hnil.1 hv).1 (by simp)
 ·have hgb:g=b\/g=w.heap.size:=by
   rcases hblk with hq|hq
   ·left;injection hq
   ·right;injection hq
  refine⟨g,cap',cur',w',?_,HS.grown j hj hgr hgb hg,?_⟩
  ·unfold execOp;simp only[ho,yF,resolve,invoke,builtin,QW,R9,QG,RT,QT,R7,hs,hx,hrun]
  ·exact⟨hown.1,hnc,hcm,htk,hcs⟩
variable {N:Nat}{ops:Array Oper}{i:Nat}{r:List Nat}{K:Env->World->Prop}
end
def pG (y:D2.Gh):Qc:=match y.l with
 | []=>none
 | _=>some ⟨y.b,0,none⟩
theorem zdp {α:Type}{S:Fl α}{ty:TypeId}{p:Qc}{n c:Nat}{T:Qb}{L:List α}(h:zv S ty p n c T L):∃x:D2.Gh,Value.slice p n c=.slice (pG x) x.n x.cap/\zv S ty (pG x) x.n x.cap T L:=by
 rcases h with⟨rfl,rfl,rfl,rfl,rfl⟩|⟨b,cur,rfl,rfl,hr⟩
 ·exact⟨{ n:=0,cap:=0 },rfl,.inl ⟨rfl,rfl,rfl,rfl,rfl⟩⟩
 ·exact⟨{ b:=b,n:=n,cap:=c,l:=[1] },rfl,.inr ⟨b,cur,rfl,rfl,hr⟩⟩
def zm (C:Qd)(o:Nat)(vs:List Value):Qd:=(C.toList.take o++vs++C.toList.drop (o+vs.length)).toArray
theorem yZ {C:Qd}{o:Nat}{vs:List Value}(h:o+vs.length<=C.size):(zm C o vs).size=C.size:=by
 unfold zm;rw[UG,Qz,Qz,Qt,RU,QN];omega
theorem zaC {C:Qd}{o:Nat}{vs:List Value} :(zm C o vs).toList=C.toList.take o++vs++C.toList.drop (o+vs.length):=rfl
theorem jl {C:Qd}{o:Nat}{vs:List Value}{m:Nat}(h:o+vs.length<=C.size)(hm:o+vs.length<=m):(zm C o vs).toList.take m=C.toList.take o++vs++(C.toList.take m).drop (o+vs.length):=by
 rw[zaC];have e1:(C.toList.take o).length=o:=by rw[Qt,QN];omega
 have e2:(C.toList.take o++vs).length=o+vs.length:=by rw[Qz,e1]
 rw[Vm,e2,Qp (by rw[e2];exact hm),List.drop_take]
theorem xE {C:Qd}{o:Nat}{vs:List Value}{m:Nat}(h:o<=C.size)(hm:m<=o):(zm C o vs).toList.take m=C.toList.take m:=by
 rw[zaC,QX,List.take_append_of_le_length (by rw[Qt,QN];omega),Up,Ri hm]
section
variable {P:Program}{w w0:World}
theorem zdq (dT sT ty e size:Nat)(hu:P.underlying dT=some (.slice e))(hs:(P.info? e).map (·.size)=some size)(g o dLen dCap:Nat)(a:Addr)(sLen sCap:Nat)(cur:Qd)(t:TypeId)(cs:List Value)
 (hg:w.heap[g]? =some (.cells cur t)) (hn:cs.length=Nat.min sLen dLen*size)
 (hsrc: ∀j v,cs[j]? =some v->w.cell? (a.add j)=some v) (hfit:o+cs.length<=cur.size) (h1: ∀v∈cs,v.oneCell'=true):
 (Builtin.copy_ #[dT,sT] ty #[.slice (some ⟨g,o,none⟩) dLen dCap,.slice (some a) sLen sCap]).run P w=.ok (.int .i64 ((Nat.min sLen dLen:Nat):Int)) (w.setRow g (zm cur o cs)):=by
 have hl:=run_loadCells_list (P:=P) w a cs hsrc;have hst:=run_storeCells_at P g o t cs 0 cur w hg (by simpa using hfit) h1;cases hq:P.info? e with
 | none=>simp[hq]at hs
 | some i=>
  have hi:i.size=size:=by simpa [hq] using hs
  simp[Builtin.copy_,run_underlying hu,Builtin.lenOf,Builtin.firstCells,sizeOf,typeInfo,hq,hi,<-hn,hl,hst];exact⟨rfl,by unfold zm;rw[QX]⟩
theorem zdr (t tn ty e:TypeId)(i:TypeInfo)(z:Value)(kn k:IntKind)(ht:P.underlying t=some (.slice e))(htn:P.underlying tn=some (.int kn))(hi:P.info? e=some i)(hz:i.zero=some z)
 (b:Addr) (sLen sCap:Nat) (olds:List Value) (hlo:olds.length=sLen*i.size) (holds: ∀j v,olds[j]? =some v->w.cell? (b.add j)=some v)
 (n:Nat) (h0:0<n) (hs:0<i.size) (hg:sCap<sLen+n) (h63:((sLen+n:Nat):Int)<=0x7fffffffffffffff) (h48:n*i.bytes<=281474976710656) (hfit:Builtin.nextslicecap (sLen+n) sCap*i.bytes<=281474976710656):
 (Builtin.append_ #[t,tn] ty #[.slice (some b) sLen sCap,.int k n]).run P w=
  .ok (Qf w.heap.size (sLen+n) (grownCap w (sLen+n) sCap e))
   (w.drew.alloc (.cells (olds.toArray++Q9 z.cells n++Q9 z.cells (grownCap w (sLen+n) sCap e-(sLen+n))) e)):=by
 have hn: ¬(sLen+n<=sCap):=by omega
 have hn0:n≠0:=by omega
 have hw:Qn.wrap (n:Int)=n:=by rw[IntKind.wrap_i64];omega
 have h63': ¬(0x7fffffffffffffff<((sLen:Int)+(n:Int))):=by omega
 have h48': ¬(281474976710656<Builtin.nextslicecap (sLen+n) sCap*i.bytes):=by omega
 have h48i: ¬(281474976710656<(n:Int)*(i.bytes:Int)):=by
  rw[<-Uh];omega
 have hneg: ¬((n:Int)<0):=by omega
 have hns: ¬(n*i.size=0):=Nat.mul_ne_zero hn0 (by omega);have hfo:=run_firstCells_some (P:=P) w.drew i.size sLen b sLen sCap olds hlo (by simpa using holds);simp[Builtin.append_,run_underlying ht,run_underlying htn,sizeOf,typeInfo,zeroValue,hi,hz,asInt,asIntOf,hw,hn,hn0,hneg,hns,h63',h48',h48i,Question.forced,hfo,newRow,grownCap]
theorem vQ (z:Qd)(n:Nat):(Q9 z n).size=n*z.size:=by unfold Q9;simp
theorem zds (t ty e size:Nat)(it:TypeInfo)(z:Value)(ht:P.underlying t=some (.slice e))(hi:P.info? e=some it)(hz:it.zero=some z)(hzs:z.cells.size=size)(h1z: ∀v∈z.cells.toList,v.oneCell'=true)(hz0:0<size)
 (g o n c:Nat) (cur:Qd) (T:TypeId) (hg:w.heap[g]? =some (.cells cur T)) (hn:0<n) (hfit:o+n*size<=cur.size):
 (Builtin.clear_ #[t] ty #[.slice (some ⟨g,o,none⟩) n c]).run P w=.ok (.tuple #[]) (w.setRow g (zm cur o (Q9 z.cells n).toList)):=by
 have hl:(Q9 z.cells n).toList.length=n*size:=by rw[QN,vQ,hzs]
 have h1: ∀v∈(Q9 z.cells n).toList,v.oneCell'=true:=fun v hv=>by
  unfold Q9 at hv;rw[Array.toList_map,Rx]at hv;obtain⟨i,_,rfl⟩:=hv;refine h1z _ ?_;have hlt:i%z.cells.size<z.cells.size:=RD _ (by omega);rw[getElem!_pos z.cells _ hlt];exact Array.getElem_mem_toList hlt
 have hst:=run_storeCells_at P g o T (Q9 z.cells n).toList 0 cur w hg (by rw[hl];simpa using hfit) h1;obtain⟨m,rfl⟩:∃m,n=m+1:=⟨n-1,by omega⟩
 simp[Builtin.clear_,run_underlying ht,zeroValue,typeInfo,hi,hz]at hst⊢;rw[hst];unfold zm;rw[QX,QN];rfl
end
section
variable {P:Program}{N:Nat}{ops:Array Oper}{i:Nat}{r:List Nat}{K:Env->World->Prop}{ρ:Env}{w:World}{B:Nat}{w0:World}{l:Qb}
theorem zaD (HS:St B w0 w l)(d:Option Nat)(t tn e size bytes:Nat)(kn:IntKind)(x y:Operand)(j b n cap m:Nat)(cur:Qd)(xs:List Value)
 (h:opk ops i ρ=some (d,true,.call { callee:=.builtin .append,args:=#[x,y],argTypes:=#[t,tn] })) (hd:dOK d N=true) (ht:yh P t=some (e,size,bytes)) (htn:P.underlying tn=some (.int kn))
 (hx:ev ρ x=Qf b n cap) (hy:ev ρ y=.int .i64 (m:Int)) (hj:l[j]? =some (b,.cells cur e)) (hr:Rw size cur cap n xs) (h0:0<m) (hg:cap<n+m) (hb:(n+m)*bytes<=0x800000000000) (hm:n+m<=maxLen)
 (kk: ∀b' cap' cur' w',St B w0 w' ((b',.cells cur' e)::l)->n+m<=cap'->cap'<=maxLen->cur'.size=cap'*size->cur'.toList.take (n*size)=xs->WPs P N ops K r (zr ρ d (Qf b' (n+m) cap')) w'):WPs P N ops K (i::r) ρ w:=by
 obtain⟨o',ho,rfl,hw,hop⟩:=zO h;obtain⟨it,z,hu,hi,hz,hsz,hby,hzs,hs0⟩:=yX ht;subst hsz hby;have hml:n+m<=0x7fffffffffffffff:=by simp only[maxLen]at hm;omega
 have hmb:m*it.bytes<=(n+m)*it.bytes:=Q0 _ (by omega);have holds: ∀q v,xs[q]? =some v->w.cell? ((⟨b,0,none⟩:Addr).add q)=some v:=fun q v hq=>by
  have hql:q<n*it.size:=by rw[<-hr.len];exact(Qv.1 hq).1
  rw[qn,QB];simp[World.cell?,HS.get j hj,hr.get q hql,hq]
 have hrun:=zdr (P:=P) (w:=w) t tn o'.type e it z kn .i64 hu htn hi hz ⟨b,0,none⟩ n cap xs hr.len holds m h0 hs0 hg (by omega) (by omega) (growslice_fits hg hb);refine WPo.run ho hw fun a' ha=>?_;have hex:(execOp (ev ρ) o').run P w=.ok (.value (Qf w.heap.size (n+m) (grownCap w (n+m) cap e))) (w.drew.alloc (.cells (xs.toArray++Q9 z.cells m++Q9 z.cells (grownCap w (n+m) cap e-(n+m))) e)):=by
  unfold execOp;simp only[hop,resolve,invoke,builtin,QW,R9,QG,RT,QT,R7,hx,hy,hrun]
 rw[hex,Rn];have hge:=grownCap_ge w (n+m) cap e;have hcm:=grownCap_le_maxLen w (n+m) cap e hm;refine⟨_,ha.put _ (yf hd) _,kk _ _ _ _ (HS.drew.alloc _) hge hcm ?_ ?_⟩
 ·simp only[Array.size_append,UG,vQ,hzs,hr.len,<-Nat.add_mul];congr 1;omega
 ·simp only[Array.toList_append];rw[QX,<-hr.len,List.take_left]
theorem vR (HS:St B w0 w l)(d:Option Nat)(t e size bytes:Nat)(x:Operand)(j b o n c:Nat)(cur:Qd)(T:TypeId)
 (h:opk ops i ρ=some (d,true,.call { callee:=.builtin .clear,args:=#[x],argTypes:=#[t] })) (hd:dOK d N=true) (ht:yh P t=some (e,size,bytes)) (hz1:((P.info? e).bind (·.zero)).all (fun z=>z.cells.all (·.oneCell'))=true)
 (hx:ev ρ x=.slice (some ⟨b,o,none⟩) n c) (hj:l[j]? =some (b,.cells cur T)) (hn:0<n) (hfit:o+n*size<=cur.size)
 (kk: ∀V w',V.length=n*size->St B w0 w' (l.set j (b,.cells (zm cur o V) T))->WPs P N ops K r (zr ρ d (.tuple #[])) w'):WPs P N ops K (i::r) ρ w:=by
 obtain⟨o',ho,rfl,hw,hop⟩:=zO h;obtain⟨it,z,hu,hi,hz,hsz,hby,hzs,hs0⟩:=yX ht;have h1z: ∀v∈z.cells.toList,v.oneCell'=true:=fun v hv=>by
  rw[hi]at hz1;simp only[Option.bind_some,hz,Option.all_some]at hz1;exact(Array.all_eq_true_iff_forall_mem.1 hz1) v (by simpa using hv)
 have hrun:=zds (P:=P) (w:=w) t o'.type e size it z hu hi hz hzs h1z hs0 b o n c cur T (HS.get j hj) hn hfit;refine WPo.run ho hw fun a' ha=>?_;have hex:(execOp (ev ρ) o').run P w=.ok (.value (.tuple #[])) (w.setRow b (zm cur o (Q9 z.cells n).toList)):=by
  unfold execOp;simp only[hop,resolve,invoke,builtin,QW,R9,QG,RT,QT,R7,hx,hrun]
 rw[hex,Rn];exact⟨_,ha.put _ (yf hd) _,kk (Q9 z.cells n).toList _ (by rw[QN,vQ,hzs]) (HS.store j hj)⟩
end
namespace D2
def stg:List Nat->(Nat->Bool)->Nat
 | [],_=>0
 | k::r,L=>bif L k then stg r L+1 else 0
def chn (ks:List Nat)(Q:Nat->(Nat->Gh)->World->Prop):(Nat->Bool)->(Nat->Gh)->World->Prop:=fun L g w=>Q (stg ks L) g w
theorem zaE: ∀(ks:List Nat) (L:Nat->Bool),stg ks L<=ks.length
 | [],_=>Qu _
 | k::r,L=>by
  unfold stg;cases L k with
  | true=>exact Nat.succ_le_succ (zaE r L)
  | false=>exact QO _
theorem chn.get {ks:List Nat}{Q:Nat->(Nat->Gh)->World->Prop}{L:Nat->Bool}{g:Nat->Gh}{w:World}{Φ:Prop}(h:chn ks Q L g w)(hQ: ∀j,j<=ks.length->Q j g w->Φ):Φ:=hQ _ (zaE ks L) h
theorem chn.fin {Q:Nat->(Nat->Gh)->World->Prop}{g:Nat->Gh}{w:World} : ∀ {ks:List Nat} {L:Nat->Bool},chn ks Q L g w->(∀k∈ks,L k=true)->Q ks.length g w:=by
 intro ks L h hk;have:stg ks L=ks.length:=by
  clear h
  induction ks with
  | nil=>rfl
  | cons k r ih=>
   unfold stg;rw[hk k (List.mem_cons_self ..),ih fun x hx=>hk x (List.mem_cons_of_mem _ hx)];rfl
 unfold chn at h
 rwa [this]at h
section
variable {P:Program}{ops:Array Oper}{R:(Nat->Gh)->Env}{d:Option Nat}
theorem gv_chn {V:Gh->Value}{ks:List Nat}{Q:Nat->(Nat->Gh)->World->Prop}(k j:Nat)(hN: ∀L,Now ops k L->stg ks L=j/\stg ks (put1 L k)=j+1)
 (hr: ∀g w,Q j g w->∃o,ops[k]? =some o/\o.dst=d/\QF o (zD ops (R g))=true/\Runs P (fun v w'=> ∃x,v=V x/\Q (j+1) (setN g k x) w') ((execOp (ev (R g)) o).run P w)):Gives P ops R (chn ks Q) k d V:=by
 refine xu fun L g w hp hNw=>?_;obtain⟨e1,e2⟩:=hN L hNw;unfold chn at hp;rw[e1]at hp;obtain⟨o,ho,hd,hw,hq⟩:=hr g w hp;refine⟨o,ho,hd,.inr ⟨hw,?_⟩⟩;unfold chn;rw[e2];exact hq
variable {ρ:Env}{k:Nat}{w:World}{S:Value->World->Prop}
theorem run_new {F:Nat->Value}{ob:Obj}(h:opv P ops k ρ w=some (d,true,.ok (.value (F w.heap.size)) (w.alloc ob)))(hS:S (F w.heap.size) (w.alloc ob)):
 ∃o,ops[k]? =some o/\o.dst=d/\QF o (zD ops ρ)=true/\Runs P S ((execOp (ev ρ) o).run P w):=by
 obtain⟨o,ho,hd,hw,hr⟩:=yq h;exact⟨o,ho,hd,hw,by rw[hr];exact hS⟩
theorem run_ft {f:Nat}{args:Qd}{pr:World->Prop}{ok:Value->Qb->Prop}(hc:FnT P f args pr ok)(hp:pr w)(h:opv P ops k ρ w=some (d,true,.ok (.enter f args) w))(hS: ∀v T w',ok v T->St w.heap.size w w' T->S v w'):
 ∃o,ops[k]? =some o/\o.dst=d/\QF o (zD ops ρ)=true/\Runs P S ((execOp (ev ρ) o).run P w):=by
 obtain⟨o,ho,hd,hw,hr⟩:=yq h;refine⟨o,ho,hd,hw,?_⟩;rw[hr];refine Calls.mono (hc w hp) ?_;rintro e w' ⟨v,T,rfl,hok,hT⟩;exact⟨v,rfl,hS v T w' hok hT⟩
theorem run_sto {t:TypeId}{x y:Operand}{b off:Nat}{C C':Qd}{T:TypeId}{v:Value}(h:opk ops k ρ=some (none,true,.store t x y))(hx:ev ρ x=.pointer (some ⟨b,off,none⟩))(hy:ev ρ y=v)(hi:(P.info? t).map (·.size)=some v.cells.size)(h1:v.cells.all (·.oneCell')=true)
 (hh:w.heap[b]? =some (.cells C T)) (hs:off+v.cells.size<=C.size) (hC:(C.toList.take off++v.cells.toList++C.toList.drop (off+v.cells.size)).toArray=C') (hS:S undef (w.setRow b C')):
 ∃o,ops[k]? =some o/\o.dst=none/\QF o (zD ops ρ)=true/\Runs P S ((execOp (ev ρ) o).run P w):=by
 obtain⟨o,ho,hd,hw,hop⟩:=zO h;refine⟨o,ho,hd,hw,?_⟩;have hst:=xm (P:=P) (w:=w) hi h1 hh hs;rw[hC]at hst;have e2:(execOp (ev ρ) o).run P w=.ok .skip (w.setRow b C'):=by simp[execOp,hop,Instr.storeAt,Instr.sureAddr,hx,hy,hst]
 rw[e2];exact hS
theorem run_of {op:Op}(h:opk ops k ρ=some (d,true,op))(hr: ∀o:Oper,o.op=op->∃v w',(execOp (ev ρ) o).run P w=.ok (.value v) w'/\S v w'):
 ∃o,ops[k]? =some o/\o.dst=d/\QF o (zD ops ρ)=true/\Runs P S ((execOp (ev ρ) o).run P w):=by
 obtain⟨o,ho,hd,hw,hop⟩:=zO h;obtain⟨v,w',e,hS⟩:=hr o hop;exact⟨o,ho,hd,hw,by rw[e];exact hS⟩
end
end D2
section
open D2 (Gh)
theorem D2.Now.back {ops:Array Oper}{i:Nat}{L:Nat->Bool}(h:D2.Now ops i L){a b:Nat}(hb:L b=true)(he:D2.edge ops a b=true):L a=true:=by
 cases ha:L a with
 | true=>rfl
 | false=>have:=h.2.2.no a b he ha;rw[hb]at this;cases this
theorem D2.Now.fwd {ops:Array Oper}{i:Nat}{L:Nat->Bool}(h:D2.Now ops i L){a b:Nat}(ha:L a=false)(he:D2.edge ops a b=true):L b=false:=h.2.2.no a b he ha
theorem D2.stg_no: ∀(ks:List Nat) (L:Nat->Bool) (i k:Nat),ks[i]? =some k->L k=false->D2.stg ks L<=i
 | [],_,_,_,h,_=>by simp at h
 | k::r,L,0,k',h,hk=>by
  obtain rfl:k=k':=by simpa using h
  unfold D2.stg;rw[hk];exact Qu _
 | k::r,L,i+1,k',h,hk=>by
  have ih:=D2.stg_no r L i k' (by simpa using h) hk;unfold D2.stg;cases L k with
  | true=>exact Nat.succ_le_succ ih
  | false=>exact QO _
theorem D2.chn.getN {ks:List Nat}{Q:Nat->(Nat->Gh)->World->Prop}{L:Nat->Bool}{g:Nat->Gh}{w:World}{Φ:Prop}(h:D2.chn ks Q L g w)(i k:Nat)(hi:ks[i]? =some k)(hk:L k=false)(hQ: ∀j,j<=i->Q j g w->Φ):Φ:=hQ _ (D2.stg_no ks L i k hi hk) h
end
section
variable {P:Program}{N:Nat}{Q:Exit->Env->World->Prop}{ρ:Env}{w:World}{c:Code}
def zaF:Code->Bool | .scope _=>true | _=>false
def zaG:Code->Option Nat | .label i=>some i | _=>none
theorem zdt (h:zaF c=true):c=.scope (qN c):=by cases c<;>first | rfl | cases h
theorem zdu {i:Nat}(h:zaG c=some i):c=.label i:=by
 cases c<;>first | (cases h;done) | (cases h;rfl)
def ng (Q:Exit->Env->World->Prop):Exit->Env->World->Prop
 | .goto _,_,_=>False
 | e,ρ,w=>Q e ρ w
theorem zdv (hc:zaF c=true)(h:WP P N (qN c) (ng Q) ρ w):WP P N c Q ρ w:=by
 rw[zdt hc];intro a ha;refine wp_scope_straight (Go.wp_mono (h a ha) ?_);rintro e a' w' ⟨r,hr,q⟩;cases e<;>first | exact⟨r,hr,q⟩ | exact q.elim
theorem zdw (i:Nat)(hc:zaG c=some i)(h:Q .normal ρ w):WP P N c Q ρ w:=by rw[zdu hc];exact WP.label h
end
section
variable {P:Program}{N:Nat}{ops:Array Oper}{i:Nat}{r:List Nat}{K:Env->World->Prop}{ρ:Env}{w:World}{B:Nat}{w0:World}{l:Qb}
theorem zaH {K':Nat}(HS:St B w0 w l)(d:Option Nat)(t e bytes:Nat)(s x:Operand)(j k b bx n cap c:Nat)(cur Y:Qd)(xs:List Value)(h:opk ops i ρ=some (d,true,yF t s x))(hd:dOK d N=true)(ht:yh P t=some (e,K',bytes))
 (hs:ev ρ s=Qf b n cap) (hj:l[j]? =some (b,.cells cur e)) (hr:Rw K' cur cap n xs) (hx:ev ρ x=Qf bx 1 c) (hk:l[k]? =some (bx,.cells Y e))
 (hY:Y.size=K') (hone: ∀u∈Y.toList,u.oneCell'=true) (hb:(n+1)*bytes<=0x800000000000) (hm:n+1<=maxLen)
 (kk: ∀b' cap' cur' w',St B w0 w' (l.set j (b',.cells cur' e))->Rw K' cur' cap' (n+1) (xs++Y.toList)->WPs P N ops K r (zr ρ d (Qf b' (n+1) cap')) w'):WPs P N ops K (i::r) ρ w:=by
 obtain⟨o,ho,rfl,hw,hop⟩:=zO h;obtain⟨b',cap',cur',w',hrun,HS',hr'⟩:=zaA HS ht hop hs hj hr hx hk hY hone hb hm;refine WPo.run ho hw fun a ha=>?_;rw[hrun,Rn];exact⟨_,ha.put _ (yf hd) _,kk b' cap' cur' w' HS' hr'⟩
theorem zaI {K':Nat}(HS:St B w0 w l)(d:Option Nat)(t e bytes:Nat)(s x:Operand)(k bx c:Nat)(Y:Qd)(h:opk ops i ρ=some (d,true,yF t s x))(hd:dOK d N=true)(ht:yh P t=some (e,K',bytes))
 (hs:ev ρ s=.slice none 0 0) (hx:ev ρ x=Qf bx 1 c) (hk:l[k]? =some (bx,.cells Y e))
 (hY:Y.size=K') (hone: ∀u∈Y.toList,u.oneCell'=true) (hb:(0+1)*bytes<=0x800000000000)
 (kk: ∀b' cap' cur' w',St B w0 w' ((b',.cells cur' e)::l)->Rw K' cur' cap' 1 Y.toList->WPs P N ops K r (zr ρ d (Qf b' 1 cap')) w'):WPs P N ops K (i::r) ρ w:=by
 obtain⟨o,ho,rfl,hw,hop⟩:=zO h;obtain⟨b',cap',cur',w',hrun,HS',hr'⟩:=zaB HS ht hop hs hx hk hY hone hb;refine WPo.run ho hw fun a ha=>?_;rw[hrun,Rn];exact⟨_,ha.put _ (yf hd) _,kk b' cap' cur' w' HS' hr'⟩
end
def putA (cur:Qd)(off:Nat)(v:Value):Qd:=(cur.toList.take off++v.cells.toList++cur.toList.drop (off+v.cells.size)).toArray
theorem Rw.putA {K:Nat}{cur:Qd}{cap n:Nat}{xs:List Value}(h:Rw K cur cap n xs)(off:Nat)(v:Value)(hle:off+v.cells.size<=n*K):
 off+v.cells.size<=cur.size/\Rw K (putA cur off v) cap n (xs.take off++v.cells.toList++xs.drop (off+v.cells.size)):=by
 have hcap:n*K<=cap*K:=Q0 _ h.le;have hsz:=h.sz;have hA:cur.toList.length=cap*K:=by rw[QN,hsz]
 have hx:xs=cur.toList.take (n*K):=h.take.symm;have hv:v.cells.toList.length=v.cells.size:=QN;have e1:(cur.toList.take off).length=off:=by rw[Qt];omega
 refine⟨by omega,?_,h.le,h.max,?_,?_⟩
 ·rw[Qz,Qz,Qt,RU,h.len,hv];omega
 ·unfold Go.Proofs.Ytdaeahhkiilbaaa.putA;rw[U8,Vm,Qz,e1,hv,Qp (l:=cur.toList.take off++v.cells.toList) (by rw[Qz,e1,hv];exact hle),hx,Up,Ri (by omega),List.drop_take]
 ·unfold Go.Proofs.Ytdaeahhkiilbaaa.putA;rw[UG,Qz,Qz,e1,RU,hv,hA];omega
def sS:Fl Qa where
 K:=1
 cs x:=[.string x]
 pos:=by decide
 len _:=rfl
 one _:=fun u hu=>by obtain rfl:=Rz.1 hu;rfl
theorem zo {P:Program}{ρ:Env}{t e:TypeId}{K bytes:Nat}(ht:yh P t=some (e,K,bytes)){x y:Operand}{o:Oper}{kd:IntKind}{p:Qc}(b q n c k:Nat)(hp:p=some ⟨b,q,none⟩)(ho:o.op=.indexAddr t x y)(hx:ev ρ x=.slice p n c)(hy:ev ρ y=.int kd (k:Int))(hk:k<n):
 ∀w,(execOp (ev ρ) o).run P w=.ok (.value (.pointer (some ⟨b,q+k*K,none⟩))) w:=by
 subst hp;exact vx ht b q n c k ho hx hy hk
section
variable {α:Type}{S:Fl α}
def AtF (S:Fl α)(w:World)(p:Qc)(n:Nat)(L:List α):Prop:=n=L.length/\(L=[]\/∃b off C T fz,p=some ⟨b,off,none⟩/\w.heap[b]? =some (.cells C T fz)/\qE S C off L)
theorem AtF.call {w w':World}{p:Qc}{n:Nat}{L:List α}(h:AtF S w p n L)(hb:Below w.heap.size w w'):AtF S w' p n L:=by
 obtain⟨h1,h2⟩:=h;refine⟨h1,h2.imp id ?_⟩;rintro⟨b,off,C,T,fz,e,hh,hr⟩;exact⟨b,off,C,T,fz,e,by rw[hb.block b (zf hh)];exact hh,hr⟩
theorem AtF.take {w:World}{p:Qc}{n:Nat}{L:List α}(h:AtF S w p n L)(k:Nat)(hk:k<=n):AtF S w p k (L.take k):=by
 obtain⟨h1,h2⟩:=h;refine⟨by rw[Qt];omega,?_⟩;rcases h2 with rfl|⟨b,off,C,T,fz,e,hh,hr⟩
 ·exact .inl (by simp)
 ·exact .inr ⟨b,off,C,T,fz,e,hh,hr.take k⟩
theorem zv.atF {ty:TypeId}{p:Qc}{n c:Nat}{row:Qb}{L:List α}(h:zv S ty p n c row L){B:Nat}{w0 w:World}{l:Qb}(hS:St B w0 w l)(hl: ∀e∈row,e∈l):AtF S w p n L:=by
 rcases h with⟨rfl,rfl,rfl,rfl,rfl⟩|⟨b,cur,rfl,rfl,hr⟩
 ·exact⟨rfl,.inl rfl⟩
 ·exact⟨hr.lenF.symm,.inr ⟨b,0,cur,ty,(0,0),rfl,(hS.own _ (hl _ (Rz.2 rfl))).2,hr.rowAt⟩⟩
def yb (p:Qc)(n c:Nat):Prop:=(p=none/\n=0/\c=0)\/((∃a,p=some a)/\n<=c)
theorem yb.cut {p:Qc}{n c k:Nat}(h:yb p n c)(hk:k<=n):yb p k c:=by
 rcases h with⟨rfl,rfl,rfl⟩|⟨h1,h2⟩
 ·exact .inl ⟨rfl,by omega,rfl⟩
 ·exact .inr ⟨h1,by omega⟩
theorem xF {P:Program}{ρ:Env}{t e:TypeId}{size bytes:Nat}(ht:yh P t=some (e,size,bytes)){x y:Operand}{o:Oper}{kd:IntKind}{p:Qc}{n c k:Nat}(h:yb p n c)(hk:k<=n)(ho:o.op=.slice t x none (some y) none)(hx:ev ρ x=.slice p n c)(hy:ev ρ y=.int kd (k:Int)):
 ∀w,(execOp (ev ρ) o).run P w=.ok (.value (.slice p k c)) w:=fun w=>by
 rcases h with⟨rfl,rfl,rfl⟩|⟨⟨a,rfl⟩,h2⟩
 ·obtain rfl:k=0:=by omega
  obtain⟨it,z,hu,hi,hz,hsz,hby,hzs,h0⟩:=yX ht;have hS:(sizeOf e).run P w=.ok size w:=by simp[sizeOf,typeInfo,hi,hsz]
  unfold execOp;simp[ho,hx,hy,UN,UW,Uk,Uu,asIntOf,run_underlying hu,hS]
 ·exact zdm ht a n c k ho hx hy (by omega) w
theorem vS {P:Program}{ρ:Env}{w w0:World}{B:Nat}{bx n c mc e:Nat}{p:Qc}{row Z:Qb}{M0:List α}{y:α}(HS:St B w0 w ((bx,.cells (S.cs y).toArray e)::(row++Z)))(hrow:zv S e p n c row M0)
 {t bytes:Nat} {s x:Operand} {o:Oper} (ht:yh P t=some (e,S.K,bytes)) (ho:o.op=yF t s x) (hs:ev ρ s=.slice p n c) (hx:ev ρ x=Qf bx 1 mc) (hb:(n+1)*bytes<=0x800000000000) (hm:n+1<=maxLen):
 ∃b' cap' cur' w',(execOp (ev ρ) o).run P w=.ok (.value (Qf b' (n+1) cap')) w'/\St B w0 w' ((b',.cells cur' e)::Z)/\Rw S.K cur' cap' (n+1) (cellsF S (M0++ [y])):=by
 have hY:(S.cs y).toArray.size=S.K:=by rw[UG,S.len]
 have hone: ∀u∈(S.cs y).toArray.toList,u.oneCell'=true:=fun u hu=>S.one y u (by simpa using hu);rcases hrow with⟨rfl,rfl,rfl,rfl,rfl⟩ | ⟨b,cur,rfl,rfl,hrw⟩
 ·obtain⟨b',cap',cur',w',hrun,HS',hr'⟩:=zaB (k:=0) HS ht ho hs hx rfl hY hone hb;refine⟨b',cap',cur',w',hrun,HS'.sub (QA _ (QE ..)),?_⟩;rw[xD];exact hr'
 ·obtain⟨b',cap',cur',w',hrun,HS',hr'⟩:=zaA (j:=1) (k:=0) HS ht ho hs rfl hrw hx rfl hY hone hb hm;refine⟨b',cap',cur',w',hrun,HS'.sub (QE ..),?_⟩;rw[xD];exact hr'
end
section
variable {P:Program}{N:Nat}{ops:Array Oper}{K:Env->World->Prop}{ρ:Env}{w w0:World}{i B:Nat}{r:List Nat}{l:Qb}
theorem yG (HS:St B w0 w l)(d:Option Nat)(V:Nat->Value)(C:Qd)(T:TypeId)(h:opv P ops i ρ w=some (d,true,.ok (.value (V w.heap.size)) (w.alloc (.cells C T))))(hd:dOK d N=true)
 (kk: ∀b w',St B w0 w' ((b,.cells C T)::l)->WPs P N ops K r (zr ρ d (V b)) w'):WPs P N ops K (i::r) ρ w:=by
 obtain⟨o,ho,rfl,hw,hr⟩:=yq h;refine WPo.run ho hw fun a ha=>?_;rw[hr,Rn];exact⟨_,ha.put _ (yf hd) _,kk w.heap.size _ (HS.alloc _)⟩
theorem qF {α:Type}{S:Fl α}{nb n c:Nat}{p:Qc}{row Z:Qb}{M:List α}{y:α}(d:Option Nat)(t e bytes:Nat)(s x:Operand)(HS:St B w0 w ((nb,.cells (S.cs y).toArray e)::(row++Z)))(hrow:zv S e p n c row M)
 (h:opk ops i ρ=some (d,true,yF t s x)) (hd:dOK d N=true) (ht:yh P t=some (e,S.K,bytes)) (hs:ev ρ s=.slice p n c) (hx:ev ρ x=Qf nb 1 1) (hb:(n+1)*bytes<=0x800000000000) (hm:n+1<=maxLen)
 (kk: ∀b' cap' cur' w',St B w0 w' ((b',.cells cur' e)::Z)->Rw S.K cur' cap' (n+1) (cellsF S (M++ [y]))->WPs P N ops K r (zr ρ d (Qf b' (n+1) cap')) w'):WPs P N ops K (i::r) ρ w:=by
 obtain⟨o,ho,rfl,hw,hop⟩:=zO h;obtain⟨b',cap',cur',w',hrun,HS',hr'⟩:=vS HS hrow ht hop hs hx hb hm;refine WPo.run ho hw fun a ha=>?_;rw[hrun,Rn];exact⟨_,ha.put _ (yf hd) _,kk b' cap' cur' w' HS' hr'⟩
end
section
open Go.ChangeShapes Go.WideShapes Go.ChangeAt
theorem zdx {C:Qd}{o m:Nat}{l:List Value}(hl:l.length=m)(hm:0<m)(h: ∀j,j<m->C[o+j]? =l[j]?):o+m<=C.size/\C.extract o (o+m)=l.toArray:=by
 have hs:o+m<=C.size:=by
  have h1:=h (m-1) (by omega);rw[Ql (by omega)]at h1;have:=(Array.getElem?_eq_some_iff.1 h1).1;omega
 refine⟨hs,?_⟩;apply Array.toList_inj.1;apply List.ext_getElem?;intro i;rw[Array.getElem?_toList,Array.getElem?_extract,U8];by_cases hi:i<m
 ·rw[if_pos (by omega),h i hi]
 ·rw[if_neg (by omega),QK (by omega)]
section
variable {H:Type}{enc:TypeId×Value->H}{W:World}{sp:Nat->Bool}{held:Bool}
theorem zdy {a:Addr}{v:Value}(h:W.cell? a=some v):a=⟨a.block,a.off,none⟩/\∃C T fz,W.heap[a.block]? =some (.cells C T fz)/\C[a.off]? =some v:=by
 obtain⟨b,o,sp⟩:=a;unfold World.cell? at h;split at h
 ·rename_i C T fz hh
  cases sp with
  | none=>simp at h;exact⟨rfl,C,T,fz,hh,h⟩
  | some x=>simp at h
 ·cases h
theorem zdz {b o:Nat}{C:Qd}{T:TypeId}{fz:Nat×Nat}{v:Option Value}(hh:W.heap[b]? =some (.cells C T fz))(h:W.cell? ⟨b,o,none⟩=v):C[o]? =v:=by
 unfold World.cell? at h;simp only[hh]at h;simpa using h
theorem vT {a:Int}(h:(Lit.int .u64 a).wf=true):∃n:Nat,n<0x10000000000000000/\a=((n:Nat):Int):=by
 have h2:0<=a/\a<0x10000000000000000:=by
  simp[Lit.wf,IntKind.min,IntKind.max,IntKind.signed,IntKind.bits]at h;omega
 exact⟨a.toNat,by omega,by omega⟩
theorem jB {α:Type}{S:Fl α}{ok:α->Prop}{st et:TypeId}(hst:Try.prog.underlying st=some (.slice et))(hc:Try.prog.cellsOf et=S.K)(hone: ∀(fuel:Nat) (cs:List Value) (x:DataW H×List MemPlace),QC enc Try.prog W 0 sp held fuel et cs=some x->∃a:α,cs=S.cs a/\ok a)
 {fuel:Nat} {c0:Value} {x:DataW H×List MemPlace} (hf:QC enc Try.prog W 0 sp held fuel st [c0]=some x):
 ∃(q:Qc) (n c:Nat) (L:List α),c0=.slice q n c/\yb q n c/\(∀x∈L,ok x)/\AtF S W q n L:=by
 rcases DataW.trod_slice hst hf with⟨hc,hx⟩|⟨a,len0,cap0,elems,rest,n',rfl,hc',hx,_,hlc,hcm,hel,hels,_,_⟩
 ·obtain rfl:c0=.slice none 0 0:=by simpa using hc
  exact⟨none,0,0,[],rfl,.inl ⟨rfl,rfl,rfl⟩,(fun _ h=>nomatch h),rfl,.inl rfl⟩
 ·obtain rfl:c0=.slice (some a) len0 cap0:=by simpa using hc'
  have rows: ∀q,q<=len0->∃L:List α,L.length=q/\(∀x∈L,ok x)/\ ∀(i:Nat) (z:α),L[i]? =some z->W.cells? 0 (a.add (i*S.K)) S.K=some (S.cs z):=by
   intro q
   induction q with
   | zero=>exact fun _=>⟨[],rfl,(fun _ h=>nomatch h),fun i z h=>by simp at h⟩
   | succ q ihq=>
    intro hq;obtain⟨L,hL,hk,hcc⟩:=ihq (by omega);have hi:=hels q (by omega);rw[hc]at hi;have hlt:q<elems.length:=by omega
    rw[Ql hlt]at hi;obtain⟨cs',hcs,ht⟩:=Option.bind_eq_some_iff.1 hi;obtain⟨nd,rfl,hnd⟩:=hone n' cs' _ ht;refine⟨L++ [nd],by simp[hL],fun x hx=>?_,fun i z hz=>?_⟩
    ·rcases UH.1 hx with hx|hx
     ·exact hk x hx
     ·rw[Rz.1 hx];exact hnd
    by_cases hiq:i<L.length
    ·rw[List.getElem?_append_left hiq]at hz;exact hcc i z hz
    ·rw[List.getElem?_append_right (by omega)]at hz;have:i-L.length=0:=by
      have:=(Qv.1 hz).1;simp at this;omega
     rw[this]at hz;simp at hz;subst hz;obtain rfl:i=q:=by omega
     exact hcs
  obtain⟨L,hL,hk,hcl⟩:=rows len0 (Qu _);refine⟨some a,len0,cap0,L,rfl,.inr ⟨⟨a,rfl⟩,hlc⟩,hk,hL.symm,?_⟩;cases L with
  | nil=>exact .inl rfl
  | cons z0 L0=>
   have f0:=(World.cells?_some (hcl 0 z0 rfl)).2.2 0 S.pos;rw[Nat.zero_mul]at f0;have e0:(a.add 0).add 0=a:=rfl;rw[e0,Ql (by rw[S.len];exact S.pos)]at f0;obtain⟨ea,C,T,fz,hh,hC0⟩:=zdy f0;refine .inr ⟨a.block,a.off,C,T,fz,congrArg some ea,hh,fun i z hz=>?_⟩;refine zdx (S.len z) S.pos fun j hj=>?_;have h9:=(World.cells?_some (hcl i z hz)).2.2 j hj;rw[ea,qn,qn]at h9;exact zdz hh h9
theorem zdA {α:Type}{S:Fl α}{ok:α->Prop}{st et:TypeId}(hst:Try.prog.underlying st=some (.slice et))(hc:Try.prog.cellsOf et=S.K)(hone: ∀(fuel:Nat) (cs:List Value) (x:DataW H×List MemPlace),QC enc Try.prog W 0 sp held fuel et cs=some x->∃a:α,cs=S.cs a/\ok a)
 {v:Value} {d:DataW H} {p:List MemPlace} {base:Nat} (hv:Value.okWide Try.prog W .any base st v) (h:DataW.Trod enc Try.prog W 0 sp held st v d p):
 ∃(q:Qc) (n c:Nat) (L:List α),v=.slice q n c/\yb q n c/\(∀x∈L,ok x)/\AtF S W q n L:=by
 obtain⟨ao,len0,cap0,rfl⟩:=okWide_slice hst hv;obtain⟨fuel,hf⟩:=h;exact jB hst hc hone (show QC enc Try.prog W 0 sp held fuel st [.slice ao len0 cap0]=some (d,p) from hf)
end
end
def Wd (x:Int):Prop:=0<=x/\x<0x10000000000000000
def Bt (c:Int):Prop:=0<=c/\c<=1
def w0 (n:Nat):Int:=((n%0x10000000000000000:Nat):Int)
def w1 (n:Nat):Int:=((n / 0x10000000000000000%0x10000000000000000:Nat):Int)
def w2 (n:Nat):Int:=((n / 0x100000000000000000000000000000000%0x10000000000000000:Nat):Int)
def w3 (n:Nat):Int:=((n / 0x1000000000000000000000000000000000000000000000000%0x10000000000000000:Nat):Int)
def big:Nat:=0x10000000000000000000000000000000000000000000000000000000000000000
def mk4 (a b c d:Int):Nat:=(a+0x10000000000000000*b+0x100000000000000000000000000000000*c+0x1000000000000000000000000000000000000000000000000*d).toNat
theorem wd0 (n:Nat):Wd (w0 n):=by unfold Wd w0;omega
theorem wd1 (n:Nat):Wd (w1 n):=by unfold Wd w1;omega
theorem wd2 (n:Nat):Wd (w2 n):=by unfold Wd w2;omega
theorem wd3 (n:Nat):Wd (w3 n):=by unfold Wd w3;omega
theorem xG {a b c d:Int}(ha:Wd a)(hb:Wd b)(hc:Wd c)(hd:Wd d):mk4 a b c d<big:=by
 unfold Wd at*;unfold mk4 big;omega
theorem kE {a b c d:Int}(ha:Wd a)(hb:Wd b)(hc:Wd c)(hd:Wd d):w0 (mk4 a b c d)=a:=by
 unfold Wd at*;unfold mk4 w0;omega
theorem kF {a b c d:Int}(ha:Wd a)(hb:Wd b)(hc:Wd c)(hd:Wd d):w1 (mk4 a b c d)=b:=by
 unfold Wd at*;unfold mk4 w1;omega
theorem kG {a b c d:Int}(ha:Wd a)(hb:Wd b)(hc:Wd c)(hd:Wd d):w2 (mk4 a b c d)=c:=by
 unfold Wd at*;unfold mk4 w2;omega
theorem kH {a b c d:Int}(ha:Wd a)(hb:Wd b)(hc:Wd c)(hd:Wd d):w3 (mk4 a b c d)=d:=by
 unfold Wd at*;unfold mk4 w3;omega
theorem jm (n:Nat)(h:n<big):(n:Int)=w0 n+0x10000000000000000*w1 n+0x100000000000000000000000000000000*w2 n+0x1000000000000000000000000000000000000000000000000*w3 n:=by
 unfold big at h;unfold w0 w1 w2 w3;omega
theorem zdB {a b c d:Int}(ha:Wd a)(hb:Wd b)(hc:Wd c)(hd:Wd d):∃n:Nat,n<big/\a=w0 n/\b=w1 n/\c=w2 n/\d=w3 n:=
 ⟨mk4 a b c d,xG ha hb hc hd,(kE ha hb hc hd).symm,(kF ha hb hc hd).symm,(kG ha hb hc hd).symm,(kH ha hb hc hd).symm⟩
theorem zaJ {a b c d:Int}{n:Nat}(ha:Wd a)(hb:Wd b)(hc:Wd c)(hd:Wd d)
 (h:(n:Int)=a+0x10000000000000000*b+0x100000000000000000000000000000000*c+0x1000000000000000000000000000000000000000000000000*d):
 a=w0 n/\b=w1 n/\c=w2 n/\d=w3 n:=by
 have e:n=mk4 a b c d:=by unfold mk4;omega
 subst e;exact⟨(kE ha hb hc hd).symm,(kF ha hb hc hd).symm,(kG ha hb hc hd).symm,(kH ha hb hc hd).symm⟩
theorem zdC {n m:Nat}(hn:n<big)(hm:m<big)(h0:w0 n=w0 m)(h1:w1 n=w1 m)(h2:w2 n=w2 m)(h3:w3 n=w3 m):n=m:=by
 have a:=jm n hn;have b:=jm m hm;rw[h0,h1,h2,h3]at a;omega
def jT (x y c s d:Int):Prop:=x+y+c=s+0x10000000000000000*d/\Wd s/\Bt d
def jU (x y c s d:Int):Prop:=x-y-c=s-0x10000000000000000*d/\Wd s/\Bt d
def ov (a b:Nat):Bool:=decide (big<=a+b)
def sm (a b:Nat):Nat:=(a+b)%big
def lo (a b:Nat):Bool:=decide (a<b)
def df (a b:Nat):Nat:=(a+big-b)%big
theorem zdD {A B:Nat}(hA:A<big)(hB:B<big){s0 c0 s1 c1 s2 c2 s3 c3:Int}(h0:jT (w0 A) (w0 B) 0 s0 c0)(h1:jT (w1 A) (w1 B) c0 s1 c1)(h2:jT (w2 A) (w2 B) c1 s2 c2)(h3:jT (w3 A) (w3 B) c2 s3 c3):
 (s0=w0 (sm A B)/\s1=w1 (sm A B)/\s2=w2 (sm A B)/\s3=w3 (sm A B))/\(c3==1)=ov A B:=by
 have a:=jm A hA;have b:=jm B hB;obtain⟨e0,d0,_⟩:=h0;obtain⟨e1,d1,_⟩:=h1;obtain⟨e2,d2,_⟩:=h2;obtain⟨e3,d3,k3⟩:=h3;have key:(A:Int)+B=s0+0x10000000000000000*s1+0x100000000000000000000000000000000*s2+0x1000000000000000000000000000000000000000000000000*s3+0x10000000000000000000000000000000000000000000000000000000000000000*c3:=by omega
 have lt:=xG d0 d1 d2 d3;have em:((mk4 s0 s1 s2 s3:Nat):Int)=s0+0x10000000000000000*s1+0x100000000000000000000000000000000*s2+0x1000000000000000000000000000000000000000000000000*s3:=by
  unfold Wd at*;unfold mk4;omega
 constructor
 ·refine zaJ d0 d1 d2 d3 ?_;rw[<-em];unfold sm;unfold big at*;unfold Bt at*;omega
 ·unfold ov;rw[RQ];simp only[beq_iff_eq,decide_eq_true_eq];unfold big at*;unfold Bt at*;omega
theorem zdE {A B:Nat}(hA:A<big)(hB:B<big){s0 c0 s1 c1 s2 c2 s3 c3:Int}(h0:jU (w0 A) (w0 B) 0 s0 c0)(h1:jU (w1 A) (w1 B) c0 s1 c1)(h2:jU (w2 A) (w2 B) c1 s2 c2)(h3:jU (w3 A) (w3 B) c2 s3 c3):
 (s0=w0 (df A B)/\s1=w1 (df A B)/\s2=w2 (df A B)/\s3=w3 (df A B))/\(c3==1)=lo A B:=by
 have a:=jm A hA;have b:=jm B hB;obtain⟨e0,d0,_⟩:=h0;obtain⟨e1,d1,_⟩:=h1;obtain⟨e2,d2,_⟩:=h2;obtain⟨e3,d3,k3⟩:=h3;have key:(A:Int)-B=s0+0x10000000000000000*s1+0x100000000000000000000000000000000*s2+0x1000000000000000000000000000000000000000000000000*s3-0x10000000000000000000000000000000000000000000000000000000000000000*c3:=by omega
 have lt:=xG d0 d1 d2 d3;have em:((mk4 s0 s1 s2 s3:Nat):Int)=s0+0x10000000000000000*s1+0x100000000000000000000000000000000*s2+0x1000000000000000000000000000000000000000000000000*s3:=by
  unfold Wd at*;unfold mk4;omega
 constructor
 ·refine zaJ d0 d1 d2 d3 ?_;rw[<-em];unfold df;unfold big at*;unfold Bt at*;omega
 ·unfold lo;rw[RQ];simp only[beq_iff_eq,decide_eq_true_eq];unfold big at*;unfold Bt at*;omega
end Go.Proofs.Ytdaeahhkiilbaaa
namespace Go.Proofs.Ec
section
variable {F:Type}[Lean.Grind.Field F]
variable [DecidableEq F]
end
end Go.Proofs.Ec
namespace Go.Proofs.Ytdaeahhkiilbaaa
def PrP (p:Nat):Prop:=1<p/\ ∀d,d∣p->d=1\/d=p
theorem zdF {n:Nat} : ∀k,(∃d,1<d/\d<=k/\d∣n)->∃r,1<r/\r∣n/\ ∀d,1<d->d∣n->r<=d
 | 0,⟨d,h1,h2,_⟩=>by omega
 | k+1,⟨d,h1,h2,h3⟩=>by
  by_cases h:∃d,1<d/\d<=k/\d∣n
  ·exact zdF k h
  ·have hd:d=k+1:=by
    rcases RP k d with h' | h'
    ·omega
    ·exact absurd ⟨d,h1,h',h3⟩ h
   refine⟨d,h1,h3,fun e he hen=>?_⟩;rcases RP e d with h' | h'
   ·exact absurd ⟨e,he,by omega,hen⟩ h
   ·exact h'
def row (a r:Nat):Nat->List Nat
 | 0=>[]
 | n+1=>a*(n+1)%r::row a r n
end Go.Proofs.Ytdaeahhkiilbaaa
namespace Go.Proofs.Zm
open Go.Proofs.Ytdaeahhkiilbaaa
class PrM (M:Nat):Prop where
 pr:PrP M
 two:2<M
section
variable {M:Nat}[hM:PrM M]
end
end Go.Proofs.Zm
namespace Go.Proofs.Ytdaeahhkiilbaaa
section
open Go.ChangeShapes Go.WideShapes Go.ChangeAt
@[reducible] def uv (n:Nat):Value:=.agg #[.int .u64 (w0 n),.int .u64 (w1 n),.int .u64 (w2 n),.int .u64 (w3 n)]
theorem jV {x y c:Int}(hx:Wd x)(hy:Wd y)(hc:Bt c):∃s d,(∀w,(callFunc 105 #[.int .u64 x,.int .u64 y,.int .u64 c]).run Try.prog w=.ok (.value (.tuple #[.int .u64 s,.int .u64 d])) w)/\jT x y c s d:=by
 obtain⟨hx0,hx1⟩:=hx;obtain⟨hy0,hy1⟩:=hy;obtain⟨hc0,hc1⟩:=hc;obtain⟨X,rfl⟩:=Rk hx0;obtain⟨Y,rfl⟩:=Rk hy0;obtain⟨C,rfl⟩:=Rk hc0;refine⟨(((X+Y+C)%0x10000000000000000:Nat):Int),(((X+Y+C) / 0x10000000000000000:Nat):Int),fun w=>?_,?_⟩
 ·rw[run_callFunc_extern Try.func105 (by kernel_rfl) (by kernel_rfl) (by kernel_rfl) (e:=add64Entry) (by kernel_rfl),run_add64 X Y C (by omega) (by omega) (by omega) (by omega)];simp only[Result.andThen];congr 5<;>omega
 ·unfold jT Wd Bt;omega
theorem kI {x y c:Int}(hx:Wd x)(hy:Wd y)(hc:Bt c):∃s d,(∀w,(callFunc 102 #[.int .u64 x,.int .u64 y,.int .u64 c]).run Try.prog w=.ok (.value (.tuple #[.int .u64 s,.int .u64 d])) w)/\jU x y c s d:=by
 obtain⟨hx0,hx1⟩:=hx;obtain⟨hy0,hy1⟩:=hy;obtain⟨hc0,hc1⟩:=hc;obtain⟨X,rfl⟩:=Rk hx0;obtain⟨Y,rfl⟩:=Rk hy0;obtain⟨C,rfl⟩:=Rk hc0;refine⟨(((X+0x10000000000000000-Y-C)%0x10000000000000000:Nat):Int),((if X<Y+C then 1 else 0:Nat):Int),fun w=>?_,?_⟩
 ·rw[run_callFunc_extern Try.func102 (by kernel_rfl) (by kernel_rfl) (by kernel_rfl) (e:=sub64Entry) (by kernel_rfl),run_sub64 X Y C (by omega)];rfl
 ·unfold jU Wd Bt;split<;>omega
theorem ix0 (x0 x1 x2 x3:Value)(w:World):(Vb 64 (.agg #[x0,x1,x2,x3]) (.int .i64 0)).run Try.prog w=.ok x0 w:=by kernel_rfl
theorem ix1 (x0 x1 x2 x3:Value)(w:World):(Vb 64 (.agg #[x0,x1,x2,x3]) (.int .i64 1)).run Try.prog w=.ok x1 w:=by kernel_rfl
theorem ix2 (x0 x1 x2 x3:Value)(w:World):(Vb 64 (.agg #[x0,x1,x2,x3]) (.int .i64 2)).run Try.prog w=.ok x2 w:=by kernel_rfl
theorem ix3 (x0 x1 x2 x3:Value)(w:World):(Vb 64 (.agg #[x0,x1,x2,x3]) (.int .i64 3)).run Try.prog w=.ok x3 w:=by kernel_rfl
theorem zdG (n:Int)(w:World):Calls Try.prog 104 #[.int .u64 n] w fun e w'=>e=.returned (.agg #[.int .u64 n,wZ,wZ,wZ])/\Below w.heap.size w w':=by
 go_enter Try.func104,Try.ntmps104
 go_wp2
 go_returns
 exact⟨rfl,by go_grown⟩
theorem zdH (A B:Nat)(hA:A<big)(hB:B<big)(w:World):Calls Try.prog 101 #[uv A,uv B] w fun e w'=>e=.returned (.tuple #[uv (sm A B),.bool (ov A B)])/\Below w.heap.size w w':=by
 obtain⟨s0,c0,r0,e0⟩:=jV (wd0 A) (wd0 B) (c:=0) (by unfold Bt;omega);obtain⟨s1,c1,r1,e1⟩:=jV (wd1 A) (wd1 B) e0.2.2;obtain⟨s2,c2,r2,e2⟩:=jV (wd2 A) (wd2 B) e1.2.2;obtain⟨s3,c3,r3,e3⟩:=jV (wd3 A) (wd3 B) e2.2.2;obtain⟨⟨q0,q1,q2,q3⟩,q4⟩:=zdD hA hB e0 e1 e2 e3;clear e0 e1 e2 e3;unfold uv;rw[<-q0,<-q1,<-q2,<-q3,<-q4];clear q0 q1 q2 q3 q4;have i0:=ix0;have i1:=ix1;have i2:=ix2;have i3:=ix3
 go_enter Try.func101,Try.ntmps101
 go_wp2
 go_rounds 5
 go_returns
 exact⟨rfl,by go_grown⟩
theorem zdI (A B:Nat)(hA:A<big)(hB:B<big)(w:World):Calls Try.prog 99 #[uv A,uv B] w fun e w'=>e=.returned (.tuple #[uv (df A B),.bool (lo A B)])/\Below w.heap.size w w':=by
 obtain⟨s0,c0,r0,e0⟩:=kI (wd0 A) (wd0 B) (c:=0) (by unfold Bt;omega);obtain⟨s1,c1,r1,e1⟩:=kI (wd1 A) (wd1 B) e0.2.2;obtain⟨s2,c2,r2,e2⟩:=kI (wd2 A) (wd2 B) e1.2.2;obtain⟨s3,c3,r3,e3⟩:=kI (wd3 A) (wd3 B) e2.2.2;obtain⟨⟨q0,q1,q2,q3⟩,q4⟩:=zdE hA hB e0 e1 e2 e3;clear e0 e1 e2 e3;unfold uv;rw[<-q0,<-q1,<-q2,<-q3,<-q4];clear q0 q1 q2 q3 q4;have i0:=ix0;have i1:=ix1;have i2:=ix2;have i3:=ix3
 go_enter Try.func99,Try.ntmps99
 go_wp2
 go_rounds 5
 go_returns
 exact⟨rfl,by go_grown⟩
def mH (x y:Int):Int:=x*y / 0x10000000000000000
def mL (x y:Int):Int:=x*y%0x10000000000000000
theorem zdJ (x y:Nat)(hx:x<0x10000000000000000)(hy:y<0x10000000000000000)(w:World):
 Calls Try.prog 106 #[.int .u64 x,.int .u64 y] w fun e w'=>e=.returned (.tuple #[.int .u64 ((x*y / 0x10000000000000000:Nat):Int),.int .u64 ((x*y%0x10000000000000000:Nat):Int)])/\w=w':=by
 obtain⟨bd,bt,bw,hhi⟩:=Lib.mul64_hi x y hx hy;have ba:=Lib.half_mul_le (a:=x / 4294967296) (b:=y / 4294967296) (by omega) (by omega);have bb:=Lib.half_mul_le (a:=x / 4294967296) (b:=y%4294967296) (by omega) (by omega);have bc:=Lib.half_mul_le (a:=x%4294967296) (b:=y / 4294967296) (by omega) (by omega);have ba':x / 4294967296*(y / 4294967296)<0x10000000000000000:=by omega
 have bb':x / 4294967296*(y%4294967296)<0x10000000000000000:=by omega
 have bc':x%4294967296*(y / 4294967296)<0x10000000000000000:=by omega
 have bh1:x / 4294967296*(y / 4294967296)+(x / 4294967296*(y%4294967296)+x%4294967296*(y%4294967296) / 4294967296) / 4294967296<0x10000000000000000:=by omega
 have bh:x / 4294967296*(y / 4294967296)+(x / 4294967296*(y%4294967296)+x%4294967296*(y%4294967296) / 4294967296) / 4294967296+((x / 4294967296*(y%4294967296)+x%4294967296*(y%4294967296) / 4294967296)%4294967296+x%4294967296*(y / 4294967296)) / 4294967296<0x10000000000000000:=by omega
 go_enter Try.func106,Try.ntmps106
 go_wp2
 simp only[Mul64.maskN x hx,Mul64.maskN y hy,Mul64.divN,Mul64.mulN,Mul64.addN,Mul64.wrapN _ bd,Mul64.wrapN _ bb',Mul64.wrapN _ bt,Mul64.maskN _ bt,Mul64.wrapN _ bc',Mul64.wrapN _ bw,Mul64.wrapN _ ba',Mul64.wrapN _ bh1,Mul64.wrapN _ bh,Mul64.wrapM (x*y)];rw[hhi]
 go_ret2
 exact⟨rfl,rfl⟩
theorem yw {x y:Int}(hx:Wd x)(hy:Wd y)(w:World):
 Calls Try.prog 106 #[.int .u64 x,.int .u64 y] w fun e w'=>e=.returned (.tuple #[.int .u64 (mH x y),.int .u64 (mL x y)])/\w=w':=by
 obtain⟨hx0,hx1⟩:=hx;obtain⟨hy0,hy1⟩:=hy;obtain⟨X,rfl⟩:=Rk hx0;obtain⟨Y,rfl⟩:=Rk hy0;have e1:mH X Y=((X*Y / 0x10000000000000000:Nat):Int):=by unfold mH;omega
 have e2:mL X Y=((X*Y%0x10000000000000000:Nat):Int):=by unfold mL;omega
 rw[e1,e2];exact zdJ X Y (by omega) (by omega) w
def ys (x y p c s d:Int):Prop:=x*y+p+c=s+0x10000000000000000*d/\Wd s/\Wd d
theorem yQ {x y p c:Int}(hx:Wd x)(hy:Wd y)(hp:Wd p)(hc:Wd c):∃l1 o1 l2 o2,
 (∀w,(callFunc 105 #[.int .u64 (mL x y),.int .u64 p,wZ]).run Try.prog w=.ok (.value (.tuple #[.int .u64 l1,.int .u64 o1])) w)/\
 (∀w,(callFunc 105 #[.int .u64 l1,.int .u64 c,wZ]).run Try.prog w=.ok (.value (.tuple #[.int .u64 l2,.int .u64 o2])) w)/\
 Ur.wrap (mH x y+o1)=mH x y+o1/\Ur.wrap (mH x y+o1+o2)=mH x y+o1+o2/\ys x y p c l2 (mH x y+o1+o2):=by
 have hm:0<=x*y/\x*y<=0xfffffffffffffffe0000000000000001:=by
  obtain⟨hx0,hx1⟩:=hx;obtain⟨hy0,hy1⟩:=hy;refine⟨Int.mul_nonneg hx0 hy0,?_⟩;have:=Int.mul_le_mul (show x<=0xffffffffffffffff by omega) (show y<=0xffffffffffffffff by omega) hy0 (by omega);omega
 have hL:Wd (mL x y):=by unfold Wd mL;omega
 obtain⟨l1,o1,r1,e1,d1,b1⟩:=jV hL hp (c:=0) (by unfold Bt;omega);obtain⟨l2,o2,r2,e2,d2,b2⟩:=jV d1 hc (c:=0) (by unfold Bt;omega);have k1:0<=mH x y+o1/\mH x y+o1+o2<=0xffffffffffffffff:=by
  unfold Wd Bt at*;unfold mH mL at*;omega
 have k2:0<=o2:=b2.1;refine⟨l1,o1,l2,o2,r1,r2,?_,?_,?_⟩
 ·rw[U7];omega
 ·rw[U7];omega
 ·refine⟨?_,d2,?_⟩
  ·unfold mH mL at*;omega
  ·unfold Wd;omega
def pl (A B:Nat):Nat:=A*B%big
def ph (A B:Nat):Nat:=A*B / big
theorem kJ {a b0 b1 b2 b3 p0 p1 p2 p3 q0 q1 q2 q3 c0 c1 c2 c3:Int}(h0:ys a b0 p0 0 q0 c0)(h1:ys a b1 p1 c0 q1 c1)(h2:ys a b2 p2 c1 q2 c2)(h3:ys a b3 p3 c2 q3 c3):
 a*(b0+0x10000000000000000*b1+0x100000000000000000000000000000000*b2+0x1000000000000000000000000000000000000000000000000*b3)+p0+0x10000000000000000*p1+0x100000000000000000000000000000000*p2+0x1000000000000000000000000000000000000000000000000*p3=q0+0x10000000000000000*q1+0x100000000000000000000000000000000*q2+0x1000000000000000000000000000000000000000000000000*q3+0x10000000000000000000000000000000000000000000000000000000000000000*c3:=by
 have e:a*(b0+0x10000000000000000*b1+0x100000000000000000000000000000000*b2+0x1000000000000000000000000000000000000000000000000*b3)=a*b0+0x10000000000000000*(a*b1)+0x100000000000000000000000000000000*(a*b2)+0x1000000000000000000000000000000000000000000000000*(a*b3):=by
  rw[UJ,UJ,UJ,Int.mul_left_comm a,Int.mul_left_comm a,Int.mul_left_comm a]
 obtain⟨e0,_,_⟩:=h0;obtain⟨e1,_,_⟩:=h1;obtain⟨e2,_,_⟩:=h2;obtain⟨e3,_,_⟩:=h3;rw[e];omega
theorem zdK {A B:Nat}(hA:A<big)(hB:B<big){q00 c00 q01 c01 q02 c02 q03 c03 q10 c10 q11 c11 q12 c12 q13 c13 q20 c20 q21 c21 q22 c22 q23 c23 q30 c30 q31 c31 q32 c32 q33 c33:Int}(m00:ys (w0 A) (w0 B) 0 0 q00 c00)(m01:ys (w0 A) (w1 B) 0 c00 q01 c01)(m02:ys (w0 A) (w2 B) 0 c01 q02 c02)(m03:ys (w0 A) (w3 B) 0 c02 q03 c03)(m10:ys (w1 A) (w0 B) q01 0 q10 c10)(m11:ys (w1 A) (w1 B) q02 c10 q11 c11)(m12:ys (w1 A) (w2 B) q03 c11 q12 c12)(m13:ys (w1 A) (w3 B) c03 c12 q13 c13)(m20:ys (w2 A) (w0 B) q11 0 q20 c20)(m21:ys (w2 A) (w1 B) q12 c20 q21 c21)(m22:ys (w2 A) (w2 B) q13 c21 q22 c22)(m23:ys (w2 A) (w3 B) c13 c22 q23 c23)(m30:ys (w3 A) (w0 B) q21 0 q30 c30)(m31:ys (w3 A) (w1 B) q22 c30 q31 c31)(m32:ys (w3 A) (w2 B) q23 c31 q32 c32)(m33:ys (w3 A) (w3 B) c23 c32 q33 c33):
 (q00=w0 (pl A B)/\q10=w1 (pl A B)/\q20=w2 (pl A B)/\q30=w3 (pl A B))/\q31=w0 (ph A B)/\q32=w1 (ph A B)/\q33=w2 (ph A B)/\c33=w3 (ph A B):=by
 have a:=jm A hA;have b:=jm B hB;have r0:=kJ m00 m01 m02 m03;have r1:=kJ m10 m11 m12 m13;have r2:=kJ m20 m21 m22 m23;have r3:=kJ m30 m31 m32 m33;rw[<-b]at r0 r1 r2 r3;have e:(A:Int)*B=w0 A*B+0x10000000000000000*(w1 A*B)+0x100000000000000000000000000000000*(w2 A*B)+0x1000000000000000000000000000000000000000000000000*(w3 A*B):=by
  conv=>lhs;rw[a]
  rw[Int.add_mul,Int.add_mul,Int.add_mul,U3,U3,U3]
 have d0:Wd q00:=m00.2.1;have d1:Wd q10:=m10.2.1;have d2:Wd q20:=m20.2.1;have d3:Wd q30:=m30.2.1;have d4:Wd q31:=m31.2.1;have d5:Wd q32:=m32.2.1;have d6:Wd q33:=m33.2.1;have d7:Wd c33:=m33.2.2;have key:(A:Int)*B=q00+0x10000000000000000*q10+0x100000000000000000000000000000000*q20+0x1000000000000000000000000000000000000000000000000*q30+0x10000000000000000000000000000000000000000000000000000000000000000*q31+0x100000000000000000000000000000000000000000000000000000000000000000000000000000000*q32+0x1000000000000000000000000000000000000000000000000000000000000000000000000000000000000000000000000*q33+0x10000000000000000000000000000000000000000000000000000000000000000000000000000000000000000000000000000000000000000*c33:=by omega
 clear r0 r1 r2 r3 e;have lt1:=xG d0 d1 d2 d3;have lt2:=xG d4 d5 d6 d7;have em1:((mk4 q00 q10 q20 q30:Nat):Int)=q00+0x10000000000000000*q10+0x100000000000000000000000000000000*q20+0x1000000000000000000000000000000000000000000000000*q30:=by unfold Wd at d0 d1 d2 d3;unfold mk4;omega
 have em2:((mk4 q31 q32 q33 c33:Nat):Int)=q31+0x10000000000000000*q32+0x100000000000000000000000000000000*q33+0x1000000000000000000000000000000000000000000000000*c33:=by unfold Wd at d4 d5 d6 d7;unfold mk4;omega
 have kn:A*B=mk4 q00 q10 q20 q30+0x10000000000000000000000000000000000000000000000000000000000000000*mk4 q31 q32 q33 c33:=by
  have:((A*B:Nat):Int)=(A:Int)*B:=Uh A B;omega
 have k1:pl A B=mk4 q00 q10 q20 q30:=by unfold pl;unfold big at*;omega
 have k2:ph A B=mk4 q31 q32 q33 c33:=by unfold ph;unfold big at*;omega
 rw[k1,k2];exact⟨⟨(kE d0 d1 d2 d3).symm,(kF d0 d1 d2 d3).symm,(kG d0 d1 d2 d3).symm,(kH d0 d1 d2 d3).symm⟩,(kE d4 d5 d6 d7).symm,(kF d4 d5 d6 d7).symm,(kG d4 d5 d6 d7).symm,(kH d4 d5 d6 d7).symm⟩
end
def NR:Nat:=0xfffffffffffffffffffffffffffffffebaaedce6af48a03bbfd25e8cd0364141
def MOK (M:Nat):Prop:=M<big/\big<2*M
theorem qp:MOK NR:=by unfold MOK NR big;omega
def rs (L H M:Nat):Nat:=(L+big*H)%M
theorem zaK {L H M:Nat}(h:MOK M):rs L H M<big:=Nat.lt_trans (RD _ (by unfold MOK big at h;omega)) h.1
theorem kK {L H M:Nat}(h:MOK M):rs L H M<M:=RD _ (by unfold MOK big at h;omega)
theorem vU (A B:Nat):sm A B<big:=RD _ (by decide)
theorem vV (A B:Nat):df A B<big:=RD _ (by decide)
theorem zaL (A B:Nat):pl A B<big:=RD _ (by decide)
theorem zdL {A B:Nat}(hA:A<big)(hB:B<big):ph A B<big:=by
 unfold ph;exact Nat.div_lt_of_lt_mul (Nat.mul_lt_mul'' hA hB)
theorem zdM (A B:Nat):A*B=pl A B+big*ph A B:=by unfold pl ph;exact(Nat.mod_add_div _ _).symm
theorem zdN {l h M:Nat}(hM:MOK M)(hl:l<big)(hh:h<big)(h0:h≠0):
 ∃h',(h'=if ov l (pl h (df 0 M)) then sm (ph h (df 0 M)) 1 else ph h (df 0 M))/\h'<big/\
  sm l (pl h (df 0 M))+big*h'+h*M=l+big*h:=by
 have hs:df 0 M=big-M:=by unfold df;unfold MOK at hM;rw[QB,QZ];omega
 have hk:=zdM h (df 0 M);have hph:ph h (df 0 M)+1<big:=by
  have:ph h (df 0 M)<big-M:=by
   rw[hs];unfold ph;refine Nat.div_lt_of_lt_mul ?_;exact Nat.mul_lt_mul_of_pos_right hh (by unfold MOK at hM;omega)
  unfold MOK at hM;omega
 have hp:=zaL h (df 0 M);have hmul:h*(big-M)+h*M=big*h:=by rw[<-UK,Nat.sub_add_cancel (Nat.le_of_lt hM.1),Nat.mul_comm]
 rw[<-hs]at hmul;refine⟨_,rfl,?_,?_⟩
 ·split
  ·exact vU _ _
  ·omega
 ·generalize df 0 M=s at*;generalize pl h s=p at*;generalize ph h s=q at*;generalize h*s=hs2 at*;unfold ov sm;by_cases ho:big<=l+p
  ·rw[decide_eq_true ho];simp only[if_true];rw[QZ hph];have:(l+p)%big=l+p-big:=by rw[Nat.mod_eq_sub_mod ho,QZ (by omega)]
   rw[this,UK,Vt];omega
  ·rw[decide_eq_false ho];simp only[RG,if_false];rw[QZ (by omega)];omega
theorem zaM {l h l' h' M L H:Nat}(he:l'+big*h'+h*M=l+big*h)(hm:(l+big*h)%M=rs L H M):(l'+big*h')%M=rs L H M:=by
 rw[<-hm,<-he,Nat.add_mul_mod_self_right]
theorem zaN {l h l' h' M:Nat}(hM:MOK M)(h0:h≠0)(he:l'+big*h'+h*M=l+big*h):l'+big*h'<l+big*h:=by
 have:0<h*M:=Nat.mul_pos (by omega) (by unfold MOK big at hM;omega);omega
theorem zdO {l M L H:Nat}(hM:MOK M)(hl:l<big)(hm:(l+big*0)%M=rs L H M)(hc:M<=l):df l M=rs L H M:=by
 rw[<-hm];unfold df MOK at*;have h1:(l+big-M)%big=l-M:=by
  have:l+big-M=(l-M)+big:=by omega
  rw[this,UL,QZ (by omega)]
 rw[h1,UB,RF,Nat.mod_eq_sub_mod hc,QZ (by omega)]
theorem zdP {l M L H:Nat}(hm:(l+big*0)%M=rs L H M)(hc: ¬M<=l):l=rs L H M:=by
 rw[<-hm,UB,RF,QZ (by omega)]
def yC (A B M:Nat):Nat:=(A%M+(M-B%M))%M
theorem zdQ {A B M:Nat}(hM:MOK M)(h:lo (rs A 0 M) (rs B 0 M)=true):sm (df (rs A 0 M) (rs B 0 M)) M=yC A B M:=by
 have ha:=kK (L:=A) (H:=0) hM;have hb:=kK (L:=B) (H:=0) hM;unfold lo at h;have h:=of_decide_eq_true h;have e1:rs A 0 M=A%M:=by unfold rs;rw[UB,RF]
 have e2:rs B 0 M=B%M:=by unfold rs;rw[UB,RF]
 rw[e1]at ha h⊢;rw[e2]at hb h⊢;unfold yC sm df;unfold MOK at hM;rw[QZ (show A%M+big-B%M<big by omega)];have:A%M+big-B%M+M=(A%M+(M-B%M))+big:=by omega
 rw[this,UL,QZ (show A%M+(M-B%M)<big by omega),QZ (show A%M+(M-B%M)<M by omega)]
theorem zdR {A B M:Nat}(hM:MOK M)(h:lo (rs A 0 M) (rs B 0 M)=false):df (rs A 0 M) (rs B 0 M)=yC A B M:=by
 have ha:=kK (L:=A) (H:=0) hM;have hb:=kK (L:=B) (H:=0) hM;unfold lo at h;have h:=of_decide_eq_false h;have e1:rs A 0 M=A%M:=by unfold rs;rw[UB,RF]
 have e2:rs B 0 M=B%M:=by unfold rs;rw[UB,RF]
 rw[e1]at ha h⊢;rw[e2]at hb h⊢;unfold yC df;unfold MOK at hM;have t1:A%M+big-B%M=(A%M-B%M)+big:=by omega
 have t2:A%M+(M-B%M)=(A%M-B%M)+M:=by omega
 rw[t1,t2,UL,UL,QZ (show A%M-B%M<big by omega),QZ (show A%M-B%M<M by omega)]
theorem zaO {A B M:Nat}(h:MOK M):yC A B M<big:=Nat.lt_trans (RD _ (by unfold MOK big at h;omega)) h.1
end Go.Proofs.Ytdaeahhkiilbaaa
namespace Go.Proofs.Ec
open Go.Proofs.Ytdaeahhkiilbaaa Go.Proofs.Zm
section
variable {F:Type}[Lean.Grind.Field F][DecidableEq F]
structure zdS (b:F):Prop where
 two:(2:F)≠0
 three:(3:F)≠0
 b:b≠0
variable {b:F}(g:zdS b)
include g
end
end Go.Proofs.Ec
namespace Go.Proofs.Ytdaeahhkiilbaaa
section
open Go.ChangeShapes Go.WideShapes Go.ChangeAt
theorem zdT (A B:Nat)(hA:A<big)(hB:B<big)(w:World):Calls Try.prog 103 #[uv A,uv B] w fun e w'=>e=.returned (.tuple #[uv (pl A B),uv (ph A B)])/\Below w.heap.size w w':=by
 have z:Wd 0:=by unfold Wd;omega
 have a0:=wd0 A;have b0:=wd0 B;have a1:=wd1 A;have b1:=wd1 B;have a2:=wd2 A;have b2:=wd2 B;have a3:=wd3 A;have b3:=wd3 B;obtain⟨l00,o00,q00,u00,r00,t00,v00,x00,m00⟩:=yQ a0 b0 z z;have dq00:=m00.2.1;have dc00:=m00.2.2;obtain⟨l01,o01,q01,u01,r01,t01,v01,x01,m01⟩:=yQ a0 b1 z dc00;have dq01:=m01.2.1;have dc01:=m01.2.2;obtain⟨l02,o02,q02,u02,r02,t02,v02,x02,m02⟩:=yQ a0 b2 z dc01;have dq02:=m02.2.1;have dc02:=m02.2.2;obtain⟨l03,o03,q03,u03,r03,t03,v03,x03,m03⟩:=yQ a0 b3 z dc02;have dq03:=m03.2.1;have dc03:=m03.2.2;obtain⟨l10,o10,q10,u10,r10,t10,v10,x10,m10⟩:=yQ a1 b0 dq01 z;have dq10:=m10.2.1;have dc10:=m10.2.2;obtain⟨l11,o11,q11,u11,r11,t11,v11,x11,m11⟩:=yQ a1 b1 dq02 dc10;have dq11:=m11.2.1;have dc11:=m11.2.2;obtain⟨l12,o12,q12,u12,r12,t12,v12,x12,m12⟩:=yQ a1 b2 dq03 dc11;have dq12:=m12.2.1;have dc12:=m12.2.2;obtain⟨l13,o13,q13,u13,r13,t13,v13,x13,m13⟩:=yQ a1 b3 dc03 dc12;have dq13:=m13.2.1;have dc13:=m13.2.2;obtain⟨l20,o20,q20,u20,r20,t20,v20,x20,m20⟩:=yQ a2 b0 dq11 z;have dq20:=m20.2.1;have dc20:=m20.2.2;obtain⟨l21,o21,q21,u21,r21,t21,v21,x21,m21⟩:=yQ a2 b1 dq12 dc20;have dq21:=m21.2.1;have dc21:=m21.2.2;obtain⟨l22,o22,q22,u22,r22,t22,v22,x22,m22⟩:=yQ a2 b2 dq13 dc21;have dq22:=m22.2.1;have dc22:=m22.2.2;obtain⟨l23,o23,q23,u23,r23,t23,v23,x23,m23⟩:=yQ a2 b3 dc13 dc22;have dq23:=m23.2.1;have dc23:=m23.2.2;obtain⟨l30,o30,q30,u30,r30,t30,v30,x30,m30⟩:=yQ a3 b0 dq21 z;have dq30:=m30.2.1;have dc30:=m30.2.2;obtain⟨l31,o31,q31,u31,r31,t31,v31,x31,m31⟩:=yQ a3 b1 dq22 dc30;have dq31:=m31.2.1;have dc31:=m31.2.2;obtain⟨l32,o32,q32,u32,r32,t32,v32,x32,m32⟩:=yQ a3 b2 dq23 dc31;have dq32:=m32.2.1;have dc32:=m32.2.2;obtain⟨l33,o33,q33,u33,r33,t33,v33,x33,m33⟩:=yQ a3 b3 dc23 dc32;have dq33:=m33.2.1;have dc33:=m33.2.2;obtain⟨⟨g0,g1,g2,g3⟩,g4,g5,g6,g7⟩:=zdK hA hB m00 m01 m02 m03 m10 m11 m12 m13 m20 m21 m22 m23 m30 m31 m32 m33;clear m00 m01 m02 m03 m10 m11 m12 m13 m20 m21 m22 m23 m30 m31 m32 m33;unfold uv;rw[<-g0,<-g1,<-g2,<-g3,<-g4,<-g5,<-g6,<-g7];clear g0 g1 g2 g3 g4 g5 g6 g7;have i0:=ix0;have i1:=ix1;have i2:=ix2;have i3:=ix3
 go_enter Try.func103,Try.ntmps103
 go_wp2
 refine wp_loop_rounds 5 ?_;rw[rounds_succ]
 go_wp2
 refine wp_loop_rounds 5 ?_;rw[rounds_succ]
 go_wp2_with (go_at_call 106;refine(yw (by assumption) (by assumption) _).mono ?_;rintro e w' ⟨rfl,rfl⟩)
 rw[rounds_succ]
 go_wp2_with (go_at_call 106;refine(yw (by assumption) (by assumption) _).mono ?_;rintro e w' ⟨rfl,rfl⟩)
 rw[rounds_succ]
 go_wp2_with (go_at_call 106;refine(yw (by assumption) (by assumption) _).mono ?_;rintro e w' ⟨rfl,rfl⟩)
 rw[rounds_succ]
 go_wp2_with (go_at_call 106;refine(yw (by assumption) (by assumption) _).mono ?_;rintro e w' ⟨rfl,rfl⟩)
 rw[rounds_succ]
 go_wp2_with (go_at_call 106;refine(yw (by assumption) (by assumption) _).mono ?_;rintro e w' ⟨rfl,rfl⟩)
 rw[rounds_succ]
 go_wp2
 refine wp_loop_rounds 5 ?_;rw[rounds_succ]
 go_wp2_with (go_at_call 106;refine(yw (by assumption) (by assumption) _).mono ?_;rintro e w' ⟨rfl,rfl⟩)
 rw[rounds_succ]
 go_wp2_with (go_at_call 106;refine(yw (by assumption) (by assumption) _).mono ?_;rintro e w' ⟨rfl,rfl⟩)
 rw[rounds_succ]
 go_wp2_with (go_at_call 106;refine(yw (by assumption) (by assumption) _).mono ?_;rintro e w' ⟨rfl,rfl⟩)
 rw[rounds_succ]
 go_wp2_with (go_at_call 106;refine(yw (by assumption) (by assumption) _).mono ?_;rintro e w' ⟨rfl,rfl⟩)
 rw[rounds_succ]
 go_wp2_with (go_at_call 106;refine(yw (by assumption) (by assumption) _).mono ?_;rintro e w' ⟨rfl,rfl⟩)
 rw[rounds_succ]
 go_wp2
 refine wp_loop_rounds 5 ?_;rw[rounds_succ]
 go_wp2_with (go_at_call 106;refine(yw (by assumption) (by assumption) _).mono ?_;rintro e w' ⟨rfl,rfl⟩)
 rw[rounds_succ]
 go_wp2_with (go_at_call 106;refine(yw (by assumption) (by assumption) _).mono ?_;rintro e w' ⟨rfl,rfl⟩)
 rw[rounds_succ]
 go_wp2_with (go_at_call 106;refine(yw (by assumption) (by assumption) _).mono ?_;rintro e w' ⟨rfl,rfl⟩)
 rw[rounds_succ]
 go_wp2_with (go_at_call 106;refine(yw (by assumption) (by assumption) _).mono ?_;rintro e w' ⟨rfl,rfl⟩)
 rw[rounds_succ]
 go_wp2_with (go_at_call 106;refine(yw (by assumption) (by assumption) _).mono ?_;rintro e w' ⟨rfl,rfl⟩)
 rw[rounds_succ]
 go_wp2
 refine wp_loop_rounds 5 ?_;rw[rounds_succ]
 go_wp2_with (go_at_call 106;refine(yw (by assumption) (by assumption) _).mono ?_;rintro e w' ⟨rfl,rfl⟩)
 rw[rounds_succ]
 go_wp2_with (go_at_call 106;refine(yw (by assumption) (by assumption) _).mono ?_;rintro e w' ⟨rfl,rfl⟩)
 rw[rounds_succ]
 go_wp2_with (go_at_call 106;refine(yw (by assumption) (by assumption) _).mono ?_;rintro e w' ⟨rfl,rfl⟩)
 rw[rounds_succ]
 go_wp2_with (go_at_call 106;refine(yw (by assumption) (by assumption) _).mono ?_;rintro e w' ⟨rfl,rfl⟩)
 rw[rounds_succ]
 go_wp2_with (go_at_call 106;refine(yw (by assumption) (by assumption) _).mono ?_;rintro e w' ⟨rfl,rfl⟩)
 rw[rounds_succ]
 go_wp2
 go_region
 all_goals (go_wp2;go_returns;exact⟨rfl,by go_grown⟩)
end
section
open Go.ChangeShapes Go.WideShapes Go.ChangeAt Go.Shelf
end
def len (A:Nat):Nat:=if A=0 then 0 else Nat.log2 A+1
section
open Go.ChangeShapes Go.WideShapes Go.ChangeAt
def cm (A B:Nat):Int:=if A=B then 0 else if A<B then-1 else 1
def cmK (A B k:Nat):Int:=cm (A%0x10000000000000000^k) (B%0x10000000000000000^k)
theorem zdU (A B:Nat):cmK A B 0=0:=by unfold cmK cm;simp[Nat.mod_one]
theorem zdV (a b x y W:Nat)(hx:x<W)(hy:y<W):cm (x+W*a) (y+W*b)=if a<b then-1 else if b<a then 1 else cm x y:=by
 unfold cm;rcases R6 a b with h | h | h
 ·have:W*(a+1)<=W*b:=U1 _ h;rw[UK]at this;rw[if_pos h,if_neg (by omega),if_pos (by omega)]
 ·subst h;have h1:(x+W*a=y+W*a)=(x=y):=by rw[eq_iff_iff];omega
  have h2:(x+W*a<y+W*a)=(x<y):=by rw[eq_iff_iff];omega
  simp only[h1,h2,UC,if_false]
 ·have:W*(b+1)<=W*a:=U1 _ h;rw[UK]at this;rw[if_neg (by omega),if_pos h,if_neg (by omega),if_neg (by omega)]
def wk (A k:Nat):Nat:=A / 0x10000000000000000^k%0x10000000000000000
theorem zdW (A B k:Nat):cmK A B (k+1)=if wk A k<wk B k then-1 else if wk B k<wk A k then 1 else cmK A B k:=by
 unfold cmK wk;rw[U9,Nat.mod_mul,Nat.mod_mul,zdV _ _ _ _ _ (RD _ (Nat.pow_pos (by omega))) (RD _ (Nat.pow_pos (by omega)))]
theorem zdX (A B:Nat)(hA:A<big)(hB:B<big):cmK A B 4=cm A B:=by
 unfold cmK;have e:0x10000000000000000^4=big:=rfl;rw[e,QZ hA,QZ hB]
theorem wk0 (A:Nat):w0 A=((wk A 0:Nat):Int):=by unfold w0 wk;simp
theorem wk1 (A:Nat):w1 A=((wk A 1:Nat):Int):=rfl
theorem wk2 (A:Nat):w2 A=((wk A 2:Nat):Int):=rfl
theorem wk3 (A:Nat):w3 A=((wk A 3:Nat):Int):=rfl
theorem zdY (A B:Nat)(hA:A<big)(hB:B<big)(w:World):Calls Try.prog 95 #[uv A,uv B] w fun e w'=>e=.returned (.int .i64 (cm A B))/\Below w.heap.size w w':=by
 have i0:=ix0;have i1:=ix1;have i2:=ix2;have i3:=ix3;have HF:=Ui (zdX A B hA hB);unfold uv
 go_enter Try.func95,Try.ntmps95
 go_wp2
 go_loop [5,9] (fun r i=> ∃k:Nat,k<=4/\i=.int .i64 k/\r=.int .i64 (cmK A B k)) (fun _ i=>4-(intOf i).toNat)
 case atStart=>exact⟨0,by omega,rfl,by rw[zdU]⟩
 case round=>
  obtain⟨k,hk,rfl,rfl⟩:=hrel;have hn:=zdW A B k;have hk5:k=0\/k=1\/k=2\/k=3\/k=4:=by omega
  rcases hk5 with rfl|rfl|rfl|rfl|rfl
  ·rcases R6 (wk A 0) (wk B 0) with h|h|h
   ·rw[if_pos h]at hn;have HN:=Ui hn;have h1:w0 A<w0 B:=by rw[wk0,wk0];omega
    clear hn h
    go_wp2
    go_round
    case rel=>exact⟨1,by omega,by go_num,by rw[HN.out]⟩
    case measure=>simp[intOf]
   ·rw[if_neg (by omega),if_neg (by omega)]at hn;have HN:=Ui hn;have h1: ¬w0 A<w0 B:=by rw[wk0,wk0];omega
    have h2: ¬w0 B<w0 A:=by rw[wk0,wk0];omega
    clear hn h
    go_wp2
    go_round
    case rel=>exact⟨1,by omega,by go_num,by rw[HN.out]⟩
    case measure=>simp[intOf]
   ·rw[if_neg (by omega),if_pos h]at hn;have HN:=Ui hn;have h1: ¬w0 A<w0 B:=by rw[wk0,wk0];omega
    have h2:w0 B<w0 A:=by rw[wk0,wk0];omega
    clear hn h
    go_wp2
    go_round
    case rel=>exact⟨1,by omega,by go_num,by rw[HN.out]⟩
    case measure=>simp[intOf]
  ·rcases R6 (wk A 1) (wk B 1) with h|h|h
   ·rw[if_pos h]at hn;have HN:=Ui hn;have h1:w1 A<w1 B:=by rw[wk1,wk1];omega
    clear hn h
    go_wp2
    go_round
    case rel=>exact⟨2,by omega,by go_num,by rw[HN.out]⟩
    case measure=>simp[intOf]
   ·rw[if_neg (by omega),if_neg (by omega)]at hn;have HN:=Ui hn;have h1: ¬w1 A<w1 B:=by rw[wk1,wk1];omega
    have h2: ¬w1 B<w1 A:=by rw[wk1,wk1];omega
    clear hn h
    go_wp2
    go_round
    case rel=>exact⟨2,by omega,by go_num,by rw[HN.out]⟩
    case measure=>simp[intOf]
   ·rw[if_neg (by omega),if_pos h]at hn;have HN:=Ui hn;have h1: ¬w1 A<w1 B:=by rw[wk1,wk1];omega
    have h2:w1 B<w1 A:=by rw[wk1,wk1];omega
    clear hn h
    go_wp2
    go_round
    case rel=>exact⟨2,by omega,by go_num,by rw[HN.out]⟩
    case measure=>simp[intOf]
  ·rcases R6 (wk A 2) (wk B 2) with h|h|h
   ·rw[if_pos h]at hn;have HN:=Ui hn;have h1:w2 A<w2 B:=by rw[wk2,wk2];omega
    clear hn h
    go_wp2
    go_round
    case rel=>exact⟨3,by omega,by go_num,by rw[HN.out]⟩
    case measure=>simp[intOf]
   ·rw[if_neg (by omega),if_neg (by omega)]at hn;have HN:=Ui hn;have h1: ¬w2 A<w2 B:=by rw[wk2,wk2];omega
    have h2: ¬w2 B<w2 A:=by rw[wk2,wk2];omega
    clear hn h
    go_wp2
    go_round
    case rel=>exact⟨3,by omega,by go_num,by rw[HN.out]⟩
    case measure=>simp[intOf]
   ·rw[if_neg (by omega),if_pos h]at hn;have HN:=Ui hn;have h1: ¬w2 A<w2 B:=by rw[wk2,wk2];omega
    have h2:w2 B<w2 A:=by rw[wk2,wk2];omega
    clear hn h
    go_wp2
    go_round
    case rel=>exact⟨3,by omega,by go_num,by rw[HN.out]⟩
    case measure=>simp[intOf]
  ·rcases R6 (wk A 3) (wk B 3) with h|h|h
   ·rw[if_pos h]at hn;have HN:=Ui hn;have h1:w3 A<w3 B:=by rw[wk3,wk3];omega
    clear hn h
    go_wp2
    go_round
    case rel=>exact⟨4,by omega,by go_num,by rw[HN.out]⟩
    case measure=>simp[intOf]
   ·rw[if_neg (by omega),if_neg (by omega)]at hn;have HN:=Ui hn;have h1: ¬w3 A<w3 B:=by rw[wk3,wk3];omega
    have h2: ¬w3 B<w3 A:=by rw[wk3,wk3];omega
    clear hn h
    go_wp2
    go_round
    case rel=>exact⟨4,by omega,by go_num,by rw[HN.out]⟩
    case measure=>simp[intOf]
   ·rw[if_neg (by omega),if_pos h]at hn;have HN:=Ui hn;have h1: ¬w3 A<w3 B:=by rw[wk3,wk3];omega
    have h2:w3 B<w3 A:=by rw[wk3,wk3];omega
    clear hn h
    go_wp2
    go_round
    case rel=>exact⟨4,by omega,by go_num,by rw[HN.out]⟩
    case measure=>simp[intOf]
  ·clear hn
   go_wp2
   go_ret
   exact⟨by rw[<-HF.out];rfl,by go_grown⟩
theorem zdZ (d:Nat)(a0 a1 a2 a3 b0 b1 b2 b3:Int)(w:World):
 (UR (d+2) 64 (.agg #[.int .u64 a0,.int .u64 a1,.int .u64 a2,.int .u64 a3]) (.agg #[.int .u64 b0,.int .u64 b1,.int .u64 b2,.int .u64 b3])).run Try.prog w
  =.ok (a0==b0&&(a1==b1&&(a2==b2&&a3==b3))) w:=by
 have e: ∀x y:Int,(UR (d+1) 23 (.int .u64 x) (.int .u64 y)).run Try.prog w=.ok (x==y) w:=fun x y=>run_equalIn_int w d 23 .u64 .u64 x y Try.underlying23;have s:(sizeOf 23).run Try.prog w=.ok 1 w:=by kernel_rfl
 have p0: ∀x y z u:Int,(part 23 #[.int .u64 x,.int .u64 y,.int .u64 z,.int .u64 u] 0).run Try.prog w=.ok (.int .u64 x) w:=fun x y z u=>by kernel_rfl
 have p1: ∀x y z u:Int,(part 23 #[.int .u64 x,.int .u64 y,.int .u64 z,.int .u64 u] 1).run Try.prog w=.ok (.int .u64 y) w:=fun x y z u=>by kernel_rfl
 have p2: ∀x y z u:Int,(part 23 #[.int .u64 x,.int .u64 y,.int .u64 z,.int .u64 u] 2).run Try.prog w=.ok (.int .u64 z) w:=fun x y z u=>by kernel_rfl
 have p3: ∀x y z u:Int,(part 23 #[.int .u64 x,.int .u64 y,.int .u64 z,.int .u64 u] 3).run Try.prog w=.ok (.int .u64 u) w:=fun x y z u=>by kernel_rfl
 rw[UR];simp only[QW,run_underlying Try.underlying64,QG,s,Std.Legacy.Range.forIn_eq_forIn_range',Std.Legacy.Range.size];simp only[show (4-0+1-1) / 1=4 from rfl,List.range',List.forIn_cons,List.forIn_nil];cases c0:(a0==b0)
 ·simp[p0,e,c0]
 ·cases c1:(a1==b1)
  ·simp[p0,p1,e,c0,c1]
  ·cases c2:(a2==b2)
   ·simp[p0,p1,p2,e,c0,c1,c2]
   ·cases c3:(a3==b3)
    ·simp[p0,p1,p2,p3,e,c0,c1,c2,c3]
    ·simp[p0,p1,p2,p3,e,c0,c1,c2,c3]
theorem eqU (a0 a1 a2 a3 b0 b1 b2 b3:Int)(w:World):
 (UR 10000 64 (.agg #[.int .u64 a0,.int .u64 a1,.int .u64 a2,.int .u64 a3]) (.agg #[.int .u64 b0,.int .u64 b1,.int .u64 b2,.int .u64 b3])).run Try.prog w
  =.ok (a0==b0&&(a1==b1&&(a2==b2&&a3==b3))) w:=zdZ 9998 a0 a1 a2 a3 b0 b1 b2 b3 w
end
theorem vW (A B:Nat)(hA:A<big)(hB:B<big):Fn Try.prog 101 #[uv A,uv B] (.tuple #[uv (sm A B),.bool (ov A B)]):=zdH A B hA hB
theorem vX (A B:Nat)(hA:A<big)(hB:B<big):Fn Try.prog 99 #[uv A,uv B] (.tuple #[uv (df A B),.bool (lo A B)]):=zdI A B hA hB
theorem zd0 (A B:Nat)(hA:A<big)(hB:B<big):Fn Try.prog 103 #[uv A,uv B] (.tuple #[uv (pl A B),uv (ph A B)]):=zdT A B hA hB
theorem xH (A B:Nat)(hA:A<big)(hB:B<big):Fn Try.prog 95 #[uv A,uv B] (.int .i64 (cm A B)):=zdY A B hA hB
theorem zd1 (n:Nat)(h:n<0x10000000000000000):Fn Try.prog 104 #[.int .u64 (n:Int)] (uv n):=fun w=>(zdG n w).mono fun e w' ⟨he,hb⟩=>⟨by
 rw[he];have e0:w0 n=(n:Int):=by unfold w0;omega
 have e1:w1 n=0:=by unfold w1;omega
 have e2:w2 n=0:=by unfold w2;omega
 have e3:w3 n=0:=by unfold w3;omega
 unfold uv;rw[e0,e1,e2,e3],hb⟩
theorem zd2 {A B:Nat}(hA:A<big)(hB:B<big):(w0 A==w0 B&&(w1 A==w1 B&&(w2 A==w2 B&&w3 A==w3 B)))=decide (A=B):=by
 rw[RQ];simp only[Qo,beq_iff_eq,decide_eq_true_eq];exact⟨fun⟨a,b,c,d⟩=>zdC hA hB a b c d,fun h=>by subst h;exact⟨rfl,rfl,rfl,rfl⟩⟩
theorem jC {ρ:Env}(A B:Nat)(hA:A<big)(hB:B<big){x y:Operand}{o:Oper}(w:World)(ho:o.op=.binOp .neq 64 x y 64)(hx:ev ρ x=uv A)(hy:ev ρ y=uv B):
 (execOp (ev ρ) o).run Try.prog w=.ok (.value (.bool (!decide (A=B)))) w:=by
 have q:=eqU;have e:=zd2 hA hB;unfold execOp;simp only[ho,hx,hy]
 go_simp
theorem zd3 {A B:Nat}(h:B<=A):cm A B≥0:=by unfold cm;split<;>(try split)<;>omega
theorem zd4 {A B:Nat}(h: ¬B<=A): ¬cm A B≥0:=by unfold cm;split<;>(try split)<;>omega
theorem zaP (L H M:Nat)(hL:L<big)(hH:H<big)(hM:MOK M):Fn Try.prog 100 #[uv L,uv H,uv M] (uv (rs L H M)):=by
 refine Fn.intro (c:=zk Try.f100) [.cell 6 64] 54 Try.func100 kr kr kr fun w=>?_;have H0:=St.start w;refine ze [0,1,2,3] kr kr<|qm H0 (some 3) 64 (.tmp 0) (uv L) kr kr kr ?_;intro b1 w1 H1;clear H0;refine qm H1 (some 4) 64 (.tmp 1) (uv H) kr kr kr ?_;intro b2 w2 H2;clear H1;refine qm H2 (some 5) 64 (.tmp 2) (uv M) kr kr kr ?_;intro b3 w3 H3;clear H2;refine zY H3 (some 6) 64 (.agg #[wZ,wZ,wZ,wZ]) kr kr kr ?_;intro b4 w4 H4;clear H3;refine zc<|ze [0,1,2,3,4,5,6,7,8] kr kr<|zt (some 14) (.agg #[wZ,wZ,wZ,wZ]) (fun w=>by kernel_rfl) kr<|yJ H4 (some 15) 64 (.tmp 5) 1 b3 (Qk (uv M)) 64 (0,0) kr kr kr kr kr<|ji H4 (some 16) 99 #[.agg #[wZ,wZ,wZ,wZ],uv M] (.tuple #[uv (df 0 M),.bool (lo 0 M)]) (vX 0 M (by unfold big;omega) hM.1) (fun w=>by kernel_rfl) kr ?_;intro w5 H5;clear H4;refine zt (some 13) (.tuple #[uv (df 0 M),.bool (lo 0 M)]) (fun w=>by kernel_rfl) kr<|zt (some 17) (uv (df 0 M)) (fun w=>by kernel_rfl) kr<|zt (some 18) (.bool (lo 0 M)) (fun w=>by kernel_rfl) kr<|zY H5 (some 7) 64 (.agg #[wZ,wZ,wZ,wZ]) kr kr kr ?_;intro b5 w6 H6;clear H5;refine qt H6 0 [(b5,Qj (Qk (uv (df 0 M))) 64),(b4,Qj #[wZ,wZ,wZ,wZ] 64 (0,0)),(b3,Qj (Qk (uv M)) 64),(b2,Qj (Qk (uv H)) 64),(b1,Qj (Qk (uv L)) 64)] 64 (.tmp 7) (.tmp 17) b5 0 #[wZ,wZ,wZ,wZ] (Qk (uv (df 0 M))) 64 (uv (df 0 M)) kr kr kr kr kr kr (of_decide_eq_true kr) kr kr ?_;intro w7 H7;clear H6;refine zt (some 8) (.bool (lo 0 M)) (fun w=>by kernel_rfl) kr<|zc<|zb kr<|zS 0 kr<|qs kr (fun m ρ x=> ∃(l:Nat) (h:Nat),l+big*h=m/\(l<big)/\(h<big)/\((l+big*h)%M=rs L H M)/\St w.heap.size w x [(b5,Qj (Qk (uv (df 0 M))) 64),(b4,Qj #[wZ,wZ,wZ,wZ] 64 (0,0)),(b3,Qj (Qk (uv M)) 64),(b2,Qj (Qk (uv h)) 64),(b1,Qj (Qk (uv l)) 64)]/\Is [(0,uv L),(1,uv H),(2,uv M),(3,Qe b1),(4,Qe b2),(5,Qe b3),(6,Qe b4),(7,Qe b5)] ρ) (L+big*H) ⟨L,H,rfl,hL,hH,rfl,H7,(Is.of ⟨kr,kr,kr,kr,kr,kr,kr,kr,trivial⟩)⟩ ?_;clear H7;rintro _ _ w8 ⟨l,h,rfl,hl,hh,hm,H8,_,rfl⟩;refine zb kr<|ze [0,1,2] kr kr<|yJ H8 (some 19) 64 (.tmp 4) 3 b2 (Qk (uv h)) 64 (0,0) kr kr kr kr kr<|zt (some 20) (.agg #[wZ,wZ,wZ,wZ]) (fun w=>by kernel_rfl) kr ?_;by_cases hne:h=0
 ·refine uX (some 21) _ (.bool (!decide (h=0))) (.bool false) kr (fun o w ho=>jC (x:=(.tmp 19)) (y:=(.tmp 20)) h 0 hh (by unfold big;omega) w ho kr kr) (by rw[decide_eq_true hne];rfl) kr ?_;have hm0:(l+big*0)%M=rs L H M:=by rw[hne]at hm;exact hm
  refine zc<|zE kr kr<|yW 0 kr<|wW<|zb kr<|ze [0,1,2,3] kr kr<|yJ H8 (some 43) 64 (.tmp 3) 4 b1 (Qk (uv l)) 64 (0,0) kr kr kr kr kr<|yJ H8 (some 44) 64 (.tmp 5) 2 b3 (Qk (uv M)) 64 (0,0) kr kr kr kr kr<|ji H8 (some 45) 95 #[uv l,uv M] (.int .i64 (cm l M)) (xH l M hl hM.1) (fun w=>by kernel_rfl) kr ?_;intro w9 H9;clear H8;by_cases hc:M<=l
  ·refine xo (some 46) (.bool (decide (0<=cm l M))) (.bool true) (fun w=>by kernel_rfl) (za (decide_eq_true (zd3 hc))) kr<|zc<|zK kr kr<|ql [0,1,2,3,4,5,6] kr<|yJ H9 (some 48) 64 (.tmp 3) 4 b1 (Qk (uv l)) 64 (0,0) kr kr kr kr kr<|yJ H9 (some 49) 64 (.tmp 5) 2 b3 (Qk (uv M)) 64 (0,0) kr kr kr kr kr<|ji H9 (some 50) 99 #[uv l,uv M] (.tuple #[uv (df l M),.bool (lo l M)]) (vX l M hl hM.1) (fun w=>by kernel_rfl) kr ?_;intro w10 H10;clear H9;refine zt (some 47) (.tuple #[uv (df l M),.bool (lo l M)]) (fun w=>by kernel_rfl) kr<|zt (some 51) (uv (df l M)) (fun w=>by kernel_rfl) kr<|zt (some 52) (.bool (lo l M)) (fun w=>by kernel_rfl) kr<|qt H10 4 [(b5,Qj (Qk (uv (df 0 M))) 64),(b4,Qj #[wZ,wZ,wZ,wZ] 64 (0,0)),(b3,Qj (Qk (uv M)) 64),(b2,Qj (Qk (uv h)) 64),(b1,Qj (Qk (uv (df l M))) 64)] 64 (.tmp 3) (.tmp 51) b1 0 (Qk (uv l)) (Qk (uv (df l M))) 64 (uv (df l M)) kr kr kr kr kr kr (of_decide_eq_true kr) kr kr ?_;intro w11 H11;clear H10;refine zc<|wW<|ze [0,1] kr kr<|yJ H11 (some 53) 64 (.tmp 3) 4 b1 (Qk (uv (df l M))) 64 (0,0) kr kr kr kr kr<|qt H11 1 [(b5,Qj (Qk (uv (df 0 M))) 64),(b4,Qj (Qk (uv (df l M))) 64),(b3,Qj (Qk (uv M)) 64),(b2,Qj (Qk (uv h)) 64),(b1,Qj (Qk (uv (df l M))) 64)] 64 (.tmp 6) (.tmp 53) b4 0 #[wZ,wZ,wZ,wZ] (Qk (uv (df l M))) 64 (uv (df l M)) kr kr kr kr kr kr (of_decide_eq_true kr) kr kr ?_;intro w12 H12;clear H11;refine zc<|zA kr<|wV ?_;refine⟨[uv (df l M)],(.agg (b:=b4) (Qk (uv (df l M))) 64 (0,0) kr (H12.get 1 kr) kr .nil),?_,H12.below⟩;exact congrArg uv (zdO hM hl hm0 hc)
  ·refine xo (some 46) (.bool (decide (0<=cm l M))) (.bool false) (fun w=>by kernel_rfl) (za (decide_eq_false (zd4 hc))) kr<|zc<|zE kr kr<|zI kr<|wW<|ze [0,1] kr kr<|yJ H9 (some 53) 64 (.tmp 3) 4 b1 (Qk (uv l)) 64 (0,0) kr kr kr kr kr<|qt H9 1 [(b5,Qj (Qk (uv (df 0 M))) 64),(b4,Qj (Qk (uv l)) 64),(b3,Qj (Qk (uv M)) 64),(b2,Qj (Qk (uv h)) 64),(b1,Qj (Qk (uv l)) 64)] 64 (.tmp 6) (.tmp 53) b4 0 #[wZ,wZ,wZ,wZ] (Qk (uv l)) 64 (uv l) kr kr kr kr kr kr (of_decide_eq_true kr) kr kr ?_;intro w13 H13;clear H9;refine zc<|zA kr<|wV ?_;refine⟨[uv l],(.agg (b:=b4) (Qk (uv l)) 64 (0,0) kr (H13.get 1 kr) kr .nil),?_,H13.below⟩;exact congrArg uv (zdP hm0 hc)
 ·refine uX (some 21) _ (.bool (!decide (h=0))) (.bool true) kr (fun o w ho=>jC (x:=(.tmp 19)) (y:=(.tmp 20)) h 0 hh (by unfold big;omega) w ho kr kr) (by rw[decide_eq_false hne];rfl) kr<|zc<|zK kr kr<|zI kr<|wW<|zS 1 kr<|ze [0,1,2,3,4,5,6,7,8,9] kr kr<|yJ H8 (some 23) 64 (.tmp 4) 3 b2 (Qk (uv h)) 64 (0,0) kr kr kr kr kr<|yJ H8 (some 24) 64 (.tmp 7) 0 b5 (Qk (uv (df 0 M))) 64 (0,0) kr kr kr kr kr<|ji H8 (some 25) 103 #[uv h,uv (df 0 M)] (.tuple #[uv (pl h (df 0 M)),uv (ph h (df 0 M))]) (zd0 h (df 0 M) hh (vV _ _)) (fun w=>by kernel_rfl) kr ?_;intro w14 H14;clear H8;refine zt (some 22) (.tuple #[uv (pl h (df 0 M)),uv (ph h (df 0 M))]) (fun w=>by kernel_rfl) kr<|zt (some 26) (uv (pl h (df 0 M))) (fun w=>by kernel_rfl) kr<|zt (some 27) (uv (ph h (df 0 M))) (fun w=>by kernel_rfl) kr<|zY H14 (some 9) 64 (.agg #[wZ,wZ,wZ,wZ]) kr kr kr ?_;intro b6 w15 H15;clear H14;refine zY H15 (some 10) 64 (.agg #[wZ,wZ,wZ,wZ]) kr kr kr ?_;intro b7 w16 H16;clear H15;refine qt H16 1 [(b7,Qj #[wZ,wZ,wZ,wZ] 64 (0,0)),(b6,Qj (Qk (uv (pl h (df 0 M)))) 64 (0,0)),(b5,Qj (Qk (uv (df 0 M))) 64),(b4,Qj #[wZ,wZ,wZ,wZ] 64 (0,0)),(b3,Qj (Qk (uv M)) 64),(b2,Qj (Qk (uv h)) 64),(b1,Qj (Qk (uv l)) 64)] 64 (.tmp 9) (.tmp 26) b6 0 #[wZ,wZ,wZ,wZ] (Qk (uv (pl h (df 0 M)))) 64 (uv (pl h (df 0 M))) kr kr kr kr kr kr (of_decide_eq_true kr) kr kr ?_;intro w17 H17;clear H16;refine qt H17 0 [(b7,Qj (Qk (uv (ph h (df 0 M)))) 64 (0,0)),(b6,Qj (Qk (uv (pl h (df 0 M)))) 64 (0,0)),(b5,Qj (Qk (uv (df 0 M))) 64),(b4,Qj #[wZ,wZ,wZ,wZ] 64 (0,0)),(b3,Qj (Qk (uv M)) 64),(b2,Qj (Qk (uv h)) 64),(b1,Qj (Qk (uv l)) 64)] 64 (.tmp 10) (.tmp 27) b7 0 #[wZ,wZ,wZ,wZ] (Qk (uv (ph h (df 0 M)))) 64 (uv (ph h (df 0 M))) kr kr kr kr kr kr (of_decide_eq_true kr) kr kr ?_;intro w18 H18;clear H17;refine zc<|ze [0,1,2,3,4,5,6,7,8] kr kr<|yJ H18 (some 29) 64 (.tmp 3) 6 b1 (Qk (uv l)) 64 (0,0) kr kr kr kr kr<|yJ H18 (some 30) 64 (.tmp 9) 1 b6 (Qk (uv (pl h (df 0 M)))) 64 (0,0) kr kr kr kr kr<|ji H18 (some 31) 101 #[uv l,uv (pl h (df 0 M))] (.tuple #[uv (sm l (pl h (df 0 M))),.bool (ov l (pl h (df 0 M)))]) (vW l (pl h (df 0 M)) hl (zaL _ _)) (fun w=>by kernel_rfl) kr ?_;intro w19 H19;clear H18;refine zt (some 28) (.tuple #[uv (sm l (pl h (df 0 M))),.bool (ov l (pl h (df 0 M)))]) (fun w=>by kernel_rfl) kr<|zt (some 32) (uv (sm l (pl h (df 0 M)))) (fun w=>by kernel_rfl) kr<|zt (some 33) (.bool (ov l (pl h (df 0 M)))) (fun w=>by kernel_rfl) kr<|zY H19 (some 11) 64 (.agg #[wZ,wZ,wZ,wZ]) kr kr kr ?_;intro b8 w20 H20;clear H19;refine qt H20 0 [(b8,Qj (Qk (uv (sm l (pl h (df 0 M))))) 64 (0,0)),(b7,Qj (Qk (uv (ph h (df 0 M)))) 64 (0,0)),(b6,Qj (Qk (uv (pl h (df 0 M)))) 64 (0,0)),(b5,Qj (Qk (uv (df 0 M))) 64),(b4,Qj #[wZ,wZ,wZ,wZ] 64 (0,0)),(b3,Qj (Qk (uv M)) 64),(b2,Qj (Qk (uv h)) 64),(b1,Qj (Qk (uv l)) 64)] 64 (.tmp 11) (.tmp 32) b8 0 #[wZ,wZ,wZ,wZ] (Qk (uv (sm l (pl h (df 0 M))))) 64 (uv (sm l (pl h (df 0 M)))) kr kr kr kr kr kr (of_decide_eq_true kr) kr kr ?_;intro w21 H21;clear H20;refine zt (some 12) (.bool (ov l (pl h (df 0 M)))) (fun w=>by kernel_rfl) kr<|zc<|uZ [0,1,2,3] [((some 34),fun _=>uv (sm l (pl h (df 0 M)))),((some 35),fun _=>uv (ph h (df 0 M))),(none,fun _=>undef),(none,fun _=>undef)] (fun L g x=>St w.heap.size w x ([(b8,Qj (Qk (uv (sm l (pl h (df 0 M))))) 64 (0,0)),(b7,Qj (Qk (uv (ph h (df 0 M)))) 64 (0,0)),(b6,Qj (Qk (uv (pl h (df 0 M)))) 64 (0,0)),(b5,Qj (Qk (uv (df 0 M))) 64),(b4,Qj #[wZ,wZ,wZ,wZ] 64 (0,0)),(b3,Qj (Qk (uv M)) 64),(b2,(bif L 3 then Qj (Qk (uv (ph h (df 0 M)))) 64 (0,0) else Qj (Qk (uv h)) 64)),(b1,(bif L 2 then Qj (Qk (uv (sm l (pl h (df 0 M))))) 64 (0,0) else Qj (Qk (uv l)) 64))])) kr kr kr kr (H21.drew) ⟨?_,?_,?_,?_,trivial⟩ ?_
  ·exact jy 64 (.tmp 11) (fun _=>0) (fun g=>b8) (Qk (uv (sm l (pl h (df 0 M))))) 64 (0,0) (fun _ _ _ h=>h) (fun g=>by kernel_rfl) (fun g=>by kernel_rfl) (fun L g _=>by kernel_rfl) kr
  ·exact jy 64 (.tmp 10) (fun _=>1) (fun g=>b7) (Qk (uv (ph h (df 0 M)))) 64 (0,0) (fun _ _ _ h=>h) (fun g=>by kernel_rfl) (fun g=>by kernel_rfl) (fun L g _=>by kernel_rfl) kr
  ·exact ka (fun _=>7) 64 (.tmp 3) (.tmp 34) (fun g=>b1) 0 (Qk (uv l)) (Qk (uv (sm l (pl h (df 0 M))))) 64 (uv (sm l (pl h (df 0 M)))) (fun g=>by kernel_rfl) (fun g=>by kernel_rfl) (fun g=>by kernel_rfl) kr kr (of_decide_eq_true kr) kr (fun L g hN=>by (have hs2:L 2=false:=hN.1;show ([(b8,Qj (Qk (uv (sm l (pl h (df 0 M))))) 64 (0,0)),(b7,Qj (Qk (uv (ph h (df 0 M)))) 64 (0,0)),(b6,Qj (Qk (uv (pl h (df 0 M)))) 64 (0,0)),(b5,Qj (Qk (uv (df 0 M))) 64),(b4,Qj #[wZ,wZ,wZ,wZ] 64 (0,0)),(b3,Qj (Qk (uv M)) 64),(b2,(bif L 3 then Qj (Qk (uv (ph h (df 0 M)))) 64 (0,0) else Qj (Qk (uv h)) 64)),(b1,(bif L 2 then Qj (Qk (uv (sm l (pl h (df 0 M))))) 64 (0,0) else Qj (Qk (uv l)) 64))])[(fun _=>7) L]? =some (b1,Qj (Qk (uv l)) 64)/\([(b8,Qj (Qk (uv (sm l (pl h (df 0 M))))) 64 (0,0)),(b7,Qj (Qk (uv (ph h (df 0 M)))) 64 (0,0)),(b6,Qj (Qk (uv (pl h (df 0 M)))) 64 (0,0)),(b5,Qj (Qk (uv (df 0 M))) 64),(b4,Qj #[wZ,wZ,wZ,wZ] 64 (0,0)),(b3,Qj (Qk (uv M)) 64),(b2,(bif L 3 then Qj (Qk (uv (ph h (df 0 M)))) 64 (0,0) else Qj (Qk (uv h)) 64)),(b1,(bif L 2 then Qj (Qk (uv (sm l (pl h (df 0 M))))) 64 (0,0) else Qj (Qk (uv l)) 64))]).set ((fun _=>7) L) (b1,Qj (Qk (uv (sm l (pl h (df 0 M))))) 64 (0,0))=([(b8,Qj (Qk (uv (sm l (pl h (df 0 M))))) 64 (0,0)),(b7,Qj (Qk (uv (ph h (df 0 M)))) 64 (0,0)),(b6,Qj (Qk (uv (pl h (df 0 M)))) 64 (0,0)),(b5,Qj (Qk (uv (df 0 M))) 64),(b4,Qj #[wZ,wZ,wZ,wZ] 64 (0,0)),(b3,Qj (Qk (uv M)) 64),(b2,(bif L 3 then Qj (Qk (uv (ph h (df 0 M)))) 64 (0,0) else Qj (Qk (uv h)) 64)),(b1,(bif true then Qj (Qk (uv (sm l (pl h (df 0 M))))) 64 (0,0) else Qj (Qk (uv l)) 64))]);rw[hs2];exact⟨rfl,rfl⟩))
  ·exact ka (fun _=>6) 64 (.tmp 4) (.tmp 35) (fun g=>b2) 0 (Qk (uv h)) (Qk (uv (ph h (df 0 M)))) 64 (uv (ph h (df 0 M))) (fun g=>by kernel_rfl) (fun g=>by kernel_rfl) (fun g=>by kernel_rfl) kr kr (of_decide_eq_true kr) kr (fun L g hN=>by (have hs3:L 3=false:=hN.1;show ([(b8,Qj (Qk (uv (sm l (pl h (df 0 M))))) 64 (0,0)),(b7,Qj (Qk (uv (ph h (df 0 M)))) 64 (0,0)),(b6,Qj (Qk (uv (pl h (df 0 M)))) 64 (0,0)),(b5,Qj (Qk (uv (df 0 M))) 64),(b4,Qj #[wZ,wZ,wZ,wZ] 64 (0,0)),(b3,Qj (Qk (uv M)) 64),(b2,(bif L 3 then Qj (Qk (uv (ph h (df 0 M)))) 64 (0,0) else Qj (Qk (uv h)) 64)),(b1,(bif L 2 then Qj (Qk (uv (sm l (pl h (df 0 M))))) 64 (0,0) else Qj (Qk (uv l)) 64))])[(fun _=>6) L]? =some (b2,Qj (Qk (uv h)) 64)/\([(b8,Qj (Qk (uv (sm l (pl h (df 0 M))))) 64 (0,0)),(b7,Qj (Qk (uv (ph h (df 0 M)))) 64 (0,0)),(b6,Qj (Qk (uv (pl h (df 0 M)))) 64 (0,0)),(b5,Qj (Qk (uv (df 0 M))) 64),(b4,Qj #[wZ,wZ,wZ,wZ] 64 (0,0)),(b3,Qj (Qk (uv M)) 64),(b2,(bif L 3 then Qj (Qk (uv (ph h (df 0 M)))) 64 (0,0) else Qj (Qk (uv h)) 64)),(b1,(bif L 2 then Qj (Qk (uv (sm l (pl h (df 0 M))))) 64 (0,0) else Qj (Qk (uv l)) 64))]).set ((fun _=>6) L) (b2,Qj (Qk (uv (ph h (df 0 M)))) 64 (0,0))=([(b8,Qj (Qk (uv (sm l (pl h (df 0 M))))) 64 (0,0)),(b7,Qj (Qk (uv (ph h (df 0 M)))) 64 (0,0)),(b6,Qj (Qk (uv (pl h (df 0 M)))) 64 (0,0)),(b5,Qj (Qk (uv (df 0 M))) 64),(b4,Qj #[wZ,wZ,wZ,wZ] 64 (0,0)),(b3,Qj (Qk (uv M)) 64),(b2,(bif true then Qj (Qk (uv (ph h (df 0 M)))) 64 (0,0) else Qj (Qk (uv h)) 64)),(b1,(bif L 2 then Qj (Qk (uv (sm l (pl h (df 0 M))))) 64 (0,0) else Qj (Qk (uv l)) 64))]);rw[hs3];exact⟨rfl,rfl⟩))
  intro L0 g22 w22 hall HL;clear H21;have H22:St w.heap.size w w22 [(b8,Qj (Qk (uv (sm l (pl h (df 0 M))))) 64 (0,0)),(b7,Qj (Qk (uv (ph h (df 0 M)))) 64 (0,0)),(b6,Qj (Qk (uv (pl h (df 0 M)))) 64 (0,0)),(b5,Qj (Qk (uv (df 0 M))) 64),(b4,Qj #[wZ,wZ,wZ,wZ] 64 (0,0)),(b3,Qj (Qk (uv M)) 64),(b2,Qj (Qk (uv (ph h (df 0 M)))) 64 (0,0)),(b1,Qj (Qk (uv (sm l (pl h (df 0 M))))) 64 (0,0))]:=by have e2:=hall 2 (Qw kr);have e3:=hall 3 (Qw kr);simp only[e2,e3,cond_true]at HL;exact HL
  clear HL hall;refine ze [0] kr kr ?_;obtain⟨h',hh1,hh2,hfold⟩:=zdN hM hl hh hne;cases hov:ov l (pl h (df 0 M))
  ·rw[hov]at hh1;simp only[RG,if_false]at hh1;subst hh1;refine zt (some 36) (.bool false) (fun w=>by kernel_rfl) kr<|zc<|zE kr kr<|zI kr ?_;have HD1:St w.heap.size w w22 [(b5,Qj (Qk (uv (df 0 M))) 64),(b4,Qj #[wZ,wZ,wZ,wZ] 64 (0,0)),(b3,Qj (Qk (uv M)) 64),(b2,Qj (Qk (uv (ph h (df 0 M)))) 64 (0,0)),(b1,Qj (Qk (uv (sm l (pl h (df 0 M))))) 64 (0,0))]:=H22.sub (Rs _ (Rs _ (Rs _ (QA _ (QA _ (QA _ (QA _ (QA _ R4))))))));show ∃m,_/\_;exact⟨_,(zaN hM hne hfold),(sm l (pl h (df 0 M))),(ph h (df 0 M)),rfl,(vU _ _),hh2,(zaM hfold hm),HD1,(Is.of ⟨kr,kr,kr,kr,kr,kr,kr,kr,trivial⟩)⟩
  ·rw[hov]at hh1;simp only[if_true]at hh1;subst hh1;refine zt (some 36) (.bool true) (fun w=>by kernel_rfl) kr<|zc<|zK kr kr<|g_draw0 [0,1,2,3,4,5,6] [((some 38),fun _=>uv (ph h (df 0 M))),((some 39),fun _=>uv 1),((some 40),fun _=>.tuple #[uv (sm (ph h (df 0 M)) 1),.bool (ov (ph h (df 0 M)) 1)]),((some 37),fun _=>.tuple #[uv (sm (ph h (df 0 M)) 1),.bool (ov (ph h (df 0 M)) 1)]),((some 41),fun _=>uv (sm (ph h (df 0 M)) 1)),((some 42),fun _=>.bool (ov (ph h (df 0 M)) 1)),(none,fun _=>undef)] (fun L g x=>St w.heap.size w x ([(b8,Qj (Qk (uv (sm l (pl h (df 0 M))))) 64 (0,0)),(b7,Qj (Qk (uv (ph h (df 0 M)))) 64 (0,0)),(b6,Qj (Qk (uv (pl h (df 0 M)))) 64 (0,0)),(b5,Qj (Qk (uv (df 0 M))) 64),(b4,Qj #[wZ,wZ,wZ,wZ] 64 (0,0)),(b3,Qj (Qk (uv M)) 64),(b2,(bif L 6 then Qj (Qk (uv (sm (ph h (df 0 M)) 1))) 64 (0,0) else Qj (Qk (uv (ph h (df 0 M)))) 64 (0,0))),(b1,Qj (Qk (uv (sm l (pl h (df 0 M))))) 64 (0,0))])) kr kr kr (H22.drew) ⟨?_,?_,?_,?_,?_,?_,?_,trivial⟩ ?_
   ·exact jy 64 (.tmp 10) (fun _=>1) (fun g=>b7) (Qk (uv (ph h (df 0 M)))) 64 (0,0) (fun _ _ _ h=>h) (fun g=>by kernel_rfl) (fun g=>by kernel_rfl) (fun L g _=>by kernel_rfl) kr
   ·exact xq 104 #[.int .u64 1] (fun _ _ _ h=>h) (zd1 1 (by omega)) (fun g w=>by kernel_rfl)
   ·exact xq 101 #[uv (ph h (df 0 M)),uv 1] (fun _ _ _ h=>h) (vW (ph h (df 0 M)) 1 (zdL hh (vV _ _)) (by unfold big;omega)) (fun g w=>by kernel_rfl)
   ·exact gv_val (fun _ _ _ h=>h) (fun g w=>by kernel_rfl)
   ·exact gv_val (fun _ _ _ h=>h) (fun g w=>by kernel_rfl)
   ·exact gv_val (fun _ _ _ h=>h) (fun g w=>by kernel_rfl)
   ·exact ka (fun _=>6) 64 (.tmp 4) (.tmp 41) (fun g=>b2) 0 (Qk (uv (ph h (df 0 M)))) (Qk (uv (sm (ph h (df 0 M)) 1))) 64 (uv (sm (ph h (df 0 M)) 1)) (fun g=>by kernel_rfl) (fun g=>by kernel_rfl) (fun g=>by kernel_rfl) kr kr (of_decide_eq_true kr) kr (fun L g hN=>by (have hs6:L 6=false:=hN.1;show ([(b8,Qj (Qk (uv (sm l (pl h (df 0 M))))) 64 (0,0)),(b7,Qj (Qk (uv (ph h (df 0 M)))) 64 (0,0)),(b6,Qj (Qk (uv (pl h (df 0 M)))) 64 (0,0)),(b5,Qj (Qk (uv (df 0 M))) 64),(b4,Qj #[wZ,wZ,wZ,wZ] 64 (0,0)),(b3,Qj (Qk (uv M)) 64),(b2,(bif L 6 then Qj (Qk (uv (sm (ph h (df 0 M)) 1))) 64 (0,0) else Qj (Qk (uv (ph h (df 0 M)))) 64 (0,0))),(b1,Qj (Qk (uv (sm l (pl h (df 0 M))))) 64 (0,0))])[(fun _=>6) L]? =some (b2,Qj (Qk (uv (ph h (df 0 M)))) 64 (0,0))/\([(b8,Qj (Qk (uv (sm l (pl h (df 0 M))))) 64 (0,0)),(b7,Qj (Qk (uv (ph h (df 0 M)))) 64 (0,0)),(b6,Qj (Qk (uv (pl h (df 0 M)))) 64 (0,0)),(b5,Qj (Qk (uv (df 0 M))) 64),(b4,Qj #[wZ,wZ,wZ,wZ] 64 (0,0)),(b3,Qj (Qk (uv M)) 64),(b2,(bif L 6 then Qj (Qk (uv (sm (ph h (df 0 M)) 1))) 64 (0,0) else Qj (Qk (uv (ph h (df 0 M)))) 64 (0,0))),(b1,Qj (Qk (uv (sm l (pl h (df 0 M))))) 64 (0,0))]).set ((fun _=>6) L) (b2,Qj (Qk (uv (sm (ph h (df 0 M)) 1))) 64 (0,0))=([(b8,Qj (Qk (uv (sm l (pl h (df 0 M))))) 64 (0,0)),(b7,Qj (Qk (uv (ph h (df 0 M)))) 64 (0,0)),(b6,Qj (Qk (uv (pl h (df 0 M)))) 64 (0,0)),(b5,Qj (Qk (uv (df 0 M))) 64),(b4,Qj #[wZ,wZ,wZ,wZ] 64 (0,0)),(b3,Qj (Qk (uv M)) 64),(b2,(bif true then Qj (Qk (uv (sm (ph h (df 0 M)) 1))) 64 (0,0) else Qj (Qk (uv (ph h (df 0 M)))) 64 (0,0))),(b1,Qj (Qk (uv (sm l (pl h (df 0 M))))) 64 (0,0))]);rw[hs6];exact⟨rfl,rfl⟩))
   intro L0 g23 w23 hall HL;clear H22;have H23:St w.heap.size w w23 [(b8,Qj (Qk (uv (sm l (pl h (df 0 M))))) 64 (0,0)),(b7,Qj (Qk (uv (ph h (df 0 M)))) 64 (0,0)),(b6,Qj (Qk (uv (pl h (df 0 M)))) 64 (0,0)),(b5,Qj (Qk (uv (df 0 M))) 64),(b4,Qj #[wZ,wZ,wZ,wZ] 64 (0,0)),(b3,Qj (Qk (uv M)) 64),(b2,Qj (Qk (uv (sm (ph h (df 0 M)) 1))) 64 (0,0)),(b1,Qj (Qk (uv (sm l (pl h (df 0 M))))) 64 (0,0))]:=by have e6:=hall 6 (Qw kr);simp only[e6,cond_true]at HL;exact HL
   clear HL hall;have HD2:St w.heap.size w w23 [(b5,Qj (Qk (uv (df 0 M))) 64),(b4,Qj #[wZ,wZ,wZ,wZ] 64 (0,0)),(b3,Qj (Qk (uv M)) 64),(b2,Qj (Qk (uv (sm (ph h (df 0 M)) 1))) 64 (0,0)),(b1,Qj (Qk (uv (sm l (pl h (df 0 M))))) 64 (0,0))]:=H23.sub (Rs _ (Rs _ (Rs _ (QA _ (QA _ (QA _ (QA _ (QA _ R4))))))));show ∃m,_/\_;exact⟨_,(zaN hM hne hfold),(sm l (pl h (df 0 M))),(sm (ph h (df 0 M)) 1),rfl,(vU _ _),hh2,(zaM hfold hm),HD2,(Is.of ⟨kr,kr,kr,kr,kr,kr,kr,kr,trivial⟩)⟩
theorem kL:Fn Try.prog 94 #[.int .i64 1] (.tuple #[uv NR,.int .i64 0]):=by
 refine Fn.intro (c:=zk Try.f94) [.cell 2 64,.tmp 3] 12 Try.func94 kr kr kr fun w=>?_;have H0:=St.start w;refine ze [0,1] kr kr<|zY H0 (some 2) 64 (.agg #[wZ,wZ,wZ,wZ]) kr kr kr ?_;intro b1 w1 H1;clear H0;refine zt (some 3) (.int .i64 0) (fun w=>by kernel_rfl) kr<|zc<|zb kr<|ze [0] kr kr<|zt (some 4) (.int .i64 1) (fun w=>by kernel_rfl) kr<|zc<|zS 0 kr<|ze [0,1] kr kr<|zt (some 6) (.bool false) (fun w=>by kernel_rfl) kr<|zt (some 5) (.bool false) (fun w=>by kernel_rfl) kr<|zc<|zE kr kr<|ze [0,1] kr kr<|zt (some 9) (.bool true) (fun w=>by kernel_rfl) kr<|zt (some 8) (.bool true) (fun w=>by kernel_rfl) kr<|zc<|zK kr kr<|ze [0,1,2] kr kr<|zt (some 10) (.agg #[.int .u64 0xbfd25e8cd0364141,.int .u64 0xbaaedce6af48a03b,.int .u64 0xfffffffffffffffe,.int .u64 0xffffffffffffffff]) (fun w=>by kernel_rfl) kr<|qt H1 0 [(b1,Qj #[.int .u64 0xbfd25e8cd0364141,.int .u64 0xbaaedce6af48a03b,.int .u64 0xfffffffffffffffe,.int .u64 0xffffffffffffffff] 64 (0,0))] 64 (.tmp 2) (.tmp 10) b1 0 #[wZ,wZ,wZ,wZ] #[.int .u64 0xbfd25e8cd0364141,.int .u64 0xbaaedce6af48a03b,.int .u64 0xfffffffffffffffe,.int .u64 0xffffffffffffffff] 64 (.agg #[.int .u64 0xbfd25e8cd0364141,.int .u64 0xbaaedce6af48a03b,.int .u64 0xfffffffffffffffe,.int .u64 0xffffffffffffffff]) kr kr kr kr kr kr (of_decide_eq_true kr) kr kr ?_;intro w2 H2;clear H1;refine zt (some 3) (.int .i64 0) (fun w=>by kernel_rfl) kr<|zc<|zA kr<|wV ?_;refine⟨[.agg #[.int .u64 0xbfd25e8cd0364141,.int .u64 0xbaaedce6af48a03b,.int .u64 0xfffffffffffffffe,.int .u64 0xffffffffffffffff],.int .i64 0],(.agg (b:=b1) #[.int .u64 0xbfd25e8cd0364141,.int .u64 0xbaaedce6af48a03b,.int .u64 0xfffffffffffffffe,.int .u64 0xffffffffffffffff] 64 (0,0) kr (H2.get 0 kr) kr (.tmp (.int .i64 0) kr .nil)),?_,H2.below⟩
 kernel_rfl
theorem zd5 (A B:Nat)(hA:A<big)(hB:B<big):Fn Try.prog 98 #[uv A,uv B,.int .i64 1] (.tuple #[uv (yC A B NR),.int .i64 0]):=by
 refine Fn.intro (c:=zk Try.f98) [.cell 6 64,.tmp 7] 41 Try.func98 kr kr kr fun w=>?_;have H0:=St.start w;refine ze [0,1,2,3] kr kr<|qm H0 (some 3) 64 (.tmp 0) (uv A) kr kr kr ?_;intro b1 w1 H1;clear H0;refine qm H1 (some 4) 64 (.tmp 1) (uv B) kr kr kr ?_;intro b2 w2 H2;clear H1;refine zY H2 (some 6) 64 (.agg #[wZ,wZ,wZ,wZ]) kr kr kr ?_;intro b3 w3 H3;clear H2;refine zt (some 7) (.int .i64 0) (fun w=>by kernel_rfl) kr<|zc<|ze [0,1,2,3,4,5,6,7] kr kr<|zt (some 13) (.int .i64 1) (fun w=>by kernel_rfl) kr<|ji H3 (some 14) 94 #[.int .i64 1] (.tuple #[uv NR,.int .i64 0]) kL (fun w=>by kernel_rfl) kr ?_;intro w4 H4;clear H3;refine zt (some 12) (.tuple #[uv NR,.int .i64 0]) (fun w=>by kernel_rfl) kr<|zt (some 15) (uv NR) (fun w=>by kernel_rfl) kr<|zt (some 16) (.int .i64 0) (fun w=>by kernel_rfl) kr<|zY H4 (some 8) 64 (.agg #[wZ,wZ,wZ,wZ]) kr kr kr ?_;intro b4 w5 H5;clear H4;refine qt H5 0 [(b4,Qj (Qk (uv NR)) 64),(b3,Qj #[wZ,wZ,wZ,wZ] 64 (0,0)),(b2,Qj (Qk (uv B)) 64),(b1,Qj (Qk (uv A)) 64)] 64 (.tmp 8) (.tmp 15) b4 0 #[wZ,wZ,wZ,wZ] (Qk (uv NR)) 64 (uv NR) kr kr kr kr kr kr (of_decide_eq_true kr) kr kr ?_;intro w6 H6;clear H5;refine zt (some 9) (.int .i64 0) (fun w=>by kernel_rfl) kr<|zc<|zb kr<|ze [0,1] kr kr<|zt (some 17) (.int .i64 0) (fun w=>by kernel_rfl) kr<|zt (some 18) (.bool false) (fun w=>by kernel_rfl) kr<|zc<|zE kr kr<|zI kr<|wW<|uZ [0,1,2,3,4,5,6,7,8,9,10,11,12,13,14] [((some 22),fun _=>uv A),((some 23),fun _=>.agg #[wZ,wZ,wZ,wZ]),((some 24),fun _=>uv NR),((some 25),fun _=>uv (rs A 0 NR)),((some 26),fun _=>uv B),((some 27),fun _=>.agg #[wZ,wZ,wZ,wZ]),((some 28),fun _=>uv NR),((some 29),fun _=>uv (rs B 0 NR)),((some 30),fun _=>.tuple #[uv (df (rs A 0 NR) (rs B 0 NR)),.bool (lo (rs A 0 NR) (rs B 0 NR))]),((some 21),fun _=>.tuple #[uv (df (rs A 0 NR) (rs B 0 NR)),.bool (lo (rs A 0 NR) (rs B 0 NR))]),((some 31),fun _=>uv (df (rs A 0 NR) (rs B 0 NR))),((some 32),fun _=>.bool (lo (rs A 0 NR) (rs B 0 NR))),((some 10),fun b=>Qe b),(none,fun _=>undef),((some 11),fun _=>.bool (lo (rs A 0 NR) (rs B 0 NR)))] (fun L g x=>St w.heap.size w x ([(b4,Qj (Qk (uv NR)) 64),(b3,Qj #[wZ,wZ,wZ,wZ] 64 (0,0)),(b2,Qj (Qk (uv B)) 64),(b1,Qj (Qk (uv A)) 64)]++(bif L 12 then [(g 12,(bif L 13 then Qj (Qk (uv (df (rs A 0 NR) (rs B 0 NR)))) 64 (0,0) else Qj #[wZ,wZ,wZ,wZ] 64 (0,0)))] else []))) kr kr kr kr (H6.drew) ⟨?_,?_,?_,?_,?_,?_,?_,?_,?_,?_,?_,?_,?_,?_,?_,trivial⟩ ?_
 ·exact jy 64 (.tmp 3) (fun _=>3) (fun g=>b1) (Qk (uv A)) 64 (0,0) (fun _ _ _ h=>h) (fun g=>by kernel_rfl) (fun g=>by kernel_rfl) (fun L g _=>by kernel_rfl) kr
 ·exact gv_val (fun _ _ _ h=>h) (fun g w=>by kernel_rfl)
 ·exact jy 64 (.tmp 8) (fun _=>0) (fun g=>b4) (Qk (uv NR)) 64 (0,0) (fun _ _ _ h=>h) (fun g=>by kernel_rfl) (fun g=>by kernel_rfl) (fun L g _=>by kernel_rfl) kr
 ·exact xq 100 #[uv A,.agg #[wZ,wZ,wZ,wZ],uv NR] (fun _ _ _ h=>h) (zaP A 0 NR hA (by unfold big;omega) qp) (fun g w=>by kernel_rfl)
 ·exact jy 64 (.tmp 4) (fun _=>2) (fun g=>b2) (Qk (uv B)) 64 (0,0) (fun _ _ _ h=>h) (fun g=>by kernel_rfl) (fun g=>by kernel_rfl) (fun L g _=>by kernel_rfl) kr
 ·exact gv_val (fun _ _ _ h=>h) (fun g w=>by kernel_rfl)
 ·exact jy 64 (.tmp 8) (fun _=>0) (fun g=>b4) (Qk (uv NR)) 64 (0,0) (fun _ _ _ h=>h) (fun g=>by kernel_rfl) (fun g=>by kernel_rfl) (fun L g _=>by kernel_rfl) kr
 ·exact xq 100 #[uv B,.agg #[wZ,wZ,wZ,wZ],uv NR] (fun _ _ _ h=>h) (zaP B 0 NR hB (by unfold big;omega) qp) (fun g w=>by kernel_rfl)
 ·exact xq 99 #[uv (rs A 0 NR),uv (rs B 0 NR)] (fun _ _ _ h=>h) (vX (rs A 0 NR) (rs B 0 NR) (zaK qp) (zaK qp)) (fun g w=>by kernel_rfl)
 ·exact gv_val (fun _ _ _ h=>h) (fun g w=>by kernel_rfl)
 ·exact gv_val (fun _ _ _ h=>h) (fun g w=>by kernel_rfl)
 ·exact gv_val (fun _ _ _ h=>h) (fun g w=>by kernel_rfl)
 ·exact zcY 64 (.agg #[wZ,wZ,wZ,wZ]) (fun L g=>[(b4,Qj (Qk (uv NR)) 64),(b3,Qj #[wZ,wZ,wZ,wZ] 64 (0,0)),(b2,Qj (Qk (uv B)) 64),(b1,Qj (Qk (uv A)) 64)]) (fun L g=>([]:Qb)) (fun g=>by kernel_rfl) kr (fun L g hN=>by (have hn:L 12=false:=hN.1;show ([(b4,Qj (Qk (uv NR)) 64),(b3,Qj #[wZ,wZ,wZ,wZ] 64 (0,0)),(b2,Qj (Qk (uv B)) 64),(b1,Qj (Qk (uv A)) 64)]++(bif L 12 then [(g 12,(bif L 13 then Qj (Qk (uv (df (rs A 0 NR) (rs B 0 NR)))) 64 (0,0) else Qj #[wZ,wZ,wZ,wZ] 64 (0,0)))] else []))=([(b4,Qj (Qk (uv NR)) 64),(b3,Qj #[wZ,wZ,wZ,wZ] 64 (0,0)),(b2,Qj (Qk (uv B)) 64),(b1,Qj (Qk (uv A)) 64)])++(([]:Qb));rw[hn];rfl)) (fun L g b hN=>by (have hz:L 13=false:=hN.2.2.no 12 13 kr hN.1;show ([(b4,Qj (Qk (uv NR)) 64),(b3,Qj #[wZ,wZ,wZ,wZ] 64 (0,0)),(b2,Qj (Qk (uv B)) 64),(b1,Qj (Qk (uv A)) 64)])++(b,Qj #[wZ,wZ,wZ,wZ] 64 (0,0))::(([]:Qb))=([(b4,Qj (Qk (uv NR)) 64),(b3,Qj #[wZ,wZ,wZ,wZ] 64 (0,0)),(b2,Qj (Qk (uv B)) 64),(b1,Qj (Qk (uv A)) 64)]++([(b,(bif L 13 then Qj (Qk (uv (df (rs A 0 NR) (rs B 0 NR)))) 64 (0,0) else Qj #[wZ,wZ,wZ,wZ] 64 (0,0)))]));rw[hz];rfl))
 ·exact ka (fun _=>4) 64 (.tmp 10) (.tmp 31) (fun g=>g 12) 0 #[wZ,wZ,wZ,wZ] (Qk (uv (df (rs A 0 NR) (rs B 0 NR)))) 64 (uv (df (rs A 0 NR) (rs B 0 NR))) (fun g=>by kernel_rfl) (fun g=>by kernel_rfl) (fun g=>by kernel_rfl) kr kr (of_decide_eq_true kr) kr (fun L g hN=>by (have hs13:L 13=false:=hN.1;have hs12:L 12=true:=before_yes hN.2.1 12 kr;show ([(b4,Qj (Qk (uv NR)) 64),(b3,Qj #[wZ,wZ,wZ,wZ] 64 (0,0)),(b2,Qj (Qk (uv B)) 64),(b1,Qj (Qk (uv A)) 64)]++(bif L 12 then [(g 12,(bif L 13 then Qj (Qk (uv (df (rs A 0 NR) (rs B 0 NR)))) 64 (0,0) else Qj #[wZ,wZ,wZ,wZ] 64 (0,0)))] else []))[(fun _=>4) L]? =some (g 12,Qj #[wZ,wZ,wZ,wZ] 64 (0,0))/\([(b4,Qj (Qk (uv NR)) 64),(b3,Qj #[wZ,wZ,wZ,wZ] 64 (0,0)),(b2,Qj (Qk (uv B)) 64),(b1,Qj (Qk (uv A)) 64)]++(bif L 12 then [(g 12,(bif L 13 then Qj (Qk (uv (df (rs A 0 NR) (rs B 0 NR)))) 64 (0,0) else Qj #[wZ,wZ,wZ,wZ] 64 (0,0)))] else [])).set ((fun _=>4) L) (g 12,Qj (Qk (uv (df (rs A 0 NR) (rs B 0 NR)))) 64 (0,0))=([(b4,Qj (Qk (uv NR)) 64),(b3,Qj #[wZ,wZ,wZ,wZ] 64 (0,0)),(b2,Qj (Qk (uv B)) 64),(b1,Qj (Qk (uv A)) 64)]++(bif L 12 then [(g 12,(bif true then Qj (Qk (uv (df (rs A 0 NR) (rs B 0 NR)))) 64 (0,0) else Qj #[wZ,wZ,wZ,wZ] 64 (0,0)))] else []));rw[hs13,hs12];exact⟨rfl,rfl⟩))
 ·exact gv_val (fun _ _ _ h=>h) (fun g w=>by kernel_rfl)
 intro L0 g7 w7 hall HL;clear H6;have H7:St w.heap.size w w7 [(b4,Qj (Qk (uv NR)) 64),(b3,Qj #[wZ,wZ,wZ,wZ] 64 (0,0)),(b2,Qj (Qk (uv B)) 64),(b1,Qj (Qk (uv A)) 64),((g7 12),Qj (Qk (uv (df (rs A 0 NR) (rs B 0 NR)))) 64 (0,0))]:=by have e13:=hall 13 (Qw kr);have e12:=hall 12 (Qw kr);simp only[e13,e12,cond_true]at HL;exact HL
 clear HL hall;refine zb kr<|ze [0] kr kr ?_;cases hlo:lo (rs A 0 NR) (rs B 0 NR)
 ·refine zt (some 33) (.bool false) (fun w=>by kernel_rfl) kr<|zc<|zE kr kr<|zI kr<|wW<|ze [0,1,2] kr kr<|yJ H7 (some 40) 64 (.tmp 10) 4 (g7 12) (Qk (uv (df (rs A 0 NR) (rs B 0 NR)))) 64 (0,0) kr kr kr kr kr<|qt H7 1 [(b4,Qj (Qk (uv NR)) 64),(b3,Qj (Qk (uv (df (rs A 0 NR) (rs B 0 NR)))) 64 (0,0)),(b2,Qj (Qk (uv B)) 64),(b1,Qj (Qk (uv A)) 64),((g7 12),Qj (Qk (uv (df (rs A 0 NR) (rs B 0 NR)))) 64 (0,0))] 64 (.tmp 6) (.tmp 40) b3 0 #[wZ,wZ,wZ,wZ] (Qk (uv (df (rs A 0 NR) (rs B 0 NR)))) 64 (uv (df (rs A 0 NR) (rs B 0 NR))) kr kr kr kr kr kr (of_decide_eq_true kr) kr kr ?_;intro w8 H8;clear H7;refine zt (some 7) (.int .i64 0) (fun w=>by kernel_rfl) kr<|zc<|zA kr<|wV ?_;refine⟨[uv (df (rs A 0 NR) (rs B 0 NR)),.int .i64 0],(.agg (b:=b3) (Qk (uv (df (rs A 0 NR) (rs B 0 NR)))) 64 (0,0) kr (H8.get 1 kr) kr (.tmp (.int .i64 0) kr .nil)),?_,H8.below⟩;exact congrArg (fun n=>Value.tuple #[uv n,.int .i64 0]) (zdR qp hlo)
 ·refine zt (some 33) (.bool true) (fun w=>by kernel_rfl) kr<|zc<|zK kr kr<|ql [0,1,2,3,4,5,6] kr<|yJ H7 (some 35) 64 (.tmp 10) 4 (g7 12) (Qk (uv (df (rs A 0 NR) (rs B 0 NR)))) 64 (0,0) kr kr kr kr kr<|yJ H7 (some 36) 64 (.tmp 8) 0 b4 (Qk (uv NR)) 64 (0,0) kr kr kr kr kr<|ji H7 (some 37) 101 #[uv (df (rs A 0 NR) (rs B 0 NR)),uv NR] (.tuple #[uv (sm (df (rs A 0 NR) (rs B 0 NR)) NR),.bool (ov (df (rs A 0 NR) (rs B 0 NR)) NR)]) (vW (df (rs A 0 NR) (rs B 0 NR)) NR (vV _ _) qp.1) (fun w=>by kernel_rfl) kr ?_;intro w9 H9;clear H7;refine zt (some 34) (.tuple #[uv (sm (df (rs A 0 NR) (rs B 0 NR)) NR),.bool (ov (df (rs A 0 NR) (rs B 0 NR)) NR)]) (fun w=>by kernel_rfl) kr<|zt (some 38) (uv (sm (df (rs A 0 NR) (rs B 0 NR)) NR)) (fun w=>by kernel_rfl) kr<|zt (some 39) (.bool (ov (df (rs A 0 NR) (rs B 0 NR)) NR)) (fun w=>by kernel_rfl) kr<|qt H9 4 [(b4,Qj (Qk (uv NR)) 64),(b3,Qj #[wZ,wZ,wZ,wZ] 64 (0,0)),(b2,Qj (Qk (uv B)) 64),(b1,Qj (Qk (uv A)) 64),((g7 12),Qj (Qk (uv (sm (df (rs A 0 NR) (rs B 0 NR)) NR))) 64 (0,0))] 64 (.tmp 10) (.tmp 38) (g7 12) 0 (Qk (uv (df (rs A 0 NR) (rs B 0 NR)))) (Qk (uv (sm (df (rs A 0 NR) (rs B 0 NR)) NR))) 64 (uv (sm (df (rs A 0 NR) (rs B 0 NR)) NR)) kr kr kr kr kr kr (of_decide_eq_true kr) kr kr ?_;intro w10 H10;clear H9;refine zc<|wW<|ze [0,1,2] kr kr<|yJ H10 (some 40) 64 (.tmp 10) 4 (g7 12) (Qk (uv (sm (df (rs A 0 NR) (rs B 0 NR)) NR))) 64 (0,0) kr kr kr kr kr<|qt H10 1 [(b4,Qj (Qk (uv NR)) 64),(b3,Qj (Qk (uv (sm (df (rs A 0 NR) (rs B 0 NR)) NR))) 64 (0,0)),(b2,Qj (Qk (uv B)) 64),(b1,Qj (Qk (uv A)) 64),((g7 12),Qj (Qk (uv (sm (df (rs A 0 NR) (rs B 0 NR)) NR))) 64 (0,0))] 64 (.tmp 6) (.tmp 40) b3 0 #[wZ,wZ,wZ,wZ] (Qk (uv (sm (df (rs A 0 NR) (rs B 0 NR)) NR))) 64 (uv (sm (df (rs A 0 NR) (rs B 0 NR)) NR)) kr kr kr kr kr kr (of_decide_eq_true kr) kr kr ?_;intro w11 H11;clear H10;refine zt (some 7) (.int .i64 0) (fun w=>by kernel_rfl) kr<|zc<|zA kr<|wV ?_;refine⟨[uv (sm (df (rs A 0 NR) (rs B 0 NR)) NR),.int .i64 0],(.agg (b:=b3) (Qk (uv (sm (df (rs A 0 NR) (rs B 0 NR)) NR))) 64 (0,0) kr (H11.get 1 kr) kr (.tmp (.int .i64 0) kr .nil)),?_,H11.below⟩;exact congrArg (fun n=>Value.tuple #[uv n,.int .i64 0]) (zdQ qp hlo)
section
def vl:List Nat->Nat
 | []=>0
 | d::r=>d+65536*vl r
def Ok (l:List Nat):Prop:= ∀d∈l,d<65536
def dgt (A i:Nat):Nat:=A / 65536^i%65536
def dgs (A k:Nat):List Nat:=(QL k).map (dgt A)
theorem vY (A k:Nat):(dgs A k).length=k:=by unfold dgs;simp
theorem zaQ (A k:Nat):dgs A (k+1)=dgs A k++ [dgt A k]:=by unfold dgs;rw[List.range_succ];simp
theorem zd6 (A k:Nat):Ok (dgs A k):=by
 intro d hd;unfold dgs at hd;obtain⟨i,_,rfl⟩:=Rx.1 hd;exact RD _ (by omega)
theorem zaR (l m:List Nat):vl (l++m)=vl l+65536^l.length*vl m:=by
 induction l with
 | nil=>simp[vl]
 | cons d r ih=>
  rw[List.cons_append,vl,vl,ih,Rg,U9,UK,<-Nat.mul_assoc,Nat.mul_comm 65536 (65536^_)];omega
theorem vZ (l:List Nat)(d:Nat):vl (l++ [d])=vl l+65536^l.length*d:=by rw[zaR];simp[vl]
theorem zd7 (A k:Nat):vl (dgs A k)=A%65536^k:=by
 induction k with
 | zero=>simp[dgs,vl,Nat.mod_one]
 | succ k ih=>
  rw[zaQ,vZ,ih,vY,U9,Nat.mod_mul];rfl
theorem zd8 {l:List Nat}(h:Ok l):vl l<65536^l.length:=by
 induction l with
 | nil=>simp[vl]
 | cons d r ih=>
  have h1:=h d (by simp);have h2:=ih (fun x hx=>h x (by simp[hx]));rw[vl,Rg,U9];omega
theorem zd9 {l m:List Nat}(h:Ok l)(k:Ok m):Ok (l++m):=fun d hd=>by
 rcases UH.1 hd with h1|h1
 ·exact h d h1
 ·exact k d h1
theorem zea {l:List Nat}(h:Ok l)(k:Nat):Ok (l.take k):=fun d hd=>h d (List.mem_of_mem_take hd)
theorem ua {l:List Nat}(h:Ok l)(i:Nat):l.getD i 0<65536:=by
 rcases RP i l.length with hi|hi
 ·have:l.getD i 0=l[i]:=by simp[Qm,Ql hi]
  rw[this];exact h _ (List.getElem_mem hi)
 ·have:l.getD i 0=0:=by simp[Qm,QK hi]
  omega
theorem zeb (l:List Nat)(k:Nat)(h:k<l.length):vl (l.take (k+1))=vl (l.take k)+65536^k*l.getD k 0:=by
 rw[List.take_succ_eq_append_getElem h,vZ,Qt,Ri (by omega)];simp[Qm,Ql h]
theorem ub (l:List Nat)(k:Nat):vl (l.take (k+1))=vl (l.take k)+65536^k*l.getD k 0:=by
 rcases RP k l.length with h|h
 ·exact zeb l k h
 ·rw[Qp h,Qp (by omega)];simp[Qm,QK h]
theorem zec (l:List Nat)(k:Nat):vl l=vl (l.take k)+65536^k*vl (l.drop k):=by
 rcases RP l.length k with h|h
 ·rw[Qp (by omega),QD (by omega)];simp[vl]
 ·conv=>lhs;rw[<-List.take_append_drop k l]
  rw[zaR,Qt,Ri h]
theorem zed:big=65536^16:=rfl
theorem kN (A k:Nat)(h:k / 4=0):(w0 A / 2^(16*(k%4)))%65536=(dgt A k:Int):=by
 have hk:k=0\/k=1\/k=2\/k=3:=by omega
 unfold w0 dgt;rcases hk with rfl | rfl | rfl | rfl
 ·show ((A%0x10000000000000000:Nat):Int) / 1%65536=((A / 1%65536:Nat):Int);omega
 ·show ((A%0x10000000000000000:Nat):Int) / 65536%65536=((A / 65536%65536:Nat):Int);omega
 ·show ((A%0x10000000000000000:Nat):Int) / 4294967296%65536=((A / 4294967296%65536:Nat):Int);omega
 ·show ((A%0x10000000000000000:Nat):Int) / 281474976710656%65536=((A / 281474976710656%65536:Nat):Int);omega
theorem uc (A j k:Nat):dgt (A / 65536^j) k=dgt A (j+k):=by unfold dgt;rw[Nat.div_div_eq_div_mul,<-Nat.pow_add]
theorem zee (A k:Nat)(h:k / 4=1):(w1 A / 2^(16*(k%4)))%65536=(dgt A k:Int):=by
 have e:=kN (A / 65536^4) (k-4) (by omega);rw[uc,show 4+(k-4)=k by omega,show (k-4)%4=k%4 by omega]at e;exact e
theorem zef (A k:Nat)(h:k / 4=2):(w2 A / 2^(16*(k%4)))%65536=(dgt A k:Int):=by
 have e:=kN (A / 65536^8) (k-8) (by omega);rw[uc,show 8+(k-8)=k by omega,show (k-8)%4=k%4 by omega]at e;exact e
theorem zeg (A k:Nat)(h:k / 4=3):(w3 A / 2^(16*(k%4)))%65536=(dgt A k:Int):=by
 have e:=kN (A / 65536^12) (k-12) (by omega);rw[uc,show 12+(k-12)=k by omega,show (k-12)%4=k%4 by omega]at e;exact e
open Go
def dAt (ds:List Nat)(i:Nat):Int:=((ds.getD i 0:Nat):Int)
theorem zaS {l:List Nat}(i:Nat):0<=dAt l i:=by unfold dAt;omega
theorem zaT {l:List Nat}(h:Ok l)(i:Nat):dAt l i<=65535:=by have:=ua h i;unfold dAt;omega
structure qf (x y l:List Nat)(k:Nat)(c:Int):Prop where
 len:l.length=k
 ok:Ok l
 c0:0<=c
 c1:c<=1
 val:(vl l:Int)+65536^k*c=vl (x.take k)+vl (y.take k)
 top:k<=max x.length y.length+1
 last:k=max x.length y.length+1->c=0
theorem qf.start (x y:List Nat):qf x y [] 0 0:=⟨rfl,(fun d h=>by cases h),by omega,by omega,by simp[vl],by omega,by omega⟩
theorem qf.next {x y l:List Nat}{k:Nat}{c:Int}(h:qf x y l k c)(hx:Ok x)(hy:Ok y)(hgo:k<x.length\/k<y.length\/0<c):
 qf x y (l++ [((dAt x k+dAt y k+c)%65536).toNat]) (k+1) ((dAt x k+dAt y k+c) / 65536):=by
 have x0:=zaS (l:=x) k;have x1:=zaT hx k;have y0:=zaS (l:=y) k;have y1:=zaT hy k;obtain⟨e1,e2,c0,c1,ev,et,el⟩:=h;have hend:k=max x.length y.length->dAt x k=0/\dAt y k=0:=fun e=>by
  unfold dAt;simp[Qm,QK (show x.length<=k by omega),QK (show y.length<=k by omega)]
 refine⟨by simp[e1],zd9 e2 (fun d hd=>by simp at hd;omega),by omega,by omega,?_,?_,?_⟩
 ·rw[vZ,e1,ub,ub,Int.pow_succ];have hdx:dAt x k=((x.getD k 0:Nat):Int):=rfl;have hdy:dAt y k=((y.getD k 0:Nat):Int):=rfl;have hs:(((dAt x k+dAt y k+c)%65536).toNat:Int)=(dAt x k+dAt y k+c)%65536:=by omega
  have hm:dAt x k+dAt y k+c=65536*((dAt x k+dAt y k+c) / 65536)+(dAt x k+dAt y k+c)%65536:=by omega
  generalize hq:(dAt x k+dAt y k+c) / 65536=q at*;generalize hr:(dAt x k+dAt y k+c)%65536=r at*;have e3:(65536:Int)^k*dAt x k+65536^k*dAt y k+65536^k*c=65536^k*65536*q+65536^k*r:=by
   rw[<-UJ,<-UJ,hm,UJ,U3]
  have g1:((vl l+65536^k*r.toNat:Nat):Int)=(vl l:Int)+65536^k*r:=by rw[Int.natCast_add,Uh,UU,hs];rfl
  have g2:((vl (x.take k)+65536^k*x.getD k 0:Nat):Int)=(vl (x.take k):Int)+65536^k*dAt x k:=by rw[Int.natCast_add,Uh,UU];rfl
  have g3:((vl (y.take k)+65536^k*y.getD k 0:Nat):Int)=(vl (y.take k):Int)+65536^k*dAt y k:=by rw[Int.natCast_add,Uh,UU];rfl
  rw[g1,g2,g3];omega
 ·rcases RP k (max x.length y.length+1) with h|h
  ·omega
  ·have:=el (by omega);omega
 ·intro e;have:=hend (by omega);omega
theorem qf.fin {x y l:List Nat}{k:Nat}{c:Int}(h:qf x y l k c)(hx: ¬k<x.length)(hy: ¬k<y.length)(hc: ¬0<c):vl l=vl x+vl y:=by
 obtain⟨e1,e2,c0,c1,ev,et,el⟩:=h;rw[show c=0 by omega,Qp (by omega),Qp (by omega)]at ev;simp at ev;omega
def ls (x y:List Nat):Bool:=decide (vl x<vl y)
theorem xI: ∀(x y:List Nat),(∀t,dAt x t=dAt y t)->vl x=vl y
 | [],[],_=>rfl
 | [],b::y,h=>by
  have h0:=h 0;have ih:=xI [] y (fun t=>by have:=h (t+1);simpa [dAt] using this);simp[dAt]at h0;simp only[vl]at ih⊢;omega
 | a::x,[],h=>by
  have h0:=h 0;have ih:=xI x [] (fun t=>by have:=h (t+1);simpa [dAt] using this);simp[dAt]at h0;simp only[vl]at ih⊢;omega
 | a::x,b::y,h=>by
  have h0:=h 0;have ih:=xI x y (fun t=>by have:=h (t+1);simpa [dAt] using this);simp[dAt]at h0;simp only[vl];omega
theorem zaU (l:List Nat)(k t:Nat):dAt (l.drop k) t=dAt l (k+t):=by unfold dAt;simp[Qm,List.getElem?_drop]
theorem zaV (l:List Nat)(j:Nat):vl l=vl (l.take j)+65536^j*l.getD j 0+65536^(j+1)*vl (l.drop (j+1)):=by
 rw[zec l (j+1),ub]
theorem zaW {x y:List Nat}(hx:Ok x)(hy:Ok y)(j:Nat)(ht: ∀t,j<t->dAt x t=dAt y t)(h:dAt x j<dAt y j):vl x<vl y:=by
 have e:vl (x.drop (j+1))=vl (y.drop (j+1)):=xI _ _ (fun t=>by rw[zaU,zaU];exact ht _ (by omega));have hl:=zd8 (zea hx j);have h3:65536^(x.take j).length<=65536^j:=Nat.pow_le_pow_right (by omega) (List.length_take_le _ _);have hd:x.getD j 0+1<=y.getD j 0:=by unfold dAt at h;omega
 have hm:65536^j*(x.getD j 0+1)<=65536^j*y.getD j 0:=U1 _ hd;rw[UK,Vt]at hm;rw[zaV x j,zaV y j,e];omega
theorem zaX {x y:List Nat}(hx:Ok x)(hy:Ok y)(j:Nat)(ht: ∀t,j<t->dAt x t=dAt y t)(h:dAt x j≠dAt y j):decide (dAt x j<dAt y j)=ls x y:=by
 unfold ls;rcases Int.lt_or_gt_of_ne h with k | k
 ·have:=zaW hx hy j ht k;simp[k,this]
 ·have:=zaW hy hx j (fun t h=>(ht t h).symm) k;have k': ¬dAt x j<dAt y j:=by omega
  have this': ¬vl x<vl y:=by omega
  simp[k',this']
theorem zaY {x y:List Nat}(ht: ∀t,dAt x t=dAt y t):ls x y=false:=by
 unfold ls;rw[xI x y ht];simp
def qH (x y:List Nat)(j:Int):Prop:= ∀t:Nat,j<t->dAt x t=dAt y t
theorem qH.start (x y:List Nat)(n:Int)(h1:(x.length:Int)<=n)(h2:(y.length:Int)<=n):qH x y (n-1):=fun t ht=>by
 unfold dAt;simp[Qm,QK (show x.length<=t by omega),QK (show y.length<=t by omega)]
theorem qH.down {x y:List Nat}{j:Nat}(h:qH x y j)(e:dAt x j=dAt y j):qH x y ((j:Int)-1):=fun t ht=>by
 rcases RP j t with k|k
 ·exact h t (by omega)
 ·rw[show t=j by omega];exact e
theorem qf.go {x y l:List Nat}{k c:Nat}(h:qf x y l k (c:Int))(hx:Ok x)(hy:Ok y)(hgo:k<x.length\/k<y.length\/0<c):
 qf x y (l++ [(x.getD k 0+y.getD k 0+c)%65536]) (k+1) (((x.getD k 0+y.getD k 0+c) / 65536:Nat):Int):=by
 have hn:=h.next hx hy (by omega)
 unfold dAt at hn
 rw[show ((((x.getD k 0:Nat):Int)+((y.getD k 0:Nat):Int)+(c:Int))%65536).toNat=(x.getD k 0+y.getD k 0+c)%65536 by omega,
  show (((x.getD k 0:Nat):Int)+((y.getD k 0:Nat):Int)+(c:Int)) / 65536=(((x.getD k 0+y.getD k 0+c) / 65536:Nat):Int) by omega]at hn
 exact hn
theorem qf.done {x y l:List Nat}{k c:Nat}(h:qf x y l k (c:Int))(hx: ¬k<x.length)(hy: ¬k<y.length)(hc: ¬0<c):vl l=vl x+vl y:=h.fin hx hy (by omega)
end
theorem qg (x:List Nat)(ba nx ca:Nat)(curA:Qd)(hnx:nx=Qr x)(hA:Rw 1 curA ca nx (yi x))(lx:Qr x<=100000)(i:Nat)(hi:i<=100000):FnP Try.prog 84 #[Qf ba nx ca,.int .i64 (i:Int)] (fun w=>w.heap[ba]? =some (.cells curA 3)) (.int .i64 ((Qm x i 0:Nat):Int)):=by
 subst hnx;refine FnP.intro (c:=zk Try.f84) [.tmp 4] 13 Try.func84 kr kr kr fun w hpre=>?_;have H0:=St.start w;refine rS [.v] H0 kr fun gs1 w1 H1=>?_;clear H0;refine zb kr<|ze [0,1,2,3] kr kr<|rp [.v,.v,.v] H1 kr fun gs2 w2 H2=>wX [3] ?_;clear H1;by_cases hc1:(i:Nat)<Qr x
 ·refine rp [.E (.bool (decide ((i:Int)<(Qr x:Int)))) (.bool true) (za (decide_eq_true (by omega)))] H2 kr fun gs3 w3 H3=>wX [] ?_;clear H2;refine zc<|zK kr kr<|rS [.v,.v,.o (ins:=[((.tmp 9),Qf ba (Qr x) ca),((.tmp 10),.int .i64 (i:Int))]) (v:=.pointer (some ⟨ba,0+i*1,none⟩)) (fun ρ o w ho hi=>vx (kd:=.i64) (t:=90) (e:=3) (size:=1) (bytes:=8) kr (x:=(.tmp 9)) (y:=(.tmp 10)) ba 0 (Qr x) ca i ho hi.1 hi.2.1 (by omega) w),.fs (off:=0+i*1) (v:=.int .i64 ((Qm x i 0:Nat):Int)) hpre (zf hpre) (hA.atD (by omega) rfl),.v] H3 kr fun gs4 w4 H4=>?_;clear H3;refine zA kr<|wV ?_;refine⟨[.int .i64 ((Qm x i 0:Nat):Int)],(.tmp (.int .i64 ((Qm x i 0:Nat):Int)) kr .nil),?_,H4.below⟩
  first | rfl | (rw[show Qm x i 0=0 by simp[Qm,QK (show x.length<=i by omega)]];rfl)
 ·refine rp [.E (.bool (decide ((i:Int)<(Qr x:Int)))) (.bool false) (za (decide_eq_false (by omega)))] H2 kr fun gs5 w5 H5=>wX [] ?_;clear H2;refine zc<|zE kr kr<|zI kr<|wW<|rS [.v] H5 kr fun gs6 w6 H6=>?_;clear H5;refine zA kr<|wV ?_;refine⟨[.int .i64 0],(.tmp (.int .i64 0) kr .nil),?_,H6.below⟩
  first | rfl | (rw[show Qm x i 0=0 by simp[Qm,QK (show x.length<=i by omega)]];rfl)
theorem zeh {A:Nat}(h:A<big):vl (dgs A 16)=A:=by rw[zd7,<-zed,QZ h]
theorem kP (X n:Nat):Qn.wrap ((X / 2^n%65536:Nat):Int)=(X:Int) / 2^n%65536:=by
 have h:=RD (X / 2^n) (show 0<65536 by omega);rw[vM (by omega),Int.natCast_emod,Int.natCast_ediv,UU];rfl
theorem zei (A k:Nat)(h:k / 4=0):Qn.wrap (((A%0x10000000000000000 / 2^(16*(k%4))%65536:Nat)):Int)=((dgt A k:Nat):Int):=(kP _ _).trans (kN A k h)
theorem zej (A k:Nat)(h:k / 4=1):Qn.wrap (((A / 0x10000000000000000%0x10000000000000000 / 2^(16*(k%4))%65536:Nat)):Int)=((dgt A k:Nat):Int):=(kP _ _).trans (zee A k h)
theorem zek (A k:Nat)(h:k / 4=2):Qn.wrap (((A / 0x100000000000000000000000000000000%0x10000000000000000 / 2^(16*(k%4))%65536:Nat)):Int)=((dgt A k:Nat):Int):=(kP _ _).trans (zef A k h)
theorem zel (A k:Nat)(h:k / 4=3):Qn.wrap (((A / 0x1000000000000000000000000000000000000000000000000%0x10000000000000000 / 2^(16*(k%4))%65536:Nat)):Int)=((dgt A k:Nat):Int):=(kP _ _).trans (zeg A k h)
def wq (A q:Nat):Nat:=A / 0x10000000000000000^q%0x10000000000000000
theorem wq0 (A:Nat):wq A 0=A%0x10000000000000000:=by unfold wq;rw[Nat.pow_zero,Nat.div_one]
theorem zem (A:Nat){q:Nat}(hq:q<4):(Qk (uv A))[0+q*1]? =some (.int .u64 ((wq A q:Nat):Int)):=by
 have h:q=0\/q=1\/q=2\/q=3:=by omega
 rcases h with rfl|rfl|rfl|rfl
 ·rw[wq0];exact kr
 ·exact kr
 ·exact kr
 ·exact kr
theorem zen (A k:Nat)(hk:k<16):Qn.wrap ((wq A (k / 4) / 2^(16*(k%4))%65536:Nat):Int)=((dgt A k:Nat):Int):=by
 have h:k / 4=0\/k / 4=1\/k / 4=2\/k / 4=3:=by omega
 rcases h with h|h|h|h
 ·rw[h,wq0];exact zei A k h
 ·rw[h];exact zej A k h
 ·rw[h];exact zek A k h
 ·rw[h];exact zel A k h
theorem kQ (A:Nat)(hA:A<big):FnR Try.prog 71 #[uv A] (fun _=>True) (vB 3 1 (fun cur cap n l=>(n=Qr l/\Rw 1 cur cap n (yi l)/\Ok l/\(l=dgs A 16/\vl l=A/\Qr l=16)))):=by
 refine FnR.intro (c:=zk Try.f71) [.tmp 2] 25 Try.func71 kr kr kr fun w hpre=>?_;have H0:=St.start w;refine rS [.b,.v] H0 kr fun gs1 w1 H1=>rS [.nw (fun b=>Qf b 0 0) #[] 3,.v] H1 kr fun gs2 w2 H2=>zb kr<|rS [.v] H2 kr fun gs3 w3 H3=>zS 0 kr ?_;have HL:St w.heap.size w w3 [((gs1 0).b,Qj (Qk (uv A)) 64),((gs2 0).b,Qj #[] 3 (0,0))]:=H3.as kr;refine qs kr (fun mz ρ ww=> ∃(k b cap:Nat) (cur:Qd),16-k=mz/\k<=16/\Rw 1 cur cap k (yi (dgs A k))/\St w.heap.size w ww [((gs1 0).b,Qj (Qk (uv A)) 64),(b,Qj cur 3)]/\Is [(1,Qe (gs1 0).b),(3,Qf b k cap),(4,.int .i64 (k:Int))] ρ) 16 ⟨0,(gs2 0).b,0,#[],rfl,by decide,Rw.lit #[] 0 (by rfl) (by unfold maxLen;omega),HL,Is.of ⟨kr,kr,kr,trivial⟩⟩ ?_;clear H0 H1 H2 H3 HL;rintro _ _ w4 ⟨k,b,cap,cur,rfl,hk,hr,H4,_,rfl⟩;refine zb kr ?_;by_cases h:k<16
 ·refine rS [.v,.E (.bool (decide ((k:Int)<16))) (.bool true) (za (decide_eq_true (by omega)))] H4 kr fun gs4 w5 H5=>zK kr kr<|zI kr<|wW<|zb kr<|zS 1 kr<|ql [0,1,2,3,4,5,6,7,8,9,10,11,12,13,14] kr ?_
  refine rp [.v,.v,.E (.int .i64 (Qn.wrap (Int.tdiv (k:Int) 4))) (.int .i64 ((k / 4:Nat):Int)) (zd (jR (a:=k) (b:=4) (by omega))),
   .o (ins:=[((.tmp 1),Qe (gs1 0).b),((.tmp 12),.int .i64 ((k / 4:Nat):Int))]) (v:=.pointer (some ⟨(gs1 0).b,0+k / 4*1,none⟩)) (fun ρ o w ho hi=>zc0 (kd:=.i64) (t:=64) (n:=4) (size:=1) kr (x:=(.tmp 1)) (y:=(.tmp 12)) (gs1 0).b 0 (k / 4) ho hi.1 hi.2.1 (by omega) w),
   .ls 0 (C:=Qk (uv A)) (off:=0+k / 4*1) (v:=.int .u64 ((wq A (k / 4):Nat):Int)) (zem A (by omega)),.v,
   .E (.int .i64 (Vi (k:Int) 4)) (.int .i64 ((k%4:Nat):Int)) (zd (qZ k 4)),
   .E (.int .i64 (Qn.wrap (16*((k%4:Nat):Int)))) (.int .i64 ((16*(k%4):Nat):Int)) (zd (yB (a:=16) (b:=k%4) (by omega))),
   .E (.int .u64 (Ur.wrap ((16*(k%4):Nat):Int))) (.int .u64 ((16*(k%4):Nat):Int)) (zd (zdd (by omega))),
   .E (.int .u64 (Int.fdiv ((wq A (k / 4):Nat):Int) (2^(min (16*(k%4)) 64)))) (.int .u64 ((wq A (k / 4) / 2^(16*(k%4)):Nat):Int)) (zd (zde _ _ 64 (RD _ (by decide)))),
   .E (.int .u64 (Vi ((wq A (k / 4) / 2^(16*(k%4)):Nat):Int) 65536)) (.int .u64 ((wq A (k / 4) / 2^(16*(k%4))%65536:Nat):Int)) (zd (qZ _ 65536)),
   .E (.int .i64 (Qn.wrap ((wq A (k / 4) / 2^(16*(k%4))%65536:Nat):Int))) (.int .i64 ((dgt A k:Nat):Int)) (zd (zen A k h)),
   .nw (fun b=>Qf b 1 1) #[.int .i64 ((dgt A k:Nat):Int)] 3] H5 kr fun gs5 w6 H6=>?_
  refine wX [13,14]<|kb H6 (some 23) 90 3 1 8 (.tmp 10) (.tmp 22) 1 2 b ((gs5 12).b) k 1 cap 1 cur #[.int .i64 ((dgt A k:Nat):Int)] 3 (0,0) (yi (dgs A k)) ([.int .i64 ((dgt A k:Nat):Int)]) (fun b' cur'=>[((gs1 0).b,Qj (Qk (uv A)) 64),(b',Qj cur' 3),((gs5 12).b,Qj #[.int .i64 ((dgt A k:Nat):Int)] 3 (0,0))]) kr kr kr kr kr hr kr kr (by rfl) (by rfl) (by intro u hu;rw[Rz]at hu;subst hu;rfl) (by omega) (by unfold maxLen;omega) (fun _ _=>by kernel_rfl) ?_;intro b' cap' cur' w7 H7 hr';refine rp [.v] H7 kr fun gs7 w8 H8=>wX []<|zc<|wW<|rL [.v,.E (.int .i64 (Qn.wrap ((k:Int)+1))) (.int .i64 ((k+1:Nat):Int)) (zd (zy (a:=k) (b:=1) (by omega))),.v] H8 kr fun gs9 w9 H9=>?_;show ∃m,_/\_;have H10:St w.heap.size w w9 [((gs1 0).b,Qj (Qk (uv A)) 64),(b',Qj cur' 3),((gs5 12).b,Qj #[.int .i64 ((dgt A k:Nat):Int)] 3 (0,0))]:=H9.as kr;exact⟨_,(by omega:16-(k+1)<16-k),k+1,b',cap',cur',rfl,by omega,by rw[zaQ,kf];exact hr',H10.sub ((List.nil_sublist _).cons_cons _ |>.cons_cons _),Is.of ⟨kr,kr,kr,trivial⟩⟩
 ·obtain rfl:k=16:=by omega
  refine rS [.v,.v] H4 kr fun gs4 w5 H5=>zE kr kr<|yW 0 kr<|wW<|rS [.v,.v] H5 kr fun gs6 w6 H6=>zA kr<|wV ?_;refine⟨[Qf b 16 cap],(.tmp (Qf b 16 cap) kr .nil),H6.below,?_⟩;exact⟨b,cap,_,_,dgs A 16,rfl,H6.ge 1 (o:=.cells cur 3) kr,H6.get 1 kr,by rw[vY],hr,zd6 A 16,rfl,zeh hA,vY A 16⟩
theorem zeo (x y:List Nat)(ba nx ca bb ny cb:Nat)(curA curB:Qd)(hnx:nx=Qr x)(hny:ny=Qr y)(hA:Rw 1 curA ca nx (yi x))(hB:Rw 1 curB cb ny (yi y))(hx:Ok x)(hy:Ok y)(lx:Qr x<=5000)(ly:Qr y<=5000):FnR Try.prog 74 #[Qf ba nx ca,Qf bb ny cb] (fun w=>w.heap[ba]? =some (.cells curA 3)/\w.heap[bb]? =some (.cells curB 3)) (vB 3 1 (fun cur cap n l=>(n=Qr l/\Rw 1 cur cap n (yi l)/\Ok l/\(vl l=vl x+vl y/\Qr l<=max (Qr x) (Qr y)+1/\max (Qr x) (Qr y)<=Qr l)))):=by
 subst hnx hny;refine FnR.intro (c:=zk Try.f74) [.tmp 4] 43 Try.func74 kr kr kr fun w hpre=>?_;have H0:=St.start w;refine rS [.v] H0 kr fun gs1 w1 H1=>?_;clear H0;refine rS [.nw (fun b=>Qf b 0 0) #[] 3,.v] H1 kr fun gs2 w2 H2=>?_;clear H1;refine rS [.v] H2 kr fun gs3 w3 H3=>?_;clear H2;refine zb kr<|rS [.v] H3 kr fun gs4 w4 H4=>?_;clear H3;refine zS 0 kr ?_;have HL1:St w.heap.size w w4 [((gs2 0).b,Qj #[] 3 (0,0))]:=H4.as kr;clear H4;refine qs kr (fun mz ρ ww=> ∃(b:Nat) (cap:Nat) (n:Nat) (cur:Qd) (l:List Nat) (k:Nat) (c:Nat),max (Qr x) (Qr y)+2-k=mz/\(n=Qr l)/\(Rw 1 cur cap n (yi l))/\(qf x y l k (c:Int))/\St w.heap.size w ww [(b,Qj cur 3)]/\Is [(0,Qf ba (Qr x) ca),(1,Qf bb (Qr y) cb),(4,.slice none 0 0),(5,Qf b n cap),(6,.int .i64 (c:Int)),(7,.int .i64 (k:Int))] ρ) (max (Qr x) (Qr y)+2-0) ⟨(gs2 0).b,0,0,#[],[],0,0,rfl,rfl,(Rw.lit #[] 0 rfl (by unfold maxLen;omega)),(qf.start x y),HL1,(Is.of ⟨kr,kr,kr,kr,kr,kr,trivial⟩)⟩ ?_;clear HL1;rintro _ _ w5 ⟨b,cap,n,cur,l,k,c,rfl,hn,hr,hS,H5,_,rfl⟩;have hc1:=hS.c1;have htop:=hS.top;have hxk:=ua hx k;have hyk:=ua hy k;have hlen:=hS.len;have hok:=hS.ok;refine zb kr<|ze [0,1,2,3,4,5,6,7,8,9,10,11,12,13] kr kr<|rp [.v,.v,.v] H5 kr fun gs6 w6 H6=>wX [3,4,5,6,7,8,9,10,11,12,13] ?_;clear H5;by_cases hc2:(k:Nat)<Qr x
 ·refine rp [.E (.bool (decide ((k:Int)<(Qr x:Int)))) (.bool true) (za (decide_eq_true (by omega))),.v,.n,.n,.n,.n,.v,.v,.n,.n,.v] H6 kr fun gs7 w7 H7=>wX [] ?_;clear H6;refine zc<|qD [0,1,4,5,6,7,23] fun ρ1=>?_;have HK3:=H7.keep;clear H7;refine zK kr kr<|zI kr<|wW<|zb kr<|zS 1 kr<|rS [.v,.v,.cp (pre:=fun w=>w.heap[ba]? =some (.cells curA 3)) (qg x ba (Qr x) ca curA rfl hA (by omega) k (by omega)) [] (fun w hb hd=>((hb.block _ (zf hpre.1)).trans hpre.1)),.v,.v,.cp (pre:=fun w=>w.heap[bb]? =some (.cells curB 3)) (qg y bb (Qr y) cb curB rfl hB (by omega) k (by omega)) [] (fun w hb hd=>((hb.block _ (zf hpre.2)).trans hpre.2)),.E (.int .i64 (Qn.wrap (((Qm x k 0:Nat):Int)+((Qm y k 0:Nat):Int)))) (.int .i64 (((Qm x k 0)+(Qm y k 0):Nat):Int)) (zd (zy (a:=Qm x k 0) (b:=Qm y k 0) (by omega))),.v,.E (.int .i64 (Qn.wrap ((((Qm x k 0)+(Qm y k 0):Nat):Int)+(c:Int)))) (.int .i64 ((((Qm x k 0)+(Qm y k 0))+c:Nat):Int)) (zd (zy (a:=(Qm x k 0)+(Qm y k 0)) (b:=c) (by omega))),.v] HK3 kr fun gs8 w8 H8=>?_;clear HK3;refine ze [0,1,2,3,4,5] kr kr<|rp [.v,.v,.E (.int .i64 (Vi ((((Qm x k 0)+(Qm y k 0))+c:Nat):Int) 65536)) (.int .i64 (((((Qm x k 0)+(Qm y k 0))+c)%65536:Nat):Int)) (zd (qZ (((Qm x k 0)+(Qm y k 0))+c) 65536)),.nw (fun b=>Qf b 1 1) #[.int .i64 (((((Qm x k 0)+(Qm y k 0))+c)%65536:Nat):Int)] 3] H8 kr fun gs9 w9 H9=>wX [4,5] ?_;clear H8;refine kb H9 (some 39) 90 3 1 8 (.tmp 35) (.tmp 38) 0 1 b ((gs9 3).b) n 1 cap 1 cur #[.int .i64 (((((Qm x k 0)+(Qm y k 0))+c)%65536:Nat):Int)] 3 (0,0) (yi l) ([.int .i64 (((((Qm x k 0)+(Qm y k 0))+c)%65536:Nat):Int)]) (fun b_1 cur_3=>[(b_1,Qj cur_3 3),((gs9 3).b,Qj #[.int .i64 (((((Qm x k 0)+(Qm y k 0))+c)%65536:Nat):Int)] 3 (0,0))]) kr kr kr kr kr hr kr kr (by rfl) (by rfl) (by intro u hu;simp at hu;first | exact hu.elim | (rcases hu with rfl | rfl | rfl | rfl<;>rfl) | (rcases hu with rfl | rfl<;>rfl) | (subst hu;rfl)) (by omega) (by unfold maxLen;omega) (fun _ _=>by kernel_rfl) ?_;intro b_1 cap_2 cur_3 w10 H10 hr_4;clear H9;refine rp [.v] H10 kr fun gs11 w11 H11=>wX [] ?_;clear H10;refine zc<|rL [.v,.E (.int .i64 (Qn.wrap (((((Qm x k 0)+(Qm y k 0))+c:Nat):Int).tdiv 65536))) (.int .i64 (((((Qm x k 0)+(Qm y k 0))+c) / 65536:Nat):Int)) (zd (jR (a:=((Qm x k 0)+(Qm y k 0))+c) (b:=65536) (by omega))),.v] H11 kr fun gs12 w12 H12=>?_;clear H11;refine wW<|qD [0,1,4,5,6,7,8,23] fun ρ2=>?_;have HK4:=H12.keep;clear H12;refine rL [.v,.E (.int .i64 (Qn.wrap ((k:Int)+1))) (.int .i64 ((k+1:Nat):Int)) (zd (zy (a:=k) (b:=1) (by omega))),.v] HK4 kr fun gs13 w13 H13=>?_;clear HK4;have HL5:St w.heap.size w w13 [(b_1,Qj cur_3 3),((gs9 3).b,Qj #[.int .i64 (((((Qm x k 0)+(Qm y k 0))+c)%65536:Nat):Int)] 3 (0,0))]:=H13.as kr;clear H13;have hS2:=hS.go hx hy (by omega);have HD6:St w.heap.size w w13 [(b_1,Qj cur_3 3)]:=HL5.sub (QA _ (Rs _ R4));show ∃m,_/\_;exact⟨_,(by have:=hS2.top;omega),b_1,cap_2,n+1,cur_3,l++ [(Qm x k 0+Qm y k 0+c)%65536],k+1,(Qm x k 0+Qm y k 0+c) / 65536,rfl,(by rw[Qz,<-hn];rfl),(by rw[kf];exact hr_4),hS2,HD6,(Is.of ⟨kr,kr,kr,kr,kr,kr,trivial⟩)⟩
 ·refine rp [.E (.bool (decide ((k:Int)<(Qr x:Int)))) (.bool false) (za (decide_eq_false (by omega))),.v,.v,.v,.v] H6 kr fun gs14 w14 H14=>wX [8,9,10,11,12,13] ?_;clear H6;by_cases hc7:(k:Nat)<Qr y
  ·refine rp [.E (.bool (decide ((k:Int)<(Qr y:Int)))) (.bool true) (za (decide_eq_true (by omega))),.v,.v,.n,.n,.v] H14 kr fun gs15 w15 H15=>wX [] ?_;clear H14;refine zc<|qD [0,1,4,5,6,7,23] fun ρ3=>?_;have HK8:=H15.keep;clear H15;refine zK kr kr<|zI kr<|wW<|zb kr<|zS 1 kr<|rS [.v,.v,.cp (pre:=fun w=>w.heap[ba]? =some (.cells curA 3)) (qg x ba (Qr x) ca curA rfl hA (by omega) k (by omega)) [] (fun w hb hd=>((hb.block _ (zf hpre.1)).trans hpre.1)),.v,.v,.cp (pre:=fun w=>w.heap[bb]? =some (.cells curB 3)) (qg y bb (Qr y) cb curB rfl hB (by omega) k (by omega)) [] (fun w hb hd=>((hb.block _ (zf hpre.2)).trans hpre.2)),.E (.int .i64 (Qn.wrap (((Qm x k 0:Nat):Int)+((Qm y k 0:Nat):Int)))) (.int .i64 (((Qm x k 0)+(Qm y k 0):Nat):Int)) (zd (zy (a:=Qm x k 0) (b:=Qm y k 0) (by omega))),.v,.E (.int .i64 (Qn.wrap ((((Qm x k 0)+(Qm y k 0):Nat):Int)+(c:Int)))) (.int .i64 ((((Qm x k 0)+(Qm y k 0))+c:Nat):Int)) (zd (zy (a:=(Qm x k 0)+(Qm y k 0)) (b:=c) (by omega))),.v] HK8 kr fun gs16 w16 H16=>?_;clear HK8;refine ze [0,1,2,3,4,5] kr kr<|rp [.v,.v,.E (.int .i64 (Vi ((((Qm x k 0)+(Qm y k 0))+c:Nat):Int) 65536)) (.int .i64 (((((Qm x k 0)+(Qm y k 0))+c)%65536:Nat):Int)) (zd (qZ (((Qm x k 0)+(Qm y k 0))+c) 65536)),.nw (fun b=>Qf b 1 1) #[.int .i64 (((((Qm x k 0)+(Qm y k 0))+c)%65536:Nat):Int)] 3] H16 kr fun gs17 w17 H17=>wX [4,5] ?_;clear H16;refine kb H17 (some 39) 90 3 1 8 (.tmp 35) (.tmp 38) 0 1 b ((gs17 3).b) n 1 cap 1 cur #[.int .i64 (((((Qm x k 0)+(Qm y k 0))+c)%65536:Nat):Int)] 3 (0,0) (yi l) ([.int .i64 (((((Qm x k 0)+(Qm y k 0))+c)%65536:Nat):Int)]) (fun b_5 cur_7=>[(b_5,Qj cur_7 3),((gs17 3).b,Qj #[.int .i64 (((((Qm x k 0)+(Qm y k 0))+c)%65536:Nat):Int)] 3 (0,0))]) kr kr kr kr kr hr kr kr (by rfl) (by rfl) (by intro u hu;simp at hu;first | exact hu.elim | (rcases hu with rfl | rfl | rfl | rfl<;>rfl) | (rcases hu with rfl | rfl<;>rfl) | (subst hu;rfl)) (by omega) (by unfold maxLen;omega) (fun _ _=>by kernel_rfl) ?_;intro b_5 cap_6 cur_7 w18 H18 hr_8;clear H17;refine rp [.v] H18 kr fun gs19 w19 H19=>wX [] ?_;clear H18;refine zc<|rL [.v,.E (.int .i64 (Qn.wrap (((((Qm x k 0)+(Qm y k 0))+c:Nat):Int).tdiv 65536))) (.int .i64 (((((Qm x k 0)+(Qm y k 0))+c) / 65536:Nat):Int)) (zd (jR (a:=((Qm x k 0)+(Qm y k 0))+c) (b:=65536) (by omega))),.v] H19 kr fun gs20 w20 H20=>?_;clear H19;refine wW<|qD [0,1,4,5,6,7,8,23] fun ρ4=>?_;have HK9:=H20.keep;clear H20;refine rL [.v,.E (.int .i64 (Qn.wrap ((k:Int)+1))) (.int .i64 ((k+1:Nat):Int)) (zd (zy (a:=k) (b:=1) (by omega))),.v] HK9 kr fun gs21 w21 H21=>?_;clear HK9;have HL10:St w.heap.size w w21 [(b_5,Qj cur_7 3),((gs17 3).b,Qj #[.int .i64 (((((Qm x k 0)+(Qm y k 0))+c)%65536:Nat):Int)] 3 (0,0))]:=H21.as kr;clear H21;have hS2:=hS.go hx hy (by omega);have HD11:St w.heap.size w w21 [(b_5,Qj cur_7 3)]:=HL10.sub (QA _ (Rs _ R4));show ∃m,_/\_;exact⟨_,(by have:=hS2.top;omega),b_5,cap_6,n+1,cur_7,l++ [(Qm x k 0+Qm y k 0+c)%65536],k+1,(Qm x k 0+Qm y k 0+c) / 65536,rfl,(by rw[Qz,<-hn];rfl),(by rw[kf];exact hr_8),hS2,HD11,(Is.of ⟨kr,kr,kr,kr,kr,kr,trivial⟩)⟩
  ·refine rp [.E (.bool (decide ((k:Int)<(Qr y:Int)))) (.bool false) (za (decide_eq_false (by omega))),.v,.v,.v] H14 kr fun gs22 w22 H22=>wX [12,13] ?_;clear H14;by_cases hc12:(c:Nat)>0
   ·refine rp [.E (.bool (decide (0<(c:Int)))) (.bool true) (za (decide_eq_true (by omega))),.v] H22 kr fun gs23 w23 H23=>wX [] ?_;clear H22;refine zc<|qD [0,1,4,5,6,7,23] fun ρ5=>?_;have HK13:=H23.keep;clear H23;refine zK kr kr<|zI kr<|wW<|zb kr<|zS 1 kr<|rS [.v,.v,.cp (pre:=fun w=>w.heap[ba]? =some (.cells curA 3)) (qg x ba (Qr x) ca curA rfl hA (by omega) k (by omega)) [] (fun w hb hd=>((hb.block _ (zf hpre.1)).trans hpre.1)),.v,.v,.cp (pre:=fun w=>w.heap[bb]? =some (.cells curB 3)) (qg y bb (Qr y) cb curB rfl hB (by omega) k (by omega)) [] (fun w hb hd=>((hb.block _ (zf hpre.2)).trans hpre.2)),.E (.int .i64 (Qn.wrap (((Qm x k 0:Nat):Int)+((Qm y k 0:Nat):Int)))) (.int .i64 (((Qm x k 0)+(Qm y k 0):Nat):Int)) (zd (zy (a:=Qm x k 0) (b:=Qm y k 0) (by omega))),.v,.E (.int .i64 (Qn.wrap ((((Qm x k 0)+(Qm y k 0):Nat):Int)+(c:Int)))) (.int .i64 ((((Qm x k 0)+(Qm y k 0))+c:Nat):Int)) (zd (zy (a:=(Qm x k 0)+(Qm y k 0)) (b:=c) (by omega))),.v] HK13 kr fun gs24 w24 H24=>?_;clear HK13;refine ze [0,1,2,3,4,5] kr kr<|rp [.v,.v,.E (.int .i64 (Vi ((((Qm x k 0)+(Qm y k 0))+c:Nat):Int) 65536)) (.int .i64 (((((Qm x k 0)+(Qm y k 0))+c)%65536:Nat):Int)) (zd (qZ (((Qm x k 0)+(Qm y k 0))+c) 65536)),.nw (fun b=>Qf b 1 1) #[.int .i64 (((((Qm x k 0)+(Qm y k 0))+c)%65536:Nat):Int)] 3] H24 kr fun gs25 w25 H25=>wX [4,5] ?_;clear H24;refine kb H25 (some 39) 90 3 1 8 (.tmp 35) (.tmp 38) 0 1 b ((gs25 3).b) n 1 cap 1 cur #[.int .i64 (((((Qm x k 0)+(Qm y k 0))+c)%65536:Nat):Int)] 3 (0,0) (yi l) ([.int .i64 (((((Qm x k 0)+(Qm y k 0))+c)%65536:Nat):Int)]) (fun b_9 cur_11=>[(b_9,Qj cur_11 3),((gs25 3).b,Qj #[.int .i64 (((((Qm x k 0)+(Qm y k 0))+c)%65536:Nat):Int)] 3 (0,0))]) kr kr kr kr kr hr kr kr (by rfl) (by rfl) (by intro u hu;simp at hu;first | exact hu.elim | (rcases hu with rfl | rfl | rfl | rfl<;>rfl) | (rcases hu with rfl | rfl<;>rfl) | (subst hu;rfl)) (by omega) (by unfold maxLen;omega) (fun _ _=>by kernel_rfl) ?_;intro b_9 cap_10 cur_11 w26 H26 hr_12;clear H25;refine rp [.v] H26 kr fun gs27 w27 H27=>wX [] ?_;clear H26;refine zc<|rL [.v,.E (.int .i64 (Qn.wrap (((((Qm x k 0)+(Qm y k 0))+c:Nat):Int).tdiv 65536))) (.int .i64 (((((Qm x k 0)+(Qm y k 0))+c) / 65536:Nat):Int)) (zd (jR (a:=((Qm x k 0)+(Qm y k 0))+c) (b:=65536) (by omega))),.v] H27 kr fun gs28 w28 H28=>?_;clear H27;refine wW<|qD [0,1,4,5,6,7,8,23] fun ρ6=>?_;have HK14:=H28.keep;clear H28;refine rL [.v,.E (.int .i64 (Qn.wrap ((k:Int)+1))) (.int .i64 ((k+1:Nat):Int)) (zd (zy (a:=k) (b:=1) (by omega))),.v] HK14 kr fun gs29 w29 H29=>?_;clear HK14;have HL15:St w.heap.size w w29 [(b_9,Qj cur_11 3),((gs25 3).b,Qj #[.int .i64 (((((Qm x k 0)+(Qm y k 0))+c)%65536:Nat):Int)] 3 (0,0))]:=H29.as kr;clear H29;have hS2:=hS.go hx hy (by omega);have HD16:St w.heap.size w w29 [(b_9,Qj cur_11 3)]:=HL15.sub (QA _ (Rs _ R4));show ∃m,_/\_;exact⟨_,(by have:=hS2.top;omega),b_9,cap_10,n+1,cur_11,l++ [(Qm x k 0+Qm y k 0+c)%65536],k+1,(Qm x k 0+Qm y k 0+c) / 65536,rfl,(by rw[Qz,<-hn];rfl),(by rw[kf];exact hr_12),hS2,HD16,(Is.of ⟨kr,kr,kr,kr,kr,kr,trivial⟩)⟩
   ·refine rp [.E (.bool (decide (0<(c:Int)))) (.bool false) (za (decide_eq_false (by omega))),.v] H22 kr fun gs30 w30 H30=>wX [] ?_;clear H22;refine zc<|qD [0,1,4,5,6,7,23] fun ρ7=>?_;have HK17:=H30.keep;clear H30;refine zE kr kr<|yW 0 kr<|wW<|rS [.v,.v] HK17 kr fun gs31 w31 H31=>?_;clear HK17;refine zA kr<|wV ?_;refine⟨[Qf b n cap],(.tmp (Qf b n cap) kr .nil),H31.below,?_⟩;exact⟨b,cap,_,_,l,rfl,H31.ge 0 (o:=.cells cur 3) kr,H31.get 0 kr,hn,hr,hok,hS.done (by omega) (by omega) (by omega),by omega,by omega⟩
theorem zaZ (x y:List Nat)(ba nx ca bb ny cb:Nat)(curA curB:Qd)(hnx:nx=Qr x)(hny:ny=Qr y)(hA:Rw 1 curA ca nx (yi x))(hB:Rw 1 curB cb ny (yi y))(hx:Ok x)(hy:Ok y)(lx:Qr x<=5000)(ly:Qr y<=5000):FnP Try.prog 73 #[Qf ba nx ca,Qf bb ny cb] (fun w=>w.heap[ba]? =some (.cells curA 3)/\w.heap[bb]? =some (.cells curB 3)) (.bool (ls x y)):=by
 subst hnx hny;refine FnP.intro (c:=zk Try.f73) [.tmp 4] 35 Try.func73 kr kr kr fun w hpre=>?_;have H0:=St.start w;refine rS [.v] H0 kr fun gs1 w1 H1=>?_;clear H0;refine rS [.v,.v,.v] H1 kr fun gs2 w2 H2=>?_;clear H1;refine zb kr<|ze [0,1,2,3] kr kr<|rp [.v,.v,.v] H2 kr fun gs3 w3 H3=>wX [3] ?_;clear H2;by_cases hc1:(Qr y:Nat)>Qr x
 ·refine rp [.E (.bool (decide ((Qr x:Int)<(Qr y:Int)))) (.bool true) (za (decide_eq_true (by omega)))] H3 kr fun gs4 w4 H4=>wX [] ?_;clear H3;refine zc<|zK kr kr<|rL [.v,.v,.v] H4 kr fun gs5 w5 H5=>?_;clear H4;refine wW<|zb kr<|rS [.v,.E (.int .i64 (Qn.wrap ((Qr y:Int)-1))) (.int .i64 ((Qr y:Int)-1)) (zd (wrap_i64 (by omega) (by omega))),.v] H5 kr fun gs6 w6 H6=>?_;clear H5;refine zS 0 kr ?_;have HL2:St w.heap.size w w6 []:=H6.as kr;clear H6;refine qs kr (fun mz ρ ww=> ∃(j:Nat),j=mz/\(j<=5000)/\(qH x y ((j:Int)-1))/\St w.heap.size w ww []/\Is [(0,Qf ba (Qr x) ca),(1,Qf bb (Qr y) cb),(5,.int .i64 (Qr y:Int)),(6,.int .i64 ((j:Int)-1)),(12,.bool true)] ρ) (Qr y) ⟨Qr y,rfl,(by omega),(qH.start x y _ (by omega) (by omega)),HL2,(Is.of ⟨kr,kr,kr,kr,kr,trivial⟩)⟩ ?_;clear HL2;rintro _ _ w7 ⟨j,rfl,hj,hs,H7,_,rfl⟩;refine zb kr<|ze [0,1] kr kr<|rp [.v] H7 kr fun gs8 w8 H8=>wX [1] ?_;clear H7;by_cases hc3:((j:Int)-1:Int)≥0
  ·refine rp [.E (.bool (decide (0<=(j:Int)-1))) (.bool true) (za (decide_eq_true (by omega)))] H8 kr fun gs9 w9 H9=>wX [] ?_;clear H8;refine zc<|zK kr kr<|zI kr<|wW<|zb kr<|zS 1 kr<|ze [0,1,2,3,4,5,6] kr kr<|rp [.v] H9 kr fun gs10 w10 H10=>wX [1,2,3,4,5,6] ?_;clear H9;refine yN 6 (v:=.int .i64 ((j:Int)-1)) (v':=.int .i64 ((j-1:Nat):Int)) (zd (show ((j:Int)-1)=((j-1:Nat):Int) from by omega)) kr<|yN 17 (v:=.int .i64 ((j:Int)-1)) (v':=.int .i64 ((j-1:Nat):Int)) (zd (show ((j:Int)-1)=((j-1:Nat):Int) from by omega)) kr<|rp [.v,.cp (pre:=fun w=>w.heap[ba]? =some (.cells curA 3)) (qg x ba (Qr x) ca curA rfl hA (by omega) (j-1) (by omega)) [] (fun w hb hd=>((hb.block _ (zf hpre.1)).trans hpre.1)),.v,.v,.cp (pre:=fun w=>w.heap[bb]? =some (.cells curB 3)) (qg y bb (Qr y) cb curB rfl hB (by omega) (j-1) (by omega)) [] (fun w hb hd=>((hb.block _ (zf hpre.2)).trans hpre.2))] H10 kr fun gs11 w11 H11=>wX [6] ?_;clear H10;by_cases hc4:(Qm x (j-1) 0:Nat)≠Qm y (j-1) 0
   ·refine rp [.E (.bool (!(((Qm x (j-1) 0:Nat):Int)==((Qm y (j-1) 0:Nat):Int)))) (.bool true) (za (by rw[beq_eq_false_iff_ne.2 (by omega)];rfl))] H11 kr fun gs12 w12 H12=>wX [] ?_;clear H11;refine zc<|qD [0,1,5,6,12,18,27] fun ρ1=>?_;have HK5:=H12.keep;clear H12;refine zK kr kr<|rS [.v,.v,.cp (pre:=fun w=>w.heap[ba]? =some (.cells curA 3)) (qg x ba (Qr x) ca curA rfl hA (by omega) (j-1) (by omega)) [] (fun w hb hd=>((hb.block _ (zf hpre.1)).trans hpre.1)),.v,.v,.cp (pre:=fun w=>w.heap[bb]? =some (.cells curB 3)) (qg y bb (Qr y) cb curB rfl hB (by omega) (j-1) (by omega)) [] (fun w hb hd=>((hb.block _ (zf hpre.2)).trans hpre.2)),.E (.bool (decide (((Qm x (j-1) 0:Nat):Int)<((Qm y (j-1) 0:Nat):Int)))) (.bool (ls x y)) (za (zaX hx hy (j-1) (fun t ht=>hs t (by omega)) (by unfold dAt;omega))),.v] HK5 kr fun gs13 w13 H13=>?_;clear HK5;refine zA kr<|wV ?_;refine⟨[.bool (ls x y)],(.tmp (.bool (ls x y)) kr .nil),?_,H13.below⟩;rfl
   ·refine rp [.E (.bool (!(((Qm x (j-1) 0:Nat):Int)==((Qm y (j-1) 0:Nat):Int)))) (.bool false) (za (by rw[beq_iff_eq.2 (by omega)];rfl))] H11 kr fun gs14 w14 H14=>wX [] ?_;clear H11;refine zc<|qD [0,1,5,6,12,18,27] fun ρ2=>?_;have HK6:=H14.keep;clear H14;refine zE kr kr<|zI kr<|wW<|rL [.v,.E (.int .i64 (Qn.wrap (((j-1:Nat):Int)-1))) (.int .i64 (((j-1:Nat):Int)-1)) (zd (wrap_i64 (by omega) (by omega))),.v] HK6 kr fun gs15 w15 H15=>?_;clear HK6;have HL7:St w.heap.size w w15 []:=H15.as kr;clear H15;show ∃m,_/\_;exact⟨_,(by omega),(j-1),rfl,(by omega),(qH.down (j:=j-1) (fun t ht=>hs t (by omega)) (by unfold dAt;omega)),HL7,(Is.of ⟨kr,kr,kr,kr,kr,trivial⟩)⟩
  ·refine rp [.E (.bool (decide (0<=(j:Int)-1))) (.bool false) (za (decide_eq_false (by omega)))] H8 kr fun gs16 w16 H16=>wX [] ?_;clear H8;refine zc<|zE kr kr<|yW 0 kr<|wW<|rS [.v] H16 kr fun gs17 w17 H17=>?_;clear H16;refine zA kr<|wV ?_;refine⟨[.bool false],(.tmp (.bool false) kr .nil),?_,H17.below⟩;exact congrArg Rj (zaY (x:=x) (y:=y) fun t=>hs t (by omega)).symm
 ·refine rp [.E (.bool (decide ((Qr x:Int)<(Qr y:Int)))) (.bool false) (za (decide_eq_false (by omega)))] H3 kr fun gs18 w18 H18=>wX [] ?_;clear H3;refine zc<|zE kr kr<|zI kr<|wW<|zb kr<|rS [.v,.E (.int .i64 (Qn.wrap ((Qr x:Int)-1))) (.int .i64 ((Qr x:Int)-1)) (zd (wrap_i64 (by omega) (by omega))),.v] H18 kr fun gs19 w19 H19=>?_;clear H18;refine zS 0 kr ?_;have HL8:St w.heap.size w w19 []:=H19.as kr;clear H19;refine qs kr (fun mz ρ ww=> ∃(j:Nat),j=mz/\(j<=5000)/\(qH x y ((j:Int)-1))/\St w.heap.size w ww []/\Is [(0,Qf ba (Qr x) ca),(1,Qf bb (Qr y) cb),(5,.int .i64 (Qr x:Int)),(6,.int .i64 ((j:Int)-1)),(12,.bool false)] ρ) (Qr x) ⟨Qr x,rfl,(by omega),(qH.start x y _ (by omega) (by omega)),HL8,(Is.of ⟨kr,kr,kr,kr,kr,trivial⟩)⟩ ?_;clear HL8;rintro _ _ w20 ⟨j,rfl,hj,hs,H20,_,rfl⟩;refine zb kr<|ze [0,1] kr kr<|rp [.v] H20 kr fun gs21 w21 H21=>wX [1] ?_;clear H20;by_cases hc9:((j:Int)-1:Int)≥0
  ·refine rp [.E (.bool (decide (0<=(j:Int)-1))) (.bool true) (za (decide_eq_true (by omega)))] H21 kr fun gs22 w22 H22=>wX [] ?_;clear H21;refine zc<|zK kr kr<|zI kr<|wW<|zb kr<|zS 1 kr<|ze [0,1,2,3,4,5,6] kr kr<|rp [.v] H22 kr fun gs23 w23 H23=>wX [1,2,3,4,5,6] ?_;clear H22;refine yN 6 (v:=.int .i64 ((j:Int)-1)) (v':=.int .i64 ((j-1:Nat):Int)) (zd (show ((j:Int)-1)=((j-1:Nat):Int) from by omega)) kr<|yN 17 (v:=.int .i64 ((j:Int)-1)) (v':=.int .i64 ((j-1:Nat):Int)) (zd (show ((j:Int)-1)=((j-1:Nat):Int) from by omega)) kr<|rp [.v,.cp (pre:=fun w=>w.heap[ba]? =some (.cells curA 3)) (qg x ba (Qr x) ca curA rfl hA (by omega) (j-1) (by omega)) [] (fun w hb hd=>((hb.block _ (zf hpre.1)).trans hpre.1)),.v,.v,.cp (pre:=fun w=>w.heap[bb]? =some (.cells curB 3)) (qg y bb (Qr y) cb curB rfl hB (by omega) (j-1) (by omega)) [] (fun w hb hd=>((hb.block _ (zf hpre.2)).trans hpre.2))] H23 kr fun gs24 w24 H24=>wX [6] ?_;clear H23;by_cases hc10:(Qm x (j-1) 0:Nat)≠Qm y (j-1) 0
   ·refine rp [.E (.bool (!(((Qm x (j-1) 0:Nat):Int)==((Qm y (j-1) 0:Nat):Int)))) (.bool true) (za (by rw[beq_eq_false_iff_ne.2 (by omega)];rfl))] H24 kr fun gs25 w25 H25=>wX [] ?_;clear H24;refine zc<|qD [0,1,5,6,12,18,27] fun ρ3=>?_;have HK11:=H25.keep;clear H25;refine zK kr kr<|rS [.v,.v,.cp (pre:=fun w=>w.heap[ba]? =some (.cells curA 3)) (qg x ba (Qr x) ca curA rfl hA (by omega) (j-1) (by omega)) [] (fun w hb hd=>((hb.block _ (zf hpre.1)).trans hpre.1)),.v,.v,.cp (pre:=fun w=>w.heap[bb]? =some (.cells curB 3)) (qg y bb (Qr y) cb curB rfl hB (by omega) (j-1) (by omega)) [] (fun w hb hd=>((hb.block _ (zf hpre.2)).trans hpre.2)),.E (.bool (decide (((Qm x (j-1) 0:Nat):Int)<((Qm y (j-1) 0:Nat):Int)))) (.bool (ls x y)) (za (zaX hx hy (j-1) (fun t ht=>hs t (by omega)) (by unfold dAt;omega))),.v] HK11 kr fun gs26 w26 H26=>?_;clear HK11;refine zA kr<|wV ?_;refine⟨[.bool (ls x y)],(.tmp (.bool (ls x y)) kr .nil),?_,H26.below⟩;rfl
   ·refine rp [.E (.bool (!(((Qm x (j-1) 0:Nat):Int)==((Qm y (j-1) 0:Nat):Int)))) (.bool false) (za (by rw[beq_iff_eq.2 (by omega)];rfl))] H24 kr fun gs27 w27 H27=>wX [] ?_;clear H24;refine zc<|qD [0,1,5,6,12,18,27] fun ρ4=>?_;have HK12:=H27.keep;clear H27;refine zE kr kr<|zI kr<|wW<|rL [.v,.E (.int .i64 (Qn.wrap (((j-1:Nat):Int)-1))) (.int .i64 (((j-1:Nat):Int)-1)) (zd (wrap_i64 (by omega) (by omega))),.v] HK12 kr fun gs28 w28 H28=>?_;clear HK12;have HL13:St w.heap.size w w28 []:=H28.as kr;clear H28;show ∃m,_/\_;exact⟨_,(by omega),(j-1),rfl,(by omega),(qH.down (j:=j-1) (fun t ht=>hs t (by omega)) (by unfold dAt;omega)),HL13,(Is.of ⟨kr,kr,kr,kr,kr,trivial⟩)⟩
  ·refine rp [.E (.bool (decide (0<=(j:Int)-1))) (.bool false) (za (decide_eq_false (by omega)))] H21 kr fun gs29 w29 H29=>wX [] ?_;clear H21;refine zc<|zE kr kr<|yW 0 kr<|wW<|rS [.v] H29 kr fun gs30 w30 H30=>?_;clear H29;refine zA kr<|wV ?_;refine⟨[.bool false],(.tmp (.bool false) kr .nil),?_,H30.below⟩;exact congrArg Rj (zaY (x:=x) (y:=y) fun t=>hs t (by omega)).symm
theorem za0:Fn Try.prog 72 #[.int .i64 1] (uv NR):=by
 refine Fn.intro (c:=zk Try.f72) [.cell 2 64] 7 Try.func72 kr kr kr fun w=>?_;have H0:=St.start w;refine rS [.a] H0 kr fun gs1 w1 H1=>?_;clear H0;refine zb kr<|rS [.v,.v] H1 kr fun gs2 w2 H2=>?_;clear H1;refine zE kr kr<|zI kr<|wW<|rS [.v,.s 0] H2 kr fun gs3 w3 H3=>?_;clear H2;refine zA kr<|wV ?_;refine⟨[.agg #[.int .u64 0xbfd25e8cd0364141,.int .u64 0xbaaedce6af48a03b,.int .u64 0xfffffffffffffffe,.int .u64 0xffffffffffffffff]],(.agg (b:=(gs1 0).b) #[.int .u64 0xbfd25e8cd0364141,.int .u64 0xbaaedce6af48a03b,.int .u64 0xfffffffffffffffe,.int .u64 0xffffffffffffffff] 64 (0,0) kr (H3.get 0 kr) kr .nil),?_,H3.below⟩
 kernel_rfl
section
variable {P:Program}{N:Nat}{ops:Array Oper}{i:Nat}{r:List Nat}{K:Env->World->Prop}{ρ:Env}{w:World}{B:Nat}{w0:World}{l:Qb}
end
namespace D2
section
variable {P:Program}{ops:Array Oper}{R:(Nat->Gh)->Env}{i:Nat}{d:Option Nat}
variable {E:(Nat->Bool)->(Nat->Gh)->List Ent}{F:(Nat->Bool)->(Nat->Gh)->Prop}{B:Nat}{w0:World}
end
end D2
section
open Go.ChangeShapes Go.WideShapes Go.ChangeAt
theorem zep:Try.prog.cellsOf 23=1:=kr
theorem zeq:Try.prog.cellsOf 64=4:=kr
theorem kR {x:Int}(h:(Lit.int .u64 x).wf=true):Wd x:=by
 have hmin:Ur.min=0:=rfl;have hmax:Ur.max=0xffffffffffffffff:=rfl;simp only[Lit.wf,Qo,decide_eq_true_eq]at h;unfold Wd;omega
theorem zer {α:Type}(l:List α)(h:(⟨l⟩:Array α).size=9):∃a b c d e f g i j,l=[a,b,c,d,e,f,g,i,j]:=by
 match l,h with
 | [a,b,c,d,e,f,g,i,j],_=>exact⟨a,b,c,d,e,f,g,i,j,rfl⟩
theorem za1 {H:Type}{enc:TypeId×Value->H}{W:World}{b0:Nat}{sp:Nat->Bool}{held:Bool}{x:DataW H×List MemPlace}{fuel:Nat}{c0 c1 c2 c3:Value}
 (hf:QC enc Try.prog W b0 sp held fuel 64 [c0,c1,c2,c3]=some x):∃n:Nat,n<big/\c0=.int .u64 (w0 n)/\c1=.int .u64 (w1 n)/\c2=.int .u64 (w2 n)/\c3=.int .u64 (w3 n):=by
 obtain⟨y0,y1,y2,y3,m,hx,hy0,hy1,hy2,hy3⟩:=trod_array4 Try.underlying64 zep hf;obtain⟨x0,e0,rfl,w0⟩:=Ul Try.underlying23 hy0;obtain⟨x1,e1,rfl,w1⟩:=Ul Try.underlying23 hy1;obtain⟨x2,e2,rfl,w2⟩:=Ul Try.underlying23 hy2;obtain⟨x3,e3,rfl,w3⟩:=Ul Try.underlying23 hy3;simp at e0 e1 e2 e3;subst e0 e1 e2 e3;obtain⟨n,hn,g0,g1,g2,g3⟩:=zdB (kR w0) (kR w1) (kR w2) (kR w3);exact⟨n,hn,by rw[g0],by rw[g1],by rw[g2],by rw[g3]⟩
end
inductive Fo
 | nil
 | cons (l:Bool) (s:Qa) (k r:Fo)
def dgI:Nat->Nat->List UInt8
 | 0,_=>[]
 | m+1,n=>if n=0 then [] else dgI m (n / 256)++ [Vc n]
def dg (n:Nat):List UInt8:=dgI 8 n
def hd (f n:Nat):List UInt8:=if n<=55 then [Vc (f+n)] else Vc (f+55+(dg n).length)::dg n
section
variable {l:Bool}{s:Qa}{n y:Nat}{k:Fo}
end
section
variable {P:Program}{N:Nat}{ops:Array Oper}{i:Nat}{r:List Nat}{K:Env->World->Prop}{ρ:Env}{w:World}{w0:World}{l E:Qb}
end
section
variable {P:Program}{ops:Array Oper}{R:(Nat->D2.Gh)->Env}{i:Nat}{d:Option Nat}{w0:World}{p:Nat}{T e:TypeId}{out':List UInt8}{bx:Nat×Obj}{E:Qb}{q:Nat}
end
section
variable {P:Program}{ops:Array Oper}{R:(Nat->D2.Gh)->Env}{i:Nat}{d:Option Nat}{w0:World}{l:Qb}{q:Nat}
end
structure X3 where
 l:Bool
 s:Qa
 p:Qc
 n:Nat
 c:Nat
 k:Fo
def val (l:List UInt8):Nat:=l.foldl (fun n b=>n*256+b.toNat) 0
theorem rwB (s:Qa)(h:Qy s<=maxLen):Rw 1 (yP (tl s)).toArray (Qy s) (Qy s) (yP (tl s)):=
 ⟨by rw[ky,kx];omega,Qu _,h,by rw[Qp (by simp[ky,kx])],by simp[ky,kx]⟩
theorem zes {P:Program}{ρ:Env}{t e:TypeId}{bytes:Nat}(ht:yh P t=some (e,1,bytes)){x y:Operand}{o:Oper}{kd:IntKind}(b n c:Nat)(ho:o.op=.indexAddr t x y)(hx:ev ρ x=Qf b n c)(hy:ev ρ y=.int kd 0)(hk:0<n):
 ∀w,(execOp (ev ρ) o).run P w=.ok (.value (Qe b)) w:=fun w=>
 vx (P:=P) (kd:=kd) ht b 0 n c 0 ho hx hy hk w
theorem zet (s:Qa)(hs:Qy s<=0x800000000000):Fn Try.prog 30 #[.string s] (.string s):=by
 refine Fn.intro (c:=zk Try.f30) [.tmp 2] 18 Try.func30 kr kr kr fun w=>?_;have H0:=St.start w;refine ze [0] kr kr<|zt (some 2) (.string (⟨#[]⟩)) (fun w=>by kernel_rfl) kr<|zc<|zb kr<|ze [0,1,2] kr kr<|zt (some 4) (.string s) (fun w=>by kernel_rfl) kr<|zt (some 5) (.int .i64 (Qy s:Int)) (fun w=>by kernel_rfl) kr ?_;by_cases hc1:(Qy s:Nat)=0
 ·refine xo (some 6) (.bool ((Qy s:Int)==0)) (.bool true) (fun w=>by kernel_rfl) (za (beq_iff_eq.2 (by omega))) kr<|zc<|zK kr kr<|ze [0] kr kr<|zt (some 2) (.string (⟨#[]⟩)) (fun w=>by kernel_rfl) kr<|zc<|zA kr<|wV ?_;refine⟨[.string (⟨#[]⟩)],(.tmp (.string (⟨#[]⟩)) kr .nil),?_,H0.below⟩;exact congrArg Value.string (vO (List.eq_nil_of_length_eq_zero (by rw[kx];omega):tl s=[]).symm)
 ·refine xo (some 6) (.bool ((Qy s:Int)==0)) (.bool false) (fun w=>by kernel_rfl) (za (beq_eq_false_iff_ne.2 (by omega))) kr<|zc<|zE kr kr<|zI kr<|wW<|ze [0,1,2,3] kr kr<|zt (some 7) (.string s) (fun w=>by kernel_rfl) kr<|zt (some 8) (.int .i64 (Qy s:Int)) (fun w=>by kernel_rfl) kr<|zdf H0 (some 9) 70 5 1 (.int .u8 0) (.tmp 8) (.tmp 8) .i64 .i64 (Qy s) kr kr kr kr rfl kr kr (by omega) (by unfold maxLen;omega) ?_;intro b_1 cur_2 w1 H1 hr_3;clear H0;have hr_3z:Rw 1 cur_2 (Qy s) (Qy s) (yP (List.replicate (Qy s) 0)):=by rw[zdj];exact hr_3
  refine zt (some 3) (Qf b_1 (Qy s) (Qy s)) (fun w=>by kernel_rfl) kr<|zc<|ze [0,1,2] kr kr<|zt (some 10) (Qf b_1 (Qy s) (Qy s)) (fun w=>by kernel_rfl) kr<|zt (some 11) (.string s) (fun w=>by kernel_rfl) kr<|zdk H1 (some 12) 70 9 5 1 (.tmp 10) (.tmp 11) 0 b_1 (Qy s) (Qy s) s cur_2 ((yP (tl s)).toArray) 5 [(b_1,Qj ((yP (tl s)).toArray) 5)] kr kr kr kr kr kr (by omega) (Nat.le_of_eq (by have h:=hr_3z.sz;rw[h];omega)) (by rw[QD (by have h:=hr_3z.sz;rw[QN,h];omega),List.append_nil]) kr ?_;intro w2 H2;clear H1;refine zc<|ze [0,1,2,3,4,5] kr kr<|zt (some 13) (Qf b_1 (Qy s) (Qy s)) (fun w=>by kernel_rfl) kr<|zcX (some 14) _ (Qe b_1) kr kr (fun o w ho=>zes (kd:=.i64) (t:=70) (e:=5) (bytes:=1) kr (x:=(.tmp 13)) (y:=(.const (.int .i64 0))) b_1 (Qy s) (Qy s) ho kr kr (by omega) w)<|zt (some 15) (Qf b_1 (Qy s) (Qy s)) (fun w=>by kernel_rfl) kr<|zt (some 16) (.int .i64 (Qy s:Int)) (fun w=>by kernel_rfl) kr<|zdl H2 (some 17) 71 3 5 (.tmp 14) (.tmp 16) (Qy s) (Qy s) (tl s) kr kr kr kr rfl kr kr (rwB s (by unfold maxLen;omega)) (by omega) (by omega) ?_;intro w3 H3;clear H2;refine zt (some 2) (.string (jA (tl s))) (fun w=>by kernel_rfl) kr<|zc<|zA kr<|wV ?_;refine⟨[.string (jA (tl s))],(.tmp (.string (jA (tl s))) kr .nil),?_,H3.below⟩;rfl
theorem zeu (s:Qa)(hs:Qy s<=0x800000000000):Fn Try.prog 19 #[.string s] (.string s):=by
 refine Fn.intro (c:=zk Try.f19) [.tmp 2] 5 Try.func19 kr kr kr fun w=>?_;have H0:=St.start w;refine ze [0] kr kr<|zt (some 2) (.string (⟨#[]⟩)) (fun w=>by kernel_rfl) kr<|zc<|ze [0,1,2] kr kr<|zt (some 3) (.string s) (fun w=>by kernel_rfl) kr<|ji H0 (some 4) 30 #[.string s] (.string s) (zet s (by omega)) (fun w=>by kernel_rfl) kr ?_;intro w1 H1;clear H0;refine zt (some 2) (.string s) (fun w=>by kernel_rfl) kr<|zc<|zA kr<|wV ?_;refine⟨[.string s],(.tmp (.string s) kr .nil),?_,H1.below⟩;rfl
theorem jW (s:Qa)(hs:Qy s<=1000000):Fn Try.prog 19 #[.string s] (.string s):=zeu s (by omega)
section
variable {P:Program}{N:Nat}{ops:Array Oper}{i:Nat}{r:List Nat}{K:Env->World->Prop}{ρ:Env}{w:World}{B:Nat}{w0:World}{l:Qb}
end
section
variable {P:Program}{N:Nat}{ops:Array Oper}{Q:Exit->Env->World->Prop}{K:Env->World->Prop}{ρ:Env}{w:World}{i:Nat}{r:List Nat}{c:Code}
end
section
variable {P:Program}{N:Nat}{ops:Array Oper}{Q:Exit->Env->World->Prop}{K:Env->World->Prop}{ρ:Env}{w w0:World}{i B:Nat}{r:List Nat}{l:Qb}
end
namespace D2
section
variable {P:Program}{N:Nat}{ops:Array Oper}{Q:Exit->Env->World->Prop}{K:Env->World->Prop}{ρ:Env}{w:World}{vs:List (Option Nat×(Gh->Value))}{pre:(Nat->Bool)->(Nat->Gh)->World->Prop}{Bad:List PanicEntry->World->Prop}
end
end D2
section
variable {P:Program}{ρ:Env}{w w0:World}{B:Nat}{l:Qb}
end
section
variable {B:Nat}{w0:World}{t:Qa}{b2 b3 b4:Nat}{p:Qc}{n c:Nat}{row:Qb}{M:List X3}{L0:Qb}{L:Nat->Bool}{g:Nat->D2.Gh}{w:World}
end
section
variable {P:Program}{N:Nat}{ops:Array Oper}{Q:Exit->Env->World->Prop}{K:Env->World->Prop}{ρ:Env}{w:World}{i:Nat}{ds:List Deferred}
variable {c:Code}
end
section
variable {P:Program}{N:Nat}{ops:Array Oper}{ρ:Env}{w w':World}{i:Nat}{ds:List Deferred}{c:Code}{rest:List Nat}{a:Act}{cs:List Frame}
variable {Q:Exit->Act->List Frame->World->Prop}
end
section
variable {P:Program}{N:Nat}{ops:Array Oper}{ρ:Env}{w w':World}{i:Nat}{rest:List Nat}{a:Act}{Q:Exit->Act->World->Prop}
end
section
variable {P:Program}{N:Nat}{ops:Array Oper}{K:Env->World->Prop}{ρ:Env}{w w0:World}{i B:Nat}{r:List Nat}{l:Qb}
end
theorem za2 {s:Qa}(h:s.size=0):s=⟨#[]⟩:=by
 obtain⟨d⟩:=s;have:d=#[]:=Array.eq_empty_of_size_eq_zero h;rw[this]
section
open D2 (Gh)
end
section
variable {B:Nat}{w0:World}{bq bf bk:Nat}{qO kO:Obj}{p:Qc}{i c:Nat}{row:Qb}{M:List (El (Nat×Qa))}{ok:El (Nat×Qa)->Qb->Prop}{T:Qb}{L:Nat->Bool}{g:Nat->D2.Gh}{w w':World}
end
section
variable {B:Nat}{w0:World}{bd b2 bo:Nat}{dO bO:Obj}{kv:Value}{cur:Qd}{N en:Nat}{row:Qb}{xs:List Value}{T:Qb}{L:Nat->Bool}{g:Nat->D2.Gh}{w:World}
end
theorem za3 {A B:Nat}(h:A<B):cm A B<0:=by unfold cm;split<;>(try split)<;>omega
theorem za4 {A B:Nat}(h: ¬A<B): ¬cm A B<0:=by unfold cm;split<;>(try split)<;>omega
section
section
variable {p H Q:Nat}
end
open Go Go.RowKit Go.Proofs.Zm
end
section
open Go.ChangeShapes Go.WideShapes Go.ChangeAt
def bn (A:Nat):List Int:=[w3 A / 72057594037927936%256,w3 A / 281474976710656%256,w3 A / 1099511627776%256,w3 A / 4294967296%256,w3 A / 16777216%256,w3 A / 65536%256,w3 A / 256%256,w3 A%256,w2 A / 72057594037927936%256,w2 A / 281474976710656%256,w2 A / 1099511627776%256,w2 A / 4294967296%256,w2 A / 16777216%256,w2 A / 65536%256,w2 A / 256%256,w2 A%256,w1 A / 72057594037927936%256,w1 A / 281474976710656%256,w1 A / 1099511627776%256,w1 A / 4294967296%256,w1 A / 16777216%256,w1 A / 65536%256,w1 A / 256%256,w1 A%256,w0 A / 72057594037927936%256,w0 A / 281474976710656%256,w0 A / 1099511627776%256,w0 A / 4294967296%256,w0 A / 16777216%256,w0 A / 65536%256,w0 A / 256%256,w0 A%256]
def bs (A:Nat):Qa:=strOfNums (bn A)
theorem zev (w:World)(O:Obj)(xs:List Int)(n:Nat)(hn:xs.length=n)(C:Qd)(hC:C=(xs.map (Ve .u8)).toArray):
 (convert 70 9 (.slice (some ⟨w.heap.size+1,0,none⟩) n n)).run Try.prog ((w.alloc O).alloc (.cells C 107))=.ok (.string (strOfNums xs)) ((w.alloc O).alloc (.cells C 107)):=by
 subst hC;refine run_convert_bytes_arg _ 70 5 Try.underlying70 Try.underlying5 _ 0 n n xs hn ?_ 9 Try.underlying9;intro i hi;have h:=heap_alloc2_new w O (.cells (xs.map (Ve .u8)).toArray 107);rw[cell_of_row _ _ _ _ _ _ h];have hi':i<xs.length:=by omega
 simp[hi']
theorem zew (A:Nat)(hA:A<big)(w:World):Calls Try.prog 86 #[uv A] w fun e w'=>e=.returned (.string (bs A))/\Below w.heap.size w w':=by
 have hc:=fun (O:Obj)=>zev w O (bn A) 32 rfl _ rfl;simp only[bn,QT,R7]at hc;unfold uv
 go_enter Try.func86,Try.ntmps86
 go_wp2
 go_rounds 33
 go_ret
 exact⟨rfl,by go_grown⟩
theorem kS (A:Nat):(bs A).size=32:=rfl
end
def inN (a:Nat):Bool:= !decide (a=0)&&decide (a<NR)
def jo (a:Nat):Bool:=decide (NR<a+a)
def jp (a:Nat):Bool:=decide (a<yC 0 a NR)
theorem za5 {a:Nat}(h: ¬a=0):inN a=decide (a<NR):=by unfold inN;rw[decide_eq_false h];rfl
theorem zex:NR%2=1:=by decide+kernel
theorem jX (a:Nat)(ha:a<big):jp a=(inN a&& !jo a):=by
 have hpos:0<NR:=by decide+kernel
 have hodd:=zex;unfold jp inN jo yC;rw[Nat.zero_mod,QB];generalize NR=M at*;have hm:=RD a hpos;by_cases h0:a=0
 ·subst h0;rw[Nat.zero_mod,Nat.sub_zero,Nat.mod_self];rfl
 ·by_cases h1:a<M
  ·rw[QZ h1,QZ (by omega),decide_eq_false h0,decide_eq_true h1];rw[RQ];simp only[decide_eq_true_eq,U2,Bool.true_and,Bool.not_eq_true',decide_eq_false_iff_not];omega
  ·have h2:=RD (M-a%M) hpos;rw[decide_eq_false h1,decide_eq_false h0,decide_eq_false (by omega)];rfl
def yx (r s:Nat)(v:Int):Bool:=inN r&&jp s&&(decide (v=0)||decide (v=1))
def sgv (r s:Nat)(v:Int):Value:=.agg #[.int .u64 (w0 r),.int .u64 (w1 r),.int .u64 (w2 r),.int .u64 (w3 r),.int .u64 (w0 s),.int .u64 (w1 s),.int .u64 (w2 s),.int .u64 (w3 s),.int .i64 v]
def sbs (r s:Nat)(v:Int):Qa:=(bs r++bs s)++strOfNums [R0.wrap v]
theorem zey (a b:Qa):(a++b).size=a.size+b.size:=ByteArray.size_append
theorem zez (a:Nat)(ha:a<big)(h:a=0):Fn Try.prog 90 #[uv a] (.bool false):=by
 refine Fn.intro (c:=zk Try.f90) [.tmp 2] 18 Try.func90 kr kr kr fun w=>?_;have H0:=St.start w;refine rS [.b,.v] H0 kr fun gs1 w1 H1=>?_;clear H0;refine rS [.c kL,.v,.v,.v,.a,.s 1,.v] H1 kr fun gs2 w2 H2=>?_;clear H1;refine rS [.l 0,.v,.oe (ins:=[((.tmp 9),uv a),((.tmp 10),.agg #[wZ,wZ,wZ,wZ])]) (v:=.bool (!decide (a=0))) (v':=.bool false) (fun ρ o w ho hi=>jC (x:=(.tmp 9)) (y:=(.tmp 10)) a 0 ha (by unfold big;omega) w ho hi.1 hi.2.1) (by rw[decide_eq_true h]<;>rfl),.v,.n,.n,.n,.n,.v,.v] H2 kr fun gs3 w3 H3=>?_;clear H2;refine zA kr<|wV ?_;refine⟨[.bool false],(.tmp (.bool false) kr .nil),?_,H3.below⟩;rfl
theorem zeA (a:Nat)(ha:a<big)(h: ¬a=0)(h2: ¬a<NR):Fn Try.prog 90 #[uv a] (.bool false):=by
 refine Fn.intro (c:=zk Try.f90) [.tmp 2] 18 Try.func90 kr kr kr fun w=>?_;have H0:=St.start w;refine rS [.b,.v] H0 kr fun gs1 w1 H1=>?_;clear H0;refine rS [.c kL,.v,.v,.v,.a,.s 1,.v] H1 kr fun gs2 w2 H2=>?_;clear H1;refine rS [.l 0,.v,.oe (ins:=[((.tmp 9),uv a),((.tmp 10),.agg #[wZ,wZ,wZ,wZ])]) (v:=.bool (!decide (a=0))) (v':=.bool true) (fun ρ o w ho hi=>jC (x:=(.tmp 9)) (y:=(.tmp 10)) a 0 ha (by unfold big;omega) w ho hi.1 hi.2.1) (by rw[decide_eq_false h]<;>rfl),.v,.l 0,.l 1,.c (xH a NR ha qp.1),.E (.bool (decide (cm a NR<0))) (.bool false) (za (decide_eq_false (za4 h2))),.v,.v] H2 kr fun gs3 w3 H3=>?_;clear H2;refine zA kr<|wV ?_;refine⟨[.bool false],(.tmp (.bool false) kr .nil),?_,H3.below⟩;rfl
theorem zeB (a:Nat)(ha:a<big)(h: ¬a=0)(h2:a<NR):Fn Try.prog 90 #[uv a] (.bool true):=by
 refine Fn.intro (c:=zk Try.f90) [.tmp 2] 18 Try.func90 kr kr kr fun w=>?_;have H0:=St.start w;refine rS [.b,.v] H0 kr fun gs1 w1 H1=>?_;clear H0;refine rS [.c kL,.v,.v,.v,.a,.s 1,.v] H1 kr fun gs2 w2 H2=>?_;clear H1;refine rS [.l 0,.v,.oe (ins:=[((.tmp 9),uv a),((.tmp 10),.agg #[wZ,wZ,wZ,wZ])]) (v:=.bool (!decide (a=0))) (v':=.bool true) (fun ρ o w ho hi=>jC (x:=(.tmp 9)) (y:=(.tmp 10)) a 0 ha (by unfold big;omega) w ho hi.1 hi.2.1) (by rw[decide_eq_false h]<;>rfl),.v,.l 0,.l 1,.c (xH a NR ha qp.1),.E (.bool (decide (cm a NR<0))) (.bool true) (za (decide_eq_true (za3 h2))),.v,.v] H2 kr fun gs3 w3 H3=>?_;clear H2;refine zA kr<|wV ?_;refine⟨[.bool true],(.tmp (.bool true) kr .nil),?_,H3.below⟩;rfl
theorem zeC (a:Nat)(ha:a<big):Fn Try.prog 90 #[uv a] (.bool (inN a)):=by
 by_cases h:a=0
 ·have:=zez a ha h;subst h;exact this
 ·rw[za5 h];by_cases h2:a<NR
  ·rw[decide_eq_true h2];exact zeB a ha h h2
  ·rw[decide_eq_false h2];exact zeA a ha h h2
theorem za6 (a:Nat)(ha:a<big):Fn Try.prog 96 #[uv a] (uv (yC 0 a NR)):=by
 refine Fn.intro (c:=zk Try.f96) [.cell 2 64] 12 Try.func96 kr kr kr fun w=>?_;have H0:=St.start w;refine rS [.b,.a] H0 kr fun gs1 w1 H1=>?_;clear H0;refine rS [.v,.l 0,.c (zd5 0 a (by unfold big;omega) ha),.v,.v,.v,.a,.s 2,.v] H1 kr fun gs2 w2 H2=>?_;clear H1;refine rS [.l 2,.s 1] H2 kr fun gs3 w3 H3=>?_;clear H2;refine zA kr<|wV ?_;refine⟨[uv (yC 0 a NR)],(.agg (b:=(gs1 1).b) (Qk (uv (yC 0 a NR))) 64 (0,0) kr (H3.get 1 kr) kr .nil),?_,H3.below⟩;rfl
theorem zeD (a:Nat)(ha:a<big)(h:a<yC 0 a NR):Fn Try.prog 91 #[uv a] (.bool true):=by
 refine Fn.intro (c:=zk Try.f91) [.tmp 2] 8 Try.func91 kr kr kr fun w=>?_;have H0:=St.start w;refine rS [.b,.v] H0 kr fun gs1 w1 H1=>?_;clear H0;refine dS [.l 0,.l 0,.c (za6 a ha),.c (xH a (yC 0 a NR) ha (zaO qp)),.E (.bool (decide (cm a (yC 0 a NR)<0))) (.bool true) (za (decide_eq_true (za3 h))),.v] H1 kr fun w2 H2=>?_;clear H1;refine zA kr<|wV ?_;refine⟨[.bool true],(.tmp (.bool true) kr .nil),?_,H2.below⟩;rfl
theorem zeE (a:Nat)(ha:a<big)(h: ¬a<yC 0 a NR):Fn Try.prog 91 #[uv a] (.bool false):=by
 refine Fn.intro (c:=zk Try.f91) [.tmp 2] 8 Try.func91 kr kr kr fun w=>?_;have H0:=St.start w;refine rS [.b,.v] H0 kr fun gs1 w1 H1=>?_;clear H0;refine dS [.l 0,.l 0,.c (za6 a ha),.c (xH a (yC 0 a NR) ha (zaO qp)),.E (.bool (decide (cm a (yC 0 a NR)<0))) (.bool false) (za (decide_eq_false (za4 h))),.v] H1 kr fun w2 H2=>?_;clear H1;refine zA kr<|wV ?_;refine⟨[.bool false],(.tmp (.bool false) kr .nil),?_,H2.below⟩;rfl
theorem zeF (a:Nat)(ha:a<big):Fn Try.prog 91 #[uv a] (.bool (jp a)):=by
 unfold jp;by_cases h:a<yC 0 a NR
 ·rw[decide_eq_true h];exact zeD a ha h
 ·rw[decide_eq_false h];exact zeE a ha h
theorem za7 (r s:Nat)(hr:r<big)(hs:s<big)(v:Int):Fn Try.prog 85 #[sgv r s (v)] (.bool (yx r s v)):=by
 refine Fn.intro (c:=zk Try.f85) [.tmp 2] 21 Try.func85 kr kr kr fun w=>?_;have H0:=St.start w;refine rS [.b,.v] H0 kr fun gs1 w1 H1=>?_;clear H0;refine ze [0,1,2,3,4,5,6,7,8,9,10,11,12,13,14,15,16,17,18] kr kr<|rp [.v,.l 0,.c (zeC r hr)] H1 kr fun gs2 w2 H2=>wX [3,4,5,6,7,8,9,10,11,12,13,14,15,16,17,18] ?_;clear H1;refine Or.elim (RL (inN r)).symm (fun hb1=>?_) (fun hb1=>?_)
 ·refine yN 5 (v:=.bool (inN r)) (v':=.bool false) (za hb1) kr<|rp [.v,.n,.n,.n,.v,.v,.n,.n,.n,.n] H2 kr fun gs3 w3 H3=>wX [13,14,15,16,17,18] ?_;clear H2;refine jM (some 16) kr kr<|jM (some 17) kr kr<|jM (some 18) kr kr<|rp [.n,.v,.v] H3 kr fun gs4 w4 H4=>wX [] ?_;clear H3;refine zc<|zA kr<|wV ?_;refine⟨[.bool false],(.tmp (.bool false) kr .nil),?_,H4.below⟩;exact congrArg Rj (by unfold yx;simp[hb1]<;>omega)
 ·refine yN 5 (v:=.bool (inN r)) (v':=.bool true) (za hb1) kr<|rp [.v,.v,.l 0,.c (zeF s hs)] H2 kr fun gs5 w5 H5=>wX [7,8,9,10,11,12,13,14,15,16,17,18] ?_;clear H2;refine Or.elim (RL (jp s)).symm (fun hb2=>?_) (fun hb2=>?_)
  ·refine yN 9 (v:=.bool (jp s)) (v':=.bool false) (za hb2) kr<|rp [.v,.v,.n,.n,.n,.n] H5 kr fun gs6 w6 H6=>wX [13,14,15,16,17,18] ?_;clear H5;refine jM (some 16) kr kr<|jM (some 17) kr kr<|jM (some 18) kr kr<|rp [.n,.v,.v] H6 kr fun gs7 w7 H7=>wX [] ?_;clear H6;refine zc<|zA kr<|wV ?_;refine⟨[.bool false],(.tmp (.bool false) kr .nil),?_,H7.below⟩;exact congrArg Rj (by unfold yx;simp[hb1,hb2]<;>omega)
  ·refine yN 9 (v:=.bool (jp s)) (v':=.bool true) (za hb2) kr<|rp [.v,.v,.v,.l 0] H5 kr fun gs8 w8 H8=>wX [11,12,13,14,15,16,17,18] ?_;clear H5;by_cases hc1:(v:Int)=0
   ·refine rp [.E (.bool (v==0)) (.bool true) (za (beq_iff_eq.2 (by omega))),.v,.n,.n,.n,.v,.v,.v] H8 kr fun gs9 w9 H9=>wX [] ?_;clear H8;refine zc<|zA kr<|wV ?_;refine⟨[.bool true],(.tmp (.bool true) kr .nil),?_,H9.below⟩;exact congrArg Rj (by unfold yx;simp[hb1,hb2]<;>omega)
   ·refine rp [.E (.bool (v==0)) (.bool false) (za (beq_eq_false_iff_ne.2 (by omega))),.v,.v,.l 0] H8 kr fun gs10 w10 H10=>wX [15,16,17,18] ?_;clear H8;by_cases hc2:(v:Int)=1
    ·refine rp [.E (.bool (v==1)) (.bool true) (za (beq_iff_eq.2 (by omega))),.v,.v,.v] H10 kr fun gs11 w11 H11=>wX [] ?_;clear H10;refine zc<|zA kr<|wV ?_;refine⟨[.bool true],(.tmp (.bool true) kr .nil),?_,H11.below⟩;exact congrArg Rj (by unfold yx;simp[hb1,hb2]<;>omega)
    ·refine rp [.E (.bool (v==1)) (.bool false) (za (beq_eq_false_iff_ne.2 (by omega))),.v,.v,.v] H10 kr fun gs12 w12 H12=>wX [] ?_;clear H10;refine zc<|zA kr<|wV ?_;refine⟨[.bool false],(.tmp (.bool false) kr .nil),?_,H12.below⟩;exact congrArg Rj (by unfold yx;simp[hb1,hb2]<;>omega)
theorem za8 (a:Nat)(ha:a<big):Fn Try.prog 53 #[uv a] (.bool (inN a)):=by
 refine Fn.intro (c:=zk Try.f53) [.tmp 2] 15 Try.func53 kr kr kr fun w=>?_;have H0:=St.start w;refine rS [.b,.v] H0 kr fun gs1 w1 H1=>?_;clear H0;refine ze [0,1,2] kr kr<|rp [.c za0] H1 kr fun gs2 w2 H2=>wX [1,2] ?_;clear H1;refine xv H2 (some 5) 71 #[uv NR] (fun _=>True) 3 1 (fun curZ capZ nZ lZ=>(nZ=Qr lZ/\Rw 1 curZ capZ nZ (yi lZ)/\Ok lZ/\(lZ=dgs NR 16/\vl lZ=NR/\Qr lZ=16))) (kQ NR qp.1) trivial kr kr ?_;intro b_1 cap_2 n_3 cur_4 l_5 w3 H3 hs_6;clear H2;obtain⟨hs_6n,hs_6r,hs_6o,hs_6s⟩:=hs_6;obtain⟨hs_6a,hs_6b,hs_6c⟩:=hs_6s;refine rp [.v] H3 kr fun gs4 w4 H4=>wX [] ?_;clear H3;refine zc<|ze [0,1,2,3,4,5,6,7,8,9] kr kr<|rp [.l 1,.v] H4 kr fun gs5 w5 H5=>wX [2,3,4,5,6,7,8,9] ?_;clear H4;by_cases he1:(a:Nat)=0
 ·refine rp [.oe (ins:=[((.tmp 6),uv a),((.tmp 7),.agg #[wZ,wZ,wZ,wZ])]) (v:=.bool (!decide (a=0))) (v':=.bool false) (fun ρ o w ho hi=>jC (x:=(.tmp 6)) (y:=(.tmp 7)) a 0 ha (by unfold big;omega) w ho hi.1 hi.2.1) (by rw[decide_eq_true he1]<;>rfl),.v,.n,.n,.n,.n,.v,.v] H5 kr fun gs6 w6 H6=>wX [] ?_;clear H5;refine zc<|zA kr<|wV ?_;refine⟨[.bool false],(.tmp (.bool false) kr .nil),?_,H6.below⟩;exact congrArg Rj (show false=inN a by rw[he1];rfl)
 ·refine rp [.oe (ins:=[((.tmp 6),uv a),((.tmp 7),.agg #[wZ,wZ,wZ,wZ])]) (v:=.bool (!decide (a=0))) (v':=.bool true) (fun ρ o w ho hi=>jC (x:=(.tmp 6)) (y:=(.tmp 7)) a 0 ha (by unfold big;omega) w ho hi.1 hi.2.1) (by rw[decide_eq_false he1]<;>rfl),.v,.l 1] H5 kr fun gs7 w7 H7=>wX [5,6,7,8,9] ?_;clear H5;refine xv H7 (some 11) 71 #[uv a] (fun _=>True) 3 1 (fun curZ capZ nZ lZ=>(nZ=Qr lZ/\Rw 1 curZ capZ nZ (yi lZ)/\Ok lZ/\(lZ=dgs a 16/\vl lZ=a/\Qr lZ=16))) (kQ a ha) trivial kr kr ?_;intro b_7 cap_8 n_9 cur_10 l_11 w8 H8 hs_12;clear H7;obtain⟨hs_12n,hs_12r,hs_12o,hs_12s⟩:=hs_12;obtain⟨hs_12a,hs_12b,hs_12c⟩:=hs_12s;refine rp [.v,.cp (pre:=fun w=>w.heap[b_7]? =some (.cells cur_10 3)/\w.heap[b_1]? =some (.cells cur_4 3)) (zaZ l_11 l_5 b_7 n_9 cap_8 b_1 n_3 cap_2 cur_10 cur_4 hs_12n hs_6n hs_12r hs_6r hs_12o hs_6o (by omega) (by omega)) [(0,(b_7,Qj cur_10 3)),(1,(b_1,Qj cur_4 3))] (fun w hb hd=>⟨hd.1,hd.2.1⟩),.v,.v] H8 kr fun gs9 w9 H9=>wX [] ?_;clear H8;refine zc<|zA kr<|wV ?_;refine⟨[.bool (ls l_11 l_5)],(.tmp (.bool (ls l_11 l_5)) kr .nil),?_,H9.below⟩;exact congrArg Rj (show ls l_11 l_5=inN a by rw[za5 he1];unfold ls;rw[hs_12b,hs_6b])
theorem zeG (a:Nat)(ha:a<big):Fn Try.prog 54 #[uv a] (.bool (jo a)):=by
 refine Fn.intro (c:=zk Try.f54) [.tmp 2] 12 Try.func54 kr kr kr fun w=>?_;have H0:=St.start w;refine rS [.b,.v] H0 kr fun gs1 w1 H1=>?_;clear H0;refine ze [0,1,2] kr kr<|rp [.l 0] H1 kr fun gs2 w2 H2=>wX [1,2] ?_;clear H1;refine xv H2 (some 5) 71 #[uv a] (fun _=>True) 3 1 (fun curZ capZ nZ lZ=>(nZ=Qr lZ/\Rw 1 curZ capZ nZ (yi lZ)/\Ok lZ/\(lZ=dgs a 16/\vl lZ=a/\Qr lZ=16))) (kQ a ha) trivial kr kr ?_;intro b_1 cap_2 n_3 cur_4 l_5 w3 H3 hs_6;clear H2;obtain⟨hs_6n,hs_6r,hs_6o,hs_6s⟩:=hs_6;obtain⟨hs_6a,hs_6b,hs_6c⟩:=hs_6s;refine rp [.v] H3 kr fun gs4 w4 H4=>wX [] ?_;clear H3;refine zc<|ze [0,1,2,3,4,5,6] kr kr<|rp [.c za0] H4 kr fun gs5 w5 H5=>wX [1,2,3,4,5,6] ?_;clear H4;refine xv H5 (some 7) 71 #[uv NR] (fun _=>True) 3 1 (fun curZ capZ nZ lZ=>(nZ=Qr lZ/\Rw 1 curZ capZ nZ (yi lZ)/\Ok lZ/\(lZ=dgs NR 16/\vl lZ=NR/\Qr lZ=16))) (kQ NR qp.1) trivial kr kr ?_;intro b_7 cap_8 n_9 cur_10 l_11 w6 H6 hs_12;clear H5;obtain⟨hs_12n,hs_12r,hs_12o,hs_12s⟩:=hs_12;obtain⟨hs_12a,hs_12b,hs_12c⟩:=hs_12s;refine rp [.v,.v] H6 kr fun gs7 w7 H7=>wX [4,5,6] ?_;clear H6;refine xv H7 (some 10) 74 #[Qf b_1 n_3 cap_2,Qf b_1 n_3 cap_2] (fun w=>w.heap[b_1]? =some (.cells cur_4 3)/\w.heap[b_1]? =some (.cells cur_4 3)) 3 1 (fun curZ capZ nZ lZ=>(nZ=Qr lZ/\Rw 1 curZ capZ nZ (yi lZ)/\Ok lZ/\(vl lZ=vl l_5+vl l_5/\Qr lZ<=max (Qr l_5) (Qr l_5)+1/\max (Qr l_5) (Qr l_5)<=Qr lZ))) (zeo l_5 l_5 b_1 n_3 cap_2 b_1 n_3 cap_2 cur_4 cur_4 hs_6n hs_6n hs_6r hs_6r hs_6o hs_6o (by omega) (by omega)) (⟨(H7.get 1 kr),(H7.get 1 kr)⟩) kr kr ?_;intro b_13 cap_14 n_15 cur_16 l_17 w8 H8 hs_18;clear H7;obtain⟨hs_18n,hs_18r,hs_18o,hs_18s⟩:=hs_18;refine rp [.cp (pre:=fun w=>w.heap[b_7]? =some (.cells cur_10 3)/\w.heap[b_13]? =some (.cells cur_16 3)) (zaZ l_11 l_17 b_7 n_9 cap_8 b_13 n_15 cap_14 cur_10 cur_16 hs_12n hs_18n hs_12r hs_18r hs_12o hs_18o (by omega) (by omega)) [(1,(b_7,Qj cur_10 3)),(0,(b_13,Qj cur_16 3))] (fun w hb hd=>⟨hd.1,hd.2.1⟩),.v] H8 kr fun gs9 w9 H9=>wX [] ?_;clear H8;refine zc<|zA kr<|wV ?_;refine⟨[.bool (ls l_11 l_17)],(.tmp (.bool (ls l_11 l_17)) kr .nil),?_,H9.below⟩;exact congrArg Rj (show ls l_11 l_17=jo a by unfold ls jo;rw[hs_12b,hs_18s.1,hs_6b])
theorem zeH (r s:Nat)(hr:r<big)(hs:s<big)(v:Int):Fn Try.prog 39 #[sgv r s (v)] (.bool (yx r s v)):=by
 refine Fn.intro (c:=zk Try.f39) [.tmp 2] 27 Try.func39 kr kr kr fun w=>?_;have H0:=St.start w;refine rS [.b,.v] H0 kr fun gs1 w1 H1=>?_;clear H0;refine ze [0,1,2,3,4,5,6,7,8,9,10,11,12,13,14,15,16,17,18,19,20,21,22,23,24] kr kr<|rp [.v,.l 0,.c (za8 r hr)] H1 kr fun gs2 w2 H2=>wX [3,4,5,6,7,8,9,10,11,12,13,14,15,16,17,18,19,20,21,22,23,24] ?_;clear H1;refine Or.elim (RL (inN r)).symm (fun hb1=>?_) (fun hb1=>?_)
 ·refine yN 5 (v:=.bool (inN r)) (v':=.bool false) (za hb1) kr<|rp [.v,.n,.n,.n,.v,.v,.n,.n,.n,.n,.v,.v,.n,.n,.n,.v,.v,.n,.n,.n,.v,.v] H2 kr fun gs3 w3 H3=>wX [] ?_;clear H2;refine zc<|zA kr<|wV ?_;refine⟨[.bool false],(.tmp (.bool false) kr .nil),?_,H3.below⟩;exact congrArg Rj (by unfold yx;rw[jX s hs];simp[hb1]<;>omega)
 ·refine yN 5 (v:=.bool (inN r)) (v':=.bool true) (za hb1) kr<|rp [.v,.v,.l 0,.c (za8 s hs)] H2 kr fun gs4 w4 H4=>wX [7,8,9,10,11,12,13,14,15,16,17,18,19,20,21,22,23,24] ?_;clear H2;refine Or.elim (RL (inN s)).symm (fun hb2=>?_) (fun hb2=>?_)
  ·refine yN 9 (v:=.bool (inN s)) (v':=.bool false) (za hb2) kr<|rp [.v,.v,.n,.n,.n,.n,.v,.v,.n,.n,.n,.v,.v,.n,.n,.n,.v,.v] H4 kr fun gs5 w5 H5=>wX [] ?_;clear H4;refine zc<|zA kr<|wV ?_;refine⟨[.bool false],(.tmp (.bool false) kr .nil),?_,H5.below⟩;exact congrArg Rj (by unfold yx;rw[jX s hs];simp[hb1,hb2]<;>omega)
  ·refine yN 9 (v:=.bool (inN s)) (v':=.bool true) (za hb2) kr<|rp [.v,.v,.v,.l 0,.c (zeG s hs)] H4 kr fun gs6 w6 H6=>wX [12,13,14,15,16,17,18,19,20,21,22,23,24] ?_;clear H4;refine Or.elim (RL (jo s)).symm (fun hb3=>?_) (fun hb3=>?_)
   ·refine yN 14 (v:=.bool (jo s)) (v':=.bool false) (za hb3) kr<|rp [.v,.v,.v,.v,.l 0] H6 kr fun gs7 w7 H7=>wX [17,18,19,20,21,22,23,24] ?_;clear H6;by_cases hc1:(v:Int)≥0
    ·refine rp [.E (.bool (decide (0<=v))) (.bool true) (za (decide_eq_true (by omega))),.v,.v,.v,.l 0] H7 kr fun gs8 w8 H8=>wX [22,23,24] ?_;clear H7;by_cases hc2:(v:Int)<=1
     ·refine rp [.E (.bool (decide (v<=1))) (.bool true) (za (decide_eq_true (by omega))),.v,.v] H8 kr fun gs9 w9 H9=>wX [] ?_;clear H8;refine zc<|zA kr<|wV ?_;refine⟨[.bool true],(.tmp (.bool true) kr .nil),?_,H9.below⟩;exact congrArg Rj (by unfold yx;rw[jX s hs];simp[hb1,hb2,hb3]<;>omega)
     ·refine rp [.E (.bool (decide (v<=1))) (.bool false) (za (decide_eq_false (by omega))),.v,.v] H8 kr fun gs10 w10 H10=>wX [] ?_;clear H8;refine zc<|zA kr<|wV ?_;refine⟨[.bool false],(.tmp (.bool false) kr .nil),?_,H10.below⟩;exact congrArg Rj (by unfold yx;rw[jX s hs];simp[hb1,hb2,hb3]<;>omega)
    ·refine rp [.E (.bool (decide (0<=v))) (.bool false) (za (decide_eq_false (by omega))),.v,.v,.n,.n,.n,.v,.v] H7 kr fun gs11 w11 H11=>wX [] ?_;clear H7;refine zc<|zA kr<|wV ?_;refine⟨[.bool false],(.tmp (.bool false) kr .nil),?_,H11.below⟩;exact congrArg Rj (by unfold yx;rw[jX s hs];simp[hb1,hb2,hb3]<;>omega)
   ·refine yN 14 (v:=.bool (jo s)) (v':=.bool true) (za hb3) kr<|rp [.v,.v,.v,.n,.n,.n,.v,.v,.n,.n,.n,.v,.v] H6 kr fun gs12 w12 H12=>wX [] ?_;clear H6;refine zc<|zA kr<|wV ?_;refine⟨[.bool false],(.tmp (.bool false) kr .nil),?_,H12.below⟩;exact congrArg Rj (by unfold yx;rw[jX s hs];simp[hb1,hb2,hb3]<;>omega)
end Go.Proofs.Ytdaeahhkiilbaaa
namespace Go.Proofs.Kec
end Go.Proofs.Kec
namespace Go.Proofs.Ytdaeahhkiilbaaa
namespace Ke
open Go.Proofs.Kec
end Ke
section
open Go.Proofs.Kec
end
section
open Go.Proofs.Kec Ke
theorem za9 (A:Nat)(hA:A<big):Fn Try.prog 86 #[uv A] (.string (bs A)):=zew A hA
end
def wi (n q:Nat):Nat:=n / 0x10000000000000000^q%0x10000000000000000
section
open Go.ChangeShapes Go.WideShapes Go.ChangeAt
end
theorem zeI (r s:Nat)(hr:r<big)(hs:s<big)(v:Int)(hm:yx r s v=false):Fn Try.prog 75 #[sgv r s (v)] (.tuple #[.string ⟨#[]⟩,.int .i64 1]):=by
 refine Fn.intro (c:=zk Try.f75) [.tmp 2,.tmp 3] 20 Try.func75 kr kr kr fun w=>?_;have H0:=St.start w;refine rS [.b,.v,.v] H0 kr fun gs1 w1 H1=>?_;clear H0;refine zb kr<|ze [0,1,2] kr kr<|rp [.l 0,.c (za7 r s hr hs (v))] H1 kr fun gs2 w2 H2=>wX [2] ?_;clear H1;refine yN 5 (v:=.bool (yx r s (v))) (v':=.bool false) (za hm) kr<|rp [.v] H2 kr fun gs3 w3 H3=>wX [] ?_;clear H2;refine zc<|zK kr kr<|rS [.v,.v] H3 kr fun gs4 w4 H4=>?_;clear H3;refine zA kr<|wV ?_;refine⟨[.string (⟨#[]⟩),.int .i64 1],(.tmp (.string (⟨#[]⟩)) kr (.tmp (.int .i64 1) kr .nil)),?_,H4.below⟩;rfl
theorem zeJ (r s:Nat)(hr:r<big)(hs:s<big)(v:Int)(hm:yx r s v=true):Fn Try.prog 75 #[sgv r s (v)] (.tuple #[.string (sbs r s v),.int .i64 0]):=by
 refine Fn.intro (c:=zk Try.f75) [.tmp 2,.tmp 3] 20 Try.func75 kr kr kr fun w=>?_;have H0:=St.start w;refine rS [.b,.v,.v] H0 kr fun gs1 w1 H1=>?_;clear H0;refine zb kr<|ze [0,1,2] kr kr<|rp [.l 0,.c (za7 r s hr hs (v))] H1 kr fun gs2 w2 H2=>wX [2] ?_;clear H1;refine yN 5 (v:=.bool (yx r s (v))) (v':=.bool true) (za hm) kr<|rp [.v] H2 kr fun gs3 w3 H3=>wX [] ?_;clear H2;refine zc<|zE kr kr<|zI kr<|wW<|dSg (fun gs4=>[.v,.l 0,.c (f:=86) (args:=#[uv r]) (v:=.string (bs r)) (za9 r hr),.v,.l 0,.c (f:=86) (args:=#[uv s]) (v:=.string (bs s)) (za9 s hs),.o (ins:=[((.tmp 9),.string (bs r)),((.tmp 12),.string (bs s))]) (v:=.string ((bs r)++(bs s))) (fun ρ o w ho hi=>zay (t:=9) (t':=9) (x:=(.tmp 9)) (y:=(.tmp 12)) (bs r) (bs s) w ho hi.1 hi.2.1 (by rw[kS,kS];omega)),.v,.l 0,.v,.nw (fun b=>Qf b 1 1) #[.int .u8 (R0.wrap v)] 5,.x (ins:=[((.tmp 17),Qf (gs4 10).b 1 1)]) [(1,((gs4 10).b,Qj #[.int .u8 (R0.wrap v)] 5 (0,0)))] (zdh (t:=70) (t':=9) (e:=5) [(R0.wrap v)] kr kr kr (Rw.lit #[.int .u8 (R0.wrap v)] 1 (by rfl) (by unfold maxLen;omega))),.o (ins:=[((.tmp 13),.string ((bs r)++(bs s))),((.tmp 18),.string (strOfNums ([(R0.wrap v)])))]) (v:=.string (((bs r)++(bs s))++(strOfNums ([(R0.wrap v)])))) (fun ρ o w ho hi=>zay (t:=9) (t':=9) (x:=(.tmp 13)) (y:=(.tmp 18)) ((bs r)++(bs s)) (strOfNums ([(R0.wrap v)])) w ho hi.1 hi.2.1 (by rw[zey,kS,kS];show 32+32+1<=_;omega)),.v,.v]) H3 kr fun gs4 w4 H4=>?_;clear H3;refine zA kr<|wV ?_;refine⟨[.string (((bs r)++(bs s))++(strOfNums ([(R0.wrap v)]))),.int .i64 0],(.tmp (.string (((bs r)++(bs s))++(strOfNums ([(R0.wrap v)])))) kr (.tmp (.int .i64 0) kr .nil)),?_,H4.below⟩;rfl
def hv:List UInt8->List UInt8
 | []=>[]
 | b::t=>(b >>> 4)::(b &&& 15)::hv t
def isP (l:List UInt8):Bool:=l.all fun b=>decide (b.toNat<=15)
def jn:List UInt8->List UInt8
 | a::b::t=>(a <<< 4 ||| b)::jn t
 | _=>[]
theorem jY {l:List Value}(h:l.all (·.oneCell')=true): ∀u∈l,u.oneCell'=true:=fun u hu=>List.all_eq_true.1 h u hu
def zi:List UInt8->List UInt8->Bool
 | [],[]=>false
 | [],_::_=>true
 | _::_,[]=>false
 | a::l,b::m=>if a.toNat<b.toNat then true else if a=b then zi l m else false
theorem zeK (l:List UInt8):zi l []=false:=by cases l<;>rfl
theorem jZ: ∀l:List UInt8,zi l l=false
 | []=>rfl
 | a::l=>by simp only[zi,UC,if_false,if_true];exact jZ l
theorem zba {a b:UInt8}{l m:List UInt8}(h:zi (a::l) (b::m)=true):a.toNat<b.toNat\/(a=b/\zi l m=true):=by
 unfold zi at h;split at h
 ·rename_i q;exact .inl q
 ·split at h
  ·rename_i q;exact .inr ⟨q,h⟩
  ·cases h
theorem jq {x y z:List UInt8} :zi x y=true->zi y z=true->zi x z=true:=by
 induction x generalizing y z with
 | nil=>
  intro h1 h2;cases z with
  | nil=>rw[zeK]at h2;cases h2
  | cons c z=>rfl
 | cons a x ih=>
  intro h1 h2;cases y with
  | nil=>cases h1
  | cons b y=>
   cases z with
   | nil=>cases h2
   | cons c z=>
    unfold zi;rcases zba h1 with q1 | ⟨rfl,q1⟩<;>rcases zba h2 with q2 | ⟨rfl,q2⟩
    ·rw[if_pos (by omega)]
    ·rw[if_pos q1]
    ·rw[if_pos q2]
    ·rw[if_neg (UC _),if_pos rfl];exact ih q1 q2
structure Nd where
 kind:Int
 part:Qa
 value:Qa
 kids:List Int
def kyB (l:List UInt8):Bool:=isP l&& !decide (l.length%2=1)
def kyS (l:List UInt8):Qa:=bif kyB l then jA (jn l) else ⟨#[]⟩
theorem yt {P:Program}{ρ:Env}{t e:TypeId}{size bytes:Nat}(ht:yh P t=some (e,size,bytes)){x z:Operand}{o:Oper}{kz:IntKind}(b q n c j:Nat)(ho:o.op=.slice t x (some z) none none)(hx:ev ρ x=.slice (some ⟨b,q,none⟩) n c)
 (hz:ev ρ z=.int kz (j:Int)) (hj:j<=n) (hn:n<=c):
 ∀w,(execOp (ev ρ) o).run P w=.ok (.value (.slice (some ⟨b,if c=j then q else q+j*size,none⟩) (n-j) (c-j))) w:=fun w=>by
 obtain⟨it,z',hu,hi,hz',hsz,hby,hzs,h0⟩:=yX ht;have hS:(sizeOf e).run P w=.ok size w:=by simp[sizeOf,typeInfo,hi,hsz]
 unfold execOp;by_cases hc:c=j
 ·have hnj:n=j:=by omega
  subst hc hnj;simp[ho,hx,hz,UN,UW,Uk,Uu,asIntOf,run_underlying hu,hS]
 ·simp[ho,hx,hz,UN,UW,Uk,Uu,asIntOf,run_underlying hu,hS,hj,qn,hc]
section
variable {P:Program}{N:Nat}{ops:Array Oper}{i:Nat}{r:List Nat}{K:Env->World->Prop}{ρ:Env}{w:World}
end
abbrev Pr:=Qa×Qa
def zeL (k v:Qa):Bool:=(decide (1<=k.size)&&decide (k.size<=32))&&(decide (1<=v.size)&&decide (v.size<=500))
def zeM (part:List UInt8)(v:Qa)(ps:List Pr):List Pr:=if zeL (kyS part) v=true then ps++ [(kyS part,v)] else ps
def zeN (kind:Int)(i:Nat):List UInt8:=if kind=3 then [Vc i] else []
def ud (go:Int->List UInt8->Nat×List Pr->Nat×List Pr)(x:Nd)(part:List UInt8):Nat->Nat×List Pr->Nat×List Pr
 | 0,s=>s
 | i+1,s=>if x.kids.getD i (-1)= -1 then ud go x part i s else go (x.kids.getD i (-1)) (part++zeN x.kind i) (ud go x part i s)
def zbb (A:List Nd):Nat->Int->List UInt8->Nat×List Pr->Nat×List Pr
 | 0,_,_,s=>s
 | f+1,at_,ahead,s=>
  if s.1=0\/at_<0\/(A.length:Int)<=at_ then s
  else match A[at_.toNat]? with
   | none=>s
   | some x=>if 64<ahead.length+x.part.size then (s.1-1,s.2)
    else ud (zbb A f) x (ahead++tl x.part) 16 (s.1-1,zeM (ahead++tl x.part) x.value s.2)
section
variable {P:Program}{N:Nat}{ops:Array Oper}{i:Nat}{r:List Nat}{K:Env->World->Prop}{ρ:Env}{w:World}
end
theorem zbc: ∀x y:List UInt8,Rv x y=zi x y
 | [],[]=>rfl
 | [],_::_=>rfl
 | _::_,[]=>rfl
 | a::x,b::y=>by
  unfold Rv zi;rw[zbc x y];by_cases h:a.toNat<b.toNat
  ·rw[if_pos h,decide_eq_true (show a<b from h)];rfl
  ·rw[if_neg h,decide_eq_false (show ¬a<b from h)];by_cases e:a=b
   ·rw[if_pos e,e];simp
   ·rw[if_neg e];simp[e]
theorem ja (a b:Qa):Rv a.toList b.toList=zi (tl a) (tl b):=by
 rw[ByteArray.toList_eq,ByteArray.toList_eq];exact zbc _ _
def zgu (A:List Nd)(root:Int):List Pr:=(zbb A 192 root [] (192,[])).2
theorem zU {α:Type}{L:List α}{i:Nat}{a:α}(ha:L[i]? =some a):L.take (i+1)=L.take i++ [a]:=by
 rw[List.take_add_one,ha];rfl
theorem zbd: ∀ {x y:List UInt8},zi x y=false->x≠y->zi y x=true
 | [],[],_,h=>absurd rfl h
 | [],_::_,h,_=>by simp[zi]at h
 | _::_,[],_,_=>rfl
 | a::x,b::y,h,hne=>by
  unfold zi at h⊢;by_cases e:a=b
  ·subst e;have hlt: ¬a.toNat<a.toNat:=UC _;simp only[UC,if_false,if_true]at h⊢;exact zbd h fun e=>hne (by rw[e])
  ·have hn:a.toNat≠b.toNat:=fun q=>e (UInt8.toNat_inj.1 q);by_cases c:b.toNat<a.toNat
   ·rw[if_pos c]
   ·have:a.toNat<b.toNat:=by omega
    rw[if_pos this]at h;cases h
def upB:Option Qa->Qa->Bool
 | none,_=>true
 | some p,a=>zi (tl p) (tl a)
theorem qi {α:Type}{L:List α}{i:Nat}{x:α}(h:L[i]? =some x):L.drop i=x::L.drop (i+1):=by
 obtain⟨hi,rfl⟩:=Qv.1 h;exact(List.getElem_cons_drop (h:=hi)).symm
abbrev Sg:=Nat×Nat×Int
def sgF:Fl Sg where
 K:=9
 cs x:=[.int .u64 (w0 x.1),.int .u64 (w1 x.1),.int .u64 (w2 x.1),.int .u64 (w3 x.1),.int .u64 (w0 x.2.1),.int .u64 (w1 x.2.1),.int .u64 (w2 x.2.1),.int .u64 (w3 x.2.1),.int .i64 x.2.2]
 pos:=by decide
 len _:=rfl
 one a:=fun u hu=>by simp at hu;rcases hu with h | h | h | h | h | h | h | h | h<;>rw[h]<;>rfl
def sgOk (x:Sg):Prop:=x.1<big/\x.2.1<big
abbrev sgMay (x:Sg):Bool:=yx x.1 x.2.1 x.2.2
structure Hdr where
 pa:Qa
 hh:Nat
 ro:Qa
 tx:Qa
 pr:Qa
 va:Qa
 vs:Qi
 vo:Qa
 ad:Bool
 rd:Nat
 ss:List Sg
def yy:Option Qa->Qi->Bool
 | _,[]=>true
 | p,a::r=>decide (a.size=20)&&(upB p a&&yy (some a) r)
def setM (L:Qi):Bool:=yy none L&&(decide (0<L.length)&&decide (L.length<=16))
def voteB (vo:Qa)(ad:Bool):Bool:=if vo.size=0 then !ad else decide (vo.size=20)
def yn (h:Hdr):Bool:=
 (decide (h.pa.size=32)&&(decide (h.ro.size=32)&&(decide (h.tx.size=32)&&(decide (h.pr.size=20)&&(decide (h.va.size<=8)&&setM h.vs)))))&&((voteB h.vo h.ad&&decide (h.ss.length<=16))&&h.ss.all sgMay)
structure RtH (h:Hdr):Prop where
 pa:h.pa.size=32
 ro:h.ro.size=32
 tx:h.tx.size=32
 pr:h.pr.size=20
 va:h.va.size<=8
 st:setM h.vs=true
 vo:voteB h.vo h.ad=true
 sl:h.ss.length<=16
 ss:h.ss.all sgMay=true
theorem jD {h:Hdr} :yn h=true↔RtH h:=by
 unfold yn;simp only[Qo,decide_eq_true_eq];exact⟨fun⟨⟨h1,h2,h3,h4,h5,h6⟩,⟨h7,h8⟩,h9⟩=>⟨h1,h2,h3,h4,h5,h6,h7,h8,h9⟩,fun⟨h1,h2,h3,h4,h5,h6,h7,h8,h9⟩=>⟨⟨h1,h2,h3,h4,h5,h6⟩,⟨h7,h8⟩,h9⟩⟩
theorem isK {l:List (Nat×Value)}{ρ:Env}(h:l.map (fun p=>ρ p.1)=l.map (·.2):=by kernel_rfl):Is l ρ:=by
 refine Is.of ?_
 induction l with
 | nil=>trivial
 | cons p r ih=>
  simp only[QT,List.cons.injEq]at h;exact⟨h.1,ih h.2⟩
section
variable {P:Program}{N:Nat}{c:Code}{Q:Exit->Env->World->Prop}{ρ:Env}{w:World}
theorem zl (k:Q .normal ρ w)(h:(jL c&&xX (xU c))=true:=by kernel_rfl)(hx:ev ρ (jx c)=.bool false:=by kernel_rfl):WP P N c Q ρ w:=by
 rw[Qo]at h;exact zE h.1 hx (zI h.2 k)
theorem zh (k:WP P N (xT c) Q ρ w)(h:jL c=true:=by kernel_rfl)(hx:ev ρ (jx c)=.bool true:=by kernel_rfl):WP P N c Q ρ w:=zK h hx k
def ue (c:Code):Code:=qN (qN c)
def kT (c:Code):Code:=zP (ue c)
def qx (c:Code):Code:=yE (ue c)
def uf (c:Code):Code:=qN (zP (yE (qx c)))
def xJ (c:Code):Code:=yE (yE (qx c))
def xK (n:Nat):Code->Bool
 | .region _ ops d=>Qx ops.size n&& !d
 | _=>false
theorem zbe {n:Nat}{c:Code}(h:xK n c=true):∃id,c=.region id (zj c) false/\QL (zj c).size=QL n:=by
 cases c with
 | region id ops d=>
  cases d with
  | true=>simp[xK]at h
  | false=>
   simp only[xK,U2,Bool.and_true]at h;exact⟨id,rfl,congrArg QL (Qq h)⟩
 | _=>cases h
def kU (a:Option Nat)(b:Nat):Bool:=match a with
 | some x=>Qx x b
 | none=>false
theorem ug {a:Option Nat}{b:Nat}(h:kU a b=true):a=some b:=by
 cases a with
 | none=>cases h
 | some x=>exact congrArg some (Qq h)
def uh (nt ni b0 b1 tc:Nat)(c:Code):Bool:=
 kU (xW c) b0&&(vv (qN c)&&(qe (ue c)&&(xK nt (kT c)&&(qe (qx c)&&(jL (zP (qx c))&&(xX (xT (zP (qx c)))&&(kU (vw (xU (zP (qx c)))) b0&&(qe (yE (qx c))&&(kU (xW (zP (yE (qx c)))) b1&&xK ni (xJ c))))))))))
abbrev zbf (ti b0 b1:Nat)(inc:Env->Env)(I:Nat->Env->World->Prop)(Q:Exit->Env->World->Prop)(i:Nat):Exit->Env->World->Prop
 | .normal,ρ,w=>ρ ti=iN i/\I (i+1) (inc ρ) w
 | .exit k,ρ,w=>bif Qx k b1 then ρ ti=iN i/\I (i+1) (inc ρ) w else bif Qx k b0 then Q .normal ρ w else Q (.exit k) ρ w
 | e,ρ,w=>Q e ρ w
theorem zeO {ti b0 b1 tc nt ni n:Nat}{tst:Nat->Env->Env}{inc:Nat->Env->Env}(I:Nat->Env->World->Prop)
 (hs:uh nt ni b0 b1 tc c=true) (hx:jx (zP (qx c))=.tmp tc)
 (hT: ∀i ρ w K,I i ρ w->K (tst i ρ) w->WPs P N (zj (kT c)) K (QL nt) ρ w) (hv: ∀i ρ w,I i ρ w->tst i ρ tc=.bool (decide ((i:Int)<(n:Int))))
 (hJ: ∀i ρ w K,i<n->ρ ti=iN i->K (inc i ρ) w->WPs P N (zj (xJ c)) K (QL ni) ρ w)
 (h0:I 0 ρ w) (hb: ∀i ρ w,i<n->I i ρ w->WP P N (uf c) (zbf ti b0 b1 (inc i) I Q i) (tst i ρ) w) (he: ∀ρ w,I n ρ w->Q .normal (tst n ρ) w):WP P N c Q ρ w:=by
 unfold uh at hs;simp only[Qo]at hs;obtain⟨s1,s2,s3,s4,s5,s6,s7,s8,s9,s10,s11⟩:=hs;obtain⟨id1,e1,l1⟩:=zbe s4;obtain⟨id2,e2,l2⟩:=zbe s11;refine zS b0 (ug s1)<|qs s2 (fun m ρ w=> ∃i,n-i=m/\i<=n/\I i ρ w) n ⟨0,rfl,QO _,h0⟩ ?_;rintro m ρ w ⟨i,rfl,hin,hI⟩;refine zb s3 ?_;show WP P N (kT c) _ ρ w;rw[e1];refine WP.region _ l1<|hT i ρ w _ hI ?_;show WP P N (qx c) _ (tst i ρ) w;refine zb s5 ?_;have hval:=hv i ρ w hI;by_cases hi:i<n
 ·refine zK s6 (by rw[hx];show tst i ρ tc=_;rw[hval,decide_eq_true (by omega)])<|zI s7 ?_;show WP P N (yE (qx c)) _ (tst i ρ) w;refine zb s9<|zS b1 (ug s10) ?_;have hfin: ∀(Q3:Exit->Env->World->Prop) ρ' w',(ρ' ti=iN i/\I (i+1) (inc i ρ') w')->(∀e ρ w,Q3 e ρ w=Q3 e ρ w)->WP P N (xJ c) (nx (fun ρ' w'=> ∃m,m<n-i/\∃i,n-i=m/\i<=n/\I i ρ' w') Q3) ρ' w':=fun Q3 ρ' w' h _=>by
   rw[e2];refine WP.region _ l2 ?_;exact hJ i ρ' w' _ hi h.1 ⟨n-(i+1),by omega,i+1,rfl,by omega,h.2⟩
  refine qV (hb i ρ w hi hI) fun e ρ' w' h=>?_;cases e with
  | normal=>exact hfin _ ρ' w' h fun _ _ _=>rfl
  | exit k=>
   show bif Qx k b1 then _ else _;change (bif Qx k b1 then _ else _)at h;cases hk:Qx k b1 with
   | true=>rw[hk]at h;exact hfin _ ρ' w' h fun _ _ _=>rfl
   | false=>rw[hk]at h;exact h
  | _=>exact h
 ·obtain rfl:i=n:=by omega
  refine zE s6 (by rw[hx];show tst i ρ tc=_;rw[hval,decide_eq_false (by omega)])<|yW b0 (ug s8) ?_;show bif Qx b0 b0 then _ else _;rw[Rd];exact he ρ w hI
theorem zR (ti tn tc tj b0 b1 n:Nat)(hn:n<=0x4000000000000000)(I:Nat->Env->World->Prop)(hI: ∀i ρ w,I i ρ w->ρ ti=iN i/\ρ tn=iN n)
 (h0:I 0 ρ w) (hb: ∀i ρ w,i<n->I i ρ w->WP P N (uf c) (zbf ti b0 b1 (fun ρ=>upd (upd ρ tj (iN (i+1))) ti (iN (i+1))) I Q i) (upd ρ tc (.bool true)) w)
 (he: ∀ρ w,I n ρ w->Q .normal (upd ρ tc (.bool false)) w)
 (hs:uh 1 2 b0 b1 tc c=true:=by kernel_rfl) (hx:jx (zP (qx c))=.tmp tc:=by kernel_rfl)
 (ht: ∀(ρ0:Env) (i:Nat) w,opv P (zj (kT c)) 0 (upd (upd ρ0 tn (iN n)) ti (iN i)) w=some (some tc,true,.ok (.value (.bool (decide ((i:Int)<(n:Int))))) w):=by exact fun ρ0 i w=>by kernel_rfl)
 (hj: ∀(ρ0:Env) (i:Nat) w,opv P (zj (xJ c)) 0 (upd ρ0 ti (iN i)) w=some (some tj,true,.ok (.value (.int .i64 (Qn.wrap ((i:Int)+1)))) w):=by exact fun ρ0 i w=>by kernel_rfl)
 (hk: ∀(ρ0:Env) (v:Value) w,opv P (zj (xJ c)) 1 (upd ρ0 tj v) w=some (some ti,true,.ok (.value v) w):=by exact fun ρ0 v w=>by kernel_rfl)
 (hd:(dOK (some tc) N&&(dOK (some tj) N&&dOK (some ti) N))=true:=by kernel_rfl):WP P N c Q ρ w:=by
 simp only[Qo]at hd;refine zeO (ti:=ti) (tst:=fun i ρ=>upd ρ tc (.bool (decide ((i:Int)<(n:Int))))) (inc:=fun i ρ=>upd (upd ρ tj (iN (i+1))) ti (iN (i+1))) (n:=n) I hs hx (fun i ρ w K h k=>?_) (fun i ρ w h=>?_) (fun i ρ w K hi h k=>?_) h0 (fun i ρ w hi h=>?_) (fun ρ w h=>?_)
 ·have e:upd (upd ρ tn (iN n)) ti (iN i)=ρ:=by rw[jN (hI i ρ w h).2,jN (hI i ρ w h).1]
  refine zt (some tc) _ (fun w=>e▸ht ρ i w) hd.1 ?_;exact zc k
 ·show upd ρ tc _ tc=_;unfold upd;rw[Rd];rfl
 ·have e:upd ρ ti (iN i)=ρ:=jN h;refine xo (some tj) _ (iN (i+1)) (fun w=>e▸hj ρ i w) (zd (zy (a:=i) (b:=1) (by omega))) hd.2.1<|zt (some ti) (iN (i+1)) (fun w=>hk ρ (iN (i+1)) w) hd.2.2 ?_;exact zc k
 ·show WP P N (uf c) _ (upd ρ tc (.bool (decide ((i:Int)<(n:Int))))) w;rw[decide_eq_true (show (i:Int)<(n:Int) by omega)];exact hb i ρ w hi h
 ·show Q .normal (upd ρ tc (.bool (decide ((n:Int)<(n:Int))))) w;rw[decide_eq_false (show ¬(n:Int)<(n:Int) by omega)];exact he ρ w h
end
theorem AtF.row2 {α:Type}{S:Fl α}{w:World}{p:Qc}{n:Nat}{L:List α}(h:AtF S w p n L)(hn:0<n):∃b off C T fz,p=some ⟨b,off,none⟩/\w.heap[b]? =some (.cells C T fz)/\qE S C off L:=by
 rcases h.2 with rfl|h2
 ·have:=h.1;simp at this;omega
 ·exact h2
theorem kV (x y:Qa):(Rv x.toList y.toList||(x.toList==y.toList))= !(zi (tl y) (tl x)):=by
 rw[ja];by_cases h:x=y
 ·subst h;rw[zax,jZ];rfl
 ·rw[zT x y h,Bool.or_false];have hne:tl x≠tl y:=fun e=>h (vO e);cases h1:zi (tl x) (tl y) with
  | true=>
   cases h2:zi (tl y) (tl x) with
   | false=>rfl
   | true=>have:=jq h1 h2;rw[jZ]at this;cases this
  | false=>rw[zbd h1 hne];rfl
def yz (L:Qi)(i:Nat):Option Qa:=if i=0 then none else L[i-1]?
theorem xa {L:Qi}{i:Nat}{x:Qa}(h:L[i]? =some x):yz L (i+1)=some x:=by
 unfold yz;rw[if_neg (by omega),Nat.add_sub_cancel,h]
theorem zbg (p:Qc)(n c:Nat)(L:Qi)(hL:L.length<=1000000):FnP Try.prog 38 #[.slice p n c] (fun w=>AtF sS w p n L) (.bool (setM L)):=by
 refine FnP.intro (c:=zk Try.f38) [.tmp 2] 37 Try.func38 kr kr kr fun w hP=>?_;have hn:=hP.1;have H0:=St.start w;refine rS [.v] H0 kr fun gs1 w1 H1=>zb kr<|rS [.v,.v,.v] H1 kr fun gs2 w2 H2=>zR 7 6 8 28 0 1 n (by omega) (fun i ρ ww=>yy none L=yy (yz L i) (L.drop i)/\St w.heap.size w ww []/\Is [(0,.slice p n c),(5,.slice p n c),(6,iN n),(7,iN i)] ρ) (by rintro i _ ww ⟨_,_,_,rfl⟩;exact⟨kr,kr⟩) ⟨rfl,H2.as kr,isK⟩ ?_ ?_
 ·clear H0 H1 H2;rintro i _ w4 hi ⟨hst,H5,_,rfl⟩;obtain⟨x,hx⟩:∃x,L[i]? =some x:=⟨_,Ql (by omega)⟩
  obtain⟨bl,off,C,T,fz,hp,hh,hR⟩:=hP.row2 (by omega);have hcx:C[off+i*1]? =some (.string x):=hR.cell hx 0 (by decide);rw[qi hx]at hst;change yy none L=(decide (x.size=20)&&(upB (yz L i) x&&yy (some x) (L.drop (i+1))))at hst;refine rS [.v,.o (ins:=[((.tmp 5),.slice p n c),((.tmp 7),iN i)]) (v:=.pointer (some ⟨bl,off+i*1,none⟩)) (fun ρ o w ho hi2=>zo (kd:=.i64) (t:=22) (e:=9) (K:=1) (bytes:=16) kr (x:=(.tmp 5)) (y:=(.tmp 7)) bl off n c i hp ho hi2.1 hi2.2.1 (by omega) w),.fs (off:=off+i*1) (v:=.string x) hh (zf hh) hcx,.v,.v] H5 kr fun gs5 w6 H7=>?_;by_cases h1:x.size=20
  case neg=>
   refine rS [.v,.v,.E (.bool (!((x.size:Int)==20))) (.bool true) (za (by rw[beq_eq_false_iff_ne.2 (by omega)];rfl)),.v,.n,.n,.n,.n,.n,.n,.n,.n,.n,.n,.n,.v] H7 kr fun gs6 w7 H8=>zh<|rS [.v] H8 kr fun gs7 w8 H9=>?_;exact rRe [.tmp 2] [] (v:=.bool false) (v':=.bool (setM L)) H9 (za (by unfold setM;rw[hst,decide_eq_false h1];rfl)) kr
  rw[decide_eq_true h1]at hst;by_cases h0:i=0
  ·have hup:upB (yz L i) x=true:=by subst h0;rfl
   refine rS [.v,.v,.E (.bool (!((x.size:Int)==20))) (.bool false) (za (by rw[beq_iff_eq.2 (show (x.size:Int)=20 by omega)];rfl)),.v,.v,.E (.bool (decide ((i:Int)>0))) (.bool false) (za (decide_eq_false (by omega))),.v,.n,.n,.n,.n,.n,.n,.n,.v,.v] H7 kr fun gs6 w7 H8=>zl ?_;exact⟨kr,by rw[xa hx,hst,hup];rfl,H8.as kr,isK⟩
  ·obtain⟨y,hy⟩:∃y,L[i-1]? =some y:=⟨_,Ql (by omega)⟩
   have hcell:C[off+(i-1)*1]? =some (.string y):=hR.cell hy 0 (by decide);have hpv:upB (yz L i) x=zi (tl y) (tl x):=by unfold yz;rw[if_neg h0,hy];rfl
   rw[hpv]at hst;cases hup:zi (tl y) (tl x) with
   | false=>
    refine rS [.v,.v,.E (.bool (!((x.size:Int)==20))) (.bool false) (za (by rw[beq_iff_eq.2 (show (x.size:Int)=20 by omega)];rfl)),.v,.v,.E (.bool (decide ((i:Int)>0))) (.bool true) (za (decide_eq_true (by omega))),.v,.v,.v,.v,.E (.int .i64 (Qn.wrap ((i:Int)-1))) (iN (i-1)) (zd (yO (a:=i) (b:=1) (by omega))),.o (ins:=[((.tmp 20),.slice p n c),((.tmp 22),iN (i-1))]) (v:=.pointer (some ⟨bl,off+(i-1)*1,none⟩)) (fun ρ o w ho hi2=>zo (kd:=.i64) (t:=22) (e:=9) (K:=1) (bytes:=16) kr (x:=(.tmp 20)) (y:=(.tmp 22)) bl off n c (i-1) hp ho hi2.1 hi2.2.1 (by omega) w),.fs (off:=off+(i-1)*1) (v:=.string y) hh (zf hh) hcell,.E (.bool (Rv x.toList y.toList||(x.toList==y.toList))) (.bool true) (za (by rw[kV,hup];rfl)),.v,.v] H7 kr fun gs6 w7 H8=>zh<|rS [.v] H8 kr fun gs7 w8 H9=>?_;exact rRe [.tmp 2] [] (v:=.bool false) (v':=.bool (setM L)) H9 (za (by unfold setM;rw[hst,hup];rfl)) kr
   | true=>
    refine rS [.v,.v,.E (.bool (!((x.size:Int)==20))) (.bool false) (za (by rw[beq_iff_eq.2 (show (x.size:Int)=20 by omega)];rfl)),.v,.v,.E (.bool (decide ((i:Int)>0))) (.bool true) (za (decide_eq_true (by omega))),.v,.v,.v,.v,.E (.int .i64 (Qn.wrap ((i:Int)-1))) (iN (i-1)) (zd (yO (a:=i) (b:=1) (by omega))),.o (ins:=[((.tmp 20),.slice p n c),((.tmp 22),iN (i-1))]) (v:=.pointer (some ⟨bl,off+(i-1)*1,none⟩)) (fun ρ o w ho hi2=>zo (kd:=.i64) (t:=22) (e:=9) (K:=1) (bytes:=16) kr (x:=(.tmp 20)) (y:=(.tmp 22)) bl off n c (i-1) hp ho hi2.1 hi2.2.1 (by omega) w),.fs (off:=off+(i-1)*1) (v:=.string y) hh (zf hh) hcell,.E (.bool (Rv x.toList y.toList||(x.toList==y.toList))) (.bool false) (za (by rw[kV,hup];rfl)),.v,.v] H7 kr fun gs6 w7 H8=>zl ?_;exact⟨kr,by rw[xa hx,hst,hup];rfl,H8.as kr,isK⟩
 ·rintro _ w4 ⟨hst,H5,_,rfl⟩;rw[QD (by omega)]at hst;refine wW ?_;by_cases h0:0<n
  ·refine rS [.v,.v,.E (.bool (decide ((n:Int)>0))) (.bool true) (za (decide_eq_true (by omega))),.v,.v,.v,.E (.bool (decide ((n:Int)<=16))) (.bool (decide (n<=16))) (za (by rw[RQ];simp<;>omega)),.v,.v] H5 kr fun gs6 w7 H8=>?_;exact rRe [.tmp 2] [] (v:=.bool (decide (n<=16))) (v':=.bool (setM L)) H8 (za (by unfold setM;rw[hst,<-hn,decide_eq_true h0];rfl)) kr
  ·refine rS [.v,.v,.E (.bool (decide ((n:Int)>0))) (.bool false) (za (decide_eq_false (by omega))),.v,.n,.n,.n,.v,.v] H5 kr fun gs6 w7 H8=>?_;exact rRe [.tmp 2] [] (v:=.bool false) (v':=.bool (setM L)) H8 (za (by unfold setM;rw[hst,<-hn,decide_eq_false h0];rfl)) kr
end Go.Proofs.Ytdaeahhkiilbaaa
