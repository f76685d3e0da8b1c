/-
  Texts of the proof,part 2.
-/
import Derived.Lib.AppendZeros
import Derived.Lib.Overlaps
import Derived.Scope
import Derived.Deep.Upon
import Derived.Test.YtdaeahhkiilbaaaRows
import Derived.ChangeArms
import Derived.ChangeSlices
import Derived.OpenShut
import Derived.Deep.Strs
import Derived.DataReads
import Derived.ProofKit
import Derived.WalkKit
import Derived.Below
import Derived.KernelRfl
import Derived.Test.YtdaeahhkiilbaaaProg
import Derived.Handy
import Derived.WalkLawsBesides
import Derived.Shelf.Spec.BitsCarry
import Derived.Shelf.Bits.Mul64
import Derived.Laws.Bits64b
import Derived.Lib.BitFns
import Derived.Shelf.Strconv.Itoa0
import Derived.Lib.Hide
import Derived.Laws.StructEq
import Derived.ChangeKeysEq
import Derived.Test.YtdaeahhkiilbaaaChecked
import Derived.Laws.IdiomArrays
import Derived.Lib.AppendStr
import Derived.Lib.Builder
import Derived.Recover
import Derived.Laws.BitsLemmas
import Derived.Laws.BitsAllLaws
import Derived.Laws.BytesArg
import Derived.Laws.Externs
import Derived.Test.YtdaeahhkiilbaaaVP1
set_option maxRecDepth 100000
set_option maxHeartbeats 4000000
set_option linter.unusedVariables false
open Go Go.RowKit
open Bool renaming and_eq_true->Qm,false_ne_true->QS,eq_false_iff->QZ,false_eq_true->Rt,true_and->Ry,or_eq_true->RR,eq_iff_iff->RS,false_or->Ub
open Builtin renaming zeroCells->QW
open DataW renaming trod->QP,trod_int->R6
open Instr renaming sliceBounds->Uc,sliceBound->Ui,sliceAt->UD,slice->UL,index->UX
open Int renaming eq_ofNat_of_zero_le->Ra,natCast_mul->Va
open IntKind renaming i64->Qo,u8->RO,u64->UI,wrap_u64->UU
open Lib renaming hid->R8
open List renaming getElem?_eq_getElem->Ql,take_of_length_le->Qq,getElem?_eq_some_iff->Qt,length_take->Qw,sublist_cons_self->QB,length_append->QF,range->QG,append_assoc->QJ,map_cons->QK,mem_cons->QN,pairwise_cons->QO,mem_cons_self->QU,mem_cons_of_mem->Q7,perm_append_comm->Rd,filter_append->Re,filter_eq_self->Rf,mem_filter->Rh,mem_singleton->Rj,filter_cons_of_neg->Rk,length_cons->Ru,not_mem_nil->Rv,filter_cons->RC,append_nil->RD,foldl_cons->RE,length_drop->RK,map_toArray->RN,length_filter_le->RV,map_nil->R5,filter_cons_of_pos->R9,take_take->Ug,filter_sublist->Uo,mem_append->Ut,size_toArray->Uv,nil_append->UF,toList_toArray->UT,take_append->U7
open List.Pairwise renaming filter->RJ
open List.Perm renaming append_left->Uw,swap->UV
open List.Sublist renaming cons_cons->Qx,append->Q8,refl->Rz,cons->RH
open Nat renaming eq_of_beq_eq_true->Qn,le_of_ble_eq_true->Qr,le_refl->Qs,beq->Qv,zero_add->Qy,zero_le->QH,mul_le_mul_right->QR,mod_eq_of_lt->QX,beq_refl->Q4,le_trans->Ro,min_eq_left->Rx,add_zero->RB,lt_trichotomy->RX,mod_lt->R2,mul_zero->Us,add_mod_right->Uy,lt_irrefl->UB,mul_add->U1,lt_or_ge->U4
open Obj renaming cells->Qk
open Op renaming bytesLess->RZ,equalIn->Uj
open Oper renaming upon_value->Rs
open Option renaming some->Q1
open Prod renaming ext->UA
open Region renaming wanted->Qz
open Result renaming andThen_ok->QA
open Sem renaming run_bind->QM,run_pure->RY
open UInt8 renaming ofNat->UY
open Value renaming cells->Qj,bool->UG,int->Vb,okWide->Vd
open _root_.Array renaming length_toList->QD
open _root_.ByteArray renaming size->Qu
namespace Go.Proofs.Ytdaeahhkiilbaaa
def zh (C:Qd)(o:Nat)(vs:List Value):Qd:=(C.toList.take o++vs++C.toList.drop (o+vs.length)).toArray
theorem yF {C:Qd}{o:Nat}{vs:List Value}(h:o+vs.length<=C.size):(zh C o vs).size=C.size:=by
 unfold zh;rw[Uv,QF,QF,Qw,RK,QD];omega
theorem uE {C:Qd}{o:Nat}{vs:List Value} :(zh C o vs).toList=C.toList.take o++vs++C.toList.drop (o+vs.length):=rfl
theorem qU {C:Qd}{o:Nat}{vs:List Value}{m:Nat}(h:o+vs.length<=C.size)(hm:o+vs.length<=m):(zh C o vs).toList.take m=C.toList.take o++vs++(C.toList.take m).drop (o+vs.length):=by
 rw[uE];have e1:(C.toList.take o).length=o:=by rw[Qw,QD];omega
 have e2:(C.toList.take o++vs).length=o+vs.length:=by rw[QF,e1]
 rw[U7,e2,Qq (by rw[e2];exact hm),List.drop_take]
theorem xb {C:Qd}{o:Nat}{vs:List Value}{m:Nat}(h:o<=C.size)(hm:m<=o):(zh C o vs).toList.take m=C.toList.take m:=by
 rw[uE,QJ,List.take_append_of_le_length (by rw[Qw,QD];omega),Ug,Rx hm]
section
variable {P:Program}{w w0:World}
theorem zcb (dT sT ty e size:Nat)(hu:P.underlying dT=some (.slice e))(hs:(P.info? e).map (·.size)=some size)(g o dLen dCap:Nat)(a:Addr)(sLen sCap:Nat)(cur:Qd)(t:TypeId)(cs:List Value)
 (hg:w.heap[g]? =some (.cells cur t)) (hn:cs.length=Nat.min sLen dLen*size)
 (hsrc: ∀j v,cs[j]? =some v->w.cell? (a.add j)=some v) (hfit:o+cs.length<=cur.size) (h1: ∀v∈cs,v.oneCell'=true):
 (Builtin.copy_ #[dT,sT] ty #[.slice (some ⟨g,o,none⟩) dLen dCap,.slice (some a) sLen sCap]).run P w=.ok (.int .i64 ((Nat.min sLen dLen:Nat):Int)) (w.setRow g (zh cur o cs)):=by
 have hl:=run_loadCells_list (P:=P) w a cs hsrc;have hst:=run_storeCells_at P g o t cs 0 cur w hg (by simpa using hfit) h1;cases hq:P.info? e with
 | none=>simp[hq]at hs
 | some i=>
  have hi:i.size=size:=by simpa [hq] using hs
  simp[Builtin.copy_,run_underlying hu,Builtin.lenOf,Builtin.firstCells,sizeOf,typeInfo,hq,hi,<-hn,hl,hst];exact⟨rfl,by unfold zh;rw[QJ]⟩
theorem zcc (t tn ty e:TypeId)(i:TypeInfo)(z:Value)(kn k:IntKind)(ht:P.underlying t=some (.slice e))(htn:P.underlying tn=some (.int kn))(hi:P.info? e=some i)(hz:i.zero=some z)
 (b:Addr) (sLen sCap:Nat) (olds:List Value) (hlo:olds.length=sLen*i.size) (holds: ∀j v,olds[j]? =some v->w.cell? (b.add j)=some v)
 (n:Nat) (h0:0<n) (hs:0<i.size) (hg:sCap<sLen+n) (h63:((sLen+n:Nat):Int)<=0x7fffffffffffffff) (h48:n*i.bytes<=281474976710656) (hfit:Builtin.nextslicecap (sLen+n) sCap*i.bytes<=281474976710656):
 (Builtin.append_ #[t,tn] ty #[.slice (some b) sLen sCap,.int k n]).run P w=
  .ok (Qf w.heap.size (sLen+n) (grownCap w (sLen+n) sCap e))
   (w.drew.alloc (.cells (olds.toArray++QW z.cells n++QW z.cells (grownCap w (sLen+n) sCap e-(sLen+n))) e)):=by
 have hn: ¬(sLen+n<=sCap):=by omega
 have hn0:n≠0:=by omega
 have hw:Qo.wrap (n:Int)=n:=by rw[IntKind.wrap_i64];omega
 have h63': ¬(0x7fffffffffffffff<((sLen:Int)+(n:Int))):=by omega
 have h48': ¬(281474976710656<Builtin.nextslicecap (sLen+n) sCap*i.bytes):=by omega
 have h48i: ¬(281474976710656<(n:Int)*(i.bytes:Int)):=by
  rw[<-Va];omega
 have hneg: ¬((n:Int)<0):=by omega
 have hns: ¬(n*i.size=0):=Nat.mul_ne_zero hn0 (by omega);have hfo:=run_firstCells_some (P:=P) w.drew i.size sLen b sLen sCap olds hlo (by simpa using holds);simp[Builtin.append_,run_underlying ht,run_underlying htn,sizeOf,typeInfo,zeroValue,hi,hz,asInt,asIntOf,hw,hn,hn0,hneg,hns,h63',h48',h48i,Question.forced,hfo,newRow,grownCap]
theorem kW (z:Qd)(n:Nat):(QW z n).size=n*z.size:=by unfold QW;simp
theorem zcd (t ty e size:Nat)(it:TypeInfo)(z:Value)(ht:P.underlying t=some (.slice e))(hi:P.info? e=some it)(hz:it.zero=some z)(hzs:z.cells.size=size)(h1z: ∀v∈z.cells.toList,v.oneCell'=true)(hz0:0<size)
 (g o n c:Nat) (cur:Qd) (T:TypeId) (hg:w.heap[g]? =some (.cells cur T)) (hn:0<n) (hfit:o+n*size<=cur.size):
 (Builtin.clear_ #[t] ty #[.slice (some ⟨g,o,none⟩) n c]).run P w=.ok (.tuple #[]) (w.setRow g (zh cur o (QW z.cells n).toList)):=by
 have hl:(QW z.cells n).toList.length=n*size:=by rw[QD,kW,hzs]
 have h1: ∀v∈(QW z.cells n).toList,v.oneCell'=true:=fun v hv=>by
  unfold QW at hv;rw[Array.toList_map,List.mem_map]at hv;obtain⟨i,_,rfl⟩:=hv;refine h1z _ ?_;have hlt:i%z.cells.size<z.cells.size:=R2 _ (by omega);rw[getElem!_pos z.cells _ hlt];exact Array.getElem_mem_toList hlt
 have hst:=run_storeCells_at P g o T (QW z.cells n).toList 0 cur w hg (by rw[hl];simpa using hfit) h1;obtain⟨m,rfl⟩:∃m,n=m+1:=⟨n-1,by omega⟩
 simp[Builtin.clear_,run_underlying ht,zeroValue,typeInfo,hi,hz]at hst⊢;rw[hst];unfold zh;rw[QJ,QD];rfl
end
section
variable {P:Program}{N:Nat}{ops:Array Oper}{i:Nat}{r:List Nat}{K:Env->World->Prop}{ρ:Env}{w:World}{B:Nat}{w0:World}{l:Qb}
theorem uF (HS:St B w0 w l)(d:Option Nat)(t tn e size bytes:Nat)(kn:IntKind)(x y:Operand)(j b n cap m:Nat)(cur:Qd)(xs:List Value)
 (h:opk ops i ρ=some (d,true,.call { callee:=.builtin .append,args:=#[x,y],argTypes:=#[t,tn] })) (hd:dOK d N=true) (ht:zV P t=some (e,size,bytes)) (htn:P.underlying tn=some (.int kn))
 (hx:ev ρ x=Qf b n cap) (hy:ev ρ y=.int .i64 (m:Int)) (hj:l[j]? =some (b,.cells cur e)) (hr:Rw size cur cap n xs) (h0:0<m) (hg:cap<n+m) (hb:(n+m)*bytes<=0x800000000000) (hm:n+m<=maxLen)
 (kk: ∀b' cap' cur' w',St B w0 w' ((b',.cells cur' e)::l)->n+m<=cap'->cap'<=maxLen->cur'.size=cap'*size->cur'.toList.take (n*size)=xs->WPs P N ops K r (zm ρ d (Qf b' (n+m) cap')) w'):WPs P N ops K (i::r) ρ w:=by
 obtain⟨o',ho,rfl,hw,hop⟩:=zJ h;obtain⟨it,z,hu,hi,hz,hsz,hby,hzs,hs0⟩:=yM ht;subst hsz hby;have hml:n+m<=0x7fffffffffffffff:=by simp only[maxLen]at hm;omega
 have hmb:m*it.bytes<=(n+m)*it.bytes:=QR _ (by omega);have holds: ∀q v,xs[q]? =some v->w.cell? ((⟨b,0,none⟩:Addr).add q)=some v:=fun q v hq=>by
  have hql:q<n*it.size:=by rw[<-hr.len];exact(Qt.1 hq).1
  rw[qf,Qy];simp[World.cell?,HS.get j hj,hr.get q hql,hq]
 have hrun:=zcc (P:=P) (w:=w) t tn o'.type e it z kn .i64 hu htn hi hz ⟨b,0,none⟩ n cap xs hr.len holds m h0 hs0 hg (by omega) (by omega) (growslice_fits hg hb);refine WPo.run ho hw fun a' ha=>?_;have hex:(execOp (ev ρ) o').run P w=.ok (.value (Qf w.heap.size (n+m) (grownCap w (n+m) cap e))) (w.drew.alloc (.cells (xs.toArray++QW z.cells m++QW z.cells (grownCap w (n+m) cap e-(n+m))) e)):=by
  unfold execOp;simp only[hop,resolve,invoke,builtin,QM,RY,QA,RN,QK,R5,hx,hy,hrun]
 rw[hex,Rs];have hge:=grownCap_ge w (n+m) cap e;have hcm:=grownCap_le_maxLen w (n+m) cap e hm;refine⟨_,ha.put _ (zS hd) _,kk _ _ _ _ (HS.drew.alloc _) hge hcm ?_ ?_⟩
 ·simp only[Array.size_append,Uv,kW,hzs,hr.len,<-Nat.add_mul];congr 1;omega
 ·simp only[Array.toList_append];rw[QJ,<-hr.len,List.take_left]
theorem kX (HS:St B w0 w l)(d:Option Nat)(t e size bytes:Nat)(x:Operand)(j b o n c:Nat)(cur:Qd)(T:TypeId)
 (h:opk ops i ρ=some (d,true,.call { callee:=.builtin .clear,args:=#[x],argTypes:=#[t] })) (hd:dOK d N=true) (ht:zV P t=some (e,size,bytes)) (hz1:((P.info? e).bind (·.zero)).all (fun z=>z.cells.all (·.oneCell'))=true)
 (hx:ev ρ x=.slice (some ⟨b,o,none⟩) n c) (hj:l[j]? =some (b,.cells cur T)) (hn:0<n) (hfit:o+n*size<=cur.size)
 (kk: ∀V w',V.length=n*size->St B w0 w' (l.set j (b,.cells (zh cur o V) T))->WPs P N ops K r (zm ρ d (.tuple #[])) w'):WPs P N ops K (i::r) ρ w:=by
 obtain⟨o',ho,rfl,hw,hop⟩:=zJ h;obtain⟨it,z,hu,hi,hz,hsz,hby,hzs,hs0⟩:=yM ht;have h1z: ∀v∈z.cells.toList,v.oneCell'=true:=fun v hv=>by
  rw[hi]at hz1;simp only[Option.bind_some,hz,Option.all_some]at hz1;exact(Array.all_eq_true_iff_forall_mem.1 hz1) v (by simpa using hv)
 have hrun:=zcd (P:=P) (w:=w) t o'.type e size it z hu hi hz hzs h1z hs0 b o n c cur T (HS.get j hj) hn hfit;refine WPo.run ho hw fun a' ha=>?_;have hex:(execOp (ev ρ) o').run P w=.ok (.value (.tuple #[])) (w.setRow b (zh cur o (QW z.cells n).toList)):=by
  unfold execOp;simp only[hop,resolve,invoke,builtin,QM,RY,QA,RN,QK,R5,hx,hrun]
 rw[hex,Rs];exact⟨_,ha.put _ (zS hd) _,kk (QW z.cells n).toList _ (by rw[QD,kW,hzs]) (HS.store j hj)⟩
end
namespace D2
def stg:List Nat->(Nat->Bool)->Nat
 | [],_=>0
 | k::r,L=>bif L k then stg r L+1 else 0
def chn (ks:List Nat)(Q:Nat->(Nat->Gh)->World->Prop):(Nat->Bool)->(Nat->Gh)->World->Prop:=fun L g w=>Q (stg ks L) g w
theorem uG: ∀(ks:List Nat) (L:Nat->Bool),stg ks L<=ks.length
 | [],_=>Qs _
 | k::r,L=>by
  unfold stg;cases L k with
  | true=>exact Nat.succ_le_succ (uG r L)
  | false=>exact QH _
theorem chn.get {ks:List Nat}{Q:Nat->(Nat->Gh)->World->Prop}{L:Nat->Bool}{g:Nat->Gh}{w:World}{Φ:Prop}(h:chn ks Q L g w)(hQ: ∀j,j<=ks.length->Q j g w->Φ):Φ:=hQ _ (uG ks L) h
theorem chn.fin {Q:Nat->(Nat->Gh)->World->Prop}{g:Nat->Gh}{w:World} : ∀ {ks:List Nat} {L:Nat->Bool},chn ks Q L g w->(∀k∈ks,L k=true)->Q ks.length g w:=by
 intro ks L h hk;have:stg ks L=ks.length:=by
  clear h
  induction ks with
  | nil=>rfl
  | cons k r ih=>
   unfold stg;rw[hk k (QU ..),ih fun x hx=>hk x (Q7 _ hx)];rfl
 unfold chn at h
 rwa [this]at h
section
variable {P:Program}{ops:Array Oper}{R:(Nat->Gh)->Env}{d:Option Nat}
theorem gv_chn {V:Gh->Value}{ks:List Nat}{Q:Nat->(Nat->Gh)->World->Prop}(k j:Nat)(hN: ∀L,Now ops k L->stg ks L=j/\stg ks (put1 L k)=j+1)
 (hr: ∀g w,Q j g w->∃o,ops[k]? =some o/\o.dst=d/\Qz o (zy ops (R g))=true/\Runs P (fun v w'=> ∃x,v=V x/\Q (j+1) (setN g k x) w') ((execOp (ev (R g)) o).run P w)):Gives P ops R (chn ks Q) k d V:=by
 refine jS fun L g w hp hNw=>?_;obtain⟨e1,e2⟩:=hN L hNw;unfold chn at hp;rw[e1]at hp;obtain⟨o,ho,hd,hw,hq⟩:=hr g w hp;refine⟨o,ho,hd,.inr ⟨hw,?_⟩⟩;unfold chn;rw[e2];exact hq
variable {ρ:Env}{k:Nat}{w:World}{S:Value->World->Prop}
theorem run_new {F:Nat->Value}{ob:Obj}(h:opv P ops k ρ w=some (d,true,.ok (.value (F w.heap.size)) (w.alloc ob)))(hS:S (F w.heap.size) (w.alloc ob)):
 ∃o,ops[k]? =some o/\o.dst=d/\Qz o (zy ops ρ)=true/\Runs P S ((execOp (ev ρ) o).run P w):=by
 obtain⟨o,ho,hd,hw,hr⟩:=yh h;exact⟨o,ho,hd,hw,by rw[hr];exact hS⟩
theorem run_ft {f:Nat}{args:Qd}{pr:World->Prop}{ok:Value->Qb->Prop}(hc:FnT P f args pr ok)(hp:pr w)(h:opv P ops k ρ w=some (d,true,.ok (.enter f args) w))(hS: ∀v T w',ok v T->St w.heap.size w w' T->S v w'):
 ∃o,ops[k]? =some o/\o.dst=d/\Qz o (zy ops ρ)=true/\Runs P S ((execOp (ev ρ) o).run P w):=by
 obtain⟨o,ho,hd,hw,hr⟩:=yh h;refine⟨o,ho,hd,hw,?_⟩;rw[hr];refine Calls.mono (hc w hp) ?_;rintro e w' ⟨v,T,rfl,hok,hT⟩;exact⟨v,rfl,hS v T w' hok hT⟩
theorem run_sto {t:TypeId}{x y:Operand}{b off:Nat}{C C':Qd}{T:TypeId}{v:Value}(h:opk ops k ρ=some (none,true,.store t x y))(hx:ev ρ x=.pointer (some ⟨b,off,none⟩))(hy:ev ρ y=v)(hi:(P.info? t).map (·.size)=some v.cells.size)(h1:v.cells.all (·.oneCell')=true)
 (hh:w.heap[b]? =some (.cells C T)) (hs:off+v.cells.size<=C.size) (hC:(C.toList.take off++v.cells.toList++C.toList.drop (off+v.cells.size)).toArray=C') (hS:S undef (w.setRow b C')):
 ∃o,ops[k]? =some o/\o.dst=none/\Qz o (zy ops ρ)=true/\Runs P S ((execOp (ev ρ) o).run P w):=by
 obtain⟨o,ho,hd,hw,hop⟩:=zJ h;refine⟨o,ho,hd,hw,?_⟩;have hst:=jN (P:=P) (w:=w) hi h1 hh hs;rw[hC]at hst;have e2:(execOp (ev ρ) o).run P w=.ok .skip (w.setRow b C'):=by simp[execOp,hop,Instr.storeAt,Instr.sureAddr,hx,hy,hst]
 rw[e2];exact hS
theorem run_of {op:Op}(h:opk ops k ρ=some (d,true,op))(hr: ∀o:Oper,o.op=op->∃v w',(execOp (ev ρ) o).run P w=.ok (.value v) w'/\S v w'):
 ∃o,ops[k]? =some o/\o.dst=d/\Qz o (zy ops ρ)=true/\Runs P S ((execOp (ev ρ) o).run P w):=by
 obtain⟨o,ho,hd,hw,hop⟩:=zJ h;obtain⟨v,w',e,hS⟩:=hr o hop;exact⟨o,ho,hd,hw,by rw[e];exact hS⟩
end
end D2
section
open D2 (Gh)
theorem D2.Now.back {ops:Array Oper}{i:Nat}{L:Nat->Bool}(h:D2.Now ops i L){a b:Nat}(hb:L b=true)(he:D2.edge ops a b=true):L a=true:=by
 cases ha:L a with
 | true=>rfl
 | false=>have:=h.2.2.no a b he ha;rw[hb]at this;cases this
theorem D2.Now.fwd {ops:Array Oper}{i:Nat}{L:Nat->Bool}(h:D2.Now ops i L){a b:Nat}(ha:L a=false)(he:D2.edge ops a b=true):L b=false:=h.2.2.no a b he ha
theorem D2.stg_no: ∀(ks:List Nat) (L:Nat->Bool) (i k:Nat),ks[i]? =some k->L k=false->D2.stg ks L<=i
 | [],_,_,_,h,_=>by simp at h
 | k::r,L,0,k',h,hk=>by
  obtain rfl:k=k':=by simpa using h
  unfold D2.stg;rw[hk];exact Qs _
 | k::r,L,i+1,k',h,hk=>by
  have ih:=D2.stg_no r L i k' (by simpa using h) hk;unfold D2.stg;cases L k with
  | true=>exact Nat.succ_le_succ ih
  | false=>exact QH _
theorem D2.chn.getN {ks:List Nat}{Q:Nat->(Nat->Gh)->World->Prop}{L:Nat->Bool}{g:Nat->Gh}{w:World}{Φ:Prop}(h:D2.chn ks Q L g w)(i k:Nat)(hi:ks[i]? =some k)(hk:L k=false)(hQ: ∀j,j<=i->Q j g w->Φ):Φ:=hQ _ (D2.stg_no ks L i k hi hk) h
end
section
variable {P:Program}{N:Nat}{Q:Exit->Env->World->Prop}{ρ:Env}{w:World}{c:Code}
def uH:Code->Bool | .scope _=>true | _=>false
def uI:Code->Option Nat | .label i=>some i | _=>none
theorem zce (h:uH c=true):c=.scope (qq c):=by cases c<;>first | rfl | cases h
theorem zcf {i:Nat}(h:uI c=some i):c=.label i:=by
 cases c<;>first | (cases h;done) | (cases h;rfl)
def ng (Q:Exit->Env->World->Prop):Exit->Env->World->Prop
 | .goto _,_,_=>False
 | e,ρ,w=>Q e ρ w
theorem zcg (hc:uH c=true)(h:WP P N (qq c) (ng Q) ρ w):WP P N c Q ρ w:=by
 rw[zce hc];intro a ha;refine wp_scope_straight (Go.wp_mono (h a ha) ?_);rintro e a' w' ⟨r,hr,q⟩;cases e<;>first | exact⟨r,hr,q⟩ | exact q.elim
theorem zch (i:Nat)(hc:uI c=some i)(h:Q .normal ρ w):WP P N c Q ρ w:=by rw[zcf hc];exact WP.label h
end
section
variable {P:Program}{N:Nat}{ops:Array Oper}{i:Nat}{r:List Nat}{K:Env->World->Prop}{ρ:Env}{w:World}{B:Nat}{w0:World}{l:Qb}
theorem uJ {K':Nat}(HS:St B w0 w l)(d:Option Nat)(t e bytes:Nat)(s x:Operand)(j k b bx n cap c:Nat)(cur Y:Qd)(xs:List Value)(h:opk ops i ρ=some (d,true,yN t s x))(hd:dOK d N=true)(ht:zV P t=some (e,K',bytes))
 (hs:ev ρ s=Qf b n cap) (hj:l[j]? =some (b,.cells cur e)) (hr:Rw K' cur cap n xs) (hx:ev ρ x=Qf bx 1 c) (hk:l[k]? =some (bx,.cells Y e))
 (hY:Y.size=K') (hone: ∀u∈Y.toList,u.oneCell'=true) (hb:(n+1)*bytes<=0x800000000000) (hm:n+1<=maxLen)
 (kk: ∀b' cap' cur' w',St B w0 w' (l.set j (b',.cells cur' e))->Rw K' cur' cap' (n+1) (xs++Y.toList)->WPs P N ops K r (zm ρ d (Qf b' (n+1) cap')) w'):WPs P N ops K (i::r) ρ w:=by
 obtain⟨o,ho,rfl,hw,hop⟩:=zJ h;obtain⟨b',cap',cur',w',hrun,HS',hr'⟩:=uC HS ht hop hs hj hr hx hk hY hone hb hm;refine WPo.run ho hw fun a ha=>?_;rw[hrun,Rs];exact⟨_,ha.put _ (zS hd) _,kk b' cap' cur' w' HS' hr'⟩
theorem uK {K':Nat}(HS:St B w0 w l)(d:Option Nat)(t e bytes:Nat)(s x:Operand)(k bx c:Nat)(Y:Qd)(h:opk ops i ρ=some (d,true,yN t s x))(hd:dOK d N=true)(ht:zV P t=some (e,K',bytes))
 (hs:ev ρ s=.slice none 0 0) (hx:ev ρ x=Qf bx 1 c) (hk:l[k]? =some (bx,.cells Y e))
 (hY:Y.size=K') (hone: ∀u∈Y.toList,u.oneCell'=true) (hb:(0+1)*bytes<=0x800000000000)
 (kk: ∀b' cap' cur' w',St B w0 w' ((b',.cells cur' e)::l)->Rw K' cur' cap' 1 Y.toList->WPs P N ops K r (zm ρ d (Qf b' 1 cap')) w'):WPs P N ops K (i::r) ρ w:=by
 obtain⟨o,ho,rfl,hw,hop⟩:=zJ h;obtain⟨b',cap',cur',w',hrun,HS',hr'⟩:=uD HS ht hop hs hx hk hY hone hb;refine WPo.run ho hw fun a ha=>?_;rw[hrun,Rs];exact⟨_,ha.put _ (zS hd) _,kk b' cap' cur' w' HS' hr'⟩
end
def putA (cur:Qd)(off:Nat)(v:Value):Qd:=(cur.toList.take off++v.cells.toList++cur.toList.drop (off+v.cells.size)).toArray
theorem Rw.putA {K:Nat}{cur:Qd}{cap n:Nat}{xs:List Value}(h:Rw K cur cap n xs)(off:Nat)(v:Value)(hle:off+v.cells.size<=n*K):
 off+v.cells.size<=cur.size/\Rw K (putA cur off v) cap n (xs.take off++v.cells.toList++xs.drop (off+v.cells.size)):=by
 have hcap:n*K<=cap*K:=QR _ h.le;have hsz:=h.sz;have hA:cur.toList.length=cap*K:=by rw[QD,hsz]
 have hx:xs=cur.toList.take (n*K):=h.take.symm;have hv:v.cells.toList.length=v.cells.size:=QD;have e1:(cur.toList.take off).length=off:=by rw[Qw];omega
 refine⟨by omega,?_,h.le,h.max,?_,?_⟩
 ·rw[QF,QF,Qw,RK,h.len,hv];omega
 ·unfold Go.Proofs.Ytdaeahhkiilbaaa.putA;rw[UT,U7,QF,e1,hv,Qq (l:=cur.toList.take off++v.cells.toList) (by rw[QF,e1,hv];exact hle),hx,Ug,Rx (by omega),List.drop_take]
 ·unfold Go.Proofs.Ytdaeahhkiilbaaa.putA;rw[Uv,QF,QF,e1,RK,hv,hA];omega
def sS:Fl Qa where
 K:=1
 cs x:=[.string x]
 pos:=by decide
 len _:=rfl
 one _:=fun u hu=>by obtain rfl:=Rj.1 hu;rfl
theorem zp {P:Program}{ρ:Env}{t e:TypeId}{K bytes:Nat}(ht:zV P t=some (e,K,bytes)){x y:Operand}{o:Oper}{kd:IntKind}{p:Qc}(b q n c k:Nat)(hp:p=some ⟨b,q,none⟩)(ho:o.op=.indexAddr t x y)(hx:ev ρ x=.slice p n c)(hy:ev ρ y=.int kd (k:Int))(hk:k<n):
 ∀w,(execOp (ev ρ) o).run P w=.ok (.value (.pointer (some ⟨b,q+k*K,none⟩))) w:=by
 subst hp;exact vX ht b q n c k ho hx hy hk
section
variable {α:Type}{S:Fl α}
def AtF (S:Fl α)(w:World)(p:Qc)(n:Nat)(L:List α):Prop:=n=L.length/\(L=[]\/∃b off C T fz,p=some ⟨b,off,none⟩/\w.heap[b]? =some (.cells C T fz)/\qh S C off L)
theorem AtF.call {w w':World}{p:Qc}{n:Nat}{L:List α}(h:AtF S w p n L)(hb:Below w.heap.size w w'):AtF S w' p n L:=by
 obtain⟨h1,h2⟩:=h;refine⟨h1,h2.imp id ?_⟩;rintro⟨b,off,C,T,fz,e,hh,hr⟩;exact⟨b,off,C,T,fz,e,by rw[hb.block b (zj hh)];exact hh,hr⟩
theorem AtF.take {w:World}{p:Qc}{n:Nat}{L:List α}(h:AtF S w p n L)(k:Nat)(hk:k<=n):AtF S w p k (L.take k):=by
 obtain⟨h1,h2⟩:=h;refine⟨by rw[Qw];omega,?_⟩;rcases h2 with rfl|⟨b,off,C,T,fz,e,hh,hr⟩
 ·exact .inl (by simp)
 ·exact .inr ⟨b,off,C,T,fz,e,hh,hr.take k⟩
theorem zw.atF {ty:TypeId}{p:Qc}{n c:Nat}{row:Qb}{L:List α}(h:zw S ty p n c row L){B:Nat}{w0 w:World}{l:Qb}(hS:St B w0 w l)(hl: ∀e∈row,e∈l):AtF S w p n L:=by
 rcases h with⟨rfl,rfl,rfl,rfl,rfl⟩|⟨b,cur,rfl,rfl,hr⟩
 ·exact⟨rfl,.inl rfl⟩
 ·exact⟨hr.lenF.symm,.inr ⟨b,0,cur,ty,(0,0),rfl,(hS.own _ (hl _ (Rj.2 rfl))).2,hr.rowAt⟩⟩
def yd (p:Qc)(n c:Nat):Prop:=(p=none/\n=0/\c=0)\/((∃a,p=some a)/\n<=c)
theorem yd.cut {p:Qc}{n c k:Nat}(h:yd p n c)(hk:k<=n):yd p k c:=by
 rcases h with⟨rfl,rfl,rfl⟩|⟨h1,h2⟩
 ·exact .inl ⟨rfl,by omega,rfl⟩
 ·exact .inr ⟨h1,by omega⟩
theorem xJ {P:Program}{ρ:Env}{t e:TypeId}{size bytes:Nat}(ht:zV P t=some (e,size,bytes)){x y:Operand}{o:Oper}{kd:IntKind}{p:Qc}{n c k:Nat}(h:yd p n c)(hk:k<=n)(ho:o.op=.slice t x none (some y) none)(hx:ev ρ x=.slice p n c)(hy:ev ρ y=.int kd (k:Int)):
 ∀w,(execOp (ev ρ) o).run P w=.ok (.value (.slice p k c)) w:=fun w=>by
 rcases h with⟨rfl,rfl,rfl⟩|⟨⟨a,rfl⟩,h2⟩
 ·obtain rfl:k=0:=by omega
  obtain⟨it,z,hu,hi,hz,hsz,hby,hzs,h0⟩:=yM ht;have hS:(sizeOf e).run P w=.ok size w:=by simp[sizeOf,typeInfo,hi,hsz]
  unfold execOp;simp[ho,hx,hy,UD,UL,Uc,Ui,asIntOf,run_underlying hu,hS]
 ·exact zb7 ht a n c k ho hx hy (by omega) w
theorem uL {P:Program}{ρ:Env}{w w0:World}{B:Nat}{bx n c mc e:Nat}{p:Qc}{row Z:Qb}{M0:List α}{y:α}(HS:St B w0 w ((bx,.cells (S.cs y).toArray e)::(row++Z)))(hrow:zw S e p n c row M0)
 {t bytes:Nat} {s x:Operand} {o:Oper} (ht:zV P t=some (e,S.K,bytes)) (ho:o.op=yN t s x) (hs:ev ρ s=.slice p n c) (hx:ev ρ x=Qf bx 1 mc) (hb:(n+1)*bytes<=0x800000000000) (hm:n+1<=maxLen):
 ∃b' cap' cur' w',(execOp (ev ρ) o).run P w=.ok (.value (Qf b' (n+1) cap')) w'/\St B w0 w' ((b',.cells cur' e)::Z)/\Rw S.K cur' cap' (n+1) (cellsF S (M0++ [y])):=by
 have hY:(S.cs y).toArray.size=S.K:=by rw[Uv,S.len]
 have hone: ∀u∈(S.cs y).toArray.toList,u.oneCell'=true:=fun u hu=>S.one y u (by simpa using hu);rcases hrow with⟨rfl,rfl,rfl,rfl,rfl⟩ | ⟨b,cur,rfl,rfl,hrw⟩
 ·obtain⟨b',cap',cur',w',hrun,HS',hr'⟩:=uD (k:=0) HS ht ho hs hx rfl hY hone hb;refine⟨b',cap',cur',w',hrun,HS'.sub (Qx _ (QB ..)),?_⟩;rw[xa];exact hr'
 ·obtain⟨b',cap',cur',w',hrun,HS',hr'⟩:=uC (j:=1) (k:=0) HS ht ho hs rfl hrw hx rfl hY hone hb hm;refine⟨b',cap',cur',w',hrun,HS'.sub (QB ..),?_⟩;rw[xa];exact hr'
end
section
variable {P:Program}{N:Nat}{ops:Array Oper}{K:Env->World->Prop}{ρ:Env}{w w0:World}{i B:Nat}{r:List Nat}{l:Qb}
theorem jA (HS:St B w0 w l)(d:Option Nat)(V:Nat->Value)(C:Qd)(T:TypeId)(h:opv P ops i ρ w=some (d,true,.ok (.value (V w.heap.size)) (w.alloc (.cells C T))))(hd:dOK d N=true)
 (kk: ∀b w',St B w0 w' ((b,.cells C T)::l)->WPs P N ops K r (zm ρ d (V b)) w'):WPs P N ops K (i::r) ρ w:=by
 obtain⟨o,ho,rfl,hw,hr⟩:=yh h;refine WPo.run ho hw fun a ha=>?_;rw[hr,Rs];exact⟨_,ha.put _ (zS hd) _,kk w.heap.size _ (HS.alloc _)⟩
end
section
open Go.ChangeShapes Go.WideShapes Go.ChangeAt
theorem zci {C:Qd}{o m:Nat}{l:List Value}(hl:l.length=m)(hm:0<m)(h: ∀j,j<m->C[o+j]? =l[j]?):o+m<=C.size/\C.extract o (o+m)=l.toArray:=by
 have hs:o+m<=C.size:=by
  have h1:=h (m-1) (by omega);rw[Ql (by omega)]at h1;have:=(Array.getElem?_eq_some_iff.1 h1).1;omega
 refine⟨hs,?_⟩;apply Array.toList_inj.1;apply List.ext_getElem?;intro i;rw[Array.getElem?_toList,Array.getElem?_extract,UT];by_cases hi:i<m
 ·rw[if_pos (by omega),h i hi]
 ·rw[if_neg (by omega),List.getElem?_eq_none (by omega)]
section
variable {H:Type}{enc:TypeId×Value->H}{W:World}{sp:Nat->Bool}{held:Bool}
theorem zcj {a:Addr}{v:Value}(h:W.cell? a=some v):a=⟨a.block,a.off,none⟩/\∃C T fz,W.heap[a.block]? =some (.cells C T fz)/\C[a.off]? =some v:=by
 obtain⟨b,o,sp⟩:=a;unfold World.cell? at h;split at h
 ·rename_i C T fz hh
  cases sp with
  | none=>simp at h;exact⟨rfl,C,T,fz,hh,h⟩
  | some x=>simp at h
 ·cases h
theorem zck {b o:Nat}{C:Qd}{T:TypeId}{fz:Nat×Nat}{v:Option Value}(hh:W.heap[b]? =some (.cells C T fz))(h:W.cell? ⟨b,o,none⟩=v):C[o]? =v:=by
 unfold World.cell? at h;simp only[hh]at h;simpa using h
theorem uM {a:Int}(h:(Lit.int .u64 a).wf=true):∃n:Nat,n<0x10000000000000000/\a=((n:Nat):Int):=by
 have h2:0<=a/\a<0x10000000000000000:=by
  simp[Lit.wf,IntKind.min,IntKind.max,IntKind.signed,IntKind.bits]at h;omega
 exact⟨a.toNat,by omega,by omega⟩
theorem kY {α:Type}{S:Fl α}{ok:α->Prop}{st et:TypeId}(hst:Try.prog.underlying st=some (.slice et))(hc:Try.prog.cellsOf et=S.K)(hone: ∀(fuel:Nat) (cs:List Value) (x:DataW H×List MemPlace),QP enc Try.prog W 0 sp held fuel et cs=some x->∃a:α,cs=S.cs a/\ok a)
 {fuel:Nat} {c0:Value} {x:DataW H×List MemPlace} (hf:QP enc Try.prog W 0 sp held fuel st [c0]=some x):
 ∃(q:Qc) (n c:Nat) (L:List α),c0=.slice q n c/\yd q n c/\(∀x∈L,ok x)/\AtF S W q n L:=by
 rcases DataW.trod_slice hst hf with⟨hc,hx⟩|⟨a,len0,cap0,elems,rest,n',rfl,hc',hx,_,hlc,hcm,hel,hels,_,_⟩
 ·obtain rfl:c0=.slice none 0 0:=by simpa using hc
  exact⟨none,0,0,[],rfl,.inl ⟨rfl,rfl,rfl⟩,(fun _ h=>nomatch h),rfl,.inl rfl⟩
 ·obtain rfl:c0=.slice (some a) len0 cap0:=by simpa using hc'
  have rows: ∀q,q<=len0->∃L:List α,L.length=q/\(∀x∈L,ok x)/\ ∀(i:Nat) (z:α),L[i]? =some z->W.cells? 0 (a.add (i*S.K)) S.K=some (S.cs z):=by
   intro q
   induction q with
   | zero=>exact fun _=>⟨[],rfl,(fun _ h=>nomatch h),fun i z h=>by simp at h⟩
   | succ q ihq=>
    intro hq;obtain⟨L,hL,hk,hcc⟩:=ihq (by omega);have hi:=hels q (by omega);rw[hc]at hi;have hlt:q<elems.length:=by omega
    rw[Ql hlt]at hi;obtain⟨cs',hcs,ht⟩:=Option.bind_eq_some_iff.1 hi;obtain⟨nd,rfl,hnd⟩:=hone n' cs' _ ht;refine⟨L++ [nd],by simp[hL],fun x hx=>?_,fun i z hz=>?_⟩
    ·rcases Ut.1 hx with hx|hx
     ·exact hk x hx
     ·rw[Rj.1 hx];exact hnd
    by_cases hiq:i<L.length
    ·rw[List.getElem?_append_left hiq]at hz;exact hcc i z hz
    ·rw[List.getElem?_append_right (by omega)]at hz;have:i-L.length=0:=by
      have:=(Qt.1 hz).1;simp at this;omega
     rw[this]at hz;simp at hz;subst hz;obtain rfl:i=q:=by omega
     exact hcs
  obtain⟨L,hL,hk,hcl⟩:=rows len0 (Qs _);refine⟨some a,len0,cap0,L,rfl,.inr ⟨⟨a,rfl⟩,hlc⟩,hk,hL.symm,?_⟩;cases L with
  | nil=>exact .inl rfl
  | cons z0 L0=>
   have f0:=(World.cells?_some (hcl 0 z0 rfl)).2.2 0 S.pos;rw[Nat.zero_mul]at f0;have e0:(a.add 0).add 0=a:=rfl;rw[e0,Ql (by rw[S.len];exact S.pos)]at f0;obtain⟨ea,C,T,fz,hh,hC0⟩:=zcj f0;refine .inr ⟨a.block,a.off,C,T,fz,congrArg some ea,hh,fun i z hz=>?_⟩;refine zci (S.len z) S.pos fun j hj=>?_;have h9:=(World.cells?_some (hcl i z hz)).2.2 j hj;rw[ea,qf,qf]at h9;exact zck hh h9
theorem uN {α:Type}{S:Fl α}{ok:α->Prop}{st et:TypeId}(hst:Try.prog.underlying st=some (.slice et))(hc:Try.prog.cellsOf et=S.K)(hone: ∀(fuel:Nat) (cs:List Value) (x:DataW H×List MemPlace),QP enc Try.prog W 0 sp held fuel et cs=some x->∃a:α,cs=S.cs a/\ok a)
 {v:Value} {d:DataW H} {p:List MemPlace} {base:Nat} (hv:Vd Try.prog W .any base st v) (h:DataW.Trod enc Try.prog W 0 sp held st v d p):
 ∃(q:Qc) (n c:Nat) (L:List α),v=.slice q n c/\yd q n c/\(∀x∈L,ok x)/\AtF S W q n L:=by
 obtain⟨ao,len0,cap0,rfl⟩:=okWide_slice hst hv;obtain⟨fuel,hf⟩:=h;exact kY hst hc hone (show QP enc Try.prog W 0 sp held fuel st [.slice ao len0 cap0]=some (d,p) from hf)
end
end
def Wd (x:Int):Prop:=0<=x/\x<0x10000000000000000
def Bt (c:Int):Prop:=0<=c/\c<=1
def w0 (n:Nat):Int:=((n%0x10000000000000000:Nat):Int)
def w1 (n:Nat):Int:=((n / 0x10000000000000000%0x10000000000000000:Nat):Int)
def w2 (n:Nat):Int:=((n / 0x100000000000000000000000000000000%0x10000000000000000:Nat):Int)
def w3 (n:Nat):Int:=((n / 0x1000000000000000000000000000000000000000000000000%0x10000000000000000:Nat):Int)
def big:Nat:=0x10000000000000000000000000000000000000000000000000000000000000000
def mk4 (a b c d:Int):Nat:=(a+0x10000000000000000*b+0x100000000000000000000000000000000*c+0x1000000000000000000000000000000000000000000000000*d).toNat
theorem wd0 (n:Nat):Wd (w0 n):=by unfold Wd w0;omega
theorem wd1 (n:Nat):Wd (w1 n):=by unfold Wd w1;omega
theorem wd2 (n:Nat):Wd (w2 n):=by unfold Wd w2;omega
theorem wd3 (n:Nat):Wd (w3 n):=by unfold Wd w3;omega
theorem xc {a b c d:Int}(ha:Wd a)(hb:Wd b)(hc:Wd c)(hd:Wd d):mk4 a b c d<big:=by
 unfold Wd at*;unfold mk4 big;omega
theorem xK {a b c d:Int}(ha:Wd a)(hb:Wd b)(hc:Wd c)(hd:Wd d):w0 (mk4 a b c d)=a:=by
 unfold Wd at*;unfold mk4 w0;omega
theorem xL {a b c d:Int}(ha:Wd a)(hb:Wd b)(hc:Wd c)(hd:Wd d):w1 (mk4 a b c d)=b:=by
 unfold Wd at*;unfold mk4 w1;omega
theorem xM {a b c d:Int}(ha:Wd a)(hb:Wd b)(hc:Wd c)(hd:Wd d):w2 (mk4 a b c d)=c:=by
 unfold Wd at*;unfold mk4 w2;omega
theorem xN {a b c d:Int}(ha:Wd a)(hb:Wd b)(hc:Wd c)(hd:Wd d):w3 (mk4 a b c d)=d:=by
 unfold Wd at*;unfold mk4 w3;omega
theorem qV (n:Nat)(h:n<big):(n:Int)=w0 n+0x10000000000000000*w1 n+0x100000000000000000000000000000000*w2 n+0x1000000000000000000000000000000000000000000000000*w3 n:=by
 unfold big at h;unfold w0 w1 w2 w3;omega
theorem zcl {a b c d:Int}(ha:Wd a)(hb:Wd b)(hc:Wd c)(hd:Wd d):∃n:Nat,n<big/\a=w0 n/\b=w1 n/\c=w2 n/\d=w3 n:=
 ⟨mk4 a b c d,xc ha hb hc hd,(xK ha hb hc hd).symm,(xL ha hb hc hd).symm,(xM ha hb hc hd).symm,(xN ha hb hc hd).symm⟩
theorem uO {a b c d:Int}{n:Nat}(ha:Wd a)(hb:Wd b)(hc:Wd c)(hd:Wd d)
 (h:(n:Int)=a+0x10000000000000000*b+0x100000000000000000000000000000000*c+0x1000000000000000000000000000000000000000000000000*d):
 a=w0 n/\b=w1 n/\c=w2 n/\d=w3 n:=by
 have e:n=mk4 a b c d:=by unfold mk4;omega
 subst e;exact⟨(xK ha hb hc hd).symm,(xL ha hb hc hd).symm,(xM ha hb hc hd).symm,(xN ha hb hc hd).symm⟩
theorem zcm {n m:Nat}(hn:n<big)(hm:m<big)(h0:w0 n=w0 m)(h1:w1 n=w1 m)(h2:w2 n=w2 m)(h3:w3 n=w3 m):n=m:=by
 have a:=qV n hn;have b:=qV m hm;rw[h0,h1,h2,h3]at a;omega
def jB (x y c s d:Int):Prop:=x+y+c=s+0x10000000000000000*d/\Wd s/\Bt d
def jC (x y c s d:Int):Prop:=x-y-c=s-0x10000000000000000*d/\Wd s/\Bt d
def ov (a b:Nat):Bool:=decide (big<=a+b)
def sm (a b:Nat):Nat:=(a+b)%big
def lo (a b:Nat):Bool:=decide (a<b)
def df (a b:Nat):Nat:=(a+big-b)%big
theorem zcn {A B:Nat}(hA:A<big)(hB:B<big){s0 c0 s1 c1 s2 c2 s3 c3:Int}(h0:jB (w0 A) (w0 B) 0 s0 c0)(h1:jB (w1 A) (w1 B) c0 s1 c1)(h2:jB (w2 A) (w2 B) c1 s2 c2)(h3:jB (w3 A) (w3 B) c2 s3 c3):
 (s0=w0 (sm A B)/\s1=w1 (sm A B)/\s2=w2 (sm A B)/\s3=w3 (sm A B))/\(c3==1)=ov A B:=by
 have a:=qV A hA;have b:=qV B hB;obtain⟨e0,d0,_⟩:=h0;obtain⟨e1,d1,_⟩:=h1;obtain⟨e2,d2,_⟩:=h2;obtain⟨e3,d3,k3⟩:=h3;have key:(A:Int)+B=s0+0x10000000000000000*s1+0x100000000000000000000000000000000*s2+0x1000000000000000000000000000000000000000000000000*s3+0x10000000000000000000000000000000000000000000000000000000000000000*c3:=by omega
 have lt:=xc d0 d1 d2 d3;have em:((mk4 s0 s1 s2 s3:Nat):Int)=s0+0x10000000000000000*s1+0x100000000000000000000000000000000*s2+0x1000000000000000000000000000000000000000000000000*s3:=by
  unfold Wd at*;unfold mk4;omega
 constructor
 ·refine uO d0 d1 d2 d3 ?_;rw[<-em];unfold sm;unfold big at*;unfold Bt at*;omega
 ·unfold ov;rw[RS];simp only[beq_iff_eq,decide_eq_true_eq];unfold big at*;unfold Bt at*;omega
theorem zco {A B:Nat}(hA:A<big)(hB:B<big){s0 c0 s1 c1 s2 c2 s3 c3:Int}(h0:jC (w0 A) (w0 B) 0 s0 c0)(h1:jC (w1 A) (w1 B) c0 s1 c1)(h2:jC (w2 A) (w2 B) c1 s2 c2)(h3:jC (w3 A) (w3 B) c2 s3 c3):
 (s0=w0 (df A B)/\s1=w1 (df A B)/\s2=w2 (df A B)/\s3=w3 (df A B))/\(c3==1)=lo A B:=by
 have a:=qV A hA;have b:=qV B hB;obtain⟨e0,d0,_⟩:=h0;obtain⟨e1,d1,_⟩:=h1;obtain⟨e2,d2,_⟩:=h2;obtain⟨e3,d3,k3⟩:=h3;have key:(A:Int)-B=s0+0x10000000000000000*s1+0x100000000000000000000000000000000*s2+0x1000000000000000000000000000000000000000000000000*s3-0x10000000000000000000000000000000000000000000000000000000000000000*c3:=by omega
 have lt:=xc d0 d1 d2 d3;have em:((mk4 s0 s1 s2 s3:Nat):Int)=s0+0x10000000000000000*s1+0x100000000000000000000000000000000*s2+0x1000000000000000000000000000000000000000000000000*s3:=by
  unfold Wd at*;unfold mk4;omega
 constructor
 ·refine uO d0 d1 d2 d3 ?_;rw[<-em];unfold df;unfold big at*;unfold Bt at*;omega
 ·unfold lo;rw[RS];simp only[beq_iff_eq,decide_eq_true_eq];unfold big at*;unfold Bt at*;omega
end Go.Proofs.Ytdaeahhkiilbaaa
namespace Go.Proofs.Ec
section
variable {F:Type}[Lean.Grind.Field F]
variable [DecidableEq F]
end
end Go.Proofs.Ec
namespace Go.Proofs.Ytdaeahhkiilbaaa
def PrP (p:Nat):Prop:=1<p/\ ∀d,d∣p->d=1\/d=p
theorem zcp {n:Nat} : ∀k,(∃d,1<d/\d<=k/\d∣n)->∃r,1<r/\r∣n/\ ∀d,1<d->d∣n->r<=d
 | 0,⟨d,h1,h2,_⟩=>by omega
 | k+1,⟨d,h1,h2,h3⟩=>by
  by_cases h:∃d,1<d/\d<=k/\d∣n
  ·exact zcp k h
  ·have hd:d=k+1:=by
    rcases U4 k d with h' | h'
    ·omega
    ·exact absurd ⟨d,h1,h',h3⟩ h
   refine⟨d,h1,h3,fun e he hen=>?_⟩;rcases U4 e d with h' | h'
   ·exact absurd ⟨e,he,by omega,hen⟩ h
   ·exact h'
def row (a r:Nat):Nat->List Nat
 | 0=>[]
 | n+1=>a*(n+1)%r::row a r n
end Go.Proofs.Ytdaeahhkiilbaaa
namespace Go.Proofs.Zm
open Go.Proofs.Ytdaeahhkiilbaaa
class PrM (M:Nat):Prop where
 pr:PrP M
 two:2<M
section
variable {M:Nat}[hM:PrM M]
end
end Go.Proofs.Zm
namespace Go.Proofs.Ytdaeahhkiilbaaa
section
open Go.ChangeShapes Go.WideShapes Go.ChangeAt
@[reducible] def uv (n:Nat):Value:=.agg #[.int .u64 (w0 n),.int .u64 (w1 n),.int .u64 (w2 n),.int .u64 (w3 n)]
theorem jD {x y c:Int}(hx:Wd x)(hy:Wd y)(hc:Bt c):∃s d,(∀w,(callFunc 105 #[.int .u64 x,.int .u64 y,.int .u64 c]).run Try.prog w=.ok (.value (.tuple #[.int .u64 s,.int .u64 d])) w)/\jB x y c s d:=by
 obtain⟨hx0,hx1⟩:=hx;obtain⟨hy0,hy1⟩:=hy;obtain⟨hc0,hc1⟩:=hc;obtain⟨X,rfl⟩:=Ra hx0;obtain⟨Y,rfl⟩:=Ra hy0;obtain⟨C,rfl⟩:=Ra hc0;refine⟨(((X+Y+C)%0x10000000000000000:Nat):Int),(((X+Y+C) / 0x10000000000000000:Nat):Int),fun w=>?_,?_⟩
 ·rw[run_callFunc_extern Try.func105 (by kernel_rfl) (by kernel_rfl) (by kernel_rfl) (e:=add64Entry) (by kernel_rfl),run_add64 X Y C (by omega) (by omega) (by omega) (by omega)];simp only[Result.andThen];congr 5<;>omega
 ·unfold jB Wd Bt;omega
theorem xO {x y c:Int}(hx:Wd x)(hy:Wd y)(hc:Bt c):∃s d,(∀w,(callFunc 102 #[.int .u64 x,.int .u64 y,.int .u64 c]).run Try.prog w=.ok (.value (.tuple #[.int .u64 s,.int .u64 d])) w)/\jC x y c s d:=by
 obtain⟨hx0,hx1⟩:=hx;obtain⟨hy0,hy1⟩:=hy;obtain⟨hc0,hc1⟩:=hc;obtain⟨X,rfl⟩:=Ra hx0;obtain⟨Y,rfl⟩:=Ra hy0;obtain⟨C,rfl⟩:=Ra hc0;refine⟨(((X+0x10000000000000000-Y-C)%0x10000000000000000:Nat):Int),((if X<Y+C then 1 else 0:Nat):Int),fun w=>?_,?_⟩
 ·rw[run_callFunc_extern Try.func102 (by kernel_rfl) (by kernel_rfl) (by kernel_rfl) (e:=sub64Entry) (by kernel_rfl),run_sub64 X Y C (by omega)];rfl
 ·unfold jC Wd Bt;split<;>omega
theorem ix0 (x0 x1 x2 x3:Value)(w:World):(UX 64 (.agg #[x0,x1,x2,x3]) (.int .i64 0)).run Try.prog w=.ok x0 w:=by kernel_rfl
theorem ix1 (x0 x1 x2 x3:Value)(w:World):(UX 64 (.agg #[x0,x1,x2,x3]) (.int .i64 1)).run Try.prog w=.ok x1 w:=by kernel_rfl
theorem ix2 (x0 x1 x2 x3:Value)(w:World):(UX 64 (.agg #[x0,x1,x2,x3]) (.int .i64 2)).run Try.prog w=.ok x2 w:=by kernel_rfl
theorem ix3 (x0 x1 x2 x3:Value)(w:World):(UX 64 (.agg #[x0,x1,x2,x3]) (.int .i64 3)).run Try.prog w=.ok x3 w:=by kernel_rfl
theorem zcq (n:Int)(w:World):Calls Try.prog 104 #[.int .u64 n] w fun e w'=>e=.returned (.agg #[.int .u64 n,wZ,wZ,wZ])/\Below w.heap.size w w':=by
 go_enter Try.func104,Try.ntmps104
 go_wp2
 go_returns
 exact⟨rfl,by go_grown⟩
theorem zcr (A B:Nat)(hA:A<big)(hB:B<big)(w:World):Calls Try.prog 101 #[uv A,uv B] w fun e w'=>e=.returned (.tuple #[uv (sm A B),.bool (ov A B)])/\Below w.heap.size w w':=by
 obtain⟨s0,c0,r0,e0⟩:=jD (wd0 A) (wd0 B) (c:=0) (by unfold Bt;omega);obtain⟨s1,c1,r1,e1⟩:=jD (wd1 A) (wd1 B) e0.2.2;obtain⟨s2,c2,r2,e2⟩:=jD (wd2 A) (wd2 B) e1.2.2;obtain⟨s3,c3,r3,e3⟩:=jD (wd3 A) (wd3 B) e2.2.2;obtain⟨⟨q0,q1,q2,q3⟩,q4⟩:=zcn hA hB e0 e1 e2 e3;clear e0 e1 e2 e3;unfold uv;rw[<-q0,<-q1,<-q2,<-q3,<-q4];clear q0 q1 q2 q3 q4;have i0:=ix0;have i1:=ix1;have i2:=ix2;have i3:=ix3
 go_enter Try.func101,Try.ntmps101
 go_wp2
 go_rounds 5
 go_returns
 exact⟨rfl,by go_grown⟩
theorem zcs (A B:Nat)(hA:A<big)(hB:B<big)(w:World):Calls Try.prog 99 #[uv A,uv B] w fun e w'=>e=.returned (.tuple #[uv (df A B),.bool (lo A B)])/\Below w.heap.size w w':=by
 obtain⟨s0,c0,r0,e0⟩:=xO (wd0 A) (wd0 B) (c:=0) (by unfold Bt;omega);obtain⟨s1,c1,r1,e1⟩:=xO (wd1 A) (wd1 B) e0.2.2;obtain⟨s2,c2,r2,e2⟩:=xO (wd2 A) (wd2 B) e1.2.2;obtain⟨s3,c3,r3,e3⟩:=xO (wd3 A) (wd3 B) e2.2.2;obtain⟨⟨q0,q1,q2,q3⟩,q4⟩:=zco hA hB e0 e1 e2 e3;clear e0 e1 e2 e3;unfold uv;rw[<-q0,<-q1,<-q2,<-q3,<-q4];clear q0 q1 q2 q3 q4;have i0:=ix0;have i1:=ix1;have i2:=ix2;have i3:=ix3
 go_enter Try.func99,Try.ntmps99
 go_wp2
 go_rounds 5
 go_returns
 exact⟨rfl,by go_grown⟩
def mH (x y:Int):Int:=x*y / 0x10000000000000000
def mL (x y:Int):Int:=x*y%0x10000000000000000
theorem zct (x y:Nat)(hx:x<0x10000000000000000)(hy:y<0x10000000000000000)(w:World):
 Calls Try.prog 106 #[.int .u64 x,.int .u64 y] w fun e w'=>e=.returned (.tuple #[.int .u64 ((x*y / 0x10000000000000000:Nat):Int),.int .u64 ((x*y%0x10000000000000000:Nat):Int)])/\w=w':=by
 obtain⟨bd,bt,bw,hhi⟩:=Lib.mul64_hi x y hx hy;have ba:=Lib.half_mul_le (a:=x / 4294967296) (b:=y / 4294967296) (by omega) (by omega);have bb:=Lib.half_mul_le (a:=x / 4294967296) (b:=y%4294967296) (by omega) (by omega);have bc:=Lib.half_mul_le (a:=x%4294967296) (b:=y / 4294967296) (by omega) (by omega);have ba':x / 4294967296*(y / 4294967296)<0x10000000000000000:=by omega
 have bb':x / 4294967296*(y%4294967296)<0x10000000000000000:=by omega
 have bc':x%4294967296*(y / 4294967296)<0x10000000000000000:=by omega
 have bh1:x / 4294967296*(y / 4294967296)+(x / 4294967296*(y%4294967296)+x%4294967296*(y%4294967296) / 4294967296) / 4294967296<0x10000000000000000:=by omega
 have bh:x / 4294967296*(y / 4294967296)+(x / 4294967296*(y%4294967296)+x%4294967296*(y%4294967296) / 4294967296) / 4294967296+((x / 4294967296*(y%4294967296)+x%4294967296*(y%4294967296) / 4294967296)%4294967296+x%4294967296*(y / 4294967296)) / 4294967296<0x10000000000000000:=by omega
 go_enter Try.func106,Try.ntmps106
 go_wp2
 simp only[Mul64.maskN x hx,Mul64.maskN y hy,Mul64.divN,Mul64.mulN,Mul64.addN,Mul64.wrapN _ bd,Mul64.wrapN _ bb',Mul64.wrapN _ bt,Mul64.maskN _ bt,Mul64.wrapN _ bc',Mul64.wrapN _ bw,Mul64.wrapN _ ba',Mul64.wrapN _ bh1,Mul64.wrapN _ bh,Mul64.wrapM (x*y)];rw[hhi]
 go_ret2
 exact⟨rfl,rfl⟩
theorem yj {x y:Int}(hx:Wd x)(hy:Wd y)(w:World):
 Calls Try.prog 106 #[.int .u64 x,.int .u64 y] w fun e w'=>e=.returned (.tuple #[.int .u64 (mH x y),.int .u64 (mL x y)])/\w=w':=by
 obtain⟨hx0,hx1⟩:=hx;obtain⟨hy0,hy1⟩:=hy;obtain⟨X,rfl⟩:=Ra hx0;obtain⟨Y,rfl⟩:=Ra hy0;have e1:mH X Y=((X*Y / 0x10000000000000000:Nat):Int):=by unfold mH;omega
 have e2:mL X Y=((X*Y%0x10000000000000000:Nat):Int):=by unfold mL;omega
 rw[e1,e2];exact zct X Y (by omega) (by omega) w
def ye (x y p c s d:Int):Prop:=x*y+p+c=s+0x10000000000000000*d/\Wd s/\Wd d
theorem yz {x y p c:Int}(hx:Wd x)(hy:Wd y)(hp:Wd p)(hc:Wd c):∃l1 o1 l2 o2,
 (∀w,(callFunc 105 #[.int .u64 (mL x y),.int .u64 p,wZ]).run Try.prog w=.ok (.value (.tuple #[.int .u64 l1,.int .u64 o1])) w)/\
 (∀w,(callFunc 105 #[.int .u64 l1,.int .u64 c,wZ]).run Try.prog w=.ok (.value (.tuple #[.int .u64 l2,.int .u64 o2])) w)/\
 UI.wrap (mH x y+o1)=mH x y+o1/\UI.wrap (mH x y+o1+o2)=mH x y+o1+o2/\ye x y p c l2 (mH x y+o1+o2):=by
 have hm:0<=x*y/\x*y<=0xfffffffffffffffe0000000000000001:=by
  obtain⟨hx0,hx1⟩:=hx;obtain⟨hy0,hy1⟩:=hy;refine⟨Int.mul_nonneg hx0 hy0,?_⟩;have:=Int.mul_le_mul (show x<=0xffffffffffffffff by omega) (show y<=0xffffffffffffffff by omega) hy0 (by omega);omega
 have hL:Wd (mL x y):=by unfold Wd mL;omega
 obtain⟨l1,o1,r1,e1,d1,b1⟩:=jD hL hp (c:=0) (by unfold Bt;omega);obtain⟨l2,o2,r2,e2,d2,b2⟩:=jD d1 hc (c:=0) (by unfold Bt;omega);have k1:0<=mH x y+o1/\mH x y+o1+o2<=0xffffffffffffffff:=by
  unfold Wd Bt at*;unfold mH mL at*;omega
 have k2:0<=o2:=b2.1;refine⟨l1,o1,l2,o2,r1,r2,?_,?_,?_⟩
 ·rw[UU];omega
 ·rw[UU];omega
 ·refine⟨?_,d2,?_⟩
  ·unfold mH mL at*;omega
  ·unfold Wd;omega
def pl (A B:Nat):Nat:=A*B%big
def ph (A B:Nat):Nat:=A*B / big
theorem xP {a b0 b1 b2 b3 p0 p1 p2 p3 q0 q1 q2 q3 c0 c1 c2 c3:Int}(h0:ye a b0 p0 0 q0 c0)(h1:ye a b1 p1 c0 q1 c1)(h2:ye a b2 p2 c1 q2 c2)(h3:ye a b3 p3 c2 q3 c3):
 a*(b0+0x10000000000000000*b1+0x100000000000000000000000000000000*b2+0x1000000000000000000000000000000000000000000000000*b3)+p0+0x10000000000000000*p1+0x100000000000000000000000000000000*p2+0x1000000000000000000000000000000000000000000000000*p3=q0+0x10000000000000000*q1+0x100000000000000000000000000000000*q2+0x1000000000000000000000000000000000000000000000000*q3+0x10000000000000000000000000000000000000000000000000000000000000000*c3:=by
 have e:a*(b0+0x10000000000000000*b1+0x100000000000000000000000000000000*b2+0x1000000000000000000000000000000000000000000000000*b3)=a*b0+0x10000000000000000*(a*b1)+0x100000000000000000000000000000000*(a*b2)+0x1000000000000000000000000000000000000000000000000*(a*b3):=by
  rw[Int.mul_add,Int.mul_add,Int.mul_add,Int.mul_left_comm a,Int.mul_left_comm a,Int.mul_left_comm a]
 obtain⟨e0,_,_⟩:=h0;obtain⟨e1,_,_⟩:=h1;obtain⟨e2,_,_⟩:=h2;obtain⟨e3,_,_⟩:=h3;rw[e];omega
theorem zcu {A B:Nat}(hA:A<big)(hB:B<big){q00 c00 q01 c01 q02 c02 q03 c03 q10 c10 q11 c11 q12 c12 q13 c13 q20 c20 q21 c21 q22 c22 q23 c23 q30 c30 q31 c31 q32 c32 q33 c33:Int}(m00:ye (w0 A) (w0 B) 0 0 q00 c00)(m01:ye (w0 A) (w1 B) 0 c00 q01 c01)(m02:ye (w0 A) (w2 B) 0 c01 q02 c02)(m03:ye (w0 A) (w3 B) 0 c02 q03 c03)(m10:ye (w1 A) (w0 B) q01 0 q10 c10)(m11:ye (w1 A) (w1 B) q02 c10 q11 c11)(m12:ye (w1 A) (w2 B) q03 c11 q12 c12)(m13:ye (w1 A) (w3 B) c03 c12 q13 c13)(m20:ye (w2 A) (w0 B) q11 0 q20 c20)(m21:ye (w2 A) (w1 B) q12 c20 q21 c21)(m22:ye (w2 A) (w2 B) q13 c21 q22 c22)(m23:ye (w2 A) (w3 B) c13 c22 q23 c23)(m30:ye (w3 A) (w0 B) q21 0 q30 c30)(m31:ye (w3 A) (w1 B) q22 c30 q31 c31)(m32:ye (w3 A) (w2 B) q23 c31 q32 c32)(m33:ye (w3 A) (w3 B) c23 c32 q33 c33):
 (q00=w0 (pl A B)/\q10=w1 (pl A B)/\q20=w2 (pl A B)/\q30=w3 (pl A B))/\q31=w0 (ph A B)/\q32=w1 (ph A B)/\q33=w2 (ph A B)/\c33=w3 (ph A B):=by
 have a:=qV A hA;have b:=qV B hB;have r0:=xP m00 m01 m02 m03;have r1:=xP m10 m11 m12 m13;have r2:=xP m20 m21 m22 m23;have r3:=xP m30 m31 m32 m33;rw[<-b]at r0 r1 r2 r3;have e:(A:Int)*B=w0 A*B+0x10000000000000000*(w1 A*B)+0x100000000000000000000000000000000*(w2 A*B)+0x1000000000000000000000000000000000000000000000000*(w3 A*B):=by
  conv=>lhs;rw[a]
  rw[Int.add_mul,Int.add_mul,Int.add_mul,Int.mul_assoc,Int.mul_assoc,Int.mul_assoc]
 have d0:Wd q00:=m00.2.1;have d1:Wd q10:=m10.2.1;have d2:Wd q20:=m20.2.1;have d3:Wd q30:=m30.2.1;have d4:Wd q31:=m31.2.1;have d5:Wd q32:=m32.2.1;have d6:Wd q33:=m33.2.1;have d7:Wd c33:=m33.2.2;have key:(A:Int)*B=q00+0x10000000000000000*q10+0x100000000000000000000000000000000*q20+0x1000000000000000000000000000000000000000000000000*q30+0x10000000000000000000000000000000000000000000000000000000000000000*q31+0x100000000000000000000000000000000000000000000000000000000000000000000000000000000*q32+0x1000000000000000000000000000000000000000000000000000000000000000000000000000000000000000000000000*q33+0x10000000000000000000000000000000000000000000000000000000000000000000000000000000000000000000000000000000000000000*c33:=by omega
 clear r0 r1 r2 r3 e;have lt1:=xc d0 d1 d2 d3;have lt2:=xc d4 d5 d6 d7;have em1:((mk4 q00 q10 q20 q30:Nat):Int)=q00+0x10000000000000000*q10+0x100000000000000000000000000000000*q20+0x1000000000000000000000000000000000000000000000000*q30:=by unfold Wd at d0 d1 d2 d3;unfold mk4;omega
 have em2:((mk4 q31 q32 q33 c33:Nat):Int)=q31+0x10000000000000000*q32+0x100000000000000000000000000000000*q33+0x1000000000000000000000000000000000000000000000000*c33:=by unfold Wd at d4 d5 d6 d7;unfold mk4;omega
 have kn:A*B=mk4 q00 q10 q20 q30+0x10000000000000000000000000000000000000000000000000000000000000000*mk4 q31 q32 q33 c33:=by
  have:((A*B:Nat):Int)=(A:Int)*B:=Va A B;omega
 have k1:pl A B=mk4 q00 q10 q20 q30:=by unfold pl;unfold big at*;omega
 have k2:ph A B=mk4 q31 q32 q33 c33:=by unfold ph;unfold big at*;omega
 rw[k1,k2];exact⟨⟨(xK d0 d1 d2 d3).symm,(xL d0 d1 d2 d3).symm,(xM d0 d1 d2 d3).symm,(xN d0 d1 d2 d3).symm⟩,(xK d4 d5 d6 d7).symm,(xL d4 d5 d6 d7).symm,(xM d4 d5 d6 d7).symm,(xN d4 d5 d6 d7).symm⟩
end
def NR:Nat:=0xfffffffffffffffffffffffffffffffebaaedce6af48a03bbfd25e8cd0364141
def MOK (M:Nat):Prop:=M<big/\big<2*M
theorem qi:MOK NR:=by unfold MOK NR big;omega
def rs (L H M:Nat):Nat:=(L+big*H)%M
theorem uP {L H M:Nat}(h:MOK M):rs L H M<big:=Nat.lt_trans (R2 _ (by unfold MOK big at h;omega)) h.1
theorem xQ {L H M:Nat}(h:MOK M):rs L H M<M:=R2 _ (by unfold MOK big at h;omega)
theorem kZ (A B:Nat):sm A B<big:=R2 _ (by decide)
theorem vb (A B:Nat):df A B<big:=R2 _ (by decide)
theorem uQ (A B:Nat):pl A B<big:=R2 _ (by decide)
theorem zcv {A B:Nat}(hA:A<big)(hB:B<big):ph A B<big:=by
 unfold ph;exact Nat.div_lt_of_lt_mul (Nat.mul_lt_mul'' hA hB)
theorem zcw (A B:Nat):A*B=pl A B+big*ph A B:=by unfold pl ph;exact(Nat.mod_add_div _ _).symm
theorem zcx {l h M:Nat}(hM:MOK M)(hl:l<big)(hh:h<big)(h0:h≠0):
 ∃h',(h'=if ov l (pl h (df 0 M)) then sm (ph h (df 0 M)) 1 else ph h (df 0 M))/\h'<big/\
  sm l (pl h (df 0 M))+big*h'+h*M=l+big*h:=by
 have hs:df 0 M=big-M:=by unfold df;unfold MOK at hM;rw[Qy,QX];omega
 have hk:=zcw h (df 0 M);have hph:ph h (df 0 M)+1<big:=by
  have:ph h (df 0 M)<big-M:=by
   rw[hs];unfold ph;refine Nat.div_lt_of_lt_mul ?_;exact Nat.mul_lt_mul_of_pos_right hh (by unfold MOK at hM;omega)
  unfold MOK at hM;omega
 have hp:=uQ h (df 0 M);have hmul:h*(big-M)+h*M=big*h:=by rw[<-U1,Nat.sub_add_cancel (Nat.le_of_lt hM.1),Nat.mul_comm]
 rw[<-hs]at hmul;refine⟨_,rfl,?_,?_⟩
 ·split
  ·exact kZ _ _
  ·omega
 ·generalize df 0 M=s at*;generalize pl h s=p at*;generalize ph h s=q at*;generalize h*s=hs2 at*;unfold ov sm;by_cases ho:big<=l+p
  ·rw[decide_eq_true ho];simp only[if_true];rw[QX hph];have:(l+p)%big=l+p-big:=by rw[Nat.mod_eq_sub_mod ho,QX (by omega)]
   rw[this,U1,Nat.mul_one];omega
  ·rw[decide_eq_false ho];simp only[Rt,if_false];rw[QX (by omega)];omega
theorem uR {l h l' h' M L H:Nat}(he:l'+big*h'+h*M=l+big*h)(hm:(l+big*h)%M=rs L H M):(l'+big*h')%M=rs L H M:=by
 rw[<-hm,<-he,Nat.add_mul_mod_self_right]
theorem uS {l h l' h' M:Nat}(hM:MOK M)(h0:h≠0)(he:l'+big*h'+h*M=l+big*h):l'+big*h'<l+big*h:=by
 have:0<h*M:=Nat.mul_pos (by omega) (by unfold MOK big at hM;omega);omega
theorem zcy {l M L H:Nat}(hM:MOK M)(hl:l<big)(hm:(l+big*0)%M=rs L H M)(hc:M<=l):df l M=rs L H M:=by
 rw[<-hm];unfold df MOK at*;have h1:(l+big-M)%big=l-M:=by
  have:l+big-M=(l-M)+big:=by omega
  rw[this,Uy,QX (by omega)]
 rw[h1,Us,RB,Nat.mod_eq_sub_mod hc,QX (by omega)]
theorem zcz {l M L H:Nat}(hm:(l+big*0)%M=rs L H M)(hc: ¬M<=l):l=rs L H M:=by
 rw[<-hm,Us,RB,QX (by omega)]
def yu (A B M:Nat):Nat:=(A%M+(M-B%M))%M
theorem zcA {A B M:Nat}(hM:MOK M)(h:lo (rs A 0 M) (rs B 0 M)=true):sm (df (rs A 0 M) (rs B 0 M)) M=yu A B M:=by
 have ha:=xQ (L:=A) (H:=0) hM;have hb:=xQ (L:=B) (H:=0) hM;unfold lo at h;have h:=of_decide_eq_true h;have e1:rs A 0 M=A%M:=by unfold rs;rw[Us,RB]
 have e2:rs B 0 M=B%M:=by unfold rs;rw[Us,RB]
 rw[e1]at ha h⊢;rw[e2]at hb h⊢;unfold yu sm df;unfold MOK at hM;rw[QX (show A%M+big-B%M<big by omega)];have:A%M+big-B%M+M=(A%M+(M-B%M))+big:=by omega
 rw[this,Uy,QX (show A%M+(M-B%M)<big by omega),QX (show A%M+(M-B%M)<M by omega)]
theorem zcB {A B M:Nat}(hM:MOK M)(h:lo (rs A 0 M) (rs B 0 M)=false):df (rs A 0 M) (rs B 0 M)=yu A B M:=by
 have ha:=xQ (L:=A) (H:=0) hM;have hb:=xQ (L:=B) (H:=0) hM;unfold lo at h;have h:=of_decide_eq_false h;have e1:rs A 0 M=A%M:=by unfold rs;rw[Us,RB]
 have e2:rs B 0 M=B%M:=by unfold rs;rw[Us,RB]
 rw[e1]at ha h⊢;rw[e2]at hb h⊢;unfold yu df;unfold MOK at hM;have t1:A%M+big-B%M=(A%M-B%M)+big:=by omega
 have t2:A%M+(M-B%M)=(A%M-B%M)+M:=by omega
 rw[t1,t2,Uy,Uy,QX (show A%M-B%M<big by omega),QX (show A%M-B%M<M by omega)]
theorem uT {A B M:Nat}(h:MOK M):yu A B M<big:=Nat.lt_trans (R2 _ (by unfold MOK big at h;omega)) h.1
end Go.Proofs.Ytdaeahhkiilbaaa
namespace Go.Proofs.Ec
open Go.Proofs.Ytdaeahhkiilbaaa Go.Proofs.Zm
section
variable {F:Type}[Lean.Grind.Field F][DecidableEq F]
structure zcC (b:F):Prop where
 two:(2:F)≠0
 three:(3:F)≠0
 b:b≠0
variable {b:F}(g:zcC b)
include g
end
end Go.Proofs.Ec
namespace Go.Proofs.Ytdaeahhkiilbaaa
section
open Go.ChangeShapes Go.WideShapes Go.ChangeAt
theorem zcD (A B:Nat)(hA:A<big)(hB:B<big)(w:World):Calls Try.prog 103 #[uv A,uv B] w fun e w'=>e=.returned (.tuple #[uv (pl A B),uv (ph A B)])/\Below w.heap.size w w':=by
 have z:Wd 0:=by unfold Wd;omega
 have a0:=wd0 A;have b0:=wd0 B;have a1:=wd1 A;have b1:=wd1 B;have a2:=wd2 A;have b2:=wd2 B;have a3:=wd3 A;have b3:=wd3 B;obtain⟨l00,o00,q00,u00,r00,t00,v00,x00,m00⟩:=yz a0 b0 z z;have dq00:=m00.2.1;have dc00:=m00.2.2;obtain⟨l01,o01,q01,u01,r01,t01,v01,x01,m01⟩:=yz a0 b1 z dc00;have dq01:=m01.2.1;have dc01:=m01.2.2;obtain⟨l02,o02,q02,u02,r02,t02,v02,x02,m02⟩:=yz a0 b2 z dc01;have dq02:=m02.2.1;have dc02:=m02.2.2;obtain⟨l03,o03,q03,u03,r03,t03,v03,x03,m03⟩:=yz a0 b3 z dc02;have dq03:=m03.2.1;have dc03:=m03.2.2;obtain⟨l10,o10,q10,u10,r10,t10,v10,x10,m10⟩:=yz a1 b0 dq01 z;have dq10:=m10.2.1;have dc10:=m10.2.2;obtain⟨l11,o11,q11,u11,r11,t11,v11,x11,m11⟩:=yz a1 b1 dq02 dc10;have dq11:=m11.2.1;have dc11:=m11.2.2;obtain⟨l12,o12,q12,u12,r12,t12,v12,x12,m12⟩:=yz a1 b2 dq03 dc11;have dq12:=m12.2.1;have dc12:=m12.2.2;obtain⟨l13,o13,q13,u13,r13,t13,v13,x13,m13⟩:=yz a1 b3 dc03 dc12;have dq13:=m13.2.1;have dc13:=m13.2.2;obtain⟨l20,o20,q20,u20,r20,t20,v20,x20,m20⟩:=yz a2 b0 dq11 z;have dq20:=m20.2.1;have dc20:=m20.2.2;obtain⟨l21,o21,q21,u21,r21,t21,v21,x21,m21⟩:=yz a2 b1 dq12 dc20;have dq21:=m21.2.1;have dc21:=m21.2.2;obtain⟨l22,o22,q22,u22,r22,t22,v22,x22,m22⟩:=yz a2 b2 dq13 dc21;have dq22:=m22.2.1;have dc22:=m22.2.2;obtain⟨l23,o23,q23,u23,r23,t23,v23,x23,m23⟩:=yz a2 b3 dc13 dc22;have dq23:=m23.2.1;have dc23:=m23.2.2;obtain⟨l30,o30,q30,u30,r30,t30,v30,x30,m30⟩:=yz a3 b0 dq21 z;have dq30:=m30.2.1;have dc30:=m30.2.2;obtain⟨l31,o31,q31,u31,r31,t31,v31,x31,m31⟩:=yz a3 b1 dq22 dc30;have dq31:=m31.2.1;have dc31:=m31.2.2;obtain⟨l32,o32,q32,u32,r32,t32,v32,x32,m32⟩:=yz a3 b2 dq23 dc31;have dq32:=m32.2.1;have dc32:=m32.2.2;obtain⟨l33,o33,q33,u33,r33,t33,v33,x33,m33⟩:=yz a3 b3 dc23 dc32;have dq33:=m33.2.1;have dc33:=m33.2.2;obtain⟨⟨g0,g1,g2,g3⟩,g4,g5,g6,g7⟩:=zcu hA hB m00 m01 m02 m03 m10 m11 m12 m13 m20 m21 m22 m23 m30 m31 m32 m33;clear m00 m01 m02 m03 m10 m11 m12 m13 m20 m21 m22 m23 m30 m31 m32 m33;unfold uv;rw[<-g0,<-g1,<-g2,<-g3,<-g4,<-g5,<-g6,<-g7];clear g0 g1 g2 g3 g4 g5 g6 g7;have i0:=ix0;have i1:=ix1;have i2:=ix2;have i3:=ix3
 go_enter Try.func103,Try.ntmps103
 go_wp2
 refine wp_loop_rounds 5 ?_;rw[rounds_succ]
 go_wp2
 refine wp_loop_rounds 5 ?_;rw[rounds_succ]
 go_wp2_with (go_at_call 106;refine(yj (by assumption) (by assumption) _).mono ?_;rintro e w' ⟨rfl,rfl⟩)
 rw[rounds_succ]
 go_wp2_with (go_at_call 106;refine(yj (by assumption) (by assumption) _).mono ?_;rintro e w' ⟨rfl,rfl⟩)
 rw[rounds_succ]
 go_wp2_with (go_at_call 106;refine(yj (by assumption) (by assumption) _).mono ?_;rintro e w' ⟨rfl,rfl⟩)
 rw[rounds_succ]
 go_wp2_with (go_at_call 106;refine(yj (by assumption) (by assumption) _).mono ?_;rintro e w' ⟨rfl,rfl⟩)
 rw[rounds_succ]
 go_wp2_with (go_at_call 106;refine(yj (by assumption) (by assumption) _).mono ?_;rintro e w' ⟨rfl,rfl⟩)
 rw[rounds_succ]
 go_wp2
 refine wp_loop_rounds 5 ?_;rw[rounds_succ]
 go_wp2_with (go_at_call 106;refine(yj (by assumption) (by assumption) _).mono ?_;rintro e w' ⟨rfl,rfl⟩)
 rw[rounds_succ]
 go_wp2_with (go_at_call 106;refine(yj (by assumption) (by assumption) _).mono ?_;rintro e w' ⟨rfl,rfl⟩)
 rw[rounds_succ]
 go_wp2_with (go_at_call 106;refine(yj (by assumption) (by assumption) _).mono ?_;rintro e w' ⟨rfl,rfl⟩)
 rw[rounds_succ]
 go_wp2_with (go_at_call 106;refine(yj (by assumption) (by assumption) _).mono ?_;rintro e w' ⟨rfl,rfl⟩)
 rw[rounds_succ]
 go_wp2_with (go_at_call 106;refine(yj (by assumption) (by assumption) _).mono ?_;rintro e w' ⟨rfl,rfl⟩)
 rw[rounds_succ]
 go_wp2
 refine wp_loop_rounds 5 ?_;rw[rounds_succ]
 go_wp2_with (go_at_call 106;refine(yj (by assumption) (by assumption) _).mono ?_;rintro e w' ⟨rfl,rfl⟩)
 rw[rounds_succ]
 go_wp2_with (go_at_call 106;refine(yj (by assumption) (by assumption) _).mono ?_;rintro e w' ⟨rfl,rfl⟩)
 rw[rounds_succ]
 go_wp2_with (go_at_call 106;refine(yj (by assumption) (by assumption) _).mono ?_;rintro e w' ⟨rfl,rfl⟩)
 rw[rounds_succ]
 go_wp2_with (go_at_call 106;refine(yj (by assumption) (by assumption) _).mono ?_;rintro e w' ⟨rfl,rfl⟩)
 rw[rounds_succ]
 go_wp2_with (go_at_call 106;refine(yj (by assumption) (by assumption) _).mono ?_;rintro e w' ⟨rfl,rfl⟩)
 rw[rounds_succ]
 go_wp2
 refine wp_loop_rounds 5 ?_;rw[rounds_succ]
 go_wp2_with (go_at_call 106;refine(yj (by assumption) (by assumption) _).mono ?_;rintro e w' ⟨rfl,rfl⟩)
 rw[rounds_succ]
 go_wp2_with (go_at_call 106;refine(yj (by assumption) (by assumption) _).mono ?_;rintro e w' ⟨rfl,rfl⟩)
 rw[rounds_succ]
 go_wp2_with (go_at_call 106;refine(yj (by assumption) (by assumption) _).mono ?_;rintro e w' ⟨rfl,rfl⟩)
 rw[rounds_succ]
 go_wp2_with (go_at_call 106;refine(yj (by assumption) (by assumption) _).mono ?_;rintro e w' ⟨rfl,rfl⟩)
 rw[rounds_succ]
 go_wp2_with (go_at_call 106;refine(yj (by assumption) (by assumption) _).mono ?_;rintro e w' ⟨rfl,rfl⟩)
 rw[rounds_succ]
 go_wp2
 go_region
 all_goals (go_wp2;go_returns;exact⟨rfl,by go_grown⟩)
end
section
open Go.ChangeShapes Go.WideShapes Go.ChangeAt Go.Shelf
end
def len (A:Nat):Nat:=if A=0 then 0 else Nat.log2 A+1
section
open Go.ChangeShapes Go.WideShapes Go.ChangeAt
def cm (A B:Nat):Int:=if A=B then 0 else if A<B then-1 else 1
def cmK (A B k:Nat):Int:=cm (A%0x10000000000000000^k) (B%0x10000000000000000^k)
theorem zcE (A B:Nat):cmK A B 0=0:=by unfold cmK cm;simp[Nat.mod_one]
theorem zcF (a b x y W:Nat)(hx:x<W)(hy:y<W):cm (x+W*a) (y+W*b)=if a<b then-1 else if b<a then 1 else cm x y:=by
 unfold cm;rcases RX a b with h | h | h
 ·have:W*(a+1)<=W*b:=Nat.mul_le_mul_left _ h;rw[U1]at this;rw[if_pos h,if_neg (by omega),if_pos (by omega)]
 ·subst h;have h1:(x+W*a=y+W*a)=(x=y):=by rw[eq_iff_iff];omega
  have h2:(x+W*a<y+W*a)=(x<y):=by rw[eq_iff_iff];omega
  simp only[h1,h2,UB,if_false]
 ·have:W*(b+1)<=W*a:=Nat.mul_le_mul_left _ h;rw[U1]at this;rw[if_neg (by omega),if_pos h,if_neg (by omega),if_neg (by omega)]
def wk (A k:Nat):Nat:=A / 0x10000000000000000^k%0x10000000000000000
theorem zcG (A B k:Nat):cmK A B (k+1)=if wk A k<wk B k then-1 else if wk B k<wk A k then 1 else cmK A B k:=by
 unfold cmK wk;rw[Nat.pow_succ,Nat.mod_mul,Nat.mod_mul,zcF _ _ _ _ _ (R2 _ (Nat.pow_pos (by omega))) (R2 _ (Nat.pow_pos (by omega)))]
theorem zcH (A B:Nat)(hA:A<big)(hB:B<big):cmK A B 4=cm A B:=by
 unfold cmK;have e:0x10000000000000000^4=big:=rfl;rw[e,QX hA,QX hB]
theorem wk0 (A:Nat):w0 A=((wk A 0:Nat):Int):=by unfold w0 wk;simp
theorem wk1 (A:Nat):w1 A=((wk A 1:Nat):Int):=rfl
theorem wk2 (A:Nat):w2 A=((wk A 2:Nat):Int):=rfl
theorem wk3 (A:Nat):w3 A=((wk A 3:Nat):Int):=rfl
theorem zcI (A B:Nat)(hA:A<big)(hB:B<big)(w:World):Calls Try.prog 95 #[uv A,uv B] w fun e w'=>e=.returned (.int .i64 (cm A B))/\Below w.heap.size w w':=by
 have i0:=ix0;have i1:=ix1;have i2:=ix2;have i3:=ix3;have HF:=R8 (zcH A B hA hB);unfold uv
 go_enter Try.func95,Try.ntmps95
 go_wp2
 go_loop [5,9] (fun r i=> ∃k:Nat,k<=4/\i=.int .i64 k/\r=.int .i64 (cmK A B k)) (fun _ i=>4-(intOf i).toNat)
 case atStart=>exact⟨0,by omega,rfl,by rw[zcE]⟩
 case round=>
  obtain⟨k,hk,rfl,rfl⟩:=hrel;have hn:=zcG A B k;have hk5:k=0\/k=1\/k=2\/k=3\/k=4:=by omega
  rcases hk5 with rfl|rfl|rfl|rfl|rfl
  ·rcases RX (wk A 0) (wk B 0) with h|h|h
   ·rw[if_pos h]at hn;have HN:=R8 hn;have h1:w0 A<w0 B:=by rw[wk0,wk0];omega
    clear hn h
    go_wp2
    go_round
    case rel=>exact⟨1,by omega,by go_num,by rw[HN.out]⟩
    case measure=>simp[intOf]
   ·rw[if_neg (by omega),if_neg (by omega)]at hn;have HN:=R8 hn;have h1: ¬w0 A<w0 B:=by rw[wk0,wk0];omega
    have h2: ¬w0 B<w0 A:=by rw[wk0,wk0];omega
    clear hn h
    go_wp2
    go_round
    case rel=>exact⟨1,by omega,by go_num,by rw[HN.out]⟩
    case measure=>simp[intOf]
   ·rw[if_neg (by omega),if_pos h]at hn;have HN:=R8 hn;have h1: ¬w0 A<w0 B:=by rw[wk0,wk0];omega
    have h2:w0 B<w0 A:=by rw[wk0,wk0];omega
    clear hn h
    go_wp2
    go_round
    case rel=>exact⟨1,by omega,by go_num,by rw[HN.out]⟩
    case measure=>simp[intOf]
  ·rcases RX (wk A 1) (wk B 1) with h|h|h
   ·rw[if_pos h]at hn;have HN:=R8 hn;have h1:w1 A<w1 B:=by rw[wk1,wk1];omega
    clear hn h
    go_wp2
    go_round
    case rel=>exact⟨2,by omega,by go_num,by rw[HN.out]⟩
    case measure=>simp[intOf]
   ·rw[if_neg (by omega),if_neg (by omega)]at hn;have HN:=R8 hn;have h1: ¬w1 A<w1 B:=by rw[wk1,wk1];omega
    have h2: ¬w1 B<w1 A:=by rw[wk1,wk1];omega
    clear hn h
    go_wp2
    go_round
    case rel=>exact⟨2,by omega,by go_num,by rw[HN.out]⟩
    case measure=>simp[intOf]
   ·rw[if_neg (by omega),if_pos h]at hn;have HN:=R8 hn;have h1: ¬w1 A<w1 B:=by rw[wk1,wk1];omega
    have h2:w1 B<w1 A:=by rw[wk1,wk1];omega
    clear hn h
    go_wp2
    go_round
    case rel=>exact⟨2,by omega,by go_num,by rw[HN.out]⟩
    case measure=>simp[intOf]
  ·rcases RX (wk A 2) (wk B 2) with h|h|h
   ·rw[if_pos h]at hn;have HN:=R8 hn;have h1:w2 A<w2 B:=by rw[wk2,wk2];omega
    clear hn h
    go_wp2
    go_round
    case rel=>exact⟨3,by omega,by go_num,by rw[HN.out]⟩
    case measure=>simp[intOf]
   ·rw[if_neg (by omega),if_neg (by omega)]at hn;have HN:=R8 hn;have h1: ¬w2 A<w2 B:=by rw[wk2,wk2];omega
    have h2: ¬w2 B<w2 A:=by rw[wk2,wk2];omega
    clear hn h
    go_wp2
    go_round
    case rel=>exact⟨3,by omega,by go_num,by rw[HN.out]⟩
    case measure=>simp[intOf]
   ·rw[if_neg (by omega),if_pos h]at hn;have HN:=R8 hn;have h1: ¬w2 A<w2 B:=by rw[wk2,wk2];omega
    have h2:w2 B<w2 A:=by rw[wk2,wk2];omega
    clear hn h
    go_wp2
    go_round
    case rel=>exact⟨3,by omega,by go_num,by rw[HN.out]⟩
    case measure=>simp[intOf]
  ·rcases RX (wk A 3) (wk B 3) with h|h|h
   ·rw[if_pos h]at hn;have HN:=R8 hn;have h1:w3 A<w3 B:=by rw[wk3,wk3];omega
    clear hn h
    go_wp2
    go_round
    case rel=>exact⟨4,by omega,by go_num,by rw[HN.out]⟩
    case measure=>simp[intOf]
   ·rw[if_neg (by omega),if_neg (by omega)]at hn;have HN:=R8 hn;have h1: ¬w3 A<w3 B:=by rw[wk3,wk3];omega
    have h2: ¬w3 B<w3 A:=by rw[wk3,wk3];omega
    clear hn h
    go_wp2
    go_round
    case rel=>exact⟨4,by omega,by go_num,by rw[HN.out]⟩
    case measure=>simp[intOf]
   ·rw[if_neg (by omega),if_pos h]at hn;have HN:=R8 hn;have h1: ¬w3 A<w3 B:=by rw[wk3,wk3];omega
    have h2:w3 B<w3 A:=by rw[wk3,wk3];omega
    clear hn h
    go_wp2
    go_round
    case rel=>exact⟨4,by omega,by go_num,by rw[HN.out]⟩
    case measure=>simp[intOf]
  ·clear hn
   go_wp2
   go_ret
   exact⟨by rw[<-HF.out];rfl,by go_grown⟩
theorem zcJ (d:Nat)(a0 a1 a2 a3 b0 b1 b2 b3:Int)(w:World):
 (Uj (d+2) 64 (.agg #[.int .u64 a0,.int .u64 a1,.int .u64 a2,.int .u64 a3]) (.agg #[.int .u64 b0,.int .u64 b1,.int .u64 b2,.int .u64 b3])).run Try.prog w
  =.ok (a0==b0&&(a1==b1&&(a2==b2&&a3==b3))) w:=by
 have e: ∀x y:Int,(Uj (d+1) 23 (.int .u64 x) (.int .u64 y)).run Try.prog w=.ok (x==y) w:=fun x y=>run_equalIn_int w d 23 .u64 .u64 x y Try.underlying23;have s:(sizeOf 23).run Try.prog w=.ok 1 w:=by kernel_rfl
 have p0: ∀x y z u:Int,(part 23 #[.int .u64 x,.int .u64 y,.int .u64 z,.int .u64 u] 0).run Try.prog w=.ok (.int .u64 x) w:=fun x y z u=>by kernel_rfl
 have p1: ∀x y z u:Int,(part 23 #[.int .u64 x,.int .u64 y,.int .u64 z,.int .u64 u] 1).run Try.prog w=.ok (.int .u64 y) w:=fun x y z u=>by kernel_rfl
 have p2: ∀x y z u:Int,(part 23 #[.int .u64 x,.int .u64 y,.int .u64 z,.int .u64 u] 2).run Try.prog w=.ok (.int .u64 z) w:=fun x y z u=>by kernel_rfl
 have p3: ∀x y z u:Int,(part 23 #[.int .u64 x,.int .u64 y,.int .u64 z,.int .u64 u] 3).run Try.prog w=.ok (.int .u64 u) w:=fun x y z u=>by kernel_rfl
 rw[Uj];simp only[QM,run_underlying Try.underlying64,QA,s,Std.Legacy.Range.forIn_eq_forIn_range',Std.Legacy.Range.size];simp only[show (4-0+1-1) / 1=4 from rfl,List.range',List.forIn_cons,List.forIn_nil];cases c0:(a0==b0)
 ·simp[p0,e,c0]
 ·cases c1:(a1==b1)
  ·simp[p0,p1,e,c0,c1]
  ·cases c2:(a2==b2)
   ·simp[p0,p1,p2,e,c0,c1,c2]
   ·cases c3:(a3==b3)
    ·simp[p0,p1,p2,p3,e,c0,c1,c2,c3]
    ·simp[p0,p1,p2,p3,e,c0,c1,c2,c3]
theorem eqU (a0 a1 a2 a3 b0 b1 b2 b3:Int)(w:World):
 (Uj 10000 64 (.agg #[.int .u64 a0,.int .u64 a1,.int .u64 a2,.int .u64 a3]) (.agg #[.int .u64 b0,.int .u64 b1,.int .u64 b2,.int .u64 b3])).run Try.prog w
  =.ok (a0==b0&&(a1==b1&&(a2==b2&&a3==b3))) w:=zcJ 9998 a0 a1 a2 a3 b0 b1 b2 b3 w
end
theorem vc (A B:Nat)(hA:A<big)(hB:B<big):Fn Try.prog 101 #[uv A,uv B] (.tuple #[uv (sm A B),.bool (ov A B)]):=zcr A B hA hB
theorem vd (A B:Nat)(hA:A<big)(hB:B<big):Fn Try.prog 99 #[uv A,uv B] (.tuple #[uv (df A B),.bool (lo A B)]):=zcs A B hA hB
theorem zcK (A B:Nat)(hA:A<big)(hB:B<big):Fn Try.prog 103 #[uv A,uv B] (.tuple #[uv (pl A B),uv (ph A B)]):=zcD A B hA hB
theorem xd (A B:Nat)(hA:A<big)(hB:B<big):Fn Try.prog 95 #[uv A,uv B] (.int .i64 (cm A B)):=zcI A B hA hB
theorem zcL (n:Nat)(h:n<0x10000000000000000):Fn Try.prog 104 #[.int .u64 (n:Int)] (uv n):=fun w=>(zcq n w).mono fun e w' ⟨he,hb⟩=>⟨by
 rw[he];have e0:w0 n=(n:Int):=by unfold w0;omega
 have e1:w1 n=0:=by unfold w1;omega
 have e2:w2 n=0:=by unfold w2;omega
 have e3:w3 n=0:=by unfold w3;omega
 unfold uv;rw[e0,e1,e2,e3],hb⟩
theorem zcM {A B:Nat}(hA:A<big)(hB:B<big):(w0 A==w0 B&&(w1 A==w1 B&&(w2 A==w2 B&&w3 A==w3 B)))=decide (A=B):=by
 rw[RS];simp only[Qm,beq_iff_eq,decide_eq_true_eq];exact⟨fun⟨a,b,c,d⟩=>zcm hA hB a b c d,fun h=>by subst h;exact⟨rfl,rfl,rfl,rfl⟩⟩
theorem xe {ρ:Env}(A B:Nat)(hA:A<big)(hB:B<big){x y:Operand}{o:Oper}(w:World)(ho:o.op=.binOp .neq 64 x y 64)(hx:ev ρ x=uv A)(hy:ev ρ y=uv B):
 (execOp (ev ρ) o).run Try.prog w=.ok (.value (.bool (!decide (A=B)))) w:=by
 have q:=eqU;have e:=zcM hA hB;unfold execOp;simp only[ho,hx,hy]
 go_simp
theorem zcN {A B:Nat}(h:B<=A):cm A B≥0:=by unfold cm;split<;>(try split)<;>omega
theorem zcO {A B:Nat}(h: ¬B<=A): ¬cm A B≥0:=by unfold cm;split<;>(try split)<;>omega
theorem uU (L H M:Nat)(hL:L<big)(hH:H<big)(hM:MOK M):Fn Try.prog 100 #[uv L,uv H,uv M] (uv (rs L H M)):=by
 refine Fn.intro (c:=zk Try.f100) [.cell 6 64] 54 Try.func100 kr kr kr fun w=>?_;have H0:=St.start w;refine zg [0,1,2,3] kr kr<|yR H0 (some 3) 64 (.tmp 0) (uv L) kr kr kr ?_;intro b1 w1 H1;clear H0;refine yR H1 (some 4) 64 (.tmp 1) (uv H) kr kr kr ?_;intro b2 w2 H2;clear H1;refine yR H2 (some 5) 64 (.tmp 2) (uv M) kr kr kr ?_;intro b3 w3 H3;clear H2;refine zU H3 (some 6) 64 (.agg #[wZ,wZ,wZ,wZ]) kr kr kr ?_;intro b4 w4 H4;clear H3;refine zc<|zg [0,1,2,3,4,5,6,7,8] kr kr<|zn (some 14) (.agg #[wZ,wZ,wZ,wZ]) (fun w=>by kernel_rfl) kr<|yw H4 (some 15) 64 (.tmp 5) 1 b3 (Qj (uv M)) 64 (0,0) kr kr kr kr kr<|qQ H4 (some 16) 99 #[.agg #[wZ,wZ,wZ,wZ],uv M] (.tuple #[uv (df 0 M),.bool (lo 0 M)]) (vd 0 M (by unfold big;omega) hM.1) (fun w=>by kernel_rfl) kr ?_;intro w5 H5;clear H4;refine zn (some 13) (.tuple #[uv (df 0 M),.bool (lo 0 M)]) (fun w=>by kernel_rfl) kr<|zn (some 17) (uv (df 0 M)) (fun w=>by kernel_rfl) kr<|zn (some 18) (.bool (lo 0 M)) (fun w=>by kernel_rfl) kr<|zU H5 (some 7) 64 (.agg #[wZ,wZ,wZ,wZ]) kr kr kr ?_;intro b5 w6 H6;clear H5;refine yX H6 0 [(b5,Qk (Qj (uv (df 0 M))) 64),(b4,Qk #[wZ,wZ,wZ,wZ] 64 (0,0)),(b3,Qk (Qj (uv M)) 64),(b2,Qk (Qj (uv H)) 64),(b1,Qk (Qj (uv L)) 64)] 64 (.tmp 7) (.tmp 17) b5 0 #[wZ,wZ,wZ,wZ] (Qj (uv (df 0 M))) 64 (uv (df 0 M)) kr kr kr kr kr kr (of_decide_eq_true kr) kr kr ?_;intro w7 H7;clear H6;refine zn (some 8) (.bool (lo 0 M)) (fun w=>by kernel_rfl) kr<|zc<|zb kr<|yo 0 kr<|qP kr (fun m ρ x=> ∃(l:Nat) (h:Nat),l+big*h=m/\(l<big)/\(h<big)/\((l+big*h)%M=rs L H M)/\St w.heap.size w x [(b5,Qk (Qj (uv (df 0 M))) 64),(b4,Qk #[wZ,wZ,wZ,wZ] 64 (0,0)),(b3,Qk (Qj (uv M)) 64),(b2,Qk (Qj (uv h)) 64),(b1,Qk (Qj (uv l)) 64)]/\Is [(0,uv L),(1,uv H),(2,uv M),(3,Qe b1),(4,Qe b2),(5,Qe b3),(6,Qe b4),(7,Qe b5)] ρ) (L+big*H) ⟨L,H,rfl,hL,hH,rfl,H7,(Is.of ⟨kr,kr,kr,kr,kr,kr,kr,kr,trivial⟩)⟩ ?_;clear H7;rintro _ _ w8 ⟨l,h,rfl,hl,hh,hm,H8,_,rfl⟩;refine zb kr<|zg [0,1,2] kr kr<|yw H8 (some 19) 64 (.tmp 4) 3 b2 (Qj (uv h)) 64 (0,0) kr kr kr kr kr<|zn (some 20) (.agg #[wZ,wZ,wZ,wZ]) (fun w=>by kernel_rfl) kr ?_;by_cases hne:h=0
 ·refine vU (some 21) _ (.bool (!decide (h=0))) (.bool false) kr (fun o w ho=>xe (x:=(.tmp 19)) (y:=(.tmp 20)) h 0 hh (by unfold big;omega) w ho kr kr) (by rw[decide_eq_true hne];rfl) kr ?_;have hm0:(l+big*0)%M=rs L H M:=by rw[hne]at hm;exact hm
  refine zc<|zE kr kr<|qe 0 kr<|wW<|zb kr<|zg [0,1,2,3] kr kr<|yw H8 (some 43) 64 (.tmp 3) 4 b1 (Qj (uv l)) 64 (0,0) kr kr kr kr kr<|yw H8 (some 44) 64 (.tmp 5) 2 b3 (Qj (uv M)) 64 (0,0) kr kr kr kr kr<|qQ H8 (some 45) 95 #[uv l,uv M] (.int .i64 (cm l M)) (xd l M hl hM.1) (fun w=>by kernel_rfl) kr ?_;intro w9 H9;clear H8;by_cases hc:M<=l
  ·refine jP (some 46) (.bool (decide (0<=cm l M))) (.bool true) (fun w=>by kernel_rfl) (za (decide_eq_true (zcN hc))) kr<|zc<|zN kr kr<|kC [0,1,2,3,4,5,6] kr<|yw H9 (some 48) 64 (.tmp 3) 4 b1 (Qj (uv l)) 64 (0,0) kr kr kr kr kr<|yw H9 (some 49) 64 (.tmp 5) 2 b3 (Qj (uv M)) 64 (0,0) kr kr kr kr kr<|qQ H9 (some 50) 99 #[uv l,uv M] (.tuple #[uv (df l M),.bool (lo l M)]) (vd l M hl hM.1) (fun w=>by kernel_rfl) kr ?_;intro w10 H10;clear H9;refine zn (some 47) (.tuple #[uv (df l M),.bool (lo l M)]) (fun w=>by kernel_rfl) kr<|zn (some 51) (uv (df l M)) (fun w=>by kernel_rfl) kr<|zn (some 52) (.bool (lo l M)) (fun w=>by kernel_rfl) kr<|yX H10 4 [(b5,Qk (Qj (uv (df 0 M))) 64),(b4,Qk #[wZ,wZ,wZ,wZ] 64 (0,0)),(b3,Qk (Qj (uv M)) 64),(b2,Qk (Qj (uv h)) 64),(b1,Qk (Qj (uv (df l M))) 64)] 64 (.tmp 3) (.tmp 51) b1 0 (Qj (uv l)) (Qj (uv (df l M))) 64 (uv (df l M)) kr kr kr kr kr kr (of_decide_eq_true kr) kr kr ?_;intro w11 H11;clear H10;refine zc<|wW<|zg [0,1] kr kr<|yw H11 (some 53) 64 (.tmp 3) 4 b1 (Qj (uv (df l M))) 64 (0,0) kr kr kr kr kr<|yX H11 1 [(b5,Qk (Qj (uv (df 0 M))) 64),(b4,Qk (Qj (uv (df l M))) 64),(b3,Qk (Qj (uv M)) 64),(b2,Qk (Qj (uv h)) 64),(b1,Qk (Qj (uv (df l M))) 64)] 64 (.tmp 6) (.tmp 53) b4 0 #[wZ,wZ,wZ,wZ] (Qj (uv (df l M))) 64 (uv (df l M)) kr kr kr kr kr kr (of_decide_eq_true kr) kr kr ?_;intro w12 H12;clear H11;refine zc<|zT kr<|wV ?_;refine⟨[uv (df l M)],(.agg (b:=b4) (Qj (uv (df l M))) 64 (0,0) kr (H12.get 1 kr) kr .nil),?_,H12.below⟩;exact congrArg uv (zcy hM hl hm0 hc)
  ·refine jP (some 46) (.bool (decide (0<=cm l M))) (.bool false) (fun w=>by kernel_rfl) (za (decide_eq_false (zcO hc))) kr<|zc<|zE kr kr<|zM kr<|wW<|zg [0,1] kr kr<|yw H9 (some 53) 64 (.tmp 3) 4 b1 (Qj (uv l)) 64 (0,0) kr kr kr kr kr<|yX H9 1 [(b5,Qk (Qj (uv (df 0 M))) 64),(b4,Qk (Qj (uv l)) 64),(b3,Qk (Qj (uv M)) 64),(b2,Qk (Qj (uv h)) 64),(b1,Qk (Qj (uv l)) 64)] 64 (.tmp 6) (.tmp 53) b4 0 #[wZ,wZ,wZ,wZ] (Qj (uv l)) 64 (uv l) kr kr kr kr kr kr (of_decide_eq_true kr) kr kr ?_;intro w13 H13;clear H9;refine zc<|zT kr<|wV ?_;refine⟨[uv l],(.agg (b:=b4) (Qj (uv l)) 64 (0,0) kr (H13.get 1 kr) kr .nil),?_,H13.below⟩;exact congrArg uv (zcz hm0 hc)
 ·refine vU (some 21) _ (.bool (!decide (h=0))) (.bool true) kr (fun o w ho=>xe (x:=(.tmp 19)) (y:=(.tmp 20)) h 0 hh (by unfold big;omega) w ho kr kr) (by rw[decide_eq_false hne];rfl) kr<|zc<|zN kr kr<|zM kr<|wW<|yo 1 kr<|zg [0,1,2,3,4,5,6,7,8,9] kr kr<|yw H8 (some 23) 64 (.tmp 4) 3 b2 (Qj (uv h)) 64 (0,0) kr kr kr kr kr<|yw H8 (some 24) 64 (.tmp 7) 0 b5 (Qj (uv (df 0 M))) 64 (0,0) kr kr kr kr kr<|qQ H8 (some 25) 103 #[uv h,uv (df 0 M)] (.tuple #[uv (pl h (df 0 M)),uv (ph h (df 0 M))]) (zcK h (df 0 M) hh (vb _ _)) (fun w=>by kernel_rfl) kr ?_;intro w14 H14;clear H8;refine zn (some 22) (.tuple #[uv (pl h (df 0 M)),uv (ph h (df 0 M))]) (fun w=>by kernel_rfl) kr<|zn (some 26) (uv (pl h (df 0 M))) (fun w=>by kernel_rfl) kr<|zn (some 27) (uv (ph h (df 0 M))) (fun w=>by kernel_rfl) kr<|zU H14 (some 9) 64 (.agg #[wZ,wZ,wZ,wZ]) kr kr kr ?_;intro b6 w15 H15;clear H14;refine zU H15 (some 10) 64 (.agg #[wZ,wZ,wZ,wZ]) kr kr kr ?_;intro b7 w16 H16;clear H15;refine yX H16 1 [(b7,Qk #[wZ,wZ,wZ,wZ] 64 (0,0)),(b6,Qk (Qj (uv (pl h (df 0 M)))) 64 (0,0)),(b5,Qk (Qj (uv (df 0 M))) 64),(b4,Qk #[wZ,wZ,wZ,wZ] 64 (0,0)),(b3,Qk (Qj (uv M)) 64),(b2,Qk (Qj (uv h)) 64),(b1,Qk (Qj (uv l)) 64)] 64 (.tmp 9) (.tmp 26) b6 0 #[wZ,wZ,wZ,wZ] (Qj (uv (pl h (df 0 M)))) 64 (uv (pl h (df 0 M))) kr kr kr kr kr kr (of_decide_eq_true kr) kr kr ?_;intro w17 H17;clear H16;refine yX H17 0 [(b7,Qk (Qj (uv (ph h (df 0 M)))) 64 (0,0)),(b6,Qk (Qj (uv (pl h (df 0 M)))) 64 (0,0)),(b5,Qk (Qj (uv (df 0 M))) 64),(b4,Qk #[wZ,wZ,wZ,wZ] 64 (0,0)),(b3,Qk (Qj (uv M)) 64),(b2,Qk (Qj (uv h)) 64),(b1,Qk (Qj (uv l)) 64)] 64 (.tmp 10) (.tmp 27) b7 0 #[wZ,wZ,wZ,wZ] (Qj (uv (ph h (df 0 M)))) 64 (uv (ph h (df 0 M))) kr kr kr kr kr kr (of_decide_eq_true kr) kr kr ?_;intro w18 H18;clear H17;refine zc<|zg [0,1,2,3,4,5,6,7,8] kr kr<|yw H18 (some 29) 64 (.tmp 3) 6 b1 (Qj (uv l)) 64 (0,0) kr kr kr kr kr<|yw H18 (some 30) 64 (.tmp 9) 1 b6 (Qj (uv (pl h (df 0 M)))) 64 (0,0) kr kr kr kr kr<|qQ H18 (some 31) 101 #[uv l,uv (pl h (df 0 M))] (.tuple #[uv (sm l (pl h (df 0 M))),.bool (ov l (pl h (df 0 M)))]) (vc l (pl h (df 0 M)) hl (uQ _ _)) (fun w=>by kernel_rfl) kr ?_;intro w19 H19;clear H18;refine zn (some 28) (.tuple #[uv (sm l (pl h (df 0 M))),.bool (ov l (pl h (df 0 M)))]) (fun w=>by kernel_rfl) kr<|zn (some 32) (uv (sm l (pl h (df 0 M)))) (fun w=>by kernel_rfl) kr<|zn (some 33) (.bool (ov l (pl h (df 0 M)))) (fun w=>by kernel_rfl) kr<|zU H19 (some 11) 64 (.agg #[wZ,wZ,wZ,wZ]) kr kr kr ?_;intro b8 w20 H20;clear H19;refine yX H20 0 [(b8,Qk (Qj (uv (sm l (pl h (df 0 M))))) 64 (0,0)),(b7,Qk (Qj (uv (ph h (df 0 M)))) 64 (0,0)),(b6,Qk (Qj (uv (pl h (df 0 M)))) 64 (0,0)),(b5,Qk (Qj (uv (df 0 M))) 64),(b4,Qk #[wZ,wZ,wZ,wZ] 64 (0,0)),(b3,Qk (Qj (uv M)) 64),(b2,Qk (Qj (uv h)) 64),(b1,Qk (Qj (uv l)) 64)] 64 (.tmp 11) (.tmp 32) b8 0 #[wZ,wZ,wZ,wZ] (Qj (uv (sm l (pl h (df 0 M))))) 64 (uv (sm l (pl h (df 0 M)))) kr kr kr kr kr kr (of_decide_eq_true kr) kr kr ?_;intro w21 H21;clear H20;refine zn (some 12) (.bool (ov l (pl h (df 0 M)))) (fun w=>by kernel_rfl) kr<|zc<|vW [0,1,2,3] [((some 34),fun _=>uv (sm l (pl h (df 0 M)))),((some 35),fun _=>uv (ph h (df 0 M))),(none,fun _=>undef),(none,fun _=>undef)] (fun L g x=>St w.heap.size w x ([(b8,Qk (Qj (uv (sm l (pl h (df 0 M))))) 64 (0,0)),(b7,Qk (Qj (uv (ph h (df 0 M)))) 64 (0,0)),(b6,Qk (Qj (uv (pl h (df 0 M)))) 64 (0,0)),(b5,Qk (Qj (uv (df 0 M))) 64),(b4,Qk #[wZ,wZ,wZ,wZ] 64 (0,0)),(b3,Qk (Qj (uv M)) 64),(b2,(bif L 3 then Qk (Qj (uv (ph h (df 0 M)))) 64 (0,0) else Qk (Qj (uv h)) 64)),(b1,(bif L 2 then Qk (Qj (uv (sm l (pl h (df 0 M))))) 64 (0,0) else Qk (Qj (uv l)) 64))])) kr kr kr kr (H21.drew) ⟨?_,?_,?_,?_,trivial⟩ ?_
  ·exact jf 64 (.tmp 11) (fun _=>0) (fun g=>b8) (Qj (uv (sm l (pl h (df 0 M))))) 64 (0,0) (fun _ _ _ h=>h) (fun g=>by kernel_rfl) (fun g=>by kernel_rfl) (fun L g _=>by kernel_rfl) kr
  ·exact jf 64 (.tmp 10) (fun _=>1) (fun g=>b7) (Qj (uv (ph h (df 0 M)))) 64 (0,0) (fun _ _ _ h=>h) (fun g=>by kernel_rfl) (fun g=>by kernel_rfl) (fun L g _=>by kernel_rfl) kr
  ·exact xv (fun _=>7) 64 (.tmp 3) (.tmp 34) (fun g=>b1) 0 (Qj (uv l)) (Qj (uv (sm l (pl h (df 0 M))))) 64 (uv (sm l (pl h (df 0 M)))) (fun g=>by kernel_rfl) (fun g=>by kernel_rfl) (fun g=>by kernel_rfl) kr kr (of_decide_eq_true kr) kr (fun L g hN=>by (have hs2:L 2=false:=hN.1;show ([(b8,Qk (Qj (uv (sm l (pl h (df 0 M))))) 64 (0,0)),(b7,Qk (Qj (uv (ph h (df 0 M)))) 64 (0,0)),(b6,Qk (Qj (uv (pl h (df 0 M)))) 64 (0,0)),(b5,Qk (Qj (uv (df 0 M))) 64),(b4,Qk #[wZ,wZ,wZ,wZ] 64 (0,0)),(b3,Qk (Qj (uv M)) 64),(b2,(bif L 3 then Qk (Qj (uv (ph h (df 0 M)))) 64 (0,0) else Qk (Qj (uv h)) 64)),(b1,(bif L 2 then Qk (Qj (uv (sm l (pl h (df 0 M))))) 64 (0,0) else Qk (Qj (uv l)) 64))])[(fun _=>7) L]? =some (b1,Qk (Qj (uv l)) 64)/\([(b8,Qk (Qj (uv (sm l (pl h (df 0 M))))) 64 (0,0)),(b7,Qk (Qj (uv (ph h (df 0 M)))) 64 (0,0)),(b6,Qk (Qj (uv (pl h (df 0 M)))) 64 (0,0)),(b5,Qk (Qj (uv (df 0 M))) 64),(b4,Qk #[wZ,wZ,wZ,wZ] 64 (0,0)),(b3,Qk (Qj (uv M)) 64),(b2,(bif L 3 then Qk (Qj (uv (ph h (df 0 M)))) 64 (0,0) else Qk (Qj (uv h)) 64)),(b1,(bif L 2 then Qk (Qj (uv (sm l (pl h (df 0 M))))) 64 (0,0) else Qk (Qj (uv l)) 64))]).set ((fun _=>7) L) (b1,Qk (Qj (uv (sm l (pl h (df 0 M))))) 64 (0,0))=([(b8,Qk (Qj (uv (sm l (pl h (df 0 M))))) 64 (0,0)),(b7,Qk (Qj (uv (ph h (df 0 M)))) 64 (0,0)),(b6,Qk (Qj (uv (pl h (df 0 M)))) 64 (0,0)),(b5,Qk (Qj (uv (df 0 M))) 64),(b4,Qk #[wZ,wZ,wZ,wZ] 64 (0,0)),(b3,Qk (Qj (uv M)) 64),(b2,(bif L 3 then Qk (Qj (uv (ph h (df 0 M)))) 64 (0,0) else Qk (Qj (uv h)) 64)),(b1,(bif true then Qk (Qj (uv (sm l (pl h (df 0 M))))) 64 (0,0) else Qk (Qj (uv l)) 64))]);rw[hs2];exact⟨rfl,rfl⟩))
  ·exact xv (fun _=>6) 64 (.tmp 4) (.tmp 35) (fun g=>b2) 0 (Qj (uv h)) (Qj (uv (ph h (df 0 M)))) 64 (uv (ph h (df 0 M))) (fun g=>by kernel_rfl) (fun g=>by kernel_rfl) (fun g=>by kernel_rfl) kr kr (of_decide_eq_true kr) kr (fun L g hN=>by (have hs3:L 3=false:=hN.1;show ([(b8,Qk (Qj (uv (sm l (pl h (df 0 M))))) 64 (0,0)),(b7,Qk (Qj (uv (ph h (df 0 M)))) 64 (0,0)),(b6,Qk (Qj (uv (pl h (df 0 M)))) 64 (0,0)),(b5,Qk (Qj (uv (df 0 M))) 64),(b4,Qk #[wZ,wZ,wZ,wZ] 64 (0,0)),(b3,Qk (Qj (uv M)) 64),(b2,(bif L 3 then Qk (Qj (uv (ph h (df 0 M)))) 64 (0,0) else Qk (Qj (uv h)) 64)),(b1,(bif L 2 then Qk (Qj (uv (sm l (pl h (df 0 M))))) 64 (0,0) else Qk (Qj (uv l)) 64))])[(fun _=>6) L]? =some (b2,Qk (Qj (uv h)) 64)/\([(b8,Qk (Qj (uv (sm l (pl h (df 0 M))))) 64 (0,0)),(b7,Qk (Qj (uv (ph h (df 0 M)))) 64 (0,0)),(b6,Qk (Qj (uv (pl h (df 0 M)))) 64 (0,0)),(b5,Qk (Qj (uv (df 0 M))) 64),(b4,Qk #[wZ,wZ,wZ,wZ] 64 (0,0)),(b3,Qk (Qj (uv M)) 64),(b2,(bif L 3 then Qk (Qj (uv (ph h (df 0 M)))) 64 (0,0) else Qk (Qj (uv h)) 64)),(b1,(bif L 2 then Qk (Qj (uv (sm l (pl h (df 0 M))))) 64 (0,0) else Qk (Qj (uv l)) 64))]).set ((fun _=>6) L) (b2,Qk (Qj (uv (ph h (df 0 M)))) 64 (0,0))=([(b8,Qk (Qj (uv (sm l (pl h (df 0 M))))) 64 (0,0)),(b7,Qk (Qj (uv (ph h (df 0 M)))) 64 (0,0)),(b6,Qk (Qj (uv (pl h (df 0 M)))) 64 (0,0)),(b5,Qk (Qj (uv (df 0 M))) 64),(b4,Qk #[wZ,wZ,wZ,wZ] 64 (0,0)),(b3,Qk (Qj (uv M)) 64),(b2,(bif true then Qk (Qj (uv (ph h (df 0 M)))) 64 (0,0) else Qk (Qj (uv h)) 64)),(b1,(bif L 2 then Qk (Qj (uv (sm l (pl h (df 0 M))))) 64 (0,0) else Qk (Qj (uv l)) 64))]);rw[hs3];exact⟨rfl,rfl⟩))
  intro L0 g22 w22 hall HL;clear H21;have H22:St w.heap.size w w22 [(b8,Qk (Qj (uv (sm l (pl h (df 0 M))))) 64 (0,0)),(b7,Qk (Qj (uv (ph h (df 0 M)))) 64 (0,0)),(b6,Qk (Qj (uv (pl h (df 0 M)))) 64 (0,0)),(b5,Qk (Qj (uv (df 0 M))) 64),(b4,Qk #[wZ,wZ,wZ,wZ] 64 (0,0)),(b3,Qk (Qj (uv M)) 64),(b2,Qk (Qj (uv (ph h (df 0 M)))) 64 (0,0)),(b1,Qk (Qj (uv (sm l (pl h (df 0 M))))) 64 (0,0))]:=by have e2:=hall 2 (Qr kr);have e3:=hall 3 (Qr kr);simp only[e2,e3,cond_true]at HL;exact HL
  clear HL hall;refine zg [0] kr kr ?_;obtain⟨h',hh1,hh2,hfold⟩:=zcx hM hl hh hne;cases hov:ov l (pl h (df 0 M))
  ·rw[hov]at hh1;simp only[Rt,if_false]at hh1;subst hh1;refine zn (some 36) (.bool false) (fun w=>by kernel_rfl) kr<|zc<|zE kr kr<|zM kr ?_;have HD1:St w.heap.size w w22 [(b5,Qk (Qj (uv (df 0 M))) 64),(b4,Qk #[wZ,wZ,wZ,wZ] 64 (0,0)),(b3,Qk (Qj (uv M)) 64),(b2,Qk (Qj (uv (ph h (df 0 M)))) 64 (0,0)),(b1,Qk (Qj (uv (sm l (pl h (df 0 M))))) 64 (0,0))]:=H22.sub (RH _ (RH _ (RH _ (Qx _ (Qx _ (Qx _ (Qx _ (Qx _ List.Sublist.slnil))))))));show ∃m,_/\_;exact⟨_,(uS hM hne hfold),(sm l (pl h (df 0 M))),(ph h (df 0 M)),rfl,(kZ _ _),hh2,(uR hfold hm),HD1,(Is.of ⟨kr,kr,kr,kr,kr,kr,kr,kr,trivial⟩)⟩
  ·rw[hov]at hh1;simp only[if_true]at hh1;subst hh1;refine zn (some 36) (.bool true) (fun w=>by kernel_rfl) kr<|zc<|zN kr kr<|g_draw0 [0,1,2,3,4,5,6] [((some 38),fun _=>uv (ph h (df 0 M))),((some 39),fun _=>uv 1),((some 40),fun _=>.tuple #[uv (sm (ph h (df 0 M)) 1),.bool (ov (ph h (df 0 M)) 1)]),((some 37),fun _=>.tuple #[uv (sm (ph h (df 0 M)) 1),.bool (ov (ph h (df 0 M)) 1)]),((some 41),fun _=>uv (sm (ph h (df 0 M)) 1)),((some 42),fun _=>.bool (ov (ph h (df 0 M)) 1)),(none,fun _=>undef)] (fun L g x=>St w.heap.size w x ([(b8,Qk (Qj (uv (sm l (pl h (df 0 M))))) 64 (0,0)),(b7,Qk (Qj (uv (ph h (df 0 M)))) 64 (0,0)),(b6,Qk (Qj (uv (pl h (df 0 M)))) 64 (0,0)),(b5,Qk (Qj (uv (df 0 M))) 64),(b4,Qk #[wZ,wZ,wZ,wZ] 64 (0,0)),(b3,Qk (Qj (uv M)) 64),(b2,(bif L 6 then Qk (Qj (uv (sm (ph h (df 0 M)) 1))) 64 (0,0) else Qk (Qj (uv (ph h (df 0 M)))) 64 (0,0))),(b1,Qk (Qj (uv (sm l (pl h (df 0 M))))) 64 (0,0))])) kr kr kr (H22.drew) ⟨?_,?_,?_,?_,?_,?_,?_,trivial⟩ ?_
   ·exact jf 64 (.tmp 10) (fun _=>1) (fun g=>b7) (Qj (uv (ph h (df 0 M)))) 64 (0,0) (fun _ _ _ h=>h) (fun g=>by kernel_rfl) (fun g=>by kernel_rfl) (fun L g _=>by kernel_rfl) kr
   ·exact jQ 104 #[.int .u64 1] (fun _ _ _ h=>h) (zcL 1 (by omega)) (fun g w=>by kernel_rfl)
   ·exact jQ 101 #[uv (ph h (df 0 M)),uv 1] (fun _ _ _ h=>h) (vc (ph h (df 0 M)) 1 (zcv hh (vb _ _)) (by unfold big;omega)) (fun g w=>by kernel_rfl)
   ·exact gv_val (fun _ _ _ h=>h) (fun g w=>by kernel_rfl)
   ·exact gv_val (fun _ _ _ h=>h) (fun g w=>by kernel_rfl)
   ·exact gv_val (fun _ _ _ h=>h) (fun g w=>by kernel_rfl)
   ·exact xv (fun _=>6) 64 (.tmp 4) (.tmp 41) (fun g=>b2) 0 (Qj (uv (ph h (df 0 M)))) (Qj (uv (sm (ph h (df 0 M)) 1))) 64 (uv (sm (ph h (df 0 M)) 1)) (fun g=>by kernel_rfl) (fun g=>by kernel_rfl) (fun g=>by kernel_rfl) kr kr (of_decide_eq_true kr) kr (fun L g hN=>by (have hs6:L 6=false:=hN.1;show ([(b8,Qk (Qj (uv (sm l (pl h (df 0 M))))) 64 (0,0)),(b7,Qk (Qj (uv (ph h (df 0 M)))) 64 (0,0)),(b6,Qk (Qj (uv (pl h (df 0 M)))) 64 (0,0)),(b5,Qk (Qj (uv (df 0 M))) 64),(b4,Qk #[wZ,wZ,wZ,wZ] 64 (0,0)),(b3,Qk (Qj (uv M)) 64),(b2,(bif L 6 then Qk (Qj (uv (sm (ph h (df 0 M)) 1))) 64 (0,0) else Qk (Qj (uv (ph h (df 0 M)))) 64 (0,0))),(b1,Qk (Qj (uv (sm l (pl h (df 0 M))))) 64 (0,0))])[(fun _=>6) L]? =some (b2,Qk (Qj (uv (ph h (df 0 M)))) 64 (0,0))/\([(b8,Qk (Qj (uv (sm l (pl h (df 0 M))))) 64 (0,0)),(b7,Qk (Qj (uv (ph h (df 0 M)))) 64 (0,0)),(b6,Qk (Qj (uv (pl h (df 0 M)))) 64 (0,0)),(b5,Qk (Qj (uv (df 0 M))) 64),(b4,Qk #[wZ,wZ,wZ,wZ] 64 (0,0)),(b3,Qk (Qj (uv M)) 64),(b2,(bif L 6 then Qk (Qj (uv (sm (ph h (df 0 M)) 1))) 64 (0,0) else Qk (Qj (uv (ph h (df 0 M)))) 64 (0,0))),(b1,Qk (Qj (uv (sm l (pl h (df 0 M))))) 64 (0,0))]).set ((fun _=>6) L) (b2,Qk (Qj (uv (sm (ph h (df 0 M)) 1))) 64 (0,0))=([(b8,Qk (Qj (uv (sm l (pl h (df 0 M))))) 64 (0,0)),(b7,Qk (Qj (uv (ph h (df 0 M)))) 64 (0,0)),(b6,Qk (Qj (uv (pl h (df 0 M)))) 64 (0,0)),(b5,Qk (Qj (uv (df 0 M))) 64),(b4,Qk #[wZ,wZ,wZ,wZ] 64 (0,0)),(b3,Qk (Qj (uv M)) 64),(b2,(bif true then Qk (Qj (uv (sm (ph h (df 0 M)) 1))) 64 (0,0) else Qk (Qj (uv (ph h (df 0 M)))) 64 (0,0))),(b1,Qk (Qj (uv (sm l (pl h (df 0 M))))) 64 (0,0))]);rw[hs6];exact⟨rfl,rfl⟩))
   intro L0 g23 w23 hall HL;clear H22;have H23:St w.heap.size w w23 [(b8,Qk (Qj (uv (sm l (pl h (df 0 M))))) 64 (0,0)),(b7,Qk (Qj (uv (ph h (df 0 M)))) 64 (0,0)),(b6,Qk (Qj (uv (pl h (df 0 M)))) 64 (0,0)),(b5,Qk (Qj (uv (df 0 M))) 64),(b4,Qk #[wZ,wZ,wZ,wZ] 64 (0,0)),(b3,Qk (Qj (uv M)) 64),(b2,Qk (Qj (uv (sm (ph h (df 0 M)) 1))) 64 (0,0)),(b1,Qk (Qj (uv (sm l (pl h (df 0 M))))) 64 (0,0))]:=by have e6:=hall 6 (Qr kr);simp only[e6,cond_true]at HL;exact HL
   clear HL hall;have HD2:St w.heap.size w w23 [(b5,Qk (Qj (uv (df 0 M))) 64),(b4,Qk #[wZ,wZ,wZ,wZ] 64 (0,0)),(b3,Qk (Qj (uv M)) 64),(b2,Qk (Qj (uv (sm (ph h (df 0 M)) 1))) 64 (0,0)),(b1,Qk (Qj (uv (sm l (pl h (df 0 M))))) 64 (0,0))]:=H23.sub (RH _ (RH _ (RH _ (Qx _ (Qx _ (Qx _ (Qx _ (Qx _ List.Sublist.slnil))))))));show ∃m,_/\_;exact⟨_,(uS hM hne hfold),(sm l (pl h (df 0 M))),(sm (ph h (df 0 M)) 1),rfl,(kZ _ _),hh2,(uR hfold hm),HD2,(Is.of ⟨kr,kr,kr,kr,kr,kr,kr,kr,trivial⟩)⟩
theorem xR:Fn Try.prog 94 #[.int .i64 1] (.tuple #[uv NR,.int .i64 0]):=by
 refine Fn.intro (c:=zk Try.f94) [.cell 2 64,.tmp 3] 12 Try.func94 kr kr kr fun w=>?_;have H0:=St.start w;refine zg [0,1] kr kr<|zU H0 (some 2) 64 (.agg #[wZ,wZ,wZ,wZ]) kr kr kr ?_;intro b1 w1 H1;clear H0;refine zn (some 3) (.int .i64 0) (fun w=>by kernel_rfl) kr<|zc<|zb kr<|zg [0] kr kr<|zn (some 4) (.int .i64 1) (fun w=>by kernel_rfl) kr<|zc<|yo 0 kr<|zg [0,1] kr kr<|zn (some 6) (.bool false) (fun w=>by kernel_rfl) kr<|zn (some 5) (.bool false) (fun w=>by kernel_rfl) kr<|zc<|zE kr kr<|zg [0,1] kr kr<|zn (some 9) (.bool true) (fun w=>by kernel_rfl) kr<|zn (some 8) (.bool true) (fun w=>by kernel_rfl) kr<|zc<|zN kr kr<|zg [0,1,2] kr kr<|zn (some 10) (.agg #[.int .u64 0xbfd25e8cd0364141,.int .u64 0xbaaedce6af48a03b,.int .u64 0xfffffffffffffffe,.int .u64 0xffffffffffffffff]) (fun w=>by kernel_rfl) kr<|yX H1 0 [(b1,Qk #[.int .u64 0xbfd25e8cd0364141,.int .u64 0xbaaedce6af48a03b,.int .u64 0xfffffffffffffffe,.int .u64 0xffffffffffffffff] 64 (0,0))] 64 (.tmp 2) (.tmp 10) b1 0 #[wZ,wZ,wZ,wZ] #[.int .u64 0xbfd25e8cd0364141,.int .u64 0xbaaedce6af48a03b,.int .u64 0xfffffffffffffffe,.int .u64 0xffffffffffffffff] 64 (.agg #[.int .u64 0xbfd25e8cd0364141,.int .u64 0xbaaedce6af48a03b,.int .u64 0xfffffffffffffffe,.int .u64 0xffffffffffffffff]) kr kr kr kr kr kr (of_decide_eq_true kr) kr kr ?_;intro w2 H2;clear H1;refine zn (some 3) (.int .i64 0) (fun w=>by kernel_rfl) kr<|zc<|zT kr<|wV ?_;refine⟨[.agg #[.int .u64 0xbfd25e8cd0364141,.int .u64 0xbaaedce6af48a03b,.int .u64 0xfffffffffffffffe,.int .u64 0xffffffffffffffff],.int .i64 0],(.agg (b:=b1) #[.int .u64 0xbfd25e8cd0364141,.int .u64 0xbaaedce6af48a03b,.int .u64 0xfffffffffffffffe,.int .u64 0xffffffffffffffff] 64 (0,0) kr (H2.get 0 kr) kr (.tmp (.int .i64 0) kr .nil)),?_,H2.below⟩
 kernel_rfl
theorem zcP (A B:Nat)(hA:A<big)(hB:B<big):Fn Try.prog 98 #[uv A,uv B,.int .i64 1] (.tuple #[uv (yu A B NR),.int .i64 0]):=by
 refine Fn.intro (c:=zk Try.f98) [.cell 6 64,.tmp 7] 41 Try.func98 kr kr kr fun w=>?_;have H0:=St.start w;refine zg [0,1,2,3] kr kr<|yR H0 (some 3) 64 (.tmp 0) (uv A) kr kr kr ?_;intro b1 w1 H1;clear H0;refine yR H1 (some 4) 64 (.tmp 1) (uv B) kr kr kr ?_;intro b2 w2 H2;clear H1;refine zU H2 (some 6) 64 (.agg #[wZ,wZ,wZ,wZ]) kr kr kr ?_;intro b3 w3 H3;clear H2;refine zn (some 7) (.int .i64 0) (fun w=>by kernel_rfl) kr<|zc<|zg [0,1,2,3,4,5,6,7] kr kr<|zn (some 13) (.int .i64 1) (fun w=>by kernel_rfl) kr<|qQ H3 (some 14) 94 #[.int .i64 1] (.tuple #[uv NR,.int .i64 0]) xR (fun w=>by kernel_rfl) kr ?_;intro w4 H4;clear H3;refine zn (some 12) (.tuple #[uv NR,.int .i64 0]) (fun w=>by kernel_rfl) kr<|zn (some 15) (uv NR) (fun w=>by kernel_rfl) kr<|zn (some 16) (.int .i64 0) (fun w=>by kernel_rfl) kr<|zU H4 (some 8) 64 (.agg #[wZ,wZ,wZ,wZ]) kr kr kr ?_;intro b4 w5 H5;clear H4;refine yX H5 0 [(b4,Qk (Qj (uv NR)) 64),(b3,Qk #[wZ,wZ,wZ,wZ] 64 (0,0)),(b2,Qk (Qj (uv B)) 64),(b1,Qk (Qj (uv A)) 64)] 64 (.tmp 8) (.tmp 15) b4 0 #[wZ,wZ,wZ,wZ] (Qj (uv NR)) 64 (uv NR) kr kr kr kr kr kr (of_decide_eq_true kr) kr kr ?_;intro w6 H6;clear H5;refine zn (some 9) (.int .i64 0) (fun w=>by kernel_rfl) kr<|zc<|zb kr<|zg [0,1] kr kr<|zn (some 17) (.int .i64 0) (fun w=>by kernel_rfl) kr<|zn (some 18) (.bool false) (fun w=>by kernel_rfl) kr<|zc<|zE kr kr<|zM kr<|wW<|vW [0,1,2,3,4,5,6,7,8,9,10,11,12,13,14] [((some 22),fun _=>uv A),((some 23),fun _=>.agg #[wZ,wZ,wZ,wZ]),((some 24),fun _=>uv NR),((some 25),fun _=>uv (rs A 0 NR)),((some 26),fun _=>uv B),((some 27),fun _=>.agg #[wZ,wZ,wZ,wZ]),((some 28),fun _=>uv NR),((some 29),fun _=>uv (rs B 0 NR)),((some 30),fun _=>.tuple #[uv (df (rs A 0 NR) (rs B 0 NR)),.bool (lo (rs A 0 NR) (rs B 0 NR))]),((some 21),fun _=>.tuple #[uv (df (rs A 0 NR) (rs B 0 NR)),.bool (lo (rs A 0 NR) (rs B 0 NR))]),((some 31),fun _=>uv (df (rs A 0 NR) (rs B 0 NR))),((some 32),fun _=>.bool (lo (rs A 0 NR) (rs B 0 NR))),((some 10),fun b=>Qe b),(none,fun _=>undef),((some 11),fun _=>.bool (lo (rs A 0 NR) (rs B 0 NR)))] (fun L g x=>St w.heap.size w x ([(b4,Qk (Qj (uv NR)) 64),(b3,Qk #[wZ,wZ,wZ,wZ] 64 (0,0)),(b2,Qk (Qj (uv B)) 64),(b1,Qk (Qj (uv A)) 64)]++(bif L 12 then [(g 12,(bif L 13 then Qk (Qj (uv (df (rs A 0 NR) (rs B 0 NR)))) 64 (0,0) else Qk #[wZ,wZ,wZ,wZ] 64 (0,0)))] else []))) kr kr kr kr (H6.drew) ⟨?_,?_,?_,?_,?_,?_,?_,?_,?_,?_,?_,?_,?_,?_,?_,trivial⟩ ?_
 ·exact jf 64 (.tmp 3) (fun _=>3) (fun g=>b1) (Qj (uv A)) 64 (0,0) (fun _ _ _ h=>h) (fun g=>by kernel_rfl) (fun g=>by kernel_rfl) (fun L g _=>by kernel_rfl) kr
 ·exact gv_val (fun _ _ _ h=>h) (fun g w=>by kernel_rfl)
 ·exact jf 64 (.tmp 8) (fun _=>0) (fun g=>b4) (Qj (uv NR)) 64 (0,0) (fun _ _ _ h=>h) (fun g=>by kernel_rfl) (fun g=>by kernel_rfl) (fun L g _=>by kernel_rfl) kr
 ·exact jQ 100 #[uv A,.agg #[wZ,wZ,wZ,wZ],uv NR] (fun _ _ _ h=>h) (uU A 0 NR hA (by unfold big;omega) qi) (fun g w=>by kernel_rfl)
 ·exact jf 64 (.tmp 4) (fun _=>2) (fun g=>b2) (Qj (uv B)) 64 (0,0) (fun _ _ _ h=>h) (fun g=>by kernel_rfl) (fun g=>by kernel_rfl) (fun L g _=>by kernel_rfl) kr
 ·exact gv_val (fun _ _ _ h=>h) (fun g w=>by kernel_rfl)
 ·exact jf 64 (.tmp 8) (fun _=>0) (fun g=>b4) (Qj (uv NR)) 64 (0,0) (fun _ _ _ h=>h) (fun g=>by kernel_rfl) (fun g=>by kernel_rfl) (fun L g _=>by kernel_rfl) kr
 ·exact jQ 100 #[uv B,.agg #[wZ,wZ,wZ,wZ],uv NR] (fun _ _ _ h=>h) (uU B 0 NR hB (by unfold big;omega) qi) (fun g w=>by kernel_rfl)
 ·exact jQ 99 #[uv (rs A 0 NR),uv (rs B 0 NR)] (fun _ _ _ h=>h) (vd (rs A 0 NR) (rs B 0 NR) (uP qi) (uP qi)) (fun g w=>by kernel_rfl)
 ·exact gv_val (fun _ _ _ h=>h) (fun g w=>by kernel_rfl)
 ·exact gv_val (fun _ _ _ h=>h) (fun g w=>by kernel_rfl)
 ·exact gv_val (fun _ _ _ h=>h) (fun g w=>by kernel_rfl)
 ·exact zbM 64 (.agg #[wZ,wZ,wZ,wZ]) (fun L g=>[(b4,Qk (Qj (uv NR)) 64),(b3,Qk #[wZ,wZ,wZ,wZ] 64 (0,0)),(b2,Qk (Qj (uv B)) 64),(b1,Qk (Qj (uv A)) 64)]) (fun L g=>([]:Qb)) (fun g=>by kernel_rfl) kr (fun L g hN=>by (have hn:L 12=false:=hN.1;show ([(b4,Qk (Qj (uv NR)) 64),(b3,Qk #[wZ,wZ,wZ,wZ] 64 (0,0)),(b2,Qk (Qj (uv B)) 64),(b1,Qk (Qj (uv A)) 64)]++(bif L 12 then [(g 12,(bif L 13 then Qk (Qj (uv (df (rs A 0 NR) (rs B 0 NR)))) 64 (0,0) else Qk #[wZ,wZ,wZ,wZ] 64 (0,0)))] else []))=([(b4,Qk (Qj (uv NR)) 64),(b3,Qk #[wZ,wZ,wZ,wZ] 64 (0,0)),(b2,Qk (Qj (uv B)) 64),(b1,Qk (Qj (uv A)) 64)])++(([]:Qb));rw[hn];rfl)) (fun L g b hN=>by (have hz:L 13=false:=hN.2.2.no 12 13 kr hN.1;show ([(b4,Qk (Qj (uv NR)) 64),(b3,Qk #[wZ,wZ,wZ,wZ] 64 (0,0)),(b2,Qk (Qj (uv B)) 64),(b1,Qk (Qj (uv A)) 64)])++(b,Qk #[wZ,wZ,wZ,wZ] 64 (0,0))::(([]:Qb))=([(b4,Qk (Qj (uv NR)) 64),(b3,Qk #[wZ,wZ,wZ,wZ] 64 (0,0)),(b2,Qk (Qj (uv B)) 64),(b1,Qk (Qj (uv A)) 64)]++([(b,(bif L 13 then Qk (Qj (uv (df (rs A 0 NR) (rs B 0 NR)))) 64 (0,0) else Qk #[wZ,wZ,wZ,wZ] 64 (0,0)))]));rw[hz];rfl))
 ·exact xv (fun _=>4) 64 (.tmp 10) (.tmp 31) (fun g=>g 12) 0 #[wZ,wZ,wZ,wZ] (Qj (uv (df (rs A 0 NR) (rs B 0 NR)))) 64 (uv (df (rs A 0 NR) (rs B 0 NR))) (fun g=>by kernel_rfl) (fun g=>by kernel_rfl) (fun g=>by kernel_rfl) kr kr (of_decide_eq_true kr) kr (fun L g hN=>by (have hs13:L 13=false:=hN.1;have hs12:L 12=true:=before_yes hN.2.1 12 kr;show ([(b4,Qk (Qj (uv NR)) 64),(b3,Qk #[wZ,wZ,wZ,wZ] 64 (0,0)),(b2,Qk (Qj (uv B)) 64),(b1,Qk (Qj (uv A)) 64)]++(bif L 12 then [(g 12,(bif L 13 then Qk (Qj (uv (df (rs A 0 NR) (rs B 0 NR)))) 64 (0,0) else Qk #[wZ,wZ,wZ,wZ] 64 (0,0)))] else []))[(fun _=>4) L]? =some (g 12,Qk #[wZ,wZ,wZ,wZ] 64 (0,0))/\([(b4,Qk (Qj (uv NR)) 64),(b3,Qk #[wZ,wZ,wZ,wZ] 64 (0,0)),(b2,Qk (Qj (uv B)) 64),(b1,Qk (Qj (uv A)) 64)]++(bif L 12 then [(g 12,(bif L 13 then Qk (Qj (uv (df (rs A 0 NR) (rs B 0 NR)))) 64 (0,0) else Qk #[wZ,wZ,wZ,wZ] 64 (0,0)))] else [])).set ((fun _=>4) L) (g 12,Qk (Qj (uv (df (rs A 0 NR) (rs B 0 NR)))) 64 (0,0))=([(b4,Qk (Qj (uv NR)) 64),(b3,Qk #[wZ,wZ,wZ,wZ] 64 (0,0)),(b2,Qk (Qj (uv B)) 64),(b1,Qk (Qj (uv A)) 64)]++(bif L 12 then [(g 12,(bif true then Qk (Qj (uv (df (rs A 0 NR) (rs B 0 NR)))) 64 (0,0) else Qk #[wZ,wZ,wZ,wZ] 64 (0,0)))] else []));rw[hs13,hs12];exact⟨rfl,rfl⟩))
 ·exact gv_val (fun _ _ _ h=>h) (fun g w=>by kernel_rfl)
 intro L0 g7 w7 hall HL;clear H6;have H7:St w.heap.size w w7 [(b4,Qk (Qj (uv NR)) 64),(b3,Qk #[wZ,wZ,wZ,wZ] 64 (0,0)),(b2,Qk (Qj (uv B)) 64),(b1,Qk (Qj (uv A)) 64),((g7 12),Qk (Qj (uv (df (rs A 0 NR) (rs B 0 NR)))) 64 (0,0))]:=by have e13:=hall 13 (Qr kr);have e12:=hall 12 (Qr kr);simp only[e13,e12,cond_true]at HL;exact HL
 clear HL hall;refine zb kr<|zg [0] kr kr ?_;cases hlo:lo (rs A 0 NR) (rs B 0 NR)
 ·refine zn (some 33) (.bool false) (fun w=>by kernel_rfl) kr<|zc<|zE kr kr<|zM kr<|wW<|zg [0,1,2] kr kr<|yw H7 (some 40) 64 (.tmp 10) 4 (g7 12) (Qj (uv (df (rs A 0 NR) (rs B 0 NR)))) 64 (0,0) kr kr kr kr kr<|yX H7 1 [(b4,Qk (Qj (uv NR)) 64),(b3,Qk (Qj (uv (df (rs A 0 NR) (rs B 0 NR)))) 64 (0,0)),(b2,Qk (Qj (uv B)) 64),(b1,Qk (Qj (uv A)) 64),((g7 12),Qk (Qj (uv (df (rs A 0 NR) (rs B 0 NR)))) 64 (0,0))] 64 (.tmp 6) (.tmp 40) b3 0 #[wZ,wZ,wZ,wZ] (Qj (uv (df (rs A 0 NR) (rs B 0 NR)))) 64 (uv (df (rs A 0 NR) (rs B 0 NR))) kr kr kr kr kr kr (of_decide_eq_true kr) kr kr ?_;intro w8 H8;clear H7;refine zn (some 7) (.int .i64 0) (fun w=>by kernel_rfl) kr<|zc<|zT kr<|wV ?_;refine⟨[uv (df (rs A 0 NR) (rs B 0 NR)),.int .i64 0],(.agg (b:=b3) (Qj (uv (df (rs A 0 NR) (rs B 0 NR)))) 64 (0,0) kr (H8.get 1 kr) kr (.tmp (.int .i64 0) kr .nil)),?_,H8.below⟩;exact congrArg (fun n=>Value.tuple #[uv n,.int .i64 0]) (zcB qi hlo)
 ·refine zn (some 33) (.bool true) (fun w=>by kernel_rfl) kr<|zc<|zN kr kr<|kC [0,1,2,3,4,5,6] kr<|yw H7 (some 35) 64 (.tmp 10) 4 (g7 12) (Qj (uv (df (rs A 0 NR) (rs B 0 NR)))) 64 (0,0) kr kr kr kr kr<|yw H7 (some 36) 64 (.tmp 8) 0 b4 (Qj (uv NR)) 64 (0,0) kr kr kr kr kr<|qQ H7 (some 37) 101 #[uv (df (rs A 0 NR) (rs B 0 NR)),uv NR] (.tuple #[uv (sm (df (rs A 0 NR) (rs B 0 NR)) NR),.bool (ov (df (rs A 0 NR) (rs B 0 NR)) NR)]) (vc (df (rs A 0 NR) (rs B 0 NR)) NR (vb _ _) qi.1) (fun w=>by kernel_rfl) kr ?_;intro w9 H9;clear H7;refine zn (some 34) (.tuple #[uv (sm (df (rs A 0 NR) (rs B 0 NR)) NR),.bool (ov (df (rs A 0 NR) (rs B 0 NR)) NR)]) (fun w=>by kernel_rfl) kr<|zn (some 38) (uv (sm (df (rs A 0 NR) (rs B 0 NR)) NR)) (fun w=>by kernel_rfl) kr<|zn (some 39) (.bool (ov (df (rs A 0 NR) (rs B 0 NR)) NR)) (fun w=>by kernel_rfl) kr<|yX H9 4 [(b4,Qk (Qj (uv NR)) 64),(b3,Qk #[wZ,wZ,wZ,wZ] 64 (0,0)),(b2,Qk (Qj (uv B)) 64),(b1,Qk (Qj (uv A)) 64),((g7 12),Qk (Qj (uv (sm (df (rs A 0 NR) (rs B 0 NR)) NR))) 64 (0,0))] 64 (.tmp 10) (.tmp 38) (g7 12) 0 (Qj (uv (df (rs A 0 NR) (rs B 0 NR)))) (Qj (uv (sm (df (rs A 0 NR) (rs B 0 NR)) NR))) 64 (uv (sm (df (rs A 0 NR) (rs B 0 NR)) NR)) kr kr kr kr kr kr (of_decide_eq_true kr) kr kr ?_;intro w10 H10;clear H9;refine zc<|wW<|zg [0,1,2] kr kr<|yw H10 (some 40) 64 (.tmp 10) 4 (g7 12) (Qj (uv (sm (df (rs A 0 NR) (rs B 0 NR)) NR))) 64 (0,0) kr kr kr kr kr<|yX H10 1 [(b4,Qk (Qj (uv NR)) 64),(b3,Qk (Qj (uv (sm (df (rs A 0 NR) (rs B 0 NR)) NR))) 64 (0,0)),(b2,Qk (Qj (uv B)) 64),(b1,Qk (Qj (uv A)) 64),((g7 12),Qk (Qj (uv (sm (df (rs A 0 NR) (rs B 0 NR)) NR))) 64 (0,0))] 64 (.tmp 6) (.tmp 40) b3 0 #[wZ,wZ,wZ,wZ] (Qj (uv (sm (df (rs A 0 NR) (rs B 0 NR)) NR))) 64 (uv (sm (df (rs A 0 NR) (rs B 0 NR)) NR)) kr kr kr kr kr kr (of_decide_eq_true kr) kr kr ?_;intro w11 H11;clear H10;refine zn (some 7) (.int .i64 0) (fun w=>by kernel_rfl) kr<|zc<|zT kr<|wV ?_;refine⟨[uv (sm (df (rs A 0 NR) (rs B 0 NR)) NR),.int .i64 0],(.agg (b:=b3) (Qj (uv (sm (df (rs A 0 NR) (rs B 0 NR)) NR))) 64 (0,0) kr (H11.get 1 kr) kr (.tmp (.int .i64 0) kr .nil)),?_,H11.below⟩;exact congrArg (fun n=>Value.tuple #[uv n,.int .i64 0]) (zcA qi hlo)
section
def vl:List Nat->Nat
 | []=>0
 | d::r=>d+65536*vl r
open Go
def ls (x y:List Nat):Bool:=decide (vl x<vl y)
end
section
variable {P:Program}{N:Nat}{ops:Array Oper}{i:Nat}{r:List Nat}{K:Env->World->Prop}{ρ:Env}{w:World}{B:Nat}{w0:World}{l:Qb}
end
namespace D2
section
variable {P:Program}{ops:Array Oper}{R:(Nat->Gh)->Env}{i:Nat}{d:Option Nat}
variable {E:(Nat->Bool)->(Nat->Gh)->List Ent}{F:(Nat->Bool)->(Nat->Gh)->Prop}{B:Nat}{w0:World}
end
end D2
section
open Go.ChangeShapes Go.WideShapes Go.ChangeAt
theorem zcQ:Try.prog.cellsOf 23=1:=kr
theorem zcR:Try.prog.cellsOf 64=4:=kr
theorem xS {x:Int}(h:(Lit.int .u64 x).wf=true):Wd x:=by
 have hmin:UI.min=0:=rfl;have hmax:UI.max=0xffffffffffffffff:=rfl;simp only[Lit.wf,Qm,decide_eq_true_eq]at h;unfold Wd;omega
theorem zcS {α:Type}(l:List α)(h:(⟨l⟩:Array α).size=9):∃a b c d e f g i j,l=[a,b,c,d,e,f,g,i,j]:=by
 match l,h with
 | [a,b,c,d,e,f,g,i,j],_=>exact⟨a,b,c,d,e,f,g,i,j,rfl⟩
theorem uV {H:Type}{enc:TypeId×Value->H}{W:World}{b0:Nat}{sp:Nat->Bool}{held:Bool}{x:DataW H×List MemPlace}{fuel:Nat}{c0 c1 c2 c3:Value}
 (hf:QP enc Try.prog W b0 sp held fuel 64 [c0,c1,c2,c3]=some x):∃n:Nat,n<big/\c0=.int .u64 (w0 n)/\c1=.int .u64 (w1 n)/\c2=.int .u64 (w2 n)/\c3=.int .u64 (w3 n):=by
 obtain⟨y0,y1,y2,y3,m,hx,hy0,hy1,hy2,hy3⟩:=trod_array4 Try.underlying64 zcQ hf;obtain⟨x0,e0,rfl,w0⟩:=R6 Try.underlying23 hy0;obtain⟨x1,e1,rfl,w1⟩:=R6 Try.underlying23 hy1;obtain⟨x2,e2,rfl,w2⟩:=R6 Try.underlying23 hy2;obtain⟨x3,e3,rfl,w3⟩:=R6 Try.underlying23 hy3;simp at e0 e1 e2 e3;subst e0 e1 e2 e3;obtain⟨n,hn,g0,g1,g2,g3⟩:=zcl (xS w0) (xS w1) (xS w2) (xS w3);exact⟨n,hn,by rw[g0],by rw[g1],by rw[g2],by rw[g3]⟩
end
inductive Fo
 | nil
 | cons (l:Bool) (s:Qa) (k r:Fo)
def dgI:Nat->Nat->List UInt8
 | 0,_=>[]
 | m+1,n=>if n=0 then [] else dgI m (n / 256)++ [UY n]
def dg (n:Nat):List UInt8:=dgI 8 n
def hd (f n:Nat):List UInt8:=if n<=55 then [UY (f+n)] else UY (f+55+(dg n).length)::dg n
section
variable {l:Bool}{s:Qa}{n y:Nat}{k:Fo}
end
section
variable {P:Program}{N:Nat}{ops:Array Oper}{i:Nat}{r:List Nat}{K:Env->World->Prop}{ρ:Env}{w:World}{w0:World}{l E:Qb}
end
section
variable {P:Program}{ops:Array Oper}{R:(Nat->D2.Gh)->Env}{i:Nat}{d:Option Nat}{w0:World}{p:Nat}{T e:TypeId}{out':List UInt8}{bx:Nat×Obj}{E:Qb}{q:Nat}
end
section
variable {P:Program}{ops:Array Oper}{R:(Nat->D2.Gh)->Env}{i:Nat}{d:Option Nat}{w0:World}{l:Qb}{q:Nat}
end
structure X3 where
 l:Bool
 s:Qa
 p:Qc
 n:Nat
 c:Nat
 k:Fo
def val (l:List UInt8):Nat:=l.foldl (fun n b=>n*256+b.toNat) 0
theorem rwB (s:Qa)(h:Qu s<=maxLen):Rw 1 (yy (tl s)).toArray (Qu s) (Qu s) (yy (tl s)):=
 ⟨by rw[xG,xF];omega,Qs _,h,by rw[Qq (by simp[xG,xF])],by simp[xG,xF]⟩
theorem zcT {P:Program}{ρ:Env}{t e:TypeId}{bytes:Nat}(ht:zV P t=some (e,1,bytes)){x y:Operand}{o:Oper}{kd:IntKind}(b n c:Nat)(ho:o.op=.indexAddr t x y)(hx:ev ρ x=Qf b n c)(hy:ev ρ y=.int kd 0)(hk:0<n):
 ∀w,(execOp (ev ρ) o).run P w=.ok (.value (Qe b)) w:=fun w=>
 vX (P:=P) (kd:=kd) ht b 0 n c 0 ho hx hy hk w
theorem zcU (s:Qa)(hs:Qu s<=0x800000000000):Fn Try.prog 30 #[.string s] (.string s):=by
 refine Fn.intro (c:=zk Try.f30) [.tmp 2] 18 Try.func30 kr kr kr fun w=>?_;have H0:=St.start w;refine zg [0] kr kr<|zn (some 2) (.string (⟨#[]⟩)) (fun w=>by kernel_rfl) kr<|zc<|zb kr<|zg [0,1,2] kr kr<|zn (some 4) (.string s) (fun w=>by kernel_rfl) kr<|zn (some 5) (.int .i64 (Qu s:Int)) (fun w=>by kernel_rfl) kr ?_;by_cases hc1:(Qu s:Nat)=0
 ·refine jP (some 6) (.bool ((Qu s:Int)==0)) (.bool true) (fun w=>by kernel_rfl) (za (beq_iff_eq.2 (by omega))) kr<|zc<|zN kr kr<|zg [0] kr kr<|zn (some 2) (.string (⟨#[]⟩)) (fun w=>by kernel_rfl) kr<|zc<|zT kr<|wV ?_;refine⟨[.string (⟨#[]⟩)],(.tmp (.string (⟨#[]⟩)) kr .nil),?_,H0.below⟩;exact congrArg Value.string (uA (List.eq_nil_of_length_eq_zero (by rw[xF];omega):tl s=[]).symm)
 ·refine jP (some 6) (.bool ((Qu s:Int)==0)) (.bool false) (fun w=>by kernel_rfl) (za (beq_eq_false_iff_ne.2 (by omega))) kr<|zc<|zE kr kr<|zM kr<|wW<|zg [0,1,2,3] kr kr<|zn (some 7) (.string s) (fun w=>by kernel_rfl) kr<|zn (some 8) (.int .i64 (Qu s:Int)) (fun w=>by kernel_rfl) kr<|zbZ H0 (some 9) 70 5 1 (.int .u8 0) (.tmp 8) (.tmp 8) .i64 .i64 (Qu s) kr kr kr kr rfl kr kr (by omega) (by unfold maxLen;omega) ?_;intro b_1 cur_2 w1 H1 hr_3;clear H0;have hr_3z:Rw 1 cur_2 (Qu s) (Qu s) (yy (List.replicate (Qu s) 0)):=by rw[zb4];exact hr_3
  refine zn (some 3) (Qf b_1 (Qu s) (Qu s)) (fun w=>by kernel_rfl) kr<|zc<|zg [0,1,2] kr kr<|zn (some 10) (Qf b_1 (Qu s) (Qu s)) (fun w=>by kernel_rfl) kr<|zn (some 11) (.string s) (fun w=>by kernel_rfl) kr<|zb5 H1 (some 12) 70 9 5 1 (.tmp 10) (.tmp 11) 0 b_1 (Qu s) (Qu s) s cur_2 ((yy (tl s)).toArray) 5 [(b_1,Qk ((yy (tl s)).toArray) 5)] kr kr kr kr kr kr (by omega) (Nat.le_of_eq (by have h:=hr_3z.sz;rw[h];omega)) (by rw[List.drop_of_length_le (by have h:=hr_3z.sz;rw[QD,h];omega),RD]) kr ?_;intro w2 H2;clear H1;refine zc<|zg [0,1,2,3,4,5] kr kr<|zn (some 13) (Qf b_1 (Qu s) (Qu s)) (fun w=>by kernel_rfl) kr<|zbL (some 14) _ (Qe b_1) kr kr (fun o w ho=>zcT (kd:=.i64) (t:=70) (e:=5) (bytes:=1) kr (x:=(.tmp 13)) (y:=(.const (.int .i64 0))) b_1 (Qu s) (Qu s) ho kr kr (by omega) w)<|zn (some 15) (Qf b_1 (Qu s) (Qu s)) (fun w=>by kernel_rfl) kr<|zn (some 16) (.int .i64 (Qu s:Int)) (fun w=>by kernel_rfl) kr<|zb6 H2 (some 17) 71 3 5 (.tmp 14) (.tmp 16) (Qu s) (Qu s) (tl s) kr kr kr kr rfl kr kr (rwB s (by unfold maxLen;omega)) (by omega) (by omega) ?_;intro w3 H3;clear H2;refine zn (some 2) (.string (ji (tl s))) (fun w=>by kernel_rfl) kr<|zc<|zT kr<|wV ?_;refine⟨[.string (ji (tl s))],(.tmp (.string (ji (tl s))) kr .nil),?_,H3.below⟩;rfl
theorem zcV (s:Qa)(hs:Qu s<=0x800000000000):Fn Try.prog 19 #[.string s] (.string s):=by
 refine Fn.intro (c:=zk Try.f19) [.tmp 2] 5 Try.func19 kr kr kr fun w=>?_;have H0:=St.start w;refine zg [0] kr kr<|zn (some 2) (.string (⟨#[]⟩)) (fun w=>by kernel_rfl) kr<|zc<|zg [0,1,2] kr kr<|zn (some 3) (.string s) (fun w=>by kernel_rfl) kr<|qQ H0 (some 4) 30 #[.string s] (.string s) (zcU s (by omega)) (fun w=>by kernel_rfl) kr ?_;intro w1 H1;clear H0;refine zn (some 2) (.string s) (fun w=>by kernel_rfl) kr<|zc<|zT kr<|wV ?_;refine⟨[.string s],(.tmp (.string s) kr .nil),?_,H1.below⟩;rfl
theorem jE (s:Qa)(hs:Qu s<=1000000):Fn Try.prog 19 #[.string s] (.string s):=zcV s (by omega)
section
variable {P:Program}{N:Nat}{ops:Array Oper}{i:Nat}{r:List Nat}{K:Env->World->Prop}{ρ:Env}{w:World}{B:Nat}{w0:World}{l:Qb}
end
section
variable {P:Program}{N:Nat}{ops:Array Oper}{Q:Exit->Env->World->Prop}{K:Env->World->Prop}{ρ:Env}{w:World}{i:Nat}{r:List Nat}{c:Code}
end
section
variable {P:Program}{N:Nat}{ops:Array Oper}{Q:Exit->Env->World->Prop}{K:Env->World->Prop}{ρ:Env}{w w0:World}{i B:Nat}{r:List Nat}{l:Qb}
end
namespace D2
section
variable {P:Program}{N:Nat}{ops:Array Oper}{Q:Exit->Env->World->Prop}{K:Env->World->Prop}{ρ:Env}{w:World}{vs:List (Option Nat×(Gh->Value))}{pre:(Nat->Bool)->(Nat->Gh)->World->Prop}{Bad:List PanicEntry->World->Prop}
end
end D2
section
variable {P:Program}{ρ:Env}{w w0:World}{B:Nat}{l:Qb}
end
section
variable {B:Nat}{w0:World}{t:Qa}{b2 b3 b4:Nat}{p:Qc}{n c:Nat}{row:Qb}{M:List X3}{L0:Qb}{L:Nat->Bool}{g:Nat->D2.Gh}{w:World}
end
section
variable {P:Program}{N:Nat}{ops:Array Oper}{Q:Exit->Env->World->Prop}{K:Env->World->Prop}{ρ:Env}{w:World}{i:Nat}{ds:List Deferred}
variable {c:Code}
end
section
variable {P:Program}{N:Nat}{ops:Array Oper}{ρ:Env}{w w':World}{i:Nat}{ds:List Deferred}{c:Code}{rest:List Nat}{a:Act}{cs:List Frame}
variable {Q:Exit->Act->List Frame->World->Prop}
end
section
variable {P:Program}{N:Nat}{ops:Array Oper}{ρ:Env}{w w':World}{i:Nat}{rest:List Nat}{a:Act}{Q:Exit->Act->World->Prop}
end
section
variable {P:Program}{N:Nat}{ops:Array Oper}{K:Env->World->Prop}{ρ:Env}{w w0:World}{i B:Nat}{r:List Nat}{l:Qb}
end
theorem zcW {s:Qa}(h:s.size=0):s=⟨#[]⟩:=by
 obtain⟨d⟩:=s;have:d=#[]:=Array.eq_empty_of_size_eq_zero h;rw[this]
section
open D2 (Gh)
end
section
variable {B:Nat}{w0:World}{bq bf bk:Nat}{qO kO:Obj}{p:Qc}{i c:Nat}{row:Qb}{M:List (El (Nat×Qa))}{ok:El (Nat×Qa)->Qb->Prop}{T:Qb}{L:Nat->Bool}{g:Nat->D2.Gh}{w w':World}
end
section
variable {B:Nat}{w0:World}{bd b2 bo:Nat}{dO bO:Obj}{kv:Value}{cur:Qd}{N en:Nat}{row:Qb}{xs:List Value}{T:Qb}{L:Nat->Bool}{g:Nat->D2.Gh}{w:World}
end
theorem uW {A B:Nat}(h:A<B):cm A B<0:=by unfold cm;split<;>(try split)<;>omega
theorem uX {A B:Nat}(h: ¬A<B): ¬cm A B<0:=by unfold cm;split<;>(try split)<;>omega
section
section
variable {p H Q:Nat}
end
open Go Go.RowKit Go.Proofs.Zm
end
section
open Go.ChangeShapes Go.WideShapes Go.ChangeAt
def bn (A:Nat):List Int:=[w3 A / 72057594037927936%256,w3 A / 281474976710656%256,w3 A / 1099511627776%256,w3 A / 4294967296%256,w3 A / 16777216%256,w3 A / 65536%256,w3 A / 256%256,w3 A%256,w2 A / 72057594037927936%256,w2 A / 281474976710656%256,w2 A / 1099511627776%256,w2 A / 4294967296%256,w2 A / 16777216%256,w2 A / 65536%256,w2 A / 256%256,w2 A%256,w1 A / 72057594037927936%256,w1 A / 281474976710656%256,w1 A / 1099511627776%256,w1 A / 4294967296%256,w1 A / 16777216%256,w1 A / 65536%256,w1 A / 256%256,w1 A%256,w0 A / 72057594037927936%256,w0 A / 281474976710656%256,w0 A / 1099511627776%256,w0 A / 4294967296%256,w0 A / 16777216%256,w0 A / 65536%256,w0 A / 256%256,w0 A%256]
def bs (A:Nat):Qa:=strOfNums (bn A)
theorem zcX (w:World)(O:Obj)(xs:List Int)(n:Nat)(hn:xs.length=n)(C:Qd)(hC:C=(xs.map (Vb .u8)).toArray):
 (convert 70 9 (.slice (some ⟨w.heap.size+1,0,none⟩) n n)).run Try.prog ((w.alloc O).alloc (.cells C 107))=.ok (.string (strOfNums xs)) ((w.alloc O).alloc (.cells C 107)):=by
 subst hC;refine run_convert_bytes_arg _ 70 5 Try.underlying70 Try.underlying5 _ 0 n n xs hn ?_ 9 Try.underlying9;intro i hi;have h:=heap_alloc2_new w O (.cells (xs.map (Vb .u8)).toArray 107);rw[cell_of_row _ _ _ _ _ _ h];have hi':i<xs.length:=by omega
 simp[hi']
theorem zcY (A:Nat)(hA:A<big)(w:World):Calls Try.prog 86 #[uv A] w fun e w'=>e=.returned (.string (bs A))/\Below w.heap.size w w':=by
 have hc:=fun (O:Obj)=>zcX w O (bn A) 32 rfl _ rfl;simp only[bn,QK,R5]at hc;unfold uv
 go_enter Try.func86,Try.ntmps86
 go_wp2
 go_rounds 33
 go_ret
 exact⟨rfl,by go_grown⟩
theorem xT (A:Nat):(bs A).size=32:=rfl
end
def inN (a:Nat):Bool:= !decide (a=0)&&decide (a<NR)
def jF (a:Nat):Bool:=decide (a<yu 0 a NR)
theorem zcZ {a:Nat}(h: ¬a=0):inN a=decide (a<NR):=by unfold inN;rw[decide_eq_false h];rfl
def qj (r s:Nat)(v:Int):Bool:=inN r&&jF s&&(decide (v=0)||decide (v=1))
def sgv (r s:Nat)(v:Int):Value:=.agg #[.int .u64 (w0 r),.int .u64 (w1 r),.int .u64 (w2 r),.int .u64 (w3 r),.int .u64 (w0 s),.int .u64 (w1 s),.int .u64 (w2 s),.int .u64 (w3 s),.int .i64 v]
def sbs (r s:Nat)(v:Int):Qa:=(bs r++bs s)++strOfNums [RO.wrap v]
theorem zc0 (a b:Qa):(a++b).size=a.size+b.size:=ByteArray.size_append
theorem zc1 (a:Nat)(ha:a<big)(h:a=0):Fn Try.prog 90 #[uv a] (.bool false):=by
 refine Fn.intro (c:=zk Try.f90) [.tmp 2] 18 Try.func90 kr kr kr fun w=>?_;have H0:=St.start w;refine rS [.b,.v] H0 kr fun gs1 w1 H1=>?_;clear H0;refine rS [.c xR,.v,.v,.v,.a,.s 1,.v] H1 kr fun gs2 w2 H2=>?_;clear H1;refine rS [.l 0,.v,.oe (ins:=[((.tmp 9),uv a),((.tmp 10),.agg #[wZ,wZ,wZ,wZ])]) (v:=.bool (!decide (a=0))) (v':=.bool false) (fun ρ o w ho hi=>xe (x:=(.tmp 9)) (y:=(.tmp 10)) a 0 ha (by unfold big;omega) w ho hi.1 hi.2.1) (by rw[decide_eq_true h]<;>rfl),.v,.n,.n,.n,.n,.v,.v] H2 kr fun gs3 w3 H3=>?_;clear H2;refine zT kr<|wV ?_;refine⟨[.bool false],(.tmp (.bool false) kr .nil),?_,H3.below⟩;rfl
theorem zc2 (a:Nat)(ha:a<big)(h: ¬a=0)(h2: ¬a<NR):Fn Try.prog 90 #[uv a] (.bool false):=by
 refine Fn.intro (c:=zk Try.f90) [.tmp 2] 18 Try.func90 kr kr kr fun w=>?_;have H0:=St.start w;refine rS [.b,.v] H0 kr fun gs1 w1 H1=>?_;clear H0;refine rS [.c xR,.v,.v,.v,.a,.s 1,.v] H1 kr fun gs2 w2 H2=>?_;clear H1;refine rS [.l 0,.v,.oe (ins:=[((.tmp 9),uv a),((.tmp 10),.agg #[wZ,wZ,wZ,wZ])]) (v:=.bool (!decide (a=0))) (v':=.bool true) (fun ρ o w ho hi=>xe (x:=(.tmp 9)) (y:=(.tmp 10)) a 0 ha (by unfold big;omega) w ho hi.1 hi.2.1) (by rw[decide_eq_false h]<;>rfl),.v,.l 0,.l 1,.c (xd a NR ha qi.1),.E (.bool (decide (cm a NR<0))) (.bool false) (za (decide_eq_false (uX h2))),.v,.v] H2 kr fun gs3 w3 H3=>?_;clear H2;refine zT kr<|wV ?_;refine⟨[.bool false],(.tmp (.bool false) kr .nil),?_,H3.below⟩;rfl
theorem zc3 (a:Nat)(ha:a<big)(h: ¬a=0)(h2:a<NR):Fn Try.prog 90 #[uv a] (.bool true):=by
 refine Fn.intro (c:=zk Try.f90) [.tmp 2] 18 Try.func90 kr kr kr fun w=>?_;have H0:=St.start w;refine rS [.b,.v] H0 kr fun gs1 w1 H1=>?_;clear H0;refine rS [.c xR,.v,.v,.v,.a,.s 1,.v] H1 kr fun gs2 w2 H2=>?_;clear H1;refine rS [.l 0,.v,.oe (ins:=[((.tmp 9),uv a),((.tmp 10),.agg #[wZ,wZ,wZ,wZ])]) (v:=.bool (!decide (a=0))) (v':=.bool true) (fun ρ o w ho hi=>xe (x:=(.tmp 9)) (y:=(.tmp 10)) a 0 ha (by unfold big;omega) w ho hi.1 hi.2.1) (by rw[decide_eq_false h]<;>rfl),.v,.l 0,.l 1,.c (xd a NR ha qi.1),.E (.bool (decide (cm a NR<0))) (.bool true) (za (decide_eq_true (uW h2))),.v,.v] H2 kr fun gs3 w3 H3=>?_;clear H2;refine zT kr<|wV ?_;refine⟨[.bool true],(.tmp (.bool true) kr .nil),?_,H3.below⟩;rfl
theorem zc4 (a:Nat)(ha:a<big):Fn Try.prog 90 #[uv a] (.bool (inN a)):=by
 by_cases h:a=0
 ·have:=zc1 a ha h;subst h;exact this
 ·rw[zcZ h];by_cases h2:a<NR
  ·rw[decide_eq_true h2];exact zc3 a ha h h2
  ·rw[decide_eq_false h2];exact zc2 a ha h h2
theorem uY (a:Nat)(ha:a<big):Fn Try.prog 96 #[uv a] (uv (yu 0 a NR)):=by
 refine Fn.intro (c:=zk Try.f96) [.cell 2 64] 12 Try.func96 kr kr kr fun w=>?_;have H0:=St.start w;refine rS [.b,.a] H0 kr fun gs1 w1 H1=>?_;clear H0;refine rS [.v,.l 0,.c (zcP 0 a (by unfold big;omega) ha),.v,.v,.v,.a,.s 2,.v] H1 kr fun gs2 w2 H2=>?_;clear H1;refine rS [.l 2,.s 1] H2 kr fun gs3 w3 H3=>?_;clear H2;refine zT kr<|wV ?_;refine⟨[uv (yu 0 a NR)],(.agg (b:=(gs1 1).b) (Qj (uv (yu 0 a NR))) 64 (0,0) kr (H3.get 1 kr) kr .nil),?_,H3.below⟩;rfl
theorem zc5 (a:Nat)(ha:a<big)(h:a<yu 0 a NR):Fn Try.prog 91 #[uv a] (.bool true):=by
 refine Fn.intro (c:=zk Try.f91) [.tmp 2] 8 Try.func91 kr kr kr fun w=>?_;have H0:=St.start w;refine rS [.b,.v] H0 kr fun gs1 w1 H1=>?_;clear H0;refine dS [.l 0,.l 0,.c (uY a ha),.c (xd a (yu 0 a NR) ha (uT qi)),.E (.bool (decide (cm a (yu 0 a NR)<0))) (.bool true) (za (decide_eq_true (uW h))),.v] H1 kr fun w2 H2=>?_;clear H1;refine zT kr<|wV ?_;refine⟨[.bool true],(.tmp (.bool true) kr .nil),?_,H2.below⟩;rfl
theorem zc6 (a:Nat)(ha:a<big)(h: ¬a<yu 0 a NR):Fn Try.prog 91 #[uv a] (.bool false):=by
 refine Fn.intro (c:=zk Try.f91) [.tmp 2] 8 Try.func91 kr kr kr fun w=>?_;have H0:=St.start w;refine rS [.b,.v] H0 kr fun gs1 w1 H1=>?_;clear H0;refine dS [.l 0,.l 0,.c (uY a ha),.c (xd a (yu 0 a NR) ha (uT qi)),.E (.bool (decide (cm a (yu 0 a NR)<0))) (.bool false) (za (decide_eq_false (uX h))),.v] H1 kr fun w2 H2=>?_;clear H1;refine zT kr<|wV ?_;refine⟨[.bool false],(.tmp (.bool false) kr .nil),?_,H2.below⟩;rfl
theorem zc7 (a:Nat)(ha:a<big):Fn Try.prog 91 #[uv a] (.bool (jF a)):=by
 unfold jF;by_cases h:a<yu 0 a NR
 ·rw[decide_eq_true h];exact zc5 a ha h
 ·rw[decide_eq_false h];exact zc6 a ha h
theorem uZ (r s:Nat)(hr:r<big)(hs:s<big)(v:Int):Fn Try.prog 85 #[sgv r s (v)] (.bool (qj r s v)):=by
 refine Fn.intro (c:=zk Try.f85) [.tmp 2] 21 Try.func85 kr kr kr fun w=>?_;have H0:=St.start w;refine rS [.b,.v] H0 kr fun gs1 w1 H1=>?_;clear H0;refine zg [0,1,2,3,4,5,6,7,8,9,10,11,12,13,14,15,16,17,18] kr kr<|rp [.v,.l 0,.c (zc4 r hr)] H1 kr fun gs2 w2 H2=>wX [3,4,5,6,7,8,9,10,11,12,13,14,15,16,17,18] ?_;clear H1;refine Or.elim (Bool.eq_false_or_eq_true (inN r)).symm (fun hb1=>?_) (fun hb1=>?_)
 ·refine jx 5 (v:=.bool (inN r)) (v':=.bool false) (za hb1) kr<|rp [.v,.n,.n,.n,.v,.v,.n,.n,.n,.n] H2 kr fun gs3 w3 H3=>wX [13,14,15,16,17,18] ?_;clear H2;refine ju (some 16) kr kr<|ju (some 17) kr kr<|ju (some 18) kr kr<|rp [.n,.v,.v] H3 kr fun gs4 w4 H4=>wX [] ?_;clear H3;refine zc<|zT kr<|wV ?_;refine⟨[.bool false],(.tmp (.bool false) kr .nil),?_,H4.below⟩;exact congrArg UG (by unfold qj;simp[hb1]<;>omega)
 ·refine jx 5 (v:=.bool (inN r)) (v':=.bool true) (za hb1) kr<|rp [.v,.v,.l 0,.c (zc7 s hs)] H2 kr fun gs5 w5 H5=>wX [7,8,9,10,11,12,13,14,15,16,17,18] ?_;clear H2;refine Or.elim (Bool.eq_false_or_eq_true (jF s)).symm (fun hb2=>?_) (fun hb2=>?_)
  ·refine jx 9 (v:=.bool (jF s)) (v':=.bool false) (za hb2) kr<|rp [.v,.v,.n,.n,.n,.n] H5 kr fun gs6 w6 H6=>wX [13,14,15,16,17,18] ?_;clear H5;refine ju (some 16) kr kr<|ju (some 17) kr kr<|ju (some 18) kr kr<|rp [.n,.v,.v] H6 kr fun gs7 w7 H7=>wX [] ?_;clear H6;refine zc<|zT kr<|wV ?_;refine⟨[.bool false],(.tmp (.bool false) kr .nil),?_,H7.below⟩;exact congrArg UG (by unfold qj;simp[hb1,hb2]<;>omega)
  ·refine jx 9 (v:=.bool (jF s)) (v':=.bool true) (za hb2) kr<|rp [.v,.v,.v,.l 0] H5 kr fun gs8 w8 H8=>wX [11,12,13,14,15,16,17,18] ?_;clear H5;by_cases hc1:(v:Int)=0
   ·refine rp [.E (.bool (v==0)) (.bool true) (za (beq_iff_eq.2 (by omega))),.v,.n,.n,.n,.v,.v,.v] H8 kr fun gs9 w9 H9=>wX [] ?_;clear H8;refine zc<|zT kr<|wV ?_;refine⟨[.bool true],(.tmp (.bool true) kr .nil),?_,H9.below⟩;exact congrArg UG (by unfold qj;simp[hb1,hb2]<;>omega)
   ·refine rp [.E (.bool (v==0)) (.bool false) (za (beq_eq_false_iff_ne.2 (by omega))),.v,.v,.l 0] H8 kr fun gs10 w10 H10=>wX [15,16,17,18] ?_;clear H8;by_cases hc2:(v:Int)=1
    ·refine rp [.E (.bool (v==1)) (.bool true) (za (beq_iff_eq.2 (by omega))),.v,.v,.v] H10 kr fun gs11 w11 H11=>wX [] ?_;clear H10;refine zc<|zT kr<|wV ?_;refine⟨[.bool true],(.tmp (.bool true) kr .nil),?_,H11.below⟩;exact congrArg UG (by unfold qj;simp[hb1,hb2]<;>omega)
    ·refine rp [.E (.bool (v==1)) (.bool false) (za (beq_eq_false_iff_ne.2 (by omega))),.v,.v,.v] H10 kr fun gs12 w12 H12=>wX [] ?_;clear H10;refine zc<|zT kr<|wV ?_;refine⟨[.bool false],(.tmp (.bool false) kr .nil),?_,H12.below⟩;exact congrArg UG (by unfold qj;simp[hb1,hb2]<;>omega)
end Go.Proofs.Ytdaeahhkiilbaaa
namespace Go.Proofs.Kec
end Go.Proofs.Kec
namespace Go.Proofs.Ytdaeahhkiilbaaa
namespace Ke
open Go.Proofs.Kec
end Ke
section
open Go.Proofs.Kec
end
section
open Go.Proofs.Kec Ke
theorem zaa (A:Nat)(hA:A<big):Fn Try.prog 86 #[uv A] (.string (bs A)):=zcY A hA
end
section
open Go.ChangeShapes Go.WideShapes Go.ChangeAt
end
theorem zc8 (r s:Nat)(hr:r<big)(hs:s<big)(v:Int)(hm:qj r s v=false):Fn Try.prog 75 #[sgv r s (v)] (.tuple #[.string ⟨#[]⟩,.int .i64 1]):=by
 refine Fn.intro (c:=zk Try.f75) [.tmp 2,.tmp 3] 20 Try.func75 kr kr kr fun w=>?_;have H0:=St.start w;refine rS [.b,.v,.v] H0 kr fun gs1 w1 H1=>?_;clear H0;refine zb kr<|zg [0,1,2] kr kr<|rp [.l 0,.c (uZ r s hr hs (v))] H1 kr fun gs2 w2 H2=>wX [2] ?_;clear H1;refine jx 5 (v:=.bool (qj r s (v))) (v':=.bool false) (za hm) kr<|rp [.v] H2 kr fun gs3 w3 H3=>wX [] ?_;clear H2;refine zc<|zN kr kr<|rS [.v,.v] H3 kr fun gs4 w4 H4=>?_;clear H3;refine zT kr<|wV ?_;refine⟨[.string (⟨#[]⟩),.int .i64 1],(.tmp (.string (⟨#[]⟩)) kr (.tmp (.int .i64 1) kr .nil)),?_,H4.below⟩;rfl
theorem zc9 (r s:Nat)(hr:r<big)(hs:s<big)(v:Int)(hm:qj r s v=true):Fn Try.prog 75 #[sgv r s (v)] (.tuple #[.string (sbs r s v),.int .i64 0]):=by
 refine Fn.intro (c:=zk Try.f75) [.tmp 2,.tmp 3] 20 Try.func75 kr kr kr fun w=>?_;have H0:=St.start w;refine rS [.b,.v,.v] H0 kr fun gs1 w1 H1=>?_;clear H0;refine zb kr<|zg [0,1,2] kr kr<|rp [.l 0,.c (uZ r s hr hs (v))] H1 kr fun gs2 w2 H2=>wX [2] ?_;clear H1;refine jx 5 (v:=.bool (qj r s (v))) (v':=.bool true) (za hm) kr<|rp [.v] H2 kr fun gs3 w3 H3=>wX [] ?_;clear H2;refine zc<|zE kr kr<|zM kr<|wW<|dSg (fun gs4=>[.v,.l 0,.c (f:=86) (args:=#[uv r]) (v:=.string (bs r)) (zaa r hr),.v,.l 0,.c (f:=86) (args:=#[uv s]) (v:=.string (bs s)) (zaa s hs),.o (ins:=[((.tmp 9),.string (bs r)),((.tmp 12),.string (bs s))]) (v:=.string ((bs r)++(bs s))) (fun ρ o w ho hi=>uz (t:=9) (t':=9) (x:=(.tmp 9)) (y:=(.tmp 12)) (bs r) (bs s) w ho hi.1 hi.2.1 (by rw[xT,xT];omega)),.v,.l 0,.v,.nw (fun b=>Qf b 1 1) #[.int .u8 (RO.wrap v)] 5,.x (ins:=[((.tmp 17),Qf (gs4 10).b 1 1)]) [(1,((gs4 10).b,Qk #[.int .u8 (RO.wrap v)] 5 (0,0)))] (zb2 (t:=70) (t':=9) (e:=5) [(RO.wrap v)] kr kr kr (Rw.lit #[.int .u8 (RO.wrap v)] 1 (by rfl) (by unfold maxLen;omega))),.o (ins:=[((.tmp 13),.string ((bs r)++(bs s))),((.tmp 18),.string (strOfNums ([(RO.wrap v)])))]) (v:=.string (((bs r)++(bs s))++(strOfNums ([(RO.wrap v)])))) (fun ρ o w ho hi=>uz (t:=9) (t':=9) (x:=(.tmp 13)) (y:=(.tmp 18)) ((bs r)++(bs s)) (strOfNums ([(RO.wrap v)])) w ho hi.1 hi.2.1 (by rw[zc0,xT,xT];show 32+32+1<=_;omega)),.v,.v]) H3 kr fun gs4 w4 H4=>?_;clear H3;refine zT kr<|wV ?_;refine⟨[.string (((bs r)++(bs s))++(strOfNums ([(RO.wrap v)]))),.int .i64 0],(.tmp (.string (((bs r)++(bs s))++(strOfNums ([(RO.wrap v)])))) kr (.tmp (.int .i64 0) kr .nil)),?_,H4.below⟩;rfl
def hv:List UInt8->List UInt8
 | []=>[]
 | b::t=>(b >>> 4)::(b &&& 15)::hv t
def isP (l:List UInt8):Bool:=l.all fun b=>decide (b.toNat<=15)
def jn:List UInt8->List UInt8
 | a::b::t=>(a <<< 4 ||| b)::jn t
 | _=>[]
theorem jG {l:List Value}(h:l.all (·.oneCell')=true): ∀u∈l,u.oneCell'=true:=fun u hu=>List.all_eq_true.1 h u hu
def zf:List UInt8->List UInt8->Bool
 | [],[]=>false
 | [],_::_=>true
 | _::_,[]=>false
 | a::l,b::m=>if a.toNat<b.toNat then true else if a=b then zf l m else false
theorem zda (l:List UInt8):zf l []=false:=by cases l<;>rfl
theorem xU: ∀l:List UInt8,zf l l=false
 | []=>rfl
 | a::l=>by simp only[zf,UB,if_false,if_true];exact xU l
theorem zab {a b:UInt8}{l m:List UInt8}(h:zf (a::l) (b::m)=true):a.toNat<b.toNat\/(a=b/\zf l m=true):=by
 unfold zf at h;split at h
 ·rename_i q;exact .inl q
 ·split at h
  ·rename_i q;exact .inr ⟨q,h⟩
  ·cases h
theorem jj {x y z:List UInt8} :zf x y=true->zf y z=true->zf x z=true:=by
 induction x generalizing y z with
 | nil=>
  intro h1 h2;cases z with
  | nil=>rw[zda]at h2;cases h2
  | cons c z=>rfl
 | cons a x ih=>
  intro h1 h2;cases y with
  | nil=>cases h1
  | cons b y=>
   cases z with
   | nil=>cases h2
   | cons c z=>
    unfold zf;rcases zab h1 with q1 | ⟨rfl,q1⟩<;>rcases zab h2 with q2 | ⟨rfl,q2⟩
    ·rw[if_pos (by omega)]
    ·rw[if_pos q1]
    ·rw[if_pos q2]
    ·rw[if_neg (UB _),if_pos rfl];exact ih q1 q2
structure Nd where
 kind:Int
 part:Qa
 value:Qa
 kids:List Int
def kyB (l:List UInt8):Bool:=isP l&& !decide (l.length%2=1)
def kyS (l:List UInt8):Qa:=bif kyB l then ji (jn l) else ⟨#[]⟩
theorem yb {P:Program}{ρ:Env}{t e:TypeId}{size bytes:Nat}(ht:zV P t=some (e,size,bytes)){x z:Operand}{o:Oper}{kz:IntKind}(b q n c j:Nat)(ho:o.op=.slice t x (some z) none none)(hx:ev ρ x=.slice (some ⟨b,q,none⟩) n c)
 (hz:ev ρ z=.int kz (j:Int)) (hj:j<=n) (hn:n<=c):
 ∀w,(execOp (ev ρ) o).run P w=.ok (.value (.slice (some ⟨b,if c=j then q else q+j*size,none⟩) (n-j) (c-j))) w:=fun w=>by
 obtain⟨it,z',hu,hi,hz',hsz,hby,hzs,h0⟩:=yM ht;have hS:(sizeOf e).run P w=.ok size w:=by simp[sizeOf,typeInfo,hi,hsz]
 unfold execOp;by_cases hc:c=j
 ·have hnj:n=j:=by omega
  subst hc hnj;simp[ho,hx,hz,UD,UL,Uc,Ui,asIntOf,run_underlying hu,hS]
 ·simp[ho,hx,hz,UD,UL,Uc,Ui,asIntOf,run_underlying hu,hS,hj,qf,hc]
section
variable {P:Program}{N:Nat}{ops:Array Oper}{i:Nat}{r:List Nat}{K:Env->World->Prop}{ρ:Env}{w:World}
end
abbrev Pr:=Qa×Qa
def zdb (k v:Qa):Bool:=(decide (1<=k.size)&&decide (k.size<=32))&&(decide (1<=v.size)&&decide (v.size<=500))
def zdc (part:List UInt8)(v:Qa)(ps:List Pr):List Pr:=if zdb (kyS part) v=true then ps++ [(kyS part,v)] else ps
def zdd (kind:Int)(i:Nat):List UInt8:=if kind=3 then [UY i] else []
def ve (go:Int->List UInt8->Nat×List Pr->Nat×List Pr)(x:Nd)(part:List UInt8):Nat->Nat×List Pr->Nat×List Pr
 | 0,s=>s
 | i+1,s=>if x.kids.getD i (-1)= -1 then ve go x part i s else go (x.kids.getD i (-1)) (part++zdd x.kind i) (ve go x part i s)
def zac (A:List Nd):Nat->Int->List UInt8->Nat×List Pr->Nat×List Pr
 | 0,_,_,s=>s
 | f+1,at_,ahead,s=>
  if s.1=0\/at_<0\/(A.length:Int)<=at_ then s
  else match A[at_.toNat]? with
   | none=>s
   | some x=>if 64<ahead.length+x.part.size then (s.1-1,s.2)
    else ve (zac A f) x (ahead++tl x.part) 16 (s.1-1,zdc (ahead++tl x.part) x.value s.2)
section
variable {P:Program}{N:Nat}{ops:Array Oper}{i:Nat}{r:List Nat}{K:Env->World->Prop}{ρ:Env}{w:World}
end
theorem zad: ∀x y:List UInt8,RZ x y=zf x y
 | [],[]=>rfl
 | [],_::_=>rfl
 | _::_,[]=>rfl
 | a::x,b::y=>by
  unfold RZ zf;rw[zad x y];by_cases h:a.toNat<b.toNat
  ·rw[if_pos h,decide_eq_true (show a<b from h)];rfl
  ·rw[if_neg h,decide_eq_false (show ¬a<b from h)];by_cases e:a=b
   ·rw[if_pos e,e];simp
   ·rw[if_neg e];simp[e]
theorem jH (a b:Qa):RZ a.toList b.toList=zf (tl a) (tl b):=by
 rw[ByteArray.toList_eq,ByteArray.toList_eq];exact zad _ _
def zeQ (A:List Nd)(root:Int):List Pr:=(zac A 192 root [] (192,[])).2
theorem zX {α:Type}{L:List α}{i:Nat}{a:α}(ha:L[i]? =some a):L.take (i+1)=L.take i++ [a]:=by
 rw[List.take_add_one,ha];rfl
def upB:Option Qa->Qa->Bool
 | none,_=>true
 | some p,a=>zf (tl p) (tl a)
theorem qs {α:Type}{L:List α}{i:Nat}{x:α}(h:L[i]? =some x):L.drop i=x::L.drop (i+1):=by
 obtain⟨hi,rfl⟩:=Qt.1 h;exact(List.getElem_cons_drop (h:=hi)).symm
abbrev Sg:=Nat×Nat×Int
def sgF:Fl Sg where
 K:=9
 cs x:=[.int .u64 (w0 x.1),.int .u64 (w1 x.1),.int .u64 (w2 x.1),.int .u64 (w3 x.1),.int .u64 (w0 x.2.1),.int .u64 (w1 x.2.1),.int .u64 (w2 x.2.1),.int .u64 (w3 x.2.1),.int .i64 x.2.2]
 pos:=by decide
 len _:=rfl
 one a:=fun u hu=>by simp at hu;rcases hu with h | h | h | h | h | h | h | h | h<;>rw[h]<;>rfl
def sgOk (x:Sg):Prop:=x.1<big/\x.2.1<big
abbrev qF (x:Sg):Bool:=qj x.1 x.2.1 x.2.2
structure Hdr where
 pa:Qa
 hh:Nat
 ro:Qa
 tx:Qa
 pr:Qa
 va:Qa
 vs:Qi
 vo:Qa
 ad:Bool
 rd:Nat
 ss:List Sg
def yA:Option Qa->Qi->Bool
 | _,[]=>true
 | p,a::r=>decide (a.size=20)&&(upB p a&&yA (some a) r)
def zH (L:Qi):Bool:=yA none L&&(decide (0<L.length)&&decide (L.length<=16))
def qk (vo:Qa)(ad:Bool):Bool:=if vo.size=0 then !ad else decide (vo.size=20)
def qW (h:Hdr):Bool:=
 (decide (h.pa.size=32)&&(decide (h.ro.size=32)&&(decide (h.tx.size=32)&&(decide (h.pr.size=20)&&(decide (h.va.size<=8)&&zH h.vs)))))&&((qk h.vo h.ad&&decide (h.ss.length<=16))&&h.ss.all qF)
def hK:Qi:=[⟨#[104]⟩,⟨#[110]⟩,⟨#[104]⟩,⟨#[104]⟩,⟨#[97]⟩,⟨#[98]⟩,⟨#[42,97]⟩,⟨#[98]⟩,⟨#[110]⟩,⟨#[110]⟩,⟨#[42,115]⟩]
theorem isK {l:List (Nat×Value)}{ρ:Env}(h:l.map (fun p=>ρ p.1)=l.map (·.2):=by kernel_rfl):Is l ρ:=by
 refine Is.of ?_
 induction l with
 | nil=>trivial
 | cons p r ih=>
  simp only[QK,List.cons.injEq]at h;exact⟨h.1,ih h.2⟩
section
variable {P:Program}{N:Nat}{c:Code}{Q:Exit->Env->World->Prop}{ρ:Env}{w:World}
theorem zu (k:Q .normal ρ w)(h:(jt c&&xr (xp c))=true:=by kernel_rfl)(hx:ev ρ (je c)=.bool false:=by kernel_rfl):WP P N c Q ρ w:=by
 rw[Qm]at h;exact zE h.1 hx (zM h.2 k)
theorem zq (k:WP P N (xo c) Q ρ w)(h:jt c=true:=by kernel_rfl)(hx:ev ρ (je c)=.bool true:=by kernel_rfl):WP P N c Q ρ w:=zN h hx k
def vf (c:Code):Code:=qq (qq c)
def xV (c:Code):Code:=zG (vf c)
def qb (c:Code):Code:=yK (vf c)
def vg (c:Code):Code:=qq (zG (yK (qb c)))
def xf (c:Code):Code:=yK (yK (qb c))
def xg (n:Nat):Code->Bool
 | .region _ ops d=>Qv ops.size n&& !d
 | _=>false
theorem zae {n:Nat}{c:Code}(h:xg n c=true):∃id,c=.region id (zd c) false/\QG (zd c).size=QG n:=by
 cases c with
 | region id ops d=>
  cases d with
  | true=>simp[xg]at h
  | false=>
   simp only[xg,Bool.not_false,Bool.and_true]at h;exact⟨id,rfl,congrArg QG (Qn h)⟩
 | _=>cases h
def xW (a:Option Nat)(b:Nat):Bool:=match a with
 | some x=>Qv x b
 | none=>false
theorem vh {a:Option Nat}{b:Nat}(h:xW a b=true):a=some b:=by
 cases a with
 | none=>cases h
 | some x=>exact congrArg some (Qn h)
def vi (nt ni b0 b1 tc:Nat)(c:Code):Bool:=
 xW (xq c) b0&&(kx (qq c)&&(yL (vf c)&&(xg nt (xV c)&&(yL (qb c)&&(jt (zG (qb c))&&(xr (xo (zG (qb c)))&&(xW (ky (xp (zG (qb c)))) b0&&(yL (yK (qb c))&&(xW (xq (zG (yK (qb c)))) b1&&xg ni (xf c))))))))))
abbrev zaf (ti b0 b1:Nat)(inc:Env->Env)(I:Nat->Env->World->Prop)(Q:Exit->Env->World->Prop)(i:Nat):Exit->Env->World->Prop
 | .normal,ρ,w=>ρ ti=iN i/\I (i+1) (inc ρ) w
 | .exit k,ρ,w=>bif Qv k b1 then ρ ti=iN i/\I (i+1) (inc ρ) w else bif Qv k b0 then Q .normal ρ w else Q (.exit k) ρ w
 | e,ρ,w=>Q e ρ w
theorem zde {ti b0 b1 tc nt ni n:Nat}{tst:Nat->Env->Env}{inc:Nat->Env->Env}(I:Nat->Env->World->Prop)
 (hs:vi nt ni b0 b1 tc c=true) (hx:je (zG (qb c))=.tmp tc)
 (hT: ∀i ρ w K,I i ρ w->K (tst i ρ) w->WPs P N (zd (xV c)) K (QG nt) ρ w) (hv: ∀i ρ w,I i ρ w->tst i ρ tc=.bool (decide ((i:Int)<(n:Int))))
 (hJ: ∀i ρ w K,i<n->ρ ti=iN i->K (inc i ρ) w->WPs P N (zd (xf c)) K (QG ni) ρ w)
 (h0:I 0 ρ w) (hb: ∀i ρ w,i<n->I i ρ w->WP P N (vg c) (zaf ti b0 b1 (inc i) I Q i) (tst i ρ) w) (he: ∀ρ w,I n ρ w->Q .normal (tst n ρ) w):WP P N c Q ρ w:=by
 unfold vi at hs;simp only[Qm]at hs;obtain⟨s1,s2,s3,s4,s5,s6,s7,s8,s9,s10,s11⟩:=hs;obtain⟨id1,e1,l1⟩:=zae s4;obtain⟨id2,e2,l2⟩:=zae s11;refine yo b0 (vh s1)<|qP s2 (fun m ρ w=> ∃i,n-i=m/\i<=n/\I i ρ w) n ⟨0,rfl,QH _,h0⟩ ?_;rintro m ρ w ⟨i,rfl,hin,hI⟩;refine zb s3 ?_;show WP P N (xV c) _ ρ w;rw[e1];refine WP.region _ l1<|hT i ρ w _ hI ?_;show WP P N (qb c) _ (tst i ρ) w;refine zb s5 ?_;have hval:=hv i ρ w hI;by_cases hi:i<n
 ·refine zN s6 (by rw[hx];show tst i ρ tc=_;rw[hval,decide_eq_true (by omega)])<|zM s7 ?_;show WP P N (yK (qb c)) _ (tst i ρ) w;refine zb s9<|yo b1 (vh s10) ?_;have hfin: ∀(Q3:Exit->Env->World->Prop) ρ' w',(ρ' ti=iN i/\I (i+1) (inc i ρ') w')->(∀e ρ w,Q3 e ρ w=Q3 e ρ w)->WP P N (xf c) (nx (fun ρ' w'=> ∃m,m<n-i/\∃i,n-i=m/\i<=n/\I i ρ' w') Q3) ρ' w':=fun Q3 ρ' w' h _=>by
   rw[e2];refine WP.region _ l2 ?_;exact hJ i ρ' w' _ hi h.1 ⟨n-(i+1),by omega,i+1,rfl,by omega,h.2⟩
  refine kD (hb i ρ w hi hI) fun e ρ' w' h=>?_;cases e with
  | normal=>exact hfin _ ρ' w' h fun _ _ _=>rfl
  | exit k=>
   show bif Qv k b1 then _ else _;change (bif Qv k b1 then _ else _)at h;cases hk:Qv k b1 with
   | true=>rw[hk]at h;exact hfin _ ρ' w' h fun _ _ _=>rfl
   | false=>rw[hk]at h;exact h
  | _=>exact h
 ·obtain rfl:i=n:=by omega
  refine zE s6 (by rw[hx];show tst i ρ tc=_;rw[hval,decide_eq_false (by omega)])<|qe b0 (vh s8) ?_;show bif Qv b0 b0 then _ else _;rw[Q4];exact he ρ w hI
theorem yk (ti tn tc tj b0 b1 n:Nat)(hn:n<=0x4000000000000000)(I:Nat->Env->World->Prop)(hI: ∀i ρ w,I i ρ w->ρ ti=iN i/\ρ tn=iN n)
 (h0:I 0 ρ w) (hb: ∀i ρ w,i<n->I i ρ w->WP P N (vg c) (zaf ti b0 b1 (fun ρ=>upd (upd ρ tj (iN (i+1))) ti (iN (i+1))) I Q i) (upd ρ tc (.bool true)) w)
 (he: ∀ρ w,I n ρ w->Q .normal (upd ρ tc (.bool false)) w)
 (hs:vi 1 2 b0 b1 tc c=true:=by kernel_rfl) (hx:je (zG (qb c))=.tmp tc:=by kernel_rfl)
 (ht: ∀(ρ0:Env) (i:Nat) w,opv P (zd (xV c)) 0 (upd (upd ρ0 tn (iN n)) ti (iN i)) w=some (some tc,true,.ok (.value (.bool (decide ((i:Int)<(n:Int))))) w):=by exact fun ρ0 i w=>by kernel_rfl)
 (hj: ∀(ρ0:Env) (i:Nat) w,opv P (zd (xf c)) 0 (upd ρ0 ti (iN i)) w=some (some tj,true,.ok (.value (.int .i64 (Qo.wrap ((i:Int)+1)))) w):=by exact fun ρ0 i w=>by kernel_rfl)
 (hk: ∀(ρ0:Env) (v:Value) w,opv P (zd (xf c)) 1 (upd ρ0 tj v) w=some (some ti,true,.ok (.value v) w):=by exact fun ρ0 v w=>by kernel_rfl)
 (hd:(dOK (some tc) N&&(dOK (some tj) N&&dOK (some ti) N))=true:=by kernel_rfl):WP P N c Q ρ w:=by
 simp only[Qm]at hd;refine zde (ti:=ti) (tst:=fun i ρ=>upd ρ tc (.bool (decide ((i:Int)<(n:Int))))) (inc:=fun i ρ=>upd (upd ρ tj (iN (i+1))) ti (iN (i+1))) (n:=n) I hs hx (fun i ρ w K h k=>?_) (fun i ρ w h=>?_) (fun i ρ w K hi h k=>?_) h0 (fun i ρ w hi h=>?_) (fun ρ w h=>?_)
 ·have e:upd (upd ρ tn (iN n)) ti (iN i)=ρ:=by rw[jv (hI i ρ w h).2,jv (hI i ρ w h).1]
  refine zn (some tc) _ (fun w=>e▸ht ρ i w) hd.1 ?_;exact zc k
 ·show upd ρ tc _ tc=_;unfold upd;rw[Q4];rfl
 ·have e:upd ρ ti (iN i)=ρ:=jv h;refine jP (some tj) _ (iN (i+1)) (fun w=>e▸hj ρ i w) (ze (zA (a:=i) (b:=1) (by omega))) hd.2.1<|zn (some ti) (iN (i+1)) (fun w=>hk ρ (iN (i+1)) w) hd.2.2 ?_;exact zc k
 ·show WP P N (vg c) _ (upd ρ tc (.bool (decide ((i:Int)<(n:Int))))) w;rw[decide_eq_true (show (i:Int)<(n:Int) by omega)];exact hb i ρ w hi h
 ·show Q .normal (upd ρ tc (.bool (decide ((n:Int)<(n:Int))))) w;rw[decide_eq_false (show ¬(n:Int)<(n:Int) by omega)];exact he ρ w h
end
theorem AtF.row2 {α:Type}{S:Fl α}{w:World}{p:Qc}{n:Nat}{L:List α}(h:AtF S w p n L)(hn:0<n):∃b off C T fz,p=some ⟨b,off,none⟩/\w.heap[b]? =some (.cells C T fz)/\qh S C off L:=by
 rcases h.2 with rfl|h2
 ·have:=h.1;simp at this;omega
 ·exact h2
def yG (L:Qi)(i:Nat):Option Qa:=if i=0 then none else L[i-1]?
theorem xX {L:Qi}{i:Nat}{x:Qa}(h:L[i]? =some x):yG L (i+1)=some x:=by
 unfold yG;rw[if_neg (by omega),Nat.add_sub_cancel,h]
abbrev hdC (h:Hdr)(p:Qc)(n c:Nat)(q:Qc)(m k:Nat):Qd:=#[.string h.pa,.int .u64 ((h.hh:Nat):Int),.string h.ro,.string h.tx,.string h.pr,.string h.va,.slice p n c,.string h.vo,.bool h.ad,.int .u64 ((h.rd:Nat):Int),.slice q m k]
abbrev hdV (h:Hdr)(p:Qc)(n c:Nat)(q:Qc)(m k:Nat):Value:=.agg (hdC h p n c q m k)
abbrev hdO (h:Hdr)(p:Qc)(n c:Nat)(q:Qc)(m k:Nat):Obj:=.cells (hdC h p n c q m k) 35
def yP (w:World)(h:Hdr)(p:Qc)(n:Nat)(q:Qc)(m:Nat):Prop:=AtF sS w p n h.vs/\AtF sgF w q m h.ss
theorem yP.call {w w':World}{h:Hdr}{p:Qc}{n:Nat}{q:Qc}{m:Nat}(a:yP w h p n q m)(hb:Below w.heap.size w w'):yP w' h p n q m:=⟨a.1.call hb,a.2.call hb⟩
abbrev sgC (x:Sg):Qd:=(sgF.cs x).toArray
abbrev sgO (x:Sg):Obj:=.cells (sgC x) 66
structure jk (h:Hdr):Prop where
 vo:h.vo.size<=1000000
 vl:h.vs.length<=1000
 ss: ∀x∈h.ss,sgOk x
 sl:h.ss.length<=1000
section
open Go.ChangeShapes Go.WideShapes Go.ChangeAt
theorem zag:Try.prog.cellsOf 35=11:=kr
theorem zah:Try.prog.cellsOf 66=9:=kr
theorem zdf:Try.prog.cellsOf 3=1:=kr
theorem vj:Try.prog.cellsOf 9=1:=kr
theorem zdg:Try.prog.cellsOf 23=1:=kr
theorem zdh:Try.prog.cellsOf 4=1:=kr
theorem zdi:Try.prog.cellsOf 22=1:=kr
theorem zdj:Try.prog.cellsOf 33=1:=kr
theorem zai {α:Type}(l:List α)(h:l.length=11):∃a0 a1 a2 a3 a4 a5 a6 a7 a8 a9 a10,l=[a0,a1,a2,a3,a4,a5,a6,a7,a8,a9,a10]:=by
 match l,h with
 | [a0,a1,a2,a3,a4,a5,a6,a7,a8,a9,a10],_=>exact⟨_,_,_,_,_,_,_,_,_,_,_,rfl⟩
section
variable {H:Type}{enc:TypeId×Value->H}{W:World}{sp:Nat->Bool}{held:Bool}
theorem zdk (fuel:Nat)(cs:List Value)(x:DataW H×List MemPlace)(h:QP enc Try.prog W 0 sp held fuel 66 cs=some x):∃a:Sg,cs=sgF.cs a/\sgOk a:=by
 obtain⟨y0,y1,y2,m,hx,hl,hy0,hy1,hy2⟩:=Go.Deep.trod_struct3 Try.underlying66 h;rw[zah]at hl;obtain⟨c0,c1,c2,c3,c4,c5,c6,c7,c8,rfl⟩:=zcS cs hl;rw[zcR]at hy0 hy1;rw[zdf]at hy2;obtain⟨n,hn,a0,a1,a2,a3⟩:=uV (show QP enc Try.prog W 0 sp held m 64 [c0,c1,c2,c3]=some y0 from hy0);obtain⟨k,hk,b0',b1,b2,b3⟩:=uV (show QP enc Try.prog W 0 sp held m 64 [c4,c5,c6,c7]=some y1 from hy1);obtain⟨z,hz,_,_⟩:=R6 Try.underlying3 (show QP enc Try.prog W 0 sp held m 3 [c8]=some y2 from hy2);have hz:c8=.int .i64 z:=by simpa using hz
 exact⟨(n,k,z),by rw[a0,a1,a2,a3,b0',b1,b2,b3,hz];rfl,hn,hk⟩
theorem zaj (fuel:Nat)(cs:List Value)(x:DataW H×List MemPlace)(h:QP enc Try.prog W 0 sp held fuel 9 cs=some x):∃a:Qa,cs=sS.cs a/\a.size<=maxLen:=by
 obtain⟨s,e0,_,hs⟩:=DataW.trod_string Try.underlying9 h;exact⟨s,e0,hs⟩
def qH (h:Hdr):Prop:=h.hh<0x10000000000000000/\h.rd<0x10000000000000000/\ ∀x∈h.ss,sgOk x
end
end
abbrev Bal:=Qa×Qa×Bool
def blS:Fl Bal where
 K:=3
 cs x:=[.string x.1,.string x.2.1,.bool x.2.2]
 pos:=by decide
 len _:=rfl
 one a:=fun u hu=>by simp at hu;rcases hu with h | h | h<;>rw[h]<;>rfl
abbrev blV (x:Bal):Value:=.agg #[.string x.1,.string x.2.1,.bool x.2.2]
abbrev blC (x:Bal):Qd:=#[.string x.1,.string x.2.1,.bool x.2.2]
def zK (a:Qa):Qi->Bool
 | []=>false
 | x::r=>decide (x=a)||zK a r
theorem jl {a:Qa} : ∀ {L:Qi},zK a L=true↔a∈L
 | []=>by simp[zK]
 | x::r=>by
  simp only[zK,RR,decide_eq_true_eq,jl (L:=r),QN];exact⟨fun h=>h.imp Eq.symm id,fun h=>h.imp Eq.symm id⟩
def yl (b x:Bal):Bool:=decide (x.2.1=b.2.1)&&(x.2.2==b.2.2)
def zv (b:Bal)(V:List Bal):Nat:=(V.filter (yl b)).length
theorem zdl (b:Bal)(V:List Bal)(x:Bal):zv b (V++ [x])=zv b V+if yl b x=true then 1 else 0:=by
 unfold zv;rw[Re,QF];congr 1;by_cases h:yl b x=true
 ·rw[if_pos h,R9 h];rfl
 ·rw[if_neg h,Rk h];rfl
theorem zak (b:Bal)(V:List Bal):zv b V<=V.length:=RV _ _
def zP (L:Qi)(b:Bal):Bool:=zK b.1 L&&(decide (b.2.1.size=20)&&(zK b.2.1 L !=b.2.2))
def aheadB (a b:Bal):Bool:=if a.2.1=b.2.1 then zf (tl a.1) (tl b.1) else zf (tl a.2.1) (tl b.2.1)
def qt:Option Bal->Bal->Bool
 | none,_=>true
 | some a,b=>aheadB a b
def xY (L:Qi)(V:List Bal):Option Bal->List Bal->Bool
 | _,[]=>true
 | p,b::r=>zP L b&&(qt p b&&(decide (2*zv b V<=L.length)&&xY L V (some b) r))
def zF (L:Qi)(V:List Bal):Bool:=xY L V none V&&zH L
def yB (V:List Bal)(i:Nat):Option Bal:=if i=0 then none else V[i-1]?
theorem zdm {V:List Bal}{i:Nat}{x:Bal}(h:V[i]? =some x):yB V (i+1)=some x:=by
 unfold yB;rw[if_neg (by omega),Nat.add_sub_cancel,h]
def yp (b:Bal)(s:List Bal×Bool)(x:Bal):List Bal×Bool:=if (!s.2&& !aheadB x b)=true then (s.1++ [b],true) else s
def ql (b:Bal)(s:List Bal×Bool)(x:Bal):List Bal×Bool:=(if x.2.1=b.2.1/\x.1=b.1 then s.1 else s.1++ [x],s.2)
def jm (b:Bal)(V:List Bal):List Bal×Bool:=V.foldl (fun s x=>ql b (yp b s x) x) ([],false)
def zC (b:Bal)(V:List Bal):List Bal:=if (jm b V).2=true then (jm b V).1 else (jm b V).1++ [b]
def yq (a:Qa)(s:Qi×Bool)(x:Qa):Qi×Bool:=if (!s.2&&zf (tl a) (tl x))=true then (s.1++ [a],true) else s
def qm (a:Qa)(s:Qi×Bool)(x:Qa):Qi×Bool:=(if x=a then s.1 else s.1++ [x],s.2)
def qX (a:Qa)(add:Bool)(L:Qi):Qi×Bool:=L.foldl (fun s x=>qm a (yq a s x) x) ([],!add)
def ym (a:Qa)(add:Bool)(L:Qi):Qi:=if (qX a add L).2=true then (qX a add L).1 else (qX a add L).1++ [a]
def yt (b x:Bal):Bool:=decide (x.2.1≠b.2.1)&&(b.2.2||decide (x.1≠b.2.1))
def zY (L:Qi)(V:List Bal)(b:Bal):Qi×List Bal×Nat:=
 if zF L V=false then ([],[],1)
 else if zP L b=false\/(b.2.2=true/\16<=L.length)\/(b.2.2=false/\L.length=1) then ([],[],44)
 else if 2*zv b (zC b V)<=L.length then (L,zC b V,0)
 else (ym b.2.1 b.2.2 L,((zC b V).filter (yt b)).filter (fun x=>b.2.2||decide (2*zv x ((zC b V).filter (yt b))<=(ym b.2.1 b.2.2 L).length)),0)
abbrev blO (x:Bal):Obj:=.cells (blC x) 56
abbrev snV (q:Qc)(m cq:Nat)(p:Qc)(n c:Nat):Value:=.agg #[.slice q m cq,.slice p n c]
abbrev snO (q:Qc)(m cq:Nat)(p:Qc)(n c:Nat):Obj:=.cells #[.slice q m cq,.slice p n c] 32 (0,0)
def yf (w:World)(L:Qi)(V:List Bal)(q:Qc)(m:Nat)(p:Qc)(n:Nat):Prop:=AtF sS w q m L/\AtF blS w p n V
theorem zdn (b:Bal)(s:List Bal×Bool)(x:Bal):(ql b s x).1.length<=s.1.length+1:=by
 show (if x.2.1=b.2.1/\x.1=b.1 then s.1 else s.1++ [x]).length<=_;split
 ·omega
 ·rw[QF];exact Qs _
theorem zdo (a:Qa)(s:Qi×Bool)(x:Qa):(qm a s x).1.length<=s.1.length+1:=by
 show (if x=a then s.1 else s.1++ [x]).length<=_;split
 ·omega
 ·rw[QF];exact Qs _
theorem vk {α:Type}{S:Fl α}{w:World}{b n cap:Nat}{cur:Qd}{T:TypeId}{M:List α}(hr:Rw S.K cur cap n (cellsF S M))(h:w.heap[b]? =some (.cells cur T)):AtF S w (Qg b) n M:=⟨(Rw.lenF (S:=S) hr).symm,.inr ⟨b,0,cur,T,(0,0),rfl,h,hr.rowAt⟩⟩
def yc {α:Type}(S:Fl α)(ty:TypeId)(q0:Qc)(m0 c0:Nat)(L0:List α)(q:Qc)(m c:Nat)(T:Qb)(L:List α):Prop:=(T=[]/\q=q0/\m=m0/\c=c0/\L=L0)\/zw S ty q m c T L
def zI (q0:Qc)(m0 cq0:Nat)(L0:Qi)(p0:Qc)(n0 c0:Nat)(V0:List Bal)(r:Qi×List Bal×Nat)(v:Value)(T:Qb):Prop:=
 ∃(q:Qc) (m cq:Nat) (p:Qc) (n c:Nat) (T1 T2:Qb),v=.tuple #[snV q m cq p n c,.int .i64 ((r.2.2:Nat):Int)]/\T=T1++T2/\yc sS 9 q0 m0 cq0 L0 q m cq T1 r.1/\yc blS 56 p0 n0 c0 V0 p n c T2 r.2.1
theorem zI.no {q0:Qc}{m0 cq0:Nat}{L0:Qi}{p0:Qc}{n0 c0:Nat}{V0:List Bal}{e:Nat} :zI q0 m0 cq0 L0 p0 n0 c0 V0 ([],[],e) (.tuple #[snV none 0 0 none 0 0,.int .i64 (e:Int)]) []:=
 ⟨none,0,0,none,0,0,[],[],rfl,rfl,.inr (.inl ⟨rfl,rfl,rfl,rfl,rfl⟩),.inr (.inl ⟨rfl,rfl,rfl,rfl,rfl⟩)⟩
theorem zal (x y:Bal)(w:World):(Uj 10000 56 (blV x) (blV y)).run Try.prog w=.ok (decide (x=y)) w:=by
 rw[run_equalIn_struct w 9999 56 _ _ kr kr,
  show (Try.prog.fieldsOf 56).toList= [{ name:= "Voter",type:=9,offset:=0,embedded:=false,tag:= "",pkgPath:= "",byteOffset:=0 },{ name:= "Who",type:=9,offset:=1,embedded:=false,tag:= "",pkgPath:= "",byteOffset:=16 },{ name:= "Add",type:=4,offset:=2,embedded:=false,tag:= "",pkgPath:= "",byteOffset:=32 }] by kernel_rfl]
 have px: ∀x:Bal,(part 9 (blC x) 0).run Try.prog w=.ok (.string x.1) w:=fun x=>by kernel_rfl
 have py: ∀x:Bal,(part 9 (blC x) 1).run Try.prog w=.ok (.string x.2.1) w:=fun x=>by kernel_rfl
 have pb: ∀x:Bal,(part 4 (blC x) 2).run Try.prog w=.ok (.bool x.2.2) w:=fun x=>by kernel_rfl
 have ex: ∀a b:Qa,(Uj 9999 9 (.string a) (.string b)).run Try.prog w=.ok (decide (a=b)) w:=fun a b=>by
  rw[run_equalIn_string w 9998 9 a b Try.underlying9];by_cases e:a=b
  ·rw[yS _ _ e,decide_eq_true e]
  ·rw[yO _ _ e,decide_eq_false e]
 have eb:(Uj 9999 4 (.bool x.2.2) (.bool y.2.2)).run Try.prog w=.ok (x.2.2==y.2.2) w:=by
  rw[run_equalIn_bool' w 9998 4 x.2.2 y.2.2 Try.underlying4]
 have n1:("Voter" :String)≠ "_" :=by decide
 have n2:("Who" :String)≠ "_" :=by decide
 have n3:("Add" :String)≠ "_" :=by decide
 simp only[Op.eqFields,if_pos n1,if_pos n2,if_pos n3,QM,px,py,pb,QA,ex,eb,Sem.run_ite];obtain⟨a,b,c⟩:=x;obtain⟨a',b',c'⟩:=y;by_cases h1:a=a'
 ·by_cases h2:b=b'
  ·cases c<;>cases c'<;>simp[h1,h2]
  ·simp[h1,h2]
 ·simp[h1]
theorem zdp {ρ:Env}(x y:Bal){s t:Operand}{o:Oper}(w:World)(ho:o.op=.binOp .neq 56 s t 56)(hx:ev ρ s=blV x)(hy:ev ρ t=blV y):
 (execOp (ev ρ) o).run Try.prog w=.ok (.value (.bool (!decide (x=y)))) w:=by
 have h:=zal x y w;change ev ρ s=.agg (blC x)at hx;change ev ρ t=.agg (blC y)at hy;change (Uj 10000 56 (.agg (blC x)) (.agg (blC y))).run Try.prog w=_ at h;generalize blC x=X at h hx;generalize blC y=Y at h hy;unfold execOp;simp only[ho,hx,hy,resolve,QM,RY,QA,run_eqGuard_agg w _ _ _ _ _ _ (show Try.prog.eqGuardType Try.prog.depth 56=false by kernel_rfl),run_eql_struct,run_neq_struct,h]
theorem zam (q:Qc)(m cq:Nat)(L:Qi)(p:Qc)(n c:Nat)(V:List Bal)(q':Qc)(m' cq':Nat)(L':Qi)(p':Qc)(n' c':Nat)(V':List Bal)(b:Bool)(hb:b=true↔L=L'/\V=V')(hL:L.length<=1000000)(hV:V.length<=1000000):
 FnP Try.prog 17 #[snV q m cq p n c,snV q' m' cq' p' n' c'] (fun w=>yf w L V q m p n/\yf w L' V' q' m' p' n') (.bool b):=by
 have no: ¬(L=L'/\V=V')->b=false:=fun hne=>QZ.2 fun e=>hne (hb.1 e);refine FnP.intro (c:=zk Try.f17) [.tmp 4] 59 Try.func17 kr kr kr fun w hP=>?_;obtain⟨⟨hS,hV⟩,hS',hV'⟩:=hP;have hm:=hS.1;have hn:=hV.1;have hm':=hS'.1;have hn':=hV'.1;refine rS [.b,.b,.v] (St.start w) kr fun gs1 w1 H1=>zb kr ?_;by_cases em_:m=m'
 case neg=>
  refine rS [.v,.l 0,.v,.v,.l 1,.v,.E (.bool ((m:Int)!=(m':Int))) (.bool true) (za (bne_iff_ne.2 (by omega))),.v,.n,.n,.n,.n,.n,.n,.n,.v] H1 kr fun gs3 w3 H3=>zq<|rS [.v] H3 kr fun gs8 w8 H8=>?_;exact rRe [.tmp 4] [] (v:=.bool false) (v':=.bool b) H8 (za (no fun e=>em_ (by rw[hm,hm',e.1])).symm) kr
 by_cases en:n=n'
 case neg=>
  subst em_;refine rS [.v,.l 0,.v,.v,.l 1,.v,.E (.bool ((m:Int)!=(m:Int))) (.bool false) (za (bne_self_eq_false' _)),.v,.v,.l 0,.v,.v,.l 1,.v,.E (.bool ((n:Int)!=(n':Int))) (.bool true) (za (bne_iff_ne.2 (by omega))),.v] H1 kr fun gs3 w3 H3=>zq<|rS [.v] H3 kr fun gs8 w8 H8=>?_;exact rRe [.tmp 4] [] (v:=.bool false) (v':=.bool b) H8 (za (no fun e=>en (by rw[hn,hn',e.2])).symm) kr
 subst en em_;refine rS [.v,.l 0,.v,.v,.l 1,.v,.E (.bool ((m:Int)!=(m:Int))) (.bool false) (za (bne_self_eq_false' _)),.v,.v,.l 0,.v,.v,.l 1,.v,.E (.bool ((n:Int)!=(n:Int))) (.bool false) (za (bne_self_eq_false' _)),.v] H1 kr fun gs3 w3 H3=>zu<|wW<|zb kr<|rS [.v,.l 0,.v,.v] H3 kr fun gs4 w4 H4=>yk 26 25 27 40 0 1 m (by omega) (fun i ρ ww=>L.take i=L'.take i/\St w.heap.size w ww [((gs1 0).b,snO q m cq p n c),((gs1 1).b,snO q' m cq' p' n c')]/\Is [(2,Qe (gs1 0).b),(3,Qe (gs1 1).b),(25,iN m),(26,iN i)] ρ) (by rintro i _ ww ⟨_,_,_,rfl⟩;exact⟨kr,kr⟩) ⟨rfl,H4.as kr,isK⟩ ?_ ?_
 ·clear H4;rintro i _ w5 hi ⟨htk,H5,_,rfl⟩;obtain⟨x,hx⟩:∃x,L[i]? =some x:=⟨_,Ql (by omega)⟩
  obtain⟨y,hy⟩:∃y,L'[i]? =some y:=⟨_,Ql (by omega)⟩
  obtain⟨bl,off,C,T,fz,hp,hh,hR⟩:=hS.row2 (by omega);obtain⟨bl2,off2,C2,T2,fz2,hp2,hh2,hR2⟩:=hS'.row2 (by omega);have cx:C[off+i*1]? =some (.string x):=hR.cell hx 0 (by decide);have cy:C2[off2+i*1]? =some (.string y):=hR2.cell hy 0 (by decide);refine rS [.v,.v] H5 kr fun gs5 w6 H6=>?_;by_cases exy:x=y
  ·refine dS [.v,.l 0,.v,.o (ins:=[((.tmp 30),.slice q m cq),((.tmp 31),iN i)]) (v:=.pointer (some ⟨bl,off+i*1,none⟩)) (fun ρ o w ho hi2=>zp (kd:=.i64) (t:=22) (e:=9) (K:=1) (bytes:=16) kr (x:=(.tmp 30)) (y:=(.tmp 31)) bl off m cq i hp ho hi2.1 hi2.2.1 (by omega) w),.fs (off:=off+i*1) (v:=.string x) hh (zj hh) cx,.v,.l 1,.v,.o (ins:=[((.tmp 35),.slice q' m cq'),((.tmp 36),iN i)]) (v:=.pointer (some ⟨bl2,off2+i*1,none⟩)) (fun ρ o w ho hi2=>zp (kd:=.i64) (t:=22) (e:=9) (K:=1) (bytes:=16) kr (x:=(.tmp 35)) (y:=(.tmp 36)) bl2 off2 m cq' i hp2 ho hi2.1 hi2.2.1 (by omega) w),.fs (off:=off2+i*1) (v:=.string y) hh2 (zj hh2) cy,.E (.bool (!(x.toList==y.toList))) (.bool false) (za (by rw[yS _ _ exy];rfl))] H6 kr fun w7 H7=>zu ?_;exact⟨kr,by rw[zX hx,zX hy,htk,exy],H7.as kr,isK⟩
  ·refine dS [.v,.l 0,.v,.o (ins:=[((.tmp 30),.slice q m cq),((.tmp 31),iN i)]) (v:=.pointer (some ⟨bl,off+i*1,none⟩)) (fun ρ o w ho hi2=>zp (kd:=.i64) (t:=22) (e:=9) (K:=1) (bytes:=16) kr (x:=(.tmp 30)) (y:=(.tmp 31)) bl off m cq i hp ho hi2.1 hi2.2.1 (by omega) w),.fs (off:=off+i*1) (v:=.string x) hh (zj hh) cx,.v,.l 1,.v,.o (ins:=[((.tmp 35),.slice q' m cq'),((.tmp 36),iN i)]) (v:=.pointer (some ⟨bl2,off2+i*1,none⟩)) (fun ρ o w ho hi2=>zp (kd:=.i64) (t:=22) (e:=9) (K:=1) (bytes:=16) kr (x:=(.tmp 35)) (y:=(.tmp 36)) bl2 off2 m cq' i hp2 ho hi2.1 hi2.2.1 (by omega) w),.fs (off:=off2+i*1) (v:=.string y) hh2 (zj hh2) cy,.E (.bool (!(x.toList==y.toList))) (.bool true) (za (by rw[yO _ _ exy];rfl))] H6 kr fun w7 H7=>zq<|rS [.v] H7 kr fun gs8 w8 H8=>?_;exact rRe [.tmp 4] [] (v:=.bool false) (v':=.bool b) H8 (za (no fun e=>exy (by rw[e.1,hy]at hx;exact(Q1.inj hx).symm)).symm) kr
 ·clear H4;rintro _ w5 ⟨htk,H5,_,rfl⟩;rw[Qq (by omega),Qq (by omega)]at htk;refine wW<|zb kr<|rS [.v,.l 0,.v,.v] H5 kr fun gs5 w6 H6=>yk 44 43 45 58 2 3 n (by omega) (fun i ρ ww=>V.take i=V'.take i/\St w.heap.size w ww [((gs1 0).b,snO q m cq p n c),((gs1 1).b,snO q' m cq' p' n c')]/\Is [(2,Qe (gs1 0).b),(3,Qe (gs1 1).b),(43,iN n),(44,iN i)] ρ) (by rintro i _ ww ⟨_,_,_,rfl⟩;exact⟨kr,kr⟩) ⟨rfl,H6.as kr,isK⟩ ?_ ?_
  ·clear H5 H6;rintro i _ w5 hi ⟨htk2,H5,_,rfl⟩;obtain⟨x,hx⟩:∃x,V[i]? =some x:=⟨_,Ql (by omega)⟩
   obtain⟨y,hy⟩:∃y,V'[i]? =some y:=⟨_,Ql (by omega)⟩
   obtain⟨bl,off,C,T,fz,hp,hh,hR⟩:=hV.row2 (by omega);obtain⟨bl2,off2,C2,T2,fz2,hp2,hh2,hR2⟩:=hV'.row2 (by omega);refine rS [.v,.v] H5 kr fun gs5 w6 H6=>?_;have hit:=fun (v:Bool) (hv:(!decide (x=y))=v) (ρ:Env) (o:Oper) (w:World) (ho:o.op=.binOp .neq 56 (.tmp 51) (.tmp 56) 56) (hi:Ins (ev ρ) [((.tmp 51),blV x),((.tmp 56),blV y)])=>(zdp x y w ho hi.1 hi.2.1).trans (by rw[hv]);by_cases exy:x=y
   ·refine dS [.v,.l 0,.v,.o (ins:=[((.tmp 48),.slice p n c),((.tmp 49),iN i)]) (v:=.pointer (some ⟨bl,off+i*3,none⟩)) (fun ρ o w ho hi2=>zp (kd:=.i64) (t:=30) (e:=56) (K:=3) (bytes:=40) kr (x:=(.tmp 48)) (y:=(.tmp 49)) bl off n c i hp ho hi2.1 hi2.2.1 (by omega) w),.fp (off:=off+i*3) (n:=3) (W:=blC x) hh (zj hh) (hR _ _ hx).1 (hR _ _ hx).2,.v,.l 1,.v,.o (ins:=[((.tmp 53),.slice p' n c'),((.tmp 54),iN i)]) (v:=.pointer (some ⟨bl2,off2+i*3,none⟩)) (fun ρ o w ho hi2=>zp (kd:=.i64) (t:=30) (e:=56) (K:=3) (bytes:=40) kr (x:=(.tmp 53)) (y:=(.tmp 54)) bl2 off2 n c' i hp2 ho hi2.1 hi2.2.1 (by omega) w),.fp (off:=off2+i*3) (n:=3) (W:=blC y) hh2 (zj hh2) (hR2 _ _ hy).1 (hR2 _ _ hy).2,.o (hit false (by rw[decide_eq_true exy];rfl))] H6 kr fun w7 H7=>zu ?_;exact⟨kr,by rw[zX hx,zX hy,htk2,exy],H7.as kr,isK⟩
   ·refine dS [.v,.l 0,.v,.o (ins:=[((.tmp 48),.slice p n c),((.tmp 49),iN i)]) (v:=.pointer (some ⟨bl,off+i*3,none⟩)) (fun ρ o w ho hi2=>zp (kd:=.i64) (t:=30) (e:=56) (K:=3) (bytes:=40) kr (x:=(.tmp 48)) (y:=(.tmp 49)) bl off n c i hp ho hi2.1 hi2.2.1 (by omega) w),.fp (off:=off+i*3) (n:=3) (W:=blC x) hh (zj hh) (hR _ _ hx).1 (hR _ _ hx).2,.v,.l 1,.v,.o (ins:=[((.tmp 53),.slice p' n c'),((.tmp 54),iN i)]) (v:=.pointer (some ⟨bl2,off2+i*3,none⟩)) (fun ρ o w ho hi2=>zp (kd:=.i64) (t:=30) (e:=56) (K:=3) (bytes:=40) kr (x:=(.tmp 53)) (y:=(.tmp 54)) bl2 off2 n c' i hp2 ho hi2.1 hi2.2.1 (by omega) w),.fp (off:=off2+i*3) (n:=3) (W:=blC y) hh2 (zj hh2) (hR2 _ _ hy).1 (hR2 _ _ hy).2,.o (hit true (by rw[decide_eq_false exy];rfl))] H6 kr fun w7 H7=>zq<|rS [.v] H7 kr fun gs8 w8 H8=>?_;exact rRe [.tmp 4] [] (v:=.bool false) (v':=.bool b) H8 (za (no fun e=>exy (by rw[e.2,hy]at hx;exact(Q1.inj hx).symm)).symm) kr
  ·rintro _ w7 ⟨htk2,H7,_,rfl⟩;rw[Qq (by omega),Qq (by omega)]at htk2;refine wW<|rS [.v] H7 kr fun gs8 w8 H8=>?_;exact rRe [.tmp 4] [] (v:=.bool true) (v':=.bool b) H8 (za (hb.2 ⟨htk,htk2⟩).symm) kr
def yv (V:List Bal)(h:Hdr)(ep:Nat):List Bal:=if h.hh%ep=0 then [] else V
def zs (L:Qi)(V:List Bal)(h:Hdr)(ep:Nat):Qi×List Bal×Nat:=
 if zF L V=false\/qW h=false\/ep=0 then ([],[],1)
 else if h.vs≠L then ([],[],43)
 else if zK h.pr L=false then ([],[],42)
 else if h.vo=em then (L,yv V h ep,0)
 else zY L (yv V h ep) (h.pr,h.vo,h.ad)
section
variable {l:Bool}{s:Qa}{k:Fo}
end
section
open D2 (Gh)
end
section
variable {t:Qa}{a b j:Nat}{p:Qc}{n c:Nat}{row:Qb}{M:List X3}{T:Qb}
end
section
variable {P:Program}{N:Nat}{ops:Array Oper}{K:Env->World->Prop}{ρ:Env}{w w0:World}{i B:Nat}{r:List Nat}{l:Qb}
end
section
open D2 (Gh)
section
variable {P:Program}{N:Nat}{ops:Array Oper}{i:Nat}{r:List Nat}{K:Env->World->Prop}{ρ:Env}{w w0:World}{B:Nat}{l:Qb}
end
def hd0:Hdr:=⟨em,0,em,em,em,em,[],em,false,0,[]⟩
end
abbrev Hed:=Hdr×(Qc×Nat×Nat)×(Qc×Nat×Nat)
abbrev heC (x:Hed):Qd:=hdC x.1 x.2.1.1 x.2.1.2.1 x.2.1.2.2 x.2.2.1 x.2.2.2.1 x.2.2.2.2
def heS:Fl Hed where
 K:=11
 cs x:=(heC x).toList
 pos:=by decide
 len _:=rfl
 one a:=fun u hu=>by simp[hdC]at hu;rcases hu with h | h | h | h | h | h | h | h | h | h | h<;>rw[h]<;>rfl
def yQ (w:World)(p:Qc)(n:Nat)(X:List Hed):Prop:=AtF heS w p n X/\ ∀x∈X,yP w x.1 x.2.1.1 x.2.1.2.1 x.2.2.1 x.2.2.2.1
theorem yQ.call {w w':World}{p:Qc}{n:Nat}{X:List Hed}(a:yQ w p n X)(hb:Below w.heap.size w w'):yQ w' p n X:=⟨a.1.call hb,fun x hx=>(a.2 x hx).call hb⟩
def zB (ep:Nat):Qi×List Bal->List Hdr->Qi×List Bal×Nat
 | s,[]=>(s.1,s.2,0)
 | s,h::r=>if (zs s.1 s.2 h ep).2.2=0 then zB ep ((zs s.1 s.2 h ep).1,(zs s.1 s.2 h ep).2.1) r else ([],[],(zs s.1 s.2 h ep).2.2)
def yg (L:Qi)(l:List Hdr)(ep:Nat):Qi×List Bal×Nat:=
 if zF L []=false\/ep=0 then ([],[],1) else zB ep (L,[]) l
abbrev wt (b:Bool):Nat:=if b=true then 0 else 1
theorem zan (b:Bal): ∀(V:List Bal) (s:List Bal×Bool),(V.foldl (fun s x=>ql b (yp b s x) x) s).1.length+wt (V.foldl (fun s x=>ql b (yp b s x) x) s).2<=s.1.length+wt s.2+V.length
 | [],s=>by simp
 | x::r,s=>by
  have h1:=zan b r (ql b (yp b s x) x);have h2:(ql b (yp b s x) x).1.length<=(yp b s x).1.length+1:=zdn b _ x;have h3:(yp b s x).1.length+wt (yp b s x).2<=s.1.length+wt s.2:=by
   unfold yp;split
   ·rename_i h9
    have h8:s.2=false:=by cases h7:s.2 with
     | false=>rfl
     | true=>rw[h7]at h9;cases h9
    show (s.1++ [b]).length+wt true<=_;rw[QF,h8];exact Qs _
   ·exact Qs _
  have h4:(ql b (yp b s x) x).2=(yp b s x).2:=rfl;rw[h4]at h1;rw[RE,Ru];omega
theorem zdq (b:Bal)(V:List Bal):(zC b V).length<=V.length+1:=by
 have h:=zan b V ([],false);change (jm b V).1.length+wt (jm b V).2<=0+1+V.length at h;unfold zC;split
 ·omega
 ·rename_i h9
  rw[show wt (jm b V).2=1 from if_neg h9]at h;rw[QF];show (jm b V).1.length+1<=_;omega
theorem zao (a:Qa): ∀(L:Qi) (s:Qi×Bool),(L.foldl (fun s x=>qm a (yq a s x) x) s).1.length+wt (L.foldl (fun s x=>qm a (yq a s x) x) s).2<=s.1.length+wt s.2+L.length
 | [],s=>by simp
 | x::r,s=>by
  have h1:=zao a r (qm a (yq a s x) x);have h2:(qm a (yq a s x) x).1.length<=(yq a s x).1.length+1:=zdo a _ x;have h3:(yq a s x).1.length+wt (yq a s x).2<=s.1.length+wt s.2:=by
   unfold yq;split
   ·rename_i h9
    have h8:s.2=false:=by cases h7:s.2 with
     | false=>rfl
     | true=>rw[h7]at h9;cases h9
    show (s.1++ [a]).length+wt true<=_;rw[QF,h8];exact Qs _
   ·exact Qs _
  have h4:(qm a (yq a s x) x).2=(yq a s x).2:=rfl;rw[h4]at h1;rw[RE,Ru];omega
theorem zdr (a:Qa)(add:Bool)(L:Qi):(ym a add L).length<=L.length+1:=by
 have h:=zao a L ([],!add);change (qX a add L).1.length+wt (qX a add L).2<=0+wt (!add)+L.length at h;have h1:wt (!add)<=1:=by cases add<;>decide
 unfold ym;split
 ·omega
 ·rename_i h9
  rw[show wt (qX a add L).2=1 from if_neg h9]at h;rw[QF];show (qX a add L).1.length+1<=_;omega
theorem zds (L:Qi)(V:List Bal)(b:Bal):(zY L V b).1.length<=L.length+1/\(zY L V b).2.1.length<=V.length+1:=by
 have h1:=zdq b V;have h2:=zdr b.2.1 b.2.2 L;unfold zY;split
 ·exact⟨QH _,QH _⟩
 ·split
  ·exact⟨QH _,QH _⟩
  ·split
   ·exact⟨Nat.le_succ _,h1⟩
   ·refine⟨h2,?_⟩;have h3:=RV (yt b) (zC b V);have h4:=RV (fun x=>b.2.2||decide (2*zv x ((zC b V).filter (yt b))<=(ym b.2.1 b.2.2 L).length)) ((zC b V).filter (yt b));exact Ro h4 (Ro h3 h1)
theorem vm (L:Qi)(V:List Bal)(h:Hdr)(ep:Nat):(zs L V h ep).1.length<=L.length+1/\(zs L V h ep).2.1.length<=V.length+1:=by
 have h1:(yv V h ep).length<=V.length:=by
  unfold yv;split
  ·exact QH _
  ·exact Qs _
 have h2:=zds L (yv V h ep) (h.pr,h.vo,h.ad);unfold zs;split
 ·exact⟨QH _,QH _⟩
 ·split
  ·exact⟨QH _,QH _⟩
  ·split
   ·exact⟨QH _,QH _⟩
   ·split
    ·exact⟨Nat.le_succ _,Nat.le_succ_of_le h1⟩
    ·exact⟨h2.1,Ro h2.2 (Nat.succ_le_succ h1)⟩
theorem yc.step {α:Type}{S:Fl α}{ty:TypeId}{q0:Qc}{m0 c0:Nat}{L0:List α}{q1:Qc}{m1 c1:Nat}{A:Qb}{L1:List α}{q2:Qc}{m2 c2:Nat}{T:Qb}{L2:List α}(h1:yc S ty q0 m0 c0 L0 q1 m1 c1 A L1)(h2:yc S ty q1 m1 c1 L1 q2 m2 c2 T L2):∃A',yc S ty q0 m0 c0 L0 q2 m2 c2 A' L2/\A'.Sublist (T++A):=by
 rcases h2 with⟨rfl,rfl,rfl,rfl,rfl⟩|h2
 ·exact⟨A,h1,.refl _⟩
 ·exact⟨T,.inr h2,List.sublist_append_left _ _⟩
theorem yc.at {α:Type}{S:Fl α}{ty:TypeId}{q0:Qc}{m0 c0:Nat}{L0:List α}{q:Qc}{m c:Nat}{T:Qb}{L:List α}(h:yc S ty q0 m0 c0 L0 q m c T L){B:Nat}{w0 w:World}{l:Qb}(hS:St B w0 w l)(hl: ∀e∈T,e∈l)(hA:AtF S w q0 m0 L0):AtF S w q m L:=by
 rcases h with⟨rfl,rfl,rfl,rfl,rfl⟩|h
 ·exact hA
 ·exact h.atF hS hl
theorem xh {α:Type}(A B C D E:List α):(E++((A++C)++(B++D))).Perm ((A++B)++(E++(C++D))):=by
 have h1:((A++C)++(B++D)).Perm ((A++B)++(C++D)):=by
  rw[QJ,QJ];refine Uw A ?_;rw[<-QJ,<-QJ];exact List.Perm.append_right D Rd
 exact(Uw E h1).trans (by rw[<-QJ,<-QJ (A++B)];exact List.Perm.append_right _ Rd)
section
open Go.ChangeShapes Go.WideShapes Go.ChangeAt
section
variable {H:Type}{enc:TypeId×Value->H}{W:World}{sp:Nat->Bool}{held:Bool}
theorem zdt (fuel:Nat)(cs:List Value)(x:DataW H×List MemPlace)(h:QP enc Try.prog W 0 sp held fuel 35 cs=some x):∃a:Hed,cs=heS.cs a/\(qH a.1/\yd a.2.1.1 a.2.1.2.1 a.2.1.2.2/\yd a.2.2.1 a.2.2.2.1 a.2.2.2.2/\yP W a.1 a.2.1.1 a.2.1.2.1 a.2.2.1 a.2.2.2.1):=by
 obtain⟨xs,m,rfl,hxx,hl,hlen,hff⟩:=DataW.trod_struct Try.underlying35 h;rw[zag]at hl;obtain⟨c0,c1,c2,c3,c4,c5,c6,c7,c8,c9,c10,rfl⟩:=zai cs hl;obtain⟨y0,y1,y2,y3,y4,y5,y6,y7,y8,y9,y10,rfl⟩:=zai xs hlen;have g0:=hff 0 _ rfl;have g1:=hff 1 _ rfl;have g2:=hff 2 _ rfl;have g3:=hff 3 _ rfl;have g4:=hff 4 _ rfl;have g5:=hff 5 _ rfl;have g6:=hff 6 _ rfl;have g7:=hff 7 _ rfl;have g8:=hff 8 _ rfl;have g9:=hff 9 _ rfl;have g10:=hff 10 _ rfl;change QP enc Try.prog W 0 sp held m 9 (([c0,c1,c2,c3,c4,c5,c6,c7,c8,c9,c10].drop 0).take (Try.prog.cellsOf 9))=some y0 at g0;change QP enc Try.prog W 0 sp held m 23 (([c0,c1,c2,c3,c4,c5,c6,c7,c8,c9,c10].drop 1).take (Try.prog.cellsOf 23))=some y1 at g1;change QP enc Try.prog W 0 sp held m 9 (([c0,c1,c2,c3,c4,c5,c6,c7,c8,c9,c10].drop 2).take (Try.prog.cellsOf 9))=some y2 at g2;change QP enc Try.prog W 0 sp held m 9 (([c0,c1,c2,c3,c4,c5,c6,c7,c8,c9,c10].drop 3).take (Try.prog.cellsOf 9))=some y3 at g3;change QP enc Try.prog W 0 sp held m 9 (([c0,c1,c2,c3,c4,c5,c6,c7,c8,c9,c10].drop 4).take (Try.prog.cellsOf 9))=some y4 at g4;change QP enc Try.prog W 0 sp held m 9 (([c0,c1,c2,c3,c4,c5,c6,c7,c8,c9,c10].drop 5).take (Try.prog.cellsOf 9))=some y5 at g5;change QP enc Try.prog W 0 sp held m 22 (([c0,c1,c2,c3,c4,c5,c6,c7,c8,c9,c10].drop 6).take (Try.prog.cellsOf 22))=some y6 at g6;change QP enc Try.prog W 0 sp held m 9 (([c0,c1,c2,c3,c4,c5,c6,c7,c8,c9,c10].drop 7).take (Try.prog.cellsOf 9))=some y7 at g7;change QP enc Try.prog W 0 sp held m 4 (([c0,c1,c2,c3,c4,c5,c6,c7,c8,c9,c10].drop 8).take (Try.prog.cellsOf 4))=some y8 at g8;change QP enc Try.prog W 0 sp held m 23 (([c0,c1,c2,c3,c4,c5,c6,c7,c8,c9,c10].drop 9).take (Try.prog.cellsOf 23))=some y9 at g9;change QP enc Try.prog W 0 sp held m 33 (([c0,c1,c2,c3,c4,c5,c6,c7,c8,c9,c10].drop 10).take (Try.prog.cellsOf 33))=some y10 at g10;rw[vj]at g0 g2 g3 g4 g5 g7;rw[zdg]at g1 g9;rw[zdh]at g8;rw[zdi]at g6;rw[zdj]at g10;have str: ∀ {c:Value} {y:DataW H×List MemPlace},QP enc Try.prog W 0 sp held m 9 [c]=some y->∃s,c=.string s:=fun {c y} g=>by
  obtain⟨s,e,_,_⟩:=DataW.trod_string Try.underlying9 g;exact⟨s,by simpa using e⟩
 have num: ∀ {c:Value} {y:DataW H×List MemPlace},QP enc Try.prog W 0 sp held m 23 [c]=some y->∃n:Nat,n<0x10000000000000000/\c=.int .u64 ((n:Nat):Int):=fun {c y} g=>by
  obtain⟨z,e,_,hw⟩:=R6 Try.underlying23 g;obtain⟨n,hn,rfl⟩:=uM hw;exact⟨n,hn,by simpa using e⟩
 obtain⟨s0,rfl⟩:=str g0;obtain⟨n1,h1,rfl⟩:=num g1;obtain⟨s2,rfl⟩:=str g2;obtain⟨s3,rfl⟩:=str g3;obtain⟨s4,rfl⟩:=str g4;obtain⟨s5,rfl⟩:=str g5;obtain⟨s7,rfl⟩:=str g7;obtain⟨n9,h9,rfl⟩:=num g9;obtain⟨b,e8,_⟩:=DataW.trod_bool Try.underlying4 (show QP enc Try.prog W 0 sp held m 4 [c8]=some y8 from g8);obtain rfl:c8=.bool b:=by simpa using e8
 obtain⟨p,n,c,L,rfl,sl,_,at6⟩:=kY (S:=sS) Try.underlying22 vj zaj (show QP enc Try.prog W 0 sp held m 22 [c6]=some y6 from g6);obtain⟨q,mm,k,M,rfl,sl2,ok2,at10⟩:=kY (S:=sgF) Try.underlying33 zah zdk (show QP enc Try.prog W 0 sp held m 33 [c10]=some y10 from g10);exact⟨(⟨s0,n1,s2,s3,s4,s5,L,s7,b,n9,M⟩,(p,n,c),(q,mm,k)),rfl,⟨h1,h9,ok2⟩,sl,sl2,at6,at10⟩
theorem zdu {v:Value}{d:DataW H}{p:List MemPlace}{base:Nat}(hv:Vd Try.prog W .any base 36 v)(h:DataW.Trod enc Try.prog W 0 sp held 36 v d p):
 ∃(q:Qc) (n c:Nat) (X:List Hed),v=.slice q n c/\yd q n c/\(∀a∈X,qH a.1/\yd a.2.1.1 a.2.1.2.1 a.2.1.2.2/\yd a.2.2.1 a.2.2.2.1 a.2.2.2.2/\yP W a.1 a.2.1.1 a.2.1.2.1 a.2.2.1 a.2.2.2.1)/\AtF heS W q n X:=
 uN (S:=heS) Try.underlying36 zag zdt hv h
end
end
theorem zap: ∀ {x y:List UInt8},zf x y=false->x≠y->zf y x=true
 | [],[],_,h=>absurd rfl h
 | [],_::_,h,_=>by simp[zf]at h
 | _::_,[],_,_=>rfl
 | a::x,b::y,h,hne=>by
  unfold zf at h⊢;by_cases e:a=b
  ·subst e;have hlt: ¬a.toNat<a.toNat:=UB _;simp only[UB,if_false,if_true]at h⊢;exact zap h fun e=>hne (by rw[e])
  ·have hn:a.toNat≠b.toNat:=fun q=>e (UInt8.toNat_inj.1 q);by_cases c:b.toNat<a.toNat
   ·rw[if_pos c]
   ·have:a.toNat<b.toNat:=by omega
    rw[if_pos this]at h;cases h
theorem xZ {a b:Qa}(h:zf (tl a) (tl b)=false)(hne:a≠b):zf (tl b) (tl a)=true:=zap h fun e=>hne (uA e)
theorem zaq {a b:Qa}(h:zf (tl a) (tl b)=true):a≠b:=fun e=>by rw[e,xU]at h;cases h
theorem zar {a b:Qa}(h:zf (tl a) (tl b)=true):zf (tl b) (tl a)=false:=QZ.2 fun e=>by
 have:=jj h e;rw[xU]at this;cases this
def nsB (b x:Bal):Bool:= !(decide (x.2.1=b.2.1)&&decide (x.1=b.1))
theorem qn {b x:Bal} :nsB b x=true↔ ¬(x.2.1=b.2.1/\x.1=b.1):=by
 unfold nsB;by_cases h1:x.2.1=b.2.1<;>by_cases h2:x.1=b.1<;>simp[h1,h2]
theorem jo {a b c:Bal}(h1:aheadB a b=true)(h2:aheadB b c=true):aheadB a c=true:=by
 unfold aheadB at*;by_cases e1:a.2.1=b.2.1
 ·rw[if_pos e1]at h1;by_cases e2:b.2.1=c.2.1
  ·rw[if_pos e2]at h2;rw[if_pos (e1.trans e2)];exact jj h1 h2
  ·rw[if_neg e2]at h2;rw[if_neg (by rw[e1];exact e2),e1];exact h2
 ·rw[if_neg e1]at h1;by_cases e2:b.2.1=c.2.1
  ·rw[if_pos e2]at h2;rw[if_neg (by rw[<-e2];exact e1),<-e2];exact h1
  ·rw[if_neg e2]at h2;have h3:=jj h1 h2;rw[if_neg (zaq h3)];exact h3
theorem ka {b x:Bal}(h:aheadB x b=true):nsB b x=true:=qn.2 fun e=>by
 unfold aheadB at h;rw[if_pos e.1,e.2,xU]at h;cases h
theorem vn {x b:Bal}(h:aheadB x b=false)(hn:nsB b x=true):aheadB b x=true:=by
 have h1:=qn.1 hn;unfold aheadB at*;by_cases e:x.2.1=b.2.1
 ·rw[if_pos e]at h;rw[if_pos e.symm];exact xZ h fun e2=>h1 ⟨e,e2⟩
 ·rw[if_neg e]at h;rw[if_neg (fun q=>e q.symm)];exact xZ h e
def qu (b:Bal):List Bal->List Bal
 | []=>[b]
 | x::r=>if aheadB x b=true then x::qu b r else b::(x::r).filter (nsB b)
theorem zas (b x:Bal)(r:List Bal):qu b (x::r)=if aheadB x b=true then x::qu b r else b::(x::r).filter (nsB b):=rfl
theorem zat (b:Bal)(s:List Bal×Bool)(x:Bal):ql b s x=(if nsB b x=true then s.1++ [x] else s.1,s.2):=by
 unfold ql;by_cases h:x.2.1=b.2.1/\x.1=b.1
 ·rw[if_pos h,if_neg (fun e=>qn.1 e h)]
 ·rw[if_neg h,if_pos (qn.2 h)]
theorem vp (b:Bal): ∀(V:List Bal) (A:List Bal),V.foldl (fun s x=>ql b (yp b s x) x) (A,true)=(A++V.filter (nsB b),true)
 | [],A=>by simp
 | x::r,A=>by
  rw[RE,show yp b (A,true) x=(A,true) from rfl,zat,RC];by_cases h:nsB b x=true
  ·rw[if_pos h,if_pos h,vp b r];simp
  ·rw[if_neg h,if_neg h,vp b r]
def zau (b:Bal)(s:List Bal×Bool):List Bal:=if s.2=true then s.1 else s.1++ [b]
theorem zav (b:Bal): ∀(V:List Bal) (A:List Bal),zau b (V.foldl (fun s x=>ql b (yp b s x) x) (A,false))=A++qu b V
 | [],A=>rfl
 | x::r,A=>by
  rw[RE];cases h:aheadB x b with
  | true=>
   have e1:yp b (A,false) x=(A,false):=by unfold yp;rw[h];rfl
   rw[e1,zat,if_pos (ka h),zav b r];rw[zas,if_pos h];simp
  | false=>
   have e1:yp b (A,false) x=(A++ [b],true):=by unfold yp;rw[h];rfl
   rw[e1];have e2:=vp b (x::r) (A++ [b]);rw[RE,show yp b (A++ [b],true) x=(A++ [b],true) from rfl]at e2;rw[e2];unfold zau qu;rw[if_pos rfl,if_neg (by rw[h];decide)];simp
theorem vq (b:Bal)(V:List Bal):zC b V=qu b V:=by
 have:=zav b V [];rw[UF]at this;exact this
abbrev qI (V:List Bal):Prop:=V.Pairwise fun a b=>aheadB a b=true
theorem vr (b:Bal): ∀V:List Bal,(qu b V).Perm (b::V.filter (nsB b))
 | []=>.refl _
 | x::r=>by
  unfold qu;by_cases h:aheadB x b=true
  ·rw[if_pos h,RC,if_pos (ka h)];exact(List.Perm.cons _ (vr b r)).trans (UV _ _ _)
  ·rw[if_neg h]
theorem zaw (b:Bal): ∀ {V:List Bal},qI V->qI (qu b V)
 | [],_=>List.pairwise_singleton _ _
 | x::r,hs=>by
  obtain⟨h1,h2⟩:=QO.1 hs;unfold qu;by_cases h:aheadB x b=true
  ·rw[if_pos h];refine QO.2 ⟨fun y hy=>?_,zaw b h2⟩;rcases QN.1 ((vr b r).mem_iff.1 hy) with rfl | hy
   ·exact h
   ·exact h1 y (Rh.1 hy).1
  ·rw[if_neg h];refine QO.2 ⟨fun y hy=>?_,RJ _ hs⟩;obtain⟨hm,hn⟩:=Rh.1 hy;rcases QN.1 hm with rfl | hm
   ·exact vn (QZ.2 h) hn
   ·have h3:=h1 y hm;by_cases hx:nsB b x=true
    ·exact jo (vn (QZ.2 h) hx) h3
    ·
     have hxb:x.2.1=b.2.1/\x.1=b.1:=by
      by_cases q:x.2.1=b.2.1/\x.1=b.1
      ·exact q
      ·exact absurd (qn.2 q) hx
     unfold aheadB at h3⊢;rw[hxb.1,hxb.2]at h3;exact h3
theorem zax (b:Bal)(V:List Bal):(zC b V).Perm (b::V.filter (nsB b)):=by rw[vq];exact vr b V
theorem zay (b:Bal){V:List Bal}(h:qI V):qI (zC b V):=by rw[vq];exact zaw b h
theorem zdv (c b:Bal)(V:List Bal):zv c (zC b V)=(if yl c b=true then 1 else 0)+((V.filter (nsB b)).filter (yl c)).length:=by
 unfold zv;rw[((zax b V).filter (yl c)).length_eq,RC];split
 ·rw[Ru];omega
 ·omega
abbrev qJ (L:Qi):Prop:=L.Pairwise fun a b=>zf (tl a) (tl b)=true
theorem zaz (L:Qi)(V:List Bal): ∀(W:List Bal) (p:Option Bal),xY L V p W=true↔(∀x∈W,zP L x=true/\2*zv x V<=L.length)/\qI W/\ ∀x∈W,qt p x=true
 | [],p=>⟨fun _=>⟨fun x hx=>absurd hx (Rv),List.Pairwise.nil,fun x hx=>absurd hx (Rv)⟩,fun _=>rfl⟩
 | b::r,p=>by
  have ih:=zaz L V r (some b);show (zP L b&&(qt p b&&(decide (2*zv b V<=L.length)&&xY L V (some b) r)))=true↔_;rw[Qm,Qm,Qm,ih,decide_eq_true_iff];constructor
  ·rintro⟨h1,h2,h3,h4,h5,h6⟩;refine⟨fun x hx=>?_,QO.2 ⟨h6,h5⟩,fun x hx=>?_⟩
   ·rcases QN.1 hx with rfl|hx
    ·exact⟨h1,h3⟩
    ·exact h4 x hx
   ·rcases QN.1 hx with rfl|hx
    ·exact h2
    ·cases p with
     | none=>rfl
     | some a=>exact jo h2 (h6 x hx)
  ·rintro⟨h1,h2,h3⟩;obtain⟨h4,h5⟩:=QO.1 h2;have h6:=h1 b (QU ..);exact⟨h6.1,h3 b (QU ..),h6.2,fun x hx=>h1 x (Q7 _ hx),h5,h4⟩
theorem jp {L:Qi}{V:List Bal} :zF L V=true↔(∀x∈V,zP L x=true/\2*zv x V<=L.length)/\qI V/\zH L=true:=by
 unfold zF;rw[Qm,zaz];exact⟨fun h=>⟨h.1.1,h.1.2.1,h.2⟩,fun h=>⟨⟨h.1,h.2.1,fun _ _=>rfl⟩,h.2.2⟩⟩
theorem zaA: ∀(W:Qi) (p:Option Qa),yA p W=true↔(∀x∈W,x.size=20)/\qJ W/\ ∀x∈W,upB p x=true
 | [],p=>⟨fun _=>⟨fun x hx=>absurd hx (Rv),List.Pairwise.nil,fun x hx=>absurd hx (Rv)⟩,fun _=>rfl⟩
 | b::r,p=>by
  have ih:=zaA r (some b);show (decide (b.size=20)&&(upB p b&&yA (some b) r))=true↔_;rw[Qm,Qm,ih,decide_eq_true_iff];constructor
  ·rintro⟨h1,h2,h4,h5,h6⟩;refine⟨fun x hx=>?_,QO.2 ⟨h6,h5⟩,fun x hx=>?_⟩
   ·rcases QN.1 hx with rfl|hx
    ·exact h1
    ·exact h4 x hx
   ·rcases QN.1 hx with rfl|hx
    ·exact h2
    ·cases p with
     | none=>rfl
     | some a=>exact jj h2 (h6 x hx)
  ·rintro⟨h1,h2,h3⟩;obtain⟨h4,h5⟩:=QO.1 h2;exact⟨h1 b (QU ..),h3 b (QU ..),fun x hx=>h1 x (Q7 _ hx),h5,h4⟩
theorem xi {L:Qi} :zH L=true↔(∀x∈L,x.size=20)/\qJ L/\0<L.length/\L.length<=16:=by
 unfold zH;rw[Qm,Qm,zaA,decide_eq_true_iff,decide_eq_true_iff];exact⟨fun h=>⟨h.1.1,h.1.2.1,h.2⟩,fun h=>⟨⟨h.1,h.2.1,fun _ _=>rfl⟩,h.2.2⟩⟩
theorem qv {L:Qi}{b:Bal} :zP L b=true↔b.1∈L/\b.2.1.size=20/\zK b.2.1 L= !b.2.2:=by
 unfold zP;rw[Qm,Qm,jl,decide_eq_true_iff];refine and_congr Iff.rfl (and_congr Iff.rfl ?_);cases zK b.2.1 L<;>cases b.2.2<;>simp
def neA (a x:Qa):Bool:= !decide (x=a)
theorem qo {a x:Qa} :neA a x=true↔x≠a:=by unfold neA;by_cases h:x=a<;>simp[h]
def qK (a:Qa):Qi->Qi
 | []=>[a]
 | x::r=>if zf (tl a) (tl x)=true then a::(x::r).filter (neA a) else if x=a then qK a r else x::qK a r
theorem kb (a x:Qa)(r:Qi):qK a (x::r)=if zf (tl a) (tl x)=true then a::(x::r).filter (neA a) else if x=a then qK a r else x::qK a r:=rfl
theorem zaB (a:Qa)(s:Qi×Bool)(x:Qa):qm a s x=(if neA a x=true then s.1++ [x] else s.1,s.2):=by
 unfold qm;by_cases h:x=a
 ·rw[if_pos h,if_neg (fun e=>qo.1 e h)]
 ·rw[if_neg h,if_pos (qo.2 h)]
theorem ke (a:Qa): ∀(L A:Qi),L.foldl (fun s x=>qm a (yq a s x) x) (A,true)=(A++L.filter (neA a),true)
 | [],A=>by simp
 | x::r,A=>by
  rw[RE,show yq a (A,true) x=(A,true) from rfl,zaB,RC];by_cases h:neA a x=true
  ·rw[if_pos h,if_pos h,ke a r];simp
  ·rw[if_neg h,if_neg h,ke a r]
def zaC (a:Qa)(s:Qi×Bool):Qi:=if s.2=true then s.1 else s.1++ [a]
theorem vt (a:Qa): ∀(L A:Qi),zaC a (L.foldl (fun s x=>qm a (yq a s x) x) (A,false))=A++qK a L
 | [],A=>rfl
 | x::r,A=>by
  rw[RE,kb];cases h:zf (tl a) (tl x) with
  | true=>
   have e1:yq a (A,false) x=(A++ [a],true):=by unfold yq;rw[h];rfl
   rw[e1];have e2:=ke a (x::r) (A++ [a]);rw[RE,show yq a (A++ [a],true) x=(A++ [a],true) from rfl]at e2;rw[e2,if_pos rfl];unfold zaC;rw[if_pos rfl];simp
  | false=>
   have e1:yq a (A,false) x=(A,false):=by unfold yq;rw[h];rfl
   rw[e1,zaB,if_neg QS];by_cases e:x=a
   ·rw[if_neg (fun q=>qo.1 q e),if_pos e];exact vt a r A
   ·rw[if_pos (qo.2 e),if_neg e];exact(vt a r (A++ [x])).trans (by simp)
theorem kf (a:Qa)(L:Qi):ym a true L=qK a L:=by
 have:=vt a L [];rw[UF]at this;exact this
theorem kg (a:Qa)(L:Qi):ym a false L=L.filter (neA a):=by
 have:=ke a L [];rw[UF]at this;unfold ym qX;rw[show (!false)=true from rfl,this,if_pos rfl]
theorem xj (a:Qa): ∀L:Qi,(qK a L).Perm (a::L.filter (neA a))
 | []=>.refl _
 | x::r=>by
  rw[kb];by_cases h:zf (tl a) (tl x)=true
  ·rw[if_pos h]
  ·rw[if_neg h];by_cases e:x=a
   ·rw[if_pos e,RC,if_neg (fun q=>qo.1 q e)];exact xj a r
   ·rw[if_neg e,RC,if_pos (qo.2 e)];exact(List.Perm.cons _ (xj a r)).trans (UV _ _ _)
theorem vu (a:Qa): ∀ {L:Qi},qJ L->qJ (qK a L)
 | [],_=>List.pairwise_singleton _ _
 | x::r,hs=>by
  obtain⟨h1,h2⟩:=QO.1 hs;rw[kb];by_cases h:zf (tl a) (tl x)=true
  ·rw[if_pos h];refine QO.2 ⟨fun y hy=>?_,RJ _ hs⟩;rcases QN.1 (Rh.1 hy).1 with rfl | hm
   ·exact h
   ·exact jj h (h1 y hm)
  ·rw[if_neg h];by_cases e:x=a
   ·rw[if_pos e];exact vu a h2
   ·rw[if_neg e];refine QO.2 ⟨fun y hy=>?_,vu a h2⟩;rcases QN.1 ((xj a r).mem_iff.1 hy) with rfl | hy
    ·exact xZ (QZ.2 h) fun q=>e q.symm
    ·exact h1 y (Rh.1 hy).1
theorem vv {a:Qa}{L:Qi}(h:a∉L):L.filter (neA a)=L:=Rf.2 fun x hx=>qo.2 fun e=>h (e▸hx)
theorem zaD {a:Qa} : ∀ {L:Qi},qJ L->a∈L->(L.filter (neA a)).length+1=L.length
 | [],_,h=>absurd h (Rv)
 | x::r,hs,h=>by
  obtain⟨h1,h2⟩:=QO.1 hs;rw[RC];by_cases e:x=a
  ·rw[if_neg (fun q=>qo.1 q e),vv (fun hm=>zaq (h1 a hm) e),Ru]
  ·rw[if_pos (qo.2 e),Ru,Ru];rcases QN.1 h with q | q
   ·exact absurd q.symm e
   ·have:=zaD h2 q;omega
theorem vw {a:Qa}{add:Bool}{L:Qi}{x:Qa} :x∈ym a add L↔(add=true/\x=a)\/(x∈L/\x≠a):=by
 cases add with
 | true=>
  rw[kf,(xj a L).mem_iff,QN,Rh,qo];simp
 | false=>
  rw[kg,Rh,qo];simp
theorem zaE {a:Qa}{L:Qi}(h:a∉L):(ym a true L).length=L.length+1:=by
 rw[kf,(xj a L).length_eq,Ru,vv h]
theorem zdw {a:Qa}{L:Qi}(hs:qJ L)(h:a∈L):(ym a false L).length+1=L.length:=by
 rw[kg];exact zaD hs h
theorem xk {a:Qa}{L:Qi}(h:zK a L=false):a∉L:=fun e=>by rw[jl.2 e]at h;cases h
theorem zdx {a:Qa}{L M:Qi}(h:a∈L↔a∈M):zK a L=zK a M:=by
 cases e:zK a M with
 | true=>exact jl.2 (h.2 (jl.1 e))
 | false=>exact QZ.2 fun q=>xk e (h.1 (jl.1 q))
theorem zdy {a:Qa}{add:Bool}{L:Qi}(hr:zH L=true)(ha:a.size=20)(hh:zK a L= !add)(h1:add=true->L.length<16)(h2:add=false->L.length≠1):zH (ym a add L)=true:=by
 obtain⟨q1,q2,q3,q4⟩:=xi.1 hr;refine xi.2 ⟨fun x hx=>?_,?_,?_⟩
 ·rcases vw.1 hx with⟨_,rfl⟩|⟨hx,_⟩
  ·exact ha
  ·exact q1 x hx
 ·cases add with
  | true=>rw[kf];exact vu a q2
  | false=>rw[kg];exact RJ _ q2
 ·cases add with
  | true=>
   have:=zaE (xk hh);have:=h1 rfl;omega
  | false=>
   have:=zdw q2 (jl.1 hh);have:=h2 rfl;omega
theorem zdz {b x:Bal}(h:yl x b=true):zv x=zv b:=by
 unfold yl at h;rw[Qm,decide_eq_true_iff,beq_iff_eq]at h;funext V;unfold zv;congr 2;funext y;unfold yl;rw[h.1,h.2]
theorem vx {c:Bal}{A V:List Bal}(h:A.Sublist V):zv c A<=zv c V:=(h.filter _).length_le
theorem zaF {b x:Bal}{V:List Bal}(h: ¬yl x b=true):zv x (zC b V)<=zv x V:=by
 rw[zdv,if_neg h,Qy];exact vx (Uo)
theorem vy {b x:Bal}{V:List Bal} :x∈zC b V↔x=b\/(x∈V/\nsB b x=true):=by
 rw[(zax b V).mem_iff,QN,Rh]
theorem zdA {L:Qi}{V:List Bal}{b:Bal}(h:(zY L V b).2.2=0):zF L V=true/\zP L b=true/\(b.2.2=true->L.length<16)/\(b.2.2=false->L.length≠1)/\
 zY L V b=if 2*zv b (zC b V)<=L.length then (L,zC b V,0) else (ym b.2.1 b.2.2 L,((zC b V).filter (yt b)).filter (fun x=>b.2.2||decide (2*zv x ((zC b V).filter (yt b))<=(ym b.2.1 b.2.2 L).length)),0):=by
 unfold zY at h⊢;by_cases h1:zF L V=false
 ·rw[if_pos h1]at h;cases h
 rw[if_neg h1]at h⊢;by_cases h2:zP L b=false\/(b.2.2=true/\16<=L.length)\/(b.2.2=false/\L.length=1)
 ·rw[if_pos h2]at h;cases h
 rw[if_neg h2];refine⟨by cases e:zF L V<;>simp_all,by cases e:zP L b<;>simp_all,fun e=>?_,fun e q=>h2 (.inr (.inr ⟨e,q⟩)),rfl⟩;exact Nat.lt_of_not_le fun q=>h2 (.inr (.inl ⟨e,q⟩))
theorem zdB {L:Qi}{V:List Bal}{b:Bal}(h:(zY L V b).2.2=0):zF (zY L V b).1 (zY L V b).2.1=true:=by
 obtain⟨hr,hf,ha,hc,e⟩:=zdA h;rw[e];obtain⟨r1,r2,r3⟩:=jp.1 hr;obtain⟨f1,f2,f3⟩:=qv.1 hf;by_cases h2:2*zv b (zC b V)<=L.length
 ·rw[if_pos h2];refine jp.2 ⟨fun x hx=>?_,zay b r2,r3⟩;rcases vy.1 hx with rfl | ⟨hx,hn⟩
  ·exact⟨hf,h2⟩
  ·refine⟨(r1 x hx).1,?_⟩;by_cases q:yl x b=true
   ·rw[zdz q];exact h2
   ·have:=zaF (V:=V) q;have:=(r1 x hx).2;show 2*zv x (zC b V)<=L.length;omega
 ·rw[if_neg h2];have hset:zH (ym b.2.1 b.2.2 L)=true:=zdy r3 f2 f3 ha hc;refine jp.2 ⟨fun x hx=>?_,(RJ _ (RJ _ (zay b r2))),hset⟩;change x∈((zC b V).filter (yt b)).filter _ at hx;obtain⟨hx1,hx2⟩:=Rh.1 hx;obtain⟨hx3,hx4⟩:=Rh.1 hx1;unfold yt at hx4;rw[Qm,decide_eq_true_iff,RR,decide_eq_true_iff]at hx4;have hxV:x∈V:=by
   rcases vy.1 hx3 with rfl|⟨hx,_⟩
   ·exact absurd rfl hx4.1
   ·exact hx
  obtain⟨g1,g2⟩:=r1 x hxV;obtain⟨g3,g4,g5⟩:=qv.1 g1;refine⟨qv.2 ⟨vw.2 ?_,g4,?_⟩,?_⟩
  ·by_cases q:x.1=b.2.1
   ·rcases hx4.2 with h9|h9
    ·exact .inl ⟨h9,q⟩
    ·exact absurd q h9
   ·exact .inr ⟨g3,q⟩
  ·refine(zdx ?_).trans g5;rw[vw];exact⟨fun h9=>h9.elim (fun q=>absurd q.2 hx4.1) (·.1),fun h9=>.inr ⟨h9,hx4.1⟩⟩
  ·show 2*zv x (((zC b V).filter (yt b)).filter _)<=(ym b.2.1 b.2.2 L).length;cases had:b.2.2 with
   | true=>
    have k1:zv x (((zC b V).filter (yt b)).filter (fun x=>true||decide (2*zv x ((zC b V).filter (yt b))<=(ym b.2.1 true L).length)))<=zv x (zC b V):=vx (List.Sublist.trans Uo Uo)
    have k2:zv x (zC b V)<=zv x V:=zaF fun q=>hx4.1 (by
     unfold yl at q;rw[Qm,decide_eq_true_iff]at q;exact q.1.symm)
    rw[had]at f3;have k3:=zaE (xk f3);omega
   | false=>
    rw[had,Ub,decide_eq_true_iff]at hx2;exact Ro (Nat.mul_le_mul_left 2 (vx Uo)) hx2
theorem vz (ep:Nat): ∀(A B:List Hdr) (s:Qi×List Bal),zB ep s (A++B)=if (zB ep s A).2.2=0 then zB ep ((zB ep s A).1,(zB ep s A).2.1) B else zB ep s A
 | [],B,s=>by
  show _=if (0:Nat)=0 then zB ep (s.1,s.2) B else _;rw[if_pos rfl];rfl
 | h::A,B,s=>by
  rw[List.cons_append];show (if (zs s.1 s.2 h ep).2.2=0 then zB ep _ (A++B) else _)=_;have e0:zB ep s (h::A)=if (zs s.1 s.2 h ep).2.2=0 then zB ep ((zs s.1 s.2 h ep).1,(zs s.1 s.2 h ep).2.1) A else ([],[],(zs s.1 s.2 h ep).2.2):=rfl;by_cases e:(zs s.1 s.2 h ep).2.2=0
  ·rw[if_pos e]at e0⊢;rw[vz ep A B,e0]
  ·rw[if_neg e]at e0⊢;rw[e0,if_neg e]
def whoC (a:Qa)(V:List Bal):Nat:=(V.filter fun x=>decide (x.2.1=a)).length
theorem zaG (a:Qa)(V:List Bal):whoC a V<=V.length:=RV _ _
theorem vA (a:Qa)(V:List Bal)(x:Bal):whoC a (V++ [x])=whoC a V+if x.2.1=a then 1 else 0:=by
 unfold whoC;rw[Re,QF];congr 1;by_cases h:x.2.1=a
 ·rw[if_pos h,R9 (by simpa using h)];rfl
 ·rw[if_neg h,Rk (by simpa using h)];rfl
def qY:Option Bal->Nat->Bal->Nat
 | none,m,_=>m+1
 | some a,m,x=>(if a.2.1=x.2.1 then m else 0)+1
def jI (L:Qi):Option Bal->Nat->List Bal->Bool
 | _,_,[]=>true
 | p,m,x::r=>zP L x&&(qt p x&&(decide (2*qY p m x<=L.length)&&jI L (some x) (qY p m x) r))
def qc (L:Qi)(V:List Bal):Bool:=jI L none 0 V
theorem vB {L:Qi}{V:List Bal}{x:Bal}(hx:zP L x=true)(hV: ∀y∈V,zP L y=true):zv x V=whoC x.2.1 V:=by
 unfold zv whoC;congr 1;refine List.filter_congr fun y hy=>?_;obtain⟨_,_,h1⟩:=qv.1 hx;obtain⟨_,_,h2⟩:=qv.1 (hV y hy);unfold yl;by_cases e:y.2.1=x.2.1
 ·rw[e,h1]at h2;rw[decide_eq_true e,Ry,beq_iff_eq];cases hy2:y.2.2<;>cases hx2:x.2.2<;>simp_all
 ·rw[decide_eq_false e];rfl
structure Run (A:List Bal)(p:Option Bal)(m:Nat):Prop where
 no:p=none->A=[]/\m=0
 so: ∀a,p=some a->m=whoC a.2.1 A/\ ∀y∈A,y=a\/aheadB y a=true
theorem Run.next {A:List Bal}{p:Option Bal}{m:Nat}{x:Bal}(h:Run A p m)(hp:qt p x=true):Run (A++ [x]) (some x) (qY p m x):=by
 refine⟨(fun q=>nomatch q),fun a q=>?_⟩;obtain rfl:x=a:=Q1.inj q;refine⟨?_,fun y hy=>?_⟩
 ·rw[vA,if_pos rfl];cases p with
  | none=>
   obtain⟨rfl,rfl⟩:=h.no rfl;rfl
  | some a=>
   obtain⟨hm,ha⟩:=h.so a rfl;show (if a.2.1=x.2.1 then m else 0)+1=_;by_cases e:a.2.1=x.2.1
   ·rw[if_pos e,hm,e]
   ·rw[if_neg e];congr 1;unfold whoC;rw[List.filter_eq_nil_iff.2,List.length_nil];intro y hy;simp only[decide_eq_true_eq];intro hyx;have hp2:aheadB a x=true:=hp;have hlt:zf (tl a.2.1) (tl x.2.1)=true:=by unfold aheadB at hp2;rwa [if_neg e]at hp2
    rcases ha y hy with rfl|hya
    ·exact e hyx
    ·unfold aheadB at hya;by_cases e2:y.2.1=a.2.1
     ·exact e (e2.symm.trans hyx)
     ·rw[if_neg e2,hyx]at hya;rw[zar hlt]at hya;cases hya
 ·rcases Ut.1 hy with hy|hy
  ·cases p with
   | none=>rw[(h.no rfl).1]at hy;exact nomatch hy
   | some a=>
    have hp2:aheadB a x=true:=hp;rcases (h.so a rfl).2 y hy with rfl | q
    ·exact .inr hp2
    ·exact .inr (jo q hp2)
  ·exact .inl (Rj.1 hy)
theorem vC {L:Qi} : ∀(W A:List Bal) (p:Option Bal) (m:Nat),Run A p m->(jI L p m W=true↔(∀x∈W,zP L x=true)/\qI W/\(∀x∈W,qt p x=true)/\ ∀B x C,W=B++x::C->2*whoC x.2.1 (A++B++ [x])<=L.length)
 | [],A,p,m,_=>⟨fun _=>⟨fun x hx=>absurd hx (Rv),List.Pairwise.nil,fun x hx=>absurd hx (Rv),fun B x C h=>by simp at h⟩,fun _=>rfl⟩
 | x::r,A,p,m,hR=>by
  unfold jI;rw[Qm,Qm,Qm,decide_eq_true_iff];constructor
  ·rintro⟨h1,h2,h3,h4⟩;have hn:=hR.next h2
   obtain⟨g1,g2,g3,g4⟩:=(vC r (A++ [x]) (some x) _ hn).1 h4;refine⟨fun y hy=>?_,QO.2 ⟨g3,g2⟩,fun y hy=>?_,fun B y C e=>?_⟩
   ·rcases QN.1 hy with rfl|hy
    ·exact h1
    ·exact g1 y hy
   ·rcases QN.1 hy with rfl|hy
    ·exact h2
    ·cases p with
     | none=>rfl
     | some a=>exact jo h2 (g3 y hy)
   ·cases B with
    | nil=>
     obtain⟨rfl,rfl⟩:x=y/\r=C:=by simpa using e
     rw[RD,<-(hn.so x rfl).1];exact h3
    | cons z B=>
     obtain⟨rfl,e⟩:x=z/\r=B++y::C:=by simpa using e
     have:=g4 B y C (by assumption);rw[show A++x::B=A++ [x]++B by simp];exact this
  ·rintro⟨g1,g2,g3,g4⟩;obtain⟨q1,q2⟩:=QO.1 g2;have h2:=g3 x (QU ..);have hn:=hR.next h2
   refine⟨g1 x (QU ..),h2,?_,(vC r (A++ [x]) (some x) _ hn).2 ⟨fun y hy=>g1 y (Q7 _ hy),q2,q1,fun B y C e=>?_⟩⟩
   ·have:=g4 [] x r rfl;rw[RD,<-(hn.so x rfl).1]at this;exact this
   ·have:=g4 (x::B) y C (by rw[e];rfl);rw[show A++ [x]++B=A++x::B by simp];exact this
theorem zaH {α:Type}{P:List α->Prop}(h0:P [])(h1: ∀A x,P A->P (A++ [x]))(V:List α):P V:=by
 have: ∀n (V:List α),V.length=n->P V:=by
  intro n
  induction n with
  | zero=>intro V h;rw[List.length_eq_zero_iff.1 h];exact h0
  | succ n ih=>
   intro V h;have hne:V≠[]:=fun e=>by rw[e]at h;cases h
   have:=h1 V.dropLast (V.getLast hne) (ih _ (by rw[List.length_dropLast,h];rfl))
   rwa [List.dropLast_concat_getLast hne]at this
 exact this _ V rfl
theorem zdC {k:Nat}(V:List Bal):(∀B x C,V=B++x::C->2*whoC x.2.1 (B++ [x])<=k)-> ∀x∈V,2*whoC x.2.1 V<=k:=by
 refine zaH (P:=fun V=>(∀B x C,V=B++x::C->2*whoC x.2.1 (B++ [x])<=k)-> ∀x∈V,2*whoC x.2.1 V<=k) (fun _ x hx=>absurd hx (Rv)) (fun A y ih h x hx=>?_) V;have hy:=h A y [] rfl;by_cases e:x.2.1=y.2.1
 ·rw[e];exact hy
 ·rcases Ut.1 hx with hx|hx
  ·have:=ih (fun B z C q=>h B z (C++ [y]) (by rw[q];simp)) x hx;rw[vA,if_neg (fun q=>e q.symm)];exact this
  ·rw[Rj.1 hx]at e;exact absurd rfl e
theorem zdD (L:Qi)(V:List Bal):(zH L&&qc L V)=zF L V:=by
 rw[RS,jp,Qm];unfold qc;rw[vC V [] none 0 ⟨fun _=>⟨rfl,rfl⟩,(fun a h=>nomatch h)⟩];constructor
 ·rintro⟨hs,h1,h2,_,h4⟩;have h5:=zdC (k:=L.length) V (fun B x C e=>by simpa using h4 B x C e);exact⟨fun x hx=>⟨h1 x hx,by rw[vB (h1 x hx) h1];exact h5 x hx⟩,h2,hs⟩
 ·rintro⟨h1,h2,hs⟩;refine⟨hs,fun x hx=>(h1 x hx).1,h2,fun _ _=>rfl,fun B x C e=>?_⟩;have hx:x∈V:=by rw[e];simp
  have:=(h1 x hx).2;rw[vB (h1 x hx).1 (fun y hy=>(h1 y hy).1)]at this;have hsub:(([]:List Bal)++B++ [x]).Sublist V:=by
   rw[e,UF];exact Q8 (Rz _) (Qx _ (List.nil_sublist _))
  have:whoC x.2.1 ([]++B++ [x])<=whoC x.2.1 V:=(hsub.filter _).length_le;omega
def zl {α:Type}(f:α->Bool):List α->Nat
 | []=>0
 | x::r=>if f x=true then zl f r+1 else 0
theorem qZ {α:Type}(f:α->Bool): ∀L:List α,zl f L<=L.length
 | []=>Qs _
 | x::r=>by
  have:=qZ f r;unfold zl;split
  ·rw[Ru];omega
  ·omega
def zo {α:Type}[DecidableEq α](f:α->Bool)(b:α)(L:List α):List α:=if L[zl f L]? =some b then L else L.take (zl f L)++b::L.drop (zl f L)
theorem zaI {α:Type}[DecidableEq α](f:α->Bool)(b x:α)(r:List α):zo f b (x::r)=if f x=true then x::zo f b r else if x=b then x::r else b::x::r:=by
 unfold zo;rw[zl];by_cases h:f x=true
 ·rw[if_pos h,if_pos h];rw[List.getElem?_cons_succ];by_cases e:r[zl f r]? =some b
  ·rw[if_pos e,if_pos e]
  ·rw[if_neg e,if_neg e];rfl
 ·rw[if_neg h,if_neg h,List.getElem?_cons_zero];by_cases e:x=b
  ·rw[if_pos e,if_pos (by rw[e])]
  ·rw[if_neg e,if_neg (fun q=>e (Q1.inj q))];rfl
theorem zdE (b:Bal): ∀ {V:List Bal},qI V->(∀x∈V,nsB b x=false->x=b)->zo (fun x=>aheadB x b) b V=zC b V:=by
 intro V hs hb;rw[vq]
 induction V with
 | nil=>rfl
 | cons x r ih=>
  obtain⟨h1,h2⟩:=QO.1 hs;rw[zaI,zas];by_cases h:aheadB x b=true
  ·rw[if_pos h,if_pos h,ih h2 fun y hy=>hb y (Q7 _ hy)]
  ·rw[if_neg h,if_neg h];by_cases e:x=b
   ·rw[if_pos e];subst e;rw[RC,if_neg (fun e=>qn.1 e ⟨rfl,rfl⟩),Rf.2];intro y hy;exact qn.2 fun q=>qn.1 (ka (h1 y hy)) ⟨q.1.symm,q.2.symm⟩
   ·rw[if_neg e];have hn:nsB b x=true:=by
     cases q:nsB b x with
     | true=>rfl
     | false=>exact absurd (hb x (QU ..) q) e
    have ha:=vn (QZ.2 h) hn;rw[Rf.2];intro y hy;rcases QN.1 hy with rfl | hy
    ·exact hn
    ·exact qn.2 fun q=>qn.1 (ka (jo ha (h1 y hy))) ⟨q.1.symm,q.2.symm⟩
theorem zdF (a:Qa): ∀ {L:Qi},qJ L->a∉L->zo (fun x=>zf (tl x) (tl a)) a L=ym a true L:=by
 intro L hs ha;rw[kf]
 induction L with
 | nil=>rfl
 | cons x r ih=>
  obtain⟨h1,h2⟩:=QO.1 hs;have hxa:x≠a:=fun e=>ha (by rw[e];exact QU ..);rw[zaI,kb];by_cases h:zf (tl x) (tl a)=true
  ·rw[if_pos h,if_neg (by rw[zar h];exact QS),if_neg hxa,ih h2 fun q=>ha (Q7 _ q)]
  ·rw[if_neg h,if_neg hxa,if_pos (xZ (QZ.2 h) hxa),vv ha]
def goB (b x:Bal):Bool:=decide (x.2.1=b.2.1)||decide (x.1=b.2.1)
def yH (many:List Bal)(n:Nat)(x:Bal):Bool:=decide (n<2*whoC x.2.1 many)
def yC (L:Qi)(V:List Bal)(b:Bal):Qi×List Bal:=
 if b.2.2=true then (zo (fun x=>zf (tl x) (tl b.2.1)) b.2.1 L,V.filter fun x=> !goB b x)
 else (L.filter (fun x=> !decide (x=b.2.1)),(V.filter fun x=> !goB b x).filter fun x=> !yH (V.filter fun x=> !goB b x) (L.filter (fun x=> !decide (x=b.2.1))).length x)
def ja (L:Qi)(b:Bal):Bool:=zP L b&&(if b.2.2=true then decide (L.length<16) else decide (1<L.length))
def qw (L:Qi)(V:List Bal)(b:Bal):Qi×List Bal×Nat:=
 if zF L V=false then ([],[],1)
 else if ja L b=false then ([],[],44)
 else if L.length<2*zv b (zo (fun x=>aheadB x b) b V) then ((yC L (zo (fun x=>aheadB x b) b V) b).1,(yC L (zo (fun x=>aheadB x b) b V) b).2,0)
 else (L,zo (fun x=>aheadB x b) b V,0)
theorem kh (L:Qi)(V:List Bal)(b:Bal):qw L V b=zY L V b:=by
 unfold qw zY;by_cases hr:zF L V=false
 ·rw[if_pos hr,if_pos hr]
 rw[if_neg hr,if_neg hr];have hr:zF L V=true:=by cases q:zF L V<;>simp_all
 obtain⟨r1,r2,r3⟩:=jp.1 hr;obtain⟨s1,s2,s3,s4⟩:=xi.1 r3;by_cases hc:ja L b=false
 ·rw[if_pos hc,if_pos];unfold ja at hc;cases ef:zP L b with
  | false=>exact .inl rfl
  | true=>
   rw[ef,Ry]at hc;cases eb:b.2.2 with
   | true=>rw[eb,if_pos rfl,decide_eq_false_iff_not]at hc;exact .inr (.inl ⟨rfl,by omega⟩)
   | false=>rw[eb,if_neg (by decide),decide_eq_false_iff_not]at hc;exact .inr (.inr ⟨rfl,by omega⟩)
 have hc':zP L b=true/\(if b.2.2=true then decide (L.length<16) else decide (1<L.length))=true:=by
  unfold ja at hc
  rwa [Bool.not_eq_false,Qm]at hc
 obtain⟨hf,hl⟩:=hc';obtain⟨f1,f2,f3⟩:=qv.1 hf;have hno: ¬(zP L b=false\/(b.2.2=true/\16<=L.length)\/(b.2.2=false/\L.length=1)):=fun h=>by
  rcases h with h|⟨h,h9⟩|⟨h,h9⟩
  ·rw[hf]at h;cases h
  ·rw[h,if_pos rfl,decide_eq_true_iff]at hl;omega
  ·rw[h,if_neg (by decide),decide_eq_true_iff]at hl;omega
 rw[if_neg hc,if_neg hno];have hput:zo (fun x=>aheadB x b) b V=zC b V:=zdE b r2 fun x hx hn=>by
  have hn: ¬nsB b x=true:=by rw[hn];exact QS
  have hq:x.2.1=b.2.1/\x.1=b.1:=by
   by_cases q:x.2.1=b.2.1/\x.1=b.1
   ·exact q
   ·exact absurd (qn.2 q) hn
  obtain⟨g1,g2,g3⟩:=qv.1 (r1 x hx).1;rw[hq.1,f3]at g3;exact UA hq.2 (UA hq.1 (by cases e1:x.2.2<;>cases e2:b.2.2<;>simp_all))
 rw[hput];by_cases h2:2*zv b (zC b V)<=L.length
 ·rw[if_neg (by omega),if_pos h2]
 rw[if_pos (by omega),if_neg h2];have hall: ∀x∈zC b V,zP L x=true:=fun x hx=>by
  rcases vy.1 hx with rfl|⟨hx,_⟩
  ·exact hf
  ·exact(r1 x hx).1
 have hgo:((zC b V).filter fun x=> !goB b x)=(zC b V).filter (yt b):=List.filter_congr fun x hx=>by
  unfold goB yt;have hx1:=(qv.1 (hall x hx)).1;by_cases e1:x.2.1=b.2.1
  ·simp[e1]
  cases eb:b.2.2 with
  | false=>by_cases e2:x.1=b.2.1<;>simp[e1,e2]
  | true=>
   rw[eb]at f3;have:x.1≠b.2.1:=fun q=>xk f3 (q▸hx1);simp[e1,this]
 unfold yC;rw[hgo];cases eb:b.2.2 with
 | true=>
  rw[eb]at f3;rw[if_pos rfl,zdF b.2.1 s2 (xk f3)];refine UA rfl (UA ?_ rfl);show (zC b V).filter (yt b)=((zC b V).filter (yt b)).filter _;exact(Rf.2 fun x _=>rfl).symm
 | false=>
  rw[if_neg (by decide)];have hcut:L.filter (fun x=> !decide (x=b.2.1))=ym b.2.1 false L:=by rw[kg];rfl
  rw[hcut];refine UA rfl (UA ?_ rfl);refine List.filter_congr fun x hx=>?_;have hx1:=Rh.1 hx;have hw:=vB (L:=L) (V:=(zC b V).filter (yt b)) (hall x hx1.1) (fun y hy=>hall y (Rh.1 hy).1);unfold yH;rw[<-hw,Ub];by_cases q:2*zv x ((zC b V).filter (yt b))<=(ym b.2.1 false L).length
  ·rw[decide_eq_true q,decide_eq_false (by omega)];rfl
  ·rw[decide_eq_false q,decide_eq_true (by omega)];rfl
end Go.Proofs.Ytdaeahhkiilbaaa
