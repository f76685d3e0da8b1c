/-
  Texts of the proof,part 2.
-/
import Derived.Laws.CopyRow
import Derived.Laws.Concat
import Derived.Lib.BufferWrite
import Derived.Laws.IdiomStrings
import Derived.Lib.UnsafeStr
import Derived.Lib.AppendZeros
import Derived.Lib.Overlaps
import Derived.Scope
import Derived.Deep.Upon
import Derived.Test.YtcjejfklpegobaaGreatDoorRows
import Derived.ChangeArms
import Derived.ChangeSlices
import Derived.OpenShut
import Derived.Deep.Strs
import Derived.DataReads
import Derived.ProofKit
import Derived.WalkKit
import Derived.Below
import Derived.KernelRfl
import Derived.Test.YtcjejfklpegobaaGreatDoorProg
import Derived.Handy
import Derived.WalkLawsBesides
import Derived.Shelf.Spec.BitsCarry
import Derived.Shelf.Bits.Mul64
import Derived.Laws.Bits64b
import Derived.Lib.BitFns
import Derived.Shelf.Strconv.Itoa0
import Derived.Lib.Hide
import Derived.Test.YtcjejfklpegobaaGreatDoorBZ1
set_option maxRecDepth 100000
set_option maxHeartbeats 4000000
open Go Go.RowKit
open BitVec renaming toNat->Qj
open Bool renaming eq_iff_iff->RM,false_eq_true->Uk
open Builtin renaming append_->V8
open Instr renaming sureAddr->RK,loadAt->Ue,sliceBounds->Uu,sliceBound->UK,sliceAt->UT,storeAt->U2,slice->U9,index->VN
open Int renaming eq_ofNat_of_zero_le->RO,tmod->UA,natCast_mul->UG,mul_add->Vw,natCast_pow->VL,mul_assoc->V0
open IntKind renaming i64->Qz,u64->QA,wrap_u64->Wr
open Lib renaming hid->U3
open List renaming getD->Qm,length->Qo,getElem?_eq_getElem->Qr,sublist_cons_self->Qt,length_append->Qx,take_of_length_le->Qy,append_assoc->QD,append_nil->QI,mem_cons_of_mem->QR,getElem?_eq_some_iff->QT,range->QW,mem_cons_self->QX,getElem?_eq_none->Q6,map_cons->Q8,length_take->Rb,take->Re,length_cons->Rh,mem_map->Rk,cons_append->Rm,replicate->RB,map_toArray->RI,mem_singleton->RY,map_nil->Ug,getElem?_append_right->Uo,getElem?_take->Ut,length_drop->Uv,size_toArray->Ux,drop->UB,getElem?_append_left->UD,drop_of_length_le->UE,mem_append->UI,ext_getElem?->UU,length_take_le->Vp,take_append->VK,take_append_drop->VV,take_left->VZ,set_eq_take_append_cons_drop->V4,toList_toArray->V5,length_set->Wh
open List.Sublist renaming cons_cons->Qq,cons->Qs,slnil->QS
open Nat renaming le_of_ble_eq_true->Qp,le_refl->QH,zero_le->QU,zero_add->Q9,mod_eq_of_lt->Rj,div_div_eq_div_mul->Rz,add_zero->RL,mod_lt->RT,pow_succ->RW,le_trans->RZ,pow_le_pow_right->Uh,mul_assoc->Um,lt_or_ge->Un,succ_mul->Ur,mul_add->Uw,mul_one->UV,lt_trichotomy->UW,pow_add->UZ,mul_zero->U7,zero_mul->Vf,mul_le_mul_right->Vi,mul_le_mul_left->Vm,add_mod_right->Vx,pow_pos->VF,add_mul->VS,mul_comm->VW,min_eq_left->VX,one_mul->Ws,div_one->Wx,mul_le_mul->Wy
open Obj renaming cells->Qk
open Oper renaming upon_value->Rx
open Region renaming wanted->QP
open Result renaming andThen_ok->QJ
open Sem renaming run_bind->Q7,run_pure->Up
open Value renaming cells->Qn,int->Q0,bool->RV,slice->U5,ownBlock->Vs
open World renaming cell?->RH
open _root_.Array renaming getElem?_eq_some_iff->Q1,length_toList->Rv,getElem?_toList->RN,getElem?_extract->Va
namespace Go.Proofs.YtcjejfklpegobaaGreatDoor
def qd (n:Nat)(f:Nat->Value):List Value:=(QW n).map f
theorem ur (n:Nat)(f:Nat->Value):(qd n f).length=n:=by unfold qd;simp
theorem zdc {n:Nat}{f:Nat->Value}{k:Nat}(h:k<n):(qd n f)[k]? =some (f k):=by unfold qd;simp[h]
theorem zkn {n:Nat}{f g:Nat->Value}{k:Nat}{v:Value}(h:k<n)(hg: ∀j,j<n->g j=if j=k then v else f j):(qd n f).set k v=qd n g:=by
 apply UU;intro j;rw[List.getElem?_set];by_cases hj:j<n
 ·rw[zdc hj,zdc hj,hg j hj];by_cases hkj:k=j
  ·subst hkj;rw[if_pos rfl,if_pos (by rw[ur];exact hj),if_pos rfl]
  ·rw[if_neg hkj,if_neg (fun e=>hkj e.symm)]
 ·have e1:(qd n f)[j]? =none:=Q6 (by rw[ur];omega);have e2:(qd n g)[j]? =none:=Q6 (by rw[ur];omega);rw[e1,e2,if_neg (by omega)]
theorem zko {C:Qd}{pre post:List Value}{n:Nat}{f:Nat->Value}(hC:C.toList=pre++qd n f++post){off k:Nat}(ho:off=pre.length+k*1)(hk:k<n):C[off]? =some (f k):=by
 subst ho
 rw[<-RN,hC,QD,Uo (by omega),show pre.length+k*1-pre.length=k by omega,
  UD (by rw[ur];exact hk),zdc hk]
theorem zfL {C:Qd}{pre post:List Value}{n:Nat}{f g:Nat->Value}(hC:C.toList=pre++qd n f++post){off k:Nat}{v:Value}(hv:v.cells=#[v])(ho:off=pre.length+k*1)(hk:k<n)
 (hg: ∀j,j<n->g j=if j=k then v else f j):(C.toList.take off++v.cells.toList++C.toList.drop (off+v.cells.size)).toArray=(pre++qd n g++post).toArray:=by
 subst ho;congr 1;have hlt:pre.length+k*1<C.toList.length:=by rw[hC];simp[ur];omega
 rw[hv];show Re _ _++ [v]++UB (_+1) _=_;have e:Re (pre.length+k*1) C.toList++ [v]++UB (pre.length+k*1+1) C.toList=C.toList.set (pre.length+k*1) v:=by
  rw[V4,if_pos hlt,QD];rfl
 rw[e,hC,QD,List.set_append_right _ _ (by omega),show pre.length+k*1-pre.length=k by omega,List.set_append_left _ _ (by rw[ur];exact hk),zkn hk hg,QD]
theorem zkp {P:Program}{ρ:Env}{t e:TypeId}{n:Nat}(ht:P.underlying t=some (.array n e))(he:P.plainKey e=true)(hz:(P.info? e).map (·.size)=some 1){x y:Operand}{o:Oper}{kd:IntKind}(C:Qd)(k:Nat)(v:Value)
 (ho:o.op=.index t x y) (hx:ev ρ x=.agg C) (hy:ev ρ y=.int kd (k:Int)) (hk:k<n) (hv:C[0+k*1]? =some v): ∀w,(execOp (ev ρ) o).run P w=.ok (.value v) w:=fun w=>by
 obtain⟨it,hi,hsz⟩:=Option.map_eq_some_iff.1 hz;have hS:(sizeOf e).run P w=.ok 1 w:=by simp[sizeOf,typeInfo,hi,hsz]
 have hp:(part e C (k*1)).run P w=.ok v w:=run_part_plain w he (by rw[Q9]at hv;exact hv);have h1:(0:Int)<=(k:Int)/\(k:Int)<(n:Int):=by omega
 unfold execOp;simp only[UV]at hp;simp[ho,hx,hy,VN,asIntOf,run_underlying ht,hS,hp,hk]
theorem jS {P:Program}{ρ:Env}{t t':TypeId}{x y:Operand}{o:Oper}(a b:Qa)(w:World)(ho:o.op=.binOp .add t x y t')(hx:ev ρ x=.string a)(hy:ev ρ y=.string b)(h:a.size+b.size<=0x7fffffffffffffff):
 (execOp (ev ρ) o).run P w=.ok (.value (.string (a++b))) w:=by
 unfold execOp;simp[ho,hx,hy,eqGuard,binOp,run_string_add_sum w a b h]
theorem xr (a b:Qa):tl (a++b)=tl a++tl b:=by unfold tl;simp
def zdd (dT sT:TypeId)(x y:Operand):Op:=.call { callee:=.builtin .copy,args:=#[x,y],argTypes:=#[dT,sT] }
def cellsB (l:List UInt8):List Value:=l.map fun b=>Q0 .u8 (b.toNat:Int)
theorem qK (l:List UInt8):(cellsB l).length=l.length:=by unfold cellsB;simp
theorem zan (a b:List UInt8):cellsB (a++b)=cellsB a++cellsB b:=by unfold cellsB;simp
theorem zfM (l:List UInt8)(i:Nat)(hi:i<l.length):(cellsB l)[i]? =some (.int .u8 (((l.getD i 0).toNat:Nat):Int)):=by
 unfold cellsB;simp[hi]
theorem zkq {P:Program}{ρ:Env}{w:World}{dT sT e:TypeId}{bytes:Nat}{x y:Operand}{bd dLen dCap:Nat}{C C':Qd}{T:TypeId}{s:Qa}
 (ht:yp P dT=some (e,1,bytes)) (hx:ev ρ x=Qf bd dLen dCap) (hy:ev ρ y=.string s)
 (hD:w.heap[bd]? =some (.cells C T)) (hle:s.size<=dLen) (hfit:s.size<=C.size)
 (hC:(cellsB (tl s)++C.toList.drop s.size).toArray=C') (o:Oper) (ho:o.op=zdd dT sT x y):(execOp (ev ρ) o).run P w=.ok (.value (.int .i64 (s.size:Int))) (w.setRow bd C'):=by
 obtain⟨it,z,hu,hi,hz,hsz,hby,hzs,h0⟩:=qi ht;have hs1:(P.info? e).map (·.size)=some 1:=by rw[hi];simp[hsz]
 have hr:=Go.Lib.run_copy_row_string (P:=P) w dT sT o.type e bd 0 dLen dCap s C T hu hs1 hD hle (by omega);rw[show C.toList.take 0++Go.Lib.byteCells s.data.toList++C.toList.drop (0+s.size)=cellsB (tl s)++C.toList.drop s.size by unfold tl cellsB Go.Lib.byteCells;simp,hC]at hr;unfold execOp;simp only[ho,zdd,resolve,invoke,builtin,Q7,Up,QJ,RI,Q8,Ug,hx,hy,hr];rfl
def zg (l:List UInt8):Qa:=⟨l.toArray⟩
theorem qq (l:List UInt8):tl (zg l)=l:=rfl
theorem vO (s:Qa):zg (tl s)=s:=rfl
theorem yU (l:List UInt8):(zg l).size=l.length:=rfl
theorem zfN {P:Program}{ρ:Env}{t e:TypeId}{n z:Nat}(ht:P.underlying t=some (.array n e))(hz:(P.info? e).map (·.size)=some z){x:Operand}{o:Oper}(b:Nat)(ho:o.op=.slice t x none none none)(hx:ev ρ x=Qe b):
 ∀w,(execOp (ev ρ) o).run P w=.ok (.value (Qf b n n)) w:=fun w=>by
 obtain⟨it,hi,hsz⟩:=Option.map_eq_some_iff.1 hz;have hS:(sizeOf e).run P w=.ok z w:=by simp[sizeOf,typeInfo,hi,hsz]
 unfold execOp;simp[ho,hx,UT,U9,Uu,RK,run_underlying ht,hS,qh]
theorem zfO (l:List UInt8):strOfNums (l.map fun b=>(b.toNat:Int))=zg l:=by
 unfold strOfNums zg;refine congrArg (fun l:List UInt8=>ByteArray.mk l.toArray) ?_;rw[List.map_map]
 conv=>rhs;rw[<-List.map_id l]
 refine List.map_congr_left fun b _=>?_;apply UInt8.toNat_inj.1;simp
theorem Rw.atB {cur:Qd}{cap n:Nat}{l:List UInt8}(h:Rw 1 cur cap n (cellsB l)){i:Nat}(hi:i<n)(hn:n=l.length):cur[0+i*1]? =some (.int .u8 (((l.getD i 0).toNat:Nat):Int)):=
 h.at1 hi (zfM l i (by omega))
theorem zkr (z:Nat):cellsB (RB z 0)=RB z (.int .u8 0):=by unfold cellsB;rw[List.map_replicate];rfl
theorem Rw.putB {cur:Qd}{cap n:Nat}{l:List UInt8}(h:Rw 1 cur cap n (cellsB l))(i:Nat)(v:UInt8)(hi:i<n):
 ∃cur',(cur.toList.take (0+i*1)++(Q0 .u8 (v.toNat:Int)).cells.toList++cur.toList.drop (0+i*1+(Q0 .u8 (v.toNat:Int)).cells.size)).toArray=cur'/\(0+i*1+(Q0 .u8 (v.toNat:Int)).cells.size<=cur.size)/\Rw 1 cur' cap n (cellsB (l.set i v)):=by
 have h1:(Q0 .u8 (v.toNat:Int)).cells=#[.int .u8 (v.toNat:Int)]:=rfl;have hsz:=h.sz;have hle:=h.le;have hlt:i<cur.toList.length:=by simp;omega
 have e:cur.toList.take (0+i*1)++(Q0 .u8 (v.toNat:Int)).cells.toList++cur.toList.drop (0+i*1+(Q0 .u8 (v.toNat:Int)).cells.size)=cur.toList.set i (.int .u8 (v.toNat:Int)):=by
  rw[h1,Q9,UV,V4,if_pos hlt];simp
 refine⟨_,rfl,by rw[h1];simp;omega,?_⟩;rw[e];refine⟨?_,h.le,h.max,?_,by simpa using hsz⟩
 ·have:=h.len;unfold cellsB at this⊢;simpa using this
 ·have:=h.take;simp only[List.take_set,UV]at this⊢;rw[this];unfold cellsB;simp[List.map_set]
theorem Rw.ints {cur:Qd}{cap n:Nat}{l:List UInt8}(h:Rw 1 cur cap n (cellsB l)):Rw 1 cur cap n ((l.map fun b=>(b.toNat:Int)).map (Q0 .u8)):=by
 rw[List.map_map];exact h
def zks (k:IntKind)(n:Nat):Value:=.agg (Array.replicate n (.int k 0))
def xt (n:Nat)(f:Nat->BitVec 8):Value:=.agg (qd n fun j=>.int .u8 (Qj (f j):Int)).toArray
theorem zkt {n:Nat}{f g:Nat->BitVec 8}{k off:Nat}{x:BitVec 8}(ho:off=0+k*1)(hk:k<n)(hg: ∀j,j<n->g j=if j=k then x else f j):
 ((Qn (xt n f)).toList.take off++(Q0 .u8 (Qj x:Int)).cells.toList++(Qn (xt n f)).toList.drop (off+(Q0 .u8 (Qj x:Int)).cells.size)).toArray=Qn (xt n g):=by
 rw[zfL (pre:=[]) (post:=[]) (n:=n) (f:=fun j=>.int .u8 (Qj (f j):Int)) (g:=fun j=>.int .u8 (Qj (g j):Int)) (by show qd n _=[]++qd n _++ [];simp) rfl (by simpa using ho) hk (fun j hj=>by rw[hg j hj];split<;>rfl)];simp;rfl
theorem zku (n:Nat)(f:Nat->BitVec 8)(hn:n<=maxLen):Rw 1 (Qn (xt n f)) n n (cellsB ((QW n).map fun i=>UInt8.ofBitVec (f i))):=by
 have e:(Qn (xt n f)).toList=cellsB ((QW n).map fun i=>UInt8.ofBitVec (f i)):=by
  show qd n _=_;unfold qd cellsB;rw[List.map_map];rfl
 rw[<-e];have h2:(Qn (xt n f)).size=n*1:=by
  rw[<-Rv,e,qK];simp
 exact Rw.lit _ n h2 hn
section
variable {P:Program}{N:Nat}{ops:Array Oper}{i:Nat}{r:List Nat}{K:Env->World->Prop}{ρ:Env}{w:World}{B:Nat}{w0:World}{l:Qb}
theorem zkv (HS:St B w0 w l)(d:Option Nat)(dT sT e bytes:Nat)(x y:Operand)(jd bd dLen dCap:Nat)(s:Qa)(C C':Qd)(T:TypeId)(l':Qb)
 (h:opk ops i ρ=some (d,true,zdd dT sT x y)) (hd:dOK d N=true) (ht:yp P dT=some (e,1,bytes)) (hx:ev ρ x=Qf bd dLen dCap) (hy:ev ρ y=.string s)
 (hj:l[jd]? =some (bd,.cells C T)) (hle:s.size<=dLen) (hfit:s.size<=C.size)
 (hC:(cellsB (tl s)++C.toList.drop s.size).toArray=C') (hl':l.set jd (bd,.cells C' T)=l') (kk: ∀w',St B w0 w' l'->WPs P N ops K r (zr ρ d (.int .i64 (s.size:Int))) w'):WPs P N ops K (i::r) ρ w:=by
 subst hl';exact zab d _ _ _ h hd (zkq ht hx hy (HS.get jd hj) hle hfit hC) (kk _ (HS.store jd hj))
theorem zfP (HS:St B w0 w l)(d:Option Nat)(t t' e:TypeId)(x:Operand)(j b n cap:Nat)(cur:Qd)(T:TypeId)(fz:Nat×Nat)(xs:List UInt8)(h:opk ops i ρ=some (d,true,.convert t t' x))(hd:dOK d N=true)
 (ht:P.underlying t=some (.slice e)) (he:P.underlying e=some (.int .u8)) (ht':P.underlying t'=some .string)
 (hx:ev ρ x=Qf b n cap) (hj:l[j]? =some (b,.cells cur T fz)) (hr:Rw 1 cur cap n (cellsB xs))
 (kk:WPs P N ops K r (zr ρ d (.string (zg xs))) w):WPs P N ops K (i::r) ρ w:=
 zfK HS d t t' e x j b n cap cur T fz _ h hd ht he ht' hx hj hr.ints (by rw[zfO];exact kk)
end
namespace D2
section
variable {P:Program}{ops:Array Oper}{R:(Nat->Gh)->Env}{i:Nat}{d:Option Nat}
variable {E:(Nat->Bool)->(Nat->Gh)->List Ent}{F:(Nat->Bool)->(Nat->Gh)->Prop}{B:Nat}{w0:World}
end
end D2
def Clr (fz:Nat×Nat)(cur:Qd):Prop:=fz.2=0\/cur.size<=fz.1
theorem Clr.zero (cur:Qd):Clr (0,0) cur:=.inl rfl
theorem Clr.no {fz:Nat×Nat}{cur:Qd}(h:Clr fz cur){w:World}{g k:Nat}{t:TypeId}(hg:w.heap[g]? =some (.cells cur t fz))(hk:k<cur.size):w.frozen? ⟨g,k,none⟩=false:=by
 obtain⟨lo,hi⟩:=fz;simp only[World.frozen?,hg,Bool.and_eq_false_iff,decide_eq_false_iff_not];rcases h with h|h
 ·right;simp only at h;omega
 ·left;simp only at h;omega
theorem zde (P:Program)(g o:Nat)(t:TypeId)(fz:Nat×Nat): ∀(vs:List Value) (i:Nat) (cur:Qd) (w:World),w.heap[g]? =some (.cells cur t fz)->o+i+vs.length<=cur.size->Clr fz cur->(∀v∈vs,v.oneCell'=true)->
 (storeCells ⟨g,o,none⟩ vs i).run P w=.ok () (w.setRow g (cur.toList.take (o+i)++vs++cur.toList.drop (o+i+vs.length)).toArray)
 | [],i,cur,w,hg,_,_,_=>by
  simp only[storeCells,QI,List.length_nil,RL,VV,Array.toArray_toList];rw[setRow_self w g cur t fz hg];rfl
 | v::rest,i,cur,w,hg,hl,hfz,h1=>by
  have hi:o+i<cur.size:=by simp at hl;omega
  have hadd:(⟨g,o,none⟩:Addr).add i=⟨g,o+i,none⟩:=by unfold Addr.add;split<;>simp_all
  have hcell:w.cell? ⟨g,o+i,none⟩=some cur[o+i]:=by simp[RH,hg,hi]
  have hfro:w.frozen? ⟨g,o+i,none⟩=false:=hfz.no hg hi;have hst:(store ((⟨g,o,none⟩:Addr).add i) v).run P w=.ok () (w.setRow g (cur.setIfInBounds (o+i) v)):=by
   rw[hadd,run_store P w _ v _ (h1 v (by simp)),hcell];simp[hfro,setCell_eq_setRow w g (o+i) cur t fz v hg]
  have ih:=zde P g o t fz rest (i+1) (cur.setIfInBounds (o+i) v) (w.setRow g (cur.setIfInBounds (o+i) v)) (setRow_heap w g cur _ t _ hg) (by simp at hl⊢;omega) (by unfold Clr at hfz⊢;simpa using hfz) (fun x hx=>h1 x (by simp[hx]));simp only[storeCells,Q7,hst,QJ,ih,setRow_setRow];congr 3;have e:=list_seg_step cur.toList (o+i) v rest (by simp at hl⊢;omega)
  simpa [Array.toList_setIfInBounds,Nat.add_assoc] using e
theorem zkw {P:Program}(w:World)(t ty e:TypeId)(i:TypeInfo)(z:Value)(size bytes:Nat)(ht:P.underlying t=some (.slice e))(hi:P.info? e=some i)(hz:i.zero=some z)
 (hsize:i.size=size) (hby:i.bytes=bytes) (hzs:z.cells.size=size) (hsz:0<size)
 (g cap n:Nat) (cur:Qd) (fz:Nat×Nat) (xs:List Value) (hg:w.heap[g]? =some (.cells cur e fz)) (hfz:Clr fz cur) (hr:Rw size cur cap n xs)
 (a:Addr) (m c:Nat) (news:List Value) (hl:news.length=m*size) (hnews: ∀j u,news[j]? =some u->w.cell? (a.add j)=some u) (h1: ∀u∈news,u.oneCell'=true)
 (h63:n+m<=maxLen) (hbytes:(n+m)*bytes<=0x800000000000):
 ∃g' cap' cur' fz' w',(V8 #[t,t] ty #[Qf g n cap,.slice (some a) m c]).run P w=.ok (Qf g' (n+m) cap') w'/\(g'=g\/g'=w.heap.size)/\
  w'.heap[g']? =some (.cells cur' e fz')/\Clr fz' cur'/\Rw size cur' cap' (n+m) (xs++news)/\w.grownBy w' (some g):=by
 subst hsize;subst hby;have hlen:(xs++news).length=(n+m)*i.size:=by rw[Qx,hr.len,hl,VS]
 have hnc:=hr.le;have hcm:=hr.max;have hcs:=hr.sz;have htake:=hr.take;have hsmall:n+m<=0x7fffffffffffffff:=by simp only[maxLen]at h63;omega
 by_cases hroom:n+m<=cap
 ·have hfit:n*i.size+news.length<=cur.size:=by rw[hl,hcs,<-VS];exact Vi _ hroom
  have hf:=run_firstCells_some (P:=P) w i.size m a m c news hl hnews;have hst:=zde P g (n*i.size) e fz news 0 cur w hg (by simpa using hfit) hfz h1;simp only[RL]at hst;have hrr:(V8 #[t,t] ty #[Qf g n cap,.slice (some a) m c]).run P w=
   .ok (Qf g (n+m) cap) (w.setRow g (cur.toList.take (n*i.size)++news++cur.toList.drop (n*i.size+news.length)).toArray):=by
   simp[V8,run_underlying ht,sizeOf,typeInfo,hi,Builtin.lenOf,hroom,hf,Addr.add_lit,hst]
  refine⟨g,cap,_,fz,_,hrr,.inl rfl,setRow_heap w g cur _ e fz hg,?_,⟨hlen,hroom,hcm,?_,?_⟩,⟨rfl,rfl,rfl,by simp,fun k _ hk=>setRow_other w g k _ (fun e=>hk (by simp[e]))⟩⟩
  ·rcases hfz with h|h
   ·exact .inl h
   ·right;simp only[Ux,Qx,Rb,Uv,Rv];omega
  ·rw[htake,<-hlen];exact VZ
  ·simp only[Ux,Qx,Rb,Uv,Rv];omega
 ·have holds: ∀j u,xs[j]? =some u->w.cell? ((⟨g,0,none⟩:Addr).add j)=some u:=fun j u hj=>by
   have hjl:j<n*i.size:=by rw[<-hr.len];exact(QT.1 hj).1
   rw[qh,Q9];simp[RH,hg,hr.get j hjl,hj]
  have hr2:=run_append_grow (P:=P) w t ty e i z ht hi hz ⟨g,0,none⟩ n cap xs hr.len holds a m c news hl hnews (by omega) (by omega) (growslice_fits (by omega) hbytes);have hge:=grownCap_ge w (n+m) cap e;have hcm2:grownCap w (n+m) cap e<=maxLen:=grownCap_le_maxLen w (n+m) cap e h63;refine⟨w.heap.size,_,_,(0,0),_,hr2,.inr rfl,heap_alloc_new w.drew _,Clr.zero _,⟨hlen,hge,hcm2,?_,?_⟩,⟨rfl,rfl,rfl,by simp,fun k hk _=>Go.heap_alloc_old w.drew _ hk⟩⟩
  ·simp only[Array.toList_append,QD];rw[<-QD,<-hlen];exact VZ
  ·simp only[Array.size_append,Ux,size_zeroCells,hzs,hr.len,hl,<-VS];congr 1;omega
theorem zkx {P:Program}{ρ:Env}{t e:TypeId}{size bytes:Nat}(ht:yp P t=some (e,size,bytes)){x y z:Operand}{o:Oper}{kd kz:IntKind}(b n c j k:Nat)(ho:o.op=.slice t x (some z) (some y) none)(hx:ev ρ x=Qf b n c)
 (hy:ev ρ y=.int kd (k:Int)) (hz:ev ρ z=.int kz (j:Int)) (hk:k<=c) (hj:j<=k) (hjc:j<c) (off m:Nat) (ho':j*size=off) (hm:k-j=m):
 ∀w,(execOp (ev ρ) o).run P w=.ok (.value (.slice (some ⟨b,off,none⟩) m (c-j))) w:=fun w=>by
 subst ho' hm;obtain⟨it,z',hu,hi,hz',hsz,hby,hzs,h0⟩:=qi ht;have hS:(sizeOf e).run P w=.ok size w:=by simp[sizeOf,typeInfo,hi,hsz]
 unfold execOp;simp[ho,hx,hy,hz,UT,U9,Uu,UK,asIntOf,run_underlying hu,hS,hk,hj,qh,show ¬c=j by omega]
theorem zky {P:Program}{w:World}{t t' e:TypeId}(ht:P.underlying t=some (.slice e))(he:P.underlying e=some (.int .u8))(ht':P.underlying t'=some .string){ρ:Env}{x:Operand}{b off n cap c0 n0:Nat}{cur:Qd}{T:TypeId}{fz:Nat×Nat}{xs:List UInt8}
 (hx:ev ρ x=.slice (some ⟨b,off,none⟩) n cap) (hb:w.heap[b]? =some (.cells cur T fz)) (hr:Rw 1 cur c0 n0 (cellsB xs)) (hfit:off+n<=n0) (o:Oper) (ho:o.op=.convert t t' x):
 (execOp (ev ρ) o).run P w=.ok (.value (.string (zg ((xs.drop off).take n)))) w:=by
 have hlen:xs.length=n0:=by have:=hr.len;rw[qK]at this;omega
 have hc:=run_convert_bytes_arg (P:=P) w t e ht he b off n cap (((xs.drop off).take n).map fun b=>(b.toNat:Int)) (by rw[List.length_map,Rb,Uv];omega) (fun q hq=>by
  have h2:=hr.get (off+q) (by omega);have h3:=zfM xs (off+q) (by omega);have e1:w.cell? ⟨b,off+q,none⟩=cur[off+q]? :=by simp[RH,hb]
  rw[e1,h2,h3];have h4:off+q<xs.length:=by omega
  simp[Qm,hq,h4]) t' ht'
 unfold execOp;simp only[ho,hx,hc,Q7,QJ];rw[zfO];rfl
section
variable {P:Program}{N:Nat}{ops:Array Oper}{i:Nat}{r:List Nat}{K:Env->World->Prop}{ρ:Env}{w:World}{B:Nat}{w0:World}{l:Qb}
theorem zkz (HS:St B w0 w l)(d:Option Nat)(t t' e:TypeId)(x:Operand)(s:Qa)(h:opk ops i ρ=some (d,true,.convert t t' x))(hd:dOK d N=true)
 (ht:P.underlying t=some .string) (ht':P.underlying t'=some (.slice e)) (he:P.underlying e=some (.int .u8)) (hx:ev ρ x=.string s) (hm:s.size<=maxLen)
 (kk: ∀b cap cur fz w',St B w0 w' ((b,.cells cur e fz)::l)->Clr fz cur->Rw 1 cur cap s.size (cellsB (tl s))->WPs P N ops K r (zr ρ d (Qf b s.size cap)) w'):WPs P N ops K (i::r) ρ w:=by
 refine zab d _ (Qf w.drew.heap.size s.size (grownCap w s.size 0 e)) _ h hd (fun o ho=>?_) (kk w.drew.heap.size (grownCap w s.size 0 e) _ _ _ (HS.drew.alloc (.cells (bytesRow s (grownCap w s.size 0 e)) e ((bytesRow s (grownCap w s.size 0 e)).size,(bytesRow s (grownCap w s.size 0 e)).size+1))) (.inr (QH _)) ?_)
 ·have hc:=run_bytes_of_string (P:=P) w t t' e s ht ht' he;unfold execOp;simp only[ho,hx,hc,Q7,QJ];rfl
 ·have hge:=grownCap_ge w s.size 0 e;have hcm:=grownCap_le_maxLen w s.size 0 e hm;have hsz:s.data.size=s.size:=rfl;refine⟨by rw[qK,zu];omega,hge,hcm,?_,?_⟩
  ·have e1:(bytesRow s (grownCap w s.size 0 e)).toList=cellsB (tl s)++RB (grownCap w s.size 0 e-s.size) (.int .u8 0):=by
    unfold bytesRow cellsB tl;simp
   rw[e1,List.take_append_of_le_length (by rw[qK,zu];omega),Qy (by rw[qK,zu];omega)]
  ·unfold bytesRow;simp;omega
theorem zfQ (HS:St B w0 w l)(d:Option Nat)(t e:TypeId)(size bytes:Nat)(s x:Operand)(j k b bx n m cap c:Nat)(cur CX:Qd)(fzs:Nat×Nat)(TX:TypeId)(fz:Nat×Nat)(xs news:List Value)(l':Nat->Qd->Nat×Nat->Qb)
 (h:opk ops i ρ=some (d,true,ym t s x)) (hd:dOK d N=true) (ht:yp P t=some (e,size,bytes))
 (hs:ev ρ s=Qf b n cap) (hj:l[j]? =some (b,.cells cur e fzs)) (hfz:Clr fzs cur) (hr:Rw size cur cap n xs)
 (hx:ev ρ x=Qf bx m c) (hk:l[k]? =some (bx,.cells CX TX fz)) (hn:CX.toList.take (m*size)=news) (hl:news.length=m*size) (h1: ∀u∈news,u.oneCell'=true)
 (hb:(n+m)*bytes<=0x800000000000) (hm:n+m<=maxLen)
 (hl': ∀b' cur' fz',l.set j (b',.cells cur' e fz')=l' b' cur' fz')
 (kk: ∀b' cap' cur' fz' w',St B w0 w' (l' b' cur' fz')->Clr fz' cur'->Rw size cur' cap' (n+m) (xs++news)->WPs P N ops K r (zr ρ d (Qf b' (n+m) cap')) w'):WPs P N ops K (i::r) ρ w:=by
 obtain⟨o,ho,rfl,hw,hop⟩:=zM h;obtain⟨it,z,hu,hi,hz,hsz,hby,hzs,h0⟩:=qi ht;have hnews: ∀q u,news[q]? =some u->w.cell? ((⟨bx,0,none⟩:Addr).add q)=some u:=fun q u hq=>by
  have hql:q<m*size:=by rw[<-hl];exact(QT.1 hq).1
  rw[<-hn,Ut,if_pos hql,RN]at hq;rw[qh,Q9];simp[RH,HS.get k hk,hq]
 obtain⟨g',cap',cur',fz',w',hrun,hgb,hg,hclr,hrw,hgr⟩:=zkw (P:=P) w t o.type e it z size bytes hu hi hz hsz hby hzs h0 b cap n cur fzs xs (HS.get j hj) hfz hr ⟨bx,0,none⟩ m c news hl hnews h1 hm hb;refine WPo.run ho hw fun a ha=>?_;have hex:(execOp (ev ρ) o).run P w=.ok (.value (Qf g' (n+m) cap')) w':=by
  unfold execOp;simp only[hop,ym,resolve,invoke,builtin,Q7,Up,QJ,RI,Q8,Ug,hs,hx,hrun]
 rw[hex,Rx];have HS':=HS.grown j hj hgr hgb hg;rw[hl']at HS';exact⟨_,ha.put _ (zZ hd) _,kk g' cap' cur' fz' w' HS' hclr hrw⟩
theorem zkA (HS:St B w0 w l)(j:Nat)(l':Qb)(t:TypeId)(x y:Operand)(b off:Nat)(C C':Qd)(T:TypeId)(fz:Nat×Nat)(v:Value)
 (h:opk ops i ρ=some (none,true,.store t x y)) (hx:ev ρ x=.pointer (some ⟨b,off,none⟩)) (hy:ev ρ y=v) (hk:l[j]? =some (b,.cells C T fz)) (hfz:Clr fz C) (hi:(P.info? t).map (·.size)=some v.cells.size) (h1:v.cells.all (·.oneCell')=true)
 (hs:off+v.cells.size<=C.size) (hC:(C.toList.take off++v.cells.toList++C.toList.drop (off+v.cells.size)).toArray=C') (hl:l.set j (b,.cells C' T fz)=l')
 (kk: ∀w',St B w0 w' l'->Clr fz C'->WPs P N ops K r ρ w'):WPs P N ops K (i::r) ρ w:=by
 subst hl;have hcl:Clr fz C':=by
  rcases hfz with q|q
  ·exact .inl q
  ·right;rw[<-hC];simp only[Ux,Qx,Rb,Uv,Rv];omega
 refine ze9 none _ (w.setRow b C') h rfl (fun o ho=>?_) (kk _ (HS.store j hk) hcl);have hc:=zde P b off T fz v.cells.toList 0 C w (HS.get j hk) (by simpa using hs) hfz (fun x hx=>(Array.all_eq_true_iff_forall_mem.1 h1) x (by simpa using hx));have hst:(storeVar t ⟨b,off,none⟩ v).run P w=.ok () (w.setRow b C'):=by
  cases hq:P.info? t with
  | none=>simp[hq]at hi
  | some it=>
   have hsz:v.cells.size=it.size:=by simp[hq]at hi;omega
   rw[<-hC];simp[storeVar,sizeOf,typeInfo,hq,hsz]at hc⊢;exact hc
 simp[execOp,ho,U2,RK,hx,hy,hst]
end
namespace D2
section
variable {P:Program}{ops:Array Oper}{R:(Nat->Gh)->Env}{i:Nat}{d:Option Nat}
variable {E:(Nat->Bool)->(Nat->Gh)->List Ent}{F:(Nat->Bool)->(Nat->Gh)->Prop}{B:Nat}{w0:World}
theorem gv_bytesCut (k:Nat)(t t' e:TypeId)(x:Operand)(b:(Nat->Gh)->Nat)(off n cap c0 n0:Nat)(cur:Qd)(T:TypeId)(fz:Nat×Nat)(xs:List UInt8)(hs: ∀L g w,Pre B w0 E F L g w->Pre B w0 E F (put1 L i) g w)
 (h: ∀g,opk ops i (R g)=some (d,true,.convert t t' x)) (ht:P.underlying t=some (.slice e)) (he:P.underlying e=some (.int .u8)) (ht':P.underlying t'=some .string)
 (hx: ∀g,ev (R g) x=.slice (some ⟨b g,off,none⟩) n cap) (hj: ∀L g,Now ops i L->(E L g)[k]? =some (true,(b g,.cells cur T fz))) (hr:Rw 1 cur c0 n0 (cellsB xs)) (hfit:off+n<=n0):
 Gives P ops R (Pre B w0 E F) i d (fun _=>.string (zg ((xs.drop off).take n))):=gives_of fun L g w hp hN=>by
 obtain⟨o,ho,hd,hw,hop⟩:=zM (h g);have e2:=zky ht he ht' (hx g) (hp.1.get k (hj L g hN)) hr hfit o hop;exact⟨o,ho,hd,.inr ⟨hw,by rw[e2];exact⟨g i,rfl,by rw[setN_self];exact hs _ _ _ hp⟩⟩⟩
end
end D2
theorem toList_eq (s:Qa):s.toList=tl s:=ByteArray.toList_eq s
theorem xu (a b:Qa)(h:a=b):(a.toList==b.toList)=true:=by subst h;exact vc a
theorem jG (a b:Qa)(h: ¬a=b):(a.toList==b.toList)=false:=by
 rw[beq_eq_false_iff_ne];intro e;rw[toList_eq,toList_eq]at e;exact h (by rw[<-vO a,e,vO])
abbrev itE {P:Program}{B:Nat}{w0:World}(a b:Qa)(h:a=b):It P B w0:=.E (.bool (!(a.toList==b.toList))) (.bool false) (zc (by rw[xu _ _ h];rfl))
abbrev itO {P:Program}{B:Nat}{w0:World}(a b:Qa)(h: ¬a=b):It P B w0:=.E (.bool (!(a.toList==b.toList))) (.bool true) (zc (by rw[jG _ _ h];rfl))
theorem qj {a b:Qa}(h:tl a=tl b):a=b:=by rw[<-vO a,h,vO]
section
variable {P:Program}{N:Nat}{ops:Array Oper}{i:Nat}{r:List Nat}{K:Env->World->Prop}{ρ:Env}{w:World}{B:Nat}{w0:World}{l:Qb}
def zao (t t':TypeId)(x y:Operand):Op:=.call { callee:=.builtin .unsafeString,args:=#[x,y],argTypes:=#[t,t'] }
theorem zkB {b:Nat}{C:Qd}{T:TypeId}(HS:St B w0 w [(b,.cells C T)])(d:Option Nat)(t t' e:TypeId)(x y:Operand)(n cap:Nat)(xs:List UInt8)
 (h:opk ops i ρ=some (d,true,zao t t' x y)) (hd:dOK d N=true) (ht:P.underlying t=some (.pointer e)) (hc:P.cellsOf e=1) (hT:T=e)
 (hx:ev ρ x=Qe b) (hy:ev ρ y=.int .i64 (n:Int)) (hr:Rw 1 C cap n (cellsB xs)) (h0:0<n) (hm:n<=0x7fffffffffffffff)
 (kk: ∀w',St B w0 w' []->WPs P N ops K r (zr ρ d (.string (zg xs))) w'):WPs P N ops K (i::r) ρ w:=by
 obtain⟨o,ho,rfl,hw,hop⟩:=zM h;subst hT;have hb:=HS.get 0 rfl;have hB:=HS.ge 0 rfl;have hlen:xs.length=n:=by have:=hr.len;rw[qK]at this;omega
 have hsz:=hr.sz;have hle:=hr.le
 have hrun:=Lib.run_unsafeString_row (P:=P) w t t' o.type T ht hc b C.size (by unfold World.shape?;rw[hb]) xs (by intro e;subst e;simp at hlen;omega) (by omega) (by omega) (fun j u hj=>by
  have hjl:j<xs.length:=(QT.1 hj).1;have h2:=hr.get j (by omega);rw[qh,Q9];have h3:(cellsB xs)[j]? =some (.int .u8 (u.toNat:Int)):=by unfold cellsB;rw[List.getElem?_map,hj];rfl
  simp[RH,hb,h2,h3])
 rw[hlen]at hrun;refine WPo.run ho hw fun a ha=>?_;have hex:(execOp (ev ρ) o).run P w=.ok (.value (.string (zg xs))) (w.freeze ⟨b,0,none⟩ n):=by
  unfold execOp;simp only[hop,zao,resolve,invoke,builtin,Q7,Up,QJ,RI,Q8,Ug,hx,hy,hrun];rfl
 rw[hex,Rx];have hbel:=Lib.below_freeze HS.below (p:=⟨b,0,none⟩) hB n;refine⟨_,ha.put _ (zZ hd) _,kk _ ⟨hbel,RZ HS.le ?_,(fun e he=>nomatch he),List.nodup_nil⟩⟩;unfold World.freeze;split<;>simp
theorem zkC {t e:TypeId}{size bytes:Nat}(ht:yp P t=some (e,size,bytes)){x y:Operand}{o:Oper}{kd:IntKind}(a:Addr)(n c k:Nat)(ho:o.op=.slice t x none (some y) none)(hx:ev ρ x=.slice (some a) n c)(hy:ev ρ y=.int kd (k:Int))(hk:k<=c):
 ∀w,(execOp (ev ρ) o).run P w=.ok (.value (.slice (some a) k c)) w:=fun w=>by
 obtain⟨it,z,hu,hi,hz,hsz,hby,hzs,h0⟩:=qi ht;have hS:(sizeOf e).run P w=.ok size w:=by simp[sizeOf,typeInfo,hi,hsz]
 have ha:a.add 0=a:=rfl;unfold execOp;simp[ho,hx,hy,UT,U9,Uu,UK,asIntOf,run_underlying hu,hS,hk,ha]
end
inductive Fr (α:Type)
 | nil
 | cons (a:α) (k r:Fr α)
structure Sh (α:Type) where
 K:Nat
 hd:α->List Value
 ok:α->Prop
 mx:Nat
 len: ∀a,(hd a).length+1=K
 one: ∀a,∀u∈hd a,u.oneCell'=true
section
variable {α:Type}{S:Sh α}
def Fr.len:Fr α->Nat
 | .nil=>0
 | .cons _ _ r=>r.len+1
def Fr.at:Fr α->Nat->Option (α×Fr α)
 | .nil,_=>none
 | .cons a k _,0=>some (a,k)
 | .cons _ _ r,i+1=>r.at i
theorem Fr.at_none: ∀ {k:Fr α} {i:Nat},k.len<=i->k.at i=none
 | .nil,_,_=>rfl
 | .cons _ _ r,0,h=>by simp only[Fr.len]at h;omega
 | .cons _ _ r,i+1,h=>Fr.at_none (k:=r) (by simp only[Fr.len]at h;omega)
def jh (S:Sh α)(B:Nat)(w:World):Fr α->Nat->Nat->Prop
 | .nil,_,_=>True
 | .cons a k r,b,off=>(∃(C:Qd) (T:TypeId) (fz:Nat×Nat) (p:Qc) (n c:Nat),b<B/\w.heap[b]? =some (.cells C T fz)/\off+S.K<=C.size/\
  C.extract off (off+S.K)=(S.hd a++ [U5 p n c]).toArray/\S.ok a/\n=k.len/\n<=S.mx/\(k=.nil\/∃b' off',p=some ⟨b',off',none⟩/\jh S B w k b' off'))/\jh S B w r b (off+S.K)
def SlR (S:Sh α)(B:Nat)(w:World)(p:Qc)(n:Nat)(k:Fr α):Prop:=n=k.len/\n<=S.mx/\(k=.nil\/∃b off,p=some ⟨b,off,none⟩/\jh S B w k b off)
def FrR (S:Sh α)(B:Nat)(w:World)(p:Qc)(i:Nat)(r:Fr α):Prop:=r=.nil\/∃b off,p=some ⟨b,off,none⟩/\jh S B w r b (off+i*S.K)
theorem jh.up {B B':Nat}{w w':World}(hb:Below B w w')(hB:B<=B'): ∀ {k:Fr α} {b off:Nat},jh S B w k b off->jh S B' w' k b off
 | .nil,_,_,_=>trivial
 | .cons a k r,b,off,⟨⟨C,T,fz,p,n,c,h1,h2,h3,h4,h5,h6,h7,h8⟩,h9⟩=>
  ⟨⟨C,T,fz,p,n,c,Nat.lt_of_lt_of_le h1 hB,by rw[hb.block b h1];exact h2,h3,h4,h5,h6,h7,h8.imp id fun⟨b',o',e,h⟩=>⟨b',o',e,jh.up hb hB h⟩⟩,jh.up hb hB h9⟩
theorem SlR.up {B B':Nat}{w w':World}{p:Qc}{n:Nat}{k:Fr α}(h:SlR S B w p n k)(hb:Below B w w')(hB:B<=B'):SlR S B' w' p n k:=
 ⟨h.1,h.2.1,h.2.2.imp id fun⟨b,o,e,h⟩=>⟨b,o,e,h.up hb hB⟩⟩
theorem SlR.call {w0 w:World}{p:Qc}{n:Nat}{k:Fr α}(h:SlR S w0.heap.size w0 p n k)(hb:Below w0.heap.size w0 w):SlR S w.heap.size w p n k:=h.up hb hb.size
theorem SlR.nil (B:Nat)(w:World)(p:Qc):SlR S B w p 0 .nil:=⟨rfl,by omega,.inl rfl⟩
theorem SlR.start {B:Nat}{w:World}{p:Qc}{n:Nat}{k:Fr α}(h:SlR S B w p n k):FrR S B w p 0 k:=
 h.2.2.imp id fun⟨b,o,e,h⟩=>⟨b,o,e,by rw[Vf,RL];exact h⟩
theorem FrR.open {B:Nat}{w:World}{p:Qc}{i n:Nat}{r:Fr α}(h:FrR S B w p i r)(hn:i+r.len=n)(hi:i<n):
 ∃a k r' b off C T fz p' n' c',r=.cons a k r'/\p=some ⟨b,off,none⟩/\b<B/\w.heap[b]? =some (.cells C T fz)/\off+i*S.K+S.K<=C.size/\
  C.extract (off+i*S.K) (off+i*S.K+S.K)=(S.hd a++ [U5 p' n' c']).toArray/\S.ok a/\SlR S B w p' n' k/\FrR S B w p (i+1) r'/\i+1+r'.len=n:=by
 cases r with
 | nil=>simp only[Fr.len]at hn;omega
 | cons a k r'=>
  rcases h with h|⟨b,off,e,⟨C,T,fz,p',n',c',h1,h2,h3,h4,h5,h6,h7,h8⟩,h9⟩
  ·cases h
  ·refine⟨a,k,r',b,off,C,T,fz,p',n',c',rfl,e,h1,h2,h3,h4,h5,⟨h6,h7,h8⟩,.inr ⟨b,off,e,?_⟩,?_⟩
   ·rw[show off+(i+1)*S.K=off+i*S.K+S.K by rw[Ur];omega];exact h9
   ·simp only[Fr.len]at hn;omega
theorem FrR.done {i n:Nat}{r:Fr α}(hn:i+r.len=n)(hi: ¬i<n):r=.nil:=by
 cases r with
 | nil=>rfl
 | cons a k r'=>simp only[Fr.len]at hn;omega
theorem jh.at {B:Nat}{w:World} : ∀ {k:Fr α} {b off i:Nat} {a:α} {q:Fr α},jh S B w k b off->k.at i=some (a,q)->∃C T fz p n c,b<B/\w.heap[b]? =some (.cells C T fz)/\off+i*S.K+S.K<=C.size/\
 C.extract (off+i*S.K) (off+i*S.K+S.K)=(S.hd a++ [U5 p n c]).toArray/\S.ok a/\SlR S B w p n q
 | .cons a0 k0 r,b,off,0,a,q,⟨⟨C,T,fz,p,n,c,h1,h2,h3,h4,h5,h6,h7,h8⟩,h9⟩,hi=>by
  obtain⟨rfl,rfl⟩:a0=a/\k0=q:=by simp only[Fr.at,Option.some.injEq,Prod.mk.injEq]at hi;exact hi
  rw[Vf,RL];exact⟨C,T,fz,p,n,c,h1,h2,h3,h4,h5,h6,h7,h8⟩
 | .cons a0 k0 r,b,off,i+1,a,q,⟨_,h9⟩,hi=>by
  obtain⟨C,T,fz,p,n,c,h⟩:=jh.at h9 hi;rw[show off+S.K+i*S.K=off+(i+1)*S.K by rw[Ur];omega]at h;exact⟨C,T,fz,p,n,c,h⟩
theorem Fr.at_some: ∀ {k:Fr α} {i:Nat},i<k.len->∃a q,k.at i=some (a,q)
 | .cons a k r,0,_=>⟨a,k,rfl⟩
 | .cons a k r,i+1,h=>Fr.at_some (k:=r) (by simp only[Fr.len]at h;omega)
def LyR (S:Sh α)(T:Qb):Fr α->Nat->Nat->Prop
 | .nil,_,_=>True
 | .cons a k r,b,off=>(∃(C:Qd) (ty:TypeId) (fz:Nat×Nat) (p:Qc) (n c:Nat),(b,Qk C ty fz)∈T/\off+S.K<=C.size/\
  C.extract off (off+S.K)=(S.hd a++ [U5 p n c]).toArray/\S.ok a/\n=k.len/\n<=S.mx/\(k=.nil\/∃b' off',p=some ⟨b',off',none⟩/\LyR S T k b' off'))/\LyR S T r b (off+S.K)
def RIn (S:Sh α)(T:Qb)(p:Qc)(n:Nat)(k:Fr α):Prop:=n=k.len/\n<=S.mx/\(k=.nil\/∃b off,p=some ⟨b,off,none⟩/\LyR S T k b off)
theorem LyR.mono {T T':Qb}(h: ∀e∈T,e∈T'): ∀ {k:Fr α} {b off:Nat},LyR S T k b off->LyR S T' k b off
 | .nil,_,_,_=>trivial
 | .cons a k r,b,off,⟨⟨C,ty,fz,p,n,c,h1,h2,h3,h4,h5,h6,h7⟩,h8⟩=>⟨⟨C,ty,fz,p,n,c,h _ h1,h2,h3,h4,h5,h6,h7.imp id fun⟨b',o',e,q⟩=>⟨b',o',e,LyR.mono h q⟩⟩,LyR.mono h h8⟩
theorem RIn.mono {T T':Qb}{p:Qc}{n:Nat}{k:Fr α}(hs:RIn S T p n k)(h: ∀e∈T,e∈T'):RIn S T' p n k:=
 ⟨hs.1,hs.2.1,hs.2.2.imp id fun⟨b,o,e,q⟩=>⟨b,o,e,q.mono h⟩⟩
theorem RIn.none (T:Qb)(p:Qc):RIn S T p 0 .nil:=⟨rfl,by omega,.inl rfl⟩
theorem LyR.at {B:Nat}{w0 w:World}{l T:Qb}(hS:St B w0 w l)(h: ∀e∈T,e∈l): ∀ {k:Fr α} {b off:Nat},LyR S T k b off->jh S w.heap.size w k b off
 | .nil,_,_,_=>trivial
 | .cons a k r,b,off,⟨⟨C,ty,fz,p,n,c,h1,h2,h3,h4,h5,h6,h7⟩,h8⟩=>
  have hh:=(hS.own _ (h _ h1)).2
  ⟨⟨C,ty,fz,p,n,c,zo hh,hh,h2,h3,h4,h5,h6,h7.imp id fun⟨b',o',e,q⟩=>⟨b',o',e,LyR.at hS h q⟩⟩,LyR.at hS h h8⟩
theorem RIn.at {B:Nat}{w0 w:World}{l T:Qb}{p:Qc}{n:Nat}{k:Fr α}(hs:RIn S T p n k)(hS:St B w0 w l)(h: ∀e∈T,e∈l):SlR S w.heap.size w p n k:=
 ⟨hs.1,hs.2.1,hs.2.2.imp id fun⟨b,o,e,q⟩=>⟨b,o,e,q.at hS h⟩⟩
structure El (α:Type) where
 a:α
 p:Qc
 n:Nat
 c:Nat
 k:Fr α
def El.cs (S:Sh α)(x:El α):List Value:=S.hd x.a++ [U5 x.p x.n x.c]
def zU (S:Sh α):List (El α)->List Value
 | []=>[]
 | x::r=>x.cs S++zU S r
def yE:List (El α)->Fr α
 | []=>.nil
 | x::r=>.cons x.a x.k (yE r)
theorem zdf: ∀L:List (El α),(yE L).len=L.length
 | []=>rfl
 | x::r=>by simp only[yE,Fr.len,Rh,zdf r]
theorem El.cs_len (x:El α):(x.cs S).length=S.K:=by
 unfold El.cs;rw[Qx];exact S.len x.a
theorem El.cs_one (x:El α): ∀u∈x.cs S,u.oneCell'=true:=fun u hu=>by
 rcases UI.1 hu with h|h
 ·exact S.one x.a u h
 ·obtain rfl:=RY.1 h;rfl
theorem xY: ∀L:List (El α),(zU S L).length=L.length*S.K
 | []=>by simp[zU]
 | x::r=>by simp only[zU,Qx,xY r,El.cs_len,Rh,Ur];omega
theorem vP (x:El α): ∀L:List (El α),zU S (L++ [x])=zU S L++x.cs S
 | []=>by simp[zU]
 | y::r=>by simp only[Rm,zU,vP x r,QD]
theorem zdg: ∀(L:List (El α)) (i:Nat) (x:El α),L[i]? =some x-> ∀j,j<S.K->(zU S L)[i*S.K+j]? =(x.cs S)[j]?
 | y::r,0,x,h,j,hj=>by
  obtain rfl:y=x:=by simpa using h
  rw[Vf,Q9];unfold zU;rw[UD (by rw[El.cs_len];exact hj)]
 | y::r,i+1,x,h,j,hj=>by
  unfold zU;rw[Uo (by rw[El.cs_len,Ur];omega),El.cs_len,show (i+1)*S.K+j-S.K=i*S.K+j by rw[Ur];omega];exact zdg r i x (by simpa using h) j hj
theorem exE {C:Qd}{o:Nat}{x:List Value}{K:Nat}(hl:x.length=K)(h: ∀j,j<K->C[o+j]? =x[j]?)(h0:0<K):o+K<=C.size/\C.extract o (o+K)=x.toArray:=by
 have hz:o+K<=C.size:=by
  have h1:=h (K-1) (by omega);rw[Qr (by omega)]at h1;obtain⟨h2,_⟩:=Q1.1 h1;omega
 refine⟨hz,?_⟩;apply Array.ext_getElem?;intro j;have e:x.toArray[j]? =x[j]? :=by simp
 rw[Va,e];split
 ·rename_i hj
  exact h j (by omega)
 ·rename_i hj
  rw[Q6 (by omega)]
theorem Sh.pos (S:Sh α)(a:α):0<S.K:=by have:=S.len a;omega
theorem Rw.atE {cur:Qd}{cap n:Nat}{L:List (El α)}(h:Rw S.K cur cap n (zU S L)){i:Nat}{x:El α}(hx:L[i]? =some x):i*S.K+S.K<=cur.size/\cur.extract (i*S.K) (i*S.K+S.K)=(x.cs S).toArray:=by
 have hl:=h.len;rw[xY]at hl;have hi:i<L.length:=(QT.1 hx).1;refine exE x.cs_len (fun j hj=>?_) (S.pos x.a)
 rw[h.get _ (by
  rw[<-hl];have:i*S.K+S.K<=L.length*S.K:=by rw[<-Ur];exact Vi _ hi
  omega),zdg L i x hx j hj]
def AllE (S:Sh α)(T:Qb)(L:List (El α)):Prop:= ∀x∈L,RIn S T x.p x.n x.k/\S.ok x.a
theorem AllE.mono {T T':Qb}{M:List (El α)}(h:AllE S T M)(hs: ∀e∈T,e∈T'):AllE S T' M:=fun x hx=>⟨(h x hx).1.mono hs,(h x hx).2⟩
theorem AllE.snoc {T:Qb}{M:List (El α)}{x:El α}(h:AllE S T M)(hx:RIn S T x.p x.n x.k)(hz:S.ok x.a):AllE S T (M++ [x]):=fun y hy=>by
 rcases UI.1 hy with q|q
 ·exact h y q
 ·obtain rfl:=RY.1 q;exact⟨hx,hz⟩
theorem zfR {T:Qb}{b:Nat}{C:Qd}{ty:TypeId}{fz:Nat×Nat}(hm:(b,Qk C ty fz)∈T): ∀(L:List (El α)) (o:Nat),
 (∀(i:Nat) (x:El α),L[i]? =some x->o+i*S.K+S.K<=C.size/\C.extract (o+i*S.K) (o+i*S.K+S.K)=(x.cs S).toArray)->AllE S T L->LyR S T (yE L) b o
 | [],_,_,_=>trivial
 | x::r,o,h,hA=>by
  have h1:=h 0 x rfl;rw[Vf,RL]at h1;have ha:=hA x (QX ..);refine⟨⟨C,ty,fz,x.p,x.n,x.c,hm,h1.1,h1.2,ha.2,ha.1.1,ha.1.2.1,ha.1.2.2⟩,?_⟩;refine zfR hm r (o+S.K) (fun i y hy=>?_) fun y hy=>hA y (QR _ hy);have:=h (i+1) y (by simpa using hy);rw[show o+(i+1)*S.K=o+S.K+i*S.K by rw[Ur];omega]at this;exact this
theorem Rw.rIn {cur:Qd}{cap n:Nat}{L:List (El α)}(h:Rw S.K cur cap n (zU S L))(hK:0<S.K){T:Qb}{b:Nat}{ty:TypeId}{fz:Nat×Nat}(hm:(b,Qk cur ty fz)∈T)(hA:AllE S T L)(hn:n<=S.mx):RIn S T (Qg b) n (yE L):=by
 have hl:=h.len;rw[xY]at hl;have hln:L.length=n:=Nat.eq_of_mul_eq_mul_right hK hl;refine⟨by rw[zdf];omega,hn,.inr ⟨b,0,rfl,zfR hm L 0 (fun i x hx=>?_) hA⟩⟩;rw[Q9];exact h.atE hx
def RowE (S:Sh α)(ty:TypeId)(p:Qc)(n c:Nat)(row:Qb)(L:List (El α)):Prop:=(p=none/\n=0/\c=0/\row=[]/\L=[])\/∃b cur,p=Qg b/\row=[(b,.cells cur ty)]/\Rw S.K cur c n (zU S L)
theorem RowE.len {ty:TypeId}{p:Qc}{n c:Nat}{row:Qb}{L:List (El α)}(h:RowE S ty p n c row L)(hK:0<S.K):n=L.length:=by
 rcases h with⟨_,rfl,_,_,rfl⟩|⟨b,cur,_,_,hr⟩
 ·rfl
 ·have hl:=hr.len;rw[xY]at hl;exact(Nat.eq_of_mul_eq_mul_right hK hl).symm
theorem RowE.rIn {ty:TypeId}{p:Qc}{n c:Nat}{row T:Qb}{L:List (El α)}(h:RowE S ty p n c row L)(hK:0<S.K)(hA:AllE S T L)(hn:n<=S.mx):RIn S (row++T) p n (yE L):=by
 rcases h with⟨rfl,rfl,rfl,rfl,rfl⟩|⟨b,cur,rfl,rfl,hr⟩
 ·exact RIn.none _ _
 ·exact hr.rIn (b:=b) (ty:=ty) (fz:=(0,0)) hK (by simp) (hA.mono fun e he=>List.mem_append_right _ he) hn
end
theorem zfS {P:Program}{ρ:Env}{w:World}{b off:Nat}{C:Qd}{T t:TypeId}{fz:Nat×Nat}{x:Operand}{v:Value}(hh:w.heap[b]? =some (.cells C T fz))(ht:oneCell P t=true)(hx:ev ρ x=.pointer (some ⟨b,off,none⟩))(hv:C[off]? =some v)(o:Oper)(ho:o.op=.load t x):
 (execOp (ev ρ) o).run P w=.ok (.value v) w:=by
 have:=kq (P:=P) (w:=w) ht hh hv;simp[execOp,ho,Ue,RK,hx,this]
theorem vQ {P:Program}{ρ:Env}{w:World}{b off:Nat}{C C':Qd}{T t:TypeId}{x y:Operand}{v:Value}(hh:w.heap[b]? =some (.cells C T))(hi:(P.info? t).map (·.size)=some v.cells.size)(h1:v.cells.all (·.oneCell')=true)(hs:off+v.cells.size<=C.size)
 (hC:(C.toList.take off++v.cells.toList++C.toList.drop (off+v.cells.size)).toArray=C') (hx:ev ρ x=.pointer (some ⟨b,off,none⟩)) (hy:ev ρ y=v) (o:Oper) (ho:o.op=.store t x y):(execOp (ev ρ) o).run P w=.ok .skip (w.setRow b C'):=by
 have:=vE (P:=P) (w:=w) hi h1 hh hs;rw[hC]at this;simp[execOp,ho,U2,RK,hx,hy,this]
theorem St.perm {B:Nat}{w0 w:World}{l l':Qb}(h:St B w0 w l)(hp:l'.Perm l):St B w0 w l':=
 ⟨h.below,h.le,fun x hx=>h.own x (hp.mem_iff.1 hx),((hp.map (·.1)).nodup_iff).2 h.nd⟩
theorem St.addAll {B:Nat}{w0 w w':World}{l T:Qb}(h:St B w0 w l)(hT:St w.heap.size w w' T):St B w0 w' (T++l):=by
 have h':=h.call hT.below;refine⟨h'.below,h'.le,?_,?_⟩
 ·intro e he;rcases UI.1 he with he | he
  ·exact⟨RZ h.le (hT.own e he).1,(hT.own e he).2⟩
  ·exact h'.own e he
 ·rw[List.map_append,List.nodup_append];refine⟨hT.nd,h'.nd,?_⟩;intro x hx y hy q;obtain⟨e,he,rfl⟩:=Rk.1 hx;obtain⟨e',he',rfl⟩:=Rk.1 hy;have h1:=(hT.own e he).1;have h2:=zo (h.own e' he').2;omega
section
variable {P:Program}{ρ:Env}{w w0:World}{B:Nat}{l:Qb}
theorem zap {K:Nat}(HS:St B w0 w l){t e bytes:Nat}{s x:Operand}{o:Oper}{j k b bx n cap c:Nat}{cur Y:Qd}{xs:List Value}(ht:yp P t=some (e,K,bytes))(ho:o.op=ym t s x)
 (hs:ev ρ s=Qf b n cap) (hj:l[j]? =some (b,.cells cur e)) (hr:Rw K cur cap n xs) (hx:ev ρ x=Qf bx 1 c) (hk:l[k]? =some (bx,.cells Y e))
 (hY:Y.size=K) (hone: ∀u∈Y.toList,u.oneCell'=true)
 (hb:(n+1)*bytes<=0x800000000000) (hm:n+1<=maxLen):∃b' cap' cur' w',(execOp (ev ρ) o).run P w=.ok (.value (Qf b' (n+1) cap')) w'/\St B w0 w' (l.set j (b',.cells cur' e))/\Rw K cur' cap' (n+1) (xs++Y.toList):=by
 obtain⟨it,z,hu,hi,hz,hsz,hby,hzs,h0⟩:=qi ht;have hnews: ∀q u,(Y.toList)[q]? =some u->w.cell? ((⟨bx,0,none⟩:Addr).add q)=some u:=fun q u hq=>by
  rw[RN]at hq;rw[qh,Q9];simp[RH,HS.get k hk,hq]
 obtain⟨v',w',hrun,hown,hgr,hnil,hblk⟩:=run_append_own_at (P:=P) w B t o.type e it z K bytes hu hi hz hsz hby hzs h0 _ n xs (hr.owns (HS.ge j hj) (HS.get j hj)) ⟨bx,0,none⟩ 1 c Y.toList (by rw[Rv,hY,Ws]) hnews hone hm hb HS.le;have hown':=hown;rcases hown'.2 with⟨hv,_⟩|⟨g,cap',cur',rfl,hbg,hg,hnc,hcm,hcs,htk⟩
 ·exact absurd (hnil.1 hv).1 (by simp)
 ·have hgb:g=b\/g=w.heap.size:=by
   rcases hblk with hq|hq
   ·left;injection hq
   ·right;injection hq
  refine⟨g,cap',cur',w',?_,HS.grown j hj hgr hgb hg,?_⟩
  ·unfold execOp;simp only[ho,ym,resolve,invoke,builtin,Q7,Up,QJ,RI,Q8,Ug,hs,hx,hrun]
  ·exact⟨hown.1,hnc,hcm,htk,hcs⟩
theorem zbk {K:Nat}(HS:St B w0 w l){t e bytes:Nat}{s x:Operand}{o:Oper}{k bx c:Nat}{Y:Qd}(ht:yp P t=some (e,K,bytes))(ho:o.op=ym t s x)
 (hs:ev ρ s=.slice none 0 0) (hx:ev ρ x=Qf bx 1 c) (hk:l[k]? =some (bx,.cells Y e))
 (hY:Y.size=K) (hone: ∀u∈Y.toList,u.oneCell'=true)
 (hb:(0+1)*bytes<=0x800000000000):∃b' cap' cur' w',(execOp (ev ρ) o).run P w=.ok (.value (Qf b' 1 cap')) w'/\St B w0 w' ((b',.cells cur' e)::l)/\Rw K cur' cap' 1 Y.toList:=by
 obtain⟨it,z,hu,hi,hz,hsz,hby,hzs,h0⟩:=qi ht;have hnews: ∀q u,(Y.toList)[q]? =some u->w.cell? ((⟨bx,0,none⟩:Addr).add q)=some u:=fun q u hq=>by
  rw[RN]at hq;rw[qh,Q9];simp[RH,HS.get k hk,hq]
 obtain⟨v',w',hrun,hown,hgr,hnil,hblk⟩:=run_append_own_at (P:=P) w B t o.type e it z K bytes hu hi hz hsz hby hzs h0 (.slice none 0 0) 0 [] (World.ownsRow_nil w B e K) ⟨bx,0,none⟩ 1 c Y.toList (by rw[Rv,hY,Ws]) hnews hone (by unfold maxLen;omega) hb HS.le;have hown':=hown;rcases hown'.2 with⟨hv,_⟩|⟨g,cap',cur',rfl,hbg,hg,hnc,hcm,hcs,htk⟩
 ·exact absurd (hnil.1 hv).2 (by simp)
 ·have hgb:g=w.heap.size:=by
   rcases hblk with hq|hq
   ·simp[Vs]at hq
   ·injection hq
  have hbel:Below w.heap.size w w':=(Below.refl _ w).grown hgr (QH _) (fun k hk=>by simp[Vs]at hk);have HS':=HS.add hbel (by omega) hg;rw[Q9]at hnc htk;refine⟨g,cap',cur',w',?_,HS',⟨by rw[Rv,hY,Ws],hnc,hcm,htk,hcs⟩⟩;unfold execOp;simp only[ho,ym,resolve,invoke,builtin,Q7,Up,QJ,RI,Q8,Ug,hs,hx,hrun]
def FnT (P:Program)(f:Nat)(args:Qd)(pre:World->Prop)(ok:Value->Qb->Prop):Prop:=
 ∀w,pre w->Calls P f args w fun e w'=> ∃v T,e=.returned v/\ok v T/\St w.heap.size w w' T
end
namespace D2
section
variable {P:Program}{ops:Array Oper}{R:(Nat->Gh)->Env}{i:Nat}{d:Option Nat}{pre:(Nat->Bool)->(Nat->Gh)->World->Prop}
theorem gv_opW {V:Value}(hs: ∀L g w,pre L g w->pre (put1 L i) g w)(op:Op)(h: ∀g,opk ops i (R g)=some (d,true,op))(hr: ∀L g (o:Oper) w,Now ops i L->pre L g w->o.op=op->(execOp (ev (R g)) o).run P w=.ok (.value V) w):Gives P ops R pre i d (fun _=>V):=
 gives_of fun L g w hp hN=>by
  obtain⟨o,ho,hd,hw,hop⟩:=zM (h g);exact⟨o,ho,hd,.inr ⟨hw,by rw[hr L g o w hN hp hop];exact⟨g i,rfl,by rw[setN_self];exact hs _ _ _ hp⟩⟩⟩
theorem gv_ld {V:Value}(hs: ∀L g w,pre L g w->pre (put1 L i) g w)(t:TypeId)(x:Operand)(b:(Nat->Gh)->Nat)(off:Nat)(C:Qd)(T:TypeId)(fz:Nat×Nat)(h: ∀g,opk ops i (R g)=some (d,true,.load t x))
 (hx: ∀g,ev (R g) x=.pointer (some ⟨b g,off,none⟩)) (hh: ∀L g w,Now ops i L->pre L g w->w.heap[b g]? =some (.cells C T fz)) (hok:zae P t off C=true) (hV:ldv P t off C=V):Gives P ops R pre i d (fun _=>V):=
 gv_opW hs _ h fun L g o w hN hp ho=>by
  have:=zc2 (P:=P) hok (hh L g w hN hp);rw[hV]at this;simp[execOp,ho,Ue,RK,hx,this]
theorem gv_cpW {V:Value}(hs: ∀L g w,pre L g w->pre (put1 L i) g w)(f:Nat)(args:Qd){pr:World->Prop}(hc:FnP P f args pr V)(hpr: ∀L g w,Now ops i L->pre L g w->pr w)(hb: ∀L g w w',Now ops i L->pre L g w->Below w.heap.size w w'->pre L g w')(h: ∀g w,opv P ops i (R g) w=some (d,true,.ok (.enter f args) w)):Gives P ops R pre i d (fun _=>V):=
 gives_of fun L g w hp hN=>by
  obtain⟨o,ho,hd,hw,hr⟩:=yc (h g w);refine⟨o,ho,hd,.inr ⟨hw,?_⟩⟩;rw[hr];refine Calls.mono (hc w (hpr L g w hN hp)) ?_;rintro e w' ⟨rfl,hbl⟩;exact⟨V,rfl,g i,rfl,by rw[setN_self];exact hs _ _ _ (hb L g w w' hN hp hbl)⟩
theorem gv_ft {V:Gh->Value}(f:Nat)(args:Qd){pr:World->Prop}{ok:Value->Qb->Prop}(hc:FnT P f args pr ok)(hpr: ∀L g w,Now ops i L->pre L g w->pr w)
 (hk: ∀L g w v T w',Now ops i L->pre L g w->ok v T->St w.heap.size w w' T->∃x:Gh,v=V x/\pre (put1 L i) (setN g i x) w') (h: ∀g w,opv P ops i (R g) w=some (d,true,.ok (.enter f args) w)):Gives P ops R pre i d V:=
 gives_of fun L g w hp hN=>by
  obtain⟨o,ho,hd,hw,hr⟩:=yc (h g w);refine⟨o,ho,hd,.inr ⟨hw,?_⟩⟩;rw[hr];refine Calls.mono (hc w (hpr L g w hN hp)) ?_;rintro e w' ⟨v,T,rfl,hok,hT⟩;obtain⟨x,hv,hq⟩:=hk L g w v T w' hN hp hok hT;exact⟨v,rfl,x,hv,hq⟩
end
end D2
abbrev zV (B:Nat)(w0:World)(ok:Value->Qb->Prop):Value->World->Prop:=fun v' w'=> ∃T,ok v' T/\St B w0 w' T
theorem FnT.intro {P:Program}{f:Nat}{fn:Func}{c:Code}(rs:List ResultVar)(N:Nat){args:Qd}{pre:World->Prop}{ok:Value->Qb->Prop}(hf:P.funcs[f]? =some fn)(hb:fn.body=some c)(hr:fn.results.toList=rs)(hn:args.size+(fn.ntmps-args.size)=N)
 (h: ∀w,pre w->WP P N c (yx P rs (zV w.heap.size w ok)) (ini args) w):FnT P f args pre ok:=fun w hp=>
 (kt hf hb hr hn (h w hp)).mono fun e w' ⟨v',he,T,hv⟩=>⟨v',T,he,hv⟩
theorem qz {P:Program}{f:Nat}{fn:Func}(rs:List ResultVar)(N:Nat){args:Qd}{pre:World->Prop}{ok:Value->Qb->Prop}(hf:P.funcs[f]? =some fn)(h: ∀w,pre w->WP P N (zz fn) (yx P rs (zV w.heap.size w ok)) (ini args) w)(hb:fn.body=some (zz fn):=by kernel_rfl)(hr:fn.results.toList=rs:=by kernel_rfl)(hn:args.size+(fn.ntmps-args.size)=N:=by kernel_rfl):FnT P f args pre ok:=FnT.intro rs N hf hb hr hn h
section
variable {P:Program}{N:Nat}{ops:Array Oper}{i:Nat}{r:List Nat}{K:Env->World->Prop}{ρ:Env}{w:World}{B:Nat}{w0:World}{l:Qb}
theorem qk (HS:St B w0 w l)(d:Option Nat)(f:Nat)(args:Qd){pre:World->Prop}{ok:Value->Qb->Prop}(hc:FnT P f args pre ok)(hp:pre w)
 (h:opv P ops i ρ w=some (d,true,.ok (.enter f args) w)) (hd:dOK d N=true)
 (kk: ∀v T w',ok v T->St B w0 w' (T++l)->WPs P N ops K r (zr ρ d v) w'):WPs P N ops K (i::r) ρ w:=by
 obtain⟨o,ho,rfl,hw,hr⟩:=yc h;refine WPo.run ho hw fun a ha=>?_;rw[hr,Oper.upon_enter];refine(hc w hp).mono ?_;rintro e w' ⟨v,T,rfl,hok,hT⟩;exact⟨_,ha.put _ (zZ hd) _,kk v T w' hok (HS.addAll hT)⟩
theorem zkD (HS:St B w0 w l)(d:Option Nat)(t e:TypeId)(K' bytes:Nat)(x y:Operand)(kl kc:IntKind)(n:Nat)(h:opk ops i ρ=some (d,true,.makeSlice t x y))(hd:dOK d N=true)(ht:yp P t=some (e,K',bytes))
 (hx:ev ρ x=.int kl (n:Int)) (hy:ev ρ y=.int kc (n:Int)) (hb:bytes*n<=281474976710656) (hm:n<=maxLen)
 (kk: ∀b cur w',St B w0 w' ((b,.cells cur e)::l)->cur.size=n*K'->WPs P N ops K r (zr ρ d (Qf b n n)) w'):WPs P N ops K (i::r) ρ w:=by
 obtain⟨o,ho,rfl,hw,hop⟩:=zM h;obtain⟨it,z',hu,hi,hz',hsz,hby,hzs,h0⟩:=qi ht;have hml:n<=0x7fffffffffffffff:=by have:=hm;simp only[maxLen]at this;omega
 have hbi:(it.bytes:Int)*(n:Int)<=281474976710656:=by
  rw[hby,<-UG];omega
 have hr:=run_make (P:=P) w t e it z' hu hi hz' kl kc (n:Int) (n:Int) (by omega) (by omega) hbi (by omega);simp only[Int.toNat_natCast,hsz]at hr;refine WPo.run ho hw fun a ha=>?_;have hex:(execOp (ev ρ) o).run P w=.ok (.value (Qf w.heap.size n n)) (w.alloc (.cells (madeCells z'.cells (n*K')) e)):=by
  unfold execOp;simp only[hop,hx,hy,Q7,hr,QJ];rfl
 rw[hex,Rx];refine⟨_,ha.put _ (zZ hd) _,kk _ _ _ (HS.alloc _) ?_⟩;unfold madeCells;simp
end
structure Fl (α:Type) where
 K:Nat
 cs:α->List Value
 pos:0<K
 len: ∀a,(cs a).length=K
 one: ∀a,∀u∈cs a,u.oneCell'=true
section
variable {α:Type}{S:Fl α}
def cellsF (S:Fl α):List α->List Value
 | []=>[]
 | x::r=>S.cs x++cellsF S r
theorem xv: ∀L:List α,(cellsF S L).length=L.length*S.K
 | []=>by simp[cellsF]
 | x::r=>by simp only[cellsF,Qx,xv r,S.len,Rh,Ur];omega
theorem zaq: ∀L M:List α,cellsF S (L++M)=cellsF S L++cellsF S M
 | [],M=>by simp[cellsF]
 | y::r,M=>by simp only[Rm,cellsF,zaq r M,QD]
theorem zfT (x:α)(L:List α):cellsF S (L++ [x])=cellsF S L++S.cs x:=by
 rw[zaq];simp[cellsF]
theorem zdh: ∀L:List α,∀u∈cellsF S L,u.oneCell'=true
 | [],u,h=>by simp[cellsF]at h
 | x::r,u,h=>by
  rcases UI.1 h with q|q
  ·exact S.one x u q
  ·exact zdh r u q
theorem zdi: ∀(L:List α) (i:Nat) (x:α),L[i]? =some x-> ∀j,j<S.K->(cellsF S L)[i*S.K+j]? =(S.cs x)[j]?
 | y::r,0,x,h,j,hj=>by
  obtain rfl:y=x:=by simpa using h
  rw[Vf,Q9];unfold cellsF;rw[UD (by rw[S.len];exact hj)]
 | y::r,i+1,x,h,j,hj=>by
  unfold cellsF;rw[Uo (by rw[S.len,Ur];omega),S.len,show (i+1)*S.K+j-S.K=i*S.K+j by rw[Ur];omega];exact zdi r i x (by simpa using h) j hj
def xK (S:Fl α)(C:Qd)(off:Nat)(L:List α):Prop:= ∀(i:Nat) (x:α),L[i]? =some x->off+i*S.K+S.K<=C.size/\C.extract (off+i*S.K) (off+i*S.K+S.K)=(S.cs x).toArray
theorem xK.take {C:Qd}{off:Nat}{L:List α}(h:xK S C off L)(k:Nat):xK S C off (L.take k):=fun i x hx=>by
 rw[Ut]at hx;split at hx
 ·exact h i x hx
 ·cases hx
theorem xK.cell {C:Qd}{off:Nat}{L:List α}(h:xK S C off L){i:Nat}{x:α}(hx:L[i]? =some x)(j:Nat)(hj:j<S.K):C[off+i*S.K+j]? =(S.cs x)[j]? :=by
 obtain⟨h1,h2⟩:=h i x hx;have e:(C.extract (off+i*S.K) (off+i*S.K+S.K))[j]? =C[off+i*S.K+j]? :=by
  rw[Va,if_pos (by omega)]
 rw[<-e,h2];simp
theorem Rw.rowAt {cur:Qd}{cap n:Nat}{L:List α}(h:Rw S.K cur cap n (cellsF S L)):xK S cur 0 L:=fun i x hx=>by
 have hl:=h.len;rw[xv]at hl;have hi:i<L.length:=(QT.1 hx).1;rw[Q9];refine exE (S.len x) (fun j hj=>?_) S.pos
 rw[h.get _ (by
  rw[<-hl];have:i*S.K+S.K<=L.length*S.K:=by rw[<-Ur];exact Vi _ hi
  omega),zdi L i x hx j hj]
theorem Rw.lenF {cur:Qd}{cap n:Nat}{L:List α}(h:Rw S.K cur cap n (cellsF S L)):L.length=n:=by
 have hl:=h.len;rw[xv]at hl;exact Nat.eq_of_mul_eq_mul_right S.pos hl
def yl (S:Fl α)(ty:TypeId)(p:Qc)(n c:Nat)(row:Qb)(L:List α):Prop:=(p=none/\n=0/\c=0/\row=[]/\L=[])\/∃b cur,p=Qg b/\row=[(b,.cells cur ty)]/\Rw S.K cur c n (cellsF S L)
theorem yl.len {ty:TypeId}{p:Qc}{n c:Nat}{row:Qb}{L:List α}(h:yl S ty p n c row L):L.length=n:=by
 rcases h with⟨_,rfl,_,_,rfl⟩|⟨b,cur,_,_,hr⟩
 ·rfl
 ·exact hr.lenF
structure zsw (S:Fl α)(C:Qd)(n i:Nat)(M:List α):Prop where
 sz:C.size=n*S.K
 len:M.length=i
 take:C.toList.take (i*S.K)=cellsF S M
end
namespace D2
section
variable {P:Program}{ops:Array Oper}{R:(Nat->Gh)->Env}{d:Option Nat}
theorem gv_cW {pre:(Nat->Bool)->(Nat->Gh)->World->Prop}{i:Nat}{V:Value}(hs: ∀L g w,pre L g w->pre (put1 L i) g w)(f:Nat)(args:Qd)(hc:Fn P f args V)(hb: ∀L g w w',Now ops i L->pre L g w->Below w.heap.size w w'->pre L g w')(h: ∀g w,opv P ops i (R g) w=some (d,true,.ok (.enter f args) w)):Gives P ops R pre i d (fun _=>V):=
 gv_cpW hs f args (pr:=fun _=>True) (fun w _=>hc w) (fun _ _ _ _ _=>trivial) hb h
variable {B:Nat}{w0:World}{E row:Qb}{Y:Qd}{ty:TypeId}{n:Nat}{K:Nat}{xs:List Value}
end
end D2
section
variable {α:Type}{S:Fl α}
theorem xK.at {C:Qd}{off:Nat}{L:List α}(h:xK S C off L){q:Nat}{u:Value}(hq:(cellsF S L)[q]? =some u):C[off+q]? =some u:=by
 have hlt:=(QT.1 hq).1;rw[xv]at hlt;have hK:=S.pos;have hi:q / S.K<L.length:=(Nat.div_lt_iff_lt_mul hK).2 hlt;obtain⟨x,hx⟩:∃x,L[q / S.K]? =some x:=⟨_,Qr hi⟩
 have hj:=RT q hK;have e:q / S.K*S.K+q%S.K=q:=Nat.div_add_mod' q S.K;have h1:=zdi L _ x hx (q%S.K) hj;have h2:=h.cell hx (q%S.K) hj;rw[e]at h1;rw[Nat.add_assoc,e]at h2;rw[h2,<-h1,hq]
variable {P:Program}{ρ:Env}{w w0:World}{B:Nat}{l:Qb}
theorem zfU (HS:St B w0 w l){t e bytes:Nat}{s x:Operand}{o:Oper}{j b n cap m c:Nat}{a:Addr}{cur:Qd}{xs:List Value}{M:List α}(ht:yp P t=some (e,S.K,bytes))(ho:o.op=ym t s x)
 (hs:ev ρ s=Qf b n cap) (hj:l[j]? =some (b,.cells cur e)) (hr:Rw S.K cur cap n xs) (hx:ev ρ x=.slice (some a) m c) (hM:m=M.length)
 (hk:M=[]\/∃bx off C T fz,a=⟨bx,off,none⟩/\w.heap[bx]? =some (.cells C T fz)/\xK S C off M)
 (hb:(n+m)*bytes<=0x800000000000) (hm:n+m<=maxLen):∃b' cap' cur' w',(execOp (ev ρ) o).run P w=.ok (.value (Qf b' (n+m) cap')) w'/\St B w0 w' (l.set j (b',.cells cur' e))/\Rw S.K cur' cap' (n+m) (xs++cellsF S M):=by
 obtain⟨it,z,hu,hi,hz,hsz,hby,hzs,h0⟩:=qi ht;have hnews: ∀q u,(cellsF S M)[q]? =some u->w.cell? (a.add q)=some u:=fun q u hq=>by
  rcases hk with rfl|⟨bx,off,C,T,fz,rfl,hh,hR⟩
  ·simp[cellsF]at hq
  ·rw[qh];simp[RH,hh,hR.at hq]
 obtain⟨v',w',hrun,hown,hgr,hnil,hblk⟩:=run_append_own_at (P:=P) w B t o.type e it z S.K bytes hu hi hz hsz hby hzs h0 _ n xs (hr.owns (HS.ge j hj) (HS.get j hj)) a m c (cellsF S M) (by rw[xv,hM]) hnews (zdh M) hm hb HS.le;have hown':=hown;rcases hown'.2 with⟨hv,_⟩|⟨g,cap',cur',rfl,hbg,hg,hnc,hcm,hcs,htk⟩
 ·exact absurd (hnil.1 hv).1 (by simp)
 ·have hgb:g=b\/g=w.heap.size:=by
   rcases hblk with hq|hq
   ·left;injection hq
   ·right;injection hq
  refine⟨g,cap',cur',w',?_,HS.grown j hj hgr hgb hg,?_⟩
  ·unfold execOp;simp only[ho,ym,resolve,invoke,builtin,Q7,Up,QJ,RI,Q8,Ug,hs,hx,hrun]
  ·exact⟨hown.1,hnc,hcm,htk,hcs⟩
variable {N:Nat}{ops:Array Oper}{i:Nat}{r:List Nat}{K:Env->World->Prop}
end
def pG (y:D2.Gh):Qc:=match y.l with
 | []=>none
 | _=>some ⟨y.b,0,none⟩
theorem zfV {α:Type}{S:Fl α}{ty:TypeId}{p:Qc}{n c:Nat}{T:Qb}{L:List α}(h:yl S ty p n c T L):∃x:D2.Gh,U5 p n c=.slice (pG x) x.n x.cap/\yl S ty (pG x) x.n x.cap T L:=by
 rcases h with⟨rfl,rfl,rfl,rfl,rfl⟩|⟨b,cur,rfl,rfl,hr⟩
 ·exact⟨{ n:=0,cap:=0 },rfl,.inl ⟨rfl,rfl,rfl,rfl,rfl⟩⟩
 ·exact⟨{ b:=b,n:=n,cap:=c,l:=[1] },rfl,.inr ⟨b,cur,rfl,rfl,hr⟩⟩
section
variable {P:Program}{w w0:World}
end
section
variable {P:Program}{N:Nat}{ops:Array Oper}{i:Nat}{r:List Nat}{K:Env->World->Prop}{ρ:Env}{w:World}{B:Nat}{w0:World}{l:Qb}
end
namespace D2
def stg:List Nat->(Nat->Bool)->Nat
 | [],_=>0
 | k::r,L=>bif L k then stg r L+1 else 0
def chn (ks:List Nat)(Q:Nat->(Nat->Gh)->World->Prop):(Nat->Bool)->(Nat->Gh)->World->Prop:=fun L g w=>Q (stg ks L) g w
theorem zfW: ∀(ks:List Nat) (L:Nat->Bool),stg ks L<=ks.length
 | [],_=>QH _
 | k::r,L=>by
  unfold stg;cases L k with
  | true=>exact Nat.succ_le_succ (zfW r L)
  | false=>exact QU _
theorem chn.get {ks:List Nat}{Q:Nat->(Nat->Gh)->World->Prop}{L:Nat->Bool}{g:Nat->Gh}{w:World}{Φ:Prop}(h:chn ks Q L g w)(hQ: ∀j,j<=ks.length->Q j g w->Φ):Φ:=hQ _ (zfW ks L) h
theorem chn.fin {Q:Nat->(Nat->Gh)->World->Prop}{g:Nat->Gh}{w:World} : ∀ {ks:List Nat} {L:Nat->Bool},chn ks Q L g w->(∀k∈ks,L k=true)->Q ks.length g w:=by
 intro ks L h hk;have:stg ks L=ks.length:=by
  clear h
  induction ks with
  | nil=>rfl
  | cons k r ih=>
   unfold stg;rw[hk k (QX ..),ih fun x hx=>hk x (QR _ hx)];rfl
 unfold chn at h
 rwa [this]at h
section
variable {P:Program}{ops:Array Oper}{R:(Nat->Gh)->Env}{d:Option Nat}
theorem gv_chn {V:Gh->Value}{ks:List Nat}{Q:Nat->(Nat->Gh)->World->Prop}(k j:Nat)(hN: ∀L,Now ops k L->stg ks L=j/\stg ks (put1 L k)=j+1)
 (hr: ∀g w,Q j g w->∃o,ops[k]? =some o/\o.dst=d/\QP o (zS ops (R g))=true/\Runs P (fun v w'=> ∃x,v=V x/\Q (j+1) (setN g k x) w') ((execOp (ev (R g)) o).run P w)):Gives P ops R (chn ks Q) k d V:=by
 refine gives_of fun L g w hp hNw=>?_;obtain⟨e1,e2⟩:=hN L hNw;unfold chn at hp;rw[e1]at hp;obtain⟨o,ho,hd,hw,hq⟩:=hr g w hp;refine⟨o,ho,hd,.inr ⟨hw,?_⟩⟩;unfold chn;rw[e2];exact hq
variable {ρ:Env}{k:Nat}{w:World}{S:Value->World->Prop}
theorem run_new {F:Nat->Value}{ob:Obj}(h:opv P ops k ρ w=some (d,true,.ok (.value (F w.heap.size)) (w.alloc ob)))(hS:S (F w.heap.size) (w.alloc ob)):
 ∃o,ops[k]? =some o/\o.dst=d/\QP o (zS ops ρ)=true/\Runs P S ((execOp (ev ρ) o).run P w):=by
 obtain⟨o,ho,hd,hw,hr⟩:=yc h;exact⟨o,ho,hd,hw,by rw[hr];exact hS⟩
theorem run_ft {f:Nat}{args:Qd}{pr:World->Prop}{ok:Value->Qb->Prop}(hc:FnT P f args pr ok)(hp:pr w)(h:opv P ops k ρ w=some (d,true,.ok (.enter f args) w))(hS: ∀v T w',ok v T->St w.heap.size w w' T->S v w'):
 ∃o,ops[k]? =some o/\o.dst=d/\QP o (zS ops ρ)=true/\Runs P S ((execOp (ev ρ) o).run P w):=by
 obtain⟨o,ho,hd,hw,hr⟩:=yc h;refine⟨o,ho,hd,hw,?_⟩;rw[hr];refine Calls.mono (hc w hp) ?_;rintro e w' ⟨v,T,rfl,hok,hT⟩;exact⟨v,rfl,hS v T w' hok hT⟩
theorem run_sto {t:TypeId}{x y:Operand}{b off:Nat}{C C':Qd}{T:TypeId}{v:Value}(h:opk ops k ρ=some (none,true,.store t x y))(hx:ev ρ x=.pointer (some ⟨b,off,none⟩))(hy:ev ρ y=v)(hi:(P.info? t).map (·.size)=some v.cells.size)(h1:v.cells.all (·.oneCell')=true)
 (hh:w.heap[b]? =some (.cells C T)) (hs:off+v.cells.size<=C.size) (hC:(C.toList.take off++v.cells.toList++C.toList.drop (off+v.cells.size)).toArray=C') (hS:S undef (w.setRow b C')):
 ∃o,ops[k]? =some o/\o.dst=none/\QP o (zS ops ρ)=true/\Runs P S ((execOp (ev ρ) o).run P w):=by
 obtain⟨o,ho,hd,hw,hop⟩:=zM h;refine⟨o,ho,hd,hw,?_⟩;have hst:=vE (P:=P) (w:=w) hi h1 hh hs;rw[hC]at hst;have e2:(execOp (ev ρ) o).run P w=.ok .skip (w.setRow b C'):=by simp[execOp,hop,U2,RK,hx,hy,hst]
 rw[e2];exact hS
theorem run_of {op:Op}(h:opk ops k ρ=some (d,true,op))(hr: ∀o:Oper,o.op=op->∃v w',(execOp (ev ρ) o).run P w=.ok (.value v) w'/\S v w'):
 ∃o,ops[k]? =some o/\o.dst=d/\QP o (zS ops ρ)=true/\Runs P S ((execOp (ev ρ) o).run P w):=by
 obtain⟨o,ho,hd,hw,hop⟩:=zM h;obtain⟨v,w',e,hS⟩:=hr o hop;exact⟨o,ho,hd,hw,by rw[e];exact hS⟩
end
end D2
section
open D2 (Gh)
theorem D2.Now.back {ops:Array Oper}{i:Nat}{L:Nat->Bool}(h:D2.Now ops i L){a b:Nat}(hb:L b=true)(he:D2.edge ops a b=true):L a=true:=by
 cases ha:L a with
 | true=>rfl
 | false=>have:=h.2.2.no a b he ha;rw[hb]at this;cases this
theorem D2.Now.fwd {ops:Array Oper}{i:Nat}{L:Nat->Bool}(h:D2.Now ops i L){a b:Nat}(ha:L a=false)(he:D2.edge ops a b=true):L b=false:=h.2.2.no a b he ha
theorem D2.stg_no: ∀(ks:List Nat) (L:Nat->Bool) (i k:Nat),ks[i]? =some k->L k=false->D2.stg ks L<=i
 | [],_,_,_,h,_=>by simp at h
 | k::r,L,0,k',h,hk=>by
  obtain rfl:k=k':=by simpa using h
  unfold D2.stg;rw[hk];exact QH _
 | k::r,L,i+1,k',h,hk=>by
  have ih:=D2.stg_no r L i k' (by simpa using h) hk;unfold D2.stg;cases L k with
  | true=>exact Nat.succ_le_succ ih
  | false=>exact QU _
theorem D2.chn.getN {ks:List Nat}{Q:Nat->(Nat->Gh)->World->Prop}{L:Nat->Bool}{g:Nat->Gh}{w:World}{Φ:Prop}(h:D2.chn ks Q L g w)(i k:Nat)(hi:ks[i]? =some k)(hk:L k=false)(hQ: ∀j,j<=i->Q j g w->Φ):Φ:=hQ _ (D2.stg_no ks L i k hi hk) h
end
section
variable {P:Program}{N:Nat}{Q:Exit->Env->World->Prop}{ρ:Env}{w:World}{c:Code}
def zfX:Code->Bool | .scope _=>true | _=>false
def zfY:Code->Option Nat | .label i=>some i | _=>none
theorem zkE (h:zfX c=true):c=.scope (qR c):=by cases c<;>first | rfl | cases h
theorem zkF {i:Nat}(h:zfY c=some i):c=.label i:=by
 cases c<;>first | (cases h;done) | (cases h;rfl)
def ng (Q:Exit->Env->World->Prop):Exit->Env->World->Prop
 | .goto _,_,_=>False
 | e,ρ,w=>Q e ρ w
theorem zkG (hc:zfX c=true)(h:WP P N (qR c) (ng Q) ρ w):WP P N c Q ρ w:=by
 rw[zkE hc];intro a ha;refine wp_scope_straight (Go.wp_mono (h a ha) ?_);rintro e a' w' ⟨r,hr,q⟩;cases e<;>first | exact⟨r,hr,q⟩ | exact q.elim
theorem zkH (i:Nat)(hc:zfY c=some i)(h:Q .normal ρ w):WP P N c Q ρ w:=by rw[zkF hc];exact WP.label h
end
section
variable {P:Program}{N:Nat}{ops:Array Oper}{i:Nat}{r:List Nat}{K:Env->World->Prop}{ρ:Env}{w:World}{B:Nat}{w0:World}{l:Qb}
theorem zdj {K':Nat}(HS:St B w0 w l)(d:Option Nat)(t e bytes:Nat)(s x:Operand)(j k b bx n cap c:Nat)(cur Y:Qd)(xs:List Value)(h:opk ops i ρ=some (d,true,ym t s x))(hd:dOK d N=true)(ht:yp P t=some (e,K',bytes))
 (hs:ev ρ s=Qf b n cap) (hj:l[j]? =some (b,.cells cur e)) (hr:Rw K' cur cap n xs) (hx:ev ρ x=Qf bx 1 c) (hk:l[k]? =some (bx,.cells Y e))
 (hY:Y.size=K') (hone: ∀u∈Y.toList,u.oneCell'=true) (hb:(n+1)*bytes<=0x800000000000) (hm:n+1<=maxLen)
 (kk: ∀b' cap' cur' w',St B w0 w' (l.set j (b',.cells cur' e))->Rw K' cur' cap' (n+1) (xs++Y.toList)->WPs P N ops K r (zr ρ d (Qf b' (n+1) cap')) w'):WPs P N ops K (i::r) ρ w:=by
 obtain⟨o,ho,rfl,hw,hop⟩:=zM h;obtain⟨b',cap',cur',w',hrun,HS',hr'⟩:=zap HS ht hop hs hj hr hx hk hY hone hb hm;refine WPo.run ho hw fun a ha=>?_;rw[hrun,Rx];exact⟨_,ha.put _ (zZ hd) _,kk b' cap' cur' w' HS' hr'⟩
end
def putA (cur:Qd)(off:Nat)(v:Value):Qd:=(cur.toList.take off++v.cells.toList++cur.toList.drop (off+v.cells.size)).toArray
theorem Rw.putA {K:Nat}{cur:Qd}{cap n:Nat}{xs:List Value}(h:Rw K cur cap n xs)(off:Nat)(v:Value)(hle:off+v.cells.size<=n*K):
 off+v.cells.size<=cur.size/\Rw K (putA cur off v) cap n (xs.take off++v.cells.toList++xs.drop (off+v.cells.size)):=by
 have hcap:n*K<=cap*K:=Vi _ h.le;have hsz:=h.sz;have hA:cur.toList.length=cap*K:=by rw[Rv,hsz]
 have hx:xs=cur.toList.take (n*K):=h.take.symm;have hv:v.cells.toList.length=v.cells.size:=Rv;have e1:(cur.toList.take off).length=off:=by rw[Rb];omega
 refine⟨by omega,?_,h.le,h.max,?_,?_⟩
 ·rw[Qx,Qx,Rb,Uv,h.len,hv];omega
 ·unfold Go.Proofs.YtcjejfklpegobaaGreatDoor.putA;rw[V5,VK,Qx,e1,hv,Qy (l:=cur.toList.take off++v.cells.toList) (by rw[Qx,e1,hv];exact hle),hx,List.take_take,VX (by omega),List.drop_take]
 ·unfold Go.Proofs.YtcjejfklpegobaaGreatDoor.putA;rw[Ux,Qx,Qx,e1,Uv,hv,hA];omega
theorem zdk {X Z V:List Value}{off:Nat}(hX:X.length=off)(hZ:Z.length=V.length):(X++Z).take off++V++(X++Z).drop (off+V.length)=X++V:=by
 rw[VK,hX,Nat.sub_self,List.take_zero,QI,Qy (by omega),List.drop_append,hX,UE (by omega),List.nil_append,UE (by omega),QI]
def sS:Fl Qa where
 K:=1
 cs x:=[.string x]
 pos:=by decide
 len _:=rfl
 one _:=fun u hu=>by obtain rfl:=RY.1 hu;rfl
theorem yV {P:Program}{ρ:Env}{t e:TypeId}{K bytes:Nat}(ht:yp P t=some (e,K,bytes)){x y:Operand}{o:Oper}{kd:IntKind}{p:Qc}(b q n c k:Nat)(hp:p=some ⟨b,q,none⟩)(ho:o.op=.indexAddr t x y)(hx:ev ρ x=.slice p n c)(hy:ev ρ y=.int kd (k:Int))(hk:k<n):
 ∀w,(execOp (ev ρ) o).run P w=.ok (.value (.pointer (some ⟨b,q+k*K,none⟩))) w:=by
 subst hp;exact vJ ht b q n c k ho hx hy hk
section
variable {α:Type}{S:Fl α}
def AtF (S:Fl α)(w:World)(p:Qc)(n:Nat)(L:List α):Prop:=n=L.length/\(L=[]\/∃b off C T fz,p=some ⟨b,off,none⟩/\w.heap[b]? =some (.cells C T fz)/\xK S C off L)
theorem AtF.call {w w':World}{p:Qc}{n:Nat}{L:List α}(h:AtF S w p n L)(hb:Below w.heap.size w w'):AtF S w' p n L:=by
 obtain⟨h1,h2⟩:=h;refine⟨h1,h2.imp id ?_⟩;rintro⟨b,off,C,T,fz,e,hh,hr⟩;exact⟨b,off,C,T,fz,e,by rw[hb.block b (zo hh)];exact hh,hr⟩
theorem AtF.take {w:World}{p:Qc}{n:Nat}{L:List α}(h:AtF S w p n L)(k:Nat)(hk:k<=n):AtF S w p k (L.take k):=by
 obtain⟨h1,h2⟩:=h;refine⟨by rw[Rb];omega,?_⟩;rcases h2 with rfl|⟨b,off,C,T,fz,e,hh,hr⟩
 ·exact .inl (by simp)
 ·exact .inr ⟨b,off,C,T,fz,e,hh,hr.take k⟩
theorem yl.atF {ty:TypeId}{p:Qc}{n c:Nat}{row:Qb}{L:List α}(h:yl S ty p n c row L){B:Nat}{w0 w:World}{l:Qb}(hS:St B w0 w l)(hl: ∀e∈row,e∈l):AtF S w p n L:=by
 rcases h with⟨rfl,rfl,rfl,rfl,rfl⟩|⟨b,cur,rfl,rfl,hr⟩
 ·exact⟨rfl,.inl rfl⟩
 ·exact⟨hr.lenF.symm,.inr ⟨b,0,cur,ty,(0,0),rfl,(hS.own _ (hl _ (RY.2 rfl))).2,hr.rowAt⟩⟩
def qL (p:Qc)(n c:Nat):Prop:=(p=none/\n=0/\c=0)\/((∃a,p=some a)/\n<=c)
theorem qL.cut {p:Qc}{n c k:Nat}(h:qL p n c)(hk:k<=n):qL p k c:=by
 rcases h with⟨rfl,rfl,rfl⟩|⟨h1,h2⟩
 ·exact .inl ⟨rfl,by omega,rfl⟩
 ·exact .inr ⟨h1,by omega⟩
theorem zdl {P:Program}{ρ:Env}{t e:TypeId}{size bytes:Nat}(ht:yp P t=some (e,size,bytes)){x y:Operand}{o:Oper}{kd:IntKind}{p:Qc}{n c k:Nat}(h:qL p n c)(hk:k<=n)(ho:o.op=.slice t x none (some y) none)(hx:ev ρ x=.slice p n c)(hy:ev ρ y=.int kd (k:Int)):
 ∀w,(execOp (ev ρ) o).run P w=.ok (.value (.slice p k c)) w:=fun w=>by
 rcases h with⟨rfl,rfl,rfl⟩|⟨⟨a,rfl⟩,h2⟩
 ·obtain rfl:k=0:=by omega
  obtain⟨it,z,hu,hi,hz,hsz,hby,hzs,h0⟩:=qi ht;have hS:(sizeOf e).run P w=.ok size w:=by simp[sizeOf,typeInfo,hi,hsz]
  unfold execOp;simp[ho,hx,hy,UT,U9,Uu,UK,asIntOf,run_underlying hu,hS]
 ·exact zkC ht a n c k ho hx hy (by omega) w
theorem zdm {P:Program}{ρ:Env}{w w0:World}{B:Nat}{bx n c mc e:Nat}{p:Qc}{row Z:Qb}{M0:List α}{y:α}(HS:St B w0 w ((bx,.cells (S.cs y).toArray e)::(row++Z)))(hrow:yl S e p n c row M0)
 {t bytes:Nat} {s x:Operand} {o:Oper} (ht:yp P t=some (e,S.K,bytes)) (ho:o.op=ym t s x) (hs:ev ρ s=.slice p n c) (hx:ev ρ x=Qf bx 1 mc) (hb:(n+1)*bytes<=0x800000000000) (hm:n+1<=maxLen):
 ∃b' cap' cur' w',(execOp (ev ρ) o).run P w=.ok (.value (Qf b' (n+1) cap')) w'/\St B w0 w' ((b',.cells cur' e)::Z)/\Rw S.K cur' cap' (n+1) (cellsF S (M0++ [y])):=by
 have hY:(S.cs y).toArray.size=S.K:=by rw[Ux,S.len]
 have hone: ∀u∈(S.cs y).toArray.toList,u.oneCell'=true:=fun u hu=>S.one y u (by simpa using hu);rcases hrow with⟨rfl,rfl,rfl,rfl,rfl⟩ | ⟨b,cur,rfl,rfl,hrw⟩
 ·obtain⟨b',cap',cur',w',hrun,HS',hr'⟩:=zbk (k:=0) HS ht ho hs hx rfl hY hone hb;refine⟨b',cap',cur',w',hrun,HS'.sub (Qq _ (Qt ..)),?_⟩;rw[zfT];exact hr'
 ·obtain⟨b',cap',cur',w',hrun,HS',hr'⟩:=zap (j:=1) (k:=0) HS ht ho hs rfl hrw hx rfl hY hone hb hm;refine⟨b',cap',cur',w',hrun,HS'.sub (Qt ..),?_⟩;rw[zfT];exact hr'
end
section
variable {P:Program}{N:Nat}{ops:Array Oper}{K:Env->World->Prop}{ρ:Env}{w w0:World}{i B:Nat}{r:List Nat}{l:Qb}
theorem jT (HS:St B w0 w l)(d:Option Nat)(V:Nat->Value)(C:Qd)(T:TypeId)(h:opv P ops i ρ w=some (d,true,.ok (.value (V w.heap.size)) (w.alloc (.cells C T))))(hd:dOK d N=true)
 (kk: ∀b w',St B w0 w' ((b,.cells C T)::l)->WPs P N ops K r (zr ρ d (V b)) w'):WPs P N ops K (i::r) ρ w:=by
 obtain⟨o,ho,rfl,hw,hr⟩:=yc h;refine WPo.run ho hw fun a ha=>?_;rw[hr,Rx];exact⟨_,ha.put _ (zZ hd) _,kk w.heap.size _ (HS.alloc _)⟩
theorem xL {α:Type}{S:Fl α}{nb n c:Nat}{p:Qc}{row Z:Qb}{M:List α}{y:α}(d:Option Nat)(t e bytes:Nat)(s x:Operand)(HS:St B w0 w ((nb,.cells (S.cs y).toArray e)::(row++Z)))(hrow:yl S e p n c row M)
 (h:opk ops i ρ=some (d,true,ym t s x)) (hd:dOK d N=true) (ht:yp P t=some (e,S.K,bytes)) (hs:ev ρ s=.slice p n c) (hx:ev ρ x=Qf nb 1 1) (hb:(n+1)*bytes<=0x800000000000) (hm:n+1<=maxLen)
 (kk: ∀b' cap' cur' w',St B w0 w' ((b',.cells cur' e)::Z)->Rw S.K cur' cap' (n+1) (cellsF S (M++ [y]))->WPs P N ops K r (zr ρ d (Qf b' (n+1) cap')) w'):WPs P N ops K (i::r) ρ w:=by
 obtain⟨o,ho,rfl,hw,hop⟩:=zM h;obtain⟨b',cap',cur',w',hrun,HS',hr'⟩:=zdm HS hrow ht hop hs hx hb hm;refine WPo.run ho hw fun a ha=>?_;rw[hrun,Rx];exact⟨_,ha.put _ (zZ hd) _,kk b' cap' cur' w' HS' hr'⟩
end
theorem D2.run_val {P:Program}{ops:Array Oper}{d:Option Nat}{ρ:Env}{k:Nat}{w:World}{S:Value->World->Prop}{v:Value}(h:opv P ops k ρ w=some (d,true,.ok (.value v) w))(hS:S v w):
 ∃o,ops[k]? =some o/\o.dst=d/\QP o (zS ops ρ)=true/\D2.Runs P S ((execOp (ev ρ) o).run P w):=by
 obtain⟨o,ho,hd,hw,hr⟩:=yc h;exact⟨o,ho,hd,hw,by rw[hr];exact hS⟩
section
open Go.ChangeShapes Go.WideShapes Go.ChangeAt
theorem zkI {C:Qd}{o m:Nat}{l:List Value}(hl:l.length=m)(hm:0<m)(h: ∀j,j<m->C[o+j]? =l[j]?):o+m<=C.size/\C.extract o (o+m)=l.toArray:=by
 have hs:o+m<=C.size:=by
  have h1:=h (m-1) (by omega);rw[Qr (by omega)]at h1;have:=(Q1.1 h1).1;omega
 refine⟨hs,?_⟩;apply Array.toList_inj.1;apply UU;intro i;rw[RN,Va,V5];by_cases hi:i<m
 ·rw[if_pos (by omega),h i hi]
 ·rw[if_neg (by omega),Q6 (by omega)]
section
variable {H:Type}{enc:TypeId×Value->H}{W:World}{sp:Nat->Bool}{held:Bool}
theorem zkJ {a:Addr}{v:Value}(h:W.cell? a=some v):a=⟨a.block,a.off,none⟩/\∃C T fz,W.heap[a.block]? =some (.cells C T fz)/\C[a.off]? =some v:=by
 obtain⟨b,o,sp⟩:=a;unfold RH at h;split at h
 ·rename_i C T fz hh
  cases sp with
  | none=>simp at h;exact⟨rfl,C,T,fz,hh,h⟩
  | some x=>simp at h
 ·cases h
theorem zkK {b o:Nat}{C:Qd}{T:TypeId}{fz:Nat×Nat}{v:Option Value}(hh:W.heap[b]? =some (.cells C T fz))(h:W.cell? ⟨b,o,none⟩=v):C[o]? =v:=by
 unfold RH at h;simp only[hh]at h;simpa using h
theorem zdn {a:Int}(h:(Lit.int .u64 a).wf=true):∃n:Nat,n<0x10000000000000000/\a=((n:Nat):Int):=by
 have h2:0<=a/\a<0x10000000000000000:=by
  simp[Lit.wf,IntKind.min,IntKind.max,IntKind.signed,IntKind.bits]at h;omega
 exact⟨a.toNat,by omega,by omega⟩
theorem zdo {α:Type}{S:Fl α}{ok:α->Prop}{st et:TypeId}(hst:Tryz.prog.underlying st=some (.slice et))(hc:Tryz.prog.cellsOf et=S.K)(hone: ∀(fuel:Nat) (cs:List Value) (x:DataW H×List MemPlace),DataW.trod enc Tryz.prog W 0 sp held fuel et cs=some x->∃a:α,cs=S.cs a/\ok a)
 {fuel:Nat} {c0:Value} {x:DataW H×List MemPlace} (hf:DataW.trod enc Tryz.prog W 0 sp held fuel st [c0]=some x):
 ∃(q:Qc) (n c:Nat) (L:List α),c0=.slice q n c/\qL q n c/\(∀x∈L,ok x)/\AtF S W q n L:=by
 rcases DataW.trod_slice hst hf with⟨hc,hx⟩|⟨a,len0,cap0,elems,rest,n',rfl,hc',hx,_,hlc,hcm,hel,hels,_,_⟩
 ·obtain rfl:c0=.slice none 0 0:=by simpa using hc
  exact⟨none,0,0,[],rfl,.inl ⟨rfl,rfl,rfl⟩,(fun _ h=>nomatch h),rfl,.inl rfl⟩
 ·obtain rfl:c0=.slice (some a) len0 cap0:=by simpa using hc'
  have rows: ∀q,q<=len0->∃L:List α,L.length=q/\(∀x∈L,ok x)/\ ∀(i:Nat) (z:α),L[i]? =some z->W.cells? 0 (a.add (i*S.K)) S.K=some (S.cs z):=by
   intro q
   induction q with
   | zero=>exact fun _=>⟨[],rfl,(fun _ h=>nomatch h),fun i z h=>by simp at h⟩
   | succ q ihq=>
    intro hq;obtain⟨L,hL,hk,hcc⟩:=ihq (by omega);have hi:=hels q (by omega);rw[hc]at hi;have hlt:q<elems.length:=by omega
    rw[Qr hlt]at hi;obtain⟨cs',hcs,ht⟩:=Option.bind_eq_some_iff.1 hi;obtain⟨nd,rfl,hnd⟩:=hone n' cs' _ ht;refine⟨L++ [nd],by simp[hL],fun x hx=>?_,fun i z hz=>?_⟩
    ·rcases UI.1 hx with hx|hx
     ·exact hk x hx
     ·rw[RY.1 hx];exact hnd
    by_cases hiq:i<L.length
    ·rw[UD hiq]at hz;exact hcc i z hz
    ·rw[Uo (by omega)]at hz;have:i-L.length=0:=by
      have:=(QT.1 hz).1;simp at this;omega
     rw[this]at hz;simp at hz;subst hz;obtain rfl:i=q:=by omega
     exact hcs
  obtain⟨L,hL,hk,hcl⟩:=rows len0 (QH _);refine⟨some a,len0,cap0,L,rfl,.inr ⟨⟨a,rfl⟩,hlc⟩,hk,hL.symm,?_⟩;cases L with
  | nil=>exact .inl rfl
  | cons z0 L0=>
   have f0:=(World.cells?_some (hcl 0 z0 rfl)).2.2 0 S.pos;rw[Vf]at f0;have e0:(a.add 0).add 0=a:=rfl;rw[e0,Qr (by rw[S.len];exact S.pos)]at f0;obtain⟨ea,C,T,fz,hh,hC0⟩:=zkJ f0;refine .inr ⟨a.block,a.off,C,T,fz,congrArg some ea,hh,fun i z hz=>?_⟩;refine zkI (S.len z) S.pos fun j hj=>?_;have h9:=(World.cells?_some (hcl i z hz)).2.2 j hj;rw[ea,qh,qh]at h9;exact zkK hh h9
end
end
def Wd (x:Int):Prop:=0<=x/\x<0x10000000000000000
def Bt (c:Int):Prop:=0<=c/\c<=1
def w0 (n:Nat):Int:=((n%0x10000000000000000:Nat):Int)
def w1 (n:Nat):Int:=((n / 0x10000000000000000%0x10000000000000000:Nat):Int)
def w2 (n:Nat):Int:=((n / 0x100000000000000000000000000000000%0x10000000000000000:Nat):Int)
def w3 (n:Nat):Int:=((n / 0x1000000000000000000000000000000000000000000000000%0x10000000000000000:Nat):Int)
def big:Nat:=0x10000000000000000000000000000000000000000000000000000000000000000
def mk4 (a b c d:Int):Nat:=(a+0x10000000000000000*b+0x100000000000000000000000000000000*c+0x1000000000000000000000000000000000000000000000000*d).toNat
theorem wd0 (n:Nat):Wd (w0 n):=by unfold Wd w0;omega
theorem wd1 (n:Nat):Wd (w1 n):=by unfold Wd w1;omega
theorem wd2 (n:Nat):Wd (w2 n):=by unfold Wd w2;omega
theorem wd3 (n:Nat):Wd (w3 n):=by unfold Wd w3;omega
theorem zar {a b c d:Int}(ha:Wd a)(hb:Wd b)(hc:Wd c)(hd:Wd d):mk4 a b c d<big:=by
 unfold Wd at*;unfold mk4 big;omega
theorem zbl {a b c d:Int}(ha:Wd a)(hb:Wd b)(hc:Wd c)(hd:Wd d):w0 (mk4 a b c d)=a:=by
 unfold Wd at*;unfold mk4 w0;omega
theorem zbm {a b c d:Int}(ha:Wd a)(hb:Wd b)(hc:Wd c)(hd:Wd d):w1 (mk4 a b c d)=b:=by
 unfold Wd at*;unfold mk4 w1;omega
theorem zbn {a b c d:Int}(ha:Wd a)(hb:Wd b)(hc:Wd c)(hd:Wd d):w2 (mk4 a b c d)=c:=by
 unfold Wd at*;unfold mk4 w2;omega
theorem zbo {a b c d:Int}(ha:Wd a)(hb:Wd b)(hc:Wd c)(hd:Wd d):w3 (mk4 a b c d)=d:=by
 unfold Wd at*;unfold mk4 w3;omega
theorem kD (n:Nat)(h:n<big):(n:Int)=w0 n+0x10000000000000000*w1 n+0x100000000000000000000000000000000*w2 n+0x1000000000000000000000000000000000000000000000000*w3 n:=by
 unfold big at h;unfold w0 w1 w2 w3;omega
theorem zkL {a b c d:Int}(ha:Wd a)(hb:Wd b)(hc:Wd c)(hd:Wd d):∃n:Nat,n<big/\a=w0 n/\b=w1 n/\c=w2 n/\d=w3 n:=
 ⟨mk4 a b c d,zar ha hb hc hd,(zbl ha hb hc hd).symm,(zbm ha hb hc hd).symm,(zbn ha hb hc hd).symm,(zbo ha hb hc hd).symm⟩
theorem zfZ {a b c d:Int}{n:Nat}(ha:Wd a)(hb:Wd b)(hc:Wd c)(hd:Wd d)
 (h:(n:Int)=a+0x10000000000000000*b+0x100000000000000000000000000000000*c+0x1000000000000000000000000000000000000000000000000*d):
 a=w0 n/\b=w1 n/\c=w2 n/\d=w3 n:=by
 have e:n=mk4 a b c d:=by unfold mk4;omega
 subst e;exact⟨(zbl ha hb hc hd).symm,(zbm ha hb hc hd).symm,(zbn ha hb hc hd).symm,(zbo ha hb hc hd).symm⟩
theorem zkM {n m:Nat}(hn:n<big)(hm:m<big)(h0:w0 n=w0 m)(h1:w1 n=w1 m)(h2:w2 n=w2 m)(h3:w3 n=w3 m):n=m:=by
 have a:=kD n hn;have b:=kD m hm;rw[h0,h1,h2,h3]at a;omega
def us (x y c s d:Int):Prop:=x+y+c=s+0x10000000000000000*d/\Wd s/\Bt d
def ut (x y c s d:Int):Prop:=x-y-c=s-0x10000000000000000*d/\Wd s/\Bt d
def ov (a b:Nat):Bool:=decide (big<=a+b)
def sm (a b:Nat):Nat:=(a+b)%big
def lo (a b:Nat):Bool:=decide (a<b)
def df (a b:Nat):Nat:=(a+big-b)%big
theorem zkN {A B:Nat}(hA:A<big)(hB:B<big){s0 c0 s1 c1 s2 c2 s3 c3:Int}(h0:us (w0 A) (w0 B) 0 s0 c0)(h1:us (w1 A) (w1 B) c0 s1 c1)(h2:us (w2 A) (w2 B) c1 s2 c2)(h3:us (w3 A) (w3 B) c2 s3 c3):
 (s0=w0 (sm A B)/\s1=w1 (sm A B)/\s2=w2 (sm A B)/\s3=w3 (sm A B))/\(c3==1)=ov A B:=by
 have a:=kD A hA;have b:=kD B hB;obtain⟨e0,d0,_⟩:=h0;obtain⟨e1,d1,_⟩:=h1;obtain⟨e2,d2,_⟩:=h2;obtain⟨e3,d3,k3⟩:=h3;have key:(A:Int)+B=s0+0x10000000000000000*s1+0x100000000000000000000000000000000*s2+0x1000000000000000000000000000000000000000000000000*s3+0x10000000000000000000000000000000000000000000000000000000000000000*c3:=by omega
 have lt:=zar d0 d1 d2 d3;have em:((mk4 s0 s1 s2 s3:Nat):Int)=s0+0x10000000000000000*s1+0x100000000000000000000000000000000*s2+0x1000000000000000000000000000000000000000000000000*s3:=by
  unfold Wd at*;unfold mk4;omega
 constructor
 ·refine zfZ d0 d1 d2 d3 ?_;rw[<-em];unfold sm;unfold big at*;unfold Bt at*;omega
 ·unfold ov;rw[RM];simp only[beq_iff_eq,decide_eq_true_eq];unfold big at*;unfold Bt at*;omega
theorem zkO {A B:Nat}(hA:A<big)(hB:B<big){s0 c0 s1 c1 s2 c2 s3 c3:Int}(h0:ut (w0 A) (w0 B) 0 s0 c0)(h1:ut (w1 A) (w1 B) c0 s1 c1)(h2:ut (w2 A) (w2 B) c1 s2 c2)(h3:ut (w3 A) (w3 B) c2 s3 c3):
 (s0=w0 (df A B)/\s1=w1 (df A B)/\s2=w2 (df A B)/\s3=w3 (df A B))/\(c3==1)=lo A B:=by
 have a:=kD A hA;have b:=kD B hB;obtain⟨e0,d0,_⟩:=h0;obtain⟨e1,d1,_⟩:=h1;obtain⟨e2,d2,_⟩:=h2;obtain⟨e3,d3,k3⟩:=h3;have key:(A:Int)-B=s0+0x10000000000000000*s1+0x100000000000000000000000000000000*s2+0x1000000000000000000000000000000000000000000000000*s3-0x10000000000000000000000000000000000000000000000000000000000000000*c3:=by omega
 have lt:=zar d0 d1 d2 d3;have em:((mk4 s0 s1 s2 s3:Nat):Int)=s0+0x10000000000000000*s1+0x100000000000000000000000000000000*s2+0x1000000000000000000000000000000000000000000000000*s3:=by
  unfold Wd at*;unfold mk4;omega
 constructor
 ·refine zfZ d0 d1 d2 d3 ?_;rw[<-em];unfold df;unfold big at*;unfold Bt at*;omega
 ·unfold lo;rw[RM];simp only[beq_iff_eq,decide_eq_true_eq];unfold big at*;unfold Bt at*;omega
end Go.Proofs.YtcjejfklpegobaaGreatDoor
namespace Go.Proofs.Ec
section
variable {F:Type}[Lean.Grind.Field F]
structure zsx (b k m x1 y1 x2 y2 x3 y3:F):Prop where
 e1:x1+x2+x3=k*k
 e2:x1*x2+x1*x3+x2*x3= -2*k*m
 e3:x1*x2*x3=m*m-b
 l1:y1=k*x1+m
 l2:y2=k*x2+m
 l3:y3=k*x3+m
inductive Pt (F:Type) where
 | zero
 | pt (x y:F)
 deriving DecidableEq
variable [DecidableEq F]
end
end Go.Proofs.Ec
namespace Go.Proofs.YtcjejfklpegobaaGreatDoor
def PrP (p:Nat):Prop:=1<p/\ ∀d,d∣p->d=1\/d=p
theorem zkP {n:Nat} : ∀k,(∃d,1<d/\d<=k/\d∣n)->∃r,1<r/\r∣n/\ ∀d,1<d->d∣n->r<=d
 | 0,⟨d,h1,h2,_⟩=>by omega
 | k+1,⟨d,h1,h2,h3⟩=>by
  by_cases h:∃d,1<d/\d<=k/\d∣n
  ·exact zkP k h
  ·have hd:d=k+1:=by
    rcases Un k d with h' | h'
    ·omega
    ·exact absurd ⟨d,h1,h',h3⟩ h
   refine⟨d,h1,h3,fun e he hen=>?_⟩;rcases Un e d with h' | h'
   ·exact absurd ⟨e,he,by omega,hen⟩ h
   ·exact h'
def row (a r:Nat):Nat->List Nat
 | 0=>[]
 | n+1=>a*(n+1)%r::row a r n
end Go.Proofs.YtcjejfklpegobaaGreatDoor
namespace Go.Proofs.Zm
open Go.Proofs.YtcjejfklpegobaaGreatDoor
class PrM (M:Nat):Prop where
 pr:PrP M
 two:2<M
structure Zm (M:Nat) where
 v:Nat
 lt:v<M
section
variable {M:Nat}[hM:PrM M]
end
end Go.Proofs.Zm
namespace Go.Proofs.YtcjejfklpegobaaGreatDoor
section
open Go.ChangeShapes Go.WideShapes Go.ChangeAt
@[reducible] def uv (n:Nat):Value:=.agg #[.int .u64 (w0 n),.int .u64 (w1 n),.int .u64 (w2 n),.int .u64 (w3 n)]
theorem uu {x y c:Int}(hx:Wd x)(hy:Wd y)(hc:Bt c):∃s d,(∀w,(callFunc 180 #[.int .u64 x,.int .u64 y,.int .u64 c]).run Tryz.prog w=.ok (.value (.tuple #[.int .u64 s,.int .u64 d])) w)/\us x y c s d:=by
 obtain⟨hx0,hx1⟩:=hx;obtain⟨hy0,hy1⟩:=hy;obtain⟨hc0,hc1⟩:=hc;obtain⟨X,rfl⟩:=RO hx0;obtain⟨Y,rfl⟩:=RO hy0;obtain⟨C,rfl⟩:=RO hc0;refine⟨(((X+Y+C)%0x10000000000000000:Nat):Int),(((X+Y+C) / 0x10000000000000000:Nat):Int),fun w=>?_,?_⟩
 ·rw[run_callFunc_extern Tryz.func180 (by kernel_rfl) (by kernel_rfl) (by kernel_rfl) (e:=add64Entry) (by kernel_rfl),run_add64 X Y C (by omega) (by omega) (by omega) (by omega)];simp only[Result.andThen];congr 5<;>omega
 ·unfold us Wd Bt;omega
theorem zbp {x y c:Int}(hx:Wd x)(hy:Wd y)(hc:Bt c):∃s d,(∀w,(callFunc 177 #[.int .u64 x,.int .u64 y,.int .u64 c]).run Tryz.prog w=.ok (.value (.tuple #[.int .u64 s,.int .u64 d])) w)/\ut x y c s d:=by
 obtain⟨hx0,hx1⟩:=hx;obtain⟨hy0,hy1⟩:=hy;obtain⟨hc0,hc1⟩:=hc;obtain⟨X,rfl⟩:=RO hx0;obtain⟨Y,rfl⟩:=RO hy0;obtain⟨C,rfl⟩:=RO hc0;refine⟨(((X+0x10000000000000000-Y-C)%0x10000000000000000:Nat):Int),((if X<Y+C then 1 else 0:Nat):Int),fun w=>?_,?_⟩
 ·rw[run_callFunc_extern Tryz.func177 (by kernel_rfl) (by kernel_rfl) (by kernel_rfl) (e:=sub64Entry) (by kernel_rfl),run_sub64 X Y C (by omega)];rfl
 ·unfold ut Wd Bt;split<;>omega
theorem ix0 (x0 x1 x2 x3:Value)(w:World):(VN 50 (.agg #[x0,x1,x2,x3]) (.int .i64 0)).run Tryz.prog w=.ok x0 w:=by kernel_rfl
theorem ix1 (x0 x1 x2 x3:Value)(w:World):(VN 50 (.agg #[x0,x1,x2,x3]) (.int .i64 1)).run Tryz.prog w=.ok x1 w:=by kernel_rfl
theorem ix2 (x0 x1 x2 x3:Value)(w:World):(VN 50 (.agg #[x0,x1,x2,x3]) (.int .i64 2)).run Tryz.prog w=.ok x2 w:=by kernel_rfl
theorem ix3 (x0 x1 x2 x3:Value)(w:World):(VN 50 (.agg #[x0,x1,x2,x3]) (.int .i64 3)).run Tryz.prog w=.ok x3 w:=by kernel_rfl
theorem zkQ (n:Int)(w:World):Calls Tryz.prog 179 #[.int .u64 n] w fun e w'=>e=.returned (.agg #[.int .u64 n,wZ,wZ,wZ])/\Below w.heap.size w w':=by
 go_enter Tryz.func179,Tryz.ntmps179
 go_wp2
 go_returns
 exact⟨rfl,by go_grown⟩
theorem zkR (A B:Nat)(hA:A<big)(hB:B<big)(w:World):Calls Tryz.prog 174 #[uv A,uv B] w fun e w'=>e=.returned (.tuple #[uv (sm A B),.bool (ov A B)])/\Below w.heap.size w w':=by
 obtain⟨s0,c0,r0,e0⟩:=uu (wd0 A) (wd0 B) (c:=0) (by unfold Bt;omega);obtain⟨s1,c1,r1,e1⟩:=uu (wd1 A) (wd1 B) e0.2.2;obtain⟨s2,c2,r2,e2⟩:=uu (wd2 A) (wd2 B) e1.2.2;obtain⟨s3,c3,r3,e3⟩:=uu (wd3 A) (wd3 B) e2.2.2;obtain⟨⟨q0,q1,q2,q3⟩,q4⟩:=zkN hA hB e0 e1 e2 e3;clear e0 e1 e2 e3;unfold uv;rw[<-q0,<-q1,<-q2,<-q3,<-q4];clear q0 q1 q2 q3 q4;have i0:=ix0;have i1:=ix1;have i2:=ix2;have i3:=ix3
 go_enter Tryz.func174,Tryz.ntmps174
 go_wp2
 go_rounds 5
 go_returns
 exact⟨rfl,by go_grown⟩
theorem zkS (A B:Nat)(hA:A<big)(hB:B<big)(w:World):Calls Tryz.prog 172 #[uv A,uv B] w fun e w'=>e=.returned (.tuple #[uv (df A B),.bool (lo A B)])/\Below w.heap.size w w':=by
 obtain⟨s0,c0,r0,e0⟩:=zbp (wd0 A) (wd0 B) (c:=0) (by unfold Bt;omega);obtain⟨s1,c1,r1,e1⟩:=zbp (wd1 A) (wd1 B) e0.2.2;obtain⟨s2,c2,r2,e2⟩:=zbp (wd2 A) (wd2 B) e1.2.2;obtain⟨s3,c3,r3,e3⟩:=zbp (wd3 A) (wd3 B) e2.2.2;obtain⟨⟨q0,q1,q2,q3⟩,q4⟩:=zkO hA hB e0 e1 e2 e3;clear e0 e1 e2 e3;unfold uv;rw[<-q0,<-q1,<-q2,<-q3,<-q4];clear q0 q1 q2 q3 q4;have i0:=ix0;have i1:=ix1;have i2:=ix2;have i3:=ix3
 go_enter Tryz.func172,Tryz.ntmps172
 go_wp2
 go_rounds 5
 go_returns
 exact⟨rfl,by go_grown⟩
def mH (x y:Int):Int:=x*y / 0x10000000000000000
def mL (x y:Int):Int:=x*y%0x10000000000000000
theorem zkT (x y:Nat)(hx:x<0x10000000000000000)(hy:y<0x10000000000000000)(w:World):
 Calls Tryz.prog 185 #[.int .u64 x,.int .u64 y] w fun e w'=>e=.returned (.tuple #[.int .u64 ((x*y / 0x10000000000000000:Nat):Int),.int .u64 ((x*y%0x10000000000000000:Nat):Int)])/\w=w':=by
 obtain⟨bd,bt,bw,hhi⟩:=Lib.mul64_hi x y hx hy;have ba:=Lib.half_mul_le (a:=x / 4294967296) (b:=y / 4294967296) (by omega) (by omega);have bb:=Lib.half_mul_le (a:=x / 4294967296) (b:=y%4294967296) (by omega) (by omega);have bc:=Lib.half_mul_le (a:=x%4294967296) (b:=y / 4294967296) (by omega) (by omega);have ba':x / 4294967296*(y / 4294967296)<0x10000000000000000:=by omega
 have bb':x / 4294967296*(y%4294967296)<0x10000000000000000:=by omega
 have bc':x%4294967296*(y / 4294967296)<0x10000000000000000:=by omega
 have bh1:x / 4294967296*(y / 4294967296)+(x / 4294967296*(y%4294967296)+x%4294967296*(y%4294967296) / 4294967296) / 4294967296<0x10000000000000000:=by omega
 have bh:x / 4294967296*(y / 4294967296)+(x / 4294967296*(y%4294967296)+x%4294967296*(y%4294967296) / 4294967296) / 4294967296+((x / 4294967296*(y%4294967296)+x%4294967296*(y%4294967296) / 4294967296)%4294967296+x%4294967296*(y / 4294967296)) / 4294967296<0x10000000000000000:=by omega
 go_enter Tryz.func185,Tryz.ntmps185
 go_wp2
 simp only[Mul64.maskN x hx,Mul64.maskN y hy,Mul64.divN,Mul64.mulN,Mul64.addN,Mul64.wrapN _ bd,Mul64.wrapN _ bb',Mul64.wrapN _ bt,Mul64.maskN _ bt,Mul64.wrapN _ bc',Mul64.wrapN _ bw,Mul64.wrapN _ ba',Mul64.wrapN _ bh1,Mul64.wrapN _ bh,Mul64.wrapM (x*y)];rw[hhi]
 go_ret2
 exact⟨rfl,rfl⟩
theorem qA {x y:Int}(hx:Wd x)(hy:Wd y)(w:World):
 Calls Tryz.prog 185 #[.int .u64 x,.int .u64 y] w fun e w'=>e=.returned (.tuple #[.int .u64 (mH x y),.int .u64 (mL x y)])/\w=w':=by
 obtain⟨hx0,hx1⟩:=hx;obtain⟨hy0,hy1⟩:=hy;obtain⟨X,rfl⟩:=RO hx0;obtain⟨Y,rfl⟩:=RO hy0;have e1:mH X Y=((X*Y / 0x10000000000000000:Nat):Int):=by unfold mH;omega
 have e2:mL X Y=((X*Y%0x10000000000000000:Nat):Int):=by unfold mL;omega
 rw[e1,e2];exact zkT X Y (by omega) (by omega) w
def qr (x y p c s d:Int):Prop:=x*y+p+c=s+0x10000000000000000*d/\Wd s/\Wd d
theorem ji {x y p c:Int}(hx:Wd x)(hy:Wd y)(hp:Wd p)(hc:Wd c):∃l1 o1 l2 o2,
 (∀w,(callFunc 180 #[.int .u64 (mL x y),.int .u64 p,wZ]).run Tryz.prog w=.ok (.value (.tuple #[.int .u64 l1,.int .u64 o1])) w)/\
 (∀w,(callFunc 180 #[.int .u64 l1,.int .u64 c,wZ]).run Tryz.prog w=.ok (.value (.tuple #[.int .u64 l2,.int .u64 o2])) w)/\
 QA.wrap (mH x y+o1)=mH x y+o1/\QA.wrap (mH x y+o1+o2)=mH x y+o1+o2/\qr x y p c l2 (mH x y+o1+o2):=by
 have hm:0<=x*y/\x*y<=0xfffffffffffffffe0000000000000001:=by
  obtain⟨hx0,hx1⟩:=hx;obtain⟨hy0,hy1⟩:=hy;refine⟨Int.mul_nonneg hx0 hy0,?_⟩;have:=Int.mul_le_mul (show x<=0xffffffffffffffff by omega) (show y<=0xffffffffffffffff by omega) hy0 (by omega);omega
 have hL:Wd (mL x y):=by unfold Wd mL;omega
 obtain⟨l1,o1,r1,e1,d1,b1⟩:=uu hL hp (c:=0) (by unfold Bt;omega);obtain⟨l2,o2,r2,e2,d2,b2⟩:=uu d1 hc (c:=0) (by unfold Bt;omega);have k1:0<=mH x y+o1/\mH x y+o1+o2<=0xffffffffffffffff:=by
  unfold Wd Bt at*;unfold mH mL at*;omega
 have k2:0<=o2:=b2.1;refine⟨l1,o1,l2,o2,r1,r2,?_,?_,?_⟩
 ·rw[Wr];omega
 ·rw[Wr];omega
 ·refine⟨?_,d2,?_⟩
  ·unfold mH mL at*;omega
  ·unfold Wd;omega
def pl (A B:Nat):Nat:=A*B%big
def ph (A B:Nat):Nat:=A*B / big
theorem zbq {a b0 b1 b2 b3 p0 p1 p2 p3 q0 q1 q2 q3 c0 c1 c2 c3:Int}(h0:qr a b0 p0 0 q0 c0)(h1:qr a b1 p1 c0 q1 c1)(h2:qr a b2 p2 c1 q2 c2)(h3:qr a b3 p3 c2 q3 c3):
 a*(b0+0x10000000000000000*b1+0x100000000000000000000000000000000*b2+0x1000000000000000000000000000000000000000000000000*b3)+p0+0x10000000000000000*p1+0x100000000000000000000000000000000*p2+0x1000000000000000000000000000000000000000000000000*p3=q0+0x10000000000000000*q1+0x100000000000000000000000000000000*q2+0x1000000000000000000000000000000000000000000000000*q3+0x10000000000000000000000000000000000000000000000000000000000000000*c3:=by
 have e:a*(b0+0x10000000000000000*b1+0x100000000000000000000000000000000*b2+0x1000000000000000000000000000000000000000000000000*b3)=a*b0+0x10000000000000000*(a*b1)+0x100000000000000000000000000000000*(a*b2)+0x1000000000000000000000000000000000000000000000000*(a*b3):=by
  rw[Vw,Vw,Vw,Int.mul_left_comm a,Int.mul_left_comm a,Int.mul_left_comm a]
 obtain⟨e0,_,_⟩:=h0;obtain⟨e1,_,_⟩:=h1;obtain⟨e2,_,_⟩:=h2;obtain⟨e3,_,_⟩:=h3;rw[e];omega
theorem zkU {A B:Nat}(hA:A<big)(hB:B<big){q00 c00 q01 c01 q02 c02 q03 c03 q10 c10 q11 c11 q12 c12 q13 c13 q20 c20 q21 c21 q22 c22 q23 c23 q30 c30 q31 c31 q32 c32 q33 c33:Int}(m00:qr (w0 A) (w0 B) 0 0 q00 c00)(m01:qr (w0 A) (w1 B) 0 c00 q01 c01)(m02:qr (w0 A) (w2 B) 0 c01 q02 c02)(m03:qr (w0 A) (w3 B) 0 c02 q03 c03)(m10:qr (w1 A) (w0 B) q01 0 q10 c10)(m11:qr (w1 A) (w1 B) q02 c10 q11 c11)(m12:qr (w1 A) (w2 B) q03 c11 q12 c12)(m13:qr (w1 A) (w3 B) c03 c12 q13 c13)(m20:qr (w2 A) (w0 B) q11 0 q20 c20)(m21:qr (w2 A) (w1 B) q12 c20 q21 c21)(m22:qr (w2 A) (w2 B) q13 c21 q22 c22)(m23:qr (w2 A) (w3 B) c13 c22 q23 c23)(m30:qr (w3 A) (w0 B) q21 0 q30 c30)(m31:qr (w3 A) (w1 B) q22 c30 q31 c31)(m32:qr (w3 A) (w2 B) q23 c31 q32 c32)(m33:qr (w3 A) (w3 B) c23 c32 q33 c33):
 (q00=w0 (pl A B)/\q10=w1 (pl A B)/\q20=w2 (pl A B)/\q30=w3 (pl A B))/\q31=w0 (ph A B)/\q32=w1 (ph A B)/\q33=w2 (ph A B)/\c33=w3 (ph A B):=by
 have a:=kD A hA;have b:=kD B hB;have r0:=zbq m00 m01 m02 m03;have r1:=zbq m10 m11 m12 m13;have r2:=zbq m20 m21 m22 m23;have r3:=zbq m30 m31 m32 m33;rw[<-b]at r0 r1 r2 r3;have e:(A:Int)*B=w0 A*B+0x10000000000000000*(w1 A*B)+0x100000000000000000000000000000000*(w2 A*B)+0x1000000000000000000000000000000000000000000000000*(w3 A*B):=by
  conv=>lhs;rw[a]
  rw[Int.add_mul,Int.add_mul,Int.add_mul,V0,V0,V0]
 have d0:Wd q00:=m00.2.1;have d1:Wd q10:=m10.2.1;have d2:Wd q20:=m20.2.1;have d3:Wd q30:=m30.2.1;have d4:Wd q31:=m31.2.1;have d5:Wd q32:=m32.2.1;have d6:Wd q33:=m33.2.1;have d7:Wd c33:=m33.2.2;have key:(A:Int)*B=q00+0x10000000000000000*q10+0x100000000000000000000000000000000*q20+0x1000000000000000000000000000000000000000000000000*q30+0x10000000000000000000000000000000000000000000000000000000000000000*q31+0x100000000000000000000000000000000000000000000000000000000000000000000000000000000*q32+0x1000000000000000000000000000000000000000000000000000000000000000000000000000000000000000000000000*q33+0x10000000000000000000000000000000000000000000000000000000000000000000000000000000000000000000000000000000000000000*c33:=by omega
 clear r0 r1 r2 r3 e;have lt1:=zar d0 d1 d2 d3;have lt2:=zar d4 d5 d6 d7;have em1:((mk4 q00 q10 q20 q30:Nat):Int)=q00+0x10000000000000000*q10+0x100000000000000000000000000000000*q20+0x1000000000000000000000000000000000000000000000000*q30:=by unfold Wd at d0 d1 d2 d3;unfold mk4;omega
 have em2:((mk4 q31 q32 q33 c33:Nat):Int)=q31+0x10000000000000000*q32+0x100000000000000000000000000000000*q33+0x1000000000000000000000000000000000000000000000000*c33:=by unfold Wd at d4 d5 d6 d7;unfold mk4;omega
 have kn:A*B=mk4 q00 q10 q20 q30+0x10000000000000000000000000000000000000000000000000000000000000000*mk4 q31 q32 q33 c33:=by
  have:((A*B:Nat):Int)=(A:Int)*B:=UG A B;omega
 have k1:pl A B=mk4 q00 q10 q20 q30:=by unfold pl;unfold big at*;omega
 have k2:ph A B=mk4 q31 q32 q33 c33:=by unfold ph;unfold big at*;omega
 rw[k1,k2];exact⟨⟨(zbl d0 d1 d2 d3).symm,(zbm d0 d1 d2 d3).symm,(zbn d0 d1 d2 d3).symm,(zbo d0 d1 d2 d3).symm⟩,(zbl d4 d5 d6 d7).symm,(zbm d4 d5 d6 d7).symm,(zbn d4 d5 d6 d7).symm,(zbo d4 d5 d6 d7).symm⟩
end
def NR:Nat:=0xfffffffffffffffffffffffffffffffebaaedce6af48a03bbfd25e8cd0364141
def MOK (M:Nat):Prop:=M<big/\big<2*M
theorem jU:MOK NR:=by unfold MOK NR big;omega
def rs (L H M:Nat):Nat:=(L+big*H)%M
theorem zf0 {L H M:Nat}(h:MOK M):rs L H M<big:=Nat.lt_trans (RT _ (by unfold MOK big at h;omega)) h.1
theorem zbr {L H M:Nat}(h:MOK M):rs L H M<M:=RT _ (by unfold MOK big at h;omega)
theorem zdp (A B:Nat):sm A B<big:=RT _ (by decide)
theorem zdq (A B:Nat):df A B<big:=RT _ (by decide)
theorem zf1 (A B:Nat):pl A B<big:=RT _ (by decide)
theorem zkV {A B:Nat}(hA:A<big)(hB:B<big):ph A B<big:=by
 unfold ph;exact Nat.div_lt_of_lt_mul (Nat.mul_lt_mul'' hA hB)
theorem zkW (A B:Nat):A*B=pl A B+big*ph A B:=by unfold pl ph;exact(Nat.mod_add_div _ _).symm
theorem zkX {l h M:Nat}(hM:MOK M)(hl:l<big)(hh:h<big)(h0:h≠0):
 ∃h',(h'=if ov l (pl h (df 0 M)) then sm (ph h (df 0 M)) 1 else ph h (df 0 M))/\h'<big/\
  sm l (pl h (df 0 M))+big*h'+h*M=l+big*h:=by
 have hs:df 0 M=big-M:=by unfold df;unfold MOK at hM;rw[Q9,Rj];omega
 have hk:=zkW h (df 0 M);have hph:ph h (df 0 M)+1<big:=by
  have:ph h (df 0 M)<big-M:=by
   rw[hs];unfold ph;refine Nat.div_lt_of_lt_mul ?_;exact Nat.mul_lt_mul_of_pos_right hh (by unfold MOK at hM;omega)
  unfold MOK at hM;omega
 have hp:=zf1 h (df 0 M);have hmul:h*(big-M)+h*M=big*h:=by rw[<-Uw,Nat.sub_add_cancel (Nat.le_of_lt hM.1),VW]
 rw[<-hs]at hmul;refine⟨_,rfl,?_,?_⟩
 ·split
  ·exact zdp _ _
  ·omega
 ·generalize df 0 M=s at*;generalize pl h s=p at*;generalize ph h s=q at*;generalize h*s=hs2 at*;unfold ov sm;by_cases ho:big<=l+p
  ·rw[decide_eq_true ho];simp only[if_true];rw[Rj hph];have:(l+p)%big=l+p-big:=by rw[Nat.mod_eq_sub_mod ho,Rj (by omega)]
   rw[this,Uw,UV];omega
  ·rw[decide_eq_false ho];simp only[Uk,if_false];rw[Rj (by omega)];omega
theorem zf2 {l h l' h' M L H:Nat}(he:l'+big*h'+h*M=l+big*h)(hm:(l+big*h)%M=rs L H M):(l'+big*h')%M=rs L H M:=by
 rw[<-hm,<-he,Nat.add_mul_mod_self_right]
theorem zf3 {l h l' h' M:Nat}(hM:MOK M)(h0:h≠0)(he:l'+big*h'+h*M=l+big*h):l'+big*h'<l+big*h:=by
 have:0<h*M:=Nat.mul_pos (by omega) (by unfold MOK big at hM;omega);omega
theorem zkY {l M L H:Nat}(hM:MOK M)(hl:l<big)(hm:(l+big*0)%M=rs L H M)(hc:M<=l):df l M=rs L H M:=by
 rw[<-hm];unfold df MOK at*;have h1:(l+big-M)%big=l-M:=by
  have:l+big-M=(l-M)+big:=by omega
  rw[this,Vx,Rj (by omega)]
 rw[h1,U7,RL,Nat.mod_eq_sub_mod hc,Rj (by omega)]
theorem zkZ {l M L H:Nat}(hm:(l+big*0)%M=rs L H M)(hc: ¬M<=l):l=rs L H M:=by
 rw[<-hm,U7,RL,Rj (by omega)]
def qU (A B M:Nat):Nat:=(A%M+(M-B%M))%M
theorem zk0 {A B M:Nat}(hM:MOK M)(h:lo (rs A 0 M) (rs B 0 M)=true):sm (df (rs A 0 M) (rs B 0 M)) M=qU A B M:=by
 have ha:=zbr (L:=A) (H:=0) hM;have hb:=zbr (L:=B) (H:=0) hM;unfold lo at h;have h:=of_decide_eq_true h;have e1:rs A 0 M=A%M:=by unfold rs;rw[U7,RL]
 have e2:rs B 0 M=B%M:=by unfold rs;rw[U7,RL]
 rw[e1]at ha h⊢;rw[e2]at hb h⊢;unfold qU sm df;unfold MOK at hM;rw[Rj (show A%M+big-B%M<big by omega)];have:A%M+big-B%M+M=(A%M+(M-B%M))+big:=by omega
 rw[this,Vx,Rj (show A%M+(M-B%M)<big by omega),Rj (show A%M+(M-B%M)<M by omega)]
theorem zk1 {A B M:Nat}(hM:MOK M)(h:lo (rs A 0 M) (rs B 0 M)=false):df (rs A 0 M) (rs B 0 M)=qU A B M:=by
 have ha:=zbr (L:=A) (H:=0) hM;have hb:=zbr (L:=B) (H:=0) hM;unfold lo at h;have h:=of_decide_eq_false h;have e1:rs A 0 M=A%M:=by unfold rs;rw[U7,RL]
 have e2:rs B 0 M=B%M:=by unfold rs;rw[U7,RL]
 rw[e1]at ha h⊢;rw[e2]at hb h⊢;unfold qU df;unfold MOK at hM;have t1:A%M+big-B%M=(A%M-B%M)+big:=by omega
 have t2:A%M+(M-B%M)=(A%M-B%M)+M:=by omega
 rw[t1,t2,Vx,Vx,Rj (show A%M-B%M<big by omega),Rj (show A%M-B%M<M by omega)]
theorem zf4 {A B M:Nat}(h:MOK M):qU A B M<big:=Nat.lt_trans (RT _ (by unfold MOK big at h;omega)) h.1
end Go.Proofs.YtcjejfklpegobaaGreatDoor
namespace Go.Proofs.Ec
open Go.Proofs.YtcjejfklpegobaaGreatDoor Go.Proofs.Zm
section
variable {F:Type}[Lean.Grind.Field F][DecidableEq F]
structure zk2 (b:F):Prop where
 two:(2:F)≠0
 three:(3:F)≠0
 b:b≠0
variable {b:F}(g:zk2 b)
include g
end
structure Wp where
 X:Nat
 Y:Nat
 b:Bool
 Z:Nat
structure Wp.Ok (a:Wp):Prop where
 X:a.X<big
 Y:a.Y<big
 Z:a.Z<big
structure Pd where
 X:Nat
 Y:Nat
 b:Bool
 deriving DecidableEq
structure Pd.Ok (p:Pd):Prop where
 X:p.X<big
 Y:p.Y<big
end Go.Proofs.Ec
namespace Go.Proofs.YtcjejfklpegobaaGreatDoor
section
open Go.ChangeShapes Go.WideShapes Go.ChangeAt
theorem zk3 (A B:Nat)(hA:A<big)(hB:B<big)(w:World):Calls Tryz.prog 178 #[uv A,uv B] w fun e w'=>e=.returned (.tuple #[uv (pl A B),uv (ph A B)])/\Below w.heap.size w w':=by
 have z:Wd 0:=by unfold Wd;omega
 have a0:=wd0 A;have b0:=wd0 B;have a1:=wd1 A;have b1:=wd1 B;have a2:=wd2 A;have b2:=wd2 B;have a3:=wd3 A;have b3:=wd3 B;obtain⟨l00,o00,q00,u00,r00,t00,v00,x00,m00⟩:=ji a0 b0 z z;have dq00:=m00.2.1;have dc00:=m00.2.2;obtain⟨l01,o01,q01,u01,r01,t01,v01,x01,m01⟩:=ji a0 b1 z dc00;have dq01:=m01.2.1;have dc01:=m01.2.2;obtain⟨l02,o02,q02,u02,r02,t02,v02,x02,m02⟩:=ji a0 b2 z dc01;have dq02:=m02.2.1;have dc02:=m02.2.2;obtain⟨l03,o03,q03,u03,r03,t03,v03,x03,m03⟩:=ji a0 b3 z dc02;have dq03:=m03.2.1;have dc03:=m03.2.2;obtain⟨l10,o10,q10,u10,r10,t10,v10,x10,m10⟩:=ji a1 b0 dq01 z;have dq10:=m10.2.1;have dc10:=m10.2.2;obtain⟨l11,o11,q11,u11,r11,t11,v11,x11,m11⟩:=ji a1 b1 dq02 dc10;have dq11:=m11.2.1;have dc11:=m11.2.2;obtain⟨l12,o12,q12,u12,r12,t12,v12,x12,m12⟩:=ji a1 b2 dq03 dc11;have dq12:=m12.2.1;have dc12:=m12.2.2;obtain⟨l13,o13,q13,u13,r13,t13,v13,x13,m13⟩:=ji a1 b3 dc03 dc12;have dq13:=m13.2.1;have dc13:=m13.2.2;obtain⟨l20,o20,q20,u20,r20,t20,v20,x20,m20⟩:=ji a2 b0 dq11 z;have dq20:=m20.2.1;have dc20:=m20.2.2;obtain⟨l21,o21,q21,u21,r21,t21,v21,x21,m21⟩:=ji a2 b1 dq12 dc20;have dq21:=m21.2.1;have dc21:=m21.2.2;obtain⟨l22,o22,q22,u22,r22,t22,v22,x22,m22⟩:=ji a2 b2 dq13 dc21;have dq22:=m22.2.1;have dc22:=m22.2.2;obtain⟨l23,o23,q23,u23,r23,t23,v23,x23,m23⟩:=ji a2 b3 dc13 dc22;have dq23:=m23.2.1;have dc23:=m23.2.2;obtain⟨l30,o30,q30,u30,r30,t30,v30,x30,m30⟩:=ji a3 b0 dq21 z;have dq30:=m30.2.1;have dc30:=m30.2.2;obtain⟨l31,o31,q31,u31,r31,t31,v31,x31,m31⟩:=ji a3 b1 dq22 dc30;have dq31:=m31.2.1;have dc31:=m31.2.2;obtain⟨l32,o32,q32,u32,r32,t32,v32,x32,m32⟩:=ji a3 b2 dq23 dc31;have dq32:=m32.2.1;have dc32:=m32.2.2;obtain⟨l33,o33,q33,u33,r33,t33,v33,x33,m33⟩:=ji a3 b3 dc23 dc32;have dq33:=m33.2.1;have dc33:=m33.2.2;obtain⟨⟨g0,g1,g2,g3⟩,g4,g5,g6,g7⟩:=zkU hA hB m00 m01 m02 m03 m10 m11 m12 m13 m20 m21 m22 m23 m30 m31 m32 m33;clear m00 m01 m02 m03 m10 m11 m12 m13 m20 m21 m22 m23 m30 m31 m32 m33;unfold uv;rw[<-g0,<-g1,<-g2,<-g3,<-g4,<-g5,<-g6,<-g7];clear g0 g1 g2 g3 g4 g5 g6 g7;have i0:=ix0;have i1:=ix1;have i2:=ix2;have i3:=ix3
 go_enter Tryz.func178,Tryz.ntmps178
 go_wp2
 refine wp_loop_rounds 5 ?_;rw[rounds_succ]
 go_wp2
 refine wp_loop_rounds 5 ?_;rw[rounds_succ]
 go_wp2_with (go_at_call 185;refine(qA (by assumption) (by assumption) _).mono ?_;rintro e w' ⟨rfl,rfl⟩)
 rw[rounds_succ]
 go_wp2_with (go_at_call 185;refine(qA (by assumption) (by assumption) _).mono ?_;rintro e w' ⟨rfl,rfl⟩)
 rw[rounds_succ]
 go_wp2_with (go_at_call 185;refine(qA (by assumption) (by assumption) _).mono ?_;rintro e w' ⟨rfl,rfl⟩)
 rw[rounds_succ]
 go_wp2_with (go_at_call 185;refine(qA (by assumption) (by assumption) _).mono ?_;rintro e w' ⟨rfl,rfl⟩)
 rw[rounds_succ]
 go_wp2_with (go_at_call 185;refine(qA (by assumption) (by assumption) _).mono ?_;rintro e w' ⟨rfl,rfl⟩)
 rw[rounds_succ]
 go_wp2
 refine wp_loop_rounds 5 ?_;rw[rounds_succ]
 go_wp2_with (go_at_call 185;refine(qA (by assumption) (by assumption) _).mono ?_;rintro e w' ⟨rfl,rfl⟩)
 rw[rounds_succ]
 go_wp2_with (go_at_call 185;refine(qA (by assumption) (by assumption) _).mono ?_;rintro e w' ⟨rfl,rfl⟩)
 rw[rounds_succ]
 go_wp2_with (go_at_call 185;refine(qA (by assumption) (by assumption) _).mono ?_;rintro e w' ⟨rfl,rfl⟩)
 rw[rounds_succ]
 go_wp2_with (go_at_call 185;refine(qA (by assumption) (by assumption) _).mono ?_;rintro e w' ⟨rfl,rfl⟩)
 rw[rounds_succ]
 go_wp2_with (go_at_call 185;refine(qA (by assumption) (by assumption) _).mono ?_;rintro e w' ⟨rfl,rfl⟩)
 rw[rounds_succ]
 go_wp2
 refine wp_loop_rounds 5 ?_;rw[rounds_succ]
 go_wp2_with (go_at_call 185;refine(qA (by assumption) (by assumption) _).mono ?_;rintro e w' ⟨rfl,rfl⟩)
 rw[rounds_succ]
 go_wp2_with (go_at_call 185;refine(qA (by assumption) (by assumption) _).mono ?_;rintro e w' ⟨rfl,rfl⟩)
 rw[rounds_succ]
 go_wp2_with (go_at_call 185;refine(qA (by assumption) (by assumption) _).mono ?_;rintro e w' ⟨rfl,rfl⟩)
 rw[rounds_succ]
 go_wp2_with (go_at_call 185;refine(qA (by assumption) (by assumption) _).mono ?_;rintro e w' ⟨rfl,rfl⟩)
 rw[rounds_succ]
 go_wp2_with (go_at_call 185;refine(qA (by assumption) (by assumption) _).mono ?_;rintro e w' ⟨rfl,rfl⟩)
 rw[rounds_succ]
 go_wp2
 refine wp_loop_rounds 5 ?_;rw[rounds_succ]
 go_wp2_with (go_at_call 185;refine(qA (by assumption) (by assumption) _).mono ?_;rintro e w' ⟨rfl,rfl⟩)
 rw[rounds_succ]
 go_wp2_with (go_at_call 185;refine(qA (by assumption) (by assumption) _).mono ?_;rintro e w' ⟨rfl,rfl⟩)
 rw[rounds_succ]
 go_wp2_with (go_at_call 185;refine(qA (by assumption) (by assumption) _).mono ?_;rintro e w' ⟨rfl,rfl⟩)
 rw[rounds_succ]
 go_wp2_with (go_at_call 185;refine(qA (by assumption) (by assumption) _).mono ?_;rintro e w' ⟨rfl,rfl⟩)
 rw[rounds_succ]
 go_wp2_with (go_at_call 185;refine(qA (by assumption) (by assumption) _).mono ?_;rintro e w' ⟨rfl,rfl⟩)
 rw[rounds_succ]
 go_wp2
 go_region
 all_goals (go_wp2;go_returns;exact⟨rfl,by go_grown⟩)
end
section
open Go.ChangeShapes Go.WideShapes Go.ChangeAt Go.Shelf
def bt (A:Nat)(i:Int):Bool:=decide (0<=i)&&(decide (i<256)&&A.testBit i.toNat)
end
def len (A:Nat):Nat:=if A=0 then 0 else Nat.log2 A+1
section
open Go.ChangeShapes Go.WideShapes Go.ChangeAt
def cm (A B:Nat):Int:=if A=B then 0 else if A<B then-1 else 1
def cmK (A B k:Nat):Int:=cm (A%0x10000000000000000^k) (B%0x10000000000000000^k)
theorem zk4 (A B:Nat):cmK A B 0=0:=by unfold cmK cm;simp[Nat.mod_one]
theorem zk5 (a b x y W:Nat)(hx:x<W)(hy:y<W):cm (x+W*a) (y+W*b)=if a<b then-1 else if b<a then 1 else cm x y:=by
 unfold cm;rcases UW a b with h | h | h
 ·have:W*(a+1)<=W*b:=Vm _ h;rw[Uw]at this;rw[if_pos h,if_neg (by omega),if_pos (by omega)]
 ·subst h;have h1:(x+W*a=y+W*a)=(x=y):=by rw[eq_iff_iff];omega
  have h2:(x+W*a<y+W*a)=(x<y):=by rw[eq_iff_iff];omega
  simp only[h1,h2,Nat.lt_irrefl,if_false]
 ·have:W*(b+1)<=W*a:=Vm _ h;rw[Uw]at this;rw[if_neg (by omega),if_pos h,if_neg (by omega),if_neg (by omega)]
def wk (A k:Nat):Nat:=A / 0x10000000000000000^k%0x10000000000000000
theorem zk6 (A B k:Nat):cmK A B (k+1)=if wk A k<wk B k then-1 else if wk B k<wk A k then 1 else cmK A B k:=by
 unfold cmK wk;rw[RW,Nat.mod_mul,Nat.mod_mul,zk5 _ _ _ _ _ (RT _ (VF (by omega))) (RT _ (VF (by omega)))]
theorem zk7 (A B:Nat)(hA:A<big)(hB:B<big):cmK A B 4=cm A B:=by
 unfold cmK;have e:0x10000000000000000^4=big:=rfl;rw[e,Rj hA,Rj hB]
theorem wk0 (A:Nat):w0 A=((wk A 0:Nat):Int):=by unfold w0 wk;simp
theorem wk1 (A:Nat):w1 A=((wk A 1:Nat):Int):=rfl
theorem wk2 (A:Nat):w2 A=((wk A 2:Nat):Int):=rfl
theorem wk3 (A:Nat):w3 A=((wk A 3:Nat):Int):=rfl
theorem zk8 (A B:Nat)(hA:A<big)(hB:B<big)(w:World):Calls Tryz.prog 156 #[uv A,uv B] w fun e w'=>e=.returned (.int .i64 (cm A B))/\Below w.heap.size w w':=by
 have i0:=ix0;have i1:=ix1;have i2:=ix2;have i3:=ix3;have HF:=U3 (zk7 A B hA hB);unfold uv
 go_enter Tryz.func156,Tryz.ntmps156
 go_wp2
 go_loop [5,9] (fun r i=> ∃k:Nat,k<=4/\i=.int .i64 k/\r=.int .i64 (cmK A B k)) (fun _ i=>4-(intOf i).toNat)
 case atStart=>exact⟨0,by omega,rfl,by rw[zk4]⟩
 case round=>
  obtain⟨k,hk,rfl,rfl⟩:=hrel;have hn:=zk6 A B k;have hk5:k=0\/k=1\/k=2\/k=3\/k=4:=by omega
  rcases hk5 with rfl|rfl|rfl|rfl|rfl
  ·rcases UW (wk A 0) (wk B 0) with h|h|h
   ·rw[if_pos h]at hn;have HN:=U3 hn;have h1:w0 A<w0 B:=by rw[wk0,wk0];omega
    clear hn h
    go_wp2
    go_round
    case rel=>exact⟨1,by omega,by go_num,by rw[HN.out]⟩
    case measure=>simp[intOf]
   ·rw[if_neg (by omega),if_neg (by omega)]at hn;have HN:=U3 hn;have h1: ¬w0 A<w0 B:=by rw[wk0,wk0];omega
    have h2: ¬w0 B<w0 A:=by rw[wk0,wk0];omega
    clear hn h
    go_wp2
    go_round
    case rel=>exact⟨1,by omega,by go_num,by rw[HN.out]⟩
    case measure=>simp[intOf]
   ·rw[if_neg (by omega),if_pos h]at hn;have HN:=U3 hn;have h1: ¬w0 A<w0 B:=by rw[wk0,wk0];omega
    have h2:w0 B<w0 A:=by rw[wk0,wk0];omega
    clear hn h
    go_wp2
    go_round
    case rel=>exact⟨1,by omega,by go_num,by rw[HN.out]⟩
    case measure=>simp[intOf]
  ·rcases UW (wk A 1) (wk B 1) with h|h|h
   ·rw[if_pos h]at hn;have HN:=U3 hn;have h1:w1 A<w1 B:=by rw[wk1,wk1];omega
    clear hn h
    go_wp2
    go_round
    case rel=>exact⟨2,by omega,by go_num,by rw[HN.out]⟩
    case measure=>simp[intOf]
   ·rw[if_neg (by omega),if_neg (by omega)]at hn;have HN:=U3 hn;have h1: ¬w1 A<w1 B:=by rw[wk1,wk1];omega
    have h2: ¬w1 B<w1 A:=by rw[wk1,wk1];omega
    clear hn h
    go_wp2
    go_round
    case rel=>exact⟨2,by omega,by go_num,by rw[HN.out]⟩
    case measure=>simp[intOf]
   ·rw[if_neg (by omega),if_pos h]at hn;have HN:=U3 hn;have h1: ¬w1 A<w1 B:=by rw[wk1,wk1];omega
    have h2:w1 B<w1 A:=by rw[wk1,wk1];omega
    clear hn h
    go_wp2
    go_round
    case rel=>exact⟨2,by omega,by go_num,by rw[HN.out]⟩
    case measure=>simp[intOf]
  ·rcases UW (wk A 2) (wk B 2) with h|h|h
   ·rw[if_pos h]at hn;have HN:=U3 hn;have h1:w2 A<w2 B:=by rw[wk2,wk2];omega
    clear hn h
    go_wp2
    go_round
    case rel=>exact⟨3,by omega,by go_num,by rw[HN.out]⟩
    case measure=>simp[intOf]
   ·rw[if_neg (by omega),if_neg (by omega)]at hn;have HN:=U3 hn;have h1: ¬w2 A<w2 B:=by rw[wk2,wk2];omega
    have h2: ¬w2 B<w2 A:=by rw[wk2,wk2];omega
    clear hn h
    go_wp2
    go_round
    case rel=>exact⟨3,by omega,by go_num,by rw[HN.out]⟩
    case measure=>simp[intOf]
   ·rw[if_neg (by omega),if_pos h]at hn;have HN:=U3 hn;have h1: ¬w2 A<w2 B:=by rw[wk2,wk2];omega
    have h2:w2 B<w2 A:=by rw[wk2,wk2];omega
    clear hn h
    go_wp2
    go_round
    case rel=>exact⟨3,by omega,by go_num,by rw[HN.out]⟩
    case measure=>simp[intOf]
  ·rcases UW (wk A 3) (wk B 3) with h|h|h
   ·rw[if_pos h]at hn;have HN:=U3 hn;have h1:w3 A<w3 B:=by rw[wk3,wk3];omega
    clear hn h
    go_wp2
    go_round
    case rel=>exact⟨4,by omega,by go_num,by rw[HN.out]⟩
    case measure=>simp[intOf]
   ·rw[if_neg (by omega),if_neg (by omega)]at hn;have HN:=U3 hn;have h1: ¬w3 A<w3 B:=by rw[wk3,wk3];omega
    have h2: ¬w3 B<w3 A:=by rw[wk3,wk3];omega
    clear hn h
    go_wp2
    go_round
    case rel=>exact⟨4,by omega,by go_num,by rw[HN.out]⟩
    case measure=>simp[intOf]
   ·rw[if_neg (by omega),if_pos h]at hn;have HN:=U3 hn;have h1: ¬w3 A<w3 B:=by rw[wk3,wk3];omega
    have h2:w3 B<w3 A:=by rw[wk3,wk3];omega
    clear hn h
    go_wp2
    go_round
    case rel=>exact⟨4,by omega,by go_num,by rw[HN.out]⟩
    case measure=>simp[intOf]
  ·clear hn
   go_wp2
   go_ret
   exact⟨by rw[<-HF.out];rfl,by go_grown⟩
theorem zdr (d:Nat)(a0 a1 a2 a3 b0 b1 b2 b3:Int)(w:World):
 (Op.equalIn (d+2) 50 (.agg #[.int .u64 a0,.int .u64 a1,.int .u64 a2,.int .u64 a3]) (.agg #[.int .u64 b0,.int .u64 b1,.int .u64 b2,.int .u64 b3])).run Tryz.prog w
  =.ok (a0==b0&&(a1==b1&&(a2==b2&&a3==b3))) w:=by
 have e: ∀x y:Int,(Op.equalIn (d+1) 22 (.int .u64 x) (.int .u64 y)).run Tryz.prog w=.ok (x==y) w:=fun x y=>run_equalIn_int w d 22 .u64 .u64 x y Tryz.underlying22;have s:(sizeOf 22).run Tryz.prog w=.ok 1 w:=by kernel_rfl
 have p0: ∀x y z u:Int,(part 22 #[.int .u64 x,.int .u64 y,.int .u64 z,.int .u64 u] 0).run Tryz.prog w=.ok (.int .u64 x) w:=fun x y z u=>by kernel_rfl
 have p1: ∀x y z u:Int,(part 22 #[.int .u64 x,.int .u64 y,.int .u64 z,.int .u64 u] 1).run Tryz.prog w=.ok (.int .u64 y) w:=fun x y z u=>by kernel_rfl
 have p2: ∀x y z u:Int,(part 22 #[.int .u64 x,.int .u64 y,.int .u64 z,.int .u64 u] 2).run Tryz.prog w=.ok (.int .u64 z) w:=fun x y z u=>by kernel_rfl
 have p3: ∀x y z u:Int,(part 22 #[.int .u64 x,.int .u64 y,.int .u64 z,.int .u64 u] 3).run Tryz.prog w=.ok (.int .u64 u) w:=fun x y z u=>by kernel_rfl
 rw[Op.equalIn];simp only[Q7,run_underlying Tryz.underlying50,QJ,s,Std.Legacy.Range.forIn_eq_forIn_range',Std.Legacy.Range.size];simp only[show (4-0+1-1) / 1=4 from rfl,List.range',List.forIn_cons,List.forIn_nil];cases c0:(a0==b0)
 ·simp[p0,e,c0]
 ·cases c1:(a1==b1)
  ·simp[p0,p1,e,c0,c1]
  ·cases c2:(a2==b2)
   ·simp[p0,p1,p2,e,c0,c1,c2]
   ·cases c3:(a3==b3)
    ·simp[p0,p1,p2,p3,e,c0,c1,c2,c3]
    ·simp[p0,p1,p2,p3,e,c0,c1,c2,c3]
theorem eqU (a0 a1 a2 a3 b0 b1 b2 b3:Int)(w:World):
 (Op.equalIn 10000 50 (.agg #[.int .u64 a0,.int .u64 a1,.int .u64 a2,.int .u64 a3]) (.agg #[.int .u64 b0,.int .u64 b1,.int .u64 b2,.int .u64 b3])).run Tryz.prog w
  =.ok (a0==b0&&(a1==b1&&(a2==b2&&a3==b3))) w:=zdr 9998 a0 a1 a2 a3 b0 b1 b2 b3 w
end
theorem zds (A B:Nat)(hA:A<big)(hB:B<big):Fn Tryz.prog 174 #[uv A,uv B] (.tuple #[uv (sm A B),.bool (ov A B)]):=zkR A B hA hB
theorem zdt (A B:Nat)(hA:A<big)(hB:B<big):Fn Tryz.prog 172 #[uv A,uv B] (.tuple #[uv (df A B),.bool (lo A B)]):=zkS A B hA hB
theorem zk9 (A B:Nat)(hA:A<big)(hB:B<big):Fn Tryz.prog 178 #[uv A,uv B] (.tuple #[uv (pl A B),uv (ph A B)]):=zk3 A B hA hB
theorem zas (A B:Nat)(hA:A<big)(hB:B<big):Fn Tryz.prog 156 #[uv A,uv B] (.int .i64 (cm A B)):=zk8 A B hA hB
theorem zla (n:Nat)(h:n<0x10000000000000000):Fn Tryz.prog 179 #[.int .u64 (n:Int)] (uv n):=fun w=>(zkQ n w).mono fun e w' ⟨he,hb⟩=>⟨by
 rw[he];have e0:w0 n=(n:Int):=by unfold w0;omega
 have e1:w1 n=0:=by unfold w1;omega
 have e2:w2 n=0:=by unfold w2;omega
 have e3:w3 n=0:=by unfold w3;omega
 unfold uv;rw[e0,e1,e2,e3],hb⟩
theorem zdu {A B:Nat}(hA:A<big)(hB:B<big):(w0 A==w0 B&&(w1 A==w1 B&&(w2 A==w2 B&&w3 A==w3 B)))=decide (A=B):=by
 rw[RM];simp only[Bool.and_eq_true,beq_iff_eq,decide_eq_true_eq];exact⟨fun⟨a,b,c,d⟩=>zkM hA hB a b c d,fun h=>by subst h;exact⟨rfl,rfl,rfl,rfl⟩⟩
theorem vR {ρ:Env}(A B:Nat)(hA:A<big)(hB:B<big){x y:Operand}{o:Oper}(w:World)(ho:o.op=.binOp .neq 50 x y 50)(hx:ev ρ x=uv A)(hy:ev ρ y=uv B):
 (execOp (ev ρ) o).run Tryz.prog w=.ok (.value (.bool (!decide (A=B)))) w:=by
 have q:=eqU;have e:=zdu hA hB;unfold execOp;simp only[ho,hx,hy]
 go_simp
theorem zlb {A B:Nat}(h:B<=A):cm A B≥0:=by unfold cm;split<;>(try split)<;>omega
theorem zlc {A B:Nat}(h: ¬B<=A): ¬cm A B≥0:=by unfold cm;split<;>(try split)<;>omega
theorem zf5 (L H M:Nat)(hL:L<big)(hH:H<big)(hM:MOK M):Fn Tryz.prog 173 #[uv L,uv H,uv M] (uv (rs L H M)):=by
 refine zv [.cell 6 50] 54 Tryz.func173 fun w=>?_;have H0:=St.start w;refine zd [0,1,2,3] kr kr<|xU H0 (some 3) 50 (.tmp 0) (uv L) kr kr kr ?_;intro b1 w1 H1;clear H0;refine xU H1 (some 4) 50 (.tmp 1) (uv H) kr kr kr ?_;intro b2 w2 H2;clear H1;refine xU H2 (some 5) 50 (.tmp 2) (uv M) kr kr kr ?_;intro b3 w3 H3;clear H2;refine zA H3 (some 6) 50 (.agg #[wZ,wZ,wZ,wZ]) kr kr kr ?_;intro b4 w4 H4;clear H3;refine zb<|zd [0,1,2,3,4,5,6,7,8] kr kr<|zn (some 14) (.agg #[wZ,wZ,wZ,wZ])<|qf H4 (some 15) 50 (.tmp 5) 1 b3 (Qn (uv M)) 50 (0,0) kr kr kr kr kr<|kA H4 (some 16) 172 #[.agg #[wZ,wZ,wZ,wZ],uv M] (.tuple #[uv (df 0 M),.bool (lo 0 M)]) (zdt 0 M (by unfold big;omega) hM.1) (fun w=>by kernel_rfl) kr ?_;intro w5 H5;clear H4;refine zn (some 13) (.tuple #[uv (df 0 M),.bool (lo 0 M)])<|zn (some 17) (uv (df 0 M))<|zn (some 18) (.bool (lo 0 M))<|zA H5 (some 7) 50 (.agg #[wZ,wZ,wZ,wZ]) kr kr kr ?_;intro b5 w6 H6;clear H5;refine qT H6 0 [(b5,Qk (Qn (uv (df 0 M))) 50),(b4,Qk #[wZ,wZ,wZ,wZ] 50 (0,0)),(b3,Qk (Qn (uv M)) 50),(b2,Qk (Qn (uv H)) 50),(b1,Qk (Qn (uv L)) 50)] 50 (.tmp 7) (.tmp 17) b5 0 #[wZ,wZ,wZ,wZ] (Qn (uv (df 0 M))) 50 (uv (df 0 M)) kr kr kr kr kr kr (of_decide_eq_true kr) kr kr ?_;intro w7 H7;clear H6;refine zn (some 8) (.bool (lo 0 M))<|zb<|za kr<|zm 0 kr<|zO kr (fun m ρ x=> ∃(l:Nat) (h:Nat),l+big*h=m/\(l<big)/\(h<big)/\((l+big*h)%M=rs L H M)/\St w.heap.size w x [(b5,Qk (Qn (uv (df 0 M))) 50),(b4,Qk #[wZ,wZ,wZ,wZ] 50 (0,0)),(b3,Qk (Qn (uv M)) 50),(b2,Qk (Qn (uv h)) 50),(b1,Qk (Qn (uv l)) 50)]/\Is [(0,uv L),(1,uv H),(2,uv M),(3,Qe b1),(4,Qe b2),(5,Qe b3),(6,Qe b4),(7,Qe b5)] ρ) (L+big*H) ⟨L,H,rfl,hL,hH,rfl,H7,zl⟩ ?_;clear H7;rintro _ _ w8 ⟨l,h,rfl,hl,hh,hm,H8,_,rfl⟩;refine za kr<|zd [0,1,2] kr kr<|qf H8 (some 19) 50 (.tmp 4) 3 b2 (Qn (uv h)) 50 (0,0) kr kr kr kr kr<|zn (some 20) (.agg #[wZ,wZ,wZ,wZ]) ?_;by_cases hne:h=0
 ·refine zfe (some 21) _ (.bool (!decide (h=0))) (.bool false) kr (fun o w ho=>vR (x:=(.tmp 19)) (y:=(.tmp 20)) h 0 hh (by unfold big;omega) w ho kr kr) (by rw[decide_eq_true hne];rfl) kr ?_;have hm0:(l+big*0)%M=rs L H M:=by rw[hne]at hm;exact hm
  refine zb<|zi kr kr<|zE 0 kr<|wW<|za kr<|zd [0,1,2,3] kr kr<|qf H8 (some 43) 50 (.tmp 3) 4 b1 (Qn (uv l)) 50 (0,0) kr kr kr kr kr<|qf H8 (some 44) 50 (.tmp 5) 2 b3 (Qn (uv M)) 50 (0,0) kr kr kr kr kr<|kA H8 (some 45) 156 #[uv l,uv M] (.int .i64 (cm l M)) (zas l M hl hM.1) (fun w=>by kernel_rfl) kr ?_;intro w9 H9;clear H8;by_cases hc:M<=l
  ·refine qZ (some 46) (.bool (decide (0<=cm l M))) (.bool true) (fun w=>by kernel_rfl) (zc (decide_eq_true (zlb hc))) kr<|zb<|zh kr kr<|yu [0,1,2,3,4,5,6] kr<|qf H9 (some 48) 50 (.tmp 3) 4 b1 (Qn (uv l)) 50 (0,0) kr kr kr kr kr<|qf H9 (some 49) 50 (.tmp 5) 2 b3 (Qn (uv M)) 50 (0,0) kr kr kr kr kr<|kA H9 (some 50) 172 #[uv l,uv M] (.tuple #[uv (df l M),.bool (lo l M)]) (zdt l M hl hM.1) (fun w=>by kernel_rfl) kr ?_;intro w10 H10;clear H9;refine zn (some 47) (.tuple #[uv (df l M),.bool (lo l M)])<|zn (some 51) (uv (df l M))<|zn (some 52) (.bool (lo l M))<|qT H10 4 [(b5,Qk (Qn (uv (df 0 M))) 50),(b4,Qk #[wZ,wZ,wZ,wZ] 50 (0,0)),(b3,Qk (Qn (uv M)) 50),(b2,Qk (Qn (uv h)) 50),(b1,Qk (Qn (uv (df l M))) 50)] 50 (.tmp 3) (.tmp 51) b1 0 (Qn (uv l)) (Qn (uv (df l M))) 50 (uv (df l M)) kr kr kr kr kr kr (of_decide_eq_true kr) kr kr ?_;intro w11 H11;clear H10;refine zb<|wW<|zd [0,1] kr kr<|qf H11 (some 53) 50 (.tmp 3) 4 b1 (Qn (uv (df l M))) 50 (0,0) kr kr kr kr kr<|qT H11 1 [(b5,Qk (Qn (uv (df 0 M))) 50),(b4,Qk (Qn (uv (df l M))) 50),(b3,Qk (Qn (uv M)) 50),(b2,Qk (Qn (uv h)) 50),(b1,Qk (Qn (uv (df l M))) 50)] 50 (.tmp 6) (.tmp 53) b4 0 #[wZ,wZ,wZ,wZ] (Qn (uv (df l M))) 50 (uv (df l M)) kr kr kr kr kr kr (of_decide_eq_true kr) kr kr ?_;intro w12 H12;clear H11;refine zb<|zk kr<|wV ?_;refine⟨[uv (df l M)],(.agg (b:=b4) (Qn (uv (df l M))) 50 (0,0) kr (H12.get 1 kr) kr .nil),?_,H12.below⟩;exact congrArg uv (zkY hM hl hm0 hc)
  ·refine qZ (some 46) (.bool (decide (0<=cm l M))) (.bool false) (fun w=>by kernel_rfl) (zc (decide_eq_false (zlc hc))) kr<|zb<|zi kr kr<|zj kr<|wW<|zd [0,1] kr kr<|qf H9 (some 53) 50 (.tmp 3) 4 b1 (Qn (uv l)) 50 (0,0) kr kr kr kr kr<|qT H9 1 [(b5,Qk (Qn (uv (df 0 M))) 50),(b4,Qk (Qn (uv l)) 50),(b3,Qk (Qn (uv M)) 50),(b2,Qk (Qn (uv h)) 50),(b1,Qk (Qn (uv l)) 50)] 50 (.tmp 6) (.tmp 53) b4 0 #[wZ,wZ,wZ,wZ] (Qn (uv l)) 50 (uv l) kr kr kr kr kr kr (of_decide_eq_true kr) kr kr ?_;intro w13 H13;clear H9;refine zb<|zk kr<|wV ?_;refine⟨[uv l],(.agg (b:=b4) (Qn (uv l)) 50 (0,0) kr (H13.get 1 kr) kr .nil),?_,H13.below⟩;exact congrArg uv (zkZ hm0 hc)
 ·refine zfe (some 21) _ (.bool (!decide (h=0))) (.bool true) kr (fun o w ho=>vR (x:=(.tmp 19)) (y:=(.tmp 20)) h 0 hh (by unfold big;omega) w ho kr kr) (by rw[decide_eq_false hne];rfl) kr<|zb<|zh kr kr<|zj kr<|wW<|zm 1 kr<|zd [0,1,2,3,4,5,6,7,8,9] kr kr<|qf H8 (some 23) 50 (.tmp 4) 3 b2 (Qn (uv h)) 50 (0,0) kr kr kr kr kr<|qf H8 (some 24) 50 (.tmp 7) 0 b5 (Qn (uv (df 0 M))) 50 (0,0) kr kr kr kr kr<|kA H8 (some 25) 178 #[uv h,uv (df 0 M)] (.tuple #[uv (pl h (df 0 M)),uv (ph h (df 0 M))]) (zk9 h (df 0 M) hh (zdq _ _)) (fun w=>by kernel_rfl) kr ?_;intro w14 H14;clear H8;refine zn (some 22) (.tuple #[uv (pl h (df 0 M)),uv (ph h (df 0 M))])<|zn (some 26) (uv (pl h (df 0 M)))<|zn (some 27) (uv (ph h (df 0 M)))<|zA H14 (some 9) 50 (.agg #[wZ,wZ,wZ,wZ]) kr kr kr ?_;intro b6 w15 H15;clear H14;refine zA H15 (some 10) 50 (.agg #[wZ,wZ,wZ,wZ]) kr kr kr ?_;intro b7 w16 H16;clear H15;refine qT H16 1 [(b7,Qk #[wZ,wZ,wZ,wZ] 50 (0,0)),(b6,Qk (Qn (uv (pl h (df 0 M)))) 50 (0,0)),(b5,Qk (Qn (uv (df 0 M))) 50),(b4,Qk #[wZ,wZ,wZ,wZ] 50 (0,0)),(b3,Qk (Qn (uv M)) 50),(b2,Qk (Qn (uv h)) 50),(b1,Qk (Qn (uv l)) 50)] 50 (.tmp 9) (.tmp 26) b6 0 #[wZ,wZ,wZ,wZ] (Qn (uv (pl h (df 0 M)))) 50 (uv (pl h (df 0 M))) kr kr kr kr kr kr (of_decide_eq_true kr) kr kr ?_;intro w17 H17;clear H16;refine qT H17 0 [(b7,Qk (Qn (uv (ph h (df 0 M)))) 50 (0,0)),(b6,Qk (Qn (uv (pl h (df 0 M)))) 50 (0,0)),(b5,Qk (Qn (uv (df 0 M))) 50),(b4,Qk #[wZ,wZ,wZ,wZ] 50 (0,0)),(b3,Qk (Qn (uv M)) 50),(b2,Qk (Qn (uv h)) 50),(b1,Qk (Qn (uv l)) 50)] 50 (.tmp 10) (.tmp 27) b7 0 #[wZ,wZ,wZ,wZ] (Qn (uv (ph h (df 0 M)))) 50 (uv (ph h (df 0 M))) kr kr kr kr kr kr (of_decide_eq_true kr) kr kr ?_;intro w18 H18;clear H17;refine zb<|zd [0,1,2,3,4,5,6,7,8] kr kr<|qf H18 (some 29) 50 (.tmp 3) 6 b1 (Qn (uv l)) 50 (0,0) kr kr kr kr kr<|qf H18 (some 30) 50 (.tmp 9) 1 b6 (Qn (uv (pl h (df 0 M)))) 50 (0,0) kr kr kr kr kr<|kA H18 (some 31) 174 #[uv l,uv (pl h (df 0 M))] (.tuple #[uv (sm l (pl h (df 0 M))),.bool (ov l (pl h (df 0 M)))]) (zds l (pl h (df 0 M)) hl (zf1 _ _)) (fun w=>by kernel_rfl) kr ?_;intro w19 H19;clear H18;refine jv (some 28) (.tuple #[uv (sm l (pl h (df 0 M))),.bool (ov l (pl h (df 0 M)))]) (fun w=>by kernel_rfl) kr<|jv (some 32) (uv (sm l (pl h (df 0 M)))) (fun w=>by kernel_rfl) kr<|jv (some 33) (.bool (ov l (pl h (df 0 M)))) (fun w=>by kernel_rfl) kr<|zA H19 (some 11) 50 (.agg #[wZ,wZ,wZ,wZ]) kr kr kr ?_;intro b8 w20 H20;clear H19;refine qT H20 0 [(b8,Qk (Qn (uv (sm l (pl h (df 0 M))))) 50 (0,0)),(b7,Qk (Qn (uv (ph h (df 0 M)))) 50 (0,0)),(b6,Qk (Qn (uv (pl h (df 0 M)))) 50 (0,0)),(b5,Qk (Qn (uv (df 0 M))) 50),(b4,Qk #[wZ,wZ,wZ,wZ] 50 (0,0)),(b3,Qk (Qn (uv M)) 50),(b2,Qk (Qn (uv h)) 50),(b1,Qk (Qn (uv l)) 50)] 50 (.tmp 11) (.tmp 32) b8 0 #[wZ,wZ,wZ,wZ] (Qn (uv (sm l (pl h (df 0 M))))) 50 (uv (sm l (pl h (df 0 M)))) kr kr kr kr kr kr (of_decide_eq_true kr) kr kr ?_;intro w21 H21;clear H20;refine jv (some 12) (.bool (ov l (pl h (df 0 M)))) (fun w=>by kernel_rfl) kr<|zb<|g_sdraw [0,1,2,3] [((some 34),fun _=>uv (sm l (pl h (df 0 M)))),((some 35),fun _=>uv (ph h (df 0 M))),(none,fun _=>undef),(none,fun _=>undef)] (fun L g x=>St w.heap.size w x ([(b8,Qk (Qn (uv (sm l (pl h (df 0 M))))) 50 (0,0)),(b7,Qk (Qn (uv (ph h (df 0 M)))) 50 (0,0)),(b6,Qk (Qn (uv (pl h (df 0 M)))) 50 (0,0)),(b5,Qk (Qn (uv (df 0 M))) 50),(b4,Qk #[wZ,wZ,wZ,wZ] 50 (0,0)),(b3,Qk (Qn (uv M)) 50),(b2,(bif L 3 then Qk (Qn (uv (ph h (df 0 M)))) 50 (0,0) else Qk (Qn (uv h)) 50)),(b1,(bif L 2 then Qk (Qn (uv (sm l (pl h (df 0 M))))) 50 (0,0) else Qk (Qn (uv l)) 50))])) kr kr kr kr (H21.drew) ⟨?_,?_,?_,?_,trivial⟩ ?_
  ·exact vH 50 (.tmp 11) (fun _=>0) (fun g=>b8) (Qn (uv (sm l (pl h (df 0 M))))) 50 (0,0) (fun _ _ _ h=>h) (fun g=>by kernel_rfl) (fun g=>by kernel_rfl) (fun L g _=>by kernel_rfl) kr
  ·exact vH 50 (.tmp 10) (fun _=>1) (fun g=>b7) (Qn (uv (ph h (df 0 M)))) 50 (0,0) (fun _ _ _ h=>h) (fun g=>by kernel_rfl) (fun g=>by kernel_rfl) (fun L g _=>by kernel_rfl) kr
  ·exact gv_store (fun _=>7) 50 (.tmp 3) (.tmp 34) (fun g=>b1) 0 (Qn (uv l)) (Qn (uv (sm l (pl h (df 0 M))))) 50 (uv (sm l (pl h (df 0 M)))) (fun g=>by kernel_rfl) (fun g=>by kernel_rfl) (fun g=>by kernel_rfl) kr kr (of_decide_eq_true kr) kr (fun L g hN=>by (have hs2:L 2=false:=hN.1;show ([(b8,Qk (Qn (uv (sm l (pl h (df 0 M))))) 50 (0,0)),(b7,Qk (Qn (uv (ph h (df 0 M)))) 50 (0,0)),(b6,Qk (Qn (uv (pl h (df 0 M)))) 50 (0,0)),(b5,Qk (Qn (uv (df 0 M))) 50),(b4,Qk #[wZ,wZ,wZ,wZ] 50 (0,0)),(b3,Qk (Qn (uv M)) 50),(b2,(bif L 3 then Qk (Qn (uv (ph h (df 0 M)))) 50 (0,0) else Qk (Qn (uv h)) 50)),(b1,(bif L 2 then Qk (Qn (uv (sm l (pl h (df 0 M))))) 50 (0,0) else Qk (Qn (uv l)) 50))])[(fun _=>7) L]? =some (b1,Qk (Qn (uv l)) 50)/\([(b8,Qk (Qn (uv (sm l (pl h (df 0 M))))) 50 (0,0)),(b7,Qk (Qn (uv (ph h (df 0 M)))) 50 (0,0)),(b6,Qk (Qn (uv (pl h (df 0 M)))) 50 (0,0)),(b5,Qk (Qn (uv (df 0 M))) 50),(b4,Qk #[wZ,wZ,wZ,wZ] 50 (0,0)),(b3,Qk (Qn (uv M)) 50),(b2,(bif L 3 then Qk (Qn (uv (ph h (df 0 M)))) 50 (0,0) else Qk (Qn (uv h)) 50)),(b1,(bif L 2 then Qk (Qn (uv (sm l (pl h (df 0 M))))) 50 (0,0) else Qk (Qn (uv l)) 50))]).set ((fun _=>7) L) (b1,Qk (Qn (uv (sm l (pl h (df 0 M))))) 50 (0,0))=([(b8,Qk (Qn (uv (sm l (pl h (df 0 M))))) 50 (0,0)),(b7,Qk (Qn (uv (ph h (df 0 M)))) 50 (0,0)),(b6,Qk (Qn (uv (pl h (df 0 M)))) 50 (0,0)),(b5,Qk (Qn (uv (df 0 M))) 50),(b4,Qk #[wZ,wZ,wZ,wZ] 50 (0,0)),(b3,Qk (Qn (uv M)) 50),(b2,(bif L 3 then Qk (Qn (uv (ph h (df 0 M)))) 50 (0,0) else Qk (Qn (uv h)) 50)),(b1,(bif true then Qk (Qn (uv (sm l (pl h (df 0 M))))) 50 (0,0) else Qk (Qn (uv l)) 50))]);rw[hs2];exact⟨rfl,rfl⟩))
  ·exact gv_store (fun _=>6) 50 (.tmp 4) (.tmp 35) (fun g=>b2) 0 (Qn (uv h)) (Qn (uv (ph h (df 0 M)))) 50 (uv (ph h (df 0 M))) (fun g=>by kernel_rfl) (fun g=>by kernel_rfl) (fun g=>by kernel_rfl) kr kr (of_decide_eq_true kr) kr (fun L g hN=>by (have hs3:L 3=false:=hN.1;show ([(b8,Qk (Qn (uv (sm l (pl h (df 0 M))))) 50 (0,0)),(b7,Qk (Qn (uv (ph h (df 0 M)))) 50 (0,0)),(b6,Qk (Qn (uv (pl h (df 0 M)))) 50 (0,0)),(b5,Qk (Qn (uv (df 0 M))) 50),(b4,Qk #[wZ,wZ,wZ,wZ] 50 (0,0)),(b3,Qk (Qn (uv M)) 50),(b2,(bif L 3 then Qk (Qn (uv (ph h (df 0 M)))) 50 (0,0) else Qk (Qn (uv h)) 50)),(b1,(bif L 2 then Qk (Qn (uv (sm l (pl h (df 0 M))))) 50 (0,0) else Qk (Qn (uv l)) 50))])[(fun _=>6) L]? =some (b2,Qk (Qn (uv h)) 50)/\([(b8,Qk (Qn (uv (sm l (pl h (df 0 M))))) 50 (0,0)),(b7,Qk (Qn (uv (ph h (df 0 M)))) 50 (0,0)),(b6,Qk (Qn (uv (pl h (df 0 M)))) 50 (0,0)),(b5,Qk (Qn (uv (df 0 M))) 50),(b4,Qk #[wZ,wZ,wZ,wZ] 50 (0,0)),(b3,Qk (Qn (uv M)) 50),(b2,(bif L 3 then Qk (Qn (uv (ph h (df 0 M)))) 50 (0,0) else Qk (Qn (uv h)) 50)),(b1,(bif L 2 then Qk (Qn (uv (sm l (pl h (df 0 M))))) 50 (0,0) else Qk (Qn (uv l)) 50))]).set ((fun _=>6) L) (b2,Qk (Qn (uv (ph h (df 0 M)))) 50 (0,0))=([(b8,Qk (Qn (uv (sm l (pl h (df 0 M))))) 50 (0,0)),(b7,Qk (Qn (uv (ph h (df 0 M)))) 50 (0,0)),(b6,Qk (Qn (uv (pl h (df 0 M)))) 50 (0,0)),(b5,Qk (Qn (uv (df 0 M))) 50),(b4,Qk #[wZ,wZ,wZ,wZ] 50 (0,0)),(b3,Qk (Qn (uv M)) 50),(b2,(bif true then Qk (Qn (uv (ph h (df 0 M)))) 50 (0,0) else Qk (Qn (uv h)) 50)),(b1,(bif L 2 then Qk (Qn (uv (sm l (pl h (df 0 M))))) 50 (0,0) else Qk (Qn (uv l)) 50))]);rw[hs3];exact⟨rfl,rfl⟩))
  intro L0 g22 w22 hall HL;clear H21;have H22:St w.heap.size w w22 [(b8,Qk (Qn (uv (sm l (pl h (df 0 M))))) 50 (0,0)),(b7,Qk (Qn (uv (ph h (df 0 M)))) 50 (0,0)),(b6,Qk (Qn (uv (pl h (df 0 M)))) 50 (0,0)),(b5,Qk (Qn (uv (df 0 M))) 50),(b4,Qk #[wZ,wZ,wZ,wZ] 50 (0,0)),(b3,Qk (Qn (uv M)) 50),(b2,Qk (Qn (uv (ph h (df 0 M)))) 50 (0,0)),(b1,Qk (Qn (uv (sm l (pl h (df 0 M))))) 50 (0,0))]:=by have e2:=hall 2 (Qp kr);have e3:=hall 3 (Qp kr);simp only[e2,e3,cond_true]at HL;exact HL
  clear HL hall;refine zd [0] kr kr ?_;obtain⟨h',hh1,hh2,hfold⟩:=zkX hM hl hh hne;cases hov:ov l (pl h (df 0 M))
  ·rw[hov]at hh1;simp only[Uk,if_false]at hh1;subst hh1;refine zn (some 36) (.bool false)<|zb<|zi kr kr<|zj kr ?_;have HD1:St w.heap.size w w22 [(b5,Qk (Qn (uv (df 0 M))) 50),(b4,Qk #[wZ,wZ,wZ,wZ] 50 (0,0)),(b3,Qk (Qn (uv M)) 50),(b2,Qk (Qn (uv (ph h (df 0 M)))) 50 (0,0)),(b1,Qk (Qn (uv (sm l (pl h (df 0 M))))) 50 (0,0))]:=H22.sub (Qs _ (Qs _ (Qs _ (Qq _ (Qq _ (Qq _ (Qq _ (Qq _ QS))))))));show ∃m,_/\_;exact⟨_,(zf3 hM hne hfold),(sm l (pl h (df 0 M))),(ph h (df 0 M)),rfl,(zdp _ _),hh2,(zf2 hfold hm),HD1,zl⟩
  ·rw[hov]at hh1;simp only[if_true]at hh1;subst hh1;refine zn (some 36) (.bool true)<|zb<|zh kr kr<|g_draw0 [0,1,2,3,4,5,6] [((some 38),fun _=>uv (ph h (df 0 M))),((some 39),fun _=>uv 1),((some 40),fun _=>.tuple #[uv (sm (ph h (df 0 M)) 1),.bool (ov (ph h (df 0 M)) 1)]),((some 37),fun _=>.tuple #[uv (sm (ph h (df 0 M)) 1),.bool (ov (ph h (df 0 M)) 1)]),((some 41),fun _=>uv (sm (ph h (df 0 M)) 1)),((some 42),fun _=>.bool (ov (ph h (df 0 M)) 1)),(none,fun _=>undef)] (fun L g x=>St w.heap.size w x ([(b8,Qk (Qn (uv (sm l (pl h (df 0 M))))) 50 (0,0)),(b7,Qk (Qn (uv (ph h (df 0 M)))) 50 (0,0)),(b6,Qk (Qn (uv (pl h (df 0 M)))) 50 (0,0)),(b5,Qk (Qn (uv (df 0 M))) 50),(b4,Qk #[wZ,wZ,wZ,wZ] 50 (0,0)),(b3,Qk (Qn (uv M)) 50),(b2,(bif L 6 then Qk (Qn (uv (sm (ph h (df 0 M)) 1))) 50 (0,0) else Qk (Qn (uv (ph h (df 0 M)))) 50 (0,0))),(b1,Qk (Qn (uv (sm l (pl h (df 0 M))))) 50 (0,0))])) kr kr kr (H22.drew) ⟨?_,?_,?_,?_,?_,?_,?_,trivial⟩ ?_
   ·exact vH 50 (.tmp 10) (fun _=>1) (fun g=>b7) (Qn (uv (ph h (df 0 M)))) 50 (0,0) (fun _ _ _ h=>h) (fun g=>by kernel_rfl) (fun g=>by kernel_rfl) (fun L g _=>by kernel_rfl) kr
   ·exact gv_call 179 #[.int .u64 1] (fun _ _ _ h=>h) (zla 1 (by omega)) (fun g w=>by kernel_rfl)
   ·exact gv_call 174 #[uv (ph h (df 0 M)),uv 1] (fun _ _ _ h=>h) (zds (ph h (df 0 M)) 1 (zkV hh (zdq _ _)) (by unfold big;omega)) (fun g w=>by kernel_rfl)
   ·exact gv_val (fun _ _ _ h=>h) (fun g w=>by kernel_rfl)
   ·exact gv_val (fun _ _ _ h=>h) (fun g w=>by kernel_rfl)
   ·exact gv_val (fun _ _ _ h=>h) (fun g w=>by kernel_rfl)
   ·exact gv_store (fun _=>6) 50 (.tmp 4) (.tmp 41) (fun g=>b2) 0 (Qn (uv (ph h (df 0 M)))) (Qn (uv (sm (ph h (df 0 M)) 1))) 50 (uv (sm (ph h (df 0 M)) 1)) (fun g=>by kernel_rfl) (fun g=>by kernel_rfl) (fun g=>by kernel_rfl) kr kr (of_decide_eq_true kr) kr (fun L g hN=>by (have hs6:L 6=false:=hN.1;show ([(b8,Qk (Qn (uv (sm l (pl h (df 0 M))))) 50 (0,0)),(b7,Qk (Qn (uv (ph h (df 0 M)))) 50 (0,0)),(b6,Qk (Qn (uv (pl h (df 0 M)))) 50 (0,0)),(b5,Qk (Qn (uv (df 0 M))) 50),(b4,Qk #[wZ,wZ,wZ,wZ] 50 (0,0)),(b3,Qk (Qn (uv M)) 50),(b2,(bif L 6 then Qk (Qn (uv (sm (ph h (df 0 M)) 1))) 50 (0,0) else Qk (Qn (uv (ph h (df 0 M)))) 50 (0,0))),(b1,Qk (Qn (uv (sm l (pl h (df 0 M))))) 50 (0,0))])[(fun _=>6) L]? =some (b2,Qk (Qn (uv (ph h (df 0 M)))) 50 (0,0))/\([(b8,Qk (Qn (uv (sm l (pl h (df 0 M))))) 50 (0,0)),(b7,Qk (Qn (uv (ph h (df 0 M)))) 50 (0,0)),(b6,Qk (Qn (uv (pl h (df 0 M)))) 50 (0,0)),(b5,Qk (Qn (uv (df 0 M))) 50),(b4,Qk #[wZ,wZ,wZ,wZ] 50 (0,0)),(b3,Qk (Qn (uv M)) 50),(b2,(bif L 6 then Qk (Qn (uv (sm (ph h (df 0 M)) 1))) 50 (0,0) else Qk (Qn (uv (ph h (df 0 M)))) 50 (0,0))),(b1,Qk (Qn (uv (sm l (pl h (df 0 M))))) 50 (0,0))]).set ((fun _=>6) L) (b2,Qk (Qn (uv (sm (ph h (df 0 M)) 1))) 50 (0,0))=([(b8,Qk (Qn (uv (sm l (pl h (df 0 M))))) 50 (0,0)),(b7,Qk (Qn (uv (ph h (df 0 M)))) 50 (0,0)),(b6,Qk (Qn (uv (pl h (df 0 M)))) 50 (0,0)),(b5,Qk (Qn (uv (df 0 M))) 50),(b4,Qk #[wZ,wZ,wZ,wZ] 50 (0,0)),(b3,Qk (Qn (uv M)) 50),(b2,(bif true then Qk (Qn (uv (sm (ph h (df 0 M)) 1))) 50 (0,0) else Qk (Qn (uv (ph h (df 0 M)))) 50 (0,0))),(b1,Qk (Qn (uv (sm l (pl h (df 0 M))))) 50 (0,0))]);rw[hs6];exact⟨rfl,rfl⟩))
   intro L0 g23 w23 hall HL;clear H22;have H23:St w.heap.size w w23 [(b8,Qk (Qn (uv (sm l (pl h (df 0 M))))) 50 (0,0)),(b7,Qk (Qn (uv (ph h (df 0 M)))) 50 (0,0)),(b6,Qk (Qn (uv (pl h (df 0 M)))) 50 (0,0)),(b5,Qk (Qn (uv (df 0 M))) 50),(b4,Qk #[wZ,wZ,wZ,wZ] 50 (0,0)),(b3,Qk (Qn (uv M)) 50),(b2,Qk (Qn (uv (sm (ph h (df 0 M)) 1))) 50 (0,0)),(b1,Qk (Qn (uv (sm l (pl h (df 0 M))))) 50 (0,0))]:=by have e6:=hall 6 (Qp kr);simp only[e6,cond_true]at HL;exact HL
   clear HL hall;have HD2:St w.heap.size w w23 [(b5,Qk (Qn (uv (df 0 M))) 50),(b4,Qk #[wZ,wZ,wZ,wZ] 50 (0,0)),(b3,Qk (Qn (uv M)) 50),(b2,Qk (Qn (uv (sm (ph h (df 0 M)) 1))) 50 (0,0)),(b1,Qk (Qn (uv (sm l (pl h (df 0 M))))) 50 (0,0))]:=H23.sub (Qs _ (Qs _ (Qs _ (Qq _ (Qq _ (Qq _ (Qq _ (Qq _ QS))))))));show ∃m,_/\_;exact⟨_,(zf3 hM hne hfold),(sm l (pl h (df 0 M))),(sm (ph h (df 0 M)) 1),rfl,(zdp _ _),hh2,(zf2 hfold hm),HD2,zl⟩
theorem zbs:Fn Tryz.prog 155 #[.int .i64 1] (.tuple #[uv NR,.int .i64 0]):=by
 refine zv [.cell 2 50,.tmp 3] 12 Tryz.func155 fun w=>?_;have H0:=St.start w;refine zd [0,1] kr kr<|zA H0 (some 2) 50 (.agg #[wZ,wZ,wZ,wZ]) kr kr kr ?_;intro b1 w1 H1;clear H0;refine zn (some 3) (.int .i64 0)<|zb<|za kr<|zd [0] kr kr<|zn (some 4) (.int .i64 1)<|zb<|zm 0 kr<|zd [0,1] kr kr<|zn (some 6) (.bool false)<|zn (some 5) (.bool false)<|zb<|zi kr kr<|zd [0,1] kr kr<|zn (some 9) (.bool true)<|zn (some 8) (.bool true)<|zb<|zh kr kr<|zd [0,1,2] kr kr<|zn (some 10) (.agg #[.int .u64 0xbfd25e8cd0364141,.int .u64 0xbaaedce6af48a03b,.int .u64 0xfffffffffffffffe,.int .u64 0xffffffffffffffff])<|qT H1 0 [(b1,Qk #[.int .u64 0xbfd25e8cd0364141,.int .u64 0xbaaedce6af48a03b,.int .u64 0xfffffffffffffffe,.int .u64 0xffffffffffffffff] 50 (0,0))] 50 (.tmp 2) (.tmp 10) b1 0 #[wZ,wZ,wZ,wZ] #[.int .u64 0xbfd25e8cd0364141,.int .u64 0xbaaedce6af48a03b,.int .u64 0xfffffffffffffffe,.int .u64 0xffffffffffffffff] 50 (.agg #[.int .u64 0xbfd25e8cd0364141,.int .u64 0xbaaedce6af48a03b,.int .u64 0xfffffffffffffffe,.int .u64 0xffffffffffffffff]) kr kr kr kr kr kr (of_decide_eq_true kr) kr kr ?_;intro w2 H2;clear H1;refine zn (some 3) (.int .i64 0)<|zb<|zk kr<|wV ?_;refine⟨[.agg #[.int .u64 0xbfd25e8cd0364141,.int .u64 0xbaaedce6af48a03b,.int .u64 0xfffffffffffffffe,.int .u64 0xffffffffffffffff],.int .i64 0],(.agg (b:=b1) #[.int .u64 0xbfd25e8cd0364141,.int .u64 0xbaaedce6af48a03b,.int .u64 0xfffffffffffffffe,.int .u64 0xffffffffffffffff] 50 (0,0) kr (H2.get 0 kr) kr (.tmp (.int .i64 0) kr .nil)),?_,H2.below⟩
 kernel_rfl
theorem zld (A B:Nat)(hA:A<big)(hB:B<big):Fn Tryz.prog 167 #[uv A,uv B,.int .i64 1] (.tuple #[uv (qU A B NR),.int .i64 0]):=by
 refine zv [.cell 6 50,.tmp 7] 41 Tryz.func167 fun w=>?_;have H0:=St.start w;refine zd [0,1,2,3] kr kr<|xU H0 (some 3) 50 (.tmp 0) (uv A) kr kr kr ?_;intro b1 w1 H1;clear H0;refine xU H1 (some 4) 50 (.tmp 1) (uv B) kr kr kr ?_;intro b2 w2 H2;clear H1;refine zA H2 (some 6) 50 (.agg #[wZ,wZ,wZ,wZ]) kr kr kr ?_;intro b3 w3 H3;clear H2;refine zn (some 7) (.int .i64 0)<|zb<|zd [0,1,2,3,4,5,6,7] kr kr<|zn (some 13) (.int .i64 1)<|kA H3 (some 14) 155 #[.int .i64 1] (.tuple #[uv NR,.int .i64 0]) zbs (fun w=>by kernel_rfl) kr ?_;intro w4 H4;clear H3;refine zn (some 12) (.tuple #[uv NR,.int .i64 0])<|zn (some 15) (uv NR)<|zn (some 16) (.int .i64 0)<|zA H4 (some 8) 50 (.agg #[wZ,wZ,wZ,wZ]) kr kr kr ?_;intro b4 w5 H5;clear H4;refine qT H5 0 [(b4,Qk (Qn (uv NR)) 50),(b3,Qk #[wZ,wZ,wZ,wZ] 50 (0,0)),(b2,Qk (Qn (uv B)) 50),(b1,Qk (Qn (uv A)) 50)] 50 (.tmp 8) (.tmp 15) b4 0 #[wZ,wZ,wZ,wZ] (Qn (uv NR)) 50 (uv NR) kr kr kr kr kr kr (of_decide_eq_true kr) kr kr ?_;intro w6 H6;clear H5;refine zn (some 9) (.int .i64 0)<|zb<|za kr<|zd [0,1] kr kr<|zn (some 17) (.int .i64 0)<|zn (some 18) (.bool false)<|zb<|zi kr kr<|zj kr<|wW<|g_sdraw [0,1,2,3,4,5,6,7,8,9,10,11,12,13,14] [((some 22),fun _=>uv A),((some 23),fun _=>.agg #[wZ,wZ,wZ,wZ]),((some 24),fun _=>uv NR),((some 25),fun _=>uv (rs A 0 NR)),((some 26),fun _=>uv B),((some 27),fun _=>.agg #[wZ,wZ,wZ,wZ]),((some 28),fun _=>uv NR),((some 29),fun _=>uv (rs B 0 NR)),((some 30),fun _=>.tuple #[uv (df (rs A 0 NR) (rs B 0 NR)),.bool (lo (rs A 0 NR) (rs B 0 NR))]),((some 21),fun _=>.tuple #[uv (df (rs A 0 NR) (rs B 0 NR)),.bool (lo (rs A 0 NR) (rs B 0 NR))]),((some 31),fun _=>uv (df (rs A 0 NR) (rs B 0 NR))),((some 32),fun _=>.bool (lo (rs A 0 NR) (rs B 0 NR))),((some 10),fun b=>Qe b),(none,fun _=>undef),((some 11),fun _=>.bool (lo (rs A 0 NR) (rs B 0 NR)))] (fun L g x=>St w.heap.size w x ([(b4,Qk (Qn (uv NR)) 50),(b3,Qk #[wZ,wZ,wZ,wZ] 50 (0,0)),(b2,Qk (Qn (uv B)) 50),(b1,Qk (Qn (uv A)) 50)]++(bif L 12 then [(g 12,(bif L 13 then Qk (Qn (uv (df (rs A 0 NR) (rs B 0 NR)))) 50 (0,0) else Qk #[wZ,wZ,wZ,wZ] 50 (0,0)))] else []))) kr kr kr kr (H6.drew) ⟨?_,?_,?_,?_,?_,?_,?_,?_,?_,?_,?_,?_,?_,?_,?_,trivial⟩ ?_
 ·exact vH 50 (.tmp 3) (fun _=>3) (fun g=>b1) (Qn (uv A)) 50 (0,0) (fun _ _ _ h=>h) (fun g=>by kernel_rfl) (fun g=>by kernel_rfl) (fun L g _=>by kernel_rfl) kr
 ·exact gv_val (fun _ _ _ h=>h) (fun g w=>by kernel_rfl)
 ·exact vH 50 (.tmp 8) (fun _=>0) (fun g=>b4) (Qn (uv NR)) 50 (0,0) (fun _ _ _ h=>h) (fun g=>by kernel_rfl) (fun g=>by kernel_rfl) (fun L g _=>by kernel_rfl) kr
 ·exact gv_call 173 #[uv A,.agg #[wZ,wZ,wZ,wZ],uv NR] (fun _ _ _ h=>h) (zf5 A 0 NR hA (by unfold big;omega) jU) (fun g w=>by kernel_rfl)
 ·exact vH 50 (.tmp 4) (fun _=>2) (fun g=>b2) (Qn (uv B)) 50 (0,0) (fun _ _ _ h=>h) (fun g=>by kernel_rfl) (fun g=>by kernel_rfl) (fun L g _=>by kernel_rfl) kr
 ·exact gv_val (fun _ _ _ h=>h) (fun g w=>by kernel_rfl)
 ·exact vH 50 (.tmp 8) (fun _=>0) (fun g=>b4) (Qn (uv NR)) 50 (0,0) (fun _ _ _ h=>h) (fun g=>by kernel_rfl) (fun g=>by kernel_rfl) (fun L g _=>by kernel_rfl) kr
 ·exact gv_call 173 #[uv B,.agg #[wZ,wZ,wZ,wZ],uv NR] (fun _ _ _ h=>h) (zf5 B 0 NR hB (by unfold big;omega) jU) (fun g w=>by kernel_rfl)
 ·exact gv_call 172 #[uv (rs A 0 NR),uv (rs B 0 NR)] (fun _ _ _ h=>h) (zdt (rs A 0 NR) (rs B 0 NR) (zf0 jU) (zf0 jU)) (fun g w=>by kernel_rfl)
 ·exact gv_val (fun _ _ _ h=>h) (fun g w=>by kernel_rfl)
 ·exact gv_val (fun _ _ _ h=>h) (fun g w=>by kernel_rfl)
 ·exact gv_val (fun _ _ _ h=>h) (fun g w=>by kernel_rfl)
 ·exact zj3 50 (.agg #[wZ,wZ,wZ,wZ]) (fun L g=>[(b4,Qk (Qn (uv NR)) 50),(b3,Qk #[wZ,wZ,wZ,wZ] 50 (0,0)),(b2,Qk (Qn (uv B)) 50),(b1,Qk (Qn (uv A)) 50)]) (fun L g=>([]:Qb)) (fun g=>by kernel_rfl) kr (fun L g hN=>by (have hn:L 12=false:=hN.1;show ([(b4,Qk (Qn (uv NR)) 50),(b3,Qk #[wZ,wZ,wZ,wZ] 50 (0,0)),(b2,Qk (Qn (uv B)) 50),(b1,Qk (Qn (uv A)) 50)]++(bif L 12 then [(g 12,(bif L 13 then Qk (Qn (uv (df (rs A 0 NR) (rs B 0 NR)))) 50 (0,0) else Qk #[wZ,wZ,wZ,wZ] 50 (0,0)))] else []))=([(b4,Qk (Qn (uv NR)) 50),(b3,Qk #[wZ,wZ,wZ,wZ] 50 (0,0)),(b2,Qk (Qn (uv B)) 50),(b1,Qk (Qn (uv A)) 50)])++(([]:Qb));rw[hn];rfl)) (fun L g b hN=>by (have hz:L 13=false:=hN.2.2.no 12 13 kr hN.1;show ([(b4,Qk (Qn (uv NR)) 50),(b3,Qk #[wZ,wZ,wZ,wZ] 50 (0,0)),(b2,Qk (Qn (uv B)) 50),(b1,Qk (Qn (uv A)) 50)])++(b,Qk #[wZ,wZ,wZ,wZ] 50 (0,0))::(([]:Qb))=([(b4,Qk (Qn (uv NR)) 50),(b3,Qk #[wZ,wZ,wZ,wZ] 50 (0,0)),(b2,Qk (Qn (uv B)) 50),(b1,Qk (Qn (uv A)) 50)]++([(b,(bif L 13 then Qk (Qn (uv (df (rs A 0 NR) (rs B 0 NR)))) 50 (0,0) else Qk #[wZ,wZ,wZ,wZ] 50 (0,0)))]));rw[hz];rfl))
 ·exact gv_store (fun _=>4) 50 (.tmp 10) (.tmp 31) (fun g=>g 12) 0 #[wZ,wZ,wZ,wZ] (Qn (uv (df (rs A 0 NR) (rs B 0 NR)))) 50 (uv (df (rs A 0 NR) (rs B 0 NR))) (fun g=>by kernel_rfl) (fun g=>by kernel_rfl) (fun g=>by kernel_rfl) kr kr (of_decide_eq_true kr) kr (fun L g hN=>by (have hs13:L 13=false:=hN.1;have hs12:L 12=true:=before_yes hN.2.1 12 kr;show ([(b4,Qk (Qn (uv NR)) 50),(b3,Qk #[wZ,wZ,wZ,wZ] 50 (0,0)),(b2,Qk (Qn (uv B)) 50),(b1,Qk (Qn (uv A)) 50)]++(bif L 12 then [(g 12,(bif L 13 then Qk (Qn (uv (df (rs A 0 NR) (rs B 0 NR)))) 50 (0,0) else Qk #[wZ,wZ,wZ,wZ] 50 (0,0)))] else []))[(fun _=>4) L]? =some (g 12,Qk #[wZ,wZ,wZ,wZ] 50 (0,0))/\([(b4,Qk (Qn (uv NR)) 50),(b3,Qk #[wZ,wZ,wZ,wZ] 50 (0,0)),(b2,Qk (Qn (uv B)) 50),(b1,Qk (Qn (uv A)) 50)]++(bif L 12 then [(g 12,(bif L 13 then Qk (Qn (uv (df (rs A 0 NR) (rs B 0 NR)))) 50 (0,0) else Qk #[wZ,wZ,wZ,wZ] 50 (0,0)))] else [])).set ((fun _=>4) L) (g 12,Qk (Qn (uv (df (rs A 0 NR) (rs B 0 NR)))) 50 (0,0))=([(b4,Qk (Qn (uv NR)) 50),(b3,Qk #[wZ,wZ,wZ,wZ] 50 (0,0)),(b2,Qk (Qn (uv B)) 50),(b1,Qk (Qn (uv A)) 50)]++(bif L 12 then [(g 12,(bif true then Qk (Qn (uv (df (rs A 0 NR) (rs B 0 NR)))) 50 (0,0) else Qk #[wZ,wZ,wZ,wZ] 50 (0,0)))] else []));rw[hs13,hs12];exact⟨rfl,rfl⟩))
 ·exact gv_val (fun _ _ _ h=>h) (fun g w=>by kernel_rfl)
 intro L0 g7 w7 hall HL;clear H6;have H7:St w.heap.size w w7 [(b4,Qk (Qn (uv NR)) 50),(b3,Qk #[wZ,wZ,wZ,wZ] 50 (0,0)),(b2,Qk (Qn (uv B)) 50),(b1,Qk (Qn (uv A)) 50),((g7 12),Qk (Qn (uv (df (rs A 0 NR) (rs B 0 NR)))) 50 (0,0))]:=by have e13:=hall 13 (Qp kr);have e12:=hall 12 (Qp kr);simp only[e13,e12,cond_true]at HL;exact HL
 clear HL hall;refine za kr<|zd [0] kr kr ?_;cases hlo:lo (rs A 0 NR) (rs B 0 NR)
 ·refine zn (some 33) (.bool false)<|zb<|zi kr kr<|zj kr<|wW<|zd [0,1,2] kr kr<|qf H7 (some 40) 50 (.tmp 10) 4 (g7 12) (Qn (uv (df (rs A 0 NR) (rs B 0 NR)))) 50 (0,0) kr kr kr kr kr<|qT H7 1 [(b4,Qk (Qn (uv NR)) 50),(b3,Qk (Qn (uv (df (rs A 0 NR) (rs B 0 NR)))) 50 (0,0)),(b2,Qk (Qn (uv B)) 50),(b1,Qk (Qn (uv A)) 50),((g7 12),Qk (Qn (uv (df (rs A 0 NR) (rs B 0 NR)))) 50 (0,0))] 50 (.tmp 6) (.tmp 40) b3 0 #[wZ,wZ,wZ,wZ] (Qn (uv (df (rs A 0 NR) (rs B 0 NR)))) 50 (uv (df (rs A 0 NR) (rs B 0 NR))) kr kr kr kr kr kr (of_decide_eq_true kr) kr kr ?_;intro w8 H8;clear H7;refine zn (some 7) (.int .i64 0)<|zb<|zk kr<|wV ?_;refine⟨[uv (df (rs A 0 NR) (rs B 0 NR)),.int .i64 0],(.agg (b:=b3) (Qn (uv (df (rs A 0 NR) (rs B 0 NR)))) 50 (0,0) kr (H8.get 1 kr) kr (.tmp (.int .i64 0) kr .nil)),?_,H8.below⟩;exact congrArg (fun n=>Value.tuple #[uv n,.int .i64 0]) (zk1 jU hlo)
 ·refine zn (some 33) (.bool true)<|zb<|zh kr kr<|yu [0,1,2,3,4,5,6] kr<|qf H7 (some 35) 50 (.tmp 10) 4 (g7 12) (Qn (uv (df (rs A 0 NR) (rs B 0 NR)))) 50 (0,0) kr kr kr kr kr<|qf H7 (some 36) 50 (.tmp 8) 0 b4 (Qn (uv NR)) 50 (0,0) kr kr kr kr kr<|kA H7 (some 37) 174 #[uv (df (rs A 0 NR) (rs B 0 NR)),uv NR] (.tuple #[uv (sm (df (rs A 0 NR) (rs B 0 NR)) NR),.bool (ov (df (rs A 0 NR) (rs B 0 NR)) NR)]) (zds (df (rs A 0 NR) (rs B 0 NR)) NR (zdq _ _) jU.1) (fun w=>by kernel_rfl) kr ?_;intro w9 H9;clear H7;refine jv (some 34) (.tuple #[uv (sm (df (rs A 0 NR) (rs B 0 NR)) NR),.bool (ov (df (rs A 0 NR) (rs B 0 NR)) NR)]) (fun w=>by kernel_rfl) kr<|jv (some 38) (uv (sm (df (rs A 0 NR) (rs B 0 NR)) NR)) (fun w=>by kernel_rfl) kr<|jv (some 39) (.bool (ov (df (rs A 0 NR) (rs B 0 NR)) NR)) (fun w=>by kernel_rfl) kr<|qT H9 4 [(b4,Qk (Qn (uv NR)) 50),(b3,Qk #[wZ,wZ,wZ,wZ] 50 (0,0)),(b2,Qk (Qn (uv B)) 50),(b1,Qk (Qn (uv A)) 50),((g7 12),Qk (Qn (uv (sm (df (rs A 0 NR) (rs B 0 NR)) NR))) 50 (0,0))] 50 (.tmp 10) (.tmp 38) (g7 12) 0 (Qn (uv (df (rs A 0 NR) (rs B 0 NR)))) (Qn (uv (sm (df (rs A 0 NR) (rs B 0 NR)) NR))) 50 (uv (sm (df (rs A 0 NR) (rs B 0 NR)) NR)) kr kr kr kr kr kr (of_decide_eq_true kr) kr kr ?_;intro w10 H10;clear H9;refine zb<|wW<|zd [0,1,2] kr kr<|qf H10 (some 40) 50 (.tmp 10) 4 (g7 12) (Qn (uv (sm (df (rs A 0 NR) (rs B 0 NR)) NR))) 50 (0,0) kr kr kr kr kr<|qT H10 1 [(b4,Qk (Qn (uv NR)) 50),(b3,Qk (Qn (uv (sm (df (rs A 0 NR) (rs B 0 NR)) NR))) 50 (0,0)),(b2,Qk (Qn (uv B)) 50),(b1,Qk (Qn (uv A)) 50),((g7 12),Qk (Qn (uv (sm (df (rs A 0 NR) (rs B 0 NR)) NR))) 50 (0,0))] 50 (.tmp 6) (.tmp 40) b3 0 #[wZ,wZ,wZ,wZ] (Qn (uv (sm (df (rs A 0 NR) (rs B 0 NR)) NR))) 50 (uv (sm (df (rs A 0 NR) (rs B 0 NR)) NR)) kr kr kr kr kr kr (of_decide_eq_true kr) kr kr ?_;intro w11 H11;clear H10;refine zn (some 7) (.int .i64 0)<|zb<|zk kr<|wV ?_;refine⟨[uv (sm (df (rs A 0 NR) (rs B 0 NR)) NR),.int .i64 0],(.agg (b:=b3) (Qn (uv (sm (df (rs A 0 NR) (rs B 0 NR)) NR))) 50 (0,0) kr (H11.get 1 kr) kr (.tmp (.int .i64 0) kr .nil)),?_,H11.below⟩;exact congrArg (fun n=>Value.tuple #[uv n,.int .i64 0]) (zk0 jU hlo)
section
def vl:List Nat->Nat
 | []=>0
 | d::r=>d+65536*vl r
def Ok (l:List Nat):Prop:= ∀d∈l,d<65536
def dgt (A i:Nat):Nat:=A / 65536^i%65536
def dgs (A k:Nat):List Nat:=(QW k).map (dgt A)
theorem zdv (A k:Nat):(dgs A k).length=k:=by unfold dgs;simp
theorem zf6 (A k:Nat):dgs A (k+1)=dgs A k++ [dgt A k]:=by unfold dgs;rw[List.range_succ];simp
theorem zle (A k:Nat):Ok (dgs A k):=by
 intro d hd;unfold dgs at hd;obtain⟨i,_,rfl⟩:=Rk.1 hd;exact RT _ (by omega)
theorem zf7 (l m:List Nat):vl (l++m)=vl l+65536^l.length*vl m:=by
 induction l with
 | nil=>simp[vl]
 | cons d r ih=>
  rw[Rm,vl,vl,ih,Rh,RW,Uw,<-Um,VW 65536 (65536^_)];omega
theorem zdw (l:List Nat)(d:Nat):vl (l++ [d])=vl l+65536^l.length*d:=by rw[zf7];simp[vl]
theorem zlf (A k:Nat):vl (dgs A k)=A%65536^k:=by
 induction k with
 | zero=>simp[dgs,vl,Nat.mod_one]
 | succ k ih=>
  rw[zf6,zdw,ih,zdv,RW,Nat.mod_mul];rfl
theorem zbt {l:List Nat}(h:Ok l):vl l<65536^l.length:=by
 induction l with
 | nil=>simp[vl]
 | cons d r ih=>
  have h1:=h d (by simp);have h2:=ih (fun x hx=>h x (by simp[hx]));rw[vl,Rh,RW];omega
theorem zlg {l m:List Nat}(h:Ok l)(k:Ok m):Ok (l++m):=fun d hd=>by
 rcases UI.1 hd with h1|h1
 ·exact h d h1
 ·exact k d h1
theorem zdx {l:List Nat}(h:Ok l)(k:Nat):Ok (l.take k):=fun d hd=>h d (List.mem_of_mem_take hd)
theorem yK {l:List Nat}(h:Ok l)(i:Nat):l.getD i 0<65536:=by
 rcases Un i l.length with hi|hi
 ·have:l.getD i 0=l[i]:=by simp[Qm,Qr hi]
  rw[this];exact h _ (List.getElem_mem hi)
 ·have:l.getD i 0=0:=by simp[Qm,Q6 hi]
  omega
theorem zlh (l:List Nat)(k:Nat)(h:k<l.length):vl (l.take (k+1))=vl (l.take k)+65536^k*l.getD k 0:=by
 rw[List.take_succ_eq_append_getElem h,zdw,Rb,VX (by omega)];simp[Qm,Qr h]
theorem uw (l:List Nat)(k:Nat):vl (l.take (k+1))=vl (l.take k)+65536^k*l.getD k 0:=by
 rcases Un k l.length with h|h
 ·exact zlh l k h
 ·rw[Qy h,Qy (by omega)];simp[Qm,Q6 h]
theorem zli (l:List Nat)(k:Nat):vl l=vl (l.take k)+65536^k*vl (l.drop k):=by
 rcases Un l.length k with h|h
 ·rw[Qy (by omega),UE (by omega)];simp[vl]
 ·conv=>lhs;rw[<-VV k l]
  rw[zf7,Rb,VX h]
theorem zlj:big=65536^16:=rfl
theorem zbu (A k:Nat)(h:k / 4=0):(w0 A / 2^(16*(k%4)))%65536=(dgt A k:Int):=by
 have hk:k=0\/k=1\/k=2\/k=3:=by omega
 unfold w0 dgt;rcases hk with rfl | rfl | rfl | rfl
 ·show ((A%0x10000000000000000:Nat):Int) / 1%65536=((A / 1%65536:Nat):Int);omega
 ·show ((A%0x10000000000000000:Nat):Int) / 65536%65536=((A / 65536%65536:Nat):Int);omega
 ·show ((A%0x10000000000000000:Nat):Int) / 4294967296%65536=((A / 4294967296%65536:Nat):Int);omega
 ·show ((A%0x10000000000000000:Nat):Int) / 281474976710656%65536=((A / 281474976710656%65536:Nat):Int);omega
theorem zdy (A j k:Nat):dgt (A / 65536^j) k=dgt A (j+k):=by unfold dgt;rw[Rz,<-UZ]
theorem zlk (A k:Nat)(h:k / 4=1):(w1 A / 2^(16*(k%4)))%65536=(dgt A k:Int):=by
 have e:=zbu (A / 65536^4) (k-4) (by omega);rw[zdy,show 4+(k-4)=k by omega,show (k-4)%4=k%4 by omega]at e;exact e
theorem zll (A k:Nat)(h:k / 4=2):(w2 A / 2^(16*(k%4)))%65536=(dgt A k:Int):=by
 have e:=zbu (A / 65536^8) (k-8) (by omega);rw[zdy,show 8+(k-8)=k by omega,show (k-8)%4=k%4 by omega]at e;exact e
theorem zlm (A k:Nat)(h:k / 4=3):(w3 A / 2^(16*(k%4)))%65536=(dgt A k:Int):=by
 have e:=zbu (A / 65536^12) (k-12) (by omega);rw[zdy,show 12+(k-12)=k by omega,show (k-12)%4=k%4 by omega]at e;exact e
open Go
def dAt (ds:List Nat)(i:Nat):Int:=((ds.getD i 0:Nat):Int)
theorem zf8 {l:List Nat}(i:Nat):0<=dAt l i:=by unfold dAt;omega
theorem zf9 {l:List Nat}(h:Ok l)(i:Nat):dAt l i<=65535:=by have:=yK h i;unfold dAt;omega
structure jH (x y l:List Nat)(k:Nat)(c:Int):Prop where
 len:l.length=k
 ok:Ok l
 c0:0<=c
 c1:c<=1
 val:(vl l:Int)+65536^k*c=vl (x.take k)+vl (y.take k)
 top:k<=max x.length y.length+1
 last:k=max x.length y.length+1->c=0
theorem jH.start (x y:List Nat):jH x y [] 0 0:=⟨rfl,(fun d h=>by cases h),by omega,by omega,by simp[vl],by omega,by omega⟩
theorem jH.next {x y l:List Nat}{k:Nat}{c:Int}(h:jH x y l k c)(hx:Ok x)(hy:Ok y)(hgo:k<x.length\/k<y.length\/0<c):
 jH x y (l++ [((dAt x k+dAt y k+c)%65536).toNat]) (k+1) ((dAt x k+dAt y k+c) / 65536):=by
 have x0:=zf8 (l:=x) k;have x1:=zf9 hx k;have y0:=zf8 (l:=y) k;have y1:=zf9 hy k;obtain⟨e1,e2,c0,c1,ev,et,el⟩:=h;have hend:k=max x.length y.length->dAt x k=0/\dAt y k=0:=fun e=>by
  unfold dAt;simp[Qm,Q6 (show x.length<=k by omega),Q6 (show y.length<=k by omega)]
 refine⟨by simp[e1],zlg e2 (fun d hd=>by simp at hd;omega),by omega,by omega,?_,?_,?_⟩
 ·rw[zdw,e1,uw,uw,Int.pow_succ];have hdx:dAt x k=((x.getD k 0:Nat):Int):=rfl;have hdy:dAt y k=((y.getD k 0:Nat):Int):=rfl;have hs:(((dAt x k+dAt y k+c)%65536).toNat:Int)=(dAt x k+dAt y k+c)%65536:=by omega
  have hm:dAt x k+dAt y k+c=65536*((dAt x k+dAt y k+c) / 65536)+(dAt x k+dAt y k+c)%65536:=by omega
  generalize hq:(dAt x k+dAt y k+c) / 65536=q at*;generalize hr:(dAt x k+dAt y k+c)%65536=r at*;have e3:(65536:Int)^k*dAt x k+65536^k*dAt y k+65536^k*c=65536^k*65536*q+65536^k*r:=by
   rw[<-Vw,<-Vw,hm,Vw,V0]
  have g1:((vl l+65536^k*r.toNat:Nat):Int)=(vl l:Int)+65536^k*r:=by rw[Int.natCast_add,UG,VL,hs];rfl
  have g2:((vl (x.take k)+65536^k*x.getD k 0:Nat):Int)=(vl (x.take k):Int)+65536^k*dAt x k:=by rw[Int.natCast_add,UG,VL];rfl
  have g3:((vl (y.take k)+65536^k*y.getD k 0:Nat):Int)=(vl (y.take k):Int)+65536^k*dAt y k:=by rw[Int.natCast_add,UG,VL];rfl
  rw[g1,g2,g3];omega
 ·rcases Un k (max x.length y.length+1) with h|h
  ·omega
  ·have:=el (by omega);omega
 ·intro e;have:=hend (by omega);omega
theorem jH.fin {x y l:List Nat}{k:Nat}{c:Int}(h:jH x y l k c)(hx: ¬k<x.length)(hy: ¬k<y.length)(hc: ¬0<c):vl l=vl x+vl y:=by
 obtain⟨e1,e2,c0,c1,ev,et,el⟩:=h;rw[show c=0 by omega,Qy (by omega),Qy (by omega)]at ev;simp at ev;omega
def ls (x y:List Nat):Bool:=decide (vl x<vl y)
theorem zat: ∀(x y:List Nat),(∀t,dAt x t=dAt y t)->vl x=vl y
 | [],[],_=>rfl
 | [],b::y,h=>by
  have h0:=h 0;have ih:=zat [] y (fun t=>by have:=h (t+1);simpa [dAt] using this);simp[dAt]at h0;simp only[vl]at ih⊢;omega
 | a::x,[],h=>by
  have h0:=h 0;have ih:=zat x [] (fun t=>by have:=h (t+1);simpa [dAt] using this);simp[dAt]at h0;simp only[vl]at ih⊢;omega
 | a::x,b::y,h=>by
  have h0:=h 0;have ih:=zat x y (fun t=>by have:=h (t+1);simpa [dAt] using this);simp[dAt]at h0;simp only[vl];omega
theorem zga (l:List Nat)(k t:Nat):dAt (l.drop k) t=dAt l (k+t):=by unfold dAt;simp[Qm,List.getElem?_drop]
theorem zdz (l:List Nat)(j:Nat):vl l=vl (l.take j)+65536^j*l.getD j 0+65536^(j+1)*vl (l.drop (j+1)):=by
 rw[zli l (j+1),uw]
theorem zgb {x y:List Nat}(hx:Ok x)(hy:Ok y)(j:Nat)(ht: ∀t,j<t->dAt x t=dAt y t)(h:dAt x j<dAt y j):vl x<vl y:=by
 have e:vl (x.drop (j+1))=vl (y.drop (j+1)):=zat _ _ (fun t=>by rw[zga,zga];exact ht _ (by omega));have hl:=zbt (zdx hx j);have h3:65536^(x.take j).length<=65536^j:=Uh (by omega) (Vp _ _);have hd:x.getD j 0+1<=y.getD j 0:=by unfold dAt at h;omega
 have hm:65536^j*(x.getD j 0+1)<=65536^j*y.getD j 0:=Vm _ hd;rw[Uw,UV]at hm;rw[zdz x j,zdz y j,e];omega
theorem zgc {x y:List Nat}(hx:Ok x)(hy:Ok y)(j:Nat)(ht: ∀t,j<t->dAt x t=dAt y t)(h:dAt x j≠dAt y j):decide (dAt x j<dAt y j)=ls x y:=by
 unfold ls;rcases Int.lt_or_gt_of_ne h with k | k
 ·have:=zgb hx hy j ht k;simp[k,this]
 ·have:=zgb hy hx j (fun t h=>(ht t h).symm) k;have k': ¬dAt x j<dAt y j:=by omega
  have this': ¬vl x<vl y:=by omega
  simp[k',this']
theorem zgd {x y:List Nat}(ht: ∀t,dAt x t=dAt y t):ls x y=false:=by
 unfold ls;rw[zat x y ht];simp
def xM (x y:List Nat)(j:Int):Prop:= ∀t:Nat,j<t->dAt x t=dAt y t
theorem xM.start (x y:List Nat)(n:Int)(h1:(x.length:Int)<=n)(h2:(y.length:Int)<=n):xM x y (n-1):=fun t ht=>by
 unfold dAt;simp[Qm,Q6 (show x.length<=t by omega),Q6 (show y.length<=t by omega)]
theorem xM.down {x y:List Nat}{j:Nat}(h:xM x y j)(e:dAt x j=dAt y j):xM x y ((j:Int)-1):=fun t ht=>by
 rcases Un j t with k|k
 ·exact h t (by omega)
 ·rw[show t=j by omega];exact e
structure zsy (x y l:List Nat)(k:Nat)(c:Int):Prop where
 len:l.length=k
 ok:Ok l
 c0:0<=c
 c1:c<=1
 val:(vl l:Int)-65536^k*c=vl (x.take k)-vl (y.take k)
theorem zbv {l:List Nat}(h:Ok l)(i:Nat):dgt (vl l) i=l.getD i 0:=by
 have e:=zdz l i;have hl:=zbt (zdx h i);have h3:65536^(l.take i).length<=65536^i:=Uh (by omega) (Vp _ _);have hd:=yK h i;have e2:vl l=vl (l.take i)+65536^i*(l.getD i 0+65536*vl (l.drop (i+1))):=by
  rw[e,RW,Uw,Um];omega
 unfold dgt;rw[e2,Nat.add_mul_div_left _ _ (VF (by omega)),Nat.div_eq_of_lt (by omega)];omega
theorem zln (V:Nat):w0 (V%big)=w0 V:=by unfold w0 big;omega
theorem zlo (V:Nat):w1 (V%big)=w1 V:=by unfold w1 big;omega
theorem zlp (V:Nat):w2 (V%big)=w2 V:=by unfold w2 big;omega
theorem zlq (V:Nat):w3 (V%big)=w3 V:=by unfold w3 big;omega
theorem zge: ∀(l:List Nat) (j d:Nat),j<l.length->vl (l.set j d)+65536^j*l.getD j 0=vl l+65536^j*d
 | [],j,d,h=>by simp at h
 | a::r,0,d,_=>by simp[vl];omega
 | a::r,j+1,d,h=>by
  have ih:=zge r j d (by simpa using h);simp only[List.set_cons_succ,vl,List.getD_cons_succ,RW];have e1:65536^j*65536*r.getD j 0=65536*(65536^j*r.getD j 0):=by rw[VW (65536^j) 65536,Um]
  have e2:65536^j*65536*d=65536*(65536^j*d):=by rw[VW (65536^j) 65536,Um]
  rw[e1,e2];omega
theorem zlr {l:List Nat}(h:Ok l)(j d:Nat)(hd:d<65536):Ok (l.set j d):=fun x hx=>by
 rcases List.mem_or_eq_of_mem_set hx with h1|h1
 ·exact h x h1
 ·rw[h1];exact hd
theorem zls (n:Nat):vl (RB n 0)=0:=by
 induction n with
 | zero=>rfl
 | succ n ih=>rw[List.replicate_succ,vl,ih]
theorem zlt (n:Nat):Ok (RB n 0):=fun d hd=>by
 have:=List.eq_of_mem_replicate hd;omega
structure kE (x y out:List Nat)(i k c:Nat):Prop where
 len:out.length=x.length+y.length+1
 ok:Ok out
 hi:i<x.length
 cw:c<65536
 val:vl out+65536^(i+k)*c=vl (x.take i)*vl y+65536^i*(x.getD i 0*vl (y.take k))
 top:k<=y.length+1
 last:k=y.length+1->c=0
theorem kE.start {x y out:List Nat}{i:Nat}(hl:out.length=x.length+y.length+1)(hok:Ok out)(hi:i<x.length)(hv:vl out=vl (x.take i)*vl y):kE x y out i 0 0:=
 ⟨hl,hok,hi,by omega,by simp[vl,hv],by omega,by omega⟩
theorem kE.next {x y out:List Nat}{i k c:Nat}(h:kE x y out i k c)(hx:Ok x)(hy:Ok y)(hgo:k<y.length\/0<c):
 i+k<out.length/\kE x y (out.set (i+k) ((out.getD (i+k) 0+x.getD i 0*y.getD k 0+c)%65536)) i (k+1) ((out.getD (i+k) 0+x.getD i 0*y.getD k 0+c) / 65536):=by
 obtain⟨e1,e2,e3,e4,ev,et,el⟩:=h;have hk:k<=y.length:=by
  rcases Un k (y.length+1) with h|h
  ·omega
  ·have:=el (by omega);omega
 have hij:i+k<out.length:=by omega
 refine⟨hij,?_⟩;have ho:=yK e2 (i+k);have hxi:=yK hx i;have hyk:=yK hy k;generalize hn:out.getD (i+k) 0+x.getD i 0*y.getD k 0+c=n;have hm:x.getD i 0*y.getD k 0<=65535*65535:=Wy (by omega) (by omega);have hset:=zge out (i+k) (n%65536) hij;have hnew:vl (out.set (i+k) (n%65536))+65536^(i+(k+1))*(n / 65536)=vl (x.take i)*vl y+65536^i*(x.getD i 0*vl (y.take (k+1))):=by
  have hp:65536^(i+(k+1))*(n / 65536)+65536^(i+k)*(n%65536)=65536^(i+k)*n:=by
   rw[show i+(k+1)=(i+k)+1 by omega,RW,Um,<-Uw];congr 1;omega
  have ht:65536^i*(x.getD i 0*vl (y.take (k+1)))=65536^i*(x.getD i 0*vl (y.take k))+65536^(i+k)*(x.getD i 0*y.getD k 0):=by
   rw[uw,Uw,Uw,UZ,Nat.mul_left_comm (x.getD i 0),Um (65536^i)]
  have hs:65536^(i+k)*n=65536^(i+k)*out.getD (i+k) 0+65536^(i+k)*(x.getD i 0*y.getD k 0)+65536^(i+k)*c:=by
   rw[<-hn,Uw,Uw]
  rw[ht];omega
 refine⟨by simpa using e1,zlr e2 _ _ (RT _ (by omega)),e3,?_,hnew,by omega,?_⟩
 ·omega
 ·intro hkl;have hky:k=y.length:=by omega
  have hb:vl (x.take i)*vl y+65536^i*(x.getD i 0*vl (y.take (k+1)))=vl (x.take (i+1))*vl y:=by
   rw[Qy (l:=y) (by omega),uw x,VS,Um]
  have b1:=zbt (zdx hx (i+1));have b2:65536^(x.take (i+1)).length<=65536^(i+1):=Uh (by omega) (Vp _ _);have b3:=zbt hy;have b4:vl (x.take (i+1))*vl y<65536^(i+1)*65536^y.length:=by
   exact Nat.mul_lt_mul_of_lt_of_le (by omega) (Nat.le_of_lt b3) (VF (by omega))
  rw[<-UZ]at b4;rw[hb]at hnew;rcases Nat.eq_zero_or_pos (n / 65536) with hz | hz
  ·exact hz
  ·exfalso;have h5:65536^(i+(k+1))*1<=65536^(i+(k+1))*(n / 65536):=Vm _ hz;rw[show i+(k+1)=i+1+y.length by omega]at h5 hnew;omega
theorem kE.fin {x y out:List Nat}{i k c:Nat}(h:kE x y out i k c)(hk: ¬k<y.length)(hc: ¬0<c):vl out=vl (x.take (i+1))*vl y:=by
 obtain⟨e1,e2,e3,e4,ev,et,el⟩:=h;rw[show c=0 by omega,Qy (l:=y) (by omega)]at ev;rw[uw,VS,Um]
 simpa using ev
theorem jH.go {x y l:List Nat}{k c:Nat}(h:jH x y l k (c:Int))(hx:Ok x)(hy:Ok y)(hgo:k<x.length\/k<y.length\/0<c):
 jH x y (l++ [(x.getD k 0+y.getD k 0+c)%65536]) (k+1) (((x.getD k 0+y.getD k 0+c) / 65536:Nat):Int):=by
 have hn:=h.next hx hy (by omega)
 unfold dAt at hn
 rw[show ((((x.getD k 0:Nat):Int)+((y.getD k 0:Nat):Int)+(c:Int))%65536).toNat=(x.getD k 0+y.getD k 0+c)%65536 by omega,
  show (((x.getD k 0:Nat):Int)+((y.getD k 0:Nat):Int)+(c:Int)) / 65536=(((x.getD k 0+y.getD k 0+c) / 65536:Nat):Int) by omega]at hn
 exact hn
theorem jH.done {x y l:List Nat}{k c:Nat}(h:jH x y l k (c:Int))(hx: ¬k<x.length)(hy: ¬k<y.length)(hc: ¬0<c):vl l=vl x+vl y:=h.fin hx hy (by omega)
theorem zbw {x:List Nat}(h:Ok x)(q:Nat):((x.getD (4*q+3) 0*65536+x.getD (4*q+2) 0)*65536+x.getD (4*q+1) 0)*65536+x.getD (4*q) 0=vl x / 65536^(4*q)%0x10000000000000000:=by
 rw[<-zbv h (4*q+3),<-zbv h (4*q+2),<-zbv h (4*q+1),<-zbv h (4*q)];unfold dgt;rw[UZ,UZ 65536 (4*q) 2,UZ 65536 (4*q) 1,<-Rz,<-Rz,<-Rz];generalize vl x / 65536^(4*q)=X;show ((X / 281474976710656%65536*65536+X / 4294967296%65536)*65536+X / 65536%65536)*65536+X%65536=_;omega
theorem zlu {x:List Nat}(h:Ok x)(g:Nat->Nat)(hg: ∀i,g i=x.getD i 0):
 Value.agg #[.int .u64 (((((g 3*65536+g 2)*65536+g 1)*65536+g 0:Nat)):Int),.int .u64 (((((g 7*65536+g 6)*65536+g 5)*65536+g 4:Nat)):Int),.int .u64 (((((g 11*65536+g 10)*65536+g 9)*65536+g 8:Nat)):Int),.int .u64 (((((g 15*65536+g 14)*65536+g 13)*65536+g 12:Nat)):Int)]=uv (vl x%big):=by
 have e0:=zbw h 0;have e1:=zbw h 1;have e2:=zbw h 2;have e3:=zbw h 3;simp only[hg];have f0:((((x.getD 3 0*65536+x.getD 2 0)*65536+x.getD 1 0)*65536+x.getD 0 0:Nat):Int)=w0 (vl x%big):=by
  rw[zln];unfold w0;rw[e0,U7,Nat.pow_zero,Wx]
 have f1:((((x.getD 7 0*65536+x.getD 6 0)*65536+x.getD 5 0)*65536+x.getD 4 0:Nat):Int)=w1 (vl x%big):=by
  rw[zlo];unfold w1;rw[e1]
 have f2:((((x.getD 11 0*65536+x.getD 10 0)*65536+x.getD 9 0)*65536+x.getD 8 0:Nat):Int)=w2 (vl x%big):=by
  rw[zlp];unfold w2;rw[e2]
 have f3:((((x.getD 15 0*65536+x.getD 14 0)*65536+x.getD 13 0)*65536+x.getD 12 0:Nat):Int)=w3 (vl x%big):=by
  rw[zlq];unfold w3;rw[e3]
 rw[f0,f1,f2,f3]
end
theorem yB (x:List Nat)(ba nx ca:Nat)(curA:Qd)(hnx:nx=Qo x)(hA:Rw 1 curA ca nx (zW x))(lx:Qo x<=100000)(i:Nat)(hi:i<=100000):FnP Tryz.prog 148 #[Qf ba nx ca,.int .i64 (i:Int)] (fun w=>w.heap[ba]? =some (.cells curA 3)) (.int .i64 ((Qm x i 0:Nat):Int)):=by
 subst hnx;refine zR [.tmp 4] 13 Tryz.func148 fun w hpre=>?_;have H0:=St.start w;refine rS [.v] H0 kr fun gs1 w1 H1=>?_;clear H0;refine za kr<|zd [0,1,2,3] kr kr<|rp [.v,.v,.v] H1 kr fun gs2 w2 H2=>wX [3] ?_;clear H1;by_cases hc1:(i:Nat)<Qo x
 ·refine rp [itT ((i:Int)<(Qo x:Int))] H2 kr fun gs3 w3 H3=>wX [] ?_;clear H2;refine zb<|zh kr kr<|rS [.v,.v,itX 9 10 164 3 1 8 ba 0 (Qo x) ca i rfl,.fs (off:=0+i*1) (v:=.int .i64 ((Qm x i 0:Nat):Int)) hpre (zo hpre) (hA.atD (by omega) rfl),.v] H3 kr fun gs4 w4 H4=>?_;clear H3;refine zk kr<|wV ?_;refine⟨[.int .i64 ((Qm x i 0:Nat):Int)],(.tmp (.int .i64 ((Qm x i 0:Nat):Int)) kr .nil),?_,H4.below⟩
  first | rfl | (rw[show Qm x i 0=0 by simp[Qm,Q6 (show x.length<=i by omega)]];rfl)
 ·refine rp [itF ((i:Int)<(Qo x:Int))] H2 kr fun gs5 w5 H5=>wX [] ?_;clear H2;refine zb<|zi kr kr<|zj kr<|wW<|rS [.v] H5 kr fun gs6 w6 H6=>?_;clear H5;refine zk kr<|wV ?_;refine⟨[.int .i64 0],(.tmp (.int .i64 0) kr .nil),?_,H6.below⟩
  first | rfl | (rw[show Qm x i 0=0 by simp[Qm,Q6 (show x.length<=i by omega)]];rfl)
theorem zlv {A:Nat}(h:A<big):vl (dgs A 16)=A:=by rw[zlf,<-zlj,Rj h]
theorem zbx (X n:Nat):Qz.wrap ((X / 2^n%65536:Nat):Int)=(X:Int) / 2^n%65536:=by
 have h:=RT (X / 2^n) (show 0<65536 by omega);rw[jy (by omega),Int.natCast_emod,Int.natCast_ediv,VL];rfl
theorem zlw (A k:Nat)(h:k / 4=0):Qz.wrap (((A%0x10000000000000000 / 2^(16*(k%4))%65536:Nat)):Int)=((dgt A k:Nat):Int):=(zbx _ _).trans (zbu A k h)
theorem zlx (A k:Nat)(h:k / 4=1):Qz.wrap (((A / 0x10000000000000000%0x10000000000000000 / 2^(16*(k%4))%65536:Nat)):Int)=((dgt A k:Nat):Int):=(zbx _ _).trans (zlk A k h)
theorem zly (A k:Nat)(h:k / 4=2):Qz.wrap (((A / 0x100000000000000000000000000000000%0x10000000000000000 / 2^(16*(k%4))%65536:Nat)):Int)=((dgt A k:Nat):Int):=(zbx _ _).trans (zll A k h)
theorem zlz (A k:Nat)(h:k / 4=3):Qz.wrap (((A / 0x1000000000000000000000000000000000000000000000000%0x10000000000000000 / 2^(16*(k%4))%65536:Nat)):Int)=((dgt A k:Nat):Int):=(zbx _ _).trans (zlm A k h)
def wq (A q:Nat):Nat:=A / 0x10000000000000000^q%0x10000000000000000
theorem wq0 (A:Nat):wq A 0=A%0x10000000000000000:=by unfold wq;rw[Nat.pow_zero,Wx]
theorem zlA (A:Nat){q:Nat}(hq:q<4):(Qn (uv A))[0+q*1]? =some (.int .u64 ((wq A q:Nat):Int)):=by
 have h:q=0\/q=1\/q=2\/q=3:=by omega
 rcases h with rfl|rfl|rfl|rfl
 ·rw[wq0];exact kr
 ·exact kr
 ·exact kr
 ·exact kr
theorem zlB (A k:Nat)(hk:k<16):Qz.wrap ((wq A (k / 4) / 2^(16*(k%4))%65536:Nat):Int)=((dgt A k:Nat):Int):=by
 have h:k / 4=0\/k / 4=1\/k / 4=2\/k / 4=3:=by omega
 rcases h with h|h|h|h
 ·rw[h,wq0];exact zlw A k h
 ·rw[h];exact zlx A k h
 ·rw[h];exact zly A k h
 ·rw[h];exact zlz A k h
theorem zau (A:Nat)(hA:A<big):FnR Tryz.prog 121 #[uv A] (fun _=>True) (vK 3 1 (fun cur cap n l=>(n=Qo l/\Rw 1 cur cap n (zW l)/\Ok l/\(l=dgs A 16/\vl l=A/\Qo l=16)))):=by
 refine vF [.tmp 2] 25 Tryz.func121 fun w hpre=>?_;have H0:=St.start w;refine rS [.b,.v] H0 kr fun gs1 w1 H1=>rS [.nw (fun b=>Qf b 0 0) #[] 3,.v] H1 kr fun gs2 w2 H2=>za kr<|rS [.v] H2 kr fun gs3 w3 H3=>zm 0 kr ?_;have HL:St w.heap.size w w3 [((gs1 0).b,Qk (Qn (uv A)) 50),((gs2 0).b,Qk #[] 3 (0,0))]:=H3.as kr;refine zO kr (fun mz ρ ww=> ∃(k b cap:Nat) (cur:Qd),16-k=mz/\k<=16/\Rw 1 cur cap k (zW (dgs A k))/\St w.heap.size w ww [((gs1 0).b,Qk (Qn (uv A)) 50),(b,Qk cur 3)]/\Is [(1,Qe (gs1 0).b),(3,Qf b k cap),(4,.int .i64 (k:Int))] ρ) 16 ⟨0,(gs2 0).b,0,#[],rfl,by decide,Rw.lit #[] 0 (by rfl) (by unfold maxLen;omega),HL,zl⟩ ?_;clear H0 H1 H2 H3 HL;rintro _ _ w4 ⟨k,b,cap,cur,rfl,hk,hr,H4,_,rfl⟩;refine za kr ?_;by_cases h:k<16
 ·refine rS [.v,itT ((k:Int)<16)] H4 kr fun gs4 w5 H5=>zh kr kr<|zj kr<|wW<|za kr<|zm 1 kr<|yu [0,1,2,3,4,5,6,7,8,9,10,11,12,13,14] kr ?_
  refine rp [.v,.v,.E (.int .i64 (Qz.wrap (Int.tdiv (k:Int) 4))) (.int .i64 ((k / 4:Nat):Int)) (zf (xq (a:=k) (b:=4) (by omega))),
   .o (ins:=[((.tmp 1),Qe (gs1 0).b),((.tmp 12),.int .i64 ((k / 4:Nat):Int))]) (v:=.pointer (some ⟨(gs1 0).b,0+k / 4*1,none⟩)) (fun ρ o w ho hi=>xj (kd:=.i64) (t:=50) (n:=4) (size:=1) kr (x:=(.tmp 1)) (y:=(.tmp 12)) (gs1 0).b 0 (k / 4) ho hi.1 hi.2.1 (by omega) w),
   .ls 0 (C:=Qn (uv A)) (off:=0+k / 4*1) (v:=.int .u64 ((wq A (k / 4):Nat):Int)) (zlA A (by omega)),.v,
   .E (.int .i64 (UA (k:Int) 4)) (.int .i64 ((k%4:Nat):Int)) (zf (qw k 4)),
   .E (.int .i64 (Qz.wrap (16*((k%4:Nat):Int)))) (.int .i64 ((16*(k%4):Nat):Int)) (zf (ja (a:=16) (b:=k%4) (by omega))),
   .E (.int .u64 (QA.wrap ((16*(k%4):Nat):Int))) (.int .u64 ((16*(k%4):Nat):Int)) (zf (yw (by omega))),
   .E (.int .u64 (Int.fdiv ((wq A (k / 4):Nat):Int) (2^(min (16*(k%4)) 64)))) (.int .u64 ((wq A (k / 4) / 2^(16*(k%4)):Nat):Int)) (zf (zfF _ _ 64 (RT _ (by decide)))),
   .E (.int .u64 (UA ((wq A (k / 4) / 2^(16*(k%4)):Nat):Int) 65536)) (.int .u64 ((wq A (k / 4) / 2^(16*(k%4))%65536:Nat):Int)) (zf (qw _ 65536)),
   .E (.int .i64 (Qz.wrap ((wq A (k / 4) / 2^(16*(k%4))%65536:Nat):Int))) (.int .i64 ((dgt A k:Nat):Int)) (zf (zlB A k h)),
   .nw (fun b=>Qf b 1 1) #[.int .i64 ((dgt A k:Nat):Int)] 3] H5 kr fun gs5 w6 H6=>?_
  refine wX [13,14]<|vI H6 (some 23) 164 3 1 8 (.tmp 10) (.tmp 22) 1 2 b ((gs5 12).b) k 1 cap 1 cur #[.int .i64 ((dgt A k:Nat):Int)] 3 (0,0) (zW (dgs A k)) ([.int .i64 ((dgt A k:Nat):Int)]) (fun b' cur'=>[((gs1 0).b,Qk (Qn (uv A)) 50),(b',Qk cur' 3),((gs5 12).b,Qk #[.int .i64 ((dgt A k:Nat):Int)] 3 (0,0))]) kr kr kr kr kr hr kr kr (by rfl) (by rfl) (by intro u hu;rw[RY]at hu;subst hu;rfl) (by omega) (by unfold maxLen;omega) (fun _ _=>by kernel_rfl) ?_;intro b' cap' cur' w7 H7 hr';refine rp [.v] H7 kr fun gs7 w8 H8=>wX []<|zb<|wW<|rL [.v,itI k 1,.v] H8 kr fun gs9 w9 H9=>?_;show ∃m,_/\_;have H10:St w.heap.size w w9 [((gs1 0).b,Qk (Qn (uv A)) 50),(b',Qk cur' 3),((gs5 12).b,Qk #[.int .i64 ((dgt A k:Nat):Int)] 3 (0,0))]:=H9.as kr;exact⟨_,(by omega:16-(k+1)<16-k),k+1,b',cap',cur',rfl,by omega,by rw[zf6,um];exact hr',H10.sub ((List.nil_sublist _).cons_cons _ |>.cons_cons _),zl⟩
 ·obtain rfl:k=16:=by omega
  refine rS [.v,.v] H4 kr fun gs4 w5 H5=>zi kr kr<|zE 0 kr<|wW<|rS [.v,.v] H5 kr fun gs6 w6 H6=>zk kr<|wV ?_;refine⟨[Qf b 16 cap],(.tmp (Qf b 16 cap) kr .nil),H6.below,?_⟩;exact⟨b,cap,_,_,dgs A 16,rfl,H6.ge 1 (o:=.cells cur 3) kr,H6.get 1 kr,by rw[zdv],hr,zle A 16,rfl,zlv hA,zdv A 16⟩
theorem zgf (x y:List Nat)(ba nx ca bb ny cb:Nat)(curA curB:Qd)(hnx:nx=Qo x)(hny:ny=Qo y)(hA:Rw 1 curA ca nx (zW x))(hB:Rw 1 curB cb ny (zW y))(hx:Ok x)(hy:Ok y)(lx:Qo x<=5000)(ly:Qo y<=5000):FnR Tryz.prog 118 #[Qf ba nx ca,Qf bb ny cb] (fun w=>w.heap[ba]? =some (.cells curA 3)/\w.heap[bb]? =some (.cells curB 3)) (vK 3 1 (fun cur cap n l=>(n=Qo l/\Rw 1 cur cap n (zW l)/\Ok l/\(vl l=vl x+vl y/\Qo l<=max (Qo x) (Qo y)+1/\max (Qo x) (Qo y)<=Qo l)))):=by
 subst hnx hny;refine vF [.tmp 4] 43 Tryz.func118 fun w hpre=>?_;have H0:=St.start w;refine rS [.v] H0 kr fun gs1 w1 H1=>?_;clear H0;refine rS [.nw (fun b=>Qf b 0 0) #[] 3,.v] H1 kr fun gs2 w2 H2=>?_;clear H1;refine rS [.v] H2 kr fun gs3 w3 H3=>?_;clear H2;refine za kr<|rS [.v] H3 kr fun gs4 w4 H4=>?_;clear H3;refine zm 0 kr ?_;have HL1:St w.heap.size w w4 [((gs2 0).b,Qk #[] 3 (0,0))]:=H4.as kr;clear H4;refine zO kr (fun mz ρ ww=> ∃(b:Nat) (cap:Nat) (n:Nat) (cur:Qd) (l:List Nat) (k:Nat) (c:Nat),max (Qo x) (Qo y)+2-k=mz/\(n=Qo l)/\(Rw 1 cur cap n (zW l))/\(jH x y l k (c:Int))/\St w.heap.size w ww [(b,Qk cur 3)]/\Is [(0,Qf ba (Qo x) ca),(1,Qf bb (Qo y) cb),(4,.slice none 0 0),(5,Qf b n cap),(6,.int .i64 (c:Int)),(7,.int .i64 (k:Int))] ρ) (max (Qo x) (Qo y)+2-0) ⟨(gs2 0).b,0,0,#[],[],0,0,rfl,rfl,(Rw.lit #[] 0 rfl (by unfold maxLen;omega)),(jH.start x y),HL1,zl⟩ ?_;clear HL1;rintro _ _ w5 ⟨b,cap,n,cur,l,k,c,rfl,hn,hr,hS,H5,_,rfl⟩;have hc1:=hS.c1;have htop:=hS.top;have hxk:=yK hx k;have hyk:=yK hy k;have hlen:=hS.len;have hok:=hS.ok;refine za kr<|zd [0,1,2,3,4,5,6,7,8,9,10,11,12,13] kr kr<|rp [.v,.v,.v] H5 kr fun gs6 w6 H6=>wX [3,4,5,6,7,8,9,10,11,12,13] ?_;clear H5;by_cases hc2:(k:Nat)<Qo x
 ·refine rp [itT ((k:Int)<(Qo x:Int)),.v,.n,.n,.n,.n,.v,.v,.n,.n,.v] H6 kr fun gs7 w7 H7=>wX [] ?_;clear H6;refine zb<|zt [0,1,4,5,6,7,23] fun ρ1=>?_;have HK3:=H7.keep;clear H7;refine zh kr kr<|zj kr<|wW<|za kr<|zm 1 kr<|rS [.v,.v,.cp (pre:=fun w=>w.heap[ba]? =some (.cells curA 3)) (yB x ba (Qo x) ca curA rfl hA (by omega) k (by omega)) [] (fun w hb hd=>((hb.block _ (zo hpre.1)).trans hpre.1)),.v,.v,.cp (pre:=fun w=>w.heap[bb]? =some (.cells curB 3)) (yB y bb (Qo y) cb curB rfl hB (by omega) k (by omega)) [] (fun w hb hd=>((hb.block _ (zo hpre.2)).trans hpre.2)),.E (.int .i64 (Qz.wrap (((Qm x k 0:Nat):Int)+((Qm y k 0:Nat):Int)))) (.int .i64 (((Qm x k 0)+(Qm y k 0):Nat):Int)) (zf (ya (a:=Qm x k 0) (b:=Qm y k 0) (by omega))),.v,.E (.int .i64 (Qz.wrap ((((Qm x k 0)+(Qm y k 0):Nat):Int)+(c:Int)))) (.int .i64 ((((Qm x k 0)+(Qm y k 0))+c:Nat):Int)) (zf (ya (a:=(Qm x k 0)+(Qm y k 0)) (b:=c) (by omega))),.v] HK3 kr fun gs8 w8 H8=>?_;clear HK3;refine zd [0,1,2,3,4,5] kr kr<|rp [.v,.v,.E (.int .i64 (UA ((((Qm x k 0)+(Qm y k 0))+c:Nat):Int) 65536)) (.int .i64 (((((Qm x k 0)+(Qm y k 0))+c)%65536:Nat):Int)) (zf (qw (((Qm x k 0)+(Qm y k 0))+c) 65536)),.nw (fun b=>Qf b 1 1) #[.int .i64 (((((Qm x k 0)+(Qm y k 0))+c)%65536:Nat):Int)] 3] H8 kr fun gs9 w9 H9=>wX [4,5] ?_;clear H8;refine vI H9 (some 39) 164 3 1 8 (.tmp 35) (.tmp 38) 0 1 b ((gs9 3).b) n 1 cap 1 cur #[.int .i64 (((((Qm x k 0)+(Qm y k 0))+c)%65536:Nat):Int)] 3 (0,0) (zW l) ([.int .i64 (((((Qm x k 0)+(Qm y k 0))+c)%65536:Nat):Int)]) (fun b_1 cur_3=>[(b_1,Qk cur_3 3),((gs9 3).b,Qk #[.int .i64 (((((Qm x k 0)+(Qm y k 0))+c)%65536:Nat):Int)] 3 (0,0))]) kr kr kr kr kr hr kr kr (by rfl) (by rfl) (by intro u hu;simp at hu;first | exact hu.elim | (rcases hu with rfl | rfl | rfl | rfl<;>rfl) | (rcases hu with rfl | rfl<;>rfl) | (subst hu;rfl)) (by omega) (by unfold maxLen;omega) (fun _ _=>by kernel_rfl) ?_;intro b_1 cap_2 cur_3 w10 H10 hr_4;clear H9;refine rp [.v] H10 kr fun gs11 w11 H11=>wX [] ?_;clear H10;refine zb<|rL [.v,.E (.int .i64 (Qz.wrap (((((Qm x k 0)+(Qm y k 0))+c:Nat):Int).tdiv 65536))) (.int .i64 (((((Qm x k 0)+(Qm y k 0))+c) / 65536:Nat):Int)) (zf (xq (a:=((Qm x k 0)+(Qm y k 0))+c) (b:=65536) (by omega))),.v] H11 kr fun gs12 w12 H12=>?_;clear H11;refine wW<|zt [0,1,4,5,6,7,8,23] fun ρ2=>?_;have HK4:=H12.keep;clear H12;refine rL [.v,itI k 1,.v] HK4 kr fun gs13 w13 H13=>?_;clear HK4;have HL5:St w.heap.size w w13 [(b_1,Qk cur_3 3),((gs9 3).b,Qk #[.int .i64 (((((Qm x k 0)+(Qm y k 0))+c)%65536:Nat):Int)] 3 (0,0))]:=H13.as kr;clear H13;have hS2:=hS.go hx hy (by omega);have HD6:St w.heap.size w w13 [(b_1,Qk cur_3 3)]:=HL5.sub (Qq _ (Qs _ QS));show ∃m,_/\_;exact⟨_,(by have:=hS2.top;omega),b_1,cap_2,n+1,cur_3,l++ [(Qm x k 0+Qm y k 0+c)%65536],k+1,(Qm x k 0+Qm y k 0+c) / 65536,rfl,(by rw[Qx,<-hn];rfl),(by rw[um];exact hr_4),hS2,HD6,zl⟩
 ·refine rp [itF ((k:Int)<(Qo x:Int)),.v,.v,.v,.v] H6 kr fun gs14 w14 H14=>wX [8,9,10,11,12,13] ?_;clear H6;by_cases hc7:(k:Nat)<Qo y
  ·refine rp [itT ((k:Int)<(Qo y:Int)),.v,.v,.n,.n,.v] H14 kr fun gs15 w15 H15=>wX [] ?_;clear H14;refine zb<|zt [0,1,4,5,6,7,23] fun ρ3=>?_;have HK8:=H15.keep;clear H15;refine zh kr kr<|zj kr<|wW<|za kr<|zm 1 kr<|rS [.v,.v,.cp (pre:=fun w=>w.heap[ba]? =some (.cells curA 3)) (yB x ba (Qo x) ca curA rfl hA (by omega) k (by omega)) [] (fun w hb hd=>((hb.block _ (zo hpre.1)).trans hpre.1)),.v,.v,.cp (pre:=fun w=>w.heap[bb]? =some (.cells curB 3)) (yB y bb (Qo y) cb curB rfl hB (by omega) k (by omega)) [] (fun w hb hd=>((hb.block _ (zo hpre.2)).trans hpre.2)),.E (.int .i64 (Qz.wrap (((Qm x k 0:Nat):Int)+((Qm y k 0:Nat):Int)))) (.int .i64 (((Qm x k 0)+(Qm y k 0):Nat):Int)) (zf (ya (a:=Qm x k 0) (b:=Qm y k 0) (by omega))),.v,.E (.int .i64 (Qz.wrap ((((Qm x k 0)+(Qm y k 0):Nat):Int)+(c:Int)))) (.int .i64 ((((Qm x k 0)+(Qm y k 0))+c:Nat):Int)) (zf (ya (a:=(Qm x k 0)+(Qm y k 0)) (b:=c) (by omega))),.v] HK8 kr fun gs16 w16 H16=>?_;clear HK8;refine zd [0,1,2,3,4,5] kr kr<|rp [.v,.v,.E (.int .i64 (UA ((((Qm x k 0)+(Qm y k 0))+c:Nat):Int) 65536)) (.int .i64 (((((Qm x k 0)+(Qm y k 0))+c)%65536:Nat):Int)) (zf (qw (((Qm x k 0)+(Qm y k 0))+c) 65536)),.nw (fun b=>Qf b 1 1) #[.int .i64 (((((Qm x k 0)+(Qm y k 0))+c)%65536:Nat):Int)] 3] H16 kr fun gs17 w17 H17=>wX [4,5] ?_;clear H16;refine vI H17 (some 39) 164 3 1 8 (.tmp 35) (.tmp 38) 0 1 b ((gs17 3).b) n 1 cap 1 cur #[.int .i64 (((((Qm x k 0)+(Qm y k 0))+c)%65536:Nat):Int)] 3 (0,0) (zW l) ([.int .i64 (((((Qm x k 0)+(Qm y k 0))+c)%65536:Nat):Int)]) (fun b_5 cur_7=>[(b_5,Qk cur_7 3),((gs17 3).b,Qk #[.int .i64 (((((Qm x k 0)+(Qm y k 0))+c)%65536:Nat):Int)] 3 (0,0))]) kr kr kr kr kr hr kr kr (by rfl) (by rfl) (by intro u hu;simp at hu;first | exact hu.elim | (rcases hu with rfl | rfl | rfl | rfl<;>rfl) | (rcases hu with rfl | rfl<;>rfl) | (subst hu;rfl)) (by omega) (by unfold maxLen;omega) (fun _ _=>by kernel_rfl) ?_;intro b_5 cap_6 cur_7 w18 H18 hr_8;clear H17;refine rp [.v] H18 kr fun gs19 w19 H19=>wX [] ?_;clear H18;refine zb<|rL [.v,.E (.int .i64 (Qz.wrap (((((Qm x k 0)+(Qm y k 0))+c:Nat):Int).tdiv 65536))) (.int .i64 (((((Qm x k 0)+(Qm y k 0))+c) / 65536:Nat):Int)) (zf (xq (a:=((Qm x k 0)+(Qm y k 0))+c) (b:=65536) (by omega))),.v] H19 kr fun gs20 w20 H20=>?_;clear H19;refine wW<|zt [0,1,4,5,6,7,8,23] fun ρ4=>?_;have HK9:=H20.keep;clear H20;refine rL [.v,itI k 1,.v] HK9 kr fun gs21 w21 H21=>?_;clear HK9;have HL10:St w.heap.size w w21 [(b_5,Qk cur_7 3),((gs17 3).b,Qk #[.int .i64 (((((Qm x k 0)+(Qm y k 0))+c)%65536:Nat):Int)] 3 (0,0))]:=H21.as kr;clear H21;have hS2:=hS.go hx hy (by omega);have HD11:St w.heap.size w w21 [(b_5,Qk cur_7 3)]:=HL10.sub (Qq _ (Qs _ QS));show ∃m,_/\_;exact⟨_,(by have:=hS2.top;omega),b_5,cap_6,n+1,cur_7,l++ [(Qm x k 0+Qm y k 0+c)%65536],k+1,(Qm x k 0+Qm y k 0+c) / 65536,rfl,(by rw[Qx,<-hn];rfl),(by rw[um];exact hr_8),hS2,HD11,zl⟩
  ·refine rp [itF ((k:Int)<(Qo y:Int)),.v,.v,.v] H14 kr fun gs22 w22 H22=>wX [12,13] ?_;clear H14;by_cases hc12:(c:Nat)>0
   ·refine rp [itT (0<(c:Int)),.v] H22 kr fun gs23 w23 H23=>wX [] ?_;clear H22;refine zb<|zt [0,1,4,5,6,7,23] fun ρ5=>?_;have HK13:=H23.keep;clear H23;refine zh kr kr<|zj kr<|wW<|za kr<|zm 1 kr<|rS [.v,.v,.cp (pre:=fun w=>w.heap[ba]? =some (.cells curA 3)) (yB x ba (Qo x) ca curA rfl hA (by omega) k (by omega)) [] (fun w hb hd=>((hb.block _ (zo hpre.1)).trans hpre.1)),.v,.v,.cp (pre:=fun w=>w.heap[bb]? =some (.cells curB 3)) (yB y bb (Qo y) cb curB rfl hB (by omega) k (by omega)) [] (fun w hb hd=>((hb.block _ (zo hpre.2)).trans hpre.2)),.E (.int .i64 (Qz.wrap (((Qm x k 0:Nat):Int)+((Qm y k 0:Nat):Int)))) (.int .i64 (((Qm x k 0)+(Qm y k 0):Nat):Int)) (zf (ya (a:=Qm x k 0) (b:=Qm y k 0) (by omega))),.v,.E (.int .i64 (Qz.wrap ((((Qm x k 0)+(Qm y k 0):Nat):Int)+(c:Int)))) (.int .i64 ((((Qm x k 0)+(Qm y k 0))+c:Nat):Int)) (zf (ya (a:=(Qm x k 0)+(Qm y k 0)) (b:=c) (by omega))),.v] HK13 kr fun gs24 w24 H24=>?_;clear HK13;refine zd [0,1,2,3,4,5] kr kr<|rp [.v,.v,.E (.int .i64 (UA ((((Qm x k 0)+(Qm y k 0))+c:Nat):Int) 65536)) (.int .i64 (((((Qm x k 0)+(Qm y k 0))+c)%65536:Nat):Int)) (zf (qw (((Qm x k 0)+(Qm y k 0))+c) 65536)),.nw (fun b=>Qf b 1 1) #[.int .i64 (((((Qm x k 0)+(Qm y k 0))+c)%65536:Nat):Int)] 3] H24 kr fun gs25 w25 H25=>wX [4,5] ?_;clear H24;refine vI H25 (some 39) 164 3 1 8 (.tmp 35) (.tmp 38) 0 1 b ((gs25 3).b) n 1 cap 1 cur #[.int .i64 (((((Qm x k 0)+(Qm y k 0))+c)%65536:Nat):Int)] 3 (0,0) (zW l) ([.int .i64 (((((Qm x k 0)+(Qm y k 0))+c)%65536:Nat):Int)]) (fun b_9 cur_11=>[(b_9,Qk cur_11 3),((gs25 3).b,Qk #[.int .i64 (((((Qm x k 0)+(Qm y k 0))+c)%65536:Nat):Int)] 3 (0,0))]) kr kr kr kr kr hr kr kr (by rfl) (by rfl) (by intro u hu;simp at hu;first | exact hu.elim | (rcases hu with rfl | rfl | rfl | rfl<;>rfl) | (rcases hu with rfl | rfl<;>rfl) | (subst hu;rfl)) (by omega) (by unfold maxLen;omega) (fun _ _=>by kernel_rfl) ?_;intro b_9 cap_10 cur_11 w26 H26 hr_12;clear H25;refine rp [.v] H26 kr fun gs27 w27 H27=>wX [] ?_;clear H26;refine zb<|rL [.v,.E (.int .i64 (Qz.wrap (((((Qm x k 0)+(Qm y k 0))+c:Nat):Int).tdiv 65536))) (.int .i64 (((((Qm x k 0)+(Qm y k 0))+c) / 65536:Nat):Int)) (zf (xq (a:=((Qm x k 0)+(Qm y k 0))+c) (b:=65536) (by omega))),.v] H27 kr fun gs28 w28 H28=>?_;clear H27;refine wW<|zt [0,1,4,5,6,7,8,23] fun ρ6=>?_;have HK14:=H28.keep;clear H28;refine rL [.v,itI k 1,.v] HK14 kr fun gs29 w29 H29=>?_;clear HK14;have HL15:St w.heap.size w w29 [(b_9,Qk cur_11 3),((gs25 3).b,Qk #[.int .i64 (((((Qm x k 0)+(Qm y k 0))+c)%65536:Nat):Int)] 3 (0,0))]:=H29.as kr;clear H29;have hS2:=hS.go hx hy (by omega);have HD16:St w.heap.size w w29 [(b_9,Qk cur_11 3)]:=HL15.sub (Qq _ (Qs _ QS));show ∃m,_/\_;exact⟨_,(by have:=hS2.top;omega),b_9,cap_10,n+1,cur_11,l++ [(Qm x k 0+Qm y k 0+c)%65536],k+1,(Qm x k 0+Qm y k 0+c) / 65536,rfl,(by rw[Qx,<-hn];rfl),(by rw[um];exact hr_12),hS2,HD16,zl⟩
   ·refine rp [itF (0<(c:Int)),.v] H22 kr fun gs30 w30 H30=>wX [] ?_;clear H22;refine zb<|zt [0,1,4,5,6,7,23] fun ρ7=>?_;have HK17:=H30.keep;clear H30;refine zi kr kr<|zE 0 kr<|wW<|rS [.v,.v] HK17 kr fun gs31 w31 H31=>?_;clear HK17;refine zk kr<|wV ?_;refine⟨[Qf b n cap],(.tmp (Qf b n cap) kr .nil),H31.below,?_⟩;exact⟨b,cap,_,_,l,rfl,H31.ge 0 (o:=.cells cur 3) kr,H31.get 0 kr,hn,hr,hok,hS.done (by omega) (by omega) (by omega),by omega,by omega⟩
theorem zgg (x y:List Nat)(ba nx ca bb ny cb:Nat)(curA curB:Qd)(hnx:nx=Qo x)(hny:ny=Qo y)(hA:Rw 1 curA ca nx (zW x))(hB:Rw 1 curB cb ny (zW y))(hx:Ok x)(hy:Ok y)(lx:Qo x<=5000)(ly:Qo y<=5000):FnP Tryz.prog 123 #[Qf ba nx ca,Qf bb ny cb] (fun w=>w.heap[ba]? =some (.cells curA 3)/\w.heap[bb]? =some (.cells curB 3)) (.bool (ls x y)):=by
 subst hnx hny;refine zR [.tmp 4] 35 Tryz.func123 fun w hpre=>?_;have H0:=St.start w;refine rS [.v] H0 kr fun gs1 w1 H1=>?_;clear H0;refine rS [.v,.v,.v] H1 kr fun gs2 w2 H2=>?_;clear H1;refine za kr<|zd [0,1,2,3] kr kr<|rp [.v,.v,.v] H2 kr fun gs3 w3 H3=>wX [3] ?_;clear H2;by_cases hc1:(Qo y:Nat)>Qo x
 ·refine rp [itT ((Qo x:Int)<(Qo y:Int))] H3 kr fun gs4 w4 H4=>wX [] ?_;clear H3;refine zb<|zh kr kr<|rL [.v,.v,.v] H4 kr fun gs5 w5 H5=>?_;clear H4;refine wW<|za kr<|rS [.v,.E (.int .i64 (Qz.wrap ((Qo y:Int)-1))) (.int .i64 ((Qo y:Int)-1)) (zf (wrap_i64 (by omega) (by omega))),.v] H5 kr fun gs6 w6 H6=>?_;clear H5;refine zm 0 kr ?_;have HL2:St w.heap.size w w6 []:=H6.as kr;clear H6;refine zO kr (fun mz ρ ww=> ∃(j:Nat),j=mz/\(j<=5000)/\(xM x y ((j:Int)-1))/\St w.heap.size w ww []/\Is [(0,Qf ba (Qo x) ca),(1,Qf bb (Qo y) cb),(5,.int .i64 (Qo y:Int)),(6,.int .i64 ((j:Int)-1)),(12,.bool true)] ρ) (Qo y) ⟨Qo y,rfl,(by omega),(xM.start x y _ (by omega) (by omega)),HL2,zl⟩ ?_;clear HL2;rintro _ _ w7 ⟨j,rfl,hj,hs,H7,_,rfl⟩;refine za kr<|zd [0,1] kr kr<|rp [.v] H7 kr fun gs8 w8 H8=>wX [1] ?_;clear H7;by_cases hc3:((j:Int)-1:Int)≥0
  ·refine rp [itT (0<=(j:Int)-1)] H8 kr fun gs9 w9 H9=>wX [] ?_;clear H8;refine zb<|zh kr kr<|zj kr<|wW<|za kr<|zm 1 kr<|zd [0,1,2,3,4,5,6] kr kr<|rp [.v] H9 kr fun gs10 w10 H10=>wX [1,2,3,4,5,6] ?_;clear H9;refine zL 6 (v:=.int .i64 ((j:Int)-1)) (v':=.int .i64 ((j-1:Nat):Int)) (zf (show ((j:Int)-1)=((j-1:Nat):Int) from by omega)) kr<|zL 17 (v:=.int .i64 ((j:Int)-1)) (v':=.int .i64 ((j-1:Nat):Int)) (zf (show ((j:Int)-1)=((j-1:Nat):Int) from by omega)) kr<|rp [.v,.cp (pre:=fun w=>w.heap[ba]? =some (.cells curA 3)) (yB x ba (Qo x) ca curA rfl hA (by omega) (j-1) (by omega)) [] (fun w hb hd=>((hb.block _ (zo hpre.1)).trans hpre.1)),.v,.v,.cp (pre:=fun w=>w.heap[bb]? =some (.cells curB 3)) (yB y bb (Qo y) cb curB rfl hB (by omega) (j-1) (by omega)) [] (fun w hb hd=>((hb.block _ (zo hpre.2)).trans hpre.2))] H10 kr fun gs11 w11 H11=>wX [6] ?_;clear H10;by_cases hc4:(Qm x (j-1) 0:Nat)≠Qm y (j-1) 0
   ·refine rp [.E (.bool (!(((Qm x (j-1) 0:Nat):Int)==((Qm y (j-1) 0:Nat):Int)))) (.bool true) (zc (by rw[beq_eq_false_iff_ne.2 (by omega)];rfl))] H11 kr fun gs12 w12 H12=>wX [] ?_;clear H11;refine zb<|zt [0,1,5,6,12,18,27] fun ρ1=>?_;have HK5:=H12.keep;clear H12;refine zh kr kr<|rS [.v,.v,.cp (pre:=fun w=>w.heap[ba]? =some (.cells curA 3)) (yB x ba (Qo x) ca curA rfl hA (by omega) (j-1) (by omega)) [] (fun w hb hd=>((hb.block _ (zo hpre.1)).trans hpre.1)),.v,.v,.cp (pre:=fun w=>w.heap[bb]? =some (.cells curB 3)) (yB y bb (Qo y) cb curB rfl hB (by omega) (j-1) (by omega)) [] (fun w hb hd=>((hb.block _ (zo hpre.2)).trans hpre.2)),.E (.bool (decide (((Qm x (j-1) 0:Nat):Int)<((Qm y (j-1) 0:Nat):Int)))) (.bool (ls x y)) (zc (zgc hx hy (j-1) (fun t ht=>hs t (by omega)) (by unfold dAt;omega))),.v] HK5 kr fun gs13 w13 H13=>?_;clear HK5;refine zk kr<|wV ?_;refine⟨[.bool (ls x y)],(.tmp (.bool (ls x y)) kr .nil),?_,H13.below⟩;rfl
   ·refine rp [.E (.bool (!(((Qm x (j-1) 0:Nat):Int)==((Qm y (j-1) 0:Nat):Int)))) (.bool false) (zc (by rw[beq_iff_eq.2 (by omega)];rfl))] H11 kr fun gs14 w14 H14=>wX [] ?_;clear H11;refine zb<|zt [0,1,5,6,12,18,27] fun ρ2=>?_;have HK6:=H14.keep;clear H14;refine zi kr kr<|zj kr<|wW<|rL [.v,.E (.int .i64 (Qz.wrap (((j-1:Nat):Int)-1))) (.int .i64 (((j-1:Nat):Int)-1)) (zf (wrap_i64 (by omega) (by omega))),.v] HK6 kr fun gs15 w15 H15=>?_;clear HK6;have HL7:St w.heap.size w w15 []:=H15.as kr;clear H15;show ∃m,_/\_;exact⟨_,(by omega),(j-1),rfl,(by omega),(xM.down (j:=j-1) (fun t ht=>hs t (by omega)) (by unfold dAt;omega)),HL7,zl⟩
  ·refine rp [itF (0<=(j:Int)-1)] H8 kr fun gs16 w16 H16=>wX [] ?_;clear H8;refine zb<|zi kr kr<|zE 0 kr<|wW<|rS [.v] H16 kr fun gs17 w17 H17=>?_;clear H16;refine zk kr<|wV ?_;refine⟨[.bool false],(.tmp (.bool false) kr .nil),?_,H17.below⟩;exact congrArg RV (zgd (x:=x) (y:=y) fun t=>hs t (by omega)).symm
 ·refine rp [itF ((Qo x:Int)<(Qo y:Int))] H3 kr fun gs18 w18 H18=>wX [] ?_;clear H3;refine zb<|zi kr kr<|zj kr<|wW<|za kr<|rS [.v,.E (.int .i64 (Qz.wrap ((Qo x:Int)-1))) (.int .i64 ((Qo x:Int)-1)) (zf (wrap_i64 (by omega) (by omega))),.v] H18 kr fun gs19 w19 H19=>?_;clear H18;refine zm 0 kr ?_;have HL8:St w.heap.size w w19 []:=H19.as kr;clear H19;refine zO kr (fun mz ρ ww=> ∃(j:Nat),j=mz/\(j<=5000)/\(xM x y ((j:Int)-1))/\St w.heap.size w ww []/\Is [(0,Qf ba (Qo x) ca),(1,Qf bb (Qo y) cb),(5,.int .i64 (Qo x:Int)),(6,.int .i64 ((j:Int)-1)),(12,.bool false)] ρ) (Qo x) ⟨Qo x,rfl,(by omega),(xM.start x y _ (by omega) (by omega)),HL8,zl⟩ ?_;clear HL8;rintro _ _ w20 ⟨j,rfl,hj,hs,H20,_,rfl⟩;refine za kr<|zd [0,1] kr kr<|rp [.v] H20 kr fun gs21 w21 H21=>wX [1] ?_;clear H20;by_cases hc9:((j:Int)-1:Int)≥0
  ·refine rp [itT (0<=(j:Int)-1)] H21 kr fun gs22 w22 H22=>wX [] ?_;clear H21;refine zb<|zh kr kr<|zj kr<|wW<|za kr<|zm 1 kr<|zd [0,1,2,3,4,5,6] kr kr<|rp [.v] H22 kr fun gs23 w23 H23=>wX [1,2,3,4,5,6] ?_;clear H22;refine zL 6 (v:=.int .i64 ((j:Int)-1)) (v':=.int .i64 ((j-1:Nat):Int)) (zf (show ((j:Int)-1)=((j-1:Nat):Int) from by omega)) kr<|zL 17 (v:=.int .i64 ((j:Int)-1)) (v':=.int .i64 ((j-1:Nat):Int)) (zf (show ((j:Int)-1)=((j-1:Nat):Int) from by omega)) kr<|rp [.v,.cp (pre:=fun w=>w.heap[ba]? =some (.cells curA 3)) (yB x ba (Qo x) ca curA rfl hA (by omega) (j-1) (by omega)) [] (fun w hb hd=>((hb.block _ (zo hpre.1)).trans hpre.1)),.v,.v,.cp (pre:=fun w=>w.heap[bb]? =some (.cells curB 3)) (yB y bb (Qo y) cb curB rfl hB (by omega) (j-1) (by omega)) [] (fun w hb hd=>((hb.block _ (zo hpre.2)).trans hpre.2))] H23 kr fun gs24 w24 H24=>wX [6] ?_;clear H23;by_cases hc10:(Qm x (j-1) 0:Nat)≠Qm y (j-1) 0
   ·refine rp [.E (.bool (!(((Qm x (j-1) 0:Nat):Int)==((Qm y (j-1) 0:Nat):Int)))) (.bool true) (zc (by rw[beq_eq_false_iff_ne.2 (by omega)];rfl))] H24 kr fun gs25 w25 H25=>wX [] ?_;clear H24;refine zb<|zt [0,1,5,6,12,18,27] fun ρ3=>?_;have HK11:=H25.keep;clear H25;refine zh kr kr<|rS [.v,.v,.cp (pre:=fun w=>w.heap[ba]? =some (.cells curA 3)) (yB x ba (Qo x) ca curA rfl hA (by omega) (j-1) (by omega)) [] (fun w hb hd=>((hb.block _ (zo hpre.1)).trans hpre.1)),.v,.v,.cp (pre:=fun w=>w.heap[bb]? =some (.cells curB 3)) (yB y bb (Qo y) cb curB rfl hB (by omega) (j-1) (by omega)) [] (fun w hb hd=>((hb.block _ (zo hpre.2)).trans hpre.2)),.E (.bool (decide (((Qm x (j-1) 0:Nat):Int)<((Qm y (j-1) 0:Nat):Int)))) (.bool (ls x y)) (zc (zgc hx hy (j-1) (fun t ht=>hs t (by omega)) (by unfold dAt;omega))),.v] HK11 kr fun gs26 w26 H26=>?_;clear HK11;refine zk kr<|wV ?_;refine⟨[.bool (ls x y)],(.tmp (.bool (ls x y)) kr .nil),?_,H26.below⟩;rfl
   ·refine rp [.E (.bool (!(((Qm x (j-1) 0:Nat):Int)==((Qm y (j-1) 0:Nat):Int)))) (.bool false) (zc (by rw[beq_iff_eq.2 (by omega)];rfl))] H24 kr fun gs27 w27 H27=>wX [] ?_;clear H24;refine zb<|zt [0,1,5,6,12,18,27] fun ρ4=>?_;have HK12:=H27.keep;clear H27;refine zi kr kr<|zj kr<|wW<|rL [.v,.E (.int .i64 (Qz.wrap (((j-1:Nat):Int)-1))) (.int .i64 (((j-1:Nat):Int)-1)) (zf (wrap_i64 (by omega) (by omega))),.v] HK12 kr fun gs28 w28 H28=>?_;clear HK12;have HL13:St w.heap.size w w28 []:=H28.as kr;clear H28;show ∃m,_/\_;exact⟨_,(by omega),(j-1),rfl,(by omega),(xM.down (j:=j-1) (fun t ht=>hs t (by omega)) (by unfold dAt;omega)),HL13,zl⟩
  ·refine rp [itF (0<=(j:Int)-1)] H21 kr fun gs29 w29 H29=>wX [] ?_;clear H21;refine zb<|zi kr kr<|zE 0 kr<|wW<|rS [.v] H29 kr fun gs30 w30 H30=>?_;clear H29;refine zk kr<|wV ?_;refine⟨[.bool false],(.tmp (.bool false) kr .nil),?_,H30.below⟩;exact congrArg RV (zgd (x:=x) (y:=y) fun t=>hs t (by omega)).symm
theorem zlC (x y:List Nat)(ba nx ca bb ny cb:Nat)(curA curB:Qd)(hnx:nx=Qo x)(hny:ny=Qo y)(hA:Rw 1 curA ca nx (zW x))(hB:Rw 1 curB cb ny (zW y))(hx:Ok x)(hy:Ok y)(lx:Qo x<=5000)(ly:Qo y<=5000):FnR Tryz.prog 119 #[Qf ba nx ca,Qf bb ny cb] (fun w=>w.heap[ba]? =some (.cells curA 3)/\w.heap[bb]? =some (.cells curB 3)) (vK 3 1 (fun cur cap n l=>(n=Qo l/\Rw 1 cur cap n (zW l)/\Ok l/\(vl l=vl x*vl y/\Qo l=Qo x+Qo y+1)))):=by
 subst hnx hny;refine vF [.tmp 4] 60 Tryz.func119 fun w hpre=>?_;have H0:=St.start w;refine rS [.v] H0 kr fun gs1 w1 H1=>?_;clear H0;refine zd [0,1,2,3,4,5,6,7] kr kr<|rp [.v,.v,.v,.v,.E (.int .i64 (Qz.wrap ((Qo x:Int)+(Qo y:Int)))) (.int .i64 (((Qo x)+(Qo y):Nat):Int)) (zf (ya (a:=Qo x) (b:=Qo y) (by omega))),.E (.int .i64 (Qz.wrap ((((Qo x)+(Qo y):Nat):Int)+1))) (.int .i64 ((((Qo x)+(Qo y))+1:Nat):Int)) (zf (ya (a:=(Qo x)+(Qo y)) (b:=1) (by omega)))] H1 kr fun gs2 w2 H2=>wX [6,7] ?_;clear H1;refine zfJ H2 (some 16) 163 3 8 (.int .i64 0) (.tmp 15) (.tmp 15) .i64 .i64 (((Qo x)+(Qo y))+1) kr kr kr kr rfl kr kr (by omega) (by unfold maxLen;omega) ?_;intro b_1 cur_2 w3 H3 hr_3;clear H2;have hr_3z:Rw 1 cur_2 (((Qo x)+(Qo y))+1) (((Qo x)+(Qo y))+1) (zW (RB (((Qo x)+(Qo y))+1) 0)):=by unfold zW;rw[List.map_replicate];exact hr_3
 refine rp [.v] H3 kr fun gs4 w4 H4=>wX [] ?_;clear H3;refine zb<|za kr<|rS [.v,.v,.v] H4 kr fun gs5 w5 H5=>?_;clear H4;refine zm 0 kr ?_;have HL1:St w.heap.size w w5 [(b_1,Qk cur_2 3)]:=H5.as kr;clear H5;refine zO kr (fun mz ρ ww=> ∃(b:Nat) (cap:Nat) (n:Nat) (cur:Qd) (l:List Nat) (i:Nat),Qo x+1-i=mz/\(n=Qo l)/\(Rw 1 cur cap n (zW l))/\(i<=Qo x)/\(Qo l=Qo x+Qo y+1)/\(Ok l)/\(vl l=vl (Re i x)*vl y)/\St w.heap.size w ww [(b,Qk cur 3)]/\Is [(0,Qf ba (Qo x) ca),(1,Qf bb (Qo y) cb),(4,.slice none 0 0),(5,Qf b n cap),(18,.int .i64 (Qo x:Int)),(19,.int .i64 (i:Int))] ρ) (Qo x+1-0) ⟨b_1,((Qo x)+(Qo y))+1,((Qo x)+(Qo y))+1,cur_2,(RB (((Qo x)+(Qo y))+1) 0),0,rfl,(by rw[List.length_replicate]),hr_3z,(by omega),(by rw[List.length_replicate]),(zlt _),(by rw[zls];simp[vl]),HL1,zl⟩ ?_;clear HL1;rintro _ _ w6 ⟨b,cap,n,cur,l,i,rfl,hn,hr,hi,hl,hok,hv,H6,_,rfl⟩;by_cases hc2:(i:Nat)<Qo x
 ·refine rS [itT ((i:Int)<(Qo x:Int))] H6 kr fun gs7 w7 H7=>?_;clear H6;refine za kr<|zh kr kr<|zj kr<|wW<|za kr<|zm 1 kr<|rS [.v,.v] H7 kr fun gs8 w8 H8=>?_;clear H7;refine rS [.v] H8 kr fun gs9 w9 H9=>?_;clear H8;refine rS [.v] H9 kr fun gs10 w10 H10=>?_;clear H9;refine zm 2 kr ?_;have HL3:St w.heap.size w w10 [(b,Qk cur 3)]:=H10.as kr;clear H10;refine zO kr (fun mz ρ ww=> ∃(b2:Nat) (cap2:Nat) (n2:Nat) (cur2:Qd) (l2:List Nat) (k:Nat) (c:Nat),Qo y+2-k=mz/\(n2=Qo l2)/\(Rw 1 cur2 cap2 n2 (zW l2))/\(kE x y l2 i k c)/\St w.heap.size w ww [(b2,Qk cur2 3)]/\Is [(0,Qf ba (Qo x) ca),(1,Qf bb (Qo y) cb),(4,.slice none 0 0),(5,Qf b2 n2 cap2),(6,.int .i64 (i:Int)),(7,.int .i64 (c:Int)),(8,.int .i64 (k:Int)),(18,.int .i64 (Qo x:Int)),(19,.int .i64 (i:Int)),(20,.bool true)] ρ) (Qo y+2-0) ⟨b,cap,n,cur,l,0,0,rfl,hn,hr,(kE.start hl hok (by omega) hv),HL3,zl⟩ ?_;clear HL3;rintro _ _ w11 ⟨b2,cap2,n2,cur2,l2,k,c,rfl,hn2,hr2,hM,H11,_,rfl⟩;have hcw:=hM.cw;have htop:=hM.top;have hii:=hM.hi;have hlen2:=hM.len;have ho:=yK hM.ok (i+k);have hxi:=yK hx i;have hyk:=yK hy k;have hm:Qm x i 0*Qm y k 0<=65535*65535:=Wy (by omega) (by omega);refine za kr<|zd [0,1,2,3,4,5,6,7] kr kr<|rp [.v,.v,.v] H11 kr fun gs12 w12 H12=>wX [3,4,5,6,7] ?_;clear H11;by_cases hc4:(k:Nat)<Qo y
  ·refine rp [itT ((k:Int)<(Qo y:Int)),.v,.n,.n,.v] H12 kr fun gs13 w13 H13=>wX [] ?_;clear H12;refine zb<|zt [0,1,4,5,6,7,8,18,19,20,29] fun ρ1=>?_;have HK5:=H13.keep;clear H13;refine zh kr kr<|zj kr<|wW<|za kr<|zm 3 kr ?_;obtain⟨hij,hM2⟩:=hM.next hx hy (by omega)
   refine dS [.v,.v,.v,.E (.int .i64 (Qz.wrap ((i:Int)+(k:Int)))) (.int .i64 ((i+k:Nat):Int)) (zf (ya (a:=i) (b:=k) (by omega))),itX 32 35 163 3 1 8 b2 0 n2 cap2 (i+k) rfl,.ls (C:=cur2) (off:=0+(i+k)*1) (v:=.int .i64 ((Qm l2 (i+k) 0:Nat):Int)) 0 (hr2.atD (by omega) hn2),.v,.v,itX 38 39 164 3 1 8 ba 0 (Qo x) ca i rfl,.fs (off:=0+i*1) (v:=.int .i64 ((Qm x i 0:Nat):Int)) hpre.1 (zo hpre.1) (hA.atD (by omega) rfl),.v,.v,.cp (pre:=fun w=>w.heap[bb]? =some (.cells curB 3)) (yB y bb (Qo y) cb curB rfl hB (by omega) k (by omega)) [] (fun w hb hd=>((hb.block _ (zo hpre.2)).trans hpre.2)),.E (.int .i64 (Qz.wrap (((Qm x i 0:Nat):Int)*((Qm y k 0:Nat):Int)))) (.int .i64 (((Qm x i 0)*(Qm y k 0):Nat):Int)) (zf (ja (a:=Qm x i 0) (b:=Qm y k 0) (by omega))),.E (.int .i64 (Qz.wrap (((Qm l2 (i+k) 0:Nat):Int)+(((Qm x i 0)*(Qm y k 0):Nat):Int)))) (.int .i64 (((Qm l2 (i+k) 0)+((Qm x i 0)*(Qm y k 0)):Nat):Int)) (zf (ya (a:=Qm l2 (i+k) 0) (b:=(Qm x i 0)*(Qm y k 0)) (by omega))),.v,.E (.int .i64 (Qz.wrap ((((Qm l2 (i+k) 0)+((Qm x i 0)*(Qm y k 0)):Nat):Int)+(c:Int)))) (.int .i64 ((((Qm l2 (i+k) 0)+((Qm x i 0)*(Qm y k 0)))+c:Nat):Int)) (zf (ya (a:=(Qm l2 (i+k) 0)+((Qm x i 0)*(Qm y k 0))) (b:=c) (by omega))),.v] HK5 kr fun w14 H14=>?_;clear HK5;refine zt [0,1,4,5,6,7,8,9,18,19,20,29] fun ρ2=>?_;have HK6:=H14.keep;clear H14;refine zd [0,1,2,3,4,5,6,7] kr kr<|rp [.v,.v,.v,.E (.int .i64 (Qz.wrap ((i:Int)+(k:Int)))) (.int .i64 ((i+k:Nat):Int)) (zf (ya (a:=i) (b:=k) (by omega))),.v,.E (.int .i64 (UA ((((Qm l2 (i+k) 0)+((Qm x i 0)*(Qm y k 0)))+c:Nat):Int) 65536)) (.int .i64 (((((Qm l2 (i+k) 0)+((Qm x i 0)*(Qm y k 0)))+c)%65536:Nat):Int)) (zf (qw (((Qm l2 (i+k) 0)+((Qm x i 0)*(Qm y k 0)))+c) 65536)),itX 49 52 163 3 1 8 b2 0 n2 cap2 (i+k) rfl] HK6 kr fun gs15 w15 H15=>wX [7] ?_;clear HK6;obtain⟨cur_4,hc_5,hs_6,hr_7⟩:=hr2.put (i+k) ((((Qm l2 (i+k) 0)+((Qm x i 0)*(Qm y k 0)))+c)%65536) (by omega);refine rp [.se (C:=cur2) (C':=cur_4) (off:=0+(i+k)*1) (v:=.int .i64 (((((Qm l2 (i+k) 0)+((Qm x i 0)*(Qm y k 0)))+c)%65536:Nat):Int)) 0 hs_6 hc_5] H15 kr fun gs16 w16 H16=>wX [] ?_;clear H15;refine zb<|rL [.v,.E (.int .i64 (Qz.wrap (((((Qm l2 (i+k) 0)+((Qm x i 0)*(Qm y k 0)))+c:Nat):Int).tdiv 65536))) (.int .i64 (((((Qm l2 (i+k) 0)+((Qm x i 0)*(Qm y k 0)))+c) / 65536:Nat):Int)) (zf (xq (a:=((Qm l2 (i+k) 0)+((Qm x i 0)*(Qm y k 0)))+c) (b:=65536) (by omega))),.v] H16 kr fun gs17 w17 H17=>?_;clear H16;refine wW<|rL [.v,itI k 1,.v] H17 kr fun gs18 w18 H18=>?_;clear H17;have HL7:St w.heap.size w w18 [(b2,Qk cur_4 3)]:=H18.as kr;clear H18;show ∃m,_/\_;exact⟨_,(by have:=hM2.top;omega),b2,cap2,n2,cur_4,(List.set l2 (i+k) ((((Qm l2 (i+k) 0)+((Qm x i 0)*(Qm y k 0)))+c)%65536)),k+1,(Qm l2 (i+k) 0+Qm x i 0*Qm y k 0+c) / 65536,rfl,(by rw[Wh];exact hn2),hr_7,hM2,HL7,zl⟩
  ·refine rp [itF ((k:Int)<(Qo y:Int)),.v,.v] H12 kr fun gs19 w19 H19=>wX [6,7] ?_;clear H12;by_cases hc8:(c:Nat)>0
   ·refine rp [itT (0<(c:Int)),.v] H19 kr fun gs20 w20 H20=>wX [] ?_;clear H19;refine zb<|zt [0,1,4,5,6,7,8,18,19,20,29] fun ρ3=>?_;have HK9:=H20.keep;clear H20;refine zh kr kr<|zj kr<|wW<|za kr<|zm 3 kr ?_;obtain⟨hij,hM2⟩:=hM.next hx hy (by omega)
    refine dS [.v,.v,.v,.E (.int .i64 (Qz.wrap ((i:Int)+(k:Int)))) (.int .i64 ((i+k:Nat):Int)) (zf (ya (a:=i) (b:=k) (by omega))),itX 32 35 163 3 1 8 b2 0 n2 cap2 (i+k) rfl,.ls (C:=cur2) (off:=0+(i+k)*1) (v:=.int .i64 ((Qm l2 (i+k) 0:Nat):Int)) 0 (hr2.atD (by omega) hn2),.v,.v,itX 38 39 164 3 1 8 ba 0 (Qo x) ca i rfl,.fs (off:=0+i*1) (v:=.int .i64 ((Qm x i 0:Nat):Int)) hpre.1 (zo hpre.1) (hA.atD (by omega) rfl),.v,.v,.cp (pre:=fun w=>w.heap[bb]? =some (.cells curB 3)) (yB y bb (Qo y) cb curB rfl hB (by omega) k (by omega)) [] (fun w hb hd=>((hb.block _ (zo hpre.2)).trans hpre.2)),.E (.int .i64 (Qz.wrap (((Qm x i 0:Nat):Int)*((Qm y k 0:Nat):Int)))) (.int .i64 (((Qm x i 0)*(Qm y k 0):Nat):Int)) (zf (ja (a:=Qm x i 0) (b:=Qm y k 0) (by omega))),.E (.int .i64 (Qz.wrap (((Qm l2 (i+k) 0:Nat):Int)+(((Qm x i 0)*(Qm y k 0):Nat):Int)))) (.int .i64 (((Qm l2 (i+k) 0)+((Qm x i 0)*(Qm y k 0)):Nat):Int)) (zf (ya (a:=Qm l2 (i+k) 0) (b:=(Qm x i 0)*(Qm y k 0)) (by omega))),.v,.E (.int .i64 (Qz.wrap ((((Qm l2 (i+k) 0)+((Qm x i 0)*(Qm y k 0)):Nat):Int)+(c:Int)))) (.int .i64 ((((Qm l2 (i+k) 0)+((Qm x i 0)*(Qm y k 0)))+c:Nat):Int)) (zf (ya (a:=(Qm l2 (i+k) 0)+((Qm x i 0)*(Qm y k 0))) (b:=c) (by omega))),.v] HK9 kr fun w21 H21=>?_;clear HK9;refine zt [0,1,4,5,6,7,8,9,18,19,20,29] fun ρ4=>?_;have HK10:=H21.keep;clear H21;refine zd [0,1,2,3,4,5,6,7] kr kr<|rp [.v,.v,.v,.E (.int .i64 (Qz.wrap ((i:Int)+(k:Int)))) (.int .i64 ((i+k:Nat):Int)) (zf (ya (a:=i) (b:=k) (by omega))),.v,.E (.int .i64 (UA ((((Qm l2 (i+k) 0)+((Qm x i 0)*(Qm y k 0)))+c:Nat):Int) 65536)) (.int .i64 (((((Qm l2 (i+k) 0)+((Qm x i 0)*(Qm y k 0)))+c)%65536:Nat):Int)) (zf (qw (((Qm l2 (i+k) 0)+((Qm x i 0)*(Qm y k 0)))+c) 65536)),itX 49 52 163 3 1 8 b2 0 n2 cap2 (i+k) rfl] HK10 kr fun gs22 w22 H22=>wX [7] ?_;clear HK10;obtain⟨cur_8,hc_9,hs_10,hr_11⟩:=hr2.put (i+k) ((((Qm l2 (i+k) 0)+((Qm x i 0)*(Qm y k 0)))+c)%65536) (by omega);refine rp [.se (C:=cur2) (C':=cur_8) (off:=0+(i+k)*1) (v:=.int .i64 (((((Qm l2 (i+k) 0)+((Qm x i 0)*(Qm y k 0)))+c)%65536:Nat):Int)) 0 hs_10 hc_9] H22 kr fun gs23 w23 H23=>wX [] ?_;clear H22;refine zb<|rL [.v,.E (.int .i64 (Qz.wrap (((((Qm l2 (i+k) 0)+((Qm x i 0)*(Qm y k 0)))+c:Nat):Int).tdiv 65536))) (.int .i64 (((((Qm l2 (i+k) 0)+((Qm x i 0)*(Qm y k 0)))+c) / 65536:Nat):Int)) (zf (xq (a:=((Qm l2 (i+k) 0)+((Qm x i 0)*(Qm y k 0)))+c) (b:=65536) (by omega))),.v] H23 kr fun gs24 w24 H24=>?_;clear H23;refine wW<|rL [.v,itI k 1,.v] H24 kr fun gs25 w25 H25=>?_;clear H24;have HL11:St w.heap.size w w25 [(b2,Qk cur_8 3)]:=H25.as kr;clear H25;show ∃m,_/\_;exact⟨_,(by have:=hM2.top;omega),b2,cap2,n2,cur_8,(List.set l2 (i+k) ((((Qm l2 (i+k) 0)+((Qm x i 0)*(Qm y k 0)))+c)%65536)),k+1,(Qm l2 (i+k) 0+Qm x i 0*Qm y k 0+c) / 65536,rfl,(by rw[Wh];exact hn2),hr_11,hM2,HL11,zl⟩
   ·refine rp [itF (0<(c:Int)),.v] H19 kr fun gs26 w26 H26=>wX [] ?_;clear H19;refine zb<|zt [0,1,4,5,6,7,8,18,19,20,29] fun ρ5=>?_;have HK12:=H26.keep;clear H26;refine zi kr kr<|zE 2 kr<|wW<|rL [itI i 1,.v] HK12 kr fun gs27 w27 H27=>?_;clear HK12;have HL13:St w.heap.size w w27 [(b2,Qk cur2 3)]:=H27.as kr;clear H27;show ∃m,_/\_;exact⟨_,(by omega),b2,cap2,n2,cur2,l2,i+1,rfl,hn2,hr2,(by omega),hM.len,hM.ok,(hM.fin (by omega) (by omega)),HL13,zl⟩
 ·refine rS [itF ((i:Int)<(Qo x:Int))] H6 kr fun gs28 w28 H28=>?_;clear H6;refine za kr<|zi kr kr<|zE 0 kr<|wW<|rS [.v,.v] H28 kr fun gs29 w29 H29=>?_;clear H28;refine zk kr<|wV ?_;refine⟨[Qf b n cap],(.tmp (Qf b n cap) kr .nil),H29.below,?_⟩;obtain rfl:i=Qo x:=by omega
  exact⟨b,cap,_,_,l,rfl,H29.ge 0 (o:=.cells cur 3) kr,H29.get 0 kr,hn,hr,hok,by rw[hv,Qy (QH _)],hl⟩
end Go.Proofs.YtcjejfklpegobaaGreatDoor
