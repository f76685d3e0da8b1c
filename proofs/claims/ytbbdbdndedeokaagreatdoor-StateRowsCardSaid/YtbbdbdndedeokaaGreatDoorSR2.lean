/-
  Texts of the proof,part 2.
-/
import Derived.Laws.CopyRow
import Derived.Laws.Concat
import Derived.Lib.BufferWrite
import Derived.Laws.IdiomStrings
import Derived.Lib.UnsafeStr
import Derived.Lib.AppendZeros
import Derived.Lib.Overlaps
import Derived.Scope
import Derived.Deep.Upon
import Derived.Test.YtbbdbdndedeokaaGreatDoorRows
import Derived.ChangeArms
import Derived.ChangeSlices
import Derived.OpenShut
import Derived.Deep.Strs
import Derived.DataReads
import Derived.ProofKit
import Derived.WalkKit
import Derived.Test.YtbbdbdndedeokaaGreatDoorProg
import Derived.Lib.AppendStr
import Derived.Lib.Builder
import Derived.Test.YtbbdbdndedeokaaGreatDoorSR1
set_option maxRecDepth 100000
set_option maxHeartbeats 4000000
namespace Go.Proofs.YtbbdbdndedeokaaGreatDoor
open Go Go.RowKit
set_option linter.unusedVariables false
def zP (n:Nat)(f:Nat→Value):List Value:=(List.range n).map f
theorem xt (n:Nat)(f:Nat→Value):(zP n f).length=n:=by unfold zP;simp
theorem kt {n:Nat}{f:Nat→Value}{k:Nat}(h:k<n):(zP n f)[k]? =some (f k):=by unfold zP;simp [h]
theorem zir {n:Nat}{f g:Nat→Value}(h: ∀j,j<n→f j=g j):zP n f=zP n g:=by
 unfold zP;exact List.map_congr_left fun j hj=>h j (by simpa using hj)
theorem zis {n:Nat}{f g:Nat→Value}{k:Nat}{v:Value}(h:k<n)(hg: ∀j,j<n→g j=if j=k then v else f j):(zP n f).set k v=zP n g:=by
 apply List.ext_getElem?;intro j;rw [List.getElem?_set];by_cases hj:j<n
 ·rw [kt hj,kt hj,hg j hj];by_cases hkj:k=j
  ·subst hkj;rw [if_pos rfl,if_pos (by rw [xt];exact hj),if_pos rfl]
  ·rw [if_neg hkj,if_neg (fun e=>hkj e.symm)]
 ·have e1:(zP n f)[j]? =none:=List.getElem?_eq_none (by rw [xt];omega);have e2:(zP n g)[j]? =none:=List.getElem?_eq_none (by rw [xt];omega);rw [e1,e2,if_neg (by omega)]
theorem zit {C:Array Value}{pre post:List Value}{n:Nat}{f:Nat→Value}(hC:C.toList=pre++zP n f++post){off k:Nat}(ho:off=pre.length+k*1)(hk:k<n):C[off]? =some (f k):=by
 subst ho
 rw [←Array.getElem?_toList,hC,List.append_assoc,List.getElem?_append_right (by omega),show pre.length+k*1-pre.length=k by omega,
  List.getElem?_append_left (by rw [xt];exact hk),kt hk]
theorem vX {C:Array Value}{pre post:List Value}{n:Nat}{f g:Nat→Value}(hC:C.toList=pre++zP n f++post){off k:Nat}{v:Value}(hv:v.cells=#[v])(ho:off=pre.length+k*1)(hk:k<n)
 (hg: ∀j,j<n→g j=if j=k then v else f j):(C.toList.take off++v.cells.toList++C.toList.drop (off+v.cells.size)).toArray=(pre++zP n g++post).toArray:=by
 subst ho;congr 1;have hlt:pre.length+k*1<C.toList.length:=by rw [hC];simp [xt];omega
 rw [hv];show List.take _ _++ [v]++List.drop (_+1) _=_;have e:List.take (pre.length+k*1) C.toList++ [v]++List.drop (pre.length+k*1+1) C.toList=C.toList.set (pre.length+k*1) v:=by
  rw [List.set_eq_take_append_cons_drop,if_pos hlt,List.append_assoc];rfl
 rw [e,hC,List.append_assoc,List.set_append_right _ _ (by omega),show pre.length+k*1-pre.length=k by omega,List.set_append_left _ _ (by rw [xt];exact hk),zis hk hg,List.append_assoc]
theorem zbp {P:Program}{ρ:Env}{t e:TypeId}{n:Nat}(ht:P.underlying t=some (.array n e))(he:P.plainKey e=true)(hz:(P.info? e).map (·.size)=some 1){x y:Operand}{o:Oper}{kd:IntKind}(C:Array Value)(k:Nat)(v:Value)
 (ho:o.op=.index t x y) (hx:ev ρ x=.agg C) (hy:ev ρ y=.int kd (k:Int)) (hk:k<n) (hv:C[0+k*1]? =some v): ∀w,(execOp (ev ρ) o).run P w=.ok (.value v) w:=fun w=>by
 obtain ⟨it,hi,hsz⟩:=Option.map_eq_some_iff.1 hz;have hS:(sizeOf e).run P w=.ok 1 w:=by simp [sizeOf,typeInfo,hi,hsz]
 have hp:(part e C (k*1)).run P w=.ok v w:=run_part_plain w he (by rw [Nat.zero_add] at hv;exact hv);have h1:(0:Int)≤(k:Int)∧(k:Int)<(n:Int):=by omega
 unfold execOp;simp only [Nat.mul_one] at hp;simp [ho,hx,hy,Instr.index,asIntOf,run_underlying ht,hS,hp,hk]
theorem qR {P:Program}{ρ:Env}{t t':TypeId}{x y:Operand}{o:Oper}(a b:ByteArray)(w:World)(ho:o.op=.binOp .add t x y t')(hx:ev ρ x=.string a)(hy:ev ρ y=.string b)(h:a.size+b.size≤0x7fffffffffffffff):
 (execOp (ev ρ) o).run P w=.ok (.value (.string (a++b))) w:=by
 unfold execOp;simp [ho,hx,hy,eqGuard,binOp,run_string_add_sum w a b h]
theorem qg (a b:ByteArray):tl (a++b)=tl a++tl b:=by unfold tl;simp
def zbq (dT sT:TypeId)(x y:Operand):Op:=.call { callee:=.builtin .copy,args:=#[x,y],argTypes:=#[dT,sT] }
def cellsB (l:List UInt8):List Value:=l.map fun b=>Value.int .u8 (b.toNat:Int)
theorem qo (l:List UInt8):(cellsB l).length=l.length:=by unfold cellsB;simp
theorem xR (a b:List UInt8):cellsB (a++b)=cellsB a++cellsB b:=by unfold cellsB;simp
theorem zdS (l:List UInt8)(i:Nat)(hi:i<l.length):(cellsB l)[i]? =some (.int .u8 (((l.getD i 0).toNat:Nat):Int)):=by
 unfold cellsB;simp [hi]
theorem ziu {P:Program}{ρ:Env}{w:World}{dT sT e:TypeId}{bytes:Nat}{x y:Operand}{bd dLen dCap:Nat}{C C':Array Value}{T:TypeId}{s:ByteArray}
 (ht:ye P dT=some (e,1,bytes)) (hx:ev ρ x=.slice (some ⟨bd,0,none⟩) dLen dCap) (hy:ev ρ y=.string s)
 (hD:w.heap[bd]? =some (.cells C T (0,0))) (hle:s.size≤dLen) (hfit:s.size≤C.size)
 (hC:(cellsB (tl s)++C.toList.drop s.size).toArray=C') (o:Oper) (ho:o.op=zbq dT sT x y):(execOp (ev ρ) o).run P w=.ok (.value (.int .i64 (s.size:Int))) (w.setRow bd C'):=by
 obtain ⟨it,z,hu,hi,hz,hsz,hby,hzs,h0⟩:=yY ht;have hs1:(P.info? e).map (·.size)=some 1:=by rw [hi];simp [hsz]
 have hr:=Go.Lib.run_copy_row_string (P:=P) w dT sT o.type e bd 0 dLen dCap s C T hu hs1 hD hle (by omega);rw [show C.toList.take 0++Go.Lib.byteCells s.data.toList++C.toList.drop (0+s.size)=cellsB (tl s)++C.toList.drop s.size by unfold tl cellsB Go.Lib.byteCells;simp,hC] at hr;unfold execOp;simp only [ho,zbq,resolve,invoke,builtin,Sem.run_bind,Sem.run_pure,Result.andThen_ok,List.map_toArray,List.map_cons,List.map_nil,hx,hy,hr];rfl
def zb (l:List UInt8):ByteArray:=⟨l.toArray⟩
theorem yx (l:List UInt8):tl (zb l)=l:=rfl
theorem ku (s:ByteArray):zb (tl s)=s:=rfl
theorem zO (l:List UInt8):(zb l).size=l.length:=rfl
theorem zdT {P:Program}{ρ:Env}{t e:TypeId}{n z:Nat}(ht:P.underlying t=some (.array n e))(hz:(P.info? e).map (·.size)=some z){x:Operand}{o:Oper}(b:Nat)(ho:o.op=.slice t x none none none)(hx:ev ρ x=.pointer (some ⟨b,0,none⟩)):
 ∀w,(execOp (ev ρ) o).run P w=.ok (.value (.slice (some ⟨b,0,none⟩) n n)) w:=fun w=>by
 obtain ⟨it,hi,hsz⟩:=Option.map_eq_some_iff.1 hz;have hS:(sizeOf e).run P w=.ok z w:=by simp [sizeOf,typeInfo,hi,hsz]
 unfold execOp;simp [ho,hx,Instr.sliceAt,Instr.slice,Instr.sliceBounds,Instr.sureAddr,run_underlying ht,hS,yX]
theorem zdU (l:List UInt8):strOfNums (l.map fun b=>(b.toNat:Int))=zb l:=by
 unfold strOfNums zb;refine congrArg (fun l:List UInt8=>ByteArray.mk l.toArray) ?_;rw [List.map_map]
 conv=>rhs;rw [←List.map_id l]
 refine List.map_congr_left fun b _=>?_;apply UInt8.toNat_inj.1;simp
theorem Rw.atB {cur:Array Value}{cap n:Nat}{l:List UInt8}(h:Rw 1 cur cap n (cellsB l)){i:Nat}(hi:i<n)(hn:n=l.length):cur[0+i*1]? =some (.int .u8 (((l.getD i 0).toNat:Nat):Int)):=
 h.at1 hi (zdS l i (by omega))
theorem zdV (z:Nat):cellsB (List.replicate z 0)=List.replicate z (.int .u8 0):=by unfold cellsB;rw [List.map_replicate];rfl
theorem Rw.putB {cur:Array Value}{cap n:Nat}{l:List UInt8}(h:Rw 1 cur cap n (cellsB l))(i:Nat)(v:UInt8)(hi:i<n):
 ∃cur',(cur.toList.take (0+i*1)++(Value.int .u8 (v.toNat:Int)).cells.toList++cur.toList.drop (0+i*1+(Value.int .u8 (v.toNat:Int)).cells.size)).toArray=cur'∧(0+i*1+(Value.int .u8 (v.toNat:Int)).cells.size≤cur.size)∧Rw 1 cur' cap n (cellsB (l.set i v)):=by
 have h1:(Value.int .u8 (v.toNat:Int)).cells=#[.int .u8 (v.toNat:Int)]:=rfl;have hsz:=h.sz;have hle:=h.le;have hlt:i<cur.toList.length:=by simp;omega
 have e:cur.toList.take (0+i*1)++(Value.int .u8 (v.toNat:Int)).cells.toList++cur.toList.drop (0+i*1+(Value.int .u8 (v.toNat:Int)).cells.size)=cur.toList.set i (.int .u8 (v.toNat:Int)):=by
  rw [h1,Nat.zero_add,Nat.mul_one,List.set_eq_take_append_cons_drop,if_pos hlt];simp
 refine ⟨_,rfl,by rw [h1];simp;omega,?_⟩;rw [e];refine ⟨?_,h.le,h.max,?_,by simpa using hsz⟩
 ·have:=h.len;unfold cellsB at this ⊢;simpa using this
 ·have:=h.take;simp only [List.take_set,Nat.mul_one] at this ⊢;rw [this];unfold cellsB;simp [List.map_set]
theorem Rw.ints {cur:Array Value}{cap n:Nat}{l:List UInt8}(h:Rw 1 cur cap n (cellsB l)):Rw 1 cur cap n ((l.map fun b=>(b.toNat:Int)).map (Value.int .u8)):=by
 rw [List.map_map];exact h
def ziv (k:IntKind)(n:Nat):Value:=.agg (Array.replicate n (.int k 0))
def ju (n:Nat)(f:Nat→BitVec 8):Value:=.agg (zP n fun j=>.int .u8 (BitVec.toNat (f j):Int)).toArray
theorem ziw {n:Nat}{f g:Nat→BitVec 8}{k off:Nat}{x:BitVec 8}(ho:off=0+k*1)(hk:k<n)(hg: ∀j,j<n→g j=if j=k then x else f j):
 ((Value.cells (ju n f)).toList.take off++(Value.int .u8 (BitVec.toNat x:Int)).cells.toList++(Value.cells (ju n f)).toList.drop (off+(Value.int .u8 (BitVec.toNat x:Int)).cells.size)).toArray=Value.cells (ju n g):=by
 rw [vX (pre:=[]) (post:=[]) (n:=n) (f:=fun j=>.int .u8 (BitVec.toNat (f j):Int)) (g:=fun j=>.int .u8 (BitVec.toNat (g j):Int)) (by show zP n _=[]++zP n _++ [];simp) rfl (by simpa using ho) hk (fun j hj=>by rw [hg j hj];split<;>rfl)];simp;rfl
theorem zix (n:Nat)(f:Nat→BitVec 8)(hn:n≤maxLen):Rw 1 (Value.cells (ju n f)) n n (cellsB ((List.range n).map fun i=>UInt8.ofBitVec (f i))):=by
 have e:(Value.cells (ju n f)).toList=cellsB ((List.range n).map fun i=>UInt8.ofBitVec (f i)):=by
  show zP n _=_;unfold zP cellsB;rw [List.map_map];rfl
 rw [←e];have h2:(Value.cells (ju n f)).size=n*1:=by
  rw [←Array.length_toList,e,qo];simp
 exact Rw.lit _ n h2 hn
section
variable {P:Program}{N:Nat}{ops:Array Oper}{i:Nat}{r:List Nat}{K:Env→World→Prop}{ρ:Env}{w:World}{B:Nat}{w0:World}{l:List (Nat×Obj)}
theorem ziy (HS:St B w0 w l)(d:Option Nat)(dT sT e bytes:Nat)(x y:Operand)(jd bd dLen dCap:Nat)(s:ByteArray)(C C':Array Value)(T:TypeId)(l':List (Nat×Obj))
 (h:opk ops i ρ=some (d,true,zbq dT sT x y)) (hd:dOK d N=true) (ht:ye P dT=some (e,1,bytes)) (hx:ev ρ x=.slice (some ⟨bd,0,none⟩) dLen dCap) (hy:ev ρ y=.string s)
 (hj:l[jd]? =some (bd,.cells C T (0,0))) (hle:s.size≤dLen) (hfit:s.size≤C.size)
 (hC:(cellsB (tl s)++C.toList.drop s.size).toArray=C') (hl':l.set jd (bd,.cells C' T (0,0))=l') (kk: ∀w',St B w0 w' l'→WPs P N ops K r (zt ρ d (.int .i64 (s.size:Int))) w'):WPs P N ops K (i::r) ρ w:=by
 subst hl';exact vN d _ _ _ h hd (ziu ht hx hy (HS.get jd hj) hle hfit hC) (kk _ (HS.store jd hj))
theorem ziz (HS:St B w0 w l)(d:Option Nat)(t e:TypeId)(bytes:Nat)(z:Value)(x y:Operand)(kl kc:IntKind)(n c:Nat)(h:opk ops i ρ=some (d,true,.makeSlice t x y))(hd:dOK d N=true)(ht:ye P t=some (e,1,bytes))(hz:(P.info? e).bind (·.zero)=some z)(hzz:z.cells=#[z])
 (hx:ev ρ x=.int kl (n:Int)) (hy:ev ρ y=.int kc (c:Int)) (hnc:n≤c) (hb:bytes*c≤281474976710656) (hm:c≤maxLen)
 (kk: ∀b cur w',St B w0 w' ((b,.cells cur e (0,0))::l)→Rw 1 cur c n (List.replicate n z)→WPs P N ops K r (zt ρ d (.slice (some ⟨b,0,none⟩) n c)) w'):WPs P N ops K (i::r) ρ w:=by
 obtain ⟨o,ho,rfl,hw,hop⟩:=zI h;obtain ⟨it,z',hu,hi,hz',hsz,hby,hzs,h0⟩:=yY ht;obtain rfl:z'=z:=by rw [hi] at hz;simp [hz'] at hz;exact hz
 have hml:c≤0x7fffffffffffffff:=by have:=hm;simp only [maxLen] at this;omega
 have hbi:(it.bytes:Int)*(c:Int)≤281474976710656:=by
  rw [hby,←Int.natCast_mul];omega
 have hr:=run_make (P:=P) w t e it z' hu hi hz' kl kc (n:Int) (c:Int) (by omega) (by omega) hbi (by omega);simp only [Int.toNat_natCast,hsz,Nat.mul_one] at hr;have hmade:madeCells z'.cells c=Array.replicate c z':=by
  unfold madeCells;apply Array.ext
  ·simp
  ·intro q h1 h2;simp [hzz,Nat.mod_one]
 rw [hmade] at hr;refine WPo.run ho hw fun a ha=>?_;have hex:(execOp (ev ρ) o).run P w=.ok (.value (.slice (some ⟨w.heap.size,0,none⟩) n c)) (w.alloc (.cells (Array.replicate c z') e)):=by
  unfold execOp;simp only [hop,hx,hy,Sem.run_bind,hr,Result.andThen_ok];rfl
 rw [hex,Oper.upon_value];exact ⟨_,ha.put _ (zX hd) _,kk _ _ _ (HS.alloc _) ⟨by simp,hnc,hm,by simp [List.take_replicate,Nat.min_eq_left hnc],by simp⟩⟩
theorem kw (HS:St B w0 w l)(d:Option Nat)(t t' e:TypeId)(x:Operand)(j b n cap:Nat)(cur:Array Value)(T:TypeId)(fz:Nat×Nat)(xs:List UInt8)(h:opk ops i ρ=some (d,true,.convert t t' x))(hd:dOK d N=true)
 (ht:P.underlying t=some (.slice e)) (he:P.underlying e=some (.int .u8)) (ht':P.underlying t'=some .string)
 (hx:ev ρ x=.slice (some ⟨b,0,none⟩) n cap) (hj:l[j]? =some (b,.cells cur T fz)) (hr:Rw 1 cur cap n (cellsB xs))
 (kk:WPs P N ops K r (zt ρ d (.string (zb xs))) w):WPs P N ops K (i::r) ρ w:=
 ziq HS d t t' e x j b n cap cur T fz _ h hd ht he ht' hx hj hr.ints (by rw [zdU];exact kk)
end
namespace D2
section
variable {P:Program}{ops:Array Oper}{R:(Nat→Gh)→Env}{i:Nat}{d:Option Nat}
variable {E:(Nat→Bool)→(Nat→Gh)→List Ent}{F:(Nat→Bool)→(Nat→Gh)→Prop}{B:Nat}{w0:World}
end
end D2
end Go.Proofs.YtbbdbdndedeokaaGreatDoor
namespace Go.Proofs.YtbbdbdndedeokaaGreatDoor
open Go Go.RowKit
set_option linter.unusedVariables false
def Clr (fz:Nat×Nat)(cur:Array Value):Prop:=fz.2=0∨cur.size≤fz.1
theorem Clr.zero (cur:Array Value):Clr (0,0) cur:=.inl rfl
theorem Clr.no {fz:Nat×Nat}{cur:Array Value}(h:Clr fz cur){w:World}{g k:Nat}{t:TypeId}(hg:w.heap[g]? =some (.cells cur t fz))(hk:k<cur.size):w.frozen? ⟨g,k,none⟩=false:=by
 obtain ⟨lo,hi⟩:=fz;simp only [World.frozen?,hg,Bool.and_eq_false_iff,decide_eq_false_iff_not];rcases h with h|h
 ·right;simp only at h;omega
 ·left;simp only at h;omega
theorem zbr (P:Program)(g o:Nat)(t:TypeId)(fz:Nat×Nat): ∀(vs:List Value) (i:Nat) (cur:Array Value) (w:World),w.heap[g]? =some (.cells cur t fz)→o+i+vs.length≤cur.size→Clr fz cur→(∀v∈vs,v.oneCell'=true)→
 (storeCells ⟨g,o,none⟩ vs i).run P w=.ok () (w.setRow g (cur.toList.take (o+i)++vs++cur.toList.drop (o+i+vs.length)).toArray)
 | [],i,cur,w,hg,_,_,_=>by
  simp only [storeCells,List.append_nil,List.length_nil,Nat.add_zero,List.take_append_drop,Array.toArray_toList];rw [setRow_self w g cur t fz hg];rfl
 | v::rest,i,cur,w,hg,hl,hfz,h1=>by
  have hi:o+i<cur.size:=by simp at hl;omega
  have hadd:(⟨g,o,none⟩:Addr).add i=⟨g,o+i,none⟩:=by unfold Addr.add;split<;>simp_all
  have hcell:w.cell? ⟨g,o+i,none⟩=some cur[o+i]:=by simp [World.cell?,hg,hi]
  have hfro:w.frozen? ⟨g,o+i,none⟩=false:=hfz.no hg hi;have hst:(store ((⟨g,o,none⟩:Addr).add i) v).run P w=.ok () (w.setRow g (cur.setIfInBounds (o+i) v)):=by
   rw [hadd,run_store P w _ v _ (h1 v (by simp)),hcell];simp [hfro,setCell_eq_setRow w g (o+i) cur t fz v hg]
  have ih:=zbr P g o t fz rest (i+1) (cur.setIfInBounds (o+i) v) (w.setRow g (cur.setIfInBounds (o+i) v)) (setRow_heap w g cur _ t _ hg) (by simp at hl ⊢;omega) (by unfold Clr at hfz ⊢;simpa using hfz) (fun x hx=>h1 x (by simp [hx]));simp only [storeCells,Sem.run_bind,hst,Result.andThen_ok,ih,setRow_setRow];congr 3;have e:=list_seg_step cur.toList (o+i) v rest (by simp at hl ⊢;omega)
  simpa [Array.toList_setIfInBounds,Nat.add_assoc] using e
theorem ziA {P:Program}(w:World)(t ty e:TypeId)(i:TypeInfo)(z:Value)(size bytes:Nat)(ht:P.underlying t=some (.slice e))(hi:P.info? e=some i)(hz:i.zero=some z)
 (hsize:i.size=size) (hby:i.bytes=bytes) (hzs:z.cells.size=size) (hsz:0<size)
 (g cap n:Nat) (cur:Array Value) (fz:Nat×Nat) (xs:List Value) (hg:w.heap[g]? =some (.cells cur e fz)) (hfz:Clr fz cur) (hr:Rw size cur cap n xs)
 (a:Addr) (m c:Nat) (news:List Value) (hl:news.length=m*size) (hnews: ∀j u,news[j]? =some u→w.cell? (a.add j)=some u) (h1: ∀u∈news,u.oneCell'=true)
 (h63:n+m≤maxLen) (hbytes:(n+m)*bytes≤0x800000000000):
 ∃g' cap' cur' fz' w',(Builtin.append_ #[t,t] ty #[.slice (some ⟨g,0,none⟩) n cap,.slice (some a) m c]).run P w=.ok (.slice (some ⟨g',0,none⟩) (n+m) cap') w'∧(g'=g∨g'=w.heap.size)∧
  w'.heap[g']? =some (.cells cur' e fz')∧Clr fz' cur'∧Rw size cur' cap' (n+m) (xs++news)∧w.grownBy w' (some g):=by
 subst hsize;subst hby;have hlen:(xs++news).length=(n+m)*i.size:=by rw [List.length_append,hr.len,hl,Nat.add_mul]
 have hnc:=hr.le;have hcm:=hr.max;have hcs:=hr.sz;have htake:=hr.take;have hsmall:n+m≤0x7fffffffffffffff:=by simp only [maxLen] at h63;omega
 by_cases hroom:n+m≤cap
 ·have hfit:n*i.size+news.length≤cur.size:=by rw [hl,hcs,←Nat.add_mul];exact Nat.mul_le_mul_right _ hroom
  have hf:=run_firstCells_some (P:=P) w i.size m a m c news hl hnews;have hst:=zbr P g (n*i.size) e fz news 0 cur w hg (by simpa using hfit) hfz h1;simp only [Nat.add_zero] at hst;have hrr:(Builtin.append_ #[t,t] ty #[.slice (some ⟨g,0,none⟩) n cap,.slice (some a) m c]).run P w=
   .ok (.slice (some ⟨g,0,none⟩) (n+m) cap) (w.setRow g (cur.toList.take (n*i.size)++news++cur.toList.drop (n*i.size+news.length)).toArray):=by
   simp [Builtin.append_,run_underlying ht,sizeOf,typeInfo,hi,Builtin.lenOf,hroom,hf,Addr.add_lit,hst]
  refine ⟨g,cap,_,fz,_,hrr,.inl rfl,setRow_heap w g cur _ e fz hg,?_,⟨hlen,hroom,hcm,?_,?_⟩,⟨rfl,rfl,rfl,by simp,fun k _ hk=>setRow_other w g k _ (fun e=>hk (by simp [e]))⟩⟩
  ·rcases hfz with h|h
   ·exact .inl h
   ·right;simp only [List.size_toArray,List.length_append,List.length_take,List.length_drop,Array.length_toList];omega
  ·rw [htake,←hlen];exact List.take_left
  ·simp only [List.size_toArray,List.length_append,List.length_take,List.length_drop,Array.length_toList];omega
 ·have holds: ∀j u,xs[j]? =some u→w.cell? ((⟨g,0,none⟩:Addr).add j)=some u:=fun j u hj=>by
   have hjl:j<n*i.size:=by rw [←hr.len];exact (List.getElem?_eq_some_iff.1 hj).1
   rw [yX,Nat.zero_add];simp [World.cell?,hg,hr.get j hjl,hj]
  have hr2:=run_append_grow (P:=P) w t ty e i z ht hi hz ⟨g,0,none⟩ n cap xs hr.len holds a m c news hl hnews (by omega) (by omega) (growslice_fits (by omega) hbytes);have hge:=grownCap_ge w (n+m) cap e;have hcm2:grownCap w (n+m) cap e≤maxLen:=grownCap_le_maxLen w (n+m) cap e h63;refine ⟨w.heap.size,_,_,(0,0),_,hr2,.inr rfl,heap_alloc_new w.drew _,Clr.zero _,⟨hlen,hge,hcm2,?_,?_⟩,⟨rfl,rfl,rfl,by simp,fun k hk _=>Go.heap_alloc_old w.drew _ hk⟩⟩
  ·simp only [Array.toList_append,List.append_assoc];rw [←List.append_assoc,←hlen];exact List.take_left
  ·simp only [Array.size_append,List.size_toArray,size_zeroCells,hzs,hr.len,hl,←Nat.add_mul];congr 1;omega
theorem ziB {P:Program}{ρ:Env}{t e:TypeId}{size bytes:Nat}(ht:ye P t=some (e,size,bytes)){x y z:Operand}{o:Oper}{kd kz:IntKind}(b n c j k:Nat)(ho:o.op=.slice t x (some z) (some y) none)(hx:ev ρ x=.slice (some ⟨b,0,none⟩) n c)
 (hy:ev ρ y=.int kd (k:Int)) (hz:ev ρ z=.int kz (j:Int)) (hk:k≤c) (hj:j≤k) (hjc:j<c) (off m:Nat) (ho':j*size=off) (hm:k-j=m):
 ∀w,(execOp (ev ρ) o).run P w=.ok (.value (.slice (some ⟨b,off,none⟩) m (c-j))) w:=fun w=>by
 subst ho' hm;obtain ⟨it,z',hu,hi,hz',hsz,hby,hzs,h0⟩:=yY ht;have hS:(sizeOf e).run P w=.ok size w:=by simp [sizeOf,typeInfo,hi,hsz]
 unfold execOp;simp [ho,hx,hy,hz,Instr.sliceAt,Instr.slice,Instr.sliceBounds,Instr.sliceBound,asIntOf,run_underlying hu,hS,hk,hj,yX,show ¬c=j by omega]
theorem ziC {P:Program}{w:World}{t t' e:TypeId}(ht:P.underlying t=some (.slice e))(he:P.underlying e=some (.int .u8))(ht':P.underlying t'=some .string){ρ:Env}{x:Operand}{b off n cap c0 n0:Nat}{cur:Array Value}{T:TypeId}{fz:Nat×Nat}{xs:List UInt8}
 (hx:ev ρ x=.slice (some ⟨b,off,none⟩) n cap) (hb:w.heap[b]? =some (.cells cur T fz)) (hr:Rw 1 cur c0 n0 (cellsB xs)) (hfit:off+n≤n0) (o:Oper) (ho:o.op=.convert t t' x):
 (execOp (ev ρ) o).run P w=.ok (.value (.string (zb ((xs.drop off).take n)))) w:=by
 have hlen:xs.length=n0:=by have:=hr.len;rw [qo] at this;omega
 have hc:=run_convert_bytes_arg (P:=P) w t e ht he b off n cap (((xs.drop off).take n).map fun b=>(b.toNat:Int)) (by rw [List.length_map,List.length_take,List.length_drop];omega) (fun q hq=>by
  have h2:=hr.get (off+q) (by omega);have h3:=zdS xs (off+q) (by omega);have e1:w.cell? ⟨b,off+q,none⟩=cur[off+q]? :=by simp [World.cell?,hb]
  rw [e1,h2,h3];have h4:off+q<xs.length:=by omega
  simp [List.getD,hq,h4]) t' ht'
 unfold execOp;simp only [ho,hx,hc,Sem.run_bind,Result.andThen_ok];rw [zdU];rfl
section
variable {P:Program}{N:Nat}{ops:Array Oper}{i:Nat}{r:List Nat}{K:Env→World→Prop}{ρ:Env}{w:World}{B:Nat}{w0:World}{l:List (Nat×Obj)}
theorem ziD (HS:St B w0 w l)(d:Option Nat)(t t' e:TypeId)(x:Operand)(s:ByteArray)(h:opk ops i ρ=some (d,true,.convert t t' x))(hd:dOK d N=true)
 (ht:P.underlying t=some .string) (ht':P.underlying t'=some (.slice e)) (he:P.underlying e=some (.int .u8)) (hx:ev ρ x=.string s) (hm:s.size≤maxLen)
 (kk: ∀b cap cur fz w',St B w0 w' ((b,.cells cur e fz)::l)→Clr fz cur→Rw 1 cur cap s.size (cellsB (tl s))→WPs P N ops K r (zt ρ d (.slice (some ⟨b,0,none⟩) s.size cap)) w'):WPs P N ops K (i::r) ρ w:=by
 refine vN d _ (.slice (some ⟨w.drew.heap.size,0,none⟩) s.size (grownCap w s.size 0 e)) _ h hd (fun o ho=>?_) (kk w.drew.heap.size (grownCap w s.size 0 e) _ _ _ (HS.drew.alloc (.cells (bytesRow s (grownCap w s.size 0 e)) e ((bytesRow s (grownCap w s.size 0 e)).size,(bytesRow s (grownCap w s.size 0 e)).size+1))) (.inr (Nat.le_refl _)) ?_)
 ·have hc:=run_bytes_of_string (P:=P) w t t' e s ht ht' he;unfold execOp;simp only [ho,hx,hc,Sem.run_bind,Result.andThen_ok];rfl
 ·have hge:=grownCap_ge w s.size 0 e;have hcm:=grownCap_le_maxLen w s.size 0 e hm;have hsz:s.data.size=s.size:=rfl;refine ⟨by rw [qo,zy];omega,hge,hcm,?_,?_⟩
  ·have e1:(bytesRow s (grownCap w s.size 0 e)).toList=cellsB (tl s)++List.replicate (grownCap w s.size 0 e-s.size) (.int .u8 0):=by
    unfold bytesRow cellsB tl;simp
   rw [e1,List.take_append_of_le_length (by rw [qo,zy];omega),List.take_of_length_le (by rw [qo,zy];omega)]
  ·unfold bytesRow;simp;omega
theorem zdW (HS:St B w0 w l)(d:Option Nat)(t e:TypeId)(size bytes:Nat)(s x:Operand)(j k b bx n m cap c:Nat)(cur CX:Array Value)(fzs:Nat×Nat)(TX:TypeId)(fz:Nat×Nat)(xs news:List Value)(l':Nat→Array Value→Nat×Nat→List (Nat×Obj))
 (h:opk ops i ρ=some (d,true,yn t s x)) (hd:dOK d N=true) (ht:ye P t=some (e,size,bytes))
 (hs:ev ρ s=.slice (some ⟨b,0,none⟩) n cap) (hj:l[j]? =some (b,.cells cur e fzs)) (hfz:Clr fzs cur) (hr:Rw size cur cap n xs)
 (hx:ev ρ x=.slice (some ⟨bx,0,none⟩) m c) (hk:l[k]? =some (bx,.cells CX TX fz)) (hn:CX.toList.take (m*size)=news) (hl:news.length=m*size) (h1: ∀u∈news,u.oneCell'=true)
 (hb:(n+m)*bytes≤0x800000000000) (hm:n+m≤maxLen)
 (hl': ∀b' cur' fz',l.set j (b',.cells cur' e fz')=l' b' cur' fz')
 (kk: ∀b' cap' cur' fz' w',St B w0 w' (l' b' cur' fz')→Clr fz' cur'→Rw size cur' cap' (n+m) (xs++news)→WPs P N ops K r (zt ρ d (.slice (some ⟨b',0,none⟩) (n+m) cap')) w'):WPs P N ops K (i::r) ρ w:=by
 obtain ⟨o,ho,rfl,hw,hop⟩:=zI h;obtain ⟨it,z,hu,hi,hz,hsz,hby,hzs,h0⟩:=yY ht;have hnews: ∀q u,news[q]? =some u→w.cell? ((⟨bx,0,none⟩:Addr).add q)=some u:=fun q u hq=>by
  have hql:q<m*size:=by rw [←hl];exact (List.getElem?_eq_some_iff.1 hq).1
  rw [←hn,List.getElem?_take,if_pos hql,Array.getElem?_toList] at hq;rw [yX,Nat.zero_add];simp [World.cell?,HS.get k hk,hq]
 obtain ⟨g',cap',cur',fz',w',hrun,hgb,hg,hclr,hrw,hgr⟩:=ziA (P:=P) w t o.type e it z size bytes hu hi hz hsz hby hzs h0 b cap n cur fzs xs (HS.get j hj) hfz hr ⟨bx,0,none⟩ m c news hl hnews h1 hm hb;refine WPo.run ho hw fun a ha=>?_;have hex:(execOp (ev ρ) o).run P w=.ok (.value (.slice (some ⟨g',0,none⟩) (n+m) cap')) w':=by
  unfold execOp;simp only [hop,yn,resolve,invoke,builtin,Sem.run_bind,Sem.run_pure,Result.andThen_ok,List.map_toArray,List.map_cons,List.map_nil,hs,hx,hrun]
 rw [hex,Oper.upon_value];have HS':=HS.grown j hj hgr hgb hg;rw [hl'] at HS';exact ⟨_,ha.put _ (zX hd) _,kk g' cap' cur' fz' w' HS' hclr hrw⟩
theorem ziE (HS:St B w0 w l)(j:Nat)(l':List (Nat×Obj))(t:TypeId)(x y:Operand)(b off:Nat)(C C':Array Value)(T:TypeId)(fz:Nat×Nat)(v:Value)
 (h:opk ops i ρ=some (none,true,.store t x y)) (hx:ev ρ x=.pointer (some ⟨b,off,none⟩)) (hy:ev ρ y=v) (hk:l[j]? =some (b,.cells C T fz)) (hfz:Clr fz C) (hi:(P.info? t).map (·.size)=some v.cells.size) (h1:v.cells.all (·.oneCell')=true)
 (hs:off+v.cells.size≤C.size) (hC:(C.toList.take off++v.cells.toList++C.toList.drop (off+v.cells.size)).toArray=C') (hl:l.set j (b,.cells C' T fz)=l')
 (kk: ∀w',St B w0 w' l'→Clr fz C'→WPs P N ops K r ρ w'):WPs P N ops K (i::r) ρ w:=by
 subst hl;have hcl:Clr fz C':=by
  rcases hfz with q|q
  ·exact .inl q
  ·right;rw [←hC];simp only [List.size_toArray,List.length_append,List.length_take,List.length_drop,Array.length_toList];omega
 refine zc9 none _ (w.setRow b C') h rfl (fun o ho=>?_) (kk _ (HS.store j hk) hcl);have hc:=zbr P b off T fz v.cells.toList 0 C w (HS.get j hk) (by simpa using hs) hfz (fun x hx=>(Array.all_eq_true_iff_forall_mem.1 h1) x (by simpa using hx));have hst:(storeVar t ⟨b,off,none⟩ v).run P w=.ok () (w.setRow b C'):=by
  cases hq:P.info? t with
  | none=>simp [hq] at hi
  | some it=>
   have hsz:v.cells.size=it.size:=by simp [hq] at hi;omega
   rw [←hC];simp [storeVar,sizeOf,typeInfo,hq,hsz] at hc ⊢;exact hc
 simp [execOp,ho,Instr.storeAt,Instr.sureAddr,hx,hy,hst]
end
namespace D2
section
variable {P:Program}{ops:Array Oper}{R:(Nat→Gh)→Env}{i:Nat}{d:Option Nat}
variable {E:(Nat→Bool)→(Nat→Gh)→List Ent}{F:(Nat→Bool)→(Nat→Gh)→Prop}{B:Nat}{w0:World}
theorem gv_bytesCut (k:Nat)(t t' e:TypeId)(x:Operand)(b:(Nat→Gh)→Nat)(off n cap c0 n0:Nat)(cur:Array Value)(T:TypeId)(fz:Nat×Nat)(xs:List UInt8)(hs: ∀L g w,Pre B w0 E F L g w→Pre B w0 E F (put1 L i) g w)
 (h: ∀g,opk ops i (R g)=some (d,true,.convert t t' x)) (ht:P.underlying t=some (.slice e)) (he:P.underlying e=some (.int .u8)) (ht':P.underlying t'=some .string)
 (hx: ∀g,ev (R g) x=.slice (some ⟨b g,off,none⟩) n cap) (hj: ∀L g,Now ops i L→(E L g)[k]? =some (true,(b g,.cells cur T fz))) (hr:Rw 1 cur c0 n0 (cellsB xs)) (hfit:off+n≤n0):
 Gives P ops R (Pre B w0 E F) i d (fun _=>.string (zb ((xs.drop off).take n))):=gives_of fun L g w hp hN=>by
 obtain ⟨o,ho,hd,hw,hop⟩:=zI (h g);have e2:=ziC ht he ht' (hx g) (hp.1.get k (hj L g hN)) hr hfit o hop;exact ⟨o,ho,hd,.inr ⟨hw,by rw [e2];exact ⟨g i,rfl,by rw [setN_self];exact hs _ _ _ hp⟩⟩⟩
end
end D2
end Go.Proofs.YtbbdbdndedeokaaGreatDoor
namespace Go.Proofs.YtbbdbdndedeokaaGreatDoor
open Go Go.RowKit
set_option linter.unusedVariables false
theorem toList_eq (s:ByteArray):s.toList=tl s:=ByteArray.toList_eq s
theorem kx (a b:ByteArray)(h:a=b):(a.toList==b.toList)=true:=by subst h;exact vg a
theorem jV (a b:ByteArray)(h: ¬a=b):(a.toList==b.toList)=false:=by
 rw [beq_eq_false_iff_ne];intro e;rw [toList_eq,toList_eq] at e;exact h (by rw [←ku a,e,ku])
theorem jv {a b:ByteArray}(h:tl a=tl b):a=b:=by rw [←ku a,h,ku]
section
variable {P:Program}{N:Nat}{ops:Array Oper}{i:Nat}{r:List Nat}{K:Env→World→Prop}{ρ:Env}{w:World}{B:Nat}{w0:World}{l:List (Nat×Obj)}
def vY (t t':TypeId)(x y:Operand):Op:=.call { callee:=.builtin .unsafeString,args:=#[x,y],argTypes:=#[t,t'] }
theorem ziF {b:Nat}{C:Array Value}{T:TypeId}(HS:St B w0 w [(b,.cells C T (0,0))])(d:Option Nat)(t t' e:TypeId)(x y:Operand)(n cap:Nat)(xs:List UInt8)
 (h:opk ops i ρ=some (d,true,vY t t' x y)) (hd:dOK d N=true) (ht:P.underlying t=some (.pointer e)) (hc:P.cellsOf e=1) (hT:T=e)
 (hx:ev ρ x=.pointer (some ⟨b,0,none⟩)) (hy:ev ρ y=.int .i64 (n:Int)) (hr:Rw 1 C cap n (cellsB xs)) (h0:0<n) (hm:n≤0x7fffffffffffffff)
 (kk: ∀w',St B w0 w' []→WPs P N ops K r (zt ρ d (.string (zb xs))) w'):WPs P N ops K (i::r) ρ w:=by
 obtain ⟨o,ho,rfl,hw,hop⟩:=zI h;subst hT;have hb:=HS.get 0 rfl;have hB:=HS.ge 0 rfl;have hlen:xs.length=n:=by have:=hr.len;rw [qo] at this;omega
 have hsz:=hr.sz;have hle:=hr.le
 have hrun:=Lib.run_unsafeString_row (P:=P) w t t' o.type T ht hc b C.size (by unfold World.shape?;rw [hb]) xs (by intro e;subst e;simp at hlen;omega) (by omega) (by omega) (fun j u hj=>by
  have hjl:j<xs.length:=(List.getElem?_eq_some_iff.1 hj).1;have h2:=hr.get j (by omega);rw [yX,Nat.zero_add];have h3:(cellsB xs)[j]? =some (.int .u8 (u.toNat:Int)):=by unfold cellsB;rw [List.getElem?_map,hj];rfl
  simp [World.cell?,hb,h2,h3])
 rw [hlen] at hrun;refine WPo.run ho hw fun a ha=>?_;have hex:(execOp (ev ρ) o).run P w=.ok (.value (.string (zb xs))) (w.freeze ⟨b,0,none⟩ n):=by
  unfold execOp;simp only [hop,vY,resolve,invoke,builtin,Sem.run_bind,Sem.run_pure,Result.andThen_ok,List.map_toArray,List.map_cons,List.map_nil,hx,hy,hrun];rfl
 rw [hex,Oper.upon_value];have hbel:=Lib.below_freeze HS.below (p:=⟨b,0,none⟩) hB n;refine ⟨_,ha.put _ (zX hd) _,kk _ ⟨hbel,Nat.le_trans HS.le ?_,(fun e he=>nomatch he),List.nodup_nil⟩⟩;unfold World.freeze;split<;>simp
theorem zdX {t e:TypeId}{size bytes:Nat}(ht:ye P t=some (e,size,bytes)){x y:Operand}{o:Oper}{kd:IntKind}(a:Addr)(n c k:Nat)(ho:o.op=.slice t x none (some y) none)(hx:ev ρ x=.slice (some a) n c)(hy:ev ρ y=.int kd (k:Int))(hk:k≤c):
 ∀w,(execOp (ev ρ) o).run P w=.ok (.value (.slice (some a) k c)) w:=fun w=>by
 obtain ⟨it,z,hu,hi,hz,hsz,hby,hzs,h0⟩:=yY ht;have hS:(sizeOf e).run P w=.ok size w:=by simp [sizeOf,typeInfo,hi,hsz]
 have ha:a.add 0=a:=rfl;unfold execOp;simp [ho,hx,hy,Instr.sliceAt,Instr.slice,Instr.sliceBounds,Instr.sliceBound,asIntOf,run_underlying hu,hS,hk,ha]
end
inductive Fr (α:Type)
 | nil
 | cons (a:α) (k r:Fr α)
structure Sh (α:Type) where
 K:Nat
 hd:α→List Value
 ok:α→Prop
 mx:Nat
 len: ∀a,(hd a).length+1=K
 one: ∀a,∀u∈hd a,u.oneCell'=true
section
variable {α:Type}{S:Sh α}
def Fr.len:Fr α→Nat
 | .nil=>0
 | .cons _ _ r=>r.len+1
def Fr.at:Fr α→Nat→Option (α×Fr α)
 | .nil,_=>none
 | .cons a k _,0=>some (a,k)
 | .cons _ _ r,i+1=>r.at i
theorem Fr.at_none: ∀ {k:Fr α} {i:Nat},k.len≤i→k.at i=none
 | .nil,_,_=>rfl
 | .cons _ _ r,0,h=>by simp only [Fr.len] at h;omega
 | .cons _ _ r,i+1,h=>Fr.at_none (k:=r) (by simp only [Fr.len] at h;omega)
def qS (S:Sh α)(B:Nat)(w:World):Fr α→Nat→Nat→Prop
 | .nil,_,_=>True
 | .cons a k r,b,off=>(∃(C:Array Value) (T:TypeId) (fz:Nat×Nat) (p:Option Addr) (n c:Nat),b<B∧w.heap[b]? =some (.cells C T fz)∧off+S.K≤C.size∧
  C.extract off (off+S.K)=(S.hd a++ [Value.slice p n c]).toArray∧S.ok a∧n=k.len∧n≤S.mx∧(k=.nil∨∃b' off',p=some ⟨b',off',none⟩∧qS S B w k b' off'))∧qS S B w r b (off+S.K)
def SlR (S:Sh α)(B:Nat)(w:World)(p:Option Addr)(n:Nat)(k:Fr α):Prop:=n=k.len∧n≤S.mx∧(k=.nil∨∃b off,p=some ⟨b,off,none⟩∧qS S B w k b off)
def FrR (S:Sh α)(B:Nat)(w:World)(p:Option Addr)(i:Nat)(r:Fr α):Prop:=r=.nil∨∃b off,p=some ⟨b,off,none⟩∧qS S B w r b (off+i*S.K)
theorem qS.up {B B':Nat}{w w':World}(hb:Below B w w')(hB:B≤B'): ∀ {k:Fr α} {b off:Nat},qS S B w k b off→qS S B' w' k b off
 | .nil,_,_,_=>trivial
 | .cons a k r,b,off,⟨⟨C,T,fz,p,n,c,h1,h2,h3,h4,h5,h6,h7,h8⟩,h9⟩=>
  ⟨⟨C,T,fz,p,n,c,Nat.lt_of_lt_of_le h1 hB,by rw [hb.block b h1];exact h2,h3,h4,h5,h6,h7,h8.imp id fun ⟨b',o',e,h⟩=>⟨b',o',e,qS.up hb hB h⟩⟩,qS.up hb hB h9⟩
theorem SlR.up {B B':Nat}{w w':World}{p:Option Addr}{n:Nat}{k:Fr α}(h:SlR S B w p n k)(hb:Below B w w')(hB:B≤B'):SlR S B' w' p n k:=
 ⟨h.1,h.2.1,h.2.2.imp id fun ⟨b,o,e,h⟩=>⟨b,o,e,h.up hb hB⟩⟩
theorem SlR.call {w0 w:World}{p:Option Addr}{n:Nat}{k:Fr α}(h:SlR S w0.heap.size w0 p n k)(hb:Below w0.heap.size w0 w):SlR S w.heap.size w p n k:=h.up hb hb.size
theorem SlR.nil (B:Nat)(w:World)(p:Option Addr):SlR S B w p 0 .nil:=⟨rfl,by omega,.inl rfl⟩
theorem SlR.start {B:Nat}{w:World}{p:Option Addr}{n:Nat}{k:Fr α}(h:SlR S B w p n k):FrR S B w p 0 k:=
 h.2.2.imp id fun ⟨b,o,e,h⟩=>⟨b,o,e,by rw [Nat.zero_mul,Nat.add_zero];exact h⟩
theorem FrR.open {B:Nat}{w:World}{p:Option Addr}{i n:Nat}{r:Fr α}(h:FrR S B w p i r)(hn:i+r.len=n)(hi:i<n):
 ∃a k r' b off C T fz p' n' c',r=.cons a k r'∧p=some ⟨b,off,none⟩∧b<B∧w.heap[b]? =some (.cells C T fz)∧off+i*S.K+S.K≤C.size∧
  C.extract (off+i*S.K) (off+i*S.K+S.K)=(S.hd a++ [Value.slice p' n' c']).toArray∧S.ok a∧SlR S B w p' n' k∧FrR S B w p (i+1) r'∧i+1+r'.len=n:=by
 cases r with
 | nil=>simp only [Fr.len] at hn;omega
 | cons a k r'=>
  rcases h with h|⟨b,off,e,⟨C,T,fz,p',n',c',h1,h2,h3,h4,h5,h6,h7,h8⟩,h9⟩
  ·cases h
  ·refine ⟨a,k,r',b,off,C,T,fz,p',n',c',rfl,e,h1,h2,h3,h4,h5,⟨h6,h7,h8⟩,.inr ⟨b,off,e,?_⟩,?_⟩
   ·rw [show off+(i+1)*S.K=off+i*S.K+S.K by rw [Nat.succ_mul];omega];exact h9
   ·simp only [Fr.len] at hn;omega
theorem FrR.done {i n:Nat}{r:Fr α}(hn:i+r.len=n)(hi: ¬i<n):r=.nil:=by
 cases r with
 | nil=>rfl
 | cons a k r'=>simp only [Fr.len] at hn;omega
theorem qS.at {B:Nat}{w:World} : ∀ {k:Fr α} {b off i:Nat} {a:α} {q:Fr α},qS S B w k b off→k.at i=some (a,q)→∃C T fz p n c,b<B∧w.heap[b]? =some (.cells C T fz)∧off+i*S.K+S.K≤C.size∧
 C.extract (off+i*S.K) (off+i*S.K+S.K)=(S.hd a++ [Value.slice p n c]).toArray∧S.ok a∧SlR S B w p n q
 | .cons a0 k0 r,b,off,0,a,q,⟨⟨C,T,fz,p,n,c,h1,h2,h3,h4,h5,h6,h7,h8⟩,h9⟩,hi=>by
  obtain ⟨rfl,rfl⟩:a0=a∧k0=q:=by simp only [Fr.at,Option.some.injEq,Prod.mk.injEq] at hi;exact hi
  rw [Nat.zero_mul,Nat.add_zero];exact ⟨C,T,fz,p,n,c,h1,h2,h3,h4,h5,h6,h7,h8⟩
 | .cons a0 k0 r,b,off,i+1,a,q,⟨_,h9⟩,hi=>by
  obtain ⟨C,T,fz,p,n,c,h⟩:=qS.at h9 hi;rw [show off+S.K+i*S.K=off+(i+1)*S.K by rw [Nat.succ_mul];omega] at h;exact ⟨C,T,fz,p,n,c,h⟩
theorem Fr.at_some: ∀ {k:Fr α} {i:Nat},i<k.len→∃a q,k.at i=some (a,q)
 | .cons a k r,0,_=>⟨a,k,rfl⟩
 | .cons a k r,i+1,h=>Fr.at_some (k:=r) (by simp only [Fr.len] at h;omega)
def LyR (S:Sh α)(T:List (Nat×Obj)):Fr α→Nat→Nat→Prop
 | .nil,_,_=>True
 | .cons a k r,b,off=>(∃(C:Array Value) (ty:TypeId) (fz:Nat×Nat) (p:Option Addr) (n c:Nat),(b,Obj.cells C ty fz)∈T∧off+S.K≤C.size∧
  C.extract off (off+S.K)=(S.hd a++ [Value.slice p n c]).toArray∧S.ok a∧n=k.len∧n≤S.mx∧(k=.nil∨∃b' off',p=some ⟨b',off',none⟩∧LyR S T k b' off'))∧LyR S T r b (off+S.K)
def RIn (S:Sh α)(T:List (Nat×Obj))(p:Option Addr)(n:Nat)(k:Fr α):Prop:=n=k.len∧n≤S.mx∧(k=.nil∨∃b off,p=some ⟨b,off,none⟩∧LyR S T k b off)
theorem LyR.mono {T T':List (Nat×Obj)}(h: ∀e∈T,e∈T'): ∀ {k:Fr α} {b off:Nat},LyR S T k b off→LyR S T' k b off
 | .nil,_,_,_=>trivial
 | .cons a k r,b,off,⟨⟨C,ty,fz,p,n,c,h1,h2,h3,h4,h5,h6,h7⟩,h8⟩=>⟨⟨C,ty,fz,p,n,c,h _ h1,h2,h3,h4,h5,h6,h7.imp id fun ⟨b',o',e,q⟩=>⟨b',o',e,LyR.mono h q⟩⟩,LyR.mono h h8⟩
theorem RIn.mono {T T':List (Nat×Obj)}{p:Option Addr}{n:Nat}{k:Fr α}(hs:RIn S T p n k)(h: ∀e∈T,e∈T'):RIn S T' p n k:=
 ⟨hs.1,hs.2.1,hs.2.2.imp id fun ⟨b,o,e,q⟩=>⟨b,o,e,q.mono h⟩⟩
theorem RIn.none (T:List (Nat×Obj))(p:Option Addr):RIn S T p 0 .nil:=⟨rfl,by omega,.inl rfl⟩
theorem LyR.at {B:Nat}{w0 w:World}{l T:List (Nat×Obj)}(hS:St B w0 w l)(h: ∀e∈T,e∈l): ∀ {k:Fr α} {b off:Nat},LyR S T k b off→qS S w.heap.size w k b off
 | .nil,_,_,_=>trivial
 | .cons a k r,b,off,⟨⟨C,ty,fz,p,n,c,h1,h2,h3,h4,h5,h6,h7⟩,h8⟩=>
  have hh:=(hS.own _ (h _ h1)).2
  ⟨⟨C,ty,fz,p,n,c,zC hh,hh,h2,h3,h4,h5,h6,h7.imp id fun ⟨b',o',e,q⟩=>⟨b',o',e,LyR.at hS h q⟩⟩,LyR.at hS h h8⟩
theorem RIn.at {B:Nat}{w0 w:World}{l T:List (Nat×Obj)}{p:Option Addr}{n:Nat}{k:Fr α}(hs:RIn S T p n k)(hS:St B w0 w l)(h: ∀e∈T,e∈l):SlR S w.heap.size w p n k:=
 ⟨hs.1,hs.2.1,hs.2.2.imp id fun ⟨b,o,e,q⟩=>⟨b,o,e,q.at hS h⟩⟩
structure El (α:Type) where
 a:α
 p:Option Addr
 n:Nat
 c:Nat
 k:Fr α
def El.cs (S:Sh α)(x:El α):List Value:=S.hd x.a++ [Value.slice x.p x.n x.c]
def ya (S:Sh α):List (El α)→List Value
 | []=>[]
 | x::r=>x.cs S++ya S r
def qE:List (El α)→Fr α
 | []=>.nil
 | x::r=>.cons x.a x.k (qE r)
theorem zdY: ∀L:List (El α),(qE L).len=L.length
 | []=>rfl
 | x::r=>by simp only [qE,Fr.len,List.length_cons,zdY r]
theorem El.cs_len (x:El α):(x.cs S).length=S.K:=by
 unfold El.cs;rw [List.length_append];exact S.len x.a
theorem vh: ∀L:List (El α),(ya S L).length=L.length*S.K
 | []=>by simp [ya]
 | x::r=>by simp only [ya,List.length_append,vh r,El.cs_len,List.length_cons,Nat.succ_mul];omega
theorem vZ (x:El α): ∀L:List (El α),ya S (L++ [x])=ya S L++x.cs S
 | []=>by simp [ya]
 | y::r=>by simp only [List.cons_append,ya,vZ x r,List.append_assoc]
theorem zbs: ∀(L:List (El α)) (i:Nat) (x:El α),L[i]? =some x→ ∀j,j<S.K→(ya S L)[i*S.K+j]? =(x.cs S)[j]?
 | y::r,0,x,h,j,hj=>by
  obtain rfl:y=x:=by simpa using h
  rw [Nat.zero_mul,Nat.zero_add];unfold ya;rw [List.getElem?_append_left (by rw [El.cs_len];exact hj)]
 | y::r,i+1,x,h,j,hj=>by
  unfold ya;rw [List.getElem?_append_right (by rw [El.cs_len,Nat.succ_mul];omega),El.cs_len,show (i+1)*S.K+j-S.K=i*S.K+j by rw [Nat.succ_mul];omega];exact zbs r i x (by simpa using h) j hj
theorem exE {C:Array Value}{o:Nat}{x:List Value}{K:Nat}(hl:x.length=K)(h: ∀j,j<K→C[o+j]? =x[j]?)(h0:0<K):o+K≤C.size∧C.extract o (o+K)=x.toArray:=by
 have hz:o+K≤C.size:=by
  have h1:=h (K-1) (by omega);rw [List.getElem?_eq_getElem (by omega)] at h1;obtain ⟨h2,_⟩:=Array.getElem?_eq_some_iff.1 h1;omega
 refine ⟨hz,?_⟩;apply Array.ext_getElem?;intro j;have e:x.toArray[j]? =x[j]? :=by simp
 rw [Array.getElem?_extract,e];split
 ·rename_i hj
  exact h j (by omega)
 ·rename_i hj
  rw [List.getElem?_eq_none (by omega)]
theorem Sh.pos (S:Sh α)(a:α):0<S.K:=by have:=S.len a;omega
theorem Rw.atE {cur:Array Value}{cap n:Nat}{L:List (El α)}(h:Rw S.K cur cap n (ya S L)){i:Nat}{x:El α}(hx:L[i]? =some x):i*S.K+S.K≤cur.size∧cur.extract (i*S.K) (i*S.K+S.K)=(x.cs S).toArray:=by
 have hl:=h.len;rw [vh] at hl;have hi:i<L.length:=(List.getElem?_eq_some_iff.1 hx).1;refine exE x.cs_len (fun j hj=>?_) (S.pos x.a)
 rw [h.get _ (by
  rw [←hl];have:i*S.K+S.K≤L.length*S.K:=by rw [←Nat.succ_mul];exact Nat.mul_le_mul_right _ hi
  omega),zbs L i x hx j hj]
def AllE (S:Sh α)(T:List (Nat×Obj))(L:List (El α)):Prop:= ∀x∈L,RIn S T x.p x.n x.k∧S.ok x.a
theorem AllE.mono {T T':List (Nat×Obj)}{M:List (El α)}(h:AllE S T M)(hs: ∀e∈T,e∈T'):AllE S T' M:=fun x hx=>⟨(h x hx).1.mono hs,(h x hx).2⟩
theorem AllE.snoc {T:List (Nat×Obj)}{M:List (El α)}{x:El α}(h:AllE S T M)(hx:RIn S T x.p x.n x.k)(hz:S.ok x.a):AllE S T (M++ [x]):=fun y hy=>by
 rcases List.mem_append.1 hy with q|q
 ·exact h y q
 ·obtain rfl:=List.mem_singleton.1 q;exact ⟨hx,hz⟩
theorem zdZ {T:List (Nat×Obj)}{b:Nat}{C:Array Value}{ty:TypeId}{fz:Nat×Nat}(hm:(b,Obj.cells C ty fz)∈T): ∀(L:List (El α)) (o:Nat),
 (∀(i:Nat) (x:El α),L[i]? =some x→o+i*S.K+S.K≤C.size∧C.extract (o+i*S.K) (o+i*S.K+S.K)=(x.cs S).toArray)→AllE S T L→LyR S T (qE L) b o
 | [],_,_,_=>trivial
 | x::r,o,h,hA=>by
  have h1:=h 0 x rfl;rw [Nat.zero_mul,Nat.add_zero] at h1;have ha:=hA x (List.mem_cons_self ..);refine ⟨⟨C,ty,fz,x.p,x.n,x.c,hm,h1.1,h1.2,ha.2,ha.1.1,ha.1.2.1,ha.1.2.2⟩,?_⟩;refine zdZ hm r (o+S.K) (fun i y hy=>?_) fun y hy=>hA y (List.mem_cons_of_mem _ hy);have:=h (i+1) y (by simpa using hy);rw [show o+(i+1)*S.K=o+S.K+i*S.K by rw [Nat.succ_mul];omega] at this;exact this
theorem Rw.rIn {cur:Array Value}{cap n:Nat}{L:List (El α)}(h:Rw S.K cur cap n (ya S L))(hK:0<S.K){T:List (Nat×Obj)}{b:Nat}{ty:TypeId}{fz:Nat×Nat}(hm:(b,Obj.cells cur ty fz)∈T)(hA:AllE S T L)(hn:n≤S.mx):RIn S T (some ⟨b,0,none⟩) n (qE L):=by
 have hl:=h.len;rw [vh] at hl;have hln:L.length=n:=Nat.eq_of_mul_eq_mul_right hK hl;refine ⟨by rw [zdY];omega,hn,.inr ⟨b,0,rfl,zdZ hm L 0 (fun i x hx=>?_) hA⟩⟩;rw [Nat.zero_add];exact h.atE hx
def RowE (S:Sh α)(ty:TypeId)(p:Option Addr)(n c:Nat)(row:List (Nat×Obj))(L:List (El α)):Prop:=(p=none∧n=0∧c=0∧row=[]∧L=[])∨∃b cur,p=some ⟨b,0,none⟩∧row=[(b,.cells cur ty (0,0))]∧Rw S.K cur c n (ya S L)
theorem RowE.len {ty:TypeId}{p:Option Addr}{n c:Nat}{row:List (Nat×Obj)}{L:List (El α)}(h:RowE S ty p n c row L)(hK:0<S.K):n=L.length:=by
 rcases h with ⟨_,rfl,_,_,rfl⟩|⟨b,cur,_,_,hr⟩
 ·rfl
 ·have hl:=hr.len;rw [vh] at hl;exact (Nat.eq_of_mul_eq_mul_right hK hl).symm
theorem RowE.rIn {ty:TypeId}{p:Option Addr}{n c:Nat}{row T:List (Nat×Obj)}{L:List (El α)}(h:RowE S ty p n c row L)(hK:0<S.K)(hA:AllE S T L)(hn:n≤S.mx):RIn S (row++T) p n (qE L):=by
 rcases h with ⟨rfl,rfl,rfl,rfl,rfl⟩|⟨b,cur,rfl,rfl,hr⟩
 ·exact RIn.none _ _
 ·exact hr.rIn (b:=b) (ty:=ty) (fz:=(0,0)) hK (by simp) (hA.mono fun e he=>List.mem_append_right _ he) hn
end
theorem ua {P:Program}{ρ:Env}{w:World}{b off:Nat}{C:Array Value}{T t:TypeId}{fz:Nat×Nat}{x:Operand}{v:Value}(hh:w.heap[b]? =some (.cells C T fz))(ht:oneCell P t=true)(hx:ev ρ x=.pointer (some ⟨b,off,none⟩))(hv:C[off]? =some v)(o:Oper)(ho:o.op=.load t x):
 (execOp (ev ρ) o).run P w=.ok (.value v) w:=by
 have:=jT (P:=P) (w:=w) ht hh hv;simp [execOp,ho,Instr.loadAt,Instr.sureAddr,hx,this]
theorem ub {P:Program}{ρ:Env}{w:World}{b off:Nat}{C C':Array Value}{T t:TypeId}{x y:Operand}{v:Value}(hh:w.heap[b]? =some (.cells C T (0,0)))(hi:(P.info? t).map (·.size)=some v.cells.size)(h1:v.cells.all (·.oneCell')=true)(hs:off+v.cells.size≤C.size)
 (hC:(C.toList.take off++v.cells.toList++C.toList.drop (off+v.cells.size)).toArray=C') (hx:ev ρ x=.pointer (some ⟨b,off,none⟩)) (hy:ev ρ y=v) (o:Oper) (ho:o.op=.store t x y):(execOp (ev ρ) o).run P w=.ok .skip (w.setRow b C'):=by
 have:=km (P:=P) (w:=w) hi h1 hh hs;rw [hC] at this;simp [execOp,ho,Instr.storeAt,Instr.sureAddr,hx,hy,this]
theorem St.perm {B:Nat}{w0 w:World}{l l':List (Nat×Obj)}(h:St B w0 w l)(hp:l'.Perm l):St B w0 w l':=
 ⟨h.below,h.le,fun x hx=>h.own x (hp.mem_iff.1 hx),((hp.map (·.1)).nodup_iff).2 h.nd⟩
theorem St.addAll {B:Nat}{w0 w w':World}{l T:List (Nat×Obj)}(h:St B w0 w l)(hT:St w.heap.size w w' T):St B w0 w' (T++l):=by
 have h':=h.call hT.below;refine ⟨h'.below,h'.le,?_,?_⟩
 ·intro e he;rcases List.mem_append.1 he with he | he
  ·exact ⟨Nat.le_trans h.le (hT.own e he).1,(hT.own e he).2⟩
  ·exact h'.own e he
 ·rw [List.map_append,List.nodup_append];refine ⟨hT.nd,h'.nd,?_⟩;intro x hx y hy q;obtain ⟨e,he,rfl⟩:=List.mem_map.1 hx;obtain ⟨e',he',rfl⟩:=List.mem_map.1 hy;have h1:=(hT.own e he).1;have h2:=zC (h.own e' he').2;omega
section
variable {P:Program}{ρ:Env}{w w0:World}{B:Nat}{l:List (Nat×Obj)}
theorem vi {K:Nat}(HS:St B w0 w l){t e bytes:Nat}{s x:Operand}{o:Oper}{j k b bx n cap c:Nat}{cur Y:Array Value}{xs:List Value}(ht:ye P t=some (e,K,bytes))(ho:o.op=yn t s x)
 (hs:ev ρ s=.slice (some ⟨b,0,none⟩) n cap) (hj:l[j]? =some (b,.cells cur e (0,0))) (hr:Rw K cur cap n xs) (hx:ev ρ x=.slice (some ⟨bx,0,none⟩) 1 c) (hk:l[k]? =some (bx,.cells Y e (0,0)))
 (hY:Y.size=K) (hone: ∀u∈Y.toList,u.oneCell'=true)
 (hb:(n+1)*bytes≤0x800000000000) (hm:n+1≤maxLen):∃b' cap' cur' w',(execOp (ev ρ) o).run P w=.ok (.value (.slice (some ⟨b',0,none⟩) (n+1) cap')) w'∧St B w0 w' (l.set j (b',.cells cur' e (0,0)))∧Rw K cur' cap' (n+1) (xs++Y.toList):=by
 obtain ⟨it,z,hu,hi,hz,hsz,hby,hzs,h0⟩:=yY ht;have hnews: ∀q u,(Y.toList)[q]? =some u→w.cell? ((⟨bx,0,none⟩:Addr).add q)=some u:=fun q u hq=>by
  rw [Array.getElem?_toList] at hq;rw [yX,Nat.zero_add];simp [World.cell?,HS.get k hk,hq]
 obtain ⟨v',w',hrun,hown,hgr,hnil,hblk⟩:=run_append_own_at (P:=P) w B t o.type e it z K bytes hu hi hz hsz hby hzs h0 _ n xs (hr.owns (HS.ge j hj) (HS.get j hj)) ⟨bx,0,none⟩ 1 c Y.toList (by rw [Array.length_toList,hY,Nat.one_mul]) hnews hone hm hb HS.le;have hown':=hown;rcases hown'.2 with ⟨hv,_⟩|⟨g,cap',cur',rfl,hbg,hg,hnc,hcm,hcs,htk⟩
 ·exact absurd (hnil.1 hv).1 (by simp)
 ·have hgb:g=b∨g=w.heap.size:=by
   rcases hblk with hq|hq
   ·left;injection hq
   ·right;injection hq
  refine ⟨g,cap',cur',w',?_,HS.grown j hj hgr hgb hg,?_⟩
  ·unfold execOp;simp only [ho,yn,resolve,invoke,builtin,Sem.run_bind,Sem.run_pure,Result.andThen_ok,List.map_toArray,List.map_cons,List.map_nil,hs,hx,hrun]
  ·exact ⟨hown.1,hnc,hcm,htk,hcs⟩
theorem vj {K:Nat}(HS:St B w0 w l){t e bytes:Nat}{s x:Operand}{o:Oper}{k bx c:Nat}{Y:Array Value}(ht:ye P t=some (e,K,bytes))(ho:o.op=yn t s x)
 (hs:ev ρ s=.slice none 0 0) (hx:ev ρ x=.slice (some ⟨bx,0,none⟩) 1 c) (hk:l[k]? =some (bx,.cells Y e (0,0)))
 (hY:Y.size=K) (hone: ∀u∈Y.toList,u.oneCell'=true)
 (hb:(0+1)*bytes≤0x800000000000):∃b' cap' cur' w',(execOp (ev ρ) o).run P w=.ok (.value (.slice (some ⟨b',0,none⟩) 1 cap')) w'∧St B w0 w' ((b',.cells cur' e (0,0))::l)∧Rw K cur' cap' 1 Y.toList:=by
 obtain ⟨it,z,hu,hi,hz,hsz,hby,hzs,h0⟩:=yY ht;have hnews: ∀q u,(Y.toList)[q]? =some u→w.cell? ((⟨bx,0,none⟩:Addr).add q)=some u:=fun q u hq=>by
  rw [Array.getElem?_toList] at hq;rw [yX,Nat.zero_add];simp [World.cell?,HS.get k hk,hq]
 obtain ⟨v',w',hrun,hown,hgr,hnil,hblk⟩:=run_append_own_at (P:=P) w B t o.type e it z K bytes hu hi hz hsz hby hzs h0 (.slice none 0 0) 0 [] (World.ownsRow_nil w B e K) ⟨bx,0,none⟩ 1 c Y.toList (by rw [Array.length_toList,hY,Nat.one_mul]) hnews hone (by unfold maxLen;omega) hb HS.le;have hown':=hown;rcases hown'.2 with ⟨hv,_⟩|⟨g,cap',cur',rfl,hbg,hg,hnc,hcm,hcs,htk⟩
 ·exact absurd (hnil.1 hv).2 (by simp)
 ·have hgb:g=w.heap.size:=by
   rcases hblk with hq|hq
   ·simp [Value.ownBlock] at hq
   ·injection hq
  have hbel:Below w.heap.size w w':=(Below.refl _ w).grown hgr (Nat.le_refl _) (fun k hk=>by simp [Value.ownBlock] at hk);have HS':=HS.add hbel (by omega) hg;rw [Nat.zero_add] at hnc htk;refine ⟨g,cap',cur',w',?_,HS',⟨by rw [Array.length_toList,hY,Nat.one_mul],hnc,hcm,htk,hcs⟩⟩;unfold execOp;simp only [ho,yn,resolve,invoke,builtin,Sem.run_bind,Sem.run_pure,Result.andThen_ok,List.map_toArray,List.map_cons,List.map_nil,hs,hx,hrun]
def FnT (P:Program)(f:Nat)(args:Array Value)(pre:World→Prop)(ok:Value→List (Nat×Obj)→Prop):Prop:=
 ∀w,pre w→Calls P f args w fun e w'=> ∃v T,e=.returned v∧ok v T∧St w.heap.size w w' T
end
namespace D2
section
variable {P:Program}{ops:Array Oper}{R:(Nat→Gh)→Env}{i:Nat}{d:Option Nat}{pre:(Nat→Bool)→(Nat→Gh)→World→Prop}
theorem gv_opW {V:Value}(hs: ∀L g w,pre L g w→pre (put1 L i) g w)(op:Op)(h: ∀g,opk ops i (R g)=some (d,true,op))(hr: ∀L g (o:Oper) w,Now ops i L→pre L g w→o.op=op→(execOp (ev (R g)) o).run P w=.ok (.value V) w):Gives P ops R pre i d (fun _=>V):=
 gives_of fun L g w hp hN=>by
  obtain ⟨o,ho,hd,hw,hop⟩:=zI (h g);exact ⟨o,ho,hd,.inr ⟨hw,by rw [hr L g o w hN hp hop];exact ⟨g i,rfl,by rw [setN_self];exact hs _ _ _ hp⟩⟩⟩
theorem gv_ld {V:Value}(hs: ∀L g w,pre L g w→pre (put1 L i) g w)(t:TypeId)(x:Operand)(b:(Nat→Gh)→Nat)(off:Nat)(C:Array Value)(T:TypeId)(fz:Nat×Nat)(h: ∀g,opk ops i (R g)=some (d,true,.load t x))
 (hx: ∀g,ev (R g) x=.pointer (some ⟨b g,off,none⟩)) (hh: ∀L g w,Now ops i L→pre L g w→w.heap[b g]? =some (.cells C T fz)) (hok:vQ P t off C=true) (hV:ldv P t off C=V):Gives P ops R pre i d (fun _=>V):=
 gv_opW hs _ h fun L g o w hN hp ho=>by
  have:=zba (P:=P) hok (hh L g w hN hp);rw [hV] at this;simp [execOp,ho,Instr.loadAt,Instr.sureAddr,hx,this]
theorem gv_cpW {V:Value}(hs: ∀L g w,pre L g w→pre (put1 L i) g w)(f:Nat)(args:Array Value){pr:World→Prop}(hc:FnP P f args pr V)(hpr: ∀L g w,Now ops i L→pre L g w→pr w)(hb: ∀L g w w',Now ops i L→pre L g w→Below w.heap.size w w'→pre L g w')(h: ∀g w,opv P ops i (R g) w=some (d,true,.ok (.enter f args) w)):Gives P ops R pre i d (fun _=>V):=
 gives_of fun L g w hp hN=>by
  obtain ⟨o,ho,hd,hw,hr⟩:=yg (h g w);refine ⟨o,ho,hd,.inr ⟨hw,?_⟩⟩;rw [hr];refine Calls.mono (hc w (hpr L g w hN hp)) ?_;rintro e w' ⟨rfl,hbl⟩;exact ⟨V,rfl,g i,rfl,by rw [setN_self];exact hs _ _ _ (hb L g w w' hN hp hbl)⟩
theorem gv_ft {V:Gh→Value}(f:Nat)(args:Array Value){pr:World→Prop}{ok:Value→List (Nat×Obj)→Prop}(hc:FnT P f args pr ok)(hpr: ∀L g w,Now ops i L→pre L g w→pr w)
 (hk: ∀L g w v T w',Now ops i L→pre L g w→ok v T→St w.heap.size w w' T→∃x:Gh,v=V x∧pre (put1 L i) (setN g i x) w') (h: ∀g w,opv P ops i (R g) w=some (d,true,.ok (.enter f args) w)):Gives P ops R pre i d V:=
 gives_of fun L g w hp hN=>by
  obtain ⟨o,ho,hd,hw,hr⟩:=yg (h g w);refine ⟨o,ho,hd,.inr ⟨hw,?_⟩⟩;rw [hr];refine Calls.mono (hc w (hpr L g w hN hp)) ?_;rintro e w' ⟨v,T,rfl,hok,hT⟩;obtain ⟨x,hv,hq⟩:=hk L g w v T w' hN hp hok hT;exact ⟨v,rfl,x,hv,hq⟩
theorem gv_cc {V:Gh→Value}(f:Nat)(args:Array Value)(hc: ∀L g w,Now ops i L→pre L g w→Calls P f args w fun e w'=> ∃v,e=.returned v∧∃x:Gh,v=V x∧pre (put1 L i) (setN g i x) w')(h: ∀g w,opv P ops i (R g) w=some (d,true,.ok (.enter f args) w)):Gives P ops R pre i d V:=
 gives_of fun L g w hp hN=>by
  obtain ⟨o,ho,hd,hw,hr⟩:=yg (h g w);refine ⟨o,ho,hd,.inr ⟨hw,?_⟩⟩;rw [hr];refine Calls.mono (hc L g w hN hp) ?_;rintro e w' ⟨v,rfl,x,hv,hq⟩;exact ⟨v,rfl,x,hv,hq⟩
def two (k:Nat)(Pre:World→Prop)(Post:Gh→World→Prop):(Nat→Bool)→(Nat→Gh)→World→Prop:=fun L g w=>bif L k then Post (g k) w else Pre w
theorem two.bef {k:Nat}{Pre:World→Prop}{Post:Gh→World→Prop}{L:Nat→Bool}{g:Nat→Gh}{w:World}(h:two k Pre Post L g w)(hk:L k=false):Pre w:=by
 unfold two at h;rw [hk] at h;exact h
theorem two.aft {k:Nat}{Pre:World→Prop}{Post:Gh→World→Prop}{L:Nat→Bool}{g:Nat→Gh}{w:World}(h:two k Pre Post L g w)(hk:L k=true):Post (g k) w:=by
 unfold two at h;rw [hk] at h;exact h
theorem two.call {k:Nat}{Pre:World→Prop}{Post:Gh→World→Prop}{L:Nat→Bool}{g:Nat→Gh}{w w':World}(h:two k Pre Post L g w)(h1:Pre w→Pre w')(h2: ∀x,Post x w→Post x w'):two k Pre Post L g w':=by
 unfold two at h ⊢;cases hk:L k with
 | true=>rw [hk] at h;exact h2 _ h
 | false=>rw [hk] at h;exact h1 h
theorem two.to {k:Nat}{Pre:World→Prop}{Post:Gh→World→Prop}{L:Nat→Bool}{g:Nat→Gh}{w:World}{x:Gh}(h:Post x w):two k Pre Post (put1 L k) (setN g k x) w:=by
 unfold two;rw [show put1 L k k=true from put1_self L k,show setN g k x k=x by unfold setN;rw [Nat.beq_refl];rfl];exact h
end
end D2
abbrev yf (B:Nat)(w0:World)(ok:Value→List (Nat×Obj)→Prop):Value→World→Prop:=fun v' w'=> ∃T,ok v' T∧St B w0 w' T
theorem FnT.intro {P:Program}{f:Nat}{fn:Func}{c:Code}(rs:List ResultVar)(N:Nat){args:Array Value}{pre:World→Prop}{ok:Value→List (Nat×Obj)→Prop}(hf:P.funcs[f]? =some fn)(hb:fn.body=some c)(hr:fn.results.toList=rs)(hn:args.size+(fn.ntmps-args.size)=N)
 (h: ∀w,pre w→WP P N c (qf P rs (yf w.heap.size w ok)) (ini args) w):FnT P f args pre ok:=fun w hp=>
 (ql hf hb hr hn (h w hp)).mono fun e w' ⟨v',he,T,hv⟩=>⟨v',T,he,hv⟩
section
variable {P:Program}{N:Nat}{ops:Array Oper}{i:Nat}{r:List Nat}{K:Env→World→Prop}{ρ:Env}{w:World}{B:Nat}{w0:World}{l:List (Nat×Obj)}
theorem yZ (HS:St B w0 w l)(d:Option Nat)(f:Nat)(args:Array Value){pre:World→Prop}{ok:Value→List (Nat×Obj)→Prop}(hc:FnT P f args pre ok)(hp:pre w)
 (h:opv P ops i ρ w=some (d,true,.ok (.enter f args) w)) (hd:dOK d N=true)
 (kk: ∀v T w',ok v T→St B w0 w' (T++l)→WPs P N ops K r (zt ρ d v) w'):WPs P N ops K (i::r) ρ w:=by
 obtain ⟨o,ho,rfl,hw,hr⟩:=yg h;refine WPo.run ho hw fun a ha=>?_;rw [hr,Oper.upon_enter];refine (hc w hp).mono ?_;rintro e w' ⟨v,T,rfl,hok,hT⟩;exact ⟨_,ha.put _ (zX hd) _,kk v T w' hok (HS.addAll hT)⟩
theorem jw {R:Value→World→Prop}(d:Option Nat)(f:Nat)(args:Array Value)(hc:Calls P f args w fun e w'=> ∃v,e=.returned v∧R v w')
 (h:opv P ops i ρ w=some (d,true,.ok (.enter f args) w)) (hd:dOK d N=true) (kk: ∀v w',R v w'→WPs P N ops K r (zt ρ d v) w'):WPs P N ops K (i::r) ρ w:=by
 obtain ⟨o,ho,rfl,hw,hr⟩:=yg h;refine WPo.run ho hw fun a ha=>?_;rw [hr,Oper.upon_enter];refine hc.mono ?_;rintro e w' ⟨v,rfl,hR⟩;exact ⟨_,ha.put _ (zX hd) _,kk v w' hR⟩
theorem zd0 (HS:St B w0 w l)(d:Option Nat)(t e:TypeId)(K' bytes:Nat)(x y:Operand)(kl kc:IntKind)(n:Nat)(h:opk ops i ρ=some (d,true,.makeSlice t x y))(hd:dOK d N=true)(ht:ye P t=some (e,K',bytes))
 (hx:ev ρ x=.int kl (n:Int)) (hy:ev ρ y=.int kc (n:Int)) (hb:bytes*n≤281474976710656) (hm:n≤maxLen)
 (kk: ∀b cur w',St B w0 w' ((b,.cells cur e (0,0))::l)→cur.size=n*K'→WPs P N ops K r (zt ρ d (.slice (some ⟨b,0,none⟩) n n)) w'):WPs P N ops K (i::r) ρ w:=by
 obtain ⟨o,ho,rfl,hw,hop⟩:=zI h;obtain ⟨it,z',hu,hi,hz',hsz,hby,hzs,h0⟩:=yY ht;have hml:n≤0x7fffffffffffffff:=by have:=hm;simp only [maxLen] at this;omega
 have hbi:(it.bytes:Int)*(n:Int)≤281474976710656:=by
  rw [hby,←Int.natCast_mul];omega
 have hr:=run_make (P:=P) w t e it z' hu hi hz' kl kc (n:Int) (n:Int) (by omega) (by omega) hbi (by omega);simp only [Int.toNat_natCast,hsz] at hr;refine WPo.run ho hw fun a ha=>?_;have hex:(execOp (ev ρ) o).run P w=.ok (.value (.slice (some ⟨w.heap.size,0,none⟩) n n)) (w.alloc (.cells (madeCells z'.cells (n*K')) e)):=by
  unfold execOp;simp only [hop,hx,hy,Sem.run_bind,hr,Result.andThen_ok];rfl
 rw [hex,Oper.upon_value];refine ⟨_,ha.put _ (zX hd) _,kk _ _ _ (HS.alloc _) ?_⟩;unfold madeCells;simp
end
end Go.Proofs.YtbbdbdndedeokaaGreatDoor
namespace Go.Proofs.YtbbdbdndedeokaaGreatDoor
open Go Go.RowKit
set_option linter.unusedVariables false
structure Fl (α:Type) where
 K:Nat
 cs:α→List Value
 pos:0<K
 len: ∀a,(cs a).length=K
 one: ∀a,∀u∈cs a,u.oneCell'=true
section
variable {α:Type}{S:Fl α}
def cellsF (S:Fl α):List α→List Value
 | []=>[]
 | x::r=>S.cs x++cellsF S r
theorem yI: ∀L:List α,(cellsF S L).length=L.length*S.K
 | []=>by simp [cellsF]
 | x::r=>by simp only [cellsF,List.length_append,yI r,S.len,List.length_cons,Nat.succ_mul];omega
theorem jM: ∀L M:List α,cellsF S (L++M)=cellsF S L++cellsF S M
 | [],M=>by simp [cellsF]
 | y::r,M=>by simp only [List.cons_append,cellsF,jM r M,List.append_assoc]
theorem qF (x:α)(L:List α):cellsF S (L++ [x])=cellsF S L++S.cs x:=by
 rw [jM];simp [cellsF]
theorem zac: ∀L:List α,∀u∈cellsF S L,u.oneCell'=true
 | [],u,h=>by simp [cellsF] at h
 | x::r,u,h=>by
  rcases List.mem_append.1 h with q|q
  ·exact S.one x u q
  ·exact zac r u q
theorem zbt: ∀(L:List α) (i:Nat) (x:α),L[i]? =some x→ ∀j,j<S.K→(cellsF S L)[i*S.K+j]? =(S.cs x)[j]?
 | y::r,0,x,h,j,hj=>by
  obtain rfl:y=x:=by simpa using h
  rw [Nat.zero_mul,Nat.zero_add];unfold cellsF;rw [List.getElem?_append_left (by rw [S.len];exact hj)]
 | y::r,i+1,x,h,j,hj=>by
  unfold cellsF;rw [List.getElem?_append_right (by rw [S.len,Nat.succ_mul];omega),S.len,show (i+1)*S.K+j-S.K=i*S.K+j by rw [Nat.succ_mul];omega];exact zbt r i x (by simpa using h) j hj
def yq (S:Fl α)(C:Array Value)(off:Nat)(L:List α):Prop:= ∀(i:Nat) (x:α),L[i]? =some x→off+i*S.K+S.K≤C.size∧C.extract (off+i*S.K) (off+i*S.K+S.K)=(S.cs x).toArray
theorem yq.nil (C:Array Value)(off:Nat):yq S C off []:=fun i x h=>by simp at h
theorem yq.drop {C:Array Value}{off:Nat}{L:List α}(h:yq S C off L)(k:Nat):yq S C (off+k*S.K) (L.drop k):=fun i x hx=>by
 rw [List.getElem?_drop] at hx;have:=h (k+i) x hx;rw [Nat.add_mul] at this;rw [show off+k*S.K+i*S.K=off+(k*S.K+i*S.K) by omega];exact this
theorem yq.take {C:Array Value}{off:Nat}{L:List α}(h:yq S C off L)(k:Nat):yq S C off (L.take k):=fun i x hx=>by
 rw [List.getElem?_take] at hx;split at hx
 ·exact h i x hx
 ·cases hx
theorem yq.cell {C:Array Value}{off:Nat}{L:List α}(h:yq S C off L){i:Nat}{x:α}(hx:L[i]? =some x)(j:Nat)(hj:j<S.K):C[off+i*S.K+j]? =(S.cs x)[j]? :=by
 obtain ⟨h1,h2⟩:=h i x hx;have e:(C.extract (off+i*S.K) (off+i*S.K+S.K))[j]? =C[off+i*S.K+j]? :=by
  rw [Array.getElem?_extract,if_pos (by omega)]
 rw [←e,h2];simp
theorem Rw.rowAt {cur:Array Value}{cap n:Nat}{L:List α}(h:Rw S.K cur cap n (cellsF S L)):yq S cur 0 L:=fun i x hx=>by
 have hl:=h.len;rw [yI] at hl;have hi:i<L.length:=(List.getElem?_eq_some_iff.1 hx).1;rw [Nat.zero_add];refine exE (S.len x) (fun j hj=>?_) S.pos
 rw [h.get _ (by
  rw [←hl];have:i*S.K+S.K≤L.length*S.K:=by rw [←Nat.succ_mul];exact Nat.mul_le_mul_right _ hi
  omega),zbt L i x hx j hj]
theorem Rw.lenF {cur:Array Value}{cap n:Nat}{L:List α}(h:Rw S.K cur cap n (cellsF S L)):L.length=n:=by
 have hl:=h.len;rw [yI] at hl;exact Nat.eq_of_mul_eq_mul_right S.pos hl
def zR (S:Fl α)(ty:TypeId)(p:Option Addr)(n c:Nat)(row:List (Nat×Obj))(L:List α):Prop:=(p=none∧n=0∧c=0∧row=[]∧L=[])∨∃b cur,p=some ⟨b,0,none⟩∧row=[(b,.cells cur ty (0,0))]∧Rw S.K cur c n (cellsF S L)
theorem zR.len {ty:TypeId}{p:Option Addr}{n c:Nat}{row:List (Nat×Obj)}{L:List α}(h:zR S ty p n c row L):L.length=n:=by
 rcases h with ⟨_,rfl,_,_,rfl⟩|⟨b,cur,_,_,hr⟩
 ·rfl
 ·exact hr.lenF
structure xu (S:Fl α)(C:Array Value)(n i:Nat)(M:List α):Prop where
 sz:C.size=n*S.K
 len:M.length=i
 take:C.toList.take (i*S.K)=cellsF S M
theorem xu.start {C:Array Value}{n:Nat}(h:C.size=n*S.K):xu S C n 0 []:=⟨h,rfl,by simp [cellsF]⟩
def uc (C:Array Value)(off:Nat)(v:Value):Array Value:=(C.toList.take off++v.cells.toList++C.toList.drop (off+v.cells.size)).toArray
theorem xu.put {C:Array Value}{n i:Nat}{M:List α}(h:xu S C n i M)(x:α){v:Value}(hv:v.cells.toList=S.cs x)(hi:i<n):
 0+i*S.K+v.cells.size≤C.size∧xu S (uc C (0+i*S.K) v) n (i+1) (M++ [x]):=by
 have hsv:v.cells.size=S.K:=by rw [←Array.length_toList,hv,S.len]
 have hsz:=h.sz;have hle:i*S.K+S.K≤C.size:=by rw [hsz,←Nat.succ_mul];exact Nat.mul_le_mul_right _ hi
 rw [Nat.zero_add];refine ⟨by omega,?_,by rw [List.length_append,h.len];rfl,?_⟩
 ·unfold uc;rw [List.size_toArray,List.length_append,List.length_append,List.length_take,List.length_drop,Array.length_toList,Array.length_toList,hsv];omega
 ·have e1:(C.toList.take (i*S.K)).length=i*S.K:=by rw [List.length_take,Array.length_toList];omega
  have e2:(C.toList.take (i*S.K)).take (i*S.K+S.K)=C.toList.take (i*S.K):=List.take_of_length_le (by omega);have e3:(S.cs x).take S.K=S.cs x:=List.take_of_length_le (by rw [S.len];exact Nat.le_refl _);unfold uc;rw [Nat.succ_mul,List.toList_toArray,List.append_assoc,List.take_append,e1,e2,Nat.add_sub_cancel_left,List.take_append,hv,S.len,Nat.sub_self,List.take_zero,List.append_nil,e3,qF,h.take]
theorem xu.done {C:Array Value}{n:Nat}{M:List α}(h:xu S C n n M)(hm:n≤maxLen):Rw S.K C n n (cellsF S M):=⟨by rw [yI,h.len],Nat.le_refl _,hm,h.take,h.sz⟩
end
namespace D2
def ApP (ka kb kc:Nat)(P0:World→Prop)(P1 P2:Gh→World→Prop):(Nat→Bool)→(Nat→Gh)→World→Prop:=fun L g w=>bif L kc then P2 (g kc) w else bif L kb then P2 (g kb) w else bif L ka then P1 (g ka) w else P0 w
theorem ApP.get {ka kb kc:Nat}{P0:World→Prop}{P1 P2:Gh→World→Prop}{L:Nat→Bool}{g:Nat→Gh}{w:World}{Φ:Prop}(h:ApP ka kb kc P0 P1 P2 L g w)(h0:P0 w→Φ)(h1: ∀y,P1 y w→Φ)(h2: ∀y,P2 y w→Φ):Φ:=by
 unfold ApP at h;cases hc:L kc with
 | true=>rw [hc] at h;exact h2 _ h
 | false=>
  rw [hc] at h;cases hb:L kb with
  | true=>rw [hb] at h;exact h2 _ h
  | false=>
   rw [hb] at h;cases ha:L ka with
   | true=>rw [ha] at h;exact h1 _ h
   | false=>rw [ha] at h;exact h0 h
theorem ApP.call {ka kb kc:Nat}{P0:World→Prop}{P1 P2:Gh→World→Prop}{L:Nat→Bool}{g:Nat→Gh}{w w':World}(h:ApP ka kb kc P0 P1 P2 L g w)(h0:P0 w→P0 w')(h1: ∀y,P1 y w→P1 y w')(h2: ∀y,P2 y w→P2 y w'):ApP ka kb kc P0 P1 P2 L g w':=by
 unfold ApP at h ⊢;cases hc:L kc with
 | true=>rw [hc] at h;exact h2 _ h
 | false=>
  rw [hc] at h;cases hb:L kb with
  | true=>rw [hb] at h;exact h2 _ h
  | false=>
   rw [hb] at h;cases ha:L ka with
   | true=>rw [ha] at h;exact h1 _ h
   | false=>rw [ha] at h;exact h0 h
section
variable {P:Program}{ops:Array Oper}{R:(Nat→Gh)→Env}{d:Option Nat}
theorem gv_cW {pre:(Nat→Bool)→(Nat→Gh)→World→Prop}{i:Nat}{V:Value}(hs: ∀L g w,pre L g w→pre (put1 L i) g w)(f:Nat)(args:Array Value)(hc:Fn P f args V)(hb: ∀L g w w',Now ops i L→pre L g w→Below w.heap.size w w'→pre L g w')(h: ∀g w,opv P ops i (R g) w=some (d,true,.ok (.enter f args) w)):Gives P ops R pre i d (fun _=>V):=
 gv_cpW hs f args (pr:=fun _=>True) (fun w _=>hc w) (fun _ _ _ _ _=>trivial) hb h
variable {B:Nat}{w0:World}{E row:List (Nat×Obj)}{Y:Array Value}{ty:TypeId}{n:Nat}{K:Nat}{xs:List Value}
abbrev ap0 (B:Nat)(w0:World)(row E:List (Nat×Obj)):World→Prop:=fun w=>St B w0 w (row++E)
abbrev ap1 (B:Nat)(w0:World)(row E:List (Nat×Obj))(Y:Array Value)(ty:TypeId):Gh→World→Prop:=fun y w=>St B w0 w ((y.b,.cells Y ty (0,0))::(row++E))
abbrev ap2 (B:Nat)(w0:World)(E:List (Nat×Obj))(Y:Array Value)(ty:TypeId)(K n:Nat)(xs:List Value):Gh→World→Prop:=fun y w=>Rw K y.cur y.cap (n+1) (xs++Y.toList)∧St B w0 w ((y.b,.cells y.cur ty (0,0))::E)
theorem gv_ap1 (ka kb kc:Nat)(hab:Nat.beq kb ka=false)(hac:Nat.beq kc ka=false)(hN: ∀L,Now ops ka L→L kb=false∧L kc=false)(h: ∀g w,opv P ops ka (R g) w=some (d,true,.ok (.value (.slice (some ⟨w.heap.size,0,none⟩) 1 1)) (w.alloc (.cells Y ty)))):
 Gives P ops R (ApP ka kb kc (ap0 B w0 row E) (ap1 B w0 row E Y ty) (ap2 B w0 E Y ty K n xs)) ka d (fun y=>.slice (some ⟨y.b,0,none⟩) 1 1):=by
 refine gives_of fun L g w hp hNw=>?_;obtain ⟨hb,hc⟩:=hN L hNw;unfold ApP at hp;rw [hc,hb,hNw.1] at hp;obtain ⟨o,ho,hd,hw,hrun⟩:=yg (h g w);refine ⟨o,ho,hd,.inr ⟨hw,?_⟩⟩;refine (congrArg (Runs _ _) hrun).mpr ?_;refine ⟨{ b:=w.heap.size },rfl,?_⟩;unfold ApP;rw [show put1 L ka kc=false by unfold put1;rw [hac,hc];rfl,show put1 L ka kb=false by unfold put1;rw [hab,hb];rfl,put1_self,show setN g ka { b:=w.heap.size } ka= { b:=w.heap.size } by unfold setN;rw [Nat.beq_refl];rfl];exact St.alloc hp _
theorem gv_ap2 (ka kb kc:Nat)(hbc:Nat.beq kc kb=false)(c:Nat)(t bytes:Nat)(s x:Operand)(p:Option Addr)(hN: ∀L,Now ops kb L→L ka=true∧L kc=false)(h: ∀g,opk ops kb (R g)=some (d,true,yn t s x))(ht:ye P t=some (ty,K,bytes))
 (hs: ∀g,ev (R g) s=.slice p n c) (hx: ∀g,ev (R g) x=.slice (some ⟨(g ka).b,0,none⟩) 1 1)
 (hrow:(p=none∧n=0∧c=0∧row=[]∧xs=[])∨∃b cur,p=some ⟨b,0,none⟩∧row=[(b,.cells cur ty (0,0))]∧Rw K cur c n xs)
 (hY:Y.size=K) (hone: ∀u∈Y.toList,u.oneCell'=true) (hb:(n+1)*bytes≤0x800000000000) (hm:n+1≤maxLen):
 Gives P ops R (ApP ka kb kc (ap0 B w0 row E) (ap1 B w0 row E Y ty) (ap2 B w0 E Y ty K n xs)) kb d (fun y=>.slice (some ⟨y.b,0,none⟩) (n+1) y.cap):=by
 refine gives_of fun L g w hp hNw=>?_;obtain ⟨ha,hc⟩:=hN L hNw;unfold ApP at hp;rw [hc,hNw.1,ha] at hp;obtain ⟨o,ho,hd,hw,hop⟩:=zI (h g);refine ⟨o,ho,hd,.inr ⟨hw,?_⟩⟩;rcases hrow with ⟨rfl,rfl,rfl,rfl,rfl⟩ | ⟨bw,cur,rfl,rfl,hrw⟩
 ·obtain ⟨b',cap',cur',w',hrun,HS',hr'⟩:=vj (K:=K) hp (k:=0) (bx:=(g ka).b) (c:=1) (Y:=Y) ht hop (hs g) (hx g) rfl hY hone hb;rw [hrun];refine ⟨{ b:=b',cap:=cap',cur:=cur' },rfl,?_⟩;unfold ApP;rw [show put1 L kb kc=false by unfold put1;rw [hbc,hc];rfl,put1_self,show setN g kb { b:=b',cap:=cap',cur:=cur' } kb= { b:=b',cap:=cap',cur:=cur' } by unfold setN;rw [Nat.beq_refl];rfl];exact ⟨hr',HS'.sub (List.Sublist.cons_cons _ (List.sublist_cons_self ..))⟩
 ·obtain ⟨b',cap',cur',w',hrun,HS',hr'⟩:=vi (K:=K) hp (j:=1) (k:=0) (bx:=(g ka).b) (c:=1) (Y:=Y) ht hop (hs g) rfl hrw (hx g) rfl hY hone hb hm;rw [hrun];refine ⟨{ b:=b',cap:=cap',cur:=cur' },rfl,?_⟩;unfold ApP;rw [show put1 L kb kc=false by unfold put1;rw [hbc,hc];rfl,put1_self,show setN g kb { b:=b',cap:=cap',cur:=cur' } kb= { b:=b',cap:=cap',cur:=cur' } by unfold setN;rw [Nat.beq_refl];rfl];exact ⟨hr',HS'.sub (List.sublist_cons_self ..)⟩
theorem gv_ap3 (ka kb kc:Nat)(hN: ∀L,Now ops kc L→L kb=true)(h: ∀g w,opv P ops kc (R g) w=some (d,true,.ok (.value (.slice (some ⟨(g kb).b,0,none⟩) (n+1) (g kb).cap)) w)):
 Gives P ops R (ApP ka kb kc (ap0 B w0 row E) (ap1 B w0 row E Y ty) (ap2 B w0 E Y ty K n xs)) kc d (fun y=>.slice (some ⟨y.b,0,none⟩) (n+1) y.cap):=by
 refine gv_valG (fun g=>g kb) (fun L g w hNw hp=>?_) h;have hb:=hN L hNw;unfold ApP at hp ⊢;rw [hNw.1,hb] at hp;rw [put1_self,show setN g kc (g kb) kc=g kb by unfold setN;rw [Nat.beq_refl];rfl];exact hp
end
end D2
section
variable {α:Type}{S:Fl α}
theorem yq.at {C:Array Value}{off:Nat}{L:List α}(h:yq S C off L){q:Nat}{u:Value}(hq:(cellsF S L)[q]? =some u):C[off+q]? =some u:=by
 have hlt:=(List.getElem?_eq_some_iff.1 hq).1;rw [yI] at hlt;have hK:=S.pos;have hi:q / S.K<L.length:=(Nat.div_lt_iff_lt_mul hK).2 hlt;obtain ⟨x,hx⟩:∃x,L[q / S.K]? =some x:=⟨_,List.getElem?_eq_getElem hi⟩
 have hj:=Nat.mod_lt q hK;have e:q / S.K*S.K+q%S.K=q:=Nat.div_add_mod' q S.K;have h1:=zbt L _ x hx (q%S.K) hj;have h2:=h.cell hx (q%S.K) hj;rw [e] at h1;rw [Nat.add_assoc,e] at h2;rw [h2,←h1,hq]
variable {P:Program}{ρ:Env}{w w0:World}{B:Nat}{l:List (Nat×Obj)}
theorem zbu (HS:St B w0 w l){t e bytes:Nat}{s x:Operand}{o:Oper}{j b n cap m c:Nat}{a:Addr}{cur:Array Value}{xs:List Value}{M:List α}(ht:ye P t=some (e,S.K,bytes))(ho:o.op=yn t s x)
 (hs:ev ρ s=.slice (some ⟨b,0,none⟩) n cap) (hj:l[j]? =some (b,.cells cur e (0,0))) (hr:Rw S.K cur cap n xs) (hx:ev ρ x=.slice (some a) m c) (hM:m=M.length)
 (hk:M=[]∨∃bx off C T fz,a=⟨bx,off,none⟩∧w.heap[bx]? =some (.cells C T fz)∧yq S C off M)
 (hb:(n+m)*bytes≤0x800000000000) (hm:n+m≤maxLen):∃b' cap' cur' w',(execOp (ev ρ) o).run P w=.ok (.value (.slice (some ⟨b',0,none⟩) (n+m) cap')) w'∧St B w0 w' (l.set j (b',.cells cur' e (0,0)))∧Rw S.K cur' cap' (n+m) (xs++cellsF S M):=by
 obtain ⟨it,z,hu,hi,hz,hsz,hby,hzs,h0⟩:=yY ht;have hnews: ∀q u,(cellsF S M)[q]? =some u→w.cell? (a.add q)=some u:=fun q u hq=>by
  rcases hk with rfl|⟨bx,off,C,T,fz,rfl,hh,hR⟩
  ·simp [cellsF] at hq
  ·rw [yX];simp [World.cell?,hh,hR.at hq]
 obtain ⟨v',w',hrun,hown,hgr,hnil,hblk⟩:=run_append_own_at (P:=P) w B t o.type e it z S.K bytes hu hi hz hsz hby hzs h0 _ n xs (hr.owns (HS.ge j hj) (HS.get j hj)) a m c (cellsF S M) (by rw [yI,hM]) hnews (zac M) hm hb HS.le;have hown':=hown;rcases hown'.2 with ⟨hv,_⟩|⟨g,cap',cur',rfl,hbg,hg,hnc,hcm,hcs,htk⟩
 ·exact absurd (hnil.1 hv).1 (by simp)
 ·have hgb:g=b∨g=w.heap.size:=by
   rcases hblk with hq|hq
   ·left;injection hq
   ·right;injection hq
  refine ⟨g,cap',cur',w',?_,HS.grown j hj hgr hgb hg,?_⟩
  ·unfold execOp;simp only [ho,yn,resolve,invoke,builtin,Sem.run_bind,Sem.run_pure,Result.andThen_ok,List.map_toArray,List.map_cons,List.map_nil,hs,hx,hrun]
  ·exact ⟨hown.1,hnc,hcm,htk,hcs⟩
variable {N:Nat}{ops:Array Oper}{i:Nat}{r:List Nat}{K:Env→World→Prop}
theorem ziG (HS:St B w0 w l)(d:Option Nat)(t e bytes:Nat)(s x:Operand)(j b n cap m c:Nat)(a:Addr)(cur:Array Value)(xs:List Value)(M:List α)(h:opk ops i ρ=some (d,true,yn t s x))(hd:dOK d N=true)(ht:ye P t=some (e,S.K,bytes))
 (hs:ev ρ s=.slice (some ⟨b,0,none⟩) n cap) (hj:l[j]? =some (b,.cells cur e (0,0))) (hr:Rw S.K cur cap n xs) (hx:ev ρ x=.slice (some a) m c) (hM:m=M.length)
 (hk:M=[]∨∃bx off C T fz,a=⟨bx,off,none⟩∧w.heap[bx]? =some (.cells C T fz)∧yq S C off M)
 (hb:(n+m)*bytes≤0x800000000000) (hm:n+m≤maxLen)
 (kk: ∀b' cap' cur' w',St B w0 w' (l.set j (b',.cells cur' e (0,0)))→Rw S.K cur' cap' (n+m) (xs++cellsF S M)→WPs P N ops K r (zt ρ d (.slice (some ⟨b',0,none⟩) (n+m) cap')) w'):WPs P N ops K (i::r) ρ w:=by
 obtain ⟨o,ho,rfl,hw,hop⟩:=zI h;obtain ⟨b',cap',cur',w',hrun,HS',hr'⟩:=zbu (S:=S) HS ht hop hs hj hr hx hM hk hb hm;refine WPo.run ho hw fun a ha=>?_;rw [hrun,Oper.upon_value];exact ⟨_,ha.put _ (zX hd) _,kk b' cap' cur' w' HS' hr'⟩
end
theorem D2.two.get {k:Nat}{Pre:World→Prop}{Post:D2.Gh→World→Prop}{L:Nat→Bool}{g:Nat→D2.Gh}{w:World}{Φ:Prop}(h:D2.two k Pre Post L g w)(h1:Pre w→Φ)(h2: ∀x,Post x w→Φ):Φ:=by
 unfold D2.two at h;cases hk:L k with
 | true=>rw [hk] at h;exact h2 _ h
 | false=>rw [hk] at h;exact h1 h
def pG (y:D2.Gh):Option Addr:=match y.l with
 | []=>none
 | _=>some ⟨y.b,0,none⟩
theorem zad {α:Type}{S:Fl α}{ty:TypeId}{p:Option Addr}{n c:Nat}{T:List (Nat×Obj)}{L:List α}(h:zR S ty p n c T L):∃x:D2.Gh,Value.slice p n c=.slice (pG x) x.n x.cap∧zR S ty (pG x) x.n x.cap T L:=by
 rcases h with ⟨rfl,rfl,rfl,rfl,rfl⟩|⟨b,cur,rfl,rfl,hr⟩
 ·exact ⟨{ n:=0,cap:=0 },rfl,.inl ⟨rfl,rfl,rfl,rfl,rfl⟩⟩
 ·exact ⟨{ b:=b,n:=n,cap:=c,l:=[1] },rfl,.inr ⟨b,cur,rfl,rfl,hr⟩⟩
end Go.Proofs.YtbbdbdndedeokaaGreatDoor
namespace Go.Proofs.YtbbdbdndedeokaaGreatDoor
open Go Go.RowKit
set_option linter.unusedVariables false
def yd (C:Array Value)(o:Nat)(vs:List Value):Array Value:=(C.toList.take o++vs++C.toList.drop (o+vs.length)).toArray
theorem vk {C:Array Value}{o:Nat}{vs:List Value}(h:o+vs.length≤C.size):(yd C o vs).size=C.size:=by
 unfold yd;rw [List.size_toArray,List.length_append,List.length_append,List.length_take,List.length_drop,Array.length_toList];omega
theorem zd1 {C:Array Value}{o:Nat}{vs:List Value} :(yd C o vs).toList=C.toList.take o++vs++C.toList.drop (o+vs.length):=rfl
theorem zae {C:Array Value}{o:Nat}{vs:List Value}{m:Nat}(h:o+vs.length≤C.size)(hm:o+vs.length≤m):(yd C o vs).toList.take m=C.toList.take o++vs++(C.toList.take m).drop (o+vs.length):=by
 rw [zd1];have e1:(C.toList.take o).length=o:=by rw [List.length_take,Array.length_toList];omega
 have e2:(C.toList.take o++vs).length=o+vs.length:=by rw [List.length_append,e1]
 rw [List.take_append,e2,List.take_of_length_le (by rw [e2];exact hm),List.drop_take]
theorem ziH {C:Array Value}{o:Nat}{vs:List Value}{m:Nat}(h:o≤C.size)(hm:m≤o):(yd C o vs).toList.take m=C.toList.take m:=by
 rw [zd1,List.append_assoc,List.take_append_of_le_length (by rw [List.length_take,Array.length_toList];omega),List.take_take,Nat.min_eq_left hm]
section
variable {P:Program}{w w0:World}
theorem ziI (dT sT ty e size:Nat)(hu:P.underlying dT=some (.slice e))(hs:(P.info? e).map (·.size)=some size)(g o dLen dCap:Nat)(a:Addr)(sLen sCap:Nat)(cur:Array Value)(t:TypeId)(cs:List Value)
 (hg:w.heap[g]? =some (.cells cur t (0,0))) (hn:cs.length=Nat.min sLen dLen*size)
 (hsrc: ∀j v,cs[j]? =some v→w.cell? (a.add j)=some v) (hfit:o+cs.length≤cur.size) (h1: ∀v∈cs,v.oneCell'=true):
 (Builtin.copy_ #[dT,sT] ty #[.slice (some ⟨g,o,none⟩) dLen dCap,.slice (some a) sLen sCap]).run P w=.ok (.int .i64 ((Nat.min sLen dLen:Nat):Int)) (w.setRow g (yd cur o cs)):=by
 have hl:=run_loadCells_list (P:=P) w a cs hsrc;have hst:=run_storeCells_at P g o t cs 0 cur w hg (by simpa using hfit) h1;cases hq:P.info? e with
 | none=>simp [hq] at hs
 | some i=>
  have hi:i.size=size:=by simpa [hq] using hs
  simp [Builtin.copy_,run_underlying hu,Builtin.lenOf,Builtin.firstCells,sizeOf,typeInfo,hq,hi,←hn,hl,hst];exact ⟨rfl,by unfold yd;rw [List.append_assoc]⟩
theorem ziJ (t tn ty e:TypeId)(i:TypeInfo)(z:Value)(kn k:IntKind)(ht:P.underlying t=some (.slice e))(htn:P.underlying tn=some (.int kn))(hi:P.info? e=some i)(hz:i.zero=some z)
 (b:Addr) (sLen sCap:Nat) (olds:List Value) (hlo:olds.length=sLen*i.size) (holds: ∀j v,olds[j]? =some v→w.cell? (b.add j)=some v)
 (n:Nat) (h0:0<n) (hs:0<i.size) (hg:sCap<sLen+n) (h63:((sLen+n:Nat):Int)≤0x7fffffffffffffff) (h48:n*i.bytes≤281474976710656) (hfit:Builtin.nextslicecap (sLen+n) sCap*i.bytes≤281474976710656):
 (Builtin.append_ #[t,tn] ty #[.slice (some b) sLen sCap,.int k n]).run P w=
  .ok (.slice (some ⟨w.heap.size,0,none⟩) (sLen+n) (grownCap w (sLen+n) sCap e))
   (w.drew.alloc (.cells (olds.toArray++Builtin.zeroCells z.cells n++Builtin.zeroCells z.cells (grownCap w (sLen+n) sCap e-(sLen+n))) e)):=by
 have hn: ¬(sLen+n≤sCap):=by omega
 have hn0:n≠0:=by omega
 have hw:IntKind.i64.wrap (n:Int)=n:=by rw [IntKind.wrap_i64];omega
 have h63': ¬(0x7fffffffffffffff<((sLen:Int)+(n:Int))):=by omega
 have h48': ¬(281474976710656<Builtin.nextslicecap (sLen+n) sCap*i.bytes):=by omega
 have h48i: ¬(281474976710656<(n:Int)*(i.bytes:Int)):=by
  rw [←Int.natCast_mul];omega
 have hneg: ¬((n:Int)<0):=by omega
 have hns: ¬(n*i.size=0):=Nat.mul_ne_zero hn0 (by omega);have hfo:=run_firstCells_some (P:=P) w.drew i.size sLen b sLen sCap olds hlo (by simpa using holds);simp [Builtin.append_,run_underlying ht,run_underlying htn,sizeOf,typeInfo,zeroValue,hi,hz,asInt,asIntOf,hw,hn,hn0,hneg,hns,h63',h48',h48i,Question.forced,hfo,newRow,grownCap]
theorem ziK (z:Array Value)(n:Nat):(Builtin.zeroCells z n).size=n*z.size:=by unfold Builtin.zeroCells;simp
end
section
variable {P:Program}{N:Nat}{ops:Array Oper}{i:Nat}{r:List Nat}{K:Env→World→Prop}{ρ:Env}{w:World}{B:Nat}{w0:World}{l:List (Nat×Obj)}
theorem ziL (HS:St B w0 w l)(d:Option Nat)(t tn e size bytes:Nat)(kn:IntKind)(x y:Operand)(j b n cap m:Nat)(cur:Array Value)(xs:List Value)
 (h:opk ops i ρ=some (d,true,.call { callee:=.builtin .append,args:=#[x,y],argTypes:=#[t,tn] })) (hd:dOK d N=true) (ht:ye P t=some (e,size,bytes)) (htn:P.underlying tn=some (.int kn))
 (hx:ev ρ x=.slice (some ⟨b,0,none⟩) n cap) (hy:ev ρ y=.int .i64 (m:Int)) (hj:l[j]? =some (b,.cells cur e (0,0))) (hr:Rw size cur cap n xs) (h0:0<m) (hg:cap<n+m) (hb:(n+m)*bytes≤0x800000000000) (hm:n+m≤maxLen)
 (kk: ∀b' cap' cur' w',St B w0 w' ((b',.cells cur' e (0,0))::l)→n+m≤cap'→cap'≤maxLen→cur'.size=cap'*size→cur'.toList.take (n*size)=xs→WPs P N ops K r (zt ρ d (.slice (some ⟨b',0,none⟩) (n+m) cap')) w'):WPs P N ops K (i::r) ρ w:=by
 obtain ⟨o',ho,rfl,hw,hop⟩:=zI h;obtain ⟨it,z,hu,hi,hz,hsz,hby,hzs,hs0⟩:=yY ht;subst hsz hby;have hml:n+m≤0x7fffffffffffffff:=by simp only [maxLen] at hm;omega
 have hmb:m*it.bytes≤(n+m)*it.bytes:=Nat.mul_le_mul_right _ (by omega);have holds: ∀q v,xs[q]? =some v→w.cell? ((⟨b,0,none⟩:Addr).add q)=some v:=fun q v hq=>by
  have hql:q<n*it.size:=by rw [←hr.len];exact (List.getElem?_eq_some_iff.1 hq).1
  rw [yX,Nat.zero_add];simp [World.cell?,HS.get j hj,hr.get q hql,hq]
 have hrun:=ziJ (P:=P) (w:=w) t tn o'.type e it z kn .i64 hu htn hi hz ⟨b,0,none⟩ n cap xs hr.len holds m h0 hs0 hg (by omega) (by omega) (growslice_fits hg hb);refine WPo.run ho hw fun a' ha=>?_;have hex:(execOp (ev ρ) o').run P w=.ok (.value (.slice (some ⟨w.heap.size,0,none⟩) (n+m) (grownCap w (n+m) cap e))) (w.drew.alloc (.cells (xs.toArray++Builtin.zeroCells z.cells m++Builtin.zeroCells z.cells (grownCap w (n+m) cap e-(n+m))) e)):=by
  unfold execOp;simp only [hop,resolve,invoke,builtin,Sem.run_bind,Sem.run_pure,Result.andThen_ok,List.map_toArray,List.map_cons,List.map_nil,hx,hy,hrun]
 rw [hex,Oper.upon_value];have hge:=grownCap_ge w (n+m) cap e;have hcm:=grownCap_le_maxLen w (n+m) cap e hm;refine ⟨_,ha.put _ (zX hd) _,kk _ _ _ _ (HS.drew.alloc _) hge hcm ?_ ?_⟩
 ·simp only [Array.size_append,List.size_toArray,ziK,hzs,hr.len,←Nat.add_mul];congr 1;omega
 ·simp only [Array.toList_append];rw [List.append_assoc,←hr.len,List.take_left]
end
namespace D2
def stg:List Nat→(Nat→Bool)→Nat
 | [],_=>0
 | k::r,L=>bif L k then stg r L+1 else 0
def chn (ks:List Nat)(Q:Nat→(Nat→Gh)→World→Prop):(Nat→Bool)→(Nat→Gh)→World→Prop:=fun L g w=>Q (stg ks L) g w
theorem zd2: ∀(ks:List Nat) (L:Nat→Bool),stg ks L≤ks.length
 | [],_=>Nat.le_refl _
 | k::r,L=>by
  unfold stg;cases L k with
  | true=>exact Nat.succ_le_succ (zd2 r L)
  | false=>exact Nat.zero_le _
theorem chn.get {ks:List Nat}{Q:Nat→(Nat→Gh)→World→Prop}{L:Nat→Bool}{g:Nat→Gh}{w:World}{Φ:Prop}(h:chn ks Q L g w)(hQ: ∀j,j≤ks.length→Q j g w→Φ):Φ:=hQ _ (zd2 ks L) h
theorem chn.fin {Q:Nat→(Nat→Gh)→World→Prop}{g:Nat→Gh}{w:World} : ∀ {ks:List Nat} {L:Nat→Bool},chn ks Q L g w→(∀k∈ks,L k=true)→Q ks.length g w:=by
 intro ks L h hk;have:stg ks L=ks.length:=by
  clear h
  induction ks with
  | nil=>rfl
  | cons k r ih=>
   unfold stg;rw [hk k (List.mem_cons_self ..),ih fun x hx=>hk x (List.mem_cons_of_mem _ hx)];rfl
 unfold chn at h
 rwa [this] at h
section
variable {P:Program}{ops:Array Oper}{R:(Nat→Gh)→Env}{d:Option Nat}
theorem gv_chn {V:Gh→Value}{ks:List Nat}{Q:Nat→(Nat→Gh)→World→Prop}(k j:Nat)(hN: ∀L,Now ops k L→stg ks L=j∧stg ks (put1 L k)=j+1)
 (hr: ∀g w,Q j g w→∃o,ops[k]? =some o∧o.dst=d∧Region.wanted o (zU ops (R g))=true∧Runs P (fun v w'=> ∃x,v=V x∧Q (j+1) (setN g k x) w') ((execOp (ev (R g)) o).run P w)):Gives P ops R (chn ks Q) k d V:=by
 refine gives_of fun L g w hp hNw=>?_;obtain ⟨e1,e2⟩:=hN L hNw;unfold chn at hp;rw [e1] at hp;obtain ⟨o,ho,hd,hw,hq⟩:=hr g w hp;refine ⟨o,ho,hd,.inr ⟨hw,?_⟩⟩;unfold chn;rw [e2];exact hq
variable {ρ:Env}{k:Nat}{w:World}{S:Value→World→Prop}
theorem run_new {F:Nat→Value}{ob:Obj}(h:opv P ops k ρ w=some (d,true,.ok (.value (F w.heap.size)) (w.alloc ob)))(hS:S (F w.heap.size) (w.alloc ob)):
 ∃o,ops[k]? =some o∧o.dst=d∧Region.wanted o (zU ops ρ)=true∧Runs P S ((execOp (ev ρ) o).run P w):=by
 obtain ⟨o,ho,hd,hw,hr⟩:=yg h;exact ⟨o,ho,hd,hw,by rw [hr];exact hS⟩
theorem run_ft {f:Nat}{args:Array Value}{pr:World→Prop}{ok:Value→List (Nat×Obj)→Prop}(hc:FnT P f args pr ok)(hp:pr w)(h:opv P ops k ρ w=some (d,true,.ok (.enter f args) w))(hS: ∀v T w',ok v T→St w.heap.size w w' T→S v w'):
 ∃o,ops[k]? =some o∧o.dst=d∧Region.wanted o (zU ops ρ)=true∧Runs P S ((execOp (ev ρ) o).run P w):=by
 obtain ⟨o,ho,hd,hw,hr⟩:=yg h;refine ⟨o,ho,hd,hw,?_⟩;rw [hr];refine Calls.mono (hc w hp) ?_;rintro e w' ⟨v,T,rfl,hok,hT⟩;exact ⟨v,rfl,hS v T w' hok hT⟩
theorem run_sto {t:TypeId}{x y:Operand}{b off:Nat}{C C':Array Value}{T:TypeId}{v:Value}(h:opk ops k ρ=some (none,true,.store t x y))(hx:ev ρ x=.pointer (some ⟨b,off,none⟩))(hy:ev ρ y=v)(hi:(P.info? t).map (·.size)=some v.cells.size)(h1:v.cells.all (·.oneCell')=true)
 (hh:w.heap[b]? =some (.cells C T (0,0))) (hs:off+v.cells.size≤C.size) (hC:(C.toList.take off++v.cells.toList++C.toList.drop (off+v.cells.size)).toArray=C') (hS:S undef (w.setRow b C')):
 ∃o,ops[k]? =some o∧o.dst=none∧Region.wanted o (zU ops ρ)=true∧Runs P S ((execOp (ev ρ) o).run P w):=by
 obtain ⟨o,ho,hd,hw,hop⟩:=zI h;refine ⟨o,ho,hd,hw,?_⟩;have hst:=km (P:=P) (w:=w) hi h1 hh hs;rw [hC] at hst;have e2:(execOp (ev ρ) o).run P w=.ok .skip (w.setRow b C'):=by simp [execOp,hop,Instr.storeAt,Instr.sureAddr,hx,hy,hst]
 rw [e2];exact hS
theorem run_of {op:Op}(h:opk ops k ρ=some (d,true,op))(hr: ∀o:Oper,o.op=op→∃v w',(execOp (ev ρ) o).run P w=.ok (.value v) w'∧S v w'):
 ∃o,ops[k]? =some o∧o.dst=d∧Region.wanted o (zU ops ρ)=true∧Runs P S ((execOp (ev ρ) o).run P w):=by
 obtain ⟨o,ho,hd,hw,hop⟩:=zI h;obtain ⟨v,w',e,hS⟩:=hr o hop;exact ⟨o,ho,hd,hw,by rw [e];exact hS⟩
end
end D2
section
open D2 (Gh)
theorem D2.Now.back {ops:Array Oper}{i:Nat}{L:Nat→Bool}(h:D2.Now ops i L){a b:Nat}(hb:L b=true)(he:D2.edge ops a b=true):L a=true:=by
 cases ha:L a with
 | true=>rfl
 | false=>have:=h.2.2.no a b he ha;rw [hb] at this;cases this
theorem D2.Now.fwd {ops:Array Oper}{i:Nat}{L:Nat→Bool}(h:D2.Now ops i L){a b:Nat}(ha:L a=false)(he:D2.edge ops a b=true):L b=false:=h.2.2.no a b he ha
theorem D2.stg_no: ∀(ks:List Nat) (L:Nat→Bool) (i k:Nat),ks[i]? =some k→L k=false→D2.stg ks L≤i
 | [],_,_,_,h,_=>by simp at h
 | k::r,L,0,k',h,hk=>by
  obtain rfl:k=k':=by simpa using h
  unfold D2.stg;rw [hk];exact Nat.le_refl _
 | k::r,L,i+1,k',h,hk=>by
  have ih:=D2.stg_no r L i k' (by simpa using h) hk;unfold D2.stg;cases L k with
  | true=>exact Nat.succ_le_succ ih
  | false=>exact Nat.zero_le _
theorem D2.chn.getN {ks:List Nat}{Q:Nat→(Nat→Gh)→World→Prop}{L:Nat→Bool}{g:Nat→Gh}{w:World}{Φ:Prop}(h:D2.chn ks Q L g w)(i k:Nat)(hi:ks[i]? =some k)(hk:L k=false)(hQ: ∀j,j≤i→Q j g w→Φ):Φ:=hQ _ (D2.stg_no ks L i k hi hk) h
end
end Go.Proofs.YtbbdbdndedeokaaGreatDoor
namespace Go.Proofs.YtbbdbdndedeokaaGreatDoor
open Go Go.RowKit
set_option linter.unusedVariables false
section
variable {P:Program}{N:Nat}{Q:Exit→Env→World→Prop}{ρ:Env}{w:World}{c:Code}
def zd3:Code→Bool | .scope _=>true | _=>false
def zd4:Code→Option Nat | .label i=>some i | _=>none
theorem ziM (h:zd3 c=true):c=.scope (jt c):=by cases c<;>first | rfl | cases h
theorem ziN {i:Nat}(h:zd4 c=some i):c=.label i:=by
 cases c<;>first | (cases h;done) | (cases h;rfl)
def ng (Q:Exit→Env→World→Prop):Exit→Env→World→Prop
 | .goto _,_,_=>False
 | e,ρ,w=>Q e ρ w
theorem ziO (hc:zd3 c=true)(h:WP P N (jt c) (ng Q) ρ w):WP P N c Q ρ w:=by
 rw [ziM hc];intro a ha;refine wp_scope_straight (Go.wp_mono (h a ha) ?_);rintro e a' w' ⟨r,hr,q⟩;cases e<;>first | exact ⟨r,hr,q⟩ | exact q.elim
theorem ziP (i:Nat)(hc:zd4 c=some i)(h:Q .normal ρ w):WP P N c Q ρ w:=by rw [ziN hc];exact WP.label h
end
section
variable {P:Program}{N:Nat}{ops:Array Oper}{i:Nat}{r:List Nat}{K:Env→World→Prop}{ρ:Env}{w:World}{B:Nat}{w0:World}{l:List (Nat×Obj)}
theorem xv {K':Nat}(HS:St B w0 w l)(d:Option Nat)(t e bytes:Nat)(s x:Operand)(j k b bx n cap c:Nat)(cur Y:Array Value)(xs:List Value)(h:opk ops i ρ=some (d,true,yn t s x))(hd:dOK d N=true)(ht:ye P t=some (e,K',bytes))
 (hs:ev ρ s=.slice (some ⟨b,0,none⟩) n cap) (hj:l[j]? =some (b,.cells cur e (0,0))) (hr:Rw K' cur cap n xs) (hx:ev ρ x=.slice (some ⟨bx,0,none⟩) 1 c) (hk:l[k]? =some (bx,.cells Y e (0,0)))
 (hY:Y.size=K') (hone: ∀u∈Y.toList,u.oneCell'=true) (hb:(n+1)*bytes≤0x800000000000) (hm:n+1≤maxLen)
 (kk: ∀b' cap' cur' w',St B w0 w' (l.set j (b',.cells cur' e (0,0)))→Rw K' cur' cap' (n+1) (xs++Y.toList)→WPs P N ops K r (zt ρ d (.slice (some ⟨b',0,none⟩) (n+1) cap')) w'):WPs P N ops K (i::r) ρ w:=by
 obtain ⟨o,ho,rfl,hw,hop⟩:=zI h;obtain ⟨b',cap',cur',w',hrun,HS',hr'⟩:=vi HS ht hop hs hj hr hx hk hY hone hb hm;refine WPo.run ho hw fun a ha=>?_;rw [hrun,Oper.upon_value];exact ⟨_,ha.put _ (zX hd) _,kk b' cap' cur' w' HS' hr'⟩
theorem zd5 {K':Nat}(HS:St B w0 w l)(d:Option Nat)(t e bytes:Nat)(s x:Operand)(k bx c:Nat)(Y:Array Value)(h:opk ops i ρ=some (d,true,yn t s x))(hd:dOK d N=true)(ht:ye P t=some (e,K',bytes))
 (hs:ev ρ s=.slice none 0 0) (hx:ev ρ x=.slice (some ⟨bx,0,none⟩) 1 c) (hk:l[k]? =some (bx,.cells Y e (0,0)))
 (hY:Y.size=K') (hone: ∀u∈Y.toList,u.oneCell'=true) (hb:(0+1)*bytes≤0x800000000000)
 (kk: ∀b' cap' cur' w',St B w0 w' ((b',.cells cur' e (0,0))::l)→Rw K' cur' cap' 1 Y.toList→WPs P N ops K r (zt ρ d (.slice (some ⟨b',0,none⟩) 1 cap')) w'):WPs P N ops K (i::r) ρ w:=by
 obtain ⟨o,ho,rfl,hw,hop⟩:=zI h;obtain ⟨b',cap',cur',w',hrun,HS',hr'⟩:=vj HS ht hop hs hx hk hY hone hb;refine WPo.run ho hw fun a ha=>?_;rw [hrun,Oper.upon_value];exact ⟨_,ha.put _ (zX hd) _,kk b' cap' cur' w' HS' hr'⟩
end
def putA (cur:Array Value)(off:Nat)(v:Value):Array Value:=(cur.toList.take off++v.cells.toList++cur.toList.drop (off+v.cells.size)).toArray
theorem Rw.putA {K:Nat}{cur:Array Value}{cap n:Nat}{xs:List Value}(h:Rw K cur cap n xs)(off:Nat)(v:Value)(hle:off+v.cells.size≤n*K):
 off+v.cells.size≤cur.size∧Rw K (putA cur off v) cap n (xs.take off++v.cells.toList++xs.drop (off+v.cells.size)):=by
 have hcap:n*K≤cap*K:=Nat.mul_le_mul_right _ h.le;have hsz:=h.sz;have hA:cur.toList.length=cap*K:=by rw [Array.length_toList,hsz]
 have hx:xs=cur.toList.take (n*K):=h.take.symm;have hv:v.cells.toList.length=v.cells.size:=Array.length_toList;have e1:(cur.toList.take off).length=off:=by rw [List.length_take];omega
 refine ⟨by omega,?_,h.le,h.max,?_,?_⟩
 ·rw [List.length_append,List.length_append,List.length_take,List.length_drop,h.len,hv];omega
 ·unfold Go.Proofs.YtbbdbdndedeokaaGreatDoor.putA;rw [List.toList_toArray,List.take_append,List.length_append,e1,hv,List.take_of_length_le (l:=cur.toList.take off++v.cells.toList) (by rw [List.length_append,e1,hv];exact hle),hx,List.take_take,Nat.min_eq_left (by omega),List.drop_take]
 ·unfold Go.Proofs.YtbbdbdndedeokaaGreatDoor.putA;rw [List.size_toArray,List.length_append,List.length_append,e1,List.length_drop,hv,hA];omega
theorem zbv {X Z V:List Value}{off:Nat}(hX:X.length=off)(hZ:Z.length=V.length):(X++Z).take off++V++(X++Z).drop (off+V.length)=X++V:=by
 rw [List.take_append,hX,Nat.sub_self,List.take_zero,List.append_nil,List.take_of_length_le (by omega),List.drop_append,hX,List.drop_of_length_le (by omega),List.nil_append,List.drop_of_length_le (by omega),List.append_nil]
def sS:Fl ByteArray where
 K:=1
 cs x:=[.string x]
 pos:=by decide
 len _:=rfl
 one _:=fun u hu=>by obtain rfl:=List.mem_singleton.1 hu;rfl
theorem yV {P:Program}{ρ:Env}{t e:TypeId}{K bytes:Nat}(ht:ye P t=some (e,K,bytes)){x y:Operand}{o:Oper}{kd:IntKind}{p:Option Addr}(b q n c k:Nat)(hp:p=some ⟨b,q,none⟩)(ho:o.op=.indexAddr t x y)(hx:ev ρ x=.slice p n c)(hy:ev ρ y=.int kd (k:Int))(hk:k<n):
 ∀w,(execOp (ev ρ) o).run P w=.ok (.value (.pointer (some ⟨b,q+k*K,none⟩))) w:=by
 subst hp;exact jL ht b q n c k ho hx hy hk
section
variable {α:Type}{S:Fl α}
def AtF (S:Fl α)(w:World)(p:Option Addr)(n:Nat)(L:List α):Prop:=n=L.length∧(L=[]∨∃b off C T fz,p=some ⟨b,off,none⟩∧w.heap[b]? =some (.cells C T fz)∧yq S C off L)
theorem AtF.call {w w':World}{p:Option Addr}{n:Nat}{L:List α}(h:AtF S w p n L)(hb:Below w.heap.size w w'):AtF S w' p n L:=by
 obtain ⟨h1,h2⟩:=h;refine ⟨h1,h2.imp id ?_⟩;rintro ⟨b,off,C,T,fz,e,hh,hr⟩;exact ⟨b,off,C,T,fz,e,by rw [hb.block b (zC hh)];exact hh,hr⟩
theorem AtF.take {w:World}{p:Option Addr}{n:Nat}{L:List α}(h:AtF S w p n L)(k:Nat)(hk:k≤n):AtF S w p k (L.take k):=by
 obtain ⟨h1,h2⟩:=h;refine ⟨by rw [List.length_take];omega,?_⟩;rcases h2 with rfl|⟨b,off,C,T,fz,e,hh,hr⟩
 ·exact .inl (by simp)
 ·exact .inr ⟨b,off,C,T,fz,e,hh,hr.take k⟩
theorem zR.atF {ty:TypeId}{p:Option Addr}{n c:Nat}{row:List (Nat×Obj)}{L:List α}(h:zR S ty p n c row L){B:Nat}{w0 w:World}{l:List (Nat×Obj)}(hS:St B w0 w l)(hl: ∀e∈row,e∈l):AtF S w p n L:=by
 rcases h with ⟨rfl,rfl,rfl,rfl,rfl⟩|⟨b,cur,rfl,rfl,hr⟩
 ·exact ⟨rfl,.inl rfl⟩
 ·exact ⟨hr.lenF.symm,.inr ⟨b,0,cur,ty,(0,0),rfl,(hS.own _ (hl _ (List.mem_singleton.2 rfl))).2,hr.rowAt⟩⟩
def jW (p:Option Addr)(n c:Nat):Prop:=(p=none∧n=0∧c=0)∨((∃a,p=some a)∧n≤c)
theorem jW.cut {p:Option Addr}{n c k:Nat}(h:jW p n c)(hk:k≤n):jW p k c:=by
 rcases h with ⟨rfl,rfl,rfl⟩|⟨h1,h2⟩
 ·exact .inl ⟨rfl,by omega,rfl⟩
 ·exact .inr ⟨h1,by omega⟩
theorem ziQ {P:Program}{ρ:Env}{t e:TypeId}{size bytes:Nat}(ht:ye P t=some (e,size,bytes)){x y:Operand}{o:Oper}{kd:IntKind}{p:Option Addr}{n c k:Nat}(h:jW p n c)(hk:k≤n)(ho:o.op=.slice t x none (some y) none)(hx:ev ρ x=.slice p n c)(hy:ev ρ y=.int kd (k:Int)):
 ∀w,(execOp (ev ρ) o).run P w=.ok (.value (.slice p k c)) w:=fun w=>by
 rcases h with ⟨rfl,rfl,rfl⟩|⟨⟨a,rfl⟩,h2⟩
 ·obtain rfl:k=0:=by omega
  obtain ⟨it,z,hu,hi,hz,hsz,hby,hzs,h0⟩:=yY ht;have hS:(sizeOf e).run P w=.ok size w:=by simp [sizeOf,typeInfo,hi,hsz]
  unfold execOp;simp [ho,hx,hy,Instr.sliceAt,Instr.slice,Instr.sliceBounds,Instr.sliceBound,asIntOf,run_underlying hu,hS]
 ·exact zdX ht a n c k ho hx hy (by omega) w
theorem ziR {P:Program}{ρ:Env}{w w0:World}{B:Nat}{bx n c mc e:Nat}{p:Option Addr}{row Z:List (Nat×Obj)}{M0:List α}{y:α}(HS:St B w0 w ((bx,.cells (S.cs y).toArray e (0,0))::(row++Z)))(hrow:zR S e p n c row M0)
 {t bytes:Nat} {s x:Operand} {o:Oper} (ht:ye P t=some (e,S.K,bytes)) (ho:o.op=yn t s x) (hs:ev ρ s=.slice p n c) (hx:ev ρ x=.slice (some ⟨bx,0,none⟩) 1 mc) (hb:(n+1)*bytes≤0x800000000000) (hm:n+1≤maxLen):
 ∃b' cap' cur' w',(execOp (ev ρ) o).run P w=.ok (.value (.slice (some ⟨b',0,none⟩) (n+1) cap')) w'∧St B w0 w' ((b',.cells cur' e (0,0))::Z)∧Rw S.K cur' cap' (n+1) (cellsF S (M0++ [y])):=by
 have hY:(S.cs y).toArray.size=S.K:=by rw [List.size_toArray,S.len]
 have hone: ∀u∈(S.cs y).toArray.toList,u.oneCell'=true:=fun u hu=>S.one y u (by simpa using hu);rcases hrow with ⟨rfl,rfl,rfl,rfl,rfl⟩ | ⟨b,cur,rfl,rfl,hrw⟩
 ·obtain ⟨b',cap',cur',w',hrun,HS',hr'⟩:=vj (k:=0) HS ht ho hs hx rfl hY hone hb;refine ⟨b',cap',cur',w',hrun,HS'.sub (List.Sublist.cons_cons _ (List.sublist_cons_self ..)),?_⟩;rw [qF];exact hr'
 ·obtain ⟨b',cap',cur',w',hrun,HS',hr'⟩:=vi (j:=1) (k:=0) HS ht ho hs rfl hrw hx rfl hY hone hb hm;refine ⟨b',cap',cur',w',hrun,HS'.sub (List.sublist_cons_self ..),?_⟩;rw [qF];exact hr'
end
section
variable {P:Program}{N:Nat}{ops:Array Oper}{K:Env→World→Prop}{ρ:Env}{w w0:World}{i B:Nat}{r:List Nat}{l:List (Nat×Obj)}
theorem zbw (HS:St B w0 w l)(d:Option Nat)(V:Nat→Value)(C:Array Value)(T:TypeId)(h:opv P ops i ρ w=some (d,true,.ok (.value (V w.heap.size)) (w.alloc (.cells C T (0,0)))))(hd:dOK d N=true)
 (kk: ∀b w',St B w0 w' ((b,.cells C T (0,0))::l)→WPs P N ops K r (zt ρ d (V b)) w'):WPs P N ops K (i::r) ρ w:=by
 obtain ⟨o,ho,rfl,hw,hr⟩:=yg h;refine WPo.run ho hw fun a ha=>?_;rw [hr,Oper.upon_value];exact ⟨_,ha.put _ (zX hd) _,kk w.heap.size _ (HS.alloc _)⟩
theorem ziS {α:Type}{S:Fl α}{nb n c:Nat}{p:Option Addr}{row Z:List (Nat×Obj)}{M:List α}{y:α}(d:Option Nat)(t e bytes:Nat)(s x:Operand)(HS:St B w0 w ((nb,.cells (S.cs y).toArray e (0,0))::(row++Z)))(hrow:zR S e p n c row M)
 (h:opk ops i ρ=some (d,true,yn t s x)) (hd:dOK d N=true) (ht:ye P t=some (e,S.K,bytes)) (hs:ev ρ s=.slice p n c) (hx:ev ρ x=.slice (some ⟨nb,0,none⟩) 1 1) (hb:(n+1)*bytes≤0x800000000000) (hm:n+1≤maxLen)
 (kk: ∀b' cap' cur' w',St B w0 w' ((b',.cells cur' e (0,0))::Z)→Rw S.K cur' cap' (n+1) (cellsF S (M++ [y]))→WPs P N ops K r (zt ρ d (.slice (some ⟨b',0,none⟩) (n+1) cap')) w'):WPs P N ops K (i::r) ρ w:=by
 obtain ⟨o,ho,rfl,hw,hop⟩:=zI h;obtain ⟨b',cap',cur',w',hrun,HS',hr'⟩:=ziR HS hrow ht hop hs hx hb hm;refine WPo.run ho hw fun a ha=>?_;rw [hrun,Oper.upon_value];exact ⟨_,ha.put _ (zX hd) _,kk b' cap' cur' w' HS' hr'⟩
end
theorem D2.run_val {P:Program}{ops:Array Oper}{d:Option Nat}{ρ:Env}{k:Nat}{w:World}{S:Value→World→Prop}{v:Value}(h:opv P ops k ρ w=some (d,true,.ok (.value v) w))(hS:S v w):
 ∃o,ops[k]? =some o∧o.dst=d∧Region.wanted o (zU ops ρ)=true∧D2.Runs P S ((execOp (ev ρ) o).run P w):=by
 obtain ⟨o,ho,hd,hw,hr⟩:=yg h;exact ⟨o,ho,hd,hw,by rw [hr];exact hS⟩
end Go.Proofs.YtbbdbdndedeokaaGreatDoor
namespace Go.Proofs.YtbbdbdndedeokaaGreatDoor
open Go Go.ChangeShapes Go.WideShapes Go.ChangeAt Go.RowKit
set_option linter.unusedVariables false
set_option maxRecDepth 100000
theorem ziT {C:Array Value}{o m:Nat}{l:List Value}(hl:l.length=m)(hm:0<m)(h: ∀j,j<m→C[o+j]? =l[j]?):o+m≤C.size∧C.extract o (o+m)=l.toArray:=by
 have hs:o+m≤C.size:=by
  have h1:=h (m-1) (by omega);rw [List.getElem?_eq_getElem (by omega)] at h1;have:=(Array.getElem?_eq_some_iff.1 h1).1;omega
 refine ⟨hs,?_⟩;apply Array.toList_inj.1;apply List.ext_getElem?;intro i;rw [Array.getElem?_toList,Array.getElem?_extract,List.toList_toArray];by_cases hi:i<m
 ·rw [if_pos (by omega),h i hi]
 ·rw [if_neg (by omega),List.getElem?_eq_none (by omega)]
section
variable {H:Type}{enc:TypeId×Value→H}{W:World}{sp:Nat→Bool}{held:Bool}
theorem ziU {a:Addr}{v:Value}(h:W.cell? a=some v):a=⟨a.block,a.off,none⟩∧∃C T fz,W.heap[a.block]? =some (.cells C T fz)∧C[a.off]? =some v:=by
 obtain ⟨b,o,sp⟩:=a;unfold World.cell? at h;split at h
 ·rename_i C T fz hh
  cases sp with
  | none=>simp at h;exact ⟨rfl,C,T,fz,hh,h⟩
  | some x=>simp at h
 ·cases h
theorem ziV {b o:Nat}{C:Array Value}{T:TypeId}{fz:Nat×Nat}{v:Option Value}(hh:W.heap[b]? =some (.cells C T fz))(h:W.cell? ⟨b,o,none⟩=v):C[o]? =v:=by
 unfold World.cell? at h;simp only [hh] at h;simpa using h
theorem zd6 {a:Int}(h:(Lit.int .u64 a).wf=true):∃n:Nat,n<0x10000000000000000∧a=((n:Nat):Int):=by
 have h2:0≤a∧a<0x10000000000000000:=by
  simp [Lit.wf,IntKind.min,IntKind.max,IntKind.signed,IntKind.bits] at h;omega
 exact ⟨a.toNat,by omega,by omega⟩
theorem ziW {α:Type}{S:Fl α}{ok:α→Prop}{st et:TypeId}(hst:Tryz.prog.underlying st=some (.slice et))(hc:Tryz.prog.cellsOf et=S.K)(hone: ∀(fuel:Nat) (cs:List Value) (x:DataW H×List MemPlace),DataW.trod enc Tryz.prog W 0 sp held fuel et cs=some x→∃a:α,cs=S.cs a∧ok a)
 {v:Value} {d:DataW H} {p:List MemPlace} {base:Nat} (hv:Value.okWide Tryz.prog W .any base st v) (h:DataW.Trod enc Tryz.prog W 0 sp held st v d p):
 ∃(q:Option Addr) (n c:Nat) (L:List α),v=.slice q n c∧jW q n c∧(∀x∈L,ok x)∧AtF S W q n L:=by
 obtain ⟨ao,len0,cap0,rfl⟩:=okWide_slice hst hv;obtain ⟨fuel,hf⟩:=h;rcases DataW.trod_slice hst hf with ⟨hc,hx⟩|⟨a,len,cap,elems,rest,n',rfl,hc',hx,_,hlc,hcm,hel,hels,_,_⟩
 ·obtain ⟨rfl,rfl,rfl⟩:ao=none∧len0=0∧cap0=0:=by simpa [Value.cells] using hc
  exact ⟨none,0,0,[],rfl,.inl ⟨rfl,rfl,rfl⟩,(fun _ h=>nomatch h),rfl,.inl rfl⟩
 ·obtain ⟨rfl,rfl,rfl⟩:ao=some a∧len0=len∧cap0=cap:=by simpa [Value.cells] using hc'
  have rows: ∀q,q≤len0→∃L:List α,L.length=q∧(∀x∈L,ok x)∧ ∀(i:Nat) (z:α),L[i]? =some z→W.cells? 0 (a.add (i*S.K)) S.K=some (S.cs z):=by
   intro q
   induction q with
   | zero=>exact fun _=>⟨[],rfl,(fun _ h=>nomatch h),fun i z h=>by simp at h⟩
   | succ q ihq=>
    intro hq;obtain ⟨L,hL,hk,hcc⟩:=ihq (by omega);have hi:=hels q (by omega);rw [hc] at hi;have hlt:q<elems.length:=by omega
    rw [List.getElem?_eq_getElem hlt] at hi;obtain ⟨cs',hcs,ht⟩:=Option.bind_eq_some_iff.1 hi;obtain ⟨nd,rfl,hnd⟩:=hone n' cs' _ ht;refine ⟨L++ [nd],by simp [hL],fun x hx=>?_,fun i z hz=>?_⟩
    ·rcases List.mem_append.1 hx with hx|hx
     ·exact hk x hx
     ·rw [List.mem_singleton.1 hx];exact hnd
    by_cases hiq:i<L.length
    ·rw [List.getElem?_append_left hiq] at hz;exact hcc i z hz
    ·rw [List.getElem?_append_right (by omega)] at hz;have:i-L.length=0:=by
      have:=(List.getElem?_eq_some_iff.1 hz).1;simp at this;omega
     rw [this] at hz;simp at hz;subst hz;obtain rfl:i=q:=by omega
     exact hcs
  obtain ⟨L,hL,hk,hcl⟩:=rows len0 (Nat.le_refl _);refine ⟨some a,len0,cap0,L,rfl,.inr ⟨⟨a,rfl⟩,hlc⟩,hk,hL.symm,?_⟩;cases L with
  | nil=>exact .inl rfl
  | cons z0 L0=>
   have f0:=(World.cells?_some (hcl 0 z0 rfl)).2.2 0 S.pos;rw [Nat.zero_mul] at f0;have e0:(a.add 0).add 0=a:=rfl;rw [e0,List.getElem?_eq_getElem (by rw [S.len];exact S.pos)] at f0;obtain ⟨ea,C,T,fz,hh,hC0⟩:=ziU f0;refine .inr ⟨a.block,a.off,C,T,fz,congrArg some ea,hh,fun i z hz=>?_⟩;refine ziT (S.len z) S.pos fun j hj=>?_;have h9:=(World.cells?_some (hcl i z hz)).2.2 j hj;rw [ea,yX,yX] at h9;exact ziV hh h9
end
end Go.Proofs.YtbbdbdndedeokaaGreatDoor
namespace Go.Proofs.YtbbdbdndedeokaaGreatDoor
open Go Go.RowKit
set_option linter.unusedVariables false
inductive Fo
 | nil
 | cons (l:Bool) (s:ByteArray) (k r:Fo)
def Fo.len:Fo→Nat
 | .nil=>0
 | .cons _ _ _ r=>r.len+1
def Fo.cnt:Fo→Nat
 | .nil=>0
 | .cons _ _ k r=>1+k.cnt+r.cnt
def qW (B:Nat)(w:World):Fo→Nat→Nat→Prop
 | .nil,_,_=>True
 | .cons l s k r,b,off=>(∃(C:Array Value) (T:TypeId) (fz:Nat×Nat) (p:Option Addr) (n c:Nat),b<B∧w.heap[b]? =some (.cells C T fz)∧off+3≤C.size∧
  C.extract off (off+3)=#[.bool l,.string s,.slice p n c]∧s.size≤0x800000000000∧n=k.len∧n≤0x800000000000∧(k=.nil∨∃b' off',p=some ⟨b',off',none⟩∧qW B w k b' off'))∧qW B w r b (off+3)
def zq (B:Nat)(w:World)(p:Option Addr)(n:Nat)(k:Fo):Prop:=n=k.len∧n≤0x800000000000∧(k=.nil∨∃b off,p=some ⟨b,off,none⟩∧qW B w k b off)
def FoR (B:Nat)(w:World)(p:Option Addr)(i:Nat)(r:Fo):Prop:=r=.nil∨∃b off,p=some ⟨b,off,none⟩∧qW B w r b (off+i*3)
theorem qW.up {B B':Nat}{w w':World}(hb:Below B w w')(hB:B≤B'): ∀ {k:Fo} {b off:Nat},qW B w k b off→qW B' w' k b off
 | .nil,_,_,_=>trivial
 | .cons l s k r,b,off,⟨⟨C,T,fz,p,n,c,h1,h2,h3,h4,h5,h6,h7,h8⟩,h9⟩=>
  ⟨⟨C,T,fz,p,n,c,Nat.lt_of_lt_of_le h1 hB,by rw [hb.block b h1];exact h2,h3,h4,h5,h6,h7,h8.imp id fun ⟨b',o',e,h⟩=>⟨b',o',e,qW.up hb hB h⟩⟩,qW.up hb hB h9⟩
theorem zq.up {B B':Nat}{w w':World}{p:Option Addr}{n:Nat}{k:Fo}(h:zq B w p n k)(hb:Below B w w')(hB:B≤B'):zq B' w' p n k:=
 ⟨h.1,h.2.1,h.2.2.imp id fun ⟨b,o,e,h⟩=>⟨b,o,e,h.up hb hB⟩⟩
theorem zq.call {w0 w:World}{p:Option Addr}{n:Nat}{k:Fo}(h:zq w0.heap.size w0 p n k)(hb:Below w0.heap.size w0 w):zq w.heap.size w p n k:=h.up hb hb.size
theorem zq.nil (B:Nat)(w:World)(p:Option Addr):zq B w p 0 .nil:=⟨rfl,by omega,.inl rfl⟩
theorem zq.start {B:Nat}{w:World}{p:Option Addr}{n:Nat}{k:Fo}(h:zq B w p n k):FoR B w p 0 k:=
 h.2.2.imp id fun ⟨b,o,e,h⟩=>⟨b,o,e,by rw [Nat.zero_mul,Nat.add_zero];exact h⟩
theorem FoR.open {B:Nat}{w:World}{p:Option Addr}{i n:Nat}{r:Fo}(h:FoR B w p i r)(hn:i+r.len=n)(hi:i<n):
 ∃l s k r' b off C T fz p' n' c',r=.cons l s k r'∧p=some ⟨b,off,none⟩∧b<B∧w.heap[b]? =some (.cells C T fz)∧off+i*3+3≤C.size∧
  C.extract (off+i*3) (off+i*3+3)=#[.bool l,.string s,.slice p' n' c']∧s.size≤0x800000000000∧zq B w p' n' k∧FoR B w p (i+1) r'∧i+1+r'.len=n:=by
 cases r with
 | nil=>simp only [Fo.len] at hn;omega
 | cons l s k r'=>
  rcases h with h|⟨b,off,e,⟨C,T,fz,p',n',c',h1,h2,h3,h4,h5,h6,h7,h8⟩,h9⟩
  ·cases h
  ·refine ⟨l,s,k,r',b,off,C,T,fz,p',n',c',rfl,e,h1,h2,h3,h4,h5,⟨h6,h7,h8⟩,.inr ⟨b,off,e,?_⟩,?_⟩
   ·rw [show off+(i+1)*3=off+i*3+3 by omega];exact h9
   ·simp only [Fo.len] at hn;omega
theorem FoR.done {i n:Nat}{r:Fo}(hn:i+r.len=n)(hi: ¬i<n):r=.nil:=by
 cases r with
 | nil=>rfl
 | cons l s k r'=>simp only [Fo.len] at hn;omega
theorem jX {P:Program}{ρ:Env}{t e:TypeId}{bytes:Nat}(ht:ye P t=some (e,3,bytes)){x y:Operand}{o:Oper}{kd:IntKind}{p:Option Addr}(b q n c k:Nat)(hp:p=some ⟨b,q,none⟩)(ho:o.op=.indexAddr t x y)(hx:ev ρ x=.slice p n c)(hy:ev ρ y=.int kd (k:Int))(hk:k<n):
 ∀w,(execOp (ev ρ) o).run P w=.ok (.value (.pointer (some ⟨b,q+k*3,none⟩))) w:=by
 subst hp;exact jL ht b q n c k ho hx hy hk
def dgI:Nat→Nat→List UInt8
 | 0,_=>[]
 | m+1,n=>if n=0 then [] else dgI m (n / 256)++ [UInt8.ofNat n]
def dg (n:Nat):List UInt8:=dgI 8 n
def hd (f n:Nat):List UInt8:=if n≤55 then [UInt8.ofNat (f+n)] else UInt8.ofNat (f+55+(dg n).length)::dg n
def frm (l:Bool):Nat:=if l then 192 else 128
def qp (s:ByteArray):Bool:=decide (s.size=1)&&decide (by_ s 0<128)
def zS (l:Bool)(s:ByteArray)(n:Nat):Bool:=if l then decide (s.size≠0) else decide (n≠0)
def wr1 (l:Bool)(s:ByteArray)(m:Nat)(ks:List UInt8):List UInt8:=(if qp s then [] else hd (frm l) (s.size+m))++(tl s++ks)
def sz1 (l:Bool)(s:ByteArray)(m:Nat):Nat:=if qp s then 1 else (hd (frm l) (s.size+m)).length+(s.size+m)
def szF:Fo→Nat
 | .nil=>0
 | .cons l s k r=>sz1 l s (szF k)+szF r
def wrF:Fo→List UInt8
 | .nil=>[]
 | .cons l s k r=>wr1 l s (szF k) (wrF k)++wrF r
def dp1 (l:Bool)(d:Nat):Nat:=if l then 1+d else 0
def dpF:Fo→Nat
 | .nil=>0
 | .cons l s k r=>max (dp1 l (dpF k)) (dpF r)
def pureF:Fo→Bool
 | .nil=>true
 | .cons l s k r=>(!zS l s k.len&&pureF k)&&pureF r
def lf1 (l:Bool)(s:ByteArray)(k:Nat)(f:Nat→Option Nat)(room:Nat):Option Nat:=if room=0∨zS l s k=true then none else f (room-1)
def lfF:Fo→Nat→Option Nat
 | .nil,room=>some room
 | .cons l s k r,room=>(lf1 l s k.len (lfF k) room).bind (lfF r)
def lfV:Option Nat→Int
 | none=> -1
 | some q=>(q:Int)
theorem xS: ∀(k:Fo) (room:Nat),lfF k room=if pureF k=true∧k.cnt≤room then some (room-k.cnt) else none
 | .nil,room=>by simp [lfF,pureF,Fo.cnt]
 | .cons l s k r,room=>by
  have h1:=xS k (room-1);have e1:pureF (.cons l s k r)=((!zS l s k.len&&pureF k)&&pureF r):=rfl;have e2:(Fo.cons l s k r).cnt=1+k.cnt+r.cnt:=rfl;rw [show lfF (.cons l s k r) room=(lf1 l s k.len (lfF k) room).bind (lfF r) from rfl];unfold lf1;by_cases hr:room=0
  ·subst hr;rw [if_pos (Or.inl rfl),if_neg (by rw [e2];omega)];rfl
  ·cases hm:zS l s k.len with
   | true=>rw [if_pos (Or.inr rfl),if_neg (by rw [e1,hm];simp)];rfl
   | false=>
    rw [if_neg (by simp [hr]),h1];cases hp:pureF k with
    | false=>rw [if_neg (by simp),if_neg (by rw [e1,hp];simp)];rfl
    | true=>
     by_cases hc:k.cnt≤room-1
     ·rw [if_pos ⟨rfl,hc⟩,Option.bind_some,xS r];cases hq:pureF r with
      | false=>rw [if_neg (by simp),if_neg (by rw [e1,hq];simp)]
      | true=>
       by_cases hd:r.cnt≤room-1-k.cnt
       ·rw [if_pos ⟨rfl,hd⟩,if_pos ⟨by rw [e1,hm,hp,hq];rfl,by rw [e2];omega⟩,e2];congr 1;omega
       ·rw [if_neg (by simp [hd]),if_neg (by rw [e2];rintro ⟨_,h⟩;omega)]
     ·rw [if_neg (by simp [hc]),if_neg (by rw [e2];rintro ⟨_,h⟩;omega)];rfl
theorem ziX {k:Fo}{room q:Nat}(h:lfF k room=some q):q≤room:=by
 rw [xS] at h;split at h
 ·injection h with h;omega
 ·cases h
theorem zd7: ∀m n,(dgI m n).length≤m
 | 0,_=>Nat.le_refl _
 | m+1,n=>by unfold dgI;split;·simp
             ·simp;exact zd7 m _
theorem jx (n:Nat):(dg n).length≤8:=zd7 8 n
theorem xx (f n:Nat):1≤(hd f n).length∧(hd f n).length≤9:=by
 unfold hd;have:=jx n;split<;>simp<;>omega
theorem zbx (l:Bool)(s:ByteArray)(m:Nat):sz1 l s m≤9+(s.size+m):=by
 unfold sz1;have:=xx (frm l) (s.size+m);split<;>omega
theorem ud {s:ByteArray}(h:qp s=true):s.size=1:=by
 unfold qp at h;simp only [Bool.and_eq_true,decide_eq_true_eq] at h;exact h.1
theorem ziY (l:Bool)(s:ByteArray)(m:Nat):1≤sz1 l s m:=by
 unfold sz1;have:=xx (frm l) (s.size+m);split<;>omega
theorem zaf {s:ByteArray}(h: ¬s=⟨#[]⟩):s.size≠0:=fun e=>h (by
 obtain ⟨d⟩:=s;have:d.size=0:=e
 rw [Array.eq_empty_of_size_eq_zero this])
theorem ziZ {l:Bool}{s:ByteArray}{n:Nat}{k:Fo}{room q:Nat}(h:lf1 l s n (lfF k) room=some q):q≤room:=by
 unfold lf1 at h;split at h
 ·cases h
 ·have:=ziX h;omega
theorem zi0 {l:Bool}{s:ByteArray}{n:Nat}{f:Nat→Option Nat}{room:Nat}(h:room=0):lfV (lf1 l s n f room)= -1:=by unfold lf1;rw [if_pos (Or.inl h)];rfl
theorem zi1 {l:Bool}{s:ByteArray}{n:Nat}{f:Nat→Option Nat}{room:Nat}(h:zS l s n=true):lfV (lf1 l s n f room)= -1:=by unfold lf1;rw [if_pos (Or.inr h)];rfl
theorem zd8 {l:Bool}{s:ByteArray}{n:Nat}{f:Nat→Option Nat}{room:Nat}(h0:room≠0)(h:zS l s n=false):lf1 l s n f room=f (room-1):=by unfold lf1;rw [if_neg (by simp [h0,h])]
theorem zi2 {l:Bool}{s:ByteArray}{n:Nat}{k r:Fo}{q y:Nat}(hn:n=k.len)(h:lf1 l s n (lfF k) q=some y):lfF (.cons l s k r) q=lfF r y:=by
 subst hn;show (lf1 l s k.len (lfF k) q).bind (lfF r)=_;rw [h];rfl
theorem zi3 {l:Bool}{s:ByteArray}{n:Nat}{k r:Fo}{q:Nat}(hn:n=k.len)(h:lf1 l s n (lfF k) q=none):lfV (lfF (.cons l s k r) q)= -1:=by
 subst hn;show lfV ((lf1 l s k.len (lfF k) q).bind (lfF r))=_;rw [h];rfl
theorem zi4 {a:Nat}(h:a<0x10000000000000000):Int.fdiv (a:Int) (2^0)=(a:Int):=by rw [Int.pow_zero,Int.fdiv_one]
def wtF:Fo→Nat
 | .nil=>0
 | .cons l s k r=>9+s.size+wtF k+wtF r
theorem vm: ∀k:Fo,szF k≤wtF k
 | .nil=>Nat.le_refl _
 | .cons l s k r=>by
  have h1:=vm k;have h2:=vm r;have h3:=zbx l s (szF k);simp only [szF,wtF];omega
theorem qW.wt {B:Nat}{w:World} : ∀ {k:Fo} {b off:Nat},qW B w k b off→wtF k≤k.cnt*0x800000000009
 | .nil,_,_,_=>Nat.zero_le _
 | .cons l s k r,b,off,⟨⟨C,T,fz,p,n,c,h1,h2,h3,h4,h5,h6,h7,h8⟩,h9⟩=>by
  have hr:=qW.wt h9;have hk:wtF k≤k.cnt*0x800000000009:=by
   rcases h8 with rfl|⟨b',o',e,h⟩
   ·exact Nat.zero_le _
   ·exact qW.wt h
  simp only [wtF,Fo.cnt];omega
theorem zq.wt {B:Nat}{w:World}{p:Option Addr}{n:Nat}{k:Fo}(h:zq B w p n k):wtF k≤k.cnt*0x800000000009:=by
 rcases h.2.2 with rfl|⟨b,o,e,h⟩
 ·exact Nat.zero_le _
 ·exact h.wt
theorem zd9 {f:Nat}(b:BitVec 8)(hb:b.toNat=f)(n:Nat)(h:n≤55)(hf:f≤192):strOfNums [(BitVec.toNat (b+BitVec.ofNat 8 n):Int)]=zb (hd f n):=by
 unfold hd;rw [if_pos h];show (⟨#[UInt8.ofNat (Int.toNat _)]⟩:ByteArray)=⟨#[UInt8.ofNat (f+n)]⟩
 rw [Int.toNat_natCast,BitVec.toNat_add,BitVec.toNat_ofNat,hb];rw [show (f+n%2^8)%2^8=f+n by omega]
theorem zea {f:Nat}(b:BitVec 8)(hb:b.toNat=f+55)(n:Nat)(h: ¬n≤55)(hf:f≤192):strOfNums [(BitVec.toNat (b+BitVec.ofNat 8 (ByteArray.size (zb (dg n)))):Int)]++zb (dg n)=zb (hd f n):=by
 have hl:=jx n;have e:UInt8.ofNat (Int.toNat (BitVec.toNat (b+BitVec.ofNat 8 (ByteArray.size (zb (dg n)))):Int))=UInt8.ofNat (f+55+(dg n).length):=by
  rw [Int.toNat_natCast,BitVec.toNat_add,BitVec.toNat_ofNat,hb,zO];rw [show (f+55+(dg n).length%2^8)%2^8=f+55+(dg n).length by omega]
 apply jv;rw [qg];show [UInt8.ofNat _]++dg n=hd f n;unfold hd;rw [if_neg h,e];rfl
theorem ue: ∀k:Fo,(wrF k).length≤wtF k
 | .nil=>Nat.le_refl _
 | .cons l s k r=>by
  have h1:=ue k;have h2:=ue r;simp only [wrF,wtF,wr1,List.length_append,zy];split
  ·simp only [List.length_nil];omega
  ·have:=xx (frm l) (s.size+szF k);omega
theorem zag: ∀ {k:Fo},pureF k=true→wtF k≤szF k+9*k.cnt
 | .nil,_=>Nat.zero_le _
 | .cons l s k r,h=>by
  simp only [pureF,Bool.and_eq_true,Bool.not_eq_true'] at h;have h1:=zag h.1.2;have h2:=zag h.2;simp only [wtF,szF,Fo.cnt,sz1];split
  ·rename_i hs
   have hz:=ud hs;have hk:k=.nil:=by
    have hm:=h.1.1;unfold zS at hm;cases l with
    | true=>simp [hz] at hm
    | false=>
     cases k with
     | nil=>rfl
     | cons=>simp [Fo.len] at hm
   subst hk;simp only [wtF,Fo.cnt];omega
  ·have:=xx (frm l) (s.size+szF k);omega
theorem zeb {α:Type}(x:Option α):x=none∨∃y,x=some y:=by cases x with
 | none=>exact .inl rfl
 | some y=>exact .inr ⟨y,rfl⟩
theorem zah: ∀k:Fo,dpF k≤k.cnt
 | .nil=>Nat.le_refl _
 | .cons l s k r=>by
  have h1:=zah k;have h2:=zah r;simp only [dpF,Fo.cnt,dp1];split<;>omega
theorem zec (t:ByteArray)(h:t.size≠0):(t.extract 1 t.size).size=t.size-1:=by simp
theorem zi5 (t:ByteArray):tl (t.extract 1 t.size)=(tl t).drop 1:=by
 rw [zbm,List.take_of_length_le (by rw [zy];exact Nat.le_refl _)]
theorem zed {t:ByteArray}(h:t.size≠0):∃l,tl t=UInt8.ofNat (by_ t 0)::l:=by
 have hl:(tl t).length≠0:=by rw [zy];exact h
 unfold by_;cases e:tl t with
 | nil=>rw [e] at hl;simp at hl
 | cons x l=>exact ⟨l,by simp⟩
theorem zi6 (t:ByteArray)(h:t.size≠0)(h0:by_ t 0=0):(tl (t.extract 1 t.size)).dropWhile (·==0)=(tl t).dropWhile (·==0):=by
 obtain ⟨l,e⟩:=zed h;rw [zi5,e,h0];rfl
theorem zby {t:ByteArray}(h:t=⟨#[]⟩):zb ((tl t).dropWhile (·==0))=t:=by subst h;rfl
theorem zee (t:ByteArray)(h:t.size=0∨by_ t 0≠0):zb ((tl t).dropWhile (·==0))=t:=by
 rcases h with h|h
 ·exact zby (Decidable.not_not.1 fun q=>zaf q h)
 ·by_cases h2:t.size=0
  ·exact zby (Decidable.not_not.1 fun q=>zaf q h2)
  ·obtain ⟨l,e⟩:=zed h2;have hb:=zbn t 0;have hne:(UInt8.ofNat (by_ t 0)==0)=false:=by
    rw [beq_eq_false_iff_ne];intro q;have:=congrArg UInt8.toNat q;rw [UInt8.toNat_ofNat_of_lt' (by simpa using hb)] at this;exact h this
   rw [e,List.dropWhile_cons,hne];show zb (UInt8.ofNat (by_ t 0)::l)=t;rw [←e];exact ku t
theorem zef: ∀ {l:List UInt8},(∀x∈l,(x==0)=true)→l.dropWhile (·==0)=[]
 | [],_=>rfl
 | x::l,h=>by rw [List.dropWhile_cons,if_pos (h x (List.mem_cons_self ..))];exact zef fun y hy=>h y (List.mem_cons_of_mem _ hy)
def beI:Nat→Nat→List UInt8
 | 0,_=>[]
 | m+1,n=>beI m (n / 256)++ [UInt8.ofNat n]
theorem zbz: ∀m,(beI m 0).dropWhile (·==0)=[]∧ ∀x∈beI m 0,(x==0)=true
 | 0=>⟨rfl,fun _ h=>nomatch h⟩
 | m+1=>by
  have h:=(zbz m).2;have h2: ∀x∈beI (m+1) 0,(x==0)=true:=by
   intro x hx;simp only [beI,Nat.zero_div,List.mem_append,List.mem_singleton] at hx;rcases hx with hx | rfl
   ·exact h x hx
   ·rfl
  exact ⟨zef h2,h2⟩
theorem zi7 (m:Nat):dgI m 0=[]:=by cases m<;>rfl
theorem drop_append {l r:List UInt8}(h:l.dropWhile (·==0)≠[]):(l++r).dropWhile (·==0)=l.dropWhile (·==0)++r:=by
 induction l with
 | nil=>exact absurd rfl h
 | cons x l ih=>
  rw [List.cons_append,List.dropWhile_cons,List.dropWhile_cons];split
  ·rename_i hx;rw [List.dropWhile_cons,if_pos hx] at h;exact ih h
  ·rfl
theorem zeg: ∀m n,n<256^m→(beI m n).dropWhile (·==0)=dgI m n
 | 0,n,h=>rfl
 | m+1,n,h=>by
  have hlt:n / 256<256^m:=by rw [Nat.pow_succ] at h;omega
  have ih:=zeg m (n / 256) hlt;unfold dgI;split
  ·rename_i h0;subst h0;exact (zbz (m+1)).1
  ·rename_i h0
   show (beI m (n / 256)++ [UInt8.ofNat n]).dropWhile (·==0)=_;by_cases hq:n / 256=0
   ·rw [hq,zi7,List.dropWhile_append,(zbz m).1];have hx:(UInt8.ofNat n==0)=false:=by
     rw [beq_eq_false_iff_ne];intro q;have:=congrArg UInt8.toNat q;rw [UInt8.toNat_ofNat_of_lt' (by simp only [UInt8.size];omega)] at this;exact h0 this
    simp [hx]
   ·rw [drop_append,ih];rw [ih];intro q;cases m with
    | zero=>simp at hlt;omega
    | succ m=>unfold dgI at q;rw [if_neg hq] at q;simp at q
def dgB (n d:Nat):BitVec 8:=BitVec.ofNat 8 (n / d)
theorem xT (n d:Nat):Value.int .u8 (IntKind.u8.wrap (((n / d:Nat):Int)))=.int .u8 (BitVec.toNat (dgB n d):Int):=xQ (n / d)
theorem zi8 (n:Nat):Value.int .u8 (IntKind.u8.wrap ((n:Int)))=.int .u8 (BitVec.toNat (dgB n 1):Int):=by
 have h:=xT n 1;rw [Nat.div_one] at h;exact h
theorem zi9 (n d:Nat):UInt8.ofNat (Int.toNat (BitVec.toNat (dgB n d):Int))=UInt8.ofNat (n / d):=by
 rw [Int.toNat_natCast];apply UInt8.toNat_inj.1;rw [UInt8.toNat_ofNat',UInt8.toNat_ofNat'];unfold dgB;rw [BitVec.toNat_ofNat];omega
theorem zja (n:Nat):tl (strOfNums [(BitVec.toNat (dgB n 72057594037927936):Int),(BitVec.toNat (dgB n 281474976710656):Int),(BitVec.toNat (dgB n 1099511627776):Int),(BitVec.toNat (dgB n 4294967296):Int),(BitVec.toNat (dgB n 16777216):Int),(BitVec.toNat (dgB n 65536):Int),(BitVec.toNat (dgB n 256):Int),(BitVec.toNat (dgB n 1):Int)])=beI 8 n:=by
 unfold tl;rw [strOfNums_data];simp only [List.map_cons,List.map_nil,zi9,beI,List.nil_append,List.append_assoc,List.cons_append,Nat.div_div_eq_div_mul,Nat.div_one]
theorem zjb (n:Nat)(h:n<0x10000000000000000):(tl (strOfNums [(BitVec.toNat (dgB n 72057594037927936):Int),(BitVec.toNat (dgB n 281474976710656):Int),(BitVec.toNat (dgB n 1099511627776):Int),(BitVec.toNat (dgB n 4294967296):Int),(BitVec.toNat (dgB n 16777216):Int),(BitVec.toNat (dgB n 65536):Int),(BitVec.toNat (dgB n 256):Int),(BitVec.toNat (dgB n 1):Int)])).dropWhile (·==0)=dg n:=by
 rw [zja];exact zeg 8 n h
def yo (l:Bool)(s:ByteArray)(n:Nat)(k:Fo):ByteArray×Nat:=
 match lf1 l s n (lfF k) 4000 with
 | none=>(⟨#[]⟩,1)
 | some _=>if 8<dp1 l (dpF k) then (⟨#[]⟩,5) else if 4000<sz1 l s (szF k) then (⟨#[]⟩,2) else (zb (wr1 l s (szF k) (wrF k)),0)
def vn (x:ByteArray×Nat):Value:=.tuple #[.string x.1,.int .i64 ((x.2:Nat):Int)]
section
variable {l:Bool}{s:ByteArray}{n y:Nat}{k:Fo}
theorem zjc (h:lf1 l s n (lfF k) 4000=none):vn (yo l s n k)=.tuple #[.string ⟨#[]⟩,.int .i64 1]:=by unfold yo;rw [h];rfl
theorem zjd (h:lf1 l s n (lfF k) 4000=some y)(hd:8<dp1 l (dpF k)):vn (yo l s n k)=.tuple #[.string ⟨#[]⟩,.int .i64 5]:=by unfold yo;rw [h];simp only [];rw [if_pos hd];rfl
theorem zje (h:lf1 l s n (lfF k) 4000=some y)(hd: ¬8<dp1 l (dpF k))(hz:4000<sz1 l s (szF k)):vn (yo l s n k)=.tuple #[.string ⟨#[]⟩,.int .i64 2]:=by unfold yo;rw [h];simp only [];rw [if_neg hd,if_pos hz];rfl
theorem zjf (h:lf1 l s n (lfF k) 4000=some y)(hd: ¬8<dp1 l (dpF k))(hz: ¬4000<sz1 l s (szF k)):vn (yo l s n k)=.tuple #[.string (zb (wr1 l s (szF k) (wrF k))),.int .i64 0]:=by unfold yo;rw [h];simp only [];rw [if_neg hd,if_neg hz];rfl
theorem zjg {room:Nat}(h:lf1 l s n (lfF k) room=some y):zS l s n=false∧pureF k=true∧k.cnt<room:=by
 unfold lf1 at h;split at h
 ·cases h
 ·rename_i h0
  rw [xS] at h;split at h
  ·rename_i h1
   refine ⟨?_,h1.1,by omega⟩;cases hm:zS l s n with
   | true=>exact absurd (.inr hm) h0
   | false=>rfl
  ·cases h
theorem zeh (hm:zS l s n=false)(h:qp s=true):n=0:=by
 have hz:=ud h;unfold zS at hm;cases l with
 | true=>simp [hz] at hm
 | false=>simpa using hm
theorem len_zero {k:Fo}(h:k.len=0):k=.nil:=by cases k with
 | nil=>rfl
 | cons=>simp [Fo.len] at h
theorem vo (hm:zS l s k.len=false)(hk:(wrF k).length=szF k):(wr1 l s (szF k) (wrF k)).length=sz1 l s (szF k):=by
 unfold wr1 sz1;rw [List.length_append,List.length_append,zy,hk];split
 ·rename_i h
  have:=len_zero (zeh hm h);subst this;have hz:=ud h;simp only [szF,List.length_nil];omega
 ·omega
theorem jY: ∀ {k:Fo},pureF k=true→(wrF k).length=szF k
 | .nil,_=>rfl
 | .cons l s k r,h=>by
  simp only [pureF,Bool.and_eq_true,Bool.not_eq_true'] at h;simp only [wrF,szF,List.length_append];rw [vo h.1.1 (jY h.1.2),jY h.2]
theorem zai (hm:zS l s n=false)(hp:pureF k=true)(hn:n=k.len):0<(wr1 l s (szF k) (wrF k)).length∧(wr1 l s (szF k) (wrF k)).length≤sz1 l s (szF k):=by
 subst hn;rw [vo hm (jY hp)];exact ⟨ziY l s (szF k),Nat.le_refl _⟩
theorem zjh (hm:zS l s n=false)(hp:pureF k=true)(hz:sz1 l s (szF k)≤4000)(hn:n=k.len):s.size+wtF k≤4000+9*k.cnt:=by
 have h1:=zag hp;unfold sz1 at hz;split at hz
 ·rename_i h
  have h2:=zeh hm h;have:=len_zero (hn▸h2);subst this;have:=ud h;simp only [wtF];omega
 ·omega
end
theorem zei {s:ByteArray}{n:Nat}{b:Bool}(h:decide (s.size≠0)=b):b=zS true s n:=h.symm
theorem zej {s:ByteArray}{n:Nat}{b:Bool}(h:decide (n≠0)=b):b=zS false s n:=h.symm
theorem zji (l:Bool)(s:ByteArray)(p:Option Addr)(n c:Nat)(k:Fo)(hs:s.size≤0x800000000000):FnP Tryz.prog 101 #[.agg #[.bool l,.string s,.slice p n c]] (fun w=>zq w.heap.size w p n k) (.bool (zS l s n)):=by
 refine FnP.intro (c:=zl Tryz.f101) [.tmp 2] 12 Tryz.func101 kr kr kr fun w hpre=>?_;have H0:=St.start w;have hn:=hpre.1;have hnm:=hpre.2.1;refine rS [.b,.v] H0 kr fun gs1 w1 H1=>?_;clear H0;refine zc kr<|rS [.v,.l 0] H1 kr fun gs2 w2 H2=>?_;clear H1;refine Or.elim (Bool.eq_false_or_eq_true (l)).symm (fun hq1=>?_) (fun hq1=>?_)
 ·refine zZ 4 (v:=.bool l) (v':=.bool false) (za hq1) kr<|zf kr kr<|zh kr<|wW<|zi [0,1,2,3,4] kr kr<|rp [.v,.l 0,.v] H2 kr fun gs3 w3 H3=>wX [3,4] ?_;clear H2;by_cases hc1:(n:Nat)>0
  ·refine rp [.E (.bool (decide (0<(n:Int)))) (.bool true) (za (decide_eq_true (by omega))),.v] H3 kr fun gs4 w4 H4=>wX [] ?_;clear H3;refine zd<|zn kr<|wV ?_;refine ⟨[.bool true],(.tmp (.bool true) kr .nil),?_,H4.below⟩;rw [hq1];exact za (zej (decide_eq_true (by omega)))
  ·refine rp [.E (.bool (decide (0<(n:Int)))) (.bool false) (za (decide_eq_false (by omega))),.v] H3 kr fun gs5 w5 H5=>wX [] ?_;clear H3;refine zd<|zn kr<|wV ?_;refine ⟨[.bool false],(.tmp (.bool false) kr .nil),?_,H5.below⟩;rw [hq1];exact za (zej (decide_eq_false (by omega)))
 ·refine zZ 4 (v:=.bool l) (v':=.bool true) (za hq1) kr<|zg kr kr<|zi [0,1,2,3] kr kr<|rp [.v,.l 0] H2 kr fun gs6 w6 H6=>wX [2,3] ?_;clear H2;by_cases hx2:s=⟨#[]⟩
  ·refine rp [.E (.bool (!(ByteArray.toList s==ByteArray.toList (⟨#[]⟩)))) (.bool false) (za (by rw [kx s (⟨#[]⟩) hx2];rfl)),.v] H6 kr fun gs7 w7 H7=>wX [] ?_;clear H6;refine zd<|zn kr<|wV ?_;refine ⟨[.bool false],(.tmp (.bool false) kr .nil),?_,H7.below⟩;rw [hq1];exact za (zei (decide_eq_false (by rw [hx2];decide)))
  ·refine rp [.E (.bool (!(ByteArray.toList s==ByteArray.toList (⟨#[]⟩)))) (.bool true) (za (by rw [jV s (⟨#[]⟩) hx2];rfl)),.v] H6 kr fun gs8 w8 H8=>wX [] ?_;clear H6;refine zd<|zn kr<|wV ?_;refine ⟨[.bool true],(.tmp (.bool true) kr .nil),?_,H8.below⟩;rw [hq1];exact za (zei (decide_eq_true (zaf hx2)))
theorem zjj (m:Nat)(ih: ∀(l:Bool) (s:ByteArray) (p:Option Addr) (n c:Nat) (k:Fo) (room:Nat),s.size≤0x800000000000→room≤4000→k.cnt<m→FnP Tryz.prog 63 #[.agg #[.bool l,.string s,.slice p n c],.int .i64 (room:Int)] (fun w=>zq w.heap.size w p n k) (.int .i64 (lfV (lf1 l s n (lfF k) room))))(l:Bool)(s:ByteArray)(p:Option Addr)(n c:Nat)(k:Fo)(hs:s.size≤0x800000000000)(room:Nat)(hro:room≤4000)(hkm:k.cnt<m+1):FnP Tryz.prog 63 #[.agg #[.bool l,.string s,.slice p n c],.int .i64 (room:Int)] (fun w=>zq w.heap.size w p n k) (.int .i64 (lfV (lf1 l s n (lfF k) room))):=by
 refine FnP.intro (c:=zl Tryz.f63) [.tmp 4] 30 Tryz.func63 kr kr kr fun w hpre=>?_;have H0:=St.start w;have hn:=hpre.1;have hnm:=hpre.2.1;refine rS [.b,.v] H0 kr fun gs1 w1 H1=>?_;clear H0;refine zc kr<|zi [0,1,2,3,4,5] kr kr<|rp [.v] H1 kr fun gs2 w2 H2=>wX [1,2,3,4,5] ?_;clear H1;by_cases hc1:(room:Nat)=0
 ·refine rp [.E (.bool ((room:Int)==0)) (.bool true) (za (beq_iff_eq.2 (by omega))),.v,.n,.n,.v] H2 kr fun gs3 w3 H3=>wX [] ?_;clear H2;refine zd<|zg kr kr<|rS [.v] H3 kr fun gs4 w4 H4=>?_;clear H3;refine zn kr<|wV ?_;refine ⟨[.int .i64 (-1)],(.tmp (.int .i64 (-1)) kr .nil),?_,H4.below⟩;exact ze (zi0 (by omega)).symm
 ·refine rp [.E (.bool ((room:Int)==0)) (.bool false) (za (beq_eq_false_iff_ne.2 (by omega))),.v,.l 0,.cp (pre:=fun w=>zq w.heap.size w p n k) (zji l s p n c k (by omega)) [] (fun w hb hd=>(zq.call hpre hb)),.v] H2 kr fun gs5 w5 H5=>wX [] ?_;clear H2;refine zd<|Or.elim (Bool.eq_false_or_eq_true (zS l s n)).symm (fun hq1=>?_) (fun hq1=>?_)
  ·refine zZ 11 (v:=.bool (zS l s n)) (v':=.bool false) (za hq1) kr<|zZ 12 (v:=.bool (zS l s n)) (v':=.bool false) (za hq1) kr<|zf kr kr<|zh kr<|wW<|rS [.v,.E (.int .i64 (IntKind.i64.wrap ((room:Int)-1))) (.int .i64 ((room-1:Nat):Int)) (ze (jh (a:=room) (b:=1) (by omega))),.v] H5 kr fun gs6 w6 H6=>?_;clear H5;refine zc kr<|rS [.v,.l 0,.v,.v] H6 kr fun gs7 w7 H7=>?_;clear H6;refine zj 0 kr ?_;have HL2:St w.heap.size w w7 [((gs1 0).b,Obj.cells #[.bool l,.string s,.slice p n c] 73 (0,0))]:=H7.as kr;clear H7;have HD3:St w.heap.size w w7 []:=HL2.sub (List.Sublist.cons _ List.Sublist.slnil);refine zz kr (fun mz ρ ww=> ∃(i:Nat) (r:Fo) (q:Nat),n-i=mz∧(FoR w.heap.size w p i r)∧(i+Fo.len r=n)∧(q≤4000)∧(Fo.cnt r≤Fo.cnt k)∧(lfF k (room-1)=lfF r q)∧St w.heap.size w ww []∧Is [(0,.agg #[.bool l,.string s,.slice p n c]),(1,.int .i64 (q:Int)),(2,.pointer (some ⟨(gs1 0).b,0,none⟩)),(12,.bool false),(16,.slice p n c),(17,.int .i64 (n:Int)),(18,.int .i64 (i:Int))] ρ) (n-0) ⟨0,k,(room-1),rfl,(zq.start hpre),(by have hn0:=(hpre).1;omega),(by omega),(Nat.le_refl _),rfl,HD3,(Is.of ⟨kr,kr,kr,kr,kr,kr,kr,trivial⟩)⟩ ?_;clear HD3;rintro _ _ w8 ⟨i,r,q,rfl,hR,hN,hq0,hcn,hlf,H8,_,rfl⟩;by_cases hc4:(i:Nat)<n
   ·refine rS [.E (.bool (decide ((i:Int)<(n:Int)))) (.bool true) (za (decide_eq_true (by omega)))] H8 kr fun gs9 w9 H9=>?_;clear H8;refine zc kr<|zg kr kr<|zh kr<|wW<|zc kr<|zj 1 kr ?_;obtain ⟨l1,s1,k1,r1,b1,off1,C1,T1,fz1,p1,n1,c1,hr1,hp1,hb1,hh1,hs1,hx1,hz1,hk1,hR1,hN1⟩:=FoR.open hR hN (by omega);refine rS [.o (ins:=[((.tmp 16),.slice p n c),((.tmp 18),.int .i64 (i:Int))]) (v:=.pointer (some ⟨b1,off1+i*3,none⟩)) (fun ρ o w ho hi=>jX (kd:=.i64) (t:=71) (e:=73) (bytes:=48) kr (x:=(.tmp 16)) (y:=(.tmp 18)) b1 off1 n c i hp1 ho hi.1 hi.2.1 (by omega) w),.fp (off:=off1+i*3) (n:=3) (W:=#[.bool l1,.string s1,.slice p1 n1 c1]) hh1 hb1 hs1 hx1,.a,.s 0] H9 kr fun gs10 w10 H10=>?_;clear H9;refine zJ [0,1,2,6,12,16,17,18,19] fun ρ1=>?_;have HK5:=H10.keep;clear H10;have hcn1:=hcn;rw [hr1] at hcn1;simp only [Fo.cnt] at hcn1;refine zi [0,1,2,3] kr kr<|rp [.l 0,.v,.cp (pre:=fun w=>zq w.heap.size w p1 n1 k1) (ih l1 s1 p1 n1 c1 k1 q hz1 (by omega) (by omega)) [] (fun w hb hd=>(zq.call hk1 hb))] HK5 kr fun gs11 w11 H11=>wX [3] ?_;clear HK5;rcases zeb (lf1 l1 s1 n1 (lfF k1) q) with hv1 | ⟨y,hv1⟩
    ·refine yT 24 (v:=.int .i64 (lfV (lf1 l1 s1 n1 (lfF k1) q))) (v':=.int .i64 (-1)) (ze (show (lfV (lf1 l1 s1 n1 (lfF k1) q))= -1 from by rw [hv1];rfl)) kr<|rp [.v] H11 kr fun gs12 w12 H12=>wX [] ?_;clear H11;refine zd<|rS [.v,.v] H12 kr fun gs13 w13 H13=>?_;clear H12;refine zg kr kr<|rS [.v,.v] H13 kr fun gs14 w14 H14=>?_;clear H13;refine zn kr<|wV ?_;refine ⟨[.int .i64 (-1)],(.tmp (.int .i64 (-1)) kr .nil),?_,H14.below⟩;refine ze ?_;rw [zd8 (by omega) hq1,hlf,hr1];exact (zi3 hk1.1 hv1).symm
    ·refine yT 24 (v:=.int .i64 (lfV (lf1 l1 s1 n1 (lfF k1) q))) (v':=.int .i64 (y:Int)) (ze (show (lfV (lf1 l1 s1 n1 (lfF k1) q))=(y:Int) from by rw [hv1];rfl)) kr ?_;have hy4:=ziZ hv1;refine rp [.v] H11 kr fun gs15 w15 H15=>wX [] ?_;clear H11;refine zd<|rS [.v,.E (.bool (decide ((y:Int)<0))) (.bool false) (za (decide_eq_false (by omega)))] H15 kr fun gs16 w16 H16=>?_;clear H15;refine zf kr kr<|zh kr<|wW<|rL [.E (.int .i64 (IntKind.i64.wrap ((i:Int)+1))) (.int .i64 ((i+1:Nat):Int)) (ze (zm (a:=i) (b:=1) (by omega))),.v] H16 kr fun gs17 w17 H17=>?_;clear H16;have HL6:St w.heap.size w w17 [((gs10 2).b,Obj.cells #[.bool l1,.string s1,.slice p1 n1 c1] 73 (0,0))]:=H17.as kr;clear H17;have HD7:St w.heap.size w w17 []:=HL6.sub (List.Sublist.cons _ List.Sublist.slnil);show ∃m,_∧_;exact ⟨_,(by omega),(i+1),r1,y,rfl,hR1,hN1,(by omega),(by omega),(by rw [hlf,hr1];exact zi2 hk1.1 hv1),HD7,(Is.of ⟨kr,kr,kr,kr,kr,kr,kr,trivial⟩)⟩
   ·refine rS [.E (.bool (decide ((i:Int)<(n:Int)))) (.bool false) (za (decide_eq_false (by omega)))] H8 kr fun gs18 w18 H18=>?_;clear H8;refine zc kr<|zf kr kr<|zw 0 kr<|wW<|rS [.v,.v] H18 kr fun gs19 w19 H19=>?_;clear H18;refine zn kr<|wV ?_;refine ⟨[.int .i64 (q:Int)],(.tmp (.int .i64 (q:Int)) kr .nil),?_,H19.below⟩;refine ze ?_;rw [zd8 (by omega) hq1,hlf,FoR.done hN (by omega)];rfl
  ·refine zZ 11 (v:=.bool (zS l s n)) (v':=.bool true) (za hq1) kr<|zZ 12 (v:=.bool (zS l s n)) (v':=.bool true) (za hq1) kr<|zg kr kr<|rS [.v] H5 kr fun gs20 w20 H20=>?_;clear H5;refine zn kr<|wV ?_;refine ⟨[.int .i64 (-1)],(.tmp (.int .i64 (-1)) kr .nil),?_,H20.below⟩;exact ze (zi1 hq1).symm
theorem left_fn (l:Bool)(s:ByteArray)(p:Option Addr)(n c:Nat)(k:Fo)(hs:s.size≤0x800000000000)(room:Nat)(hro:room≤4000):FnP Tryz.prog 63 #[.agg #[.bool l,.string s,.slice p n c],.int .i64 (room:Int)] (fun w=>zq w.heap.size w p n k) (.int .i64 (lfV (lf1 l s n (lfF k) room))):=by
 have key: ∀(m:Nat) (l:Bool) (s:ByteArray) (p:Option Addr) (n c:Nat) (k:Fo) (room:Nat),s.size≤0x800000000000→room≤4000→k.cnt<m→FnP Tryz.prog 63 #[.agg #[.bool l,.string s,.slice p n c],.int .i64 (room:Int)] (fun w=>zq w.heap.size w p n k) (.int .i64 (lfV (lf1 l s n (lfF k) room))):=by
  intro m
  induction m with
  | zero=>intros;omega
  | succ m ih=>intro l s p n c k room hs hro hkm;exact zjj m ih l s p n c k hs room hro hkm
 exact key (k.cnt+1) l s p n c k room hs hro (by omega)
theorem zjk (m:Nat)(ih: ∀(l:Bool) (s:ByteArray) (p:Option Addr) (n c:Nat) (k:Fo),s.size≤0x800000000000→k.cnt≤1000000→k.cnt<m→FnP Tryz.prog 64 #[.agg #[.bool l,.string s,.slice p n c]] (fun w=>zq w.heap.size w p n k) (.int .i64 ((dp1 l (dpF k):Nat):Int)))(l:Bool)(s:ByteArray)(p:Option Addr)(n c:Nat)(k:Fo)(hs:s.size≤0x800000000000)(hk6:k.cnt≤1000000)(hkm:k.cnt<m+1):FnP Tryz.prog 64 #[.agg #[.bool l,.string s,.slice p n c]] (fun w=>zq w.heap.size w p n k) (.int .i64 ((dp1 l (dpF k):Nat):Int)):=by
 refine FnP.intro (c:=zl Tryz.f64) [.tmp 2] 23 Tryz.func64 kr kr kr fun w hpre=>?_;have H0:=St.start w;have hn:=hpre.1;have hnm:=hpre.2.1;have hdk:=zah k;refine rS [.b,.v] H0 kr fun gs1 w1 H1=>?_;clear H0;refine zc kr<|zi [0,1,2] kr kr<|rp [.v,.l 0] H1 kr fun gs2 w2 H2=>wX [2] ?_;clear H1;refine Or.elim (Bool.eq_false_or_eq_true (l)).symm (fun hq1=>?_) (fun hq1=>?_)
 ·refine yT 7 (v:=.bool l) (v':=.bool false) (za hq1) kr<|rp [.v] H2 kr fun gs3 w3 H3=>wX [] ?_;clear H2;refine zd<|zg kr kr<|rS [.v] H3 kr fun gs4 w4 H4=>?_;clear H3;refine zn kr<|wV ?_;refine ⟨[.int .i64 0],(.tmp (.int .i64 0) kr .nil),?_,H4.below⟩;rw [hq1];rfl
 ·refine yT 7 (v:=.bool l) (v':=.bool true) (za hq1) kr<|rp [.v] H2 kr fun gs5 w5 H5=>wX [] ?_;clear H2;refine zd<|zf kr kr<|zh kr<|wW<|rS [.v] H5 kr fun gs6 w6 H6=>?_;clear H5;refine zc kr<|rS [.v,.l 0,.v,.v] H6 kr fun gs7 w7 H7=>?_;clear H6;refine zj 0 kr ?_;have HL1:St w.heap.size w w7 [((gs1 0).b,Obj.cells #[.bool l,.string s,.slice p n c] 73 (0,0))]:=H7.as kr;clear H7;have HD2:St w.heap.size w w7 []:=HL1.sub (List.Sublist.cons _ List.Sublist.slnil);refine zz kr (fun mz ρ ww=> ∃(i:Nat) (r:Fo) (d:Nat),n-i=mz∧(FoR w.heap.size w p i r)∧(i+Fo.len r=n)∧(Fo.cnt r≤Fo.cnt k)∧(dpF k=max d (dpF r))∧St w.heap.size w ww []∧Is [(0,.agg #[.bool l,.string s,.slice p n c]),(1,.pointer (some ⟨(gs1 0).b,0,none⟩)),(2,.int .i64 0),(3,.int .i64 (d:Int)),(8,.bool false),(10,.slice p n c),(11,.int .i64 (n:Int)),(12,.int .i64 (i:Int))] ρ) (n-0) ⟨0,k,0,rfl,(zq.start hpre),(by have hn0:=(hpre).1;omega),(Nat.le_refl _),(by omega),HD2,(Is.of ⟨kr,kr,kr,kr,kr,kr,kr,kr,trivial⟩)⟩ ?_;clear HD2;rintro _ _ w8 ⟨i,r,d,rfl,hR,hN,hcn,hd,H8,_,rfl⟩;by_cases hc3:(i:Nat)<n
  ·refine rS [.E (.bool (decide ((i:Int)<(n:Int)))) (.bool true) (za (decide_eq_true (by omega)))] H8 kr fun gs9 w9 H9=>?_;clear H8;refine zc kr<|zg kr kr<|zh kr<|wW<|zc kr<|zj 1 kr ?_;obtain ⟨l1,s1,k1,r1,b1,off1,C1,T1,fz1,p1,n1,c1,hr1,hp1,hb1,hh1,hs1,hx1,hz1,hk1,hR1,hN1⟩:=FoR.open hR hN (by omega);refine rS [.o (ins:=[((.tmp 10),.slice p n c),((.tmp 12),.int .i64 (i:Int))]) (v:=.pointer (some ⟨b1,off1+i*3,none⟩)) (fun ρ o w ho hi=>jX (kd:=.i64) (t:=71) (e:=73) (bytes:=48) kr (x:=(.tmp 10)) (y:=(.tmp 12)) b1 off1 n c i hp1 ho hi.1 hi.2.1 (by omega) w),.fp (off:=off1+i*3) (n:=3) (W:=#[.bool l1,.string s1,.slice p1 n1 c1]) hh1 hb1 hs1 hx1,.a,.s 0] H9 kr fun gs10 w10 H10=>?_;clear H9;have hcn1:=hcn;rw [hr1] at hcn1;simp only [Fo.cnt] at hcn1;refine rL [.v,.l 0,.cp (pre:=fun w=>zq w.heap.size w p1 n1 k1) (ih l1 s1 p1 n1 c1 k1 hz1 (by omega) (by omega)) [] (fun w hb hd=>(zq.call hk1 hb)),.E (.int .i64 (if (((dp1 l1 (dpF k1):Nat):Int):Int)>((d:Int):Int) then (((dp1 l1 (dpF k1):Nat):Int):Int) else ((d:Int):Int))) (.int .i64 ((max d (dp1 l1 (dpF k1)):Nat):Int)) (ze (zip d (dp1 l1 (dpF k1)))),.v] H10 kr fun gs11 w11 H11=>?_;clear H10;refine wW<|zJ [0,1,2,3,5,8,10,11,12,13] fun ρ1=>?_;have HK4:=H11.keep;clear H11;refine rL [.E (.int .i64 (IntKind.i64.wrap ((i:Int)+1))) (.int .i64 ((i+1:Nat):Int)) (ze (zm (a:=i) (b:=1) (by omega))),.v] HK4 kr fun gs12 w12 H12=>?_;clear HK4;have HL5:St w.heap.size w w12 [((gs10 2).b,Obj.cells #[.bool l1,.string s1,.slice p1 n1 c1] 73 (0,0))]:=H12.as kr;clear H12;have HD6:St w.heap.size w w12 []:=HL5.sub (List.Sublist.cons _ List.Sublist.slnil);show ∃m,_∧_;exact ⟨_,(by omega),(i+1),r1,(max d (dp1 l1 (dpF k1))),rfl,hR1,hN1,(by omega),(by rw [hd,hr1];simp only [dpF];omega),HD6,(Is.of ⟨kr,kr,kr,kr,kr,kr,kr,kr,trivial⟩)⟩
  ·refine rS [.E (.bool (decide ((i:Int)<(n:Int)))) (.bool false) (za (decide_eq_false (by omega)))] H8 kr fun gs13 w13 H13=>?_;clear H8;refine zc kr<|zf kr kr<|zw 0 kr<|wW<|rS [.v,.E (.int .i64 (IntKind.i64.wrap (1+(d:Int)))) (.int .i64 ((1+d:Nat):Int)) (ze (zm (a:=1) (b:=d) (by omega))),.v] H13 kr fun gs14 w14 H14=>?_;clear H13;refine zn kr<|wV ?_;refine ⟨[.int .i64 ((1+d:Nat):Int)],(.tmp (.int .i64 ((1+d:Nat):Int)) kr .nil),?_,H14.below⟩;refine ze ?_;rw [hq1,hd,FoR.done hN (by omega)];show ((1+d:Nat):Int)=((1+max d 0:Nat):Int);omega
theorem zjl (l:Bool)(s:ByteArray)(p:Option Addr)(n c:Nat)(k:Fo)(hs:s.size≤0x800000000000)(hk6:k.cnt≤1000000):FnP Tryz.prog 64 #[.agg #[.bool l,.string s,.slice p n c]] (fun w=>zq w.heap.size w p n k) (.int .i64 ((dp1 l (dpF k):Nat):Int)):=by
 have key: ∀(m:Nat) (l:Bool) (s:ByteArray) (p:Option Addr) (n c:Nat) (k:Fo),s.size≤0x800000000000→k.cnt≤1000000→k.cnt<m→FnP Tryz.prog 64 #[.agg #[.bool l,.string s,.slice p n c]] (fun w=>zq w.heap.size w p n k) (.int .i64 ((dp1 l (dpF k):Nat):Int)):=by
  intro m
  induction m with
  | zero=>intros;omega
  | succ m ih=>intro l s p n c k hs hk6 hkm;exact zjk m ih l s p n c k hs hk6 hkm
 exact key (k.cnt+1) l s p n c k hs hk6 (by omega)
theorem zek (s:ByteArray):Fn Tryz.prog 102 #[.string s] (.bool (qp s)):=by
 refine Fn.intro (c:=zl Tryz.f102) [.tmp 2] 11 Tryz.func102 kr kr kr fun w=>?_;have H0:=St.start w;refine rS [.v] H0 kr fun gs1 w1 H1=>?_;clear H0;refine zi [0,1,2,3,4,5,6,7,8] kr kr<|rp [.v,.v] H1 kr fun gs2 w2 H2=>wX [2,3,4,5,6,7,8] ?_;clear H1;by_cases hc1:(ByteArray.size s:Nat)=1
 ·refine rp [.E (.bool ((ByteArray.size s:Int)==1)) (.bool true) (za (beq_iff_eq.2 (by omega))),.v,.v,.o (ins:=[((.tmp 7),.string s),((.const (.int .i64 0)),.int .i64 0)]) (v:=.int .u8 ((by_ s 0:Nat):Int)) (fun ρ o w ho hi=>zQ (t:=9) (kd:=.i64) kr (x:=(.tmp 7)) (y:=(.const (.int .i64 0))) s 0 ho hi.1 hi.2.1 (by omega) w)] H2 kr fun gs3 w3 H3=>wX [6,7,8] ?_;clear H2;by_cases hc2:(by_ s 0:Nat)<128
  ·refine rp [.E (.bool (decide (((by_ s 0:Nat):Int)<128))) (.bool true) (za (decide_eq_true (by omega))),.v,.v] H3 kr fun gs4 w4 H4=>wX [] ?_;clear H3;refine zd<|zn kr<|wV ?_;refine ⟨[.bool true],(.tmp (.bool true) kr .nil),?_,H4.below⟩;exact za (by unfold qp;simp [*])
  ·refine rp [.E (.bool (decide (((by_ s 0:Nat):Int)<128))) (.bool false) (za (decide_eq_false (by omega))),.v,.v] H3 kr fun gs5 w5 H5=>wX [] ?_;clear H3;refine zd<|zn kr<|wV ?_;refine ⟨[.bool false],(.tmp (.bool false) kr .nil),?_,H5.below⟩;exact za (by unfold qp;simp [*])
 ·refine rp [.E (.bool ((ByteArray.size s:Int)==1)) (.bool false) (za (beq_eq_false_iff_ne.2 (by omega))),.v,.n,.n,.n,.v,.v] H2 kr fun gs6 w6 H6=>wX [] ?_;clear H2;refine zd<|zn kr<|wV ?_;refine ⟨[.bool false],(.tmp (.bool false) kr .nil),?_,H6.below⟩;exact za (by unfold qp;simp [*])
theorem zjm (s:ByteArray)(hs:ByteArray.size s≤0x800000000000):Fn Tryz.prog 142 #[.string s,.int .u8 0] (.string (zb ((tl s).dropWhile (·==0)))):=by
 refine Fn.intro (c:=zl Tryz.f142) [.tmp 4] 17 Tryz.func142 kr kr kr fun w=>?_;have H0:=St.start w;refine rS [.v] H0 kr fun gs1 w1 H1=>?_;clear H0;refine zc kr<|zj 0 kr ?_;have HL1:St w.heap.size w w1 []:=H1.as kr;clear H1;refine zz kr (fun mz ρ ww=> ∃(t:ByteArray),ByteArray.size t=mz∧((tl t).dropWhile (·==0)=(tl s).dropWhile (·==0))∧(ByteArray.size t≤ByteArray.size s)∧St w.heap.size w ww []∧Is [(0,.string t),(1,.int .u8 0),(4,.string (⟨#[]⟩))] ρ) (ByteArray.size s) ⟨s,rfl,rfl,(Nat.le_refl _),HL1,(Is.of ⟨kr,kr,kr,trivial⟩)⟩ ?_;clear HL1;rintro _ _ w2 ⟨t,rfl,ht,htz,H2,_,rfl⟩;refine zc kr<|zi [0,1,2,3,4,5,6,7,8] kr kr<|rp [.v,.v] H2 kr fun gs3 w3 H3=>wX [2,3,4,5,6,7,8] ?_;clear H2;by_cases hc2:(ByteArray.size t:Nat)>0
 ·refine rp [.E (.bool (decide (0<(ByteArray.size t:Int)))) (.bool true) (za (decide_eq_true (by omega))),.v,.v,.o (ins:=[((.tmp 9),.string t),((.const (.int .i64 0)),.int .i64 0)]) (v:=.int .u8 ((by_ t 0:Nat):Int)) (fun ρ o w ho hi=>zQ (t:=9) (kd:=.i64) kr (x:=(.tmp 9)) (y:=(.const (.int .i64 0))) t 0 ho hi.1 hi.2.1 (by omega) w),.v] H3 kr fun gs4 w4 H4=>wX [7,8] ?_;clear H3;by_cases hc3:(by_ t 0:Nat)=0
  ·refine rp [.E (.bool (((by_ t 0:Nat):Int)==0)) (.bool true) (za (beq_iff_eq.2 (by omega))),.v] H4 kr fun gs5 w5 H5=>wX [] ?_;clear H4;refine zd<|zg kr kr<|zh kr<|wW<|zj 1 kr<|rL [.v,.o (ins:=[((.tmp 14),.string t),((.const (.int .i64 1)),.int .i64 1)]) (v:=.string (ByteArray.extract t 1 (ByteArray.size t))) (fun ρ o w ho hi=>kq (t:=9) (kz:=.i64) kr (x:=(.tmp 14)) (z:=(.const (.int .i64 1))) t 1 ho hi.1 hi.2.1 (by omega) w),.v] H5 kr fun gs6 w6 H6=>?_;clear H5;have HL4:St w.heap.size w w6 []:=H6.as kr;clear H6;show ∃m,_∧_;exact ⟨_,(by rw [zec t (by omega)];omega),(ByteArray.extract t 1 (ByteArray.size t)),rfl,(by rw [zi6 t (by omega) (by omega)];exact ht),(by rw [zec t (by omega)];omega),HL4,(Is.of ⟨kr,kr,kr,trivial⟩)⟩
  ·refine rp [.E (.bool (((by_ t 0:Nat):Int)==0)) (.bool false) (za (beq_eq_false_iff_ne.2 (by omega))),.v] H4 kr fun gs7 w7 H7=>wX [] ?_;clear H4;refine zd<|zf kr kr<|zw 0 kr<|wW<|rS [.v,.v] H7 kr fun gs8 w8 H8=>?_;clear H7;refine zn kr<|wV ?_;refine ⟨[.string t],(.tmp (.string t) kr .nil),?_,H8.below⟩;have hdone:zb ((tl s).dropWhile (·==0))=t:=by rw [←ht];exact zee t (by omega)
   exact congrArg Value.string hdone.symm
 ·refine rp [.E (.bool (decide (0<(ByteArray.size t:Int)))) (.bool false) (za (decide_eq_false (by omega))),.v,.n,.n,.n,.n,.v] H3 kr fun gs9 w9 H9=>wX [] ?_;clear H3;refine zd<|zf kr kr<|zw 0 kr<|wW<|rS [.v,.v] H9 kr fun gs10 w10 H10=>?_;clear H9;refine zn kr<|wV ?_;refine ⟨[.string t],(.tmp (.string t) kr .nil),?_,H10.below⟩;have hdone:zb ((tl s).dropWhile (·==0))=t:=by rw [←ht];exact zee t (by omega)
  exact congrArg Value.string hdone.symm
theorem zjn (s:ByteArray)(hs:ByteArray.size s≤0x800000000000):Fn Tryz.prog 135 #[.string s,.string (⟨#[0]⟩)] (.string (zb ((tl s).dropWhile (·==0)))):=by
 refine Fn.intro (c:=zl Tryz.f135) [.tmp 4] 37 Tryz.func135 kr kr kr fun w=>?_;have H0:=St.start w;refine rS [.v] H0 kr fun gs1 w1 H1=>?_;clear H0;refine zc kr<|zi [0,1,2,3,4,5] kr kr<|rp [.v] H1 kr fun gs2 w2 H2=>wX [1,2,3,4,5] ?_;clear H1;by_cases hx1:s=⟨#[]⟩
 ·refine rp [.E (.bool (ByteArray.toList s==ByteArray.toList (⟨#[]⟩))) (.bool true) (za (kx s (⟨#[]⟩) hx1)),.v,.n,.n,.v] H2 kr fun gs3 w3 H3=>wX [] ?_;clear H2;refine zd<|zg kr kr<|rS [.v,.v] H3 kr fun gs4 w4 H4=>?_;clear H3;refine zn kr<|wV ?_;refine ⟨[.string s],(.tmp (.string s) kr .nil),?_,H4.below⟩;exact congrArg Value.string (zby (by assumption)).symm
 ·refine rp [.E (.bool (ByteArray.toList s==ByteArray.toList (⟨#[]⟩))) (.bool false) (za (jV s (⟨#[]⟩) hx1)),.v,.v,.E (.bool (ByteArray.toList (⟨#[0]⟩)==ByteArray.toList (⟨#[]⟩))) (.bool false) (za (jV (⟨#[0]⟩) (⟨#[]⟩) (fun h=>absurd (congrArg ByteArray.size h) (by decide)))),.v] H2 kr fun gs5 w5 H5=>wX [] ?_;clear H2;refine zd<|zf kr kr<|zh kr<|wW<|zc kr<|rS [.v,.v,.v,.v,.v,.oe (ins:=[((.tmp 18),.string (⟨#[0]⟩)),((.const (.int .i64 0)),.int .i64 0)]) (v:=.int .u8 ((by_ (⟨#[0]⟩) 0:Nat):Int)) (v':=.int .u8 0) (fun ρ o w ho hi=>zQ (t:=9) (kd:=.i64) kr (x:=(.tmp 18)) (y:=(.const (.int .i64 0))) (⟨#[0]⟩) 0 ho hi.1 hi.2.1 (by decide) w) (ze (by decide)),.v,.v] H5 kr fun gs6 w6 H6=>?_;clear H5;refine zg kr kr<|rS [.v,.v,.oe (ins:=[((.tmp 23),.string (⟨#[0]⟩)),((.const (.int .i64 0)),.int .i64 0)]) (v:=.int .u8 ((by_ (⟨#[0]⟩) 0:Nat):Int)) (v':=.int .u8 0) (fun ρ o w ho hi=>zQ (t:=9) (kd:=.i64) kr (x:=(.tmp 23)) (y:=(.const (.int .i64 0))) (⟨#[0]⟩) 0 ho hi.1 hi.2.1 (by decide) w) (ze (by decide)),.c (zjm s (by omega)),.v] H6 kr fun gs7 w7 H7=>?_;clear H6;refine zn kr<|wV ?_;refine ⟨[.string (zb ((tl s).dropWhile (·==0)))],(.tmp (.string (zb ((tl s).dropWhile (·==0)))) kr .nil),?_,H7.below⟩;rfl
theorem zbA (n:Nat)(hn:n<0x10000000000000000):Fn Tryz.prog 123 #[.int .u64 (n:Int)] (.string (zb (dg n))):=by
 refine Fn.intro (c:=zl Tryz.f123) [.tmp 2] 20 Tryz.func123 kr kr kr fun w=>?_;have H0:=St.start w;refine rS [.v] H0 kr fun gs1 w1 H1=>?_;clear H0;refine rS [.a] H1 kr fun gs2 w2 H2=>?_;clear H1;refine zc kr<|rS [.v] H2 kr fun gs3 w3 H3=>?_;clear H2;refine zj 0 kr ?_;have HL1:St w.heap.size w w3 [((gs2 0).b,Obj.cells #[.int .u8 0,.int .u8 0,.int .u8 0,.int .u8 0,.int .u8 0,.int .u8 0,.int .u8 0,.int .u8 0] 179 (0,0))]:=H3.as kr;clear H3;refine zdj kr<|rS [.v] HL1 kr fun gs4 w4 H4=>?_;clear HL1;refine zc kr<|zg kr kr<|zh kr<|wW<|zc kr<|zj 1 kr<|rS [.v,.v] H4 kr fun gs5 w5 H5=>?_;clear H4;refine rL [.v,.v,.v,.v,.v,.E (.int .u64 (Int.fdiv ((n:Int)) (2^0))) (.int .u64 (n:Int)) (ze (zi4 (a:=n) (by omega))),.E (.int .u8 (IntKind.u8.wrap ((n:Int)))) (.int .u8 (BitVec.toNat (dgB n 1):Int)) (zi8 n),.v,.s 0] H5 kr fun gs6 w6 H6=>?_;clear H5;refine wW ?_;have HL2:St w.heap.size w w6 [((gs2 0).b,Obj.cells #[.int .u8 0,.int .u8 0,.int .u8 0,.int .u8 0,.int .u8 0,.int .u8 0,.int .u8 0,.int .u8 (BitVec.toNat (dgB n 1):Int)] 179 (0,0))]:=H6.as kr;clear H6;refine rL [.v,.v] HL2 kr fun gs7 w7 H7=>?_;clear HL2;show WPL _ _ _ _ _ _;refine xo<|zJ [0,2,3,4,5,6] fun ρ1=>?_;have HK3:=H7.keep;clear H7;refine rS [.v] HK3 kr fun gs8 w8 H8=>?_;clear HK3;refine zc kr<|zg kr kr<|zh kr<|wW<|zc kr<|zj 1 kr<|rS [.v,.v] H8 kr fun gs9 w9 H9=>?_;clear H8;refine rL [.v,.v,.v,.v,.v,.E (.int .u64 (Int.fdiv (n:Int) (2^8))) (.int .u64 ((n / 256:Nat):Int)) (ze (xN (k:=8) n 256 rfl)),.E (.int .u8 (IntKind.u8.wrap (((n / 256:Nat):Int)))) (.int .u8 (BitVec.toNat (dgB n 256):Int)) (xT n 256),.v,.s 0] H9 kr fun gs10 w10 H10=>?_;clear H9;refine wW ?_;have HL4:St w.heap.size w w10 [((gs2 0).b,Obj.cells #[.int .u8 0,.int .u8 0,.int .u8 0,.int .u8 0,.int .u8 0,.int .u8 0,.int .u8 (BitVec.toNat (dgB n 256):Int),.int .u8 (BitVec.toNat (dgB n 1):Int)] 179 (0,0))]:=H10.as kr;clear H10;refine rL [.v,.v] HL4 kr fun gs11 w11 H11=>?_;clear HL4;show WPL _ _ _ _ _ _;refine xo<|rS [.v] H11 kr fun gs12 w12 H12=>?_;clear H11;refine zc kr<|zg kr kr<|zh kr<|wW<|zc kr<|zj 1 kr<|rS [.v,.v] H12 kr fun gs13 w13 H13=>?_;clear H12;refine zJ [0,2,3,4,5,6] fun ρ2=>?_;have HK5:=H13.keep;clear H13;refine rL [.v,.v,.v,.v,.v,.E (.int .u64 (Int.fdiv (n:Int) (2^16))) (.int .u64 ((n / 65536:Nat):Int)) (ze (xN (k:=16) n 65536 rfl)),.E (.int .u8 (IntKind.u8.wrap (((n / 65536:Nat):Int)))) (.int .u8 (BitVec.toNat (dgB n 65536):Int)) (xT n 65536),.v,.s 0] HK5 kr fun gs14 w14 H14=>?_;clear HK5;refine wW ?_;have HL6:St w.heap.size w w14 [((gs2 0).b,Obj.cells #[.int .u8 0,.int .u8 0,.int .u8 0,.int .u8 0,.int .u8 0,.int .u8 (BitVec.toNat (dgB n 65536):Int),.int .u8 (BitVec.toNat (dgB n 256):Int),.int .u8 (BitVec.toNat (dgB n 1):Int)] 179 (0,0))]:=H14.as kr;clear H14;refine rL [.v,.v] HL6 kr fun gs15 w15 H15=>?_;clear HL6;show WPL _ _ _ _ _ _;refine xo<|rS [.v] H15 kr fun gs16 w16 H16=>?_;clear H15;refine zc kr<|zg kr kr<|zh kr<|wW<|zc kr<|zj 1 kr<|rS [.v,.v] H16 kr fun gs17 w17 H17=>?_;clear H16;refine rL [.v,.v,.v,.v,.v,.E (.int .u64 (Int.fdiv (n:Int) (2^24))) (.int .u64 ((n / 16777216:Nat):Int)) (ze (xN (k:=24) n 16777216 rfl)),.E (.int .u8 (IntKind.u8.wrap (((n / 16777216:Nat):Int)))) (.int .u8 (BitVec.toNat (dgB n 16777216):Int)) (xT n 16777216),.v,.s 0] H17 kr fun gs18 w18 H18=>?_;clear H17;refine wW<|zJ [0,2,3,4,5,6] fun ρ3=>?_;have HK7:=H18.keep;clear H18;have HL8:St w.heap.size w w18 [((gs2 0).b,Obj.cells #[.int .u8 0,.int .u8 0,.int .u8 0,.int .u8 0,.int .u8 (BitVec.toNat (dgB n 16777216):Int),.int .u8 (BitVec.toNat (dgB n 65536):Int),.int .u8 (BitVec.toNat (dgB n 256):Int),.int .u8 (BitVec.toNat (dgB n 1):Int)] 179 (0,0))]:=HK7.as kr;clear HK7;refine rL [.v,.v] HL8 kr fun gs19 w19 H19=>?_;clear HL8;show WPL _ _ _ _ _ _;refine xo<|rS [.v] H19 kr fun gs20 w20 H20=>?_;clear H19;refine zc kr<|zg kr kr<|zh kr<|wW<|zc kr<|zj 1 kr<|rS [.v,.v] H20 kr fun gs21 w21 H21=>?_;clear H20;refine rL [.v,.v,.v,.v,.v,.E (.int .u64 (Int.fdiv (n:Int) (2^32))) (.int .u64 ((n / 4294967296:Nat):Int)) (ze (xN (k:=32) n 4294967296 rfl)),.E (.int .u8 (IntKind.u8.wrap (((n / 4294967296:Nat):Int)))) (.int .u8 (BitVec.toNat (dgB n 4294967296):Int)) (xT n 4294967296),.v,.s 0] H21 kr fun gs22 w22 H22=>?_;clear H21;refine wW ?_;have HL9:St w.heap.size w w22 [((gs2 0).b,Obj.cells #[.int .u8 0,.int .u8 0,.int .u8 0,.int .u8 (BitVec.toNat (dgB n 4294967296):Int),.int .u8 (BitVec.toNat (dgB n 16777216):Int),.int .u8 (BitVec.toNat (dgB n 65536):Int),.int .u8 (BitVec.toNat (dgB n 256):Int),.int .u8 (BitVec.toNat (dgB n 1):Int)] 179 (0,0))]:=H22.as kr;clear H22;refine rL [.v,.v] HL9 kr fun gs23 w23 H23=>?_;clear HL9;show WPL _ _ _ _ _ _;refine xo<|rS [.v] H23 kr fun gs24 w24 H24=>?_;clear H23;refine zJ [0,2,3,4,5,6] fun ρ4=>?_;have HK10:=H24.keep;clear H24;refine zc kr<|zg kr kr<|zh kr<|wW<|zc kr<|zj 1 kr<|rS [.v,.v] HK10 kr fun gs25 w25 H25=>?_;clear HK10;refine rL [.v,.v,.v,.v,.v,.E (.int .u64 (Int.fdiv (n:Int) (2^40))) (.int .u64 ((n / 1099511627776:Nat):Int)) (ze (xN (k:=40) n 1099511627776 rfl)),.E (.int .u8 (IntKind.u8.wrap (((n / 1099511627776:Nat):Int)))) (.int .u8 (BitVec.toNat (dgB n 1099511627776):Int)) (xT n 1099511627776),.v,.s 0] H25 kr fun gs26 w26 H26=>?_;clear H25;refine wW ?_;have HL11:St w.heap.size w w26 [((gs2 0).b,Obj.cells #[.int .u8 0,.int .u8 0,.int .u8 (BitVec.toNat (dgB n 1099511627776):Int),.int .u8 (BitVec.toNat (dgB n 4294967296):Int),.int .u8 (BitVec.toNat (dgB n 16777216):Int),.int .u8 (BitVec.toNat (dgB n 65536):Int),.int .u8 (BitVec.toNat (dgB n 256):Int),.int .u8 (BitVec.toNat (dgB n 1):Int)] 179 (0,0))]:=H26.as kr;clear H26;refine rL [.v,.v] HL11 kr fun gs27 w27 H27=>?_;clear HL11;show WPL _ _ _ _ _ _;refine xo<|rS [.v] H27 kr fun gs28 w28 H28=>?_;clear H27;refine zc kr<|zg kr kr<|zh kr<|wW<|zc kr<|zj 1 kr<|rS [.v,.v] H28 kr fun gs29 w29 H29=>?_;clear H28;refine rL [.v,.v,.v,.v,.v,.E (.int .u64 (Int.fdiv (n:Int) (2^48))) (.int .u64 ((n / 281474976710656:Nat):Int)) (ze (xN (k:=48) n 281474976710656 rfl)),.E (.int .u8 (IntKind.u8.wrap (((n / 281474976710656:Nat):Int)))) (.int .u8 (BitVec.toNat (dgB n 281474976710656):Int)) (xT n 281474976710656),.v,.s 0] H29 kr fun gs30 w30 H30=>?_;clear H29;refine wW<|zJ [0,2,3,4,5,6] fun ρ5=>?_;have HK12:=H30.keep;clear H30;have HL13:St w.heap.size w w30 [((gs2 0).b,Obj.cells #[.int .u8 0,.int .u8 (BitVec.toNat (dgB n 281474976710656):Int),.int .u8 (BitVec.toNat (dgB n 1099511627776):Int),.int .u8 (BitVec.toNat (dgB n 4294967296):Int),.int .u8 (BitVec.toNat (dgB n 16777216):Int),.int .u8 (BitVec.toNat (dgB n 65536):Int),.int .u8 (BitVec.toNat (dgB n 256):Int),.int .u8 (BitVec.toNat (dgB n 1):Int)] 179 (0,0))]:=HK12.as kr;clear HK12;refine rL [.v,.v] HL13 kr fun gs31 w31 H31=>?_;clear HL13;show WPL _ _ _ _ _ _;refine xo<|rS [.v] H31 kr fun gs32 w32 H32=>?_;clear H31;refine zc kr<|zg kr kr<|zh kr<|wW<|zc kr<|zj 1 kr<|rS [.v,.v] H32 kr fun gs33 w33 H33=>?_;clear H32;refine rL [.v,.v,.v,.v,.v,.E (.int .u64 (Int.fdiv (n:Int) (2^56))) (.int .u64 ((n / 72057594037927936:Nat):Int)) (ze (xN (k:=56) n 72057594037927936 rfl)),.E (.int .u8 (IntKind.u8.wrap (((n / 72057594037927936:Nat):Int)))) (.int .u8 (BitVec.toNat (dgB n 72057594037927936):Int)) (xT n 72057594037927936),.v,.s 0] H33 kr fun gs34 w34 H34=>?_;clear H33;refine wW ?_;have HL14:St w.heap.size w w34 [((gs2 0).b,Obj.cells #[.int .u8 (BitVec.toNat (dgB n 72057594037927936):Int),.int .u8 (BitVec.toNat (dgB n 281474976710656):Int),.int .u8 (BitVec.toNat (dgB n 1099511627776):Int),.int .u8 (BitVec.toNat (dgB n 4294967296):Int),.int .u8 (BitVec.toNat (dgB n 16777216):Int),.int .u8 (BitVec.toNat (dgB n 65536):Int),.int .u8 (BitVec.toNat (dgB n 256):Int),.int .u8 (BitVec.toNat (dgB n 1):Int)] 179 (0,0))]:=H34.as kr;clear H34;refine rL [.v,.v] HL14 kr fun gs35 w35 H35=>?_;clear HL14;show WPL _ _ _ _ _ _;refine xo<|rS [.v] H35 kr fun gs36 w36 H36=>?_;clear H35;refine zJ [0,2,3,4,5,6] fun ρ6=>?_;have HK15:=H36.keep;clear H36;refine zc kr<|zf kr kr<|zw 0 kr<|wW ?_;have HL16:St w.heap.size w w36 [((gs2 0).b,Obj.cells #[.int .u8 (BitVec.toNat (dgB n 72057594037927936):Int),.int .u8 (BitVec.toNat (dgB n 281474976710656):Int),.int .u8 (BitVec.toNat (dgB n 1099511627776):Int),.int .u8 (BitVec.toNat (dgB n 4294967296):Int),.int .u8 (BitVec.toNat (dgB n 16777216):Int),.int .u8 (BitVec.toNat (dgB n 65536):Int),.int .u8 (BitVec.toNat (dgB n 256):Int),.int .u8 (BitVec.toNat (dgB n 1):Int)] 179 (0,0))]:=HK15.as kr;clear HK15;have hz_1: ∀(ρ:Env) (o:Oper) (w:World),o.op=.slice 179 (.tmp 3) none none none→Ins (ev ρ) [((.tmp 3),.pointer (some ⟨(gs2 0).b,0,none⟩))]→(execOp (ev ρ) o).run Tryz.prog w=.ok (.value (.slice (some ⟨(gs2 0).b,0,none⟩) 8 8)) w:=(fun ρ o w ho hi=>zdT (t:=179) (n:=8) (e:=5) (z:=1) kr kr (x:=(.tmp 3)) ((gs2 0).b) ho hi.1 w)
 refine rS [.o hz_1,.x (op:=.convert 80 9 (.tmp 17)) (ins:=[((.tmp 17),.slice (some ⟨(gs2 0).b,0,none⟩) 8 8)]) [(0,((gs2 0).b,Obj.cells #[.int .u8 (BitVec.toNat (dgB n 72057594037927936):Int),.int .u8 (BitVec.toNat (dgB n 281474976710656):Int),.int .u8 (BitVec.toNat (dgB n 1099511627776):Int),.int .u8 (BitVec.toNat (dgB n 4294967296):Int),.int .u8 (BitVec.toNat (dgB n 16777216):Int),.int .u8 (BitVec.toNat (dgB n 65536):Int),.int .u8 (BitVec.toNat (dgB n 256):Int),.int .u8 (BitVec.toNat (dgB n 1):Int)] 179 (0,0)))] (qM (t:=80) (t':=9) (e:=5) [(BitVec.toNat (dgB n 72057594037927936):Int),(BitVec.toNat (dgB n 281474976710656):Int),(BitVec.toNat (dgB n 1099511627776):Int),(BitVec.toNat (dgB n 4294967296):Int),(BitVec.toNat (dgB n 16777216):Int),(BitVec.toNat (dgB n 65536):Int),(BitVec.toNat (dgB n 256):Int),(BitVec.toNat (dgB n 1):Int)] kr kr kr (Rw.lit #[.int .u8 (BitVec.toNat (dgB n 72057594037927936):Int),.int .u8 (BitVec.toNat (dgB n 281474976710656):Int),.int .u8 (BitVec.toNat (dgB n 1099511627776):Int),.int .u8 (BitVec.toNat (dgB n 4294967296):Int),.int .u8 (BitVec.toNat (dgB n 16777216):Int),.int .u8 (BitVec.toNat (dgB n 65536):Int),.int .u8 (BitVec.toNat (dgB n 256):Int),.int .u8 (BitVec.toNat (dgB n 1):Int)] 8 (by rfl) (by unfold maxLen;omega))),.c (zjn (strOfNums ([(BitVec.toNat (dgB n 72057594037927936):Int),(BitVec.toNat (dgB n 281474976710656):Int),(BitVec.toNat (dgB n 1099511627776):Int),(BitVec.toNat (dgB n 4294967296):Int),(BitVec.toNat (dgB n 16777216):Int),(BitVec.toNat (dgB n 65536):Int),(BitVec.toNat (dgB n 256):Int),(BitVec.toNat (dgB n 1):Int)])) (by rw [strOfNums_size];show 8≤0x800000000000;omega)),.v] HL16 kr fun gs37 w37 H37=>?_;clear HL16;refine zn kr<|wV ?_;refine ⟨[.string (zb ((tl (strOfNums ([(BitVec.toNat (dgB n 72057594037927936):Int),(BitVec.toNat (dgB n 281474976710656):Int),(BitVec.toNat (dgB n 1099511627776):Int),(BitVec.toNat (dgB n 4294967296):Int),(BitVec.toNat (dgB n 16777216):Int),(BitVec.toNat (dgB n 65536):Int),(BitVec.toNat (dgB n 256):Int),(BitVec.toNat (dgB n 1):Int)]))).dropWhile (·==0)))],(.tmp (.string (zb ((tl (strOfNums ([(BitVec.toNat (dgB n 72057594037927936):Int),(BitVec.toNat (dgB n 281474976710656):Int),(BitVec.toNat (dgB n 1099511627776):Int),(BitVec.toNat (dgB n 4294967296):Int),(BitVec.toNat (dgB n 16777216):Int),(BitVec.toNat (dgB n 65536):Int),(BitVec.toNat (dgB n 256):Int),(BitVec.toNat (dgB n 1):Int)]))).dropWhile (·==0)))) kr .nil),?_,H37.below⟩;exact congrArg Value.string (congrArg zb (zjb n hn))
theorem zel (l:Bool)(s:ByteArray)(p:Option Addr)(n c m:Nat)(hm:m<0x10000000000000000):Fn Tryz.prog 104 #[.agg #[.bool l,.string s,.slice p n c],.int .u64 (m:Int)] (.string (zb (hd (frm l) m))):=by
 refine Fn.intro (c:=zl Tryz.f104) [.tmp 4] 29 Tryz.func104 kr kr kr fun w=>?_;have H0:=St.start w;refine rS [.b,.v] H0 kr fun gs1 w1 H1=>?_;clear H0;refine rS [.v] H1 kr fun gs2 w2 H2=>?_;clear H1;refine zc kr<|rS [.v,.l 0] H2 kr fun gs3 w3 H3=>?_;clear H2;refine Or.elim (Bool.eq_false_or_eq_true (l)).symm (fun hq1=>?_) (fun hq1=>?_)
 ·refine zZ 8 (v:=.bool l) (v':=.bool false) (za hq1) kr<|zf kr kr<|zh kr<|wW<|zc kr<|zi [0,1] kr kr<|rp [.v] H3 kr fun gs4 w4 H4=>wX [1] ?_;clear H3;by_cases hc1:(m:Nat)≤55
  ·refine rp [.E (.bool (decide ((m:Int)≤55))) (.bool true) (za (decide_eq_true (by omega)))] H4 kr fun gs5 w5 H5=>wX [] ?_;clear H4;refine zd<|zg kr kr<|rS [.v,.v,.E (.int .u8 (IntKind.u8.wrap ((m:Int)))) (.int .u8 (BitVec.toNat (BitVec.ofNat 8 m):Int)) (xQ m),.E (.int .u8 (IntKind.u8.wrap ((128)+((BitVec.toNat (BitVec.ofNat 8 m):Int))))) (.int .u8 (BitVec.toNat ((128:BitVec 8)+(BitVec.ofNat 8 m)):Int)) (vf (128:BitVec 8) (BitVec.ofNat 8 m)),.nw (fun b=>.slice (some ⟨b,0,none⟩) 1 1) #[.int .u8 (BitVec.toNat ((128:BitVec 8)+(BitVec.ofNat 8 m)):Int)] 5,.w fun nn=>.x (op:=.convert 80 9 (.tmp 15)) (ins:=[((.tmp 15),.slice (some ⟨(nn 1),0,none⟩) 1 1)]) [(1,((nn 1),Obj.cells #[.int .u8 (BitVec.toNat ((128:BitVec 8)+(BitVec.ofNat 8 m)):Int)] 5 (0,0)))] (qM (t:=80) (t':=9) (e:=5) [(BitVec.toNat ((128:BitVec 8)+(BitVec.ofNat 8 m)):Int)] kr kr kr (Rw.lit #[.int .u8 (BitVec.toNat ((128:BitVec 8)+(BitVec.ofNat 8 m)):Int)] 1 (by rfl) (by unfold maxLen;omega))),.v] H5 kr fun gs6 w6 H6=>?_;clear H5;refine zn kr<|wV ?_;refine ⟨[.string (strOfNums ([(BitVec.toNat ((128:BitVec 8)+(BitVec.ofNat 8 m)):Int)]))],(.tmp (.string (strOfNums ([(BitVec.toNat ((128:BitVec 8)+(BitVec.ofNat 8 m)):Int)]))) kr .nil),?_,H6.below⟩;exact congrArg Value.string (zd9 (f:=frm l) _ (by rw [hq1];rfl) m (by omega) (by rw [hq1];decide))
  ·refine rp [.E (.bool (decide ((m:Int)≤55))) (.bool false) (za (decide_eq_false (by omega)))] H4 kr fun gs7 w7 H7=>wX [] ?_;clear H4;refine zd<|zf kr kr<|zh kr<|wW<|rS [.v,.c (zbA m (by omega)),.v] H7 kr fun gs8 w8 H8=>?_;clear H7;refine rS [.v,.v,.v,.v,.E (.int .u8 (IntKind.u8.wrap ((ByteArray.size (zb (dg m)):Int)))) (.int .u8 (BitVec.toNat (BitVec.ofNat 8 (ByteArray.size (zb (dg m)))):Int)) (xQ (ByteArray.size (zb (dg m)))),.E (.int .u8 (IntKind.u8.wrap ((183)+((BitVec.toNat (BitVec.ofNat 8 (ByteArray.size (zb (dg m)))):Int))))) (.int .u8 (BitVec.toNat ((183:BitVec 8)+(BitVec.ofNat 8 (ByteArray.size (zb (dg m))))):Int)) (vf (183:BitVec 8) (BitVec.ofNat 8 (ByteArray.size (zb (dg m))))),.nw (fun b=>.slice (some ⟨b,0,none⟩) 1 1) #[.int .u8 (BitVec.toNat ((183:BitVec 8)+(BitVec.ofNat 8 (ByteArray.size (zb (dg m))))):Int)] 5,.w fun nn=>.x (op:=.convert 80 9 (.tmp 25)) (ins:=[((.tmp 25),.slice (some ⟨(nn 1),0,none⟩) 1 1)]) [(1,((nn 1),Obj.cells #[.int .u8 (BitVec.toNat ((183:BitVec 8)+(BitVec.ofNat 8 (ByteArray.size (zb (dg m))))):Int)] 5 (0,0)))] (qM (t:=80) (t':=9) (e:=5) [(BitVec.toNat ((183:BitVec 8)+(BitVec.ofNat 8 (ByteArray.size (zb (dg m))))):Int)] kr kr kr (Rw.lit #[.int .u8 (BitVec.toNat ((183:BitVec 8)+(BitVec.ofNat 8 (ByteArray.size (zb (dg m))))):Int)] 1 (by rfl) (by unfold maxLen;omega))),.v,.o (ins:=[((.tmp 26),.string (strOfNums ([(BitVec.toNat ((183:BitVec 8)+(BitVec.ofNat 8 (ByteArray.size (zb (dg m))))):Int)]))),((.tmp 27),.string (zb (dg m)))]) (v:=.string ((strOfNums ([(BitVec.toNat ((183:BitVec 8)+(BitVec.ofNat 8 (ByteArray.size (zb (dg m))))):Int)]))++(zb (dg m)))) (fun ρ o w ho hi=>qR (t:=9) (t':=9) (x:=(.tmp 26)) (y:=(.tmp 27)) (strOfNums ([(BitVec.toNat ((183:BitVec 8)+(BitVec.ofNat 8 (ByteArray.size (zb (dg m))))):Int)])) (zb (dg m)) w ho hi.1 hi.2.1 (by rw [strOfNums_size,zO];have:=jx m;show 1+_≤_;omega)),.v] H8 kr fun gs9 w9 H9=>?_;clear H8;refine zn kr<|wV ?_;refine ⟨[.string ((strOfNums ([(BitVec.toNat ((183:BitVec 8)+(BitVec.ofNat 8 (ByteArray.size (zb (dg m))))):Int)]))++(zb (dg m)))],(.tmp (.string ((strOfNums ([(BitVec.toNat ((183:BitVec 8)+(BitVec.ofNat 8 (ByteArray.size (zb (dg m))))):Int)]))++(zb (dg m)))) kr .nil),?_,H9.below⟩;exact congrArg Value.string (zea (f:=frm l) _ (by rw [hq1];rfl) m (by omega) (by rw [hq1];decide))
 ·refine zZ 8 (v:=.bool l) (v':=.bool true) (za hq1) kr<|zg kr kr<|rL [.v] H3 kr fun gs10 w10 H10=>?_;clear H3;refine wW<|zc kr<|zi [0,1] kr kr<|rp [.v] H10 kr fun gs11 w11 H11=>wX [1] ?_;clear H10;by_cases hc2:(m:Nat)≤55
  ·refine rp [.E (.bool (decide ((m:Int)≤55))) (.bool true) (za (decide_eq_true (by omega)))] H11 kr fun gs12 w12 H12=>wX [] ?_;clear H11;refine zd<|zg kr kr<|rS [.v,.v,.E (.int .u8 (IntKind.u8.wrap ((m:Int)))) (.int .u8 (BitVec.toNat (BitVec.ofNat 8 m):Int)) (xQ m),.E (.int .u8 (IntKind.u8.wrap ((192)+((BitVec.toNat (BitVec.ofNat 8 m):Int))))) (.int .u8 (BitVec.toNat ((192:BitVec 8)+(BitVec.ofNat 8 m)):Int)) (vf (192:BitVec 8) (BitVec.ofNat 8 m)),.nw (fun b=>.slice (some ⟨b,0,none⟩) 1 1) #[.int .u8 (BitVec.toNat ((192:BitVec 8)+(BitVec.ofNat 8 m)):Int)] 5,.w fun nn=>.x (op:=.convert 80 9 (.tmp 15)) (ins:=[((.tmp 15),.slice (some ⟨(nn 1),0,none⟩) 1 1)]) [(1,((nn 1),Obj.cells #[.int .u8 (BitVec.toNat ((192:BitVec 8)+(BitVec.ofNat 8 m)):Int)] 5 (0,0)))] (qM (t:=80) (t':=9) (e:=5) [(BitVec.toNat ((192:BitVec 8)+(BitVec.ofNat 8 m)):Int)] kr kr kr (Rw.lit #[.int .u8 (BitVec.toNat ((192:BitVec 8)+(BitVec.ofNat 8 m)):Int)] 1 (by rfl) (by unfold maxLen;omega))),.v] H12 kr fun gs13 w13 H13=>?_;clear H12;refine zn kr<|wV ?_;refine ⟨[.string (strOfNums ([(BitVec.toNat ((192:BitVec 8)+(BitVec.ofNat 8 m)):Int)]))],(.tmp (.string (strOfNums ([(BitVec.toNat ((192:BitVec 8)+(BitVec.ofNat 8 m)):Int)]))) kr .nil),?_,H13.below⟩;exact congrArg Value.string (zd9 (f:=frm l) _ (by rw [hq1];rfl) m (by omega) (by rw [hq1];decide))
  ·refine rp [.E (.bool (decide ((m:Int)≤55))) (.bool false) (za (decide_eq_false (by omega)))] H11 kr fun gs14 w14 H14=>wX [] ?_;clear H11;refine zd<|zf kr kr<|zh kr<|wW<|rS [.v,.c (zbA m (by omega)),.v] H14 kr fun gs15 w15 H15=>?_;clear H14;refine rS [.v,.v,.v,.v,.E (.int .u8 (IntKind.u8.wrap ((ByteArray.size (zb (dg m)):Int)))) (.int .u8 (BitVec.toNat (BitVec.ofNat 8 (ByteArray.size (zb (dg m)))):Int)) (xQ (ByteArray.size (zb (dg m)))),.E (.int .u8 (IntKind.u8.wrap ((247)+((BitVec.toNat (BitVec.ofNat 8 (ByteArray.size (zb (dg m)))):Int))))) (.int .u8 (BitVec.toNat ((247:BitVec 8)+(BitVec.ofNat 8 (ByteArray.size (zb (dg m))))):Int)) (vf (247:BitVec 8) (BitVec.ofNat 8 (ByteArray.size (zb (dg m))))),.nw (fun b=>.slice (some ⟨b,0,none⟩) 1 1) #[.int .u8 (BitVec.toNat ((247:BitVec 8)+(BitVec.ofNat 8 (ByteArray.size (zb (dg m))))):Int)] 5,.w fun nn=>.x (op:=.convert 80 9 (.tmp 25)) (ins:=[((.tmp 25),.slice (some ⟨(nn 1),0,none⟩) 1 1)]) [(1,((nn 1),Obj.cells #[.int .u8 (BitVec.toNat ((247:BitVec 8)+(BitVec.ofNat 8 (ByteArray.size (zb (dg m))))):Int)] 5 (0,0)))] (qM (t:=80) (t':=9) (e:=5) [(BitVec.toNat ((247:BitVec 8)+(BitVec.ofNat 8 (ByteArray.size (zb (dg m))))):Int)] kr kr kr (Rw.lit #[.int .u8 (BitVec.toNat ((247:BitVec 8)+(BitVec.ofNat 8 (ByteArray.size (zb (dg m))))):Int)] 1 (by rfl) (by unfold maxLen;omega))),.v,.o (ins:=[((.tmp 26),.string (strOfNums ([(BitVec.toNat ((247:BitVec 8)+(BitVec.ofNat 8 (ByteArray.size (zb (dg m))))):Int)]))),((.tmp 27),.string (zb (dg m)))]) (v:=.string ((strOfNums ([(BitVec.toNat ((247:BitVec 8)+(BitVec.ofNat 8 (ByteArray.size (zb (dg m))))):Int)]))++(zb (dg m)))) (fun ρ o w ho hi=>qR (t:=9) (t':=9) (x:=(.tmp 26)) (y:=(.tmp 27)) (strOfNums ([(BitVec.toNat ((247:BitVec 8)+(BitVec.ofNat 8 (ByteArray.size (zb (dg m))))):Int)])) (zb (dg m)) w ho hi.1 hi.2.1 (by rw [strOfNums_size,zO];have:=jx m;show 1+_≤_;omega)),.v] H15 kr fun gs16 w16 H16=>?_;clear H15;refine zn kr<|wV ?_;refine ⟨[.string ((strOfNums ([(BitVec.toNat ((247:BitVec 8)+(BitVec.ofNat 8 (ByteArray.size (zb (dg m))))):Int)]))++(zb (dg m)))],(.tmp (.string ((strOfNums ([(BitVec.toNat ((247:BitVec 8)+(BitVec.ofNat 8 (ByteArray.size (zb (dg m))))):Int)]))++(zb (dg m)))) kr .nil),?_,H16.below⟩;exact congrArg Value.string (zea (f:=frm l) _ (by rw [hq1];rfl) m (by omega) (by rw [hq1];decide))
theorem zem (m:Nat)(ih: ∀(l:Bool) (s:ByteArray) (p:Option Addr) (n c:Nat) (k:Fo),s.size≤0x800000000000→s.size+wtF k≤0x4000000000000000→k.cnt<m→FnP Tryz.prog 65 #[.agg #[.bool l,.string s,.slice p n c]] (fun w=>zq w.heap.size w p n k) (.int .u64 ((sz1 l s (szF k):Nat):Int)))(l:Bool)(s:ByteArray)(p:Option Addr)(n c:Nat)(k:Fo)(hs:s.size≤0x800000000000)(hw:s.size+wtF k≤0x4000000000000000)(hkm:k.cnt<m+1):FnP Tryz.prog 103 #[.agg #[.bool l,.string s,.slice p n c]] (fun w=>zq w.heap.size w p n k) (.int .u64 ((ByteArray.size s+szF k:Nat):Int)):=by
 refine FnP.intro (c:=zl Tryz.f103) [.tmp 2] 23 Tryz.func103 kr kr kr fun w hpre=>?_;have H0:=St.start w;have hn:=hpre.1;have hnm:=hpre.2.1;refine rS [.b,.v] H0 kr fun gs1 w1 H1=>?_;clear H0;refine rS [.v,.l 0,.v,.E (.int .u64 (IntKind.u64.wrap ((ByteArray.size s:Int)))) (.int .u64 (ByteArray.size s:Int)) (ze (ko (a:=ByteArray.size s) (by omega))),.v] H1 kr fun gs2 w2 H2=>?_;clear H1;refine zc kr<|rS [.v,.l 0,.v,.v] H2 kr fun gs3 w3 H3=>?_;clear H2;refine zj 0 kr ?_;have HL1:St w.heap.size w w3 [((gs1 0).b,Obj.cells #[.bool l,.string s,.slice p n c] 73 (0,0))]:=H3.as kr;clear H3;have HD2:St w.heap.size w w3 []:=HL1.sub (List.Sublist.cons _ List.Sublist.slnil);refine zz kr (fun mz ρ ww=> ∃(i:Nat) (r:Fo) (a:Nat),n-i=mz∧(FoR w.heap.size w p i r)∧(i+Fo.len r=n)∧(Fo.cnt r≤Fo.cnt k)∧(a+wtF r≤0x4000000000000000)∧(s.size+szF k=a+szF r)∧St w.heap.size w ww []∧Is [(0,.agg #[.bool l,.string s,.slice p n c]),(1,.pointer (some ⟨(gs1 0).b,0,none⟩)),(2,wZ),(3,.int .u64 (a:Int)),(11,.slice p n c),(12,.int .i64 (n:Int)),(13,.int .i64 (i:Int))] ρ) (n-0) ⟨0,k,(ByteArray.size s),rfl,(zq.start hpre),(by have hn0:=(hpre).1;omega),(Nat.le_refl _),hw,rfl,HD2,(Is.of ⟨kr,kr,kr,kr,kr,kr,kr,trivial⟩)⟩ ?_;clear HD2;rintro _ _ w4 ⟨i,r,a,rfl,hR,hN,hcn,hwt,hd,H4,_,rfl⟩;by_cases hc3:(i:Nat)<n
 ·refine rS [.E (.bool (decide ((i:Int)<(n:Int)))) (.bool true) (za (decide_eq_true (by omega)))] H4 kr fun gs5 w5 H5=>?_;clear H4;refine zc kr<|zg kr kr<|zh kr<|wW<|zc kr<|zj 1 kr ?_;obtain ⟨l1,s1,k1,r1,b1,off1,C1,T1,fz1,p1,n1,c1,hr1,hp1,hb1,hh1,hs1,hx1,hz1,hk1,hR1,hN1⟩:=FoR.open hR hN (by omega);refine rS [.o (ins:=[((.tmp 11),.slice p n c),((.tmp 13),.int .i64 (i:Int))]) (v:=.pointer (some ⟨b1,off1+i*3,none⟩)) (fun ρ o w ho hi=>jX (kd:=.i64) (t:=71) (e:=73) (bytes:=48) kr (x:=(.tmp 11)) (y:=(.tmp 13)) b1 off1 n c i hp1 ho hi.1 hi.2.1 (by omega) w),.fp (off:=off1+i*3) (n:=3) (W:=#[.bool l1,.string s1,.slice p1 n1 c1]) hh1 hb1 hs1 hx1,.a,.s 0] H5 kr fun gs6 w6 H6=>?_;clear H5;have hcn1:=hcn;rw [hr1] at hcn1;simp only [Fo.cnt] at hcn1;have hwt1:=hwt;rw [hr1] at hwt1;simp only [wtF] at hwt1;have hsl1:=vm k1;have hsm1:=zbx l1 s1 (szF k1);refine rL [.v,.l 0,.cp (pre:=fun w=>zq w.heap.size w p1 n1 k1) (ih l1 s1 p1 n1 c1 k1 hz1 (by omega) (by omega)) [] (fun w hb hd=>(zq.call hk1 hb)),.E (.int .u64 (IntKind.u64.wrap ((a:Int)+((sz1 l1 s1 (szF k1):Nat):Int)))) (.int .u64 ((a+(sz1 l1 s1 (szF k1)):Nat):Int)) (ze (zdJ (a:=a) (b:=sz1 l1 s1 (szF k1)) (by omega))),.v] H6 kr fun gs7 w7 H7=>?_;clear H6;refine wW<|zJ [0,1,2,3,5,11,12,13,14] fun ρ1=>?_;have HK4:=H7.keep;clear H7;refine rL [.E (.int .i64 (IntKind.i64.wrap ((i:Int)+1))) (.int .i64 ((i+1:Nat):Int)) (ze (zm (a:=i) (b:=1) (by omega))),.v] HK4 kr fun gs8 w8 H8=>?_;clear HK4;have HL5:St w.heap.size w w8 [((gs6 2).b,Obj.cells #[.bool l1,.string s1,.slice p1 n1 c1] 73 (0,0))]:=H8.as kr;clear H8;have HD6:St w.heap.size w w8 []:=HL5.sub (List.Sublist.cons _ List.Sublist.slnil);show ∃m,_∧_;exact ⟨_,(by omega),(i+1),r1,(a+sz1 l1 s1 (szF k1)),rfl,hR1,hN1,(by omega),(by omega),(by rw [hd,hr1];simp only [szF];omega),HD6,(Is.of ⟨kr,kr,kr,kr,kr,kr,kr,trivial⟩)⟩
 ·refine rS [.E (.bool (decide ((i:Int)<(n:Int)))) (.bool false) (za (decide_eq_false (by omega)))] H4 kr fun gs9 w9 H9=>?_;clear H4;refine zc kr<|zf kr kr<|zw 0 kr<|wW<|rS [.v,.v] H9 kr fun gs10 w10 H10=>?_;clear H9;refine zn kr<|wV ?_;refine ⟨[.int .u64 (a:Int)],(.tmp (.int .u64 (a:Int)) kr .nil),?_,H10.below⟩;refine ze ?_;rw [hd,FoR.done hN (by omega)];rfl
theorem zjo (m:Nat)(ih: ∀(l:Bool) (s:ByteArray) (p:Option Addr) (n c:Nat) (k:Fo),s.size≤0x800000000000→s.size+wtF k≤0x4000000000000000→k.cnt<m→FnP Tryz.prog 65 #[.agg #[.bool l,.string s,.slice p n c]] (fun w=>zq w.heap.size w p n k) (.int .u64 ((sz1 l s (szF k):Nat):Int)))(l:Bool)(s:ByteArray)(p:Option Addr)(n c:Nat)(k:Fo)(hs:s.size≤0x800000000000)(hw:s.size+wtF k≤0x4000000000000000)(hkm:k.cnt<m+1):FnP Tryz.prog 65 #[.agg #[.bool l,.string s,.slice p n c]] (fun w=>zq w.heap.size w p n k) (.int .u64 ((sz1 l s (szF k):Nat):Int)):=by
 refine FnP.intro (c:=zl Tryz.f65) [.tmp 2] 16 Tryz.func65 kr kr kr fun w hpre=>?_;have H0:=St.start w;have hn:=hpre.1;have hnm:=hpre.2.1;refine rS [.b,.v] H0 kr fun gs1 w1 H1=>?_;clear H0;refine zc kr<|rS [.v,.l 0,.c (zek s)] H1 kr fun gs2 w2 H2=>?_;clear H1;refine Or.elim (Bool.eq_false_or_eq_true (qp s)).symm (fun hq1=>?_) (fun hq1=>?_)
 ·refine zZ 6 (v:=.bool (qp s)) (v':=.bool false) (za hq1) kr<|zf kr kr<|zh kr<|wW<|rS [.l 0,.cp (pre:=fun w=>zq w.heap.size w p n k) (zem m ih l s p n c k (by omega) (by omega) (by omega)) [] (fun w hb hd=>(zq.call hpre hb)),.v] H2 kr fun gs3 w3 H3=>?_;clear H2;have hhl:=xx (frm l) (ByteArray.size s+szF k);have hsz:=vm k;have hhs:ByteArray.size (zb (hd (frm l) (ByteArray.size s+szF k)))≤9:=hhl.2;refine rS [.l 0,.v,.c (zel l s p n c (ByteArray.size s+szF k) (by omega)),.v,.E (.int .u64 (IntKind.u64.wrap ((ByteArray.size (zb (hd (frm l) (ByteArray.size s+szF k))):Int)))) (.int .u64 (ByteArray.size (zb (hd (frm l) (ByteArray.size s+szF k))):Int)) (ze (ko (a:=ByteArray.size (zb (hd (frm l) (ByteArray.size s+szF k)))) (by omega))),.v,.E (.int .u64 (IntKind.u64.wrap ((ByteArray.size (zb (hd (frm l) (ByteArray.size s+szF k))):Int)+((ByteArray.size s+szF k:Nat):Int)))) (.int .u64 (((ByteArray.size (zb (hd (frm l) (ByteArray.size s+szF k))))+(ByteArray.size s+szF k):Nat):Int)) (ze (zdJ (a:=ByteArray.size (zb (hd (frm l) (ByteArray.size s+szF k)))) (b:=ByteArray.size s+szF k) (by omega))),.v] H3 kr fun gs4 w4 H4=>?_;clear H3;refine zn kr<|wV ?_;refine ⟨[.int .u64 (((ByteArray.size (zb (hd (frm l) (ByteArray.size s+szF k))))+(ByteArray.size s+szF k):Nat):Int)],(.tmp (.int .u64 (((ByteArray.size (zb (hd (frm l) (ByteArray.size s+szF k))))+(ByteArray.size s+szF k):Nat):Int)) kr .nil),?_,H4.below⟩;refine ze ?_;unfold sz1;rw [if_neg (by rw [hq1];decide)];rfl
 ·refine zZ 6 (v:=.bool (qp s)) (v':=.bool true) (za hq1) kr<|zg kr kr<|rS [.v] H2 kr fun gs5 w5 H5=>?_;clear H2;refine zn kr<|wV ?_;refine ⟨[.int .u64 1],(.tmp (.int .u64 1) kr .nil),?_,H5.below⟩;refine ze ?_;unfold sz1;rw [if_pos hq1];rfl
theorem zen (l:Bool)(s:ByteArray)(p:Option Addr)(n c:Nat)(k:Fo)(hs:s.size≤0x800000000000)(hw:s.size+wtF k≤0x4000000000000000):FnP Tryz.prog 65 #[.agg #[.bool l,.string s,.slice p n c]] (fun w=>zq w.heap.size w p n k) (.int .u64 ((sz1 l s (szF k):Nat):Int)):=by
 have key: ∀(m:Nat) (l:Bool) (s:ByteArray) (p:Option Addr) (n c:Nat) (k:Fo),s.size≤0x800000000000→s.size+wtF k≤0x4000000000000000→k.cnt<m→FnP Tryz.prog 65 #[.agg #[.bool l,.string s,.slice p n c]] (fun w=>zq w.heap.size w p n k) (.int .u64 ((sz1 l s (szF k):Nat):Int)):=by
  intro m
  induction m with
  | zero=>intros;omega
  | succ m ih=>intro l s p n c k hs hw hkm;exact zjo m ih l s p n c k hs hw hkm
 exact key (k.cnt+1) l s p n c k hs hw (by omega)
theorem zjp (l:Bool)(s:ByteArray)(p:Option Addr)(n c:Nat)(k:Fo)(hs:s.size≤0x800000000000)(hw:s.size+wtF k≤0x4000000000000000):FnP Tryz.prog 103 #[.agg #[.bool l,.string s,.slice p n c]] (fun w=>zq w.heap.size w p n k) (.int .u64 ((ByteArray.size s+szF k:Nat):Int)):=zem k.cnt (fun l s p n c k hs hw _=>zen l s p n c k hs hw) l s p n c k hs hw (by omega)
inductive BE (p:Nat)(T e:TypeId):List UInt8→List (Nat×Obj)→Prop
 | nil (a:Option Addr):a=none∨a=some ⟨p,0,none⟩→BE p T e [] [(p,.cells #[.pointer a,.slice none 0 0] T (0,0))]
 | row (a:Option Addr) (b n cap:Nat) (cur:Array Value) (out:List UInt8):a=none∨a=some ⟨p,0,none⟩→n=out.length→Rw 1 cur cap n (cellsB out)→
  BE p T e out [(b,.cells cur e (0,0)),(p,.cells #[.pointer a,.slice (some ⟨b,0,none⟩) n cap] T (0,0))]
def FnB (P:Program)(f:Nat)(args:Array Value)(v:Value)(p:Nat)(T e:TypeId)(out out':List UInt8)(pre:World→Prop):Prop:=
 ∀(w0 w:World) (L E:List (Nat×Obj)),BE p T e out E→pre w0→St w0.heap.size w0 w (E++L)→Calls P f args w fun r w'=> ∃E',r=.returned v∧BE p T e out' E'∧St w0.heap.size w0 w' (E'++L)
def xU (P:Program)(f:Nat)(args:Array Value)(v:Value)(p:Nat)(T e:TypeId)(out out':List UInt8)(pre:World→Prop):Prop:=
 ∀(w0 w:World) (E:List (Nat×Obj)),BE p T e out E→pre w0→St w0.heap.size w0 w E→Calls P f args w fun r w'=> ∃E',r=.returned v∧BE p T e out' E'∧St w0.heap.size w0 w' E'
section
variable {P:Program}{N:Nat}{ops:Array Oper}{i:Nat}{r:List Nat}{K:Env→World→Prop}{ρ:Env}{w:World}{w0:World}{l E:List (Nat×Obj)}
theorem zbB (HS:St w0.heap.size w0 w (l++E)){p:Nat}{T e:TypeId}{out:List UInt8}(hE:BE p T e out E)(d:Option Nat)(f:Nat)(args:Array Value)(v:Value)(out':List UInt8)(pre:World→Prop)(hc:FnB P f args v p T e out out' pre)(hp:pre w0)
 (h:opv P ops i ρ w=some (d,true,.ok (.enter f args) w)) (hd:dOK d N=true)
 (kk: ∀E' w',BE p T e out' E'→St w0.heap.size w0 w' (l++E')→WPs P N ops K r (zt ρ d v) w'):WPs P N ops K (i::r) ρ w:=by
 obtain ⟨o,ho,rfl,hw,hr⟩:=yg h;refine WPo.run ho hw fun a ha=>?_;rw [hr,Oper.upon_enter];refine (hc w0 w l E hE hp (HS.perm List.perm_append_comm)).mono ?_;rintro _ w' ⟨E',rfl,hE',HS'⟩;exact ⟨_,ha.put _ (zX hd) v,kk E' w' hE' (HS'.perm List.perm_append_comm)⟩
theorem zbC (HS:St w0.heap.size w0 w E){p:Nat}{T e:TypeId}{out:List UInt8}(hE:BE p T e out E)(d:Option Nat)(f:Nat)(args:Array Value)(v:Value)(out':List UInt8)(pre:World→Prop)(hc:xU P f args v p T e out out' pre)(hp:pre w0)
 (h:opv P ops i ρ w=some (d,true,.ok (.enter f args) w)) (hd:dOK d N=true)
 (kk: ∀E' w',BE p T e out' E'→St w0.heap.size w0 w' E'→WPs P N ops K r (zt ρ d v) w'):WPs P N ops K (i::r) ρ w:=by
 obtain ⟨o,ho,rfl,hw,hr⟩:=yg h;refine WPo.run ho hw fun a ha=>?_;rw [hr,Oper.upon_enter];refine (hc w0 w E hE hp HS).mono ?_;rintro _ w' ⟨E',rfl,hE',HS'⟩;exact ⟨_,ha.put _ (zX hd) v,kk E' w' hE' HS'⟩
theorem FnB.intro {f:Nat}{fn:Func}{c:Code}(rs:List ResultVar)(N:Nat){args:Array Value}{v:Value}{p:Nat}{T e:TypeId}{out out':List UInt8}{pre:World→Prop}(hf:P.funcs[f]? =some fn)(hb:fn.body=some c)(hr:fn.results.toList=rs)(hn:args.size+(fn.ntmps-args.size)=N)
 (h: ∀w0 w L E,BE p T e out E→pre w0→St w0.heap.size w0 w (E++L)→WP P N c (qf P rs fun v' w'=>v'=v∧∃E',BE p T e out' E'∧St w0.heap.size w0 w' (E'++L)) (ini args) w):FnB P f args v p T e out out' pre:=fun w0 w L E hE hp HS=>
 (ql hf hb hr hn (h w0 w L E hE hp HS)).mono fun _ w' ⟨v',he,hv,E',h1,h2⟩=>⟨E',by rw [he,hv],h1,h2⟩
theorem xU.intro {f:Nat}{fn:Func}{c:Code}(rs:List ResultVar)(N:Nat){args:Array Value}{v:Value}{p:Nat}{T e:TypeId}{out out':List UInt8}{pre:World→Prop}(hf:P.funcs[f]? =some fn)(hb:fn.body=some c)(hr:fn.results.toList=rs)(hn:args.size+(fn.ntmps-args.size)=N)
 (h: ∀w0 w E,BE p T e out E→pre w0→St w0.heap.size w0 w E→WP P N c (qf P rs fun v' w'=>v'=v∧∃E',BE p T e out' E'∧St w0.heap.size w0 w' E') (ini args) w):xU P f args v p T e out out' pre:=fun w0 w E hE hp HS=>
 (ql hf hb hr hn (h w0 w E hE hp HS)).mono fun _ w' ⟨v',he,hv,E',h1,h2⟩=>⟨E',by rw [he,hv],h1,h2⟩
def uf (t u:TypeId)(s x:Operand):Op:=.call { callee:=.builtin .append,args:=#[s,x],argTypes:=#[t,u] }
theorem zeo {P:Program}{ρ:Env}{w w':World}{o:Oper}{t u:TypeId}{s x:Operand}{vs v':Value}{tx:ByteArray}(hop:o.op=uf t u s x)(hs:ev ρ s=vs)(hx:ev ρ x=.string tx)
 (hrun:(Builtin.append_ #[t,u] o.type #[vs,.string tx]).run P w=.ok v' w'):(execOp (ev ρ) o).run P w=.ok (.value v') w':=by
 unfold execOp;simp only [hop,uf,resolve,invoke,builtin,Sem.run_bind,Sem.run_pure,Result.andThen_ok,List.map_toArray,List.map_cons,List.map_nil,hs,hx,hrun]
theorem zjq (HS:St w0.heap.size w0 w l)(d:Option Nat)(t u e:TypeId)(s x:Operand)(j b n cap:Nat)(cur:Array Value)(xs:List UInt8)(tx:ByteArray)(l':Nat→Array Value→List (Nat×Obj))
 (h:opk ops i ρ=some (d,true,uf t u s x)) (hd:dOK d N=true) (ht:ye P t=some (e,1,1)) (hu':P.underlying u=some .string)
 (hs:ev ρ s=.slice (some ⟨b,0,none⟩) n cap) (hj:l[j]? =some (b,.cells cur e (0,0))) (hr:Rw 1 cur cap n (cellsB xs)) (hx:ev ρ x=.string tx) (hm:n+tx.size≤0x800000000000)
 (hl': ∀b' cur',l.set j (b',.cells cur' e (0,0))=l' b' cur')
 (kk: ∀b' cap' cur' w',St w0.heap.size w0 w' (l' b' cur')→Rw 1 cur' cap' (n+tx.size) (cellsB (xs++tl tx))→WPs P N ops K r (zt ρ d (.slice (some ⟨b',0,none⟩) (n+tx.size) cap')) w'):WPs P N ops K (i::r) ρ w:=by
 obtain ⟨o,ho,rfl,hw,hop⟩:=zI h;obtain ⟨it,z,hu,hi,hz,hsz,hby,hzs,h0⟩:=yY ht;have hg:=HS.get j hj;have hcx:Lib.strCells tx=cellsB (tl tx):=rfl;have hxn:xs.length=n:=by have:=hr.len;rw [qo] at this;omega
 have hlen:(cellsB (xs++tl tx)).length=(n+tx.size)*1:=by rw [qo,List.length_append,zy];omega
 have hcsz:=hr.sz;by_cases hroom:n+tx.size≤cap
 ·have hrun:=Lib.run_append_room_string (P:=P) w t u o.type e it hu hu' hi hsz b n cap cur hg tx hroom (by omega);refine WPo.run ho hw fun a ha=>?_;have hex:(execOp (ev ρ) o).run P w=.ok (.value (.slice (some ⟨b,0,none⟩) (n+tx.size) cap)) (w.setRow b (cur.toList.take n++Lib.strCells tx++cur.toList.drop (n+tx.size)).toArray):=by
   unfold execOp;simp only [hop,uf,resolve,invoke,builtin,Sem.run_bind,Sem.run_pure,Result.andThen_ok,List.map_toArray,List.map_cons,List.map_nil,hs,hx,hrun]
  rw [hex,Oper.upon_value];have HS':=HS.store j (C':=(cur.toList.take n++Lib.strCells tx++cur.toList.drop (n+tx.size)).toArray) hj;rw [hl'] at HS';refine ⟨_,ha.put _ (zX hd) _,kk b cap _ _ HS' ⟨hlen,hroom,hr.max,?_,?_⟩⟩
  ·have h1:cur.toList.take n=cellsB xs:=by have:=hr.take;rwa [Nat.mul_one] at this
   rw [h1,hcx,←xR,←hlen];exact List.take_left
  ·simp only [List.size_toArray,List.length_append,List.length_take,List.length_drop,Array.length_toList,Lib.strCells_length];omega
 ·have holds: ∀q v,(cellsB xs)[q]? =some v→w.cell? ((⟨b,0,none⟩:Addr).add q)=some v:=fun q v hq=>by
   have hql:q<n:=by rw [←hxn,←qo];exact (List.getElem?_eq_some_iff.1 hq).1
   rw [yX,Nat.zero_add];simp [World.cell?,hg,hr.get q (by omega),hq]
  have hrun:=Lib.run_append_grow_string (P:=P) w t u o.type e it z hu hu' hi hz ⟨b,0,none⟩ n cap (cellsB xs) (by rw [qo,hsz];omega) holds tx (by omega) (by omega) (by rw [hby];exact growslice_fits (by omega) (by omega));refine WPo.run ho hw fun a ha=>?_;rw [zeo hop hs hx hrun,Oper.upon_value];have hgr:w.grownBy (w.drew.alloc (.cells ((cellsB xs).toArray++(Lib.strCells tx).toArray++Builtin.zeroCells z.cells (grownCap w (n+tx.size) cap e-(n+tx.size))) e)) (some b):=
   ⟨rfl,rfl,rfl,by simp,fun k hk _=>Go.heap_alloc_old w.drew _ hk⟩
  have HS':=HS.grown j hj hgr (.inr rfl) (heap_alloc_new w.drew _);rw [hl'] at HS';have hge:=grownCap_ge w (n+tx.size) cap e;refine ⟨_,ha.put _ (zX hd) _,kk _ (grownCap w (n+tx.size) cap e) _ _ HS' ⟨hlen,hge,grownCap_le_maxLen w (n+tx.size) cap e (by unfold maxLen;omega),?_,?_⟩⟩
  ·simp only [Array.toList_append];rw [hcx];show List.take _ (cellsB xs++cellsB (tl tx)++_)=_;rw [←xR,←hlen];exact List.take_left
  ·simp only [Array.size_append,List.size_toArray,size_zeroCells,hzs,qo,Lib.strCells_length];omega
theorem zjr (HS:St w0.heap.size w0 w l)(d:Option Nat)(t u e:TypeId)(s x:Operand)(tx:ByteArray)
 (h:opk ops i ρ=some (d,true,uf t u s x)) (hd:dOK d N=true) (ht:ye P t=some (e,1,1)) (hu':P.underlying u=some .string)
 (hs:ev ρ s=.slice none 0 0) (hx:ev ρ x=.string tx) (h0:0<tx.size) (hm:tx.size≤0x800000000000)
 (kk: ∀b' cap' cur' w',St w0.heap.size w0 w' ((b',.cells cur' e (0,0))::l)→Rw 1 cur' cap' tx.size (cellsB (tl tx))→WPs P N ops K r (zt ρ d (.slice (some ⟨b',0,none⟩) tx.size cap')) w'):WPs P N ops K (i::r) ρ w:=by
 obtain ⟨o,ho,rfl,hw,hop⟩:=zI h;obtain ⟨it,z,hu,hi,hz,hsz,hby,hzs,h0'⟩:=yY ht;have hcx:Lib.strCells tx=cellsB (tl tx):=rfl;have hrun:=Go.run_append_nil_string (P:=P) w t u o.type e it z hu hu' hi hz tx h0 (by omega) (by rw [hby];omega);refine WPo.run ho hw fun a ha=>?_;rw [zeo hop hs hx hrun,Oper.upon_value];have hge:=grownCap_ge w tx.size 0 e;have e1:(tx.data.map (fun b=>Value.int .u8 b.toNat)++Builtin.zeroCells z.cells (grownCap w tx.size 0 e-tx.size)).toList=cellsB (tl tx)++(Builtin.zeroCells z.cells (grownCap w tx.size 0 e-tx.size)).toList:=by
  unfold cellsB tl;simp
 refine ⟨_,ha.put _ (zX hd) _,kk _ (grownCap w tx.size 0 e) _ _ (HS.drew.alloc _) ⟨by rw [qo,zy,Nat.mul_one],hge,grownCap_le_maxLen w tx.size 0 e (by unfold maxLen;omega),?_,?_⟩⟩
 ·rw [e1,Nat.mul_one,List.take_append_of_le_length (by rw [qo,zy];exact Nat.le_refl _),List.take_of_length_le (by rw [qo,zy];exact Nat.le_refl _)]
 ·rw [←Array.length_toList,e1,List.length_append,qo,zy,Array.length_toList,size_zeroCells,hzs];omega
theorem zep {B:Nat}(HS:St B w0 w l)(d:Option Nat)(t t' tp:TypeId)(x:Operand)(j b:Nat)(C:Array Value)(T:TypeId)(h:opk ops i ρ=some (d,true,.convert t t' x))(hd:dOK d N=true)(hx:ev ρ x=.pointer (some ⟨b,0,none⟩))(hj:l[j]? =some (b,.cells C T (0,0)))
 (ht:P.underlying t=some (.pointer tp)) (ht':P.underlying t'=some .unsafePointer) (hz:((P.info? tp).map fun i=>Nat.blt 0 i.size)=some true) (hC:0<C.size) (kk:WPs P N ops K r (zt ρ d (.pointer (some ⟨b,0,none⟩))) w):WPs P N ops K (i::r) ρ w:=
 vN d _ _ w h hd (fun o ho=>by
  obtain ⟨it,hi,hs⟩:=Option.map_eq_some_iff.1 hz;have hsh:w.shape? b=some (T,C.size):=by unfold World.shape?;rw [HS.get j hj]
  have:=Lib.run_to_unsafe (P:=P) w (src:=t) (dst:=t') ⟨b,0,none⟩ ht ht' hi (by have:=Nat.le_of_ble_eq_true hs;omega) hsh hC;unfold execOp
  simp only [ho,hx,Sem.run_bind,this,Result.andThen_ok];rfl) kk
theorem zeq {B:Nat}(HS:St B w0 w l)(d:Option Nat)(t t' tp:TypeId)(x:Operand)(j b:Nat)(C:Array Value)(T:TypeId)(h:opk ops i ρ=some (d,true,.convert t t' x))(hd:dOK d N=true)(hx:ev ρ x=.pointer (some ⟨b,0,none⟩))(hj:l[j]? =some (b,.cells C T (0,0)))
 (ht:P.underlying t=some .unsafePointer) (ht':P.underlying t'=some (.pointer tp)) (hz:(P.info? tp).isSome=true) (hl:liesAt P P.depth T (C.size / P.cellsOf T) 0 tp 1=true) (kk:WPs P N ops K r (zt ρ d (.pointer (some ⟨b,0,none⟩))) w):WPs P N ops K (i::r) ρ w:=
 vN d _ _ w h hd (fun o ho=>by
  obtain ⟨it,hi⟩:=Option.isSome_iff_exists.1 hz;have hsh:w.shape? b=some (T,C.size):=by unfold World.shape?;rw [HS.get j hj]
  have:=Lib.run_from_unsafe (P:=P) w (src:=t) (dst:=t') ⟨b,0,none⟩ ht ht' hi hsh hl;unfold execOp
  simp only [ho,hx,Sem.run_bind,this,Result.andThen_ok];rfl) kk
theorem zer {t tp t':TypeId}(ht:P.underlying t=some (.pointer tp))(hz:(P.info? tp).isSome=true){x y:Operand}{o:Oper}(a:Addr)(ho:o.op=.binOp .neq t x y t')(hx:ev ρ x=.pointer (some a))(hy:ev ρ y=.pointer (some a)):
 ∀w,(execOp (ev ρ) o).run P w=.ok (.value (.bool false)) w:=fun w=>by
 obtain ⟨it,hi⟩:=Option.isSome_iff_exists.1 hz;have:=Lib.run_neq_ptr_same (P:=P) w a ht hi;unfold execOp;simp [ho,hx,hy,eqGuard,this]
end
def qq (w0:World)(p:Nat)(T e:TypeId)(out':List UInt8)(bx:Nat×Obj)(E:List (Nat×Obj))(q:Nat):(Nat→Bool)→(Nat→D2.Gh)→World→Prop:=fun L _ w=>
 bif L q then (∃E',BE p T e out' E'∧St w0.heap.size w0 w ([bx]++E')) else St w0.heap.size w0 w ([bx]++E)
section
variable {P:Program}{ops:Array Oper}{R:(Nat→D2.Gh)→Env}{i:Nat}{d:Option Nat}{w0:World}{p:Nat}{T e:TypeId}{out':List UInt8}{bx:Nat×Obj}{E:List (Nat×Obj)}{q:Nat}
theorem zes {L:Nat→Bool}(h:Nat.beq q i=false):D2.put1 L i q=L q:=by unfold D2.put1;rw [h];rfl
theorem qq.keep (h:Nat.beq q i=false){L:Nat→Bool}{g g':Nat→D2.Gh}{w:World}(hp:qq w0 p T e out' bx E q L g w):qq w0 p T e out' bx E q (D2.put1 L i) g' w:=by
 unfold qq at hp ⊢;rw [zes h];exact hp
theorem qq.cases {L:Nat→Bool}{g:Nat→D2.Gh}{w:World}(hp:qq w0 p T e out' bx E q L g w):∃E',St w0.heap.size w0 w ([bx]++E')∧((∀w',St w0.heap.size w0 w' ([bx]++E')→qq w0 p T e out' bx E q L g w')):=by
 unfold qq at hp ⊢;cases hl:L q with
 | false=>rw [hl] at hp;exact ⟨E,hp,fun w' h=>h⟩
 | true=>rw [hl] at hp;obtain ⟨E',h1,h2⟩:=hp;exact ⟨E',h2,fun w' h=>⟨E',h1,h⟩⟩
theorem zjs {V:Value}(hq:Nat.beq q i=false)(h: ∀g w,opv P ops i (R g) w=some (d,true,.ok (.value V) w)):D2.Gives P ops R (qq w0 p T e out' bx E q) i d (fun _=>V):=D2.gv_val (fun _ _ _ hp=>hp.keep hq) h
theorem zet {C:Array Value}{T':TypeId}{t:TypeId}{x:Operand}(hq:Nat.beq q i=false)(h: ∀g,opk ops i (R g)=some (d,true,.load t x))(hx: ∀g,ev (R g) x=.pointer (some ⟨bx.1,0,none⟩))(hb:bx.2=.cells C T' (0,0))(ht:aggSize P t=some C.size):D2.Gives P ops R (qq w0 p T e out' bx E q) i d (fun _=>.agg C):=D2.gives_of fun L g w hp hN=>by
 obtain ⟨o,ho,hd,hw,hop⟩:=zI (h g);obtain ⟨E',hS,_⟩:=hp.cases;have hh:w.heap[bx.1]? =some (.cells C T' (0,0)):=by rw [←hb];exact hS.get 0 rfl
 have:=jS (P:=P) (w:=w) (off:=0) ht hh (by omega);have e1:C.extract 0 (0+C.size)=C:=by simp
 rw [e1] at this;have e2:(execOp (ev (R g)) o).run P w=.ok (.value (.agg C)) w:=by simp [execOp,hop,Instr.loadAt,Instr.sureAddr,hx g,this]
 exact ⟨o,ho,hd,.inr ⟨hw,by rw [e2];exact ⟨g i,rfl,by rw [D2.setN_self];exact hp.keep hq⟩⟩⟩
theorem zeu {V:Value}{f:Nat}{args:Array Value}{pr:World→Prop}(hq:Nat.beq q i=false)(hc:FnP P f args pr V)(hpr: ∀w,Below w0.heap.size w0 w→pr w)(h: ∀g w,opv P ops i (R g) w=some (d,true,.ok (.enter f args) w)):D2.Gives P ops R (qq w0 p T e out' bx E q) i d (fun _=>V):=D2.gives_of fun L g w hp hN=>by
 obtain ⟨o,ho,hd,hw,hr⟩:=yg (h g w);obtain ⟨E',hS,hk⟩:=hp.cases;exact ⟨o,ho,hd,.inr ⟨hw,by rw [hr];exact (hc w (hpr w hS.below)).mono fun e w' ⟨he,hb⟩=>⟨V,he,g i,rfl,by rw [D2.setN_self];exact (hk w' (hS.call hb)).keep hq⟩⟩⟩
theorem zjt {V:Value}{f:Nat}{args:Array Value}(hq:Nat.beq q i=false)(hc:Fn P f args V)(h: ∀g w,opv P ops i (R g) w=some (d,true,.ok (.enter f args) w)):D2.Gives P ops R (qq w0 p T e out' bx E q) i d (fun _=>V):=
 zeu (pr:=fun _=>True) hq (fun w _=>hc w) (fun _ _=>trivial) h
theorem zju {V:Value}{f:Nat}{args:Array Value}{out:List UInt8}(hq:q=i)(hE:BE p T e out E)(hc:FnB P f args V p T e out out' (fun _=>True))(h: ∀g w,opv P ops i (R g) w=some (d,true,.ok (.enter f args) w)):D2.Gives P ops R (qq w0 p T e out' bx E q) i d (fun _=>V):=D2.gives_of fun L g w hp hN=>by
 subst hq;obtain ⟨o,ho,hd,hw,hr⟩:=yg (h g w);have hS:St w0.heap.size w0 w ([bx]++E):=by unfold qq at hp;rw [hN.1] at hp;exact hp
 refine ⟨o,ho,hd,.inr ⟨hw,?_⟩⟩;rw [hr];refine (hc w0 w [bx] E hE trivial (hS.perm List.perm_append_comm)).mono ?_;rintro _ w' ⟨E',rfl,hE',hS'⟩;refine ⟨V,rfl,g q,rfl,?_⟩;unfold qq;rw [show D2.put1 L q q=true from D2.put1_self L q];exact ⟨E',hE',hS'.perm List.perm_append_comm⟩
theorem qq.done {L:Nat→Bool}{g:Nat→D2.Gh}{w:World}(hp:qq w0 p T e out' bx E q L g w)(h:L q=true):∃E',BE p T e out' E'∧St w0.heap.size w0 w ([bx]++E'):=by
 unfold qq at hp;rw [h] at hp;exact hp
end
def jy (w0:World)(l:List (Nat×Obj))(q:Nat):(Nat→Bool)→(Nat→D2.Gh)→World→Prop:=fun L _ w=>bif L q then St w0.heap.size w0 w [] else St w0.heap.size w0 w l
section
variable {P:Program}{ops:Array Oper}{R:(Nat→D2.Gh)→Env}{i:Nat}{d:Option Nat}{w0:World}{l:List (Nat×Obj)}{q:Nat}
theorem jy.keep (h:Nat.beq q i=false){L:Nat→Bool}{g g':Nat→D2.Gh}{w:World}(hp:jy w0 l q L g w):jy w0 l q (D2.put1 L i) g' w:=by
 unfold jy at hp ⊢;rw [zes h];exact hp
theorem xV {V:Value}(hq:Nat.beq q i=false)(h: ∀g w,opv P ops i (R g) w=some (d,true,.ok (.value V) w)):D2.Gives P ops R (jy w0 l q) i d (fun _=>V):=D2.gv_val (fun _ _ _ hp=>hp.keep hq) h
theorem zbD {V:Value}(hq:Nat.beq q i=false)(hb: ∀L,D2.Now ops i L→L q=false)(op:Op)(h: ∀g,opk ops i (R g)=some (d,true,op))(hr: ∀g w (o:Oper),St w0.heap.size w0 w l→o.op=op→(execOp (ev (R g)) o).run P w=.ok (.value V) w):D2.Gives P ops R (jy w0 l q) i d (fun _=>V):=D2.gives_of fun L g w hp hN=>by
 obtain ⟨o,ho,hd,hw,hop⟩:=zI (h g);have hS:St w0.heap.size w0 w l:=by have h9:=hp;unfold jy at h9;rw [hb L hN] at h9;exact h9
 exact ⟨o,ho,hd,.inr ⟨hw,by rw [hr g w o hS hop];exact ⟨g i,rfl,by rw [D2.setN_self];exact hp.keep hq⟩⟩⟩
theorem zjv {V:Value}(hq:q=i)(op:Op)(h: ∀g,opk ops i (R g)=some (d,true,op))(hr: ∀g w (o:Oper),St w0.heap.size w0 w l→o.op=op→∃w',(execOp (ev (R g)) o).run P w=.ok (.value V) w'∧St w0.heap.size w0 w' []):D2.Gives P ops R (jy w0 l q) i d (fun _=>V):=D2.gives_of fun L g w hp hN=>by
 subst hq;obtain ⟨o,ho,hd,hw,hop⟩:=zI (h g);have hS:St w0.heap.size w0 w l:=by have h9:=hp;unfold jy at h9;rw [hN.1] at h9;exact h9
 obtain ⟨w',h1,h2⟩:=hr g w o hS hop;exact ⟨o,ho,hd,.inr ⟨hw,by rw [h1];exact ⟨g q,rfl,by unfold jy;rw [show D2.put1 L q q=true from D2.put1_self L q];exact h2⟩⟩⟩
end
def zbE (t:TypeId)(x:Operand):Op:=.call { callee:=.builtin .unsafeSliceData,args:=#[x],argTypes:=#[t] }
theorem zjw {P:Program}{ρ:Env}{w:World}{t:TypeId}{x:Operand}{a:Addr}{n c:Nat}(hx:ev ρ x=.slice (some a) n c)(hc:c≠0)(o:Oper)(ho:o.op=zbE t x):(execOp (ev ρ) o).run P w=.ok (.value (.pointer (some a))) w:=by
 have:=Lib.run_unsafeSliceData_row (P:=P) (w:=w) #[t] o.type a n c hc;unfold execOp;simp only [ho,zbE,resolve,invoke,builtin,Sem.run_bind,Sem.run_pure,Result.andThen_ok,List.map_toArray,List.map_cons,List.map_nil,hx,this]
theorem zjx {P:Program}{ρ:Env}{w w0:World}{l:List (Nat×Obj)}{j b n cap:Nat}{C:Array Value}{t t' e:TypeId}{x y:Operand}{xs:List UInt8}(HS:St w0.heap.size w0 w l)(hj:l[j]? =some (b,.cells C e (0,0)))(ht:P.underlying t=some (.pointer e))(hc:P.cellsOf e=1)
 (hx:ev ρ x=.pointer (some ⟨b,0,none⟩)) (hy:ev ρ y=.int .i64 (n:Int)) (hr:Rw 1 C cap n (cellsB xs)) (h0:0<n) (hm:n≤0x7fffffffffffffff) (o:Oper) (hop:o.op=vY t t' x y):
 ∃w',(execOp (ev ρ) o).run P w=.ok (.value (.string (zb xs))) w'∧St w0.heap.size w0 w' []:=by
 have hb:=HS.get j hj;have hB:=HS.ge j hj;have hlen:xs.length=n:=by have:=hr.len;rw [qo] at this;omega
 have hsz:=hr.sz;have hle:=hr.le
 have hrun:=Lib.run_unsafeString_row (P:=P) w t t' o.type e ht hc b C.size (by unfold World.shape?;rw [hb]) xs (by intro e;subst e;simp at hlen;omega) (by omega) (by omega) (fun j u hj=>by
  have hjl:j<xs.length:=(List.getElem?_eq_some_iff.1 hj).1;have h2:=hr.get j (by omega);rw [yX,Nat.zero_add];have h3:(cellsB xs)[j]? =some (.int .u8 (u.toNat:Int)):=by unfold cellsB;rw [List.getElem?_map,hj];rfl
  simp [World.cell?,hb,h2,h3])
 rw [hlen] at hrun;refine ⟨w.freeze ⟨b,0,none⟩ n,?_,?_⟩
 ·unfold execOp;simp only [hop,vY,resolve,invoke,builtin,Sem.run_bind,Sem.run_pure,Result.andThen_ok,List.map_toArray,List.map_cons,List.map_nil,hx,hy,hrun];rfl
 ·have hbel:=Lib.below_freeze HS.below (p:=⟨b,0,none⟩) hB n;refine ⟨hbel,Nat.le_trans HS.le ?_,(fun e he=>nomatch he),List.nodup_nil⟩;unfold World.freeze;split<;>simp
theorem St.load1_run {P:Program}{ρ:Env}{w w0:World}{l:List (Nat×Obj)}{j b off:Nat}{C:Array Value}{T t:TypeId}{x:Operand}{v:Value}(HS:St w0.heap.size w0 w l)(hj:l[j]? =some (b,.cells C T (0,0)))(ht:oneCell P t=true)(hx:ev ρ x=.pointer (some ⟨b,off,none⟩))(hv:C[off]? =some v)(o:Oper)(ho:o.op=.load t x):
 (execOp (ev ρ) o).run P w=.ok (.value v) w:=by
 have:=jT (P:=P) (w:=w) ht (HS.get j hj) hv;simp [execOp,ho,Instr.loadAt,Instr.sureAddr,hx,this]
theorem zjy (p:Nat)(w0 w:World)(L:List (Nat×Obj))(H0:St w0.heap.size w0 w ([(p,Obj.cells #[.pointer none,.slice none 0 0] 113 (0,0))]++L)):WP Tryz.prog 20 (zl Tryz.f132) (qf Tryz.prog [] fun v' w'=>v'=.tuple #[]∧∃E',BE p 113 5 ([]) E'∧St w0.heap.size w0 w' (E'++L)) (ini #[.pointer (some ⟨p,0,none⟩)]) w:=by
 refine zi [0,1,2,3,4] kr kr<|zp (some 2) (.pointer (some ⟨p,0,none⟩)) (fun w=>by kernel_rfl) kr<|zp (some 3) (.pointer (some ⟨p,0,none⟩)) (fun w=>by kernel_rfl) kr<|zp (some 4) (.pointer (some ⟨p,0,none⟩)) (fun w=>by kernel_rfl) kr<|jf H0 (some 5) 111 (.tmp 4) 0 p 0 #[.pointer none,.slice none 0 0] 113 (0,0) (.pointer none) kr kr kr kr kr kr<|zp (some 6) (.bool true) (fun w=>by kernel_rfl) kr<|zd<|zg kr kr<|qm [0,1,2,3,4,5,6,7] kr<|zp (some 7) (.pointer (some ⟨p,0,none⟩)) (fun w=>by kernel_rfl) kr<|zp (some 8) (.pointer (some ⟨p,0,none⟩)) (fun w=>by kernel_rfl) kr<|zep H0 (some 9) 111 182 113 (.tmp 8) 0 p #[.pointer none,.slice none 0 0] 113 kr kr kr kr kr kr kr (by show 0<2;omega)<|zp (some 10) (.pointer (some ⟨p,0,none⟩)) (fun w=>by kernel_rfl) kr<|zeq H0 (some 11) 182 111 113 (.tmp 10) 0 p #[.pointer none,.slice none 0 0] 113 kr kr kr kr kr kr kr kr<|zp (some 12) (.pointer (some ⟨p,0,none⟩)) (fun w=>by kernel_rfl) kr<|zp (some 13) (.pointer (some ⟨p,0,none⟩)) (fun w=>by kernel_rfl) kr<|kZ H0 0 ([(p,Obj.cells #[.pointer (some ⟨p,0,none⟩),.slice none 0 0] 113 (0,0))]++L) 111 (.tmp 13) (.tmp 11) p (0) #[.pointer none,.slice none 0 0] #[.pointer (some ⟨p,0,none⟩),.slice none 0 0] 113 (.pointer (some ⟨p,0,none⟩)) kr kr kr kr kr kr (of_decide_eq_true kr) kr kr ?_;intro w1 H1;clear H0;refine zd<|wV ?_;exact ⟨[],.nil,rfl,_,(BE.nil (some ⟨p,0,none⟩) (Or.inr rfl)),H1⟩
theorem zjz (p:Nat)(w0 w:World)(L:List (Nat×Obj))(H0:St w0.heap.size w0 w ([(p,Obj.cells #[.pointer (some ⟨p,0,none⟩),.slice none 0 0] 113 (0,0))]++L)):WP Tryz.prog 20 (zl Tryz.f132) (qf Tryz.prog [] fun v' w'=>v'=.tuple #[]∧∃E',BE p 113 5 ([]) E'∧St w0.heap.size w0 w' (E'++L)) (ini #[.pointer (some ⟨p,0,none⟩)]) w:=by
 refine zi [0,1,2,3,4] kr kr<|zp (some 2) (.pointer (some ⟨p,0,none⟩)) (fun w=>by kernel_rfl) kr<|zp (some 3) (.pointer (some ⟨p,0,none⟩)) (fun w=>by kernel_rfl) kr<|zp (some 4) (.pointer (some ⟨p,0,none⟩)) (fun w=>by kernel_rfl) kr<|jf H0 (some 5) 111 (.tmp 4) 0 p 0 #[.pointer (some ⟨p,0,none⟩),.slice none 0 0] 113 (0,0) (.pointer (some ⟨p,0,none⟩)) kr kr kr kr kr kr<|zp (some 6) (.bool false) (fun w=>by kernel_rfl) kr<|zd<|zf kr kr<|zi [0,1,2,3,4,5] kr kr<|zp (some 14) (.pointer (some ⟨p,0,none⟩)) (fun w=>by kernel_rfl) kr<|zp (some 15) (.pointer (some ⟨p,0,none⟩)) (fun w=>by kernel_rfl) kr<|zp (some 16) (.pointer (some ⟨p,0,none⟩)) (fun w=>by kernel_rfl) kr<|jf H0 (some 17) 111 (.tmp 16) 0 p 0 #[.pointer (some ⟨p,0,none⟩),.slice none 0 0] 113 (0,0) (.pointer (some ⟨p,0,none⟩)) kr kr kr kr kr kr<|zp (some 18) (.pointer (some ⟨p,0,none⟩)) (fun w=>by kernel_rfl) kr<|vL (some 19) _ (.bool false) kr kr (fun o w ho=>zer (t:=111) (tp:=113) (t':=111) kr kr (x:=(.tmp 17)) (y:=(.tmp 18)) ⟨p,0,none⟩ ho kr kr w)<|zd<|zf kr kr<|zh kr<|wV ?_;exact ⟨[],.nil,rfl,_,(BE.nil (some ⟨p,0,none⟩) (Or.inr rfl)),H0⟩
theorem zjA (p:Nat)(b n cap:Nat)(cur:Array Value)(out:List UInt8)(hn:n=out.length)(hr:Rw 1 cur cap n (cellsB out))(w0 w:World)(L:List (Nat×Obj))(H0:St w0.heap.size w0 w ([(b,Obj.cells cur 5 (0,0)),(p,Obj.cells #[.pointer none,.slice (some ⟨b,0,none⟩) n cap] 113 (0,0))]++L)):WP Tryz.prog 20 (zl Tryz.f132) (qf Tryz.prog [] fun v' w'=>v'=.tuple #[]∧∃E',BE p 113 5 out E'∧St w0.heap.size w0 w' (E'++L)) (ini #[.pointer (some ⟨p,0,none⟩)]) w:=by
 refine zi [0,1,2,3,4] kr kr<|zp (some 2) (.pointer (some ⟨p,0,none⟩)) (fun w=>by kernel_rfl) kr<|zp (some 3) (.pointer (some ⟨p,0,none⟩)) (fun w=>by kernel_rfl) kr<|zp (some 4) (.pointer (some ⟨p,0,none⟩)) (fun w=>by kernel_rfl) kr<|jf H0 (some 5) 111 (.tmp 4) 1 p 0 #[.pointer none,.slice (some ⟨b,0,none⟩) n cap] 113 (0,0) (.pointer none) kr kr kr kr kr kr<|zp (some 6) (.bool true) (fun w=>by kernel_rfl) kr<|zd<|zg kr kr<|qm [0,1,2,3,4,5,6,7] kr<|zp (some 7) (.pointer (some ⟨p,0,none⟩)) (fun w=>by kernel_rfl) kr<|zp (some 8) (.pointer (some ⟨p,0,none⟩)) (fun w=>by kernel_rfl) kr<|zep H0 (some 9) 111 182 113 (.tmp 8) 1 p #[.pointer none,.slice (some ⟨b,0,none⟩) n cap] 113 kr kr kr kr kr kr kr (by show 0<2;omega)<|zp (some 10) (.pointer (some ⟨p,0,none⟩)) (fun w=>by kernel_rfl) kr<|zeq H0 (some 11) 182 111 113 (.tmp 10) 1 p #[.pointer none,.slice (some ⟨b,0,none⟩) n cap] 113 kr kr kr kr kr kr kr kr<|zp (some 12) (.pointer (some ⟨p,0,none⟩)) (fun w=>by kernel_rfl) kr<|zp (some 13) (.pointer (some ⟨p,0,none⟩)) (fun w=>by kernel_rfl) kr<|kZ H0 1 ([(b,Obj.cells cur 5 (0,0)),(p,Obj.cells #[.pointer (some ⟨p,0,none⟩),.slice (some ⟨b,0,none⟩) n cap] 113 (0,0))]++L) 111 (.tmp 13) (.tmp 11) p (0) #[.pointer none,.slice (some ⟨b,0,none⟩) n cap] #[.pointer (some ⟨p,0,none⟩),.slice (some ⟨b,0,none⟩) n cap] 113 (.pointer (some ⟨p,0,none⟩)) kr kr kr kr kr kr (of_decide_eq_true kr) kr kr ?_;intro w1 H1;clear H0;refine zd<|wV ?_;exact ⟨[],.nil,rfl,_,(BE.row (some ⟨p,0,none⟩) b n cap cur out (Or.inr rfl) hn hr),H1⟩
theorem zjB (p:Nat)(b n cap:Nat)(cur:Array Value)(out:List UInt8)(hn:n=out.length)(hr:Rw 1 cur cap n (cellsB out))(w0 w:World)(L:List (Nat×Obj))(H0:St w0.heap.size w0 w ([(b,Obj.cells cur 5 (0,0)),(p,Obj.cells #[.pointer (some ⟨p,0,none⟩),.slice (some ⟨b,0,none⟩) n cap] 113 (0,0))]++L)):WP Tryz.prog 20 (zl Tryz.f132) (qf Tryz.prog [] fun v' w'=>v'=.tuple #[]∧∃E',BE p 113 5 out E'∧St w0.heap.size w0 w' (E'++L)) (ini #[.pointer (some ⟨p,0,none⟩)]) w:=by
 refine zi [0,1,2,3,4] kr kr<|zp (some 2) (.pointer (some ⟨p,0,none⟩)) (fun w=>by kernel_rfl) kr<|zp (some 3) (.pointer (some ⟨p,0,none⟩)) (fun w=>by kernel_rfl) kr<|zp (some 4) (.pointer (some ⟨p,0,none⟩)) (fun w=>by kernel_rfl) kr<|jf H0 (some 5) 111 (.tmp 4) 1 p 0 #[.pointer (some ⟨p,0,none⟩),.slice (some ⟨b,0,none⟩) n cap] 113 (0,0) (.pointer (some ⟨p,0,none⟩)) kr kr kr kr kr kr<|zp (some 6) (.bool false) (fun w=>by kernel_rfl) kr<|zd<|zf kr kr<|zi [0,1,2,3,4,5] kr kr<|zp (some 14) (.pointer (some ⟨p,0,none⟩)) (fun w=>by kernel_rfl) kr<|zp (some 15) (.pointer (some ⟨p,0,none⟩)) (fun w=>by kernel_rfl) kr<|zp (some 16) (.pointer (some ⟨p,0,none⟩)) (fun w=>by kernel_rfl) kr<|jf H0 (some 17) 111 (.tmp 16) 1 p 0 #[.pointer (some ⟨p,0,none⟩),.slice (some ⟨b,0,none⟩) n cap] 113 (0,0) (.pointer (some ⟨p,0,none⟩)) kr kr kr kr kr kr<|zp (some 18) (.pointer (some ⟨p,0,none⟩)) (fun w=>by kernel_rfl) kr<|vL (some 19) _ (.bool false) kr kr (fun o w ho=>zer (t:=111) (tp:=113) (t':=111) kr kr (x:=(.tmp 17)) (y:=(.tmp 18)) ⟨p,0,none⟩ ho kr kr w)<|zd<|zf kr kr<|zh kr<|wV ?_;exact ⟨[],.nil,rfl,_,(BE.row (some ⟨p,0,none⟩) b n cap cur out (Or.inr rfl) hn hr),H0⟩
theorem zjC (p:Nat)(out:List UInt8):FnB Tryz.prog 132 #[.pointer (some ⟨p,0,none⟩)] (.tuple #[]) p 113 5 out out (fun _=>True):=
 FnB.intro (c:=zl Tryz.f132) [] 20 Tryz.func132 kr kr kr fun w0 w L E hE _ HS=>by
  rcases hE with ⟨a,rfl|rfl⟩|⟨a,b,n,cap,cur,_,rfl|rfl,hn,hr⟩
  ·exact zjy p w0 w L HS
  ·exact zjz p w0 w L HS
  ·exact zjA p b n cap cur out hn hr w0 w L HS
  ·exact zjB p b n cap cur out hn hr w0 w L HS
theorem zbF (p:Nat)(out:List UInt8)(s:ByteArray)(h0:0<s.size∨out≠[])(hm:out.length+s.size≤0x800000000000):FnB Tryz.prog 105 #[.pointer (some ⟨p,0,none⟩),.string s] (.tuple #[.int .i64 (ByteArray.size s:Int),.nilIface]) p 113 5 out (out++tl s) (fun _=>True):=by
 refine FnB.intro (c:=zl Tryz.f105) [.tmp 4,.tmp 5] 19 Tryz.func105 kr kr kr fun w0 w L E hE _ HS=>?_;have H0:St w0.heap.size w0 w (L++E):=HS.perm List.perm_append_comm;refine zi [0,1] kr kr<|zp (some 4) (.int .i64 0) (fun w=>by kernel_rfl) kr<|zp (some 5) (.nilIface) (fun w=>by kernel_rfl) kr<|zd<|zi [0,1] kr kr<|zp (some 6) (.pointer (some ⟨p,0,none⟩)) (fun w=>by kernel_rfl) kr<|zbB (l:=L) H0 hE (some 7) 132 #[.pointer (some ⟨p,0,none⟩)] (.tuple #[]) out (fun _=>True) (zjC p out) trivial kr kr ?_;intro E1 w1 hE1 H1;clear H0;rcases hE1 with ⟨a,ha⟩ | ⟨a,b,n,cap,cur,_,ha,hn,hr⟩
 ·have h0':0<ByteArray.size s:=h0.resolve_right (fun h=>h rfl);simp only [List.length_nil] at hm;have HP:St w0.heap.size w0 w1 ([(p,Obj.cells #[.pointer a,.slice none 0 0] 113 (0,0))]++L):=H1.perm List.perm_append_comm;refine zd<|zi [0,1,2,3,4,5,6,7,8,9] kr kr<|zp (some 8) (.pointer (some ⟨p,0,none⟩)) (fun w=>by kernel_rfl) kr<|zp (some 9) (.pointer (some ⟨p,0,none⟩)) (fun w=>by kernel_rfl) kr<|zp (some 10) (.pointer (some ⟨p,0,none⟩)) (fun w=>by kernel_rfl) kr<|zp (some 11) (.pointer (some ⟨p,1,none⟩)) (fun w=>by kernel_rfl) kr<|jf HP (some 12) 80 (.tmp 11) 0 p 1 #[.pointer a,.slice none 0 0] 113 (0,0) (.slice none 0 0) kr kr kr kr kr kr<|zp (some 13) (.string s) (fun w=>by kernel_rfl) kr<|zjr HP (some 14) 80 9 5 (.tmp 12) (.tmp 13) s kr kr kr kr kr kr (by omega) (by omega) ?_;intro b_1 cap_2 cur_3 w2 H2 hr_4;clear HP;refine zp (some 15) (.pointer (some ⟨p,0,none⟩)) (fun w=>by kernel_rfl) kr<|zp (some 16) (.pointer (some ⟨p,1,none⟩)) (fun w=>by kernel_rfl) kr<|kZ H2 1 ([(b_1,Obj.cells cur_3 5 (0,0)),(p,Obj.cells #[.pointer a,.slice (some ⟨b_1,0,none⟩) (ByteArray.size s) cap_2] 113 (0,0))]++L) 80 (.tmp 16) (.tmp 14) p (1) #[.pointer a,.slice none 0 0] #[.pointer a,.slice (some ⟨b_1,0,none⟩) (ByteArray.size s) cap_2] 113 (.slice (some ⟨b_1,0,none⟩) (ByteArray.size s) cap_2) kr kr kr kr kr kr (of_decide_eq_true kr) kr kr ?_;intro w3 H3;clear H2;refine zd<|zi [0,1,2,3] kr kr<|zp (some 17) (.string s) (fun w=>by kernel_rfl) kr<|zp (some 18) (.int .i64 (ByteArray.size s:Int)) (fun w=>by kernel_rfl) kr<|zp (some 4) (.int .i64 (ByteArray.size s:Int)) (fun w=>by kernel_rfl) kr<|zp (some 5) (.nilIface) (fun w=>by kernel_rfl) kr<|zd<|zn kr<|wV ?_;exact ⟨[.int .i64 (ByteArray.size s:Int),.nilIface],(.tmp (.int .i64 (ByteArray.size s:Int)) kr (.tmp (.nilIface) kr .nil)),rfl,_,(BE.row a b_1 (ByteArray.size s) cap_2 cur_3 (tl s) ha rfl hr_4),H3⟩
 ·have HP:St w0.heap.size w0 w1 ([(b,Obj.cells cur 5 (0,0)),(p,Obj.cells #[.pointer a,.slice (some ⟨b,0,none⟩) n cap] 113 (0,0))]++L):=H1.perm List.perm_append_comm;refine zd<|zi [0,1,2,3,4,5,6,7,8,9] kr kr<|zp (some 8) (.pointer (some ⟨p,0,none⟩)) (fun w=>by kernel_rfl) kr<|zp (some 9) (.pointer (some ⟨p,0,none⟩)) (fun w=>by kernel_rfl) kr<|zp (some 10) (.pointer (some ⟨p,0,none⟩)) (fun w=>by kernel_rfl) kr<|zp (some 11) (.pointer (some ⟨p,1,none⟩)) (fun w=>by kernel_rfl) kr<|jf HP (some 12) 80 (.tmp 11) 1 p 1 #[.pointer a,.slice (some ⟨b,0,none⟩) n cap] 113 (0,0) (.slice (some ⟨b,0,none⟩) n cap) kr kr kr kr kr kr<|zp (some 13) (.string s) (fun w=>by kernel_rfl) kr<|zjq HP (some 14) 80 9 5 (.tmp 12) (.tmp 13) 0 b n cap cur out s (fun b_5 cur_7=>([(b_5,Obj.cells cur_7 5 (0,0)),(p,Obj.cells #[.pointer a,.slice (some ⟨b,0,none⟩) n cap] 113 (0,0))]++L)) kr kr kr kr kr kr hr kr (by omega) (fun _ _=>by kernel_rfl) ?_;intro b_5 cap_6 cur_7 w4 H4 hr_8;clear HP;refine zp (some 15) (.pointer (some ⟨p,0,none⟩)) (fun w=>by kernel_rfl) kr<|zp (some 16) (.pointer (some ⟨p,1,none⟩)) (fun w=>by kernel_rfl) kr<|kZ H4 1 ([(b_5,Obj.cells cur_7 5 (0,0)),(p,Obj.cells #[.pointer a,.slice (some ⟨b_5,0,none⟩) (n+ByteArray.size s) cap_6] 113 (0,0))]++L) 80 (.tmp 16) (.tmp 14) p (1) #[.pointer a,.slice (some ⟨b,0,none⟩) n cap] #[.pointer a,.slice (some ⟨b_5,0,none⟩) (n+ByteArray.size s) cap_6] 113 (.slice (some ⟨b_5,0,none⟩) (n+ByteArray.size s) cap_6) kr kr kr kr kr kr (of_decide_eq_true kr) kr kr ?_;intro w5 H5;clear H4;refine zd<|zi [0,1,2,3] kr kr<|zp (some 17) (.string s) (fun w=>by kernel_rfl) kr<|zp (some 18) (.int .i64 (ByteArray.size s:Int)) (fun w=>by kernel_rfl) kr<|zp (some 4) (.int .i64 (ByteArray.size s:Int)) (fun w=>by kernel_rfl) kr<|zp (some 5) (.nilIface) (fun w=>by kernel_rfl) kr<|zd<|zn kr<|wV ?_;exact ⟨[.int .i64 (ByteArray.size s:Int),.nilIface],(.tmp (.int .i64 (ByteArray.size s:Int)) kr (.tmp (.nilIface) kr .nil)),rfl,_,(BE.row a b_5 (n+ByteArray.size s) cap_6 cur_7 (out++tl s) ha (by rw [List.length_append,zy,hn]) hr_8),H5⟩
theorem zjD (pb m:Nat)(ih: ∀(out:List UInt8) (l:Bool) (s:ByteArray) (p:Option Addr) (n c:Nat) (k:Fo),s.size≤0x800000000000→List.length out+9+ByteArray.size s+wtF k≤0x800000000000→k.cnt<m→xU Tryz.prog 66 #[.pointer (some ⟨pb,0,none⟩),.agg #[.bool l,.string s,.slice p n c]] (.tuple #[]) pb 113 5 out (out++wr1 l s (szF k) (wrF k)) (fun w=>zq w.heap.size w p n k))(out:List UInt8)(l:Bool)(s:ByteArray)(p:Option Addr)(n c:Nat)(k:Fo)(hs:s.size≤0x800000000000)(hw:List.length out+9+ByteArray.size s+wtF k≤0x800000000000)(hkm:k.cnt<m+1):xU Tryz.prog 66 #[.pointer (some ⟨pb,0,none⟩),.agg #[.bool l,.string s,.slice p n c]] (.tuple #[]) pb 113 5 out (out++wr1 l s (szF k) (wrF k)) (fun w=>zq w.heap.size w p n k):=by
 refine xU.intro (c:=zl Tryz.f66) [] 31 Tryz.func66 kr kr kr fun w0 w E0 hE0 hpre H0=>?_;have hn:=hpre.1;have hnm:=hpre.2.1;refine zi [0] kr kr<|za2 H0 (some 3) 73 (.tmp 1) (.agg #[.bool l,.string s,.slice p n c]) kr kr kr ?_;intro b1 w1 H1;clear H0;refine zd<|zc kr<|zi [0,1,2,3] kr kr<|zp (some 6) (.pointer (some ⟨b1,1,none⟩)) (fun w=>by kernel_rfl) kr<|jf H1 (some 7) 9 (.tmp 6) 0 b1 1 #[.bool l,.string s,.slice p n c] 73 (0,0) (.string s) kr kr kr kr kr kr<|zdk H1 (some 8) 102 #[.string s] (.bool (qp s)) (zek s) (fun w=>by kernel_rfl) kr ?_;intro w2 H2;clear H1;cases hq1:qp s
 ·refine zp (some 9) (.bool true) (fun w=>by kernel_rfl) kr<|zd<|zg kr kr ?_;have hsl:=vm k;have hhl:=xx (frm l) (ByteArray.size s+szF k);refine D2.g_draw0 [0,1,2,3,4,5] [(some 10,fun _=>.pointer (some ⟨pb,0,none⟩)),(some 11,fun _=>.agg #[.bool l,.string s,.slice p n c]),(some 12,fun _=>.agg #[.bool l,.string s,.slice p n c]),(some 13,fun _=>.int .u64 ((ByteArray.size s+szF k:Nat):Int)),(some 14,fun _=>.string (zb (hd (frm l) (ByteArray.size s+szF k)))),(some 15,fun _=>.tuple #[.int .i64 (ByteArray.size (zb (hd (frm l) (ByteArray.size s+szF k))):Int),.nilIface])] (qq w0 pb 113 5 (out++tl (zb (hd (frm l) (ByteArray.size s+szF k)))) (b1,Obj.cells #[.bool l,.string s,.slice p n c] 73 (0,0)) E0 5) kr kr kr H2.drew ⟨?_,?_,?_,?_,?_,?_,trivial⟩ ?_
  ·exact zjs rfl (fun g w=>by kernel_rfl)
  ·exact zet (C:=#[.bool l,.string s,.slice p n c]) (T':=73) (t:=73) (x:=(.tmp 3)) rfl (fun g=>by kernel_rfl) (fun g=>by kernel_rfl) rfl kr
  ·exact zet (C:=#[.bool l,.string s,.slice p n c]) (T':=73) (t:=73) (x:=(.tmp 3)) rfl (fun g=>by kernel_rfl) (fun g=>by kernel_rfl) rfl kr
  ·exact zeu (f:=103) (args:=#[.agg #[.bool l,.string s,.slice p n c]]) rfl (zjp l s p n c k hs (by omega)) (fun w hb=>zq.call hpre hb) (fun g w=>by kernel_rfl)
  ·exact zjt (f:=104) (args:=#[.agg #[.bool l,.string s,.slice p n c],.int .u64 ((ByteArray.size s+szF k:Nat):Int)]) rfl (zel l s p n c (ByteArray.size s+szF k) (by omega)) (fun g w=>by kernel_rfl)
  ·exact zju (f:=105) (args:=#[.pointer (some ⟨pb,0,none⟩),.string (zb (hd (frm l) (ByteArray.size s+szF k)))]) rfl hE0 (zbF pb out (zb (hd (frm l) (ByteArray.size s+szF k))) (Or.inl (by rw [zO];exact hhl.1)) (by rw [zO];omega)) (fun g w=>by kernel_rfl)
  intro L0 G0 w3 hall HL;clear H2;obtain ⟨E1,hE1,H3⟩:=HL.done (hall 5 (Nat.le_of_ble_eq_true kr));refine wW<|zi [0,1,2,3] kr kr ?_;have hl0:(out++tl (zb (hd (frm l) (ByteArray.size s+szF k)))).length=out.length+(hd (frm l) (ByteArray.size s+szF k)).length:=by rw [List.length_append,yx]
  have hw1:out++wr1 l s (szF k) (wrF k)=(out++tl (zb (hd (frm l) (ByteArray.size s+szF k)))++tl s)++wrF k:=by unfold wr1;rw [if_neg (by rw [hq1];decide),yx];simp only [List.append_assoc]
  have hl1:(out++tl (zb (hd (frm l) (ByteArray.size s+szF k)))++tl s).length=out.length+(hd (frm l) (ByteArray.size s+szF k)).length+ByteArray.size s:=by rw [List.length_append,hl0,zy]
  refine zp (some 16) (.pointer (some ⟨pb,0,none⟩)) (fun w=>by kernel_rfl) kr<|zp (some 17) (.pointer (some ⟨b1,1,none⟩)) (fun w=>by kernel_rfl) kr<|jf H3 (some 18) 9 (.tmp 17) 0 b1 1 #[.bool l,.string s,.slice p n c] 73 (0,0) (.string s) kr kr kr kr kr kr<|zbB (l:=[(b1,Obj.cells #[.bool l,.string s,.slice p n c] 73 (0,0))]) H3 hE1 (some 19) 105 #[.pointer (some ⟨pb,0,none⟩),.string s] (.tuple #[.int .i64 (ByteArray.size s:Int),.nilIface]) ((out++tl (zb (hd (frm l) (ByteArray.size s+szF k))))++tl s) (fun _=>True) (zbF pb (out++tl (zb (hd (frm l) (ByteArray.size s+szF k)))) s (Or.inr (by intro q;have h9:=congrArg List.length q;rw [hl0] at h9;simp only [List.length_nil] at h9;omega)) (by rw [hl0];omega)) trivial kr kr ?_;intro E2 w4 hE2 H4;clear H3;refine zd<|zi [0,1,2,3] kr kr<|zp (some 20) (.pointer (some ⟨b1,2,none⟩)) (fun w=>by kernel_rfl) kr<|jf H4 (some 21) 71 (.tmp 20) 0 b1 2 #[.bool l,.string s,.slice p n c] 73 (0,0) (.slice p n c) kr kr kr kr kr kr<|zp (some 22) (.int .i64 (n:Int)) (fun w=>by kernel_rfl) kr<|zp (some 23) (.int .i64 0) (fun w=>by kernel_rfl) kr<|zd<|zj 0 kr ?_;have HD1:St w0.heap.size w0 w4 ([]++E2):=H4.sub (List.Sublist.cons _ (List.Sublist.refl E2));refine zz kr (fun mz ρ ww=> ∃(i:Nat) (r:Fo) (o:List UInt8) (Ez:List (Nat×Obj)),n-i=mz∧(FoR w0.heap.size w0 p i r)∧(i+Fo.len r=n)∧(Fo.cnt r≤Fo.cnt k)∧(List.length o+wtF r≤0x800000000000)∧(out++wr1 l s (szF k) (wrF k)=o++wrF r)∧(BE pb 113 5 o Ez)∧St w0.heap.size w0 ww ([]++Ez)∧Is [(0,.pointer (some ⟨pb,0,none⟩)),(1,.agg #[.bool l,.string s,.slice p n c]),(3,.pointer (some ⟨b1,0,none⟩)),(9,.bool true),(21,.slice p n c),(22,.int .i64 (n:Int)),(23,.int .i64 (i:Int))] ρ) (n-0) ⟨0,k,((out++tl (zb (hd (frm l) (ByteArray.size s+szF k))))++tl s),E2,rfl,(zq.start hpre),(by have hn0:=(hpre).1;omega),(Nat.le_refl _),(by rw [hl1];omega),hw1,hE2,HD1,(Is.of ⟨kr,kr,kr,kr,kr,kr,kr,trivial⟩)⟩ ?_;clear HD1;rintro _ _ w5 ⟨i,r,o,Ez,rfl,hR,hN,hcn,hwt,hout,hEz,H5,_,rfl⟩;refine zi [0] kr kr ?_;by_cases hc2:(i:Nat)<n
  ·refine je (some 24) (.bool (decide ((i:Int)<(n:Int)))) (.bool true) (fun w=>by kernel_rfl) (za (decide_eq_true (by omega))) kr<|zd<|zc kr<|zg kr kr<|zh kr<|wW<|zc kr<|zj 1 kr<|zi [0,1,2,3] kr kr ?_;obtain ⟨l1,s1,k1,r1,b1,off1,C1,T1,fz1,p1,n1,c1,hr1,hp1,hb1,hh1,hs1,hx1,hz1,hk1,hR1,hN1⟩:=FoR.open hR hN (by omega);refine vL (some 25) _ (.pointer (some ⟨b1,off1+i*3,none⟩)) kr kr (fun o w ho=>jX (kd:=.i64) (t:=71) (e:=73) (bytes:=48) kr (x:=(.tmp 21)) (y:=(.tmp 23)) b1 off1 n c i hp1 ho kr kr (by omega) w)<|zdl H5 (some 26) 73 (.tmp 25) b1 (off1+i*3) 3 C1 #[.bool l1,.string s1,.slice p1 n1 c1] T1 fz1 kr kr kr hh1 hb1 kr hs1 hx1<|qA H5 (some 5) 73 (.agg #[.bool false,.string (⟨#[]⟩),.slice none 0 0]) kr kr kr ?_;intro b2 w6 H6;clear H5;refine kZ H6 0 ([(b2,Obj.cells #[.bool l1,.string s1,.slice p1 n1 c1] 73 (0,0))]++Ez) 73 (.tmp 5) (.tmp 26) b2 (0) (#[.bool false,.string (⟨#[]⟩),.slice none 0 0]) #[.bool l1,.string s1,.slice p1 n1 c1] 73 (.agg #[.bool l1,.string s1,.slice p1 n1 c1]) kr kr kr kr kr kr (of_decide_eq_true kr) kr kr ?_;intro w7 H7;clear H6;refine zd<|qm [0,1,2] kr ?_;have hcn1:=hcn;rw [hr1] at hcn1;simp only [Fo.cnt] at hcn1;have hwt1:=hwt;rw [hr1] at hwt1;simp only [wtF] at hwt1;have hwl1:(wr1 l1 s1 (szF k1) (wrF k1)).length≤9+ByteArray.size s1+wtF k1:=by have h9:=ue (.cons l1 s1 k1 .nil);simp only [wrF,wtF,List.append_nil,Nat.add_zero] at h9;exact h9
   refine zp (some 27) (.pointer (some ⟨pb,0,none⟩)) (fun w=>by kernel_rfl) kr<|kY H7 (some 28) 73 (.tmp 5) 0 b2 #[.bool l1,.string s1,.slice p1 n1 c1] 73 (0,0) kr kr kr kr kr ?_;have HD3:St w0.heap.size w0 w7 ([]++Ez):=H7.sub (List.Sublist.cons _ (List.Sublist.refl Ez));refine zbC HD3 hEz (some 29) 66 #[.pointer (some ⟨pb,0,none⟩),.agg #[.bool l1,.string s1,.slice p1 n1 c1]] (.tuple #[]) (o++wr1 l1 s1 (szF k1) (wrF k1)) (fun w=>zq w.heap.size w p1 n1 k1) (ih o l1 s1 p1 n1 c1 k1 hz1 (by omega) (by omega)) hk1 kr kr ?_;intro E3 w8 hE3 H8;clear HD3;refine zd<|wW<|qm [0,1] kr<|je (some 30) (.int .i64 (IntKind.i64.wrap ((i:Int)+1))) (.int .i64 ((i+1:Nat):Int)) (fun w=>by kernel_rfl) (ze (zm (a:=i) (b:=1) (by omega))) kr<|zp (some 23) (.int .i64 ((i+1:Nat):Int)) (fun w=>by kernel_rfl) kr<|zd ?_;show ∃m,_∧_;exact ⟨_,(by omega),(i+1),r1,(o++wr1 l1 s1 (szF k1) (wrF k1)),E3,rfl,hR1,hN1,(by omega),(by rw [List.length_append];omega),(by rw [hout,hr1];simp only [wrF,List.append_assoc]),hE3,H8,(Is.of ⟨kr,kr,kr,kr,kr,kr,kr,trivial⟩)⟩
  ·refine je (some 24) (.bool (decide ((i:Int)<(n:Int)))) (.bool false) (fun w=>by kernel_rfl) (za (decide_eq_false (by omega))) kr<|zd<|zc kr<|zf kr kr<|zw 0 kr<|wV ?_;have hdn:=FoR.done hN (by omega);rw [hdn] at hout;exact ⟨[],.nil,rfl,_,(by rw [hout,show wrF Fo.nil=[] from rfl,List.append_nil];exact hEz),H5⟩
 ·refine zp (some 9) (.bool false) (fun w=>by kernel_rfl) kr<|zd<|zf kr kr<|zh kr<|wW<|zi [0,1,2,3] kr kr ?_;have hsz1:=ud hq1;have hw1:out++wr1 l s (szF k) (wrF k)=(out++tl s)++wrF k:=by unfold wr1;rw [if_pos hq1,List.nil_append,List.append_assoc]
  have hl1:(out++tl s).length=out.length+ByteArray.size s:=by rw [List.length_append,zy]
  refine zp (some 16) (.pointer (some ⟨pb,0,none⟩)) (fun w=>by kernel_rfl) kr<|zp (some 17) (.pointer (some ⟨b1,1,none⟩)) (fun w=>by kernel_rfl) kr<|jf H2 (some 18) 9 (.tmp 17) 0 b1 1 #[.bool l,.string s,.slice p n c] 73 (0,0) (.string s) kr kr kr kr kr kr<|zbB (l:=[(b1,Obj.cells #[.bool l,.string s,.slice p n c] 73 (0,0))]) H2 hE0 (some 19) 105 #[.pointer (some ⟨pb,0,none⟩),.string s] (.tuple #[.int .i64 (ByteArray.size s:Int),.nilIface]) (out++tl s) (fun _=>True) (zbF pb out s (Or.inl (by omega)) (by omega)) trivial kr kr ?_;intro E4 w9 hE4 H9;clear H2;refine zd<|zi [0,1,2,3] kr kr<|zp (some 20) (.pointer (some ⟨b1,2,none⟩)) (fun w=>by kernel_rfl) kr<|jf H9 (some 21) 71 (.tmp 20) 0 b1 2 #[.bool l,.string s,.slice p n c] 73 (0,0) (.slice p n c) kr kr kr kr kr kr<|zp (some 22) (.int .i64 (n:Int)) (fun w=>by kernel_rfl) kr<|zp (some 23) (.int .i64 0) (fun w=>by kernel_rfl) kr<|zd<|zj 0 kr ?_;have HD4:St w0.heap.size w0 w9 ([]++E4):=H9.sub (List.Sublist.cons _ (List.Sublist.refl E4));refine zz kr (fun mz ρ ww=> ∃(i:Nat) (r:Fo) (o:List UInt8) (Ez:List (Nat×Obj)),n-i=mz∧(FoR w0.heap.size w0 p i r)∧(i+Fo.len r=n)∧(Fo.cnt r≤Fo.cnt k)∧(List.length o+wtF r≤0x800000000000)∧(out++wr1 l s (szF k) (wrF k)=o++wrF r)∧(BE pb 113 5 o Ez)∧St w0.heap.size w0 ww ([]++Ez)∧Is [(0,.pointer (some ⟨pb,0,none⟩)),(1,.agg #[.bool l,.string s,.slice p n c]),(3,.pointer (some ⟨b1,0,none⟩)),(9,.bool false),(21,.slice p n c),(22,.int .i64 (n:Int)),(23,.int .i64 (i:Int))] ρ) (n-0) ⟨0,k,(out++tl s),E4,rfl,(zq.start hpre),(by have hn0:=(hpre).1;omega),(Nat.le_refl _),(by rw [hl1];omega),hw1,hE4,HD4,(Is.of ⟨kr,kr,kr,kr,kr,kr,kr,trivial⟩)⟩ ?_;clear HD4;rintro _ _ w10 ⟨i,r,o,Ez,rfl,hR,hN,hcn,hwt,hout,hEz,H10,_,rfl⟩;refine zi [0] kr kr ?_;by_cases hc5:(i:Nat)<n
  ·refine je (some 24) (.bool (decide ((i:Int)<(n:Int)))) (.bool true) (fun w=>by kernel_rfl) (za (decide_eq_true (by omega))) kr<|zd<|zc kr<|zg kr kr<|zh kr<|wW<|zc kr<|zj 1 kr<|zi [0,1,2,3] kr kr ?_;obtain ⟨l2,s2,k2,r2,b2,off2,C2,T2,fz2,p2,n2,c2,hr2,hp2,hb2,hh2,hs2,hx2,hz2,hk2,hR2,hN2⟩:=FoR.open hR hN (by omega);refine vL (some 25) _ (.pointer (some ⟨b2,off2+i*3,none⟩)) kr kr (fun o w ho=>jX (kd:=.i64) (t:=71) (e:=73) (bytes:=48) kr (x:=(.tmp 21)) (y:=(.tmp 23)) b2 off2 n c i hp2 ho kr kr (by omega) w)<|zdl H10 (some 26) 73 (.tmp 25) b2 (off2+i*3) 3 C2 #[.bool l2,.string s2,.slice p2 n2 c2] T2 fz2 kr kr kr hh2 hb2 kr hs2 hx2<|qA H10 (some 5) 73 (.agg #[.bool false,.string (⟨#[]⟩),.slice none 0 0]) kr kr kr ?_;intro b3 w11 H11;clear H10;refine kZ H11 0 ([(b3,Obj.cells #[.bool l2,.string s2,.slice p2 n2 c2] 73 (0,0))]++Ez) 73 (.tmp 5) (.tmp 26) b3 (0) (#[.bool false,.string (⟨#[]⟩),.slice none 0 0]) #[.bool l2,.string s2,.slice p2 n2 c2] 73 (.agg #[.bool l2,.string s2,.slice p2 n2 c2]) kr kr kr kr kr kr (of_decide_eq_true kr) kr kr ?_;intro w12 H12;clear H11;refine zd<|qm [0,1,2] kr ?_;have hcn2:=hcn;rw [hr2] at hcn2;simp only [Fo.cnt] at hcn2;have hwt2:=hwt;rw [hr2] at hwt2;simp only [wtF] at hwt2;have hwl2:(wr1 l2 s2 (szF k2) (wrF k2)).length≤9+ByteArray.size s2+wtF k2:=by have h9:=ue (.cons l2 s2 k2 .nil);simp only [wrF,wtF,List.append_nil,Nat.add_zero] at h9;exact h9
   refine zp (some 27) (.pointer (some ⟨pb,0,none⟩)) (fun w=>by kernel_rfl) kr<|kY H12 (some 28) 73 (.tmp 5) 0 b3 #[.bool l2,.string s2,.slice p2 n2 c2] 73 (0,0) kr kr kr kr kr ?_;have HD6:St w0.heap.size w0 w12 ([]++Ez):=H12.sub (List.Sublist.cons _ (List.Sublist.refl Ez));refine zbC HD6 hEz (some 29) 66 #[.pointer (some ⟨pb,0,none⟩),.agg #[.bool l2,.string s2,.slice p2 n2 c2]] (.tuple #[]) (o++wr1 l2 s2 (szF k2) (wrF k2)) (fun w=>zq w.heap.size w p2 n2 k2) (ih o l2 s2 p2 n2 c2 k2 hz2 (by omega) (by omega)) hk2 kr kr ?_;intro E5 w13 hE5 H13;clear HD6;refine zd<|wW<|qm [0,1] kr<|je (some 30) (.int .i64 (IntKind.i64.wrap ((i:Int)+1))) (.int .i64 ((i+1:Nat):Int)) (fun w=>by kernel_rfl) (ze (zm (a:=i) (b:=1) (by omega))) kr<|zp (some 23) (.int .i64 ((i+1:Nat):Int)) (fun w=>by kernel_rfl) kr<|zd ?_;show ∃m,_∧_;exact ⟨_,(by omega),(i+1),r2,(o++wr1 l2 s2 (szF k2) (wrF k2)),E5,rfl,hR2,hN2,(by omega),(by rw [List.length_append];omega),(by rw [hout,hr2];simp only [wrF,List.append_assoc]),hE5,H13,(Is.of ⟨kr,kr,kr,kr,kr,kr,kr,trivial⟩)⟩
  ·refine je (some 24) (.bool (decide ((i:Int)<(n:Int)))) (.bool false) (fun w=>by kernel_rfl) (za (decide_eq_false (by omega))) kr<|zd<|zc kr<|zf kr kr<|zw 0 kr<|wV ?_;have hdn:=FoR.done hN (by omega);rw [hdn] at hout;exact ⟨[],.nil,rfl,_,(by rw [hout,show wrF Fo.nil=[] from rfl,List.append_nil];exact hEz),H10⟩
theorem zjE (pb:Nat)(out:List UInt8)(l:Bool)(s:ByteArray)(p:Option Addr)(n c:Nat)(k:Fo)(hs:s.size≤0x800000000000)(hw:List.length out+9+ByteArray.size s+wtF k≤0x800000000000):xU Tryz.prog 66 #[.pointer (some ⟨pb,0,none⟩),.agg #[.bool l,.string s,.slice p n c]] (.tuple #[]) pb 113 5 out (out++wr1 l s (szF k) (wrF k)) (fun w=>zq w.heap.size w p n k):=by
 have key: ∀(m:Nat) (out:List UInt8) (l:Bool) (s:ByteArray) (p:Option Addr) (n c:Nat) (k:Fo),s.size≤0x800000000000→List.length out+9+ByteArray.size s+wtF k≤0x800000000000→k.cnt<m→xU Tryz.prog 66 #[.pointer (some ⟨pb,0,none⟩),.agg #[.bool l,.string s,.slice p n c]] (.tuple #[]) pb 113 5 out (out++wr1 l s (szF k) (wrF k)) (fun w=>zq w.heap.size w p n k):=by
  intro m
  induction m with
  | zero=>intros;omega
  | succ m ih=>intro out l s p n c k hs hw hkm;exact zjD pb m ih out l s p n c k hs hw hkm
 exact key (k.cnt+1) out l s p n c k hs hw (by omega)
end Go.Proofs.YtbbdbdndedeokaaGreatDoor
