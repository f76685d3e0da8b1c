/-
  Texts of the proof,part 2.
-/
import Derived.Laws.CopyRow
import Derived.Laws.Concat
import Derived.Lib.BufferWrite
import Derived.Laws.IdiomStrings
import Derived.Lib.UnsafeStr
import Derived.Lib.AppendZeros
import Derived.Lib.Overlaps
import Derived.Scope
import Derived.Deep.Upon
import Derived.Test.YtbpmjppmpgeejaaGreatDoorRows
import Derived.ChangeArms
import Derived.ChangeSlices
import Derived.OpenShut
import Derived.Deep.Strs
import Derived.DataReads
import Derived.ProofKit
import Derived.WalkKit
import Derived.Below
import Derived.KernelRfl
import Derived.Test.YtbpmjppmpgeejaaGreatDoorProg
import Derived.Handy
import Derived.WalkLawsBesides
import Derived.Shelf.Spec.BitsCarry
import Derived.Shelf.Bits.Mul64
import Derived.Laws.Bits64b
import Derived.Lib.BitFns
import Derived.Shelf.Strconv.Itoa0
import Derived.Lib.Hide
import Derived.Laws.StructEq
import Derived.ChangeKeysEq
import Derived.Test.YtbpmjppmpgeejaaGreatDoorChecked
import Derived.Laws.IdiomArrays
import Derived.Test.YtbpmjppmpgeejaaGreatDoorHB1
set_option maxRecDepth 100000
set_option maxHeartbeats 4000000
namespace Go.Proofs.YtbpmjppmpgeejaaGreatDoor
open Go Go.RowKit
set_option linter.unusedVariables false
def yA (n:Nat)(f:Nat→Value):List Value:=(List.range n).map f
theorem kb (n:Nat)(f:Nat→Value):(yA n f).length=n:=by unfold yA;simp
theorem zap {n:Nat}{f:Nat→Value}{k:Nat}(h:k<n):(yA n f)[k]? =some (f k):=by unfold yA;simp [h]
theorem zfK {n:Nat}{f g:Nat→Value}{k:Nat}{v:Value}(h:k<n)(hg: ∀j,j<n→g j=if j=k then v else f j):(yA n f).set k v=yA n g:=by
 apply List.ext_getElem?;intro j;rw [List.getElem?_set];by_cases hj:j<n
 ·rw [zap hj,zap hj,hg j hj];by_cases hkj:k=j
  ·subst hkj;rw [if_pos rfl,if_pos (by rw [kb];exact hj),if_pos rfl]
  ·rw [if_neg hkj,if_neg (fun e=>hkj e.symm)]
 ·have e1:(yA n f)[j]? =none:=List.getElem?_eq_none (by rw [kb];omega);have e2:(yA n g)[j]? =none:=List.getElem?_eq_none (by rw [kb];omega);rw [e1,e2,if_neg (by omega)]
theorem zfL {C:Array Value}{pre post:List Value}{n:Nat}{f:Nat→Value}(hC:C.toList=pre++yA n f++post){off k:Nat}(ho:off=pre.length+k*1)(hk:k<n):C[off]? =some (f k):=by
 subst ho
 rw [←Array.getElem?_toList,hC,List.append_assoc,List.getElem?_append_right (by omega),show pre.length+k*1-pre.length=k by omega,
  List.getElem?_append_left (by rw [kb];exact hk),zap hk]
theorem zcd {C:Array Value}{pre post:List Value}{n:Nat}{f g:Nat→Value}(hC:C.toList=pre++yA n f++post){off k:Nat}{v:Value}(hv:v.cells=#[v])(ho:off=pre.length+k*1)(hk:k<n)
 (hg: ∀j,j<n→g j=if j=k then v else f j):(C.toList.take off++v.cells.toList++C.toList.drop (off+v.cells.size)).toArray=(pre++yA n g++post).toArray:=by
 subst ho;congr 1;have hlt:pre.length+k*1<C.toList.length:=by rw [hC];simp [kb];omega
 rw [hv];show List.take _ _++ [v]++List.drop (_+1) _=_;have e:List.take (pre.length+k*1) C.toList++ [v]++List.drop (pre.length+k*1+1) C.toList=C.toList.set (pre.length+k*1) v:=by
  rw [List.set_eq_take_append_cons_drop,if_pos hlt,List.append_assoc];rfl
 rw [e,hC,List.append_assoc,List.set_append_right _ _ (by omega),show pre.length+k*1-pre.length=k by omega,List.set_append_left _ _ (by rw [kb];exact hk),zfK hk hg,List.append_assoc]
theorem zfM {P:Program}{ρ:Env}{t e:TypeId}{n:Nat}(ht:P.underlying t=some (.array n e))(he:P.plainKey e=true)(hz:(P.info? e).map (·.size)=some 1){x y:Operand}{o:Oper}{kd:IntKind}(C:Array Value)(k:Nat)(v:Value)
 (ho:o.op=.index t x y) (hx:ev ρ x=.agg C) (hy:ev ρ y=.int kd (k:Int)) (hk:k<n) (hv:C[0+k*1]? =some v): ∀w,(execOp (ev ρ) o).run P w=.ok (.value v) w:=fun w=>by
 obtain ⟨it,hi,hsz⟩:=Option.map_eq_some_iff.1 hz;have hS:(sizeOf e).run P w=.ok 1 w:=by simp [sizeOf,typeInfo,hi,hsz]
 have hp:(part e C (k*1)).run P w=.ok v w:=run_part_plain w he (by rw [Nat.zero_add] at hv;exact hv);have h1:(0:Int)≤(k:Int)∧(k:Int)<(n:Int):=by omega
 unfold execOp;simp only [Nat.mul_one] at hp;simp [ho,hx,hy,Instr.index,asIntOf,run_underlying ht,hS,hp,hk]
theorem qN {P:Program}{ρ:Env}{t t':TypeId}{x y:Operand}{o:Oper}(a b:ByteArray)(w:World)(ho:o.op=.binOp .add t x y t')(hx:ev ρ x=.string a)(hy:ev ρ y=.string b)(h:a.size+b.size≤0x7fffffffffffffff):
 (execOp (ev ρ) o).run P w=.ok (.value (.string (a++b))) w:=by
 unfold execOp;simp [ho,hx,hy,eqGuard,binOp,run_string_add_sum w a b h]
theorem ke (a b:ByteArray):tl (a++b)=tl a++tl b:=by unfold tl;simp
def cellsB (l:List UInt8):List Value:=l.map fun b=>Value.int .u8 (b.toNat:Int)
theorem qm (l:List UInt8):(cellsB l).length=l.length:=by unfold cellsB;simp
theorem kU (a b:List UInt8):cellsB (a++b)=cellsB a++cellsB b:=by unfold cellsB;simp
theorem zce (l:List UInt8)(i:Nat)(hi:i<l.length):(cellsB l)[i]? =some (.int .u8 (((l.getD i 0).toNat:Nat):Int)):=by
 unfold cellsB;simp [hi]
def zf (l:List UInt8):ByteArray:=⟨l.toArray⟩
theorem xC (l:List UInt8):tl (zf l)=l:=rfl
theorem xD (s:ByteArray):zf (tl s)=s:=rfl
theorem qf (l:List UInt8):(zf l).size=l.length:=rfl
theorem zcf {P:Program}{ρ:Env}{t e:TypeId}{n z:Nat}(ht:P.underlying t=some (.array n e))(hz:(P.info? e).map (·.size)=some z){x:Operand}{o:Oper}(b:Nat)(ho:o.op=.slice t x none none none)(hx:ev ρ x=.pointer (some ⟨b,0,none⟩)):
 ∀w,(execOp (ev ρ) o).run P w=.ok (.value (.slice (some ⟨b,0,none⟩) n n)) w:=fun w=>by
 obtain ⟨it,hi,hsz⟩:=Option.map_eq_some_iff.1 hz;have hS:(sizeOf e).run P w=.ok z w:=by simp [sizeOf,typeInfo,hi,hsz]
 unfold execOp;simp [ho,hx,Instr.sliceAt,Instr.slice,Instr.sliceBounds,Instr.sureAddr,run_underlying ht,hS,yT]
theorem zcg (l:List UInt8):strOfNums (l.map fun b=>(b.toNat:Int))=zf l:=by
 unfold strOfNums zf;refine congrArg (fun l:List UInt8=>ByteArray.mk l.toArray) ?_;rw [List.map_map]
 conv=>rhs;rw [←List.map_id l]
 refine List.map_congr_left fun b _=>?_;apply UInt8.toNat_inj.1;simp
theorem Rw.atB {cur:Array Value}{cap n:Nat}{l:List UInt8}(h:Rw 1 cur cap n (cellsB l)){i:Nat}(hi:i<n)(hn:n=l.length):cur[0+i*1]? =some (.int .u8 (((l.getD i 0).toNat:Nat):Int)):=
 h.at1 hi (zce l i (by omega))
theorem zfN (z:Nat):cellsB (List.replicate z 0)=List.replicate z (.int .u8 0):=by unfold cellsB;rw [List.map_replicate];rfl
theorem Rw.putB {cur:Array Value}{cap n:Nat}{l:List UInt8}(h:Rw 1 cur cap n (cellsB l))(i:Nat)(v:UInt8)(hi:i<n):
 ∃cur',(cur.toList.take (0+i*1)++(Value.int .u8 (v.toNat:Int)).cells.toList++cur.toList.drop (0+i*1+(Value.int .u8 (v.toNat:Int)).cells.size)).toArray=cur'∧(0+i*1+(Value.int .u8 (v.toNat:Int)).cells.size≤cur.size)∧Rw 1 cur' cap n (cellsB (l.set i v)):=by
 have h1:(Value.int .u8 (v.toNat:Int)).cells=#[.int .u8 (v.toNat:Int)]:=rfl;have hsz:=h.sz;have hle:=h.le;have hlt:i<cur.toList.length:=by simp;omega
 have e:cur.toList.take (0+i*1)++(Value.int .u8 (v.toNat:Int)).cells.toList++cur.toList.drop (0+i*1+(Value.int .u8 (v.toNat:Int)).cells.size)=cur.toList.set i (.int .u8 (v.toNat:Int)):=by
  rw [h1,Nat.zero_add,Nat.mul_one,List.set_eq_take_append_cons_drop,if_pos hlt];simp
 refine ⟨_,rfl,by rw [h1];simp;omega,?_⟩;rw [e];refine ⟨?_,h.le,h.max,?_,by simpa using hsz⟩
 ·have:=h.len;unfold cellsB at this ⊢;simpa using this
 ·have:=h.take;simp only [List.take_set,Nat.mul_one] at this ⊢;rw [this];unfold cellsB;simp [List.map_set]
theorem Rw.ints {cur:Array Value}{cap n:Nat}{l:List UInt8}(h:Rw 1 cur cap n (cellsB l)):Rw 1 cur cap n ((l.map fun b=>(b.toNat:Int)).map (Value.int .u8)):=by
 rw [List.map_map];exact h
def zfO (k:IntKind)(n:Nat):Value:=.agg (Array.replicate n (.int k 0))
def qP (n:Nat)(f:Nat→BitVec 8):Value:=.agg (yA n fun j=>.int .u8 (BitVec.toNat (f j):Int)).toArray
theorem zfP {n:Nat}{f g:Nat→BitVec 8}{k off:Nat}{x:BitVec 8}(ho:off=0+k*1)(hk:k<n)(hg: ∀j,j<n→g j=if j=k then x else f j):
 ((Value.cells (qP n f)).toList.take off++(Value.int .u8 (BitVec.toNat x:Int)).cells.toList++(Value.cells (qP n f)).toList.drop (off+(Value.int .u8 (BitVec.toNat x:Int)).cells.size)).toArray=Value.cells (qP n g):=by
 rw [zcd (pre:=[]) (post:=[]) (n:=n) (f:=fun j=>.int .u8 (BitVec.toNat (f j):Int)) (g:=fun j=>.int .u8 (BitVec.toNat (g j):Int)) (by show yA n _=[]++yA n _++ [];simp) rfl (by simpa using ho) hk (fun j hj=>by rw [hg j hj];split<;>rfl)];simp;rfl
theorem zfQ (n:Nat)(f:Nat→BitVec 8)(hn:n≤maxLen):Rw 1 (Value.cells (qP n f)) n n (cellsB ((List.range n).map fun i=>UInt8.ofBitVec (f i))):=by
 have e:(Value.cells (qP n f)).toList=cellsB ((List.range n).map fun i=>UInt8.ofBitVec (f i)):=by
  show yA n _=_;unfold yA cellsB;rw [List.map_map];rfl
 rw [←e];have h2:(Value.cells (qP n f)).size=n*1:=by
  rw [←Array.length_toList,e,qm];simp
 exact Rw.lit _ n h2 hn
section
variable {P:Program}{N:Nat}{ops:Array Oper}{i:Nat}{r:List Nat}{K:Env→World→Prop}{ρ:Env}{w:World}{B:Nat}{w0:World}{l:List (Nat×Obj)}
theorem zaq (HS:St B w0 w l)(d:Option Nat)(t t' e:TypeId)(x:Operand)(j b n cap:Nat)(cur:Array Value)(T:TypeId)(fz:Nat×Nat)(xs:List UInt8)(h:opk ops i ρ=some (d,true,.convert t t' x))(hd:dOK d N=true)
 (ht:P.underlying t=some (.slice e)) (he:P.underlying e=some (.int .u8)) (ht':P.underlying t'=some .string)
 (hx:ev ρ x=.slice (some ⟨b,0,none⟩) n cap) (hj:l[j]? =some (b,.cells cur T fz)) (hr:Rw 1 cur cap n (cellsB xs))
 (kk:WPs P N ops K r (zr ρ d (.string (zf xs))) w):WPs P N ops K (i::r) ρ w:=
 zcc HS d t t' e x j b n cap cur T fz _ h hd ht he ht' hx hj hr.ints (by rw [zcg];exact kk)
end
namespace D2
section
variable {P:Program}{ops:Array Oper}{R:(Nat→Gh)→Env}{i:Nat}{d:Option Nat}
variable {E:(Nat→Bool)→(Nat→Gh)→List Ent}{F:(Nat→Bool)→(Nat→Gh)→Prop}{B:Nat}{w0:World}
end
end D2
end Go.Proofs.YtbpmjppmpgeejaaGreatDoor
namespace Go.Proofs.YtbpmjppmpgeejaaGreatDoor
open Go Go.RowKit
set_option linter.unusedVariables false
def Clr (fz:Nat×Nat)(cur:Array Value):Prop:=fz.2=0∨cur.size≤fz.1
theorem Clr.zero (cur:Array Value):Clr (0,0) cur:=.inl rfl
theorem Clr.no {fz:Nat×Nat}{cur:Array Value}(h:Clr fz cur){w:World}{g k:Nat}{t:TypeId}(hg:w.heap[g]? =some (.cells cur t fz))(hk:k<cur.size):w.frozen? ⟨g,k,none⟩=false:=by
 obtain ⟨lo,hi⟩:=fz;simp only [World.frozen?,hg,Bool.and_eq_false_iff,decide_eq_false_iff_not];rcases h with h|h
 ·right;simp only at h;omega
 ·left;simp only at h;omega
theorem zar (P:Program)(g o:Nat)(t:TypeId)(fz:Nat×Nat): ∀(vs:List Value) (i:Nat) (cur:Array Value) (w:World),w.heap[g]? =some (.cells cur t fz)→o+i+vs.length≤cur.size→Clr fz cur→(∀v∈vs,v.oneCell'=true)→
 (storeCells ⟨g,o,none⟩ vs i).run P w=.ok () (w.setRow g (cur.toList.take (o+i)++vs++cur.toList.drop (o+i+vs.length)).toArray)
 | [],i,cur,w,hg,_,_,_=>by
  simp only [storeCells,List.append_nil,List.length_nil,Nat.add_zero,List.take_append_drop,Array.toArray_toList];rw [setRow_self w g cur t fz hg];rfl
 | v::rest,i,cur,w,hg,hl,hfz,h1=>by
  have hi:o+i<cur.size:=by simp at hl;omega
  have hadd:(⟨g,o,none⟩:Addr).add i=⟨g,o+i,none⟩:=by unfold Addr.add;split<;>simp_all
  have hcell:w.cell? ⟨g,o+i,none⟩=some cur[o+i]:=by simp [World.cell?,hg,hi]
  have hfro:w.frozen? ⟨g,o+i,none⟩=false:=hfz.no hg hi;have hst:(store ((⟨g,o,none⟩:Addr).add i) v).run P w=.ok () (w.setRow g (cur.setIfInBounds (o+i) v)):=by
   rw [hadd,run_store P w _ v _ (h1 v (by simp)),hcell];simp [hfro,setCell_eq_setRow w g (o+i) cur t fz v hg]
  have ih:=zar P g o t fz rest (i+1) (cur.setIfInBounds (o+i) v) (w.setRow g (cur.setIfInBounds (o+i) v)) (setRow_heap w g cur _ t _ hg) (by simp at hl ⊢;omega) (by unfold Clr at hfz ⊢;simpa using hfz) (fun x hx=>h1 x (by simp [hx]));simp only [storeCells,Sem.run_bind,hst,Result.andThen_ok,ih,setRow_setRow];congr 3;have e:=list_seg_step cur.toList (o+i) v rest (by simp at hl ⊢;omega)
  simpa [Array.toList_setIfInBounds,Nat.add_assoc] using e
theorem zfR {P:Program}(w:World)(t ty e:TypeId)(i:TypeInfo)(z:Value)(size bytes:Nat)(ht:P.underlying t=some (.slice e))(hi:P.info? e=some i)(hz:i.zero=some z)
 (hsize:i.size=size) (hby:i.bytes=bytes) (hzs:z.cells.size=size) (hsz:0<size)
 (g cap n:Nat) (cur:Array Value) (fz:Nat×Nat) (xs:List Value) (hg:w.heap[g]? =some (.cells cur e fz)) (hfz:Clr fz cur) (hr:Rw size cur cap n xs)
 (a:Addr) (m c:Nat) (news:List Value) (hl:news.length=m*size) (hnews: ∀j u,news[j]? =some u→w.cell? (a.add j)=some u) (h1: ∀u∈news,u.oneCell'=true)
 (h63:n+m≤maxLen) (hbytes:(n+m)*bytes≤0x800000000000):
 ∃g' cap' cur' fz' w',(Builtin.append_ #[t,t] ty #[.slice (some ⟨g,0,none⟩) n cap,.slice (some a) m c]).run P w=.ok (.slice (some ⟨g',0,none⟩) (n+m) cap') w'∧(g'=g∨g'=w.heap.size)∧
  w'.heap[g']? =some (.cells cur' e fz')∧Clr fz' cur'∧Rw size cur' cap' (n+m) (xs++news)∧w.grownBy w' (some g):=by
 subst hsize;subst hby;have hlen:(xs++news).length=(n+m)*i.size:=by rw [List.length_append,hr.len,hl,Nat.add_mul]
 have hnc:=hr.le;have hcm:=hr.max;have hcs:=hr.sz;have htake:=hr.take;have hsmall:n+m≤0x7fffffffffffffff:=by simp only [maxLen] at h63;omega
 by_cases hroom:n+m≤cap
 ·have hfit:n*i.size+news.length≤cur.size:=by rw [hl,hcs,←Nat.add_mul];exact Nat.mul_le_mul_right _ hroom
  have hf:=run_firstCells_some (P:=P) w i.size m a m c news hl hnews;have hst:=zar P g (n*i.size) e fz news 0 cur w hg (by simpa using hfit) hfz h1;simp only [Nat.add_zero] at hst;have hrr:(Builtin.append_ #[t,t] ty #[.slice (some ⟨g,0,none⟩) n cap,.slice (some a) m c]).run P w=
   .ok (.slice (some ⟨g,0,none⟩) (n+m) cap) (w.setRow g (cur.toList.take (n*i.size)++news++cur.toList.drop (n*i.size+news.length)).toArray):=by
   simp [Builtin.append_,run_underlying ht,sizeOf,typeInfo,hi,Builtin.lenOf,hroom,hf,Addr.add_lit,hst]
  refine ⟨g,cap,_,fz,_,hrr,.inl rfl,setRow_heap w g cur _ e fz hg,?_,⟨hlen,hroom,hcm,?_,?_⟩,⟨rfl,rfl,rfl,by simp,fun k _ hk=>setRow_other w g k _ (fun e=>hk (by simp [e]))⟩⟩
  ·rcases hfz with h|h
   ·exact .inl h
   ·right;simp only [List.size_toArray,List.length_append,List.length_take,List.length_drop,Array.length_toList];omega
  ·rw [htake,←hlen];exact List.take_left
  ·simp only [List.size_toArray,List.length_append,List.length_take,List.length_drop,Array.length_toList];omega
 ·have holds: ∀j u,xs[j]? =some u→w.cell? ((⟨g,0,none⟩:Addr).add j)=some u:=fun j u hj=>by
   have hjl:j<n*i.size:=by rw [←hr.len];exact (List.getElem?_eq_some_iff.1 hj).1
   rw [yT,Nat.zero_add];simp [World.cell?,hg,hr.get j hjl,hj]
  have hr2:=run_append_grow (P:=P) w t ty e i z ht hi hz ⟨g,0,none⟩ n cap xs hr.len holds a m c news hl hnews (by omega) (by omega) (growslice_fits (by omega) hbytes);have hge:=grownCap_ge w (n+m) cap e;have hcm2:grownCap w (n+m) cap e≤maxLen:=grownCap_le_maxLen w (n+m) cap e h63;refine ⟨w.heap.size,_,_,(0,0),_,hr2,.inr rfl,heap_alloc_new w.drew _,Clr.zero _,⟨hlen,hge,hcm2,?_,?_⟩,⟨rfl,rfl,rfl,by simp,fun k hk _=>Go.heap_alloc_old w.drew _ hk⟩⟩
  ·simp only [Array.toList_append,List.append_assoc];rw [←List.append_assoc,←hlen];exact List.take_left
  ·simp only [Array.size_append,List.size_toArray,size_zeroCells,hzs,hr.len,hl,←Nat.add_mul];congr 1;omega
theorem zfS {P:Program}{ρ:Env}{t e:TypeId}{size bytes:Nat}(ht:yl P t=some (e,size,bytes)){x y z:Operand}{o:Oper}{kd kz:IntKind}(b n c j k:Nat)(ho:o.op=.slice t x (some z) (some y) none)(hx:ev ρ x=.slice (some ⟨b,0,none⟩) n c)
 (hy:ev ρ y=.int kd (k:Int)) (hz:ev ρ z=.int kz (j:Int)) (hk:k≤c) (hj:j≤k) (hjc:j<c) (off m:Nat) (ho':j*size=off) (hm:k-j=m):
 ∀w,(execOp (ev ρ) o).run P w=.ok (.value (.slice (some ⟨b,off,none⟩) m (c-j))) w:=fun w=>by
 subst ho' hm;obtain ⟨it,z',hu,hi,hz',hsz,hby,hzs,h0⟩:=yU ht;have hS:(sizeOf e).run P w=.ok size w:=by simp [sizeOf,typeInfo,hi,hsz]
 unfold execOp;simp [ho,hx,hy,hz,Instr.sliceAt,Instr.slice,Instr.sliceBounds,Instr.sliceBound,asIntOf,run_underlying hu,hS,hk,hj,yT,show ¬c=j by omega]
theorem zfT {P:Program}{w:World}{t t' e:TypeId}(ht:P.underlying t=some (.slice e))(he:P.underlying e=some (.int .u8))(ht':P.underlying t'=some .string){ρ:Env}{x:Operand}{b off n cap c0 n0:Nat}{cur:Array Value}{T:TypeId}{fz:Nat×Nat}{xs:List UInt8}
 (hx:ev ρ x=.slice (some ⟨b,off,none⟩) n cap) (hb:w.heap[b]? =some (.cells cur T fz)) (hr:Rw 1 cur c0 n0 (cellsB xs)) (hfit:off+n≤n0) (o:Oper) (ho:o.op=.convert t t' x):
 (execOp (ev ρ) o).run P w=.ok (.value (.string (zf ((xs.drop off).take n)))) w:=by
 have hlen:xs.length=n0:=by have:=hr.len;rw [qm] at this;omega
 have hc:=run_convert_bytes_arg (P:=P) w t e ht he b off n cap (((xs.drop off).take n).map fun b=>(b.toNat:Int)) (by rw [List.length_map,List.length_take,List.length_drop];omega) (fun q hq=>by
  have h2:=hr.get (off+q) (by omega);have h3:=zce xs (off+q) (by omega);have e1:w.cell? ⟨b,off+q,none⟩=cur[off+q]? :=by simp [World.cell?,hb]
  rw [e1,h2,h3];have h4:off+q<xs.length:=by omega
  simp [List.getD,hq,h4]) t' ht'
 unfold execOp;simp only [ho,hx,hc,Sem.run_bind,Result.andThen_ok];rw [zcg];rfl
section
variable {P:Program}{N:Nat}{ops:Array Oper}{i:Nat}{r:List Nat}{K:Env→World→Prop}{ρ:Env}{w:World}{B:Nat}{w0:World}{l:List (Nat×Obj)}
theorem zfU (HS:St B w0 w l)(d:Option Nat)(t t' e:TypeId)(x:Operand)(s:ByteArray)(h:opk ops i ρ=some (d,true,.convert t t' x))(hd:dOK d N=true)
 (ht:P.underlying t=some .string) (ht':P.underlying t'=some (.slice e)) (he:P.underlying e=some (.int .u8)) (hx:ev ρ x=.string s) (hm:s.size≤maxLen)
 (kk: ∀b cap cur fz w',St B w0 w' ((b,.cells cur e fz)::l)→Clr fz cur→Rw 1 cur cap s.size (cellsB (tl s))→WPs P N ops K r (zr ρ d (.slice (some ⟨b,0,none⟩) s.size cap)) w'):WPs P N ops K (i::r) ρ w:=by
 refine vI d _ (.slice (some ⟨w.drew.heap.size,0,none⟩) s.size (grownCap w s.size 0 e)) _ h hd (fun o ho=>?_) (kk w.drew.heap.size (grownCap w s.size 0 e) _ _ _ (HS.drew.alloc (.cells (bytesRow s (grownCap w s.size 0 e)) e ((bytesRow s (grownCap w s.size 0 e)).size,(bytesRow s (grownCap w s.size 0 e)).size+1))) (.inr (Nat.le_refl _)) ?_)
 ·have hc:=run_bytes_of_string (P:=P) w t t' e s ht ht' he;unfold execOp;simp only [ho,hx,hc,Sem.run_bind,Result.andThen_ok];rfl
 ·have hge:=grownCap_ge w s.size 0 e;have hcm:=grownCap_le_maxLen w s.size 0 e hm;have hsz:s.data.size=s.size:=rfl;refine ⟨by rw [qm,yn];omega,hge,hcm,?_,?_⟩
  ·have e1:(bytesRow s (grownCap w s.size 0 e)).toList=cellsB (tl s)++List.replicate (grownCap w s.size 0 e-s.size) (.int .u8 0):=by
    unfold bytesRow cellsB tl;simp
   rw [e1,List.take_append_of_le_length (by rw [qm,yn];omega),List.take_of_length_le (by rw [qm,yn];omega)]
  ·unfold bytesRow;simp;omega
theorem zch (HS:St B w0 w l)(d:Option Nat)(t e:TypeId)(size bytes:Nat)(s x:Operand)(j k b bx n m cap c:Nat)(cur CX:Array Value)(fzs:Nat×Nat)(TX:TypeId)(fz:Nat×Nat)(xs news:List Value)(l':Nat→Array Value→Nat×Nat→List (Nat×Obj))
 (h:opk ops i ρ=some (d,true,yi t s x)) (hd:dOK d N=true) (ht:yl P t=some (e,size,bytes))
 (hs:ev ρ s=.slice (some ⟨b,0,none⟩) n cap) (hj:l[j]? =some (b,.cells cur e fzs)) (hfz:Clr fzs cur) (hr:Rw size cur cap n xs)
 (hx:ev ρ x=.slice (some ⟨bx,0,none⟩) m c) (hk:l[k]? =some (bx,.cells CX TX fz)) (hn:CX.toList.take (m*size)=news) (hl:news.length=m*size) (h1: ∀u∈news,u.oneCell'=true)
 (hb:(n+m)*bytes≤0x800000000000) (hm:n+m≤maxLen)
 (hl': ∀b' cur' fz',l.set j (b',.cells cur' e fz')=l' b' cur' fz')
 (kk: ∀b' cap' cur' fz' w',St B w0 w' (l' b' cur' fz')→Clr fz' cur'→Rw size cur' cap' (n+m) (xs++news)→WPs P N ops K r (zr ρ d (.slice (some ⟨b',0,none⟩) (n+m) cap')) w'):WPs P N ops K (i::r) ρ w:=by
 obtain ⟨o,ho,rfl,hw,hop⟩:=zE h;obtain ⟨it,z,hu,hi,hz,hsz,hby,hzs,h0⟩:=yU ht;have hnews: ∀q u,news[q]? =some u→w.cell? ((⟨bx,0,none⟩:Addr).add q)=some u:=fun q u hq=>by
  have hql:q<m*size:=by rw [←hl];exact (List.getElem?_eq_some_iff.1 hq).1
  rw [←hn,List.getElem?_take,if_pos hql,Array.getElem?_toList] at hq;rw [yT,Nat.zero_add];simp [World.cell?,HS.get k hk,hq]
 obtain ⟨g',cap',cur',fz',w',hrun,hgb,hg,hclr,hrw,hgr⟩:=zfR (P:=P) w t o.type e it z size bytes hu hi hz hsz hby hzs h0 b cap n cur fzs xs (HS.get j hj) hfz hr ⟨bx,0,none⟩ m c news hl hnews h1 hm hb;refine WPo.run ho hw fun a ha=>?_;have hex:(execOp (ev ρ) o).run P w=.ok (.value (.slice (some ⟨g',0,none⟩) (n+m) cap')) w':=by
  unfold execOp;simp only [hop,yi,resolve,invoke,builtin,Sem.run_bind,Sem.run_pure,Result.andThen_ok,List.map_toArray,List.map_cons,List.map_nil,hs,hx,hrun]
 rw [hex,Oper.upon_value];have HS':=HS.grown j hj hgr hgb hg;rw [hl'] at HS';exact ⟨_,ha.put _ (zV hd) _,kk g' cap' cur' fz' w' HS' hclr hrw⟩
theorem zfV (HS:St B w0 w l)(j:Nat)(l':List (Nat×Obj))(t:TypeId)(x y:Operand)(b off:Nat)(C C':Array Value)(T:TypeId)(fz:Nat×Nat)(v:Value)
 (h:opk ops i ρ=some (none,true,.store t x y)) (hx:ev ρ x=.pointer (some ⟨b,off,none⟩)) (hy:ev ρ y=v) (hk:l[j]? =some (b,.cells C T fz)) (hfz:Clr fz C) (hi:(P.info? t).map (·.size)=some v.cells.size) (h1:v.cells.all (·.oneCell')=true)
 (hs:off+v.cells.size≤C.size) (hC:(C.toList.take off++v.cells.toList++C.toList.drop (off+v.cells.size)).toArray=C') (hl:l.set j (b,.cells C' T fz)=l')
 (kk: ∀w',St B w0 w' l'→Clr fz C'→WPs P N ops K r ρ w'):WPs P N ops K (i::r) ρ w:=by
 subst hl;have hcl:Clr fz C':=by
  rcases hfz with q|q
  ·exact .inl q
  ·right;rw [←hC];simp only [List.size_toArray,List.length_append,List.length_take,List.length_drop,Array.length_toList];omega
 refine zbB none _ (w.setRow b C') h rfl (fun o ho=>?_) (kk _ (HS.store j hk) hcl);have hc:=zar P b off T fz v.cells.toList 0 C w (HS.get j hk) (by simpa using hs) hfz (fun x hx=>(Array.all_eq_true_iff_forall_mem.1 h1) x (by simpa using hx));have hst:(storeVar t ⟨b,off,none⟩ v).run P w=.ok () (w.setRow b C'):=by
  cases hq:P.info? t with
  | none=>simp [hq] at hi
  | some it=>
   have hsz:v.cells.size=it.size:=by simp [hq] at hi;omega
   rw [←hC];simp [storeVar,sizeOf,typeInfo,hq,hsz] at hc ⊢;exact hc
 simp [execOp,ho,Instr.storeAt,Instr.sureAddr,hx,hy,hst]
end
namespace D2
section
variable {P:Program}{ops:Array Oper}{R:(Nat→Gh)→Env}{i:Nat}{d:Option Nat}
variable {E:(Nat→Bool)→(Nat→Gh)→List Ent}{F:(Nat→Bool)→(Nat→Gh)→Prop}{B:Nat}{w0:World}
theorem gv_bytesCut (k:Nat)(t t' e:TypeId)(x:Operand)(b:(Nat→Gh)→Nat)(off n cap c0 n0:Nat)(cur:Array Value)(T:TypeId)(fz:Nat×Nat)(xs:List UInt8)(hs: ∀L g w,Pre B w0 E F L g w→Pre B w0 E F (put1 L i) g w)
 (h: ∀g,opk ops i (R g)=some (d,true,.convert t t' x)) (ht:P.underlying t=some (.slice e)) (he:P.underlying e=some (.int .u8)) (ht':P.underlying t'=some .string)
 (hx: ∀g,ev (R g) x=.slice (some ⟨b g,off,none⟩) n cap) (hj: ∀L g,Now ops i L→(E L g)[k]? =some (true,(b g,.cells cur T fz))) (hr:Rw 1 cur c0 n0 (cellsB xs)) (hfit:off+n≤n0):
 Gives P ops R (Pre B w0 E F) i d (fun _=>.string (zf ((xs.drop off).take n))):=gives_of fun L g w hp hN=>by
 obtain ⟨o,ho,hd,hw,hop⟩:=zE (h g);have e2:=zfT ht he ht' (hx g) (hp.1.get k (hj L g hN)) hr hfit o hop;exact ⟨o,ho,hd,.inr ⟨hw,by rw [e2];exact ⟨g i,rfl,by rw [setN_self];exact hs _ _ _ hp⟩⟩⟩
end
end D2
end Go.Proofs.YtbpmjppmpgeejaaGreatDoor
namespace Go.Proofs.YtbpmjppmpgeejaaGreatDoor
open Go Go.RowKit
set_option linter.unusedVariables false
theorem toList_eq (s:ByteArray):s.toList=tl s:=ByteArray.toList_eq s
theorem xE (a b:ByteArray)(h:a=b):(a.toList==b.toList)=true:=by subst h;exact jd a
theorem jB (a b:ByteArray)(h: ¬a=b):(a.toList==b.toList)=false:=by
 rw [beq_eq_false_iff_ne];intro e;rw [toList_eq,toList_eq] at e;exact h (by rw [←xD a,e,xD])
theorem kV {a b:ByteArray}(h:tl a=tl b):a=b:=by rw [←xD a,h,xD]
section
variable {P:Program}{N:Nat}{ops:Array Oper}{i:Nat}{r:List Nat}{K:Env→World→Prop}{ρ:Env}{w:World}{B:Nat}{w0:World}{l:List (Nat×Obj)}
def zas (t t':TypeId)(x y:Operand):Op:=.call { callee:=.builtin .unsafeString,args:=#[x,y],argTypes:=#[t,t'] }
theorem zfW {t e:TypeId}{size bytes:Nat}(ht:yl P t=some (e,size,bytes)){x y:Operand}{o:Oper}{kd:IntKind}(a:Addr)(n c k:Nat)(ho:o.op=.slice t x none (some y) none)(hx:ev ρ x=.slice (some a) n c)(hy:ev ρ y=.int kd (k:Int))(hk:k≤c):
 ∀w,(execOp (ev ρ) o).run P w=.ok (.value (.slice (some a) k c)) w:=fun w=>by
 obtain ⟨it,z,hu,hi,hz,hsz,hby,hzs,h0⟩:=yU ht;have hS:(sizeOf e).run P w=.ok size w:=by simp [sizeOf,typeInfo,hi,hsz]
 have ha:a.add 0=a:=rfl;unfold execOp;simp [ho,hx,hy,Instr.sliceAt,Instr.slice,Instr.sliceBounds,Instr.sliceBound,asIntOf,run_underlying hu,hS,hk,ha]
end
inductive Fr (α:Type)
 | nil
 | cons (a:α) (k r:Fr α)
structure Sh (α:Type) where
 K:Nat
 hd:α→List Value
 ok:α→Prop
 mx:Nat
 len: ∀a,(hd a).length+1=K
 one: ∀a,∀u∈hd a,u.oneCell'=true
section
variable {α:Type}{S:Sh α}
def Fr.len:Fr α→Nat
 | .nil=>0
 | .cons _ _ r=>r.len+1
def Fr.at:Fr α→Nat→Option (α×Fr α)
 | .nil,_=>none
 | .cons a k _,0=>some (a,k)
 | .cons _ _ r,i+1=>r.at i
theorem Fr.at_none: ∀ {k:Fr α} {i:Nat},k.len≤i→k.at i=none
 | .nil,_,_=>rfl
 | .cons _ _ r,0,h=>by simp only [Fr.len] at h;omega
 | .cons _ _ r,i+1,h=>Fr.at_none (k:=r) (by simp only [Fr.len] at h;omega)
def qn (S:Sh α)(B:Nat)(w:World):Fr α→Nat→Nat→Prop
 | .nil,_,_=>True
 | .cons a k r,b,off=>(∃(C:Array Value) (T:TypeId) (fz:Nat×Nat) (p:Option Addr) (n c:Nat),b<B∧w.heap[b]? =some (.cells C T fz)∧off+S.K≤C.size∧
  C.extract off (off+S.K)=(S.hd a++ [Value.slice p n c]).toArray∧S.ok a∧n=k.len∧n≤S.mx∧(k=.nil∨∃b' off',p=some ⟨b',off',none⟩∧qn S B w k b' off'))∧qn S B w r b (off+S.K)
def SlR (S:Sh α)(B:Nat)(w:World)(p:Option Addr)(n:Nat)(k:Fr α):Prop:=n=k.len∧n≤S.mx∧(k=.nil∨∃b off,p=some ⟨b,off,none⟩∧qn S B w k b off)
def FrR (S:Sh α)(B:Nat)(w:World)(p:Option Addr)(i:Nat)(r:Fr α):Prop:=r=.nil∨∃b off,p=some ⟨b,off,none⟩∧qn S B w r b (off+i*S.K)
theorem qn.up {B B':Nat}{w w':World}(hb:Below B w w')(hB:B≤B'): ∀ {k:Fr α} {b off:Nat},qn S B w k b off→qn S B' w' k b off
 | .nil,_,_,_=>trivial
 | .cons a k r,b,off,⟨⟨C,T,fz,p,n,c,h1,h2,h3,h4,h5,h6,h7,h8⟩,h9⟩=>
  ⟨⟨C,T,fz,p,n,c,Nat.lt_of_lt_of_le h1 hB,by rw [hb.block b h1];exact h2,h3,h4,h5,h6,h7,h8.imp id fun ⟨b',o',e,h⟩=>⟨b',o',e,qn.up hb hB h⟩⟩,qn.up hb hB h9⟩
theorem SlR.up {B B':Nat}{w w':World}{p:Option Addr}{n:Nat}{k:Fr α}(h:SlR S B w p n k)(hb:Below B w w')(hB:B≤B'):SlR S B' w' p n k:=
 ⟨h.1,h.2.1,h.2.2.imp id fun ⟨b,o,e,h⟩=>⟨b,o,e,h.up hb hB⟩⟩
theorem SlR.call {w0 w:World}{p:Option Addr}{n:Nat}{k:Fr α}(h:SlR S w0.heap.size w0 p n k)(hb:Below w0.heap.size w0 w):SlR S w.heap.size w p n k:=h.up hb hb.size
theorem SlR.nil (B:Nat)(w:World)(p:Option Addr):SlR S B w p 0 .nil:=⟨rfl,by omega,.inl rfl⟩
theorem SlR.start {B:Nat}{w:World}{p:Option Addr}{n:Nat}{k:Fr α}(h:SlR S B w p n k):FrR S B w p 0 k:=
 h.2.2.imp id fun ⟨b,o,e,h⟩=>⟨b,o,e,by rw [Nat.zero_mul,Nat.add_zero];exact h⟩
theorem FrR.open {B:Nat}{w:World}{p:Option Addr}{i n:Nat}{r:Fr α}(h:FrR S B w p i r)(hn:i+r.len=n)(hi:i<n):
 ∃a k r' b off C T fz p' n' c',r=.cons a k r'∧p=some ⟨b,off,none⟩∧b<B∧w.heap[b]? =some (.cells C T fz)∧off+i*S.K+S.K≤C.size∧
  C.extract (off+i*S.K) (off+i*S.K+S.K)=(S.hd a++ [Value.slice p' n' c']).toArray∧S.ok a∧SlR S B w p' n' k∧FrR S B w p (i+1) r'∧i+1+r'.len=n:=by
 cases r with
 | nil=>simp only [Fr.len] at hn;omega
 | cons a k r'=>
  rcases h with h|⟨b,off,e,⟨C,T,fz,p',n',c',h1,h2,h3,h4,h5,h6,h7,h8⟩,h9⟩
  ·cases h
  ·refine ⟨a,k,r',b,off,C,T,fz,p',n',c',rfl,e,h1,h2,h3,h4,h5,⟨h6,h7,h8⟩,.inr ⟨b,off,e,?_⟩,?_⟩
   ·rw [show off+(i+1)*S.K=off+i*S.K+S.K by rw [Nat.succ_mul];omega];exact h9
   ·simp only [Fr.len] at hn;omega
theorem FrR.done {i n:Nat}{r:Fr α}(hn:i+r.len=n)(hi: ¬i<n):r=.nil:=by
 cases r with
 | nil=>rfl
 | cons a k r'=>simp only [Fr.len] at hn;omega
theorem qn.at {B:Nat}{w:World} : ∀ {k:Fr α} {b off i:Nat} {a:α} {q:Fr α},qn S B w k b off→k.at i=some (a,q)→∃C T fz p n c,b<B∧w.heap[b]? =some (.cells C T fz)∧off+i*S.K+S.K≤C.size∧
 C.extract (off+i*S.K) (off+i*S.K+S.K)=(S.hd a++ [Value.slice p n c]).toArray∧S.ok a∧SlR S B w p n q
 | .cons a0 k0 r,b,off,0,a,q,⟨⟨C,T,fz,p,n,c,h1,h2,h3,h4,h5,h6,h7,h8⟩,h9⟩,hi=>by
  obtain ⟨rfl,rfl⟩:a0=a∧k0=q:=by simp only [Fr.at,Option.some.injEq,Prod.mk.injEq] at hi;exact hi
  rw [Nat.zero_mul,Nat.add_zero];exact ⟨C,T,fz,p,n,c,h1,h2,h3,h4,h5,h6,h7,h8⟩
 | .cons a0 k0 r,b,off,i+1,a,q,⟨_,h9⟩,hi=>by
  obtain ⟨C,T,fz,p,n,c,h⟩:=qn.at h9 hi;rw [show off+S.K+i*S.K=off+(i+1)*S.K by rw [Nat.succ_mul];omega] at h;exact ⟨C,T,fz,p,n,c,h⟩
theorem Fr.at_some: ∀ {k:Fr α} {i:Nat},i<k.len→∃a q,k.at i=some (a,q)
 | .cons a k r,0,_=>⟨a,k,rfl⟩
 | .cons a k r,i+1,h=>Fr.at_some (k:=r) (by simp only [Fr.len] at h;omega)
def LyR (S:Sh α)(T:List (Nat×Obj)):Fr α→Nat→Nat→Prop
 | .nil,_,_=>True
 | .cons a k r,b,off=>(∃(C:Array Value) (ty:TypeId) (fz:Nat×Nat) (p:Option Addr) (n c:Nat),(b,Obj.cells C ty fz)∈T∧off+S.K≤C.size∧
  C.extract off (off+S.K)=(S.hd a++ [Value.slice p n c]).toArray∧S.ok a∧n=k.len∧n≤S.mx∧(k=.nil∨∃b' off',p=some ⟨b',off',none⟩∧LyR S T k b' off'))∧LyR S T r b (off+S.K)
def RIn (S:Sh α)(T:List (Nat×Obj))(p:Option Addr)(n:Nat)(k:Fr α):Prop:=n=k.len∧n≤S.mx∧(k=.nil∨∃b off,p=some ⟨b,off,none⟩∧LyR S T k b off)
theorem LyR.mono {T T':List (Nat×Obj)}(h: ∀e∈T,e∈T'): ∀ {k:Fr α} {b off:Nat},LyR S T k b off→LyR S T' k b off
 | .nil,_,_,_=>trivial
 | .cons a k r,b,off,⟨⟨C,ty,fz,p,n,c,h1,h2,h3,h4,h5,h6,h7⟩,h8⟩=>⟨⟨C,ty,fz,p,n,c,h _ h1,h2,h3,h4,h5,h6,h7.imp id fun ⟨b',o',e,q⟩=>⟨b',o',e,LyR.mono h q⟩⟩,LyR.mono h h8⟩
theorem RIn.mono {T T':List (Nat×Obj)}{p:Option Addr}{n:Nat}{k:Fr α}(hs:RIn S T p n k)(h: ∀e∈T,e∈T'):RIn S T' p n k:=
 ⟨hs.1,hs.2.1,hs.2.2.imp id fun ⟨b,o,e,q⟩=>⟨b,o,e,q.mono h⟩⟩
theorem RIn.none (T:List (Nat×Obj))(p:Option Addr):RIn S T p 0 .nil:=⟨rfl,by omega,.inl rfl⟩
theorem LyR.at {B:Nat}{w0 w:World}{l T:List (Nat×Obj)}(hS:St B w0 w l)(h: ∀e∈T,e∈l): ∀ {k:Fr α} {b off:Nat},LyR S T k b off→qn S w.heap.size w k b off
 | .nil,_,_,_=>trivial
 | .cons a k r,b,off,⟨⟨C,ty,fz,p,n,c,h1,h2,h3,h4,h5,h6,h7⟩,h8⟩=>
  have hh:=(hS.own _ (h _ h1)).2
  ⟨⟨C,ty,fz,p,n,c,zz hh,hh,h2,h3,h4,h5,h6,h7.imp id fun ⟨b',o',e,q⟩=>⟨b',o',e,LyR.at hS h q⟩⟩,LyR.at hS h h8⟩
theorem RIn.at {B:Nat}{w0 w:World}{l T:List (Nat×Obj)}{p:Option Addr}{n:Nat}{k:Fr α}(hs:RIn S T p n k)(hS:St B w0 w l)(h: ∀e∈T,e∈l):SlR S w.heap.size w p n k:=
 ⟨hs.1,hs.2.1,hs.2.2.imp id fun ⟨b,o,e,q⟩=>⟨b,o,e,q.at hS h⟩⟩
structure El (α:Type) where
 a:α
 p:Option Addr
 n:Nat
 c:Nat
 k:Fr α
def El.cs (S:Sh α)(x:El α):List Value:=S.hd x.a++ [Value.slice x.p x.n x.c]
def zC (S:Sh α):List (El α)→List Value
 | []=>[]
 | x::r=>x.cs S++zC S r
def yM:List (El α)→Fr α
 | []=>.nil
 | x::r=>.cons x.a x.k (yM r)
theorem zci: ∀L:List (El α),(yM L).len=L.length
 | []=>rfl
 | x::r=>by simp only [yM,Fr.len,List.length_cons,zci r]
theorem El.cs_len (x:El α):(x.cs S).length=S.K:=by
 unfold El.cs;rw [List.length_append];exact S.len x.a
theorem El.cs_one (x:El α): ∀u∈x.cs S,u.oneCell'=true:=fun u hu=>by
 rcases List.mem_append.1 hu with h|h
 ·exact S.one x.a u h
 ·obtain rfl:=List.mem_singleton.1 h;rfl
theorem jl: ∀L:List (El α),(zC S L).length=L.length*S.K
 | []=>by simp [zC]
 | x::r=>by simp only [zC,List.length_append,jl r,El.cs_len,List.length_cons,Nat.succ_mul];omega
theorem kf (x:El α): ∀L:List (El α),zC S (L++ [x])=zC S L++x.cs S
 | []=>by simp [zC]
 | y::r=>by simp only [List.cons_append,zC,kf x r,List.append_assoc]
theorem zat: ∀(L:List (El α)) (i:Nat) (x:El α),L[i]? =some x→ ∀j,j<S.K→(zC S L)[i*S.K+j]? =(x.cs S)[j]?
 | y::r,0,x,h,j,hj=>by
  obtain rfl:y=x:=by simpa using h
  rw [Nat.zero_mul,Nat.zero_add];unfold zC;rw [List.getElem?_append_left (by rw [El.cs_len];exact hj)]
 | y::r,i+1,x,h,j,hj=>by
  unfold zC;rw [List.getElem?_append_right (by rw [El.cs_len,Nat.succ_mul];omega),El.cs_len,show (i+1)*S.K+j-S.K=i*S.K+j by rw [Nat.succ_mul];omega];exact zat r i x (by simpa using h) j hj
theorem exE {C:Array Value}{o:Nat}{x:List Value}{K:Nat}(hl:x.length=K)(h: ∀j,j<K→C[o+j]? =x[j]?)(h0:0<K):o+K≤C.size∧C.extract o (o+K)=x.toArray:=by
 have hz:o+K≤C.size:=by
  have h1:=h (K-1) (by omega);rw [List.getElem?_eq_getElem (by omega)] at h1;obtain ⟨h2,_⟩:=Array.getElem?_eq_some_iff.1 h1;omega
 refine ⟨hz,?_⟩;apply Array.ext_getElem?;intro j;have e:x.toArray[j]? =x[j]? :=by simp
 rw [Array.getElem?_extract,e];split
 ·rename_i hj
  exact h j (by omega)
 ·rename_i hj
  rw [List.getElem?_eq_none (by omega)]
theorem Sh.pos (S:Sh α)(a:α):0<S.K:=by have:=S.len a;omega
theorem Rw.atE {cur:Array Value}{cap n:Nat}{L:List (El α)}(h:Rw S.K cur cap n (zC S L)){i:Nat}{x:El α}(hx:L[i]? =some x):i*S.K+S.K≤cur.size∧cur.extract (i*S.K) (i*S.K+S.K)=(x.cs S).toArray:=by
 have hl:=h.len;rw [jl] at hl;have hi:i<L.length:=(List.getElem?_eq_some_iff.1 hx).1;refine exE x.cs_len (fun j hj=>?_) (S.pos x.a)
 rw [h.get _ (by
  rw [←hl];have:i*S.K+S.K≤L.length*S.K:=by rw [←Nat.succ_mul];exact Nat.mul_le_mul_right _ hi
  omega),zat L i x hx j hj]
def AllE (S:Sh α)(T:List (Nat×Obj))(L:List (El α)):Prop:= ∀x∈L,RIn S T x.p x.n x.k∧S.ok x.a
theorem AllE.mono {T T':List (Nat×Obj)}{M:List (El α)}(h:AllE S T M)(hs: ∀e∈T,e∈T'):AllE S T' M:=fun x hx=>⟨(h x hx).1.mono hs,(h x hx).2⟩
theorem AllE.snoc {T:List (Nat×Obj)}{M:List (El α)}{x:El α}(h:AllE S T M)(hx:RIn S T x.p x.n x.k)(hz:S.ok x.a):AllE S T (M++ [x]):=fun y hy=>by
 rcases List.mem_append.1 hy with q|q
 ·exact h y q
 ·obtain rfl:=List.mem_singleton.1 q;exact ⟨hx,hz⟩
theorem zcj {T:List (Nat×Obj)}{b:Nat}{C:Array Value}{ty:TypeId}{fz:Nat×Nat}(hm:(b,Obj.cells C ty fz)∈T): ∀(L:List (El α)) (o:Nat),
 (∀(i:Nat) (x:El α),L[i]? =some x→o+i*S.K+S.K≤C.size∧C.extract (o+i*S.K) (o+i*S.K+S.K)=(x.cs S).toArray)→AllE S T L→LyR S T (yM L) b o
 | [],_,_,_=>trivial
 | x::r,o,h,hA=>by
  have h1:=h 0 x rfl;rw [Nat.zero_mul,Nat.add_zero] at h1;have ha:=hA x (List.mem_cons_self ..);refine ⟨⟨C,ty,fz,x.p,x.n,x.c,hm,h1.1,h1.2,ha.2,ha.1.1,ha.1.2.1,ha.1.2.2⟩,?_⟩;refine zcj hm r (o+S.K) (fun i y hy=>?_) fun y hy=>hA y (List.mem_cons_of_mem _ hy);have:=h (i+1) y (by simpa using hy);rw [show o+(i+1)*S.K=o+S.K+i*S.K by rw [Nat.succ_mul];omega] at this;exact this
theorem Rw.rIn {cur:Array Value}{cap n:Nat}{L:List (El α)}(h:Rw S.K cur cap n (zC S L))(hK:0<S.K){T:List (Nat×Obj)}{b:Nat}{ty:TypeId}{fz:Nat×Nat}(hm:(b,Obj.cells cur ty fz)∈T)(hA:AllE S T L)(hn:n≤S.mx):RIn S T (some ⟨b,0,none⟩) n (yM L):=by
 have hl:=h.len;rw [jl] at hl;have hln:L.length=n:=Nat.eq_of_mul_eq_mul_right hK hl;refine ⟨by rw [zci];omega,hn,.inr ⟨b,0,rfl,zcj hm L 0 (fun i x hx=>?_) hA⟩⟩;rw [Nat.zero_add];exact h.atE hx
def RowE (S:Sh α)(ty:TypeId)(p:Option Addr)(n c:Nat)(row:List (Nat×Obj))(L:List (El α)):Prop:=(p=none∧n=0∧c=0∧row=[]∧L=[])∨∃b cur,p=some ⟨b,0,none⟩∧row=[(b,.cells cur ty (0,0))]∧Rw S.K cur c n (zC S L)
theorem RowE.len {ty:TypeId}{p:Option Addr}{n c:Nat}{row:List (Nat×Obj)}{L:List (El α)}(h:RowE S ty p n c row L)(hK:0<S.K):n=L.length:=by
 rcases h with ⟨_,rfl,_,_,rfl⟩|⟨b,cur,_,_,hr⟩
 ·rfl
 ·have hl:=hr.len;rw [jl] at hl;exact (Nat.eq_of_mul_eq_mul_right hK hl).symm
theorem RowE.rIn {ty:TypeId}{p:Option Addr}{n c:Nat}{row T:List (Nat×Obj)}{L:List (El α)}(h:RowE S ty p n c row L)(hK:0<S.K)(hA:AllE S T L)(hn:n≤S.mx):RIn S (row++T) p n (yM L):=by
 rcases h with ⟨rfl,rfl,rfl,rfl,rfl⟩|⟨b,cur,rfl,rfl,hr⟩
 ·exact RIn.none _ _
 ·exact hr.rIn (b:=b) (ty:=ty) (fz:=(0,0)) hK (by simp) (hA.mono fun e he=>List.mem_append_right _ he) hn
end
theorem zfX {P:Program}{ρ:Env}{w:World}{b off:Nat}{C:Array Value}{T t:TypeId}{fz:Nat×Nat}{x:Operand}{v:Value}(hh:w.heap[b]? =some (.cells C T fz))(ht:oneCell P t=true)(hx:ev ρ x=.pointer (some ⟨b,off,none⟩))(hv:C[off]? =some v)(o:Oper)(ho:o.op=.load t x):
 (execOp (ev ρ) o).run P w=.ok (.value v) w:=by
 have:=jv (P:=P) (w:=w) ht hh hv;simp [execOp,ho,Instr.loadAt,Instr.sureAddr,hx,this]
theorem kW {P:Program}{ρ:Env}{w:World}{b off:Nat}{C C':Array Value}{T t:TypeId}{x y:Operand}{v:Value}(hh:w.heap[b]? =some (.cells C T (0,0)))(hi:(P.info? t).map (·.size)=some v.cells.size)(h1:v.cells.all (·.oneCell')=true)(hs:off+v.cells.size≤C.size)
 (hC:(C.toList.take off++v.cells.toList++C.toList.drop (off+v.cells.size)).toArray=C') (hx:ev ρ x=.pointer (some ⟨b,off,none⟩)) (hy:ev ρ y=v) (o:Oper) (ho:o.op=.store t x y):(execOp (ev ρ) o).run P w=.ok .skip (w.setRow b C'):=by
 have:=xv (P:=P) (w:=w) hi h1 hh hs;rw [hC] at this;simp [execOp,ho,Instr.storeAt,Instr.sureAddr,hx,hy,this]
theorem St.perm {B:Nat}{w0 w:World}{l l':List (Nat×Obj)}(h:St B w0 w l)(hp:l'.Perm l):St B w0 w l':=
 ⟨h.below,h.le,fun x hx=>h.own x (hp.mem_iff.1 hx),((hp.map (·.1)).nodup_iff).2 h.nd⟩
theorem St.addAll {B:Nat}{w0 w w':World}{l T:List (Nat×Obj)}(h:St B w0 w l)(hT:St w.heap.size w w' T):St B w0 w' (T++l):=by
 have h':=h.call hT.below;refine ⟨h'.below,h'.le,?_,?_⟩
 ·intro e he;rcases List.mem_append.1 he with he | he
  ·exact ⟨Nat.le_trans h.le (hT.own e he).1,(hT.own e he).2⟩
  ·exact h'.own e he
 ·rw [List.map_append,List.nodup_append];refine ⟨hT.nd,h'.nd,?_⟩;intro x hx y hy q;obtain ⟨e,he,rfl⟩:=List.mem_map.1 hx;obtain ⟨e',he',rfl⟩:=List.mem_map.1 hy;have h1:=(hT.own e he).1;have h2:=zz (h.own e' he').2;omega
section
variable {P:Program}{ρ:Env}{w w0:World}{B:Nat}{l:List (Nat×Obj)}
theorem vW {K:Nat}(HS:St B w0 w l){t e bytes:Nat}{s x:Operand}{o:Oper}{j k b bx n cap c:Nat}{cur Y:Array Value}{xs:List Value}(ht:yl P t=some (e,K,bytes))(ho:o.op=yi t s x)
 (hs:ev ρ s=.slice (some ⟨b,0,none⟩) n cap) (hj:l[j]? =some (b,.cells cur e (0,0))) (hr:Rw K cur cap n xs) (hx:ev ρ x=.slice (some ⟨bx,0,none⟩) 1 c) (hk:l[k]? =some (bx,.cells Y e (0,0)))
 (hY:Y.size=K) (hone: ∀u∈Y.toList,u.oneCell'=true)
 (hb:(n+1)*bytes≤0x800000000000) (hm:n+1≤maxLen):∃b' cap' cur' w',(execOp (ev ρ) o).run P w=.ok (.value (.slice (some ⟨b',0,none⟩) (n+1) cap')) w'∧St B w0 w' (l.set j (b',.cells cur' e (0,0)))∧Rw K cur' cap' (n+1) (xs++Y.toList):=by
 obtain ⟨it,z,hu,hi,hz,hsz,hby,hzs,h0⟩:=yU ht;have hnews: ∀q u,(Y.toList)[q]? =some u→w.cell? ((⟨bx,0,none⟩:Addr).add q)=some u:=fun q u hq=>by
  rw [Array.getElem?_toList] at hq;rw [yT,Nat.zero_add];simp [World.cell?,HS.get k hk,hq]
 obtain ⟨v',w',hrun,hown,hgr,hnil,hblk⟩:=run_append_own_at (P:=P) w B t o.type e it z K bytes hu hi hz hsz hby hzs h0 _ n xs (hr.owns (HS.ge j hj) (HS.get j hj)) ⟨bx,0,none⟩ 1 c Y.toList (by rw [Array.length_toList,hY,Nat.one_mul]) hnews hone hm hb HS.le;have hown':=hown;rcases hown'.2 with ⟨hv,_⟩|⟨g,cap',cur',rfl,hbg,hg,hnc,hcm,hcs,htk⟩
 ·exact absurd (hnil.1 hv).1 (by simp)
 ·have hgb:g=b∨g=w.heap.size:=by
   rcases hblk with hq|hq
   ·left;injection hq
   ·right;injection hq
  refine ⟨g,cap',cur',w',?_,HS.grown j hj hgr hgb hg,?_⟩
  ·unfold execOp;simp only [ho,yi,resolve,invoke,builtin,Sem.run_bind,Sem.run_pure,Result.andThen_ok,List.map_toArray,List.map_cons,List.map_nil,hs,hx,hrun]
  ·exact ⟨hown.1,hnc,hcm,htk,hcs⟩
theorem zau {K:Nat}(HS:St B w0 w l){t e bytes:Nat}{s x:Operand}{o:Oper}{k bx c:Nat}{Y:Array Value}(ht:yl P t=some (e,K,bytes))(ho:o.op=yi t s x)
 (hs:ev ρ s=.slice none 0 0) (hx:ev ρ x=.slice (some ⟨bx,0,none⟩) 1 c) (hk:l[k]? =some (bx,.cells Y e (0,0)))
 (hY:Y.size=K) (hone: ∀u∈Y.toList,u.oneCell'=true)
 (hb:(0+1)*bytes≤0x800000000000):∃b' cap' cur' w',(execOp (ev ρ) o).run P w=.ok (.value (.slice (some ⟨b',0,none⟩) 1 cap')) w'∧St B w0 w' ((b',.cells cur' e (0,0))::l)∧Rw K cur' cap' 1 Y.toList:=by
 obtain ⟨it,z,hu,hi,hz,hsz,hby,hzs,h0⟩:=yU ht;have hnews: ∀q u,(Y.toList)[q]? =some u→w.cell? ((⟨bx,0,none⟩:Addr).add q)=some u:=fun q u hq=>by
  rw [Array.getElem?_toList] at hq;rw [yT,Nat.zero_add];simp [World.cell?,HS.get k hk,hq]
 obtain ⟨v',w',hrun,hown,hgr,hnil,hblk⟩:=run_append_own_at (P:=P) w B t o.type e it z K bytes hu hi hz hsz hby hzs h0 (.slice none 0 0) 0 [] (World.ownsRow_nil w B e K) ⟨bx,0,none⟩ 1 c Y.toList (by rw [Array.length_toList,hY,Nat.one_mul]) hnews hone (by unfold maxLen;omega) hb HS.le;have hown':=hown;rcases hown'.2 with ⟨hv,_⟩|⟨g,cap',cur',rfl,hbg,hg,hnc,hcm,hcs,htk⟩
 ·exact absurd (hnil.1 hv).2 (by simp)
 ·have hgb:g=w.heap.size:=by
   rcases hblk with hq|hq
   ·simp [Value.ownBlock] at hq
   ·injection hq
  have hbel:Below w.heap.size w w':=(Below.refl _ w).grown hgr (Nat.le_refl _) (fun k hk=>by simp [Value.ownBlock] at hk);have HS':=HS.add hbel (by omega) hg;rw [Nat.zero_add] at hnc htk;refine ⟨g,cap',cur',w',?_,HS',⟨by rw [Array.length_toList,hY,Nat.one_mul],hnc,hcm,htk,hcs⟩⟩;unfold execOp;simp only [ho,yi,resolve,invoke,builtin,Sem.run_bind,Sem.run_pure,Result.andThen_ok,List.map_toArray,List.map_cons,List.map_nil,hs,hx,hrun]
def FnT (P:Program)(f:Nat)(args:Array Value)(pre:World→Prop)(ok:Value→List (Nat×Obj)→Prop):Prop:=
 ∀w,pre w→Calls P f args w fun e w'=> ∃v T,e=.returned v∧ok v T∧St w.heap.size w w' T
end
namespace D2
section
variable {P:Program}{ops:Array Oper}{R:(Nat→Gh)→Env}{i:Nat}{d:Option Nat}{pre:(Nat→Bool)→(Nat→Gh)→World→Prop}
theorem gv_opW {V:Value}(hs: ∀L g w,pre L g w→pre (put1 L i) g w)(op:Op)(h: ∀g,opk ops i (R g)=some (d,true,op))(hr: ∀L g (o:Oper) w,Now ops i L→pre L g w→o.op=op→(execOp (ev (R g)) o).run P w=.ok (.value V) w):Gives P ops R pre i d (fun _=>V):=
 gives_of fun L g w hp hN=>by
  obtain ⟨o,ho,hd,hw,hop⟩:=zE (h g);exact ⟨o,ho,hd,.inr ⟨hw,by rw [hr L g o w hN hp hop];exact ⟨g i,rfl,by rw [setN_self];exact hs _ _ _ hp⟩⟩⟩
theorem gv_ld {V:Value}(hs: ∀L g w,pre L g w→pre (put1 L i) g w)(t:TypeId)(x:Operand)(b:(Nat→Gh)→Nat)(off:Nat)(C:Array Value)(T:TypeId)(fz:Nat×Nat)(h: ∀g,opk ops i (R g)=some (d,true,.load t x))
 (hx: ∀g,ev (R g) x=.pointer (some ⟨b g,off,none⟩)) (hh: ∀L g w,Now ops i L→pre L g w→w.heap[b g]? =some (.cells C T fz)) (hok:kI P t off C=true) (hV:ldv P t off C=V):Gives P ops R pre i d (fun _=>V):=
 gv_opW hs _ h fun L g o w hN hp ho=>by
  have:=zaa (P:=P) hok (hh L g w hN hp);rw [hV] at this;simp [execOp,ho,Instr.loadAt,Instr.sureAddr,hx,this]
theorem gv_cpW {V:Value}(hs: ∀L g w,pre L g w→pre (put1 L i) g w)(f:Nat)(args:Array Value){pr:World→Prop}(hc:FnP P f args pr V)(hpr: ∀L g w,Now ops i L→pre L g w→pr w)(hb: ∀L g w w',Now ops i L→pre L g w→Below w.heap.size w w'→pre L g w')(h: ∀g w,opv P ops i (R g) w=some (d,true,.ok (.enter f args) w)):Gives P ops R pre i d (fun _=>V):=
 gives_of fun L g w hp hN=>by
  obtain ⟨o,ho,hd,hw,hr⟩:=zZ (h g w);refine ⟨o,ho,hd,.inr ⟨hw,?_⟩⟩;rw [hr];refine Calls.mono (hc w (hpr L g w hN hp)) ?_;rintro e w' ⟨rfl,hbl⟩;exact ⟨V,rfl,g i,rfl,by rw [setN_self];exact hs _ _ _ (hb L g w w' hN hp hbl)⟩
theorem gv_ft {V:Gh→Value}(f:Nat)(args:Array Value){pr:World→Prop}{ok:Value→List (Nat×Obj)→Prop}(hc:FnT P f args pr ok)(hpr: ∀L g w,Now ops i L→pre L g w→pr w)
 (hk: ∀L g w v T w',Now ops i L→pre L g w→ok v T→St w.heap.size w w' T→∃x:Gh,v=V x∧pre (put1 L i) (setN g i x) w') (h: ∀g w,opv P ops i (R g) w=some (d,true,.ok (.enter f args) w)):Gives P ops R pre i d V:=
 gives_of fun L g w hp hN=>by
  obtain ⟨o,ho,hd,hw,hr⟩:=zZ (h g w);refine ⟨o,ho,hd,.inr ⟨hw,?_⟩⟩;rw [hr];refine Calls.mono (hc w (hpr L g w hN hp)) ?_;rintro e w' ⟨v,T,rfl,hok,hT⟩;obtain ⟨x,hv,hq⟩:=hk L g w v T w' hN hp hok hT;exact ⟨v,rfl,x,hv,hq⟩
end
end D2
abbrev qD (B:Nat)(w0:World)(ok:Value→List (Nat×Obj)→Prop):Value→World→Prop:=fun v' w'=> ∃T,ok v' T∧St B w0 w' T
theorem FnT.intro {P:Program}{f:Nat}{fn:Func}{c:Code}(rs:List ResultVar)(N:Nat){args:Array Value}{pre:World→Prop}{ok:Value→List (Nat×Obj)→Prop}(hf:P.funcs[f]? =some fn)(hb:fn.body=some c)(hr:fn.results.toList=rs)(hn:args.size+(fn.ntmps-args.size)=N)
 (h: ∀w,pre w→WP P N c (yC P rs (qD w.heap.size w ok)) (ini args) w):FnT P f args pre ok:=fun w hp=>
 (jO hf hb hr hn (h w hp)).mono fun e w' ⟨v',he,T,hv⟩=>⟨v',T,he,hv⟩
section
variable {P:Program}{N:Nat}{ops:Array Oper}{i:Nat}{r:List Nat}{K:Env→World→Prop}{ρ:Env}{w:World}{B:Nat}{w0:World}{l:List (Nat×Obj)}
theorem jV (HS:St B w0 w l)(d:Option Nat)(f:Nat)(args:Array Value){pre:World→Prop}{ok:Value→List (Nat×Obj)→Prop}(hc:FnT P f args pre ok)(hp:pre w)
 (h:opv P ops i ρ w=some (d,true,.ok (.enter f args) w)) (hd:dOK d N=true)
 (kk: ∀v T w',ok v T→St B w0 w' (T++l)→WPs P N ops K r (zr ρ d v) w'):WPs P N ops K (i::r) ρ w:=by
 obtain ⟨o,ho,rfl,hw,hr⟩:=zZ h;refine WPo.run ho hw fun a ha=>?_;rw [hr,Oper.upon_enter];refine (hc w hp).mono ?_;rintro e w' ⟨v,T,rfl,hok,hT⟩;exact ⟨_,ha.put _ (zV hd) _,kk v T w' hok (HS.addAll hT)⟩
theorem zfY (HS:St B w0 w l)(d:Option Nat)(t e:TypeId)(K' bytes:Nat)(x y:Operand)(kl kc:IntKind)(n:Nat)(h:opk ops i ρ=some (d,true,.makeSlice t x y))(hd:dOK d N=true)(ht:yl P t=some (e,K',bytes))
 (hx:ev ρ x=.int kl (n:Int)) (hy:ev ρ y=.int kc (n:Int)) (hb:bytes*n≤281474976710656) (hm:n≤maxLen)
 (kk: ∀b cur w',St B w0 w' ((b,.cells cur e (0,0))::l)→cur.size=n*K'→WPs P N ops K r (zr ρ d (.slice (some ⟨b,0,none⟩) n n)) w'):WPs P N ops K (i::r) ρ w:=by
 obtain ⟨o,ho,rfl,hw,hop⟩:=zE h;obtain ⟨it,z',hu,hi,hz',hsz,hby,hzs,h0⟩:=yU ht;have hml:n≤0x7fffffffffffffff:=by have:=hm;simp only [maxLen] at this;omega
 have hbi:(it.bytes:Int)*(n:Int)≤281474976710656:=by
  rw [hby,←Int.natCast_mul];omega
 have hr:=run_make (P:=P) w t e it z' hu hi hz' kl kc (n:Int) (n:Int) (by omega) (by omega) hbi (by omega);simp only [Int.toNat_natCast,hsz] at hr;refine WPo.run ho hw fun a ha=>?_;have hex:(execOp (ev ρ) o).run P w=.ok (.value (.slice (some ⟨w.heap.size,0,none⟩) n n)) (w.alloc (.cells (madeCells z'.cells (n*K')) e)):=by
  unfold execOp;simp only [hop,hx,hy,Sem.run_bind,hr,Result.andThen_ok];rfl
 rw [hex,Oper.upon_value];refine ⟨_,ha.put _ (zV hd) _,kk _ _ _ (HS.alloc _) ?_⟩;unfold madeCells;simp
end
end Go.Proofs.YtbpmjppmpgeejaaGreatDoor
namespace Go.Proofs.YtbpmjppmpgeejaaGreatDoor
open Go Go.RowKit
set_option linter.unusedVariables false
structure Fl (α:Type) where
 K:Nat
 cs:α→List Value
 pos:0<K
 len: ∀a,(cs a).length=K
 one: ∀a,∀u∈cs a,u.oneCell'=true
section
variable {α:Type}{S:Fl α}
def cellsF (S:Fl α):List α→List Value
 | []=>[]
 | x::r=>S.cs x++cellsF S r
theorem qQ: ∀L:List α,(cellsF S L).length=L.length*S.K
 | []=>by simp [cellsF]
 | x::r=>by simp only [cellsF,List.length_append,qQ r,S.len,List.length_cons,Nat.succ_mul];omega
theorem kX: ∀L M:List α,cellsF S (L++M)=cellsF S L++cellsF S M
 | [],M=>by simp [cellsF]
 | y::r,M=>by simp only [List.cons_append,cellsF,kX r M,List.append_assoc]
theorem zck (x:α)(L:List α):cellsF S (L++ [x])=cellsF S L++S.cs x:=by
 rw [kX];simp [cellsF]
theorem zav: ∀L:List α,∀u∈cellsF S L,u.oneCell'=true
 | [],u,h=>by simp [cellsF] at h
 | x::r,u,h=>by
  rcases List.mem_append.1 h with q|q
  ·exact S.one x u q
  ·exact zav r u q
theorem zaw: ∀(L:List α) (i:Nat) (x:α),L[i]? =some x→ ∀j,j<S.K→(cellsF S L)[i*S.K+j]? =(S.cs x)[j]?
 | y::r,0,x,h,j,hj=>by
  obtain rfl:y=x:=by simpa using h
  rw [Nat.zero_mul,Nat.zero_add];unfold cellsF;rw [List.getElem?_append_left (by rw [S.len];exact hj)]
 | y::r,i+1,x,h,j,hj=>by
  unfold cellsF;rw [List.getElem?_append_right (by rw [S.len,Nat.succ_mul];omega),S.len,show (i+1)*S.K+j-S.K=i*S.K+j by rw [Nat.succ_mul];omega];exact zaw r i x (by simpa using h) j hj
def je (S:Fl α)(C:Array Value)(off:Nat)(L:List α):Prop:= ∀(i:Nat) (x:α),L[i]? =some x→off+i*S.K+S.K≤C.size∧C.extract (off+i*S.K) (off+i*S.K+S.K)=(S.cs x).toArray
theorem je.take {C:Array Value}{off:Nat}{L:List α}(h:je S C off L)(k:Nat):je S C off (L.take k):=fun i x hx=>by
 rw [List.getElem?_take] at hx;split at hx
 ·exact h i x hx
 ·cases hx
theorem je.cell {C:Array Value}{off:Nat}{L:List α}(h:je S C off L){i:Nat}{x:α}(hx:L[i]? =some x)(j:Nat)(hj:j<S.K):C[off+i*S.K+j]? =(S.cs x)[j]? :=by
 obtain ⟨h1,h2⟩:=h i x hx;have e:(C.extract (off+i*S.K) (off+i*S.K+S.K))[j]? =C[off+i*S.K+j]? :=by
  rw [Array.getElem?_extract,if_pos (by omega)]
 rw [←e,h2];simp
theorem Rw.rowAt {cur:Array Value}{cap n:Nat}{L:List α}(h:Rw S.K cur cap n (cellsF S L)):je S cur 0 L:=fun i x hx=>by
 have hl:=h.len;rw [qQ] at hl;have hi:i<L.length:=(List.getElem?_eq_some_iff.1 hx).1;rw [Nat.zero_add];refine exE (S.len x) (fun j hj=>?_) S.pos
 rw [h.get _ (by
  rw [←hl];have:i*S.K+S.K≤L.length*S.K:=by rw [←Nat.succ_mul];exact Nat.mul_le_mul_right _ hi
  omega),zaw L i x hx j hj]
theorem Rw.lenF {cur:Array Value}{cap n:Nat}{L:List α}(h:Rw S.K cur cap n (cellsF S L)):L.length=n:=by
 have hl:=h.len;rw [qQ] at hl;exact Nat.eq_of_mul_eq_mul_right S.pos hl
def yN (S:Fl α)(ty:TypeId)(p:Option Addr)(n c:Nat)(row:List (Nat×Obj))(L:List α):Prop:=(p=none∧n=0∧c=0∧row=[]∧L=[])∨∃b cur,p=some ⟨b,0,none⟩∧row=[(b,.cells cur ty (0,0))]∧Rw S.K cur c n (cellsF S L)
theorem yN.len {ty:TypeId}{p:Option Addr}{n c:Nat}{row:List (Nat×Obj)}{L:List α}(h:yN S ty p n c row L):L.length=n:=by
 rcases h with ⟨_,rfl,_,_,rfl⟩|⟨b,cur,_,_,hr⟩
 ·rfl
 ·exact hr.lenF
structure zlZ (S:Fl α)(C:Array Value)(n i:Nat)(M:List α):Prop where
 sz:C.size=n*S.K
 len:M.length=i
 take:C.toList.take (i*S.K)=cellsF S M
end
namespace D2
section
variable {P:Program}{ops:Array Oper}{R:(Nat→Gh)→Env}{d:Option Nat}
theorem gv_cW {pre:(Nat→Bool)→(Nat→Gh)→World→Prop}{i:Nat}{V:Value}(hs: ∀L g w,pre L g w→pre (put1 L i) g w)(f:Nat)(args:Array Value)(hc:Fn P f args V)(hb: ∀L g w w',Now ops i L→pre L g w→Below w.heap.size w w'→pre L g w')(h: ∀g w,opv P ops i (R g) w=some (d,true,.ok (.enter f args) w)):Gives P ops R pre i d (fun _=>V):=
 gv_cpW hs f args (pr:=fun _=>True) (fun w _=>hc w) (fun _ _ _ _ _=>trivial) hb h
variable {B:Nat}{w0:World}{E row:List (Nat×Obj)}{Y:Array Value}{ty:TypeId}{n:Nat}{K:Nat}{xs:List Value}
end
end D2
section
variable {α:Type}{S:Fl α}
theorem je.at {C:Array Value}{off:Nat}{L:List α}(h:je S C off L){q:Nat}{u:Value}(hq:(cellsF S L)[q]? =some u):C[off+q]? =some u:=by
 have hlt:=(List.getElem?_eq_some_iff.1 hq).1;rw [qQ] at hlt;have hK:=S.pos;have hi:q / S.K<L.length:=(Nat.div_lt_iff_lt_mul hK).2 hlt;obtain ⟨x,hx⟩:∃x,L[q / S.K]? =some x:=⟨_,List.getElem?_eq_getElem hi⟩
 have hj:=Nat.mod_lt q hK;have e:q / S.K*S.K+q%S.K=q:=Nat.div_add_mod' q S.K;have h1:=zaw L _ x hx (q%S.K) hj;have h2:=h.cell hx (q%S.K) hj;rw [e] at h1;rw [Nat.add_assoc,e] at h2;rw [h2,←h1,hq]
variable {P:Program}{ρ:Env}{w w0:World}{B:Nat}{l:List (Nat×Obj)}
theorem zcl (HS:St B w0 w l){t e bytes:Nat}{s x:Operand}{o:Oper}{j b n cap m c:Nat}{a:Addr}{cur:Array Value}{xs:List Value}{M:List α}(ht:yl P t=some (e,S.K,bytes))(ho:o.op=yi t s x)
 (hs:ev ρ s=.slice (some ⟨b,0,none⟩) n cap) (hj:l[j]? =some (b,.cells cur e (0,0))) (hr:Rw S.K cur cap n xs) (hx:ev ρ x=.slice (some a) m c) (hM:m=M.length)
 (hk:M=[]∨∃bx off C T fz,a=⟨bx,off,none⟩∧w.heap[bx]? =some (.cells C T fz)∧je S C off M)
 (hb:(n+m)*bytes≤0x800000000000) (hm:n+m≤maxLen):∃b' cap' cur' w',(execOp (ev ρ) o).run P w=.ok (.value (.slice (some ⟨b',0,none⟩) (n+m) cap')) w'∧St B w0 w' (l.set j (b',.cells cur' e (0,0)))∧Rw S.K cur' cap' (n+m) (xs++cellsF S M):=by
 obtain ⟨it,z,hu,hi,hz,hsz,hby,hzs,h0⟩:=yU ht;have hnews: ∀q u,(cellsF S M)[q]? =some u→w.cell? (a.add q)=some u:=fun q u hq=>by
  rcases hk with rfl|⟨bx,off,C,T,fz,rfl,hh,hR⟩
  ·simp [cellsF] at hq
  ·rw [yT];simp [World.cell?,hh,hR.at hq]
 obtain ⟨v',w',hrun,hown,hgr,hnil,hblk⟩:=run_append_own_at (P:=P) w B t o.type e it z S.K bytes hu hi hz hsz hby hzs h0 _ n xs (hr.owns (HS.ge j hj) (HS.get j hj)) a m c (cellsF S M) (by rw [qQ,hM]) hnews (zav M) hm hb HS.le;have hown':=hown;rcases hown'.2 with ⟨hv,_⟩|⟨g,cap',cur',rfl,hbg,hg,hnc,hcm,hcs,htk⟩
 ·exact absurd (hnil.1 hv).1 (by simp)
 ·have hgb:g=b∨g=w.heap.size:=by
   rcases hblk with hq|hq
   ·left;injection hq
   ·right;injection hq
  refine ⟨g,cap',cur',w',?_,HS.grown j hj hgr hgb hg,?_⟩
  ·unfold execOp;simp only [ho,yi,resolve,invoke,builtin,Sem.run_bind,Sem.run_pure,Result.andThen_ok,List.map_toArray,List.map_cons,List.map_nil,hs,hx,hrun]
  ·exact ⟨hown.1,hnc,hcm,htk,hcs⟩
variable {N:Nat}{ops:Array Oper}{i:Nat}{r:List Nat}{K:Env→World→Prop}
end
def pG (y:D2.Gh):Option Addr:=match y.l with
 | []=>none
 | _=>some ⟨y.b,0,none⟩
theorem zfZ {α:Type}{S:Fl α}{ty:TypeId}{p:Option Addr}{n c:Nat}{T:List (Nat×Obj)}{L:List α}(h:yN S ty p n c T L):∃x:D2.Gh,Value.slice p n c=.slice (pG x) x.n x.cap∧yN S ty (pG x) x.n x.cap T L:=by
 rcases h with ⟨rfl,rfl,rfl,rfl,rfl⟩|⟨b,cur,rfl,rfl,hr⟩
 ·exact ⟨{ n:=0,cap:=0 },rfl,.inl ⟨rfl,rfl,rfl,rfl,rfl⟩⟩
 ·exact ⟨{ b:=b,n:=n,cap:=c,l:=[1] },rfl,.inr ⟨b,cur,rfl,rfl,hr⟩⟩
end Go.Proofs.YtbpmjppmpgeejaaGreatDoor
namespace Go.Proofs.YtbpmjppmpgeejaaGreatDoor
open Go Go.RowKit
set_option linter.unusedVariables false
section
variable {P:Program}{w w0:World}
end
section
variable {P:Program}{N:Nat}{ops:Array Oper}{i:Nat}{r:List Nat}{K:Env→World→Prop}{ρ:Env}{w:World}{B:Nat}{w0:World}{l:List (Nat×Obj)}
end
namespace D2
def stg:List Nat→(Nat→Bool)→Nat
 | [],_=>0
 | k::r,L=>bif L k then stg r L+1 else 0
def chn (ks:List Nat)(Q:Nat→(Nat→Gh)→World→Prop):(Nat→Bool)→(Nat→Gh)→World→Prop:=fun L g w=>Q (stg ks L) g w
theorem zcm: ∀(ks:List Nat) (L:Nat→Bool),stg ks L≤ks.length
 | [],_=>Nat.le_refl _
 | k::r,L=>by
  unfold stg;cases L k with
  | true=>exact Nat.succ_le_succ (zcm r L)
  | false=>exact Nat.zero_le _
theorem chn.get {ks:List Nat}{Q:Nat→(Nat→Gh)→World→Prop}{L:Nat→Bool}{g:Nat→Gh}{w:World}{Φ:Prop}(h:chn ks Q L g w)(hQ: ∀j,j≤ks.length→Q j g w→Φ):Φ:=hQ _ (zcm ks L) h
theorem chn.fin {Q:Nat→(Nat→Gh)→World→Prop}{g:Nat→Gh}{w:World} : ∀ {ks:List Nat} {L:Nat→Bool},chn ks Q L g w→(∀k∈ks,L k=true)→Q ks.length g w:=by
 intro ks L h hk;have:stg ks L=ks.length:=by
  clear h
  induction ks with
  | nil=>rfl
  | cons k r ih=>
   unfold stg;rw [hk k (List.mem_cons_self ..),ih fun x hx=>hk x (List.mem_cons_of_mem _ hx)];rfl
 unfold chn at h
 rwa [this] at h
section
variable {P:Program}{ops:Array Oper}{R:(Nat→Gh)→Env}{d:Option Nat}
theorem gv_chn {V:Gh→Value}{ks:List Nat}{Q:Nat→(Nat→Gh)→World→Prop}(k j:Nat)(hN: ∀L,Now ops k L→stg ks L=j∧stg ks (put1 L k)=j+1)
 (hr: ∀g w,Q j g w→∃o,ops[k]? =some o∧o.dst=d∧Region.wanted o (zI ops (R g))=true∧Runs P (fun v w'=> ∃x,v=V x∧Q (j+1) (setN g k x) w') ((execOp (ev (R g)) o).run P w)):Gives P ops R (chn ks Q) k d V:=by
 refine gives_of fun L g w hp hNw=>?_;obtain ⟨e1,e2⟩:=hN L hNw;unfold chn at hp;rw [e1] at hp;obtain ⟨o,ho,hd,hw,hq⟩:=hr g w hp;refine ⟨o,ho,hd,.inr ⟨hw,?_⟩⟩;unfold chn;rw [e2];exact hq
variable {ρ:Env}{k:Nat}{w:World}{S:Value→World→Prop}
theorem run_new {F:Nat→Value}{ob:Obj}(h:opv P ops k ρ w=some (d,true,.ok (.value (F w.heap.size)) (w.alloc ob)))(hS:S (F w.heap.size) (w.alloc ob)):
 ∃o,ops[k]? =some o∧o.dst=d∧Region.wanted o (zI ops ρ)=true∧Runs P S ((execOp (ev ρ) o).run P w):=by
 obtain ⟨o,ho,hd,hw,hr⟩:=zZ h;exact ⟨o,ho,hd,hw,by rw [hr];exact hS⟩
theorem run_ft {f:Nat}{args:Array Value}{pr:World→Prop}{ok:Value→List (Nat×Obj)→Prop}(hc:FnT P f args pr ok)(hp:pr w)(h:opv P ops k ρ w=some (d,true,.ok (.enter f args) w))(hS: ∀v T w',ok v T→St w.heap.size w w' T→S v w'):
 ∃o,ops[k]? =some o∧o.dst=d∧Region.wanted o (zI ops ρ)=true∧Runs P S ((execOp (ev ρ) o).run P w):=by
 obtain ⟨o,ho,hd,hw,hr⟩:=zZ h;refine ⟨o,ho,hd,hw,?_⟩;rw [hr];refine Calls.mono (hc w hp) ?_;rintro e w' ⟨v,T,rfl,hok,hT⟩;exact ⟨v,rfl,hS v T w' hok hT⟩
theorem run_sto {t:TypeId}{x y:Operand}{b off:Nat}{C C':Array Value}{T:TypeId}{v:Value}(h:opk ops k ρ=some (none,true,.store t x y))(hx:ev ρ x=.pointer (some ⟨b,off,none⟩))(hy:ev ρ y=v)(hi:(P.info? t).map (·.size)=some v.cells.size)(h1:v.cells.all (·.oneCell')=true)
 (hh:w.heap[b]? =some (.cells C T (0,0))) (hs:off+v.cells.size≤C.size) (hC:(C.toList.take off++v.cells.toList++C.toList.drop (off+v.cells.size)).toArray=C') (hS:S undef (w.setRow b C')):
 ∃o,ops[k]? =some o∧o.dst=none∧Region.wanted o (zI ops ρ)=true∧Runs P S ((execOp (ev ρ) o).run P w):=by
 obtain ⟨o,ho,hd,hw,hop⟩:=zE h;refine ⟨o,ho,hd,hw,?_⟩;have hst:=xv (P:=P) (w:=w) hi h1 hh hs;rw [hC] at hst;have e2:(execOp (ev ρ) o).run P w=.ok .skip (w.setRow b C'):=by simp [execOp,hop,Instr.storeAt,Instr.sureAddr,hx,hy,hst]
 rw [e2];exact hS
theorem run_of {op:Op}(h:opk ops k ρ=some (d,true,op))(hr: ∀o:Oper,o.op=op→∃v w',(execOp (ev ρ) o).run P w=.ok (.value v) w'∧S v w'):
 ∃o,ops[k]? =some o∧o.dst=d∧Region.wanted o (zI ops ρ)=true∧Runs P S ((execOp (ev ρ) o).run P w):=by
 obtain ⟨o,ho,hd,hw,hop⟩:=zE h;obtain ⟨v,w',e,hS⟩:=hr o hop;exact ⟨o,ho,hd,hw,by rw [e];exact hS⟩
end
end D2
section
open D2 (Gh)
theorem D2.Now.back {ops:Array Oper}{i:Nat}{L:Nat→Bool}(h:D2.Now ops i L){a b:Nat}(hb:L b=true)(he:D2.edge ops a b=true):L a=true:=by
 cases ha:L a with
 | true=>rfl
 | false=>have:=h.2.2.no a b he ha;rw [hb] at this;cases this
theorem D2.Now.fwd {ops:Array Oper}{i:Nat}{L:Nat→Bool}(h:D2.Now ops i L){a b:Nat}(ha:L a=false)(he:D2.edge ops a b=true):L b=false:=h.2.2.no a b he ha
theorem D2.stg_no: ∀(ks:List Nat) (L:Nat→Bool) (i k:Nat),ks[i]? =some k→L k=false→D2.stg ks L≤i
 | [],_,_,_,h,_=>by simp at h
 | k::r,L,0,k',h,hk=>by
  obtain rfl:k=k':=by simpa using h
  unfold D2.stg;rw [hk];exact Nat.le_refl _
 | k::r,L,i+1,k',h,hk=>by
  have ih:=D2.stg_no r L i k' (by simpa using h) hk;unfold D2.stg;cases L k with
  | true=>exact Nat.succ_le_succ ih
  | false=>exact Nat.zero_le _
theorem D2.chn.getN {ks:List Nat}{Q:Nat→(Nat→Gh)→World→Prop}{L:Nat→Bool}{g:Nat→Gh}{w:World}{Φ:Prop}(h:D2.chn ks Q L g w)(i k:Nat)(hi:ks[i]? =some k)(hk:L k=false)(hQ: ∀j,j≤i→Q j g w→Φ):Φ:=hQ _ (D2.stg_no ks L i k hi hk) h
end
end Go.Proofs.YtbpmjppmpgeejaaGreatDoor
namespace Go.Proofs.YtbpmjppmpgeejaaGreatDoor
open Go Go.RowKit
set_option linter.unusedVariables false
section
variable {P:Program}{N:Nat}{Q:Exit→Env→World→Prop}{ρ:Env}{w:World}{c:Code}
def zcn:Code→Bool | .scope _=>true | _=>false
def zco:Code→Option Nat | .label i=>some i | _=>none
theorem zf0 (h:zcn c=true):c=.scope (qb c):=by cases c<;>first | rfl | cases h
theorem zf1 {i:Nat}(h:zco c=some i):c=.label i:=by
 cases c<;>first | (cases h;done) | (cases h;rfl)
def ng (Q:Exit→Env→World→Prop):Exit→Env→World→Prop
 | .goto _,_,_=>False
 | e,ρ,w=>Q e ρ w
theorem zf2 (hc:zcn c=true)(h:WP P N (qb c) (ng Q) ρ w):WP P N c Q ρ w:=by
 rw [zf0 hc];intro a ha;refine wp_scope_straight (Go.wp_mono (h a ha) ?_);rintro e a' w' ⟨r,hr,q⟩;cases e<;>first | exact ⟨r,hr,q⟩ | exact q.elim
theorem zf3 (i:Nat)(hc:zco c=some i)(h:Q .normal ρ w):WP P N c Q ρ w:=by rw [zf1 hc];exact WP.label h
end
section
variable {P:Program}{N:Nat}{ops:Array Oper}{i:Nat}{r:List Nat}{K:Env→World→Prop}{ρ:Env}{w:World}{B:Nat}{w0:World}{l:List (Nat×Obj)}
theorem zax {K':Nat}(HS:St B w0 w l)(d:Option Nat)(t e bytes:Nat)(s x:Operand)(j k b bx n cap c:Nat)(cur Y:Array Value)(xs:List Value)(h:opk ops i ρ=some (d,true,yi t s x))(hd:dOK d N=true)(ht:yl P t=some (e,K',bytes))
 (hs:ev ρ s=.slice (some ⟨b,0,none⟩) n cap) (hj:l[j]? =some (b,.cells cur e (0,0))) (hr:Rw K' cur cap n xs) (hx:ev ρ x=.slice (some ⟨bx,0,none⟩) 1 c) (hk:l[k]? =some (bx,.cells Y e (0,0)))
 (hY:Y.size=K') (hone: ∀u∈Y.toList,u.oneCell'=true) (hb:(n+1)*bytes≤0x800000000000) (hm:n+1≤maxLen)
 (kk: ∀b' cap' cur' w',St B w0 w' (l.set j (b',.cells cur' e (0,0)))→Rw K' cur' cap' (n+1) (xs++Y.toList)→WPs P N ops K r (zr ρ d (.slice (some ⟨b',0,none⟩) (n+1) cap')) w'):WPs P N ops K (i::r) ρ w:=by
 obtain ⟨o,ho,rfl,hw,hop⟩:=zE h;obtain ⟨b',cap',cur',w',hrun,HS',hr'⟩:=vW HS ht hop hs hj hr hx hk hY hone hb hm;refine WPo.run ho hw fun a ha=>?_;rw [hrun,Oper.upon_value];exact ⟨_,ha.put _ (zV hd) _,kk b' cap' cur' w' HS' hr'⟩
end
def putA (cur:Array Value)(off:Nat)(v:Value):Array Value:=(cur.toList.take off++v.cells.toList++cur.toList.drop (off+v.cells.size)).toArray
theorem Rw.putA {K:Nat}{cur:Array Value}{cap n:Nat}{xs:List Value}(h:Rw K cur cap n xs)(off:Nat)(v:Value)(hle:off+v.cells.size≤n*K):
 off+v.cells.size≤cur.size∧Rw K (putA cur off v) cap n (xs.take off++v.cells.toList++xs.drop (off+v.cells.size)):=by
 have hcap:n*K≤cap*K:=Nat.mul_le_mul_right _ h.le;have hsz:=h.sz;have hA:cur.toList.length=cap*K:=by rw [Array.length_toList,hsz]
 have hx:xs=cur.toList.take (n*K):=h.take.symm;have hv:v.cells.toList.length=v.cells.size:=Array.length_toList;have e1:(cur.toList.take off).length=off:=by rw [List.length_take];omega
 refine ⟨by omega,?_,h.le,h.max,?_,?_⟩
 ·rw [List.length_append,List.length_append,List.length_take,List.length_drop,h.len,hv];omega
 ·unfold Go.Proofs.YtbpmjppmpgeejaaGreatDoor.putA;rw [List.toList_toArray,List.take_append,List.length_append,e1,hv,List.take_of_length_le (l:=cur.toList.take off++v.cells.toList) (by rw [List.length_append,e1,hv];exact hle),hx,List.take_take,Nat.min_eq_left (by omega),List.drop_take]
 ·unfold Go.Proofs.YtbpmjppmpgeejaaGreatDoor.putA;rw [List.size_toArray,List.length_append,List.length_append,e1,List.length_drop,hv,hA];omega
theorem zay {X Z V:List Value}{off:Nat}(hX:X.length=off)(hZ:Z.length=V.length):(X++Z).take off++V++(X++Z).drop (off+V.length)=X++V:=by
 rw [List.take_append,hX,Nat.sub_self,List.take_zero,List.append_nil,List.take_of_length_le (by omega),List.drop_append,hX,List.drop_of_length_le (by omega),List.nil_append,List.drop_of_length_le (by omega),List.append_nil]
def sS:Fl ByteArray where
 K:=1
 cs x:=[.string x]
 pos:=by decide
 len _:=rfl
 one _:=fun u hu=>by obtain rfl:=List.mem_singleton.1 hu;rfl
theorem yX {P:Program}{ρ:Env}{t e:TypeId}{K bytes:Nat}(ht:yl P t=some (e,K,bytes)){x y:Operand}{o:Oper}{kd:IntKind}{p:Option Addr}(b q n c k:Nat)(hp:p=some ⟨b,q,none⟩)(ho:o.op=.indexAddr t x y)(hx:ev ρ x=.slice p n c)(hy:ev ρ y=.int kd (k:Int))(hk:k<n):
 ∀w,(execOp (ev ρ) o).run P w=.ok (.value (.pointer (some ⟨b,q+k*K,none⟩))) w:=by
 subst hp;exact jc ht b q n c k ho hx hy hk
section
variable {α:Type}{S:Fl α}
def AtF (S:Fl α)(w:World)(p:Option Addr)(n:Nat)(L:List α):Prop:=n=L.length∧(L=[]∨∃b off C T fz,p=some ⟨b,off,none⟩∧w.heap[b]? =some (.cells C T fz)∧je S C off L)
theorem AtF.call {w w':World}{p:Option Addr}{n:Nat}{L:List α}(h:AtF S w p n L)(hb:Below w.heap.size w w'):AtF S w' p n L:=by
 obtain ⟨h1,h2⟩:=h;refine ⟨h1,h2.imp id ?_⟩;rintro ⟨b,off,C,T,fz,e,hh,hr⟩;exact ⟨b,off,C,T,fz,e,by rw [hb.block b (zz hh)];exact hh,hr⟩
theorem AtF.take {w:World}{p:Option Addr}{n:Nat}{L:List α}(h:AtF S w p n L)(k:Nat)(hk:k≤n):AtF S w p k (L.take k):=by
 obtain ⟨h1,h2⟩:=h;refine ⟨by rw [List.length_take];omega,?_⟩;rcases h2 with rfl|⟨b,off,C,T,fz,e,hh,hr⟩
 ·exact .inl (by simp)
 ·exact .inr ⟨b,off,C,T,fz,e,hh,hr.take k⟩
theorem yN.atF {ty:TypeId}{p:Option Addr}{n c:Nat}{row:List (Nat×Obj)}{L:List α}(h:yN S ty p n c row L){B:Nat}{w0 w:World}{l:List (Nat×Obj)}(hS:St B w0 w l)(hl: ∀e∈row,e∈l):AtF S w p n L:=by
 rcases h with ⟨rfl,rfl,rfl,rfl,rfl⟩|⟨b,cur,rfl,rfl,hr⟩
 ·exact ⟨rfl,.inl rfl⟩
 ·exact ⟨hr.lenF.symm,.inr ⟨b,0,cur,ty,(0,0),rfl,(hS.own _ (hl _ (List.mem_singleton.2 rfl))).2,hr.rowAt⟩⟩
def qR (p:Option Addr)(n c:Nat):Prop:=(p=none∧n=0∧c=0)∨((∃a,p=some a)∧n≤c)
theorem qR.cut {p:Option Addr}{n c k:Nat}(h:qR p n c)(hk:k≤n):qR p k c:=by
 rcases h with ⟨rfl,rfl,rfl⟩|⟨h1,h2⟩
 ·exact .inl ⟨rfl,by omega,rfl⟩
 ·exact .inr ⟨h1,by omega⟩
theorem zcp {P:Program}{ρ:Env}{t e:TypeId}{size bytes:Nat}(ht:yl P t=some (e,size,bytes)){x y:Operand}{o:Oper}{kd:IntKind}{p:Option Addr}{n c k:Nat}(h:qR p n c)(hk:k≤n)(ho:o.op=.slice t x none (some y) none)(hx:ev ρ x=.slice p n c)(hy:ev ρ y=.int kd (k:Int)):
 ∀w,(execOp (ev ρ) o).run P w=.ok (.value (.slice p k c)) w:=fun w=>by
 rcases h with ⟨rfl,rfl,rfl⟩|⟨⟨a,rfl⟩,h2⟩
 ·obtain rfl:k=0:=by omega
  obtain ⟨it,z,hu,hi,hz,hsz,hby,hzs,h0⟩:=yU ht;have hS:(sizeOf e).run P w=.ok size w:=by simp [sizeOf,typeInfo,hi,hsz]
  unfold execOp;simp [ho,hx,hy,Instr.sliceAt,Instr.slice,Instr.sliceBounds,Instr.sliceBound,asIntOf,run_underlying hu,hS]
 ·exact zfW ht a n c k ho hx hy (by omega) w
theorem zcq {P:Program}{ρ:Env}{w w0:World}{B:Nat}{bx n c mc e:Nat}{p:Option Addr}{row Z:List (Nat×Obj)}{M0:List α}{y:α}(HS:St B w0 w ((bx,.cells (S.cs y).toArray e (0,0))::(row++Z)))(hrow:yN S e p n c row M0)
 {t bytes:Nat} {s x:Operand} {o:Oper} (ht:yl P t=some (e,S.K,bytes)) (ho:o.op=yi t s x) (hs:ev ρ s=.slice p n c) (hx:ev ρ x=.slice (some ⟨bx,0,none⟩) 1 mc) (hb:(n+1)*bytes≤0x800000000000) (hm:n+1≤maxLen):
 ∃b' cap' cur' w',(execOp (ev ρ) o).run P w=.ok (.value (.slice (some ⟨b',0,none⟩) (n+1) cap')) w'∧St B w0 w' ((b',.cells cur' e (0,0))::Z)∧Rw S.K cur' cap' (n+1) (cellsF S (M0++ [y])):=by
 have hY:(S.cs y).toArray.size=S.K:=by rw [List.size_toArray,S.len]
 have hone: ∀u∈(S.cs y).toArray.toList,u.oneCell'=true:=fun u hu=>S.one y u (by simpa using hu);rcases hrow with ⟨rfl,rfl,rfl,rfl,rfl⟩ | ⟨b,cur,rfl,rfl,hrw⟩
 ·obtain ⟨b',cap',cur',w',hrun,HS',hr'⟩:=zau (k:=0) HS ht ho hs hx rfl hY hone hb;refine ⟨b',cap',cur',w',hrun,HS'.sub (List.Sublist.cons_cons _ (List.sublist_cons_self ..)),?_⟩;rw [zck];exact hr'
 ·obtain ⟨b',cap',cur',w',hrun,HS',hr'⟩:=vW (j:=1) (k:=0) HS ht ho hs rfl hrw hx rfl hY hone hb hm;refine ⟨b',cap',cur',w',hrun,HS'.sub (List.sublist_cons_self ..),?_⟩;rw [zck];exact hr'
end
section
variable {P:Program}{N:Nat}{ops:Array Oper}{K:Env→World→Prop}{ρ:Env}{w w0:World}{i B:Nat}{r:List Nat}{l:List (Nat×Obj)}
theorem zaz (HS:St B w0 w l)(d:Option Nat)(V:Nat→Value)(C:Array Value)(T:TypeId)(h:opv P ops i ρ w=some (d,true,.ok (.value (V w.heap.size)) (w.alloc (.cells C T (0,0)))))(hd:dOK d N=true)
 (kk: ∀b w',St B w0 w' ((b,.cells C T (0,0))::l)→WPs P N ops K r (zr ρ d (V b)) w'):WPs P N ops K (i::r) ρ w:=by
 obtain ⟨o,ho,rfl,hw,hr⟩:=zZ h;refine WPo.run ho hw fun a ha=>?_;rw [hr,Oper.upon_value];exact ⟨_,ha.put _ (zV hd) _,kk w.heap.size _ (HS.alloc _)⟩
theorem zcr {α:Type}{S:Fl α}{nb n c:Nat}{p:Option Addr}{row Z:List (Nat×Obj)}{M:List α}{y:α}(d:Option Nat)(t e bytes:Nat)(s x:Operand)(HS:St B w0 w ((nb,.cells (S.cs y).toArray e (0,0))::(row++Z)))(hrow:yN S e p n c row M)
 (h:opk ops i ρ=some (d,true,yi t s x)) (hd:dOK d N=true) (ht:yl P t=some (e,S.K,bytes)) (hs:ev ρ s=.slice p n c) (hx:ev ρ x=.slice (some ⟨nb,0,none⟩) 1 1) (hb:(n+1)*bytes≤0x800000000000) (hm:n+1≤maxLen)
 (kk: ∀b' cap' cur' w',St B w0 w' ((b',.cells cur' e (0,0))::Z)→Rw S.K cur' cap' (n+1) (cellsF S (M++ [y]))→WPs P N ops K r (zr ρ d (.slice (some ⟨b',0,none⟩) (n+1) cap')) w'):WPs P N ops K (i::r) ρ w:=by
 obtain ⟨o,ho,rfl,hw,hop⟩:=zE h;obtain ⟨b',cap',cur',w',hrun,HS',hr'⟩:=zcq HS hrow ht hop hs hx hb hm;refine WPo.run ho hw fun a ha=>?_;rw [hrun,Oper.upon_value];exact ⟨_,ha.put _ (zV hd) _,kk b' cap' cur' w' HS' hr'⟩
end
end Go.Proofs.YtbpmjppmpgeejaaGreatDoor
namespace Go.Proofs.YtbpmjppmpgeejaaGreatDoor
open Go Go.ChangeShapes Go.WideShapes Go.ChangeAt Go.RowKit
set_option linter.unusedVariables false
set_option maxRecDepth 100000
theorem zf4 {C:Array Value}{o m:Nat}{l:List Value}(hl:l.length=m)(hm:0<m)(h: ∀j,j<m→C[o+j]? =l[j]?):o+m≤C.size∧C.extract o (o+m)=l.toArray:=by
 have hs:o+m≤C.size:=by
  have h1:=h (m-1) (by omega);rw [List.getElem?_eq_getElem (by omega)] at h1;have:=(Array.getElem?_eq_some_iff.1 h1).1;omega
 refine ⟨hs,?_⟩;apply Array.toList_inj.1;apply List.ext_getElem?;intro i;rw [Array.getElem?_toList,Array.getElem?_extract,List.toList_toArray];by_cases hi:i<m
 ·rw [if_pos (by omega),h i hi]
 ·rw [if_neg (by omega),List.getElem?_eq_none (by omega)]
section
variable {H:Type}{enc:TypeId×Value→H}{W:World}{sp:Nat→Bool}{held:Bool}
theorem zf5 {a:Addr}{v:Value}(h:W.cell? a=some v):a=⟨a.block,a.off,none⟩∧∃C T fz,W.heap[a.block]? =some (.cells C T fz)∧C[a.off]? =some v:=by
 obtain ⟨b,o,sp⟩:=a;unfold World.cell? at h;split at h
 ·rename_i C T fz hh
  cases sp with
  | none=>simp at h;exact ⟨rfl,C,T,fz,hh,h⟩
  | some x=>simp at h
 ·cases h
theorem zf6 {b o:Nat}{C:Array Value}{T:TypeId}{fz:Nat×Nat}{v:Option Value}(hh:W.heap[b]? =some (.cells C T fz))(h:W.cell? ⟨b,o,none⟩=v):C[o]? =v:=by
 unfold World.cell? at h;simp only [hh] at h;simpa using h
theorem zf7 {a:Int}(h:(Lit.int .u64 a).wf=true):∃n:Nat,n<0x10000000000000000∧a=((n:Nat):Int):=by
 have h2:0≤a∧a<0x10000000000000000:=by
  simp [Lit.wf,IntKind.min,IntKind.max,IntKind.signed,IntKind.bits] at h;omega
 exact ⟨a.toNat,by omega,by omega⟩
theorem zcs {α:Type}{S:Fl α}{ok:α→Prop}{st et:TypeId}(hst:Tryz.prog.underlying st=some (.slice et))(hc:Tryz.prog.cellsOf et=S.K)(hone: ∀(fuel:Nat) (cs:List Value) (x:DataW H×List MemPlace),DataW.trod enc Tryz.prog W 0 sp held fuel et cs=some x→∃a:α,cs=S.cs a∧ok a)
 {fuel:Nat} {c0:Value} {x:DataW H×List MemPlace} (hf:DataW.trod enc Tryz.prog W 0 sp held fuel st [c0]=some x):
 ∃(q:Option Addr) (n c:Nat) (L:List α),c0=.slice q n c∧qR q n c∧(∀x∈L,ok x)∧AtF S W q n L:=by
 rcases DataW.trod_slice hst hf with ⟨hc,hx⟩|⟨a,len0,cap0,elems,rest,n',rfl,hc',hx,_,hlc,hcm,hel,hels,_,_⟩
 ·obtain rfl:c0=.slice none 0 0:=by simpa using hc
  exact ⟨none,0,0,[],rfl,.inl ⟨rfl,rfl,rfl⟩,(fun _ h=>nomatch h),rfl,.inl rfl⟩
 ·obtain rfl:c0=.slice (some a) len0 cap0:=by simpa using hc'
  have rows: ∀q,q≤len0→∃L:List α,L.length=q∧(∀x∈L,ok x)∧ ∀(i:Nat) (z:α),L[i]? =some z→W.cells? 0 (a.add (i*S.K)) S.K=some (S.cs z):=by
   intro q
   induction q with
   | zero=>exact fun _=>⟨[],rfl,(fun _ h=>nomatch h),fun i z h=>by simp at h⟩
   | succ q ihq=>
    intro hq;obtain ⟨L,hL,hk,hcc⟩:=ihq (by omega);have hi:=hels q (by omega);rw [hc] at hi;have hlt:q<elems.length:=by omega
    rw [List.getElem?_eq_getElem hlt] at hi;obtain ⟨cs',hcs,ht⟩:=Option.bind_eq_some_iff.1 hi;obtain ⟨nd,rfl,hnd⟩:=hone n' cs' _ ht;refine ⟨L++ [nd],by simp [hL],fun x hx=>?_,fun i z hz=>?_⟩
    ·rcases List.mem_append.1 hx with hx|hx
     ·exact hk x hx
     ·rw [List.mem_singleton.1 hx];exact hnd
    by_cases hiq:i<L.length
    ·rw [List.getElem?_append_left hiq] at hz;exact hcc i z hz
    ·rw [List.getElem?_append_right (by omega)] at hz;have:i-L.length=0:=by
      have:=(List.getElem?_eq_some_iff.1 hz).1;simp at this;omega
     rw [this] at hz;simp at hz;subst hz;obtain rfl:i=q:=by omega
     exact hcs
  obtain ⟨L,hL,hk,hcl⟩:=rows len0 (Nat.le_refl _);refine ⟨some a,len0,cap0,L,rfl,.inr ⟨⟨a,rfl⟩,hlc⟩,hk,hL.symm,?_⟩;cases L with
  | nil=>exact .inl rfl
  | cons z0 L0=>
   have f0:=(World.cells?_some (hcl 0 z0 rfl)).2.2 0 S.pos;rw [Nat.zero_mul] at f0;have e0:(a.add 0).add 0=a:=rfl;rw [e0,List.getElem?_eq_getElem (by rw [S.len];exact S.pos)] at f0;obtain ⟨ea,C,T,fz,hh,hC0⟩:=zf5 f0;refine .inr ⟨a.block,a.off,C,T,fz,congrArg some ea,hh,fun i z hz=>?_⟩;refine zf4 (S.len z) S.pos fun j hj=>?_;have h9:=(World.cells?_some (hcl i z hz)).2.2 j hj;rw [ea,yT,yT] at h9;exact zf6 hh h9
end
end Go.Proofs.YtbpmjppmpgeejaaGreatDoor
namespace Go.Proofs.YtbpmjppmpgeejaaGreatDoor
open Go.RowKit
def Wd (x:Int):Prop:=0≤x∧x<0x10000000000000000
def Bt (c:Int):Prop:=0≤c∧c≤1
def w0 (n:Nat):Int:=((n%0x10000000000000000:Nat):Int)
def w1 (n:Nat):Int:=((n / 0x10000000000000000%0x10000000000000000:Nat):Int)
def w2 (n:Nat):Int:=((n / 0x100000000000000000000000000000000%0x10000000000000000:Nat):Int)
def w3 (n:Nat):Int:=((n / 0x1000000000000000000000000000000000000000000000000%0x10000000000000000:Nat):Int)
def big:Nat:=0x10000000000000000000000000000000000000000000000000000000000000000
def mk4 (a b c d:Int):Nat:=(a+0x10000000000000000*b+0x100000000000000000000000000000000*c+0x1000000000000000000000000000000000000000000000000*d).toNat
theorem wd0 (n:Nat):Wd (w0 n):=by unfold Wd w0;omega
theorem wd1 (n:Nat):Wd (w1 n):=by unfold Wd w1;omega
theorem wd2 (n:Nat):Wd (w2 n):=by unfold Wd w2;omega
theorem wd3 (n:Nat):Wd (w3 n):=by unfold Wd w3;omega
theorem kY {a b c d:Int}(ha:Wd a)(hb:Wd b)(hc:Wd c)(hd:Wd d):mk4 a b c d<big:=by
 unfold Wd at*;unfold mk4 big;omega
theorem vX {a b c d:Int}(ha:Wd a)(hb:Wd b)(hc:Wd c)(hd:Wd d):w0 (mk4 a b c d)=a:=by
 unfold Wd at*;unfold mk4 w0;omega
theorem vY {a b c d:Int}(ha:Wd a)(hb:Wd b)(hc:Wd c)(hd:Wd d):w1 (mk4 a b c d)=b:=by
 unfold Wd at*;unfold mk4 w1;omega
theorem vZ {a b c d:Int}(ha:Wd a)(hb:Wd b)(hc:Wd c)(hd:Wd d):w2 (mk4 a b c d)=c:=by
 unfold Wd at*;unfold mk4 w2;omega
theorem ua {a b c d:Int}(ha:Wd a)(hb:Wd b)(hc:Wd c)(hd:Wd d):w3 (mk4 a b c d)=d:=by
 unfold Wd at*;unfold mk4 w3;omega
theorem jW (n:Nat)(h:n<big):(n:Int)=w0 n+0x10000000000000000*w1 n+0x100000000000000000000000000000000*w2 n+0x1000000000000000000000000000000000000000000000000*w3 n:=by
 unfold big at h;unfold w0 w1 w2 w3;omega
theorem zf8 {a b c d:Int}(ha:Wd a)(hb:Wd b)(hc:Wd c)(hd:Wd d):∃n:Nat,n<big∧a=w0 n∧b=w1 n∧c=w2 n∧d=w3 n:=
 ⟨mk4 a b c d,kY ha hb hc hd,(vX ha hb hc hd).symm,(vY ha hb hc hd).symm,(vZ ha hb hc hd).symm,(ua ha hb hc hd).symm⟩
theorem zct {a b c d:Int}{n:Nat}(ha:Wd a)(hb:Wd b)(hc:Wd c)(hd:Wd d)
 (h:(n:Int)=a+0x10000000000000000*b+0x100000000000000000000000000000000*c+0x1000000000000000000000000000000000000000000000000*d):
 a=w0 n∧b=w1 n∧c=w2 n∧d=w3 n:=by
 have e:n=mk4 a b c d:=by unfold mk4;omega
 subst e;exact ⟨(vX ha hb hc hd).symm,(vY ha hb hc hd).symm,(vZ ha hb hc hd).symm,(ua ha hb hc hd).symm⟩
theorem zf9 {n m:Nat}(hn:n<big)(hm:m<big)(h0:w0 n=w0 m)(h1:w1 n=w1 m)(h2:w2 n=w2 m)(h3:w3 n=w3 m):n=m:=by
 have a:=jW n hn;have b:=jW m hm;rw [h0,h1,h2,h3] at a;omega
def kg (x y c s d:Int):Prop:=x+y+c=s+0x10000000000000000*d∧Wd s∧Bt d
def kh (x y c s d:Int):Prop:=x-y-c=s-0x10000000000000000*d∧Wd s∧Bt d
def ov (a b:Nat):Bool:=decide (big≤a+b)
def sm (a b:Nat):Nat:=(a+b)%big
def lo (a b:Nat):Bool:=decide (a<b)
def df (a b:Nat):Nat:=(a+big-b)%big
theorem zga {A B:Nat}(hA:A<big)(hB:B<big){s0 c0 s1 c1 s2 c2 s3 c3:Int}(h0:kg (w0 A) (w0 B) 0 s0 c0)(h1:kg (w1 A) (w1 B) c0 s1 c1)(h2:kg (w2 A) (w2 B) c1 s2 c2)(h3:kg (w3 A) (w3 B) c2 s3 c3):
 (s0=w0 (sm A B)∧s1=w1 (sm A B)∧s2=w2 (sm A B)∧s3=w3 (sm A B))∧(c3==1)=ov A B:=by
 have a:=jW A hA;have b:=jW B hB;obtain ⟨e0,d0,_⟩:=h0;obtain ⟨e1,d1,_⟩:=h1;obtain ⟨e2,d2,_⟩:=h2;obtain ⟨e3,d3,k3⟩:=h3;have key:(A:Int)+B=s0+0x10000000000000000*s1+0x100000000000000000000000000000000*s2+0x1000000000000000000000000000000000000000000000000*s3+0x10000000000000000000000000000000000000000000000000000000000000000*c3:=by omega
 have lt:=kY d0 d1 d2 d3;have em:((mk4 s0 s1 s2 s3:Nat):Int)=s0+0x10000000000000000*s1+0x100000000000000000000000000000000*s2+0x1000000000000000000000000000000000000000000000000*s3:=by
  unfold Wd at*;unfold mk4;omega
 constructor
 ·refine zct d0 d1 d2 d3 ?_;rw [←em];unfold sm;unfold big at*;unfold Bt at*;omega
 ·unfold ov;rw [Bool.eq_iff_iff];simp only [beq_iff_eq,decide_eq_true_eq];unfold big at*;unfold Bt at*;omega
theorem zgb {A B:Nat}(hA:A<big)(hB:B<big){s0 c0 s1 c1 s2 c2 s3 c3:Int}(h0:kh (w0 A) (w0 B) 0 s0 c0)(h1:kh (w1 A) (w1 B) c0 s1 c1)(h2:kh (w2 A) (w2 B) c1 s2 c2)(h3:kh (w3 A) (w3 B) c2 s3 c3):
 (s0=w0 (df A B)∧s1=w1 (df A B)∧s2=w2 (df A B)∧s3=w3 (df A B))∧(c3==1)=lo A B:=by
 have a:=jW A hA;have b:=jW B hB;obtain ⟨e0,d0,_⟩:=h0;obtain ⟨e1,d1,_⟩:=h1;obtain ⟨e2,d2,_⟩:=h2;obtain ⟨e3,d3,k3⟩:=h3;have key:(A:Int)-B=s0+0x10000000000000000*s1+0x100000000000000000000000000000000*s2+0x1000000000000000000000000000000000000000000000000*s3-0x10000000000000000000000000000000000000000000000000000000000000000*c3:=by omega
 have lt:=kY d0 d1 d2 d3;have em:((mk4 s0 s1 s2 s3:Nat):Int)=s0+0x10000000000000000*s1+0x100000000000000000000000000000000*s2+0x1000000000000000000000000000000000000000000000000*s3:=by
  unfold Wd at*;unfold mk4;omega
 constructor
 ·refine zct d0 d1 d2 d3 ?_;rw [←em];unfold df;unfold big at*;unfold Bt at*;omega
 ·unfold lo;rw [Bool.eq_iff_iff];simp only [beq_iff_eq,decide_eq_true_eq];unfold big at*;unfold Bt at*;omega
end Go.Proofs.YtbpmjppmpgeejaaGreatDoor
namespace Go.Proofs.Ec
set_option linter.unusedVariables false
set_option linter.unusedSectionVars false
section
variable {F:Type}[Lean.Grind.Field F]
structure zl0 (b k m x1 y1 x2 y2 x3 y3:F):Prop where
 e1:x1+x2+x3=k*k
 e2:x1*x2+x1*x3+x2*x3= -2*k*m
 e3:x1*x2*x3=m*m-b
 l1:y1=k*x1+m
 l2:y2=k*x2+m
 l3:y3=k*x3+m
inductive Pt (F:Type) where
 | zero
 | pt (x y:F)
 deriving DecidableEq
variable [DecidableEq F]
end
end Go.Proofs.Ec
namespace Go.Proofs.YtbpmjppmpgeejaaGreatDoor
set_option linter.unusedVariables false
def PrP (p:Nat):Prop:=1<p∧ ∀d,d∣p→d=1∨d=p
theorem zgc {n:Nat} : ∀k,(∃d,1<d∧d≤k∧d∣n)→∃r,1<r∧r∣n∧ ∀d,1<d→d∣n→r≤d
 | 0,⟨d,h1,h2,_⟩=>by omega
 | k+1,⟨d,h1,h2,h3⟩=>by
  by_cases h:∃d,1<d∧d≤k∧d∣n
  ·exact zgc k h
  ·have hd:d=k+1:=by
    rcases Nat.lt_or_ge k d with h' | h'
    ·omega
    ·exact absurd ⟨d,h1,h',h3⟩ h
   refine ⟨d,h1,h3,fun e he hen=>?_⟩;rcases Nat.lt_or_ge e d with h' | h'
   ·exact absurd ⟨e,he,by omega,hen⟩ h
   ·exact h'
def row (a r:Nat):Nat→List Nat
 | 0=>[]
 | n+1=>a*(n+1)%r::row a r n
end Go.Proofs.YtbpmjppmpgeejaaGreatDoor
namespace Go.Proofs.Zm
open Go.Proofs.YtbpmjppmpgeejaaGreatDoor
set_option linter.unusedVariables false
class PrM (M:Nat):Prop where
 pr:PrP M
 two:2<M
structure Zm (M:Nat) where
 v:Nat
 lt:v<M
section
variable {M:Nat}[hM:PrM M]
end
end Go.Proofs.Zm
namespace Go.Proofs.YtbpmjppmpgeejaaGreatDoor
open Go.ChangeShapes Go.WideShapes Go.ChangeAt Go.RowKit
set_option linter.unusedVariables false
@[reducible] def uv (n:Nat):Value:=.agg #[.int .u64 (w0 n),.int .u64 (w1 n),.int .u64 (w2 n),.int .u64 (w3 n)]
theorem ki {x y c:Int}(hx:Wd x)(hy:Wd y)(hc:Bt c):∃s d,(∀w,(callFunc 165 #[.int .u64 x,.int .u64 y,.int .u64 c]).run Tryz.prog w=.ok (.value (.tuple #[.int .u64 s,.int .u64 d])) w)∧kg x y c s d:=by
 obtain ⟨hx0,hx1⟩:=hx;obtain ⟨hy0,hy1⟩:=hy;obtain ⟨hc0,hc1⟩:=hc;obtain ⟨X,rfl⟩:=Int.eq_ofNat_of_zero_le hx0;obtain ⟨Y,rfl⟩:=Int.eq_ofNat_of_zero_le hy0;obtain ⟨C,rfl⟩:=Int.eq_ofNat_of_zero_le hc0;refine ⟨(((X+Y+C)%0x10000000000000000:Nat):Int),(((X+Y+C) / 0x10000000000000000:Nat):Int),fun w=>?_,?_⟩
 ·rw [run_callFunc_extern Tryz.func165 (by kernel_rfl) (by kernel_rfl) (by kernel_rfl) (e:=add64Entry) (by kernel_rfl),run_add64 X Y C (by omega) (by omega) (by omega) (by omega)];simp only [Result.andThen];congr 5<;>omega
 ·unfold kg Wd Bt;omega
theorem ub {x y c:Int}(hx:Wd x)(hy:Wd y)(hc:Bt c):∃s d,(∀w,(callFunc 162 #[.int .u64 x,.int .u64 y,.int .u64 c]).run Tryz.prog w=.ok (.value (.tuple #[.int .u64 s,.int .u64 d])) w)∧kh x y c s d:=by
 obtain ⟨hx0,hx1⟩:=hx;obtain ⟨hy0,hy1⟩:=hy;obtain ⟨hc0,hc1⟩:=hc;obtain ⟨X,rfl⟩:=Int.eq_ofNat_of_zero_le hx0;obtain ⟨Y,rfl⟩:=Int.eq_ofNat_of_zero_le hy0;obtain ⟨C,rfl⟩:=Int.eq_ofNat_of_zero_le hc0;refine ⟨(((X+0x10000000000000000-Y-C)%0x10000000000000000:Nat):Int),((if X<Y+C then 1 else 0:Nat):Int),fun w=>?_,?_⟩
 ·rw [run_callFunc_extern Tryz.func162 (by kernel_rfl) (by kernel_rfl) (by kernel_rfl) (e:=sub64Entry) (by kernel_rfl),run_sub64 X Y C (by omega)];rfl
 ·unfold kh Wd Bt;split<;>omega
theorem ix0 (x0 x1 x2 x3:Value)(w:World):(Instr.index 48 (.agg #[x0,x1,x2,x3]) (.int .i64 0)).run Tryz.prog w=.ok x0 w:=by kernel_rfl
theorem ix1 (x0 x1 x2 x3:Value)(w:World):(Instr.index 48 (.agg #[x0,x1,x2,x3]) (.int .i64 1)).run Tryz.prog w=.ok x1 w:=by kernel_rfl
theorem ix2 (x0 x1 x2 x3:Value)(w:World):(Instr.index 48 (.agg #[x0,x1,x2,x3]) (.int .i64 2)).run Tryz.prog w=.ok x2 w:=by kernel_rfl
theorem ix3 (x0 x1 x2 x3:Value)(w:World):(Instr.index 48 (.agg #[x0,x1,x2,x3]) (.int .i64 3)).run Tryz.prog w=.ok x3 w:=by kernel_rfl
theorem zgd (n:Int)(w:World):Calls Tryz.prog 164 #[.int .u64 n] w fun e w'=>e=.returned (.agg #[.int .u64 n,wZ,wZ,wZ])∧Below w.heap.size w w':=by
 go_enter Tryz.func164,Tryz.ntmps164
 go_wp2
 go_returns
 exact ⟨rfl,by go_grown⟩
theorem zge (A B:Nat)(hA:A<big)(hB:B<big)(w:World):Calls Tryz.prog 157 #[uv A,uv B] w fun e w'=>e=.returned (.tuple #[uv (sm A B),.bool (ov A B)])∧Below w.heap.size w w':=by
 obtain ⟨s0,c0,r0,e0⟩:=ki (wd0 A) (wd0 B) (c:=0) (by unfold Bt;omega);obtain ⟨s1,c1,r1,e1⟩:=ki (wd1 A) (wd1 B) e0.2.2;obtain ⟨s2,c2,r2,e2⟩:=ki (wd2 A) (wd2 B) e1.2.2;obtain ⟨s3,c3,r3,e3⟩:=ki (wd3 A) (wd3 B) e2.2.2;obtain ⟨⟨q0,q1,q2,q3⟩,q4⟩:=zga hA hB e0 e1 e2 e3;clear e0 e1 e2 e3;unfold uv;rw [←q0,←q1,←q2,←q3,←q4];clear q0 q1 q2 q3 q4;have i0:=ix0;have i1:=ix1;have i2:=ix2;have i3:=ix3
 go_enter Tryz.func157,Tryz.ntmps157
 go_wp2
 go_rounds 5
 go_returns
 exact ⟨rfl,by go_grown⟩
theorem zgf (A B:Nat)(hA:A<big)(hB:B<big)(w:World):Calls Tryz.prog 155 #[uv A,uv B] w fun e w'=>e=.returned (.tuple #[uv (df A B),.bool (lo A B)])∧Below w.heap.size w w':=by
 obtain ⟨s0,c0,r0,e0⟩:=ub (wd0 A) (wd0 B) (c:=0) (by unfold Bt;omega);obtain ⟨s1,c1,r1,e1⟩:=ub (wd1 A) (wd1 B) e0.2.2;obtain ⟨s2,c2,r2,e2⟩:=ub (wd2 A) (wd2 B) e1.2.2;obtain ⟨s3,c3,r3,e3⟩:=ub (wd3 A) (wd3 B) e2.2.2;obtain ⟨⟨q0,q1,q2,q3⟩,q4⟩:=zgb hA hB e0 e1 e2 e3;clear e0 e1 e2 e3;unfold uv;rw [←q0,←q1,←q2,←q3,←q4];clear q0 q1 q2 q3 q4;have i0:=ix0;have i1:=ix1;have i2:=ix2;have i3:=ix3
 go_enter Tryz.func155,Tryz.ntmps155
 go_wp2
 go_rounds 5
 go_returns
 exact ⟨rfl,by go_grown⟩
def mH (x y:Int):Int:=x*y / 0x10000000000000000
def mL (x y:Int):Int:=x*y%0x10000000000000000
theorem zgg (x y:Nat)(hx:x<0x10000000000000000)(hy:y<0x10000000000000000)(w:World):
 Calls Tryz.prog 168 #[.int .u64 x,.int .u64 y] w fun e w'=>e=.returned (.tuple #[.int .u64 ((x*y / 0x10000000000000000:Nat):Int),.int .u64 ((x*y%0x10000000000000000:Nat):Int)])∧w=w':=by
 obtain ⟨bd,bt,bw,hhi⟩:=Lib.mul64_hi x y hx hy;have ba:=Lib.half_mul_le (a:=x / 4294967296) (b:=y / 4294967296) (by omega) (by omega);have bb:=Lib.half_mul_le (a:=x / 4294967296) (b:=y%4294967296) (by omega) (by omega);have bc:=Lib.half_mul_le (a:=x%4294967296) (b:=y / 4294967296) (by omega) (by omega);have ba':x / 4294967296*(y / 4294967296)<0x10000000000000000:=by omega
 have bb':x / 4294967296*(y%4294967296)<0x10000000000000000:=by omega
 have bc':x%4294967296*(y / 4294967296)<0x10000000000000000:=by omega
 have bh1:x / 4294967296*(y / 4294967296)+(x / 4294967296*(y%4294967296)+x%4294967296*(y%4294967296) / 4294967296) / 4294967296<0x10000000000000000:=by omega
 have bh:x / 4294967296*(y / 4294967296)+(x / 4294967296*(y%4294967296)+x%4294967296*(y%4294967296) / 4294967296) / 4294967296+((x / 4294967296*(y%4294967296)+x%4294967296*(y%4294967296) / 4294967296)%4294967296+x%4294967296*(y / 4294967296)) / 4294967296<0x10000000000000000:=by omega
 go_enter Tryz.func168,Tryz.ntmps168
 go_wp2
 simp only [Mul64.maskN x hx,Mul64.maskN y hy,Mul64.divN,Mul64.mulN,Mul64.addN,Mul64.wrapN _ bd,Mul64.wrapN _ bb',Mul64.wrapN _ bt,Mul64.maskN _ bt,Mul64.wrapN _ bc',Mul64.wrapN _ bw,Mul64.wrapN _ ba',Mul64.wrapN _ bh1,Mul64.wrapN _ bh,Mul64.wrapM (x*y)];rw [hhi]
 go_ret2
 exact ⟨rfl,rfl⟩
theorem yH {x y:Int}(hx:Wd x)(hy:Wd y)(w:World):
 Calls Tryz.prog 168 #[.int .u64 x,.int .u64 y] w fun e w'=>e=.returned (.tuple #[.int .u64 (mH x y),.int .u64 (mL x y)])∧w=w':=by
 obtain ⟨hx0,hx1⟩:=hx;obtain ⟨hy0,hy1⟩:=hy;obtain ⟨X,rfl⟩:=Int.eq_ofNat_of_zero_le hx0;obtain ⟨Y,rfl⟩:=Int.eq_ofNat_of_zero_le hy0;have e1:mH X Y=((X*Y / 0x10000000000000000:Nat):Int):=by unfold mH;omega
 have e2:mL X Y=((X*Y%0x10000000000000000:Nat):Int):=by unfold mL;omega
 rw [e1,e2];exact zgg X Y (by omega) (by omega) w
def yE (x y p c s d:Int):Prop:=x*y+p+c=s+0x10000000000000000*d∧Wd s∧Wd d
theorem qg {x y p c:Int}(hx:Wd x)(hy:Wd y)(hp:Wd p)(hc:Wd c):∃l1 o1 l2 o2,
 (∀w,(callFunc 165 #[.int .u64 (mL x y),.int .u64 p,wZ]).run Tryz.prog w=.ok (.value (.tuple #[.int .u64 l1,.int .u64 o1])) w)∧
 (∀w,(callFunc 165 #[.int .u64 l1,.int .u64 c,wZ]).run Tryz.prog w=.ok (.value (.tuple #[.int .u64 l2,.int .u64 o2])) w)∧
 IntKind.u64.wrap (mH x y+o1)=mH x y+o1∧IntKind.u64.wrap (mH x y+o1+o2)=mH x y+o1+o2∧yE x y p c l2 (mH x y+o1+o2):=by
 have hm:0≤x*y∧x*y≤0xfffffffffffffffe0000000000000001:=by
  obtain ⟨hx0,hx1⟩:=hx;obtain ⟨hy0,hy1⟩:=hy;refine ⟨Int.mul_nonneg hx0 hy0,?_⟩;have:=Int.mul_le_mul (show x≤0xffffffffffffffff by omega) (show y≤0xffffffffffffffff by omega) hy0 (by omega);omega
 have hL:Wd (mL x y):=by unfold Wd mL;omega
 obtain ⟨l1,o1,r1,e1,d1,b1⟩:=ki hL hp (c:=0) (by unfold Bt;omega);obtain ⟨l2,o2,r2,e2,d2,b2⟩:=ki d1 hc (c:=0) (by unfold Bt;omega);have k1:0≤mH x y+o1∧mH x y+o1+o2≤0xffffffffffffffff:=by
  unfold Wd Bt at*;unfold mH mL at*;omega
 have k2:0≤o2:=b2.1;refine ⟨l1,o1,l2,o2,r1,r2,?_,?_,?_⟩
 ·rw [IntKind.wrap_u64];omega
 ·rw [IntKind.wrap_u64];omega
 ·refine ⟨?_,d2,?_⟩
  ·unfold mH mL at*;omega
  ·unfold Wd;omega
def pl (A B:Nat):Nat:=A*B%big
def ph (A B:Nat):Nat:=A*B / big
theorem uc {a b0 b1 b2 b3 p0 p1 p2 p3 q0 q1 q2 q3 c0 c1 c2 c3:Int}(h0:yE a b0 p0 0 q0 c0)(h1:yE a b1 p1 c0 q1 c1)(h2:yE a b2 p2 c1 q2 c2)(h3:yE a b3 p3 c2 q3 c3):
 a*(b0+0x10000000000000000*b1+0x100000000000000000000000000000000*b2+0x1000000000000000000000000000000000000000000000000*b3)+p0+0x10000000000000000*p1+0x100000000000000000000000000000000*p2+0x1000000000000000000000000000000000000000000000000*p3=q0+0x10000000000000000*q1+0x100000000000000000000000000000000*q2+0x1000000000000000000000000000000000000000000000000*q3+0x10000000000000000000000000000000000000000000000000000000000000000*c3:=by
 have e:a*(b0+0x10000000000000000*b1+0x100000000000000000000000000000000*b2+0x1000000000000000000000000000000000000000000000000*b3)=a*b0+0x10000000000000000*(a*b1)+0x100000000000000000000000000000000*(a*b2)+0x1000000000000000000000000000000000000000000000000*(a*b3):=by
  rw [Int.mul_add,Int.mul_add,Int.mul_add,Int.mul_left_comm a,Int.mul_left_comm a,Int.mul_left_comm a]
 obtain ⟨e0,_,_⟩:=h0;obtain ⟨e1,_,_⟩:=h1;obtain ⟨e2,_,_⟩:=h2;obtain ⟨e3,_,_⟩:=h3;rw [e];omega
theorem zgh {A B:Nat}(hA:A<big)(hB:B<big){q00 c00 q01 c01 q02 c02 q03 c03 q10 c10 q11 c11 q12 c12 q13 c13 q20 c20 q21 c21 q22 c22 q23 c23 q30 c30 q31 c31 q32 c32 q33 c33:Int}(m00:yE (w0 A) (w0 B) 0 0 q00 c00)(m01:yE (w0 A) (w1 B) 0 c00 q01 c01)(m02:yE (w0 A) (w2 B) 0 c01 q02 c02)(m03:yE (w0 A) (w3 B) 0 c02 q03 c03)(m10:yE (w1 A) (w0 B) q01 0 q10 c10)(m11:yE (w1 A) (w1 B) q02 c10 q11 c11)(m12:yE (w1 A) (w2 B) q03 c11 q12 c12)(m13:yE (w1 A) (w3 B) c03 c12 q13 c13)(m20:yE (w2 A) (w0 B) q11 0 q20 c20)(m21:yE (w2 A) (w1 B) q12 c20 q21 c21)(m22:yE (w2 A) (w2 B) q13 c21 q22 c22)(m23:yE (w2 A) (w3 B) c13 c22 q23 c23)(m30:yE (w3 A) (w0 B) q21 0 q30 c30)(m31:yE (w3 A) (w1 B) q22 c30 q31 c31)(m32:yE (w3 A) (w2 B) q23 c31 q32 c32)(m33:yE (w3 A) (w3 B) c23 c32 q33 c33):
 (q00=w0 (pl A B)∧q10=w1 (pl A B)∧q20=w2 (pl A B)∧q30=w3 (pl A B))∧q31=w0 (ph A B)∧q32=w1 (ph A B)∧q33=w2 (ph A B)∧c33=w3 (ph A B):=by
 have a:=jW A hA;have b:=jW B hB;have r0:=uc m00 m01 m02 m03;have r1:=uc m10 m11 m12 m13;have r2:=uc m20 m21 m22 m23;have r3:=uc m30 m31 m32 m33;rw [←b] at r0 r1 r2 r3;have e:(A:Int)*B=w0 A*B+0x10000000000000000*(w1 A*B)+0x100000000000000000000000000000000*(w2 A*B)+0x1000000000000000000000000000000000000000000000000*(w3 A*B):=by
  conv=>lhs;rw [a]
  rw [Int.add_mul,Int.add_mul,Int.add_mul,Int.mul_assoc,Int.mul_assoc,Int.mul_assoc]
 have d0:Wd q00:=m00.2.1;have d1:Wd q10:=m10.2.1;have d2:Wd q20:=m20.2.1;have d3:Wd q30:=m30.2.1;have d4:Wd q31:=m31.2.1;have d5:Wd q32:=m32.2.1;have d6:Wd q33:=m33.2.1;have d7:Wd c33:=m33.2.2;have key:(A:Int)*B=q00+0x10000000000000000*q10+0x100000000000000000000000000000000*q20+0x1000000000000000000000000000000000000000000000000*q30+0x10000000000000000000000000000000000000000000000000000000000000000*q31+0x100000000000000000000000000000000000000000000000000000000000000000000000000000000*q32+0x1000000000000000000000000000000000000000000000000000000000000000000000000000000000000000000000000*q33+0x10000000000000000000000000000000000000000000000000000000000000000000000000000000000000000000000000000000000000000*c33:=by omega
 clear r0 r1 r2 r3 e;have lt1:=kY d0 d1 d2 d3;have lt2:=kY d4 d5 d6 d7;have em1:((mk4 q00 q10 q20 q30:Nat):Int)=q00+0x10000000000000000*q10+0x100000000000000000000000000000000*q20+0x1000000000000000000000000000000000000000000000000*q30:=by unfold Wd at d0 d1 d2 d3;unfold mk4;omega
 have em2:((mk4 q31 q32 q33 c33:Nat):Int)=q31+0x10000000000000000*q32+0x100000000000000000000000000000000*q33+0x1000000000000000000000000000000000000000000000000*c33:=by unfold Wd at d4 d5 d6 d7;unfold mk4;omega
 have kn:A*B=mk4 q00 q10 q20 q30+0x10000000000000000000000000000000000000000000000000000000000000000*mk4 q31 q32 q33 c33:=by
  have:((A*B:Nat):Int)=(A:Int)*B:=Int.natCast_mul A B;omega
 have k1:pl A B=mk4 q00 q10 q20 q30:=by unfold pl;unfold big at*;omega
 have k2:ph A B=mk4 q31 q32 q33 c33:=by unfold ph;unfold big at*;omega
 rw [k1,k2];exact ⟨⟨(vX d0 d1 d2 d3).symm,(vY d0 d1 d2 d3).symm,(vZ d0 d1 d2 d3).symm,(ua d0 d1 d2 d3).symm⟩,(vX d4 d5 d6 d7).symm,(vY d4 d5 d6 d7).symm,(vZ d4 d5 d6 d7).symm,(ua d4 d5 d6 d7).symm⟩
end Go.Proofs.YtbpmjppmpgeejaaGreatDoor
namespace Go.Proofs.YtbpmjppmpgeejaaGreatDoor
set_option linter.unusedVariables false
def NR:Nat:=0xfffffffffffffffffffffffffffffffebaaedce6af48a03bbfd25e8cd0364141
def MOK (M:Nat):Prop:=M<big∧big<2*M
theorem qE:MOK NR:=by unfold MOK NR big;omega
def rs (L H M:Nat):Nat:=(L+big*H)%M
theorem zcu {L H M:Nat}(h:MOK M):rs L H M<big:=Nat.lt_trans (Nat.mod_lt _ (by unfold MOK big at h;omega)) h.1
theorem ud {L H M:Nat}(h:MOK M):rs L H M<M:=Nat.mod_lt _ (by unfold MOK big at h;omega)
theorem zaA (A B:Nat):sm A B<big:=Nat.mod_lt _ (by decide)
theorem zaB (A B:Nat):df A B<big:=Nat.mod_lt _ (by decide)
theorem zcv (A B:Nat):pl A B<big:=Nat.mod_lt _ (by decide)
theorem zgi {A B:Nat}(hA:A<big)(hB:B<big):ph A B<big:=by
 unfold ph;exact Nat.div_lt_of_lt_mul (Nat.mul_lt_mul'' hA hB)
theorem zgj (A B:Nat):A*B=pl A B+big*ph A B:=by unfold pl ph;exact (Nat.mod_add_div _ _).symm
theorem zgk {l h M:Nat}(hM:MOK M)(hl:l<big)(hh:h<big)(h0:h≠0):
 ∃h',(h'=if ov l (pl h (df 0 M)) then sm (ph h (df 0 M)) 1 else ph h (df 0 M))∧h'<big∧
  sm l (pl h (df 0 M))+big*h'+h*M=l+big*h:=by
 have hs:df 0 M=big-M:=by unfold df;unfold MOK at hM;rw [Nat.zero_add,Nat.mod_eq_of_lt];omega
 have hk:=zgj h (df 0 M);have hph:ph h (df 0 M)+1<big:=by
  have:ph h (df 0 M)<big-M:=by
   rw [hs];unfold ph;refine Nat.div_lt_of_lt_mul ?_;exact Nat.mul_lt_mul_of_pos_right hh (by unfold MOK at hM;omega)
  unfold MOK at hM;omega
 have hp:=zcv h (df 0 M);have hmul:h*(big-M)+h*M=big*h:=by rw [←Nat.mul_add,Nat.sub_add_cancel (Nat.le_of_lt hM.1),Nat.mul_comm]
 rw [←hs] at hmul;refine ⟨_,rfl,?_,?_⟩
 ·split
  ·exact zaA _ _
  ·omega
 ·generalize df 0 M=s at*;generalize pl h s=p at*;generalize ph h s=q at*;generalize h*s=hs2 at*;unfold ov sm;by_cases ho:big≤l+p
  ·rw [decide_eq_true ho];simp only [if_true];rw [Nat.mod_eq_of_lt hph];have:(l+p)%big=l+p-big:=by rw [Nat.mod_eq_sub_mod ho,Nat.mod_eq_of_lt (by omega)]
   rw [this,Nat.mul_add,Nat.mul_one];omega
  ·rw [decide_eq_false ho];simp only [Bool.false_eq_true,if_false];rw [Nat.mod_eq_of_lt (by omega)];omega
theorem zcw {l h l' h' M L H:Nat}(he:l'+big*h'+h*M=l+big*h)(hm:(l+big*h)%M=rs L H M):(l'+big*h')%M=rs L H M:=by
 rw [←hm,←he,Nat.add_mul_mod_self_right]
theorem zcx {l h l' h' M:Nat}(hM:MOK M)(h0:h≠0)(he:l'+big*h'+h*M=l+big*h):l'+big*h'<l+big*h:=by
 have:0<h*M:=Nat.mul_pos (by omega) (by unfold MOK big at hM;omega);omega
theorem zgl {l M L H:Nat}(hM:MOK M)(hl:l<big)(hm:(l+big*0)%M=rs L H M)(hc:M≤l):df l M=rs L H M:=by
 rw [←hm];unfold df MOK at*;have h1:(l+big-M)%big=l-M:=by
  have:l+big-M=(l-M)+big:=by omega
  rw [this,Nat.add_mod_right,Nat.mod_eq_of_lt (by omega)]
 rw [h1,Nat.mul_zero,Nat.add_zero,Nat.mod_eq_sub_mod hc,Nat.mod_eq_of_lt (by omega)]
theorem zgm {l M L H:Nat}(hm:(l+big*0)%M=rs L H M)(hc: ¬M≤l):l=rs L H M:=by
 rw [←hm,Nat.mul_zero,Nat.add_zero,Nat.mod_eq_of_lt (by omega)]
def yV (A B M:Nat):Nat:=(A%M+(M-B%M))%M
theorem zgn {A B M:Nat}(hM:MOK M)(h:lo (rs A 0 M) (rs B 0 M)=true):sm (df (rs A 0 M) (rs B 0 M)) M=yV A B M:=by
 have ha:=ud (L:=A) (H:=0) hM;have hb:=ud (L:=B) (H:=0) hM;unfold lo at h;have h:=of_decide_eq_true h;have e1:rs A 0 M=A%M:=by unfold rs;rw [Nat.mul_zero,Nat.add_zero]
 have e2:rs B 0 M=B%M:=by unfold rs;rw [Nat.mul_zero,Nat.add_zero]
 rw [e1] at ha h ⊢;rw [e2] at hb h ⊢;unfold yV sm df;unfold MOK at hM;rw [Nat.mod_eq_of_lt (show A%M+big-B%M<big by omega)];have:A%M+big-B%M+M=(A%M+(M-B%M))+big:=by omega
 rw [this,Nat.add_mod_right,Nat.mod_eq_of_lt (show A%M+(M-B%M)<big by omega),Nat.mod_eq_of_lt (show A%M+(M-B%M)<M by omega)]
theorem zgo {A B M:Nat}(hM:MOK M)(h:lo (rs A 0 M) (rs B 0 M)=false):df (rs A 0 M) (rs B 0 M)=yV A B M:=by
 have ha:=ud (L:=A) (H:=0) hM;have hb:=ud (L:=B) (H:=0) hM;unfold lo at h;have h:=of_decide_eq_false h;have e1:rs A 0 M=A%M:=by unfold rs;rw [Nat.mul_zero,Nat.add_zero]
 have e2:rs B 0 M=B%M:=by unfold rs;rw [Nat.mul_zero,Nat.add_zero]
 rw [e1] at ha h ⊢;rw [e2] at hb h ⊢;unfold yV df;unfold MOK at hM;have t1:A%M+big-B%M=(A%M-B%M)+big:=by omega
 have t2:A%M+(M-B%M)=(A%M-B%M)+M:=by omega
 rw [t1,t2,Nat.add_mod_right,Nat.add_mod_right,Nat.mod_eq_of_lt (show A%M-B%M<big by omega),Nat.mod_eq_of_lt (show A%M-B%M<M by omega)]
theorem zcy {A B M:Nat}(h:MOK M):yV A B M<big:=Nat.lt_trans (Nat.mod_lt _ (by unfold MOK big at h;omega)) h.1
set_option maxRecDepth 100000
end Go.Proofs.YtbpmjppmpgeejaaGreatDoor
namespace Go.Proofs.Ec
open Go.Proofs.YtbpmjppmpgeejaaGreatDoor Go.Proofs.Zm
set_option linter.unusedVariables false
section
variable {F:Type}[Lean.Grind.Field F][DecidableEq F]
structure zgp (b:F):Prop where
 two:(2:F)≠0
 three:(3:F)≠0
 b:b≠0
variable {b:F}(g:zgp b)
include g
end
structure Wp where
 X:Nat
 Y:Nat
 b:Bool
 Z:Nat
structure Wp.Ok (a:Wp):Prop where
 X:a.X<big
 Y:a.Y<big
 Z:a.Z<big
structure Pd where
 X:Nat
 Y:Nat
 b:Bool
 deriving DecidableEq
structure Pd.Ok (p:Pd):Prop where
 X:p.X<big
 Y:p.Y<big
end Go.Proofs.Ec
namespace Go.Proofs.YtbpmjppmpgeejaaGreatDoor
open Go.ChangeShapes Go.WideShapes Go.ChangeAt Go.RowKit
set_option linter.unusedVariables false
theorem zgq (A B:Nat)(hA:A<big)(hB:B<big)(w:World):Calls Tryz.prog 163 #[uv A,uv B] w fun e w'=>e=.returned (.tuple #[uv (pl A B),uv (ph A B)])∧Below w.heap.size w w':=by
 have z:Wd 0:=by unfold Wd;omega
 have a0:=wd0 A;have b0:=wd0 B;have a1:=wd1 A;have b1:=wd1 B;have a2:=wd2 A;have b2:=wd2 B;have a3:=wd3 A;have b3:=wd3 B;obtain ⟨l00,o00,q00,u00,r00,t00,v00,x00,m00⟩:=qg a0 b0 z z;have dq00:=m00.2.1;have dc00:=m00.2.2;obtain ⟨l01,o01,q01,u01,r01,t01,v01,x01,m01⟩:=qg a0 b1 z dc00;have dq01:=m01.2.1;have dc01:=m01.2.2;obtain ⟨l02,o02,q02,u02,r02,t02,v02,x02,m02⟩:=qg a0 b2 z dc01;have dq02:=m02.2.1;have dc02:=m02.2.2;obtain ⟨l03,o03,q03,u03,r03,t03,v03,x03,m03⟩:=qg a0 b3 z dc02;have dq03:=m03.2.1;have dc03:=m03.2.2;obtain ⟨l10,o10,q10,u10,r10,t10,v10,x10,m10⟩:=qg a1 b0 dq01 z;have dq10:=m10.2.1;have dc10:=m10.2.2;obtain ⟨l11,o11,q11,u11,r11,t11,v11,x11,m11⟩:=qg a1 b1 dq02 dc10;have dq11:=m11.2.1;have dc11:=m11.2.2;obtain ⟨l12,o12,q12,u12,r12,t12,v12,x12,m12⟩:=qg a1 b2 dq03 dc11;have dq12:=m12.2.1;have dc12:=m12.2.2;obtain ⟨l13,o13,q13,u13,r13,t13,v13,x13,m13⟩:=qg a1 b3 dc03 dc12;have dq13:=m13.2.1;have dc13:=m13.2.2;obtain ⟨l20,o20,q20,u20,r20,t20,v20,x20,m20⟩:=qg a2 b0 dq11 z;have dq20:=m20.2.1;have dc20:=m20.2.2;obtain ⟨l21,o21,q21,u21,r21,t21,v21,x21,m21⟩:=qg a2 b1 dq12 dc20;have dq21:=m21.2.1;have dc21:=m21.2.2;obtain ⟨l22,o22,q22,u22,r22,t22,v22,x22,m22⟩:=qg a2 b2 dq13 dc21;have dq22:=m22.2.1;have dc22:=m22.2.2;obtain ⟨l23,o23,q23,u23,r23,t23,v23,x23,m23⟩:=qg a2 b3 dc13 dc22;have dq23:=m23.2.1;have dc23:=m23.2.2;obtain ⟨l30,o30,q30,u30,r30,t30,v30,x30,m30⟩:=qg a3 b0 dq21 z;have dq30:=m30.2.1;have dc30:=m30.2.2;obtain ⟨l31,o31,q31,u31,r31,t31,v31,x31,m31⟩:=qg a3 b1 dq22 dc30;have dq31:=m31.2.1;have dc31:=m31.2.2;obtain ⟨l32,o32,q32,u32,r32,t32,v32,x32,m32⟩:=qg a3 b2 dq23 dc31;have dq32:=m32.2.1;have dc32:=m32.2.2;obtain ⟨l33,o33,q33,u33,r33,t33,v33,x33,m33⟩:=qg a3 b3 dc23 dc32;have dq33:=m33.2.1;have dc33:=m33.2.2;obtain ⟨⟨g0,g1,g2,g3⟩,g4,g5,g6,g7⟩:=zgh hA hB m00 m01 m02 m03 m10 m11 m12 m13 m20 m21 m22 m23 m30 m31 m32 m33;clear m00 m01 m02 m03 m10 m11 m12 m13 m20 m21 m22 m23 m30 m31 m32 m33;unfold uv;rw [←g0,←g1,←g2,←g3,←g4,←g5,←g6,←g7];clear g0 g1 g2 g3 g4 g5 g6 g7;have i0:=ix0;have i1:=ix1;have i2:=ix2;have i3:=ix3
 go_enter Tryz.func163,Tryz.ntmps163
 go_wp2
 refine wp_loop_rounds 5 ?_;rw [rounds_succ]
 go_wp2
 refine wp_loop_rounds 5 ?_;rw [rounds_succ]
 go_wp2_with (go_at_call 168;refine (yH (by assumption) (by assumption) _).mono ?_;rintro e w' ⟨rfl,rfl⟩)
 rw [rounds_succ]
 go_wp2_with (go_at_call 168;refine (yH (by assumption) (by assumption) _).mono ?_;rintro e w' ⟨rfl,rfl⟩)
 rw [rounds_succ]
 go_wp2_with (go_at_call 168;refine (yH (by assumption) (by assumption) _).mono ?_;rintro e w' ⟨rfl,rfl⟩)
 rw [rounds_succ]
 go_wp2_with (go_at_call 168;refine (yH (by assumption) (by assumption) _).mono ?_;rintro e w' ⟨rfl,rfl⟩)
 rw [rounds_succ]
 go_wp2_with (go_at_call 168;refine (yH (by assumption) (by assumption) _).mono ?_;rintro e w' ⟨rfl,rfl⟩)
 rw [rounds_succ]
 go_wp2
 refine wp_loop_rounds 5 ?_;rw [rounds_succ]
 go_wp2_with (go_at_call 168;refine (yH (by assumption) (by assumption) _).mono ?_;rintro e w' ⟨rfl,rfl⟩)
 rw [rounds_succ]
 go_wp2_with (go_at_call 168;refine (yH (by assumption) (by assumption) _).mono ?_;rintro e w' ⟨rfl,rfl⟩)
 rw [rounds_succ]
 go_wp2_with (go_at_call 168;refine (yH (by assumption) (by assumption) _).mono ?_;rintro e w' ⟨rfl,rfl⟩)
 rw [rounds_succ]
 go_wp2_with (go_at_call 168;refine (yH (by assumption) (by assumption) _).mono ?_;rintro e w' ⟨rfl,rfl⟩)
 rw [rounds_succ]
 go_wp2_with (go_at_call 168;refine (yH (by assumption) (by assumption) _).mono ?_;rintro e w' ⟨rfl,rfl⟩)
 rw [rounds_succ]
 go_wp2
 refine wp_loop_rounds 5 ?_;rw [rounds_succ]
 go_wp2_with (go_at_call 168;refine (yH (by assumption) (by assumption) _).mono ?_;rintro e w' ⟨rfl,rfl⟩)
 rw [rounds_succ]
 go_wp2_with (go_at_call 168;refine (yH (by assumption) (by assumption) _).mono ?_;rintro e w' ⟨rfl,rfl⟩)
 rw [rounds_succ]
 go_wp2_with (go_at_call 168;refine (yH (by assumption) (by assumption) _).mono ?_;rintro e w' ⟨rfl,rfl⟩)
 rw [rounds_succ]
 go_wp2_with (go_at_call 168;refine (yH (by assumption) (by assumption) _).mono ?_;rintro e w' ⟨rfl,rfl⟩)
 rw [rounds_succ]
 go_wp2_with (go_at_call 168;refine (yH (by assumption) (by assumption) _).mono ?_;rintro e w' ⟨rfl,rfl⟩)
 rw [rounds_succ]
 go_wp2
 refine wp_loop_rounds 5 ?_;rw [rounds_succ]
 go_wp2_with (go_at_call 168;refine (yH (by assumption) (by assumption) _).mono ?_;rintro e w' ⟨rfl,rfl⟩)
 rw [rounds_succ]
 go_wp2_with (go_at_call 168;refine (yH (by assumption) (by assumption) _).mono ?_;rintro e w' ⟨rfl,rfl⟩)
 rw [rounds_succ]
 go_wp2_with (go_at_call 168;refine (yH (by assumption) (by assumption) _).mono ?_;rintro e w' ⟨rfl,rfl⟩)
 rw [rounds_succ]
 go_wp2_with (go_at_call 168;refine (yH (by assumption) (by assumption) _).mono ?_;rintro e w' ⟨rfl,rfl⟩)
 rw [rounds_succ]
 go_wp2_with (go_at_call 168;refine (yH (by assumption) (by assumption) _).mono ?_;rintro e w' ⟨rfl,rfl⟩)
 rw [rounds_succ]
 go_wp2
 go_region
 all_goals (go_wp2;go_returns;exact ⟨rfl,by go_grown⟩)
end Go.Proofs.YtbpmjppmpgeejaaGreatDoor
namespace Go.Proofs.YtbpmjppmpgeejaaGreatDoor
open Go.RowKit
end Go.Proofs.YtbpmjppmpgeejaaGreatDoor
namespace Go.Proofs.YtbpmjppmpgeejaaGreatDoor
open Go.ChangeShapes Go.WideShapes Go.ChangeAt Go.RowKit Go.Shelf
set_option linter.unusedVariables false
end Go.Proofs.YtbpmjppmpgeejaaGreatDoor
namespace Go.Proofs.YtbpmjppmpgeejaaGreatDoor
open Go.RowKit
def len (A:Nat):Nat:=if A=0 then 0 else Nat.log2 A+1
end Go.Proofs.YtbpmjppmpgeejaaGreatDoor
namespace Go.Proofs.YtbpmjppmpgeejaaGreatDoor
open Go.ChangeShapes Go.WideShapes Go.ChangeAt Go.RowKit
set_option linter.unusedVariables false
def cm (A B:Nat):Int:=if A=B then 0 else if A<B then-1 else 1
def cmK (A B k:Nat):Int:=cm (A%0x10000000000000000^k) (B%0x10000000000000000^k)
theorem zgr (A B:Nat):cmK A B 0=0:=by unfold cmK cm;simp [Nat.mod_one]
theorem zgs (a b x y W:Nat)(hx:x<W)(hy:y<W):cm (x+W*a) (y+W*b)=if a<b then-1 else if b<a then 1 else cm x y:=by
 unfold cm;rcases Nat.lt_trichotomy a b with h | h | h
 ·have:W*(a+1)≤W*b:=Nat.mul_le_mul_left _ h;rw [Nat.mul_add] at this;rw [if_pos h,if_neg (by omega),if_pos (by omega)]
 ·subst h;have h1:(x+W*a=y+W*a)=(x=y):=by rw [eq_iff_iff];omega
  have h2:(x+W*a<y+W*a)=(x<y):=by rw [eq_iff_iff];omega
  simp only [h1,h2,Nat.lt_irrefl,if_false]
 ·have:W*(b+1)≤W*a:=Nat.mul_le_mul_left _ h;rw [Nat.mul_add] at this;rw [if_neg (by omega),if_pos h,if_neg (by omega),if_neg (by omega)]
def wk (A k:Nat):Nat:=A / 0x10000000000000000^k%0x10000000000000000
theorem zgt (A B k:Nat):cmK A B (k+1)=if wk A k<wk B k then-1 else if wk B k<wk A k then 1 else cmK A B k:=by
 unfold cmK wk;rw [Nat.pow_succ,Nat.mod_mul,Nat.mod_mul,zgs _ _ _ _ _ (Nat.mod_lt _ (Nat.pow_pos (by omega))) (Nat.mod_lt _ (Nat.pow_pos (by omega)))]
theorem zgu (A B:Nat)(hA:A<big)(hB:B<big):cmK A B 4=cm A B:=by
 unfold cmK;have e:0x10000000000000000^4=big:=rfl;rw [e,Nat.mod_eq_of_lt hA,Nat.mod_eq_of_lt hB]
theorem wk0 (A:Nat):w0 A=((wk A 0:Nat):Int):=by unfold w0 wk;simp
theorem wk1 (A:Nat):w1 A=((wk A 1:Nat):Int):=rfl
theorem wk2 (A:Nat):w2 A=((wk A 2:Nat):Int):=rfl
theorem wk3 (A:Nat):w3 A=((wk A 3:Nat):Int):=rfl
theorem zgv (A B:Nat)(hA:A<big)(hB:B<big)(w:World):Calls Tryz.prog 136 #[uv A,uv B] w fun e w'=>e=.returned (.int .i64 (cm A B))∧Below w.heap.size w w':=by
 have i0:=ix0;have i1:=ix1;have i2:=ix2;have i3:=ix3;have HF:=Lib.hid (zgu A B hA hB);unfold uv
 go_enter Tryz.func136,Tryz.ntmps136
 go_wp2
 go_loop [5,9] (fun r i=> ∃k:Nat,k≤4∧i=.int .i64 k∧r=.int .i64 (cmK A B k)) (fun _ i=>4-(intOf i).toNat)
 case atStart=>exact ⟨0,by omega,rfl,by rw [zgr]⟩
 case round=>
  obtain ⟨k,hk,rfl,rfl⟩:=hrel;have hn:=zgt A B k;have hk5:k=0∨k=1∨k=2∨k=3∨k=4:=by omega
  rcases hk5 with rfl|rfl|rfl|rfl|rfl
  ·rcases Nat.lt_trichotomy (wk A 0) (wk B 0) with h|h|h
   ·rw [if_pos h] at hn;have HN:=Lib.hid hn;have h1:w0 A<w0 B:=by rw [wk0,wk0];omega
    clear hn h
    go_wp2
    go_round
    case rel=>exact ⟨1,by omega,by go_num,by rw [HN.out]⟩
    case measure=>simp [intOf]
   ·rw [if_neg (by omega),if_neg (by omega)] at hn;have HN:=Lib.hid hn;have h1: ¬w0 A<w0 B:=by rw [wk0,wk0];omega
    have h2: ¬w0 B<w0 A:=by rw [wk0,wk0];omega
    clear hn h
    go_wp2
    go_round
    case rel=>exact ⟨1,by omega,by go_num,by rw [HN.out]⟩
    case measure=>simp [intOf]
   ·rw [if_neg (by omega),if_pos h] at hn;have HN:=Lib.hid hn;have h1: ¬w0 A<w0 B:=by rw [wk0,wk0];omega
    have h2:w0 B<w0 A:=by rw [wk0,wk0];omega
    clear hn h
    go_wp2
    go_round
    case rel=>exact ⟨1,by omega,by go_num,by rw [HN.out]⟩
    case measure=>simp [intOf]
  ·rcases Nat.lt_trichotomy (wk A 1) (wk B 1) with h|h|h
   ·rw [if_pos h] at hn;have HN:=Lib.hid hn;have h1:w1 A<w1 B:=by rw [wk1,wk1];omega
    clear hn h
    go_wp2
    go_round
    case rel=>exact ⟨2,by omega,by go_num,by rw [HN.out]⟩
    case measure=>simp [intOf]
   ·rw [if_neg (by omega),if_neg (by omega)] at hn;have HN:=Lib.hid hn;have h1: ¬w1 A<w1 B:=by rw [wk1,wk1];omega
    have h2: ¬w1 B<w1 A:=by rw [wk1,wk1];omega
    clear hn h
    go_wp2
    go_round
    case rel=>exact ⟨2,by omega,by go_num,by rw [HN.out]⟩
    case measure=>simp [intOf]
   ·rw [if_neg (by omega),if_pos h] at hn;have HN:=Lib.hid hn;have h1: ¬w1 A<w1 B:=by rw [wk1,wk1];omega
    have h2:w1 B<w1 A:=by rw [wk1,wk1];omega
    clear hn h
    go_wp2
    go_round
    case rel=>exact ⟨2,by omega,by go_num,by rw [HN.out]⟩
    case measure=>simp [intOf]
  ·rcases Nat.lt_trichotomy (wk A 2) (wk B 2) with h|h|h
   ·rw [if_pos h] at hn;have HN:=Lib.hid hn;have h1:w2 A<w2 B:=by rw [wk2,wk2];omega
    clear hn h
    go_wp2
    go_round
    case rel=>exact ⟨3,by omega,by go_num,by rw [HN.out]⟩
    case measure=>simp [intOf]
   ·rw [if_neg (by omega),if_neg (by omega)] at hn;have HN:=Lib.hid hn;have h1: ¬w2 A<w2 B:=by rw [wk2,wk2];omega
    have h2: ¬w2 B<w2 A:=by rw [wk2,wk2];omega
    clear hn h
    go_wp2
    go_round
    case rel=>exact ⟨3,by omega,by go_num,by rw [HN.out]⟩
    case measure=>simp [intOf]
   ·rw [if_neg (by omega),if_pos h] at hn;have HN:=Lib.hid hn;have h1: ¬w2 A<w2 B:=by rw [wk2,wk2];omega
    have h2:w2 B<w2 A:=by rw [wk2,wk2];omega
    clear hn h
    go_wp2
    go_round
    case rel=>exact ⟨3,by omega,by go_num,by rw [HN.out]⟩
    case measure=>simp [intOf]
  ·rcases Nat.lt_trichotomy (wk A 3) (wk B 3) with h|h|h
   ·rw [if_pos h] at hn;have HN:=Lib.hid hn;have h1:w3 A<w3 B:=by rw [wk3,wk3];omega
    clear hn h
    go_wp2
    go_round
    case rel=>exact ⟨4,by omega,by go_num,by rw [HN.out]⟩
    case measure=>simp [intOf]
   ·rw [if_neg (by omega),if_neg (by omega)] at hn;have HN:=Lib.hid hn;have h1: ¬w3 A<w3 B:=by rw [wk3,wk3];omega
    have h2: ¬w3 B<w3 A:=by rw [wk3,wk3];omega
    clear hn h
    go_wp2
    go_round
    case rel=>exact ⟨4,by omega,by go_num,by rw [HN.out]⟩
    case measure=>simp [intOf]
   ·rw [if_neg (by omega),if_pos h] at hn;have HN:=Lib.hid hn;have h1: ¬w3 A<w3 B:=by rw [wk3,wk3];omega
    have h2:w3 B<w3 A:=by rw [wk3,wk3];omega
    clear hn h
    go_wp2
    go_round
    case rel=>exact ⟨4,by omega,by go_num,by rw [HN.out]⟩
    case measure=>simp [intOf]
  ·clear hn
   go_wp2
   go_ret
   exact ⟨by rw [←HF.out];rfl,by go_grown⟩
theorem zgw (d:Nat)(a0 a1 a2 a3 b0 b1 b2 b3:Int)(w:World):
 (Op.equalIn (d+2) 48 (.agg #[.int .u64 a0,.int .u64 a1,.int .u64 a2,.int .u64 a3]) (.agg #[.int .u64 b0,.int .u64 b1,.int .u64 b2,.int .u64 b3])).run Tryz.prog w
  =.ok (a0==b0&&(a1==b1&&(a2==b2&&a3==b3))) w:=by
 have e: ∀x y:Int,(Op.equalIn (d+1) 22 (.int .u64 x) (.int .u64 y)).run Tryz.prog w=.ok (x==y) w:=fun x y=>run_equalIn_int w d 22 .u64 .u64 x y Tryz.underlying22;have s:(sizeOf 22).run Tryz.prog w=.ok 1 w:=by kernel_rfl
 have p0: ∀x y z u:Int,(part 22 #[.int .u64 x,.int .u64 y,.int .u64 z,.int .u64 u] 0).run Tryz.prog w=.ok (.int .u64 x) w:=fun x y z u=>by kernel_rfl
 have p1: ∀x y z u:Int,(part 22 #[.int .u64 x,.int .u64 y,.int .u64 z,.int .u64 u] 1).run Tryz.prog w=.ok (.int .u64 y) w:=fun x y z u=>by kernel_rfl
 have p2: ∀x y z u:Int,(part 22 #[.int .u64 x,.int .u64 y,.int .u64 z,.int .u64 u] 2).run Tryz.prog w=.ok (.int .u64 z) w:=fun x y z u=>by kernel_rfl
 have p3: ∀x y z u:Int,(part 22 #[.int .u64 x,.int .u64 y,.int .u64 z,.int .u64 u] 3).run Tryz.prog w=.ok (.int .u64 u) w:=fun x y z u=>by kernel_rfl
 rw [Op.equalIn];simp only [Sem.run_bind,run_underlying Tryz.underlying48,Result.andThen_ok,s,Std.Legacy.Range.forIn_eq_forIn_range',Std.Legacy.Range.size];simp only [show (4-0+1-1) / 1=4 from rfl,List.range',List.forIn_cons,List.forIn_nil];cases c0:(a0==b0)
 ·simp [p0,e,c0]
 ·cases c1:(a1==b1)
  ·simp [p0,p1,e,c0,c1]
  ·cases c2:(a2==b2)
   ·simp [p0,p1,p2,e,c0,c1,c2]
   ·cases c3:(a3==b3)
    ·simp [p0,p1,p2,p3,e,c0,c1,c2,c3]
    ·simp [p0,p1,p2,p3,e,c0,c1,c2,c3]
theorem eqU (a0 a1 a2 a3 b0 b1 b2 b3:Int)(w:World):
 (Op.equalIn 10000 48 (.agg #[.int .u64 a0,.int .u64 a1,.int .u64 a2,.int .u64 a3]) (.agg #[.int .u64 b0,.int .u64 b1,.int .u64 b2,.int .u64 b3])).run Tryz.prog w
  =.ok (a0==b0&&(a1==b1&&(a2==b2&&a3==b3))) w:=zgw 9998 a0 a1 a2 a3 b0 b1 b2 b3 w
end Go.Proofs.YtbpmjppmpgeejaaGreatDoor
namespace Go.Proofs.YtbpmjppmpgeejaaGreatDoor
open Go Go.RowKit
set_option linter.unusedVariables false
theorem zaC (A B:Nat)(hA:A<big)(hB:B<big):Fn Tryz.prog 157 #[uv A,uv B] (.tuple #[uv (sm A B),.bool (ov A B)]):=zge A B hA hB
theorem zaD (A B:Nat)(hA:A<big)(hB:B<big):Fn Tryz.prog 155 #[uv A,uv B] (.tuple #[uv (df A B),.bool (lo A B)]):=zgf A B hA hB
theorem zgx (A B:Nat)(hA:A<big)(hB:B<big):Fn Tryz.prog 163 #[uv A,uv B] (.tuple #[uv (pl A B),uv (ph A B)]):=zgq A B hA hB
theorem kZ (A B:Nat)(hA:A<big)(hB:B<big):Fn Tryz.prog 136 #[uv A,uv B] (.int .i64 (cm A B)):=zgv A B hA hB
theorem zgy (n:Nat)(h:n<0x10000000000000000):Fn Tryz.prog 164 #[.int .u64 (n:Int)] (uv n):=fun w=>(zgd n w).mono fun e w' ⟨he,hb⟩=>⟨by
 rw [he];have e0:w0 n=(n:Int):=by unfold w0;omega
 have e1:w1 n=0:=by unfold w1;omega
 have e2:w2 n=0:=by unfold w2;omega
 have e3:w3 n=0:=by unfold w3;omega
 unfold uv;rw [e0,e1,e2,e3],hb⟩
theorem zgz {A B:Nat}(hA:A<big)(hB:B<big):(w0 A==w0 B&&(w1 A==w1 B&&(w2 A==w2 B&&w3 A==w3 B)))=decide (A=B):=by
 rw [Bool.eq_iff_iff];simp only [Bool.and_eq_true,beq_iff_eq,decide_eq_true_eq];exact ⟨fun ⟨a,b,c,d⟩=>zf9 hA hB a b c d,fun h=>by subst h;exact ⟨rfl,rfl,rfl,rfl⟩⟩
theorem xF {ρ:Env}(A B:Nat)(hA:A<big)(hB:B<big){x y:Operand}{o:Oper}(w:World)(ho:o.op=.binOp .neq 48 x y 48)(hx:ev ρ x=uv A)(hy:ev ρ y=uv B):
 (execOp (ev ρ) o).run Tryz.prog w=.ok (.value (.bool (!decide (A=B)))) w:=by
 have q:=eqU;have e:=zgz hA hB;unfold execOp;simp only [ho,hx,hy]
 go_simp
theorem zgA {A B:Nat}(h:B≤A):cm A B≥0:=by unfold cm;split<;>(try split)<;>omega
theorem zgB {A B:Nat}(h: ¬B≤A): ¬cm A B≥0:=by unfold cm;split<;>(try split)<;>omega
theorem zcz (L H M:Nat)(hL:L<big)(hH:H<big)(hM:MOK M):Fn Tryz.prog 156 #[uv L,uv H,uv M] (uv (rs L H M)):=by
 refine Fn.intro (c:=zk Tryz.f156) [.cell 6 48] 54 Tryz.func156 kr kr kr fun w=>?_;have H0:=St.start w;refine zg [0,1,2,3] kr kr<|ji H0 (some 3) 48 (.tmp 0) (uv L) kr kr kr ?_;intro b1 w1 H1;clear H0;refine ji H1 (some 4) 48 (.tmp 1) (uv H) kr kr kr ?_;intro b2 w2 H2;clear H1;refine ji H2 (some 5) 48 (.tmp 2) (uv M) kr kr kr ?_;intro b3 w3 H3;clear H2;refine yu H3 (some 6) 48 (.agg #[wZ,wZ,wZ,wZ]) kr kr kr ?_;intro b4 w4 H4;clear H3;refine zc<|zg [0,1,2,3,4,5,6,7,8] kr kr<|zl (some 14) (.agg #[wZ,wZ,wZ,wZ]) (fun w=>by kernel_rfl) kr<|yz H4 (some 15) 48 (.tmp 5) 1 b3 (Value.cells (uv M)) 48 (0,0) kr kr kr kr kr<|jQ H4 (some 16) 155 #[.agg #[wZ,wZ,wZ,wZ],uv M] (.tuple #[uv (df 0 M),.bool (lo 0 M)]) (zaD 0 M (by unfold big;omega) hM.1) (fun w=>by kernel_rfl) kr ?_;intro w5 H5;clear H4;refine zl (some 13) (.tuple #[uv (df 0 M),.bool (lo 0 M)]) (fun w=>by kernel_rfl) kr<|zl (some 17) (uv (df 0 M)) (fun w=>by kernel_rfl) kr<|zl (some 18) (.bool (lo 0 M)) (fun w=>by kernel_rfl) kr<|yu H5 (some 7) 48 (.agg #[wZ,wZ,wZ,wZ]) kr kr kr ?_;intro b5 w6 H6;clear H5;refine yS H6 0 [(b5,Obj.cells (Value.cells (uv (df 0 M))) 48 (0,0)),(b4,Obj.cells #[wZ,wZ,wZ,wZ] 48 (0,0)),(b3,Obj.cells (Value.cells (uv M)) 48 (0,0)),(b2,Obj.cells (Value.cells (uv H)) 48 (0,0)),(b1,Obj.cells (Value.cells (uv L)) 48 (0,0))] 48 (.tmp 7) (.tmp 17) b5 0 #[wZ,wZ,wZ,wZ] (Value.cells (uv (df 0 M))) 48 (uv (df 0 M)) kr kr kr kr kr kr (of_decide_eq_true kr) kr kr ?_;intro w7 H7;clear H6;refine zl (some 8) (.bool (lo 0 M)) (fun w=>by kernel_rfl) kr<|zc<|zb kr<|zn 0 kr<|zG kr (fun m ρ x=> ∃(l:Nat) (h:Nat),l+big*h=m∧(l<big)∧(h<big)∧((l+big*h)%M=rs L H M)∧St w.heap.size w x [(b5,Obj.cells (Value.cells (uv (df 0 M))) 48 (0,0)),(b4,Obj.cells #[wZ,wZ,wZ,wZ] 48 (0,0)),(b3,Obj.cells (Value.cells (uv M)) 48 (0,0)),(b2,Obj.cells (Value.cells (uv h)) 48 (0,0)),(b1,Obj.cells (Value.cells (uv l)) 48 (0,0))]∧Is [(0,uv L),(1,uv H),(2,uv M),(3,.pointer (some ⟨b1,0,none⟩)),(4,.pointer (some ⟨b2,0,none⟩)),(5,.pointer (some ⟨b3,0,none⟩)),(6,.pointer (some ⟨b4,0,none⟩)),(7,.pointer (some ⟨b5,0,none⟩))] ρ) (L+big*H) ⟨L,H,rfl,hL,hH,rfl,H7,(Is.of ⟨kr,kr,kr,kr,kr,kr,kr,kr,trivial⟩)⟩ ?_;clear H7;rintro _ _ w8 ⟨l,h,rfl,hl,hh,hm,H8,_,rfl⟩;refine zb kr<|zg [0,1,2] kr kr<|yz H8 (some 19) 48 (.tmp 4) 3 b2 (Value.cells (uv h)) 48 (0,0) kr kr kr kr kr<|zl (some 20) (.agg #[wZ,wZ,wZ,wZ]) (fun w=>by kernel_rfl) kr ?_;by_cases hne:h=0
 ·refine zbF (some 21) _ (.bool (!decide (h=0))) (.bool false) kr (fun o w ho=>xF (x:=(.tmp 19)) (y:=(.tmp 20)) h 0 hh (by unfold big;omega) w ho kr kr) (by rw [decide_eq_true hne];rfl) kr ?_;have hm0:(l+big*0)%M=rs L H M:=by rw [hne] at hm;exact hm
  refine zc<|zh kr kr<|zy 0 kr<|wW<|zb kr<|zg [0,1,2,3] kr kr<|yz H8 (some 43) 48 (.tmp 3) 4 b1 (Value.cells (uv l)) 48 (0,0) kr kr kr kr kr<|yz H8 (some 44) 48 (.tmp 5) 2 b3 (Value.cells (uv M)) 48 (0,0) kr kr kr kr kr<|jQ H8 (some 45) 136 #[uv l,uv M] (.int .i64 (cm l M)) (kZ l M hl hM.1) (fun w=>by kernel_rfl) kr ?_;intro w9 H9;clear H8;by_cases hc:M≤l
  ·refine qu (some 46) (.bool (decide (0≤cm l M))) (.bool true) (fun w=>by kernel_rfl) (za (decide_eq_true (zgA hc))) kr<|zc<|zi kr kr<|yq [0,1,2,3,4,5,6] kr<|yz H9 (some 48) 48 (.tmp 3) 4 b1 (Value.cells (uv l)) 48 (0,0) kr kr kr kr kr<|yz H9 (some 49) 48 (.tmp 5) 2 b3 (Value.cells (uv M)) 48 (0,0) kr kr kr kr kr<|jQ H9 (some 50) 155 #[uv l,uv M] (.tuple #[uv (df l M),.bool (lo l M)]) (zaD l M hl hM.1) (fun w=>by kernel_rfl) kr ?_;intro w10 H10;clear H9;refine zl (some 47) (.tuple #[uv (df l M),.bool (lo l M)]) (fun w=>by kernel_rfl) kr<|zl (some 51) (uv (df l M)) (fun w=>by kernel_rfl) kr<|zl (some 52) (.bool (lo l M)) (fun w=>by kernel_rfl) kr<|yS H10 4 [(b5,Obj.cells (Value.cells (uv (df 0 M))) 48 (0,0)),(b4,Obj.cells #[wZ,wZ,wZ,wZ] 48 (0,0)),(b3,Obj.cells (Value.cells (uv M)) 48 (0,0)),(b2,Obj.cells (Value.cells (uv h)) 48 (0,0)),(b1,Obj.cells (Value.cells (uv (df l M))) 48 (0,0))] 48 (.tmp 3) (.tmp 51) b1 0 (Value.cells (uv l)) (Value.cells (uv (df l M))) 48 (uv (df l M)) kr kr kr kr kr kr (of_decide_eq_true kr) kr kr ?_;intro w11 H11;clear H10;refine zc<|wW<|zg [0,1] kr kr<|yz H11 (some 53) 48 (.tmp 3) 4 b1 (Value.cells (uv (df l M))) 48 (0,0) kr kr kr kr kr<|yS H11 1 [(b5,Obj.cells (Value.cells (uv (df 0 M))) 48 (0,0)),(b4,Obj.cells (Value.cells (uv (df l M))) 48 (0,0)),(b3,Obj.cells (Value.cells (uv M)) 48 (0,0)),(b2,Obj.cells (Value.cells (uv h)) 48 (0,0)),(b1,Obj.cells (Value.cells (uv (df l M))) 48 (0,0))] 48 (.tmp 6) (.tmp 53) b4 0 #[wZ,wZ,wZ,wZ] (Value.cells (uv (df l M))) 48 (uv (df l M)) kr kr kr kr kr kr (of_decide_eq_true kr) kr kr ?_;intro w12 H12;clear H11;refine zc<|zm kr<|wV ?_;refine ⟨[uv (df l M)],(.agg (b:=b4) (Value.cells (uv (df l M))) 48 (0,0) kr (H12.get 1 kr) kr .nil),?_,H12.below⟩;exact congrArg uv (zgl hM hl hm0 hc)
  ·refine qu (some 46) (.bool (decide (0≤cm l M))) (.bool false) (fun w=>by kernel_rfl) (za (decide_eq_false (zgB hc))) kr<|zc<|zh kr kr<|zj kr<|wW<|zg [0,1] kr kr<|yz H9 (some 53) 48 (.tmp 3) 4 b1 (Value.cells (uv l)) 48 (0,0) kr kr kr kr kr<|yS H9 1 [(b5,Obj.cells (Value.cells (uv (df 0 M))) 48 (0,0)),(b4,Obj.cells (Value.cells (uv l)) 48 (0,0)),(b3,Obj.cells (Value.cells (uv M)) 48 (0,0)),(b2,Obj.cells (Value.cells (uv h)) 48 (0,0)),(b1,Obj.cells (Value.cells (uv l)) 48 (0,0))] 48 (.tmp 6) (.tmp 53) b4 0 #[wZ,wZ,wZ,wZ] (Value.cells (uv l)) 48 (uv l) kr kr kr kr kr kr (of_decide_eq_true kr) kr kr ?_;intro w13 H13;clear H9;refine zc<|zm kr<|wV ?_;refine ⟨[uv l],(.agg (b:=b4) (Value.cells (uv l)) 48 (0,0) kr (H13.get 1 kr) kr .nil),?_,H13.below⟩;exact congrArg uv (zgm hm0 hc)
 ·refine zbF (some 21) _ (.bool (!decide (h=0))) (.bool true) kr (fun o w ho=>xF (x:=(.tmp 19)) (y:=(.tmp 20)) h 0 hh (by unfold big;omega) w ho kr kr) (by rw [decide_eq_false hne];rfl) kr<|zc<|zi kr kr<|zj kr<|wW<|zn 1 kr<|zg [0,1,2,3,4,5,6,7,8,9] kr kr<|yz H8 (some 23) 48 (.tmp 4) 3 b2 (Value.cells (uv h)) 48 (0,0) kr kr kr kr kr<|yz H8 (some 24) 48 (.tmp 7) 0 b5 (Value.cells (uv (df 0 M))) 48 (0,0) kr kr kr kr kr<|jQ H8 (some 25) 163 #[uv h,uv (df 0 M)] (.tuple #[uv (pl h (df 0 M)),uv (ph h (df 0 M))]) (zgx h (df 0 M) hh (zaB _ _)) (fun w=>by kernel_rfl) kr ?_;intro w14 H14;clear H8;refine zl (some 22) (.tuple #[uv (pl h (df 0 M)),uv (ph h (df 0 M))]) (fun w=>by kernel_rfl) kr<|zl (some 26) (uv (pl h (df 0 M))) (fun w=>by kernel_rfl) kr<|zl (some 27) (uv (ph h (df 0 M))) (fun w=>by kernel_rfl) kr<|yu H14 (some 9) 48 (.agg #[wZ,wZ,wZ,wZ]) kr kr kr ?_;intro b6 w15 H15;clear H14;refine yu H15 (some 10) 48 (.agg #[wZ,wZ,wZ,wZ]) kr kr kr ?_;intro b7 w16 H16;clear H15;refine yS H16 1 [(b7,Obj.cells #[wZ,wZ,wZ,wZ] 48 (0,0)),(b6,Obj.cells (Value.cells (uv (pl h (df 0 M)))) 48 (0,0)),(b5,Obj.cells (Value.cells (uv (df 0 M))) 48 (0,0)),(b4,Obj.cells #[wZ,wZ,wZ,wZ] 48 (0,0)),(b3,Obj.cells (Value.cells (uv M)) 48 (0,0)),(b2,Obj.cells (Value.cells (uv h)) 48 (0,0)),(b1,Obj.cells (Value.cells (uv l)) 48 (0,0))] 48 (.tmp 9) (.tmp 26) b6 0 #[wZ,wZ,wZ,wZ] (Value.cells (uv (pl h (df 0 M)))) 48 (uv (pl h (df 0 M))) kr kr kr kr kr kr (of_decide_eq_true kr) kr kr ?_;intro w17 H17;clear H16;refine yS H17 0 [(b7,Obj.cells (Value.cells (uv (ph h (df 0 M)))) 48 (0,0)),(b6,Obj.cells (Value.cells (uv (pl h (df 0 M)))) 48 (0,0)),(b5,Obj.cells (Value.cells (uv (df 0 M))) 48 (0,0)),(b4,Obj.cells #[wZ,wZ,wZ,wZ] 48 (0,0)),(b3,Obj.cells (Value.cells (uv M)) 48 (0,0)),(b2,Obj.cells (Value.cells (uv h)) 48 (0,0)),(b1,Obj.cells (Value.cells (uv l)) 48 (0,0))] 48 (.tmp 10) (.tmp 27) b7 0 #[wZ,wZ,wZ,wZ] (Value.cells (uv (ph h (df 0 M)))) 48 (uv (ph h (df 0 M))) kr kr kr kr kr kr (of_decide_eq_true kr) kr kr ?_;intro w18 H18;clear H17;refine zc<|zg [0,1,2,3,4,5,6,7,8] kr kr<|yz H18 (some 29) 48 (.tmp 3) 6 b1 (Value.cells (uv l)) 48 (0,0) kr kr kr kr kr<|yz H18 (some 30) 48 (.tmp 9) 1 b6 (Value.cells (uv (pl h (df 0 M)))) 48 (0,0) kr kr kr kr kr<|jQ H18 (some 31) 157 #[uv l,uv (pl h (df 0 M))] (.tuple #[uv (sm l (pl h (df 0 M))),.bool (ov l (pl h (df 0 M)))]) (zaC l (pl h (df 0 M)) hl (zcv _ _)) (fun w=>by kernel_rfl) kr ?_;intro w19 H19;clear H18;refine zl (some 28) (.tuple #[uv (sm l (pl h (df 0 M))),.bool (ov l (pl h (df 0 M)))]) (fun w=>by kernel_rfl) kr<|zl (some 32) (uv (sm l (pl h (df 0 M)))) (fun w=>by kernel_rfl) kr<|zl (some 33) (.bool (ov l (pl h (df 0 M)))) (fun w=>by kernel_rfl) kr<|yu H19 (some 11) 48 (.agg #[wZ,wZ,wZ,wZ]) kr kr kr ?_;intro b8 w20 H20;clear H19;refine yS H20 0 [(b8,Obj.cells (Value.cells (uv (sm l (pl h (df 0 M))))) 48 (0,0)),(b7,Obj.cells (Value.cells (uv (ph h (df 0 M)))) 48 (0,0)),(b6,Obj.cells (Value.cells (uv (pl h (df 0 M)))) 48 (0,0)),(b5,Obj.cells (Value.cells (uv (df 0 M))) 48 (0,0)),(b4,Obj.cells #[wZ,wZ,wZ,wZ] 48 (0,0)),(b3,Obj.cells (Value.cells (uv M)) 48 (0,0)),(b2,Obj.cells (Value.cells (uv h)) 48 (0,0)),(b1,Obj.cells (Value.cells (uv l)) 48 (0,0))] 48 (.tmp 11) (.tmp 32) b8 0 #[wZ,wZ,wZ,wZ] (Value.cells (uv (sm l (pl h (df 0 M))))) 48 (uv (sm l (pl h (df 0 M)))) kr kr kr kr kr kr (of_decide_eq_true kr) kr kr ?_;intro w21 H21;clear H20;refine zl (some 12) (.bool (ov l (pl h (df 0 M)))) (fun w=>by kernel_rfl) kr<|zc<|g_sdraw [0,1,2,3] [((some 34),fun _=>uv (sm l (pl h (df 0 M)))),((some 35),fun _=>uv (ph h (df 0 M))),(none,fun _=>undef),(none,fun _=>undef)] (fun L g x=>St w.heap.size w x ([(b8,Obj.cells (Value.cells (uv (sm l (pl h (df 0 M))))) 48 (0,0)),(b7,Obj.cells (Value.cells (uv (ph h (df 0 M)))) 48 (0,0)),(b6,Obj.cells (Value.cells (uv (pl h (df 0 M)))) 48 (0,0)),(b5,Obj.cells (Value.cells (uv (df 0 M))) 48 (0,0)),(b4,Obj.cells #[wZ,wZ,wZ,wZ] 48 (0,0)),(b3,Obj.cells (Value.cells (uv M)) 48 (0,0)),(b2,(bif L 3 then Obj.cells (Value.cells (uv (ph h (df 0 M)))) 48 (0,0) else Obj.cells (Value.cells (uv h)) 48 (0,0))),(b1,(bif L 2 then Obj.cells (Value.cells (uv (sm l (pl h (df 0 M))))) 48 (0,0) else Obj.cells (Value.cells (uv l)) 48 (0,0)))])) kr kr kr kr (H21.drew) ⟨?_,?_,?_,?_,trivial⟩ ?_
  ·exact xy 48 (.tmp 11) (fun _=>0) (fun g=>b8) (Value.cells (uv (sm l (pl h (df 0 M))))) 48 (0,0) (fun _ _ _ h=>h) (fun g=>by kernel_rfl) (fun g=>by kernel_rfl) (fun L g _=>by kernel_rfl) kr
  ·exact xy 48 (.tmp 10) (fun _=>1) (fun g=>b7) (Value.cells (uv (ph h (df 0 M)))) 48 (0,0) (fun _ _ _ h=>h) (fun g=>by kernel_rfl) (fun g=>by kernel_rfl) (fun L g _=>by kernel_rfl) kr
  ·exact gv_store (fun _=>7) 48 (.tmp 3) (.tmp 34) (fun g=>b1) 0 (Value.cells (uv l)) (Value.cells (uv (sm l (pl h (df 0 M))))) 48 (uv (sm l (pl h (df 0 M)))) (fun g=>by kernel_rfl) (fun g=>by kernel_rfl) (fun g=>by kernel_rfl) kr kr (of_decide_eq_true kr) kr (fun L g hN=>by (have hs2:L 2=false:=hN.1;show ([(b8,Obj.cells (Value.cells (uv (sm l (pl h (df 0 M))))) 48 (0,0)),(b7,Obj.cells (Value.cells (uv (ph h (df 0 M)))) 48 (0,0)),(b6,Obj.cells (Value.cells (uv (pl h (df 0 M)))) 48 (0,0)),(b5,Obj.cells (Value.cells (uv (df 0 M))) 48 (0,0)),(b4,Obj.cells #[wZ,wZ,wZ,wZ] 48 (0,0)),(b3,Obj.cells (Value.cells (uv M)) 48 (0,0)),(b2,(bif L 3 then Obj.cells (Value.cells (uv (ph h (df 0 M)))) 48 (0,0) else Obj.cells (Value.cells (uv h)) 48 (0,0))),(b1,(bif L 2 then Obj.cells (Value.cells (uv (sm l (pl h (df 0 M))))) 48 (0,0) else Obj.cells (Value.cells (uv l)) 48 (0,0)))])[(fun _=>7) L]? =some (b1,Obj.cells (Value.cells (uv l)) 48 (0,0))∧([(b8,Obj.cells (Value.cells (uv (sm l (pl h (df 0 M))))) 48 (0,0)),(b7,Obj.cells (Value.cells (uv (ph h (df 0 M)))) 48 (0,0)),(b6,Obj.cells (Value.cells (uv (pl h (df 0 M)))) 48 (0,0)),(b5,Obj.cells (Value.cells (uv (df 0 M))) 48 (0,0)),(b4,Obj.cells #[wZ,wZ,wZ,wZ] 48 (0,0)),(b3,Obj.cells (Value.cells (uv M)) 48 (0,0)),(b2,(bif L 3 then Obj.cells (Value.cells (uv (ph h (df 0 M)))) 48 (0,0) else Obj.cells (Value.cells (uv h)) 48 (0,0))),(b1,(bif L 2 then Obj.cells (Value.cells (uv (sm l (pl h (df 0 M))))) 48 (0,0) else Obj.cells (Value.cells (uv l)) 48 (0,0)))]).set ((fun _=>7) L) (b1,Obj.cells (Value.cells (uv (sm l (pl h (df 0 M))))) 48 (0,0))=([(b8,Obj.cells (Value.cells (uv (sm l (pl h (df 0 M))))) 48 (0,0)),(b7,Obj.cells (Value.cells (uv (ph h (df 0 M)))) 48 (0,0)),(b6,Obj.cells (Value.cells (uv (pl h (df 0 M)))) 48 (0,0)),(b5,Obj.cells (Value.cells (uv (df 0 M))) 48 (0,0)),(b4,Obj.cells #[wZ,wZ,wZ,wZ] 48 (0,0)),(b3,Obj.cells (Value.cells (uv M)) 48 (0,0)),(b2,(bif L 3 then Obj.cells (Value.cells (uv (ph h (df 0 M)))) 48 (0,0) else Obj.cells (Value.cells (uv h)) 48 (0,0))),(b1,(bif true then Obj.cells (Value.cells (uv (sm l (pl h (df 0 M))))) 48 (0,0) else Obj.cells (Value.cells (uv l)) 48 (0,0)))]);rw [hs2];exact ⟨rfl,rfl⟩))
  ·exact gv_store (fun _=>6) 48 (.tmp 4) (.tmp 35) (fun g=>b2) 0 (Value.cells (uv h)) (Value.cells (uv (ph h (df 0 M)))) 48 (uv (ph h (df 0 M))) (fun g=>by kernel_rfl) (fun g=>by kernel_rfl) (fun g=>by kernel_rfl) kr kr (of_decide_eq_true kr) kr (fun L g hN=>by (have hs3:L 3=false:=hN.1;show ([(b8,Obj.cells (Value.cells (uv (sm l (pl h (df 0 M))))) 48 (0,0)),(b7,Obj.cells (Value.cells (uv (ph h (df 0 M)))) 48 (0,0)),(b6,Obj.cells (Value.cells (uv (pl h (df 0 M)))) 48 (0,0)),(b5,Obj.cells (Value.cells (uv (df 0 M))) 48 (0,0)),(b4,Obj.cells #[wZ,wZ,wZ,wZ] 48 (0,0)),(b3,Obj.cells (Value.cells (uv M)) 48 (0,0)),(b2,(bif L 3 then Obj.cells (Value.cells (uv (ph h (df 0 M)))) 48 (0,0) else Obj.cells (Value.cells (uv h)) 48 (0,0))),(b1,(bif L 2 then Obj.cells (Value.cells (uv (sm l (pl h (df 0 M))))) 48 (0,0) else Obj.cells (Value.cells (uv l)) 48 (0,0)))])[(fun _=>6) L]? =some (b2,Obj.cells (Value.cells (uv h)) 48 (0,0))∧([(b8,Obj.cells (Value.cells (uv (sm l (pl h (df 0 M))))) 48 (0,0)),(b7,Obj.cells (Value.cells (uv (ph h (df 0 M)))) 48 (0,0)),(b6,Obj.cells (Value.cells (uv (pl h (df 0 M)))) 48 (0,0)),(b5,Obj.cells (Value.cells (uv (df 0 M))) 48 (0,0)),(b4,Obj.cells #[wZ,wZ,wZ,wZ] 48 (0,0)),(b3,Obj.cells (Value.cells (uv M)) 48 (0,0)),(b2,(bif L 3 then Obj.cells (Value.cells (uv (ph h (df 0 M)))) 48 (0,0) else Obj.cells (Value.cells (uv h)) 48 (0,0))),(b1,(bif L 2 then Obj.cells (Value.cells (uv (sm l (pl h (df 0 M))))) 48 (0,0) else Obj.cells (Value.cells (uv l)) 48 (0,0)))]).set ((fun _=>6) L) (b2,Obj.cells (Value.cells (uv (ph h (df 0 M)))) 48 (0,0))=([(b8,Obj.cells (Value.cells (uv (sm l (pl h (df 0 M))))) 48 (0,0)),(b7,Obj.cells (Value.cells (uv (ph h (df 0 M)))) 48 (0,0)),(b6,Obj.cells (Value.cells (uv (pl h (df 0 M)))) 48 (0,0)),(b5,Obj.cells (Value.cells (uv (df 0 M))) 48 (0,0)),(b4,Obj.cells #[wZ,wZ,wZ,wZ] 48 (0,0)),(b3,Obj.cells (Value.cells (uv M)) 48 (0,0)),(b2,(bif true then Obj.cells (Value.cells (uv (ph h (df 0 M)))) 48 (0,0) else Obj.cells (Value.cells (uv h)) 48 (0,0))),(b1,(bif L 2 then Obj.cells (Value.cells (uv (sm l (pl h (df 0 M))))) 48 (0,0) else Obj.cells (Value.cells (uv l)) 48 (0,0)))]);rw [hs3];exact ⟨rfl,rfl⟩))
  intro L0 g22 w22 hall HL;clear H21;have H22:St w.heap.size w w22 [(b8,Obj.cells (Value.cells (uv (sm l (pl h (df 0 M))))) 48 (0,0)),(b7,Obj.cells (Value.cells (uv (ph h (df 0 M)))) 48 (0,0)),(b6,Obj.cells (Value.cells (uv (pl h (df 0 M)))) 48 (0,0)),(b5,Obj.cells (Value.cells (uv (df 0 M))) 48 (0,0)),(b4,Obj.cells #[wZ,wZ,wZ,wZ] 48 (0,0)),(b3,Obj.cells (Value.cells (uv M)) 48 (0,0)),(b2,Obj.cells (Value.cells (uv (ph h (df 0 M)))) 48 (0,0)),(b1,Obj.cells (Value.cells (uv (sm l (pl h (df 0 M))))) 48 (0,0))]:=by have e2:=hall 2 (Nat.le_of_ble_eq_true kr);have e3:=hall 3 (Nat.le_of_ble_eq_true kr);simp only [e2,e3,cond_true] at HL;exact HL
  clear HL hall;refine zg [0] kr kr ?_;obtain ⟨h',hh1,hh2,hfold⟩:=zgk hM hl hh hne;cases hov:ov l (pl h (df 0 M))
  ·rw [hov] at hh1;simp only [Bool.false_eq_true,if_false] at hh1;subst hh1;refine zl (some 36) (.bool false) (fun w=>by kernel_rfl) kr<|zc<|zh kr kr<|zj kr ?_;have HD1:St w.heap.size w w22 [(b5,Obj.cells (Value.cells (uv (df 0 M))) 48 (0,0)),(b4,Obj.cells #[wZ,wZ,wZ,wZ] 48 (0,0)),(b3,Obj.cells (Value.cells (uv M)) 48 (0,0)),(b2,Obj.cells (Value.cells (uv (ph h (df 0 M)))) 48 (0,0)),(b1,Obj.cells (Value.cells (uv (sm l (pl h (df 0 M))))) 48 (0,0))]:=H22.sub (List.Sublist.cons _ (List.Sublist.cons _ (List.Sublist.cons _ (List.Sublist.cons_cons _ (List.Sublist.cons_cons _ (List.Sublist.cons_cons _ (List.Sublist.cons_cons _ (List.Sublist.cons_cons _ List.Sublist.slnil))))))));show ∃m,_∧_;exact ⟨_,(zcx hM hne hfold),(sm l (pl h (df 0 M))),(ph h (df 0 M)),rfl,(zaA _ _),hh2,(zcw hfold hm),HD1,(Is.of ⟨kr,kr,kr,kr,kr,kr,kr,kr,trivial⟩)⟩
  ·rw [hov] at hh1;simp only [if_true] at hh1;subst hh1;refine zl (some 36) (.bool true) (fun w=>by kernel_rfl) kr<|zc<|zi kr kr<|g_draw0 [0,1,2,3,4,5,6] [((some 38),fun _=>uv (ph h (df 0 M))),((some 39),fun _=>uv 1),((some 40),fun _=>.tuple #[uv (sm (ph h (df 0 M)) 1),.bool (ov (ph h (df 0 M)) 1)]),((some 37),fun _=>.tuple #[uv (sm (ph h (df 0 M)) 1),.bool (ov (ph h (df 0 M)) 1)]),((some 41),fun _=>uv (sm (ph h (df 0 M)) 1)),((some 42),fun _=>.bool (ov (ph h (df 0 M)) 1)),(none,fun _=>undef)] (fun L g x=>St w.heap.size w x ([(b8,Obj.cells (Value.cells (uv (sm l (pl h (df 0 M))))) 48 (0,0)),(b7,Obj.cells (Value.cells (uv (ph h (df 0 M)))) 48 (0,0)),(b6,Obj.cells (Value.cells (uv (pl h (df 0 M)))) 48 (0,0)),(b5,Obj.cells (Value.cells (uv (df 0 M))) 48 (0,0)),(b4,Obj.cells #[wZ,wZ,wZ,wZ] 48 (0,0)),(b3,Obj.cells (Value.cells (uv M)) 48 (0,0)),(b2,(bif L 6 then Obj.cells (Value.cells (uv (sm (ph h (df 0 M)) 1))) 48 (0,0) else Obj.cells (Value.cells (uv (ph h (df 0 M)))) 48 (0,0))),(b1,Obj.cells (Value.cells (uv (sm l (pl h (df 0 M))))) 48 (0,0))])) kr kr kr (H22.drew) ⟨?_,?_,?_,?_,?_,?_,?_,trivial⟩ ?_
   ·exact xy 48 (.tmp 10) (fun _=>1) (fun g=>b7) (Value.cells (uv (ph h (df 0 M)))) 48 (0,0) (fun _ _ _ h=>h) (fun g=>by kernel_rfl) (fun g=>by kernel_rfl) (fun L g _=>by kernel_rfl) kr
   ·exact gv_call 164 #[.int .u64 1] (fun _ _ _ h=>h) (zgy 1 (by omega)) (fun g w=>by kernel_rfl)
   ·exact gv_call 157 #[uv (ph h (df 0 M)),uv 1] (fun _ _ _ h=>h) (zaC (ph h (df 0 M)) 1 (zgi hh (zaB _ _)) (by unfold big;omega)) (fun g w=>by kernel_rfl)
   ·exact gv_val (fun _ _ _ h=>h) (fun g w=>by kernel_rfl)
   ·exact gv_val (fun _ _ _ h=>h) (fun g w=>by kernel_rfl)
   ·exact gv_val (fun _ _ _ h=>h) (fun g w=>by kernel_rfl)
   ·exact gv_store (fun _=>6) 48 (.tmp 4) (.tmp 41) (fun g=>b2) 0 (Value.cells (uv (ph h (df 0 M)))) (Value.cells (uv (sm (ph h (df 0 M)) 1))) 48 (uv (sm (ph h (df 0 M)) 1)) (fun g=>by kernel_rfl) (fun g=>by kernel_rfl) (fun g=>by kernel_rfl) kr kr (of_decide_eq_true kr) kr (fun L g hN=>by (have hs6:L 6=false:=hN.1;show ([(b8,Obj.cells (Value.cells (uv (sm l (pl h (df 0 M))))) 48 (0,0)),(b7,Obj.cells (Value.cells (uv (ph h (df 0 M)))) 48 (0,0)),(b6,Obj.cells (Value.cells (uv (pl h (df 0 M)))) 48 (0,0)),(b5,Obj.cells (Value.cells (uv (df 0 M))) 48 (0,0)),(b4,Obj.cells #[wZ,wZ,wZ,wZ] 48 (0,0)),(b3,Obj.cells (Value.cells (uv M)) 48 (0,0)),(b2,(bif L 6 then Obj.cells (Value.cells (uv (sm (ph h (df 0 M)) 1))) 48 (0,0) else Obj.cells (Value.cells (uv (ph h (df 0 M)))) 48 (0,0))),(b1,Obj.cells (Value.cells (uv (sm l (pl h (df 0 M))))) 48 (0,0))])[(fun _=>6) L]? =some (b2,Obj.cells (Value.cells (uv (ph h (df 0 M)))) 48 (0,0))∧([(b8,Obj.cells (Value.cells (uv (sm l (pl h (df 0 M))))) 48 (0,0)),(b7,Obj.cells (Value.cells (uv (ph h (df 0 M)))) 48 (0,0)),(b6,Obj.cells (Value.cells (uv (pl h (df 0 M)))) 48 (0,0)),(b5,Obj.cells (Value.cells (uv (df 0 M))) 48 (0,0)),(b4,Obj.cells #[wZ,wZ,wZ,wZ] 48 (0,0)),(b3,Obj.cells (Value.cells (uv M)) 48 (0,0)),(b2,(bif L 6 then Obj.cells (Value.cells (uv (sm (ph h (df 0 M)) 1))) 48 (0,0) else Obj.cells (Value.cells (uv (ph h (df 0 M)))) 48 (0,0))),(b1,Obj.cells (Value.cells (uv (sm l (pl h (df 0 M))))) 48 (0,0))]).set ((fun _=>6) L) (b2,Obj.cells (Value.cells (uv (sm (ph h (df 0 M)) 1))) 48 (0,0))=([(b8,Obj.cells (Value.cells (uv (sm l (pl h (df 0 M))))) 48 (0,0)),(b7,Obj.cells (Value.cells (uv (ph h (df 0 M)))) 48 (0,0)),(b6,Obj.cells (Value.cells (uv (pl h (df 0 M)))) 48 (0,0)),(b5,Obj.cells (Value.cells (uv (df 0 M))) 48 (0,0)),(b4,Obj.cells #[wZ,wZ,wZ,wZ] 48 (0,0)),(b3,Obj.cells (Value.cells (uv M)) 48 (0,0)),(b2,(bif true then Obj.cells (Value.cells (uv (sm (ph h (df 0 M)) 1))) 48 (0,0) else Obj.cells (Value.cells (uv (ph h (df 0 M)))) 48 (0,0))),(b1,Obj.cells (Value.cells (uv (sm l (pl h (df 0 M))))) 48 (0,0))]);rw [hs6];exact ⟨rfl,rfl⟩))
   intro L0 g23 w23 hall HL;clear H22;have H23:St w.heap.size w w23 [(b8,Obj.cells (Value.cells (uv (sm l (pl h (df 0 M))))) 48 (0,0)),(b7,Obj.cells (Value.cells (uv (ph h (df 0 M)))) 48 (0,0)),(b6,Obj.cells (Value.cells (uv (pl h (df 0 M)))) 48 (0,0)),(b5,Obj.cells (Value.cells (uv (df 0 M))) 48 (0,0)),(b4,Obj.cells #[wZ,wZ,wZ,wZ] 48 (0,0)),(b3,Obj.cells (Value.cells (uv M)) 48 (0,0)),(b2,Obj.cells (Value.cells (uv (sm (ph h (df 0 M)) 1))) 48 (0,0)),(b1,Obj.cells (Value.cells (uv (sm l (pl h (df 0 M))))) 48 (0,0))]:=by have e6:=hall 6 (Nat.le_of_ble_eq_true kr);simp only [e6,cond_true] at HL;exact HL
   clear HL hall;have HD2:St w.heap.size w w23 [(b5,Obj.cells (Value.cells (uv (df 0 M))) 48 (0,0)),(b4,Obj.cells #[wZ,wZ,wZ,wZ] 48 (0,0)),(b3,Obj.cells (Value.cells (uv M)) 48 (0,0)),(b2,Obj.cells (Value.cells (uv (sm (ph h (df 0 M)) 1))) 48 (0,0)),(b1,Obj.cells (Value.cells (uv (sm l (pl h (df 0 M))))) 48 (0,0))]:=H23.sub (List.Sublist.cons _ (List.Sublist.cons _ (List.Sublist.cons _ (List.Sublist.cons_cons _ (List.Sublist.cons_cons _ (List.Sublist.cons_cons _ (List.Sublist.cons_cons _ (List.Sublist.cons_cons _ List.Sublist.slnil))))))));show ∃m,_∧_;exact ⟨_,(zcx hM hne hfold),(sm l (pl h (df 0 M))),(sm (ph h (df 0 M)) 1),rfl,(zaA _ _),hh2,(zcw hfold hm),HD2,(Is.of ⟨kr,kr,kr,kr,kr,kr,kr,kr,trivial⟩)⟩
theorem ue:Fn Tryz.prog 135 #[.int .i64 1] (.tuple #[uv NR,.int .i64 0]):=by
 refine Fn.intro (c:=zk Tryz.f135) [.cell 2 48,.tmp 3] 12 Tryz.func135 kr kr kr fun w=>?_;have H0:=St.start w;refine zg [0,1] kr kr<|yu H0 (some 2) 48 (.agg #[wZ,wZ,wZ,wZ]) kr kr kr ?_;intro b1 w1 H1;clear H0;refine zl (some 3) (.int .i64 0) (fun w=>by kernel_rfl) kr<|zc<|zb kr<|zg [0] kr kr<|zl (some 4) (.int .i64 1) (fun w=>by kernel_rfl) kr<|zc<|zn 0 kr<|zg [0,1] kr kr<|zl (some 6) (.bool false) (fun w=>by kernel_rfl) kr<|zl (some 5) (.bool false) (fun w=>by kernel_rfl) kr<|zc<|zh kr kr<|zg [0,1] kr kr<|zl (some 9) (.bool true) (fun w=>by kernel_rfl) kr<|zl (some 8) (.bool true) (fun w=>by kernel_rfl) kr<|zc<|zi kr kr<|zg [0,1,2] kr kr<|zl (some 10) (.agg #[.int .u64 0xbfd25e8cd0364141,.int .u64 0xbaaedce6af48a03b,.int .u64 0xfffffffffffffffe,.int .u64 0xffffffffffffffff]) (fun w=>by kernel_rfl) kr<|yS H1 0 [(b1,Obj.cells #[.int .u64 0xbfd25e8cd0364141,.int .u64 0xbaaedce6af48a03b,.int .u64 0xfffffffffffffffe,.int .u64 0xffffffffffffffff] 48 (0,0))] 48 (.tmp 2) (.tmp 10) b1 0 #[wZ,wZ,wZ,wZ] #[.int .u64 0xbfd25e8cd0364141,.int .u64 0xbaaedce6af48a03b,.int .u64 0xfffffffffffffffe,.int .u64 0xffffffffffffffff] 48 (.agg #[.int .u64 0xbfd25e8cd0364141,.int .u64 0xbaaedce6af48a03b,.int .u64 0xfffffffffffffffe,.int .u64 0xffffffffffffffff]) kr kr kr kr kr kr (of_decide_eq_true kr) kr kr ?_;intro w2 H2;clear H1;refine zl (some 3) (.int .i64 0) (fun w=>by kernel_rfl) kr<|zc<|zm kr<|wV ?_;refine ⟨[.agg #[.int .u64 0xbfd25e8cd0364141,.int .u64 0xbaaedce6af48a03b,.int .u64 0xfffffffffffffffe,.int .u64 0xffffffffffffffff],.int .i64 0],(.agg (b:=b1) #[.int .u64 0xbfd25e8cd0364141,.int .u64 0xbaaedce6af48a03b,.int .u64 0xfffffffffffffffe,.int .u64 0xffffffffffffffff] 48 (0,0) kr (H2.get 0 kr) kr (.tmp (.int .i64 0) kr .nil)),?_,H2.below⟩
 kernel_rfl
theorem zgC (A B:Nat)(hA:A<big)(hB:B<big):Fn Tryz.prog 147 #[uv A,uv B,.int .i64 1] (.tuple #[uv (yV A B NR),.int .i64 0]):=by
 refine Fn.intro (c:=zk Tryz.f147) [.cell 6 48,.tmp 7] 41 Tryz.func147 kr kr kr fun w=>?_;have H0:=St.start w;refine zg [0,1,2,3] kr kr<|ji H0 (some 3) 48 (.tmp 0) (uv A) kr kr kr ?_;intro b1 w1 H1;clear H0;refine ji H1 (some 4) 48 (.tmp 1) (uv B) kr kr kr ?_;intro b2 w2 H2;clear H1;refine yu H2 (some 6) 48 (.agg #[wZ,wZ,wZ,wZ]) kr kr kr ?_;intro b3 w3 H3;clear H2;refine zl (some 7) (.int .i64 0) (fun w=>by kernel_rfl) kr<|zc<|zg [0,1,2,3,4,5,6,7] kr kr<|zl (some 13) (.int .i64 1) (fun w=>by kernel_rfl) kr<|jQ H3 (some 14) 135 #[.int .i64 1] (.tuple #[uv NR,.int .i64 0]) ue (fun w=>by kernel_rfl) kr ?_;intro w4 H4;clear H3;refine zl (some 12) (.tuple #[uv NR,.int .i64 0]) (fun w=>by kernel_rfl) kr<|zl (some 15) (uv NR) (fun w=>by kernel_rfl) kr<|zl (some 16) (.int .i64 0) (fun w=>by kernel_rfl) kr<|yu H4 (some 8) 48 (.agg #[wZ,wZ,wZ,wZ]) kr kr kr ?_;intro b4 w5 H5;clear H4;refine yS H5 0 [(b4,Obj.cells (Value.cells (uv NR)) 48 (0,0)),(b3,Obj.cells #[wZ,wZ,wZ,wZ] 48 (0,0)),(b2,Obj.cells (Value.cells (uv B)) 48 (0,0)),(b1,Obj.cells (Value.cells (uv A)) 48 (0,0))] 48 (.tmp 8) (.tmp 15) b4 0 #[wZ,wZ,wZ,wZ] (Value.cells (uv NR)) 48 (uv NR) kr kr kr kr kr kr (of_decide_eq_true kr) kr kr ?_;intro w6 H6;clear H5;refine zl (some 9) (.int .i64 0) (fun w=>by kernel_rfl) kr<|zc<|zb kr<|zg [0,1] kr kr<|zl (some 17) (.int .i64 0) (fun w=>by kernel_rfl) kr<|zl (some 18) (.bool false) (fun w=>by kernel_rfl) kr<|zc<|zh kr kr<|zj kr<|wW<|g_sdraw [0,1,2,3,4,5,6,7,8,9,10,11,12,13,14] [((some 22),fun _=>uv A),((some 23),fun _=>.agg #[wZ,wZ,wZ,wZ]),((some 24),fun _=>uv NR),((some 25),fun _=>uv (rs A 0 NR)),((some 26),fun _=>uv B),((some 27),fun _=>.agg #[wZ,wZ,wZ,wZ]),((some 28),fun _=>uv NR),((some 29),fun _=>uv (rs B 0 NR)),((some 30),fun _=>.tuple #[uv (df (rs A 0 NR) (rs B 0 NR)),.bool (lo (rs A 0 NR) (rs B 0 NR))]),((some 21),fun _=>.tuple #[uv (df (rs A 0 NR) (rs B 0 NR)),.bool (lo (rs A 0 NR) (rs B 0 NR))]),((some 31),fun _=>uv (df (rs A 0 NR) (rs B 0 NR))),((some 32),fun _=>.bool (lo (rs A 0 NR) (rs B 0 NR))),((some 10),fun b=>.pointer (some ⟨b,0,none⟩)),(none,fun _=>undef),((some 11),fun _=>.bool (lo (rs A 0 NR) (rs B 0 NR)))] (fun L g x=>St w.heap.size w x ([(b4,Obj.cells (Value.cells (uv NR)) 48 (0,0)),(b3,Obj.cells #[wZ,wZ,wZ,wZ] 48 (0,0)),(b2,Obj.cells (Value.cells (uv B)) 48 (0,0)),(b1,Obj.cells (Value.cells (uv A)) 48 (0,0))]++(bif L 12 then [(g 12,(bif L 13 then Obj.cells (Value.cells (uv (df (rs A 0 NR) (rs B 0 NR)))) 48 (0,0) else Obj.cells #[wZ,wZ,wZ,wZ] 48 (0,0)))] else []))) kr kr kr kr (H6.drew) ⟨?_,?_,?_,?_,?_,?_,?_,?_,?_,?_,?_,?_,?_,?_,?_,trivial⟩ ?_
 ·exact xy 48 (.tmp 3) (fun _=>3) (fun g=>b1) (Value.cells (uv A)) 48 (0,0) (fun _ _ _ h=>h) (fun g=>by kernel_rfl) (fun g=>by kernel_rfl) (fun L g _=>by kernel_rfl) kr
 ·exact gv_val (fun _ _ _ h=>h) (fun g w=>by kernel_rfl)
 ·exact xy 48 (.tmp 8) (fun _=>0) (fun g=>b4) (Value.cells (uv NR)) 48 (0,0) (fun _ _ _ h=>h) (fun g=>by kernel_rfl) (fun g=>by kernel_rfl) (fun L g _=>by kernel_rfl) kr
 ·exact gv_call 156 #[uv A,.agg #[wZ,wZ,wZ,wZ],uv NR] (fun _ _ _ h=>h) (zcz A 0 NR hA (by unfold big;omega) qE) (fun g w=>by kernel_rfl)
 ·exact xy 48 (.tmp 4) (fun _=>2) (fun g=>b2) (Value.cells (uv B)) 48 (0,0) (fun _ _ _ h=>h) (fun g=>by kernel_rfl) (fun g=>by kernel_rfl) (fun L g _=>by kernel_rfl) kr
 ·exact gv_val (fun _ _ _ h=>h) (fun g w=>by kernel_rfl)
 ·exact xy 48 (.tmp 8) (fun _=>0) (fun g=>b4) (Value.cells (uv NR)) 48 (0,0) (fun _ _ _ h=>h) (fun g=>by kernel_rfl) (fun g=>by kernel_rfl) (fun L g _=>by kernel_rfl) kr
 ·exact gv_call 156 #[uv B,.agg #[wZ,wZ,wZ,wZ],uv NR] (fun _ _ _ h=>h) (zcz B 0 NR hB (by unfold big;omega) qE) (fun g w=>by kernel_rfl)
 ·exact gv_call 155 #[uv (rs A 0 NR),uv (rs B 0 NR)] (fun _ _ _ h=>h) (zaD (rs A 0 NR) (rs B 0 NR) (zcu qE) (zcu qE)) (fun g w=>by kernel_rfl)
 ·exact gv_val (fun _ _ _ h=>h) (fun g w=>by kernel_rfl)
 ·exact gv_val (fun _ _ _ h=>h) (fun g w=>by kernel_rfl)
 ·exact gv_val (fun _ _ _ h=>h) (fun g w=>by kernel_rfl)
 ·exact zfp 48 (.agg #[wZ,wZ,wZ,wZ]) (fun L g=>[(b4,Obj.cells (Value.cells (uv NR)) 48 (0,0)),(b3,Obj.cells #[wZ,wZ,wZ,wZ] 48 (0,0)),(b2,Obj.cells (Value.cells (uv B)) 48 (0,0)),(b1,Obj.cells (Value.cells (uv A)) 48 (0,0))]) (fun L g=>([]:List (Nat×Obj))) (fun g=>by kernel_rfl) kr (fun L g hN=>by (have hn:L 12=false:=hN.1;show ([(b4,Obj.cells (Value.cells (uv NR)) 48 (0,0)),(b3,Obj.cells #[wZ,wZ,wZ,wZ] 48 (0,0)),(b2,Obj.cells (Value.cells (uv B)) 48 (0,0)),(b1,Obj.cells (Value.cells (uv A)) 48 (0,0))]++(bif L 12 then [(g 12,(bif L 13 then Obj.cells (Value.cells (uv (df (rs A 0 NR) (rs B 0 NR)))) 48 (0,0) else Obj.cells #[wZ,wZ,wZ,wZ] 48 (0,0)))] else []))=([(b4,Obj.cells (Value.cells (uv NR)) 48 (0,0)),(b3,Obj.cells #[wZ,wZ,wZ,wZ] 48 (0,0)),(b2,Obj.cells (Value.cells (uv B)) 48 (0,0)),(b1,Obj.cells (Value.cells (uv A)) 48 (0,0))])++(([]:List (Nat×Obj)));rw [hn];rfl)) (fun L g b hN=>by (have hz:L 13=false:=hN.2.2.no 12 13 kr hN.1;show ([(b4,Obj.cells (Value.cells (uv NR)) 48 (0,0)),(b3,Obj.cells #[wZ,wZ,wZ,wZ] 48 (0,0)),(b2,Obj.cells (Value.cells (uv B)) 48 (0,0)),(b1,Obj.cells (Value.cells (uv A)) 48 (0,0))])++(b,Obj.cells #[wZ,wZ,wZ,wZ] 48 (0,0))::(([]:List (Nat×Obj)))=([(b4,Obj.cells (Value.cells (uv NR)) 48 (0,0)),(b3,Obj.cells #[wZ,wZ,wZ,wZ] 48 (0,0)),(b2,Obj.cells (Value.cells (uv B)) 48 (0,0)),(b1,Obj.cells (Value.cells (uv A)) 48 (0,0))]++([(b,(bif L 13 then Obj.cells (Value.cells (uv (df (rs A 0 NR) (rs B 0 NR)))) 48 (0,0) else Obj.cells #[wZ,wZ,wZ,wZ] 48 (0,0)))]));rw [hz];rfl))
 ·exact gv_store (fun _=>4) 48 (.tmp 10) (.tmp 31) (fun g=>g 12) 0 #[wZ,wZ,wZ,wZ] (Value.cells (uv (df (rs A 0 NR) (rs B 0 NR)))) 48 (uv (df (rs A 0 NR) (rs B 0 NR))) (fun g=>by kernel_rfl) (fun g=>by kernel_rfl) (fun g=>by kernel_rfl) kr kr (of_decide_eq_true kr) kr (fun L g hN=>by (have hs13:L 13=false:=hN.1;have hs12:L 12=true:=before_yes hN.2.1 12 kr;show ([(b4,Obj.cells (Value.cells (uv NR)) 48 (0,0)),(b3,Obj.cells #[wZ,wZ,wZ,wZ] 48 (0,0)),(b2,Obj.cells (Value.cells (uv B)) 48 (0,0)),(b1,Obj.cells (Value.cells (uv A)) 48 (0,0))]++(bif L 12 then [(g 12,(bif L 13 then Obj.cells (Value.cells (uv (df (rs A 0 NR) (rs B 0 NR)))) 48 (0,0) else Obj.cells #[wZ,wZ,wZ,wZ] 48 (0,0)))] else []))[(fun _=>4) L]? =some (g 12,Obj.cells #[wZ,wZ,wZ,wZ] 48 (0,0))∧([(b4,Obj.cells (Value.cells (uv NR)) 48 (0,0)),(b3,Obj.cells #[wZ,wZ,wZ,wZ] 48 (0,0)),(b2,Obj.cells (Value.cells (uv B)) 48 (0,0)),(b1,Obj.cells (Value.cells (uv A)) 48 (0,0))]++(bif L 12 then [(g 12,(bif L 13 then Obj.cells (Value.cells (uv (df (rs A 0 NR) (rs B 0 NR)))) 48 (0,0) else Obj.cells #[wZ,wZ,wZ,wZ] 48 (0,0)))] else [])).set ((fun _=>4) L) (g 12,Obj.cells (Value.cells (uv (df (rs A 0 NR) (rs B 0 NR)))) 48 (0,0))=([(b4,Obj.cells (Value.cells (uv NR)) 48 (0,0)),(b3,Obj.cells #[wZ,wZ,wZ,wZ] 48 (0,0)),(b2,Obj.cells (Value.cells (uv B)) 48 (0,0)),(b1,Obj.cells (Value.cells (uv A)) 48 (0,0))]++(bif L 12 then [(g 12,(bif true then Obj.cells (Value.cells (uv (df (rs A 0 NR) (rs B 0 NR)))) 48 (0,0) else Obj.cells #[wZ,wZ,wZ,wZ] 48 (0,0)))] else []));rw [hs13,hs12];exact ⟨rfl,rfl⟩))
 ·exact gv_val (fun _ _ _ h=>h) (fun g w=>by kernel_rfl)
 intro L0 g7 w7 hall HL;clear H6;have H7:St w.heap.size w w7 [(b4,Obj.cells (Value.cells (uv NR)) 48 (0,0)),(b3,Obj.cells #[wZ,wZ,wZ,wZ] 48 (0,0)),(b2,Obj.cells (Value.cells (uv B)) 48 (0,0)),(b1,Obj.cells (Value.cells (uv A)) 48 (0,0)),((g7 12),Obj.cells (Value.cells (uv (df (rs A 0 NR) (rs B 0 NR)))) 48 (0,0))]:=by have e13:=hall 13 (Nat.le_of_ble_eq_true kr);have e12:=hall 12 (Nat.le_of_ble_eq_true kr);simp only [e13,e12,cond_true] at HL;exact HL
 clear HL hall;refine zb kr<|zg [0] kr kr ?_;cases hlo:lo (rs A 0 NR) (rs B 0 NR)
 ·refine zl (some 33) (.bool false) (fun w=>by kernel_rfl) kr<|zc<|zh kr kr<|zj kr<|wW<|zg [0,1,2] kr kr<|yz H7 (some 40) 48 (.tmp 10) 4 (g7 12) (Value.cells (uv (df (rs A 0 NR) (rs B 0 NR)))) 48 (0,0) kr kr kr kr kr<|yS H7 1 [(b4,Obj.cells (Value.cells (uv NR)) 48 (0,0)),(b3,Obj.cells (Value.cells (uv (df (rs A 0 NR) (rs B 0 NR)))) 48 (0,0)),(b2,Obj.cells (Value.cells (uv B)) 48 (0,0)),(b1,Obj.cells (Value.cells (uv A)) 48 (0,0)),((g7 12),Obj.cells (Value.cells (uv (df (rs A 0 NR) (rs B 0 NR)))) 48 (0,0))] 48 (.tmp 6) (.tmp 40) b3 0 #[wZ,wZ,wZ,wZ] (Value.cells (uv (df (rs A 0 NR) (rs B 0 NR)))) 48 (uv (df (rs A 0 NR) (rs B 0 NR))) kr kr kr kr kr kr (of_decide_eq_true kr) kr kr ?_;intro w8 H8;clear H7;refine zl (some 7) (.int .i64 0) (fun w=>by kernel_rfl) kr<|zc<|zm kr<|wV ?_;refine ⟨[uv (df (rs A 0 NR) (rs B 0 NR)),.int .i64 0],(.agg (b:=b3) (Value.cells (uv (df (rs A 0 NR) (rs B 0 NR)))) 48 (0,0) kr (H8.get 1 kr) kr (.tmp (.int .i64 0) kr .nil)),?_,H8.below⟩;exact congrArg (fun n=>Value.tuple #[uv n,.int .i64 0]) (zgo qE hlo)
 ·refine zl (some 33) (.bool true) (fun w=>by kernel_rfl) kr<|zc<|zi kr kr<|yq [0,1,2,3,4,5,6] kr<|yz H7 (some 35) 48 (.tmp 10) 4 (g7 12) (Value.cells (uv (df (rs A 0 NR) (rs B 0 NR)))) 48 (0,0) kr kr kr kr kr<|yz H7 (some 36) 48 (.tmp 8) 0 b4 (Value.cells (uv NR)) 48 (0,0) kr kr kr kr kr<|jQ H7 (some 37) 157 #[uv (df (rs A 0 NR) (rs B 0 NR)),uv NR] (.tuple #[uv (sm (df (rs A 0 NR) (rs B 0 NR)) NR),.bool (ov (df (rs A 0 NR) (rs B 0 NR)) NR)]) (zaC (df (rs A 0 NR) (rs B 0 NR)) NR (zaB _ _) qE.1) (fun w=>by kernel_rfl) kr ?_;intro w9 H9;clear H7;refine zl (some 34) (.tuple #[uv (sm (df (rs A 0 NR) (rs B 0 NR)) NR),.bool (ov (df (rs A 0 NR) (rs B 0 NR)) NR)]) (fun w=>by kernel_rfl) kr<|zl (some 38) (uv (sm (df (rs A 0 NR) (rs B 0 NR)) NR)) (fun w=>by kernel_rfl) kr<|zl (some 39) (.bool (ov (df (rs A 0 NR) (rs B 0 NR)) NR)) (fun w=>by kernel_rfl) kr<|yS H9 4 [(b4,Obj.cells (Value.cells (uv NR)) 48 (0,0)),(b3,Obj.cells #[wZ,wZ,wZ,wZ] 48 (0,0)),(b2,Obj.cells (Value.cells (uv B)) 48 (0,0)),(b1,Obj.cells (Value.cells (uv A)) 48 (0,0)),((g7 12),Obj.cells (Value.cells (uv (sm (df (rs A 0 NR) (rs B 0 NR)) NR))) 48 (0,0))] 48 (.tmp 10) (.tmp 38) (g7 12) 0 (Value.cells (uv (df (rs A 0 NR) (rs B 0 NR)))) (Value.cells (uv (sm (df (rs A 0 NR) (rs B 0 NR)) NR))) 48 (uv (sm (df (rs A 0 NR) (rs B 0 NR)) NR)) kr kr kr kr kr kr (of_decide_eq_true kr) kr kr ?_;intro w10 H10;clear H9;refine zc<|wW<|zg [0,1,2] kr kr<|yz H10 (some 40) 48 (.tmp 10) 4 (g7 12) (Value.cells (uv (sm (df (rs A 0 NR) (rs B 0 NR)) NR))) 48 (0,0) kr kr kr kr kr<|yS H10 1 [(b4,Obj.cells (Value.cells (uv NR)) 48 (0,0)),(b3,Obj.cells (Value.cells (uv (sm (df (rs A 0 NR) (rs B 0 NR)) NR))) 48 (0,0)),(b2,Obj.cells (Value.cells (uv B)) 48 (0,0)),(b1,Obj.cells (Value.cells (uv A)) 48 (0,0)),((g7 12),Obj.cells (Value.cells (uv (sm (df (rs A 0 NR) (rs B 0 NR)) NR))) 48 (0,0))] 48 (.tmp 6) (.tmp 40) b3 0 #[wZ,wZ,wZ,wZ] (Value.cells (uv (sm (df (rs A 0 NR) (rs B 0 NR)) NR))) 48 (uv (sm (df (rs A 0 NR) (rs B 0 NR)) NR)) kr kr kr kr kr kr (of_decide_eq_true kr) kr kr ?_;intro w11 H11;clear H10;refine zl (some 7) (.int .i64 0) (fun w=>by kernel_rfl) kr<|zc<|zm kr<|wV ?_;refine ⟨[uv (sm (df (rs A 0 NR) (rs B 0 NR)) NR),.int .i64 0],(.agg (b:=b3) (Value.cells (uv (sm (df (rs A 0 NR) (rs B 0 NR)) NR))) 48 (0,0) kr (H11.get 1 kr) kr (.tmp (.int .i64 0) kr .nil)),?_,H11.below⟩;exact congrArg (fun n=>Value.tuple #[uv n,.int .i64 0]) (zgn qE hlo)
end Go.Proofs.YtbpmjppmpgeejaaGreatDoor
namespace Go.Proofs.YtbpmjppmpgeejaaGreatDoor
def vl:List Nat→Nat
 | []=>0
 | d::r=>d+65536*vl r
def Ok (l:List Nat):Prop:= ∀d∈l,d<65536
def dgt (A i:Nat):Nat:=A / 65536^i%65536
def dgs (A k:Nat):List Nat:=(List.range k).map (dgt A)
theorem zaE (A k:Nat):(dgs A k).length=k:=by unfold dgs;simp
theorem zcA (A k:Nat):dgs A (k+1)=dgs A k++ [dgt A k]:=by unfold dgs;rw [List.range_succ];simp
theorem zgD (A k:Nat):Ok (dgs A k):=by
 intro d hd;unfold dgs at hd;obtain ⟨i,_,rfl⟩:=List.mem_map.1 hd;exact Nat.mod_lt _ (by omega)
theorem zcB (l m:List Nat):vl (l++m)=vl l+65536^l.length*vl m:=by
 induction l with
 | nil=>simp [vl]
 | cons d r ih=>
  rw [List.cons_append,vl,vl,ih,List.length_cons,Nat.pow_succ,Nat.mul_add,←Nat.mul_assoc,Nat.mul_comm 65536 (65536^_)];omega
theorem zaF (l:List Nat)(d:Nat):vl (l++ [d])=vl l+65536^l.length*d:=by rw [zcB];simp [vl]
theorem zgE (A k:Nat):vl (dgs A k)=A%65536^k:=by
 induction k with
 | zero=>simp [dgs,vl,Nat.mod_one]
 | succ k ih=>
  rw [zcA,zaF,ih,zaE,Nat.pow_succ,Nat.mod_mul];rfl
theorem zgF {l:List Nat}(h:Ok l):vl l<65536^l.length:=by
 induction l with
 | nil=>simp [vl]
 | cons d r ih=>
  have h1:=h d (by simp);have h2:=ih (fun x hx=>h x (by simp [hx]));rw [vl,List.length_cons,Nat.pow_succ];omega
theorem zgG {l m:List Nat}(h:Ok l)(k:Ok m):Ok (l++m):=fun d hd=>by
 rcases List.mem_append.1 hd with h1|h1
 ·exact h d h1
 ·exact k d h1
theorem zgH {l:List Nat}(h:Ok l)(k:Nat):Ok (l.take k):=fun d hd=>h d (List.mem_of_mem_take hd)
theorem uf {l:List Nat}(h:Ok l)(i:Nat):l.getD i 0<65536:=by
 rcases Nat.lt_or_ge i l.length with hi|hi
 ·have:l.getD i 0=l[i]:=by simp [List.getD,List.getElem?_eq_getElem hi]
  rw [this];exact h _ (List.getElem_mem hi)
 ·have:l.getD i 0=0:=by simp [List.getD,List.getElem?_eq_none hi]
  omega
theorem zgI (l:List Nat)(k:Nat)(h:k<l.length):vl (l.take (k+1))=vl (l.take k)+65536^k*l.getD k 0:=by
 rw [List.take_succ_eq_append_getElem h,zaF,List.length_take,Nat.min_eq_left (by omega)];simp [List.getD,List.getElem?_eq_getElem h]
theorem zaG (l:List Nat)(k:Nat):vl (l.take (k+1))=vl (l.take k)+65536^k*l.getD k 0:=by
 rcases Nat.lt_or_ge k l.length with h|h
 ·exact zgI l k h
 ·rw [List.take_of_length_le h,List.take_of_length_le (by omega)];simp [List.getD,List.getElem?_eq_none h]
theorem zgJ (l:List Nat)(k:Nat):vl l=vl (l.take k)+65536^k*vl (l.drop k):=by
 rcases Nat.lt_or_ge l.length k with h|h
 ·rw [List.take_of_length_le (by omega),List.drop_of_length_le (by omega)];simp [vl]
 ·conv=>lhs;rw [←List.take_append_drop k l]
  rw [zcB,List.length_take,Nat.min_eq_left h]
theorem zgK:big=65536^16:=rfl
theorem ug (A k:Nat)(h:k / 4=0):(w0 A / 2^(16*(k%4)))%65536=(dgt A k:Int):=by
 have hk:k=0∨k=1∨k=2∨k=3:=by omega
 unfold w0 dgt;rcases hk with rfl | rfl | rfl | rfl
 ·show ((A%0x10000000000000000:Nat):Int) / 1%65536=((A / 1%65536:Nat):Int);omega
 ·show ((A%0x10000000000000000:Nat):Int) / 65536%65536=((A / 65536%65536:Nat):Int);omega
 ·show ((A%0x10000000000000000:Nat):Int) / 4294967296%65536=((A / 4294967296%65536:Nat):Int);omega
 ·show ((A%0x10000000000000000:Nat):Int) / 281474976710656%65536=((A / 281474976710656%65536:Nat):Int);omega
theorem zaH (A j k:Nat):dgt (A / 65536^j) k=dgt A (j+k):=by unfold dgt;rw [Nat.div_div_eq_div_mul,←Nat.pow_add]
theorem zgL (A k:Nat)(h:k / 4=1):(w1 A / 2^(16*(k%4)))%65536=(dgt A k:Int):=by
 have e:=ug (A / 65536^4) (k-4) (by omega);rw [zaH,show 4+(k-4)=k by omega,show (k-4)%4=k%4 by omega] at e;exact e
theorem zgM (A k:Nat)(h:k / 4=2):(w2 A / 2^(16*(k%4)))%65536=(dgt A k:Int):=by
 have e:=ug (A / 65536^8) (k-8) (by omega);rw [zaH,show 8+(k-8)=k by omega,show (k-8)%4=k%4 by omega] at e;exact e
theorem zgN (A k:Nat)(h:k / 4=3):(w3 A / 2^(16*(k%4)))%65536=(dgt A k:Int):=by
 have e:=ug (A / 65536^12) (k-12) (by omega);rw [zaH,show 12+(k-12)=k by omega,show (k-12)%4=k%4 by omega] at e;exact e
open Go
set_option linter.unusedVariables false
def dAt (ds:List Nat)(i:Nat):Int:=((ds.getD i 0:Nat):Int)
theorem zcC {l:List Nat}(i:Nat):0≤dAt l i:=by unfold dAt;omega
theorem zcD {l:List Nat}(h:Ok l)(i:Nat):dAt l i≤65535:=by have:=uf h i;unfold dAt;omega
structure qv (x y l:List Nat)(k:Nat)(c:Int):Prop where
 len:l.length=k
 ok:Ok l
 c0:0≤c
 c1:c≤1
 val:(vl l:Int)+65536^k*c=vl (x.take k)+vl (y.take k)
 top:k≤max x.length y.length+1
 last:k=max x.length y.length+1→c=0
theorem qv.start (x y:List Nat):qv x y [] 0 0:=⟨rfl,(fun d h=>by cases h),by omega,by omega,by simp [vl],by omega,by omega⟩
theorem qv.next {x y l:List Nat}{k:Nat}{c:Int}(h:qv x y l k c)(hx:Ok x)(hy:Ok y)(hgo:k<x.length∨k<y.length∨0<c):
 qv x y (l++ [((dAt x k+dAt y k+c)%65536).toNat]) (k+1) ((dAt x k+dAt y k+c) / 65536):=by
 have x0:=zcC (l:=x) k;have x1:=zcD hx k;have y0:=zcC (l:=y) k;have y1:=zcD hy k;obtain ⟨e1,e2,c0,c1,ev,et,el⟩:=h;have hend:k=max x.length y.length→dAt x k=0∧dAt y k=0:=fun e=>by
  unfold dAt;simp [List.getD,List.getElem?_eq_none (show x.length≤k by omega),List.getElem?_eq_none (show y.length≤k by omega)]
 refine ⟨by simp [e1],zgG e2 (fun d hd=>by simp at hd;omega),by omega,by omega,?_,?_,?_⟩
 ·rw [zaF,e1,zaG,zaG,Int.pow_succ];have hdx:dAt x k=((x.getD k 0:Nat):Int):=rfl;have hdy:dAt y k=((y.getD k 0:Nat):Int):=rfl;have hs:(((dAt x k+dAt y k+c)%65536).toNat:Int)=(dAt x k+dAt y k+c)%65536:=by omega
  have hm:dAt x k+dAt y k+c=65536*((dAt x k+dAt y k+c) / 65536)+(dAt x k+dAt y k+c)%65536:=by omega
  generalize hq:(dAt x k+dAt y k+c) / 65536=q at*;generalize hr:(dAt x k+dAt y k+c)%65536=r at*;have e3:(65536:Int)^k*dAt x k+65536^k*dAt y k+65536^k*c=65536^k*65536*q+65536^k*r:=by
   rw [←Int.mul_add,←Int.mul_add,hm,Int.mul_add,Int.mul_assoc]
  have g1:((vl l+65536^k*r.toNat:Nat):Int)=(vl l:Int)+65536^k*r:=by rw [Int.natCast_add,Int.natCast_mul,Int.natCast_pow,hs];rfl
  have g2:((vl (x.take k)+65536^k*x.getD k 0:Nat):Int)=(vl (x.take k):Int)+65536^k*dAt x k:=by rw [Int.natCast_add,Int.natCast_mul,Int.natCast_pow];rfl
  have g3:((vl (y.take k)+65536^k*y.getD k 0:Nat):Int)=(vl (y.take k):Int)+65536^k*dAt y k:=by rw [Int.natCast_add,Int.natCast_mul,Int.natCast_pow];rfl
  rw [g1,g2,g3];omega
 ·rcases Nat.lt_or_ge k (max x.length y.length+1) with h|h
  ·omega
  ·have:=el (by omega);omega
 ·intro e;have:=hend (by omega);omega
theorem qv.fin {x y l:List Nat}{k:Nat}{c:Int}(h:qv x y l k c)(hx: ¬k<x.length)(hy: ¬k<y.length)(hc: ¬0<c):vl l=vl x+vl y:=by
 obtain ⟨e1,e2,c0,c1,ev,et,el⟩:=h;rw [show c=0 by omega,List.take_of_length_le (by omega),List.take_of_length_le (by omega)] at ev;simp at ev;omega
def ls (x y:List Nat):Bool:=decide (vl x<vl y)
theorem vb: ∀(x y:List Nat),(∀t,dAt x t=dAt y t)→vl x=vl y
 | [],[],_=>rfl
 | [],b::y,h=>by
  have h0:=h 0;have ih:=vb [] y (fun t=>by have:=h (t+1);simpa [dAt] using this);simp [dAt] at h0;simp only [vl] at ih ⊢;omega
 | a::x,[],h=>by
  have h0:=h 0;have ih:=vb x [] (fun t=>by have:=h (t+1);simpa [dAt] using this);simp [dAt] at h0;simp only [vl] at ih ⊢;omega
 | a::x,b::y,h=>by
  have h0:=h 0;have ih:=vb x y (fun t=>by have:=h (t+1);simpa [dAt] using this);simp [dAt] at h0;simp only [vl];omega
theorem zcE (l:List Nat)(k t:Nat):dAt (l.drop k) t=dAt l (k+t):=by unfold dAt;simp [List.getD,List.getElem?_drop]
theorem zcF (l:List Nat)(j:Nat):vl l=vl (l.take j)+65536^j*l.getD j 0+65536^(j+1)*vl (l.drop (j+1)):=by
 rw [zgJ l (j+1),zaG]
theorem zcG {x y:List Nat}(hx:Ok x)(hy:Ok y)(j:Nat)(ht: ∀t,j<t→dAt x t=dAt y t)(h:dAt x j<dAt y j):vl x<vl y:=by
 have e:vl (x.drop (j+1))=vl (y.drop (j+1)):=vb _ _ (fun t=>by rw [zcE,zcE];exact ht _ (by omega));have hl:=zgF (zgH hx j);have h3:65536^(x.take j).length≤65536^j:=Nat.pow_le_pow_right (by omega) (List.length_take_le _ _);have hd:x.getD j 0+1≤y.getD j 0:=by unfold dAt at h;omega
 have hm:65536^j*(x.getD j 0+1)≤65536^j*y.getD j 0:=Nat.mul_le_mul_left _ hd;rw [Nat.mul_add,Nat.mul_one] at hm;rw [zcF x j,zcF y j,e];omega
theorem zcH {x y:List Nat}(hx:Ok x)(hy:Ok y)(j:Nat)(ht: ∀t,j<t→dAt x t=dAt y t)(h:dAt x j≠dAt y j):decide (dAt x j<dAt y j)=ls x y:=by
 unfold ls;rcases Int.lt_or_gt_of_ne h with k | k
 ·have:=zcG hx hy j ht k;simp [k,this]
 ·have:=zcG hy hx j (fun t h=>(ht t h).symm) k;have k': ¬dAt x j<dAt y j:=by omega
  have this': ¬vl x<vl y:=by omega
  simp [k',this']
theorem zcI {x y:List Nat}(ht: ∀t,dAt x t=dAt y t):ls x y=false:=by
 unfold ls;rw [vb x y ht];simp
def jf (x y:List Nat)(j:Int):Prop:= ∀t:Nat,j<t→dAt x t=dAt y t
theorem jf.start (x y:List Nat)(n:Int)(h1:(x.length:Int)≤n)(h2:(y.length:Int)≤n):jf x y (n-1):=fun t ht=>by
 unfold dAt;simp [List.getD,List.getElem?_eq_none (show x.length≤t by omega),List.getElem?_eq_none (show y.length≤t by omega)]
theorem jf.down {x y:List Nat}{j:Nat}(h:jf x y j)(e:dAt x j=dAt y j):jf x y ((j:Int)-1):=fun t ht=>by
 rcases Nat.lt_or_ge j t with k|k
 ·exact h t (by omega)
 ·rw [show t=j by omega];exact e
structure zl1 (x y l:List Nat)(k:Nat)(c:Int):Prop where
 len:l.length=k
 ok:Ok l
 c0:0≤c
 c1:c≤1
 val:(vl l:Int)-65536^k*c=vl (x.take k)-vl (y.take k)
structure zl2 (x y out:List Nat)(i k c:Nat):Prop where
 len:out.length=x.length+y.length+1
 ok:Ok out
 hi:i<x.length
 cw:c<65536
 val:vl out+65536^(i+k)*c=vl (x.take i)*vl y+65536^i*(x.getD i 0*vl (y.take k))
 top:k≤y.length+1
 last:k=y.length+1→c=0
theorem qv.go {x y l:List Nat}{k c:Nat}(h:qv x y l k (c:Int))(hx:Ok x)(hy:Ok y)(hgo:k<x.length∨k<y.length∨0<c):
 qv x y (l++ [(x.getD k 0+y.getD k 0+c)%65536]) (k+1) (((x.getD k 0+y.getD k 0+c) / 65536:Nat):Int):=by
 have hn:=h.next hx hy (by omega)
 unfold dAt at hn
 rw [show ((((x.getD k 0:Nat):Int)+((y.getD k 0:Nat):Int)+(c:Int))%65536).toNat=(x.getD k 0+y.getD k 0+c)%65536 by omega,
  show (((x.getD k 0:Nat):Int)+((y.getD k 0:Nat):Int)+(c:Int)) / 65536=(((x.getD k 0+y.getD k 0+c) / 65536:Nat):Int) by omega] at hn
 exact hn
theorem qv.done {x y l:List Nat}{k c:Nat}(h:qv x y l k (c:Int))(hx: ¬k<x.length)(hy: ¬k<y.length)(hc: ¬0<c):vl l=vl x+vl y:=h.fin hx hy (by omega)
end Go.Proofs.YtbpmjppmpgeejaaGreatDoor
namespace Go.Proofs.YtbpmjppmpgeejaaGreatDoor
open Go Go.RowKit
set_option linter.unusedVariables false
theorem qw (x:List Nat)(ba nx ca:Nat)(curA:Array Value)(hnx:nx=List.length x)(hA:Rw 1 curA ca nx (zW x))(lx:List.length x≤100000)(i:Nat)(hi:i≤100000):FnP Tryz.prog 111 #[.slice (some ⟨ba,0,none⟩) nx ca,.int .i64 (i:Int)] (fun w=>w.heap[ba]? =some (.cells curA 3 (0,0))) (.int .i64 ((List.getD x i 0:Nat):Int)):=by
 subst hnx;refine FnP.intro (c:=zk Tryz.f111) [.tmp 4] 13 Tryz.func111 kr kr kr fun w hpre=>?_;have H0:=St.start w;refine rS [.v] H0 kr fun gs1 w1 H1=>?_;clear H0;refine zb kr<|zg [0,1,2,3] kr kr<|rp [.v,.v,.v] H1 kr fun gs2 w2 H2=>wX [3] ?_;clear H1;by_cases hc1:(i:Nat)<List.length x
 ·refine rp [.E (.bool (decide ((i:Int)<(List.length x:Int)))) (.bool true) (za (decide_eq_true (by omega)))] H2 kr fun gs3 w3 H3=>wX [] ?_;clear H2;refine zc<|zi kr kr<|rS [.v,.v,.o (ins:=[((.tmp 9),.slice (some ⟨ba,0,none⟩) (List.length x) ca),((.tmp 10),.int .i64 (i:Int))]) (v:=.pointer (some ⟨ba,0+i*1,none⟩)) (fun ρ o w ho hi=>jc (kd:=.i64) (t:=107) (e:=3) (size:=1) (bytes:=8) kr (x:=(.tmp 9)) (y:=(.tmp 10)) ba 0 (List.length x) ca i ho hi.1 hi.2.1 (by omega) w),.fs (off:=0+i*1) (v:=.int .i64 ((List.getD x i 0:Nat):Int)) hpre (zz hpre) (hA.atD (by omega) rfl),.v] H3 kr fun gs4 w4 H4=>?_;clear H3;refine zm kr<|wV ?_;refine ⟨[.int .i64 ((List.getD x i 0:Nat):Int)],(.tmp (.int .i64 ((List.getD x i 0:Nat):Int)) kr .nil),?_,H4.below⟩
  first | rfl | (rw [show List.getD x i 0=0 by simp [List.getD,List.getElem?_eq_none (show x.length≤i by omega)]];rfl)
 ·refine rp [.E (.bool (decide ((i:Int)<(List.length x:Int)))) (.bool false) (za (decide_eq_false (by omega)))] H2 kr fun gs5 w5 H5=>wX [] ?_;clear H2;refine zc<|zh kr kr<|zj kr<|wW<|rS [.v] H5 kr fun gs6 w6 H6=>?_;clear H5;refine zm kr<|wV ?_;refine ⟨[.int .i64 0],(.tmp (.int .i64 0) kr .nil),?_,H6.below⟩
  first | rfl | (rw [show List.getD x i 0=0 by simp [List.getD,List.getElem?_eq_none (show x.length≤i by omega)]];rfl)
theorem zgO {A:Nat}(h:A<big):vl (dgs A 16)=A:=by rw [zgE,←zgK,Nat.mod_eq_of_lt h]
theorem uh (X n:Nat):IntKind.i64.wrap ((X / 2^n%65536:Nat):Int)=(X:Int) / 2^n%65536:=by
 have h:=Nat.mod_lt (X / 2^n) (show 0<65536 by omega);rw [zak (by omega),Int.natCast_emod,Int.natCast_ediv,Int.natCast_pow];rfl
theorem zgP (A k:Nat)(h:k / 4=0):IntKind.i64.wrap (((A%0x10000000000000000 / 2^(16*(k%4))%65536:Nat)):Int)=((dgt A k:Nat):Int):=(uh _ _).trans (ug A k h)
theorem zgQ (A k:Nat)(h:k / 4=1):IntKind.i64.wrap (((A / 0x10000000000000000%0x10000000000000000 / 2^(16*(k%4))%65536:Nat)):Int)=((dgt A k:Nat):Int):=(uh _ _).trans (zgL A k h)
theorem zgR (A k:Nat)(h:k / 4=2):IntKind.i64.wrap (((A / 0x100000000000000000000000000000000%0x10000000000000000 / 2^(16*(k%4))%65536:Nat)):Int)=((dgt A k:Nat):Int):=(uh _ _).trans (zgM A k h)
theorem zgS (A k:Nat)(h:k / 4=3):IntKind.i64.wrap (((A / 0x1000000000000000000000000000000000000000000000000%0x10000000000000000 / 2^(16*(k%4))%65536:Nat)):Int)=((dgt A k:Nat):Int):=(uh _ _).trans (zgN A k h)
def wq (A q:Nat):Nat:=A / 0x10000000000000000^q%0x10000000000000000
theorem wq0 (A:Nat):wq A 0=A%0x10000000000000000:=by unfold wq;rw [Nat.pow_zero,Nat.div_one]
theorem zgT (A:Nat){q:Nat}(hq:q<4):(Value.cells (uv A))[0+q*1]? =some (.int .u64 ((wq A q:Nat):Int)):=by
 have h:q=0∨q=1∨q=2∨q=3:=by omega
 rcases h with rfl|rfl|rfl|rfl
 ·rw [wq0];exact kr
 ·exact kr
 ·exact kr
 ·exact kr
theorem zgU (A k:Nat)(hk:k<16):IntKind.i64.wrap ((wq A (k / 4) / 2^(16*(k%4))%65536:Nat):Int)=((dgt A k:Nat):Int):=by
 have h:k / 4=0∨k / 4=1∨k / 4=2∨k / 4=3:=by omega
 rcases h with h|h|h|h
 ·rw [h,wq0];exact zgP A k h
 ·rw [h];exact zgQ A k h
 ·rw [h];exact zgR A k h
 ·rw [h];exact zgS A k h
theorem vc (A:Nat)(hA:A<big):FnR Tryz.prog 77 #[uv A] (fun _=>True) (vK 3 1 (fun cur cap n l=>(n=List.length l∧Rw 1 cur cap n (zW l)∧Ok l∧(l=dgs A 16∧vl l=A∧List.length l=16)))):=by
 refine FnR.intro (c:=zk Tryz.f77) [.tmp 2] 25 Tryz.func77 kr kr kr fun w hpre=>?_;have H0:=St.start w;refine rS [.b,.v] H0 kr fun gs1 w1 H1=>rS [.nw (fun b=>.slice (some ⟨b,0,none⟩) 0 0) #[] 3,.v] H1 kr fun gs2 w2 H2=>zb kr<|rS [.v] H2 kr fun gs3 w3 H3=>zn 0 kr ?_;have HL:St w.heap.size w w3 [((gs1 0).b,Obj.cells (Value.cells (uv A)) 48 (0,0)),((gs2 0).b,Obj.cells #[] 3 (0,0))]:=H3.as kr;refine zG kr (fun mz ρ ww=> ∃(k b cap:Nat) (cur:Array Value),16-k=mz∧k≤16∧Rw 1 cur cap k (zW (dgs A k))∧St w.heap.size w ww [((gs1 0).b,Obj.cells (Value.cells (uv A)) 48 (0,0)),(b,Obj.cells cur 3 (0,0))]∧Is [(1,.pointer (some ⟨(gs1 0).b,0,none⟩)),(3,.slice (some ⟨b,0,none⟩) k cap),(4,.int .i64 (k:Int))] ρ) 16 ⟨0,(gs2 0).b,0,#[],rfl,by decide,Rw.lit #[] 0 (by rfl) (by unfold maxLen;omega),HL,Is.of ⟨kr,kr,kr,trivial⟩⟩ ?_;clear H0 H1 H2 H3 HL;rintro _ _ w4 ⟨k,b,cap,cur,rfl,hk,hr,H4,_,rfl⟩;refine zb kr ?_;by_cases h:k<16
 ·refine rS [.v,.E (.bool (decide ((k:Int)<16))) (.bool true) (za (decide_eq_true (by omega)))] H4 kr fun gs4 w5 H5=>zi kr kr<|zj kr<|wW<|zb kr<|zn 1 kr<|yq [0,1,2,3,4,5,6,7,8,9,10,11,12,13,14] kr ?_
  refine rp [.v,.v,.E (.int .i64 (IntKind.i64.wrap (Int.tdiv (k:Int) 4))) (.int .i64 ((k / 4:Nat):Int)) (zd (jj (a:=k) (b:=4) (by omega))),
   .o (ins:=[((.tmp 1),.pointer (some ⟨(gs1 0).b,0,none⟩)),((.tmp 12),.int .i64 ((k / 4:Nat):Int))]) (v:=.pointer (some ⟨(gs1 0).b,0+k / 4*1,none⟩)) (fun ρ o w ho hi=>yD (kd:=.i64) (t:=48) (n:=4) (size:=1) kr (x:=(.tmp 1)) (y:=(.tmp 12)) (gs1 0).b 0 (k / 4) ho hi.1 hi.2.1 (by omega) w),
   .ls 0 (C:=Value.cells (uv A)) (off:=0+k / 4*1) (v:=.int .u64 ((wq A (k / 4):Nat):Int)) (zgT A (by omega)),.v,
   .E (.int .i64 (Int.tmod (k:Int) 4)) (.int .i64 ((k%4:Nat):Int)) (zd (yL k 4)),
   .E (.int .i64 (IntKind.i64.wrap (16*((k%4:Nat):Int)))) (.int .i64 ((16*(k%4):Nat):Int)) (zd (qe (a:=16) (b:=k%4) (by omega))),
   .E (.int .u64 (IntKind.u64.wrap ((16*(k%4):Nat):Int))) (.int .u64 ((16*(k%4):Nat):Int)) (zd (jT (by omega))),
   .E (.int .u64 (Int.fdiv ((wq A (k / 4):Nat):Int) (2^(min (16*(k%4)) 64)))) (.int .u64 ((wq A (k / 4) / 2^(16*(k%4)):Nat):Int)) (zd (zb8 _ _ 64 (Nat.mod_lt _ (by decide)))),
   .E (.int .u64 (Int.tmod ((wq A (k / 4) / 2^(16*(k%4)):Nat):Int) 65536)) (.int .u64 ((wq A (k / 4) / 2^(16*(k%4))%65536:Nat):Int)) (zd (yL _ 65536)),
   .E (.int .i64 (IntKind.i64.wrap ((wq A (k / 4) / 2^(16*(k%4))%65536:Nat):Int))) (.int .i64 ((dgt A k:Nat):Int)) (zd (zgU A k h)),
   .nw (fun b=>.slice (some ⟨b,0,none⟩) 1 1) #[.int .i64 ((dgt A k:Nat):Int)] 3] H5 kr fun gs5 w6 H6=>?_
  refine wX [13,14]<|xz H6 (some 23) 107 3 1 8 (.tmp 10) (.tmp 22) 1 2 b ((gs5 12).b) k 1 cap 1 cur #[.int .i64 ((dgt A k:Nat):Int)] 3 (0,0) (zW (dgs A k)) ([.int .i64 ((dgt A k:Nat):Int)]) (fun b' cur'=>[((gs1 0).b,Obj.cells (Value.cells (uv A)) 48 (0,0)),(b',Obj.cells cur' 3 (0,0)),((gs5 12).b,Obj.cells #[.int .i64 ((dgt A k:Nat):Int)] 3 (0,0))]) kr kr kr kr kr hr kr kr (by rfl) (by rfl) (by intro u hu;rw [List.mem_singleton] at hu;subst hu;rfl) (by omega) (by unfold maxLen;omega) (fun _ _=>by kernel_rfl) ?_;intro b' cap' cur' w7 H7 hr';refine rp [.v] H7 kr fun gs7 w8 H8=>wX []<|zc<|wW<|rL [.v,.E (.int .i64 (IntKind.i64.wrap ((k:Int)+1))) (.int .i64 ((k+1:Nat):Int)) (zd (zq (a:=k) (b:=1) (by omega))),.v] H8 kr fun gs9 w9 H9=>?_;show ∃m,_∧_;have H10:St w.heap.size w w9 [((gs1 0).b,Obj.cells (Value.cells (uv A)) 48 (0,0)),(b',Obj.cells cur' 3 (0,0)),((gs5 12).b,Obj.cells #[.int .i64 ((dgt A k:Nat):Int)] 3 (0,0))]:=H9.as kr;exact ⟨_,(by omega:16-(k+1)<16-k),k+1,b',cap',cur',rfl,by omega,by rw [zcA,xY];exact hr',H10.sub ((List.nil_sublist _).cons_cons _ |>.cons_cons _),Is.of ⟨kr,kr,kr,trivial⟩⟩
 ·obtain rfl:k=16:=by omega
  refine rS [.v,.v] H4 kr fun gs4 w5 H5=>zh kr kr<|zy 0 kr<|wW<|rS [.v,.v] H5 kr fun gs6 w6 H6=>zm kr<|wV ?_;refine ⟨[.slice (some ⟨b,0,none⟩) 16 cap],(.tmp (.slice (some ⟨b,0,none⟩) 16 cap) kr .nil),H6.below,?_⟩;exact ⟨b,cap,_,_,dgs A 16,rfl,H6.ge 1 (o:=.cells cur 3 (0,0)) kr,H6.get 1 kr,by rw [zaE],hr,zgD A 16,rfl,zgO hA,zaE A 16⟩
theorem zgV (x y:List Nat)(ba nx ca bb ny cb:Nat)(curA curB:Array Value)(hnx:nx=List.length x)(hny:ny=List.length y)(hA:Rw 1 curA ca nx (zW x))(hB:Rw 1 curB cb ny (zW y))(hx:Ok x)(hy:Ok y)(lx:List.length x≤5000)(ly:List.length y≤5000):FnR Tryz.prog 80 #[.slice (some ⟨ba,0,none⟩) nx ca,.slice (some ⟨bb,0,none⟩) ny cb] (fun w=>w.heap[ba]? =some (.cells curA 3 (0,0))∧w.heap[bb]? =some (.cells curB 3 (0,0))) (vK 3 1 (fun cur cap n l=>(n=List.length l∧Rw 1 cur cap n (zW l)∧Ok l∧(vl l=vl x+vl y∧List.length l≤max (List.length x) (List.length y)+1∧max (List.length x) (List.length y)≤List.length l)))):=by
 subst hnx hny;refine FnR.intro (c:=zk Tryz.f80) [.tmp 4] 43 Tryz.func80 kr kr kr fun w hpre=>?_;have H0:=St.start w;refine rS [.v] H0 kr fun gs1 w1 H1=>?_;clear H0;refine rS [.nw (fun b=>.slice (some ⟨b,0,none⟩) 0 0) #[] 3,.v] H1 kr fun gs2 w2 H2=>?_;clear H1;refine rS [.v] H2 kr fun gs3 w3 H3=>?_;clear H2;refine zb kr<|rS [.v] H3 kr fun gs4 w4 H4=>?_;clear H3;refine zn 0 kr ?_;have HL1:St w.heap.size w w4 [((gs2 0).b,Obj.cells #[] 3 (0,0))]:=H4.as kr;clear H4;refine zG kr (fun mz ρ ww=> ∃(b:Nat) (cap:Nat) (n:Nat) (cur:Array Value) (l:List Nat) (k:Nat) (c:Nat),max (List.length x) (List.length y)+2-k=mz∧(n=List.length l)∧(Rw 1 cur cap n (zW l))∧(qv x y l k (c:Int))∧St w.heap.size w ww [(b,Obj.cells cur 3 (0,0))]∧Is [(0,.slice (some ⟨ba,0,none⟩) (List.length x) ca),(1,.slice (some ⟨bb,0,none⟩) (List.length y) cb),(4,.slice none 0 0),(5,.slice (some ⟨b,0,none⟩) n cap),(6,.int .i64 (c:Int)),(7,.int .i64 (k:Int))] ρ) (max (List.length x) (List.length y)+2-0) ⟨(gs2 0).b,0,0,#[],[],0,0,rfl,rfl,(Rw.lit #[] 0 rfl (by unfold maxLen;omega)),(qv.start x y),HL1,(Is.of ⟨kr,kr,kr,kr,kr,kr,trivial⟩)⟩ ?_;clear HL1;rintro _ _ w5 ⟨b,cap,n,cur,l,k,c,rfl,hn,hr,hS,H5,_,rfl⟩;have hc1:=hS.c1;have htop:=hS.top;have hxk:=uf hx k;have hyk:=uf hy k;have hlen:=hS.len;have hok:=hS.ok;refine zb kr<|zg [0,1,2,3,4,5,6,7,8,9,10,11,12,13] kr kr<|rp [.v,.v,.v] H5 kr fun gs6 w6 H6=>wX [3,4,5,6,7,8,9,10,11,12,13] ?_;clear H5;by_cases hc2:(k:Nat)<List.length x
 ·refine rp [.E (.bool (decide ((k:Int)<(List.length x:Int)))) (.bool true) (za (decide_eq_true (by omega))),.v,.n,.n,.n,.n,.v,.v,.n,.n,.v] H6 kr fun gs7 w7 H7=>wX [] ?_;clear H6;refine zc<|zx [0,1,4,5,6,7,23] fun ρ1=>?_;have HK3:=H7.keep;clear H7;refine zi kr kr<|zj kr<|wW<|zb kr<|zn 1 kr<|rS [.v,.v,.cp (pre:=fun w=>w.heap[ba]? =some (.cells curA 3 (0,0))) (qw x ba (List.length x) ca curA rfl hA (by omega) k (by omega)) [] (fun w hb hd=>((hb.block _ (zz hpre.1)).trans hpre.1)),.v,.v,.cp (pre:=fun w=>w.heap[bb]? =some (.cells curB 3 (0,0))) (qw y bb (List.length y) cb curB rfl hB (by omega) k (by omega)) [] (fun w hb hd=>((hb.block _ (zz hpre.2)).trans hpre.2)),.E (.int .i64 (IntKind.i64.wrap (((List.getD x k 0:Nat):Int)+((List.getD y k 0:Nat):Int)))) (.int .i64 (((List.getD x k 0)+(List.getD y k 0):Nat):Int)) (zd (zq (a:=List.getD x k 0) (b:=List.getD y k 0) (by omega))),.v,.E (.int .i64 (IntKind.i64.wrap ((((List.getD x k 0)+(List.getD y k 0):Nat):Int)+(c:Int)))) (.int .i64 ((((List.getD x k 0)+(List.getD y k 0))+c:Nat):Int)) (zd (zq (a:=(List.getD x k 0)+(List.getD y k 0)) (b:=c) (by omega))),.v] HK3 kr fun gs8 w8 H8=>?_;clear HK3;refine zg [0,1,2,3,4,5] kr kr<|rp [.v,.v,.E (.int .i64 (Int.tmod ((((List.getD x k 0)+(List.getD y k 0))+c:Nat):Int) 65536)) (.int .i64 (((((List.getD x k 0)+(List.getD y k 0))+c)%65536:Nat):Int)) (zd (yL (((List.getD x k 0)+(List.getD y k 0))+c) 65536)),.nw (fun b=>.slice (some ⟨b,0,none⟩) 1 1) #[.int .i64 (((((List.getD x k 0)+(List.getD y k 0))+c)%65536:Nat):Int)] 3] H8 kr fun gs9 w9 H9=>wX [4,5] ?_;clear H8;refine xz H9 (some 39) 107 3 1 8 (.tmp 35) (.tmp 38) 0 1 b ((gs9 3).b) n 1 cap 1 cur #[.int .i64 (((((List.getD x k 0)+(List.getD y k 0))+c)%65536:Nat):Int)] 3 (0,0) (zW l) ([.int .i64 (((((List.getD x k 0)+(List.getD y k 0))+c)%65536:Nat):Int)]) (fun b_1 cur_3=>[(b_1,Obj.cells cur_3 3 (0,0)),((gs9 3).b,Obj.cells #[.int .i64 (((((List.getD x k 0)+(List.getD y k 0))+c)%65536:Nat):Int)] 3 (0,0))]) kr kr kr kr kr hr kr kr (by rfl) (by rfl) (by intro u hu;simp at hu;first | exact hu.elim | (rcases hu with rfl | rfl | rfl | rfl<;>rfl) | (rcases hu with rfl | rfl<;>rfl) | (subst hu;rfl)) (by omega) (by unfold maxLen;omega) (fun _ _=>by kernel_rfl) ?_;intro b_1 cap_2 cur_3 w10 H10 hr_4;clear H9;refine rp [.v] H10 kr fun gs11 w11 H11=>wX [] ?_;clear H10;refine zc<|rL [.v,.E (.int .i64 (IntKind.i64.wrap (((((List.getD x k 0)+(List.getD y k 0))+c:Nat):Int).tdiv 65536))) (.int .i64 (((((List.getD x k 0)+(List.getD y k 0))+c) / 65536:Nat):Int)) (zd (jj (a:=((List.getD x k 0)+(List.getD y k 0))+c) (b:=65536) (by omega))),.v] H11 kr fun gs12 w12 H12=>?_;clear H11;refine wW<|zx [0,1,4,5,6,7,8,23] fun ρ2=>?_;have HK4:=H12.keep;clear H12;refine rL [.v,.E (.int .i64 (IntKind.i64.wrap ((k:Int)+1))) (.int .i64 ((k+1:Nat):Int)) (zd (zq (a:=k) (b:=1) (by omega))),.v] HK4 kr fun gs13 w13 H13=>?_;clear HK4;have HL5:St w.heap.size w w13 [(b_1,Obj.cells cur_3 3 (0,0)),((gs9 3).b,Obj.cells #[.int .i64 (((((List.getD x k 0)+(List.getD y k 0))+c)%65536:Nat):Int)] 3 (0,0))]:=H13.as kr;clear H13;have hS2:=hS.go hx hy (by omega);have HD6:St w.heap.size w w13 [(b_1,Obj.cells cur_3 3 (0,0))]:=HL5.sub (List.Sublist.cons_cons _ (List.Sublist.cons _ List.Sublist.slnil));show ∃m,_∧_;exact ⟨_,(by have:=hS2.top;omega),b_1,cap_2,n+1,cur_3,l++ [(List.getD x k 0+List.getD y k 0+c)%65536],k+1,(List.getD x k 0+List.getD y k 0+c) / 65536,rfl,(by rw [List.length_append,←hn];rfl),(by rw [xY];exact hr_4),hS2,HD6,(Is.of ⟨kr,kr,kr,kr,kr,kr,trivial⟩)⟩
 ·refine rp [.E (.bool (decide ((k:Int)<(List.length x:Int)))) (.bool false) (za (decide_eq_false (by omega))),.v,.v,.v,.v] H6 kr fun gs14 w14 H14=>wX [8,9,10,11,12,13] ?_;clear H6;by_cases hc7:(k:Nat)<List.length y
  ·refine rp [.E (.bool (decide ((k:Int)<(List.length y:Int)))) (.bool true) (za (decide_eq_true (by omega))),.v,.v,.n,.n,.v] H14 kr fun gs15 w15 H15=>wX [] ?_;clear H14;refine zc<|zx [0,1,4,5,6,7,23] fun ρ3=>?_;have HK8:=H15.keep;clear H15;refine zi kr kr<|zj kr<|wW<|zb kr<|zn 1 kr<|rS [.v,.v,.cp (pre:=fun w=>w.heap[ba]? =some (.cells curA 3 (0,0))) (qw x ba (List.length x) ca curA rfl hA (by omega) k (by omega)) [] (fun w hb hd=>((hb.block _ (zz hpre.1)).trans hpre.1)),.v,.v,.cp (pre:=fun w=>w.heap[bb]? =some (.cells curB 3 (0,0))) (qw y bb (List.length y) cb curB rfl hB (by omega) k (by omega)) [] (fun w hb hd=>((hb.block _ (zz hpre.2)).trans hpre.2)),.E (.int .i64 (IntKind.i64.wrap (((List.getD x k 0:Nat):Int)+((List.getD y k 0:Nat):Int)))) (.int .i64 (((List.getD x k 0)+(List.getD y k 0):Nat):Int)) (zd (zq (a:=List.getD x k 0) (b:=List.getD y k 0) (by omega))),.v,.E (.int .i64 (IntKind.i64.wrap ((((List.getD x k 0)+(List.getD y k 0):Nat):Int)+(c:Int)))) (.int .i64 ((((List.getD x k 0)+(List.getD y k 0))+c:Nat):Int)) (zd (zq (a:=(List.getD x k 0)+(List.getD y k 0)) (b:=c) (by omega))),.v] HK8 kr fun gs16 w16 H16=>?_;clear HK8;refine zg [0,1,2,3,4,5] kr kr<|rp [.v,.v,.E (.int .i64 (Int.tmod ((((List.getD x k 0)+(List.getD y k 0))+c:Nat):Int) 65536)) (.int .i64 (((((List.getD x k 0)+(List.getD y k 0))+c)%65536:Nat):Int)) (zd (yL (((List.getD x k 0)+(List.getD y k 0))+c) 65536)),.nw (fun b=>.slice (some ⟨b,0,none⟩) 1 1) #[.int .i64 (((((List.getD x k 0)+(List.getD y k 0))+c)%65536:Nat):Int)] 3] H16 kr fun gs17 w17 H17=>wX [4,5] ?_;clear H16;refine xz H17 (some 39) 107 3 1 8 (.tmp 35) (.tmp 38) 0 1 b ((gs17 3).b) n 1 cap 1 cur #[.int .i64 (((((List.getD x k 0)+(List.getD y k 0))+c)%65536:Nat):Int)] 3 (0,0) (zW l) ([.int .i64 (((((List.getD x k 0)+(List.getD y k 0))+c)%65536:Nat):Int)]) (fun b_5 cur_7=>[(b_5,Obj.cells cur_7 3 (0,0)),((gs17 3).b,Obj.cells #[.int .i64 (((((List.getD x k 0)+(List.getD y k 0))+c)%65536:Nat):Int)] 3 (0,0))]) kr kr kr kr kr hr kr kr (by rfl) (by rfl) (by intro u hu;simp at hu;first | exact hu.elim | (rcases hu with rfl | rfl | rfl | rfl<;>rfl) | (rcases hu with rfl | rfl<;>rfl) | (subst hu;rfl)) (by omega) (by unfold maxLen;omega) (fun _ _=>by kernel_rfl) ?_;intro b_5 cap_6 cur_7 w18 H18 hr_8;clear H17;refine rp [.v] H18 kr fun gs19 w19 H19=>wX [] ?_;clear H18;refine zc<|rL [.v,.E (.int .i64 (IntKind.i64.wrap (((((List.getD x k 0)+(List.getD y k 0))+c:Nat):Int).tdiv 65536))) (.int .i64 (((((List.getD x k 0)+(List.getD y k 0))+c) / 65536:Nat):Int)) (zd (jj (a:=((List.getD x k 0)+(List.getD y k 0))+c) (b:=65536) (by omega))),.v] H19 kr fun gs20 w20 H20=>?_;clear H19;refine wW<|zx [0,1,4,5,6,7,8,23] fun ρ4=>?_;have HK9:=H20.keep;clear H20;refine rL [.v,.E (.int .i64 (IntKind.i64.wrap ((k:Int)+1))) (.int .i64 ((k+1:Nat):Int)) (zd (zq (a:=k) (b:=1) (by omega))),.v] HK9 kr fun gs21 w21 H21=>?_;clear HK9;have HL10:St w.heap.size w w21 [(b_5,Obj.cells cur_7 3 (0,0)),((gs17 3).b,Obj.cells #[.int .i64 (((((List.getD x k 0)+(List.getD y k 0))+c)%65536:Nat):Int)] 3 (0,0))]:=H21.as kr;clear H21;have hS2:=hS.go hx hy (by omega);have HD11:St w.heap.size w w21 [(b_5,Obj.cells cur_7 3 (0,0))]:=HL10.sub (List.Sublist.cons_cons _ (List.Sublist.cons _ List.Sublist.slnil));show ∃m,_∧_;exact ⟨_,(by have:=hS2.top;omega),b_5,cap_6,n+1,cur_7,l++ [(List.getD x k 0+List.getD y k 0+c)%65536],k+1,(List.getD x k 0+List.getD y k 0+c) / 65536,rfl,(by rw [List.length_append,←hn];rfl),(by rw [xY];exact hr_8),hS2,HD11,(Is.of ⟨kr,kr,kr,kr,kr,kr,trivial⟩)⟩
  ·refine rp [.E (.bool (decide ((k:Int)<(List.length y:Int)))) (.bool false) (za (decide_eq_false (by omega))),.v,.v,.v] H14 kr fun gs22 w22 H22=>wX [12,13] ?_;clear H14;by_cases hc12:(c:Nat)>0
   ·refine rp [.E (.bool (decide (0<(c:Int)))) (.bool true) (za (decide_eq_true (by omega))),.v] H22 kr fun gs23 w23 H23=>wX [] ?_;clear H22;refine zc<|zx [0,1,4,5,6,7,23] fun ρ5=>?_;have HK13:=H23.keep;clear H23;refine zi kr kr<|zj kr<|wW<|zb kr<|zn 1 kr<|rS [.v,.v,.cp (pre:=fun w=>w.heap[ba]? =some (.cells curA 3 (0,0))) (qw x ba (List.length x) ca curA rfl hA (by omega) k (by omega)) [] (fun w hb hd=>((hb.block _ (zz hpre.1)).trans hpre.1)),.v,.v,.cp (pre:=fun w=>w.heap[bb]? =some (.cells curB 3 (0,0))) (qw y bb (List.length y) cb curB rfl hB (by omega) k (by omega)) [] (fun w hb hd=>((hb.block _ (zz hpre.2)).trans hpre.2)),.E (.int .i64 (IntKind.i64.wrap (((List.getD x k 0:Nat):Int)+((List.getD y k 0:Nat):Int)))) (.int .i64 (((List.getD x k 0)+(List.getD y k 0):Nat):Int)) (zd (zq (a:=List.getD x k 0) (b:=List.getD y k 0) (by omega))),.v,.E (.int .i64 (IntKind.i64.wrap ((((List.getD x k 0)+(List.getD y k 0):Nat):Int)+(c:Int)))) (.int .i64 ((((List.getD x k 0)+(List.getD y k 0))+c:Nat):Int)) (zd (zq (a:=(List.getD x k 0)+(List.getD y k 0)) (b:=c) (by omega))),.v] HK13 kr fun gs24 w24 H24=>?_;clear HK13;refine zg [0,1,2,3,4,5] kr kr<|rp [.v,.v,.E (.int .i64 (Int.tmod ((((List.getD x k 0)+(List.getD y k 0))+c:Nat):Int) 65536)) (.int .i64 (((((List.getD x k 0)+(List.getD y k 0))+c)%65536:Nat):Int)) (zd (yL (((List.getD x k 0)+(List.getD y k 0))+c) 65536)),.nw (fun b=>.slice (some ⟨b,0,none⟩) 1 1) #[.int .i64 (((((List.getD x k 0)+(List.getD y k 0))+c)%65536:Nat):Int)] 3] H24 kr fun gs25 w25 H25=>wX [4,5] ?_;clear H24;refine xz H25 (some 39) 107 3 1 8 (.tmp 35) (.tmp 38) 0 1 b ((gs25 3).b) n 1 cap 1 cur #[.int .i64 (((((List.getD x k 0)+(List.getD y k 0))+c)%65536:Nat):Int)] 3 (0,0) (zW l) ([.int .i64 (((((List.getD x k 0)+(List.getD y k 0))+c)%65536:Nat):Int)]) (fun b_9 cur_11=>[(b_9,Obj.cells cur_11 3 (0,0)),((gs25 3).b,Obj.cells #[.int .i64 (((((List.getD x k 0)+(List.getD y k 0))+c)%65536:Nat):Int)] 3 (0,0))]) kr kr kr kr kr hr kr kr (by rfl) (by rfl) (by intro u hu;simp at hu;first | exact hu.elim | (rcases hu with rfl | rfl | rfl | rfl<;>rfl) | (rcases hu with rfl | rfl<;>rfl) | (subst hu;rfl)) (by omega) (by unfold maxLen;omega) (fun _ _=>by kernel_rfl) ?_;intro b_9 cap_10 cur_11 w26 H26 hr_12;clear H25;refine rp [.v] H26 kr fun gs27 w27 H27=>wX [] ?_;clear H26;refine zc<|rL [.v,.E (.int .i64 (IntKind.i64.wrap (((((List.getD x k 0)+(List.getD y k 0))+c:Nat):Int).tdiv 65536))) (.int .i64 (((((List.getD x k 0)+(List.getD y k 0))+c) / 65536:Nat):Int)) (zd (jj (a:=((List.getD x k 0)+(List.getD y k 0))+c) (b:=65536) (by omega))),.v] H27 kr fun gs28 w28 H28=>?_;clear H27;refine wW<|zx [0,1,4,5,6,7,8,23] fun ρ6=>?_;have HK14:=H28.keep;clear H28;refine rL [.v,.E (.int .i64 (IntKind.i64.wrap ((k:Int)+1))) (.int .i64 ((k+1:Nat):Int)) (zd (zq (a:=k) (b:=1) (by omega))),.v] HK14 kr fun gs29 w29 H29=>?_;clear HK14;have HL15:St w.heap.size w w29 [(b_9,Obj.cells cur_11 3 (0,0)),((gs25 3).b,Obj.cells #[.int .i64 (((((List.getD x k 0)+(List.getD y k 0))+c)%65536:Nat):Int)] 3 (0,0))]:=H29.as kr;clear H29;have hS2:=hS.go hx hy (by omega);have HD16:St w.heap.size w w29 [(b_9,Obj.cells cur_11 3 (0,0))]:=HL15.sub (List.Sublist.cons_cons _ (List.Sublist.cons _ List.Sublist.slnil));show ∃m,_∧_;exact ⟨_,(by have:=hS2.top;omega),b_9,cap_10,n+1,cur_11,l++ [(List.getD x k 0+List.getD y k 0+c)%65536],k+1,(List.getD x k 0+List.getD y k 0+c) / 65536,rfl,(by rw [List.length_append,←hn];rfl),(by rw [xY];exact hr_12),hS2,HD16,(Is.of ⟨kr,kr,kr,kr,kr,kr,trivial⟩)⟩
   ·refine rp [.E (.bool (decide (0<(c:Int)))) (.bool false) (za (decide_eq_false (by omega))),.v] H22 kr fun gs30 w30 H30=>wX [] ?_;clear H22;refine zc<|zx [0,1,4,5,6,7,23] fun ρ7=>?_;have HK17:=H30.keep;clear H30;refine zh kr kr<|zy 0 kr<|wW<|rS [.v,.v] HK17 kr fun gs31 w31 H31=>?_;clear HK17;refine zm kr<|wV ?_;refine ⟨[.slice (some ⟨b,0,none⟩) n cap],(.tmp (.slice (some ⟨b,0,none⟩) n cap) kr .nil),H31.below,?_⟩;exact ⟨b,cap,_,_,l,rfl,H31.ge 0 (o:=.cells cur 3 (0,0)) kr,H31.get 0 kr,hn,hr,hok,hS.done (by omega) (by omega) (by omega),by omega,by omega⟩
theorem zcJ (x y:List Nat)(ba nx ca bb ny cb:Nat)(curA curB:Array Value)(hnx:nx=List.length x)(hny:ny=List.length y)(hA:Rw 1 curA ca nx (zW x))(hB:Rw 1 curB cb ny (zW y))(hx:Ok x)(hy:Ok y)(lx:List.length x≤5000)(ly:List.length y≤5000):FnP Tryz.prog 79 #[.slice (some ⟨ba,0,none⟩) nx ca,.slice (some ⟨bb,0,none⟩) ny cb] (fun w=>w.heap[ba]? =some (.cells curA 3 (0,0))∧w.heap[bb]? =some (.cells curB 3 (0,0))) (.bool (ls x y)):=by
 subst hnx hny;refine FnP.intro (c:=zk Tryz.f79) [.tmp 4] 35 Tryz.func79 kr kr kr fun w hpre=>?_;have H0:=St.start w;refine rS [.v] H0 kr fun gs1 w1 H1=>?_;clear H0;refine rS [.v,.v,.v] H1 kr fun gs2 w2 H2=>?_;clear H1;refine zb kr<|zg [0,1,2,3] kr kr<|rp [.v,.v,.v] H2 kr fun gs3 w3 H3=>wX [3] ?_;clear H2;by_cases hc1:(List.length y:Nat)>List.length x
 ·refine rp [.E (.bool (decide ((List.length x:Int)<(List.length y:Int)))) (.bool true) (za (decide_eq_true (by omega)))] H3 kr fun gs4 w4 H4=>wX [] ?_;clear H3;refine zc<|zi kr kr<|rL [.v,.v,.v] H4 kr fun gs5 w5 H5=>?_;clear H4;refine wW<|zb kr<|rS [.v,.E (.int .i64 (IntKind.i64.wrap ((List.length y:Int)-1))) (.int .i64 ((List.length y:Int)-1)) (zd (wrap_i64 (by omega) (by omega))),.v] H5 kr fun gs6 w6 H6=>?_;clear H5;refine zn 0 kr ?_;have HL2:St w.heap.size w w6 []:=H6.as kr;clear H6;refine zG kr (fun mz ρ ww=> ∃(j:Nat),j=mz∧(j≤5000)∧(jf x y ((j:Int)-1))∧St w.heap.size w ww []∧Is [(0,.slice (some ⟨ba,0,none⟩) (List.length x) ca),(1,.slice (some ⟨bb,0,none⟩) (List.length y) cb),(5,.int .i64 (List.length y:Int)),(6,.int .i64 ((j:Int)-1)),(12,.bool true)] ρ) (List.length y) ⟨List.length y,rfl,(by omega),(jf.start x y _ (by omega) (by omega)),HL2,(Is.of ⟨kr,kr,kr,kr,kr,trivial⟩)⟩ ?_;clear HL2;rintro _ _ w7 ⟨j,rfl,hj,hs,H7,_,rfl⟩;refine zb kr<|zg [0,1] kr kr<|rp [.v] H7 kr fun gs8 w8 H8=>wX [1] ?_;clear H7;by_cases hc3:((j:Int)-1:Int)≥0
  ·refine rp [.E (.bool (decide (0≤(j:Int)-1))) (.bool true) (za (decide_eq_true (by omega)))] H8 kr fun gs9 w9 H9=>wX [] ?_;clear H8;refine zc<|zi kr kr<|zj kr<|wW<|zb kr<|zn 1 kr<|zg [0,1,2,3,4,5,6] kr kr<|rp [.v] H9 kr fun gs10 w10 H10=>wX [1,2,3,4,5,6] ?_;clear H9;refine zP 6 (v:=.int .i64 ((j:Int)-1)) (v':=.int .i64 ((j-1:Nat):Int)) (zd (show ((j:Int)-1)=((j-1:Nat):Int) from by omega)) kr<|zP 17 (v:=.int .i64 ((j:Int)-1)) (v':=.int .i64 ((j-1:Nat):Int)) (zd (show ((j:Int)-1)=((j-1:Nat):Int) from by omega)) kr<|rp [.v,.cp (pre:=fun w=>w.heap[ba]? =some (.cells curA 3 (0,0))) (qw x ba (List.length x) ca curA rfl hA (by omega) (j-1) (by omega)) [] (fun w hb hd=>((hb.block _ (zz hpre.1)).trans hpre.1)),.v,.v,.cp (pre:=fun w=>w.heap[bb]? =some (.cells curB 3 (0,0))) (qw y bb (List.length y) cb curB rfl hB (by omega) (j-1) (by omega)) [] (fun w hb hd=>((hb.block _ (zz hpre.2)).trans hpre.2))] H10 kr fun gs11 w11 H11=>wX [6] ?_;clear H10;by_cases hc4:(List.getD x (j-1) 0:Nat)≠List.getD y (j-1) 0
   ·refine rp [.E (.bool (!(((List.getD x (j-1) 0:Nat):Int)==((List.getD y (j-1) 0:Nat):Int)))) (.bool true) (za (by rw [beq_eq_false_iff_ne.2 (by omega)];rfl))] H11 kr fun gs12 w12 H12=>wX [] ?_;clear H11;refine zc<|zx [0,1,5,6,12,18,27] fun ρ1=>?_;have HK5:=H12.keep;clear H12;refine zi kr kr<|rS [.v,.v,.cp (pre:=fun w=>w.heap[ba]? =some (.cells curA 3 (0,0))) (qw x ba (List.length x) ca curA rfl hA (by omega) (j-1) (by omega)) [] (fun w hb hd=>((hb.block _ (zz hpre.1)).trans hpre.1)),.v,.v,.cp (pre:=fun w=>w.heap[bb]? =some (.cells curB 3 (0,0))) (qw y bb (List.length y) cb curB rfl hB (by omega) (j-1) (by omega)) [] (fun w hb hd=>((hb.block _ (zz hpre.2)).trans hpre.2)),.E (.bool (decide (((List.getD x (j-1) 0:Nat):Int)<((List.getD y (j-1) 0:Nat):Int)))) (.bool (ls x y)) (za (zcH hx hy (j-1) (fun t ht=>hs t (by omega)) (by unfold dAt;omega))),.v] HK5 kr fun gs13 w13 H13=>?_;clear HK5;refine zm kr<|wV ?_;refine ⟨[.bool (ls x y)],(.tmp (.bool (ls x y)) kr .nil),?_,H13.below⟩;rfl
   ·refine rp [.E (.bool (!(((List.getD x (j-1) 0:Nat):Int)==((List.getD y (j-1) 0:Nat):Int)))) (.bool false) (za (by rw [beq_iff_eq.2 (by omega)];rfl))] H11 kr fun gs14 w14 H14=>wX [] ?_;clear H11;refine zc<|zx [0,1,5,6,12,18,27] fun ρ2=>?_;have HK6:=H14.keep;clear H14;refine zh kr kr<|zj kr<|wW<|rL [.v,.E (.int .i64 (IntKind.i64.wrap (((j-1:Nat):Int)-1))) (.int .i64 (((j-1:Nat):Int)-1)) (zd (wrap_i64 (by omega) (by omega))),.v] HK6 kr fun gs15 w15 H15=>?_;clear HK6;have HL7:St w.heap.size w w15 []:=H15.as kr;clear H15;show ∃m,_∧_;exact ⟨_,(by omega),(j-1),rfl,(by omega),(jf.down (j:=j-1) (fun t ht=>hs t (by omega)) (by unfold dAt;omega)),HL7,(Is.of ⟨kr,kr,kr,kr,kr,trivial⟩)⟩
  ·refine rp [.E (.bool (decide (0≤(j:Int)-1))) (.bool false) (za (decide_eq_false (by omega)))] H8 kr fun gs16 w16 H16=>wX [] ?_;clear H8;refine zc<|zh kr kr<|zy 0 kr<|wW<|rS [.v] H16 kr fun gs17 w17 H17=>?_;clear H16;refine zm kr<|wV ?_;refine ⟨[.bool false],(.tmp (.bool false) kr .nil),?_,H17.below⟩;exact congrArg Value.bool (zcI (x:=x) (y:=y) fun t=>hs t (by omega)).symm
 ·refine rp [.E (.bool (decide ((List.length x:Int)<(List.length y:Int)))) (.bool false) (za (decide_eq_false (by omega)))] H3 kr fun gs18 w18 H18=>wX [] ?_;clear H3;refine zc<|zh kr kr<|zj kr<|wW<|zb kr<|rS [.v,.E (.int .i64 (IntKind.i64.wrap ((List.length x:Int)-1))) (.int .i64 ((List.length x:Int)-1)) (zd (wrap_i64 (by omega) (by omega))),.v] H18 kr fun gs19 w19 H19=>?_;clear H18;refine zn 0 kr ?_;have HL8:St w.heap.size w w19 []:=H19.as kr;clear H19;refine zG kr (fun mz ρ ww=> ∃(j:Nat),j=mz∧(j≤5000)∧(jf x y ((j:Int)-1))∧St w.heap.size w ww []∧Is [(0,.slice (some ⟨ba,0,none⟩) (List.length x) ca),(1,.slice (some ⟨bb,0,none⟩) (List.length y) cb),(5,.int .i64 (List.length x:Int)),(6,.int .i64 ((j:Int)-1)),(12,.bool false)] ρ) (List.length x) ⟨List.length x,rfl,(by omega),(jf.start x y _ (by omega) (by omega)),HL8,(Is.of ⟨kr,kr,kr,kr,kr,trivial⟩)⟩ ?_;clear HL8;rintro _ _ w20 ⟨j,rfl,hj,hs,H20,_,rfl⟩;refine zb kr<|zg [0,1] kr kr<|rp [.v] H20 kr fun gs21 w21 H21=>wX [1] ?_;clear H20;by_cases hc9:((j:Int)-1:Int)≥0
  ·refine rp [.E (.bool (decide (0≤(j:Int)-1))) (.bool true) (za (decide_eq_true (by omega)))] H21 kr fun gs22 w22 H22=>wX [] ?_;clear H21;refine zc<|zi kr kr<|zj kr<|wW<|zb kr<|zn 1 kr<|zg [0,1,2,3,4,5,6] kr kr<|rp [.v] H22 kr fun gs23 w23 H23=>wX [1,2,3,4,5,6] ?_;clear H22;refine zP 6 (v:=.int .i64 ((j:Int)-1)) (v':=.int .i64 ((j-1:Nat):Int)) (zd (show ((j:Int)-1)=((j-1:Nat):Int) from by omega)) kr<|zP 17 (v:=.int .i64 ((j:Int)-1)) (v':=.int .i64 ((j-1:Nat):Int)) (zd (show ((j:Int)-1)=((j-1:Nat):Int) from by omega)) kr<|rp [.v,.cp (pre:=fun w=>w.heap[ba]? =some (.cells curA 3 (0,0))) (qw x ba (List.length x) ca curA rfl hA (by omega) (j-1) (by omega)) [] (fun w hb hd=>((hb.block _ (zz hpre.1)).trans hpre.1)),.v,.v,.cp (pre:=fun w=>w.heap[bb]? =some (.cells curB 3 (0,0))) (qw y bb (List.length y) cb curB rfl hB (by omega) (j-1) (by omega)) [] (fun w hb hd=>((hb.block _ (zz hpre.2)).trans hpre.2))] H23 kr fun gs24 w24 H24=>wX [6] ?_;clear H23;by_cases hc10:(List.getD x (j-1) 0:Nat)≠List.getD y (j-1) 0
   ·refine rp [.E (.bool (!(((List.getD x (j-1) 0:Nat):Int)==((List.getD y (j-1) 0:Nat):Int)))) (.bool true) (za (by rw [beq_eq_false_iff_ne.2 (by omega)];rfl))] H24 kr fun gs25 w25 H25=>wX [] ?_;clear H24;refine zc<|zx [0,1,5,6,12,18,27] fun ρ3=>?_;have HK11:=H25.keep;clear H25;refine zi kr kr<|rS [.v,.v,.cp (pre:=fun w=>w.heap[ba]? =some (.cells curA 3 (0,0))) (qw x ba (List.length x) ca curA rfl hA (by omega) (j-1) (by omega)) [] (fun w hb hd=>((hb.block _ (zz hpre.1)).trans hpre.1)),.v,.v,.cp (pre:=fun w=>w.heap[bb]? =some (.cells curB 3 (0,0))) (qw y bb (List.length y) cb curB rfl hB (by omega) (j-1) (by omega)) [] (fun w hb hd=>((hb.block _ (zz hpre.2)).trans hpre.2)),.E (.bool (decide (((List.getD x (j-1) 0:Nat):Int)<((List.getD y (j-1) 0:Nat):Int)))) (.bool (ls x y)) (za (zcH hx hy (j-1) (fun t ht=>hs t (by omega)) (by unfold dAt;omega))),.v] HK11 kr fun gs26 w26 H26=>?_;clear HK11;refine zm kr<|wV ?_;refine ⟨[.bool (ls x y)],(.tmp (.bool (ls x y)) kr .nil),?_,H26.below⟩;rfl
   ·refine rp [.E (.bool (!(((List.getD x (j-1) 0:Nat):Int)==((List.getD y (j-1) 0:Nat):Int)))) (.bool false) (za (by rw [beq_iff_eq.2 (by omega)];rfl))] H24 kr fun gs27 w27 H27=>wX [] ?_;clear H24;refine zc<|zx [0,1,5,6,12,18,27] fun ρ4=>?_;have HK12:=H27.keep;clear H27;refine zh kr kr<|zj kr<|wW<|rL [.v,.E (.int .i64 (IntKind.i64.wrap (((j-1:Nat):Int)-1))) (.int .i64 (((j-1:Nat):Int)-1)) (zd (wrap_i64 (by omega) (by omega))),.v] HK12 kr fun gs28 w28 H28=>?_;clear HK12;have HL13:St w.heap.size w w28 []:=H28.as kr;clear H28;show ∃m,_∧_;exact ⟨_,(by omega),(j-1),rfl,(by omega),(jf.down (j:=j-1) (fun t ht=>hs t (by omega)) (by unfold dAt;omega)),HL13,(Is.of ⟨kr,kr,kr,kr,kr,trivial⟩)⟩
  ·refine rp [.E (.bool (decide (0≤(j:Int)-1))) (.bool false) (za (decide_eq_false (by omega)))] H21 kr fun gs29 w29 H29=>wX [] ?_;clear H21;refine zc<|zh kr kr<|zy 0 kr<|wW<|rS [.v] H29 kr fun gs30 w30 H30=>?_;clear H29;refine zm kr<|wV ?_;refine ⟨[.bool false],(.tmp (.bool false) kr .nil),?_,H30.below⟩;exact congrArg Value.bool (zcI (x:=x) (y:=y) fun t=>hs t (by omega)).symm
theorem zcK:Fn Tryz.prog 78 #[.int .i64 1] (uv NR):=by
 refine Fn.intro (c:=zk Tryz.f78) [.cell 2 48] 7 Tryz.func78 kr kr kr fun w=>?_;have H0:=St.start w;refine rS [.a] H0 kr fun gs1 w1 H1=>?_;clear H0;refine zb kr<|rS [.v,.v] H1 kr fun gs2 w2 H2=>?_;clear H1;refine zh kr kr<|zj kr<|wW<|rS [.v,.s 0] H2 kr fun gs3 w3 H3=>?_;clear H2;refine zm kr<|wV ?_;refine ⟨[.agg #[.int .u64 0xbfd25e8cd0364141,.int .u64 0xbaaedce6af48a03b,.int .u64 0xfffffffffffffffe,.int .u64 0xffffffffffffffff]],(.agg (b:=(gs1 0).b) #[.int .u64 0xbfd25e8cd0364141,.int .u64 0xbaaedce6af48a03b,.int .u64 0xfffffffffffffffe,.int .u64 0xffffffffffffffff] 48 (0,0) kr (H3.get 0 kr) kr .nil),?_,H3.below⟩
 kernel_rfl
@[reducible] def wu0 (n:Nat):Int:=w0 n
@[reducible] def wu1 (n:Nat):Int:=w1 n
@[reducible] def wu2 (n:Nat):Int:=w2 n
@[reducible] def wu3 (n:Nat):Int:=w3 n
def pv (p:Ec.Pd):Value:=.agg #[.int .u64 (w0 p.X),.int .u64 (w1 p.X),.int .u64 (w2 p.X),.int .u64 (w3 p.X),.int .u64 (w0 p.Y),.int .u64 (w1 p.Y),.int .u64 (w2 p.Y),.int .u64 (w3 p.Y),.bool p.b]
section
variable {P:Program}{N:Nat}{ops:Array Oper}{i:Nat}{r:List Nat}{K:Env→World→Prop}{ρ:Env}{w:World}{B:Nat}{w0:World}{l:List (Nat×Obj)}
end
namespace D2
section
variable {P:Program}{ops:Array Oper}{R:(Nat→Gh)→Env}{i:Nat}{d:Option Nat}
variable {E:(Nat→Bool)→(Nat→Gh)→List Ent}{F:(Nat→Bool)→(Nat→Gh)→Prop}{B:Nat}{w0:World}
end
end D2
end Go.Proofs.YtbpmjppmpgeejaaGreatDoor
namespace Go.Proofs.YtbpmjppmpgeejaaGreatDoor
open Go Go.ChangeShapes Go.WideShapes Go.ChangeAt Go.RowKit
set_option linter.unusedVariables false
set_option maxRecDepth 100000
theorem zgW:Tryz.prog.cellsOf 22=1:=kr
theorem zgX:Tryz.prog.cellsOf 48=4:=kr
theorem ui {x:Int}(h:(Lit.int .u64 x).wf=true):Wd x:=by
 have hmin:IntKind.u64.min=0:=rfl;have hmax:IntKind.u64.max=0xffffffffffffffff:=rfl;simp only [Lit.wf,Bool.and_eq_true,decide_eq_true_eq] at h;unfold Wd;omega
theorem zgY {α:Type}(l:List α)(h:(⟨l⟩:Array α).size=9):∃a b c d e f g i j,l=[a,b,c,d,e,f,g,i,j]:=by
 match l,h with
 | [a,b,c,d,e,f,g,i,j],_=>exact ⟨a,b,c,d,e,f,g,i,j,rfl⟩
theorem zcL {H:Type}{enc:TypeId×Value→H}{W:World}{b0:Nat}{sp:Nat→Bool}{held:Bool}{x:DataW H×List MemPlace}{fuel:Nat}{c0 c1 c2 c3:Value}
 (hf:DataW.trod enc Tryz.prog W b0 sp held fuel 48 [c0,c1,c2,c3]=some x):∃n:Nat,n<big∧c0=.int .u64 (w0 n)∧c1=.int .u64 (w1 n)∧c2=.int .u64 (w2 n)∧c3=.int .u64 (w3 n):=by
 obtain ⟨y0,y1,y2,y3,m,hx,hy0,hy1,hy2,hy3⟩:=trod_array4 Tryz.underlying48 zgW hf;obtain ⟨x0,e0,rfl,w0⟩:=DataW.trod_int Tryz.underlying22 hy0;obtain ⟨x1,e1,rfl,w1⟩:=DataW.trod_int Tryz.underlying22 hy1;obtain ⟨x2,e2,rfl,w2⟩:=DataW.trod_int Tryz.underlying22 hy2;obtain ⟨x3,e3,rfl,w3⟩:=DataW.trod_int Tryz.underlying22 hy3;simp at e0 e1 e2 e3;subst e0 e1 e2 e3;obtain ⟨n,hn,g0,g1,g2,g3⟩:=zf8 (ui w0) (ui w1) (ui w2) (ui w3);exact ⟨n,hn,by rw [g0],by rw [g1],by rw [g2],by rw [g3]⟩
end Go.Proofs.YtbpmjppmpgeejaaGreatDoor
namespace Go.Proofs.YtbpmjppmpgeejaaGreatDoor
open Go Go.RowKit
set_option linter.unusedVariables false
inductive Fo
 | nil
 | cons (l:Bool) (s:ByteArray) (k r:Fo)
def Fo.len:Fo→Nat
 | .nil=>0
 | .cons _ _ _ r=>r.len+1
def Fo.cnt:Fo→Nat
 | .nil=>0
 | .cons _ _ k r=>1+k.cnt+r.cnt
def qx (B:Nat)(w:World):Fo→Nat→Nat→Prop
 | .nil,_,_=>True
 | .cons l s k r,b,off=>(∃(C:Array Value) (T:TypeId) (fz:Nat×Nat) (p:Option Addr) (n c:Nat),b<B∧w.heap[b]? =some (.cells C T fz)∧off+3≤C.size∧
  C.extract off (off+3)=#[.bool l,.string s,.slice p n c]∧s.size≤0x800000000000∧n=k.len∧n≤0x800000000000∧(k=.nil∨∃b' off',p=some ⟨b',off',none⟩∧qx B w k b' off'))∧qx B w r b (off+3)
def zp (B:Nat)(w:World)(p:Option Addr)(n:Nat)(k:Fo):Prop:=n=k.len∧n≤0x800000000000∧(k=.nil∨∃b off,p=some ⟨b,off,none⟩∧qx B w k b off)
def FoR (B:Nat)(w:World)(p:Option Addr)(i:Nat)(r:Fo):Prop:=r=.nil∨∃b off,p=some ⟨b,off,none⟩∧qx B w r b (off+i*3)
theorem qx.up {B B':Nat}{w w':World}(hb:Below B w w')(hB:B≤B'): ∀ {k:Fo} {b off:Nat},qx B w k b off→qx B' w' k b off
 | .nil,_,_,_=>trivial
 | .cons l s k r,b,off,⟨⟨C,T,fz,p,n,c,h1,h2,h3,h4,h5,h6,h7,h8⟩,h9⟩=>
  ⟨⟨C,T,fz,p,n,c,Nat.lt_of_lt_of_le h1 hB,by rw [hb.block b h1];exact h2,h3,h4,h5,h6,h7,h8.imp id fun ⟨b',o',e,h⟩=>⟨b',o',e,qx.up hb hB h⟩⟩,qx.up hb hB h9⟩
theorem zp.up {B B':Nat}{w w':World}{p:Option Addr}{n:Nat}{k:Fo}(h:zp B w p n k)(hb:Below B w w')(hB:B≤B'):zp B' w' p n k:=
 ⟨h.1,h.2.1,h.2.2.imp id fun ⟨b,o,e,h⟩=>⟨b,o,e,h.up hb hB⟩⟩
theorem zp.call {w0 w:World}{p:Option Addr}{n:Nat}{k:Fo}(h:zp w0.heap.size w0 p n k)(hb:Below w0.heap.size w0 w):zp w.heap.size w p n k:=h.up hb hb.size
theorem zp.start {B:Nat}{w:World}{p:Option Addr}{n:Nat}{k:Fo}(h:zp B w p n k):FoR B w p 0 k:=
 h.2.2.imp id fun ⟨b,o,e,h⟩=>⟨b,o,e,by rw [Nat.zero_mul,Nat.add_zero];exact h⟩
theorem FoR.open {B:Nat}{w:World}{p:Option Addr}{i n:Nat}{r:Fo}(h:FoR B w p i r)(hn:i+r.len=n)(hi:i<n):
 ∃l s k r' b off C T fz p' n' c',r=.cons l s k r'∧p=some ⟨b,off,none⟩∧b<B∧w.heap[b]? =some (.cells C T fz)∧off+i*3+3≤C.size∧
  C.extract (off+i*3) (off+i*3+3)=#[.bool l,.string s,.slice p' n' c']∧s.size≤0x800000000000∧zp B w p' n' k∧FoR B w p (i+1) r'∧i+1+r'.len=n:=by
 cases r with
 | nil=>simp only [Fo.len] at hn;omega
 | cons l s k r'=>
  rcases h with h|⟨b,off,e,⟨C,T,fz,p',n',c',h1,h2,h3,h4,h5,h6,h7,h8⟩,h9⟩
  ·cases h
  ·refine ⟨l,s,k,r',b,off,C,T,fz,p',n',c',rfl,e,h1,h2,h3,h4,h5,⟨h6,h7,h8⟩,.inr ⟨b,off,e,?_⟩,?_⟩
   ·rw [show off+(i+1)*3=off+i*3+3 by omega];exact h9
   ·simp only [Fo.len] at hn;omega
theorem FoR.done {i n:Nat}{r:Fo}(hn:i+r.len=n)(hi: ¬i<n):r=.nil:=by
 cases r with
 | nil=>rfl
 | cons l s k r'=>simp only [Fo.len] at hn;omega
theorem jm {P:Program}{ρ:Env}{t e:TypeId}{bytes:Nat}(ht:yl P t=some (e,3,bytes)){x y:Operand}{o:Oper}{kd:IntKind}{p:Option Addr}(b q n c k:Nat)(hp:p=some ⟨b,q,none⟩)(ho:o.op=.indexAddr t x y)(hx:ev ρ x=.slice p n c)(hy:ev ρ y=.int kd (k:Int))(hk:k<n):
 ∀w,(execOp (ev ρ) o).run P w=.ok (.value (.pointer (some ⟨b,q+k*3,none⟩))) w:=by
 subst hp;exact jc ht b q n c k ho hx hy hk
def dgI:Nat→Nat→List UInt8
 | 0,_=>[]
 | m+1,n=>if n=0 then [] else dgI m (n / 256)++ [UInt8.ofNat n]
def dg (n:Nat):List UInt8:=dgI 8 n
def hd (f n:Nat):List UInt8:=if n≤55 then [UInt8.ofNat (f+n)] else UInt8.ofNat (f+55+(dg n).length)::dg n
def frm (l:Bool):Nat:=if l then 192 else 128
def qh (s:ByteArray):Bool:=decide (s.size=1)&&decide (by_ s 0<128)
def zD (l:Bool)(s:ByteArray)(n:Nat):Bool:=if l then decide (s.size≠0) else decide (n≠0)
def wr1 (l:Bool)(s:ByteArray)(m:Nat)(ks:List UInt8):List UInt8:=(if qh s then [] else hd (frm l) (s.size+m))++(tl s++ks)
def sz1 (l:Bool)(s:ByteArray)(m:Nat):Nat:=if qh s then 1 else (hd (frm l) (s.size+m)).length+(s.size+m)
def szF:Fo→Nat
 | .nil=>0
 | .cons l s k r=>sz1 l s (szF k)+szF r
def wrF:Fo→List UInt8
 | .nil=>[]
 | .cons l s k r=>wr1 l s (szF k) (wrF k)++wrF r
def dp1 (l:Bool)(d:Nat):Nat:=if l then 1+d else 0
def dpF:Fo→Nat
 | .nil=>0
 | .cons l s k r=>max (dp1 l (dpF k)) (dpF r)
def pureF:Fo→Bool
 | .nil=>true
 | .cons l s k r=>(!zD l s k.len&&pureF k)&&pureF r
def lf1 (l:Bool)(s:ByteArray)(k:Nat)(f:Nat→Option Nat)(room:Nat):Option Nat:=if room=0∨zD l s k=true then none else f (room-1)
def lfF:Fo→Nat→Option Nat
 | .nil,room=>some room
 | .cons l s k r,room=>(lf1 l s k.len (lfF k) room).bind (lfF r)
def lfV:Option Nat→Int
 | none=> -1
 | some q=>(q:Int)
theorem jX: ∀(k:Fo) (room:Nat),lfF k room=if pureF k=true∧k.cnt≤room then some (room-k.cnt) else none
 | .nil,room=>by simp [lfF,pureF,Fo.cnt]
 | .cons l s k r,room=>by
  have h1:=jX k (room-1);have e1:pureF (.cons l s k r)=((!zD l s k.len&&pureF k)&&pureF r):=rfl;have e2:(Fo.cons l s k r).cnt=1+k.cnt+r.cnt:=rfl;rw [show lfF (.cons l s k r) room=(lf1 l s k.len (lfF k) room).bind (lfF r) from rfl];unfold lf1;by_cases hr:room=0
  ·subst hr;rw [if_pos (Or.inl rfl),if_neg (by rw [e2];omega)];rfl
  ·cases hm:zD l s k.len with
   | true=>rw [if_pos (Or.inr rfl),if_neg (by rw [e1,hm];simp)];rfl
   | false=>
    rw [if_neg (by simp [hr]),h1];cases hp:pureF k with
    | false=>rw [if_neg (by simp),if_neg (by rw [e1,hp];simp)];rfl
    | true=>
     by_cases hc:k.cnt≤room-1
     ·rw [if_pos ⟨rfl,hc⟩,Option.bind_some,jX r];cases hq:pureF r with
      | false=>rw [if_neg (by simp),if_neg (by rw [e1,hq];simp)]
      | true=>
       by_cases hd:r.cnt≤room-1-k.cnt
       ·rw [if_pos ⟨rfl,hd⟩,if_pos ⟨by rw [e1,hm,hp,hq];rfl,by rw [e2];omega⟩,e2];congr 1;omega
       ·rw [if_neg (by simp [hd]),if_neg (by rw [e2];rintro ⟨_,h⟩;omega)]
     ·rw [if_neg (by simp [hc]),if_neg (by rw [e2];rintro ⟨_,h⟩;omega)];rfl
theorem zgZ {k:Fo}{room q:Nat}(h:lfF k room=some q):q≤room:=by
 rw [jX] at h;split at h
 ·injection h with h;omega
 ·cases h
theorem zcM: ∀m n,(dgI m n).length≤m
 | 0,_=>Nat.le_refl _
 | m+1,n=>by unfold dgI;split;·simp
             ·simp;exact zcM m _
theorem qF (n:Nat):(dg n).length≤8:=zcM 8 n
theorem jC (f n:Nat):1≤(hd f n).length∧(hd f n).length≤9:=by
 unfold hd;have:=qF n;split<;>simp<;>omega
theorem uj (l:Bool)(s:ByteArray)(m:Nat):sz1 l s m≤9+(s.size+m):=by
 unfold sz1;have:=jC (frm l) (s.size+m);split<;>omega
theorem vd {s:ByteArray}(h:qh s=true):s.size=1:=by
 unfold qh at h;simp only [Bool.and_eq_true,decide_eq_true_eq] at h;exact h.1
theorem zg0 (l:Bool)(s:ByteArray)(m:Nat):1≤sz1 l s m:=by
 unfold sz1;have:=jC (frm l) (s.size+m);split<;>omega
theorem uk {s:ByteArray}(h: ¬s=⟨#[]⟩):s.size≠0:=fun e=>h (by
 obtain ⟨d⟩:=s;have:d.size=0:=e
 rw [Array.eq_empty_of_size_eq_zero this])
theorem zg1 {l:Bool}{s:ByteArray}{n:Nat}{k:Fo}{room q:Nat}(h:lf1 l s n (lfF k) room=some q):q≤room:=by
 unfold lf1 at h;split at h
 ·cases h
 ·have:=zgZ h;omega
theorem zg2 {l:Bool}{s:ByteArray}{n:Nat}{f:Nat→Option Nat}{room:Nat}(h:room=0):lfV (lf1 l s n f room)= -1:=by unfold lf1;rw [if_pos (Or.inl h)];rfl
theorem zg3 {l:Bool}{s:ByteArray}{n:Nat}{f:Nat→Option Nat}{room:Nat}(h:zD l s n=true):lfV (lf1 l s n f room)= -1:=by unfold lf1;rw [if_pos (Or.inr h)];rfl
theorem zcN {l:Bool}{s:ByteArray}{n:Nat}{f:Nat→Option Nat}{room:Nat}(h0:room≠0)(h:zD l s n=false):lf1 l s n f room=f (room-1):=by unfold lf1;rw [if_neg (by simp [h0,h])]
theorem zg4 {l:Bool}{s:ByteArray}{n:Nat}{k r:Fo}{q y:Nat}(hn:n=k.len)(h:lf1 l s n (lfF k) q=some y):lfF (.cons l s k r) q=lfF r y:=by
 subst hn;show (lf1 l s k.len (lfF k) q).bind (lfF r)=_;rw [h];rfl
theorem zg5 {l:Bool}{s:ByteArray}{n:Nat}{k r:Fo}{q:Nat}(hn:n=k.len)(h:lf1 l s n (lfF k) q=none):lfV (lfF (.cons l s k r) q)= -1:=by
 subst hn;show lfV ((lf1 l s k.len (lfF k) q).bind (lfF r))=_;rw [h];rfl
theorem zg6 {a:Nat}(h:a<0x10000000000000000):Int.fdiv (a:Int) (2^0)=(a:Int):=by rw [Int.pow_zero,Int.fdiv_one]
def wtF:Fo→Nat
 | .nil=>0
 | .cons l s k r=>9+s.size+wtF k+wtF r
theorem xG: ∀k:Fo,szF k≤wtF k
 | .nil=>Nat.le_refl _
 | .cons l s k r=>by
  have h1:=xG k;have h2:=xG r;have h3:=uj l s (szF k);simp only [szF,wtF];omega
theorem qx.wt {B:Nat}{w:World} : ∀ {k:Fo} {b off:Nat},qx B w k b off→wtF k≤k.cnt*0x800000000009
 | .nil,_,_,_=>Nat.zero_le _
 | .cons l s k r,b,off,⟨⟨C,T,fz,p,n,c,h1,h2,h3,h4,h5,h6,h7,h8⟩,h9⟩=>by
  have hr:=qx.wt h9;have hk:wtF k≤k.cnt*0x800000000009:=by
   rcases h8 with rfl|⟨b',o',e,h⟩
   ·exact Nat.zero_le _
   ·exact qx.wt h
  simp only [wtF,Fo.cnt];omega
theorem zp.wt {B:Nat}{w:World}{p:Option Addr}{n:Nat}{k:Fo}(h:zp B w p n k):wtF k≤k.cnt*0x800000000009:=by
 rcases h.2.2 with rfl|⟨b,o,e,h⟩
 ·exact Nat.zero_le _
 ·exact h.wt
theorem zcO {f:Nat}(b:BitVec 8)(hb:b.toNat=f)(n:Nat)(h:n≤55)(hf:f≤192):strOfNums [(BitVec.toNat (b+BitVec.ofNat 8 n):Int)]=zf (hd f n):=by
 unfold hd;rw [if_pos h];show (⟨#[UInt8.ofNat (Int.toNat _)]⟩:ByteArray)=⟨#[UInt8.ofNat (f+n)]⟩
 rw [Int.toNat_natCast,BitVec.toNat_add,BitVec.toNat_ofNat,hb];rw [show (f+n%2^8)%2^8=f+n by omega]
theorem zcP {f:Nat}(b:BitVec 8)(hb:b.toNat=f+55)(n:Nat)(h: ¬n≤55)(hf:f≤192):strOfNums [(BitVec.toNat (b+BitVec.ofNat 8 (ByteArray.size (zf (dg n)))):Int)]++zf (dg n)=zf (hd f n):=by
 have hl:=qF n;have e:UInt8.ofNat (Int.toNat (BitVec.toNat (b+BitVec.ofNat 8 (ByteArray.size (zf (dg n)))):Int))=UInt8.ofNat (f+55+(dg n).length):=by
  rw [Int.toNat_natCast,BitVec.toNat_add,BitVec.toNat_ofNat,hb,qf];rw [show (f+55+(dg n).length%2^8)%2^8=f+55+(dg n).length by omega]
 apply kV;rw [ke];show [UInt8.ofNat _]++dg n=hd f n;unfold hd;rw [if_neg h,e];rfl
theorem vf: ∀k:Fo,(wrF k).length≤wtF k
 | .nil=>Nat.le_refl _
 | .cons l s k r=>by
  have h1:=vf k;have h2:=vf r;simp only [wrF,wtF,wr1,List.length_append,yn];split
  ·simp only [List.length_nil];omega
  ·have:=jC (frm l) (s.size+szF k);omega
theorem zaI: ∀ {k:Fo},pureF k=true→wtF k≤szF k+9*k.cnt
 | .nil,_=>Nat.zero_le _
 | .cons l s k r,h=>by
  simp only [pureF,Bool.and_eq_true,Bool.not_eq_true'] at h;have h1:=zaI h.1.2;have h2:=zaI h.2;simp only [wtF,szF,Fo.cnt,sz1];split
  ·rename_i hs
   have hz:=vd hs;have hk:k=.nil:=by
    have hm:=h.1.1;unfold zD at hm;cases l with
    | true=>simp [hz] at hm
    | false=>
     cases k with
     | nil=>rfl
     | cons=>simp [Fo.len] at hm
   subst hk;simp only [wtF,Fo.cnt];omega
  ·have:=jC (frm l) (s.size+szF k);omega
theorem zcQ {α:Type}(x:Option α):x=none∨∃y,x=some y:=by cases x with
 | none=>exact .inl rfl
 | some y=>exact .inr ⟨y,rfl⟩
theorem ul: ∀k:Fo,dpF k≤k.cnt
 | .nil=>Nat.le_refl _
 | .cons l s k r=>by
  have h1:=ul k;have h2:=ul r;simp only [dpF,Fo.cnt,dp1];split<;>omega
theorem zcR (t:ByteArray)(h:t.size≠0):(t.extract 1 t.size).size=t.size-1:=by simp
theorem zg7 (t:ByteArray):tl (t.extract 1 t.size)=(tl t).drop 1:=by
 rw [zam,List.take_of_length_le (by rw [yn];exact Nat.le_refl _)]
theorem zcS {t:ByteArray}(h:t.size≠0):∃l,tl t=UInt8.ofNat (by_ t 0)::l:=by
 have hl:(tl t).length≠0:=by rw [yn];exact h
 unfold by_;cases e:tl t with
 | nil=>rw [e] at hl;simp at hl
 | cons x l=>exact ⟨l,by simp⟩
theorem zg8 (t:ByteArray)(h:t.size≠0)(h0:by_ t 0=0):(tl (t.extract 1 t.size)).dropWhile (·==0)=(tl t).dropWhile (·==0):=by
 obtain ⟨l,e⟩:=zcS h;rw [zg7,e,h0];rfl
theorem zaJ {t:ByteArray}(h:t=⟨#[]⟩):zf ((tl t).dropWhile (·==0))=t:=by subst h;rfl
theorem zcT (t:ByteArray)(h:t.size=0∨by_ t 0≠0):zf ((tl t).dropWhile (·==0))=t:=by
 rcases h with h|h
 ·exact zaJ (Decidable.not_not.1 fun q=>uk q h)
 ·by_cases h2:t.size=0
  ·exact zaJ (Decidable.not_not.1 fun q=>uk q h2)
  ·obtain ⟨l,e⟩:=zcS h2;have hb:=zan t 0;have hne:(UInt8.ofNat (by_ t 0)==0)=false:=by
    rw [beq_eq_false_iff_ne];intro q;have:=congrArg UInt8.toNat q;rw [UInt8.toNat_ofNat_of_lt' (by simpa using hb)] at this;exact h this
   rw [e,List.dropWhile_cons,hne];show zf (UInt8.ofNat (by_ t 0)::l)=t;rw [←e];exact xD t
theorem zcU: ∀ {l:List UInt8},(∀x∈l,(x==0)=true)→l.dropWhile (·==0)=[]
 | [],_=>rfl
 | x::l,h=>by rw [List.dropWhile_cons,if_pos (h x (List.mem_cons_self ..))];exact zcU fun y hy=>h y (List.mem_cons_of_mem _ hy)
def beI:Nat→Nat→List UInt8
 | 0,_=>[]
 | m+1,n=>beI m (n / 256)++ [UInt8.ofNat n]
theorem zaK: ∀m,(beI m 0).dropWhile (·==0)=[]∧ ∀x∈beI m 0,(x==0)=true
 | 0=>⟨rfl,fun _ h=>nomatch h⟩
 | m+1=>by
  have h:=(zaK m).2;have h2: ∀x∈beI (m+1) 0,(x==0)=true:=by
   intro x hx;simp only [beI,Nat.zero_div,List.mem_append,List.mem_singleton] at hx;rcases hx with hx | rfl
   ·exact h x hx
   ·rfl
  exact ⟨zcU h2,h2⟩
theorem zg9 (m:Nat):dgI m 0=[]:=by cases m<;>rfl
theorem drop_append {l r:List UInt8}(h:l.dropWhile (·==0)≠[]):(l++r).dropWhile (·==0)=l.dropWhile (·==0)++r:=by
 induction l with
 | nil=>exact absurd rfl h
 | cons x l ih=>
  rw [List.cons_append,List.dropWhile_cons,List.dropWhile_cons];split
  ·rename_i hx;rw [List.dropWhile_cons,if_pos hx] at h;exact ih h
  ·rfl
theorem zcV: ∀m n,n<256^m→(beI m n).dropWhile (·==0)=dgI m n
 | 0,n,h=>rfl
 | m+1,n,h=>by
  have hlt:n / 256<256^m:=by rw [Nat.pow_succ] at h;omega
  have ih:=zcV m (n / 256) hlt;unfold dgI;split
  ·rename_i h0;subst h0;exact (zaK (m+1)).1
  ·rename_i h0
   show (beI m (n / 256)++ [UInt8.ofNat n]).dropWhile (·==0)=_;by_cases hq:n / 256=0
   ·rw [hq,zg9,List.dropWhile_append,(zaK m).1];have hx:(UInt8.ofNat n==0)=false:=by
     rw [beq_eq_false_iff_ne];intro q;have:=congrArg UInt8.toNat q;rw [UInt8.toNat_ofNat_of_lt' (by simp only [UInt8.size];omega)] at this;exact h0 this
    simp [hx]
   ·rw [drop_append,ih];rw [ih];intro q;cases m with
    | zero=>simp at hlt;omega
    | succ m=>unfold dgI at q;rw [if_neg hq] at q;simp at q
def dgB (n d:Nat):BitVec 8:=BitVec.ofNat 8 (n / d)
theorem jY (n d:Nat):Value.int .u8 (IntKind.u8.wrap (((n / d:Nat):Int)))=.int .u8 (BitVec.toNat (dgB n d):Int):=jU (n / d)
theorem zha (n:Nat):Value.int .u8 (IntKind.u8.wrap ((n:Int)))=.int .u8 (BitVec.toNat (dgB n 1):Int):=by
 have h:=jY n 1;rw [Nat.div_one] at h;exact h
theorem zhb (n d:Nat):UInt8.ofNat (Int.toNat (BitVec.toNat (dgB n d):Int))=UInt8.ofNat (n / d):=by
 rw [Int.toNat_natCast];apply UInt8.toNat_inj.1;rw [UInt8.toNat_ofNat',UInt8.toNat_ofNat'];unfold dgB;rw [BitVec.toNat_ofNat];omega
theorem zhc (n:Nat):tl (strOfNums [(BitVec.toNat (dgB n 72057594037927936):Int),(BitVec.toNat (dgB n 281474976710656):Int),(BitVec.toNat (dgB n 1099511627776):Int),(BitVec.toNat (dgB n 4294967296):Int),(BitVec.toNat (dgB n 16777216):Int),(BitVec.toNat (dgB n 65536):Int),(BitVec.toNat (dgB n 256):Int),(BitVec.toNat (dgB n 1):Int)])=beI 8 n:=by
 unfold tl;rw [strOfNums_data];simp only [List.map_cons,List.map_nil,zhb,beI,List.nil_append,List.append_assoc,List.cons_append,Nat.div_div_eq_div_mul,Nat.div_one]
theorem zhd (n:Nat)(h:n<0x10000000000000000):(tl (strOfNums [(BitVec.toNat (dgB n 72057594037927936):Int),(BitVec.toNat (dgB n 281474976710656):Int),(BitVec.toNat (dgB n 1099511627776):Int),(BitVec.toNat (dgB n 4294967296):Int),(BitVec.toNat (dgB n 16777216):Int),(BitVec.toNat (dgB n 65536):Int),(BitVec.toNat (dgB n 256):Int),(BitVec.toNat (dgB n 1):Int)])).dropWhile (·==0)=dg n:=by
 rw [zhc];exact zcV 8 n h
def zM (l:Bool)(s:ByteArray)(n:Nat)(k:Fo):ByteArray×Nat:=
 match lf1 l s n (lfF k) 4000 with
 | none=>(⟨#[]⟩,1)
 | some _=>if 8<dp1 l (dpF k) then (⟨#[]⟩,5) else if 4000<sz1 l s (szF k) then (⟨#[]⟩,2) else (zf (wr1 l s (szF k) (wrF k)),0)
def kj (x:ByteArray×Nat):Value:=.tuple #[.string x.1,.int .i64 ((x.2:Nat):Int)]
section
variable {l:Bool}{s:ByteArray}{n y:Nat}{k:Fo}
theorem zhe (h:lf1 l s n (lfF k) 4000=none):kj (zM l s n k)=.tuple #[.string ⟨#[]⟩,.int .i64 1]:=by unfold zM;rw [h];rfl
theorem zhf (h:lf1 l s n (lfF k) 4000=some y)(hd:8<dp1 l (dpF k)):kj (zM l s n k)=.tuple #[.string ⟨#[]⟩,.int .i64 5]:=by unfold zM;rw [h];simp only [];rw [if_pos hd];rfl
theorem zhg (h:lf1 l s n (lfF k) 4000=some y)(hd: ¬8<dp1 l (dpF k))(hz:4000<sz1 l s (szF k)):kj (zM l s n k)=.tuple #[.string ⟨#[]⟩,.int .i64 2]:=by unfold zM;rw [h];simp only [];rw [if_neg hd,if_pos hz];rfl
theorem zhh (h:lf1 l s n (lfF k) 4000=some y)(hd: ¬8<dp1 l (dpF k))(hz: ¬4000<sz1 l s (szF k)):kj (zM l s n k)=.tuple #[.string (zf (wr1 l s (szF k) (wrF k))),.int .i64 0]:=by unfold zM;rw [h];simp only [];rw [if_neg hd,if_neg hz];rfl
theorem zcW {room:Nat}(h:lf1 l s n (lfF k) room=some y):zD l s n=false∧pureF k=true∧k.cnt<room:=by
 unfold lf1 at h;split at h
 ·cases h
 ·rename_i h0
  rw [jX] at h;split at h
  ·rename_i h1
   refine ⟨?_,h1.1,by omega⟩;cases hm:zD l s n with
   | true=>exact absurd (.inr hm) h0
   | false=>rfl
  ·cases h
theorem zcX (hm:zD l s n=false)(h:qh s=true):n=0:=by
 have hz:=vd h;unfold zD at hm;cases l with
 | true=>simp [hz] at hm
 | false=>simpa using hm
theorem len_zero {k:Fo}(h:k.len=0):k=.nil:=by cases k with
 | nil=>rfl
 | cons=>simp [Fo.len] at h
theorem vg (hm:zD l s k.len=false)(hk:(wrF k).length=szF k):(wr1 l s (szF k) (wrF k)).length=sz1 l s (szF k):=by
 unfold wr1 sz1;rw [List.length_append,List.length_append,yn,hk];split
 ·rename_i h
  have:=len_zero (zcX hm h);subst this;have hz:=vd h;simp only [szF,List.length_nil];omega
 ·omega
theorem xH: ∀ {k:Fo},pureF k=true→(wrF k).length=szF k
 | .nil,_=>rfl
 | .cons l s k r,h=>by
  simp only [pureF,Bool.and_eq_true,Bool.not_eq_true'] at h;simp only [wrF,szF,List.length_append];rw [vg h.1.1 (xH h.1.2),xH h.2]
theorem zcY (hm:zD l s n=false)(hp:pureF k=true)(hn:n=k.len):0<(wr1 l s (szF k) (wrF k)).length∧(wr1 l s (szF k) (wrF k)).length≤sz1 l s (szF k):=by
 subst hn;rw [vg hm (xH hp)];exact ⟨zg0 l s (szF k),Nat.le_refl _⟩
theorem zhi (hm:zD l s n=false)(hp:pureF k=true)(hz:sz1 l s (szF k)≤4000)(hn:n=k.len):s.size+wtF k≤4000+9*k.cnt:=by
 have h1:=zaI hp;unfold sz1 at hz;split at hz
 ·rename_i h
  have h2:=zcX hm h;have:=len_zero (hn▸h2);subst this;have:=vd h;simp only [wtF];omega
 ·omega
end
theorem zcZ {s:ByteArray}{n:Nat}{b:Bool}(h:decide (s.size≠0)=b):b=zD true s n:=h.symm
theorem zc0 {s:ByteArray}{n:Nat}{b:Bool}(h:decide (n≠0)=b):b=zD false s n:=h.symm
end Go.Proofs.YtbpmjppmpgeejaaGreatDoor
