/-
  Texts of the proof,part 2.
-/
import Derived.Lib.UnsafeStr
import Derived.Lib.AppendZeros
import Derived.Lib.Overlaps
import Derived.Scope
import Derived.Deep.Upon
import Derived.Test.YtpghmdbjmigjlaaGreatDoorRows
import Derived.ChangeArms
import Derived.ChangeSlices
import Derived.OpenShut
import Derived.Deep.Strs
import Derived.DataReads
import Derived.ProofKit
import Derived.WalkKit
import Derived.Below
import Derived.KernelRfl
import Derived.Test.YtpghmdbjmigjlaaGreatDoorProg
import Derived.Handy
import Derived.WalkLawsBesides
import Derived.Shelf.Spec.BitsCarry
import Derived.Shelf.Bits.Mul64
import Derived.Laws.Bits64b
import Derived.Lib.BitFns
import Derived.Shelf.Strconv.Itoa0
import Derived.Lib.Hide
import Derived.Laws.StructEq
import Derived.ChangeKeysEq
import Derived.Test.YtpghmdbjmigjlaaGreatDoorChecked
import Derived.Laws.IdiomArrays
import Derived.Test.YtpghmdbjmigjlaaGreatDoorMO1
set_option maxRecDepth 100000
set_option maxHeartbeats 4000000
namespace Go.Proofs.YtpghmdbjmigjlaaGreatDoor
open Go Go.RowKit
set_option linter.unusedVariables false
def zdb (l:List ByteArray):List Value:=l.map Value.string
theorem zkj (l:List ByteArray)(i:Nat)(hi:i<l.length):(zdb l)[i]? =some (.string (l.getD i .empty)):=by
 unfold zdb;simp [hi]
theorem toList_eq (s:ByteArray):s.toList=tl s:=ByteArray.toList_eq s
theorem qD (a b:ByteArray)(h:a=b):(a.toList==b.toList)=true:=by subst h;exact zj5 a
theorem qW (a b:ByteArray)(h: ¬a=b):(a.toList==b.toList)=false:=by
 rw [beq_eq_false_iff_ne];intro e;rw [toList_eq,toList_eq] at e;exact h (by rw [←uN a,e,uN])
theorem jj {a b:ByteArray}(h:tl a=tl b):a=b:=by rw [←uN a,h,uN]
section
variable {P:Program}{N:Nat}{ops:Array Oper}{i:Nat}{r:List Nat}{K:Env→World→Prop}{ρ:Env}{w:World}{B:Nat}{w0:World}{l:List (Nat×Obj)}
def uO (t t':TypeId)(x y:Operand):Op:=.call { callee:=.builtin .unsafeString,args:=#[x,y],argTypes:=#[t,t'] }
theorem zkk {b:Nat}{C:Array Value}{T:TypeId}(HS:St B w0 w [(b,.cells C T (0,0))])(d:Option Nat)(t t' e:TypeId)(x y:Operand)(n cap:Nat)(xs:List UInt8)
 (h:opk ops i ρ=some (d,true,uO t t' x y)) (hd:dOK d N=true) (ht:P.underlying t=some (.pointer e)) (hc:P.cellsOf e=1) (hT:T=e)
 (hx:ev ρ x=.pointer (some ⟨b,0,none⟩)) (hy:ev ρ y=.int .i64 (n:Int)) (hr:Rw 1 C cap n (cellsB xs)) (h0:0<n) (hm:n≤0x7fffffffffffffff)
 (kk: ∀w',St B w0 w' []→WPs P N ops K r (zm ρ d (.string (zf xs))) w'):WPs P N ops K (i::r) ρ w:=by
 obtain ⟨o,ho,rfl,hw,hop⟩:=zH h;subst hT;have hb:=HS.get 0 rfl;have hB:=HS.ge 0 rfl;have hlen:xs.length=n:=by have:=hr.len;rw [qh] at this;omega
 have hsz:=hr.sz;have hle:=hr.le
 have hrun:=Lib.run_unsafeString_row (P:=P) w t t' o.type T ht hc b C.size (by unfold World.shape?;rw [hb]) xs (by intro e;subst e;simp at hlen;omega) (by omega) (by omega) (fun j u hj=>by
  have hjl:j<xs.length:=(List.getElem?_eq_some_iff.1 hj).1;have h2:=hr.get j (by omega);rw [qn,Nat.zero_add];have h3:(cellsB xs)[j]? =some (.int .u8 (u.toNat:Int)):=by unfold cellsB;rw [List.getElem?_map,hj];rfl
  simp [World.cell?,hb,h2,h3])
 rw [hlen] at hrun;refine WPo.run ho hw fun a ha=>?_;have hex:(execOp (ev ρ) o).run P w=.ok (.value (.string (zf xs))) (w.freeze ⟨b,0,none⟩ n):=by
  unfold execOp;simp only [hop,uO,resolve,invoke,builtin,Sem.run_bind,Sem.run_pure,Result.andThen_ok,List.map_toArray,List.map_cons,List.map_nil,hx,hy,hrun];rfl
 rw [hex,Oper.upon_value];have hbel:=Lib.below_freeze HS.below (p:=⟨b,0,none⟩) hB n;refine ⟨_,ha.put _ (zM hd) _,kk _ ⟨hbel,Nat.le_trans HS.le ?_,(fun e he=>nomatch he),List.nodup_nil⟩⟩;unfold World.freeze;split<;>simp
theorem zkl {t e:TypeId}{size bytes:Nat}(ht:yd P t=some (e,size,bytes)){x y:Operand}{o:Oper}{kd:IntKind}(a:Addr)(n c k:Nat)(ho:o.op=.slice t x none (some y) none)(hx:ev ρ x=.slice (some a) n c)(hy:ev ρ y=.int kd (k:Int))(hk:k≤c):
 ∀w,(execOp (ev ρ) o).run P w=.ok (.value (.slice (some a) k c)) w:=fun w=>by
 obtain ⟨it,z,hu,hi,hz,hsz,hby,hzs,h0⟩:=yW ht;have hS:(sizeOf e).run P w=.ok size w:=by simp [sizeOf,typeInfo,hi,hsz]
 have ha:a.add 0=a:=rfl;unfold execOp;simp [ho,hx,hy,Instr.sliceAt,Instr.slice,Instr.sliceBounds,Instr.sliceBound,asIntOf,run_underlying hu,hS,hk,ha]
end
inductive Fr (α:Type)
 | nil
 | cons (a:α) (k r:Fr α)
structure Sh (α:Type) where
 K:Nat
 hd:α→List Value
 ok:α→Prop
 mx:Nat
 len: ∀a,(hd a).length+1=K
 one: ∀a,∀u∈hd a,u.oneCell'=true
section
variable {α:Type}{S:Sh α}
def Fr.len:Fr α→Nat
 | .nil=>0
 | .cons _ _ r=>r.len+1
def Fr.at:Fr α→Nat→Option (α×Fr α)
 | .nil,_=>none
 | .cons a k _,0=>some (a,k)
 | .cons _ _ r,i+1=>r.at i
theorem Fr.at_none: ∀ {k:Fr α} {i:Nat},k.len≤i→k.at i=none
 | .nil,_,_=>rfl
 | .cons _ _ r,0,h=>by simp only [Fr.len] at h;omega
 | .cons _ _ r,i+1,h=>Fr.at_none (k:=r) (by simp only [Fr.len] at h;omega)
def qE (S:Sh α)(B:Nat)(w:World):Fr α→Nat→Nat→Prop
 | .nil,_,_=>True
 | .cons a k r,b,off=>(∃(C:Array Value) (T:TypeId) (fz:Nat×Nat) (p:Option Addr) (n c:Nat),b<B∧w.heap[b]? =some (.cells C T fz)∧off+S.K≤C.size∧
  C.extract off (off+S.K)=(S.hd a++ [Value.slice p n c]).toArray∧S.ok a∧n=k.len∧n≤S.mx∧(k=.nil∨∃b' off',p=some ⟨b',off',none⟩∧qE S B w k b' off'))∧qE S B w r b (off+S.K)
def SlR (S:Sh α)(B:Nat)(w:World)(p:Option Addr)(n:Nat)(k:Fr α):Prop:=n=k.len∧n≤S.mx∧(k=.nil∨∃b off,p=some ⟨b,off,none⟩∧qE S B w k b off)
def FrR (S:Sh α)(B:Nat)(w:World)(p:Option Addr)(i:Nat)(r:Fr α):Prop:=r=.nil∨∃b off,p=some ⟨b,off,none⟩∧qE S B w r b (off+i*S.K)
theorem qE.up {B B':Nat}{w w':World}(hb:Below B w w')(hB:B≤B'): ∀ {k:Fr α} {b off:Nat},qE S B w k b off→qE S B' w' k b off
 | .nil,_,_,_=>trivial
 | .cons a k r,b,off,⟨⟨C,T,fz,p,n,c,h1,h2,h3,h4,h5,h6,h7,h8⟩,h9⟩=>
  ⟨⟨C,T,fz,p,n,c,Nat.lt_of_lt_of_le h1 hB,by rw [hb.block b h1];exact h2,h3,h4,h5,h6,h7,h8.imp id fun ⟨b',o',e,h⟩=>⟨b',o',e,qE.up hb hB h⟩⟩,qE.up hb hB h9⟩
theorem SlR.up {B B':Nat}{w w':World}{p:Option Addr}{n:Nat}{k:Fr α}(h:SlR S B w p n k)(hb:Below B w w')(hB:B≤B'):SlR S B' w' p n k:=
 ⟨h.1,h.2.1,h.2.2.imp id fun ⟨b,o,e,h⟩=>⟨b,o,e,h.up hb hB⟩⟩
theorem SlR.call {w0 w:World}{p:Option Addr}{n:Nat}{k:Fr α}(h:SlR S w0.heap.size w0 p n k)(hb:Below w0.heap.size w0 w):SlR S w.heap.size w p n k:=h.up hb hb.size
theorem SlR.nil (B:Nat)(w:World)(p:Option Addr):SlR S B w p 0 .nil:=⟨rfl,by omega,.inl rfl⟩
theorem SlR.start {B:Nat}{w:World}{p:Option Addr}{n:Nat}{k:Fr α}(h:SlR S B w p n k):FrR S B w p 0 k:=
 h.2.2.imp id fun ⟨b,o,e,h⟩=>⟨b,o,e,by rw [Nat.zero_mul,Nat.add_zero];exact h⟩
theorem FrR.open {B:Nat}{w:World}{p:Option Addr}{i n:Nat}{r:Fr α}(h:FrR S B w p i r)(hn:i+r.len=n)(hi:i<n):
 ∃a k r' b off C T fz p' n' c',r=.cons a k r'∧p=some ⟨b,off,none⟩∧b<B∧w.heap[b]? =some (.cells C T fz)∧off+i*S.K+S.K≤C.size∧
  C.extract (off+i*S.K) (off+i*S.K+S.K)=(S.hd a++ [Value.slice p' n' c']).toArray∧S.ok a∧SlR S B w p' n' k∧FrR S B w p (i+1) r'∧i+1+r'.len=n:=by
 cases r with
 | nil=>simp only [Fr.len] at hn;omega
 | cons a k r'=>
  rcases h with h|⟨b,off,e,⟨C,T,fz,p',n',c',h1,h2,h3,h4,h5,h6,h7,h8⟩,h9⟩
  ·cases h
  ·refine ⟨a,k,r',b,off,C,T,fz,p',n',c',rfl,e,h1,h2,h3,h4,h5,⟨h6,h7,h8⟩,.inr ⟨b,off,e,?_⟩,?_⟩
   ·rw [show off+(i+1)*S.K=off+i*S.K+S.K by rw [Nat.succ_mul];omega];exact h9
   ·simp only [Fr.len] at hn;omega
theorem FrR.done {i n:Nat}{r:Fr α}(hn:i+r.len=n)(hi: ¬i<n):r=.nil:=by
 cases r with
 | nil=>rfl
 | cons a k r'=>simp only [Fr.len] at hn;omega
theorem qE.at {B:Nat}{w:World} : ∀ {k:Fr α} {b off i:Nat} {a:α} {q:Fr α},qE S B w k b off→k.at i=some (a,q)→∃C T fz p n c,b<B∧w.heap[b]? =some (.cells C T fz)∧off+i*S.K+S.K≤C.size∧
 C.extract (off+i*S.K) (off+i*S.K+S.K)=(S.hd a++ [Value.slice p n c]).toArray∧S.ok a∧SlR S B w p n q
 | .cons a0 k0 r,b,off,0,a,q,⟨⟨C,T,fz,p,n,c,h1,h2,h3,h4,h5,h6,h7,h8⟩,h9⟩,hi=>by
  obtain ⟨rfl,rfl⟩:a0=a∧k0=q:=by simp only [Fr.at,Option.some.injEq,Prod.mk.injEq] at hi;exact hi
  rw [Nat.zero_mul,Nat.add_zero];exact ⟨C,T,fz,p,n,c,h1,h2,h3,h4,h5,h6,h7,h8⟩
 | .cons a0 k0 r,b,off,i+1,a,q,⟨_,h9⟩,hi=>by
  obtain ⟨C,T,fz,p,n,c,h⟩:=qE.at h9 hi;rw [show off+S.K+i*S.K=off+(i+1)*S.K by rw [Nat.succ_mul];omega] at h;exact ⟨C,T,fz,p,n,c,h⟩
theorem Fr.at_some: ∀ {k:Fr α} {i:Nat},i<k.len→∃a q,k.at i=some (a,q)
 | .cons a k r,0,_=>⟨a,k,rfl⟩
 | .cons a k r,i+1,h=>Fr.at_some (k:=r) (by simp only [Fr.len] at h;omega)
def LyR (S:Sh α)(T:List (Nat×Obj)):Fr α→Nat→Nat→Prop
 | .nil,_,_=>True
 | .cons a k r,b,off=>(∃(C:Array Value) (ty:TypeId) (fz:Nat×Nat) (p:Option Addr) (n c:Nat),(b,Obj.cells C ty fz)∈T∧off+S.K≤C.size∧
  C.extract off (off+S.K)=(S.hd a++ [Value.slice p n c]).toArray∧S.ok a∧n=k.len∧n≤S.mx∧(k=.nil∨∃b' off',p=some ⟨b',off',none⟩∧LyR S T k b' off'))∧LyR S T r b (off+S.K)
def RIn (S:Sh α)(T:List (Nat×Obj))(p:Option Addr)(n:Nat)(k:Fr α):Prop:=n=k.len∧n≤S.mx∧(k=.nil∨∃b off,p=some ⟨b,off,none⟩∧LyR S T k b off)
theorem LyR.mono {T T':List (Nat×Obj)}(h: ∀e∈T,e∈T'): ∀ {k:Fr α} {b off:Nat},LyR S T k b off→LyR S T' k b off
 | .nil,_,_,_=>trivial
 | .cons a k r,b,off,⟨⟨C,ty,fz,p,n,c,h1,h2,h3,h4,h5,h6,h7⟩,h8⟩=>⟨⟨C,ty,fz,p,n,c,h _ h1,h2,h3,h4,h5,h6,h7.imp id fun ⟨b',o',e,q⟩=>⟨b',o',e,LyR.mono h q⟩⟩,LyR.mono h h8⟩
theorem RIn.mono {T T':List (Nat×Obj)}{p:Option Addr}{n:Nat}{k:Fr α}(hs:RIn S T p n k)(h: ∀e∈T,e∈T'):RIn S T' p n k:=
 ⟨hs.1,hs.2.1,hs.2.2.imp id fun ⟨b,o,e,q⟩=>⟨b,o,e,q.mono h⟩⟩
theorem RIn.none (T:List (Nat×Obj))(p:Option Addr):RIn S T p 0 .nil:=⟨rfl,by omega,.inl rfl⟩
theorem LyR.at {B:Nat}{w0 w:World}{l T:List (Nat×Obj)}(hS:St B w0 w l)(h: ∀e∈T,e∈l): ∀ {k:Fr α} {b off:Nat},LyR S T k b off→qE S w.heap.size w k b off
 | .nil,_,_,_=>trivial
 | .cons a k r,b,off,⟨⟨C,ty,fz,p,n,c,h1,h2,h3,h4,h5,h6,h7⟩,h8⟩=>
  have hh:=(hS.own _ (h _ h1)).2
  ⟨⟨C,ty,fz,p,n,c,zr hh,hh,h2,h3,h4,h5,h6,h7.imp id fun ⟨b',o',e,q⟩=>⟨b',o',e,LyR.at hS h q⟩⟩,LyR.at hS h h8⟩
theorem RIn.at {B:Nat}{w0 w:World}{l T:List (Nat×Obj)}{p:Option Addr}{n:Nat}{k:Fr α}(hs:RIn S T p n k)(hS:St B w0 w l)(h: ∀e∈T,e∈l):SlR S w.heap.size w p n k:=
 ⟨hs.1,hs.2.1,hs.2.2.imp id fun ⟨b,o,e,q⟩=>⟨b,o,e,q.at hS h⟩⟩
structure El (α:Type) where
 a:α
 p:Option Addr
 n:Nat
 c:Nat
 k:Fr α
def El.cs (S:Sh α)(x:El α):List Value:=S.hd x.a++ [Value.slice x.p x.n x.c]
def zN (S:Sh α):List (El α)→List Value
 | []=>[]
 | x::r=>x.cs S++zN S r
def yA:List (El α)→Fr α
 | []=>.nil
 | x::r=>.cons x.a x.k (yA r)
theorem zfF: ∀L:List (El α),(yA L).len=L.length
 | []=>rfl
 | x::r=>by simp only [yA,Fr.len,List.length_cons,zfF r]
theorem El.cs_len (x:El α):(x.cs S).length=S.K:=by
 unfold El.cs;rw [List.length_append];exact S.len x.a
theorem El.cs_one (x:El α): ∀u∈x.cs S,u.oneCell'=true:=fun u hu=>by
 rcases List.mem_append.1 hu with h|h
 ·exact S.one x.a u h
 ·obtain rfl:=List.mem_singleton.1 h;rfl
theorem kU: ∀L:List (El α),(zN S L).length=L.length*S.K
 | []=>by simp [zN]
 | x::r=>by simp only [zN,List.length_append,kU r,El.cs_len,List.length_cons,Nat.succ_mul];omega
theorem uP (x:El α): ∀L:List (El α),zN S (L++ [x])=zN S L++x.cs S
 | []=>by simp [zN]
 | y::r=>by simp only [List.cons_append,zN,uP x r,List.append_assoc]
theorem zfG: ∀(L:List (El α)) (i:Nat) (x:El α),L[i]? =some x→ ∀j,j<S.K→(zN S L)[i*S.K+j]? =(x.cs S)[j]?
 | y::r,0,x,h,j,hj=>by
  obtain rfl:y=x:=by simpa using h
  rw [Nat.zero_mul,Nat.zero_add];unfold zN;rw [List.getElem?_append_left (by rw [El.cs_len];exact hj)]
 | y::r,i+1,x,h,j,hj=>by
  unfold zN;rw [List.getElem?_append_right (by rw [El.cs_len,Nat.succ_mul];omega),El.cs_len,show (i+1)*S.K+j-S.K=i*S.K+j by rw [Nat.succ_mul];omega];exact zfG r i x (by simpa using h) j hj
theorem exE {C:Array Value}{o:Nat}{x:List Value}{K:Nat}(hl:x.length=K)(h: ∀j,j<K→C[o+j]? =x[j]?)(h0:0<K):o+K≤C.size∧C.extract o (o+K)=x.toArray:=by
 have hz:o+K≤C.size:=by
  have h1:=h (K-1) (by omega);rw [List.getElem?_eq_getElem (by omega)] at h1;obtain ⟨h2,_⟩:=Array.getElem?_eq_some_iff.1 h1;omega
 refine ⟨hz,?_⟩;apply Array.ext_getElem?;intro j;have e:x.toArray[j]? =x[j]? :=by simp
 rw [Array.getElem?_extract,e];split
 ·rename_i hj
  exact h j (by omega)
 ·rename_i hj
  rw [List.getElem?_eq_none (by omega)]
theorem Sh.pos (S:Sh α)(a:α):0<S.K:=by have:=S.len a;omega
theorem Rw.atE {cur:Array Value}{cap n:Nat}{L:List (El α)}(h:Rw S.K cur cap n (zN S L)){i:Nat}{x:El α}(hx:L[i]? =some x):i*S.K+S.K≤cur.size∧cur.extract (i*S.K) (i*S.K+S.K)=(x.cs S).toArray:=by
 have hl:=h.len;rw [kU] at hl;have hi:i<L.length:=(List.getElem?_eq_some_iff.1 hx).1;refine exE x.cs_len (fun j hj=>?_) (S.pos x.a)
 rw [h.get _ (by
  rw [←hl];have:i*S.K+S.K≤L.length*S.K:=by rw [←Nat.succ_mul];exact Nat.mul_le_mul_right _ hi
  omega),zfG L i x hx j hj]
def AllE (S:Sh α)(T:List (Nat×Obj))(L:List (El α)):Prop:= ∀x∈L,RIn S T x.p x.n x.k∧S.ok x.a
theorem AllE.mono {T T':List (Nat×Obj)}{M:List (El α)}(h:AllE S T M)(hs: ∀e∈T,e∈T'):AllE S T' M:=fun x hx=>⟨(h x hx).1.mono hs,(h x hx).2⟩
theorem AllE.snoc {T:List (Nat×Obj)}{M:List (El α)}{x:El α}(h:AllE S T M)(hx:RIn S T x.p x.n x.k)(hz:S.ok x.a):AllE S T (M++ [x]):=fun y hy=>by
 rcases List.mem_append.1 hy with q|q
 ·exact h y q
 ·obtain rfl:=List.mem_singleton.1 q;exact ⟨hx,hz⟩
theorem zfH {T:List (Nat×Obj)}{b:Nat}{C:Array Value}{ty:TypeId}{fz:Nat×Nat}(hm:(b,Obj.cells C ty fz)∈T): ∀(L:List (El α)) (o:Nat),
 (∀(i:Nat) (x:El α),L[i]? =some x→o+i*S.K+S.K≤C.size∧C.extract (o+i*S.K) (o+i*S.K+S.K)=(x.cs S).toArray)→AllE S T L→LyR S T (yA L) b o
 | [],_,_,_=>trivial
 | x::r,o,h,hA=>by
  have h1:=h 0 x rfl;rw [Nat.zero_mul,Nat.add_zero] at h1;have ha:=hA x (List.mem_cons_self ..);refine ⟨⟨C,ty,fz,x.p,x.n,x.c,hm,h1.1,h1.2,ha.2,ha.1.1,ha.1.2.1,ha.1.2.2⟩,?_⟩;refine zfH hm r (o+S.K) (fun i y hy=>?_) fun y hy=>hA y (List.mem_cons_of_mem _ hy);have:=h (i+1) y (by simpa using hy);rw [show o+(i+1)*S.K=o+S.K+i*S.K by rw [Nat.succ_mul];omega] at this;exact this
theorem Rw.rIn {cur:Array Value}{cap n:Nat}{L:List (El α)}(h:Rw S.K cur cap n (zN S L))(hK:0<S.K){T:List (Nat×Obj)}{b:Nat}{ty:TypeId}{fz:Nat×Nat}(hm:(b,Obj.cells cur ty fz)∈T)(hA:AllE S T L)(hn:n≤S.mx):RIn S T (some ⟨b,0,none⟩) n (yA L):=by
 have hl:=h.len;rw [kU] at hl;have hln:L.length=n:=Nat.eq_of_mul_eq_mul_right hK hl;refine ⟨by rw [zfF];omega,hn,.inr ⟨b,0,rfl,zfH hm L 0 (fun i x hx=>?_) hA⟩⟩;rw [Nat.zero_add];exact h.atE hx
def RowE (S:Sh α)(ty:TypeId)(p:Option Addr)(n c:Nat)(row:List (Nat×Obj))(L:List (El α)):Prop:=(p=none∧n=0∧c=0∧row=[]∧L=[])∨∃b cur,p=some ⟨b,0,none⟩∧row=[(b,.cells cur ty (0,0))]∧Rw S.K cur c n (zN S L)
theorem RowE.len {ty:TypeId}{p:Option Addr}{n c:Nat}{row:List (Nat×Obj)}{L:List (El α)}(h:RowE S ty p n c row L)(hK:0<S.K):n=L.length:=by
 rcases h with ⟨_,rfl,_,_,rfl⟩|⟨b,cur,_,_,hr⟩
 ·rfl
 ·have hl:=hr.len;rw [kU] at hl;exact (Nat.eq_of_mul_eq_mul_right hK hl).symm
theorem RowE.rIn {ty:TypeId}{p:Option Addr}{n c:Nat}{row T:List (Nat×Obj)}{L:List (El α)}(h:RowE S ty p n c row L)(hK:0<S.K)(hA:AllE S T L)(hn:n≤S.mx):RIn S (row++T) p n (yA L):=by
 rcases h with ⟨rfl,rfl,rfl,rfl,rfl⟩|⟨b,cur,rfl,rfl,hr⟩
 ·exact RIn.none _ _
 ·exact hr.rIn (b:=b) (ty:=ty) (fz:=(0,0)) hK (by simp) (hA.mono fun e he=>List.mem_append_right _ he) hn
end
theorem zfI {P:Program}{ρ:Env}{w:World}{b off:Nat}{C:Array Value}{T t:TypeId}{fz:Nat×Nat}{x:Operand}{v:Value}(hh:w.heap[b]? =some (.cells C T fz))(ht:oneCell P t=true)(hx:ev ρ x=.pointer (some ⟨b,off,none⟩))(hv:C[off]? =some v)(o:Oper)(ho:o.op=.load t x):
 (execOp (ev ρ) o).run P w=.ok (.value v) w:=by
 have:=kJ (P:=P) (w:=w) ht hh hv;simp [execOp,ho,Instr.loadAt,Instr.sureAddr,hx,this]
theorem kV {P:Program}{ρ:Env}{w:World}{b off:Nat}{C C':Array Value}{T t:TypeId}{x y:Operand}{v:Value}(hh:w.heap[b]? =some (.cells C T (0,0)))(hi:(P.info? t).map (·.size)=some v.cells.size)(h1:v.cells.all (·.oneCell')=true)(hs:off+v.cells.size≤C.size)
 (hC:(C.toList.take off++v.cells.toList++C.toList.drop (off+v.cells.size)).toArray=C') (hx:ev ρ x=.pointer (some ⟨b,off,none⟩)) (hy:ev ρ y=v) (o:Oper) (ho:o.op=.store t x y):(execOp (ev ρ) o).run P w=.ok .skip (w.setRow b C'):=by
 have:=us (P:=P) (w:=w) hi h1 hh hs;rw [hC] at this;simp [execOp,ho,Instr.storeAt,Instr.sureAddr,hx,hy,this]
theorem St.perm {B:Nat}{w0 w:World}{l l':List (Nat×Obj)}(h:St B w0 w l)(hp:l'.Perm l):St B w0 w l':=
 ⟨h.below,h.le,fun x hx=>h.own x (hp.mem_iff.1 hx),((hp.map (·.1)).nodup_iff).2 h.nd⟩
theorem St.addAll {B:Nat}{w0 w w':World}{l T:List (Nat×Obj)}(h:St B w0 w l)(hT:St w.heap.size w w' T):St B w0 w' (T++l):=by
 have h':=h.call hT.below;refine ⟨h'.below,h'.le,?_,?_⟩
 ·intro e he;rcases List.mem_append.1 he with he | he
  ·exact ⟨Nat.le_trans h.le (hT.own e he).1,(hT.own e he).2⟩
  ·exact h'.own e he
 ·rw [List.map_append,List.nodup_append];refine ⟨hT.nd,h'.nd,?_⟩;intro x hx y hy q;obtain ⟨e,he,rfl⟩:=List.mem_map.1 hx;obtain ⟨e',he',rfl⟩:=List.mem_map.1 hy;have h1:=(hT.own e he).1;have h2:=zr (h.own e' he').2;omega
section
variable {P:Program}{ρ:Env}{w w0:World}{B:Nat}{l:List (Nat×Obj)}
theorem uQ {K:Nat}(HS:St B w0 w l){t e bytes:Nat}{s x:Operand}{o:Oper}{j k b bx n cap c:Nat}{cur Y:Array Value}{xs:List Value}(ht:yd P t=some (e,K,bytes))(ho:o.op=yq t s x)
 (hs:ev ρ s=.slice (some ⟨b,0,none⟩) n cap) (hj:l[j]? =some (b,.cells cur e (0,0))) (hr:Rw K cur cap n xs) (hx:ev ρ x=.slice (some ⟨bx,0,none⟩) 1 c) (hk:l[k]? =some (bx,.cells Y e (0,0)))
 (hY:Y.size=K) (hone: ∀u∈Y.toList,u.oneCell'=true)
 (hb:(n+1)*bytes≤0x800000000000) (hm:n+1≤maxLen):∃b' cap' cur' w',(execOp (ev ρ) o).run P w=.ok (.value (.slice (some ⟨b',0,none⟩) (n+1) cap')) w'∧St B w0 w' (l.set j (b',.cells cur' e (0,0)))∧Rw K cur' cap' (n+1) (xs++Y.toList):=by
 obtain ⟨it,z,hu,hi,hz,hsz,hby,hzs,h0⟩:=yW ht;have hnews: ∀q u,(Y.toList)[q]? =some u→w.cell? ((⟨bx,0,none⟩:Addr).add q)=some u:=fun q u hq=>by
  rw [Array.getElem?_toList] at hq;rw [qn,Nat.zero_add];simp [World.cell?,HS.get k hk,hq]
 obtain ⟨v',w',hrun,hown,hgr,hnil,hblk⟩:=run_append_own_at (P:=P) w B t o.type e it z K bytes hu hi hz hsz hby hzs h0 _ n xs (hr.owns (HS.ge j hj) (HS.get j hj)) ⟨bx,0,none⟩ 1 c Y.toList (by rw [Array.length_toList,hY,Nat.one_mul]) hnews hone hm hb HS.le;have hown':=hown;rcases hown'.2 with ⟨hv,_⟩|⟨g,cap',cur',rfl,hbg,hg,hnc,hcm,hcs,htk⟩
 ·exact absurd (hnil.1 hv).1 (by simp)
 ·have hgb:g=b∨g=w.heap.size:=by
   rcases hblk with hq|hq
   ·left;injection hq
   ·right;injection hq
  refine ⟨g,cap',cur',w',?_,HS.grown j hj hgr hgb hg,?_⟩
  ·unfold execOp;simp only [ho,yq,resolve,invoke,builtin,Sem.run_bind,Sem.run_pure,Result.andThen_ok,List.map_toArray,List.map_cons,List.map_nil,hs,hx,hrun]
  ·exact ⟨hown.1,hnc,hcm,htk,hcs⟩
theorem za6 {K:Nat}(HS:St B w0 w l){t e bytes:Nat}{s x:Operand}{o:Oper}{k bx c:Nat}{Y:Array Value}(ht:yd P t=some (e,K,bytes))(ho:o.op=yq t s x)
 (hs:ev ρ s=.slice none 0 0) (hx:ev ρ x=.slice (some ⟨bx,0,none⟩) 1 c) (hk:l[k]? =some (bx,.cells Y e (0,0)))
 (hY:Y.size=K) (hone: ∀u∈Y.toList,u.oneCell'=true)
 (hb:(0+1)*bytes≤0x800000000000):∃b' cap' cur' w',(execOp (ev ρ) o).run P w=.ok (.value (.slice (some ⟨b',0,none⟩) 1 cap')) w'∧St B w0 w' ((b',.cells cur' e (0,0))::l)∧Rw K cur' cap' 1 Y.toList:=by
 obtain ⟨it,z,hu,hi,hz,hsz,hby,hzs,h0⟩:=yW ht;have hnews: ∀q u,(Y.toList)[q]? =some u→w.cell? ((⟨bx,0,none⟩:Addr).add q)=some u:=fun q u hq=>by
  rw [Array.getElem?_toList] at hq;rw [qn,Nat.zero_add];simp [World.cell?,HS.get k hk,hq]
 obtain ⟨v',w',hrun,hown,hgr,hnil,hblk⟩:=run_append_own_at (P:=P) w B t o.type e it z K bytes hu hi hz hsz hby hzs h0 (.slice none 0 0) 0 [] (World.ownsRow_nil w B e K) ⟨bx,0,none⟩ 1 c Y.toList (by rw [Array.length_toList,hY,Nat.one_mul]) hnews hone (by unfold maxLen;omega) hb HS.le;have hown':=hown;rcases hown'.2 with ⟨hv,_⟩|⟨g,cap',cur',rfl,hbg,hg,hnc,hcm,hcs,htk⟩
 ·exact absurd (hnil.1 hv).2 (by simp)
 ·have hgb:g=w.heap.size:=by
   rcases hblk with hq|hq
   ·simp [Value.ownBlock] at hq
   ·injection hq
  have hbel:Below w.heap.size w w':=(Below.refl _ w).grown hgr (Nat.le_refl _) (fun k hk=>by simp [Value.ownBlock] at hk);have HS':=HS.add hbel (by omega) hg;rw [Nat.zero_add] at hnc htk;refine ⟨g,cap',cur',w',?_,HS',⟨by rw [Array.length_toList,hY,Nat.one_mul],hnc,hcm,htk,hcs⟩⟩;unfold execOp;simp only [ho,yq,resolve,invoke,builtin,Sem.run_bind,Sem.run_pure,Result.andThen_ok,List.map_toArray,List.map_cons,List.map_nil,hs,hx,hrun]
def FnT (P:Program)(f:Nat)(args:Array Value)(pre:World→Prop)(ok:Value→List (Nat×Obj)→Prop):Prop:=
 ∀w,pre w→Calls P f args w fun e w'=> ∃v T,e=.returned v∧ok v T∧St w.heap.size w w' T
end
namespace D2
section
variable {P:Program}{ops:Array Oper}{R:(Nat→Gh)→Env}{i:Nat}{d:Option Nat}{pre:(Nat→Bool)→(Nat→Gh)→World→Prop}
theorem gv_opW {V:Value}(hs: ∀L g w,pre L g w→pre (put1 L i) g w)(op:Op)(h: ∀g,opk ops i (R g)=some (d,true,op))(hr: ∀L g (o:Oper) w,Now ops i L→pre L g w→o.op=op→(execOp (ev (R g)) o).run P w=.ok (.value V) w):Gives P ops R pre i d (fun _=>V):=
 gives_of fun L g w hp hN=>by
  obtain ⟨o,ho,hd,hw,hop⟩:=zH (h g);exact ⟨o,ho,hd,.inr ⟨hw,by rw [hr L g o w hN hp hop];exact ⟨g i,rfl,by rw [setN_self];exact hs _ _ _ hp⟩⟩⟩
theorem gv_ld {V:Value}(hs: ∀L g w,pre L g w→pre (put1 L i) g w)(t:TypeId)(x:Operand)(b:(Nat→Gh)→Nat)(off:Nat)(C:Array Value)(T:TypeId)(fz:Nat×Nat)(h: ∀g,opk ops i (R g)=some (d,true,.load t x))
 (hx: ∀g,ev (R g) x=.pointer (some ⟨b g,off,none⟩)) (hh: ∀L g w,Now ops i L→pre L g w→w.heap[b g]? =some (.cells C T fz)) (hok:uB P t off C=true) (hV:ldv P t off C=V):Gives P ops R pre i d (fun _=>V):=
 gv_opW hs _ h fun L g o w hN hp ho=>by
  have:=zcS (P:=P) hok (hh L g w hN hp);rw [hV] at this;simp [execOp,ho,Instr.loadAt,Instr.sureAddr,hx,this]
theorem gv_cpW {V:Value}(hs: ∀L g w,pre L g w→pre (put1 L i) g w)(f:Nat)(args:Array Value){pr:World→Prop}(hc:FnP P f args pr V)(hpr: ∀L g w,Now ops i L→pre L g w→pr w)(hb: ∀L g w w',Now ops i L→pre L g w→Below w.heap.size w w'→pre L g w')(h: ∀g w,opv P ops i (R g) w=some (d,true,.ok (.enter f args) w)):Gives P ops R pre i d (fun _=>V):=
 gives_of fun L g w hp hN=>by
  obtain ⟨o,ho,hd,hw,hr⟩:=zQ (h g w);refine ⟨o,ho,hd,.inr ⟨hw,?_⟩⟩;rw [hr];refine Calls.mono (hc w (hpr L g w hN hp)) ?_;rintro e w' ⟨rfl,hbl⟩;exact ⟨V,rfl,g i,rfl,by rw [setN_self];exact hs _ _ _ (hb L g w w' hN hp hbl)⟩
theorem gv_ft {V:Gh→Value}(f:Nat)(args:Array Value){pr:World→Prop}{ok:Value→List (Nat×Obj)→Prop}(hc:FnT P f args pr ok)(hpr: ∀L g w,Now ops i L→pre L g w→pr w)
 (hk: ∀L g w v T w',Now ops i L→pre L g w→ok v T→St w.heap.size w w' T→∃x:Gh,v=V x∧pre (put1 L i) (setN g i x) w') (h: ∀g w,opv P ops i (R g) w=some (d,true,.ok (.enter f args) w)):Gives P ops R pre i d V:=
 gives_of fun L g w hp hN=>by
  obtain ⟨o,ho,hd,hw,hr⟩:=zQ (h g w);refine ⟨o,ho,hd,.inr ⟨hw,?_⟩⟩;rw [hr];refine Calls.mono (hc w (hpr L g w hN hp)) ?_;rintro e w' ⟨v,T,rfl,hok,hT⟩;obtain ⟨x,hv,hq⟩:=hk L g w v T w' hN hp hok hT;exact ⟨v,rfl,x,hv,hq⟩
end
end D2
abbrev zU (B:Nat)(w0:World)(ok:Value→List (Nat×Obj)→Prop):Value→World→Prop:=fun v' w'=> ∃T,ok v' T∧St B w0 w' T
theorem FnT.intro {P:Program}{f:Nat}{fn:Func}{c:Code}(rs:List ResultVar)(N:Nat){args:Array Value}{pre:World→Prop}{ok:Value→List (Nat×Obj)→Prop}(hf:P.funcs[f]? =some fn)(hb:fn.body=some c)(hr:fn.results.toList=rs)(hn:args.size+(fn.ntmps-args.size)=N)
 (h: ∀w,pre w→WP P N c (yJ P rs (zU w.heap.size w ok)) (ini args) w):FnT P f args pre ok:=fun w hp=>
 (jS hf hb hr hn (h w hp)).mono fun e w' ⟨v',he,T,hv⟩=>⟨v',T,he,hv⟩
section
variable {P:Program}{N:Nat}{ops:Array Oper}{i:Nat}{r:List Nat}{K:Env→World→Prop}{ρ:Env}{w:World}{B:Nat}{w0:World}{l:List (Nat×Obj)}
theorem qo (HS:St B w0 w l)(d:Option Nat)(f:Nat)(args:Array Value){pre:World→Prop}{ok:Value→List (Nat×Obj)→Prop}(hc:FnT P f args pre ok)(hp:pre w)
 (h:opv P ops i ρ w=some (d,true,.ok (.enter f args) w)) (hd:dOK d N=true)
 (kk: ∀v T w',ok v T→St B w0 w' (T++l)→WPs P N ops K r (zm ρ d v) w'):WPs P N ops K (i::r) ρ w:=by
 obtain ⟨o,ho,rfl,hw,hr⟩:=zQ h;refine WPo.run ho hw fun a ha=>?_;rw [hr,Oper.upon_enter];refine (hc w hp).mono ?_;rintro e w' ⟨v,T,rfl,hok,hT⟩;exact ⟨_,ha.put _ (zM hd) _,kk v T w' hok (HS.addAll hT)⟩
theorem zkm (HS:St B w0 w l)(d:Option Nat)(t e:TypeId)(K' bytes:Nat)(x y:Operand)(kl kc:IntKind)(n:Nat)(h:opk ops i ρ=some (d,true,.makeSlice t x y))(hd:dOK d N=true)(ht:yd P t=some (e,K',bytes))
 (hx:ev ρ x=.int kl (n:Int)) (hy:ev ρ y=.int kc (n:Int)) (hb:bytes*n≤281474976710656) (hm:n≤maxLen)
 (kk: ∀b cur w',St B w0 w' ((b,.cells cur e (0,0))::l)→cur.size=n*K'→WPs P N ops K r (zm ρ d (.slice (some ⟨b,0,none⟩) n n)) w'):WPs P N ops K (i::r) ρ w:=by
 obtain ⟨o,ho,rfl,hw,hop⟩:=zH h;obtain ⟨it,z',hu,hi,hz',hsz,hby,hzs,h0⟩:=yW ht;have hml:n≤0x7fffffffffffffff:=by have:=hm;simp only [maxLen] at this;omega
 have hbi:(it.bytes:Int)*(n:Int)≤281474976710656:=by
  rw [hby,←Int.natCast_mul];omega
 have hr:=run_make (P:=P) w t e it z' hu hi hz' kl kc (n:Int) (n:Int) (by omega) (by omega) hbi (by omega);simp only [Int.toNat_natCast,hsz] at hr;refine WPo.run ho hw fun a ha=>?_;have hex:(execOp (ev ρ) o).run P w=.ok (.value (.slice (some ⟨w.heap.size,0,none⟩) n n)) (w.alloc (.cells (madeCells z'.cells (n*K')) e)):=by
  unfold execOp;simp only [hop,hx,hy,Sem.run_bind,hr,Result.andThen_ok];rfl
 rw [hex,Oper.upon_value];refine ⟨_,ha.put _ (zM hd) _,kk _ _ _ (HS.alloc _) ?_⟩;unfold madeCells;simp
end
end Go.Proofs.YtpghmdbjmigjlaaGreatDoor
namespace Go.Proofs.YtpghmdbjmigjlaaGreatDoor
open Go Go.RowKit
set_option linter.unusedVariables false
structure Fl (α:Type) where
 K:Nat
 cs:α→List Value
 pos:0<K
 len: ∀a,(cs a).length=K
 one: ∀a,∀u∈cs a,u.oneCell'=true
section
variable {α:Type}{S:Fl α}
def zo (S:Fl α):List α→List Value
 | []=>[]
 | x::r=>S.cs x++zo S r
theorem xw: ∀L:List α,(zo S L).length=L.length*S.K
 | []=>by simp [zo]
 | x::r=>by simp only [zo,List.length_append,xw r,S.len,List.length_cons,Nat.succ_mul];omega
theorem za7: ∀L M:List α,zo S (L++M)=zo S L++zo S M
 | [],M=>by simp [zo]
 | y::r,M=>by simp only [List.cons_append,zo,za7 r M,List.append_assoc]
theorem zfJ (x:α)(L:List α):zo S (L++ [x])=zo S L++S.cs x:=by
 rw [za7];simp [zo]
theorem zfK: ∀L:List α,∀u∈zo S L,u.oneCell'=true
 | [],u,h=>by simp [zo] at h
 | x::r,u,h=>by
  rcases List.mem_append.1 h with q|q
  ·exact S.one x u q
  ·exact zfK r u q
theorem zdc: ∀(L:List α) (i:Nat) (x:α),L[i]? =some x→ ∀j,j<S.K→(zo S L)[i*S.K+j]? =(S.cs x)[j]?
 | y::r,0,x,h,j,hj=>by
  obtain rfl:y=x:=by simpa using h
  rw [Nat.zero_mul,Nat.zero_add];unfold zo;rw [List.getElem?_append_left (by rw [S.len];exact hj)]
 | y::r,i+1,x,h,j,hj=>by
  unfold zo;rw [List.getElem?_append_right (by rw [S.len,Nat.succ_mul];omega),S.len,show (i+1)*S.K+j-S.K=i*S.K+j by rw [Nat.succ_mul];omega];exact zdc r i x (by simpa using h) j hj
def jk (S:Fl α)(C:Array Value)(off:Nat)(L:List α):Prop:= ∀(i:Nat) (x:α),L[i]? =some x→off+i*S.K+S.K≤C.size∧C.extract (off+i*S.K) (off+i*S.K+S.K)=(S.cs x).toArray
theorem jk.take {C:Array Value}{off:Nat}{L:List α}(h:jk S C off L)(k:Nat):jk S C off (L.take k):=fun i x hx=>by
 rw [List.getElem?_take] at hx;split at hx
 ·exact h i x hx
 ·cases hx
theorem jk.cell {C:Array Value}{off:Nat}{L:List α}(h:jk S C off L){i:Nat}{x:α}(hx:L[i]? =some x)(j:Nat)(hj:j<S.K):C[off+i*S.K+j]? =(S.cs x)[j]? :=by
 obtain ⟨h1,h2⟩:=h i x hx;have e:(C.extract (off+i*S.K) (off+i*S.K+S.K))[j]? =C[off+i*S.K+j]? :=by
  rw [Array.getElem?_extract,if_pos (by omega)]
 rw [←e,h2];simp
theorem Rw.rowAt {cur:Array Value}{cap n:Nat}{L:List α}(h:Rw S.K cur cap n (zo S L)):jk S cur 0 L:=fun i x hx=>by
 have hl:=h.len;rw [xw] at hl;have hi:i<L.length:=(List.getElem?_eq_some_iff.1 hx).1;rw [Nat.zero_add];refine exE (S.len x) (fun j hj=>?_) S.pos
 rw [h.get _ (by
  rw [←hl];have:i*S.K+S.K≤L.length*S.K:=by rw [←Nat.succ_mul];exact Nat.mul_le_mul_right _ hi
  omega),zdc L i x hx j hj]
theorem Rw.lenF {cur:Array Value}{cap n:Nat}{L:List α}(h:Rw S.K cur cap n (zo S L)):L.length=n:=by
 have hl:=h.len;rw [xw] at hl;exact Nat.eq_of_mul_eq_mul_right S.pos hl
def yk (S:Fl α)(ty:TypeId)(p:Option Addr)(n c:Nat)(row:List (Nat×Obj))(L:List α):Prop:=(p=none∧n=0∧c=0∧row=[]∧L=[])∨∃b cur,p=some ⟨b,0,none⟩∧row=[(b,.cells cur ty (0,0))]∧Rw S.K cur c n (zo S L)
theorem yk.len {ty:TypeId}{p:Option Addr}{n c:Nat}{row:List (Nat×Obj)}{L:List α}(h:yk S ty p n c row L):L.length=n:=by
 rcases h with ⟨_,rfl,_,_,rfl⟩|⟨b,cur,_,_,hr⟩
 ·rfl
 ·exact hr.lenF
end
namespace D2
section
variable {P:Program}{ops:Array Oper}{R:(Nat→Gh)→Env}{d:Option Nat}
variable {B:Nat}{w0:World}{E row:List (Nat×Obj)}{Y:Array Value}{ty:TypeId}{n:Nat}{K:Nat}{xs:List Value}
end
end D2
section
variable {α:Type}{S:Fl α}
theorem jk.at {C:Array Value}{off:Nat}{L:List α}(h:jk S C off L){q:Nat}{u:Value}(hq:(zo S L)[q]? =some u):C[off+q]? =some u:=by
 have hlt:=(List.getElem?_eq_some_iff.1 hq).1;rw [xw] at hlt;have hK:=S.pos;have hi:q / S.K<L.length:=(Nat.div_lt_iff_lt_mul hK).2 hlt;obtain ⟨x,hx⟩:∃x,L[q / S.K]? =some x:=⟨_,List.getElem?_eq_getElem hi⟩
 have hj:=Nat.mod_lt q hK;have e:q / S.K*S.K+q%S.K=q:=Nat.div_add_mod' q S.K;have h1:=zdc L _ x hx (q%S.K) hj;have h2:=h.cell hx (q%S.K) hj;rw [e] at h1;rw [Nat.add_assoc,e] at h2;rw [h2,←h1,hq]
variable {P:Program}{ρ:Env}{w w0:World}{B:Nat}{l:List (Nat×Obj)}
theorem zfL (HS:St B w0 w l){t e bytes:Nat}{s x:Operand}{o:Oper}{j b n cap m c:Nat}{a:Addr}{cur:Array Value}{xs:List Value}{M:List α}(ht:yd P t=some (e,S.K,bytes))(ho:o.op=yq t s x)
 (hs:ev ρ s=.slice (some ⟨b,0,none⟩) n cap) (hj:l[j]? =some (b,.cells cur e (0,0))) (hr:Rw S.K cur cap n xs) (hx:ev ρ x=.slice (some a) m c) (hM:m=M.length)
 (hk:M=[]∨∃bx off C T fz,a=⟨bx,off,none⟩∧w.heap[bx]? =some (.cells C T fz)∧jk S C off M)
 (hb:(n+m)*bytes≤0x800000000000) (hm:n+m≤maxLen):∃b' cap' cur' w',(execOp (ev ρ) o).run P w=.ok (.value (.slice (some ⟨b',0,none⟩) (n+m) cap')) w'∧St B w0 w' (l.set j (b',.cells cur' e (0,0)))∧Rw S.K cur' cap' (n+m) (xs++zo S M):=by
 obtain ⟨it,z,hu,hi,hz,hsz,hby,hzs,h0⟩:=yW ht;have hnews: ∀q u,(zo S M)[q]? =some u→w.cell? (a.add q)=some u:=fun q u hq=>by
  rcases hk with rfl|⟨bx,off,C,T,fz,rfl,hh,hR⟩
  ·simp [zo] at hq
  ·rw [qn];simp [World.cell?,hh,hR.at hq]
 obtain ⟨v',w',hrun,hown,hgr,hnil,hblk⟩:=run_append_own_at (P:=P) w B t o.type e it z S.K bytes hu hi hz hsz hby hzs h0 _ n xs (hr.owns (HS.ge j hj) (HS.get j hj)) a m c (zo S M) (by rw [xw,hM]) hnews (zfK M) hm hb HS.le;have hown':=hown;rcases hown'.2 with ⟨hv,_⟩|⟨g,cap',cur',rfl,hbg,hg,hnc,hcm,hcs,htk⟩
 ·exact absurd (hnil.1 hv).1 (by simp)
 ·have hgb:g=b∨g=w.heap.size:=by
   rcases hblk with hq|hq
   ·left;injection hq
   ·right;injection hq
  refine ⟨g,cap',cur',w',?_,HS.grown j hj hgr hgb hg,?_⟩
  ·unfold execOp;simp only [ho,yq,resolve,invoke,builtin,Sem.run_bind,Sem.run_pure,Result.andThen_ok,List.map_toArray,List.map_cons,List.map_nil,hs,hx,hrun]
  ·exact ⟨hown.1,hnc,hcm,htk,hcs⟩
variable {N:Nat}{ops:Array Oper}{i:Nat}{r:List Nat}{K:Env→World→Prop}
theorem zfM (HS:St B w0 w l)(d:Option Nat)(t e bytes:Nat)(s x:Operand)(j b n cap m c:Nat)(a:Addr)(cur:Array Value)(xs:List Value)(M:List α)(h:opk ops i ρ=some (d,true,yq t s x))(hd:dOK d N=true)(ht:yd P t=some (e,S.K,bytes))
 (hs:ev ρ s=.slice (some ⟨b,0,none⟩) n cap) (hj:l[j]? =some (b,.cells cur e (0,0))) (hr:Rw S.K cur cap n xs) (hx:ev ρ x=.slice (some a) m c) (hM:m=M.length)
 (hk:M=[]∨∃bx off C T fz,a=⟨bx,off,none⟩∧w.heap[bx]? =some (.cells C T fz)∧jk S C off M)
 (hb:(n+m)*bytes≤0x800000000000) (hm:n+m≤maxLen)
 (kk: ∀b' cap' cur' w',St B w0 w' (l.set j (b',.cells cur' e (0,0)))→Rw S.K cur' cap' (n+m) (xs++zo S M)→WPs P N ops K r (zm ρ d (.slice (some ⟨b',0,none⟩) (n+m) cap')) w'):WPs P N ops K (i::r) ρ w:=by
 obtain ⟨o,ho,rfl,hw,hop⟩:=zH h;obtain ⟨b',cap',cur',w',hrun,HS',hr'⟩:=zfL (S:=S) HS ht hop hs hj hr hx hM hk hb hm;refine WPo.run ho hw fun a ha=>?_;rw [hrun,Oper.upon_value];exact ⟨_,ha.put _ (zM hd) _,kk b' cap' cur' w' HS' hr'⟩
end
def pG (y:D2.Gh):Option Addr:=match y.l with
 | []=>none
 | _=>some ⟨y.b,0,none⟩
theorem zkn {α:Type}{S:Fl α}{ty:TypeId}{p:Option Addr}{n c:Nat}{T:List (Nat×Obj)}{L:List α}(h:yk S ty p n c T L):∃x:D2.Gh,Value.slice p n c=.slice (pG x) x.n x.cap∧yk S ty (pG x) x.n x.cap T L:=by
 rcases h with ⟨rfl,rfl,rfl,rfl,rfl⟩|⟨b,cur,rfl,rfl,hr⟩
 ·exact ⟨{ n:=0,cap:=0 },rfl,.inl ⟨rfl,rfl,rfl,rfl,rfl⟩⟩
 ·exact ⟨{ b:=b,n:=n,cap:=c,l:=[1] },rfl,.inr ⟨b,cur,rfl,rfl,hr⟩⟩
end Go.Proofs.YtpghmdbjmigjlaaGreatDoor
namespace Go.Proofs.YtpghmdbjmigjlaaGreatDoor
open Go Go.RowKit
set_option linter.unusedVariables false
section
variable {P:Program}{w w0:World}
end
section
variable {P:Program}{N:Nat}{ops:Array Oper}{i:Nat}{r:List Nat}{K:Env→World→Prop}{ρ:Env}{w:World}{B:Nat}{w0:World}{l:List (Nat×Obj)}
end
namespace D2
def stg:List Nat→(Nat→Bool)→Nat
 | [],_=>0
 | k::r,L=>bif L k then stg r L+1 else 0
def chn (ks:List Nat)(Q:Nat→(Nat→Gh)→World→Prop):(Nat→Bool)→(Nat→Gh)→World→Prop:=fun L g w=>Q (stg ks L) g w
theorem chn.fin {Q:Nat→(Nat→Gh)→World→Prop}{g:Nat→Gh}{w:World} : ∀ {ks:List Nat} {L:Nat→Bool},chn ks Q L g w→(∀k∈ks,L k=true)→Q ks.length g w:=by
 intro ks L h hk;have:stg ks L=ks.length:=by
  clear h
  induction ks with
  | nil=>rfl
  | cons k r ih=>
   unfold stg;rw [hk k (List.mem_cons_self ..),ih fun x hx=>hk x (List.mem_cons_of_mem _ hx)];rfl
 unfold chn at h
 rwa [this] at h
section
variable {P:Program}{ops:Array Oper}{R:(Nat→Gh)→Env}{d:Option Nat}
theorem gv_chn {V:Gh→Value}{ks:List Nat}{Q:Nat→(Nat→Gh)→World→Prop}(k j:Nat)(hN: ∀L,Now ops k L→stg ks L=j∧stg ks (put1 L k)=j+1)
 (hr: ∀g w,Q j g w→∃o,ops[k]? =some o∧o.dst=d∧Region.wanted o (zC ops (R g))=true∧Runs P (fun v w'=> ∃x,v=V x∧Q (j+1) (setN g k x) w') ((execOp (ev (R g)) o).run P w)):Gives P ops R (chn ks Q) k d V:=by
 refine gives_of fun L g w hp hNw=>?_;obtain ⟨e1,e2⟩:=hN L hNw;unfold chn at hp;rw [e1] at hp;obtain ⟨o,ho,hd,hw,hq⟩:=hr g w hp;refine ⟨o,ho,hd,.inr ⟨hw,?_⟩⟩;unfold chn;rw [e2];exact hq
variable {ρ:Env}{k:Nat}{w:World}{S:Value→World→Prop}
theorem run_new {F:Nat→Value}{ob:Obj}(h:opv P ops k ρ w=some (d,true,.ok (.value (F w.heap.size)) (w.alloc ob)))(hS:S (F w.heap.size) (w.alloc ob)):
 ∃o,ops[k]? =some o∧o.dst=d∧Region.wanted o (zC ops ρ)=true∧Runs P S ((execOp (ev ρ) o).run P w):=by
 obtain ⟨o,ho,hd,hw,hr⟩:=zQ h;exact ⟨o,ho,hd,hw,by rw [hr];exact hS⟩
theorem run_ft {f:Nat}{args:Array Value}{pr:World→Prop}{ok:Value→List (Nat×Obj)→Prop}(hc:FnT P f args pr ok)(hp:pr w)(h:opv P ops k ρ w=some (d,true,.ok (.enter f args) w))(hS: ∀v T w',ok v T→St w.heap.size w w' T→S v w'):
 ∃o,ops[k]? =some o∧o.dst=d∧Region.wanted o (zC ops ρ)=true∧Runs P S ((execOp (ev ρ) o).run P w):=by
 obtain ⟨o,ho,hd,hw,hr⟩:=zQ h;refine ⟨o,ho,hd,hw,?_⟩;rw [hr];refine Calls.mono (hc w hp) ?_;rintro e w' ⟨v,T,rfl,hok,hT⟩;exact ⟨v,rfl,hS v T w' hok hT⟩
theorem run_sto {t:TypeId}{x y:Operand}{b off:Nat}{C C':Array Value}{T:TypeId}{v:Value}(h:opk ops k ρ=some (none,true,.store t x y))(hx:ev ρ x=.pointer (some ⟨b,off,none⟩))(hy:ev ρ y=v)(hi:(P.info? t).map (·.size)=some v.cells.size)(h1:v.cells.all (·.oneCell')=true)
 (hh:w.heap[b]? =some (.cells C T (0,0))) (hs:off+v.cells.size≤C.size) (hC:(C.toList.take off++v.cells.toList++C.toList.drop (off+v.cells.size)).toArray=C') (hS:S undef (w.setRow b C')):
 ∃o,ops[k]? =some o∧o.dst=none∧Region.wanted o (zC ops ρ)=true∧Runs P S ((execOp (ev ρ) o).run P w):=by
 obtain ⟨o,ho,hd,hw,hop⟩:=zH h;refine ⟨o,ho,hd,hw,?_⟩;have hst:=us (P:=P) (w:=w) hi h1 hh hs;rw [hC] at hst;have e2:(execOp (ev ρ) o).run P w=.ok .skip (w.setRow b C'):=by simp [execOp,hop,Instr.storeAt,Instr.sureAddr,hx,hy,hst]
 rw [e2];exact hS
theorem run_of {op:Op}(h:opk ops k ρ=some (d,true,op))(hr: ∀o:Oper,o.op=op→∃v w',(execOp (ev ρ) o).run P w=.ok (.value v) w'∧S v w'):
 ∃o,ops[k]? =some o∧o.dst=d∧Region.wanted o (zC ops ρ)=true∧Runs P S ((execOp (ev ρ) o).run P w):=by
 obtain ⟨o,ho,hd,hw,hop⟩:=zH h;obtain ⟨v,w',e,hS⟩:=hr o hop;exact ⟨o,ho,hd,hw,by rw [e];exact hS⟩
end
end D2
section
open D2 (Gh)
theorem D2.Now.back {ops:Array Oper}{i:Nat}{L:Nat→Bool}(h:D2.Now ops i L){a b:Nat}(hb:L b=true)(he:D2.edge ops a b=true):L a=true:=by
 cases ha:L a with
 | true=>rfl
 | false=>have:=h.2.2.no a b he ha;rw [hb] at this;cases this
theorem D2.Now.fwd {ops:Array Oper}{i:Nat}{L:Nat→Bool}(h:D2.Now ops i L){a b:Nat}(ha:L a=false)(he:D2.edge ops a b=true):L b=false:=h.2.2.no a b he ha
theorem D2.stg_no: ∀(ks:List Nat) (L:Nat→Bool) (i k:Nat),ks[i]? =some k→L k=false→D2.stg ks L≤i
 | [],_,_,_,h,_=>by simp at h
 | k::r,L,0,k',h,hk=>by
  obtain rfl:k=k':=by simpa using h
  unfold D2.stg;rw [hk];exact Nat.le_refl _
 | k::r,L,i+1,k',h,hk=>by
  have ih:=D2.stg_no r L i k' (by simpa using h) hk;unfold D2.stg;cases L k with
  | true=>exact Nat.succ_le_succ ih
  | false=>exact Nat.zero_le _
theorem D2.chn.getN {ks:List Nat}{Q:Nat→(Nat→Gh)→World→Prop}{L:Nat→Bool}{g:Nat→Gh}{w:World}{Φ:Prop}(h:D2.chn ks Q L g w)(i k:Nat)(hi:ks[i]? =some k)(hk:L k=false)(hQ: ∀j,j≤i→Q j g w→Φ):Φ:=hQ _ (D2.stg_no ks L i k hi hk) h
end
end Go.Proofs.YtpghmdbjmigjlaaGreatDoor
namespace Go.Proofs.YtpghmdbjmigjlaaGreatDoor
open Go Go.RowKit
set_option linter.unusedVariables false
section
variable {P:Program}{N:Nat}{Q:Exit→Env→World→Prop}{ρ:Env}{w:World}{c:Code}
def zfN:Code→Bool | .scope _=>true | _=>false
def zfO:Code→Option Nat | .label i=>some i | _=>none
theorem zko (h:zfN c=true):c=.scope (qf c):=by cases c<;>first | rfl | cases h
theorem zkp {i:Nat}(h:zfO c=some i):c=.label i:=by
 cases c<;>first | (cases h;done) | (cases h;rfl)
def ng (Q:Exit→Env→World→Prop):Exit→Env→World→Prop
 | .goto _,_,_=>False
 | e,ρ,w=>Q e ρ w
theorem zkq (hc:zfN c=true)(h:WP P N (qf c) (ng Q) ρ w):WP P N c Q ρ w:=by
 rw [zko hc];intro a ha;refine wp_scope_straight (Go.wp_mono (h a ha) ?_);rintro e a' w' ⟨r,hr,q⟩;cases e<;>first | exact ⟨r,hr,q⟩ | exact q.elim
theorem zkr (i:Nat)(hc:zfO c=some i)(h:Q .normal ρ w):WP P N c Q ρ w:=by rw [zkp hc];exact WP.label h
end
section
variable {P:Program}{N:Nat}{ops:Array Oper}{i:Nat}{r:List Nat}{K:Env→World→Prop}{ρ:Env}{w:World}{B:Nat}{w0:World}{l:List (Nat×Obj)}
theorem zks {K':Nat}(HS:St B w0 w l)(d:Option Nat)(t e bytes:Nat)(s x:Operand)(j k b bx n cap c:Nat)(cur Y:Array Value)(xs:List Value)(h:opk ops i ρ=some (d,true,yq t s x))(hd:dOK d N=true)(ht:yd P t=some (e,K',bytes))
 (hs:ev ρ s=.slice (some ⟨b,0,none⟩) n cap) (hj:l[j]? =some (b,.cells cur e (0,0))) (hr:Rw K' cur cap n xs) (hx:ev ρ x=.slice (some ⟨bx,0,none⟩) 1 c) (hk:l[k]? =some (bx,.cells Y e (0,0)))
 (hY:Y.size=K') (hone: ∀u∈Y.toList,u.oneCell'=true) (hb:(n+1)*bytes≤0x800000000000) (hm:n+1≤maxLen)
 (kk: ∀b' cap' cur' w',St B w0 w' (l.set j (b',.cells cur' e (0,0)))→Rw K' cur' cap' (n+1) (xs++Y.toList)→WPs P N ops K r (zm ρ d (.slice (some ⟨b',0,none⟩) (n+1) cap')) w'):WPs P N ops K (i::r) ρ w:=by
 obtain ⟨o,ho,rfl,hw,hop⟩:=zH h;obtain ⟨b',cap',cur',w',hrun,HS',hr'⟩:=uQ HS ht hop hs hj hr hx hk hY hone hb hm;refine WPo.run ho hw fun a ha=>?_;rw [hrun,Oper.upon_value];exact ⟨_,ha.put _ (zM hd) _,kk b' cap' cur' w' HS' hr'⟩
end
def putA (cur:Array Value)(off:Nat)(v:Value):Array Value:=(cur.toList.take off++v.cells.toList++cur.toList.drop (off+v.cells.size)).toArray
theorem Rw.putA {K:Nat}{cur:Array Value}{cap n:Nat}{xs:List Value}(h:Rw K cur cap n xs)(off:Nat)(v:Value)(hle:off+v.cells.size≤n*K):
 off+v.cells.size≤cur.size∧Rw K (putA cur off v) cap n (xs.take off++v.cells.toList++xs.drop (off+v.cells.size)):=by
 have hcap:n*K≤cap*K:=Nat.mul_le_mul_right _ h.le;have hsz:=h.sz;have hA:cur.toList.length=cap*K:=by rw [Array.length_toList,hsz]
 have hx:xs=cur.toList.take (n*K):=h.take.symm;have hv:v.cells.toList.length=v.cells.size:=Array.length_toList;have e1:(cur.toList.take off).length=off:=by rw [List.length_take];omega
 refine ⟨by omega,?_,h.le,h.max,?_,?_⟩
 ·rw [List.length_append,List.length_append,List.length_take,List.length_drop,h.len,hv];omega
 ·unfold Go.Proofs.YtpghmdbjmigjlaaGreatDoor.putA;rw [List.toList_toArray,List.take_append,List.length_append,e1,hv,List.take_of_length_le (l:=cur.toList.take off++v.cells.toList) (by rw [List.length_append,e1,hv];exact hle),hx,List.take_take,Nat.min_eq_left (by omega),List.drop_take]
 ·unfold Go.Proofs.YtpghmdbjmigjlaaGreatDoor.putA;rw [List.size_toArray,List.length_append,List.length_append,e1,List.length_drop,hv,hA];omega
theorem zdd {X Z V:List Value}{off:Nat}(hX:X.length=off)(hZ:Z.length=V.length):(X++Z).take off++V++(X++Z).drop (off+V.length)=X++V:=by
 rw [List.take_append,hX,Nat.sub_self,List.take_zero,List.append_nil,List.take_of_length_le (by omega),List.drop_append,hX,List.drop_of_length_le (by omega),List.nil_append,List.drop_of_length_le (by omega),List.append_nil]
def sS:Fl ByteArray where
 K:=1
 cs x:=[.string x]
 pos:=by decide
 len _:=rfl
 one _:=fun u hu=>by obtain rfl:=List.mem_singleton.1 hu;rfl
theorem yh {P:Program}{ρ:Env}{t e:TypeId}{K bytes:Nat}(ht:yd P t=some (e,K,bytes)){x y:Operand}{o:Oper}{kd:IntKind}{p:Option Addr}(b q n c k:Nat)(hp:p=some ⟨b,q,none⟩)(ho:o.op=.indexAddr t x y)(hx:ev ρ x=.slice p n c)(hy:ev ρ y=.int kd (k:Int))(hk:k<n):
 ∀w,(execOp (ev ρ) o).run P w=.ok (.value (.pointer (some ⟨b,q+k*K,none⟩))) w:=by
 subst hp;exact xT ht b q n c k ho hx hy hk
section
variable {α:Type}{S:Fl α}
def AtF (S:Fl α)(w:World)(p:Option Addr)(n:Nat)(L:List α):Prop:=n=L.length∧(L=[]∨∃b off C T fz,p=some ⟨b,off,none⟩∧w.heap[b]? =some (.cells C T fz)∧jk S C off L)
theorem AtF.call {w w':World}{p:Option Addr}{n:Nat}{L:List α}(h:AtF S w p n L)(hb:Below w.heap.size w w'):AtF S w' p n L:=by
 obtain ⟨h1,h2⟩:=h;refine ⟨h1,h2.imp id ?_⟩;rintro ⟨b,off,C,T,fz,e,hh,hr⟩;exact ⟨b,off,C,T,fz,e,by rw [hb.block b (zr hh)];exact hh,hr⟩
theorem AtF.take {w:World}{p:Option Addr}{n:Nat}{L:List α}(h:AtF S w p n L)(k:Nat)(hk:k≤n):AtF S w p k (L.take k):=by
 obtain ⟨h1,h2⟩:=h;refine ⟨by rw [List.length_take];omega,?_⟩;rcases h2 with rfl|⟨b,off,C,T,fz,e,hh,hr⟩
 ·exact .inl (by simp)
 ·exact .inr ⟨b,off,C,T,fz,e,hh,hr.take k⟩
theorem yk.atF {ty:TypeId}{p:Option Addr}{n c:Nat}{row:List (Nat×Obj)}{L:List α}(h:yk S ty p n c row L){B:Nat}{w0 w:World}{l:List (Nat×Obj)}(hS:St B w0 w l)(hl: ∀e∈row,e∈l):AtF S w p n L:=by
 rcases h with ⟨rfl,rfl,rfl,rfl,rfl⟩|⟨b,cur,rfl,rfl,hr⟩
 ·exact ⟨rfl,.inl rfl⟩
 ·exact ⟨hr.lenF.symm,.inr ⟨b,0,cur,ty,(0,0),rfl,(hS.own _ (hl _ (List.mem_singleton.2 rfl))).2,hr.rowAt⟩⟩
def yX (p:Option Addr)(n c:Nat):Prop:=(p=none∧n=0∧c=0)∨((∃a,p=some a)∧n≤c)
theorem yX.cut {p:Option Addr}{n c k:Nat}(h:yX p n c)(hk:k≤n):yX p k c:=by
 rcases h with ⟨rfl,rfl,rfl⟩|⟨h1,h2⟩
 ·exact .inl ⟨rfl,by omega,rfl⟩
 ·exact .inr ⟨h1,by omega⟩
theorem zkt {P:Program}{ρ:Env}{t e:TypeId}{size bytes:Nat}(ht:yd P t=some (e,size,bytes)){x y:Operand}{o:Oper}{kd:IntKind}{p:Option Addr}{n c k:Nat}(h:yX p n c)(hk:k≤n)(ho:o.op=.slice t x none (some y) none)(hx:ev ρ x=.slice p n c)(hy:ev ρ y=.int kd (k:Int)):
 ∀w,(execOp (ev ρ) o).run P w=.ok (.value (.slice p k c)) w:=fun w=>by
 rcases h with ⟨rfl,rfl,rfl⟩|⟨⟨a,rfl⟩,h2⟩
 ·obtain rfl:k=0:=by omega
  obtain ⟨it,z,hu,hi,hz,hsz,hby,hzs,h0⟩:=yW ht;have hS:(sizeOf e).run P w=.ok size w:=by simp [sizeOf,typeInfo,hi,hsz]
  unfold execOp;simp [ho,hx,hy,Instr.sliceAt,Instr.slice,Instr.sliceBounds,Instr.sliceBound,asIntOf,run_underlying hu,hS]
 ·exact zkl ht a n c k ho hx hy (by omega) w
theorem zfP {P:Program}{ρ:Env}{w w0:World}{B:Nat}{bx n c mc e:Nat}{p:Option Addr}{row Z:List (Nat×Obj)}{M0:List α}{y:α}(HS:St B w0 w ((bx,.cells (S.cs y).toArray e (0,0))::(row++Z)))(hrow:yk S e p n c row M0)
 {t bytes:Nat} {s x:Operand} {o:Oper} (ht:yd P t=some (e,S.K,bytes)) (ho:o.op=yq t s x) (hs:ev ρ s=.slice p n c) (hx:ev ρ x=.slice (some ⟨bx,0,none⟩) 1 mc) (hb:(n+1)*bytes≤0x800000000000) (hm:n+1≤maxLen):
 ∃b' cap' cur' w',(execOp (ev ρ) o).run P w=.ok (.value (.slice (some ⟨b',0,none⟩) (n+1) cap')) w'∧St B w0 w' ((b',.cells cur' e (0,0))::Z)∧Rw S.K cur' cap' (n+1) (zo S (M0++ [y])):=by
 have hY:(S.cs y).toArray.size=S.K:=by rw [List.size_toArray,S.len]
 have hone: ∀u∈(S.cs y).toArray.toList,u.oneCell'=true:=fun u hu=>S.one y u (by simpa using hu);rcases hrow with ⟨rfl,rfl,rfl,rfl,rfl⟩ | ⟨b,cur,rfl,rfl,hrw⟩
 ·obtain ⟨b',cap',cur',w',hrun,HS',hr'⟩:=za6 (k:=0) HS ht ho hs hx rfl hY hone hb;refine ⟨b',cap',cur',w',hrun,HS'.sub (List.Sublist.cons_cons _ (List.sublist_cons_self ..)),?_⟩;rw [zfJ];exact hr'
 ·obtain ⟨b',cap',cur',w',hrun,HS',hr'⟩:=uQ (j:=1) (k:=0) HS ht ho hs rfl hrw hx rfl hY hone hb hm;refine ⟨b',cap',cur',w',hrun,HS'.sub (List.sublist_cons_self ..),?_⟩;rw [zfJ];exact hr'
end
section
variable {P:Program}{N:Nat}{ops:Array Oper}{K:Env→World→Prop}{ρ:Env}{w w0:World}{i B:Nat}{r:List Nat}{l:List (Nat×Obj)}
theorem vJ (HS:St B w0 w l)(d:Option Nat)(V:Nat→Value)(C:Array Value)(T:TypeId)(h:opv P ops i ρ w=some (d,true,.ok (.value (V w.heap.size)) (w.alloc (.cells C T (0,0)))))(hd:dOK d N=true)
 (kk: ∀b w',St B w0 w' ((b,.cells C T (0,0))::l)→WPs P N ops K r (zm ρ d (V b)) w'):WPs P N ops K (i::r) ρ w:=by
 obtain ⟨o,ho,rfl,hw,hr⟩:=zQ h;refine WPo.run ho hw fun a ha=>?_;rw [hr,Oper.upon_value];exact ⟨_,ha.put _ (zM hd) _,kk w.heap.size _ (HS.alloc _)⟩
theorem uR {α:Type}{S:Fl α}{nb n c:Nat}{p:Option Addr}{row Z:List (Nat×Obj)}{M:List α}{y:α}(d:Option Nat)(t e bytes:Nat)(s x:Operand)(HS:St B w0 w ((nb,.cells (S.cs y).toArray e (0,0))::(row++Z)))(hrow:yk S e p n c row M)
 (h:opk ops i ρ=some (d,true,yq t s x)) (hd:dOK d N=true) (ht:yd P t=some (e,S.K,bytes)) (hs:ev ρ s=.slice p n c) (hx:ev ρ x=.slice (some ⟨nb,0,none⟩) 1 1) (hb:(n+1)*bytes≤0x800000000000) (hm:n+1≤maxLen)
 (kk: ∀b' cap' cur' w',St B w0 w' ((b',.cells cur' e (0,0))::Z)→Rw S.K cur' cap' (n+1) (zo S (M++ [y]))→WPs P N ops K r (zm ρ d (.slice (some ⟨b',0,none⟩) (n+1) cap')) w'):WPs P N ops K (i::r) ρ w:=by
 obtain ⟨o,ho,rfl,hw,hop⟩:=zH h;obtain ⟨b',cap',cur',w',hrun,HS',hr'⟩:=zfP HS hrow ht hop hs hx hb hm;refine WPo.run ho hw fun a ha=>?_;rw [hrun,Oper.upon_value];exact ⟨_,ha.put _ (zM hd) _,kk b' cap' cur' w' HS' hr'⟩
end
theorem D2.run_val {P:Program}{ops:Array Oper}{d:Option Nat}{ρ:Env}{k:Nat}{w:World}{S:Value→World→Prop}{v:Value}(h:opv P ops k ρ w=some (d,true,.ok (.value v) w))(hS:S v w):
 ∃o,ops[k]? =some o∧o.dst=d∧Region.wanted o (zC ops ρ)=true∧D2.Runs P S ((execOp (ev ρ) o).run P w):=by
 obtain ⟨o,ho,hd,hw,hr⟩:=zQ h;exact ⟨o,ho,hd,hw,by rw [hr];exact hS⟩
end Go.Proofs.YtpghmdbjmigjlaaGreatDoor
namespace Go.Proofs.YtpghmdbjmigjlaaGreatDoor
open Go Go.ChangeShapes Go.WideShapes Go.ChangeAt Go.RowKit
set_option linter.unusedVariables false
set_option maxRecDepth 100000
theorem zku {C:Array Value}{o m:Nat}{l:List Value}(hl:l.length=m)(hm:0<m)(h: ∀j,j<m→C[o+j]? =l[j]?):o+m≤C.size∧C.extract o (o+m)=l.toArray:=by
 have hs:o+m≤C.size:=by
  have h1:=h (m-1) (by omega);rw [List.getElem?_eq_getElem (by omega)] at h1;have:=(Array.getElem?_eq_some_iff.1 h1).1;omega
 refine ⟨hs,?_⟩;apply Array.toList_inj.1;apply List.ext_getElem?;intro i;rw [Array.getElem?_toList,Array.getElem?_extract,List.toList_toArray];by_cases hi:i<m
 ·rw [if_pos (by omega),h i hi]
 ·rw [if_neg (by omega),List.getElem?_eq_none (by omega)]
section
variable {H:Type}{enc:TypeId×Value→H}{W:World}{sp:Nat→Bool}{held:Bool}
theorem zkv {a:Addr}{v:Value}(h:W.cell? a=some v):a=⟨a.block,a.off,none⟩∧∃C T fz,W.heap[a.block]? =some (.cells C T fz)∧C[a.off]? =some v:=by
 obtain ⟨b,o,sp⟩:=a;unfold World.cell? at h;split at h
 ·rename_i C T fz hh
  cases sp with
  | none=>simp at h;exact ⟨rfl,C,T,fz,hh,h⟩
  | some x=>simp at h
 ·cases h
theorem zkw {b o:Nat}{C:Array Value}{T:TypeId}{fz:Nat×Nat}{v:Option Value}(hh:W.heap[b]? =some (.cells C T fz))(h:W.cell? ⟨b,o,none⟩=v):C[o]? =v:=by
 unfold World.cell? at h;simp only [hh] at h;simpa using h
theorem za8 {a:Int}(h:(Lit.int .u64 a).wf=true):∃n:Nat,n<0x10000000000000000∧a=((n:Nat):Int):=by
 have h2:0≤a∧a<0x10000000000000000:=by
  simp [Lit.wf,IntKind.min,IntKind.max,IntKind.signed,IntKind.bits] at h;omega
 exact ⟨a.toNat,by omega,by omega⟩
theorem zfQ {α:Type}{S:Fl α}{ok:α→Prop}{st et:TypeId}(hst:Tryz.prog.underlying st=some (.slice et))(hc:Tryz.prog.cellsOf et=S.K)(hone: ∀(fuel:Nat) (cs:List Value) (x:DataW H×List MemPlace),DataW.trod enc Tryz.prog W 0 sp held fuel et cs=some x→∃a:α,cs=S.cs a∧ok a)
 {fuel:Nat} {c0:Value} {x:DataW H×List MemPlace} (hf:DataW.trod enc Tryz.prog W 0 sp held fuel st [c0]=some x):
 ∃(q:Option Addr) (n c:Nat) (L:List α),c0=.slice q n c∧yX q n c∧(∀x∈L,ok x)∧AtF S W q n L:=by
 rcases DataW.trod_slice hst hf with ⟨hc,hx⟩|⟨a,len0,cap0,elems,rest,n',rfl,hc',hx,_,hlc,hcm,hel,hels,_,_⟩
 ·obtain rfl:c0=.slice none 0 0:=by simpa using hc
  exact ⟨none,0,0,[],rfl,.inl ⟨rfl,rfl,rfl⟩,(fun _ h=>nomatch h),rfl,.inl rfl⟩
 ·obtain rfl:c0=.slice (some a) len0 cap0:=by simpa using hc'
  have rows: ∀q,q≤len0→∃L:List α,L.length=q∧(∀x∈L,ok x)∧ ∀(i:Nat) (z:α),L[i]? =some z→W.cells? 0 (a.add (i*S.K)) S.K=some (S.cs z):=by
   intro q
   induction q with
   | zero=>exact fun _=>⟨[],rfl,(fun _ h=>nomatch h),fun i z h=>by simp at h⟩
   | succ q ihq=>
    intro hq;obtain ⟨L,hL,hk,hcc⟩:=ihq (by omega);have hi:=hels q (by omega);rw [hc] at hi;have hlt:q<elems.length:=by omega
    rw [List.getElem?_eq_getElem hlt] at hi;obtain ⟨cs',hcs,ht⟩:=Option.bind_eq_some_iff.1 hi;obtain ⟨nd,rfl,hnd⟩:=hone n' cs' _ ht;refine ⟨L++ [nd],by simp [hL],fun x hx=>?_,fun i z hz=>?_⟩
    ·rcases List.mem_append.1 hx with hx|hx
     ·exact hk x hx
     ·rw [List.mem_singleton.1 hx];exact hnd
    by_cases hiq:i<L.length
    ·rw [List.getElem?_append_left hiq] at hz;exact hcc i z hz
    ·rw [List.getElem?_append_right (by omega)] at hz;have:i-L.length=0:=by
      have:=(List.getElem?_eq_some_iff.1 hz).1;simp at this;omega
     rw [this] at hz;simp at hz;subst hz;obtain rfl:i=q:=by omega
     exact hcs
  obtain ⟨L,hL,hk,hcl⟩:=rows len0 (Nat.le_refl _);refine ⟨some a,len0,cap0,L,rfl,.inr ⟨⟨a,rfl⟩,hlc⟩,hk,hL.symm,?_⟩;cases L with
  | nil=>exact .inl rfl
  | cons z0 L0=>
   have f0:=(World.cells?_some (hcl 0 z0 rfl)).2.2 0 S.pos;rw [Nat.zero_mul] at f0;have e0:(a.add 0).add 0=a:=rfl;rw [e0,List.getElem?_eq_getElem (by rw [S.len];exact S.pos)] at f0;obtain ⟨ea,C,T,fz,hh,hC0⟩:=zkv f0;refine .inr ⟨a.block,a.off,C,T,fz,congrArg some ea,hh,fun i z hz=>?_⟩;refine zku (S.len z) S.pos fun j hj=>?_;have h9:=(World.cells?_some (hcl i z hz)).2.2 j hj;rw [ea,qn,qn] at h9;exact zkw hh h9
end
end Go.Proofs.YtpghmdbjmigjlaaGreatDoor
namespace Go.Proofs.YtpghmdbjmigjlaaGreatDoor
open Go.RowKit
def Wd (x:Int):Prop:=0≤x∧x<0x10000000000000000
def Bt (c:Int):Prop:=0≤c∧c≤1
def w0 (n:Nat):Int:=((n%0x10000000000000000:Nat):Int)
def w1 (n:Nat):Int:=((n / 0x10000000000000000%0x10000000000000000:Nat):Int)
def w2 (n:Nat):Int:=((n / 0x100000000000000000000000000000000%0x10000000000000000:Nat):Int)
def w3 (n:Nat):Int:=((n / 0x1000000000000000000000000000000000000000000000000%0x10000000000000000:Nat):Int)
def big:Nat:=0x10000000000000000000000000000000000000000000000000000000000000000
def mk4 (a b c d:Int):Nat:=(a+0x10000000000000000*b+0x100000000000000000000000000000000*c+0x1000000000000000000000000000000000000000000000000*d).toNat
theorem wd0 (n:Nat):Wd (w0 n):=by unfold Wd w0;omega
theorem wd1 (n:Nat):Wd (w1 n):=by unfold Wd w1;omega
theorem wd2 (n:Nat):Wd (w2 n):=by unfold Wd w2;omega
theorem wd3 (n:Nat):Wd (w3 n):=by unfold Wd w3;omega
theorem uS {a b c d:Int}(ha:Wd a)(hb:Wd b)(hc:Wd c)(hd:Wd d):mk4 a b c d<big:=by
 unfold Wd at*;unfold mk4 big;omega
theorem za9 {a b c d:Int}(ha:Wd a)(hb:Wd b)(hc:Wd c)(hd:Wd d):w0 (mk4 a b c d)=a:=by
 unfold Wd at*;unfold mk4 w0;omega
theorem zba {a b c d:Int}(ha:Wd a)(hb:Wd b)(hc:Wd c)(hd:Wd d):w1 (mk4 a b c d)=b:=by
 unfold Wd at*;unfold mk4 w1;omega
theorem zbb {a b c d:Int}(ha:Wd a)(hb:Wd b)(hc:Wd c)(hd:Wd d):w2 (mk4 a b c d)=c:=by
 unfold Wd at*;unfold mk4 w2;omega
theorem zbc {a b c d:Int}(ha:Wd a)(hb:Wd b)(hc:Wd c)(hd:Wd d):w3 (mk4 a b c d)=d:=by
 unfold Wd at*;unfold mk4 w3;omega
theorem xx (n:Nat)(h:n<big):(n:Int)=w0 n+0x10000000000000000*w1 n+0x100000000000000000000000000000000*w2 n+0x1000000000000000000000000000000000000000000000000*w3 n:=by
 unfold big at h;unfold w0 w1 w2 w3;omega
theorem zkx {a b c d:Int}(ha:Wd a)(hb:Wd b)(hc:Wd c)(hd:Wd d):∃n:Nat,n<big∧a=w0 n∧b=w1 n∧c=w2 n∧d=w3 n:=
 ⟨mk4 a b c d,uS ha hb hc hd,(za9 ha hb hc hd).symm,(zba ha hb hc hd).symm,(zbb ha hb hc hd).symm,(zbc ha hb hc hd).symm⟩
theorem zfR {a b c d:Int}{n:Nat}(ha:Wd a)(hb:Wd b)(hc:Wd c)(hd:Wd d)
 (h:(n:Int)=a+0x10000000000000000*b+0x100000000000000000000000000000000*c+0x1000000000000000000000000000000000000000000000000*d):
 a=w0 n∧b=w1 n∧c=w2 n∧d=w3 n:=by
 have e:n=mk4 a b c d:=by unfold mk4;omega
 subst e;exact ⟨(za9 ha hb hc hd).symm,(zba ha hb hc hd).symm,(zbb ha hb hc hd).symm,(zbc ha hb hc hd).symm⟩
theorem zky {n m:Nat}(hn:n<big)(hm:m<big)(h0:w0 n=w0 m)(h1:w1 n=w1 m)(h2:w2 n=w2 m)(h3:w3 n=w3 m):n=m:=by
 have a:=xx n hn;have b:=xx m hm;rw [h0,h1,h2,h3] at a;omega
def vK (x y c s d:Int):Prop:=x+y+c=s+0x10000000000000000*d∧Wd s∧Bt d
def vL (x y c s d:Int):Prop:=x-y-c=s-0x10000000000000000*d∧Wd s∧Bt d
def ov (a b:Nat):Bool:=decide (big≤a+b)
def sm (a b:Nat):Nat:=(a+b)%big
def lo (a b:Nat):Bool:=decide (a<b)
def df (a b:Nat):Nat:=(a+big-b)%big
theorem zkz {A B:Nat}(hA:A<big)(hB:B<big){s0 c0 s1 c1 s2 c2 s3 c3:Int}(h0:vK (w0 A) (w0 B) 0 s0 c0)(h1:vK (w1 A) (w1 B) c0 s1 c1)(h2:vK (w2 A) (w2 B) c1 s2 c2)(h3:vK (w3 A) (w3 B) c2 s3 c3):
 (s0=w0 (sm A B)∧s1=w1 (sm A B)∧s2=w2 (sm A B)∧s3=w3 (sm A B))∧(c3==1)=ov A B:=by
 have a:=xx A hA;have b:=xx B hB;obtain ⟨e0,d0,_⟩:=h0;obtain ⟨e1,d1,_⟩:=h1;obtain ⟨e2,d2,_⟩:=h2;obtain ⟨e3,d3,k3⟩:=h3;have key:(A:Int)+B=s0+0x10000000000000000*s1+0x100000000000000000000000000000000*s2+0x1000000000000000000000000000000000000000000000000*s3+0x10000000000000000000000000000000000000000000000000000000000000000*c3:=by omega
 have lt:=uS d0 d1 d2 d3;have em:((mk4 s0 s1 s2 s3:Nat):Int)=s0+0x10000000000000000*s1+0x100000000000000000000000000000000*s2+0x1000000000000000000000000000000000000000000000000*s3:=by
  unfold Wd at*;unfold mk4;omega
 constructor
 ·refine zfR d0 d1 d2 d3 ?_;rw [←em];unfold sm;unfold big at*;unfold Bt at*;omega
 ·unfold ov;rw [Bool.eq_iff_iff];simp only [beq_iff_eq,decide_eq_true_eq];unfold big at*;unfold Bt at*;omega
theorem zkA {A B:Nat}(hA:A<big)(hB:B<big){s0 c0 s1 c1 s2 c2 s3 c3:Int}(h0:vL (w0 A) (w0 B) 0 s0 c0)(h1:vL (w1 A) (w1 B) c0 s1 c1)(h2:vL (w2 A) (w2 B) c1 s2 c2)(h3:vL (w3 A) (w3 B) c2 s3 c3):
 (s0=w0 (df A B)∧s1=w1 (df A B)∧s2=w2 (df A B)∧s3=w3 (df A B))∧(c3==1)=lo A B:=by
 have a:=xx A hA;have b:=xx B hB;obtain ⟨e0,d0,_⟩:=h0;obtain ⟨e1,d1,_⟩:=h1;obtain ⟨e2,d2,_⟩:=h2;obtain ⟨e3,d3,k3⟩:=h3;have key:(A:Int)-B=s0+0x10000000000000000*s1+0x100000000000000000000000000000000*s2+0x1000000000000000000000000000000000000000000000000*s3-0x10000000000000000000000000000000000000000000000000000000000000000*c3:=by omega
 have lt:=uS d0 d1 d2 d3;have em:((mk4 s0 s1 s2 s3:Nat):Int)=s0+0x10000000000000000*s1+0x100000000000000000000000000000000*s2+0x1000000000000000000000000000000000000000000000000*s3:=by
  unfold Wd at*;unfold mk4;omega
 constructor
 ·refine zfR d0 d1 d2 d3 ?_;rw [←em];unfold df;unfold big at*;unfold Bt at*;omega
 ·unfold lo;rw [Bool.eq_iff_iff];simp only [beq_iff_eq,decide_eq_true_eq];unfold big at*;unfold Bt at*;omega
end Go.Proofs.YtpghmdbjmigjlaaGreatDoor
namespace Go.Proofs.Ec
set_option linter.unusedVariables false
set_option linter.unusedSectionVars false
section
variable {F:Type}[Lean.Grind.Field F]
variable [DecidableEq F]
end
end Go.Proofs.Ec
namespace Go.Proofs.YtpghmdbjmigjlaaGreatDoor
set_option linter.unusedVariables false
def PrP (p:Nat):Prop:=1<p∧ ∀d,d∣p→d=1∨d=p
theorem zkB {n:Nat} : ∀k,(∃d,1<d∧d≤k∧d∣n)→∃r,1<r∧r∣n∧ ∀d,1<d→d∣n→r≤d
 | 0,⟨d,h1,h2,_⟩=>by omega
 | k+1,⟨d,h1,h2,h3⟩=>by
  by_cases h:∃d,1<d∧d≤k∧d∣n
  ·exact zkB k h
  ·have hd:d=k+1:=by
    rcases Nat.lt_or_ge k d with h' | h'
    ·omega
    ·exact absurd ⟨d,h1,h',h3⟩ h
   refine ⟨d,h1,h3,fun e he hen=>?_⟩;rcases Nat.lt_or_ge e d with h' | h'
   ·exact absurd ⟨e,he,by omega,hen⟩ h
   ·exact h'
def pm (a N:Nat):Nat→Nat→Nat
 | 0,_=>1%N
 | f+1,n=>bif Nat.beq (n%2) 1 then pm a N f (n / 2)*pm a N f (n / 2)%N*a%N else pm a N f (n / 2)*pm a N f (n / 2)%N
theorem zfS (a N:Nat): ∀f n,n<2^f→pm a N f n=a^n%N
 | 0,n,h=>by
  have:n=0:=by rw [Nat.pow_zero] at h;omega
  subst this;rfl
 | f+1,n,h=>by
  have ih:=zfS a N f (n / 2) (by rw [Nat.pow_succ] at h;omega);rw [pm,ih];cases hb:Nat.beq (n%2) 1 with
  | true=>
   have h1:=Nat.eq_of_beq_eq_true hb;rw [cond_true,←Nat.mul_mod,←Nat.pow_add,Nat.mod_mul_mod,←Nat.pow_succ];congr 2;omega
  | false=>
   have h1:n%2≠1:=fun h=>by rw [h] at hb;cases hb
   rw [cond_false,←Nat.mul_mod,←Nat.pow_add];congr 2;omega
end Go.Proofs.YtpghmdbjmigjlaaGreatDoor
namespace Go.Proofs.Zm
open Go.Proofs.YtpghmdbjmigjlaaGreatDoor
set_option linter.unusedVariables false
class PrM (M:Nat):Prop where
 pr:PrP M
 two:2<M
section
variable {M:Nat}[hM:PrM M]
end
end Go.Proofs.Zm
namespace Go.Proofs.YtpghmdbjmigjlaaGreatDoor
open Go.ChangeShapes Go.WideShapes Go.ChangeAt Go.RowKit
set_option linter.unusedVariables false
@[reducible] def uv (n:Nat):Value:=.agg #[.int .u64 (w0 n),.int .u64 (w1 n),.int .u64 (w2 n),.int .u64 (w3 n)]
theorem vM {x y c:Int}(hx:Wd x)(hy:Wd y)(hc:Bt c):∃s d,(∀w,(callFunc 158 #[.int .u64 x,.int .u64 y,.int .u64 c]).run Tryz.prog w=.ok (.value (.tuple #[.int .u64 s,.int .u64 d])) w)∧vK x y c s d:=by
 obtain ⟨hx0,hx1⟩:=hx;obtain ⟨hy0,hy1⟩:=hy;obtain ⟨hc0,hc1⟩:=hc;obtain ⟨X,rfl⟩:=Int.eq_ofNat_of_zero_le hx0;obtain ⟨Y,rfl⟩:=Int.eq_ofNat_of_zero_le hy0;obtain ⟨C,rfl⟩:=Int.eq_ofNat_of_zero_le hc0;refine ⟨(((X+Y+C)%0x10000000000000000:Nat):Int),(((X+Y+C) / 0x10000000000000000:Nat):Int),fun w=>?_,?_⟩
 ·rw [run_callFunc_extern Tryz.func158 (by kernel_rfl) (by kernel_rfl) (by kernel_rfl) (e:=add64Entry) (by kernel_rfl),run_add64 X Y C (by omega) (by omega) (by omega) (by omega)];simp only [Result.andThen];congr 5<;>omega
 ·unfold vK Wd Bt;omega
theorem zbd {x y c:Int}(hx:Wd x)(hy:Wd y)(hc:Bt c):∃s d,(∀w,(callFunc 157 #[.int .u64 x,.int .u64 y,.int .u64 c]).run Tryz.prog w=.ok (.value (.tuple #[.int .u64 s,.int .u64 d])) w)∧vL x y c s d:=by
 obtain ⟨hx0,hx1⟩:=hx;obtain ⟨hy0,hy1⟩:=hy;obtain ⟨hc0,hc1⟩:=hc;obtain ⟨X,rfl⟩:=Int.eq_ofNat_of_zero_le hx0;obtain ⟨Y,rfl⟩:=Int.eq_ofNat_of_zero_le hy0;obtain ⟨C,rfl⟩:=Int.eq_ofNat_of_zero_le hc0;refine ⟨(((X+0x10000000000000000-Y-C)%0x10000000000000000:Nat):Int),((if X<Y+C then 1 else 0:Nat):Int),fun w=>?_,?_⟩
 ·rw [run_callFunc_extern Tryz.func157 (by kernel_rfl) (by kernel_rfl) (by kernel_rfl) (e:=sub64Entry) (by kernel_rfl),run_sub64 X Y C (by omega)];rfl
 ·unfold vL Wd Bt;split<;>omega
theorem ix0 (x0 x1 x2 x3:Value)(w:World):(Instr.index 24 (.agg #[x0,x1,x2,x3]) (.int .i64 0)).run Tryz.prog w=.ok x0 w:=by kernel_rfl
theorem ix1 (x0 x1 x2 x3:Value)(w:World):(Instr.index 24 (.agg #[x0,x1,x2,x3]) (.int .i64 1)).run Tryz.prog w=.ok x1 w:=by kernel_rfl
theorem ix2 (x0 x1 x2 x3:Value)(w:World):(Instr.index 24 (.agg #[x0,x1,x2,x3]) (.int .i64 2)).run Tryz.prog w=.ok x2 w:=by kernel_rfl
theorem ix3 (x0 x1 x2 x3:Value)(w:World):(Instr.index 24 (.agg #[x0,x1,x2,x3]) (.int .i64 3)).run Tryz.prog w=.ok x3 w:=by kernel_rfl
theorem zkC (n:Int)(w:World):Calls Tryz.prog 120 #[.int .u64 n] w fun e w'=>e=.returned (.agg #[.int .u64 n,wZ,wZ,wZ])∧Below w.heap.size w w':=by
 go_enter Tryz.func120,Tryz.ntmps120
 go_wp2
 go_returns
 exact ⟨rfl,by go_grown⟩
theorem zkD (A B:Nat)(hA:A<big)(hB:B<big)(w:World):Calls Tryz.prog 119 #[uv A,uv B] w fun e w'=>e=.returned (.tuple #[uv (sm A B),.bool (ov A B)])∧Below w.heap.size w w':=by
 obtain ⟨s0,c0,r0,e0⟩:=vM (wd0 A) (wd0 B) (c:=0) (by unfold Bt;omega);obtain ⟨s1,c1,r1,e1⟩:=vM (wd1 A) (wd1 B) e0.2.2;obtain ⟨s2,c2,r2,e2⟩:=vM (wd2 A) (wd2 B) e1.2.2;obtain ⟨s3,c3,r3,e3⟩:=vM (wd3 A) (wd3 B) e2.2.2;obtain ⟨⟨q0,q1,q2,q3⟩,q4⟩:=zkz hA hB e0 e1 e2 e3;clear e0 e1 e2 e3;unfold uv;rw [←q0,←q1,←q2,←q3,←q4];clear q0 q1 q2 q3 q4;have i0:=ix0;have i1:=ix1;have i2:=ix2;have i3:=ix3
 go_enter Tryz.func119,Tryz.ntmps119
 go_wp2
 go_rounds 5
 go_returns
 exact ⟨rfl,by go_grown⟩
theorem zkE (A B:Nat)(hA:A<big)(hB:B<big)(w:World):Calls Tryz.prog 117 #[uv A,uv B] w fun e w'=>e=.returned (.tuple #[uv (df A B),.bool (lo A B)])∧Below w.heap.size w w':=by
 obtain ⟨s0,c0,r0,e0⟩:=zbd (wd0 A) (wd0 B) (c:=0) (by unfold Bt;omega);obtain ⟨s1,c1,r1,e1⟩:=zbd (wd1 A) (wd1 B) e0.2.2;obtain ⟨s2,c2,r2,e2⟩:=zbd (wd2 A) (wd2 B) e1.2.2;obtain ⟨s3,c3,r3,e3⟩:=zbd (wd3 A) (wd3 B) e2.2.2;obtain ⟨⟨q0,q1,q2,q3⟩,q4⟩:=zkA hA hB e0 e1 e2 e3;clear e0 e1 e2 e3;unfold uv;rw [←q0,←q1,←q2,←q3,←q4];clear q0 q1 q2 q3 q4;have i0:=ix0;have i1:=ix1;have i2:=ix2;have i3:=ix3
 go_enter Tryz.func117,Tryz.ntmps117
 go_wp2
 go_rounds 5
 go_returns
 exact ⟨rfl,by go_grown⟩
def mH (x y:Int):Int:=x*y / 0x10000000000000000
def mL (x y:Int):Int:=x*y%0x10000000000000000
theorem zkF (x y:Nat)(hx:x<0x10000000000000000)(hy:y<0x10000000000000000)(w:World):
 Calls Tryz.prog 133 #[.int .u64 x,.int .u64 y] w fun e w'=>e=.returned (.tuple #[.int .u64 ((x*y / 0x10000000000000000:Nat):Int),.int .u64 ((x*y%0x10000000000000000:Nat):Int)])∧w=w':=by
 obtain ⟨bd,bt,bw,hhi⟩:=Lib.mul64_hi x y hx hy;have ba:=Lib.half_mul_le (a:=x / 4294967296) (b:=y / 4294967296) (by omega) (by omega);have bb:=Lib.half_mul_le (a:=x / 4294967296) (b:=y%4294967296) (by omega) (by omega);have bc:=Lib.half_mul_le (a:=x%4294967296) (b:=y / 4294967296) (by omega) (by omega);have ba':x / 4294967296*(y / 4294967296)<0x10000000000000000:=by omega
 have bb':x / 4294967296*(y%4294967296)<0x10000000000000000:=by omega
 have bc':x%4294967296*(y / 4294967296)<0x10000000000000000:=by omega
 have bh1:x / 4294967296*(y / 4294967296)+(x / 4294967296*(y%4294967296)+x%4294967296*(y%4294967296) / 4294967296) / 4294967296<0x10000000000000000:=by omega
 have bh:x / 4294967296*(y / 4294967296)+(x / 4294967296*(y%4294967296)+x%4294967296*(y%4294967296) / 4294967296) / 4294967296+((x / 4294967296*(y%4294967296)+x%4294967296*(y%4294967296) / 4294967296)%4294967296+x%4294967296*(y / 4294967296)) / 4294967296<0x10000000000000000:=by omega
 go_enter Tryz.func133,Tryz.ntmps133
 go_wp2
 simp only [Mul64.maskN x hx,Mul64.maskN y hy,Mul64.divN,Mul64.mulN,Mul64.addN,Mul64.wrapN _ bd,Mul64.wrapN _ bb',Mul64.wrapN _ bt,Mul64.maskN _ bt,Mul64.wrapN _ bc',Mul64.wrapN _ bw,Mul64.wrapN _ ba',Mul64.wrapN _ bh1,Mul64.wrapN _ bh,Mul64.wrapM (x*y)];rw [hhi]
 go_ret2
 exact ⟨rfl,rfl⟩
theorem yY {x y:Int}(hx:Wd x)(hy:Wd y)(w:World):
 Calls Tryz.prog 133 #[.int .u64 x,.int .u64 y] w fun e w'=>e=.returned (.tuple #[.int .u64 (mH x y),.int .u64 (mL x y)])∧w=w':=by
 obtain ⟨hx0,hx1⟩:=hx;obtain ⟨hy0,hy1⟩:=hy;obtain ⟨X,rfl⟩:=Int.eq_ofNat_of_zero_le hx0;obtain ⟨Y,rfl⟩:=Int.eq_ofNat_of_zero_le hy0;have e1:mH X Y=((X*Y / 0x10000000000000000:Nat):Int):=by unfold mH;omega
 have e2:mL X Y=((X*Y%0x10000000000000000:Nat):Int):=by unfold mL;omega
 rw [e1,e2];exact zkF X Y (by omega) (by omega) w
def yQ (x y p c s d:Int):Prop:=x*y+p+c=s+0x10000000000000000*d∧Wd s∧Wd d
theorem qF {x y p c:Int}(hx:Wd x)(hy:Wd y)(hp:Wd p)(hc:Wd c):∃l1 o1 l2 o2,
 (∀w,(callFunc 158 #[.int .u64 (mL x y),.int .u64 p,wZ]).run Tryz.prog w=.ok (.value (.tuple #[.int .u64 l1,.int .u64 o1])) w)∧
 (∀w,(callFunc 158 #[.int .u64 l1,.int .u64 c,wZ]).run Tryz.prog w=.ok (.value (.tuple #[.int .u64 l2,.int .u64 o2])) w)∧
 IntKind.u64.wrap (mH x y+o1)=mH x y+o1∧IntKind.u64.wrap (mH x y+o1+o2)=mH x y+o1+o2∧yQ x y p c l2 (mH x y+o1+o2):=by
 have hm:0≤x*y∧x*y≤0xfffffffffffffffe0000000000000001:=by
  obtain ⟨hx0,hx1⟩:=hx;obtain ⟨hy0,hy1⟩:=hy;refine ⟨Int.mul_nonneg hx0 hy0,?_⟩;have:=Int.mul_le_mul (show x≤0xffffffffffffffff by omega) (show y≤0xffffffffffffffff by omega) hy0 (by omega);omega
 have hL:Wd (mL x y):=by unfold Wd mL;omega
 obtain ⟨l1,o1,r1,e1,d1,b1⟩:=vM hL hp (c:=0) (by unfold Bt;omega);obtain ⟨l2,o2,r2,e2,d2,b2⟩:=vM d1 hc (c:=0) (by unfold Bt;omega);have k1:0≤mH x y+o1∧mH x y+o1+o2≤0xffffffffffffffff:=by
  unfold Wd Bt at*;unfold mH mL at*;omega
 have k2:0≤o2:=b2.1;refine ⟨l1,o1,l2,o2,r1,r2,?_,?_,?_⟩
 ·rw [IntKind.wrap_u64];omega
 ·rw [IntKind.wrap_u64];omega
 ·refine ⟨?_,d2,?_⟩
  ·unfold mH mL at*;omega
  ·unfold Wd;omega
def pl (A B:Nat):Nat:=A*B%big
def ph (A B:Nat):Nat:=A*B / big
theorem zbe {a b0 b1 b2 b3 p0 p1 p2 p3 q0 q1 q2 q3 c0 c1 c2 c3:Int}(h0:yQ a b0 p0 0 q0 c0)(h1:yQ a b1 p1 c0 q1 c1)(h2:yQ a b2 p2 c1 q2 c2)(h3:yQ a b3 p3 c2 q3 c3):
 a*(b0+0x10000000000000000*b1+0x100000000000000000000000000000000*b2+0x1000000000000000000000000000000000000000000000000*b3)+p0+0x10000000000000000*p1+0x100000000000000000000000000000000*p2+0x1000000000000000000000000000000000000000000000000*p3=q0+0x10000000000000000*q1+0x100000000000000000000000000000000*q2+0x1000000000000000000000000000000000000000000000000*q3+0x10000000000000000000000000000000000000000000000000000000000000000*c3:=by
 have e:a*(b0+0x10000000000000000*b1+0x100000000000000000000000000000000*b2+0x1000000000000000000000000000000000000000000000000*b3)=a*b0+0x10000000000000000*(a*b1)+0x100000000000000000000000000000000*(a*b2)+0x1000000000000000000000000000000000000000000000000*(a*b3):=by
  rw [Int.mul_add,Int.mul_add,Int.mul_add,Int.mul_left_comm a,Int.mul_left_comm a,Int.mul_left_comm a]
 obtain ⟨e0,_,_⟩:=h0;obtain ⟨e1,_,_⟩:=h1;obtain ⟨e2,_,_⟩:=h2;obtain ⟨e3,_,_⟩:=h3;rw [e];omega
theorem zkG {A B:Nat}(hA:A<big)(hB:B<big){q00 c00 q01 c01 q02 c02 q03 c03 q10 c10 q11 c11 q12 c12 q13 c13 q20 c20 q21 c21 q22 c22 q23 c23 q30 c30 q31 c31 q32 c32 q33 c33:Int}(m00:yQ (w0 A) (w0 B) 0 0 q00 c00)(m01:yQ (w0 A) (w1 B) 0 c00 q01 c01)(m02:yQ (w0 A) (w2 B) 0 c01 q02 c02)(m03:yQ (w0 A) (w3 B) 0 c02 q03 c03)(m10:yQ (w1 A) (w0 B) q01 0 q10 c10)(m11:yQ (w1 A) (w1 B) q02 c10 q11 c11)(m12:yQ (w1 A) (w2 B) q03 c11 q12 c12)(m13:yQ (w1 A) (w3 B) c03 c12 q13 c13)(m20:yQ (w2 A) (w0 B) q11 0 q20 c20)(m21:yQ (w2 A) (w1 B) q12 c20 q21 c21)(m22:yQ (w2 A) (w2 B) q13 c21 q22 c22)(m23:yQ (w2 A) (w3 B) c13 c22 q23 c23)(m30:yQ (w3 A) (w0 B) q21 0 q30 c30)(m31:yQ (w3 A) (w1 B) q22 c30 q31 c31)(m32:yQ (w3 A) (w2 B) q23 c31 q32 c32)(m33:yQ (w3 A) (w3 B) c23 c32 q33 c33):
 (q00=w0 (pl A B)∧q10=w1 (pl A B)∧q20=w2 (pl A B)∧q30=w3 (pl A B))∧q31=w0 (ph A B)∧q32=w1 (ph A B)∧q33=w2 (ph A B)∧c33=w3 (ph A B):=by
 have a:=xx A hA;have b:=xx B hB;have r0:=zbe m00 m01 m02 m03;have r1:=zbe m10 m11 m12 m13;have r2:=zbe m20 m21 m22 m23;have r3:=zbe m30 m31 m32 m33;rw [←b] at r0 r1 r2 r3;have e:(A:Int)*B=w0 A*B+0x10000000000000000*(w1 A*B)+0x100000000000000000000000000000000*(w2 A*B)+0x1000000000000000000000000000000000000000000000000*(w3 A*B):=by
  conv=>lhs;rw [a]
  rw [Int.add_mul,Int.add_mul,Int.add_mul,Int.mul_assoc,Int.mul_assoc,Int.mul_assoc]
 have d0:Wd q00:=m00.2.1;have d1:Wd q10:=m10.2.1;have d2:Wd q20:=m20.2.1;have d3:Wd q30:=m30.2.1;have d4:Wd q31:=m31.2.1;have d5:Wd q32:=m32.2.1;have d6:Wd q33:=m33.2.1;have d7:Wd c33:=m33.2.2;have key:(A:Int)*B=q00+0x10000000000000000*q10+0x100000000000000000000000000000000*q20+0x1000000000000000000000000000000000000000000000000*q30+0x10000000000000000000000000000000000000000000000000000000000000000*q31+0x100000000000000000000000000000000000000000000000000000000000000000000000000000000*q32+0x1000000000000000000000000000000000000000000000000000000000000000000000000000000000000000000000000*q33+0x10000000000000000000000000000000000000000000000000000000000000000000000000000000000000000000000000000000000000000*c33:=by omega
 clear r0 r1 r2 r3 e;have lt1:=uS d0 d1 d2 d3;have lt2:=uS d4 d5 d6 d7;have em1:((mk4 q00 q10 q20 q30:Nat):Int)=q00+0x10000000000000000*q10+0x100000000000000000000000000000000*q20+0x1000000000000000000000000000000000000000000000000*q30:=by unfold Wd at d0 d1 d2 d3;unfold mk4;omega
 have em2:((mk4 q31 q32 q33 c33:Nat):Int)=q31+0x10000000000000000*q32+0x100000000000000000000000000000000*q33+0x1000000000000000000000000000000000000000000000000*c33:=by unfold Wd at d4 d5 d6 d7;unfold mk4;omega
 have kn:A*B=mk4 q00 q10 q20 q30+0x10000000000000000000000000000000000000000000000000000000000000000*mk4 q31 q32 q33 c33:=by
  have:((A*B:Nat):Int)=(A:Int)*B:=Int.natCast_mul A B;omega
 have k1:pl A B=mk4 q00 q10 q20 q30:=by unfold pl;unfold big at*;omega
 have k2:ph A B=mk4 q31 q32 q33 c33:=by unfold ph;unfold big at*;omega
 rw [k1,k2];exact ⟨⟨(za9 d0 d1 d2 d3).symm,(zba d0 d1 d2 d3).symm,(zbb d0 d1 d2 d3).symm,(zbc d0 d1 d2 d3).symm⟩,(za9 d4 d5 d6 d7).symm,(zba d4 d5 d6 d7).symm,(zbb d4 d5 d6 d7).symm,(zbc d4 d5 d6 d7).symm⟩
end Go.Proofs.YtpghmdbjmigjlaaGreatDoor
namespace Go.Proofs.YtpghmdbjmigjlaaGreatDoor
set_option linter.unusedVariables false
def PR:Nat:=0xfffffffffffffffffffffffffffffffffffffffffffffffffffffffefffffc2f
def NR:Nat:=0xfffffffffffffffffffffffffffffffebaaedce6af48a03bbfd25e8cd0364141
def MOK (M:Nat):Prop:=M<big∧big<2*M
theorem qP:MOK PR:=by unfold MOK PR big;omega
theorem qu:MOK NR:=by unfold MOK NR big;omega
def rs (L H M:Nat):Nat:=(L+big*H)%M
theorem zde {L H M:Nat}(h:MOK M):rs L H M<big:=Nat.lt_trans (Nat.mod_lt _ (by unfold MOK big at h;omega)) h.1
theorem zbf {L H M:Nat}(h:MOK M):rs L H M<M:=Nat.mod_lt _ (by unfold MOK big at h;omega)
theorem uT (A B:Nat):sm A B<big:=Nat.mod_lt _ (by decide)
theorem zbg (A B:Nat):df A B<big:=Nat.mod_lt _ (by decide)
theorem zbh (A B:Nat):pl A B<big:=Nat.mod_lt _ (by decide)
theorem zdf {A B:Nat}(hA:A<big)(hB:B<big):ph A B<big:=by
 unfold ph;exact Nat.div_lt_of_lt_mul (Nat.mul_lt_mul'' hA hB)
theorem zfT (A B:Nat):A*B=pl A B+big*ph A B:=by unfold pl ph;exact (Nat.mod_add_div _ _).symm
theorem zkH {l h M:Nat}(hM:MOK M)(hl:l<big)(hh:h<big)(h0:h≠0):
 ∃h',(h'=if ov l (pl h (df 0 M)) then sm (ph h (df 0 M)) 1 else ph h (df 0 M))∧h'<big∧
  sm l (pl h (df 0 M))+big*h'+h*M=l+big*h:=by
 have hs:df 0 M=big-M:=by unfold df;unfold MOK at hM;rw [Nat.zero_add,Nat.mod_eq_of_lt];omega
 have hk:=zfT h (df 0 M);have hph:ph h (df 0 M)+1<big:=by
  have:ph h (df 0 M)<big-M:=by
   rw [hs];unfold ph;refine Nat.div_lt_of_lt_mul ?_;exact Nat.mul_lt_mul_of_pos_right hh (by unfold MOK at hM;omega)
  unfold MOK at hM;omega
 have hp:=zbh h (df 0 M);have hmul:h*(big-M)+h*M=big*h:=by rw [←Nat.mul_add,Nat.sub_add_cancel (Nat.le_of_lt hM.1),Nat.mul_comm]
 rw [←hs] at hmul;refine ⟨_,rfl,?_,?_⟩
 ·split
  ·exact uT _ _
  ·omega
 ·generalize df 0 M=s at*;generalize pl h s=p at*;generalize ph h s=q at*;generalize h*s=hs2 at*;unfold ov sm;by_cases ho:big≤l+p
  ·rw [decide_eq_true ho];simp only [if_true];rw [Nat.mod_eq_of_lt hph];have:(l+p)%big=l+p-big:=by rw [Nat.mod_eq_sub_mod ho,Nat.mod_eq_of_lt (by omega)]
   rw [this,Nat.mul_add,Nat.mul_one];omega
  ·rw [decide_eq_false ho];simp only [Bool.false_eq_true,if_false];rw [Nat.mod_eq_of_lt (by omega)];omega
theorem zfU {l h l' h' M L H:Nat}(he:l'+big*h'+h*M=l+big*h)(hm:(l+big*h)%M=rs L H M):(l'+big*h')%M=rs L H M:=by
 rw [←hm,←he,Nat.add_mul_mod_self_right]
theorem zfV {l h l' h' M:Nat}(hM:MOK M)(h0:h≠0)(he:l'+big*h'+h*M=l+big*h):l'+big*h'<l+big*h:=by
 have:0<h*M:=Nat.mul_pos (by omega) (by unfold MOK big at hM;omega);omega
theorem zkI {l M L H:Nat}(hM:MOK M)(hl:l<big)(hm:(l+big*0)%M=rs L H M)(hc:M≤l):df l M=rs L H M:=by
 rw [←hm];unfold df MOK at*;have h1:(l+big-M)%big=l-M:=by
  have:l+big-M=(l-M)+big:=by omega
  rw [this,Nat.add_mod_right,Nat.mod_eq_of_lt (by omega)]
 rw [h1,Nat.mul_zero,Nat.add_zero,Nat.mod_eq_sub_mod hc,Nat.mod_eq_of_lt (by omega)]
theorem zkJ {l M L H:Nat}(hm:(l+big*0)%M=rs L H M)(hc: ¬M≤l):l=rs L H M:=by
 rw [←hm,Nat.mul_zero,Nat.add_zero,Nat.mod_eq_of_lt (by omega)]
def fAdd (A B M:Nat):Nat:=(A+B)%M
def fMul (A B M:Nat):Nat:=A*B%M
def fSub (A B M:Nat):Nat:=(A%M+(M-B%M))%M
theorem zkK {A B M:Nat}(hA:A<big)(hB:B<big):rs (sm A B) (if ov A B then 1 else 0) M=fAdd A B M:=by
 unfold rs fAdd sm ov;by_cases ho:big≤A+B
 ·rw [decide_eq_true ho];simp only [if_true,Nat.mul_one];have:(A+B)%big=A+B-big:=by rw [Nat.mod_eq_sub_mod ho,Nat.mod_eq_of_lt (by omega)]
  rw [this,Nat.sub_add_cancel ho]
 ·rw [decide_eq_false ho];simp only [Bool.false_eq_true,if_false,Nat.mul_zero,Nat.add_zero];rw [Nat.mod_eq_of_lt (show A+B<big by omega)]
theorem uU (A B M:Nat):rs (pl A B) (ph A B) M=fMul A B M:=by unfold rs fMul;rw [←zfT]
theorem zkL {A B M:Nat}(hM:MOK M)(h:lo (rs A 0 M) (rs B 0 M)=true):sm (df (rs A 0 M) (rs B 0 M)) M=fSub A B M:=by
 have ha:=zbf (L:=A) (H:=0) hM;have hb:=zbf (L:=B) (H:=0) hM;unfold lo at h;have h:=of_decide_eq_true h;have e1:rs A 0 M=A%M:=by unfold rs;rw [Nat.mul_zero,Nat.add_zero]
 have e2:rs B 0 M=B%M:=by unfold rs;rw [Nat.mul_zero,Nat.add_zero]
 rw [e1] at ha h ⊢;rw [e2] at hb h ⊢;unfold fSub sm df;unfold MOK at hM;rw [Nat.mod_eq_of_lt (show A%M+big-B%M<big by omega)];have:A%M+big-B%M+M=(A%M+(M-B%M))+big:=by omega
 rw [this,Nat.add_mod_right,Nat.mod_eq_of_lt (show A%M+(M-B%M)<big by omega),Nat.mod_eq_of_lt (show A%M+(M-B%M)<M by omega)]
theorem zkM {A B M:Nat}(hM:MOK M)(h:lo (rs A 0 M) (rs B 0 M)=false):df (rs A 0 M) (rs B 0 M)=fSub A B M:=by
 have ha:=zbf (L:=A) (H:=0) hM;have hb:=zbf (L:=B) (H:=0) hM;unfold lo at h;have h:=of_decide_eq_false h;have e1:rs A 0 M=A%M:=by unfold rs;rw [Nat.mul_zero,Nat.add_zero]
 have e2:rs B 0 M=B%M:=by unfold rs;rw [Nat.mul_zero,Nat.add_zero]
 rw [e1] at ha h ⊢;rw [e2] at hb h ⊢;unfold fSub df;unfold MOK at hM;have t1:A%M+big-B%M=(A%M-B%M)+big:=by omega
 have t2:A%M+(M-B%M)=(A%M-B%M)+M:=by omega
 rw [t1,t2,Nat.add_mod_right,Nat.add_mod_right,Nat.mod_eq_of_lt (show A%M-B%M<big by omega),Nat.mod_eq_of_lt (show A%M-B%M<M by omega)]
theorem zfW {A B M:Nat}(h:MOK M):fAdd A B M<big:=Nat.lt_trans (Nat.mod_lt _ (by unfold MOK big at h;omega)) h.1
theorem zbi {A B M:Nat}(h:MOK M):fMul A B M<big:=Nat.lt_trans (Nat.mod_lt _ (by unfold MOK big at h;omega)) h.1
theorem zbj {A B M:Nat}(h:MOK M):fSub A B M<big:=Nat.lt_trans (Nat.mod_lt _ (by unfold MOK big at h;omega)) h.1
def zdg (A x:Nat):Nat:=bif Nat.beq A A then x else 0
theorem zkN (A x:Nat):zdg A x=x:=by unfold zdg;rw [Nat.beq_refl];rfl
def fpw (A n M:Nat):Nat:=zdg A (A^n%M)
theorem uV (A n M:Nat):fpw A n M=A^n%M:=zkN _ _
theorem zdh {A n M:Nat}(h:MOK M):fpw A n M<big:=by rw [uV];exact Nat.lt_trans (Nat.mod_lt _ (by unfold MOK big at h;omega)) h.1
theorem zkO {A M:Nat}(h:MOK M):fpw A 0 M=1:=by rw [uV,Nat.pow_zero,Nat.mod_eq_of_lt (by unfold MOK big at h;omega)]
theorem zkP {A n l M:Nat}(h:MOK M)(hl:n<2^l):1=fpw A (n / 2^l) M:=by rw [Nat.div_eq_of_lt hl,zkO h]
theorem zdi (X Y M:Nat):rs (pl X Y) (ph X Y) M=X*Y%M:=uU X Y M
theorem zfX (n k:Nat)(hk:1≤k):n / 2^(k-1)=2*(n / 2^k)+(if n.testBit (k-1) then 1 else 0):=by
 obtain ⟨j,rfl⟩:∃j,k=j+1:=⟨k-1,by omega⟩
 rw [Nat.add_sub_cancel,Nat.pow_succ,←Nat.div_div_eq_div_mul,Nat.testBit_eq_decide_div_mod_eq];generalize n / 2^j=q;by_cases h:q%2=1
 ·rw [decide_eq_true h];simp only [if_true];omega
 ·rw [decide_eq_false h];simp only [Bool.false_eq_true,if_false];omega
theorem zkQ {A n k M:Nat}(hk:1≤k)(hb:n.testBit (k-1)=false):rs (pl (fpw A (n / 2^k) M) (fpw A (n / 2^k) M)) (ph (fpw A (n / 2^k) M) (fpw A (n / 2^k) M)) M=fpw A (n / 2^(k-1)) M:=by
 rw [zdi,zfX n k hk,hb];simp only [uV];simp only [Bool.false_eq_true,if_false,Nat.add_zero];rw [←Nat.mul_mod,←Nat.pow_add,show n / 2^k+n / 2^k=2*(n / 2^k) by omega]
theorem zkR {A n k M:Nat}(hk:1≤k)(hb:n.testBit (k-1)=true):
 rs (pl (rs (pl (fpw A (n / 2^k) M) (fpw A (n / 2^k) M)) (ph (fpw A (n / 2^k) M) (fpw A (n / 2^k) M)) M) A) (ph (rs (pl (fpw A (n / 2^k) M) (fpw A (n / 2^k) M)) (ph (fpw A (n / 2^k) M) (fpw A (n / 2^k) M)) M) A) M=fpw A (n / 2^(k-1)) M:=by
 rw [zdi,zdi,zfX n k hk,hb];simp only [uV];simp only [if_true];rw [←Nat.mul_mod,←Nat.pow_add,show n / 2^k+n / 2^k=2*(n / 2^k) by omega,Nat.pow_succ,Nat.mul_mod,Nat.mod_mod,←Nat.mul_mod]
set_option maxRecDepth 100000
end Go.Proofs.YtpghmdbjmigjlaaGreatDoor
namespace Go.Proofs.Ec
open Go.Proofs.YtpghmdbjmigjlaaGreatDoor Go.Proofs.Zm
set_option linter.unusedVariables false
section
variable {F:Type}[Lean.Grind.Field F][DecidableEq F]
structure uX (b:F):Prop where
 two:(2:F)≠0
 three:(3:F)≠0
 b:b≠0
variable {b:F}(g:uX b)
include g
end
end Go.Proofs.Ec
namespace Go.Proofs.YtpghmdbjmigjlaaGreatDoor
open Go.ChangeShapes Go.WideShapes Go.ChangeAt Go.RowKit
set_option linter.unusedVariables false
theorem zkS (A B:Nat)(hA:A<big)(hB:B<big)(w:World):Calls Tryz.prog 118 #[uv A,uv B] w fun e w'=>e=.returned (.tuple #[uv (pl A B),uv (ph A B)])∧Below w.heap.size w w':=by
 have z:Wd 0:=by unfold Wd;omega
 have a0:=wd0 A;have b0:=wd0 B;have a1:=wd1 A;have b1:=wd1 B;have a2:=wd2 A;have b2:=wd2 B;have a3:=wd3 A;have b3:=wd3 B;obtain ⟨l00,o00,q00,u00,r00,t00,v00,x00,m00⟩:=qF a0 b0 z z;have dq00:=m00.2.1;have dc00:=m00.2.2;obtain ⟨l01,o01,q01,u01,r01,t01,v01,x01,m01⟩:=qF a0 b1 z dc00;have dq01:=m01.2.1;have dc01:=m01.2.2;obtain ⟨l02,o02,q02,u02,r02,t02,v02,x02,m02⟩:=qF a0 b2 z dc01;have dq02:=m02.2.1;have dc02:=m02.2.2;obtain ⟨l03,o03,q03,u03,r03,t03,v03,x03,m03⟩:=qF a0 b3 z dc02;have dq03:=m03.2.1;have dc03:=m03.2.2;obtain ⟨l10,o10,q10,u10,r10,t10,v10,x10,m10⟩:=qF a1 b0 dq01 z;have dq10:=m10.2.1;have dc10:=m10.2.2;obtain ⟨l11,o11,q11,u11,r11,t11,v11,x11,m11⟩:=qF a1 b1 dq02 dc10;have dq11:=m11.2.1;have dc11:=m11.2.2;obtain ⟨l12,o12,q12,u12,r12,t12,v12,x12,m12⟩:=qF a1 b2 dq03 dc11;have dq12:=m12.2.1;have dc12:=m12.2.2;obtain ⟨l13,o13,q13,u13,r13,t13,v13,x13,m13⟩:=qF a1 b3 dc03 dc12;have dq13:=m13.2.1;have dc13:=m13.2.2;obtain ⟨l20,o20,q20,u20,r20,t20,v20,x20,m20⟩:=qF a2 b0 dq11 z;have dq20:=m20.2.1;have dc20:=m20.2.2;obtain ⟨l21,o21,q21,u21,r21,t21,v21,x21,m21⟩:=qF a2 b1 dq12 dc20;have dq21:=m21.2.1;have dc21:=m21.2.2;obtain ⟨l22,o22,q22,u22,r22,t22,v22,x22,m22⟩:=qF a2 b2 dq13 dc21;have dq22:=m22.2.1;have dc22:=m22.2.2;obtain ⟨l23,o23,q23,u23,r23,t23,v23,x23,m23⟩:=qF a2 b3 dc13 dc22;have dq23:=m23.2.1;have dc23:=m23.2.2;obtain ⟨l30,o30,q30,u30,r30,t30,v30,x30,m30⟩:=qF a3 b0 dq21 z;have dq30:=m30.2.1;have dc30:=m30.2.2;obtain ⟨l31,o31,q31,u31,r31,t31,v31,x31,m31⟩:=qF a3 b1 dq22 dc30;have dq31:=m31.2.1;have dc31:=m31.2.2;obtain ⟨l32,o32,q32,u32,r32,t32,v32,x32,m32⟩:=qF a3 b2 dq23 dc31;have dq32:=m32.2.1;have dc32:=m32.2.2;obtain ⟨l33,o33,q33,u33,r33,t33,v33,x33,m33⟩:=qF a3 b3 dc23 dc32;have dq33:=m33.2.1;have dc33:=m33.2.2;obtain ⟨⟨g0,g1,g2,g3⟩,g4,g5,g6,g7⟩:=zkG hA hB m00 m01 m02 m03 m10 m11 m12 m13 m20 m21 m22 m23 m30 m31 m32 m33;clear m00 m01 m02 m03 m10 m11 m12 m13 m20 m21 m22 m23 m30 m31 m32 m33;unfold uv;rw [←g0,←g1,←g2,←g3,←g4,←g5,←g6,←g7];clear g0 g1 g2 g3 g4 g5 g6 g7;have i0:=ix0;have i1:=ix1;have i2:=ix2;have i3:=ix3
 go_enter Tryz.func118,Tryz.ntmps118
 go_wp2
 refine wp_loop_rounds 5 ?_;rw [rounds_succ]
 go_wp2
 refine wp_loop_rounds 5 ?_;rw [rounds_succ]
 go_wp2_with (go_at_call 133;refine (yY (by assumption) (by assumption) _).mono ?_;rintro e w' ⟨rfl,rfl⟩)
 rw [rounds_succ]
 go_wp2_with (go_at_call 133;refine (yY (by assumption) (by assumption) _).mono ?_;rintro e w' ⟨rfl,rfl⟩)
 rw [rounds_succ]
 go_wp2_with (go_at_call 133;refine (yY (by assumption) (by assumption) _).mono ?_;rintro e w' ⟨rfl,rfl⟩)
 rw [rounds_succ]
 go_wp2_with (go_at_call 133;refine (yY (by assumption) (by assumption) _).mono ?_;rintro e w' ⟨rfl,rfl⟩)
 rw [rounds_succ]
 go_wp2_with (go_at_call 133;refine (yY (by assumption) (by assumption) _).mono ?_;rintro e w' ⟨rfl,rfl⟩)
 rw [rounds_succ]
 go_wp2
 refine wp_loop_rounds 5 ?_;rw [rounds_succ]
 go_wp2_with (go_at_call 133;refine (yY (by assumption) (by assumption) _).mono ?_;rintro e w' ⟨rfl,rfl⟩)
 rw [rounds_succ]
 go_wp2_with (go_at_call 133;refine (yY (by assumption) (by assumption) _).mono ?_;rintro e w' ⟨rfl,rfl⟩)
 rw [rounds_succ]
 go_wp2_with (go_at_call 133;refine (yY (by assumption) (by assumption) _).mono ?_;rintro e w' ⟨rfl,rfl⟩)
 rw [rounds_succ]
 go_wp2_with (go_at_call 133;refine (yY (by assumption) (by assumption) _).mono ?_;rintro e w' ⟨rfl,rfl⟩)
 rw [rounds_succ]
 go_wp2_with (go_at_call 133;refine (yY (by assumption) (by assumption) _).mono ?_;rintro e w' ⟨rfl,rfl⟩)
 rw [rounds_succ]
 go_wp2
 refine wp_loop_rounds 5 ?_;rw [rounds_succ]
 go_wp2_with (go_at_call 133;refine (yY (by assumption) (by assumption) _).mono ?_;rintro e w' ⟨rfl,rfl⟩)
 rw [rounds_succ]
 go_wp2_with (go_at_call 133;refine (yY (by assumption) (by assumption) _).mono ?_;rintro e w' ⟨rfl,rfl⟩)
 rw [rounds_succ]
 go_wp2_with (go_at_call 133;refine (yY (by assumption) (by assumption) _).mono ?_;rintro e w' ⟨rfl,rfl⟩)
 rw [rounds_succ]
 go_wp2_with (go_at_call 133;refine (yY (by assumption) (by assumption) _).mono ?_;rintro e w' ⟨rfl,rfl⟩)
 rw [rounds_succ]
 go_wp2_with (go_at_call 133;refine (yY (by assumption) (by assumption) _).mono ?_;rintro e w' ⟨rfl,rfl⟩)
 rw [rounds_succ]
 go_wp2
 refine wp_loop_rounds 5 ?_;rw [rounds_succ]
 go_wp2_with (go_at_call 133;refine (yY (by assumption) (by assumption) _).mono ?_;rintro e w' ⟨rfl,rfl⟩)
 rw [rounds_succ]
 go_wp2_with (go_at_call 133;refine (yY (by assumption) (by assumption) _).mono ?_;rintro e w' ⟨rfl,rfl⟩)
 rw [rounds_succ]
 go_wp2_with (go_at_call 133;refine (yY (by assumption) (by assumption) _).mono ?_;rintro e w' ⟨rfl,rfl⟩)
 rw [rounds_succ]
 go_wp2_with (go_at_call 133;refine (yY (by assumption) (by assumption) _).mono ?_;rintro e w' ⟨rfl,rfl⟩)
 rw [rounds_succ]
 go_wp2_with (go_at_call 133;refine (yY (by assumption) (by assumption) _).mono ?_;rintro e w' ⟨rfl,rfl⟩)
 rw [rounds_succ]
 go_wp2
 go_region
 all_goals (go_wp2;go_returns;exact ⟨rfl,by go_grown⟩)
end Go.Proofs.YtpghmdbjmigjlaaGreatDoor
namespace Go.Proofs.YtpghmdbjmigjlaaGreatDoor
open Go.RowKit
theorem zbk (A n m:Nat)(k:Nat)(hn:n=64*k+m)(hm:m<64)(v:Nat)(hv:v=A / 2^(64*k)%0x10000000000000000):A.testBit n=(v / 2^m%2==1):=by
 subst hv hn;rw [Nat.testBit_eq_decide_div_mod_eq,Nat.pow_add,←Nat.div_div_eq_div_mul];generalize A / 2^(64*k)=x;have e:x%0x10000000000000000 / 2^m%2=x / 2^m%2:=by
  have e1:0x10000000000000000=2^m*2^(64-m):=by rw [←Nat.pow_add,show m+(64-m)=64 by omega]
  have e2:2^(64-m)=2*2^(63-m):=by rw [show 64-m=(63-m)+1 by omega,Nat.pow_succ,Nat.mul_comm]
  rw [e1,Nat.mod_mul_right_div_self,e2,Nat.mod_mul_right_mod]
 rw [e,Bool.eq_iff_iff];simp
theorem zbl (v m:Nat)(hv:v<0x10000000000000000):(bits BinOp.and IntKind.u64 ((v:Int) / 2^m) 1==1)=(v / 2^m%2==1):=by
 have h1:((v:Int) / 2^m)=((v / 2^m:Nat):Int):=by push_cast;rfl
 have h2:v / 2^m<0x10000000000000000:=Nat.lt_of_le_of_lt (Nat.div_le_self _ _) hv;have h3:=bits_and_u64_nat (v / 2^m) 1 h2 (by omega);rw [h1];have h4:(v / 2^m) &&& 1=v / 2^m%2:=Nat.and_one_is_mod _;rw [h4] at h3;have h5:bits BinOp.and IntKind.u64 ((v / 2^m:Nat):Int) 1=((v / 2^m%2:Nat):Int):=h3;rw [h5,Bool.eq_iff_iff];simp;omega
theorem zkT (A n:Nat)(h:n / 64=0):(bits BinOp.and IntKind.u64 (w0 A / 2^(n%64)) 1==1)=A.testBit n:=by
 unfold w0;rw [zbl _ _ (Nat.mod_lt _ (by omega)),zbk A n (n%64) 0 (by omega) (by omega) (A%0x10000000000000000) (by simp)]
theorem zkU (A n:Nat)(h:n / 64=1):(bits BinOp.and IntKind.u64 (w1 A / 2^(n%64)) 1==1)=A.testBit n:=by
 unfold w1;rw [zbl _ _ (Nat.mod_lt _ (by omega)),zbk A n (n%64) 1 (by omega) (by omega) _ rfl]
theorem zkV (A n:Nat)(h:n / 64=2):(bits BinOp.and IntKind.u64 (w2 A / 2^(n%64)) 1==1)=A.testBit n:=by
 unfold w2;rw [zbl _ _ (Nat.mod_lt _ (by omega)),zbk A n (n%64) 2 (by omega) (by omega) _ rfl]
theorem zkW (A n:Nat)(h:n / 64=3):(bits BinOp.and IntKind.u64 (w3 A / 2^(n%64)) 1==1)=A.testBit n:=by
 unfold w3;rw [zbl _ _ (Nat.mod_lt _ (by omega)),zbk A n (n%64) 3 (by omega) (by omega) _ rfl]
end Go.Proofs.YtpghmdbjmigjlaaGreatDoor
namespace Go.Proofs.YtpghmdbjmigjlaaGreatDoor
open Go.ChangeShapes Go.WideShapes Go.ChangeAt Go.RowKit Go.Shelf
set_option linter.unusedVariables false
def zkX:Go.Shelf.Ren:=⟨fun | 129=>179 | n=>n,fun | 53=>22 | 3=>3 | 4=>4 | 46=>150 | 5=>5 | 9=>9 | n=>n,fun | n=>n⟩
theorem zkY:Go.Proofs.Lays.n129 Tryz.prog zkX:= {
 mixed:=by kernel_rfl
 f129:=Tryz.func179.trans (congrArg some (by kernel_rfl))
 t3:=Tryz.underlying3
 a3:=Tryz.isAgg3
 z3:=Tryz.sizeOf3
 v3:=Tryz.zeroValue3
 t4:=Tryz.underlying4
 a4:=Tryz.isAgg4
 z4:=Tryz.sizeOf4
 v4:=Tryz.zeroValue4
 t5:=Tryz.underlying5
 a5:=Tryz.isAgg5
 z5:=Tryz.sizeOf5
 v5:=Tryz.zeroValue5
 t9:=Tryz.underlying9
 a9:=Tryz.isAgg9
 z9:=Tryz.sizeOf9
 v9:=Tryz.zeroValue9
 t46:=Tryz.underlying150
 a46:=Tryz.isAgg150
 z46:=Tryz.sizeOf150
 v46:=Tryz.zeroValue150
 t53:=Tryz.underlying22
 a53:=Tryz.isAgg22
 z53:=Tryz.sizeOf22
 v53:=Tryz.zeroValue22 }
def lw (x:Int):Int:=(Lib.bitLen x.toNat:Int)
theorem zbm {x:Int}(hx:Wd x)(w:World):
 Calls Tryz.prog 179 #[.int .u64 x] w fun e w'=>e=.returned (.int .i64 (lw x))∧w=w':=
 (Any.bits_Len64 zkY x w hx.1 (by have:=hx.2;omega)).mono fun e w' ⟨he,hw⟩=>⟨he,hw.symm⟩
def bt (A:Nat)(i:Int):Bool:=decide (0≤i)&&(decide (i<256)&&A.testBit i.toNat)
theorem zkZ (A:Nat)(n:Nat)(h:n<256)(w:World):Calls Tryz.prog 86 #[uv A,.int .i64 n] w fun e w'=>e=.returned (.bool (A.testBit n))∧Below w.heap.size w w':=by
 have hq:n / 64=0∨n / 64=1∨n / 64=2∨n / 64=3:=by omega
 unfold uv;rcases hq with hq | hq | hq | hq
 ·have F:=Lib.hid (zkT A n hq)
  go_enter Tryz.func86,Tryz.ntmps86
  go_wp2
  go_returns
  exact ⟨by rw [F.out];rfl,by go_grown⟩
 ·have F:=Lib.hid (zkU A n hq)
  go_enter Tryz.func86,Tryz.ntmps86
  go_wp2
  go_returns
  exact ⟨by rw [F.out];rfl,by go_grown⟩
 ·have F:=Lib.hid (zkV A n hq)
  go_enter Tryz.func86,Tryz.ntmps86
  go_wp2
  go_returns
  exact ⟨by rw [F.out];rfl,by go_grown⟩
 ·have F:=Lib.hid (zkW A n hq)
  go_enter Tryz.func86,Tryz.ntmps86
  go_wp2
  go_returns
  exact ⟨by rw [F.out];rfl,by go_grown⟩
theorem zfY (A:Nat)(i:Int)(h:i<0∨256≤i)(w:World):Calls Tryz.prog 86 #[uv A,.int .i64 i] w fun e w'=>e=.returned (.bool false)∧Below w.heap.size w w':=by
 unfold uv;rcases h with h | h
 ·go_enter Tryz.func86,Tryz.ntmps86
  go_wp2
  go_returns
  exact ⟨rfl,by go_grown⟩
 ·have h': ¬i<0:=by omega
  go_enter Tryz.func86,Tryz.ntmps86
  go_wp2
  go_returns
  exact ⟨rfl,by go_grown⟩
theorem zk0 (A:Nat)(i:Int)(w:World):Calls Tryz.prog 86 #[uv A,.int .i64 i] w fun e w'=>e=.returned (.bool (bt A i))∧Below w.heap.size w w':=by
 by_cases h0:0≤i
 ·by_cases h1:i<256
  ·obtain ⟨n,rfl⟩:=Int.eq_ofNat_of_zero_le h0;have e:bt A n=A.testBit n:=by unfold bt;simp;omega
   rw [e];exact zkZ A n (by omega) w
  ·have e:bt A i=false:=by unfold bt;simp;omega
   rw [e];exact zfY A i (.inr (by omega)) w
 ·have e:bt A i=false:=by unfold bt;simp;omega
  rw [e];exact zfY A i (.inl (by omega)) w
def lenOf (A:Nat):Int:=
 if w3 A !=0 then 192+lw (w3 A) else if w2 A !=0 then 128+lw (w2 A) else if w1 A !=0 then 64+lw (w1 A) else if w0 A !=0 then lw (w0 A) else 0
theorem zbn (x:Int)(h:Wd x):0≤lw x∧lw x≤64:=by
 refine ⟨by unfold lw;omega,?_⟩;unfold lw Lib.bitLen;have: ∀f y,Lib.bitLenAux f y≤f:=by
  intro f
  induction f with
  | zero=>intro y;simp [Lib.bitLenAux]
  | succ f ih=>intro y;simp only [Lib.bitLenAux];have:=ih (y / 2);split<;>omega
 have:=this 64 x.toNat;omega
theorem zk1 (A:Nat)(w:World):Calls Tryz.prog 163 #[uv A] w fun e w'=>e=.returned (.int .i64 (lenOf A))∧Below w.heap.size w w':=by
 have i0:=ix0;have i1:=ix1;have i2:=ix2;have i3:=ix3;have d0:=wd0 A;have d1:=wd1 A;have d2:=wd2 A;have d3:=wd3 A;obtain ⟨l0,u0⟩:=zbn _ d0;obtain ⟨l1,u1⟩:=zbn _ d1;obtain ⟨l2,u2⟩:=zbn _ d2;obtain ⟨l3,u3⟩:=zbn _ d3;have fin:True:=trivial;unfold uv;cases c0:(w0 A !=0)<;>cases c1:(w1 A !=0)<;>cases c2:(w2 A !=0)<;>cases c3:(w3 A !=0)
 all_goals
  have e:lenOf A=lenOf A:=rfl
  conv at e=>rhs;unfold lenOf
  simp only [c0,c1,c2,c3,if_true,if_false,Bool.false_eq_true] at e;rw [e];clear e fin
  go_enter Tryz.func163,Tryz.ntmps163
  go_wp2
  refine wp_loop_rounds 5 ?_;rw [rounds_succ]
  go_wp2_with (go_at_call 179;refine (zbm (by assumption) _).mono ?_;rintro e w' ⟨rfl,rfl⟩)
  rw [rounds_succ]
  go_wp2_with (go_at_call 179;refine (zbm (by assumption) _).mono ?_;rintro e w' ⟨rfl,rfl⟩)
  rw [rounds_succ]
  go_wp2_with (go_at_call 179;refine (zbm (by assumption) _).mono ?_;rintro e w' ⟨rfl,rfl⟩)
  rw [rounds_succ]
  go_wp2_with (go_at_call 179;refine (zbm (by assumption) _).mono ?_;rintro e w' ⟨rfl,rfl⟩)
  rw [rounds_succ]
  go_wp2
  go_returns
  exact ⟨rfl,by go_grown⟩
end Go.Proofs.YtpghmdbjmigjlaaGreatDoor
namespace Go.Proofs.YtpghmdbjmigjlaaGreatDoor
open Go.RowKit
theorem zk2: ∀f x,x<2^f→f≤64→(x<2^Lib.bitLen x)∧(x≠0→2^(Lib.bitLen x-1)≤x∧1≤Lib.bitLen x):=by
 intro f
 induction f with
 | zero=>
  intro x hx _;have:x=0:=by simpa using hx
  subst this;exact ⟨by decide,fun h=>absurd rfl h⟩
 | succ f ih=>
  intro x hx hf;by_cases h0:x=0
  ·subst h0;exact ⟨by decide,fun h=>absurd rfl h⟩
  ·have hx64:x<2^64:=Nat.lt_of_lt_of_le hx (Nat.pow_le_pow_right (by omega) hf);have e:=Lib.bitLen_half x h0 hx64;have hy:x / 2<2^f:=by rw [Nat.pow_succ] at hx;omega
   obtain ⟨a,b⟩:=ih (x / 2) hy (by omega);rw [e];have e2:2^(1+Lib.bitLen (x / 2))=2*2^Lib.bitLen (x / 2):=by rw [Nat.add_comm,Nat.pow_succ,Nat.mul_comm]
   refine ⟨by omega,fun _=>⟨?_,by omega⟩⟩;by_cases hz:x / 2=0
   ·have:x=1:=by omega
    subst this;decide
   ·obtain ⟨b1,b2⟩:=b hz;have e3:2^(1+Lib.bitLen (x / 2)-1)=2*2^(Lib.bitLen (x / 2)-1):=by
     rw [show 1+Lib.bitLen (x / 2)-1=(Lib.bitLen (x / 2)-1)+1 by omega,Nat.pow_succ,Nat.mul_comm]
    omega
def len (A:Nat):Nat:=if A=0 then 0 else Nat.log2 A+1
theorem zk3 {A k:Nat}(h1:2^(k-1)≤A)(h2:A<2^k)(hk:1≤k):len A=k:=by
 have h0:A≠0:=by have:=Nat.two_pow_pos (k-1);omega
 unfold len;rw [if_neg h0];have a:=(Nat.le_log2 h0).2 h1;have b:=(Nat.log2_lt h0).2 h2;omega
theorem zbo {A v k:Nat}(hv:v<0x10000000000000000)(h0:v≠0)(hA1:2^k*v≤A)(hA2:A<2^k*(v+1)):len A=k+Lib.bitLen v:=by
 obtain ⟨a,b⟩:=zk2 64 v hv (Nat.le_refl _);obtain ⟨b1,b2⟩:=b h0;refine zk3 ?_ ?_ (by omega)
 ·rw [show k+Lib.bitLen v-1=k+(Lib.bitLen v-1) by omega,Nat.pow_add];exact Nat.le_trans (Nat.mul_le_mul_left _ b1) hA1
 ·rw [Nat.pow_add];exact Nat.lt_of_lt_of_le hA2 (Nat.mul_le_mul_left _ a)
theorem zk4 (A:Nat)(hA:A<big):lenOf A=(len A:Int):=by
 unfold big at hA;have e0:w0 A=((A%0x10000000000000000:Nat):Int):=rfl;have e1:w1 A=((A / 0x10000000000000000%0x10000000000000000:Nat):Int):=rfl;have e2:w2 A=((A / 0x100000000000000000000000000000000%0x10000000000000000:Nat):Int):=rfl;have e3:w3 A=((A / 0x1000000000000000000000000000000000000000000000000%0x10000000000000000:Nat):Int):=rfl;unfold lenOf;by_cases c3:w3 A=0
 ·rw [if_neg (by simp [c3])];by_cases c2:w2 A=0
  ·rw [if_neg (by simp [c2])];by_cases c1:w1 A=0
   ·rw [if_neg (by simp [c1])];by_cases c0:w0 A=0
    ·rw [if_neg (by simp [c0])];have:A=0:=by omega
     subst this;rfl
    ·rw [if_pos (by simpa using c0)];have hw:(w0 A).toNat=A:=by omega
     unfold lw;rw [hw];rw [zbo (A:=A) (v:=A) (k:=0) (by omega) (by omega) (by simp) (by simp)];simp
   ·rw [if_pos (by simpa using c1)];have hw:(w1 A).toNat=A / 0x10000000000000000:=by omega
    unfold lw;rw [hw];rw [zbo (A:=A) (v:=A / 0x10000000000000000) (k:=64) (by omega) (by omega) (by rw [show 2^64=0x10000000000000000 from rfl];omega) (by rw [show 2^64=0x10000000000000000 from rfl];omega)];omega
  ·rw [if_pos (by simpa using c2)];have hw:(w2 A).toNat=A / 0x100000000000000000000000000000000:=by omega
   unfold lw;rw [hw];rw [zbo (A:=A) (v:=A / 0x100000000000000000000000000000000) (k:=128) (by omega) (by omega) (by rw [show 2^128=0x100000000000000000000000000000000 from rfl];omega) (by rw [show 2^128=0x100000000000000000000000000000000 from rfl];omega)];omega
 ·rw [if_pos (by simpa using c3)];have hw:(w3 A).toNat=A / 0x1000000000000000000000000000000000000000000000000:=by omega
  unfold lw;rw [hw];rw [zbo (A:=A) (v:=A / 0x1000000000000000000000000000000000000000000000000) (k:=192) (by omega) (by omega) (by rw [show 2^192=0x1000000000000000000000000000000000000000000000000 from rfl];omega) (by rw [show 2^192=0x1000000000000000000000000000000000000000000000000 from rfl];omega)];omega
theorem len_le {A:Nat}(hA:A<big):len A≤256:=by
 unfold len;split
 ·omega
 ·have h:A<2^256:=hA;have:=(Nat.log2_lt ‹_›).2 h;omega
theorem zk5 (A:Nat):A<2^len A:=by
 unfold len;split
 ·omega
 ·exact Nat.lt_log2_self
end Go.Proofs.YtpghmdbjmigjlaaGreatDoor
namespace Go.Proofs.YtpghmdbjmigjlaaGreatDoor
open Go.ChangeShapes Go.WideShapes Go.ChangeAt Go.RowKit
set_option linter.unusedVariables false
def cm (A B:Nat):Int:=if A=B then 0 else if A<B then-1 else 1
def cmK (A B k:Nat):Int:=cm (A%0x10000000000000000^k) (B%0x10000000000000000^k)
theorem zk6 (A B:Nat):cmK A B 0=0:=by unfold cmK cm;simp [Nat.mod_one]
theorem zk7 (a b x y W:Nat)(hx:x<W)(hy:y<W):cm (x+W*a) (y+W*b)=if a<b then-1 else if b<a then 1 else cm x y:=by
 unfold cm;rcases Nat.lt_trichotomy a b with h | h | h
 ·have:W*(a+1)≤W*b:=Nat.mul_le_mul_left _ h;rw [Nat.mul_add] at this;rw [if_pos h,if_neg (by omega),if_pos (by omega)]
 ·subst h;have h1:(x+W*a=y+W*a)=(x=y):=by rw [eq_iff_iff];omega
  have h2:(x+W*a<y+W*a)=(x<y):=by rw [eq_iff_iff];omega
  simp only [h1,h2,Nat.lt_irrefl,if_false]
 ·have:W*(b+1)≤W*a:=Nat.mul_le_mul_left _ h;rw [Nat.mul_add] at this;rw [if_neg (by omega),if_pos h,if_neg (by omega),if_neg (by omega)]
def wk (A k:Nat):Nat:=A / 0x10000000000000000^k%0x10000000000000000
theorem zk8 (A B k:Nat):cmK A B (k+1)=if wk A k<wk B k then-1 else if wk B k<wk A k then 1 else cmK A B k:=by
 unfold cmK wk;rw [Nat.pow_succ,Nat.mod_mul,Nat.mod_mul,zk7 _ _ _ _ _ (Nat.mod_lt _ (Nat.pow_pos (by omega))) (Nat.mod_lt _ (Nat.pow_pos (by omega)))]
theorem zk9 (A B:Nat)(hA:A<big)(hB:B<big):cmK A B 4=cm A B:=by
 unfold cmK;have e:0x10000000000000000^4=big:=rfl;rw [e,Nat.mod_eq_of_lt hA,Nat.mod_eq_of_lt hB]
theorem wk0 (A:Nat):w0 A=((wk A 0:Nat):Int):=by unfold w0 wk;simp
theorem wk1 (A:Nat):w1 A=((wk A 1:Nat):Int):=rfl
theorem wk2 (A:Nat):w2 A=((wk A 2:Nat):Int):=rfl
theorem wk3 (A:Nat):w3 A=((wk A 3:Nat):Int):=rfl
theorem zla (A B:Nat)(hA:A<big)(hB:B<big)(w:World):Calls Tryz.prog 60 #[uv A,uv B] w fun e w'=>e=.returned (.int .i64 (cm A B))∧Below w.heap.size w w':=by
 have i0:=ix0;have i1:=ix1;have i2:=ix2;have i3:=ix3;have HF:=Lib.hid (zk9 A B hA hB);unfold uv
 go_enter Tryz.func60,Tryz.ntmps60
 go_wp2
 go_loop [5,9] (fun r i=> ∃k:Nat,k≤4∧i=.int .i64 k∧r=.int .i64 (cmK A B k)) (fun _ i=>4-(intOf i).toNat)
 case atStart=>exact ⟨0,by omega,rfl,by rw [zk6]⟩
 case round=>
  obtain ⟨k,hk,rfl,rfl⟩:=hrel;have hn:=zk8 A B k;have hk5:k=0∨k=1∨k=2∨k=3∨k=4:=by omega
  rcases hk5 with rfl|rfl|rfl|rfl|rfl
  ·rcases Nat.lt_trichotomy (wk A 0) (wk B 0) with h|h|h
   ·rw [if_pos h] at hn;have HN:=Lib.hid hn;have h1:w0 A<w0 B:=by rw [wk0,wk0];omega
    clear hn h
    go_wp2
    go_round
    case rel=>exact ⟨1,by omega,by go_num,by rw [HN.out]⟩
    case measure=>simp [intOf]
   ·rw [if_neg (by omega),if_neg (by omega)] at hn;have HN:=Lib.hid hn;have h1: ¬w0 A<w0 B:=by rw [wk0,wk0];omega
    have h2: ¬w0 B<w0 A:=by rw [wk0,wk0];omega
    clear hn h
    go_wp2
    go_round
    case rel=>exact ⟨1,by omega,by go_num,by rw [HN.out]⟩
    case measure=>simp [intOf]
   ·rw [if_neg (by omega),if_pos h] at hn;have HN:=Lib.hid hn;have h1: ¬w0 A<w0 B:=by rw [wk0,wk0];omega
    have h2:w0 B<w0 A:=by rw [wk0,wk0];omega
    clear hn h
    go_wp2
    go_round
    case rel=>exact ⟨1,by omega,by go_num,by rw [HN.out]⟩
    case measure=>simp [intOf]
  ·rcases Nat.lt_trichotomy (wk A 1) (wk B 1) with h|h|h
   ·rw [if_pos h] at hn;have HN:=Lib.hid hn;have h1:w1 A<w1 B:=by rw [wk1,wk1];omega
    clear hn h
    go_wp2
    go_round
    case rel=>exact ⟨2,by omega,by go_num,by rw [HN.out]⟩
    case measure=>simp [intOf]
   ·rw [if_neg (by omega),if_neg (by omega)] at hn;have HN:=Lib.hid hn;have h1: ¬w1 A<w1 B:=by rw [wk1,wk1];omega
    have h2: ¬w1 B<w1 A:=by rw [wk1,wk1];omega
    clear hn h
    go_wp2
    go_round
    case rel=>exact ⟨2,by omega,by go_num,by rw [HN.out]⟩
    case measure=>simp [intOf]
   ·rw [if_neg (by omega),if_pos h] at hn;have HN:=Lib.hid hn;have h1: ¬w1 A<w1 B:=by rw [wk1,wk1];omega
    have h2:w1 B<w1 A:=by rw [wk1,wk1];omega
    clear hn h
    go_wp2
    go_round
    case rel=>exact ⟨2,by omega,by go_num,by rw [HN.out]⟩
    case measure=>simp [intOf]
  ·rcases Nat.lt_trichotomy (wk A 2) (wk B 2) with h|h|h
   ·rw [if_pos h] at hn;have HN:=Lib.hid hn;have h1:w2 A<w2 B:=by rw [wk2,wk2];omega
    clear hn h
    go_wp2
    go_round
    case rel=>exact ⟨3,by omega,by go_num,by rw [HN.out]⟩
    case measure=>simp [intOf]
   ·rw [if_neg (by omega),if_neg (by omega)] at hn;have HN:=Lib.hid hn;have h1: ¬w2 A<w2 B:=by rw [wk2,wk2];omega
    have h2: ¬w2 B<w2 A:=by rw [wk2,wk2];omega
    clear hn h
    go_wp2
    go_round
    case rel=>exact ⟨3,by omega,by go_num,by rw [HN.out]⟩
    case measure=>simp [intOf]
   ·rw [if_neg (by omega),if_pos h] at hn;have HN:=Lib.hid hn;have h1: ¬w2 A<w2 B:=by rw [wk2,wk2];omega
    have h2:w2 B<w2 A:=by rw [wk2,wk2];omega
    clear hn h
    go_wp2
    go_round
    case rel=>exact ⟨3,by omega,by go_num,by rw [HN.out]⟩
    case measure=>simp [intOf]
  ·rcases Nat.lt_trichotomy (wk A 3) (wk B 3) with h|h|h
   ·rw [if_pos h] at hn;have HN:=Lib.hid hn;have h1:w3 A<w3 B:=by rw [wk3,wk3];omega
    clear hn h
    go_wp2
    go_round
    case rel=>exact ⟨4,by omega,by go_num,by rw [HN.out]⟩
    case measure=>simp [intOf]
   ·rw [if_neg (by omega),if_neg (by omega)] at hn;have HN:=Lib.hid hn;have h1: ¬w3 A<w3 B:=by rw [wk3,wk3];omega
    have h2: ¬w3 B<w3 A:=by rw [wk3,wk3];omega
    clear hn h
    go_wp2
    go_round
    case rel=>exact ⟨4,by omega,by go_num,by rw [HN.out]⟩
    case measure=>simp [intOf]
   ·rw [if_neg (by omega),if_pos h] at hn;have HN:=Lib.hid hn;have h1: ¬w3 A<w3 B:=by rw [wk3,wk3];omega
    have h2:w3 B<w3 A:=by rw [wk3,wk3];omega
    clear hn h
    go_wp2
    go_round
    case rel=>exact ⟨4,by omega,by go_num,by rw [HN.out]⟩
    case measure=>simp [intOf]
  ·clear hn
   go_wp2
   go_ret
   exact ⟨by rw [←HF.out];rfl,by go_grown⟩
theorem zdj (d:Nat)(a0 a1 a2 a3 b0 b1 b2 b3:Int)(w:World):
 (Op.equalIn (d+2) 24 (.agg #[.int .u64 a0,.int .u64 a1,.int .u64 a2,.int .u64 a3]) (.agg #[.int .u64 b0,.int .u64 b1,.int .u64 b2,.int .u64 b3])).run Tryz.prog w
  =.ok (a0==b0&&(a1==b1&&(a2==b2&&a3==b3))) w:=by
 have e: ∀x y:Int,(Op.equalIn (d+1) 22 (.int .u64 x) (.int .u64 y)).run Tryz.prog w=.ok (x==y) w:=fun x y=>run_equalIn_int w d 22 .u64 .u64 x y Tryz.underlying22;have s:(sizeOf 22).run Tryz.prog w=.ok 1 w:=by kernel_rfl
 have p0: ∀x y z u:Int,(part 22 #[.int .u64 x,.int .u64 y,.int .u64 z,.int .u64 u] 0).run Tryz.prog w=.ok (.int .u64 x) w:=fun x y z u=>by kernel_rfl
 have p1: ∀x y z u:Int,(part 22 #[.int .u64 x,.int .u64 y,.int .u64 z,.int .u64 u] 1).run Tryz.prog w=.ok (.int .u64 y) w:=fun x y z u=>by kernel_rfl
 have p2: ∀x y z u:Int,(part 22 #[.int .u64 x,.int .u64 y,.int .u64 z,.int .u64 u] 2).run Tryz.prog w=.ok (.int .u64 z) w:=fun x y z u=>by kernel_rfl
 have p3: ∀x y z u:Int,(part 22 #[.int .u64 x,.int .u64 y,.int .u64 z,.int .u64 u] 3).run Tryz.prog w=.ok (.int .u64 u) w:=fun x y z u=>by kernel_rfl
 rw [Op.equalIn];simp only [Sem.run_bind,run_underlying Tryz.underlying24,Result.andThen_ok,s,Std.Legacy.Range.forIn_eq_forIn_range',Std.Legacy.Range.size];simp only [show (4-0+1-1) / 1=4 from rfl,List.range',List.forIn_cons,List.forIn_nil];cases c0:(a0==b0)
 ·simp [p0,e,c0]
 ·cases c1:(a1==b1)
  ·simp [p0,p1,e,c0,c1]
  ·cases c2:(a2==b2)
   ·simp [p0,p1,p2,e,c0,c1,c2]
   ·cases c3:(a3==b3)
    ·simp [p0,p1,p2,p3,e,c0,c1,c2,c3]
    ·simp [p0,p1,p2,p3,e,c0,c1,c2,c3]
theorem eqU (a0 a1 a2 a3 b0 b1 b2 b3:Int)(w:World):
 (Op.equalIn 10000 24 (.agg #[.int .u64 a0,.int .u64 a1,.int .u64 a2,.int .u64 a3]) (.agg #[.int .u64 b0,.int .u64 b1,.int .u64 b2,.int .u64 b3])).run Tryz.prog w
  =.ok (a0==b0&&(a1==b1&&(a2==b2&&a3==b3))) w:=zdj 9998 a0 a1 a2 a3 b0 b1 b2 b3 w
end Go.Proofs.YtpghmdbjmigjlaaGreatDoor
namespace Go.Proofs.YtpghmdbjmigjlaaGreatDoor
open Go Go.RowKit
set_option linter.unusedVariables false
theorem zbp (A B:Nat)(hA:A<big)(hB:B<big):Fn Tryz.prog 119 #[uv A,uv B] (.tuple #[uv (sm A B),.bool (ov A B)]):=zkD A B hA hB
theorem zbq (A B:Nat)(hA:A<big)(hB:B<big):Fn Tryz.prog 117 #[uv A,uv B] (.tuple #[uv (df A B),.bool (lo A B)]):=zkE A B hA hB
theorem zdk (A B:Nat)(hA:A<big)(hB:B<big):Fn Tryz.prog 118 #[uv A,uv B] (.tuple #[uv (pl A B),uv (ph A B)]):=zkS A B hA hB
theorem xy (A B:Nat)(hA:A<big)(hB:B<big):Fn Tryz.prog 60 #[uv A,uv B] (.int .i64 (cm A B)):=zla A B hA hB
theorem vN (n:Nat)(h:n<0x10000000000000000):Fn Tryz.prog 120 #[.int .u64 (n:Int)] (uv n):=fun w=>(zkC n w).mono fun e w' ⟨he,hb⟩=>⟨by
 rw [he];have e0:w0 n=(n:Int):=by unfold w0;omega
 have e1:w1 n=0:=by unfold w1;omega
 have e2:w2 n=0:=by unfold w2;omega
 have e3:w3 n=0:=by unfold w3;omega
 unfold uv;rw [e0,e1,e2,e3],hb⟩
theorem zfZ (A:Nat)(i:Int):Fn Tryz.prog 86 #[uv A,.int .i64 i] (.bool (bt A i)):=zk0 A i
theorem zlb (A:Nat)(hA:A<big):Fn Tryz.prog 163 #[uv A] (.int .i64 (len A:Int)):=fun w=>by
 have:=zk1 A w
 rwa [zk4 A hA] at this
theorem zbr {A B:Nat}(hA:A<big)(hB:B<big):(w0 A==w0 B&&(w1 A==w1 B&&(w2 A==w2 B&&w3 A==w3 B)))=decide (A=B):=by
 rw [Bool.eq_iff_iff];simp only [Bool.and_eq_true,beq_iff_eq,decide_eq_true_eq];exact ⟨fun ⟨a,b,c,d⟩=>zky hA hB a b c d,fun h=>by subst h;exact ⟨rfl,rfl,rfl,rfl⟩⟩
theorem zdl {ρ:Env}(A B:Nat)(hA:A<big)(hB:B<big){x y:Operand}{o:Oper}(w:World)(ho:o.op=.binOp .eql 24 x y 24)(hx:ev ρ x=uv A)(hy:ev ρ y=uv B):
 (execOp (ev ρ) o).run Tryz.prog w=.ok (.value (.bool (decide (A=B)))) w:=by
 have q:=eqU;unfold execOp;simp only [ho,hx,hy]
 go_simp
 exact zbr hA hB
theorem kW {ρ:Env}(A B:Nat)(hA:A<big)(hB:B<big){x y:Operand}{o:Oper}(w:World)(ho:o.op=.binOp .neq 24 x y 24)(hx:ev ρ x=uv A)(hy:ev ρ y=uv B):
 (execOp (ev ρ) o).run Tryz.prog w=.ok (.value (.bool (!decide (A=B)))) w:=by
 have q:=eqU;have e:=zbr hA hB;unfold execOp;simp only [ho,hx,hy]
 go_simp
theorem isK {l:List (Nat×Value)}{ρ:Env}(h:l.map (fun p=>ρ p.1)=l.map (·.2):=by kernel_rfl):Is l ρ:=by
 refine Is.of ?_
 induction l with
 | nil=>trivial
 | cons p r ih=>
  simp only [List.map_cons,List.cons.injEq] at h;exact ⟨h.1,ih h.2⟩
section
variable {P:Program}{N:Nat}{c:Code}{Q:Exit→Env→World→Prop}{ρ:Env}{w:World}
theorem zI (k:Q .normal ρ w)(h:(jT c&&vu (xr c))=true:=by kernel_rfl)(hx:ev ρ (qU c)=.bool false:=by kernel_rfl):WP P N c Q ρ w:=by
 rw [Bool.and_eq_true] at h;exact zl h.1 hx (zp h.2 k)
theorem zV (k:WP P N (xq c) Q ρ w)(h:jT c=true:=by kernel_rfl)(hx:ev ρ (qU c)=.bool true:=by kernel_rfl):WP P N c Q ρ w:=zi h hx k
def zdm (c:Code):Code:=qf (qf c)
def uY (c:Code):Code:=zq (zdm c)
def jl (c:Code):Code:=zw (zdm c)
def uZ (c:Code):Code:=qf (zq (zw (jl c)))
def kX (c:Code):Code:=zw (zw (jl c))
def zaa (n:Nat):Code→Bool
 | .region _ ops d=>Nat.beq ops.size n&& !d
 | _=>false
theorem zf0 {n:Nat}{c:Code}(h:zaa n c=true):∃id,c=.region id (zg c) false∧List.range (zg c).size=List.range n:=by
 cases c with
 | region id ops d=>
  cases d with
  | true=>simp [zaa] at h
  | false=>
   simp only [zaa,Bool.not_false,Bool.and_true] at h;exact ⟨id,rfl,congrArg List.range (Nat.eq_of_beq_eq_true h)⟩
 | _=>cases h
def zbs (a:Option Nat)(b:Nat):Bool:=match a with
 | some x=>Nat.beq x b
 | none=>false
theorem zdn {a:Option Nat}{b:Nat}(h:zbs a b=true):a=some b:=by
 cases a with
 | none=>cases h
 | some x=>exact congrArg some (Nat.eq_of_beq_eq_true h)
def zbt (nt ni b0 b1 tc:Nat)(c:Code):Bool:=
 zbs (vt c) b0&&(zaM (qf c)&&(yx (zdm c)&&(zaa nt (uY c)&&(yx (jl c)&&(jT (zq (jl c))&&(vu (xq (zq (jl c)))&&(zbs (zaN (xr (zq (jl c)))) b0&&(yx (zw (jl c))&&(zbs (vt (zq (zw (jl c)))) b1&&zaa ni (kX c))))))))))
abbrev zdo (ti b0 b1:Nat)(inc:Env→Env)(I:Nat→Env→World→Prop)(Q:Exit→Env→World→Prop)(i:Nat):Exit→Env→World→Prop
 | .normal,ρ,w=>ρ ti=iN i∧I (i+1) (inc ρ) w
 | .exit k,ρ,w=>bif Nat.beq k b1 then ρ ti=iN i∧I (i+1) (inc ρ) w else bif Nat.beq k b0 then Q .normal ρ w else Q (.exit k) ρ w
 | e,ρ,w=>Q e ρ w
theorem zf1 {ti b0 b1 tc nt ni n:Nat}{tst:Nat→Env→Env}{inc:Nat→Env→Env}(I:Nat→Env→World→Prop)
 (hs:zbt nt ni b0 b1 tc c=true) (hx:qU (zq (jl c))=.tmp tc)
 (hT: ∀i ρ w K,I i ρ w→K (tst i ρ) w→WPs P N (zg (uY c)) K (List.range nt) ρ w) (hv: ∀i ρ w,I i ρ w→tst i ρ tc=.bool (decide ((i:Int)<(n:Int))))
 (hJ: ∀i ρ w K,i<n→ρ ti=iN i→K (inc i ρ) w→WPs P N (zg (kX c)) K (List.range ni) ρ w)
 (h0:I 0 ρ w) (hb: ∀i ρ w,i<n→I i ρ w→WP P N (uZ c) (zdo ti b0 b1 (inc i) I Q i) (tst i ρ) w) (he: ∀ρ w,I n ρ w→Q .normal (tst n ρ) w):WP P N c Q ρ w:=by
 unfold zbt at hs;simp only [Bool.and_eq_true] at hs;obtain ⟨s1,s2,s3,s4,s5,s6,s7,s8,s9,s10,s11⟩:=hs;obtain ⟨id1,e1,l1⟩:=zf0 s4;obtain ⟨id2,e2,l2⟩:=zf0 s11;refine zu b0 (zdn s1)<|yD s2 (fun m ρ w=> ∃i,n-i=m∧i≤n∧I i ρ w) n ⟨0,rfl,Nat.zero_le _,h0⟩ ?_;rintro m ρ w ⟨i,rfl,hin,hI⟩;refine zb s3 ?_;show WP P N (uY c) _ ρ w;rw [e1];refine WP.region _ l1<|hT i ρ w _ hI ?_;show WP P N (jl c) _ (tst i ρ) w;refine zb s5 ?_;have hval:=hv i ρ w hI;by_cases hi:i<n
 ·refine zi s6 (by rw [hx];show tst i ρ tc=_;rw [hval,decide_eq_true (by omega)])<|zp s7 ?_;show WP P N (zw (jl c)) _ (tst i ρ) w;refine zb s9<|zu b1 (zdn s10) ?_;have hfin: ∀(Q3:Exit→Env→World→Prop) ρ' w',(ρ' ti=iN i∧I (i+1) (inc i ρ') w')→(∀e ρ w,Q3 e ρ w=Q3 e ρ w)→WP P N (kX c) (nx (fun ρ' w'=> ∃m,m<n-i∧∃i,n-i=m∧i≤n∧I i ρ' w') Q3) ρ' w':=fun Q3 ρ' w' h _=>by
   rw [e2];refine WP.region _ l2 ?_;exact hJ i ρ' w' _ hi h.1 ⟨n-(i+1),by omega,i+1,rfl,by omega,h.2⟩
  refine vx (hb i ρ w hi hI) fun e ρ' w' h=>?_;cases e with
  | normal=>exact hfin _ ρ' w' h fun _ _ _=>rfl
  | exit k=>
   show bif Nat.beq k b1 then _ else _;change (bif Nat.beq k b1 then _ else _) at h;cases hk:Nat.beq k b1 with
   | true=>rw [hk] at h;exact hfin _ ρ' w' h fun _ _ _=>rfl
   | false=>rw [hk] at h;exact h
  | _=>exact h
 ·obtain rfl:i=n:=by omega
  refine zl s6 (by rw [hx];show tst i ρ tc=_;rw [hval,decide_eq_false (by omega)])<|ym b0 (zdn s8) ?_;show bif Nat.beq b0 b0 then _ else _;rw [Nat.beq_refl];exact he ρ w hI
theorem qQ (ti tn tc tj b0 b1 n:Nat)(hn:n≤0x4000000000000000)(I:Nat→Env→World→Prop)(hI: ∀i ρ w,I i ρ w→ρ ti=iN i∧ρ tn=iN n)
 (h0:I 0 ρ w) (hb: ∀i ρ w,i<n→I i ρ w→WP P N (uZ c) (zdo ti b0 b1 (fun ρ=>upd (upd ρ tj (iN (i+1))) ti (iN (i+1))) I Q i) (upd ρ tc (.bool true)) w)
 (he: ∀ρ w,I n ρ w→Q .normal (upd ρ tc (.bool false)) w)
 (hs:zbt 1 2 b0 b1 tc c=true:=by kernel_rfl) (hx:qU (zq (jl c))=.tmp tc:=by kernel_rfl)
 (ht: ∀(ρ0:Env) (i:Nat) w,opv P (zg (uY c)) 0 (upd (upd ρ0 tn (iN n)) ti (iN i)) w=some (some tc,true,.ok (.value (.bool (decide ((i:Int)<(n:Int))))) w):=by exact fun ρ0 i w=>by kernel_rfl)
 (hj: ∀(ρ0:Env) (i:Nat) w,opv P (zg (kX c)) 0 (upd ρ0 ti (iN i)) w=some (some tj,true,.ok (.value (.int .i64 (IntKind.i64.wrap ((i:Int)+1)))) w):=by exact fun ρ0 i w=>by kernel_rfl)
 (hk: ∀(ρ0:Env) (v:Value) w,opv P (zg (kX c)) 1 (upd ρ0 tj v) w=some (some ti,true,.ok (.value v) w):=by exact fun ρ0 v w=>by kernel_rfl)
 (hd:(dOK (some tc) N&&(dOK (some tj) N&&dOK (some ti) N))=true:=by kernel_rfl):WP P N c Q ρ w:=by
 simp only [Bool.and_eq_true] at hd;refine zf1 (ti:=ti) (tst:=fun i ρ=>upd ρ tc (.bool (decide ((i:Int)<(n:Int))))) (inc:=fun i ρ=>upd (upd ρ tj (iN (i+1))) ti (iN (i+1))) (n:=n) I hs hx (fun i ρ w K h k=>?_) (fun i ρ w h=>?_) (fun i ρ w K hi h k=>?_) h0 (fun i ρ w hi h=>?_) (fun ρ w h=>?_)
 ·have e:upd (upd ρ tn (iN n)) ti (iN i)=ρ:=by rw [xS (hI i ρ w h).2,xS (hI i ρ w h).1]
  refine zj (some tc) _ (fun w=>e▸ht ρ i w) hd.1 ?_;exact zc k
 ·show upd ρ tc _ tc=_;unfold upd;rw [Nat.beq_refl];rfl
 ·have e:upd ρ ti (iN i)=ρ:=xS h;refine qN (some tj) _ (iN (i+1)) (fun w=>e▸hj ρ i w) (zk (yF (a:=i) (b:=1) (by omega))) hd.2.1<|zj (some ti) (iN (i+1)) (fun w=>hk ρ (iN (i+1)) w) hd.2.2 ?_;exact zc k
 ·show WP P N (uZ c) _ (upd ρ tc (.bool (decide ((i:Int)<(n:Int))))) w;rw [decide_eq_true (show (i:Int)<(n:Int) by omega)];exact hb i ρ w hi h
 ·show Q .normal (upd ρ tc (.bool (decide ((n:Int)<(n:Int))))) w;rw [decide_eq_false (show ¬(n:Int)<(n:Int) by omega)];exact he ρ w h
end
set_option maxRecDepth 100000
theorem zlc {A B:Nat}(h:B≤A):cm A B≥0:=by unfold cm;split<;>(try split)<;>omega
theorem zdp {A B:Nat}(h:A<B):cm A B<0:=by unfold cm;split<;>(try split)<;>omega
theorem zdq {A B:Nat}(h: ¬A<B): ¬cm A B<0:=by unfold cm;split<;>(try split)<;>omega
theorem zld {A B:Nat}(h: ¬B≤A): ¬cm A B≥0:=by unfold cm;split<;>(try split)<;>omega
theorem qG:0<big:=by unfold big;omega
theorem zbu:1<big:=by unfold big;omega
theorem jz {p:Prop}(b:Bool)(f:b=false→p)(t:b=true→p):p:=by cases b;exact f rfl;exact t rfl
abbrev oU (n:Nat):Obj:=.cells (Value.cells (uv n)) 24 (0,0)
abbrev pB (b:Nat):Value:=.pointer (some ⟨b,0,none⟩)
theorem zab (L H M:Nat)(hL:L<big)(hH:H<big)(hM:MOK M):Fn Tryz.prog 78 #[uv L,uv H,uv M] (uv (rs L H M)):=by
 refine Fn.intro (c:=zd Tryz.f78) [.cell 6 24] 54 Tryz.func78 kr kr kr fun w=>?_;have H0:=St.start w;refine rS [.b,.b,.b,.a] H0 kr fun gs1 w1 H1=>rS [.v,.l 2,.c (zbq 0 M qG hM.1),.v,.v,.v,.a,.s 4,.v] H1 kr fun gs2 w2 H2=>zb kr<|zu 0 kr<|yD kr (fun m ρ x=> ∃(l h:Nat),l+big*h=m∧l<big∧h<big∧(l+big*h)%M=rs L H M∧St w.heap.size w x [((gs1 0).b,oU l),((gs1 1).b,oU h),((gs1 2).b,oU M),((gs1 3).b,oU 0),((gs2 6).b,oU (df 0 M))]∧Is [(3,pB (gs1 0).b),(4,pB (gs1 1).b),(5,pB (gs1 2).b),(6,pB (gs1 3).b),(7,pB (gs2 6).b)] ρ) (L+big*H) ⟨L,H,rfl,hL,hH,rfl,H2.as kr,isK⟩ ?_;clear H0 H1 H2;rintro _ _ w3 ⟨l,h,rfl,hl,hh,hm,H3,_,rfl⟩;refine zb kr ?_;by_cases hne:h=0
 ·refine rS [.l 1,.v,.oe (ins:=[(.tmp 19,uv h),(.tmp 20,uv 0)]) (v:=.bool (!decide (h=0))) (v':=.bool false) (fun ρ o w ho hi=>kW h 0 hh qG w ho hi.1 hi.2.1) (by rw [decide_eq_true hne];rfl)] H3 kr fun gs4 w4 H4=>?_;have hm0:(l+big*0)%M=rs L H M:=by rw [hne] at hm;exact hm
  refine zl kr kr<|ym 0 kr<|wW<|zb kr ?_;by_cases hc:M≤l
  ·refine rS [.l 0,.l 2,.c (xy l M hl hM.1),.E (.bool (decide (0≤cm l M))) (.bool true) (za (decide_eq_true (zlc hc)))] H4 kr fun gs5 w5 H5=>zi kr kr<|rL [.l 0,.l 2,.c (zbq l M hl hM.1),.v,.v,.v,.s 0] H5 kr fun gs6 w6 H6=>wW<|rS [.l 0,.s 3] H6 kr fun gs7 w7 H7=>?_;exact rRe [.cell 6 24] [3] H7 (congrArg uv (zkI hM hl hm0 hc)) kr
  ·refine rS [.l 0,.l 2,.c (xy l M hl hM.1),.E (.bool (decide (0≤cm l M))) (.bool false) (za (decide_eq_false (zld hc)))] H4 kr fun gs5 w5 H5=>zI<|wW<|rS [.l 0,.s 3] H5 kr fun gs7 w7 H7=>?_;exact rRe [.cell 6 24] [3] H7 (congrArg uv (zkJ hm0 hc)) kr
 ·refine rS [.l 1,.v,.oe (ins:=[(.tmp 19,uv h),(.tmp 20,uv 0)]) (v:=.bool (!decide (h=0))) (v':=.bool true) (fun ρ o w ho hi=>kW h 0 hh qG w ho hi.1 hi.2.1) (by rw [decide_eq_false hne];rfl)] H3 kr fun gs4 w4 H4=>zi kr kr<|zp kr<|wW<|zu 1 kr ?_;obtain ⟨h',hh1,hh2,hfold⟩:=zkH hM hl hh hne;refine rS [.l 1,.l 4,.c (zdk h (df 0 M) hh (zbg _ _)),.v,.v,.v,.a,.a,.s 5,.s 6] H4 kr fun gs5 w5 H5=>rS [.l 0,.l 5,.c (zbp l (pl h (df 0 M)) hl (zbh _ _)),.v,.v,.v,.a,.s 7,.v] H5 kr fun gs6 w6 H6=>dS [.l 7,.l 6,.s 0,.s 1] H6 kr fun w7 H7=>?_;have HX: ∀ {q x},St w.heap.size w x [((gs1 0).b,oU (sm l (pl h (df 0 M)))),((gs1 1).b,oU q),((gs1 2).b,oU M),((gs1 3).b,oU 0),((gs2 6).b,oU (df 0 M)),((gs5 6).b,oU (pl h (df 0 M))),((gs5 7).b,oU (ph h (df 0 M))),((gs6 6).b,oU (sm l (pl h (df 0 M))))]→St w.heap.size w x [((gs1 0).b,oU (sm l (pl h (df 0 M)))),((gs1 1).b,oU q),((gs1 2).b,oU M),((gs1 3).b,oU 0),((gs2 6).b,oU (df 0 M))]:=fun h=>h.sub (List.sublist_append_left [_,_,_,_,_] _);refine jz (ov l (pl h (df 0 M))) (fun ho=>?_) fun ho=>?_
  ·rw [ho] at hh1;simp only [Bool.false_eq_true,if_false] at hh1;subst hh1;refine rS [.E (.bool (ov l (pl h (df 0 M)))) (.bool false) (za ho)] H7 kr fun gs8 w8 H8=>zI ?_;exact ⟨_,zfV hM hne hfold,sm l (pl h (df 0 M)),ph h (df 0 M),rfl,uT _ _,hh2,zfU hfold hm,HX (H8.as kr),isK⟩
  ·rw [ho] at hh1;simp only [if_true] at hh1;subst hh1;refine rS [.E (.bool (ov l (pl h (df 0 M)))) (.bool true) (za ho)] H7 kr fun gs8 w8 H8=>zi kr kr<|dL [.l 6,.c (vN 1 (by omega)),.c (zbp (ph h (df 0 M)) 1 (zdf hh (zbg _ _)) zbu),.v,.v,.v,.s 1] H8 kr fun w9 H9=>?_;exact ⟨_,zfV hM hne hfold,sm l (pl h (df 0 M)),sm (ph h (df 0 M)) 1,rfl,uT _ _,hh2,zfU hfold hm,HX (H9.as kr),isK⟩
abbrev PrM (n:Int)(M:Nat):Prop:=Fn Tryz.prog 59 #[.int .i64 n] (.tuple #[uv M,.int .i64 0])
theorem zac:PrM 0 PR:=by
 refine Fn.intro (c:=zd Tryz.f59) [.cell 2 24,.tmp 3] 12 Tryz.func59 kr kr kr fun w=>rS [.a,.v] (St.start w) kr fun gs1 w1 H1=>zb kr<|rS [.v] H1 kr fun gs2 w2 H2=>zu 0 kr<|rS [.v,.v] H2 kr fun gs3 w3 H3=>zi kr kr<|rS [.v,.s 0,.v] H3 kr fun gs5 w5 H5=>?_;exact rR [.cell 2 24,.tmp 3] [0] (.tuple #[uv PR,.int .i64 0]) H5 kr
theorem xz:PrM 1 NR:=by
 refine Fn.intro (c:=zd Tryz.f59) [.cell 2 24,.tmp 3] 12 Tryz.func59 kr kr kr fun w=>rS [.a,.v] (St.start w) kr fun gs1 w1 H1=>zb kr<|rS [.v] H1 kr fun gs2 w2 H2=>zu 0 kr<|rS [.v,.v] H2 kr fun gs3 w3 H3=>zl kr kr<|rS [.v,.v] H3 kr fun gs4 w4 H4=>zi kr kr<|rS [.v,.s 0,.v] H4 kr fun gs5 w5 H5=>?_;exact rR [.cell 2 24,.tmp 3] [0] (.tuple #[uv NR,.int .i64 0]) H5 kr
theorem zbv {n:Int}{M:Nat}(hM:MOK M)(hp:PrM n M)(A B:Nat)(hA:A<big)(hB:B<big):Fn Tryz.prog 58 #[uv A,uv B,.int .i64 n] (.tuple #[uv (rs A B M),.int .i64 0]):=by
 refine Fn.intro (c:=zd Tryz.f58) [.cell 6 24,.tmp 7] 23 Tryz.func58 kr kr kr fun w=>rS [.b,.b,.a,.v] (St.start w) kr fun gs1 w1 H1=>rS [.v,.c hp,.v,.v,.v,.a,.s 3,.v] H1 kr fun gs2 w2 H2=>zb kr<|rS [.v,.v] H2 kr fun gs3 w3 H3=>zI<|wW<|rS [.l 0,.l 1,.l 3,.c (zab A B M hA hB hM),.s 2,.v] H3 kr fun gs4 w4 H4=>?_;exact rR [.cell 6 24,.tmp 7] [2] (.tuple #[uv (rs A B M),.int .i64 0]) H4 kr
theorem zf2 {n:Int}{M:Nat}(hM:MOK M)(hp:PrM n M)(A B:Nat)(hA:A<big)(hB:B<big):Fn Tryz.prog 130 #[uv A,uv B,.int .i64 n] (.tuple #[uv (fMul A B M),.int .i64 0]):=by
 refine Fn.intro (c:=zd Tryz.f130) [.cell 6 24,.tmp 7] 22 Tryz.func130 kr kr kr fun w=>rS [.b,.b,.a,.v] (St.start w) kr fun gs1 w1 H1=>rS [.l 0,.l 1,.c (zdk A B hA hB),.v,.v,.v,.a,.a,.s 3,.s 4] H1 kr fun gs2 w2 H2=>rS [.l 3,.l 4,.v,.c (zbv hM hp (pl A B) (ph A B) (zbh _ _) (zdf hA hB)),.v,.v,.s 2,.v] H2 kr fun gs3 w3 H3=>?_;exact rRe [.cell 6 24,.tmp 7] [2] H3 (congrArg (fun x=>Value.tuple #[uv x,.int .i64 0]) (uU A B M)) kr
theorem zf3 {n:Int}{M:Nat}(hM:MOK M)(hp:PrM n M)(A B:Nat)(hA:A<big)(hB:B<big):Fn Tryz.prog 131 #[uv A,uv B,.int .i64 n] (.tuple #[uv (fAdd A B M),.int .i64 0]):=by
 refine Fn.intro (c:=zd Tryz.f131) [.cell 6 24,.tmp 7] 25 Tryz.func131 kr kr kr fun w=>?_;have hf:=zkK (M:=M) hA hB;refine rS [.b,.b,.a,.v] (St.start w) kr fun gs1 w1 H1=>rS [.l 0,.l 1,.c (zbp A B hA hB),.v,.v,.v,.a,.s 3,.v] H1 kr fun gs2 w2 H2=>rS [.a] H2 kr fun gs3 w3 H3=>zb kr<|jz (ov A B) (fun ho=>?_) fun ho=>?_
 ·rw [ho] at hf;refine rS [.E (.bool (ov A B)) (.bool false) (za ho)] H3 kr fun gs4 w4 H4=>zI<|wW<|rS [.l 3,.l 4,.v,.c (zbv hM hp (sm A B) 0 (uT _ _) qG),.v,.v,.s 2,.v] H4 kr fun gs5 w5 H5=>?_;exact rRe [.cell 6 24,.tmp 7] [2] H5 (congrArg (fun x=>Value.tuple #[uv x,.int .i64 0]) hf) kr
 ·rw [ho] at hf;refine rS [.E (.bool (ov A B)) (.bool true) (za ho)] H3 kr fun gs4 w4 H4=>zi kr kr<|rL [.c (vN 1 (by omega)),.s 4] H4 kr fun gs5 w5 H5=>wW<|rS [.l 3,.l 4,.v,.c (zbv hM hp (sm A B) 1 (uT _ _) zbu),.v,.v,.s 2,.v] H5 kr fun gs6 w6 H6=>?_;exact rRe [.cell 6 24,.tmp 7] [2] H6 (congrArg (fun x=>Value.tuple #[uv x,.int .i64 0]) hf) kr
theorem zf4 {n:Int}{M:Nat}(hM:MOK M)(hp:PrM n M)(A B:Nat)(hA:A<big)(hB:B<big):Fn Tryz.prog 113 #[uv A,uv B,.int .i64 n] (.tuple #[uv (fSub A B M),.int .i64 0]):=by
 refine Fn.intro (c:=zd Tryz.f113) [.cell 6 24,.tmp 7] 41 Tryz.func113 kr kr kr fun w=>?_;have ha:rs A 0 M<big:=zde hM;have hb:rs B 0 M<big:=zde hM;refine rS [.b,.b,.a,.v] (St.start w) kr fun gs1 w1 H1=>rS [.v,.c hp,.v,.v,.v,.a,.s 3,.v] H1 kr fun gs2 w2 H2=>zb kr<|rS [.v,.v] H2 kr fun gs3 w3 H3=>zI<|wW<|dSg (fun gs4=>[.l 0,.v,.l 3,.c (zab A 0 M hA qG hM),.l 1,.v,.l 3,.c (zab B 0 M hB qG hM),.c (zbq (rs A 0 M) (rs B 0 M) ha hb),.v,.v,.v,.a,.s 4,.v]) H3 kr fun gs4 w4 H4=>zb kr<|jz (lo (rs A 0 M) (rs B 0 M)) (fun ho=>?_) fun ho=>?_
 ·refine rS [.E (.bool (lo (rs A 0 M) (rs B 0 M))) (.bool false) (za ho)] H4 kr fun gs5 w5 H5=>zI<|wW<|rS [.l 4,.s 2,.v] H5 kr fun gs6 w6 H6=>?_;exact rRe [.cell 6 24,.tmp 7] [2] H6 (congrArg (fun x=>Value.tuple #[uv x,.int .i64 0]) (zkM hM ho)) kr
 ·refine rS [.E (.bool (lo (rs A 0 M) (rs B 0 M))) (.bool true) (za ho)] H4 kr fun gs5 w5 H5=>zi kr kr<|rL [.l 4,.l 3,.c (zbp (df (rs A 0 M) (rs B 0 M)) M (zbg _ _) hM.1),.v,.v,.v,.s 4] H5 kr fun gs6 w6 H6=>wW<|rS [.l 4,.s 2,.v] H6 kr fun gs7 w7 H7=>?_;exact rRe [.cell 6 24,.tmp 7] [2] H7 (congrArg (fun x=>Value.tuple #[uv x,.int .i64 0]) (zkL hM ho)) kr
theorem zle (A B:Nat)(hA:A<big)(hB:B<big):Fn Tryz.prog 131 #[uv A,uv B,.int .i64 0] (.tuple #[uv (fAdd A B PR),.int .i64 0]):=zf3 qP zac A B hA hB
theorem zlf (A B:Nat)(hA:A<big)(hB:B<big):Fn Tryz.prog 130 #[uv A,uv B,.int .i64 0] (.tuple #[uv (fMul A B PR),.int .i64 0]):=zf2 qP zac A B hA hB
theorem zlg (A B:Nat)(hA:A<big)(hB:B<big):Fn Tryz.prog 113 #[uv A,uv B,.int .i64 0] (.tuple #[uv (fSub A B PR),.int .i64 0]):=zf4 qP zac A B hA hB
theorem zlh (A B:Nat)(hA:A<big)(hB:B<big):Fn Tryz.prog 58 #[uv A,uv B,.int .i64 1] (.tuple #[uv (rs A B NR),.int .i64 0]):=zbv qu xz A B hA hB
theorem zli (A B:Nat)(hA:A<big)(hB:B<big):Fn Tryz.prog 131 #[uv A,uv B,.int .i64 1] (.tuple #[uv (fAdd A B NR),.int .i64 0]):=zf3 qu xz A B hA hB
theorem zlj (A B:Nat)(hA:A<big)(hB:B<big):Fn Tryz.prog 130 #[uv A,uv B,.int .i64 1] (.tuple #[uv (fMul A B NR),.int .i64 0]):=zf2 qu xz A B hA hB
theorem zf5 (A B:Nat)(hA:A<big)(hB:B<big):Fn Tryz.prog 113 #[uv A,uv B,.int .i64 1] (.tuple #[uv (fSub A B NR),.int .i64 0]):=zf4 qu xz A B hA hB
set_option maxRecDepth 100000
theorem zlk {A n:Nat}(h:n<256):bt A (n:Int)=A.testBit n:=by unfold bt;simp;omega
theorem zf6 (X Y M bm:Nat)(hX:X<big)(hY:Y<big)(hM:MOK M):FnP Tryz.prog 162 #[uv X,uv Y,pB bm] (fun w=>w.heap[bm]? =some (oU M)) (uv (fMul X Y M)):=by
 refine FnP.intro (c:=zd Tryz.f162) [.cell 5 24] 18 Tryz.func162 kr kr kr fun w hP=>rS [.b,.b,.a] (St.start w) kr fun gs1 w1 H1=>rS [.l 0,.l 1,.c (zdk X Y hX hY),.v,.v,.v,.a,.a,.s 3,.s 4] H1 kr fun gs2 w2 H2=>rS [.l 3,.l 4,.f hP (zr hP),.c (zab (pl X Y) (ph X Y) M (zbh _ _) (zdf hX hY) hM),.s 2] H2 kr fun gs3 w3 H3=>?_;exact rRe [.cell 5 24] [2] H3 (congrArg uv (uU X Y M)) kr
theorem zll {e:Int}{M:Nat}(hM:MOK M)(hp:PrM e M)(A n:Nat)(hA:A<big)(hn:n<big):Fn Tryz.prog 129 #[uv A,uv n,.int .i64 e] (.tuple #[uv (fpw A n M),.int .i64 0]):=by
 refine Fn.intro (c:=zd Tryz.f129) [.cell 6 24,.tmp 7] 43 Tryz.func129 kr kr kr fun w=>?_;have H0:=St.start w;have hl:=len_le hn;refine rS [.b,.b,.a,.v] H0 kr fun gs1 w1 H1=>rS [.v,.c hp,.v,.v,.v,.a,.s 3,.v] H1 kr fun gs2 w2 H2=>zb kr<|rS [.v,.v] H2 kr fun gs3 w3 H3=>zI<|wW<|rS [.v,.v] H3 kr fun gs4 w4 H4=>rS [.c (vN 1 (by omega)),.a,.s 4] H4 kr fun gs5 w5 H5=>zb kr<|rS [.l 1,.c (zlb n hn),.E (.int .i64 (IntKind.i64.wrap ((len n:Int)-1))) (.int .i64 ((len n:Int)-1)) (zk (by rw [wrap_i64]<;>omega)),.v] H5 kr fun gs6 w6 H6=>?_;have H7: ∀q,q=1→St w.heap.size w w6 [((gs1 0).b,oU A),((gs1 1).b,oU n),((gs1 2).b,oU 0),((gs2 5).b,oU M),((gs5 1).b,oU q)]:=by rintro _ rfl;exact H6.as kr
 refine zu 0 kr<|yD kr (fun m ρ x=> ∃(k:Nat),k=m∧k≤256∧St w.heap.size w x [((gs1 0).b,oU A),((gs1 1).b,oU n),((gs1 2).b,oU 0),((gs2 5).b,oU M),((gs5 1).b,oU (fpw A (n / 2^k) M))]∧Is [(3,pB (gs1 0).b),(4,pB (gs1 1).b),(6,pB (gs1 2).b),(10,.func (.func 162) #[] #[pB (gs2 5).b]),(11,pB (gs5 1).b),(12,.int .i64 ((k:Int)-1))] ρ) (len n) ⟨len n,rfl,hl,H7 _ (zkP hM (zk5 n)).symm,isK⟩ ?_;clear H0 H1 H2 H3 H4 H5 H6 H7;rintro _ _ w8 ⟨k,rfl,hk,H8,_,rfl⟩;refine zb kr ?_;have hq:=zdh (A:=A) (n:=n / 2^k) hM;by_cases hc:1≤k
 ·refine rS [.v,.E (.bool (decide (0≤(k:Int)-1))) (.bool true) (za (decide_eq_true (by omega)))] H8 kr fun gs9 w9 H9=>zi kr kr<|zp kr<|wW<|zb kr<|zu 1 kr<|rS [.v,.l 4,.l 4,.cp (pre:=fun w=>w.heap[(gs2 5).b]? =some (oU M)) (zf6 (fpw A (n / 2^k) M) (fpw A (n / 2^k) M) M (gs2 5).b hq hq hM) [(3,((gs2 5).b,oU M))] (fun w _ hd=>hd.1),.s 4] H9 kr fun gs10 w10 H10=>?_;have hd2:=zkQ (A:=A) (n:=n) (k:=k) (M:=M) hc;have hd1:=zkR (A:=A) (n:=n) (k:=k) (M:=M) hc;rw [uU] at hd2 hd1;rw [uU] at hd1;rw [←zlk (by omega)] at hd2 hd1;have hB:=zfZ n ((k-1:Nat):Int);have DEC:Value.int .i64 (IntKind.i64.wrap (((k:Int)-1)-1))=.int .i64 (((k-1:Nat):Int)-1):=zk (by rw [wrap_i64 (by omega) (by omega)];omega);refine jz (bt n ((k-1:Nat):Int)) (fun hbt=>?_) fun hbt=>?_
  ·rw [hbt] at hB;refine rS [.l 1,.E (.int .i64 ((k:Int)-1)) (.int .i64 ((k-1:Nat):Int)) (zk (by omega)),.c hB] H10 kr fun gs11 w11 H11=>zI<|wW<|rL [.v,.e DEC,.v] H11 kr fun gs12 w12 H12=>?_;refine ⟨_,show k-1<k by omega,k-1,rfl,by omega,?_,isK⟩;rw [←hd2 hbt];exact H12.as kr
  ·rw [hbt] at hB;refine rS [.l 1,.E (.int .i64 ((k:Int)-1)) (.int .i64 ((k-1:Nat):Int)) (zk (by omega)),.c hB] H10 kr fun gs11 w11 H11=>zi kr kr<|rL [.v,.l 4,.l 0,.cp (pre:=fun w=>w.heap[(gs2 5).b]? =some (oU M)) (zf6 (fMul (fpw A (n / 2^k) M) (fpw A (n / 2^k) M) M) A M (gs2 5).b (zbi hM) hA hM) [(3,((gs2 5).b,oU M))] (fun w _ hd=>hd.1),.s 4] H11 kr fun gs12 w12 H12=>wW<|rL [.v,.e DEC,.v] H12 kr fun gs13 w13 H13=>?_;refine ⟨_,show k-1<k by omega,k-1,rfl,by omega,?_,isK⟩;rw [←hd1 hbt];exact H13.as kr
 ·obtain rfl:k=0:=by omega
  refine rS [.v,.E (.bool (decide (0≤((0:Nat):Int)-1))) (.bool false) (za (decide_eq_false (by omega)))] H8 kr fun gs9 w9 H9=>zl kr kr<|ym 0 kr<|wW<|rS [.l 4,.s 2,.v] H9 kr fun gs10 w10 H10=>?_;exact rRe [.cell 6 24,.tmp 7] [2] H10 (congrArg (fun q=>Value.tuple #[uv (fpw A q M),.int .i64 0]) (Nat.div_one n)) kr
set_option maxRecDepth 100000
def finv (A M:Nat):Nat:=fpw A (df M 2) M
theorem zf7 {e:Int}{M:Nat}(hM:MOK M)(hp:PrM e M)(A:Nat)(hA:A<big)(hz:rs A 0 M≠0):Fn Tryz.prog 83 #[uv A,.int .i64 e] (.tuple #[uv (finv A M),.int .i64 0]):=by
 refine Fn.intro (c:=zd Tryz.f83) [.cell 4 24,.tmp 5] 38 Tryz.func83 kr kr kr fun w=>rS [.b,.a,.v] (St.start w) kr fun gs1 w1 H1=>rS [.v,.c hp,.v,.v,.v,.a,.s 2,.v] H1 kr fun gs2 w2 H2=>zb kr<|rS [.v,.v] H2 kr fun gs3 w3 H3=>zI<|wW<|zb kr<|rS [.l 0,.v,.l 2,.c (zab A 0 M hA qG hM),.v,.oe (ins:=[(.tmp 22,uv (rs A 0 M)),(.tmp 23,uv 0)]) (v:=.bool (decide (rs A 0 M=0))) (v':=.bool false) (fun ρ o w ho hi=>zdl (rs A 0 M) 0 (zde hM) qG w ho hi.1 hi.2.1) (by rw [decide_eq_false hz])] H3 kr fun gs4 w4 H4=>zI<|wW<|dSg (fun gs5=>[.l 2,.c (vN 2 (by omega)),.c (zbq M 2 hM.1 (by unfold big;omega)),.v,.v,.v,.a,.s 3,.v]) H4 kr fun gs5 w5 H5=>rS [.l 0,.l 3,.v,.c (zll hM hp A (df M 2) hA (zbg _ _)),.v,.v,.s 1,.v] H5 kr fun gs6 w6 H6=>?_;exact rR [.cell 4 24,.tmp 5] [1] (.tuple #[uv (finv A M),.int .i64 0]) H6 kr
theorem zlm (A:Nat)(hA:A<big)(hz:rs A 0 PR≠0):Fn Tryz.prog 83 #[uv A,.int .i64 0] (.tuple #[uv (finv A PR),.int .i64 0]):=zf7 qP zac A hA hz
theorem zln (A:Nat)(hA:A<big)(hz:rs A 0 NR≠0):Fn Tryz.prog 83 #[uv A,.int .i64 1] (.tuple #[uv (finv A NR),.int .i64 0]):=zf7 qu xz A hA hz
end Go.Proofs.YtpghmdbjmigjlaaGreatDoor
namespace Go.Proofs.YtpghmdbjmigjlaaGreatDoor
def vl:List Nat→Nat
 | []=>0
 | d::r=>d+65536*vl r
open Go
set_option linter.unusedVariables false
def ls (x y:List Nat):Bool:=decide (vl x<vl y)
end Go.Proofs.YtpghmdbjmigjlaaGreatDoor
namespace Go.Proofs.YtpghmdbjmigjlaaGreatDoor
open Go Go.RowKit
set_option linter.unusedVariables false
section
variable {P:Program}{N:Nat}{ops:Array Oper}{i:Nat}{r:List Nat}{K:Env→World→Prop}{ρ:Env}{w:World}{B:Nat}{w0:World}{l:List (Nat×Obj)}
end
namespace D2
section
variable {P:Program}{ops:Array Oper}{R:(Nat→Gh)→Env}{i:Nat}{d:Option Nat}
variable {E:(Nat→Bool)→(Nat→Gh)→List Ent}{F:(Nat→Bool)→(Nat→Gh)→Prop}{B:Nat}{w0:World}
end
end D2
end Go.Proofs.YtpghmdbjmigjlaaGreatDoor
namespace Go.Proofs.YtpghmdbjmigjlaaGreatDoor
open Go Go.ChangeShapes Go.WideShapes Go.ChangeAt Go.RowKit
set_option linter.unusedVariables false
set_option maxRecDepth 100000
theorem zlo:Tryz.prog.cellsOf 22=1:=kr
theorem zlp:Tryz.prog.cellsOf 24=4:=kr
theorem zbw {x:Int}(h:(Lit.int .u64 x).wf=true):Wd x:=by
 have hmin:IntKind.u64.min=0:=rfl;have hmax:IntKind.u64.max=0xffffffffffffffff:=rfl;simp only [Lit.wf,Bool.and_eq_true,decide_eq_true_eq] at h;unfold Wd;omega
theorem zlq {α:Type}(l:List α)(h:(⟨l⟩:Array α).size=9):∃a b c d e f g i j,l=[a,b,c,d,e,f,g,i,j]:=by
 match l,h with
 | [a,b,c,d,e,f,g,i,j],_=>exact ⟨a,b,c,d,e,f,g,i,j,rfl⟩
theorem zf8 {H:Type}{enc:TypeId×Value→H}{W:World}{b0:Nat}{sp:Nat→Bool}{held:Bool}{x:DataW H×List MemPlace}{fuel:Nat}{c0 c1 c2 c3:Value}
 (hf:DataW.trod enc Tryz.prog W b0 sp held fuel 24 [c0,c1,c2,c3]=some x):∃n:Nat,n<big∧c0=.int .u64 (w0 n)∧c1=.int .u64 (w1 n)∧c2=.int .u64 (w2 n)∧c3=.int .u64 (w3 n):=by
 obtain ⟨y0,y1,y2,y3,m,hx,hy0,hy1,hy2,hy3⟩:=trod_array4 Tryz.underlying24 zlo hf;obtain ⟨x0,e0,rfl,w0⟩:=DataW.trod_int Tryz.underlying22 hy0;obtain ⟨x1,e1,rfl,w1⟩:=DataW.trod_int Tryz.underlying22 hy1;obtain ⟨x2,e2,rfl,w2⟩:=DataW.trod_int Tryz.underlying22 hy2;obtain ⟨x3,e3,rfl,w3⟩:=DataW.trod_int Tryz.underlying22 hy3;simp at e0 e1 e2 e3;subst e0 e1 e2 e3;obtain ⟨n,hn,g0,g1,g2,g3⟩:=zkx (zbw w0) (zbw w1) (zbw w2) (zbw w3);exact ⟨n,hn,by rw [g0],by rw [g1],by rw [g2],by rw [g3]⟩
end Go.Proofs.YtpghmdbjmigjlaaGreatDoor
namespace Go.Proofs.YtpghmdbjmigjlaaGreatDoor
open Go Go.RowKit
set_option linter.unusedVariables false
inductive Fo
 | nil
 | cons (l:Bool) (s:ByteArray) (k r:Fo)
def Fo.len:Fo→Nat
 | .nil=>0
 | .cons _ _ _ r=>r.len+1
def Fo.cnt:Fo→Nat
 | .nil=>0
 | .cons _ _ k r=>1+k.cnt+r.cnt
def qX (B:Nat)(w:World):Fo→Nat→Nat→Prop
 | .nil,_,_=>True
 | .cons l s k r,b,off=>(∃(C:Array Value) (T:TypeId) (fz:Nat×Nat) (p:Option Addr) (n c:Nat),b<B∧w.heap[b]? =some (.cells C T fz)∧off+3≤C.size∧
  C.extract off (off+3)=#[.bool l,.string s,.slice p n c]∧s.size≤0x800000000000∧n=k.len∧n≤0x800000000000∧(k=.nil∨∃b' off',p=some ⟨b',off',none⟩∧qX B w k b' off'))∧qX B w r b (off+3)
def zx (B:Nat)(w:World)(p:Option Addr)(n:Nat)(k:Fo):Prop:=n=k.len∧n≤0x800000000000∧(k=.nil∨∃b off,p=some ⟨b,off,none⟩∧qX B w k b off)
def FoR (B:Nat)(w:World)(p:Option Addr)(i:Nat)(r:Fo):Prop:=r=.nil∨∃b off,p=some ⟨b,off,none⟩∧qX B w r b (off+i*3)
theorem qX.up {B B':Nat}{w w':World}(hb:Below B w w')(hB:B≤B'): ∀ {k:Fo} {b off:Nat},qX B w k b off→qX B' w' k b off
 | .nil,_,_,_=>trivial
 | .cons l s k r,b,off,⟨⟨C,T,fz,p,n,c,h1,h2,h3,h4,h5,h6,h7,h8⟩,h9⟩=>
  ⟨⟨C,T,fz,p,n,c,Nat.lt_of_lt_of_le h1 hB,by rw [hb.block b h1];exact h2,h3,h4,h5,h6,h7,h8.imp id fun ⟨b',o',e,h⟩=>⟨b',o',e,qX.up hb hB h⟩⟩,qX.up hb hB h9⟩
theorem zx.up {B B':Nat}{w w':World}{p:Option Addr}{n:Nat}{k:Fo}(h:zx B w p n k)(hb:Below B w w')(hB:B≤B'):zx B' w' p n k:=
 ⟨h.1,h.2.1,h.2.2.imp id fun ⟨b,o,e,h⟩=>⟨b,o,e,h.up hb hB⟩⟩
theorem zx.call {w0 w:World}{p:Option Addr}{n:Nat}{k:Fo}(h:zx w0.heap.size w0 p n k)(hb:Below w0.heap.size w0 w):zx w.heap.size w p n k:=h.up hb hb.size
theorem zx.nil (B:Nat)(w:World)(p:Option Addr):zx B w p 0 .nil:=⟨rfl,by omega,.inl rfl⟩
theorem zx.zero {B:Nat}{w:World}{p:Option Addr}{n:Nat}{k:Fo}(h:zx B w p n k)(h0:n=0):k=.nil:=by
 cases k with
 | nil=>rfl
 | cons l s k r=>have:=h.1;simp only [Fo.len] at this;omega
theorem zx.start {B:Nat}{w:World}{p:Option Addr}{n:Nat}{k:Fo}(h:zx B w p n k):FoR B w p 0 k:=
 h.2.2.imp id fun ⟨b,o,e,h⟩=>⟨b,o,e,by rw [Nat.zero_mul,Nat.add_zero];exact h⟩
theorem FoR.open {B:Nat}{w:World}{p:Option Addr}{i n:Nat}{r:Fo}(h:FoR B w p i r)(hn:i+r.len=n)(hi:i<n):
 ∃l s k r' b off C T fz p' n' c',r=.cons l s k r'∧p=some ⟨b,off,none⟩∧b<B∧w.heap[b]? =some (.cells C T fz)∧off+i*3+3≤C.size∧
  C.extract (off+i*3) (off+i*3+3)=#[.bool l,.string s,.slice p' n' c']∧s.size≤0x800000000000∧zx B w p' n' k∧FoR B w p (i+1) r'∧i+1+r'.len=n:=by
 cases r with
 | nil=>simp only [Fo.len] at hn;omega
 | cons l s k r'=>
  rcases h with h|⟨b,off,e,⟨C,T,fz,p',n',c',h1,h2,h3,h4,h5,h6,h7,h8⟩,h9⟩
  ·cases h
  ·refine ⟨l,s,k,r',b,off,C,T,fz,p',n',c',rfl,e,h1,h2,h3,h4,h5,⟨h6,h7,h8⟩,.inr ⟨b,off,e,?_⟩,?_⟩
   ·rw [show off+(i+1)*3=off+i*3+3 by omega];exact h9
   ·simp only [Fo.len] at hn;omega
theorem FoR.done {i n:Nat}{r:Fo}(hn:i+r.len=n)(hi: ¬i<n):r=.nil:=by
 cases r with
 | nil=>rfl
 | cons l s k r'=>simp only [Fo.len] at hn;omega
theorem zad {P:Program}{ρ:Env}{t e:TypeId}{bytes:Nat}(ht:yd P t=some (e,3,bytes)){x y:Operand}{o:Oper}{kd:IntKind}{p:Option Addr}(b q n c k:Nat)(hp:p=some ⟨b,q,none⟩)(ho:o.op=.indexAddr t x y)(hx:ev ρ x=.slice p n c)(hy:ev ρ y=.int kd (k:Int))(hk:k<n):
 ∀w,(execOp (ev ρ) o).run P w=.ok (.value (.pointer (some ⟨b,q+k*3,none⟩))) w:=by
 subst hp;exact xT ht b q n c k ho hx hy hk
theorem Fo.len_le: ∀k:Fo,k.len≤k.cnt
 | .nil=>Nat.le_refl _
 | .cons _ _ k r=>by have:=Fo.len_le r;simp only [Fo.len,Fo.cnt];omega
def dgI:Nat→Nat→List UInt8
 | 0,_=>[]
 | m+1,n=>if n=0 then [] else dgI m (n / 256)++ [UInt8.ofNat n]
def dg (n:Nat):List UInt8:=dgI 8 n
def hd (f n:Nat):List UInt8:=if n≤55 then [UInt8.ofNat (f+n)] else UInt8.ofNat (f+55+(dg n).length)::dg n
def frm (l:Bool):Nat:=if l then 192 else 128
def zT (s:ByteArray):Bool:=decide (s.size=1)&&decide (by_ s 0<128)
def mixed (l:Bool)(s:ByteArray)(n:Nat):Bool:=if l then decide (s.size≠0) else decide (n≠0)
def wr1 (l:Bool)(s:ByteArray)(m:Nat)(ks:List UInt8):List UInt8:=(if zT s then [] else hd (frm l) (s.size+m))++(tl s++ks)
def sz1 (l:Bool)(s:ByteArray)(m:Nat):Nat:=if zT s then 1 else (hd (frm l) (s.size+m)).length+(s.size+m)
def szF:Fo→Nat
 | .nil=>0
 | .cons l s k r=>sz1 l s (szF k)+szF r
def wrF:Fo→List UInt8
 | .nil=>[]
 | .cons l s k r=>wr1 l s (szF k) (wrF k)++wrF r
def dp1 (l:Bool)(d:Nat):Nat:=if l then 1+d else 0
def dpF:Fo→Nat
 | .nil=>0
 | .cons l s k r=>max (dp1 l (dpF k)) (dpF r)
def pureF:Fo→Bool
 | .nil=>true
 | .cons l s k r=>(!mixed l s k.len&&pureF k)&&pureF r
def lf1 (l:Bool)(s:ByteArray)(k:Nat)(f:Nat→Option Nat)(room:Nat):Option Nat:=if room=0∨mixed l s k=true then none else f (room-1)
def lfF:Fo→Nat→Option Nat
 | .nil,room=>some room
 | .cons l s k r,room=>(lf1 l s k.len (lfF k) room).bind (lfF r)
def lfV:Option Nat→Int
 | none=> -1
 | some q=>(q:Int)
theorem kY: ∀(k:Fo) (room:Nat),lfF k room=if pureF k=true∧k.cnt≤room then some (room-k.cnt) else none
 | .nil,room=>by simp [lfF,pureF,Fo.cnt]
 | .cons l s k r,room=>by
  have h1:=kY k (room-1);have e1:pureF (.cons l s k r)=((!mixed l s k.len&&pureF k)&&pureF r):=rfl;have e2:(Fo.cons l s k r).cnt=1+k.cnt+r.cnt:=rfl;rw [show lfF (.cons l s k r) room=(lf1 l s k.len (lfF k) room).bind (lfF r) from rfl];unfold lf1;by_cases hr:room=0
  ·subst hr;rw [if_pos (Or.inl rfl),if_neg (by rw [e2];omega)];rfl
  ·cases hm:mixed l s k.len with
   | true=>rw [if_pos (Or.inr rfl),if_neg (by rw [e1,hm];simp)];rfl
   | false=>
    rw [if_neg (by simp [hr]),h1];cases hp:pureF k with
    | false=>rw [if_neg (by simp),if_neg (by rw [e1,hp];simp)];rfl
    | true=>
     by_cases hc:k.cnt≤room-1
     ·rw [if_pos ⟨rfl,hc⟩,Option.bind_some,kY r];cases hq:pureF r with
      | false=>rw [if_neg (by simp),if_neg (by rw [e1,hq];simp)]
      | true=>
       by_cases hd:r.cnt≤room-1-k.cnt
       ·rw [if_pos ⟨rfl,hd⟩,if_pos ⟨by rw [e1,hm,hp,hq];rfl,by rw [e2];omega⟩,e2];congr 1;omega
       ·rw [if_neg (by simp [hd]),if_neg (by rw [e2];rintro ⟨_,h⟩;omega)]
     ·rw [if_neg (by simp [hc]),if_neg (by rw [e2];rintro ⟨_,h⟩;omega)];rfl
theorem zlr {k:Fo}{room q:Nat}(h:lfF k room=some q):q≤room:=by
 rw [kY] at h;split at h
 ·injection h with h;omega
 ·cases h
theorem zf9: ∀m n,(dgI m n).length≤m
 | 0,_=>Nat.le_refl _
 | m+1,n=>by unfold dgI;split;·simp
             ·simp;exact zf9 m _
theorem yZ (n:Nat):(dg n).length≤8:=zf9 8 n
theorem xW (f n:Nat):1≤(hd f n).length∧(hd f n).length≤9:=by
 unfold hd;have:=yZ n;split<;>simp<;>omega
theorem zae (l:Bool)(s:ByteArray)(m:Nat):sz1 l s m≤9+(s.size+m):=by
 unfold sz1;have:=xW (frm l) (s.size+m);split<;>omega
theorem jA {s:ByteArray}(h:zT s=true):s.size=1:=by
 unfold zT at h;simp only [Bool.and_eq_true,decide_eq_true_eq] at h;exact h.1
theorem zga (l:Bool)(s:ByteArray)(m:Nat):1≤sz1 l s m:=by
 unfold sz1;have:=xW (frm l) (s.size+m);split<;>omega
theorem zbx {s:ByteArray}(h: ¬s=⟨#[]⟩):s.size≠0:=fun e=>h (by
 obtain ⟨d⟩:=s;have:d.size=0:=e
 rw [Array.eq_empty_of_size_eq_zero this])
theorem zls {l:Bool}{s:ByteArray}{n:Nat}{k:Fo}{room q:Nat}(h:lf1 l s n (lfF k) room=some q):q≤room:=by
 unfold lf1 at h;split at h
 ·cases h
 ·have:=zlr h;omega
theorem zlt {l:Bool}{s:ByteArray}{n:Nat}{f:Nat→Option Nat}{room:Nat}(h:room=0):lfV (lf1 l s n f room)= -1:=by unfold lf1;rw [if_pos (Or.inl h)];rfl
theorem zlu {l:Bool}{s:ByteArray}{n:Nat}{f:Nat→Option Nat}{room:Nat}(h:mixed l s n=true):lfV (lf1 l s n f room)= -1:=by unfold lf1;rw [if_pos (Or.inr h)];rfl
theorem zgb {l:Bool}{s:ByteArray}{n:Nat}{f:Nat→Option Nat}{room:Nat}(h0:room≠0)(h:mixed l s n=false):lf1 l s n f room=f (room-1):=by unfold lf1;rw [if_neg (by simp [h0,h])]
theorem zlv {l:Bool}{s:ByteArray}{n:Nat}{k r:Fo}{q y:Nat}(hn:n=k.len)(h:lf1 l s n (lfF k) q=some y):lfF (.cons l s k r) q=lfF r y:=by
 subst hn;show (lf1 l s k.len (lfF k) q).bind (lfF r)=_;rw [h];rfl
theorem zlw {l:Bool}{s:ByteArray}{n:Nat}{k r:Fo}{q:Nat}(hn:n=k.len)(h:lf1 l s n (lfF k) q=none):lfV (lfF (.cons l s k r) q)= -1:=by
 subst hn;show lfV ((lf1 l s k.len (lfF k) q).bind (lfF r))=_;rw [h];rfl
theorem zlx {a:Nat}(h:a<0x10000000000000000):Int.fdiv (a:Int) (2^0)=(a:Int):=by rw [Int.pow_zero,Int.fdiv_one]
def wtF:Fo→Nat
 | .nil=>0
 | .cons l s k r=>9+s.size+wtF k+wtF r
theorem xX: ∀k:Fo,szF k≤wtF k
 | .nil=>Nat.le_refl _
 | .cons l s k r=>by
  have h1:=xX k;have h2:=xX r;have h3:=zae l s (szF k);simp only [szF,wtF];omega
theorem qX.wt {B:Nat}{w:World} : ∀ {k:Fo} {b off:Nat},qX B w k b off→wtF k≤k.cnt*0x800000000009
 | .nil,_,_,_=>Nat.zero_le _
 | .cons l s k r,b,off,⟨⟨C,T,fz,p,n,c,h1,h2,h3,h4,h5,h6,h7,h8⟩,h9⟩=>by
  have hr:=qX.wt h9;have hk:wtF k≤k.cnt*0x800000000009:=by
   rcases h8 with rfl|⟨b',o',e,h⟩
   ·exact Nat.zero_le _
   ·exact qX.wt h
  simp only [wtF,Fo.cnt];omega
theorem zx.wt {B:Nat}{w:World}{p:Option Addr}{n:Nat}{k:Fo}(h:zx B w p n k):wtF k≤k.cnt*0x800000000009:=by
 rcases h.2.2 with rfl|⟨b,o,e,h⟩
 ·exact Nat.zero_le _
 ·exact h.wt
theorem zgc {f:Nat}(b:BitVec 8)(hb:b.toNat=f)(n:Nat)(h:n≤55)(hf:f≤192):strOfNums [(BitVec.toNat (b+BitVec.ofNat 8 n):Int)]=zf (hd f n):=by
 unfold hd;rw [if_pos h];show (⟨#[UInt8.ofNat (Int.toNat _)]⟩:ByteArray)=⟨#[UInt8.ofNat (f+n)]⟩
 rw [Int.toNat_natCast,BitVec.toNat_add,BitVec.toNat_ofNat,hb];rw [show (f+n%2^8)%2^8=f+n by omega]
theorem zgd {f:Nat}(b:BitVec 8)(hb:b.toNat=f+55)(n:Nat)(h: ¬n≤55)(hf:f≤192):strOfNums [(BitVec.toNat (b+BitVec.ofNat 8 (ByteArray.size (zf (dg n)))):Int)]++zf (dg n)=zf (hd f n):=by
 have hl:=yZ n;have e:UInt8.ofNat (Int.toNat (BitVec.toNat (b+BitVec.ofNat 8 (ByteArray.size (zf (dg n)))):Int))=UInt8.ofNat (f+55+(dg n).length):=by
  rw [Int.toNat_natCast,BitVec.toNat_add,BitVec.toNat_ofNat,hb,qt];rw [show (f+55+(dg n).length%2^8)%2^8=f+55+(dg n).length by omega]
 apply jj;rw [vI];show [UInt8.ofNat _]++dg n=hd f n;unfold hd;rw [if_neg h,e];rfl
theorem zby: ∀k:Fo,(wrF k).length≤wtF k
 | .nil=>Nat.le_refl _
 | .cons l s k r=>by
  have h1:=zby k;have h2:=zby r;simp only [wrF,wtF,wr1,List.length_append,zy];split
  ·simp only [List.length_nil];omega
  ·have:=xW (frm l) (s.size+szF k);omega
theorem zdr: ∀ {k:Fo},pureF k=true→wtF k≤szF k+9*k.cnt
 | .nil,_=>Nat.zero_le _
 | .cons l s k r,h=>by
  simp only [pureF,Bool.and_eq_true,Bool.not_eq_true'] at h;have h1:=zdr h.1.2;have h2:=zdr h.2;simp only [wtF,szF,Fo.cnt,sz1];split
  ·rename_i hs
   have hz:=jA hs;have hk:k=.nil:=by
    have hm:=h.1.1;unfold mixed at hm;cases l with
    | true=>simp [hz] at hm
    | false=>
     cases k with
     | nil=>rfl
     | cons=>simp [Fo.len] at hm
   subst hk;simp only [wtF,Fo.cnt];omega
  ·have:=xW (frm l) (s.size+szF k);omega
theorem zge {α:Type}(x:Option α):x=none∨∃y,x=some y:=by cases x with
 | none=>exact .inl rfl
 | some y=>exact .inr ⟨y,rfl⟩
theorem zbz: ∀k:Fo,dpF k≤k.cnt
 | .nil=>Nat.le_refl _
 | .cons l s k r=>by
  have h1:=zbz k;have h2:=zbz r;simp only [dpF,Fo.cnt,dp1];split<;>omega
theorem zgf (t:ByteArray)(h:t.size≠0):(t.extract 1 t.size).size=t.size-1:=by simp
theorem zgg (t:ByteArray):tl (t.extract 1 t.size)=(tl t).drop 1:=by
 rw [qC,List.take_of_length_le (by rw [zy];exact Nat.le_refl _)]
theorem xY {t:ByteArray}(h:t.size≠0):∃l,tl t=UInt8.ofNat (by_ t 0)::l:=by
 have hl:(tl t).length≠0:=by rw [zy];exact h
 unfold by_;cases e:tl t with
 | nil=>rw [e] at hl;simp at hl
 | cons x l=>exact ⟨l,by simp⟩
theorem zly (t:ByteArray)(h:t.size≠0)(h0:by_ t 0=0):(tl (t.extract 1 t.size)).dropWhile (·==0)=(tl t).dropWhile (·==0):=by
 obtain ⟨l,e⟩:=xY h;rw [zgg,e,h0];rfl
theorem zds {t:ByteArray}(h:t=⟨#[]⟩):zf ((tl t).dropWhile (·==0))=t:=by subst h;rfl
theorem zbA (t:ByteArray)(h:t.size=0∨by_ t 0≠0):zf ((tl t).dropWhile (·==0))=t:=by
 rcases h with h|h
 ·exact zds (Decidable.not_not.1 fun q=>zbx q h)
 ·by_cases h2:t.size=0
  ·exact zds (Decidable.not_not.1 fun q=>zbx q h2)
  ·obtain ⟨l,e⟩:=xY h2;have hb:=jK t 0;have hne:(UInt8.ofNat (by_ t 0)==0)=false:=by
    rw [beq_eq_false_iff_ne];intro q;have:=congrArg UInt8.toNat q;rw [UInt8.toNat_ofNat_of_lt' (by simpa using hb)] at this;exact h this
   rw [e,List.dropWhile_cons,hne];show zf (UInt8.ofNat (by_ t 0)::l)=t;rw [←e];exact uN t
theorem zgh: ∀ {l:List UInt8},(∀x∈l,(x==0)=true)→l.dropWhile (·==0)=[]
 | [],_=>rfl
 | x::l,h=>by rw [List.dropWhile_cons,if_pos (h x (List.mem_cons_self ..))];exact zgh fun y hy=>h y (List.mem_cons_of_mem _ hy)
def beI:Nat→Nat→List UInt8
 | 0,_=>[]
 | m+1,n=>beI m (n / 256)++ [UInt8.ofNat n]
theorem zdt: ∀m,(beI m 0).dropWhile (·==0)=[]∧ ∀x∈beI m 0,(x==0)=true
 | 0=>⟨rfl,fun _ h=>nomatch h⟩
 | m+1=>by
  have h:=(zdt m).2;have h2: ∀x∈beI (m+1) 0,(x==0)=true:=by
   intro x hx;simp only [beI,Nat.zero_div,List.mem_append,List.mem_singleton] at hx;rcases hx with hx | rfl
   ·exact h x hx
   ·rfl
  exact ⟨zgh h2,h2⟩
theorem zlz (m:Nat):dgI m 0=[]:=by cases m<;>rfl
theorem drop_append {l r:List UInt8}(h:l.dropWhile (·==0)≠[]):(l++r).dropWhile (·==0)=l.dropWhile (·==0)++r:=by
 induction l with
 | nil=>exact absurd rfl h
 | cons x l ih=>
  rw [List.cons_append,List.dropWhile_cons,List.dropWhile_cons];split
  ·rename_i hx;rw [List.dropWhile_cons,if_pos hx] at h;exact ih h
  ·rfl
theorem zdu: ∀m n,n<256^m→(beI m n).dropWhile (·==0)=dgI m n
 | 0,n,h=>rfl
 | m+1,n,h=>by
  have hlt:n / 256<256^m:=by rw [Nat.pow_succ] at h;omega
  have ih:=zdu m (n / 256) hlt;unfold dgI;split
  ·rename_i h0;subst h0;exact (zdt (m+1)).1
  ·rename_i h0
   show (beI m (n / 256)++ [UInt8.ofNat n]).dropWhile (·==0)=_;by_cases hq:n / 256=0
   ·rw [hq,zlz,List.dropWhile_append,(zdt m).1];have hx:(UInt8.ofNat n==0)=false:=by
     rw [beq_eq_false_iff_ne];intro q;have:=congrArg UInt8.toNat q;rw [UInt8.toNat_ofNat_of_lt' (by simp only [UInt8.size];omega)] at this;exact h0 this
    simp [hx]
   ·rw [drop_append,ih];rw [ih];intro q;cases m with
    | zero=>simp at hlt;omega
    | succ m=>unfold dgI at q;rw [if_neg hq] at q;simp at q
def dgB (n d:Nat):BitVec 8:=BitVec.ofNat 8 (n / d)
theorem xZ (n d:Nat):Value.int .u8 (IntKind.u8.wrap (((n / d:Nat):Int)))=.int .u8 (BitVec.toNat (dgB n d):Int):=vG (n / d)
theorem zlA (n:Nat):Value.int .u8 (IntKind.u8.wrap ((n:Int)))=.int .u8 (BitVec.toNat (dgB n 1):Int):=by
 have h:=xZ n 1;rw [Nat.div_one] at h;exact h
theorem zlB (n d:Nat):UInt8.ofNat (Int.toNat (BitVec.toNat (dgB n d):Int))=UInt8.ofNat (n / d):=by
 rw [Int.toNat_natCast];apply UInt8.toNat_inj.1;rw [UInt8.toNat_ofNat',UInt8.toNat_ofNat'];unfold dgB;rw [BitVec.toNat_ofNat];omega
theorem zlC (n:Nat):tl (strOfNums [(BitVec.toNat (dgB n 72057594037927936):Int),(BitVec.toNat (dgB n 281474976710656):Int),(BitVec.toNat (dgB n 1099511627776):Int),(BitVec.toNat (dgB n 4294967296):Int),(BitVec.toNat (dgB n 16777216):Int),(BitVec.toNat (dgB n 65536):Int),(BitVec.toNat (dgB n 256):Int),(BitVec.toNat (dgB n 1):Int)])=beI 8 n:=by
 unfold tl;rw [strOfNums_data];simp only [List.map_cons,List.map_nil,zlB,beI,List.nil_append,List.append_assoc,List.cons_append,Nat.div_div_eq_div_mul,Nat.div_one]
theorem zlD (n:Nat)(h:n<0x10000000000000000):(tl (strOfNums [(BitVec.toNat (dgB n 72057594037927936):Int),(BitVec.toNat (dgB n 281474976710656):Int),(BitVec.toNat (dgB n 1099511627776):Int),(BitVec.toNat (dgB n 4294967296):Int),(BitVec.toNat (dgB n 16777216):Int),(BitVec.toNat (dgB n 65536):Int),(BitVec.toNat (dgB n 256):Int),(BitVec.toNat (dgB n 1):Int)])).dropWhile (·==0)=dg n:=by
 rw [zlC];exact zdu 8 n h
def zJ (l:Bool)(s:ByteArray)(n:Nat)(k:Fo):ByteArray×Nat:=
 match lf1 l s n (lfF k) 4000 with
 | none=>(⟨#[]⟩,1)
 | some _=>if 8<dp1 l (dpF k) then (⟨#[]⟩,5) else if 4000<sz1 l s (szF k) then (⟨#[]⟩,2) else (zf (wr1 l s (szF k) (wrF k)),0)
def xA (x:ByteArray×Nat):Value:=.tuple #[.string x.1,.int .i64 ((x.2:Nat):Int)]
section
variable {l:Bool}{s:ByteArray}{n y:Nat}{k:Fo}
theorem zlE (h:lf1 l s n (lfF k) 4000=none):xA (zJ l s n k)=.tuple #[.string ⟨#[]⟩,.int .i64 1]:=by unfold zJ;rw [h];rfl
theorem zlF (h:lf1 l s n (lfF k) 4000=some y)(hd:8<dp1 l (dpF k)):xA (zJ l s n k)=.tuple #[.string ⟨#[]⟩,.int .i64 5]:=by unfold zJ;rw [h];simp only [];rw [if_pos hd];rfl
theorem zlG (h:lf1 l s n (lfF k) 4000=some y)(hd: ¬8<dp1 l (dpF k))(hz:4000<sz1 l s (szF k)):xA (zJ l s n k)=.tuple #[.string ⟨#[]⟩,.int .i64 2]:=by unfold zJ;rw [h];simp only [];rw [if_neg hd,if_pos hz];rfl
theorem zlH (h:lf1 l s n (lfF k) 4000=some y)(hd: ¬8<dp1 l (dpF k))(hz: ¬4000<sz1 l s (szF k)):xA (zJ l s n k)=.tuple #[.string (zf (wr1 l s (szF k) (wrF k))),.int .i64 0]:=by unfold zJ;rw [h];simp only [];rw [if_neg hd,if_neg hz];rfl
theorem zgi {room:Nat}(h:lf1 l s n (lfF k) room=some y):mixed l s n=false∧pureF k=true∧k.cnt<room:=by
 unfold lf1 at h;split at h
 ·cases h
 ·rename_i h0
  rw [kY] at h;split at h
  ·rename_i h1
   refine ⟨?_,h1.1,by omega⟩;cases hm:mixed l s n with
   | true=>exact absurd (.inr hm) h0
   | false=>rfl
  ·cases h
theorem jm (hm:mixed l s n=false)(h:zT s=true):n=0:=by
 have hz:=jA h;unfold mixed at hm;cases l with
 | true=>simp [hz] at hm
 | false=>simpa using hm
theorem len_zero {k:Fo}(h:k.len=0):k=.nil:=by cases k with
 | nil=>rfl
 | cons=>simp [Fo.len] at h
theorem qY (hm:mixed l s k.len=false)(hk:(wrF k).length=szF k):(wr1 l s (szF k) (wrF k)).length=sz1 l s (szF k):=by
 unfold wr1 sz1;rw [List.length_append,List.length_append,zy,hk];split
 ·rename_i h
  have:=len_zero (jm hm h);subst this;have hz:=jA h;simp only [szF,List.length_nil];omega
 ·omega
theorem zY: ∀ {k:Fo},pureF k=true→(wrF k).length=szF k
 | .nil,_=>rfl
 | .cons l s k r,h=>by
  simp only [pureF,Bool.and_eq_true,Bool.not_eq_true'] at h;simp only [wrF,szF,List.length_append];rw [qY h.1.1 (zY h.1.2),zY h.2]
theorem jX (hm:mixed l s n=false)(hp:pureF k=true)(hn:n=k.len):0<(wr1 l s (szF k) (wrF k)).length∧(wr1 l s (szF k) (wrF k)).length≤sz1 l s (szF k):=by
 subst hn;rw [qY hm (zY hp)];exact ⟨zga l s (szF k),Nat.le_refl _⟩
theorem zlI (hm:mixed l s n=false)(hp:pureF k=true)(hz:sz1 l s (szF k)≤4000)(hn:n=k.len):s.size+wtF k≤4000+9*k.cnt:=by
 have h1:=zdr hp;unfold sz1 at hz;split at hz
 ·rename_i h
  have h2:=jm hm h;have:=len_zero (hn▸h2);subst this;have:=jA h;simp only [wtF];omega
 ·omega
end
theorem zgj {s:ByteArray}{n:Nat}{b:Bool}(h:decide (s.size≠0)=b):b=mixed true s n:=h.symm
theorem zgk {s:ByteArray}{n:Nat}{b:Bool}(h:decide (n≠0)=b):b=mixed false s n:=h.symm
theorem zlJ (l:Bool)(s:ByteArray)(p:Option Addr)(n c:Nat)(k:Fo)(hs:s.size≤0x800000000000):FnP Tryz.prog 34 #[.agg #[.bool l,.string s,.slice p n c]] (fun w=>zx w.heap.size w p n k) (.bool (mixed l s n)):=by
 refine FnP.intro (c:=zd Tryz.f34) [.tmp 2] 12 Tryz.func34 kr kr kr fun w hpre=>?_;have H0:=St.start w;have hn:=hpre.1;have hnm:=hpre.2.1;refine rS [.b,.v] H0 kr fun gs1 w1 H1=>?_;clear H0;refine zb kr<|rS [.v,.l 0] H1 kr fun gs2 w2 H2=>?_;clear H1;refine Or.elim (Bool.eq_false_or_eq_true (l)).symm (fun hq1=>?_) (fun hq1=>?_)
 ·refine qg 4 (v:=.bool l) (v':=.bool false) (za hq1) kr<|zl kr kr<|zp kr<|wW<|zh [0,1,2,3,4] kr kr<|rp [.v,.l 0,.v] H2 kr fun gs3 w3 H3=>wX [3,4] ?_;clear H2;by_cases hc1:(n:Nat)>0
  ·refine rp [.E (.bool (decide (0<(n:Int)))) (.bool true) (za (decide_eq_true (by omega))),.v] H3 kr fun gs4 w4 H4=>wX [] ?_;clear H3;refine zc<|zn kr<|wV ?_;refine ⟨[.bool true],(.tmp (.bool true) kr .nil),?_,H4.below⟩;rw [hq1];exact za (zgk (decide_eq_true (by omega)))
  ·refine rp [.E (.bool (decide (0<(n:Int)))) (.bool false) (za (decide_eq_false (by omega))),.v] H3 kr fun gs5 w5 H5=>wX [] ?_;clear H3;refine zc<|zn kr<|wV ?_;refine ⟨[.bool false],(.tmp (.bool false) kr .nil),?_,H5.below⟩;rw [hq1];exact za (zgk (decide_eq_false (by omega)))
 ·refine qg 4 (v:=.bool l) (v':=.bool true) (za hq1) kr<|zi kr kr<|zh [0,1,2,3] kr kr<|rp [.v,.l 0] H2 kr fun gs6 w6 H6=>wX [2,3] ?_;clear H2;by_cases hx2:s=⟨#[]⟩
  ·refine rp [.E (.bool (!(ByteArray.toList s==ByteArray.toList (⟨#[]⟩)))) (.bool false) (za (by rw [qD s (⟨#[]⟩) hx2];rfl)),.v] H6 kr fun gs7 w7 H7=>wX [] ?_;clear H6;refine zc<|zn kr<|wV ?_;refine ⟨[.bool false],(.tmp (.bool false) kr .nil),?_,H7.below⟩;rw [hq1];exact za (zgj (decide_eq_false (by rw [hx2];decide)))
  ·refine rp [.E (.bool (!(ByteArray.toList s==ByteArray.toList (⟨#[]⟩)))) (.bool true) (za (by rw [qW s (⟨#[]⟩) hx2];rfl)),.v] H6 kr fun gs8 w8 H8=>wX [] ?_;clear H6;refine zc<|zn kr<|wV ?_;refine ⟨[.bool true],(.tmp (.bool true) kr .nil),?_,H8.below⟩;rw [hq1];exact za (zgj (decide_eq_true (zbx hx2)))
theorem zlK (m:Nat)(ih: ∀(l:Bool) (s:ByteArray) (p:Option Addr) (n c:Nat) (k:Fo) (room:Nat),s.size≤0x800000000000→room≤4000→k.cnt<m→FnP Tryz.prog 18 #[.agg #[.bool l,.string s,.slice p n c],.int .i64 (room:Int)] (fun w=>zx w.heap.size w p n k) (.int .i64 (lfV (lf1 l s n (lfF k) room))))(l:Bool)(s:ByteArray)(p:Option Addr)(n c:Nat)(k:Fo)(hs:s.size≤0x800000000000)(room:Nat)(hro:room≤4000)(hkm:k.cnt<m+1):FnP Tryz.prog 18 #[.agg #[.bool l,.string s,.slice p n c],.int .i64 (room:Int)] (fun w=>zx w.heap.size w p n k) (.int .i64 (lfV (lf1 l s n (lfF k) room))):=by
 refine FnP.intro (c:=zd Tryz.f18) [.tmp 4] 30 Tryz.func18 kr kr kr fun w hpre=>?_;have H0:=St.start w;have hn:=hpre.1;have hnm:=hpre.2.1;refine rS [.b,.v] H0 kr fun gs1 w1 H1=>?_;clear H0;refine zb kr<|zh [0,1,2,3,4,5] kr kr<|rp [.v] H1 kr fun gs2 w2 H2=>wX [1,2,3,4,5] ?_;clear H1;by_cases hc1:(room:Nat)=0
 ·refine rp [.E (.bool ((room:Int)==0)) (.bool true) (za (beq_iff_eq.2 (by omega))),.v,.n,.n,.v] H2 kr fun gs3 w3 H3=>wX [] ?_;clear H2;refine zc<|zi kr kr<|rS [.v] H3 kr fun gs4 w4 H4=>?_;clear H3;refine zn kr<|wV ?_;refine ⟨[.int .i64 (-1)],(.tmp (.int .i64 (-1)) kr .nil),?_,H4.below⟩;exact zk (zlt (by omega)).symm
 ·refine rp [.E (.bool ((room:Int)==0)) (.bool false) (za (beq_eq_false_iff_ne.2 (by omega))),.v,.l 0,.cp (pre:=fun w=>zx w.heap.size w p n k) (zlJ l s p n c k (by omega)) [] (fun w hb hd=>(zx.call hpre hb)),.v] H2 kr fun gs5 w5 H5=>wX [] ?_;clear H2;refine zc<|Or.elim (Bool.eq_false_or_eq_true (mixed l s n)).symm (fun hq1=>?_) (fun hq1=>?_)
  ·refine qg 11 (v:=.bool (mixed l s n)) (v':=.bool false) (za hq1) kr<|qg 12 (v:=.bool (mixed l s n)) (v':=.bool false) (za hq1) kr<|zl kr kr<|zp kr<|wW<|rS [.v,.E (.int .i64 (IntKind.i64.wrap ((room:Int)-1))) (.int .i64 ((room-1:Nat):Int)) (zk (xu (a:=room) (b:=1) (by omega))),.v] H5 kr fun gs6 w6 H6=>?_;clear H5;refine zb kr<|rS [.v,.l 0,.v,.v] H6 kr fun gs7 w7 H7=>?_;clear H6;refine zu 0 kr ?_;have HL2:St w.heap.size w w7 [((gs1 0).b,Obj.cells #[.bool l,.string s,.slice p n c] 44 (0,0))]:=H7.as kr;clear H7;have HD3:St w.heap.size w w7 []:=HL2.sub (List.Sublist.cons _ List.Sublist.slnil);refine yD kr (fun mz ρ ww=> ∃(i:Nat) (r:Fo) (q:Nat),n-i=mz∧(FoR w.heap.size w p i r)∧(i+Fo.len r=n)∧(q≤4000)∧(Fo.cnt r≤Fo.cnt k)∧(lfF k (room-1)=lfF r q)∧St w.heap.size w ww []∧Is [(0,.agg #[.bool l,.string s,.slice p n c]),(1,.int .i64 (q:Int)),(2,.pointer (some ⟨(gs1 0).b,0,none⟩)),(12,.bool false),(16,.slice p n c),(17,.int .i64 (n:Int)),(18,.int .i64 (i:Int))] ρ) (n-0) ⟨0,k,(room-1),rfl,(zx.start hpre),(by have hn0:=(hpre).1;omega),(by omega),(Nat.le_refl _),rfl,HD3,(Is.of ⟨kr,kr,kr,kr,kr,kr,kr,trivial⟩)⟩ ?_;clear HD3;rintro _ _ w8 ⟨i,r,q,rfl,hR,hN,hq0,hcn,hlf,H8,_,rfl⟩;by_cases hc4:(i:Nat)<n
   ·refine rS [.E (.bool (decide ((i:Int)<(n:Int)))) (.bool true) (za (decide_eq_true (by omega)))] H8 kr fun gs9 w9 H9=>?_;clear H8;refine zb kr<|zi kr kr<|zp kr<|wW<|zb kr<|zu 1 kr ?_;obtain ⟨l1,s1,k1,r1,b1,off1,C1,T1,fz1,p1,n1,c1,hr1,hp1,hb1,hh1,hs1,hx1,hz1,hk1,hR1,hN1⟩:=FoR.open hR hN (by omega);refine rS [.o (ins:=[((.tmp 16),.slice p n c),((.tmp 18),.int .i64 (i:Int))]) (v:=.pointer (some ⟨b1,off1+i*3,none⟩)) (fun ρ o w ho hi=>zad (kd:=.i64) (t:=42) (e:=44) (bytes:=48) kr (x:=(.tmp 16)) (y:=(.tmp 18)) b1 off1 n c i hp1 ho hi.1 hi.2.1 (by omega) w),.fp (off:=off1+i*3) (n:=3) (W:=#[.bool l1,.string s1,.slice p1 n1 c1]) hh1 hb1 hs1 hx1,.a,.s 0] H9 kr fun gs10 w10 H10=>?_;clear H9;refine ye [0,1,2,6,12,16,17,18,19] fun ρ1=>?_;have HK5:=H10.keep;clear H10;have hcn1:=hcn;rw [hr1] at hcn1;simp only [Fo.cnt] at hcn1;refine zh [0,1,2,3] kr kr<|rp [.l 0,.v,.cp (pre:=fun w=>zx w.heap.size w p1 n1 k1) (ih l1 s1 p1 n1 c1 k1 q hz1 (by omega) (by omega)) [] (fun w hb hd=>(zx.call hk1 hb))] HK5 kr fun gs11 w11 H11=>wX [3] ?_;clear HK5;rcases zge (lf1 l1 s1 n1 (lfF k1) q) with hv1 | ⟨y,hv1⟩
    ·refine yi 24 (v:=.int .i64 (lfV (lf1 l1 s1 n1 (lfF k1) q))) (v':=.int .i64 (-1)) (zk (show (lfV (lf1 l1 s1 n1 (lfF k1) q))= -1 from by rw [hv1];rfl)) kr<|rp [.v] H11 kr fun gs12 w12 H12=>wX [] ?_;clear H11;refine zc<|rS [.v,.v] H12 kr fun gs13 w13 H13=>?_;clear H12;refine zi kr kr<|rS [.v,.v] H13 kr fun gs14 w14 H14=>?_;clear H13;refine zn kr<|wV ?_;refine ⟨[.int .i64 (-1)],(.tmp (.int .i64 (-1)) kr .nil),?_,H14.below⟩;refine zk ?_;rw [zgb (by omega) hq1,hlf,hr1];exact (zlw hk1.1 hv1).symm
    ·refine yi 24 (v:=.int .i64 (lfV (lf1 l1 s1 n1 (lfF k1) q))) (v':=.int .i64 (y:Int)) (zk (show (lfV (lf1 l1 s1 n1 (lfF k1) q))=(y:Int) from by rw [hv1];rfl)) kr ?_;have hy4:=zls hv1;refine rp [.v] H11 kr fun gs15 w15 H15=>wX [] ?_;clear H11;refine zc<|rS [.v,.E (.bool (decide ((y:Int)<0))) (.bool false) (za (decide_eq_false (by omega)))] H15 kr fun gs16 w16 H16=>?_;clear H15;refine zl kr kr<|zp kr<|wW<|rL [.E (.int .i64 (IntKind.i64.wrap ((i:Int)+1))) (.int .i64 ((i+1:Nat):Int)) (zk (yF (a:=i) (b:=1) (by omega))),.v] H16 kr fun gs17 w17 H17=>?_;clear H16;have HL6:St w.heap.size w w17 [((gs10 2).b,Obj.cells #[.bool l1,.string s1,.slice p1 n1 c1] 44 (0,0))]:=H17.as kr;clear H17;have HD7:St w.heap.size w w17 []:=HL6.sub (List.Sublist.cons _ List.Sublist.slnil);show ∃m,_∧_;exact ⟨_,(by omega),(i+1),r1,y,rfl,hR1,hN1,(by omega),(by omega),(by rw [hlf,hr1];exact zlv hk1.1 hv1),HD7,(Is.of ⟨kr,kr,kr,kr,kr,kr,kr,trivial⟩)⟩
   ·refine rS [.E (.bool (decide ((i:Int)<(n:Int)))) (.bool false) (za (decide_eq_false (by omega)))] H8 kr fun gs18 w18 H18=>?_;clear H8;refine zb kr<|zl kr kr<|ym 0 kr<|wW<|rS [.v,.v] H18 kr fun gs19 w19 H19=>?_;clear H18;refine zn kr<|wV ?_;refine ⟨[.int .i64 (q:Int)],(.tmp (.int .i64 (q:Int)) kr .nil),?_,H19.below⟩;refine zk ?_;rw [zgb (by omega) hq1,hlf,FoR.done hN (by omega)];rfl
  ·refine qg 11 (v:=.bool (mixed l s n)) (v':=.bool true) (za hq1) kr<|qg 12 (v:=.bool (mixed l s n)) (v':=.bool true) (za hq1) kr<|zi kr kr<|rS [.v] H5 kr fun gs20 w20 H20=>?_;clear H5;refine zn kr<|wV ?_;refine ⟨[.int .i64 (-1)],(.tmp (.int .i64 (-1)) kr .nil),?_,H20.below⟩;exact zk (zlu hq1).symm
theorem zlL (l:Bool)(s:ByteArray)(p:Option Addr)(n c:Nat)(k:Fo)(hs:s.size≤0x800000000000)(room:Nat)(hro:room≤4000):FnP Tryz.prog 18 #[.agg #[.bool l,.string s,.slice p n c],.int .i64 (room:Int)] (fun w=>zx w.heap.size w p n k) (.int .i64 (lfV (lf1 l s n (lfF k) room))):=by
 have key: ∀(m:Nat) (l:Bool) (s:ByteArray) (p:Option Addr) (n c:Nat) (k:Fo) (room:Nat),s.size≤0x800000000000→room≤4000→k.cnt<m→FnP Tryz.prog 18 #[.agg #[.bool l,.string s,.slice p n c],.int .i64 (room:Int)] (fun w=>zx w.heap.size w p n k) (.int .i64 (lfV (lf1 l s n (lfF k) room))):=by
  intro m
  induction m with
  | zero=>intros;omega
  | succ m ih=>intro l s p n c k room hs hro hkm;exact zlK m ih l s p n c k hs room hro hkm
 exact key (k.cnt+1) l s p n c k room hs hro (by omega)
theorem zlM (m:Nat)(ih: ∀(l:Bool) (s:ByteArray) (p:Option Addr) (n c:Nat) (k:Fo),s.size≤0x800000000000→k.cnt≤1000000→k.cnt<m→FnP Tryz.prog 19 #[.agg #[.bool l,.string s,.slice p n c]] (fun w=>zx w.heap.size w p n k) (.int .i64 ((dp1 l (dpF k):Nat):Int)))(l:Bool)(s:ByteArray)(p:Option Addr)(n c:Nat)(k:Fo)(hs:s.size≤0x800000000000)(hk6:k.cnt≤1000000)(hkm:k.cnt<m+1):FnP Tryz.prog 19 #[.agg #[.bool l,.string s,.slice p n c]] (fun w=>zx w.heap.size w p n k) (.int .i64 ((dp1 l (dpF k):Nat):Int)):=by
 refine FnP.intro (c:=zd Tryz.f19) [.tmp 2] 23 Tryz.func19 kr kr kr fun w hpre=>?_;have H0:=St.start w;have hn:=hpre.1;have hnm:=hpre.2.1;have hdk:=zbz k;refine rS [.b,.v] H0 kr fun gs1 w1 H1=>?_;clear H0;refine zb kr<|zh [0,1,2] kr kr<|rp [.v,.l 0] H1 kr fun gs2 w2 H2=>wX [2] ?_;clear H1;refine Or.elim (Bool.eq_false_or_eq_true (l)).symm (fun hq1=>?_) (fun hq1=>?_)
 ·refine yi 7 (v:=.bool l) (v':=.bool false) (za hq1) kr<|rp [.v] H2 kr fun gs3 w3 H3=>wX [] ?_;clear H2;refine zc<|zi kr kr<|rS [.v] H3 kr fun gs4 w4 H4=>?_;clear H3;refine zn kr<|wV ?_;refine ⟨[.int .i64 0],(.tmp (.int .i64 0) kr .nil),?_,H4.below⟩;rw [hq1];rfl
 ·refine yi 7 (v:=.bool l) (v':=.bool true) (za hq1) kr<|rp [.v] H2 kr fun gs5 w5 H5=>wX [] ?_;clear H2;refine zc<|zl kr kr<|zp kr<|wW<|rS [.v] H5 kr fun gs6 w6 H6=>?_;clear H5;refine zb kr<|rS [.v,.l 0,.v,.v] H6 kr fun gs7 w7 H7=>?_;clear H6;refine zu 0 kr ?_;have HL1:St w.heap.size w w7 [((gs1 0).b,Obj.cells #[.bool l,.string s,.slice p n c] 44 (0,0))]:=H7.as kr;clear H7;have HD2:St w.heap.size w w7 []:=HL1.sub (List.Sublist.cons _ List.Sublist.slnil);refine yD kr (fun mz ρ ww=> ∃(i:Nat) (r:Fo) (d:Nat),n-i=mz∧(FoR w.heap.size w p i r)∧(i+Fo.len r=n)∧(Fo.cnt r≤Fo.cnt k)∧(dpF k=max d (dpF r))∧St w.heap.size w ww []∧Is [(0,.agg #[.bool l,.string s,.slice p n c]),(1,.pointer (some ⟨(gs1 0).b,0,none⟩)),(2,.int .i64 0),(3,.int .i64 (d:Int)),(8,.bool false),(10,.slice p n c),(11,.int .i64 (n:Int)),(12,.int .i64 (i:Int))] ρ) (n-0) ⟨0,k,0,rfl,(zx.start hpre),(by have hn0:=(hpre).1;omega),(Nat.le_refl _),(by omega),HD2,(Is.of ⟨kr,kr,kr,kr,kr,kr,kr,kr,trivial⟩)⟩ ?_;clear HD2;rintro _ _ w8 ⟨i,r,d,rfl,hR,hN,hcn,hd,H8,_,rfl⟩;by_cases hc3:(i:Nat)<n
  ·refine rS [.E (.bool (decide ((i:Int)<(n:Int)))) (.bool true) (za (decide_eq_true (by omega)))] H8 kr fun gs9 w9 H9=>?_;clear H8;refine zb kr<|zi kr kr<|zp kr<|wW<|zb kr<|zu 1 kr ?_;obtain ⟨l1,s1,k1,r1,b1,off1,C1,T1,fz1,p1,n1,c1,hr1,hp1,hb1,hh1,hs1,hx1,hz1,hk1,hR1,hN1⟩:=FoR.open hR hN (by omega);refine rS [.o (ins:=[((.tmp 10),.slice p n c),((.tmp 12),.int .i64 (i:Int))]) (v:=.pointer (some ⟨b1,off1+i*3,none⟩)) (fun ρ o w ho hi=>zad (kd:=.i64) (t:=42) (e:=44) (bytes:=48) kr (x:=(.tmp 10)) (y:=(.tmp 12)) b1 off1 n c i hp1 ho hi.1 hi.2.1 (by omega) w),.fp (off:=off1+i*3) (n:=3) (W:=#[.bool l1,.string s1,.slice p1 n1 c1]) hh1 hb1 hs1 hx1,.a,.s 0] H9 kr fun gs10 w10 H10=>?_;clear H9;have hcn1:=hcn;rw [hr1] at hcn1;simp only [Fo.cnt] at hcn1;refine rL [.v,.l 0,.cp (pre:=fun w=>zx w.heap.size w p1 n1 k1) (ih l1 s1 p1 n1 c1 k1 hz1 (by omega) (by omega)) [] (fun w hb hd=>(zx.call hk1 hb)),.E (.int .i64 (if (((dp1 l1 (dpF k1):Nat):Int):Int)>((d:Int):Int) then (((dp1 l1 (dpF k1):Nat):Int):Int) else ((d:Int):Int))) (.int .i64 ((max d (dp1 l1 (dpF k1)):Nat):Int)) (zk (zj4 d (dp1 l1 (dpF k1)))),.v] H10 kr fun gs11 w11 H11=>?_;clear H10;refine wW<|ye [0,1,2,3,5,8,10,11,12,13] fun ρ1=>?_;have HK4:=H11.keep;clear H11;refine rL [.E (.int .i64 (IntKind.i64.wrap ((i:Int)+1))) (.int .i64 ((i+1:Nat):Int)) (zk (yF (a:=i) (b:=1) (by omega))),.v] HK4 kr fun gs12 w12 H12=>?_;clear HK4;have HL5:St w.heap.size w w12 [((gs10 2).b,Obj.cells #[.bool l1,.string s1,.slice p1 n1 c1] 44 (0,0))]:=H12.as kr;clear H12;have HD6:St w.heap.size w w12 []:=HL5.sub (List.Sublist.cons _ List.Sublist.slnil);show ∃m,_∧_;exact ⟨_,(by omega),(i+1),r1,(max d (dp1 l1 (dpF k1))),rfl,hR1,hN1,(by omega),(by rw [hd,hr1];simp only [dpF];omega),HD6,(Is.of ⟨kr,kr,kr,kr,kr,kr,kr,kr,trivial⟩)⟩
  ·refine rS [.E (.bool (decide ((i:Int)<(n:Int)))) (.bool false) (za (decide_eq_false (by omega)))] H8 kr fun gs13 w13 H13=>?_;clear H8;refine zb kr<|zl kr kr<|ym 0 kr<|wW<|rS [.v,.E (.int .i64 (IntKind.i64.wrap (1+(d:Int)))) (.int .i64 ((1+d:Nat):Int)) (zk (yF (a:=1) (b:=d) (by omega))),.v] H13 kr fun gs14 w14 H14=>?_;clear H13;refine zn kr<|wV ?_;refine ⟨[.int .i64 ((1+d:Nat):Int)],(.tmp (.int .i64 ((1+d:Nat):Int)) kr .nil),?_,H14.below⟩;refine zk ?_;rw [hq1,hd,FoR.done hN (by omega)];show ((1+d:Nat):Int)=((1+max d 0:Nat):Int);omega
theorem zdv (l:Bool)(s:ByteArray)(p:Option Addr)(n c:Nat)(k:Fo)(hs:s.size≤0x800000000000)(hk6:k.cnt≤1000000):FnP Tryz.prog 19 #[.agg #[.bool l,.string s,.slice p n c]] (fun w=>zx w.heap.size w p n k) (.int .i64 ((dp1 l (dpF k):Nat):Int)):=by
 have key: ∀(m:Nat) (l:Bool) (s:ByteArray) (p:Option Addr) (n c:Nat) (k:Fo),s.size≤0x800000000000→k.cnt≤1000000→k.cnt<m→FnP Tryz.prog 19 #[.agg #[.bool l,.string s,.slice p n c]] (fun w=>zx w.heap.size w p n k) (.int .i64 ((dp1 l (dpF k):Nat):Int)):=by
  intro m
  induction m with
  | zero=>intros;omega
  | succ m ih=>intro l s p n c k hs hk6 hkm;exact zlM m ih l s p n c k hs hk6 hkm
 exact key (k.cnt+1) l s p n c k hs hk6 (by omega)
theorem zbB (s:ByteArray):Fn Tryz.prog 35 #[.string s] (.bool (zT s)):=by
 refine Fn.intro (c:=zd Tryz.f35) [.tmp 2] 11 Tryz.func35 kr kr kr fun w=>?_;have H0:=St.start w;refine rS [.v] H0 kr fun gs1 w1 H1=>?_;clear H0;refine zh [0,1,2,3,4,5,6,7,8] kr kr<|rp [.v,.v] H1 kr fun gs2 w2 H2=>wX [2,3,4,5,6,7,8] ?_;clear H1;by_cases hc1:(ByteArray.size s:Nat)=1
 ·refine rp [.E (.bool ((ByteArray.size s:Int)==1)) (.bool true) (za (beq_iff_eq.2 (by omega))),.v,.v,.o (ins:=[((.tmp 7),.string s),((.const (.int .i64 0)),.int .i64 0)]) (v:=.int .u8 ((by_ s 0:Nat):Int)) (fun ρ o w ho hi=>qV (t:=9) (kd:=.i64) kr (x:=(.tmp 7)) (y:=(.const (.int .i64 0))) s 0 ho hi.1 hi.2.1 (by omega) w)] H2 kr fun gs3 w3 H3=>wX [6,7,8] ?_;clear H2;by_cases hc2:(by_ s 0:Nat)<128
  ·refine rp [.E (.bool (decide (((by_ s 0:Nat):Int)<128))) (.bool true) (za (decide_eq_true (by omega))),.v,.v] H3 kr fun gs4 w4 H4=>wX [] ?_;clear H3;refine zc<|zn kr<|wV ?_;refine ⟨[.bool true],(.tmp (.bool true) kr .nil),?_,H4.below⟩;exact za (by unfold zT;simp [*])
  ·refine rp [.E (.bool (decide (((by_ s 0:Nat):Int)<128))) (.bool false) (za (decide_eq_false (by omega))),.v,.v] H3 kr fun gs5 w5 H5=>wX [] ?_;clear H3;refine zc<|zn kr<|wV ?_;refine ⟨[.bool false],(.tmp (.bool false) kr .nil),?_,H5.below⟩;exact za (by unfold zT;simp [*])
 ·refine rp [.E (.bool ((ByteArray.size s:Int)==1)) (.bool false) (za (beq_eq_false_iff_ne.2 (by omega))),.v,.n,.n,.n,.v,.v] H2 kr fun gs6 w6 H6=>wX [] ?_;clear H2;refine zc<|zn kr<|wV ?_;refine ⟨[.bool false],(.tmp (.bool false) kr .nil),?_,H6.below⟩;exact za (by unfold zT;simp [*])
theorem zlN (s:ByteArray)(hs:ByteArray.size s≤0x800000000000):Fn Tryz.prog 109 #[.string s,.int .u8 0] (.string (zf ((tl s).dropWhile (·==0)))):=by
 refine Fn.intro (c:=zd Tryz.f109) [.tmp 4] 17 Tryz.func109 kr kr kr fun w=>?_;have H0:=St.start w;refine rS [.v] H0 kr fun gs1 w1 H1=>?_;clear H0;refine zb kr<|zu 0 kr ?_;have HL1:St w.heap.size w w1 []:=H1.as kr;clear H1;refine yD kr (fun mz ρ ww=> ∃(t:ByteArray),ByteArray.size t=mz∧((tl t).dropWhile (·==0)=(tl s).dropWhile (·==0))∧(ByteArray.size t≤ByteArray.size s)∧St w.heap.size w ww []∧Is [(0,.string t),(1,.int .u8 0),(4,.string (⟨#[]⟩))] ρ) (ByteArray.size s) ⟨s,rfl,rfl,(Nat.le_refl _),HL1,(Is.of ⟨kr,kr,kr,trivial⟩)⟩ ?_;clear HL1;rintro _ _ w2 ⟨t,rfl,ht,htz,H2,_,rfl⟩;refine zb kr<|zh [0,1,2,3,4,5,6,7,8] kr kr<|rp [.v,.v] H2 kr fun gs3 w3 H3=>wX [2,3,4,5,6,7,8] ?_;clear H2;by_cases hc2:(ByteArray.size t:Nat)>0
 ·refine rp [.E (.bool (decide (0<(ByteArray.size t:Int)))) (.bool true) (za (decide_eq_true (by omega))),.v,.v,.o (ins:=[((.tmp 9),.string t),((.const (.int .i64 0)),.int .i64 0)]) (v:=.int .u8 ((by_ t 0:Nat):Int)) (fun ρ o w ho hi=>qV (t:=9) (kd:=.i64) kr (x:=(.tmp 9)) (y:=(.const (.int .i64 0))) t 0 ho hi.1 hi.2.1 (by omega) w),.v] H3 kr fun gs4 w4 H4=>wX [7,8] ?_;clear H3;by_cases hc3:(by_ t 0:Nat)=0
  ·refine rp [.E (.bool (((by_ t 0:Nat):Int)==0)) (.bool true) (za (beq_iff_eq.2 (by omega))),.v] H4 kr fun gs5 w5 H5=>wX [] ?_;clear H4;refine zc<|zi kr kr<|zp kr<|wW<|zu 1 kr<|rL [.v,.o (ins:=[((.tmp 14),.string t),((.const (.int .i64 1)),.int .i64 1)]) (v:=.string (ByteArray.extract t 1 (ByteArray.size t))) (fun ρ o w ho hi=>zfC (t:=9) (kz:=.i64) kr (x:=(.tmp 14)) (z:=(.const (.int .i64 1))) t 1 ho hi.1 hi.2.1 (by omega) w),.v] H5 kr fun gs6 w6 H6=>?_;clear H5;have HL4:St w.heap.size w w6 []:=H6.as kr;clear H6;show ∃m,_∧_;exact ⟨_,(by rw [zgf t (by omega)];omega),(ByteArray.extract t 1 (ByteArray.size t)),rfl,(by rw [zly t (by omega) (by omega)];exact ht),(by rw [zgf t (by omega)];omega),HL4,(Is.of ⟨kr,kr,kr,trivial⟩)⟩
  ·refine rp [.E (.bool (((by_ t 0:Nat):Int)==0)) (.bool false) (za (beq_eq_false_iff_ne.2 (by omega))),.v] H4 kr fun gs7 w7 H7=>wX [] ?_;clear H4;refine zc<|zl kr kr<|ym 0 kr<|wW<|rS [.v,.v] H7 kr fun gs8 w8 H8=>?_;clear H7;refine zn kr<|wV ?_;refine ⟨[.string t],(.tmp (.string t) kr .nil),?_,H8.below⟩;have hdone:zf ((tl s).dropWhile (·==0))=t:=by rw [←ht];exact zbA t (by omega)
   exact congrArg Value.string hdone.symm
 ·refine rp [.E (.bool (decide (0<(ByteArray.size t:Int)))) (.bool false) (za (decide_eq_false (by omega))),.v,.n,.n,.n,.n,.v] H3 kr fun gs9 w9 H9=>wX [] ?_;clear H3;refine zc<|zl kr kr<|ym 0 kr<|wW<|rS [.v,.v] H9 kr fun gs10 w10 H10=>?_;clear H9;refine zn kr<|wV ?_;refine ⟨[.string t],(.tmp (.string t) kr .nil),?_,H10.below⟩;have hdone:zf ((tl s).dropWhile (·==0))=t:=by rw [←ht];exact zbA t (by omega)
  exact congrArg Value.string hdone.symm
theorem zlO (s:ByteArray)(hs:ByteArray.size s≤0x800000000000):Fn Tryz.prog 73 #[.string s,.string (⟨#[0]⟩)] (.string (zf ((tl s).dropWhile (·==0)))):=by
 refine Fn.intro (c:=zd Tryz.f73) [.tmp 4] 37 Tryz.func73 kr kr kr fun w=>?_;have H0:=St.start w;refine rS [.v] H0 kr fun gs1 w1 H1=>?_;clear H0;refine zb kr<|zh [0,1,2,3,4,5] kr kr<|rp [.v] H1 kr fun gs2 w2 H2=>wX [1,2,3,4,5] ?_;clear H1;by_cases hx1:s=⟨#[]⟩
 ·refine rp [.E (.bool (ByteArray.toList s==ByteArray.toList (⟨#[]⟩))) (.bool true) (za (qD s (⟨#[]⟩) hx1)),.v,.n,.n,.v] H2 kr fun gs3 w3 H3=>wX [] ?_;clear H2;refine zc<|zi kr kr<|rS [.v,.v] H3 kr fun gs4 w4 H4=>?_;clear H3;refine zn kr<|wV ?_;refine ⟨[.string s],(.tmp (.string s) kr .nil),?_,H4.below⟩;exact congrArg Value.string (zds (by assumption)).symm
 ·refine rp [.E (.bool (ByteArray.toList s==ByteArray.toList (⟨#[]⟩))) (.bool false) (za (qW s (⟨#[]⟩) hx1)),.v,.v,.E (.bool (ByteArray.toList (⟨#[0]⟩)==ByteArray.toList (⟨#[]⟩))) (.bool false) (za (qW (⟨#[0]⟩) (⟨#[]⟩) (fun h=>absurd (congrArg ByteArray.size h) (by decide)))),.v] H2 kr fun gs5 w5 H5=>wX [] ?_;clear H2;refine zc<|zl kr kr<|zp kr<|wW<|zb kr<|rS [.v,.v,.v,.v,.v,.oe (ins:=[((.tmp 18),.string (⟨#[0]⟩)),((.const (.int .i64 0)),.int .i64 0)]) (v:=.int .u8 ((by_ (⟨#[0]⟩) 0:Nat):Int)) (v':=.int .u8 0) (fun ρ o w ho hi=>qV (t:=9) (kd:=.i64) kr (x:=(.tmp 18)) (y:=(.const (.int .i64 0))) (⟨#[0]⟩) 0 ho hi.1 hi.2.1 (by decide) w) (zk (by decide)),.v,.v] H5 kr fun gs6 w6 H6=>?_;clear H5;refine zi kr kr<|rS [.v,.v,.oe (ins:=[((.tmp 23),.string (⟨#[0]⟩)),((.const (.int .i64 0)),.int .i64 0)]) (v:=.int .u8 ((by_ (⟨#[0]⟩) 0:Nat):Int)) (v':=.int .u8 0) (fun ρ o w ho hi=>qV (t:=9) (kd:=.i64) kr (x:=(.tmp 23)) (y:=(.const (.int .i64 0))) (⟨#[0]⟩) 0 ho hi.1 hi.2.1 (by decide) w) (zk (by decide)),.c (zlN s (by omega)),.v] H6 kr fun gs7 w7 H7=>?_;clear H6;refine zn kr<|wV ?_;refine ⟨[.string (zf ((tl s).dropWhile (·==0)))],(.tmp (.string (zf ((tl s).dropWhile (·==0)))) kr .nil),?_,H7.below⟩;rfl
theorem zdw (n:Nat)(hn:n<0x10000000000000000):Fn Tryz.prog 52 #[.int .u64 (n:Int)] (.string (zf (dg n))):=by
 refine Fn.intro (c:=zd Tryz.f52) [.tmp 2] 20 Tryz.func52 kr kr kr fun w=>?_;have H0:=St.start w;refine rS [.v] H0 kr fun gs1 w1 H1=>?_;clear H0;refine rS [.a] H1 kr fun gs2 w2 H2=>?_;clear H1;refine zb kr<|rS [.v] H2 kr fun gs3 w3 H3=>?_;clear H2;refine zu 0 kr ?_;have HL1:St w.heap.size w w3 [((gs2 0).b,Obj.cells #[.int .u8 0,.int .u8 0,.int .u8 0,.int .u8 0,.int .u8 0,.int .u8 0,.int .u8 0,.int .u8 0] 133 (0,0))]:=H3.as kr;clear H3;refine zaO kr<|rS [.v] HL1 kr fun gs4 w4 H4=>?_;clear HL1;refine zb kr<|zi kr kr<|zp kr<|wW<|zb kr<|zu 1 kr<|rS [.v,.v] H4 kr fun gs5 w5 H5=>?_;clear H4;refine rL [.v,.v,.v,.v,.v,.E (.int .u64 (Int.fdiv ((n:Int)) (2^0))) (.int .u64 (n:Int)) (zk (zlx (a:=n) (by omega))),.E (.int .u8 (IntKind.u8.wrap ((n:Int)))) (.int .u8 (BitVec.toNat (dgB n 1):Int)) (zlA n),.v,.s 0] H5 kr fun gs6 w6 H6=>?_;clear H5;refine wW ?_;have HL2:St w.heap.size w w6 [((gs2 0).b,Obj.cells #[.int .u8 0,.int .u8 0,.int .u8 0,.int .u8 0,.int .u8 0,.int .u8 0,.int .u8 0,.int .u8 (BitVec.toNat (dgB n 1):Int)] 133 (0,0))]:=H6.as kr;clear H6;refine rL [.v,.v] HL2 kr fun gs7 w7 H7=>?_;clear HL2;show WPL _ _ _ _ _ _;refine jV<|ye [0,2,3,4,5,6] fun ρ1=>?_;have HK3:=H7.keep;clear H7;refine rS [.v] HK3 kr fun gs8 w8 H8=>?_;clear HK3;refine zb kr<|zi kr kr<|zp kr<|wW<|zb kr<|zu 1 kr<|rS [.v,.v] H8 kr fun gs9 w9 H9=>?_;clear H8;refine rL [.v,.v,.v,.v,.v,.E (.int .u64 (Int.fdiv (n:Int) (2^8))) (.int .u64 ((n / 256:Nat):Int)) (zk (kL (k:=8) n 256 rfl)),.E (.int .u8 (IntKind.u8.wrap (((n / 256:Nat):Int)))) (.int .u8 (BitVec.toNat (dgB n 256):Int)) (xZ n 256),.v,.s 0] H9 kr fun gs10 w10 H10=>?_;clear H9;refine wW ?_;have HL4:St w.heap.size w w10 [((gs2 0).b,Obj.cells #[.int .u8 0,.int .u8 0,.int .u8 0,.int .u8 0,.int .u8 0,.int .u8 0,.int .u8 (BitVec.toNat (dgB n 256):Int),.int .u8 (BitVec.toNat (dgB n 1):Int)] 133 (0,0))]:=H10.as kr;clear H10;refine rL [.v,.v] HL4 kr fun gs11 w11 H11=>?_;clear HL4;show WPL _ _ _ _ _ _;refine jV<|rS [.v] H11 kr fun gs12 w12 H12=>?_;clear H11;refine zb kr<|zi kr kr<|zp kr<|wW<|zb kr<|zu 1 kr<|rS [.v,.v] H12 kr fun gs13 w13 H13=>?_;clear H12;refine ye [0,2,3,4,5,6] fun ρ2=>?_;have HK5:=H13.keep;clear H13;refine rL [.v,.v,.v,.v,.v,.E (.int .u64 (Int.fdiv (n:Int) (2^16))) (.int .u64 ((n / 65536:Nat):Int)) (zk (kL (k:=16) n 65536 rfl)),.E (.int .u8 (IntKind.u8.wrap (((n / 65536:Nat):Int)))) (.int .u8 (BitVec.toNat (dgB n 65536):Int)) (xZ n 65536),.v,.s 0] HK5 kr fun gs14 w14 H14=>?_;clear HK5;refine wW ?_;have HL6:St w.heap.size w w14 [((gs2 0).b,Obj.cells #[.int .u8 0,.int .u8 0,.int .u8 0,.int .u8 0,.int .u8 0,.int .u8 (BitVec.toNat (dgB n 65536):Int),.int .u8 (BitVec.toNat (dgB n 256):Int),.int .u8 (BitVec.toNat (dgB n 1):Int)] 133 (0,0))]:=H14.as kr;clear H14;refine rL [.v,.v] HL6 kr fun gs15 w15 H15=>?_;clear HL6;show WPL _ _ _ _ _ _;refine jV<|rS [.v] H15 kr fun gs16 w16 H16=>?_;clear H15;refine zb kr<|zi kr kr<|zp kr<|wW<|zb kr<|zu 1 kr<|rS [.v,.v] H16 kr fun gs17 w17 H17=>?_;clear H16;refine rL [.v,.v,.v,.v,.v,.E (.int .u64 (Int.fdiv (n:Int) (2^24))) (.int .u64 ((n / 16777216:Nat):Int)) (zk (kL (k:=24) n 16777216 rfl)),.E (.int .u8 (IntKind.u8.wrap (((n / 16777216:Nat):Int)))) (.int .u8 (BitVec.toNat (dgB n 16777216):Int)) (xZ n 16777216),.v,.s 0] H17 kr fun gs18 w18 H18=>?_;clear H17;refine wW<|ye [0,2,3,4,5,6] fun ρ3=>?_;have HK7:=H18.keep;clear H18;have HL8:St w.heap.size w w18 [((gs2 0).b,Obj.cells #[.int .u8 0,.int .u8 0,.int .u8 0,.int .u8 0,.int .u8 (BitVec.toNat (dgB n 16777216):Int),.int .u8 (BitVec.toNat (dgB n 65536):Int),.int .u8 (BitVec.toNat (dgB n 256):Int),.int .u8 (BitVec.toNat (dgB n 1):Int)] 133 (0,0))]:=HK7.as kr;clear HK7;refine rL [.v,.v] HL8 kr fun gs19 w19 H19=>?_;clear HL8;show WPL _ _ _ _ _ _;refine jV<|rS [.v] H19 kr fun gs20 w20 H20=>?_;clear H19;refine zb kr<|zi kr kr<|zp kr<|wW<|zb kr<|zu 1 kr<|rS [.v,.v] H20 kr fun gs21 w21 H21=>?_;clear H20;refine rL [.v,.v,.v,.v,.v,.E (.int .u64 (Int.fdiv (n:Int) (2^32))) (.int .u64 ((n / 4294967296:Nat):Int)) (zk (kL (k:=32) n 4294967296 rfl)),.E (.int .u8 (IntKind.u8.wrap (((n / 4294967296:Nat):Int)))) (.int .u8 (BitVec.toNat (dgB n 4294967296):Int)) (xZ n 4294967296),.v,.s 0] H21 kr fun gs22 w22 H22=>?_;clear H21;refine wW ?_;have HL9:St w.heap.size w w22 [((gs2 0).b,Obj.cells #[.int .u8 0,.int .u8 0,.int .u8 0,.int .u8 (BitVec.toNat (dgB n 4294967296):Int),.int .u8 (BitVec.toNat (dgB n 16777216):Int),.int .u8 (BitVec.toNat (dgB n 65536):Int),.int .u8 (BitVec.toNat (dgB n 256):Int),.int .u8 (BitVec.toNat (dgB n 1):Int)] 133 (0,0))]:=H22.as kr;clear H22;refine rL [.v,.v] HL9 kr fun gs23 w23 H23=>?_;clear HL9;show WPL _ _ _ _ _ _;refine jV<|rS [.v] H23 kr fun gs24 w24 H24=>?_;clear H23;refine ye [0,2,3,4,5,6] fun ρ4=>?_;have HK10:=H24.keep;clear H24;refine zb kr<|zi kr kr<|zp kr<|wW<|zb kr<|zu 1 kr<|rS [.v,.v] HK10 kr fun gs25 w25 H25=>?_;clear HK10;refine rL [.v,.v,.v,.v,.v,.E (.int .u64 (Int.fdiv (n:Int) (2^40))) (.int .u64 ((n / 1099511627776:Nat):Int)) (zk (kL (k:=40) n 1099511627776 rfl)),.E (.int .u8 (IntKind.u8.wrap (((n / 1099511627776:Nat):Int)))) (.int .u8 (BitVec.toNat (dgB n 1099511627776):Int)) (xZ n 1099511627776),.v,.s 0] H25 kr fun gs26 w26 H26=>?_;clear H25;refine wW ?_;have HL11:St w.heap.size w w26 [((gs2 0).b,Obj.cells #[.int .u8 0,.int .u8 0,.int .u8 (BitVec.toNat (dgB n 1099511627776):Int),.int .u8 (BitVec.toNat (dgB n 4294967296):Int),.int .u8 (BitVec.toNat (dgB n 16777216):Int),.int .u8 (BitVec.toNat (dgB n 65536):Int),.int .u8 (BitVec.toNat (dgB n 256):Int),.int .u8 (BitVec.toNat (dgB n 1):Int)] 133 (0,0))]:=H26.as kr;clear H26;refine rL [.v,.v] HL11 kr fun gs27 w27 H27=>?_;clear HL11;show WPL _ _ _ _ _ _;refine jV<|rS [.v] H27 kr fun gs28 w28 H28=>?_;clear H27;refine zb kr<|zi kr kr<|zp kr<|wW<|zb kr<|zu 1 kr<|rS [.v,.v] H28 kr fun gs29 w29 H29=>?_;clear H28;refine rL [.v,.v,.v,.v,.v,.E (.int .u64 (Int.fdiv (n:Int) (2^48))) (.int .u64 ((n / 281474976710656:Nat):Int)) (zk (kL (k:=48) n 281474976710656 rfl)),.E (.int .u8 (IntKind.u8.wrap (((n / 281474976710656:Nat):Int)))) (.int .u8 (BitVec.toNat (dgB n 281474976710656):Int)) (xZ n 281474976710656),.v,.s 0] H29 kr fun gs30 w30 H30=>?_;clear H29;refine wW<|ye [0,2,3,4,5,6] fun ρ5=>?_;have HK12:=H30.keep;clear H30;have HL13:St w.heap.size w w30 [((gs2 0).b,Obj.cells #[.int .u8 0,.int .u8 (BitVec.toNat (dgB n 281474976710656):Int),.int .u8 (BitVec.toNat (dgB n 1099511627776):Int),.int .u8 (BitVec.toNat (dgB n 4294967296):Int),.int .u8 (BitVec.toNat (dgB n 16777216):Int),.int .u8 (BitVec.toNat (dgB n 65536):Int),.int .u8 (BitVec.toNat (dgB n 256):Int),.int .u8 (BitVec.toNat (dgB n 1):Int)] 133 (0,0))]:=HK12.as kr;clear HK12;refine rL [.v,.v] HL13 kr fun gs31 w31 H31=>?_;clear HL13;show WPL _ _ _ _ _ _;refine jV<|rS [.v] H31 kr fun gs32 w32 H32=>?_;clear H31;refine zb kr<|zi kr kr<|zp kr<|wW<|zb kr<|zu 1 kr<|rS [.v,.v] H32 kr fun gs33 w33 H33=>?_;clear H32;refine rL [.v,.v,.v,.v,.v,.E (.int .u64 (Int.fdiv (n:Int) (2^56))) (.int .u64 ((n / 72057594037927936:Nat):Int)) (zk (kL (k:=56) n 72057594037927936 rfl)),.E (.int .u8 (IntKind.u8.wrap (((n / 72057594037927936:Nat):Int)))) (.int .u8 (BitVec.toNat (dgB n 72057594037927936):Int)) (xZ n 72057594037927936),.v,.s 0] H33 kr fun gs34 w34 H34=>?_;clear H33;refine wW ?_;have HL14:St w.heap.size w w34 [((gs2 0).b,Obj.cells #[.int .u8 (BitVec.toNat (dgB n 72057594037927936):Int),.int .u8 (BitVec.toNat (dgB n 281474976710656):Int),.int .u8 (BitVec.toNat (dgB n 1099511627776):Int),.int .u8 (BitVec.toNat (dgB n 4294967296):Int),.int .u8 (BitVec.toNat (dgB n 16777216):Int),.int .u8 (BitVec.toNat (dgB n 65536):Int),.int .u8 (BitVec.toNat (dgB n 256):Int),.int .u8 (BitVec.toNat (dgB n 1):Int)] 133 (0,0))]:=H34.as kr;clear H34;refine rL [.v,.v] HL14 kr fun gs35 w35 H35=>?_;clear HL14;show WPL _ _ _ _ _ _;refine jV<|rS [.v] H35 kr fun gs36 w36 H36=>?_;clear H35;refine ye [0,2,3,4,5,6] fun ρ6=>?_;have HK15:=H36.keep;clear H36;refine zb kr<|zl kr kr<|ym 0 kr<|wW ?_;have HL16:St w.heap.size w w36 [((gs2 0).b,Obj.cells #[.int .u8 (BitVec.toNat (dgB n 72057594037927936):Int),.int .u8 (BitVec.toNat (dgB n 281474976710656):Int),.int .u8 (BitVec.toNat (dgB n 1099511627776):Int),.int .u8 (BitVec.toNat (dgB n 4294967296):Int),.int .u8 (BitVec.toNat (dgB n 16777216):Int),.int .u8 (BitVec.toNat (dgB n 65536):Int),.int .u8 (BitVec.toNat (dgB n 256):Int),.int .u8 (BitVec.toNat (dgB n 1):Int)] 133 (0,0))]:=HK15.as kr;clear HK15;have hz_1: ∀(ρ:Env) (o:Oper) (w:World),o.op=.slice 133 (.tmp 3) none none none→Ins (ev ρ) [((.tmp 3),.pointer (some ⟨(gs2 0).b,0,none⟩))]→(execOp (ev ρ) o).run Tryz.prog w=.ok (.value (.slice (some ⟨(gs2 0).b,0,none⟩) 8 8)) w:=(fun ρ o w ho hi=>kQ (t:=133) (n:=8) (e:=5) (z:=1) kr kr (x:=(.tmp 3)) ((gs2 0).b) ho hi.1 w)
 refine rS [.o hz_1,.x (op:=.convert 48 9 (.tmp 17)) (ins:=[((.tmp 17),.slice (some ⟨(gs2 0).b,0,none⟩) 8 8)]) [(0,((gs2 0).b,Obj.cells #[.int .u8 (BitVec.toNat (dgB n 72057594037927936):Int),.int .u8 (BitVec.toNat (dgB n 281474976710656):Int),.int .u8 (BitVec.toNat (dgB n 1099511627776):Int),.int .u8 (BitVec.toNat (dgB n 4294967296):Int),.int .u8 (BitVec.toNat (dgB n 16777216):Int),.int .u8 (BitVec.toNat (dgB n 65536):Int),.int .u8 (BitVec.toNat (dgB n 256):Int),.int .u8 (BitVec.toNat (dgB n 1):Int)] 133 (0,0)))] (xV (t:=48) (t':=9) (e:=5) [(BitVec.toNat (dgB n 72057594037927936):Int),(BitVec.toNat (dgB n 281474976710656):Int),(BitVec.toNat (dgB n 1099511627776):Int),(BitVec.toNat (dgB n 4294967296):Int),(BitVec.toNat (dgB n 16777216):Int),(BitVec.toNat (dgB n 65536):Int),(BitVec.toNat (dgB n 256):Int),(BitVec.toNat (dgB n 1):Int)] kr kr kr (Rw.lit #[.int .u8 (BitVec.toNat (dgB n 72057594037927936):Int),.int .u8 (BitVec.toNat (dgB n 281474976710656):Int),.int .u8 (BitVec.toNat (dgB n 1099511627776):Int),.int .u8 (BitVec.toNat (dgB n 4294967296):Int),.int .u8 (BitVec.toNat (dgB n 16777216):Int),.int .u8 (BitVec.toNat (dgB n 65536):Int),.int .u8 (BitVec.toNat (dgB n 256):Int),.int .u8 (BitVec.toNat (dgB n 1):Int)] 8 (by rfl) (by unfold maxLen;omega))),.c (zlO (strOfNums ([(BitVec.toNat (dgB n 72057594037927936):Int),(BitVec.toNat (dgB n 281474976710656):Int),(BitVec.toNat (dgB n 1099511627776):Int),(BitVec.toNat (dgB n 4294967296):Int),(BitVec.toNat (dgB n 16777216):Int),(BitVec.toNat (dgB n 65536):Int),(BitVec.toNat (dgB n 256):Int),(BitVec.toNat (dgB n 1):Int)])) (by rw [strOfNums_size];show 8≤0x800000000000;omega)),.v] HL16 kr fun gs37 w37 H37=>?_;clear HL16;refine zn kr<|wV ?_;refine ⟨[.string (zf ((tl (strOfNums ([(BitVec.toNat (dgB n 72057594037927936):Int),(BitVec.toNat (dgB n 281474976710656):Int),(BitVec.toNat (dgB n 1099511627776):Int),(BitVec.toNat (dgB n 4294967296):Int),(BitVec.toNat (dgB n 16777216):Int),(BitVec.toNat (dgB n 65536):Int),(BitVec.toNat (dgB n 256):Int),(BitVec.toNat (dgB n 1):Int)]))).dropWhile (·==0)))],(.tmp (.string (zf ((tl (strOfNums ([(BitVec.toNat (dgB n 72057594037927936):Int),(BitVec.toNat (dgB n 281474976710656):Int),(BitVec.toNat (dgB n 1099511627776):Int),(BitVec.toNat (dgB n 4294967296):Int),(BitVec.toNat (dgB n 16777216):Int),(BitVec.toNat (dgB n 65536):Int),(BitVec.toNat (dgB n 256):Int),(BitVec.toNat (dgB n 1):Int)]))).dropWhile (·==0)))) kr .nil),?_,H37.below⟩;exact congrArg Value.string (congrArg zf (zlD n hn))
theorem zgl (l:Bool)(s:ByteArray)(p:Option Addr)(n c m:Nat)(hm:m<0x10000000000000000):Fn Tryz.prog 37 #[.agg #[.bool l,.string s,.slice p n c],.int .u64 (m:Int)] (.string (zf (hd (frm l) m))):=by
 refine Fn.intro (c:=zd Tryz.f37) [.tmp 4] 29 Tryz.func37 kr kr kr fun w=>?_;have H0:=St.start w;refine rS [.b,.v] H0 kr fun gs1 w1 H1=>?_;clear H0;refine rS [.v] H1 kr fun gs2 w2 H2=>?_;clear H1;refine zb kr<|rS [.v,.l 0] H2 kr fun gs3 w3 H3=>?_;clear H2;refine Or.elim (Bool.eq_false_or_eq_true (l)).symm (fun hq1=>?_) (fun hq1=>?_)
 ·refine qg 8 (v:=.bool l) (v':=.bool false) (za hq1) kr<|zl kr kr<|zp kr<|wW<|zb kr<|zh [0,1] kr kr<|rp [.v] H3 kr fun gs4 w4 H4=>wX [1] ?_;clear H3;by_cases hc1:(m:Nat)≤55
  ·refine rp [.E (.bool (decide ((m:Int)≤55))) (.bool true) (za (decide_eq_true (by omega)))] H4 kr fun gs5 w5 H5=>wX [] ?_;clear H4;refine zc<|zi kr kr<|rS [.v,.v,.E (.int .u8 (IntKind.u8.wrap ((m:Int)))) (.int .u8 (BitVec.toNat (BitVec.ofNat 8 m):Int)) (vG m),.E (.int .u8 (IntKind.u8.wrap ((128)+((BitVec.toNat (BitVec.ofNat 8 m):Int))))) (.int .u8 (BitVec.toNat ((128:BitVec 8)+(BitVec.ofNat 8 m)):Int)) (za4 (128:BitVec 8) (BitVec.ofNat 8 m)),.nw (fun b=>.slice (some ⟨b,0,none⟩) 1 1) #[.int .u8 (BitVec.toNat ((128:BitVec 8)+(BitVec.ofNat 8 m)):Int)] 5,.w fun nn=>.x (op:=.convert 48 9 (.tmp 15)) (ins:=[((.tmp 15),.slice (some ⟨(nn 1),0,none⟩) 1 1)]) [(1,((nn 1),Obj.cells #[.int .u8 (BitVec.toNat ((128:BitVec 8)+(BitVec.ofNat 8 m)):Int)] 5 (0,0)))] (xV (t:=48) (t':=9) (e:=5) [(BitVec.toNat ((128:BitVec 8)+(BitVec.ofNat 8 m)):Int)] kr kr kr (Rw.lit #[.int .u8 (BitVec.toNat ((128:BitVec 8)+(BitVec.ofNat 8 m)):Int)] 1 (by rfl) (by unfold maxLen;omega))),.v] H5 kr fun gs6 w6 H6=>?_;clear H5;refine zn kr<|wV ?_;refine ⟨[.string (strOfNums ([(BitVec.toNat ((128:BitVec 8)+(BitVec.ofNat 8 m)):Int)]))],(.tmp (.string (strOfNums ([(BitVec.toNat ((128:BitVec 8)+(BitVec.ofNat 8 m)):Int)]))) kr .nil),?_,H6.below⟩;exact congrArg Value.string (zgc (f:=frm l) _ (by rw [hq1];rfl) m (by omega) (by rw [hq1];decide))
  ·refine rp [.E (.bool (decide ((m:Int)≤55))) (.bool false) (za (decide_eq_false (by omega)))] H4 kr fun gs7 w7 H7=>wX [] ?_;clear H4;refine zc<|zl kr kr<|zp kr<|wW<|rS [.v,.c (zdw m (by omega)),.v] H7 kr fun gs8 w8 H8=>?_;clear H7;refine rS [.v,.v,.v,.v,.E (.int .u8 (IntKind.u8.wrap ((ByteArray.size (zf (dg m)):Int)))) (.int .u8 (BitVec.toNat (BitVec.ofNat 8 (ByteArray.size (zf (dg m)))):Int)) (vG (ByteArray.size (zf (dg m)))),.E (.int .u8 (IntKind.u8.wrap ((183)+((BitVec.toNat (BitVec.ofNat 8 (ByteArray.size (zf (dg m)))):Int))))) (.int .u8 (BitVec.toNat ((183:BitVec 8)+(BitVec.ofNat 8 (ByteArray.size (zf (dg m))))):Int)) (za4 (183:BitVec 8) (BitVec.ofNat 8 (ByteArray.size (zf (dg m))))),.nw (fun b=>.slice (some ⟨b,0,none⟩) 1 1) #[.int .u8 (BitVec.toNat ((183:BitVec 8)+(BitVec.ofNat 8 (ByteArray.size (zf (dg m))))):Int)] 5,.w fun nn=>.x (op:=.convert 48 9 (.tmp 25)) (ins:=[((.tmp 25),.slice (some ⟨(nn 1),0,none⟩) 1 1)]) [(1,((nn 1),Obj.cells #[.int .u8 (BitVec.toNat ((183:BitVec 8)+(BitVec.ofNat 8 (ByteArray.size (zf (dg m))))):Int)] 5 (0,0)))] (xV (t:=48) (t':=9) (e:=5) [(BitVec.toNat ((183:BitVec 8)+(BitVec.ofNat 8 (ByteArray.size (zf (dg m))))):Int)] kr kr kr (Rw.lit #[.int .u8 (BitVec.toNat ((183:BitVec 8)+(BitVec.ofNat 8 (ByteArray.size (zf (dg m))))):Int)] 1 (by rfl) (by unfold maxLen;omega))),.v,.o (ins:=[((.tmp 26),.string (strOfNums ([(BitVec.toNat ((183:BitVec 8)+(BitVec.ofNat 8 (ByteArray.size (zf (dg m))))):Int)]))),((.tmp 27),.string (zf (dg m)))]) (v:=.string ((strOfNums ([(BitVec.toNat ((183:BitVec 8)+(BitVec.ofNat 8 (ByteArray.size (zf (dg m))))):Int)]))++(zf (dg m)))) (fun ρ o w ho hi=>kM (t:=9) (t':=9) (x:=(.tmp 26)) (y:=(.tmp 27)) (strOfNums ([(BitVec.toNat ((183:BitVec 8)+(BitVec.ofNat 8 (ByteArray.size (zf (dg m))))):Int)])) (zf (dg m)) w ho hi.1 hi.2.1 (by rw [strOfNums_size,qt];have:=yZ m;show 1+_≤_;omega)),.v] H8 kr fun gs9 w9 H9=>?_;clear H8;refine zn kr<|wV ?_;refine ⟨[.string ((strOfNums ([(BitVec.toNat ((183:BitVec 8)+(BitVec.ofNat 8 (ByteArray.size (zf (dg m))))):Int)]))++(zf (dg m)))],(.tmp (.string ((strOfNums ([(BitVec.toNat ((183:BitVec 8)+(BitVec.ofNat 8 (ByteArray.size (zf (dg m))))):Int)]))++(zf (dg m)))) kr .nil),?_,H9.below⟩;exact congrArg Value.string (zgd (f:=frm l) _ (by rw [hq1];rfl) m (by omega) (by rw [hq1];decide))
 ·refine qg 8 (v:=.bool l) (v':=.bool true) (za hq1) kr<|zi kr kr<|rL [.v] H3 kr fun gs10 w10 H10=>?_;clear H3;refine wW<|zb kr<|zh [0,1] kr kr<|rp [.v] H10 kr fun gs11 w11 H11=>wX [1] ?_;clear H10;by_cases hc2:(m:Nat)≤55
  ·refine rp [.E (.bool (decide ((m:Int)≤55))) (.bool true) (za (decide_eq_true (by omega)))] H11 kr fun gs12 w12 H12=>wX [] ?_;clear H11;refine zc<|zi kr kr<|rS [.v,.v,.E (.int .u8 (IntKind.u8.wrap ((m:Int)))) (.int .u8 (BitVec.toNat (BitVec.ofNat 8 m):Int)) (vG m),.E (.int .u8 (IntKind.u8.wrap ((192)+((BitVec.toNat (BitVec.ofNat 8 m):Int))))) (.int .u8 (BitVec.toNat ((192:BitVec 8)+(BitVec.ofNat 8 m)):Int)) (za4 (192:BitVec 8) (BitVec.ofNat 8 m)),.nw (fun b=>.slice (some ⟨b,0,none⟩) 1 1) #[.int .u8 (BitVec.toNat ((192:BitVec 8)+(BitVec.ofNat 8 m)):Int)] 5,.w fun nn=>.x (op:=.convert 48 9 (.tmp 15)) (ins:=[((.tmp 15),.slice (some ⟨(nn 1),0,none⟩) 1 1)]) [(1,((nn 1),Obj.cells #[.int .u8 (BitVec.toNat ((192:BitVec 8)+(BitVec.ofNat 8 m)):Int)] 5 (0,0)))] (xV (t:=48) (t':=9) (e:=5) [(BitVec.toNat ((192:BitVec 8)+(BitVec.ofNat 8 m)):Int)] kr kr kr (Rw.lit #[.int .u8 (BitVec.toNat ((192:BitVec 8)+(BitVec.ofNat 8 m)):Int)] 1 (by rfl) (by unfold maxLen;omega))),.v] H12 kr fun gs13 w13 H13=>?_;clear H12;refine zn kr<|wV ?_;refine ⟨[.string (strOfNums ([(BitVec.toNat ((192:BitVec 8)+(BitVec.ofNat 8 m)):Int)]))],(.tmp (.string (strOfNums ([(BitVec.toNat ((192:BitVec 8)+(BitVec.ofNat 8 m)):Int)]))) kr .nil),?_,H13.below⟩;exact congrArg Value.string (zgc (f:=frm l) _ (by rw [hq1];rfl) m (by omega) (by rw [hq1];decide))
  ·refine rp [.E (.bool (decide ((m:Int)≤55))) (.bool false) (za (decide_eq_false (by omega)))] H11 kr fun gs14 w14 H14=>wX [] ?_;clear H11;refine zc<|zl kr kr<|zp kr<|wW<|rS [.v,.c (zdw m (by omega)),.v] H14 kr fun gs15 w15 H15=>?_;clear H14;refine rS [.v,.v,.v,.v,.E (.int .u8 (IntKind.u8.wrap ((ByteArray.size (zf (dg m)):Int)))) (.int .u8 (BitVec.toNat (BitVec.ofNat 8 (ByteArray.size (zf (dg m)))):Int)) (vG (ByteArray.size (zf (dg m)))),.E (.int .u8 (IntKind.u8.wrap ((247)+((BitVec.toNat (BitVec.ofNat 8 (ByteArray.size (zf (dg m)))):Int))))) (.int .u8 (BitVec.toNat ((247:BitVec 8)+(BitVec.ofNat 8 (ByteArray.size (zf (dg m))))):Int)) (za4 (247:BitVec 8) (BitVec.ofNat 8 (ByteArray.size (zf (dg m))))),.nw (fun b=>.slice (some ⟨b,0,none⟩) 1 1) #[.int .u8 (BitVec.toNat ((247:BitVec 8)+(BitVec.ofNat 8 (ByteArray.size (zf (dg m))))):Int)] 5,.w fun nn=>.x (op:=.convert 48 9 (.tmp 25)) (ins:=[((.tmp 25),.slice (some ⟨(nn 1),0,none⟩) 1 1)]) [(1,((nn 1),Obj.cells #[.int .u8 (BitVec.toNat ((247:BitVec 8)+(BitVec.ofNat 8 (ByteArray.size (zf (dg m))))):Int)] 5 (0,0)))] (xV (t:=48) (t':=9) (e:=5) [(BitVec.toNat ((247:BitVec 8)+(BitVec.ofNat 8 (ByteArray.size (zf (dg m))))):Int)] kr kr kr (Rw.lit #[.int .u8 (BitVec.toNat ((247:BitVec 8)+(BitVec.ofNat 8 (ByteArray.size (zf (dg m))))):Int)] 1 (by rfl) (by unfold maxLen;omega))),.v,.o (ins:=[((.tmp 26),.string (strOfNums ([(BitVec.toNat ((247:BitVec 8)+(BitVec.ofNat 8 (ByteArray.size (zf (dg m))))):Int)]))),((.tmp 27),.string (zf (dg m)))]) (v:=.string ((strOfNums ([(BitVec.toNat ((247:BitVec 8)+(BitVec.ofNat 8 (ByteArray.size (zf (dg m))))):Int)]))++(zf (dg m)))) (fun ρ o w ho hi=>kM (t:=9) (t':=9) (x:=(.tmp 26)) (y:=(.tmp 27)) (strOfNums ([(BitVec.toNat ((247:BitVec 8)+(BitVec.ofNat 8 (ByteArray.size (zf (dg m))))):Int)])) (zf (dg m)) w ho hi.1 hi.2.1 (by rw [strOfNums_size,qt];have:=yZ m;show 1+_≤_;omega)),.v] H15 kr fun gs16 w16 H16=>?_;clear H15;refine zn kr<|wV ?_;refine ⟨[.string ((strOfNums ([(BitVec.toNat ((247:BitVec 8)+(BitVec.ofNat 8 (ByteArray.size (zf (dg m))))):Int)]))++(zf (dg m)))],(.tmp (.string ((strOfNums ([(BitVec.toNat ((247:BitVec 8)+(BitVec.ofNat 8 (ByteArray.size (zf (dg m))))):Int)]))++(zf (dg m)))) kr .nil),?_,H16.below⟩;exact congrArg Value.string (zgd (f:=frm l) _ (by rw [hq1];rfl) m (by omega) (by rw [hq1];decide))
theorem zgm (m:Nat)(ih: ∀(l:Bool) (s:ByteArray) (p:Option Addr) (n c:Nat) (k:Fo),s.size≤0x800000000000→s.size+wtF k≤0x4000000000000000→k.cnt<m→FnP Tryz.prog 20 #[.agg #[.bool l,.string s,.slice p n c]] (fun w=>zx w.heap.size w p n k) (.int .u64 ((sz1 l s (szF k):Nat):Int)))(l:Bool)(s:ByteArray)(p:Option Addr)(n c:Nat)(k:Fo)(hs:s.size≤0x800000000000)(hw:s.size+wtF k≤0x4000000000000000)(hkm:k.cnt<m+1):FnP Tryz.prog 36 #[.agg #[.bool l,.string s,.slice p n c]] (fun w=>zx w.heap.size w p n k) (.int .u64 ((ByteArray.size s+szF k:Nat):Int)):=by
 refine FnP.intro (c:=zd Tryz.f36) [.tmp 2] 23 Tryz.func36 kr kr kr fun w hpre=>?_;have H0:=St.start w;have hn:=hpre.1;have hnm:=hpre.2.1;refine rS [.b,.v] H0 kr fun gs1 w1 H1=>?_;clear H0;refine rS [.v,.l 0,.v,.E (.int .u64 (IntKind.u64.wrap ((ByteArray.size s:Int)))) (.int .u64 (ByteArray.size s:Int)) (zk (xU (a:=ByteArray.size s) (by omega))),.v] H1 kr fun gs2 w2 H2=>?_;clear H1;refine zb kr<|rS [.v,.l 0,.v,.v] H2 kr fun gs3 w3 H3=>?_;clear H2;refine zu 0 kr ?_;have HL1:St w.heap.size w w3 [((gs1 0).b,Obj.cells #[.bool l,.string s,.slice p n c] 44 (0,0))]:=H3.as kr;clear H3;have HD2:St w.heap.size w w3 []:=HL1.sub (List.Sublist.cons _ List.Sublist.slnil);refine yD kr (fun mz ρ ww=> ∃(i:Nat) (r:Fo) (a:Nat),n-i=mz∧(FoR w.heap.size w p i r)∧(i+Fo.len r=n)∧(Fo.cnt r≤Fo.cnt k)∧(a+wtF r≤0x4000000000000000)∧(s.size+szF k=a+szF r)∧St w.heap.size w ww []∧Is [(0,.agg #[.bool l,.string s,.slice p n c]),(1,.pointer (some ⟨(gs1 0).b,0,none⟩)),(2,wZ),(3,.int .u64 (a:Int)),(11,.slice p n c),(12,.int .i64 (n:Int)),(13,.int .i64 (i:Int))] ρ) (n-0) ⟨0,k,(ByteArray.size s),rfl,(zx.start hpre),(by have hn0:=(hpre).1;omega),(Nat.le_refl _),hw,rfl,HD2,(Is.of ⟨kr,kr,kr,kr,kr,kr,kr,trivial⟩)⟩ ?_;clear HD2;rintro _ _ w4 ⟨i,r,a,rfl,hR,hN,hcn,hwt,hd,H4,_,rfl⟩;by_cases hc3:(i:Nat)<n
 ·refine rS [.E (.bool (decide ((i:Int)<(n:Int)))) (.bool true) (za (decide_eq_true (by omega)))] H4 kr fun gs5 w5 H5=>?_;clear H4;refine zb kr<|zi kr kr<|zp kr<|wW<|zb kr<|zu 1 kr ?_;obtain ⟨l1,s1,k1,r1,b1,off1,C1,T1,fz1,p1,n1,c1,hr1,hp1,hb1,hh1,hs1,hx1,hz1,hk1,hR1,hN1⟩:=FoR.open hR hN (by omega);refine rS [.o (ins:=[((.tmp 11),.slice p n c),((.tmp 13),.int .i64 (i:Int))]) (v:=.pointer (some ⟨b1,off1+i*3,none⟩)) (fun ρ o w ho hi=>zad (kd:=.i64) (t:=42) (e:=44) (bytes:=48) kr (x:=(.tmp 11)) (y:=(.tmp 13)) b1 off1 n c i hp1 ho hi.1 hi.2.1 (by omega) w),.fp (off:=off1+i*3) (n:=3) (W:=#[.bool l1,.string s1,.slice p1 n1 c1]) hh1 hb1 hs1 hx1,.a,.s 0] H5 kr fun gs6 w6 H6=>?_;clear H5;have hcn1:=hcn;rw [hr1] at hcn1;simp only [Fo.cnt] at hcn1;have hwt1:=hwt;rw [hr1] at hwt1;simp only [wtF] at hwt1;have hsl1:=xX k1;have hsm1:=zae l1 s1 (szF k1);refine rL [.v,.l 0,.cp (pre:=fun w=>zx w.heap.size w p1 n1 k1) (ih l1 s1 p1 n1 c1 k1 hz1 (by omega) (by omega)) [] (fun w hb hd=>(zx.call hk1 hb)),.E (.int .u64 (IntKind.u64.wrap ((a:Int)+((sz1 l1 s1 (szF k1):Nat):Int)))) (.int .u64 ((a+(sz1 l1 s1 (szF k1)):Nat):Int)) (zk (kK (a:=a) (b:=sz1 l1 s1 (szF k1)) (by omega))),.v] H6 kr fun gs7 w7 H7=>?_;clear H6;refine wW<|ye [0,1,2,3,5,11,12,13,14] fun ρ1=>?_;have HK4:=H7.keep;clear H7;refine rL [.E (.int .i64 (IntKind.i64.wrap ((i:Int)+1))) (.int .i64 ((i+1:Nat):Int)) (zk (yF (a:=i) (b:=1) (by omega))),.v] HK4 kr fun gs8 w8 H8=>?_;clear HK4;have HL5:St w.heap.size w w8 [((gs6 2).b,Obj.cells #[.bool l1,.string s1,.slice p1 n1 c1] 44 (0,0))]:=H8.as kr;clear H8;have HD6:St w.heap.size w w8 []:=HL5.sub (List.Sublist.cons _ List.Sublist.slnil);show ∃m,_∧_;exact ⟨_,(by omega),(i+1),r1,(a+sz1 l1 s1 (szF k1)),rfl,hR1,hN1,(by omega),(by omega),(by rw [hd,hr1];simp only [szF];omega),HD6,(Is.of ⟨kr,kr,kr,kr,kr,kr,kr,trivial⟩)⟩
 ·refine rS [.E (.bool (decide ((i:Int)<(n:Int)))) (.bool false) (za (decide_eq_false (by omega)))] H4 kr fun gs9 w9 H9=>?_;clear H4;refine zb kr<|zl kr kr<|ym 0 kr<|wW<|rS [.v,.v] H9 kr fun gs10 w10 H10=>?_;clear H9;refine zn kr<|wV ?_;refine ⟨[.int .u64 (a:Int)],(.tmp (.int .u64 (a:Int)) kr .nil),?_,H10.below⟩;refine zk ?_;rw [hd,FoR.done hN (by omega)];rfl
theorem zlP (m:Nat)(ih: ∀(l:Bool) (s:ByteArray) (p:Option Addr) (n c:Nat) (k:Fo),s.size≤0x800000000000→s.size+wtF k≤0x4000000000000000→k.cnt<m→FnP Tryz.prog 20 #[.agg #[.bool l,.string s,.slice p n c]] (fun w=>zx w.heap.size w p n k) (.int .u64 ((sz1 l s (szF k):Nat):Int)))(l:Bool)(s:ByteArray)(p:Option Addr)(n c:Nat)(k:Fo)(hs:s.size≤0x800000000000)(hw:s.size+wtF k≤0x4000000000000000)(hkm:k.cnt<m+1):FnP Tryz.prog 20 #[.agg #[.bool l,.string s,.slice p n c]] (fun w=>zx w.heap.size w p n k) (.int .u64 ((sz1 l s (szF k):Nat):Int)):=by
 refine FnP.intro (c:=zd Tryz.f20) [.tmp 2] 16 Tryz.func20 kr kr kr fun w hpre=>?_;have H0:=St.start w;have hn:=hpre.1;have hnm:=hpre.2.1;refine rS [.b,.v] H0 kr fun gs1 w1 H1=>?_;clear H0;refine zb kr<|rS [.v,.l 0,.c (zbB s)] H1 kr fun gs2 w2 H2=>?_;clear H1;refine Or.elim (Bool.eq_false_or_eq_true (zT s)).symm (fun hq1=>?_) (fun hq1=>?_)
 ·refine qg 6 (v:=.bool (zT s)) (v':=.bool false) (za hq1) kr<|zl kr kr<|zp kr<|wW<|rS [.l 0,.cp (pre:=fun w=>zx w.heap.size w p n k) (zgm m ih l s p n c k (by omega) (by omega) (by omega)) [] (fun w hb hd=>(zx.call hpre hb)),.v] H2 kr fun gs3 w3 H3=>?_;clear H2;have hhl:=xW (frm l) (ByteArray.size s+szF k);have hsz:=xX k;have hhs:ByteArray.size (zf (hd (frm l) (ByteArray.size s+szF k)))≤9:=hhl.2;refine rS [.l 0,.v,.c (zgl l s p n c (ByteArray.size s+szF k) (by omega)),.v,.E (.int .u64 (IntKind.u64.wrap ((ByteArray.size (zf (hd (frm l) (ByteArray.size s+szF k))):Int)))) (.int .u64 (ByteArray.size (zf (hd (frm l) (ByteArray.size s+szF k))):Int)) (zk (xU (a:=ByteArray.size (zf (hd (frm l) (ByteArray.size s+szF k)))) (by omega))),.v,.E (.int .u64 (IntKind.u64.wrap ((ByteArray.size (zf (hd (frm l) (ByteArray.size s+szF k))):Int)+((ByteArray.size s+szF k:Nat):Int)))) (.int .u64 (((ByteArray.size (zf (hd (frm l) (ByteArray.size s+szF k))))+(ByteArray.size s+szF k):Nat):Int)) (zk (kK (a:=ByteArray.size (zf (hd (frm l) (ByteArray.size s+szF k)))) (b:=ByteArray.size s+szF k) (by omega))),.v] H3 kr fun gs4 w4 H4=>?_;clear H3;refine zn kr<|wV ?_;refine ⟨[.int .u64 (((ByteArray.size (zf (hd (frm l) (ByteArray.size s+szF k))))+(ByteArray.size s+szF k):Nat):Int)],(.tmp (.int .u64 (((ByteArray.size (zf (hd (frm l) (ByteArray.size s+szF k))))+(ByteArray.size s+szF k):Nat):Int)) kr .nil),?_,H4.below⟩;refine zk ?_;unfold sz1;rw [if_neg (by rw [hq1];decide)];rfl
 ·refine qg 6 (v:=.bool (zT s)) (v':=.bool true) (za hq1) kr<|zi kr kr<|rS [.v] H2 kr fun gs5 w5 H5=>?_;clear H2;refine zn kr<|wV ?_;refine ⟨[.int .u64 1],(.tmp (.int .u64 1) kr .nil),?_,H5.below⟩;refine zk ?_;unfold sz1;rw [if_pos hq1];rfl
theorem zgn (l:Bool)(s:ByteArray)(p:Option Addr)(n c:Nat)(k:Fo)(hs:s.size≤0x800000000000)(hw:s.size+wtF k≤0x4000000000000000):FnP Tryz.prog 20 #[.agg #[.bool l,.string s,.slice p n c]] (fun w=>zx w.heap.size w p n k) (.int .u64 ((sz1 l s (szF k):Nat):Int)):=by
 have key: ∀(m:Nat) (l:Bool) (s:ByteArray) (p:Option Addr) (n c:Nat) (k:Fo),s.size≤0x800000000000→s.size+wtF k≤0x4000000000000000→k.cnt<m→FnP Tryz.prog 20 #[.agg #[.bool l,.string s,.slice p n c]] (fun w=>zx w.heap.size w p n k) (.int .u64 ((sz1 l s (szF k):Nat):Int)):=by
  intro m
  induction m with
  | zero=>intros;omega
  | succ m ih=>intro l s p n c k hs hw hkm;exact zlP m ih l s p n c k hs hw hkm
 exact key (k.cnt+1) l s p n c k hs hw (by omega)
theorem zlQ (l:Bool)(s:ByteArray)(p:Option Addr)(n c:Nat)(k:Fo)(hs:s.size≤0x800000000000)(hw:s.size+wtF k≤0x4000000000000000):FnP Tryz.prog 36 #[.agg #[.bool l,.string s,.slice p n c]] (fun w=>zx w.heap.size w p n k) (.int .u64 ((ByteArray.size s+szF k:Nat):Int)):=zgm k.cnt (fun l s p n c k hs hw _=>zgn l s p n c k hs hw) l s p n c k hs hw (by omega)
end Go.Proofs.YtpghmdbjmigjlaaGreatDoor
