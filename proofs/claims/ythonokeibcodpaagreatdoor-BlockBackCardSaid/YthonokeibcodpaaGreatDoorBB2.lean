/-
  Texts of the proof,part 2.
-/
import Derived.Lib.AppendZeros
import Derived.Lib.Overlaps
import Derived.Scope
import Derived.Deep.Upon
import Derived.Test.YthonokeibcodpaaGreatDoorRows
import Derived.ChangeArms
import Derived.ChangeSlices
import Derived.OpenShut
import Derived.Deep.Strs
import Derived.DataReads
import Derived.ProofKit
import Derived.WalkKit
import Derived.Below
import Derived.KernelRfl
import Derived.Test.YthonokeibcodpaaGreatDoorProg
import Derived.Handy
import Derived.WalkLawsBesides
import Derived.Shelf.Spec.BitsCarry
import Derived.Shelf.Bits.Mul64
import Derived.Laws.Bits64b
import Derived.Lib.BitFns
import Derived.Shelf.Strconv.Itoa0
import Derived.Lib.Hide
import Derived.Laws.StructEq
import Derived.ChangeKeysEq
import Derived.Test.YthonokeibcodpaaGreatDoorChecked
import Derived.Laws.IdiomArrays
import Derived.Lib.AppendStr
import Derived.Lib.Builder
import Derived.Test.YthonokeibcodpaaGreatDoorBB1
set_option maxRecDepth 100000
set_option maxHeartbeats 4000000
namespace Go.Proofs.YthonokeibcodpaaGreatDoor
open Go Go.RowKit
set_option linter.unusedVariables false
inductive Fr (α:Type)
 | nil
 | cons (a:α) (k r:Fr α)
structure Sh (α:Type) where
 K:Nat
 hd:α→List Value
 ok:α→Prop
 mx:Nat
 len: ∀a,(hd a).length+1=K
 one: ∀a,∀u∈hd a,u.oneCell'=true
section
variable {α:Type}{S:Sh α}
def Fr.len:Fr α→Nat
 | .nil=>0
 | .cons _ _ r=>r.len+1
def Fr.at:Fr α→Nat→Option (α×Fr α)
 | .nil,_=>none
 | .cons a k _,0=>some (a,k)
 | .cons _ _ r,i+1=>r.at i
theorem Fr.at_none: ∀ {k:Fr α} {i:Nat},k.len≤i→k.at i=none
 | .nil,_,_=>rfl
 | .cons _ _ r,0,h=>by simp only [Fr.len] at h;omega
 | .cons _ _ r,i+1,h=>Fr.at_none (k:=r) (by simp only [Fr.len] at h;omega)
def qk (S:Sh α)(B:Nat)(w:World):Fr α→Nat→Nat→Prop
 | .nil,_,_=>True
 | .cons a k r,b,off=>(∃(C:Array Value) (T:TypeId) (fz:Nat×Nat) (p:Option Addr) (n c:Nat),b<B∧w.heap[b]? =some (.cells C T fz)∧off+S.K≤C.size∧
  C.extract off (off+S.K)=(S.hd a++ [Value.slice p n c]).toArray∧S.ok a∧n=k.len∧n≤S.mx∧(k=.nil∨∃b' off',p=some ⟨b',off',none⟩∧qk S B w k b' off'))∧qk S B w r b (off+S.K)
def SlR (S:Sh α)(B:Nat)(w:World)(p:Option Addr)(n:Nat)(k:Fr α):Prop:=n=k.len∧n≤S.mx∧(k=.nil∨∃b off,p=some ⟨b,off,none⟩∧qk S B w k b off)
def FrR (S:Sh α)(B:Nat)(w:World)(p:Option Addr)(i:Nat)(r:Fr α):Prop:=r=.nil∨∃b off,p=some ⟨b,off,none⟩∧qk S B w r b (off+i*S.K)
theorem qk.up {B B':Nat}{w w':World}(hb:Below B w w')(hB:B≤B'): ∀ {k:Fr α} {b off:Nat},qk S B w k b off→qk S B' w' k b off
 | .nil,_,_,_=>trivial
 | .cons a k r,b,off,⟨⟨C,T,fz,p,n,c,h1,h2,h3,h4,h5,h6,h7,h8⟩,h9⟩=>
  ⟨⟨C,T,fz,p,n,c,Nat.lt_of_lt_of_le h1 hB,by rw [hb.block b h1];exact h2,h3,h4,h5,h6,h7,h8.imp id fun ⟨b',o',e,h⟩=>⟨b',o',e,qk.up hb hB h⟩⟩,qk.up hb hB h9⟩
theorem SlR.up {B B':Nat}{w w':World}{p:Option Addr}{n:Nat}{k:Fr α}(h:SlR S B w p n k)(hb:Below B w w')(hB:B≤B'):SlR S B' w' p n k:=
 ⟨h.1,h.2.1,h.2.2.imp id fun ⟨b,o,e,h⟩=>⟨b,o,e,h.up hb hB⟩⟩
theorem SlR.call {w0 w:World}{p:Option Addr}{n:Nat}{k:Fr α}(h:SlR S w0.heap.size w0 p n k)(hb:Below w0.heap.size w0 w):SlR S w.heap.size w p n k:=h.up hb hb.size
theorem SlR.nil (B:Nat)(w:World)(p:Option Addr):SlR S B w p 0 .nil:=⟨rfl,by omega,.inl rfl⟩
theorem SlR.start {B:Nat}{w:World}{p:Option Addr}{n:Nat}{k:Fr α}(h:SlR S B w p n k):FrR S B w p 0 k:=
 h.2.2.imp id fun ⟨b,o,e,h⟩=>⟨b,o,e,by rw [Nat.zero_mul,Nat.add_zero];exact h⟩
theorem FrR.open {B:Nat}{w:World}{p:Option Addr}{i n:Nat}{r:Fr α}(h:FrR S B w p i r)(hn:i+r.len=n)(hi:i<n):
 ∃a k r' b off C T fz p' n' c',r=.cons a k r'∧p=some ⟨b,off,none⟩∧b<B∧w.heap[b]? =some (.cells C T fz)∧off+i*S.K+S.K≤C.size∧
  C.extract (off+i*S.K) (off+i*S.K+S.K)=(S.hd a++ [Value.slice p' n' c']).toArray∧S.ok a∧SlR S B w p' n' k∧FrR S B w p (i+1) r'∧i+1+r'.len=n:=by
 cases r with
 | nil=>simp only [Fr.len] at hn;omega
 | cons a k r'=>
  rcases h with h|⟨b,off,e,⟨C,T,fz,p',n',c',h1,h2,h3,h4,h5,h6,h7,h8⟩,h9⟩
  ·cases h
  ·refine ⟨a,k,r',b,off,C,T,fz,p',n',c',rfl,e,h1,h2,h3,h4,h5,⟨h6,h7,h8⟩,.inr ⟨b,off,e,?_⟩,?_⟩
   ·rw [show off+(i+1)*S.K=off+i*S.K+S.K by rw [Nat.succ_mul];omega];exact h9
   ·simp only [Fr.len] at hn;omega
theorem FrR.done {i n:Nat}{r:Fr α}(hn:i+r.len=n)(hi: ¬i<n):r=.nil:=by
 cases r with
 | nil=>rfl
 | cons a k r'=>simp only [Fr.len] at hn;omega
theorem qk.at {B:Nat}{w:World} : ∀ {k:Fr α} {b off i:Nat} {a:α} {q:Fr α},qk S B w k b off→k.at i=some (a,q)→∃C T fz p n c,b<B∧w.heap[b]? =some (.cells C T fz)∧off+i*S.K+S.K≤C.size∧
 C.extract (off+i*S.K) (off+i*S.K+S.K)=(S.hd a++ [Value.slice p n c]).toArray∧S.ok a∧SlR S B w p n q
 | .cons a0 k0 r,b,off,0,a,q,⟨⟨C,T,fz,p,n,c,h1,h2,h3,h4,h5,h6,h7,h8⟩,h9⟩,hi=>by
  obtain ⟨rfl,rfl⟩:a0=a∧k0=q:=by simp only [Fr.at,Option.some.injEq,Prod.mk.injEq] at hi;exact hi
  rw [Nat.zero_mul,Nat.add_zero];exact ⟨C,T,fz,p,n,c,h1,h2,h3,h4,h5,h6,h7,h8⟩
 | .cons a0 k0 r,b,off,i+1,a,q,⟨_,h9⟩,hi=>by
  obtain ⟨C,T,fz,p,n,c,h⟩:=qk.at h9 hi;rw [show off+S.K+i*S.K=off+(i+1)*S.K by rw [Nat.succ_mul];omega] at h;exact ⟨C,T,fz,p,n,c,h⟩
theorem Fr.at_some: ∀ {k:Fr α} {i:Nat},i<k.len→∃a q,k.at i=some (a,q)
 | .cons a k r,0,_=>⟨a,k,rfl⟩
 | .cons a k r,i+1,h=>Fr.at_some (k:=r) (by simp only [Fr.len] at h;omega)
def LyR (S:Sh α)(T:List (Nat×Obj)):Fr α→Nat→Nat→Prop
 | .nil,_,_=>True
 | .cons a k r,b,off=>(∃(C:Array Value) (ty:TypeId) (fz:Nat×Nat) (p:Option Addr) (n c:Nat),(b,Obj.cells C ty fz)∈T∧off+S.K≤C.size∧
  C.extract off (off+S.K)=(S.hd a++ [Value.slice p n c]).toArray∧S.ok a∧n=k.len∧n≤S.mx∧(k=.nil∨∃b' off',p=some ⟨b',off',none⟩∧LyR S T k b' off'))∧LyR S T r b (off+S.K)
def RIn (S:Sh α)(T:List (Nat×Obj))(p:Option Addr)(n:Nat)(k:Fr α):Prop:=n=k.len∧n≤S.mx∧(k=.nil∨∃b off,p=some ⟨b,off,none⟩∧LyR S T k b off)
theorem LyR.mono {T T':List (Nat×Obj)}(h: ∀e∈T,e∈T'): ∀ {k:Fr α} {b off:Nat},LyR S T k b off→LyR S T' k b off
 | .nil,_,_,_=>trivial
 | .cons a k r,b,off,⟨⟨C,ty,fz,p,n,c,h1,h2,h3,h4,h5,h6,h7⟩,h8⟩=>⟨⟨C,ty,fz,p,n,c,h _ h1,h2,h3,h4,h5,h6,h7.imp id fun ⟨b',o',e,q⟩=>⟨b',o',e,LyR.mono h q⟩⟩,LyR.mono h h8⟩
theorem RIn.mono {T T':List (Nat×Obj)}{p:Option Addr}{n:Nat}{k:Fr α}(hs:RIn S T p n k)(h: ∀e∈T,e∈T'):RIn S T' p n k:=
 ⟨hs.1,hs.2.1,hs.2.2.imp id fun ⟨b,o,e,q⟩=>⟨b,o,e,q.mono h⟩⟩
theorem RIn.none (T:List (Nat×Obj))(p:Option Addr):RIn S T p 0 .nil:=⟨rfl,by omega,.inl rfl⟩
theorem LyR.at {B:Nat}{w0 w:World}{l T:List (Nat×Obj)}(hS:St B w0 w l)(h: ∀e∈T,e∈l): ∀ {k:Fr α} {b off:Nat},LyR S T k b off→qk S w.heap.size w k b off
 | .nil,_,_,_=>trivial
 | .cons a k r,b,off,⟨⟨C,ty,fz,p,n,c,h1,h2,h3,h4,h5,h6,h7⟩,h8⟩=>
  have hh:=(hS.own _ (h _ h1)).2
  ⟨⟨C,ty,fz,p,n,c,zv hh,hh,h2,h3,h4,h5,h6,h7.imp id fun ⟨b',o',e,q⟩=>⟨b',o',e,LyR.at hS h q⟩⟩,LyR.at hS h h8⟩
theorem RIn.at {B:Nat}{w0 w:World}{l T:List (Nat×Obj)}{p:Option Addr}{n:Nat}{k:Fr α}(hs:RIn S T p n k)(hS:St B w0 w l)(h: ∀e∈T,e∈l):SlR S w.heap.size w p n k:=
 ⟨hs.1,hs.2.1,hs.2.2.imp id fun ⟨b,o,e,q⟩=>⟨b,o,e,q.at hS h⟩⟩
structure El (α:Type) where
 a:α
 p:Option Addr
 n:Nat
 c:Nat
 k:Fr α
def El.cs (S:Sh α)(x:El α):List Value:=S.hd x.a++ [Value.slice x.p x.n x.c]
def zJ (S:Sh α):List (El α)→List Value
 | []=>[]
 | x::r=>x.cs S++zJ S r
def yl:List (El α)→Fr α
 | []=>.nil
 | x::r=>.cons x.a x.k (yl r)
theorem zc1: ∀L:List (El α),(yl L).len=L.length
 | []=>rfl
 | x::r=>by simp only [yl,Fr.len,List.length_cons,zc1 r]
theorem El.cs_len (x:El α):(x.cs S).length=S.K:=by
 unfold El.cs;rw [List.length_append];exact S.len x.a
theorem xO: ∀L:List (El α),(zJ S L).length=L.length*S.K
 | []=>by simp [zJ]
 | x::r=>by simp only [zJ,List.length_append,xO r,El.cs_len,List.length_cons,Nat.succ_mul];omega
theorem vk (x:El α): ∀L:List (El α),zJ S (L++ [x])=zJ S L++x.cs S
 | []=>by simp [zJ]
 | y::r=>by simp only [List.cons_append,zJ,vk x r,List.append_assoc]
theorem zc2: ∀(L:List (El α)) (i:Nat) (x:El α),L[i]? =some x→ ∀j,j<S.K→(zJ S L)[i*S.K+j]? =(x.cs S)[j]?
 | y::r,0,x,h,j,hj=>by
  obtain rfl:y=x:=by simpa using h
  rw [Nat.zero_mul,Nat.zero_add];unfold zJ;rw [List.getElem?_append_left (by rw [El.cs_len];exact hj)]
 | y::r,i+1,x,h,j,hj=>by
  unfold zJ;rw [List.getElem?_append_right (by rw [El.cs_len,Nat.succ_mul];omega),El.cs_len,show (i+1)*S.K+j-S.K=i*S.K+j by rw [Nat.succ_mul];omega];exact zc2 r i x (by simpa using h) j hj
theorem exE {C:Array Value}{o:Nat}{x:List Value}{K:Nat}(hl:x.length=K)(h: ∀j,j<K→C[o+j]? =x[j]?)(h0:0<K):o+K≤C.size∧C.extract o (o+K)=x.toArray:=by
 have hz:o+K≤C.size:=by
  have h1:=h (K-1) (by omega);rw [List.getElem?_eq_getElem (by omega)] at h1;obtain ⟨h2,_⟩:=Array.getElem?_eq_some_iff.1 h1;omega
 refine ⟨hz,?_⟩;apply Array.ext_getElem?;intro j;have e:x.toArray[j]? =x[j]? :=by simp
 rw [Array.getElem?_extract,e];split
 ·rename_i hj
  exact h j (by omega)
 ·rename_i hj
  rw [List.getElem?_eq_none (by omega)]
theorem Sh.pos (S:Sh α)(a:α):0<S.K:=by have:=S.len a;omega
theorem Rw.atE {cur:Array Value}{cap n:Nat}{L:List (El α)}(h:Rw S.K cur cap n (zJ S L)){i:Nat}{x:El α}(hx:L[i]? =some x):i*S.K+S.K≤cur.size∧cur.extract (i*S.K) (i*S.K+S.K)=(x.cs S).toArray:=by
 have hl:=h.len;rw [xO] at hl;have hi:i<L.length:=(List.getElem?_eq_some_iff.1 hx).1;refine exE x.cs_len (fun j hj=>?_) (S.pos x.a)
 rw [h.get _ (by
  rw [←hl];have:i*S.K+S.K≤L.length*S.K:=by rw [←Nat.succ_mul];exact Nat.mul_le_mul_right _ hi
  omega),zc2 L i x hx j hj]
def AllE (S:Sh α)(T:List (Nat×Obj))(L:List (El α)):Prop:= ∀x∈L,RIn S T x.p x.n x.k∧S.ok x.a
theorem AllE.mono {T T':List (Nat×Obj)}{M:List (El α)}(h:AllE S T M)(hs: ∀e∈T,e∈T'):AllE S T' M:=fun x hx=>⟨(h x hx).1.mono hs,(h x hx).2⟩
theorem AllE.snoc {T:List (Nat×Obj)}{M:List (El α)}{x:El α}(h:AllE S T M)(hx:RIn S T x.p x.n x.k)(hz:S.ok x.a):AllE S T (M++ [x]):=fun y hy=>by
 rcases List.mem_append.1 hy with q|q
 ·exact h y q
 ·obtain rfl:=List.mem_singleton.1 q;exact ⟨hx,hz⟩
theorem zc3 {T:List (Nat×Obj)}{b:Nat}{C:Array Value}{ty:TypeId}{fz:Nat×Nat}(hm:(b,Obj.cells C ty fz)∈T): ∀(L:List (El α)) (o:Nat),
 (∀(i:Nat) (x:El α),L[i]? =some x→o+i*S.K+S.K≤C.size∧C.extract (o+i*S.K) (o+i*S.K+S.K)=(x.cs S).toArray)→AllE S T L→LyR S T (yl L) b o
 | [],_,_,_=>trivial
 | x::r,o,h,hA=>by
  have h1:=h 0 x rfl;rw [Nat.zero_mul,Nat.add_zero] at h1;have ha:=hA x (List.mem_cons_self ..);refine ⟨⟨C,ty,fz,x.p,x.n,x.c,hm,h1.1,h1.2,ha.2,ha.1.1,ha.1.2.1,ha.1.2.2⟩,?_⟩;refine zc3 hm r (o+S.K) (fun i y hy=>?_) fun y hy=>hA y (List.mem_cons_of_mem _ hy);have:=h (i+1) y (by simpa using hy);rw [show o+(i+1)*S.K=o+S.K+i*S.K by rw [Nat.succ_mul];omega] at this;exact this
theorem Rw.rIn {cur:Array Value}{cap n:Nat}{L:List (El α)}(h:Rw S.K cur cap n (zJ S L))(hK:0<S.K){T:List (Nat×Obj)}{b:Nat}{ty:TypeId}{fz:Nat×Nat}(hm:(b,Obj.cells cur ty fz)∈T)(hA:AllE S T L)(hn:n≤S.mx):RIn S T (some ⟨b,0,none⟩) n (yl L):=by
 have hl:=h.len;rw [xO] at hl;have hln:L.length=n:=Nat.eq_of_mul_eq_mul_right hK hl;refine ⟨by rw [zc1];omega,hn,.inr ⟨b,0,rfl,zc3 hm L 0 (fun i x hx=>?_) hA⟩⟩;rw [Nat.zero_add];exact h.atE hx
def RowE (S:Sh α)(ty:TypeId)(p:Option Addr)(n c:Nat)(row:List (Nat×Obj))(L:List (El α)):Prop:=(p=none∧n=0∧c=0∧row=[]∧L=[])∨∃b cur,p=some ⟨b,0,none⟩∧row=[(b,.cells cur ty (0,0))]∧Rw S.K cur c n (zJ S L)
theorem RowE.len {ty:TypeId}{p:Option Addr}{n c:Nat}{row:List (Nat×Obj)}{L:List (El α)}(h:RowE S ty p n c row L)(hK:0<S.K):n=L.length:=by
 rcases h with ⟨_,rfl,_,_,rfl⟩|⟨b,cur,_,_,hr⟩
 ·rfl
 ·have hl:=hr.len;rw [xO] at hl;exact (Nat.eq_of_mul_eq_mul_right hK hl).symm
theorem RowE.rIn {ty:TypeId}{p:Option Addr}{n c:Nat}{row T:List (Nat×Obj)}{L:List (El α)}(h:RowE S ty p n c row L)(hK:0<S.K)(hA:AllE S T L)(hn:n≤S.mx):RIn S (row++T) p n (yl L):=by
 rcases h with ⟨rfl,rfl,rfl,rfl,rfl⟩|⟨b,cur,rfl,rfl,hr⟩
 ·exact RIn.none _ _
 ·exact hr.rIn (b:=b) (ty:=ty) (fz:=(0,0)) hK (by simp) (hA.mono fun e he=>List.mem_append_right _ he) hn
end
theorem zc4 {P:Program}{ρ:Env}{w:World}{b off:Nat}{C:Array Value}{T t:TypeId}{fz:Nat×Nat}{x:Operand}{v:Value}(hh:w.heap[b]? =some (.cells C T fz))(ht:oneCell P t=true)(hx:ev ρ x=.pointer (some ⟨b,off,none⟩))(hv:C[off]? =some v)(o:Oper)(ho:o.op=.load t x):
 (execOp (ev ρ) o).run P w=.ok (.value v) w:=by
 have:=xJ (P:=P) (w:=w) ht hh hv;simp [execOp,ho,Instr.loadAt,Instr.sureAddr,hx,this]
theorem xP {P:Program}{ρ:Env}{w:World}{b off:Nat}{C C':Array Value}{T t:TypeId}{x y:Operand}{v:Value}(hh:w.heap[b]? =some (.cells C T (0,0)))(hi:(P.info? t).map (·.size)=some v.cells.size)(h1:v.cells.all (·.oneCell')=true)(hs:off+v.cells.size≤C.size)
 (hC:(C.toList.take off++v.cells.toList++C.toList.drop (off+v.cells.size)).toArray=C') (hx:ev ρ x=.pointer (some ⟨b,off,none⟩)) (hy:ev ρ y=v) (o:Oper) (ho:o.op=.store t x y):(execOp (ev ρ) o).run P w=.ok .skip (w.setRow b C'):=by
 have:=ka (P:=P) (w:=w) hi h1 hh hs;rw [hC] at this;simp [execOp,ho,Instr.storeAt,Instr.sureAddr,hx,hy,this]
theorem St.perm {B:Nat}{w0 w:World}{l l':List (Nat×Obj)}(h:St B w0 w l)(hp:l'.Perm l):St B w0 w l':=
 ⟨h.below,h.le,fun x hx=>h.own x (hp.mem_iff.1 hx),((hp.map (·.1)).nodup_iff).2 h.nd⟩
theorem St.addAll {B:Nat}{w0 w w':World}{l T:List (Nat×Obj)}(h:St B w0 w l)(hT:St w.heap.size w w' T):St B w0 w' (T++l):=by
 have h':=h.call hT.below;refine ⟨h'.below,h'.le,?_,?_⟩
 ·intro e he;rcases List.mem_append.1 he with he | he
  ·exact ⟨Nat.le_trans h.le (hT.own e he).1,(hT.own e he).2⟩
  ·exact h'.own e he
 ·rw [List.map_append,List.nodup_append];refine ⟨hT.nd,h'.nd,?_⟩;intro x hx y hy q;obtain ⟨e,he,rfl⟩:=List.mem_map.1 hx;obtain ⟨e',he',rfl⟩:=List.mem_map.1 hy;have h1:=(hT.own e he).1;have h2:=zv (h.own e' he').2;omega
section
variable {P:Program}{ρ:Env}{w w0:World}{B:Nat}{l:List (Nat×Obj)}
theorem vm {K:Nat}(HS:St B w0 w l){t e bytes:Nat}{s x:Operand}{o:Oper}{j k b bx n cap c:Nat}{cur Y:Array Value}{xs:List Value}(ht:ye P t=some (e,K,bytes))(ho:o.op=yp t s x)
 (hs:ev ρ s=.slice (some ⟨b,0,none⟩) n cap) (hj:l[j]? =some (b,.cells cur e (0,0))) (hr:Rw K cur cap n xs) (hx:ev ρ x=.slice (some ⟨bx,0,none⟩) 1 c) (hk:l[k]? =some (bx,.cells Y e (0,0)))
 (hY:Y.size=K) (hone: ∀u∈Y.toList,u.oneCell'=true)
 (hb:(n+1)*bytes≤0x800000000000) (hm:n+1≤maxLen):∃b' cap' cur' w',(execOp (ev ρ) o).run P w=.ok (.value (.slice (some ⟨b',0,none⟩) (n+1) cap')) w'∧St B w0 w' (l.set j (b',.cells cur' e (0,0)))∧Rw K cur' cap' (n+1) (xs++Y.toList):=by
 obtain ⟨it,z,hu,hi,hz,hsz,hby,hzs,h0⟩:=qb ht;have hnews: ∀q u,(Y.toList)[q]? =some u→w.cell? ((⟨bx,0,none⟩:Addr).add q)=some u:=fun q u hq=>by
  rw [Array.getElem?_toList] at hq;rw [qh,Nat.zero_add];simp [World.cell?,HS.get k hk,hq]
 obtain ⟨v',w',hrun,hown,hgr,hnil,hblk⟩:=run_append_own_at (P:=P) w B t o.type e it z K bytes hu hi hz hsz hby hzs h0 _ n xs (hr.owns (HS.ge j hj) (HS.get j hj)) ⟨bx,0,none⟩ 1 c Y.toList (by rw [Array.length_toList,hY,Nat.one_mul]) hnews hone hm hb HS.le;have hown':=hown;rcases hown'.2 with ⟨hv,_⟩|⟨g,cap',cur',rfl,hbg,hg,hnc,hcm,hcs,htk⟩
 ·exact absurd (hnil.1 hv).1 (by simp)
 ·have hgb:g=b∨g=w.heap.size:=by
   rcases hblk with hq|hq
   ·left;injection hq
   ·right;injection hq
  refine ⟨g,cap',cur',w',?_,HS.grown j hj hgr hgb hg,?_⟩
  ·unfold execOp;simp only [ho,yp,resolve,invoke,builtin,Sem.run_bind,Sem.run_pure,Result.andThen_ok,List.map_toArray,List.map_cons,List.map_nil,hs,hx,hrun]
  ·exact ⟨hown.1,hnc,hcm,htk,hcs⟩
theorem ul {K:Nat}(HS:St B w0 w l){t e bytes:Nat}{s x:Operand}{o:Oper}{k bx c:Nat}{Y:Array Value}(ht:ye P t=some (e,K,bytes))(ho:o.op=yp t s x)
 (hs:ev ρ s=.slice none 0 0) (hx:ev ρ x=.slice (some ⟨bx,0,none⟩) 1 c) (hk:l[k]? =some (bx,.cells Y e (0,0)))
 (hY:Y.size=K) (hone: ∀u∈Y.toList,u.oneCell'=true)
 (hb:(0+1)*bytes≤0x800000000000):∃b' cap' cur' w',(execOp (ev ρ) o).run P w=.ok (.value (.slice (some ⟨b',0,none⟩) 1 cap')) w'∧St B w0 w' ((b',.cells cur' e (0,0))::l)∧Rw K cur' cap' 1 Y.toList:=by
 obtain ⟨it,z,hu,hi,hz,hsz,hby,hzs,h0⟩:=qb ht;have hnews: ∀q u,(Y.toList)[q]? =some u→w.cell? ((⟨bx,0,none⟩:Addr).add q)=some u:=fun q u hq=>by
  rw [Array.getElem?_toList] at hq;rw [qh,Nat.zero_add];simp [World.cell?,HS.get k hk,hq]
 obtain ⟨v',w',hrun,hown,hgr,hnil,hblk⟩:=run_append_own_at (P:=P) w B t o.type e it z K bytes hu hi hz hsz hby hzs h0 (.slice none 0 0) 0 [] (World.ownsRow_nil w B e K) ⟨bx,0,none⟩ 1 c Y.toList (by rw [Array.length_toList,hY,Nat.one_mul]) hnews hone (by unfold maxLen;omega) hb HS.le;have hown':=hown;rcases hown'.2 with ⟨hv,_⟩|⟨g,cap',cur',rfl,hbg,hg,hnc,hcm,hcs,htk⟩
 ·exact absurd (hnil.1 hv).2 (by simp)
 ·have hgb:g=w.heap.size:=by
   rcases hblk with hq|hq
   ·simp [Value.ownBlock] at hq
   ·injection hq
  have hbel:Below w.heap.size w w':=(Below.refl _ w).grown hgr (Nat.le_refl _) (fun k hk=>by simp [Value.ownBlock] at hk);have HS':=HS.add hbel (by omega) hg;rw [Nat.zero_add] at hnc htk;refine ⟨g,cap',cur',w',?_,HS',⟨by rw [Array.length_toList,hY,Nat.one_mul],hnc,hcm,htk,hcs⟩⟩;unfold execOp;simp only [ho,yp,resolve,invoke,builtin,Sem.run_bind,Sem.run_pure,Result.andThen_ok,List.map_toArray,List.map_cons,List.map_nil,hs,hx,hrun]
def FnT (P:Program)(f:Nat)(args:Array Value)(pre:World→Prop)(ok:Value→List (Nat×Obj)→Prop):Prop:=
 ∀w,pre w→Calls P f args w fun e w'=> ∃v T,e=.returned v∧ok v T∧St w.heap.size w w' T
end
namespace D2
section
variable {P:Program}{ops:Array Oper}{R:(Nat→Gh)→Env}{i:Nat}{d:Option Nat}{pre:(Nat→Bool)→(Nat→Gh)→World→Prop}
theorem gv_opW {V:Value}(hs: ∀L g w,pre L g w→pre (put1 L i) g w)(op:Op)(h: ∀g,opk ops i (R g)=some (d,true,op))(hr: ∀L g (o:Oper) w,Now ops i L→pre L g w→o.op=op→(execOp (ev (R g)) o).run P w=.ok (.value V) w):Gives P ops R pre i d (fun _=>V):=
 gives_of fun L g w hp hN=>by
  obtain ⟨o,ho,hd,hw,hop⟩:=zD (h g);exact ⟨o,ho,hd,.inr ⟨hw,by rw [hr L g o w hN hp hop];exact ⟨g i,rfl,by rw [setN_self];exact hs _ _ _ hp⟩⟩⟩
theorem gv_ld {V:Value}(hs: ∀L g w,pre L g w→pre (put1 L i) g w)(t:TypeId)(x:Operand)(b:(Nat→Gh)→Nat)(off:Nat)(C:Array Value)(T:TypeId)(fz:Nat×Nat)(h: ∀g,opk ops i (R g)=some (d,true,.load t x))
 (hx: ∀g,ev (R g) x=.pointer (some ⟨b g,off,none⟩)) (hh: ∀L g w,Now ops i L→pre L g w→w.heap[b g]? =some (.cells C T fz)) (hok:kW P t off C=true) (hV:ldv P t off C=V):Gives P ops R pre i d (fun _=>V):=
 gv_opW hs _ h fun L g o w hN hp ho=>by
  have:=zaN (P:=P) hok (hh L g w hN hp);rw [hV] at this;simp [execOp,ho,Instr.loadAt,Instr.sureAddr,hx,this]
theorem gv_cpW {V:Value}(hs: ∀L g w,pre L g w→pre (put1 L i) g w)(f:Nat)(args:Array Value){pr:World→Prop}(hc:FnP P f args pr V)(hpr: ∀L g w,Now ops i L→pre L g w→pr w)(hb: ∀L g w w',Now ops i L→pre L g w→Below w.heap.size w w'→pre L g w')(h: ∀g w,opv P ops i (R g) w=some (d,true,.ok (.enter f args) w)):Gives P ops R pre i d (fun _=>V):=
 gives_of fun L g w hp hN=>by
  obtain ⟨o,ho,hd,hw,hr⟩:=zO (h g w);refine ⟨o,ho,hd,.inr ⟨hw,?_⟩⟩;rw [hr];refine Calls.mono (hc w (hpr L g w hN hp)) ?_;rintro e w' ⟨rfl,hbl⟩;exact ⟨V,rfl,g i,rfl,by rw [setN_self];exact hs _ _ _ (hb L g w w' hN hp hbl)⟩
theorem gv_ft {V:Gh→Value}(f:Nat)(args:Array Value){pr:World→Prop}{ok:Value→List (Nat×Obj)→Prop}(hc:FnT P f args pr ok)(hpr: ∀L g w,Now ops i L→pre L g w→pr w)
 (hk: ∀L g w v T w',Now ops i L→pre L g w→ok v T→St w.heap.size w w' T→∃x:Gh,v=V x∧pre (put1 L i) (setN g i x) w') (h: ∀g w,opv P ops i (R g) w=some (d,true,.ok (.enter f args) w)):Gives P ops R pre i d V:=
 gives_of fun L g w hp hN=>by
  obtain ⟨o,ho,hd,hw,hr⟩:=zO (h g w);refine ⟨o,ho,hd,.inr ⟨hw,?_⟩⟩;rw [hr];refine Calls.mono (hc w (hpr L g w hN hp)) ?_;rintro e w' ⟨v,T,rfl,hok,hT⟩;obtain ⟨x,hv,hq⟩:=hk L g w v T w' hN hp hok hT;exact ⟨v,rfl,x,hv,hq⟩
end
end D2
abbrev zX (B:Nat)(w0:World)(ok:Value→List (Nat×Obj)→Prop):Value→World→Prop:=fun v' w'=> ∃T,ok v' T∧St B w0 w' T
theorem FnT.intro {P:Program}{f:Nat}{fn:Func}{c:Code}(rs:List ResultVar)(N:Nat){args:Array Value}{pre:World→Prop}{ok:Value→List (Nat×Obj)→Prop}(hf:P.funcs[f]? =some fn)(hb:fn.body=some c)(hr:fn.results.toList=rs)(hn:args.size+(fn.ntmps-args.size)=N)
 (h: ∀w,pre w→WP P N c (yu P rs (zX w.heap.size w ok)) (ini args) w):FnT P f args pre ok:=fun w hp=>
 (jG hf hb hr hn (h w hp)).mono fun e w' ⟨v',he,T,hv⟩=>⟨v',T,he,hv⟩
section
variable {P:Program}{N:Nat}{ops:Array Oper}{i:Nat}{r:List Nat}{K:Env→World→Prop}{ρ:Env}{w:World}{B:Nat}{w0:World}{l:List (Nat×Obj)}
theorem qD (HS:St B w0 w l)(d:Option Nat)(f:Nat)(args:Array Value){pre:World→Prop}{ok:Value→List (Nat×Obj)→Prop}(hc:FnT P f args pre ok)(hp:pre w)
 (h:opv P ops i ρ w=some (d,true,.ok (.enter f args) w)) (hd:dOK d N=true)
 (kk: ∀v T w',ok v T→St B w0 w' (T++l)→WPs P N ops K r (zm ρ d v) w'):WPs P N ops K (i::r) ρ w:=by
 obtain ⟨o,ho,rfl,hw,hr⟩:=zO h;refine WPo.run ho hw fun a ha=>?_;rw [hr,Oper.upon_enter];refine (hc w hp).mono ?_;rintro e w' ⟨v,T,rfl,hok,hT⟩;exact ⟨_,ha.put _ (zN hd) _,kk v T w' hok (HS.addAll hT)⟩
theorem zgS (HS:St B w0 w l)(d:Option Nat)(t e:TypeId)(K' bytes:Nat)(x y:Operand)(kl kc:IntKind)(n:Nat)(h:opk ops i ρ=some (d,true,.makeSlice t x y))(hd:dOK d N=true)(ht:ye P t=some (e,K',bytes))
 (hx:ev ρ x=.int kl (n:Int)) (hy:ev ρ y=.int kc (n:Int)) (hb:bytes*n≤281474976710656) (hm:n≤maxLen)
 (kk: ∀b cur w',St B w0 w' ((b,.cells cur e (0,0))::l)→cur.size=n*K'→WPs P N ops K r (zm ρ d (.slice (some ⟨b,0,none⟩) n n)) w'):WPs P N ops K (i::r) ρ w:=by
 obtain ⟨o,ho,rfl,hw,hop⟩:=zD h;obtain ⟨it,z',hu,hi,hz',hsz,hby,hzs,h0⟩:=qb ht;have hml:n≤0x7fffffffffffffff:=by have:=hm;simp only [maxLen] at this;omega
 have hbi:(it.bytes:Int)*(n:Int)≤281474976710656:=by
  rw [hby,←Int.natCast_mul];omega
 have hr:=run_make (P:=P) w t e it z' hu hi hz' kl kc (n:Int) (n:Int) (by omega) (by omega) hbi (by omega);simp only [Int.toNat_natCast,hsz] at hr;refine WPo.run ho hw fun a ha=>?_;have hex:(execOp (ev ρ) o).run P w=.ok (.value (.slice (some ⟨w.heap.size,0,none⟩) n n)) (w.alloc (.cells (madeCells z'.cells (n*K')) e)):=by
  unfold execOp;simp only [hop,hx,hy,Sem.run_bind,hr,Result.andThen_ok];rfl
 rw [hex,Oper.upon_value];refine ⟨_,ha.put _ (zN hd) _,kk _ _ _ (HS.alloc _) ?_⟩;unfold madeCells;simp
end
end Go.Proofs.YthonokeibcodpaaGreatDoor
namespace Go.Proofs.YthonokeibcodpaaGreatDoor
open Go Go.RowKit
set_option linter.unusedVariables false
structure Fl (α:Type) where
 K:Nat
 cs:α→List Value
 pos:0<K
 len: ∀a,(cs a).length=K
 one: ∀a,∀u∈cs a,u.oneCell'=true
section
variable {α:Type}{S:Fl α}
def cellsF (S:Fl α):List α→List Value
 | []=>[]
 | x::r=>S.cs x++cellsF S r
theorem ko: ∀L:List α,(cellsF S L).length=L.length*S.K
 | []=>by simp [cellsF]
 | x::r=>by simp only [cellsF,List.length_append,ko r,S.len,List.length_cons,Nat.succ_mul];omega
theorem um: ∀L M:List α,cellsF S (L++M)=cellsF S L++cellsF S M
 | [],M=>by simp [cellsF]
 | y::r,M=>by simp only [List.cons_append,cellsF,um r M,List.append_assoc]
theorem zc5 (x:α)(L:List α):cellsF S (L++ [x])=cellsF S L++S.cs x:=by
 rw [um];simp [cellsF]
theorem zc6: ∀L:List α,∀u∈cellsF S L,u.oneCell'=true
 | [],u,h=>by simp [cellsF] at h
 | x::r,u,h=>by
  rcases List.mem_append.1 h with q|q
  ·exact S.one x u q
  ·exact zc6 r u q
theorem za1: ∀(L:List α) (i:Nat) (x:α),L[i]? =some x→ ∀j,j<S.K→(cellsF S L)[i*S.K+j]? =(S.cs x)[j]?
 | y::r,0,x,h,j,hj=>by
  obtain rfl:y=x:=by simpa using h
  rw [Nat.zero_mul,Nat.zero_add];unfold cellsF;rw [List.getElem?_append_left (by rw [S.len];exact hj)]
 | y::r,i+1,x,h,j,hj=>by
  unfold cellsF;rw [List.getElem?_append_right (by rw [S.len,Nat.succ_mul];omega),S.len,show (i+1)*S.K+j-S.K=i*S.K+j by rw [Nat.succ_mul];omega];exact za1 r i x (by simpa using h) j hj
def jk (S:Fl α)(C:Array Value)(off:Nat)(L:List α):Prop:= ∀(i:Nat) (x:α),L[i]? =some x→off+i*S.K+S.K≤C.size∧C.extract (off+i*S.K) (off+i*S.K+S.K)=(S.cs x).toArray
theorem jk.take {C:Array Value}{off:Nat}{L:List α}(h:jk S C off L)(k:Nat):jk S C off (L.take k):=fun i x hx=>by
 rw [List.getElem?_take] at hx;split at hx
 ·exact h i x hx
 ·cases hx
theorem jk.cell {C:Array Value}{off:Nat}{L:List α}(h:jk S C off L){i:Nat}{x:α}(hx:L[i]? =some x)(j:Nat)(hj:j<S.K):C[off+i*S.K+j]? =(S.cs x)[j]? :=by
 obtain ⟨h1,h2⟩:=h i x hx;have e:(C.extract (off+i*S.K) (off+i*S.K+S.K))[j]? =C[off+i*S.K+j]? :=by
  rw [Array.getElem?_extract,if_pos (by omega)]
 rw [←e,h2];simp
theorem Rw.rowAt {cur:Array Value}{cap n:Nat}{L:List α}(h:Rw S.K cur cap n (cellsF S L)):jk S cur 0 L:=fun i x hx=>by
 have hl:=h.len;rw [ko] at hl;have hi:i<L.length:=(List.getElem?_eq_some_iff.1 hx).1;rw [Nat.zero_add];refine exE (S.len x) (fun j hj=>?_) S.pos
 rw [h.get _ (by
  rw [←hl];have:i*S.K+S.K≤L.length*S.K:=by rw [←Nat.succ_mul];exact Nat.mul_le_mul_right _ hi
  omega),za1 L i x hx j hj]
theorem Rw.lenF {cur:Array Value}{cap n:Nat}{L:List α}(h:Rw S.K cur cap n (cellsF S L)):L.length=n:=by
 have hl:=h.len;rw [ko] at hl;exact Nat.eq_of_mul_eq_mul_right S.pos hl
def yP (S:Fl α)(ty:TypeId)(p:Option Addr)(n c:Nat)(row:List (Nat×Obj))(L:List α):Prop:=(p=none∧n=0∧c=0∧row=[]∧L=[])∨∃b cur,p=some ⟨b,0,none⟩∧row=[(b,.cells cur ty (0,0))]∧Rw S.K cur c n (cellsF S L)
theorem yP.len {ty:TypeId}{p:Option Addr}{n c:Nat}{row:List (Nat×Obj)}{L:List α}(h:yP S ty p n c row L):L.length=n:=by
 rcases h with ⟨_,rfl,_,_,rfl⟩|⟨b,cur,_,_,hr⟩
 ·rfl
 ·exact hr.lenF
structure zlO (S:Fl α)(C:Array Value)(n i:Nat)(M:List α):Prop where
 sz:C.size=n*S.K
 len:M.length=i
 take:C.toList.take (i*S.K)=cellsF S M
end
namespace D2
section
variable {P:Program}{ops:Array Oper}{R:(Nat→Gh)→Env}{d:Option Nat}
variable {B:Nat}{w0:World}{E row:List (Nat×Obj)}{Y:Array Value}{ty:TypeId}{n:Nat}{K:Nat}{xs:List Value}
end
end D2
section
variable {α:Type}{S:Fl α}
theorem jk.at {C:Array Value}{off:Nat}{L:List α}(h:jk S C off L){q:Nat}{u:Value}(hq:(cellsF S L)[q]? =some u):C[off+q]? =some u:=by
 have hlt:=(List.getElem?_eq_some_iff.1 hq).1;rw [ko] at hlt;have hK:=S.pos;have hi:q / S.K<L.length:=(Nat.div_lt_iff_lt_mul hK).2 hlt;obtain ⟨x,hx⟩:∃x,L[q / S.K]? =some x:=⟨_,List.getElem?_eq_getElem hi⟩
 have hj:=Nat.mod_lt q hK;have e:q / S.K*S.K+q%S.K=q:=Nat.div_add_mod' q S.K;have h1:=za1 L _ x hx (q%S.K) hj;have h2:=h.cell hx (q%S.K) hj;rw [e] at h1;rw [Nat.add_assoc,e] at h2;rw [h2,←h1,hq]
variable {P:Program}{ρ:Env}{w w0:World}{B:Nat}{l:List (Nat×Obj)}
theorem zgT (HS:St B w0 w l){t e bytes:Nat}{s x:Operand}{o:Oper}{j b n cap m c:Nat}{a:Addr}{cur:Array Value}{xs:List Value}{M:List α}(ht:ye P t=some (e,S.K,bytes))(ho:o.op=yp t s x)
 (hs:ev ρ s=.slice (some ⟨b,0,none⟩) n cap) (hj:l[j]? =some (b,.cells cur e (0,0))) (hr:Rw S.K cur cap n xs) (hx:ev ρ x=.slice (some a) m c) (hM:m=M.length)
 (hk:M=[]∨∃bx off C T fz,a=⟨bx,off,none⟩∧w.heap[bx]? =some (.cells C T fz)∧jk S C off M)
 (hb:(n+m)*bytes≤0x800000000000) (hm:n+m≤maxLen):∃b' cap' cur' w',(execOp (ev ρ) o).run P w=.ok (.value (.slice (some ⟨b',0,none⟩) (n+m) cap')) w'∧St B w0 w' (l.set j (b',.cells cur' e (0,0)))∧Rw S.K cur' cap' (n+m) (xs++cellsF S M):=by
 obtain ⟨it,z,hu,hi,hz,hsz,hby,hzs,h0⟩:=qb ht;have hnews: ∀q u,(cellsF S M)[q]? =some u→w.cell? (a.add q)=some u:=fun q u hq=>by
  rcases hk with rfl|⟨bx,off,C,T,fz,rfl,hh,hR⟩
  ·simp [cellsF] at hq
  ·rw [qh];simp [World.cell?,hh,hR.at hq]
 obtain ⟨v',w',hrun,hown,hgr,hnil,hblk⟩:=run_append_own_at (P:=P) w B t o.type e it z S.K bytes hu hi hz hsz hby hzs h0 _ n xs (hr.owns (HS.ge j hj) (HS.get j hj)) a m c (cellsF S M) (by rw [ko,hM]) hnews (zc6 M) hm hb HS.le;have hown':=hown;rcases hown'.2 with ⟨hv,_⟩|⟨g,cap',cur',rfl,hbg,hg,hnc,hcm,hcs,htk⟩
 ·exact absurd (hnil.1 hv).1 (by simp)
 ·have hgb:g=b∨g=w.heap.size:=by
   rcases hblk with hq|hq
   ·left;injection hq
   ·right;injection hq
  refine ⟨g,cap',cur',w',?_,HS.grown j hj hgr hgb hg,?_⟩
  ·unfold execOp;simp only [ho,yp,resolve,invoke,builtin,Sem.run_bind,Sem.run_pure,Result.andThen_ok,List.map_toArray,List.map_cons,List.map_nil,hs,hx,hrun]
  ·exact ⟨hown.1,hnc,hcm,htk,hcs⟩
variable {N:Nat}{ops:Array Oper}{i:Nat}{r:List Nat}{K:Env→World→Prop}
end
end Go.Proofs.YthonokeibcodpaaGreatDoor
namespace Go.Proofs.YthonokeibcodpaaGreatDoor
open Go Go.RowKit
set_option linter.unusedVariables false
section
variable {P:Program}{w w0:World}
end
section
variable {P:Program}{N:Nat}{ops:Array Oper}{i:Nat}{r:List Nat}{K:Env→World→Prop}{ρ:Env}{w:World}{B:Nat}{w0:World}{l:List (Nat×Obj)}
end
namespace D2
def stg:List Nat→(Nat→Bool)→Nat
 | [],_=>0
 | k::r,L=>bif L k then stg r L+1 else 0
def chn (ks:List Nat)(Q:Nat→(Nat→Gh)→World→Prop):(Nat→Bool)→(Nat→Gh)→World→Prop:=fun L g w=>Q (stg ks L) g w
theorem chn.fin {Q:Nat→(Nat→Gh)→World→Prop}{g:Nat→Gh}{w:World} : ∀ {ks:List Nat} {L:Nat→Bool},chn ks Q L g w→(∀k∈ks,L k=true)→Q ks.length g w:=by
 intro ks L h hk;have:stg ks L=ks.length:=by
  clear h
  induction ks with
  | nil=>rfl
  | cons k r ih=>
   unfold stg;rw [hk k (List.mem_cons_self ..),ih fun x hx=>hk x (List.mem_cons_of_mem _ hx)];rfl
 unfold chn at h
 rwa [this] at h
section
variable {P:Program}{ops:Array Oper}{R:(Nat→Gh)→Env}{d:Option Nat}
theorem gv_chn {V:Gh→Value}{ks:List Nat}{Q:Nat→(Nat→Gh)→World→Prop}(k j:Nat)(hN: ∀L,Now ops k L→stg ks L=j∧stg ks (put1 L k)=j+1)
 (hr: ∀g w,Q j g w→∃o,ops[k]? =some o∧o.dst=d∧Region.wanted o (zC ops (R g))=true∧Runs P (fun v w'=> ∃x,v=V x∧Q (j+1) (setN g k x) w') ((execOp (ev (R g)) o).run P w)):Gives P ops R (chn ks Q) k d V:=by
 refine gives_of fun L g w hp hNw=>?_;obtain ⟨e1,e2⟩:=hN L hNw;unfold chn at hp;rw [e1] at hp;obtain ⟨o,ho,hd,hw,hq⟩:=hr g w hp;refine ⟨o,ho,hd,.inr ⟨hw,?_⟩⟩;unfold chn;rw [e2];exact hq
variable {ρ:Env}{k:Nat}{w:World}{S:Value→World→Prop}
theorem run_new {F:Nat→Value}{ob:Obj}(h:opv P ops k ρ w=some (d,true,.ok (.value (F w.heap.size)) (w.alloc ob)))(hS:S (F w.heap.size) (w.alloc ob)):
 ∃o,ops[k]? =some o∧o.dst=d∧Region.wanted o (zC ops ρ)=true∧Runs P S ((execOp (ev ρ) o).run P w):=by
 obtain ⟨o,ho,hd,hw,hr⟩:=zO h;exact ⟨o,ho,hd,hw,by rw [hr];exact hS⟩
theorem run_ft {f:Nat}{args:Array Value}{pr:World→Prop}{ok:Value→List (Nat×Obj)→Prop}(hc:FnT P f args pr ok)(hp:pr w)(h:opv P ops k ρ w=some (d,true,.ok (.enter f args) w))(hS: ∀v T w',ok v T→St w.heap.size w w' T→S v w'):
 ∃o,ops[k]? =some o∧o.dst=d∧Region.wanted o (zC ops ρ)=true∧Runs P S ((execOp (ev ρ) o).run P w):=by
 obtain ⟨o,ho,hd,hw,hr⟩:=zO h;refine ⟨o,ho,hd,hw,?_⟩;rw [hr];refine Calls.mono (hc w hp) ?_;rintro e w' ⟨v,T,rfl,hok,hT⟩;exact ⟨v,rfl,hS v T w' hok hT⟩
theorem run_sto {t:TypeId}{x y:Operand}{b off:Nat}{C C':Array Value}{T:TypeId}{v:Value}(h:opk ops k ρ=some (none,true,.store t x y))(hx:ev ρ x=.pointer (some ⟨b,off,none⟩))(hy:ev ρ y=v)(hi:(P.info? t).map (·.size)=some v.cells.size)(h1:v.cells.all (·.oneCell')=true)
 (hh:w.heap[b]? =some (.cells C T (0,0))) (hs:off+v.cells.size≤C.size) (hC:(C.toList.take off++v.cells.toList++C.toList.drop (off+v.cells.size)).toArray=C') (hS:S undef (w.setRow b C')):
 ∃o,ops[k]? =some o∧o.dst=none∧Region.wanted o (zC ops ρ)=true∧Runs P S ((execOp (ev ρ) o).run P w):=by
 obtain ⟨o,ho,hd,hw,hop⟩:=zD h;refine ⟨o,ho,hd,hw,?_⟩;have hst:=ka (P:=P) (w:=w) hi h1 hh hs;rw [hC] at hst;have e2:(execOp (ev ρ) o).run P w=.ok .skip (w.setRow b C'):=by simp [execOp,hop,Instr.storeAt,Instr.sureAddr,hx,hy,hst]
 rw [e2];exact hS
theorem run_of {op:Op}(h:opk ops k ρ=some (d,true,op))(hr: ∀o:Oper,o.op=op→∃v w',(execOp (ev ρ) o).run P w=.ok (.value v) w'∧S v w'):
 ∃o,ops[k]? =some o∧o.dst=d∧Region.wanted o (zC ops ρ)=true∧Runs P S ((execOp (ev ρ) o).run P w):=by
 obtain ⟨o,ho,hd,hw,hop⟩:=zD h;obtain ⟨v,w',e,hS⟩:=hr o hop;exact ⟨o,ho,hd,hw,by rw [e];exact hS⟩
end
end D2
section
open D2 (Gh)
theorem D2.Now.back {ops:Array Oper}{i:Nat}{L:Nat→Bool}(h:D2.Now ops i L){a b:Nat}(hb:L b=true)(he:D2.edge ops a b=true):L a=true:=by
 cases ha:L a with
 | true=>rfl
 | false=>have:=h.2.2.no a b he ha;rw [hb] at this;cases this
theorem D2.Now.fwd {ops:Array Oper}{i:Nat}{L:Nat→Bool}(h:D2.Now ops i L){a b:Nat}(ha:L a=false)(he:D2.edge ops a b=true):L b=false:=h.2.2.no a b he ha
theorem D2.stg_no: ∀(ks:List Nat) (L:Nat→Bool) (i k:Nat),ks[i]? =some k→L k=false→D2.stg ks L≤i
 | [],_,_,_,h,_=>by simp at h
 | k::r,L,0,k',h,hk=>by
  obtain rfl:k=k':=by simpa using h
  unfold D2.stg;rw [hk];exact Nat.le_refl _
 | k::r,L,i+1,k',h,hk=>by
  have ih:=D2.stg_no r L i k' (by simpa using h) hk;unfold D2.stg;cases L k with
  | true=>exact Nat.succ_le_succ ih
  | false=>exact Nat.zero_le _
theorem D2.chn.getN {ks:List Nat}{Q:Nat→(Nat→Gh)→World→Prop}{L:Nat→Bool}{g:Nat→Gh}{w:World}{Φ:Prop}(h:D2.chn ks Q L g w)(i k:Nat)(hi:ks[i]? =some k)(hk:L k=false)(hQ: ∀j,j≤i→Q j g w→Φ):Φ:=hQ _ (D2.stg_no ks L i k hi hk) h
end
end Go.Proofs.YthonokeibcodpaaGreatDoor
namespace Go.Proofs.YthonokeibcodpaaGreatDoor
open Go Go.RowKit
set_option linter.unusedVariables false
section
variable {P:Program}{N:Nat}{Q:Exit→Env→World→Prop}{ρ:Env}{w:World}{c:Code}
def zc7:Code→Bool | .scope _=>true | _=>false
def zc8:Code→Option Nat | .label i=>some i | _=>none
theorem zgU (h:zc7 c=true):c=.scope (qf c):=by cases c<;>first | rfl | cases h
theorem zgV {i:Nat}(h:zc8 c=some i):c=.label i:=by
 cases c<;>first | (cases h;done) | (cases h;rfl)
def ng (Q:Exit→Env→World→Prop):Exit→Env→World→Prop
 | .goto _,_,_=>False
 | e,ρ,w=>Q e ρ w
theorem zgW (hc:zc7 c=true)(h:WP P N (qf c) (ng Q) ρ w):WP P N c Q ρ w:=by
 rw [zgU hc];intro a ha;refine wp_scope_straight (Go.wp_mono (h a ha) ?_);rintro e a' w' ⟨r,hr,q⟩;cases e<;>first | exact ⟨r,hr,q⟩ | exact q.elim
theorem zgX (i:Nat)(hc:zc8 c=some i)(h:Q .normal ρ w):WP P N c Q ρ w:=by rw [zgV hc];exact WP.label h
end
section
variable {P:Program}{N:Nat}{ops:Array Oper}{i:Nat}{r:List Nat}{K:Env→World→Prop}{ρ:Env}{w:World}{B:Nat}{w0:World}{l:List (Nat×Obj)}
theorem zgY {K':Nat}(HS:St B w0 w l)(d:Option Nat)(t e bytes:Nat)(s x:Operand)(j k b bx n cap c:Nat)(cur Y:Array Value)(xs:List Value)(h:opk ops i ρ=some (d,true,yp t s x))(hd:dOK d N=true)(ht:ye P t=some (e,K',bytes))
 (hs:ev ρ s=.slice (some ⟨b,0,none⟩) n cap) (hj:l[j]? =some (b,.cells cur e (0,0))) (hr:Rw K' cur cap n xs) (hx:ev ρ x=.slice (some ⟨bx,0,none⟩) 1 c) (hk:l[k]? =some (bx,.cells Y e (0,0)))
 (hY:Y.size=K') (hone: ∀u∈Y.toList,u.oneCell'=true) (hb:(n+1)*bytes≤0x800000000000) (hm:n+1≤maxLen)
 (kk: ∀b' cap' cur' w',St B w0 w' (l.set j (b',.cells cur' e (0,0)))→Rw K' cur' cap' (n+1) (xs++Y.toList)→WPs P N ops K r (zm ρ d (.slice (some ⟨b',0,none⟩) (n+1) cap')) w'):WPs P N ops K (i::r) ρ w:=by
 obtain ⟨o,ho,rfl,hw,hop⟩:=zD h;obtain ⟨b',cap',cur',w',hrun,HS',hr'⟩:=vm HS ht hop hs hj hr hx hk hY hone hb hm;refine WPo.run ho hw fun a ha=>?_;rw [hrun,Oper.upon_value];exact ⟨_,ha.put _ (zN hd) _,kk b' cap' cur' w' HS' hr'⟩
end
def putA (cur:Array Value)(off:Nat)(v:Value):Array Value:=(cur.toList.take off++v.cells.toList++cur.toList.drop (off+v.cells.size)).toArray
theorem Rw.putA {K:Nat}{cur:Array Value}{cap n:Nat}{xs:List Value}(h:Rw K cur cap n xs)(off:Nat)(v:Value)(hle:off+v.cells.size≤n*K):
 off+v.cells.size≤cur.size∧Rw K (putA cur off v) cap n (xs.take off++v.cells.toList++xs.drop (off+v.cells.size)):=by
 have hcap:n*K≤cap*K:=Nat.mul_le_mul_right _ h.le;have hsz:=h.sz;have hA:cur.toList.length=cap*K:=by rw [Array.length_toList,hsz]
 have hx:xs=cur.toList.take (n*K):=h.take.symm;have hv:v.cells.toList.length=v.cells.size:=Array.length_toList;have e1:(cur.toList.take off).length=off:=by rw [List.length_take];omega
 refine ⟨by omega,?_,h.le,h.max,?_,?_⟩
 ·rw [List.length_append,List.length_append,List.length_take,List.length_drop,h.len,hv];omega
 ·unfold Go.Proofs.YthonokeibcodpaaGreatDoor.putA;rw [List.toList_toArray,List.take_append,List.length_append,e1,hv,List.take_of_length_le (l:=cur.toList.take off++v.cells.toList) (by rw [List.length_append,e1,hv];exact hle),hx,List.take_take,Nat.min_eq_left (by omega),List.drop_take]
 ·unfold Go.Proofs.YthonokeibcodpaaGreatDoor.putA;rw [List.size_toArray,List.length_append,List.length_append,e1,List.length_drop,hv,hA];omega
theorem za2 {X Z V:List Value}{off:Nat}(hX:X.length=off)(hZ:Z.length=V.length):(X++Z).take off++V++(X++Z).drop (off+V.length)=X++V:=by
 rw [List.take_append,hX,Nat.sub_self,List.take_zero,List.append_nil,List.take_of_length_le (by omega),List.drop_append,hX,List.drop_of_length_le (by omega),List.nil_append,List.drop_of_length_le (by omega),List.append_nil]
def sS:Fl ByteArray where
 K:=1
 cs x:=[.string x]
 pos:=by decide
 len _:=rfl
 one _:=fun u hu=>by obtain rfl:=List.mem_singleton.1 hu;rfl
theorem zL {P:Program}{ρ:Env}{t e:TypeId}{K bytes:Nat}(ht:ye P t=some (e,K,bytes)){x y:Operand}{o:Oper}{kd:IntKind}{p:Option Addr}(b q n c k:Nat)(hp:p=some ⟨b,q,none⟩)(ho:o.op=.indexAddr t x y)(hx:ev ρ x=.slice p n c)(hy:ev ρ y=.int kd (k:Int))(hk:k<n):
 ∀w,(execOp (ev ρ) o).run P w=.ok (.value (.pointer (some ⟨b,q+k*K,none⟩))) w:=by
 subst hp;exact kT ht b q n c k ho hx hy hk
section
variable {α:Type}{S:Fl α}
def AtF (S:Fl α)(w:World)(p:Option Addr)(n:Nat)(L:List α):Prop:=n=L.length∧(L=[]∨∃b off C T fz,p=some ⟨b,off,none⟩∧w.heap[b]? =some (.cells C T fz)∧jk S C off L)
theorem AtF.call {w w':World}{p:Option Addr}{n:Nat}{L:List α}(h:AtF S w p n L)(hb:Below w.heap.size w w'):AtF S w' p n L:=by
 obtain ⟨h1,h2⟩:=h;refine ⟨h1,h2.imp id ?_⟩;rintro ⟨b,off,C,T,fz,e,hh,hr⟩;exact ⟨b,off,C,T,fz,e,by rw [hb.block b (zv hh)];exact hh,hr⟩
theorem AtF.take {w:World}{p:Option Addr}{n:Nat}{L:List α}(h:AtF S w p n L)(k:Nat)(hk:k≤n):AtF S w p k (L.take k):=by
 obtain ⟨h1,h2⟩:=h;refine ⟨by rw [List.length_take];omega,?_⟩;rcases h2 with rfl|⟨b,off,C,T,fz,e,hh,hr⟩
 ·exact .inl (by simp)
 ·exact .inr ⟨b,off,C,T,fz,e,hh,hr.take k⟩
theorem yP.atF {ty:TypeId}{p:Option Addr}{n c:Nat}{row:List (Nat×Obj)}{L:List α}(h:yP S ty p n c row L){B:Nat}{w0 w:World}{l:List (Nat×Obj)}(hS:St B w0 w l)(hl: ∀e∈row,e∈l):AtF S w p n L:=by
 rcases h with ⟨rfl,rfl,rfl,rfl,rfl⟩|⟨b,cur,rfl,rfl,hr⟩
 ·exact ⟨rfl,.inl rfl⟩
 ·exact ⟨hr.lenF.symm,.inr ⟨b,0,cur,ty,(0,0),rfl,(hS.own _ (hl _ (List.mem_singleton.2 rfl))).2,hr.rowAt⟩⟩
def yQ (p:Option Addr)(n c:Nat):Prop:=(p=none∧n=0∧c=0)∨((∃a,p=some a)∧n≤c)
theorem yQ.cut {p:Option Addr}{n c k:Nat}(h:yQ p n c)(hk:k≤n):yQ p k c:=by
 rcases h with ⟨rfl,rfl,rfl⟩|⟨h1,h2⟩
 ·exact .inl ⟨rfl,by omega,rfl⟩
 ·exact .inr ⟨h1,by omega⟩
theorem za3 {P:Program}{ρ:Env}{t e:TypeId}{size bytes:Nat}(ht:ye P t=some (e,size,bytes)){x y:Operand}{o:Oper}{kd:IntKind}{p:Option Addr}{n c k:Nat}(h:yQ p n c)(hk:k≤n)(ho:o.op=.slice t x none (some y) none)(hx:ev ρ x=.slice p n c)(hy:ev ρ y=.int kd (k:Int)):
 ∀w,(execOp (ev ρ) o).run P w=.ok (.value (.slice p k c)) w:=fun w=>by
 rcases h with ⟨rfl,rfl,rfl⟩|⟨⟨a,rfl⟩,h2⟩
 ·obtain rfl:k=0:=by omega
  obtain ⟨it,z,hu,hi,hz,hsz,hby,hzs,h0⟩:=qb ht;have hS:(sizeOf e).run P w=.ok size w:=by simp [sizeOf,typeInfo,hi,hsz]
  unfold execOp;simp [ho,hx,hy,Instr.sliceAt,Instr.slice,Instr.sliceBounds,Instr.sliceBound,asIntOf,run_underlying hu,hS]
 ·exact zgR ht a n c k ho hx hy (by omega) w
theorem zgZ {P:Program}{ρ:Env}{w w0:World}{B:Nat}{bx n c mc e:Nat}{p:Option Addr}{row Z:List (Nat×Obj)}{M0:List α}{y:α}(HS:St B w0 w ((bx,.cells (S.cs y).toArray e (0,0))::(row++Z)))(hrow:yP S e p n c row M0)
 {t bytes:Nat} {s x:Operand} {o:Oper} (ht:ye P t=some (e,S.K,bytes)) (ho:o.op=yp t s x) (hs:ev ρ s=.slice p n c) (hx:ev ρ x=.slice (some ⟨bx,0,none⟩) 1 mc) (hb:(n+1)*bytes≤0x800000000000) (hm:n+1≤maxLen):
 ∃b' cap' cur' w',(execOp (ev ρ) o).run P w=.ok (.value (.slice (some ⟨b',0,none⟩) (n+1) cap')) w'∧St B w0 w' ((b',.cells cur' e (0,0))::Z)∧Rw S.K cur' cap' (n+1) (cellsF S (M0++ [y])):=by
 have hY:(S.cs y).toArray.size=S.K:=by rw [List.size_toArray,S.len]
 have hone: ∀u∈(S.cs y).toArray.toList,u.oneCell'=true:=fun u hu=>S.one y u (by simpa using hu);rcases hrow with ⟨rfl,rfl,rfl,rfl,rfl⟩ | ⟨b,cur,rfl,rfl,hrw⟩
 ·obtain ⟨b',cap',cur',w',hrun,HS',hr'⟩:=ul (k:=0) HS ht ho hs hx rfl hY hone hb;refine ⟨b',cap',cur',w',hrun,HS'.sub (List.Sublist.cons_cons _ (List.sublist_cons_self ..)),?_⟩;rw [zc5];exact hr'
 ·obtain ⟨b',cap',cur',w',hrun,HS',hr'⟩:=vm (j:=1) (k:=0) HS ht ho hs rfl hrw hx rfl hY hone hb hm;refine ⟨b',cap',cur',w',hrun,HS'.sub (List.sublist_cons_self ..),?_⟩;rw [zc5];exact hr'
end
section
variable {P:Program}{N:Nat}{ops:Array Oper}{K:Env→World→Prop}{ρ:Env}{w w0:World}{i B:Nat}{r:List Nat}{l:List (Nat×Obj)}
theorem vn (HS:St B w0 w l)(d:Option Nat)(V:Nat→Value)(C:Array Value)(T:TypeId)(h:opv P ops i ρ w=some (d,true,.ok (.value (V w.heap.size)) (w.alloc (.cells C T (0,0)))))(hd:dOK d N=true)
 (kk: ∀b w',St B w0 w' ((b,.cells C T (0,0))::l)→WPs P N ops K r (zm ρ d (V b)) w'):WPs P N ops K (i::r) ρ w:=by
 obtain ⟨o,ho,rfl,hw,hr⟩:=zO h;refine WPo.run ho hw fun a ha=>?_;rw [hr,Oper.upon_value];exact ⟨_,ha.put _ (zN hd) _,kk w.heap.size _ (HS.alloc _)⟩
theorem vp {α:Type}{S:Fl α}{nb n c:Nat}{p:Option Addr}{row Z:List (Nat×Obj)}{M:List α}{y:α}(d:Option Nat)(t e bytes:Nat)(s x:Operand)(HS:St B w0 w ((nb,.cells (S.cs y).toArray e (0,0))::(row++Z)))(hrow:yP S e p n c row M)
 (h:opk ops i ρ=some (d,true,yp t s x)) (hd:dOK d N=true) (ht:ye P t=some (e,S.K,bytes)) (hs:ev ρ s=.slice p n c) (hx:ev ρ x=.slice (some ⟨nb,0,none⟩) 1 1) (hb:(n+1)*bytes≤0x800000000000) (hm:n+1≤maxLen)
 (kk: ∀b' cap' cur' w',St B w0 w' ((b',.cells cur' e (0,0))::Z)→Rw S.K cur' cap' (n+1) (cellsF S (M++ [y]))→WPs P N ops K r (zm ρ d (.slice (some ⟨b',0,none⟩) (n+1) cap')) w'):WPs P N ops K (i::r) ρ w:=by
 obtain ⟨o,ho,rfl,hw,hop⟩:=zD h;obtain ⟨b',cap',cur',w',hrun,HS',hr'⟩:=zgZ HS hrow ht hop hs hx hb hm;refine WPo.run ho hw fun a ha=>?_;rw [hrun,Oper.upon_value];exact ⟨_,ha.put _ (zN hd) _,kk b' cap' cur' w' HS' hr'⟩
end
theorem D2.run_val {P:Program}{ops:Array Oper}{d:Option Nat}{ρ:Env}{k:Nat}{w:World}{S:Value→World→Prop}{v:Value}(h:opv P ops k ρ w=some (d,true,.ok (.value v) w))(hS:S v w):
 ∃o,ops[k]? =some o∧o.dst=d∧Region.wanted o (zC ops ρ)=true∧D2.Runs P S ((execOp (ev ρ) o).run P w):=by
 obtain ⟨o,ho,hd,hw,hr⟩:=zO h;exact ⟨o,ho,hd,hw,by rw [hr];exact hS⟩
end Go.Proofs.YthonokeibcodpaaGreatDoor
namespace Go.Proofs.YthonokeibcodpaaGreatDoor
open Go Go.ChangeShapes Go.WideShapes Go.ChangeAt Go.RowKit
set_option linter.unusedVariables false
set_option maxRecDepth 100000
theorem zg0 {C:Array Value}{o m:Nat}{l:List Value}(hl:l.length=m)(hm:0<m)(h: ∀j,j<m→C[o+j]? =l[j]?):o+m≤C.size∧C.extract o (o+m)=l.toArray:=by
 have hs:o+m≤C.size:=by
  have h1:=h (m-1) (by omega);rw [List.getElem?_eq_getElem (by omega)] at h1;have:=(Array.getElem?_eq_some_iff.1 h1).1;omega
 refine ⟨hs,?_⟩;apply Array.toList_inj.1;apply List.ext_getElem?;intro i;rw [Array.getElem?_toList,Array.getElem?_extract,List.toList_toArray];by_cases hi:i<m
 ·rw [if_pos (by omega),h i hi]
 ·rw [if_neg (by omega),List.getElem?_eq_none (by omega)]
section
variable {H:Type}{enc:TypeId×Value→H}{W:World}{sp:Nat→Bool}{held:Bool}
theorem zg1 {a:Addr}{v:Value}(h:W.cell? a=some v):a=⟨a.block,a.off,none⟩∧∃C T fz,W.heap[a.block]? =some (.cells C T fz)∧C[a.off]? =some v:=by
 obtain ⟨b,o,sp⟩:=a;unfold World.cell? at h;split at h
 ·rename_i C T fz hh
  cases sp with
  | none=>simp at h;exact ⟨rfl,C,T,fz,hh,h⟩
  | some x=>simp at h
 ·cases h
theorem zg2 {b o:Nat}{C:Array Value}{T:TypeId}{fz:Nat×Nat}{v:Option Value}(hh:W.heap[b]? =some (.cells C T fz))(h:W.cell? ⟨b,o,none⟩=v):C[o]? =v:=by
 unfold World.cell? at h;simp only [hh] at h;simpa using h
theorem za4 {a:Int}(h:(Lit.int .u64 a).wf=true):∃n:Nat,n<0x10000000000000000∧a=((n:Nat):Int):=by
 have h2:0≤a∧a<0x10000000000000000:=by
  simp [Lit.wf,IntKind.min,IntKind.max,IntKind.signed,IntKind.bits] at h;omega
 exact ⟨a.toNat,by omega,by omega⟩
theorem za5 {α:Type}{S:Fl α}{ok:α→Prop}{st et:TypeId}(hst:Tryz.prog.underlying st=some (.slice et))(hc:Tryz.prog.cellsOf et=S.K)(hone: ∀(fuel:Nat) (cs:List Value) (x:DataW H×List MemPlace),DataW.trod enc Tryz.prog W 0 sp held fuel et cs=some x→∃a:α,cs=S.cs a∧ok a)
 {fuel:Nat} {c0:Value} {x:DataW H×List MemPlace} (hf:DataW.trod enc Tryz.prog W 0 sp held fuel st [c0]=some x):
 ∃(q:Option Addr) (n c:Nat) (L:List α),c0=.slice q n c∧yQ q n c∧(∀x∈L,ok x)∧AtF S W q n L:=by
 rcases DataW.trod_slice hst hf with ⟨hc,hx⟩|⟨a,len0,cap0,elems,rest,n',rfl,hc',hx,_,hlc,hcm,hel,hels,_,_⟩
 ·obtain rfl:c0=.slice none 0 0:=by simpa using hc
  exact ⟨none,0,0,[],rfl,.inl ⟨rfl,rfl,rfl⟩,(fun _ h=>nomatch h),rfl,.inl rfl⟩
 ·obtain rfl:c0=.slice (some a) len0 cap0:=by simpa using hc'
  have rows: ∀q,q≤len0→∃L:List α,L.length=q∧(∀x∈L,ok x)∧ ∀(i:Nat) (z:α),L[i]? =some z→W.cells? 0 (a.add (i*S.K)) S.K=some (S.cs z):=by
   intro q
   induction q with
   | zero=>exact fun _=>⟨[],rfl,(fun _ h=>nomatch h),fun i z h=>by simp at h⟩
   | succ q ihq=>
    intro hq;obtain ⟨L,hL,hk,hcc⟩:=ihq (by omega);have hi:=hels q (by omega);rw [hc] at hi;have hlt:q<elems.length:=by omega
    rw [List.getElem?_eq_getElem hlt] at hi;obtain ⟨cs',hcs,ht⟩:=Option.bind_eq_some_iff.1 hi;obtain ⟨nd,rfl,hnd⟩:=hone n' cs' _ ht;refine ⟨L++ [nd],by simp [hL],fun x hx=>?_,fun i z hz=>?_⟩
    ·rcases List.mem_append.1 hx with hx|hx
     ·exact hk x hx
     ·rw [List.mem_singleton.1 hx];exact hnd
    by_cases hiq:i<L.length
    ·rw [List.getElem?_append_left hiq] at hz;exact hcc i z hz
    ·rw [List.getElem?_append_right (by omega)] at hz;have:i-L.length=0:=by
      have:=(List.getElem?_eq_some_iff.1 hz).1;simp at this;omega
     rw [this] at hz;simp at hz;subst hz;obtain rfl:i=q:=by omega
     exact hcs
  obtain ⟨L,hL,hk,hcl⟩:=rows len0 (Nat.le_refl _);refine ⟨some a,len0,cap0,L,rfl,.inr ⟨⟨a,rfl⟩,hlc⟩,hk,hL.symm,?_⟩;cases L with
  | nil=>exact .inl rfl
  | cons z0 L0=>
   have f0:=(World.cells?_some (hcl 0 z0 rfl)).2.2 0 S.pos;rw [Nat.zero_mul] at f0;have e0:(a.add 0).add 0=a:=rfl;rw [e0,List.getElem?_eq_getElem (by rw [S.len];exact S.pos)] at f0;obtain ⟨ea,C,T,fz,hh,hC0⟩:=zg1 f0;refine .inr ⟨a.block,a.off,C,T,fz,congrArg some ea,hh,fun i z hz=>?_⟩;refine zg0 (S.len z) S.pos fun j hj=>?_;have h9:=(World.cells?_some (hcl i z hz)).2.2 j hj;rw [ea,qh,qh] at h9;exact zg2 hh h9
end
end Go.Proofs.YthonokeibcodpaaGreatDoor
namespace Go.Proofs.YthonokeibcodpaaGreatDoor
open Go.RowKit
def Wd (x:Int):Prop:=0≤x∧x<0x10000000000000000
def Bt (c:Int):Prop:=0≤c∧c≤1
def w0 (n:Nat):Int:=((n%0x10000000000000000:Nat):Int)
def w1 (n:Nat):Int:=((n / 0x10000000000000000%0x10000000000000000:Nat):Int)
def w2 (n:Nat):Int:=((n / 0x100000000000000000000000000000000%0x10000000000000000:Nat):Int)
def w3 (n:Nat):Int:=((n / 0x1000000000000000000000000000000000000000000000000%0x10000000000000000:Nat):Int)
def big:Nat:=0x10000000000000000000000000000000000000000000000000000000000000000
def mk4 (a b c d:Int):Nat:=(a+0x10000000000000000*b+0x100000000000000000000000000000000*c+0x1000000000000000000000000000000000000000000000000*d).toNat
theorem wd0 (n:Nat):Wd (w0 n):=by unfold Wd w0;omega
theorem wd1 (n:Nat):Wd (w1 n):=by unfold Wd w1;omega
theorem wd2 (n:Nat):Wd (w2 n):=by unfold Wd w2;omega
theorem wd3 (n:Nat):Wd (w3 n):=by unfold Wd w3;omega
theorem vq {a b c d:Int}(ha:Wd a)(hb:Wd b)(hc:Wd c)(hd:Wd d):mk4 a b c d<big:=by
 unfold Wd at*;unfold mk4 big;omega
theorem un {a b c d:Int}(ha:Wd a)(hb:Wd b)(hc:Wd c)(hd:Wd d):w0 (mk4 a b c d)=a:=by
 unfold Wd at*;unfold mk4 w0;omega
theorem uo {a b c d:Int}(ha:Wd a)(hb:Wd b)(hc:Wd c)(hd:Wd d):w1 (mk4 a b c d)=b:=by
 unfold Wd at*;unfold mk4 w1;omega
theorem uq {a b c d:Int}(ha:Wd a)(hb:Wd b)(hc:Wd c)(hd:Wd d):w2 (mk4 a b c d)=c:=by
 unfold Wd at*;unfold mk4 w2;omega
theorem ur {a b c d:Int}(ha:Wd a)(hb:Wd b)(hc:Wd c)(hd:Wd d):w3 (mk4 a b c d)=d:=by
 unfold Wd at*;unfold mk4 w3;omega
theorem jM (n:Nat)(h:n<big):(n:Int)=w0 n+0x10000000000000000*w1 n+0x100000000000000000000000000000000*w2 n+0x1000000000000000000000000000000000000000000000000*w3 n:=by
 unfold big at h;unfold w0 w1 w2 w3;omega
theorem zg3 {a b c d:Int}(ha:Wd a)(hb:Wd b)(hc:Wd c)(hd:Wd d):∃n:Nat,n<big∧a=w0 n∧b=w1 n∧c=w2 n∧d=w3 n:=
 ⟨mk4 a b c d,vq ha hb hc hd,(un ha hb hc hd).symm,(uo ha hb hc hd).symm,(uq ha hb hc hd).symm,(ur ha hb hc hd).symm⟩
theorem zc9 {a b c d:Int}{n:Nat}(ha:Wd a)(hb:Wd b)(hc:Wd c)(hd:Wd d)
 (h:(n:Int)=a+0x10000000000000000*b+0x100000000000000000000000000000000*c+0x1000000000000000000000000000000000000000000000000*d):
 a=w0 n∧b=w1 n∧c=w2 n∧d=w3 n:=by
 have e:n=mk4 a b c d:=by unfold mk4;omega
 subst e;exact ⟨(un ha hb hc hd).symm,(uo ha hb hc hd).symm,(uq ha hb hc hd).symm,(ur ha hb hc hd).symm⟩
theorem zg4 {n m:Nat}(hn:n<big)(hm:m<big)(h0:w0 n=w0 m)(h1:w1 n=w1 m)(h2:w2 n=w2 m)(h3:w3 n=w3 m):n=m:=by
 have a:=jM n hn;have b:=jM m hm;rw [h0,h1,h2,h3] at a;omega
def kq (x y c s d:Int):Prop:=x+y+c=s+0x10000000000000000*d∧Wd s∧Bt d
def kt (x y c s d:Int):Prop:=x-y-c=s-0x10000000000000000*d∧Wd s∧Bt d
def ov (a b:Nat):Bool:=decide (big≤a+b)
def sm (a b:Nat):Nat:=(a+b)%big
def lo (a b:Nat):Bool:=decide (a<b)
def df (a b:Nat):Nat:=(a+big-b)%big
theorem zg5 {A B:Nat}(hA:A<big)(hB:B<big){s0 c0 s1 c1 s2 c2 s3 c3:Int}(h0:kq (w0 A) (w0 B) 0 s0 c0)(h1:kq (w1 A) (w1 B) c0 s1 c1)(h2:kq (w2 A) (w2 B) c1 s2 c2)(h3:kq (w3 A) (w3 B) c2 s3 c3):
 (s0=w0 (sm A B)∧s1=w1 (sm A B)∧s2=w2 (sm A B)∧s3=w3 (sm A B))∧(c3==1)=ov A B:=by
 have a:=jM A hA;have b:=jM B hB;obtain ⟨e0,d0,_⟩:=h0;obtain ⟨e1,d1,_⟩:=h1;obtain ⟨e2,d2,_⟩:=h2;obtain ⟨e3,d3,k3⟩:=h3;have key:(A:Int)+B=s0+0x10000000000000000*s1+0x100000000000000000000000000000000*s2+0x1000000000000000000000000000000000000000000000000*s3+0x10000000000000000000000000000000000000000000000000000000000000000*c3:=by omega
 have lt:=vq d0 d1 d2 d3;have em:((mk4 s0 s1 s2 s3:Nat):Int)=s0+0x10000000000000000*s1+0x100000000000000000000000000000000*s2+0x1000000000000000000000000000000000000000000000000*s3:=by
  unfold Wd at*;unfold mk4;omega
 constructor
 ·refine zc9 d0 d1 d2 d3 ?_;rw [←em];unfold sm;unfold big at*;unfold Bt at*;omega
 ·unfold ov;rw [Bool.eq_iff_iff];simp only [beq_iff_eq,decide_eq_true_eq];unfold big at*;unfold Bt at*;omega
theorem zg6 {A B:Nat}(hA:A<big)(hB:B<big){s0 c0 s1 c1 s2 c2 s3 c3:Int}(h0:kt (w0 A) (w0 B) 0 s0 c0)(h1:kt (w1 A) (w1 B) c0 s1 c1)(h2:kt (w2 A) (w2 B) c1 s2 c2)(h3:kt (w3 A) (w3 B) c2 s3 c3):
 (s0=w0 (df A B)∧s1=w1 (df A B)∧s2=w2 (df A B)∧s3=w3 (df A B))∧(c3==1)=lo A B:=by
 have a:=jM A hA;have b:=jM B hB;obtain ⟨e0,d0,_⟩:=h0;obtain ⟨e1,d1,_⟩:=h1;obtain ⟨e2,d2,_⟩:=h2;obtain ⟨e3,d3,k3⟩:=h3;have key:(A:Int)-B=s0+0x10000000000000000*s1+0x100000000000000000000000000000000*s2+0x1000000000000000000000000000000000000000000000000*s3-0x10000000000000000000000000000000000000000000000000000000000000000*c3:=by omega
 have lt:=vq d0 d1 d2 d3;have em:((mk4 s0 s1 s2 s3:Nat):Int)=s0+0x10000000000000000*s1+0x100000000000000000000000000000000*s2+0x1000000000000000000000000000000000000000000000000*s3:=by
  unfold Wd at*;unfold mk4;omega
 constructor
 ·refine zc9 d0 d1 d2 d3 ?_;rw [←em];unfold df;unfold big at*;unfold Bt at*;omega
 ·unfold lo;rw [Bool.eq_iff_iff];simp only [beq_iff_eq,decide_eq_true_eq];unfold big at*;unfold Bt at*;omega
end Go.Proofs.YthonokeibcodpaaGreatDoor
namespace Go.Proofs.Ec
set_option linter.unusedVariables false
set_option linter.unusedSectionVars false
section
variable {F:Type}[Lean.Grind.Field F]
structure zlP (b k m x1 y1 x2 y2 x3 y3:F):Prop where
 e1:x1+x2+x3=k*k
 e2:x1*x2+x1*x3+x2*x3= -2*k*m
 e3:x1*x2*x3=m*m-b
 l1:y1=k*x1+m
 l2:y2=k*x2+m
 l3:y3=k*x3+m
inductive Pt (F:Type) where
 | zero
 | pt (x y:F)
 deriving DecidableEq
variable [DecidableEq F]
end
end Go.Proofs.Ec
namespace Go.Proofs.YthonokeibcodpaaGreatDoor
set_option linter.unusedVariables false
def PrP (p:Nat):Prop:=1<p∧ ∀d,d∣p→d=1∨d=p
theorem zg7 {n:Nat} : ∀k,(∃d,1<d∧d≤k∧d∣n)→∃r,1<r∧r∣n∧ ∀d,1<d→d∣n→r≤d
 | 0,⟨d,h1,h2,_⟩=>by omega
 | k+1,⟨d,h1,h2,h3⟩=>by
  by_cases h:∃d,1<d∧d≤k∧d∣n
  ·exact zg7 k h
  ·have hd:d=k+1:=by
    rcases Nat.lt_or_ge k d with h' | h'
    ·omega
    ·exact absurd ⟨d,h1,h',h3⟩ h
   refine ⟨d,h1,h3,fun e he hen=>?_⟩;rcases Nat.lt_or_ge e d with h' | h'
   ·exact absurd ⟨e,he,by omega,hen⟩ h
   ·exact h'
def row (a r:Nat):Nat→List Nat
 | 0=>[]
 | n+1=>a*(n+1)%r::row a r n
end Go.Proofs.YthonokeibcodpaaGreatDoor
namespace Go.Proofs.Zm
open Go.Proofs.YthonokeibcodpaaGreatDoor
set_option linter.unusedVariables false
class PrM (M:Nat):Prop where
 pr:PrP M
 two:2<M
structure Zm (M:Nat) where
 v:Nat
 lt:v<M
section
variable {M:Nat}[hM:PrM M]
end
end Go.Proofs.Zm
namespace Go.Proofs.YthonokeibcodpaaGreatDoor
open Go.ChangeShapes Go.WideShapes Go.ChangeAt Go.RowKit
set_option linter.unusedVariables false
@[reducible] def uv (n:Nat):Value:=.agg #[.int .u64 (w0 n),.int .u64 (w1 n),.int .u64 (w2 n),.int .u64 (w3 n)]
theorem ku {x y c:Int}(hx:Wd x)(hy:Wd y)(hc:Bt c):∃s d,(∀w,(callFunc 121 #[.int .u64 x,.int .u64 y,.int .u64 c]).run Tryz.prog w=.ok (.value (.tuple #[.int .u64 s,.int .u64 d])) w)∧kq x y c s d:=by
 obtain ⟨hx0,hx1⟩:=hx;obtain ⟨hy0,hy1⟩:=hy;obtain ⟨hc0,hc1⟩:=hc;obtain ⟨X,rfl⟩:=Int.eq_ofNat_of_zero_le hx0;obtain ⟨Y,rfl⟩:=Int.eq_ofNat_of_zero_le hy0;obtain ⟨C,rfl⟩:=Int.eq_ofNat_of_zero_le hc0;refine ⟨(((X+Y+C)%0x10000000000000000:Nat):Int),(((X+Y+C) / 0x10000000000000000:Nat):Int),fun w=>?_,?_⟩
 ·rw [run_callFunc_extern Tryz.func121 (by kernel_rfl) (by kernel_rfl) (by kernel_rfl) (e:=add64Entry) (by kernel_rfl),run_add64 X Y C (by omega) (by omega) (by omega) (by omega)];simp only [Result.andThen];congr 5<;>omega
 ·unfold kq Wd Bt;omega
theorem us {x y c:Int}(hx:Wd x)(hy:Wd y)(hc:Bt c):∃s d,(∀w,(callFunc 118 #[.int .u64 x,.int .u64 y,.int .u64 c]).run Tryz.prog w=.ok (.value (.tuple #[.int .u64 s,.int .u64 d])) w)∧kt x y c s d:=by
 obtain ⟨hx0,hx1⟩:=hx;obtain ⟨hy0,hy1⟩:=hy;obtain ⟨hc0,hc1⟩:=hc;obtain ⟨X,rfl⟩:=Int.eq_ofNat_of_zero_le hx0;obtain ⟨Y,rfl⟩:=Int.eq_ofNat_of_zero_le hy0;obtain ⟨C,rfl⟩:=Int.eq_ofNat_of_zero_le hc0;refine ⟨(((X+0x10000000000000000-Y-C)%0x10000000000000000:Nat):Int),((if X<Y+C then 1 else 0:Nat):Int),fun w=>?_,?_⟩
 ·rw [run_callFunc_extern Tryz.func118 (by kernel_rfl) (by kernel_rfl) (by kernel_rfl) (e:=sub64Entry) (by kernel_rfl),run_sub64 X Y C (by omega)];rfl
 ·unfold kt Wd Bt;split<;>omega
theorem ix0 (x0 x1 x2 x3:Value)(w:World):(Instr.index 55 (.agg #[x0,x1,x2,x3]) (.int .i64 0)).run Tryz.prog w=.ok x0 w:=by kernel_rfl
theorem ix1 (x0 x1 x2 x3:Value)(w:World):(Instr.index 55 (.agg #[x0,x1,x2,x3]) (.int .i64 1)).run Tryz.prog w=.ok x1 w:=by kernel_rfl
theorem ix2 (x0 x1 x2 x3:Value)(w:World):(Instr.index 55 (.agg #[x0,x1,x2,x3]) (.int .i64 2)).run Tryz.prog w=.ok x2 w:=by kernel_rfl
theorem ix3 (x0 x1 x2 x3:Value)(w:World):(Instr.index 55 (.agg #[x0,x1,x2,x3]) (.int .i64 3)).run Tryz.prog w=.ok x3 w:=by kernel_rfl
theorem zg8 (n:Int)(w:World):Calls Tryz.prog 120 #[.int .u64 n] w fun e w'=>e=.returned (.agg #[.int .u64 n,wZ,wZ,wZ])∧Below w.heap.size w w':=by
 go_enter Tryz.func120,Tryz.ntmps120
 go_wp2
 go_returns
 exact ⟨rfl,by go_grown⟩
theorem zg9 (A B:Nat)(hA:A<big)(hB:B<big)(w:World):Calls Tryz.prog 115 #[uv A,uv B] w fun e w'=>e=.returned (.tuple #[uv (sm A B),.bool (ov A B)])∧Below w.heap.size w w':=by
 obtain ⟨s0,c0,r0,e0⟩:=ku (wd0 A) (wd0 B) (c:=0) (by unfold Bt;omega);obtain ⟨s1,c1,r1,e1⟩:=ku (wd1 A) (wd1 B) e0.2.2;obtain ⟨s2,c2,r2,e2⟩:=ku (wd2 A) (wd2 B) e1.2.2;obtain ⟨s3,c3,r3,e3⟩:=ku (wd3 A) (wd3 B) e2.2.2;obtain ⟨⟨q0,q1,q2,q3⟩,q4⟩:=zg5 hA hB e0 e1 e2 e3;clear e0 e1 e2 e3;unfold uv;rw [←q0,←q1,←q2,←q3,←q4];clear q0 q1 q2 q3 q4;have i0:=ix0;have i1:=ix1;have i2:=ix2;have i3:=ix3
 go_enter Tryz.func115,Tryz.ntmps115
 go_wp2
 go_rounds 5
 go_returns
 exact ⟨rfl,by go_grown⟩
theorem zha (A B:Nat)(hA:A<big)(hB:B<big)(w:World):Calls Tryz.prog 113 #[uv A,uv B] w fun e w'=>e=.returned (.tuple #[uv (df A B),.bool (lo A B)])∧Below w.heap.size w w':=by
 obtain ⟨s0,c0,r0,e0⟩:=us (wd0 A) (wd0 B) (c:=0) (by unfold Bt;omega);obtain ⟨s1,c1,r1,e1⟩:=us (wd1 A) (wd1 B) e0.2.2;obtain ⟨s2,c2,r2,e2⟩:=us (wd2 A) (wd2 B) e1.2.2;obtain ⟨s3,c3,r3,e3⟩:=us (wd3 A) (wd3 B) e2.2.2;obtain ⟨⟨q0,q1,q2,q3⟩,q4⟩:=zg6 hA hB e0 e1 e2 e3;clear e0 e1 e2 e3;unfold uv;rw [←q0,←q1,←q2,←q3,←q4];clear q0 q1 q2 q3 q4;have i0:=ix0;have i1:=ix1;have i2:=ix2;have i3:=ix3
 go_enter Tryz.func113,Tryz.ntmps113
 go_wp2
 go_rounds 5
 go_returns
 exact ⟨rfl,by go_grown⟩
def mH (x y:Int):Int:=x*y / 0x10000000000000000
def mL (x y:Int):Int:=x*y%0x10000000000000000
theorem zhb (x y:Nat)(hx:x<0x10000000000000000)(hy:y<0x10000000000000000)(w:World):
 Calls Tryz.prog 126 #[.int .u64 x,.int .u64 y] w fun e w'=>e=.returned (.tuple #[.int .u64 ((x*y / 0x10000000000000000:Nat):Int),.int .u64 ((x*y%0x10000000000000000:Nat):Int)])∧w=w':=by
 obtain ⟨bd,bt,bw,hhi⟩:=Lib.mul64_hi x y hx hy;have ba:=Lib.half_mul_le (a:=x / 4294967296) (b:=y / 4294967296) (by omega) (by omega);have bb:=Lib.half_mul_le (a:=x / 4294967296) (b:=y%4294967296) (by omega) (by omega);have bc:=Lib.half_mul_le (a:=x%4294967296) (b:=y / 4294967296) (by omega) (by omega);have ba':x / 4294967296*(y / 4294967296)<0x10000000000000000:=by omega
 have bb':x / 4294967296*(y%4294967296)<0x10000000000000000:=by omega
 have bc':x%4294967296*(y / 4294967296)<0x10000000000000000:=by omega
 have bh1:x / 4294967296*(y / 4294967296)+(x / 4294967296*(y%4294967296)+x%4294967296*(y%4294967296) / 4294967296) / 4294967296<0x10000000000000000:=by omega
 have bh:x / 4294967296*(y / 4294967296)+(x / 4294967296*(y%4294967296)+x%4294967296*(y%4294967296) / 4294967296) / 4294967296+((x / 4294967296*(y%4294967296)+x%4294967296*(y%4294967296) / 4294967296)%4294967296+x%4294967296*(y / 4294967296)) / 4294967296<0x10000000000000000:=by omega
 go_enter Tryz.func126,Tryz.ntmps126
 go_wp2
 simp only [Mul64.maskN x hx,Mul64.maskN y hy,Mul64.divN,Mul64.mulN,Mul64.addN,Mul64.wrapN _ bd,Mul64.wrapN _ bb',Mul64.wrapN _ bt,Mul64.maskN _ bt,Mul64.wrapN _ bc',Mul64.wrapN _ bw,Mul64.wrapN _ ba',Mul64.wrapN _ bh1,Mul64.wrapN _ bh,Mul64.wrapM (x*y)];rw [hhi]
 go_ret2
 exact ⟨rfl,rfl⟩
theorem yI {x y:Int}(hx:Wd x)(hy:Wd y)(w:World):
 Calls Tryz.prog 126 #[.int .u64 x,.int .u64 y] w fun e w'=>e=.returned (.tuple #[.int .u64 (mH x y),.int .u64 (mL x y)])∧w=w':=by
 obtain ⟨hx0,hx1⟩:=hx;obtain ⟨hy0,hy1⟩:=hy;obtain ⟨X,rfl⟩:=Int.eq_ofNat_of_zero_le hx0;obtain ⟨Y,rfl⟩:=Int.eq_ofNat_of_zero_le hy0;have e1:mH X Y=((X*Y / 0x10000000000000000:Nat):Int):=by unfold mH;omega
 have e2:mL X Y=((X*Y%0x10000000000000000:Nat):Int):=by unfold mL;omega
 rw [e1,e2];exact zhb X Y (by omega) (by omega) w
def yD (x y p c s d:Int):Prop:=x*y+p+c=s+0x10000000000000000*d∧Wd s∧Wd d
theorem ql {x y p c:Int}(hx:Wd x)(hy:Wd y)(hp:Wd p)(hc:Wd c):∃l1 o1 l2 o2,
 (∀w,(callFunc 121 #[.int .u64 (mL x y),.int .u64 p,wZ]).run Tryz.prog w=.ok (.value (.tuple #[.int .u64 l1,.int .u64 o1])) w)∧
 (∀w,(callFunc 121 #[.int .u64 l1,.int .u64 c,wZ]).run Tryz.prog w=.ok (.value (.tuple #[.int .u64 l2,.int .u64 o2])) w)∧
 IntKind.u64.wrap (mH x y+o1)=mH x y+o1∧IntKind.u64.wrap (mH x y+o1+o2)=mH x y+o1+o2∧yD x y p c l2 (mH x y+o1+o2):=by
 have hm:0≤x*y∧x*y≤0xfffffffffffffffe0000000000000001:=by
  obtain ⟨hx0,hx1⟩:=hx;obtain ⟨hy0,hy1⟩:=hy;refine ⟨Int.mul_nonneg hx0 hy0,?_⟩;have:=Int.mul_le_mul (show x≤0xffffffffffffffff by omega) (show y≤0xffffffffffffffff by omega) hy0 (by omega);omega
 have hL:Wd (mL x y):=by unfold Wd mL;omega
 obtain ⟨l1,o1,r1,e1,d1,b1⟩:=ku hL hp (c:=0) (by unfold Bt;omega);obtain ⟨l2,o2,r2,e2,d2,b2⟩:=ku d1 hc (c:=0) (by unfold Bt;omega);have k1:0≤mH x y+o1∧mH x y+o1+o2≤0xffffffffffffffff:=by
  unfold Wd Bt at*;unfold mH mL at*;omega
 have k2:0≤o2:=b2.1;refine ⟨l1,o1,l2,o2,r1,r2,?_,?_,?_⟩
 ·rw [IntKind.wrap_u64];omega
 ·rw [IntKind.wrap_u64];omega
 ·refine ⟨?_,d2,?_⟩
  ·unfold mH mL at*;omega
  ·unfold Wd;omega
def pl (A B:Nat):Nat:=A*B%big
def ph (A B:Nat):Nat:=A*B / big
theorem ut {a b0 b1 b2 b3 p0 p1 p2 p3 q0 q1 q2 q3 c0 c1 c2 c3:Int}(h0:yD a b0 p0 0 q0 c0)(h1:yD a b1 p1 c0 q1 c1)(h2:yD a b2 p2 c1 q2 c2)(h3:yD a b3 p3 c2 q3 c3):
 a*(b0+0x10000000000000000*b1+0x100000000000000000000000000000000*b2+0x1000000000000000000000000000000000000000000000000*b3)+p0+0x10000000000000000*p1+0x100000000000000000000000000000000*p2+0x1000000000000000000000000000000000000000000000000*p3=q0+0x10000000000000000*q1+0x100000000000000000000000000000000*q2+0x1000000000000000000000000000000000000000000000000*q3+0x10000000000000000000000000000000000000000000000000000000000000000*c3:=by
 have e:a*(b0+0x10000000000000000*b1+0x100000000000000000000000000000000*b2+0x1000000000000000000000000000000000000000000000000*b3)=a*b0+0x10000000000000000*(a*b1)+0x100000000000000000000000000000000*(a*b2)+0x1000000000000000000000000000000000000000000000000*(a*b3):=by
  rw [Int.mul_add,Int.mul_add,Int.mul_add,Int.mul_left_comm a,Int.mul_left_comm a,Int.mul_left_comm a]
 obtain ⟨e0,_,_⟩:=h0;obtain ⟨e1,_,_⟩:=h1;obtain ⟨e2,_,_⟩:=h2;obtain ⟨e3,_,_⟩:=h3;rw [e];omega
theorem zhc {A B:Nat}(hA:A<big)(hB:B<big){q00 c00 q01 c01 q02 c02 q03 c03 q10 c10 q11 c11 q12 c12 q13 c13 q20 c20 q21 c21 q22 c22 q23 c23 q30 c30 q31 c31 q32 c32 q33 c33:Int}(m00:yD (w0 A) (w0 B) 0 0 q00 c00)(m01:yD (w0 A) (w1 B) 0 c00 q01 c01)(m02:yD (w0 A) (w2 B) 0 c01 q02 c02)(m03:yD (w0 A) (w3 B) 0 c02 q03 c03)(m10:yD (w1 A) (w0 B) q01 0 q10 c10)(m11:yD (w1 A) (w1 B) q02 c10 q11 c11)(m12:yD (w1 A) (w2 B) q03 c11 q12 c12)(m13:yD (w1 A) (w3 B) c03 c12 q13 c13)(m20:yD (w2 A) (w0 B) q11 0 q20 c20)(m21:yD (w2 A) (w1 B) q12 c20 q21 c21)(m22:yD (w2 A) (w2 B) q13 c21 q22 c22)(m23:yD (w2 A) (w3 B) c13 c22 q23 c23)(m30:yD (w3 A) (w0 B) q21 0 q30 c30)(m31:yD (w3 A) (w1 B) q22 c30 q31 c31)(m32:yD (w3 A) (w2 B) q23 c31 q32 c32)(m33:yD (w3 A) (w3 B) c23 c32 q33 c33):
 (q00=w0 (pl A B)∧q10=w1 (pl A B)∧q20=w2 (pl A B)∧q30=w3 (pl A B))∧q31=w0 (ph A B)∧q32=w1 (ph A B)∧q33=w2 (ph A B)∧c33=w3 (ph A B):=by
 have a:=jM A hA;have b:=jM B hB;have r0:=ut m00 m01 m02 m03;have r1:=ut m10 m11 m12 m13;have r2:=ut m20 m21 m22 m23;have r3:=ut m30 m31 m32 m33;rw [←b] at r0 r1 r2 r3;have e:(A:Int)*B=w0 A*B+0x10000000000000000*(w1 A*B)+0x100000000000000000000000000000000*(w2 A*B)+0x1000000000000000000000000000000000000000000000000*(w3 A*B):=by
  conv=>lhs;rw [a]
  rw [Int.add_mul,Int.add_mul,Int.add_mul,Int.mul_assoc,Int.mul_assoc,Int.mul_assoc]
 have d0:Wd q00:=m00.2.1;have d1:Wd q10:=m10.2.1;have d2:Wd q20:=m20.2.1;have d3:Wd q30:=m30.2.1;have d4:Wd q31:=m31.2.1;have d5:Wd q32:=m32.2.1;have d6:Wd q33:=m33.2.1;have d7:Wd c33:=m33.2.2;have key:(A:Int)*B=q00+0x10000000000000000*q10+0x100000000000000000000000000000000*q20+0x1000000000000000000000000000000000000000000000000*q30+0x10000000000000000000000000000000000000000000000000000000000000000*q31+0x100000000000000000000000000000000000000000000000000000000000000000000000000000000*q32+0x1000000000000000000000000000000000000000000000000000000000000000000000000000000000000000000000000*q33+0x10000000000000000000000000000000000000000000000000000000000000000000000000000000000000000000000000000000000000000*c33:=by omega
 clear r0 r1 r2 r3 e;have lt1:=vq d0 d1 d2 d3;have lt2:=vq d4 d5 d6 d7;have em1:((mk4 q00 q10 q20 q30:Nat):Int)=q00+0x10000000000000000*q10+0x100000000000000000000000000000000*q20+0x1000000000000000000000000000000000000000000000000*q30:=by unfold Wd at d0 d1 d2 d3;unfold mk4;omega
 have em2:((mk4 q31 q32 q33 c33:Nat):Int)=q31+0x10000000000000000*q32+0x100000000000000000000000000000000*q33+0x1000000000000000000000000000000000000000000000000*c33:=by unfold Wd at d4 d5 d6 d7;unfold mk4;omega
 have kn:A*B=mk4 q00 q10 q20 q30+0x10000000000000000000000000000000000000000000000000000000000000000*mk4 q31 q32 q33 c33:=by
  have:((A*B:Nat):Int)=(A:Int)*B:=Int.natCast_mul A B;omega
 have k1:pl A B=mk4 q00 q10 q20 q30:=by unfold pl;unfold big at*;omega
 have k2:ph A B=mk4 q31 q32 q33 c33:=by unfold ph;unfold big at*;omega
 rw [k1,k2];exact ⟨⟨(un d0 d1 d2 d3).symm,(uo d0 d1 d2 d3).symm,(uq d0 d1 d2 d3).symm,(ur d0 d1 d2 d3).symm⟩,(un d4 d5 d6 d7).symm,(uo d4 d5 d6 d7).symm,(uq d4 d5 d6 d7).symm,(ur d4 d5 d6 d7).symm⟩
end Go.Proofs.YthonokeibcodpaaGreatDoor
namespace Go.Proofs.YthonokeibcodpaaGreatDoor
set_option linter.unusedVariables false
def NR:Nat:=0xfffffffffffffffffffffffffffffffebaaedce6af48a03bbfd25e8cd0364141
def MOK (M:Nat):Prop:=M<big∧big<2*M
theorem jl:MOK NR:=by unfold MOK NR big;omega
def rs (L H M:Nat):Nat:=(L+big*H)%M
theorem zda {L H M:Nat}(h:MOK M):rs L H M<big:=Nat.lt_trans (Nat.mod_lt _ (by unfold MOK big at h;omega)) h.1
theorem uu {L H M:Nat}(h:MOK M):rs L H M<M:=Nat.mod_lt _ (by unfold MOK big at h;omega)
theorem za6 (A B:Nat):sm A B<big:=Nat.mod_lt _ (by decide)
theorem za7 (A B:Nat):df A B<big:=Nat.mod_lt _ (by decide)
theorem zdb (A B:Nat):pl A B<big:=Nat.mod_lt _ (by decide)
theorem zhd {A B:Nat}(hA:A<big)(hB:B<big):ph A B<big:=by
 unfold ph;exact Nat.div_lt_of_lt_mul (Nat.mul_lt_mul'' hA hB)
theorem zhe (A B:Nat):A*B=pl A B+big*ph A B:=by unfold pl ph;exact (Nat.mod_add_div _ _).symm
theorem zhf {l h M:Nat}(hM:MOK M)(hl:l<big)(hh:h<big)(h0:h≠0):
 ∃h',(h'=if ov l (pl h (df 0 M)) then sm (ph h (df 0 M)) 1 else ph h (df 0 M))∧h'<big∧
  sm l (pl h (df 0 M))+big*h'+h*M=l+big*h:=by
 have hs:df 0 M=big-M:=by unfold df;unfold MOK at hM;rw [Nat.zero_add,Nat.mod_eq_of_lt];omega
 have hk:=zhe h (df 0 M);have hph:ph h (df 0 M)+1<big:=by
  have:ph h (df 0 M)<big-M:=by
   rw [hs];unfold ph;refine Nat.div_lt_of_lt_mul ?_;exact Nat.mul_lt_mul_of_pos_right hh (by unfold MOK at hM;omega)
  unfold MOK at hM;omega
 have hp:=zdb h (df 0 M);have hmul:h*(big-M)+h*M=big*h:=by rw [←Nat.mul_add,Nat.sub_add_cancel (Nat.le_of_lt hM.1),Nat.mul_comm]
 rw [←hs] at hmul;refine ⟨_,rfl,?_,?_⟩
 ·split
  ·exact za6 _ _
  ·omega
 ·generalize df 0 M=s at*;generalize pl h s=p at*;generalize ph h s=q at*;generalize h*s=hs2 at*;unfold ov sm;by_cases ho:big≤l+p
  ·rw [decide_eq_true ho];simp only [if_true];rw [Nat.mod_eq_of_lt hph];have:(l+p)%big=l+p-big:=by rw [Nat.mod_eq_sub_mod ho,Nat.mod_eq_of_lt (by omega)]
   rw [this,Nat.mul_add,Nat.mul_one];omega
  ·rw [decide_eq_false ho];simp only [Bool.false_eq_true,if_false];rw [Nat.mod_eq_of_lt (by omega)];omega
theorem zdc {l h l' h' M L H:Nat}(he:l'+big*h'+h*M=l+big*h)(hm:(l+big*h)%M=rs L H M):(l'+big*h')%M=rs L H M:=by
 rw [←hm,←he,Nat.add_mul_mod_self_right]
theorem zdd {l h l' h' M:Nat}(hM:MOK M)(h0:h≠0)(he:l'+big*h'+h*M=l+big*h):l'+big*h'<l+big*h:=by
 have:0<h*M:=Nat.mul_pos (by omega) (by unfold MOK big at hM;omega);omega
theorem zhg {l M L H:Nat}(hM:MOK M)(hl:l<big)(hm:(l+big*0)%M=rs L H M)(hc:M≤l):df l M=rs L H M:=by
 rw [←hm];unfold df MOK at*;have h1:(l+big-M)%big=l-M:=by
  have:l+big-M=(l-M)+big:=by omega
  rw [this,Nat.add_mod_right,Nat.mod_eq_of_lt (by omega)]
 rw [h1,Nat.mul_zero,Nat.add_zero,Nat.mod_eq_sub_mod hc,Nat.mod_eq_of_lt (by omega)]
theorem zhh {l M L H:Nat}(hm:(l+big*0)%M=rs L H M)(hc: ¬M≤l):l=rs L H M:=by
 rw [←hm,Nat.mul_zero,Nat.add_zero,Nat.mod_eq_of_lt (by omega)]
def qe (A B M:Nat):Nat:=(A%M+(M-B%M))%M
theorem zhi {A B M:Nat}(hM:MOK M)(h:lo (rs A 0 M) (rs B 0 M)=true):sm (df (rs A 0 M) (rs B 0 M)) M=qe A B M:=by
 have ha:=uu (L:=A) (H:=0) hM;have hb:=uu (L:=B) (H:=0) hM;unfold lo at h;have h:=of_decide_eq_true h;have e1:rs A 0 M=A%M:=by unfold rs;rw [Nat.mul_zero,Nat.add_zero]
 have e2:rs B 0 M=B%M:=by unfold rs;rw [Nat.mul_zero,Nat.add_zero]
 rw [e1] at ha h ⊢;rw [e2] at hb h ⊢;unfold qe sm df;unfold MOK at hM;rw [Nat.mod_eq_of_lt (show A%M+big-B%M<big by omega)];have:A%M+big-B%M+M=(A%M+(M-B%M))+big:=by omega
 rw [this,Nat.add_mod_right,Nat.mod_eq_of_lt (show A%M+(M-B%M)<big by omega),Nat.mod_eq_of_lt (show A%M+(M-B%M)<M by omega)]
theorem zhj {A B M:Nat}(hM:MOK M)(h:lo (rs A 0 M) (rs B 0 M)=false):df (rs A 0 M) (rs B 0 M)=qe A B M:=by
 have ha:=uu (L:=A) (H:=0) hM;have hb:=uu (L:=B) (H:=0) hM;unfold lo at h;have h:=of_decide_eq_false h;have e1:rs A 0 M=A%M:=by unfold rs;rw [Nat.mul_zero,Nat.add_zero]
 have e2:rs B 0 M=B%M:=by unfold rs;rw [Nat.mul_zero,Nat.add_zero]
 rw [e1] at ha h ⊢;rw [e2] at hb h ⊢;unfold qe df;unfold MOK at hM;have t1:A%M+big-B%M=(A%M-B%M)+big:=by omega
 have t2:A%M+(M-B%M)=(A%M-B%M)+M:=by omega
 rw [t1,t2,Nat.add_mod_right,Nat.add_mod_right,Nat.mod_eq_of_lt (show A%M-B%M<big by omega),Nat.mod_eq_of_lt (show A%M-B%M<M by omega)]
theorem zde {A B M:Nat}(h:MOK M):qe A B M<big:=Nat.lt_trans (Nat.mod_lt _ (by unfold MOK big at h;omega)) h.1
set_option maxRecDepth 100000
end Go.Proofs.YthonokeibcodpaaGreatDoor
namespace Go.Proofs.Ec
open Go.Proofs.YthonokeibcodpaaGreatDoor Go.Proofs.Zm
set_option linter.unusedVariables false
section
variable {F:Type}[Lean.Grind.Field F][DecidableEq F]
structure zhk (b:F):Prop where
 two:(2:F)≠0
 three:(3:F)≠0
 b:b≠0
variable {b:F}(g:zhk b)
include g
end
structure Wp where
 X:Nat
 Y:Nat
 b:Bool
 Z:Nat
structure Wp.Ok (a:Wp):Prop where
 X:a.X<big
 Y:a.Y<big
 Z:a.Z<big
structure Pd where
 X:Nat
 Y:Nat
 b:Bool
 deriving DecidableEq
structure Pd.Ok (p:Pd):Prop where
 X:p.X<big
 Y:p.Y<big
end Go.Proofs.Ec
namespace Go.Proofs.YthonokeibcodpaaGreatDoor
open Go.ChangeShapes Go.WideShapes Go.ChangeAt Go.RowKit
set_option linter.unusedVariables false
theorem zhl (A B:Nat)(hA:A<big)(hB:B<big)(w:World):Calls Tryz.prog 119 #[uv A,uv B] w fun e w'=>e=.returned (.tuple #[uv (pl A B),uv (ph A B)])∧Below w.heap.size w w':=by
 have z:Wd 0:=by unfold Wd;omega
 have a0:=wd0 A;have b0:=wd0 B;have a1:=wd1 A;have b1:=wd1 B;have a2:=wd2 A;have b2:=wd2 B;have a3:=wd3 A;have b3:=wd3 B;obtain ⟨l00,o00,q00,u00,r00,t00,v00,x00,m00⟩:=ql a0 b0 z z;have dq00:=m00.2.1;have dc00:=m00.2.2;obtain ⟨l01,o01,q01,u01,r01,t01,v01,x01,m01⟩:=ql a0 b1 z dc00;have dq01:=m01.2.1;have dc01:=m01.2.2;obtain ⟨l02,o02,q02,u02,r02,t02,v02,x02,m02⟩:=ql a0 b2 z dc01;have dq02:=m02.2.1;have dc02:=m02.2.2;obtain ⟨l03,o03,q03,u03,r03,t03,v03,x03,m03⟩:=ql a0 b3 z dc02;have dq03:=m03.2.1;have dc03:=m03.2.2;obtain ⟨l10,o10,q10,u10,r10,t10,v10,x10,m10⟩:=ql a1 b0 dq01 z;have dq10:=m10.2.1;have dc10:=m10.2.2;obtain ⟨l11,o11,q11,u11,r11,t11,v11,x11,m11⟩:=ql a1 b1 dq02 dc10;have dq11:=m11.2.1;have dc11:=m11.2.2;obtain ⟨l12,o12,q12,u12,r12,t12,v12,x12,m12⟩:=ql a1 b2 dq03 dc11;have dq12:=m12.2.1;have dc12:=m12.2.2;obtain ⟨l13,o13,q13,u13,r13,t13,v13,x13,m13⟩:=ql a1 b3 dc03 dc12;have dq13:=m13.2.1;have dc13:=m13.2.2;obtain ⟨l20,o20,q20,u20,r20,t20,v20,x20,m20⟩:=ql a2 b0 dq11 z;have dq20:=m20.2.1;have dc20:=m20.2.2;obtain ⟨l21,o21,q21,u21,r21,t21,v21,x21,m21⟩:=ql a2 b1 dq12 dc20;have dq21:=m21.2.1;have dc21:=m21.2.2;obtain ⟨l22,o22,q22,u22,r22,t22,v22,x22,m22⟩:=ql a2 b2 dq13 dc21;have dq22:=m22.2.1;have dc22:=m22.2.2;obtain ⟨l23,o23,q23,u23,r23,t23,v23,x23,m23⟩:=ql a2 b3 dc13 dc22;have dq23:=m23.2.1;have dc23:=m23.2.2;obtain ⟨l30,o30,q30,u30,r30,t30,v30,x30,m30⟩:=ql a3 b0 dq21 z;have dq30:=m30.2.1;have dc30:=m30.2.2;obtain ⟨l31,o31,q31,u31,r31,t31,v31,x31,m31⟩:=ql a3 b1 dq22 dc30;have dq31:=m31.2.1;have dc31:=m31.2.2;obtain ⟨l32,o32,q32,u32,r32,t32,v32,x32,m32⟩:=ql a3 b2 dq23 dc31;have dq32:=m32.2.1;have dc32:=m32.2.2;obtain ⟨l33,o33,q33,u33,r33,t33,v33,x33,m33⟩:=ql a3 b3 dc23 dc32;have dq33:=m33.2.1;have dc33:=m33.2.2;obtain ⟨⟨g0,g1,g2,g3⟩,g4,g5,g6,g7⟩:=zhc hA hB m00 m01 m02 m03 m10 m11 m12 m13 m20 m21 m22 m23 m30 m31 m32 m33;clear m00 m01 m02 m03 m10 m11 m12 m13 m20 m21 m22 m23 m30 m31 m32 m33;unfold uv;rw [←g0,←g1,←g2,←g3,←g4,←g5,←g6,←g7];clear g0 g1 g2 g3 g4 g5 g6 g7;have i0:=ix0;have i1:=ix1;have i2:=ix2;have i3:=ix3
 go_enter Tryz.func119,Tryz.ntmps119
 go_wp2
 refine wp_loop_rounds 5 ?_;rw [rounds_succ]
 go_wp2
 refine wp_loop_rounds 5 ?_;rw [rounds_succ]
 go_wp2_with (go_at_call 126;refine (yI (by assumption) (by assumption) _).mono ?_;rintro e w' ⟨rfl,rfl⟩)
 rw [rounds_succ]
 go_wp2_with (go_at_call 126;refine (yI (by assumption) (by assumption) _).mono ?_;rintro e w' ⟨rfl,rfl⟩)
 rw [rounds_succ]
 go_wp2_with (go_at_call 126;refine (yI (by assumption) (by assumption) _).mono ?_;rintro e w' ⟨rfl,rfl⟩)
 rw [rounds_succ]
 go_wp2_with (go_at_call 126;refine (yI (by assumption) (by assumption) _).mono ?_;rintro e w' ⟨rfl,rfl⟩)
 rw [rounds_succ]
 go_wp2_with (go_at_call 126;refine (yI (by assumption) (by assumption) _).mono ?_;rintro e w' ⟨rfl,rfl⟩)
 rw [rounds_succ]
 go_wp2
 refine wp_loop_rounds 5 ?_;rw [rounds_succ]
 go_wp2_with (go_at_call 126;refine (yI (by assumption) (by assumption) _).mono ?_;rintro e w' ⟨rfl,rfl⟩)
 rw [rounds_succ]
 go_wp2_with (go_at_call 126;refine (yI (by assumption) (by assumption) _).mono ?_;rintro e w' ⟨rfl,rfl⟩)
 rw [rounds_succ]
 go_wp2_with (go_at_call 126;refine (yI (by assumption) (by assumption) _).mono ?_;rintro e w' ⟨rfl,rfl⟩)
 rw [rounds_succ]
 go_wp2_with (go_at_call 126;refine (yI (by assumption) (by assumption) _).mono ?_;rintro e w' ⟨rfl,rfl⟩)
 rw [rounds_succ]
 go_wp2_with (go_at_call 126;refine (yI (by assumption) (by assumption) _).mono ?_;rintro e w' ⟨rfl,rfl⟩)
 rw [rounds_succ]
 go_wp2
 refine wp_loop_rounds 5 ?_;rw [rounds_succ]
 go_wp2_with (go_at_call 126;refine (yI (by assumption) (by assumption) _).mono ?_;rintro e w' ⟨rfl,rfl⟩)
 rw [rounds_succ]
 go_wp2_with (go_at_call 126;refine (yI (by assumption) (by assumption) _).mono ?_;rintro e w' ⟨rfl,rfl⟩)
 rw [rounds_succ]
 go_wp2_with (go_at_call 126;refine (yI (by assumption) (by assumption) _).mono ?_;rintro e w' ⟨rfl,rfl⟩)
 rw [rounds_succ]
 go_wp2_with (go_at_call 126;refine (yI (by assumption) (by assumption) _).mono ?_;rintro e w' ⟨rfl,rfl⟩)
 rw [rounds_succ]
 go_wp2_with (go_at_call 126;refine (yI (by assumption) (by assumption) _).mono ?_;rintro e w' ⟨rfl,rfl⟩)
 rw [rounds_succ]
 go_wp2
 refine wp_loop_rounds 5 ?_;rw [rounds_succ]
 go_wp2_with (go_at_call 126;refine (yI (by assumption) (by assumption) _).mono ?_;rintro e w' ⟨rfl,rfl⟩)
 rw [rounds_succ]
 go_wp2_with (go_at_call 126;refine (yI (by assumption) (by assumption) _).mono ?_;rintro e w' ⟨rfl,rfl⟩)
 rw [rounds_succ]
 go_wp2_with (go_at_call 126;refine (yI (by assumption) (by assumption) _).mono ?_;rintro e w' ⟨rfl,rfl⟩)
 rw [rounds_succ]
 go_wp2_with (go_at_call 126;refine (yI (by assumption) (by assumption) _).mono ?_;rintro e w' ⟨rfl,rfl⟩)
 rw [rounds_succ]
 go_wp2_with (go_at_call 126;refine (yI (by assumption) (by assumption) _).mono ?_;rintro e w' ⟨rfl,rfl⟩)
 rw [rounds_succ]
 go_wp2
 go_region
 all_goals (go_wp2;go_returns;exact ⟨rfl,by go_grown⟩)
end Go.Proofs.YthonokeibcodpaaGreatDoor
namespace Go.Proofs.YthonokeibcodpaaGreatDoor
open Go.RowKit
end Go.Proofs.YthonokeibcodpaaGreatDoor
namespace Go.Proofs.YthonokeibcodpaaGreatDoor
open Go.ChangeShapes Go.WideShapes Go.ChangeAt Go.RowKit Go.Shelf
set_option linter.unusedVariables false
def bt (A:Nat)(i:Int):Bool:=decide (0≤i)&&(decide (i<256)&&A.testBit i.toNat)
end Go.Proofs.YthonokeibcodpaaGreatDoor
namespace Go.Proofs.YthonokeibcodpaaGreatDoor
open Go.RowKit
def len (A:Nat):Nat:=if A=0 then 0 else Nat.log2 A+1
end Go.Proofs.YthonokeibcodpaaGreatDoor
namespace Go.Proofs.YthonokeibcodpaaGreatDoor
open Go.ChangeShapes Go.WideShapes Go.ChangeAt Go.RowKit
set_option linter.unusedVariables false
def cm (A B:Nat):Int:=if A=B then 0 else if A<B then-1 else 1
def cmK (A B k:Nat):Int:=cm (A%0x10000000000000000^k) (B%0x10000000000000000^k)
theorem zhm (A B:Nat):cmK A B 0=0:=by unfold cmK cm;simp [Nat.mod_one]
theorem zhn (a b x y W:Nat)(hx:x<W)(hy:y<W):cm (x+W*a) (y+W*b)=if a<b then-1 else if b<a then 1 else cm x y:=by
 unfold cm;rcases Nat.lt_trichotomy a b with h | h | h
 ·have:W*(a+1)≤W*b:=Nat.mul_le_mul_left _ h;rw [Nat.mul_add] at this;rw [if_pos h,if_neg (by omega),if_pos (by omega)]
 ·subst h;have h1:(x+W*a=y+W*a)=(x=y):=by rw [eq_iff_iff];omega
  have h2:(x+W*a<y+W*a)=(x<y):=by rw [eq_iff_iff];omega
  simp only [h1,h2,Nat.lt_irrefl,if_false]
 ·have:W*(b+1)≤W*a:=Nat.mul_le_mul_left _ h;rw [Nat.mul_add] at this;rw [if_neg (by omega),if_pos h,if_neg (by omega),if_neg (by omega)]
def wk (A k:Nat):Nat:=A / 0x10000000000000000^k%0x10000000000000000
theorem zho (A B k:Nat):cmK A B (k+1)=if wk A k<wk B k then-1 else if wk B k<wk A k then 1 else cmK A B k:=by
 unfold cmK wk;rw [Nat.pow_succ,Nat.mod_mul,Nat.mod_mul,zhn _ _ _ _ _ (Nat.mod_lt _ (Nat.pow_pos (by omega))) (Nat.mod_lt _ (Nat.pow_pos (by omega)))]
theorem zhp (A B:Nat)(hA:A<big)(hB:B<big):cmK A B 4=cm A B:=by
 unfold cmK;have e:0x10000000000000000^4=big:=rfl;rw [e,Nat.mod_eq_of_lt hA,Nat.mod_eq_of_lt hB]
theorem wk0 (A:Nat):w0 A=((wk A 0:Nat):Int):=by unfold w0 wk;simp
theorem wk1 (A:Nat):w1 A=((wk A 1:Nat):Int):=rfl
theorem wk2 (A:Nat):w2 A=((wk A 2:Nat):Int):=rfl
theorem wk3 (A:Nat):w3 A=((wk A 3:Nat):Int):=rfl
theorem zhq (A B:Nat)(hA:A<big)(hB:B<big)(w:World):Calls Tryz.prog 96 #[uv A,uv B] w fun e w'=>e=.returned (.int .i64 (cm A B))∧Below w.heap.size w w':=by
 have i0:=ix0;have i1:=ix1;have i2:=ix2;have i3:=ix3;have HF:=Lib.hid (zhp A B hA hB);unfold uv
 go_enter Tryz.func96,Tryz.ntmps96
 go_wp2
 go_loop [5,9] (fun r i=> ∃k:Nat,k≤4∧i=.int .i64 k∧r=.int .i64 (cmK A B k)) (fun _ i=>4-(intOf i).toNat)
 case atStart=>exact ⟨0,by omega,rfl,by rw [zhm]⟩
 case round=>
  obtain ⟨k,hk,rfl,rfl⟩:=hrel;have hn:=zho A B k;have hk5:k=0∨k=1∨k=2∨k=3∨k=4:=by omega
  rcases hk5 with rfl|rfl|rfl|rfl|rfl
  ·rcases Nat.lt_trichotomy (wk A 0) (wk B 0) with h|h|h
   ·rw [if_pos h] at hn;have HN:=Lib.hid hn;have h1:w0 A<w0 B:=by rw [wk0,wk0];omega
    clear hn h
    go_wp2
    go_round
    case rel=>exact ⟨1,by omega,by go_num,by rw [HN.out]⟩
    case measure=>simp [intOf]
   ·rw [if_neg (by omega),if_neg (by omega)] at hn;have HN:=Lib.hid hn;have h1: ¬w0 A<w0 B:=by rw [wk0,wk0];omega
    have h2: ¬w0 B<w0 A:=by rw [wk0,wk0];omega
    clear hn h
    go_wp2
    go_round
    case rel=>exact ⟨1,by omega,by go_num,by rw [HN.out]⟩
    case measure=>simp [intOf]
   ·rw [if_neg (by omega),if_pos h] at hn;have HN:=Lib.hid hn;have h1: ¬w0 A<w0 B:=by rw [wk0,wk0];omega
    have h2:w0 B<w0 A:=by rw [wk0,wk0];omega
    clear hn h
    go_wp2
    go_round
    case rel=>exact ⟨1,by omega,by go_num,by rw [HN.out]⟩
    case measure=>simp [intOf]
  ·rcases Nat.lt_trichotomy (wk A 1) (wk B 1) with h|h|h
   ·rw [if_pos h] at hn;have HN:=Lib.hid hn;have h1:w1 A<w1 B:=by rw [wk1,wk1];omega
    clear hn h
    go_wp2
    go_round
    case rel=>exact ⟨2,by omega,by go_num,by rw [HN.out]⟩
    case measure=>simp [intOf]
   ·rw [if_neg (by omega),if_neg (by omega)] at hn;have HN:=Lib.hid hn;have h1: ¬w1 A<w1 B:=by rw [wk1,wk1];omega
    have h2: ¬w1 B<w1 A:=by rw [wk1,wk1];omega
    clear hn h
    go_wp2
    go_round
    case rel=>exact ⟨2,by omega,by go_num,by rw [HN.out]⟩
    case measure=>simp [intOf]
   ·rw [if_neg (by omega),if_pos h] at hn;have HN:=Lib.hid hn;have h1: ¬w1 A<w1 B:=by rw [wk1,wk1];omega
    have h2:w1 B<w1 A:=by rw [wk1,wk1];omega
    clear hn h
    go_wp2
    go_round
    case rel=>exact ⟨2,by omega,by go_num,by rw [HN.out]⟩
    case measure=>simp [intOf]
  ·rcases Nat.lt_trichotomy (wk A 2) (wk B 2) with h|h|h
   ·rw [if_pos h] at hn;have HN:=Lib.hid hn;have h1:w2 A<w2 B:=by rw [wk2,wk2];omega
    clear hn h
    go_wp2
    go_round
    case rel=>exact ⟨3,by omega,by go_num,by rw [HN.out]⟩
    case measure=>simp [intOf]
   ·rw [if_neg (by omega),if_neg (by omega)] at hn;have HN:=Lib.hid hn;have h1: ¬w2 A<w2 B:=by rw [wk2,wk2];omega
    have h2: ¬w2 B<w2 A:=by rw [wk2,wk2];omega
    clear hn h
    go_wp2
    go_round
    case rel=>exact ⟨3,by omega,by go_num,by rw [HN.out]⟩
    case measure=>simp [intOf]
   ·rw [if_neg (by omega),if_pos h] at hn;have HN:=Lib.hid hn;have h1: ¬w2 A<w2 B:=by rw [wk2,wk2];omega
    have h2:w2 B<w2 A:=by rw [wk2,wk2];omega
    clear hn h
    go_wp2
    go_round
    case rel=>exact ⟨3,by omega,by go_num,by rw [HN.out]⟩
    case measure=>simp [intOf]
  ·rcases Nat.lt_trichotomy (wk A 3) (wk B 3) with h|h|h
   ·rw [if_pos h] at hn;have HN:=Lib.hid hn;have h1:w3 A<w3 B:=by rw [wk3,wk3];omega
    clear hn h
    go_wp2
    go_round
    case rel=>exact ⟨4,by omega,by go_num,by rw [HN.out]⟩
    case measure=>simp [intOf]
   ·rw [if_neg (by omega),if_neg (by omega)] at hn;have HN:=Lib.hid hn;have h1: ¬w3 A<w3 B:=by rw [wk3,wk3];omega
    have h2: ¬w3 B<w3 A:=by rw [wk3,wk3];omega
    clear hn h
    go_wp2
    go_round
    case rel=>exact ⟨4,by omega,by go_num,by rw [HN.out]⟩
    case measure=>simp [intOf]
   ·rw [if_neg (by omega),if_pos h] at hn;have HN:=Lib.hid hn;have h1: ¬w3 A<w3 B:=by rw [wk3,wk3];omega
    have h2:w3 B<w3 A:=by rw [wk3,wk3];omega
    clear hn h
    go_wp2
    go_round
    case rel=>exact ⟨4,by omega,by go_num,by rw [HN.out]⟩
    case measure=>simp [intOf]
  ·clear hn
   go_wp2
   go_ret
   exact ⟨by rw [←HF.out];rfl,by go_grown⟩
theorem za8 (d:Nat)(a0 a1 a2 a3 b0 b1 b2 b3:Int)(w:World):
 (Op.equalIn (d+2) 55 (.agg #[.int .u64 a0,.int .u64 a1,.int .u64 a2,.int .u64 a3]) (.agg #[.int .u64 b0,.int .u64 b1,.int .u64 b2,.int .u64 b3])).run Tryz.prog w
  =.ok (a0==b0&&(a1==b1&&(a2==b2&&a3==b3))) w:=by
 have e: ∀x y:Int,(Op.equalIn (d+1) 22 (.int .u64 x) (.int .u64 y)).run Tryz.prog w=.ok (x==y) w:=fun x y=>run_equalIn_int w d 22 .u64 .u64 x y Tryz.underlying22;have s:(sizeOf 22).run Tryz.prog w=.ok 1 w:=by kernel_rfl
 have p0: ∀x y z u:Int,(part 22 #[.int .u64 x,.int .u64 y,.int .u64 z,.int .u64 u] 0).run Tryz.prog w=.ok (.int .u64 x) w:=fun x y z u=>by kernel_rfl
 have p1: ∀x y z u:Int,(part 22 #[.int .u64 x,.int .u64 y,.int .u64 z,.int .u64 u] 1).run Tryz.prog w=.ok (.int .u64 y) w:=fun x y z u=>by kernel_rfl
 have p2: ∀x y z u:Int,(part 22 #[.int .u64 x,.int .u64 y,.int .u64 z,.int .u64 u] 2).run Tryz.prog w=.ok (.int .u64 z) w:=fun x y z u=>by kernel_rfl
 have p3: ∀x y z u:Int,(part 22 #[.int .u64 x,.int .u64 y,.int .u64 z,.int .u64 u] 3).run Tryz.prog w=.ok (.int .u64 u) w:=fun x y z u=>by kernel_rfl
 rw [Op.equalIn];simp only [Sem.run_bind,run_underlying Tryz.underlying55,Result.andThen_ok,s,Std.Legacy.Range.forIn_eq_forIn_range',Std.Legacy.Range.size];simp only [show (4-0+1-1) / 1=4 from rfl,List.range',List.forIn_cons,List.forIn_nil];cases c0:(a0==b0)
 ·simp [p0,e,c0]
 ·cases c1:(a1==b1)
  ·simp [p0,p1,e,c0,c1]
  ·cases c2:(a2==b2)
   ·simp [p0,p1,p2,e,c0,c1,c2]
   ·cases c3:(a3==b3)
    ·simp [p0,p1,p2,p3,e,c0,c1,c2,c3]
    ·simp [p0,p1,p2,p3,e,c0,c1,c2,c3]
theorem eqU (a0 a1 a2 a3 b0 b1 b2 b3:Int)(w:World):
 (Op.equalIn 10000 55 (.agg #[.int .u64 a0,.int .u64 a1,.int .u64 a2,.int .u64 a3]) (.agg #[.int .u64 b0,.int .u64 b1,.int .u64 b2,.int .u64 b3])).run Tryz.prog w
  =.ok (a0==b0&&(a1==b1&&(a2==b2&&a3==b3))) w:=za8 9998 a0 a1 a2 a3 b0 b1 b2 b3 w
end Go.Proofs.YthonokeibcodpaaGreatDoor
namespace Go.Proofs.YthonokeibcodpaaGreatDoor
open Go Go.RowKit
set_option linter.unusedVariables false
theorem za9 (A B:Nat)(hA:A<big)(hB:B<big):Fn Tryz.prog 115 #[uv A,uv B] (.tuple #[uv (sm A B),.bool (ov A B)]):=zg9 A B hA hB
theorem zba (A B:Nat)(hA:A<big)(hB:B<big):Fn Tryz.prog 113 #[uv A,uv B] (.tuple #[uv (df A B),.bool (lo A B)]):=zha A B hA hB
theorem zhr (A B:Nat)(hA:A<big)(hB:B<big):Fn Tryz.prog 119 #[uv A,uv B] (.tuple #[uv (pl A B),uv (ph A B)]):=zhl A B hA hB
theorem vr (A B:Nat)(hA:A<big)(hB:B<big):Fn Tryz.prog 96 #[uv A,uv B] (.int .i64 (cm A B)):=zhq A B hA hB
theorem zhs (n:Nat)(h:n<0x10000000000000000):Fn Tryz.prog 120 #[.int .u64 (n:Int)] (uv n):=fun w=>(zg8 n w).mono fun e w' ⟨he,hb⟩=>⟨by
 rw [he];have e0:w0 n=(n:Int):=by unfold w0;omega
 have e1:w1 n=0:=by unfold w1;omega
 have e2:w2 n=0:=by unfold w2;omega
 have e3:w3 n=0:=by unfold w3;omega
 unfold uv;rw [e0,e1,e2,e3],hb⟩
theorem zbb {A B:Nat}(hA:A<big)(hB:B<big):(w0 A==w0 B&&(w1 A==w1 B&&(w2 A==w2 B&&w3 A==w3 B)))=decide (A=B):=by
 rw [Bool.eq_iff_iff];simp only [Bool.and_eq_true,beq_iff_eq,decide_eq_true_eq];exact ⟨fun ⟨a,b,c,d⟩=>zg4 hA hB a b c d,fun h=>by subst h;exact ⟨rfl,rfl,rfl,rfl⟩⟩
theorem vt {ρ:Env}(A B:Nat)(hA:A<big)(hB:B<big){x y:Operand}{o:Oper}(w:World)(ho:o.op=.binOp .neq 55 x y 55)(hx:ev ρ x=uv A)(hy:ev ρ y=uv B):
 (execOp (ev ρ) o).run Tryz.prog w=.ok (.value (.bool (!decide (A=B)))) w:=by
 have q:=eqU;have e:=zbb hA hB;unfold execOp;simp only [ho,hx,hy]
 go_simp
theorem zht {A B:Nat}(h:B≤A):cm A B≥0:=by unfold cm;split<;>(try split)<;>omega
theorem zhu {A B:Nat}(h: ¬B≤A): ¬cm A B≥0:=by unfold cm;split<;>(try split)<;>omega
theorem zdf (L H M:Nat)(hL:L<big)(hH:H<big)(hM:MOK M):Fn Tryz.prog 114 #[uv L,uv H,uv M] (uv (rs L H M)):=by
 refine Fn.intro (c:=zf Tryz.f114) [.cell 6 55] 54 Tryz.func114 kr kr kr fun w=>?_;have H0:=St.start w;refine zg [0,1,2,3] kr kr<|jw H0 (some 3) 55 (.tmp 0) (uv L) kr kr kr ?_;intro b1 w1 H1;clear H0;refine jw H1 (some 4) 55 (.tmp 1) (uv H) kr kr kr ?_;intro b2 w2 H2;clear H1;refine jw H2 (some 5) 55 (.tmp 2) (uv M) kr kr kr ?_;intro b3 w3 H3;clear H2;refine zE H3 (some 6) 55 (.agg #[wZ,wZ,wZ,wZ]) kr kr kr ?_;intro b4 w4 H4;clear H3;refine zb<|zg [0,1,2,3,4,5,6,7,8] kr kr<|zd (some 14) (.agg #[wZ,wZ,wZ,wZ]) (fun w=>by kernel_rfl) kr<|yw H4 (some 15) 55 (.tmp 5) 1 b3 (Value.cells (uv M)) 55 (0,0) kr kr kr kr kr<|jJ H4 (some 16) 113 #[.agg #[wZ,wZ,wZ,wZ],uv M] (.tuple #[uv (df 0 M),.bool (lo 0 M)]) (zba 0 M (by unfold big;omega) hM.1) (fun w=>by kernel_rfl) kr ?_;intro w5 H5;clear H4;refine zd (some 13) (.tuple #[uv (df 0 M),.bool (lo 0 M)]) (fun w=>by kernel_rfl) kr<|zd (some 17) (uv (df 0 M)) (fun w=>by kernel_rfl) kr<|zd (some 18) (.bool (lo 0 M)) (fun w=>by kernel_rfl) kr<|zE H5 (some 7) 55 (.agg #[wZ,wZ,wZ,wZ]) kr kr kr ?_;intro b5 w6 H6;clear H5;refine yX H6 0 [(b5,Obj.cells (Value.cells (uv (df 0 M))) 55 (0,0)),(b4,Obj.cells #[wZ,wZ,wZ,wZ] 55 (0,0)),(b3,Obj.cells (Value.cells (uv M)) 55 (0,0)),(b2,Obj.cells (Value.cells (uv H)) 55 (0,0)),(b1,Obj.cells (Value.cells (uv L)) 55 (0,0))] 55 (.tmp 7) (.tmp 17) b5 0 #[wZ,wZ,wZ,wZ] (Value.cells (uv (df 0 M))) 55 (uv (df 0 M)) kr kr kr kr kr kr (of_decide_eq_true kr) kr kr ?_;intro w7 H7;clear H6;refine zd (some 8) (.bool (lo 0 M)) (fun w=>by kernel_rfl) kr<|zb<|zc kr<|zz 0 kr<|yW kr (fun m ρ x=> ∃(l:Nat) (h:Nat),l+big*h=m∧(l<big)∧(h<big)∧((l+big*h)%M=rs L H M)∧St w.heap.size w x [(b5,Obj.cells (Value.cells (uv (df 0 M))) 55 (0,0)),(b4,Obj.cells #[wZ,wZ,wZ,wZ] 55 (0,0)),(b3,Obj.cells (Value.cells (uv M)) 55 (0,0)),(b2,Obj.cells (Value.cells (uv h)) 55 (0,0)),(b1,Obj.cells (Value.cells (uv l)) 55 (0,0))]∧Is [(0,uv L),(1,uv H),(2,uv M),(3,.pointer (some ⟨b1,0,none⟩)),(4,.pointer (some ⟨b2,0,none⟩)),(5,.pointer (some ⟨b3,0,none⟩)),(6,.pointer (some ⟨b4,0,none⟩)),(7,.pointer (some ⟨b5,0,none⟩))] ρ) (L+big*H) ⟨L,H,rfl,hL,hH,rfl,H7,(Is.of ⟨kr,kr,kr,kr,kr,kr,kr,kr,trivial⟩)⟩ ?_;clear H7;rintro _ _ w8 ⟨l,h,rfl,hl,hh,hm,H8,_,rfl⟩;refine zc kr<|zg [0,1,2] kr kr<|yw H8 (some 19) 55 (.tmp 4) 3 b2 (Value.cells (uv h)) 55 (0,0) kr kr kr kr kr<|zd (some 20) (.agg #[wZ,wZ,wZ,wZ]) (fun w=>by kernel_rfl) kr ?_;by_cases hne:h=0
 ·refine zcr (some 21) _ (.bool (!decide (h=0))) (.bool false) kr (fun o w ho=>vt (x:=(.tmp 19)) (y:=(.tmp 20)) h 0 hh (by unfold big;omega) w ho kr kr) (by rw [decide_eq_true hne];rfl) kr ?_;have hm0:(l+big*0)%M=rs L H M:=by rw [hne] at hm;exact hm
  refine zb<|zl kr kr<|yv 0 kr<|wW<|zc kr<|zg [0,1,2,3] kr kr<|yw H8 (some 43) 55 (.tmp 3) 4 b1 (Value.cells (uv l)) 55 (0,0) kr kr kr kr kr<|yw H8 (some 44) 55 (.tmp 5) 2 b3 (Value.cells (uv M)) 55 (0,0) kr kr kr kr kr<|jJ H8 (some 45) 96 #[uv l,uv M] (.int .i64 (cm l M)) (vr l M hl hM.1) (fun w=>by kernel_rfl) kr ?_;intro w9 H9;clear H8;by_cases hc:M≤l
  ·refine qg (some 46) (.bool (decide (0≤cm l M))) (.bool true) (fun w=>by kernel_rfl) (za (decide_eq_true (zht hc))) kr<|zb<|zj kr kr<|yo [0,1,2,3,4,5,6] kr<|yw H9 (some 48) 55 (.tmp 3) 4 b1 (Value.cells (uv l)) 55 (0,0) kr kr kr kr kr<|yw H9 (some 49) 55 (.tmp 5) 2 b3 (Value.cells (uv M)) 55 (0,0) kr kr kr kr kr<|jJ H9 (some 50) 113 #[uv l,uv M] (.tuple #[uv (df l M),.bool (lo l M)]) (zba l M hl hM.1) (fun w=>by kernel_rfl) kr ?_;intro w10 H10;clear H9;refine zd (some 47) (.tuple #[uv (df l M),.bool (lo l M)]) (fun w=>by kernel_rfl) kr<|zd (some 51) (uv (df l M)) (fun w=>by kernel_rfl) kr<|zd (some 52) (.bool (lo l M)) (fun w=>by kernel_rfl) kr<|yX H10 4 [(b5,Obj.cells (Value.cells (uv (df 0 M))) 55 (0,0)),(b4,Obj.cells #[wZ,wZ,wZ,wZ] 55 (0,0)),(b3,Obj.cells (Value.cells (uv M)) 55 (0,0)),(b2,Obj.cells (Value.cells (uv h)) 55 (0,0)),(b1,Obj.cells (Value.cells (uv (df l M))) 55 (0,0))] 55 (.tmp 3) (.tmp 51) b1 0 (Value.cells (uv l)) (Value.cells (uv (df l M))) 55 (uv (df l M)) kr kr kr kr kr kr (of_decide_eq_true kr) kr kr ?_;intro w11 H11;clear H10;refine zb<|wW<|zg [0,1] kr kr<|yw H11 (some 53) 55 (.tmp 3) 4 b1 (Value.cells (uv (df l M))) 55 (0,0) kr kr kr kr kr<|yX H11 1 [(b5,Obj.cells (Value.cells (uv (df 0 M))) 55 (0,0)),(b4,Obj.cells (Value.cells (uv (df l M))) 55 (0,0)),(b3,Obj.cells (Value.cells (uv M)) 55 (0,0)),(b2,Obj.cells (Value.cells (uv h)) 55 (0,0)),(b1,Obj.cells (Value.cells (uv (df l M))) 55 (0,0))] 55 (.tmp 6) (.tmp 53) b4 0 #[wZ,wZ,wZ,wZ] (Value.cells (uv (df l M))) 55 (uv (df l M)) kr kr kr kr kr kr (of_decide_eq_true kr) kr kr ?_;intro w12 H12;clear H11;refine zb<|zk kr<|wV ?_;refine ⟨[uv (df l M)],(.agg (b:=b4) (Value.cells (uv (df l M))) 55 (0,0) kr (H12.get 1 kr) kr .nil),?_,H12.below⟩;exact congrArg uv (zhg hM hl hm0 hc)
  ·refine qg (some 46) (.bool (decide (0≤cm l M))) (.bool false) (fun w=>by kernel_rfl) (za (decide_eq_false (zhu hc))) kr<|zb<|zl kr kr<|zn kr<|wW<|zg [0,1] kr kr<|yw H9 (some 53) 55 (.tmp 3) 4 b1 (Value.cells (uv l)) 55 (0,0) kr kr kr kr kr<|yX H9 1 [(b5,Obj.cells (Value.cells (uv (df 0 M))) 55 (0,0)),(b4,Obj.cells (Value.cells (uv l)) 55 (0,0)),(b3,Obj.cells (Value.cells (uv M)) 55 (0,0)),(b2,Obj.cells (Value.cells (uv h)) 55 (0,0)),(b1,Obj.cells (Value.cells (uv l)) 55 (0,0))] 55 (.tmp 6) (.tmp 53) b4 0 #[wZ,wZ,wZ,wZ] (Value.cells (uv l)) 55 (uv l) kr kr kr kr kr kr (of_decide_eq_true kr) kr kr ?_;intro w13 H13;clear H9;refine zb<|zk kr<|wV ?_;refine ⟨[uv l],(.agg (b:=b4) (Value.cells (uv l)) 55 (0,0) kr (H13.get 1 kr) kr .nil),?_,H13.below⟩;exact congrArg uv (zhh hm0 hc)
 ·refine zcr (some 21) _ (.bool (!decide (h=0))) (.bool true) kr (fun o w ho=>vt (x:=(.tmp 19)) (y:=(.tmp 20)) h 0 hh (by unfold big;omega) w ho kr kr) (by rw [decide_eq_false hne];rfl) kr<|zb<|zj kr kr<|zn kr<|wW<|zz 1 kr<|zg [0,1,2,3,4,5,6,7,8,9] kr kr<|yw H8 (some 23) 55 (.tmp 4) 3 b2 (Value.cells (uv h)) 55 (0,0) kr kr kr kr kr<|yw H8 (some 24) 55 (.tmp 7) 0 b5 (Value.cells (uv (df 0 M))) 55 (0,0) kr kr kr kr kr<|jJ H8 (some 25) 119 #[uv h,uv (df 0 M)] (.tuple #[uv (pl h (df 0 M)),uv (ph h (df 0 M))]) (zhr h (df 0 M) hh (za7 _ _)) (fun w=>by kernel_rfl) kr ?_;intro w14 H14;clear H8;refine zd (some 22) (.tuple #[uv (pl h (df 0 M)),uv (ph h (df 0 M))]) (fun w=>by kernel_rfl) kr<|zd (some 26) (uv (pl h (df 0 M))) (fun w=>by kernel_rfl) kr<|zd (some 27) (uv (ph h (df 0 M))) (fun w=>by kernel_rfl) kr<|zE H14 (some 9) 55 (.agg #[wZ,wZ,wZ,wZ]) kr kr kr ?_;intro b6 w15 H15;clear H14;refine zE H15 (some 10) 55 (.agg #[wZ,wZ,wZ,wZ]) kr kr kr ?_;intro b7 w16 H16;clear H15;refine yX H16 1 [(b7,Obj.cells #[wZ,wZ,wZ,wZ] 55 (0,0)),(b6,Obj.cells (Value.cells (uv (pl h (df 0 M)))) 55 (0,0)),(b5,Obj.cells (Value.cells (uv (df 0 M))) 55 (0,0)),(b4,Obj.cells #[wZ,wZ,wZ,wZ] 55 (0,0)),(b3,Obj.cells (Value.cells (uv M)) 55 (0,0)),(b2,Obj.cells (Value.cells (uv h)) 55 (0,0)),(b1,Obj.cells (Value.cells (uv l)) 55 (0,0))] 55 (.tmp 9) (.tmp 26) b6 0 #[wZ,wZ,wZ,wZ] (Value.cells (uv (pl h (df 0 M)))) 55 (uv (pl h (df 0 M))) kr kr kr kr kr kr (of_decide_eq_true kr) kr kr ?_;intro w17 H17;clear H16;refine yX H17 0 [(b7,Obj.cells (Value.cells (uv (ph h (df 0 M)))) 55 (0,0)),(b6,Obj.cells (Value.cells (uv (pl h (df 0 M)))) 55 (0,0)),(b5,Obj.cells (Value.cells (uv (df 0 M))) 55 (0,0)),(b4,Obj.cells #[wZ,wZ,wZ,wZ] 55 (0,0)),(b3,Obj.cells (Value.cells (uv M)) 55 (0,0)),(b2,Obj.cells (Value.cells (uv h)) 55 (0,0)),(b1,Obj.cells (Value.cells (uv l)) 55 (0,0))] 55 (.tmp 10) (.tmp 27) b7 0 #[wZ,wZ,wZ,wZ] (Value.cells (uv (ph h (df 0 M)))) 55 (uv (ph h (df 0 M))) kr kr kr kr kr kr (of_decide_eq_true kr) kr kr ?_;intro w18 H18;clear H17;refine zb<|zg [0,1,2,3,4,5,6,7,8] kr kr<|yw H18 (some 29) 55 (.tmp 3) 6 b1 (Value.cells (uv l)) 55 (0,0) kr kr kr kr kr<|yw H18 (some 30) 55 (.tmp 9) 1 b6 (Value.cells (uv (pl h (df 0 M)))) 55 (0,0) kr kr kr kr kr<|jJ H18 (some 31) 115 #[uv l,uv (pl h (df 0 M))] (.tuple #[uv (sm l (pl h (df 0 M))),.bool (ov l (pl h (df 0 M)))]) (za9 l (pl h (df 0 M)) hl (zdb _ _)) (fun w=>by kernel_rfl) kr ?_;intro w19 H19;clear H18;refine zd (some 28) (.tuple #[uv (sm l (pl h (df 0 M))),.bool (ov l (pl h (df 0 M)))]) (fun w=>by kernel_rfl) kr<|zd (some 32) (uv (sm l (pl h (df 0 M)))) (fun w=>by kernel_rfl) kr<|zd (some 33) (.bool (ov l (pl h (df 0 M)))) (fun w=>by kernel_rfl) kr<|zE H19 (some 11) 55 (.agg #[wZ,wZ,wZ,wZ]) kr kr kr ?_;intro b8 w20 H20;clear H19;refine yX H20 0 [(b8,Obj.cells (Value.cells (uv (sm l (pl h (df 0 M))))) 55 (0,0)),(b7,Obj.cells (Value.cells (uv (ph h (df 0 M)))) 55 (0,0)),(b6,Obj.cells (Value.cells (uv (pl h (df 0 M)))) 55 (0,0)),(b5,Obj.cells (Value.cells (uv (df 0 M))) 55 (0,0)),(b4,Obj.cells #[wZ,wZ,wZ,wZ] 55 (0,0)),(b3,Obj.cells (Value.cells (uv M)) 55 (0,0)),(b2,Obj.cells (Value.cells (uv h)) 55 (0,0)),(b1,Obj.cells (Value.cells (uv l)) 55 (0,0))] 55 (.tmp 11) (.tmp 32) b8 0 #[wZ,wZ,wZ,wZ] (Value.cells (uv (sm l (pl h (df 0 M))))) 55 (uv (sm l (pl h (df 0 M)))) kr kr kr kr kr kr (of_decide_eq_true kr) kr kr ?_;intro w21 H21;clear H20;refine zd (some 12) (.bool (ov l (pl h (df 0 M)))) (fun w=>by kernel_rfl) kr<|zb<|g_sdraw [0,1,2,3] [((some 34),fun _=>uv (sm l (pl h (df 0 M)))),((some 35),fun _=>uv (ph h (df 0 M))),(none,fun _=>undef),(none,fun _=>undef)] (fun L g x=>St w.heap.size w x ([(b8,Obj.cells (Value.cells (uv (sm l (pl h (df 0 M))))) 55 (0,0)),(b7,Obj.cells (Value.cells (uv (ph h (df 0 M)))) 55 (0,0)),(b6,Obj.cells (Value.cells (uv (pl h (df 0 M)))) 55 (0,0)),(b5,Obj.cells (Value.cells (uv (df 0 M))) 55 (0,0)),(b4,Obj.cells #[wZ,wZ,wZ,wZ] 55 (0,0)),(b3,Obj.cells (Value.cells (uv M)) 55 (0,0)),(b2,(bif L 3 then Obj.cells (Value.cells (uv (ph h (df 0 M)))) 55 (0,0) else Obj.cells (Value.cells (uv h)) 55 (0,0))),(b1,(bif L 2 then Obj.cells (Value.cells (uv (sm l (pl h (df 0 M))))) 55 (0,0) else Obj.cells (Value.cells (uv l)) 55 (0,0)))])) kr kr kr kr (H21.drew) ⟨?_,?_,?_,?_,trivial⟩ ?_
  ·exact xM 55 (.tmp 11) (fun _=>0) (fun g=>b8) (Value.cells (uv (sm l (pl h (df 0 M))))) 55 (0,0) (fun _ _ _ h=>h) (fun g=>by kernel_rfl) (fun g=>by kernel_rfl) (fun L g _=>by kernel_rfl) kr
  ·exact xM 55 (.tmp 10) (fun _=>1) (fun g=>b7) (Value.cells (uv (ph h (df 0 M)))) 55 (0,0) (fun _ _ _ h=>h) (fun g=>by kernel_rfl) (fun g=>by kernel_rfl) (fun L g _=>by kernel_rfl) kr
  ·exact vV (fun _=>7) 55 (.tmp 3) (.tmp 34) (fun g=>b1) 0 (Value.cells (uv l)) (Value.cells (uv (sm l (pl h (df 0 M))))) 55 (uv (sm l (pl h (df 0 M)))) (fun g=>by kernel_rfl) (fun g=>by kernel_rfl) (fun g=>by kernel_rfl) kr kr (of_decide_eq_true kr) kr (fun L g hN=>by (have hs2:L 2=false:=hN.1;show ([(b8,Obj.cells (Value.cells (uv (sm l (pl h (df 0 M))))) 55 (0,0)),(b7,Obj.cells (Value.cells (uv (ph h (df 0 M)))) 55 (0,0)),(b6,Obj.cells (Value.cells (uv (pl h (df 0 M)))) 55 (0,0)),(b5,Obj.cells (Value.cells (uv (df 0 M))) 55 (0,0)),(b4,Obj.cells #[wZ,wZ,wZ,wZ] 55 (0,0)),(b3,Obj.cells (Value.cells (uv M)) 55 (0,0)),(b2,(bif L 3 then Obj.cells (Value.cells (uv (ph h (df 0 M)))) 55 (0,0) else Obj.cells (Value.cells (uv h)) 55 (0,0))),(b1,(bif L 2 then Obj.cells (Value.cells (uv (sm l (pl h (df 0 M))))) 55 (0,0) else Obj.cells (Value.cells (uv l)) 55 (0,0)))])[(fun _=>7) L]? =some (b1,Obj.cells (Value.cells (uv l)) 55 (0,0))∧([(b8,Obj.cells (Value.cells (uv (sm l (pl h (df 0 M))))) 55 (0,0)),(b7,Obj.cells (Value.cells (uv (ph h (df 0 M)))) 55 (0,0)),(b6,Obj.cells (Value.cells (uv (pl h (df 0 M)))) 55 (0,0)),(b5,Obj.cells (Value.cells (uv (df 0 M))) 55 (0,0)),(b4,Obj.cells #[wZ,wZ,wZ,wZ] 55 (0,0)),(b3,Obj.cells (Value.cells (uv M)) 55 (0,0)),(b2,(bif L 3 then Obj.cells (Value.cells (uv (ph h (df 0 M)))) 55 (0,0) else Obj.cells (Value.cells (uv h)) 55 (0,0))),(b1,(bif L 2 then Obj.cells (Value.cells (uv (sm l (pl h (df 0 M))))) 55 (0,0) else Obj.cells (Value.cells (uv l)) 55 (0,0)))]).set ((fun _=>7) L) (b1,Obj.cells (Value.cells (uv (sm l (pl h (df 0 M))))) 55 (0,0))=([(b8,Obj.cells (Value.cells (uv (sm l (pl h (df 0 M))))) 55 (0,0)),(b7,Obj.cells (Value.cells (uv (ph h (df 0 M)))) 55 (0,0)),(b6,Obj.cells (Value.cells (uv (pl h (df 0 M)))) 55 (0,0)),(b5,Obj.cells (Value.cells (uv (df 0 M))) 55 (0,0)),(b4,Obj.cells #[wZ,wZ,wZ,wZ] 55 (0,0)),(b3,Obj.cells (Value.cells (uv M)) 55 (0,0)),(b2,(bif L 3 then Obj.cells (Value.cells (uv (ph h (df 0 M)))) 55 (0,0) else Obj.cells (Value.cells (uv h)) 55 (0,0))),(b1,(bif true then Obj.cells (Value.cells (uv (sm l (pl h (df 0 M))))) 55 (0,0) else Obj.cells (Value.cells (uv l)) 55 (0,0)))]);rw [hs2];exact ⟨rfl,rfl⟩))
  ·exact vV (fun _=>6) 55 (.tmp 4) (.tmp 35) (fun g=>b2) 0 (Value.cells (uv h)) (Value.cells (uv (ph h (df 0 M)))) 55 (uv (ph h (df 0 M))) (fun g=>by kernel_rfl) (fun g=>by kernel_rfl) (fun g=>by kernel_rfl) kr kr (of_decide_eq_true kr) kr (fun L g hN=>by (have hs3:L 3=false:=hN.1;show ([(b8,Obj.cells (Value.cells (uv (sm l (pl h (df 0 M))))) 55 (0,0)),(b7,Obj.cells (Value.cells (uv (ph h (df 0 M)))) 55 (0,0)),(b6,Obj.cells (Value.cells (uv (pl h (df 0 M)))) 55 (0,0)),(b5,Obj.cells (Value.cells (uv (df 0 M))) 55 (0,0)),(b4,Obj.cells #[wZ,wZ,wZ,wZ] 55 (0,0)),(b3,Obj.cells (Value.cells (uv M)) 55 (0,0)),(b2,(bif L 3 then Obj.cells (Value.cells (uv (ph h (df 0 M)))) 55 (0,0) else Obj.cells (Value.cells (uv h)) 55 (0,0))),(b1,(bif L 2 then Obj.cells (Value.cells (uv (sm l (pl h (df 0 M))))) 55 (0,0) else Obj.cells (Value.cells (uv l)) 55 (0,0)))])[(fun _=>6) L]? =some (b2,Obj.cells (Value.cells (uv h)) 55 (0,0))∧([(b8,Obj.cells (Value.cells (uv (sm l (pl h (df 0 M))))) 55 (0,0)),(b7,Obj.cells (Value.cells (uv (ph h (df 0 M)))) 55 (0,0)),(b6,Obj.cells (Value.cells (uv (pl h (df 0 M)))) 55 (0,0)),(b5,Obj.cells (Value.cells (uv (df 0 M))) 55 (0,0)),(b4,Obj.cells #[wZ,wZ,wZ,wZ] 55 (0,0)),(b3,Obj.cells (Value.cells (uv M)) 55 (0,0)),(b2,(bif L 3 then Obj.cells (Value.cells (uv (ph h (df 0 M)))) 55 (0,0) else Obj.cells (Value.cells (uv h)) 55 (0,0))),(b1,(bif L 2 then Obj.cells (Value.cells (uv (sm l (pl h (df 0 M))))) 55 (0,0) else Obj.cells (Value.cells (uv l)) 55 (0,0)))]).set ((fun _=>6) L) (b2,Obj.cells (Value.cells (uv (ph h (df 0 M)))) 55 (0,0))=([(b8,Obj.cells (Value.cells (uv (sm l (pl h (df 0 M))))) 55 (0,0)),(b7,Obj.cells (Value.cells (uv (ph h (df 0 M)))) 55 (0,0)),(b6,Obj.cells (Value.cells (uv (pl h (df 0 M)))) 55 (0,0)),(b5,Obj.cells (Value.cells (uv (df 0 M))) 55 (0,0)),(b4,Obj.cells #[wZ,wZ,wZ,wZ] 55 (0,0)),(b3,Obj.cells (Value.cells (uv M)) 55 (0,0)),(b2,(bif true then Obj.cells (Value.cells (uv (ph h (df 0 M)))) 55 (0,0) else Obj.cells (Value.cells (uv h)) 55 (0,0))),(b1,(bif L 2 then Obj.cells (Value.cells (uv (sm l (pl h (df 0 M))))) 55 (0,0) else Obj.cells (Value.cells (uv l)) 55 (0,0)))]);rw [hs3];exact ⟨rfl,rfl⟩))
  intro L0 g22 w22 hall HL;clear H21;have H22:St w.heap.size w w22 [(b8,Obj.cells (Value.cells (uv (sm l (pl h (df 0 M))))) 55 (0,0)),(b7,Obj.cells (Value.cells (uv (ph h (df 0 M)))) 55 (0,0)),(b6,Obj.cells (Value.cells (uv (pl h (df 0 M)))) 55 (0,0)),(b5,Obj.cells (Value.cells (uv (df 0 M))) 55 (0,0)),(b4,Obj.cells #[wZ,wZ,wZ,wZ] 55 (0,0)),(b3,Obj.cells (Value.cells (uv M)) 55 (0,0)),(b2,Obj.cells (Value.cells (uv (ph h (df 0 M)))) 55 (0,0)),(b1,Obj.cells (Value.cells (uv (sm l (pl h (df 0 M))))) 55 (0,0))]:=by have e2:=hall 2 (Nat.le_of_ble_eq_true kr);have e3:=hall 3 (Nat.le_of_ble_eq_true kr);simp only [e2,e3,cond_true] at HL;exact HL
  clear HL hall;refine zg [0] kr kr ?_;obtain ⟨h',hh1,hh2,hfold⟩:=zhf hM hl hh hne;cases hov:ov l (pl h (df 0 M))
  ·rw [hov] at hh1;simp only [Bool.false_eq_true,if_false] at hh1;subst hh1;refine zd (some 36) (.bool false) (fun w=>by kernel_rfl) kr<|zb<|zl kr kr<|zn kr ?_;have HD1:St w.heap.size w w22 [(b5,Obj.cells (Value.cells (uv (df 0 M))) 55 (0,0)),(b4,Obj.cells #[wZ,wZ,wZ,wZ] 55 (0,0)),(b3,Obj.cells (Value.cells (uv M)) 55 (0,0)),(b2,Obj.cells (Value.cells (uv (ph h (df 0 M)))) 55 (0,0)),(b1,Obj.cells (Value.cells (uv (sm l (pl h (df 0 M))))) 55 (0,0))]:=H22.sub (List.Sublist.cons _ (List.Sublist.cons _ (List.Sublist.cons _ (List.Sublist.cons_cons _ (List.Sublist.cons_cons _ (List.Sublist.cons_cons _ (List.Sublist.cons_cons _ (List.Sublist.cons_cons _ List.Sublist.slnil))))))));show ∃m,_∧_;exact ⟨_,(zdd hM hne hfold),(sm l (pl h (df 0 M))),(ph h (df 0 M)),rfl,(za6 _ _),hh2,(zdc hfold hm),HD1,(Is.of ⟨kr,kr,kr,kr,kr,kr,kr,kr,trivial⟩)⟩
  ·rw [hov] at hh1;simp only [if_true] at hh1;subst hh1;refine zd (some 36) (.bool true) (fun w=>by kernel_rfl) kr<|zb<|zj kr kr<|g_draw0 [0,1,2,3,4,5,6] [((some 38),fun _=>uv (ph h (df 0 M))),((some 39),fun _=>uv 1),((some 40),fun _=>.tuple #[uv (sm (ph h (df 0 M)) 1),.bool (ov (ph h (df 0 M)) 1)]),((some 37),fun _=>.tuple #[uv (sm (ph h (df 0 M)) 1),.bool (ov (ph h (df 0 M)) 1)]),((some 41),fun _=>uv (sm (ph h (df 0 M)) 1)),((some 42),fun _=>.bool (ov (ph h (df 0 M)) 1)),(none,fun _=>undef)] (fun L g x=>St w.heap.size w x ([(b8,Obj.cells (Value.cells (uv (sm l (pl h (df 0 M))))) 55 (0,0)),(b7,Obj.cells (Value.cells (uv (ph h (df 0 M)))) 55 (0,0)),(b6,Obj.cells (Value.cells (uv (pl h (df 0 M)))) 55 (0,0)),(b5,Obj.cells (Value.cells (uv (df 0 M))) 55 (0,0)),(b4,Obj.cells #[wZ,wZ,wZ,wZ] 55 (0,0)),(b3,Obj.cells (Value.cells (uv M)) 55 (0,0)),(b2,(bif L 6 then Obj.cells (Value.cells (uv (sm (ph h (df 0 M)) 1))) 55 (0,0) else Obj.cells (Value.cells (uv (ph h (df 0 M)))) 55 (0,0))),(b1,Obj.cells (Value.cells (uv (sm l (pl h (df 0 M))))) 55 (0,0))])) kr kr kr (H22.drew) ⟨?_,?_,?_,?_,?_,?_,?_,trivial⟩ ?_
   ·exact xM 55 (.tmp 10) (fun _=>1) (fun g=>b7) (Value.cells (uv (ph h (df 0 M)))) 55 (0,0) (fun _ _ _ h=>h) (fun g=>by kernel_rfl) (fun g=>by kernel_rfl) (fun L g _=>by kernel_rfl) kr
   ·exact kQ 120 #[.int .u64 1] (fun _ _ _ h=>h) (zhs 1 (by omega)) (fun g w=>by kernel_rfl)
   ·exact kQ 115 #[uv (ph h (df 0 M)),uv 1] (fun _ _ _ h=>h) (za9 (ph h (df 0 M)) 1 (zhd hh (za7 _ _)) (by unfold big;omega)) (fun g w=>by kernel_rfl)
   ·exact gv_val (fun _ _ _ h=>h) (fun g w=>by kernel_rfl)
   ·exact gv_val (fun _ _ _ h=>h) (fun g w=>by kernel_rfl)
   ·exact gv_val (fun _ _ _ h=>h) (fun g w=>by kernel_rfl)
   ·exact vV (fun _=>6) 55 (.tmp 4) (.tmp 41) (fun g=>b2) 0 (Value.cells (uv (ph h (df 0 M)))) (Value.cells (uv (sm (ph h (df 0 M)) 1))) 55 (uv (sm (ph h (df 0 M)) 1)) (fun g=>by kernel_rfl) (fun g=>by kernel_rfl) (fun g=>by kernel_rfl) kr kr (of_decide_eq_true kr) kr (fun L g hN=>by (have hs6:L 6=false:=hN.1;show ([(b8,Obj.cells (Value.cells (uv (sm l (pl h (df 0 M))))) 55 (0,0)),(b7,Obj.cells (Value.cells (uv (ph h (df 0 M)))) 55 (0,0)),(b6,Obj.cells (Value.cells (uv (pl h (df 0 M)))) 55 (0,0)),(b5,Obj.cells (Value.cells (uv (df 0 M))) 55 (0,0)),(b4,Obj.cells #[wZ,wZ,wZ,wZ] 55 (0,0)),(b3,Obj.cells (Value.cells (uv M)) 55 (0,0)),(b2,(bif L 6 then Obj.cells (Value.cells (uv (sm (ph h (df 0 M)) 1))) 55 (0,0) else Obj.cells (Value.cells (uv (ph h (df 0 M)))) 55 (0,0))),(b1,Obj.cells (Value.cells (uv (sm l (pl h (df 0 M))))) 55 (0,0))])[(fun _=>6) L]? =some (b2,Obj.cells (Value.cells (uv (ph h (df 0 M)))) 55 (0,0))∧([(b8,Obj.cells (Value.cells (uv (sm l (pl h (df 0 M))))) 55 (0,0)),(b7,Obj.cells (Value.cells (uv (ph h (df 0 M)))) 55 (0,0)),(b6,Obj.cells (Value.cells (uv (pl h (df 0 M)))) 55 (0,0)),(b5,Obj.cells (Value.cells (uv (df 0 M))) 55 (0,0)),(b4,Obj.cells #[wZ,wZ,wZ,wZ] 55 (0,0)),(b3,Obj.cells (Value.cells (uv M)) 55 (0,0)),(b2,(bif L 6 then Obj.cells (Value.cells (uv (sm (ph h (df 0 M)) 1))) 55 (0,0) else Obj.cells (Value.cells (uv (ph h (df 0 M)))) 55 (0,0))),(b1,Obj.cells (Value.cells (uv (sm l (pl h (df 0 M))))) 55 (0,0))]).set ((fun _=>6) L) (b2,Obj.cells (Value.cells (uv (sm (ph h (df 0 M)) 1))) 55 (0,0))=([(b8,Obj.cells (Value.cells (uv (sm l (pl h (df 0 M))))) 55 (0,0)),(b7,Obj.cells (Value.cells (uv (ph h (df 0 M)))) 55 (0,0)),(b6,Obj.cells (Value.cells (uv (pl h (df 0 M)))) 55 (0,0)),(b5,Obj.cells (Value.cells (uv (df 0 M))) 55 (0,0)),(b4,Obj.cells #[wZ,wZ,wZ,wZ] 55 (0,0)),(b3,Obj.cells (Value.cells (uv M)) 55 (0,0)),(b2,(bif true then Obj.cells (Value.cells (uv (sm (ph h (df 0 M)) 1))) 55 (0,0) else Obj.cells (Value.cells (uv (ph h (df 0 M)))) 55 (0,0))),(b1,Obj.cells (Value.cells (uv (sm l (pl h (df 0 M))))) 55 (0,0))]);rw [hs6];exact ⟨rfl,rfl⟩))
   intro L0 g23 w23 hall HL;clear H22;have H23:St w.heap.size w w23 [(b8,Obj.cells (Value.cells (uv (sm l (pl h (df 0 M))))) 55 (0,0)),(b7,Obj.cells (Value.cells (uv (ph h (df 0 M)))) 55 (0,0)),(b6,Obj.cells (Value.cells (uv (pl h (df 0 M)))) 55 (0,0)),(b5,Obj.cells (Value.cells (uv (df 0 M))) 55 (0,0)),(b4,Obj.cells #[wZ,wZ,wZ,wZ] 55 (0,0)),(b3,Obj.cells (Value.cells (uv M)) 55 (0,0)),(b2,Obj.cells (Value.cells (uv (sm (ph h (df 0 M)) 1))) 55 (0,0)),(b1,Obj.cells (Value.cells (uv (sm l (pl h (df 0 M))))) 55 (0,0))]:=by have e6:=hall 6 (Nat.le_of_ble_eq_true kr);simp only [e6,cond_true] at HL;exact HL
   clear HL hall;have HD2:St w.heap.size w w23 [(b5,Obj.cells (Value.cells (uv (df 0 M))) 55 (0,0)),(b4,Obj.cells #[wZ,wZ,wZ,wZ] 55 (0,0)),(b3,Obj.cells (Value.cells (uv M)) 55 (0,0)),(b2,Obj.cells (Value.cells (uv (sm (ph h (df 0 M)) 1))) 55 (0,0)),(b1,Obj.cells (Value.cells (uv (sm l (pl h (df 0 M))))) 55 (0,0))]:=H23.sub (List.Sublist.cons _ (List.Sublist.cons _ (List.Sublist.cons _ (List.Sublist.cons_cons _ (List.Sublist.cons_cons _ (List.Sublist.cons_cons _ (List.Sublist.cons_cons _ (List.Sublist.cons_cons _ List.Sublist.slnil))))))));show ∃m,_∧_;exact ⟨_,(zdd hM hne hfold),(sm l (pl h (df 0 M))),(sm (ph h (df 0 M)) 1),rfl,(za6 _ _),hh2,(zdc hfold hm),HD2,(Is.of ⟨kr,kr,kr,kr,kr,kr,kr,kr,trivial⟩)⟩
theorem uw:Fn Tryz.prog 95 #[.int .i64 1] (.tuple #[uv NR,.int .i64 0]):=by
 refine Fn.intro (c:=zf Tryz.f95) [.cell 2 55,.tmp 3] 12 Tryz.func95 kr kr kr fun w=>?_;have H0:=St.start w;refine zg [0,1] kr kr<|zE H0 (some 2) 55 (.agg #[wZ,wZ,wZ,wZ]) kr kr kr ?_;intro b1 w1 H1;clear H0;refine zd (some 3) (.int .i64 0) (fun w=>by kernel_rfl) kr<|zb<|zc kr<|zg [0] kr kr<|zd (some 4) (.int .i64 1) (fun w=>by kernel_rfl) kr<|zb<|zz 0 kr<|zg [0,1] kr kr<|zd (some 6) (.bool false) (fun w=>by kernel_rfl) kr<|zd (some 5) (.bool false) (fun w=>by kernel_rfl) kr<|zb<|zl kr kr<|zg [0,1] kr kr<|zd (some 9) (.bool true) (fun w=>by kernel_rfl) kr<|zd (some 8) (.bool true) (fun w=>by kernel_rfl) kr<|zb<|zj kr kr<|zg [0,1,2] kr kr<|zd (some 10) (.agg #[.int .u64 0xbfd25e8cd0364141,.int .u64 0xbaaedce6af48a03b,.int .u64 0xfffffffffffffffe,.int .u64 0xffffffffffffffff]) (fun w=>by kernel_rfl) kr<|yX H1 0 [(b1,Obj.cells #[.int .u64 0xbfd25e8cd0364141,.int .u64 0xbaaedce6af48a03b,.int .u64 0xfffffffffffffffe,.int .u64 0xffffffffffffffff] 55 (0,0))] 55 (.tmp 2) (.tmp 10) b1 0 #[wZ,wZ,wZ,wZ] #[.int .u64 0xbfd25e8cd0364141,.int .u64 0xbaaedce6af48a03b,.int .u64 0xfffffffffffffffe,.int .u64 0xffffffffffffffff] 55 (.agg #[.int .u64 0xbfd25e8cd0364141,.int .u64 0xbaaedce6af48a03b,.int .u64 0xfffffffffffffffe,.int .u64 0xffffffffffffffff]) kr kr kr kr kr kr (of_decide_eq_true kr) kr kr ?_;intro w2 H2;clear H1;refine zd (some 3) (.int .i64 0) (fun w=>by kernel_rfl) kr<|zb<|zk kr<|wV ?_;refine ⟨[.agg #[.int .u64 0xbfd25e8cd0364141,.int .u64 0xbaaedce6af48a03b,.int .u64 0xfffffffffffffffe,.int .u64 0xffffffffffffffff],.int .i64 0],(.agg (b:=b1) #[.int .u64 0xbfd25e8cd0364141,.int .u64 0xbaaedce6af48a03b,.int .u64 0xfffffffffffffffe,.int .u64 0xffffffffffffffff] 55 (0,0) kr (H2.get 0 kr) kr (.tmp (.int .i64 0) kr .nil)),?_,H2.below⟩
 kernel_rfl
theorem zhv (A B:Nat)(hA:A<big)(hB:B<big):Fn Tryz.prog 108 #[uv A,uv B,.int .i64 1] (.tuple #[uv (qe A B NR),.int .i64 0]):=by
 refine Fn.intro (c:=zf Tryz.f108) [.cell 6 55,.tmp 7] 41 Tryz.func108 kr kr kr fun w=>?_;have H0:=St.start w;refine zg [0,1,2,3] kr kr<|jw H0 (some 3) 55 (.tmp 0) (uv A) kr kr kr ?_;intro b1 w1 H1;clear H0;refine jw H1 (some 4) 55 (.tmp 1) (uv B) kr kr kr ?_;intro b2 w2 H2;clear H1;refine zE H2 (some 6) 55 (.agg #[wZ,wZ,wZ,wZ]) kr kr kr ?_;intro b3 w3 H3;clear H2;refine zd (some 7) (.int .i64 0) (fun w=>by kernel_rfl) kr<|zb<|zg [0,1,2,3,4,5,6,7] kr kr<|zd (some 13) (.int .i64 1) (fun w=>by kernel_rfl) kr<|jJ H3 (some 14) 95 #[.int .i64 1] (.tuple #[uv NR,.int .i64 0]) uw (fun w=>by kernel_rfl) kr ?_;intro w4 H4;clear H3;refine zd (some 12) (.tuple #[uv NR,.int .i64 0]) (fun w=>by kernel_rfl) kr<|zd (some 15) (uv NR) (fun w=>by kernel_rfl) kr<|zd (some 16) (.int .i64 0) (fun w=>by kernel_rfl) kr<|zE H4 (some 8) 55 (.agg #[wZ,wZ,wZ,wZ]) kr kr kr ?_;intro b4 w5 H5;clear H4;refine yX H5 0 [(b4,Obj.cells (Value.cells (uv NR)) 55 (0,0)),(b3,Obj.cells #[wZ,wZ,wZ,wZ] 55 (0,0)),(b2,Obj.cells (Value.cells (uv B)) 55 (0,0)),(b1,Obj.cells (Value.cells (uv A)) 55 (0,0))] 55 (.tmp 8) (.tmp 15) b4 0 #[wZ,wZ,wZ,wZ] (Value.cells (uv NR)) 55 (uv NR) kr kr kr kr kr kr (of_decide_eq_true kr) kr kr ?_;intro w6 H6;clear H5;refine zd (some 9) (.int .i64 0) (fun w=>by kernel_rfl) kr<|zb<|zc kr<|zg [0,1] kr kr<|zd (some 17) (.int .i64 0) (fun w=>by kernel_rfl) kr<|zd (some 18) (.bool false) (fun w=>by kernel_rfl) kr<|zb<|zl kr kr<|zn kr<|wW<|g_sdraw [0,1,2,3,4,5,6,7,8,9,10,11,12,13,14] [((some 22),fun _=>uv A),((some 23),fun _=>.agg #[wZ,wZ,wZ,wZ]),((some 24),fun _=>uv NR),((some 25),fun _=>uv (rs A 0 NR)),((some 26),fun _=>uv B),((some 27),fun _=>.agg #[wZ,wZ,wZ,wZ]),((some 28),fun _=>uv NR),((some 29),fun _=>uv (rs B 0 NR)),((some 30),fun _=>.tuple #[uv (df (rs A 0 NR) (rs B 0 NR)),.bool (lo (rs A 0 NR) (rs B 0 NR))]),((some 21),fun _=>.tuple #[uv (df (rs A 0 NR) (rs B 0 NR)),.bool (lo (rs A 0 NR) (rs B 0 NR))]),((some 31),fun _=>uv (df (rs A 0 NR) (rs B 0 NR))),((some 32),fun _=>.bool (lo (rs A 0 NR) (rs B 0 NR))),((some 10),fun b=>.pointer (some ⟨b,0,none⟩)),(none,fun _=>undef),((some 11),fun _=>.bool (lo (rs A 0 NR) (rs B 0 NR)))] (fun L g x=>St w.heap.size w x ([(b4,Obj.cells (Value.cells (uv NR)) 55 (0,0)),(b3,Obj.cells #[wZ,wZ,wZ,wZ] 55 (0,0)),(b2,Obj.cells (Value.cells (uv B)) 55 (0,0)),(b1,Obj.cells (Value.cells (uv A)) 55 (0,0))]++(bif L 12 then [(g 12,(bif L 13 then Obj.cells (Value.cells (uv (df (rs A 0 NR) (rs B 0 NR)))) 55 (0,0) else Obj.cells #[wZ,wZ,wZ,wZ] 55 (0,0)))] else []))) kr kr kr kr (H6.drew) ⟨?_,?_,?_,?_,?_,?_,?_,?_,?_,?_,?_,?_,?_,?_,?_,trivial⟩ ?_
 ·exact xM 55 (.tmp 3) (fun _=>3) (fun g=>b1) (Value.cells (uv A)) 55 (0,0) (fun _ _ _ h=>h) (fun g=>by kernel_rfl) (fun g=>by kernel_rfl) (fun L g _=>by kernel_rfl) kr
 ·exact gv_val (fun _ _ _ h=>h) (fun g w=>by kernel_rfl)
 ·exact xM 55 (.tmp 8) (fun _=>0) (fun g=>b4) (Value.cells (uv NR)) 55 (0,0) (fun _ _ _ h=>h) (fun g=>by kernel_rfl) (fun g=>by kernel_rfl) (fun L g _=>by kernel_rfl) kr
 ·exact kQ 114 #[uv A,.agg #[wZ,wZ,wZ,wZ],uv NR] (fun _ _ _ h=>h) (zdf A 0 NR hA (by unfold big;omega) jl) (fun g w=>by kernel_rfl)
 ·exact xM 55 (.tmp 4) (fun _=>2) (fun g=>b2) (Value.cells (uv B)) 55 (0,0) (fun _ _ _ h=>h) (fun g=>by kernel_rfl) (fun g=>by kernel_rfl) (fun L g _=>by kernel_rfl) kr
 ·exact gv_val (fun _ _ _ h=>h) (fun g w=>by kernel_rfl)
 ·exact xM 55 (.tmp 8) (fun _=>0) (fun g=>b4) (Value.cells (uv NR)) 55 (0,0) (fun _ _ _ h=>h) (fun g=>by kernel_rfl) (fun g=>by kernel_rfl) (fun L g _=>by kernel_rfl) kr
 ·exact kQ 114 #[uv B,.agg #[wZ,wZ,wZ,wZ],uv NR] (fun _ _ _ h=>h) (zdf B 0 NR hB (by unfold big;omega) jl) (fun g w=>by kernel_rfl)
 ·exact kQ 113 #[uv (rs A 0 NR),uv (rs B 0 NR)] (fun _ _ _ h=>h) (zba (rs A 0 NR) (rs B 0 NR) (zda jl) (zda jl)) (fun g w=>by kernel_rfl)
 ·exact gv_val (fun _ _ _ h=>h) (fun g w=>by kernel_rfl)
 ·exact gv_val (fun _ _ _ h=>h) (fun g w=>by kernel_rfl)
 ·exact gv_val (fun _ _ _ h=>h) (fun g w=>by kernel_rfl)
 ·exact zgj 55 (.agg #[wZ,wZ,wZ,wZ]) (fun L g=>[(b4,Obj.cells (Value.cells (uv NR)) 55 (0,0)),(b3,Obj.cells #[wZ,wZ,wZ,wZ] 55 (0,0)),(b2,Obj.cells (Value.cells (uv B)) 55 (0,0)),(b1,Obj.cells (Value.cells (uv A)) 55 (0,0))]) (fun L g=>([]:List (Nat×Obj))) (fun g=>by kernel_rfl) kr (fun L g hN=>by (have hn:L 12=false:=hN.1;show ([(b4,Obj.cells (Value.cells (uv NR)) 55 (0,0)),(b3,Obj.cells #[wZ,wZ,wZ,wZ] 55 (0,0)),(b2,Obj.cells (Value.cells (uv B)) 55 (0,0)),(b1,Obj.cells (Value.cells (uv A)) 55 (0,0))]++(bif L 12 then [(g 12,(bif L 13 then Obj.cells (Value.cells (uv (df (rs A 0 NR) (rs B 0 NR)))) 55 (0,0) else Obj.cells #[wZ,wZ,wZ,wZ] 55 (0,0)))] else []))=([(b4,Obj.cells (Value.cells (uv NR)) 55 (0,0)),(b3,Obj.cells #[wZ,wZ,wZ,wZ] 55 (0,0)),(b2,Obj.cells (Value.cells (uv B)) 55 (0,0)),(b1,Obj.cells (Value.cells (uv A)) 55 (0,0))])++(([]:List (Nat×Obj)));rw [hn];rfl)) (fun L g b hN=>by (have hz:L 13=false:=hN.2.2.no 12 13 kr hN.1;show ([(b4,Obj.cells (Value.cells (uv NR)) 55 (0,0)),(b3,Obj.cells #[wZ,wZ,wZ,wZ] 55 (0,0)),(b2,Obj.cells (Value.cells (uv B)) 55 (0,0)),(b1,Obj.cells (Value.cells (uv A)) 55 (0,0))])++(b,Obj.cells #[wZ,wZ,wZ,wZ] 55 (0,0))::(([]:List (Nat×Obj)))=([(b4,Obj.cells (Value.cells (uv NR)) 55 (0,0)),(b3,Obj.cells #[wZ,wZ,wZ,wZ] 55 (0,0)),(b2,Obj.cells (Value.cells (uv B)) 55 (0,0)),(b1,Obj.cells (Value.cells (uv A)) 55 (0,0))]++([(b,(bif L 13 then Obj.cells (Value.cells (uv (df (rs A 0 NR) (rs B 0 NR)))) 55 (0,0) else Obj.cells #[wZ,wZ,wZ,wZ] 55 (0,0)))]));rw [hz];rfl))
 ·exact vV (fun _=>4) 55 (.tmp 10) (.tmp 31) (fun g=>g 12) 0 #[wZ,wZ,wZ,wZ] (Value.cells (uv (df (rs A 0 NR) (rs B 0 NR)))) 55 (uv (df (rs A 0 NR) (rs B 0 NR))) (fun g=>by kernel_rfl) (fun g=>by kernel_rfl) (fun g=>by kernel_rfl) kr kr (of_decide_eq_true kr) kr (fun L g hN=>by (have hs13:L 13=false:=hN.1;have hs12:L 12=true:=before_yes hN.2.1 12 kr;show ([(b4,Obj.cells (Value.cells (uv NR)) 55 (0,0)),(b3,Obj.cells #[wZ,wZ,wZ,wZ] 55 (0,0)),(b2,Obj.cells (Value.cells (uv B)) 55 (0,0)),(b1,Obj.cells (Value.cells (uv A)) 55 (0,0))]++(bif L 12 then [(g 12,(bif L 13 then Obj.cells (Value.cells (uv (df (rs A 0 NR) (rs B 0 NR)))) 55 (0,0) else Obj.cells #[wZ,wZ,wZ,wZ] 55 (0,0)))] else []))[(fun _=>4) L]? =some (g 12,Obj.cells #[wZ,wZ,wZ,wZ] 55 (0,0))∧([(b4,Obj.cells (Value.cells (uv NR)) 55 (0,0)),(b3,Obj.cells #[wZ,wZ,wZ,wZ] 55 (0,0)),(b2,Obj.cells (Value.cells (uv B)) 55 (0,0)),(b1,Obj.cells (Value.cells (uv A)) 55 (0,0))]++(bif L 12 then [(g 12,(bif L 13 then Obj.cells (Value.cells (uv (df (rs A 0 NR) (rs B 0 NR)))) 55 (0,0) else Obj.cells #[wZ,wZ,wZ,wZ] 55 (0,0)))] else [])).set ((fun _=>4) L) (g 12,Obj.cells (Value.cells (uv (df (rs A 0 NR) (rs B 0 NR)))) 55 (0,0))=([(b4,Obj.cells (Value.cells (uv NR)) 55 (0,0)),(b3,Obj.cells #[wZ,wZ,wZ,wZ] 55 (0,0)),(b2,Obj.cells (Value.cells (uv B)) 55 (0,0)),(b1,Obj.cells (Value.cells (uv A)) 55 (0,0))]++(bif L 12 then [(g 12,(bif true then Obj.cells (Value.cells (uv (df (rs A 0 NR) (rs B 0 NR)))) 55 (0,0) else Obj.cells #[wZ,wZ,wZ,wZ] 55 (0,0)))] else []));rw [hs13,hs12];exact ⟨rfl,rfl⟩))
 ·exact gv_val (fun _ _ _ h=>h) (fun g w=>by kernel_rfl)
 intro L0 g7 w7 hall HL;clear H6;have H7:St w.heap.size w w7 [(b4,Obj.cells (Value.cells (uv NR)) 55 (0,0)),(b3,Obj.cells #[wZ,wZ,wZ,wZ] 55 (0,0)),(b2,Obj.cells (Value.cells (uv B)) 55 (0,0)),(b1,Obj.cells (Value.cells (uv A)) 55 (0,0)),((g7 12),Obj.cells (Value.cells (uv (df (rs A 0 NR) (rs B 0 NR)))) 55 (0,0))]:=by have e13:=hall 13 (Nat.le_of_ble_eq_true kr);have e12:=hall 12 (Nat.le_of_ble_eq_true kr);simp only [e13,e12,cond_true] at HL;exact HL
 clear HL hall;refine zc kr<|zg [0] kr kr ?_;cases hlo:lo (rs A 0 NR) (rs B 0 NR)
 ·refine zd (some 33) (.bool false) (fun w=>by kernel_rfl) kr<|zb<|zl kr kr<|zn kr<|wW<|zg [0,1,2] kr kr<|yw H7 (some 40) 55 (.tmp 10) 4 (g7 12) (Value.cells (uv (df (rs A 0 NR) (rs B 0 NR)))) 55 (0,0) kr kr kr kr kr<|yX H7 1 [(b4,Obj.cells (Value.cells (uv NR)) 55 (0,0)),(b3,Obj.cells (Value.cells (uv (df (rs A 0 NR) (rs B 0 NR)))) 55 (0,0)),(b2,Obj.cells (Value.cells (uv B)) 55 (0,0)),(b1,Obj.cells (Value.cells (uv A)) 55 (0,0)),((g7 12),Obj.cells (Value.cells (uv (df (rs A 0 NR) (rs B 0 NR)))) 55 (0,0))] 55 (.tmp 6) (.tmp 40) b3 0 #[wZ,wZ,wZ,wZ] (Value.cells (uv (df (rs A 0 NR) (rs B 0 NR)))) 55 (uv (df (rs A 0 NR) (rs B 0 NR))) kr kr kr kr kr kr (of_decide_eq_true kr) kr kr ?_;intro w8 H8;clear H7;refine zd (some 7) (.int .i64 0) (fun w=>by kernel_rfl) kr<|zb<|zk kr<|wV ?_;refine ⟨[uv (df (rs A 0 NR) (rs B 0 NR)),.int .i64 0],(.agg (b:=b3) (Value.cells (uv (df (rs A 0 NR) (rs B 0 NR)))) 55 (0,0) kr (H8.get 1 kr) kr (.tmp (.int .i64 0) kr .nil)),?_,H8.below⟩;exact congrArg (fun n=>Value.tuple #[uv n,.int .i64 0]) (zhj jl hlo)
 ·refine zd (some 33) (.bool true) (fun w=>by kernel_rfl) kr<|zb<|zj kr kr<|yo [0,1,2,3,4,5,6] kr<|yw H7 (some 35) 55 (.tmp 10) 4 (g7 12) (Value.cells (uv (df (rs A 0 NR) (rs B 0 NR)))) 55 (0,0) kr kr kr kr kr<|yw H7 (some 36) 55 (.tmp 8) 0 b4 (Value.cells (uv NR)) 55 (0,0) kr kr kr kr kr<|jJ H7 (some 37) 115 #[uv (df (rs A 0 NR) (rs B 0 NR)),uv NR] (.tuple #[uv (sm (df (rs A 0 NR) (rs B 0 NR)) NR),.bool (ov (df (rs A 0 NR) (rs B 0 NR)) NR)]) (za9 (df (rs A 0 NR) (rs B 0 NR)) NR (za7 _ _) jl.1) (fun w=>by kernel_rfl) kr ?_;intro w9 H9;clear H7;refine zd (some 34) (.tuple #[uv (sm (df (rs A 0 NR) (rs B 0 NR)) NR),.bool (ov (df (rs A 0 NR) (rs B 0 NR)) NR)]) (fun w=>by kernel_rfl) kr<|zd (some 38) (uv (sm (df (rs A 0 NR) (rs B 0 NR)) NR)) (fun w=>by kernel_rfl) kr<|zd (some 39) (.bool (ov (df (rs A 0 NR) (rs B 0 NR)) NR)) (fun w=>by kernel_rfl) kr<|yX H9 4 [(b4,Obj.cells (Value.cells (uv NR)) 55 (0,0)),(b3,Obj.cells #[wZ,wZ,wZ,wZ] 55 (0,0)),(b2,Obj.cells (Value.cells (uv B)) 55 (0,0)),(b1,Obj.cells (Value.cells (uv A)) 55 (0,0)),((g7 12),Obj.cells (Value.cells (uv (sm (df (rs A 0 NR) (rs B 0 NR)) NR))) 55 (0,0))] 55 (.tmp 10) (.tmp 38) (g7 12) 0 (Value.cells (uv (df (rs A 0 NR) (rs B 0 NR)))) (Value.cells (uv (sm (df (rs A 0 NR) (rs B 0 NR)) NR))) 55 (uv (sm (df (rs A 0 NR) (rs B 0 NR)) NR)) kr kr kr kr kr kr (of_decide_eq_true kr) kr kr ?_;intro w10 H10;clear H9;refine zb<|wW<|zg [0,1,2] kr kr<|yw H10 (some 40) 55 (.tmp 10) 4 (g7 12) (Value.cells (uv (sm (df (rs A 0 NR) (rs B 0 NR)) NR))) 55 (0,0) kr kr kr kr kr<|yX H10 1 [(b4,Obj.cells (Value.cells (uv NR)) 55 (0,0)),(b3,Obj.cells (Value.cells (uv (sm (df (rs A 0 NR) (rs B 0 NR)) NR))) 55 (0,0)),(b2,Obj.cells (Value.cells (uv B)) 55 (0,0)),(b1,Obj.cells (Value.cells (uv A)) 55 (0,0)),((g7 12),Obj.cells (Value.cells (uv (sm (df (rs A 0 NR) (rs B 0 NR)) NR))) 55 (0,0))] 55 (.tmp 6) (.tmp 40) b3 0 #[wZ,wZ,wZ,wZ] (Value.cells (uv (sm (df (rs A 0 NR) (rs B 0 NR)) NR))) 55 (uv (sm (df (rs A 0 NR) (rs B 0 NR)) NR)) kr kr kr kr kr kr (of_decide_eq_true kr) kr kr ?_;intro w11 H11;clear H10;refine zd (some 7) (.int .i64 0) (fun w=>by kernel_rfl) kr<|zb<|zk kr<|wV ?_;refine ⟨[uv (sm (df (rs A 0 NR) (rs B 0 NR)) NR),.int .i64 0],(.agg (b:=b3) (Value.cells (uv (sm (df (rs A 0 NR) (rs B 0 NR)) NR))) 55 (0,0) kr (H11.get 1 kr) kr (.tmp (.int .i64 0) kr .nil)),?_,H11.below⟩;exact congrArg (fun n=>Value.tuple #[uv n,.int .i64 0]) (zhi jl hlo)
end Go.Proofs.YthonokeibcodpaaGreatDoor
namespace Go.Proofs.YthonokeibcodpaaGreatDoor
def vl:List Nat→Nat
 | []=>0
 | d::r=>d+65536*vl r
def Ok (l:List Nat):Prop:= ∀d∈l,d<65536
open Go
set_option linter.unusedVariables false
structure zlQ (x y l:List Nat)(k:Nat)(c:Int):Prop where
 len:l.length=k
 ok:Ok l
 c0:0≤c
 c1:c≤1
 val:(vl l:Int)+65536^k*c=vl (x.take k)+vl (y.take k)
 top:k≤max x.length y.length+1
 last:k=max x.length y.length+1→c=0
def ls (x y:List Nat):Bool:=decide (vl x<vl y)
structure zlR (x y l:List Nat)(k:Nat)(c:Int):Prop where
 len:l.length=k
 ok:Ok l
 c0:0≤c
 c1:c≤1
 val:(vl l:Int)-65536^k*c=vl (x.take k)-vl (y.take k)
structure zlS (x y out:List Nat)(i k c:Nat):Prop where
 len:out.length=x.length+y.length+1
 ok:Ok out
 hi:i<x.length
 cw:c<65536
 val:vl out+65536^(i+k)*c=vl (x.take i)*vl y+65536^i*(x.getD i 0*vl (y.take k))
 top:k≤y.length+1
 last:k=y.length+1→c=0
end Go.Proofs.YthonokeibcodpaaGreatDoor
namespace Go.Proofs.YthonokeibcodpaaGreatDoor
open Go Go.RowKit
set_option linter.unusedVariables false
@[reducible] def wu0 (n:Nat):Int:=w0 n
@[reducible] def wu1 (n:Nat):Int:=w1 n
@[reducible] def wu2 (n:Nat):Int:=w2 n
@[reducible] def wu3 (n:Nat):Int:=w3 n
def pv (p:Ec.Pd):Value:=.agg #[.int .u64 (w0 p.X),.int .u64 (w1 p.X),.int .u64 (w2 p.X),.int .u64 (w3 p.X),.int .u64 (w0 p.Y),.int .u64 (w1 p.Y),.int .u64 (w2 p.Y),.int .u64 (w3 p.Y),.bool p.b]
section
variable {P:Program}{N:Nat}{ops:Array Oper}{i:Nat}{r:List Nat}{K:Env→World→Prop}{ρ:Env}{w:World}{B:Nat}{w0:World}{l:List (Nat×Obj)}
end
namespace D2
section
variable {P:Program}{ops:Array Oper}{R:(Nat→Gh)→Env}{i:Nat}{d:Option Nat}
variable {E:(Nat→Bool)→(Nat→Gh)→List Ent}{F:(Nat→Bool)→(Nat→Gh)→Prop}{B:Nat}{w0:World}
end
end D2
end Go.Proofs.YthonokeibcodpaaGreatDoor
namespace Go.Proofs.YthonokeibcodpaaGreatDoor
open Go Go.ChangeShapes Go.WideShapes Go.ChangeAt Go.RowKit
set_option linter.unusedVariables false
set_option maxRecDepth 100000
theorem zhw:Tryz.prog.cellsOf 22=1:=kr
theorem zhx:Tryz.prog.cellsOf 55=4:=kr
theorem ux {x:Int}(h:(Lit.int .u64 x).wf=true):Wd x:=by
 have hmin:IntKind.u64.min=0:=rfl;have hmax:IntKind.u64.max=0xffffffffffffffff:=rfl;simp only [Lit.wf,Bool.and_eq_true,decide_eq_true_eq] at h;unfold Wd;omega
theorem zhy {α:Type}(l:List α)(h:(⟨l⟩:Array α).size=9):∃a b c d e f g i j,l=[a,b,c,d,e,f,g,i,j]:=by
 match l,h with
 | [a,b,c,d,e,f,g,i,j],_=>exact ⟨a,b,c,d,e,f,g,i,j,rfl⟩
theorem zdg {H:Type}{enc:TypeId×Value→H}{W:World}{b0:Nat}{sp:Nat→Bool}{held:Bool}{x:DataW H×List MemPlace}{fuel:Nat}{c0 c1 c2 c3:Value}
 (hf:DataW.trod enc Tryz.prog W b0 sp held fuel 55 [c0,c1,c2,c3]=some x):∃n:Nat,n<big∧c0=.int .u64 (w0 n)∧c1=.int .u64 (w1 n)∧c2=.int .u64 (w2 n)∧c3=.int .u64 (w3 n):=by
 obtain ⟨y0,y1,y2,y3,m,hx,hy0,hy1,hy2,hy3⟩:=trod_array4 Tryz.underlying55 zhw hf;obtain ⟨x0,e0,rfl,w0⟩:=DataW.trod_int Tryz.underlying22 hy0;obtain ⟨x1,e1,rfl,w1⟩:=DataW.trod_int Tryz.underlying22 hy1;obtain ⟨x2,e2,rfl,w2⟩:=DataW.trod_int Tryz.underlying22 hy2;obtain ⟨x3,e3,rfl,w3⟩:=DataW.trod_int Tryz.underlying22 hy3;simp at e0 e1 e2 e3;subst e0 e1 e2 e3;obtain ⟨n,hn,g0,g1,g2,g3⟩:=zg3 (ux w0) (ux w1) (ux w2) (ux w3);exact ⟨n,hn,by rw [g0],by rw [g1],by rw [g2],by rw [g3]⟩
end Go.Proofs.YthonokeibcodpaaGreatDoor
namespace Go.Proofs.YthonokeibcodpaaGreatDoor
open Go Go.RowKit
set_option linter.unusedVariables false
inductive Fo
 | nil
 | cons (l:Bool) (s:ByteArray) (k r:Fo)
def Fo.len:Fo→Nat
 | .nil=>0
 | .cons _ _ _ r=>r.len+1
def Fo.cnt:Fo→Nat
 | .nil=>0
 | .cons _ _ k r=>1+k.cnt+r.cnt
def qE (B:Nat)(w:World):Fo→Nat→Nat→Prop
 | .nil,_,_=>True
 | .cons l s k r,b,off=>(∃(C:Array Value) (T:TypeId) (fz:Nat×Nat) (p:Option Addr) (n c:Nat),b<B∧w.heap[b]? =some (.cells C T fz)∧off+3≤C.size∧
  C.extract off (off+3)=#[.bool l,.string s,.slice p n c]∧s.size≤0x800000000000∧n=k.len∧n≤0x800000000000∧(k=.nil∨∃b' off',p=some ⟨b',off',none⟩∧qE B w k b' off'))∧qE B w r b (off+3)
def zr (B:Nat)(w:World)(p:Option Addr)(n:Nat)(k:Fo):Prop:=n=k.len∧n≤0x800000000000∧(k=.nil∨∃b off,p=some ⟨b,off,none⟩∧qE B w k b off)
def FoR (B:Nat)(w:World)(p:Option Addr)(i:Nat)(r:Fo):Prop:=r=.nil∨∃b off,p=some ⟨b,off,none⟩∧qE B w r b (off+i*3)
theorem qE.up {B B':Nat}{w w':World}(hb:Below B w w')(hB:B≤B'): ∀ {k:Fo} {b off:Nat},qE B w k b off→qE B' w' k b off
 | .nil,_,_,_=>trivial
 | .cons l s k r,b,off,⟨⟨C,T,fz,p,n,c,h1,h2,h3,h4,h5,h6,h7,h8⟩,h9⟩=>
  ⟨⟨C,T,fz,p,n,c,Nat.lt_of_lt_of_le h1 hB,by rw [hb.block b h1];exact h2,h3,h4,h5,h6,h7,h8.imp id fun ⟨b',o',e,h⟩=>⟨b',o',e,qE.up hb hB h⟩⟩,qE.up hb hB h9⟩
theorem zr.up {B B':Nat}{w w':World}{p:Option Addr}{n:Nat}{k:Fo}(h:zr B w p n k)(hb:Below B w w')(hB:B≤B'):zr B' w' p n k:=
 ⟨h.1,h.2.1,h.2.2.imp id fun ⟨b,o,e,h⟩=>⟨b,o,e,h.up hb hB⟩⟩
theorem zr.call {w0 w:World}{p:Option Addr}{n:Nat}{k:Fo}(h:zr w0.heap.size w0 p n k)(hb:Below w0.heap.size w0 w):zr w.heap.size w p n k:=h.up hb hb.size
theorem zr.nil (B:Nat)(w:World)(p:Option Addr):zr B w p 0 .nil:=⟨rfl,by omega,.inl rfl⟩
theorem zr.zero {B:Nat}{w:World}{p:Option Addr}{n:Nat}{k:Fo}(h:zr B w p n k)(h0:n=0):k=.nil:=by
 cases k with
 | nil=>rfl
 | cons l s k r=>have:=h.1;simp only [Fo.len] at this;omega
theorem zr.start {B:Nat}{w:World}{p:Option Addr}{n:Nat}{k:Fo}(h:zr B w p n k):FoR B w p 0 k:=
 h.2.2.imp id fun ⟨b,o,e,h⟩=>⟨b,o,e,by rw [Nat.zero_mul,Nat.add_zero];exact h⟩
theorem FoR.open {B:Nat}{w:World}{p:Option Addr}{i n:Nat}{r:Fo}(h:FoR B w p i r)(hn:i+r.len=n)(hi:i<n):
 ∃l s k r' b off C T fz p' n' c',r=.cons l s k r'∧p=some ⟨b,off,none⟩∧b<B∧w.heap[b]? =some (.cells C T fz)∧off+i*3+3≤C.size∧
  C.extract (off+i*3) (off+i*3+3)=#[.bool l,.string s,.slice p' n' c']∧s.size≤0x800000000000∧zr B w p' n' k∧FoR B w p (i+1) r'∧i+1+r'.len=n:=by
 cases r with
 | nil=>simp only [Fo.len] at hn;omega
 | cons l s k r'=>
  rcases h with h|⟨b,off,e,⟨C,T,fz,p',n',c',h1,h2,h3,h4,h5,h6,h7,h8⟩,h9⟩
  ·cases h
  ·refine ⟨l,s,k,r',b,off,C,T,fz,p',n',c',rfl,e,h1,h2,h3,h4,h5,⟨h6,h7,h8⟩,.inr ⟨b,off,e,?_⟩,?_⟩
   ·rw [show off+(i+1)*3=off+i*3+3 by omega];exact h9
   ·simp only [Fo.len] at hn;omega
theorem FoR.done {i n:Nat}{r:Fo}(hn:i+r.len=n)(hi: ¬i<n):r=.nil:=by
 cases r with
 | nil=>rfl
 | cons l s k r'=>simp only [Fo.len] at hn;omega
theorem vu {P:Program}{ρ:Env}{t e:TypeId}{bytes:Nat}(ht:ye P t=some (e,3,bytes)){x y:Operand}{o:Oper}{kd:IntKind}{p:Option Addr}(b q n c k:Nat)(hp:p=some ⟨b,q,none⟩)(ho:o.op=.indexAddr t x y)(hx:ev ρ x=.slice p n c)(hy:ev ρ y=.int kd (k:Int))(hk:k<n):
 ∀w,(execOp (ev ρ) o).run P w=.ok (.value (.pointer (some ⟨b,q+k*3,none⟩))) w:=by
 subst hp;exact kT ht b q n c k ho hx hy hk
theorem Fo.len_le: ∀k:Fo,k.len≤k.cnt
 | .nil=>Nat.le_refl _
 | .cons _ _ k r=>by have:=Fo.len_le r;simp only [Fo.len,Fo.cnt];omega
def dgI:Nat→Nat→List UInt8
 | 0,_=>[]
 | m+1,n=>if n=0 then [] else dgI m (n / 256)++ [UInt8.ofNat n]
def dg (n:Nat):List UInt8:=dgI 8 n
def hd (f n:Nat):List UInt8:=if n≤55 then [UInt8.ofNat (f+n)] else UInt8.ofNat (f+55+(dg n).length)::dg n
def frm (l:Bool):Nat:=if l then 192 else 128
def zR (s:ByteArray):Bool:=decide (s.size=1)&&decide (by_ s 0<128)
def mixed (l:Bool)(s:ByteArray)(n:Nat):Bool:=if l then decide (s.size≠0) else decide (n≠0)
def wr1 (l:Bool)(s:ByteArray)(m:Nat)(ks:List UInt8):List UInt8:=(if zR s then [] else hd (frm l) (s.size+m))++(tl s++ks)
def sz1 (l:Bool)(s:ByteArray)(m:Nat):Nat:=if zR s then 1 else (hd (frm l) (s.size+m)).length+(s.size+m)
def szF:Fo→Nat
 | .nil=>0
 | .cons l s k r=>sz1 l s (szF k)+szF r
def wrF:Fo→List UInt8
 | .nil=>[]
 | .cons l s k r=>wr1 l s (szF k) (wrF k)++wrF r
def dp1 (l:Bool)(d:Nat):Nat:=if l then 1+d else 0
def dpF:Fo→Nat
 | .nil=>0
 | .cons l s k r=>max (dp1 l (dpF k)) (dpF r)
def pureF:Fo→Bool
 | .nil=>true
 | .cons l s k r=>(!mixed l s k.len&&pureF k)&&pureF r
def lf1 (l:Bool)(s:ByteArray)(k:Nat)(f:Nat→Option Nat)(room:Nat):Option Nat:=if room=0∨mixed l s k=true then none else f (room-1)
def lfF:Fo→Nat→Option Nat
 | .nil,room=>some room
 | .cons l s k r,room=>(lf1 l s k.len (lfF k) room).bind (lfF r)
def lfV:Option Nat→Int
 | none=> -1
 | some q=>(q:Int)
theorem xQ: ∀(k:Fo) (room:Nat),lfF k room=if pureF k=true∧k.cnt≤room then some (room-k.cnt) else none
 | .nil,room=>by simp [lfF,pureF,Fo.cnt]
 | .cons l s k r,room=>by
  have h1:=xQ k (room-1);have e1:pureF (.cons l s k r)=((!mixed l s k.len&&pureF k)&&pureF r):=rfl;have e2:(Fo.cons l s k r).cnt=1+k.cnt+r.cnt:=rfl;rw [show lfF (.cons l s k r) room=(lf1 l s k.len (lfF k) room).bind (lfF r) from rfl];unfold lf1;by_cases hr:room=0
  ·subst hr;rw [if_pos (Or.inl rfl),if_neg (by rw [e2];omega)];rfl
  ·cases hm:mixed l s k.len with
   | true=>rw [if_pos (Or.inr rfl),if_neg (by rw [e1,hm];simp)];rfl
   | false=>
    rw [if_neg (by simp [hr]),h1];cases hp:pureF k with
    | false=>rw [if_neg (by simp),if_neg (by rw [e1,hp];simp)];rfl
    | true=>
     by_cases hc:k.cnt≤room-1
     ·rw [if_pos ⟨rfl,hc⟩,Option.bind_some,xQ r];cases hq:pureF r with
      | false=>rw [if_neg (by simp),if_neg (by rw [e1,hq];simp)]
      | true=>
       by_cases hd:r.cnt≤room-1-k.cnt
       ·rw [if_pos ⟨rfl,hd⟩,if_pos ⟨by rw [e1,hm,hp,hq];rfl,by rw [e2];omega⟩,e2];congr 1;omega
       ·rw [if_neg (by simp [hd]),if_neg (by rw [e2];rintro ⟨_,h⟩;omega)]
     ·rw [if_neg (by simp [hc]),if_neg (by rw [e2];rintro ⟨_,h⟩;omega)];rfl
theorem zhz {k:Fo}{room q:Nat}(h:lfF k room=some q):q≤room:=by
 rw [xQ] at h;split at h
 ·injection h with h;omega
 ·cases h
theorem zdh: ∀m n,(dgI m n).length≤m
 | 0,_=>Nat.le_refl _
 | m+1,n=>by unfold dgI;split;·simp
             ·simp;exact zdh m _
theorem qm (n:Nat):(dg n).length≤8:=zdh 8 n
theorem xn (f n:Nat):1≤(hd f n).length∧(hd f n).length≤9:=by
 unfold hd;have:=qm n;split<;>simp<;>omega
theorem vw (l:Bool)(s:ByteArray)(m:Nat):sz1 l s m≤9+(s.size+m):=by
 unfold sz1;have:=xn (frm l) (s.size+m);split<;>omega
theorem qY {s:ByteArray}(h:zR s=true):s.size=1:=by
 unfold zR at h;simp only [Bool.and_eq_true,decide_eq_true_eq] at h;exact h.1
theorem zdi (l:Bool)(s:ByteArray)(m:Nat):1≤sz1 l s m:=by
 unfold sz1;have:=xn (frm l) (s.size+m);split<;>omega
theorem uy {s:ByteArray}(h: ¬s=⟨#[]⟩):s.size≠0:=fun e=>h (by
 obtain ⟨d⟩:=s;have:d.size=0:=e
 rw [Array.eq_empty_of_size_eq_zero this])
theorem zhA {l:Bool}{s:ByteArray}{n:Nat}{k:Fo}{room q:Nat}(h:lf1 l s n (lfF k) room=some q):q≤room:=by
 unfold lf1 at h;split at h
 ·cases h
 ·have:=zhz h;omega
theorem zhB {l:Bool}{s:ByteArray}{n:Nat}{f:Nat→Option Nat}{room:Nat}(h:room=0):lfV (lf1 l s n f room)= -1:=by unfold lf1;rw [if_pos (Or.inl h)];rfl
theorem zhC {l:Bool}{s:ByteArray}{n:Nat}{f:Nat→Option Nat}{room:Nat}(h:mixed l s n=true):lfV (lf1 l s n f room)= -1:=by unfold lf1;rw [if_pos (Or.inr h)];rfl
theorem zdj {l:Bool}{s:ByteArray}{n:Nat}{f:Nat→Option Nat}{room:Nat}(h0:room≠0)(h:mixed l s n=false):lf1 l s n f room=f (room-1):=by unfold lf1;rw [if_neg (by simp [h0,h])]
theorem zhD {l:Bool}{s:ByteArray}{n:Nat}{k r:Fo}{q y:Nat}(hn:n=k.len)(h:lf1 l s n (lfF k) q=some y):lfF (.cons l s k r) q=lfF r y:=by
 subst hn;show (lf1 l s k.len (lfF k) q).bind (lfF r)=_;rw [h];rfl
theorem zhE {l:Bool}{s:ByteArray}{n:Nat}{k r:Fo}{q:Nat}(hn:n=k.len)(h:lf1 l s n (lfF k) q=none):lfV (lfF (.cons l s k r) q)= -1:=by
 subst hn;show lfV ((lf1 l s k.len (lfF k) q).bind (lfF r))=_;rw [h];rfl
theorem zhF {a:Nat}(h:a<0x10000000000000000):Int.fdiv (a:Int) (2^0)=(a:Int):=by rw [Int.pow_zero,Int.fdiv_one]
def wtF:Fo→Nat
 | .nil=>0
 | .cons l s k r=>9+s.size+wtF k+wtF r
theorem xp: ∀k:Fo,szF k≤wtF k
 | .nil=>Nat.le_refl _
 | .cons l s k r=>by
  have h1:=xp k;have h2:=xp r;have h3:=vw l s (szF k);simp only [szF,wtF];omega
theorem qE.wt {B:Nat}{w:World} : ∀ {k:Fo} {b off:Nat},qE B w k b off→wtF k≤k.cnt*0x800000000009
 | .nil,_,_,_=>Nat.zero_le _
 | .cons l s k r,b,off,⟨⟨C,T,fz,p,n,c,h1,h2,h3,h4,h5,h6,h7,h8⟩,h9⟩=>by
  have hr:=qE.wt h9;have hk:wtF k≤k.cnt*0x800000000009:=by
   rcases h8 with rfl|⟨b',o',e,h⟩
   ·exact Nat.zero_le _
   ·exact qE.wt h
  simp only [wtF,Fo.cnt];omega
theorem zr.wt {B:Nat}{w:World}{p:Option Addr}{n:Nat}{k:Fo}(h:zr B w p n k):wtF k≤k.cnt*0x800000000009:=by
 rcases h.2.2 with rfl|⟨b,o,e,h⟩
 ·exact Nat.zero_le _
 ·exact h.wt
theorem zdk {f:Nat}(b:BitVec 8)(hb:b.toNat=f)(n:Nat)(h:n≤55)(hf:f≤192):strOfNums [(BitVec.toNat (b+BitVec.ofNat 8 n):Int)]=zh (hd f n):=by
 unfold hd;rw [if_pos h];show (⟨#[UInt8.ofNat (Int.toNat _)]⟩:ByteArray)=⟨#[UInt8.ofNat (f+n)]⟩
 rw [Int.toNat_natCast,BitVec.toNat_add,BitVec.toNat_ofNat,hb];rw [show (f+n%2^8)%2^8=f+n by omega]
theorem zdl {f:Nat}(b:BitVec 8)(hb:b.toNat=f+55)(n:Nat)(h: ¬n≤55)(hf:f≤192):strOfNums [(BitVec.toNat (b+BitVec.ofNat 8 (ByteArray.size (zh (dg n)))):Int)]++zh (dg n)=zh (hd f n):=by
 have hl:=qm n;have e:UInt8.ofNat (Int.toNat (BitVec.toNat (b+BitVec.ofNat 8 (ByteArray.size (zh (dg n)))):Int))=UInt8.ofNat (f+55+(dg n).length):=by
  rw [Int.toNat_natCast,BitVec.toNat_add,BitVec.toNat_ofNat,hb,qd];rw [show (f+55+(dg n).length%2^8)%2^8=f+55+(dg n).length by omega]
 apply qM;rw [km];show [UInt8.ofNat _]++dg n=hd f n;unfold hd;rw [if_neg h,e];rfl
theorem uz: ∀k:Fo,(wrF k).length≤wtF k
 | .nil=>Nat.le_refl _
 | .cons l s k r=>by
  have h1:=uz k;have h2:=uz r;simp only [wrF,wtF,wr1,List.length_append,zt];split
  ·simp only [List.length_nil];omega
  ·have:=xn (frm l) (s.size+szF k);omega
theorem zbc: ∀ {k:Fo},pureF k=true→wtF k≤szF k+9*k.cnt
 | .nil,_=>Nat.zero_le _
 | .cons l s k r,h=>by
  simp only [pureF,Bool.and_eq_true,Bool.not_eq_true'] at h;have h1:=zbc h.1.2;have h2:=zbc h.2;simp only [wtF,szF,Fo.cnt,sz1];split
  ·rename_i hs
   have hz:=qY hs;have hk:k=.nil:=by
    have hm:=h.1.1;unfold mixed at hm;cases l with
    | true=>simp [hz] at hm
    | false=>
     cases k with
     | nil=>rfl
     | cons=>simp [Fo.len] at hm
   subst hk;simp only [wtF,Fo.cnt];omega
  ·have:=xn (frm l) (s.size+szF k);omega
theorem zdm {α:Type}(x:Option α):x=none∨∃y,x=some y:=by cases x with
 | none=>exact .inl rfl
 | some y=>exact .inr ⟨y,rfl⟩
theorem uA: ∀k:Fo,dpF k≤k.cnt
 | .nil=>Nat.le_refl _
 | .cons l s k r=>by
  have h1:=uA k;have h2:=uA r;simp only [dpF,Fo.cnt,dp1];split<;>omega
theorem zdn (t:ByteArray)(h:t.size≠0):(t.extract 1 t.size).size=t.size-1:=by simp
theorem zdo (t:ByteArray):tl (t.extract 1 t.size)=(tl t).drop 1:=by
 rw [qj,List.take_of_length_le (by rw [zt];exact Nat.le_refl _)]
theorem xq {t:ByteArray}(h:t.size≠0):∃l,tl t=UInt8.ofNat (by_ t 0)::l:=by
 have hl:(tl t).length≠0:=by rw [zt];exact h
 unfold by_;cases e:tl t with
 | nil=>rw [e] at hl;simp at hl
 | cons x l=>exact ⟨l,by simp⟩
theorem zhG (t:ByteArray)(h:t.size≠0)(h0:by_ t 0=0):(tl (t.extract 1 t.size)).dropWhile (·==0)=(tl t).dropWhile (·==0):=by
 obtain ⟨l,e⟩:=xq h;rw [zdo,e,h0];rfl
theorem zbd {t:ByteArray}(h:t=⟨#[]⟩):zh ((tl t).dropWhile (·==0))=t:=by subst h;rfl
theorem uB (t:ByteArray)(h:t.size=0∨by_ t 0≠0):zh ((tl t).dropWhile (·==0))=t:=by
 rcases h with h|h
 ·exact zbd (Decidable.not_not.1 fun q=>uy q h)
 ·by_cases h2:t.size=0
  ·exact zbd (Decidable.not_not.1 fun q=>uy q h2)
  ·obtain ⟨l,e⟩:=xq h2;have hb:=jj t 0;have hne:(UInt8.ofNat (by_ t 0)==0)=false:=by
    rw [beq_eq_false_iff_ne];intro q;have:=congrArg UInt8.toNat q;rw [UInt8.toNat_ofNat_of_lt' (by simpa using hb)] at this;exact h this
   rw [e,List.dropWhile_cons,hne];show zh (UInt8.ofNat (by_ t 0)::l)=t;rw [←e];exact vi t
theorem zdp: ∀ {l:List UInt8},(∀x∈l,(x==0)=true)→l.dropWhile (·==0)=[]
 | [],_=>rfl
 | x::l,h=>by rw [List.dropWhile_cons,if_pos (h x (List.mem_cons_self ..))];exact zdp fun y hy=>h y (List.mem_cons_of_mem _ hy)
def beI:Nat→Nat→List UInt8
 | 0,_=>[]
 | m+1,n=>beI m (n / 256)++ [UInt8.ofNat n]
theorem zbe: ∀m,(beI m 0).dropWhile (·==0)=[]∧ ∀x∈beI m 0,(x==0)=true
 | 0=>⟨rfl,fun _ h=>nomatch h⟩
 | m+1=>by
  have h:=(zbe m).2;have h2: ∀x∈beI (m+1) 0,(x==0)=true:=by
   intro x hx;simp only [beI,Nat.zero_div,List.mem_append,List.mem_singleton] at hx;rcases hx with hx | rfl
   ·exact h x hx
   ·rfl
  exact ⟨zdp h2,h2⟩
theorem zhH (m:Nat):dgI m 0=[]:=by cases m<;>rfl
theorem drop_append {l r:List UInt8}(h:l.dropWhile (·==0)≠[]):(l++r).dropWhile (·==0)=l.dropWhile (·==0)++r:=by
 induction l with
 | nil=>exact absurd rfl h
 | cons x l ih=>
  rw [List.cons_append,List.dropWhile_cons,List.dropWhile_cons];split
  ·rename_i hx;rw [List.dropWhile_cons,if_pos hx] at h;exact ih h
  ·rfl
theorem zbf: ∀m n,n<256^m→(beI m n).dropWhile (·==0)=dgI m n
 | 0,n,h=>rfl
 | m+1,n,h=>by
  have hlt:n / 256<256^m:=by rw [Nat.pow_succ] at h;omega
  have ih:=zbf m (n / 256) hlt;unfold dgI;split
  ·rename_i h0;subst h0;exact (zbe (m+1)).1
  ·rename_i h0
   show (beI m (n / 256)++ [UInt8.ofNat n]).dropWhile (·==0)=_;by_cases hq:n / 256=0
   ·rw [hq,zhH,List.dropWhile_append,(zbe m).1];have hx:(UInt8.ofNat n==0)=false:=by
     rw [beq_eq_false_iff_ne];intro q;have:=congrArg UInt8.toNat q;rw [UInt8.toNat_ofNat_of_lt' (by simp only [UInt8.size];omega)] at this;exact h0 this
    simp [hx]
   ·rw [drop_append,ih];rw [ih];intro q;cases m with
    | zero=>simp at hlt;omega
    | succ m=>unfold dgI at q;rw [if_neg hq] at q;simp at q
def dgB (n d:Nat):BitVec 8:=BitVec.ofNat 8 (n / d)
theorem xr (n d:Nat):Value.int .u8 (IntKind.u8.wrap (((n / d:Nat):Int)))=.int .u8 (BitVec.toNat (dgB n d):Int):=vg (n / d)
theorem zhI (n:Nat):Value.int .u8 (IntKind.u8.wrap ((n:Int)))=.int .u8 (BitVec.toNat (dgB n 1):Int):=by
 have h:=xr n 1;rw [Nat.div_one] at h;exact h
theorem zhJ (n d:Nat):UInt8.ofNat (Int.toNat (BitVec.toNat (dgB n d):Int))=UInt8.ofNat (n / d):=by
 rw [Int.toNat_natCast];apply UInt8.toNat_inj.1;rw [UInt8.toNat_ofNat',UInt8.toNat_ofNat'];unfold dgB;rw [BitVec.toNat_ofNat];omega
theorem zhK (n:Nat):tl (strOfNums [(BitVec.toNat (dgB n 72057594037927936):Int),(BitVec.toNat (dgB n 281474976710656):Int),(BitVec.toNat (dgB n 1099511627776):Int),(BitVec.toNat (dgB n 4294967296):Int),(BitVec.toNat (dgB n 16777216):Int),(BitVec.toNat (dgB n 65536):Int),(BitVec.toNat (dgB n 256):Int),(BitVec.toNat (dgB n 1):Int)])=beI 8 n:=by
 unfold tl;rw [strOfNums_data];simp only [List.map_cons,List.map_nil,zhJ,beI,List.nil_append,List.append_assoc,List.cons_append,Nat.div_div_eq_div_mul,Nat.div_one]
theorem zhL (n:Nat)(h:n<0x10000000000000000):(tl (strOfNums [(BitVec.toNat (dgB n 72057594037927936):Int),(BitVec.toNat (dgB n 281474976710656):Int),(BitVec.toNat (dgB n 1099511627776):Int),(BitVec.toNat (dgB n 4294967296):Int),(BitVec.toNat (dgB n 16777216):Int),(BitVec.toNat (dgB n 65536):Int),(BitVec.toNat (dgB n 256):Int),(BitVec.toNat (dgB n 1):Int)])).dropWhile (·==0)=dg n:=by
 rw [zhK];exact zbf 8 n h
def zG (l:Bool)(s:ByteArray)(n:Nat)(k:Fo):ByteArray×Nat:=
 match lf1 l s n (lfF k) 4000 with
 | none=>(⟨#[]⟩,1)
 | some _=>if 8<dp1 l (dpF k) then (⟨#[]⟩,5) else if 4000<sz1 l s (szF k) then (⟨#[]⟩,2) else (zh (wr1 l s (szF k) (wrF k)),0)
def jN (x:ByteArray×Nat):Value:=.tuple #[.string x.1,.int .i64 ((x.2:Nat):Int)]
section
variable {l:Bool}{s:ByteArray}{n y:Nat}{k:Fo}
theorem zhM (h:lf1 l s n (lfF k) 4000=none):jN (zG l s n k)=.tuple #[.string ⟨#[]⟩,.int .i64 1]:=by unfold zG;rw [h];rfl
theorem zhN (h:lf1 l s n (lfF k) 4000=some y)(hd:8<dp1 l (dpF k)):jN (zG l s n k)=.tuple #[.string ⟨#[]⟩,.int .i64 5]:=by unfold zG;rw [h];simp only [];rw [if_pos hd];rfl
theorem zhO (h:lf1 l s n (lfF k) 4000=some y)(hd: ¬8<dp1 l (dpF k))(hz:4000<sz1 l s (szF k)):jN (zG l s n k)=.tuple #[.string ⟨#[]⟩,.int .i64 2]:=by unfold zG;rw [h];simp only [];rw [if_neg hd,if_pos hz];rfl
theorem zhP (h:lf1 l s n (lfF k) 4000=some y)(hd: ¬8<dp1 l (dpF k))(hz: ¬4000<sz1 l s (szF k)):jN (zG l s n k)=.tuple #[.string (zh (wr1 l s (szF k) (wrF k))),.int .i64 0]:=by unfold zG;rw [h];simp only [];rw [if_neg hd,if_neg hz];rfl
theorem zdq {room:Nat}(h:lf1 l s n (lfF k) room=some y):mixed l s n=false∧pureF k=true∧k.cnt<room:=by
 unfold lf1 at h;split at h
 ·cases h
 ·rename_i h0
  rw [xQ] at h;split at h
  ·rename_i h1
   refine ⟨?_,h1.1,by omega⟩;cases hm:mixed l s n with
   | true=>exact absurd (.inr hm) h0
   | false=>rfl
  ·cases h
theorem qN (hm:mixed l s n=false)(h:zR s=true):n=0:=by
 have hz:=qY h;unfold mixed at hm;cases l with
 | true=>simp [hz] at hm
 | false=>simpa using hm
theorem len_zero {k:Fo}(h:k.len=0):k=.nil:=by cases k with
 | nil=>rfl
 | cons=>simp [Fo.len] at h
theorem qF (hm:mixed l s k.len=false)(hk:(wrF k).length=szF k):(wr1 l s (szF k) (wrF k)).length=sz1 l s (szF k):=by
 unfold wr1 sz1;rw [List.length_append,List.length_append,zt,hk];split
 ·rename_i h
  have:=len_zero (qN hm h);subst this;have hz:=qY h;simp only [szF,List.length_nil];omega
 ·omega
theorem zV: ∀ {k:Fo},pureF k=true→(wrF k).length=szF k
 | .nil,_=>rfl
 | .cons l s k r,h=>by
  simp only [pureF,Bool.and_eq_true,Bool.not_eq_true'] at h;simp only [wrF,szF,List.length_append];rw [qF h.1.1 (zV h.1.2),zV h.2]
theorem jx (hm:mixed l s n=false)(hp:pureF k=true)(hn:n=k.len):0<(wr1 l s (szF k) (wrF k)).length∧(wr1 l s (szF k) (wrF k)).length≤sz1 l s (szF k):=by
 subst hn;rw [qF hm (zV hp)];exact ⟨zdi l s (szF k),Nat.le_refl _⟩
theorem zhQ (hm:mixed l s n=false)(hp:pureF k=true)(hz:sz1 l s (szF k)≤4000)(hn:n=k.len):s.size+wtF k≤4000+9*k.cnt:=by
 have h1:=zbc hp;unfold sz1 at hz;split at hz
 ·rename_i h
  have h2:=qN hm h;have:=len_zero (hn▸h2);subst this;have:=qY h;simp only [wtF];omega
 ·omega
end
theorem zdr {s:ByteArray}{n:Nat}{b:Bool}(h:decide (s.size≠0)=b):b=mixed true s n:=h.symm
theorem zds {s:ByteArray}{n:Nat}{b:Bool}(h:decide (n≠0)=b):b=mixed false s n:=h.symm
theorem zhR (l:Bool)(s:ByteArray)(p:Option Addr)(n c:Nat)(k:Fo)(hs:s.size≤0x800000000000):FnP Tryz.prog 53 #[.agg #[.bool l,.string s,.slice p n c]] (fun w=>zr w.heap.size w p n k) (.bool (mixed l s n)):=by
 refine FnP.intro (c:=zf Tryz.f53) [.tmp 2] 12 Tryz.func53 kr kr kr fun w hpre=>?_;have H0:=St.start w;have hn:=hpre.1;have hnm:=hpre.2.1;refine rS [.b,.v] H0 kr fun gs1 w1 H1=>?_;clear H0;refine zc kr<|rS [.v,.l 0] H1 kr fun gs2 w2 H2=>?_;clear H1;refine Or.elim (Bool.eq_false_or_eq_true (l)).symm (fun hq1=>?_) (fun hq1=>?_)
 ·refine yY 4 (v:=.bool l) (v':=.bool false) (za hq1) kr<|zl kr kr<|zn kr<|wW<|zg [0,1,2,3,4] kr kr<|rp [.v,.l 0,.v] H2 kr fun gs3 w3 H3=>wX [3,4] ?_;clear H2;by_cases hc1:(n:Nat)>0
  ·refine rp [.E (.bool (decide (0<(n:Int)))) (.bool true) (za (decide_eq_true (by omega))),.v] H3 kr fun gs4 w4 H4=>wX [] ?_;clear H3;refine zb<|zk kr<|wV ?_;refine ⟨[.bool true],(.tmp (.bool true) kr .nil),?_,H4.below⟩;rw [hq1];exact za (zds (decide_eq_true (by omega)))
  ·refine rp [.E (.bool (decide (0<(n:Int)))) (.bool false) (za (decide_eq_false (by omega))),.v] H3 kr fun gs5 w5 H5=>wX [] ?_;clear H3;refine zb<|zk kr<|wV ?_;refine ⟨[.bool false],(.tmp (.bool false) kr .nil),?_,H5.below⟩;rw [hq1];exact za (zds (decide_eq_false (by omega)))
 ·refine yY 4 (v:=.bool l) (v':=.bool true) (za hq1) kr<|zj kr kr<|zg [0,1,2,3] kr kr<|rp [.v,.l 0] H2 kr fun gs6 w6 H6=>wX [2,3] ?_;clear H2;by_cases hx2:s=⟨#[]⟩
  ·refine rp [.E (.bool (!(ByteArray.toList s==ByteArray.toList (⟨#[]⟩)))) (.bool false) (za (by rw [zI s (⟨#[]⟩) hx2];rfl)),.v] H6 kr fun gs7 w7 H7=>wX [] ?_;clear H6;refine zb<|zk kr<|wV ?_;refine ⟨[.bool false],(.tmp (.bool false) kr .nil),?_,H7.below⟩;rw [hq1];exact za (zdr (decide_eq_false (by rw [hx2];decide)))
  ·refine rp [.E (.bool (!(ByteArray.toList s==ByteArray.toList (⟨#[]⟩)))) (.bool true) (za (by rw [yO s (⟨#[]⟩) hx2];rfl)),.v] H6 kr fun gs8 w8 H8=>wX [] ?_;clear H6;refine zb<|zk kr<|wV ?_;refine ⟨[.bool true],(.tmp (.bool true) kr .nil),?_,H8.below⟩;rw [hq1];exact za (zdr (decide_eq_true (uy hx2)))
theorem zhS (m:Nat)(ih: ∀(l:Bool) (s:ByteArray) (p:Option Addr) (n c:Nat) (k:Fo) (room:Nat),s.size≤0x800000000000→room≤4000→k.cnt<m→FnP Tryz.prog 34 #[.agg #[.bool l,.string s,.slice p n c],.int .i64 (room:Int)] (fun w=>zr w.heap.size w p n k) (.int .i64 (lfV (lf1 l s n (lfF k) room))))(l:Bool)(s:ByteArray)(p:Option Addr)(n c:Nat)(k:Fo)(hs:s.size≤0x800000000000)(room:Nat)(hro:room≤4000)(hkm:k.cnt<m+1):FnP Tryz.prog 34 #[.agg #[.bool l,.string s,.slice p n c],.int .i64 (room:Int)] (fun w=>zr w.heap.size w p n k) (.int .i64 (lfV (lf1 l s n (lfF k) room))):=by
 refine FnP.intro (c:=zf Tryz.f34) [.tmp 4] 30 Tryz.func34 kr kr kr fun w hpre=>?_;have H0:=St.start w;have hn:=hpre.1;have hnm:=hpre.2.1;refine rS [.b,.v] H0 kr fun gs1 w1 H1=>?_;clear H0;refine zc kr<|zg [0,1,2,3,4,5] kr kr<|rp [.v] H1 kr fun gs2 w2 H2=>wX [1,2,3,4,5] ?_;clear H1;by_cases hc1:(room:Nat)=0
 ·refine rp [.E (.bool ((room:Int)==0)) (.bool true) (za (beq_iff_eq.2 (by omega))),.v,.n,.n,.v] H2 kr fun gs3 w3 H3=>wX [] ?_;clear H2;refine zb<|zj kr kr<|rS [.v] H3 kr fun gs4 w4 H4=>?_;clear H3;refine zk kr<|wV ?_;refine ⟨[.int .i64 (-1)],(.tmp (.int .i64 (-1)) kr .nil),?_,H4.below⟩;exact zo (zhB (by omega)).symm
 ·refine rp [.E (.bool ((room:Int)==0)) (.bool false) (za (beq_eq_false_iff_ne.2 (by omega))),.v,.l 0,.cp (pre:=fun w=>zr w.heap.size w p n k) (zhR l s p n c k (by omega)) [] (fun w hb hd=>(zr.call hpre hb)),.v] H2 kr fun gs5 w5 H5=>wX [] ?_;clear H2;refine zb<|Or.elim (Bool.eq_false_or_eq_true (mixed l s n)).symm (fun hq1=>?_) (fun hq1=>?_)
  ·refine yY 11 (v:=.bool (mixed l s n)) (v':=.bool false) (za hq1) kr<|yY 12 (v:=.bool (mixed l s n)) (v':=.bool false) (za hq1) kr<|zl kr kr<|zn kr<|wW<|rS [.v,.E (.int .i64 (IntKind.i64.wrap ((room:Int)-1))) (.int .i64 ((room-1:Nat):Int)) (zo (zaW (a:=room) (b:=1) (by omega))),.v] H5 kr fun gs6 w6 H6=>?_;clear H5;refine zc kr<|rS [.v,.l 0,.v,.v] H6 kr fun gs7 w7 H7=>?_;clear H6;refine zz 0 kr ?_;have HL2:St w.heap.size w w7 [((gs1 0).b,Obj.cells #[.bool l,.string s,.slice p n c] 46 (0,0))]:=H7.as kr;clear H7;have HD3:St w.heap.size w w7 []:=HL2.sub (List.Sublist.cons _ List.Sublist.slnil);refine yW kr (fun mz ρ ww=> ∃(i:Nat) (r:Fo) (q:Nat),n-i=mz∧(FoR w.heap.size w p i r)∧(i+Fo.len r=n)∧(q≤4000)∧(Fo.cnt r≤Fo.cnt k)∧(lfF k (room-1)=lfF r q)∧St w.heap.size w ww []∧Is [(0,.agg #[.bool l,.string s,.slice p n c]),(1,.int .i64 (q:Int)),(2,.pointer (some ⟨(gs1 0).b,0,none⟩)),(12,.bool false),(16,.slice p n c),(17,.int .i64 (n:Int)),(18,.int .i64 (i:Int))] ρ) (n-0) ⟨0,k,(room-1),rfl,(zr.start hpre),(by have hn0:=(hpre).1;omega),(by omega),(Nat.le_refl _),rfl,HD3,(Is.of ⟨kr,kr,kr,kr,kr,kr,kr,trivial⟩)⟩ ?_;clear HD3;rintro _ _ w8 ⟨i,r,q,rfl,hR,hN,hq0,hcn,hlf,H8,_,rfl⟩;by_cases hc4:(i:Nat)<n
   ·refine rS [.E (.bool (decide ((i:Int)<(n:Int)))) (.bool true) (za (decide_eq_true (by omega)))] H8 kr fun gs9 w9 H9=>?_;clear H8;refine zc kr<|zj kr kr<|zn kr<|wW<|zc kr<|zz 1 kr ?_;obtain ⟨l1,s1,k1,r1,b1,off1,C1,T1,fz1,p1,n1,c1,hr1,hp1,hb1,hh1,hs1,hx1,hz1,hk1,hR1,hN1⟩:=FoR.open hR hN (by omega);refine rS [.o (ins:=[((.tmp 16),.slice p n c),((.tmp 18),.int .i64 (i:Int))]) (v:=.pointer (some ⟨b1,off1+i*3,none⟩)) (fun ρ o w ho hi=>vu (kd:=.i64) (t:=43) (e:=46) (bytes:=48) kr (x:=(.tmp 16)) (y:=(.tmp 18)) b1 off1 n c i hp1 ho hi.1 hi.2.1 (by omega) w),.fp (off:=off1+i*3) (n:=3) (W:=#[.bool l1,.string s1,.slice p1 n1 c1]) hh1 hb1 hs1 hx1,.a,.s 0] H9 kr fun gs10 w10 H10=>?_;clear H9;refine yb [0,1,2,6,12,16,17,18,19] fun ρ1=>?_;have HK5:=H10.keep;clear H10;have hcn1:=hcn;rw [hr1] at hcn1;simp only [Fo.cnt] at hcn1;refine zg [0,1,2,3] kr kr<|rp [.l 0,.v,.cp (pre:=fun w=>zr w.heap.size w p1 n1 k1) (ih l1 s1 p1 n1 c1 k1 q hz1 (by omega) (by omega)) [] (fun w hb hd=>(zr.call hk1 hb))] HK5 kr fun gs11 w11 H11=>wX [3] ?_;clear HK5;rcases zdm (lf1 l1 s1 n1 (lfF k1) q) with hv1 | ⟨y,hv1⟩
    ·refine ya 24 (v:=.int .i64 (lfV (lf1 l1 s1 n1 (lfF k1) q))) (v':=.int .i64 (-1)) (zo (show (lfV (lf1 l1 s1 n1 (lfF k1) q))= -1 from by rw [hv1];rfl)) kr<|rp [.v] H11 kr fun gs12 w12 H12=>wX [] ?_;clear H11;refine zb<|rS [.v,.v] H12 kr fun gs13 w13 H13=>?_;clear H12;refine zj kr kr<|rS [.v,.v] H13 kr fun gs14 w14 H14=>?_;clear H13;refine zk kr<|wV ?_;refine ⟨[.int .i64 (-1)],(.tmp (.int .i64 (-1)) kr .nil),?_,H14.below⟩;refine zo ?_;rw [zdj (by omega) hq1,hlf,hr1];exact (zhE hk1.1 hv1).symm
    ·refine ya 24 (v:=.int .i64 (lfV (lf1 l1 s1 n1 (lfF k1) q))) (v':=.int .i64 (y:Int)) (zo (show (lfV (lf1 l1 s1 n1 (lfF k1) q))=(y:Int) from by rw [hv1];rfl)) kr ?_;have hy4:=zhA hv1;refine rp [.v] H11 kr fun gs15 w15 H15=>wX [] ?_;clear H11;refine zb<|rS [.v,.E (.bool (decide ((y:Int)<0))) (.bool false) (za (decide_eq_false (by omega)))] H15 kr fun gs16 w16 H16=>?_;clear H15;refine zl kr kr<|zn kr<|wW<|rL [.E (.int .i64 (IntKind.i64.wrap ((i:Int)+1))) (.int .i64 ((i+1:Nat):Int)) (zo (qc (a:=i) (b:=1) (by omega))),.v] H16 kr fun gs17 w17 H17=>?_;clear H16;have HL6:St w.heap.size w w17 [((gs10 2).b,Obj.cells #[.bool l1,.string s1,.slice p1 n1 c1] 46 (0,0))]:=H17.as kr;clear H17;have HD7:St w.heap.size w w17 []:=HL6.sub (List.Sublist.cons _ List.Sublist.slnil);show ∃m,_∧_;exact ⟨_,(by omega),(i+1),r1,y,rfl,hR1,hN1,(by omega),(by omega),(by rw [hlf,hr1];exact zhD hk1.1 hv1),HD7,(Is.of ⟨kr,kr,kr,kr,kr,kr,kr,trivial⟩)⟩
   ·refine rS [.E (.bool (decide ((i:Int)<(n:Int)))) (.bool false) (za (decide_eq_false (by omega)))] H8 kr fun gs18 w18 H18=>?_;clear H8;refine zc kr<|zl kr kr<|yv 0 kr<|wW<|rS [.v,.v] H18 kr fun gs19 w19 H19=>?_;clear H18;refine zk kr<|wV ?_;refine ⟨[.int .i64 (q:Int)],(.tmp (.int .i64 (q:Int)) kr .nil),?_,H19.below⟩;refine zo ?_;rw [zdj (by omega) hq1,hlf,FoR.done hN (by omega)];rfl
  ·refine yY 11 (v:=.bool (mixed l s n)) (v':=.bool true) (za hq1) kr<|yY 12 (v:=.bool (mixed l s n)) (v':=.bool true) (za hq1) kr<|zj kr kr<|rS [.v] H5 kr fun gs20 w20 H20=>?_;clear H5;refine zk kr<|wV ?_;refine ⟨[.int .i64 (-1)],(.tmp (.int .i64 (-1)) kr .nil),?_,H20.below⟩;exact zo (zhC hq1).symm
theorem zhT (l:Bool)(s:ByteArray)(p:Option Addr)(n c:Nat)(k:Fo)(hs:s.size≤0x800000000000)(room:Nat)(hro:room≤4000):FnP Tryz.prog 34 #[.agg #[.bool l,.string s,.slice p n c],.int .i64 (room:Int)] (fun w=>zr w.heap.size w p n k) (.int .i64 (lfV (lf1 l s n (lfF k) room))):=by
 have key: ∀(m:Nat) (l:Bool) (s:ByteArray) (p:Option Addr) (n c:Nat) (k:Fo) (room:Nat),s.size≤0x800000000000→room≤4000→k.cnt<m→FnP Tryz.prog 34 #[.agg #[.bool l,.string s,.slice p n c],.int .i64 (room:Int)] (fun w=>zr w.heap.size w p n k) (.int .i64 (lfV (lf1 l s n (lfF k) room))):=by
  intro m
  induction m with
  | zero=>intros;omega
  | succ m ih=>intro l s p n c k room hs hro hkm;exact zhS m ih l s p n c k hs room hro hkm
 exact key (k.cnt+1) l s p n c k room hs hro (by omega)
theorem zhU (m:Nat)(ih: ∀(l:Bool) (s:ByteArray) (p:Option Addr) (n c:Nat) (k:Fo),s.size≤0x800000000000→k.cnt≤1000000→k.cnt<m→FnP Tryz.prog 25 #[.agg #[.bool l,.string s,.slice p n c]] (fun w=>zr w.heap.size w p n k) (.int .i64 ((dp1 l (dpF k):Nat):Int)))(l:Bool)(s:ByteArray)(p:Option Addr)(n c:Nat)(k:Fo)(hs:s.size≤0x800000000000)(hk6:k.cnt≤1000000)(hkm:k.cnt<m+1):FnP Tryz.prog 25 #[.agg #[.bool l,.string s,.slice p n c]] (fun w=>zr w.heap.size w p n k) (.int .i64 ((dp1 l (dpF k):Nat):Int)):=by
 refine FnP.intro (c:=zf Tryz.f25) [.tmp 2] 23 Tryz.func25 kr kr kr fun w hpre=>?_;have H0:=St.start w;have hn:=hpre.1;have hnm:=hpre.2.1;have hdk:=uA k;refine rS [.b,.v] H0 kr fun gs1 w1 H1=>?_;clear H0;refine zc kr<|zg [0,1,2] kr kr<|rp [.v,.l 0] H1 kr fun gs2 w2 H2=>wX [2] ?_;clear H1;refine Or.elim (Bool.eq_false_or_eq_true (l)).symm (fun hq1=>?_) (fun hq1=>?_)
 ·refine ya 7 (v:=.bool l) (v':=.bool false) (za hq1) kr<|rp [.v] H2 kr fun gs3 w3 H3=>wX [] ?_;clear H2;refine zb<|zj kr kr<|rS [.v] H3 kr fun gs4 w4 H4=>?_;clear H3;refine zk kr<|wV ?_;refine ⟨[.int .i64 0],(.tmp (.int .i64 0) kr .nil),?_,H4.below⟩;rw [hq1];rfl
 ·refine ya 7 (v:=.bool l) (v':=.bool true) (za hq1) kr<|rp [.v] H2 kr fun gs5 w5 H5=>wX [] ?_;clear H2;refine zb<|zl kr kr<|zn kr<|wW<|rS [.v] H5 kr fun gs6 w6 H6=>?_;clear H5;refine zc kr<|rS [.v,.l 0,.v,.v] H6 kr fun gs7 w7 H7=>?_;clear H6;refine zz 0 kr ?_;have HL1:St w.heap.size w w7 [((gs1 0).b,Obj.cells #[.bool l,.string s,.slice p n c] 46 (0,0))]:=H7.as kr;clear H7;have HD2:St w.heap.size w w7 []:=HL1.sub (List.Sublist.cons _ List.Sublist.slnil);refine yW kr (fun mz ρ ww=> ∃(i:Nat) (r:Fo) (d:Nat),n-i=mz∧(FoR w.heap.size w p i r)∧(i+Fo.len r=n)∧(Fo.cnt r≤Fo.cnt k)∧(dpF k=max d (dpF r))∧St w.heap.size w ww []∧Is [(0,.agg #[.bool l,.string s,.slice p n c]),(1,.pointer (some ⟨(gs1 0).b,0,none⟩)),(2,.int .i64 0),(3,.int .i64 (d:Int)),(8,.bool false),(10,.slice p n c),(11,.int .i64 (n:Int)),(12,.int .i64 (i:Int))] ρ) (n-0) ⟨0,k,0,rfl,(zr.start hpre),(by have hn0:=(hpre).1;omega),(Nat.le_refl _),(by omega),HD2,(Is.of ⟨kr,kr,kr,kr,kr,kr,kr,kr,trivial⟩)⟩ ?_;clear HD2;rintro _ _ w8 ⟨i,r,d,rfl,hR,hN,hcn,hd,H8,_,rfl⟩;by_cases hc3:(i:Nat)<n
  ·refine rS [.E (.bool (decide ((i:Int)<(n:Int)))) (.bool true) (za (decide_eq_true (by omega)))] H8 kr fun gs9 w9 H9=>?_;clear H8;refine zc kr<|zj kr kr<|zn kr<|wW<|zc kr<|zz 1 kr ?_;obtain ⟨l1,s1,k1,r1,b1,off1,C1,T1,fz1,p1,n1,c1,hr1,hp1,hb1,hh1,hs1,hx1,hz1,hk1,hR1,hN1⟩:=FoR.open hR hN (by omega);refine rS [.o (ins:=[((.tmp 10),.slice p n c),((.tmp 12),.int .i64 (i:Int))]) (v:=.pointer (some ⟨b1,off1+i*3,none⟩)) (fun ρ o w ho hi=>vu (kd:=.i64) (t:=43) (e:=46) (bytes:=48) kr (x:=(.tmp 10)) (y:=(.tmp 12)) b1 off1 n c i hp1 ho hi.1 hi.2.1 (by omega) w),.fp (off:=off1+i*3) (n:=3) (W:=#[.bool l1,.string s1,.slice p1 n1 c1]) hh1 hb1 hs1 hx1,.a,.s 0] H9 kr fun gs10 w10 H10=>?_;clear H9;have hcn1:=hcn;rw [hr1] at hcn1;simp only [Fo.cnt] at hcn1;refine rL [.v,.l 0,.cp (pre:=fun w=>zr w.heap.size w p1 n1 k1) (ih l1 s1 p1 n1 c1 k1 hz1 (by omega) (by omega)) [] (fun w hb hd=>(zr.call hk1 hb)),.E (.int .i64 (if (((dp1 l1 (dpF k1):Nat):Int):Int)>((d:Int):Int) then (((dp1 l1 (dpF k1):Nat):Int):Int) else ((d:Int):Int))) (.int .i64 ((max d (dp1 l1 (dpF k1)):Nat):Int)) (zo (zgD d (dp1 l1 (dpF k1)))),.v] H10 kr fun gs11 w11 H11=>?_;clear H10;refine wW<|yb [0,1,2,3,5,8,10,11,12,13] fun ρ1=>?_;have HK4:=H11.keep;clear H11;refine rL [.E (.int .i64 (IntKind.i64.wrap ((i:Int)+1))) (.int .i64 ((i+1:Nat):Int)) (zo (qc (a:=i) (b:=1) (by omega))),.v] HK4 kr fun gs12 w12 H12=>?_;clear HK4;have HL5:St w.heap.size w w12 [((gs10 2).b,Obj.cells #[.bool l1,.string s1,.slice p1 n1 c1] 46 (0,0))]:=H12.as kr;clear H12;have HD6:St w.heap.size w w12 []:=HL5.sub (List.Sublist.cons _ List.Sublist.slnil);show ∃m,_∧_;exact ⟨_,(by omega),(i+1),r1,(max d (dp1 l1 (dpF k1))),rfl,hR1,hN1,(by omega),(by rw [hd,hr1];simp only [dpF];omega),HD6,(Is.of ⟨kr,kr,kr,kr,kr,kr,kr,kr,trivial⟩)⟩
  ·refine rS [.E (.bool (decide ((i:Int)<(n:Int)))) (.bool false) (za (decide_eq_false (by omega)))] H8 kr fun gs13 w13 H13=>?_;clear H8;refine zc kr<|zl kr kr<|yv 0 kr<|wW<|rS [.v,.E (.int .i64 (IntKind.i64.wrap (1+(d:Int)))) (.int .i64 ((1+d:Nat):Int)) (zo (qc (a:=1) (b:=d) (by omega))),.v] H13 kr fun gs14 w14 H14=>?_;clear H13;refine zk kr<|wV ?_;refine ⟨[.int .i64 ((1+d:Nat):Int)],(.tmp (.int .i64 ((1+d:Nat):Int)) kr .nil),?_,H14.below⟩;refine zo ?_;rw [hq1,hd,FoR.done hN (by omega)];show ((1+d:Nat):Int)=((1+max d 0:Nat):Int);omega
theorem zbg (l:Bool)(s:ByteArray)(p:Option Addr)(n c:Nat)(k:Fo)(hs:s.size≤0x800000000000)(hk6:k.cnt≤1000000):FnP Tryz.prog 25 #[.agg #[.bool l,.string s,.slice p n c]] (fun w=>zr w.heap.size w p n k) (.int .i64 ((dp1 l (dpF k):Nat):Int)):=by
 have key: ∀(m:Nat) (l:Bool) (s:ByteArray) (p:Option Addr) (n c:Nat) (k:Fo),s.size≤0x800000000000→k.cnt≤1000000→k.cnt<m→FnP Tryz.prog 25 #[.agg #[.bool l,.string s,.slice p n c]] (fun w=>zr w.heap.size w p n k) (.int .i64 ((dp1 l (dpF k):Nat):Int)):=by
  intro m
  induction m with
  | zero=>intros;omega
  | succ m ih=>intro l s p n c k hs hk6 hkm;exact zhU m ih l s p n c k hs hk6 hkm
 exact key (k.cnt+1) l s p n c k hs hk6 (by omega)
theorem uC (s:ByteArray):Fn Tryz.prog 54 #[.string s] (.bool (zR s)):=by
 refine Fn.intro (c:=zf Tryz.f54) [.tmp 2] 11 Tryz.func54 kr kr kr fun w=>?_;have H0:=St.start w;refine rS [.v] H0 kr fun gs1 w1 H1=>?_;clear H0;refine zg [0,1,2,3,4,5,6,7,8] kr kr<|rp [.v,.v] H1 kr fun gs2 w2 H2=>wX [2,3,4,5,6,7,8] ?_;clear H1;by_cases hc1:(ByteArray.size s:Nat)=1
 ·refine rp [.E (.bool ((ByteArray.size s:Int)==1)) (.bool true) (za (beq_iff_eq.2 (by omega))),.v,.v,.o (ins:=[((.tmp 7),.string s),((.const (.int .i64 0)),.int .i64 0)]) (v:=.int .u8 ((by_ s 0:Nat):Int)) (fun ρ o w ho hi=>qL (t:=9) (kd:=.i64) kr (x:=(.tmp 7)) (y:=(.const (.int .i64 0))) s 0 ho hi.1 hi.2.1 (by omega) w)] H2 kr fun gs3 w3 H3=>wX [6,7,8] ?_;clear H2;by_cases hc2:(by_ s 0:Nat)<128
  ·refine rp [.E (.bool (decide (((by_ s 0:Nat):Int)<128))) (.bool true) (za (decide_eq_true (by omega))),.v,.v] H3 kr fun gs4 w4 H4=>wX [] ?_;clear H3;refine zb<|zk kr<|wV ?_;refine ⟨[.bool true],(.tmp (.bool true) kr .nil),?_,H4.below⟩;exact za (by unfold zR;simp [*])
  ·refine rp [.E (.bool (decide (((by_ s 0:Nat):Int)<128))) (.bool false) (za (decide_eq_false (by omega))),.v,.v] H3 kr fun gs5 w5 H5=>wX [] ?_;clear H3;refine zb<|zk kr<|wV ?_;refine ⟨[.bool false],(.tmp (.bool false) kr .nil),?_,H5.below⟩;exact za (by unfold zR;simp [*])
 ·refine rp [.E (.bool ((ByteArray.size s:Int)==1)) (.bool false) (za (beq_eq_false_iff_ne.2 (by omega))),.v,.n,.n,.n,.v,.v] H2 kr fun gs6 w6 H6=>wX [] ?_;clear H2;refine zb<|zk kr<|wV ?_;refine ⟨[.bool false],(.tmp (.bool false) kr .nil),?_,H6.below⟩;exact za (by unfold zR;simp [*])
theorem zhV (s:ByteArray)(hs:ByteArray.size s≤0x800000000000):Fn Tryz.prog 101 #[.string s,.int .u8 0] (.string (zh ((tl s).dropWhile (·==0)))):=by
 refine Fn.intro (c:=zf Tryz.f101) [.tmp 4] 17 Tryz.func101 kr kr kr fun w=>?_;have H0:=St.start w;refine rS [.v] H0 kr fun gs1 w1 H1=>?_;clear H0;refine zc kr<|zz 0 kr ?_;have HL1:St w.heap.size w w1 []:=H1.as kr;clear H1;refine yW kr (fun mz ρ ww=> ∃(t:ByteArray),ByteArray.size t=mz∧((tl t).dropWhile (·==0)=(tl s).dropWhile (·==0))∧(ByteArray.size t≤ByteArray.size s)∧St w.heap.size w ww []∧Is [(0,.string t),(1,.int .u8 0),(4,.string (⟨#[]⟩))] ρ) (ByteArray.size s) ⟨s,rfl,rfl,(Nat.le_refl _),HL1,(Is.of ⟨kr,kr,kr,trivial⟩)⟩ ?_;clear HL1;rintro _ _ w2 ⟨t,rfl,ht,htz,H2,_,rfl⟩;refine zc kr<|zg [0,1,2,3,4,5,6,7,8] kr kr<|rp [.v,.v] H2 kr fun gs3 w3 H3=>wX [2,3,4,5,6,7,8] ?_;clear H2;by_cases hc2:(ByteArray.size t:Nat)>0
 ·refine rp [.E (.bool (decide (0<(ByteArray.size t:Int)))) (.bool true) (za (decide_eq_true (by omega))),.v,.v,.o (ins:=[((.tmp 9),.string t),((.const (.int .i64 0)),.int .i64 0)]) (v:=.int .u8 ((by_ t 0:Nat):Int)) (fun ρ o w ho hi=>qL (t:=9) (kd:=.i64) kr (x:=(.tmp 9)) (y:=(.const (.int .i64 0))) t 0 ho hi.1 hi.2.1 (by omega) w),.v] H3 kr fun gs4 w4 H4=>wX [7,8] ?_;clear H3;by_cases hc3:(by_ t 0:Nat)=0
  ·refine rp [.E (.bool (((by_ t 0:Nat):Int)==0)) (.bool true) (za (beq_iff_eq.2 (by omega))),.v] H4 kr fun gs5 w5 H5=>wX [] ?_;clear H4;refine zb<|zj kr kr<|zn kr<|wW<|zz 1 kr<|rL [.v,.o (ins:=[((.tmp 14),.string t),((.const (.int .i64 1)),.int .i64 1)]) (v:=.string (ByteArray.extract t 1 (ByteArray.size t))) (fun ρ o w ho hi=>zcX (t:=9) (kz:=.i64) kr (x:=(.tmp 14)) (z:=(.const (.int .i64 1))) t 1 ho hi.1 hi.2.1 (by omega) w),.v] H5 kr fun gs6 w6 H6=>?_;clear H5;have HL4:St w.heap.size w w6 []:=H6.as kr;clear H6;show ∃m,_∧_;exact ⟨_,(by rw [zdn t (by omega)];omega),(ByteArray.extract t 1 (ByteArray.size t)),rfl,(by rw [zhG t (by omega) (by omega)];exact ht),(by rw [zdn t (by omega)];omega),HL4,(Is.of ⟨kr,kr,kr,trivial⟩)⟩
  ·refine rp [.E (.bool (((by_ t 0:Nat):Int)==0)) (.bool false) (za (beq_eq_false_iff_ne.2 (by omega))),.v] H4 kr fun gs7 w7 H7=>wX [] ?_;clear H4;refine zb<|zl kr kr<|yv 0 kr<|wW<|rS [.v,.v] H7 kr fun gs8 w8 H8=>?_;clear H7;refine zk kr<|wV ?_;refine ⟨[.string t],(.tmp (.string t) kr .nil),?_,H8.below⟩;have hdone:zh ((tl s).dropWhile (·==0))=t:=by rw [←ht];exact uB t (by omega)
   exact congrArg Value.string hdone.symm
 ·refine rp [.E (.bool (decide (0<(ByteArray.size t:Int)))) (.bool false) (za (decide_eq_false (by omega))),.v,.n,.n,.n,.n,.v] H3 kr fun gs9 w9 H9=>wX [] ?_;clear H3;refine zb<|zl kr kr<|yv 0 kr<|wW<|rS [.v,.v] H9 kr fun gs10 w10 H10=>?_;clear H9;refine zk kr<|wV ?_;refine ⟨[.string t],(.tmp (.string t) kr .nil),?_,H10.below⟩;have hdone:zh ((tl s).dropWhile (·==0))=t:=by rw [←ht];exact uB t (by omega)
  exact congrArg Value.string hdone.symm
theorem zhW (s:ByteArray)(hs:ByteArray.size s≤0x800000000000):Fn Tryz.prog 91 #[.string s,.string (⟨#[0]⟩)] (.string (zh ((tl s).dropWhile (·==0)))):=by
 refine Fn.intro (c:=zf Tryz.f91) [.tmp 4] 37 Tryz.func91 kr kr kr fun w=>?_;have H0:=St.start w;refine rS [.v] H0 kr fun gs1 w1 H1=>?_;clear H0;refine zc kr<|zg [0,1,2,3,4,5] kr kr<|rp [.v] H1 kr fun gs2 w2 H2=>wX [1,2,3,4,5] ?_;clear H1;by_cases hx1:s=⟨#[]⟩
 ·refine rp [.E (.bool (ByteArray.toList s==ByteArray.toList (⟨#[]⟩))) (.bool true) (za (zI s (⟨#[]⟩) hx1)),.v,.n,.n,.v] H2 kr fun gs3 w3 H3=>wX [] ?_;clear H2;refine zb<|zj kr kr<|rS [.v,.v] H3 kr fun gs4 w4 H4=>?_;clear H3;refine zk kr<|wV ?_;refine ⟨[.string s],(.tmp (.string s) kr .nil),?_,H4.below⟩;exact congrArg Value.string (zbd (by assumption)).symm
 ·refine rp [.E (.bool (ByteArray.toList s==ByteArray.toList (⟨#[]⟩))) (.bool false) (za (yO s (⟨#[]⟩) hx1)),.v,.v,.E (.bool (ByteArray.toList (⟨#[0]⟩)==ByteArray.toList (⟨#[]⟩))) (.bool false) (za (yO (⟨#[0]⟩) (⟨#[]⟩) (fun h=>absurd (congrArg ByteArray.size h) (by decide)))),.v] H2 kr fun gs5 w5 H5=>wX [] ?_;clear H2;refine zb<|zl kr kr<|zn kr<|wW<|zc kr<|rS [.v,.v,.v,.v,.v,.oe (ins:=[((.tmp 18),.string (⟨#[0]⟩)),((.const (.int .i64 0)),.int .i64 0)]) (v:=.int .u8 ((by_ (⟨#[0]⟩) 0:Nat):Int)) (v':=.int .u8 0) (fun ρ o w ho hi=>qL (t:=9) (kd:=.i64) kr (x:=(.tmp 18)) (y:=(.const (.int .i64 0))) (⟨#[0]⟩) 0 ho hi.1 hi.2.1 (by decide) w) (zo (by decide)),.v,.v] H5 kr fun gs6 w6 H6=>?_;clear H5;refine zj kr kr<|rS [.v,.v,.oe (ins:=[((.tmp 23),.string (⟨#[0]⟩)),((.const (.int .i64 0)),.int .i64 0)]) (v:=.int .u8 ((by_ (⟨#[0]⟩) 0:Nat):Int)) (v':=.int .u8 0) (fun ρ o w ho hi=>qL (t:=9) (kd:=.i64) kr (x:=(.tmp 23)) (y:=(.const (.int .i64 0))) (⟨#[0]⟩) 0 ho hi.1 hi.2.1 (by decide) w) (zo (by decide)),.c (zhV s (by omega)),.v] H6 kr fun gs7 w7 H7=>?_;clear H6;refine zk kr<|wV ?_;refine ⟨[.string (zh ((tl s).dropWhile (·==0)))],(.tmp (.string (zh ((tl s).dropWhile (·==0)))) kr .nil),?_,H7.below⟩;rfl
theorem zbh (n:Nat)(hn:n<0x10000000000000000):Fn Tryz.prog 75 #[.int .u64 (n:Int)] (.string (zh (dg n))):=by
 refine Fn.intro (c:=zf Tryz.f75) [.tmp 2] 20 Tryz.func75 kr kr kr fun w=>?_;have H0:=St.start w;refine rS [.v] H0 kr fun gs1 w1 H1=>?_;clear H0;refine rS [.a] H1 kr fun gs2 w2 H2=>?_;clear H1;refine zc kr<|rS [.v] H2 kr fun gs3 w3 H3=>?_;clear H2;refine zz 0 kr ?_;have HL1:St w.heap.size w w3 [((gs2 0).b,Obj.cells #[.int .u8 0,.int .u8 0,.int .u8 0,.int .u8 0,.int .u8 0,.int .u8 0,.int .u8 0,.int .u8 0] 151 (0,0))]:=H3.as kr;clear H3;refine zcq kr<|rS [.v] HL1 kr fun gs4 w4 H4=>?_;clear HL1;refine zc kr<|zj kr kr<|zn kr<|wW<|zc kr<|zz 1 kr<|rS [.v,.v] H4 kr fun gs5 w5 H5=>?_;clear H4;refine rL [.v,.v,.v,.v,.v,.E (.int .u64 (Int.fdiv ((n:Int)) (2^0))) (.int .u64 (n:Int)) (zo (zhF (a:=n) (by omega))),.E (.int .u8 (IntKind.u8.wrap ((n:Int)))) (.int .u8 (BitVec.toNat (dgB n 1):Int)) (zhI n),.v,.s 0] H5 kr fun gs6 w6 H6=>?_;clear H5;refine wW ?_;have HL2:St w.heap.size w w6 [((gs2 0).b,Obj.cells #[.int .u8 0,.int .u8 0,.int .u8 0,.int .u8 0,.int .u8 0,.int .u8 0,.int .u8 0,.int .u8 (BitVec.toNat (dgB n 1):Int)] 151 (0,0))]:=H6.as kr;clear H6;refine rL [.v,.v] HL2 kr fun gs7 w7 H7=>?_;clear HL2;show WPL _ _ _ _ _ _;refine jI<|yb [0,2,3,4,5,6] fun ρ1=>?_;have HK3:=H7.keep;clear H7;refine rS [.v] HK3 kr fun gs8 w8 H8=>?_;clear HK3;refine zc kr<|zj kr kr<|zn kr<|wW<|zc kr<|zz 1 kr<|rS [.v,.v] H8 kr fun gs9 w9 H9=>?_;clear H8;refine rL [.v,.v,.v,.v,.v,.E (.int .u64 (Int.fdiv (n:Int) (2^8))) (.int .u64 ((n / 256:Nat):Int)) (zo (xN (k:=8) n 256 rfl)),.E (.int .u8 (IntKind.u8.wrap (((n / 256:Nat):Int)))) (.int .u8 (BitVec.toNat (dgB n 256):Int)) (xr n 256),.v,.s 0] H9 kr fun gs10 w10 H10=>?_;clear H9;refine wW ?_;have HL4:St w.heap.size w w10 [((gs2 0).b,Obj.cells #[.int .u8 0,.int .u8 0,.int .u8 0,.int .u8 0,.int .u8 0,.int .u8 0,.int .u8 (BitVec.toNat (dgB n 256):Int),.int .u8 (BitVec.toNat (dgB n 1):Int)] 151 (0,0))]:=H10.as kr;clear H10;refine rL [.v,.v] HL4 kr fun gs11 w11 H11=>?_;clear HL4;show WPL _ _ _ _ _ _;refine jI<|rS [.v] H11 kr fun gs12 w12 H12=>?_;clear H11;refine zc kr<|zj kr kr<|zn kr<|wW<|zc kr<|zz 1 kr<|rS [.v,.v] H12 kr fun gs13 w13 H13=>?_;clear H12;refine yb [0,2,3,4,5,6] fun ρ2=>?_;have HK5:=H13.keep;clear H13;refine rL [.v,.v,.v,.v,.v,.E (.int .u64 (Int.fdiv (n:Int) (2^16))) (.int .u64 ((n / 65536:Nat):Int)) (zo (xN (k:=16) n 65536 rfl)),.E (.int .u8 (IntKind.u8.wrap (((n / 65536:Nat):Int)))) (.int .u8 (BitVec.toNat (dgB n 65536):Int)) (xr n 65536),.v,.s 0] HK5 kr fun gs14 w14 H14=>?_;clear HK5;refine wW ?_;have HL6:St w.heap.size w w14 [((gs2 0).b,Obj.cells #[.int .u8 0,.int .u8 0,.int .u8 0,.int .u8 0,.int .u8 0,.int .u8 (BitVec.toNat (dgB n 65536):Int),.int .u8 (BitVec.toNat (dgB n 256):Int),.int .u8 (BitVec.toNat (dgB n 1):Int)] 151 (0,0))]:=H14.as kr;clear H14;refine rL [.v,.v] HL6 kr fun gs15 w15 H15=>?_;clear HL6;show WPL _ _ _ _ _ _;refine jI<|rS [.v] H15 kr fun gs16 w16 H16=>?_;clear H15;refine zc kr<|zj kr kr<|zn kr<|wW<|zc kr<|zz 1 kr<|rS [.v,.v] H16 kr fun gs17 w17 H17=>?_;clear H16;refine rL [.v,.v,.v,.v,.v,.E (.int .u64 (Int.fdiv (n:Int) (2^24))) (.int .u64 ((n / 16777216:Nat):Int)) (zo (xN (k:=24) n 16777216 rfl)),.E (.int .u8 (IntKind.u8.wrap (((n / 16777216:Nat):Int)))) (.int .u8 (BitVec.toNat (dgB n 16777216):Int)) (xr n 16777216),.v,.s 0] H17 kr fun gs18 w18 H18=>?_;clear H17;refine wW<|yb [0,2,3,4,5,6] fun ρ3=>?_;have HK7:=H18.keep;clear H18;have HL8:St w.heap.size w w18 [((gs2 0).b,Obj.cells #[.int .u8 0,.int .u8 0,.int .u8 0,.int .u8 0,.int .u8 (BitVec.toNat (dgB n 16777216):Int),.int .u8 (BitVec.toNat (dgB n 65536):Int),.int .u8 (BitVec.toNat (dgB n 256):Int),.int .u8 (BitVec.toNat (dgB n 1):Int)] 151 (0,0))]:=HK7.as kr;clear HK7;refine rL [.v,.v] HL8 kr fun gs19 w19 H19=>?_;clear HL8;show WPL _ _ _ _ _ _;refine jI<|rS [.v] H19 kr fun gs20 w20 H20=>?_;clear H19;refine zc kr<|zj kr kr<|zn kr<|wW<|zc kr<|zz 1 kr<|rS [.v,.v] H20 kr fun gs21 w21 H21=>?_;clear H20;refine rL [.v,.v,.v,.v,.v,.E (.int .u64 (Int.fdiv (n:Int) (2^32))) (.int .u64 ((n / 4294967296:Nat):Int)) (zo (xN (k:=32) n 4294967296 rfl)),.E (.int .u8 (IntKind.u8.wrap (((n / 4294967296:Nat):Int)))) (.int .u8 (BitVec.toNat (dgB n 4294967296):Int)) (xr n 4294967296),.v,.s 0] H21 kr fun gs22 w22 H22=>?_;clear H21;refine wW ?_;have HL9:St w.heap.size w w22 [((gs2 0).b,Obj.cells #[.int .u8 0,.int .u8 0,.int .u8 0,.int .u8 (BitVec.toNat (dgB n 4294967296):Int),.int .u8 (BitVec.toNat (dgB n 16777216):Int),.int .u8 (BitVec.toNat (dgB n 65536):Int),.int .u8 (BitVec.toNat (dgB n 256):Int),.int .u8 (BitVec.toNat (dgB n 1):Int)] 151 (0,0))]:=H22.as kr;clear H22;refine rL [.v,.v] HL9 kr fun gs23 w23 H23=>?_;clear HL9;show WPL _ _ _ _ _ _;refine jI<|rS [.v] H23 kr fun gs24 w24 H24=>?_;clear H23;refine yb [0,2,3,4,5,6] fun ρ4=>?_;have HK10:=H24.keep;clear H24;refine zc kr<|zj kr kr<|zn kr<|wW<|zc kr<|zz 1 kr<|rS [.v,.v] HK10 kr fun gs25 w25 H25=>?_;clear HK10;refine rL [.v,.v,.v,.v,.v,.E (.int .u64 (Int.fdiv (n:Int) (2^40))) (.int .u64 ((n / 1099511627776:Nat):Int)) (zo (xN (k:=40) n 1099511627776 rfl)),.E (.int .u8 (IntKind.u8.wrap (((n / 1099511627776:Nat):Int)))) (.int .u8 (BitVec.toNat (dgB n 1099511627776):Int)) (xr n 1099511627776),.v,.s 0] H25 kr fun gs26 w26 H26=>?_;clear H25;refine wW ?_;have HL11:St w.heap.size w w26 [((gs2 0).b,Obj.cells #[.int .u8 0,.int .u8 0,.int .u8 (BitVec.toNat (dgB n 1099511627776):Int),.int .u8 (BitVec.toNat (dgB n 4294967296):Int),.int .u8 (BitVec.toNat (dgB n 16777216):Int),.int .u8 (BitVec.toNat (dgB n 65536):Int),.int .u8 (BitVec.toNat (dgB n 256):Int),.int .u8 (BitVec.toNat (dgB n 1):Int)] 151 (0,0))]:=H26.as kr;clear H26;refine rL [.v,.v] HL11 kr fun gs27 w27 H27=>?_;clear HL11;show WPL _ _ _ _ _ _;refine jI<|rS [.v] H27 kr fun gs28 w28 H28=>?_;clear H27;refine zc kr<|zj kr kr<|zn kr<|wW<|zc kr<|zz 1 kr<|rS [.v,.v] H28 kr fun gs29 w29 H29=>?_;clear H28;refine rL [.v,.v,.v,.v,.v,.E (.int .u64 (Int.fdiv (n:Int) (2^48))) (.int .u64 ((n / 281474976710656:Nat):Int)) (zo (xN (k:=48) n 281474976710656 rfl)),.E (.int .u8 (IntKind.u8.wrap (((n / 281474976710656:Nat):Int)))) (.int .u8 (BitVec.toNat (dgB n 281474976710656):Int)) (xr n 281474976710656),.v,.s 0] H29 kr fun gs30 w30 H30=>?_;clear H29;refine wW<|yb [0,2,3,4,5,6] fun ρ5=>?_;have HK12:=H30.keep;clear H30;have HL13:St w.heap.size w w30 [((gs2 0).b,Obj.cells #[.int .u8 0,.int .u8 (BitVec.toNat (dgB n 281474976710656):Int),.int .u8 (BitVec.toNat (dgB n 1099511627776):Int),.int .u8 (BitVec.toNat (dgB n 4294967296):Int),.int .u8 (BitVec.toNat (dgB n 16777216):Int),.int .u8 (BitVec.toNat (dgB n 65536):Int),.int .u8 (BitVec.toNat (dgB n 256):Int),.int .u8 (BitVec.toNat (dgB n 1):Int)] 151 (0,0))]:=HK12.as kr;clear HK12;refine rL [.v,.v] HL13 kr fun gs31 w31 H31=>?_;clear HL13;show WPL _ _ _ _ _ _;refine jI<|rS [.v] H31 kr fun gs32 w32 H32=>?_;clear H31;refine zc kr<|zj kr kr<|zn kr<|wW<|zc kr<|zz 1 kr<|rS [.v,.v] H32 kr fun gs33 w33 H33=>?_;clear H32;refine rL [.v,.v,.v,.v,.v,.E (.int .u64 (Int.fdiv (n:Int) (2^56))) (.int .u64 ((n / 72057594037927936:Nat):Int)) (zo (xN (k:=56) n 72057594037927936 rfl)),.E (.int .u8 (IntKind.u8.wrap (((n / 72057594037927936:Nat):Int)))) (.int .u8 (BitVec.toNat (dgB n 72057594037927936):Int)) (xr n 72057594037927936),.v,.s 0] H33 kr fun gs34 w34 H34=>?_;clear H33;refine wW ?_;have HL14:St w.heap.size w w34 [((gs2 0).b,Obj.cells #[.int .u8 (BitVec.toNat (dgB n 72057594037927936):Int),.int .u8 (BitVec.toNat (dgB n 281474976710656):Int),.int .u8 (BitVec.toNat (dgB n 1099511627776):Int),.int .u8 (BitVec.toNat (dgB n 4294967296):Int),.int .u8 (BitVec.toNat (dgB n 16777216):Int),.int .u8 (BitVec.toNat (dgB n 65536):Int),.int .u8 (BitVec.toNat (dgB n 256):Int),.int .u8 (BitVec.toNat (dgB n 1):Int)] 151 (0,0))]:=H34.as kr;clear H34;refine rL [.v,.v] HL14 kr fun gs35 w35 H35=>?_;clear HL14;show WPL _ _ _ _ _ _;refine jI<|rS [.v] H35 kr fun gs36 w36 H36=>?_;clear H35;refine yb [0,2,3,4,5,6] fun ρ6=>?_;have HK15:=H36.keep;clear H36;refine zc kr<|zl kr kr<|yv 0 kr<|wW ?_;have HL16:St w.heap.size w w36 [((gs2 0).b,Obj.cells #[.int .u8 (BitVec.toNat (dgB n 72057594037927936):Int),.int .u8 (BitVec.toNat (dgB n 281474976710656):Int),.int .u8 (BitVec.toNat (dgB n 1099511627776):Int),.int .u8 (BitVec.toNat (dgB n 4294967296):Int),.int .u8 (BitVec.toNat (dgB n 16777216):Int),.int .u8 (BitVec.toNat (dgB n 65536):Int),.int .u8 (BitVec.toNat (dgB n 256):Int),.int .u8 (BitVec.toNat (dgB n 1):Int)] 151 (0,0))]:=HK15.as kr;clear HK15;have hz_1: ∀(ρ:Env) (o:Oper) (w:World),o.op=.slice 151 (.tmp 3) none none none→Ins (ev ρ) [((.tmp 3),.pointer (some ⟨(gs2 0).b,0,none⟩))]→(execOp (ev ρ) o).run Tryz.prog w=.ok (.value (.slice (some ⟨(gs2 0).b,0,none⟩) 8 8)) w:=(fun ρ o w ho hi=>zc0 (t:=151) (n:=8) (e:=5) (z:=1) kr kr (x:=(.tmp 3)) ((gs2 0).b) ho hi.1 w)
 refine rS [.o hz_1,.x (op:=.convert 75 9 (.tmp 17)) (ins:=[((.tmp 17),.slice (some ⟨(gs2 0).b,0,none⟩) 8 8)]) [(0,((gs2 0).b,Obj.cells #[.int .u8 (BitVec.toNat (dgB n 72057594037927936):Int),.int .u8 (BitVec.toNat (dgB n 281474976710656):Int),.int .u8 (BitVec.toNat (dgB n 1099511627776):Int),.int .u8 (BitVec.toNat (dgB n 4294967296):Int),.int .u8 (BitVec.toNat (dgB n 16777216):Int),.int .u8 (BitVec.toNat (dgB n 65536):Int),.int .u8 (BitVec.toNat (dgB n 256):Int),.int .u8 (BitVec.toNat (dgB n 1):Int)] 151 (0,0)))] (kj (t:=75) (t':=9) (e:=5) [(BitVec.toNat (dgB n 72057594037927936):Int),(BitVec.toNat (dgB n 281474976710656):Int),(BitVec.toNat (dgB n 1099511627776):Int),(BitVec.toNat (dgB n 4294967296):Int),(BitVec.toNat (dgB n 16777216):Int),(BitVec.toNat (dgB n 65536):Int),(BitVec.toNat (dgB n 256):Int),(BitVec.toNat (dgB n 1):Int)] kr kr kr (Rw.lit #[.int .u8 (BitVec.toNat (dgB n 72057594037927936):Int),.int .u8 (BitVec.toNat (dgB n 281474976710656):Int),.int .u8 (BitVec.toNat (dgB n 1099511627776):Int),.int .u8 (BitVec.toNat (dgB n 4294967296):Int),.int .u8 (BitVec.toNat (dgB n 16777216):Int),.int .u8 (BitVec.toNat (dgB n 65536):Int),.int .u8 (BitVec.toNat (dgB n 256):Int),.int .u8 (BitVec.toNat (dgB n 1):Int)] 8 (by rfl) (by unfold maxLen;omega))),.c (zhW (strOfNums ([(BitVec.toNat (dgB n 72057594037927936):Int),(BitVec.toNat (dgB n 281474976710656):Int),(BitVec.toNat (dgB n 1099511627776):Int),(BitVec.toNat (dgB n 4294967296):Int),(BitVec.toNat (dgB n 16777216):Int),(BitVec.toNat (dgB n 65536):Int),(BitVec.toNat (dgB n 256):Int),(BitVec.toNat (dgB n 1):Int)])) (by rw [strOfNums_size];show 8≤0x800000000000;omega)),.v] HL16 kr fun gs37 w37 H37=>?_;clear HL16;refine zk kr<|wV ?_;refine ⟨[.string (zh ((tl (strOfNums ([(BitVec.toNat (dgB n 72057594037927936):Int),(BitVec.toNat (dgB n 281474976710656):Int),(BitVec.toNat (dgB n 1099511627776):Int),(BitVec.toNat (dgB n 4294967296):Int),(BitVec.toNat (dgB n 16777216):Int),(BitVec.toNat (dgB n 65536):Int),(BitVec.toNat (dgB n 256):Int),(BitVec.toNat (dgB n 1):Int)]))).dropWhile (·==0)))],(.tmp (.string (zh ((tl (strOfNums ([(BitVec.toNat (dgB n 72057594037927936):Int),(BitVec.toNat (dgB n 281474976710656):Int),(BitVec.toNat (dgB n 1099511627776):Int),(BitVec.toNat (dgB n 4294967296):Int),(BitVec.toNat (dgB n 16777216):Int),(BitVec.toNat (dgB n 65536):Int),(BitVec.toNat (dgB n 256):Int),(BitVec.toNat (dgB n 1):Int)]))).dropWhile (·==0)))) kr .nil),?_,H37.below⟩;exact congrArg Value.string (congrArg zh (zhL n hn))
theorem zdt (l:Bool)(s:ByteArray)(p:Option Addr)(n c m:Nat)(hm:m<0x10000000000000000):Fn Tryz.prog 56 #[.agg #[.bool l,.string s,.slice p n c],.int .u64 (m:Int)] (.string (zh (hd (frm l) m))):=by
 refine Fn.intro (c:=zf Tryz.f56) [.tmp 4] 29 Tryz.func56 kr kr kr fun w=>?_;have H0:=St.start w;refine rS [.b,.v] H0 kr fun gs1 w1 H1=>?_;clear H0;refine rS [.v] H1 kr fun gs2 w2 H2=>?_;clear H1;refine zc kr<|rS [.v,.l 0] H2 kr fun gs3 w3 H3=>?_;clear H2;refine Or.elim (Bool.eq_false_or_eq_true (l)).symm (fun hq1=>?_) (fun hq1=>?_)
 ·refine yY 8 (v:=.bool l) (v':=.bool false) (za hq1) kr<|zl kr kr<|zn kr<|wW<|zc kr<|zg [0,1] kr kr<|rp [.v] H3 kr fun gs4 w4 H4=>wX [1] ?_;clear H3;by_cases hc1:(m:Nat)≤55
  ·refine rp [.E (.bool (decide ((m:Int)≤55))) (.bool true) (za (decide_eq_true (by omega)))] H4 kr fun gs5 w5 H5=>wX [] ?_;clear H4;refine zb<|zj kr kr<|rS [.v,.v,.E (.int .u8 (IntKind.u8.wrap ((m:Int)))) (.int .u8 (BitVec.toNat (BitVec.ofNat 8 m):Int)) (vg m),.E (.int .u8 (IntKind.u8.wrap ((128)+((BitVec.toNat (BitVec.ofNat 8 m):Int))))) (.int .u8 (BitVec.toNat ((128:BitVec 8)+(BitVec.ofNat 8 m)):Int)) (uj (128:BitVec 8) (BitVec.ofNat 8 m)),.nw (fun b=>.slice (some ⟨b,0,none⟩) 1 1) #[.int .u8 (BitVec.toNat ((128:BitVec 8)+(BitVec.ofNat 8 m)):Int)] 5,.w fun nn=>.x (op:=.convert 75 9 (.tmp 15)) (ins:=[((.tmp 15),.slice (some ⟨(nn 1),0,none⟩) 1 1)]) [(1,((nn 1),Obj.cells #[.int .u8 (BitVec.toNat ((128:BitVec 8)+(BitVec.ofNat 8 m)):Int)] 5 (0,0)))] (kj (t:=75) (t':=9) (e:=5) [(BitVec.toNat ((128:BitVec 8)+(BitVec.ofNat 8 m)):Int)] kr kr kr (Rw.lit #[.int .u8 (BitVec.toNat ((128:BitVec 8)+(BitVec.ofNat 8 m)):Int)] 1 (by rfl) (by unfold maxLen;omega))),.v] H5 kr fun gs6 w6 H6=>?_;clear H5;refine zk kr<|wV ?_;refine ⟨[.string (strOfNums ([(BitVec.toNat ((128:BitVec 8)+(BitVec.ofNat 8 m)):Int)]))],(.tmp (.string (strOfNums ([(BitVec.toNat ((128:BitVec 8)+(BitVec.ofNat 8 m)):Int)]))) kr .nil),?_,H6.below⟩;exact congrArg Value.string (zdk (f:=frm l) _ (by rw [hq1];rfl) m (by omega) (by rw [hq1];decide))
  ·refine rp [.E (.bool (decide ((m:Int)≤55))) (.bool false) (za (decide_eq_false (by omega)))] H4 kr fun gs7 w7 H7=>wX [] ?_;clear H4;refine zb<|zl kr kr<|zn kr<|wW<|rS [.v,.c (zbh m (by omega)),.v] H7 kr fun gs8 w8 H8=>?_;clear H7;refine rS [.v,.v,.v,.v,.E (.int .u8 (IntKind.u8.wrap ((ByteArray.size (zh (dg m)):Int)))) (.int .u8 (BitVec.toNat (BitVec.ofNat 8 (ByteArray.size (zh (dg m)))):Int)) (vg (ByteArray.size (zh (dg m)))),.E (.int .u8 (IntKind.u8.wrap ((183)+((BitVec.toNat (BitVec.ofNat 8 (ByteArray.size (zh (dg m)))):Int))))) (.int .u8 (BitVec.toNat ((183:BitVec 8)+(BitVec.ofNat 8 (ByteArray.size (zh (dg m))))):Int)) (uj (183:BitVec 8) (BitVec.ofNat 8 (ByteArray.size (zh (dg m))))),.nw (fun b=>.slice (some ⟨b,0,none⟩) 1 1) #[.int .u8 (BitVec.toNat ((183:BitVec 8)+(BitVec.ofNat 8 (ByteArray.size (zh (dg m))))):Int)] 5,.w fun nn=>.x (op:=.convert 75 9 (.tmp 25)) (ins:=[((.tmp 25),.slice (some ⟨(nn 1),0,none⟩) 1 1)]) [(1,((nn 1),Obj.cells #[.int .u8 (BitVec.toNat ((183:BitVec 8)+(BitVec.ofNat 8 (ByteArray.size (zh (dg m))))):Int)] 5 (0,0)))] (kj (t:=75) (t':=9) (e:=5) [(BitVec.toNat ((183:BitVec 8)+(BitVec.ofNat 8 (ByteArray.size (zh (dg m))))):Int)] kr kr kr (Rw.lit #[.int .u8 (BitVec.toNat ((183:BitVec 8)+(BitVec.ofNat 8 (ByteArray.size (zh (dg m))))):Int)] 1 (by rfl) (by unfold maxLen;omega))),.v,.o (ins:=[((.tmp 26),.string (strOfNums ([(BitVec.toNat ((183:BitVec 8)+(BitVec.ofNat 8 (ByteArray.size (zh (dg m))))):Int)]))),((.tmp 27),.string (zh (dg m)))]) (v:=.string ((strOfNums ([(BitVec.toNat ((183:BitVec 8)+(BitVec.ofNat 8 (ByteArray.size (zh (dg m))))):Int)]))++(zh (dg m)))) (fun ρ o w ho hi=>uk (t:=9) (t':=9) (x:=(.tmp 26)) (y:=(.tmp 27)) (strOfNums ([(BitVec.toNat ((183:BitVec 8)+(BitVec.ofNat 8 (ByteArray.size (zh (dg m))))):Int)])) (zh (dg m)) w ho hi.1 hi.2.1 (by rw [strOfNums_size,qd];have:=qm m;show 1+_≤_;omega)),.v] H8 kr fun gs9 w9 H9=>?_;clear H8;refine zk kr<|wV ?_;refine ⟨[.string ((strOfNums ([(BitVec.toNat ((183:BitVec 8)+(BitVec.ofNat 8 (ByteArray.size (zh (dg m))))):Int)]))++(zh (dg m)))],(.tmp (.string ((strOfNums ([(BitVec.toNat ((183:BitVec 8)+(BitVec.ofNat 8 (ByteArray.size (zh (dg m))))):Int)]))++(zh (dg m)))) kr .nil),?_,H9.below⟩;exact congrArg Value.string (zdl (f:=frm l) _ (by rw [hq1];rfl) m (by omega) (by rw [hq1];decide))
 ·refine yY 8 (v:=.bool l) (v':=.bool true) (za hq1) kr<|zj kr kr<|rL [.v] H3 kr fun gs10 w10 H10=>?_;clear H3;refine wW<|zc kr<|zg [0,1] kr kr<|rp [.v] H10 kr fun gs11 w11 H11=>wX [1] ?_;clear H10;by_cases hc2:(m:Nat)≤55
  ·refine rp [.E (.bool (decide ((m:Int)≤55))) (.bool true) (za (decide_eq_true (by omega)))] H11 kr fun gs12 w12 H12=>wX [] ?_;clear H11;refine zb<|zj kr kr<|rS [.v,.v,.E (.int .u8 (IntKind.u8.wrap ((m:Int)))) (.int .u8 (BitVec.toNat (BitVec.ofNat 8 m):Int)) (vg m),.E (.int .u8 (IntKind.u8.wrap ((192)+((BitVec.toNat (BitVec.ofNat 8 m):Int))))) (.int .u8 (BitVec.toNat ((192:BitVec 8)+(BitVec.ofNat 8 m)):Int)) (uj (192:BitVec 8) (BitVec.ofNat 8 m)),.nw (fun b=>.slice (some ⟨b,0,none⟩) 1 1) #[.int .u8 (BitVec.toNat ((192:BitVec 8)+(BitVec.ofNat 8 m)):Int)] 5,.w fun nn=>.x (op:=.convert 75 9 (.tmp 15)) (ins:=[((.tmp 15),.slice (some ⟨(nn 1),0,none⟩) 1 1)]) [(1,((nn 1),Obj.cells #[.int .u8 (BitVec.toNat ((192:BitVec 8)+(BitVec.ofNat 8 m)):Int)] 5 (0,0)))] (kj (t:=75) (t':=9) (e:=5) [(BitVec.toNat ((192:BitVec 8)+(BitVec.ofNat 8 m)):Int)] kr kr kr (Rw.lit #[.int .u8 (BitVec.toNat ((192:BitVec 8)+(BitVec.ofNat 8 m)):Int)] 1 (by rfl) (by unfold maxLen;omega))),.v] H12 kr fun gs13 w13 H13=>?_;clear H12;refine zk kr<|wV ?_;refine ⟨[.string (strOfNums ([(BitVec.toNat ((192:BitVec 8)+(BitVec.ofNat 8 m)):Int)]))],(.tmp (.string (strOfNums ([(BitVec.toNat ((192:BitVec 8)+(BitVec.ofNat 8 m)):Int)]))) kr .nil),?_,H13.below⟩;exact congrArg Value.string (zdk (f:=frm l) _ (by rw [hq1];rfl) m (by omega) (by rw [hq1];decide))
  ·refine rp [.E (.bool (decide ((m:Int)≤55))) (.bool false) (za (decide_eq_false (by omega)))] H11 kr fun gs14 w14 H14=>wX [] ?_;clear H11;refine zb<|zl kr kr<|zn kr<|wW<|rS [.v,.c (zbh m (by omega)),.v] H14 kr fun gs15 w15 H15=>?_;clear H14;refine rS [.v,.v,.v,.v,.E (.int .u8 (IntKind.u8.wrap ((ByteArray.size (zh (dg m)):Int)))) (.int .u8 (BitVec.toNat (BitVec.ofNat 8 (ByteArray.size (zh (dg m)))):Int)) (vg (ByteArray.size (zh (dg m)))),.E (.int .u8 (IntKind.u8.wrap ((247)+((BitVec.toNat (BitVec.ofNat 8 (ByteArray.size (zh (dg m)))):Int))))) (.int .u8 (BitVec.toNat ((247:BitVec 8)+(BitVec.ofNat 8 (ByteArray.size (zh (dg m))))):Int)) (uj (247:BitVec 8) (BitVec.ofNat 8 (ByteArray.size (zh (dg m))))),.nw (fun b=>.slice (some ⟨b,0,none⟩) 1 1) #[.int .u8 (BitVec.toNat ((247:BitVec 8)+(BitVec.ofNat 8 (ByteArray.size (zh (dg m))))):Int)] 5,.w fun nn=>.x (op:=.convert 75 9 (.tmp 25)) (ins:=[((.tmp 25),.slice (some ⟨(nn 1),0,none⟩) 1 1)]) [(1,((nn 1),Obj.cells #[.int .u8 (BitVec.toNat ((247:BitVec 8)+(BitVec.ofNat 8 (ByteArray.size (zh (dg m))))):Int)] 5 (0,0)))] (kj (t:=75) (t':=9) (e:=5) [(BitVec.toNat ((247:BitVec 8)+(BitVec.ofNat 8 (ByteArray.size (zh (dg m))))):Int)] kr kr kr (Rw.lit #[.int .u8 (BitVec.toNat ((247:BitVec 8)+(BitVec.ofNat 8 (ByteArray.size (zh (dg m))))):Int)] 1 (by rfl) (by unfold maxLen;omega))),.v,.o (ins:=[((.tmp 26),.string (strOfNums ([(BitVec.toNat ((247:BitVec 8)+(BitVec.ofNat 8 (ByteArray.size (zh (dg m))))):Int)]))),((.tmp 27),.string (zh (dg m)))]) (v:=.string ((strOfNums ([(BitVec.toNat ((247:BitVec 8)+(BitVec.ofNat 8 (ByteArray.size (zh (dg m))))):Int)]))++(zh (dg m)))) (fun ρ o w ho hi=>uk (t:=9) (t':=9) (x:=(.tmp 26)) (y:=(.tmp 27)) (strOfNums ([(BitVec.toNat ((247:BitVec 8)+(BitVec.ofNat 8 (ByteArray.size (zh (dg m))))):Int)])) (zh (dg m)) w ho hi.1 hi.2.1 (by rw [strOfNums_size,qd];have:=qm m;show 1+_≤_;omega)),.v] H15 kr fun gs16 w16 H16=>?_;clear H15;refine zk kr<|wV ?_;refine ⟨[.string ((strOfNums ([(BitVec.toNat ((247:BitVec 8)+(BitVec.ofNat 8 (ByteArray.size (zh (dg m))))):Int)]))++(zh (dg m)))],(.tmp (.string ((strOfNums ([(BitVec.toNat ((247:BitVec 8)+(BitVec.ofNat 8 (ByteArray.size (zh (dg m))))):Int)]))++(zh (dg m)))) kr .nil),?_,H16.below⟩;exact congrArg Value.string (zdl (f:=frm l) _ (by rw [hq1];rfl) m (by omega) (by rw [hq1];decide))
theorem zdu (m:Nat)(ih: ∀(l:Bool) (s:ByteArray) (p:Option Addr) (n c:Nat) (k:Fo),s.size≤0x800000000000→s.size+wtF k≤0x4000000000000000→k.cnt<m→FnP Tryz.prog 35 #[.agg #[.bool l,.string s,.slice p n c]] (fun w=>zr w.heap.size w p n k) (.int .u64 ((sz1 l s (szF k):Nat):Int)))(l:Bool)(s:ByteArray)(p:Option Addr)(n c:Nat)(k:Fo)(hs:s.size≤0x800000000000)(hw:s.size+wtF k≤0x4000000000000000)(hkm:k.cnt<m+1):FnP Tryz.prog 55 #[.agg #[.bool l,.string s,.slice p n c]] (fun w=>zr w.heap.size w p n k) (.int .u64 ((ByteArray.size s+szF k:Nat):Int)):=by
 refine FnP.intro (c:=zf Tryz.f55) [.tmp 2] 23 Tryz.func55 kr kr kr fun w hpre=>?_;have H0:=St.start w;have hn:=hpre.1;have hnm:=hpre.2.1;refine rS [.b,.v] H0 kr fun gs1 w1 H1=>?_;clear H0;refine rS [.v,.l 0,.v,.E (.int .u64 (IntKind.u64.wrap ((ByteArray.size s:Int)))) (.int .u64 (ByteArray.size s:Int)) (zo (xl (a:=ByteArray.size s) (by omega))),.v] H1 kr fun gs2 w2 H2=>?_;clear H1;refine zc kr<|rS [.v,.l 0,.v,.v] H2 kr fun gs3 w3 H3=>?_;clear H2;refine zz 0 kr ?_;have HL1:St w.heap.size w w3 [((gs1 0).b,Obj.cells #[.bool l,.string s,.slice p n c] 46 (0,0))]:=H3.as kr;clear H3;have HD2:St w.heap.size w w3 []:=HL1.sub (List.Sublist.cons _ List.Sublist.slnil);refine yW kr (fun mz ρ ww=> ∃(i:Nat) (r:Fo) (a:Nat),n-i=mz∧(FoR w.heap.size w p i r)∧(i+Fo.len r=n)∧(Fo.cnt r≤Fo.cnt k)∧(a+wtF r≤0x4000000000000000)∧(s.size+szF k=a+szF r)∧St w.heap.size w ww []∧Is [(0,.agg #[.bool l,.string s,.slice p n c]),(1,.pointer (some ⟨(gs1 0).b,0,none⟩)),(2,wZ),(3,.int .u64 (a:Int)),(11,.slice p n c),(12,.int .i64 (n:Int)),(13,.int .i64 (i:Int))] ρ) (n-0) ⟨0,k,(ByteArray.size s),rfl,(zr.start hpre),(by have hn0:=(hpre).1;omega),(Nat.le_refl _),hw,rfl,HD2,(Is.of ⟨kr,kr,kr,kr,kr,kr,kr,trivial⟩)⟩ ?_;clear HD2;rintro _ _ w4 ⟨i,r,a,rfl,hR,hN,hcn,hwt,hd,H4,_,rfl⟩;by_cases hc3:(i:Nat)<n
 ·refine rS [.E (.bool (decide ((i:Int)<(n:Int)))) (.bool true) (za (decide_eq_true (by omega)))] H4 kr fun gs5 w5 H5=>?_;clear H4;refine zc kr<|zj kr kr<|zn kr<|wW<|zc kr<|zz 1 kr ?_;obtain ⟨l1,s1,k1,r1,b1,off1,C1,T1,fz1,p1,n1,c1,hr1,hp1,hb1,hh1,hs1,hx1,hz1,hk1,hR1,hN1⟩:=FoR.open hR hN (by omega);refine rS [.o (ins:=[((.tmp 11),.slice p n c),((.tmp 13),.int .i64 (i:Int))]) (v:=.pointer (some ⟨b1,off1+i*3,none⟩)) (fun ρ o w ho hi=>vu (kd:=.i64) (t:=43) (e:=46) (bytes:=48) kr (x:=(.tmp 11)) (y:=(.tmp 13)) b1 off1 n c i hp1 ho hi.1 hi.2.1 (by omega) w),.fp (off:=off1+i*3) (n:=3) (W:=#[.bool l1,.string s1,.slice p1 n1 c1]) hh1 hb1 hs1 hx1,.a,.s 0] H5 kr fun gs6 w6 H6=>?_;clear H5;have hcn1:=hcn;rw [hr1] at hcn1;simp only [Fo.cnt] at hcn1;have hwt1:=hwt;rw [hr1] at hwt1;simp only [wtF] at hwt1;have hsl1:=xp k1;have hsm1:=vw l1 s1 (szF k1);refine rL [.v,.l 0,.cp (pre:=fun w=>zr w.heap.size w p1 n1 k1) (ih l1 s1 p1 n1 c1 k1 hz1 (by omega) (by omega)) [] (fun w hb hd=>(zr.call hk1 hb)),.E (.int .u64 (IntKind.u64.wrap ((a:Int)+((sz1 l1 s1 (szF k1):Nat):Int)))) (.int .u64 ((a+(sz1 l1 s1 (szF k1)):Nat):Int)) (zo (zcQ (a:=a) (b:=sz1 l1 s1 (szF k1)) (by omega))),.v] H6 kr fun gs7 w7 H7=>?_;clear H6;refine wW<|yb [0,1,2,3,5,11,12,13,14] fun ρ1=>?_;have HK4:=H7.keep;clear H7;refine rL [.E (.int .i64 (IntKind.i64.wrap ((i:Int)+1))) (.int .i64 ((i+1:Nat):Int)) (zo (qc (a:=i) (b:=1) (by omega))),.v] HK4 kr fun gs8 w8 H8=>?_;clear HK4;have HL5:St w.heap.size w w8 [((gs6 2).b,Obj.cells #[.bool l1,.string s1,.slice p1 n1 c1] 46 (0,0))]:=H8.as kr;clear H8;have HD6:St w.heap.size w w8 []:=HL5.sub (List.Sublist.cons _ List.Sublist.slnil);show ∃m,_∧_;exact ⟨_,(by omega),(i+1),r1,(a+sz1 l1 s1 (szF k1)),rfl,hR1,hN1,(by omega),(by omega),(by rw [hd,hr1];simp only [szF];omega),HD6,(Is.of ⟨kr,kr,kr,kr,kr,kr,kr,trivial⟩)⟩
 ·refine rS [.E (.bool (decide ((i:Int)<(n:Int)))) (.bool false) (za (decide_eq_false (by omega)))] H4 kr fun gs9 w9 H9=>?_;clear H4;refine zc kr<|zl kr kr<|yv 0 kr<|wW<|rS [.v,.v] H9 kr fun gs10 w10 H10=>?_;clear H9;refine zk kr<|wV ?_;refine ⟨[.int .u64 (a:Int)],(.tmp (.int .u64 (a:Int)) kr .nil),?_,H10.below⟩;refine zo ?_;rw [hd,FoR.done hN (by omega)];rfl
theorem zhX (m:Nat)(ih: ∀(l:Bool) (s:ByteArray) (p:Option Addr) (n c:Nat) (k:Fo),s.size≤0x800000000000→s.size+wtF k≤0x4000000000000000→k.cnt<m→FnP Tryz.prog 35 #[.agg #[.bool l,.string s,.slice p n c]] (fun w=>zr w.heap.size w p n k) (.int .u64 ((sz1 l s (szF k):Nat):Int)))(l:Bool)(s:ByteArray)(p:Option Addr)(n c:Nat)(k:Fo)(hs:s.size≤0x800000000000)(hw:s.size+wtF k≤0x4000000000000000)(hkm:k.cnt<m+1):FnP Tryz.prog 35 #[.agg #[.bool l,.string s,.slice p n c]] (fun w=>zr w.heap.size w p n k) (.int .u64 ((sz1 l s (szF k):Nat):Int)):=by
 refine FnP.intro (c:=zf Tryz.f35) [.tmp 2] 16 Tryz.func35 kr kr kr fun w hpre=>?_;have H0:=St.start w;have hn:=hpre.1;have hnm:=hpre.2.1;refine rS [.b,.v] H0 kr fun gs1 w1 H1=>?_;clear H0;refine zc kr<|rS [.v,.l 0,.c (uC s)] H1 kr fun gs2 w2 H2=>?_;clear H1;refine Or.elim (Bool.eq_false_or_eq_true (zR s)).symm (fun hq1=>?_) (fun hq1=>?_)
 ·refine yY 6 (v:=.bool (zR s)) (v':=.bool false) (za hq1) kr<|zl kr kr<|zn kr<|wW<|rS [.l 0,.cp (pre:=fun w=>zr w.heap.size w p n k) (zdu m ih l s p n c k (by omega) (by omega) (by omega)) [] (fun w hb hd=>(zr.call hpre hb)),.v] H2 kr fun gs3 w3 H3=>?_;clear H2;have hhl:=xn (frm l) (ByteArray.size s+szF k);have hsz:=xp k;have hhs:ByteArray.size (zh (hd (frm l) (ByteArray.size s+szF k)))≤9:=hhl.2;refine rS [.l 0,.v,.c (zdt l s p n c (ByteArray.size s+szF k) (by omega)),.v,.E (.int .u64 (IntKind.u64.wrap ((ByteArray.size (zh (hd (frm l) (ByteArray.size s+szF k))):Int)))) (.int .u64 (ByteArray.size (zh (hd (frm l) (ByteArray.size s+szF k))):Int)) (zo (xl (a:=ByteArray.size (zh (hd (frm l) (ByteArray.size s+szF k)))) (by omega))),.v,.E (.int .u64 (IntKind.u64.wrap ((ByteArray.size (zh (hd (frm l) (ByteArray.size s+szF k))):Int)+((ByteArray.size s+szF k:Nat):Int)))) (.int .u64 (((ByteArray.size (zh (hd (frm l) (ByteArray.size s+szF k))))+(ByteArray.size s+szF k):Nat):Int)) (zo (zcQ (a:=ByteArray.size (zh (hd (frm l) (ByteArray.size s+szF k)))) (b:=ByteArray.size s+szF k) (by omega))),.v] H3 kr fun gs4 w4 H4=>?_;clear H3;refine zk kr<|wV ?_;refine ⟨[.int .u64 (((ByteArray.size (zh (hd (frm l) (ByteArray.size s+szF k))))+(ByteArray.size s+szF k):Nat):Int)],(.tmp (.int .u64 (((ByteArray.size (zh (hd (frm l) (ByteArray.size s+szF k))))+(ByteArray.size s+szF k):Nat):Int)) kr .nil),?_,H4.below⟩;refine zo ?_;unfold sz1;rw [if_neg (by rw [hq1];decide)];rfl
 ·refine yY 6 (v:=.bool (zR s)) (v':=.bool true) (za hq1) kr<|zj kr kr<|rS [.v] H2 kr fun gs5 w5 H5=>?_;clear H2;refine zk kr<|wV ?_;refine ⟨[.int .u64 1],(.tmp (.int .u64 1) kr .nil),?_,H5.below⟩;refine zo ?_;unfold sz1;rw [if_pos hq1];rfl
theorem zdv (l:Bool)(s:ByteArray)(p:Option Addr)(n c:Nat)(k:Fo)(hs:s.size≤0x800000000000)(hw:s.size+wtF k≤0x4000000000000000):FnP Tryz.prog 35 #[.agg #[.bool l,.string s,.slice p n c]] (fun w=>zr w.heap.size w p n k) (.int .u64 ((sz1 l s (szF k):Nat):Int)):=by
 have key: ∀(m:Nat) (l:Bool) (s:ByteArray) (p:Option Addr) (n c:Nat) (k:Fo),s.size≤0x800000000000→s.size+wtF k≤0x4000000000000000→k.cnt<m→FnP Tryz.prog 35 #[.agg #[.bool l,.string s,.slice p n c]] (fun w=>zr w.heap.size w p n k) (.int .u64 ((sz1 l s (szF k):Nat):Int)):=by
  intro m
  induction m with
  | zero=>intros;omega
  | succ m ih=>intro l s p n c k hs hw hkm;exact zhX m ih l s p n c k hs hw hkm
 exact key (k.cnt+1) l s p n c k hs hw (by omega)
theorem zhY (l:Bool)(s:ByteArray)(p:Option Addr)(n c:Nat)(k:Fo)(hs:s.size≤0x800000000000)(hw:s.size+wtF k≤0x4000000000000000):FnP Tryz.prog 55 #[.agg #[.bool l,.string s,.slice p n c]] (fun w=>zr w.heap.size w p n k) (.int .u64 ((ByteArray.size s+szF k:Nat):Int)):=zdu k.cnt (fun l s p n c k hs hw _=>zdv l s p n c k hs hw) l s p n c k hs hw (by omega)
inductive BE (p:Nat)(T e:TypeId):List UInt8→List (Nat×Obj)→Prop
 | nil (a:Option Addr):a=none∨a=some ⟨p,0,none⟩→BE p T e [] [(p,.cells #[.pointer a,.slice none 0 0] T (0,0))]
 | row (a:Option Addr) (b n cap:Nat) (cur:Array Value) (out:List UInt8):a=none∨a=some ⟨p,0,none⟩→n=out.length→Rw 1 cur cap n (cellsB out)→
  BE p T e out [(b,.cells cur e (0,0)),(p,.cells #[.pointer a,.slice (some ⟨b,0,none⟩) n cap] T (0,0))]
def FnB (P:Program)(f:Nat)(args:Array Value)(v:Value)(p:Nat)(T e:TypeId)(out out':List UInt8)(pre:World→Prop):Prop:=
 ∀(w0 w:World) (L E:List (Nat×Obj)),BE p T e out E→pre w0→St w0.heap.size w0 w (E++L)→Calls P f args w fun r w'=> ∃E',r=.returned v∧BE p T e out' E'∧St w0.heap.size w0 w' (E'++L)
def xt (P:Program)(f:Nat)(args:Array Value)(v:Value)(p:Nat)(T e:TypeId)(out out':List UInt8)(pre:World→Prop):Prop:=
 ∀(w0 w:World) (E:List (Nat×Obj)),BE p T e out E→pre w0→St w0.heap.size w0 w E→Calls P f args w fun r w'=> ∃E',r=.returned v∧BE p T e out' E'∧St w0.heap.size w0 w' E'
section
variable {P:Program}{N:Nat}{ops:Array Oper}{i:Nat}{r:List Nat}{K:Env→World→Prop}{ρ:Env}{w:World}{w0:World}{l E:List (Nat×Obj)}
theorem zbi (HS:St w0.heap.size w0 w (l++E)){p:Nat}{T e:TypeId}{out:List UInt8}(hE:BE p T e out E)(d:Option Nat)(f:Nat)(args:Array Value)(v:Value)(out':List UInt8)(pre:World→Prop)(hc:FnB P f args v p T e out out' pre)(hp:pre w0)
 (h:opv P ops i ρ w=some (d,true,.ok (.enter f args) w)) (hd:dOK d N=true)
 (kk: ∀E' w',BE p T e out' E'→St w0.heap.size w0 w' (l++E')→WPs P N ops K r (zm ρ d v) w'):WPs P N ops K (i::r) ρ w:=by
 obtain ⟨o,ho,rfl,hw,hr⟩:=zO h;refine WPo.run ho hw fun a ha=>?_;rw [hr,Oper.upon_enter];refine (hc w0 w l E hE hp (HS.perm List.perm_append_comm)).mono ?_;rintro _ w' ⟨E',rfl,hE',HS'⟩;exact ⟨_,ha.put _ (zN hd) v,kk E' w' hE' (HS'.perm List.perm_append_comm)⟩
theorem zbj (HS:St w0.heap.size w0 w E){p:Nat}{T e:TypeId}{out:List UInt8}(hE:BE p T e out E)(d:Option Nat)(f:Nat)(args:Array Value)(v:Value)(out':List UInt8)(pre:World→Prop)(hc:xt P f args v p T e out out' pre)(hp:pre w0)
 (h:opv P ops i ρ w=some (d,true,.ok (.enter f args) w)) (hd:dOK d N=true)
 (kk: ∀E' w',BE p T e out' E'→St w0.heap.size w0 w' E'→WPs P N ops K r (zm ρ d v) w'):WPs P N ops K (i::r) ρ w:=by
 obtain ⟨o,ho,rfl,hw,hr⟩:=zO h;refine WPo.run ho hw fun a ha=>?_;rw [hr,Oper.upon_enter];refine (hc w0 w E hE hp HS).mono ?_;rintro _ w' ⟨E',rfl,hE',HS'⟩;exact ⟨_,ha.put _ (zN hd) v,kk E' w' hE' HS'⟩
theorem FnB.intro {f:Nat}{fn:Func}{c:Code}(rs:List ResultVar)(N:Nat){args:Array Value}{v:Value}{p:Nat}{T e:TypeId}{out out':List UInt8}{pre:World→Prop}(hf:P.funcs[f]? =some fn)(hb:fn.body=some c)(hr:fn.results.toList=rs)(hn:args.size+(fn.ntmps-args.size)=N)
 (h: ∀w0 w L E,BE p T e out E→pre w0→St w0.heap.size w0 w (E++L)→WP P N c (yu P rs fun v' w'=>v'=v∧∃E',BE p T e out' E'∧St w0.heap.size w0 w' (E'++L)) (ini args) w):FnB P f args v p T e out out' pre:=fun w0 w L E hE hp HS=>
 (jG hf hb hr hn (h w0 w L E hE hp HS)).mono fun _ w' ⟨v',he,hv,E',h1,h2⟩=>⟨E',by rw [he,hv],h1,h2⟩
theorem xt.intro {f:Nat}{fn:Func}{c:Code}(rs:List ResultVar)(N:Nat){args:Array Value}{v:Value}{p:Nat}{T e:TypeId}{out out':List UInt8}{pre:World→Prop}(hf:P.funcs[f]? =some fn)(hb:fn.body=some c)(hr:fn.results.toList=rs)(hn:args.size+(fn.ntmps-args.size)=N)
 (h: ∀w0 w E,BE p T e out E→pre w0→St w0.heap.size w0 w E→WP P N c (yu P rs fun v' w'=>v'=v∧∃E',BE p T e out' E'∧St w0.heap.size w0 w' E') (ini args) w):xt P f args v p T e out out' pre:=fun w0 w E hE hp HS=>
 (jG hf hb hr hn (h w0 w E hE hp HS)).mono fun _ w' ⟨v',he,hv,E',h1,h2⟩=>⟨E',by rw [he,hv],h1,h2⟩
def vx (t u:TypeId)(s x:Operand):Op:=.call { callee:=.builtin .append,args:=#[s,x],argTypes:=#[t,u] }
theorem zdw {P:Program}{ρ:Env}{w w':World}{o:Oper}{t u:TypeId}{s x:Operand}{vs v':Value}{tx:ByteArray}(hop:o.op=vx t u s x)(hs:ev ρ s=vs)(hx:ev ρ x=.string tx)
 (hrun:(Builtin.append_ #[t,u] o.type #[vs,.string tx]).run P w=.ok v' w'):(execOp (ev ρ) o).run P w=.ok (.value v') w':=by
 unfold execOp;simp only [hop,vx,resolve,invoke,builtin,Sem.run_bind,Sem.run_pure,Result.andThen_ok,List.map_toArray,List.map_cons,List.map_nil,hs,hx,hrun]
theorem zhZ (HS:St w0.heap.size w0 w l)(d:Option Nat)(t u e:TypeId)(s x:Operand)(j b n cap:Nat)(cur:Array Value)(xs:List UInt8)(tx:ByteArray)(l':Nat→Array Value→List (Nat×Obj))
 (h:opk ops i ρ=some (d,true,vx t u s x)) (hd:dOK d N=true) (ht:ye P t=some (e,1,1)) (hu':P.underlying u=some .string)
 (hs:ev ρ s=.slice (some ⟨b,0,none⟩) n cap) (hj:l[j]? =some (b,.cells cur e (0,0))) (hr:Rw 1 cur cap n (cellsB xs)) (hx:ev ρ x=.string tx) (hm:n+tx.size≤0x800000000000)
 (hl': ∀b' cur',l.set j (b',.cells cur' e (0,0))=l' b' cur')
 (kk: ∀b' cap' cur' w',St w0.heap.size w0 w' (l' b' cur')→Rw 1 cur' cap' (n+tx.size) (cellsB (xs++tl tx))→WPs P N ops K r (zm ρ d (.slice (some ⟨b',0,none⟩) (n+tx.size) cap')) w'):WPs P N ops K (i::r) ρ w:=by
 obtain ⟨o,ho,rfl,hw,hop⟩:=zD h;obtain ⟨it,z,hu,hi,hz,hsz,hby,hzs,h0⟩:=qb ht;have hg:=HS.get j hj;have hcx:Lib.strCells tx=cellsB (tl tx):=rfl;have hxn:xs.length=n:=by have:=hr.len;rw [qt] at this;omega
 have hlen:(cellsB (xs++tl tx)).length=(n+tx.size)*1:=by rw [qt,List.length_append,zt];omega
 have hcsz:=hr.sz;by_cases hroom:n+tx.size≤cap
 ·have hrun:=Lib.run_append_room_string (P:=P) w t u o.type e it hu hu' hi hsz b n cap cur hg tx hroom (by omega);refine WPo.run ho hw fun a ha=>?_;have hex:(execOp (ev ρ) o).run P w=.ok (.value (.slice (some ⟨b,0,none⟩) (n+tx.size) cap)) (w.setRow b (cur.toList.take n++Lib.strCells tx++cur.toList.drop (n+tx.size)).toArray):=by
   unfold execOp;simp only [hop,vx,resolve,invoke,builtin,Sem.run_bind,Sem.run_pure,Result.andThen_ok,List.map_toArray,List.map_cons,List.map_nil,hs,hx,hrun]
  rw [hex,Oper.upon_value];have HS':=HS.store j (C':=(cur.toList.take n++Lib.strCells tx++cur.toList.drop (n+tx.size)).toArray) hj;rw [hl'] at HS';refine ⟨_,ha.put _ (zN hd) _,kk b cap _ _ HS' ⟨hlen,hroom,hr.max,?_,?_⟩⟩
  ·have h1:cur.toList.take n=cellsB xs:=by have:=hr.take;rwa [Nat.mul_one] at this
   rw [h1,hcx,←zcZ,←hlen];exact List.take_left
  ·simp only [List.size_toArray,List.length_append,List.length_take,List.length_drop,Array.length_toList,Lib.strCells_length];omega
 ·have holds: ∀q v,(cellsB xs)[q]? =some v→w.cell? ((⟨b,0,none⟩:Addr).add q)=some v:=fun q v hq=>by
   have hql:q<n:=by rw [←hxn,←qt];exact (List.getElem?_eq_some_iff.1 hq).1
   rw [qh,Nat.zero_add];simp [World.cell?,hg,hr.get q (by omega),hq]
  have hrun:=Lib.run_append_grow_string (P:=P) w t u o.type e it z hu hu' hi hz ⟨b,0,none⟩ n cap (cellsB xs) (by rw [qt,hsz];omega) holds tx (by omega) (by omega) (by rw [hby];exact growslice_fits (by omega) (by omega));refine WPo.run ho hw fun a ha=>?_;rw [zdw hop hs hx hrun,Oper.upon_value];have hgr:w.grownBy (w.drew.alloc (.cells ((cellsB xs).toArray++(Lib.strCells tx).toArray++Builtin.zeroCells z.cells (grownCap w (n+tx.size) cap e-(n+tx.size))) e)) (some b):=
   ⟨rfl,rfl,rfl,by simp,fun k hk _=>Go.heap_alloc_old w.drew _ hk⟩
  have HS':=HS.grown j hj hgr (.inr rfl) (heap_alloc_new w.drew _);rw [hl'] at HS';have hge:=grownCap_ge w (n+tx.size) cap e;refine ⟨_,ha.put _ (zN hd) _,kk _ (grownCap w (n+tx.size) cap e) _ _ HS' ⟨hlen,hge,grownCap_le_maxLen w (n+tx.size) cap e (by unfold maxLen;omega),?_,?_⟩⟩
  ·simp only [Array.toList_append];rw [hcx];show List.take _ (cellsB xs++cellsB (tl tx)++_)=_;rw [←zcZ,←hlen];exact List.take_left
  ·simp only [Array.size_append,List.size_toArray,size_zeroCells,hzs,qt,Lib.strCells_length];omega
theorem zh0 (HS:St w0.heap.size w0 w l)(d:Option Nat)(t u e:TypeId)(s x:Operand)(tx:ByteArray)
 (h:opk ops i ρ=some (d,true,vx t u s x)) (hd:dOK d N=true) (ht:ye P t=some (e,1,1)) (hu':P.underlying u=some .string)
 (hs:ev ρ s=.slice none 0 0) (hx:ev ρ x=.string tx) (h0:0<tx.size) (hm:tx.size≤0x800000000000)
 (kk: ∀b' cap' cur' w',St w0.heap.size w0 w' ((b',.cells cur' e (0,0))::l)→Rw 1 cur' cap' tx.size (cellsB (tl tx))→WPs P N ops K r (zm ρ d (.slice (some ⟨b',0,none⟩) tx.size cap')) w'):WPs P N ops K (i::r) ρ w:=by
 obtain ⟨o,ho,rfl,hw,hop⟩:=zD h;obtain ⟨it,z,hu,hi,hz,hsz,hby,hzs,h0'⟩:=qb ht;have hcx:Lib.strCells tx=cellsB (tl tx):=rfl;have hrun:=Go.run_append_nil_string (P:=P) w t u o.type e it z hu hu' hi hz tx h0 (by omega) (by rw [hby];omega);refine WPo.run ho hw fun a ha=>?_;rw [zdw hop hs hx hrun,Oper.upon_value];have hge:=grownCap_ge w tx.size 0 e;have e1:(tx.data.map (fun b=>Value.int .u8 b.toNat)++Builtin.zeroCells z.cells (grownCap w tx.size 0 e-tx.size)).toList=cellsB (tl tx)++(Builtin.zeroCells z.cells (grownCap w tx.size 0 e-tx.size)).toList:=by
  unfold cellsB tl;simp
 refine ⟨_,ha.put _ (zN hd) _,kk _ (grownCap w tx.size 0 e) _ _ (HS.drew.alloc _) ⟨by rw [qt,zt,Nat.mul_one],hge,grownCap_le_maxLen w tx.size 0 e (by unfold maxLen;omega),?_,?_⟩⟩
 ·rw [e1,Nat.mul_one,List.take_append_of_le_length (by rw [qt,zt];exact Nat.le_refl _),List.take_of_length_le (by rw [qt,zt];exact Nat.le_refl _)]
 ·rw [←Array.length_toList,e1,List.length_append,qt,zt,Array.length_toList,size_zeroCells,hzs];omega
theorem zdx {B:Nat}(HS:St B w0 w l)(d:Option Nat)(t t' tp:TypeId)(x:Operand)(j b:Nat)(C:Array Value)(T:TypeId)(h:opk ops i ρ=some (d,true,.convert t t' x))(hd:dOK d N=true)(hx:ev ρ x=.pointer (some ⟨b,0,none⟩))(hj:l[j]? =some (b,.cells C T (0,0)))
 (ht:P.underlying t=some (.pointer tp)) (ht':P.underlying t'=some .unsafePointer) (hz:((P.info? tp).map fun i=>Nat.blt 0 i.size)=some true) (hC:0<C.size) (kk:WPs P N ops K r (zm ρ d (.pointer (some ⟨b,0,none⟩))) w):WPs P N ops K (i::r) ρ w:=
 vW d _ _ w h hd (fun o ho=>by
  obtain ⟨it,hi,hs⟩:=Option.map_eq_some_iff.1 hz;have hsh:w.shape? b=some (T,C.size):=by unfold World.shape?;rw [HS.get j hj]
  have:=Lib.run_to_unsafe (P:=P) w (src:=t) (dst:=t') ⟨b,0,none⟩ ht ht' hi (by have:=Nat.le_of_ble_eq_true hs;omega) hsh hC;unfold execOp
  simp only [ho,hx,Sem.run_bind,this,Result.andThen_ok];rfl) kk
theorem zdy {B:Nat}(HS:St B w0 w l)(d:Option Nat)(t t' tp:TypeId)(x:Operand)(j b:Nat)(C:Array Value)(T:TypeId)(h:opk ops i ρ=some (d,true,.convert t t' x))(hd:dOK d N=true)(hx:ev ρ x=.pointer (some ⟨b,0,none⟩))(hj:l[j]? =some (b,.cells C T (0,0)))
 (ht:P.underlying t=some .unsafePointer) (ht':P.underlying t'=some (.pointer tp)) (hz:(P.info? tp).isSome=true) (hl:liesAt P P.depth T (C.size / P.cellsOf T) 0 tp 1=true) (kk:WPs P N ops K r (zm ρ d (.pointer (some ⟨b,0,none⟩))) w):WPs P N ops K (i::r) ρ w:=
 vW d _ _ w h hd (fun o ho=>by
  obtain ⟨it,hi⟩:=Option.isSome_iff_exists.1 hz;have hsh:w.shape? b=some (T,C.size):=by unfold World.shape?;rw [HS.get j hj]
  have:=Lib.run_from_unsafe (P:=P) w (src:=t) (dst:=t') ⟨b,0,none⟩ ht ht' hi hsh hl;unfold execOp
  simp only [ho,hx,Sem.run_bind,this,Result.andThen_ok];rfl) kk
theorem zdz {t tp t':TypeId}(ht:P.underlying t=some (.pointer tp))(hz:(P.info? tp).isSome=true){x y:Operand}{o:Oper}(a:Addr)(ho:o.op=.binOp .neq t x y t')(hx:ev ρ x=.pointer (some a))(hy:ev ρ y=.pointer (some a)):
 ∀w,(execOp (ev ρ) o).run P w=.ok (.value (.bool false)) w:=fun w=>by
 obtain ⟨it,hi⟩:=Option.isSome_iff_exists.1 hz;have:=Lib.run_neq_ptr_same (P:=P) w a ht hi;unfold execOp;simp [ho,hx,hy,eqGuard,this]
end
def yR (w0:World)(p:Nat)(T e:TypeId)(out':List UInt8)(bx:Nat×Obj)(E:List (Nat×Obj))(q:Nat):(Nat→Bool)→(Nat→D2.Gh)→World→Prop:=fun L _ w=>
 bif L q then (∃E',BE p T e out' E'∧St w0.heap.size w0 w ([bx]++E')) else St w0.heap.size w0 w ([bx]++E)
section
variable {P:Program}{ops:Array Oper}{R:(Nat→D2.Gh)→Env}{i:Nat}{d:Option Nat}{w0:World}{p:Nat}{T e:TypeId}{out':List UInt8}{bx:Nat×Obj}{E:List (Nat×Obj)}{q:Nat}
theorem zdA {L:Nat→Bool}(h:Nat.beq q i=false):D2.put1 L i q=L q:=by unfold D2.put1;rw [h];rfl
theorem yR.keep (h:Nat.beq q i=false){L:Nat→Bool}{g g':Nat→D2.Gh}{w:World}(hp:yR w0 p T e out' bx E q L g w):yR w0 p T e out' bx E q (D2.put1 L i) g' w:=by
 unfold yR at hp ⊢;rw [zdA h];exact hp
theorem yR.cases {L:Nat→Bool}{g:Nat→D2.Gh}{w:World}(hp:yR w0 p T e out' bx E q L g w):∃E',St w0.heap.size w0 w ([bx]++E')∧((∀w',St w0.heap.size w0 w' ([bx]++E')→yR w0 p T e out' bx E q L g w')):=by
 unfold yR at hp ⊢;cases hl:L q with
 | false=>rw [hl] at hp;exact ⟨E,hp,fun w' h=>h⟩
 | true=>rw [hl] at hp;obtain ⟨E',h1,h2⟩:=hp;exact ⟨E',h2,fun w' h=>⟨E',h1,h⟩⟩
theorem zh1 {V:Value}(hq:Nat.beq q i=false)(h: ∀g w,opv P ops i (R g) w=some (d,true,.ok (.value V) w)):D2.Gives P ops R (yR w0 p T e out' bx E q) i d (fun _=>V):=D2.gv_val (fun _ _ _ hp=>hp.keep hq) h
theorem zdB {C:Array Value}{T':TypeId}{t:TypeId}{x:Operand}(hq:Nat.beq q i=false)(h: ∀g,opk ops i (R g)=some (d,true,.load t x))(hx: ∀g,ev (R g) x=.pointer (some ⟨bx.1,0,none⟩))(hb:bx.2=.cells C T' (0,0))(ht:aggSize P t=some C.size):D2.Gives P ops R (yR w0 p T e out' bx E q) i d (fun _=>.agg C):=D2.gives_of fun L g w hp hN=>by
 obtain ⟨o,ho,hd,hw,hop⟩:=zD (h g);obtain ⟨E',hS,_⟩:=hp.cases;have hh:w.heap[bx.1]? =some (.cells C T' (0,0)):=by rw [←hb];exact hS.get 0 rfl
 have:=xg (P:=P) (w:=w) (off:=0) ht hh (by omega);have e1:C.extract 0 (0+C.size)=C:=by simp
 rw [e1] at this;have e2:(execOp (ev (R g)) o).run P w=.ok (.value (.agg C)) w:=by simp [execOp,hop,Instr.loadAt,Instr.sureAddr,hx g,this]
 exact ⟨o,ho,hd,.inr ⟨hw,by rw [e2];exact ⟨g i,rfl,by rw [D2.setN_self];exact hp.keep hq⟩⟩⟩
theorem zdC {V:Value}{f:Nat}{args:Array Value}{pr:World→Prop}(hq:Nat.beq q i=false)(hc:FnP P f args pr V)(hpr: ∀w,Below w0.heap.size w0 w→pr w)(h: ∀g w,opv P ops i (R g) w=some (d,true,.ok (.enter f args) w)):D2.Gives P ops R (yR w0 p T e out' bx E q) i d (fun _=>V):=D2.gives_of fun L g w hp hN=>by
 obtain ⟨o,ho,hd,hw,hr⟩:=zO (h g w);obtain ⟨E',hS,hk⟩:=hp.cases;exact ⟨o,ho,hd,.inr ⟨hw,by rw [hr];exact (hc w (hpr w hS.below)).mono fun e w' ⟨he,hb⟩=>⟨V,he,g i,rfl,by rw [D2.setN_self];exact (hk w' (hS.call hb)).keep hq⟩⟩⟩
theorem zh2 {V:Value}{f:Nat}{args:Array Value}(hq:Nat.beq q i=false)(hc:Fn P f args V)(h: ∀g w,opv P ops i (R g) w=some (d,true,.ok (.enter f args) w)):D2.Gives P ops R (yR w0 p T e out' bx E q) i d (fun _=>V):=
 zdC (pr:=fun _=>True) hq (fun w _=>hc w) (fun _ _=>trivial) h
theorem zh3 {V:Value}{f:Nat}{args:Array Value}{out:List UInt8}(hq:q=i)(hE:BE p T e out E)(hc:FnB P f args V p T e out out' (fun _=>True))(h: ∀g w,opv P ops i (R g) w=some (d,true,.ok (.enter f args) w)):D2.Gives P ops R (yR w0 p T e out' bx E q) i d (fun _=>V):=D2.gives_of fun L g w hp hN=>by
 subst hq;obtain ⟨o,ho,hd,hw,hr⟩:=zO (h g w);have hS:St w0.heap.size w0 w ([bx]++E):=by unfold yR at hp;rw [hN.1] at hp;exact hp
 refine ⟨o,ho,hd,.inr ⟨hw,?_⟩⟩;rw [hr];refine (hc w0 w [bx] E hE trivial (hS.perm List.perm_append_comm)).mono ?_;rintro _ w' ⟨E',rfl,hE',hS'⟩;refine ⟨V,rfl,g q,rfl,?_⟩;unfold yR;rw [show D2.put1 L q q=true from D2.put1_self L q];exact ⟨E',hE',hS'.perm List.perm_append_comm⟩
theorem yR.done {L:Nat→Bool}{g:Nat→D2.Gh}{w:World}(hp:yR w0 p T e out' bx E q L g w)(h:L q=true):∃E',BE p T e out' E'∧St w0.heap.size w0 w ([bx]++E'):=by
 unfold yR at hp;rw [h] at hp;exact hp
end
def qZ (w0:World)(l:List (Nat×Obj))(q:Nat):(Nat→Bool)→(Nat→D2.Gh)→World→Prop:=fun L _ w=>bif L q then St w0.heap.size w0 w [] else St w0.heap.size w0 w l
section
variable {P:Program}{ops:Array Oper}{R:(Nat→D2.Gh)→Env}{i:Nat}{d:Option Nat}{w0:World}{l:List (Nat×Obj)}{q:Nat}
theorem qZ.keep (h:Nat.beq q i=false){L:Nat→Bool}{g g':Nat→D2.Gh}{w:World}(hp:qZ w0 l q L g w):qZ w0 l q (D2.put1 L i) g' w:=by
 unfold qZ at hp ⊢;rw [zdA h];exact hp
theorem xu {V:Value}(hq:Nat.beq q i=false)(h: ∀g w,opv P ops i (R g) w=some (d,true,.ok (.value V) w)):D2.Gives P ops R (qZ w0 l q) i d (fun _=>V):=D2.gv_val (fun _ _ _ hp=>hp.keep hq) h
theorem zbk {V:Value}(hq:Nat.beq q i=false)(hb: ∀L,D2.Now ops i L→L q=false)(op:Op)(h: ∀g,opk ops i (R g)=some (d,true,op))(hr: ∀g w (o:Oper),St w0.heap.size w0 w l→o.op=op→(execOp (ev (R g)) o).run P w=.ok (.value V) w):D2.Gives P ops R (qZ w0 l q) i d (fun _=>V):=D2.gives_of fun L g w hp hN=>by
 obtain ⟨o,ho,hd,hw,hop⟩:=zD (h g);have hS:St w0.heap.size w0 w l:=by have h9:=hp;unfold qZ at h9;rw [hb L hN] at h9;exact h9
 exact ⟨o,ho,hd,.inr ⟨hw,by rw [hr g w o hS hop];exact ⟨g i,rfl,by rw [D2.setN_self];exact hp.keep hq⟩⟩⟩
theorem zh4 {V:Value}(hq:q=i)(op:Op)(h: ∀g,opk ops i (R g)=some (d,true,op))(hr: ∀g w (o:Oper),St w0.heap.size w0 w l→o.op=op→∃w',(execOp (ev (R g)) o).run P w=.ok (.value V) w'∧St w0.heap.size w0 w' []):D2.Gives P ops R (qZ w0 l q) i d (fun _=>V):=D2.gives_of fun L g w hp hN=>by
 subst hq;obtain ⟨o,ho,hd,hw,hop⟩:=zD (h g);have hS:St w0.heap.size w0 w l:=by have h9:=hp;unfold qZ at h9;rw [hN.1] at h9;exact h9
 obtain ⟨w',h1,h2⟩:=hr g w o hS hop;exact ⟨o,ho,hd,.inr ⟨hw,by rw [h1];exact ⟨g q,rfl,by unfold qZ;rw [show D2.put1 L q q=true from D2.put1_self L q];exact h2⟩⟩⟩
end
def zbl (t:TypeId)(x:Operand):Op:=.call { callee:=.builtin .unsafeSliceData,args:=#[x],argTypes:=#[t] }
theorem zh5 {P:Program}{ρ:Env}{w:World}{t:TypeId}{x:Operand}{a:Addr}{n c:Nat}(hx:ev ρ x=.slice (some a) n c)(hc:c≠0)(o:Oper)(ho:o.op=zbl t x):(execOp (ev ρ) o).run P w=.ok (.value (.pointer (some a))) w:=by
 have:=Lib.run_unsafeSliceData_row (P:=P) (w:=w) #[t] o.type a n c hc;unfold execOp;simp only [ho,zbl,resolve,invoke,builtin,Sem.run_bind,Sem.run_pure,Result.andThen_ok,List.map_toArray,List.map_cons,List.map_nil,hx,this]
theorem zh6 {P:Program}{ρ:Env}{w w0:World}{l:List (Nat×Obj)}{j b n cap:Nat}{C:Array Value}{t t' e:TypeId}{x y:Operand}{xs:List UInt8}(HS:St w0.heap.size w0 w l)(hj:l[j]? =some (b,.cells C e (0,0)))(ht:P.underlying t=some (.pointer e))(hc:P.cellsOf e=1)
 (hx:ev ρ x=.pointer (some ⟨b,0,none⟩)) (hy:ev ρ y=.int .i64 (n:Int)) (hr:Rw 1 C cap n (cellsB xs)) (h0:0<n) (hm:n≤0x7fffffffffffffff) (o:Oper) (hop:o.op=vj t t' x y):
 ∃w',(execOp (ev ρ) o).run P w=.ok (.value (.string (zh xs))) w'∧St w0.heap.size w0 w' []:=by
 have hb:=HS.get j hj;have hB:=HS.ge j hj;have hlen:xs.length=n:=by have:=hr.len;rw [qt] at this;omega
 have hsz:=hr.sz;have hle:=hr.le
 have hrun:=Lib.run_unsafeString_row (P:=P) w t t' o.type e ht hc b C.size (by unfold World.shape?;rw [hb]) xs (by intro e;subst e;simp at hlen;omega) (by omega) (by omega) (fun j u hj=>by
  have hjl:j<xs.length:=(List.getElem?_eq_some_iff.1 hj).1;have h2:=hr.get j (by omega);rw [qh,Nat.zero_add];have h3:(cellsB xs)[j]? =some (.int .u8 (u.toNat:Int)):=by unfold cellsB;rw [List.getElem?_map,hj];rfl
  simp [World.cell?,hb,h2,h3])
 rw [hlen] at hrun;refine ⟨w.freeze ⟨b,0,none⟩ n,?_,?_⟩
 ·unfold execOp;simp only [hop,vj,resolve,invoke,builtin,Sem.run_bind,Sem.run_pure,Result.andThen_ok,List.map_toArray,List.map_cons,List.map_nil,hx,hy,hrun];rfl
 ·have hbel:=Lib.below_freeze HS.below (p:=⟨b,0,none⟩) hB n;refine ⟨hbel,Nat.le_trans HS.le ?_,(fun e he=>nomatch he),List.nodup_nil⟩;unfold World.freeze;split<;>simp
theorem St.load1_run {P:Program}{ρ:Env}{w w0:World}{l:List (Nat×Obj)}{j b off:Nat}{C:Array Value}{T t:TypeId}{x:Operand}{v:Value}(HS:St w0.heap.size w0 w l)(hj:l[j]? =some (b,.cells C T (0,0)))(ht:oneCell P t=true)(hx:ev ρ x=.pointer (some ⟨b,off,none⟩))(hv:C[off]? =some v)(o:Oper)(ho:o.op=.load t x):
 (execOp (ev ρ) o).run P w=.ok (.value v) w:=by
 have:=xJ (P:=P) (w:=w) ht (HS.get j hj) hv;simp [execOp,ho,Instr.loadAt,Instr.sureAddr,hx,this]
end Go.Proofs.YthonokeibcodpaaGreatDoor
