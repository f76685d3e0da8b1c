/-
  Texts of the proof,part 2.
-/
import Derived.Test.YtbpmjppmpgeejaaGreatDoorRows
import Derived.Lib.LaidTab
import Derived.MakeChecks
import Derived.LaidLaws
import Derived.LaidHandle
import Derived.ProofKit
import Derived.WalkKit
import Derived.Laws.IdiomStrings
import Derived.Lib.UnsafeStr
import Derived.Test.YtbpmjppmpgeejaaGreatDoorProg
import Derived.Lib.AppendStr
import Derived.Lib.Builder
import Derived.Test.YtbpmjppmpgeejaaGreatDoorHR1
set_option maxRecDepth 100000
set_option maxHeartbeats 4000000
namespace Go.Proofs.YtbpmjppmpgeejaaGreatDoor
open Go Go.RowKit
set_option linter.unusedVariables false
set_option maxRecDepth 100000
def zgR:List Int:=[1,32898,0x800000000000808a,0x8000000080008000,32907,2147483649,0x8000000080008081,0x8000000000008009,138,136,2147516425,2147483658,2147516555,0x800000000000008b,0x8000000000008089,0x8000000000008003,0x8000000000008002,0x8000000000000080,32778,0x800000008000000a,0x8000000080008081,0x8000000000008080,2147483649,0x8000000080008008]
def zgS:Array Value:=(Go.Pinned.utf8FirstZ.map fun n=>Value.int .u8 ((n:Nat):Int)).toArray
def zgT:Array Value:=#[.int .u8 128,.int .u8 191,.int .u8 160,.int .u8 191,.int .u8 128,.int .u8 159,.int .u8 144,.int .u8 191,.int .u8 128,.int .u8 143,.int .u8 0,.int .u8 0,.int .u8 0,.int .u8 0,.int .u8 0,.int .u8 0,.int .u8 0,.int .u8 0,.int .u8 0,.int .u8 0,.int .u8 0,.int .u8 0,.int .u8 0,.int .u8 0,.int .u8 0,.int .u8 0,.int .u8 0,.int .u8 0,.int .u8 0,.int .u8 0,.int .u8 0,.int .u8 0]
noncomputable def zde (os:Os):World:=
 let w0:=World.holding Tryz.prog os ⟨#[],#[],[]⟩
 { w0 with heap:=((w0.heap.modify 0 fun
  | .cells _ t frozen=>.cells (zgR.map (Value.int .u64)).toArray t frozen
  | o=>o).modify 1 fun
  | .cells _ t frozen=>.cells zgS t frozen
  | o=>o).modify 2 fun
  | .cells _ t frozen=>.cells zgT t frozen
  | o=>o }
set_option maxRecDepth 100000
theorem zgU (os:Os) (args:Array Value):laidMetH Tryz.prog [("unicode/utf8.acceptRanges",Rows.laid_unicode_utf8_acceptRanges),("unicode/utf8.first",Rows.laid_unicode_utf8_first)] ((zde os).forCall (fun _ _=>0) ⟨#[],args,[]⟩).memory:=by
 rw [MakeChecks.laidMetH_plain _ _ _ kr];exact laidMet_of_run' 8 kr kr
section
variable {P:Program}{N:Nat}{ops:Array Oper}{i:Nat}{r:List Nat}{K:Env→World→Prop}{ρ:Env}{w:World}{B:Nat}{w0:World}{l:List (Nat×Obj)}
end
namespace D2
section
variable {P:Program}{ops:Array Oper}{R:(Nat→Gh)→Env}{i:Nat}{d:Option Nat}
variable {E:(Nat→Bool)→(Nat→Gh)→List Ent}{F:(Nat→Bool)→(Nat→Gh)→Prop}{B:Nat}{w0:World}
end
end D2
end Go.Proofs.YtbpmjppmpgeejaaGreatDoor
namespace Go.Proofs.YtbpmjppmpgeejaaGreatDoor
open Go Go.RowKit
set_option linter.unusedVariables false
theorem toList_eq (s:ByteArray):s.toList=tl s:=ByteArray.toList_eq s
theorem zL (a b:ByteArray)(h:a=b):(a.toList==b.toList)=true:=by subst h;exact uq a
theorem yA (a b:ByteArray)(h: ¬a=b):(a.toList==b.toList)=false:=by
 rw [beq_eq_false_iff_ne];intro e;rw [toList_eq,toList_eq] at e;exact h (by rw [←xT a,e,xT])
theorem qi {a b:ByteArray}(h:tl a=tl b):a=b:=by rw [←xT a,h,xT]
section
variable {P:Program}{N:Nat}{ops:Array Oper}{i:Nat}{r:List Nat}{K:Env→World→Prop}{ρ:Env}{w:World}{B:Nat}{w0:World}{l:List (Nat×Obj)}
def vn (t t':TypeId)(x y:Operand):Op:=.call { callee:=.builtin .unsafeString,args:=#[x,y],argTypes:=#[t,t'] }
theorem zgV {b:Nat}{C:Array Value}{T:TypeId}(HS:St B w0 w [(b,.cells C T (0,0))])(d:Option Nat)(t t' e:TypeId)(x y:Operand)(n cap:Nat)(xs:List UInt8)
 (h:opk ops i ρ=some (d,true,vn t t' x y)) (hd:dOK d N=true) (ht:P.underlying t=some (.pointer e)) (hc:P.cellsOf e=1) (hT:T=e)
 (hx:ev ρ x=.pointer (some ⟨b,0,none⟩)) (hy:ev ρ y=.int .i64 (n:Int)) (hr:Rw 1 C cap n (cellsB xs)) (h0:0<n) (hm:n≤0x7fffffffffffffff)
 (kk: ∀w',St B w0 w' []→WPs P N ops K r (zr ρ d (.string (zh xs))) w'):WPs P N ops K (i::r) ρ w:=by
 obtain ⟨o,ho,rfl,hw,hop⟩:=zE h;subst hT;have hb:=HS.get 0 rfl;have hB:=HS.ge 0 rfl;have hlen:xs.length=n:=by have:=hr.len;rw [qN] at this;omega
 have hsz:=hr.sz;have hle:=hr.le
 have hrun:=Lib.run_unsafeString_row (P:=P) w t t' o.type T ht hc b C.size (by unfold World.shape?;rw [hb]) xs (by intro e;subst e;simp at hlen;omega) (by omega) (by omega) (fun j u hj=>by
  have hjl:j<xs.length:=(List.getElem?_eq_some_iff.1 hj).1;have h2:=hr.get j (by omega);rw [qt,Nat.zero_add];have h3:(cellsB xs)[j]? =some (.int .u8 (u.toNat:Int)):=by unfold cellsB;rw [List.getElem?_map,hj];rfl
  simp [World.cell?,hb,h2,h3])
 rw [hlen] at hrun;refine WPo.run ho hw fun a ha=>?_;have hex:(execOp (ev ρ) o).run P w=.ok (.value (.string (zh xs))) (w.freeze ⟨b,0,none⟩ n):=by
  unfold execOp;simp only [hop,vn,resolve,invoke,builtin,Sem.run_bind,Sem.run_pure,Result.andThen_ok,List.map_toArray,List.map_cons,List.map_nil,hx,hy,hrun];rfl
 rw [hex,Oper.upon_value];have hbel:=Lib.below_freeze HS.below (p:=⟨b,0,none⟩) hB n;refine ⟨_,ha.put _ (zT hd) _,kk _ ⟨hbel,Nat.le_trans HS.le ?_,(fun e he=>nomatch he),List.nodup_nil⟩⟩;unfold World.freeze;split<;>simp
end
inductive Fr (α:Type)
 | nil
 | cons (a:α) (k r:Fr α)
structure Sh (α:Type) where
 K:Nat
 hd:α→List Value
 ok:α→Prop
 mx:Nat
 len: ∀a,(hd a).length+1=K
 one: ∀a,∀u∈hd a,u.oneCell'=true
section
variable {α:Type}{S:Sh α}
def Fr.len:Fr α→Nat
 | .nil=>0
 | .cons _ _ r=>r.len+1
def Fr.at:Fr α→Nat→Option (α×Fr α)
 | .nil,_=>none
 | .cons a k _,0=>some (a,k)
 | .cons _ _ r,i+1=>r.at i
theorem Fr.at_none: ∀ {k:Fr α} {i:Nat},k.len≤i→k.at i=none
 | .nil,_,_=>rfl
 | .cons _ _ r,0,h=>by simp only [Fr.len] at h;omega
 | .cons _ _ r,i+1,h=>Fr.at_none (k:=r) (by simp only [Fr.len] at h;omega)
def qw (S:Sh α)(B:Nat)(w:World):Fr α→Nat→Nat→Prop
 | .nil,_,_=>True
 | .cons a k r,b,off=>(∃(C:Array Value) (T:TypeId) (fz:Nat×Nat) (p:Option Addr) (n c:Nat),b<B∧w.heap[b]? =some (.cells C T fz)∧off+S.K≤C.size∧
  C.extract off (off+S.K)=(S.hd a++ [Value.slice p n c]).toArray∧S.ok a∧n=k.len∧n≤S.mx∧(k=.nil∨∃b' off',p=some ⟨b',off',none⟩∧qw S B w k b' off'))∧qw S B w r b (off+S.K)
def SlR (S:Sh α)(B:Nat)(w:World)(p:Option Addr)(n:Nat)(k:Fr α):Prop:=n=k.len∧n≤S.mx∧(k=.nil∨∃b off,p=some ⟨b,off,none⟩∧qw S B w k b off)
def FrR (S:Sh α)(B:Nat)(w:World)(p:Option Addr)(i:Nat)(r:Fr α):Prop:=r=.nil∨∃b off,p=some ⟨b,off,none⟩∧qw S B w r b (off+i*S.K)
theorem qw.up {B B':Nat}{w w':World}(hb:Below B w w')(hB:B≤B'): ∀ {k:Fr α} {b off:Nat},qw S B w k b off→qw S B' w' k b off
 | .nil,_,_,_=>trivial
 | .cons a k r,b,off,⟨⟨C,T,fz,p,n,c,h1,h2,h3,h4,h5,h6,h7,h8⟩,h9⟩=>
  ⟨⟨C,T,fz,p,n,c,Nat.lt_of_lt_of_le h1 hB,by rw [hb.block b h1];exact h2,h3,h4,h5,h6,h7,h8.imp id fun ⟨b',o',e,h⟩=>⟨b',o',e,qw.up hb hB h⟩⟩,qw.up hb hB h9⟩
theorem SlR.up {B B':Nat}{w w':World}{p:Option Addr}{n:Nat}{k:Fr α}(h:SlR S B w p n k)(hb:Below B w w')(hB:B≤B'):SlR S B' w' p n k:=
 ⟨h.1,h.2.1,h.2.2.imp id fun ⟨b,o,e,h⟩=>⟨b,o,e,h.up hb hB⟩⟩
theorem SlR.call {w0 w:World}{p:Option Addr}{n:Nat}{k:Fr α}(h:SlR S w0.heap.size w0 p n k)(hb:Below w0.heap.size w0 w):SlR S w.heap.size w p n k:=h.up hb hb.size
theorem SlR.nil (B:Nat)(w:World)(p:Option Addr):SlR S B w p 0 .nil:=⟨rfl,by omega,.inl rfl⟩
theorem SlR.start {B:Nat}{w:World}{p:Option Addr}{n:Nat}{k:Fr α}(h:SlR S B w p n k):FrR S B w p 0 k:=
 h.2.2.imp id fun ⟨b,o,e,h⟩=>⟨b,o,e,by rw [Nat.zero_mul,Nat.add_zero];exact h⟩
theorem FrR.open {B:Nat}{w:World}{p:Option Addr}{i n:Nat}{r:Fr α}(h:FrR S B w p i r)(hn:i+r.len=n)(hi:i<n):
 ∃a k r' b off C T fz p' n' c',r=.cons a k r'∧p=some ⟨b,off,none⟩∧b<B∧w.heap[b]? =some (.cells C T fz)∧off+i*S.K+S.K≤C.size∧
  C.extract (off+i*S.K) (off+i*S.K+S.K)=(S.hd a++ [Value.slice p' n' c']).toArray∧S.ok a∧SlR S B w p' n' k∧FrR S B w p (i+1) r'∧i+1+r'.len=n:=by
 cases r with
 | nil=>simp only [Fr.len] at hn;omega
 | cons a k r'=>
  rcases h with h|⟨b,off,e,⟨C,T,fz,p',n',c',h1,h2,h3,h4,h5,h6,h7,h8⟩,h9⟩
  ·cases h
  ·refine ⟨a,k,r',b,off,C,T,fz,p',n',c',rfl,e,h1,h2,h3,h4,h5,⟨h6,h7,h8⟩,.inr ⟨b,off,e,?_⟩,?_⟩
   ·rw [show off+(i+1)*S.K=off+i*S.K+S.K by rw [Nat.succ_mul];omega];exact h9
   ·simp only [Fr.len] at hn;omega
theorem FrR.done {i n:Nat}{r:Fr α}(hn:i+r.len=n)(hi: ¬i<n):r=.nil:=by
 cases r with
 | nil=>rfl
 | cons a k r'=>simp only [Fr.len] at hn;omega
theorem qw.at {B:Nat}{w:World} : ∀ {k:Fr α} {b off i:Nat} {a:α} {q:Fr α},qw S B w k b off→k.at i=some (a,q)→∃C T fz p n c,b<B∧w.heap[b]? =some (.cells C T fz)∧off+i*S.K+S.K≤C.size∧
 C.extract (off+i*S.K) (off+i*S.K+S.K)=(S.hd a++ [Value.slice p n c]).toArray∧S.ok a∧SlR S B w p n q
 | .cons a0 k0 r,b,off,0,a,q,⟨⟨C,T,fz,p,n,c,h1,h2,h3,h4,h5,h6,h7,h8⟩,h9⟩,hi=>by
  obtain ⟨rfl,rfl⟩:a0=a∧k0=q:=by simp only [Fr.at,Option.some.injEq,Prod.mk.injEq] at hi;exact hi
  rw [Nat.zero_mul,Nat.add_zero];exact ⟨C,T,fz,p,n,c,h1,h2,h3,h4,h5,h6,h7,h8⟩
 | .cons a0 k0 r,b,off,i+1,a,q,⟨_,h9⟩,hi=>by
  obtain ⟨C,T,fz,p,n,c,h⟩:=qw.at h9 hi;rw [show off+S.K+i*S.K=off+(i+1)*S.K by rw [Nat.succ_mul];omega] at h;exact ⟨C,T,fz,p,n,c,h⟩
theorem Fr.at_some: ∀ {k:Fr α} {i:Nat},i<k.len→∃a q,k.at i=some (a,q)
 | .cons a k r,0,_=>⟨a,k,rfl⟩
 | .cons a k r,i+1,h=>Fr.at_some (k:=r) (by simp only [Fr.len] at h;omega)
def LyR (S:Sh α)(T:List (Nat×Obj)):Fr α→Nat→Nat→Prop
 | .nil,_,_=>True
 | .cons a k r,b,off=>(∃(C:Array Value) (ty:TypeId) (fz:Nat×Nat) (p:Option Addr) (n c:Nat),(b,Obj.cells C ty fz)∈T∧off+S.K≤C.size∧
  C.extract off (off+S.K)=(S.hd a++ [Value.slice p n c]).toArray∧S.ok a∧n=k.len∧n≤S.mx∧(k=.nil∨∃b' off',p=some ⟨b',off',none⟩∧LyR S T k b' off'))∧LyR S T r b (off+S.K)
def RIn (S:Sh α)(T:List (Nat×Obj))(p:Option Addr)(n:Nat)(k:Fr α):Prop:=n=k.len∧n≤S.mx∧(k=.nil∨∃b off,p=some ⟨b,off,none⟩∧LyR S T k b off)
theorem LyR.mono {T T':List (Nat×Obj)}(h: ∀e∈T,e∈T'): ∀ {k:Fr α} {b off:Nat},LyR S T k b off→LyR S T' k b off
 | .nil,_,_,_=>trivial
 | .cons a k r,b,off,⟨⟨C,ty,fz,p,n,c,h1,h2,h3,h4,h5,h6,h7⟩,h8⟩=>⟨⟨C,ty,fz,p,n,c,h _ h1,h2,h3,h4,h5,h6,h7.imp id fun ⟨b',o',e,q⟩=>⟨b',o',e,LyR.mono h q⟩⟩,LyR.mono h h8⟩
theorem RIn.mono {T T':List (Nat×Obj)}{p:Option Addr}{n:Nat}{k:Fr α}(hs:RIn S T p n k)(h: ∀e∈T,e∈T'):RIn S T' p n k:=
 ⟨hs.1,hs.2.1,hs.2.2.imp id fun ⟨b,o,e,q⟩=>⟨b,o,e,q.mono h⟩⟩
theorem RIn.none (T:List (Nat×Obj))(p:Option Addr):RIn S T p 0 .nil:=⟨rfl,by omega,.inl rfl⟩
theorem LyR.at {B:Nat}{w0 w:World}{l T:List (Nat×Obj)}(hS:St B w0 w l)(h: ∀e∈T,e∈l): ∀ {k:Fr α} {b off:Nat},LyR S T k b off→qw S w.heap.size w k b off
 | .nil,_,_,_=>trivial
 | .cons a k r,b,off,⟨⟨C,ty,fz,p,n,c,h1,h2,h3,h4,h5,h6,h7⟩,h8⟩=>
  have hh:=(hS.own _ (h _ h1)).2
  ⟨⟨C,ty,fz,p,n,c,zq hh,hh,h2,h3,h4,h5,h6,h7.imp id fun ⟨b',o',e,q⟩=>⟨b',o',e,LyR.at hS h q⟩⟩,LyR.at hS h h8⟩
theorem RIn.at {B:Nat}{w0 w:World}{l T:List (Nat×Obj)}{p:Option Addr}{n:Nat}{k:Fr α}(hs:RIn S T p n k)(hS:St B w0 w l)(h: ∀e∈T,e∈l):SlR S w.heap.size w p n k:=
 ⟨hs.1,hs.2.1,hs.2.2.imp id fun ⟨b,o,e,q⟩=>⟨b,o,e,q.at hS h⟩⟩
structure El (α:Type) where
 a:α
 p:Option Addr
 n:Nat
 c:Nat
 k:Fr α
def El.cs (S:Sh α)(x:El α):List Value:=S.hd x.a++ [Value.slice x.p x.n x.c]
def zI (S:Sh α):List (El α)→List Value
 | []=>[]
 | x::r=>x.cs S++zI S r
def ys:List (El α)→Fr α
 | []=>.nil
 | x::r=>.cons x.a x.k (ys r)
theorem zbb: ∀L:List (El α),(ys L).len=L.length
 | []=>rfl
 | x::r=>by simp only [ys,Fr.len,List.length_cons,zbb r]
theorem El.cs_len (x:El α):(x.cs S).length=S.K:=by
 unfold El.cs;rw [List.length_append];exact S.len x.a
theorem El.cs_one (x:El α): ∀u∈x.cs S,u.oneCell'=true:=fun u hu=>by
 rcases List.mem_append.1 hu with h|h
 ·exact S.one x.a u h
 ·obtain rfl:=List.mem_singleton.1 h;rfl
theorem jH: ∀L:List (El α),(zI S L).length=L.length*S.K
 | []=>by simp [zI]
 | x::r=>by simp only [zI,List.length_append,jH r,El.cs_len,List.length_cons,Nat.succ_mul];omega
theorem xU (x:El α): ∀L:List (El α),zI S (L++ [x])=zI S L++x.cs S
 | []=>by simp [zI]
 | y::r=>by simp only [List.cons_append,zI,xU x r,List.append_assoc]
theorem zbc: ∀(L:List (El α)) (i:Nat) (x:El α),L[i]? =some x→ ∀j,j<S.K→(zI S L)[i*S.K+j]? =(x.cs S)[j]?
 | y::r,0,x,h,j,hj=>by
  obtain rfl:y=x:=by simpa using h
  rw [Nat.zero_mul,Nat.zero_add];unfold zI;rw [List.getElem?_append_left (by rw [El.cs_len];exact hj)]
 | y::r,i+1,x,h,j,hj=>by
  unfold zI;rw [List.getElem?_append_right (by rw [El.cs_len,Nat.succ_mul];omega),El.cs_len,show (i+1)*S.K+j-S.K=i*S.K+j by rw [Nat.succ_mul];omega];exact zbc r i x (by simpa using h) j hj
theorem exE {C:Array Value}{o:Nat}{x:List Value}{K:Nat}(hl:x.length=K)(h: ∀j,j<K→C[o+j]? =x[j]?)(h0:0<K):o+K≤C.size∧C.extract o (o+K)=x.toArray:=by
 have hz:o+K≤C.size:=by
  have h1:=h (K-1) (by omega);rw [List.getElem?_eq_getElem (by omega)] at h1;obtain ⟨h2,_⟩:=Array.getElem?_eq_some_iff.1 h1;omega
 refine ⟨hz,?_⟩;apply Array.ext_getElem?;intro j;have e:x.toArray[j]? =x[j]? :=by simp
 rw [Array.getElem?_extract,e];split
 ·rename_i hj
  exact h j (by omega)
 ·rename_i hj
  rw [List.getElem?_eq_none (by omega)]
theorem Sh.pos (S:Sh α)(a:α):0<S.K:=by have:=S.len a;omega
theorem Rw.atE {cur:Array Value}{cap n:Nat}{L:List (El α)}(h:Rw S.K cur cap n (zI S L)){i:Nat}{x:El α}(hx:L[i]? =some x):i*S.K+S.K≤cur.size∧cur.extract (i*S.K) (i*S.K+S.K)=(x.cs S).toArray:=by
 have hl:=h.len;rw [jH] at hl;have hi:i<L.length:=(List.getElem?_eq_some_iff.1 hx).1;refine exE x.cs_len (fun j hj=>?_) (S.pos x.a)
 rw [h.get _ (by
  rw [←hl];have:i*S.K+S.K≤L.length*S.K:=by rw [←Nat.succ_mul];exact Nat.mul_le_mul_right _ hi
  omega),zbc L i x hx j hj]
def AllE (S:Sh α)(T:List (Nat×Obj))(L:List (El α)):Prop:= ∀x∈L,RIn S T x.p x.n x.k∧S.ok x.a
theorem AllE.mono {T T':List (Nat×Obj)}{M:List (El α)}(h:AllE S T M)(hs: ∀e∈T,e∈T'):AllE S T' M:=fun x hx=>⟨(h x hx).1.mono hs,(h x hx).2⟩
theorem AllE.snoc {T:List (Nat×Obj)}{M:List (El α)}{x:El α}(h:AllE S T M)(hx:RIn S T x.p x.n x.k)(hz:S.ok x.a):AllE S T (M++ [x]):=fun y hy=>by
 rcases List.mem_append.1 hy with q|q
 ·exact h y q
 ·obtain rfl:=List.mem_singleton.1 q;exact ⟨hx,hz⟩
theorem zdf {T:List (Nat×Obj)}{b:Nat}{C:Array Value}{ty:TypeId}{fz:Nat×Nat}(hm:(b,Obj.cells C ty fz)∈T): ∀(L:List (El α)) (o:Nat),
 (∀(i:Nat) (x:El α),L[i]? =some x→o+i*S.K+S.K≤C.size∧C.extract (o+i*S.K) (o+i*S.K+S.K)=(x.cs S).toArray)→AllE S T L→LyR S T (ys L) b o
 | [],_,_,_=>trivial
 | x::r,o,h,hA=>by
  have h1:=h 0 x rfl;rw [Nat.zero_mul,Nat.add_zero] at h1;have ha:=hA x (List.mem_cons_self ..);refine ⟨⟨C,ty,fz,x.p,x.n,x.c,hm,h1.1,h1.2,ha.2,ha.1.1,ha.1.2.1,ha.1.2.2⟩,?_⟩;refine zdf hm r (o+S.K) (fun i y hy=>?_) fun y hy=>hA y (List.mem_cons_of_mem _ hy);have:=h (i+1) y (by simpa using hy);rw [show o+(i+1)*S.K=o+S.K+i*S.K by rw [Nat.succ_mul];omega] at this;exact this
theorem Rw.rIn {cur:Array Value}{cap n:Nat}{L:List (El α)}(h:Rw S.K cur cap n (zI S L))(hK:0<S.K){T:List (Nat×Obj)}{b:Nat}{ty:TypeId}{fz:Nat×Nat}(hm:(b,Obj.cells cur ty fz)∈T)(hA:AllE S T L)(hn:n≤S.mx):RIn S T (some ⟨b,0,none⟩) n (ys L):=by
 have hl:=h.len;rw [jH] at hl;have hln:L.length=n:=Nat.eq_of_mul_eq_mul_right hK hl;refine ⟨by rw [zbb];omega,hn,.inr ⟨b,0,rfl,zdf hm L 0 (fun i x hx=>?_) hA⟩⟩;rw [Nat.zero_add];exact h.atE hx
def RowE (S:Sh α)(ty:TypeId)(p:Option Addr)(n c:Nat)(row:List (Nat×Obj))(L:List (El α)):Prop:=(p=none∧n=0∧c=0∧row=[]∧L=[])∨∃b cur,p=some ⟨b,0,none⟩∧row=[(b,.cells cur ty (0,0))]∧Rw S.K cur c n (zI S L)
theorem RowE.len {ty:TypeId}{p:Option Addr}{n c:Nat}{row:List (Nat×Obj)}{L:List (El α)}(h:RowE S ty p n c row L)(hK:0<S.K):n=L.length:=by
 rcases h with ⟨_,rfl,_,_,rfl⟩|⟨b,cur,_,_,hr⟩
 ·rfl
 ·have hl:=hr.len;rw [jH] at hl;exact (Nat.eq_of_mul_eq_mul_right hK hl).symm
theorem RowE.rIn {ty:TypeId}{p:Option Addr}{n c:Nat}{row T:List (Nat×Obj)}{L:List (El α)}(h:RowE S ty p n c row L)(hK:0<S.K)(hA:AllE S T L)(hn:n≤S.mx):RIn S (row++T) p n (ys L):=by
 rcases h with ⟨rfl,rfl,rfl,rfl,rfl⟩|⟨b,cur,rfl,rfl,hr⟩
 ·exact RIn.none _ _
 ·exact hr.rIn (b:=b) (ty:=ty) (fz:=(0,0)) hK (by simp) (hA.mono fun e he=>List.mem_append_right _ he) hn
end
theorem zdg {P:Program}{ρ:Env}{w:World}{b off:Nat}{C:Array Value}{T t:TypeId}{fz:Nat×Nat}{x:Operand}{v:Value}(hh:w.heap[b]? =some (.cells C T fz))(ht:oneCell P t=true)(hx:ev ρ x=.pointer (some ⟨b,off,none⟩))(hv:C[off]? =some v)(o:Oper)(ho:o.op=.load t x):
 (execOp (ev ρ) o).run P w=.ok (.value v) w:=by
 have:=jP (P:=P) (w:=w) ht hh hv;simp [execOp,ho,Instr.loadAt,Instr.sureAddr,hx,this]
theorem xV {P:Program}{ρ:Env}{w:World}{b off:Nat}{C C':Array Value}{T t:TypeId}{x y:Operand}{v:Value}(hh:w.heap[b]? =some (.cells C T (0,0)))(hi:(P.info? t).map (·.size)=some v.cells.size)(h1:v.cells.all (·.oneCell')=true)(hs:off+v.cells.size≤C.size)
 (hC:(C.toList.take off++v.cells.toList++C.toList.drop (off+v.cells.size)).toArray=C') (hx:ev ρ x=.pointer (some ⟨b,off,none⟩)) (hy:ev ρ y=v) (o:Oper) (ho:o.op=.store t x y):(execOp (ev ρ) o).run P w=.ok .skip (w.setRow b C'):=by
 have:=kf (P:=P) (w:=w) hi h1 hh hs;rw [hC] at this;simp [execOp,ho,Instr.storeAt,Instr.sureAddr,hx,hy,this]
theorem St.perm {B:Nat}{w0 w:World}{l l':List (Nat×Obj)}(h:St B w0 w l)(hp:l'.Perm l):St B w0 w l':=
 ⟨h.below,h.le,fun x hx=>h.own x (hp.mem_iff.1 hx),((hp.map (·.1)).nodup_iff).2 h.nd⟩
theorem St.addAll {B:Nat}{w0 w w':World}{l T:List (Nat×Obj)}(h:St B w0 w l)(hT:St w.heap.size w w' T):St B w0 w' (T++l):=by
 have h':=h.call hT.below;refine ⟨h'.below,h'.le,?_,?_⟩
 ·intro e he;rcases List.mem_append.1 he with he | he
  ·exact ⟨Nat.le_trans h.le (hT.own e he).1,(hT.own e he).2⟩
  ·exact h'.own e he
 ·rw [List.map_append,List.nodup_append];refine ⟨hT.nd,h'.nd,?_⟩;intro x hx y hy q;obtain ⟨e,he,rfl⟩:=List.mem_map.1 hx;obtain ⟨e',he',rfl⟩:=List.mem_map.1 hy;have h1:=(hT.own e he).1;have h2:=zq (h.own e' he').2;omega
section
variable {P:Program}{ρ:Env}{w w0:World}{B:Nat}{l:List (Nat×Obj)}
theorem vp {K:Nat}(HS:St B w0 w l){t e bytes:Nat}{s x:Operand}{o:Oper}{j k b bx n cap c:Nat}{cur Y:Array Value}{xs:List Value}(ht:yy P t=some (e,K,bytes))(ho:o.op=yq t s x)
 (hs:ev ρ s=.slice (some ⟨b,0,none⟩) n cap) (hj:l[j]? =some (b,.cells cur e (0,0))) (hr:Rw K cur cap n xs) (hx:ev ρ x=.slice (some ⟨bx,0,none⟩) 1 c) (hk:l[k]? =some (bx,.cells Y e (0,0)))
 (hY:Y.size=K) (hone: ∀u∈Y.toList,u.oneCell'=true)
 (hb:(n+1)*bytes≤0x800000000000) (hm:n+1≤maxLen):∃b' cap' cur' w',(execOp (ev ρ) o).run P w=.ok (.value (.slice (some ⟨b',0,none⟩) (n+1) cap')) w'∧St B w0 w' (l.set j (b',.cells cur' e (0,0)))∧Rw K cur' cap' (n+1) (xs++Y.toList):=by
 obtain ⟨it,z,hu,hi,hz,hsz,hby,hzs,h0⟩:=qu ht;have hnews: ∀q u,(Y.toList)[q]? =some u→w.cell? ((⟨bx,0,none⟩:Addr).add q)=some u:=fun q u hq=>by
  rw [Array.getElem?_toList] at hq;rw [qt,Nat.zero_add];simp [World.cell?,HS.get k hk,hq]
 obtain ⟨v',w',hrun,hown,hgr,hnil,hblk⟩:=run_append_own_at (P:=P) w B t o.type e it z K bytes hu hi hz hsz hby hzs h0 _ n xs (hr.owns (HS.ge j hj) (HS.get j hj)) ⟨bx,0,none⟩ 1 c Y.toList (by rw [Array.length_toList,hY,Nat.one_mul]) hnews hone hm hb HS.le;have hown':=hown;rcases hown'.2 with ⟨hv,_⟩|⟨g,cap',cur',rfl,hbg,hg,hnc,hcm,hcs,htk⟩
 ·exact absurd (hnil.1 hv).1 (by simp)
 ·have hgb:g=b∨g=w.heap.size:=by
   rcases hblk with hq|hq
   ·left;injection hq
   ·right;injection hq
  refine ⟨g,cap',cur',w',?_,HS.grown j hj hgr hgb hg,?_⟩
  ·unfold execOp;simp only [ho,yq,resolve,invoke,builtin,Sem.run_bind,Sem.run_pure,Result.andThen_ok,List.map_toArray,List.map_cons,List.map_nil,hs,hx,hrun]
  ·exact ⟨hown.1,hnc,hcm,htk,hcs⟩
theorem ur {K:Nat}(HS:St B w0 w l){t e bytes:Nat}{s x:Operand}{o:Oper}{k bx c:Nat}{Y:Array Value}(ht:yy P t=some (e,K,bytes))(ho:o.op=yq t s x)
 (hs:ev ρ s=.slice none 0 0) (hx:ev ρ x=.slice (some ⟨bx,0,none⟩) 1 c) (hk:l[k]? =some (bx,.cells Y e (0,0)))
 (hY:Y.size=K) (hone: ∀u∈Y.toList,u.oneCell'=true)
 (hb:(0+1)*bytes≤0x800000000000):∃b' cap' cur' w',(execOp (ev ρ) o).run P w=.ok (.value (.slice (some ⟨b',0,none⟩) 1 cap')) w'∧St B w0 w' ((b',.cells cur' e (0,0))::l)∧Rw K cur' cap' 1 Y.toList:=by
 obtain ⟨it,z,hu,hi,hz,hsz,hby,hzs,h0⟩:=qu ht;have hnews: ∀q u,(Y.toList)[q]? =some u→w.cell? ((⟨bx,0,none⟩:Addr).add q)=some u:=fun q u hq=>by
  rw [Array.getElem?_toList] at hq;rw [qt,Nat.zero_add];simp [World.cell?,HS.get k hk,hq]
 obtain ⟨v',w',hrun,hown,hgr,hnil,hblk⟩:=run_append_own_at (P:=P) w B t o.type e it z K bytes hu hi hz hsz hby hzs h0 (.slice none 0 0) 0 [] (World.ownsRow_nil w B e K) ⟨bx,0,none⟩ 1 c Y.toList (by rw [Array.length_toList,hY,Nat.one_mul]) hnews hone (by unfold maxLen;omega) hb HS.le;have hown':=hown;rcases hown'.2 with ⟨hv,_⟩|⟨g,cap',cur',rfl,hbg,hg,hnc,hcm,hcs,htk⟩
 ·exact absurd (hnil.1 hv).2 (by simp)
 ·have hgb:g=w.heap.size:=by
   rcases hblk with hq|hq
   ·simp [Value.ownBlock] at hq
   ·injection hq
  have hbel:Below w.heap.size w w':=(Below.refl _ w).grown hgr (Nat.le_refl _) (fun k hk=>by simp [Value.ownBlock] at hk);have HS':=HS.add hbel (by omega) hg;rw [Nat.zero_add] at hnc htk;refine ⟨g,cap',cur',w',?_,HS',⟨by rw [Array.length_toList,hY,Nat.one_mul],hnc,hcm,htk,hcs⟩⟩;unfold execOp;simp only [ho,yq,resolve,invoke,builtin,Sem.run_bind,Sem.run_pure,Result.andThen_ok,List.map_toArray,List.map_cons,List.map_nil,hs,hx,hrun]
def FnT (P:Program)(f:Nat)(args:Array Value)(pre:World→Prop)(ok:Value→List (Nat×Obj)→Prop):Prop:=
 ∀w,pre w→Calls P f args w fun e w'=> ∃v T,e=.returned v∧ok v T∧St w.heap.size w w' T
end
inductive Fo
 | nil
 | cons (l:Bool) (s:ByteArray) (k r:Fo)
def Fo.len:Fo→Nat
 | .nil=>0
 | .cons _ _ _ r=>r.len+1
def Fo.cnt:Fo→Nat
 | .nil=>0
 | .cons _ _ k r=>1+k.cnt+r.cnt
def qP (B:Nat)(w:World):Fo→Nat→Nat→Prop
 | .nil,_,_=>True
 | .cons l s k r,b,off=>(∃(C:Array Value) (T:TypeId) (fz:Nat×Nat) (p:Option Addr) (n c:Nat),b<B∧w.heap[b]? =some (.cells C T fz)∧off+3≤C.size∧
  C.extract off (off+3)=#[.bool l,.string s,.slice p n c]∧s.size≤0x800000000000∧n=k.len∧n≤0x800000000000∧(k=.nil∨∃b' off',p=some ⟨b',off',none⟩∧qP B w k b' off'))∧qP B w r b (off+3)
def zp (B:Nat)(w:World)(p:Option Addr)(n:Nat)(k:Fo):Prop:=n=k.len∧n≤0x800000000000∧(k=.nil∨∃b off,p=some ⟨b,off,none⟩∧qP B w k b off)
def FoR (B:Nat)(w:World)(p:Option Addr)(i:Nat)(r:Fo):Prop:=r=.nil∨∃b off,p=some ⟨b,off,none⟩∧qP B w r b (off+i*3)
theorem qP.up {B B':Nat}{w w':World}(hb:Below B w w')(hB:B≤B'): ∀ {k:Fo} {b off:Nat},qP B w k b off→qP B' w' k b off
 | .nil,_,_,_=>trivial
 | .cons l s k r,b,off,⟨⟨C,T,fz,p,n,c,h1,h2,h3,h4,h5,h6,h7,h8⟩,h9⟩=>
  ⟨⟨C,T,fz,p,n,c,Nat.lt_of_lt_of_le h1 hB,by rw [hb.block b h1];exact h2,h3,h4,h5,h6,h7,h8.imp id fun ⟨b',o',e,h⟩=>⟨b',o',e,qP.up hb hB h⟩⟩,qP.up hb hB h9⟩
theorem zp.up {B B':Nat}{w w':World}{p:Option Addr}{n:Nat}{k:Fo}(h:zp B w p n k)(hb:Below B w w')(hB:B≤B'):zp B' w' p n k:=
 ⟨h.1,h.2.1,h.2.2.imp id fun ⟨b,o,e,h⟩=>⟨b,o,e,h.up hb hB⟩⟩
theorem zp.call {w0 w:World}{p:Option Addr}{n:Nat}{k:Fo}(h:zp w0.heap.size w0 p n k)(hb:Below w0.heap.size w0 w):zp w.heap.size w p n k:=h.up hb hb.size
theorem zp.nil (B:Nat)(w:World)(p:Option Addr):zp B w p 0 .nil:=⟨rfl,by omega,.inl rfl⟩
theorem zp.start {B:Nat}{w:World}{p:Option Addr}{n:Nat}{k:Fo}(h:zp B w p n k):FoR B w p 0 k:=
 h.2.2.imp id fun ⟨b,o,e,h⟩=>⟨b,o,e,by rw [Nat.zero_mul,Nat.add_zero];exact h⟩
theorem FoR.open {B:Nat}{w:World}{p:Option Addr}{i n:Nat}{r:Fo}(h:FoR B w p i r)(hn:i+r.len=n)(hi:i<n):
 ∃l s k r' b off C T fz p' n' c',r=.cons l s k r'∧p=some ⟨b,off,none⟩∧b<B∧w.heap[b]? =some (.cells C T fz)∧off+i*3+3≤C.size∧
  C.extract (off+i*3) (off+i*3+3)=#[.bool l,.string s,.slice p' n' c']∧s.size≤0x800000000000∧zp B w p' n' k∧FoR B w p (i+1) r'∧i+1+r'.len=n:=by
 cases r with
 | nil=>simp only [Fo.len] at hn;omega
 | cons l s k r'=>
  rcases h with h|⟨b,off,e,⟨C,T,fz,p',n',c',h1,h2,h3,h4,h5,h6,h7,h8⟩,h9⟩
  ·cases h
  ·refine ⟨l,s,k,r',b,off,C,T,fz,p',n',c',rfl,e,h1,h2,h3,h4,h5,⟨h6,h7,h8⟩,.inr ⟨b,off,e,?_⟩,?_⟩
   ·rw [show off+(i+1)*3=off+i*3+3 by omega];exact h9
   ·simp only [Fo.len] at hn;omega
theorem FoR.done {i n:Nat}{r:Fo}(hn:i+r.len=n)(hi: ¬i<n):r=.nil:=by
 cases r with
 | nil=>rfl
 | cons l s k r'=>simp only [Fo.len] at hn;omega
theorem jj {P:Program}{ρ:Env}{t e:TypeId}{bytes:Nat}(ht:yy P t=some (e,3,bytes)){x y:Operand}{o:Oper}{kd:IntKind}{p:Option Addr}(b q n c k:Nat)(hp:p=some ⟨b,q,none⟩)(ho:o.op=.indexAddr t x y)(hx:ev ρ x=.slice p n c)(hy:ev ρ y=.int kd (k:Int))(hk:k<n):
 ∀w,(execOp (ev ρ) o).run P w=.ok (.value (.pointer (some ⟨b,q+k*3,none⟩))) w:=by
 subst hp;exact qM ht b q n c k ho hx hy hk
theorem Fo.len_le: ∀k:Fo,k.len≤k.cnt
 | .nil=>Nat.le_refl _
 | .cons _ _ k r=>by have:=Fo.len_le r;simp only [Fo.len,Fo.cnt];omega
def dgI:Nat→Nat→List UInt8
 | 0,_=>[]
 | m+1,n=>if n=0 then [] else dgI m (n / 256)++ [UInt8.ofNat n]
def dg (n:Nat):List UInt8:=dgI 8 n
def hd (f n:Nat):List UInt8:=if n≤55 then [UInt8.ofNat (f+n)] else UInt8.ofNat (f+55+(dg n).length)::dg n
def frm (l:Bool):Nat:=if l then 192 else 128
def zX (s:ByteArray):Bool:=decide (s.size=1)&&decide (by_ s 0<128)
def mixed (l:Bool)(s:ByteArray)(n:Nat):Bool:=if l then decide (s.size≠0) else decide (n≠0)
def wr1 (l:Bool)(s:ByteArray)(m:Nat)(ks:List UInt8):List UInt8:=(if zX s then [] else hd (frm l) (s.size+m))++(tl s++ks)
def sz1 (l:Bool)(s:ByteArray)(m:Nat):Nat:=if zX s then 1 else (hd (frm l) (s.size+m)).length+(s.size+m)
def szF:Fo→Nat
 | .nil=>0
 | .cons l s k r=>sz1 l s (szF k)+szF r
def wrF:Fo→List UInt8
 | .nil=>[]
 | .cons l s k r=>wr1 l s (szF k) (wrF k)++wrF r
def dp1 (l:Bool)(d:Nat):Nat:=if l then 1+d else 0
def dpF:Fo→Nat
 | .nil=>0
 | .cons l s k r=>max (dp1 l (dpF k)) (dpF r)
def pureF:Fo→Bool
 | .nil=>true
 | .cons l s k r=>(!mixed l s k.len&&pureF k)&&pureF r
def lf1 (l:Bool)(s:ByteArray)(k:Nat)(f:Nat→Option Nat)(room:Nat):Option Nat:=if room=0∨mixed l s k=true then none else f (room-1)
def lfF:Fo→Nat→Option Nat
 | .nil,room=>some room
 | .cons l s k r,room=>(lf1 l s k.len (lfF k) room).bind (lfF r)
def lfV:Option Nat→Int
 | none=> -1
 | some q=>(q:Int)
theorem xW: ∀(k:Fo) (room:Nat),lfF k room=if pureF k=true∧k.cnt≤room then some (room-k.cnt) else none
 | .nil,room=>by simp [lfF,pureF,Fo.cnt]
 | .cons l s k r,room=>by
  have h1:=xW k (room-1);have e1:pureF (.cons l s k r)=((!mixed l s k.len&&pureF k)&&pureF r):=rfl;have e2:(Fo.cons l s k r).cnt=1+k.cnt+r.cnt:=rfl;rw [show lfF (.cons l s k r) room=(lf1 l s k.len (lfF k) room).bind (lfF r) from rfl];unfold lf1;by_cases hr:room=0
  ·subst hr;rw [if_pos (Or.inl rfl),if_neg (by rw [e2];omega)];rfl
  ·cases hm:mixed l s k.len with
   | true=>rw [if_pos (Or.inr rfl),if_neg (by rw [e1,hm];simp)];rfl
   | false=>
    rw [if_neg (by simp [hr]),h1];cases hp:pureF k with
    | false=>rw [if_neg (by simp),if_neg (by rw [e1,hp];simp)];rfl
    | true=>
     by_cases hc:k.cnt≤room-1
     ·rw [if_pos ⟨rfl,hc⟩,Option.bind_some,xW r];cases hq:pureF r with
      | false=>rw [if_neg (by simp),if_neg (by rw [e1,hq];simp)]
      | true=>
       by_cases hd:r.cnt≤room-1-k.cnt
       ·rw [if_pos ⟨rfl,hd⟩,if_pos ⟨by rw [e1,hm,hp,hq];rfl,by rw [e2];omega⟩,e2];congr 1;omega
       ·rw [if_neg (by simp [hd]),if_neg (by rw [e2];rintro ⟨_,h⟩;omega)]
     ·rw [if_neg (by simp [hc]),if_neg (by rw [e2];rintro ⟨_,h⟩;omega)];rfl
theorem zgW {k:Fo}{room q:Nat}(h:lfF k room=some q):q≤room:=by
 rw [xW] at h;split at h
 ·injection h with h;omega
 ·cases h
theorem zdh: ∀m n,(dgI m n).length≤m
 | 0,_=>Nat.le_refl _
 | m+1,n=>by unfold dgI;split;·simp
             ·simp;exact zdh m _
theorem qj (n:Nat):(dg n).length≤8:=zdh 8 n
theorem jI (f n:Nat):1≤(hd f n).length∧(hd f n).length≤9:=by
 unfold hd;have:=qj n;split<;>simp<;>omega
theorem zbd (l:Bool)(s:ByteArray)(m:Nat):sz1 l s m≤9+(s.size+m):=by
 unfold sz1;have:=jI (frm l) (s.size+m);split<;>omega
theorem jk {s:ByteArray}(h:zX s=true):s.size=1:=by
 unfold zX at h;simp only [Bool.and_eq_true,decide_eq_true_eq] at h;exact h.1
theorem zdi (l:Bool)(s:ByteArray)(m:Nat):1≤sz1 l s m:=by
 unfold sz1;have:=jI (frm l) (s.size+m);split<;>omega
theorem kt {s:ByteArray}(h: ¬s=⟨#[]⟩):s.size≠0:=fun e=>h (by
 obtain ⟨d⟩:=s;have:d.size=0:=e
 rw [Array.eq_empty_of_size_eq_zero this])
theorem zgX {l:Bool}{s:ByteArray}{n:Nat}{k:Fo}{room q:Nat}(h:lf1 l s n (lfF k) room=some q):q≤room:=by
 unfold lf1 at h;split at h
 ·cases h
 ·have:=zgW h;omega
theorem zgY {l:Bool}{s:ByteArray}{n:Nat}{f:Nat→Option Nat}{room:Nat}(h:room=0):lfV (lf1 l s n f room)= -1:=by unfold lf1;rw [if_pos (Or.inl h)];rfl
theorem zgZ {l:Bool}{s:ByteArray}{n:Nat}{f:Nat→Option Nat}{room:Nat}(h:mixed l s n=true):lfV (lf1 l s n f room)= -1:=by unfold lf1;rw [if_pos (Or.inr h)];rfl
theorem zdj {l:Bool}{s:ByteArray}{n:Nat}{f:Nat→Option Nat}{room:Nat}(h0:room≠0)(h:mixed l s n=false):lf1 l s n f room=f (room-1):=by unfold lf1;rw [if_neg (by simp [h0,h])]
theorem zg0 {l:Bool}{s:ByteArray}{n:Nat}{k r:Fo}{q y:Nat}(hn:n=k.len)(h:lf1 l s n (lfF k) q=some y):lfF (.cons l s k r) q=lfF r y:=by
 subst hn;show (lf1 l s k.len (lfF k) q).bind (lfF r)=_;rw [h];rfl
theorem zg1 {l:Bool}{s:ByteArray}{n:Nat}{k r:Fo}{q:Nat}(hn:n=k.len)(h:lf1 l s n (lfF k) q=none):lfV (lfF (.cons l s k r) q)= -1:=by
 subst hn;show lfV ((lf1 l s k.len (lfF k) q).bind (lfF r))=_;rw [h];rfl
theorem zg2 {a:Nat}(h:a<0x10000000000000000):Int.fdiv (a:Int) (2^0)=(a:Int):=by rw [Int.pow_zero,Int.fdiv_one]
def wtF:Fo→Nat
 | .nil=>0
 | .cons l s k r=>9+s.size+wtF k+wtF r
theorem ku: ∀k:Fo,szF k≤wtF k
 | .nil=>Nat.le_refl _
 | .cons l s k r=>by
  have h1:=ku k;have h2:=ku r;have h3:=zbd l s (szF k);simp only [szF,wtF];omega
theorem qP.wt {B:Nat}{w:World} : ∀ {k:Fo} {b off:Nat},qP B w k b off→wtF k≤k.cnt*0x800000000009
 | .nil,_,_,_=>Nat.zero_le _
 | .cons l s k r,b,off,⟨⟨C,T,fz,p,n,c,h1,h2,h3,h4,h5,h6,h7,h8⟩,h9⟩=>by
  have hr:=qP.wt h9;have hk:wtF k≤k.cnt*0x800000000009:=by
   rcases h8 with rfl|⟨b',o',e,h⟩
   ·exact Nat.zero_le _
   ·exact qP.wt h
  simp only [wtF,Fo.cnt];omega
theorem zp.wt {B:Nat}{w:World}{p:Option Addr}{n:Nat}{k:Fo}(h:zp B w p n k):wtF k≤k.cnt*0x800000000009:=by
 rcases h.2.2 with rfl|⟨b,o,e,h⟩
 ·exact Nat.zero_le _
 ·exact h.wt
theorem zdk {f:Nat}(b:BitVec 8)(hb:b.toNat=f)(n:Nat)(h:n≤55)(hf:f≤192):strOfNums [(BitVec.toNat (b+BitVec.ofNat 8 n):Int)]=zh (hd f n):=by
 unfold hd;rw [if_pos h];show (⟨#[UInt8.ofNat (Int.toNat _)]⟩:ByteArray)=⟨#[UInt8.ofNat (f+n)]⟩
 rw [Int.toNat_natCast,BitVec.toNat_add,BitVec.toNat_ofNat,hb];rw [show (f+n%2^8)%2^8=f+n by omega]
theorem zdl {f:Nat}(b:BitVec 8)(hb:b.toNat=f+55)(n:Nat)(h: ¬n≤55)(hf:f≤192):strOfNums [(BitVec.toNat (b+BitVec.ofNat 8 (ByteArray.size (zh (dg n)))):Int)]++zh (dg n)=zh (hd f n):=by
 have hl:=qj n;have e:UInt8.ofNat (Int.toNat (BitVec.toNat (b+BitVec.ofNat 8 (ByteArray.size (zh (dg n)))):Int))=UInt8.ofNat (f+55+(dg n).length):=by
  rw [Int.toNat_natCast,BitVec.toNat_add,BitVec.toNat_ofNat,hb,qh];rw [show (f+55+(dg n).length%2^8)%2^8=f+55+(dg n).length by omega]
 apply qi;rw [xv];show [UInt8.ofNat _]++dg n=hd f n;unfold hd;rw [if_neg h,e];rfl
theorem vq: ∀k:Fo,(wrF k).length≤wtF k
 | .nil=>Nat.le_refl _
 | .cons l s k r=>by
  have h1:=vq k;have h2:=vq r;simp only [wrF,wtF,wr1,List.length_append,zt];split
  ·simp only [List.length_nil];omega
  ·have:=jI (frm l) (s.size+szF k);omega
theorem zbe: ∀ {k:Fo},pureF k=true→wtF k≤szF k+9*k.cnt
 | .nil,_=>Nat.zero_le _
 | .cons l s k r,h=>by
  simp only [pureF,Bool.and_eq_true,Bool.not_eq_true'] at h;have h1:=zbe h.1.2;have h2:=zbe h.2;simp only [wtF,szF,Fo.cnt,sz1];split
  ·rename_i hs
   have hz:=jk hs;have hk:k=.nil:=by
    have hm:=h.1.1;unfold mixed at hm;cases l with
    | true=>simp [hz] at hm
    | false=>
     cases k with
     | nil=>rfl
     | cons=>simp [Fo.len] at hm
   subst hk;simp only [wtF,Fo.cnt];omega
  ·have:=jI (frm l) (s.size+szF k);omega
theorem zbf {α:Type}(x:Option α):x=none∨∃y,x=some y:=by cases x with
 | none=>exact .inl rfl
 | some y=>exact .inr ⟨y,rfl⟩
theorem us: ∀k:Fo,dpF k≤k.cnt
 | .nil=>Nat.le_refl _
 | .cons l s k r=>by
  have h1:=us k;have h2:=us r;simp only [dpF,Fo.cnt,dp1];split<;>omega
theorem zdm (t:ByteArray)(h:t.size≠0):(t.extract 1 t.size).size=t.size-1:=by simp
theorem zbg (t:ByteArray):tl (t.extract 1 t.size)=(tl t).drop 1:=by
 rw [yO,List.take_of_length_le (by rw [zt];exact Nat.le_refl _)]
theorem xw {t:ByteArray}(h:t.size≠0):∃l,tl t=UInt8.ofNat (by_ t 0)::l:=by
 have hl:(tl t).length≠0:=by rw [zt];exact h
 unfold by_;cases e:tl t with
 | nil=>rw [e] at hl;simp at hl
 | cons x l=>exact ⟨l,by simp⟩
theorem zg3 (t:ByteArray)(h:t.size≠0)(h0:by_ t 0=0):(tl (t.extract 1 t.size)).dropWhile (·==0)=(tl t).dropWhile (·==0):=by
 obtain ⟨l,e⟩:=xw h;rw [zbg,e,h0];rfl
theorem zbh {t:ByteArray}(h:t=⟨#[]⟩):zh ((tl t).dropWhile (·==0))=t:=by subst h;rfl
theorem ut (t:ByteArray)(h:t.size=0∨by_ t 0≠0):zh ((tl t).dropWhile (·==0))=t:=by
 rcases h with h|h
 ·exact zbh (Decidable.not_not.1 fun q=>kt q h)
 ·by_cases h2:t.size=0
  ·exact zbh (Decidable.not_not.1 fun q=>kt q h2)
  ·obtain ⟨l,e⟩:=xw h2;have hb:=qg t 0;have hne:(UInt8.ofNat (by_ t 0)==0)=false:=by
    rw [beq_eq_false_iff_ne];intro q;have:=congrArg UInt8.toNat q;rw [UInt8.toNat_ofNat_of_lt' (by simpa using hb)] at this;exact h this
   rw [e,List.dropWhile_cons,hne];show zh (UInt8.ofNat (by_ t 0)::l)=t;rw [←e];exact xT t
theorem zdn: ∀ {l:List UInt8},(∀x∈l,(x==0)=true)→l.dropWhile (·==0)=[]
 | [],_=>rfl
 | x::l,h=>by rw [List.dropWhile_cons,if_pos (h x (List.mem_cons_self ..))];exact zdn fun y hy=>h y (List.mem_cons_of_mem _ hy)
def beI:Nat→Nat→List UInt8
 | 0,_=>[]
 | m+1,n=>beI m (n / 256)++ [UInt8.ofNat n]
theorem zbi: ∀m,(beI m 0).dropWhile (·==0)=[]∧ ∀x∈beI m 0,(x==0)=true
 | 0=>⟨rfl,fun _ h=>nomatch h⟩
 | m+1=>by
  have h:=(zbi m).2;have h2: ∀x∈beI (m+1) 0,(x==0)=true:=by
   intro x hx;simp only [beI,Nat.zero_div,List.mem_append,List.mem_singleton] at hx;rcases hx with hx | rfl
   ·exact h x hx
   ·rfl
  exact ⟨zdn h2,h2⟩
theorem zg4 (m:Nat):dgI m 0=[]:=by cases m<;>rfl
theorem drop_append {l r:List UInt8}(h:l.dropWhile (·==0)≠[]):(l++r).dropWhile (·==0)=l.dropWhile (·==0)++r:=by
 induction l with
 | nil=>exact absurd rfl h
 | cons x l ih=>
  rw [List.cons_append,List.dropWhile_cons,List.dropWhile_cons];split
  ·rename_i hx;rw [List.dropWhile_cons,if_pos hx] at h;exact ih h
  ·rfl
theorem zbj: ∀m n,n<256^m→(beI m n).dropWhile (·==0)=dgI m n
 | 0,n,h=>rfl
 | m+1,n,h=>by
  have hlt:n / 256<256^m:=by rw [Nat.pow_succ] at h;omega
  have ih:=zbj m (n / 256) hlt;unfold dgI;split
  ·rename_i h0;subst h0;exact (zbi (m+1)).1
  ·rename_i h0
   show (beI m (n / 256)++ [UInt8.ofNat n]).dropWhile (·==0)=_;by_cases hq:n / 256=0
   ·rw [hq,zg4,List.dropWhile_append,(zbi m).1];have hx:(UInt8.ofNat n==0)=false:=by
     rw [beq_eq_false_iff_ne];intro q;have:=congrArg UInt8.toNat q;rw [UInt8.toNat_ofNat_of_lt' (by simp only [UInt8.size];omega)] at this;exact h0 this
    simp [hx]
   ·rw [drop_append,ih];rw [ih];intro q;cases m with
    | zero=>simp at hlt;omega
    | succ m=>unfold dgI at q;rw [if_neg hq] at q;simp at q
def dgB (n d:Nat):BitVec 8:=BitVec.ofNat 8 (n / d)
theorem xx (n d:Nat):Value.int .u8 (IntKind.u8.wrap (((n / d:Nat):Int)))=.int .u8 (BitVec.toNat (dgB n d):Int):=xu (n / d)
theorem zg5 (n:Nat):Value.int .u8 (IntKind.u8.wrap ((n:Int)))=.int .u8 (BitVec.toNat (dgB n 1):Int):=by
 have h:=xx n 1;rw [Nat.div_one] at h;exact h
theorem zg6 (n d:Nat):UInt8.ofNat (Int.toNat (BitVec.toNat (dgB n d):Int))=UInt8.ofNat (n / d):=by
 rw [Int.toNat_natCast];apply UInt8.toNat_inj.1;rw [UInt8.toNat_ofNat',UInt8.toNat_ofNat'];unfold dgB;rw [BitVec.toNat_ofNat];omega
theorem zg7 (n:Nat):tl (strOfNums [(BitVec.toNat (dgB n 72057594037927936):Int),(BitVec.toNat (dgB n 281474976710656):Int),(BitVec.toNat (dgB n 1099511627776):Int),(BitVec.toNat (dgB n 4294967296):Int),(BitVec.toNat (dgB n 16777216):Int),(BitVec.toNat (dgB n 65536):Int),(BitVec.toNat (dgB n 256):Int),(BitVec.toNat (dgB n 1):Int)])=beI 8 n:=by
 unfold tl;rw [strOfNums_data];simp only [List.map_cons,List.map_nil,zg6,beI,List.nil_append,List.append_assoc,List.cons_append,Nat.div_div_eq_div_mul,Nat.div_one]
theorem zg8 (n:Nat)(h:n<0x10000000000000000):(tl (strOfNums [(BitVec.toNat (dgB n 72057594037927936):Int),(BitVec.toNat (dgB n 281474976710656):Int),(BitVec.toNat (dgB n 1099511627776):Int),(BitVec.toNat (dgB n 4294967296):Int),(BitVec.toNat (dgB n 16777216):Int),(BitVec.toNat (dgB n 65536):Int),(BitVec.toNat (dgB n 256):Int),(BitVec.toNat (dgB n 1):Int)])).dropWhile (·==0)=dg n:=by
 rw [zg7];exact zbj 8 n h
def zP (l:Bool)(s:ByteArray)(n:Nat)(k:Fo):ByteArray×Nat:=
 match lf1 l s n (lfF k) 4000 with
 | none=>(⟨#[]⟩,1)
 | some _=>if 8<dp1 l (dpF k) then (⟨#[]⟩,5) else if 4000<sz1 l s (szF k) then (⟨#[]⟩,2) else (zh (wr1 l s (szF k) (wrF k)),0)
def kw (x:ByteArray×Nat):Value:=.tuple #[.string x.1,.int .i64 ((x.2:Nat):Int)]
section
variable {l:Bool}{s:ByteArray}{n y:Nat}{k:Fo}
theorem zg9 (h:lf1 l s n (lfF k) 4000=none):kw (zP l s n k)=.tuple #[.string ⟨#[]⟩,.int .i64 1]:=by unfold zP;rw [h];rfl
theorem zha (h:lf1 l s n (lfF k) 4000=some y)(hd:8<dp1 l (dpF k)):kw (zP l s n k)=.tuple #[.string ⟨#[]⟩,.int .i64 5]:=by unfold zP;rw [h];simp only [];rw [if_pos hd];rfl
theorem zhb (h:lf1 l s n (lfF k) 4000=some y)(hd: ¬8<dp1 l (dpF k))(hz:4000<sz1 l s (szF k)):kw (zP l s n k)=.tuple #[.string ⟨#[]⟩,.int .i64 2]:=by unfold zP;rw [h];simp only [];rw [if_neg hd,if_pos hz];rfl
theorem zhc (h:lf1 l s n (lfF k) 4000=some y)(hd: ¬8<dp1 l (dpF k))(hz: ¬4000<sz1 l s (szF k)):kw (zP l s n k)=.tuple #[.string (zh (wr1 l s (szF k) (wrF k))),.int .i64 0]:=by unfold zP;rw [h];simp only [];rw [if_neg hd,if_neg hz];rfl
theorem zdo {room:Nat}(h:lf1 l s n (lfF k) room=some y):mixed l s n=false∧pureF k=true∧k.cnt<room:=by
 unfold lf1 at h;split at h
 ·cases h
 ·rename_i h0
  rw [xW] at h;split at h
  ·rename_i h1
   refine ⟨?_,h1.1,by omega⟩;cases hm:mixed l s n with
   | true=>exact absurd (.inr hm) h0
   | false=>rfl
  ·cases h
theorem ja (hm:mixed l s n=false)(h:zX s=true):n=0:=by
 have hz:=jk h;unfold mixed at hm;cases l with
 | true=>simp [hz] at hm
 | false=>simpa using hm
theorem len_zero {k:Fo}(h:k.len=0):k=.nil:=by cases k with
 | nil=>rfl
 | cons=>simp [Fo.len] at h
theorem qn (hm:mixed l s k.len=false)(hk:(wrF k).length=szF k):(wr1 l s (szF k) (wrF k)).length=sz1 l s (szF k):=by
 unfold wr1 sz1;rw [List.length_append,List.length_append,zt,hk];split
 ·rename_i h
  have:=len_zero (ja hm h);subst this;have hz:=jk h;simp only [szF,List.length_nil];omega
 ·omega
theorem ye: ∀ {k:Fo},pureF k=true→(wrF k).length=szF k
 | .nil,_=>rfl
 | .cons l s k r,h=>by
  simp only [pureF,Bool.and_eq_true,Bool.not_eq_true'] at h;simp only [wrF,szF,List.length_append];rw [qn h.1.1 (ye h.1.2),ye h.2]
theorem jz (hm:mixed l s n=false)(hp:pureF k=true)(hn:n=k.len):0<(wr1 l s (szF k) (wrF k)).length∧(wr1 l s (szF k) (wrF k)).length≤sz1 l s (szF k):=by
 subst hn;rw [qn hm (ye hp)];exact ⟨zdi l s (szF k),Nat.le_refl _⟩
theorem zhd (hm:mixed l s n=false)(hp:pureF k=true)(hz:sz1 l s (szF k)≤4000)(hn:n=k.len):s.size+wtF k≤4000+9*k.cnt:=by
 have h1:=zbe hp;unfold sz1 at hz;split at hz
 ·rename_i h
  have h2:=ja hm h;have:=len_zero (hn▸h2);subst this;have:=jk h;simp only [wtF];omega
 ·omega
end
theorem zdp {s:ByteArray}{n:Nat}{b:Bool}(h:decide (s.size≠0)=b):b=mixed true s n:=h.symm
theorem zdq {s:ByteArray}{n:Nat}{b:Bool}(h:decide (n≠0)=b):b=mixed false s n:=h.symm
theorem zhe (l:Bool)(s:ByteArray)(p:Option Addr)(n c:Nat)(k:Fo)(hs:s.size≤0x800000000000):FnP Tryz.prog 126 #[.agg #[.bool l,.string s,.slice p n c]] (fun w=>zp w.heap.size w p n k) (.bool (mixed l s n)):=by
 refine FnP.intro (c:=zk Tryz.f126) [.tmp 2] 12 Tryz.func126 kr kr kr fun w hpre=>?_;have H0:=St.start w;have hn:=hpre.1;have hnm:=hpre.2.1;refine rS [.b,.v] H0 kr fun gs1 w1 H1=>?_;clear H0;refine zb kr<|rS [.v,.l 0] H1 kr fun gs2 w2 H2=>?_;clear H1;refine Or.elim (Bool.eq_false_or_eq_true (l)).symm (fun hq1=>?_) (fun hq1=>?_)
 ·refine yl 4 (v:=.bool l) (v':=.bool false) (za hq1) kr<|zi kr kr<|zj kr<|wW<|zg [0,1,2,3,4] kr kr<|rp [.v,.l 0,.v] H2 kr fun gs3 w3 H3=>wX [3,4] ?_;clear H2;by_cases hc1:(n:Nat)>0
  ·refine rp [.E (.bool (decide (0<(n:Int)))) (.bool true) (za (decide_eq_true (by omega))),.v] H3 kr fun gs4 w4 H4=>wX [] ?_;clear H3;refine zc<|zl kr<|wV ?_;refine ⟨[.bool true],(.tmp (.bool true) kr .nil),?_,H4.below⟩;rw [hq1];exact za (zdq (decide_eq_true (by omega)))
  ·refine rp [.E (.bool (decide (0<(n:Int)))) (.bool false) (za (decide_eq_false (by omega))),.v] H3 kr fun gs5 w5 H5=>wX [] ?_;clear H3;refine zc<|zl kr<|wV ?_;refine ⟨[.bool false],(.tmp (.bool false) kr .nil),?_,H5.below⟩;rw [hq1];exact za (zdq (decide_eq_false (by omega)))
 ·refine yl 4 (v:=.bool l) (v':=.bool true) (za hq1) kr<|zf kr kr<|zg [0,1,2,3] kr kr<|rp [.v,.l 0] H2 kr fun gs6 w6 H6=>wX [2,3] ?_;clear H2;by_cases hx2:s=⟨#[]⟩
  ·refine rp [.E (.bool (!(ByteArray.toList s==ByteArray.toList (⟨#[]⟩)))) (.bool false) (za (by rw [zL s (⟨#[]⟩) hx2];rfl)),.v] H6 kr fun gs7 w7 H7=>wX [] ?_;clear H6;refine zc<|zl kr<|wV ?_;refine ⟨[.bool false],(.tmp (.bool false) kr .nil),?_,H7.below⟩;rw [hq1];exact za (zdp (decide_eq_false (by rw [hx2];decide)))
  ·refine rp [.E (.bool (!(ByteArray.toList s==ByteArray.toList (⟨#[]⟩)))) (.bool true) (za (by rw [yA s (⟨#[]⟩) hx2];rfl)),.v] H6 kr fun gs8 w8 H8=>wX [] ?_;clear H6;refine zc<|zl kr<|wV ?_;refine ⟨[.bool true],(.tmp (.bool true) kr .nil),?_,H8.below⟩;rw [hq1];exact za (zdp (decide_eq_true (kt hx2)))
theorem zhf (m:Nat)(ih: ∀(l:Bool) (s:ByteArray) (p:Option Addr) (n c:Nat) (k:Fo) (room:Nat),s.size≤0x800000000000→room≤4000→k.cnt<m→FnP Tryz.prog 101 #[.agg #[.bool l,.string s,.slice p n c],.int .i64 (room:Int)] (fun w=>zp w.heap.size w p n k) (.int .i64 (lfV (lf1 l s n (lfF k) room))))(l:Bool)(s:ByteArray)(p:Option Addr)(n c:Nat)(k:Fo)(hs:s.size≤0x800000000000)(room:Nat)(hro:room≤4000)(hkm:k.cnt<m+1):FnP Tryz.prog 101 #[.agg #[.bool l,.string s,.slice p n c],.int .i64 (room:Int)] (fun w=>zp w.heap.size w p n k) (.int .i64 (lfV (lf1 l s n (lfF k) room))):=by
 refine FnP.intro (c:=zk Tryz.f101) [.tmp 4] 30 Tryz.func101 kr kr kr fun w hpre=>?_;have H0:=St.start w;have hn:=hpre.1;have hnm:=hpre.2.1;refine rS [.b,.v] H0 kr fun gs1 w1 H1=>?_;clear H0;refine zb kr<|zg [0,1,2,3,4,5] kr kr<|rp [.v] H1 kr fun gs2 w2 H2=>wX [1,2,3,4,5] ?_;clear H1;by_cases hc1:(room:Nat)=0
 ·refine rp [.E (.bool ((room:Int)==0)) (.bool true) (za (beq_iff_eq.2 (by omega))),.v,.n,.n,.v] H2 kr fun gs3 w3 H3=>wX [] ?_;clear H2;refine zc<|zf kr kr<|rS [.v] H3 kr fun gs4 w4 H4=>?_;clear H3;refine zl kr<|wV ?_;refine ⟨[.int .i64 (-1)],(.tmp (.int .i64 (-1)) kr .nil),?_,H4.below⟩;exact zd (zgY (by omega)).symm
 ·refine rp [.E (.bool ((room:Int)==0)) (.bool false) (za (beq_eq_false_iff_ne.2 (by omega))),.v,.l 0,.cp (pre:=fun w=>zp w.heap.size w p n k) (zhe l s p n c k (by omega)) [] (fun w hb hd=>(zp.call hpre hb)),.v] H2 kr fun gs5 w5 H5=>wX [] ?_;clear H2;refine zc<|Or.elim (Bool.eq_false_or_eq_true (mixed l s n)).symm (fun hq1=>?_) (fun hq1=>?_)
  ·refine yl 11 (v:=.bool (mixed l s n)) (v':=.bool false) (za hq1) kr<|yl 12 (v:=.bool (mixed l s n)) (v':=.bool false) (za hq1) kr<|zi kr kr<|zj kr<|wW<|rS [.v,.E (.int .i64 (IntKind.i64.wrap ((room:Int)-1))) (.int .i64 ((room-1:Nat):Int)) (zd (vm (a:=room) (b:=1) (by omega))),.v] H5 kr fun gs6 w6 H6=>?_;clear H5;refine zb kr<|rS [.v,.l 0,.v,.v] H6 kr fun gs7 w7 H7=>?_;clear H6;refine zn 0 kr ?_;have HL2:St w.heap.size w w7 [((gs1 0).b,Obj.cells #[.bool l,.string s,.slice p n c] 83 (0,0))]:=H7.as kr;clear H7;have HD3:St w.heap.size w w7 []:=HL2.sub (List.Sublist.cons _ List.Sublist.slnil);refine zV kr (fun mz ρ ww=> ∃(i:Nat) (r:Fo) (q:Nat),n-i=mz∧(FoR w.heap.size w p i r)∧(i+Fo.len r=n)∧(q≤4000)∧(Fo.cnt r≤Fo.cnt k)∧(lfF k (room-1)=lfF r q)∧St w.heap.size w ww []∧Is [(0,.agg #[.bool l,.string s,.slice p n c]),(1,.int .i64 (q:Int)),(2,.pointer (some ⟨(gs1 0).b,0,none⟩)),(12,.bool false),(16,.slice p n c),(17,.int .i64 (n:Int)),(18,.int .i64 (i:Int))] ρ) (n-0) ⟨0,k,(room-1),rfl,(zp.start hpre),(by have hn0:=(hpre).1;omega),(by omega),(Nat.le_refl _),rfl,HD3,(Is.of ⟨kr,kr,kr,kr,kr,kr,kr,trivial⟩)⟩ ?_;clear HD3;rintro _ _ w8 ⟨i,r,q,rfl,hR,hN,hq0,hcn,hlf,H8,_,rfl⟩;by_cases hc4:(i:Nat)<n
   ·refine rS [.E (.bool (decide ((i:Int)<(n:Int)))) (.bool true) (za (decide_eq_true (by omega)))] H8 kr fun gs9 w9 H9=>?_;clear H8;refine zb kr<|zf kr kr<|zj kr<|wW<|zb kr<|zn 1 kr ?_;obtain ⟨l1,s1,k1,r1,b1,off1,C1,T1,fz1,p1,n1,c1,hr1,hp1,hb1,hh1,hs1,hx1,hz1,hk1,hR1,hN1⟩:=FoR.open hR hN (by omega);refine rS [.o (ins:=[((.tmp 16),.slice p n c),((.tmp 18),.int .i64 (i:Int))]) (v:=.pointer (some ⟨b1,off1+i*3,none⟩)) (fun ρ o w ho hi=>jj (kd:=.i64) (t:=81) (e:=83) (bytes:=48) kr (x:=(.tmp 16)) (y:=(.tmp 18)) b1 off1 n c i hp1 ho hi.1 hi.2.1 (by omega) w),.fp (off:=off1+i*3) (n:=3) (W:=#[.bool l1,.string s1,.slice p1 n1 c1]) hh1 hb1 hs1 hx1,.a,.s 0] H9 kr fun gs10 w10 H10=>?_;clear H9;refine zx [0,1,2,6,12,16,17,18,19] fun ρ1=>?_;have HK5:=H10.keep;clear H10;have hcn1:=hcn;rw [hr1] at hcn1;simp only [Fo.cnt] at hcn1;refine zg [0,1,2,3] kr kr<|rp [.l 0,.v,.cp (pre:=fun w=>zp w.heap.size w p1 n1 k1) (ih l1 s1 p1 n1 c1 k1 q hz1 (by omega) (by omega)) [] (fun w hb hd=>(zp.call hk1 hb))] HK5 kr fun gs11 w11 H11=>wX [3] ?_;clear HK5;rcases zbf (lf1 l1 s1 n1 (lfF k1) q) with hv1 | ⟨y,hv1⟩
    ·refine zz 24 (v:=.int .i64 (lfV (lf1 l1 s1 n1 (lfF k1) q))) (v':=.int .i64 (-1)) (zd (show (lfV (lf1 l1 s1 n1 (lfF k1) q))= -1 from by rw [hv1];rfl)) kr<|rp [.v] H11 kr fun gs12 w12 H12=>wX [] ?_;clear H11;refine zc<|rS [.v,.v] H12 kr fun gs13 w13 H13=>?_;clear H12;refine zf kr kr<|rS [.v,.v] H13 kr fun gs14 w14 H14=>?_;clear H13;refine zl kr<|wV ?_;refine ⟨[.int .i64 (-1)],(.tmp (.int .i64 (-1)) kr .nil),?_,H14.below⟩;refine zd ?_;rw [zdj (by omega) hq1,hlf,hr1];exact (zg1 hk1.1 hv1).symm
    ·refine zz 24 (v:=.int .i64 (lfV (lf1 l1 s1 n1 (lfF k1) q))) (v':=.int .i64 (y:Int)) (zd (show (lfV (lf1 l1 s1 n1 (lfF k1) q))=(y:Int) from by rw [hv1];rfl)) kr ?_;have hy4:=zgX hv1;refine rp [.v] H11 kr fun gs15 w15 H15=>wX [] ?_;clear H11;refine zc<|rS [.v,.E (.bool (decide ((y:Int)<0))) (.bool false) (za (decide_eq_false (by omega)))] H15 kr fun gs16 w16 H16=>?_;clear H15;refine zi kr kr<|zj kr<|wW<|rL [.E (.int .i64 (IntKind.i64.wrap ((i:Int)+1))) (.int .i64 ((i+1:Nat):Int)) (zd (zs (a:=i) (b:=1) (by omega))),.v] H16 kr fun gs17 w17 H17=>?_;clear H16;have HL6:St w.heap.size w w17 [((gs10 2).b,Obj.cells #[.bool l1,.string s1,.slice p1 n1 c1] 83 (0,0))]:=H17.as kr;clear H17;have HD7:St w.heap.size w w17 []:=HL6.sub (List.Sublist.cons _ List.Sublist.slnil);show ∃m,_∧_;exact ⟨_,(by omega),(i+1),r1,y,rfl,hR1,hN1,(by omega),(by omega),(by rw [hlf,hr1];exact zg0 hk1.1 hv1),HD7,(Is.of ⟨kr,kr,kr,kr,kr,kr,kr,trivial⟩)⟩
   ·refine rS [.E (.bool (decide ((i:Int)<(n:Int)))) (.bool false) (za (decide_eq_false (by omega)))] H8 kr fun gs18 w18 H18=>?_;clear H8;refine zb kr<|zi kr kr<|zN 0 kr<|wW<|rS [.v,.v] H18 kr fun gs19 w19 H19=>?_;clear H18;refine zl kr<|wV ?_;refine ⟨[.int .i64 (q:Int)],(.tmp (.int .i64 (q:Int)) kr .nil),?_,H19.below⟩;refine zd ?_;rw [zdj (by omega) hq1,hlf,FoR.done hN (by omega)];rfl
  ·refine yl 11 (v:=.bool (mixed l s n)) (v':=.bool true) (za hq1) kr<|yl 12 (v:=.bool (mixed l s n)) (v':=.bool true) (za hq1) kr<|zf kr kr<|rS [.v] H5 kr fun gs20 w20 H20=>?_;clear H5;refine zl kr<|wV ?_;refine ⟨[.int .i64 (-1)],(.tmp (.int .i64 (-1)) kr .nil),?_,H20.below⟩;exact zd (zgZ hq1).symm
theorem zhg (l:Bool)(s:ByteArray)(p:Option Addr)(n c:Nat)(k:Fo)(hs:s.size≤0x800000000000)(room:Nat)(hro:room≤4000):FnP Tryz.prog 101 #[.agg #[.bool l,.string s,.slice p n c],.int .i64 (room:Int)] (fun w=>zp w.heap.size w p n k) (.int .i64 (lfV (lf1 l s n (lfF k) room))):=by
 have key: ∀(m:Nat) (l:Bool) (s:ByteArray) (p:Option Addr) (n c:Nat) (k:Fo) (room:Nat),s.size≤0x800000000000→room≤4000→k.cnt<m→FnP Tryz.prog 101 #[.agg #[.bool l,.string s,.slice p n c],.int .i64 (room:Int)] (fun w=>zp w.heap.size w p n k) (.int .i64 (lfV (lf1 l s n (lfF k) room))):=by
  intro m
  induction m with
  | zero=>intros;omega
  | succ m ih=>intro l s p n c k room hs hro hkm;exact zhf m ih l s p n c k hs room hro hkm
 exact key (k.cnt+1) l s p n c k room hs hro (by omega)
theorem zhh (m:Nat)(ih: ∀(l:Bool) (s:ByteArray) (p:Option Addr) (n c:Nat) (k:Fo),s.size≤0x800000000000→k.cnt≤1000000→k.cnt<m→FnP Tryz.prog 92 #[.agg #[.bool l,.string s,.slice p n c]] (fun w=>zp w.heap.size w p n k) (.int .i64 ((dp1 l (dpF k):Nat):Int)))(l:Bool)(s:ByteArray)(p:Option Addr)(n c:Nat)(k:Fo)(hs:s.size≤0x800000000000)(hk6:k.cnt≤1000000)(hkm:k.cnt<m+1):FnP Tryz.prog 92 #[.agg #[.bool l,.string s,.slice p n c]] (fun w=>zp w.heap.size w p n k) (.int .i64 ((dp1 l (dpF k):Nat):Int)):=by
 refine FnP.intro (c:=zk Tryz.f92) [.tmp 2] 23 Tryz.func92 kr kr kr fun w hpre=>?_;have H0:=St.start w;have hn:=hpre.1;have hnm:=hpre.2.1;have hdk:=us k;refine rS [.b,.v] H0 kr fun gs1 w1 H1=>?_;clear H0;refine zb kr<|zg [0,1,2] kr kr<|rp [.v,.l 0] H1 kr fun gs2 w2 H2=>wX [2] ?_;clear H1;refine Or.elim (Bool.eq_false_or_eq_true (l)).symm (fun hq1=>?_) (fun hq1=>?_)
 ·refine zz 7 (v:=.bool l) (v':=.bool false) (za hq1) kr<|rp [.v] H2 kr fun gs3 w3 H3=>wX [] ?_;clear H2;refine zc<|zf kr kr<|rS [.v] H3 kr fun gs4 w4 H4=>?_;clear H3;refine zl kr<|wV ?_;refine ⟨[.int .i64 0],(.tmp (.int .i64 0) kr .nil),?_,H4.below⟩;rw [hq1];rfl
 ·refine zz 7 (v:=.bool l) (v':=.bool true) (za hq1) kr<|rp [.v] H2 kr fun gs5 w5 H5=>wX [] ?_;clear H2;refine zc<|zi kr kr<|zj kr<|wW<|rS [.v] H5 kr fun gs6 w6 H6=>?_;clear H5;refine zb kr<|rS [.v,.l 0,.v,.v] H6 kr fun gs7 w7 H7=>?_;clear H6;refine zn 0 kr ?_;have HL1:St w.heap.size w w7 [((gs1 0).b,Obj.cells #[.bool l,.string s,.slice p n c] 83 (0,0))]:=H7.as kr;clear H7;have HD2:St w.heap.size w w7 []:=HL1.sub (List.Sublist.cons _ List.Sublist.slnil);refine zV kr (fun mz ρ ww=> ∃(i:Nat) (r:Fo) (d:Nat),n-i=mz∧(FoR w.heap.size w p i r)∧(i+Fo.len r=n)∧(Fo.cnt r≤Fo.cnt k)∧(dpF k=max d (dpF r))∧St w.heap.size w ww []∧Is [(0,.agg #[.bool l,.string s,.slice p n c]),(1,.pointer (some ⟨(gs1 0).b,0,none⟩)),(2,.int .i64 0),(3,.int .i64 (d:Int)),(8,.bool false),(10,.slice p n c),(11,.int .i64 (n:Int)),(12,.int .i64 (i:Int))] ρ) (n-0) ⟨0,k,0,rfl,(zp.start hpre),(by have hn0:=(hpre).1;omega),(Nat.le_refl _),(by omega),HD2,(Is.of ⟨kr,kr,kr,kr,kr,kr,kr,kr,trivial⟩)⟩ ?_;clear HD2;rintro _ _ w8 ⟨i,r,d,rfl,hR,hN,hcn,hd,H8,_,rfl⟩;by_cases hc3:(i:Nat)<n
  ·refine rS [.E (.bool (decide ((i:Int)<(n:Int)))) (.bool true) (za (decide_eq_true (by omega)))] H8 kr fun gs9 w9 H9=>?_;clear H8;refine zb kr<|zf kr kr<|zj kr<|wW<|zb kr<|zn 1 kr ?_;obtain ⟨l1,s1,k1,r1,b1,off1,C1,T1,fz1,p1,n1,c1,hr1,hp1,hb1,hh1,hs1,hx1,hz1,hk1,hR1,hN1⟩:=FoR.open hR hN (by omega);refine rS [.o (ins:=[((.tmp 10),.slice p n c),((.tmp 12),.int .i64 (i:Int))]) (v:=.pointer (some ⟨b1,off1+i*3,none⟩)) (fun ρ o w ho hi=>jj (kd:=.i64) (t:=81) (e:=83) (bytes:=48) kr (x:=(.tmp 10)) (y:=(.tmp 12)) b1 off1 n c i hp1 ho hi.1 hi.2.1 (by omega) w),.fp (off:=off1+i*3) (n:=3) (W:=#[.bool l1,.string s1,.slice p1 n1 c1]) hh1 hb1 hs1 hx1,.a,.s 0] H9 kr fun gs10 w10 H10=>?_;clear H9;have hcn1:=hcn;rw [hr1] at hcn1;simp only [Fo.cnt] at hcn1;refine rL [.v,.l 0,.cp (pre:=fun w=>zp w.heap.size w p1 n1 k1) (ih l1 s1 p1 n1 c1 k1 hz1 (by omega) (by omega)) [] (fun w hb hd=>(zp.call hk1 hb)),.E (.int .i64 (if (((dp1 l1 (dpF k1):Nat):Int):Int)>((d:Int):Int) then (((dp1 l1 (dpF k1):Nat):Int):Int) else ((d:Int):Int))) (.int .i64 ((max d (dp1 l1 (dpF k1)):Nat):Int)) (zd (zgL d (dp1 l1 (dpF k1)))),.v] H10 kr fun gs11 w11 H11=>?_;clear H10;refine wW<|zx [0,1,2,3,5,8,10,11,12,13] fun ρ1=>?_;have HK4:=H11.keep;clear H11;refine rL [.E (.int .i64 (IntKind.i64.wrap ((i:Int)+1))) (.int .i64 ((i+1:Nat):Int)) (zd (zs (a:=i) (b:=1) (by omega))),.v] HK4 kr fun gs12 w12 H12=>?_;clear HK4;have HL5:St w.heap.size w w12 [((gs10 2).b,Obj.cells #[.bool l1,.string s1,.slice p1 n1 c1] 83 (0,0))]:=H12.as kr;clear H12;have HD6:St w.heap.size w w12 []:=HL5.sub (List.Sublist.cons _ List.Sublist.slnil);show ∃m,_∧_;exact ⟨_,(by omega),(i+1),r1,(max d (dp1 l1 (dpF k1))),rfl,hR1,hN1,(by omega),(by rw [hd,hr1];simp only [dpF];omega),HD6,(Is.of ⟨kr,kr,kr,kr,kr,kr,kr,kr,trivial⟩)⟩
  ·refine rS [.E (.bool (decide ((i:Int)<(n:Int)))) (.bool false) (za (decide_eq_false (by omega)))] H8 kr fun gs13 w13 H13=>?_;clear H8;refine zb kr<|zi kr kr<|zN 0 kr<|wW<|rS [.v,.E (.int .i64 (IntKind.i64.wrap (1+(d:Int)))) (.int .i64 ((1+d:Nat):Int)) (zd (zs (a:=1) (b:=d) (by omega))),.v] H13 kr fun gs14 w14 H14=>?_;clear H13;refine zl kr<|wV ?_;refine ⟨[.int .i64 ((1+d:Nat):Int)],(.tmp (.int .i64 ((1+d:Nat):Int)) kr .nil),?_,H14.below⟩;refine zd ?_;rw [hq1,hd,FoR.done hN (by omega)];show ((1+d:Nat):Int)=((1+max d 0:Nat):Int);omega
theorem zbk (l:Bool)(s:ByteArray)(p:Option Addr)(n c:Nat)(k:Fo)(hs:s.size≤0x800000000000)(hk6:k.cnt≤1000000):FnP Tryz.prog 92 #[.agg #[.bool l,.string s,.slice p n c]] (fun w=>zp w.heap.size w p n k) (.int .i64 ((dp1 l (dpF k):Nat):Int)):=by
 have key: ∀(m:Nat) (l:Bool) (s:ByteArray) (p:Option Addr) (n c:Nat) (k:Fo),s.size≤0x800000000000→k.cnt≤1000000→k.cnt<m→FnP Tryz.prog 92 #[.agg #[.bool l,.string s,.slice p n c]] (fun w=>zp w.heap.size w p n k) (.int .i64 ((dp1 l (dpF k):Nat):Int)):=by
  intro m
  induction m with
  | zero=>intros;omega
  | succ m ih=>intro l s p n c k hs hk6 hkm;exact zhh m ih l s p n c k hs hk6 hkm
 exact key (k.cnt+1) l s p n c k hs hk6 (by omega)
theorem uu (s:ByteArray):Fn Tryz.prog 127 #[.string s] (.bool (zX s)):=by
 refine Fn.intro (c:=zk Tryz.f127) [.tmp 2] 11 Tryz.func127 kr kr kr fun w=>?_;have H0:=St.start w;refine rS [.v] H0 kr fun gs1 w1 H1=>?_;clear H0;refine zg [0,1,2,3,4,5,6,7,8] kr kr<|rp [.v,.v] H1 kr fun gs2 w2 H2=>wX [2,3,4,5,6,7,8] ?_;clear H1;by_cases hc1:(ByteArray.size s:Nat)=1
 ·refine rp [.E (.bool ((ByteArray.size s:Int)==1)) (.bool true) (za (beq_iff_eq.2 (by omega))),.v,.v,.o (ins:=[((.tmp 7),.string s),((.const (.int .i64 0)),.int .i64 0)]) (v:=.int .u8 ((by_ s 0:Nat):Int)) (fun ρ o w ho hi=>zO (t:=9) (kd:=.i64) kr (x:=(.tmp 7)) (y:=(.const (.int .i64 0))) s 0 ho hi.1 hi.2.1 (by omega) w)] H2 kr fun gs3 w3 H3=>wX [6,7,8] ?_;clear H2;by_cases hc2:(by_ s 0:Nat)<128
  ·refine rp [.E (.bool (decide (((by_ s 0:Nat):Int)<128))) (.bool true) (za (decide_eq_true (by omega))),.v,.v] H3 kr fun gs4 w4 H4=>wX [] ?_;clear H3;refine zc<|zl kr<|wV ?_;refine ⟨[.bool true],(.tmp (.bool true) kr .nil),?_,H4.below⟩;exact za (by unfold zX;simp [*])
  ·refine rp [.E (.bool (decide (((by_ s 0:Nat):Int)<128))) (.bool false) (za (decide_eq_false (by omega))),.v,.v] H3 kr fun gs5 w5 H5=>wX [] ?_;clear H3;refine zc<|zl kr<|wV ?_;refine ⟨[.bool false],(.tmp (.bool false) kr .nil),?_,H5.below⟩;exact za (by unfold zX;simp [*])
 ·refine rp [.E (.bool ((ByteArray.size s:Int)==1)) (.bool false) (za (beq_eq_false_iff_ne.2 (by omega))),.v,.n,.n,.n,.v,.v] H2 kr fun gs6 w6 H6=>wX [] ?_;clear H2;refine zc<|zl kr<|wV ?_;refine ⟨[.bool false],(.tmp (.bool false) kr .nil),?_,H6.below⟩;exact za (by unfold zX;simp [*])
theorem zhi (s:ByteArray)(hs:ByteArray.size s≤0x800000000000):Fn Tryz.prog 151 #[.string s,.int .u8 0] (.string (zh ((tl s).dropWhile (·==0)))):=by
 refine Fn.intro (c:=zk Tryz.f151) [.tmp 4] 17 Tryz.func151 kr kr kr fun w=>?_;have H0:=St.start w;refine rS [.v] H0 kr fun gs1 w1 H1=>?_;clear H0;refine zb kr<|zn 0 kr ?_;have HL1:St w.heap.size w w1 []:=H1.as kr;clear H1;refine zV kr (fun mz ρ ww=> ∃(t:ByteArray),ByteArray.size t=mz∧((tl t).dropWhile (·==0)=(tl s).dropWhile (·==0))∧(ByteArray.size t≤ByteArray.size s)∧St w.heap.size w ww []∧Is [(0,.string t),(1,.int .u8 0),(4,.string (⟨#[]⟩))] ρ) (ByteArray.size s) ⟨s,rfl,rfl,(Nat.le_refl _),HL1,(Is.of ⟨kr,kr,kr,trivial⟩)⟩ ?_;clear HL1;rintro _ _ w2 ⟨t,rfl,ht,htz,H2,_,rfl⟩;refine zb kr<|zg [0,1,2,3,4,5,6,7,8] kr kr<|rp [.v,.v] H2 kr fun gs3 w3 H3=>wX [2,3,4,5,6,7,8] ?_;clear H2;by_cases hc2:(ByteArray.size t:Nat)>0
 ·refine rp [.E (.bool (decide (0<(ByteArray.size t:Int)))) (.bool true) (za (decide_eq_true (by omega))),.v,.v,.o (ins:=[((.tmp 9),.string t),((.const (.int .i64 0)),.int .i64 0)]) (v:=.int .u8 ((by_ t 0:Nat):Int)) (fun ρ o w ho hi=>zO (t:=9) (kd:=.i64) kr (x:=(.tmp 9)) (y:=(.const (.int .i64 0))) t 0 ho hi.1 hi.2.1 (by omega) w),.v] H3 kr fun gs4 w4 H4=>wX [7,8] ?_;clear H3;by_cases hc3:(by_ t 0:Nat)=0
  ·refine rp [.E (.bool (((by_ t 0:Nat):Int)==0)) (.bool true) (za (beq_iff_eq.2 (by omega))),.v] H4 kr fun gs5 w5 H5=>wX [] ?_;clear H4;refine zc<|zf kr kr<|zj kr<|wW<|zn 1 kr<|rL [.v,.o (ins:=[((.tmp 14),.string t),((.const (.int .i64 1)),.int .i64 1)]) (v:=.string (ByteArray.extract t 1 (ByteArray.size t))) (fun ρ o w ho hi=>kq (t:=9) (kz:=.i64) kr (x:=(.tmp 14)) (z:=(.const (.int .i64 1))) t 1 ho hi.1 hi.2.1 (by omega) w),.v] H5 kr fun gs6 w6 H6=>?_;clear H5;have HL4:St w.heap.size w w6 []:=H6.as kr;clear H6;show ∃m,_∧_;exact ⟨_,(by rw [zdm t (by omega)];omega),(ByteArray.extract t 1 (ByteArray.size t)),rfl,(by rw [zg3 t (by omega) (by omega)];exact ht),(by rw [zdm t (by omega)];omega),HL4,(Is.of ⟨kr,kr,kr,trivial⟩)⟩
  ·refine rp [.E (.bool (((by_ t 0:Nat):Int)==0)) (.bool false) (za (beq_eq_false_iff_ne.2 (by omega))),.v] H4 kr fun gs7 w7 H7=>wX [] ?_;clear H4;refine zc<|zi kr kr<|zN 0 kr<|wW<|rS [.v,.v] H7 kr fun gs8 w8 H8=>?_;clear H7;refine zl kr<|wV ?_;refine ⟨[.string t],(.tmp (.string t) kr .nil),?_,H8.below⟩;have hdone:zh ((tl s).dropWhile (·==0))=t:=by rw [←ht];exact ut t (by omega)
   exact congrArg Value.string hdone.symm
 ·refine rp [.E (.bool (decide (0<(ByteArray.size t:Int)))) (.bool false) (za (decide_eq_false (by omega))),.v,.n,.n,.n,.n,.v] H3 kr fun gs9 w9 H9=>wX [] ?_;clear H3;refine zc<|zi kr kr<|zN 0 kr<|wW<|rS [.v,.v] H9 kr fun gs10 w10 H10=>?_;clear H9;refine zl kr<|wV ?_;refine ⟨[.string t],(.tmp (.string t) kr .nil),?_,H10.below⟩;have hdone:zh ((tl s).dropWhile (·==0))=t:=by rw [←ht];exact ut t (by omega)
  exact congrArg Value.string hdone.symm
theorem zhj (s:ByteArray)(hs:ByteArray.size s≤0x800000000000):Fn Tryz.prog 145 #[.string s,.string (⟨#[0]⟩)] (.string (zh ((tl s).dropWhile (·==0)))):=by
 refine Fn.intro (c:=zk Tryz.f145) [.tmp 4] 37 Tryz.func145 kr kr kr fun w=>?_;have H0:=St.start w;refine rS [.v] H0 kr fun gs1 w1 H1=>?_;clear H0;refine zb kr<|zg [0,1,2,3,4,5] kr kr<|rp [.v] H1 kr fun gs2 w2 H2=>wX [1,2,3,4,5] ?_;clear H1;by_cases hx1:s=⟨#[]⟩
 ·refine rp [.E (.bool (ByteArray.toList s==ByteArray.toList (⟨#[]⟩))) (.bool true) (za (zL s (⟨#[]⟩) hx1)),.v,.n,.n,.v] H2 kr fun gs3 w3 H3=>wX [] ?_;clear H2;refine zc<|zf kr kr<|rS [.v,.v] H3 kr fun gs4 w4 H4=>?_;clear H3;refine zl kr<|wV ?_;refine ⟨[.string s],(.tmp (.string s) kr .nil),?_,H4.below⟩;exact congrArg Value.string (zbh (by assumption)).symm
 ·refine rp [.E (.bool (ByteArray.toList s==ByteArray.toList (⟨#[]⟩))) (.bool false) (za (yA s (⟨#[]⟩) hx1)),.v,.v,.E (.bool (ByteArray.toList (⟨#[0]⟩)==ByteArray.toList (⟨#[]⟩))) (.bool false) (za (yA (⟨#[0]⟩) (⟨#[]⟩) (fun h=>absurd (congrArg ByteArray.size h) (by decide)))),.v] H2 kr fun gs5 w5 H5=>wX [] ?_;clear H2;refine zc<|zi kr kr<|zj kr<|wW<|zb kr<|rS [.v,.v,.v,.v,.v,.oe (ins:=[((.tmp 18),.string (⟨#[0]⟩)),((.const (.int .i64 0)),.int .i64 0)]) (v:=.int .u8 ((by_ (⟨#[0]⟩) 0:Nat):Int)) (v':=.int .u8 0) (fun ρ o w ho hi=>zO (t:=9) (kd:=.i64) kr (x:=(.tmp 18)) (y:=(.const (.int .i64 0))) (⟨#[0]⟩) 0 ho hi.1 hi.2.1 (by decide) w) (zd (by decide)),.v,.v] H5 kr fun gs6 w6 H6=>?_;clear H5;refine zf kr kr<|rS [.v,.v,.oe (ins:=[((.tmp 23),.string (⟨#[0]⟩)),((.const (.int .i64 0)),.int .i64 0)]) (v:=.int .u8 ((by_ (⟨#[0]⟩) 0:Nat):Int)) (v':=.int .u8 0) (fun ρ o w ho hi=>zO (t:=9) (kd:=.i64) kr (x:=(.tmp 23)) (y:=(.const (.int .i64 0))) (⟨#[0]⟩) 0 ho hi.1 hi.2.1 (by decide) w) (zd (by decide)),.c (zhi s (by omega)),.v] H6 kr fun gs7 w7 H7=>?_;clear H6;refine zl kr<|wV ?_;refine ⟨[.string (zh ((tl s).dropWhile (·==0)))],(.tmp (.string (zh ((tl s).dropWhile (·==0)))) kr .nil),?_,H7.below⟩;rfl
theorem zbl (n:Nat)(hn:n<0x10000000000000000):Fn Tryz.prog 131 #[.int .u64 (n:Int)] (.string (zh (dg n))):=by
 refine Fn.intro (c:=zk Tryz.f131) [.tmp 2] 20 Tryz.func131 kr kr kr fun w=>?_;have H0:=St.start w;refine rS [.v] H0 kr fun gs1 w1 H1=>?_;clear H0;refine rS [.a] H1 kr fun gs2 w2 H2=>?_;clear H1;refine zb kr<|rS [.v] H2 kr fun gs3 w3 H3=>?_;clear H2;refine zn 0 kr ?_;have HL1:St w.heap.size w w3 [((gs2 0).b,Obj.cells #[.int .u8 0,.int .u8 0,.int .u8 0,.int .u8 0,.int .u8 0,.int .u8 0,.int .u8 0,.int .u8 0] 176 (0,0))]:=H3.as kr;clear H3;refine zcK kr<|rS [.v] HL1 kr fun gs4 w4 H4=>?_;clear HL1;refine zb kr<|zf kr kr<|zj kr<|wW<|zb kr<|zn 1 kr<|rS [.v,.v] H4 kr fun gs5 w5 H5=>?_;clear H4;refine rL [.v,.v,.v,.v,.v,.E (.int .u64 (Int.fdiv ((n:Int)) (2^0))) (.int .u64 (n:Int)) (zd (zg2 (a:=n) (by omega))),.E (.int .u8 (IntKind.u8.wrap ((n:Int)))) (.int .u8 (BitVec.toNat (dgB n 1):Int)) (zg5 n),.v,.s 0] H5 kr fun gs6 w6 H6=>?_;clear H5;refine wW ?_;have HL2:St w.heap.size w w6 [((gs2 0).b,Obj.cells #[.int .u8 0,.int .u8 0,.int .u8 0,.int .u8 0,.int .u8 0,.int .u8 0,.int .u8 0,.int .u8 (BitVec.toNat (dgB n 1):Int)] 176 (0,0))]:=H6.as kr;clear H6;refine rL [.v,.v] HL2 kr fun gs7 w7 H7=>?_;clear HL2;show WPL _ _ _ _ _ _;refine yF<|zx [0,2,3,4,5,6] fun ρ1=>?_;have HK3:=H7.keep;clear H7;refine rS [.v] HK3 kr fun gs8 w8 H8=>?_;clear HK3;refine zb kr<|zf kr kr<|zj kr<|wW<|zb kr<|zn 1 kr<|rS [.v,.v] H8 kr fun gs9 w9 H9=>?_;clear H8;refine rL [.v,.v,.v,.v,.v,.E (.int .u64 (Int.fdiv (n:Int) (2^8))) (.int .u64 ((n / 256:Nat):Int)) (zd (xR (k:=8) n 256 rfl)),.E (.int .u8 (IntKind.u8.wrap (((n / 256:Nat):Int)))) (.int .u8 (BitVec.toNat (dgB n 256):Int)) (xx n 256),.v,.s 0] H9 kr fun gs10 w10 H10=>?_;clear H9;refine wW ?_;have HL4:St w.heap.size w w10 [((gs2 0).b,Obj.cells #[.int .u8 0,.int .u8 0,.int .u8 0,.int .u8 0,.int .u8 0,.int .u8 0,.int .u8 (BitVec.toNat (dgB n 256):Int),.int .u8 (BitVec.toNat (dgB n 1):Int)] 176 (0,0))]:=H10.as kr;clear H10;refine rL [.v,.v] HL4 kr fun gs11 w11 H11=>?_;clear HL4;show WPL _ _ _ _ _ _;refine yF<|rS [.v] H11 kr fun gs12 w12 H12=>?_;clear H11;refine zb kr<|zf kr kr<|zj kr<|wW<|zb kr<|zn 1 kr<|rS [.v,.v] H12 kr fun gs13 w13 H13=>?_;clear H12;refine zx [0,2,3,4,5,6] fun ρ2=>?_;have HK5:=H13.keep;clear H13;refine rL [.v,.v,.v,.v,.v,.E (.int .u64 (Int.fdiv (n:Int) (2^16))) (.int .u64 ((n / 65536:Nat):Int)) (zd (xR (k:=16) n 65536 rfl)),.E (.int .u8 (IntKind.u8.wrap (((n / 65536:Nat):Int)))) (.int .u8 (BitVec.toNat (dgB n 65536):Int)) (xx n 65536),.v,.s 0] HK5 kr fun gs14 w14 H14=>?_;clear HK5;refine wW ?_;have HL6:St w.heap.size w w14 [((gs2 0).b,Obj.cells #[.int .u8 0,.int .u8 0,.int .u8 0,.int .u8 0,.int .u8 0,.int .u8 (BitVec.toNat (dgB n 65536):Int),.int .u8 (BitVec.toNat (dgB n 256):Int),.int .u8 (BitVec.toNat (dgB n 1):Int)] 176 (0,0))]:=H14.as kr;clear H14;refine rL [.v,.v] HL6 kr fun gs15 w15 H15=>?_;clear HL6;show WPL _ _ _ _ _ _;refine yF<|rS [.v] H15 kr fun gs16 w16 H16=>?_;clear H15;refine zb kr<|zf kr kr<|zj kr<|wW<|zb kr<|zn 1 kr<|rS [.v,.v] H16 kr fun gs17 w17 H17=>?_;clear H16;refine rL [.v,.v,.v,.v,.v,.E (.int .u64 (Int.fdiv (n:Int) (2^24))) (.int .u64 ((n / 16777216:Nat):Int)) (zd (xR (k:=24) n 16777216 rfl)),.E (.int .u8 (IntKind.u8.wrap (((n / 16777216:Nat):Int)))) (.int .u8 (BitVec.toNat (dgB n 16777216):Int)) (xx n 16777216),.v,.s 0] H17 kr fun gs18 w18 H18=>?_;clear H17;refine wW<|zx [0,2,3,4,5,6] fun ρ3=>?_;have HK7:=H18.keep;clear H18;have HL8:St w.heap.size w w18 [((gs2 0).b,Obj.cells #[.int .u8 0,.int .u8 0,.int .u8 0,.int .u8 0,.int .u8 (BitVec.toNat (dgB n 16777216):Int),.int .u8 (BitVec.toNat (dgB n 65536):Int),.int .u8 (BitVec.toNat (dgB n 256):Int),.int .u8 (BitVec.toNat (dgB n 1):Int)] 176 (0,0))]:=HK7.as kr;clear HK7;refine rL [.v,.v] HL8 kr fun gs19 w19 H19=>?_;clear HL8;show WPL _ _ _ _ _ _;refine yF<|rS [.v] H19 kr fun gs20 w20 H20=>?_;clear H19;refine zb kr<|zf kr kr<|zj kr<|wW<|zb kr<|zn 1 kr<|rS [.v,.v] H20 kr fun gs21 w21 H21=>?_;clear H20;refine rL [.v,.v,.v,.v,.v,.E (.int .u64 (Int.fdiv (n:Int) (2^32))) (.int .u64 ((n / 4294967296:Nat):Int)) (zd (xR (k:=32) n 4294967296 rfl)),.E (.int .u8 (IntKind.u8.wrap (((n / 4294967296:Nat):Int)))) (.int .u8 (BitVec.toNat (dgB n 4294967296):Int)) (xx n 4294967296),.v,.s 0] H21 kr fun gs22 w22 H22=>?_;clear H21;refine wW ?_;have HL9:St w.heap.size w w22 [((gs2 0).b,Obj.cells #[.int .u8 0,.int .u8 0,.int .u8 0,.int .u8 (BitVec.toNat (dgB n 4294967296):Int),.int .u8 (BitVec.toNat (dgB n 16777216):Int),.int .u8 (BitVec.toNat (dgB n 65536):Int),.int .u8 (BitVec.toNat (dgB n 256):Int),.int .u8 (BitVec.toNat (dgB n 1):Int)] 176 (0,0))]:=H22.as kr;clear H22;refine rL [.v,.v] HL9 kr fun gs23 w23 H23=>?_;clear HL9;show WPL _ _ _ _ _ _;refine yF<|rS [.v] H23 kr fun gs24 w24 H24=>?_;clear H23;refine zx [0,2,3,4,5,6] fun ρ4=>?_;have HK10:=H24.keep;clear H24;refine zb kr<|zf kr kr<|zj kr<|wW<|zb kr<|zn 1 kr<|rS [.v,.v] HK10 kr fun gs25 w25 H25=>?_;clear HK10;refine rL [.v,.v,.v,.v,.v,.E (.int .u64 (Int.fdiv (n:Int) (2^40))) (.int .u64 ((n / 1099511627776:Nat):Int)) (zd (xR (k:=40) n 1099511627776 rfl)),.E (.int .u8 (IntKind.u8.wrap (((n / 1099511627776:Nat):Int)))) (.int .u8 (BitVec.toNat (dgB n 1099511627776):Int)) (xx n 1099511627776),.v,.s 0] H25 kr fun gs26 w26 H26=>?_;clear H25;refine wW ?_;have HL11:St w.heap.size w w26 [((gs2 0).b,Obj.cells #[.int .u8 0,.int .u8 0,.int .u8 (BitVec.toNat (dgB n 1099511627776):Int),.int .u8 (BitVec.toNat (dgB n 4294967296):Int),.int .u8 (BitVec.toNat (dgB n 16777216):Int),.int .u8 (BitVec.toNat (dgB n 65536):Int),.int .u8 (BitVec.toNat (dgB n 256):Int),.int .u8 (BitVec.toNat (dgB n 1):Int)] 176 (0,0))]:=H26.as kr;clear H26;refine rL [.v,.v] HL11 kr fun gs27 w27 H27=>?_;clear HL11;show WPL _ _ _ _ _ _;refine yF<|rS [.v] H27 kr fun gs28 w28 H28=>?_;clear H27;refine zb kr<|zf kr kr<|zj kr<|wW<|zb kr<|zn 1 kr<|rS [.v,.v] H28 kr fun gs29 w29 H29=>?_;clear H28;refine rL [.v,.v,.v,.v,.v,.E (.int .u64 (Int.fdiv (n:Int) (2^48))) (.int .u64 ((n / 281474976710656:Nat):Int)) (zd (xR (k:=48) n 281474976710656 rfl)),.E (.int .u8 (IntKind.u8.wrap (((n / 281474976710656:Nat):Int)))) (.int .u8 (BitVec.toNat (dgB n 281474976710656):Int)) (xx n 281474976710656),.v,.s 0] H29 kr fun gs30 w30 H30=>?_;clear H29;refine wW<|zx [0,2,3,4,5,6] fun ρ5=>?_;have HK12:=H30.keep;clear H30;have HL13:St w.heap.size w w30 [((gs2 0).b,Obj.cells #[.int .u8 0,.int .u8 (BitVec.toNat (dgB n 281474976710656):Int),.int .u8 (BitVec.toNat (dgB n 1099511627776):Int),.int .u8 (BitVec.toNat (dgB n 4294967296):Int),.int .u8 (BitVec.toNat (dgB n 16777216):Int),.int .u8 (BitVec.toNat (dgB n 65536):Int),.int .u8 (BitVec.toNat (dgB n 256):Int),.int .u8 (BitVec.toNat (dgB n 1):Int)] 176 (0,0))]:=HK12.as kr;clear HK12;refine rL [.v,.v] HL13 kr fun gs31 w31 H31=>?_;clear HL13;show WPL _ _ _ _ _ _;refine yF<|rS [.v] H31 kr fun gs32 w32 H32=>?_;clear H31;refine zb kr<|zf kr kr<|zj kr<|wW<|zb kr<|zn 1 kr<|rS [.v,.v] H32 kr fun gs33 w33 H33=>?_;clear H32;refine rL [.v,.v,.v,.v,.v,.E (.int .u64 (Int.fdiv (n:Int) (2^56))) (.int .u64 ((n / 72057594037927936:Nat):Int)) (zd (xR (k:=56) n 72057594037927936 rfl)),.E (.int .u8 (IntKind.u8.wrap (((n / 72057594037927936:Nat):Int)))) (.int .u8 (BitVec.toNat (dgB n 72057594037927936):Int)) (xx n 72057594037927936),.v,.s 0] H33 kr fun gs34 w34 H34=>?_;clear H33;refine wW ?_;have HL14:St w.heap.size w w34 [((gs2 0).b,Obj.cells #[.int .u8 (BitVec.toNat (dgB n 72057594037927936):Int),.int .u8 (BitVec.toNat (dgB n 281474976710656):Int),.int .u8 (BitVec.toNat (dgB n 1099511627776):Int),.int .u8 (BitVec.toNat (dgB n 4294967296):Int),.int .u8 (BitVec.toNat (dgB n 16777216):Int),.int .u8 (BitVec.toNat (dgB n 65536):Int),.int .u8 (BitVec.toNat (dgB n 256):Int),.int .u8 (BitVec.toNat (dgB n 1):Int)] 176 (0,0))]:=H34.as kr;clear H34;refine rL [.v,.v] HL14 kr fun gs35 w35 H35=>?_;clear HL14;show WPL _ _ _ _ _ _;refine yF<|rS [.v] H35 kr fun gs36 w36 H36=>?_;clear H35;refine zx [0,2,3,4,5,6] fun ρ6=>?_;have HK15:=H36.keep;clear H36;refine zb kr<|zi kr kr<|zN 0 kr<|wW ?_;have HL16:St w.heap.size w w36 [((gs2 0).b,Obj.cells #[.int .u8 (BitVec.toNat (dgB n 72057594037927936):Int),.int .u8 (BitVec.toNat (dgB n 281474976710656):Int),.int .u8 (BitVec.toNat (dgB n 1099511627776):Int),.int .u8 (BitVec.toNat (dgB n 4294967296):Int),.int .u8 (BitVec.toNat (dgB n 16777216):Int),.int .u8 (BitVec.toNat (dgB n 65536):Int),.int .u8 (BitVec.toNat (dgB n 256):Int),.int .u8 (BitVec.toNat (dgB n 1):Int)] 176 (0,0))]:=HK15.as kr;clear HK15;have hz_1: ∀(ρ:Env) (o:Oper) (w:World),o.op=.slice 176 (.tmp 3) none none none→Ins (ev ρ) [((.tmp 3),.pointer (some ⟨(gs2 0).b,0,none⟩))]→(execOp (ev ρ) o).run Tryz.prog w=.ok (.value (.slice (some ⟨(gs2 0).b,0,none⟩) 8 8)) w:=(fun ρ o w ho hi=>zgN (t:=176) (n:=8) (e:=5) (z:=1) kr kr (x:=(.tmp 3)) ((gs2 0).b) ho hi.1 w)
 refine rS [.o hz_1,.x (op:=.convert 76 9 (.tmp 17)) (ins:=[((.tmp 17),.slice (some ⟨(gs2 0).b,0,none⟩) 8 8)]) [(0,((gs2 0).b,Obj.cells #[.int .u8 (BitVec.toNat (dgB n 72057594037927936):Int),.int .u8 (BitVec.toNat (dgB n 281474976710656):Int),.int .u8 (BitVec.toNat (dgB n 1099511627776):Int),.int .u8 (BitVec.toNat (dgB n 4294967296):Int),.int .u8 (BitVec.toNat (dgB n 16777216):Int),.int .u8 (BitVec.toNat (dgB n 65536):Int),.int .u8 (BitVec.toNat (dgB n 256):Int),.int .u8 (BitVec.toNat (dgB n 1):Int)] 176 (0,0)))] (jG (t:=76) (t':=9) (e:=5) [(BitVec.toNat (dgB n 72057594037927936):Int),(BitVec.toNat (dgB n 281474976710656):Int),(BitVec.toNat (dgB n 1099511627776):Int),(BitVec.toNat (dgB n 4294967296):Int),(BitVec.toNat (dgB n 16777216):Int),(BitVec.toNat (dgB n 65536):Int),(BitVec.toNat (dgB n 256):Int),(BitVec.toNat (dgB n 1):Int)] kr kr kr (Rw.lit #[.int .u8 (BitVec.toNat (dgB n 72057594037927936):Int),.int .u8 (BitVec.toNat (dgB n 281474976710656):Int),.int .u8 (BitVec.toNat (dgB n 1099511627776):Int),.int .u8 (BitVec.toNat (dgB n 4294967296):Int),.int .u8 (BitVec.toNat (dgB n 16777216):Int),.int .u8 (BitVec.toNat (dgB n 65536):Int),.int .u8 (BitVec.toNat (dgB n 256):Int),.int .u8 (BitVec.toNat (dgB n 1):Int)] 8 (by rfl) (by unfold maxLen;omega))),.c (zhj (strOfNums ([(BitVec.toNat (dgB n 72057594037927936):Int),(BitVec.toNat (dgB n 281474976710656):Int),(BitVec.toNat (dgB n 1099511627776):Int),(BitVec.toNat (dgB n 4294967296):Int),(BitVec.toNat (dgB n 16777216):Int),(BitVec.toNat (dgB n 65536):Int),(BitVec.toNat (dgB n 256):Int),(BitVec.toNat (dgB n 1):Int)])) (by rw [strOfNums_size];show 8≤0x800000000000;omega)),.v] HL16 kr fun gs37 w37 H37=>?_;clear HL16;refine zl kr<|wV ?_;refine ⟨[.string (zh ((tl (strOfNums ([(BitVec.toNat (dgB n 72057594037927936):Int),(BitVec.toNat (dgB n 281474976710656):Int),(BitVec.toNat (dgB n 1099511627776):Int),(BitVec.toNat (dgB n 4294967296):Int),(BitVec.toNat (dgB n 16777216):Int),(BitVec.toNat (dgB n 65536):Int),(BitVec.toNat (dgB n 256):Int),(BitVec.toNat (dgB n 1):Int)]))).dropWhile (·==0)))],(.tmp (.string (zh ((tl (strOfNums ([(BitVec.toNat (dgB n 72057594037927936):Int),(BitVec.toNat (dgB n 281474976710656):Int),(BitVec.toNat (dgB n 1099511627776):Int),(BitVec.toNat (dgB n 4294967296):Int),(BitVec.toNat (dgB n 16777216):Int),(BitVec.toNat (dgB n 65536):Int),(BitVec.toNat (dgB n 256):Int),(BitVec.toNat (dgB n 1):Int)]))).dropWhile (·==0)))) kr .nil),?_,H37.below⟩;exact congrArg Value.string (congrArg zh (zg8 n hn))
theorem zdr (l:Bool)(s:ByteArray)(p:Option Addr)(n c m:Nat)(hm:m<0x10000000000000000):Fn Tryz.prog 129 #[.agg #[.bool l,.string s,.slice p n c],.int .u64 (m:Int)] (.string (zh (hd (frm l) m))):=by
 refine Fn.intro (c:=zk Tryz.f129) [.tmp 4] 29 Tryz.func129 kr kr kr fun w=>?_;have H0:=St.start w;refine rS [.b,.v] H0 kr fun gs1 w1 H1=>?_;clear H0;refine rS [.v] H1 kr fun gs2 w2 H2=>?_;clear H1;refine zb kr<|rS [.v,.l 0] H2 kr fun gs3 w3 H3=>?_;clear H2;refine Or.elim (Bool.eq_false_or_eq_true (l)).symm (fun hq1=>?_) (fun hq1=>?_)
 ·refine yl 8 (v:=.bool l) (v':=.bool false) (za hq1) kr<|zi kr kr<|zj kr<|wW<|zb kr<|zg [0,1] kr kr<|rp [.v] H3 kr fun gs4 w4 H4=>wX [1] ?_;clear H3;by_cases hc1:(m:Nat)≤55
  ·refine rp [.E (.bool (decide ((m:Int)≤55))) (.bool true) (za (decide_eq_true (by omega)))] H4 kr fun gs5 w5 H5=>wX [] ?_;clear H4;refine zc<|zf kr kr<|rS [.v,.v,.E (.int .u8 (IntKind.u8.wrap ((m:Int)))) (.int .u8 (BitVec.toNat (BitVec.ofNat 8 m):Int)) (xu m),.E (.int .u8 (IntKind.u8.wrap ((128)+((BitVec.toNat (BitVec.ofNat 8 m):Int))))) (.int .u8 (BitVec.toNat ((128:BitVec 8)+(BitVec.ofNat 8 m)):Int)) (uo (128:BitVec 8) (BitVec.ofNat 8 m)),.nw (fun b=>.slice (some ⟨b,0,none⟩) 1 1) #[.int .u8 (BitVec.toNat ((128:BitVec 8)+(BitVec.ofNat 8 m)):Int)] 5,.w fun nn=>.x (op:=.convert 76 9 (.tmp 15)) (ins:=[((.tmp 15),.slice (some ⟨(nn 1),0,none⟩) 1 1)]) [(1,((nn 1),Obj.cells #[.int .u8 (BitVec.toNat ((128:BitVec 8)+(BitVec.ofNat 8 m)):Int)] 5 (0,0)))] (jG (t:=76) (t':=9) (e:=5) [(BitVec.toNat ((128:BitVec 8)+(BitVec.ofNat 8 m)):Int)] kr kr kr (Rw.lit #[.int .u8 (BitVec.toNat ((128:BitVec 8)+(BitVec.ofNat 8 m)):Int)] 1 (by rfl) (by unfold maxLen;omega))),.v] H5 kr fun gs6 w6 H6=>?_;clear H5;refine zl kr<|wV ?_;refine ⟨[.string (strOfNums ([(BitVec.toNat ((128:BitVec 8)+(BitVec.ofNat 8 m)):Int)]))],(.tmp (.string (strOfNums ([(BitVec.toNat ((128:BitVec 8)+(BitVec.ofNat 8 m)):Int)]))) kr .nil),?_,H6.below⟩;exact congrArg Value.string (zdk (f:=frm l) _ (by rw [hq1];rfl) m (by omega) (by rw [hq1];decide))
  ·refine rp [.E (.bool (decide ((m:Int)≤55))) (.bool false) (za (decide_eq_false (by omega)))] H4 kr fun gs7 w7 H7=>wX [] ?_;clear H4;refine zc<|zi kr kr<|zj kr<|wW<|rS [.v,.c (zbl m (by omega)),.v] H7 kr fun gs8 w8 H8=>?_;clear H7;refine rS [.v,.v,.v,.v,.E (.int .u8 (IntKind.u8.wrap ((ByteArray.size (zh (dg m)):Int)))) (.int .u8 (BitVec.toNat (BitVec.ofNat 8 (ByteArray.size (zh (dg m)))):Int)) (xu (ByteArray.size (zh (dg m)))),.E (.int .u8 (IntKind.u8.wrap ((183)+((BitVec.toNat (BitVec.ofNat 8 (ByteArray.size (zh (dg m)))):Int))))) (.int .u8 (BitVec.toNat ((183:BitVec 8)+(BitVec.ofNat 8 (ByteArray.size (zh (dg m))))):Int)) (uo (183:BitVec 8) (BitVec.ofNat 8 (ByteArray.size (zh (dg m))))),.nw (fun b=>.slice (some ⟨b,0,none⟩) 1 1) #[.int .u8 (BitVec.toNat ((183:BitVec 8)+(BitVec.ofNat 8 (ByteArray.size (zh (dg m))))):Int)] 5,.w fun nn=>.x (op:=.convert 76 9 (.tmp 25)) (ins:=[((.tmp 25),.slice (some ⟨(nn 1),0,none⟩) 1 1)]) [(1,((nn 1),Obj.cells #[.int .u8 (BitVec.toNat ((183:BitVec 8)+(BitVec.ofNat 8 (ByteArray.size (zh (dg m))))):Int)] 5 (0,0)))] (jG (t:=76) (t':=9) (e:=5) [(BitVec.toNat ((183:BitVec 8)+(BitVec.ofNat 8 (ByteArray.size (zh (dg m))))):Int)] kr kr kr (Rw.lit #[.int .u8 (BitVec.toNat ((183:BitVec 8)+(BitVec.ofNat 8 (ByteArray.size (zh (dg m))))):Int)] 1 (by rfl) (by unfold maxLen;omega))),.v,.o (ins:=[((.tmp 26),.string (strOfNums ([(BitVec.toNat ((183:BitVec 8)+(BitVec.ofNat 8 (ByteArray.size (zh (dg m))))):Int)]))),((.tmp 27),.string (zh (dg m)))]) (v:=.string ((strOfNums ([(BitVec.toNat ((183:BitVec 8)+(BitVec.ofNat 8 (ByteArray.size (zh (dg m))))):Int)]))++(zh (dg m)))) (fun ρ o w ho hi=>ji (t:=9) (t':=9) (x:=(.tmp 26)) (y:=(.tmp 27)) (strOfNums ([(BitVec.toNat ((183:BitVec 8)+(BitVec.ofNat 8 (ByteArray.size (zh (dg m))))):Int)])) (zh (dg m)) w ho hi.1 hi.2.1 (by rw [strOfNums_size,qh];have:=qj m;show 1+_≤_;omega)),.v] H8 kr fun gs9 w9 H9=>?_;clear H8;refine zl kr<|wV ?_;refine ⟨[.string ((strOfNums ([(BitVec.toNat ((183:BitVec 8)+(BitVec.ofNat 8 (ByteArray.size (zh (dg m))))):Int)]))++(zh (dg m)))],(.tmp (.string ((strOfNums ([(BitVec.toNat ((183:BitVec 8)+(BitVec.ofNat 8 (ByteArray.size (zh (dg m))))):Int)]))++(zh (dg m)))) kr .nil),?_,H9.below⟩;exact congrArg Value.string (zdl (f:=frm l) _ (by rw [hq1];rfl) m (by omega) (by rw [hq1];decide))
 ·refine yl 8 (v:=.bool l) (v':=.bool true) (za hq1) kr<|zf kr kr<|rL [.v] H3 kr fun gs10 w10 H10=>?_;clear H3;refine wW<|zb kr<|zg [0,1] kr kr<|rp [.v] H10 kr fun gs11 w11 H11=>wX [1] ?_;clear H10;by_cases hc2:(m:Nat)≤55
  ·refine rp [.E (.bool (decide ((m:Int)≤55))) (.bool true) (za (decide_eq_true (by omega)))] H11 kr fun gs12 w12 H12=>wX [] ?_;clear H11;refine zc<|zf kr kr<|rS [.v,.v,.E (.int .u8 (IntKind.u8.wrap ((m:Int)))) (.int .u8 (BitVec.toNat (BitVec.ofNat 8 m):Int)) (xu m),.E (.int .u8 (IntKind.u8.wrap ((192)+((BitVec.toNat (BitVec.ofNat 8 m):Int))))) (.int .u8 (BitVec.toNat ((192:BitVec 8)+(BitVec.ofNat 8 m)):Int)) (uo (192:BitVec 8) (BitVec.ofNat 8 m)),.nw (fun b=>.slice (some ⟨b,0,none⟩) 1 1) #[.int .u8 (BitVec.toNat ((192:BitVec 8)+(BitVec.ofNat 8 m)):Int)] 5,.w fun nn=>.x (op:=.convert 76 9 (.tmp 15)) (ins:=[((.tmp 15),.slice (some ⟨(nn 1),0,none⟩) 1 1)]) [(1,((nn 1),Obj.cells #[.int .u8 (BitVec.toNat ((192:BitVec 8)+(BitVec.ofNat 8 m)):Int)] 5 (0,0)))] (jG (t:=76) (t':=9) (e:=5) [(BitVec.toNat ((192:BitVec 8)+(BitVec.ofNat 8 m)):Int)] kr kr kr (Rw.lit #[.int .u8 (BitVec.toNat ((192:BitVec 8)+(BitVec.ofNat 8 m)):Int)] 1 (by rfl) (by unfold maxLen;omega))),.v] H12 kr fun gs13 w13 H13=>?_;clear H12;refine zl kr<|wV ?_;refine ⟨[.string (strOfNums ([(BitVec.toNat ((192:BitVec 8)+(BitVec.ofNat 8 m)):Int)]))],(.tmp (.string (strOfNums ([(BitVec.toNat ((192:BitVec 8)+(BitVec.ofNat 8 m)):Int)]))) kr .nil),?_,H13.below⟩;exact congrArg Value.string (zdk (f:=frm l) _ (by rw [hq1];rfl) m (by omega) (by rw [hq1];decide))
  ·refine rp [.E (.bool (decide ((m:Int)≤55))) (.bool false) (za (decide_eq_false (by omega)))] H11 kr fun gs14 w14 H14=>wX [] ?_;clear H11;refine zc<|zi kr kr<|zj kr<|wW<|rS [.v,.c (zbl m (by omega)),.v] H14 kr fun gs15 w15 H15=>?_;clear H14;refine rS [.v,.v,.v,.v,.E (.int .u8 (IntKind.u8.wrap ((ByteArray.size (zh (dg m)):Int)))) (.int .u8 (BitVec.toNat (BitVec.ofNat 8 (ByteArray.size (zh (dg m)))):Int)) (xu (ByteArray.size (zh (dg m)))),.E (.int .u8 (IntKind.u8.wrap ((247)+((BitVec.toNat (BitVec.ofNat 8 (ByteArray.size (zh (dg m)))):Int))))) (.int .u8 (BitVec.toNat ((247:BitVec 8)+(BitVec.ofNat 8 (ByteArray.size (zh (dg m))))):Int)) (uo (247:BitVec 8) (BitVec.ofNat 8 (ByteArray.size (zh (dg m))))),.nw (fun b=>.slice (some ⟨b,0,none⟩) 1 1) #[.int .u8 (BitVec.toNat ((247:BitVec 8)+(BitVec.ofNat 8 (ByteArray.size (zh (dg m))))):Int)] 5,.w fun nn=>.x (op:=.convert 76 9 (.tmp 25)) (ins:=[((.tmp 25),.slice (some ⟨(nn 1),0,none⟩) 1 1)]) [(1,((nn 1),Obj.cells #[.int .u8 (BitVec.toNat ((247:BitVec 8)+(BitVec.ofNat 8 (ByteArray.size (zh (dg m))))):Int)] 5 (0,0)))] (jG (t:=76) (t':=9) (e:=5) [(BitVec.toNat ((247:BitVec 8)+(BitVec.ofNat 8 (ByteArray.size (zh (dg m))))):Int)] kr kr kr (Rw.lit #[.int .u8 (BitVec.toNat ((247:BitVec 8)+(BitVec.ofNat 8 (ByteArray.size (zh (dg m))))):Int)] 1 (by rfl) (by unfold maxLen;omega))),.v,.o (ins:=[((.tmp 26),.string (strOfNums ([(BitVec.toNat ((247:BitVec 8)+(BitVec.ofNat 8 (ByteArray.size (zh (dg m))))):Int)]))),((.tmp 27),.string (zh (dg m)))]) (v:=.string ((strOfNums ([(BitVec.toNat ((247:BitVec 8)+(BitVec.ofNat 8 (ByteArray.size (zh (dg m))))):Int)]))++(zh (dg m)))) (fun ρ o w ho hi=>ji (t:=9) (t':=9) (x:=(.tmp 26)) (y:=(.tmp 27)) (strOfNums ([(BitVec.toNat ((247:BitVec 8)+(BitVec.ofNat 8 (ByteArray.size (zh (dg m))))):Int)])) (zh (dg m)) w ho hi.1 hi.2.1 (by rw [strOfNums_size,qh];have:=qj m;show 1+_≤_;omega)),.v] H15 kr fun gs16 w16 H16=>?_;clear H15;refine zl kr<|wV ?_;refine ⟨[.string ((strOfNums ([(BitVec.toNat ((247:BitVec 8)+(BitVec.ofNat 8 (ByteArray.size (zh (dg m))))):Int)]))++(zh (dg m)))],(.tmp (.string ((strOfNums ([(BitVec.toNat ((247:BitVec 8)+(BitVec.ofNat 8 (ByteArray.size (zh (dg m))))):Int)]))++(zh (dg m)))) kr .nil),?_,H16.below⟩;exact congrArg Value.string (zdl (f:=frm l) _ (by rw [hq1];rfl) m (by omega) (by rw [hq1];decide))
theorem zds (m:Nat)(ih: ∀(l:Bool) (s:ByteArray) (p:Option Addr) (n c:Nat) (k:Fo),s.size≤0x800000000000→s.size+wtF k≤0x4000000000000000→k.cnt<m→FnP Tryz.prog 102 #[.agg #[.bool l,.string s,.slice p n c]] (fun w=>zp w.heap.size w p n k) (.int .u64 ((sz1 l s (szF k):Nat):Int)))(l:Bool)(s:ByteArray)(p:Option Addr)(n c:Nat)(k:Fo)(hs:s.size≤0x800000000000)(hw:s.size+wtF k≤0x4000000000000000)(hkm:k.cnt<m+1):FnP Tryz.prog 128 #[.agg #[.bool l,.string s,.slice p n c]] (fun w=>zp w.heap.size w p n k) (.int .u64 ((ByteArray.size s+szF k:Nat):Int)):=by
 refine FnP.intro (c:=zk Tryz.f128) [.tmp 2] 23 Tryz.func128 kr kr kr fun w hpre=>?_;have H0:=St.start w;have hn:=hpre.1;have hnm:=hpre.2.1;refine rS [.b,.v] H0 kr fun gs1 w1 H1=>?_;clear H0;refine rS [.v,.l 0,.v,.E (.int .u64 (IntKind.u64.wrap ((ByteArray.size s:Int)))) (.int .u64 (ByteArray.size s:Int)) (zd (yr (a:=ByteArray.size s) (by omega))),.v] H1 kr fun gs2 w2 H2=>?_;clear H1;refine zb kr<|rS [.v,.l 0,.v,.v] H2 kr fun gs3 w3 H3=>?_;clear H2;refine zn 0 kr ?_;have HL1:St w.heap.size w w3 [((gs1 0).b,Obj.cells #[.bool l,.string s,.slice p n c] 83 (0,0))]:=H3.as kr;clear H3;have HD2:St w.heap.size w w3 []:=HL1.sub (List.Sublist.cons _ List.Sublist.slnil);refine zV kr (fun mz ρ ww=> ∃(i:Nat) (r:Fo) (a:Nat),n-i=mz∧(FoR w.heap.size w p i r)∧(i+Fo.len r=n)∧(Fo.cnt r≤Fo.cnt k)∧(a+wtF r≤0x4000000000000000)∧(s.size+szF k=a+szF r)∧St w.heap.size w ww []∧Is [(0,.agg #[.bool l,.string s,.slice p n c]),(1,.pointer (some ⟨(gs1 0).b,0,none⟩)),(2,wZ),(3,.int .u64 (a:Int)),(11,.slice p n c),(12,.int .i64 (n:Int)),(13,.int .i64 (i:Int))] ρ) (n-0) ⟨0,k,(ByteArray.size s),rfl,(zp.start hpre),(by have hn0:=(hpre).1;omega),(Nat.le_refl _),hw,rfl,HD2,(Is.of ⟨kr,kr,kr,kr,kr,kr,kr,trivial⟩)⟩ ?_;clear HD2;rintro _ _ w4 ⟨i,r,a,rfl,hR,hN,hcn,hwt,hd,H4,_,rfl⟩;by_cases hc3:(i:Nat)<n
 ·refine rS [.E (.bool (decide ((i:Int)<(n:Int)))) (.bool true) (za (decide_eq_true (by omega)))] H4 kr fun gs5 w5 H5=>?_;clear H4;refine zb kr<|zf kr kr<|zj kr<|wW<|zb kr<|zn 1 kr ?_;obtain ⟨l1,s1,k1,r1,b1,off1,C1,T1,fz1,p1,n1,c1,hr1,hp1,hb1,hh1,hs1,hx1,hz1,hk1,hR1,hN1⟩:=FoR.open hR hN (by omega);refine rS [.o (ins:=[((.tmp 11),.slice p n c),((.tmp 13),.int .i64 (i:Int))]) (v:=.pointer (some ⟨b1,off1+i*3,none⟩)) (fun ρ o w ho hi=>jj (kd:=.i64) (t:=81) (e:=83) (bytes:=48) kr (x:=(.tmp 11)) (y:=(.tmp 13)) b1 off1 n c i hp1 ho hi.1 hi.2.1 (by omega) w),.fp (off:=off1+i*3) (n:=3) (W:=#[.bool l1,.string s1,.slice p1 n1 c1]) hh1 hb1 hs1 hx1,.a,.s 0] H5 kr fun gs6 w6 H6=>?_;clear H5;have hcn1:=hcn;rw [hr1] at hcn1;simp only [Fo.cnt] at hcn1;have hwt1:=hwt;rw [hr1] at hwt1;simp only [wtF] at hwt1;have hsl1:=ku k1;have hsm1:=zbd l1 s1 (szF k1);refine rL [.v,.l 0,.cp (pre:=fun w=>zp w.heap.size w p1 n1 k1) (ih l1 s1 p1 n1 c1 k1 hz1 (by omega) (by omega)) [] (fun w hb hd=>(zp.call hk1 hb)),.E (.int .u64 (IntKind.u64.wrap ((a:Int)+((sz1 l1 s1 (szF k1):Nat):Int)))) (.int .u64 ((a+(sz1 l1 s1 (szF k1)):Nat):Int)) (zd (qB (a:=a) (b:=sz1 l1 s1 (szF k1)) (by omega))),.v] H6 kr fun gs7 w7 H7=>?_;clear H6;refine wW<|zx [0,1,2,3,5,11,12,13,14] fun ρ1=>?_;have HK4:=H7.keep;clear H7;refine rL [.E (.int .i64 (IntKind.i64.wrap ((i:Int)+1))) (.int .i64 ((i+1:Nat):Int)) (zd (zs (a:=i) (b:=1) (by omega))),.v] HK4 kr fun gs8 w8 H8=>?_;clear HK4;have HL5:St w.heap.size w w8 [((gs6 2).b,Obj.cells #[.bool l1,.string s1,.slice p1 n1 c1] 83 (0,0))]:=H8.as kr;clear H8;have HD6:St w.heap.size w w8 []:=HL5.sub (List.Sublist.cons _ List.Sublist.slnil);show ∃m,_∧_;exact ⟨_,(by omega),(i+1),r1,(a+sz1 l1 s1 (szF k1)),rfl,hR1,hN1,(by omega),(by omega),(by rw [hd,hr1];simp only [szF];omega),HD6,(Is.of ⟨kr,kr,kr,kr,kr,kr,kr,trivial⟩)⟩
 ·refine rS [.E (.bool (decide ((i:Int)<(n:Int)))) (.bool false) (za (decide_eq_false (by omega)))] H4 kr fun gs9 w9 H9=>?_;clear H4;refine zb kr<|zi kr kr<|zN 0 kr<|wW<|rS [.v,.v] H9 kr fun gs10 w10 H10=>?_;clear H9;refine zl kr<|wV ?_;refine ⟨[.int .u64 (a:Int)],(.tmp (.int .u64 (a:Int)) kr .nil),?_,H10.below⟩;refine zd ?_;rw [hd,FoR.done hN (by omega)];rfl
theorem zhk (m:Nat)(ih: ∀(l:Bool) (s:ByteArray) (p:Option Addr) (n c:Nat) (k:Fo),s.size≤0x800000000000→s.size+wtF k≤0x4000000000000000→k.cnt<m→FnP Tryz.prog 102 #[.agg #[.bool l,.string s,.slice p n c]] (fun w=>zp w.heap.size w p n k) (.int .u64 ((sz1 l s (szF k):Nat):Int)))(l:Bool)(s:ByteArray)(p:Option Addr)(n c:Nat)(k:Fo)(hs:s.size≤0x800000000000)(hw:s.size+wtF k≤0x4000000000000000)(hkm:k.cnt<m+1):FnP Tryz.prog 102 #[.agg #[.bool l,.string s,.slice p n c]] (fun w=>zp w.heap.size w p n k) (.int .u64 ((sz1 l s (szF k):Nat):Int)):=by
 refine FnP.intro (c:=zk Tryz.f102) [.tmp 2] 16 Tryz.func102 kr kr kr fun w hpre=>?_;have H0:=St.start w;have hn:=hpre.1;have hnm:=hpre.2.1;refine rS [.b,.v] H0 kr fun gs1 w1 H1=>?_;clear H0;refine zb kr<|rS [.v,.l 0,.c (uu s)] H1 kr fun gs2 w2 H2=>?_;clear H1;refine Or.elim (Bool.eq_false_or_eq_true (zX s)).symm (fun hq1=>?_) (fun hq1=>?_)
 ·refine yl 6 (v:=.bool (zX s)) (v':=.bool false) (za hq1) kr<|zi kr kr<|zj kr<|wW<|rS [.l 0,.cp (pre:=fun w=>zp w.heap.size w p n k) (zds m ih l s p n c k (by omega) (by omega) (by omega)) [] (fun w hb hd=>(zp.call hpre hb)),.v] H2 kr fun gs3 w3 H3=>?_;clear H2;have hhl:=jI (frm l) (ByteArray.size s+szF k);have hsz:=ku k;have hhs:ByteArray.size (zh (hd (frm l) (ByteArray.size s+szF k)))≤9:=hhl.2;refine rS [.l 0,.v,.c (zdr l s p n c (ByteArray.size s+szF k) (by omega)),.v,.E (.int .u64 (IntKind.u64.wrap ((ByteArray.size (zh (hd (frm l) (ByteArray.size s+szF k))):Int)))) (.int .u64 (ByteArray.size (zh (hd (frm l) (ByteArray.size s+szF k))):Int)) (zd (yr (a:=ByteArray.size (zh (hd (frm l) (ByteArray.size s+szF k)))) (by omega))),.v,.E (.int .u64 (IntKind.u64.wrap ((ByteArray.size (zh (hd (frm l) (ByteArray.size s+szF k))):Int)+((ByteArray.size s+szF k:Nat):Int)))) (.int .u64 (((ByteArray.size (zh (hd (frm l) (ByteArray.size s+szF k))))+(ByteArray.size s+szF k):Nat):Int)) (zd (qB (a:=ByteArray.size (zh (hd (frm l) (ByteArray.size s+szF k)))) (b:=ByteArray.size s+szF k) (by omega))),.v] H3 kr fun gs4 w4 H4=>?_;clear H3;refine zl kr<|wV ?_;refine ⟨[.int .u64 (((ByteArray.size (zh (hd (frm l) (ByteArray.size s+szF k))))+(ByteArray.size s+szF k):Nat):Int)],(.tmp (.int .u64 (((ByteArray.size (zh (hd (frm l) (ByteArray.size s+szF k))))+(ByteArray.size s+szF k):Nat):Int)) kr .nil),?_,H4.below⟩;refine zd ?_;unfold sz1;rw [if_neg (by rw [hq1];decide)];rfl
 ·refine yl 6 (v:=.bool (zX s)) (v':=.bool true) (za hq1) kr<|zf kr kr<|rS [.v] H2 kr fun gs5 w5 H5=>?_;clear H2;refine zl kr<|wV ?_;refine ⟨[.int .u64 1],(.tmp (.int .u64 1) kr .nil),?_,H5.below⟩;refine zd ?_;unfold sz1;rw [if_pos hq1];rfl
theorem zdt (l:Bool)(s:ByteArray)(p:Option Addr)(n c:Nat)(k:Fo)(hs:s.size≤0x800000000000)(hw:s.size+wtF k≤0x4000000000000000):FnP Tryz.prog 102 #[.agg #[.bool l,.string s,.slice p n c]] (fun w=>zp w.heap.size w p n k) (.int .u64 ((sz1 l s (szF k):Nat):Int)):=by
 have key: ∀(m:Nat) (l:Bool) (s:ByteArray) (p:Option Addr) (n c:Nat) (k:Fo),s.size≤0x800000000000→s.size+wtF k≤0x4000000000000000→k.cnt<m→FnP Tryz.prog 102 #[.agg #[.bool l,.string s,.slice p n c]] (fun w=>zp w.heap.size w p n k) (.int .u64 ((sz1 l s (szF k):Nat):Int)):=by
  intro m
  induction m with
  | zero=>intros;omega
  | succ m ih=>intro l s p n c k hs hw hkm;exact zhk m ih l s p n c k hs hw hkm
 exact key (k.cnt+1) l s p n c k hs hw (by omega)
theorem zhl (l:Bool)(s:ByteArray)(p:Option Addr)(n c:Nat)(k:Fo)(hs:s.size≤0x800000000000)(hw:s.size+wtF k≤0x4000000000000000):FnP Tryz.prog 128 #[.agg #[.bool l,.string s,.slice p n c]] (fun w=>zp w.heap.size w p n k) (.int .u64 ((ByteArray.size s+szF k:Nat):Int)):=zds k.cnt (fun l s p n c k hs hw _=>zdt l s p n c k hs hw) l s p n c k hs hw (by omega)
inductive BE (p:Nat)(T e:TypeId):List UInt8→List (Nat×Obj)→Prop
 | nil (a:Option Addr):a=none∨a=some ⟨p,0,none⟩→BE p T e [] [(p,.cells #[.pointer a,.slice none 0 0] T (0,0))]
 | row (a:Option Addr) (b n cap:Nat) (cur:Array Value) (out:List UInt8):a=none∨a=some ⟨p,0,none⟩→n=out.length→Rw 1 cur cap n (cellsB out)→
  BE p T e out [(b,.cells cur e (0,0)),(p,.cells #[.pointer a,.slice (some ⟨b,0,none⟩) n cap] T (0,0))]
def FnB (P:Program)(f:Nat)(args:Array Value)(v:Value)(p:Nat)(T e:TypeId)(out out':List UInt8)(pre:World→Prop):Prop:=
 ∀(w0 w:World) (L E:List (Nat×Obj)),BE p T e out E→pre w0→St w0.heap.size w0 w (E++L)→Calls P f args w fun r w'=> ∃E',r=.returned v∧BE p T e out' E'∧St w0.heap.size w0 w' (E'++L)
def xy (P:Program)(f:Nat)(args:Array Value)(v:Value)(p:Nat)(T e:TypeId)(out out':List UInt8)(pre:World→Prop):Prop:=
 ∀(w0 w:World) (E:List (Nat×Obj)),BE p T e out E→pre w0→St w0.heap.size w0 w E→Calls P f args w fun r w'=> ∃E',r=.returned v∧BE p T e out' E'∧St w0.heap.size w0 w' E'
section
variable {P:Program}{N:Nat}{ops:Array Oper}{i:Nat}{r:List Nat}{K:Env→World→Prop}{ρ:Env}{w:World}{w0:World}{l E:List (Nat×Obj)}
theorem zbm (HS:St w0.heap.size w0 w (l++E)){p:Nat}{T e:TypeId}{out:List UInt8}(hE:BE p T e out E)(d:Option Nat)(f:Nat)(args:Array Value)(v:Value)(out':List UInt8)(pre:World→Prop)(hc:FnB P f args v p T e out out' pre)(hp:pre w0)
 (h:opv P ops i ρ w=some (d,true,.ok (.enter f args) w)) (hd:dOK d N=true)
 (kk: ∀E' w',BE p T e out' E'→St w0.heap.size w0 w' (l++E')→WPs P N ops K r (zr ρ d v) w'):WPs P N ops K (i::r) ρ w:=by
 obtain ⟨o,ho,rfl,hw,hr⟩:=zU h;refine WPo.run ho hw fun a ha=>?_;rw [hr,Oper.upon_enter];refine (hc w0 w l E hE hp (HS.perm List.perm_append_comm)).mono ?_;rintro _ w' ⟨E',rfl,hE',HS'⟩;exact ⟨_,ha.put _ (zT hd) v,kk E' w' hE' (HS'.perm List.perm_append_comm)⟩
theorem zbn (HS:St w0.heap.size w0 w E){p:Nat}{T e:TypeId}{out:List UInt8}(hE:BE p T e out E)(d:Option Nat)(f:Nat)(args:Array Value)(v:Value)(out':List UInt8)(pre:World→Prop)(hc:xy P f args v p T e out out' pre)(hp:pre w0)
 (h:opv P ops i ρ w=some (d,true,.ok (.enter f args) w)) (hd:dOK d N=true)
 (kk: ∀E' w',BE p T e out' E'→St w0.heap.size w0 w' E'→WPs P N ops K r (zr ρ d v) w'):WPs P N ops K (i::r) ρ w:=by
 obtain ⟨o,ho,rfl,hw,hr⟩:=zU h;refine WPo.run ho hw fun a ha=>?_;rw [hr,Oper.upon_enter];refine (hc w0 w E hE hp HS).mono ?_;rintro _ w' ⟨E',rfl,hE',HS'⟩;exact ⟨_,ha.put _ (zT hd) v,kk E' w' hE' HS'⟩
theorem FnB.intro {f:Nat}{fn:Func}{c:Code}(rs:List ResultVar)(N:Nat){args:Array Value}{v:Value}{p:Nat}{T e:TypeId}{out out':List UInt8}{pre:World→Prop}(hf:P.funcs[f]? =some fn)(hb:fn.body=some c)(hr:fn.results.toList=rs)(hn:args.size+(fn.ntmps-args.size)=N)
 (h: ∀w0 w L E,BE p T e out E→pre w0→St w0.heap.size w0 w (E++L)→WP P N c (yE P rs fun v' w'=>v'=v∧∃E',BE p T e out' E'∧St w0.heap.size w0 w' (E'++L)) (ini args) w):FnB P f args v p T e out out' pre:=fun w0 w L E hE hp HS=>
 (jQ hf hb hr hn (h w0 w L E hE hp HS)).mono fun _ w' ⟨v',he,hv,E',h1,h2⟩=>⟨E',by rw [he,hv],h1,h2⟩
theorem xy.intro {f:Nat}{fn:Func}{c:Code}(rs:List ResultVar)(N:Nat){args:Array Value}{v:Value}{p:Nat}{T e:TypeId}{out out':List UInt8}{pre:World→Prop}(hf:P.funcs[f]? =some fn)(hb:fn.body=some c)(hr:fn.results.toList=rs)(hn:args.size+(fn.ntmps-args.size)=N)
 (h: ∀w0 w E,BE p T e out E→pre w0→St w0.heap.size w0 w E→WP P N c (yE P rs fun v' w'=>v'=v∧∃E',BE p T e out' E'∧St w0.heap.size w0 w' E') (ini args) w):xy P f args v p T e out out' pre:=fun w0 w E hE hp HS=>
 (jQ hf hb hr hn (h w0 w E hE hp HS)).mono fun _ w' ⟨v',he,hv,E',h1,h2⟩=>⟨E',by rw [he,hv],h1,h2⟩
def vr (t u:TypeId)(s x:Operand):Op:=.call { callee:=.builtin .append,args:=#[s,x],argTypes:=#[t,u] }
theorem zdu {P:Program}{ρ:Env}{w w':World}{o:Oper}{t u:TypeId}{s x:Operand}{vs v':Value}{tx:ByteArray}(hop:o.op=vr t u s x)(hs:ev ρ s=vs)(hx:ev ρ x=.string tx)
 (hrun:(Builtin.append_ #[t,u] o.type #[vs,.string tx]).run P w=.ok v' w'):(execOp (ev ρ) o).run P w=.ok (.value v') w':=by
 unfold execOp;simp only [hop,vr,resolve,invoke,builtin,Sem.run_bind,Sem.run_pure,Result.andThen_ok,List.map_toArray,List.map_cons,List.map_nil,hs,hx,hrun]
theorem zhm (HS:St w0.heap.size w0 w l)(d:Option Nat)(t u e:TypeId)(s x:Operand)(j b n cap:Nat)(cur:Array Value)(xs:List UInt8)(tx:ByteArray)(l':Nat→Array Value→List (Nat×Obj))
 (h:opk ops i ρ=some (d,true,vr t u s x)) (hd:dOK d N=true) (ht:yy P t=some (e,1,1)) (hu':P.underlying u=some .string)
 (hs:ev ρ s=.slice (some ⟨b,0,none⟩) n cap) (hj:l[j]? =some (b,.cells cur e (0,0))) (hr:Rw 1 cur cap n (cellsB xs)) (hx:ev ρ x=.string tx) (hm:n+tx.size≤0x800000000000)
 (hl': ∀b' cur',l.set j (b',.cells cur' e (0,0))=l' b' cur')
 (kk: ∀b' cap' cur' w',St w0.heap.size w0 w' (l' b' cur')→Rw 1 cur' cap' (n+tx.size) (cellsB (xs++tl tx))→WPs P N ops K r (zr ρ d (.slice (some ⟨b',0,none⟩) (n+tx.size) cap')) w'):WPs P N ops K (i::r) ρ w:=by
 obtain ⟨o,ho,rfl,hw,hop⟩:=zE h;obtain ⟨it,z,hu,hi,hz,hsz,hby,hzs,h0⟩:=qu ht;have hg:=HS.get j hj;have hcx:Lib.strCells tx=cellsB (tl tx):=rfl;have hxn:xs.length=n:=by have:=hr.len;rw [qN] at this;omega
 have hlen:(cellsB (xs++tl tx)).length=(n+tx.size)*1:=by rw [qN,List.length_append,zt];omega
 have hcsz:=hr.sz;by_cases hroom:n+tx.size≤cap
 ·have hrun:=Lib.run_append_room_string (P:=P) w t u o.type e it hu hu' hi hsz b n cap cur hg tx hroom (by omega);refine WPo.run ho hw fun a ha=>?_;have hex:(execOp (ev ρ) o).run P w=.ok (.value (.slice (some ⟨b,0,none⟩) (n+tx.size) cap)) (w.setRow b (cur.toList.take n++Lib.strCells tx++cur.toList.drop (n+tx.size)).toArray):=by
   unfold execOp;simp only [hop,vr,resolve,invoke,builtin,Sem.run_bind,Sem.run_pure,Result.andThen_ok,List.map_toArray,List.map_cons,List.map_nil,hs,hx,hrun]
  rw [hex,Oper.upon_value];have HS':=HS.store j (C':=(cur.toList.take n++Lib.strCells tx++cur.toList.drop (n+tx.size)).toArray) hj;rw [hl'] at HS';refine ⟨_,ha.put _ (zT hd) _,kk b cap _ _ HS' ⟨hlen,hroom,hr.max,?_,?_⟩⟩
  ·have h1:cur.toList.take n=cellsB xs:=by have:=hr.take;rwa [Nat.mul_one] at this
   rw [h1,hcx,←zdc,←hlen];exact List.take_left
  ·simp only [List.size_toArray,List.length_append,List.length_take,List.length_drop,Array.length_toList,Lib.strCells_length];omega
 ·have holds: ∀q v,(cellsB xs)[q]? =some v→w.cell? ((⟨b,0,none⟩:Addr).add q)=some v:=fun q v hq=>by
   have hql:q<n:=by rw [←hxn,←qN];exact (List.getElem?_eq_some_iff.1 hq).1
   rw [qt,Nat.zero_add];simp [World.cell?,hg,hr.get q (by omega),hq]
  have hrun:=Lib.run_append_grow_string (P:=P) w t u o.type e it z hu hu' hi hz ⟨b,0,none⟩ n cap (cellsB xs) (by rw [qN,hsz];omega) holds tx (by omega) (by omega) (by rw [hby];exact growslice_fits (by omega) (by omega));refine WPo.run ho hw fun a ha=>?_;rw [zdu hop hs hx hrun,Oper.upon_value];have hgr:w.grownBy (w.drew.alloc (.cells ((cellsB xs).toArray++(Lib.strCells tx).toArray++Builtin.zeroCells z.cells (grownCap w (n+tx.size) cap e-(n+tx.size))) e)) (some b):=
   ⟨rfl,rfl,rfl,by simp,fun k hk _=>Go.heap_alloc_old w.drew _ hk⟩
  have HS':=HS.grown j hj hgr (.inr rfl) (heap_alloc_new w.drew _);rw [hl'] at HS';have hge:=grownCap_ge w (n+tx.size) cap e;refine ⟨_,ha.put _ (zT hd) _,kk _ (grownCap w (n+tx.size) cap e) _ _ HS' ⟨hlen,hge,grownCap_le_maxLen w (n+tx.size) cap e (by unfold maxLen;omega),?_,?_⟩⟩
  ·simp only [Array.toList_append];rw [hcx];show List.take _ (cellsB xs++cellsB (tl tx)++_)=_;rw [←zdc,←hlen];exact List.take_left
  ·simp only [Array.size_append,List.size_toArray,size_zeroCells,hzs,qN,Lib.strCells_length];omega
theorem zhn (HS:St w0.heap.size w0 w l)(d:Option Nat)(t u e:TypeId)(s x:Operand)(tx:ByteArray)
 (h:opk ops i ρ=some (d,true,vr t u s x)) (hd:dOK d N=true) (ht:yy P t=some (e,1,1)) (hu':P.underlying u=some .string)
 (hs:ev ρ s=.slice none 0 0) (hx:ev ρ x=.string tx) (h0:0<tx.size) (hm:tx.size≤0x800000000000)
 (kk: ∀b' cap' cur' w',St w0.heap.size w0 w' ((b',.cells cur' e (0,0))::l)→Rw 1 cur' cap' tx.size (cellsB (tl tx))→WPs P N ops K r (zr ρ d (.slice (some ⟨b',0,none⟩) tx.size cap')) w'):WPs P N ops K (i::r) ρ w:=by
 obtain ⟨o,ho,rfl,hw,hop⟩:=zE h;obtain ⟨it,z,hu,hi,hz,hsz,hby,hzs,h0'⟩:=qu ht;have hcx:Lib.strCells tx=cellsB (tl tx):=rfl;have hrun:=Go.run_append_nil_string (P:=P) w t u o.type e it z hu hu' hi hz tx h0 (by omega) (by rw [hby];omega);refine WPo.run ho hw fun a ha=>?_;rw [zdu hop hs hx hrun,Oper.upon_value];have hge:=grownCap_ge w tx.size 0 e;have e1:(tx.data.map (fun b=>Value.int .u8 b.toNat)++Builtin.zeroCells z.cells (grownCap w tx.size 0 e-tx.size)).toList=cellsB (tl tx)++(Builtin.zeroCells z.cells (grownCap w tx.size 0 e-tx.size)).toList:=by
  unfold cellsB tl;simp
 refine ⟨_,ha.put _ (zT hd) _,kk _ (grownCap w tx.size 0 e) _ _ (HS.drew.alloc _) ⟨by rw [qN,zt,Nat.mul_one],hge,grownCap_le_maxLen w tx.size 0 e (by unfold maxLen;omega),?_,?_⟩⟩
 ·rw [e1,Nat.mul_one,List.take_append_of_le_length (by rw [qN,zt];exact Nat.le_refl _),List.take_of_length_le (by rw [qN,zt];exact Nat.le_refl _)]
 ·rw [←Array.length_toList,e1,List.length_append,qN,zt,Array.length_toList,size_zeroCells,hzs];omega
theorem zdv {B:Nat}(HS:St B w0 w l)(d:Option Nat)(t t' tp:TypeId)(x:Operand)(j b:Nat)(C:Array Value)(T:TypeId)(h:opk ops i ρ=some (d,true,.convert t t' x))(hd:dOK d N=true)(hx:ev ρ x=.pointer (some ⟨b,0,none⟩))(hj:l[j]? =some (b,.cells C T (0,0)))
 (ht:P.underlying t=some (.pointer tp)) (ht':P.underlying t'=some .unsafePointer) (hz:((P.info? tp).map fun i=>Nat.blt 0 i.size)=some true) (hC:0<C.size) (kk:WPs P N ops K r (zr ρ d (.pointer (some ⟨b,0,none⟩))) w):WPs P N ops K (i::r) ρ w:=
 uc d _ _ w h hd (fun o ho=>by
  obtain ⟨it,hi,hs⟩:=Option.map_eq_some_iff.1 hz;have hsh:w.shape? b=some (T,C.size):=by unfold World.shape?;rw [HS.get j hj]
  have:=Lib.run_to_unsafe (P:=P) w (src:=t) (dst:=t') ⟨b,0,none⟩ ht ht' hi (by have:=Nat.le_of_ble_eq_true hs;omega) hsh hC;unfold execOp
  simp only [ho,hx,Sem.run_bind,this,Result.andThen_ok];rfl) kk
theorem zdw {B:Nat}(HS:St B w0 w l)(d:Option Nat)(t t' tp:TypeId)(x:Operand)(j b:Nat)(C:Array Value)(T:TypeId)(h:opk ops i ρ=some (d,true,.convert t t' x))(hd:dOK d N=true)(hx:ev ρ x=.pointer (some ⟨b,0,none⟩))(hj:l[j]? =some (b,.cells C T (0,0)))
 (ht:P.underlying t=some .unsafePointer) (ht':P.underlying t'=some (.pointer tp)) (hz:(P.info? tp).isSome=true) (hl:liesAt P P.depth T (C.size / P.cellsOf T) 0 tp 1=true) (kk:WPs P N ops K r (zr ρ d (.pointer (some ⟨b,0,none⟩))) w):WPs P N ops K (i::r) ρ w:=
 uc d _ _ w h hd (fun o ho=>by
  obtain ⟨it,hi⟩:=Option.isSome_iff_exists.1 hz;have hsh:w.shape? b=some (T,C.size):=by unfold World.shape?;rw [HS.get j hj]
  have:=Lib.run_from_unsafe (P:=P) w (src:=t) (dst:=t') ⟨b,0,none⟩ ht ht' hi hsh hl;unfold execOp
  simp only [ho,hx,Sem.run_bind,this,Result.andThen_ok];rfl) kk
theorem zdx {t tp t':TypeId}(ht:P.underlying t=some (.pointer tp))(hz:(P.info? tp).isSome=true){x y:Operand}{o:Oper}(a:Addr)(ho:o.op=.binOp .neq t x y t')(hx:ev ρ x=.pointer (some a))(hy:ev ρ y=.pointer (some a)):
 ∀w,(execOp (ev ρ) o).run P w=.ok (.value (.bool false)) w:=fun w=>by
 obtain ⟨it,hi⟩:=Option.isSome_iff_exists.1 hz;have:=Lib.run_neq_ptr_same (P:=P) w a ht hi;unfold execOp;simp [ho,hx,hy,eqGuard,this]
end
def qb (w0:World)(p:Nat)(T e:TypeId)(out':List UInt8)(bx:Nat×Obj)(E:List (Nat×Obj))(q:Nat):(Nat→Bool)→(Nat→D2.Gh)→World→Prop:=fun L _ w=>
 bif L q then (∃E',BE p T e out' E'∧St w0.heap.size w0 w ([bx]++E')) else St w0.heap.size w0 w ([bx]++E)
section
variable {P:Program}{ops:Array Oper}{R:(Nat→D2.Gh)→Env}{i:Nat}{d:Option Nat}{w0:World}{p:Nat}{T e:TypeId}{out':List UInt8}{bx:Nat×Obj}{E:List (Nat×Obj)}{q:Nat}
theorem zdy {L:Nat→Bool}(h:Nat.beq q i=false):D2.put1 L i q=L q:=by unfold D2.put1;rw [h];rfl
theorem qb.keep (h:Nat.beq q i=false){L:Nat→Bool}{g g':Nat→D2.Gh}{w:World}(hp:qb w0 p T e out' bx E q L g w):qb w0 p T e out' bx E q (D2.put1 L i) g' w:=by
 unfold qb at hp ⊢;rw [zdy h];exact hp
theorem qb.cases {L:Nat→Bool}{g:Nat→D2.Gh}{w:World}(hp:qb w0 p T e out' bx E q L g w):∃E',St w0.heap.size w0 w ([bx]++E')∧((∀w',St w0.heap.size w0 w' ([bx]++E')→qb w0 p T e out' bx E q L g w')):=by
 unfold qb at hp ⊢;cases hl:L q with
 | false=>rw [hl] at hp;exact ⟨E,hp,fun w' h=>h⟩
 | true=>rw [hl] at hp;obtain ⟨E',h1,h2⟩:=hp;exact ⟨E',h2,fun w' h=>⟨E',h1,h⟩⟩
theorem zho {V:Value}(hq:Nat.beq q i=false)(h: ∀g w,opv P ops i (R g) w=some (d,true,.ok (.value V) w)):D2.Gives P ops R (qb w0 p T e out' bx E q) i d (fun _=>V):=D2.gv_val (fun _ _ _ hp=>hp.keep hq) h
theorem zdz {C:Array Value}{T':TypeId}{t:TypeId}{x:Operand}(hq:Nat.beq q i=false)(h: ∀g,opk ops i (R g)=some (d,true,.load t x))(hx: ∀g,ev (R g) x=.pointer (some ⟨bx.1,0,none⟩))(hb:bx.2=.cells C T' (0,0))(ht:aggSize P t=some C.size):D2.Gives P ops R (qb w0 p T e out' bx E q) i d (fun _=>.agg C):=D2.gives_of fun L g w hp hN=>by
 obtain ⟨o,ho,hd,hw,hop⟩:=zE (h g);obtain ⟨E',hS,_⟩:=hp.cases;have hh:w.heap[bx.1]? =some (.cells C T' (0,0)):=by rw [←hb];exact hS.get 0 rfl
 have:=jO (P:=P) (w:=w) (off:=0) ht hh (by omega);have e1:C.extract 0 (0+C.size)=C:=by simp
 rw [e1] at this;have e2:(execOp (ev (R g)) o).run P w=.ok (.value (.agg C)) w:=by simp [execOp,hop,Instr.loadAt,Instr.sureAddr,hx g,this]
 exact ⟨o,ho,hd,.inr ⟨hw,by rw [e2];exact ⟨g i,rfl,by rw [D2.setN_self];exact hp.keep hq⟩⟩⟩
theorem zdA {V:Value}{f:Nat}{args:Array Value}{pr:World→Prop}(hq:Nat.beq q i=false)(hc:FnP P f args pr V)(hpr: ∀w,Below w0.heap.size w0 w→pr w)(h: ∀g w,opv P ops i (R g) w=some (d,true,.ok (.enter f args) w)):D2.Gives P ops R (qb w0 p T e out' bx E q) i d (fun _=>V):=D2.gives_of fun L g w hp hN=>by
 obtain ⟨o,ho,hd,hw,hr⟩:=zU (h g w);obtain ⟨E',hS,hk⟩:=hp.cases;exact ⟨o,ho,hd,.inr ⟨hw,by rw [hr];exact (hc w (hpr w hS.below)).mono fun e w' ⟨he,hb⟩=>⟨V,he,g i,rfl,by rw [D2.setN_self];exact (hk w' (hS.call hb)).keep hq⟩⟩⟩
theorem zhp {V:Value}{f:Nat}{args:Array Value}(hq:Nat.beq q i=false)(hc:Fn P f args V)(h: ∀g w,opv P ops i (R g) w=some (d,true,.ok (.enter f args) w)):D2.Gives P ops R (qb w0 p T e out' bx E q) i d (fun _=>V):=
 zdA (pr:=fun _=>True) hq (fun w _=>hc w) (fun _ _=>trivial) h
theorem zhq {V:Value}{f:Nat}{args:Array Value}{out:List UInt8}(hq:q=i)(hE:BE p T e out E)(hc:FnB P f args V p T e out out' (fun _=>True))(h: ∀g w,opv P ops i (R g) w=some (d,true,.ok (.enter f args) w)):D2.Gives P ops R (qb w0 p T e out' bx E q) i d (fun _=>V):=D2.gives_of fun L g w hp hN=>by
 subst hq;obtain ⟨o,ho,hd,hw,hr⟩:=zU (h g w);have hS:St w0.heap.size w0 w ([bx]++E):=by unfold qb at hp;rw [hN.1] at hp;exact hp
 refine ⟨o,ho,hd,.inr ⟨hw,?_⟩⟩;rw [hr];refine (hc w0 w [bx] E hE trivial (hS.perm List.perm_append_comm)).mono ?_;rintro _ w' ⟨E',rfl,hE',hS'⟩;refine ⟨V,rfl,g q,rfl,?_⟩;unfold qb;rw [show D2.put1 L q q=true from D2.put1_self L q];exact ⟨E',hE',hS'.perm List.perm_append_comm⟩
theorem qb.done {L:Nat→Bool}{g:Nat→D2.Gh}{w:World}(hp:qb w0 p T e out' bx E q L g w)(h:L q=true):∃E',BE p T e out' E'∧St w0.heap.size w0 w ([bx]++E'):=by
 unfold qb at hp;rw [h] at hp;exact hp
end
def jl (w0:World)(l:List (Nat×Obj))(q:Nat):(Nat→Bool)→(Nat→D2.Gh)→World→Prop:=fun L _ w=>bif L q then St w0.heap.size w0 w [] else St w0.heap.size w0 w l
section
variable {P:Program}{ops:Array Oper}{R:(Nat→D2.Gh)→Env}{i:Nat}{d:Option Nat}{w0:World}{l:List (Nat×Obj)}{q:Nat}
theorem jl.keep (h:Nat.beq q i=false){L:Nat→Bool}{g g':Nat→D2.Gh}{w:World}(hp:jl w0 l q L g w):jl w0 l q (D2.put1 L i) g' w:=by
 unfold jl at hp ⊢;rw [zdy h];exact hp
theorem xz {V:Value}(hq:Nat.beq q i=false)(h: ∀g w,opv P ops i (R g) w=some (d,true,.ok (.value V) w)):D2.Gives P ops R (jl w0 l q) i d (fun _=>V):=D2.gv_val (fun _ _ _ hp=>hp.keep hq) h
theorem zbo {V:Value}(hq:Nat.beq q i=false)(hb: ∀L,D2.Now ops i L→L q=false)(op:Op)(h: ∀g,opk ops i (R g)=some (d,true,op))(hr: ∀g w (o:Oper),St w0.heap.size w0 w l→o.op=op→(execOp (ev (R g)) o).run P w=.ok (.value V) w):D2.Gives P ops R (jl w0 l q) i d (fun _=>V):=D2.gives_of fun L g w hp hN=>by
 obtain ⟨o,ho,hd,hw,hop⟩:=zE (h g);have hS:St w0.heap.size w0 w l:=by have h9:=hp;unfold jl at h9;rw [hb L hN] at h9;exact h9
 exact ⟨o,ho,hd,.inr ⟨hw,by rw [hr g w o hS hop];exact ⟨g i,rfl,by rw [D2.setN_self];exact hp.keep hq⟩⟩⟩
theorem zhr {V:Value}(hq:q=i)(op:Op)(h: ∀g,opk ops i (R g)=some (d,true,op))(hr: ∀g w (o:Oper),St w0.heap.size w0 w l→o.op=op→∃w',(execOp (ev (R g)) o).run P w=.ok (.value V) w'∧St w0.heap.size w0 w' []):D2.Gives P ops R (jl w0 l q) i d (fun _=>V):=D2.gives_of fun L g w hp hN=>by
 subst hq;obtain ⟨o,ho,hd,hw,hop⟩:=zE (h g);have hS:St w0.heap.size w0 w l:=by have h9:=hp;unfold jl at h9;rw [hN.1] at h9;exact h9
 obtain ⟨w',h1,h2⟩:=hr g w o hS hop;exact ⟨o,ho,hd,.inr ⟨hw,by rw [h1];exact ⟨g q,rfl,by unfold jl;rw [show D2.put1 L q q=true from D2.put1_self L q];exact h2⟩⟩⟩
end
def zbp (t:TypeId)(x:Operand):Op:=.call { callee:=.builtin .unsafeSliceData,args:=#[x],argTypes:=#[t] }
theorem zhs {P:Program}{ρ:Env}{w:World}{t:TypeId}{x:Operand}{a:Addr}{n c:Nat}(hx:ev ρ x=.slice (some a) n c)(hc:c≠0)(o:Oper)(ho:o.op=zbp t x):(execOp (ev ρ) o).run P w=.ok (.value (.pointer (some a))) w:=by
 have:=Lib.run_unsafeSliceData_row (P:=P) (w:=w) #[t] o.type a n c hc;unfold execOp;simp only [ho,zbp,resolve,invoke,builtin,Sem.run_bind,Sem.run_pure,Result.andThen_ok,List.map_toArray,List.map_cons,List.map_nil,hx,this]
theorem zht {P:Program}{ρ:Env}{w w0:World}{l:List (Nat×Obj)}{j b n cap:Nat}{C:Array Value}{t t' e:TypeId}{x y:Operand}{xs:List UInt8}(HS:St w0.heap.size w0 w l)(hj:l[j]? =some (b,.cells C e (0,0)))(ht:P.underlying t=some (.pointer e))(hc:P.cellsOf e=1)
 (hx:ev ρ x=.pointer (some ⟨b,0,none⟩)) (hy:ev ρ y=.int .i64 (n:Int)) (hr:Rw 1 C cap n (cellsB xs)) (h0:0<n) (hm:n≤0x7fffffffffffffff) (o:Oper) (hop:o.op=vn t t' x y):
 ∃w',(execOp (ev ρ) o).run P w=.ok (.value (.string (zh xs))) w'∧St w0.heap.size w0 w' []:=by
 have hb:=HS.get j hj;have hB:=HS.ge j hj;have hlen:xs.length=n:=by have:=hr.len;rw [qN] at this;omega
 have hsz:=hr.sz;have hle:=hr.le
 have hrun:=Lib.run_unsafeString_row (P:=P) w t t' o.type e ht hc b C.size (by unfold World.shape?;rw [hb]) xs (by intro e;subst e;simp at hlen;omega) (by omega) (by omega) (fun j u hj=>by
  have hjl:j<xs.length:=(List.getElem?_eq_some_iff.1 hj).1;have h2:=hr.get j (by omega);rw [qt,Nat.zero_add];have h3:(cellsB xs)[j]? =some (.int .u8 (u.toNat:Int)):=by unfold cellsB;rw [List.getElem?_map,hj];rfl
  simp [World.cell?,hb,h2,h3])
 rw [hlen] at hrun;refine ⟨w.freeze ⟨b,0,none⟩ n,?_,?_⟩
 ·unfold execOp;simp only [hop,vn,resolve,invoke,builtin,Sem.run_bind,Sem.run_pure,Result.andThen_ok,List.map_toArray,List.map_cons,List.map_nil,hx,hy,hrun];rfl
 ·have hbel:=Lib.below_freeze HS.below (p:=⟨b,0,none⟩) hB n;refine ⟨hbel,Nat.le_trans HS.le ?_,(fun e he=>nomatch he),List.nodup_nil⟩;unfold World.freeze;split<;>simp
theorem St.load1_run {P:Program}{ρ:Env}{w w0:World}{l:List (Nat×Obj)}{j b off:Nat}{C:Array Value}{T t:TypeId}{x:Operand}{v:Value}(HS:St w0.heap.size w0 w l)(hj:l[j]? =some (b,.cells C T (0,0)))(ht:oneCell P t=true)(hx:ev ρ x=.pointer (some ⟨b,off,none⟩))(hv:C[off]? =some v)(o:Oper)(ho:o.op=.load t x):
 (execOp (ev ρ) o).run P w=.ok (.value v) w:=by
 have:=jP (P:=P) (w:=w) ht (HS.get j hj) hv;simp [execOp,ho,Instr.loadAt,Instr.sureAddr,hx,this]
theorem zhu (p:Nat)(w0 w:World)(L:List (Nat×Obj))(H0:St w0.heap.size w0 w ([(p,Obj.cells #[.pointer none,.slice none 0 0] 133 (0,0))]++L)):WP Tryz.prog 20 (zk Tryz.f144) (yE Tryz.prog [] fun v' w'=>v'=.tuple #[]∧∃E',BE p 133 5 ([]) E'∧St w0.heap.size w0 w' (E'++L)) (ini #[.pointer (some ⟨p,0,none⟩)]) w:=by
 refine zg [0,1,2,3,4] kr kr<|zm (some 2) (.pointer (some ⟨p,0,none⟩)) (fun w=>by kernel_rfl) kr<|zm (some 3) (.pointer (some ⟨p,0,none⟩)) (fun w=>by kernel_rfl) kr<|zm (some 4) (.pointer (some ⟨p,0,none⟩)) (fun w=>by kernel_rfl) kr<|qY H0 (some 5) 131 (.tmp 4) 0 p 0 #[.pointer none,.slice none 0 0] 133 (0,0) (.pointer none) kr kr kr kr kr kr<|zm (some 6) (.bool true) (fun w=>by kernel_rfl) kr<|zc<|zf kr kr<|yv [0,1,2,3,4,5,6,7] kr<|zm (some 7) (.pointer (some ⟨p,0,none⟩)) (fun w=>by kernel_rfl) kr<|zm (some 8) (.pointer (some ⟨p,0,none⟩)) (fun w=>by kernel_rfl) kr<|zdv H0 (some 9) 131 179 133 (.tmp 8) 0 p #[.pointer none,.slice none 0 0] 133 kr kr kr kr kr kr kr (by show 0<2;omega)<|zm (some 10) (.pointer (some ⟨p,0,none⟩)) (fun w=>by kernel_rfl) kr<|zdw H0 (some 11) 179 131 133 (.tmp 10) 0 p #[.pointer none,.slice none 0 0] 133 kr kr kr kr kr kr kr kr<|zm (some 12) (.pointer (some ⟨p,0,none⟩)) (fun w=>by kernel_rfl) kr<|zm (some 13) (.pointer (some ⟨p,0,none⟩)) (fun w=>by kernel_rfl) kr<|qf H0 0 ([(p,Obj.cells #[.pointer (some ⟨p,0,none⟩),.slice none 0 0] 133 (0,0))]++L) 131 (.tmp 13) (.tmp 11) p (0) #[.pointer none,.slice none 0 0] #[.pointer (some ⟨p,0,none⟩),.slice none 0 0] 133 (.pointer (some ⟨p,0,none⟩)) kr kr kr kr kr kr (of_decide_eq_true kr) kr kr ?_;intro w1 H1;clear H0;refine zc<|wV ?_;exact ⟨[],.nil,rfl,_,(BE.nil (some ⟨p,0,none⟩) (Or.inr rfl)),H1⟩
theorem zhv (p:Nat)(w0 w:World)(L:List (Nat×Obj))(H0:St w0.heap.size w0 w ([(p,Obj.cells #[.pointer (some ⟨p,0,none⟩),.slice none 0 0] 133 (0,0))]++L)):WP Tryz.prog 20 (zk Tryz.f144) (yE Tryz.prog [] fun v' w'=>v'=.tuple #[]∧∃E',BE p 133 5 ([]) E'∧St w0.heap.size w0 w' (E'++L)) (ini #[.pointer (some ⟨p,0,none⟩)]) w:=by
 refine zg [0,1,2,3,4] kr kr<|zm (some 2) (.pointer (some ⟨p,0,none⟩)) (fun w=>by kernel_rfl) kr<|zm (some 3) (.pointer (some ⟨p,0,none⟩)) (fun w=>by kernel_rfl) kr<|zm (some 4) (.pointer (some ⟨p,0,none⟩)) (fun w=>by kernel_rfl) kr<|qY H0 (some 5) 131 (.tmp 4) 0 p 0 #[.pointer (some ⟨p,0,none⟩),.slice none 0 0] 133 (0,0) (.pointer (some ⟨p,0,none⟩)) kr kr kr kr kr kr<|zm (some 6) (.bool false) (fun w=>by kernel_rfl) kr<|zc<|zi kr kr<|zg [0,1,2,3,4,5] kr kr<|zm (some 14) (.pointer (some ⟨p,0,none⟩)) (fun w=>by kernel_rfl) kr<|zm (some 15) (.pointer (some ⟨p,0,none⟩)) (fun w=>by kernel_rfl) kr<|zm (some 16) (.pointer (some ⟨p,0,none⟩)) (fun w=>by kernel_rfl) kr<|qY H0 (some 17) 131 (.tmp 16) 0 p 0 #[.pointer (some ⟨p,0,none⟩),.slice none 0 0] 133 (0,0) (.pointer (some ⟨p,0,none⟩)) kr kr kr kr kr kr<|zm (some 18) (.pointer (some ⟨p,0,none⟩)) (fun w=>by kernel_rfl) kr<|kV (some 19) _ (.bool false) kr kr (fun o w ho=>zdx (t:=131) (tp:=133) (t':=131) kr kr (x:=(.tmp 17)) (y:=(.tmp 18)) ⟨p,0,none⟩ ho kr kr w)<|zc<|zi kr kr<|zj kr<|wV ?_;exact ⟨[],.nil,rfl,_,(BE.nil (some ⟨p,0,none⟩) (Or.inr rfl)),H0⟩
theorem zhw (p:Nat)(b n cap:Nat)(cur:Array Value)(out:List UInt8)(hn:n=out.length)(hr:Rw 1 cur cap n (cellsB out))(w0 w:World)(L:List (Nat×Obj))(H0:St w0.heap.size w0 w ([(b,Obj.cells cur 5 (0,0)),(p,Obj.cells #[.pointer none,.slice (some ⟨b,0,none⟩) n cap] 133 (0,0))]++L)):WP Tryz.prog 20 (zk Tryz.f144) (yE Tryz.prog [] fun v' w'=>v'=.tuple #[]∧∃E',BE p 133 5 out E'∧St w0.heap.size w0 w' (E'++L)) (ini #[.pointer (some ⟨p,0,none⟩)]) w:=by
 refine zg [0,1,2,3,4] kr kr<|zm (some 2) (.pointer (some ⟨p,0,none⟩)) (fun w=>by kernel_rfl) kr<|zm (some 3) (.pointer (some ⟨p,0,none⟩)) (fun w=>by kernel_rfl) kr<|zm (some 4) (.pointer (some ⟨p,0,none⟩)) (fun w=>by kernel_rfl) kr<|qY H0 (some 5) 131 (.tmp 4) 1 p 0 #[.pointer none,.slice (some ⟨b,0,none⟩) n cap] 133 (0,0) (.pointer none) kr kr kr kr kr kr<|zm (some 6) (.bool true) (fun w=>by kernel_rfl) kr<|zc<|zf kr kr<|yv [0,1,2,3,4,5,6,7] kr<|zm (some 7) (.pointer (some ⟨p,0,none⟩)) (fun w=>by kernel_rfl) kr<|zm (some 8) (.pointer (some ⟨p,0,none⟩)) (fun w=>by kernel_rfl) kr<|zdv H0 (some 9) 131 179 133 (.tmp 8) 1 p #[.pointer none,.slice (some ⟨b,0,none⟩) n cap] 133 kr kr kr kr kr kr kr (by show 0<2;omega)<|zm (some 10) (.pointer (some ⟨p,0,none⟩)) (fun w=>by kernel_rfl) kr<|zdw H0 (some 11) 179 131 133 (.tmp 10) 1 p #[.pointer none,.slice (some ⟨b,0,none⟩) n cap] 133 kr kr kr kr kr kr kr kr<|zm (some 12) (.pointer (some ⟨p,0,none⟩)) (fun w=>by kernel_rfl) kr<|zm (some 13) (.pointer (some ⟨p,0,none⟩)) (fun w=>by kernel_rfl) kr<|qf H0 1 ([(b,Obj.cells cur 5 (0,0)),(p,Obj.cells #[.pointer (some ⟨p,0,none⟩),.slice (some ⟨b,0,none⟩) n cap] 133 (0,0))]++L) 131 (.tmp 13) (.tmp 11) p (0) #[.pointer none,.slice (some ⟨b,0,none⟩) n cap] #[.pointer (some ⟨p,0,none⟩),.slice (some ⟨b,0,none⟩) n cap] 133 (.pointer (some ⟨p,0,none⟩)) kr kr kr kr kr kr (of_decide_eq_true kr) kr kr ?_;intro w1 H1;clear H0;refine zc<|wV ?_;exact ⟨[],.nil,rfl,_,(BE.row (some ⟨p,0,none⟩) b n cap cur out (Or.inr rfl) hn hr),H1⟩
theorem zhx (p:Nat)(b n cap:Nat)(cur:Array Value)(out:List UInt8)(hn:n=out.length)(hr:Rw 1 cur cap n (cellsB out))(w0 w:World)(L:List (Nat×Obj))(H0:St w0.heap.size w0 w ([(b,Obj.cells cur 5 (0,0)),(p,Obj.cells #[.pointer (some ⟨p,0,none⟩),.slice (some ⟨b,0,none⟩) n cap] 133 (0,0))]++L)):WP Tryz.prog 20 (zk Tryz.f144) (yE Tryz.prog [] fun v' w'=>v'=.tuple #[]∧∃E',BE p 133 5 out E'∧St w0.heap.size w0 w' (E'++L)) (ini #[.pointer (some ⟨p,0,none⟩)]) w:=by
 refine zg [0,1,2,3,4] kr kr<|zm (some 2) (.pointer (some ⟨p,0,none⟩)) (fun w=>by kernel_rfl) kr<|zm (some 3) (.pointer (some ⟨p,0,none⟩)) (fun w=>by kernel_rfl) kr<|zm (some 4) (.pointer (some ⟨p,0,none⟩)) (fun w=>by kernel_rfl) kr<|qY H0 (some 5) 131 (.tmp 4) 1 p 0 #[.pointer (some ⟨p,0,none⟩),.slice (some ⟨b,0,none⟩) n cap] 133 (0,0) (.pointer (some ⟨p,0,none⟩)) kr kr kr kr kr kr<|zm (some 6) (.bool false) (fun w=>by kernel_rfl) kr<|zc<|zi kr kr<|zg [0,1,2,3,4,5] kr kr<|zm (some 14) (.pointer (some ⟨p,0,none⟩)) (fun w=>by kernel_rfl) kr<|zm (some 15) (.pointer (some ⟨p,0,none⟩)) (fun w=>by kernel_rfl) kr<|zm (some 16) (.pointer (some ⟨p,0,none⟩)) (fun w=>by kernel_rfl) kr<|qY H0 (some 17) 131 (.tmp 16) 1 p 0 #[.pointer (some ⟨p,0,none⟩),.slice (some ⟨b,0,none⟩) n cap] 133 (0,0) (.pointer (some ⟨p,0,none⟩)) kr kr kr kr kr kr<|zm (some 18) (.pointer (some ⟨p,0,none⟩)) (fun w=>by kernel_rfl) kr<|kV (some 19) _ (.bool false) kr kr (fun o w ho=>zdx (t:=131) (tp:=133) (t':=131) kr kr (x:=(.tmp 17)) (y:=(.tmp 18)) ⟨p,0,none⟩ ho kr kr w)<|zc<|zi kr kr<|zj kr<|wV ?_;exact ⟨[],.nil,rfl,_,(BE.row (some ⟨p,0,none⟩) b n cap cur out (Or.inr rfl) hn hr),H0⟩
theorem zhy (p:Nat)(out:List UInt8):FnB Tryz.prog 144 #[.pointer (some ⟨p,0,none⟩)] (.tuple #[]) p 133 5 out out (fun _=>True):=
 FnB.intro (c:=zk Tryz.f144) [] 20 Tryz.func144 kr kr kr fun w0 w L E hE _ HS=>by
  rcases hE with ⟨a,rfl|rfl⟩|⟨a,b,n,cap,cur,_,rfl|rfl,hn,hr⟩
  ·exact zhu p w0 w L HS
  ·exact zhv p w0 w L HS
  ·exact zhw p b n cap cur out hn hr w0 w L HS
  ·exact zhx p b n cap cur out hn hr w0 w L HS
theorem zbq (p:Nat)(out:List UInt8)(s:ByteArray)(h0:0<s.size∨out≠[])(hm:out.length+s.size≤0x800000000000):FnB Tryz.prog 130 #[.pointer (some ⟨p,0,none⟩),.string s] (.tuple #[.int .i64 (ByteArray.size s:Int),.nilIface]) p 133 5 out (out++tl s) (fun _=>True):=by
 refine FnB.intro (c:=zk Tryz.f130) [.tmp 4,.tmp 5] 19 Tryz.func130 kr kr kr fun w0 w L E hE _ HS=>?_;have H0:St w0.heap.size w0 w (L++E):=HS.perm List.perm_append_comm;refine zg [0,1] kr kr<|zm (some 4) (.int .i64 0) (fun w=>by kernel_rfl) kr<|zm (some 5) (.nilIface) (fun w=>by kernel_rfl) kr<|zc<|zg [0,1] kr kr<|zm (some 6) (.pointer (some ⟨p,0,none⟩)) (fun w=>by kernel_rfl) kr<|zbm (l:=L) H0 hE (some 7) 144 #[.pointer (some ⟨p,0,none⟩)] (.tuple #[]) out (fun _=>True) (zhy p out) trivial kr kr ?_;intro E1 w1 hE1 H1;clear H0;rcases hE1 with ⟨a,ha⟩ | ⟨a,b,n,cap,cur,_,ha,hn,hr⟩
 ·have h0':0<ByteArray.size s:=h0.resolve_right (fun h=>h rfl);simp only [List.length_nil] at hm;have HP:St w0.heap.size w0 w1 ([(p,Obj.cells #[.pointer a,.slice none 0 0] 133 (0,0))]++L):=H1.perm List.perm_append_comm;refine zc<|zg [0,1,2,3,4,5,6,7,8,9] kr kr<|zm (some 8) (.pointer (some ⟨p,0,none⟩)) (fun w=>by kernel_rfl) kr<|zm (some 9) (.pointer (some ⟨p,0,none⟩)) (fun w=>by kernel_rfl) kr<|zm (some 10) (.pointer (some ⟨p,0,none⟩)) (fun w=>by kernel_rfl) kr<|zm (some 11) (.pointer (some ⟨p,1,none⟩)) (fun w=>by kernel_rfl) kr<|qY HP (some 12) 76 (.tmp 11) 0 p 1 #[.pointer a,.slice none 0 0] 133 (0,0) (.slice none 0 0) kr kr kr kr kr kr<|zm (some 13) (.string s) (fun w=>by kernel_rfl) kr<|zhn HP (some 14) 76 9 5 (.tmp 12) (.tmp 13) s kr kr kr kr kr kr (by omega) (by omega) ?_;intro b_1 cap_2 cur_3 w2 H2 hr_4;clear HP;refine zm (some 15) (.pointer (some ⟨p,0,none⟩)) (fun w=>by kernel_rfl) kr<|zm (some 16) (.pointer (some ⟨p,1,none⟩)) (fun w=>by kernel_rfl) kr<|qf H2 1 ([(b_1,Obj.cells cur_3 5 (0,0)),(p,Obj.cells #[.pointer a,.slice (some ⟨b_1,0,none⟩) (ByteArray.size s) cap_2] 133 (0,0))]++L) 76 (.tmp 16) (.tmp 14) p (1) #[.pointer a,.slice none 0 0] #[.pointer a,.slice (some ⟨b_1,0,none⟩) (ByteArray.size s) cap_2] 133 (.slice (some ⟨b_1,0,none⟩) (ByteArray.size s) cap_2) kr kr kr kr kr kr (of_decide_eq_true kr) kr kr ?_;intro w3 H3;clear H2;refine zc<|zg [0,1,2,3] kr kr<|zm (some 17) (.string s) (fun w=>by kernel_rfl) kr<|zm (some 18) (.int .i64 (ByteArray.size s:Int)) (fun w=>by kernel_rfl) kr<|zm (some 4) (.int .i64 (ByteArray.size s:Int)) (fun w=>by kernel_rfl) kr<|zm (some 5) (.nilIface) (fun w=>by kernel_rfl) kr<|zc<|zl kr<|wV ?_;exact ⟨[.int .i64 (ByteArray.size s:Int),.nilIface],(.tmp (.int .i64 (ByteArray.size s:Int)) kr (.tmp (.nilIface) kr .nil)),rfl,_,(BE.row a b_1 (ByteArray.size s) cap_2 cur_3 (tl s) ha rfl hr_4),H3⟩
 ·have HP:St w0.heap.size w0 w1 ([(b,Obj.cells cur 5 (0,0)),(p,Obj.cells #[.pointer a,.slice (some ⟨b,0,none⟩) n cap] 133 (0,0))]++L):=H1.perm List.perm_append_comm;refine zc<|zg [0,1,2,3,4,5,6,7,8,9] kr kr<|zm (some 8) (.pointer (some ⟨p,0,none⟩)) (fun w=>by kernel_rfl) kr<|zm (some 9) (.pointer (some ⟨p,0,none⟩)) (fun w=>by kernel_rfl) kr<|zm (some 10) (.pointer (some ⟨p,0,none⟩)) (fun w=>by kernel_rfl) kr<|zm (some 11) (.pointer (some ⟨p,1,none⟩)) (fun w=>by kernel_rfl) kr<|qY HP (some 12) 76 (.tmp 11) 1 p 1 #[.pointer a,.slice (some ⟨b,0,none⟩) n cap] 133 (0,0) (.slice (some ⟨b,0,none⟩) n cap) kr kr kr kr kr kr<|zm (some 13) (.string s) (fun w=>by kernel_rfl) kr<|zhm HP (some 14) 76 9 5 (.tmp 12) (.tmp 13) 0 b n cap cur out s (fun b_5 cur_7=>([(b_5,Obj.cells cur_7 5 (0,0)),(p,Obj.cells #[.pointer a,.slice (some ⟨b,0,none⟩) n cap] 133 (0,0))]++L)) kr kr kr kr kr kr hr kr (by omega) (fun _ _=>by kernel_rfl) ?_;intro b_5 cap_6 cur_7 w4 H4 hr_8;clear HP;refine zm (some 15) (.pointer (some ⟨p,0,none⟩)) (fun w=>by kernel_rfl) kr<|zm (some 16) (.pointer (some ⟨p,1,none⟩)) (fun w=>by kernel_rfl) kr<|qf H4 1 ([(b_5,Obj.cells cur_7 5 (0,0)),(p,Obj.cells #[.pointer a,.slice (some ⟨b_5,0,none⟩) (n+ByteArray.size s) cap_6] 133 (0,0))]++L) 76 (.tmp 16) (.tmp 14) p (1) #[.pointer a,.slice (some ⟨b,0,none⟩) n cap] #[.pointer a,.slice (some ⟨b_5,0,none⟩) (n+ByteArray.size s) cap_6] 133 (.slice (some ⟨b_5,0,none⟩) (n+ByteArray.size s) cap_6) kr kr kr kr kr kr (of_decide_eq_true kr) kr kr ?_;intro w5 H5;clear H4;refine zc<|zg [0,1,2,3] kr kr<|zm (some 17) (.string s) (fun w=>by kernel_rfl) kr<|zm (some 18) (.int .i64 (ByteArray.size s:Int)) (fun w=>by kernel_rfl) kr<|zm (some 4) (.int .i64 (ByteArray.size s:Int)) (fun w=>by kernel_rfl) kr<|zm (some 5) (.nilIface) (fun w=>by kernel_rfl) kr<|zc<|zl kr<|wV ?_;exact ⟨[.int .i64 (ByteArray.size s:Int),.nilIface],(.tmp (.int .i64 (ByteArray.size s:Int)) kr (.tmp (.nilIface) kr .nil)),rfl,_,(BE.row a b_5 (n+ByteArray.size s) cap_6 cur_7 (out++tl s) ha (by rw [List.length_append,zt,hn]) hr_8),H5⟩
theorem zhz (pb m:Nat)(ih: ∀(out:List UInt8) (l:Bool) (s:ByteArray) (p:Option Addr) (n c:Nat) (k:Fo),s.size≤0x800000000000→List.length out+9+ByteArray.size s+wtF k≤0x800000000000→k.cnt<m→xy Tryz.prog 103 #[.pointer (some ⟨pb,0,none⟩),.agg #[.bool l,.string s,.slice p n c]] (.tuple #[]) pb 133 5 out (out++wr1 l s (szF k) (wrF k)) (fun w=>zp w.heap.size w p n k))(out:List UInt8)(l:Bool)(s:ByteArray)(p:Option Addr)(n c:Nat)(k:Fo)(hs:s.size≤0x800000000000)(hw:List.length out+9+ByteArray.size s+wtF k≤0x800000000000)(hkm:k.cnt<m+1):xy Tryz.prog 103 #[.pointer (some ⟨pb,0,none⟩),.agg #[.bool l,.string s,.slice p n c]] (.tuple #[]) pb 133 5 out (out++wr1 l s (szF k) (wrF k)) (fun w=>zp w.heap.size w p n k):=by
 refine xy.intro (c:=zk Tryz.f103) [] 31 Tryz.func103 kr kr kr fun w0 w E0 hE0 hpre H0=>?_;have hn:=hpre.1;have hnm:=hpre.2.1;refine zg [0] kr kr<|jF H0 (some 3) 83 (.tmp 1) (.agg #[.bool l,.string s,.slice p n c]) kr kr kr ?_;intro b1 w1 H1;clear H0;refine zc<|zb kr<|zg [0,1,2,3] kr kr<|zm (some 6) (.pointer (some ⟨b1,1,none⟩)) (fun w=>by kernel_rfl) kr<|qY H1 (some 7) 9 (.tmp 6) 0 b1 1 #[.bool l,.string s,.slice p n c] 83 (0,0) (.string s) kr kr kr kr kr kr<|jS H1 (some 8) 127 #[.string s] (.bool (zX s)) (uu s) (fun w=>by kernel_rfl) kr ?_;intro w2 H2;clear H1;cases hq1:zX s
 ·refine zm (some 9) (.bool true) (fun w=>by kernel_rfl) kr<|zc<|zf kr kr ?_;have hsl:=ku k;have hhl:=jI (frm l) (ByteArray.size s+szF k);refine D2.g_draw0 [0,1,2,3,4,5] [(some 10,fun _=>.pointer (some ⟨pb,0,none⟩)),(some 11,fun _=>.agg #[.bool l,.string s,.slice p n c]),(some 12,fun _=>.agg #[.bool l,.string s,.slice p n c]),(some 13,fun _=>.int .u64 ((ByteArray.size s+szF k:Nat):Int)),(some 14,fun _=>.string (zh (hd (frm l) (ByteArray.size s+szF k)))),(some 15,fun _=>.tuple #[.int .i64 (ByteArray.size (zh (hd (frm l) (ByteArray.size s+szF k))):Int),.nilIface])] (qb w0 pb 133 5 (out++tl (zh (hd (frm l) (ByteArray.size s+szF k)))) (b1,Obj.cells #[.bool l,.string s,.slice p n c] 83 (0,0)) E0 5) kr kr kr H2.drew ⟨?_,?_,?_,?_,?_,?_,trivial⟩ ?_
  ·exact zho rfl (fun g w=>by kernel_rfl)
  ·exact zdz (C:=#[.bool l,.string s,.slice p n c]) (T':=83) (t:=83) (x:=(.tmp 3)) rfl (fun g=>by kernel_rfl) (fun g=>by kernel_rfl) rfl kr
  ·exact zdz (C:=#[.bool l,.string s,.slice p n c]) (T':=83) (t:=83) (x:=(.tmp 3)) rfl (fun g=>by kernel_rfl) (fun g=>by kernel_rfl) rfl kr
  ·exact zdA (f:=128) (args:=#[.agg #[.bool l,.string s,.slice p n c]]) rfl (zhl l s p n c k hs (by omega)) (fun w hb=>zp.call hpre hb) (fun g w=>by kernel_rfl)
  ·exact zhp (f:=129) (args:=#[.agg #[.bool l,.string s,.slice p n c],.int .u64 ((ByteArray.size s+szF k:Nat):Int)]) rfl (zdr l s p n c (ByteArray.size s+szF k) (by omega)) (fun g w=>by kernel_rfl)
  ·exact zhq (f:=130) (args:=#[.pointer (some ⟨pb,0,none⟩),.string (zh (hd (frm l) (ByteArray.size s+szF k)))]) rfl hE0 (zbq pb out (zh (hd (frm l) (ByteArray.size s+szF k))) (Or.inl (by rw [qh];exact hhl.1)) (by rw [qh];omega)) (fun g w=>by kernel_rfl)
  intro L0 G0 w3 hall HL;clear H2;obtain ⟨E1,hE1,H3⟩:=HL.done (hall 5 (Nat.le_of_ble_eq_true kr));refine wW<|zg [0,1,2,3] kr kr ?_;have hl0:(out++tl (zh (hd (frm l) (ByteArray.size s+szF k)))).length=out.length+(hd (frm l) (ByteArray.size s+szF k)).length:=by rw [List.length_append,qm]
  have hw1:out++wr1 l s (szF k) (wrF k)=(out++tl (zh (hd (frm l) (ByteArray.size s+szF k)))++tl s)++wrF k:=by unfold wr1;rw [if_neg (by rw [hq1];decide),qm];simp only [List.append_assoc]
  have hl1:(out++tl (zh (hd (frm l) (ByteArray.size s+szF k)))++tl s).length=out.length+(hd (frm l) (ByteArray.size s+szF k)).length+ByteArray.size s:=by rw [List.length_append,hl0,zt]
  refine zm (some 16) (.pointer (some ⟨pb,0,none⟩)) (fun w=>by kernel_rfl) kr<|zm (some 17) (.pointer (some ⟨b1,1,none⟩)) (fun w=>by kernel_rfl) kr<|qY H3 (some 18) 9 (.tmp 17) 0 b1 1 #[.bool l,.string s,.slice p n c] 83 (0,0) (.string s) kr kr kr kr kr kr<|zbm (l:=[(b1,Obj.cells #[.bool l,.string s,.slice p n c] 83 (0,0))]) H3 hE1 (some 19) 130 #[.pointer (some ⟨pb,0,none⟩),.string s] (.tuple #[.int .i64 (ByteArray.size s:Int),.nilIface]) ((out++tl (zh (hd (frm l) (ByteArray.size s+szF k))))++tl s) (fun _=>True) (zbq pb (out++tl (zh (hd (frm l) (ByteArray.size s+szF k)))) s (Or.inr (by intro q;have h9:=congrArg List.length q;rw [hl0] at h9;simp only [List.length_nil] at h9;omega)) (by rw [hl0];omega)) trivial kr kr ?_;intro E2 w4 hE2 H4;clear H3;refine zc<|zg [0,1,2,3] kr kr<|zm (some 20) (.pointer (some ⟨b1,2,none⟩)) (fun w=>by kernel_rfl) kr<|qY H4 (some 21) 81 (.tmp 20) 0 b1 2 #[.bool l,.string s,.slice p n c] 83 (0,0) (.slice p n c) kr kr kr kr kr kr<|zm (some 22) (.int .i64 (n:Int)) (fun w=>by kernel_rfl) kr<|zm (some 23) (.int .i64 0) (fun w=>by kernel_rfl) kr<|zc<|zn 0 kr ?_;have HD1:St w0.heap.size w0 w4 ([]++E2):=H4.sub (List.Sublist.cons _ (List.Sublist.refl E2));refine zV kr (fun mz ρ ww=> ∃(i:Nat) (r:Fo) (o:List UInt8) (Ez:List (Nat×Obj)),n-i=mz∧(FoR w0.heap.size w0 p i r)∧(i+Fo.len r=n)∧(Fo.cnt r≤Fo.cnt k)∧(List.length o+wtF r≤0x800000000000)∧(out++wr1 l s (szF k) (wrF k)=o++wrF r)∧(BE pb 133 5 o Ez)∧St w0.heap.size w0 ww ([]++Ez)∧Is [(0,.pointer (some ⟨pb,0,none⟩)),(1,.agg #[.bool l,.string s,.slice p n c]),(3,.pointer (some ⟨b1,0,none⟩)),(9,.bool true),(21,.slice p n c),(22,.int .i64 (n:Int)),(23,.int .i64 (i:Int))] ρ) (n-0) ⟨0,k,((out++tl (zh (hd (frm l) (ByteArray.size s+szF k))))++tl s),E2,rfl,(zp.start hpre),(by have hn0:=(hpre).1;omega),(Nat.le_refl _),(by rw [hl1];omega),hw1,hE2,HD1,(Is.of ⟨kr,kr,kr,kr,kr,kr,kr,trivial⟩)⟩ ?_;clear HD1;rintro _ _ w5 ⟨i,r,o,Ez,rfl,hR,hN,hcn,hwt,hout,hEz,H5,_,rfl⟩;refine zg [0] kr kr ?_;by_cases hc2:(i:Nat)<n
  ·refine qr (some 24) (.bool (decide ((i:Int)<(n:Int)))) (.bool true) (fun w=>by kernel_rfl) (za (decide_eq_true (by omega))) kr<|zc<|zb kr<|zf kr kr<|zj kr<|wW<|zb kr<|zn 1 kr<|zg [0,1,2,3] kr kr ?_;obtain ⟨l1,s1,k1,r1,b1,off1,C1,T1,fz1,p1,n1,c1,hr1,hp1,hb1,hh1,hs1,hx1,hz1,hk1,hR1,hN1⟩:=FoR.open hR hN (by omega);refine kV (some 25) _ (.pointer (some ⟨b1,off1+i*3,none⟩)) kr kr (fun o w ho=>jj (kd:=.i64) (t:=81) (e:=83) (bytes:=48) kr (x:=(.tmp 21)) (y:=(.tmp 23)) b1 off1 n c i hp1 ho kr kr (by omega) w)<|zcM H5 (some 26) 83 (.tmp 25) b1 (off1+i*3) 3 C1 #[.bool l1,.string s1,.slice p1 n1 c1] T1 fz1 kr kr kr hh1 hb1 kr hs1 hx1<|zB H5 (some 5) 83 (.agg #[.bool false,.string (⟨#[]⟩),.slice none 0 0]) kr kr kr ?_;intro b2 w6 H6;clear H5;refine qf H6 0 ([(b2,Obj.cells #[.bool l1,.string s1,.slice p1 n1 c1] 83 (0,0))]++Ez) 83 (.tmp 5) (.tmp 26) b2 (0) (#[.bool false,.string (⟨#[]⟩),.slice none 0 0]) #[.bool l1,.string s1,.slice p1 n1 c1] 83 (.agg #[.bool l1,.string s1,.slice p1 n1 c1]) kr kr kr kr kr kr (of_decide_eq_true kr) kr kr ?_;intro w7 H7;clear H6;refine zc<|yv [0,1,2] kr ?_;have hcn1:=hcn;rw [hr1] at hcn1;simp only [Fo.cnt] at hcn1;have hwt1:=hwt;rw [hr1] at hwt1;simp only [wtF] at hwt1;have hwl1:(wr1 l1 s1 (szF k1) (wrF k1)).length≤9+ByteArray.size s1+wtF k1:=by have h9:=vq (.cons l1 s1 k1 .nil);simp only [wrF,wtF,List.append_nil,Nat.add_zero] at h9;exact h9
   refine zm (some 27) (.pointer (some ⟨pb,0,none⟩)) (fun w=>by kernel_rfl) kr<|yM H7 (some 28) 83 (.tmp 5) 0 b2 #[.bool l1,.string s1,.slice p1 n1 c1] 83 (0,0) kr kr kr kr kr ?_;have HD3:St w0.heap.size w0 w7 ([]++Ez):=H7.sub (List.Sublist.cons _ (List.Sublist.refl Ez));refine zbn HD3 hEz (some 29) 103 #[.pointer (some ⟨pb,0,none⟩),.agg #[.bool l1,.string s1,.slice p1 n1 c1]] (.tuple #[]) (o++wr1 l1 s1 (szF k1) (wrF k1)) (fun w=>zp w.heap.size w p1 n1 k1) (ih o l1 s1 p1 n1 c1 k1 hz1 (by omega) (by omega)) hk1 kr kr ?_;intro E3 w8 hE3 H8;clear HD3;refine zc<|wW<|yv [0,1] kr<|qr (some 30) (.int .i64 (IntKind.i64.wrap ((i:Int)+1))) (.int .i64 ((i+1:Nat):Int)) (fun w=>by kernel_rfl) (zd (zs (a:=i) (b:=1) (by omega))) kr<|zm (some 23) (.int .i64 ((i+1:Nat):Int)) (fun w=>by kernel_rfl) kr<|zc ?_;show ∃m,_∧_;exact ⟨_,(by omega),(i+1),r1,(o++wr1 l1 s1 (szF k1) (wrF k1)),E3,rfl,hR1,hN1,(by omega),(by rw [List.length_append];omega),(by rw [hout,hr1];simp only [wrF,List.append_assoc]),hE3,H8,(Is.of ⟨kr,kr,kr,kr,kr,kr,kr,trivial⟩)⟩
  ·refine qr (some 24) (.bool (decide ((i:Int)<(n:Int)))) (.bool false) (fun w=>by kernel_rfl) (za (decide_eq_false (by omega))) kr<|zc<|zb kr<|zi kr kr<|zN 0 kr<|wV ?_;have hdn:=FoR.done hN (by omega);rw [hdn] at hout;exact ⟨[],.nil,rfl,_,(by rw [hout,show wrF Fo.nil=[] from rfl,List.append_nil];exact hEz),H5⟩
 ·refine zm (some 9) (.bool false) (fun w=>by kernel_rfl) kr<|zc<|zi kr kr<|zj kr<|wW<|zg [0,1,2,3] kr kr ?_;have hsz1:=jk hq1;have hw1:out++wr1 l s (szF k) (wrF k)=(out++tl s)++wrF k:=by unfold wr1;rw [if_pos hq1,List.nil_append,List.append_assoc]
  have hl1:(out++tl s).length=out.length+ByteArray.size s:=by rw [List.length_append,zt]
  refine zm (some 16) (.pointer (some ⟨pb,0,none⟩)) (fun w=>by kernel_rfl) kr<|zm (some 17) (.pointer (some ⟨b1,1,none⟩)) (fun w=>by kernel_rfl) kr<|qY H2 (some 18) 9 (.tmp 17) 0 b1 1 #[.bool l,.string s,.slice p n c] 83 (0,0) (.string s) kr kr kr kr kr kr<|zbm (l:=[(b1,Obj.cells #[.bool l,.string s,.slice p n c] 83 (0,0))]) H2 hE0 (some 19) 130 #[.pointer (some ⟨pb,0,none⟩),.string s] (.tuple #[.int .i64 (ByteArray.size s:Int),.nilIface]) (out++tl s) (fun _=>True) (zbq pb out s (Or.inl (by omega)) (by omega)) trivial kr kr ?_;intro E4 w9 hE4 H9;clear H2;refine zc<|zg [0,1,2,3] kr kr<|zm (some 20) (.pointer (some ⟨b1,2,none⟩)) (fun w=>by kernel_rfl) kr<|qY H9 (some 21) 81 (.tmp 20) 0 b1 2 #[.bool l,.string s,.slice p n c] 83 (0,0) (.slice p n c) kr kr kr kr kr kr<|zm (some 22) (.int .i64 (n:Int)) (fun w=>by kernel_rfl) kr<|zm (some 23) (.int .i64 0) (fun w=>by kernel_rfl) kr<|zc<|zn 0 kr ?_;have HD4:St w0.heap.size w0 w9 ([]++E4):=H9.sub (List.Sublist.cons _ (List.Sublist.refl E4));refine zV kr (fun mz ρ ww=> ∃(i:Nat) (r:Fo) (o:List UInt8) (Ez:List (Nat×Obj)),n-i=mz∧(FoR w0.heap.size w0 p i r)∧(i+Fo.len r=n)∧(Fo.cnt r≤Fo.cnt k)∧(List.length o+wtF r≤0x800000000000)∧(out++wr1 l s (szF k) (wrF k)=o++wrF r)∧(BE pb 133 5 o Ez)∧St w0.heap.size w0 ww ([]++Ez)∧Is [(0,.pointer (some ⟨pb,0,none⟩)),(1,.agg #[.bool l,.string s,.slice p n c]),(3,.pointer (some ⟨b1,0,none⟩)),(9,.bool false),(21,.slice p n c),(22,.int .i64 (n:Int)),(23,.int .i64 (i:Int))] ρ) (n-0) ⟨0,k,(out++tl s),E4,rfl,(zp.start hpre),(by have hn0:=(hpre).1;omega),(Nat.le_refl _),(by rw [hl1];omega),hw1,hE4,HD4,(Is.of ⟨kr,kr,kr,kr,kr,kr,kr,trivial⟩)⟩ ?_;clear HD4;rintro _ _ w10 ⟨i,r,o,Ez,rfl,hR,hN,hcn,hwt,hout,hEz,H10,_,rfl⟩;refine zg [0] kr kr ?_;by_cases hc5:(i:Nat)<n
  ·refine qr (some 24) (.bool (decide ((i:Int)<(n:Int)))) (.bool true) (fun w=>by kernel_rfl) (za (decide_eq_true (by omega))) kr<|zc<|zb kr<|zf kr kr<|zj kr<|wW<|zb kr<|zn 1 kr<|zg [0,1,2,3] kr kr ?_;obtain ⟨l2,s2,k2,r2,b2,off2,C2,T2,fz2,p2,n2,c2,hr2,hp2,hb2,hh2,hs2,hx2,hz2,hk2,hR2,hN2⟩:=FoR.open hR hN (by omega);refine kV (some 25) _ (.pointer (some ⟨b2,off2+i*3,none⟩)) kr kr (fun o w ho=>jj (kd:=.i64) (t:=81) (e:=83) (bytes:=48) kr (x:=(.tmp 21)) (y:=(.tmp 23)) b2 off2 n c i hp2 ho kr kr (by omega) w)<|zcM H10 (some 26) 83 (.tmp 25) b2 (off2+i*3) 3 C2 #[.bool l2,.string s2,.slice p2 n2 c2] T2 fz2 kr kr kr hh2 hb2 kr hs2 hx2<|zB H10 (some 5) 83 (.agg #[.bool false,.string (⟨#[]⟩),.slice none 0 0]) kr kr kr ?_;intro b3 w11 H11;clear H10;refine qf H11 0 ([(b3,Obj.cells #[.bool l2,.string s2,.slice p2 n2 c2] 83 (0,0))]++Ez) 83 (.tmp 5) (.tmp 26) b3 (0) (#[.bool false,.string (⟨#[]⟩),.slice none 0 0]) #[.bool l2,.string s2,.slice p2 n2 c2] 83 (.agg #[.bool l2,.string s2,.slice p2 n2 c2]) kr kr kr kr kr kr (of_decide_eq_true kr) kr kr ?_;intro w12 H12;clear H11;refine zc<|yv [0,1,2] kr ?_;have hcn2:=hcn;rw [hr2] at hcn2;simp only [Fo.cnt] at hcn2;have hwt2:=hwt;rw [hr2] at hwt2;simp only [wtF] at hwt2;have hwl2:(wr1 l2 s2 (szF k2) (wrF k2)).length≤9+ByteArray.size s2+wtF k2:=by have h9:=vq (.cons l2 s2 k2 .nil);simp only [wrF,wtF,List.append_nil,Nat.add_zero] at h9;exact h9
   refine zm (some 27) (.pointer (some ⟨pb,0,none⟩)) (fun w=>by kernel_rfl) kr<|yM H12 (some 28) 83 (.tmp 5) 0 b3 #[.bool l2,.string s2,.slice p2 n2 c2] 83 (0,0) kr kr kr kr kr ?_;have HD6:St w0.heap.size w0 w12 ([]++Ez):=H12.sub (List.Sublist.cons _ (List.Sublist.refl Ez));refine zbn HD6 hEz (some 29) 103 #[.pointer (some ⟨pb,0,none⟩),.agg #[.bool l2,.string s2,.slice p2 n2 c2]] (.tuple #[]) (o++wr1 l2 s2 (szF k2) (wrF k2)) (fun w=>zp w.heap.size w p2 n2 k2) (ih o l2 s2 p2 n2 c2 k2 hz2 (by omega) (by omega)) hk2 kr kr ?_;intro E5 w13 hE5 H13;clear HD6;refine zc<|wW<|yv [0,1] kr<|qr (some 30) (.int .i64 (IntKind.i64.wrap ((i:Int)+1))) (.int .i64 ((i+1:Nat):Int)) (fun w=>by kernel_rfl) (zd (zs (a:=i) (b:=1) (by omega))) kr<|zm (some 23) (.int .i64 ((i+1:Nat):Int)) (fun w=>by kernel_rfl) kr<|zc ?_;show ∃m,_∧_;exact ⟨_,(by omega),(i+1),r2,(o++wr1 l2 s2 (szF k2) (wrF k2)),E5,rfl,hR2,hN2,(by omega),(by rw [List.length_append];omega),(by rw [hout,hr2];simp only [wrF,List.append_assoc]),hE5,H13,(Is.of ⟨kr,kr,kr,kr,kr,kr,kr,trivial⟩)⟩
  ·refine qr (some 24) (.bool (decide ((i:Int)<(n:Int)))) (.bool false) (fun w=>by kernel_rfl) (za (decide_eq_false (by omega))) kr<|zc<|zb kr<|zi kr kr<|zN 0 kr<|wV ?_;have hdn:=FoR.done hN (by omega);rw [hdn] at hout;exact ⟨[],.nil,rfl,_,(by rw [hout,show wrF Fo.nil=[] from rfl,List.append_nil];exact hEz),H10⟩
theorem zhA (pb:Nat)(out:List UInt8)(l:Bool)(s:ByteArray)(p:Option Addr)(n c:Nat)(k:Fo)(hs:s.size≤0x800000000000)(hw:List.length out+9+ByteArray.size s+wtF k≤0x800000000000):xy Tryz.prog 103 #[.pointer (some ⟨pb,0,none⟩),.agg #[.bool l,.string s,.slice p n c]] (.tuple #[]) pb 133 5 out (out++wr1 l s (szF k) (wrF k)) (fun w=>zp w.heap.size w p n k):=by
 have key: ∀(m:Nat) (out:List UInt8) (l:Bool) (s:ByteArray) (p:Option Addr) (n c:Nat) (k:Fo),s.size≤0x800000000000→List.length out+9+ByteArray.size s+wtF k≤0x800000000000→k.cnt<m→xy Tryz.prog 103 #[.pointer (some ⟨pb,0,none⟩),.agg #[.bool l,.string s,.slice p n c]] (.tuple #[]) pb 133 5 out (out++wr1 l s (szF k) (wrF k)) (fun w=>zp w.heap.size w p n k):=by
  intro m
  induction m with
  | zero=>intros;omega
  | succ m ih=>intro out l s p n c k hs hw hkm;exact zhz pb m ih out l s p n c k hs hw hkm
 exact key (k.cnt+1) out l s p n c k hs hw (by omega)
def FnO (P:Program)(f:Nat)(args:Array Value)(v:Value)(p:Nat)(T e:TypeId)(out:List UInt8):Prop:=
 ∀(w0 w:World) (E:List (Nat×Obj)),BE p T e out E→St w0.heap.size w0 w E→Calls P f args w fun r w'=>r=.returned v∧St w0.heap.size w0 w' []
theorem zhB {P:Program}{N:Nat}{ops:Array Oper}{i:Nat}{r:List Nat}{K:Env→World→Prop}{ρ:Env}{w:World}{w0:World}{E:List (Nat×Obj)}(HS:St w0.heap.size w0 w E){p:Nat}{T e:TypeId}{out:List UInt8}(hE:BE p T e out E)(d:Option Nat)(f:Nat)(args:Array Value)(v:Value)(hc:FnO P f args v p T e out)
 (h:opv P ops i ρ w=some (d,true,.ok (.enter f args) w)) (hd:dOK d N=true) (kk: ∀w',St w0.heap.size w0 w' []→WPs P N ops K r (zr ρ d v) w'):WPs P N ops K (i::r) ρ w:=by
 obtain ⟨o,ho,rfl,hw,hr⟩:=zU h;refine WPo.run ho hw fun a ha=>?_;rw [hr,Oper.upon_enter];refine (hc w0 w E hE HS).mono ?_;rintro _ w' ⟨rfl,hS⟩;exact ⟨_,ha.put _ (zT hd) v,kk w' hS⟩
theorem zhC (pb b n cap:Nat)(cur:Array Value)(out:List UInt8)(a:Option Addr)(hn:n=out.length)(hr:Rw 1 cur cap n (cellsB out))(h0:0<n)(hm:n≤0x800000000000)(hcap:cap≠0)(w0 w:World)(H0:St w0.heap.size w0 w [(b,Obj.cells cur 5 (0,0)),(pb,Obj.cells #[.pointer a,.slice (some ⟨b,0,none⟩) n cap] 133 (0,0))]):WP Tryz.prog 14 (zk Tryz.f104) (yE Tryz.prog [.tmp 2] fun v' w'=>v'=.string (zh out)∧St w0.heap.size w0 w' []) (ini #[.pointer (some ⟨pb,0,none⟩)]) w:=by
 refine zg [0] kr kr<|zm (some 2) (.string (⟨#[]⟩)) (fun w=>by kernel_rfl) kr<|zc<|D2.g_sdraw [0,1,2,3,4,5,6,7,8,9,10,11] [(some 3,fun _=>.pointer (some ⟨pb,0,none⟩)),(some 4,fun _=>.pointer (some ⟨pb,0,none⟩)),(some 5,fun _=>.pointer (some ⟨pb,1,none⟩)),(some 6,fun _=>.slice (some ⟨b,0,none⟩) n cap),(some 7,fun _=>.pointer (some ⟨b,0,none⟩)),(some 8,fun _=>.pointer (some ⟨pb,0,none⟩)),(some 9,fun _=>.pointer (some ⟨pb,0,none⟩)),(some 10,fun _=>.pointer (some ⟨pb,1,none⟩)),(some 11,fun _=>.slice (some ⟨b,0,none⟩) n cap),(some 12,fun _=>.int .i64 (n:Int)),(some 13,fun _=>.string (zh out)),(some 2,fun _=>.string (zh out))] (jl w0 [(b,Obj.cells cur 5 (0,0)),(pb,Obj.cells #[.pointer a,.slice (some ⟨b,0,none⟩) n cap] 133 (0,0))] 10) kr kr kr kr H0.drew ⟨?_,?_,?_,?_,?_,?_,?_,?_,?_,?_,?_,?_,trivial⟩ ?_
 ·exact xz rfl (fun g w=>by kernel_rfl)
 ·exact xz rfl (fun g w=>by kernel_rfl)
 ·exact xz rfl (fun g w=>by kernel_rfl)
 ·exact zbo rfl (fun L hN=>(hN.2.2.no 4 10 kr (hN.post 4 kr))) (.load 76 (.tmp 5)) (fun g=>by kernel_rfl) (fun g w o hS ho=>hS.load1_run (j:=1) (b:=pb) (off:=1) (C:=#[.pointer a,.slice (some ⟨b,0,none⟩) n cap]) (T:=133) kr kr kr kr o ho)
 ·exact zbo rfl (fun L hN=>(hN.post 10 kr)) (zbp 76 (.tmp 6)) (fun g=>by kernel_rfl) (fun g w o hS ho=>zhs (a:=⟨b,0,none⟩) (n:=n) (c:=cap) kr (by omega) o ho)
 ·exact xz rfl (fun g w=>by kernel_rfl)
 ·exact xz rfl (fun g w=>by kernel_rfl)
 ·exact xz rfl (fun g w=>by kernel_rfl)
 ·exact zbo rfl (fun L hN=>(hN.2.2.no 9 10 kr (hN.post 9 kr))) (.load 76 (.tmp 10)) (fun g=>by kernel_rfl) (fun g w o hS ho=>hS.load1_run (j:=1) (b:=pb) (off:=1) (C:=#[.pointer a,.slice (some ⟨b,0,none⟩) n cap]) (T:=133) kr kr kr kr o ho)
 ·exact xz rfl (fun g w=>by kernel_rfl)
 ·exact zhr rfl (vn 164 3 (.tmp 7) (.tmp 12)) (fun g=>by kernel_rfl) (fun g w o hS ho=>zht (j:=0) (b:=b) (n:=n) (cap:=cap) (C:=cur) (e:=5) hS kr kr kr kr kr hr (by omega) (by omega) o ho)
 ·exact xz rfl (fun g w=>by kernel_rfl)
 intro L0 G0 w1 hall HL;clear H0;have H1:St w0.heap.size w0 w1 []:=by unfold jl at HL;rw [hall 10 (Nat.le_of_ble_eq_true kr)] at HL;exact HL
 refine zl kr<|wV ?_;exact ⟨[.string (zh out)],.tmp _ kr .nil,rfl,H1⟩
theorem zhD (pb:Nat)(out:List UInt8)(h0:0<out.length)(hm:out.length≤0x800000000000):FnO Tryz.prog 104 #[.pointer (some ⟨pb,0,none⟩)] (.string (zh out)) pb 133 5 out:=fun w0 w E hE HS=>by
 rcases hE with ⟨a,ha⟩|⟨a,b,n,cap,cur,_,ha,hn,hr⟩
 ·simp at h0
 ·have h9:Calls Tryz.prog 104 #[.pointer (some ⟨pb,0,none⟩)] w fun r w'=> ∃v',r=.returned v'∧(v'=.string (zh out)∧St w0.heap.size w0 w' []):=
   jQ (c:=zk Tryz.f104) (rs:=[.tmp 2]) (N:=14) Tryz.func104 kr kr kr (zhC pb b n cap cur out a hn hr (by omega) (by omega) (by have:=hr.le;omega) w0 w HS)
  refine h9.mono ?_;rintro _ w' ⟨v',he,hv,hS⟩;exact ⟨by rw [he,hv],hS⟩
theorem zhE (l:Bool)(s:ByteArray)(p:Option Addr)(n c:Nat)(k:Fo)(hs:s.size≤0x800000000000):FnP Tryz.prog 65 #[.agg #[.bool l,.string s,.slice p n c]] (fun w=>zp w.heap.size w p n k) (kw (zP l s n k)):=by
 refine FnP.intro (c:=zk Tryz.f65) [.tmp 2,.tmp 3] 20 Tryz.func65 kr kr kr fun w hpre=>?_;have H0:=St.start w;have hn:=hpre.1;have hnm:=hpre.2.1;have hdl:=us k;refine zg [0,1,2] kr kr<|jF H0 (some 1) 83 (.tmp 0) (.agg #[.bool l,.string s,.slice p n c]) kr kr kr ?_;intro b1 w1 H1;clear H0;refine zm (some 2) (.string (⟨#[]⟩)) (fun w=>by kernel_rfl) kr<|zm (some 3) (.int .i64 0) (fun w=>by kernel_rfl) kr<|zc<|zb kr<|zn 0 kr<|zg [0,1,2,3] kr kr<|yM H1 (some 6) 83 (.tmp 1) 0 b1 #[.bool l,.string s,.slice p n c] 83 (0,0) kr kr kr kr kr<|yJ H1 (some 7) 101 #[.agg #[.bool l,.string s,.slice p n c],.int .i64 4000] (fun w=>zp w.heap.size w p n k) (.int .i64 (lfV (lf1 l s n (lfF k) 4000))) (zhg l s p n c k (by omega) 4000 (by omega)) (zp.call hpre H1.below) (fun w=>by kernel_rfl) kr ?_;intro w2 H2;clear H1;rcases zbf (lf1 l s n (lfF k) 4000) with hv1 | ⟨y,hv1⟩
 ·refine zz 7 (v:=.int .i64 (lfV (lf1 l s n (lfF k) 4000))) (v':=.int .i64 (-1)) (zd (by rw [hv1];rfl)) kr<|zm (some 8) (.bool true) (fun w=>by kernel_rfl) kr<|zm (some 5) (.bool true) (fun w=>by kernel_rfl) kr<|zc<|zf kr kr<|zg [0,1] kr kr<|zm (some 2) (.string (⟨#[]⟩)) (fun w=>by kernel_rfl) kr<|zm (some 3) (.int .i64 1) (fun w=>by kernel_rfl) kr<|zc<|zl kr<|wV ?_;exact ⟨[.string (⟨#[]⟩),.int .i64 1],(.tmp (.string (⟨#[]⟩)) kr (.tmp (.int .i64 1) kr .nil)),(zg9 hv1).symm,H2.below⟩
 ·refine zz 7 (v:=.int .i64 (lfV (lf1 l s n (lfF k) 4000))) (v':=.int .i64 (y:Int)) (zd (by rw [hv1];rfl)) kr ?_;have hok:=zdo hv1;have hcn:k.cnt<4000:=hok.2.2;have hwt:=hpre.wt;refine qr (some 8) (.bool (decide ((y:Int)<0))) (.bool false) (fun w=>by kernel_rfl) (za (decide_eq_false (by omega))) kr<|zm (some 5) (.bool false) (fun w=>by kernel_rfl) kr<|zc<|zi kr kr<|zg [0,1,2,3] kr kr<|yM H2 (some 10) 83 (.tmp 1) 0 b1 #[.bool l,.string s,.slice p n c] 83 (0,0) kr kr kr kr kr<|yJ H2 (some 11) 92 #[.agg #[.bool l,.string s,.slice p n c]] (fun w=>zp w.heap.size w p n k) (.int .i64 ((dp1 l (dpF k):Nat):Int)) (zbk l s p n c k (by omega) (by omega)) (zp.call hpre H2.below) (fun w=>by kernel_rfl) kr ?_;intro w3 H3;clear H2;by_cases hc1:(dp1 l (dpF k):Nat)>8
  ·refine qr (some 12) (.bool (decide (8<((dp1 l (dpF k):Nat):Int)))) (.bool true) (fun w=>by kernel_rfl) (za (decide_eq_true (by omega))) kr<|zm (some 9) (.bool true) (fun w=>by kernel_rfl) kr<|zc<|zf kr kr<|zg [0,1] kr kr<|zm (some 2) (.string (⟨#[]⟩)) (fun w=>by kernel_rfl) kr<|zm (some 3) (.int .i64 5) (fun w=>by kernel_rfl) kr<|zc<|zl kr<|wV ?_;exact ⟨[.string (⟨#[]⟩),.int .i64 5],(.tmp (.string (⟨#[]⟩)) kr (.tmp (.int .i64 5) kr .nil)),(zha hv1 (by omega)).symm,H3.below⟩
  ·refine qr (some 12) (.bool (decide (8<((dp1 l (dpF k):Nat):Int)))) (.bool false) (fun w=>by kernel_rfl) (za (decide_eq_false (by omega))) kr<|zm (some 9) (.bool false) (fun w=>by kernel_rfl) kr<|zc<|zi kr kr<|zg [0,1,2,3] kr kr<|yM H3 (some 14) 83 (.tmp 1) 0 b1 #[.bool l,.string s,.slice p n c] 83 (0,0) kr kr kr kr kr<|yJ H3 (some 15) 102 #[.agg #[.bool l,.string s,.slice p n c]] (fun w=>zp w.heap.size w p n k) (.int .u64 ((sz1 l s (szF k):Nat):Int)) (zdt l s p n c k (by omega) (by omega)) (zp.call hpre H3.below) (fun w=>by kernel_rfl) kr ?_;intro w4 H4;clear H3;by_cases hc2:(sz1 l s (szF k):Nat)>4000
   ·refine qr (some 16) (.bool (decide (4000<((sz1 l s (szF k):Nat):Int)))) (.bool true) (fun w=>by kernel_rfl) (za (decide_eq_true (by omega))) kr<|zm (some 13) (.bool true) (fun w=>by kernel_rfl) kr<|zc<|zf kr kr<|zg [0,1] kr kr<|zm (some 2) (.string (⟨#[]⟩)) (fun w=>by kernel_rfl) kr<|zm (some 3) (.int .i64 2) (fun w=>by kernel_rfl) kr<|zc<|zl kr<|wV ?_;exact ⟨[.string (⟨#[]⟩),.int .i64 2],(.tmp (.string (⟨#[]⟩)) kr (.tmp (.int .i64 2) kr .nil)),(zhb hv1 (by omega) (by omega)).symm,H4.below⟩
   ·refine qr (some 16) (.bool (decide (4000<((sz1 l s (szF k):Nat):Int)))) (.bool false) (fun w=>by kernel_rfl) (za (decide_eq_false (by omega))) kr<|zm (some 13) (.bool false) (fun w=>by kernel_rfl) kr<|zc<|zi kr kr<|zj kr<|wW<|zg [0] kr kr ?_;have hpw:=zhd hok.1 hok.2.1 (show sz1 l s (szF k)≤4000 by omega) (by omega);refine zB H4 (some 4) 133 (.agg #[.pointer none,.slice none 0 0]) kr kr kr ?_;intro b2 w5 H5;clear H4;refine zc<|zg [0,1] kr kr<|yM H5 (some 17) 83 (.tmp 1) 1 b1 #[.bool l,.string s,.slice p n c] 83 (0,0) kr kr kr kr kr ?_;have HD3:St w.heap.size w w5 [(b2,Obj.cells #[.pointer none,.slice none 0 0] 133 (0,0))]:=H5.sub (List.Sublist.cons_cons _ (List.Sublist.cons _ List.Sublist.slnil));have hE0:BE b2 133 5 [] [(b2,Obj.cells #[.pointer none,.slice none 0 0] 133 (0,0))]:=BE.nil none (Or.inl rfl);refine zbn HD3 hE0 (some 18) 103 #[.pointer (some ⟨b2,0,none⟩),.agg #[.bool l,.string s,.slice p n c]] (.tuple #[]) ([]++wr1 l s (szF k) (wrF k)) (fun w=>zp w.heap.size w p n k) (zhA b2 [] l s p n c k hs (by simp only [List.length_nil];omega)) hpre kr kr ?_;intro E1 w6 hE1 H6;clear HD3;refine zc<|zg [0,1,2] kr kr ?_;rw [List.nil_append] at hE1;refine zhB H6 hE1 (some 19) 104 #[.pointer (some ⟨b2,0,none⟩)] (.string (zh (wr1 l s (szF k) (wrF k)))) (zhD b2 (wr1 l s (szF k) (wrF k)) (jz hok.1 hok.2.1 (by omega)).1 (by have h9:=(jz hok.1 hok.2.1 (by omega)).2;omega)) kr kr ?_;intro w7 H7;clear H6;refine zm (some 2) (.string (zh (wr1 l s (szF k) (wrF k)))) (fun w=>by kernel_rfl) kr<|zm (some 3) (.int .i64 0) (fun w=>by kernel_rfl) kr<|zc<|zl kr<|wV ?_;exact ⟨[.string (zh (wr1 l s (szF k) (wrF k))),.int .i64 0],(.tmp (.string (zh (wr1 l s (szF k) (wrF k)))) kr (.tmp (.int .i64 0) kr .nil)),(zhc hv1 (by omega) (by omega)).symm,H7.below⟩
structure X3 where
 l:Bool
 s:ByteArray
 p:Option Addr
 n:Nat
 c:Nat
 k:Fo
def X3.cs (x:X3):List Value:=[.bool x.l,.string x.s,.slice x.p x.n x.c]
def cells3:List X3→List Value
 | []=>[]
 | x::r=>.bool x.l ::.string x.s ::.slice x.p x.n x.c::cells3 r
def toFo:List X3→Fo
 | []=>.nil
 | x::r=>.cons x.l x.s x.k (toFo r)
def qD:List X3→Nat
 | []=>0
 | x::r=>x.k.cnt+qD r
theorem uw: ∀L,(toFo L).len=L.length
 | []=>rfl
 | x::r=>by simp only [toFo,Fo.len,List.length_cons,uw r]
theorem jJ: ∀L,(cells3 L).length=L.length*3
 | []=>rfl
 | x::r=>by simp only [cells3,List.length_cons,jJ r];omega
theorem ux: ∀L M,cells3 (L++M)=cells3 L++cells3 M
 | [],M=>rfl
 | x::r,M=>by simp only [List.cons_append,cells3,ux r M]
theorem uy: ∀L,∀u∈cells3 L,u.oneCell'=true
 | [],u,h=>nomatch h
 | x::r,u,h=>by
  simp only [cells3,List.mem_cons] at h;rcases h with rfl | rfl | rfl | h
  ·rfl
  ·rfl
  ·rfl
  ·exact uy r u h
theorem zdB: ∀L M,qD (L++M)=qD L+qD M
 | [],M=>by simp [qD]
 | x::r,M=>by simp only [List.cons_append,qD,zdB r M];omega
theorem zdC: ∀(L:List X3) (i:Nat) (x:X3),L[i]? =some x→qD (L.drop i)=x.k.cnt+qD (L.drop (i+1))
 | [],_,_,h=>by simp at h
 | y::r,0,x,h=>by simp at h;subst h;simp [qD]
 | y::r,i+1,x,h=>by
  have:=zdC r i x (by simpa using h)
  simpa using this
theorem zdD: ∀(L:List X3) (i:Nat) (x:X3),L[i]? =some x→(cells3 L)[i*3]? =some (.bool x.l)∧(cells3 L)[i*3+1]? =some (.string x.s)∧(cells3 L)[i*3+2]? =some (.slice x.p x.n x.c)
 | [],_,_,h=>by simp at h
 | y::r,0,x,h=>by simp at h;subst h;exact ⟨rfl,rfl,rfl⟩
 | y::r,i+1,x,h=>by
  obtain ⟨h1,h2,h3⟩:=zdD r i x (by simpa using h);rw [show (i+1)*3=i*3+3 by omega];exact ⟨h1,h2,h3⟩
theorem ex3 {C:Array Value}{o:Nat}{a b c:Value}(h1:C[o]? =some a)(h2:C[o+1]? =some b)(h3:C[o+2]? =some c):o+3≤C.size∧C.extract o (o+3)=#[a,b,c]:=by
 have hl:=(Array.getElem?_eq_some_iff.1 h3).1;refine ⟨by omega,?_⟩;apply Array.ext
 ·simp;omega
 ·intro j hj1 hj2;simp at hj1 hj2;rcases (show j=0∨j=1∨j=2 by omega) with rfl | rfl | rfl
  ·have:=(Array.getElem?_eq_some_iff.1 h1).2;simpa using this
  ·have:=(Array.getElem?_eq_some_iff.1 h2).2;simpa using this
  ·have:=(Array.getElem?_eq_some_iff.1 h3).2;simpa using this
theorem Rw.at3 {cur:Array Value}{cap n:Nat}{L:List X3}(h:Rw 3 cur cap n (cells3 L)){i:Nat}{x:X3}(hx:L[i]? =some x):cur[i*3]? =some (.bool x.l)∧cur[i*3+1]? =some (.string x.s)∧cur[i*3+2]? =some (.slice x.p x.n x.c):=by
 have hl:=h.len;rw [jJ] at hl;have hi:i<L.length:=(List.getElem?_eq_some_iff.1 hx).1;obtain ⟨h1,h2,h3⟩:=zdD L i x hx;refine ⟨?_,?_,?_⟩
 ·rw [h.get _ (by omega)];exact h1
 ·rw [h.get _ (by omega)];exact h2
 ·rw [h.get _ (by omega)];exact h3
def vt (B:Nat)(w:World)(L:List X3):Prop:= ∀x∈L,zp B w x.p x.n x.k∧x.s.size≤0x800000000000
def qo (t limit:Nat):Nat:=if t≤limit then t else limit+1
def Cnt (t limit len u:Nat):Prop:=len≤limit+1∧(len≤limit→len+u=t)∧(limit<len→limit<t)
theorem Cnt.done {t limit len:Nat}(h:Cnt t limit len 0∨∃u,Cnt t limit len u∧limit<len):qo t limit=len:=by
 unfold qo;rcases h with ⟨h1,h2,h3⟩ | ⟨u,⟨h1,h2,h3⟩,h4⟩
 ·by_cases hl:len≤limit
  ·have:=h2 hl;rw [if_pos (by omega)];omega
  ·have:=h3 (by omega);rw [if_neg (by omega)];omega
 ·have:=h3 h4;rw [if_neg (by omega)];omega
theorem Cnt.push {t limit n u kc rc u':Nat}(h:Cnt t limit n (u+(1+kc+rc)))(hn:n≤limit)(hu:u'=u+kc):Cnt t limit (n+1) (u'+rc):=by
 obtain ⟨h1,h2,h3⟩:=h;have:=h2 hn;exact ⟨by omega,fun _=>by omega,fun _=>by omega⟩
theorem Cnt.full {t limit n u v:Nat}(h:Cnt t limit n u)(hn: ¬n≤limit):Cnt t limit n v:=⟨h.1,fun h=>absurd h hn,h.2.2⟩
theorem zhF {M:List X3}{x:X3}{i:Nat}(hi:i+1≤M.length):qD ((M++ [x]).drop (i+1))=qD (M.drop (i+1))+x.k.cnt:=by
 rw [List.drop_append_of_le_length hi,zdB];simp [qD]
theorem vt.push {B:Nat}{w:World}{M:List X3}{x:X3}(h:vt B w M)(hx:zp B w x.p x.n x.k)(hs:x.s.size≤0x800000000000):vt B w (M++ [x]):=fun y hy=>by
 rcases List.mem_append.1 hy with hy|hy
 ·exact h y hy
 ·rw [List.mem_singleton.1 hy];exact ⟨hx,hs⟩
def val (l:List UInt8):Nat:=l.foldl (fun n b=>n*256+b.toNat) 0
theorem uz (l:List UInt8)(b:UInt8):val (l++ [b])=val l*256+b.toNat:=by unfold val;rw [List.foldl_append];rfl
def yG (s:ByteArray):Bool:=decide (1≤s.size)&&decide (s.extract 0 1=⟨#[0]⟩)
def zG (s:ByteArray):Nat×Bool:=if 8<s.size∨yG s=true then (0,false) else (val (tl s),true)
def qx (l:Bool)(s:ByteArray)(n:Nat):Nat×Nat:=if l=true∨n≠0∨(zG s).2=false then (0,4) else ((zG s).1,0)
theorem zhG (l:List UInt8)(i:Nat)(h:i<l.length):l.take (i+1)=l.take i++ [l.getD i 0]:=by
 rw [List.take_add_one,List.getElem?_eq_getElem h,List.getD_eq_getElem?_getD,List.getElem?_eq_getElem h];rfl
theorem zdE: ∀l:List UInt8,val l.reverse<256^l.length
 | []=>by decide
 | b::l=>by
  rw [List.reverse_cons,uz,List.length_cons,Nat.pow_succ];have:=zdE l;have:=b.toNat_lt;omega
theorem uA (l:List UInt8):val l<256^l.length:=by have:=zdE l.reverse;rwa [List.reverse_reverse,List.length_reverse] at this
theorem zbr (l:List UInt8)(i:Nat)(h:i≤7):val (l.take i)<72057594037927936:=by
 have h1:=uA (l.take i);have h2:(l.take i).length≤7:=by rw [List.length_take];omega
 exact Nat.lt_of_lt_of_le h1 (Nat.le_trans (Nat.pow_le_pow_right (by decide) h2) (by decide))
theorem vu {l:List UInt8}(h:l.length≤8):val l<0x10000000000000000:=
 Nat.lt_of_lt_of_le (uA l) (Nat.le_trans (Nat.pow_le_pow_right (by decide) h) (by decide))
theorem zbs (s:ByteArray)(i:Nat)(h:i<s.size):val ((tl s).take (i+1))=val ((tl s).take i)*256+by_ s i:=by
 rw [zhG _ _ (by rw [zt];exact h),uz];rfl
theorem zhH {n:Nat}(h:n<72057594037927936):IntKind.u64.wrap ((n:Int)*2^(min 8 64))=((n*256:Nat):Int):=by
 rw [wrap_u64]<;>simp only [show (2:Int)^(min 8 64)=256 by decide]<;>omega
theorem or8 {n b:Nat}(hn:n<72057594037927936)(hb:b<256):Go.bits .or .u64 ((n*256:Nat):Int) (b:Int)=((n*256+b:Nat):Int):=by
 rw [u64_or_nat _ _ (by omega) (by omega)];congr 1;have:=Nat.two_pow_add_eq_or_of_lt (i:=8) (b:=b) (by omega) n;rw [show n*256=2^8*n by omega];exact this.symm
theorem zbt: ∀(m:Nat) (l:List UInt8),l.length≤m→beI m (val l.reverse)=List.replicate (m-l.length) 0++l.reverse
 | 0,l,h=>by
  have:l=[]:=List.eq_nil_of_length_eq_zero (by omega);subst this;rfl
 | m+1,[],_=>by
  have:=zbt m [] (Nat.zero_le _);simp only [List.reverse_nil,List.append_nil,List.length_nil,Nat.sub_zero] at this ⊢;show beI m (val [] / 256)++ [UInt8.ofNat (val [])]=_;rw [show val [] / 256=val [] from rfl,this,List.replicate_succ'];rfl
 | m+1,b::l,h=>by
  have hl:l.length≤m:=by simpa using h
  have hb:=b.toNat_lt;rw [List.reverse_cons,uz];show beI m ((val l.reverse*256+b.toNat) / 256)++ [UInt8.ofNat (val l.reverse*256+b.toNat)]=_;rw [show (val l.reverse*256+b.toNat) / 256=val l.reverse by omega,zbt m l hl];have e:UInt8.ofNat (val l.reverse*256+b.toNat)=b:=by
   apply UInt8.toNat_inj.1;rw [UInt8.toNat_ofNat'];omega
  rw [e,List.length_cons,Nat.add_sub_add_right,List.append_assoc]
theorem zdF (l:List UInt8): ∀m,(List.replicate m 0++l).dropWhile (·==0)=l.dropWhile (·==0)
 | 0=>rfl
 | m+1=>by rw [List.replicate_succ,List.cons_append,List.dropWhile_cons,if_pos (by decide)];exact zdF l m
theorem zhI {l:List UInt8}(h:l.length≤8):dg (val l)=l.dropWhile (·==0):=by
 have h1:=zbt 8 l.reverse (by rw [List.length_reverse];exact h);rw [List.reverse_reverse] at h1;have h2:=zbj 8 (val l) (vu h);show dgI 8 (val l)=_;rw [←h2,h1,zdF]
theorem zhJ {s:ByteArray}(h:1≤s.size):s.extract 0 1=⟨#[0]⟩↔by_ s 0=0:=by
 obtain ⟨l,e⟩:=xw (t:=s) (by omega);have hb:=qg s 0;constructor
 ·intro q;have:=congrArg tl q;rw [yO,e] at this;have h3:UInt8.ofNat (by_ s 0)=0:=by
   have h4:(List.drop 0 (List.take 1 (UInt8.ofNat (by_ s 0)::l)))=[UInt8.ofNat (by_ s 0)]:=rfl;rw [h4] at this;exact (List.cons.inj this).1
  have h5:=congrArg UInt8.toNat h3;rw [UInt8.toNat_ofNat_of_lt' (by simpa using hb)] at h5;exact h5
 ·intro q;apply qi;rw [yO,e,q];rfl
theorem vv {s:ByteArray}(h:s.size≤8):(zh (dg (val (tl s)))=s)↔yG s=false:=by
 rw [zhI (by rw [zt];exact h)];unfold yG;by_cases h1:1≤s.size
 ·rw [decide_eq_true h1,Bool.true_and,decide_eq_false_iff_not,zhJ h1];constructor
  ·intro q h0;obtain ⟨l,e⟩:=xw (t:=s) (by omega);have:=congrArg (fun t=>(tl t).length) q;simp only [qm] at this;rw [e,h0,List.dropWhile_cons,if_pos (by decide)] at this;have h6:=(List.dropWhile_suffix (p:=fun x:UInt8=>x==0) (l:=l)).length_le;simp only [List.length_cons] at this;omega
  ·intro h0;exact ut s (.inr h0)
 ·have:s.size=0:=by omega
  constructor
  ·intro _;rw [decide_eq_false h1];rfl
  ·intro _;exact ut s (.inl this)
theorem zdG: ∀m n,n<256^m→dgI (m+1) n=dgI m n
 | 0,n,h=>by
  have:n=0:=by simp at h;exact h
  subst this;rfl
 | m+1,n,h=>by
  unfold dgI;split
  ·rfl
  ·rw [zdG m (n / 256) (by rw [Nat.pow_succ] at h;omega)]
theorem zhK {n:Nat}(h0:n≠0)(h:n<0x10000000000000000):dg n=dg (n / 256)++ [UInt8.ofNat n]:=by
 show dgI 8 n=dgI 8 (n / 256)++_;rw [zdG 7 (n / 256) (by show _<72057594037927936;omega)];show (if n=0 then [] else _)=_;rw [if_neg h0]
theorem zhL (m:Nat): ∀n,n<256^m→val (dgI m n)=n:=by
 induction m with
 | zero=>intro n h;have:n=0:=by simpa using h
         subst this;rfl
 | succ m ih=>
  intro n h;unfold dgI;split
  ·rename_i h0;subst h0;rfl
  ·rw [uz,ih (n / 256) (by rw [Nat.pow_succ] at h;omega),UInt8.toNat_ofNat'];omega
theorem uB {n:Nat}(h:n<0x10000000000000000):val (dg n)=n:=zhL 8 n h
theorem zdH {n:Nat}(h:n<0x10000000000000000):zG (zh (dg n))=(n,true):=by
 have hl:=qj n;have hp:yG (zh (dg n))=false:=(vv (by rw [qh];exact hl)).1 (by rw [qm,uB h]);unfold zG;rw [if_neg (by rw [hp,qh];simp;omega),qm,uB h]
theorem zhM {n:Nat}(h:n<0x10000000000000000):qx false (zh (dg n)) 0=(n,0):=by
 unfold qx;rw [zdH h];simp
def uC (x:Nat×Bool):Value:=.tuple #[.int .u64 ((x.1:Nat):Int),.bool x.2]
def vw (x:Nat×Nat):Value:=.tuple #[.int .u64 ((x.1:Nat):Int),.int .i64 ((x.2:Nat):Int)]
theorem zdI {s:ByteArray}(h:8<s.size∨yG s=true):uC (zG s)=.tuple #[wZ,.bool false]:=by unfold zG;rw [if_pos h];rfl
theorem zbu {s:ByteArray}(h:8<s.size∨yG s=true):(zG s).2=false:=by unfold zG;rw [if_pos h]
theorem zhN {s:ByteArray}{v:Nat}(h: ¬8<s.size)(hp:yG s=false)(hv:v=val (tl s)):uC (zG s)=.tuple #[.int .u64 (v:Int),.bool true]:=by
 unfold zG;rw [if_neg (by simp [h,hp])];rw [hv];rfl
theorem zhO {s:ByteArray}(h:s.size≤8)(hs: ¬zh (dg (val (tl s)))=s):(zG s).2=false:=by
 apply zbu;cases hp:yG s with
 | true=>exact .inr rfl
 | false=>exact absurd ((vv h).2 hp) hs
theorem jX {l:Bool}{s:ByteArray}{n:Nat}(h:l=true∨n≠0∨(zG s).2=false):vw (qx l s n)=.tuple #[wZ,.int .i64 4]:=by unfold qx;rw [if_pos h];rfl
theorem zdJ {l:Bool}{s:ByteArray}{n:Nat}(h:l=false)(hn:n=0)(h2:(zG s).2=true):vw (qx l s n)=.tuple #[.int .u64 (((zG s).1:Nat):Int),.int .i64 0]:=by unfold qx;rw [if_neg (by simp [h,hn,h2])];rfl
theorem zhP {l:Bool}{s:ByteArray}{n:Nat}(h:l=false)(hn:n=0)(h8:s.size≤8)(hs:zh (dg (val (tl s)))=s):vw (qx l s n)=.tuple #[.int .u64 ((val (tl s):Nat):Int),.int .i64 0]:=by
 have hp:=(vv h8).1 hs;have e:zG s=(val (tl s),true):=by unfold zG;rw [if_neg (by simp [hp];omega)]
 rw [zdJ h hn (by rw [e]),e]
theorem zhQ {n q:Nat}{o:ByteArray}(h0:q≠0)(h:q<0x10000000000000000)(ho:dg n=dg q++tl o):dg n=dg (q / 256)++tl (strOfNums [(BitVec.toNat (BitVec.ofNat 8 (q%256)):Int)]++o):=by
 rw [ho,zhK h0 h,xv,List.append_assoc];congr 1;show [UInt8.ofNat q]++tl o=[UInt8.ofNat (Int.toNat _)]++tl o;rw [Int.toNat_natCast,BitVec.toNat_ofNat];congr 2;apply UInt8.toNat_inj.1;rw [UInt8.toNat_ofNat',UInt8.toNat_ofNat'];omega
theorem zhR {n:Nat}{o:ByteArray}(ho:dg n=dg 0++tl o):zh (dg n)=o:=by rw [ho];exact xT o
theorem zhS (s:ByteArray):Fn Tryz.prog 149 #[.string s,.string (⟨#[0]⟩)] (.bool (yG s)):=by
 refine Fn.intro (c:=zk Tryz.f149) [.tmp 4] 18 Tryz.func149 kr kr kr fun w=>?_;have H0:=St.start w;refine rS [.v] H0 kr fun gs1 w1 H1=>?_;clear H0;refine zg [0,1,2,3,4,5,6,7,8,9,10,11,12,13] kr kr<|rp [.v,.v,.v,.v] H1 kr fun gs2 w2 H2=>wX [4,5,6,7,8,9,10,11,12,13] ?_;clear H1;by_cases hc1:(ByteArray.size s:Nat)≥1
 ·refine rp [.E (.bool (decide (1≤(ByteArray.size s:Int)))) (.bool true) (za (decide_eq_true (by omega))),.v,.v,.v,.v,.o (ins:=[((.tmp 11),.string s),((.tmp 13),.int .i64 1)]) (v:=.string (ByteArray.extract s 0 1)) (fun ρ o w ho hi=>jW (t:=9) (kd:=.i64) kr (x:=(.tmp 11)) (y:=(.tmp 13)) s 1 ho hi.1 hi.2.1 (by omega) w),.v] H2 kr fun gs3 w3 H3=>wX [11,12,13] ?_;clear H2;by_cases hx2:(ByteArray.extract s 0 1)=⟨#[0]⟩
  ·refine rp [.E (.bool (ByteArray.toList (ByteArray.extract s 0 1)==ByteArray.toList (⟨#[0]⟩))) (.bool true) (za (zL (ByteArray.extract s 0 1) (⟨#[0]⟩) hx2)),.v,.v] H3 kr fun gs4 w4 H4=>wX [] ?_;clear H3;refine zc<|zl kr<|wV ?_;refine ⟨[.bool true],(.tmp (.bool true) kr .nil),?_,H4.below⟩;exact za (by unfold yG;rw [decide_eq_true (show 1≤ByteArray.size s by omega),decide_eq_true hx2];rfl)
  ·refine rp [.E (.bool (ByteArray.toList (ByteArray.extract s 0 1)==ByteArray.toList (⟨#[0]⟩))) (.bool false) (za (yA (ByteArray.extract s 0 1) (⟨#[0]⟩) hx2)),.v,.v] H3 kr fun gs5 w5 H5=>wX [] ?_;clear H3;refine zc<|zl kr<|wV ?_;refine ⟨[.bool false],(.tmp (.bool false) kr .nil),?_,H5.below⟩;exact za (by unfold yG;rw [decide_eq_true (show 1≤ByteArray.size s by omega),decide_eq_false hx2];rfl)
 ·refine rp [.E (.bool (decide (1≤(ByteArray.size s:Int)))) (.bool false) (za (decide_eq_false (by omega))),.v,.n,.n,.n,.n,.n,.n,.v,.v] H2 kr fun gs6 w6 H6=>wX [] ?_;clear H2;refine zc<|zl kr<|wV ?_;refine ⟨[.bool false],(.tmp (.bool false) kr .nil),?_,H6.below⟩;exact za (by unfold yG;rw [decide_eq_false (show ¬1≤ByteArray.size s by omega)];rfl)
theorem zhT (s:ByteArray):Fn Tryz.prog 143 #[.string s,.string (⟨#[0]⟩)] (.bool (yG s)):=by
 refine Fn.intro (c:=zk Tryz.f143) [.tmp 4] 8 Tryz.func143 kr kr kr fun w=>?_;have H0:=St.start w;refine rS [.v] H0 kr fun gs1 w1 H1=>?_;clear H0;refine rS [.v,.v,.c (zhS s),.v] H1 kr fun gs2 w2 H2=>?_;clear H1;refine zl kr<|wV ?_;refine ⟨[.bool (yG s)],(.tmp (.bool (yG s)) kr .nil),?_,H2.below⟩;rfl
theorem zdK (s:ByteArray):Fn Tryz.prog 121 #[.string s] (uC (zG s)):=by
 refine Fn.intro (c:=zk Tryz.f121) [.tmp 2,.tmp 3] 27 Tryz.func121 kr kr kr fun w=>?_;have H0:=St.start w;refine rS [.v,.v] H0 kr fun gs1 w1 H1=>?_;clear H0;refine zb kr<|zg [0,1,2,3,4,5,6] kr kr<|rp [.v,.v] H1 kr fun gs2 w2 H2=>wX [2,3,4,5,6] ?_;clear H1;by_cases hc1:(ByteArray.size s:Nat)>8
 ·refine rp [.E (.bool (decide (8<(ByteArray.size s:Int)))) (.bool true) (za (decide_eq_true (by omega))),.v,.n,.n,.v] H2 kr fun gs3 w3 H3=>wX [] ?_;clear H2;refine zc<|zf kr kr<|rS [.v,.v] H3 kr fun gs4 w4 H4=>?_;clear H3;refine zl kr<|wV ?_;refine ⟨[wZ,.bool false],(.tmp (wZ) kr (.tmp (.bool false) kr .nil)),?_,H4.below⟩;exact (zdI (Or.inl (by omega))).symm
 ·refine rp [.E (.bool (decide (8<(ByteArray.size s:Int)))) (.bool false) (za (decide_eq_false (by omega))),.v,.v,.c (zhT s),.v] H2 kr fun gs5 w5 H5=>wX [] ?_;clear H2;refine zc<|Or.elim (Bool.eq_false_or_eq_true (yG s)).symm (fun hq1=>?_) (fun hq1=>?_)
  ·refine yl 11 (v:=.bool (yG s)) (v':=.bool false) (za hq1) kr<|yl 12 (v:=.bool (yG s)) (v':=.bool false) (za hq1) kr<|zi kr kr<|zj kr<|wW<|rS [.v] H5 kr fun gs6 w6 H6=>?_;clear H5;refine zb kr<|rS [.v,.v,.v] H6 kr fun gs7 w7 H7=>?_;clear H6;refine zn 0 kr ?_;have HL2:St w.heap.size w w7 []:=H7.as kr;clear H7;refine zV kr (fun mz ρ ww=> ∃(i:Nat),ByteArray.size s-i=mz∧(i≤ByteArray.size s)∧St w.heap.size w ww []∧Is [(0,.string s),(2,wZ),(3,.bool false),(4,.int .u64 ((val (List.take i (tl s)):Nat):Int)),(12,.bool false),(14,.int .i64 (ByteArray.size s:Int)),(15,.int .i64 (i:Int))] ρ) (ByteArray.size s-0) ⟨0,rfl,(by omega),HL2,(Is.of ⟨kr,kr,kr,kr,kr,kr,kr,trivial⟩)⟩ ?_;clear HL2;rintro _ _ w8 ⟨i,rfl,hi,H8,_,rfl⟩;by_cases hc3:(i:Nat)<ByteArray.size s
   ·refine rS [.E (.bool (decide ((i:Int)<(ByteArray.size s:Int)))) (.bool true) (za (decide_eq_true (by omega)))] H8 kr fun gs9 w9 H9=>?_;clear H8;refine zb kr<|zf kr kr<|zj kr<|wW<|zb kr<|zn 1 kr<|rS [.v,.v] H9 kr fun gs10 w10 H10=>?_;clear H9;refine rL [.v,.E (.int .u64 (IntKind.u64.wrap (((val (List.take i (tl s)):Nat):Int)*2^(min 8 64)))) (.int .u64 (((val (List.take i (tl s)))*256:Nat):Int)) (zd (zhH (n:=val (List.take i (tl s))) (zbr (tl s) i (by omega)))),.v,.v,.o (ins:=[((.tmp 20),.string s),((.tmp 21),.int .i64 (i:Int))]) (v:=.int .u8 ((by_ s i:Nat):Int)) (fun ρ o w ho hi=>zO (t:=9) (kd:=.i64) kr (x:=(.tmp 20)) (y:=(.tmp 21)) s i ho hi.1 hi.2.1 (by omega) w),.E (.int .u64 (IntKind.u64.wrap (((by_ s i:Nat):Int)))) (.int .u64 ((by_ s i:Nat):Int)) (zd (yr (a:=by_ s i) (by have:=qg s i;omega))),.E (.int .u64 (Go.bits .or .u64 (((val (List.take i (tl s))*256:Nat):Int)) (((by_ s i:Nat):Int)))) (.int .u64 ((val (List.take (i+1) (tl s)):Nat):Int)) (zd (by rw [zbs s i (by omega)];exact or8 (zbr (tl s) i (by omega)) (qg s i))),.v] H10 kr fun gs11 w11 H11=>?_;clear H10;refine wW<|zx [0,2,3,4,5,12,14,15,16] fun ρ1=>?_;have HK4:=H11.keep;clear H11;refine rL [.E (.int .i64 (IntKind.i64.wrap ((i:Int)+1))) (.int .i64 ((i+1:Nat):Int)) (zd (zs (a:=i) (b:=1) (by omega))),.v] HK4 kr fun gs12 w12 H12=>?_;clear HK4;have HL5:St w.heap.size w w12 []:=H12.as kr;clear H12;show ∃m,_∧_;exact ⟨_,(by omega),(i+1),rfl,(by omega),HL5,(Is.of ⟨kr,kr,kr,kr,kr,kr,kr,trivial⟩)⟩
   ·refine rS [.E (.bool (decide ((i:Int)<(ByteArray.size s:Int)))) (.bool false) (za (decide_eq_false (by omega)))] H8 kr fun gs13 w13 H13=>?_;clear H8;refine zb kr<|zi kr kr<|zN 0 kr<|wW<|rS [.v,.v,.v] H13 kr fun gs14 w14 H14=>?_;clear H13;refine zl kr<|wV ?_;refine ⟨[.int .u64 ((val (List.take i (tl s)):Nat):Int),.bool true],(.tmp (.int .u64 ((val (List.take i (tl s)):Nat):Int)) kr (.tmp (.bool true) kr .nil)),?_,H14.below⟩;refine (zhN (by omega) (by assumption) ?_).symm;rw [List.take_of_length_le (by rw [zt];omega)]
  ·refine yl 11 (v:=.bool (yG s)) (v':=.bool true) (za hq1) kr<|yl 12 (v:=.bool (yG s)) (v':=.bool true) (za hq1) kr<|zf kr kr<|rS [.v,.v] H5 kr fun gs15 w15 H15=>?_;clear H5;refine zl kr<|wV ?_;refine ⟨[wZ,.bool false],(.tmp (wZ) kr (.tmp (.bool false) kr .nil)),?_,H15.below⟩;exact (zdI (Or.inr hq1)).symm
theorem zhU (l:Bool)(s:ByteArray)(p:Option Addr)(n c:Nat)(k:Fo)(hs:s.size≤0x800000000000):FnP Tryz.prog 93 #[.agg #[.bool l,.string s,.slice p n c]] (fun w=>zp w.heap.size w p n k) (vw (qx l s n)):=by
 refine FnP.intro (c:=zk Tryz.f93) [.tmp 2,.tmp 3] 25 Tryz.func93 kr kr kr fun w hpre=>?_;have H0:=St.start w;have hn:=hpre.1;have hnm:=hpre.2.1;refine rS [.b,.v,.v] H0 kr fun gs1 w1 H1=>?_;clear H0;refine rS [.v,.l 0,.c (zdK s),.v,.v,.v,.v,.v] H1 kr fun gs2 w2 H2=>?_;clear H1;refine zb kr<|zg [0,1,2,3,4,5,6,7,8,9,10,11] kr kr<|rp [.v,.l 0,.v] H2 kr fun gs3 w3 H3=>wX [3,4,5,6,7,8,9,10,11] ?_;clear H2;refine Or.elim (Bool.eq_false_or_eq_true (l)).symm (fun hq1=>?_) (fun hq1=>?_)
 ·refine zz 13 (v:=.bool l) (v':=.bool false) (za hq1) kr<|zz 14 (v:=.bool l) (v':=.bool false) (za hq1) kr<|rp [.v,.l 0,.v] H3 kr fun gs4 w4 H4=>wX [6,7,8,9,10,11] ?_;clear H3;by_cases hc1:(n:Nat)>0
  ·refine rp [.E (.bool (decide (0<(n:Int)))) (.bool true) (za (decide_eq_true (by omega))),.v,.v,.n,.n,.v] H4 kr fun gs5 w5 H5=>wX [] ?_;clear H4;refine zc<|zx [0,1,2,3,4,5,23] fun ρ1=>?_;have HK2:=H5.keep;clear H5;refine zf kr kr<|rS [.v,.v] HK2 kr fun gs6 w6 H6=>?_;clear HK2;refine zl kr<|wV ?_;refine ⟨[wZ,.int .i64 4],(.tmp (wZ) kr (.tmp (.int .i64 4) kr .nil)),?_,H6.below⟩;exact (jX (Or.inr (Or.inl (by omega)))).symm
  ·refine rp [.E (.bool (decide (0<(n:Int)))) (.bool false) (za (decide_eq_false (by omega))),.v,.v,.v] H4 kr fun gs7 w7 H7=>wX [10,11] ?_;clear H4;refine Or.elim (Bool.eq_false_or_eq_true ((zG s).2)).symm (fun hq2=>?_) (fun hq2=>?_)
   ·refine zz 9 (v:=.tuple #[.int .u64 (((zG s).1:Nat):Int),.bool ((zG s).2)]) (v':=.tuple #[.int .u64 (((zG s).1:Nat):Int),.bool false]) (by rw [hq2]) kr<|zz 6 (v:=.tuple #[.int .u64 (((zG s).1:Nat):Int),.bool ((zG s).2)]) (v':=.tuple #[.int .u64 (((zG s).1:Nat):Int),.bool false]) (by rw [hq2]) kr<|zz 11 (v:=.bool ((zG s).2)) (v':=.bool false) (za hq2) kr<|zz 5 (v:=.bool ((zG s).2)) (v':=.bool false) (za hq2) kr<|zz 21 (v:=.bool ((zG s).2)) (v':=.bool false) (za hq2) kr<|rp [.v,.v] H7 kr fun gs8 w8 H8=>wX [] ?_;clear H7;refine zc<|zx [0,1,2,3,4,5,23] fun ρ2=>?_;have HK3:=H8.keep;clear H8;refine zf kr kr<|rS [.v,.v] HK3 kr fun gs9 w9 H9=>?_;clear HK3;refine zl kr<|wV ?_;refine ⟨[wZ,.int .i64 4],(.tmp (wZ) kr (.tmp (.int .i64 4) kr .nil)),?_,H9.below⟩;exact (jX (Or.inr (Or.inr hq2))).symm
   ·refine zz 9 (v:=.tuple #[.int .u64 (((zG s).1:Nat):Int),.bool ((zG s).2)]) (v':=.tuple #[.int .u64 (((zG s).1:Nat):Int),.bool true]) (by rw [hq2]) kr<|zz 6 (v:=.tuple #[.int .u64 (((zG s).1:Nat):Int),.bool ((zG s).2)]) (v':=.tuple #[.int .u64 (((zG s).1:Nat):Int),.bool true]) (by rw [hq2]) kr<|zz 11 (v:=.bool ((zG s).2)) (v':=.bool true) (za hq2) kr<|zz 5 (v:=.bool ((zG s).2)) (v':=.bool true) (za hq2) kr<|zz 21 (v:=.bool ((zG s).2)) (v':=.bool true) (za hq2) kr<|rp [.v,.v] H7 kr fun gs10 w10 H10=>wX [] ?_;clear H7;refine zc<|zx [0,1,2,3,4,5,23] fun ρ3=>?_;have HK4:=H10.keep;clear H10;refine zi kr kr<|zj kr<|wW<|rS [.v,.v,.v] HK4 kr fun gs11 w11 H11=>?_;clear HK4;refine zl kr<|wV ?_;refine ⟨[.int .u64 (((zG s).1:Nat):Int),.int .i64 0],(.tmp (.int .u64 (((zG s).1:Nat):Int)) kr (.tmp (.int .i64 0) kr .nil)),?_,H11.below⟩;exact (zdJ hq1 (by omega) hq2).symm
 ·refine zz 13 (v:=.bool l) (v':=.bool true) (za hq1) kr<|zz 14 (v:=.bool l) (v':=.bool true) (za hq1) kr<|rp [.n,.n,.n,.n,.v,.v,.n,.n,.v] H3 kr fun gs12 w12 H12=>wX [] ?_;clear H3;refine zc<|zx [0,1,2,3,4,5,23] fun ρ4=>?_;have HK5:=H12.keep;clear H12;refine zf kr kr<|rS [.v,.v] HK5 kr fun gs13 w13 H13=>?_;clear HK5;refine zl kr<|wV ?_;refine ⟨[wZ,.int .i64 4],(.tmp (wZ) kr (.tmp (.int .i64 4) kr .nil)),?_,H13.below⟩;exact (jX (Or.inl hq1)).symm
theorem zhV (n:Nat)(hn:n<0x10000000000000000):Fn Tryz.prog 105 #[.int .u64 (n:Int)] (.agg #[.bool false,.string (zh (dg n)),.slice none 0 0]):=by
 refine Fn.intro (c:=zk Tryz.f105) [.cell 2 83] 6 Tryz.func105 kr kr kr fun w=>?_;have H0:=St.start w;refine rS [.a] H0 kr fun gs1 w1 H1=>?_;clear H0;refine rS [.v,.c (zbl n (by omega)),.v,.s 0] H1 kr fun gs2 w2 H2=>?_;clear H1;refine zl kr<|wV ?_;refine ⟨[.agg #[.bool false,.string (zh (dg n)),.slice none 0 0]],(.agg (b:=(gs1 0).b) #[.bool false,.string (zh (dg n)),.slice none 0 0] 83 (0,0) kr (H2.get 0 kr) kr .nil),?_,H2.below⟩;rfl
theorem rwB (s:ByteArray)(h:ByteArray.size s≤maxLen):Rw 1 (cellsB (tl s)).toArray (ByteArray.size s) (ByteArray.size s) (cellsB (tl s)):=
 ⟨by rw [qN,zt];omega,Nat.le_refl _,h,by rw [List.take_of_length_le (by simp [qN,zt])],by simp [qN,zt]⟩
theorem zhW {P:Program}{ρ:Env}{t e:TypeId}{bytes:Nat}(ht:yy P t=some (e,1,bytes)){x y:Operand}{o:Oper}{kd:IntKind}(b n c:Nat)(ho:o.op=.indexAddr t x y)(hx:ev ρ x=.slice (some ⟨b,0,none⟩) n c)(hy:ev ρ y=.int kd 0)(hk:0<n):
 ∀w,(execOp (ev ρ) o).run P w=.ok (.value (.pointer (some ⟨b,0,none⟩))) w:=fun w=>
 qM (P:=P) (kd:=kd) ht b 0 n c 0 ho hx hy hk w
theorem zhX (s:ByteArray)(hs:ByteArray.size s≤1000000):Fn Tryz.prog 158 #[.string s] (.string s):=by
 refine Fn.intro (c:=zk Tryz.f158) [.tmp 2] 18 Tryz.func158 kr kr kr fun w=>?_;have H0:=St.start w;refine zg [0] kr kr<|zm (some 2) (.string (⟨#[]⟩)) (fun w=>by kernel_rfl) kr<|zc<|zb kr<|zg [0,1,2] kr kr<|zm (some 4) (.string s) (fun w=>by kernel_rfl) kr<|zm (some 5) (.int .i64 (ByteArray.size s:Int)) (fun w=>by kernel_rfl) kr ?_;by_cases hc1:(ByteArray.size s:Nat)=0
 ·refine qr (some 6) (.bool ((ByteArray.size s:Int)==0)) (.bool true) (fun w=>by kernel_rfl) (za (beq_iff_eq.2 (by omega))) kr<|zc<|zf kr kr<|zg [0] kr kr<|zm (some 2) (.string (⟨#[]⟩)) (fun w=>by kernel_rfl) kr<|zc<|zl kr<|wV ?_;refine ⟨[.string (⟨#[]⟩)],(.tmp (.string (⟨#[]⟩)) kr .nil),?_,H0.below⟩;exact congrArg Value.string (qi (List.eq_nil_of_length_eq_zero (by rw [zt];omega):tl s=[]).symm)
 ·refine qr (some 6) (.bool ((ByteArray.size s:Int)==0)) (.bool false) (fun w=>by kernel_rfl) (za (beq_eq_false_iff_ne.2 (by omega))) kr<|zc<|zi kr kr<|zj kr<|wW<|zg [0,1,2,3] kr kr<|zm (some 7) (.string s) (fun w=>by kernel_rfl) kr<|zm (some 8) (.int .i64 (ByteArray.size s:Int)) (fun w=>by kernel_rfl) kr<|za9 H0 (some 9) 76 5 1 (.int .u8 0) (.tmp 8) (.tmp 8) .i64 .i64 (ByteArray.size s) kr kr kr kr rfl kr kr (by omega) (by unfold maxLen;omega) ?_;intro b_1 cur_2 w1 H1 hr_3;clear H0;have hr_3z:Rw 1 cur_2 (ByteArray.size s) (ByteArray.size s) (cellsB (List.replicate (ByteArray.size s) 0)):=by rw [zdd];exact hr_3
  refine zm (some 3) (.slice (some ⟨b_1,0,none⟩) (ByteArray.size s) (ByteArray.size s)) (fun w=>by kernel_rfl) kr<|zc<|zg [0,1,2] kr kr<|zm (some 10) (.slice (some ⟨b_1,0,none⟩) (ByteArray.size s) (ByteArray.size s)) (fun w=>by kernel_rfl) kr<|zm (some 11) (.string s) (fun w=>by kernel_rfl) kr<|zgP H1 (some 12) 76 9 5 1 (.tmp 10) (.tmp 11) 0 b_1 (ByteArray.size s) (ByteArray.size s) s cur_2 ((cellsB (tl s)).toArray) 5 [(b_1,Obj.cells ((cellsB (tl s)).toArray) 5 (0,0))] kr kr kr kr kr kr (by omega) (Nat.le_of_eq (by have h:=hr_3z.sz;rw [h];omega)) (by rw [List.drop_of_length_le (by have h:=hr_3z.sz;rw [Array.length_toList,h];omega),List.append_nil]) kr ?_;intro w2 H2;clear H1;refine zc<|zg [0,1,2,3,4,5] kr kr<|zm (some 13) (.slice (some ⟨b_1,0,none⟩) (ByteArray.size s) (ByteArray.size s)) (fun w=>by kernel_rfl) kr<|kV (some 14) _ (.pointer (some ⟨b_1,0,none⟩)) kr kr (fun o w ho=>zhW (kd:=.i64) (t:=76) (e:=5) (bytes:=1) kr (x:=(.tmp 13)) (y:=(.const (.int .i64 0))) b_1 (ByteArray.size s) (ByteArray.size s) ho kr kr (by omega) w)<|zm (some 15) (.slice (some ⟨b_1,0,none⟩) (ByteArray.size s) (ByteArray.size s)) (fun w=>by kernel_rfl) kr<|zm (some 16) (.int .i64 (ByteArray.size s:Int)) (fun w=>by kernel_rfl) kr<|zgV H2 (some 17) 164 3 5 (.tmp 14) (.tmp 16) (ByteArray.size s) (ByteArray.size s) (tl s) kr kr kr kr rfl kr kr (rwB s (by unfold maxLen;omega)) (by omega) (by omega) ?_;intro w3 H3;clear H2;refine zm (some 2) (.string (zh (tl s))) (fun w=>by kernel_rfl) kr<|zc<|zl kr<|wV ?_;refine ⟨[.string (zh (tl s))],(.tmp (.string (zh (tl s))) kr .nil),?_,H3.below⟩;rfl
theorem zhY (s:ByteArray)(hs:ByteArray.size s≤1000000):Fn Tryz.prog 148 #[.string s] (.string s):=by
 refine Fn.intro (c:=zk Tryz.f148) [.tmp 2] 5 Tryz.func148 kr kr kr fun w=>?_;have H0:=St.start w;refine zg [0] kr kr<|zm (some 2) (.string (⟨#[]⟩)) (fun w=>by kernel_rfl) kr<|zc<|zg [0,1,2] kr kr<|zm (some 3) (.string s) (fun w=>by kernel_rfl) kr<|jS H0 (some 4) 158 #[.string s] (.string s) (zhX s (by omega)) (fun w=>by kernel_rfl) kr ?_;intro w1 H1;clear H0;refine zm (some 2) (.string s) (fun w=>by kernel_rfl) kr<|zc<|zl kr<|wV ?_;refine ⟨[.string s],(.tmp (.string s) kr .nil),?_,H1.below⟩;rfl
theorem zdL (s:ByteArray)(hs:ByteArray.size s≤100000):Fn Tryz.prog 140 #[.string s] (.agg #[.bool false,.string s,.slice none 0 0]):=by
 refine Fn.intro (c:=zk Tryz.f140) [.cell 2 83] 6 Tryz.func140 kr kr kr fun w=>?_;have H0:=St.start w;refine rS [.a] H0 kr fun gs1 w1 H1=>?_;clear H0;refine zg [0,1,2,3] kr kr<|rp [.v,.c (zhY s (by omega)),.v,.s 0] H1 kr fun gs2 w2 H2=>wX []<|zc<|zl kr<|wV ?_;refine ⟨[.agg #[.bool false,.string s,.slice none 0 0]],(.agg (b:=(gs1 0).b) (#[.bool false,.string s,.slice none 0 0]) 83 (0,0) kr (H2.get 0 kr) kr .nil),?_,H2.below⟩;rfl
theorem xA {a b:Nat}(ha:a<256)(hb:b<256)(h:UInt8.ofNat a=UInt8.ofNat b):a=b:=by
 have:=congrArg UInt8.toNat h
 rwa [UInt8.toNat_ofNat_of_lt' (by simpa using ha),UInt8.toNat_ofNat_of_lt' (by simpa using hb)] at this
theorem qQ (l:Bool):(l=true∧frm l=192)∨(l=false∧frm l=128):=by cases l<;>simp [frm]
theorem vx {n:Nat}(h:n≠0):1≤(dg n).length:=by unfold dg dgI;rw [if_neg h];simp
theorem zhZ {l l':Bool}{n n':Nat}{X Y:List UInt8}(hn:n<0x10000000000000000)(hn':n'<0x10000000000000000)(h:hd (frm l) n++X=hd (frm l') n'++Y):l=l'∧n=n'∧X=Y:=by
 have a1:=qj n;have a2:=qj n';unfold hd at h;by_cases h1:n≤55<;>by_cases h2:n'≤55
 ·rw [if_pos h1,if_pos h2] at h;obtain ⟨e1,e2⟩:=List.cons.inj h;rcases qQ l with ⟨hl,f1⟩ | ⟨hl,f1⟩<;>rcases qQ l' with ⟨hl',f2⟩ | ⟨hl',f2⟩<;>rw [f1,f2] at e1<;>have e3:=xA (by omega) (by omega) e1
  ·exact ⟨by rw [hl,hl'],by omega,e2⟩
  ·omega
  ·omega
  ·exact ⟨by rw [hl,hl'],by omega,e2⟩
 ·rw [if_pos h1,if_neg h2] at h;have a3:=vx (show n'≠0 by omega);obtain ⟨e1,e2⟩:=List.cons.inj h;rcases qQ l with ⟨hl,f1⟩ | ⟨hl,f1⟩<;>rcases qQ l' with ⟨hl',f2⟩ | ⟨hl',f2⟩<;>rw [f1,f2] at e1<;>have e3:=xA (by omega) (by omega) e1<;>omega
 ·rw [if_neg h1,if_pos h2] at h;have a3:=vx (show n≠0 by omega);obtain ⟨e1,e2⟩:=List.cons.inj h;rcases qQ l with ⟨hl,f1⟩ | ⟨hl,f1⟩<;>rcases qQ l' with ⟨hl',f2⟩ | ⟨hl',f2⟩<;>rw [f1,f2] at e1<;>have e3:=xA (by omega) (by omega) e1<;>omega
 ·rw [if_neg h1,if_neg h2] at h;have a3:=vx (show n≠0 by omega);have a4:=vx (show n'≠0 by omega);obtain ⟨e1,e2⟩:=List.cons.inj h;have key:(dg n).length=(dg n').length→n=n'∧X=Y:=fun hl=>by
   obtain ⟨q1,q2⟩:=List.append_inj e2 hl;exact ⟨by rw [←uB hn,q1,uB hn'],q2⟩
  rcases qQ l with ⟨hl,f1⟩|⟨hl,f1⟩<;>rcases qQ l' with ⟨hl',f2⟩ | ⟨hl',f2⟩<;>rw [f1,f2] at e1<;>have e3:=xA (by omega) (by omega) e1
  ·exact ⟨by rw [hl,hl'],key (by omega)⟩
  ·omega
  ·omega
  ·exact ⟨by rw [hl,hl'],key (by omega)⟩
theorem zbv (l:Bool)(n:Nat):∃b t,hd (frm l) n=b::t∧128≤b.toNat:=by
 have a1:=qj n;unfold hd;by_cases h1:n≤55
 ·rw [if_pos h1];refine ⟨_,_,rfl,?_⟩;rw [UInt8.toNat_ofNat'];rcases qQ l with ⟨_,f1⟩ | ⟨_,f1⟩<;>rw [f1]<;>omega
 ·rw [if_neg h1];refine ⟨_,_,rfl,?_⟩;rw [UInt8.toNat_ofNat'];rcases qQ l with ⟨_,f1⟩ | ⟨_,f1⟩<;>rw [f1]<;>omega
theorem uD {s:ByteArray}(h:zX s=true):∃b:UInt8,tl s=[b]∧b.toNat<128:=by
 have hz:=jk h;obtain ⟨l,e⟩:=xw (t:=s) (by omega);have hl:l=[]:=by
  have:=zt s;rw [e] at this;simp at this;exact List.eq_nil_of_length_eq_zero (by omega)
 refine ⟨_,by rw [e,hl],?_⟩;unfold zX at h;simp only [Bool.and_eq_true,decide_eq_true_eq] at h;rw [UInt8.toNat_ofNat'];have:=h.2;omega
theorem qR {l:Bool}{s:ByteArray}{k:Fo}(h:mixed l s k.len=false):(l=true∧s=⟨#[]⟩)∨(l=false∧k=.nil):=by
 unfold mixed at h;cases l with
 | true=>
  left;simp at h;exact ⟨rfl,h⟩
 | false=>
  right;simp at h;exact ⟨rfl,len_zero h⟩
theorem vy {l l':Bool}{s s':ByteArray}{k k':Fo}{A B:List UInt8}(hm:mixed l s k.len=false)(hm':mixed l' s' k'.len=false)(hk:szF k=(wrF k).length)(hk':szF k'=(wrF k').length)
 (hb:s.size+szF k<0x10000000000000000) (hb':s'.size+szF k'<0x10000000000000000) (ih:wrF k=wrF k'→k=k') (h:wr1 l s (szF k) (wrF k)++A=wr1 l' s' (szF k') (wrF k')++B):l=l'∧s=s'∧k=k'∧A=B:=by
 unfold wr1 at h;cases hs:zX s with
 | true=>
  obtain ⟨b,e,hb1⟩:=uD hs;have hl:=ja hm hs;have hkn:=len_zero hl;have hl0:l=false:=by
   rcases qR hm with ⟨_,q⟩|⟨q,_⟩
   ·rw [q] at hs;exact absurd hs (by decide)
   ·exact q
  rw [if_pos hs,hkn,e] at h;cases hs':zX s' with
  | true=>
   obtain ⟨b',e',_⟩:=uD hs';have hkn':=len_zero (ja hm' hs');have hl0':l'=false:=by
    rcases qR hm' with ⟨_,q⟩|⟨q,_⟩
    ·rw [q] at hs';exact absurd hs' (by decide)
    ·exact q
   rw [if_pos hs',hkn',e'] at h;simp only [wrF,List.nil_append,List.append_nil,List.cons_append,List.cons.injEq] at h;exact ⟨by rw [hl0,hl0'],qi (by rw [e,e',h.1]),by rw [hkn,hkn'],h.2⟩
  | false=>
   obtain ⟨c,t,e2,hc⟩:=zbv l' (s'.size+szF k');rw [if_neg (by rw [hs'];decide),e2] at h;simp only [wrF,List.nil_append,List.append_nil,List.cons_append,List.cons.injEq] at h;rw [h.1] at hb1;omega
 | false=>
  rw [if_neg (by rw [hs];decide)] at h;cases hs':zX s' with
  | true=>
   obtain ⟨b',e',hb1⟩:=uD hs';have hkn':=len_zero (ja hm' hs');obtain ⟨c,t,e2,hc⟩:=zbv l (s.size+szF k);rw [if_pos hs',hkn',e',e2] at h;simp only [wrF,List.nil_append,List.append_nil,List.cons_append,List.cons.injEq] at h;rw [←h.1] at hb1;omega
  | false=>
   rw [if_neg (by rw [hs'];decide)] at h;simp only [List.append_assoc] at h;obtain ⟨hl,hn,hx⟩:=zhZ hb hb' h;rw [←List.append_assoc,←List.append_assoc] at hx;have hlen:(tl s++wrF k).length=(tl s'++wrF k').length:=by rw [List.length_append,List.length_append,zt,zt,←hk,←hk',hn]
   obtain ⟨q1,q2⟩:=List.append_inj hx hlen;subst hl;rcases qR hm with ⟨hl,e1⟩|⟨hl,e1⟩<;>rcases qR hm' with ⟨hl',e2⟩ | ⟨hl',e2⟩
   ·rw [e1,e2] at q1;exact ⟨rfl,by rw [e1,e2],ih (List.append_cancel_left q1),q2⟩
   ·rw [hl] at hl';cases hl'
   ·rw [hl] at hl';cases hl'
   ·rw [e1,e2] at q1;simp only [wrF,List.append_nil] at q1;exact ⟨rfl,qi q1,by rw [e1,e2],q2⟩
theorem kx: ∀(k k':Fo),pureF k=true→pureF k'=true→(wrF k).length<0x10000000000000000→wrF k=wrF k'→k=k'
 | .nil,.nil,_,_,_,_=>rfl
 | .nil,.cons l s k r,_,hp,_,h=>by
  simp only [pureF,Bool.and_eq_true,Bool.not_eq_true'] at hp;have:=congrArg List.length h;simp only [wrF,List.length_nil,List.length_append] at this;have h2:=(jz hp.1.1 hp.1.2 rfl).1;omega
 | .cons l s k r,.nil,hp,_,_,h=>by
  simp only [pureF,Bool.and_eq_true,Bool.not_eq_true'] at hp;have:=congrArg List.length h;simp only [wrF,List.length_nil,List.length_append] at this;have h2:=(jz hp.1.1 hp.1.2 rfl).1;omega
 | .cons l s k r,.cons l' s' k' r',hp,hp',hb,h=>by
  have hlen:=congrArg List.length h;simp only [pureF,Bool.and_eq_true,Bool.not_eq_true'] at hp hp';simp only [wrF,List.length_append] at hb h hlen;have z1:=qn hp.1.1 (ye hp.1.2);have z2:=qn hp'.1.1 (ye hp'.1.2);have bd: ∀ {l:Bool} {s:ByteArray} {k:Fo},s.size+szF k≤sz1 l s (szF k)∨zX s=true:=fun {l s k} =>by
   unfold sz1;cases zX s with
   | true=>exact .inr rfl
   | false=>left;simp
  have b1:s.size+szF k<0x10000000000000000:=by
   rcases bd (l:=l) (s:=s) (k:=k) with q|q
   ·omega
   ·have:=len_zero (ja hp.1.1 q);subst this;have:=jk q;simp only [szF];omega
  have b2:s'.size+szF k'<0x10000000000000000:=by
   rcases bd (l:=l') (s:=s') (k:=k') with q|q
   ·omega
   ·have:=len_zero (ja hp'.1.1 q);subst this;have:=jk q;simp only [szF];omega
  have hk:=ye hp.1.2;obtain ⟨e1,e2,e3,e4⟩:=vy hp.1.1 hp'.1.1 hk.symm (ye hp'.1.2).symm b1 b2 (fun q=>kx k k' hp.1.2 hp'.1.2 (by omega) q) h;rw [e1,e2,e3,kx r r' hp.2 hp'.2 (by omega) e4]
theorem vz {l:Bool}{s:ByteArray}{k:Fo}(h:(zP l s k.len k).2=0):(zP l s k.len k).1=zh (wr1 l s (szF k) (wrF k))∧mixed l s k.len=false∧pureF k=true∧k.cnt<4000∧dp1 l (dpF k)≤8∧sz1 l s (szF k)≤4000∧(wr1 l s (szF k) (wrF k)).length=sz1 l s (szF k):=by
 unfold zP at h ⊢;cases hv:lf1 l s k.len (lfF k) 4000 with
 | none=>rw [hv] at h;simp at h
 | some y=>
  rw [hv] at h;obtain ⟨h1,h2,h3⟩:=zdo hv;simp only [] at h ⊢;by_cases hd:8<dp1 l (dpF k)
  ·rw [if_pos hd] at h;simp at h
  ·rw [if_neg hd] at h ⊢;by_cases hz:4000<sz1 l s (szF k)
   ·rw [if_pos hz] at h;simp at h
   ·rw [if_neg hz];exact ⟨rfl,h1,h2,h3,by omega,by omega,qn h1 (ye h2)⟩
theorem uE {l:Bool}{s:ByteArray}{k:Fo}(hm:mixed l s k.len=false)(hz:sz1 l s (szF k)≤4000):s.size+szF k≤4000:=by
 unfold sz1 at hz;split at hz
 ·rename_i q
  have:=len_zero (ja hm q);subst this;have:=jk q;simp only [szF];omega
 ·omega
def yQ (f:Nat)(t:ByteArray):Option (Nat×ByteArray):=
 if f≤55 then some (f,t) else if t.size<f-55 then none else if (zG (t.extract 0 (f-55))).1≤55 then none else some ((zG (t.extract 0 (f-55))).1,t.extract (f-55) t.size)
theorem uF (t:ByteArray)(m:Nat)(h:m≤t.size):tl t=tl (t.extract 0 m)++tl (t.extract m t.size):=by
 rw [yO,yO,List.drop_zero,List.take_of_length_le (l:=tl t) (i:=t.size) (by rw [zt];exact Nat.le_refl _),List.take_append_drop]
theorem qp (t:ByteArray)(a b:Nat)(h:b≤t.size)(hab:a≤b):(t.extract a b).size=b-a:=by
 rw [←zt,yO,List.length_drop,List.length_take,zt,Nat.min_eq_left h]
theorem uG {t:ByteArray}{A Y:List UInt8}{m:Nat}(h:tl t=A++Y)(hm:m=A.length):tl (t.extract 0 m)=A∧tl (t.extract m t.size)=Y∧m≤t.size:=by
 have hl:t.size=A.length+Y.length:=by rw [←zt,h,List.length_append]
 subst hm;refine ⟨?_,?_,by omega⟩
 ·rw [yO,List.drop_zero,h,List.take_left]
 ·rw [yO,List.take_of_length_le (by rw [zt];exact Nat.le_refl _),h,List.drop_left]
theorem zbw {f n:Nat}{t u:ByteArray}(h:yQ f t=some (n,u))(hf:f<64)(base:Nat):UInt8.ofNat (base+f)::tl t=hd base n++tl u∧n<0x10000000000000000∧u.size≤t.size:=by
 unfold yQ at h;split at h
 ·rename_i h1
  injection h with h;injection h with e1 e2;subst e1;subst e2
  unfold hd;rw [if_pos h1];exact ⟨rfl,by omega,Nat.le_refl _⟩
 ·rename_i h1
  split at h
  ·cases h
  ·rename_i h2
   split at h
   ·cases h
   ·rename_i h3
    injection h with h;injection h with e1 e2
    have hz:(t.extract 0 (f-55)).size=f-55:=by rw [qp t 0 _ (by omega) (by omega)];omega
    have hs:=uF t (f-55) (by omega);have hu:u.size≤t.size:=by rw [←e2,qp t _ _ (Nat.le_refl _) (by omega)];omega
    generalize t.extract 0 (f-55)=s at*;rw [←e2];have hp:yG s=false:=by
     cases hp:yG s with
     | false=>rfl
     | true=>exfalso;apply h3;unfold zG;rw [if_pos (Or.inr hp)];exact Nat.zero_le _
    have hv:(zG s).1=val (tl s):=by unfold zG;rw [if_neg (by rw [hp];simp;omega)]
    have hd1:dg n=tl s:=by rw [←e1,hv,←qm (dg (val (tl s))),(vv (by omega)).2 hp]
    have hlen:(dg n).length=f-55:=by rw [hd1,zt,hz]
    refine ⟨?_,by rw [←e1,hv];exact vu (by rw [zt];omega),by rw [e2];exact hu⟩;unfold hd;rw [if_neg (by omega),hlen,show base+55+(f-55)=base+f by omega,hs,hd1];rfl
theorem zh0 {f n:Nat}{t:ByteArray}{Y:List UInt8}(l:Bool)(hf:f<64)(hn:n<0x10000000000000000)(h:UInt8.ofNat (frm l+f)::tl t=hd (frm l) n++Y):∃u,yQ f t=some (n,u)∧tl u=Y:=by
 have hb:frm l=192∨frm l=128:=by rcases qQ l with ⟨_,e⟩ | ⟨_,e⟩<;>omega
 have hdl:=qj n;unfold hd at h;by_cases h1:n≤55
 ·rw [if_pos h1] at h;obtain ⟨e1,e2⟩:=List.cons.inj h;have e3:=xA (by omega) (by omega) e1;have e4:f=n:=by omega
  subst e4;exact ⟨t,by unfold yQ;rw [if_pos h1],e2⟩
 ·rw [if_neg h1] at h;obtain ⟨e1,e2⟩:=List.cons.inj h;have e3:=xA (by omega) (by omega) e1;have hp:=vx (show n≠0 by omega);have hfe:f-55=(dg n).length:=by omega
  obtain ⟨c1,c2,c3⟩:=uG e2 hfe;have hs:t.extract 0 (f-55)=zh (dg n):=qi (by rw [c1,qm]);refine ⟨t.extract (f-55) t.size,?_,c2⟩;unfold yQ;rw [if_neg (by omega),if_neg (by omega),hs,zdH hn,if_neg h1]
def qE (t:ByteArray):Prop:= ∀(l:Bool) (s:ByteArray) (k:Fo) (X:List UInt8),mixed l s k.len=false→pureF k=true→tl t≠wr1 l s (szF k) (wrF k)++X
def uH (t:ByteArray):Prop:= ∀k:Fo,pureF k=true→tl t≠wrF k
def yc (t:ByteArray)(l:Bool)(s:ByteArray)(k:Fo)(u:ByteArray):Prop:=mixed l s k.len=false∧pureF k=true∧tl t=wr1 l s (szF k) (wrF k)++tl u
theorem zdM {t:ByteArray}(h:t.size≠0):tl t=UInt8.ofNat (by_ t 0)::tl (t.extract 1 t.size):=by
 obtain ⟨l,e⟩:=xw h;rw [zbg,e];rfl
theorem zdN {t:ByteArray}(h:t.size≠0):zX (t.extract 0 1)=decide (by_ t 0<128):=by
 have hz:(t.extract 0 1).size=1:=by rw [qp t 0 1 (by omega) (by omega)]
 have hb:by_ (t.extract 0 1) 0=by_ t 0:=by
  obtain ⟨l,e⟩:=xw h;unfold by_;rw [yO,e];rfl
 unfold zX;rw [hz,hb];simp
theorem zdO {t:ByteArray}{l:Bool}{s:ByteArray}{k:Fo}{X:List UInt8}(ht:t.size≤100000)(hm:mixed l s k.len=false)(hp:pureF k=true)(h:tl t=wr1 l s (szF k) (wrF k)++X):
 t.size≠0∧((by_ t 0<128∧zX s=true)∨(zX s=false∧128≤by_ t 0∧(l=true↔192≤by_ t 0)∧∃u,yQ (by_ t 0-frm l) (t.extract 1 t.size)=some (s.size+szF k,u)∧tl u=(tl s++wrF k)++X)):=by
 have h1:=(jz hm hp rfl).1;have hl:t.size=(wr1 l s (szF k) (wrF k)).length+X.length:=by rw [←zt,h,List.length_append]
 have h0:t.size≠0:=by omega
 refine ⟨h0,?_⟩;have hb:=zdM h0;have hlt:=qg t 0;have hpl:=ye hp;unfold wr1 at h hl;cases hs:zX s with
 | true=>
  left;obtain ⟨b,e,hb1⟩:=uD hs;rw [if_pos hs,hb,e] at h;simp only [List.nil_append,List.cons_append] at h;obtain ⟨e1,_⟩:=List.cons.inj h;have:=congrArg UInt8.toNat e1;rw [UInt8.toNat_ofNat_of_lt' (by simpa using hlt)] at this;exact ⟨by omega,rfl⟩
 | false=>
  right;rw [if_neg (by rw [hs];decide)] at h hl;rw [List.length_append,List.length_append,zt] at hl;obtain ⟨b,r,e,hb1⟩:=zbv l (s.size+szF k);have h9:=h;rw [hb,e] at h9;simp only [List.cons_append] at h9;obtain ⟨e1,_⟩:=List.cons.inj h9;have h128:128≤by_ t 0:=by
   have:=congrArg UInt8.toNat e1;rw [UInt8.toNat_ofNat_of_lt' (by simpa using hlt)] at this;omega
  have hrange:frm l≤by_ t 0∧by_ t 0<frm l+64:=by
   have hdl:=qj (s.size+szF k);have hfb:frm l=192∨frm l=128:=by rcases qQ l with ⟨_,e⟩ | ⟨_,e⟩<;>omega
   unfold hd at e;split at e
   ·obtain ⟨q,_⟩:=List.cons.inj e;rw [←q] at e1;have:=xA hlt (by omega) e1;omega
   ·obtain ⟨q,_⟩:=List.cons.inj e;rw [←q] at e1;have:=xA hlt (by omega) e1;omega
  refine ⟨rfl,h128,?_,?_⟩
  ·rcases qQ l with ⟨q,e2⟩|⟨q,e2⟩
   ·rw [q];simp;omega
   ·rw [q];simp;omega
  ·refine zh0 l (by omega) (by omega) ?_;rw [show frm l+(by_ t 0-frm l)=by_ t 0 by omega,←hb,h,List.append_assoc]
theorem zdP {t:ByteArray}(h:t.size<1):qE t:=fun l s k X hm hp he=>by
 have h1:=(jz hm hp rfl).1;have hl:=congrArg List.length he;rw [zt,List.length_append] at hl;omega
theorem zh1 {b:Nat}(l:Bool)(h:l=true↔192≤b)(hb:b<192):l=false∧frm l=128:=by
 cases l with
 | false=>exact ⟨rfl,rfl⟩
 | true=>have:=h.1 rfl;omega
theorem zh2 {b:Nat}(l:Bool)(h:l=true↔192≤b)(hb:192≤b):l=true∧frm l=192:=by
 have:=h.2 hb;subst this;exact ⟨rfl,rfl⟩
theorem zh3 {t:ByteArray}(h0:t.size≠0)(hb:by_ t 0<128):yc t false (t.extract 0 1) .nil (t.extract 1 t.size):=by
 have hs:zX (t.extract 0 1)=true:=by rw [zdN h0];exact decide_eq_true hb
 refine ⟨by simp [mixed,Fo.len],rfl,?_⟩;unfold wr1;rw [if_pos hs];simp only [wrF,List.append_nil,List.nil_append];exact uF t 1 (by omega)
theorem zdQ {t u:ByteArray}{b n:Nat}(l:Bool)(h0:t.size≠0)(hb:by_ t 0=b)(hl:frm l≤b)(hf:b-frm l<64)(hc:yQ (b-frm l) (t.extract 1 t.size)=some (n,u)):tl t=hd (frm l) n++tl u:=by
 have:=(zbw hc hf (frm l)).1;rw [show frm l+(b-frm l)=b by omega] at this;rw [zdM h0,hb];exact this
theorem zh4 {t u:ByteArray}{n:Nat}(h0:t.size≠0)(h1:128≤by_ t 0)(h2:by_ t 0<192)(hc:yQ (by_ t 0-128) (t.extract 1 t.size)=some (n,u))(hn:n≤u.size)(hs:zX (u.extract 0 n)=false):yc t false (u.extract 0 n) .nil (u.extract n u.size):=by
 have hz:(u.extract 0 n).size=n:=by rw [qp u 0 n hn (by omega)];omega
 refine ⟨by simp [mixed,Fo.len],rfl,?_⟩;unfold wr1;rw [if_neg (by rw [hs];decide),hz];have:=zdQ (b:=by_ t 0) false h0 rfl h1 (show _-128<64 by omega) hc;rw [this,uF u n hn];simp only [szF,wrF,Nat.add_zero,List.append_nil,List.append_assoc]
theorem zh5 {t u:ByteArray}{n:Nat}{k:Fo}(h0:t.size≠0)(h2:192≤by_ t 0)(hc:yQ (by_ t 0-192) (t.extract 1 t.size)=some (n,u))(hn:n≤u.size)(hp:pureF k=true)(hk:tl (u.extract 0 n)=wrF k):yc t true ⟨#[]⟩ k (u.extract n u.size):=by
 have hlt:=qg t 0;have hz:(u.extract 0 n).size=n:=by rw [qp u 0 n hn (by omega)];omega
 have hpl:=ye hp;have hn2:n=szF k:=by rw [←hz,←zt,hk,hpl]
 refine ⟨rfl,hp,?_⟩;have hs:zX ⟨#[]⟩=false:=by decide
 unfold wr1;rw [if_neg (by rw [hs];decide)];have:=zdQ (b:=by_ t 0) true h0 rfl h2 (show _-192<64 by omega) hc;have h9:(ByteArray.size ⟨#[]⟩)+szF k=n:=by rw [hn2];exact Nat.zero_add _
 rw [h9,this,uF u n hn,hk];show _=hd (frm true) n++([]++wrF k)++_;simp only [List.nil_append,List.append_assoc]
theorem uI {t:ByteArray}(l:Bool)(ht:t.size≤100000)(h0:t.size≠0)(h1:128≤by_ t 0)(hl:l=true↔192≤by_ t 0)
 (hb: ∀n u,yQ (by_ t 0-frm l) (t.extract 1 t.size)=some (n,u)→ ∀(s:ByteArray) (k:Fo) (X:List UInt8),mixed l s k.len=false→pureF k=true→zX s=false→n=s.size+szF k→n=(tl s++wrF k).length→tl u=(tl s++wrF k)++X→False):qE t:=fun l' s k X hm hp he=>by
 obtain ⟨_,h|⟨hs,_,hl',u,hc,hu⟩⟩:=zdO ht hm hp he
 ·omega
 ·have e:l'=l:=by
   have h8:(l'=true)=(l=true):=propext (hl'.trans hl.symm);cases l<;>cases l'<;>first | rfl | (simp only [Bool.false_eq_true,eq_iff_iff,false_iff,iff_false,true_iff,iff_true,not_true_eq_false] at h8)
  subst e;exact hb _ _ hc s k X hm hp hs rfl (by rw [List.length_append,zt,ye hp]) hu
theorem zdR {t:ByteArray}(l:Bool)(ht:t.size≤100000)(h0:t.size≠0)(h1:128≤by_ t 0)(hl:l=true↔192≤by_ t 0)(hc:yQ (by_ t 0-frm l) (t.extract 1 t.size)=none):qE t:=
 uI l ht h0 h1 hl fun n u h=>by rw [hc] at h;cases h
theorem zdS {t u:ByteArray}{n:Nat}(l:Bool)(ht:t.size≤100000)(h0:t.size≠0)(h1:128≤by_ t 0)(hl:l=true↔192≤by_ t 0)(hc:yQ (by_ t 0-frm l) (t.extract 1 t.size)=some (n,u))(hn:u.size<n):qE t:=
 uI l ht h0 h1 hl fun n' u' h s k X _ _ _ _ hlen hu=>by
  rw [hc] at h;injection h with h;injection h with e1 e2;subst e1;subst e2
  have:=congrArg List.length hu;rw [List.length_append,←hlen,zt] at this;omega
theorem zh6 {t u:ByteArray}{n:Nat}(ht:t.size≤100000)(h0:t.size≠0)(h1:128≤by_ t 0)(h2:by_ t 0<192)(hc:yQ (by_ t 0-128) (t.extract 1 t.size)=some (n,u))(hs:zX (u.extract 0 n)=true):qE t:=
 uI false ht h0 h1 (by simp;omega) fun n' u' h s k X hm hp hs' _ hlen hu=>by
  rw [show by_ t 0-frm false=by_ t 0-128 from rfl,hc] at h;injection h with h;injection h with e1 e2;subst e1;subst e2
  rcases qR hm with ⟨q,_⟩|⟨_,q⟩
  ·cases q
  ·subst q;have h9:=(uG hu hlen).1;simp only [wrF,List.append_nil] at h9;rw [qi h9] at hs;rw [hs] at hs';cases hs'
theorem zh7 {t u:ByteArray}{n:Nat}(ht:t.size≤100000)(h0:t.size≠0)(h2:192≤by_ t 0)(hc:yQ (by_ t 0-192) (t.extract 1 t.size)=some (n,u))(hs:uH (u.extract 0 n)):qE t:=
 uI true ht h0 (by omega) (by simp;omega) fun n' u' h s k X hm hp hs' _ hlen hu=>by
  rw [show by_ t 0-frm true=by_ t 0-192 from rfl,hc] at h;injection h with h;injection h with e1 e2;subst e1;subst e2
  rcases qR hm with ⟨_,q⟩|⟨q,_⟩
  ·subst q;exact hs k hp (uG hu hlen).1
  ·cases q
theorem zdT {t u:ByteArray}{l:Bool}{s:ByteArray}{k k':Fo}(ht:t.size≤100000)(h:yc t l s k u)(hp:pureF k'=true)(he:tl t=wrF k'):∃r,pureF r=true∧tl u=wrF r:=by
 obtain ⟨hm,hpk,hi⟩:=h;have hlen:=congrArg List.length hi;rw [zt,List.length_append,qn hm (ye hpk)] at hlen;have hsz:sz1 l s (szF k)≤100000:=by omega
 cases k' with
 | nil=>
  exfalso;have h1:=(jz hm hpk rfl).1;rw [hi] at he;have:=congrArg List.length he;simp only [wrF,List.length_append,List.length_nil] at this;omega
 | cons l' s' kk r=>
  simp only [pureF,Bool.and_eq_true,Bool.not_eq_true'] at hp;have h9:=he;have hlen2:=congrArg List.length he;simp only [wrF] at hlen2;rw [zt,List.length_append,qn hp.1.1 (ye hp.1.2)] at hlen2;have hsz2:sz1 l' s' (szF kk)≤100000:=by omega
  have hpay: ∀(l:Bool) (s:ByteArray) (k:Fo),sz1 l s (szF k)≤100000→mixed l s k.len=false→s.size+szF k≤100000:=fun l s k h hm=>by
   unfold sz1 at h;split at h
   ·rename_i q
    have h1:=jk q;have h2:=len_zero (ja hm q);rw [h2];simp only [szF];omega
   ·omega
  have hx:=hpay l s k hsz hm;have hy:=hpay l' s' kk hsz2 hp.1.1;rw [hi] at h9;simp only [wrF] at h9;obtain ⟨_,_,_,hX⟩:=vy hm hp.1.1 (ye hpk).symm (ye hp.1.2).symm (by omega) (by omega) (fun q=>kx k kk hpk hp.1.2 (by rw [ye hpk];omega) q) h9;exact ⟨r,hp.2,hX⟩
def jb (w:World)(p:Option Addr)(L:List X3):Prop:=L=[]∨∃b off,p=some ⟨b,off,none⟩∧ ∀(j:Nat) (u:Value),(cells3 L)[j]? =some u→w.cell? ⟨b,off+j,none⟩=some u
theorem jb.up {w w':World}{p:Option Addr}{L:List X3}(h:jb w p L)(hb:Below w.heap.size w w'):jb w' p L:=by
 rcases h with h|⟨b,off,e,h⟩
 ·exact .inl h
 ·refine .inr ⟨b,off,e,fun j u hj=>?_⟩;have h1:=h j u hj;have hlt:b<w.heap.size:=by
   rcases Nat.lt_or_ge b w.heap.size with q|q
   ·exact q
   ·simp [World.cell?,Array.getElem?_eq_none q] at h1
  rw [←h1];unfold World.cell?;rw [hb.block b hlt]
theorem Rw.cellsAt {cur:Array Value}{cap n:Nat}{L:List X3}(h:Rw 3 cur cap n (cells3 L)){w:World}{b:Nat}{T:TypeId}{fz:Nat×Nat}(hh:w.heap[b]? =some (.cells cur T fz)):n=L.length∧jb w (some ⟨b,0,none⟩) L:=by
 have hl:=h.len;rw [jJ] at hl;refine ⟨by omega,.inr ⟨b,0,rfl,fun j u hj=>?_⟩⟩;have hlt:j<n*3:=by have:=(List.getElem?_eq_some_iff.1 hj).1;rw [jJ] at this;omega
 rw [Nat.zero_add];simp [World.cell?,hh,h.get j hlt,hj]
def vA (T:TypeId)(mk:Value→Value)(n:Nat)(L:List X3):Nat→Value→World→Prop:=fun B v w'=>
 (n=0∧v=mk (.slice none 0 0))∨∃b cap cur,v=mk (.slice (some ⟨b,0,none⟩) n cap)∧B≤b∧w'.heap[b]? =some (.cells cur T (0,0))∧Rw 3 cur cap n (cells3 L)
section
variable {P:Program}{N:Nat}{ops:Array Oper}{i:Nat}{r:List Nat}{K:Env→World→Prop}{ρ:Env}{w:World}{B:Nat}{w0:World}{l:List (Nat×Obj)}
theorem zdU (HS:St B w0 w l)(d:Option Nat)(f:Nat)(args:Array Value)(pre:World→Prop)(T:TypeId)(mk:Value→Value)(n:Nat)(L:List X3)(hc:FnR P f args pre (vA T mk n L))(hp:pre w)
 (h:opv P ops i ρ w=some (d,true,.ok (.enter f args) w)) (hd:dOK d N=true)
 (k0: ∀w',n=0→St B w0 w' l→WPs P N ops K r (zr ρ d (mk (.slice none 0 0))) w')
 (kk: ∀b cap cur w',St B w0 w' ((b,.cells cur T (0,0))::l)→Rw 3 cur cap n (cells3 L)→WPs P N ops K r (zr ρ d (mk (.slice (some ⟨b,0,none⟩) n cap))) w'):WPs P N ops K (i::r) ρ w:=by
 obtain ⟨o,ho,rfl,hw,hr⟩:=zU h;refine WPo.run ho hw fun a ha=>?_;rw [hr,Oper.upon_enter];refine (hc w hp).mono ?_;rintro e w' ⟨v,rfl,hb,⟨h0,rfl⟩|⟨b,cap,cur,rfl,hle,hh,hr⟩⟩
 ·exact ⟨_,ha.put _ (zT hd) _,k0 w' h0 (HS.call hb)⟩
 ·exact ⟨_,ha.put _ (zT hd) _,kk b cap cur w' (HS.add hb hle hh) hr⟩
theorem zh8 (HS:St B w0 w l)(d:Option Nat)(t e:TypeId)(bytes:Nat)(s x:Operand)(j b n m cap c:Nat)(p:Option Addr)(cur:Array Value)(xs:List Value)(L:List X3)(l':Nat→Array Value→List (Nat×Obj))
 (h:opk ops i ρ=some (d,true,yq t s x)) (hd:dOK d N=true) (ht:yy P t=some (e,3,bytes))
 (hs:ev ρ s=.slice (some ⟨b,0,none⟩) n cap) (hj:l[j]? =some (b,.cells cur e (0,0))) (hr:Rw 3 cur cap n xs)
 (hx:ev ρ x=.slice p m c) (hm:m=L.length) (hp:p≠none) (hc:jb w p L)
 (hb:(n+m)*bytes≤0x800000000000) (hmx:n+m≤maxLen)
 (hl': ∀b' cur',l.set j (b',.cells cur' e (0,0))=l' b' cur')
 (kk: ∀b' cap' cur' w',St B w0 w' (l' b' cur')→Rw 3 cur' cap' (n+m) (xs++cells3 L)→WPs P N ops K r (zr ρ d (.slice (some ⟨b',0,none⟩) (n+m) cap')) w'):WPs P N ops K (i::r) ρ w:=by
 obtain ⟨o,ho,rfl,hw,hop⟩:=zE h;obtain ⟨it,z,hu,hi,hz,hsz,hby,hzs,h0⟩:=qu ht;obtain ⟨a,rfl⟩:∃a,p=some a:=by cases p with
  | none=>exact absurd rfl hp
  | some a=>exact ⟨a,rfl⟩
 have hnews: ∀q u,(cells3 L)[q]? =some u→w.cell? (a.add q)=some u:=fun q u hq=>by
  rcases hc with rfl|⟨b',off,e',h9⟩
  ·simp [cells3] at hq
  ·obtain rfl:a=⟨b',off,none⟩:=Option.some.inj e';rw [qt];exact h9 q u hq
 obtain ⟨v',w',hrun,hown,hgr,hnil,hblk⟩:=run_append_own_at (P:=P) w B t o.type e it z 3 bytes hu hi hz hsz hby hzs h0 _ n xs (hr.owns (HS.ge j hj) (HS.get j hj)) a m c (cells3 L) (by rw [jJ,hm]) hnews (uy L) hmx hb HS.le;have hown':=hown;rcases hown'.2 with ⟨hv,_⟩|⟨g,cap',cur',rfl,hbg,hg,hnc,hcm,hcs,htk⟩
 ·exact absurd (hnil.1 hv).1 (by simp)
 ·have hgb:g=b∨g=w.heap.size:=by
   rcases hblk with hq|hq
   ·left;injection hq
   ·right;injection hq
  have HS':=HS.grown j hj hgr hgb hg;rw [hl'] at HS';refine WPo.run ho hw fun a' ha=>?_;have hex:(execOp (ev ρ) o).run P w=.ok (.value (.slice (some ⟨g,0,none⟩) (n+m) cap')) w':=by
   unfold execOp;simp only [hop,yq,resolve,invoke,builtin,Sem.run_bind,Sem.run_pure,Result.andThen_ok,List.map_toArray,List.map_cons,List.map_nil,hs,hx,hrun]
  rw [hex,Oper.upon_value];exact ⟨_,ha.put _ (zT hd) _,kk g cap' cur' w' HS' ⟨hown.1,hnc,hcm,htk,hcs⟩⟩
end
def vB (P:Program)(N:Nat)(ops:Array Oper)(Q:Exit→Env→World→Prop)(i:Nat)(K:Env→World→Prop)(ρ:Env)(w:World):Prop:=
 ∀a,Rep a ρ N→wpOp P ops (qd N Q) i (fun a' w'=> ∃ρ',Rep a' ρ' N∧K ρ' w') a w
def yH (P:Program)(N:Nat)(ops:Array Oper)(Q:Exit→Env→World→Prop)(K:Env→World→Prop):List Nat→Env→World→Prop
 | [],ρ,w=>K ρ w
 | i::r,ρ,w=>vB P N ops Q i (yH P N ops Q K r) ρ w
section
variable {P:Program}{N:Nat}{ops:Array Oper}{Q:Exit→Env→World→Prop}{K:Env→World→Prop}{ρ:Env}{w:World}{i:Nat}{r:List Nat}{c:Code}
theorem yH.sound: ∀(l:List Nat) (ρ:Env) (w:World),yH P N ops Q (Q .normal) l ρ w→ ∀a,Rep a ρ N→wpOps P ops (qd N Q) l a w
 | [],ρ,w,h,a,ha=>⟨ρ,ha,h⟩
 | i::r,ρ,w,h,a,ha=>by
  rw [wpOps_cons];exact wpOp_mono (fun a' w' ⟨ρ',hr,h'⟩=>yH.sound r ρ' w' h' a' hr) (h a ha)
theorem WP.regionX {id:Nat}(l:List Nat)(hl:List.range ops.size=l)(h:yH P N ops Q (Q .normal) l ρ w):WP P N (.region id ops false) Q ρ w:=fun a ha=>
 wp_region (by rw [hl];exact yH.sound l ρ w h a ha)
theorem jY (l1:List Nat){l l2:List Nat}(hl:l=l1++l2)(h:WPs P N ops (fun ρ w=>yH P N ops Q K l2 ρ w) l1 ρ w):yH P N ops Q K l ρ w:=by
 subst hl
 induction l1 generalizing ρ w with
 | nil=>exact h
 | cons i r ih=>
  intro a ha;exact wpOp_mono (fun a' w' ⟨ρ',hr,h'⟩=>⟨ρ',hr,ih h'⟩) (zcC (h a ha))
theorem vB.run {o:Oper}(ho:ops[i]? =some o)(hw:Region.wanted o (zJ ops ρ)=true)
 (h: ∀a,Rep a ρ N→Oper.upon P o a (fun a' w'=> ∃ρ',Rep a' ρ' N∧K ρ' w') (qd N Q) ((execOp (ev ρ) o).run P w)):vB P N ops Q i K ρ w:=fun a ha=>by
 unfold wpOp;simp only [ho,jf ha,hw,if_true];refine .inl ?_;unfold Oper.wp;rw [ha.eval];exact h a ha
theorem zdV (d:Option Nat)(f:Nat)(args:Array Value)(R:Ending→World→Prop)(hc:Calls P f args w R)(h:opv P ops i ρ w=some (d,true,.ok (.enter f args) w))(hd:dOK d N=true)
 (kk: ∀e w',R e w'→(∃v,e=.returned v∧yH P N ops Q K r (zr ρ d v) w')∨(∃ch,e=.panicked ch∧Q (.panic ch) ρ w')):yH P N ops Q K (i::r) ρ w:=by
 obtain ⟨o,ho,rfl,hw,hr⟩:=zU h;refine vB.run ho hw fun a ha=>?_;rw [hr,Oper.upon_enter];refine hc.mono ?_;intro e w' hR;rcases kk e w' hR with ⟨v,rfl,hk⟩|⟨ch,rfl,hq⟩
 ·exact ⟨_,ha.put _ (zT hd) v,hk⟩
 ·exact ⟨ρ,ha,hq⟩
theorem uJ (d:Option Nat)(v:Value)(h:opv P ops i ρ w=some (d,true,.halt (.panic v) w))(hq:Q (.panic [{ v,recovered:=false }]) ρ w):yH P N ops Q K (i::r) ρ w:=by
 obtain ⟨o,ho,rfl,hw,hr⟩:=zU h;refine vB.run ho hw fun a ha=>?_;rw [hr,Oper.upon_panic];exact ⟨ρ,ha,hq⟩
theorem uK (l:List Nat)(hc:qL c=some (l,false))(h:yH P N (zo c) Q (Q .normal) l ρ w):WP P N c Q ρ w:=by
 obtain ⟨id,he,hl⟩:=xN hc;rw [he];exact WP.regionX l hl h
theorem uL (l:List Nat)(hc:qe c=true)(hr:qL (zD c)=some (l,false))(h:yH P N (zo (zD c)) (nx (WP P N (zy c) Q) Q) (WP P N (zy c) Q) l ρ w):WP P N c Q ρ w:=
 zb hc (uK l hr h)
end
def zbx (P:Program)(rs:List ResultVar)(R:Value→World→Prop)(RP:List PanicEntry→World→Prop):Exit→Env→World→Prop
 | .normal,ρ,w | .ret,ρ,w=> ∃vs,Res P w ρ rs vs∧R (jg vs) w
 | .panic ch,_,w=>RP ch w
 | _,_,_=>False
theorem zdW {P:Program}{f:Nat}{fn:Func}{c:Code}{rs:List ResultVar}{N:Nat}{args:Array Value}{w:World}{R:Value→World→Prop}{RP:List PanicEntry→World→Prop}(hf:P.funcs[f]? =some fn)(hb:fn.body=some c)(hr:fn.results.toList=rs)(hn:args.size+(fn.ntmps-args.size)=N)
 (h:WP P N c (zbx P rs R RP) (ini args) w):Calls P f args w fun e w'=>(∃v,e=.returned v∧R v w')∨(∃ch,e=.panicked ch∧RP ch w'):=by
 subst hr;refine calls_of_wp hf hb (Go.wp_mono (h { tmps:=args++Array.replicate (fn.ntmps-args.size) undef,defers:=[] } ⟨rfl,by simp [hn],fun t=>?_⟩) ?_)
 ·unfold ini;rw [jN,jN,Array.getElem?_append];split
  ·rfl
  ·rename_i hge
   rw [Array.getElem?_eq_none (Nat.le_of_not_lt hge)];cases he:(Array.replicate (fn.ntmps-args.size) undef)[t-args.size]? with
   | none=>rfl
   | some v=>
    have:=Array.mem_of_getElem? he;simp at this;simp [this]
 ·rintro e a w' ⟨ρ,ha,hq⟩;cases e with
  | normal=>obtain ⟨vs,hR,hv⟩:=hq;exact ⟨ha.defers,_,hR.run ha,.inl ⟨_,rfl,hv⟩⟩
  | ret=>obtain ⟨vs,hR,hv⟩:=hq;exact ⟨ha.defers,_,hR.run ha,.inl ⟨_,rfl,hv⟩⟩
  | panic ch=>exact ⟨ha.defers,.inr ⟨_,rfl,hq⟩⟩
  | _=>exact (hq:False).elim
def qS (T:List (Nat×Obj)):Fo→Nat→Nat→Prop
 | .nil,_,_=>True
 | .cons l s k r,b,off=>(∃(C:Array Value) (ty:TypeId) (fz:Nat×Nat) (p:Option Addr) (n c:Nat),(b,Obj.cells C ty fz)∈T∧off+3≤C.size∧
  C.extract off (off+3)=#[.bool l,.string s,.slice p n c]∧s.size≤0x800000000000∧n=k.len∧n≤0x800000000000∧(k=.nil∨∃b' off',p=some ⟨b',off',none⟩∧qS T k b' off'))∧qS T r b (off+3)
def SlIn (T:List (Nat×Obj))(p:Option Addr)(n:Nat)(k:Fo):Prop:=n=k.len∧n≤0x800000000000∧(k=.nil∨∃b off,p=some ⟨b,off,none⟩∧qS T k b off)
theorem qS.mono {T T':List (Nat×Obj)}(h: ∀e∈T,e∈T'): ∀ {k:Fo} {b off:Nat},qS T k b off→qS T' k b off
 | .nil,_,_,_=>trivial
 | .cons l s k r,b,off,⟨⟨C,ty,fz,p,n,c,h1,h2,h3,h4,h5,h6,h7⟩,h8⟩=>⟨⟨C,ty,fz,p,n,c,h _ h1,h2,h3,h4,h5,h6,h7.imp id fun ⟨b',o',e,q⟩=>⟨b',o',e,qS.mono h q⟩⟩,qS.mono h h8⟩
theorem SlIn.mono {T T':List (Nat×Obj)}{p:Option Addr}{n:Nat}{k:Fo}(hs:SlIn T p n k)(h: ∀e∈T,e∈T'):SlIn T' p n k:=
 ⟨hs.1,hs.2.1,hs.2.2.imp id fun ⟨b,o,e,q⟩=>⟨b,o,e,q.mono h⟩⟩
theorem qS.at {B:Nat}{w0 w:World}{l T:List (Nat×Obj)}(hS:St B w0 w l)(h: ∀e∈T,e∈l): ∀ {k:Fo} {b off:Nat},qS T k b off→qP w.heap.size w k b off
 | .nil,_,_,_=>trivial
 | .cons l s k r,b,off,⟨⟨C,ty,fz,p,n,c,h1,h2,h3,h4,h5,h6,h7⟩,h8⟩=>
  have hh:=(hS.own _ (h _ h1)).2
  ⟨⟨C,ty,fz,p,n,c,zq hh,hh,h2,h3,h4,h5,h6,h7.imp id fun ⟨b',o',e,q⟩=>⟨b',o',e,qS.at hS h q⟩⟩,qS.at hS h h8⟩
theorem SlIn.at {B:Nat}{w0 w:World}{l T:List (Nat×Obj)}{p:Option Addr}{n:Nat}{k:Fo}(hs:SlIn T p n k)(hS:St B w0 w l)(h: ∀e∈T,e∈l):zp w.heap.size w p n k:=
 ⟨hs.1,hs.2.1,hs.2.2.imp id fun ⟨b,o,e,q⟩=>⟨b,o,e,q.at hS h⟩⟩
def AllIn (T:List (Nat×Obj))(L:List X3):Prop:= ∀x∈L,SlIn T x.p x.n x.k∧x.s.size≤0x800000000000
theorem zdX {T:List (Nat×Obj)}{b:Nat}{C:Array Value}{ty:TypeId}{fz:Nat×Nat}(hm:(b,Obj.cells C ty fz)∈T): ∀(L:List X3) (o:Nat),
 (∀(i:Nat) (x:X3),L[i]? =some x→C[o+i*3]? =some (.bool x.l)∧C[o+i*3+1]? =some (.string x.s)∧C[o+i*3+2]? =some (.slice x.p x.n x.c))→AllIn T L→qS T (toFo L) b o
 | [],_,_,_=>trivial
 | x::r,o,h,hA=>by
  obtain ⟨h1,h2,h3⟩:=h 0 x rfl;simp only [Nat.zero_mul,Nat.add_zero] at h1 h2 h3;have ha:=hA x (List.mem_cons_self ..);refine ⟨⟨C,ty,fz,x.p,x.n,x.c,hm,(ex3 h1 h2 h3).1,(ex3 h1 h2 h3).2,ha.2,ha.1.1,ha.1.2.1,ha.1.2.2⟩,?_⟩;refine zdX hm r (o+3) (fun i y hy=>?_) fun y hy=>hA y (List.mem_cons_of_mem _ hy);have:=h (i+1) y (by simpa using hy);rw [show o+(i+1)*3=o+3+i*3 by omega] at this;exact this
theorem Rw.slIn {cur:Array Value}{cap n:Nat}{L:List X3}(h:Rw 3 cur cap n (cells3 L)){T:List (Nat×Obj)}{b:Nat}{ty:TypeId}{fz:Nat×Nat}(hm:(b,Obj.cells cur ty fz)∈T)(hA:AllIn T L)(hn:n≤0x800000000000):SlIn T (some ⟨b,0,none⟩) n (toFo L):=by
 have hl:=h.len;rw [jJ] at hl;refine ⟨by rw [uw];omega,hn,.inr ⟨b,0,rfl,zdX hm L 0 (fun i x hx=>?_) hA⟩⟩;have:=h.at3 hx;rw [Nat.zero_add];exact this
end Go.Proofs.YtbpmjppmpgeejaaGreatDoor
