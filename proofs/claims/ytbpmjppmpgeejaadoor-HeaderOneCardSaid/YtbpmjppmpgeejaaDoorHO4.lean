/-
  Texts of the proof,part 4.
-/
import Derived.Test.YtbpmjppmpgeejaaDoorRows
import Derived.Lib.LaidTab
import Derived.MakeChecks
import Derived.LaidLaws
import Derived.LaidHandle
import Derived.ProofKit
import Derived.WalkKit
import Derived.Test.YtbpmjppmpgeejaaDoorProg
import Derived.Test.YtbpmjppmpgeejaaDoorHO1
import Derived.Test.YtbpmjppmpgeejaaDoorHO2
import Derived.Test.YtbpmjppmpgeejaaDoorHO3
set_option maxRecDepth 100000
set_option maxHeartbeats 4000000
namespace Go.Proofs.YtbpmjppmpgeejaaDoor
open Go Go.ChangeShapes Go.WideShapes Go.ChangeAt Go.RowKit
set_option linter.unusedVariables false
set_option maxRecDepth 100000
theorem zfg:Tryd.prog.cellsOf 26=11:=kr
theorem zbQ:Tryd.prog.cellsOf 47=9:=kr
theorem zfh:Tryd.prog.cellsOf 3=1:=kr
theorem zbR:Tryd.prog.cellsOf 9=1:=kr
theorem zfi:Tryd.prog.cellsOf 22=1:=kr
theorem zfj:Tryd.prog.cellsOf 4=1:=kr
theorem zfk:Tryd.prog.cellsOf 23=1:=kr
theorem zfl:Tryd.prog.cellsOf 24=1:=kr
theorem zbS {α:Type}(l:List α)(h:l.length=11):∃a0 a1 a2 a3 a4 a5 a6 a7 a8 a9 a10,l=[a0,a1,a2,a3,a4,a5,a6,a7,a8,a9,a10]:=by
 match l,h with
 | [a0,a1,a2,a3,a4,a5,a6,a7,a8,a9,a10],_=>exact ⟨_,_,_,_,_,_,_,_,_,_,_,rfl⟩
section
variable {H:Type}{enc:TypeId×Value→H}{W:World}{sp:Nat→Bool}{held:Bool}
theorem zfm (fuel:Nat)(cs:List Value)(x:DataW H×List MemPlace)(h:DataW.trod enc Tryd.prog W 0 sp held fuel 47 cs=some x):∃a:Sg,cs=sgF.cs a∧sgOk a:=by
 obtain ⟨y0,y1,y2,m,hx,hl,hy0,hy1,hy2⟩:=Go.Deep.trod_struct3 Tryd.underlying47 h;rw [zbQ] at hl;obtain ⟨c0,c1,c2,c3,c4,c5,c6,c7,c8,rfl⟩:=zdv cs hl;rw [zdu] at hy0 hy1;rw [zfh] at hy2;obtain ⟨n,hn,a0,a1,a2,a3⟩:=zal (show DataW.trod enc Tryd.prog W 0 sp held m 45 [c0,c1,c2,c3]=some y0 from hy0);obtain ⟨k,hk,b0',b1,b2,b3⟩:=zal (show DataW.trod enc Tryd.prog W 0 sp held m 45 [c4,c5,c6,c7]=some y1 from hy1);obtain ⟨z,hz,_,_⟩:=DataW.trod_int Tryd.underlying3 (show DataW.trod enc Tryd.prog W 0 sp held m 3 [c8]=some y2 from hy2);have hz:c8=.int .i64 z:=by simpa using hz
 exact ⟨(n,k,z),by rw [a0,a1,a2,a3,b0',b1,b2,b3,hz];rfl,hn,hk⟩
theorem zfn (fuel:Nat)(cs:List Value)(x:DataW H×List MemPlace)(h:DataW.trod enc Tryd.prog W 0 sp held fuel 9 cs=some x):∃a:ByteArray,cs=sS.cs a∧a.size≤maxLen:=by
 obtain ⟨s,e0,_,hs⟩:=DataW.trod_string Tryd.underlying9 h;exact ⟨s,e0,hs⟩
def uf (h:Hdr):Prop:=h.hh<0x10000000000000000∧h.rd<0x10000000000000000∧ ∀x∈h.ss,sgOk x
theorem zbT {v:Value}{d:DataW H}{p:List MemPlace}{base:Nat}(hv:Value.okWide Tryd.prog W .any base 26 v)(h:DataW.Trod enc Tryd.prog W 0 sp held 26 v d p):
 ∃(hd:Hdr) (p:Option Addr) (n c:Nat) (q:Option Addr) (m k:Nat),v=hdV hd p n c q m k∧yB p n c∧yB q m k∧uf hd∧yr W hd p n q m:=by
 obtain ⟨cs,rfl,hsz,_⟩:∃cs,v=.agg cs∧cs.size=Tryd.prog.cellsOf 26∧Row.okWide Tryd.prog W .any base 26 cs:=by
  simpa [Value.okWide,Tryd.underlying26] using hv
 rw [zfg] at hsz;obtain ⟨l⟩:=cs;obtain ⟨c0,c1,c2,c3,c4,c5,c6,c7,c8,c9,c10,rfl⟩:=zbS l hsz;obtain ⟨fuel,hf⟩:=h;obtain ⟨xs,m,rfl,hxx,hl,hlen,hff⟩:=DataW.trod_struct Tryd.underlying26 hf;obtain ⟨y0,y1,y2,y3,y4,y5,y6,y7,y8,y9,y10,rfl⟩:=zbS xs hlen;have g0:=hff 0 _ rfl;have g1:=hff 1 _ rfl;have g2:=hff 2 _ rfl;have g3:=hff 3 _ rfl;have g4:=hff 4 _ rfl;have g5:=hff 5 _ rfl;have g6:=hff 6 _ rfl;have g7:=hff 7 _ rfl;have g8:=hff 8 _ rfl;have g9:=hff 9 _ rfl;have g10:=hff 10 _ rfl;change DataW.trod enc Tryd.prog W 0 sp held m 9 (([c0,c1,c2,c3,c4,c5,c6,c7,c8,c9,c10].drop 0).take (Tryd.prog.cellsOf 9))=some y0 at g0;change DataW.trod enc Tryd.prog W 0 sp held m 22 (([c0,c1,c2,c3,c4,c5,c6,c7,c8,c9,c10].drop 1).take (Tryd.prog.cellsOf 22))=some y1 at g1;change DataW.trod enc Tryd.prog W 0 sp held m 9 (([c0,c1,c2,c3,c4,c5,c6,c7,c8,c9,c10].drop 2).take (Tryd.prog.cellsOf 9))=some y2 at g2;change DataW.trod enc Tryd.prog W 0 sp held m 9 (([c0,c1,c2,c3,c4,c5,c6,c7,c8,c9,c10].drop 3).take (Tryd.prog.cellsOf 9))=some y3 at g3;change DataW.trod enc Tryd.prog W 0 sp held m 9 (([c0,c1,c2,c3,c4,c5,c6,c7,c8,c9,c10].drop 4).take (Tryd.prog.cellsOf 9))=some y4 at g4;change DataW.trod enc Tryd.prog W 0 sp held m 9 (([c0,c1,c2,c3,c4,c5,c6,c7,c8,c9,c10].drop 5).take (Tryd.prog.cellsOf 9))=some y5 at g5;change DataW.trod enc Tryd.prog W 0 sp held m 23 (([c0,c1,c2,c3,c4,c5,c6,c7,c8,c9,c10].drop 6).take (Tryd.prog.cellsOf 23))=some y6 at g6;change DataW.trod enc Tryd.prog W 0 sp held m 9 (([c0,c1,c2,c3,c4,c5,c6,c7,c8,c9,c10].drop 7).take (Tryd.prog.cellsOf 9))=some y7 at g7;change DataW.trod enc Tryd.prog W 0 sp held m 4 (([c0,c1,c2,c3,c4,c5,c6,c7,c8,c9,c10].drop 8).take (Tryd.prog.cellsOf 4))=some y8 at g8;change DataW.trod enc Tryd.prog W 0 sp held m 22 (([c0,c1,c2,c3,c4,c5,c6,c7,c8,c9,c10].drop 9).take (Tryd.prog.cellsOf 22))=some y9 at g9;change DataW.trod enc Tryd.prog W 0 sp held m 24 (([c0,c1,c2,c3,c4,c5,c6,c7,c8,c9,c10].drop 10).take (Tryd.prog.cellsOf 24))=some y10 at g10;rw [zbR] at g0 g2 g3 g4 g5 g7;rw [zfi] at g1 g9;rw [zfj] at g8;rw [zfk] at g6;rw [zfl] at g10;have str: ∀ {c:Value} {y:DataW H×List MemPlace},DataW.trod enc Tryd.prog W 0 sp held m 9 [c]=some y→∃s,c=.string s:=fun {c y} g=>by
  obtain ⟨s,e,_,_⟩:=DataW.trod_string Tryd.underlying9 g;exact ⟨s,by simpa using e⟩
 have num: ∀ {c:Value} {y:DataW H×List MemPlace},DataW.trod enc Tryd.prog W 0 sp held m 22 [c]=some y→∃n:Nat,n<0x10000000000000000∧c=.int .u64 ((n:Nat):Int):=fun {c y} g=>by
  obtain ⟨z,e,_,hw⟩:=DataW.trod_int Tryd.underlying22 g;obtain ⟨n,hn,rfl⟩:=zcZ hw;exact ⟨n,hn,by simpa using e⟩
 obtain ⟨s0,rfl⟩:=str g0;obtain ⟨n1,h1,rfl⟩:=num g1;obtain ⟨s2,rfl⟩:=str g2;obtain ⟨s3,rfl⟩:=str g3;obtain ⟨s4,rfl⟩:=str g4;obtain ⟨s5,rfl⟩:=str g5;obtain ⟨s7,rfl⟩:=str g7;obtain ⟨n9,h9,rfl⟩:=num g9;obtain ⟨b,e8,_⟩:=DataW.trod_bool Tryd.underlying4 (show DataW.trod enc Tryd.prog W 0 sp held m 4 [c8]=some y8 from g8);obtain rfl:c8=.bool b:=by simpa using e8
 obtain ⟨p,n,c,L,rfl,sl,_,at6⟩:=zab (S:=sS) Tryd.underlying23 zbR zfn (show DataW.trod enc Tryd.prog W 0 sp held m 23 [c6]=some y6 from g6);obtain ⟨q,mm,k,M,rfl,sl2,ok2,at10⟩:=zab (S:=sgF) Tryd.underlying24 zbQ zfm (show DataW.trod enc Tryd.prog W 0 sp held m 24 [c10]=some y10 from g10);exact ⟨⟨s0,n1,s2,s3,s4,s5,L,s7,b,n9,M⟩,p,n,c,q,mm,k,rfl,sl,sl2,⟨h1,h9,ok2⟩,at6,at10⟩
end
end Go.Proofs.YtbpmjppmpgeejaaDoor
namespace Go.Proofs.YtbpmjppmpgeejaaDoor
open Go Go.RowKit
set_option linter.unusedVariables false
set_option maxRecDepth 100000
def zfo:List Int:=[1,32898,0x800000000000808a,0x8000000080008000,32907,2147483649,0x8000000080008081,0x8000000000008009,138,136,2147516425,2147483658,2147516555,0x800000000000008b,0x8000000000008089,0x8000000000008003,0x8000000000008002,0x8000000000000080,32778,0x800000008000000a,0x8000000080008081,0x8000000000008080,2147483649,0x8000000080008008]
def zfp:Array Value:=(Go.Pinned.utf8FirstZ.map fun n=>Value.int .u8 ((n:Nat):Int)).toArray
def zfq:Array Value:=#[.int .u8 128,.int .u8 191,.int .u8 160,.int .u8 191,.int .u8 128,.int .u8 159,.int .u8 144,.int .u8 191,.int .u8 128,.int .u8 143,.int .u8 0,.int .u8 0,.int .u8 0,.int .u8 0,.int .u8 0,.int .u8 0,.int .u8 0,.int .u8 0,.int .u8 0,.int .u8 0,.int .u8 0,.int .u8 0,.int .u8 0,.int .u8 0,.int .u8 0,.int .u8 0,.int .u8 0,.int .u8 0,.int .u8 0,.int .u8 0,.int .u8 0,.int .u8 0]
noncomputable def zbU (os:Os):World:=
 let w0:=World.holding Tryd.prog os ⟨#[],#[],[]⟩
 { w0 with heap:=((w0.heap.modify 0 fun
  | .cells _ t frozen=>.cells (zfo.map (Value.int .u64)).toArray t frozen
  | o=>o).modify 1 fun
  | .cells _ t frozen=>.cells zfp t frozen
  | o=>o).modify 2 fun
  | .cells _ t frozen=>.cells zfq t frozen
  | o=>o }
set_option maxRecDepth 100000
theorem zfr (os:Os) (args:Array Value):laidMetH Tryd.prog [("unicode/utf8.acceptRanges",Rows.laid_unicode_utf8_acceptRanges),("unicode/utf8.first",Rows.laid_unicode_utf8_first)] ((zbU os).forCall (fun _ _=>0) ⟨#[],args,[]⟩).memory:=by
 rw [MakeChecks.laidMetH_plain _ _ _ kr];exact laidMet_of_run' 8 kr kr
section
variable {l:Bool}{s:ByteArray}{k:Fo}
end
end Go.Proofs.YtbpmjppmpgeejaaDoor
namespace Go.Proofs.YtbpmjppmpgeejaaDoor
open Go Go.RowKit
open D2 (Gh)
set_option linter.unusedVariables false
end Go.Proofs.YtbpmjppmpgeejaaDoor
namespace Go.Proofs.YtbpmjppmpgeejaaDoor
open Go Go.RowKit
open D2 (Gh)
set_option linter.unusedVariables false
end Go.Proofs.YtbpmjppmpgeejaaDoor
namespace Go.Proofs.YtbpmjppmpgeejaaDoor
open Go Go.RowKit
open D2 (Gh)
set_option linter.unusedVariables false
def fe0 (a:ByteArray):Fel:=⟨(0,a),none,0,0,.nil⟩
theorem zbV: ∀L:List ByteArray,yg (L.map fe0)=lsF L
 | []=>rfl
 | a::r=>by
  show Fr.cons (0,a) .nil (yg (r.map fe0))=_;rw [zbV r];rfl
theorem zbW {L:List ByteArray}(h: ∀x∈L,ByteArray.size x≤0x800000000000)(T:List (Nat×Obj)):AllE fS T (L.map fe0):=fun x hx=>by
 obtain ⟨a,ha,rfl⟩:=List.mem_map.1 hx;exact ⟨RIn.none _ _,(by decide:0<0x10000000000000000),h a ha⟩
def hdE (h:Hdr)(q1:Option Addr)(n c1:Nat)(q2:Option Addr)(m c2:Nat):List Fel:=
 [fe0 h.pa,⟨(h.hh,em),none,0,0,.nil⟩,fe0 h.ro,fe0 h.tx,fe0 h.pr,fe0 h.va,⟨(0,em),q1,n,c1,lsF h.vs⟩,fe0 h.vo,⟨(adN h.ad,em),none,0,0,.nil⟩,⟨(h.rd,em),none,0,0,.nil⟩,⟨(0,em),q2,m,c2,lsF (h.ss.map sgB)⟩]
theorem zfs {T:List (Nat×Obj)}{h:Hdr}{q1:Option Addr}{n c1:Nat}{q2:Option Addr}{m c2:Nat}(o:yE h)(h1:RIn fS T q1 n (lsF h.vs))(h2:RIn fS T q2 m (lsF (h.ss.map sgB))):AllE fS T (hdE h q1 n c1 q2 m c2):=fun x hx=>by
 have z:(0:Nat)<0x10000000000000000:=by decide
 have ze:em.size≤0x800000000000:=Nat.zero_le _;have ha:adN h.ad<0x10000000000000000:=by unfold adN;split<;>decide
 have k1:=o.pa;have k2:=o.ro;have k3:=o.tx;have k4:=o.pr;have k5:=o.va;have k6:=o.vo;unfold hdE at hx;simp only [List.mem_cons,List.not_mem_nil,or_false] at hx;rcases hx with rfl | rfl | rfl | rfl | rfl | rfl | rfl | rfl | rfl | rfl | rfl
 ·exact ⟨RIn.none _ _,z,by show h.pa.size≤_;omega⟩
 ·exact ⟨RIn.none _ _,o.hh,ze⟩
 ·exact ⟨RIn.none _ _,z,by show h.ro.size≤_;omega⟩
 ·exact ⟨RIn.none _ _,z,by show h.tx.size≤_;omega⟩
 ·exact ⟨RIn.none _ _,z,by show h.pr.size≤_;omega⟩
 ·exact ⟨RIn.none _ _,z,by show h.va.size≤_;omega⟩
 ·exact ⟨h1,z,ze⟩
 ·exact ⟨RIn.none _ _,z,by show h.vo.size≤_;omega⟩
 ·exact ⟨RIn.none _ _,ha,ze⟩
 ·exact ⟨RIn.none _ _,o.rd,ze⟩
 ·exact ⟨h2,z,ze⟩
end Go.Proofs.YtbpmjppmpgeejaaDoor
namespace Go.Proofs.YtbpmjppmpgeejaaDoor
open Go Go.RowKit
open D2 (Gh)
set_option linter.unusedVariables false
abbrev wrO (q:Option Addr)(n c:Nat):Obj:=.cells #[.slice q n c] 58 (0,0)
abbrev flO (C:Array Value):Obj:=.cells C 39 (0,0)
abbrev yx (x:Fel):Value:=.agg #[.int .u64 ((x.a.1:Nat):Int),.string x.a.2,.slice x.p x.n x.c]
def zF:Array Value:=#[wZ,.string em,.slice none 0 0]
def FnW (f:Nat)(args:Array Value)(p bd:Nat)(pre:World→Prop)(ok:List Fel→List (Nat×Obj)→Prop):Prop:=
 ∀(w0 w:World) (q:Option Addr) (n c:Nat) (row L:List (Nat×Obj)) (M:List Fel),M.length≤bd→RowE fS 39 q n c row M→pre w0→St w0.heap.size w0 w ((p,wrO q n c)::(row++L))→
  Calls Tryd.prog f args w fun e w'=> ∃v,e=.returned v∧v=.tuple #[]∧∃q' n' c' row' X T,ok X T∧RowE fS 39 q' n' c' row' (M++X)∧St w0.heap.size w0 w' ((p,wrO q' n' c')::(row'++(T++L)))
abbrev wrQ (w0:World)(p:Nat)(M:List Fel)(L:List (Nat×Obj))(ok:List Fel→List (Nat×Obj)→Prop):Value→World→Prop:=fun v w'=>
 v=.tuple #[]∧∃q' n' c' row' X T,ok X T∧RowE fS 39 q' n' c' row' (M++X)∧St w0.heap.size w0 w' ((p,wrO q' n' c')::(row'++(T++L)))
theorem FnW.intro {f:Nat}{fn:Func}{c:Code}(rs:List ResultVar)(N:Nat){args:Array Value}{p bd:Nat}{pre:World→Prop}{ok:List Fel→List (Nat×Obj)→Prop}(hf:Tryd.prog.funcs[f]? =some fn)(hb:fn.body=some c)(hr:fn.results.toList=rs)(hn:args.size+(fn.ntmps-args.size)=N)
 (h: ∀(w0 w:World) (q:Option Addr) (n c':Nat) (row L:List (Nat×Obj)) (M:List Fel),M.length≤bd→RowE fS 39 q n c' row M→pre w0→St w0.heap.size w0 w ((p,wrO q n c')::(row++L))→WP Tryd.prog N c (zW Tryd.prog rs (wrQ w0 p M L ok)) (ini args) w):FnW f args p bd pre ok:=
 fun w0 w q n c' row L M h1 h2 h3 h4=>(qE hf hb hr hn (h w0 w q n c' row L M h1 h2 h3 h4)).mono fun e w' ⟨v',he,hv⟩=>⟨v',he,hv⟩
theorem kF {α:Type}(E A:List α)(x:α)(L:List α):(x::(A++(E++L))).Perm (E++x::(A++L)):=by
 refine List.Perm.trans ?_ (List.perm_middle.symm);refine List.Perm.cons _ ?_;rw [←List.append_assoc,←List.append_assoc];exact (List.perm_append_comm).append_right _
section
variable {N:Nat}{ops:Array Oper}{i:Nat}{r:List Nat}{K:Env→World→Prop}{ρ:Env}{w:World}{w0:World}{L row:List (Nat×Obj)}
theorem zV (E:List (Nat×Obj)){p:Nat}{q:Option Addr}{n c:Nat}{M:List Fel}(HS:St w0.heap.size w0 w (E++(p,wrO q n c)::(row++L)))(hR:RowE fS 39 q n c row M)(d:Option Nat)(f:Nat)(args:Array Value){bd:Nat}{pre:World→Prop}{ok:List Fel→List (Nat×Obj)→Prop}(hc:FnW f args p bd pre ok)(hM:M.length≤bd)(hp:pre w0)
 (h:opv Tryd.prog ops i ρ w=some (d,true,.ok (.enter f args) w)) (hd:dOK d N=true)
 (kk: ∀q' n' c' row' X T w',ok X T→RowE fS 39 q' n' c' row' (M++X)→St w0.heap.size w0 w' (E++(p,wrO q' n' c')::(row'++(T++L)))→WPs Tryd.prog N ops K r (zj ρ d (.tuple #[])) w'):WPs Tryd.prog N ops K (i::r) ρ w:=by
 obtain ⟨o,ho,rfl,hw,hr⟩:=zN h;refine WPo.run ho hw fun a ha=>?_;rw [hr,Oper.upon_enter];refine (hc w0 w q n c row (E++L) M hM hR hp (HS.perm (kF E row _ L))).mono ?_;rintro _ w' ⟨_,rfl,rfl,q',n',c',row',X,T,hok,hR',HS'⟩;refine ⟨_,ha.put _ (zJ hd) _,kk q' n' c' row' X T w' hok hR' (HS'.perm ?_)⟩;refine (kF E row' (p,wrO q' n' c') (T++L)).symm.trans (List.Perm.cons _ ?_);refine List.Perm.append_left _ ?_;exact List.perm_append_comm_assoc _ _ _
end
theorem qp {w0 w:World}{p:Nat}{q:Option Addr}{n c:Nat}{row L T:List (Nat×Obj)}{X M:List Fel}{ok:List Fel→List (Nat×Obj)→Prop}(E:List (Nat×Obj))(hok:ok X T)(hR:RowE fS 39 q n c row (M++X))(HS:St w0.heap.size w0 w (E++(p,wrO q n c)::(row++(T++L)))):wrQ w0 p M L ok (.tuple #[]) w:=
 ⟨rfl,q,n,c,row,X,T,hok,hR,HS.sub (List.sublist_append_right ..)⟩
def yy (B:Nat)(w0:World)(p bx:Nat)(fO:Obj)(q:Option Addr)(n c:Nat)(fv:Value)(row:List (Nat×Obj))(xs:List Value)(T:List (Nat×Obj)):(Nat→Bool)→(Nat→Gh)→World→Prop:=fun L g w=>
 bif L 7 then (L 8=true→(g 8).b=(g 7).b)∧Rw 3 (g 7).cur (g 7).cap (n+1) (xs++zF.toList)∧St B w0 w ((bx,fO)::(p,.cells #[bif L 12 then .slice (some ⟨(g 7).b,0,none⟩) (n+1) (g 7).cap else .slice q n c] 58 (0,0))::((g 7).b,flO (bif L 9 then putA (g 7).cur (0+n*3) fv else (g 7).cur))::T)
 else bif L 6 then St B w0 w (((g 6).b,flO zF)::(bx,fO)::(p,wrO q n c)::(row++T))
 else St B w0 w ((bx,fO)::(p,wrO q n c)::(row++T))
section
variable {B:Nat}{w0:World}{p bx:Nat}{fO:Obj}{q:Option Addr}{n c:Nat}{fv:Value}{row:List (Nat×Obj)}{xs:List Value}{T:List (Nat×Obj)}{L:Nat→Bool}{g:Nat→Gh}{w:World}
theorem yy.st (h7:L 7=false)(h:yy B w0 p bx fO q n c fv row xs T L g w):∃l,St B w0 w l∧(bx,fO)∈l∧(p,wrO q n c)∈l:=by
 unfold yy at h;rw [h7] at h;cases h6:L 6 with
 | true=>rw [h6] at h;exact ⟨_,h,by simp,by simp⟩
 | false=>rw [h6] at h;exact ⟨_,h,by simp,by simp⟩
end
abbrev xn (x:Fel):List Fel→List (Nat×Obj)→Prop:=fun X T=>X=[x]∧T=[]
theorem kG (p:Nat)(x:Fel):FnW 40 #[.pointer (some ⟨p,0,none⟩),yx x] p 100000 (fun _=>True) (xn x):=by
 refine FnW.intro (c:=zl Tryd.f40) [] 15 Tryd.func40 kr kr kr fun w0 w q n c row Lz M hM hRE _ HS=>?_;have hn:n=M.length:=hRE.len (by decide);refine zh [0] kr kr<|qh HS (some 3) 39 (.tmp 1) (yx x) kr kr kr ?_;intro bx w1 H1;refine zb<|wW ?_;have H2:St w0.heap.size w0 w1 ((bx,flO #[.int .u64 ((x.a.1:Nat):Int),.string x.a.2,.slice x.p x.n x.c])::(p,wrO q n c)::(row++Lz)):=H1;refine D2.g_draw0 [0,1,2,3,4,5,6,7,8,9,10,11,12] [(some 4,fun _=>.pointer (some ⟨p,0,none⟩)),(some 5,fun _=>.pointer (some ⟨p,0,none⟩)),(some 6,fun _=>.pointer (some ⟨p,0,none⟩)),(some 7,fun _=>.slice q n c),(some 8,fun _=>yx x),(some 9,fun _=>iN n),(some 10,fun y=>.slice (some ⟨y.b,0,none⟩) 1 1),(some 11,fun y=>.slice (some ⟨y.b,0,none⟩) (n+1) y.cap),(some 12,fun y=>.pointer (some ⟨y.b,0+n*3,none⟩)),(none,fun _=>undef),(some 13,fun _=>.pointer (some ⟨p,0,none⟩)),(some 14,fun _=>.pointer (some ⟨p,0,none⟩)),(none,fun _=>undef)]
  (yy w0.heap.size w0 p bx (flO #[.int .u64 ((x.a.1:Nat):Int),.string x.a.2,.slice x.p x.n x.c]) q n c (yx x) row (zz fS M) Lz) kr kr kr H2.drew ⟨?_,?_,?_,?_,?_,?_,?_,?_,?_,?_,?_,?_,?_,trivial⟩ ?_
 ·exact D2.gv_val (fun _ _ _ h=>h) (fun g w=>by kernel_rfl)
 ·exact D2.gv_val (fun _ _ _ h=>h) (fun g w=>by kernel_rfl)
 ·exact D2.gv_val (fun _ _ _ h=>h) (fun g w=>by kernel_rfl)
 ·refine D2.gv_ld (fun _ _ _ h=>h) 37 (.tmp 6) (fun _=>p) 0 #[.slice q n c] 58 (0,0) (fun g=>by kernel_rfl) (fun g=>by kernel_rfl) (fun L g w hN hp=>?_) kr kr;obtain ⟨l,h,_,hm⟩:=hp.st (hN.post 7 kr);exact (h.own _ hm).2
 ·refine D2.gv_ld (fun _ _ _ h=>h) 39 (.tmp 3) (fun _=>bx) 0 #[.int .u64 ((x.a.1:Nat):Int),.string x.a.2,.slice x.p x.n x.c] 39 (0,0) (fun g=>by kernel_rfl) (fun g=>by kernel_rfl) (fun L g w hN hp=>?_) kr kr;obtain ⟨l,h,hm,_⟩:=hp.st (hN.post 7 kr);exact (h.own _ hm).2
 ·exact D2.gv_val (fun _ _ _ h=>h) (fun g w=>by kernel_rfl)
 ·refine D2.gives_of fun L1 gg ww hp hN=>?_;have h7:=hN.post 7 kr;unfold yy at hp;rw [h7,hN.1] at hp;obtain ⟨o,ho,hd,hw,hrun⟩:=zN (show opv _ _ 6 _ ww=some (some 10,true,.ok (.value (.slice (some ⟨ww.heap.size,0,none⟩) 1 1)) (ww.alloc (.cells zF 39))) by kernel_rfl);refine ⟨o,ho,hd,.inr ⟨hw,?_⟩⟩;refine (congrArg (D2.Runs _ _) hrun).mpr ?_;refine ⟨{ b:=ww.heap.size },rfl,?_⟩;unfold yy;rw [show D2.put1 L1 6 7=false from h7,show D2.put1 L1 6 6=true from rfl];exact St.alloc hp _
 ·refine D2.gives_of fun L1 gg ww hp hN=>?_;have h6:=hN.bef 6 kr;have h8:=hN.post 8 kr;have h9:=hN.post 9 kr;have h12:=hN.post 12 kr;unfold yy at hp;rw [hN.1,h6] at hp;obtain ⟨o,ho,hd,hw,hop⟩:=zu (show opk _ 7 _=some (some 11,true,yA 37 (.tmp 7) (.tmp 10)) by kernel_rfl);refine ⟨o,ho,hd,.inr ⟨hw,?_⟩⟩;rcases hRE with ⟨rfl,rfl,rfl,rfl,rfl⟩ | ⟨br,curr,rfl,rfl,hrw⟩
  ·obtain ⟨b',cap',cur',w',hrun,HS',hr'⟩:=uW (K:=3) hp (t:=37) (e:=39) (bytes:=48) (k:=0) (bx:=(gg 6).b) (c:=1) (Y:=zF) kr hop kr kr rfl rfl (jc rfl) (by omega);rw [hrun];refine ⟨{ b:=b',cap:=cap',cur:=cur' },rfl,?_⟩;unfold yy;rw [show D2.put1 L1 7 7=true from rfl,show D2.put1 L1 7 9=false from h9,show D2.put1 L1 7 12=false from h12];refine ⟨fun hh=>absurd (h8.symm.trans hh) (by decide),hr',?_⟩;exact (HS'.sub (List.Sublist.cons_cons _ (List.sublist_cons_self ..))).perm (List.perm_middle (l₁:=[(bx,flO #[.int .u64 ((x.a.1:Nat):Int),.string x.a.2,.slice x.p x.n x.c]),(p,wrO none 0 0)]))
  ·obtain ⟨b',cap',cur',w',hrun,HS',hr'⟩:=vj (K:=3) hp (t:=37) (e:=39) (bytes:=48) (j:=3) (k:=0) (bx:=(gg 6).b) (c:=1) (Y:=zF) kr hop kr rfl hrw kr rfl rfl (jc rfl) (by omega) (by unfold maxLen;omega);rw [hrun];refine ⟨{ b:=b',cap:=cap',cur:=cur' },rfl,?_⟩;unfold yy;rw [show D2.put1 L1 7 7=true from rfl,show D2.put1 L1 7 9=false from h9,show D2.put1 L1 7 12=false from h12];exact ⟨fun hh=>absurd (h8.symm.trans hh) (by decide),hr',HS'.sub (List.sublist_cons_self ..)⟩
 ·refine D2.gives_of fun L1 gg ww hp hN=>?_;have h7:=hN.bef 7 kr;obtain ⟨o,ho,hd,hw,hop⟩:=zu (show opk _ 8 _=some (some 12,true,.indexAddr 37 (.tmp 11) (.tmp 9)) by kernel_rfl);refine ⟨o,ho,hd,.inr ⟨hw,?_⟩⟩;rw [yl (kd:=.i64) (t:=37) (e:=39) (K:=3) (bytes:=48) kr (x:=(.tmp 11)) (y:=(.tmp 9)) (gg 7).b 0 (n+1) (gg 7).cap n rfl hop kr kr (by omega) ww];refine ⟨{ b:=(gg 7).b },rfl,?_⟩;unfold yy at hp ⊢;rw [h7] at hp;rw [show D2.put1 L1 8 7=true from h7];exact ⟨fun _=>rfl,hp.2.1,hp.2.2⟩
 ·refine D2.gives_of fun L1 gg ww hp hN=>?_;have h7:=hN.bef 7 kr;have h8:=hN.bef 8 kr;unfold yy at hp;rw [h7,hN.1] at hp;obtain ⟨hg8,hr',HS⟩:=hp;have hg:=hg8 h8;have hle:=hr'.putA (0+n*3) (yx x) (by show 0+n*3+3≤(n+1)*3;omega);obtain ⟨o,ho,hd,hw,hop⟩:=zu (show opk _ 9 _=some (none,true,.store 39 (.tmp 12) (.tmp 8)) by kernel_rfl);refine ⟨o,ho,hd,.inr ⟨hw,?_⟩⟩;rw [jU (t:=39) (off:=0+n*3) (b:=(gg 7).b) (C:=(gg 7).cur) (T:=39) (v:=yx x) (C':=putA (gg 7).cur (0+n*3) (yx x)) (HS.get 2 kr) kr kr hle.1 rfl (by rw [←hg];kernel_rfl) kr o hop];refine ⟨default,rfl,?_⟩;unfold yy;rw [show D2.put1 L1 9 7=true from h7,show D2.put1 L1 9 9=true from rfl];exact ⟨fun h=>hg8 h,hr',HS.store 2 (C:=(gg 7).cur) kr⟩
 ·exact D2.gv_val (fun _ _ _ h=>h) (fun g w=>by kernel_rfl)
 ·exact D2.gv_val (fun _ _ _ h=>h) (fun g w=>by kernel_rfl)
 ·refine D2.gives_of fun L1 gg ww hp hN=>?_;have h7:=hN.bef 7 kr;unfold yy at hp;rw [h7,hN.1] at hp;obtain ⟨hg8,hr',HS⟩:=hp;obtain ⟨o,ho,hd,hw,hop⟩:=zu (show opk _ 12 _=some (none,true,.store 37 (.tmp 14) (.tmp 11)) by kernel_rfl);refine ⟨o,ho,hd,.inr ⟨hw,?_⟩⟩;rw [jU (t:=37) (off:=0) (b:=p) (C:=#[.slice q n c]) (T:=58) (v:=.slice (some ⟨(gg 7).b,0,none⟩) (n+1) (gg 7).cap) (C':=#[.slice (some ⟨(gg 7).b,0,none⟩) (n+1) (gg 7).cap]) (HS.get 1 kr) kr kr (Nat.le_of_ble_eq_true kr) rfl kr kr o hop];refine ⟨default,rfl,?_⟩;unfold yy;rw [show D2.put1 L1 12 7=true from h7,show D2.put1 L1 12 12=true from rfl];exact ⟨fun h=>hg8 h,hr',HS.store 1 (C:=#[.slice q n c]) kr⟩
 ·intro L1 gg w14 hall hp;unfold yy at hp;rw [hall 7 (Nat.le_of_ble_eq_true kr),hall 9 (Nat.le_of_ble_eq_true kr),hall 12 (Nat.le_of_ble_eq_true kr)] at hp;obtain ⟨_,hr',H4⟩:=hp;have hMl:(zz fS M).length=0+n*3:=by rw [qZ,hn,Nat.zero_add];rfl
  have hnew:Rw 3 (putA (gg 7).cur (0+n*3) (yx x)) (gg 7).cap (n+1) (zz fS (M++ [x])):=by
   have h1:=(hr'.putA (0+n*3) (yx x) (by show 0+n*3+3≤(n+1)*3;omega)).2;have h2:=vn (X:=zz fS M) (Z:=zF.toList) (V:=(yx x).cells.toList) hMl rfl;rw [xN];exact h2▸h1
  refine ⟨[],.nil,?_⟩;exact qp (X:=[x]) (T:=[]) (row:=[((gg 7).b,flO (putA (gg 7).cur (0+n*3) (yx x)))]) [(bx,flO #[.int .u64 ((x.a.1:Nat):Int),.string x.a.2,.slice x.p x.n x.c])] ⟨rfl,rfl⟩ (.inr ⟨_,_,rfl,rfl,hnew⟩) H4
end Go.Proofs.YtbpmjppmpgeejaaDoor
namespace Go.Proofs.YtbpmjppmpgeejaaDoor
open Go Go.RowKit
set_option linter.unusedVariables false
end Go.Proofs.YtbpmjppmpgeejaaDoor
namespace Go.Proofs.YtbpmjppmpgeejaaDoor
open Go Go.RowKit
open D2 (Gh)
set_option linter.unusedVariables false
def fn0 (m:Nat):Fel:=⟨(m,em),none,0,0,.nil⟩
theorem qU (p:Nat)(s:ByteArray):FnW 26 #[.pointer (some ⟨p,0,none⟩),.string s] p 100000 (fun _=>True) (xn (fe0 s)):=by
 refine FnW.intro (c:=zl Tryd.f26) [] 8 Tryd.func26 kr kr kr fun w0 w q n c row L M hM hRE _ HS=>yj [0,1,2,3] kr<|rp [.v,.v,.v] HS kr fun gs1 w1 H1=>wX [3]<|zV (row:=row) (L:=L) [] (q:=q) (n:=n) (c:=c) (p:=p) (M:=M) (H1.as kr) hRE (some 7) 40 #[.pointer (some ⟨p,0,none⟩),yx (fe0 s)] (kG p (fe0 s)) hM trivial kr kr ?_;intro q' n' c' row' X T w2 hok hR' H2;refine zb ?_;exact ⟨[],.nil,qp [] hok hR' H2⟩
theorem kH (p:Nat)(m:Nat):FnW 27 #[.pointer (some ⟨p,0,none⟩),.int .u64 (m:Int)] p 100000 (fun _=>True) (xn (fn0 m)):=by
 refine FnW.intro (c:=zl Tryd.f27) [] 8 Tryd.func27 kr kr kr fun w0 w q n c row L M hM hRE _ HS=>yj [0,1,2,3] kr<|rp [.v,.v,.v] HS kr fun gs1 w1 H1=>wX [3]<|zV (row:=row) (L:=L) [] (q:=q) (n:=n) (c:=c) (p:=p) (M:=M) (H1.as kr) hRE (some 7) 40 #[.pointer (some ⟨p,0,none⟩),yx (fn0 m)] (kG p (fn0 m)) hM trivial kr kr ?_;intro q' n' c' row' X T w2 hok hR' H2;refine zb ?_;exact ⟨[],.nil,qp [] hok hR' H2⟩
theorem zft (p:Nat)(b:Bool):FnW 29 #[.pointer (some ⟨p,0,none⟩),.bool b] p 100000 (fun _=>True) (xn (fn0 (adN b))):=by
 refine FnW.intro (c:=zl Tryd.f29) [] 9 Tryd.func29 kr kr kr fun w0 w q n c row L M hM hRE _ HS=>?_;cases b with
 | true=>
  refine rS [.v] HS kr fun gs1 w1 H1=>zR<|yj [0,1] kr<|rp [.v] H1 kr fun gs2 w2 H2=>wX [1]<|zV (row:=row) (L:=L) [] (q:=q) (n:=n) (c:=c) (p:=p) (M:=M) (H2.as kr) hRE (some 6) 27 #[.pointer (some ⟨p,0,none⟩),.int .u64 ((1:Nat):Int)] (kH p 1) hM trivial kr kr ?_;intro q' n' c' row' X T w3 hok hR' H3;refine zb ?_;exact ⟨[],.nil,qp [] hok hR' H3⟩
 | false=>
  refine rS [.v] HS kr fun gs1 w1 H1=>zm kr kr<|yj [0,1] kr<|rp [.v] H1 kr fun gs2 w2 H2=>wX [1]<|zV (row:=row) (L:=L) [] (q:=q) (n:=n) (c:=c) (p:=p) (M:=M) (H2.as kr) hRE (some 8) 27 #[.pointer (some ⟨p,0,none⟩),.int .u64 ((0:Nat):Int)] (kH p 0) hM trivial kr kr ?_;intro q' n' c' row' X T w3 hok hR' H3;refine zb ?_;exact ⟨[],.nil,qp [] hok hR' H3⟩
theorem zfu (p:Nat)(x:Sg)(ho:sgOk x)(hm:sgMay x=true):FnW 43 #[.pointer (some ⟨p,0,none⟩),.agg (sgC x)] p 100000 (fun _=>True) (xn (fe0 (sgB x))):=by
 have hb:=zbp x.1 x.2.1 ho.1 ho.2 x.2.2 hm;refine FnW.intro (c:=zl Tryd.f43) [] 14 Tryd.func43 kr kr kr fun w0 w q n c row L M hM hRE _ HS=>zh [0] kr kr<|qh HS (some 3) 47 (.tmp 1) (.agg (sgC x)) kr kr kr ?_;intro bx w1 H1;refine zb ?_;have H2:St w0.heap.size w0 w1 ((bx,sgO x)::(p,wrO q n c)::(row++L)):=H1;refine rS [.l 0,.c hb,.v,.v,.v,.v,.v] H2 kr fun gs2 w2 H3=>yj [0,1,2] kr<|rp [.v,.v] H3 kr fun gs3 w3 H4=>wX [2]<|zV (row:=row) (L:=L) [(bx,sgO x)] (q:=q) (n:=n) (c:=c) (p:=p) (M:=M) (H4.as kr) hRE (some 13) 26 #[.pointer (some ⟨p,0,none⟩),.string (sgB x)] (qU p (sgB x)) hM trivial kr kr ?_;intro q' n' c' row' X T w4 hok hR' H5;refine zb ?_;exact ⟨[],.nil,qp [(bx,sgO x)] hok hR' H5⟩
theorem zfv (p:Nat)(qs:Option Addr)(ns cs:Nat)(A:List ByteArray)(hA:A.length≤1000):FnW 41 #[.slice qs ns cs,.func (.func 26) #[.pointer (some ⟨p,0,none⟩)] #[]] p 1000 (fun w=>AtF sS w qs ns A) (fun X T=>X=A.map fe0∧T=[]):=by
 refine FnW.intro (c:=zl Tryd.f41) [] 16 Tryd.func41 kr kr kr fun w0 w q n c row L M hM hRE hP HS=>?_;have hn:=hP.1;refine rS [.v,.v,.v] HS kr fun gs1 w1 H1=>jf 8 7 9 15 0 1 ns (by omega) (fun i ρ ww=> ∃q' n' c' row',RowE fS 39 q' n' c' row' (M++(A.take i).map fe0)∧St w0.heap.size w0 ww ((p,wrO q' n' c')::(row'++L))∧Is [(1,.func (.func 26) #[.pointer (some ⟨p,0,none⟩)] #[]),(6,.slice qs ns cs),(7,iN ns),(8,iN i)] ρ) (by rintro i _ ww ⟨_,_,_,_,_,_,_,rfl⟩;exact ⟨kr,kr⟩) ⟨q,n,c,row,by simpa using hRE,H1.as kr,isK⟩ ?_ ?_
 ·rintro i _ w4 hi ⟨q',n',c',row',hR,H4,_,rfl⟩;obtain ⟨x,hx⟩:∃x,A[i]? =some x:=⟨_,List.getElem?_eq_getElem (by omega)⟩
  obtain ⟨bl,off,C,T,fz,hp,hh,hRA⟩:=hP.row2 (by omega);have hcx:C[off+i*1]? =some (.string x):=hRA.cell hx 0 (by decide);refine rS [.o (ins:=[((.tmp 6),.slice qs ns cs),((.tmp 8),iN i)]) (v:=.pointer (some ⟨bl,off+i*1,none⟩)) (fun ρ o w ho hi2=>yp (kd:=.i64) (t:=23) (e:=9) (K:=1) (bytes:=16) kr (x:=(.tmp 6)) (y:=(.tmp 8)) bl off ns cs i hp ho hi2.1 hi2.2.1 (by omega) w),.fs (off:=off+i*1) (v:=.string x) hh (zD hh) hcx,.v] H4 kr fun gs5 w5 H5=>yj [0,1,2] kr<|rp [.v,.v] H5 kr fun gs6 w6 H6=>wX [2] ?_;have hl:(M++(A.take i).map fe0).length≤100000:=by rw [List.length_append,List.length_map,List.length_take];omega
  refine zV (row:=row') (L:=L) [] (q:=q') (n:=n') (c:=c') (p:=p) (M:=M++(A.take i).map fe0) (H6.as kr) hR (some 14) 26 #[.pointer (some ⟨p,0,none⟩),.string x] (qU p x) hl trivial kr kr ?_;rintro q2 n2 c2 row2 X T w7 ⟨rfl,rfl⟩ hR2 H7;refine zb ?_;exact ⟨kr,q2,n2,c2,row2,by rw [qS hx,List.map_append,←List.append_assoc];exact hR2,H7,isK⟩
 ·rintro _ w4 ⟨q',n',c',row',hR,H4,_,rfl⟩;rw [List.take_of_length_le (by omega)] at hR;exact ⟨[],.nil,qp (T:=[]) [] ⟨rfl,rfl⟩ hR H4⟩
theorem zfw (p:Nat)(qs:Option Addr)(ns cs:Nat)(A:List Sg)(hA:A.length≤1000)(ho: ∀x∈A,sgOk x)(hy:A.all sgMay=true):FnW 42 #[.slice qs ns cs,.func (.func 43) #[.pointer (some ⟨p,0,none⟩)] #[]] p 1000 (fun w=>AtF sgF w qs ns A) (fun X T=>X=(A.map sgB).map fe0∧T=[]):=by
 refine FnW.intro (c:=zl Tryd.f42) [] 16 Tryd.func42 kr kr kr fun w0 w q n c row L M hM hRE hP HS=>?_;have hn:=hP.1;refine rS [.v,.v,.v] HS kr fun gs1 w1 H1=>jf 8 7 9 15 0 1 ns (by omega) (fun i ρ ww=> ∃q' n' c' row',RowE fS 39 q' n' c' row' (M++((A.take i).map sgB).map fe0)∧St w0.heap.size w0 ww ((p,wrO q' n' c')::(row'++L))∧Is [(1,.func (.func 43) #[.pointer (some ⟨p,0,none⟩)] #[]),(6,.slice qs ns cs),(7,iN ns),(8,iN i)] ρ) (by rintro i _ ww ⟨_,_,_,_,_,_,_,rfl⟩;exact ⟨kr,kr⟩) ⟨q,n,c,row,by simpa using hRE,H1.as kr,isK⟩ ?_ ?_
 ·rintro i _ w4 hi ⟨q',n',c',row',hR,H4,_,rfl⟩;obtain ⟨x,hx⟩:∃x,A[i]? =some x:=⟨_,List.getElem?_eq_getElem (by omega)⟩
  obtain ⟨bl,off,C,T,fz,hp,hh,hRA⟩:=hP.row2 (by omega);have hxm:=List.mem_of_getElem? hx;refine zh [0,1,2,3] kr kr<|rp [.o (ins:=[((.tmp 6),.slice qs ns cs),((.tmp 8),iN i)]) (v:=.pointer (some ⟨bl,off+i*9,none⟩)) (fun ρ o w ho hi2=>yp (kd:=.i64) (t:=24) (e:=47) (K:=9) (bytes:=72) kr (x:=(.tmp 6)) (y:=(.tmp 8)) bl off ns cs i hp ho hi2.1 hi2.2.1 (by omega) w),.fp (off:=off+i*9) (n:=9) (W:=sgC x) hh (zD hh) (hRA _ _ hx).1 (hRA _ _ hx).2] H4 kr fun gs5 w5 H5=>wX [2,3] ?_;have H6:St w0.heap.size w0 w5 ((p,wrO q' n' c')::(row'++L)):=H5.as kr;refine ye H6 (some 5) 47 (.agg (sgC (0,0,0))) kr kr kr ?_;intro b5 w6 H7;refine rp [.s 0] H7 kr fun gs6 w7 H8=>wX []<|zb ?_;have H9:St w0.heap.size w0 w7 ((b5,sgO x)::(p,wrO q' n' c')::(row'++L)):=H8.as kr;refine yj [0,1,2] kr<|rp [.v,.l 0] H9 kr fun gs7 w8 H10=>wX [2] ?_;have hl:(M++((A.take i).map sgB).map fe0).length≤100000:=by rw [List.length_append,List.length_map,List.length_map,List.length_take];omega
  refine zV (row:=row') (L:=L) [(b5,sgO x)] (q:=q') (n:=n') (c:=c') (p:=p) (M:=M++((A.take i).map sgB).map fe0) (H10.as kr) hR (some 14) 43 #[.pointer (some ⟨p,0,none⟩),.agg (sgC x)] (zfu p x (ho x hxm) (List.all_eq_true.1 hy x hxm)) hl trivial kr kr ?_;rintro q2 n2 c2 row2 X T w9 ⟨rfl,rfl⟩ hR2 H11;refine zb ?_;exact ⟨kr,q2,n2,c2,row2,by rw [qS hx,List.map_append,List.map_append,←List.append_assoc];exact hR2,H11.sub (List.sublist_cons_self ..),isK⟩
 ·rintro _ w4 ⟨q',n',c',row',hR,H4,_,rfl⟩;rw [List.take_of_length_le (by omega)] at hR;exact ⟨[],.nil,qp (T:=[]) [] ⟨rfl,rfl⟩ hR H4⟩
theorem zfx (p:Nat)(qs:Option Addr)(ns cs:Nat)(A:List ByteArray)(hA:A.length≤1000):FnW 28 #[.pointer (some ⟨p,0,none⟩),.slice qs ns cs] p 100000 (fun w=>AtF sS w qs ns A) (fun X T=> ∃q2 n2 c2,X=[⟨(0,em),q2,n2,c2,lsF (A)⟩]∧RowE fS 39 q2 n2 c2 T ((A).map fe0)):=by
 refine FnW.intro (c:=zl Tryd.f28) [] 13 Tryd.func28 kr kr kr fun w0 w q n c row L M hM hRE hP HS=>zh [0] kr kr<|ye HS (some 4) 58 (.agg #[.slice none 0 0]) kr kr kr ?_;intro b4 w1 H1;refine zb ?_;have H2:St w0.heap.size w0 w1 ((b4,wrO none 0 0)::(p,wrO q n c)::(row++L)):=H1;refine zh [0,1,2] kr kr<|rp [.v,.v] H2 kr fun gs2 w2 H3=>wX [2]<|zV (row:=[]) (L:=(p,wrO q n c)::(row++L)) [] (q:=none) (n:=0) (c:=0) (p:=b4) (M:=[]) (H3.as kr) (.inl ⟨rfl,rfl,rfl,rfl,rfl⟩) (some 7) 41 #[.slice qs ns cs,.func (.func 26) #[.pointer (some ⟨b4,0,none⟩)] #[]] (zfv b4 qs ns cs A hA) (Nat.zero_le _) hP kr kr ?_;rintro q2 n2 c2 row2 X T w3 ⟨rfl,rfl⟩ hR2 H4;refine zb ?_;have H5:St w0.heap.size w0 w3 ((b4,wrO q2 n2 c2)::(row2++(p,wrO q n c)::(row++L))):=H4;refine yj [0,1,2,3,4] kr<|rp [.v,.v,.l 0,.v] H5 kr fun gs3 w4 H6=>wX [4] ?_;have H7:St w0.heap.size w0 w4 ((b4,wrO q2 n2 c2)::(row2++(p,wrO q n c)::(row++L))):=H6.as kr;refine zV (row:=row) (L:=row2++L) [(b4,wrO q2 n2 c2)] (q:=q) (n:=n) (c:=c) (p:=p) (M:=M) (H7.perm (List.Perm.cons _ (kF row2 row _ L))) hRE (some 12) 40 #[.pointer (some ⟨p,0,none⟩),yx ⟨(0,em),q2,n2,c2,lsF (A)⟩] (kG p ⟨(0,em),q2,n2,c2,lsF (A)⟩) hM trivial kr kr ?_;rintro q3 n3 c3 row3 X T w5 ⟨rfl,rfl⟩ hR3 H8;refine zb ?_;exact ⟨[],.nil,qp (T:=row2) [(b4,wrO q2 n2 c2)] ⟨q2,n2,c2,rfl,hR2⟩ hR3 H8⟩
theorem zfy (p:Nat)(qs:Option Addr)(ns cs:Nat)(A:List Sg)(hA:A.length≤1000)(ho: ∀x∈A,sgOk x)(hy:A.all sgMay=true):FnW 30 #[.pointer (some ⟨p,0,none⟩),.slice qs ns cs] p 100000 (fun w=>AtF sgF w qs ns A) (fun X T=> ∃q2 n2 c2,X=[⟨(0,em),q2,n2,c2,lsF (A.map sgB)⟩]∧RowE fS 39 q2 n2 c2 T ((A.map sgB).map fe0)):=by
 refine FnW.intro (c:=zl Tryd.f30) [] 13 Tryd.func30 kr kr kr fun w0 w q n c row L M hM hRE hP HS=>zh [0] kr kr<|ye HS (some 4) 58 (.agg #[.slice none 0 0]) kr kr kr ?_;intro b4 w1 H1;refine zb ?_;have H2:St w0.heap.size w0 w1 ((b4,wrO none 0 0)::(p,wrO q n c)::(row++L)):=H1;refine zh [0,1,2] kr kr<|rp [.v,.v] H2 kr fun gs2 w2 H3=>wX [2]<|zV (row:=[]) (L:=(p,wrO q n c)::(row++L)) [] (q:=none) (n:=0) (c:=0) (p:=b4) (M:=[]) (H3.as kr) (.inl ⟨rfl,rfl,rfl,rfl,rfl⟩) (some 7) 42 #[.slice qs ns cs,.func (.func 43) #[.pointer (some ⟨b4,0,none⟩)] #[]] (zfw b4 qs ns cs A hA ho hy) (Nat.zero_le _) hP kr kr ?_;rintro q2 n2 c2 row2 X T w3 ⟨rfl,rfl⟩ hR2 H4;refine zb ?_;have H5:St w0.heap.size w0 w3 ((b4,wrO q2 n2 c2)::(row2++(p,wrO q n c)::(row++L))):=H4;refine yj [0,1,2,3,4] kr<|rp [.v,.v,.l 0,.v] H5 kr fun gs3 w4 H6=>wX [4] ?_;have H7:St w0.heap.size w0 w4 ((b4,wrO q2 n2 c2)::(row2++(p,wrO q n c)::(row++L))):=H6.as kr;refine zV (row:=row) (L:=row2++L) [(b4,wrO q2 n2 c2)] (q:=q) (n:=n) (c:=c) (p:=p) (M:=M) (H7.perm (List.Perm.cons _ (kF row2 row _ L))) hRE (some 12) 40 #[.pointer (some ⟨p,0,none⟩),yx ⟨(0,em),q2,n2,c2,lsF (A.map sgB)⟩] (kG p ⟨(0,em),q2,n2,c2,lsF (A.map sgB)⟩) hM trivial kr kr ?_;rintro q3 n3 c3 row3 X T w5 ⟨rfl,rfl⟩ hR3 H8;refine zb ?_;exact ⟨[],.nil,qp (T:=row2) [(b4,wrO q2 n2 c2)] ⟨q2,n2,c2,rfl,hR2⟩ hR3 H8⟩
end Go.Proofs.YtbpmjppmpgeejaaDoor
namespace Go.Proofs.YtbpmjppmpgeejaaDoor
open Go Go.RowKit
open D2 (Gh)
set_option linter.unusedVariables false
def zbX (h:Hdr)(v:Value)(T:List (Nat×Obj)):Prop:=∃p n c,v=.slice p n c∧RIn fS T p n (hdF h)
theorem zfz (h:Hdr)(o:yE h)(hr:yd h=true)(p:Option Addr)(n c:Nat)(q:Option Addr)(m k:Nat):FnT Tryd.prog 21 #[hdV h p n c q m k] (fun w=>yr w h p n q m) (zbX h):=by
 refine FnT.intro (c:=zl Tryd.f21) [.tmp 2] 39 Tryd.func21 kr kr kr fun w hP=>?_;have hvl:=o.vl;have hsl:=o.sl;have hss:=(je.1 hr).ss;have H0:=St.start w;refine zh [0,1] kr kr<|qh H0 (some 1) 26 (.tmp 0) (hdV h p n c q m k) kr kr kr ?_;intro bh w1 H1;refine rp [.v] H1 kr fun gs1 w2 H2=>wX []<|zb ?_;have H3:St w.heap.size w w2 [(bh,hdO h p n c q m k)]:=H2.as kr;refine zh [0] kr kr<|ye H3 (some 3) 58 (.agg #[.slice none 0 0]) kr kr kr ?_;intro bw w3 H4;refine zb ?_;have G0:St w.heap.size w w3 ([(bh,hdO h p n c q m k)]++(bw,wrO none 0 0)::([]++ [])):=H4.perm (List.Perm.swap _ _ _);have R0:RowE fS 39 none 0 0 [] ([]:List Fel):=.inl ⟨rfl,rfl,rfl,rfl,rfl⟩;refine zh [0,1,2] kr kr<|rp [.v,.l 0] G0 kr fun ga1 wa1 Ga1=>wX [2]<|zV (row:=[]) (L:=[]) [(bh,hdO h p n c q m k)] (q:=none) (n:=0) (c:=0) (p:=bw) (Ga1.as kr) R0 (some 6) 26 #[.pointer (some ⟨bw,0,none⟩),.string h.pa] (qU bw h.pa) (Nat.le_of_ble_eq_true kr) trivial kr kr ?_;rintro q1 n1 c1 row1 _ _ wb1 ⟨rfl,rfl⟩ R1 G1;refine zb<|wW<|zh [0,1,2] kr kr<|rp [.v,.l 0] G1 kr fun ga2 wa2 Ga2=>wX [2]<|zV (row:=row1) (L:=[]) [(bh,hdO h p n c q m k)] (q:=q1) (n:=n1) (c:=c1) (p:=bw) (Ga2.as kr) R1 (some 9) 27 #[.pointer (some ⟨bw,0,none⟩),.int .u64 ((h.hh:Nat):Int)] (kH bw h.hh) (Nat.le_of_ble_eq_true kr) trivial kr kr ?_;rintro q2 n2 c2 row2 _ _ wb2 ⟨rfl,rfl⟩ R2 G2;refine zb<|wW ?_;clear G1 Ga2 R1;refine zh [0,1,2] kr kr<|rp [.v,.l 0] G2 kr fun ga3 wa3 Ga3=>wX [2]<|zV (row:=row2) (L:=[]) [(bh,hdO h p n c q m k)] (q:=q2) (n:=n2) (c:=c2) (p:=bw) (Ga3.as kr) R2 (some 12) 26 #[.pointer (some ⟨bw,0,none⟩),.string h.ro] (qU bw h.ro) (Nat.le_of_ble_eq_true kr) trivial kr kr ?_;rintro q3 n3 c3 row3 _ _ wb3 ⟨rfl,rfl⟩ R3 G3;refine zb<|wW ?_;clear G2 Ga3 R2;refine zh [0,1,2] kr kr<|rp [.v,.l 0] G3 kr fun ga4 wa4 Ga4=>wX [2]<|zV (row:=row3) (L:=[]) [(bh,hdO h p n c q m k)] (q:=q3) (n:=n3) (c:=c3) (p:=bw) (Ga4.as kr) R3 (some 15) 26 #[.pointer (some ⟨bw,0,none⟩),.string h.tx] (qU bw h.tx) (Nat.le_of_ble_eq_true kr) trivial kr kr ?_;rintro q4 n4 c4 row4 _ _ wb4 ⟨rfl,rfl⟩ R4 G4;refine zb<|wW ?_;clear G3 Ga4 R3;refine zh [0,1,2] kr kr<|rp [.v,.l 0] G4 kr fun ga5 wa5 Ga5=>wX [2]<|zV (row:=row4) (L:=[]) [(bh,hdO h p n c q m k)] (q:=q4) (n:=n4) (c:=c4) (p:=bw) (Ga5.as kr) R4 (some 18) 26 #[.pointer (some ⟨bw,0,none⟩),.string h.pr] (qU bw h.pr) (Nat.le_of_ble_eq_true kr) trivial kr kr ?_;rintro q5 n5 c5 row5 _ _ wb5 ⟨rfl,rfl⟩ R5 G5;refine zb<|wW ?_;clear G4 Ga5 R4;refine zh [0,1,2] kr kr<|rp [.v,.l 0] G5 kr fun ga6 wa6 Ga6=>wX [2]<|zV (row:=row5) (L:=[]) [(bh,hdO h p n c q m k)] (q:=q5) (n:=n5) (c:=c5) (p:=bw) (Ga6.as kr) R5 (some 21) 26 #[.pointer (some ⟨bw,0,none⟩),.string h.va] (qU bw h.va) (Nat.le_of_ble_eq_true kr) trivial kr kr ?_;rintro q6 n6 c6 row6 _ _ wb6 ⟨rfl,rfl⟩ R6 G6;refine zb<|wW ?_;clear G5 Ga6 R5;refine zh [0,1,2] kr kr<|rp [.v,.l 0] G6 kr fun ga7 wa7 Ga7=>wX [2]<|zV (row:=row6) (L:=[]) [(bh,hdO h p n c q m k)] (q:=q6) (n:=n6) (c:=c6) (p:=bw) (Ga7.as kr) R6 (some 24) 28 #[.pointer (some ⟨bw,0,none⟩),.slice p n c] (zfx bw p n c h.vs (by omega)) (Nat.le_of_ble_eq_true kr) hP.1 kr kr ?_;rintro q7 n7 c7 row7 _ T1 wb7 ⟨qa1,na1,ca1,rfl,hT1⟩ R7 G7;refine zb<|wW ?_;clear G6 Ga7 R6;refine zh [0,1,2] kr kr<|rp [.v,.l 0] G7 kr fun ga8 wa8 Ga8=>wX [2]<|zV (row:=row7) (L:=T1++ []) [(bh,hdO h p n c q m k)] (q:=q7) (n:=n7) (c:=c7) (p:=bw) (Ga8.as kr) R7 (some 27) 26 #[.pointer (some ⟨bw,0,none⟩),.string h.vo] (qU bw h.vo) (Nat.le_of_ble_eq_true kr) trivial kr kr ?_;rintro q8 n8 c8 row8 _ _ wb8 ⟨rfl,rfl⟩ R8 G8;refine zb<|wW ?_;clear G7 Ga8 R7;refine zh [0,1,2] kr kr<|rp [.v,.l 0] G8 kr fun ga9 wa9 Ga9=>wX [2]<|zV (row:=row8) (L:=T1++ []) [(bh,hdO h p n c q m k)] (q:=q8) (n:=n8) (c:=c8) (p:=bw) (Ga9.as kr) R8 (some 30) 29 #[.pointer (some ⟨bw,0,none⟩),.bool h.ad] (zft bw h.ad) (Nat.le_of_ble_eq_true kr) trivial kr kr ?_;rintro q9 n9 c9 row9 _ _ wb9 ⟨rfl,rfl⟩ R9 G9;refine zb<|wW ?_;clear G8 Ga9 R8;refine zh [0,1,2] kr kr<|rp [.v,.l 0] G9 kr fun ga10 wa10 Ga10=>wX [2]<|zV (row:=row9) (L:=T1++ []) [(bh,hdO h p n c q m k)] (q:=q9) (n:=n9) (c:=c9) (p:=bw) (Ga10.as kr) R9 (some 33) 27 #[.pointer (some ⟨bw,0,none⟩),.int .u64 ((h.rd:Nat):Int)] (kH bw h.rd) (Nat.le_of_ble_eq_true kr) trivial kr kr ?_;rintro q10 n10 c10 row10 _ _ wb10 ⟨rfl,rfl⟩ R10 G10;refine zb<|wW ?_;clear G9 Ga10 R9;refine zh [0,1,2] kr kr<|rp [.v,.l 0] G10 kr fun ga11 wa11 Ga11=>wX [2]<|zV (row:=row10) (L:=T1++ []) [(bh,hdO h p n c q m k)] (q:=q10) (n:=n10) (c:=c10) (p:=bw) (Ga11.as kr) R10 (some 36) 30 #[.pointer (some ⟨bw,0,none⟩),.slice q m k] (zfy bw q m k h.ss (by omega) o.ss hss) (Nat.le_of_ble_eq_true kr) hP.2 kr kr ?_;rintro q11 n11 c11 row11 _ T2 wb11 ⟨qa2,na2,ca2,rfl,hT2⟩ R11 G11;refine zb<|wW ?_;clear G10 Ga11 R10;have nL:=R11.len (by decide);have hve: ∀x∈h.vs,ByteArray.size x≤0x800000000000:=fun x hx=>by have:=o.vs x hx;omega
 have hse: ∀x∈h.ss.map sgB,ByteArray.size x≤0x800000000000:=fun x hx=>by obtain ⟨y,_,rfl⟩:=List.mem_map.1 hx;rw [kA];omega
 refine rS [.v,.l 1,.v] G11 kr fun gs9 w9 H9=>rRr [.tmp 2] [] (.slice q11 n11 c11) (yZ w.heap.size w (zbX h)) H9 kr ?_;have H10:St w.heap.size w w9 ((bh,hdO h p n c q m k)::(bw,wrO q11 n11 c11)::(row11++(T2++(T1++ [])))):=H9.as kr;refine ⟨row11++(T2++(T1++ [])),⟨q11,n11,c11,rfl,?_⟩,(H10.sub (List.sublist_cons_self ..)).sub (List.sublist_cons_self ..)⟩;have i1:=hT1.rIn (T:=[]) (by decide) (zbW hve []) (by show na1≤0x800000000000;have:=hT1.len (by decide);rw [List.length_map] at this;omega);have i2:=hT2.rIn (T:=[]) (by decide) (zbW hse []) (by show na2≤0x800000000000;have:=hT2.len (by decide);rw [List.length_map,List.length_map] at this;omega);rw [zbV] at i1 i2;exact RowE.rIn (S:=fS) (L:=hdE h qa1 na1 ca1 qa2 na2 ca2) R11 (by decide) (zfs o (i1.mono fun e he=>by simp at he ⊢;exact .inr he) (i2.mono fun e he=>by simp at he ⊢;exact .inl he)) (by show n11≤0x800000000000;rw [nL];exact Nat.le_of_ble_eq_true kr)
end Go.Proofs.YtbpmjppmpgeejaaDoor
namespace Go.Proofs.YtbpmjppmpgeejaaDoor
open Go Go.RowKit
set_option linter.unusedVariables false
def szM (h:Hdr):Bool:=(decide (h.pa.size=32)&&(decide (h.ro.size=32)&&decide (h.tx.size=32)))&&(decide (h.pr.size=20)&&decide (h.va.size≤8))
theorem zfA (h:Hdr):yd h=(szM h&&(setM h.vs&&(voteB h.vo h.ad&&(decide (h.ss.length≤16)&&h.ss.all sgMay)))):=by
 unfold yd szM;cases decide (h.pa.size=32)<;>cases decide (h.ro.size=32)<;>cases decide (h.tx.size=32)<;>cases decide (h.pr.size=20)<;>cases decide (h.va.size≤8)<;>cases setM h.vs<;>cases voteB h.vo h.ad<;>cases decide (h.ss.length≤16)<;>rfl
theorem zfB (h:Hdr)(p:Option Addr)(n c:Nat)(q:Option Addr)(m k:Nat):Fn Tryd.prog 16 #[hdV h p n c q m k] (.bool (szM h)):=by
 refine Fn.intro (c:=zl Tryd.f16) [.tmp 2] 33 Tryd.func16 kr kr kr fun w=>rS [.b,.v] (St.start w) kr fun gs1 w1 H1=>?_;by_cases h_pa:h.pa.size=32
 case neg=>
  refine rS [.v,.l 0,.v,.E (.bool (((h.pa.size:Nat):Int)==32)) (.bool false) (za (beq_eq_false_iff_ne.2 (by omega))),.v,.n,.n,.n,.n,.v,.v,.n,.n,.n,.n,.v,.v] H1 kr fun gs2 w2 H2=>rS [.v,.v,.n,.n,.n,.n,.v,.v,.n,.n,.n,.n,.v,.v] H2 kr fun gs3 w3 H3=>?_;exact rRe [.tmp 2] [] (v:=.bool false) (v':=.bool (szM h)) H3 (za (by unfold szM;rw [decide_eq_false h_pa];first | rfl | simp)) kr
 by_cases h_ro:h.ro.size=32
 case neg=>
  refine rS [.v,.l 0,.v,.E (.bool (((h.pa.size:Nat):Int)==32)) (.bool true) (za (beq_iff_eq.2 (by omega))),.v,.v,.l 0,.v,.E (.bool (((h.ro.size:Nat):Int)==32)) (.bool false) (za (beq_eq_false_iff_ne.2 (by omega))),.v,.v,.n,.n,.n,.n,.v,.v] H1 kr fun gs2 w2 H2=>rS [.v,.v,.n,.n,.n,.n,.v,.v,.n,.n,.n,.n,.v,.v] H2 kr fun gs3 w3 H3=>?_;exact rRe [.tmp 2] [] (v:=.bool false) (v':=.bool (szM h)) H3 (za (by unfold szM;rw [decide_eq_false h_ro];first | rfl | simp)) kr
 by_cases h_tx:h.tx.size=32
 case neg=>
  refine rS [.v,.l 0,.v,.E (.bool (((h.pa.size:Nat):Int)==32)) (.bool true) (za (beq_iff_eq.2 (by omega))),.v,.v,.l 0,.v,.E (.bool (((h.ro.size:Nat):Int)==32)) (.bool true) (za (beq_iff_eq.2 (by omega))),.v,.v,.v,.l 0,.v,.E (.bool (((h.tx.size:Nat):Int)==32)) (.bool false) (za (beq_eq_false_iff_ne.2 (by omega))),.v,.v] H1 kr fun gs2 w2 H2=>rS [.v,.v,.n,.n,.n,.n,.v,.v,.n,.n,.n,.n,.v,.v] H2 kr fun gs3 w3 H3=>?_;exact rRe [.tmp 2] [] (v:=.bool false) (v':=.bool (szM h)) H3 (za (by unfold szM;rw [decide_eq_false h_tx];first | rfl | simp)) kr
 by_cases h_pr:h.pr.size=20
 case neg=>
  refine rS [.v,.l 0,.v,.E (.bool (((h.pa.size:Nat):Int)==32)) (.bool true) (za (beq_iff_eq.2 (by omega))),.v,.v,.l 0,.v,.E (.bool (((h.ro.size:Nat):Int)==32)) (.bool true) (za (beq_iff_eq.2 (by omega))),.v,.v,.v,.l 0,.v,.E (.bool (((h.tx.size:Nat):Int)==32)) (.bool true) (za (beq_iff_eq.2 (by omega))),.v,.v] H1 kr fun gs2 w2 H2=>rS [.v,.v,.v,.l 0,.v,.E (.bool (((h.pr.size:Nat):Int)==20)) (.bool false) (za (beq_eq_false_iff_ne.2 (by omega))),.v,.v,.n,.n,.n,.n,.v,.v] H2 kr fun gs3 w3 H3=>?_;exact rRe [.tmp 2] [] (v:=.bool false) (v':=.bool (szM h)) H3 (za (by unfold szM;rw [decide_eq_false h_pr];first | rfl | simp)) kr
 by_cases h_va:h.va.size≤8
 case neg=>
  refine rS [.v,.l 0,.v,.E (.bool (((h.pa.size:Nat):Int)==32)) (.bool true) (za (beq_iff_eq.2 (by omega))),.v,.v,.l 0,.v,.E (.bool (((h.ro.size:Nat):Int)==32)) (.bool true) (za (beq_iff_eq.2 (by omega))),.v,.v,.v,.l 0,.v,.E (.bool (((h.tx.size:Nat):Int)==32)) (.bool true) (za (beq_iff_eq.2 (by omega))),.v,.v] H1 kr fun gs2 w2 H2=>rS [.v,.v,.v,.l 0,.v,.E (.bool (((h.pr.size:Nat):Int)==20)) (.bool true) (za (beq_iff_eq.2 (by omega))),.v,.v,.v,.l 0,.v,.E (.bool (decide (((h.va.size:Nat):Int)≤8))) (.bool false) (za (decide_eq_false (by omega))),.v,.v] H2 kr fun gs3 w3 H3=>?_;exact rRe [.tmp 2] [] (v:=.bool false) (v':=.bool (szM h)) H3 (za (by unfold szM;rw [decide_eq_false h_va];first | rfl | simp)) kr
 refine rS [.v,.l 0,.v,.E (.bool (((h.pa.size:Nat):Int)==32)) (.bool true) (za (beq_iff_eq.2 (by omega))),.v,.v,.l 0,.v,.E (.bool (((h.ro.size:Nat):Int)==32)) (.bool true) (za (beq_iff_eq.2 (by omega))),.v,.v,.v,.l 0,.v,.E (.bool (((h.tx.size:Nat):Int)==32)) (.bool true) (za (beq_iff_eq.2 (by omega))),.v,.v] H1 kr fun gs2 w2 H2=>rS [.v,.v,.v,.l 0,.v,.E (.bool (((h.pr.size:Nat):Int)==20)) (.bool true) (za (beq_iff_eq.2 (by omega))),.v,.v,.v,.l 0,.v,.E (.bool (decide (((h.va.size:Nat):Int)≤8))) (.bool true) (za (decide_eq_true (by omega))),.v,.v] H2 kr fun gs3 w3 H3=>?_;exact rRe [.tmp 2] [] (v:=.bool true) (v':=.bool (szM h)) H3 (za (by unfold szM;rw [decide_eq_true h_pa,decide_eq_true h_ro,decide_eq_true h_tx,decide_eq_true h_pr,decide_eq_true h_va];first | rfl | simp)) kr
theorem zfC (p:Option Addr)(n c:Nat)(L:List ByteArray)(hL:L.length≤1000000):FnP Tryd.prog 17 #[.slice p n c] (fun w=>AtF sS w p n L) (.bool (setM L)):=by
 refine FnP.intro (c:=zl Tryd.f17) [.tmp 2] 37 Tryd.func17 kr kr kr fun w hP=>?_;have hn:=hP.1;have H0:=St.start w;refine rS [.v] H0 kr fun gs1 w1 H1=>zd kr ?_;by_cases h0:n=0
 ·refine rS [.v,.v,.E (.bool ((n:Int)==0)) (.bool true) (za (beq_iff_eq.2 (by omega))),.v,.n,.n,.n,.v] H1 kr fun gs2 w2 H2=>zR<|rS [.v] H2 kr fun gs3 w3 H3=>?_;exact rRe [.tmp 2] [] (v:=.bool false) (v':=.bool (setM L)) H3 (za (by unfold setM;rw [←hn,decide_eq_false (show ¬0<n by omega)];simp)) kr
 by_cases h16:n≤16
 case neg=>
  refine rS [.v,.v,.E (.bool ((n:Int)==0)) (.bool false) (za (beq_eq_false_iff_ne.2 (by omega))),.v,.v,.v,.E (.bool (decide ((n:Int)>16))) (.bool true) (za (decide_eq_true (by omega))),.v] H1 kr fun gs2 w2 H2=>zR<|rS [.v] H2 kr fun gs3 w3 H3=>?_;exact rRe [.tmp 2] [] (v:=.bool false) (v':=.bool (setM L)) H3 (za (by unfold setM;rw [←hn,decide_eq_false h16];simp)) kr
 refine rS [.v,.v,.E (.bool ((n:Int)==0)) (.bool false) (za (beq_eq_false_iff_ne.2 (by omega))),.v,.v,.v,.E (.bool (decide ((n:Int)>16))) (.bool false) (za (decide_eq_false (by omega))),.v] H1 kr fun gs2 w2 H2=>qg<|wW<|zd kr<|rS [.v,.v,.v] H2 kr fun gs3 w3 H3=>jf 15 14 16 36 0 1 n (by omega) (fun i ρ ww=>qT none L=qT (jg L i) (L.drop i)∧St w.heap.size w ww []∧Is [(0,.slice p n c),(13,.slice p n c),(14,iN n),(15,iN i)] ρ) (by rintro i _ ww ⟨_,_,_,rfl⟩;exact ⟨kr,kr⟩) ⟨rfl,H3.as kr,isK⟩ ?_ ?_
 ·clear H0 H1 H2 H3;rintro i _ w4 hi ⟨hst,H5,_,rfl⟩;obtain ⟨x,hx⟩:∃x,L[i]? =some x:=⟨_,List.getElem?_eq_getElem (by omega)⟩
  obtain ⟨bl,off,C,T,fz,hp,hh,hR⟩:=hP.row2 (by omega);have hcx:C[off+i*1]? =some (.string x):=hR.cell hx 0 (by decide);rw [vS hx] at hst;change qT none L=(decide (x.size=20)&&(upB (jg L i) x&&qT (some x) (L.drop (i+1)))) at hst;refine rS [.v,.o (ins:=[((.tmp 13),.slice p n c),((.tmp 15),iN i)]) (v:=.pointer (some ⟨bl,off+i*1,none⟩)) (fun ρ o w ho hi2=>yp (kd:=.i64) (t:=23) (e:=9) (K:=1) (bytes:=16) kr (x:=(.tmp 13)) (y:=(.tmp 15)) bl off n c i hp ho hi2.1 hi2.2.1 (by omega) w),.fs (off:=off+i*1) (v:=.string x) hh (zD hh) hcx,.v,.v] H5 kr fun gs5 w6 H7=>?_;by_cases h1:x.size=20
  case neg=>
   refine rS [.v,.v,.E (.bool (!((x.size:Int)==20))) (.bool true) (za (by rw [beq_eq_false_iff_ne.2 (by omega)];rfl)),.v,.n,.n,.n,.n,.n,.n,.n,.n,.n,.n,.n,.v] H7 kr fun gs6 w7 H8=>zR<|rS [.v] H8 kr fun gs7 w8 H9=>?_;exact rRe [.tmp 2] [] (v:=.bool false) (v':=.bool (setM L)) H9 (za (by unfold setM;rw [hst,decide_eq_false h1];rfl)) kr
  rw [decide_eq_true h1] at hst;by_cases h0:i=0
  ·have hup:upB (jg L i) x=true:=by subst h0;rfl
   refine rS [.v,.v,.E (.bool (!((x.size:Int)==20))) (.bool false) (za (by rw [beq_iff_eq.2 (show (x.size:Int)=20 by omega)];rfl)),.v,.v,.E (.bool (decide ((i:Int)>0))) (.bool false) (za (decide_eq_false (by omega))),.v,.n,.n,.n,.n,.n,.n,.n,.v,.v] H7 kr fun gs6 w7 H8=>qg ?_;exact ⟨kr,by rw [zbP hx,hst,hup];rfl,H8.as kr,isK⟩
  ·obtain ⟨y,hy⟩:∃y,L[i-1]? =some y:=⟨_,List.getElem?_eq_getElem (by omega)⟩
   have hcell:C[off+(i-1)*1]? =some (.string y):=hR.cell hy 0 (by decide);have hpv:upB (jg L i) x=lexB (tl y) (tl x):=by unfold jg;rw [if_neg h0,hy];rfl
   rw [hpv] at hst;cases hup:lexB (tl y) (tl x) with
   | false=>
    refine rS [.v,.v,.E (.bool (!((x.size:Int)==20))) (.bool false) (za (by rw [beq_iff_eq.2 (show (x.size:Int)=20 by omega)];rfl)),.v,.v,.E (.bool (decide ((i:Int)>0))) (.bool true) (za (decide_eq_true (by omega))),.v,.v,.v,.E (.int .i64 (IntKind.i64.wrap ((i:Int)-1))) (iN (i-1)) (zt (vf (a:=i) (b:=1) (by omega))),.o (ins:=[((.tmp 27),.slice p n c),((.tmp 29),iN (i-1))]) (v:=.pointer (some ⟨bl,off+(i-1)*1,none⟩)) (fun ρ o w ho hi2=>yp (kd:=.i64) (t:=23) (e:=9) (K:=1) (bytes:=16) kr (x:=(.tmp 27)) (y:=(.tmp 29)) bl off n c (i-1) hp ho hi2.1 hi2.2.1 (by omega) w),.fs (off:=off+(i-1)*1) (v:=.string y) hh (zD hh) hcell,.v,.E (.bool (!(Op.bytesLess y.toList x.toList))) (.bool true) (za (by rw [zbA,hup];rfl)),.v,.v] H7 kr fun gs6 w7 H8=>zR<|rS [.v] H8 kr fun gs7 w8 H9=>?_;exact rRe [.tmp 2] [] (v:=.bool false) (v':=.bool (setM L)) H9 (za (by unfold setM;rw [hst,hup];rfl)) kr
   | true=>
    refine rS [.v,.v,.E (.bool (!((x.size:Int)==20))) (.bool false) (za (by rw [beq_iff_eq.2 (show (x.size:Int)=20 by omega)];rfl)),.v,.v,.E (.bool (decide ((i:Int)>0))) (.bool true) (za (decide_eq_true (by omega))),.v,.v,.v,.E (.int .i64 (IntKind.i64.wrap ((i:Int)-1))) (iN (i-1)) (zt (vf (a:=i) (b:=1) (by omega))),.o (ins:=[((.tmp 27),.slice p n c),((.tmp 29),iN (i-1))]) (v:=.pointer (some ⟨bl,off+(i-1)*1,none⟩)) (fun ρ o w ho hi2=>yp (kd:=.i64) (t:=23) (e:=9) (K:=1) (bytes:=16) kr (x:=(.tmp 27)) (y:=(.tmp 29)) bl off n c (i-1) hp ho hi2.1 hi2.2.1 (by omega) w),.fs (off:=off+(i-1)*1) (v:=.string y) hh (zD hh) hcell,.v,.E (.bool (!(Op.bytesLess y.toList x.toList))) (.bool false) (za (by rw [zbA,hup];rfl)),.v,.v] H7 kr fun gs6 w7 H8=>qg ?_;exact ⟨kr,by rw [zbP hx,hst,hup];rfl,H8.as kr,isK⟩
 ·rintro _ w4 ⟨hst,H5,_,rfl⟩;rw [List.drop_of_length_le (by omega)] at hst;refine wW<|rS [.v] H5 kr fun gs6 w7 H8=>?_;exact rRe [.tmp 2] [] (v:=.bool true) (v':=.bool (setM L)) H8 (za (by unfold setM;rw [hst,←hn,decide_eq_true (show 0<n by omega),decide_eq_true h16];rfl)) kr
theorem zfD (h:Hdr)(p:Option Addr)(n c:Nat)(q:Option Addr)(m k:Nat):Fn Tryd.prog 18 #[hdV h p n c q m k] (.bool (voteB h.vo h.ad)):=by
 refine Fn.intro (c:=zl Tryd.f18) [.tmp 2] 17 Tryd.func18 kr kr kr fun w=>rS [.b,.v] (St.start w) kr fun gs1 w1 H1=>?_;by_cases h1:h.vo.size=20
 ·refine rS [.v,.l 0,.v,.E (.bool (((h.vo.size:Nat):Int)==20)) (.bool true) (za (beq_iff_eq.2 (by omega))),.v,.n,.n,.n,.n,.n,.n,.n,.n,.v,.v] H1 kr fun gs2 w2 H2=>?_;exact rRe [.tmp 2] [] (v:=.bool true) (v':=.bool (voteB h.vo h.ad)) H2 (za (by unfold voteB;rw [if_neg (by omega),decide_eq_true h1])) kr
 by_cases h0:h.vo=em
 ·refine rS [.v,.l 0,.v,.E (.bool (((h.vo.size:Nat):Int)==20)) (.bool false) (za (beq_eq_false_iff_ne.2 (by omega))),.v,.v,.l 0,.E (.bool (h.vo.toList==em.toList)) (.bool true) (za (zy _ _ h0)),.v,.v,.l 0,.v,.v,.v,.v] H1 kr fun gs2 w2 H2=>?_;exact rRe [.tmp 2] [] (v:=.bool (!h.ad)) (v':=.bool (voteB h.vo h.ad)) H2 (za (by unfold voteB;rw [if_pos (by rw [h0];rfl)])) kr
 ·have h00:h.vo.size≠0:=fun e=>h0 (qP e);refine rS [.v,.l 0,.v,.E (.bool (((h.vo.size:Nat):Int)==20)) (.bool false) (za (beq_eq_false_iff_ne.2 (by omega))),.v,.v,.l 0,.E (.bool (h.vo.toList==em.toList)) (.bool false) (za (yP _ _ h0)),.v,.n,.n,.n,.v,.v,.v] H1 kr fun gs2 w2 H2=>?_;exact rRe [.tmp 2] [] (v:=.bool false) (v':=.bool (voteB h.vo h.ad)) H2 (za (by unfold voteB;rw [if_neg h00,decide_eq_false h1])) kr
theorem zfE (p:Option Addr)(n c:Nat)(L:List Sg)(hL:L.length≤1000)(ho: ∀x∈L,sgOk x):FnP Tryd.prog 19 #[.slice p n c] (fun w=>AtF sgF w p n L) (.bool (decide (L.length≤16)&&L.all sgMay)):=by
 refine FnP.intro (c:=zl Tryd.f19) [.tmp 2] 24 Tryd.func19 kr kr kr fun w hP=>?_;have hn:=hP.1;rw [←hn];have H0:=St.start w;refine rS [.v] H0 kr fun gs1 w1 H1=>zd kr ?_;by_cases h16:n≤16
 case neg=>
  refine rS [.v,.v,.E (.bool (decide ((n:Int)>16))) (.bool true) (za (decide_eq_true (by omega)))] H1 kr fun gs2 w2 H2=>zR<|rS [.v] H2 kr fun gs3 w3 H3=>?_;exact rRe [.tmp 2] [] (v:=.bool false) (v':=.bool (decide (n≤16)&&L.all sgMay)) H3 (za (by rw [decide_eq_false h16];rfl)) kr
 refine rS [.v,.v,.E (.bool (decide ((n:Int)>16))) (.bool false) (za (decide_eq_false (by omega)))] H1 kr fun gs2 w2 H2=>qg<|wW ?_;rw [decide_eq_true h16,Bool.true_and];refine zd kr<|rS [.v,.v,.v] H2 kr fun gs3 w3 H3=>jf 12 11 13 23 0 1 n (by omega) (fun i ρ ww=>(L.take i).all sgMay=true∧St w.heap.size w ww []∧Is [(10,.slice p n c),(11,iN n),(12,iN i)] ρ) (by rintro i _ ww ⟨_,_,_,rfl⟩;exact ⟨kr,kr⟩) ⟨rfl,H3.as kr,isK⟩ ?_ ?_
 ·clear H0 H1 H2 H3;rintro i _ w7 hi ⟨hst,H7,_,rfl⟩;obtain ⟨x,hx⟩:∃x,L[i]? =some x:=⟨_,List.getElem?_eq_getElem (by omega)⟩
  obtain ⟨bl,off,C,T,fz,hp,hh,hR⟩:=hP.row2 (by omega);have hxm:=List.mem_of_getElem? hx;have hxo:=ho x hxm;refine rS [.o (ins:=[((.tmp 10),.slice p n c),((.tmp 12),iN i)]) (v:=.pointer (some ⟨bl,off+i*9,none⟩)) (fun ρ o w ho hi2=>yp (kd:=.i64) (t:=24) (e:=47) (K:=9) (bytes:=72) kr (x:=(.tmp 10)) (y:=(.tmp 12)) bl off n c i hp ho hi2.1 hi2.2.1 (by omega) w),.fp (off:=off+i*9) (n:=9) (W:=sgC x) hh (zD hh) (hR _ _ hx).1 (hR _ _ hx).2,.a,.s 0] H7 kr fun gs7 w8 H8=>?_;cases hmy:sgMay x with
  | false=>
   refine rS [.l 0,.c (zeY x.1 x.2.1 hxo.1 hxo.2 x.2.2 hmy),.v,.v,.v,.v,.v] H8 kr fun gs8 w9 H9=>rS [.v,.v] H9 kr fun gs9 w10 H10=>zR<|rS [.v] H10 kr fun gs10 w11 H11=>?_;exact rRe [.tmp 2] [] (v:=.bool false) (v':=.bool (L.all sgMay)) H11 (congrArg Value.bool (Bool.eq_false_iff.2 fun e=>by have:=List.all_eq_true.1 e x hxm;rw [hmy] at this;cases this).symm) kr
  | true=>
   refine rS [.l 0,.c (zbp x.1 x.2.1 hxo.1 hxo.2 x.2.2 hmy),.v,.v,.v,.v,.v] H8 kr fun gs8 w9 H9=>rS [.v,.v] H9 kr fun gs9 w10 H10=>qg ?_;exact ⟨kr,by rw [qS hx,List.all_append,hst];simp [hmy],(H10.as (l:=[((gs7 2).b,sgO x)]) kr).sub (List.nil_sublist _),isK⟩
 ·rintro _ w7 ⟨hst,H7,_,rfl⟩;refine wW ?_;rw [List.take_of_length_le (by omega)] at hst;refine rS [.v] H7 kr fun gs7 w8 H8=>?_;exact rRe [.tmp 2] [] (v:=.bool true) (v':=.bool (L.all sgMay)) H8 (congrArg Value.bool hst.symm) kr
theorem ug (h:Hdr)(o:ue h)(p:Option Addr)(n c:Nat)(q:Option Addr)(m k:Nat):FnP Tryd.prog 9 #[hdV h p n c q m k] (fun w=>yr w h p n q m) (.bool (yd h)):=by
 have hvl:=o.vl;have hsl:=o.sl;have hsz:=zfB h p n c q m k;have hst:=zfC p n c h.vs (by omega);have hvt:=zfD h p n c q m k;have hse:=zfE q m k h.ss hsl o.ss;rw [zfA h];refine FnP.intro (c:=zl Tryd.f9) [.tmp 2] 19 Tryd.func9 kr kr kr fun w hP=>rS [.b,.v] (St.start w) kr fun gs1 w1 H1=>?_;generalize szM h=b1 at*;generalize setM h.vs=b2 at*;generalize voteB h.vo h.ad=b3 at*;generalize (decide (h.ss.length≤16)&&h.ss.all sgMay)=b4 at*;cases b1 with
 | false=>
  refine rS [.l 0,.c hsz,.v,.n,.n,.n,.v,.v,.n,.n,.v,.v,.n,.n,.n,.v,.v] H1 kr fun gs2 w2 H2=>?_;exact rR [.tmp 2] [] (.bool false) H2 kr
 | true=>
  cases b2 with
  | false=>
   refine rS [.l 0,.c hsz,.v,.v,.l 0,.cp (pre:=fun w=>AtF sS w p n h.vs) hst [] (fun w hb hd=>hP.1.call hb),.v,.v,.n,.n,.v,.v,.n,.n,.n,.v,.v] H1 kr fun gs2 w2 H2=>?_;exact rR [.tmp 2] [] (.bool false) H2 kr
  | true=>
   cases b3 with
   | false=>
    refine rS [.l 0,.c hsz,.v,.v,.l 0,.cp (pre:=fun w=>AtF sS w p n h.vs) hst [] (fun w hb hd=>hP.1.call hb),.v,.v,.l 0,.c hvt,.v,.v,.n,.n,.n,.v,.v] H1 kr fun gs2 w2 H2=>?_;exact rR [.tmp 2] [] (.bool false) H2 kr
   | true=>
    refine rS [.l 0,.c hsz,.v,.v,.l 0,.cp (pre:=fun w=>AtF sS w p n h.vs) hst [] (fun w hb hd=>hP.1.call hb),.v,.v,.l 0,.c hvt,.v,.v,.v,.l 0,.cp (pre:=fun w=>AtF sgF w q m h.ss) hse [] (fun w hb hd=>hP.2.call hb),.v,.v] H1 kr fun gs2 w2 H2=>?_;exact rR [.tmp 2] [] (.bool b4) H2 kr
end Go.Proofs.YtbpmjppmpgeejaaDoor
namespace Go.Proofs.Kec
set_option maxRecDepth 100000
end Go.Proofs.Kec
namespace Go.Proofs.YtbpmjppmpgeejaaDoor.Ke
open Go Go.RowKit Go.Proofs.Kec
set_option linter.unusedVariables false
end Go.Proofs.YtbpmjppmpgeejaaDoor.Ke
namespace Go.Proofs.YtbpmjppmpgeejaaDoor
open Go Go.RowKit
open D2 (Gh)
set_option linter.unusedVariables false
end Go.Proofs.YtbpmjppmpgeejaaDoor
namespace Go.Proofs.YtbpmjppmpgeejaaDoor
open Go Go.RowKit
open D2 (Gh)
set_option linter.unusedVariables false
abbrev zbY:Value:=.tuple #[.string em,.int .i64 1]
theorem zfF {h:Hdr}(hr:yd h=true):qA (wrV qB (hdF h))=.tuple #[.string (yU h),.int .i64 0]:=by
 unfold qA yU;rw [vZ hr];rfl
theorem kI (h:Hdr)(o:ue h)(hr:yd h=false)(p:Option Addr)(n c:Nat)(q:Option Addr)(m k:Nat):FnP Tryd.prog 11 #[hdV h p n c q m k] (fun w=>yr w h p n q m) zbY:=by
 have hR:=ug h o p n c q m k;rw [hr] at hR;refine FnP.intro (c:=zl Tryd.f11) [.tmp 2,.tmp 3] 12 Tryd.func11 kr kr kr fun w hP=>rS [.b,.v,.v] (St.start w) kr fun gs1 w1 H1=>zd kr<|rS [.l 0,.cp hR [] (fun w hb hd=>hP.call hb),.v] H1 kr fun gs2 w2 H2=>zR<|rS [.v,.v] H2 kr fun gs3 w3 H3=>?_;exact rR [.tmp 2,.tmp 3] [] zbY H3 kr
theorem xo (h:Hdr)(o:yE h)(hr:yd h=true)(p:Option Addr)(n c:Nat)(q:Option Addr)(m k:Nat):FnP Tryd.prog 11 #[hdV h p n c q m k] (fun w=>yr w h p n q m) (.tuple #[.string (yU h),.int .i64 0]):=by
 have hR:=ug h o.sm p n c q m k;rw [hr] at hR;refine FnP.intro (c:=zl Tryd.f11) [.tmp 2,.tmp 3] 12 Tryd.func11 kr kr kr fun w hP=>rS [.b,.v,.v] (St.start w) kr fun gs1 w1 H1=>zd kr<|rS [.l 0,.cp hR [] (fun w hb hd=>hP.call hb),.v] H1 kr fun gs2 w2 H2=>qg<|wW<|zh [0,1,2,3,4,5,6] kr kr<|rp [.l 0] H2 kr fun gs3 w3 H3=>wX [1,2,3,4,5,6] ?_;have H4:St w.heap.size w w3 [((gs1 0).b,hdO h p n c q m k)]:=H3.as kr;refine jV H4 (some 8) 21 #[hdV h p n c q m k] (zfz h o hr p n c q m k) (hP.call H4.below) kr kr ?_;rintro _ T w4 ⟨pf,nf,cf,rfl,hin⟩ H5;refine qI H5 (some 9) 15 #[.string qB,.slice pf nf cf] _ _ (zeL qB pf nf cf (hdF h)) (hin.at H5 fun e he=>List.mem_append_left _ he) (fun w=>by kernel_rfl) kr ?_;intro w5 H6;refine rp [.v,.v,.v,.v] H6 kr fun gs4 w6 H7=>wX []<|zb<|wW ?_;exact rRe [.tmp 2,.tmp 3] [] (v:=qA (wrV qB (hdF h))) (v':=.tuple #[.string (yU h),.int .i64 0]) H7 (zfF hr) kr
end Go.Proofs.YtbpmjppmpgeejaaDoor
namespace Go.Proofs.YtbpmjppmpgeejaaDoor
open Go Go.RowKit
open D2 (Gh)
set_option linter.unusedVariables false
def z32:ByteArray:=zf (List.replicate 32 0)
def z20:ByteArray:=z32.extract 0 20
theorem xp:z32.size=32:=by decide
theorem zbZ:z20.size=20:=by decide
def yW:Hdr:=⟨z32,0,z32,z32,z20,em,[z20],em,false,0,[]⟩
theorem zb0:yd yW=true:=je.2 ⟨xp,xp,xp,zbZ,Nat.zero_le _,by decide,rfl,by decide,rfl⟩
theorem zb1:yE yW:=by
 have h1:=xp;have h2:=zbZ;exact ⟨by decide,by decide,by show z32.size≤_;omega,by show z32.size≤_;omega,by show z32.size≤_;omega,by show z20.size≤_;omega,Nat.zero_le _,Nat.zero_le _,(fun x hx=>by rw [List.mem_singleton.1 hx];omega),by decide,(fun _ h=>nomatch h),by decide⟩
def zb2 (v:Value)(T:List (Nat×Obj)):Prop:=∃b,v=hdV yW (some ⟨b,0,none⟩) 1 1 none 0 0∧T=[(b,.cells #[.string z20] 9 (0,0))]
theorem zb3 {w w0:World}{B b:Nat}{l:List (Nat×Obj)}(H:St B w0 w l)(hm:(b,Obj.cells #[.string z20] 9 (0,0))∈l):yr w yW (some ⟨b,0,none⟩) 1 none 0:=
 ⟨⟨rfl,.inr ⟨b,0,_,_,_,rfl,(H.own _ hm).2,Rw.rowAt (S:=sS) (cap:=1) (n:=1) ⟨rfl,Nat.le_refl _,by decide,rfl,rfl⟩⟩⟩,rfl,.inl rfl⟩
theorem zb4:FnT Tryd.prog 20 #[] (fun _=>True) zb2:=by
 refine FnT.intro (c:=zl Tryd.f20) [.cell 0 26] 13 Tryd.func20 kr kr kr fun w _=>rS [.a] (St.start w) kr fun gs1 w1 H1=>zh [0,1,2] kr kr<|zcF H1 (some 2) 56 5 1 (.int .u8 0) (.const (.int .i64 32)) (.const (.int .i64 32)) .i64 .i64 32 kr kr kr kr rfl kr kr (by decide) (by decide) ?_;intro b cur w2 H2 hr;rw [←zcL] at hr;refine zcM H2 (some 3) 56 9 5 (.tmp 2) 0 b 32 32 cur 5 (0,0) (List.replicate 32 0) kr kr kr kr kr kr kr hr ?_;have H3:=H2.sub (List.sublist_cons_self ..);refine rp [.v] H3 kr fun gs2 w3 H4=>wX []<|zb<|wW<|ve [(0,.pointer (some ⟨(gs1 0).b,0,none⟩)),(1,.string z32)] kr fun ρ1=>?_;have hz:=xp;refine dSg (fun gs=>[.v,.v,.v,.v,.o (ins:=[((.tmp 7),.string z32),((.const (.int .i64 20)),iN 20)]) (v:=.string z20) (fun ρ o w ho hi=>vg (t:=9) (kd:=.i64) kr (x:=(.tmp 7)) (y:=(.const (.int .i64 20))) z32 20 ho hi.1 hi.2.1 (by omega) w),.v,.o (ins:=[((.tmp 9),.string z32),((.const (.int .i64 20)),iN 20)]) (v:=.string z20) (fun ρ o w ho hi=>vg (t:=9) (kd:=.i64) kr (x:=(.tmp 9)) (y:=(.const (.int .i64 20))) z32 20 ho hi.1 hi.2.1 (by omega) w),.nw (fun b=>.slice (some ⟨b,0,none⟩) 1 1) #[.string z20] 9,.v,.s 0]) H4 kr fun gs3 w4 H5=>rRr [.cell 0 26] [0] (hdV yW (some ⟨(gs3 7).b,0,none⟩) 1 1 none 0 0) (yZ w.heap.size w zb2) H5 kr ?_;exact ⟨_,⟨(gs3 7).b,rfl,rfl⟩,(H5.as (l:=[((gs1 0).b,hdO yW (some ⟨(gs3 7).b,0,none⟩) 1 1 none 0 0),((gs3 7).b,.cells #[.string z20] 9 (0,0))]) kr).sub (List.sublist_cons_self ..)⟩
end Go.Proofs.YtbpmjppmpgeejaaDoor
namespace Go.Proofs.YtbpmjppmpgeejaaDoor
open Go Go.RowKit
open D2 (Gh)
set_option linter.unusedVariables false
theorem zb5 {α:Type}{S:Fl α}{w:World}{b m k:Nat}{cur:Array Value}{T:TypeId}{M:List α}(h:Rw S.K cur k m (cellsF S M))(hh:w.heap[b]? =some (.cells cur T (0,0))):AtF S w (some ⟨b,0,none⟩) m M:=⟨h.lenF.symm,.inr ⟨b,0,cur,T,(0,0),rfl,hh,h.rowAt⟩⟩
theorem zfG:100<(yU yW).size:=by decide+kernel
theorem xq:Fn Tryd.prog 10 #[] (.bool true):=by
 have hz:=zfG;refine Fn.intro (c:=zl Tryd.f10) [.tmp 0] 19 Tryd.func10 kr kr kr fun w=>rS [.v] (St.start w) kr fun gs1 w1 H1=>?_;have H2:St w.heap.size w w1 []:=H1.as kr;refine zh [0,1,2,3,4,5,6] kr kr<|jV H2 (some 4) 20 #[] zb4 trivial kr kr ?_;rintro _ _ w2 ⟨b,rfl,rfl⟩ H3;refine qI H3 (some 5) 11 #[hdV yW (some ⟨b,0,none⟩) 1 1 none 0 0] _ _ (xo yW zb1 zb0 (some ⟨b,0,none⟩) 1 1 none 0 0) (zb3 H3 (List.mem_cons_self ..)) (fun w=>by kernel_rfl) kr ?_;intro w3 H4;refine rp [.v,.v,.v,.v,.v] H4 kr fun gs2 w4 H5=>wX []<|zb<|wW<|zh [0,1,2,3,4,5,6,7,8,9,10,11] kr kr<|rp [.v,.v,.v,.v,.v,.E (.bool (decide ((((yU yW).size:Nat):Int)>100))) (.bool true) (za (decide_eq_true (by omega))),.v,.v] H5 kr fun gs3 w5 H6=>wX [8,9,10,11]<|jV H6 (some 16) 20 #[] zb4 trivial kr kr ?_;rintro _ _ w6 ⟨b,rfl,rfl⟩ H7;have hR:=ug yW zb1.sm (some ⟨b,0,none⟩) 1 1 none 0 0;rw [zb0] at hR;refine qI H7 (some 17) 9 #[hdV yW (some ⟨b,0,none⟩) 1 1 none 0 0] _ _ hR (zb3 H7 (List.mem_cons_self ..)) (fun w=>by kernel_rfl) kr ?_;intro w7 H8;refine rp [.v,.v] H8 kr fun gs4 w8 H9=>wX []<|zb ?_;exact rR [.tmp 0] [] (.bool true) H9 kr
end Go.Proofs.YtbpmjppmpgeejaaDoor
namespace Go.Proofs.YtbpmjppmpgeejaaDoor
open Go Go.RowKit
set_option linter.unusedVariables false
theorem zfH {α:Type}{S:Fl α}{P:Program}{ρ:Env}{w w0:World}{B:Nat}{l:List (Nat×Obj)}(HS:St B w0 w l){t e bytes:Nat}{s x:Operand}{o:Oper}{j b n cap m c:Nat}{p:Option Addr}{cur:Array Value}{xs:List Value}{M:List α}(ht:yf P t=some (e,S.K,bytes))(ho:o.op=yA t s x)
 (hs:ev ρ s=.slice (some ⟨b,0,none⟩) n cap) (hj:l[j]? =some (b,.cells cur e (0,0))) (hr:Rw S.K cur cap n xs) (hx:ev ρ x=.slice p m c) (hA:AtF S w p m M) (hp:yB p m c)
 (hb:(n+m)*bytes≤0x800000000000) (hm:n+m≤maxLen):∃b' cap' cur' w',(execOp (ev ρ) o).run P w=.ok (.value (.slice (some ⟨b',0,none⟩) (n+m) cap')) w'∧St B w0 w' (l.set j (b',.cells cur' e (0,0)))∧Rw S.K cur' cap' (n+m) (xs++cellsF S M):=by
 rcases hp with ⟨rfl,rfl,rfl⟩|⟨⟨a,rfl⟩,_⟩
 ·obtain ⟨it,z,hu,hi,hz,hsz,hby,hzs,hz0⟩:=yG ht;obtain rfl:M=[]:=List.length_eq_zero_iff.1 hA.1.symm;have hrun:=run_append_nothing (P:=P) w t t o.type e it hu hi (some ⟨b,0,none⟩) n cap hr.le (.slice none 0 0) ⟨.inl ⟨e,hu⟩,fun w'=>by simp [Builtin.lenOf],by simp [Builtin.firstCells],by simp [Builtin.firstCells],by simp,(fun _ h=>by cases h)⟩;refine ⟨b,cap,cur,w,?_,?_,?_⟩
  ·unfold execOp;simp only [ho,yA,resolve,invoke,builtin,Sem.run_bind,Sem.run_pure,Result.andThen_ok,List.map_toArray,List.map_cons,List.map_nil,hs,hx,hrun,Nat.add_zero]
  ·obtain ⟨hlt,he⟩:=List.getElem?_eq_some_iff.1 hj;rw [←he,List.set_getElem_self];exact HS
  ·simpa [cellsF] using hr
 ·refine zcQ (S:=S) HS ht ho hs hj hr hx hA.1 ?_ hb hm;rcases hA.2 with h | ⟨bx,off,C,T,fz,e1,h2,h3⟩
  ·exact .inl h
  ·exact .inr ⟨bx,off,C,T,fz,Option.some.inj e1,h2,h3⟩
theorem zfI {α:Type}{M:List α}{i:Nat}{x:α}(h:M[i]? =some x):M=M.take i++x::M.drop (i+1)∧(M.take i).length=i:=by
 obtain ⟨hi,rfl⟩:=List.getElem?_eq_some_iff.1 h;exact ⟨by rw [List.getElem_cons_drop,List.take_append_drop],by rw [List.length_take];omega⟩
theorem Rw.setF {α:Type}{S:Fl α}{cur:Array Value}{cap n i:Nat}{M:List α}{x y:α}(h:Rw S.K cur cap n (cellsF S M))(hM:M[i]? =some x)(j:Nat)(v:Value)(hj:j+v.cells.size≤S.K)(hx:(S.cs x).take j++v.cells.toList++(S.cs x).drop (j+v.cells.size)=S.cs y):
 0+i*S.K+j+v.cells.size≤cur.size∧Rw S.K (Go.Proofs.YtbpmjppmpgeejaaDoor.putA cur (0+i*S.K+j) v) cap n (cellsF S (M.set i y)):=by
 have hl:M.length=n:=h.lenF;have hi:=(List.getElem?_eq_some_iff.1 hM).1;obtain ⟨e1,e2⟩:=zfI hM;have hlt:(i+1)*S.K≤n*S.K:=Nat.mul_le_mul_right _ (by omega);rw [Nat.succ_mul] at hlt;have hp:=h.putA (0+i*S.K+j) v (by omega);refine ⟨hp.1,?_⟩;have hc:(cellsF S (M.take i)).length=i*S.K:=by rw [jt,e2]
 have hxl:=S.len x;have eM:cellsF S M=cellsF S (M.take i)++(S.cs x++cellsF S (M.drop (i+1))):=by
  conv=>lhs;rw [e1]
  rw [vk];rfl
 have eS:cellsF S (M.set i y)=cellsF S (M.take i)++(S.cs y++cellsF S (M.drop (i+1))):=by
  rw [List.set_eq_take_append_cons_drop,if_pos hi,vk];rfl
 have q:=hp.2;rw [eM] at q;rw [eS,←hx];have t1:(cellsF S (M.take i)++(S.cs x++cellsF S (M.drop (i+1)))).take (0+i*S.K+j)=cellsF S (M.take i)++(S.cs x).take j:=by
  rw [List.take_append,hc,show 0+i*S.K+j-i*S.K=j by omega,List.take_of_length_le (by rw [hc];omega),List.take_append_of_le_length (by omega)]
 have t2:(cellsF S (M.take i)++(S.cs x++cellsF S (M.drop (i+1)))).drop (0+i*S.K+j+v.cells.size)=(S.cs x).drop (j+v.cells.size)++cellsF S (M.drop (i+1)):=by
  rw [List.drop_append,hc,show 0+i*S.K+j+v.cells.size-i*S.K=j+v.cells.size by omega,List.drop_of_length_le (by rw [hc];omega),List.nil_append,List.drop_append_of_le_length (by omega)]
 rw [t1,t2] at q;rw [show cellsF S (M.take i)++((S.cs x).take j++v.cells.toList++(S.cs x).drop (j+v.cells.size)++cellsF S (M.drop (i+1)))=cellsF S (M.take i)++(S.cs x).take j++v.cells.toList++((S.cs x).drop (j+v.cells.size)++cellsF S (M.drop (i+1))) by simp only [List.append_assoc]];exact q
end Go.Proofs.YtbpmjppmpgeejaaDoor
namespace Go.Proofs.YtbpmjppmpgeejaaDoor
open Go Go.RowKit
open D2 (Gh)
set_option linter.unusedVariables false
def zI (x:ByteArray):ByteArray:=x.extract 0 (min x.size 50)
theorem zfJ (x:ByteArray):(zI x).size≤50:=by unfold zI;rw [ByteArray.size_extract];omega
theorem jh (s:ByteArray):Fn Tryd.prog 13 #[.string s] (.string (zI s)):=by
 refine Fn.intro (c:=zl Tryd.f13) [.tmp 2] 8 Tryd.func13 kr kr kr fun w=>rS [.v] (St.start w) kr fun gs1 w1 H1=>rS [.v,.v,.v,.E (.int .i64 (if (50:Int)<(s.size:Int) then (50:Int) else (s.size:Int))) (iN (min s.size 50)) (zt (by split<;>omega)),.o (ins:=[((.tmp 3),.string s),((.tmp 6),iN (min s.size 50))]) (v:=.string (zI s)) (fun ρ o w ho hi=>vg (t:=9) (kd:=.i64) kr (x:=(.tmp 3)) (y:=(.tmp 6)) s (min s.size 50) ho hi.1 hi.2.1 (Nat.min_le_left _ _) w),.v] H1 kr fun gs2 w2 H2=>?_;exact rR [.tmp 2] [] (.string (zI s)) H2 kr
def hdZ:Hdr:=⟨em,0,em,em,em,em,[],em,false,0,[]⟩
def zfK (h:Hdr):Hdr:=⟨zI h.pa,h.hh,zI h.ro,zI h.tx,zI h.pr,zI h.va,h.vs,zI h.vo,h.ad,h.rd,h.ss⟩
def zP (h:Hdr):Hdr:=⟨zI h.pa,h.hh,zI h.ro,zI h.tx,zI h.pr,zI h.va,(h.vs.take 20).map zI,zI h.vo,h.ad,h.rd,h.ss.take 20⟩
theorem zb6 {h:Hdr}(h1:h.hh<0x10000000000000000)(h2:h.rd<0x10000000000000000)(h3: ∀x∈h.ss,sgOk x):yE (zP h):=by
 have z:=zfJ;have le: ∀x,(zI x).size≤1000000:=fun x=>by have:=z x;omega
 exact ⟨h1,h2,le _,le _,le _,le _,le _,le _,(fun x hx=>by obtain ⟨y,_,rfl⟩:=List.mem_map.1 hx;exact le _),by show ((h.vs.take 20).map zI).length≤_;rw [List.length_map,List.length_take];omega,fun x hx=>h3 x (List.mem_of_mem_take hx),by show (h.ss.take 20).length≤_;rw [List.length_take];omega⟩
theorem uh {α:Type}{L:List α}{n z:Nat}(h:n=L.length):L.take (min n z)=L.take z:=by
 subst h;by_cases hl:L.length≤z
 ·rw [Nat.min_eq_left hl,List.take_of_length_le (Nat.le_refl _),List.take_of_length_le hl]
 ·rw [Nat.min_eq_right (by omega)]
theorem zfL {α:Type}{g:α→α}{M:List α}{i:Nat}{x:α}(h:M[i]? =some x):((M.take i).map g++M.drop i)[i]? =some x∧((M.take i).map g++M.drop i).set i (g x)=(M.take (i+1)).map g++M.drop (i+1):=by
 have hi:=(List.getElem?_eq_some_iff.1 h).1;have hl:((M.take i).map g).length=i:=by rw [List.length_map,List.length_take];omega
 constructor
 ·rw [List.getElem?_append_right (by omega),hl,Nat.sub_self,vS h];rfl
 ·rw [List.set_append_right (h:=by omega),hl,Nat.sub_self,vS h,qS h,List.map_append,List.append_assoc];rfl
def zb7 (h:Hdr)(q:Option Addr)(k:Nat)(v:Value)(T:List (Nat×Obj)):Prop:=∃(b n c:Nat) (cur:Array Value),v=hdV (zP h) (some ⟨b,0,none⟩) n c q (h.ss.take 20).length k∧T=[(b,.cells cur 9 (0,0))]∧Rw 1 cur c n (cellsF sS (zP h).vs)
theorem zb8 (h:Hdr)(p:Option Addr)(n c:Nat)(q:Option Addr)(m k:Nat)(hp:yB p n c)(hq:yB q m k):FnT Tryd.prog 5 #[hdV h p n c q m k] (fun w=>yr w h p n q m) (zb7 h q k):=by
 refine FnT.intro (c:=zl Tryd.f5) [.cell 2 26] 71 Tryd.func5 kr kr kr fun w hP=>?_;have hn:=hP.1.1;have hm:=hP.2.1;have hT:=hP.1.take (min n 20) (Nat.min_le_left _ _);rw [uh hn] at hT;have hnv:min n 20=(h.vs.take 20).length:=hT.1;have hms:(h.ss.take 20).length=min m 20:=by rw [List.length_take,←hm];omega
 obtain ⟨nv,env⟩:∃nv,min n 20=nv:=⟨_,rfl⟩
 rw [env] at hT hnv;obtain ⟨ms,ems⟩:∃ms,(h.ss.take 20).length=ms:=⟨_,rfl⟩
 rw [ems] at hms;have H0:=St.start w;refine rS [.b,.a] H0 kr fun gs1 w1 H1=>rS [.v] H1 kr fun gs2 w2 H2=>dS [.v,.v,.l 0,.c (jh h.pa),.v,.v,.l 0,.c (jh h.ro),.v,.v,.l 0,.c (jh h.tx),.v,.v,.l 0,.c (jh h.pr),.v,.v,.l 0,.c (jh h.va),.v,.v,.l 0,.c (jh h.vo),.v,.s 0,.v,.s 0,.v,.s 0,.v,.s 0,.v,.s 0,.v,.s 0] H2 kr fun w3 H3=>?_;obtain ⟨hc,ehc⟩:∃hc,zfK h=hc:=⟨_,rfl⟩
 have H4:St w.heap.size w w3 [((gs1 0).b,.cells (hdC hc p n c q m k) 26 (0,0)),((gs1 1).b,hdO hdZ none 0 0 none 0 0)]:=H3.as (by rw [←ehc];kernel_rfl);refine ve [(1,.pointer (some ⟨(gs1 0).b,0,none⟩)),(2,.pointer (some ⟨(gs1 1).b,0,none⟩)),(3,.func (.func 13) #[] #[])] kr fun ρ1=>?_;clear H0 H1 H2 H3;refine zd kr<|D2.g_draw0 [0,1,2,3,4,5,6,7,8,9,10,11,12,13,14,15,16,17,18,19] [(some 36,fun y=>.slice (some ⟨y.b,0,none⟩) 0 0),(some 37,fun _=>.pointer (some ⟨(gs1 0).b,6,none⟩)),(some 38,fun _=>.slice p n c),(some 39,fun _=>.pointer (some ⟨(gs1 0).b,6,none⟩)),(some 40,fun _=>.slice p n c),(some 41,fun _=>iN n),(some 42,fun _=>iN nv),(some 43,fun _=>.slice p nv c),(some 44,fun y=>.slice (some ⟨y.b,0,none⟩) nv y.cap),(some 45,fun _=>.pointer (some ⟨(gs1 0).b,10,none⟩)),(some 46,fun _=>.slice q m k),(some 47,fun _=>.pointer (some ⟨(gs1 0).b,10,none⟩)),(some 48,fun _=>.slice q m k),(some 49,fun _=>iN m),(some 50,fun _=>iN ms),(some 51,fun _=>.slice q ms k),(some 52,fun _=>.pointer (some ⟨(gs1 0).b,6,none⟩)),(none,fun _=>undef),(some 53,fun _=>.pointer (some ⟨(gs1 0).b,10,none⟩)),(none,fun _=>undef)]
  (D2.chn [0,8,17,19] (fun j g ww=>match j with
   | 0=>St w.heap.size w ww [((gs1 0).b,.cells (hdC hc p n c q m k) 26 (0,0)),((gs1 1).b,hdO hdZ none 0 0 none 0 0)]
   | 1=>St w.heap.size w ww [((g 0).b,.cells #[] 9 (0,0)),((gs1 0).b,.cells (hdC hc p n c q m k) 26 (0,0)),((gs1 1).b,hdO hdZ none 0 0 none 0 0)]
   | 2=>Rw 1 (g 8).cur (g 8).cap nv (cellsF sS (h.vs.take 20))∧St w.heap.size w ww [((g 8).b,.cells (g 8).cur 9 (0,0)),((gs1 0).b,.cells (hdC hc p n c q m k) 26 (0,0)),((gs1 1).b,hdO hdZ none 0 0 none 0 0)]
   | 3=>Rw 1 (g 8).cur (g 8).cap nv (cellsF sS (h.vs.take 20))∧St w.heap.size w ww [((g 8).b,.cells (g 8).cur 9 (0,0)),((gs1 0).b,.cells (hdC hc (some ⟨(g 8).b,0,none⟩) nv (g 8).cap q m k) 26 (0,0)),((gs1 1).b,hdO hdZ none 0 0 none 0 0)]
   | _=>Rw 1 (g 8).cur (g 8).cap nv (cellsF sS (h.vs.take 20))∧St w.heap.size w ww [((g 8).b,.cells (g 8).cur 9 (0,0)),((gs1 0).b,.cells (hdC hc (some ⟨(g 8).b,0,none⟩) nv (g 8).cap q ms k) 26 (0,0)),((gs1 1).b,hdO hdZ none 0 0 none 0 0)])) kr kr kr H4.drew ⟨?_,?_,?_,?_,?_,?_,?_,?_,?_,?_,?_,?_,?_,?_,?_,?_,?_,?_,?_,?_,trivial⟩ ?_
 ·refine D2.gv_chn 0 0 (fun L hN=>by
   have e0:=hN.1;have e8:=hN.post 8 kr;have e17:=hN.fwd e8 (show D2.edge _ 8 17=true by kernel_rfl);have e19:=hN.fwd e17 (show D2.edge _ 17 19=true by kernel_rfl)
   exact ⟨by (simp [D2.stg,e0,e8,e17,e19])<;>rfl,by (simp [D2.stg,D2.put1,e0,e8,e17,e19])<;>rfl⟩) fun g ww hq=>?_
  exact D2.run_new (F:=fun b=>.slice (some ⟨b,0,none⟩) 0 0) (ob:=.cells #[] 9 (0,0)) kr ⟨{ b:=ww.heap.size },rfl,St.alloc hq _⟩
 ·exact D2.gv_val (fun _ _ _ h=>h) (fun g w=>by kernel_rfl)
 ·exact D2.gv_ld (fun _ _ _ h=>h) 23 (.tmp 37) (fun _=>(gs1 0).b) 6 (hdC hc p n c q m k) 26 (0,0) (fun g=>by kernel_rfl) (fun g=>by kernel_rfl) (fun L1 g ww hN hp=>D2.chn.getN hp 2 17 rfl (hN.post 17 kr) fun j hj h=>by
   match j,h with
   | 0,h=>exact St.get h 0 kr
   | 1,h=>exact St.get h 1 kr
   | 2,h=>exact St.get h.2 1 kr) kr kr
 ·exact D2.gv_val (fun _ _ _ h=>h) (fun g w=>by kernel_rfl)
 ·exact D2.gv_ld (fun _ _ _ h=>h) 23 (.tmp 39) (fun _=>(gs1 0).b) 6 (hdC hc p n c q m k) 26 (0,0) (fun g=>by kernel_rfl) (fun g=>by kernel_rfl) (fun L1 g ww hN hp=>D2.chn.getN hp 2 17 rfl (hN.post 17 kr) fun j hj h=>by
   match j,h with
   | 0,h=>exact St.get h 0 kr
   | 1,h=>exact St.get h 1 kr
   | 2,h=>exact St.get h.2 1 kr) kr kr
 ·exact D2.gv_val (fun _ _ _ h=>h) (fun g w=>by kernel_rfl)
 ·exact D2.gv_valE (V':=.int .i64 (if (20:Int)<(n:Int) then (20:Int) else (n:Int))) (fun _ _ _ h=>h) (fun g w=>by kernel_rfl) (zt (by rw [←env];split<;>omega))
 ·exact D2.gv_op (fun _ _ _ h=>h) (.slice 23 (.tmp 38) none (some (.tmp 42)) none) (fun g=>by kernel_rfl) (fun g o w ho=>zaa (t:=23) (e:=9) (size:=1) (bytes:=16) (kd:=.i64) kr (x:=(.tmp 38)) (y:=(.tmp 42)) hp (by omega) ho kr kr w)
 ·refine D2.gv_chn 8 1 (fun L hN=>by
   have e8:=hN.1;have e0:=hN.bef 0 kr;have e17:=hN.post 17 kr;have e19:=hN.fwd e17 (show D2.edge _ 17 19=true by kernel_rfl)
   exact ⟨by (simp [D2.stg,e0,e8,e17,e19])<;>rfl,by (simp [D2.stg,D2.put1,e0,e8,e17,e19])<;>rfl⟩) fun g ww hq=>?_
  refine D2.run_of (op:=yA 23 (.tmp 36) (.tmp 43)) kr fun o ho=>?_;obtain ⟨b',cap',cur',w',hrun,HS',hr'⟩:=zfH (S:=sS) (j:=0) (cur:=#[]) (cap:=0) (b:=(g 0).b) hq (t:=23) (bytes:=16) (n:=0) (xs:=[]) kr ho kr kr ⟨rfl,Nat.le_refl _,Nat.zero_le _,rfl,rfl⟩ kr (hT.call (St.below hq)) (hp.cut (by omega)) (by omega) (by unfold maxLen;omega);rw [Nat.zero_add] at hrun hr';rw [List.nil_append] at hr';exact ⟨_,w',hrun,{ b:=b',cap:=cap',cur:=cur' },rfl,hr',HS'⟩
 ·exact D2.gv_val (fun _ _ _ h=>h) (fun g w=>by kernel_rfl)
 ·exact D2.gv_ld (fun _ _ _ h=>h) 24 (.tmp 45) (fun _=>(gs1 0).b) 10 (hdC hc p n c q m k) 26 (0,0) (fun g=>by kernel_rfl) (fun g=>by kernel_rfl) (fun L1 g ww hN hp=>D2.chn.getN hp 2 17 rfl (hN.post 17 kr) fun j hj h=>by
   match j,h with
   | 0,h=>exact St.get h 0 kr
   | 1,h=>exact St.get h 1 kr
   | 2,h=>exact St.get h.2 1 kr) kr kr
 ·exact D2.gv_val (fun _ _ _ h=>h) (fun g w=>by kernel_rfl)
 ·exact D2.gv_ld (fun _ _ _ h=>h) 24 (.tmp 47) (fun _=>(gs1 0).b) 10 (hdC hc p n c q m k) 26 (0,0) (fun g=>by kernel_rfl) (fun g=>by kernel_rfl) (fun L1 g ww hN hp=>D2.chn.getN hp 2 17 rfl (hN.post 17 kr) fun j hj h=>by
   match j,h with
   | 0,h=>exact St.get h 0 kr
   | 1,h=>exact St.get h 1 kr
   | 2,h=>exact St.get h.2 1 kr) kr kr
 ·exact D2.gv_val (fun _ _ _ h=>h) (fun g w=>by kernel_rfl)
 ·exact D2.gv_valE (V':=.int .i64 (if (20:Int)<(m:Int) then (20:Int) else (m:Int))) (fun _ _ _ h=>h) (fun g w=>by kernel_rfl) (zt (by rw [hms];split<;>omega))
 ·exact D2.gv_op (fun _ _ _ h=>h) (.slice 24 (.tmp 46) none (some (.tmp 50)) none) (fun g=>by kernel_rfl) (fun g o w ho=>zaa (t:=24) (e:=47) (size:=9) (bytes:=72) (kd:=.i64) kr (x:=(.tmp 46)) (y:=(.tmp 50)) hq (by omega) ho kr kr w)
 ·exact D2.gv_val (fun _ _ _ h=>h) (fun g w=>by kernel_rfl)
 ·refine D2.gv_chn 17 2 (fun L hN=>by
   have e17:=hN.1;have e8:=hN.bef 8 kr;have e0:=hN.back e8 (show D2.edge _ 0 8=true by kernel_rfl);have e19:=hN.post 19 kr
   exact ⟨by (simp [D2.stg,e0,e8,e17,e19])<;>rfl,by (simp [D2.stg,D2.put1,e0,e8,e17,e19])<;>rfl⟩) fun g ww hq=>?_
  exact D2.run_sto (t:=23) (x:=.tmp 52) (y:=.tmp 44) (b:=(gs1 0).b) (off:=6) (C:=hdC hc p n c q m k) (C':=hdC hc (some ⟨(g 8).b,0,none⟩) nv (g 8).cap q m k) (T:=26) (v:=.slice (some ⟨(g 8).b,0,none⟩) nv (g 8).cap) kr kr kr kr kr (St.get hq.2 1 kr) (Nat.le_of_ble_eq_true kr) kr ⟨g 17,rfl,hq.1,St.store (C:=hdC hc p n c q m k) (T:=26) hq.2 1 kr⟩
 ·exact D2.gv_val (fun _ _ _ h=>h) (fun g w=>by kernel_rfl)
 ·refine D2.gv_chn 19 3 (fun L hN=>by
   have e19:=hN.1;have e17:=hN.bef 17 kr;have e8:=hN.back e17 (show D2.edge _ 8 17=true by kernel_rfl);have e0:=hN.back e8 (show D2.edge _ 0 8=true by kernel_rfl)
   exact ⟨by (simp [D2.stg,e0,e8,e17,e19])<;>rfl,by (simp [D2.stg,D2.put1,e0,e8,e17,e19])<;>rfl⟩) fun g ww hq=>?_
  exact D2.run_sto (t:=24) (x:=.tmp 53) (y:=.tmp 51) (b:=(gs1 0).b) (off:=10) (C:=hdC hc (some ⟨(g 8).b,0,none⟩) nv (g 8).cap q m k) (C':=hdC hc (some ⟨(g 8).b,0,none⟩) nv (g 8).cap q ms k) (T:=26) (v:=.slice q ms k) kr kr kr kr kr (St.get hq.2 1 kr) (Nat.le_of_ble_eq_true kr) kr ⟨g 19,rfl,hq.1,St.store (C:=hdC hc (some ⟨(g 8).b,0,none⟩) nv (g 8).cap q m k) (T:=26) hq.2 1 kr⟩
 intro L1 g w5 hall hp9;obtain ⟨hrw,H5⟩:=hp9.fin (fun k hk=>hall k (by simp at hk;rcases hk with rfl | rfl | rfl | rfl<;>exact Nat.le_of_ble_eq_true kr));refine wW ?_;generalize (g 8).b=b at*;generalize (g 8).cap=cv at*;generalize (g 8).cur=cur at*;have H6:St w.heap.size w w5 [(b,.cells cur 9 (0,0)),((gs1 0).b,.cells (hdC hc (some ⟨b,0,none⟩) nv cv q ms k) 26 (0,0)),((gs1 1).b,hdO hdZ none 0 0 none 0 0)]:=H5;refine zd kr<|rS [.v,.l 1,.v,.v] H6 kr fun gs3 w6 H7=>?_;generalize hMV:h.vs.take 20=M at*;refine jf 57 56 58 69 0 1 nv (by omega) (fun i ρ ww=> ∃cur,Rw 1 cur cv nv (cellsF sS ((M.take i).map zI++M.drop i))∧St w.heap.size w ww [(b,.cells cur 9 (0,0)),((gs1 0).b,.cells (hdC hc (some ⟨b,0,none⟩) nv cv q ms k) 26 (0,0)),((gs1 1).b,hdO hdZ none 0 0 none 0 0)]∧Is [(1,.pointer (some ⟨(gs1 0).b,0,none⟩)),(2,.pointer (some ⟨(gs1 1).b,0,none⟩)),(3,.func (.func 13) #[] #[]),(55,.slice (some ⟨b,0,none⟩) nv cv),(56,iN nv),(57,iN i)] ρ) (by rintro i _ ww ⟨_,_,_,_,rfl⟩;exact ⟨kr,kr⟩) ⟨cur,hrw,H7.as kr,isK⟩ ?_ ?_
 ·clear H4 H5 H6 H7 hrw;rintro i _ w7 hi ⟨cur,hrw,H8,_,rfl⟩;obtain ⟨x,hx⟩:∃x,M[i]? =some x:=⟨_,List.getElem?_eq_getElem (by omega)⟩
  obtain ⟨hx2,hset⟩:=zfL (g:=zI) hx;have hput:=Rw.setF (S:=sS) (y:=zI x) hrw hx2 0 (.string (zI x)) (show 0+1≤1 by decide) rfl;rw [hset] at hput;have hcell:cur[0+i*1]? =some (.string x):=(hrw.rowAt (S:=sS)).cell hx2 0 (by decide);refine rS [.v,.o (ins:=[((.tmp 55),.slice (some ⟨b,0,none⟩) nv cv),((.tmp 57),iN i)]) (v:=.pointer (some ⟨b,0+i*1,none⟩)) (fun ρ o w ho hi2=>yp (kd:=.i64) (t:=23) (e:=9) (K:=1) (bytes:=16) kr (x:=(.tmp 55)) (y:=(.tmp 57)) b 0 nv cv i rfl ho hi2.1 hi2.2.1 (by omega) w),.ls 0 (C:=cur) (off:=0+i*1) (v:=.string x) hcell,.v,.v] H8 kr fun gs4 w8 H9=>dL [.v,.l 1,.v,.v,.v,.c (jh x),.o (ins:=[((.tmp 63),.slice (some ⟨b,0,none⟩) nv cv),((.tmp 64),iN i)]) (v:=.pointer (some ⟨b,0+i*1,none⟩)) (fun ρ o w ho hi2=>yp (kd:=.i64) (t:=23) (e:=9) (K:=1) (bytes:=16) kr (x:=(.tmp 63)) (y:=(.tmp 64)) b 0 nv cv i rfl ho hi2.1 hi2.2.1 (by omega) w),.se 0 (C:=cur) (C':=putA cur (0+i*1+0) (.string (zI x))) (off:=0+i*1) (v:=.string (zI x)) hput.1 rfl] H9 kr fun w9 H10=>?_;exact ⟨kr,_,hput.2,H10.as kr,isK⟩
 ·rintro _ w7 ⟨cur,hrw,H8,_,rfl⟩;rw [List.take_of_length_le (by omega),List.drop_of_length_le (by omega),List.append_nil] at hrw;refine wW<|rS [.l 1,.s 2] H8 kr fun gs4 w8 H9=>rRr [.cell 2 26] [2] (hdV (zP h) (some ⟨b,0,none⟩) nv cv q ms k) (yZ w.heap.size w (zb7 h q k)) H9 (by rw [show zP h=⟨hc.pa,hc.hh,hc.ro,hc.tx,hc.pr,hc.va,M.map zI,hc.vo,hc.ad,hc.rd,h.ss.take 20⟩ by rw [←ehc,←hMV];rfl];kernel_rfl) ?_;refine ⟨_,⟨b,nv,cv,cur,by rw [ems],rfl,?_⟩,H9.sub (List.Sublist.cons_cons _ (List.nil_sublist _))⟩;show Rw 1 cur cv nv (cellsF sS ((h.vs.take 20).map zI));rw [hMV];exact hrw
end Go.Proofs.YtbpmjppmpgeejaaDoor
namespace Go.Proofs.YtbpmjppmpgeejaaDoor
open Go Go.RowKit
set_option linter.unusedVariables false
theorem zb9 (h k:Hdr)(oh:yE h)(ok:yE k)(p:Option Addr)(n c:Nat)(q:Option Addr)(m cq:Nat)(p':Option Addr)(n' c':Nat)(q':Option Addr)(m' cq':Nat)(b:Bool)(hb:b=true↔h=k):
 FnP Tryd.prog 12 #[hdV h p n c q m cq,hdV k p' n' c' q' m' cq'] (fun w=>yr w h p n q m∧yr w k p' n' q' m') (.bool b):=by
 have no:h≠k→b=false:=fun hne=>Bool.eq_false_iff.2 fun e=>hne (hb.1 e);refine FnP.intro (c:=zl Tryd.f12) [.tmp 4] 120 Tryd.func12 kr kr kr fun w hP=>?_;obtain ⟨hP,hP'⟩:=hP;have hn:=hP.1.1;have hm:=hP.2.1;have hn':=hP'.1.1;have hm':=hP'.2.1;have hvl:=oh.vl;have hsl:=oh.sl;have hvl':=ok.vl;have hsl':=ok.sl;have H0:=St.start w;refine rS [.b,.b,.v] H0 kr fun gs1 w1 H1=>zd kr ?_;by_cases e_pa:h.pa=k.pa
 case neg=>
  refine rS [.v,.l 0,.v,.l 1,.E (.bool (!(h.pa.toList==k.pa.toList))) (.bool true) (za (by rw [yP _ _ e_pa];rfl)),.v,.n,.n,.n,.n,.n,.v,.v,.n,.n,.n,.n,.n,.v,.v,.n,.n,.n,.n,.n,.v,.v,.n,.n,.n,.n,.n,.v,.v,.n,.n,.n,.n,.n,.v,.v,.n,.n,.n,.n,.n,.v,.v,.n,.n,.n,.n,.n,.v,.v,.n,.n,.n,.n,.n,.v] H1 kr fun gs2 w2 H2=>zR<|rS [.v] H2 kr fun gs5 w5 H5=>?_;exact rRe [.tmp 4] [] (v:=.bool false) (v':=.bool b) H5 (za ((no fun e=>e_pa (by rw [e])).symm)) kr
 by_cases e_hh:h.hh=k.hh
 case neg=>
  refine rS [.v,.l 0,.v,.l 1,.E (.bool (!(h.pa.toList==k.pa.toList))) (.bool false) (za (by rw [zy _ _ e_pa];rfl)),.v,.v,.l 0,.v,.l 1,.E (.bool (((h.hh:Nat):Int)!=((k.hh:Nat):Int))) (.bool true) (za (bne_iff_ne.2 (by omega))),.v,.v,.n,.n,.n,.n,.n,.v,.v,.n,.n,.n,.n,.n,.v,.v,.n,.n,.n,.n,.n,.v,.v,.n,.n,.n,.n,.n,.v,.v,.n,.n,.n,.n,.n,.v,.v,.n,.n,.n,.n,.n,.v,.v,.n,.n,.n,.n,.n,.v] H1 kr fun gs2 w2 H2=>zR<|rS [.v] H2 kr fun gs5 w5 H5=>?_;exact rRe [.tmp 4] [] (v:=.bool false) (v':=.bool b) H5 (za ((no fun e=>e_hh (by rw [e])).symm)) kr
 by_cases e_ro:h.ro=k.ro
 case neg=>
  refine rS [.v,.l 0,.v,.l 1,.E (.bool (!(h.pa.toList==k.pa.toList))) (.bool false) (za (by rw [zy _ _ e_pa];rfl)),.v,.v,.l 0,.v,.l 1,.E (.bool (((h.hh:Nat):Int)!=((k.hh:Nat):Int))) (.bool false) (za (by rw [e_hh];exact bne_self_eq_false' _)),.v,.v,.v,.l 0,.v,.l 1,.E (.bool (!(h.ro.toList==k.ro.toList))) (.bool true) (za (by rw [yP _ _ e_ro];rfl)),.v,.v,.n,.n,.n,.n,.n,.v,.v,.n,.n,.n,.n,.n,.v,.v,.n,.n,.n,.n,.n,.v,.v,.n,.n,.n,.n,.n,.v,.v,.n,.n,.n,.n,.n,.v,.v,.n,.n,.n,.n,.n,.v] H1 kr fun gs2 w2 H2=>zR<|rS [.v] H2 kr fun gs5 w5 H5=>?_;exact rRe [.tmp 4] [] (v:=.bool false) (v':=.bool b) H5 (za ((no fun e=>e_ro (by rw [e])).symm)) kr
 by_cases e_tx:h.tx=k.tx
 case neg=>
  refine rS [.v,.l 0,.v,.l 1,.E (.bool (!(h.pa.toList==k.pa.toList))) (.bool false) (za (by rw [zy _ _ e_pa];rfl)),.v,.v,.l 0,.v,.l 1,.E (.bool (((h.hh:Nat):Int)!=((k.hh:Nat):Int))) (.bool false) (za (by rw [e_hh];exact bne_self_eq_false' _)),.v,.v,.v,.l 0,.v,.l 1,.E (.bool (!(h.ro.toList==k.ro.toList))) (.bool false) (za (by rw [zy _ _ e_ro];rfl)),.v,.v,.v,.l 0,.v,.l 1,.E (.bool (!(h.tx.toList==k.tx.toList))) (.bool true) (za (by rw [yP _ _ e_tx];rfl)),.v,.v,.n,.n,.n,.n,.n,.v,.v,.n,.n,.n,.n,.n,.v,.v,.n,.n,.n,.n,.n,.v,.v,.n,.n,.n,.n,.n,.v,.v,.n,.n,.n,.n,.n,.v] H1 kr fun gs2 w2 H2=>zR<|rS [.v] H2 kr fun gs5 w5 H5=>?_;exact rRe [.tmp 4] [] (v:=.bool false) (v':=.bool b) H5 (za ((no fun e=>e_tx (by rw [e])).symm)) kr
 by_cases e_pr:h.pr=k.pr
 case neg=>
  refine rS [.v,.l 0,.v,.l 1,.E (.bool (!(h.pa.toList==k.pa.toList))) (.bool false) (za (by rw [zy _ _ e_pa];rfl)),.v,.v,.l 0,.v,.l 1,.E (.bool (((h.hh:Nat):Int)!=((k.hh:Nat):Int))) (.bool false) (za (by rw [e_hh];exact bne_self_eq_false' _)),.v,.v,.v,.l 0,.v,.l 1,.E (.bool (!(h.ro.toList==k.ro.toList))) (.bool false) (za (by rw [zy _ _ e_ro];rfl)),.v,.v,.v,.l 0,.v,.l 1,.E (.bool (!(h.tx.toList==k.tx.toList))) (.bool false) (za (by rw [zy _ _ e_tx];rfl)),.v,.v,.v,.l 0,.v,.l 1,.E (.bool (!(h.pr.toList==k.pr.toList))) (.bool true) (za (by rw [yP _ _ e_pr];rfl)),.v,.v,.n,.n,.n,.n,.n,.v,.v,.n,.n,.n,.n,.n,.v,.v,.n,.n,.n,.n,.n,.v,.v,.n,.n,.n,.n,.n,.v] H1 kr fun gs2 w2 H2=>zR<|rS [.v] H2 kr fun gs5 w5 H5=>?_;exact rRe [.tmp 4] [] (v:=.bool false) (v':=.bool b) H5 (za ((no fun e=>e_pr (by rw [e])).symm)) kr
 by_cases e_va:h.va=k.va
 case neg=>
  refine rS [.v,.l 0,.v,.l 1,.E (.bool (!(h.pa.toList==k.pa.toList))) (.bool false) (za (by rw [zy _ _ e_pa];rfl)),.v,.v,.l 0,.v,.l 1,.E (.bool (((h.hh:Nat):Int)!=((k.hh:Nat):Int))) (.bool false) (za (by rw [e_hh];exact bne_self_eq_false' _)),.v,.v,.v,.l 0,.v,.l 1,.E (.bool (!(h.ro.toList==k.ro.toList))) (.bool false) (za (by rw [zy _ _ e_ro];rfl)),.v,.v,.v,.l 0,.v,.l 1,.E (.bool (!(h.tx.toList==k.tx.toList))) (.bool false) (za (by rw [zy _ _ e_tx];rfl)),.v,.v,.v,.l 0,.v,.l 1,.E (.bool (!(h.pr.toList==k.pr.toList))) (.bool false) (za (by rw [zy _ _ e_pr];rfl)),.v,.v,.v,.l 0,.v,.l 1,.E (.bool (!(h.va.toList==k.va.toList))) (.bool true) (za (by rw [yP _ _ e_va];rfl)),.v,.v,.n,.n,.n,.n,.n,.v,.v,.n,.n,.n,.n,.n,.v,.v,.n,.n,.n,.n,.n,.v] H1 kr fun gs2 w2 H2=>zR<|rS [.v] H2 kr fun gs5 w5 H5=>?_;exact rRe [.tmp 4] [] (v:=.bool false) (v':=.bool b) H5 (za ((no fun e=>e_va (by rw [e])).symm)) kr
 by_cases e_vo:h.vo=k.vo
 case neg=>
  refine rS [.v,.l 0,.v,.l 1,.E (.bool (!(h.pa.toList==k.pa.toList))) (.bool false) (za (by rw [zy _ _ e_pa];rfl)),.v,.v,.l 0,.v,.l 1,.E (.bool (((h.hh:Nat):Int)!=((k.hh:Nat):Int))) (.bool false) (za (by rw [e_hh];exact bne_self_eq_false' _)),.v,.v,.v,.l 0,.v,.l 1,.E (.bool (!(h.ro.toList==k.ro.toList))) (.bool false) (za (by rw [zy _ _ e_ro];rfl)),.v,.v,.v,.l 0,.v,.l 1,.E (.bool (!(h.tx.toList==k.tx.toList))) (.bool false) (za (by rw [zy _ _ e_tx];rfl)),.v,.v,.v,.l 0,.v,.l 1,.E (.bool (!(h.pr.toList==k.pr.toList))) (.bool false) (za (by rw [zy _ _ e_pr];rfl)),.v,.v,.v,.l 0,.v,.l 1,.E (.bool (!(h.va.toList==k.va.toList))) (.bool false) (za (by rw [zy _ _ e_va];rfl)),.v,.v,.v,.l 0,.v,.l 1,.E (.bool (!(h.vo.toList==k.vo.toList))) (.bool true) (za (by rw [yP _ _ e_vo];rfl)),.v,.v,.n,.n,.n,.n,.n,.v,.v,.n,.n,.n,.n,.n,.v] H1 kr fun gs2 w2 H2=>zR<|rS [.v] H2 kr fun gs5 w5 H5=>?_;exact rRe [.tmp 4] [] (v:=.bool false) (v':=.bool b) H5 (za ((no fun e=>e_vo (by rw [e])).symm)) kr
 by_cases e_ad:h.ad=k.ad
 case neg=>
  refine rS [.v,.l 0,.v,.l 1,.E (.bool (!(h.pa.toList==k.pa.toList))) (.bool false) (za (by rw [zy _ _ e_pa];rfl)),.v,.v,.l 0,.v,.l 1,.E (.bool (((h.hh:Nat):Int)!=((k.hh:Nat):Int))) (.bool false) (za (by rw [e_hh];exact bne_self_eq_false' _)),.v,.v,.v,.l 0,.v,.l 1,.E (.bool (!(h.ro.toList==k.ro.toList))) (.bool false) (za (by rw [zy _ _ e_ro];rfl)),.v,.v,.v,.l 0,.v,.l 1,.E (.bool (!(h.tx.toList==k.tx.toList))) (.bool false) (za (by rw [zy _ _ e_tx];rfl)),.v,.v,.v,.l 0,.v,.l 1,.E (.bool (!(h.pr.toList==k.pr.toList))) (.bool false) (za (by rw [zy _ _ e_pr];rfl)),.v,.v,.v,.l 0,.v,.l 1,.E (.bool (!(h.va.toList==k.va.toList))) (.bool false) (za (by rw [zy _ _ e_va];rfl)),.v,.v,.v,.l 0,.v,.l 1,.E (.bool (!(h.vo.toList==k.vo.toList))) (.bool false) (za (by rw [zy _ _ e_vo];rfl)),.v,.v,.v,.l 0,.v,.l 1,.E (.bool (h.ad !=k.ad)) (.bool true) (za (bne_iff_ne.2 e_ad)),.v,.v,.n,.n,.n,.n,.n,.v] H1 kr fun gs2 w2 H2=>zR<|rS [.v] H2 kr fun gs5 w5 H5=>?_;exact rRe [.tmp 4] [] (v:=.bool false) (v':=.bool b) H5 (za ((no fun e=>e_ad (by rw [e])).symm)) kr
 by_cases e_rd:h.rd=k.rd
 case neg=>
  refine rS [.v,.l 0,.v,.l 1,.E (.bool (!(h.pa.toList==k.pa.toList))) (.bool false) (za (by rw [zy _ _ e_pa];rfl)),.v,.v,.l 0,.v,.l 1,.E (.bool (((h.hh:Nat):Int)!=((k.hh:Nat):Int))) (.bool false) (za (by rw [e_hh];exact bne_self_eq_false' _)),.v,.v,.v,.l 0,.v,.l 1,.E (.bool (!(h.ro.toList==k.ro.toList))) (.bool false) (za (by rw [zy _ _ e_ro];rfl)),.v,.v,.v,.l 0,.v,.l 1,.E (.bool (!(h.tx.toList==k.tx.toList))) (.bool false) (za (by rw [zy _ _ e_tx];rfl)),.v,.v,.v,.l 0,.v,.l 1,.E (.bool (!(h.pr.toList==k.pr.toList))) (.bool false) (za (by rw [zy _ _ e_pr];rfl)),.v,.v,.v,.l 0,.v,.l 1,.E (.bool (!(h.va.toList==k.va.toList))) (.bool false) (za (by rw [zy _ _ e_va];rfl)),.v,.v,.v,.l 0,.v,.l 1,.E (.bool (!(h.vo.toList==k.vo.toList))) (.bool false) (za (by rw [zy _ _ e_vo];rfl)),.v,.v,.v,.l 0,.v,.l 1,.E (.bool (h.ad !=k.ad)) (.bool false) (za (by rw [e_ad];exact bne_self_eq_false' _)),.v,.v,.v,.l 0,.v,.l 1,.E (.bool (((h.rd:Nat):Int)!=((k.rd:Nat):Int))) (.bool true) (za (bne_iff_ne.2 (by omega))),.v] H1 kr fun gs2 w2 H2=>zR<|rS [.v] H2 kr fun gs5 w5 H5=>?_;exact rRe [.tmp 4] [] (v:=.bool false) (v':=.bool b) H5 (za ((no fun e=>e_rd (by rw [e])).symm)) kr
 refine rS [.v,.l 0,.v,.l 1,.E (.bool (!(h.pa.toList==k.pa.toList))) (.bool false) (za (by rw [zy _ _ e_pa];rfl)),.v,.v,.l 0,.v,.l 1,.E (.bool (((h.hh:Nat):Int)!=((k.hh:Nat):Int))) (.bool false) (za (by rw [e_hh];exact bne_self_eq_false' _)),.v,.v,.v,.l 0,.v,.l 1,.E (.bool (!(h.ro.toList==k.ro.toList))) (.bool false) (za (by rw [zy _ _ e_ro];rfl)),.v,.v,.v,.l 0,.v,.l 1,.E (.bool (!(h.tx.toList==k.tx.toList))) (.bool false) (za (by rw [zy _ _ e_tx];rfl)),.v,.v,.v,.l 0,.v,.l 1,.E (.bool (!(h.pr.toList==k.pr.toList))) (.bool false) (za (by rw [zy _ _ e_pr];rfl)),.v,.v,.v,.l 0,.v,.l 1,.E (.bool (!(h.va.toList==k.va.toList))) (.bool false) (za (by rw [zy _ _ e_va];rfl)),.v,.v,.v,.l 0,.v,.l 1,.E (.bool (!(h.vo.toList==k.vo.toList))) (.bool false) (za (by rw [zy _ _ e_vo];rfl)),.v,.v,.v,.l 0,.v,.l 1,.E (.bool (h.ad !=k.ad)) (.bool false) (za (by rw [e_ad];exact bne_self_eq_false' _)),.v,.v,.v,.l 0,.v,.l 1,.E (.bool (((h.rd:Nat):Int)!=((k.rd:Nat):Int))) (.bool false) (za (by rw [e_rd];exact bne_self_eq_false' _)),.v] H1 kr fun gs2 w2 H2=>qg<|wW ?_;clear H0 H1;refine zd kr ?_;by_cases en:n=n'
 case neg=>
  refine rS [.v,.l 0,.v,.v,.l 1,.v,.E (.bool ((n:Int)!=(n':Int))) (.bool true) (za (bne_iff_ne.2 (by omega))),.v,.n,.n,.n,.n,.n,.n,.n,.v] H2 kr fun gs3 w3 H3=>zR<|rS [.v] H3 kr fun gs5 w5 H5=>?_;exact rRe [.tmp 4] [] (v:=.bool false) (v':=.bool b) H5 (za ((no fun e=>en (by rw [hn,hn',e])).symm)) kr
 by_cases em_:m=m'
 case neg=>
  refine rS [.v,.l 0,.v,.v,.l 1,.v,.E (.bool ((n:Int)!=(n':Int))) (.bool false) (za (by rw [en];exact bne_self_eq_false' _)),.v,.v,.l 0,.v,.v,.l 1,.v,.E (.bool ((m:Int)!=(m':Int))) (.bool true) (za (bne_iff_ne.2 (by omega))),.v] H2 kr fun gs3 w3 H3=>zR<|rS [.v] H3 kr fun gs5 w5 H5=>?_;exact rRe [.tmp 4] [] (v:=.bool false) (v':=.bool b) H5 (za ((no fun e=>em_ (by rw [hm,hm',e])).symm)) kr
 subst en em_;refine rS [.v,.l 0,.v,.v,.l 1,.v,.E (.bool ((n:Int)!=(n:Int))) (.bool false) (za (bne_self_eq_false' _)),.v,.v,.l 0,.v,.v,.l 1,.v,.E (.bool ((m:Int)!=(m:Int))) (.bool false) (za (bne_self_eq_false' _)),.v] H2 kr fun gs3 w3 H3=>qg<|wW<|zd kr<|rS [.v,.l 0,.v,.v] H3 kr fun gs4 w4 H4=>jf 87 86 88 101 0 1 n (by omega) (fun i ρ ww=>h.vs.take i=k.vs.take i∧St w.heap.size w ww [((gs1 0).b,hdO h p n c q m cq),((gs1 1).b,hdO k p' n c' q' m cq')]∧Is [(2,.pointer (some ⟨(gs1 0).b,0,none⟩)),(3,.pointer (some ⟨(gs1 1).b,0,none⟩)),(86,iN n),(87,iN i)] ρ) (by rintro i _ ww ⟨_,_,_,rfl⟩;exact ⟨kr,kr⟩) ⟨rfl,H4.as kr,isK⟩ ?_ ?_
 ·clear H2 H3 H4;rintro i _ w5 hi ⟨htk,H5,_,rfl⟩;obtain ⟨x,hx⟩:∃x,h.vs[i]? =some x:=⟨_,List.getElem?_eq_getElem (by omega)⟩
  obtain ⟨y,hy⟩:∃y,k.vs[i]? =some y:=⟨_,List.getElem?_eq_getElem (by omega)⟩
  obtain ⟨bl,off,C,T,fz,hp,hh,hR⟩:=hP.1.row2 (by omega);obtain ⟨bl2,off2,C2,T2,fz2,hp2,hh2,hR2⟩:=hP'.1.row2 (by omega);have cx:C[off+i*1]? =some (.string x):=hR.cell hx 0 (by decide);have cy:C2[off2+i*1]? =some (.string y):=hR2.cell hy 0 (by decide);refine rS [.v,.v] H5 kr fun gs5 w6 H6=>?_;by_cases exy:x=y
  ·refine dS [.v,.l 0,.v,.o (ins:=[((.tmp 91),.slice p n c),((.tmp 92),iN i)]) (v:=.pointer (some ⟨bl,off+i*1,none⟩)) (fun ρ o w ho hi2=>yp (kd:=.i64) (t:=23) (e:=9) (K:=1) (bytes:=16) kr (x:=(.tmp 91)) (y:=(.tmp 92)) bl off n c i hp ho hi2.1 hi2.2.1 (by omega) w),.fs (off:=off+i*1) (v:=.string x) hh (zD hh) cx,.v,.l 1,.v,.o (ins:=[((.tmp 96),.slice p' n c'),((.tmp 97),iN i)]) (v:=.pointer (some ⟨bl2,off2+i*1,none⟩)) (fun ρ o w ho hi2=>yp (kd:=.i64) (t:=23) (e:=9) (K:=1) (bytes:=16) kr (x:=(.tmp 96)) (y:=(.tmp 97)) bl2 off2 n c' i hp2 ho hi2.1 hi2.2.1 (by omega) w),.fs (off:=off2+i*1) (v:=.string y) hh2 (zD hh2) cy,.E (.bool (!(x.toList==y.toList))) (.bool false) (za (by rw [zy _ _ exy];rfl))] H6 kr fun w7 H7=>qg ?_;exact ⟨kr,by rw [qS hx,qS hy,htk,exy],H7.as kr,isK⟩
  ·refine dS [.v,.l 0,.v,.o (ins:=[((.tmp 91),.slice p n c),((.tmp 92),iN i)]) (v:=.pointer (some ⟨bl,off+i*1,none⟩)) (fun ρ o w ho hi2=>yp (kd:=.i64) (t:=23) (e:=9) (K:=1) (bytes:=16) kr (x:=(.tmp 91)) (y:=(.tmp 92)) bl off n c i hp ho hi2.1 hi2.2.1 (by omega) w),.fs (off:=off+i*1) (v:=.string x) hh (zD hh) cx,.v,.l 1,.v,.o (ins:=[((.tmp 96),.slice p' n c'),((.tmp 97),iN i)]) (v:=.pointer (some ⟨bl2,off2+i*1,none⟩)) (fun ρ o w ho hi2=>yp (kd:=.i64) (t:=23) (e:=9) (K:=1) (bytes:=16) kr (x:=(.tmp 96)) (y:=(.tmp 97)) bl2 off2 n c' i hp2 ho hi2.1 hi2.2.1 (by omega) w),.fs (off:=off2+i*1) (v:=.string y) hh2 (zD hh2) cy,.E (.bool (!(x.toList==y.toList))) (.bool true) (za (by rw [yP _ _ exy];rfl))] H6 kr fun w7 H7=>zR<|rS [.v] H7 kr fun gs5 w5 H5=>?_;exact rRe [.tmp 4] [] (v:=.bool false) (v':=.bool b) H5 (za ((no fun e=>exy (by subst e;rw [hx] at hy;exact Option.some.inj hy)).symm)) kr
 ·rintro _ w5 ⟨htk,H5,_,rfl⟩;rw [List.take_of_length_le (by omega),List.take_of_length_le (by omega)] at htk;refine wW<|zd kr<|rS [.v,.l 0,.v,.v] H5 kr fun gs5 w6 H6=>jf 105 104 106 119 2 3 m (by omega) (fun i ρ ww=>h.ss.take i=k.ss.take i∧St w.heap.size w ww [((gs1 0).b,hdO h p n c q m cq),((gs1 1).b,hdO k p' n c' q' m cq')]∧Is [(2,.pointer (some ⟨(gs1 0).b,0,none⟩)),(3,.pointer (some ⟨(gs1 1).b,0,none⟩)),(104,iN m),(105,iN i)] ρ) (by rintro i _ ww ⟨_,_,_,rfl⟩;exact ⟨kr,kr⟩) ⟨rfl,H6.as kr,isK⟩ ?_ ?_
  ·clear H2 H3 H4 H5 H6;rintro i _ w5 hi ⟨htk2,H5,_,rfl⟩;obtain ⟨x,hx⟩:∃x,h.ss[i]? =some x:=⟨_,List.getElem?_eq_getElem (by omega)⟩
   obtain ⟨y,hy⟩:∃y,k.ss[i]? =some y:=⟨_,List.getElem?_eq_getElem (by omega)⟩
   obtain ⟨bl,off,C,T,fz,hp,hh,hR⟩:=hP.2.row2 (by omega);obtain ⟨bl2,off2,C2,T2,fz2,hp2,hh2,hR2⟩:=hP'.2.row2 (by omega);have hxo:=oh.ss x (List.mem_of_getElem? hx);have hyo:=ok.ss y (List.mem_of_getElem? hy);refine rS [.v,.v] H5 kr fun gs5 w6 H6=>?_;have hcmp:(decide (x.1=y.1)&&(decide (x.2.1=y.2.1)&&(x.2.2==y.2.2)))=true↔x=y:=by
    obtain ⟨a,b',c2⟩:=x;obtain ⟨a2,b2,c3⟩:=y;simp
   generalize hg:(decide (x.1=y.1)&&(decide (x.2.1=y.2.1)&&(x.2.2==y.2.2)))=g at hcmp;have hit:=fun (v:Bool) (hv:(!g)=v) (ρ:Env) (o:Oper) (w:World) (ho:o.op=.binOp .neq 47 (.tmp 112) (.tmp 117) 47) (hi:Ins (ev ρ) [((.tmp 112),.agg (sgC x)),((.tmp 117),.agg (sgC y))])=>(ze4 x.1 x.2.1 x.2.2 y.1 y.2.1 y.2.2 hxo.1 hxo.2 hyo.1 hyo.2 w ho hi.1 hi.2.1).trans (by rw [hg,hv]);cases g with
   | true=>
    have exy:=hcmp.1 rfl;refine dS [.v,.l 0,.v,.o (ins:=[((.tmp 109),.slice q m cq),((.tmp 110),iN i)]) (v:=.pointer (some ⟨bl,off+i*9,none⟩)) (fun ρ o w ho hi2=>yp (kd:=.i64) (t:=24) (e:=47) (K:=9) (bytes:=72) kr (x:=(.tmp 109)) (y:=(.tmp 110)) bl off m cq i hp ho hi2.1 hi2.2.1 (by omega) w),.fp (off:=off+i*9) (n:=9) (W:=sgC x) hh (zD hh) (hR _ _ hx).1 (hR _ _ hx).2,.v,.l 1,.v,.o (ins:=[((.tmp 114),.slice q' m cq'),((.tmp 115),iN i)]) (v:=.pointer (some ⟨bl2,off2+i*9,none⟩)) (fun ρ o w ho hi2=>yp (kd:=.i64) (t:=24) (e:=47) (K:=9) (bytes:=72) kr (x:=(.tmp 114)) (y:=(.tmp 115)) bl2 off2 m cq' i hp2 ho hi2.1 hi2.2.1 (by omega) w),.fp (off:=off2+i*9) (n:=9) (W:=sgC y) hh2 (zD hh2) (hR2 _ _ hy).1 (hR2 _ _ hy).2,.o (hit false rfl)] H6 kr fun w7 H7=>qg ?_;exact ⟨kr,by rw [qS hx,qS hy,htk2,exy],H7.as kr,isK⟩
   | false=>
    refine dS [.v,.l 0,.v,.o (ins:=[((.tmp 109),.slice q m cq),((.tmp 110),iN i)]) (v:=.pointer (some ⟨bl,off+i*9,none⟩)) (fun ρ o w ho hi2=>yp (kd:=.i64) (t:=24) (e:=47) (K:=9) (bytes:=72) kr (x:=(.tmp 109)) (y:=(.tmp 110)) bl off m cq i hp ho hi2.1 hi2.2.1 (by omega) w),.fp (off:=off+i*9) (n:=9) (W:=sgC x) hh (zD hh) (hR _ _ hx).1 (hR _ _ hx).2,.v,.l 1,.v,.o (ins:=[((.tmp 114),.slice q' m cq'),((.tmp 115),iN i)]) (v:=.pointer (some ⟨bl2,off2+i*9,none⟩)) (fun ρ o w ho hi2=>yp (kd:=.i64) (t:=24) (e:=47) (K:=9) (bytes:=72) kr (x:=(.tmp 114)) (y:=(.tmp 115)) bl2 off2 m cq' i hp2 ho hi2.1 hi2.2.1 (by omega) w),.fp (off:=off2+i*9) (n:=9) (W:=sgC y) hh2 (zD hh2) (hR2 _ _ hy).1 (hR2 _ _ hy).2,.o (hit true rfl)] H6 kr fun w7 H7=>zR<|rS [.v] H7 kr fun gs5 w5 H5=>?_;exact rRe [.tmp 4] [] (v:=.bool false) (v':=.bool b) H5 (za ((no fun e=>absurd (hcmp.2 (by subst e;rw [hx] at hy;exact Option.some.inj hy)) (by decide)).symm)) kr
  ·rintro _ w7 ⟨htk2,H7,_,rfl⟩;rw [List.take_of_length_le (by omega),List.take_of_length_le (by omega)] at htk2;refine wW<|rS [.v] H7 kr fun gs8 w8 H8=>?_;exact rRe [.tmp 4] [] (v:=.bool true) (v':=.bool b) H8 (za (hb.2 (zbB e_pa e_hh e_ro e_tx e_pr e_va htk e_vo e_ad e_rd htk2)).symm) kr
def isIt (t:ByteArray)(l:Bool)(s:ByteArray)(k:Fo)(m:Nat):Prop:= ∀(l':Bool) (s':ByteArray) (k':Fo) (X:List UInt8),mixed l' s' k'.len=false→pureF k'=true→tl t=wr1 l' s' (szF k') (wrF k')++X→l'=l∧s'=s∧k'=k∧m=(wr1 l' s' (szF k') (wrF k')).length
structure RdI (t:ByteArray)(l:Bool)(s:ByteArray)(p:Option Addr)(n:Nat)(k:Fo)(m:Nat)(T:List (Nat×Obj)):Prop where
 mix:mixed l s k.len=false
 pur:pureF k=true
 inn:SlIn T p n k
 ssz:s.size≤m
 one:1≤m
 le:m≤t.size
 cnt:1+k.cnt≤m
 wt:9+s.size+wtF k≤10*m
 is:isIt t l s k m
def appF:List X3→Fo→Fo
 | [],r=>r
 | x::M,r=>.cons x.l x.s x.k (appF M r)
structure RdL (t:ByteArray)(a b j:Nat)(p:Option Addr)(n c:Nat)(row:List (Nat×Obj))(M:List X3)(T:List (Nat×Obj)):Prop where
 row:RowSt p n c row M
 lo:a≤j
 hi:j≤a+b
 num:n≤(toFo M).cnt
 cnt:(toFo M).cnt≤j-a
 wt:wtF (toFo M)≤10*(j-a)
 pur:pureF (toFo M)=true
 inn:AllIn T M
 rest: ∀k',pureF k'=true→tl (t.extract a (a+b))=wrF k'→∃r,pureF r=true∧tl (t.extract j (a+b))=wrF r∧k'=appF M r
section
variable {t:ByteArray}{a b j:Nat}{p:Option Addr}{n c:Nat}{row:List (Nat×Obj)}{M:List X3}{T:List (Nat×Obj)}
end
section
variable {P:Program}{N:Nat}{ops:Array Oper}{K:Env→World→Prop}{ρ:Env}{w w0:World}{i B:Nat}{r:List Nat}{l:List (Nat×Obj)}
end
end Go.Proofs.YtbpmjppmpgeejaaDoor
namespace Go.Proofs.YtbpmjppmpgeejaaDoor
open Go Go.RowKit
open D2 (Gh)
set_option linter.unusedVariables false
section
variable {P:Program}{N:Nat}{ops:Array Oper}{i:Nat}{r:List Nat}{K:Env→World→Prop}{ρ:Env}{w w0:World}{B:Nat}{l:List (Nat×Obj)}
end
end Go.Proofs.YtbpmjppmpgeejaaDoor
namespace Go.Proofs.YtbpmjppmpgeejaaDoor
open Go Go.RowKit
open D2 (Gh)
set_option linter.unusedVariables false
end Go.Proofs.YtbpmjppmpgeejaaDoor
namespace Go.Proofs.YtbpmjppmpgeejaaDoor
open Go Go.RowKit
open D2 (Gh)
set_option linter.unusedVariables false
theorem zfM {h k:Hdr}{S:ByteArray}(oh:yE h)(ok:yE k)(rh:yd h=true)(rk:yd k=true)(e1:wrV qB (hdF h)=(S,0))(e2:wrV qB (hdF k)=(S,0)):h=k:=by
 unfold wrV at e1 e2;rw [zbD.parse] at e1 e2;exact zfa oh ok rh rk (zeN e1 e2 (zbG oh) (zbG ok))
end Go.Proofs.YtbpmjppmpgeejaaDoor
namespace Go.Proofs.YtbpmjppmpgeejaaDoor
open Go Go.RowKit
open D2 (Gh)
set_option linter.unusedVariables false
theorem zfN (hd:Hdr)(p:Option Addr)(n c:Nat)(q:Option Addr)(m k:Nat)(hp:yB p n c)(hq:yB q m k)(hnum:uf hd)(kd:Hdr)(p2:Option Addr)(n2 c2:Nat)(q2:Option Addr)(m2 k2:Nat)(hp2:yB p2 n2 c2)(hqk2:yB q2 m2 k2)(hnum2:uf kd):FnP Tryd.prog 4 #[hdV hd p n c q m k,hdV kd p2 n2 c2 q2 m2 k2] (fun w=>yr w hd p n q m∧yr w kd p2 n2 q2 m2) (.bool true):=by
 refine FnP.intro (c:=zl Tryd.f4) [.tmp 4] 56 Tryd.func4 kr kr kr fun w hP=>?_;obtain ⟨hP,hPk⟩:=hP;have hm:=hP.2.1;have hmk:=hPk.2.1;have H0:=St.start w;refine rS [.b,.b,.v] H0 kr fun gs1 w1 H1=>?_;have H1':St w.heap.size w w1 [((gs1 0).b,hdO hd p n c q m k),((gs1 1).b,hdO kd p2 n2 c2 q2 m2 k2)]:=H1.as kr;refine zd kr<|D2.g_draw0 [0,1,2,3,4,5] [(some 9,fun _=>hdV hd p n c q m k),(some 10,fun y=>hdV (zP hd) (some ⟨y.b,0,none⟩) y.n y.cap q (hd.ss.take 20).length k),(some 11,fun _=>hdV kd p2 n2 c2 q2 m2 k2),(some 12,fun y=>hdV (zP kd) (some ⟨y.b,0,none⟩) y.n y.cap q2 (kd.ss.take 20).length k2),(none,fun _=>undef),(none,fun _=>undef)]
  (D2.chn [1,3,4,5] (fun j g ww=>match j with
   | 0=>St w.heap.size w ww [((gs1 0).b,hdO hd p n c q m k),((gs1 1).b,hdO kd p2 n2 c2 q2 m2 k2)]
   | 1=>Rw 1 (g 1).cur (g 1).cap (g 1).n (cellsF sS (zP hd).vs)∧St w.heap.size w ww [((g 1).b,.cells (g 1).cur 9 (0,0)),((gs1 0).b,hdO hd p n c q m k),((gs1 1).b,hdO kd p2 n2 c2 q2 m2 k2)]
   | 2=>(Rw 1 (g 1).cur (g 1).cap (g 1).n (cellsF sS (zP hd).vs)∧Rw 1 (g 3).cur (g 3).cap (g 3).n (cellsF sS (zP kd).vs))∧St w.heap.size w ww [((g 3).b,.cells (g 3).cur 9 (0,0)),((g 1).b,.cells (g 1).cur 9 (0,0)),((gs1 0).b,hdO hd p n c q m k),((gs1 1).b,hdO kd p2 n2 c2 q2 m2 k2)]
   | 3=>(Rw 1 (g 1).cur (g 1).cap (g 1).n (cellsF sS (zP hd).vs)∧Rw 1 (g 3).cur (g 3).cap (g 3).n (cellsF sS (zP kd).vs))∧St w.heap.size w ww [((g 3).b,.cells (g 3).cur 9 (0,0)),((g 1).b,.cells (g 1).cur 9 (0,0)),((gs1 0).b,hdO (zP hd) (some ⟨(g 1).b,0,none⟩) (g 1).n (g 1).cap q (hd.ss.take 20).length k),((gs1 1).b,hdO kd p2 n2 c2 q2 m2 k2)]
   | _=>(Rw 1 (g 1).cur (g 1).cap (g 1).n (cellsF sS (zP hd).vs)∧Rw 1 (g 3).cur (g 3).cap (g 3).n (cellsF sS (zP kd).vs))∧St w.heap.size w ww [((g 3).b,.cells (g 3).cur 9 (0,0)),((g 1).b,.cells (g 1).cur 9 (0,0)),((gs1 0).b,hdO (zP hd) (some ⟨(g 1).b,0,none⟩) (g 1).n (g 1).cap q (hd.ss.take 20).length k),((gs1 1).b,hdO (zP kd) (some ⟨(g 3).b,0,none⟩) (g 3).n (g 3).cap q2 (kd.ss.take 20).length k2)])) kr kr kr H1'.drew ⟨?_,?_,?_,?_,?_,?_,trivial⟩ ?_
 ·exact D2.gv_ld (fun _ _ _ h=>h) 26 (.tmp 2) (fun _=>(gs1 0).b) 0 (hdC hd p n c q m k) 26 (0,0) (fun g=>by kernel_rfl) (fun g=>by kernel_rfl) (fun L1 g ww hN hp=>D2.chn.getN hp 2 4 rfl (hN.post 4 kr) fun j hj h=>by
   match j,h with
   | 0,h=>exact St.get h 0 kr
   | 1,h=>exact St.get h.2 1 kr
   | 2,h=>exact St.get h.2 2 kr) kr kr
 ·refine D2.gv_chn 1 0 (fun L hN=>by
   have e1:=hN.1;have e3:=hN.post 3 kr;have e4:=hN.fwd e3 (show D2.edge _ 3 4=true by kernel_rfl);have e5:=hN.fwd e4 (show D2.edge _ 4 5=true by kernel_rfl)
   exact ⟨by (simp [D2.stg,e1,e3,e4,e5])<;>rfl,by (simp [D2.stg,D2.put1,e1,e3,e4,e5])<;>rfl⟩) fun g ww hq1=>?_
  refine D2.run_ft (zb8 hd p n c q m k hp hq) (hP.call (St.below hq1)) kr ?_;rintro _ _ w' ⟨b,m',k',cur,rfl,rfl,hrw⟩ hT;exact ⟨{ b:=b,n:=m',cap:=k',cur:=cur },rfl,hrw,(St.addAll hq1 hT).as kr⟩
 ·exact D2.gv_ld (fun _ _ _ h=>h) 26 (.tmp 3) (fun _=>(gs1 1).b) 0 (hdC kd p2 n2 c2 q2 m2 k2) 26 (0,0) (fun g=>by kernel_rfl) (fun g=>by kernel_rfl) (fun L1 g ww hN hp=>D2.chn.getN hp 3 5 rfl (hN.post 5 kr) fun j hj h=>by
   match j,h with
   | 0,h=>exact St.get h 1 kr
   | 1,h=>exact St.get h.2 2 kr
   | 2,h=>exact St.get h.2 3 kr
   | 3,h=>exact St.get h.2 3 kr) kr kr
 ·refine D2.gv_chn 3 1 (fun L hN=>by
   have e3:=hN.1;have e1:=hN.bef 1 kr;have e4:=hN.post 4 kr;have e5:=hN.fwd e4 (show D2.edge _ 4 5=true by kernel_rfl)
   exact ⟨by (simp [D2.stg,e1,e3,e4,e5])<;>rfl,by (simp [D2.stg,D2.put1,e1,e3,e4,e5])<;>rfl⟩) fun g ww hq1=>?_
  refine D2.run_ft (zb8 kd p2 n2 c2 q2 m2 k2 hp2 hqk2) (hPk.call (St.below hq1.2)) kr ?_;rintro _ _ w' ⟨b,m',k',cur,rfl,rfl,hrw⟩ hT;exact ⟨{ b:=b,n:=m',cap:=k',cur:=cur },rfl,⟨hq1.1,hrw⟩,(St.addAll hq1.2 hT).as kr⟩
 ·refine D2.gv_chn 4 2 (fun L hN=>by
   have e4:=hN.1;have e3:=hN.bef 3 kr;have e1:=hN.back e3 (show D2.edge _ 1 3=true by kernel_rfl);have e5:=hN.post 5 kr
   exact ⟨by (simp [D2.stg,e1,e3,e4,e5])<;>rfl,by (simp [D2.stg,D2.put1,e1,e3,e4,e5])<;>rfl⟩) fun g ww hq1=>?_
  exact D2.run_sto (t:=26) (x:=.tmp 2) (y:=.tmp 10) (b:=(gs1 0).b) (off:=0) (C:=hdC hd p n c q m k) (C':=hdC (zP hd) (some ⟨(g 1).b,0,none⟩) (g 1).n (g 1).cap q (hd.ss.take 20).length k) (T:=26) (v:=hdV (zP hd) (some ⟨(g 1).b,0,none⟩) (g 1).n (g 1).cap q (hd.ss.take 20).length k) kr kr kr kr kr (St.get hq1.2 2 kr) (Nat.le_of_ble_eq_true kr) kr ⟨g 4,rfl,hq1.1,St.store (C:=hdC hd p n c q m k) (T:=26) hq1.2 2 kr⟩
 ·refine D2.gv_chn 5 3 (fun L hN=>by
   have e5:=hN.1;have e4:=hN.bef 4 kr;have e3:=hN.back e4 (show D2.edge _ 3 4=true by kernel_rfl);have e1:=hN.back e3 (show D2.edge _ 1 3=true by kernel_rfl)
   exact ⟨by (simp [D2.stg,e1,e3,e4,e5])<;>rfl,by (simp [D2.stg,D2.put1,e1,e3,e4,e5])<;>rfl⟩) fun g ww hq1=>?_
  exact D2.run_sto (t:=26) (x:=.tmp 3) (y:=.tmp 12) (b:=(gs1 1).b) (off:=0) (C:=hdC kd p2 n2 c2 q2 m2 k2) (C':=hdC (zP kd) (some ⟨(g 3).b,0,none⟩) (g 3).n (g 3).cap q2 (kd.ss.take 20).length k2) (T:=26) (v:=hdV (zP kd) (some ⟨(g 3).b,0,none⟩) (g 3).n (g 3).cap q2 (kd.ss.take 20).length k2) kr kr kr kr kr (St.get hq1.2 3 kr) (Nat.le_of_ble_eq_true kr) kr ⟨g 5,rfl,hq1.1,St.store (C:=hdC kd p2 n2 c2 q2 m2 k2) (T:=26) hq1.2 3 kr⟩
 intro L1 g w3 hall hp9;obtain ⟨⟨hrw,hrw2⟩,H3⟩:=hp9.fin (fun k hk=>hall k (by simp at hk;rcases hk with rfl | rfl | rfl | rfl<;>exact Nat.le_of_ble_eq_true kr));refine wW<|ve [(2,.pointer (some ⟨(gs1 0).b,0,none⟩)),(3,.pointer (some ⟨(gs1 1).b,0,none⟩))] kr fun ρ1=>?_;generalize (g 1).b=b at*;generalize (g 1).n=n1 at*;generalize (g 1).cap=c1 at*;generalize (g 1).cur=cur at*;generalize (g 3).b=b2 at*;generalize (g 3).n=n12 at*;generalize (g 3).cap=c12 at*;generalize (g 3).cur=cur2 at*;have hqs:=hP.2.take (min m 20) (Nat.min_le_left _ _);rw [uh hm] at hqs;have hms:(hd.ss.take 20).length=min m 20:=by rw [List.length_take,←hm];omega
 rw [←hms] at hqs;have o:=zb6 hnum.1 hnum.2.1 hnum.2.2;change AtF sgF w q (hd.ss.take 20).length (zP hd).ss at hqs;generalize (hd.ss.take 20).length=ms at*;generalize zP hd=h at*;have hat: ∀ {ww:World},ww.heap[b]? =some (.cells cur 9 (0,0))→Below w.heap.size w ww→yr ww h (some ⟨b,0,none⟩) n1 q ms:=fun hh hb=>⟨zb5 (S:=sS) hrw hh,hqs.call hb⟩
 have hqt:=hPk.2.take (min m2 20) (Nat.min_le_left _ _);rw [uh hmk] at hqt;have hmt:(kd.ss.take 20).length=min m2 20:=by rw [List.length_take,←hmk];omega
 rw [←hmt] at hqt;have o2:=zb6 hnum2.1 hnum2.2.1 hnum2.2.2;change AtF sgF w q2 (kd.ss.take 20).length (zP kd).ss at hqt;generalize (kd.ss.take 20).length=ms2 at*;generalize zP kd=h2 at*;have hat2: ∀ {ww:World},ww.heap[b2]? =some (.cells cur2 9 (0,0))→Below w.heap.size w ww→yr ww h2 (some ⟨b2,0,none⟩) n12 q2 ms2:=fun hh hb=>⟨zb5 (S:=sS) hrw2 hh,hqt.call hb⟩
 clear H0 H1 H1';cases hr:yd h with
 | false=>
  cases hr2:yd h2 with
  | false=>
   refine rS [.l 2,.cp (kI h o.sm hr (some ⟨b,0,none⟩) n1 c1 q ms k) [(1,(b,Obj.cells cur 9 (0,0)))] (fun w hb hd=>hat hd.1 hb),.v,.v,.v,.v,.v] H3 kr fun gs4 w4 H4=>rS [.l 3,.cp (kI h2 o2.sm hr2 (some ⟨b2,0,none⟩) n12 c12 q2 ms2 k2) [(0,(b2,Obj.cells cur2 9 (0,0)))] (fun w hb hd=>hat2 hd.1 hb),.v,.v,.v,.v,.v] H4 kr fun gs5 w5 H5=>zd kr<|rS [.v,.v,.v,.n,.n,.v] H5 kr fun gs6 w6 H6=>zR<|rS [.c xq,.v,.v,.v,.v,.v,.E (.bool (em.toList==em.toList)) (.bool true) (za (jS em)),.v,.v,.v,.v,.v,.v,.v,.E (.bool (em.toList==em.toList)) (.bool true) (za (jS em)),.v,.v,.v] H6 kr fun gs7 w7 H7=>?_;exact rR [.tmp 4] [] (.bool true) H7 kr
  | true=>
   refine rS [.l 2,.cp (kI h o.sm hr (some ⟨b,0,none⟩) n1 c1 q ms k) [(1,(b,Obj.cells cur 9 (0,0)))] (fun w hb hd=>hat hd.1 hb),.v,.v,.v,.v,.v] H3 kr fun gs4 w4 H4=>rS [.l 3,.cp (xo h2 o2 hr2 (some ⟨b2,0,none⟩) n12 c12 q2 ms2 k2) [(0,(b2,Obj.cells cur2 9 (0,0)))] (fun w hb hd=>hat2 hd.1 hb),.v,.v,.v,.v,.v] H4 kr fun gs5 w5 H5=>zd kr<|rS [.v,.v,.v,.n,.n,.v] H5 kr fun gs6 w6 H6=>zR<|rS [.c xq,.v,.v,.v,.v,.v,.E (.bool (em.toList==em.toList)) (.bool true) (za (jS em)),.v,.v,.v,.v,.v,.v,.n,.n,.v,.v,.v] H6 kr fun gs7 w7 H7=>?_;exact rR [.tmp 4] [] (.bool true) H7 kr
 | true=>
  cases hr2:yd h2 with
  | false=>
   refine rS [.l 2,.cp (xo h o hr (some ⟨b,0,none⟩) n1 c1 q ms k) [(1,(b,Obj.cells cur 9 (0,0)))] (fun w hb hd=>hat hd.1 hb),.v,.v,.v,.v,.v] H3 kr fun gs4 w4 H4=>rS [.l 3,.cp (kI h2 o2.sm hr2 (some ⟨b2,0,none⟩) n12 c12 q2 ms2 k2) [(0,(b2,Obj.cells cur2 9 (0,0)))] (fun w hb hd=>hat2 hd.1 hb),.v,.v,.v,.v,.v] H4 kr fun gs5 w5 H5=>zd kr<|rS [.v,.v,.v,.v,.v,.v] H5 kr fun gs6 w6 H6=>zR<|rS [.c xq,.v,.v,.v,.v,.n,.n,.v,.v,.v,.v,.v,.v,.v,.E (.bool (em.toList==em.toList)) (.bool true) (za (jS em)),.v,.v,.v] H6 kr fun gs7 w7 H7=>?_;exact rR [.tmp 4] [] (.bool true) H7 kr
  | true=>
   refine rS [.l 2,.cp (xo h o hr (some ⟨b,0,none⟩) n1 c1 q ms k) [(1,(b,Obj.cells cur 9 (0,0)))] (fun w hb hd=>hat hd.1 hb),.v,.v,.v,.v,.v] H3 kr fun gs4 w4 H4=>rS [.l 3,.cp (xo h2 o2 hr2 (some ⟨b2,0,none⟩) n12 c12 q2 ms2 k2) [(0,(b2,Obj.cells cur2 9 (0,0)))] (fun w hb hd=>hat2 hd.1 hb),.v,.v,.v,.v,.v] H4 kr fun gs5 w5 H5=>zd kr<|rS [.v,.v,.v,.v,.v,.v] H5 kr fun gs6 w6 H6=>qg<|wW ?_;by_cases hrec:yU h=yU h2
   ·have hlk:=zb9 h h2 o o2 (some ⟨b,0,none⟩) n1 c1 q ms k (some ⟨b2,0,none⟩) n12 c12 q2 ms2 k2 true (by simp [zfM o o2 hr hr2 (Prod.ext rfl (vZ hr)) (Prod.ext hrec.symm (vZ hr2))]);refine rS [.c xq,.v,.v,.v,.E (.bool ((yU h).toList==(yU h2).toList)) (.bool true) (za (zy _ _ hrec)),.l 2,.l 3,.cp hlk [(0,(b2,Obj.cells cur2 9 (0,0))),(1,(b,Obj.cells cur 9 (0,0)))] (fun w hb hd=>⟨hat hd.2.1 hb,hat2 hd.1 hb⟩),.v,.v,.v] H6 kr fun gs7 w7 H7=>?_;exact rR [.tmp 4] [] (.bool true) H7 kr
   ·have hlk:=zb9 h h2 o o2 (some ⟨b,0,none⟩) n1 c1 q ms k (some ⟨b2,0,none⟩) n12 c12 q2 ms2 k2 false (by simp;exact fun e=>hrec (by rw [e]));refine rS [.c xq,.v,.v,.v,.E (.bool ((yU h).toList==(yU h2).toList)) (.bool false) (za (yP _ _ hrec)),.l 2,.l 3,.cp hlk [(0,(b2,Obj.cells cur2 9 (0,0))),(1,(b,Obj.cells cur 9 (0,0)))] (fun w hb hd=>⟨hat hd.2.1 hb,hat2 hd.1 hb⟩),.v,.v,.v] H6 kr fun gs7 w7 H7=>?_;exact rR [.tmp 4] [] (.bool true) H7 kr
end Go.Proofs.YtbpmjppmpgeejaaDoor
