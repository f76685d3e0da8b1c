/-
  Texts of the proof,part 5.
-/
import Derived.Test.YthonokeibcodpaaGreatDoorProg
import Derived.ChangeKeysEq
import Derived.Laws.StructEq
import Derived.Laws.Externs
import Derived.Test.YthonokeibcodpaaGreatDoorRows
import Derived.Lib.LaidTab
import Derived.MakeChecks
import Derived.LaidLaws
import Derived.LaidHandle
import Derived.ProofKit
import Derived.WalkKit
import Derived.Test.YthonokeibcodpaaGreatDoorBB1
import Derived.Test.YthonokeibcodpaaGreatDoorBB2
import Derived.Test.YthonokeibcodpaaGreatDoorBB3
import Derived.Test.YthonokeibcodpaaGreatDoorBB4
set_option maxRecDepth 100000
set_option maxHeartbeats 4000000
namespace Go.Proofs.YthonokeibcodpaaGreatDoor
open Go Go.RowKit
set_option linter.unusedVariables false
theorem ze1: ∀x y:List UInt8,Op.bytesLess x y=lexB x y
 | [],[]=>rfl
 | [],_::_=>rfl
 | _::_,[]=>rfl
 | a::x,b::y=>by
  unfold Op.bytesLess lexB;rw [ze1 x y];by_cases h:a.toNat<b.toNat
  ·rw [if_pos h,decide_eq_true (show a<b from h)];rfl
  ·rw [if_neg h,decide_eq_false (show ¬a<b from h)];by_cases e:a=b
   ·rw [if_pos e,e];simp
   ·rw [if_neg e];simp [e]
theorem ze2 (a b:ByteArray):Op.bytesLess a.toList b.toList=lexB (tl a) (tl b):=by
 rw [ByteArray.toList_eq,ByteArray.toList_eq];exact ze1 _ _
def zlT (A:List Nd)(root:Int):List Pr:=(ze0 A 192 root [] (192,[])).2
structure OkP (L:List Pr):Prop where
 len:L.length≤64
 may: ∀x∈L,mayM x.1 x.2=true
 rise:L.Pairwise fun a b=>lexB (tl a.1) (tl b.1)=true
theorem qp {α:Type}{L:List α}{i:Nat}{a:α}(ha:L[i]? =some a):L.take (i+1)=L.take i++ [a]:=by
 rw [List.take_add_one,ha];rfl
def upB:Option ByteArray→ByteArray→Bool
 | none,_=>true
 | some p,a=>lexB (tl p) (tl a)
theorem zbW {α:Type}{L:List α}{i:Nat}{x:α}(h:L[i]? =some x):L.drop i=x::L.drop (i+1):=by
 obtain ⟨hi,rfl⟩:=List.getElem?_eq_some_iff.1 h;exact (List.getElem_cons_drop (h:=hi)).symm
abbrev Fel:=El (Nat×ByteArray)
abbrev Sg:=Nat×Nat×Int
def sgF:Fl Sg where
 K:=9
 cs x:=[.int .u64 (w0 x.1),.int .u64 (w1 x.1),.int .u64 (w2 x.1),.int .u64 (w3 x.1),.int .u64 (w0 x.2.1),.int .u64 (w1 x.2.1),.int .u64 (w2 x.2.1),.int .u64 (w3 x.2.1),.int .i64 x.2.2]
 pos:=by decide
 len _:=rfl
 one a:=fun u hu=>by simp at hu;rcases hu with h | h | h | h | h | h | h | h | h<;>rw [h]<;>rfl
abbrev sgB (x:Sg):ByteArray:=sbs x.1 x.2.1 x.2.2
def sgOk (x:Sg):Prop:=x.1<big∧x.2.1<big
abbrev sgMay (x:Sg):Bool:=zQ x.1 x.2.1 x.2.2
structure Hdr where
 pa:ByteArray
 hh:Nat
 ro:ByteArray
 tx:ByteArray
 pr:ByteArray
 va:ByteArray
 vs:List ByteArray
 vo:ByteArray
 ad:Bool
 rd:Nat
 ss:List Sg
theorem zbX {h k:Hdr}(e1:h.pa=k.pa)(e2:h.hh=k.hh)(e3:h.ro=k.ro)(e4:h.tx=k.tx)(e5:h.pr=k.pr)(e6:h.va=k.va)(e7:h.vs=k.vs)(e8:h.vo=k.vo)(e9:h.ad=k.ad)(e10:h.rd=k.rd)(e11:h.ss=k.ss):h=k:=by
 cases h;cases k;simp only at*;subst e1 e2 e3 e4 e5 e6 e7 e8 e9 e10 e11;rfl
structure zZ (h:Hdr):Prop where
 hh:h.hh<0x10000000000000000
 rd:h.rd<0x10000000000000000
 pa:h.pa.size≤1000000
 ro:h.ro.size≤1000000
 tx:h.tx.size≤1000000
 pr:h.pr.size≤1000000
 va:h.va.size≤1000000
 vo:h.vo.size≤1000000
 vs: ∀x∈h.vs,ByteArray.size x≤1000000
 vl:h.vs.length≤1000
 ss: ∀x∈h.ss,sgOk x
 sl:h.ss.length≤1000
def xD:Option ByteArray→List ByteArray→Bool
 | _,[]=>true
 | p,a::r=>decide (a.size=20)&&(upB p a&&xD (some a) r)
def setM (L:List ByteArray):Bool:=xD none L&&(decide (0<L.length)&&decide (L.length≤16))
def voteB (vo:ByteArray)(ad:Bool):Bool:=if vo.size=0 then !ad else decide (vo.size=20)
def rightH (h:Hdr):Bool:=
 (decide (h.pa.size=32)&&(decide (h.ro.size=32)&&(decide (h.tx.size=32)&&(decide (h.pr.size=20)&&(decide (h.va.size≤8)&&setM h.vs)))))&&((voteB h.vo h.ad&&decide (h.ss.length≤16))&&h.ss.all sgMay)
def lsF:List ByteArray→Fe
 | []=>.nil
 | a::r=>.cons (0,a) .nil (lsF r)
theorem vJ: ∀L,(lsF L).len=L.length
 | []=>rfl
 | a::r=>by simp only [lsF,Fr.len,List.length_cons,vJ r]
theorem zbY: ∀L,(lsF L).cnt=L.length
 | []=>rfl
 | a::r=>by simp only [lsF,Fr.cnt,List.length_cons,zbY r];omega
theorem zbZ: ∀ {L M:List ByteArray},lsF L=lsF M→L=M
 | [],[],_=>rfl
 | a::r,b::t,h=>by
  unfold lsF at h;injection h with h1 _ h2;injection h1 with _ h1
  rw [h1,zbZ h2]
 | [],b::t,h=>by unfold lsF at h;cases h
 | a::r,[],h=>by unfold lsF at h;cases h
theorem zb0: ∀ {L:List ByteArray},(∀x∈L,ByteArray.size x≤0x800000000000)→(lsF L).all fS.ok
 | [],_=>trivial
 | a::r,h=>⟨⟨(by decide:0<0x10000000000000000),h a (List.mem_cons_self ..)⟩,trivial,zb0 fun x hx=>h x (List.mem_cons_of_mem _ hx)⟩
def hdL (pa:ByteArray)(hh:Nat)(ro tx pr va:ByteArray)(L:List ByteArray)(vo:ByteArray)(a rd:Nat)(M:List ByteArray):Fe:=
 .cons (0,pa) .nil (.cons (hh,em) .nil (.cons (0,ro) .nil (.cons (0,tx) .nil (.cons (0,pr) .nil (.cons (0,va) .nil (.cons (0,em) (lsF L) (.cons (0,vo) .nil (.cons (a,em) .nil (.cons (rd,em) .nil (.cons (0,em) (lsF M) .nil))))))))))
def adN (b:Bool):Nat:=if b then 1 else 0
def hdF (h:Hdr):Fe:=hdL h.pa h.hh h.ro h.tx h.pr h.va h.vs h.vo (adN h.ad) h.rd (h.ss.map sgB)
abbrev qa:ByteArray:=⟨#[104,110,104,104,97,98,42,97,98,110,110,42,115]⟩
def hK:List ByteArray:=[⟨#[104]⟩,⟨#[110]⟩,⟨#[104]⟩,⟨#[104]⟩,⟨#[97]⟩,⟨#[98]⟩,⟨#[42,97]⟩,⟨#[98]⟩,⟨#[110]⟩,⟨#[110]⟩,⟨#[42,115]⟩]
theorem jZ:zbF qa hK:=⟨by decide,by kernel_rfl,by kernel_rfl,by kernel_rfl,List.all_eq_true.1 (show hK.all kdOk=true by kernel_rfl)⟩
def yg (h:Hdr):ByteArray:=(wrV qa (hdF h)).1
theorem ze3 {pa pa':ByteArray}{hh hh':Nat}{ro ro' tx tx' pr pr' va va':ByteArray}{L L':List ByteArray}{vo vo':ByteArray}{a a' rd rd':Nat}{M M':List ByteArray}(h:hdL pa hh ro tx pr va L vo a rd M=hdL pa' hh' ro' tx' pr' va' L' vo' a' rd' M'):
 pa=pa'∧hh=hh'∧ro=ro'∧tx=tx'∧pr=pr'∧va=va'∧L=L'∧vo=vo'∧a=a'∧rd=rd'∧M=M':=by
 unfold hdL at h;injection h with e1 _ h;injection h with e2 _ h;injection h with e3 _ h;injection h with e4 _ h;injection h with e5 _ h;injection h with e6 _ h;injection h with _ e7 h;injection h with e8 _ h;injection h with e9 _ h;injection h with e10 _ h;injection h with _ e11 _
 injection e1 with _ e1;injection e2 with e2 _;injection e3 with _ e3;injection e4 with _ e4;injection e5 with _ e5;injection e6 with _ e6;injection e8 with _ e8;injection e9 with e9 _;injection e10 with e10 _
 exact ⟨e1,e2,e3,e4,e5,e6,zbZ e7,e8,e9,e10,zbZ e11⟩
theorem zku {a b:Bool}(h:adN a=adN b):a=b:=by cases a<;>cases b<;>first | rfl | cases h
theorem ze4 {x y:Sg}(hx:sgOk x)(hy:sgOk y)(mx:sgMay x=true)(my:sgMay y=true)(h:sgB x=sgB y):x=y:=by
 obtain ⟨r,s,v⟩:=x;obtain ⟨r',s',v'⟩:=y;have e1:=congrArg sgR h;have e2:=congrArg sgS h;have e3:=congrArg sgV h;rw [zaq hx.1,zaq hy.1] at e1;rw [zar hx.2,zar hy.2] at e2;rw [zas mx,zas my] at e3;exact Prod.ext e1 (Prod.ext e2 e3)
theorem ze5: ∀ {L M:List Sg},(∀x∈L,sgOk x)→(∀x∈M,sgOk x)→L.all sgMay=true→M.all sgMay=true→L.map sgB=M.map sgB→L=M
 | [],[],_,_,_,_,_=>rfl
 | x::r,y::t,hL,hM,aL,aM,h=>by
  simp only [List.all_cons,Bool.and_eq_true] at aL aM;simp only [List.map_cons,List.cons.injEq] at h;rw [ze4 (hL x (List.mem_cons_self ..)) (hM y (List.mem_cons_self ..)) aL.1 aM.1 h.1,ze5 (fun z hz=>hL z (List.mem_cons_of_mem _ hz)) (fun z hz=>hM z (List.mem_cons_of_mem _ hz)) aL.2 aM.2 h.2]
 | [],y::t,_,_,_,_,h=>by simp at h
 | x::r,[],_,_,_,_,h=>by simp at h
structure RtH (h:Hdr):Prop where
 pa:h.pa.size=32
 ro:h.ro.size=32
 tx:h.tx.size=32
 pr:h.pr.size=20
 va:h.va.size≤8
 st:setM h.vs=true
 vo:voteB h.vo h.ad=true
 sl:h.ss.length≤16
 ss:h.ss.all sgMay=true
theorem xE {h:Hdr} :rightH h=true↔RtH h:=by
 unfold rightH;simp only [Bool.and_eq_true,decide_eq_true_eq];exact ⟨fun ⟨⟨h1,h2,h3,h4,h5,h6⟩,⟨h7,h8⟩,h9⟩=>⟨h1,h2,h3,h4,h5,h6,h7,h8,h9⟩,fun ⟨h1,h2,h3,h4,h5,h6,h7,h8,h9⟩=>⟨⟨h1,h2,h3,h4,h5,h6⟩,⟨h7,h8⟩,h9⟩⟩
theorem zkv {h k:Hdr}(oh:zZ h)(ok:zZ k)(rh:rightH h=true)(rk:rightH k=true)(e:hdF h=hdF k):h=k:=by
 have r1:=xE.1 rh;have r2:=xE.1 rk;obtain ⟨e1,e2,e3,e4,e5,e6,e7,e8,e9,e10,e11⟩:=ze3 e;have e9:=zku e9;have e11:=ze5 oh.ss ok.ss r1.ss r2.ss e11;exact zbX e1 e2 e3 e4 e5 e6 e7 e8 e9 e10 e11
theorem ze6 {p:Option ByteArray} : ∀ {L:List ByteArray},xD p L=true→ ∀x∈L,ByteArray.size x=20:=by
 intro L
 induction L generalizing p with
 | nil=>intro _ x hx;exact nomatch hx
 | cons a r ih=>
  intro h x hx;simp only [xD,Bool.and_eq_true,decide_eq_true_eq] at h;rcases List.mem_cons.1 hx with rfl | hx
  ·exact h.1
  ·exact ih h.2.2 x hx
theorem zav {h:Hdr}(o:zZ h):(hdF h).all fS.ok:=by
 have z:(0:Nat)<0x10000000000000000:=by decide
 have ze:em.size≤0x800000000000:=Nat.zero_le _;have ha:adN h.ad<0x10000000000000000:=by unfold adN;split<;>decide
 have h1:=o.pa;have h2:=o.ro;have h3:=o.tx;have h4:=o.pr;have h5:=o.va;have h6:=o.vo
 exact ⟨⟨z,by show h.pa.size≤_;omega⟩,trivial,⟨o.hh,ze⟩,trivial,⟨z,by show h.ro.size≤_;omega⟩,trivial,⟨z,by show h.tx.size≤_;omega⟩,trivial,⟨z,by show h.pr.size≤_;omega⟩,trivial,⟨z,by show h.va.size≤_;omega⟩,trivial,⟨z,ze⟩,zb0 fun x hx=>by have:=o.vs x hx;omega,
  ⟨z,by show h.vo.size≤_;omega⟩,trivial,⟨ha,ze⟩,trivial,⟨o.rd,ze⟩,trivial,⟨z,ze⟩,zb0 fun x hx=>by obtain ⟨y,_,rfl⟩:=List.mem_map.1 hx;rw [jA];omega,trivial⟩
theorem ze7 (m sz ln:Nat):zB 104 0 m sz ln=(decide (m=0)&&(decide (sz=32)&&decide (ln=0))):=by
 unfold zB yE zW yc;rw [Bool.eq_iff_iff];simp<;>omega
theorem ze8 (m sz ln:Nat):zB 42 1 m sz ln=(decide (m=0)&&(decide (sz=0)&&decide (ln≤40))):=by
 unfold zB yE zW yc;rw [Bool.eq_iff_iff];simp<;>omega
theorem ze9 (c:Nat)(q:ByteArray)(x:Nat×ByteArray)(l:Fe)(h0:by_ q 0=42)(h1:by_ q 1=c):jb q x l=(zB 42 1 x.1 x.2.size l.len&&jq c l):=by
 have e:kdB q=.cons c .nil .nil:=by unfold kdB;rw [if_pos h0,h1]
 unfold jb;rw [e,h0,h1];rfl
theorem kH {c z:Nat}(hf: ∀m sz ln,zB c 0 m sz ln=(decide (m=0)&&(decide (sz=z)&&decide (ln=0)))): ∀ {l:Fe},jq c l=true↔ ∃L:List ByteArray,l=lsF L∧ ∀x∈L,ByteArray.size x=z
 | .nil=>⟨fun _=>⟨[],rfl,fun _ h=>nomatch h⟩,fun _=>rfl⟩
 | .cons x l r=>by
  simp only [jq,hf,Bool.and_eq_true,decide_eq_true_eq];constructor
  ·rintro ⟨⟨h1,h2,h3⟩,h4⟩;obtain ⟨L,rfl,hL⟩:=(kH hf).1 h4;obtain rfl:=Fr.len_zero h3;obtain ⟨m,s⟩:=x;simp only at h1 h2;subst h1;exact ⟨s::L,rfl,fun y hy=>by rcases List.mem_cons.1 hy with rfl | hy;exact h2;exact hL y hy⟩
  ·rintro ⟨L,h1,h2⟩;cases L with
   | nil=>unfold lsF at h1;cases h1
   | cons a t=>
    unfold lsF at h1;injection h1 with e1 e2 e3
    subst e1 e2 e3;exact ⟨⟨rfl,h2 a (List.mem_cons_self ..),rfl⟩,(kH hf).2 ⟨t,rfl,fun y hy=>h2 y (List.mem_cons_of_mem _ hy)⟩⟩
theorem zfa (l:Fe):yy hK l=true↔ ∃(pa:ByteArray) (hh:Nat) (ro tx pr va:ByteArray) (L:List ByteArray) (vo:ByteArray) (a rd:Nat) (M:List ByteArray),l=hdL pa hh ro tx pr va L vo a rd M∧
 pa.size=32∧ro.size=32∧tx.size=32∧pr.size=20∧va.size≤64∧(∀x∈L,ByteArray.size x=20)∧L.length≤40∧vo.size≤64∧(∀x∈M,ByteArray.size x=65)∧M.length≤40:=by
 have s1:=fun x l=>jr 104 ⟨#[104]⟩ x l rfl (by decide);have s2:=fun x l=>jr 110 ⟨#[110]⟩ x l rfl (by decide);have s3:=fun x l=>jr 97 ⟨#[97]⟩ x l rfl (by decide);have s4:=fun x l=>jr 98 ⟨#[98]⟩ x l rfl (by decide);have s5:=fun x l=>ze9 97 ⟨#[42,97]⟩ x l rfl rfl;have s6:=fun x l=>ze9 115 ⟨#[42,115]⟩ x l rfl rfl;constructor
 ·intro h;have hl:=zbE h;unfold hK at h
  match l,h,hl with
  | .cons x1 l1 (.cons x2 l2 (.cons x3 l3 (.cons x4 l4 (.cons x5 l5 (.cons x6 l6 (.cons x7 l7 (.cons x8 l8 (.cons x9 l9 (.cons x10 l10 (.cons x11 l11 .nil)))))))))),h,_=>
   simp only [yy,s1,s2,s3,s4,s5,s6,kE,zau,zeY,ze7,ze8,Bool.and_eq_true,decide_eq_true_eq] at h;obtain ⟨⟨a1,a2,a3⟩,⟨b1,b2⟩,⟨c1,c2,c3⟩,⟨d1,d2,d3⟩,⟨e1,e2,e3⟩,⟨f1,f2,f3⟩,⟨⟨g1,g2,g3⟩,g4⟩,⟨h1,h2,h3⟩,⟨i1,i2⟩,⟨j1,j2⟩,⟨⟨k1,k2,k3⟩,k4⟩,_⟩:=h;obtain ⟨L,rfl,hL⟩:=(kH kE).1 g4;obtain ⟨M,rfl,hM⟩:=(kH zat).1 k4;rw [vJ] at g3 k3;obtain ⟨m1,t1⟩:=x1;obtain ⟨m2,t2⟩:=x2;obtain ⟨m3,t3⟩:=x3;obtain ⟨m4,t4⟩:=x4;obtain ⟨m5,t5⟩:=x5;obtain ⟨m6,t6⟩:=x6;obtain ⟨m7,t7⟩:=x7;obtain ⟨m8,t8⟩:=x8;obtain ⟨m9,t9⟩:=x9;obtain ⟨m10,t10⟩:=x10;obtain ⟨m11,t11⟩:=x11;obtain rfl:=Fr.len_zero a3;obtain rfl:=Fr.len_zero b2;obtain rfl:=Fr.len_zero c3;obtain rfl:=Fr.len_zero d3;obtain rfl:=Fr.len_zero e3;obtain rfl:=Fr.len_zero f3;obtain rfl:=Fr.len_zero h3;obtain rfl:=Fr.len_zero i2;obtain rfl:=Fr.len_zero j2;obtain rfl:=jz b1;obtain rfl:=jz i1;obtain rfl:=jz j1;obtain rfl:=jz g2;obtain rfl:=jz k2;simp only at a1 c1 d1 e1 f1 g1 h1 k1;subst a1 c1 d1 e1 f1 g1 h1 k1;exact ⟨t1,m2,t3,t4,t5,t6,L,t8,m9,m10,M,rfl,a2,c2,d2,e2,f2,hL,g3,h2,hM,k3⟩
 ·rintro ⟨pa,hh,ro,tx,pr,va,L,vo,a,rd,M,rfl,h1,h2,h3,h4,h5,h6,h7,h8,h9,h10⟩;unfold hK hdL;simp only [yy,s1,s2,s3,s4,s5,s6,kE,zau,zeY,ze7,ze8,(kH kE).2 ⟨L,rfl,h6⟩,(kH zat).2 ⟨M,rfl,h9⟩,vJ,h1,h2,h3,h4,h5,h7,h8,h10,Fr.len];rfl
def lsI:List ByteArray→Fo
 | []=>.nil
 | a::r=>.cons false a .nil (lsI r)
theorem zb1 {c:Nat}(h1:c≠110)(h2:zY c=false): ∀(L:List ByteArray) (i:Nat),qn (lsF L) 42 (.cons c .nil .nil) i=lsI L
 | [],_=>rfl
 | a::r,i=>by
  unfold lsF lsI;rw [uU,zbD,zb1 h1 h2 r];unfold yx zT;rw [if_neg h1,h2];rfl
theorem zfb: ∀L,(lsI L).len=L.length
 | []=>rfl
 | a::r=>by simp only [lsI,Fo.len,List.length_cons,zfb r]
theorem zb2: ∀L,(lsI L).cnt=L.length
 | []=>rfl
 | a::r=>by simp only [lsI,Fo.cnt,List.length_cons,zb2 r];omega
theorem zaw: ∀L,pureF (lsI L)=true
 | []=>rfl
 | a::r=>by
  show ((!mixed false a 0&&true)&&pureF (lsI r))=true;rw [zaw r];rfl
theorem zb3: ∀L,dpF (lsI L)=0
 | []=>rfl
 | a::r=>by
  show max 0 (dpF (lsI r))=0;rw [zb3 r];rfl
theorem zax {z:Nat} : ∀ {L:List ByteArray},(∀x∈L,ByteArray.size x≤z)→wtF (lsI L)≤L.length*(9+z)
 | [],_=>Nat.zero_le _
 | a::r,h=>by
  have h1:=h a (List.mem_cons_self ..);have h2:=zax (L:=r) fun x hx=>h x (List.mem_cons_of_mem _ hx);simp only [lsI,wtF,List.length_cons,Nat.succ_mul];omega
def hdI (h:Hdr):Fo:=
 .cons false h.pa .nil (.cons false (zh (dg h.hh)) .nil (.cons false h.ro .nil (.cons false h.tx .nil (.cons false h.pr .nil (.cons false h.va .nil (.cons true emB (lsI h.vs) (.cons false h.vo .nil (.cons false (zh (dg (adN h.ad))) .nil (.cons false (zh (dg h.rd)) .nil (.cons true emB (lsI (h.ss.map sgB)) .nil))))))))))
theorem zfc (h:Hdr):qn (hdF h) 40 (kfL hK) 0=hdI h:=by
 unfold hdF hdL hdI;rw [qv _ _ _ 0 (by decide),qv _ _ _ 1 (by decide),qv _ _ _ 2 (by decide),qv _ _ _ 3 (by decide),qv _ _ _ 4 (by decide),qv _ _ _ 5 (by decide),qv _ _ _ 6 (by decide),qv _ _ _ 7 (by decide),qv _ _ _ 8 (by decide),qv _ _ _ 9 (by decide),qv _ _ _ 10 (by decide)];have e1:zT 42 (.cons 97 .nil .nil) (lsF h.vs)=lsI h.vs:=by
  unfold zT;rw [if_pos (show zY 42=true from rfl)];exact zb1 (by decide) rfl _ _
 have e2:zT 42 (.cons 115 .nil .nil) (lsF (h.ss.map sgB))=lsI (h.ss.map sgB):=by
  unfold zT;rw [if_pos (show zY 42=true from rfl)];exact zb1 (by decide) rfl _ _
 rw [←e1,←e2];rfl
theorem zfd {vo:ByteArray}{ad:Bool}(h:voteB vo ad=true):vo.size≤20:=by
 unfold voteB at h;split at h
 ·omega
 ·have:=of_decide_eq_true h;omega
theorem zfe {h:Hdr}(r:rightH h=true):yy hK (hdF h)=true:=by
 have q:=xE.1 r;have hs:=q.st;unfold setM at hs;simp only [Bool.and_eq_true,decide_eq_true_eq] at hs;have h1:=q.va;have h2:=zfd q.vo;have h3:=q.sl;exact (zfa _).2 ⟨_,_,_,_,_,_,_,_,_,_,_,rfl,q.pa,q.ro,q.tx,q.pr,by omega,ze6 hs.1,by omega,by omega,fun x hx=>by obtain ⟨y,_,rfl⟩:=List.mem_map.1 hx;exact jA _ _ _,by rw [List.length_map];omega⟩
theorem zff {h:Hdr}(r:rightH h=true):wtF (hdI h)≤2500:=by
 have q:=xE.1 r;have hs:=q.st;unfold setM at hs;simp only [Bool.and_eq_true,decide_eq_true_eq] at hs;have w1:=zax (L:=h.vs) (z:=20) fun x hx=>Nat.le_of_eq (ze6 hs.1 x hx);have w2:=zax (L:=h.ss.map sgB) (z:=65) fun x hx=>by obtain ⟨y,_,rfl⟩:=List.mem_map.1 hx;exact Nat.le_of_eq (jA _ _ _)
 rw [List.length_map] at w2;have a1:=q.pa;have a2:=q.ro;have a3:=q.tx;have a4:=q.pr;have a5:=q.va;have a6:=zfd q.vo;have a7:=q.sl;have d1:=qm h.hh;have d2:=qm (adN h.ad);have d3:=qm h.rd;have ez:emB.size=0:=rfl;simp only [hdI,wtF,qd];omega
theorem xF {h:Hdr}(r:rightH h=true):(wrV qa (hdF h)).2=0:=by
 have q:=xE.1 r;have hs:=q.st;unfold setM at hs;simp only [Bool.and_eq_true,decide_eq_true_eq] at hs;have a7:=q.sl;have hc:(hdF h).cnt≤1000:=by
  simp only [hdF,hdL,Fr.cnt,zbY,List.length_map];omega
 have hw:=zff r;have hci:(hdI h).cnt≤3999:=by
  simp only [hdI,Fo.cnt,zb2,List.length_map];omega
 have hp:pureF (hdI h)=true:=by
  have p1:=zaw h.vs;have p2:=zaw (h.ss.map sgB);simp only [hdI,pureF,p1,p2,mixed];rfl
 have hd:dpF (hdI h)=1:=by
  simp only [hdI,dpF,zb3,dp1];rfl
 have h1:=xp (hdI h);have h2:=vw true emB (szF (hdI h));have ez:emB.size=0:=rfl;have hl:lf1 true emB (hdI h).len (lfF (hdI h)) 4000=some (3999-(hdI h).cnt):=by
  unfold lf1;rw [if_neg (by simp [mixed];rfl),xQ,if_pos ⟨hp,hci⟩]
 rw [zaf jZ,if_pos ⟨zfe r,hc⟩,zfc];unfold zG;rw [hl];simp only [];rw [if_neg (by rw [hd];decide),if_neg (by omega)]
theorem isK {l:List (Nat×Value)}{ρ:Env}(h:l.map (fun p=>ρ p.1)=l.map (·.2):=by kernel_rfl):Is l ρ:=by
 refine Is.of ?_
 induction l with
 | nil=>trivial
 | cons p r ih=>
  simp only [List.map_cons,List.cons.injEq] at h;exact ⟨h.1,ih h.2⟩
section
variable {P:Program}{N:Nat}{c:Code}{Q:Exit→Env→World→Prop}{ρ:Env}{w:World}
theorem yk (k:Q .normal ρ w)(h:(xj c&&kM (xi c))=true:=by kernel_rfl)(hx:ev ρ (ji c)=.bool false:=by kernel_rfl):WP P N c Q ρ w:=by
 rw [Bool.and_eq_true] at h;exact zl h.1 hx (zn h.2 k)
theorem zU (k:WP P N (xh c) Q ρ w)(h:xj c=true:=by kernel_rfl)(hx:ev ρ (ji c)=.bool true:=by kernel_rfl):WP P N c Q ρ w:=zj h hx k
def zb4 (c:Code):Code:=qf (qf c)
def zay (c:Code):Code:=zy (zb4 c)
def jf (c:Code):Code:=zx (zb4 c)
def zb5 (c:Code):Code:=qf (zy (zx (jf c)))
def vK (c:Code):Code:=zx (zx (jf c))
def vL (n:Nat):Code→Bool
 | .region _ ops d=>Nat.beq ops.size n&& !d
 | _=>false
theorem zfg {n:Nat}{c:Code}(h:vL n c=true):∃id,c=.region id (zi c) false∧List.range (zi c).size=List.range n:=by
 cases c with
 | region id ops d=>
  cases d with
  | true=>simp [vL] at h
  | false=>
   simp only [vL,Bool.not_false,Bool.and_true] at h;exact ⟨id,rfl,congrArg List.range (Nat.eq_of_beq_eq_true h)⟩
 | _=>cases h
def zaz (a:Option Nat)(b:Nat):Bool:=match a with
 | some x=>Nat.beq x b
 | none=>false
theorem zb6 {a:Option Nat}{b:Nat}(h:zaz a b=true):a=some b:=by
 cases a with
 | none=>cases h
 | some x=>exact congrArg some (Nat.eq_of_beq_eq_true h)
def zb7 (nt ni b0 b1 tc:Nat)(c:Code):Bool:=
 zaz (vS c) b0&&(vT (qf c)&&(yV (zb4 c)&&(vL nt (zay c)&&(yV (jf c)&&(xj (zy (jf c))&&(kM (xh (zy (jf c)))&&(zaz (zaJ (xi (zy (jf c)))) b0&&(yV (zx (jf c))&&(zaz (vS (zy (zx (jf c)))) b1&&vL ni (vK c))))))))))
abbrev zfh (ti b0 b1:Nat)(inc:Env→Env)(I:Nat→Env→World→Prop)(Q:Exit→Env→World→Prop)(i:Nat):Exit→Env→World→Prop
 | .normal,ρ,w=>ρ ti=iN i∧I (i+1) (inc ρ) w
 | .exit k,ρ,w=>bif Nat.beq k b1 then ρ ti=iN i∧I (i+1) (inc ρ) w else bif Nat.beq k b0 then Q .normal ρ w else Q (.exit k) ρ w
 | e,ρ,w=>Q e ρ w
theorem zkw {ti b0 b1 tc nt ni n:Nat}{tst:Nat→Env→Env}{inc:Nat→Env→Env}(I:Nat→Env→World→Prop)
 (hs:zb7 nt ni b0 b1 tc c=true) (hx:ji (zy (jf c))=.tmp tc)
 (hT: ∀i ρ w K,I i ρ w→K (tst i ρ) w→WPs P N (zi (zay c)) K (List.range nt) ρ w) (hv: ∀i ρ w,I i ρ w→tst i ρ tc=.bool (decide ((i:Int)<(n:Int))))
 (hJ: ∀i ρ w K,i<n→ρ ti=iN i→K (inc i ρ) w→WPs P N (zi (vK c)) K (List.range ni) ρ w)
 (h0:I 0 ρ w) (hb: ∀i ρ w,i<n→I i ρ w→WP P N (zb5 c) (zfh ti b0 b1 (inc i) I Q i) (tst i ρ) w) (he: ∀ρ w,I n ρ w→Q .normal (tst n ρ) w):WP P N c Q ρ w:=by
 unfold zb7 at hs;simp only [Bool.and_eq_true] at hs;obtain ⟨s1,s2,s3,s4,s5,s6,s7,s8,s9,s10,s11⟩:=hs;obtain ⟨id1,e1,l1⟩:=zfg s4;obtain ⟨id2,e2,l2⟩:=zfg s11;refine zz b0 (zb6 s1)<|yW s2 (fun m ρ w=> ∃i,n-i=m∧i≤n∧I i ρ w) n ⟨0,rfl,Nat.zero_le _,h0⟩ ?_;rintro m ρ w ⟨i,rfl,hin,hI⟩;refine zc s3 ?_;show WP P N (zay c) _ ρ w;rw [e1];refine WP.region _ l1<|hT i ρ w _ hI ?_;show WP P N (jf c) _ (tst i ρ) w;refine zc s5 ?_;have hval:=hv i ρ w hI;by_cases hi:i<n
 ·refine zj s6 (by rw [hx];show tst i ρ tc=_;rw [hval,decide_eq_true (by omega)])<|zn s7 ?_;show WP P N (zx (jf c)) _ (tst i ρ) w;refine zc s9<|zz b1 (zb6 s10) ?_;have hfin: ∀(Q3:Exit→Env→World→Prop) ρ' w',(ρ' ti=iN i∧I (i+1) (inc i ρ') w')→(∀e ρ w,Q3 e ρ w=Q3 e ρ w)→WP P N (vK c) (nx (fun ρ' w'=> ∃m,m<n-i∧∃i,n-i=m∧i≤n∧I i ρ' w') Q3) ρ' w':=fun Q3 ρ' w' h _=>by
   rw [e2];refine WP.region _ l2 ?_;exact hJ i ρ' w' _ hi h.1 ⟨n-(i+1),by omega,i+1,rfl,by omega,h.2⟩
  refine xL (hb i ρ w hi hI) fun e ρ' w' h=>?_;cases e with
  | normal=>exact hfin _ ρ' w' h fun _ _ _=>rfl
  | exit k=>
   show bif Nat.beq k b1 then _ else _;change (bif Nat.beq k b1 then _ else _) at h;cases hk:Nat.beq k b1 with
   | true=>rw [hk] at h;exact hfin _ ρ' w' h fun _ _ _=>rfl
   | false=>rw [hk] at h;exact h
  | _=>exact h
 ·obtain rfl:i=n:=by omega
  refine zl s6 (by rw [hx];show tst i ρ tc=_;rw [hval,decide_eq_false (by omega)])<|yv b0 (zb6 s8) ?_;show bif Nat.beq b0 b0 then _ else _;rw [Nat.beq_refl];exact he ρ w hI
theorem qw (ti tn tc tj b0 b1 n:Nat)(hn:n≤0x4000000000000000)(I:Nat→Env→World→Prop)(hI: ∀i ρ w,I i ρ w→ρ ti=iN i∧ρ tn=iN n)
 (h0:I 0 ρ w) (hb: ∀i ρ w,i<n→I i ρ w→WP P N (zb5 c) (zfh ti b0 b1 (fun ρ=>upd (upd ρ tj (iN (i+1))) ti (iN (i+1))) I Q i) (upd ρ tc (.bool true)) w)
 (he: ∀ρ w,I n ρ w→Q .normal (upd ρ tc (.bool false)) w)
 (hs:zb7 1 2 b0 b1 tc c=true:=by kernel_rfl) (hx:ji (zy (jf c))=.tmp tc:=by kernel_rfl)
 (ht: ∀(ρ0:Env) (i:Nat) w,opv P (zi (zay c)) 0 (upd (upd ρ0 tn (iN n)) ti (iN i)) w=some (some tc,true,.ok (.value (.bool (decide ((i:Int)<(n:Int))))) w):=by exact fun ρ0 i w=>by kernel_rfl)
 (hj: ∀(ρ0:Env) (i:Nat) w,opv P (zi (vK c)) 0 (upd ρ0 ti (iN i)) w=some (some tj,true,.ok (.value (.int .i64 (IntKind.i64.wrap ((i:Int)+1)))) w):=by exact fun ρ0 i w=>by kernel_rfl)
 (hk: ∀(ρ0:Env) (v:Value) w,opv P (zi (vK c)) 1 (upd ρ0 tj v) w=some (some ti,true,.ok (.value v) w):=by exact fun ρ0 v w=>by kernel_rfl)
 (hd:(dOK (some tc) N&&(dOK (some tj) N&&dOK (some ti) N))=true:=by kernel_rfl):WP P N c Q ρ w:=by
 simp only [Bool.and_eq_true] at hd;refine zkw (ti:=ti) (tst:=fun i ρ=>upd ρ tc (.bool (decide ((i:Int)<(n:Int))))) (inc:=fun i ρ=>upd (upd ρ tj (iN (i+1))) ti (iN (i+1))) (n:=n) I hs hx (fun i ρ w K h k=>?_) (fun i ρ w h=>?_) (fun i ρ w K hi h k=>?_) h0 (fun i ρ w hi h=>?_) (fun ρ w h=>?_)
 ·have e:upd (upd ρ tn (iN n)) ti (iN i)=ρ:=by rw [kf (hI i ρ w h).2,kf (hI i ρ w h).1]
  refine zd (some tc) _ (fun w=>e▸ht ρ i w) hd.1 ?_;exact zb k
 ·show upd ρ tc _ tc=_;unfold upd;rw [Nat.beq_refl];rfl
 ·have e:upd ρ ti (iN i)=ρ:=kf h;refine qg (some tj) _ (iN (i+1)) (fun w=>e▸hj ρ i w) (zo (qc (a:=i) (b:=1) (by omega))) hd.2.1<|zd (some ti) (iN (i+1)) (fun w=>hk ρ (iN (i+1)) w) hd.2.2 ?_;exact zb k
 ·show WP P N (zb5 c) _ (upd ρ tc (.bool (decide ((i:Int)<(n:Int))))) w;rw [decide_eq_true (show (i:Int)<(n:Int) by omega)];exact hb i ρ w hi h
 ·show Q .normal (upd ρ tc (.bool (decide ((n:Int)<(n:Int))))) w;rw [decide_eq_false (show ¬(n:Int)<(n:Int) by omega)];exact he ρ w h
end
theorem AtF.row2 {α:Type}{S:Fl α}{w:World}{p:Option Addr}{n:Nat}{L:List α}(h:AtF S w p n L)(hn:0<n):∃b off C T fz,p=some ⟨b,off,none⟩∧w.heap[b]? =some (.cells C T fz)∧jk S C off L:=by
 rcases h.2 with rfl|h2
 ·have:=h.1;simp at this;omega
 ·exact h2
def xU (L:List ByteArray)(i:Nat):Option ByteArray:=if i=0 then none else L[i-1]?
theorem zfi {L:List ByteArray}{i:Nat}{x:ByteArray}(h:L[i]? =some x):xU L (i+1)=some x:=by
 unfold xU;rw [if_neg (by omega),Nat.add_sub_cancel,h]
abbrev hdC (h:Hdr)(p:Option Addr)(n c:Nat)(q:Option Addr)(m k:Nat):Array Value:=#[.string h.pa,.int .u64 ((h.hh:Nat):Int),.string h.ro,.string h.tx,.string h.pr,.string h.va,.slice p n c,.string h.vo,.bool h.ad,.int .u64 ((h.rd:Nat):Int),.slice q m k]
abbrev hdV (h:Hdr)(p:Option Addr)(n c:Nat)(q:Option Addr)(m k:Nat):Value:=.agg (hdC h p n c q m k)
abbrev hdO (h:Hdr)(p:Option Addr)(n c:Nat)(q:Option Addr)(m k:Nat):Obj:=.cells (hdC h p n c q m k) 26 (0,0)
def qq (w:World)(h:Hdr)(p:Option Addr)(n:Nat)(q:Option Addr)(m:Nat):Prop:=AtF sS w p n h.vs∧AtF sgF w q m h.ss
theorem qq.call {w w':World}{h:Hdr}{p:Option Addr}{n:Nat}{q:Option Addr}{m:Nat}(a:qq w h p n q m)(hb:Below w.heap.size w w'):qq w' h p n q m:=⟨a.1.call hb,a.2.call hb⟩
abbrev sgC (x:Sg):Array Value:=(sgF.cs x).toArray
abbrev sgO (x:Sg):Obj:=.cells (sgC x) 57 (0,0)
structure vM (h:Hdr):Prop where
 vo:h.vo.size≤1000000
 vl:h.vs.length≤1000
 ss: ∀x∈h.ss,sgOk x
 sl:h.ss.length≤1000
theorem zZ.sm {h:Hdr}(o:zZ h):vM h:=⟨o.vo,o.vl,o.ss,o.sl⟩
end Go.Proofs.YthonokeibcodpaaGreatDoor
namespace Go.Proofs.YthonokeibcodpaaGreatDoor
open Go Go.ChangeShapes Go.WideShapes Go.ChangeAt Go.RowKit
set_option linter.unusedVariables false
set_option maxRecDepth 100000
theorem zfj:Tryz.prog.cellsOf 26=11:=kr
theorem zb8:Tryz.prog.cellsOf 57=9:=kr
theorem zkx:Tryz.prog.cellsOf 3=1:=kr
theorem zb9:Tryz.prog.cellsOf 9=1:=kr
theorem zfk:Tryz.prog.cellsOf 22=1:=kr
theorem zky:Tryz.prog.cellsOf 4=1:=kr
theorem zkz:Tryz.prog.cellsOf 23=1:=kr
theorem zkA:Tryz.prog.cellsOf 24=1:=kr
theorem zfl {α:Type}(l:List α)(h:l.length=11):∃a0 a1 a2 a3 a4 a5 a6 a7 a8 a9 a10,l=[a0,a1,a2,a3,a4,a5,a6,a7,a8,a9,a10]:=by
 match l,h with
 | [a0,a1,a2,a3,a4,a5,a6,a7,a8,a9,a10],_=>exact ⟨_,_,_,_,_,_,_,_,_,_,_,rfl⟩
section
variable {H:Type}{enc:TypeId×Value→H}{W:World}{sp:Nat→Bool}{held:Bool}
theorem zfm (fuel:Nat)(cs:List Value)(x:DataW H×List MemPlace)(h:DataW.trod enc Tryz.prog W 0 sp held fuel 57 cs=some x):∃a:Sg,cs=sgF.cs a∧sgOk a:=by
 obtain ⟨y0,y1,y2,m,hx,hl,hy0,hy1,hy2⟩:=Go.Deep.trod_struct3 Tryz.underlying57 h;rw [zb8] at hl;obtain ⟨c0,c1,c2,c3,c4,c5,c6,c7,c8,rfl⟩:=zhy cs hl;rw [zhx] at hy0 hy1;rw [zkx] at hy2;obtain ⟨n,hn,a0,a1,a2,a3⟩:=zdg (show DataW.trod enc Tryz.prog W 0 sp held m 55 [c0,c1,c2,c3]=some y0 from hy0);obtain ⟨k,hk,b0',b1,b2,b3⟩:=zdg (show DataW.trod enc Tryz.prog W 0 sp held m 55 [c4,c5,c6,c7]=some y1 from hy1);obtain ⟨z,hz,_,_⟩:=DataW.trod_int Tryz.underlying3 (show DataW.trod enc Tryz.prog W 0 sp held m 3 [c8]=some y2 from hy2);have hz:c8=.int .i64 z:=by simpa using hz
 exact ⟨(n,k,z),by rw [a0,a1,a2,a3,b0',b1,b2,b3,hz];rfl,hn,hk⟩
theorem zkB (fuel:Nat)(cs:List Value)(x:DataW H×List MemPlace)(h:DataW.trod enc Tryz.prog W 0 sp held fuel 9 cs=some x):∃a:ByteArray,cs=sS.cs a∧a.size≤maxLen:=by
 obtain ⟨s,e0,_,hs⟩:=DataW.trod_string Tryz.underlying9 h;exact ⟨s,e0,hs⟩
def zca (h:Hdr):Prop:=h.hh<0x10000000000000000∧h.rd<0x10000000000000000∧ ∀x∈h.ss,sgOk x
end
end Go.Proofs.YthonokeibcodpaaGreatDoor
namespace Go.Proofs.YthonokeibcodpaaGreatDoor
open Go Go.RowKit
set_option linter.unusedVariables false
set_option maxRecDepth 4000
abbrev Txn:=ByteArray×Nat×Nat×Sg
abbrev tnC (x:Txn):Array Value:=#[.string x.1,.int .u64 ((x.2.1:Nat):Int),.int .u64 ((x.2.2.1:Nat):Int),.int .u64 (w0 x.2.2.2.1),.int .u64 (w1 x.2.2.2.1),.int .u64 (w2 x.2.2.2.1),.int .u64 (w3 x.2.2.2.1),.int .u64 (w0 x.2.2.2.2.1),.int .u64 (w1 x.2.2.2.2.1),.int .u64 (w2 x.2.2.2.2.1),.int .u64 (w3 x.2.2.2.2.1),.int .i64 x.2.2.2.2.2]
def tnS:Fl Txn where
 K:=12
 cs x:=(tnC x).toList
 pos:=by decide
 len _:=rfl
 one a:=fun u hu=>by simp [tnC] at hu;rcases hu with h | h | h | h | h | h | h | h | h | h | h | h<;>rw [h]<;>rfl
abbrev tnV (x:Txn):Value:=.agg (tnC x)
def yt (x:Txn):Prop:=x.2.1<0x10000000000000000∧x.2.2.1<0x10000000000000000∧sgOk x.2.2.2
theorem zkC (x y:Sg)(hx:sgOk x)(hy:sgOk y)(w:World):(Op.equalIn 9999 57 (.agg (Value.cells (sgv x.1 x.2.1 x.2.2))) (.agg (Value.cells (sgv y.1 y.2.1 y.2.2)))).run Tryz.prog w=.ok (decide (x=y)) w:=by
 obtain ⟨r,s,v⟩:=x;obtain ⟨r',s',v'⟩:=y;obtain ⟨hr,hs⟩:=hx;obtain ⟨hr',hs'⟩:=hy
 rw [run_equalIn_struct w 9998 57 _ _ kr kr,
  show (Tryz.prog.fieldsOf 57).toList= [{ name:= "R",type:=55,offset:=0,embedded:=false,tag:= "",pkgPath:= "",byteOffset:=0 },{ name:= "S",type:=55,offset:=4,embedded:=false,tag:= "",pkgPath:= "",byteOffset:=32 },{ name:= "V",type:=3,offset:=8,embedded:=false,tag:= "",pkgPath:= "",byteOffset:=64 }] by kernel_rfl]
 have px: ∀r s v,(part 55 (Value.cells (sgv r s v)) 0).run Tryz.prog w=.ok (uv r) w:=fun r s v=>by kernel_rfl
 have py: ∀r s v,(part 55 (Value.cells (sgv r s v)) 4).run Tryz.prog w=.ok (uv s) w:=fun r s v=>by kernel_rfl
 have pb: ∀r s v,(part 3 (Value.cells (sgv r s v)) 8).run Tryz.prog w=.ok (.int .i64 v) w:=fun r s v=>by kernel_rfl
 have ex: ∀r r':Nat,r<big→r'<big→(Op.equalIn 9998 55 (uv r) (uv r')).run Tryz.prog w=.ok (decide (r=r')) w:=fun r r' hr hr'=>by
  have h9:=zbb hr hr';rw [←h9];exact za8 9996 _ _ _ _ _ _ _ _ w
 have eb:(Op.equalIn 9998 3 (.int .i64 v) (.int .i64 v')).run Tryz.prog w=.ok (v==v') w:=by
  rw [run_equalIn_int w 9997 3 .i64 .i64 v v' Tryz.underlying3]
 have n1:("R" :String)≠ "_" :=by decide
 have n2:("S" :String)≠ "_" :=by decide
 have n3:("V" :String)≠ "_" :=by decide
 simp only [Op.eqFields,if_pos n1,if_pos n2,if_pos n3,Sem.run_bind,px,py,pb,Result.andThen_ok,ex r r' hr hr',ex s s' hs hs',eb,Sem.run_ite];by_cases h1:r=r'
 ·by_cases h2:s=s'
  ·by_cases h3:v=v'<;>simp [h1,h2,h3]
  ·simp [h1,h2]
 ·simp [h1]
theorem zkD (x y:Txn)(hx:yt x)(hy:yt y)(w:World):(Op.equalIn 10000 59 (tnV x) (tnV y)).run Tryz.prog w=.ok (decide (x=y)) w:=by
 rw [run_equalIn_struct w 9999 59 _ _ kr kr,
  show (Tryz.prog.fieldsOf 59).toList= [{ name:= "To",type:=9,offset:=0,embedded:=false,tag:= "",pkgPath:= "",byteOffset:=0 },{ name:= "Amount",type:=22,offset:=1,embedded:=false,tag:= "",pkgPath:= "",byteOffset:=16 },{ name:= "Nonce",type:=22,offset:=2,embedded:=false,tag:= "",pkgPath:= "",byteOffset:=24 },{ name:= "Sig",type:=57,offset:=3,embedded:=false,tag:= "",pkgPath:= "",byteOffset:=32 }] by kernel_rfl]
 have p0: ∀x:Txn,(part 9 (tnC x) 0).run Tryz.prog w=.ok (.string x.1) w:=fun x=>by kernel_rfl
 have p1: ∀x:Txn,(part 22 (tnC x) 1).run Tryz.prog w=.ok (.int .u64 ((x.2.1:Nat):Int)) w:=fun x=>by kernel_rfl
 have p2: ∀x:Txn,(part 22 (tnC x) 2).run Tryz.prog w=.ok (.int .u64 ((x.2.2.1:Nat):Int)) w:=fun x=>by kernel_rfl
 have p3: ∀x:Txn,(part 57 (tnC x) 3).run Tryz.prog w=.ok (.agg (Value.cells (sgv x.2.2.2.1 x.2.2.2.2.1 x.2.2.2.2.2))) w:=fun x=>by kernel_rfl
 have ex:(Op.equalIn 9999 9 (.string x.1) (.string y.1)).run Tryz.prog w=.ok (decide (x.1=y.1)) w:=by
  rw [run_equalIn_string w 9998 9 _ _ Tryz.underlying9];by_cases e:x.1=y.1
  ·rw [zI _ _ e,decide_eq_true e]
  ·rw [yO _ _ e,decide_eq_false e]
 have en: ∀a b:Nat,(Op.equalIn 9999 22 (.int .u64 ((a:Nat):Int)) (.int .u64 ((b:Nat):Int))).run Tryz.prog w=.ok (decide (a=b)) w:=fun a b=>by
  rw [run_equalIn_int w 9998 22 .u64 .u64 _ _ Tryz.underlying22];by_cases e:a=b
  ·rw [decide_eq_true e,e];simp
  ·rw [decide_eq_false e,beq_eq_false_iff_ne.2 (by omega)]
 have es:=zkC x.2.2.2 y.2.2.2 hx.2.2 hy.2.2 w;have n1:("To" :String)≠ "_" :=by decide
 have n2:("Amount" :String)≠ "_" :=by decide
 have n3:("Nonce" :String)≠ "_" :=by decide
 have n4:("Sig" :String)≠ "_" :=by decide
 simp only [Op.eqFields,if_pos n1,if_pos n2,if_pos n3,if_pos n4,Sem.run_bind,p0,p1,p2,p3,Result.andThen_ok,ex,en,es,Sem.run_ite];obtain ⟨a,b,c,d⟩:=x;obtain ⟨a',b',c',d'⟩:=y;by_cases h1:a=a'
 ·by_cases h2:b=b'
  ·by_cases h3:c=c'
   ·by_cases h4:d=d'<;>simp [h1,h2,h3,h4]
   ·simp [h1,h2,h3]
  ·simp [h1,h2]
 ·simp [h1]
theorem zkE {ρ:Env}(x y:Txn)(hx:yt x)(hy:yt y){s t:Operand}{o:Oper}(w:World)(ho:o.op=.binOp .neq 59 s t 59)(h1:ev ρ s=tnV x)(h2:ev ρ t=tnV y):
 (execOp (ev ρ) o).run Tryz.prog w=.ok (.value (.bool (!decide (x=y)))) w:=by
 have h:=zkD x y hx hy w;change ev ρ s=.agg (tnC x) at h1;change ev ρ t=.agg (tnC y) at h2;change (Op.equalIn 10000 59 (.agg (tnC x)) (.agg (tnC y))).run Tryz.prog w=_ at h;generalize tnC x=X at h h1;generalize tnC y=Y at h h2;unfold execOp;simp only [ho,h1,h2,resolve,Sem.run_bind,Sem.run_pure,Result.andThen_ok,run_eqGuard_agg w _ _ _ _ _ _ (show Tryz.prog.eqGuardType Tryz.prog.depth 59=false by kernel_rfl),run_eql_struct,run_neq_struct,h]
theorem zkF (h k:Hdr)(oh:zZ h)(ok:zZ k)(p:Option Addr)(n c:Nat)(q:Option Addr)(m cq:Nat)(p':Option Addr)(n' c':Nat)(q':Option Addr)(m' cq':Nat)(b:Bool)(hb:b=true↔h=k):
 FnP Tryz.prog 16 #[hdV h p n c q m cq,hdV k p' n' c' q' m' cq'] (fun w=>qq w h p n q m∧qq w k p' n' q' m') (.bool b):=by
 have no:h≠k→b=false:=fun hne=>Bool.eq_false_iff.2 fun e=>hne (hb.1 e);refine FnP.intro (c:=zf Tryz.f16) [.tmp 4] 120 Tryz.func16 kr kr kr fun w hP=>?_;obtain ⟨hP,hP'⟩:=hP;have hn:=hP.1.1;have hm:=hP.2.1;have hn':=hP'.1.1;have hm':=hP'.2.1;have hvl:=oh.vl;have hsl:=oh.sl;have hvl':=ok.vl;have hsl':=ok.sl;have H0:=St.start w;refine rS [.b,.b,.v] H0 kr fun gs1 w1 H1=>zc kr ?_;by_cases e_pa:h.pa=k.pa
 case neg=>
  refine rS [.v,.l 0,.v,.l 1,.E (.bool (!(h.pa.toList==k.pa.toList))) (.bool true) (za (by rw [yO _ _ e_pa];rfl)),.v,.n,.n,.n,.n,.n,.v,.v,.n,.n,.n,.n,.n,.v,.v,.n,.n,.n,.n,.n,.v,.v,.n,.n,.n,.n,.n,.v,.v,.n,.n,.n,.n,.n,.v,.v,.n,.n,.n,.n,.n,.v,.v,.n,.n,.n,.n,.n,.v,.v,.n,.n,.n,.n,.n,.v] H1 kr fun gs2 w2 H2=>zU<|rS [.v] H2 kr fun gs5 w5 H5=>?_;exact rRe [.tmp 4] [] (v:=.bool false) (v':=.bool b) H5 (za ((no fun e=>e_pa (by rw [e])).symm)) kr
 by_cases e_hh:h.hh=k.hh
 case neg=>
  refine rS [.v,.l 0,.v,.l 1,.E (.bool (!(h.pa.toList==k.pa.toList))) (.bool false) (za (by rw [zI _ _ e_pa];rfl)),.v,.v,.l 0,.v,.l 1,.E (.bool (((h.hh:Nat):Int)!=((k.hh:Nat):Int))) (.bool true) (za (bne_iff_ne.2 (by omega))),.v,.v,.n,.n,.n,.n,.n,.v,.v,.n,.n,.n,.n,.n,.v,.v,.n,.n,.n,.n,.n,.v,.v,.n,.n,.n,.n,.n,.v,.v,.n,.n,.n,.n,.n,.v,.v,.n,.n,.n,.n,.n,.v,.v,.n,.n,.n,.n,.n,.v] H1 kr fun gs2 w2 H2=>zU<|rS [.v] H2 kr fun gs5 w5 H5=>?_;exact rRe [.tmp 4] [] (v:=.bool false) (v':=.bool b) H5 (za ((no fun e=>e_hh (by rw [e])).symm)) kr
 by_cases e_ro:h.ro=k.ro
 case neg=>
  refine rS [.v,.l 0,.v,.l 1,.E (.bool (!(h.pa.toList==k.pa.toList))) (.bool false) (za (by rw [zI _ _ e_pa];rfl)),.v,.v,.l 0,.v,.l 1,.E (.bool (((h.hh:Nat):Int)!=((k.hh:Nat):Int))) (.bool false) (za (by rw [e_hh];exact bne_self_eq_false' _)),.v,.v,.v,.l 0,.v,.l 1,.E (.bool (!(h.ro.toList==k.ro.toList))) (.bool true) (za (by rw [yO _ _ e_ro];rfl)),.v,.v,.n,.n,.n,.n,.n,.v,.v,.n,.n,.n,.n,.n,.v,.v,.n,.n,.n,.n,.n,.v,.v,.n,.n,.n,.n,.n,.v,.v,.n,.n,.n,.n,.n,.v,.v,.n,.n,.n,.n,.n,.v] H1 kr fun gs2 w2 H2=>zU<|rS [.v] H2 kr fun gs5 w5 H5=>?_;exact rRe [.tmp 4] [] (v:=.bool false) (v':=.bool b) H5 (za ((no fun e=>e_ro (by rw [e])).symm)) kr
 by_cases e_tx:h.tx=k.tx
 case neg=>
  refine rS [.v,.l 0,.v,.l 1,.E (.bool (!(h.pa.toList==k.pa.toList))) (.bool false) (za (by rw [zI _ _ e_pa];rfl)),.v,.v,.l 0,.v,.l 1,.E (.bool (((h.hh:Nat):Int)!=((k.hh:Nat):Int))) (.bool false) (za (by rw [e_hh];exact bne_self_eq_false' _)),.v,.v,.v,.l 0,.v,.l 1,.E (.bool (!(h.ro.toList==k.ro.toList))) (.bool false) (za (by rw [zI _ _ e_ro];rfl)),.v,.v,.v,.l 0,.v,.l 1,.E (.bool (!(h.tx.toList==k.tx.toList))) (.bool true) (za (by rw [yO _ _ e_tx];rfl)),.v,.v,.n,.n,.n,.n,.n,.v,.v,.n,.n,.n,.n,.n,.v,.v,.n,.n,.n,.n,.n,.v,.v,.n,.n,.n,.n,.n,.v,.v,.n,.n,.n,.n,.n,.v] H1 kr fun gs2 w2 H2=>zU<|rS [.v] H2 kr fun gs5 w5 H5=>?_;exact rRe [.tmp 4] [] (v:=.bool false) (v':=.bool b) H5 (za ((no fun e=>e_tx (by rw [e])).symm)) kr
 by_cases e_pr:h.pr=k.pr
 case neg=>
  refine rS [.v,.l 0,.v,.l 1,.E (.bool (!(h.pa.toList==k.pa.toList))) (.bool false) (za (by rw [zI _ _ e_pa];rfl)),.v,.v,.l 0,.v,.l 1,.E (.bool (((h.hh:Nat):Int)!=((k.hh:Nat):Int))) (.bool false) (za (by rw [e_hh];exact bne_self_eq_false' _)),.v,.v,.v,.l 0,.v,.l 1,.E (.bool (!(h.ro.toList==k.ro.toList))) (.bool false) (za (by rw [zI _ _ e_ro];rfl)),.v,.v,.v,.l 0,.v,.l 1,.E (.bool (!(h.tx.toList==k.tx.toList))) (.bool false) (za (by rw [zI _ _ e_tx];rfl)),.v,.v,.v,.l 0,.v,.l 1,.E (.bool (!(h.pr.toList==k.pr.toList))) (.bool true) (za (by rw [yO _ _ e_pr];rfl)),.v,.v,.n,.n,.n,.n,.n,.v,.v,.n,.n,.n,.n,.n,.v,.v,.n,.n,.n,.n,.n,.v,.v,.n,.n,.n,.n,.n,.v] H1 kr fun gs2 w2 H2=>zU<|rS [.v] H2 kr fun gs5 w5 H5=>?_;exact rRe [.tmp 4] [] (v:=.bool false) (v':=.bool b) H5 (za ((no fun e=>e_pr (by rw [e])).symm)) kr
 by_cases e_va:h.va=k.va
 case neg=>
  refine rS [.v,.l 0,.v,.l 1,.E (.bool (!(h.pa.toList==k.pa.toList))) (.bool false) (za (by rw [zI _ _ e_pa];rfl)),.v,.v,.l 0,.v,.l 1,.E (.bool (((h.hh:Nat):Int)!=((k.hh:Nat):Int))) (.bool false) (za (by rw [e_hh];exact bne_self_eq_false' _)),.v,.v,.v,.l 0,.v,.l 1,.E (.bool (!(h.ro.toList==k.ro.toList))) (.bool false) (za (by rw [zI _ _ e_ro];rfl)),.v,.v,.v,.l 0,.v,.l 1,.E (.bool (!(h.tx.toList==k.tx.toList))) (.bool false) (za (by rw [zI _ _ e_tx];rfl)),.v,.v,.v,.l 0,.v,.l 1,.E (.bool (!(h.pr.toList==k.pr.toList))) (.bool false) (za (by rw [zI _ _ e_pr];rfl)),.v,.v,.v,.l 0,.v,.l 1,.E (.bool (!(h.va.toList==k.va.toList))) (.bool true) (za (by rw [yO _ _ e_va];rfl)),.v,.v,.n,.n,.n,.n,.n,.v,.v,.n,.n,.n,.n,.n,.v,.v,.n,.n,.n,.n,.n,.v] H1 kr fun gs2 w2 H2=>zU<|rS [.v] H2 kr fun gs5 w5 H5=>?_;exact rRe [.tmp 4] [] (v:=.bool false) (v':=.bool b) H5 (za ((no fun e=>e_va (by rw [e])).symm)) kr
 by_cases e_vo:h.vo=k.vo
 case neg=>
  refine rS [.v,.l 0,.v,.l 1,.E (.bool (!(h.pa.toList==k.pa.toList))) (.bool false) (za (by rw [zI _ _ e_pa];rfl)),.v,.v,.l 0,.v,.l 1,.E (.bool (((h.hh:Nat):Int)!=((k.hh:Nat):Int))) (.bool false) (za (by rw [e_hh];exact bne_self_eq_false' _)),.v,.v,.v,.l 0,.v,.l 1,.E (.bool (!(h.ro.toList==k.ro.toList))) (.bool false) (za (by rw [zI _ _ e_ro];rfl)),.v,.v,.v,.l 0,.v,.l 1,.E (.bool (!(h.tx.toList==k.tx.toList))) (.bool false) (za (by rw [zI _ _ e_tx];rfl)),.v,.v,.v,.l 0,.v,.l 1,.E (.bool (!(h.pr.toList==k.pr.toList))) (.bool false) (za (by rw [zI _ _ e_pr];rfl)),.v,.v,.v,.l 0,.v,.l 1,.E (.bool (!(h.va.toList==k.va.toList))) (.bool false) (za (by rw [zI _ _ e_va];rfl)),.v,.v,.v,.l 0,.v,.l 1,.E (.bool (!(h.vo.toList==k.vo.toList))) (.bool true) (za (by rw [yO _ _ e_vo];rfl)),.v,.v,.n,.n,.n,.n,.n,.v,.v,.n,.n,.n,.n,.n,.v] H1 kr fun gs2 w2 H2=>zU<|rS [.v] H2 kr fun gs5 w5 H5=>?_;exact rRe [.tmp 4] [] (v:=.bool false) (v':=.bool b) H5 (za ((no fun e=>e_vo (by rw [e])).symm)) kr
 by_cases e_ad:h.ad=k.ad
 case neg=>
  refine rS [.v,.l 0,.v,.l 1,.E (.bool (!(h.pa.toList==k.pa.toList))) (.bool false) (za (by rw [zI _ _ e_pa];rfl)),.v,.v,.l 0,.v,.l 1,.E (.bool (((h.hh:Nat):Int)!=((k.hh:Nat):Int))) (.bool false) (za (by rw [e_hh];exact bne_self_eq_false' _)),.v,.v,.v,.l 0,.v,.l 1,.E (.bool (!(h.ro.toList==k.ro.toList))) (.bool false) (za (by rw [zI _ _ e_ro];rfl)),.v,.v,.v,.l 0,.v,.l 1,.E (.bool (!(h.tx.toList==k.tx.toList))) (.bool false) (za (by rw [zI _ _ e_tx];rfl)),.v,.v,.v,.l 0,.v,.l 1,.E (.bool (!(h.pr.toList==k.pr.toList))) (.bool false) (za (by rw [zI _ _ e_pr];rfl)),.v,.v,.v,.l 0,.v,.l 1,.E (.bool (!(h.va.toList==k.va.toList))) (.bool false) (za (by rw [zI _ _ e_va];rfl)),.v,.v,.v,.l 0,.v,.l 1,.E (.bool (!(h.vo.toList==k.vo.toList))) (.bool false) (za (by rw [zI _ _ e_vo];rfl)),.v,.v,.v,.l 0,.v,.l 1,.E (.bool (h.ad !=k.ad)) (.bool true) (za (bne_iff_ne.2 e_ad)),.v,.v,.n,.n,.n,.n,.n,.v] H1 kr fun gs2 w2 H2=>zU<|rS [.v] H2 kr fun gs5 w5 H5=>?_;exact rRe [.tmp 4] [] (v:=.bool false) (v':=.bool b) H5 (za ((no fun e=>e_ad (by rw [e])).symm)) kr
 by_cases e_rd:h.rd=k.rd
 case neg=>
  refine rS [.v,.l 0,.v,.l 1,.E (.bool (!(h.pa.toList==k.pa.toList))) (.bool false) (za (by rw [zI _ _ e_pa];rfl)),.v,.v,.l 0,.v,.l 1,.E (.bool (((h.hh:Nat):Int)!=((k.hh:Nat):Int))) (.bool false) (za (by rw [e_hh];exact bne_self_eq_false' _)),.v,.v,.v,.l 0,.v,.l 1,.E (.bool (!(h.ro.toList==k.ro.toList))) (.bool false) (za (by rw [zI _ _ e_ro];rfl)),.v,.v,.v,.l 0,.v,.l 1,.E (.bool (!(h.tx.toList==k.tx.toList))) (.bool false) (za (by rw [zI _ _ e_tx];rfl)),.v,.v,.v,.l 0,.v,.l 1,.E (.bool (!(h.pr.toList==k.pr.toList))) (.bool false) (za (by rw [zI _ _ e_pr];rfl)),.v,.v,.v,.l 0,.v,.l 1,.E (.bool (!(h.va.toList==k.va.toList))) (.bool false) (za (by rw [zI _ _ e_va];rfl)),.v,.v,.v,.l 0,.v,.l 1,.E (.bool (!(h.vo.toList==k.vo.toList))) (.bool false) (za (by rw [zI _ _ e_vo];rfl)),.v,.v,.v,.l 0,.v,.l 1,.E (.bool (h.ad !=k.ad)) (.bool false) (za (by rw [e_ad];exact bne_self_eq_false' _)),.v,.v,.v,.l 0,.v,.l 1,.E (.bool (((h.rd:Nat):Int)!=((k.rd:Nat):Int))) (.bool true) (za (bne_iff_ne.2 (by omega))),.v] H1 kr fun gs2 w2 H2=>zU<|rS [.v] H2 kr fun gs5 w5 H5=>?_;exact rRe [.tmp 4] [] (v:=.bool false) (v':=.bool b) H5 (za ((no fun e=>e_rd (by rw [e])).symm)) kr
 refine rS [.v,.l 0,.v,.l 1,.E (.bool (!(h.pa.toList==k.pa.toList))) (.bool false) (za (by rw [zI _ _ e_pa];rfl)),.v,.v,.l 0,.v,.l 1,.E (.bool (((h.hh:Nat):Int)!=((k.hh:Nat):Int))) (.bool false) (za (by rw [e_hh];exact bne_self_eq_false' _)),.v,.v,.v,.l 0,.v,.l 1,.E (.bool (!(h.ro.toList==k.ro.toList))) (.bool false) (za (by rw [zI _ _ e_ro];rfl)),.v,.v,.v,.l 0,.v,.l 1,.E (.bool (!(h.tx.toList==k.tx.toList))) (.bool false) (za (by rw [zI _ _ e_tx];rfl)),.v,.v,.v,.l 0,.v,.l 1,.E (.bool (!(h.pr.toList==k.pr.toList))) (.bool false) (za (by rw [zI _ _ e_pr];rfl)),.v,.v,.v,.l 0,.v,.l 1,.E (.bool (!(h.va.toList==k.va.toList))) (.bool false) (za (by rw [zI _ _ e_va];rfl)),.v,.v,.v,.l 0,.v,.l 1,.E (.bool (!(h.vo.toList==k.vo.toList))) (.bool false) (za (by rw [zI _ _ e_vo];rfl)),.v,.v,.v,.l 0,.v,.l 1,.E (.bool (h.ad !=k.ad)) (.bool false) (za (by rw [e_ad];exact bne_self_eq_false' _)),.v,.v,.v,.l 0,.v,.l 1,.E (.bool (((h.rd:Nat):Int)!=((k.rd:Nat):Int))) (.bool false) (za (by rw [e_rd];exact bne_self_eq_false' _)),.v] H1 kr fun gs2 w2 H2=>yk<|wW ?_;clear H0 H1;refine zc kr ?_;by_cases en:n=n'
 case neg=>
  refine rS [.v,.l 0,.v,.v,.l 1,.v,.E (.bool ((n:Int)!=(n':Int))) (.bool true) (za (bne_iff_ne.2 (by omega))),.v,.n,.n,.n,.n,.n,.n,.n,.v] H2 kr fun gs3 w3 H3=>zU<|rS [.v] H3 kr fun gs5 w5 H5=>?_;exact rRe [.tmp 4] [] (v:=.bool false) (v':=.bool b) H5 (za ((no fun e=>en (by rw [hn,hn',e])).symm)) kr
 by_cases em_:m=m'
 case neg=>
  refine rS [.v,.l 0,.v,.v,.l 1,.v,.E (.bool ((n:Int)!=(n':Int))) (.bool false) (za (by rw [en];exact bne_self_eq_false' _)),.v,.v,.l 0,.v,.v,.l 1,.v,.E (.bool ((m:Int)!=(m':Int))) (.bool true) (za (bne_iff_ne.2 (by omega))),.v] H2 kr fun gs3 w3 H3=>zU<|rS [.v] H3 kr fun gs5 w5 H5=>?_;exact rRe [.tmp 4] [] (v:=.bool false) (v':=.bool b) H5 (za ((no fun e=>em_ (by rw [hm,hm',e])).symm)) kr
 subst en em_;refine rS [.v,.l 0,.v,.v,.l 1,.v,.E (.bool ((n:Int)!=(n:Int))) (.bool false) (za (bne_self_eq_false' _)),.v,.v,.l 0,.v,.v,.l 1,.v,.E (.bool ((m:Int)!=(m:Int))) (.bool false) (za (bne_self_eq_false' _)),.v] H2 kr fun gs3 w3 H3=>yk<|wW<|zc kr<|rS [.v,.l 0,.v,.v] H3 kr fun gs4 w4 H4=>qw 87 86 88 101 0 1 n (by omega) (fun i ρ ww=>h.vs.take i=k.vs.take i∧St w.heap.size w ww [((gs1 0).b,hdO h p n c q m cq),((gs1 1).b,hdO k p' n c' q' m cq')]∧Is [(2,.pointer (some ⟨(gs1 0).b,0,none⟩)),(3,.pointer (some ⟨(gs1 1).b,0,none⟩)),(86,iN n),(87,iN i)] ρ) (by rintro i _ ww ⟨_,_,_,rfl⟩;exact ⟨kr,kr⟩) ⟨rfl,H4.as kr,isK⟩ ?_ ?_
 ·clear H2 H3 H4;rintro i _ w5 hi ⟨htk,H5,_,rfl⟩;obtain ⟨x,hx⟩:∃x,h.vs[i]? =some x:=⟨_,List.getElem?_eq_getElem (by omega)⟩
  obtain ⟨y,hy⟩:∃y,k.vs[i]? =some y:=⟨_,List.getElem?_eq_getElem (by omega)⟩
  obtain ⟨bl,off,C,T,fz,hp,hh,hR⟩:=hP.1.row2 (by omega);obtain ⟨bl2,off2,C2,T2,fz2,hp2,hh2,hR2⟩:=hP'.1.row2 (by omega);have cx:C[off+i*1]? =some (.string x):=hR.cell hx 0 (by decide);have cy:C2[off2+i*1]? =some (.string y):=hR2.cell hy 0 (by decide);refine rS [.v,.v] H5 kr fun gs5 w6 H6=>?_;by_cases exy:x=y
  ·refine dS [.v,.l 0,.v,.o (ins:=[((.tmp 91),.slice p n c),((.tmp 92),iN i)]) (v:=.pointer (some ⟨bl,off+i*1,none⟩)) (fun ρ o w ho hi2=>zL (kd:=.i64) (t:=23) (e:=9) (K:=1) (bytes:=16) kr (x:=(.tmp 91)) (y:=(.tmp 92)) bl off n c i hp ho hi2.1 hi2.2.1 (by omega) w),.fs (off:=off+i*1) (v:=.string x) hh (zv hh) cx,.v,.l 1,.v,.o (ins:=[((.tmp 96),.slice p' n c'),((.tmp 97),iN i)]) (v:=.pointer (some ⟨bl2,off2+i*1,none⟩)) (fun ρ o w ho hi2=>zL (kd:=.i64) (t:=23) (e:=9) (K:=1) (bytes:=16) kr (x:=(.tmp 96)) (y:=(.tmp 97)) bl2 off2 n c' i hp2 ho hi2.1 hi2.2.1 (by omega) w),.fs (off:=off2+i*1) (v:=.string y) hh2 (zv hh2) cy,.E (.bool (!(x.toList==y.toList))) (.bool false) (za (by rw [zI _ _ exy];rfl))] H6 kr fun w7 H7=>yk ?_;exact ⟨kr,by rw [qp hx,qp hy,htk,exy],H7.as kr,isK⟩
  ·refine dS [.v,.l 0,.v,.o (ins:=[((.tmp 91),.slice p n c),((.tmp 92),iN i)]) (v:=.pointer (some ⟨bl,off+i*1,none⟩)) (fun ρ o w ho hi2=>zL (kd:=.i64) (t:=23) (e:=9) (K:=1) (bytes:=16) kr (x:=(.tmp 91)) (y:=(.tmp 92)) bl off n c i hp ho hi2.1 hi2.2.1 (by omega) w),.fs (off:=off+i*1) (v:=.string x) hh (zv hh) cx,.v,.l 1,.v,.o (ins:=[((.tmp 96),.slice p' n c'),((.tmp 97),iN i)]) (v:=.pointer (some ⟨bl2,off2+i*1,none⟩)) (fun ρ o w ho hi2=>zL (kd:=.i64) (t:=23) (e:=9) (K:=1) (bytes:=16) kr (x:=(.tmp 96)) (y:=(.tmp 97)) bl2 off2 n c' i hp2 ho hi2.1 hi2.2.1 (by omega) w),.fs (off:=off2+i*1) (v:=.string y) hh2 (zv hh2) cy,.E (.bool (!(x.toList==y.toList))) (.bool true) (za (by rw [yO _ _ exy];rfl))] H6 kr fun w7 H7=>zU<|rS [.v] H7 kr fun gs5 w5 H5=>?_;exact rRe [.tmp 4] [] (v:=.bool false) (v':=.bool b) H5 (za ((no fun e=>exy (by subst e;rw [hx] at hy;exact Option.some.inj hy)).symm)) kr
 ·rintro _ w5 ⟨htk,H5,_,rfl⟩;rw [List.take_of_length_le (by omega),List.take_of_length_le (by omega)] at htk;refine wW<|zc kr<|rS [.v,.l 0,.v,.v] H5 kr fun gs5 w6 H6=>qw 105 104 106 119 2 3 m (by omega) (fun i ρ ww=>h.ss.take i=k.ss.take i∧St w.heap.size w ww [((gs1 0).b,hdO h p n c q m cq),((gs1 1).b,hdO k p' n c' q' m cq')]∧Is [(2,.pointer (some ⟨(gs1 0).b,0,none⟩)),(3,.pointer (some ⟨(gs1 1).b,0,none⟩)),(104,iN m),(105,iN i)] ρ) (by rintro i _ ww ⟨_,_,_,rfl⟩;exact ⟨kr,kr⟩) ⟨rfl,H6.as kr,isK⟩ ?_ ?_
  ·clear H2 H3 H4 H5 H6;rintro i _ w5 hi ⟨htk2,H5,_,rfl⟩;obtain ⟨x,hx⟩:∃x,h.ss[i]? =some x:=⟨_,List.getElem?_eq_getElem (by omega)⟩
   obtain ⟨y,hy⟩:∃y,k.ss[i]? =some y:=⟨_,List.getElem?_eq_getElem (by omega)⟩
   obtain ⟨bl,off,C,T,fz,hp,hh,hR⟩:=hP.2.row2 (by omega);obtain ⟨bl2,off2,C2,T2,fz2,hp2,hh2,hR2⟩:=hP'.2.row2 (by omega);have hxo:=oh.ss x (List.mem_of_getElem? hx);have hyo:=ok.ss y (List.mem_of_getElem? hy);refine rS [.v,.v] H5 kr fun gs5 w6 H6=>?_;have hcmp:(decide (x.1=y.1)&&(decide (x.2.1=y.2.1)&&(x.2.2==y.2.2)))=true↔x=y:=by
    obtain ⟨a,b',c2⟩:=x;obtain ⟨a2,b2,c3⟩:=y;simp
   generalize hg:(decide (x.1=y.1)&&(decide (x.2.1=y.2.1)&&(x.2.2==y.2.2)))=g at hcmp;have hit:=fun (v:Bool) (hv:(!g)=v) (ρ:Env) (o:Oper) (w:World) (ho:o.op=.binOp .neq 57 (.tmp 112) (.tmp 117) 57) (hi:Ins (ev ρ) [((.tmp 112),.agg (sgC x)),((.tmp 117),.agg (sgC y))])=>(zbT x.1 x.2.1 x.2.2 y.1 y.2.1 y.2.2 hxo.1 hxo.2 hyo.1 hyo.2 w ho hi.1 hi.2.1).trans (by rw [hg,hv]);cases g with
   | true=>
    have exy:=hcmp.1 rfl;refine dS [.v,.l 0,.v,.o (ins:=[((.tmp 109),.slice q m cq),((.tmp 110),iN i)]) (v:=.pointer (some ⟨bl,off+i*9,none⟩)) (fun ρ o w ho hi2=>zL (kd:=.i64) (t:=24) (e:=57) (K:=9) (bytes:=72) kr (x:=(.tmp 109)) (y:=(.tmp 110)) bl off m cq i hp ho hi2.1 hi2.2.1 (by omega) w),.fp (off:=off+i*9) (n:=9) (W:=sgC x) hh (zv hh) (hR _ _ hx).1 (hR _ _ hx).2,.v,.l 1,.v,.o (ins:=[((.tmp 114),.slice q' m cq'),((.tmp 115),iN i)]) (v:=.pointer (some ⟨bl2,off2+i*9,none⟩)) (fun ρ o w ho hi2=>zL (kd:=.i64) (t:=24) (e:=57) (K:=9) (bytes:=72) kr (x:=(.tmp 114)) (y:=(.tmp 115)) bl2 off2 m cq' i hp2 ho hi2.1 hi2.2.1 (by omega) w),.fp (off:=off2+i*9) (n:=9) (W:=sgC y) hh2 (zv hh2) (hR2 _ _ hy).1 (hR2 _ _ hy).2,.o (hit false rfl)] H6 kr fun w7 H7=>yk ?_;exact ⟨kr,by rw [qp hx,qp hy,htk2,exy],H7.as kr,isK⟩
   | false=>
    refine dS [.v,.l 0,.v,.o (ins:=[((.tmp 109),.slice q m cq),((.tmp 110),iN i)]) (v:=.pointer (some ⟨bl,off+i*9,none⟩)) (fun ρ o w ho hi2=>zL (kd:=.i64) (t:=24) (e:=57) (K:=9) (bytes:=72) kr (x:=(.tmp 109)) (y:=(.tmp 110)) bl off m cq i hp ho hi2.1 hi2.2.1 (by omega) w),.fp (off:=off+i*9) (n:=9) (W:=sgC x) hh (zv hh) (hR _ _ hx).1 (hR _ _ hx).2,.v,.l 1,.v,.o (ins:=[((.tmp 114),.slice q' m cq'),((.tmp 115),iN i)]) (v:=.pointer (some ⟨bl2,off2+i*9,none⟩)) (fun ρ o w ho hi2=>zL (kd:=.i64) (t:=24) (e:=57) (K:=9) (bytes:=72) kr (x:=(.tmp 114)) (y:=(.tmp 115)) bl2 off2 m cq' i hp2 ho hi2.1 hi2.2.1 (by omega) w),.fp (off:=off2+i*9) (n:=9) (W:=sgC y) hh2 (zv hh2) (hR2 _ _ hy).1 (hR2 _ _ hy).2,.o (hit true rfl)] H6 kr fun w7 H7=>zU<|rS [.v] H7 kr fun gs5 w5 H5=>?_;exact rRe [.tmp 4] [] (v:=.bool false) (v':=.bool b) H5 (za ((no fun e=>absurd (hcmp.2 (by subst e;rw [hx] at hy;exact Option.some.inj hy)) (by decide)).symm)) kr
  ·rintro _ w7 ⟨htk2,H7,_,rfl⟩;rw [List.take_of_length_le (by omega),List.take_of_length_le (by omega)] at htk2;refine wW<|rS [.v] H7 kr fun gs8 w8 H8=>?_;exact rRe [.tmp 4] [] (v:=.bool true) (v':=.bool b) H8 (za (hb.2 (zbX e_pa e_hh e_ro e_tx e_pr e_va htk e_vo e_ad e_rd htk2)).symm) kr
theorem zfn {α:Type}{S:Fl α}{P:Program}{ρ:Env}{w w0:World}{B:Nat}{l:List (Nat×Obj)}(HS:St B w0 w l){t e bytes:Nat}{s x:Operand}{o:Oper}{j b n cap m c:Nat}{p:Option Addr}{cur:Array Value}{xs:List Value}{M:List α}(ht:ye P t=some (e,S.K,bytes))(ho:o.op=yp t s x)
 (hs:ev ρ s=.slice (some ⟨b,0,none⟩) n cap) (hj:l[j]? =some (b,.cells cur e (0,0))) (hr:Rw S.K cur cap n xs) (hx:ev ρ x=.slice p m c) (hA:AtF S w p m M) (hp:yQ p m c)
 (hb:(n+m)*bytes≤0x800000000000) (hm:n+m≤maxLen):∃b' cap' cur' w',(execOp (ev ρ) o).run P w=.ok (.value (.slice (some ⟨b',0,none⟩) (n+m) cap')) w'∧St B w0 w' (l.set j (b',.cells cur' e (0,0)))∧Rw S.K cur' cap' (n+m) (xs++cellsF S M):=by
 rcases hp with ⟨rfl,rfl,rfl⟩|⟨⟨a,rfl⟩,_⟩
 ·obtain ⟨it,z,hu,hi,hz,hsz,hby,hzs,hz0⟩:=qb ht;obtain rfl:M=[]:=List.length_eq_zero_iff.1 hA.1.symm;have hrun:=run_append_nothing (P:=P) w t t o.type e it hu hi (some ⟨b,0,none⟩) n cap hr.le (.slice none 0 0) ⟨.inl ⟨e,hu⟩,fun w'=>by simp [Builtin.lenOf],by simp [Builtin.firstCells],by simp [Builtin.firstCells],by simp,(fun _ h=>by cases h)⟩;refine ⟨b,cap,cur,w,?_,?_,?_⟩
  ·unfold execOp;simp only [ho,yp,resolve,invoke,builtin,Sem.run_bind,Sem.run_pure,Result.andThen_ok,List.map_toArray,List.map_cons,List.map_nil,hs,hx,hrun,Nat.add_zero]
  ·obtain ⟨hlt,he⟩:=List.getElem?_eq_some_iff.1 hj;rw [←he,List.set_getElem_self];exact HS
  ·simpa [cellsF] using hr
 ·refine zgT (S:=S) HS ht ho hs hj hr hx hA.1 ?_ hb hm;rcases hA.2 with h | ⟨bx,off,C,T,fz,e1,h2,h3⟩
  ·exact .inl h
  ·exact .inr ⟨bx,off,C,T,fz,Option.some.inj e1,h2,h3⟩
theorem zkG {α:Type}{S:Fl α}{P:Program}{N:Nat}{ops:Array Oper}{K:Env→World→Prop}{ρ:Env}{w w0:World}{i B:Nat}{r:List Nat}{l:List (Nat×Obj)}(HS:St B w0 w l)(d:Option Nat)(t e bytes:Nat)(s x:Operand)(j b n cap m c:Nat)(p:Option Addr)(cur:Array Value)(xs:List Value)(M:List α)(h:opk ops i ρ=some (d,true,yp t s x))(hd:dOK d N=true)(ht:ye P t=some (e,S.K,bytes))
 (hs:ev ρ s=.slice (some ⟨b,0,none⟩) n cap) (hj:l[j]? =some (b,.cells cur e (0,0))) (hr:Rw S.K cur cap n xs) (hx:ev ρ x=.slice p m c) (hA:AtF S w p m M) (hp:yQ p m c)
 (hb:(n+m)*bytes≤0x800000000000) (hm:n+m≤maxLen)
 (kk: ∀b' cap' cur' w',St B w0 w' (l.set j (b',.cells cur' e (0,0)))→Rw S.K cur' cap' (n+m) (xs++cellsF S M)→WPs P N ops K r (zm ρ d (.slice (some ⟨b',0,none⟩) (n+m) cap')) w'):WPs P N ops K (i::r) ρ w:=by
 obtain ⟨o,ho,rfl,hw,hop⟩:=zD h;obtain ⟨b',cap',cur',w',hrun,HS',hr'⟩:=zfn (S:=S) HS ht hop hs hj hr hx hA hp hb hm;refine WPo.run ho hw fun a ha=>?_;rw [hrun,Oper.upon_value];exact ⟨_,ha.put _ (zN hd) _,kk b' cap' cur' w' HS' hr'⟩
theorem zkH {α:Type}{M:List α}{i:Nat}{x:α}(h:M[i]? =some x):M=M.take i++x::M.drop (i+1)∧(M.take i).length=i:=by
 obtain ⟨hi,rfl⟩:=List.getElem?_eq_some_iff.1 h;exact ⟨by rw [List.getElem_cons_drop,List.take_append_drop],by rw [List.length_take];omega⟩
theorem Rw.setF {α:Type}{S:Fl α}{cur:Array Value}{cap n i:Nat}{M:List α}{x y:α}(h:Rw S.K cur cap n (cellsF S M))(hM:M[i]? =some x)(j:Nat)(v:Value)(hj:j+v.cells.size≤S.K)(hx:(S.cs x).take j++v.cells.toList++(S.cs x).drop (j+v.cells.size)=S.cs y):
 0+i*S.K+j+v.cells.size≤cur.size∧Rw S.K (Go.Proofs.YthonokeibcodpaaGreatDoor.putA cur (0+i*S.K+j) v) cap n (cellsF S (M.set i y)):=by
 have hl:M.length=n:=h.lenF;have hi:=(List.getElem?_eq_some_iff.1 hM).1;obtain ⟨e1,e2⟩:=zkH hM;have hlt:(i+1)*S.K≤n*S.K:=Nat.mul_le_mul_right _ (by omega);rw [Nat.succ_mul] at hlt;have hp:=h.putA (0+i*S.K+j) v (by omega);refine ⟨hp.1,?_⟩;have hc:(cellsF S (M.take i)).length=i*S.K:=by rw [ko,e2]
 have hxl:=S.len x;have eM:cellsF S M=cellsF S (M.take i)++(S.cs x++cellsF S (M.drop (i+1))):=by
  conv=>lhs;rw [e1]
  rw [um];rfl
 have eS:cellsF S (M.set i y)=cellsF S (M.take i)++(S.cs y++cellsF S (M.drop (i+1))):=by
  rw [List.set_eq_take_append_cons_drop,if_pos hi,um];rfl
 have q:=hp.2;rw [eM] at q;rw [eS,←hx];have t1:(cellsF S (M.take i)++(S.cs x++cellsF S (M.drop (i+1)))).take (0+i*S.K+j)=cellsF S (M.take i)++(S.cs x).take j:=by
  rw [List.take_append,hc,show 0+i*S.K+j-i*S.K=j by omega,List.take_of_length_le (by rw [hc];omega),List.take_append_of_le_length (by omega)]
 have t2:(cellsF S (M.take i)++(S.cs x++cellsF S (M.drop (i+1)))).drop (0+i*S.K+j+v.cells.size)=(S.cs x).drop (j+v.cells.size)++cellsF S (M.drop (i+1)):=by
  rw [List.drop_append,hc,show 0+i*S.K+j+v.cells.size-i*S.K=j+v.cells.size by omega,List.drop_of_length_le (by rw [hc];omega),List.nil_append,List.drop_append_of_le_length (by omega)]
 rw [t1,t2] at q;rw [show cellsF S (M.take i)++((S.cs x).take j++v.cells.toList++(S.cs x).drop (j+v.cells.size)++cellsF S (M.drop (i+1)))=cellsF S (M.take i)++(S.cs x).take j++v.cells.toList++((S.cs x).drop (j+v.cells.size)++cellsF S (M.drop (i+1))) by simp only [List.append_assoc]];exact q
end Go.Proofs.YthonokeibcodpaaGreatDoor
namespace Go.Proofs.YthonokeibcodpaaGreatDoor
open Go Go.RowKit
open D2 (Gh)
set_option linter.unusedVariables false
def yi (x:ByteArray):ByteArray:=x.extract 0 (min x.size 50)
theorem zkI (x:ByteArray):(yi x).size≤50:=by unfold yi;rw [ByteArray.size_extract];omega
def zkJ (h:Hdr):Hdr:=⟨yi h.pa,h.hh,yi h.ro,yi h.tx,yi h.pr,yi h.va,h.vs,yi h.vo,h.ad,h.rd,h.ss⟩
def jt (h:Hdr):Hdr:=⟨yi h.pa,h.hh,yi h.ro,yi h.tx,yi h.pr,yi h.va,(h.vs.take 20).map yi,yi h.vo,h.ad,h.rd,h.ss.take 20⟩
theorem zkK {h:Hdr}(h1:h.hh<0x10000000000000000)(h2:h.rd<0x10000000000000000)(h3: ∀x∈h.ss,sgOk x):zZ (jt h):=by
 have z:=zkI;have le: ∀x,(yi x).size≤1000000:=fun x=>by have:=z x;omega
 exact ⟨h1,h2,le _,le _,le _,le _,le _,le _,(fun x hx=>by obtain ⟨y,_,rfl⟩:=List.mem_map.1 hx;exact le _),by show ((h.vs.take 20).map yi).length≤_;rw [List.length_map,List.length_take];omega,fun x hx=>h3 x (List.mem_of_mem_take hx),by show (h.ss.take 20).length≤_;rw [List.length_take];omega⟩
theorem zcb {α:Type}{L:List α}{n z:Nat}(h:n=L.length):L.take (min n z)=L.take z:=by
 subst h;by_cases hl:L.length≤z
 ·rw [Nat.min_eq_left hl,List.take_of_length_le (Nat.le_refl _),List.take_of_length_le hl]
 ·rw [Nat.min_eq_right (by omega)]
theorem zfo {α:Type}{g:α→α}{M:List α}{i:Nat}{x:α}(h:M[i]? =some x):((M.take i).map g++M.drop i)[i]? =some x∧((M.take i).map g++M.drop i).set i (g x)=(M.take (i+1)).map g++M.drop (i+1):=by
 have hi:=(List.getElem?_eq_some_iff.1 h).1;have hl:((M.take i).map g).length=i:=by rw [List.length_map,List.length_take];omega
 constructor
 ·rw [List.getElem?_append_right (by omega),hl,Nat.sub_self,zbW h];rfl
 ·rw [List.set_append_right (h:=by omega),hl,Nat.sub_self,zbW h,qp h,List.map_append,List.append_assoc];rfl
end Go.Proofs.YthonokeibcodpaaGreatDoor
namespace Go.Proofs.YthonokeibcodpaaGreatDoor
open Go Go.RowKit
set_option linter.unusedVariables false
set_option maxRecDepth 4000
set_option maxRecDepth 4000
theorem zkL (p:Option Addr)(n c:Nat)(A:List Txn)(p':Option Addr)(n' c':Nat)(B:List Txn)(b:Bool)(hb:b=true↔A=B)(hA:A.length≤1000000)(oA: ∀x∈A,yt x)(oB: ∀x∈B,yt x):FnP Tryz.prog 17 #[.slice p n c,.slice p' n' c'] (fun w=>AtF tnS w p n A∧AtF tnS w p' n' B) (.bool b):=by
 have no:A≠B→b=false:=fun hne=>Bool.eq_false_iff.2 fun e=>hne (hb.1 e);refine FnP.intro (c:=zf Tryz.f17) [.tmp 4] 26 Tryz.func17 kr kr kr fun w hP=>?_;obtain ⟨hP,hP'⟩:=hP;have hn:=hP.1;have hn':=hP'.1;refine rS [.v] (St.start w) kr fun gs1 w1 H1=>zc kr ?_;by_cases en:n=n'
 case neg=>
  refine rS [.v,.v,.v,.v,.E (.bool ((n:Int)!=(n':Int))) (.bool true) (za (bne_iff_ne.2 (by omega)))] H1 kr fun gs3 w3 H3=>zU<|rS [.v] H3 kr fun gs8 w8 H8=>?_;exact rRe [.tmp 4] [] (v:=.bool false) (v':=.bool b) H8 (za (no fun e=>en (by rw [hn,hn',e])).symm) kr
 subst en;refine rS [.v,.v,.v,.v,.E (.bool ((n:Int)!=(n:Int))) (.bool false) (za (bne_self_eq_false' _))] H1 kr fun gs3 w3 H3=>yk<|wW<|zc kr<|rS [.v,.v,.v] H3 kr fun gs4 w4 H4=>qw 13 12 14 25 0 1 n (by omega) (fun i ρ ww=>A.take i=B.take i∧St w.heap.size w ww []∧Is [(0,.slice p n c),(1,.slice p' n c'),(12,iN n),(13,iN i)] ρ) (by rintro i _ ww ⟨_,_,_,rfl⟩;exact ⟨kr,kr⟩) ⟨rfl,H4.as kr,isK⟩ ?_ ?_
 ·clear H4;rintro i _ w5 hi ⟨htk,H5,_,rfl⟩;obtain ⟨x,hx⟩:∃x,A[i]? =some x:=⟨_,List.getElem?_eq_getElem (by omega)⟩
  obtain ⟨y,hy⟩:∃y,B[i]? =some y:=⟨_,List.getElem?_eq_getElem (by omega)⟩
  obtain ⟨bl,off,C,T,fz,hp,hh,hR⟩:=hP.row2 (by omega);obtain ⟨bl2,off2,C2,T2,fz2,hp2,hh2,hR2⟩:=hP'.row2 (by omega);refine rS [.v,.v] H5 kr fun gs5 w6 H6=>?_;have hit:=fun (v:Bool) (hv:(!decide (x=y))=v) (ρ:Env) (o:Oper) (w:World) (ho:o.op=.binOp .neq 59 (.tmp 19) (.tmp 23) 59) (hi:Ins (ev ρ) [((.tmp 19),tnV x),((.tmp 23),tnV y)])=>(zkE x y (oA x (List.mem_of_getElem? hx)) (oB y (List.mem_of_getElem? hy)) w ho hi.1 hi.2.1).trans (by rw [hv]);by_cases exy:x=y
  ·refine dS [.v,.v,.o (ins:=[((.tmp 16),.slice p n c),((.tmp 17),iN i)]) (v:=.pointer (some ⟨bl,off+i*12,none⟩)) (fun ρ o w ho hi2=>zL (kd:=.i64) (t:=27) (e:=59) (K:=12) (bytes:=104) kr (x:=(.tmp 16)) (y:=(.tmp 17)) bl off n c i hp ho hi2.1 hi2.2.1 (by omega) w),.fp (off:=off+i*12) (n:=12) (W:=tnC x) hh (zv hh) (hR _ _ hx).1 (hR _ _ hx).2,.v,.v,.o (ins:=[((.tmp 20),.slice p' n c'),((.tmp 21),iN i)]) (v:=.pointer (some ⟨bl2,off2+i*12,none⟩)) (fun ρ o w ho hi2=>zL (kd:=.i64) (t:=27) (e:=59) (K:=12) (bytes:=104) kr (x:=(.tmp 20)) (y:=(.tmp 21)) bl2 off2 n c' i hp2 ho hi2.1 hi2.2.1 (by omega) w),.fp (off:=off2+i*12) (n:=12) (W:=tnC y) hh2 (zv hh2) (hR2 _ _ hy).1 (hR2 _ _ hy).2,.o (hit false (by rw [decide_eq_true exy];rfl))] H6 kr fun w7 H7=>yk ?_;exact ⟨kr,by rw [qp hx,qp hy,htk,exy],H7.as kr,isK⟩
  ·refine dS [.v,.v,.o (ins:=[((.tmp 16),.slice p n c),((.tmp 17),iN i)]) (v:=.pointer (some ⟨bl,off+i*12,none⟩)) (fun ρ o w ho hi2=>zL (kd:=.i64) (t:=27) (e:=59) (K:=12) (bytes:=104) kr (x:=(.tmp 16)) (y:=(.tmp 17)) bl off n c i hp ho hi2.1 hi2.2.1 (by omega) w),.fp (off:=off+i*12) (n:=12) (W:=tnC x) hh (zv hh) (hR _ _ hx).1 (hR _ _ hx).2,.v,.v,.o (ins:=[((.tmp 20),.slice p' n c'),((.tmp 21),iN i)]) (v:=.pointer (some ⟨bl2,off2+i*12,none⟩)) (fun ρ o w ho hi2=>zL (kd:=.i64) (t:=27) (e:=59) (K:=12) (bytes:=104) kr (x:=(.tmp 20)) (y:=(.tmp 21)) bl2 off2 n c' i hp2 ho hi2.1 hi2.2.1 (by omega) w),.fp (off:=off2+i*12) (n:=12) (W:=tnC y) hh2 (zv hh2) (hR2 _ _ hy).1 (hR2 _ _ hy).2,.o (hit true (by rw [decide_eq_false exy];rfl))] H6 kr fun w7 H7=>zU<|rS [.v] H7 kr fun gs8 w8 H8=>?_;exact rRe [.tmp 4] [] (v:=.bool false) (v':=.bool b) H8 (za (no fun e=>exy (by rw [e,hy] at hx;exact (Option.some.inj hx).symm)).symm) kr
 ·clear H4;rintro _ w5 ⟨htk,H5,_,rfl⟩;rw [List.take_of_length_le (by omega),List.take_of_length_le (by omega)] at htk;refine wW<|rS [.v] H5 kr fun gs8 w8 H8=>?_;exact rRe [.tmp 4] [] (v:=.bool true) (v':=.bool b) H8 (za (hb.2 htk).symm) kr
abbrev bkC (h:Hdr)(p:Option Addr)(n c:Nat)(q:Option Addr)(m k:Nat)(t:Option Addr)(z d:Nat):Array Value:=#[.string h.pa,.int .u64 ((h.hh:Nat):Int),.string h.ro,.string h.tx,.string h.pr,.string h.va,.slice p n c,.string h.vo,.bool h.ad,.int .u64 ((h.rd:Nat):Int),.slice q m k,.slice t z d]
abbrev bkV (h:Hdr)(p:Option Addr)(n c:Nat)(q:Option Addr)(m k:Nat)(t:Option Addr)(z d:Nat):Value:=.agg (bkC h p n c q m k t z d)
def ju (w:World)(h:Hdr)(l:List Txn)(p:Option Addr)(n:Nat)(q:Option Addr)(m:Nat)(t:Option Addr)(z:Nat):Prop:=qq w h p n q m∧AtF tnS w t z l
theorem zfp (h:Hdr)(l:List Txn)(h':Hdr)(l':List Txn)(oh:zZ h)(oh':zZ h')(hl:l.length≤1000000)(ol: ∀x∈l,yt x)(ol': ∀x∈l',yt x)(p:Option Addr)(n c:Nat)(q:Option Addr)(m k:Nat)(t:Option Addr)(z d:Nat)(p':Option Addr)(n' c':Nat)(q':Option Addr)(m' k':Nat)(t':Option Addr)(z' d':Nat)(b:Bool)(hb:b=true↔h=h'∧l=l'):
 FnP Tryz.prog 7 #[bkV h p n c q m k t z d,bkV h' p' n' c' q' m' k' t' z' d'] (fun w=>ju w h l p n q m t z∧ju w h' l' p' n' q' m' t' z') (.bool b):=by
 refine FnP.intro (c:=zf Tryz.f7) [.tmp 4] 17 Tryz.func7 kr kr kr fun w hP=>?_;obtain ⟨⟨hH,hT⟩,hH',hT'⟩:=hP;refine rS [.b,.b,.v] (St.start w) kr fun gs1 w1 H1=>?_;have lk:=fun g (hg:g=true↔h=h')=>zkF h h' oh oh' p n c q m k p' n' c' q' m' k' g hg;have sm:=fun g (hg:g=true↔l=l')=>zkL t z d l t' z' d' l' g hg hl ol ol';by_cases e1:h=h'
 ·have lk1:=lk true ⟨fun _=>e1,fun _=>rfl⟩;have sm1:=sm b (hb.trans ⟨fun q=>q.2,fun q=>⟨e1,q⟩⟩);refine rS [.v,.l 0,.v,.l 1,.cp (pre:=fun w=>qq w h p n q m∧qq w h' p' n' q' m') lk1 [] (fun w hb hd=>⟨hH.call hb,hH'.call hb⟩),.v,.v,.l 0,.v,.l 1,.cp (pre:=fun w=>AtF tnS w t z l∧AtF tnS w t' z' l') sm1 [] (fun w hb hd=>⟨hT.call hb,hT'.call hb⟩),.v,.v] H1 kr fun gs2 w2 H2=>?_;exact rR [.tmp 4] [] (.bool b) H2 kr
 ·have lk1:=lk false ⟨fun q=>absurd q Bool.false_ne_true,fun q=>absurd q e1⟩;have e9:b=false:=Bool.eq_false_iff.2 fun q=>e1 (hb.1 q).1;refine rS [.v,.l 0,.v,.l 1,.cp (pre:=fun w=>qq w h p n q m∧qq w h' p' n' q' m') lk1 [] (fun w hb hd=>⟨hH.call hb,hH'.call hb⟩),.v,.n,.n,.n,.n,.n,.v,.v] H1 kr fun gs2 w2 H2=>?_;exact rRe [.tmp 4] [] (v:=.bool false) (v':=.bool b) H2 (za e9.symm) kr
set_option maxRecDepth 4000
def zfq {α:Type}(S:Fl α)(T:TypeId)(M:List α)(v:Value)(l:List (Nat×Obj)):Prop:=∃(b m k:Nat) (cur:Array Value),v=.slice (some ⟨b,0,none⟩) m k∧l=[(b,.cells cur T (0,0))]∧Rw S.K cur k m (cellsF S M)
set_option maxRecDepth 4000
set_option maxRecDepth 4000
set_option maxRecDepth 4000
set_option maxRecDepth 4000
section
variable {l:Bool}{s:ByteArray}{k:Fo}
end
end Go.Proofs.YthonokeibcodpaaGreatDoor
namespace Go.Proofs.YthonokeibcodpaaGreatDoor
open Go Go.RowKit
open D2 (Gh)
set_option linter.unusedVariables false
end Go.Proofs.YthonokeibcodpaaGreatDoor
namespace Go.Proofs.YthonokeibcodpaaGreatDoor
open Go Go.RowKit
open D2 (Gh)
set_option linter.unusedVariables false
end Go.Proofs.YthonokeibcodpaaGreatDoor
namespace Go.Proofs.YthonokeibcodpaaGreatDoor
open Go Go.RowKit
open D2 (Gh)
set_option linter.unusedVariables false
def fe0 (a:ByteArray):Fel:=⟨(0,a),none,0,0,.nil⟩
theorem zfr: ∀L:List ByteArray,yl (L.map fe0)=lsF L
 | []=>rfl
 | a::r=>by
  show Fr.cons (0,a) .nil (yl (r.map fe0))=_;rw [zfr r];rfl
theorem zfs {L:List ByteArray}(h: ∀x∈L,ByteArray.size x≤0x800000000000)(T:List (Nat×Obj)):AllE fS T (L.map fe0):=fun x hx=>by
 obtain ⟨a,ha,rfl⟩:=List.mem_map.1 hx;exact ⟨RIn.none _ _,(by decide:0<0x10000000000000000),h a ha⟩
theorem zaA {α:Type}(A B C:List α):(C++(A++B)).Perm (A++(B++C)):=by
 rw [←List.append_assoc A B C];exact List.perm_append_comm
def hdE (h:Hdr)(q1:Option Addr)(n c1:Nat)(q2:Option Addr)(m c2:Nat):List Fel:=
 [fe0 h.pa,⟨(h.hh,em),none,0,0,.nil⟩,fe0 h.ro,fe0 h.tx,fe0 h.pr,fe0 h.va,⟨(0,em),q1,n,c1,lsF h.vs⟩,fe0 h.vo,⟨(adN h.ad,em),none,0,0,.nil⟩,⟨(h.rd,em),none,0,0,.nil⟩,⟨(0,em),q2,m,c2,lsF (h.ss.map sgB)⟩]
theorem zkM {T:List (Nat×Obj)}{h:Hdr}{q1:Option Addr}{n c1:Nat}{q2:Option Addr}{m c2:Nat}(o:zZ h)(h1:RIn fS T q1 n (lsF h.vs))(h2:RIn fS T q2 m (lsF (h.ss.map sgB))):AllE fS T (hdE h q1 n c1 q2 m c2):=fun x hx=>by
 have z:(0:Nat)<0x10000000000000000:=by decide
 have ze:em.size≤0x800000000000:=Nat.zero_le _;have ha:adN h.ad<0x10000000000000000:=by unfold adN;split<;>decide
 have k1:=o.pa;have k2:=o.ro;have k3:=o.tx;have k4:=o.pr;have k5:=o.va;have k6:=o.vo;unfold hdE at hx;simp only [List.mem_cons,List.not_mem_nil,or_false] at hx;rcases hx with rfl | rfl | rfl | rfl | rfl | rfl | rfl | rfl | rfl | rfl | rfl
 ·exact ⟨RIn.none _ _,z,by show h.pa.size≤_;omega⟩
 ·exact ⟨RIn.none _ _,o.hh,ze⟩
 ·exact ⟨RIn.none _ _,z,by show h.ro.size≤_;omega⟩
 ·exact ⟨RIn.none _ _,z,by show h.tx.size≤_;omega⟩
 ·exact ⟨RIn.none _ _,z,by show h.pr.size≤_;omega⟩
 ·exact ⟨RIn.none _ _,z,by show h.va.size≤_;omega⟩
 ·exact ⟨h1,z,ze⟩
 ·exact ⟨RIn.none _ _,z,by show h.vo.size≤_;omega⟩
 ·exact ⟨RIn.none _ _,ha,ze⟩
 ·exact ⟨RIn.none _ _,o.rd,ze⟩
 ·exact ⟨h2,z,ze⟩
end Go.Proofs.YthonokeibcodpaaGreatDoor
namespace Go.Proofs.YthonokeibcodpaaGreatDoor
open Go Go.RowKit
set_option linter.unusedVariables false
def rc (b:Nat):Nat:=if 192≤b then b-64 else b
def isIt (t:ByteArray)(l:Bool)(s:ByteArray)(k:Fo)(m:Nat):Prop:= ∀(l':Bool) (s':ByteArray) (k':Fo) (X:List UInt8),mixed l' s' k'.len=false→pureF k'=true→tl t=wr1 l' s' (szF k') (wrF k')++X→l'=l∧s'=s∧k'=k∧m=(wr1 l' s' (szF k') (wrF k')).length
structure RdI (t:ByteArray)(l:Bool)(s:ByteArray)(p:Option Addr)(n:Nat)(k:Fo)(m:Nat)(T:List (Nat×Obj)):Prop where
 mix:mixed l s k.len=false
 pur:pureF k=true
 inn:SlIn T p n k
 ssz:s.size≤m
 one:1≤m
 le:m≤t.size
 cnt:1+k.cnt≤m
 wt:9+s.size+wtF k≤10*m
 is:isIt t l s k m
def appF:List X3→Fo→Fo
 | [],r=>r
 | x::M,r=>.cons x.l x.s x.k (appF M r)
structure RdL (t:ByteArray)(a b j:Nat)(p:Option Addr)(n c:Nat)(row:List (Nat×Obj))(M:List X3)(T:List (Nat×Obj)):Prop where
 row:RowSt p n c row M
 lo:a≤j
 hi:j≤a+b
 num:n≤(toFo M).cnt
 cnt:(toFo M).cnt≤j-a
 wt:wtF (toFo M)≤10*(j-a)
 pur:pureF (toFo M)=true
 inn:AllIn T M
 rest: ∀k',pureF k'=true→tl (t.extract a (a+b))=wrF k'→∃r,pureF r=true∧tl (t.extract j (a+b))=wrF r∧k'=appF M r
section
variable {t:ByteArray}{a b j:Nat}{p:Option Addr}{n c:Nat}{row:List (Nat×Obj)}{M:List X3}{T:List (Nat×Obj)}
end
section
variable {P:Program}{N:Nat}{ops:Array Oper}{K:Env→World→Prop}{ρ:Env}{w w0:World}{i B:Nat}{r:List Nat}{l:List (Nat×Obj)}
end
end Go.Proofs.YthonokeibcodpaaGreatDoor
namespace Go.Proofs.YthonokeibcodpaaGreatDoor
open Go Go.RowKit
open D2 (Gh)
set_option linter.unusedVariables false
section
variable {P:Program}{N:Nat}{ops:Array Oper}{i:Nat}{r:List Nat}{K:Env→World→Prop}{ρ:Env}{w w0:World}{B:Nat}{l:List (Nat×Obj)}
end
end Go.Proofs.YthonokeibcodpaaGreatDoor
namespace Go.Proofs.YthonokeibcodpaaGreatDoor
open Go Go.RowKit
open D2 (Gh)
set_option linter.unusedVariables false
def hd0:Hdr:=⟨em,0,em,em,em,em,[],em,false,0,[]⟩
def xV (S:ByteArray)(v:Value)(T:List (Nat×Obj)):Prop:=
 (∃(h:Hdr) (p:Option Addr) (n c:Nat) (q:Option Addr) (m k:Nat) (T1 T2:List (Nat×Obj)),v=.tuple #[hdV h p n c q m k,.int .i64 0]∧rightH h=true∧zZ h∧yP sS 9 p n c T1 h.vs∧yP sgF 57 q m k T2 h.ss∧T=T1++T2∧wrV qa (hdF h)=(S,0))∨
 (v=.tuple #[hdV hd0 none 0 0 none 0 0,.int .i64 4]∧T=[]∧ ∀h:Hdr,rightH h=true→zZ h→wrV qa (hdF h)≠(S,0))
def qI (t:ByteArray):Sg:=if zQ (sgR t) (sgS t) (sgV t)=true then (sgR t,sgS t,sgV t) else (0,0,0)
theorem zkN {t:ByteArray}(h:t.size=65):∃e:Int,vI t=.tuple #[.agg (sgC (qI t)),.int .i64 e]:=by
 rw [zeX];unfold qI;by_cases hm:zQ (sgR t) (sgS t) (sgV t)=true
 ·rw [if_pos ⟨h,hm⟩,if_pos hm];exact ⟨0,rfl⟩
 ·rw [if_neg (fun h9=>hm h9.2),if_neg hm];exact ⟨4,rfl⟩
theorem zkO {t:ByteArray}(h:t.size=65):sgOk (qI t):=by
 unfold qI;split
 ·exact ⟨zbR h,zbS h⟩
 ·exact ⟨by decide,by decide⟩
theorem zkP {x:Sg}(o:sgOk x)(m:sgMay x=true):qI (sgB x)=x:=by
 obtain ⟨r,s,v⟩:=x;unfold qI;rw [zaq o.1,zar o.2,zas m,if_pos m]
theorem zft: ∀ {L:List Sg},(∀x∈L,sgOk x)→L.all sgMay=true→(L.map sgB).map qI=L
 | [],_,_=>rfl
 | x::r,o,m=>by
  simp only [List.all_cons,Bool.and_eq_true] at m;rw [List.map_cons,List.map_cons,zkP (o x (List.mem_cons_self ..)) m.1,zft (fun y hy=>o y (List.mem_cons_of_mem _ hy)) m.2]
def hdX (pa:ByteArray)(hn:Nat)(ro tx pr va vo:ByteArray)(a rd:Nat)(L M:List ByteArray):Hdr:=⟨pa,hn,ro,tx,pr,va,L,vo,decide (0<a),rd,M.map qI⟩
theorem zkQ {h:Hdr}(o:zZ h)(r:rightH h=true):hdX h.pa h.hh h.ro h.tx h.pr h.va h.vo (adN h.ad) h.rd h.vs (h.ss.map sgB)=h:=by
 refine zbX rfl rfl rfl rfl rfl rfl rfl rfl ?_ rfl (zft o.ss (xE.1 r).ss);show decide (0<adN h.ad)=h.ad;cases h.ad<;>rfl
theorem zcc {B:Nat}{w:World}{p:Option Addr}{n:Nat}{l:Fe}(h:SlR fS B w p n l)(h0:l≠.nil):∃b off C T fz,p=some ⟨b,off,none⟩∧w.heap[b]? =some (.cells C T fz)∧
 ∀(i:Nat) (a:Nat×ByteArray) (k:Fe),l.at i=some (a,k)→C[off+i*3+0]? =some (.int .u64 ((a.1:Nat):Int))∧C[off+i*3+1]? =some (.string a.2)∧∃p' n' c',C[off+i*3+2]? =some (.slice p' n' c')∧SlR fS B w p' n' k∧off+i*3+3≤C.size∧C.extract (off+i*3) (off+i*3+3)=#[.int .u64 ((a.1:Nat):Int),.string a.2,.slice p' n' c']:=by
 obtain ⟨h1,h2,rfl|⟨b,off,e,hF⟩⟩:=h
 ·exact absurd rfl h0
 ·cases l with
  | nil=>exact absurd rfl h0
  | cons a0 k0 r0=>
   obtain ⟨⟨C,T,fz,_,_,_,_,hh,_⟩,_⟩:=id hF;refine ⟨b,off,C,T,fz,e,hh,fun i a k hk=>?_⟩;obtain ⟨C',T',fz',p',n',c',hb,hh',hs,hx,hok,hn',hm',hs'⟩:=qk.at hF hk;rw [hh] at hh';injection hh' with hh';injection hh' with hC _ _;subst hC;have hs:off+i*3+3≤C.size:=hs;have key: ∀j,j<3→C[off+i*3+j]? =([Value.int .u64 ((a.1:Nat):Int),.string a.2,.slice p' n' c']:List Value)[j]? :=fun j hj=>by
    have:(C.extract (off+i*3) (off+i*3+3))[j]? =C[off+i*3+j]? :=by rw [Array.getElem?_extract,if_pos (by omega)]
    rw [←this];have hx2:C.extract (off+i*3) (off+i*3+3)=([Value.int .u64 ((a.1:Nat):Int),.string a.2,.slice p' n' c']:List Value).toArray:=hx;rw [hx2];simp
   exact ⟨key 0 (by decide),key 1 (by decide),p',n',c',key 2 (by decide),⟨hn',hm',hs'⟩,hs,hx⟩
theorem zcd: ∀ {L:List ByteArray} {i:Nat} {x:ByteArray},L[i]? =some x→(lsF L).at i=some ((0,x),.nil)
 | a::r,0,x,h=>by simp at h;subst h;rfl
 | a::r,i+1,x,h=>zcd (L:=r) (by simpa using h)
theorem zfu {L:List ByteArray}(h:0<L.length):lsF L≠.nil:=by cases L with | nil=>simp at h | cons a r=>intro e;unfold lsF at e;cases e
end Go.Proofs.YthonokeibcodpaaGreatDoor
namespace Go.Proofs.YthonokeibcodpaaGreatDoor
open Go Go.RowKit
set_option linter.unusedVariables false
set_option maxRecDepth 4000
abbrev Hed:=Hdr×(Option Addr×Nat×Nat)×(Option Addr×Nat×Nat)
abbrev heC (x:Hed):Array Value:=hdC x.1 x.2.1.1 x.2.1.2.1 x.2.1.2.2 x.2.2.1 x.2.2.2.1 x.2.2.2.2
def heS:Fl Hed where
 K:=11
 cs x:=(heC x).toList
 pos:=by decide
 len _:=rfl
 one a:=fun u hu=>by simp [hdC] at hu;rcases hu with h | h | h | h | h | h | h | h | h | h | h<;>rw [h]<;>rfl
end Go.Proofs.YthonokeibcodpaaGreatDoor
namespace Go.Proofs.YthonokeibcodpaaGreatDoor
open Go Go.ChangeShapes Go.WideShapes Go.ChangeAt Go.RowKit
set_option linter.unusedVariables false
set_option maxRecDepth 100000
theorem zkR {α:Type}(l:List α)(h:l.length=2):∃a0 a1,l=[a0,a1]:=by
 match l,h with
 | [a0,a1],_=>exact ⟨_,_,rfl⟩
section
variable {H:Type}{enc:TypeId×Value→H}{W:World}{sp:Nat→Bool}{held:Bool}
theorem zkS (fuel:Nat)(cs:List Value)(x:DataW H×List MemPlace)(h:DataW.trod enc Tryz.prog W 0 sp held fuel 26 cs=some x):∃a:Hed,cs=heS.cs a∧(zca a.1∧yQ a.2.1.1 a.2.1.2.1 a.2.1.2.2∧yQ a.2.2.1 a.2.2.2.1 a.2.2.2.2∧qq W a.1 a.2.1.1 a.2.1.2.1 a.2.2.1 a.2.2.2.1):=by
 obtain ⟨xs,m,rfl,hxx,hl,hlen,hff⟩:=DataW.trod_struct Tryz.underlying26 h;rw [zfj] at hl;obtain ⟨c0,c1,c2,c3,c4,c5,c6,c7,c8,c9,c10,rfl⟩:=zfl cs hl;obtain ⟨y0,y1,y2,y3,y4,y5,y6,y7,y8,y9,y10,rfl⟩:=zfl xs hlen;have g0:=hff 0 _ rfl;have g1:=hff 1 _ rfl;have g2:=hff 2 _ rfl;have g3:=hff 3 _ rfl;have g4:=hff 4 _ rfl;have g5:=hff 5 _ rfl;have g6:=hff 6 _ rfl;have g7:=hff 7 _ rfl;have g8:=hff 8 _ rfl;have g9:=hff 9 _ rfl;have g10:=hff 10 _ rfl;change DataW.trod enc Tryz.prog W 0 sp held m 9 (([c0,c1,c2,c3,c4,c5,c6,c7,c8,c9,c10].drop 0).take (Tryz.prog.cellsOf 9))=some y0 at g0;change DataW.trod enc Tryz.prog W 0 sp held m 22 (([c0,c1,c2,c3,c4,c5,c6,c7,c8,c9,c10].drop 1).take (Tryz.prog.cellsOf 22))=some y1 at g1;change DataW.trod enc Tryz.prog W 0 sp held m 9 (([c0,c1,c2,c3,c4,c5,c6,c7,c8,c9,c10].drop 2).take (Tryz.prog.cellsOf 9))=some y2 at g2;change DataW.trod enc Tryz.prog W 0 sp held m 9 (([c0,c1,c2,c3,c4,c5,c6,c7,c8,c9,c10].drop 3).take (Tryz.prog.cellsOf 9))=some y3 at g3;change DataW.trod enc Tryz.prog W 0 sp held m 9 (([c0,c1,c2,c3,c4,c5,c6,c7,c8,c9,c10].drop 4).take (Tryz.prog.cellsOf 9))=some y4 at g4;change DataW.trod enc Tryz.prog W 0 sp held m 9 (([c0,c1,c2,c3,c4,c5,c6,c7,c8,c9,c10].drop 5).take (Tryz.prog.cellsOf 9))=some y5 at g5;change DataW.trod enc Tryz.prog W 0 sp held m 23 (([c0,c1,c2,c3,c4,c5,c6,c7,c8,c9,c10].drop 6).take (Tryz.prog.cellsOf 23))=some y6 at g6;change DataW.trod enc Tryz.prog W 0 sp held m 9 (([c0,c1,c2,c3,c4,c5,c6,c7,c8,c9,c10].drop 7).take (Tryz.prog.cellsOf 9))=some y7 at g7;change DataW.trod enc Tryz.prog W 0 sp held m 4 (([c0,c1,c2,c3,c4,c5,c6,c7,c8,c9,c10].drop 8).take (Tryz.prog.cellsOf 4))=some y8 at g8;change DataW.trod enc Tryz.prog W 0 sp held m 22 (([c0,c1,c2,c3,c4,c5,c6,c7,c8,c9,c10].drop 9).take (Tryz.prog.cellsOf 22))=some y9 at g9;change DataW.trod enc Tryz.prog W 0 sp held m 24 (([c0,c1,c2,c3,c4,c5,c6,c7,c8,c9,c10].drop 10).take (Tryz.prog.cellsOf 24))=some y10 at g10;rw [zb9] at g0 g2 g3 g4 g5 g7;rw [zfk] at g1 g9;rw [zky] at g8;rw [zkz] at g6;rw [zkA] at g10;have str: ∀ {c:Value} {y:DataW H×List MemPlace},DataW.trod enc Tryz.prog W 0 sp held m 9 [c]=some y→∃s,c=.string s:=fun {c y} g=>by
  obtain ⟨s,e,_,_⟩:=DataW.trod_string Tryz.underlying9 g;exact ⟨s,by simpa using e⟩
 have num: ∀ {c:Value} {y:DataW H×List MemPlace},DataW.trod enc Tryz.prog W 0 sp held m 22 [c]=some y→∃n:Nat,n<0x10000000000000000∧c=.int .u64 ((n:Nat):Int):=fun {c y} g=>by
  obtain ⟨z,e,_,hw⟩:=DataW.trod_int Tryz.underlying22 g;obtain ⟨n,hn,rfl⟩:=za4 hw;exact ⟨n,hn,by simpa using e⟩
 obtain ⟨s0,rfl⟩:=str g0;obtain ⟨n1,h1,rfl⟩:=num g1;obtain ⟨s2,rfl⟩:=str g2;obtain ⟨s3,rfl⟩:=str g3;obtain ⟨s4,rfl⟩:=str g4;obtain ⟨s5,rfl⟩:=str g5;obtain ⟨s7,rfl⟩:=str g7;obtain ⟨n9,h9,rfl⟩:=num g9;obtain ⟨b,e8,_⟩:=DataW.trod_bool Tryz.underlying4 (show DataW.trod enc Tryz.prog W 0 sp held m 4 [c8]=some y8 from g8);obtain rfl:c8=.bool b:=by simpa using e8
 obtain ⟨p,n,c,L,rfl,sl,_,at6⟩:=za5 (S:=sS) Tryz.underlying23 zb9 zkB (show DataW.trod enc Tryz.prog W 0 sp held m 23 [c6]=some y6 from g6);obtain ⟨q,mm,k,M,rfl,sl2,ok2,at10⟩:=za5 (S:=sgF) Tryz.underlying24 zb8 zfm (show DataW.trod enc Tryz.prog W 0 sp held m 24 [c10]=some y10 from g10);exact ⟨(⟨s0,n1,s2,s3,s4,s5,L,s7,b,n9,M⟩,(p,n,c),(q,mm,k)),rfl,⟨h1,h9,ok2⟩,sl,sl2,at6,at10⟩
end
set_option maxRecDepth 100000
theorem zfv:Tryz.prog.cellsOf 59=12:=kr
theorem zkT:Tryz.prog.cellsOf 27=1:=kr
theorem zkU:Tryz.prog.cellsOf 29=12:=kr
theorem zfw {α:Type}(l:List α)(h:l.length=12):∃a0 a1 a2 a3 a4 a5 a6 a7 a8 a9 a10 a11,l=[a0,a1,a2,a3,a4,a5,a6,a7,a8,a9,a10,a11]:=by
 match l,h with
 | [a0,a1,a2,a3,a4,a5,a6,a7,a8,a9,a10,a11],_=>exact ⟨_,_,_,_,_,_,_,_,_,_,_,_,rfl⟩
theorem zkV {α:Type}(l:List α)(h:l.length=4):∃a0 a1 a2 a3,l=[a0,a1,a2,a3]:=by
 match l,h with
 | [a0,a1,a2,a3],_=>exact ⟨_,_,_,_,rfl⟩
section
variable {H:Type}{enc:TypeId×Value→H}{W:World}{sp:Nat→Bool}{held:Bool}
theorem zkW (fuel:Nat)(cs:List Value)(x:DataW H×List MemPlace)(h:DataW.trod enc Tryz.prog W 0 sp held fuel 59 cs=some x):∃a:Txn,cs=tnS.cs a∧yt a:=by
 obtain ⟨xs,m,rfl,hxx,hl,hlen,hff⟩:=DataW.trod_struct Tryz.underlying59 h;rw [zfv] at hl;obtain ⟨c0,c1,c2,c3,c4,c5,c6,c7,c8,c9,c10,c11,rfl⟩:=zfw cs hl;obtain ⟨y0,y1,y2,y3,rfl⟩:=zkV xs hlen;have g0:=hff 0 _ rfl;have g1:=hff 1 _ rfl;have g2:=hff 2 _ rfl;have g3:=hff 3 _ rfl;change DataW.trod enc Tryz.prog W 0 sp held m 9 (([c0,c1,c2,c3,c4,c5,c6,c7,c8,c9,c10,c11].drop 0).take (Tryz.prog.cellsOf 9))=some y0 at g0;change DataW.trod enc Tryz.prog W 0 sp held m 22 (([c0,c1,c2,c3,c4,c5,c6,c7,c8,c9,c10,c11].drop 1).take (Tryz.prog.cellsOf 22))=some y1 at g1;change DataW.trod enc Tryz.prog W 0 sp held m 22 (([c0,c1,c2,c3,c4,c5,c6,c7,c8,c9,c10,c11].drop 2).take (Tryz.prog.cellsOf 22))=some y2 at g2;change DataW.trod enc Tryz.prog W 0 sp held m 57 (([c0,c1,c2,c3,c4,c5,c6,c7,c8,c9,c10,c11].drop 3).take (Tryz.prog.cellsOf 57))=some y3 at g3;rw [zb9] at g0;rw [zfk] at g1 g2;rw [zb8] at g3;obtain ⟨s0,e0,_,_⟩:=DataW.trod_string Tryz.underlying9 (show DataW.trod enc Tryz.prog W 0 sp held m 9 [c0]=some y0 from g0);obtain ⟨z1,e1,_,w1⟩:=DataW.trod_int Tryz.underlying22 (show DataW.trod enc Tryz.prog W 0 sp held m 22 [c1]=some y1 from g1);obtain ⟨z2,e2,_,w2⟩:=DataW.trod_int Tryz.underlying22 (show DataW.trod enc Tryz.prog W 0 sp held m 22 [c2]=some y2 from g2);obtain ⟨sg,e3,hsg⟩:=zfm m _ _ (show DataW.trod enc Tryz.prog W 0 sp held m 57 [c3,c4,c5,c6,c7,c8,c9,c10,c11]=some y3 from g3);obtain ⟨n1,h1,rfl⟩:=za4 w1;obtain ⟨n2,h2,rfl⟩:=za4 w2;obtain rfl:c0=.string s0:=by simpa using e0
 obtain rfl:c1=.int .u64 (n1:Int):=by simpa using e1
 obtain rfl:c2=.int .u64 (n2:Int):=by simpa using e2
 exact ⟨(s0,n1,n2,sg),by rw [e3];rfl,h1,h2,hsg⟩
theorem zkX {v:Value}{d:DataW H}{p:List MemPlace}{base:Nat}(hv:Value.okWide Tryz.prog W .any base 29 v)(h:DataW.Trod enc Tryz.prog W 0 sp held 29 v d p):
 ∃(hd:Hdr) (l:List Txn) (p:Option Addr) (n c:Nat) (q:Option Addr) (m k:Nat) (t:Option Addr) (z e:Nat),v=bkV hd p n c q m k t z e∧yQ p n c∧yQ q m k∧yQ t z e∧zca hd∧(∀x∈l,yt x)∧ju W hd l p n q m t z:=by
 obtain ⟨cs,rfl,hsz,_⟩:∃cs,v=.agg cs∧cs.size=Tryz.prog.cellsOf 29∧Row.okWide Tryz.prog W .any base 29 cs:=by
  simpa [Value.okWide,Tryz.underlying29] using hv
 rw [zkU] at hsz;obtain ⟨l⟩:=cs;obtain ⟨c0,c1,c2,c3,c4,c5,c6,c7,c8,c9,c10,c11,rfl⟩:=zfw l hsz;obtain ⟨fuel,hf⟩:=h;obtain ⟨xs,m,rfl,hxx,hl,hlen,hff⟩:=DataW.trod_struct Tryz.underlying29 hf;obtain ⟨y0,y1,rfl⟩:=zkR xs hlen;have g0:=hff 0 _ rfl;have g1:=hff 1 _ rfl;change DataW.trod enc Tryz.prog W 0 sp held m 26 (([c0,c1,c2,c3,c4,c5,c6,c7,c8,c9,c10,c11].drop 0).take (Tryz.prog.cellsOf 26))=some y0 at g0;change DataW.trod enc Tryz.prog W 0 sp held m 27 (([c0,c1,c2,c3,c4,c5,c6,c7,c8,c9,c10,c11].drop 11).take (Tryz.prog.cellsOf 27))=some y1 at g1;rw [zfj] at g0;rw [zkT] at g1;obtain ⟨⟨hd,⟨p,n,c⟩,q,mm,k⟩,e0,hnum,sl,sl2,hat⟩:=zkS m _ _ (show DataW.trod enc Tryz.prog W 0 sp held m 26 [c0,c1,c2,c3,c4,c5,c6,c7,c8,c9,c10]=some y0 from g0);obtain ⟨t,z,e,L,rfl,sl3,okL,atL⟩:=za5 (S:=tnS) Tryz.underlying27 zfv zkW (show DataW.trod enc Tryz.prog W 0 sp held m 27 [c11]=some y1 from g1);refine ⟨hd,L,p,n,c,q,mm,k,t,z,e,?_,sl,sl2,sl3,hnum,okL,hat,atL⟩;have e9:[c0,c1,c2,c3,c4,c5,c6,c7,c8,c9,c10,.slice t z e]=[c0,c1,c2,c3,c4,c5,c6,c7,c8,c9,c10]++ [Value.slice t z e]:=rfl;rw [e9,e0];rfl
end
end Go.Proofs.YthonokeibcodpaaGreatDoor
namespace Go.Proofs.YthonokeibcodpaaGreatDoor
open Go Go.RowKit
set_option linter.unusedVariables false
set_option maxRecDepth 100000
def zce:List Int:=[1,32898,0x800000000000808a,0x8000000080008000,32907,2147483649,0x8000000080008081,0x8000000000008009,138,136,2147516425,2147483658,2147516555,0x800000000000008b,0x8000000000008089,0x8000000000008003,0x8000000000008002,0x8000000000000080,32778,0x800000008000000a,0x8000000080008081,0x8000000000008080,2147483649,0x8000000080008008]
theorem zkY:Ke.marksC=(zce.map (Value.int .u64)).toArray:=kr
theorem zfx:Tryz.prog.globalNamed "ecclesia/keccak.marks" =some 0:=kr
theorem zkZ {W:World} (h:laidMetH Tryz.prog [("ecclesia/keccak.marks",Rows.laid_ecclesia_keccak_marks),("unicode/utf8.acceptRanges",Rows.laid_unicode_utf8_acceptRanges),("unicode/utf8.first",Rows.laid_unicode_utf8_first)] W):Ke.Marks W:=by
 rw [MakeChecks.laidMetH_plain _ _ _ kr] at h;have t:=Lib.tabIs_of_head (k:=.u64) (zs:=zce) zfx (show (Tryz.prog.globals[0]?).map (·.type)=some 134 by kernel_rfl) Tryz.underlying134 Tryz.underlying22 kr kr h;unfold Lib.TabIs World.var? at t;rw [zfx] at t;simp only [Option.bind_some] at t;split at t
 ·rename_i cs T fz hh
  exact ⟨T,fz,by rw [hh,zkY];exact congrArg (fun c=>some (Obj.cells c T fz)) (Option.some.inj t)⟩
 ·cases t
def zk0:Array Value:=(Go.Pinned.utf8FirstZ.map fun n=>Value.int .u8 ((n:Nat):Int)).toArray
def zk1:Array Value:=#[.int .u8 128,.int .u8 191,.int .u8 160,.int .u8 191,.int .u8 128,.int .u8 159,.int .u8 144,.int .u8 191,.int .u8 128,.int .u8 143,.int .u8 0,.int .u8 0,.int .u8 0,.int .u8 0,.int .u8 0,.int .u8 0,.int .u8 0,.int .u8 0,.int .u8 0,.int .u8 0,.int .u8 0,.int .u8 0,.int .u8 0,.int .u8 0,.int .u8 0,.int .u8 0,.int .u8 0,.int .u8 0,.int .u8 0,.int .u8 0,.int .u8 0,.int .u8 0]
noncomputable def zfy (os:Os):World:=
 let w0:=World.holding Tryz.prog os ⟨#[],#[],[]⟩
 { w0 with heap:=((w0.heap.modify 0 fun
  | .cells _ t frozen=>.cells (zce.map (Value.int .u64)).toArray t frozen
  | o=>o).modify 1 fun
  | .cells _ t frozen=>.cells zk0 t frozen
  | o=>o).modify 2 fun
  | .cells _ t frozen=>.cells zk1 t frozen
  | o=>o }
theorem zk2 (os:Os) (args:Array Value):laidMetH Tryz.prog [("ecclesia/keccak.marks",Rows.laid_ecclesia_keccak_marks),("unicode/utf8.acceptRanges",Rows.laid_unicode_utf8_acceptRanges),("unicode/utf8.first",Rows.laid_unicode_utf8_first)] ((zfy os).forCall (fun _ _=>0) ⟨#[],args,[]⟩).memory:=by
 rw [MakeChecks.laidMetH_plain _ _ _ kr];exact laidMet_of_run' 8 kr kr
end Go.Proofs.YthonokeibcodpaaGreatDoor
namespace Go.Proofs.YthonokeibcodpaaGreatDoor
open Go Go.RowKit
open D2 (Gh)
set_option linter.unusedVariables false
abbrev wrO (q:Option Addr)(n c:Nat):Obj:=.cells #[.slice q n c] 117 (0,0)
abbrev flO (C:Array Value):Obj:=.cells C 86 (0,0)
abbrev qz (x:Fel):Value:=.agg #[.int .u64 ((x.a.1:Nat):Int),.string x.a.2,.slice x.p x.n x.c]
def zF:Array Value:=#[wZ,.string em,.slice none 0 0]
def FnW (f:Nat)(args:Array Value)(p bd:Nat)(pre:World→Prop)(ok:List Fel→List (Nat×Obj)→Prop):Prop:=
 ∀(w0 w:World) (q:Option Addr) (n c:Nat) (row L:List (Nat×Obj)) (M:List Fel),M.length≤bd→RowE fS 86 q n c row M→pre w0→St w0.heap.size w0 w ((p,wrO q n c)::(row++L))→
  Calls Tryz.prog f args w fun e w'=> ∃v,e=.returned v∧v=.tuple #[]∧∃q' n' c' row' X T,ok X T∧RowE fS 86 q' n' c' row' (M++X)∧St w0.heap.size w0 w' ((p,wrO q' n' c')::(row'++(T++L)))
abbrev wrQ (w0:World)(p:Nat)(M:List Fel)(L:List (Nat×Obj))(ok:List Fel→List (Nat×Obj)→Prop):Value→World→Prop:=fun v w'=>
 v=.tuple #[]∧∃q' n' c' row' X T,ok X T∧RowE fS 86 q' n' c' row' (M++X)∧St w0.heap.size w0 w' ((p,wrO q' n' c')::(row'++(T++L)))
theorem FnW.intro {f:Nat}{fn:Func}{c:Code}(rs:List ResultVar)(N:Nat){args:Array Value}{p bd:Nat}{pre:World→Prop}{ok:List Fel→List (Nat×Obj)→Prop}(hf:Tryz.prog.funcs[f]? =some fn)(hb:fn.body=some c)(hr:fn.results.toList=rs)(hn:args.size+(fn.ntmps-args.size)=N)
 (h: ∀(w0 w:World) (q:Option Addr) (n c':Nat) (row L:List (Nat×Obj)) (M:List Fel),M.length≤bd→RowE fS 86 q n c' row M→pre w0→St w0.heap.size w0 w ((p,wrO q n c')::(row++L))→WP Tryz.prog N c (yu Tryz.prog rs (wrQ w0 p M L ok)) (ini args) w):FnW f args p bd pre ok:=
 fun w0 w q n c' row L M h1 h2 h3 h4=>(jG hf hb hr hn (h w0 w q n c' row L M h1 h2 h3 h4)).mono fun e w' ⟨v',he,hv⟩=>⟨v',he,hv⟩
theorem zaB {α:Type}(E A:List α)(x:α)(L:List α):(x::(A++(E++L))).Perm (E++x::(A++L)):=by
 refine List.Perm.trans ?_ (List.perm_middle.symm);refine List.Perm.cons _ ?_;rw [←List.append_assoc,←List.append_assoc];exact (List.perm_append_comm).append_right _
section
variable {N:Nat}{ops:Array Oper}{i:Nat}{r:List Nat}{K:Env→World→Prop}{ρ:Env}{w:World}{w0:World}{L row:List (Nat×Obj)}
theorem yz (E:List (Nat×Obj)){p:Nat}{q:Option Addr}{n c:Nat}{M:List Fel}(HS:St w0.heap.size w0 w (E++(p,wrO q n c)::(row++L)))(hR:RowE fS 86 q n c row M)(d:Option Nat)(f:Nat)(args:Array Value){bd:Nat}{pre:World→Prop}{ok:List Fel→List (Nat×Obj)→Prop}(hc:FnW f args p bd pre ok)(hM:M.length≤bd)(hp:pre w0)
 (h:opv Tryz.prog ops i ρ w=some (d,true,.ok (.enter f args) w)) (hd:dOK d N=true)
 (kk: ∀q' n' c' row' X T w',ok X T→RowE fS 86 q' n' c' row' (M++X)→St w0.heap.size w0 w' (E++(p,wrO q' n' c')::(row'++(T++L)))→WPs Tryz.prog N ops K r (zm ρ d (.tuple #[])) w'):WPs Tryz.prog N ops K (i::r) ρ w:=by
 obtain ⟨o,ho,rfl,hw,hr⟩:=zO h;refine WPo.run ho hw fun a ha=>?_;rw [hr,Oper.upon_enter];refine (hc w0 w q n c row (E++L) M hM hR hp (HS.perm (zaB E row _ L))).mono ?_;rintro _ w' ⟨_,rfl,rfl,q',n',c',row',X,T,hok,hR',HS'⟩;refine ⟨_,ha.put _ (zN hd) _,kk q' n' c' row' X T w' hok hR' (HS'.perm ?_)⟩;refine (zaB E row' (p,wrO q' n' c') (T++L)).symm.trans (List.Perm.cons _ ?_);refine List.Perm.append_left _ ?_;exact List.perm_append_comm_assoc _ _ _
end
theorem jB {w0 w:World}{p:Nat}{q:Option Addr}{n c:Nat}{row L T:List (Nat×Obj)}{X M:List Fel}{ok:List Fel→List (Nat×Obj)→Prop}(E:List (Nat×Obj))(hok:ok X T)(hR:RowE fS 86 q n c row (M++X))(HS:St w0.heap.size w0 w (E++(p,wrO q n c)::(row++(T++L)))):wrQ w0 p M L ok (.tuple #[]) w:=
 ⟨rfl,q,n,c,row,X,T,hok,hR,HS.sub (List.sublist_append_right ..)⟩
def qA (B:Nat)(w0:World)(p bx:Nat)(fO:Obj)(q:Option Addr)(n c:Nat)(fv:Value)(row:List (Nat×Obj))(xs:List Value)(T:List (Nat×Obj)):(Nat→Bool)→(Nat→Gh)→World→Prop:=fun L g w=>
 bif L 7 then (L 8=true→(g 8).b=(g 7).b)∧Rw 3 (g 7).cur (g 7).cap (n+1) (xs++zF.toList)∧St B w0 w ((bx,fO)::(p,.cells #[bif L 12 then .slice (some ⟨(g 7).b,0,none⟩) (n+1) (g 7).cap else .slice q n c] 117 (0,0))::((g 7).b,flO (bif L 9 then putA (g 7).cur (0+n*3) fv else (g 7).cur))::T)
 else bif L 6 then St B w0 w (((g 6).b,flO zF)::(bx,fO)::(p,wrO q n c)::(row++T))
 else St B w0 w ((bx,fO)::(p,wrO q n c)::(row++T))
section
variable {B:Nat}{w0:World}{p bx:Nat}{fO:Obj}{q:Option Addr}{n c:Nat}{fv:Value}{row:List (Nat×Obj)}{xs:List Value}{T:List (Nat×Obj)}{L:Nat→Bool}{g:Nat→Gh}{w:World}
theorem qA.st (h7:L 7=false)(h:qA B w0 p bx fO q n c fv row xs T L g w):∃l,St B w0 w l∧(bx,fO)∈l∧(p,wrO q n c)∈l:=by
 unfold qA at h;rw [h7] at h;cases h6:L 6 with
 | true=>rw [h6] at h;exact ⟨_,h,by simp,by simp⟩
 | false=>rw [h6] at h;exact ⟨_,h,by simp,by simp⟩
end
abbrev vN (x:Fel):List Fel→List (Nat×Obj)→Prop:=fun X T=>X=[x]∧T=[]
theorem zaC (p:Nat)(x:Fel):FnW 79 #[.pointer (some ⟨p,0,none⟩),qz x] p 100000 (fun _=>True) (vN x):=by
 refine FnW.intro (c:=zf Tryz.f79) [] 15 Tryz.func79 kr kr kr fun w0 w q n c row Lz M hM hRE _ HS=>?_;have hn:n=M.length:=hRE.len (by decide);refine zg [0] kr kr<|jw HS (some 3) 86 (.tmp 1) (qz x) kr kr kr ?_;intro bx w1 H1;refine zb<|wW ?_;have H2:St w0.heap.size w0 w1 ((bx,flO #[.int .u64 ((x.a.1:Nat):Int),.string x.a.2,.slice x.p x.n x.c])::(p,wrO q n c)::(row++Lz)):=H1;refine D2.g_draw0 [0,1,2,3,4,5,6,7,8,9,10,11,12] [(some 4,fun _=>.pointer (some ⟨p,0,none⟩)),(some 5,fun _=>.pointer (some ⟨p,0,none⟩)),(some 6,fun _=>.pointer (some ⟨p,0,none⟩)),(some 7,fun _=>.slice q n c),(some 8,fun _=>qz x),(some 9,fun _=>iN n),(some 10,fun y=>.slice (some ⟨y.b,0,none⟩) 1 1),(some 11,fun y=>.slice (some ⟨y.b,0,none⟩) (n+1) y.cap),(some 12,fun y=>.pointer (some ⟨y.b,0+n*3,none⟩)),(none,fun _=>undef),(some 13,fun _=>.pointer (some ⟨p,0,none⟩)),(some 14,fun _=>.pointer (some ⟨p,0,none⟩)),(none,fun _=>undef)]
  (qA w0.heap.size w0 p bx (flO #[.int .u64 ((x.a.1:Nat):Int),.string x.a.2,.slice x.p x.n x.c]) q n c (qz x) row (zJ fS M) Lz) kr kr kr H2.drew ⟨?_,?_,?_,?_,?_,?_,?_,?_,?_,?_,?_,?_,?_,trivial⟩ ?_
 ·exact D2.gv_val (fun _ _ _ h=>h) (fun g w=>by kernel_rfl)
 ·exact D2.gv_val (fun _ _ _ h=>h) (fun g w=>by kernel_rfl)
 ·exact D2.gv_val (fun _ _ _ h=>h) (fun g w=>by kernel_rfl)
 ·refine D2.gv_ld (fun _ _ _ h=>h) 82 (.tmp 6) (fun _=>p) 0 #[.slice q n c] 117 (0,0) (fun g=>by kernel_rfl) (fun g=>by kernel_rfl) (fun L g w hN hp=>?_) kr kr;obtain ⟨l,h,_,hm⟩:=hp.st (hN.post 7 kr);exact (h.own _ hm).2
 ·refine D2.gv_ld (fun _ _ _ h=>h) 86 (.tmp 3) (fun _=>bx) 0 #[.int .u64 ((x.a.1:Nat):Int),.string x.a.2,.slice x.p x.n x.c] 86 (0,0) (fun g=>by kernel_rfl) (fun g=>by kernel_rfl) (fun L g w hN hp=>?_) kr kr;obtain ⟨l,h,hm,_⟩:=hp.st (hN.post 7 kr);exact (h.own _ hm).2
 ·exact D2.gv_val (fun _ _ _ h=>h) (fun g w=>by kernel_rfl)
 ·refine D2.gives_of fun L1 gg ww hp hN=>?_;have h7:=hN.post 7 kr;unfold qA at hp;rw [h7,hN.1] at hp;obtain ⟨o,ho,hd,hw,hrun⟩:=zO (show opv _ _ 6 _ ww=some (some 10,true,.ok (.value (.slice (some ⟨ww.heap.size,0,none⟩) 1 1)) (ww.alloc (.cells zF 86))) by kernel_rfl);refine ⟨o,ho,hd,.inr ⟨hw,?_⟩⟩;refine (congrArg (D2.Runs _ _) hrun).mpr ?_;refine ⟨{ b:=ww.heap.size },rfl,?_⟩;unfold qA;rw [show D2.put1 L1 6 7=false from h7,show D2.put1 L1 6 6=true from rfl];exact St.alloc hp _
 ·refine D2.gives_of fun L1 gg ww hp hN=>?_;have h6:=hN.bef 6 kr;have h8:=hN.post 8 kr;have h9:=hN.post 9 kr;have h12:=hN.post 12 kr;unfold qA at hp;rw [hN.1,h6] at hp;obtain ⟨o,ho,hd,hw,hop⟩:=zD (show opk _ 7 _=some (some 11,true,yp 82 (.tmp 7) (.tmp 10)) by kernel_rfl);refine ⟨o,ho,hd,.inr ⟨hw,?_⟩⟩;rcases hRE with ⟨rfl,rfl,rfl,rfl,rfl⟩ | ⟨br,curr,rfl,rfl,hrw⟩
  ·obtain ⟨b',cap',cur',w',hrun,HS',hr'⟩:=ul (K:=3) hp (t:=82) (e:=86) (bytes:=48) (k:=0) (bx:=(gg 6).b) (c:=1) (Y:=zF) kr hop kr kr rfl rfl (jT rfl) (by omega);rw [hrun];refine ⟨{ b:=b',cap:=cap',cur:=cur' },rfl,?_⟩;unfold qA;rw [show D2.put1 L1 7 7=true from rfl,show D2.put1 L1 7 9=false from h9,show D2.put1 L1 7 12=false from h12];refine ⟨fun hh=>absurd (h8.symm.trans hh) (by decide),hr',?_⟩;exact (HS'.sub (List.Sublist.cons_cons _ (List.sublist_cons_self ..))).perm (List.perm_middle (l₁:=[(bx,flO #[.int .u64 ((x.a.1:Nat):Int),.string x.a.2,.slice x.p x.n x.c]),(p,wrO none 0 0)]))
  ·obtain ⟨b',cap',cur',w',hrun,HS',hr'⟩:=vm (K:=3) hp (t:=82) (e:=86) (bytes:=48) (j:=3) (k:=0) (bx:=(gg 6).b) (c:=1) (Y:=zF) kr hop kr rfl hrw kr rfl rfl (jT rfl) (by omega) (by unfold maxLen;omega);rw [hrun];refine ⟨{ b:=b',cap:=cap',cur:=cur' },rfl,?_⟩;unfold qA;rw [show D2.put1 L1 7 7=true from rfl,show D2.put1 L1 7 9=false from h9,show D2.put1 L1 7 12=false from h12];exact ⟨fun hh=>absurd (h8.symm.trans hh) (by decide),hr',HS'.sub (List.sublist_cons_self ..)⟩
 ·refine D2.gives_of fun L1 gg ww hp hN=>?_;have h7:=hN.bef 7 kr;obtain ⟨o,ho,hd,hw,hop⟩:=zD (show opk _ 8 _=some (some 12,true,.indexAddr 82 (.tmp 11) (.tmp 9)) by kernel_rfl);refine ⟨o,ho,hd,.inr ⟨hw,?_⟩⟩;rw [ys (kd:=.i64) (t:=82) (e:=86) (K:=3) (bytes:=48) kr (x:=(.tmp 11)) (y:=(.tmp 9)) (gg 7).b 0 (n+1) (gg 7).cap n rfl hop kr kr (by omega) ww];refine ⟨{ b:=(gg 7).b },rfl,?_⟩;unfold qA at hp ⊢;rw [h7] at hp;rw [show D2.put1 L1 8 7=true from h7];exact ⟨fun _=>rfl,hp.2.1,hp.2.2⟩
 ·refine D2.gives_of fun L1 gg ww hp hN=>?_;have h7:=hN.bef 7 kr;have h8:=hN.bef 8 kr;unfold qA at hp;rw [h7,hN.1] at hp;obtain ⟨hg8,hr',HS⟩:=hp;have hg:=hg8 h8;have hle:=hr'.putA (0+n*3) (qz x) (by show 0+n*3+3≤(n+1)*3;omega);obtain ⟨o,ho,hd,hw,hop⟩:=zD (show opk _ 9 _=some (none,true,.store 86 (.tmp 12) (.tmp 8)) by kernel_rfl);refine ⟨o,ho,hd,.inr ⟨hw,?_⟩⟩;rw [xP (t:=86) (off:=0+n*3) (b:=(gg 7).b) (C:=(gg 7).cur) (T:=86) (v:=qz x) (C':=putA (gg 7).cur (0+n*3) (qz x)) (HS.get 2 kr) kr kr hle.1 rfl (by rw [←hg];kernel_rfl) kr o hop];refine ⟨default,rfl,?_⟩;unfold qA;rw [show D2.put1 L1 9 7=true from h7,show D2.put1 L1 9 9=true from rfl];exact ⟨fun h=>hg8 h,hr',HS.store 2 (C:=(gg 7).cur) kr⟩
 ·exact D2.gv_val (fun _ _ _ h=>h) (fun g w=>by kernel_rfl)
 ·exact D2.gv_val (fun _ _ _ h=>h) (fun g w=>by kernel_rfl)
 ·refine D2.gives_of fun L1 gg ww hp hN=>?_;have h7:=hN.bef 7 kr;unfold qA at hp;rw [h7,hN.1] at hp;obtain ⟨hg8,hr',HS⟩:=hp;obtain ⟨o,ho,hd,hw,hop⟩:=zD (show opk _ 12 _=some (none,true,.store 82 (.tmp 14) (.tmp 11)) by kernel_rfl);refine ⟨o,ho,hd,.inr ⟨hw,?_⟩⟩;rw [xP (t:=82) (off:=0) (b:=p) (C:=#[.slice q n c]) (T:=117) (v:=.slice (some ⟨(gg 7).b,0,none⟩) (n+1) (gg 7).cap) (C':=#[.slice (some ⟨(gg 7).b,0,none⟩) (n+1) (gg 7).cap]) (HS.get 1 kr) kr kr (Nat.le_of_ble_eq_true kr) rfl kr kr o hop];refine ⟨default,rfl,?_⟩;unfold qA;rw [show D2.put1 L1 12 7=true from h7,show D2.put1 L1 12 12=true from rfl];exact ⟨fun h=>hg8 h,hr',HS.store 1 (C:=#[.slice q n c]) kr⟩
 ·intro L1 gg w14 hall hp;unfold qA at hp;rw [hall 7 (Nat.le_of_ble_eq_true kr),hall 9 (Nat.le_of_ble_eq_true kr),hall 12 (Nat.le_of_ble_eq_true kr)] at hp;obtain ⟨_,hr',H4⟩:=hp;have hMl:(zJ fS M).length=0+n*3:=by rw [xO,hn,Nat.zero_add];rfl
  have hnew:Rw 3 (putA (gg 7).cur (0+n*3) (qz x)) (gg 7).cap (n+1) (zJ fS (M++ [x])):=by
   have h1:=(hr'.putA (0+n*3) (qz x) (by show 0+n*3+3≤(n+1)*3;omega)).2;have h2:=za2 (X:=zJ fS M) (Z:=zF.toList) (V:=(qz x).cells.toList) hMl rfl;rw [vk];exact h2▸h1
  refine ⟨[],.nil,?_⟩;exact jB (X:=[x]) (T:=[]) (row:=[((gg 7).b,flO (putA (gg 7).cur (0+n*3) (qz x)))]) [(bx,flO #[.int .u64 ((x.a.1:Nat):Int),.string x.a.2,.slice x.p x.n x.c])] ⟨rfl,rfl⟩ (.inr ⟨_,_,rfl,rfl,hnew⟩) H4
end Go.Proofs.YthonokeibcodpaaGreatDoor
namespace Go.Proofs.YthonokeibcodpaaGreatDoor
open Go Go.RowKit
set_option linter.unusedVariables false
theorem yA {w w':World}(h:Ke.Marks w)(hb:Below w.heap.size w w'):Ke.Marks w':=by
 obtain ⟨T,fz,h⟩:=h;exact ⟨T,fz,by rw [hb.block 0 (zv h)];exact h⟩
theorem zk3 (s:ByteArray)(hs:s.size<0x4000000000000000):FnP Tryz.prog 48 #[.string s] Ke.Marks (.string (zh (Kec.sumB (tl s)))):=by
 refine FnP.intro (c:=zf Tryz.f48) [.tmp 2] 6 Tryz.func48 kr kr kr fun w hM=>rS [.v] (St.start w) kr fun gs1 w1 H1=>zg [0,1,2,3] kr kr<|rp [.v,.nw (fun b=>.slice (some ⟨b,0,none⟩) 1 1) #[.string s] 9] H1 kr fun gs2 w2 H2=>wX [2,3] ?_;have H3:St w.heap.size w w2 [((gs2 1).b,.cells #[.string s] 9 (0,0))]:=H2.as kr;refine yC H3 (some 5) 29 #[.slice (some ⟨(gs2 1).b,0,none⟩) 1 1] _ _ (Ke.of_fn1 (gs2 1).b s hs) ⟨yA hM H3.below,H3.get 0 rfl⟩ (fun w=>by kernel_rfl) kr ?_;intro w3 H4;refine rp [.v] H4 kr fun gs3 w4 H5=>wX []<|zb ?_;exact rR [.tmp 2] [] (.string (zh (Kec.sumB (tl s)))) H5 kr
def txV (to:ByteArray)(a n r s:Nat)(v:Int):Value:=.agg #[.string to,.int .u64 (a:Int),.int .u64 (n:Int),.int .u64 (w0 r),.int .u64 (w1 r),.int .u64 (w2 r),.int .u64 (w3 r),.int .u64 (w0 s),.int .u64 (w1 s),.int .u64 (w2 s),.int .u64 (w3 s),.int .i64 v]
abbrev txO (to:ByteArray)(a n r s:Nat)(v:Int):Obj:=.cells #[.string to,.int .u64 (a:Int),.int .u64 (n:Int),.int .u64 (w0 r),.int .u64 (w1 r),.int .u64 (w2 r),.int .u64 (w3 r),.int .u64 (w0 s),.int .u64 (w1 s),.int .u64 (w2 s),.int .u64 (w3 s),.int .i64 v] 59 (0,0)
def zaD (x1 x2 x3 x4:Nat×ByteArray):Array Value:=#[.int .u64 ((x1.1:Nat):Int),.string x1.2,.slice none 0 0,.int .u64 ((x2.1:Nat):Int),.string x2.2,.slice none 0 0,.int .u64 ((x3.1:Nat):Int),.string x3.2,.slice none 0 0,.int .u64 ((x4.1:Nat):Int),.string x4.2,.slice none 0 0]
theorem zk4 {T:List (Nat×Obj)}{b:Nat}(x1 x2 x3 x4:Nat×ByteArray)(hm:(b,Obj.cells (zaD x1 x2 x3 x4) 86 (0,0))∈T)(h1:fS.ok x1)(h2:fS.ok x2)(h3:fS.ok x3)(h4:fS.ok x4):RIn fS T (some ⟨b,0,none⟩) 4 (.cons x1 .nil (.cons x2 .nil (.cons x3 .nil (.cons x4 .nil .nil)))):=
 ⟨rfl,by decide,.inr ⟨b,0,rfl,⟨_,_,_,none,0,0,hm,of_decide_eq_true kr,by kernel_rfl,h1,rfl,by decide,.inl rfl⟩,⟨_,_,_,none,0,0,hm,of_decide_eq_true kr,by kernel_rfl,h2,rfl,by decide,.inl rfl⟩,⟨_,_,_,none,0,0,hm,of_decide_eq_true kr,by kernel_rfl,h3,rfl,by decide,.inl rfl⟩,⟨_,_,_,none,0,0,hm,of_decide_eq_true kr,by kernel_rfl,h4,rfl,by decide,.inl rfl⟩,trivial⟩⟩
def zfz (r s:Nat)(v:Int):Value:=.tuple #[.string (if zQ r s v=true then sbs r s v else em),.int .i64 (if zQ r s v=true then 0 else 1)]
theorem zk5 (r s:Nat)(hr:r<big)(hs:s<big)(v:Int):Fn Tryz.prog 41 #[sgv r s v] (zfz r s v):=by
 unfold zfz;cases hm:zQ r s v with
 | true=>exact zbP r s hr hs v hm
 | false=>exact zeS r s hr hs v hm
theorem zk6 (to:ByteArray)(a n r s:Nat)(v:Int)(hr:r<big)(hs:s<big)(h:zQ r s v=true):Fn Tryz.prog 47 #[txV to a n r s v] (.bool true):=by
 have hb:(!(decide (r=0)&&(decide (s=0)&&(v==0))))=true:=by rw [decide_eq_false (zkn h)];rfl
 refine Fn.intro (c:=zf Tryz.f47) [.tmp 2] 7 Tryz.func47 kr kr kr fun w=>rS [.b,.v] (St.start w) kr fun gs1 w1 H1=>rS [.v,.l 0,.v,.oe (ins:=[((.tmp 4),.agg (Value.cells (sgv r s v))),((.tmp 5),.agg (Value.cells (sgv 0 0 0)))]) (v:=.bool (!(decide (r=0)&&(decide (s=0)&&(v==0))))) (v':=.bool true) (fun ρ o w ho hi=>zbT r s v 0 0 0 hr hs (by decide) (by decide) (x:=(.tmp 4)) (y:=(.tmp 5)) w ho hi.1 hi.2.1) (za hb),.v] H1 kr fun gs2 w2 H2=>?_;exact rR [.tmp 2] [] (.bool true) H2 kr
theorem zk7 (to:ByteArray)(a n:Nat):Fn Tryz.prog 47 #[txV to a n 0 0 0] (.bool false):=by
 refine Fn.intro (c:=zf Tryz.f47) [.tmp 2] 7 Tryz.func47 kr kr kr fun w=>rS [.b,.v] (St.start w) kr fun gs1 w1 H1=>rS [.v,.l 0,.v,.oe (ins:=[((.tmp 4),.agg (Value.cells (sgv 0 0 0))),((.tmp 5),.agg (Value.cells (sgv 0 0 0)))]) (v:=.bool (!(decide (0=0)&&(decide (0=0)&&((0:Int)==0))))) (v':=.bool false) (fun ρ o w ho hi=>zbT 0 0 0 0 0 0 (by decide) (by decide) (by decide) (by decide) (x:=(.tmp 4)) (y:=(.tmp 5)) w ho hi.1 hi.2.1) (za rfl),.v] H1 kr fun gs2 w2 H2=>?_;exact rR [.tmp 2] [] (.bool false) H2 kr
theorem zfA (to:ByteArray)(a n r s:Nat)(v:Int)(hz:to.size≤1000000)(ha:a<0x10000000000000000)(hn:n<0x10000000000000000)(hr:r<big)(hs:s<big):Fn Tryz.prog 23 #[txV to a n r s v] (qS (txW to a n r s v)):=by
 refine Fn.intro (c:=zf Tryz.f23) [.tmp 2,.tmp 3] 27 Tryz.func23 kr kr kr fun w=>rS [.b,.v,.v] (St.start w) kr fun gs1 w1 H1=>rS [.v,.l 0,.c (zk5 r s hr hs v),.v,.v,.v,.v,.v] H1 kr fun gs2 w2 H2=>?_;have hsg:(if zQ r s v=true then sbs r s v else em).size≤0x800000000000:=by
  split
  ·rw [jA];omega
  ·exact Nat.zero_le _
 unfold txW;generalize (if zQ r s v=true then sbs r s v else em)=sg at*;refine zg [0,1,2,3,4,5,6,7,8,9,10,11,12,13,14,15,16] kr kr<|rp [.v,.l 0,.v,.v,.l 0,.v,.v,.l 0,.v,.v,.v,.nw (fun b=>.slice (some ⟨b,0,none⟩) 4 4) (zaD (0,to) (a,em) (n,em) (0,sg)) 86] H2 kr fun gs3 w3 H3=>wX [12,13,14,15,16] ?_;have H4:St w.heap.size w w3 [((gs1 0).b,txO to a n r s v),((gs3 11).b,.cells (zaD (0,to) (a,em) (n,em) (0,sg)) 86 (0,0))]:=H3.as kr;have hin:RIn fS [((gs1 0).b,txO to a n r s v),((gs3 11).b,.cells (zaD (0,to) (a,em) (n,em) (0,sg)) 86 (0,0))] (some ⟨(gs3 11).b,0,none⟩) 4 (txF to a n sg):=
  zk4 (0,to) (a,em) (n,em) (0,sg) (List.mem_cons_of_mem _ (List.mem_cons_self ..)) ⟨(by decide:0<0x10000000000000000),by show to.size≤_;omega⟩ ⟨ha,Nat.zero_le _⟩ ⟨hn,Nat.zero_le _⟩ ⟨(by decide:0<0x10000000000000000),hsg⟩
 refine yC H4 (some 24) 39 #[.string jX,.slice (some ⟨(gs3 11).b,0,none⟩) 4 4] _ _ (zeE jX (some ⟨(gs3 11).b,0,none⟩) 4 4 (txF to a n sg)) (hin.at H4 fun e he=>he) (fun w=>by kernel_rfl) kr ?_;intro w4 H5;refine rp [.v,.v,.v,.v] H5 kr fun gs4 w5 H6=>wX []<|zb ?_;exact rR [.tmp 2,.tmp 3] [] (qS (wrV jX (txF to a n sg))) H6 kr
def kI (S:ByteArray)(v:Value)(T:List (Nat×Obj)):Prop:=
 (∃(to:ByteArray) (a n r s:Nat) (vv:Int),v=.tuple #[txV to a n r s vv,.int .i64 0]∧qH to r s vv=true∧a<0x10000000000000000∧n<0x10000000000000000∧r<big∧s<big∧txW to a n r s vv=(S,0))∨
 (v=.tuple #[txV em 0 0 0 0 0,.int .i64 4]∧ ∀(to:ByteArray) (a n r s:Nat) (vv:Int),qH to r s vv=true→a<0x10000000000000000→n<0x10000000000000000→r<big→s<big→txW to a n r s vv≠(S,0))
theorem zaE {to:ByteArray}{a n:Nat}{sg:ByteArray}(h1:to.size≤1000000)(ha:a<0x10000000000000000)(hn:n<0x10000000000000000)(h2:sg.size≤1000000):(txF to a n sg).all fS.ok:=
 ⟨⟨(by decide:0<0x10000000000000000),by show to.size≤_;omega⟩,trivial,⟨ha,Nat.zero_le _⟩,trivial,⟨hn,Nat.zero_le _⟩,trivial,⟨(by decide:0<0x10000000000000000),by show sg.size≤_;omega⟩,trivial,trivial⟩
theorem vO {C:Array Value}{o:Nat}{a b c:Value}(hs:o+3≤C.size)(h:C.extract o (o+3)=([a,b]++ [c]).toArray):C[o]? =some a∧C[o+1]? =some b∧C[o+2]? =some c:=by
 have key: ∀j,j<3→C[o+j]? =(([a,b]++ [c]).toArray)[j]? :=fun j hj=>by
  rw [←h,Array.getElem?_extract,if_pos (by omega)]
 exact ⟨key 0 (by decide),key 1 (by decide),key 2 (by decide)⟩
theorem zk8 {B:Nat}{w0 w:World}{l T:List (Nat×Obj)}{p:Option Addr}{n4:Nat}{to:ByteArray}{a n:Nat}{sg:ByteArray}(h:RIn fS T p n4 (txF to a n sg))(hS:St B w0 w l)(hl: ∀e∈T,e∈l):
 n4=4∧∃b off C ty fz,p=some ⟨b,off,none⟩∧(b,Obj.cells C ty fz)∈T∧C[off+0*3+1]? =some (.string to)∧C[off+1*3+0]? =some (.int .u64 (a:Int))∧C[off+2*3+0]? =some (.int .u64 (n:Int))∧C[off+3*3+1]? =some (.string sg):=by
 obtain ⟨h1,h2,h|⟨b,off,e,⟨⟨C,ty,fz,p1,n1,c1,m1,s1,x1,_⟩,⟨⟨C2,ty2,fz2,p2,n2,c2,m2,s2,x2,_⟩,⟨⟨C3,ty3,fz3,p3,n3,c3,m3,s3,x3,_⟩,⟨⟨C4,ty4,fz4,p4,n4,c4,m4,s4,x4,_⟩,_⟩⟩⟩⟩⟩⟩:=h
 ·cases h
 ·have hh:=(hS.own _ (hl _ m1)).2;have q2:=(hS.own _ (hl _ m2)).2;have q3:=(hS.own _ (hl _ m3)).2;have q4:=(hS.own _ (hl _ m4)).2;rw [hh] at q2 q3 q4;injection q2 with q2;injection q2 with q2 _ _;injection q3 with q3;injection q3 with q3 _ _;injection q4 with q4;injection q4 with q4 _ _
  subst q2 q3 q4;have k1:=vO s1 x1;have k2:=vO s2 x2;have k3:=vO s3 x3;have k4:=vO s4 x4;refine ⟨h1,b,off,C,ty,fz,e,m1,?_,?_,?_,?_⟩
  ·rw [show off+0*3+1=off+1 by omega];exact k1.2.1
  ·rw [show off+1*3+0=off+3 by omega];exact k2.1
  ·rw [show off+2*3+0=off+3+3 by omega];exact k3.1
  ·rw [show off+3*3+1=off+3+3+3+1 by omega];exact k4.2.1
theorem zk9 (S:ByteArray)(hS:S.size≤1000000):FnT Tryz.prog 27 #[.string S] (fun _=>True) (kI S):=by
 have hno:(∀(to:ByteArray) (a n:Nat) (sg:ByteArray),sg.size=65→zQ (sgR sg) (sgS sg) (sgV sg)=true→to.size=20→a<0x10000000000000000→n<0x10000000000000000→yr 40 (kfL xC) (0,⟨#[]⟩) (txF to a n sg)≠(S,0))→ ∀(to:ByteArray) (a n r s:Nat) (vv:Int),qH to r s vv=true→a<0x10000000000000000→n<0x10000000000000000→r<big→s<big→txW to a n r s vv≠(S,0):=fun h to a n r s vv hR ha hn hr hs e=>by
  rw [kG hR] at e;unfold qH at hR;rw [Bool.and_eq_true,decide_eq_true_iff] at hR;refine h to a n (sbs r s vv) (jA r s vv) (by rw [zaq hr,zar hs,zas hR.2];exact hR.2) hR.1 ha hn ?_;unfold wrV at e;rw [jY.parse] at e;exact e
 refine FnT.intro (c:=zf Tryz.f27) [.cell 2 59,.tmp 3] 42 Tryz.func27 kr kr kr fun w _=>rS [.a,.v] (St.start w) kr fun gs1 w1 H1=>zg [0,1,2,3,4,5,6] kr kr<|rp [.v] H1 kr fun gs2 w2 H2=>wX [1,2,3,4,5,6] ?_;have H3:St w.heap.size w w2 [((gs1 0).b,txO em 0 0 0 0 0)]:=H2.as kr;refine qD H3 (some 9) 44 #[.string jX,.string S] (zeG jX S (by omega)) trivial kr kr ?_;intro v T w3 hrd H4;rcases hrd with ⟨p4,n4,c4,l4,k4,hp4,rfl,hR4,hw4⟩ | ⟨e,he,rfl,hbad⟩
 ·obtain rfl:kfL xC=k4:=Option.some.inj (jY.parse.symm.trans hp4);refine rp [.v,.v,.v,.v,.v] H4 kr fun gs3 w4 H5=>wX []<|zb<|wW<|zc kr<|rS [.v,.v] H5 kr fun gs4 w5 H6=>zl kr kr<|zn kr<|wW ?_;have hfit:=(uW jY.kd l4).1 (xB hw4).1;obtain ⟨to,a,n,sg,rfl,hto,hsg⟩:=(zbU l4).1 hfit.1;have hok4:=(hR4.at H6 fun e he=>List.mem_append_left _ he).ok;have ha:a<0x10000000000000000:=hok4.2.2.1.1;have hn:n<0x10000000000000000:=hok4.2.2.2.2.1.1;obtain ⟨rfl,b,off,C,ty,fz,rfl,hmem,e1,e2,e3,e4⟩:=zk8 hR4 H6 fun e he=>List.mem_append_left _ he;have H7:St w.heap.size w w5 [(b,.cells C ty fz),((gs1 0).b,txO em 0 0 0 0 0)]:=H6.sub (List.Sublist.append (List.singleton_sublist.2 hmem) (List.Sublist.refl _));refine dSg (fun gsd=>[.v,.o (ins:=[((.tmp 15),.slice (some ⟨b,off,none⟩) 4 c4)]) (v:=.pointer (some ⟨b,off+0*3,none⟩)) (fun ρ o w ho hi2=>ys (kd:=.i64) (t:=82) (e:=86) (K:=3) (bytes:=48) kr (x:=(.tmp 15)) (y:=.const (.int .i64 0)) b off 4 c4 0 rfl ho hi2.1 rfl (by decide) w),.v,.ls 0 (C:=C) (off:=off+0*3+1) (v:=.string to) e1,.v,.o (ins:=[((.tmp 19),.slice (some ⟨b,off,none⟩) 4 c4)]) (v:=.pointer (some ⟨b,off+1*3,none⟩)) (fun ρ o w ho hi2=>ys (kd:=.i64) (t:=82) (e:=86) (K:=3) (bytes:=48) kr (x:=(.tmp 19)) (y:=.const (.int .i64 1)) b off 4 c4 1 rfl ho hi2.1 rfl (by decide) w),.v,.ls 0 (C:=C) (off:=off+1*3+0) (v:=.int .u64 (a:Int)) e2,.v,.o (ins:=[((.tmp 23),.slice (some ⟨b,off,none⟩) 4 c4)]) (v:=.pointer (some ⟨b,off+2*3,none⟩)) (fun ρ o w ho hi2=>ys (kd:=.i64) (t:=82) (e:=86) (K:=3) (bytes:=48) kr (x:=(.tmp 23)) (y:=.const (.int .i64 2)) b off 4 c4 2 rfl ho hi2.1 rfl (by decide) w),.v,.ls 0 (C:=C) (off:=off+2*3+0) (v:=.int .u64 (n:Int)) e3,.v,.a,.s 2]) H7 kr fun gsd w6 H8=>?_;have hfr:=zeT sg (by omega);rw [zeX] at hfr;by_cases hm:zQ (sgR sg) (sgS sg) (sgV sg)=true
  ·rw [if_pos ⟨hsg,hm⟩] at hfr;refine rS [.v,.o (ins:=[((.tmp 29),.slice (some ⟨b,off,none⟩) 4 c4)]) (v:=.pointer (some ⟨b,off+3*3,none⟩)) (fun ρ o w ho hi2=>ys (kd:=.i64) (t:=82) (e:=86) (K:=3) (bytes:=48) kr (x:=(.tmp 29)) (y:=.const (.int .i64 3)) b off 4 c4 3 rfl ho hi2.1 rfl (by decide) w),.v,.ls 0 (C:=C) (off:=off+3*3+1) (v:=.string sg) e4,.c hfr,.v,.v,.v,.v,.s 2] H8 kr fun gs5 w7 H9=>zc kr<|rS [.l 2,.c (zk6 to a n (sgR sg) (sgS sg) (sgV sg) (zbR hsg) (zbS hsg) hm),.v] H9 kr fun gs6 w8 H10=>zl kr kr<|zn kr<|wW<|rS [.l 2,.s 1,.v] H10 kr fun gs7 w9 H11=>rRr [.cell 2 59,.tmp 3] [1] (.tuple #[txV to a n (sgR sg) (sgS sg) (sgV sg),.int .i64 0]) (zX w.heap.size w (kI S)) H11 kr ?_;have hR:qH to (sgR sg) (sgS sg) (sgV sg)=true:=by unfold qH;rw [decide_eq_true hto,hm];rfl
   refine ⟨[],.inl ⟨to,a,n,_,_,_,rfl,hR,ha,hn,zbR hsg,zbS hsg,?_⟩,H11.sub (List.nil_sublist _)⟩;rw [kG hR,zkl hsg];unfold wrV;rw [jY.parse];exact hw4
  ·rw [if_neg (fun h9=>hm h9.2)] at hfr;refine rS [.v,.o (ins:=[((.tmp 29),.slice (some ⟨b,off,none⟩) 4 c4)]) (v:=.pointer (some ⟨b,off+3*3,none⟩)) (fun ρ o w ho hi2=>ys (kd:=.i64) (t:=82) (e:=86) (K:=3) (bytes:=48) kr (x:=(.tmp 29)) (y:=.const (.int .i64 3)) b off 4 c4 3 rfl ho hi2.1 rfl (by decide) w),.v,.ls 0 (C:=C) (off:=off+3*3+1) (v:=.string sg) e4,.c hfr,.v,.v,.v,.v,.s 2] H8 kr fun gs5 w7 H9=>zc kr<|rS [.l 2,.c (zk7 to a n),.v] H9 kr fun gs6 w8 H10=>zj kr kr<|rS [.v,.s 1,.v] H10 kr fun gs7 w9 H11=>rRr [.cell 2 59,.tmp 3] [1] (.tuple #[txV em 0 0 0 0 0,.int .i64 4]) (zX w.heap.size w (kI S)) H11 kr ?_;refine ⟨[],.inr ⟨rfl,hno fun to' a' n' sg' h1 h2 h3 ha' hn' e=>?_⟩,H11.sub (List.nil_sublist _)⟩;have:=zag e hw4 (zaE (by omega) ha' hn' (by omega)) hok4;obtain ⟨_,_,_,rfl⟩:=zeZ this;exact hm h2
 ·refine rp [.v,.v,.v,.v,.v] H4 kr fun gs3 w4 H5=>wX []<|zb<|wW<|zc kr<|rS [.v,.E (.bool (!(e==0))) (.bool true) (za (by rw [beq_eq_false_iff_ne.2 he];rfl))] H5 kr fun gs4 w5 H6=>zj kr kr ?_;have H7:St w.heap.size w w5 [((gs1 0).b,txO em 0 0 0 0 0)]:=H6.sub (List.sublist_append_right T _);refine rS [.v,.s 0,.v] H7 kr fun gs5 w6 H8=>rRr [.cell 2 59,.tmp 3] [0] (.tuple #[txV em 0 0 0 0 0,.int .i64 4]) (zX w.heap.size w (kI S)) H8 kr ?_;refine ⟨[],.inr ⟨rfl,hno fun to' a' n' sg' h1 h2 h3 ha' hn' e=>?_⟩,H8.sub (List.nil_sublist _)⟩;exact hbad _ _ jY.parse (zaE (by omega) ha' hn' (by omega)) e
theorem zfB (to:ByteArray)(a n r s:Nat)(v:Int)(hz:to.size≤1000000)(ha:a<0x10000000000000000)(hn:n<0x10000000000000000)(hr:r<big)(hs:s<big):FnP Tryz.prog 28 #[txV to a n r s v] Ke.Marks (if (txW to a n r s v).2=0 then .tuple #[.string (zh (Kec.sumB (tl (txW to a n r s v).1))),.int .i64 0] else .tuple #[.string em,.int .i64 (((txW to a n r s v).2:Nat):Int)]):=by
 have hw:=zjB jX (txF to a n (if zQ r s v=true then sbs r s v else em));have hbytes:=zfA to a n r s v hz ha hn hr hs;have hwz:(txW to a n r s v).1.size≤4000:=hw;generalize txW to a n r s v=x at*;obtain ⟨xb,xe⟩:=x;refine FnP.intro (c:=zf Tryz.f28) [.tmp 2,.tmp 3] 16 Tryz.func28 kr kr kr fun w hM=>rS [.b,.v,.v] (St.start w) kr fun gs1 w1 H1=>rS [.l 0,.c hbytes,.v,.v,.v,.v,.v] H1 kr fun gs2 w2 H2=>zc kr ?_;by_cases h0:xe=0
 ·subst h0;rw [if_pos rfl];refine rS [.v,.v] H2 kr fun gs3 w3 H3=>zl kr kr<|zn kr<|wW<|rS [.v,.cp (pre:=Ke.Marks) (zk3 xb (by simp only at hwz;omega)) [] (fun w hb hd=>yA hM hb),.v,.v] H3 kr fun gs4 w4 H4=>?_;exact rR [.tmp 2,.tmp 3] [] (.tuple #[.string (zh (Kec.sumB (tl xb))),.int .i64 0]) H4 kr
 ·rw [if_neg h0];refine rS [.v,.E (.bool (!((xe:Int)==0))) (.bool true) (za (by rw [beq_eq_false_iff_ne.2 (show (xe:Int)≠0 by omega)];rfl))] H2 kr fun gs3 w3 H3=>zj kr kr<|rS [.v,.v,.v] H3 kr fun gs4 w4 H4=>?_;exact rR [.tmp 2,.tmp 3] [] (.tuple #[.string em,.int .i64 (xe:Int)]) H4 kr
end Go.Proofs.YthonokeibcodpaaGreatDoor
namespace Go.Proofs.YthonokeibcodpaaGreatDoor
open Go Go.RowKit
open D2 (Gh)
set_option linter.unusedVariables false
def fn0 (m:Nat):Fel:=⟨(m,em),none,0,0,.nil⟩
theorem xG (p:Nat)(s:ByteArray):FnW 60 #[.pointer (some ⟨p,0,none⟩),.string s] p 100000 (fun _=>True) (vN (fe0 s)):=by
 refine FnW.intro (c:=zf Tryz.f60) [] 8 Tryz.func60 kr kr kr fun w0 w q n c row L M hM hRE _ HS=>yo [0,1,2,3] kr<|rp [.v,.v,.v] HS kr fun gs1 w1 H1=>wX [3]<|yz (row:=row) (L:=L) [] (q:=q) (n:=n) (c:=c) (p:=p) (M:=M) (H1.as kr) hRE (some 7) 79 #[.pointer (some ⟨p,0,none⟩),qz (fe0 s)] (zaC p (fe0 s)) hM trivial kr kr ?_;intro q' n' c' row' X T w2 hok hR' H2;refine zb ?_;exact ⟨[],.nil,jB [] hok hR' H2⟩
theorem zaF (p:Nat)(m:Nat):FnW 61 #[.pointer (some ⟨p,0,none⟩),.int .u64 (m:Int)] p 100000 (fun _=>True) (vN (fn0 m)):=by
 refine FnW.intro (c:=zf Tryz.f61) [] 8 Tryz.func61 kr kr kr fun w0 w q n c row L M hM hRE _ HS=>yo [0,1,2,3] kr<|rp [.v,.v,.v] HS kr fun gs1 w1 H1=>wX [3]<|yz (row:=row) (L:=L) [] (q:=q) (n:=n) (c:=c) (p:=p) (M:=M) (H1.as kr) hRE (some 7) 79 #[.pointer (some ⟨p,0,none⟩),qz (fn0 m)] (zaC p (fn0 m)) hM trivial kr kr ?_;intro q' n' c' row' X T w2 hok hR' H2;refine zb ?_;exact ⟨[],.nil,jB [] hok hR' H2⟩
theorem zla (p:Nat)(b:Bool):FnW 63 #[.pointer (some ⟨p,0,none⟩),.bool b] p 100000 (fun _=>True) (vN (fn0 (adN b))):=by
 refine FnW.intro (c:=zf Tryz.f63) [] 9 Tryz.func63 kr kr kr fun w0 w q n c row L M hM hRE _ HS=>?_;cases b with
 | true=>
  refine rS [.v] HS kr fun gs1 w1 H1=>zU<|yo [0,1] kr<|rp [.v] H1 kr fun gs2 w2 H2=>wX [1]<|yz (row:=row) (L:=L) [] (q:=q) (n:=n) (c:=c) (p:=p) (M:=M) (H2.as kr) hRE (some 6) 61 #[.pointer (some ⟨p,0,none⟩),.int .u64 ((1:Nat):Int)] (zaF p 1) hM trivial kr kr ?_;intro q' n' c' row' X T w3 hok hR' H3;refine zb ?_;exact ⟨[],.nil,jB [] hok hR' H3⟩
 | false=>
  refine rS [.v] HS kr fun gs1 w1 H1=>zl kr kr<|yo [0,1] kr<|rp [.v] H1 kr fun gs2 w2 H2=>wX [1]<|yz (row:=row) (L:=L) [] (q:=q) (n:=n) (c:=c) (p:=p) (M:=M) (H2.as kr) hRE (some 8) 61 #[.pointer (some ⟨p,0,none⟩),.int .u64 ((0:Nat):Int)] (zaF p 0) hM trivial kr kr ?_;intro q' n' c' row' X T w3 hok hR' H3;refine zb ?_;exact ⟨[],.nil,jB [] hok hR' H3⟩
theorem zlb (p:Nat)(x:Sg)(ho:sgOk x)(hm:sgMay x=true):FnW 82 #[.pointer (some ⟨p,0,none⟩),.agg (sgC x)] p 100000 (fun _=>True) (vN (fe0 (sgB x))):=by
 have hb:=zbP x.1 x.2.1 ho.1 ho.2 x.2.2 hm;refine FnW.intro (c:=zf Tryz.f82) [] 14 Tryz.func82 kr kr kr fun w0 w q n c row L M hM hRE _ HS=>zg [0] kr kr<|jw HS (some 3) 57 (.tmp 1) (.agg (sgC x)) kr kr kr ?_;intro bx w1 H1;refine zb ?_;have H2:St w0.heap.size w0 w1 ((bx,sgO x)::(p,wrO q n c)::(row++L)):=H1;refine rS [.l 0,.c hb,.v,.v,.v,.v,.v] H2 kr fun gs2 w2 H3=>yo [0,1,2] kr<|rp [.v,.v] H3 kr fun gs3 w3 H4=>wX [2]<|yz (row:=row) (L:=L) [(bx,sgO x)] (q:=q) (n:=n) (c:=c) (p:=p) (M:=M) (H4.as kr) hRE (some 13) 60 #[.pointer (some ⟨p,0,none⟩),.string (sgB x)] (xG p (sgB x)) hM trivial kr kr ?_;intro q' n' c' row' X T w4 hok hR' H5;refine zb ?_;exact ⟨[],.nil,jB [(bx,sgO x)] hok hR' H5⟩
theorem zlc (p:Nat)(qs:Option Addr)(ns cs:Nat)(A:List ByteArray)(hA:A.length≤1000):FnW 80 #[.slice qs ns cs,.func (.func 60) #[.pointer (some ⟨p,0,none⟩)] #[]] p 1000 (fun w=>AtF sS w qs ns A) (fun X T=>X=A.map fe0∧T=[]):=by
 refine FnW.intro (c:=zf Tryz.f80) [] 16 Tryz.func80 kr kr kr fun w0 w q n c row L M hM hRE hP HS=>?_;have hn:=hP.1;refine rS [.v,.v,.v] HS kr fun gs1 w1 H1=>qw 8 7 9 15 0 1 ns (by omega) (fun i ρ ww=> ∃q' n' c' row',RowE fS 86 q' n' c' row' (M++(A.take i).map fe0)∧St w0.heap.size w0 ww ((p,wrO q' n' c')::(row'++L))∧Is [(1,.func (.func 60) #[.pointer (some ⟨p,0,none⟩)] #[]),(6,.slice qs ns cs),(7,iN ns),(8,iN i)] ρ) (by rintro i _ ww ⟨_,_,_,_,_,_,_,rfl⟩;exact ⟨kr,kr⟩) ⟨q,n,c,row,by simpa using hRE,H1.as kr,isK⟩ ?_ ?_
 ·rintro i _ w4 hi ⟨q',n',c',row',hR,H4,_,rfl⟩;obtain ⟨x,hx⟩:∃x,A[i]? =some x:=⟨_,List.getElem?_eq_getElem (by omega)⟩
  obtain ⟨bl,off,C,T,fz,hp,hh,hRA⟩:=hP.row2 (by omega);have hcx:C[off+i*1]? =some (.string x):=hRA.cell hx 0 (by decide);refine rS [.o (ins:=[((.tmp 6),.slice qs ns cs),((.tmp 8),iN i)]) (v:=.pointer (some ⟨bl,off+i*1,none⟩)) (fun ρ o w ho hi2=>zL (kd:=.i64) (t:=23) (e:=9) (K:=1) (bytes:=16) kr (x:=(.tmp 6)) (y:=(.tmp 8)) bl off ns cs i hp ho hi2.1 hi2.2.1 (by omega) w),.fs (off:=off+i*1) (v:=.string x) hh (zv hh) hcx,.v] H4 kr fun gs5 w5 H5=>yo [0,1,2] kr<|rp [.v,.v] H5 kr fun gs6 w6 H6=>wX [2] ?_;have hl:(M++(A.take i).map fe0).length≤100000:=by rw [List.length_append,List.length_map,List.length_take];omega
  refine yz (row:=row') (L:=L) [] (q:=q') (n:=n') (c:=c') (p:=p) (M:=M++(A.take i).map fe0) (H6.as kr) hR (some 14) 60 #[.pointer (some ⟨p,0,none⟩),.string x] (xG p x) hl trivial kr kr ?_;rintro q2 n2 c2 row2 X T w7 ⟨rfl,rfl⟩ hR2 H7;refine zb ?_;exact ⟨kr,q2,n2,c2,row2,by rw [qp hx,List.map_append,←List.append_assoc];exact hR2,H7,isK⟩
 ·rintro _ w4 ⟨q',n',c',row',hR,H4,_,rfl⟩;rw [List.take_of_length_le (by omega)] at hR;exact ⟨[],.nil,jB (T:=[]) [] ⟨rfl,rfl⟩ hR H4⟩
theorem zld (p:Nat)(qs:Option Addr)(ns cs:Nat)(A:List Sg)(hA:A.length≤1000)(ho: ∀x∈A,sgOk x)(hy:A.all sgMay=true):FnW 81 #[.slice qs ns cs,.func (.func 82) #[.pointer (some ⟨p,0,none⟩)] #[]] p 1000 (fun w=>AtF sgF w qs ns A) (fun X T=>X=(A.map sgB).map fe0∧T=[]):=by
 refine FnW.intro (c:=zf Tryz.f81) [] 16 Tryz.func81 kr kr kr fun w0 w q n c row L M hM hRE hP HS=>?_;have hn:=hP.1;refine rS [.v,.v,.v] HS kr fun gs1 w1 H1=>qw 8 7 9 15 0 1 ns (by omega) (fun i ρ ww=> ∃q' n' c' row',RowE fS 86 q' n' c' row' (M++((A.take i).map sgB).map fe0)∧St w0.heap.size w0 ww ((p,wrO q' n' c')::(row'++L))∧Is [(1,.func (.func 82) #[.pointer (some ⟨p,0,none⟩)] #[]),(6,.slice qs ns cs),(7,iN ns),(8,iN i)] ρ) (by rintro i _ ww ⟨_,_,_,_,_,_,_,rfl⟩;exact ⟨kr,kr⟩) ⟨q,n,c,row,by simpa using hRE,H1.as kr,isK⟩ ?_ ?_
 ·rintro i _ w4 hi ⟨q',n',c',row',hR,H4,_,rfl⟩;obtain ⟨x,hx⟩:∃x,A[i]? =some x:=⟨_,List.getElem?_eq_getElem (by omega)⟩
  obtain ⟨bl,off,C,T,fz,hp,hh,hRA⟩:=hP.row2 (by omega);have hxm:=List.mem_of_getElem? hx;refine zg [0,1,2,3] kr kr<|rp [.o (ins:=[((.tmp 6),.slice qs ns cs),((.tmp 8),iN i)]) (v:=.pointer (some ⟨bl,off+i*9,none⟩)) (fun ρ o w ho hi2=>zL (kd:=.i64) (t:=24) (e:=57) (K:=9) (bytes:=72) kr (x:=(.tmp 6)) (y:=(.tmp 8)) bl off ns cs i hp ho hi2.1 hi2.2.1 (by omega) w),.fp (off:=off+i*9) (n:=9) (W:=sgC x) hh (zv hh) (hRA _ _ hx).1 (hRA _ _ hx).2] H4 kr fun gs5 w5 H5=>wX [2,3] ?_;have H6:St w0.heap.size w0 w5 ((p,wrO q' n' c')::(row'++L)):=H5.as kr;refine zE H6 (some 5) 57 (.agg (sgC (0,0,0))) kr kr kr ?_;intro b5 w6 H7;refine rp [.s 0] H7 kr fun gs6 w7 H8=>wX []<|zb ?_;have H9:St w0.heap.size w0 w7 ((b5,sgO x)::(p,wrO q' n' c')::(row'++L)):=H8.as kr;refine yo [0,1,2] kr<|rp [.v,.l 0] H9 kr fun gs7 w8 H10=>wX [2] ?_;have hl:(M++((A.take i).map sgB).map fe0).length≤100000:=by rw [List.length_append,List.length_map,List.length_map,List.length_take];omega
  refine yz (row:=row') (L:=L) [(b5,sgO x)] (q:=q') (n:=n') (c:=c') (p:=p) (M:=M++((A.take i).map sgB).map fe0) (H10.as kr) hR (some 14) 82 #[.pointer (some ⟨p,0,none⟩),.agg (sgC x)] (zlb p x (ho x hxm) (List.all_eq_true.1 hy x hxm)) hl trivial kr kr ?_;rintro q2 n2 c2 row2 X T w9 ⟨rfl,rfl⟩ hR2 H11;refine zb ?_;exact ⟨kr,q2,n2,c2,row2,by rw [qp hx,List.map_append,List.map_append,←List.append_assoc];exact hR2,H11.sub (List.sublist_cons_self ..),isK⟩
 ·rintro _ w4 ⟨q',n',c',row',hR,H4,_,rfl⟩;rw [List.take_of_length_le (by omega)] at hR;exact ⟨[],.nil,jB (T:=[]) [] ⟨rfl,rfl⟩ hR H4⟩
theorem zle (p:Nat)(qs:Option Addr)(ns cs:Nat)(A:List ByteArray)(hA:A.length≤1000):FnW 62 #[.pointer (some ⟨p,0,none⟩),.slice qs ns cs] p 100000 (fun w=>AtF sS w qs ns A) (fun X T=> ∃q2 n2 c2,X=[⟨(0,em),q2,n2,c2,lsF (A)⟩]∧RowE fS 86 q2 n2 c2 T ((A).map fe0)):=by
 refine FnW.intro (c:=zf Tryz.f62) [] 13 Tryz.func62 kr kr kr fun w0 w q n c row L M hM hRE hP HS=>zg [0] kr kr<|zE HS (some 4) 117 (.agg #[.slice none 0 0]) kr kr kr ?_;intro b4 w1 H1;refine zb ?_;have H2:St w0.heap.size w0 w1 ((b4,wrO none 0 0)::(p,wrO q n c)::(row++L)):=H1;refine zg [0,1,2] kr kr<|rp [.v,.v] H2 kr fun gs2 w2 H3=>wX [2]<|yz (row:=[]) (L:=(p,wrO q n c)::(row++L)) [] (q:=none) (n:=0) (c:=0) (p:=b4) (M:=[]) (H3.as kr) (.inl ⟨rfl,rfl,rfl,rfl,rfl⟩) (some 7) 80 #[.slice qs ns cs,.func (.func 60) #[.pointer (some ⟨b4,0,none⟩)] #[]] (zlc b4 qs ns cs A hA) (Nat.zero_le _) hP kr kr ?_;rintro q2 n2 c2 row2 X T w3 ⟨rfl,rfl⟩ hR2 H4;refine zb ?_;have H5:St w0.heap.size w0 w3 ((b4,wrO q2 n2 c2)::(row2++(p,wrO q n c)::(row++L))):=H4;refine yo [0,1,2,3,4] kr<|rp [.v,.v,.l 0,.v] H5 kr fun gs3 w4 H6=>wX [4] ?_;have H7:St w0.heap.size w0 w4 ((b4,wrO q2 n2 c2)::(row2++(p,wrO q n c)::(row++L))):=H6.as kr;refine yz (row:=row) (L:=row2++L) [(b4,wrO q2 n2 c2)] (q:=q) (n:=n) (c:=c) (p:=p) (M:=M) (H7.perm (List.Perm.cons _ (zaB row2 row _ L))) hRE (some 12) 79 #[.pointer (some ⟨p,0,none⟩),qz ⟨(0,em),q2,n2,c2,lsF (A)⟩] (zaC p ⟨(0,em),q2,n2,c2,lsF (A)⟩) hM trivial kr kr ?_;rintro q3 n3 c3 row3 X T w5 ⟨rfl,rfl⟩ hR3 H8;refine zb ?_;exact ⟨[],.nil,jB (T:=row2) [(b4,wrO q2 n2 c2)] ⟨q2,n2,c2,rfl,hR2⟩ hR3 H8⟩
theorem zlf (p:Nat)(qs:Option Addr)(ns cs:Nat)(A:List Sg)(hA:A.length≤1000)(ho: ∀x∈A,sgOk x)(hy:A.all sgMay=true):FnW 64 #[.pointer (some ⟨p,0,none⟩),.slice qs ns cs] p 100000 (fun w=>AtF sgF w qs ns A) (fun X T=> ∃q2 n2 c2,X=[⟨(0,em),q2,n2,c2,lsF (A.map sgB)⟩]∧RowE fS 86 q2 n2 c2 T ((A.map sgB).map fe0)):=by
 refine FnW.intro (c:=zf Tryz.f64) [] 13 Tryz.func64 kr kr kr fun w0 w q n c row L M hM hRE hP HS=>zg [0] kr kr<|zE HS (some 4) 117 (.agg #[.slice none 0 0]) kr kr kr ?_;intro b4 w1 H1;refine zb ?_;have H2:St w0.heap.size w0 w1 ((b4,wrO none 0 0)::(p,wrO q n c)::(row++L)):=H1;refine zg [0,1,2] kr kr<|rp [.v,.v] H2 kr fun gs2 w2 H3=>wX [2]<|yz (row:=[]) (L:=(p,wrO q n c)::(row++L)) [] (q:=none) (n:=0) (c:=0) (p:=b4) (M:=[]) (H3.as kr) (.inl ⟨rfl,rfl,rfl,rfl,rfl⟩) (some 7) 81 #[.slice qs ns cs,.func (.func 82) #[.pointer (some ⟨b4,0,none⟩)] #[]] (zld b4 qs ns cs A hA ho hy) (Nat.zero_le _) hP kr kr ?_;rintro q2 n2 c2 row2 X T w3 ⟨rfl,rfl⟩ hR2 H4;refine zb ?_;have H5:St w0.heap.size w0 w3 ((b4,wrO q2 n2 c2)::(row2++(p,wrO q n c)::(row++L))):=H4;refine yo [0,1,2,3,4] kr<|rp [.v,.v,.l 0,.v] H5 kr fun gs3 w4 H6=>wX [4] ?_;have H7:St w0.heap.size w0 w4 ((b4,wrO q2 n2 c2)::(row2++(p,wrO q n c)::(row++L))):=H6.as kr;refine yz (row:=row) (L:=row2++L) [(b4,wrO q2 n2 c2)] (q:=q) (n:=n) (c:=c) (p:=p) (M:=M) (H7.perm (List.Perm.cons _ (zaB row2 row _ L))) hRE (some 12) 79 #[.pointer (some ⟨p,0,none⟩),qz ⟨(0,em),q2,n2,c2,lsF (A.map sgB)⟩] (zaC p ⟨(0,em),q2,n2,c2,lsF (A.map sgB)⟩) hM trivial kr kr ?_;rintro q3 n3 c3 row3 X T w5 ⟨rfl,rfl⟩ hR3 H8;refine zb ?_;exact ⟨[],.nil,jB (T:=row2) [(b4,wrO q2 n2 c2)] ⟨q2,n2,c2,rfl,hR2⟩ hR3 H8⟩
end Go.Proofs.YthonokeibcodpaaGreatDoor
namespace Go.Proofs.YthonokeibcodpaaGreatDoor
open Go Go.RowKit
open D2 (Gh)
set_option linter.unusedVariables false
def zfC (h:Hdr)(v:Value)(T:List (Nat×Obj)):Prop:=∃p n c,v=.slice p n c∧RIn fS T p n (hdF h)
theorem zlg (h:Hdr)(o:zZ h)(hr:rightH h=true)(p:Option Addr)(n c:Nat)(q:Option Addr)(m k:Nat):FnT Tryz.prog 40 #[hdV h p n c q m k] (fun w=>qq w h p n q m) (zfC h):=by
 refine FnT.intro (c:=zf Tryz.f40) [.tmp 2] 39 Tryz.func40 kr kr kr fun w hP=>?_;have hvl:=o.vl;have hsl:=o.sl;have hss:=(xE.1 hr).ss;have H0:=St.start w;refine zg [0,1] kr kr<|jw H0 (some 1) 26 (.tmp 0) (hdV h p n c q m k) kr kr kr ?_;intro bh w1 H1;refine rp [.v] H1 kr fun gs1 w2 H2=>wX []<|zb ?_;have H3:St w.heap.size w w2 [(bh,hdO h p n c q m k)]:=H2.as kr;refine zg [0] kr kr<|zE H3 (some 3) 117 (.agg #[.slice none 0 0]) kr kr kr ?_;intro bw w3 H4;refine zb ?_;have G0:St w.heap.size w w3 ([(bh,hdO h p n c q m k)]++(bw,wrO none 0 0)::([]++ [])):=H4.perm (List.Perm.swap _ _ _);have R0:RowE fS 86 none 0 0 [] ([]:List Fel):=.inl ⟨rfl,rfl,rfl,rfl,rfl⟩;refine zg [0,1,2] kr kr<|rp [.v,.l 0] G0 kr fun ga1 wa1 Ga1=>wX [2]<|yz (row:=[]) (L:=[]) [(bh,hdO h p n c q m k)] (q:=none) (n:=0) (c:=0) (p:=bw) (Ga1.as kr) R0 (some 6) 60 #[.pointer (some ⟨bw,0,none⟩),.string h.pa] (xG bw h.pa) (Nat.le_of_ble_eq_true kr) trivial kr kr ?_;rintro q1 n1 c1 row1 _ _ wb1 ⟨rfl,rfl⟩ R1 G1;refine zb<|wW<|zg [0,1,2] kr kr<|rp [.v,.l 0] G1 kr fun ga2 wa2 Ga2=>wX [2]<|yz (row:=row1) (L:=[]) [(bh,hdO h p n c q m k)] (q:=q1) (n:=n1) (c:=c1) (p:=bw) (Ga2.as kr) R1 (some 9) 61 #[.pointer (some ⟨bw,0,none⟩),.int .u64 ((h.hh:Nat):Int)] (zaF bw h.hh) (Nat.le_of_ble_eq_true kr) trivial kr kr ?_;rintro q2 n2 c2 row2 _ _ wb2 ⟨rfl,rfl⟩ R2 G2;refine zb<|wW ?_;clear G1 Ga2 R1;refine zg [0,1,2] kr kr<|rp [.v,.l 0] G2 kr fun ga3 wa3 Ga3=>wX [2]<|yz (row:=row2) (L:=[]) [(bh,hdO h p n c q m k)] (q:=q2) (n:=n2) (c:=c2) (p:=bw) (Ga3.as kr) R2 (some 12) 60 #[.pointer (some ⟨bw,0,none⟩),.string h.ro] (xG bw h.ro) (Nat.le_of_ble_eq_true kr) trivial kr kr ?_;rintro q3 n3 c3 row3 _ _ wb3 ⟨rfl,rfl⟩ R3 G3;refine zb<|wW ?_;clear G2 Ga3 R2;refine zg [0,1,2] kr kr<|rp [.v,.l 0] G3 kr fun ga4 wa4 Ga4=>wX [2]<|yz (row:=row3) (L:=[]) [(bh,hdO h p n c q m k)] (q:=q3) (n:=n3) (c:=c3) (p:=bw) (Ga4.as kr) R3 (some 15) 60 #[.pointer (some ⟨bw,0,none⟩),.string h.tx] (xG bw h.tx) (Nat.le_of_ble_eq_true kr) trivial kr kr ?_;rintro q4 n4 c4 row4 _ _ wb4 ⟨rfl,rfl⟩ R4 G4;refine zb<|wW ?_;clear G3 Ga4 R3;refine zg [0,1,2] kr kr<|rp [.v,.l 0] G4 kr fun ga5 wa5 Ga5=>wX [2]<|yz (row:=row4) (L:=[]) [(bh,hdO h p n c q m k)] (q:=q4) (n:=n4) (c:=c4) (p:=bw) (Ga5.as kr) R4 (some 18) 60 #[.pointer (some ⟨bw,0,none⟩),.string h.pr] (xG bw h.pr) (Nat.le_of_ble_eq_true kr) trivial kr kr ?_;rintro q5 n5 c5 row5 _ _ wb5 ⟨rfl,rfl⟩ R5 G5;refine zb<|wW ?_;clear G4 Ga5 R4;refine zg [0,1,2] kr kr<|rp [.v,.l 0] G5 kr fun ga6 wa6 Ga6=>wX [2]<|yz (row:=row5) (L:=[]) [(bh,hdO h p n c q m k)] (q:=q5) (n:=n5) (c:=c5) (p:=bw) (Ga6.as kr) R5 (some 21) 60 #[.pointer (some ⟨bw,0,none⟩),.string h.va] (xG bw h.va) (Nat.le_of_ble_eq_true kr) trivial kr kr ?_;rintro q6 n6 c6 row6 _ _ wb6 ⟨rfl,rfl⟩ R6 G6;refine zb<|wW ?_;clear G5 Ga6 R5;refine zg [0,1,2] kr kr<|rp [.v,.l 0] G6 kr fun ga7 wa7 Ga7=>wX [2]<|yz (row:=row6) (L:=[]) [(bh,hdO h p n c q m k)] (q:=q6) (n:=n6) (c:=c6) (p:=bw) (Ga7.as kr) R6 (some 24) 62 #[.pointer (some ⟨bw,0,none⟩),.slice p n c] (zle bw p n c h.vs (by omega)) (Nat.le_of_ble_eq_true kr) hP.1 kr kr ?_;rintro q7 n7 c7 row7 _ T1 wb7 ⟨qa1,na1,ca1,rfl,hT1⟩ R7 G7;refine zb<|wW ?_;clear G6 Ga7 R6;refine zg [0,1,2] kr kr<|rp [.v,.l 0] G7 kr fun ga8 wa8 Ga8=>wX [2]<|yz (row:=row7) (L:=T1++ []) [(bh,hdO h p n c q m k)] (q:=q7) (n:=n7) (c:=c7) (p:=bw) (Ga8.as kr) R7 (some 27) 60 #[.pointer (some ⟨bw,0,none⟩),.string h.vo] (xG bw h.vo) (Nat.le_of_ble_eq_true kr) trivial kr kr ?_;rintro q8 n8 c8 row8 _ _ wb8 ⟨rfl,rfl⟩ R8 G8;refine zb<|wW ?_;clear G7 Ga8 R7;refine zg [0,1,2] kr kr<|rp [.v,.l 0] G8 kr fun ga9 wa9 Ga9=>wX [2]<|yz (row:=row8) (L:=T1++ []) [(bh,hdO h p n c q m k)] (q:=q8) (n:=n8) (c:=c8) (p:=bw) (Ga9.as kr) R8 (some 30) 63 #[.pointer (some ⟨bw,0,none⟩),.bool h.ad] (zla bw h.ad) (Nat.le_of_ble_eq_true kr) trivial kr kr ?_;rintro q9 n9 c9 row9 _ _ wb9 ⟨rfl,rfl⟩ R9 G9;refine zb<|wW ?_;clear G8 Ga9 R8;refine zg [0,1,2] kr kr<|rp [.v,.l 0] G9 kr fun ga10 wa10 Ga10=>wX [2]<|yz (row:=row9) (L:=T1++ []) [(bh,hdO h p n c q m k)] (q:=q9) (n:=n9) (c:=c9) (p:=bw) (Ga10.as kr) R9 (some 33) 61 #[.pointer (some ⟨bw,0,none⟩),.int .u64 ((h.rd:Nat):Int)] (zaF bw h.rd) (Nat.le_of_ble_eq_true kr) trivial kr kr ?_;rintro q10 n10 c10 row10 _ _ wb10 ⟨rfl,rfl⟩ R10 G10;refine zb<|wW ?_;clear G9 Ga10 R9;refine zg [0,1,2] kr kr<|rp [.v,.l 0] G10 kr fun ga11 wa11 Ga11=>wX [2]<|yz (row:=row10) (L:=T1++ []) [(bh,hdO h p n c q m k)] (q:=q10) (n:=n10) (c:=c10) (p:=bw) (Ga11.as kr) R10 (some 36) 64 #[.pointer (some ⟨bw,0,none⟩),.slice q m k] (zlf bw q m k h.ss (by omega) o.ss hss) (Nat.le_of_ble_eq_true kr) hP.2 kr kr ?_;rintro q11 n11 c11 row11 _ T2 wb11 ⟨qa2,na2,ca2,rfl,hT2⟩ R11 G11;refine zb<|wW ?_;clear G10 Ga11 R10;have nL:=R11.len (by decide);have hve: ∀x∈h.vs,ByteArray.size x≤0x800000000000:=fun x hx=>by have:=o.vs x hx;omega
 have hse: ∀x∈h.ss.map sgB,ByteArray.size x≤0x800000000000:=fun x hx=>by obtain ⟨y,_,rfl⟩:=List.mem_map.1 hx;rw [jA];omega
 refine rS [.v,.l 1,.v] G11 kr fun gs9 w9 H9=>rRr [.tmp 2] [] (.slice q11 n11 c11) (zX w.heap.size w (zfC h)) H9 kr ?_;have H10:St w.heap.size w w9 ((bh,hdO h p n c q m k)::(bw,wrO q11 n11 c11)::(row11++(T2++(T1++ [])))):=H9.as kr;refine ⟨row11++(T2++(T1++ [])),⟨q11,n11,c11,rfl,?_⟩,(H10.sub (List.sublist_cons_self ..)).sub (List.sublist_cons_self ..)⟩;have i1:=hT1.rIn (T:=[]) (by decide) (zfs hve []) (by show na1≤0x800000000000;have:=hT1.len (by decide);rw [List.length_map] at this;omega);have i2:=hT2.rIn (T:=[]) (by decide) (zfs hse []) (by show na2≤0x800000000000;have:=hT2.len (by decide);rw [List.length_map,List.length_map] at this;omega);rw [zfr] at i1 i2;exact RowE.rIn (S:=fS) (L:=hdE h qa1 na1 ca1 qa2 na2 ca2) R11 (by decide) (zkM o (i1.mono fun e he=>by simp at he ⊢;exact .inr he) (i2.mono fun e he=>by simp at he ⊢;exact .inl he)) (by show n11≤0x800000000000;rw [nL];exact Nat.le_of_ble_eq_true kr)
end Go.Proofs.YthonokeibcodpaaGreatDoor
namespace Go.Proofs.YthonokeibcodpaaGreatDoor
open Go Go.RowKit
set_option linter.unusedVariables false
def szM (h:Hdr):Bool:=(decide (h.pa.size=32)&&(decide (h.ro.size=32)&&decide (h.tx.size=32)))&&(decide (h.pr.size=20)&&decide (h.va.size≤8))
theorem zlh (h:Hdr):rightH h=(szM h&&(setM h.vs&&(voteB h.vo h.ad&&(decide (h.ss.length≤16)&&h.ss.all sgMay)))):=by
 unfold rightH szM;cases decide (h.pa.size=32)<;>cases decide (h.ro.size=32)<;>cases decide (h.tx.size=32)<;>cases decide (h.pr.size=20)<;>cases decide (h.va.size≤8)<;>cases setM h.vs<;>cases voteB h.vo h.ad<;>cases decide (h.ss.length≤16)<;>rfl
theorem zli (h:Hdr)(p:Option Addr)(n c:Nat)(q:Option Addr)(m k:Nat):Fn Tryz.prog 30 #[hdV h p n c q m k] (.bool (szM h)):=by
 refine Fn.intro (c:=zf Tryz.f30) [.tmp 2] 33 Tryz.func30 kr kr kr fun w=>rS [.b,.v] (St.start w) kr fun gs1 w1 H1=>?_;by_cases h_pa:h.pa.size=32
 case neg=>
  refine rS [.v,.l 0,.v,.E (.bool (((h.pa.size:Nat):Int)==32)) (.bool false) (za (beq_eq_false_iff_ne.2 (by omega))),.v,.n,.n,.n,.n,.v,.v,.n,.n,.n,.n,.v,.v] H1 kr fun gs2 w2 H2=>rS [.v,.v,.n,.n,.n,.n,.v,.v,.n,.n,.n,.n,.v,.v] H2 kr fun gs3 w3 H3=>?_;exact rRe [.tmp 2] [] (v:=.bool false) (v':=.bool (szM h)) H3 (za (by unfold szM;rw [decide_eq_false h_pa];first | rfl | simp)) kr
 by_cases h_ro:h.ro.size=32
 case neg=>
  refine rS [.v,.l 0,.v,.E (.bool (((h.pa.size:Nat):Int)==32)) (.bool true) (za (beq_iff_eq.2 (by omega))),.v,.v,.l 0,.v,.E (.bool (((h.ro.size:Nat):Int)==32)) (.bool false) (za (beq_eq_false_iff_ne.2 (by omega))),.v,.v,.n,.n,.n,.n,.v,.v] H1 kr fun gs2 w2 H2=>rS [.v,.v,.n,.n,.n,.n,.v,.v,.n,.n,.n,.n,.v,.v] H2 kr fun gs3 w3 H3=>?_;exact rRe [.tmp 2] [] (v:=.bool false) (v':=.bool (szM h)) H3 (za (by unfold szM;rw [decide_eq_false h_ro];first | rfl | simp)) kr
 by_cases h_tx:h.tx.size=32
 case neg=>
  refine rS [.v,.l 0,.v,.E (.bool (((h.pa.size:Nat):Int)==32)) (.bool true) (za (beq_iff_eq.2 (by omega))),.v,.v,.l 0,.v,.E (.bool (((h.ro.size:Nat):Int)==32)) (.bool true) (za (beq_iff_eq.2 (by omega))),.v,.v,.v,.l 0,.v,.E (.bool (((h.tx.size:Nat):Int)==32)) (.bool false) (za (beq_eq_false_iff_ne.2 (by omega))),.v,.v] H1 kr fun gs2 w2 H2=>rS [.v,.v,.n,.n,.n,.n,.v,.v,.n,.n,.n,.n,.v,.v] H2 kr fun gs3 w3 H3=>?_;exact rRe [.tmp 2] [] (v:=.bool false) (v':=.bool (szM h)) H3 (za (by unfold szM;rw [decide_eq_false h_tx];first | rfl | simp)) kr
 by_cases h_pr:h.pr.size=20
 case neg=>
  refine rS [.v,.l 0,.v,.E (.bool (((h.pa.size:Nat):Int)==32)) (.bool true) (za (beq_iff_eq.2 (by omega))),.v,.v,.l 0,.v,.E (.bool (((h.ro.size:Nat):Int)==32)) (.bool true) (za (beq_iff_eq.2 (by omega))),.v,.v,.v,.l 0,.v,.E (.bool (((h.tx.size:Nat):Int)==32)) (.bool true) (za (beq_iff_eq.2 (by omega))),.v,.v] H1 kr fun gs2 w2 H2=>rS [.v,.v,.v,.l 0,.v,.E (.bool (((h.pr.size:Nat):Int)==20)) (.bool false) (za (beq_eq_false_iff_ne.2 (by omega))),.v,.v,.n,.n,.n,.n,.v,.v] H2 kr fun gs3 w3 H3=>?_;exact rRe [.tmp 2] [] (v:=.bool false) (v':=.bool (szM h)) H3 (za (by unfold szM;rw [decide_eq_false h_pr];first | rfl | simp)) kr
 by_cases h_va:h.va.size≤8
 case neg=>
  refine rS [.v,.l 0,.v,.E (.bool (((h.pa.size:Nat):Int)==32)) (.bool true) (za (beq_iff_eq.2 (by omega))),.v,.v,.l 0,.v,.E (.bool (((h.ro.size:Nat):Int)==32)) (.bool true) (za (beq_iff_eq.2 (by omega))),.v,.v,.v,.l 0,.v,.E (.bool (((h.tx.size:Nat):Int)==32)) (.bool true) (za (beq_iff_eq.2 (by omega))),.v,.v] H1 kr fun gs2 w2 H2=>rS [.v,.v,.v,.l 0,.v,.E (.bool (((h.pr.size:Nat):Int)==20)) (.bool true) (za (beq_iff_eq.2 (by omega))),.v,.v,.v,.l 0,.v,.E (.bool (decide (((h.va.size:Nat):Int)≤8))) (.bool false) (za (decide_eq_false (by omega))),.v,.v] H2 kr fun gs3 w3 H3=>?_;exact rRe [.tmp 2] [] (v:=.bool false) (v':=.bool (szM h)) H3 (za (by unfold szM;rw [decide_eq_false h_va];first | rfl | simp)) kr
 refine rS [.v,.l 0,.v,.E (.bool (((h.pa.size:Nat):Int)==32)) (.bool true) (za (beq_iff_eq.2 (by omega))),.v,.v,.l 0,.v,.E (.bool (((h.ro.size:Nat):Int)==32)) (.bool true) (za (beq_iff_eq.2 (by omega))),.v,.v,.v,.l 0,.v,.E (.bool (((h.tx.size:Nat):Int)==32)) (.bool true) (za (beq_iff_eq.2 (by omega))),.v,.v] H1 kr fun gs2 w2 H2=>rS [.v,.v,.v,.l 0,.v,.E (.bool (((h.pr.size:Nat):Int)==20)) (.bool true) (za (beq_iff_eq.2 (by omega))),.v,.v,.v,.l 0,.v,.E (.bool (decide (((h.va.size:Nat):Int)≤8))) (.bool true) (za (decide_eq_true (by omega))),.v,.v] H2 kr fun gs3 w3 H3=>?_;exact rRe [.tmp 2] [] (v:=.bool true) (v':=.bool (szM h)) H3 (za (by unfold szM;rw [decide_eq_true h_pa,decide_eq_true h_ro,decide_eq_true h_tx,decide_eq_true h_pr,decide_eq_true h_va];first | rfl | simp)) kr
theorem zlj (p:Option Addr)(n c:Nat)(L:List ByteArray)(hL:L.length≤1000000):FnP Tryz.prog 31 #[.slice p n c] (fun w=>AtF sS w p n L) (.bool (setM L)):=by
 refine FnP.intro (c:=zf Tryz.f31) [.tmp 2] 37 Tryz.func31 kr kr kr fun w hP=>?_;have hn:=hP.1;have H0:=St.start w;refine rS [.v] H0 kr fun gs1 w1 H1=>zc kr ?_;by_cases h0:n=0
 ·refine rS [.v,.v,.E (.bool ((n:Int)==0)) (.bool true) (za (beq_iff_eq.2 (by omega))),.v,.n,.n,.n,.v] H1 kr fun gs2 w2 H2=>zU<|rS [.v] H2 kr fun gs3 w3 H3=>?_;exact rRe [.tmp 2] [] (v:=.bool false) (v':=.bool (setM L)) H3 (za (by unfold setM;rw [←hn,decide_eq_false (show ¬0<n by omega)];simp)) kr
 by_cases h16:n≤16
 case neg=>
  refine rS [.v,.v,.E (.bool ((n:Int)==0)) (.bool false) (za (beq_eq_false_iff_ne.2 (by omega))),.v,.v,.v,.E (.bool (decide ((n:Int)>16))) (.bool true) (za (decide_eq_true (by omega))),.v] H1 kr fun gs2 w2 H2=>zU<|rS [.v] H2 kr fun gs3 w3 H3=>?_;exact rRe [.tmp 2] [] (v:=.bool false) (v':=.bool (setM L)) H3 (za (by unfold setM;rw [←hn,decide_eq_false h16];simp)) kr
 refine rS [.v,.v,.E (.bool ((n:Int)==0)) (.bool false) (za (beq_eq_false_iff_ne.2 (by omega))),.v,.v,.v,.E (.bool (decide ((n:Int)>16))) (.bool false) (za (decide_eq_false (by omega))),.v] H1 kr fun gs2 w2 H2=>yk<|wW<|zc kr<|rS [.v,.v,.v] H2 kr fun gs3 w3 H3=>qw 15 14 16 36 0 1 n (by omega) (fun i ρ ww=>xD none L=xD (xU L i) (L.drop i)∧St w.heap.size w ww []∧Is [(0,.slice p n c),(13,.slice p n c),(14,iN n),(15,iN i)] ρ) (by rintro i _ ww ⟨_,_,_,rfl⟩;exact ⟨kr,kr⟩) ⟨rfl,H3.as kr,isK⟩ ?_ ?_
 ·clear H0 H1 H2 H3;rintro i _ w4 hi ⟨hst,H5,_,rfl⟩;obtain ⟨x,hx⟩:∃x,L[i]? =some x:=⟨_,List.getElem?_eq_getElem (by omega)⟩
  obtain ⟨bl,off,C,T,fz,hp,hh,hR⟩:=hP.row2 (by omega);have hcx:C[off+i*1]? =some (.string x):=hR.cell hx 0 (by decide);rw [zbW hx] at hst;change xD none L=(decide (x.size=20)&&(upB (xU L i) x&&xD (some x) (L.drop (i+1)))) at hst;refine rS [.v,.o (ins:=[((.tmp 13),.slice p n c),((.tmp 15),iN i)]) (v:=.pointer (some ⟨bl,off+i*1,none⟩)) (fun ρ o w ho hi2=>zL (kd:=.i64) (t:=23) (e:=9) (K:=1) (bytes:=16) kr (x:=(.tmp 13)) (y:=(.tmp 15)) bl off n c i hp ho hi2.1 hi2.2.1 (by omega) w),.fs (off:=off+i*1) (v:=.string x) hh (zv hh) hcx,.v,.v] H5 kr fun gs5 w6 H7=>?_;by_cases h1:x.size=20
  case neg=>
   refine rS [.v,.v,.E (.bool (!((x.size:Int)==20))) (.bool true) (za (by rw [beq_eq_false_iff_ne.2 (by omega)];rfl)),.v,.n,.n,.n,.n,.n,.n,.n,.n,.n,.n,.n,.v] H7 kr fun gs6 w7 H8=>zU<|rS [.v] H8 kr fun gs7 w8 H9=>?_;exact rRe [.tmp 2] [] (v:=.bool false) (v':=.bool (setM L)) H9 (za (by unfold setM;rw [hst,decide_eq_false h1];rfl)) kr
  rw [decide_eq_true h1] at hst;by_cases h0:i=0
  ·have hup:upB (xU L i) x=true:=by subst h0;rfl
   refine rS [.v,.v,.E (.bool (!((x.size:Int)==20))) (.bool false) (za (by rw [beq_iff_eq.2 (show (x.size:Int)=20 by omega)];rfl)),.v,.v,.E (.bool (decide ((i:Int)>0))) (.bool false) (za (decide_eq_false (by omega))),.v,.n,.n,.n,.n,.n,.n,.n,.v,.v] H7 kr fun gs6 w7 H8=>yk ?_;exact ⟨kr,by rw [zfi hx,hst,hup];rfl,H8.as kr,isK⟩
  ·obtain ⟨y,hy⟩:∃y,L[i-1]? =some y:=⟨_,List.getElem?_eq_getElem (by omega)⟩
   have hcell:C[off+(i-1)*1]? =some (.string y):=hR.cell hy 0 (by decide);have hpv:upB (xU L i) x=lexB (tl y) (tl x):=by unfold xU;rw [if_neg h0,hy];rfl
   rw [hpv] at hst;cases hup:lexB (tl y) (tl x) with
   | false=>
    refine rS [.v,.v,.E (.bool (!((x.size:Int)==20))) (.bool false) (za (by rw [beq_iff_eq.2 (show (x.size:Int)=20 by omega)];rfl)),.v,.v,.E (.bool (decide ((i:Int)>0))) (.bool true) (za (decide_eq_true (by omega))),.v,.v,.v,.E (.int .i64 (IntKind.i64.wrap ((i:Int)-1))) (iN (i-1)) (zo (zaW (a:=i) (b:=1) (by omega))),.o (ins:=[((.tmp 27),.slice p n c),((.tmp 29),iN (i-1))]) (v:=.pointer (some ⟨bl,off+(i-1)*1,none⟩)) (fun ρ o w ho hi2=>zL (kd:=.i64) (t:=23) (e:=9) (K:=1) (bytes:=16) kr (x:=(.tmp 27)) (y:=(.tmp 29)) bl off n c (i-1) hp ho hi2.1 hi2.2.1 (by omega) w),.fs (off:=off+(i-1)*1) (v:=.string y) hh (zv hh) hcell,.v,.E (.bool (!(Op.bytesLess y.toList x.toList))) (.bool true) (za (by rw [ze2,hup];rfl)),.v,.v] H7 kr fun gs6 w7 H8=>zU<|rS [.v] H8 kr fun gs7 w8 H9=>?_;exact rRe [.tmp 2] [] (v:=.bool false) (v':=.bool (setM L)) H9 (za (by unfold setM;rw [hst,hup];rfl)) kr
   | true=>
    refine rS [.v,.v,.E (.bool (!((x.size:Int)==20))) (.bool false) (za (by rw [beq_iff_eq.2 (show (x.size:Int)=20 by omega)];rfl)),.v,.v,.E (.bool (decide ((i:Int)>0))) (.bool true) (za (decide_eq_true (by omega))),.v,.v,.v,.E (.int .i64 (IntKind.i64.wrap ((i:Int)-1))) (iN (i-1)) (zo (zaW (a:=i) (b:=1) (by omega))),.o (ins:=[((.tmp 27),.slice p n c),((.tmp 29),iN (i-1))]) (v:=.pointer (some ⟨bl,off+(i-1)*1,none⟩)) (fun ρ o w ho hi2=>zL (kd:=.i64) (t:=23) (e:=9) (K:=1) (bytes:=16) kr (x:=(.tmp 27)) (y:=(.tmp 29)) bl off n c (i-1) hp ho hi2.1 hi2.2.1 (by omega) w),.fs (off:=off+(i-1)*1) (v:=.string y) hh (zv hh) hcell,.v,.E (.bool (!(Op.bytesLess y.toList x.toList))) (.bool false) (za (by rw [ze2,hup];rfl)),.v,.v] H7 kr fun gs6 w7 H8=>yk ?_;exact ⟨kr,by rw [zfi hx,hst,hup];rfl,H8.as kr,isK⟩
 ·rintro _ w4 ⟨hst,H5,_,rfl⟩;rw [List.drop_of_length_le (by omega)] at hst;refine wW<|rS [.v] H5 kr fun gs6 w7 H8=>?_;exact rRe [.tmp 2] [] (v:=.bool true) (v':=.bool (setM L)) H8 (za (by unfold setM;rw [hst,←hn,decide_eq_true (show 0<n by omega),decide_eq_true h16];rfl)) kr
theorem zlk (h:Hdr)(p:Option Addr)(n c:Nat)(q:Option Addr)(m k:Nat):Fn Tryz.prog 32 #[hdV h p n c q m k] (.bool (voteB h.vo h.ad)):=by
 refine Fn.intro (c:=zf Tryz.f32) [.tmp 2] 17 Tryz.func32 kr kr kr fun w=>rS [.b,.v] (St.start w) kr fun gs1 w1 H1=>?_;by_cases h1:h.vo.size=20
 ·refine rS [.v,.l 0,.v,.E (.bool (((h.vo.size:Nat):Int)==20)) (.bool true) (za (beq_iff_eq.2 (by omega))),.v,.n,.n,.n,.n,.n,.n,.n,.n,.v,.v] H1 kr fun gs2 w2 H2=>?_;exact rRe [.tmp 2] [] (v:=.bool true) (v':=.bool (voteB h.vo h.ad)) H2 (za (by unfold voteB;rw [if_neg (by omega),decide_eq_true h1])) kr
 by_cases h0:h.vo=em
 ·refine rS [.v,.l 0,.v,.E (.bool (((h.vo.size:Nat):Int)==20)) (.bool false) (za (beq_eq_false_iff_ne.2 (by omega))),.v,.v,.l 0,.E (.bool (h.vo.toList==em.toList)) (.bool true) (za (zI _ _ h0)),.v,.v,.l 0,.v,.v,.v,.v] H1 kr fun gs2 w2 H2=>?_;exact rRe [.tmp 2] [] (v:=.bool (!h.ad)) (v':=.bool (voteB h.vo h.ad)) H2 (za (by unfold voteB;rw [if_pos (by rw [h0];rfl)])) kr
 ·have h00:h.vo.size≠0:=fun e=>h0 (jz e);refine rS [.v,.l 0,.v,.E (.bool (((h.vo.size:Nat):Int)==20)) (.bool false) (za (beq_eq_false_iff_ne.2 (by omega))),.v,.v,.l 0,.E (.bool (h.vo.toList==em.toList)) (.bool false) (za (yO _ _ h0)),.v,.n,.n,.n,.v,.v,.v] H1 kr fun gs2 w2 H2=>?_;exact rRe [.tmp 2] [] (v:=.bool false) (v':=.bool (voteB h.vo h.ad)) H2 (za (by unfold voteB;rw [if_neg h00,decide_eq_false h1])) kr
theorem zll (p:Option Addr)(n c:Nat)(L:List Sg)(hL:L.length≤1000)(ho: ∀x∈L,sgOk x):FnP Tryz.prog 33 #[.slice p n c] (fun w=>AtF sgF w p n L) (.bool (decide (L.length≤16)&&L.all sgMay)):=by
 refine FnP.intro (c:=zf Tryz.f33) [.tmp 2] 24 Tryz.func33 kr kr kr fun w hP=>?_;have hn:=hP.1;rw [←hn];have H0:=St.start w;refine rS [.v] H0 kr fun gs1 w1 H1=>zc kr ?_;by_cases h16:n≤16
 case neg=>
  refine rS [.v,.v,.E (.bool (decide ((n:Int)>16))) (.bool true) (za (decide_eq_true (by omega)))] H1 kr fun gs2 w2 H2=>zU<|rS [.v] H2 kr fun gs3 w3 H3=>?_;exact rRe [.tmp 2] [] (v:=.bool false) (v':=.bool (decide (n≤16)&&L.all sgMay)) H3 (za (by rw [decide_eq_false h16];rfl)) kr
 refine rS [.v,.v,.E (.bool (decide ((n:Int)>16))) (.bool false) (za (decide_eq_false (by omega)))] H1 kr fun gs2 w2 H2=>yk<|wW ?_;rw [decide_eq_true h16,Bool.true_and];refine zc kr<|rS [.v,.v,.v] H2 kr fun gs3 w3 H3=>qw 12 11 13 23 0 1 n (by omega) (fun i ρ ww=>(L.take i).all sgMay=true∧St w.heap.size w ww []∧Is [(10,.slice p n c),(11,iN n),(12,iN i)] ρ) (by rintro i _ ww ⟨_,_,_,rfl⟩;exact ⟨kr,kr⟩) ⟨rfl,H3.as kr,isK⟩ ?_ ?_
 ·clear H0 H1 H2 H3;rintro i _ w7 hi ⟨hst,H7,_,rfl⟩;obtain ⟨x,hx⟩:∃x,L[i]? =some x:=⟨_,List.getElem?_eq_getElem (by omega)⟩
  obtain ⟨bl,off,C,T,fz,hp,hh,hR⟩:=hP.row2 (by omega);have hxm:=List.mem_of_getElem? hx;have hxo:=ho x hxm;refine rS [.o (ins:=[((.tmp 10),.slice p n c),((.tmp 12),iN i)]) (v:=.pointer (some ⟨bl,off+i*9,none⟩)) (fun ρ o w ho hi2=>zL (kd:=.i64) (t:=24) (e:=57) (K:=9) (bytes:=72) kr (x:=(.tmp 10)) (y:=(.tmp 12)) bl off n c i hp ho hi2.1 hi2.2.1 (by omega) w),.fp (off:=off+i*9) (n:=9) (W:=sgC x) hh (zv hh) (hR _ _ hx).1 (hR _ _ hx).2,.a,.s 0] H7 kr fun gs7 w8 H8=>?_;cases hmy:sgMay x with
  | false=>
   refine rS [.l 0,.c (zeS x.1 x.2.1 hxo.1 hxo.2 x.2.2 hmy),.v,.v,.v,.v,.v] H8 kr fun gs8 w9 H9=>rS [.v,.v] H9 kr fun gs9 w10 H10=>zU<|rS [.v] H10 kr fun gs10 w11 H11=>?_;exact rRe [.tmp 2] [] (v:=.bool false) (v':=.bool (L.all sgMay)) H11 (congrArg Value.bool (Bool.eq_false_iff.2 fun e=>by have:=List.all_eq_true.1 e x hxm;rw [hmy] at this;cases this).symm) kr
  | true=>
   refine rS [.l 0,.c (zbP x.1 x.2.1 hxo.1 hxo.2 x.2.2 hmy),.v,.v,.v,.v,.v] H8 kr fun gs8 w9 H9=>rS [.v,.v] H9 kr fun gs9 w10 H10=>yk ?_;exact ⟨kr,by rw [qp hx,List.all_append,hst];simp [hmy],(H10.as (l:=[((gs7 2).b,sgO x)]) kr).sub (List.nil_sublist _),isK⟩
 ·rintro _ w7 ⟨hst,H7,_,rfl⟩;refine wW ?_;rw [List.take_of_length_le (by omega)] at hst;refine rS [.v] H7 kr fun gs7 w8 H8=>?_;exact rRe [.tmp 2] [] (v:=.bool true) (v':=.bool (L.all sgMay)) H8 (congrArg Value.bool hst.symm) kr
theorem zcf (h:Hdr)(o:vM h)(p:Option Addr)(n c:Nat)(q:Option Addr)(m k:Nat):FnP Tryz.prog 19 #[hdV h p n c q m k] (fun w=>qq w h p n q m) (.bool (rightH h)):=by
 have hvl:=o.vl;have hsl:=o.sl;have hsz:=zli h p n c q m k;have hst:=zlj p n c h.vs (by omega);have hvt:=zlk h p n c q m k;have hse:=zll q m k h.ss hsl o.ss;rw [zlh h];refine FnP.intro (c:=zf Tryz.f19) [.tmp 2] 19 Tryz.func19 kr kr kr fun w hP=>rS [.b,.v] (St.start w) kr fun gs1 w1 H1=>?_;generalize szM h=b1 at*;generalize setM h.vs=b2 at*;generalize voteB h.vo h.ad=b3 at*;generalize (decide (h.ss.length≤16)&&h.ss.all sgMay)=b4 at*;cases b1 with
 | false=>
  refine rS [.l 0,.c hsz,.v,.n,.n,.n,.v,.v,.n,.n,.v,.v,.n,.n,.n,.v,.v] H1 kr fun gs2 w2 H2=>?_;exact rR [.tmp 2] [] (.bool false) H2 kr
 | true=>
  cases b2 with
  | false=>
   refine rS [.l 0,.c hsz,.v,.v,.l 0,.cp (pre:=fun w=>AtF sS w p n h.vs) hst [] (fun w hb hd=>hP.1.call hb),.v,.v,.n,.n,.v,.v,.n,.n,.n,.v,.v] H1 kr fun gs2 w2 H2=>?_;exact rR [.tmp 2] [] (.bool false) H2 kr
  | true=>
   cases b3 with
   | false=>
    refine rS [.l 0,.c hsz,.v,.v,.l 0,.cp (pre:=fun w=>AtF sS w p n h.vs) hst [] (fun w hb hd=>hP.1.call hb),.v,.v,.l 0,.c hvt,.v,.v,.n,.n,.n,.v,.v] H1 kr fun gs2 w2 H2=>?_;exact rR [.tmp 2] [] (.bool false) H2 kr
   | true=>
    refine rS [.l 0,.c hsz,.v,.v,.l 0,.cp (pre:=fun w=>AtF sS w p n h.vs) hst [] (fun w hb hd=>hP.1.call hb),.v,.v,.l 0,.c hvt,.v,.v,.v,.l 0,.cp (pre:=fun w=>AtF sgF w q m h.ss) hse [] (fun w hb hd=>hP.2.call hb),.v,.v] H1 kr fun gs2 w2 H2=>?_;exact rR [.tmp 2] [] (.bool b4) H2 kr
section
variable {P:Program}{N:Nat}{c:Code}{Q:Exit→Env→World→Prop}{ρ:Env}{w:World}
end
end Go.Proofs.YthonokeibcodpaaGreatDoor
namespace Go.Proofs.Kec
set_option maxRecDepth 100000
end Go.Proofs.Kec
namespace Go.Proofs.YthonokeibcodpaaGreatDoor.Ke
open Go Go.RowKit Go.Proofs.Kec
set_option linter.unusedVariables false
section
variable {B:Nat}{w0:World}
end
end Go.Proofs.YthonokeibcodpaaGreatDoor.Ke
namespace Go.Proofs.YthonokeibcodpaaGreatDoor
open Go Go.RowKit
open D2 (Gh)
set_option linter.unusedVariables false
def jg (s:ByteArray):ByteArray:=zh (Kec.sumB (tl s))
theorem zfD (s:ByteArray):(jg s).size=32:=by unfold jg;rw [qd];exact Kec.sumB_len _
end Go.Proofs.YthonokeibcodpaaGreatDoor
namespace Go.Proofs.YthonokeibcodpaaGreatDoor
open Go Go.RowKit
open D2 (Gh)
set_option linter.unusedVariables false
abbrev zfE:Value:=.tuple #[.string em,.int .i64 1]
theorem zlm {h:Hdr}(hr:rightH h=true):qS (wrV qa (hdF h))=.tuple #[.string (yg h),.int .i64 0]:=by
 unfold qS yg;rw [xF hr];rfl
theorem zln (h:Hdr)(o:vM h)(hr:rightH h=false)(p:Option Addr)(n c:Nat)(q:Option Addr)(m k:Nat):FnP Tryz.prog 22 #[hdV h p n c q m k] (fun w=>qq w h p n q m) zfE:=by
 have hR:=zcf h o p n c q m k;rw [hr] at hR;refine FnP.intro (c:=zf Tryz.f22) [.tmp 2,.tmp 3] 12 Tryz.func22 kr kr kr fun w hP=>rS [.b,.v,.v] (St.start w) kr fun gs1 w1 H1=>zc kr<|rS [.l 0,.cp hR [] (fun w hb hd=>hP.call hb),.v] H1 kr fun gs2 w2 H2=>zU<|rS [.v,.v] H2 kr fun gs3 w3 H3=>?_;exact rR [.tmp 2,.tmp 3] [] zfE H3 kr
theorem zfF (h:Hdr)(o:zZ h)(hr:rightH h=true)(p:Option Addr)(n c:Nat)(q:Option Addr)(m k:Nat):FnP Tryz.prog 22 #[hdV h p n c q m k] (fun w=>qq w h p n q m) (.tuple #[.string (yg h),.int .i64 0]):=by
 have hR:=zcf h o.sm p n c q m k;rw [hr] at hR;refine FnP.intro (c:=zf Tryz.f22) [.tmp 2,.tmp 3] 12 Tryz.func22 kr kr kr fun w hP=>rS [.b,.v,.v] (St.start w) kr fun gs1 w1 H1=>zc kr<|rS [.l 0,.cp hR [] (fun w hb hd=>hP.call hb),.v] H1 kr fun gs2 w2 H2=>yk<|wW<|zg [0,1,2,3,4,5,6] kr kr<|rp [.l 0] H2 kr fun gs3 w3 H3=>wX [1,2,3,4,5,6] ?_;have H4:St w.heap.size w w3 [((gs1 0).b,hdO h p n c q m k)]:=H3.as kr;refine qD H4 (some 8) 40 #[hdV h p n c q m k] (zlg h o hr p n c q m k) (hP.call H4.below) kr kr ?_;rintro _ T w4 ⟨pf,nf,cf,rfl,hin⟩ H5;refine yC H5 (some 9) 39 #[.string qa,.slice pf nf cf] _ _ (zeE qa pf nf cf (hdF h)) (hin.at H5 fun e he=>List.mem_append_left _ he) (fun w=>by kernel_rfl) kr ?_;intro w5 H6;refine rp [.v,.v,.v,.v] H6 kr fun gs4 w6 H7=>wX []<|zb<|wW ?_;exact rRe [.tmp 2,.tmp 3] [] (v:=qS (wrV qa (hdF h))) (v':=.tuple #[.string (yg h),.int .i64 0]) H7 (zlm hr) kr
end Go.Proofs.YthonokeibcodpaaGreatDoor
namespace Go.Proofs.YthonokeibcodpaaGreatDoor
open Go Go.RowKit
open D2 (Gh)
set_option linter.unusedVariables false
def RdH (S:ByteArray)(h:Hdr)(e:Int):Prop:=(e=0∧rightH h=true∧wrV qa (hdF h)=(S,0))∨(e=4∧h=hd0∧ ∀k:Hdr,rightH k=true→zZ k→wrV qa (hdF k)≠(S,0))
theorem zaG:zZ hd0:=⟨by decide,by decide,Nat.zero_le _,Nat.zero_le _,Nat.zero_le _,Nat.zero_le _,Nat.zero_le _,Nat.zero_le _,(fun _ h=>nomatch h),Nat.zero_le _,(fun _ h=>nomatch h),Nat.zero_le _⟩
theorem xV.one {S:ByteArray}{v:Value}{T:List (Nat×Obj)}(h:xV S v T):∃(h:Hdr) (p:Option Addr) (n c:Nat) (q:Option Addr) (m k:Nat) (T1 T2:List (Nat×Obj)) (e:Int),v=.tuple #[hdV h p n c q m k,.int .i64 e]∧zZ h∧yP sS 9 p n c T1 h.vs∧yP sgF 57 q m k T2 h.ss∧T=T1++T2∧RdH S h e:=by
 rcases h with ⟨h,p,n,c,q,m,k,T1,T2,hv,hr,ho,h1,h2,hT,hw⟩|⟨hv,hT,hno⟩
 ·exact ⟨h,p,n,c,q,m,k,T1,T2,0,hv,ho,h1,h2,hT,.inl ⟨rfl,hr,hw⟩⟩
 ·exact ⟨hd0,none,0,0,none,0,0,[],[],4,hv,zaG,.inl ⟨rfl,rfl,rfl,rfl,rfl⟩,.inl ⟨rfl,rfl,rfl,rfl,rfl⟩,hT,.inr ⟨rfl,rfl,hno⟩⟩
theorem zfG {h k:Hdr}{S:ByteArray}(oh:zZ h)(ok:zZ k)(rh:rightH h=true)(rk:rightH k=true)(e1:wrV qa (hdF h)=(S,0))(e2:wrV qa (hdF k)=(S,0)):h=k:=by
 unfold wrV at e1 e2;rw [jZ.parse] at e1 e2;exact zkv oh ok rh rk (zag e1 e2 (zav oh) (zav ok))
end Go.Proofs.YthonokeibcodpaaGreatDoor
namespace Go.Proofs.YthonokeibcodpaaGreatDoor
open Go Go.RowKit
set_option linter.unusedVariables false
abbrev jC (x:Txn):ByteArray×Nat:=txW x.1 x.2.1 x.2.2.1 x.2.2.2.1 x.2.2.2.2.1 x.2.2.2.2.2
abbrev zM (x:Txn):ByteArray:=(jC x).1
abbrev rtX (x:Txn):Bool:=qH x.1 x.2.2.2.1 x.2.2.2.2.1 x.2.2.2.2.2
def xH (x:Txn):Fo:=.cons false x.1 .nil (.cons false (zh (dg x.2.1)) .nil (.cons false (zh (dg x.2.2.1)) .nil (.cons false (sgB x.2.2.2) .nil .nil)))
theorem zlo (x:Txn):qn (txF x.1 x.2.1 x.2.2.1 (sgB x.2.2.2)) 40 (kfL xC) 0=xH x:=by
 unfold txF xH;rw [qv _ _ _ 0 (by decide),qv _ _ _ 1 (by decide),qv _ _ _ 2 (by decide),qv _ _ _ 3 (by decide)];rfl
theorem vP {x:Txn} :rtX x=true↔x.1.size=20∧sgMay x.2.2.2=true:=by
 unfold rtX qH;rw [Bool.and_eq_true,decide_eq_true_iff]
theorem zfH {x:Txn}(r:rtX x=true):jC x=zG true emB (xH x).len (xH x):=by
 have q:=vP.1 r;unfold jC;rw [kG r,zaf jY,if_pos ⟨(zbU _).2 ⟨_,_,_,_,rfl,q.1,jA _ _ _⟩,by rw [zkp];decide⟩];rw [show txF x.1 x.2.1 x.2.2.1 (sbs x.2.2.2.1 x.2.2.2.2.1 x.2.2.2.2.2)=txF x.1 x.2.1 x.2.2.1 (sgB x.2.2.2) from rfl,zlo]
theorem zfI {x:Txn}(r:rtX x=true):wtF (xH x)≤200:=by
 have q:=vP.1 r;have d1:=qm x.2.1;have d2:=qm x.2.2.1;have d3:(sgB x.2.2.2).size=65:=jA _ _ _;have ez:emB.size=0:=rfl;simp only [xH,wtF,qd];omega
theorem zfJ {k:Fo}(hp:pureF k=true)(hc:k.cnt≤3999)(hd:dpF k≤7)(hw:wtF k≤3980):(zG true emB k.len k).2=0:=by
 have h1:=xp k;have h2:=vw true emB (szF k);have ez:emB.size=0:=rfl;have hl:lf1 true emB k.len (lfF k) 4000=some (3999-k.cnt):=by
  unfold lf1;rw [if_neg (by simp [mixed];rfl),xQ,if_pos ⟨hp,hc⟩]
 have hd1: ¬8<dp1 true (dpF k):=by unfold dp1;simp<;>omega
 unfold zG;rw [hl];simp only [];rw [if_neg hd1,if_neg (by omega)]
theorem zfK {k:Fo}(h:(zG true emB k.len k).2=0):(zG true emB k.len k).1.size≤9+wtF k:=by
 obtain ⟨e,_,_,_,_,_,hl⟩:=jm h;have h1:=xp k;have h2:=vw true emB (szF k);have ez:emB.size=0:=rfl;rw [e,qd];have hl2:(wr1 true emB (szF k) (wrF k)).length=sz1 true emB (szF k):=by first | exact hl.1 | exact hl
 omega
theorem xW {x:Txn}(r:rtX x=true):(jC x).2=0:=by
 rw [zfH r];exact zfJ rfl (by simp only [xH,Fo.cnt];omega) (by simp only [xH,dpF,dp1];decide) (by have:=zfI r;omega)
theorem zfL {x:Txn}(r:rtX x=true):(zM x).size≤209:=by
 have h:=xW r;have hw:=zfI r;unfold zM;rw [zfH r] at h ⊢;have:=zfK h;omega
theorem zlp {h:Hdr}(r:rightH h=true):wrV qa (hdF h)=zG true emB (hdI h).len (hdI h):=by
 have q:=xE.1 r;have hs:=q.st;unfold setM at hs;simp only [Bool.and_eq_true,decide_eq_true_eq] at hs;have a7:=q.sl;have hc:(hdF h).cnt≤1000:=by
  simp only [hdF,hdL,Fr.cnt,zbY,List.length_map];omega
 rw [zaf jZ,if_pos ⟨zfe r,hc⟩,zfc]
theorem zfM {h:Hdr}(r:rightH h=true):(yg h).size≤2509:=by
 have h0:=xF r;have hw:=zff r;unfold yg;rw [zlp r] at h0 ⊢;have:=zfK h0;omega
def jD:List ByteArray→ByteArray
 | []=>em
 | a::r=>a++jD r
def sumTs (L:List Txn):ByteArray:=jg (jD (L.map fun x=>jg (zM x)))
def yB (h:Hdr)(L:List Txn):Bool:=rightH h&&(decide (L.length≤4)&&(L.all rtX&&decide (sumTs L=h.tx)))
def bkI (s:ByteArray)(L:List ByteArray):Fo:=.cons false s .nil (lsI L)
def qB (h:Hdr)(L:List Txn):ByteArray×Nat:=zG true emB (bkI (yg h) (L.map zM)).len (bkI (yg h) (L.map zM))
structure zfN (h:Hdr)(L:List Txn):Prop where
 hd:rightH h=true
 ln:L.length≤4
 al:L.all rtX=true
 sm:sumTs L=h.tx
theorem jh {h:Hdr}{L:List Txn} :yB h L=true↔zfN h L:=by
 unfold yB;simp only [Bool.and_eq_true,decide_eq_true_eq];exact ⟨fun ⟨a,b,c,d⟩=>⟨a,b,c,d⟩,fun ⟨a,b,c,d⟩=>⟨a,b,c,d⟩⟩
theorem kJ {h:Hdr}{L:List Txn}(r:yB h L=true):(qB h L).2=0:=by
 have q:=jh.1 r;have hs:=zfM q.hd;have hl:=q.ln;have hw:=zax (L:=L.map zM) (z:=209) fun x hx=>by
  obtain ⟨y,hy,rfl⟩:=List.mem_map.1 hx;exact zfL (List.all_eq_true.1 q.al y hy)
 rw [List.length_map] at hw;have hp:=zaw (L.map zM);have hd:=zb3 (L.map zM);refine zfJ ?_ ?_ ?_ ?_
 ·simp only [bkI,pureF,hp,mixed];rfl
 ·simp only [bkI,Fo.cnt,zb2,List.length_map];omega
 ·simp only [bkI,dpF,hd,dp1];decide
 ·simp only [bkI,wtF];omega
theorem zfO: ∀ {L M:List ByteArray},lsI L=lsI M→L=M
 | [],[],_=>rfl
 | a::r,b::t,h=>by
  unfold lsI at h;injection h with _ h1 _ h2
  rw [h1,zfO h2]
 | [],b::t,h=>by unfold lsI at h;cases h
 | a::r,[],h=>by unfold lsI at h;cases h
theorem zlq {x y:Txn}(ox:yt x)(oy:yt y)(rx:rtX x=true)(ry:rtX y=true)(e:zM x=zM y):x=y:=by
 have e1:jC x=(zM x,0):=Prod.ext rfl (xW rx);have e2:jC y=(zM x,0):=Prod.ext e.symm (xW ry);unfold jC at e1 e2;rw [kG rx] at e1;rw [kG ry] at e2;unfold wrV at e1 e2;rw [jY.parse] at e1 e2;have qx:=vP.1 rx;have qy:=vP.1 ry;have h:=zag e1 e2 (zaE (by omega) ox.1 ox.2.1 (by rw [jA];omega)) (zaE (by omega) oy.1 oy.2.1 (by rw [jA];omega));obtain ⟨a1,a2,a3,a4⟩:=zeZ h;exact Prod.ext a1 (Prod.ext a2 (Prod.ext a3 (ze4 ox.2.2 oy.2.2 qx.2 qy.2 a4)))
theorem zcg: ∀ {L M:List Txn},(∀x∈L,yt x)→(∀x∈M,yt x)→L.all rtX=true→M.all rtX=true→L.map zM=M.map zM→L=M
 | [],[],_,_,_,_,_=>rfl
 | x::r,y::t,oL,oM,aL,aM,h=>by
  simp only [List.all_cons,Bool.and_eq_true] at aL aM;simp only [List.map_cons,List.cons.injEq] at h;rw [zlq (oL x (List.mem_cons_self ..)) (oM y (List.mem_cons_self ..)) aL.1 aM.1 h.1,zcg (fun z hz=>oL z (List.mem_cons_of_mem _ hz)) (fun z hz=>oM z (List.mem_cons_of_mem _ hz)) aL.2 aM.2 h.2]
 | [],y::t,_,_,_,_,h=>by simp at h
 | x::r,[],_,_,_,_,h=>by simp at h
theorem zlr {h k:Hdr}{L M:List Txn}(oh:zZ h)(ok:zZ k)(oL: ∀x∈L,yt x)(oM: ∀x∈M,yt x)(r1:yB h L=true)(r2:yB k M=true)(e:(qB h L).1=(qB k M).1):h=k∧L=M:=by
 have q1:=jh.1 r1;have q2:=jh.1 r2;have w1:=kJ r1;have w2:=kJ r2;obtain ⟨e1,_⟩:=jm w1;obtain ⟨e2,_⟩:=jm w2;unfold qB at e;rw [e1,e2] at e;have e3:=congrArg tl e;rw [qW,qW] at e3;obtain ⟨_,_,e4,_⟩:=ziy (A:=[]) (B:=[]) w1 w2 (by rw [List.append_nil,List.append_nil];exact e3);unfold bkI at e4;injection e4 with _ a1 _ a2
 have e5:h=k:=zfG oh ok q1.hd q2.hd (Prod.ext rfl (xF q1.hd)) (Prod.ext a1.symm (xF q2.hd));exact ⟨e5,zcg oL oM q1.al q2.al (zfO a2)⟩
set_option maxRecDepth 4000
def vQ (x:Txn):Txn:=(x.1.extract 0 (min x.1.size 40),x.2)
def qT (l:List Txn):List Txn:=(l.take 8).map vQ
theorem zfP {l:List Txn}(h: ∀x∈l,yt x): ∀x∈qT l,yt x∧x.1.size≤40:=fun x hx=>by
 obtain ⟨y,hy,rfl⟩:=List.mem_map.1 hx;refine ⟨h y (List.mem_of_mem_take hy),?_⟩;show (y.1.extract 0 (min y.1.size 40)).size≤40;rw [ByteArray.size_extract];omega
theorem zls (p:Option Addr)(n c:Nat)(L:List Txn)(hp:yQ p n c):FnT Tryz.prog 11 #[.slice p n c] (fun w=>AtF tnS w p n L) (zfq tnS 59 (qT L)):=by
 refine FnT.intro (c:=zf Tryz.f11) [.tmp 2] 32 Tryz.func11 kr kr kr fun w hP=>?_;have hn:=hP.1;have hP2:=hP.take (min n 8) (Nat.min_le_left _ _);rw [zcb hn] at hP2;have hml:min n 8=(L.take 8).length:=hP2.1;unfold qT;generalize hM:L.take 8=M at*;obtain ⟨m,hm⟩:∃m,min n 8=m:=⟨_,rfl⟩
 have H0:=St.start w;refine rS [.v] H0 kr fun gs1 w1 H1=>zg [0,1,2,3,4,5,6,7] kr kr<|rp [.nw (fun b=>.slice (some ⟨b,0,none⟩) 0 0) #[] 59,.v,.v,.v,.E (.int .i64 (if (8:Int)<(n:Int) then (8:Int) else (n:Int))) (iN m) (zo (by rw [←hm];split<;>omega)),.o (ins:=[((.tmp 6),.slice p n c),((.tmp 9),iN m)]) (v:=.slice p m c) (fun ρ o w ho hi=>za3 (t:=27) (e:=59) (size:=12) (bytes:=104) (kd:=.i64) kr (x:=(.tmp 6)) (y:=(.tmp 9)) hp (by omega) ho hi.1 hi.2.1 w)] H1 kr fun gs2 w2 H2=>wX [6,7] ?_;have H3:St w.heap.size w w2 [((gs2 0).b,.cells #[] 59 (0,0))]:=H2.as kr;rw [hm] at hP2;refine zkG (S:=tnS) H3 (some 11) 27 59 104 (.tmp 5) (.tmp 10) 0 (gs2 0).b 0 0 m c p #[] [] M kr kr kr kr kr ⟨rfl,Nat.le_refl _,Nat.zero_le _,rfl,rfl⟩ kr (hP2.call H3.below) (hp.cut (by omega)) (by omega) (by unfold maxLen;omega) ?_;intro b k cur w3 H4 hrw;rw [Nat.zero_add,List.nil_append] at hrw;rw [Nat.zero_add];refine rp [.v] H4 kr fun gs3 w4 H5=>wX []<|zb<|wW<|zc kr<|rS [.v,.v,.v] H5 kr fun gs4 w5 H6=>?_;have H7:St w.heap.size w w5 [(b,.cells cur 59 (0,0))]:=H6.as kr;refine qw 14 13 15 30 0 1 m (by omega) (fun i ρ ww=> ∃cur,Rw 12 cur k m (cellsF tnS ((M.take i).map vQ++M.drop i))∧St w.heap.size w ww [(b,.cells cur 59 (0,0))]∧Is [(0,.slice (some ⟨b,0,none⟩) m k),(12,.slice (some ⟨b,0,none⟩) m k),(13,iN m),(14,iN i)] ρ) (by rintro i _ ww ⟨_,_,_,_,rfl⟩;exact ⟨kr,kr⟩) ⟨cur,hrw,H7,isK⟩ ?_ ?_
 ·clear H0 H1 H2 H3 H4 H5 H6 H7 hrw;rintro i _ w4 hi ⟨cur,hrw,H5,_,rfl⟩;obtain ⟨x,hx⟩:∃x,M[i]? =some x:=⟨_,List.getElem?_eq_getElem (by omega)⟩
  obtain ⟨hx2,hset⟩:=zfo (g:=vQ) hx;have hput:=Rw.setF (S:=tnS) (y:=vQ x) hrw hx2 0 (.string (x.1.extract 0 (min x.1.size 40))) (show 0+1≤12 by decide) rfl;rw [hset] at hput;have hat:=hrw.rowAt (S:=tnS) i x hx2;refine rS [.v,.o (ins:=[((.tmp 12),.slice (some ⟨b,0,none⟩) m k),((.tmp 14),iN i)]) (v:=.pointer (some ⟨b,0+i*12,none⟩)) (fun ρ o w ho hi2=>zL (kd:=.i64) (t:=27) (e:=59) (K:=12) (bytes:=104) kr (x:=(.tmp 12)) (y:=(.tmp 14)) b 0 m k i rfl ho hi2.1 hi2.2.1 (by omega) w),.lp 0 (C:=cur) (off:=0+i*12) (n:=12) (W:=tnC x) hat.1 hat.2,.a,.v,.s 1] H5 kr fun gs5 w6 H7=>rL [.v,.v,.v,.l 1,.v,.l 1,.v,.E (.int .i64 (if (40:Int)<((x.1.size:Nat):Int) then (40:Int) else ((x.1.size:Nat):Int))) (iN (min x.1.size 40)) (zo (by split<;>omega)),.o (ins:=[((.tmp 22),.string x.1),((.tmp 26),iN (min x.1.size 40))]) (v:=.string (x.1.extract 0 (min x.1.size 40))) (fun ρ o w ho hi=>xm (t:=9) (kd:=.i64) kr (x:=(.tmp 22)) (y:=(.tmp 26)) x.1 (min x.1.size 40) ho hi.1 hi.2.1 (Nat.min_le_left _ _) w),.o (ins:=[((.tmp 19),.slice (some ⟨b,0,none⟩) m k),((.tmp 20),iN i)]) (v:=.pointer (some ⟨b,0+i*12,none⟩)) (fun ρ o w ho hi2=>zL (kd:=.i64) (t:=27) (e:=59) (K:=12) (bytes:=104) kr (x:=(.tmp 19)) (y:=(.tmp 20)) b 0 m k i rfl ho hi2.1 hi2.2.1 (by omega) w),.v,.se 0 (C:=cur) (C':=putA cur (0+i*12+0) (.string (x.1.extract 0 (min x.1.size 40)))) (off:=0+i*12+0) (v:=.string (x.1.extract 0 (min x.1.size 40))) hput.1 rfl] H7 kr fun gs6 w7 H8=>?_;exact ⟨kr,_,hput.2,(H8.as (l:=[(b,.cells (putA cur (0+i*12+0) (.string (x.1.extract 0 (min x.1.size 40)))) 59 (0,0)),((gs5 3).b,.cells (tnC x) 59 (0,0))]) kr).sub (List.sublist_append_left [_] [_]),isK⟩
 ·clear H0 H1 H2 H3 H4 H5 H6 H7 hrw;rintro _ w4 ⟨cur,hrw,H5,_,rfl⟩;rw [List.take_of_length_le (by omega),List.drop_of_length_le (by omega),List.append_nil] at hrw;refine wW<|rS [.v,.v] H5 kr fun gs5 w6 H7=>rRr [.tmp 2] [] (.slice (some ⟨b,0,none⟩) m k) (zX w.heap.size w (zfq tnS 59 (M.map vQ))) H7 kr ?_;exact ⟨_,⟨b,m,k,cur,rfl,rfl,hrw⟩,H7.as kr⟩
theorem zfQ: ∀(L:List ByteArray) (x:ByteArray),tl (jD (L++ [x]))=tl (jD L)++tl x
 | [],x=>by
  show tl (x++em)=tl em++tl x;rw [km];show tl x++ []=[]++tl x;rw [List.append_nil,List.nil_append]
 | a::r,x=>by
  show tl (a++jD (r++ [x]))=tl (a++jD r)++tl x;rw [km,km,zfQ r x,List.append_assoc]
def tkQ (A:List ByteArray):List (BitVec 64)×Nat:=Kec.takeB (Kec.zeroS,0) (tl (jD A))
theorem zfR (A:List ByteArray):Kec.StOK (tkQ A):=Kec.takeB_ok _ Kec.zero_ok
theorem zlt (A:List ByteArray)(x:ByteArray):tkQ (A++ [x])=Kec.takeB (tkQ A) (tl x):=by
 unfold tkQ;rw [zfQ,Kec.takeB_append]
theorem zlu (p:Option Addr)(n c:Nat)(A:List ByteArray)(hA:A.length≤1000000)(hz: ∀x∈A,x.size≤1000000):FnP Tryz.prog 29 #[.slice p n c] (fun w=>AtF sS w p n A∧Ke.Marks w) (.string (jg (jD A))):=by
 refine FnP.intro (c:=zf Tryz.f29) [.tmp 2] 26 Tryz.func29 kr kr kr fun w hP=>?_;obtain ⟨hP,hM⟩:=hP;have hn:=hP.1;have H0:=St.start w;refine rS [.v] H0 kr fun gs1 w1 H1=>rS [.a] H1 kr fun gs2 w2 H2=>rS [.v] H2 kr fun gs3 w3 H3=>zc kr<|rS [.v,.v,.v] H3 kr fun gs4 w4 H4=>qw 9 8 10 20 0 1 n (by omega) (fun i ρ ww=> ∃q,tkQ (A.take i)=q∧St w.heap.size w ww [((gs2 0).b,.cells (Value.cells (Ke.svn q.1)) 96 (0,0))]∧Is [(3,.pointer (some ⟨(gs2 0).b,0,none⟩)),(4,.int .i64 ((q.2:Nat):Int)),(7,.slice p n c),(8,iN n),(9,iN i)] ρ) (by rintro i _ ww ⟨_,_,_,_,rfl⟩;exact ⟨kr,kr⟩) ⟨(Kec.zeroS,0),rfl,H4.as kr,isK⟩ ?_ ?_
 ·clear H0 H1 H2 H3 H4;rintro i _ w5 hi ⟨q,hq,H5,_,rfl⟩;obtain ⟨x,hx⟩:∃x,A[i]? =some x:=⟨_,List.getElem?_eq_getElem (by omega)⟩
  obtain ⟨bl,off,C,T,fz,hp,hh,hR⟩:=hP.row2 (by omega);have hcx:C[off+i*1]? =some (.string x):=hR.cell hx 0 (by decide);have hqk:Kec.StOK q:=hq▸zfR _;have hzx:=hz x (List.mem_of_getElem? hx);refine rS [.o (ins:=[((.tmp 7),.slice p n c),((.tmp 9),iN i)]) (v:=.pointer (some ⟨bl,off+i*1,none⟩)) (fun ρ o w ho hi2=>zL (kd:=.i64) (t:=23) (e:=9) (K:=1) (bytes:=16) kr (x:=(.tmp 7)) (y:=(.tmp 9)) bl off n c i hp ho hi2.1 hi2.2.1 (by omega) w),.fs (off:=off+i*1) (v:=.string x) hh (zv hh) hcx,.v] H5 kr fun gs5 w6 H6=>rL [.l 0,.v,.v,.cp (pre:=Ke.Marks) (Ke.take_fnq q hqk x (by omega)) [] (fun w hb hd=>yA hM hb),.v,.v,.v,.s 0,.v] H6 kr fun gs6 w7 H7=>?_;exact ⟨kr,_,(by rw [qp hx,zlt,hq]),H7.as kr,isK⟩
 ·clear H0 H1 H2 H3 H4;rintro _ w5 ⟨q,hq,H5,_,rfl⟩;rw [List.take_of_length_le (by omega)] at hq;have hqk:Kec.StOK q:=hq▸zfR _;refine wW<|rS [.l 0,.v,.c (Ke.end_fnq q hqk),.cp (pre:=Ke.Marks) (Ke.mix_fn (Kec.endB q)) [] (fun w hb hd=>yA hM hb),.c (Ke.first_fn (Kec.mix (Kec.endB q))),.v] H5 kr fun gs8 w8 H8=>?_;exact rRe [.tmp 2] [] (v:=.string (zh (Kec.firstB (Kec.mix (Kec.endB q))))) (v':=.string (jg (jD A))) H8 (by rw [←hq];rfl) kr
def xX (L:List Txn):Value:=.tuple #[.string (if L.all rtX=true then sumTs L else em),.int .i64 (if L.all rtX=true then 0 else 1)]
def qJ (x:Txn):Prop:=yt x∧x.1.size≤1000000
abbrev tn0:Txn:=(em,0,0,0,0,0)
abbrev tnO (x:Txn):Obj:=.cells (tnC x) 59 (0,0)
theorem zlv (x:Txn)(o:qJ x)(r:rtX x=true):FnP Tryz.prog 28 #[tnV x] Ke.Marks (.tuple #[.string (jg (zM x)),.int .i64 0]):=by
 have h:=zfB x.1 x.2.1 x.2.2.1 x.2.2.2.1 x.2.2.2.2.1 x.2.2.2.2.2 o.2 o.1.1 o.1.2.1 o.1.2.2.1 o.1.2.2.2;rw [if_pos (xW r)] at h;exact h
theorem zlw (x:Txn)(o:qJ x)(r:rtX x=false):FnP Tryz.prog 28 #[tnV x] Ke.Marks (.tuple #[.string em,.int .i64 1]):=by
 have h:=zfB x.1 x.2.1 x.2.2.1 x.2.2.2.1 x.2.2.2.2.1 x.2.2.2.2.2 o.2 o.1.1 o.1.2.1 o.1.2.2.1 o.1.2.2.2;rw [zkq (show qH x.1 x.2.2.2.1 x.2.2.2.2.1 x.2.2.2.2.2=false from r)] at h;exact h
theorem zfS (p:Option Addr)(n c:Nat)(L:List Txn)(hL:L.length≤1000000)(hO: ∀x∈L,qJ x):FnP Tryz.prog 18 #[.slice p n c] (fun w=>AtF tnS w p n L∧Ke.Marks w) (xX L):=by
 refine FnP.intro (c:=zf Tryz.f18) [.tmp 2,.tmp 3] 30 Tryz.func18 kr kr kr fun w hP=>?_;obtain ⟨hP,hM⟩:=hP;have hn:=hP.1;have H0:=St.start w;refine rS [.v,.v] H0 kr fun gs1 w1 H1=>rS [.v] H1 kr fun gs2 w2 H2=>zc kr<|rS [.v,.v,.v] H2 kr fun gs3 w3 H3=>qw 11 10 12 27 0 1 n (by omega) (fun i ρ ww=> ∃q m k row,(L.take i).all rtX=true∧yP sS 9 q m k row ((L.take i).map fun x=>jg (zM x))∧St w.heap.size w ww row∧Is [(0,.slice p n c),(4,.slice q m k),(9,.slice p n c),(10,iN n),(11,iN i)] ρ) (by rintro i _ ww ⟨_,_,_,_,_,_,_,_,rfl⟩;exact ⟨kr,kr⟩) ⟨none,0,0,[],rfl,.inl ⟨rfl,rfl,rfl,rfl,rfl⟩,H3.as kr,isK⟩ ?_ ?_
 ·clear H0 H1 H2 H3;rintro i _ w5 hi ⟨q,m,k,row,hal,hrow,H5,_,rfl⟩;obtain ⟨x,hx⟩:∃x,L[i]? =some x:=⟨_,List.getElem?_eq_getElem (by omega)⟩
  obtain ⟨bl,off,C,T,fz,hp,hh,hR⟩:=hP.row2 (by omega);have ox:=hO x (List.mem_of_getElem? hx);have hm:=hrow.len;rw [List.length_map,List.length_take] at hm;refine zg [0,1,2,3] kr kr<|rp [.o (ins:=[((.tmp 9),.slice p n c),((.tmp 11),iN i)]) (v:=.pointer (some ⟨bl,off+i*12,none⟩)) (fun ρ o w ho hi2=>zL (kd:=.i64) (t:=27) (e:=59) (K:=12) (bytes:=104) kr (x:=(.tmp 9)) (y:=(.tmp 11)) bl off n c i hp ho hi2.1 hi2.2.1 (by omega) w),.fp (off:=off+i*12) (n:=12) (W:=tnC x) hh (zv hh) (hR _ _ hx).1 (hR _ _ hx).2] H5 kr fun gs5 w6 H6=>wX [2,3] ?_;have H6':St w.heap.size w w6 row:=H6.as kr;refine zE H6' (some 6) 59 (tnV tn0) kr kr kr ?_;intro b1 w7 H7;refine rp [.s 0] H7 kr fun gs6 w8 H8=>wX []<|zb ?_;have H9:St w.heap.size w w8 ((b1,tnO x)::row):=H8.as kr;cases rx:rtX x with
  | false=>
   have e9:L.all rtX≠true:=fun e=>by
    rw [List.all_eq_true.1 e x (List.mem_of_getElem? hx)] at rx;cases rx
   refine rS [.l 0,.cp (pre:=Ke.Marks) (zlw x ox rx) [] (fun w hb hd=>yA hM hb),.v,.v,.v,.v,.v] H9 kr fun gs7 w9 H10=>zc kr<|rS [.v,.v] H10 kr fun gs8 w10 H11=>zU<|rS [.v,.v,.v] H11 kr fun gs9 w11 H12=>?_;exact rRe [.tmp 2,.tmp 3] [] (v:=.tuple #[.string em,.int .i64 1]) (v':=xX L) H12 (by unfold xX;rw [if_neg e9,if_neg e9]) kr
  | true=>
   refine rS [.l 0,.cp (pre:=Ke.Marks) (zlv x ox rx) [] (fun w hb hd=>yA hM hb),.v,.v,.v,.v,.v] H9 kr fun gs7 w9 H10=>zc kr<|rS [.v,.v] H10 kr fun gs8 w10 H11=>yk<|wW<|yo [0,1,2,3,4] kr<|rp [.v,.v] H11 kr fun gs9 w11 H12=>wX [2,3,4] ?_;have H13:St w.heap.size w w11 ((b1,tnO x)::row):=H12.as kr;refine vn H13 (some 25) (fun b=>.slice (some ⟨b,0,none⟩) 1 1) (sS.cs (jg (zM x))).toArray 9 kr kr ?_;intro nb w12 H14;refine vp (S:=sS) (Z:=[(b1,tnO x)]) (some 26) 23 9 16 (.tmp 23) (.tmp 25) (H14.perm (List.Perm.cons _ (List.perm_append_comm (l₁:=row) (l₂:=[(b1,tnO x)])))) hrow kr kr kr kr kr (by omega) (by unfold maxLen;omega) ?_;intro b' cap' cur' w13 H15 hrn;refine rp [.v] H15 kr fun gs10 w14 H16=>wX []<|zb ?_;have H17:St w.heap.size w w14 [(b',.cells cur' 9 (0,0)),(b1,tnO x)]:=H16.as kr;refine ⟨kr,some ⟨b',0,none⟩,m+1,cap',[(b',.cells cur' 9 (0,0))],?_,.inr ⟨b',cur',rfl,rfl,?_⟩,H17.sub (List.Sublist.cons_cons _ (List.nil_sublist _)),isK⟩
   ·rw [qp hx,List.all_append,hal,Bool.true_and];simpa using rx
   ·rw [qp hx,List.map_append];exact hrn
 ·clear H0 H1 H2 H3;rintro _ w5 ⟨q,m,k,row,hal,hrow,H5,_,rfl⟩;rw [List.take_of_length_le (by omega)] at hal hrow;refine wW<|zg [0,1,2,3] kr kr<|rp [.v] H5 kr fun gs5 w6 H6=>wX [1,2,3] ?_;have H7:St w.heap.size w w6 row:=H6.as kr;refine yC H7 (some 29) 29 #[.slice q m k] _ _ (zlu q m k (L.map fun x=>jg (zM x)) (by rw [List.length_map];exact hL) (fun y hy=>by obtain ⟨z,_,rfl⟩:=List.mem_map.1 hy;rw [zfD];omega)) ⟨hrow.atF H7 fun e he=>he,yA hM H7.below⟩ (fun w=>by kernel_rfl) kr ?_;intro w7 H8;refine rp [.v,.v] H8 kr fun gs6 w8 H9=>wX []<|zb<|wW ?_;exact rRe [.tmp 2,.tmp 3] [] (v:=.tuple #[.string (jg (jD (L.map fun x=>jg (zM x)))),.int .i64 0]) (v':=xX L) H9 (by unfold xX;rw [if_pos hal,if_pos hal];rfl) kr
abbrev bkO (h:Hdr)(p:Option Addr)(n c:Nat)(q:Option Addr)(m k:Nat)(t:Option Addr)(z e:Nat):Obj:=.cells (bkC h p n c q m k t z e) 29 (0,0)
theorem zaH (h:Hdr)(L:List Txn)(o:vM h)(hL:L.length≤1000000)(hO: ∀x∈L,qJ x)(p:Option Addr)(n c:Nat)(q:Option Addr)(m k:Nat)(t:Option Addr)(z e:Nat):FnP Tryz.prog 9 #[bkV h p n c q m k t z e] (fun w=>ju w h L p n q m t z∧Ke.Marks w) (.bool (yB h L)):=by
 refine FnP.intro (c:=zf Tryz.f9) [.tmp 2] 30 Tryz.func9 kr kr kr fun w hP=>?_;obtain ⟨⟨hH,hT⟩,hM⟩:=hP;have hz:=hT.1;have no: ¬zfN h L→yB h L=false:=fun g=>Bool.eq_false_iff.2 fun e=>g (jh.1 e);have hR:=zcf h o p n c q m k;have hs:=zfS t z e L hL hO;refine rS [.b,.v] (St.start w) kr fun gs1 w1 H1=>zc kr ?_;by_cases h4:z≤4
 case neg=>
  refine rS [.v,.l 0,.v,.E (.bool (decide ((z:Int)>4))) (.bool true) (za (decide_eq_true (by omega))),.v,.n,.n,.n,.n,.v] H1 kr fun gs2 w2 H2=>zU<|rS [.v] H2 kr fun gs3 w3 H3=>?_;exact rRe [.tmp 2] [] (v:=.bool false) (v':=.bool (yB h L)) H3 (za (no fun g=>h4 (by rw [hz];exact g.ln)).symm) kr
 cases hr:rightH h with
 | false=>
  rw [hr] at hR;refine rS [.v,.l 0,.v,.E (.bool (decide ((z:Int)>4))) (.bool false) (za (decide_eq_false (by omega))),.v,.v,.l 0,.cp hR [] (fun w hb hd=>hH.call hb),.v,.v] H1 kr fun gs2 w2 H2=>zU<|rS [.v] H2 kr fun gs3 w3 H3=>?_;exact rRe [.tmp 2] [] (v:=.bool false) (v':=.bool (yB h L)) H3 (za (no fun g=>by rw [g.hd] at hr;cases hr).symm) kr
 | true=>
  rw [hr] at hR;refine rS [.v,.l 0,.v,.E (.bool (decide ((z:Int)>4))) (.bool false) (za (decide_eq_false (by omega))),.v,.v,.l 0,.cp hR [] (fun w hb hd=>hH.call hb),.v,.v] H1 kr fun gs2 w2 H2=>yk<|wW ?_;by_cases hal:L.all rtX=true
  case neg=>
   unfold xX at hs;rw [if_neg hal,if_neg hal] at hs;refine rS [.v,.l 0,.cp hs [] (fun w hb hd=>⟨hT.call hb,yA hM hb⟩),.v,.v,.v,.v,.v] H2 kr fun gs3 w3 H3=>rS [.v,.v,.v,.n,.n,.n,.n,.n,.v,.v] H3 kr fun gs4 w4 H4=>?_;exact rRe [.tmp 2] [] (v:=.bool false) (v':=.bool (yB h L)) H4 (za (no fun g=>hal g.al).symm) kr
  unfold xX at hs;rw [if_pos hal,if_pos hal] at hs;refine rS [.v,.l 0,.cp hs [] (fun w hb hd=>⟨hT.call hb,yA hM hb⟩),.v,.v,.v,.v,.v] H2 kr fun gs3 w3 H3=>rS [.v,.v,.v,.v,.v,.v,.l 0,.E (.bool ((sumTs L).toList==h.tx.toList)) (.bool (yB h L)) (za ?_),.v,.v] H3 kr fun gs4 w4 H4=>?_
  ·by_cases e9:sumTs L=h.tx
   ·rw [zI _ _ e9,jh.2 ⟨hr,by omega,hal,e9⟩]
   ·rw [yO _ _ e9,no fun g=>e9 g.sm]
  exact rR [.tmp 2] [] (.bool (yB h L)) H4 kr
def zfT (M:List ByteArray)(v:Value)(T:List (Nat×Obj)):Prop:=∃(b n c:Nat) (cur:Array Value),v=.slice (some ⟨b,0,none⟩) n c∧T=[(b,.cells cur 46 (0,0))]∧Rw 3 cur c n (cellsF iS (M.map b3))
theorem zlx (x:Txn)(o:qJ x)(r:rtX x=true):Fn Tryz.prog 23 #[tnV x] (.tuple #[.string (zM x),.int .i64 0]):=by
 have h:=zfA x.1 x.2.1 x.2.2.1 x.2.2.2.1 x.2.2.2.2.1 x.2.2.2.2.2 o.2 o.1.1 o.1.2.1 o.1.2.2.1 o.1.2.2.2;have e:qS (jC x)=.tuple #[.string (zM x),.int .i64 0]:=by unfold qS;rw [xW r];rfl
 rw [←e];exact h
theorem zly (h:Hdr)(L:List Txn)(o:zZ h)(hL:L.length≤1000000)(hO: ∀x∈L,qJ x)(hr:rightH h=true)(hal:L.all rtX=true)(p:Option Addr)(n c:Nat)(q:Option Addr)(m k:Nat)(t:Option Addr)(z e:Nat):FnT Tryz.prog 13 #[bkV h p n c q m k t z e] (fun w=>ju w h L p n q m t z) (zfT (yg h::L.map zM)):=by
 refine FnT.intro (c:=zf Tryz.f13) [.tmp 2] 38 Tryz.func13 kr kr kr fun w hP=>?_;obtain ⟨hH,hT⟩:=hP;have hz:=hT.1;have H0:=St.start w;refine rS [.b,.v] H0 kr fun gs1 w1 H1=>rS [.v,.l 0,.cp (zfF h o hr p n c q m k) [] (fun w hb hd=>hH.call hb),.v,.v,.v,.v,.v] H1 kr fun gs2 w2 H2=>rS [.v,.v,.nw (fun b=>.slice (some ⟨b,0,none⟩) 1 1) (iS.cs (b3 (yg h))).toArray 46,.v] H2 kr fun gs3 w3 H3=>zc kr<|rS [.v,.l 0,.v,.v] H3 kr fun gs4 w4 H4=>qw 22 21 23 36 0 1 z (by omega) (fun i ρ ww=> ∃b k1 cur,Rw 3 cur k1 (i+1) (cellsF iS ((yg h::(L.take i).map zM).map b3))∧St w.heap.size w ww [((gs1 0).b,bkO h p n c q m k t z e),(b,.cells cur 46 (0,0))]∧Is [(1,.pointer (some ⟨(gs1 0).b,0,none⟩)),(5,.slice (some ⟨b,0,none⟩) (i+1) k1),(20,.slice t z e),(21,iN z),(22,iN i)] ρ) (by rintro i _ ww ⟨_,_,_,_,_,_,rfl⟩;exact ⟨kr,kr⟩) ⟨(gs3 2).b,1,(iS.cs (b3 (yg h))).toArray,⟨rfl,Nat.le_refl _,by decide,rfl,rfl⟩,H4.as kr,isK⟩ ?_ ?_
 ·clear H0 H1 H2 H3 H4;rintro i _ w5 hi ⟨b,k1,cur,hrw,H5,_,rfl⟩;obtain ⟨x,hx⟩:∃x,L[i]? =some x:=⟨_,List.getElem?_eq_getElem (by omega)⟩
  obtain ⟨bl,off,C,T,fz,hp,hh,hR⟩:=hT.row2 (by omega);have ox:=hO x (List.mem_of_getElem? hx);have rx:=List.all_eq_true.1 hal x (List.mem_of_getElem? hx);refine rS [.o (ins:=[((.tmp 20),.slice t z e),((.tmp 22),iN i)]) (v:=.pointer (some ⟨bl,off+i*12,none⟩)) (fun ρ o w ho hi2=>zL (kd:=.i64) (t:=27) (e:=59) (K:=12) (bytes:=104) kr (x:=(.tmp 20)) (y:=(.tmp 22)) bl off z e i hp ho hi2.1 hi2.2.1 (by omega) w),.fp (off:=off+i*12) (n:=12) (W:=tnC x) hh (zv hh) (hR _ _ hx).1 (hR _ _ hx).2,.a,.s 2] H5 kr fun gs5 w6 H6=>rS [.l 2,.c (zlx x ox rx),.v,.v,.v,.v,.v] H6 kr fun gs6 w7 H7=>yo [0,1,2,3,4,5] kr<|rp [.v,.v,.v] H7 kr fun gs7 w8 H8=>wX [3,4,5] ?_;have H9:St w.heap.size w w8 [((gs1 0).b,bkO h p n c q m k t z e),(b,.cells cur 46 (0,0)),((gs5 2).b,tnO x)]:=H8.as kr;refine vn H9 (some 34) (fun b=>.slice (some ⟨b,0,none⟩) 1 1) (iS.cs (b3 (zM x))).toArray 46 kr kr ?_;intro nb w9 H10;refine vp (S:=iS) (row:=[(b,.cells cur 46 (0,0))]) (Z:=[((gs1 0).b,bkO h p n c q m k t z e),((gs5 2).b,tnO x)]) (some 35) 43 46 48 (.tmp 31) (.tmp 34) (H10.perm (List.Perm.cons _ (List.Perm.swap _ _ _))) (.inr ⟨b,cur,rfl,rfl,hrw⟩) kr kr kr kr kr (by omega) (by unfold maxLen;omega) ?_;intro b' cap' cur' w10 H11 hrn;refine rp [.v] H11 kr fun gs8 w11 H12=>wX []<|zb ?_;have H13:St w.heap.size w w11 [(b',.cells cur' 46 (0,0)),((gs1 0).b,bkO h p n c q m k t z e),((gs5 2).b,tnO x)]:=H12.as kr;refine ⟨kr,b',cap',cur',?_,(H13.sub (List.Sublist.cons_cons _ (List.Sublist.cons_cons _ (List.nil_sublist _)))).perm (List.Perm.swap _ _ _),isK⟩;rw [qp hx,List.map_append,←List.cons_append,List.map_append];exact hrn
 ·clear H0 H1 H2 H3 H4;rintro _ w5 ⟨b,k1,cur,hrw,H5,_,rfl⟩;rw [List.take_of_length_le (by omega)] at hrw;refine wW<|rS [.v,.v] H5 kr fun gs5 w6 H6=>rRr [.tmp 2] [] (.slice (some ⟨b,0,none⟩) (z+1) k1) (zX w.heap.size w (zfT (yg h::L.map zM))) H6 kr ?_;exact ⟨_,⟨b,z+1,k1,cur,rfl,rfl,hrw⟩,(H6.as (l:=[((gs1 0).b,bkO h p n c q m k t z e),(b,.cells cur 46 (0,0))]) kr).sub (List.sublist_cons_self ..)⟩
theorem zfU: ∀M:List ByteArray,toFo (M.map b3)=lsI M
 | []=>rfl
 | a::r=>by
  show Fo.cons false a .nil (toFo (r.map b3))=_;rw [zfU r];rfl
theorem zlz (M:List ByteArray)(hM: ∀x∈M,x.size≤1000000)(b n c:Nat)(cur:Array Value)(hrw:Rw 3 cur c n (cellsF iS (M.map b3)))(hn:0<n)(hn2:n≤2000000):FnP Tryz.prog 12 #[.slice (some ⟨b,0,none⟩) n c] (fun w=>w.heap[b]? =some (.cells cur 46 (0,0))) (jN (zG true emB (lsI M).len (lsI M))):=by
 refine FnP.intro (c:=zf Tryz.f12) [.tmp 2,.tmp 3] 9 Tryz.func12 kr kr kr fun w hP=>?_;have hlen:n=(M.map b3).length:=(Rw.lenF (S:=iS) hrw).symm;obtain rfl:n=(lsI M).len:=by rw [hlen,zfb,List.length_map]
 rw [zen] at hrw;refine rS [.v,.v] (St.start w) kr fun gs1 w1 H1=>zg [0,1,2,3,4,5,6] kr kr<|rp [.v] H1 kr fun gs2 w2 H2=>wX [1,2,3,4,5,6] ?_;have H3:St w.heap.size w w2 []:=H2.as kr;refine zbv H3 (some 5) 21 #[.slice (some ⟨b,0,none⟩) (lsI M).len c] (fun w=>(lsI M).len=List.length (M.map b3)∧qG w (some ⟨b,0,none⟩) (M.map b3)) 46 (fun v=>.agg #[.bool true,.string ⟨#[]⟩,v]) (lsI M).len (M.map b3) (zes _ _ _ (M.map b3) (by omega)) (hrw.cellsAt (T:=46) (fz:=(0,0)) (zjf hP H3.below)) kr kr (fun w' h0=>absurd h0 (by omega)) ?_;intro bl cap cur2 w3 H4 hr
 have hsl:SlIn [(bl,.cells cur2 46 (0,0))] (some ⟨bl,0,none⟩) (lsI M).len (toFo (M.map b3)):=hr.slIn (ty:=46) (fz:=(0,0)) (List.mem_cons_self ..) (fun y hy=>by
  obtain ⟨x,hx,rfl⟩:=List.mem_map.1 hy
  exact ⟨zje _ _,by have:=hM x hx;show x.size≤_;omega⟩) (by omega)
 rw [zfU] at hsl;have hE:=zdD true emB (some ⟨bl,0,none⟩) (lsI M).len cap (lsI M) (Nat.zero_le _);refine yC H4 (some 6) 20 #[.agg #[.bool true,.string ⟨#[]⟩,.slice (some ⟨bl,0,none⟩) (lsI M).len cap]] _ _ hE (hsl.at H4 fun e he=>he) (fun w=>by kernel_rfl) kr ?_;intro w4 H5;refine rp [.v,.v,.v,.v] H5 kr fun gs4 w5 H6=>wX []<|zb<|wW ?_;exact rR [.tmp 2,.tmp 3] [] (jN (zG true emB (lsI M).len (lsI M))) H6 kr
theorem zlA (h:Hdr)(L:List Txn)(o:vM h)(hL:L.length≤1000000)(hO: ∀x∈L,qJ x)(r:yB h L=false)(p:Option Addr)(n c:Nat)(q:Option Addr)(m k:Nat)(t:Option Addr)(z e:Nat):FnP Tryz.prog 5 #[bkV h p n c q m k t z e] (fun w=>ju w h L p n q m t z∧Ke.Marks w) (.tuple #[.string em,.int .i64 1]):=by
 have hR:=zaH h L o hL hO p n c q m k t z e;rw [r] at hR;refine FnP.intro (c:=zf Tryz.f5) [.tmp 2,.tmp 3] 12 Tryz.func5 kr kr kr fun w hP=>rS [.b,.v,.v] (St.start w) kr fun gs1 w1 H1=>zc kr<|rS [.l 0,.cp hR [] (fun w hb hd=>⟨⟨hP.1.1.call hb,hP.1.2.call hb⟩,yA hP.2 hb⟩),.v] H1 kr fun gs2 w2 H2=>zU<|rS [.v,.v] H2 kr fun gs3 w3 H3=>?_;exact rR [.tmp 2,.tmp 3] [] (.tuple #[.string em,.int .i64 1]) H3 kr
theorem zfV (h:Hdr)(L:List Txn)(o:zZ h)(hO: ∀x∈L,qJ x)(r:yB h L=true)(p:Option Addr)(n c:Nat)(q:Option Addr)(m k:Nat)(t:Option Addr)(z e:Nat):FnP Tryz.prog 5 #[bkV h p n c q m k t z e] (fun w=>ju w h L p n q m t z∧Ke.Marks w) (.tuple #[.string (qB h L).1,.int .i64 0]):=by
 have g:=jh.1 r;have hln:=g.ln;have hR:=zaH h L o.sm (by omega) hO p n c q m k t z e;rw [r] at hR;refine FnP.intro (c:=zf Tryz.f5) [.tmp 2,.tmp 3] 12 Tryz.func5 kr kr kr fun w hP=>?_;have hz:=hP.1.2.1;refine rS [.b,.v,.v] (St.start w) kr fun gs1 w1 H1=>zc kr<|rS [.l 0,.cp hR [] (fun w hb hd=>⟨⟨hP.1.1.call hb,hP.1.2.call hb⟩,yA hP.2 hb⟩),.v] H1 kr fun gs2 w2 H2=>yk<|wW<|zg [0,1,2,3,4,5,6] kr kr<|rp [.l 0] H2 kr fun gs3 w3 H3=>wX [1,2,3,4,5,6] ?_;have H4:St w.heap.size w w3 [((gs1 0).b,bkO h p n c q m k t z e)]:=H3.as kr;refine qD H4 (some 8) 13 #[bkV h p n c q m k t z e] (zly h L o (by omega) hO g.hd g.al p n c q m k t z e) ⟨hP.1.1.call H4.below,hP.1.2.call H4.below⟩ kr kr ?_;rintro _ _ w4 ⟨b,n2,c2,cur,rfl,rfl,hrw⟩ H5;have hl2:=Rw.lenF (S:=iS) hrw;rw [List.length_map,List.length_cons,List.length_map] at hl2
 refine yC H5 (some 9) 12 #[.slice (some ⟨b,0,none⟩) n2 c2] _ _ (zlz (yg h::L.map zM) (fun x hx=>by
  rcases List.mem_cons.1 hx with rfl|hx
  ·have:=zfM g.hd;omega
  ·obtain ⟨y,hy,rfl⟩:=List.mem_map.1 hx
   have:=zfL (List.all_eq_true.1 g.al y hy);omega) b n2 c2 cur hrw (by omega) (by omega)) (H5.get 0 rfl) (fun w=>by kernel_rfl) kr ?_
 intro w5 H6;refine rp [.v,.v,.v,.v] H6 kr fun gs4 w6 H7=>wX []<|zb<|wW ?_;exact rRe [.tmp 2,.tmp 3] [] (v:=jN (qB h L)) (v':=.tuple #[.string (qB h L).1,.int .i64 0]) H7 (by unfold jN;rw [kJ r];rfl) kr
end Go.Proofs.YthonokeibcodpaaGreatDoor
namespace Go.Proofs.YthonokeibcodpaaGreatDoor
open Go Go.RowKit
open D2 (Gh)
set_option linter.unusedVariables false
def zfW (h:Hdr)(v:Value)(T:List (Nat×Obj)):Prop:=∃(q1:Option Addr) (n1 c1:Nat) (q2:Option Addr) (n2 c2:Nat) (T1 T2:List (Nat×Obj)),v=hdV h q1 n1 c1 q2 n2 c2∧yP sS 9 q1 n1 c1 T1 h.vs∧yP sgF 57 q2 n2 c2 T2 h.ss∧T=T1++T2
theorem zch {k:Kf}{l:Fe}{S:ByteArray}(h:yr 40 k (0,⟨#[]⟩) l=(S,0)):S≠em:=by
 obtain ⟨_,he⟩:=xB h;have h1:(zG true ⟨#[]⟩ (zT 40 k l).len (zT 40 k l)).2=0:=by rw [he]
 obtain ⟨e,hm,hp,_⟩:=jm h1;have h2:=(jx hm hp rfl).1;rw [he] at e;intro e0;have e3:=congrArg ByteArray.size e;rw [qd] at e3;have e4:S.size=0:=by rw [e0];rfl
 have e5:S.size=_:=e3;omega
theorem zlB (pa:ByteArray)(hn:Nat)(ro tx pr va:ByteArray)(L:List ByteArray)(vo:ByteArray)(a rd:Nat)(M:List ByteArray)(hLl:L.length≤40)(hMl:M.length≤40)(z9: ∀x∈M,ByteArray.size x=65)(p4:Option Addr)(c4:Nat):
 FnT Tryz.prog 45 #[.slice p4 11 c4] (fun w=>SlR fS w.heap.size w p4 11 (hdL pa hn ro tx pr va L vo a rd M)) (zfW (hdX pa hn ro tx pr va vo a rd L M)):=by
 refine FnT.intro (c:=zf Tryz.f45) [.cell 2 26] 88 Tryz.func45 kr kr kr fun w hP=>rS [.a] (St.start w) kr fun gs1 w6 H1=>?_;have H6:St w.heap.size w w6 [((gs1 0).b,hdO hd0 none 0 0 none 0 0)]:=H1.as kr;have hsl:=SlR.call hP H6.below;have J0:=St.start w6;obtain ⟨b,off,C,Tt,fz,hp,hh,hcell⟩:=zcc hsl (by unfold hdL;exact fun e=>nomatch e);have f0:=(hcell 0 _ _ rfl).2.1;have f1:=(hcell 1 _ _ rfl).1;have f2:=(hcell 2 _ _ rfl).2.1;have f3:=(hcell 3 _ _ rfl).2.1;have f4:=(hcell 4 _ _ rfl).2.1;have f5:=(hcell 5 _ _ rfl).2.1;obtain ⟨p6,n6,c6,f6,s6,_⟩:=(hcell 6 _ _ rfl).2.2;have f7:=(hcell 7 _ _ rfl).2.1;have f8:=(hcell 8 _ _ rfl).1;have f9:=(hcell 9 _ _ rfl).1;obtain ⟨p10,n10,c10,f10,s10,_⟩:=(hcell 10 _ _ rfl).2.2;have hn6:n6=L.length:=s6.1.trans (vJ L);have hn10:n10=M.length:=s10.1.trans (vJ M);refine uh [(0,.slice p4 11 c4),(2,.pointer (some ⟨(gs1 0).b,0,none⟩))] kr fun ρ1=>dSg (fun gsd=>[.v,.o (ins:=[((.tmp 10),.slice p4 11 c4)]) (v:=.pointer (some ⟨b,off+0*3,none⟩)) (fun ρ o w ho hi2=>zL (kd:=.i64) (t:=82) (e:=86) (K:=3) (bytes:=48) kr (x:=(.tmp 10)) (y:=.const (.int .i64 0)) b off 11 c4 0 hp ho hi2.1 rfl (by decide) w),.v,.fs (off:=off+0*3+1) (v:=.string pa) hh (zv hh) f0,.v,.o (ins:=[((.tmp 14),.slice p4 11 c4)]) (v:=.pointer (some ⟨b,off+1*3,none⟩)) (fun ρ o w ho hi2=>zL (kd:=.i64) (t:=82) (e:=86) (K:=3) (bytes:=48) kr (x:=(.tmp 14)) (y:=.const (.int .i64 1)) b off 11 c4 1 hp ho hi2.1 rfl (by decide) w),.v,.fs (off:=off+1*3+0) (v:=.int .u64 (hn:Int)) hh (zv hh) f1,.v,.o (ins:=[((.tmp 18),.slice p4 11 c4)]) (v:=.pointer (some ⟨b,off+2*3,none⟩)) (fun ρ o w ho hi2=>zL (kd:=.i64) (t:=82) (e:=86) (K:=3) (bytes:=48) kr (x:=(.tmp 18)) (y:=.const (.int .i64 2)) b off 11 c4 2 hp ho hi2.1 rfl (by decide) w),.v,.fs (off:=off+2*3+1) (v:=.string ro) hh (zv hh) f2,.v,.o (ins:=[((.tmp 22),.slice p4 11 c4)]) (v:=.pointer (some ⟨b,off+3*3,none⟩)) (fun ρ o w ho hi2=>zL (kd:=.i64) (t:=82) (e:=86) (K:=3) (bytes:=48) kr (x:=(.tmp 22)) (y:=.const (.int .i64 3)) b off 11 c4 3 hp ho hi2.1 rfl (by decide) w),.v,.fs (off:=off+3*3+1) (v:=.string tx) hh (zv hh) f3,.v,.o (ins:=[((.tmp 26),.slice p4 11 c4)]) (v:=.pointer (some ⟨b,off+4*3,none⟩)) (fun ρ o w ho hi2=>zL (kd:=.i64) (t:=82) (e:=86) (K:=3) (bytes:=48) kr (x:=(.tmp 26)) (y:=.const (.int .i64 4)) b off 11 c4 4 hp ho hi2.1 rfl (by decide) w),.v,.fs (off:=off+4*3+1) (v:=.string pr) hh (zv hh) f4,.v,.o (ins:=[((.tmp 30),.slice p4 11 c4)]) (v:=.pointer (some ⟨b,off+5*3,none⟩)) (fun ρ o w ho hi2=>zL (kd:=.i64) (t:=82) (e:=86) (K:=3) (bytes:=48) kr (x:=(.tmp 30)) (y:=.const (.int .i64 5)) b off 11 c4 5 hp ho hi2.1 rfl (by decide) w),.v,.fs (off:=off+5*3+1) (v:=.string va) hh (zv hh) f5,.v,.o (ins:=[((.tmp 34),.slice p4 11 c4)]) (v:=.pointer (some ⟨b,off+7*3,none⟩)) (fun ρ o w ho hi2=>zL (kd:=.i64) (t:=82) (e:=86) (K:=3) (bytes:=48) kr (x:=(.tmp 34)) (y:=.const (.int .i64 7)) b off 11 c4 7 hp ho hi2.1 rfl (by decide) w),.v,.fs (off:=off+7*3+1) (v:=.string vo) hh (zv hh) f7,.v,.o (ins:=[((.tmp 38),.slice p4 11 c4)]) (v:=.pointer (some ⟨b,off+8*3,none⟩)) (fun ρ o w ho hi2=>zL (kd:=.i64) (t:=82) (e:=86) (K:=3) (bytes:=48) kr (x:=(.tmp 38)) (y:=.const (.int .i64 8)) b off 11 c4 8 hp ho hi2.1 rfl (by decide) w),.v,.fs (off:=off+8*3+0) (v:=.int .u64 (a:Int)) hh (zv hh) f8,.E (.bool ((a:Int)!=0)) (.bool (decide (0<a))) (za (by rw [Bool.eq_iff_iff];simp<;>omega)),.v,.o (ins:=[((.tmp 43),.slice p4 11 c4)]) (v:=.pointer (some ⟨b,off+9*3,none⟩)) (fun ρ o w ho hi2=>zL (kd:=.i64) (t:=82) (e:=86) (K:=3) (bytes:=48) kr (x:=(.tmp 43)) (y:=.const (.int .i64 9)) b off 11 c4 9 hp ho hi2.1 rfl (by decide) w),.v,.fs (off:=off+9*3+0) (v:=.int .u64 (rd:Int)) hh (zv hh) f9,.v,.a,.s 0]) J0 kr fun gsd w7 J1=>?_;obtain ⟨b6,hb6⟩:∃b6,(gsd 38).b=b6:=⟨_,rfl⟩
 have J2:St w6.heap.size w6 w7 [(b6,Obj.cells (hdC (hdX pa hn ro tx pr va vo a rd L M) none 0 0 none 0 0) 26 (0,0))]:=J1.as (by rw [←hb6];kernel_rfl);refine uh [(0,.slice p4 11 c4),(2,.pointer (some ⟨(gs1 0).b,0,none⟩)),(3,.pointer (some ⟨b6,0,none⟩))] (by rw [←hb6];kernel_rfl) fun ρ2=>?_;clear J0 J1 hb6;refine zc kr<|rS [.v,.o (ins:=[((.tmp 48),.slice p4 11 c4)]) (v:=.pointer (some ⟨b,off+6*3,none⟩)) (fun ρ o w ho hi2=>zL (kd:=.i64) (t:=82) (e:=86) (K:=3) (bytes:=48) kr (x:=(.tmp 48)) (y:=.const (.int .i64 6)) b off 11 c4 6 hp ho hi2.1 rfl (by decide) w),.v,.fs (off:=off+6*3+2) (v:=.slice p6 n6 c6) hh (zv hh) f6,.v,.v] J2 kr fun gs5 w8 J3=>qw 53 52 54 64 0 1 n6 (by omega) (fun i ρ ww=> ∃q1 cb1 Tb,yP sS 9 q1 i cb1 Tb (L.take i)∧St w6.heap.size w6 ww ((b6,Obj.cells (hdC (hdX pa hn ro tx pr va vo a rd L M) q1 i cb1 none 0 0) 26 (0,0))::Tb)∧Is [(0,.slice p4 11 c4),(2,.pointer (some ⟨(gs1 0).b,0,none⟩)),(3,.pointer (some ⟨b6,0,none⟩)),(51,.slice p6 n6 c6),(52,iN n6),(53,iN i)] ρ) (by rintro i _ ww ⟨_,_,_,_,_,_,rfl⟩;exact ⟨kr,kr⟩) ⟨none,0,[],.inl ⟨rfl,rfl,rfl,rfl,rfl⟩,J3.as kr,isK⟩ ?_ ?_
 ·clear J2 J3;rintro i _ w9 hi ⟨q1,cb1,Tb,hrow,J4,_,rfl⟩;obtain ⟨x,hx⟩:∃x,L[i]? =some x:=⟨_,List.getElem?_eq_getElem (by omega)⟩
  obtain ⟨bx,ox,CX,TX,fx,hpx,hhx,hcx⟩:=zcc s6 (zfu (by omega));obtain ⟨_,_,px,nx,cx,_,_,e1,e2⟩:=hcx i _ _ (zcd hx);refine zg [0,1,2,3] kr kr<|rp [.o (ins:=[((.tmp 51),.slice p6 n6 c6),((.tmp 53),iN i)]) (v:=.pointer (some ⟨bx,ox+i*3,none⟩)) (fun ρ o w ho hi2=>zL (kd:=.i64) (t:=82) (e:=86) (K:=3) (bytes:=48) kr (x:=(.tmp 51)) (y:=(.tmp 53)) bx ox n6 c6 i hpx ho hi2.1 hi2.2.1 (by omega) w),.fp (off:=ox+i*3) (n:=3) (W:=#[wZ,.string x,.slice px nx cx]) hhx (zv hhx) e1 e2] J4 kr fun gs6 w10 J5=>wX [2,3] ?_;have J6:St w6.heap.size w6 w10 ((b6,Obj.cells (hdC (hdX pa hn ro tx pr va vo a rd L M) q1 i cb1 none 0 0) 26 (0,0))::Tb):=J5.as kr;refine zE J6 (some 5) 86 (.agg #[wZ,.string em,.slice none 0 0]) kr kr kr ?_;intro b8 w11 J7;refine rp [.s 0] J7 kr fun gs7 w12 J8=>wX []<|zb<|yo [0,1,2,3,4,5,6,7] kr<|rp [.v,.l 1,.v,.l 0] J8 kr fun gs8 w13 J9=>wX [4,5,6,7] ?_;have J10:St w6.heap.size w6 w13 ((b8,.cells #[wZ,.string x,.slice px nx cx] 86 (0,0))::(b6,Obj.cells (hdC (hdX pa hn ro tx pr va vo a rd L M) q1 i cb1 none 0 0) 26 (0,0))::Tb):=J9.as kr;refine vn J10 (some 61) (fun b=>.slice (some ⟨b,0,none⟩) 1 1) (sS.cs x).toArray 9 kr kr ?_;intro bn w14 J11;refine vp (S:=sS) (some 62) 23 9 16 (.tmp 58) (.tmp 61) (J11.perm (List.Perm.cons _ (List.perm_append_comm (l₁:=Tb) (l₂:=[(b8,.cells #[wZ,.string x,.slice px nx cx] 86 (0,0)),(b6,Obj.cells (hdC (hdX pa hn ro tx pr va vo a rd L M) q1 i cb1 none 0 0) 26 (0,0))])))) hrow kr kr kr kr kr (by omega) (by unfold maxLen;omega) ?_;intro b' cap' cur' w15 J12 hr';refine rp [.v,.s 2] J12 kr fun gs9 w16 J13=>wX []<|zb ?_;have J14:St w6.heap.size w6 w16 [(b',.cells cur' 9 (0,0)),(b8,.cells #[wZ,.string x,.slice px nx cx] 86 (0,0)),(b6,Obj.cells (hdC (hdX pa hn ro tx pr va vo a rd L M) (some ⟨b',0,none⟩) (i+1) cap' none 0 0) 26 (0,0))]:=J13.as kr;refine ⟨kr,some ⟨b',0,none⟩,cap',[(b',.cells cur' 9 (0,0))],.inr ⟨b',cur',rfl,rfl,?_⟩,(J14.sub (List.Sublist.cons_cons _ (List.sublist_cons_self ..))).perm (List.perm_append_comm (l₁:=[(b6,Obj.cells (hdC (hdX pa hn ro tx pr va vo a rd L M) (some ⟨b',0,none⟩) (i+1) cap' none 0 0) 26 (0,0))]) (l₂:=[(b',Obj.cells cur' 9 (0,0))])),isK⟩;rw [qp hx];exact hr'
 ·rintro _ w9 ⟨q1,cb1,Tb,hrow,J4,_,rfl⟩;clear J2 J3;rw [List.take_of_length_le (by omega)] at hrow;refine wW<|zc kr<|rS [.v,.o (ins:=[((.tmp 65),.slice p4 11 c4)]) (v:=.pointer (some ⟨b,off+10*3,none⟩)) (fun ρ o w ho hi2=>zL (kd:=.i64) (t:=82) (e:=86) (K:=3) (bytes:=48) kr (x:=(.tmp 65)) (y:=.const (.int .i64 10)) b off 11 c4 10 hp ho hi2.1 rfl (by decide) w),.v,.fs (off:=off+10*3+2) (v:=.slice p10 n10 c10) hh (zv hh) f10,.v,.v] J4 kr fun gs6 w10 J5=>qw 70 69 71 86 2 3 n10 (by omega) (fun i ρ ww=> ∃q2 cb2 T2,yP sgF 57 q2 i cb2 T2 ((M.take i).map qI)∧St w6.heap.size w6 ww ((b6,Obj.cells (hdC (hdX pa hn ro tx pr va vo a rd L M) q1 n6 cb1 q2 i cb2) 26 (0,0))::(Tb++T2))∧Is [(0,.slice p4 11 c4),(2,.pointer (some ⟨(gs1 0).b,0,none⟩)),(3,.pointer (some ⟨b6,0,none⟩)),(68,.slice p10 n10 c10),(69,iN n10),(70,iN i)] ρ) (by rintro i _ ww ⟨_,_,_,_,_,_,rfl⟩;exact ⟨kr,kr⟩) ⟨none,0,[],.inl ⟨rfl,rfl,rfl,rfl,rfl⟩,by rw [List.append_nil];exact J5.as kr,isK⟩ ?_ ?_
  ·clear J4 J5;rintro i _ w11 hi ⟨q2,cb2,T2,hrow2,J6,_,rfl⟩;obtain ⟨x,hx⟩:∃x,M[i]? =some x:=⟨_,List.getElem?_eq_getElem (by omega)⟩
   have hx65:=z9 x (List.mem_of_getElem? hx);obtain ⟨bx,ox,CX,TX,fx,hpx,hhx,hcx⟩:=zcc s10 (zfu (by omega));obtain ⟨_,_,px,nx,cx,_,_,e1,e2⟩:=hcx i _ _ (zcd hx);obtain ⟨ee,hfr9⟩:=zkN hx65;have hfr:=zeT x (by omega);rw [hfr9] at hfr;refine zg [0,1,2,3] kr kr<|rp [.o (ins:=[((.tmp 68),.slice p10 n10 c10),((.tmp 70),iN i)]) (v:=.pointer (some ⟨bx,ox+i*3,none⟩)) (fun ρ o w ho hi2=>zL (kd:=.i64) (t:=82) (e:=86) (K:=3) (bytes:=48) kr (x:=(.tmp 68)) (y:=(.tmp 70)) bx ox n10 c10 i hpx ho hi2.1 hi2.2.1 (by omega) w),.fp (off:=ox+i*3) (n:=3) (W:=#[wZ,.string x,.slice px nx cx]) hhx (zv hhx) e1 e2] J6 kr fun gs7 w12 J7=>wX [2,3] ?_;have J8:St w6.heap.size w6 w12 ((b6,Obj.cells (hdC (hdX pa hn ro tx pr va vo a rd L M) q1 n6 cb1 q2 i cb2) 26 (0,0))::(Tb++T2)):=J7.as kr;refine zE J8 (some 7) 86 (.agg #[wZ,.string em,.slice none 0 0]) kr kr kr ?_;intro b10 w13 J9;refine rp [.s 0] J9 kr fun gs8 w14 J10=>wX []<|zb<|zg [0,1,2,3,4,5,6,7,8] kr kr<|rp [.v,.l 0,.c hfr,.v,.v,.v] J10 kr fun gs9 w15 J11=>wX [6,7,8] ?_;have J12:St w6.heap.size w6 w15 ((b10,.cells #[wZ,.string x,.slice px nx cx] 86 (0,0))::(b6,Obj.cells (hdC (hdX pa hn ro tx pr va vo a rd L M) q1 n6 cb1 q2 i cb2) 26 (0,0))::(Tb++T2)):=J11.as kr;refine zE J12 (some 8) 57 (.agg (sgC (0,0,0))) kr kr kr ?_;intro b11 w16 J13;refine rp [.s 0,.v] J13 kr fun gs10 w17 J14=>wX []<|zb<|yo [0,1,2,3,4,5,6] kr<|rp [.v,.l 2,.l 0] J14 kr fun gs11 w18 J15=>wX [3,4,5,6] ?_;have J16:St w6.heap.size w6 w18 ((b11,sgO (qI x))::(b10,.cells #[wZ,.string x,.slice px nx cx] 86 (0,0))::(b6,Obj.cells (hdC (hdX pa hn ro tx pr va vo a rd L M) q1 n6 cb1 q2 i cb2) 26 (0,0))::(Tb++T2)):=J15.as kr;refine vn J16 (some 83) (fun b=>.slice (some ⟨b,0,none⟩) 1 1) (sgF.cs (qI x)).toArray 57 kr kr ?_;intro bn w19 J17;refine vp (S:=sgF) (some 84) 24 57 72 (.tmp 81) (.tmp 83) (J17.perm (List.Perm.cons _ (zaA [(b11,sgO (qI x)),(b10,.cells #[wZ,.string x,.slice px nx cx] 86 (0,0)),(b6,Obj.cells (hdC (hdX pa hn ro tx pr va vo a rd L M) q1 n6 cb1 q2 i cb2) 26 (0,0))] Tb T2))) hrow2 kr kr kr kr kr (by omega) (by unfold maxLen;omega) ?_;intro b' cap' cur' w20 J18 hr';refine rp [.v,.s 3] J18 kr fun gs12 w21 J19=>wX []<|zb ?_;have J20:St w6.heap.size w6 w21 ((b',.cells cur' 57 (0,0))::(b11,sgO (qI x))::(b10,.cells #[wZ,.string x,.slice px nx cx] 86 (0,0))::(b6,Obj.cells (hdC (hdX pa hn ro tx pr va vo a rd L M) q1 n6 cb1 (some ⟨b',0,none⟩) (i+1) cap') 26 (0,0))::Tb):=J19.as kr;refine ⟨kr,some ⟨b',0,none⟩,cap',[(b',.cells cur' 57 (0,0))],.inr ⟨b',cur',rfl,rfl,?_⟩,(J20.sub (List.Sublist.cons_cons _ (List.Sublist.cons _ (List.sublist_cons_self ..)))).perm (zaA [(b6,Obj.cells (hdC (hdX pa hn ro tx pr va vo a rd L M) q1 n6 cb1 (some ⟨b',0,none⟩) (i+1) cap') 26 (0,0))] Tb [(b',Obj.cells cur' 57 (0,0))]).symm,isK⟩;rw [qp hx,List.map_append];exact hr'
  ·rintro _ w11 ⟨q2,cb2,T2,hrow2,J6,_,rfl⟩;clear J4 J5;rw [List.take_of_length_le (by omega)] at hrow2;refine wW ?_;have H9:St w.heap.size w w11 ((b6,Obj.cells (hdC (hdX pa hn ro tx pr va vo a rd L M) q1 n6 cb1 q2 n10 cb2) 26 (0,0))::((gs1 0).b,hdO hd0 none 0 0 none 0 0)::(Tb++T2)):=(H6.addAll J6).perm (List.Perm.cons _ (List.perm_append_comm (l₁:=[((gs1 0).b,hdO hd0 none 0 0 none 0 0)]) (l₂:=Tb++T2)));refine rS [.l 0,.s 1] H9 kr fun gs10 w17 H10=>rRr [.cell 2 26] [1] (hdV (hdX pa hn ro tx pr va vo a rd L M) q1 n6 cb1 q2 n10 cb2) (zX w.heap.size w (zfW (hdX pa hn ro tx pr va vo a rd L M))) H10 kr ?_;exact ⟨Tb++T2,⟨q1,n6,cb1,q2,n10,cb2,Tb,T2,rfl,hrow,hrow2,rfl⟩,(H10.as (l:=(b6,Obj.cells (hdC (hdX pa hn ro tx pr va vo a rd L M) q1 n6 cb1 q2 n10 cb2) 26 (0,0))::((gs1 0).b,hdO (hdX pa hn ro tx pr va vo a rd L M) q1 n6 cb1 q2 n10 cb2)::(Tb++T2)) kr).sub (List.Sublist.cons _ (List.sublist_cons_self ..))⟩
theorem zlC (S:ByteArray)(hS:S.size≤4100):FnT Tryz.prog 26 #[.string S] (fun _=>True) (xV S):=by
 refine FnT.intro (c:=zf Tryz.f26) [.cell 2 26,.tmp 3] 29 Tryz.func26 kr kr kr fun w _=>?_;have H0:=St.start w;refine rS [.a,.v] H0 kr fun gs1 w1 H1=>zg [0,1,2,3,4,5,6] kr kr<|rp [.v] H1 kr fun gs2 w2 H2=>wX [1,2,3,4,5,6] ?_;have H3:St w.heap.size w w2 [((gs1 0).b,hdO hd0 none 0 0 none 0 0)]:=H2.as kr;refine qD H3 (some 11) 44 #[.string qa,.string S] (zeG qa S (by omega)) trivial kr kr ?_;intro v T w3 hrd H4;rcases hrd with ⟨p4,n4,c4,l4,k4,hp4,rfl,hR4,hw4⟩ | ⟨e,he,rfl,hbad⟩
 case inr=>
  refine rp [.v,.v,.v,.v,.v] H4 kr fun gs3 w4 H5=>wX []<|zb<|wW<|zc kr<|rS [.v,.E (.bool (e !=0)) (.bool true) (za (bne_iff_ne.2 he))] H5 kr fun gs4 w5 H6=>zU ?_;have H7:St w.heap.size w w5 [((gs1 0).b,hdO hd0 none 0 0 none 0 0)]:=H6.sub (List.sublist_append_right T _);refine rS [.v,.s 0,.v] H7 kr fun gs20 w20 H20=>rRr [.cell 2 26,.tmp 3] [0] (.tuple #[hdV hd0 none 0 0 none 0 0,.int .i64 4]) (zX w.heap.size w (xV S)) H20 kr ?_;exact ⟨[],.inr ⟨rfl,rfl,fun h hr ho e9=>hbad _ _ jZ.parse (zav ho) (by unfold wrV at e9;rw [jZ.parse] at e9;exact e9)⟩,H20.sub (List.nil_sublist _)⟩
 obtain rfl:kfL hK=k4:=Option.some.inj (jZ.parse.symm.trans hp4);have hne:=zch hw4;refine rp [.v,.v,.v,.v,.v] H4 kr fun gs3 w4 H5=>wX []<|zb<|wW<|zc kr<|rS [.v,.v] H5 kr fun gs4 w6 H6=>yk<|wW ?_;have hfit:=(uW jZ.kd l4).1 (xB hw4).1;obtain ⟨pa,hn,ro,tx,pr,va,L,vo,a,rd,M,rfl,z1,z2,z3,z4,z5,z6,z7,z8,z9,z10⟩:=(zfa l4).1 hfit.1;have hsl:=hR4.at H6 fun e he=>List.mem_append_left _ he;have hok4:=hsl.ok;have eqH: ∀h:Hdr,rightH h=true→zZ h→wrV qa (hdF h)=(S,0)→(hdX pa hn ro tx pr va vo a rd L M)=h:=fun h hr ho e=>by
  unfold wrV at e;rw [jZ.parse] at e;have e2:=zag hw4 e hok4 (zav ho);obtain ⟨rfl,rfl,rfl,rfl,rfl,rfl,rfl,rfl,rfl,rfl,rfl⟩:=ze3 e2;exact zkQ ho hr
 have hox:zZ (hdX pa hn ro tx pr va vo a rd L M):=⟨hok4.2.2.1.1,hok4.2.2.2.2.2.2.2.2.2.2.2.2.2.2.2.2.2.2.1.1,by show pa.size≤_;omega,by show ro.size≤_;omega,by show tx.size≤_;omega,by show pr.size≤_;omega,by show va.size≤_;omega,by show vo.size≤_;omega,(fun x hx=>by have:=z6 x hx;omega),by show L.length≤_;omega,(fun x hx=>by obtain ⟨y,hy,rfl⟩:=List.mem_map.1 hx;exact zkO (z9 y hy)),by show (M.map qI).length≤_;rw [List.length_map];omega⟩
 obtain rfl:n4=11:=hsl.1;refine zg [0,1,2,3] kr kr<|rp [.v] H6 kr fun gs5 w7 H7=>wX [1,2,3] ?_;have H8:St w.heap.size w w7 (T++ [((gs1 0).b,hdO hd0 none 0 0 none 0 0)]):=H7.as kr;refine qD H8 (some 18) 45 #[.slice p4 11 c4] (zlB pa hn ro tx pr va L vo a rd M (by omega) (by omega) z9 p4 c4) (hR4.at H8 fun e he=>List.mem_append_left _ he) kr kr ?_;rintro _ _ w8 ⟨q1,n6,cb1,q2,n10,cb2,Tb,T2,rfl,hrow,hrow2,rfl⟩ H9;refine zE H9 (some 6) 26 (hdV hd0 none 0 0 none 0 0) kr kr kr ?_;intro b6 w9 H10;refine rp [.s 0] H10 kr fun gs6 w10 H11=>wX []<|zb<|wW ?_;have H12:St w.heap.size w w10 ((b6,Obj.cells (hdC (hdX pa hn ro tx pr va vo a rd L M) q1 n6 cb1 q2 n10 cb2) 26 (0,0))::((Tb++T2)++(T++ [((gs1 0).b,hdO hd0 none 0 0 none 0 0)]))):=H11.as kr;have H13:St w.heap.size w w10 ((b6,Obj.cells (hdC (hdX pa hn ro tx pr va vo a rd L M) q1 n6 cb1 q2 n10 cb2) 26 (0,0))::((gs1 0).b,hdO hd0 none 0 0 none 0 0)::(Tb++T2)):=(H12.sub (List.Sublist.cons_cons _ (List.Sublist.append (List.Sublist.refl (Tb++T2)) (List.sublist_append_right T [((gs1 0).b,hdO hd0 none 0 0 none 0 0)])))).perm (List.Perm.cons _ (List.perm_append_comm (l₁:=[((gs1 0).b,hdO hd0 none 0 0 none 0 0)]) (l₂:=Tb++T2)));clear H0 H1 H2 H3 H4 H5 H6 H7 H8 H9 H10 H11 H12 hsl;have hat: ∀ {ww:World},St w.heap.size w ww ((b6,Obj.cells (hdC (hdX pa hn ro tx pr va vo a rd L M) q1 n6 cb1 q2 n10 cb2) 26 (0,0))::((gs1 0).b,hdO hd0 none 0 0 none 0 0)::(Tb++T2))→qq ww (hdX pa hn ro tx pr va vo a rd L M) q1 n6 q2 n10:=fun H=>⟨hrow.atF H fun e he=>by simp [he],hrow2.atF H fun e he=>by simp [he]⟩
 refine zc kr<|zg [0,1,2,3,4,5,6] kr kr<|rp [.l 0] H13 kr fun gs7 w12 J7=>wX [1,2,3,4,5,6] ?_;have J8:St w.heap.size w w12 ((b6,Obj.cells (hdC (hdX pa hn ro tx pr va vo a rd L M) q1 n6 cb1 q2 n10 cb2) 26 (0,0))::((gs1 0).b,hdO hd0 none 0 0 none 0 0)::(Tb++T2)):=J7.as kr;cases hr:rightH (hdX pa hn ro tx pr va vo a rd L M) with
 | false=>
  refine yC J8 (some 21) 22 #[hdV (hdX pa hn ro tx pr va vo a rd L M) q1 n6 cb1 q2 n10 cb2] _ _ (zln (hdX pa hn ro tx pr va vo a rd L M) hox.sm hr q1 n6 cb1 q2 n10 cb2) (hat J8) (fun w=>by kernel_rfl) kr ?_;intro w13 J9;refine rp [.v,.v,.v,.v,.v] J9 kr fun gs8 w14 J10=>wX []<|zb<|wW<|rS [.v,.v,.E (.bool (!(em.toList==S.toList))) (.bool true) (za (by rw [yO _ _ (fun e=>hne e.symm)];rfl))] J10 kr fun gs9 w15 J11=>?_;have G:St w.heap.size w w15 ((b6,Obj.cells (hdC (hdX pa hn ro tx pr va vo a rd L M) q1 n6 cb1 q2 n10 cb2) 26 (0,0))::((gs1 0).b,hdO hd0 none 0 0 none 0 0)::(Tb++T2)):=J11.as kr;refine zU<|rS [.v,.s 1,.v] G kr fun gs20 w20 H20=>rRr [.cell 2 26,.tmp 3] [1] (.tuple #[hdV hd0 none 0 0 none 0 0,.int .i64 4]) (zX w.heap.size w (xV S)) H20 kr ?_;exact ⟨[],.inr ⟨rfl,rfl,fun h hr2 ho e9=>by rw [eqH h hr2 ho e9,hr2] at hr;cases hr⟩,H20.sub (List.nil_sublist _)⟩
 | true=>
  refine yC J8 (some 21) 22 #[hdV (hdX pa hn ro tx pr va vo a rd L M) q1 n6 cb1 q2 n10 cb2] _ _ (zfF (hdX pa hn ro tx pr va vo a rd L M) hox hr q1 n6 cb1 q2 n10 cb2) (hat J8) (fun w=>by kernel_rfl) kr ?_;intro w13 J9;refine rp [.v,.v,.v,.v,.v] J9 kr fun gs8 w14 J10=>wX []<|zb<|wW ?_;by_cases hrec:yg (hdX pa hn ro tx pr va vo a rd L M)=S
  case neg=>
   refine rS [.v,.v,.E (.bool (!((yg (hdX pa hn ro tx pr va vo a rd L M)).toList==S.toList))) (.bool true) (za (by rw [yO _ _ hrec];rfl))] J10 kr fun gs9 w15 J11=>?_;have G:St w.heap.size w w15 ((b6,Obj.cells (hdC (hdX pa hn ro tx pr va vo a rd L M) q1 n6 cb1 q2 n10 cb2) 26 (0,0))::((gs1 0).b,hdO hd0 none 0 0 none 0 0)::(Tb++T2)):=J11.as kr;refine zU<|rS [.v,.s 1,.v] G kr fun gs20 w20 H20=>rRr [.cell 2 26,.tmp 3] [1] (.tuple #[hdV hd0 none 0 0 none 0 0,.int .i64 4]) (zX w.heap.size w (xV S)) H20 kr ?_;exact ⟨[],.inr ⟨rfl,rfl,fun h hr2 ho e9=>hrec (by rw [eqH h hr2 ho e9];exact congrArg Prod.fst e9)⟩,H20.sub (List.nil_sublist _)⟩
  refine rS [.v,.v,.E (.bool (!((yg (hdX pa hn ro tx pr va vo a rd L M)).toList==S.toList))) (.bool false) (za (by rw [zI _ _ hrec];rfl))] J10 kr fun gs9 w15 J11=>?_;have G:St w.heap.size w w15 ((b6,Obj.cells (hdC (hdX pa hn ro tx pr va vo a rd L M) q1 n6 cb1 q2 n10 cb2) 26 (0,0))::((gs1 0).b,hdO hd0 none 0 0 none 0 0)::(Tb++T2)):=J11.as kr;refine yk<|wW<|rS [.l 0,.s 1,.v] G kr fun gs10 w17 H10=>rRr [.cell 2 26,.tmp 3] [1] (.tuple #[hdV (hdX pa hn ro tx pr va vo a rd L M) q1 n6 cb1 q2 n10 cb2,.int .i64 0]) (zX w.heap.size w (xV S)) H10 kr ?_;exact ⟨Tb++T2,.inl ⟨(hdX pa hn ro tx pr va vo a rd L M),q1,n6,cb1,q2,n10,cb2,Tb,T2,rfl,hr,hox,hrow,hrow2,rfl,Prod.ext hrec (xF hr)⟩,(H10.as (l:=(b6,Obj.cells (hdC (hdX pa hn ro tx pr va vo a rd L M) q1 n6 cb1 q2 n10 cb2) 26 (0,0))::((gs1 0).b,hdO (hdX pa hn ro tx pr va vo a rd L M) q1 n6 cb1 q2 n10 cb2)::(Tb++T2)) kr).sub (List.Sublist.cons _ (List.sublist_cons_self ..))⟩
end Go.Proofs.YthonokeibcodpaaGreatDoor
