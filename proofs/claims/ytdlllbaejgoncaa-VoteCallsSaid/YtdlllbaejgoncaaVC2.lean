/-
  Texts of the proof,part 2.
-/
import Derived.Deep.Upon
import Derived.Test.YtdlllbaejgoncaaRows
import Derived.ChangeArms
import Derived.ChangeSlices
import Derived.OpenShut
import Derived.Deep.Strs
import Derived.DataReads
import Derived.ProofKit
import Derived.WalkKit
import Derived.Below
import Derived.KernelRfl
import Derived.Test.YtdlllbaejgoncaaProg
import Derived.Handy
import Derived.WalkLawsBesides
import Derived.Shelf.Spec.BitsCarry
import Derived.Shelf.Bits.Mul64
import Derived.Laws.Bits64b
import Derived.Lib.BitFns
import Derived.Shelf.Strconv.Itoa0
import Derived.Lib.Hide
import Derived.Laws.StructEq
import Derived.ChangeKeysEq
import Derived.Test.YtdlllbaejgoncaaChecked
import Derived.Laws.IdiomArrays
import Derived.Lib.AppendStr
import Derived.Lib.Builder
import Derived.Recover
import Derived.Laws.BitsLemmas
import Derived.Laws.BitsAllLaws
import Derived.Laws.BytesArg
import Derived.Laws.Externs
import Derived.Test.YtdlllbaejgoncaaVC1
set_option maxRecDepth 100000
set_option maxHeartbeats 4000000
set_option linter.unusedVariables false
open Go Go.RowKit
open Bool renaming and_eq_true->Ql,false_ne_true->QF,true_and->QT,eq_false_iff->QX,false_or->R5,eq_iff_iff->R9,and_false->UD
open DataW renaming trod->RA
open Instr renaming sliceBounds->Uc,sliceBound->Ug,sliceAt->Uo,slice->UA
open IntKind renaming i64->Qm
open List renaming getElem?_eq_getElem->Qj,take_of_length_le->Qn,length_take->Qq,getElem?_eq_some_iff->Qs,sublist_cons_self->Qu,length_append->Qx,drop_of_length_le->QA,range->QB,sublist_append_left->QD,map_cons->QJ,mem_cons_self->QM,perm_append_comm->QU,mem_cons->QZ,filter_append->Q6,mem_cons_of_mem->Q7,filter_cons_of_neg->Ra,filter_eq_self->Rd,append_nil->Rg,foldl_cons->Rm,pairwise_cons->Rp,length_filter_le->Rq,not_mem_nil->Rv,filter_cons_of_pos->RC,nil_sublist->RD,length_cons->RK,mem_singleton->RO,mem_append->R8,filter_cons->Ue,nil_append->Ui,mem_filter->Uz
open List.Sublist renaming cons_cons->QP,append->Rt,refl->Rx
open Nat renaming eq_of_beq_eq_true->Qk,beq->Qo,le_refl->Qr,zero_le->QS,beq_refl->Q1,min_eq_left->Rk,le_trans->Rs,lt_irrefl->RZ,add_zero->R0,min->Uh,lt_or_ge->UC
open Op renaming bytesLess->Rb,equalIn->UF
open Option renaming some->Q5
open Prod renaming ext->Ut
open Result renaming andThen_ok->QC
open Sem renaming run_bind->QO,run_pure->RY
open UInt8 renaming ofNat->Uw
open Value renaming okWide->Uq
open _root_.ByteArray renaming size->Qt
namespace Go.Proofs.Ytdlllbaejgoncaa
def sS:Fl Qa where
 K:=1
 cs x:=[.string x]
 pos:=by decide
 len _:=rfl
 one _:=fun u hu=>by obtain rfl:=RO.1 hu;rfl
theorem zs {P:Program}{ρ:Env}{t e:TypeId}{K bytes:Nat}(ht:yc P t=some (e,K,bytes)){x y:Operand}{o:Oper}{kd:IntKind}{p:Qc}(b q n c k:Nat)(hp:p=some ⟨b,q,none⟩)(ho:o.op=.indexAddr t x y)(hx:ev ρ x=.slice p n c)(hy:ev ρ y=.int kd (k:Int))(hk:k<n):
 ∀w,(execOp (ev ρ) o).run P w=.ok (.value (.pointer (some ⟨b,q+k*K,none⟩))) w:=by
 subst hp;exact kC ht b q n c k ho hx hy hk
section
variable {α:Type}{S:Fl α}
def AtF (S:Fl α)(w:World)(p:Qc)(n:Nat)(L:List α):Prop:=n=L.length/\(L=[]\/∃b off C T fz,p=some ⟨b,off,none⟩/\w.heap[b]? =some (.cells C T fz)/\ql S C off L)
theorem AtF.call {w w':World}{p:Qc}{n:Nat}{L:List α}(h:AtF S w p n L)(hb:Below w.heap.size w w'):AtF S w' p n L:=by
 obtain⟨h1,h2⟩:=h;refine⟨h1,h2.imp id ?_⟩;rintro⟨b,off,C,T,fz,e,hh,hr⟩;exact⟨b,off,C,T,fz,e,by rw[hb.block b (zj hh)];exact hh,hr⟩
theorem AtF.take {w:World}{p:Qc}{n:Nat}{L:List α}(h:AtF S w p n L)(k:Nat)(hk:k<=n):AtF S w p k (L.take k):=by
 obtain⟨h1,h2⟩:=h;refine⟨by rw[Qq];omega,?_⟩;rcases h2 with rfl|⟨b,off,C,T,fz,e,hh,hr⟩
 ·exact .inl (by simp)
 ·exact .inr ⟨b,off,C,T,fz,e,hh,hr.take k⟩
theorem zw.atF {ty:TypeId}{p:Qc}{n c:Nat}{row:Qb}{L:List α}(h:zw S ty p n c row L){B:Nat}{w0 w:World}{l:Qb}(hS:St B w0 w l)(hl: ∀e∈row,e∈l):AtF S w p n L:=by
 rcases h with⟨rfl,rfl,rfl,rfl,rfl⟩|⟨b,cur,rfl,rfl,hr⟩
 ·exact⟨rfl,.inl rfl⟩
 ·exact⟨hr.lenF.symm,.inr ⟨b,0,cur,ty,(0,0),rfl,(hS.own _ (hl _ (RO.2 rfl))).2,hr.rowAt⟩⟩
def qn (p:Qc)(n c:Nat):Prop:=(p=none/\n=0/\c=0)\/((∃a,p=some a)/\n<=c)
theorem vp {P:Program}{ρ:Env}{t e:TypeId}{size bytes:Nat}(ht:yc P t=some (e,size,bytes)){x y:Operand}{o:Oper}{kd:IntKind}{p:Qc}{n c k:Nat}(h:qn p n c)(hk:k<=n)(ho:o.op=.slice t x none (some y) none)(hx:ev ρ x=.slice p n c)(hy:ev ρ y=.int kd (k:Int)):
 ∀w,(execOp (ev ρ) o).run P w=.ok (.value (.slice p k c)) w:=fun w=>by
 rcases h with⟨rfl,rfl,rfl⟩|⟨⟨a,rfl⟩,h2⟩
 ·obtain rfl:k=0:=by omega
  obtain⟨it,z,hu,hi,hz,hsz,hby,hzs,h0⟩:=yP ht;have hS:(sizeOf e).run P w=.ok size w:=by simp[sizeOf,typeInfo,hi,hsz]
  unfold execOp;simp[ho,hx,hy,Uo,UA,Uc,Ug,asIntOf,run_underlying hu,hS]
 ·exact zat ht a n c k ho hx hy (by omega) w
theorem xJ {P:Program}{ρ:Env}{w w0:World}{B:Nat}{bx n c mc e:Nat}{p:Qc}{row Z:Qb}{M0:List α}{y:α}(HS:St B w0 w ((bx,.cells (S.cs y).toArray e)::(row++Z)))(hrow:zw S e p n c row M0)
 {t bytes:Nat} {s x:Operand} {o:Oper} (ht:yc P t=some (e,S.K,bytes)) (ho:o.op=yT t s x) (hs:ev ρ s=.slice p n c) (hx:ev ρ x=Qf bx 1 mc) (hb:(n+1)*bytes<=0x800000000000) (hm:n+1<=maxLen):
 ∃b' cap' cur' w',(execOp (ev ρ) o).run P w=.ok (.value (Qf b' (n+1) cap')) w'/\St B w0 w' ((b',.cells cur' e)::Z)/\Rw S.K cur' cap' (n+1) (zb S (M0++ [y])):=by
 have hY:(S.cs y).toArray.size=S.K:=by rw[List.size_toArray,S.len]
 have hone: ∀u∈(S.cs y).toArray.toList,u.oneCell'=true:=fun u hu=>S.one y u (by simpa using hu);rcases hrow with⟨rfl,rfl,rfl,rfl,rfl⟩ | ⟨b,cur,rfl,rfl,hrw⟩
 ·obtain⟨b',cap',cur',w',hrun,HS',hr'⟩:=vg (k:=0) HS ht ho hs hx rfl hY hone hb;refine⟨b',cap',cur',w',hrun,HS'.sub (QP _ (Qu ..)),?_⟩;rw[jP];exact hr'
 ·obtain⟨b',cap',cur',w',hrun,HS',hr'⟩:=vf (j:=1) (k:=0) HS ht ho hs rfl hrw hx rfl hY hone hb hm;refine⟨b',cap',cur',w',hrun,HS'.sub (Qu ..),?_⟩;rw[jP];exact hr'
end
section
variable {P:Program}{N:Nat}{ops:Array Oper}{K:Env->World->Prop}{ρ:Env}{w w0:World}{i B:Nat}{r:List Nat}{l:Qb}
theorem yj (HS:St B w0 w l)(d:Option Nat)(V:Nat->Value)(C:Qd)(T:TypeId)(h:opv P ops i ρ w=some (d,true,.ok (.value (V w.heap.size)) (w.alloc (.cells C T))))(hd:dOK d N=true)
 (kk: ∀b w',St B w0 w' ((b,.cells C T)::l)->WPs P N ops K r (zp ρ d (V b)) w'):WPs P N ops K (i::r) ρ w:=by
 obtain⟨o,ho,rfl,hw,hr⟩:=yf h;refine WPo.run ho hw fun a ha=>?_;rw[hr,Oper.upon_value];exact⟨_,ha.put _ (zV hd) _,kk w.heap.size _ (HS.alloc _)⟩
theorem yQ {α:Type}{S:Fl α}{nb n c:Nat}{p:Qc}{row Z:Qb}{M:List α}{y:α}(d:Option Nat)(t e bytes:Nat)(s x:Operand)(HS:St B w0 w ((nb,.cells (S.cs y).toArray e)::(row++Z)))(hrow:zw S e p n c row M)
 (h:opk ops i ρ=some (d,true,yT t s x)) (hd:dOK d N=true) (ht:yc P t=some (e,S.K,bytes)) (hs:ev ρ s=.slice p n c) (hx:ev ρ x=Qf nb 1 1) (hb:(n+1)*bytes<=0x800000000000) (hm:n+1<=maxLen)
 (kk: ∀b' cap' cur' w',St B w0 w' ((b',.cells cur' e)::Z)->Rw S.K cur' cap' (n+1) (zb S (M++ [y]))->WPs P N ops K r (zp ρ d (Qf b' (n+1) cap')) w'):WPs P N ops K (i::r) ρ w:=by
 obtain⟨o,ho,rfl,hw,hop⟩:=zN h;obtain⟨b',cap',cur',w',hrun,HS',hr'⟩:=xJ HS hrow ht hop hs hx hb hm;refine WPo.run ho hw fun a ha=>?_;rw[hrun,Oper.upon_value];exact⟨_,ha.put _ (zV hd) _,kk b' cap' cur' w' HS' hr'⟩
end
section
open Go.ChangeShapes Go.WideShapes Go.ChangeAt
theorem zaz {C:Qd}{o m:Nat}{l:List Value}(hl:l.length=m)(hm:0<m)(h: ∀j,j<m->C[o+j]? =l[j]?):o+m<=C.size/\C.extract o (o+m)=l.toArray:=by
 have hs:o+m<=C.size:=by
  have h1:=h (m-1) (by omega);rw[Qj (by omega)]at h1;have:=(Array.getElem?_eq_some_iff.1 h1).1;omega
 refine⟨hs,?_⟩;apply Array.toList_inj.1;apply List.ext_getElem?;intro i;rw[Array.getElem?_toList,Array.getElem?_extract,List.toList_toArray];by_cases hi:i<m
 ·rw[if_pos (by omega),h i hi]
 ·rw[if_neg (by omega),List.getElem?_eq_none (by omega)]
section
variable {H:Type}{enc:TypeId×Value->H}{W:World}{sp:Nat->Bool}{held:Bool}
theorem zaA {a:Addr}{v:Value}(h:W.cell? a=some v):a=⟨a.block,a.off,none⟩/\∃C T fz,W.heap[a.block]? =some (.cells C T fz)/\C[a.off]? =some v:=by
 obtain⟨b,o,sp⟩:=a;unfold World.cell? at h;split at h
 ·rename_i C T fz hh
  cases sp with
  | none=>simp at h;exact⟨rfl,C,T,fz,hh,h⟩
  | some x=>simp at h
 ·cases h
theorem zaB {b o:Nat}{C:Qd}{T:TypeId}{fz:Nat×Nat}{v:Option Value}(hh:W.heap[b]? =some (.cells C T fz))(h:W.cell? ⟨b,o,none⟩=v):C[o]? =v:=by
 unfold World.cell? at h;simp only[hh]at h;simpa using h
theorem vq {α:Type}{S:Fl α}{ok:α->Prop}{st et:TypeId}(hst:Try.prog.underlying st=some (.slice et))(hc:Try.prog.cellsOf et=S.K)(hone: ∀(fuel:Nat) (cs:List Value) (x:DataW H×List MemPlace),RA enc Try.prog W 0 sp held fuel et cs=some x->∃a:α,cs=S.cs a/\ok a)
 {fuel:Nat} {c0:Value} {x:DataW H×List MemPlace} (hf:RA enc Try.prog W 0 sp held fuel st [c0]=some x):
 ∃(q:Qc) (n c:Nat) (L:List α),c0=.slice q n c/\qn q n c/\(∀x∈L,ok x)/\AtF S W q n L:=by
 rcases DataW.trod_slice hst hf with⟨hc,hx⟩|⟨a,len0,cap0,elems,rest,n',rfl,hc',hx,_,hlc,hcm,hel,hels,_,_⟩
 ·obtain rfl:c0=.slice none 0 0:=by simpa using hc
  exact⟨none,0,0,[],rfl,.inl ⟨rfl,rfl,rfl⟩,(fun _ h=>nomatch h),rfl,.inl rfl⟩
 ·obtain rfl:c0=.slice (some a) len0 cap0:=by simpa using hc'
  have rows: ∀q,q<=len0->∃L:List α,L.length=q/\(∀x∈L,ok x)/\ ∀(i:Nat) (z:α),L[i]? =some z->W.cells? 0 (a.add (i*S.K)) S.K=some (S.cs z):=by
   intro q
   induction q with
   | zero=>exact fun _=>⟨[],rfl,(fun _ h=>nomatch h),fun i z h=>by simp at h⟩
   | succ q ihq=>
    intro hq;obtain⟨L,hL,hk,hcc⟩:=ihq (by omega);have hi:=hels q (by omega);rw[hc]at hi;have hlt:q<elems.length:=by omega
    rw[Qj hlt]at hi;obtain⟨cs',hcs,ht⟩:=Option.bind_eq_some_iff.1 hi;obtain⟨nd,rfl,hnd⟩:=hone n' cs' _ ht;refine⟨L++ [nd],by simp[hL],fun x hx=>?_,fun i z hz=>?_⟩
    ·rcases R8.1 hx with hx|hx
     ·exact hk x hx
     ·rw[RO.1 hx];exact hnd
    by_cases hiq:i<L.length
    ·rw[List.getElem?_append_left hiq]at hz;exact hcc i z hz
    ·rw[List.getElem?_append_right (by omega)]at hz;have:i-L.length=0:=by
      have:=(Qs.1 hz).1;simp at this;omega
     rw[this]at hz;simp at hz;subst hz;obtain rfl:i=q:=by omega
     exact hcs
  obtain⟨L,hL,hk,hcl⟩:=rows len0 (Qr _);refine⟨some a,len0,cap0,L,rfl,.inr ⟨⟨a,rfl⟩,hlc⟩,hk,hL.symm,?_⟩;cases L with
  | nil=>exact .inl rfl
  | cons z0 L0=>
   have f0:=(World.cells?_some (hcl 0 z0 rfl)).2.2 0 S.pos;rw[Nat.zero_mul]at f0;have e0:(a.add 0).add 0=a:=rfl;rw[e0,Qj (by rw[S.len];exact S.pos)]at f0;obtain⟨ea,C,T,fz,hh,hC0⟩:=zaA f0;refine .inr ⟨a.block,a.off,C,T,fz,congrArg some ea,hh,fun i z hz=>?_⟩;refine zaz (S.len z) S.pos fun j hj=>?_;have h9:=(World.cells?_some (hcl i z hz)).2.2 j hj;rw[ea,yS,yS]at h9;exact zaB hh h9
end
end
def big:Nat:=0x10000000000000000000000000000000000000000000000000000000000000000
end Go.Proofs.Ytdlllbaejgoncaa
namespace Go.Proofs.Ec
section
variable {F:Type}[Lean.Grind.Field F]
variable [DecidableEq F]
end
end Go.Proofs.Ec
namespace Go.Proofs.Ytdlllbaejgoncaa
def PrP (p:Nat):Prop:=1<p/\ ∀d,d∣p->d=1\/d=p
theorem zaC {n:Nat} : ∀k,(∃d,1<d/\d<=k/\d∣n)->∃r,1<r/\r∣n/\ ∀d,1<d->d∣n->r<=d
 | 0,⟨d,h1,h2,_⟩=>by omega
 | k+1,⟨d,h1,h2,h3⟩=>by
  by_cases h:∃d,1<d/\d<=k/\d∣n
  ·exact zaC k h
  ·have hd:d=k+1:=by
    rcases UC k d with h' | h'
    ·omega
    ·exact absurd ⟨d,h1,h',h3⟩ h
   refine⟨d,h1,h3,fun e he hen=>?_⟩;rcases UC e d with h' | h'
   ·exact absurd ⟨e,he,by omega,hen⟩ h
   ·exact h'
def row (a r:Nat):Nat->List Nat
 | 0=>[]
 | n+1=>a*(n+1)%r::row a r n
end Go.Proofs.Ytdlllbaejgoncaa
namespace Go.Proofs.Zm
open Go.Proofs.Ytdlllbaejgoncaa
class PrM (M:Nat):Prop where
 pr:PrP M
 two:2<M
section
variable {M:Nat}[hM:PrM M]
end
end Go.Proofs.Zm
namespace Go.Proofs.Ytdlllbaejgoncaa
section
open Go.ChangeShapes Go.WideShapes Go.ChangeAt
end
def rs (L H M:Nat):Nat:=(L+big*H)%M
end Go.Proofs.Ytdlllbaejgoncaa
namespace Go.Proofs.Ec
open Go.Proofs.Ytdlllbaejgoncaa Go.Proofs.Zm
section
variable {F:Type}[Lean.Grind.Field F][DecidableEq F]
structure zaD (b:F):Prop where
 two:(2:F)≠0
 three:(3:F)≠0
 b:b≠0
variable {b:F}(g:zaD b)
include g
end
end Go.Proofs.Ec
namespace Go.Proofs.Ytdlllbaejgoncaa
section
open Go.ChangeShapes Go.WideShapes Go.ChangeAt
end
section
open Go.ChangeShapes Go.WideShapes Go.ChangeAt Go.Shelf
end
def len (A:Nat):Nat:=if A=0 then 0 else Nat.log2 A+1
section
open Go.ChangeShapes Go.WideShapes Go.ChangeAt
end
section
def vl:List Nat->Nat
 | []=>0
 | d::r=>d+65536*vl r
open Go
def ls (x y:List Nat):Bool:=decide (vl x<vl y)
end
section
variable {P:Program}{N:Nat}{ops:Array Oper}{i:Nat}{r:List Nat}{K:Env->World->Prop}{ρ:Env}{w:World}{B:Nat}{w0:World}{l:Qb}
end
namespace D2
section
variable {P:Program}{ops:Array Oper}{R:(Nat->Gh)->Env}{i:Nat}{d:Option Nat}
variable {E:(Nat->Bool)->(Nat->Gh)->List Ent}{F:(Nat->Bool)->(Nat->Gh)->Prop}{B:Nat}{w0:World}
end
end D2
section
open Go.ChangeShapes Go.WideShapes Go.ChangeAt
end
inductive Fo
 | nil
 | cons (l:Bool) (s:Qa) (k r:Fo)
def dgI:Nat->Nat->List UInt8
 | 0,_=>[]
 | m+1,n=>if n=0 then [] else dgI m (n / 256)++ [Uw n]
def dg (n:Nat):List UInt8:=dgI 8 n
def hd (f n:Nat):List UInt8:=if n<=55 then [Uw (f+n)] else Uw (f+55+(dg n).length)::dg n
section
variable {l:Bool}{s:Qa}{n y:Nat}{k:Fo}
end
section
variable {P:Program}{N:Nat}{ops:Array Oper}{i:Nat}{r:List Nat}{K:Env->World->Prop}{ρ:Env}{w:World}{w0:World}{l E:Qb}
end
section
variable {P:Program}{ops:Array Oper}{R:(Nat->D2.Gh)->Env}{i:Nat}{d:Option Nat}{w0:World}{p:Nat}{T e:TypeId}{out':List UInt8}{bx:Nat×Obj}{E:Qb}{q:Nat}
end
section
variable {P:Program}{ops:Array Oper}{R:(Nat->D2.Gh)->Env}{i:Nat}{d:Option Nat}{w0:World}{l:Qb}{q:Nat}
end
structure X3 where
 l:Bool
 s:Qa
 p:Qc
 n:Nat
 c:Nat
 k:Fo
def val (l:List UInt8):Nat:=l.foldl (fun n b=>n*256+b.toNat) 0
theorem rwB (s:Qa)(h:Qt s<=maxLen):Rw 1 (yq (tl s)).toArray (Qt s) (Qt s) (yq (tl s)):=
 ⟨by rw[jN,jM];omega,Qr _,h,by rw[Qn (by simp[jN,jM])],by simp[jN,jM]⟩
theorem zaE {P:Program}{ρ:Env}{t e:TypeId}{bytes:Nat}(ht:yc P t=some (e,1,bytes)){x y:Operand}{o:Oper}{kd:IntKind}(b n c:Nat)(ho:o.op=.indexAddr t x y)(hx:ev ρ x=Qf b n c)(hy:ev ρ y=.int kd 0)(hk:0<n):
 ∀w,(execOp (ev ρ) o).run P w=.ok (.value (Qe b)) w:=fun w=>
 kC (P:=P) (kd:=kd) ht b 0 n c 0 ho hx hy hk w
theorem zaF (s:Qa)(hs:Qt s<=1000000):Fn Try.prog 47 #[.string s] (.string s):=by
 refine Fn.intro (c:=zr Try.f47) [.tmp 2] 18 Try.func47 kr kr kr fun w=>?_;have H0:=St.start w;refine zn [0] kr kr<|yh (some 2) (.string (⟨#[]⟩)) (fun w=>by kernel_rfl) kr<|zk<|zc kr<|zn [0,1,2] kr kr<|yh (some 4) (.string s) (fun w=>by kernel_rfl) kr<|yh (some 5) (.int .i64 (Qt s:Int)) (fun w=>by kernel_rfl) kr ?_;by_cases hc1:(Qt s:Nat)=0
 ·refine xm (some 6) (.bool ((Qt s:Int)==0)) (.bool true) (fun w=>by kernel_rfl) (za (beq_iff_eq.2 (by omega))) kr<|zk<|yg kr kr<|zn [0] kr kr<|yh (some 2) (.string (⟨#[]⟩)) (fun w=>by kernel_rfl) kr<|zk<|qY kr<|wV ?_;refine⟨[.string (⟨#[]⟩)],(.tmp (.string (⟨#[]⟩)) kr .nil),?_,H0.below⟩;exact congrArg Value.string (xF (List.eq_nil_of_length_eq_zero (by rw[jM];omega):tl s=[]).symm)
 ·refine xm (some 6) (.bool ((Qt s:Int)==0)) (.bool false) (fun w=>by kernel_rfl) (za (beq_eq_false_iff_ne.2 (by omega))) kr<|zk<|zW kr kr<|yb kr<|wW<|zn [0,1,2,3] kr kr<|yh (some 7) (.string s) (fun w=>by kernel_rfl) kr<|yh (some 8) (.int .i64 (Qt s:Int)) (fun w=>by kernel_rfl) kr<|zao H0 (some 9) 69 5 1 (.int .u8 0) (.tmp 8) (.tmp 8) .i64 .i64 (Qt s) kr kr kr kr rfl kr kr (by omega) (by unfold maxLen;omega) ?_;intro b_1 cur_2 w1 H1 hr_3;clear H0;have hr_3z:Rw 1 cur_2 (Qt s) (Qt s) (yq (List.replicate (Qt s) 0)):=by rw[zaq];exact hr_3
  refine yh (some 3) (Qf b_1 (Qt s) (Qt s)) (fun w=>by kernel_rfl) kr<|zk<|zn [0,1,2] kr kr<|yh (some 10) (Qf b_1 (Qt s) (Qt s)) (fun w=>by kernel_rfl) kr<|yh (some 11) (.string s) (fun w=>by kernel_rfl) kr<|zar H1 (some 12) 69 9 5 1 (.tmp 10) (.tmp 11) 0 b_1 (Qt s) (Qt s) s cur_2 ((yq (tl s)).toArray) 5 [(b_1,Obj.cells ((yq (tl s)).toArray) 5)] kr kr kr kr kr kr (by omega) (Nat.le_of_eq (by have h:=hr_3z.sz;rw[h];omega)) (by rw[QA (by have h:=hr_3z.sz;rw[Array.length_toList,h];omega),Rg]) kr ?_;intro w2 H2;clear H1;refine zk<|zn [0,1,2,3,4,5] kr kr<|yh (some 13) (Qf b_1 (Qt s) (Qt s)) (fun w=>by kernel_rfl) kr<|zac (some 14) _ (Qe b_1) kr kr (fun o w ho=>zaE (kd:=.i64) (t:=69) (e:=5) (bytes:=1) kr (x:=(.tmp 13)) (y:=(.const (.int .i64 0))) b_1 (Qt s) (Qt s) ho kr kr (by omega) w)<|yh (some 15) (Qf b_1 (Qt s) (Qt s)) (fun w=>by kernel_rfl) kr<|yh (some 16) (.int .i64 (Qt s:Int)) (fun w=>by kernel_rfl) kr<|zas H2 (some 17) 70 3 5 (.tmp 14) (.tmp 16) (Qt s) (Qt s) (tl s) kr kr kr kr rfl kr kr (rwB s (by unfold maxLen;omega)) (by omega) (by omega) ?_;intro w3 H3;clear H2;refine yh (some 2) (.string (qx (tl s))) (fun w=>by kernel_rfl) kr<|zk<|qY kr<|wV ?_;refine⟨[.string (qx (tl s))],(.tmp (.string (qx (tl s))) kr .nil),?_,H3.below⟩;rfl
theorem xK (s:Qa)(hs:Qt s<=1000000):Fn Try.prog 34 #[.string s] (.string s):=by
 refine Fn.intro (c:=zr Try.f34) [.tmp 2] 5 Try.func34 kr kr kr fun w=>?_;have H0:=St.start w;refine zn [0] kr kr<|yh (some 2) (.string (⟨#[]⟩)) (fun w=>by kernel_rfl) kr<|zk<|zn [0,1,2] kr kr<|yh (some 3) (.string s) (fun w=>by kernel_rfl) kr<|zad H0 (some 4) 47 #[.string s] (.string s) (zaF s (by omega)) (fun w=>by kernel_rfl) kr ?_;intro w1 H1;clear H0;refine yh (some 2) (.string s) (fun w=>by kernel_rfl) kr<|zk<|qY kr<|wV ?_;refine⟨[.string s],(.tmp (.string s) kr .nil),?_,H1.below⟩;rfl
section
variable {P:Program}{N:Nat}{ops:Array Oper}{i:Nat}{r:List Nat}{K:Env->World->Prop}{ρ:Env}{w:World}{B:Nat}{w0:World}{l:Qb}
end
section
variable {P:Program}{N:Nat}{ops:Array Oper}{Q:Exit->Env->World->Prop}{K:Env->World->Prop}{ρ:Env}{w:World}{i:Nat}{r:List Nat}{c:Code}
end
section
variable {P:Program}{N:Nat}{ops:Array Oper}{Q:Exit->Env->World->Prop}{K:Env->World->Prop}{ρ:Env}{w w0:World}{i B:Nat}{r:List Nat}{l:Qb}
end
namespace D2
section
variable {P:Program}{N:Nat}{ops:Array Oper}{Q:Exit->Env->World->Prop}{K:Env->World->Prop}{ρ:Env}{w:World}{vs:List (Option Nat×(Gh->Value))}{pre:(Nat->Bool)->(Nat->Gh)->World->Prop}{Bad:List PanicEntry->World->Prop}
end
end D2
section
variable {P:Program}{ρ:Env}{w w0:World}{B:Nat}{l:Qb}
end
section
variable {B:Nat}{w0:World}{t:Qa}{b2 b3 b4:Nat}{p:Qc}{n c:Nat}{row:Qb}{M:List X3}{L0:Qb}{L:Nat->Bool}{g:Nat->D2.Gh}{w:World}
end
section
variable {P:Program}{N:Nat}{ops:Array Oper}{Q:Exit->Env->World->Prop}{K:Env->World->Prop}{ρ:Env}{w:World}{i:Nat}{ds:List Deferred}
variable {c:Code}
end
section
variable {P:Program}{N:Nat}{ops:Array Oper}{ρ:Env}{w w':World}{i:Nat}{ds:List Deferred}{c:Code}{rest:List Nat}{a:Act}{cs:List Frame}
variable {Q:Exit->Act->List Frame->World->Prop}
end
section
variable {P:Program}{N:Nat}{ops:Array Oper}{ρ:Env}{w w':World}{i:Nat}{rest:List Nat}{a:Act}{Q:Exit->Act->World->Prop}
end
section
variable {P:Program}{N:Nat}{ops:Array Oper}{K:Env->World->Prop}{ρ:Env}{w w0:World}{i B:Nat}{r:List Nat}{l:Qb}
end
section
open D2 (Gh)
end
section
variable {B:Nat}{w0:World}{bq bf bk:Nat}{qO kO:Obj}{p:Qc}{i c:Nat}{row:Qb}{M:List (El (Nat×Qa))}{ok:El (Nat×Qa)->Qb->Prop}{T:Qb}{L:Nat->Bool}{g:Nat->D2.Gh}{w w':World}
end
section
variable {B:Nat}{w0:World}{bd b2 bo:Nat}{dO bO:Obj}{kv:Value}{cur:Qd}{N en:Nat}{row:Qb}{xs:List Value}{T:Qb}{L:Nat->Bool}{g:Nat->D2.Gh}{w:World}
end
section
section
variable {p H Q:Nat}
end
open Go Go.RowKit Go.Proofs.Zm
end
section
open Go.ChangeShapes Go.WideShapes Go.ChangeAt
end
end Go.Proofs.Ytdlllbaejgoncaa
namespace Go.Proofs.Kec
end Go.Proofs.Kec
namespace Go.Proofs.Ytdlllbaejgoncaa
namespace Ke
open Go.Proofs.Kec
end Ke
section
open Go.Proofs.Kec
end
section
open Go.Proofs.Kec Ke
end
def wi (n q:Nat):Nat:=n / 0x10000000000000000^q%0x10000000000000000
section
open Go.ChangeShapes Go.WideShapes Go.ChangeAt
end
def hv:List UInt8->List UInt8
 | []=>[]
 | b::t=>(b >>> 4)::(b &&& 15)::hv t
def isP (l:List UInt8):Bool:=l.all fun b=>decide (b.toNat<=15)
def jn:List UInt8->List UInt8
 | a::b::t=>(a <<< 4 ||| b)::jn t
 | _=>[]
theorem qL {l:List Value}(h:l.all (·.oneCell')=true): ∀u∈l,u.oneCell'=true:=fun u hu=>List.all_eq_true.1 h u hu
def ze:List UInt8->List UInt8->Bool
 | [],[]=>false
 | [],_::_=>true
 | _::_,[]=>false
 | a::l,b::m=>if a.toNat<b.toNat then true else if a=b then ze l m else false
theorem zaG (l:List UInt8):ze l []=false:=by cases l<;>rfl
theorem qM: ∀l:List UInt8,ze l l=false
 | []=>rfl
 | a::l=>by simp only[ze,RZ,if_false,if_true];exact qM l
theorem vr {a b:UInt8}{l m:List UInt8}(h:ze (a::l) (b::m)=true):a.toNat<b.toNat\/(a=b/\ze l m=true):=by
 unfold ze at h;split at h
 ·rename_i q;exact .inl q
 ·split at h
  ·rename_i q;exact .inr ⟨q,h⟩
  ·cases h
theorem qy {x y z:List UInt8} :ze x y=true->ze y z=true->ze x z=true:=by
 induction x generalizing y z with
 | nil=>
  intro h1 h2;cases z with
  | nil=>rw[zaG]at h2;cases h2
  | cons c z=>rfl
 | cons a x ih=>
  intro h1 h2;cases y with
  | nil=>cases h1
  | cons b y=>
   cases z with
   | nil=>cases h2
   | cons c z=>
    unfold ze;rcases vr h1 with q1 | ⟨rfl,q1⟩<;>rcases vr h2 with q2 | ⟨rfl,q2⟩
    ·rw[if_pos (by omega)]
    ·rw[if_pos q1]
    ·rw[if_pos q2]
    ·rw[if_neg (RZ _),if_pos rfl];exact ih q1 q2
structure Nd where
 kind:Int
 part:Qa
 value:Qa
 kids:List Int
def kyB (l:List UInt8):Bool:=isP l&& !decide (l.length%2=1)
def kyS (l:List UInt8):Qa:=bif kyB l then qx (jn l) else ⟨#[]⟩
theorem zZ {P:Program}{ρ:Env}{t e:TypeId}{size bytes:Nat}(ht:yc P t=some (e,size,bytes)){x z:Operand}{o:Oper}{kz:IntKind}(b q n c j:Nat)(ho:o.op=.slice t x (some z) none none)(hx:ev ρ x=.slice (some ⟨b,q,none⟩) n c)
 (hz:ev ρ z=.int kz (j:Int)) (hj:j<=n) (hn:n<=c):
 ∀w,(execOp (ev ρ) o).run P w=.ok (.value (.slice (some ⟨b,if c=j then q else q+j*size,none⟩) (n-j) (c-j))) w:=fun w=>by
 obtain⟨it,z',hu,hi,hz',hsz,hby,hzs,h0⟩:=yP ht;have hS:(sizeOf e).run P w=.ok size w:=by simp[sizeOf,typeInfo,hi,hsz]
 unfold execOp;by_cases hc:c=j
 ·have hnj:n=j:=by omega
  subst hc hnj;simp[ho,hx,hz,Uo,UA,Uc,Ug,asIntOf,run_underlying hu,hS]
 ·simp[ho,hx,hz,Uo,UA,Uc,Ug,asIntOf,run_underlying hu,hS,hj,yS,hc]
section
variable {P:Program}{N:Nat}{ops:Array Oper}{i:Nat}{r:List Nat}{K:Env->World->Prop}{ρ:Env}{w:World}
end
abbrev Pr:=Qa×Qa
def zaH (k v:Qa):Bool:=(decide (1<=k.size)&&decide (k.size<=32))&&(decide (1<=v.size)&&decide (v.size<=500))
def zaI (part:List UInt8)(v:Qa)(ps:List Pr):List Pr:=if zaH (kyS part) v=true then ps++ [(kyS part,v)] else ps
def zaJ (kind:Int)(i:Nat):List UInt8:=if kind=3 then [Uw i] else []
def xM (go:Int->List UInt8->Nat×List Pr->Nat×List Pr)(x:Nd)(part:List UInt8):Nat->Nat×List Pr->Nat×List Pr
 | 0,s=>s
 | i+1,s=>if x.kids.getD i (-1)= -1 then xM go x part i s else go (x.kids.getD i (-1)) (part++zaJ x.kind i) (xM go x part i s)
def vt (A:List Nd):Nat->Int->List UInt8->Nat×List Pr->Nat×List Pr
 | 0,_,_,s=>s
 | f+1,at_,ahead,s=>
  if s.1=0\/at_<0\/(A.length:Int)<=at_ then s
  else match A[at_.toNat]? with
   | none=>s
   | some x=>if 64<ahead.length+x.part.size then (s.1-1,s.2)
    else xM (vt A f) x (ahead++tl x.part) 16 (s.1-1,zaI (ahead++tl x.part) x.value s.2)
section
variable {P:Program}{N:Nat}{ops:Array Oper}{i:Nat}{r:List Nat}{K:Env->World->Prop}{ρ:Env}{w:World}
end
theorem vu: ∀x y:List UInt8,Rb x y=ze x y
 | [],[]=>rfl
 | [],_::_=>rfl
 | _::_,[]=>rfl
 | a::x,b::y=>by
  unfold Rb ze;rw[vu x y];by_cases h:a.toNat<b.toNat
  ·rw[if_pos h,decide_eq_true (show a<b from h)];rfl
  ·rw[if_neg h,decide_eq_false (show ¬a<b from h)];by_cases e:a=b
   ·rw[if_pos e,e];simp
   ·rw[if_neg e];simp[e]
theorem qz (a b:Qa):Rb a.toList b.toList=ze (tl a) (tl b):=by
 rw[ByteArray.toList_eq,ByteArray.toList_eq];exact vu _ _
def zbZ (A:List Nd)(root:Int):List Pr:=(vt A 192 root [] (192,[])).2
theorem zY {α:Type}{L:List α}{i:Nat}{a:α}(ha:L[i]? =some a):L.take (i+1)=L.take i++ [a]:=by
 rw[List.take_add_one,ha];rfl
theorem vv: ∀ {x y:List UInt8},ze x y=false->x≠y->ze y x=true
 | [],[],_,h=>absurd rfl h
 | [],_::_,h,_=>by simp[ze]at h
 | _::_,[],_,_=>rfl
 | a::x,b::y,h,hne=>by
  unfold ze at h⊢;by_cases e:a=b
  ·subst e;have hlt: ¬a.toNat<a.toNat:=RZ _;simp only[RZ,if_false,if_true]at h⊢;exact vv h fun e=>hne (by rw[e])
  ·have hn:a.toNat≠b.toNat:=fun q=>e (UInt8.toNat_inj.1 q);by_cases c:b.toNat<a.toNat
   ·rw[if_pos c]
   ·have:a.toNat<b.toNat:=by omega
    rw[if_pos this]at h;cases h
def upB:Option Qa->Qa->Bool
 | none,_=>true
 | some p,a=>ze (tl p) (tl a)
theorem qc {α:Type}{L:List α}{i:Nat}{x:α}(h:L[i]? =some x):L.drop i=x::L.drop (i+1):=by
 obtain⟨hi,rfl⟩:=Qs.1 h;exact(List.getElem_cons_drop (h:=hi)).symm
def yr:Option Qa->Qi->Bool
 | _,[]=>true
 | p,a::r=>decide (a.size=20)&&(upB p a&&yr (some a) r)
def zO (L:Qi):Bool:=yr none L&&(decide (0<L.length)&&decide (L.length<=16))
theorem isK {l:List (Nat×Value)}{ρ:Env}(h:l.map (fun p=>ρ p.1)=l.map (·.2):=by kernel_rfl):Is l ρ:=by
 refine Is.of ?_
 induction l with
 | nil=>trivial
 | cons p r ih=>
  simp only[QJ,List.cons.injEq]at h;exact⟨h.1,ih h.2⟩
section
variable {P:Program}{N:Nat}{c:Code}{Q:Exit->Env->World->Prop}{ρ:Env}{w:World}
theorem zm (k:Q .normal ρ w)(h:(qF c&&jz (jx c))=true:=by kernel_rfl)(hx:ev ρ (qu c)=.bool false:=by kernel_rfl):WP P N c Q ρ w:=by
 rw[Ql]at h;exact zW h.1 hx (yb h.2 k)
theorem zo (k:WP P N (jw c) Q ρ w)(h:qF c=true:=by kernel_rfl)(hx:ev ρ (qu c)=.bool true:=by kernel_rfl):WP P N c Q ρ w:=yg h hx k
def xN (c:Code):Code:=qf (qf c)
def jQ (c:Code):Code:=zJ (xN c)
def yM (c:Code):Code:=yn (xN c)
def xO (c:Code):Code:=qf (zJ (yn (yM c)))
def jl (c:Code):Code:=yn (yn (yM c))
def jm (n:Nat):Code->Bool
 | .region _ ops d=>Qo ops.size n&& !d
 | _=>false
theorem vw {n:Nat}{c:Code}(h:jm n c=true):∃id,c=.region id (zd c) false/\QB (zd c).size=QB n:=by
 cases c with
 | region id ops d=>
  cases d with
  | true=>simp[jm]at h
  | false=>
   simp only[jm,Bool.not_false,Bool.and_true]at h;exact⟨id,rfl,congrArg QB (Qk h)⟩
 | _=>cases h
def jR (a:Option Nat)(b:Nat):Bool:=match a with
 | some x=>Qo x b
 | none=>false
theorem xP {a:Option Nat}{b:Nat}(h:jR a b=true):a=some b:=by
 cases a with
 | none=>cases h
 | some x=>exact congrArg some (Qk h)
def xQ (nt ni b0 b1 tc:Nat)(c:Code):Bool:=
 jR (jy c) b0&&(xk (qf c)&&(yE (xN c)&&(jm nt (jQ c)&&(yE (yM c)&&(qF (zJ (yM c))&&(jz (jw (zJ (yM c)))&&(jR (xl (jx (zJ (yM c)))) b0&&(yE (yn (yM c))&&(jR (jy (zJ (yn (yM c)))) b1&&jm ni (jl c))))))))))
abbrev vx (ti b0 b1:Nat)(inc:Env->Env)(I:Nat->Env->World->Prop)(Q:Exit->Env->World->Prop)(i:Nat):Exit->Env->World->Prop
 | .normal,ρ,w=>ρ ti=iN i/\I (i+1) (inc ρ) w
 | .exit k,ρ,w=>bif Qo k b1 then ρ ti=iN i/\I (i+1) (inc ρ) w else bif Qo k b0 then Q .normal ρ w else Q (.exit k) ρ w
 | e,ρ,w=>Q e ρ w
theorem zaK {ti b0 b1 tc nt ni n:Nat}{tst:Nat->Env->Env}{inc:Nat->Env->Env}(I:Nat->Env->World->Prop)
 (hs:xQ nt ni b0 b1 tc c=true) (hx:qu (zJ (yM c))=.tmp tc)
 (hT: ∀i ρ w K,I i ρ w->K (tst i ρ) w->WPs P N (zd (jQ c)) K (QB nt) ρ w) (hv: ∀i ρ w,I i ρ w->tst i ρ tc=.bool (decide ((i:Int)<(n:Int))))
 (hJ: ∀i ρ w K,i<n->ρ ti=iN i->K (inc i ρ) w->WPs P N (zd (jl c)) K (QB ni) ρ w)
 (h0:I 0 ρ w) (hb: ∀i ρ w,i<n->I i ρ w->WP P N (xO c) (vx ti b0 b1 (inc i) I Q i) (tst i ρ) w) (he: ∀ρ w,I n ρ w->Q .normal (tst n ρ) w):WP P N c Q ρ w:=by
 unfold xQ at hs;simp only[Ql]at hs;obtain⟨s1,s2,s3,s4,s5,s6,s7,s8,s9,s10,s11⟩:=hs;obtain⟨id1,e1,l1⟩:=vw s4;obtain⟨id2,e2,l2⟩:=vw s11;refine yI b0 (xP s1)<|qI s2 (fun m ρ w=> ∃i,n-i=m/\i<=n/\I i ρ w) n ⟨0,rfl,QS _,h0⟩ ?_;rintro m ρ w ⟨i,rfl,hin,hI⟩;refine zc s3 ?_;show WP P N (jQ c) _ ρ w;rw[e1];refine WP.region _ l1<|hT i ρ w _ hI ?_;show WP P N (yM c) _ (tst i ρ) w;refine zc s5 ?_;have hval:=hv i ρ w hI;by_cases hi:i<n
 ·refine yg s6 (by rw[hx];show tst i ρ tc=_;rw[hval,decide_eq_true (by omega)])<|yb s7 ?_;show WP P N (yn (yM c)) _ (tst i ρ) w;refine zc s9<|yI b1 (xP s10) ?_;have hfin: ∀(Q3:Exit->Env->World->Prop) ρ' w',(ρ' ti=iN i/\I (i+1) (inc i ρ') w')->(∀e ρ w,Q3 e ρ w=Q3 e ρ w)->WP P N (jl c) (nx (fun ρ' w'=> ∃m,m<n-i/\∃i,n-i=m/\i<=n/\I i ρ' w') Q3) ρ' w':=fun Q3 ρ' w' h _=>by
   rw[e2];refine WP.region _ l2 ?_;exact hJ i ρ' w' _ hi h.1 ⟨n-(i+1),by omega,i+1,rfl,by omega,h.2⟩
  refine qZ (hb i ρ w hi hI) fun e ρ' w' h=>?_;cases e with
  | normal=>exact hfin _ ρ' w' h fun _ _ _=>rfl
  | exit k=>
   show bif Qo k b1 then _ else _;change (bif Qo k b1 then _ else _)at h;cases hk:Qo k b1 with
   | true=>rw[hk]at h;exact hfin _ ρ' w' h fun _ _ _=>rfl
   | false=>rw[hk]at h;exact h
  | _=>exact h
 ·obtain rfl:i=n:=by omega
  refine zW s6 (by rw[hx];show tst i ρ tc=_;rw[hval,decide_eq_false (by omega)])<|qH b0 (xP s8) ?_;show bif Qo b0 b0 then _ else _;rw[Q1];exact he ρ w hI
theorem ya (ti tn tc tj b0 b1 n:Nat)(hn:n<=0x4000000000000000)(I:Nat->Env->World->Prop)(hI: ∀i ρ w,I i ρ w->ρ ti=iN i/\ρ tn=iN n)
 (h0:I 0 ρ w) (hb: ∀i ρ w,i<n->I i ρ w->WP P N (xO c) (vx ti b0 b1 (fun ρ=>upd (upd ρ tj (iN (i+1))) ti (iN (i+1))) I Q i) (upd ρ tc (.bool true)) w)
 (he: ∀ρ w,I n ρ w->Q .normal (upd ρ tc (.bool false)) w)
 (hs:xQ 1 2 b0 b1 tc c=true:=by kernel_rfl) (hx:qu (zJ (yM c))=.tmp tc:=by kernel_rfl)
 (ht: ∀(ρ0:Env) (i:Nat) w,opv P (zd (jQ c)) 0 (upd (upd ρ0 tn (iN n)) ti (iN i)) w=some (some tc,true,.ok (.value (.bool (decide ((i:Int)<(n:Int))))) w):=by exact fun ρ0 i w=>by kernel_rfl)
 (hj: ∀(ρ0:Env) (i:Nat) w,opv P (zd (jl c)) 0 (upd ρ0 ti (iN i)) w=some (some tj,true,.ok (.value (.int .i64 (Qm.wrap ((i:Int)+1)))) w):=by exact fun ρ0 i w=>by kernel_rfl)
 (hk: ∀(ρ0:Env) (v:Value) w,opv P (zd (jl c)) 1 (upd ρ0 tj v) w=some (some ti,true,.ok (.value v) w):=by exact fun ρ0 v w=>by kernel_rfl)
 (hd:(dOK (some tc) N&&(dOK (some tj) N&&dOK (some ti) N))=true:=by kernel_rfl):WP P N c Q ρ w:=by
 simp only[Ql]at hd;refine zaK (ti:=ti) (tst:=fun i ρ=>upd ρ tc (.bool (decide ((i:Int)<(n:Int))))) (inc:=fun i ρ=>upd (upd ρ tj (iN (i+1))) ti (iN (i+1))) (n:=n) I hs hx (fun i ρ w K h k=>?_) (fun i ρ w h=>?_) (fun i ρ w K hi h k=>?_) h0 (fun i ρ w hi h=>?_) (fun ρ w h=>?_)
 ·have e:upd (upd ρ tn (iN n)) ti (iN i)=ρ:=by rw[ja (hI i ρ w h).2,ja (hI i ρ w h).1]
  refine yh (some tc) _ (fun w=>e▸ht ρ i w) hd.1 ?_;exact zk k
 ·show upd ρ tc _ tc=_;unfold upd;rw[Q1];rfl
 ·have e:upd ρ ti (iN i)=ρ:=ja h;refine xm (some tj) _ (iN (i+1)) (fun w=>e▸hj ρ i w) (zg (zy (a:=i) (b:=1) (by omega))) hd.2.1<|yh (some ti) (iN (i+1)) (fun w=>hk ρ (iN (i+1)) w) hd.2.2 ?_;exact zk k
 ·show WP P N (xO c) _ (upd ρ tc (.bool (decide ((i:Int)<(n:Int))))) w;rw[decide_eq_true (show (i:Int)<(n:Int) by omega)];exact hb i ρ w hi h
 ·show Q .normal (upd ρ tc (.bool (decide ((n:Int)<(n:Int))))) w;rw[decide_eq_false (show ¬(n:Int)<(n:Int) by omega)];exact he ρ w h
end
theorem AtF.row2 {α:Type}{S:Fl α}{w:World}{p:Qc}{n:Nat}{L:List α}(h:AtF S w p n L)(hn:0<n):∃b off C T fz,p=some ⟨b,off,none⟩/\w.heap[b]? =some (.cells C T fz)/\ql S C off L:=by
 rcases h.2 with rfl|h2
 ·have:=h.1;simp at this;omega
 ·exact h2
theorem jS (x y:Qa):(Rb x.toList y.toList||(x.toList==y.toList))= !(ze (tl y) (tl x)):=by
 rw[qz];by_cases h:x=y
 ·subst h;rw[vd,qM];rfl
 ·rw[zX x y h,Bool.or_false];have hne:tl x≠tl y:=fun e=>h (xF e);cases h1:ze (tl x) (tl y) with
  | true=>
   cases h2:ze (tl y) (tl x) with
   | false=>rfl
   | true=>have:=qy h1 h2;rw[qM]at this;cases this
  | false=>rw[vv h1 hne];rfl
def yx (L:Qi)(i:Nat):Option Qa:=if i=0 then none else L[i-1]?
theorem jT {L:Qi}{i:Nat}{x:Qa}(h:L[i]? =some x):yx L (i+1)=some x:=by
 unfold yx;rw[if_neg (by omega),Nat.add_sub_cancel,h]
theorem zaL (p:Qc)(n c:Nat)(L:Qi)(hL:L.length<=1000000):FnP Try.prog 31 #[.slice p n c] (fun w=>AtF sS w p n L) (.bool (zO L)):=by
 refine FnP.intro (c:=zr Try.f31) [.tmp 2] 37 Try.func31 kr kr kr fun w hP=>?_;have hn:=hP.1;have H0:=St.start w;refine rS [.v] H0 kr fun gs1 w1 H1=>zc kr<|rS [.v,.v,.v] H1 kr fun gs2 w2 H2=>ya 7 6 8 28 0 1 n (by omega) (fun i ρ ww=>yr none L=yr (yx L i) (L.drop i)/\St w.heap.size w ww []/\Is [(0,.slice p n c),(5,.slice p n c),(6,iN n),(7,iN i)] ρ) (by rintro i _ ww ⟨_,_,_,rfl⟩;exact⟨kr,kr⟩) ⟨rfl,H2.as kr,isK⟩ ?_ ?_
 ·clear H0 H1 H2;rintro i _ w4 hi ⟨hst,H5,_,rfl⟩;obtain⟨x,hx⟩:∃x,L[i]? =some x:=⟨_,Qj (by omega)⟩
  obtain⟨bl,off,C,T,fz,hp,hh,hR⟩:=hP.row2 (by omega);have hcx:C[off+i*1]? =some (.string x):=hR.cell hx 0 (by decide);rw[qc hx]at hst;change yr none L=(decide (x.size=20)&&(upB (yx L i) x&&yr (some x) (L.drop (i+1))))at hst;refine rS [.v,.o (ins:=[((.tmp 5),.slice p n c),((.tmp 7),iN i)]) (v:=.pointer (some ⟨bl,off+i*1,none⟩)) (fun ρ o w ho hi2=>zs (kd:=.i64) (t:=22) (e:=9) (K:=1) (bytes:=16) kr (x:=(.tmp 5)) (y:=(.tmp 7)) bl off n c i hp ho hi2.1 hi2.2.1 (by omega) w),.fs (off:=off+i*1) (v:=.string x) hh (zj hh) hcx,.v,.v] H5 kr fun gs5 w6 H7=>?_;by_cases h1:x.size=20
  case neg=>
   refine rS [.v,.v,.E (.bool (!((x.size:Int)==20))) (.bool true) (za (by rw[beq_eq_false_iff_ne.2 (by omega)];rfl)),.v,.n,.n,.n,.n,.n,.n,.n,.n,.n,.n,.n,.v] H7 kr fun gs6 w7 H8=>zo<|rS [.v] H8 kr fun gs7 w8 H9=>?_;exact rRe [.tmp 2] [] (v:=.bool false) (v':=.bool (zO L)) H9 (za (by unfold zO;rw[hst,decide_eq_false h1];rfl)) kr
  rw[decide_eq_true h1]at hst;by_cases h0:i=0
  ·have hup:upB (yx L i) x=true:=by subst h0;rfl
   refine rS [.v,.v,.E (.bool (!((x.size:Int)==20))) (.bool false) (za (by rw[beq_iff_eq.2 (show (x.size:Int)=20 by omega)];rfl)),.v,.v,.E (.bool (decide ((i:Int)>0))) (.bool false) (za (decide_eq_false (by omega))),.v,.n,.n,.n,.n,.n,.n,.n,.v,.v] H7 kr fun gs6 w7 H8=>zm ?_;exact⟨kr,by rw[jT hx,hst,hup];rfl,H8.as kr,isK⟩
  ·obtain⟨y,hy⟩:∃y,L[i-1]? =some y:=⟨_,Qj (by omega)⟩
   have hcell:C[off+(i-1)*1]? =some (.string y):=hR.cell hy 0 (by decide);have hpv:upB (yx L i) x=ze (tl y) (tl x):=by unfold yx;rw[if_neg h0,hy];rfl
   rw[hpv]at hst;cases hup:ze (tl y) (tl x) with
   | false=>
    refine rS [.v,.v,.E (.bool (!((x.size:Int)==20))) (.bool false) (za (by rw[beq_iff_eq.2 (show (x.size:Int)=20 by omega)];rfl)),.v,.v,.E (.bool (decide ((i:Int)>0))) (.bool true) (za (decide_eq_true (by omega))),.v,.v,.v,.v,.E (.int .i64 (Qm.wrap ((i:Int)-1))) (iN (i-1)) (zg (yG (a:=i) (b:=1) (by omega))),.o (ins:=[((.tmp 20),.slice p n c),((.tmp 22),iN (i-1))]) (v:=.pointer (some ⟨bl,off+(i-1)*1,none⟩)) (fun ρ o w ho hi2=>zs (kd:=.i64) (t:=22) (e:=9) (K:=1) (bytes:=16) kr (x:=(.tmp 20)) (y:=(.tmp 22)) bl off n c (i-1) hp ho hi2.1 hi2.2.1 (by omega) w),.fs (off:=off+(i-1)*1) (v:=.string y) hh (zj hh) hcell,.E (.bool (Rb x.toList y.toList||(x.toList==y.toList))) (.bool true) (za (by rw[jS,hup];rfl)),.v,.v] H7 kr fun gs6 w7 H8=>zo<|rS [.v] H8 kr fun gs7 w8 H9=>?_;exact rRe [.tmp 2] [] (v:=.bool false) (v':=.bool (zO L)) H9 (za (by unfold zO;rw[hst,hup];rfl)) kr
   | true=>
    refine rS [.v,.v,.E (.bool (!((x.size:Int)==20))) (.bool false) (za (by rw[beq_iff_eq.2 (show (x.size:Int)=20 by omega)];rfl)),.v,.v,.E (.bool (decide ((i:Int)>0))) (.bool true) (za (decide_eq_true (by omega))),.v,.v,.v,.v,.E (.int .i64 (Qm.wrap ((i:Int)-1))) (iN (i-1)) (zg (yG (a:=i) (b:=1) (by omega))),.o (ins:=[((.tmp 20),.slice p n c),((.tmp 22),iN (i-1))]) (v:=.pointer (some ⟨bl,off+(i-1)*1,none⟩)) (fun ρ o w ho hi2=>zs (kd:=.i64) (t:=22) (e:=9) (K:=1) (bytes:=16) kr (x:=(.tmp 20)) (y:=(.tmp 22)) bl off n c (i-1) hp ho hi2.1 hi2.2.1 (by omega) w),.fs (off:=off+(i-1)*1) (v:=.string y) hh (zj hh) hcell,.E (.bool (Rb x.toList y.toList||(x.toList==y.toList))) (.bool false) (za (by rw[jS,hup];rfl)),.v,.v] H7 kr fun gs6 w7 H8=>zm ?_;exact⟨kr,by rw[jT hx,hst,hup];rfl,H8.as kr,isK⟩
 ·rintro _ w4 ⟨hst,H5,_,rfl⟩;rw[QA (by omega)]at hst;refine wW ?_;by_cases h0:0<n
  ·refine rS [.v,.v,.E (.bool (decide ((n:Int)>0))) (.bool true) (za (decide_eq_true (by omega))),.v,.v,.v,.E (.bool (decide ((n:Int)<=16))) (.bool (decide (n<=16))) (za (by rw[R9];simp<;>omega)),.v,.v] H5 kr fun gs6 w7 H8=>?_;exact rRe [.tmp 2] [] (v:=.bool (decide (n<=16))) (v':=.bool (zO L)) H8 (za (by unfold zO;rw[hst,<-hn,decide_eq_true h0];rfl)) kr
  ·refine rS [.v,.v,.E (.bool (decide ((n:Int)>0))) (.bool false) (za (decide_eq_false (by omega))),.v,.n,.n,.n,.v,.v] H5 kr fun gs6 w7 H8=>?_;exact rRe [.tmp 2] [] (v:=.bool false) (v':=.bool (zO L)) H8 (za (by unfold zO;rw[hst,<-hn,decide_eq_false h0];rfl)) kr
section
open Go.ChangeShapes Go.WideShapes Go.ChangeAt
theorem vy:Try.prog.cellsOf 9=1:=kr
theorem zaM:Try.prog.cellsOf 4=1:=kr
theorem zaN:Try.prog.cellsOf 22=1:=kr
section
variable {H:Type}{enc:TypeId×Value->H}{W:World}{sp:Nat->Bool}{held:Bool}
theorem zaO (fuel:Nat)(cs:List Value)(x:DataW H×List MemPlace)(h:RA enc Try.prog W 0 sp held fuel 9 cs=some x):∃a:Qa,cs=sS.cs a/\a.size<=maxLen:=by
 obtain⟨s,e0,_,hs⟩:=DataW.trod_string Try.underlying9 h;exact⟨s,e0,hs⟩
end
end
abbrev Bal:=Qa×Qa×Bool
def blS:Fl Bal where
 K:=3
 cs x:=[.string x.1,.string x.2.1,.bool x.2.2]
 pos:=by decide
 len _:=rfl
 one a:=fun u hu=>by simp at hu;rcases hu with h | h | h<;>rw[h]<;>rfl
abbrev blV (x:Bal):Value:=.agg #[.string x.1,.string x.2.1,.bool x.2.2]
abbrev blC (x:Bal):Qd:=#[.string x.1,.string x.2.1,.bool x.2.2]
def zB (a:Qa):Qi->Bool
 | []=>false
 | x::r=>decide (x=a)||zB a r
theorem xR {a:Qa} : ∀ {L:Qi},zB a L=true↔a∈L
 | []=>by simp[zB]
 | x::r=>by
  simp only[zB,Bool.or_eq_true,decide_eq_true_eq,xR (L:=r),QZ];exact⟨fun h=>h.imp Eq.symm id,fun h=>h.imp Eq.symm id⟩
def yk (b x:Bal):Bool:=decide (x.2.1=b.2.1)&&(x.2.2==b.2.2)
def zf (b:Bal)(V:List Bal):Nat:=(V.filter (yk b)).length
theorem vz (b:Bal)(V:List Bal)(x:Bal):zf b (V++ [x])=zf b V+if yk b x=true then 1 else 0:=by
 unfold zf;rw[Q6,Qx];congr 1;by_cases h:yk b x=true
 ·rw[if_pos h,RC h];rfl
 ·rw[if_neg h,Ra h];rfl
theorem qN (b:Bal)(V:List Bal):zf b V<=V.length:=Rq _ _
def zI (L:Qi)(b:Bal):Bool:=zB b.1 L&&(decide (b.2.1.size=20)&&(zB b.2.1 L !=b.2.2))
def aheadB (a b:Bal):Bool:=if a.2.1=b.2.1 then ze (tl a.1) (tl b.1) else ze (tl a.2.1) (tl b.2.1)
def yC:Option Bal->Bal->Bool
 | none,_=>true
 | some a,b=>aheadB a b
def qP (L:Qi)(V:List Bal):Option Bal->List Bal->Bool
 | _,[]=>true
 | p,b::r=>zI L b&&(yC p b&&(decide (2*zf b V<=L.length)&&qP L V (some b) r))
def zE (L:Qi)(V:List Bal):Bool:=qP L V none V&&zO L
def zP (V:List Bal)(i:Nat):Option Bal:=if i=0 then none else V[i-1]?
theorem vA {V:List Bal}{i:Nat}{x:Bal}(h:V[i]? =some x):zP V (i+1)=some x:=by
 unfold zP;rw[if_neg (by omega),Nat.add_sub_cancel,h]
def zF (b:Bal)(s:List Bal×Bool)(x:Bal):List Bal×Bool:=if (!s.2&& !aheadB x b)=true then (s.1++ [b],true) else s
def yl (b:Bal)(s:List Bal×Bool)(x:Bal):List Bal×Bool:=(if x.2.1=b.2.1/\x.1=b.1 then s.1 else s.1++ [x],s.2)
def yy (b:Bal)(V:List Bal):List Bal×Bool:=V.foldl (fun s x=>yl b (zF b s x) x) ([],false)
theorem zaP (b:Bal)(V:List Bal)(x:Bal):yy b (V++ [x])=yl b (zF b (yy b V) x) x:=by
 unfold yy;rw[List.foldl_append];rfl
def zA (b:Bal)(V:List Bal):List Bal:=if (yy b V).2=true then (yy b V).1 else (yy b V).1++ [b]
def zG (a:Qa)(s:Qi×Bool)(x:Qa):Qi×Bool:=if (!s.2&&ze (tl a) (tl x))=true then (s.1++ [a],true) else s
def ym (a:Qa)(s:Qi×Bool)(x:Qa):Qi×Bool:=(if x=a then s.1 else s.1++ [x],s.2)
def ys (a:Qa)(add:Bool)(L:Qi):Qi×Bool:=L.foldl (fun s x=>ym a (zG a s x) x) ([],!add)
theorem zaQ (a:Qa)(add:Bool)(L:Qi)(x:Qa):ys a add (L++ [x])=ym a (zG a (ys a add L) x) x:=by
 unfold ys;rw[List.foldl_append];rfl
def zL (a:Qa)(add:Bool)(L:Qi):Qi:=if (ys a add L).2=true then (ys a add L).1 else (ys a add L).1++ [a]
def zM (b x:Bal):Bool:=decide (x.2.1≠b.2.1)&&(b.2.2||decide (x.1≠b.2.1))
def zC (L:Qi)(V:List Bal)(b:Bal):Qi×List Bal×Nat:=
 if zE L V=false then ([],[],1)
 else if zI L b=false\/(b.2.2=true/\16<=L.length)\/(b.2.2=false/\L.length=1) then ([],[],44)
 else if 2*zf b (zA b V)<=L.length then (L,zA b V,0)
 else (zL b.2.1 b.2.2 L,((zA b V).filter (zM b)).filter (fun x=>b.2.2||decide (2*zf x ((zA b V).filter (zM b))<=(zL b.2.1 b.2.2 L).length)),0)
abbrev blO (x:Bal):Obj:=.cells (blC x) 27
theorem xS (p:Qc)(n c:Nat)(L:Qi)(a:Qa)(hL:L.length<=1000000):FnP Try.prog 14 #[.slice p n c,.string a] (fun w=>AtF sS w p n L) (.bool (zB a L)):=by
 refine FnP.intro (c:=zr Try.f14) [.tmp 4] 17 Try.func14 kr kr kr fun w hP=>?_;have hn:=hP.1;have H0:=St.start w;refine rS [.v] H0 kr fun gs1 w1 H1=>zc kr<|rS [.v,.v,.v] H1 kr fun gs2 w2 H2=>ya 9 8 10 16 0 1 n (by omega) (fun i ρ ww=>zB a L=zB a (L.drop i)/\St w.heap.size w ww []/\Is [(1,.string a),(7,.slice p n c),(8,iN n),(9,iN i)] ρ) (by rintro i _ ww ⟨_,_,_,rfl⟩;exact⟨kr,kr⟩) ⟨rfl,H2.as kr,isK⟩ ?_ ?_
 ·clear H0 H1 H2;rintro i _ w3 hi ⟨hst,H3,_,rfl⟩;obtain⟨x,hx⟩:∃x,L[i]? =some x:=⟨_,Qj (by omega)⟩
  obtain⟨bl,off,C,T,fz,hp,hh,hR⟩:=hP.row2 (by omega);have hcx:C[off+i*1]? =some (.string x):=hR.cell hx 0 (by decide);rw[qc hx]at hst;change zB a L=(decide (x=a)||zB a (L.drop (i+1)))at hst;refine rS [.o (ins:=[((.tmp 7),.slice p n c),((.tmp 9),iN i)]) (v:=.pointer (some ⟨bl,off+i*1,none⟩)) (fun ρ o w ho hi2=>zs (kd:=.i64) (t:=22) (e:=9) (K:=1) (bytes:=16) kr (x:=(.tmp 7)) (y:=(.tmp 9)) bl off n c i hp ho hi2.1 hi2.2.1 (by omega) w),.fs (off:=off+i*1) (v:=.string x) hh (zj hh) hcx,.v] H3 kr fun gs4 w4 H4=>?_;by_cases e:x=a
  ·refine rS [.v,.v,.E (.bool (x.toList==a.toList)) (.bool true) (za (ye _ _ e))] H4 kr fun gs5 w5 H5=>zo<|rS [.v] H5 kr fun gs6 w6 H6=>?_;exact rRe [.tmp 4] [] (v:=.bool true) (v':=.bool (zB a L)) H6 (za (by rw[hst,decide_eq_true e];rfl)) kr
  ·refine rS [.v,.v,.E (.bool (x.toList==a.toList)) (.bool false) (za (zX _ _ e))] H4 kr fun gs5 w5 H5=>zm ?_;exact⟨kr,by rw[hst,decide_eq_false e];rfl,H5.as kr,isK⟩
 ·rintro _ w3 ⟨hst,H3,_,rfl⟩;rw[QA (by omega)]at hst;refine wW<|rS [.v] H3 kr fun gs4 w4 H4=>?_;exact rRe [.tmp 4] [] (v:=.bool false) (v':=.bool (zB a L)) H4 (za hst.symm) kr
theorem jU (p:Qc)(n c:Nat)(V:List Bal)(b:Bal)(hV:V.length<=1000000):FnP Try.prog 16 #[.slice p n c,blV b] (fun w=>AtF blS w p n V) (iN (zf b V)):=by
 refine FnP.intro (c:=zr Try.f16) [.tmp 4] 30 Try.func16 kr kr kr fun w hP=>?_;have hn:=hP.1;have H0:=St.start w;refine rS [.b,.v] H0 kr fun gs1 w1 H1=>rS [.v] H1 kr fun gs2 w2 H2=>zc kr<|rS [.v,.v,.v] H2 kr fun gs3 w3 H3=>ya 10 9 11 28 0 1 n (by omega) (fun i ρ ww=>St w.heap.size w ww [((gs1 0).b,blO b)]/\Is [(3,Qe (gs1 0).b),(5,iN (zf b (V.take i))),(8,.slice p n c),(9,iN n),(10,iN i)] ρ) (by rintro i _ ww ⟨_,_,rfl⟩;exact⟨kr,kr⟩) ⟨H3.as kr,isK⟩ ?_ ?_
 ·clear H0 H1 H2 H3;rintro i _ w4 hi ⟨H4,_,rfl⟩;obtain⟨x,hx⟩:∃x,V[i]? =some x:=⟨_,Qj (by omega)⟩
  obtain⟨bl,off,C,T,fz,hp,hh,hR⟩:=hP.row2 (by omega);have hle:=qN b (V.take i);rw[Qq]at hle;have hsn:zf b (V.take (i+1))=zf b (V.take i)+if yk b x=true then 1 else 0:=by rw[zY hx,vz]
  refine rS [.o (ins:=[((.tmp 8),.slice p n c),((.tmp 10),iN i)]) (v:=.pointer (some ⟨bl,off+i*3,none⟩)) (fun ρ o w ho hi2=>zs (kd:=.i64) (t:=23) (e:=27) (K:=3) (bytes:=40) kr (x:=(.tmp 8)) (y:=(.tmp 10)) bl off n c i hp ho hi2.1 hi2.2.1 (by omega) w),.fp (off:=off+i*3) (n:=3) (W:=blC x) hh (zj hh) (hR _ _ hx).1 (hR _ _ hx).2,.a,.s 1] H4 kr fun gs4 w5 H5=>?_;have drop1: ∀ {ww:World},St w.heap.size w ww [((gs1 0).b,blO b),((gs4 2).b,blO x)]->St w.heap.size w ww [((gs1 0).b,blO b)]:=fun H=>H.sub (QD [_] [_]);by_cases e:x.2.1=b.2.1
  ·refine rS [.v,.l 1,.v,.l 0,.E (.bool (x.2.1.toList==b.2.1.toList)) (.bool true) (za (ye _ _ e)),.v,.v,.l 1,.v,.l 0,.E (.bool (x.2.2==b.2.2)) (.bool (yk b x)) (za (by unfold yk;rw[decide_eq_true e];rfl)),.v] H5 kr fun gs5 w6 H6=>?_;by_cases hf:yk b x=true
   ·refine qb 25 (v:=.bool (yk b x)) (v':=.bool true) (by rw[hf]) kr<|zo ?_;rw[if_pos hf]at hsn;refine rL [.v,.E (.int .i64 (Qm.wrap (((zf b (V.take i):Nat):Int)+1))) (iN (zf b (V.take (i+1)))) (zg (by rw[hsn];exact zy (a:=zf b (V.take i)) (b:=1) (by omega))),.v] H6 kr fun gs6 w7 H7=>?_;exact⟨kr,drop1 (H7.as kr),isK⟩
   ·refine qb 25 (v:=.bool (yk b x)) (v':=.bool false) (by rw[QX.2 hf]) kr<|zm ?_;rw[if_neg hf,R0]at hsn;exact⟨kr,drop1 (H6.as kr),(congrArg (fun k=>Is [(3,Qe (gs1 0).b),(5,iN k),(8,.slice p n c),(9,iN n),(10,iN (i+1))] _) hsn).mpr isK⟩
  ·refine rS [.v,.l 1,.v,.l 0,.E (.bool (x.2.1.toList==b.2.1.toList)) (.bool false) (za (zX _ _ e)),.v,.n,.n,.n,.n,.n,.v] H5 kr fun gs5 w6 H6=>zm ?_;rw[if_neg (by unfold yk;rw[decide_eq_false e];exact QF),R0]at hsn;exact⟨kr,drop1 (H6.as kr),(congrArg (fun k=>Is [(3,Qe (gs1 0).b),(5,iN k),(8,.slice p n c),(9,iN n),(10,iN (i+1))] _) hsn).mpr isK⟩
 ·rintro _ w4 ⟨H4,_,rfl⟩;rw[Qn (by omega)];refine wW<|rS [.v,.v] H4 kr fun gs4 w5 H5=>?_;exact rR [.tmp 4] [] (iN (zf b V)) H5 kr
theorem vB (a b:Bal):Fn Try.prog 30 #[blV a,blV b] (.bool (aheadB a b)):=by
 refine Fn.intro (c:=zr Try.f30) [.tmp 4] 20 Try.func30 kr kr kr fun w=>rS [.b,.b,.v] (St.start w) kr fun gs1 w1 H1=>zc kr ?_;by_cases e:a.2.1=b.2.1
 ·refine rS [.v,.l 0,.v,.l 1,.E (.bool (!(a.2.1.toList==b.2.1.toList))) (.bool false) (za (by rw[ye _ _ e];rfl))] H1 kr fun gs2 w2 H2=>zm<|wW<|rS [.v,.l 0,.v,.l 1,.E (.bool (Rb a.1.toList b.1.toList)) (.bool (aheadB a b)) (za (by unfold aheadB;rw[if_pos e,qz])),.v] H2 kr fun gs3 w3 H3=>?_;exact rR [.tmp 4] [] (.bool (aheadB a b)) H3 kr
 ·refine rS [.v,.l 0,.v,.l 1,.E (.bool (!(a.2.1.toList==b.2.1.toList))) (.bool true) (za (by rw[zX _ _ e];rfl))] H1 kr fun gs2 w2 H2=>zo<|rS [.v,.l 0,.v,.l 1,.E (.bool (Rb a.2.1.toList b.2.1.toList)) (.bool (aheadB a b)) (za (by unfold aheadB;rw[if_neg e,qz])),.v] H2 kr fun gs3 w3 H3=>?_;exact rR [.tmp 4] [] (.bool (aheadB a b)) H3 kr
theorem vC (p:Qc)(n c:Nat)(L:Qi)(b:Bal)(hL:L.length<=1000000):FnP Try.prog 25 #[.slice p n c,blV b] (fun w=>AtF sS w p n L) (.bool (zI L b)):=by
 refine FnP.intro (c:=zr Try.f25) [.tmp 4] 24 Try.func25 kr kr kr fun w hP=>?_;have h1:=xS p n c L b.1 hL;have h2:=xS p n c L b.2.1 hL;refine rS [.b,.v] (St.start w) kr fun gs1 w1 H1=>?_;unfold zI;cases e1:zB b.1 L with
 | false=>
  rw[e1]at h1;refine dS [.v,.v,.l 0,.cp (pre:=fun w=>AtF sS w p n L) h1 [] (fun w hb hd=>hP.call hb),.v,.n,.n,.n,.n,.v,.v,.n,.n,.n,.n,.n,.n,.n,.v,.v] H1 kr fun w2 H2=>?_;exact rR [.tmp 4] [] (.bool false) H2 kr
 | true=>
  rw[e1]at h1;by_cases e2:b.2.1.size=20
  ·rw[decide_eq_true e2];refine dS [.v,.v,.l 0,.cp (pre:=fun w=>AtF sS w p n L) h1 [] (fun w hb hd=>hP.call hb),.v,.v,.l 0,.v,.E (.bool (((b.2.1.size:Nat):Int)==20)) (.bool true) (za (beq_iff_eq.2 (by omega))),.v,.v,.v,.v,.l 0,.cp (pre:=fun w=>AtF sS w p n L) h2 [] (fun w hb hd=>hP.call hb),.v,.l 0,.E (.bool (zB b.2.1 L !=b.2.2)) (.bool (zB b.2.1 L !=b.2.2)) rfl,.v,.v] H1 kr fun w2 H2=>?_;exact rR [.tmp 4] [] (.bool (zB b.2.1 L !=b.2.2)) H2 kr
  ·rw[decide_eq_false e2];refine dS [.v,.v,.l 0,.cp (pre:=fun w=>AtF sS w p n L) h1 [] (fun w hb hd=>hP.call hb),.v,.v,.l 0,.v,.E (.bool (((b.2.1.size:Nat):Int)==20)) (.bool false) (za (beq_eq_false_iff_ne.2 (by omega))),.v,.v,.n,.n,.n,.n,.n,.n,.n,.v,.v] H1 kr fun w2 H2=>?_;exact rR [.tmp 4] [] (.bool false) H2 kr
abbrev snV (q:Qc)(m cq:Nat)(p:Qc)(n c:Nat):Value:=.agg #[.slice q m cq,.slice p n c]
abbrev snO (q:Qc)(m cq:Nat)(p:Qc)(n c:Nat):Obj:=.cells #[.slice q m cq,.slice p n c] 25 (0,0)
def zD (w:World)(L:Qi)(V:List Bal)(q:Qc)(m:Nat)(p:Qc)(n:Nat):Prop:=AtF sS w q m L/\AtF blS w p n V
theorem vD (q:Qc)(m cq:Nat)(L:Qi)(p:Qc)(n c:Nat)(V:List Bal)(hL:L.length<=1000000)(hV:V.length<=1000000):FnP Try.prog 12 #[snV q m cq p n c] (fun w=>zD w L V q m p n) (.bool (zE L V)):=by
 refine FnP.intro (c:=zr Try.f12) [.tmp 2] 48 Try.func12 kr kr kr fun w hP=>?_;obtain⟨hS,hVV⟩:=hP;have hm:=hS.1;have hn:=hVV.1;have hset:=zaL q m cq L hL;have H0:=St.start w;refine rS [.b,.v] H0 kr fun gs1 w1 H1=>zc kr<|rS [.v,.l 0,.v,.v] H1 kr fun gs2 w2 H2=>ya 8 7 9 44 0 1 n (by omega) (fun i ρ ww=>zE L V=(qP L V (zP V i) (V.drop i)&&zO L)/\St w.heap.size w ww [((gs1 0).b,snO q m cq p n c)]/\Is [(1,Qe (gs1 0).b),(6,.slice p n c),(7,iN n),(8,iN i)] ρ) (by rintro i _ ww ⟨_,_,_,rfl⟩;exact⟨kr,kr⟩) ⟨rfl,H2.as kr,isK⟩ ?_ ?_
 ·clear H0 H1 H2;rintro i _ w3 hi ⟨hst,H3,_,rfl⟩;obtain⟨x,hx⟩:∃x,V[i]? =some x:=⟨_,Qj (by omega)⟩
  obtain⟨bl,off,C,T,fz,hp,hh,hR⟩:=hVV.row2 (by omega);have hle:=qN x V;have h1:=vC q m cq L x hL;have hc:=jU p n c V x hV;rw[qc hx]at hst;change zE L V=((zI L x&&(yC (zP V i) x&&(decide (2*zf x V<=L.length)&&qP L V (some x) (V.drop (i+1)))))&&zO L)at hst;rw[<-vA hx]at hst;refine rS [.v,.o (ins:=[((.tmp 6),.slice p n c),((.tmp 8),iN i)]) (v:=.pointer (some ⟨bl,off+i*3,none⟩)) (fun ρ o w ho hi2=>zs (kd:=.i64) (t:=23) (e:=27) (K:=3) (bytes:=40) kr (x:=(.tmp 6)) (y:=(.tmp 8)) bl off n c i hp ho hi2.1 hi2.2.1 (by omega) w),.fp (off:=off+i*3) (n:=3) (W:=blC x) hh (zj hh) (hR _ _ hx).1 (hR _ _ hx).2,.a,.v,.s 1] H3 kr fun gs4 w4 H4=>?_;have drop1: ∀ {ww:World},St w.heap.size w ww [((gs1 0).b,snO q m cq p n c),((gs4 3).b,blO x)]->St w.heap.size w ww [((gs1 0).b,snO q m cq p n c)]:=fun H=>H.sub (QD [_] [_]);cases ef:zI L x with
  | false=>
   rw[ef]at h1;refine dS [.v,.l 0,.l 1,.cp (pre:=fun w=>AtF sS w q m L) h1 [] (fun w hb hd=>hS.call hb),.v,.v,.n,.n,.n,.n,.n,.n,.n,.n,.n,.n,.n,.n,.n,.v,.v,.n,.n,.n,.n,.n,.n,.n,.n,.n,.v] H4 kr fun w5 H5=>zo<|rS [.v] H5 kr fun gs6 w6 H6=>?_;exact rRe [.tmp 2] [] (v:=.bool false) (v':=.bool (zE L V)) H6 (za (by rw[hst,ef];rfl)) kr
  | true=>
   rw[ef]at h1;by_cases hi0:i=0
   ·have ea:yC (zP V i) x=true:=by
     have hp0:zP V i=none:=by unfold zP;rw[if_pos hi0]
     rw[hp0];rfl
    by_cases h2:2*zf x V<=L.length
    ·refine dS [.v,.l 0,.l 1,.cp (pre:=fun w=>AtF sS w q m L) h1 [] (fun w hb hd=>hS.call hb),.v,.v,.v,.E (.bool (decide ((i:Int)>0))) (.bool false) (za (decide_eq_false (by omega))),.v,.n,.n,.n,.n,.n,.n,.n,.n,.n,.v,.v,.v,.v,.l 0,.l 1,.cp (pre:=fun w=>AtF blS w p n V) hc [] (fun w hb hd=>hVV.call hb),.E (.int .i64 (Qm.wrap (2*((zf x V:Nat):Int)))) (iN (2*zf x V)) (zg (yp (a:=2) (b:=zf x V) (by omega))),.v,.l 0,.v,.E (.bool (decide (((2*zf x V:Nat):Int)>(m:Int)))) (.bool false) (za (decide_eq_false (by omega))),.v] H4 kr fun w5 H5=>zm ?_;exact⟨kr,hst.trans (by rw[ef,ea,decide_eq_true h2,QT,QT,QT]),drop1 (H5.as kr),isK⟩
    ·refine dS [.v,.l 0,.l 1,.cp (pre:=fun w=>AtF sS w q m L) h1 [] (fun w hb hd=>hS.call hb),.v,.v,.v,.E (.bool (decide ((i:Int)>0))) (.bool false) (za (decide_eq_false (by omega))),.v,.n,.n,.n,.n,.n,.n,.n,.n,.n,.v,.v,.v,.v,.l 0,.l 1,.cp (pre:=fun w=>AtF blS w p n V) hc [] (fun w hb hd=>hVV.call hb),.E (.int .i64 (Qm.wrap (2*((zf x V:Nat):Int)))) (iN (2*zf x V)) (zg (yp (a:=2) (b:=zf x V) (by omega))),.v,.l 0,.v,.E (.bool (decide (((2*zf x V:Nat):Int)>(m:Int)))) (.bool true) (za (decide_eq_true (by omega))),.v] H4 kr fun w5 H5=>zo<|rS [.v] H5 kr fun gs6 w6 H6=>?_;exact rRe [.tmp 2] [] (v:=.bool false) (v':=.bool (zE L V)) H6 (za (by rw[hst,ef,ea,decide_eq_false h2];rfl)) kr
   ·obtain⟨y,hy⟩:∃y,V[i-1]? =some y:=⟨_,Qj (by omega)⟩
    have hp0:zP V i=some y:=by unfold zP;rw[if_neg hi0,hy]
    have ha:=vB y x;cases ea':aheadB y x with
    | false=>
     have ea:yC (zP V i) x=false:=by rw[hp0];exact ea'
     rw[ea']at ha;refine dS [.v,.l 0,.l 1,.cp (pre:=fun w=>AtF sS w q m L) h1 [] (fun w hb hd=>hS.call hb),.v,.v,.v,.E (.bool (decide ((i:Int)>0))) (.bool true) (za (decide_eq_true (by omega))),.v,.v,.l 0,.v,.E (.int .i64 (Qm.wrap ((i:Int)-1))) (iN (i-1)) (zg (yG (a:=i) (b:=1) (by omega))),.o (ins:=[((.tmp 23),.slice p n c),((.tmp 25),iN (i-1))]) (v:=.pointer (some ⟨bl,off+(i-1)*3,none⟩)) (fun ρ o w ho hi2=>zs (kd:=.i64) (t:=23) (e:=27) (K:=3) (bytes:=40) kr (x:=(.tmp 23)) (y:=(.tmp 25)) bl off n c (i-1) hp ho hi2.1 hi2.2.1 (by omega) w),.fp (off:=off+(i-1)*3) (n:=3) (W:=blC y) hh (zj hh) (hR _ _ hy).1 (hR _ _ hy).2,.l 1,.c ha,.v,.v,.v,.v,.n,.n,.n,.n,.n,.n,.n,.n,.n,.v] H4 kr fun w5 H5=>zo<|rS [.v] H5 kr fun gs6 w6 H6=>?_;exact rRe [.tmp 2] [] (v:=.bool false) (v':=.bool (zE L V)) H6 (za (by rw[hst,ef,ea];rfl)) kr
    | true=>
     have ea:yC (zP V i) x=true:=by rw[hp0];exact ea'
     rw[ea']at ha;by_cases h2:2*zf x V<=L.length
     ·refine dS [.v,.l 0,.l 1,.cp (pre:=fun w=>AtF sS w q m L) h1 [] (fun w hb hd=>hS.call hb),.v,.v,.v,.E (.bool (decide ((i:Int)>0))) (.bool true) (za (decide_eq_true (by omega))),.v,.v,.l 0,.v,.E (.int .i64 (Qm.wrap ((i:Int)-1))) (iN (i-1)) (zg (yG (a:=i) (b:=1) (by omega))),.o (ins:=[((.tmp 23),.slice p n c),((.tmp 25),iN (i-1))]) (v:=.pointer (some ⟨bl,off+(i-1)*3,none⟩)) (fun ρ o w ho hi2=>zs (kd:=.i64) (t:=23) (e:=27) (K:=3) (bytes:=40) kr (x:=(.tmp 23)) (y:=(.tmp 25)) bl off n c (i-1) hp ho hi2.1 hi2.2.1 (by omega) w),.fp (off:=off+(i-1)*3) (n:=3) (W:=blC y) hh (zj hh) (hR _ _ hy).1 (hR _ _ hy).2,.l 1,.c ha,.v,.v,.v,.v,.v,.l 0,.l 1,.cp (pre:=fun w=>AtF blS w p n V) hc [] (fun w hb hd=>hVV.call hb),.E (.int .i64 (Qm.wrap (2*((zf x V:Nat):Int)))) (iN (2*zf x V)) (zg (yp (a:=2) (b:=zf x V) (by omega))),.v,.l 0,.v,.E (.bool (decide (((2*zf x V:Nat):Int)>(m:Int)))) (.bool false) (za (decide_eq_false (by omega))),.v] H4 kr fun w5 H5=>zm ?_;exact⟨kr,hst.trans (by rw[ef,ea,decide_eq_true h2,QT,QT,QT]),drop1 (H5.as kr),isK⟩
     ·refine dS [.v,.l 0,.l 1,.cp (pre:=fun w=>AtF sS w q m L) h1 [] (fun w hb hd=>hS.call hb),.v,.v,.v,.E (.bool (decide ((i:Int)>0))) (.bool true) (za (decide_eq_true (by omega))),.v,.v,.l 0,.v,.E (.int .i64 (Qm.wrap ((i:Int)-1))) (iN (i-1)) (zg (yG (a:=i) (b:=1) (by omega))),.o (ins:=[((.tmp 23),.slice p n c),((.tmp 25),iN (i-1))]) (v:=.pointer (some ⟨bl,off+(i-1)*3,none⟩)) (fun ρ o w ho hi2=>zs (kd:=.i64) (t:=23) (e:=27) (K:=3) (bytes:=40) kr (x:=(.tmp 23)) (y:=(.tmp 25)) bl off n c (i-1) hp ho hi2.1 hi2.2.1 (by omega) w),.fp (off:=off+(i-1)*3) (n:=3) (W:=blC y) hh (zj hh) (hR _ _ hy).1 (hR _ _ hy).2,.l 1,.c ha,.v,.v,.v,.v,.v,.l 0,.l 1,.cp (pre:=fun w=>AtF blS w p n V) hc [] (fun w hb hd=>hVV.call hb),.E (.int .i64 (Qm.wrap (2*((zf x V:Nat):Int)))) (iN (2*zf x V)) (zg (yp (a:=2) (b:=zf x V) (by omega))),.v,.l 0,.v,.E (.bool (decide (((2*zf x V:Nat):Int)>(m:Int)))) (.bool true) (za (decide_eq_true (by omega))),.v] H4 kr fun w5 H5=>zo<|rS [.v] H5 kr fun gs6 w6 H6=>?_;exact rRe [.tmp 2] [] (v:=.bool false) (v':=.bool (zE L V)) H6 (za (by rw[hst,ef,ea,decide_eq_false h2];rfl)) kr
 ·rintro _ w3 ⟨hst,H3,_,rfl⟩;rw[QA (by omega)]at hst;change zE L V=zO L at hst;rw[<-hst]at hset;refine wW<|rS [.v,.l 0,.cp (pre:=fun w=>AtF sS w q m L) hset [] (fun w hb hd=>hS.call hb),.v] H3 kr fun gs4 w4 H4=>?_;exact rR [.tmp 2] [] (.bool (zE L V)) H4 kr
theorem zaR (b:Bal)(s:List Bal×Bool)(x:Bal):(zF b s x).1.length<=s.1.length+1:=by
 unfold zF;split
 ·show (s.1++ [b]).length<=_;rw[Qx];exact Qr _
 ·omega
theorem vE (b:Bal)(s:List Bal×Bool)(x:Bal):(yl b s x).1.length<=s.1.length+1:=by
 show (if x.2.1=b.2.1/\x.1=b.1 then s.1 else s.1++ [x]).length<=_;split
 ·omega
 ·rw[Qx];exact Qr _
theorem vF (b:Bal): ∀(V:List Bal) (s:List Bal×Bool),(V.foldl (fun s x=>yl b (zF b s x) x) s).1.length<=s.1.length+2*V.length
 | [],s=>by simp
 | x::r,s=>by
  have h1:=vF b r (yl b (zF b s x) x);have h2:=vE b (zF b s x) x;have h3:=zaR b s x;rw[Rm,RK];omega
theorem xT (b:Bal)(V:List Bal):(yy b V).1.length<=2*V.length:=by
 have:=vF b V ([],false);unfold yy;simpa using this
theorem zaS (a:Qa)(s:Qi×Bool)(x:Qa):(zG a s x).1.length<=s.1.length+1:=by
 unfold zG;split
 ·show (s.1++ [a]).length<=_;rw[Qx];exact Qr _
 ·omega
theorem vG (a:Qa)(s:Qi×Bool)(x:Qa):(ym a s x).1.length<=s.1.length+1:=by
 show (if x=a then s.1 else s.1++ [x]).length<=_;split
 ·omega
 ·rw[Qx];exact Qr _
theorem vH (a:Qa): ∀(L:Qi) (s:Qi×Bool),(L.foldl (fun s x=>ym a (zG a s x) x) s).1.length<=s.1.length+2*L.length
 | [],s=>by simp
 | x::r,s=>by
  have h1:=vH a r (ym a (zG a s x) x);have h2:=vG a (zG a s x) x;have h3:=zaS a s x;rw[Rm,RK];omega
theorem xU (a:Qa)(add:Bool)(L:Qi):(ys a add L).1.length<=2*L.length:=by
 have:=vH a L ([],!add);unfold ys;simpa using this
def jV {α:Type}(S:Fl α)(T:TypeId)(M:List α)(v:Value)(l:Qb):Prop:=∃(b m k:Nat) (cur:Qd),v=Qf b m k/\l=[(b,.cells cur T)]/\Rw S.K cur k m (zb S M)
theorem zaT (p:Qc)(n c:Nat)(V:List Bal)(b:Bal)(hV:V.length<=1000000):FnT Try.prog 26 #[.slice p n c,blV b] (fun w=>AtF blS w p n V) (jV blS 27 (zA b V)):=by
 refine FnT.intro (c:=zr Try.f26) [.tmp 4] 52 Try.func26 kr kr kr fun w hP=>?_;have hn:=hP.1;have H0:=St.start w;refine rS [.b,.v] H0 kr fun gs1 w1 H1=>rS [.nw (fun b=>Qf b 0 0) #[] 27,.v] H1 kr fun gs2 w2 H2=>rS [.v] H2 kr fun gs3 w3 H3=>zc kr<|rS [.v,.v,.v] H3 kr fun gsi wi Hi=>ya 12 11 13 44 0 1 n (by omega) (fun i ρ ww=> ∃(M:List Bal) (d:Bool) (rb k cap:Nat) (cur:Qd),yy b (V.take i)=(M,d)/\Rw 3 cur cap k (zb blS M)/\St w.heap.size w ww [(rb,.cells cur 27),((gs1 0).b,blO b)]/\Is [(3,Qe (gs1 0).b),(5,Qf rb k cap),(6,.bool d),(10,.slice p n c),(11,iN n),(12,iN i)] ρ) (by rintro i _ ww ⟨_,_,_,_,_,_,_,_,_,_,rfl⟩;exact⟨kr,kr⟩) ⟨[],false,_,0,0,#[],rfl,⟨rfl,Qr _,QS _,rfl,rfl⟩,(Hi.as (l:=[((gs1 0).b,blO b),((gs2 0).b,.cells #[] 27 (0,0))]) kr).perm (List.Perm.swap _ _ _),isK⟩ ?_ ?_
 ·clear H0 H1 H2 H3 Hi;rintro i _ w4 hi ⟨M,d,rb,k,cap,cur,hs,hrw,H4,_,rfl⟩;obtain⟨x,hx⟩:∃x,V[i]? =some x:=⟨_,Qj (by omega)⟩
  obtain⟨bl,off,C,T,fz,hp,hh,hR⟩:=hP.row2 (by omega);have hk:M.length=k:=Rw.lenF (S:=blS) hrw;have hlen:M.length<=2*i:=by
   have h9:=xT b (V.take i);rw[hs,Qq]at h9;change M.length<=2*min i V.length at h9;omega
  have hsn:yy b (V.take (i+1))=yl b (zF b (M,d) x) x:=by rw[zY hx,zaP,hs]
  have ha:=vB x b;refine rS [.o (ins:=[((.tmp 10),.slice p n c),((.tmp 12),iN i)]) (v:=.pointer (some ⟨bl,off+i*3,none⟩)) (fun ρ o w ho hi2=>zs (kd:=.i64) (t:=23) (e:=27) (K:=3) (bytes:=40) kr (x:=(.tmp 10)) (y:=(.tmp 12)) bl off n c i hp ho hi2.1 hi2.2.1 (by omega) w),.fp (off:=off+i*3) (n:=3) (W:=blC x) hh (zj hh) (hR _ _ hx).1 (hR _ _ hx).2,.a,.s 2] H4 kr fun gs4 w5 H5=>zc kr<|qZ (Q:=fun e ρ ww=>e=.normal/\∃(M1:List Bal) (d1:Bool) (rb k cap:Nat) (cur:Qd),zF b (M,d) x=(M1,d1)/\M1.length<=2*i+1/\Rw 3 cur cap k (zb blS M1)/\St w.heap.size w ww [(rb,.cells cur 27),((gs1 0).b,blO b),((gs4 2).b,blO x)]/\Is [(3,Qe (gs1 0).b),(5,Qf rb k cap),(6,.bool d1),(8,Qe (gs4 2).b),(10,.slice p n c),(11,iN n),(12,iN i)] ρ) ?_ ?_
  ·cases d with
   | true=>
    refine rS [.v,.v,.v,.n,.n,.n,.n,.v] H5 kr fun gs5 w6 H6=>zm ?_;exact⟨rfl,M,true,rb,k,cap,cur,rfl,by omega,hrw,H6.as kr,isK⟩
   | false=>
    cases ea:aheadB x b with
    | true=>
     rw[ea]at ha;refine rS [.v,.v,.v,.l 2,.l 1,.c ha,.v,.v] H5 kr fun gs5 w6 H6=>zm ?_;exact⟨rfl,M,false,rb,k,cap,cur,by unfold zF;rw[ea];rfl,by omega,hrw,H6.as kr,isK⟩
    | false=>
     rw[ea]at ha;refine rS [.v,.v,.v,.l 2,.l 1,.c ha,.v,.v] H5 kr fun gs5 w6 H6=>zo<|zn [0,1,2,3,4] kr kr<|rp [.v,.l 1] H6 kr fun gsA wA HA=>wX [2,3,4] ?_;have HB:St w.heap.size w wA ((rb,.cells cur 27)::[((gs1 0).b,blO b),((gs4 2).b,blO x)]):=HA.as kr;refine yj HB (some 26) (fun b=>Qf b 1 1) (blS.cs b).toArray 27 kr kr ?_;intro bn wB HC;refine yQ (S:=blS) (row:=[(rb,.cells cur 27)]) (Z:=[((gs1 0).b,blO b),((gs4 2).b,blO x)]) (some 27) 23 27 40 (.tmp 24) (.tmp 26) HC (.inr ⟨rb,cur,rfl,rfl,hrw⟩) kr kr kr kr kr (by omega) (by unfold maxLen;omega) ?_;intro b' cap' cur' wC HD hr';refine rp [.v] HD kr fun gsB wD HE=>wX []<|zk<|rL [.v] HE kr fun gs7 w7 H7=>?_;exact⟨rfl,M++ [b],true,b',k+1,cap',cur',by unfold zF;rw[ea];rfl,by rw[Qx];show M.length+1<=_;omega,hr',H7.as kr,isK⟩
  ·clear H4 H5 hrw hk;rintro _ _ w6 ⟨rfl,M1,d1,rb,k,cap,cur,hT,hl1,hrw,H6,_,rfl⟩;have hk:M1.length=k:=Rw.lenF (S:=blS) hrw;rw[hT]at hsn;refine wW ?_;by_cases e1:x.2.1=b.2.1
   ·by_cases e2:x.1=b.1
    ·refine rS [.v,.l 2,.v,.l 1,.E (.bool (!(x.2.1.toList==b.2.1.toList))) (.bool false) (za (by rw[ye _ _ e1];rfl)),.v,.v,.l 2,.v,.l 1,.E (.bool (!(x.1.toList==b.1.toList))) (.bool false) (za (by rw[ye _ _ e2];rfl)),.v] H6 kr fun gs7 w7 H7=>zm ?_;exact⟨kr,M1,d1,rb,k,cap,cur,hsn.trans (by unfold yl;rw[if_pos ⟨e1,e2⟩]),hrw,(H7.as (l:=[(rb,.cells cur 27),((gs1 0).b,blO b),((gs4 2).b,blO x)]) kr).sub (QD [_,_] [_]),isK⟩
    ·refine rS [.v,.l 2,.v,.l 1,.E (.bool (!(x.2.1.toList==b.2.1.toList))) (.bool false) (za (by rw[ye _ _ e1];rfl)),.v,.v,.l 2,.v,.l 1,.E (.bool (!(x.1.toList==b.1.toList))) (.bool true) (za (by rw[zX _ _ e2];rfl)),.v] H6 kr fun gs7 w7 H7=>zo<|yY [0,1,2,3,4] kr<|rp [.v,.l 2] H7 kr fun gsA wA HA=>wX [2,3,4] ?_;have HB:St w.heap.size w wA ((rb,.cells cur 27)::[((gs1 0).b,blO b),((gs4 2).b,blO x)]):=HA.as kr;refine yj HB (some 42) (fun b=>Qf b 1 1) (blS.cs x).toArray 27 kr kr ?_;intro bn wB HC;refine yQ (S:=blS) (row:=[(rb,.cells cur 27)]) (Z:=[((gs1 0).b,blO b),((gs4 2).b,blO x)]) (some 43) 23 27 40 (.tmp 40) (.tmp 42) HC (.inr ⟨rb,cur,rfl,rfl,hrw⟩) kr kr kr kr kr (by omega) (by unfold maxLen;omega) ?_;intro b' cap' cur' wC HD hr';refine rp [.v] HD kr fun gsB wD HE=>wX []<|zk ?_;exact⟨kr,M1++ [x],d1,b',k+1,cap',cur',hsn.trans (by unfold yl;rw[if_neg (fun h=>e2 h.2)]),hr',(HE.as (l:=[(b',.cells cur' 27),((gs1 0).b,blO b),((gs4 2).b,blO x)]) kr).sub (QD [_,_] [_]),isK⟩
   ·refine rS [.v,.l 2,.v,.l 1,.E (.bool (!(x.2.1.toList==b.2.1.toList))) (.bool true) (za (by rw[zX _ _ e1];rfl)),.v,.n,.n,.n,.n,.n,.v] H6 kr fun gs7 w7 H7=>zo<|yY [0,1,2,3,4] kr<|rp [.v,.l 2] H7 kr fun gsA wA HA=>wX [2,3,4] ?_;have HB:St w.heap.size w wA ((rb,.cells cur 27)::[((gs1 0).b,blO b),((gs4 2).b,blO x)]):=HA.as kr;refine yj HB (some 42) (fun b=>Qf b 1 1) (blS.cs x).toArray 27 kr kr ?_;intro bn wB HC;refine yQ (S:=blS) (row:=[(rb,.cells cur 27)]) (Z:=[((gs1 0).b,blO b),((gs4 2).b,blO x)]) (some 43) 23 27 40 (.tmp 40) (.tmp 42) HC (.inr ⟨rb,cur,rfl,rfl,hrw⟩) kr kr kr kr kr (by omega) (by unfold maxLen;omega) ?_;intro b' cap' cur' wC HD hr';refine rp [.v] HD kr fun gsB wD HE=>wX []<|zk ?_;exact⟨kr,M1++ [x],d1,b',k+1,cap',cur',hsn.trans (by unfold yl;rw[if_neg (fun h=>e1 h.1)]),hr',(HE.as (l:=[(b',.cells cur' 27),((gs1 0).b,blO b),((gs4 2).b,blO x)]) kr).sub (QD [_,_] [_]),isK⟩
 ·clear H0 H1 H2 H3 Hi;rintro _ w4 ⟨M,d,rb,k,cap,cur,hs,hrw,H4,_,rfl⟩;have hk:M.length=k:=Rw.lenF (S:=blS) hrw;have hlen:M.length<=2*n:=by
   have h9:=xT b (V.take n);rw[hs,Qq]at h9;change M.length<=2*min n V.length at h9;omega
  rw[Qn (by omega)]at hs;refine wW<|zc kr<|qZ (Q:=fun e ρ ww=>e=.normal/\∃(rb k cap:Nat) (cur:Qd),Rw 3 cur cap k (zb blS (zA b V))/\St w.heap.size w ww [(rb,.cells cur 27),((gs1 0).b,blO b)]/\Is [(5,Qf rb k cap)] ρ) ?_ ?_
  ·cases d with
   | true=>
    have e9:zA b V=M:=by unfold zA;rw[hs];rfl
    refine rS [.v,.v] H4 kr fun gs5 w6 H6=>zm ?_;exact⟨rfl,rb,k,cap,cur,by rw[e9];exact hrw,H6.as kr,isK⟩
   | false=>
    have e9:zA b V=M++ [b]:=by unfold zA;rw[hs];rfl
    refine rS [.v,.v] H4 kr fun gs5 w6 H6=>zo<|yY [0,1,2,3,4] kr<|rp [.v,.l 1] H6 kr fun gsA wA HA=>wX [2,3,4] ?_;have HB:St w.heap.size w wA ((rb,.cells cur 27)::[((gs1 0).b,blO b)]):=HA.as kr;refine yj HB (some 49) (fun b=>Qf b 1 1) (blS.cs b).toArray 27 kr kr ?_;intro bn wB HC;refine yQ (S:=blS) (row:=[(rb,.cells cur 27)]) (Z:=[((gs1 0).b,blO b)]) (some 50) 23 27 40 (.tmp 47) (.tmp 49) HC (.inr ⟨rb,cur,rfl,rfl,hrw⟩) kr kr kr kr kr (by omega) (by unfold maxLen;omega) ?_;intro b' cap' cur' wC HD hr';refine rp [.v] HD kr fun gsB wD HE=>wX []<|zk ?_;exact⟨rfl,b',k+1,cap',cur',by rw[e9];exact hr',HE.as kr,isK⟩
  ·clear H4 hrw hk;rintro _ _ w6 ⟨rfl,rb,k,cap,cur,hrw,H6,_,rfl⟩;refine wW<|rS [.v,.v] H6 kr fun gs7 w7 H7=>rRr [.tmp 4] [] (Qf rb k cap) (yi w.heap.size w (jV blS 27 (zA b V))) H7 kr ?_;exact⟨_,⟨rb,k,cap,cur,rfl,rfl,hrw⟩,(H7.as (l:=[(rb,.cells cur 27),((gs1 0).b,blO b)]) kr).sub (QD [_] [_])⟩
theorem zaU (p:Qc)(n c:Nat)(L:Qi)(a:Qa)(add:Bool)(hL:L.length<=1000000):FnT Try.prog 27 #[.slice p n c,.string a,.bool add] (fun w=>AtF sS w p n L) (jV sS 9 (zL a add L)):=by
 refine FnT.intro (c:=zr Try.f27) [.tmp 6] 46 Try.func27 kr kr kr fun w hP=>?_;have hn:=hP.1;have H0:=St.start w;refine rS [.v] H0 kr fun gs1 w1 H1=>rS [.nw (fun b=>Qf b 0 0) #[] 9,.v] H1 kr fun gs2 w2 H2=>rS [.v,.v,.v] H2 kr fun gs3 w3 H3=>zc kr<|rS [.v,.v,.v] H3 kr fun gsi wi Hi=>ya 16 15 17 38 0 1 n (by omega) (fun i ρ ww=> ∃(M:Qi) (d:Bool) (rb k cap:Nat) (cur:Qd),ys a add (L.take i)=(M,d)/\Rw 1 cur cap k (zb sS M)/\St w.heap.size w ww [(rb,.cells cur 9)]/\Is [(1,.string a),(7,Qf rb k cap),(8,.bool d),(14,.slice p n c),(15,iN n),(16,iN i)] ρ) (by rintro i _ ww ⟨_,_,_,_,_,_,_,_,_,_,rfl⟩;exact⟨kr,kr⟩) ⟨[],!add,_,0,0,#[],rfl,⟨rfl,Qr _,QS _,rfl,rfl⟩,Hi.as (l:=[((gs2 0).b,.cells #[] 9 (0,0))]) kr,isK⟩ ?_ ?_
 ·clear H0 H1 H2 H3 Hi;rintro i _ w4 hi ⟨M,d,rb,k,cap,cur,hs,hrw,H4,_,rfl⟩;obtain⟨x,hx⟩:∃x,L[i]? =some x:=⟨_,Qj (by omega)⟩
  obtain⟨bl,off,C,T,fz,hp,hh,hR⟩:=hP.row2 (by omega);have hcx:C[off+i*1]? =some (.string x):=hR.cell hx 0 (by decide);have hk:M.length=k:=Rw.lenF (S:=sS) hrw;have hlen:M.length<=2*i:=by
   have h9:=xU a add (L.take i);rw[hs,Qq]at h9;change M.length<=2*min i L.length at h9;omega
  have hsn:ys a add (L.take (i+1))=ym a (zG a (M,d) x) x:=by rw[zY hx,zaQ,hs]
  refine rS [.o (ins:=[((.tmp 14),.slice p n c),((.tmp 16),iN i)]) (v:=.pointer (some ⟨bl,off+i*1,none⟩)) (fun ρ o w ho hi2=>zs (kd:=.i64) (t:=22) (e:=9) (K:=1) (bytes:=16) kr (x:=(.tmp 14)) (y:=(.tmp 16)) bl off n c i hp ho hi2.1 hi2.2.1 (by omega) w),.fs (off:=off+i*1) (v:=.string x) hh (zj hh) hcx,.v] H4 kr fun gs4 w5 H5=>zc kr<|qZ (Q:=fun e ρ ww=>e=.normal/\∃(M1:Qi) (d1:Bool) (rb k cap:Nat) (cur:Qd),zG a (M,d) x=(M1,d1)/\M1.length<=2*i+1/\Rw 1 cur cap k (zb sS M1)/\St w.heap.size w ww [(rb,.cells cur 9)]/\Is [(1,.string a),(7,Qf rb k cap),(8,.bool d1),(10,.string x),(14,.slice p n c),(15,iN n),(16,iN i)] ρ) ?_ ?_
  ·cases d with
   | true=>
    refine rS [.v,.v,.v,.n,.n,.n,.v] H5 kr fun gs5 w6 H6=>zm ?_;exact⟨rfl,M,true,rb,k,cap,cur,rfl,by omega,hrw,H6.as kr,isK⟩
   | false=>
    cases ea:ze (tl a) (tl x) with
    | false=>
     refine rS [.v,.v,.v,.v,.v,.E (.bool (!(Rb x.toList a.toList||x.toList==a.toList))) (.bool false) (za (by rw[jS,ea];rfl)),.v] H5 kr fun gs5 w6 H6=>zm ?_;exact⟨rfl,M,false,rb,k,cap,cur,by unfold zG;rw[ea];rfl,by omega,hrw,H6.as kr,isK⟩
    | true=>
     refine rS [.v,.v,.v,.v,.v,.E (.bool (!(Rb x.toList a.toList||x.toList==a.toList))) (.bool true) (za (by rw[jS,ea];rfl)),.v] H5 kr fun gs5 w6 H6=>zo<|zn [0,1,2,3,4] kr kr<|rp [.v,.v] H6 kr fun gsA wA HA=>wX [2,3,4] ?_;have HB:St w.heap.size w wA ((rb,.cells cur 9)::[]):=HA.as kr;refine yj HB (some 29) (fun b=>Qf b 1 1) (sS.cs a).toArray 9 kr kr ?_;intro bn wB HC;refine yQ (S:=sS) (row:=[(rb,.cells cur 9)]) (Z:=[]) (some 30) 22 9 16 (.tmp 27) (.tmp 29) HC (.inr ⟨rb,cur,rfl,rfl,hrw⟩) kr kr kr kr kr (by omega) (by unfold maxLen;omega) ?_;intro b' cap' cur' wC HD hr';refine rp [.v] HD kr fun gsB wD HE=>wX []<|zk<|rL [.v] HE kr fun gs7 w7 H7=>?_;exact⟨rfl,M++ [a],true,b',k+1,cap',cur',by unfold zG;rw[ea];rfl,by rw[Qx];show M.length+1<=_;omega,hr',H7.as kr,isK⟩
  ·clear H4 H5 hrw hk;rintro _ _ w6 ⟨rfl,M1,d1,rb,k,cap,cur,hT,hl1,hrw,H6,_,rfl⟩;have hk:M1.length=k:=Rw.lenF (S:=sS) hrw;rw[hT]at hsn;refine wW ?_;by_cases e1:x=a
   ·refine rS [.v,.v,.E (.bool (!(x.toList==a.toList))) (.bool false) (za (by rw[ye _ _ e1];rfl))] H6 kr fun gs7 w7 H7=>zm ?_;exact⟨kr,M1,d1,rb,k,cap,cur,hsn.trans (by unfold ym;rw[if_pos e1]),hrw,H7.as kr,isK⟩
   ·refine rS [.v,.v,.E (.bool (!(x.toList==a.toList))) (.bool true) (za (by rw[zX _ _ e1];rfl))] H6 kr fun gs7 w7 H7=>zo<|yY [0,1,2,3,4] kr<|rp [.v,.v] H7 kr fun gsA wA HA=>wX [2,3,4] ?_;have HB:St w.heap.size w wA ((rb,.cells cur 9)::[]):=HA.as kr;refine yj HB (some 36) (fun b=>Qf b 1 1) (sS.cs x).toArray 9 kr kr ?_;intro bn wB HC;refine yQ (S:=sS) (row:=[(rb,.cells cur 9)]) (Z:=[]) (some 37) 22 9 16 (.tmp 34) (.tmp 36) HC (.inr ⟨rb,cur,rfl,rfl,hrw⟩) kr kr kr kr kr (by omega) (by unfold maxLen;omega) ?_;intro b' cap' cur' wC HD hr';refine rp [.v] HD kr fun gsB wD HE=>wX []<|zk ?_;exact⟨kr,M1++ [x],d1,b',k+1,cap',cur',hsn.trans (by unfold ym;rw[if_neg e1]),hr',HE.as kr,isK⟩
 ·clear H0 H1 H2 H3 Hi;rintro _ w4 ⟨M,d,rb,k,cap,cur,hs,hrw,H4,_,rfl⟩;have hk:M.length=k:=Rw.lenF (S:=sS) hrw;have hlen:M.length<=2*n:=by
   have h9:=xU a add (L.take n);rw[hs,Qq]at h9;change M.length<=2*min n L.length at h9;omega
  rw[Qn (by omega)]at hs;refine wW<|zc kr<|qZ (Q:=fun e ρ ww=>e=.normal/\∃(rb k cap:Nat) (cur:Qd),Rw 1 cur cap k (zb sS (zL a add L))/\St w.heap.size w ww [(rb,.cells cur 9)]/\Is [(7,Qf rb k cap)] ρ) ?_ ?_
  ·cases d with
   | true=>
    have e9:zL a add L=M:=by unfold zL;rw[hs];rfl
    refine rS [.v,.v] H4 kr fun gs5 w6 H6=>zm ?_;exact⟨rfl,rb,k,cap,cur,by rw[e9];exact hrw,H6.as kr,isK⟩
   | false=>
    have e9:zL a add L=M++ [a]:=by unfold zL;rw[hs];rfl
    refine rS [.v,.v] H4 kr fun gs5 w6 H6=>zo<|yY [0,1,2,3,4] kr<|rp [.v,.v] H6 kr fun gsA wA HA=>wX [2,3,4] ?_;have HB:St w.heap.size w wA ((rb,.cells cur 9)::[]):=HA.as kr;refine yj HB (some 43) (fun b=>Qf b 1 1) (sS.cs a).toArray 9 kr kr ?_;intro bn wB HC;refine yQ (S:=sS) (row:=[(rb,.cells cur 9)]) (Z:=[]) (some 44) 22 9 16 (.tmp 41) (.tmp 43) HC (.inr ⟨rb,cur,rfl,rfl,hrw⟩) kr kr kr kr kr (by omega) (by unfold maxLen;omega) ?_;intro b' cap' cur' wC HD hr';refine rp [.v] HD kr fun gsB wD HE=>wX []<|zk ?_;exact⟨rfl,b',k+1,cap',cur',by rw[e9];exact hr',HE.as kr,isK⟩
  ·clear H4 hrw hk;rintro _ _ w6 ⟨rfl,rb,k,cap,cur,hrw,H6,_,rfl⟩;refine wW<|rS [.v,.v] H6 kr fun gs7 w7 H7=>rRr [.tmp 6] [] (Qf rb k cap) (yi w.heap.size w (jV sS 9 (zL a add L))) H7 kr ?_;exact⟨_,⟨rb,k,cap,cur,rfl,rfl,hrw⟩,H7.as kr⟩
theorem qd {α:Type}{S:Fl α}{w:World}{b n cap:Nat}{cur:Qd}{T:TypeId}{M:List α}(hr:Rw S.K cur cap n (zb S M))(h:w.heap[b]? =some (.cells cur T)):AtF S w (Qg b) n M:=⟨(Rw.lenF (S:=S) hr).symm,.inr ⟨b,0,cur,T,(0,0),rfl,h,hr.rowAt⟩⟩
theorem zaV {α:Type}{S:Fl α}{ty:TypeId}{p:Qc}{n c:Nat}{row:Qb}{L:List α}(h:zw S ty p n c row L):L.length=n:=by
 rcases h with⟨_,rfl,_,_,rfl⟩|⟨b,cur,_,_,hrw⟩
 ·rfl
 ·exact Rw.lenF (S:=S) hrw
theorem qC {α:Type}{f:α->Bool}{W:List α}{i:Nat}{x:α}(h:W[i]? =some x):(W.take (i+1)).filter f=(W.take i).filter f++if f x=true then [x] else []:=by
 rw[zY h,Q6];congr 1;by_cases e:f x=true
 ·rw[if_pos e,RC e];rfl
 ·rw[if_neg e,Ra e];rfl
theorem vI {α:Type}(f:α->Bool)(W:List α)(i:Nat):((W.take i).filter f).length<=W.length:=by
 have h1:=Rq f (W.take i);rw[Qq]at h1;omega
theorem zaW (b:Bal)(V:List Bal):(zA b V).length<=2*V.length+1:=by
 have h:=xT b V;unfold zA;split
 ·omega
 ·rw[Qx];show (yy b V).1.length+1<=_;omega
theorem zaX (a:Qa)(add:Bool)(L:Qi):(zL a add L).length<=2*L.length+1:=by
 have h:=xU a add L;unfold zL;split
 ·omega
 ·rw[Qx];show (ys a add L).1.length+1<=_;omega
def qQ {α:Type}(S:Fl α)(ty:TypeId)(q0:Qc)(m0 c0:Nat)(L0:List α)(q:Qc)(m c:Nat)(T:Qb)(L:List α):Prop:=(T=[]/\q=q0/\m=m0/\c=c0/\L=L0)\/zw S ty q m c T L
def zQ (q0:Qc)(m0 cq0:Nat)(L0:Qi)(p0:Qc)(n0 c0:Nat)(V0:List Bal)(r:Qi×List Bal×Nat)(v:Value)(T:Qb):Prop:=
 ∃(q:Qc) (m cq:Nat) (p:Qc) (n c:Nat) (T1 T2:Qb),v=.tuple #[snV q m cq p n c,.int .i64 ((r.2.2:Nat):Int)]/\T=T1++T2/\qQ sS 9 q0 m0 cq0 L0 q m cq T1 r.1/\qQ blS 27 p0 n0 c0 V0 p n c T2 r.2.1
theorem zQ.no {q0:Qc}{m0 cq0:Nat}{L0:Qi}{p0:Qc}{n0 c0:Nat}{V0:List Bal}{e:Nat} :zQ q0 m0 cq0 L0 p0 n0 c0 V0 ([],[],e) (.tuple #[snV none 0 0 none 0 0,.int .i64 (e:Int)]) []:=
 ⟨none,0,0,none,0,0,[],[],rfl,rfl,.inr (.inl ⟨rfl,rfl,rfl,rfl,rfl⟩),.inr (.inl ⟨rfl,rfl,rfl,rfl,rfl⟩)⟩
def vJ (L:Qi)(V:List Bal)(b:Bal):Qi×List Bal×Nat:=
 if 2*zf b (zA b V)<=L.length then (L,zA b V,0)
 else (zL b.2.1 b.2.2 L,((zA b V).filter (zM b)).filter (fun x=>b.2.2||decide (2*zf x ((zA b V).filter (zM b))<=(zL b.2.1 b.2.2 L).length)),0)
theorem zaY (q:Qc)(m cq:Nat)(L:Qi)(p:Qc)(n c:Nat)(V:List Bal)(b:Bal)(hL:L.length<=100000)(hV:V.length<=100000):FnT Try.prog 9 #[snV q m cq p n c,blV b] (fun w=>zD w L V q m p n) (zQ q m cq L p n c V (zC L V b)):=by
 refine FnT.intro (c:=zr Try.f9) [.cell 4 25,.tmp 5] 122 Try.func9 kr kr kr fun w hP=>?_;obtain⟨hS,hVV⟩:=hP;have hm:=hS.1;have hn:=hVV.1;have hright:=vD q m cq L p n c V (by omega) (by omega);have hf:=vC q m cq L b (by omega);have H0:=St.start w;refine rS [.b,.b,.a,.v] H0 kr fun gs1 w1 H1=>?_;have go: ∀(ρ:Env) (ww:World),zC L V b=vJ L V b->St w.heap.size w ww [((gs1 0).b,snO q m cq p n c),((gs1 1).b,blO b),((gs1 2).b,snO none 0 0 none 0 0)]->Is [(2,Qe (gs1 0).b),(3,Qe (gs1 1).b),(4,Qe (gs1 2).b)] ρ->WP Try.prog 122 (yn (yn (yn (zr Try.f9)))) (yD Try.prog [.cell 4 25,.tmp 5] (yi w.heap.size w (zQ q m cq L p n c V (zC L V b)))) ρ ww:=by
  clear H0 H1 hright hf;rintro _ w3 hX H3 ⟨_,rfl⟩;refine zn [0,1,2,3,4] kr kr<|rp [.v,.l 0,.l 1] H3 kr fun gs3 w4 H4=>wX [3,4] ?_;have H5:St w.heap.size w w4 [((gs1 0).b,snO q m cq p n c),((gs1 1).b,blO b),((gs1 2).b,snO none 0 0 none 0 0)]:=H4.as kr;refine qj H5 (some 47) 26 #[.slice p n c,blV b] (zaT p n c V b (by omega)) (hVV.call H5.below) kr kr ?_;rintro _ _ w5 ⟨vb,vk,vcap,vcur,rfl,rfl,hvrw⟩ H6;refine rp [.v] H6 kr fun gs4 w6 H7=>wX []<|zk<|wW<|zc kr ?_;have hvl:=zaW b V;unfold vJ at hX;generalize zA b V=W at*;have hvk:W.length=vk:=Rw.lenF (S:=blS) hvrw;have hc:=jU (Qg vb) vk vcap W b (by omega);have hcl:=qN b W;have H8:St w.heap.size w w6 [(vb,.cells vcur 27),((gs1 0).b,snO q m cq p n c),((gs1 1).b,blO b),((gs1 2).b,snO none 0 0 none 0 0)]:=H7.as kr;by_cases h2:2*zf b W<=L.length
  ·refine dS [.v,.l 2,.cp (pre:=fun w=>AtF blS w (Qg vb) vk W) hc [(0,((vb,.cells vcur 27)))] (fun w hb hd=>qd (S:=blS) hvrw hd.1),.E (.int .i64 (Qm.wrap (2*(((zf b W):Nat):Int)))) (iN (2*zf b W)) (zg (yp (a:=2) (b:=zf b W) (by omega))),.v,.l 1,.v,.E (.bool (decide (((2*zf b W:Nat):Int)<=(m:Int)))) (.bool true) (za (decide_eq_true (by omega)))] H8 kr fun w7 H9=>zo<|rS [.v,.l 1,.v,.v,.s 3,.v] H9 kr fun gs5 w8 H10=>rRr [.cell 4 25,.tmp 5] [3] (.tuple #[snV q m cq (Qg vb) vk vcap,.int .i64 0]) (yi w.heap.size w (zQ q m cq L p n c V (zC L V b))) H10 kr ?_;rw[hX.trans (if_pos h2)];exact⟨_,⟨q,m,cq,_,vk,vcap,[],[(vb,.cells vcur 27)],rfl,rfl,.inl ⟨rfl,rfl,rfl,rfl,rfl⟩,.inr (.inr ⟨vb,vcur,rfl,rfl,hvrw⟩)⟩,(H10.as (l:=[(vb,.cells vcur 27),((gs1 0).b,snO q m cq p n c),((gs1 1).b,blO b),((gs1 2).b,snO q m cq (Qg vb) vk vcap)]) kr).sub (QD [_] [_,_,_])⟩
  ·refine dS [.v,.l 2,.cp (pre:=fun w=>AtF blS w (Qg vb) vk W) hc [(0,((vb,.cells vcur 27)))] (fun w hb hd=>qd (S:=blS) hvrw hd.1),.E (.int .i64 (Qm.wrap (2*(((zf b W):Nat):Int)))) (iN (2*zf b W)) (zg (yp (a:=2) (b:=zf b W) (by omega))),.v,.l 1,.v,.E (.bool (decide (((2*zf b W:Nat):Int)<=(m:Int)))) (.bool false) (za (decide_eq_false (by omega)))] H8 kr fun w7 H9=>zm<|wW<|rS [.nw (fun b=>Qf b 0 0) #[] 27,.v] H9 kr fun gs5 w8 H10=>zc kr<|rS [.v,.v,.v] H10 kr fun gs6 w9 H11=>?_
   replace hX:=hX.trans (if_neg h2)
   have H11':St w.heap.size w w9 ([((gs5 0).b,.cells #[] 27 (0,0))]++ [(vb,.cells vcur 27),((gs1 0).b,snO q m cq p n c),((gs1 1).b,blO b),((gs1 2).b,snO none 0 0 none 0 0)]):=(H11.as (l:=[(vb,.cells vcur 27),((gs1 0).b,snO q m cq p n c),((gs1 1).b,blO b),((gs1 2).b,snO none 0 0 none 0 0)]++ [((gs5 0).b,.cells #[] 27 (0,0))]) kr).perm QU;refine ya 63 62 64 87 0 1 vk (by omega) (fun i ρ ww=> ∃(lb k cap:Nat) (cur:Qd),Rw 3 cur cap k (zb blS ((W.take i).filter (zM b)))/\St w.heap.size w ww [(lb,.cells cur 27),(vb,.cells vcur 27),((gs1 0).b,snO q m cq p n c),((gs1 1).b,blO b),((gs1 2).b,snO none 0 0 none 0 0)]/\Is [(2,Qe (gs1 0).b),(3,Qe (gs1 1).b),(4,Qe (gs1 2).b),(7,Qf lb k cap),(61,Qf vb vk vcap),(62,iN vk),(63,iN i)] ρ) (by rintro i _ ww ⟨_,_,_,_,_,_,_,rfl⟩;exact⟨kr,kr⟩) ⟨(gs5 0).b,0,0,#[],⟨rfl,Qr _,QS _,rfl,rfl⟩,H11',isK⟩ ?_ ?_
   ·clear H3 H4 H5 H6 H7 H8 H9 H10 H11;rintro i _ w11 hi ⟨lb,k,cap,cur,hrw,H11,_,rfl⟩;obtain⟨x,hx⟩:∃x,W[i]? =some x:=⟨_,Qj (by omega)⟩
    have hat:=hvrw.rowAt (S:=blS) i x hx;have hk:((W.take i).filter (zM b)).length=k:=Rw.lenF (S:=blS) hrw;have hk2:=vI (zM b) W i;generalize hM:(W.take i).filter (zM b)=M at hrw hk hk2;refine rS [.o (ins:=[((.tmp 61),Qf vb vk vcap),((.tmp 63),iN i)]) (v:=.pointer (some ⟨vb,0+i*3,none⟩)) (fun ρ o w ho hi2=>zs (kd:=.i64) (t:=23) (e:=27) (K:=3) (bytes:=40) kr (x:=(.tmp 61)) (y:=(.tmp 63)) vb 0 vk vcap i rfl ho hi2.1 hi2.2.1 (by omega) w),.lp 1 (C:=vcur) (off:=0+i*3) (n:=3) (W:=blC x) hat.1 hat.2,.a,.s 5] H11 kr fun gs8 w12 H12=>?_;by_cases e1:x.2.1=b.2.1
    ·have hst: ¬zM b x=true:=by unfold zM;rw[decide_eq_false (fun h=>h e1)];exact QF
     refine rS [.v,.l 5,.v,.l 3,.E (.bool (!(x.2.1.toList==b.2.1.toList))) (.bool false) (za (by rw[ye _ _ e1];rfl)),.v,.n,.n,.n,.n,.n,.n,.n,.n,.n,.v] H12 kr fun gs9 w13 H13=>zm ?_;exact⟨kr,lb,k,cap,cur,by rw[qC hx,if_neg hst,hM,Rg];exact hrw,(H13.as (l:=[(lb,.cells cur 27),(vb,.cells vcur 27),((gs1 0).b,snO q m cq p n c),((gs1 1).b,blO b),((gs1 2).b,snO none 0 0 none 0 0),((gs8 2).b,blO x)]) kr).sub (QD [_,_,_,_,_] [_]),isK⟩
    ·by_cases hb2:b.2.2=true
     ·have hst:zM b x=true:=by unfold zM;rw[decide_eq_true e1,hb2];rfl
      refine rS [.v,.l 5,.v,.l 3,.E (.bool (!(x.2.1.toList==b.2.1.toList))) (.bool true) (za (by rw[zX _ _ e1];rfl)),.v,.v,.l 3,.E (.bool b.2.2) (.bool true) (za hb2),.n,.n,.n,.n,.n,.v,.v] H12 kr fun gs9 w13 H13=>zo<|yY [0,1,2,3,4] kr<|rp [.v,.l 5] H13 kr fun gsA wA HA=>wX [2,3,4] ?_;have HB:St w.heap.size w wA ((lb,.cells cur 27)::[(vb,.cells vcur 27),((gs1 0).b,snO q m cq p n c),((gs1 1).b,blO b),((gs1 2).b,snO none 0 0 none 0 0),((gs8 2).b,blO x)]):=HA.as kr;refine yj HB (some 85) (fun b=>Qf b 1 1) (blS.cs x).toArray 27 kr kr ?_;intro bn wB HC;refine yQ (S:=blS) (row:=[(lb,.cells cur 27)]) (Z:=[(vb,.cells vcur 27),((gs1 0).b,snO q m cq p n c),((gs1 1).b,blO b),((gs1 2).b,snO none 0 0 none 0 0),((gs8 2).b,blO x)]) (some 86) 23 27 40 (.tmp 83) (.tmp 85) HC (.inr ⟨lb,cur,rfl,rfl,hrw⟩) kr kr kr kr kr (by omega) (by unfold maxLen;omega) ?_;intro b' cap' cur' wC HD hr';refine rp [.v] HD kr fun gsB wD HE=>wX []<|zk ?_;exact⟨kr,b',k+1,cap',cur',by rw[qC hx,if_pos hst,hM];exact hr',(HE.as (l:=[(b',.cells cur' 27),(vb,.cells vcur 27),((gs1 0).b,snO q m cq p n c),((gs1 1).b,blO b),((gs1 2).b,snO none 0 0 none 0 0),((gs8 2).b,blO x)]) kr).sub (QD [_,_,_,_,_] [_]),isK⟩
     ·replace hb2:=QX.2 hb2
      by_cases e2:x.1=b.2.1
      ·have hst: ¬zM b x=true:=by unfold zM;rw[decide_eq_true e1,hb2,decide_eq_false (fun h=>h e2)];exact QF
       refine rS [.v,.l 5,.v,.l 3,.E (.bool (!(x.2.1.toList==b.2.1.toList))) (.bool true) (za (by rw[zX _ _ e1];rfl)),.v,.v,.l 3,.E (.bool b.2.2) (.bool false) (za hb2),.v,.l 5,.v,.l 3,.E (.bool (!(x.1.toList==b.2.1.toList))) (.bool false) (za (by rw[ye _ _ e2];rfl)),.v,.v] H12 kr fun gs9 w13 H13=>zm ?_;exact⟨kr,lb,k,cap,cur,by rw[qC hx,if_neg hst,hM,Rg];exact hrw,(H13.as (l:=[(lb,.cells cur 27),(vb,.cells vcur 27),((gs1 0).b,snO q m cq p n c),((gs1 1).b,blO b),((gs1 2).b,snO none 0 0 none 0 0),((gs8 2).b,blO x)]) kr).sub (QD [_,_,_,_,_] [_]),isK⟩
      ·have hst:zM b x=true:=by unfold zM;rw[decide_eq_true e1,hb2,decide_eq_true e2];rfl
       refine rS [.v,.l 5,.v,.l 3,.E (.bool (!(x.2.1.toList==b.2.1.toList))) (.bool true) (za (by rw[zX _ _ e1];rfl)),.v,.v,.l 3,.E (.bool b.2.2) (.bool false) (za hb2),.v,.l 5,.v,.l 3,.E (.bool (!(x.1.toList==b.2.1.toList))) (.bool true) (za (by rw[zX _ _ e2];rfl)),.v,.v] H12 kr fun gs9 w13 H13=>zo<|yY [0,1,2,3,4] kr<|rp [.v,.l 5] H13 kr fun gsA wA HA=>wX [2,3,4] ?_;have HB:St w.heap.size w wA ((lb,.cells cur 27)::[(vb,.cells vcur 27),((gs1 0).b,snO q m cq p n c),((gs1 1).b,blO b),((gs1 2).b,snO none 0 0 none 0 0),((gs8 2).b,blO x)]):=HA.as kr;refine yj HB (some 85) (fun b=>Qf b 1 1) (blS.cs x).toArray 27 kr kr ?_;intro bn wB HC;refine yQ (S:=blS) (row:=[(lb,.cells cur 27)]) (Z:=[(vb,.cells vcur 27),((gs1 0).b,snO q m cq p n c),((gs1 1).b,blO b),((gs1 2).b,snO none 0 0 none 0 0),((gs8 2).b,blO x)]) (some 86) 23 27 40 (.tmp 83) (.tmp 85) HC (.inr ⟨lb,cur,rfl,rfl,hrw⟩) kr kr kr kr kr (by omega) (by unfold maxLen;omega) ?_;intro b' cap' cur' wC HD hr';refine rp [.v] HD kr fun gsB wD HE=>wX []<|zk ?_;exact⟨kr,b',k+1,cap',cur',by rw[qC hx,if_pos hst,hM];exact hr',(HE.as (l:=[(b',.cells cur' 27),(vb,.cells vcur 27),((gs1 0).b,snO q m cq p n c),((gs1 1).b,blO b),((gs1 2).b,snO none 0 0 none 0 0),((gs8 2).b,blO x)]) kr).sub (QD [_,_,_,_,_] [_]),isK⟩
   ·clear H3 H4 H5 H6 H7 H8 H9 H10 H11;rintro _ w11 ⟨lb,lk,lcap,lcur,hlrw,H11,_,rfl⟩;rw[Qn (by omega)]at hlrw;have hfl:=Rq (zM b) W;generalize W.filter (zM b)=F at*;have hlk:F.length=lk:=Rw.lenF (S:=blS) hlrw;refine wW<|zn [0,1,2,3,4,5,6,7,8,9] kr kr<|rp [.v,.l 2,.v,.l 3,.v,.l 3] H11 kr fun gs7 w12 H12=>wX [6,7,8,9] ?_;have H13:St w.heap.size w w12 [(lb,.cells lcur 27),(vb,.cells vcur 27),((gs1 0).b,snO q m cq p n c),((gs1 1).b,blO b),((gs1 2).b,snO none 0 0 none 0 0)]:=H12.as kr;refine qj H13 (some 94) 27 #[.slice q m cq,.string b.2.1,.bool b.2.2] (zaU q m cq L b.2.1 b.2.2 (by omega)) (hS.call H13.below) kr kr ?_;rintro _ _ w13 ⟨nb,nk,ncap,ncur,rfl,rfl,hnrw⟩ H14;have hnk:(zL b.2.1 b.2.2 L).length=nk:=Rw.lenF (S:=sS) hnrw;have hnl:=zaX b.2.1 b.2.2 L;refine rp [.v,.a,.s 6] H14 kr fun gs8 w14 H15=>wX []<|zk<|wW<|zc kr<|rS [.v,.v,.v] H15 kr fun gs9 w15 H16=>?_;obtain⟨ob,hob⟩:∃z,(gs8 1).b=z:=⟨_,rfl⟩
    have H17:St w.heap.size w w15 [(nb,.cells ncur 9),(lb,.cells lcur 27),(vb,.cells vcur 27),((gs1 0).b,snO q m cq p n c),((gs1 1).b,blO b),((gs1 2).b,snO none 0 0 none 0 0),(ob,snO (Qg nb) nk ncap none 0 0)]:=H16.as (by rw[<-hob];kernel_rfl);have H18:St w.heap.size w w15 [(ob,snO (Qg nb) nk ncap none 0 0),(nb,.cells ncur 9),(lb,.cells lcur 27),((gs1 1).b,blO b),((gs1 2).b,snO none 0 0 none 0 0)]:=(H17.perm (QU (l₁:=[(ob,snO (Qg nb) nk ncap none 0 0)]) (l₂:=[(nb,.cells ncur 9),(lb,.cells lcur 27),(vb,.cells vcur 27),((gs1 0).b,snO q m cq p n c),((gs1 1).b,blO b),((gs1 2).b,snO none 0 0 none 0 0)]))).sub (.cons_cons _ (.cons_cons _ (.cons_cons _ (.cons _ (.cons _ (.refl _))))));refine ya 98 97 99 120 2 3 lk (by omega) (fun i ρ ww=> ∃(po:Qc) (no co:Nat) (To:Qb),zw blS 27 po no co To ((F.take i).filter (fun x=>b.2.2||decide (2*zf x F<=(zL b.2.1 b.2.2 L).length)))/\St w.heap.size w ww ((ob,snO (Qg nb) nk ncap po no co)::(nb,.cells ncur 9)::(lb,.cells lcur 27)::((gs1 1).b,blO b)::((gs1 2).b,snO none 0 0 none 0 0)::To)/\Is [(3,Qe (gs1 1).b),(4,Qe (gs1 2).b),(7,Qf lb lk lcap),(10,Qe ob),(96,Qf lb lk lcap),(97,iN lk),(98,iN i)] ρ) (by rintro i _ ww ⟨_,_,_,_,_,_,_,rfl⟩;exact⟨kr,kr⟩) ⟨none,0,0,[],.inl ⟨rfl,rfl,rfl,rfl,rfl⟩,H18,by rw[<-hob];exact isK⟩ ?_ ?_
    ·clear H11 H12 H13 H14 H15 H16 H17 H18;rintro i _ w16 hi ⟨po,no,co,To,hrow,H17,_,rfl⟩;obtain⟨x,hx⟩:∃x,F[i]? =some x:=⟨_,Qj (by omega)⟩
     have hat:=hlrw.rowAt (S:=blS) i x hx;have hk:=zaV hrow;have hk2:=vI (fun x=>b.2.2||decide (2*zf x F<=(zL b.2.1 b.2.2 L).length)) F i;have hcx:=qN x F;have hc2:=jU (Qg lb) lk lcap F x (by omega);refine zn [0,1,2,3] kr kr<|rp [.o (ins:=[((.tmp 96),Qf lb lk lcap),((.tmp 98),iN i)]) (v:=.pointer (some ⟨lb,0+i*3,none⟩)) (fun ρ o w ho hi2=>zs (kd:=.i64) (t:=23) (e:=27) (K:=3) (bytes:=40) kr (x:=(.tmp 96)) (y:=(.tmp 98)) lb 0 lk lcap i rfl ho hi2.1 hi2.2.1 (by omega) w),.lp 2 (C:=lcur) (off:=0+i*3) (n:=3) (W:=blC x) hat.1 hat.2] H17 kr fun gs10 w17 H18=>wX [2,3] ?_;have H18':St w.heap.size w w17 ((ob,snO (Qg nb) nk ncap po no co)::(nb,.cells ncur 9)::(lb,.cells lcur 27)::((gs1 1).b,blO b)::((gs1 2).b,snO none 0 0 none 0 0)::To):=H18.as kr;refine yF H18' (some 12) 27 (.agg #[.string em,.string em,.bool false]) kr kr kr ?_;intro xb w18 H19;refine rp [.s 0] H19 kr fun gs10 w19 H19=>wX []<|zk<|wW ?_;have H19':St w.heap.size w w19 ((xb,blO x)::(ob,snO (Qg nb) nk ncap po no co)::(nb,.cells ncur 9)::(lb,.cells lcur 27)::((gs1 1).b,blO b)::((gs1 2).b,snO none 0 0 none 0 0)::To):=H19.as kr;by_cases hb2:b.2.2=true
     ·refine dS [.v,.l 4,.E (.bool b.2.2) (.bool true) (za hb2),.n,.n,.n,.n,.n,.n,.n,.n,.v] H19' kr fun w20 H20=>zo<|yY [0,1,2,3,4,5,6] kr<|rp [.v,.l 1,.l 0] H20 kr fun gs11 w21 H21=>wX [3,4,5,6] ?_;have H22:St w.heap.size w w21 ((xb,blO x)::(ob,snO (Qg nb) nk ncap po no co)::(nb,.cells ncur 9)::(lb,.cells lcur 27)::((gs1 1).b,blO b)::((gs1 2).b,snO none 0 0 none 0 0)::To):=H21.as kr;refine yj H22 (some 117) (fun b=>Qf b 1 1) (blS.cs x).toArray 27 kr kr ?_;intro bn w22 H23;refine yQ (S:=blS) (some 118) 23 27 40 (.tmp 115) (.tmp 117) (H23.perm (List.Perm.cons _ (QU (l₁:=To) (l₂:=[(xb,blO x),(ob,snO (Qg nb) nk ncap po no co),(nb,.cells ncur 9),(lb,.cells lcur 27),((gs1 1).b,blO b),((gs1 2).b,snO none 0 0 none 0 0)])))) hrow kr kr kr kr kr (by omega) (by unfold maxLen;omega) ?_;intro b' cap' cur' w23 H24 hr';refine rp [.v,.s 2] H24 kr fun gs12 w24 H25=>wX []<|zk ?_;have H26:St w.heap.size w w24 [(b',.cells cur' 27),(xb,blO x),(ob,snO (Qg nb) nk ncap (Qg b') (no+1) cap'),(nb,.cells ncur 9),(lb,.cells lcur 27),((gs1 1).b,blO b),((gs1 2).b,snO none 0 0 none 0 0)]:=H25.as kr;exact⟨kr,Qg b',no+1,cap',[(b',.cells cur' 27)],.inr ⟨b',cur',rfl,rfl,by rw[qC hx,if_pos (by show (b.2.2||_)=true;rw[hb2];rfl)];exact hr'⟩,(H26.perm (QU (l₁:=[(xb,blO x),(ob,snO (Qg nb) nk ncap (Qg b') (no+1) cap'),(nb,.cells ncur 9),(lb,.cells lcur 27),((gs1 1).b,blO b),((gs1 2).b,snO none 0 0 none 0 0)]) (l₂:=[(b',.cells cur' 27)]))).sub (Qu _ _),isK⟩
     ·replace hb2:=QX.2 hb2
      by_cases h3:2*zf x F<=nk
      ·refine dS [.v,.l 4,.E (.bool b.2.2) (.bool false) (za hb2),.v,.l 0,.cp (pre:=fun w=>AtF blS w (Qg lb) lk F) hc2 [(3,((lb,.cells lcur 27)))] (fun w hb hd=>qd (S:=blS) hlrw hd.1),.E (.int .i64 (Qm.wrap (2*(((zf x F):Nat):Int)))) (iN (2*zf x F)) (zg (yp (a:=2) (b:=zf x F) (by omega))),.v,.l 1,.v,.E (.bool (decide (((2*zf x F:Nat):Int)<=(nk:Int)))) (.bool true) (za (decide_eq_true (by omega))),.v] H19' kr fun w20 H20=>zo<|yY [0,1,2,3,4,5,6] kr<|rp [.v,.l 1,.l 0] H20 kr fun gs11 w21 H21=>wX [3,4,5,6] ?_;have H22:St w.heap.size w w21 ((xb,blO x)::(ob,snO (Qg nb) nk ncap po no co)::(nb,.cells ncur 9)::(lb,.cells lcur 27)::((gs1 1).b,blO b)::((gs1 2).b,snO none 0 0 none 0 0)::To):=H21.as kr;refine yj H22 (some 117) (fun b=>Qf b 1 1) (blS.cs x).toArray 27 kr kr ?_;intro bn w22 H23;refine yQ (S:=blS) (some 118) 23 27 40 (.tmp 115) (.tmp 117) (H23.perm (List.Perm.cons _ (QU (l₁:=To) (l₂:=[(xb,blO x),(ob,snO (Qg nb) nk ncap po no co),(nb,.cells ncur 9),(lb,.cells lcur 27),((gs1 1).b,blO b),((gs1 2).b,snO none 0 0 none 0 0)])))) hrow kr kr kr kr kr (by omega) (by unfold maxLen;omega) ?_;intro b' cap' cur' w23 H24 hr';refine rp [.v,.s 2] H24 kr fun gs12 w24 H25=>wX []<|zk ?_;have H26:St w.heap.size w w24 [(b',.cells cur' 27),(xb,blO x),(ob,snO (Qg nb) nk ncap (Qg b') (no+1) cap'),(nb,.cells ncur 9),(lb,.cells lcur 27),((gs1 1).b,blO b),((gs1 2).b,snO none 0 0 none 0 0)]:=H25.as kr;exact⟨kr,Qg b',no+1,cap',[(b',.cells cur' 27)],.inr ⟨b',cur',rfl,rfl,by rw[qC hx,if_pos (by show (b.2.2||decide _)=true;rw[decide_eq_true (show 2*zf x F<=(zL b.2.1 b.2.2 L).length by omega),hb2];rfl)];exact hr'⟩,(H26.perm (QU (l₁:=[(xb,blO x),(ob,snO (Qg nb) nk ncap (Qg b') (no+1) cap'),(nb,.cells ncur 9),(lb,.cells lcur 27),((gs1 1).b,blO b),((gs1 2).b,snO none 0 0 none 0 0)]) (l₂:=[(b',.cells cur' 27)]))).sub (Qu _ _),isK⟩
      ·refine dS [.v,.l 4,.E (.bool b.2.2) (.bool false) (za hb2),.v,.l 0,.cp (pre:=fun w=>AtF blS w (Qg lb) lk F) hc2 [(3,((lb,.cells lcur 27)))] (fun w hb hd=>qd (S:=blS) hlrw hd.1),.E (.int .i64 (Qm.wrap (2*(((zf x F):Nat):Int)))) (iN (2*zf x F)) (zg (yp (a:=2) (b:=zf x F) (by omega))),.v,.l 1,.v,.E (.bool (decide (((2*zf x F:Nat):Int)<=(nk:Int)))) (.bool false) (za (decide_eq_false (by omega))),.v] H19' kr fun w20 H20=>zm ?_;exact⟨kr,po,no,co,To,by rw[qC hx,if_neg (by show ¬(b.2.2||decide _)=true;rw[decide_eq_false (show ¬2*zf x F<=(zL b.2.1 b.2.2 L).length by omega),hb2];exact QF),Rg];exact hrow,(H20.as (l:=(xb,blO x)::(ob,snO (Qg nb) nk ncap po no co)::(nb,.cells ncur 9)::(lb,.cells lcur 27)::((gs1 1).b,blO b)::((gs1 2).b,snO none 0 0 none 0 0)::To) kr).sub (Qu _ _),isK⟩
    ·clear H11 H12 H13 H14 H15 H16 H17 H18;rintro _ w16 ⟨po,no,co,To,hrow,H17,_,rfl⟩;rw[Qn (by omega)]at hrow;refine wW<|rS [.l 0,.s 4,.v] H17 kr fun gs10 w17 H18=>rRr [.cell 4 25,.tmp 5] [4] (.tuple #[snV (Qg nb) nk ncap po no co,.int .i64 0]) (yi w.heap.size w (zQ q m cq L p n c V (zC L V b))) H18 kr ?_;rw[hX];exact⟨_,⟨_,nk,ncap,po,no,co,[(nb,.cells ncur 9)],To,rfl,rfl,.inr (.inr ⟨nb,ncur,rfl,rfl,hnrw⟩),.inr hrow⟩,(H18.as (l:=(ob,snO (Qg nb) nk ncap po no co)::(nb,.cells ncur 9)::(lb,.cells lcur 27)::((gs1 1).b,blO b)::((gs1 2).b,snO (Qg nb) nk ncap po no co)::To) kr).sub (.cons _ (.cons_cons _ (.cons _ (.cons _ (.cons _ (.refl _))))))⟩
 refine zc kr ?_;cases hr:zE L V with
 | false=>
  rw[hr]at hright;refine rS [.l 0,.cp (pre:=fun w=>zD w L V q m p n) hright [] (fun w hb hd=>⟨hS.call hb,hVV.call hb⟩),.v] H1 kr fun gs2 w2 H2=>zo<|rS [.v,.s 2,.v] H2 kr fun gs3 w3 H3=>rRr [.cell 4 25,.tmp 5] [2] (.tuple #[snV none 0 0 none 0 0,.int .i64 1]) (yi w.heap.size w (zQ q m cq L p n c V (zC L V b))) H3 kr ?_;rw[show zC L V b=([],[],1) by unfold zC;rw[if_pos hr]];exact⟨_,zQ.no (e:=1),H3.sub (RD _)⟩
 | true=>
  rw[hr]at hright;refine rS [.l 0,.cp (pre:=fun w=>zD w L V q m p n) hright [] (fun w hb hd=>⟨hS.call hb,hVV.call hb⟩),.v] H1 kr fun gs2 w2 H2=>zm<|wW<|zc kr ?_;cases ef:zI L b with
  | false=>
   rw[ef]at hf;refine rS [.v,.l 0,.l 1,.cp (pre:=fun w=>AtF sS w q m L) hf [] (fun w hb hd=>hS.call hb),.v,.v,.n,.n,.n,.n,.n,.n,.n,.n,.v,.v,.n,.n,.n,.n,.n,.n,.n,.n,.n,.v] H2 kr fun gs3 w3 H3=>zo<|rS [.v,.s 2,.v] H3 kr fun gs4 w4 H4=>rRr [.cell 4 25,.tmp 5] [2] (.tuple #[snV none 0 0 none 0 0,.int .i64 44]) (yi w.heap.size w (zQ q m cq L p n c V (zC L V b))) H4 kr ?_;rw[show zC L V b=([],[],44) by unfold zC;rw[if_neg (by rw[hr];decide),if_pos (.inl ef)]];exact⟨_,zQ.no (e:=44),H4.sub (RD _)⟩
  | true=>
   rw[ef]at hf;have efn: ¬zI L b=false:=by rw[ef];decide
   by_cases hb2:b.2.2=true
   ·have hb3: ¬b.2.2=false:=by rw[hb2];decide
    by_cases h16:16<=L.length
    ·refine rS [.v,.l 0,.l 1,.cp (pre:=fun w=>AtF sS w q m L) hf [] (fun w hb hd=>hS.call hb),.v,.v,.v,.l 1,.E (.bool b.2.2) (.bool true) (za hb2),.v,.l 0,.v,.E (.bool (decide ((m:Int)≥16))) (.bool true) (za (decide_eq_true (by omega))),.v,.v,.v,.n,.n,.n,.n,.n,.n,.n,.n,.n,.v] H2 kr fun gs3 w3 H3=>zo<|rS [.v,.s 2,.v] H3 kr fun gs4 w4 H4=>rRr [.cell 4 25,.tmp 5] [2] (.tuple #[snV none 0 0 none 0 0,.int .i64 44]) (yi w.heap.size w (zQ q m cq L p n c V (zC L V b))) H4 kr ?_;rw[show zC L V b=([],[],44) by unfold zC;rw[if_neg (by rw[hr];decide),if_pos (.inr (.inl ⟨hb2,h16⟩))]];exact⟨_,zQ.no (e:=44),H4.sub (RD _)⟩
    ·refine rS [.v,.l 0,.l 1,.cp (pre:=fun w=>AtF sS w q m L) hf [] (fun w hb hd=>hS.call hb),.v,.v,.v,.l 1,.E (.bool b.2.2) (.bool true) (za hb2),.v,.l 0,.v,.E (.bool (decide ((m:Int)≥16))) (.bool false) (za (decide_eq_false (by omega))),.v,.v,.v,.v,.l 1,.E (.bool (!b.2.2)) (.bool false) (za (by rw[hb2];rfl)),.v,.n,.n,.n,.n,.v,.v] H2 kr fun gs3 w3 H3=>zm ?_;exact go _ _ (by unfold zC;rw[if_neg (by rw[hr];decide),if_neg (fun h=>h.elim efn fun h=>h.elim (fun h=>h16 h.2) fun h=>hb3 h.1)];rfl) (H3.as kr) isK
   ·replace hb3:=hb2
    replace hb2:=QX.2 hb2
    by_cases h1:L.length=1
    ·refine rS [.v,.l 0,.l 1,.cp (pre:=fun w=>AtF sS w q m L) hf [] (fun w hb hd=>hS.call hb),.v,.v,.v,.l 1,.E (.bool b.2.2) (.bool false) (za hb2),.n,.n,.n,.n,.v,.v,.v,.v,.l 1,.E (.bool (!b.2.2)) (.bool true) (za (by rw[hb2];rfl)),.v,.v,.l 0,.v,.E (.bool ((m:Int)==1)) (.bool true) (za (beq_iff_eq.2 (by omega))),.v,.v] H2 kr fun gs3 w3 H3=>zo<|rS [.v,.s 2,.v] H3 kr fun gs4 w4 H4=>rRr [.cell 4 25,.tmp 5] [2] (.tuple #[snV none 0 0 none 0 0,.int .i64 44]) (yi w.heap.size w (zQ q m cq L p n c V (zC L V b))) H4 kr ?_;rw[show zC L V b=([],[],44) by unfold zC;rw[if_neg (by rw[hr];decide),if_pos (.inr (.inr ⟨hb2,h1⟩))]];exact⟨_,zQ.no (e:=44),H4.sub (RD _)⟩
    ·refine rS [.v,.l 0,.l 1,.cp (pre:=fun w=>AtF sS w q m L) hf [] (fun w hb hd=>hS.call hb),.v,.v,.v,.l 1,.E (.bool b.2.2) (.bool false) (za hb2),.n,.n,.n,.n,.v,.v,.v,.v,.l 1,.E (.bool (!b.2.2)) (.bool true) (za (by rw[hb2];rfl)),.v,.v,.l 0,.v,.E (.bool ((m:Int)==1)) (.bool false) (za (beq_eq_false_iff_ne.2 (by omega))),.v,.v] H2 kr fun gs3 w3 H3=>zm ?_;exact go _ _ (by unfold zC;rw[if_neg (by rw[hr];decide),if_neg (fun h=>h.elim efn fun h=>h.elim (fun h=>hb3 h.1) fun h=>h1 h.2)];rfl) (H3.as kr) isK
theorem vK (x y:Bal)(w:World):(UF 10000 27 (blV x) (blV y)).run Try.prog w=.ok (decide (x=y)) w:=by
 rw[run_equalIn_struct w 9999 27 _ _ kr kr,
  show (Try.prog.fieldsOf 27).toList= [{ name:= "Voter",type:=9,offset:=0,embedded:=false,tag:= "",pkgPath:= "",byteOffset:=0 },{ name:= "Who",type:=9,offset:=1,embedded:=false,tag:= "",pkgPath:= "",byteOffset:=16 },{ name:= "Add",type:=4,offset:=2,embedded:=false,tag:= "",pkgPath:= "",byteOffset:=32 }] by kernel_rfl]
 have px: ∀x:Bal,(part 9 (blC x) 0).run Try.prog w=.ok (.string x.1) w:=fun x=>by kernel_rfl
 have py: ∀x:Bal,(part 9 (blC x) 1).run Try.prog w=.ok (.string x.2.1) w:=fun x=>by kernel_rfl
 have pb: ∀x:Bal,(part 4 (blC x) 2).run Try.prog w=.ok (.bool x.2.2) w:=fun x=>by kernel_rfl
 have ex: ∀a b:Qa,(UF 9999 9 (.string a) (.string b)).run Try.prog w=.ok (decide (a=b)) w:=fun a b=>by
  rw[run_equalIn_string w 9998 9 a b Try.underlying9];by_cases e:a=b
  ·rw[ye _ _ e,decide_eq_true e]
  ·rw[zX _ _ e,decide_eq_false e]
 have eb:(UF 9999 4 (.bool x.2.2) (.bool y.2.2)).run Try.prog w=.ok (x.2.2==y.2.2) w:=by
  rw[run_equalIn_bool' w 9998 4 x.2.2 y.2.2 Try.underlying4]
 have n1:("Voter" :String)≠ "_" :=by decide
 have n2:("Who" :String)≠ "_" :=by decide
 have n3:("Add" :String)≠ "_" :=by decide
 simp only[Op.eqFields,if_pos n1,if_pos n2,if_pos n3,QO,px,py,pb,QC,ex,eb,Sem.run_ite];obtain⟨a,b,c⟩:=x;obtain⟨a',b',c'⟩:=y;by_cases h1:a=a'
 ·by_cases h2:b=b'
  ·cases c<;>cases c'<;>simp[h1,h2]
  ·simp[h1,h2]
 ·simp[h1]
theorem zaZ {ρ:Env}(x y:Bal){s t:Operand}{o:Oper}(w:World)(ho:o.op=.binOp .neq 27 s t 27)(hx:ev ρ s=blV x)(hy:ev ρ t=blV y):
 (execOp (ev ρ) o).run Try.prog w=.ok (.value (.bool (!decide (x=y)))) w:=by
 have h:=vK x y w;change ev ρ s=.agg (blC x)at hx;change ev ρ t=.agg (blC y)at hy;change (UF 10000 27 (.agg (blC x)) (.agg (blC y))).run Try.prog w=_ at h;generalize blC x=X at h hx;generalize blC y=Y at h hy;unfold execOp;simp only[ho,hx,hy,resolve,QO,RY,QC,run_eqGuard_agg w _ _ _ _ _ _ (show Try.prog.eqGuardType Try.prog.depth 27=false by kernel_rfl),run_eql_struct,run_neq_struct,h]
theorem xW (q:Qc)(m cq:Nat)(L:Qi)(p:Qc)(n c:Nat)(V:List Bal)(q':Qc)(m' cq':Nat)(L':Qi)(p':Qc)(n' c':Nat)(V':List Bal)(b:Bool)(hb:b=true↔L=L'/\V=V')(hL:L.length<=1000000)(hV:V.length<=1000000):
 FnP Try.prog 17 #[snV q m cq p n c,snV q' m' cq' p' n' c'] (fun w=>zD w L V q m p n/\zD w L' V' q' m' p' n') (.bool b):=by
 have no: ¬(L=L'/\V=V')->b=false:=fun hne=>QX.2 fun e=>hne (hb.1 e);refine FnP.intro (c:=zr Try.f17) [.tmp 4] 59 Try.func17 kr kr kr fun w hP=>?_;obtain⟨⟨hS,hV⟩,hS',hV'⟩:=hP;have hm:=hS.1;have hn:=hV.1;have hm':=hS'.1;have hn':=hV'.1;refine rS [.b,.b,.v] (St.start w) kr fun gs1 w1 H1=>zc kr ?_;by_cases em_:m=m'
 case neg=>
  refine rS [.v,.l 0,.v,.v,.l 1,.v,.E (.bool ((m:Int)!=(m':Int))) (.bool true) (za (bne_iff_ne.2 (by omega))),.v,.n,.n,.n,.n,.n,.n,.n,.v] H1 kr fun gs3 w3 H3=>zo<|rS [.v] H3 kr fun gs8 w8 H8=>?_;exact rRe [.tmp 4] [] (v:=.bool false) (v':=.bool b) H8 (za (no fun e=>em_ (by rw[hm,hm',e.1])).symm) kr
 by_cases en:n=n'
 case neg=>
  subst em_;refine rS [.v,.l 0,.v,.v,.l 1,.v,.E (.bool ((m:Int)!=(m:Int))) (.bool false) (za (bne_self_eq_false' _)),.v,.v,.l 0,.v,.v,.l 1,.v,.E (.bool ((n:Int)!=(n':Int))) (.bool true) (za (bne_iff_ne.2 (by omega))),.v] H1 kr fun gs3 w3 H3=>zo<|rS [.v] H3 kr fun gs8 w8 H8=>?_;exact rRe [.tmp 4] [] (v:=.bool false) (v':=.bool b) H8 (za (no fun e=>en (by rw[hn,hn',e.2])).symm) kr
 subst en em_;refine rS [.v,.l 0,.v,.v,.l 1,.v,.E (.bool ((m:Int)!=(m:Int))) (.bool false) (za (bne_self_eq_false' _)),.v,.v,.l 0,.v,.v,.l 1,.v,.E (.bool ((n:Int)!=(n:Int))) (.bool false) (za (bne_self_eq_false' _)),.v] H1 kr fun gs3 w3 H3=>zm<|wW<|zc kr<|rS [.v,.l 0,.v,.v] H3 kr fun gs4 w4 H4=>ya 26 25 27 40 0 1 m (by omega) (fun i ρ ww=>L.take i=L'.take i/\St w.heap.size w ww [((gs1 0).b,snO q m cq p n c),((gs1 1).b,snO q' m cq' p' n c')]/\Is [(2,Qe (gs1 0).b),(3,Qe (gs1 1).b),(25,iN m),(26,iN i)] ρ) (by rintro i _ ww ⟨_,_,_,rfl⟩;exact⟨kr,kr⟩) ⟨rfl,H4.as kr,isK⟩ ?_ ?_
 ·clear H4;rintro i _ w5 hi ⟨htk,H5,_,rfl⟩;obtain⟨x,hx⟩:∃x,L[i]? =some x:=⟨_,Qj (by omega)⟩
  obtain⟨y,hy⟩:∃y,L'[i]? =some y:=⟨_,Qj (by omega)⟩
  obtain⟨bl,off,C,T,fz,hp,hh,hR⟩:=hS.row2 (by omega);obtain⟨bl2,off2,C2,T2,fz2,hp2,hh2,hR2⟩:=hS'.row2 (by omega);have cx:C[off+i*1]? =some (.string x):=hR.cell hx 0 (by decide);have cy:C2[off2+i*1]? =some (.string y):=hR2.cell hy 0 (by decide);refine rS [.v,.v] H5 kr fun gs5 w6 H6=>?_;by_cases exy:x=y
  ·refine dS [.v,.l 0,.v,.o (ins:=[((.tmp 30),.slice q m cq),((.tmp 31),iN i)]) (v:=.pointer (some ⟨bl,off+i*1,none⟩)) (fun ρ o w ho hi2=>zs (kd:=.i64) (t:=22) (e:=9) (K:=1) (bytes:=16) kr (x:=(.tmp 30)) (y:=(.tmp 31)) bl off m cq i hp ho hi2.1 hi2.2.1 (by omega) w),.fs (off:=off+i*1) (v:=.string x) hh (zj hh) cx,.v,.l 1,.v,.o (ins:=[((.tmp 35),.slice q' m cq'),((.tmp 36),iN i)]) (v:=.pointer (some ⟨bl2,off2+i*1,none⟩)) (fun ρ o w ho hi2=>zs (kd:=.i64) (t:=22) (e:=9) (K:=1) (bytes:=16) kr (x:=(.tmp 35)) (y:=(.tmp 36)) bl2 off2 m cq' i hp2 ho hi2.1 hi2.2.1 (by omega) w),.fs (off:=off2+i*1) (v:=.string y) hh2 (zj hh2) cy,.E (.bool (!(x.toList==y.toList))) (.bool false) (za (by rw[ye _ _ exy];rfl))] H6 kr fun w7 H7=>zm ?_;exact⟨kr,by rw[zY hx,zY hy,htk,exy],H7.as kr,isK⟩
  ·refine dS [.v,.l 0,.v,.o (ins:=[((.tmp 30),.slice q m cq),((.tmp 31),iN i)]) (v:=.pointer (some ⟨bl,off+i*1,none⟩)) (fun ρ o w ho hi2=>zs (kd:=.i64) (t:=22) (e:=9) (K:=1) (bytes:=16) kr (x:=(.tmp 30)) (y:=(.tmp 31)) bl off m cq i hp ho hi2.1 hi2.2.1 (by omega) w),.fs (off:=off+i*1) (v:=.string x) hh (zj hh) cx,.v,.l 1,.v,.o (ins:=[((.tmp 35),.slice q' m cq'),((.tmp 36),iN i)]) (v:=.pointer (some ⟨bl2,off2+i*1,none⟩)) (fun ρ o w ho hi2=>zs (kd:=.i64) (t:=22) (e:=9) (K:=1) (bytes:=16) kr (x:=(.tmp 35)) (y:=(.tmp 36)) bl2 off2 m cq' i hp2 ho hi2.1 hi2.2.1 (by omega) w),.fs (off:=off2+i*1) (v:=.string y) hh2 (zj hh2) cy,.E (.bool (!(x.toList==y.toList))) (.bool true) (za (by rw[zX _ _ exy];rfl))] H6 kr fun w7 H7=>zo<|rS [.v] H7 kr fun gs8 w8 H8=>?_;exact rRe [.tmp 4] [] (v:=.bool false) (v':=.bool b) H8 (za (no fun e=>exy (by rw[e.1,hy]at hx;exact(Q5.inj hx).symm)).symm) kr
 ·clear H4;rintro _ w5 ⟨htk,H5,_,rfl⟩;rw[Qn (by omega),Qn (by omega)]at htk;refine wW<|zc kr<|rS [.v,.l 0,.v,.v] H5 kr fun gs5 w6 H6=>ya 44 43 45 58 2 3 n (by omega) (fun i ρ ww=>V.take i=V'.take i/\St w.heap.size w ww [((gs1 0).b,snO q m cq p n c),((gs1 1).b,snO q' m cq' p' n c')]/\Is [(2,Qe (gs1 0).b),(3,Qe (gs1 1).b),(43,iN n),(44,iN i)] ρ) (by rintro i _ ww ⟨_,_,_,rfl⟩;exact⟨kr,kr⟩) ⟨rfl,H6.as kr,isK⟩ ?_ ?_
  ·clear H5 H6;rintro i _ w5 hi ⟨htk2,H5,_,rfl⟩;obtain⟨x,hx⟩:∃x,V[i]? =some x:=⟨_,Qj (by omega)⟩
   obtain⟨y,hy⟩:∃y,V'[i]? =some y:=⟨_,Qj (by omega)⟩
   obtain⟨bl,off,C,T,fz,hp,hh,hR⟩:=hV.row2 (by omega);obtain⟨bl2,off2,C2,T2,fz2,hp2,hh2,hR2⟩:=hV'.row2 (by omega);refine rS [.v,.v] H5 kr fun gs5 w6 H6=>?_;have hit:=fun (v:Bool) (hv:(!decide (x=y))=v) (ρ:Env) (o:Oper) (w:World) (ho:o.op=.binOp .neq 27 (.tmp 51) (.tmp 56) 27) (hi:Ins (ev ρ) [((.tmp 51),blV x),((.tmp 56),blV y)])=>(zaZ x y w ho hi.1 hi.2.1).trans (by rw[hv]);by_cases exy:x=y
   ·refine dS [.v,.l 0,.v,.o (ins:=[((.tmp 48),.slice p n c),((.tmp 49),iN i)]) (v:=.pointer (some ⟨bl,off+i*3,none⟩)) (fun ρ o w ho hi2=>zs (kd:=.i64) (t:=23) (e:=27) (K:=3) (bytes:=40) kr (x:=(.tmp 48)) (y:=(.tmp 49)) bl off n c i hp ho hi2.1 hi2.2.1 (by omega) w),.fp (off:=off+i*3) (n:=3) (W:=blC x) hh (zj hh) (hR _ _ hx).1 (hR _ _ hx).2,.v,.l 1,.v,.o (ins:=[((.tmp 53),.slice p' n c'),((.tmp 54),iN i)]) (v:=.pointer (some ⟨bl2,off2+i*3,none⟩)) (fun ρ o w ho hi2=>zs (kd:=.i64) (t:=23) (e:=27) (K:=3) (bytes:=40) kr (x:=(.tmp 53)) (y:=(.tmp 54)) bl2 off2 n c' i hp2 ho hi2.1 hi2.2.1 (by omega) w),.fp (off:=off2+i*3) (n:=3) (W:=blC y) hh2 (zj hh2) (hR2 _ _ hy).1 (hR2 _ _ hy).2,.o (hit false (by rw[decide_eq_true exy];rfl))] H6 kr fun w7 H7=>zm ?_;exact⟨kr,by rw[zY hx,zY hy,htk2,exy],H7.as kr,isK⟩
   ·refine dS [.v,.l 0,.v,.o (ins:=[((.tmp 48),.slice p n c),((.tmp 49),iN i)]) (v:=.pointer (some ⟨bl,off+i*3,none⟩)) (fun ρ o w ho hi2=>zs (kd:=.i64) (t:=23) (e:=27) (K:=3) (bytes:=40) kr (x:=(.tmp 48)) (y:=(.tmp 49)) bl off n c i hp ho hi2.1 hi2.2.1 (by omega) w),.fp (off:=off+i*3) (n:=3) (W:=blC x) hh (zj hh) (hR _ _ hx).1 (hR _ _ hx).2,.v,.l 1,.v,.o (ins:=[((.tmp 53),.slice p' n c'),((.tmp 54),iN i)]) (v:=.pointer (some ⟨bl2,off2+i*3,none⟩)) (fun ρ o w ho hi2=>zs (kd:=.i64) (t:=23) (e:=27) (K:=3) (bytes:=40) kr (x:=(.tmp 53)) (y:=(.tmp 54)) bl2 off2 n c' i hp2 ho hi2.1 hi2.2.1 (by omega) w),.fp (off:=off2+i*3) (n:=3) (W:=blC y) hh2 (zj hh2) (hR2 _ _ hy).1 (hR2 _ _ hy).2,.o (hit true (by rw[decide_eq_false exy];rfl))] H6 kr fun w7 H7=>zo<|rS [.v] H7 kr fun gs8 w8 H8=>?_;exact rRe [.tmp 4] [] (v:=.bool false) (v':=.bool b) H8 (za (no fun e=>exy (by rw[e.2,hy]at hx;exact(Q5.inj hx).symm)).symm) kr
  ·rintro _ w7 ⟨htk2,H7,_,rfl⟩;rw[Qn (by omega),Qn (by omega)]at htk2;refine wW<|rS [.v] H7 kr fun gs8 w8 H8=>?_;exact rRe [.tmp 4] [] (v:=.bool true) (v':=.bool b) H8 (za (hb.2 ⟨htk,htk2⟩).symm) kr
section
variable {l:Bool}{s:Qa}{k:Fo}
end
section
open D2 (Gh)
end
section
variable {t:Qa}{a b j:Nat}{p:Qc}{n c:Nat}{row:Qb}{M:List X3}{T:Qb}
end
section
variable {P:Program}{N:Nat}{ops:Array Oper}{K:Env->World->Prop}{ρ:Env}{w w0:World}{i B:Nat}{r:List Nat}{l:Qb}
end
section
open D2 (Gh)
section
variable {P:Program}{N:Nat}{ops:Array Oper}{i:Nat}{r:List Nat}{K:Env->World->Prop}{ρ:Env}{w w0:World}{B:Nat}{l:Qb}
end
end
abbrev wt (b:Bool):Nat:=if b=true then 0 else 1
theorem vL (b:Bal): ∀(V:List Bal) (s:List Bal×Bool),(V.foldl (fun s x=>yl b (zF b s x) x) s).1.length+wt (V.foldl (fun s x=>yl b (zF b s x) x) s).2<=s.1.length+wt s.2+V.length
 | [],s=>by simp
 | x::r,s=>by
  have h1:=vL b r (yl b (zF b s x) x);have h2:(yl b (zF b s x) x).1.length<=(zF b s x).1.length+1:=vE b _ x;have h3:(zF b s x).1.length+wt (zF b s x).2<=s.1.length+wt s.2:=by
   unfold zF;split
   ·rename_i h9
    have h8:s.2=false:=by cases h7:s.2 with
     | false=>rfl
     | true=>rw[h7]at h9;cases h9
    show (s.1++ [b]).length+wt true<=_;rw[Qx,h8];exact Qr _
   ·exact Qr _
  have h4:(yl b (zF b s x) x).2=(zF b s x).2:=rfl;rw[h4]at h1;rw[Rm,RK];omega
theorem za0 (b:Bal)(V:List Bal):(zA b V).length<=V.length+1:=by
 have h:=vL b V ([],false);change (yy b V).1.length+wt (yy b V).2<=0+1+V.length at h;unfold zA;split
 ·omega
 ·rename_i h9
  rw[show wt (yy b V).2=1 from if_neg h9]at h;rw[Qx];show (yy b V).1.length+1<=_;omega
theorem vM (a:Qa): ∀(L:Qi) (s:Qi×Bool),(L.foldl (fun s x=>ym a (zG a s x) x) s).1.length+wt (L.foldl (fun s x=>ym a (zG a s x) x) s).2<=s.1.length+wt s.2+L.length
 | [],s=>by simp
 | x::r,s=>by
  have h1:=vM a r (ym a (zG a s x) x);have h2:(ym a (zG a s x) x).1.length<=(zG a s x).1.length+1:=vG a _ x;have h3:(zG a s x).1.length+wt (zG a s x).2<=s.1.length+wt s.2:=by
   unfold zG;split
   ·rename_i h9
    have h8:s.2=false:=by cases h7:s.2 with
     | false=>rfl
     | true=>rw[h7]at h9;cases h9
    show (s.1++ [a]).length+wt true<=_;rw[Qx,h8];exact Qr _
   ·exact Qr _
  have h4:(ym a (zG a s x) x).2=(zG a s x).2:=rfl;rw[h4]at h1;rw[Rm,RK];omega
theorem za1 (a:Qa)(add:Bool)(L:Qi):(zL a add L).length<=L.length+1:=by
 have h:=vM a L ([],!add);change (ys a add L).1.length+wt (ys a add L).2<=0+wt (!add)+L.length at h;have h1:wt (!add)<=1:=by cases add<;>decide
 unfold zL;split
 ·omega
 ·rename_i h9
  rw[show wt (ys a add L).2=1 from if_neg h9]at h;rw[Qx];show (ys a add L).1.length+1<=_;omega
theorem za2 (L:Qi)(V:List Bal)(b:Bal):(zC L V b).1.length<=L.length+1/\(zC L V b).2.1.length<=V.length+1:=by
 have h1:=za0 b V;have h2:=za1 b.2.1 b.2.2 L;unfold zC;split
 ·exact⟨QS _,QS _⟩
 ·split
  ·exact⟨QS _,QS _⟩
  ·split
   ·exact⟨Nat.le_succ _,h1⟩
   ·refine⟨h2,?_⟩;have h3:=Rq (zM b) (zA b V);have h4:=Rq (fun x=>b.2.2||decide (2*zf x ((zA b V).filter (zM b))<=(zL b.2.1 b.2.2 L).length)) ((zA b V).filter (zM b));exact Rs h4 (Rs h3 h1)
theorem qQ.at {α:Type}{S:Fl α}{ty:TypeId}{q0:Qc}{m0 c0:Nat}{L0:List α}{q:Qc}{m c:Nat}{T:Qb}{L:List α}(h:qQ S ty q0 m0 c0 L0 q m c T L){B:Nat}{w0 w:World}{l:Qb}(hS:St B w0 w l)(hl: ∀e∈T,e∈l)(hA:AtF S w q0 m0 L0):AtF S w q m L:=by
 rcases h with⟨rfl,rfl,rfl,rfl,rfl⟩|h
 ·exact hA
 ·exact h.atF hS hl
section
open Go.ChangeShapes Go.WideShapes Go.ChangeAt
theorem vN:Try.prog.cellsOf 27=3:=kr
theorem za3:Try.prog.cellsOf 25=2:=kr
theorem za4:Try.prog.cellsOf 23=1:=kr
theorem vO {α:Type}(l:List α)(h:l.length=2):∃a0 a1,l=[a0,a1]:=by
 match l,h with
 | [a0,a1],_=>exact⟨_,_,rfl⟩
theorem za5 {α:Type}(l:List α)(h:l.length=3):∃a0 a1 a2,l=[a0,a1,a2]:=by
 match l,h with
 | [a0,a1,a2],_=>exact⟨_,_,_,rfl⟩
section
variable {H:Type}{enc:TypeId×Value->H}{W:World}{sp:Nat->Bool}{held:Bool}
theorem vP (fuel:Nat)(cs:List Value)(x:DataW H×List MemPlace)(h:RA enc Try.prog W 0 sp held fuel 27 cs=some x):∃a:Bal,cs=blS.cs a/\True:=by
 obtain⟨y0,y1,y2,m,hx,hl,hy0,hy1,hy2⟩:=Go.Deep.trod_struct3 Try.underlying27 h;rw[vN]at hl;obtain⟨c0,c1,c2,rfl⟩:=za5 cs hl;rw[vy]at hy0 hy1;rw[zaM]at hy2;obtain⟨s0,e0,_,_⟩:=DataW.trod_string Try.underlying9 (show RA enc Try.prog W 0 sp held m 9 [c0]=some y0 from hy0);obtain⟨s1,e1,_,_⟩:=DataW.trod_string Try.underlying9 (show RA enc Try.prog W 0 sp held m 9 [c1]=some y1 from hy1);obtain⟨b,e2,_⟩:=DataW.trod_bool Try.underlying4 (show RA enc Try.prog W 0 sp held m 4 [c2]=some y2 from hy2);obtain rfl:c0=.string s0:=by simpa using e0
 obtain rfl:c1=.string s1:=by simpa using e1
 obtain rfl:c2=.bool b:=by simpa using e2
 exact⟨(s0,s1,b),rfl,trivial⟩
theorem za6 {v:Value}{d:DataW H}{p:List MemPlace}{base:Nat}(hv:Uq Try.prog W .any base 27 v)(h:DataW.Trod enc Try.prog W 0 sp held 27 v d p):∃b:Bal,v=blV b:=by
 obtain⟨cs,rfl,hsz,_⟩:∃cs,v=.agg cs/\cs.size=Try.prog.cellsOf 27/\Row.okWide Try.prog W .any base 27 cs:=by
  simpa [Uq,Try.underlying27] using hv
 obtain⟨fuel,hf⟩:=h;obtain⟨a,ea,_⟩:=vP fuel _ _ hf;exact⟨a,by rw[show cs=(blS.cs a).toArray from Array.toList_inj.1 ea];rfl⟩
theorem za7 {v:Value}{d:DataW H}{p:List MemPlace}{base:Nat}(hv:Uq Try.prog W .any base 25 v)(h:DataW.Trod enc Try.prog W 0 sp held 25 v d p):
 ∃(q:Qc) (m cq:Nat) (L:Qi) (p:Qc) (n c:Nat) (V:List Bal),v=snV q m cq p n c/\qn q m cq/\qn p n c/\zD W L V q m p n:=by
 obtain⟨cs,rfl,hsz,_⟩:∃cs,v=.agg cs/\cs.size=Try.prog.cellsOf 25/\Row.okWide Try.prog W .any base 25 cs:=by
  simpa [Uq,Try.underlying25] using hv
 rw[za3]at hsz;obtain⟨l⟩:=cs;obtain⟨c0,c1,rfl⟩:=vO l hsz;obtain⟨fuel,hf⟩:=h;obtain⟨xs,m,rfl,hxx,hl,hlen,hff⟩:=DataW.trod_struct Try.underlying25 hf;obtain⟨y0,y1,rfl⟩:=vO xs hlen;have g0:=hff 0 _ rfl;have g1:=hff 1 _ rfl;change RA enc Try.prog W 0 sp held m 22 (([c0,c1].drop 0).take (Try.prog.cellsOf 22))=some y0 at g0;change RA enc Try.prog W 0 sp held m 23 (([c0,c1].drop 1).take (Try.prog.cellsOf 23))=some y1 at g1;rw[zaN]at g0;rw[za4]at g1;obtain⟨q,mm,cq,L,rfl,sl,_,atL⟩:=vq (S:=sS) Try.underlying22 vy zaO (show RA enc Try.prog W 0 sp held m 22 [c0]=some y0 from g0);obtain⟨p,n,c,V,rfl,sl2,_,atV⟩:=vq (S:=blS) Try.underlying23 vN vP (show RA enc Try.prog W 0 sp held m 23 [c1]=some y1 from g1);exact⟨q,mm,cq,L,p,n,c,V,rfl,sl,sl2,atL,atV⟩
end
end
theorem vQ: ∀ {x y:List UInt8},ze x y=false->x≠y->ze y x=true
 | [],[],_,h=>absurd rfl h
 | [],_::_,h,_=>by simp[ze]at h
 | _::_,[],_,_=>rfl
 | a::x,b::y,h,hne=>by
  unfold ze at h⊢;by_cases e:a=b
  ·subst e;have hlt: ¬a.toNat<a.toNat:=RZ _;simp only[RZ,if_false,if_true]at h⊢;exact vQ h fun e=>hne (by rw[e])
  ·have hn:a.toNat≠b.toNat:=fun q=>e (UInt8.toNat_inj.1 q);by_cases c:b.toNat<a.toNat
   ·rw[if_pos c]
   ·have:a.toNat<b.toNat:=by omega
    rw[if_pos this]at h;cases h
theorem xX {a b:Qa}(h:ze (tl a) (tl b)=false)(hne:a≠b):ze (tl b) (tl a)=true:=vQ h fun e=>hne (xF e)
theorem za8 {a b:Qa}(h:ze (tl a) (tl b)=true):a≠b:=fun e=>by rw[e,qM]at h;cases h
theorem vR {a b:Qa}(h:ze (tl a) (tl b)=true):ze (tl b) (tl a)=false:=QX.2 fun e=>by
 have:=qy h e;rw[qM]at this;cases this
def nsB (b x:Bal):Bool:= !(decide (x.2.1=b.2.1)&&decide (x.1=b.1))
theorem yU {b x:Bal} :nsB b x=true↔ ¬(x.2.1=b.2.1/\x.1=b.1):=by
 unfold nsB;by_cases h1:x.2.1=b.2.1<;>by_cases h2:x.1=b.1<;>simp[h1,h2]
theorem qR {a b c:Bal}(h1:aheadB a b=true)(h2:aheadB b c=true):aheadB a c=true:=by
 unfold aheadB at*;by_cases e1:a.2.1=b.2.1
 ·rw[if_pos e1]at h1;by_cases e2:b.2.1=c.2.1
  ·rw[if_pos e2]at h2;rw[if_pos (e1.trans e2)];exact qy h1 h2
  ·rw[if_neg e2]at h2;rw[if_neg (by rw[e1];exact e2),e1];exact h2
 ·rw[if_neg e1]at h1;by_cases e2:b.2.1=c.2.1
  ·rw[if_pos e2]at h2;rw[if_neg (by rw[<-e2];exact e1),<-e2];exact h1
  ·rw[if_neg e2]at h2;have h3:=qy h1 h2;rw[if_neg (za8 h3)];exact h3
theorem jW {b x:Bal}(h:aheadB x b=true):nsB b x=true:=yU.2 fun e=>by
 unfold aheadB at h;rw[if_pos e.1,e.2,qM]at h;cases h
theorem za9 {x b:Bal}(h:aheadB x b=false)(hn:nsB b x=true):aheadB b x=true:=by
 have h1:=yU.1 hn;unfold aheadB at*;by_cases e:x.2.1=b.2.1
 ·rw[if_pos e]at h;rw[if_pos e.symm];exact xX h fun e2=>h1 ⟨e,e2⟩
 ·rw[if_neg e]at h;rw[if_neg (fun q=>e q.symm)];exact xX h e
def qo (b:Bal):List Bal->List Bal
 | []=>[b]
 | x::r=>if aheadB x b=true then x::qo b r else b::(x::r).filter (nsB b)
theorem vS (b x:Bal)(r:List Bal):qo b (x::r)=if aheadB x b=true then x::qo b r else b::(x::r).filter (nsB b):=rfl
theorem vT (b:Bal)(s:List Bal×Bool)(x:Bal):yl b s x=(if nsB b x=true then s.1++ [x] else s.1,s.2):=by
 unfold yl;by_cases h:x.2.1=b.2.1/\x.1=b.1
 ·rw[if_pos h,if_neg (fun e=>yU.1 e h)]
 ·rw[if_neg h,if_pos (yU.2 h)]
theorem xY (b:Bal): ∀(V:List Bal) (A:List Bal),V.foldl (fun s x=>yl b (zF b s x) x) (A,true)=(A++V.filter (nsB b),true)
 | [],A=>by simp
 | x::r,A=>by
  rw[Rm,show zF b (A,true) x=(A,true) from rfl,vT,Ue];by_cases h:nsB b x=true
  ·rw[if_pos h,if_pos h,xY b r];simp
  ·rw[if_neg h,if_neg h,xY b r]
def vU (b:Bal)(s:List Bal×Bool):List Bal:=if s.2=true then s.1 else s.1++ [b]
theorem vV (b:Bal): ∀(V:List Bal) (A:List Bal),vU b (V.foldl (fun s x=>yl b (zF b s x) x) (A,false))=A++qo b V
 | [],A=>rfl
 | x::r,A=>by
  rw[Rm];cases h:aheadB x b with
  | true=>
   have e1:zF b (A,false) x=(A,false):=by unfold zF;rw[h];rfl
   rw[e1,vT,if_pos (jW h),vV b r];rw[vS,if_pos h];simp
  | false=>
   have e1:zF b (A,false) x=(A++ [b],true):=by unfold zF;rw[h];rfl
   rw[e1];have e2:=xY b (x::r) (A++ [b]);rw[Rm,show zF b (A++ [b],true) x=(A++ [b],true) from rfl]at e2;rw[e2];unfold vU qo;rw[if_pos rfl,if_neg (by rw[h];decide)];simp
theorem vW (b:Bal)(V:List Bal):zA b V=qo b V:=by
 have:=vV b V [];rw[Ui]at this;exact this
abbrev jo (V:List Bal):Prop:=V.Pairwise fun a b=>aheadB a b=true
theorem vX (b:Bal): ∀V:List Bal,(qo b V).Perm (b::V.filter (nsB b))
 | []=>.refl _
 | x::r=>by
  unfold qo;by_cases h:aheadB x b=true
  ·rw[if_pos h,Ue,if_pos (jW h)];exact(List.Perm.cons _ (vX b r)).trans (List.Perm.swap _ _ _)
  ·rw[if_neg h]
theorem zba (b:Bal)(V:List Bal):(zA b V).Perm (b::V.filter (nsB b)):=by rw[vW];exact vX b V
abbrev jp (L:Qi):Prop:=L.Pairwise fun a b=>ze (tl a) (tl b)=true
theorem vY (L:Qi)(V:List Bal): ∀(W:List Bal) (p:Option Bal),qP L V p W=true↔(∀x∈W,zI L x=true/\2*zf x V<=L.length)/\jo W/\ ∀x∈W,yC p x=true
 | [],p=>⟨fun _=>⟨fun x hx=>absurd hx (Rv),List.Pairwise.nil,fun x hx=>absurd hx (Rv)⟩,fun _=>rfl⟩
 | b::r,p=>by
  have ih:=vY L V r (some b);show (zI L b&&(yC p b&&(decide (2*zf b V<=L.length)&&qP L V (some b) r)))=true↔_;rw[Ql,Ql,Ql,ih,decide_eq_true_iff];constructor
  ·rintro⟨h1,h2,h3,h4,h5,h6⟩;refine⟨fun x hx=>?_,Rp.2 ⟨h6,h5⟩,fun x hx=>?_⟩
   ·rcases QZ.1 hx with rfl|hx
    ·exact⟨h1,h3⟩
    ·exact h4 x hx
   ·rcases QZ.1 hx with rfl|hx
    ·exact h2
    ·cases p with
     | none=>rfl
     | some a=>exact qR h2 (h6 x hx)
  ·rintro⟨h1,h2,h3⟩;obtain⟨h4,h5⟩:=Rp.1 h2;have h6:=h1 b (QM ..);exact⟨h6.1,h3 b (QM ..),h6.2,fun x hx=>h1 x (Q7 _ hx),h5,h4⟩
theorem jX {L:Qi}{V:List Bal} :zE L V=true↔(∀x∈V,zI L x=true/\2*zf x V<=L.length)/\jo V/\zO L=true:=by
 unfold zE;rw[Ql,vY];exact⟨fun h=>⟨h.1.1,h.1.2.1,h.2⟩,fun h=>⟨⟨h.1,h.2.1,fun _ _=>rfl⟩,h.2.2⟩⟩
theorem vZ: ∀(W:Qi) (p:Option Qa),yr p W=true↔(∀x∈W,x.size=20)/\jp W/\ ∀x∈W,upB p x=true
 | [],p=>⟨fun _=>⟨fun x hx=>absurd hx (Rv),List.Pairwise.nil,fun x hx=>absurd hx (Rv)⟩,fun _=>rfl⟩
 | b::r,p=>by
  have ih:=vZ r (some b);show (decide (b.size=20)&&(upB p b&&yr (some b) r))=true↔_;rw[Ql,Ql,ih,decide_eq_true_iff];constructor
  ·rintro⟨h1,h2,h4,h5,h6⟩;refine⟨fun x hx=>?_,Rp.2 ⟨h6,h5⟩,fun x hx=>?_⟩
   ·rcases QZ.1 hx with rfl|hx
    ·exact h1
    ·exact h4 x hx
   ·rcases QZ.1 hx with rfl|hx
    ·exact h2
    ·cases p with
     | none=>rfl
     | some a=>exact qy h2 (h6 x hx)
  ·rintro⟨h1,h2,h3⟩;obtain⟨h4,h5⟩:=Rp.1 h2;exact⟨h1 b (QM ..),h3 b (QM ..),fun x hx=>h1 x (Q7 _ hx),h5,h4⟩
theorem xZ {L:Qi} :zO L=true↔(∀x∈L,x.size=20)/\jp L/\0<L.length/\L.length<=16:=by
 unfold zO;rw[Ql,Ql,vZ,decide_eq_true_iff,decide_eq_true_iff];exact⟨fun h=>⟨h.1.1,h.1.2.1,h.2⟩,fun h=>⟨⟨h.1,h.2.1,fun _ _=>rfl⟩,h.2.2⟩⟩
theorem qD {L:Qi}{b:Bal} :zI L b=true↔b.1∈L/\b.2.1.size=20/\zB b.2.1 L= !b.2.2:=by
 unfold zI;rw[Ql,Ql,xR,decide_eq_true_iff];refine and_congr Iff.rfl (and_congr Iff.rfl ?_);cases zB b.2.1 L<;>cases b.2.2<;>simp
def neA (a x:Qa):Bool:= !decide (x=a)
theorem jq {a x:Qa} :neA a x=true↔x≠a:=by unfold neA;by_cases h:x=a<;>simp[h]
def qE (a:Qa):Qi->Qi
 | []=>[a]
 | x::r=>if ze (tl a) (tl x)=true then a::(x::r).filter (neA a) else if x=a then qE a r else x::qE a r
theorem ua (a x:Qa)(r:Qi):qE a (x::r)=if ze (tl a) (tl x)=true then a::(x::r).filter (neA a) else if x=a then qE a r else x::qE a r:=rfl
theorem ub (a:Qa)(s:Qi×Bool)(x:Qa):ym a s x=(if neA a x=true then s.1++ [x] else s.1,s.2):=by
 unfold ym;by_cases h:x=a
 ·rw[if_pos h,if_neg (fun e=>jq.1 e h)]
 ·rw[if_neg h,if_pos (jq.2 h)]
theorem jY (a:Qa): ∀(L A:Qi),L.foldl (fun s x=>ym a (zG a s x) x) (A,true)=(A++L.filter (neA a),true)
 | [],A=>by simp
 | x::r,A=>by
  rw[Rm,show zG a (A,true) x=(A,true) from rfl,ub,Ue];by_cases h:neA a x=true
  ·rw[if_pos h,if_pos h,jY a r];simp
  ·rw[if_neg h,if_neg h,jY a r]
def uc (a:Qa)(s:Qi×Bool):Qi:=if s.2=true then s.1 else s.1++ [a]
theorem ka (a:Qa): ∀(L A:Qi),uc a (L.foldl (fun s x=>ym a (zG a s x) x) (A,false))=A++qE a L
 | [],A=>rfl
 | x::r,A=>by
  rw[Rm,ua];cases h:ze (tl a) (tl x) with
  | true=>
   have e1:zG a (A,false) x=(A++ [a],true):=by unfold zG;rw[h];rfl
   rw[e1];have e2:=jY a (x::r) (A++ [a]);rw[Rm,show zG a (A++ [a],true) x=(A++ [a],true) from rfl]at e2;rw[e2,if_pos rfl];unfold uc;rw[if_pos rfl];simp
  | false=>
   have e1:zG a (A,false) x=(A,false):=by unfold zG;rw[h];rfl
   rw[e1,ub,if_neg QF];by_cases e:x=a
   ·rw[if_neg (fun q=>jq.1 q e),if_pos e];exact ka a r A
   ·rw[if_pos (jq.2 e),if_neg e];exact(ka a r (A++ [x])).trans (by simp)
theorem zbb (a:Qa)(L:Qi):zL a true L=qE a L:=by
 have:=ka a L [];rw[Ui]at this;exact this
theorem zbc (a:Qa)(L:Qi):zL a false L=L.filter (neA a):=by
 have:=jY a L [];rw[Ui]at this;unfold zL ys;rw[show (!false)=true from rfl,this,if_pos rfl]
theorem zbd {a:Qa}{L:Qi}(h:a∉L):L.filter (neA a)=L:=Rd.2 fun x hx=>jq.2 fun e=>h (e▸hx)
theorem ud {a:Qa}{L:Qi}(h:zB a L=false):a∉L:=fun e=>by rw[xR.2 e]at h;cases h
theorem zbe {b x:Bal}{V:List Bal} :x∈zA b V↔x=b\/(x∈V/\nsB b x=true):=by
 rw[(zba b V).mem_iff,QZ,Uz]
def whoC (a:Qa)(V:List Bal):Nat:=(V.filter fun x=>decide (x.2.1=a)).length
theorem ue (a:Qa)(V:List Bal):whoC a V<=V.length:=Rq _ _
theorem kb (a:Qa)(V:List Bal)(x:Bal):whoC a (V++ [x])=whoC a V+if x.2.1=a then 1 else 0:=by
 unfold whoC;rw[Q6,Qx];congr 1;by_cases h:x.2.1=a
 ·rw[if_pos h,RC (by simpa using h)];rfl
 ·rw[if_neg h,Ra (by simpa using h)];rfl
def qp:Option Bal->Nat->Bal->Nat
 | none,m,_=>m+1
 | some a,m,x=>(if a.2.1=x.2.1 then m else 0)+1
def qS (L:Qi):Option Bal->Nat->List Bal->Bool
 | _,_,[]=>true
 | p,m,x::r=>zI L x&&(yC p x&&(decide (2*qp p m x<=L.length)&&qS L (some x) (qp p m x) r))
def yN (L:Qi)(V:List Bal):Bool:=qS L none 0 V
theorem ke {L:Qi}{V:List Bal}{x:Bal}(hx:zI L x=true)(hV: ∀y∈V,zI L y=true):zf x V=whoC x.2.1 V:=by
 unfold zf whoC;congr 1;refine List.filter_congr fun y hy=>?_;obtain⟨_,_,h1⟩:=qD.1 hx;obtain⟨_,_,h2⟩:=qD.1 (hV y hy);unfold yk;by_cases e:y.2.1=x.2.1
 ·rw[e,h1]at h2;rw[decide_eq_true e,QT,beq_iff_eq];cases hy2:y.2.2<;>cases hx2:x.2.2<;>simp_all
 ·rw[decide_eq_false e];rfl
structure Run (A:List Bal)(p:Option Bal)(m:Nat):Prop where
 no:p=none->A=[]/\m=0
 so: ∀a,p=some a->m=whoC a.2.1 A/\ ∀y∈A,y=a\/aheadB y a=true
theorem Run.next {A:List Bal}{p:Option Bal}{m:Nat}{x:Bal}(h:Run A p m)(hp:yC p x=true):Run (A++ [x]) (some x) (qp p m x):=by
 refine⟨(fun q=>nomatch q),fun a q=>?_⟩;obtain rfl:x=a:=Q5.inj q;refine⟨?_,fun y hy=>?_⟩
 ·rw[kb,if_pos rfl];cases p with
  | none=>
   obtain⟨rfl,rfl⟩:=h.no rfl;rfl
  | some a=>
   obtain⟨hm,ha⟩:=h.so a rfl;show (if a.2.1=x.2.1 then m else 0)+1=_;by_cases e:a.2.1=x.2.1
   ·rw[if_pos e,hm,e]
   ·rw[if_neg e];congr 1;unfold whoC;rw[List.filter_eq_nil_iff.2,List.length_nil];intro y hy;simp only[decide_eq_true_eq];intro hyx;have hp2:aheadB a x=true:=hp;have hlt:ze (tl a.2.1) (tl x.2.1)=true:=by unfold aheadB at hp2;rwa [if_neg e]at hp2
    rcases ha y hy with rfl|hya
    ·exact e hyx
    ·unfold aheadB at hya;by_cases e2:y.2.1=a.2.1
     ·exact e (e2.symm.trans hyx)
     ·rw[if_neg e2,hyx]at hya;rw[vR hlt]at hya;cases hya
 ·rcases R8.1 hy with hy|hy
  ·cases p with
   | none=>rw[(h.no rfl).1]at hy;exact nomatch hy
   | some a=>
    have hp2:aheadB a x=true:=hp;rcases (h.so a rfl).2 y hy with rfl | q
    ·exact .inr hp2
    ·exact .inr (qR q hp2)
  ·exact .inl (RO.1 hy)
theorem kf {L:Qi} : ∀(W A:List Bal) (p:Option Bal) (m:Nat),Run A p m->(qS L p m W=true↔(∀x∈W,zI L x=true)/\jo W/\(∀x∈W,yC p x=true)/\ ∀B x C,W=B++x::C->2*whoC x.2.1 (A++B++ [x])<=L.length)
 | [],A,p,m,_=>⟨fun _=>⟨fun x hx=>absurd hx (Rv),List.Pairwise.nil,fun x hx=>absurd hx (Rv),fun B x C h=>by simp at h⟩,fun _=>rfl⟩
 | x::r,A,p,m,hR=>by
  unfold qS;rw[Ql,Ql,Ql,decide_eq_true_iff];constructor
  ·rintro⟨h1,h2,h3,h4⟩;have hn:=hR.next h2
   obtain⟨g1,g2,g3,g4⟩:=(kf r (A++ [x]) (some x) _ hn).1 h4;refine⟨fun y hy=>?_,Rp.2 ⟨g3,g2⟩,fun y hy=>?_,fun B y C e=>?_⟩
   ·rcases QZ.1 hy with rfl|hy
    ·exact h1
    ·exact g1 y hy
   ·rcases QZ.1 hy with rfl|hy
    ·exact h2
    ·cases p with
     | none=>rfl
     | some a=>exact qR h2 (g3 y hy)
   ·cases B with
    | nil=>
     obtain⟨rfl,rfl⟩:x=y/\r=C:=by simpa using e
     rw[Rg,<-(hn.so x rfl).1];exact h3
    | cons z B=>
     obtain⟨rfl,e⟩:x=z/\r=B++y::C:=by simpa using e
     have:=g4 B y C (by assumption);rw[show A++x::B=A++ [x]++B by simp];exact this
  ·rintro⟨g1,g2,g3,g4⟩;obtain⟨q1,q2⟩:=Rp.1 g2;have h2:=g3 x (QM ..);have hn:=hR.next h2
   refine⟨g1 x (QM ..),h2,?_,(kf r (A++ [x]) (some x) _ hn).2 ⟨fun y hy=>g1 y (Q7 _ hy),q2,q1,fun B y C e=>?_⟩⟩
   ·have:=g4 [] x r rfl;rw[Rg,<-(hn.so x rfl).1]at this;exact this
   ·have:=g4 (x::B) y C (by rw[e];rfl);rw[show A++ [x]++B=A++x::B by simp];exact this
theorem uf {α:Type}{P:List α->Prop}(h0:P [])(h1: ∀A x,P A->P (A++ [x]))(V:List α):P V:=by
 have: ∀n (V:List α),V.length=n->P V:=by
  intro n
  induction n with
  | zero=>intro V h;rw[List.length_eq_zero_iff.1 h];exact h0
  | succ n ih=>
   intro V h;have hne:V≠[]:=fun e=>by rw[e]at h;cases h
   have:=h1 V.dropLast (V.getLast hne) (ih _ (by rw[List.length_dropLast,h];rfl))
   rwa [List.dropLast_concat_getLast hne]at this
 exact this _ V rfl
theorem zbf {k:Nat}(V:List Bal):(∀B x C,V=B++x::C->2*whoC x.2.1 (B++ [x])<=k)-> ∀x∈V,2*whoC x.2.1 V<=k:=by
 refine uf (P:=fun V=>(∀B x C,V=B++x::C->2*whoC x.2.1 (B++ [x])<=k)-> ∀x∈V,2*whoC x.2.1 V<=k) (fun _ x hx=>absurd hx (Rv)) (fun A y ih h x hx=>?_) V;have hy:=h A y [] rfl;by_cases e:x.2.1=y.2.1
 ·rw[e];exact hy
 ·rcases R8.1 hx with hx|hx
  ·have:=ih (fun B z C q=>h B z (C++ [y]) (by rw[q];simp)) x hx;rw[kb,if_neg (fun q=>e q.symm)];exact this
  ·rw[RO.1 hx]at e;exact absurd rfl e
theorem zbg (L:Qi)(V:List Bal):(zO L&&yN L V)=zE L V:=by
 rw[R9,jX,Ql];unfold yN;rw[kf V [] none 0 ⟨fun _=>⟨rfl,rfl⟩,(fun a h=>nomatch h)⟩];constructor
 ·rintro⟨hs,h1,h2,_,h4⟩;have h5:=zbf (k:=L.length) V (fun B x C e=>by simpa using h4 B x C e);exact⟨fun x hx=>⟨h1 x hx,by rw[ke (h1 x hx) h1];exact h5 x hx⟩,h2,hs⟩
 ·rintro⟨h1,h2,hs⟩;refine⟨hs,fun x hx=>(h1 x hx).1,h2,fun _ _=>rfl,fun B x C e=>?_⟩;have hx:x∈V:=by rw[e];simp
  have:=(h1 x hx).2;rw[ke (h1 x hx).1 (fun y hy=>(h1 y hy).1)]at this;have hsub:(([]:List Bal)++B++ [x]).Sublist V:=by
   rw[e,Ui];exact Rt (Rx _) (QP _ (RD _))
  have:whoC x.2.1 ([]++B++ [x])<=whoC x.2.1 V:=(hsub.filter _).length_le;omega
def zl {α:Type}(f:α->Bool):List α->Nat
 | []=>0
 | x::r=>if f x=true then zl f r+1 else 0
theorem qq {α:Type}(f:α->Bool): ∀L:List α,zl f L<=L.length
 | []=>Qr _
 | x::r=>by
  have:=qq f r;unfold zl;split
  ·rw[RK];omega
  ·omega
def zq {α:Type}[DecidableEq α](f:α->Bool)(b:α)(L:List α):List α:=if L[zl f L]? =some b then L else L.take (zl f L)++b::L.drop (zl f L)
theorem ug {α:Type}[DecidableEq α](f:α->Bool)(b x:α)(r:List α):zq f b (x::r)=if f x=true then x::zq f b r else if x=b then x::r else b::x::r:=by
 unfold zq;rw[zl];by_cases h:f x=true
 ·rw[if_pos h,if_pos h];rw[List.getElem?_cons_succ];by_cases e:r[zl f r]? =some b
  ·rw[if_pos e,if_pos e]
  ·rw[if_neg e,if_neg e];rfl
 ·rw[if_neg h,if_neg h,List.getElem?_cons_zero];by_cases e:x=b
  ·rw[if_pos e,if_pos (by rw[e])]
  ·rw[if_neg e,if_neg (fun q=>e (Q5.inj q))];rfl
theorem zbh (b:Bal): ∀ {V:List Bal},jo V->(∀x∈V,nsB b x=false->x=b)->zq (fun x=>aheadB x b) b V=zA b V:=by
 intro V hs hb;rw[vW]
 induction V with
 | nil=>rfl
 | cons x r ih=>
  obtain⟨h1,h2⟩:=Rp.1 hs;rw[ug,vS];by_cases h:aheadB x b=true
  ·rw[if_pos h,if_pos h,ih h2 fun y hy=>hb y (Q7 _ hy)]
  ·rw[if_neg h,if_neg h];by_cases e:x=b
   ·rw[if_pos e];subst e;rw[Ue,if_neg (fun e=>yU.1 e ⟨rfl,rfl⟩),Rd.2];intro y hy;exact yU.2 fun q=>yU.1 (jW (h1 y hy)) ⟨q.1.symm,q.2.symm⟩
   ·rw[if_neg e];have hn:nsB b x=true:=by
     cases q:nsB b x with
     | true=>rfl
     | false=>exact absurd (hb x (QM ..) q) e
    have ha:=za9 (QX.2 h) hn;rw[Rd.2];intro y hy;rcases QZ.1 hy with rfl | hy
    ·exact hn
    ·exact yU.2 fun q=>yU.1 (jW (qR ha (h1 y hy))) ⟨q.1.symm,q.2.symm⟩
theorem zbi (a:Qa): ∀ {L:Qi},jp L->a∉L->zq (fun x=>ze (tl x) (tl a)) a L=zL a true L:=by
 intro L hs ha;rw[zbb]
 induction L with
 | nil=>rfl
 | cons x r ih=>
  obtain⟨h1,h2⟩:=Rp.1 hs;have hxa:x≠a:=fun e=>ha (by rw[e];exact QM ..);rw[ug,ua];by_cases h:ze (tl x) (tl a)=true
  ·rw[if_pos h,if_neg (by rw[vR h];exact QF),if_neg hxa,ih h2 fun q=>ha (Q7 _ q)]
  ·rw[if_neg h,if_neg hxa,if_pos (xX (QX.2 h) hxa),zbd ha]
def goB (b x:Bal):Bool:=decide (x.2.1=b.2.1)||decide (x.1=b.2.1)
def yz (many:List Bal)(n:Nat)(x:Bal):Bool:=decide (n<2*whoC x.2.1 many)
def yt (L:Qi)(V:List Bal)(b:Bal):Qi×List Bal:=
 if b.2.2=true then (zq (fun x=>ze (tl x) (tl b.2.1)) b.2.1 L,V.filter fun x=> !goB b x)
 else (L.filter (fun x=> !decide (x=b.2.1)),(V.filter fun x=> !goB b x).filter fun x=> !yz (V.filter fun x=> !goB b x) (L.filter (fun x=> !decide (x=b.2.1))).length x)
def qr (L:Qi)(b:Bal):Bool:=zI L b&&(if b.2.2=true then decide (L.length<16) else decide (1<L.length))
def yV (L:Qi)(V:List Bal)(b:Bal):Qi×List Bal×Nat:=
 if zE L V=false then ([],[],1)
 else if qr L b=false then ([],[],44)
 else if L.length<2*zf b (zq (fun x=>aheadB x b) b V) then ((yt L (zq (fun x=>aheadB x b) b V) b).1,(yt L (zq (fun x=>aheadB x b) b V) b).2,0)
 else (L,zq (fun x=>aheadB x b) b V,0)
theorem jZ (L:Qi)(V:List Bal)(b:Bal):yV L V b=zC L V b:=by
 unfold yV zC;by_cases hr:zE L V=false
 ·rw[if_pos hr,if_pos hr]
 rw[if_neg hr,if_neg hr];have hr:zE L V=true:=by cases q:zE L V<;>simp_all
 obtain⟨r1,r2,r3⟩:=jX.1 hr;obtain⟨s1,s2,s3,s4⟩:=xZ.1 r3;by_cases hc:qr L b=false
 ·rw[if_pos hc,if_pos];unfold qr at hc;cases ef:zI L b with
  | false=>exact .inl rfl
  | true=>
   rw[ef,QT]at hc;cases eb:b.2.2 with
   | true=>rw[eb,if_pos rfl,decide_eq_false_iff_not]at hc;exact .inr (.inl ⟨rfl,by omega⟩)
   | false=>rw[eb,if_neg (by decide),decide_eq_false_iff_not]at hc;exact .inr (.inr ⟨rfl,by omega⟩)
 have hc':zI L b=true/\(if b.2.2=true then decide (L.length<16) else decide (1<L.length))=true:=by
  unfold qr at hc
  rwa [Bool.not_eq_false,Ql]at hc
 obtain⟨hf,hl⟩:=hc';obtain⟨f1,f2,f3⟩:=qD.1 hf;have hno: ¬(zI L b=false\/(b.2.2=true/\16<=L.length)\/(b.2.2=false/\L.length=1)):=fun h=>by
  rcases h with h|⟨h,h9⟩|⟨h,h9⟩
  ·rw[hf]at h;cases h
  ·rw[h,if_pos rfl,decide_eq_true_iff]at hl;omega
  ·rw[h,if_neg (by decide),decide_eq_true_iff]at hl;omega
 rw[if_neg hc,if_neg hno];have hput:zq (fun x=>aheadB x b) b V=zA b V:=zbh b r2 fun x hx hn=>by
  have hn: ¬nsB b x=true:=by rw[hn];exact QF
  have hq:x.2.1=b.2.1/\x.1=b.1:=by
   by_cases q:x.2.1=b.2.1/\x.1=b.1
   ·exact q
   ·exact absurd (yU.2 q) hn
  obtain⟨g1,g2,g3⟩:=qD.1 (r1 x hx).1;rw[hq.1,f3]at g3;exact Ut hq.2 (Ut hq.1 (by cases e1:x.2.2<;>cases e2:b.2.2<;>simp_all))
 rw[hput];by_cases h2:2*zf b (zA b V)<=L.length
 ·rw[if_neg (by omega),if_pos h2]
 rw[if_pos (by omega),if_neg h2];have hall: ∀x∈zA b V,zI L x=true:=fun x hx=>by
  rcases zbe.1 hx with rfl|⟨hx,_⟩
  ·exact hf
  ·exact(r1 x hx).1
 have hgo:((zA b V).filter fun x=> !goB b x)=(zA b V).filter (zM b):=List.filter_congr fun x hx=>by
  unfold goB zM;have hx1:=(qD.1 (hall x hx)).1;by_cases e1:x.2.1=b.2.1
  ·simp[e1]
  cases eb:b.2.2 with
  | false=>by_cases e2:x.1=b.2.1<;>simp[e1,e2]
  | true=>
   rw[eb]at f3;have:x.1≠b.2.1:=fun q=>ud f3 (q▸hx1);simp[e1,this]
 unfold yt;rw[hgo];cases eb:b.2.2 with
 | true=>
  rw[eb]at f3;rw[if_pos rfl,zbi b.2.1 s2 (ud f3)];refine Ut rfl (Ut ?_ rfl);show (zA b V).filter (zM b)=((zA b V).filter (zM b)).filter _;exact(Rd.2 fun x _=>rfl).symm
 | false=>
  rw[if_neg (by decide)];have hcut:L.filter (fun x=> !decide (x=b.2.1))=zL b.2.1 false L:=by rw[zbc];rfl
  rw[hcut];refine Ut rfl (Ut ?_ rfl);refine List.filter_congr fun x hx=>?_;have hx1:=Uz.1 hx;have hw:=ke (L:=L) (V:=(zA b V).filter (zM b)) (hall x hx1.1) (fun y hy=>hall y (Uz.1 hy).1);unfold yz;rw[<-hw,R5];by_cases q:2*zf x ((zA b V).filter (zM b))<=(zL b.2.1 false L).length
  ·rw[decide_eq_true q,decide_eq_false (by omega)];rfl
  ·rw[decide_eq_false q,decide_eq_true (by omega)];rfl
section
open D2 (Gh)
theorem zT {w w':World}{b:Nat}{o:Obj}(h:w.heap[b]? =some o)(hb:Below w.heap.size w w'):w'.heap[b]? =some o:=by rw[hb.block b (zj h)];exact h
theorem uh (x y:Qa):(!(Rb x.toList y.toList))= !(ze (tl x) (tl y)):=by rw[qz]
def yR (a:Qa):Nat->Qi->Int
 | _,[]=> -1
 | k,x::r=>if x=a then (k:Int) else yR a (k+1) r
theorem ui (a:Qa): ∀(L:Qi) (k:Nat),decide (yR a k L≥0)=zB a L
 | [],k=>rfl
 | x::r,k=>by
  unfold yR zB;by_cases h:x=a
  ·rw[if_pos h,decide_eq_true h];exact decide_eq_true (by omega)
  ·rw[if_neg h,decide_eq_false h,R5];exact ui a r (k+1)
theorem zbj (p:Qc)(n c:Nat)(L:Qi)(a:Qa)(hL:L.length<=1000000):FnP Try.prog 46 #[.slice p n c,.string a] (fun w=>AtF sS w p n L) (.int .i64 (yR a 0 L)):=by
 refine FnP.intro (c:=zr Try.f46) [.tmp 4] 19 Try.func46 kr kr kr fun w hP=>?_;have hn:=hP.1;have H0:=St.start w;refine rS [.v] H0 kr fun gs1 w1 H1=>zc kr<|rS [.v,.v,.v] H1 kr fun gs2 w2 H2=>ya 8 7 9 18 0 1 n (by omega) (fun i ρ ww=>yR a 0 L=yR a i (L.drop i)/\St w.heap.size w ww []/\Is [(0,.slice p n c),(1,.string a),(7,iN n),(8,iN i)] ρ) (by rintro i _ ww ⟨_,_,_,rfl⟩;exact⟨kr,kr⟩) ⟨rfl,H2.as kr,isK⟩ ?_ ?_
 ·clear H0 H1 H2;rintro i _ w3 hi ⟨hst,H3,_,rfl⟩;obtain⟨x,hx⟩:∃x,L[i]? =some x:=⟨_,Qj (by omega)⟩
  obtain⟨bl,off,C,T,fz,hp,hh,hR⟩:=hP.row2 (by omega);have hcx:C[off+i*1]? =some (.string x):=hR.cell hx 0 (by decide);rw[qc hx]at hst;change yR a 0 L=(if x=a then (i:Int) else yR a (i+1) (L.drop (i+1)))at hst;refine rS [.v,.v] H3 kr fun gs4 w4 H4=>?_;by_cases e:a=x
  ·refine rS [.v,.v,.v,.o (ins:=[((.tmp 12),.slice p n c),((.tmp 13),iN i)]) (v:=.pointer (some ⟨bl,off+i*1,none⟩)) (fun ρ o w ho hi2=>zs (kd:=.i64) (t:=22) (e:=9) (K:=1) (bytes:=16) kr (x:=(.tmp 12)) (y:=(.tmp 13)) bl off n c i hp ho hi2.1 hi2.2.1 (by omega) w),.fs (off:=off+i*1) (v:=.string x) hh (zj hh) hcx,.E (.bool (a.toList==x.toList)) (.bool true) (za (ye _ _ e))] H4 kr fun gs5 w5 H5=>zo<|rS [.v,.v] H5 kr fun gs6 w6 H6=>?_;exact rRe [.tmp 4] [] (v:=iN i) (v':=.int .i64 (yR a 0 L)) H6 (zg (by rw[hst,if_pos e.symm])) kr
  ·refine rS [.v,.v,.v,.o (ins:=[((.tmp 12),.slice p n c),((.tmp 13),iN i)]) (v:=.pointer (some ⟨bl,off+i*1,none⟩)) (fun ρ o w ho hi2=>zs (kd:=.i64) (t:=22) (e:=9) (K:=1) (bytes:=16) kr (x:=(.tmp 12)) (y:=(.tmp 13)) bl off n c i hp ho hi2.1 hi2.2.1 (by omega) w),.fs (off:=off+i*1) (v:=.string x) hh (zj hh) hcx,.E (.bool (a.toList==x.toList)) (.bool false) (za (zX _ _ e))] H4 kr fun gs5 w5 H5=>zm ?_;exact⟨kr,by rw[hst,if_neg (fun q=>e q.symm)],H5.as kr,isK⟩
 ·rintro _ w3 ⟨hst,H3,_,rfl⟩;rw[QA (by omega)]at hst;refine wW<|rS [.v] H3 kr fun gs4 w4 H4=>?_;exact rRe [.tmp 4] [] (v:=.int .i64 (-1)) (v':=.int .i64 (yR a 0 L)) H4 (zg hst.symm) kr
theorem zbk (p:Qc)(n c:Nat)(L:Qi)(a:Qa)(hL:L.length<=1000000):FnP Try.prog 32 #[.slice p n c,.string a] (fun w=>AtF sS w p n L) (.bool (zB a L)):=by
 refine FnP.intro (c:=zr Try.f32) [.tmp 4] 9 Try.func32 kr kr kr fun w hP=>?_;have hi:=zbj p n c L a hL;refine rS [.v] (St.start w) kr fun gs1 w1 H1=>rS [.v,.v,.cp (pre:=fun w=>AtF sS w p n L) hi [] (fun w hb hd=>hP.call hb),.E (.bool (decide (yR a 0 L≥0))) (.bool (zB a L)) (za (ui a L 0)),.v] H1 kr fun gs2 w2 H2=>?_;exact rR [.tmp 4] [] (.bool (zB a L)) H2 kr
theorem kg (q:Qc)(m cq:Nat)(L:Qi)(p:Qc)(n c:Nat)(a:Qa)(hL:L.length<=1000000):FnP Try.prog 13 #[snV q m cq p n c,.string a] (fun w=>AtF sS w q m L) (.bool (zB a L)):=by
 refine FnP.intro (c:=zr Try.f13) [.tmp 4] 9 Try.func13 kr kr kr fun w hP=>?_;have hi:=zbk q m cq L a hL;refine rS [.b,.v] (St.start w) kr fun gs1 w1 H1=>rS [.v,.l 0,.v,.cp (pre:=fun w=>AtF sS w q m L) hi [] (fun w hb hd=>hP.call hb),.v] H1 kr fun gs2 w2 H2=>?_;exact rR [.tmp 4] [] (.bool (zB a L)) H2 kr
theorem uj (q:Qc)(m cq:Nat)(p:Qc)(n c:Nat)(V:List Bal)(b:Bal)(hV:V.length<=1000000):FnP Try.prog 15 #[snV q m cq p n c,blV b] (fun w=>AtF blS w p n V) (iN (zf b V)):=by
 refine FnP.intro (c:=zr Try.f15) [.tmp 4] 31 Try.func15 kr kr kr fun w hP=>?_;have hn:=hP.1;have H0:=St.start w;refine rS [.b,.b,.v] H0 kr fun gs1 w1 H1=>rS [.v] H1 kr fun gs2 w2 H2=>zc kr<|rS [.v,.l 0,.v,.v] H2 kr fun gs3 w3 H3=>ya 11 10 12 29 0 1 n (by omega) (fun i ρ ww=>St w.heap.size w ww [((gs1 0).b,snO q m cq p n c),((gs1 1).b,blO b)]/\Is [(3,Qe (gs1 1).b),(5,iN (zf b (V.take i))),(9,.slice p n c),(10,iN n),(11,iN i)] ρ) (by rintro i _ ww ⟨_,_,rfl⟩;exact⟨kr,kr⟩) ⟨H3.as kr,isK⟩ ?_ ?_
 ·clear H0 H1 H2 H3;rintro i _ w4 hi ⟨H4,_,rfl⟩;obtain⟨x,hx⟩:∃x,V[i]? =some x:=⟨_,Qj (by omega)⟩
  obtain⟨bl,off,C,T,fz,hp,hh,hR⟩:=hP.row2 (by omega);have hle:=qN b (V.take i);rw[Qq]at hle;have hsn:zf b (V.take (i+1))=zf b (V.take i)+if yk b x=true then 1 else 0:=by rw[zY hx,vz]
  refine rS [.o (ins:=[((.tmp 9),.slice p n c),((.tmp 11),iN i)]) (v:=.pointer (some ⟨bl,off+i*3,none⟩)) (fun ρ o w ho hi2=>zs (kd:=.i64) (t:=23) (e:=27) (K:=3) (bytes:=40) kr (x:=(.tmp 9)) (y:=(.tmp 11)) bl off n c i hp ho hi2.1 hi2.2.1 (by omega) w),.fp (off:=off+i*3) (n:=3) (W:=blC x) hh (zj hh) (hR _ _ hx).1 (hR _ _ hx).2,.a,.s 2] H4 kr fun gs4 w5 H5=>?_;have drop1: ∀ {ww:World},St w.heap.size w ww [((gs1 0).b,snO q m cq p n c),((gs1 1).b,blO b),((gs4 2).b,blO x)]->St w.heap.size w ww [((gs1 0).b,snO q m cq p n c),((gs1 1).b,blO b)]:=fun H=>H.sub (QD [_,_] [_]);by_cases e:x.2.1=b.2.1
  ·refine rS [.v,.l 2,.v,.l 1,.E (.bool (x.2.1.toList==b.2.1.toList)) (.bool true) (za (ye _ _ e)),.v,.v,.l 2,.v,.l 1,.E (.bool (x.2.2==b.2.2)) (.bool (yk b x)) (za (by unfold yk;rw[decide_eq_true e];rfl)),.v] H5 kr fun gs5 w6 H6=>?_;by_cases hf:yk b x=true
   ·refine qb 26 (v:=.bool (yk b x)) (v':=.bool true) (by rw[hf]) kr<|zo ?_;rw[if_pos hf]at hsn;refine rL [.v,.E (.int .i64 (Qm.wrap (((zf b (V.take i):Nat):Int)+1))) (iN (zf b (V.take (i+1)))) (zg (by rw[hsn];exact zy (a:=zf b (V.take i)) (b:=1) (by omega))),.v] H6 kr fun gs6 w7 H7=>?_;exact⟨kr,drop1 (H7.as kr),isK⟩
   ·refine qb 26 (v:=.bool (yk b x)) (v':=.bool false) (by rw[QX.2 hf]) kr<|zm ?_;rw[if_neg hf,R0]at hsn;exact⟨kr,drop1 (H6.as kr),(congrArg (fun k=>Is [(3,Qe (gs1 1).b),(5,iN k),(9,.slice p n c),(10,iN n),(11,iN (i+1))] _) hsn).mpr isK⟩
  ·refine rS [.v,.l 2,.v,.l 1,.E (.bool (x.2.1.toList==b.2.1.toList)) (.bool false) (za (zX _ _ e)),.v,.n,.n,.n,.n,.n,.v] H5 kr fun gs5 w6 H6=>zm ?_;rw[if_neg (by unfold yk;rw[decide_eq_false e];exact QF),R0]at hsn;exact⟨kr,drop1 (H6.as kr),(congrArg (fun k=>Is [(3,Qe (gs1 1).b),(5,iN k),(9,.slice p n c),(10,iN n),(11,iN (i+1))] _) hsn).mpr isK⟩
 ·rintro _ w4 ⟨H4,_,rfl⟩;rw[Qn (by omega)];refine wW<|rS [.v,.v] H4 kr fun gs4 w5 H5=>?_;exact rR [.tmp 4] [] (iN (zf b V)) H5 kr
theorem uk (q:Qc)(m cq:Nat)(L:Qi)(p:Qc)(n c:Nat)(b:Bal)(hL:L.length<=1000000):FnP Try.prog 33 #[snV q m cq p n c,blV b] (fun w=>AtF sS w q m L) (.bool (zI L b)):=by
 refine FnP.intro (c:=zr Try.f33) [.tmp 4] 24 Try.func33 kr kr kr fun w hP=>?_;have h1:=kg q m cq L p n c b.1 hL;have h2:=kg q m cq L p n c b.2.1 hL;refine rS [.b,.b,.v] (St.start w) kr fun gs1 w1 H1=>?_;unfold zI;cases e1:zB b.1 L with
 | false=>
  rw[e1]at h1;refine dS [.l 0,.v,.l 1,.cp (pre:=fun w=>AtF sS w q m L) h1 [] (fun w hb hd=>hP.call hb),.v,.n,.n,.n,.n,.v,.v,.n,.n,.n,.n,.n,.n,.n,.v,.v] H1 kr fun w2 H2=>?_;exact rR [.tmp 4] [] (.bool false) H2 kr
 | true=>
  rw[e1]at h1;by_cases e2:b.2.1.size=20
  ·rw[decide_eq_true e2];refine dS [.l 0,.v,.l 1,.cp (pre:=fun w=>AtF sS w q m L) h1 [] (fun w hb hd=>hP.call hb),.v,.v,.l 1,.v,.E (.bool (((b.2.1.size:Nat):Int)==20)) (.bool true) (za (beq_iff_eq.2 (by omega))),.v,.v,.l 0,.v,.l 1,.cp (pre:=fun w=>AtF sS w q m L) h2 [] (fun w hb hd=>hP.call hb),.v,.l 1,.E (.bool (zB b.2.1 L !=b.2.2)) (.bool (zB b.2.1 L !=b.2.2)) rfl,.v,.v] H1 kr fun w2 H2=>?_;exact rR [.tmp 4] [] (.bool (zB b.2.1 L !=b.2.2)) H2 kr
  ·rw[decide_eq_false e2];refine dS [.l 0,.v,.l 1,.cp (pre:=fun w=>AtF sS w q m L) h1 [] (fun w hb hd=>hP.call hb),.v,.v,.l 1,.v,.E (.bool (((b.2.1.size:Nat):Int)==20)) (.bool false) (za (beq_eq_false_iff_ne.2 (by omega))),.v,.v,.n,.n,.n,.n,.n,.n,.n,.v,.v] H1 kr fun w2 H2=>?_;exact rR [.tmp 4] [] (.bool false) H2 kr
theorem zbl (q:Qc)(m cq:Nat)(L:Qi)(p:Qc)(n c:Nat)(b:Bal)(hL:L.length<=1000000):FnP Try.prog 19 #[snV q m cq p n c,blV b] (fun w=>AtF sS w q m L) (.bool (qr L b)):=by
 refine FnP.intro (c:=zr Try.f19) [.tmp 4] 19 Try.func19 kr kr kr fun w hP=>?_;have hm:=hP.1;have h1:=uk q m cq L p n c b hL;refine rS [.b,.b,.v] (St.start w) kr fun gs1 w1 H1=>zc kr ?_;unfold qr;cases ef:zI L b with
 | false=>
  rw[ef]at h1;refine rS [.l 0,.l 1,.cp (pre:=fun w=>AtF sS w q m L) h1 [] (fun w hb hd=>hP.call hb),.v] H1 kr fun gs2 w2 H2=>zo<|rS [.v] H2 kr fun gs3 w3 H3=>?_;exact rR [.tmp 4] [] (.bool false) H3 kr
 | true=>
  rw[ef]at h1;refine rS [.l 0,.l 1,.cp (pre:=fun w=>AtF sS w q m L) h1 [] (fun w hb hd=>hP.call hb),.v] H1 kr fun gs2 w2 H2=>zm<|wW<|zc kr ?_;obtain⟨b1,b2,b3⟩:=b;cases b3 with
  | true=>
   refine rS [.v,.l 1] H2 kr fun gs3 w3 H3=>zo<|rS [.v,.l 0,.v,.E (.bool (decide ((m:Int)<16))) (.bool (decide (L.length<16))) (za (by rw[R9,decide_eq_true_iff,decide_eq_true_iff];omega)),.v] H3 kr fun gs4 w4 H4=>?_;exact rR [.tmp 4] [] (.bool (decide (L.length<16))) H4 kr
  | false=>
   refine rS [.v,.l 1] H2 kr fun gs3 w3 H3=>zm<|wW<|rS [.v,.l 0,.v,.E (.bool (decide ((m:Int)>1))) (.bool (decide (1<L.length))) (za (by rw[R9,decide_eq_true_iff,decide_eq_true_iff];omega)),.v] H3 kr fun gs4 w4 H4=>?_;exact rR [.tmp 4] [] (.bool (decide (1<L.length))) H4 kr
theorem zbm (p:Qc)(n c:Nat)(L:Qi)(hL:L.length<=1000000):FnP Try.prog 28 #[.slice p n c] (fun w=>AtF sS w p n L) (.bool (zO L)):=by
 refine FnP.intro (c:=zr Try.f28) [.tmp 2] 37 Try.func28 kr kr kr fun w hP=>?_;have hn:=hP.1;have H0:=St.start w;refine rS [.v] H0 kr fun gs1 w1 H1=>zc kr ?_;by_cases h0:n=0
 ·refine rS [.v,.v,.E (.bool ((n:Int)==0)) (.bool true) (za (beq_iff_eq.2 (by omega))),.v,.n,.n,.n,.v] H1 kr fun gs2 w2 H2=>zo<|rS [.v] H2 kr fun gs3 w3 H3=>?_;exact rRe [.tmp 2] [] (v:=.bool false) (v':=.bool (zO L)) H3 (za (by unfold zO;rw[decide_eq_false (show ¬0<L.length by omega),Bool.false_and,UD])) kr
 by_cases h16:16<n
 ·refine rS [.v,.v,.E (.bool ((n:Int)==0)) (.bool false) (za (beq_eq_false_iff_ne.2 (by omega))),.v,.v,.v,.E (.bool (decide ((n:Int)>16))) (.bool true) (za (decide_eq_true (by omega))),.v] H1 kr fun gs2 w2 H2=>zo<|rS [.v] H2 kr fun gs3 w3 H3=>?_;exact rRe [.tmp 2] [] (v:=.bool false) (v':=.bool (zO L)) H3 (za (by unfold zO;rw[decide_eq_false (show ¬L.length<=16 by omega),UD,UD])) kr
 refine rS [.v,.v,.E (.bool ((n:Int)==0)) (.bool false) (za (beq_eq_false_iff_ne.2 (by omega))),.v,.v,.v,.E (.bool (decide ((n:Int)>16))) (.bool false) (za (decide_eq_false (by omega))),.v] H1 kr fun gs2 w2 H2=>zm<|wW ?_;have hsm:zO L=yr none L:=by unfold zO;rw[decide_eq_true (show 0<L.length by omega),decide_eq_true (show L.length<=16 by omega)];simp
 rw[hsm];refine zc kr<|rS [.v,.v,.v] H2 kr fun gs3 w3 H3=>ya 15 14 16 36 0 1 n (by omega) (fun i ρ ww=>yr none L=yr (yx L i) (L.drop i)/\St w.heap.size w ww []/\Is [(0,.slice p n c),(13,.slice p n c),(14,iN n),(15,iN i)] ρ) (by rintro i _ ww ⟨_,_,_,rfl⟩;exact⟨kr,kr⟩) ⟨rfl,H3.as kr,isK⟩ ?_ ?_
 ·clear H0 H1 H2 H3;rintro i _ w4 hi ⟨hst,H5,_,rfl⟩;obtain⟨x,hx⟩:∃x,L[i]? =some x:=⟨_,Qj (by omega)⟩
  obtain⟨bl,off,C,T,fz,hp,hh,hR⟩:=hP.row2 (by omega);have hcx:C[off+i*1]? =some (.string x):=hR.cell hx 0 (by decide);rw[qc hx]at hst;change yr none L=(decide (x.size=20)&&(upB (yx L i) x&&yr (some x) (L.drop (i+1))))at hst;refine rS [.v,.o (ins:=[((.tmp 13),.slice p n c),((.tmp 15),iN i)]) (v:=.pointer (some ⟨bl,off+i*1,none⟩)) (fun ρ o w ho hi2=>zs (kd:=.i64) (t:=22) (e:=9) (K:=1) (bytes:=16) kr (x:=(.tmp 13)) (y:=(.tmp 15)) bl off n c i hp ho hi2.1 hi2.2.1 (by omega) w),.fs (off:=off+i*1) (v:=.string x) hh (zj hh) hcx,.v,.v] H5 kr fun gs5 w6 H7=>?_;by_cases h1:x.size=20
  case neg=>
   refine rS [.v,.v,.E (.bool (!((x.size:Int)==20))) (.bool true) (za (by rw[beq_eq_false_iff_ne.2 (by omega)];rfl)),.v,.n,.n,.n,.n,.n,.n,.n,.n,.n,.n,.n,.v] H7 kr fun gs6 w7 H8=>zo<|rS [.v] H8 kr fun gs7 w8 H9=>?_;exact rRe [.tmp 2] [] (v:=.bool false) (v':=.bool (yr none L)) H9 (za (by rw[hst,decide_eq_false h1];rfl)) kr
  rw[decide_eq_true h1,QT]at hst;by_cases hi0:i=0
  ·have hu:upB (yx L i) x=true:=by
    have:yx L i=none:=by unfold yx;rw[if_pos hi0]
    rw[this];rfl
   refine rS [.v,.v,.E (.bool (!((x.size:Int)==20))) (.bool false) (za (by rw[beq_iff_eq.2 (show (x.size:Int)=20 by omega)];rfl)),.v,.v,.E (.bool (decide ((i:Int)>0))) (.bool false) (za (decide_eq_false (by omega))),.v,.n,.n,.n,.n,.n,.n,.n,.v,.v] H7 kr fun gs6 w7 H8=>zm ?_;exact⟨kr,by rw[jT hx,hst,hu];rfl,H8.as kr,isK⟩
  ·obtain⟨y,hy⟩:∃y,L[i-1]? =some y:=⟨_,Qj (by omega)⟩
   have hcy:C[off+(i-1)*1]? =some (.string y):=hR.cell hy 0 (by decide);have hpv:upB (yx L i) x=ze (tl y) (tl x):=by
    have:yx L i=some y:=by unfold yx;rw[if_neg hi0,hy]
    rw[this];rfl
   rw[hpv]at hst;cases hup:ze (tl y) (tl x) with
   | false=>
    refine rS [.v,.v,.E (.bool (!((x.size:Int)==20))) (.bool false) (za (by rw[beq_iff_eq.2 (show (x.size:Int)=20 by omega)];rfl)),.v,.v,.E (.bool (decide ((i:Int)>0))) (.bool true) (za (decide_eq_true (by omega))),.v,.v,.v,.E (.int .i64 (Qm.wrap ((i:Int)-1))) (iN (i-1)) (zg (yG (a:=i) (b:=1) (by omega))),.o (ins:=[((.tmp 27),.slice p n c),((.tmp 29),iN (i-1))]) (v:=.pointer (some ⟨bl,off+(i-1)*1,none⟩)) (fun ρ o w ho hi2=>zs (kd:=.i64) (t:=22) (e:=9) (K:=1) (bytes:=16) kr (x:=(.tmp 27)) (y:=(.tmp 29)) bl off n c (i-1) hp ho hi2.1 hi2.2.1 (by omega) w),.fs (off:=off+(i-1)*1) (v:=.string y) hh (zj hh) hcy,.v,.E (.bool (!(Rb y.toList x.toList))) (.bool true) (za (by rw[uh,hup];rfl)),.v,.v] H7 kr fun gs6 w7 H8=>zo<|rS [.v] H8 kr fun gs7 w8 H9=>?_;exact rRe [.tmp 2] [] (v:=.bool false) (v':=.bool (yr none L)) H9 (za (by rw[hst,hup];rfl)) kr
   | true=>
    refine rS [.v,.v,.E (.bool (!((x.size:Int)==20))) (.bool false) (za (by rw[beq_iff_eq.2 (show (x.size:Int)=20 by omega)];rfl)),.v,.v,.E (.bool (decide ((i:Int)>0))) (.bool true) (za (decide_eq_true (by omega))),.v,.v,.v,.E (.int .i64 (Qm.wrap ((i:Int)-1))) (iN (i-1)) (zg (yG (a:=i) (b:=1) (by omega))),.o (ins:=[((.tmp 27),.slice p n c),((.tmp 29),iN (i-1))]) (v:=.pointer (some ⟨bl,off+(i-1)*1,none⟩)) (fun ρ o w ho hi2=>zs (kd:=.i64) (t:=22) (e:=9) (K:=1) (bytes:=16) kr (x:=(.tmp 27)) (y:=(.tmp 29)) bl off n c (i-1) hp ho hi2.1 hi2.2.1 (by omega) w),.fs (off:=off+(i-1)*1) (v:=.string y) hh (zj hh) hcy,.v,.E (.bool (!(Rb y.toList x.toList))) (.bool false) (za (by rw[uh,hup];rfl)),.v,.v] H7 kr fun gs6 w7 H8=>zm ?_;exact⟨kr,by rw[jT hx,hst,hup];rfl,H8.as kr,isK⟩
 ·rintro _ w4 ⟨hst,H5,_,rfl⟩;rw[QA (by omega)]at hst;refine wW<|rS [.v] H5 kr fun gs6 w7 H8=>?_;exact rRe [.tmp 2] [] (v:=.bool true) (v':=.bool (yr none L)) H8 (za hst.symm) kr
theorem ul (x b:Bal)(k:Nat):FnP Try.prog 38 #[blV x,Qe k] (fun w=>w.heap[k]? =some (blO b)) (.bool (aheadB x b)):=by
 refine FnP.intro (c:=zr Try.f38) [.tmp 3] 19 Try.func38 kr kr kr fun w hP=>rS [.b,.v] (St.start w) kr fun gs1 w1 H1=>zc kr ?_;by_cases e:x.2.1=b.2.1
 ·refine rS [.v,.l 0,.v,.fs (off:=1) (v:=.string b.2.1) hP (zj hP) kr,.E (.bool (!(x.2.1.toList==b.2.1.toList))) (.bool false) (za (by rw[ye _ _ e];rfl))] H1 kr fun gs2 w2 H2=>zm<|wW<|rS [.v,.l 0,.v,.fs (off:=0) (v:=.string b.1) hP (zj hP) kr,.E (.bool (Rb x.1.toList b.1.toList)) (.bool (aheadB x b)) (za (by unfold aheadB;rw[if_pos e,qz])),.v] H2 kr fun gs3 w3 H3=>?_;exact rR [.tmp 3] [] (.bool (aheadB x b)) H3 kr
 ·refine rS [.v,.l 0,.v,.fs (off:=1) (v:=.string b.2.1) hP (zj hP) kr,.E (.bool (!(x.2.1.toList==b.2.1.toList))) (.bool true) (za (by rw[zX _ _ e];rfl))] H1 kr fun gs2 w2 H2=>zo<|rS [.v,.l 0,.v,.fs (off:=1) (v:=.string b.2.1) hP (zj hP) kr,.E (.bool (Rb x.2.1.toList b.2.1.toList)) (.bool (aheadB x b)) (za (by unfold aheadB;rw[if_neg e,qz])),.v] H2 kr fun gs3 w3 H3=>?_;exact rR [.tmp 3] [] (.bool (aheadB x b)) H3 kr
abbrev ahV (k:Nat):Value:=.func (.func 38) #[] #[Qe k]
theorem um (b:Bal):FnT Try.prog 23 #[blV b] (fun _=>True) (fun v l=> ∃k,v=ahV k/\l=[(k,blO b)]):=by
 refine FnT.intro (c:=zr Try.f23) [.tmp 2] 4 Try.func23 kr kr kr fun w _=>rS [.b,.v] (St.start w) kr fun gs1 w1 H1=>rS [.v,.v] H1 kr fun gs2 w2 H2=>rRr [.tmp 2] [] (ahV (gs1 0).b) (yi w.heap.size w (fun v l=> ∃k,v=ahV k/\l=[(k,blO b)])) H2 kr ?_;exact⟨_,⟨(gs1 0).b,rfl,rfl⟩,H2.as kr⟩
abbrev xa (x:Operand):Op:=.call { callee:=.value (.func 23),args:=#[x],argTypes:=#[27] }
theorem un {ρ:Env}{o:Oper}{w:World}{x:Operand}{b:Bal}(ho:o.op=xa x)(hx:ev ρ x=blV b):D2.Runs Try.prog (fun v w'=> ∃g:Gh,v=ahV g.b/\Below w.heap.size w w'/\w.heap.size<=g.b/\w'.heap[g.b]? =some (blO b)) ((execOp (ev ρ) o).run Try.prog w):=by
 have e:(execOp (ev ρ) o).run Try.prog w=.ok (.enter 23 #[blV b]) w:=by
  have ha:(#[x]:Array Operand).map (ev ρ)=#[blV b]:=by simp[hx]
  unfold execOp;rw[ho];simp only[xa,resolve,ha];rfl
 rw[e];refine Calls.mono (um b w trivial) ?_;rintro e w' ⟨v,T,rfl,⟨k,rfl,rfl⟩,hT⟩;exact⟨_,rfl,{ b:=k },rfl,St.below hT,(St.ge hT 0 rfl),St.get hT 0 rfl⟩
theorem zbn (q:Qc)(mm cq:Nat)(L:Qi)(p:Qc)(n c:Nat)(V:List Bal)(hL:L.length<=1000000)(hV:V.length<=1000000):FnP Try.prog 29 #[snV q mm cq p n c] (fun w=>zD w L V q mm p n) (.bool (yN L V)):=by
 refine FnP.intro (c:=zr Try.f29) [.tmp 2] 55 Try.func29 kr kr kr fun w hP=>?_;obtain⟨hS,hVV⟩:=hP;have hmm:=hS.1;have hn:=hVV.1;have H0:=St.start w;refine rS [.b,.v] H0 kr fun gs1 w1 H1=>rS [.v] H1 kr fun gs2 w2 H2=>zc kr<|rS [.v,.l 0,.v,.v] H2 kr fun gs3 w3 H3=>ya 9 8 10 54 0 1 n (by omega) (fun i ρ ww=> ∃m,yN L V=qS L (zP V i) m (V.drop i)/\m<=i/\St w.heap.size w ww [((gs1 0).b,snO q mm cq p n c)]/\Is [(1,Qe (gs1 0).b),(3,iN m),(7,.slice p n c),(8,iN n),(9,iN i)] ρ) (by rintro i _ ww ⟨_,_,_,_,_,rfl⟩;exact⟨kr,kr⟩) ⟨0,rfl,Qr _,H3.as kr,isK⟩ ?_ ?_
 ·clear H0 H1 H2 H3;rintro i _ w4 hi ⟨k,hst,hki,H4,_,rfl⟩;obtain⟨x,hx⟩:∃x,V[i]? =some x:=⟨_,Qj (by omega)⟩
  obtain⟨bl,off,C,T,fz,hp,hh,hR⟩:=hVV.row2 (by omega);have hfit:=uk q mm cq L p n c x hL;rw[qc hx]at hst;change yN L V=(zI L x&&(yC (zP V i) x&&(decide (2*qp (zP V i) k x<=L.length)&&qS L (some x) (qp (zP V i) k x) (V.drop (i+1)))))at hst;rw[<-vA hx]at hst;refine rS [.v,.o (ins:=[((.tmp 7),.slice p n c),((.tmp 9),iN i)]) (v:=.pointer (some ⟨bl,off+i*3,none⟩)) (fun ρ o w ho hi2=>zs (kd:=.i64) (t:=23) (e:=27) (K:=3) (bytes:=40) kr (x:=(.tmp 7)) (y:=(.tmp 9)) bl off n c i hp ho hi2.1 hi2.2.1 (by omega) w),.fp (off:=off+i*3) (n:=3) (W:=blC x) hh (zj hh) (hR _ _ hx).1 (hR _ _ hx).2,.a,.v,.s 1] H4 kr fun gs4 w5 HA=>zc kr ?_;cases ef:zI L x with
  | false=>
   rw[ef]at hfit;refine rS [.l 0,.l 1,.cp (pre:=fun w=>AtF sS w q mm L) hfit [] (fun w hb hd=>hS.call hb),.v] HA kr fun gs5 w6 H5=>zo<|rS [.v] H5 kr fun gsr wr Hr=>?_;exact rRe [.tmp 2] [] (v:=.bool false) (v':=.bool (yN L V)) Hr (za (by rw[hst,ef];rfl)) kr
  | true=>
   rw[ef]at hfit;refine rS [.l 0,.l 1,.cp (pre:=fun w=>AtF sS w q mm L) hfit [] (fun w hb hd=>hS.call hb),.v] HA kr fun gs5 w6 H5=>zm<|wW<|zc kr ?_;by_cases hi0:i=0
   ·have hp0:zP V i=none:=by unfold zP;rw[if_pos hi0]
    have ea:yC (zP V i) x=true:=by rw[hp0];rfl
    refine dS [.v,.E (.bool (decide ((i:Int)>0))) (.bool false) (za (decide_eq_false (by omega))),.v,.n,.n,.n,.n,.n,.n,.n,.n,.n,.n,.v] H5 kr fun w6 H6=>zm<|wW<|zc kr<|dS [.v,.E (.bool (decide ((i:Int)>0))) (.bool false) (za (decide_eq_false (by omega))),.v,.n,.n,.n,.n,.n,.n,.n,.n,.n,.n,.v] H6 kr fun w7 H7=>zm ?_;have drop1: ∀ {ww:World},St w.heap.size w ww [((gs1 0).b,snO q mm cq p n c),((gs4 3).b,blO x)]->St w.heap.size w ww [((gs1 0).b,snO q mm cq p n c)]:=fun H=>H.sub (QD [_] [_]);refine wW<|rS [.v,.E (.int .i64 (Qm.wrap ((k:Int)+1))) (iN (k+1)) (zg (zy (a:=k) (b:=1) (by omega))),.v] H7 kr fun gs8 w8 H8=>?_;have hrun:qp (zP V i) k x=k+1:=by rw[hp0];rfl
    rw[hrun]at hst;by_cases h2:2*(k+1)<=L.length
    ·refine rS [.v,.E (.int .i64 (Qm.wrap (2*((k+1:Nat):Int)))) (iN (2*(k+1))) (zg (yp (a:=2) (b:=k+1) (by omega))),.v,.l 0,.v,.E (.bool (decide (((2*(k+1):Nat):Int)>(mm:Int)))) (.bool false) (za (decide_eq_false (by omega)))] H8 kr fun gs9 w9 H9=>zm ?_;exact⟨kr,k+1,hst.trans (by rw[ef,ea,decide_eq_true h2,QT,QT,QT]),by omega,drop1 (H9.as kr),isK⟩
    ·refine rS [.v,.E (.int .i64 (Qm.wrap (2*((k+1:Nat):Int)))) (iN (2*(k+1))) (zg (yp (a:=2) (b:=k+1) (by omega))),.v,.l 0,.v,.E (.bool (decide (((2*(k+1):Nat):Int)>(mm:Int)))) (.bool true) (za (decide_eq_true (by omega)))] H8 kr fun gs9 w9 H9=>zo<|rS [.v] H9 kr fun gsr wr Hr=>?_;exact rRe [.tmp 2] [] (v:=.bool false) (v':=.bool (yN L V)) Hr (za (by rw[hst,ef,ea,decide_eq_false h2];rfl)) kr
   ·obtain⟨y,hy⟩:∃y,V[i-1]? =some y:=⟨_,Qj (by omega)⟩
    have hp0:zP V i=some y:=by unfold zP;rw[if_neg hi0,hy]
    have hcy:C[off+(i-1)*3+1]? =some (.string y.2.1):=hR.cell hy 1 (by decide);have ha:=fun k=>ul y x k;cases ea':aheadB y x with
    | false=>
     have ea:yC (zP V i) x=false:=by rw[hp0];exact ea'
     rw[ea']at ha;refine dSg (fun gs=>[.v,.E (.bool (decide ((i:Int)>0))) (.bool true) (za (decide_eq_true (by omega))),.v,.l 1,.g [((.tmp 21),blV x)] (xa (.tmp 21)) [] (fun g=>ahV g.b) (.new (blO x)) (fun ρ o w ho hi2 hd hb=>un ho hi2.1),.v,.l 0,.v,.E (.int .i64 (Qm.wrap ((i:Int)-1))) (iN (i-1)) (zg (yG (a:=i) (b:=1) (by omega))),.o (ins:=[((.tmp 24),.slice p n c),((.tmp 26),iN (i-1))]) (v:=.pointer (some ⟨bl,off+(i-1)*3,none⟩)) (fun ρ o w ho hi2=>zs (kd:=.i64) (t:=23) (e:=27) (K:=3) (bytes:=40) kr (x:=(.tmp 24)) (y:=(.tmp 26)) bl off n c (i-1) hp ho hi2.1 hi2.2.1 (by omega) w),.fp (off:=off+(i-1)*3) (n:=3) (W:=blC y) hh (zj hh) (hR _ _ hy).1 (hR _ _ hy).2,.cp (pre:=fun w=>w.heap[(gs 4).b]? =some (blO x)) (ha (gs 4).b) [(2,((gs 4).b,blO x))] (fun w hb hd=>hd.1),.v,.v]) H5 kr fun gs w6 H6=>zo<|rS [.v] H6 kr fun gsr wr Hr=>?_;exact rRe [.tmp 2] [] (v:=.bool false) (v':=.bool (yN L V)) Hr (za (by rw[hst,ef,ea];rfl)) kr
    | true=>
     have ea:yC (zP V i) x=true:=by rw[hp0];exact ea'
     rw[ea']at ha;refine dSg (fun gs=>[.v,.E (.bool (decide ((i:Int)>0))) (.bool true) (za (decide_eq_true (by omega))),.v,.l 1,.g [((.tmp 21),blV x)] (xa (.tmp 21)) [] (fun g=>ahV g.b) (.new (blO x)) (fun ρ o w ho hi2 hd hb=>un ho hi2.1),.v,.l 0,.v,.E (.int .i64 (Qm.wrap ((i:Int)-1))) (iN (i-1)) (zg (yG (a:=i) (b:=1) (by omega))),.o (ins:=[((.tmp 24),.slice p n c),((.tmp 26),iN (i-1))]) (v:=.pointer (some ⟨bl,off+(i-1)*3,none⟩)) (fun ρ o w ho hi2=>zs (kd:=.i64) (t:=23) (e:=27) (K:=3) (bytes:=40) kr (x:=(.tmp 24)) (y:=(.tmp 26)) bl off n c (i-1) hp ho hi2.1 hi2.2.1 (by omega) w),.fp (off:=off+(i-1)*3) (n:=3) (W:=blC y) hh (zj hh) (hR _ _ hy).1 (hR _ _ hy).2,.cp (pre:=fun w=>w.heap[(gs 4).b]? =some (blO x)) (ha (gs 4).b) [(2,((gs 4).b,blO x))] (fun w hb hd=>hd.1),.v,.v]) H5 kr fun gs w6 H6=>zm<|wW<|zc kr ?_;have drop1: ∀ {ww:World},St w.heap.size w ww [((gs1 0).b,snO q mm cq p n c),((gs4 3).b,blO x),((gs 4).b,blO x)]->St w.heap.size w ww [((gs1 0).b,snO q mm cq p n c)]:=fun H=>H.sub (QD [_] [_,_]);by_cases ew:y.2.1=x.2.1
     ·refine dS [.v,.E (.bool (decide ((i:Int)>0))) (.bool true) (za (decide_eq_true (by omega))),.v,.v,.l 0,.v,.E (.int .i64 (Qm.wrap ((i:Int)-1))) (iN (i-1)) (zg (yG (a:=i) (b:=1) (by omega))),.o (ins:=[((.tmp 36),.slice p n c),((.tmp 38),iN (i-1))]) (v:=.pointer (some ⟨bl,off+(i-1)*3,none⟩)) (fun ρ o w ho hi2=>zs (kd:=.i64) (t:=23) (e:=27) (K:=3) (bytes:=40) kr (x:=(.tmp 36)) (y:=(.tmp 38)) bl off n c (i-1) hp ho hi2.1 hi2.2.1 (by omega) w),.v,.fs (off:=off+(i-1)*3+1) (v:=.string y.2.1) hh (zj hh) hcy,.v,.l 1,.E (.bool (!(y.2.1.toList==x.2.1.toList))) (.bool false) (za (by rw[ye _ _ ew];rfl)),.v] H6 kr fun w7 H7=>zm<|wW<|rS [.v,.E (.int .i64 (Qm.wrap ((k:Int)+1))) (iN (k+1)) (zg (zy (a:=k) (b:=1) (by omega))),.v] H7 kr fun gs8 w8 H8=>?_;have hrun:qp (zP V i) k x=k+1:=by rw[hp0];show (if y.2.1=x.2.1 then k else 0)+1=_;rw[if_pos ew]
      rw[hrun]at hst;by_cases h2:2*(k+1)<=L.length
      ·refine rS [.v,.E (.int .i64 (Qm.wrap (2*((k+1:Nat):Int)))) (iN (2*(k+1))) (zg (yp (a:=2) (b:=k+1) (by omega))),.v,.l 0,.v,.E (.bool (decide (((2*(k+1):Nat):Int)>(mm:Int)))) (.bool false) (za (decide_eq_false (by omega)))] H8 kr fun gs9 w9 H9=>zm ?_;exact⟨kr,k+1,hst.trans (by rw[ef,ea,decide_eq_true h2,QT,QT,QT]),by omega,drop1 (H9.as kr),isK⟩
      ·refine rS [.v,.E (.int .i64 (Qm.wrap (2*((k+1:Nat):Int)))) (iN (2*(k+1))) (zg (yp (a:=2) (b:=k+1) (by omega))),.v,.l 0,.v,.E (.bool (decide (((2*(k+1):Nat):Int)>(mm:Int)))) (.bool true) (za (decide_eq_true (by omega)))] H8 kr fun gs9 w9 H9=>zo<|rS [.v] H9 kr fun gsr wr Hr=>?_;exact rRe [.tmp 2] [] (v:=.bool false) (v':=.bool (yN L V)) Hr (za (by rw[hst,ef,ea,decide_eq_false h2];rfl)) kr
     ·refine dS [.v,.E (.bool (decide ((i:Int)>0))) (.bool true) (za (decide_eq_true (by omega))),.v,.v,.l 0,.v,.E (.int .i64 (Qm.wrap ((i:Int)-1))) (iN (i-1)) (zg (yG (a:=i) (b:=1) (by omega))),.o (ins:=[((.tmp 36),.slice p n c),((.tmp 38),iN (i-1))]) (v:=.pointer (some ⟨bl,off+(i-1)*3,none⟩)) (fun ρ o w ho hi2=>zs (kd:=.i64) (t:=23) (e:=27) (K:=3) (bytes:=40) kr (x:=(.tmp 36)) (y:=(.tmp 38)) bl off n c (i-1) hp ho hi2.1 hi2.2.1 (by omega) w),.v,.fs (off:=off+(i-1)*3+1) (v:=.string y.2.1) hh (zj hh) hcy,.v,.l 1,.E (.bool (!(y.2.1.toList==x.2.1.toList))) (.bool true) (za (by rw[zX _ _ ew];rfl)),.v] H6 kr fun w7 H7=>zo<|rL [.v] H7 kr fun gsz wz Hz=>wW<|rS [.v,.E (.int .i64 (Qm.wrap (((0:Nat):Int)+1))) (iN (0+1)) (zg (zy (a:=0) (b:=1) (by omega))),.v] Hz kr fun gs8 w8 H8=>?_;have hrun:qp (zP V i) k x=0+1:=by rw[hp0];show (if y.2.1=x.2.1 then k else 0)+1=_;rw[if_neg ew]
      rw[hrun]at hst;by_cases h2:2*(0+1)<=L.length
      ·refine rS [.v,.E (.int .i64 (Qm.wrap (2*((0+1:Nat):Int)))) (iN (2*(0+1))) (zg (yp (a:=2) (b:=0+1) (by omega))),.v,.l 0,.v,.E (.bool (decide (((2*(0+1):Nat):Int)>(mm:Int)))) (.bool false) (za (decide_eq_false (by omega)))] H8 kr fun gs9 w9 H9=>zm ?_;exact⟨kr,0+1,hst.trans (by rw[ef,ea,decide_eq_true h2,QT,QT,QT]),by omega,drop1 (H9.as kr),isK⟩
      ·refine rS [.v,.E (.int .i64 (Qm.wrap (2*((0+1:Nat):Int)))) (iN (2*(0+1))) (zg (yp (a:=2) (b:=0+1) (by omega))),.v,.l 0,.v,.E (.bool (decide (((2*(0+1):Nat):Int)>(mm:Int)))) (.bool true) (za (decide_eq_true (by omega)))] H8 kr fun gs9 w9 H9=>zo<|rS [.v] H9 kr fun gsr wr Hr=>?_;exact rRe [.tmp 2] [] (v:=.bool false) (v':=.bool (yN L V)) Hr (za (by rw[hst,ef,ea,decide_eq_false h2];rfl)) kr
 ·rintro _ w4 ⟨k,hst,_,H5,_,rfl⟩;rw[QA (by omega)]at hst;refine wW<|rS [.v] H5 kr fun gs6 w7 H8=>?_;exact rRe [.tmp 2] [] (v:=.bool true) (v':=.bool (yN L V)) H8 (za hst.symm) kr
theorem xc (q:Qc)(mm cq:Nat)(L:Qi)(p:Qc)(n c:Nat)(V:List Bal)(hL:L.length<=1000000)(hV:V.length<=1000000):FnP Try.prog 11 #[snV q mm cq p n c] (fun w=>zD w L V q mm p n) (.bool (zE L V)):=by
 rw[<-zbg];refine FnP.intro (c:=zr Try.f11) [.tmp 2] 10 Try.func11 kr kr kr fun w hP=>?_;obtain⟨hS,hVV⟩:=hP;have h1:=zbm q mm cq L hL;have h2:=zbn q mm cq L p n c V hL hV;refine rS [.b,.v] (St.start w) kr fun gs1 w1 H1=>?_;cases e1:zO L with
 | false=>
  rw[e1]at h1;refine rS [.v,.l 0,.cp (pre:=fun w=>AtF sS w q mm L) h1 [] (fun w hb hd=>hS.call hb),.v,.n,.n,.v,.v] H1 kr fun gs2 w2 H2=>?_;exact rR [.tmp 2] [] (.bool false) H2 kr
 | true=>
  rw[e1]at h1;refine rS [.v,.l 0,.cp (pre:=fun w=>AtF sS w q mm L) h1 [] (fun w hb hd=>hS.call hb),.v,.l 0,.cp (pre:=fun w=>zD w L V q mm p n) h2 [] (fun w hb hd=>⟨hS.call hb,hVV.call hb⟩),.v,.v] H1 kr fun gs2 w2 H2=>?_;exact rR [.tmp 2] [] (.bool (yN L V)) H2 kr
end
section
open D2 (Gh Runs)
section
variable {P:Program}{B:Nat}{w0:World}
theorem zbo {w:World}(g:Nat)(C:Qd):w.grownBy (w.setRow g C) (some g):=⟨rfl,rfl,rfl,by simp,fun k _ hk=>setRow_other w g k _ (fun e=>hk (by simp[e]))⟩
theorem qs {dT sT e size:Nat}(hu:P.underlying dT=some (.slice e))(hs:(P.info? e).map (·.size)=some size){x y:Operand}{j b off dLen dCap sLen sCap:Nat}{a:Addr}{cur:Qd}{T:TypeId}{cs:List Value}{rd:List (Nat×(Nat×Obj))}
 (hn:cs.length=Uh sLen dLen*size) (hsrc: ∀w,Hd ((j,(b,.cells cur T))::rd) w-> ∀q v,cs[q]? =some v->w.cell? (a.add q)=some v) (hfit:off+cs.length<=cur.size) (h1: ∀v∈cs,v.oneCell'=true):
 ∀(ρ:Env) (o:Oper) (w:World),o.op=.call { callee:=.builtin .copy,args:=#[x,y],argTypes:=#[dT,sT] } ->Ins (ev ρ) [(x,.slice (some ⟨b,off,none⟩) dLen dCap),(y,.slice (some a) sLen sCap)]->Hd ((j,(b,.cells cur T))::rd) w->Below B w0 w->
  Runs P (fun v w'=> ∃g:Gh,v=.int .i64 ((Uh sLen dLen:Nat):Int)/\∃q,(List.lookup j ((j,(b,Obj.cells cur T))::rd))=some q/\w.grownBy w' (some q.1)/\w'.heap[q.1]? =some (.cells (zh cur off cs) T)) ((execOp (ev ρ) o).run P w):=fun ρ o w ho hi hd hb=>by
 have hg:w.heap[b]? =some (.cells cur T):=hd.1;have hrun:=zaw (P:=P) (w:=w) dT sT o.type e size hu hs b off dLen dCap a sLen sCap cur T cs hg hn (hsrc w hd) hfit h1;have hex:(execOp (ev ρ) o).run P w=.ok (.value (.int .i64 ((Uh sLen dLen:Nat):Int))) (w.setRow b (zh cur off cs)):=by
  unfold execOp;simp only[ho,resolve,invoke,builtin,QO,RY,QC,List.map_toArray,QJ,List.map_nil,hi.1,hi.2.1,hrun]
 rw[hex];exact⟨default,rfl,(b,.cells cur T),by simp[List.lookup],zbo b _,setRow_heap w b cur _ T (0,0) hg⟩
theorem qt {w:World}{b off:Nat}{cur:Qd}{T:TypeId}{fz:Nat×Nat}{cs:List Value}(hg:w.heap[b]? =some (.cells cur T fz))(h: ∀q v,cs[q]? =some v->cur[off+q]? =some v): ∀q v,cs[q]? =some v->w.cell? ((⟨b,off,none⟩:Addr).add q)=some v:=fun q v hq=>by
 rw[yS];simp[World.cell?,hg,h q v hq]
end
section
variable {α:Type}{S:Fl α}
theorem jr (L:List α)(i:Nat)(h:i<=L.length):zb S (L.take i)=(zb S L).take (i*S.K):=by
 have e:zb S L=zb S (L.take i)++zb S (L.drop i):=by rw[<-qk,List.take_append_drop]
 rw[e,List.take_left'];rw[yv,Qq,Rk h]
theorem uo (L:List α)(i:Nat)(h:i<=L.length):zb S (L.drop i)=(zb S L).drop (i*S.K):=by
 have e:zb S L=zb S (L.take i)++zb S (L.drop i):=by rw[<-qk,List.take_append_drop]
 rw[e,List.drop_left'];rw[yv,Qq,Rk h]
end
end
end Go.Proofs.Ytdlllbaejgoncaa
