/-
  Texts of the proof,part 2.
-/
import Derived.Deep.Upon
import Derived.Test.YtdlllbaejgoncaaRows
import Derived.ChangeArms
import Derived.ChangeSlices
import Derived.OpenShut
import Derived.Deep.Strs
import Derived.DataReads
import Derived.ProofKit
import Derived.WalkKit
import Derived.Below
import Derived.KernelRfl
import Derived.Test.YtdlllbaejgoncaaProg
import Derived.Handy
import Derived.WalkLawsBesides
import Derived.Shelf.Spec.BitsCarry
import Derived.Shelf.Bits.Mul64
import Derived.Laws.Bits64b
import Derived.Lib.BitFns
import Derived.Shelf.Strconv.Itoa0
import Derived.Lib.Hide
import Derived.Laws.StructEq
import Derived.ChangeKeysEq
import Derived.Test.YtdlllbaejgoncaaChecked
import Derived.Laws.IdiomArrays
import Derived.Lib.AppendStr
import Derived.Lib.Builder
import Derived.Recover
import Derived.Laws.BitsLemmas
import Derived.Laws.BitsAllLaws
import Derived.Laws.BytesArg
import Derived.Laws.Externs
import Derived.Test.YtdlllbaejgoncaaVK1
set_option maxRecDepth 100000
set_option maxHeartbeats 4000000
set_option linter.unusedVariables false
open Go Go.RowKit
open Bool renaming and_eq_true->Qk,false_ne_true->QN,eq_false_iff->QR,true_and->QU,or_eq_true->RL,false_or->RV,eq_iff_iff->Ue,and_false->UH
open DataW renaming trod->RQ
open Instr renaming sliceBounds->Ui,sliceBound->Um,sliceAt->Ut,slice->UE
open IntKind renaming i64->Qm
open List renaming getElem?_eq_getElem->Qj,sublist_cons_self->Qp,getElem?_eq_some_iff->Qr,length_take->Qv,drop_of_length_le->Qz,take_of_length_le->QA,range->QB,length_append->QD,map_cons->QI,mem_cons->QJ,append_assoc->QK,pairwise_cons->QL,mem_cons_self->QM,filter_append->Q2,mem_cons_of_mem->Q4,filter_cons_of_neg->Q8,filter_eq_self->Ra,mem_filter->Rf,sublist_append_left->Ro,length_cons->Rq,append_nil->Rt,filter_cons->Ru,not_mem_nil->Rv,length_filter_le->Ry,foldl_cons->Rz,perm_append_comm->RA,filter_cons_of_pos->RG,nodup_cons->RK,length_drop->RO,mem_singleton->RS,take_take->R7,filter_sublist->R9,mem_append->Ud,getElem?_drop->Uh,nil_append->Un
open List.Pairwise renaming filter->RF
open List.Perm renaming append_left->RT,cons->Uw,swap->Ux
open List.Sublist renaming cons_cons->QH,append->Re,refl->Rn
open Nat renaming eq_of_beq_eq_true->Ql,beq->Qn,le_refl->Qs,zero_add->Qu,beq_refl->QZ,zero_le->Q5,min_eq_left->Rk,le_trans->Rp,add_zero->RD,lt_irrefl->R3,min->Uc,lt_or_ge->UG
open Obj renaming cells->Qx
open Op renaming bytesLess->Rm,equalIn->UL
open Prod renaming ext->Uy
open UInt8 renaming ofNat->UB
open World renaming cell?->RW,frozen?->Up,shape?->Uu
open _root_.Array renaming length_toList->QE,getElem?_toList->Rd
open _root_.ByteArray renaming size->Qq
namespace Go.Proofs.Ytdlllbaejgoncaa
def sS:Fl Qa where
 K:=1
 cs x:=[.string x]
 pos:=by decide
 len _:=rfl
 one _:=fun u hu=>by obtain rfl:=RS.1 hu;rfl
theorem zt {P:Program}{ρ:Env}{t e:TypeId}{K bytes:Nat}(ht:zZ P t=some (e,K,bytes)){x y:Operand}{o:Oper}{kd:IntKind}{p:Qc}(b q n c k:Nat)(hp:p=some ⟨b,q,none⟩)(ho:o.op=.indexAddr t x y)(hx:ev ρ x=.slice p n c)(hy:ev ρ y=.int kd (k:Int))(hk:k<n):
 ∀w,(execOp (ev ρ) o).run P w=.ok (.value (.pointer (some ⟨b,q+k*K,none⟩))) w:=by
 subst hp;exact kH ht b q n c k ho hx hy hk
section
variable {α:Type}{S:Fl α}
def AtF (S:Fl α)(w:World)(p:Qc)(n:Nat)(L:List α):Prop:=n=L.length/\(L=[]\/∃b off C T fz,p=some ⟨b,off,none⟩/\w.heap[b]? =some (.cells C T fz)/\qr S C off L)
theorem AtF.call {w w':World}{p:Qc}{n:Nat}{L:List α}(h:AtF S w p n L)(hb:Below w.heap.size w w'):AtF S w' p n L:=by
 obtain⟨h1,h2⟩:=h;refine⟨h1,h2.imp id ?_⟩;rintro⟨b,off,C,T,fz,e,hh,hr⟩;exact⟨b,off,C,T,fz,e,by rw[hb.block b (zk hh)];exact hh,hr⟩
theorem AtF.take {w:World}{p:Qc}{n:Nat}{L:List α}(h:AtF S w p n L)(k:Nat)(hk:k<=n):AtF S w p k (L.take k):=by
 obtain⟨h1,h2⟩:=h;refine⟨by rw[Qv];omega,?_⟩;rcases h2 with rfl|⟨b,off,C,T,fz,e,hh,hr⟩
 ·exact .inl (by simp)
 ·exact .inr ⟨b,off,C,T,fz,e,hh,hr.take k⟩
theorem zz.atF {ty:TypeId}{p:Qc}{n c:Nat}{row:Qb}{L:List α}(h:zz S ty p n c row L){B:Nat}{w0 w:World}{l:Qb}(hS:St B w0 w l)(hl: ∀e∈row,e∈l):AtF S w p n L:=by
 rcases h with⟨rfl,rfl,rfl,rfl,rfl⟩|⟨b,cur,rfl,rfl,hr⟩
 ·exact⟨rfl,.inl rfl⟩
 ·exact⟨hr.lenF.symm,.inr ⟨b,0,cur,ty,(0,0),rfl,(hS.own _ (hl _ (RS.2 rfl))).2,hr.rowAt⟩⟩
def qH (p:Qc)(n c:Nat):Prop:=(p=none/\n=0/\c=0)\/((∃a,p=some a)/\n<=c)
theorem zaA {P:Program}{ρ:Env}{t e:TypeId}{size bytes:Nat}(ht:zZ P t=some (e,size,bytes)){x y:Operand}{o:Oper}{kd:IntKind}{p:Qc}{n c k:Nat}(h:qH p n c)(hk:k<=n)(ho:o.op=.slice t x none (some y) none)(hx:ev ρ x=.slice p n c)(hy:ev ρ y=.int kd (k:Int)):
 ∀w,(execOp (ev ρ) o).run P w=.ok (.value (.slice p k c)) w:=fun w=>by
 rcases h with⟨rfl,rfl,rfl⟩|⟨⟨a,rfl⟩,h2⟩
 ·obtain rfl:k=0:=by omega
  obtain⟨it,z,hu,hi,hz,hsz,hby,hzs,h0⟩:=yK ht;have hS:(sizeOf e).run P w=.ok size w:=by simp[sizeOf,typeInfo,hi,hsz]
  unfold execOp;simp[ho,hx,hy,Ut,UE,Ui,Um,asIntOf,run_underlying hu,hS]
 ·exact zau ht a n c k ho hx hy (by omega) w
theorem vt {P:Program}{ρ:Env}{w w0:World}{B:Nat}{bx n c mc e:Nat}{p:Qc}{row Z:Qb}{M0:List α}{y:α}(HS:St B w0 w ((bx,.cells (S.cs y).toArray e)::(row++Z)))(hrow:zz S e p n c row M0)
 {t bytes:Nat} {s x:Operand} {o:Oper} (ht:zZ P t=some (e,S.K,bytes)) (ho:o.op=yY t s x) (hs:ev ρ s=.slice p n c) (hx:ev ρ x=Qf bx 1 mc) (hb:(n+1)*bytes<=0x800000000000) (hm:n+1<=maxLen):
 ∃b' cap' cur' w',(execOp (ev ρ) o).run P w=.ok (.value (Qf b' (n+1) cap')) w'/\St B w0 w' ((b',.cells cur' e)::Z)/\Rw S.K cur' cap' (n+1) (zb S (M0++ [y])):=by
 have hY:(S.cs y).toArray.size=S.K:=by rw[List.size_toArray,S.len]
 have hone: ∀u∈(S.cs y).toArray.toList,u.oneCell'=true:=fun u hu=>S.one y u (by simpa using hu);rcases hrow with⟨rfl,rfl,rfl,rfl,rfl⟩ | ⟨b,cur,rfl,rfl,hrw⟩
 ·obtain⟨b',cap',cur',w',hrun,HS',hr'⟩:=vk (k:=0) HS ht ho hs hx rfl hY hone hb;refine⟨b',cap',cur',w',hrun,HS'.sub (QH _ (Qp ..)),?_⟩;rw[jS];exact hr'
 ·obtain⟨b',cap',cur',w',hrun,HS',hr'⟩:=vj (j:=1) (k:=0) HS ht ho hs rfl hrw hx rfl hY hone hb hm;refine⟨b',cap',cur',w',hrun,HS'.sub (Qp ..),?_⟩;rw[jS];exact hr'
end
section
variable {P:Program}{N:Nat}{ops:Array Oper}{K:Env->World->Prop}{ρ:Env}{w w0:World}{i B:Nat}{r:List Nat}{l:Qb}
theorem qI (HS:St B w0 w l)(d:Option Nat)(V:Nat->Value)(C:Qd)(T:TypeId)(h:opv P ops i ρ w=some (d,true,.ok (.value (V w.heap.size)) (w.alloc (.cells C T))))(hd:dOK d N=true)
 (kk: ∀b w',St B w0 w' ((b,.cells C T)::l)->WPs P N ops K r (zn ρ d (V b)) w'):WPs P N ops K (i::r) ρ w:=by
 obtain⟨o,ho,rfl,hw,hr⟩:=yc h;refine WPo.run ho hw fun a ha=>?_;rw[hr,Oper.upon_value];exact⟨_,ha.put _ (zV hd) _,kk w.heap.size _ (HS.alloc _)⟩
end
section
open Go.ChangeShapes Go.WideShapes Go.ChangeAt
theorem zaB {C:Qd}{o m:Nat}{l:List Value}(hl:l.length=m)(hm:0<m)(h: ∀j,j<m->C[o+j]? =l[j]?):o+m<=C.size/\C.extract o (o+m)=l.toArray:=by
 have hs:o+m<=C.size:=by
  have h1:=h (m-1) (by omega);rw[Qj (by omega)]at h1;have:=(Array.getElem?_eq_some_iff.1 h1).1;omega
 refine⟨hs,?_⟩;apply Array.toList_inj.1;apply List.ext_getElem?;intro i;rw[Rd,Array.getElem?_extract,List.toList_toArray];by_cases hi:i<m
 ·rw[if_pos (by omega),h i hi]
 ·rw[if_neg (by omega),List.getElem?_eq_none (by omega)]
section
variable {H:Type}{enc:TypeId×Value->H}{W:World}{sp:Nat->Bool}{held:Bool}
theorem zaC {a:Addr}{v:Value}(h:W.cell? a=some v):a=⟨a.block,a.off,none⟩/\∃C T fz,W.heap[a.block]? =some (.cells C T fz)/\C[a.off]? =some v:=by
 obtain⟨b,o,sp⟩:=a;unfold RW at h;split at h
 ·rename_i C T fz hh
  cases sp with
  | none=>simp at h;exact⟨rfl,C,T,fz,hh,h⟩
  | some x=>simp at h
 ·cases h
theorem zaD {b o:Nat}{C:Qd}{T:TypeId}{fz:Nat×Nat}{v:Option Value}(hh:W.heap[b]? =some (.cells C T fz))(h:W.cell? ⟨b,o,none⟩=v):C[o]? =v:=by
 unfold RW at h;simp only[hh]at h;simpa using h
theorem zaE {α:Type}{S:Fl α}{ok:α->Prop}{st et:TypeId}(hst:Try.prog.underlying st=some (.slice et))(hc:Try.prog.cellsOf et=S.K)(hone: ∀(fuel:Nat) (cs:List Value) (x:DataW H×List MemPlace),RQ enc Try.prog W 0 sp held fuel et cs=some x->∃a:α,cs=S.cs a/\ok a)
 {fuel:Nat} {c0:Value} {x:DataW H×List MemPlace} (hf:RQ enc Try.prog W 0 sp held fuel st [c0]=some x):
 ∃(q:Qc) (n c:Nat) (L:List α),c0=.slice q n c/\qH q n c/\(∀x∈L,ok x)/\AtF S W q n L:=by
 rcases DataW.trod_slice hst hf with⟨hc,hx⟩|⟨a,len0,cap0,elems,rest,n',rfl,hc',hx,_,hlc,hcm,hel,hels,_,_⟩
 ·obtain rfl:c0=.slice none 0 0:=by simpa using hc
  exact⟨none,0,0,[],rfl,.inl ⟨rfl,rfl,rfl⟩,(fun _ h=>nomatch h),rfl,.inl rfl⟩
 ·obtain rfl:c0=.slice (some a) len0 cap0:=by simpa using hc'
  have rows: ∀q,q<=len0->∃L:List α,L.length=q/\(∀x∈L,ok x)/\ ∀(i:Nat) (z:α),L[i]? =some z->W.cells? 0 (a.add (i*S.K)) S.K=some (S.cs z):=by
   intro q
   induction q with
   | zero=>exact fun _=>⟨[],rfl,(fun _ h=>nomatch h),fun i z h=>by simp at h⟩
   | succ q ihq=>
    intro hq;obtain⟨L,hL,hk,hcc⟩:=ihq (by omega);have hi:=hels q (by omega);rw[hc]at hi;have hlt:q<elems.length:=by omega
    rw[Qj hlt]at hi;obtain⟨cs',hcs,ht⟩:=Option.bind_eq_some_iff.1 hi;obtain⟨nd,rfl,hnd⟩:=hone n' cs' _ ht;refine⟨L++ [nd],by simp[hL],fun x hx=>?_,fun i z hz=>?_⟩
    ·rcases Ud.1 hx with hx|hx
     ·exact hk x hx
     ·rw[RS.1 hx];exact hnd
    by_cases hiq:i<L.length
    ·rw[List.getElem?_append_left hiq]at hz;exact hcc i z hz
    ·rw[List.getElem?_append_right (by omega)]at hz;have:i-L.length=0:=by
      have:=(Qr.1 hz).1;simp at this;omega
     rw[this]at hz;simp at hz;subst hz;obtain rfl:i=q:=by omega
     exact hcs
  obtain⟨L,hL,hk,hcl⟩:=rows len0 (Qs _);refine⟨some a,len0,cap0,L,rfl,.inr ⟨⟨a,rfl⟩,hlc⟩,hk,hL.symm,?_⟩;cases L with
  | nil=>exact .inl rfl
  | cons z0 L0=>
   have f0:=(World.cells?_some (hcl 0 z0 rfl)).2.2 0 S.pos;rw[Nat.zero_mul]at f0;have e0:(a.add 0).add 0=a:=rfl;rw[e0,Qj (by rw[S.len];exact S.pos)]at f0;obtain⟨ea,C,T,fz,hh,hC0⟩:=zaC f0;refine .inr ⟨a.block,a.off,C,T,fz,congrArg some ea,hh,fun i z hz=>?_⟩;refine zaB (S.len z) S.pos fun j hj=>?_;have h9:=(World.cells?_some (hcl i z hz)).2.2 j hj;rw[ea,yS,yS]at h9;exact zaD hh h9
theorem vu {α:Type}{S:Fl α}{ok:α->Prop}{st et:TypeId}(hst:Try.prog.underlying st=some (.slice et))(hc:Try.prog.cellsOf et=S.K)(hone: ∀(fuel:Nat) (cs:List Value) (x:DataW H×List MemPlace),RQ enc Try.prog W 0 sp held fuel et cs=some x->∃a:α,cs=S.cs a/\ok a)
 {v:Value} {d:DataW H} {p:List MemPlace} {base:Nat} (hv:Value.okWide Try.prog W .any base st v) (h:DataW.Trod enc Try.prog W 0 sp held st v d p):
 ∃(q:Qc) (n c:Nat) (L:List α),v=.slice q n c/\qH q n c/\(∀x∈L,ok x)/\AtF S W q n L:=by
 obtain⟨ao,len0,cap0,rfl⟩:=okWide_slice hst hv;obtain⟨fuel,hf⟩:=h;exact zaE hst hc hone (show RQ enc Try.prog W 0 sp held fuel st [.slice ao len0 cap0]=some (d,p) from hf)
end
end
def big:Nat:=0x10000000000000000000000000000000000000000000000000000000000000000
end Go.Proofs.Ytdlllbaejgoncaa
namespace Go.Proofs.Ec
section
variable {F:Type}[Lean.Grind.Field F]
variable [DecidableEq F]
end
end Go.Proofs.Ec
namespace Go.Proofs.Ytdlllbaejgoncaa
def PrP (p:Nat):Prop:=1<p/\ ∀d,d∣p->d=1\/d=p
theorem zaF {n:Nat} : ∀k,(∃d,1<d/\d<=k/\d∣n)->∃r,1<r/\r∣n/\ ∀d,1<d->d∣n->r<=d
 | 0,⟨d,h1,h2,_⟩=>by omega
 | k+1,⟨d,h1,h2,h3⟩=>by
  by_cases h:∃d,1<d/\d<=k/\d∣n
  ·exact zaF k h
  ·have hd:d=k+1:=by
    rcases UG k d with h' | h'
    ·omega
    ·exact absurd ⟨d,h1,h',h3⟩ h
   refine⟨d,h1,h3,fun e he hen=>?_⟩;rcases UG e d with h' | h'
   ·exact absurd ⟨e,he,by omega,hen⟩ h
   ·exact h'
def row (a r:Nat):Nat->List Nat
 | 0=>[]
 | n+1=>a*(n+1)%r::row a r n
end Go.Proofs.Ytdlllbaejgoncaa
namespace Go.Proofs.Zm
open Go.Proofs.Ytdlllbaejgoncaa
class PrM (M:Nat):Prop where
 pr:PrP M
 two:2<M
section
variable {M:Nat}[hM:PrM M]
end
end Go.Proofs.Zm
namespace Go.Proofs.Ytdlllbaejgoncaa
section
open Go.ChangeShapes Go.WideShapes Go.ChangeAt
def pl (A B:Nat):Nat:=A*B%big
end
def rs (L H M:Nat):Nat:=(L+big*H)%M
end Go.Proofs.Ytdlllbaejgoncaa
namespace Go.Proofs.Ec
open Go.Proofs.Ytdlllbaejgoncaa Go.Proofs.Zm
section
variable {F:Type}[Lean.Grind.Field F][DecidableEq F]
structure zaG (b:F):Prop where
 two:(2:F)≠0
 three:(3:F)≠0
 b:b≠0
variable {b:F}(g:zaG b)
include g
end
end Go.Proofs.Ec
namespace Go.Proofs.Ytdlllbaejgoncaa
section
open Go.ChangeShapes Go.WideShapes Go.ChangeAt
end
section
open Go.ChangeShapes Go.WideShapes Go.ChangeAt Go.Shelf
end
def len (A:Nat):Nat:=if A=0 then 0 else Nat.log2 A+1
section
open Go.ChangeShapes Go.WideShapes Go.ChangeAt
end
section
def vl:List Nat->Nat
 | []=>0
 | d::r=>d+65536*vl r
open Go
def ls (x y:List Nat):Bool:=decide (vl x<vl y)
end
section
variable {P:Program}{N:Nat}{ops:Array Oper}{i:Nat}{r:List Nat}{K:Env->World->Prop}{ρ:Env}{w:World}{B:Nat}{w0:World}{l:Qb}
end
namespace D2
section
variable {P:Program}{ops:Array Oper}{R:(Nat->Gh)->Env}{i:Nat}{d:Option Nat}
variable {E:(Nat->Bool)->(Nat->Gh)->List Ent}{F:(Nat->Bool)->(Nat->Gh)->Prop}{B:Nat}{w0:World}
end
end D2
section
open Go.ChangeShapes Go.WideShapes Go.ChangeAt
end
inductive Fo
 | nil
 | cons (l:Bool) (s:Qa) (k r:Fo)
def dgI:Nat->Nat->List UInt8
 | 0,_=>[]
 | m+1,n=>if n=0 then [] else dgI m (n / 256)++ [UB n]
def dg (n:Nat):List UInt8:=dgI 8 n
def hd (f n:Nat):List UInt8:=if n<=55 then [UB (f+n)] else UB (f+55+(dg n).length)::dg n
section
variable {l:Bool}{s:Qa}{n y:Nat}{k:Fo}
end
section
variable {P:Program}{N:Nat}{ops:Array Oper}{i:Nat}{r:List Nat}{K:Env->World->Prop}{ρ:Env}{w:World}{w0:World}{l E:Qb}
end
section
variable {P:Program}{ops:Array Oper}{R:(Nat->D2.Gh)->Env}{i:Nat}{d:Option Nat}{w0:World}{p:Nat}{T e:TypeId}{out':List UInt8}{bx:Nat×Obj}{E:Qb}{q:Nat}
end
section
variable {P:Program}{ops:Array Oper}{R:(Nat->D2.Gh)->Env}{i:Nat}{d:Option Nat}{w0:World}{l:Qb}{q:Nat}
end
structure X3 where
 l:Bool
 s:Qa
 p:Qc
 n:Nat
 c:Nat
 k:Fo
def val (l:List UInt8):Nat:=l.foldl (fun n b=>n*256+b.toNat) 0
theorem rwB (s:Qa)(h:Qq s<=maxLen):Rw 1 (yh (tl s)).toArray (Qq s) (Qq s) (yh (tl s)):=
 ⟨by rw[jQ,jP];omega,Qs _,h,by rw[QA (by simp[jQ,jP])],by simp[jQ,jP]⟩
theorem zaH {P:Program}{ρ:Env}{t e:TypeId}{bytes:Nat}(ht:zZ P t=some (e,1,bytes)){x y:Operand}{o:Oper}{kd:IntKind}(b n c:Nat)(ho:o.op=.indexAddr t x y)(hx:ev ρ x=Qf b n c)(hy:ev ρ y=.int kd 0)(hk:0<n):
 ∀w,(execOp (ev ρ) o).run P w=.ok (.value (Qe b)) w:=fun w=>
 kH (P:=P) (kd:=kd) ht b 0 n c 0 ho hx hy hk w
theorem zaI (s:Qa)(hs:Qq s<=1000000):Fn Try.prog 47 #[.string s] (.string s):=by
 refine Fn.intro (c:=zr Try.f47) [.tmp 2] 18 Try.func47 kr kr kr fun w=>?_;have H0:=St.start w;refine zo [0] kr kr<|zW (some 2) (.string (⟨#[]⟩)) (fun w=>by kernel_rfl) kr<|zl<|ze kr<|zo [0,1,2] kr kr<|zW (some 4) (.string s) (fun w=>by kernel_rfl) kr<|zW (some 5) (.int .i64 (Qq s:Int)) (fun w=>by kernel_rfl) kr ?_;by_cases hc1:(Qq s:Nat)=0
 ·refine xp (some 6) (.bool ((Qq s:Int)==0)) (.bool true) (fun w=>by kernel_rfl) (za (beq_iff_eq.2 (by omega))) kr<|zl<|yd kr kr<|zo [0] kr kr<|zW (some 2) (.string (⟨#[]⟩)) (fun w=>by kernel_rfl) kr<|zl<|je kr<|wV ?_;refine⟨[.string (⟨#[]⟩)],(.tmp (.string (⟨#[]⟩)) kr .nil),?_,H0.below⟩;exact congrArg Value.string (xI (List.eq_nil_of_length_eq_zero (by rw[jP];omega):tl s=[]).symm)
 ·refine xp (some 6) (.bool ((Qq s:Int)==0)) (.bool false) (fun w=>by kernel_rfl) (za (beq_eq_false_iff_ne.2 (by omega))) kr<|zl<|zN kr kr<|zQ kr<|wW<|zo [0,1,2,3] kr kr<|zW (some 7) (.string s) (fun w=>by kernel_rfl) kr<|zW (some 8) (.int .i64 (Qq s:Int)) (fun w=>by kernel_rfl) kr<|zap H0 (some 9) 69 5 1 (.int .u8 0) (.tmp 8) (.tmp 8) .i64 .i64 (Qq s) kr kr kr kr rfl kr kr (by omega) (by unfold maxLen;omega) ?_;intro b_1 cur_2 w1 H1 hr_3;clear H0;have hr_3z:Rw 1 cur_2 (Qq s) (Qq s) (yh (List.replicate (Qq s) 0)):=by rw[zar];exact hr_3
  refine zW (some 3) (Qf b_1 (Qq s) (Qq s)) (fun w=>by kernel_rfl) kr<|zl<|zo [0,1,2] kr kr<|zW (some 10) (Qf b_1 (Qq s) (Qq s)) (fun w=>by kernel_rfl) kr<|zW (some 11) (.string s) (fun w=>by kernel_rfl) kr<|zas H1 (some 12) 69 9 5 1 (.tmp 10) (.tmp 11) 0 b_1 (Qq s) (Qq s) s cur_2 ((yh (tl s)).toArray) 5 [(b_1,Qx ((yh (tl s)).toArray) 5)] kr kr kr kr kr kr (by omega) (Nat.le_of_eq (by have h:=hr_3z.sz;rw[h];omega)) (by rw[Qz (by have h:=hr_3z.sz;rw[QE,h];omega),Rt]) kr ?_;intro w2 H2;clear H1;refine zl<|zo [0,1,2,3,4,5] kr kr<|zW (some 13) (Qf b_1 (Qq s) (Qq s)) (fun w=>by kernel_rfl) kr<|zad (some 14) _ (Qe b_1) kr kr (fun o w ho=>zaH (kd:=.i64) (t:=69) (e:=5) (bytes:=1) kr (x:=(.tmp 13)) (y:=(.const (.int .i64 0))) b_1 (Qq s) (Qq s) ho kr kr (by omega) w)<|zW (some 15) (Qf b_1 (Qq s) (Qq s)) (fun w=>by kernel_rfl) kr<|zW (some 16) (.int .i64 (Qq s:Int)) (fun w=>by kernel_rfl) kr<|zat H2 (some 17) 70 3 5 (.tmp 14) (.tmp 16) (Qq s) (Qq s) (tl s) kr kr kr kr rfl kr kr (rwB s (by unfold maxLen;omega)) (by omega) (by omega) ?_;intro w3 H3;clear H2;refine zW (some 2) (.string (qE (tl s))) (fun w=>by kernel_rfl) kr<|zl<|je kr<|wV ?_;refine⟨[.string (qE (tl s))],(.tmp (.string (qE (tl s))) kr .nil),?_,H3.below⟩;rfl
theorem xO (s:Qa)(hs:Qq s<=1000000):Fn Try.prog 34 #[.string s] (.string s):=by
 refine Fn.intro (c:=zr Try.f34) [.tmp 2] 5 Try.func34 kr kr kr fun w=>?_;have H0:=St.start w;refine zo [0] kr kr<|zW (some 2) (.string (⟨#[]⟩)) (fun w=>by kernel_rfl) kr<|zl<|zo [0,1,2] kr kr<|zW (some 3) (.string s) (fun w=>by kernel_rfl) kr<|zae H0 (some 4) 47 #[.string s] (.string s) (zaI s (by omega)) (fun w=>by kernel_rfl) kr ?_;intro w1 H1;clear H0;refine zW (some 2) (.string s) (fun w=>by kernel_rfl) kr<|zl<|je kr<|wV ?_;refine⟨[.string s],(.tmp (.string s) kr .nil),?_,H1.below⟩;rfl
section
variable {P:Program}{N:Nat}{ops:Array Oper}{i:Nat}{r:List Nat}{K:Env->World->Prop}{ρ:Env}{w:World}{B:Nat}{w0:World}{l:Qb}
end
section
variable {P:Program}{N:Nat}{ops:Array Oper}{Q:Exit->Env->World->Prop}{K:Env->World->Prop}{ρ:Env}{w:World}{i:Nat}{r:List Nat}{c:Code}
end
section
variable {P:Program}{N:Nat}{ops:Array Oper}{Q:Exit->Env->World->Prop}{K:Env->World->Prop}{ρ:Env}{w w0:World}{i B:Nat}{r:List Nat}{l:Qb}
end
namespace D2
section
variable {P:Program}{N:Nat}{ops:Array Oper}{Q:Exit->Env->World->Prop}{K:Env->World->Prop}{ρ:Env}{w:World}{vs:List (Option Nat×(Gh->Value))}{pre:(Nat->Bool)->(Nat->Gh)->World->Prop}{Bad:List PanicEntry->World->Prop}
end
end D2
section
variable {P:Program}{ρ:Env}{w w0:World}{B:Nat}{l:Qb}
end
section
variable {B:Nat}{w0:World}{t:Qa}{b2 b3 b4:Nat}{p:Qc}{n c:Nat}{row:Qb}{M:List X3}{L0:Qb}{L:Nat->Bool}{g:Nat->D2.Gh}{w:World}
end
section
variable {P:Program}{N:Nat}{ops:Array Oper}{Q:Exit->Env->World->Prop}{K:Env->World->Prop}{ρ:Env}{w:World}{i:Nat}{ds:List Deferred}
variable {c:Code}
end
section
variable {P:Program}{N:Nat}{ops:Array Oper}{ρ:Env}{w w':World}{i:Nat}{ds:List Deferred}{c:Code}{rest:List Nat}{a:Act}{cs:List Frame}
variable {Q:Exit->Act->List Frame->World->Prop}
end
section
variable {P:Program}{N:Nat}{ops:Array Oper}{ρ:Env}{w w':World}{i:Nat}{rest:List Nat}{a:Act}{Q:Exit->Act->World->Prop}
end
section
variable {P:Program}{N:Nat}{ops:Array Oper}{K:Env->World->Prop}{ρ:Env}{w w0:World}{i B:Nat}{r:List Nat}{l:Qb}
end
section
open D2 (Gh)
end
section
variable {B:Nat}{w0:World}{bq bf bk:Nat}{qO kO:Obj}{p:Qc}{i c:Nat}{row:Qb}{M:List (El (Nat×Qa))}{ok:El (Nat×Qa)->Qb->Prop}{T:Qb}{L:Nat->Bool}{g:Nat->D2.Gh}{w w':World}
end
section
variable {B:Nat}{w0:World}{bd b2 bo:Nat}{dO bO:Obj}{kv:Value}{cur:Qd}{N en:Nat}{row:Qb}{xs:List Value}{T:Qb}{L:Nat->Bool}{g:Nat->D2.Gh}{w:World}
end
section
section
variable {p H Q:Nat}
end
open Go Go.RowKit Go.Proofs.Zm
end
section
open Go.ChangeShapes Go.WideShapes Go.ChangeAt
end
end Go.Proofs.Ytdlllbaejgoncaa
namespace Go.Proofs.Kec
end Go.Proofs.Kec
namespace Go.Proofs.Ytdlllbaejgoncaa
namespace Ke
open Go.Proofs.Kec
end Ke
section
open Go.Proofs.Kec
end
section
open Go.Proofs.Kec Ke
end
section
open Go.ChangeShapes Go.WideShapes Go.ChangeAt
end
def hv:List UInt8->List UInt8
 | []=>[]
 | b::t=>(b >>> 4)::(b &&& 15)::hv t
def isP (l:List UInt8):Bool:=l.all fun b=>decide (b.toNat<=15)
def jn:List UInt8->List UInt8
 | a::b::t=>(a <<< 4 ||| b)::jn t
 | _=>[]
theorem qT {l:List Value}(h:l.all (·.oneCell')=true): ∀u∈l,u.oneCell'=true:=fun u hu=>List.all_eq_true.1 h u hu
def zd:List UInt8->List UInt8->Bool
 | [],[]=>false
 | [],_::_=>true
 | _::_,[]=>false
 | a::l,b::m=>if a.toNat<b.toNat then true else if a=b then zd l m else false
theorem zaJ (l:List UInt8):zd l []=false:=by cases l<;>rfl
theorem qU: ∀l:List UInt8,zd l l=false
 | []=>rfl
 | a::l=>by simp only[zd,R3,if_false,if_true];exact qU l
theorem vv {a b:UInt8}{l m:List UInt8}(h:zd (a::l) (b::m)=true):a.toNat<b.toNat\/(a=b/\zd l m=true):=by
 unfold zd at h;split at h
 ·rename_i q;exact .inl q
 ·split at h
  ·rename_i q;exact .inr ⟨q,h⟩
  ·cases h
theorem qt {x y z:List UInt8} :zd x y=true->zd y z=true->zd x z=true:=by
 induction x generalizing y z with
 | nil=>
  intro h1 h2;cases z with
  | nil=>rw[zaJ]at h2;cases h2
  | cons c z=>rfl
 | cons a x ih=>
  intro h1 h2;cases y with
  | nil=>cases h1
  | cons b y=>
   cases z with
   | nil=>cases h2
   | cons c z=>
    unfold zd;rcases vv h1 with q1 | ⟨rfl,q1⟩<;>rcases vv h2 with q2 | ⟨rfl,q2⟩
    ·rw[if_pos (by omega)]
    ·rw[if_pos q1]
    ·rw[if_pos q2]
    ·rw[if_neg (R3 _),if_pos rfl];exact ih q1 q2
structure Nd where
 kind:Int
 part:Qa
 value:Qa
 kids:List Int
def kyB (l:List UInt8):Bool:=isP l&& !decide (l.length%2=1)
def kyS (l:List UInt8):Qa:=bif kyB l then qE (jn l) else ⟨#[]⟩
theorem zX {P:Program}{ρ:Env}{t e:TypeId}{size bytes:Nat}(ht:zZ P t=some (e,size,bytes)){x z:Operand}{o:Oper}{kz:IntKind}(b q n c j:Nat)(ho:o.op=.slice t x (some z) none none)(hx:ev ρ x=.slice (some ⟨b,q,none⟩) n c)
 (hz:ev ρ z=.int kz (j:Int)) (hj:j<=n) (hn:n<=c):
 ∀w,(execOp (ev ρ) o).run P w=.ok (.value (.slice (some ⟨b,if c=j then q else q+j*size,none⟩) (n-j) (c-j))) w:=fun w=>by
 obtain⟨it,z',hu,hi,hz',hsz,hby,hzs,h0⟩:=yK ht;have hS:(sizeOf e).run P w=.ok size w:=by simp[sizeOf,typeInfo,hi,hsz]
 unfold execOp;by_cases hc:c=j
 ·have hnj:n=j:=by omega
  subst hc hnj;simp[ho,hx,hz,Ut,UE,Ui,Um,asIntOf,run_underlying hu,hS]
 ·simp[ho,hx,hz,Ut,UE,Ui,Um,asIntOf,run_underlying hu,hS,hj,yS,hc]
section
variable {P:Program}{N:Nat}{ops:Array Oper}{i:Nat}{r:List Nat}{K:Env->World->Prop}{ρ:Env}{w:World}
end
abbrev Pr:=Qa×Qa
def zaK (k v:Qa):Bool:=(decide (1<=k.size)&&decide (k.size<=32))&&(decide (1<=v.size)&&decide (v.size<=500))
def zaL (part:List UInt8)(v:Qa)(ps:List Pr):List Pr:=if zaK (kyS part) v=true then ps++ [(kyS part,v)] else ps
def zaM (kind:Int)(i:Nat):List UInt8:=if kind=3 then [UB i] else []
def xP (go:Int->List UInt8->Nat×List Pr->Nat×List Pr)(x:Nd)(part:List UInt8):Nat->Nat×List Pr->Nat×List Pr
 | 0,s=>s
 | i+1,s=>if x.kids.getD i (-1)= -1 then xP go x part i s else go (x.kids.getD i (-1)) (part++zaM x.kind i) (xP go x part i s)
def vw (A:List Nd):Nat->Int->List UInt8->Nat×List Pr->Nat×List Pr
 | 0,_,_,s=>s
 | f+1,at_,ahead,s=>
  if s.1=0\/at_<0\/(A.length:Int)<=at_ then s
  else match A[at_.toNat]? with
   | none=>s
   | some x=>if 64<ahead.length+x.part.size then (s.1-1,s.2)
    else xP (vw A f) x (ahead++tl x.part) 16 (s.1-1,zaL (ahead++tl x.part) x.value s.2)
section
variable {P:Program}{N:Nat}{ops:Array Oper}{i:Nat}{r:List Nat}{K:Env->World->Prop}{ρ:Env}{w:World}
end
theorem vx: ∀x y:List UInt8,Rm x y=zd x y
 | [],[]=>rfl
 | [],_::_=>rfl
 | _::_,[]=>rfl
 | a::x,b::y=>by
  unfold Rm zd;rw[vx x y];by_cases h:a.toNat<b.toNat
  ·rw[if_pos h,decide_eq_true (show a<b from h)];rfl
  ·rw[if_neg h,decide_eq_false (show ¬a<b from h)];by_cases e:a=b
   ·rw[if_pos e,e];simp
   ·rw[if_neg e];simp[e]
theorem qJ (a b:Qa):Rm a.toList b.toList=zd (tl a) (tl b):=by
 rw[ByteArray.toList_eq,ByteArray.toList_eq];exact vx _ _
def zbW (A:List Nd)(root:Int):List Pr:=(vw A 192 root [] (192,[])).2
theorem yk {α:Type}{L:List α}{i:Nat}{a:α}(ha:L[i]? =some a):L.take (i+1)=L.take i++ [a]:=by
 rw[List.take_add_one,ha];rfl
theorem vy: ∀ {x y:List UInt8},zd x y=false->x≠y->zd y x=true
 | [],[],_,h=>absurd rfl h
 | [],_::_,h,_=>by simp[zd]at h
 | _::_,[],_,_=>rfl
 | a::x,b::y,h,hne=>by
  unfold zd at h⊢;by_cases e:a=b
  ·subst e;have hlt: ¬a.toNat<a.toNat:=R3 _;simp only[R3,if_false,if_true]at h⊢;exact vy h fun e=>hne (by rw[e])
  ·have hn:a.toNat≠b.toNat:=fun q=>e (UInt8.toNat_inj.1 q);by_cases c:b.toNat<a.toNat
   ·rw[if_pos c]
   ·have:a.toNat<b.toNat:=by omega
    rw[if_pos this]at h;cases h
def upB:Option Qa->Qa->Bool
 | none,_=>true
 | some p,a=>zd (tl p) (tl a)
theorem qc {α:Type}{L:List α}{i:Nat}{x:α}(h:L[i]? =some x):L.drop i=x::L.drop (i+1):=by
 obtain⟨hi,rfl⟩:=Qr.1 h;exact(List.getElem_cons_drop (h:=hi)).symm
def yl:Option Qa->Qi->Bool
 | _,[]=>true
 | p,a::r=>decide (a.size=20)&&(upB p a&&yl (some a) r)
def zJ (L:Qi):Bool:=yl none L&&(decide (0<L.length)&&decide (L.length<=16))
theorem isK {l:List (Nat×Value)}{ρ:Env}(h:l.map (fun p=>ρ p.1)=l.map (·.2):=by kernel_rfl):Is l ρ:=by
 refine Is.of ?_
 induction l with
 | nil=>trivial
 | cons p r ih=>
  simp only[QI,List.cons.injEq]at h;exact⟨h.1,ih h.2⟩
section
variable {P:Program}{N:Nat}{c:Code}{Q:Exit->Env->World->Prop}{ρ:Env}{w:World}
theorem zq (k:Q .normal ρ w)(h:(qN c&&jD (jB c))=true:=by kernel_rfl)(hx:ev ρ (qj c)=.bool false:=by kernel_rfl):WP P N c Q ρ w:=by
 rw[Qk]at h;exact zN h.1 hx (zQ h.2 k)
theorem zu (k:WP P N (jA c) Q ρ w)(h:qN c=true:=by kernel_rfl)(hx:ev ρ (qj c)=.bool true:=by kernel_rfl):WP P N c Q ρ w:=yd h hx k
def xQ (c:Code):Code:=qk (qk c)
def jp (c:Code):Code:=zI (xQ c)
def yz (c:Code):Code:=yx (xQ c)
def jq (c:Code):Code:=qk (zI (yx (yz c)))
def qK (c:Code):Code:=yx (yx (yz c))
def jr (n:Nat):Code->Bool
 | .region _ ops d=>Qn ops.size n&& !d
 | _=>false
theorem vz {n:Nat}{c:Code}(h:jr n c=true):∃id,c=.region id (zc c) false/\QB (zc c).size=QB n:=by
 cases c with
 | region id ops d=>
  cases d with
  | true=>simp[jr]at h
  | false=>
   simp only[jr,Bool.not_false,Bool.and_true]at h;exact⟨id,rfl,congrArg QB (Ql h)⟩
 | _=>cases h
def jT (a:Option Nat)(b:Nat):Bool:=match a with
 | some x=>Qn x b
 | none=>false
theorem xR {a:Option Nat}{b:Nat}(h:jT a b=true):a=some b:=by
 cases a with
 | none=>cases h
 | some x=>exact congrArg some (Ql h)
def jU (nt ni b0 b1 tc:Nat)(c:Code):Bool:=
 jT (jC c) b0&&(xm (qk c)&&(yy (xQ c)&&(jr nt (jp c)&&(yy (yz c)&&(qN (zI (yz c))&&(jD (jA (zI (yz c)))&&(jT (xn (jB (zI (yz c)))) b0&&(yy (yx (yz c))&&(jT (jC (zI (yx (yz c)))) b1&&jr ni (qK c))))))))))
abbrev xS (ti b0 b1:Nat)(inc:Env->Env)(I:Nat->Env->World->Prop)(Q:Exit->Env->World->Prop)(i:Nat):Exit->Env->World->Prop
 | .normal,ρ,w=>ρ ti=iN i/\I (i+1) (inc ρ) w
 | .exit k,ρ,w=>bif Qn k b1 then ρ ti=iN i/\I (i+1) (inc ρ) w else bif Qn k b0 then Q .normal ρ w else Q (.exit k) ρ w
 | e,ρ,w=>Q e ρ w
theorem vA {ti b0 b1 tc nt ni n:Nat}{tst:Nat->Env->Env}{inc:Nat->Env->Env}(I:Nat->Env->World->Prop)
 (hs:jU nt ni b0 b1 tc c=true) (hx:qj (zI (yz c))=.tmp tc)
 (hT: ∀i ρ w K,I i ρ w->K (tst i ρ) w->WPs P N (zc (jp c)) K (QB nt) ρ w) (hv: ∀i ρ w,I i ρ w->tst i ρ tc=.bool (decide ((i:Int)<(n:Int))))
 (hJ: ∀i ρ w K,i<n->ρ ti=iN i->K (inc i ρ) w->WPs P N (zc (qK c)) K (QB ni) ρ w)
 (h0:I 0 ρ w) (hb: ∀i ρ w,i<n->I i ρ w->WP P N (jq c) (xS ti b0 b1 (inc i) I Q i) (tst i ρ) w) (he: ∀ρ w,I n ρ w->Q .normal (tst n ρ) w):WP P N c Q ρ w:=by
 unfold jU at hs;simp only[Qk]at hs;obtain⟨s1,s2,s3,s4,s5,s6,s7,s8,s9,s10,s11⟩:=hs;obtain⟨id1,e1,l1⟩:=vz s4;obtain⟨id2,e2,l2⟩:=vz s11;refine yC b0 (xR s1)<|qQ s2 (fun m ρ w=> ∃i,n-i=m/\i<=n/\I i ρ w) n ⟨0,rfl,Q5 _,h0⟩ ?_;rintro m ρ w ⟨i,rfl,hin,hI⟩;refine ze s3 ?_;show WP P N (jp c) _ ρ w;rw[e1];refine WP.region _ l1<|hT i ρ w _ hI ?_;show WP P N (yz c) _ (tst i ρ) w;refine ze s5 ?_;have hval:=hv i ρ w hI;by_cases hi:i<n
 ·refine yd s6 (by rw[hx];show tst i ρ tc=_;rw[hval,decide_eq_true (by omega)])<|zQ s7 ?_;show WP P N (yx (yz c)) _ (tst i ρ) w;refine ze s9<|yC b1 (xR s10) ?_;have hfin: ∀(Q3:Exit->Env->World->Prop) ρ' w',(ρ' ti=iN i/\I (i+1) (inc i ρ') w')->(∀e ρ w,Q3 e ρ w=Q3 e ρ w)->WP P N (qK c) (nx (fun ρ' w'=> ∃m,m<n-i/\∃i,n-i=m/\i<=n/\I i ρ' w') Q3) ρ' w':=fun Q3 ρ' w' h _=>by
   rw[e2];refine WP.region _ l2 ?_;exact hJ i ρ' w' _ hi h.1 ⟨n-(i+1),by omega,i+1,rfl,by omega,h.2⟩
  refine kF (hb i ρ w hi hI) fun e ρ' w' h=>?_;cases e with
  | normal=>exact hfin _ ρ' w' h fun _ _ _=>rfl
  | exit k=>
   show bif Qn k b1 then _ else _;change (bif Qn k b1 then _ else _)at h;cases hk:Qn k b1 with
   | true=>rw[hk]at h;exact hfin _ ρ' w' h fun _ _ _=>rfl
   | false=>rw[hk]at h;exact h
  | _=>exact h
 ·obtain rfl:i=n:=by omega
  refine zN s6 (by rw[hx];show tst i ρ tc=_;rw[hval,decide_eq_false (by omega)])<|qm b0 (xR s8) ?_;show bif Qn b0 b0 then _ else _;rw[QZ];exact he ρ w hI
theorem ye (ti tn tc tj b0 b1 n:Nat)(hn:n<=0x4000000000000000)(I:Nat->Env->World->Prop)(hI: ∀i ρ w,I i ρ w->ρ ti=iN i/\ρ tn=iN n)
 (h0:I 0 ρ w) (hb: ∀i ρ w,i<n->I i ρ w->WP P N (jq c) (xS ti b0 b1 (fun ρ=>upd (upd ρ tj (iN (i+1))) ti (iN (i+1))) I Q i) (upd ρ tc (.bool true)) w)
 (he: ∀ρ w,I n ρ w->Q .normal (upd ρ tc (.bool false)) w)
 (hs:jU 1 2 b0 b1 tc c=true:=by kernel_rfl) (hx:qj (zI (yz c))=.tmp tc:=by kernel_rfl)
 (ht: ∀(ρ0:Env) (i:Nat) w,opv P (zc (jp c)) 0 (upd (upd ρ0 tn (iN n)) ti (iN i)) w=some (some tc,true,.ok (.value (.bool (decide ((i:Int)<(n:Int))))) w):=by exact fun ρ0 i w=>by kernel_rfl)
 (hj: ∀(ρ0:Env) (i:Nat) w,opv P (zc (qK c)) 0 (upd ρ0 ti (iN i)) w=some (some tj,true,.ok (.value (.int .i64 (Qm.wrap ((i:Int)+1)))) w):=by exact fun ρ0 i w=>by kernel_rfl)
 (hk: ∀(ρ0:Env) (v:Value) w,opv P (zc (qK c)) 1 (upd ρ0 tj v) w=some (some ti,true,.ok (.value v) w):=by exact fun ρ0 v w=>by kernel_rfl)
 (hd:(dOK (some tc) N&&(dOK (some tj) N&&dOK (some ti) N))=true:=by kernel_rfl):WP P N c Q ρ w:=by
 simp only[Qk]at hd;refine vA (ti:=ti) (tst:=fun i ρ=>upd ρ tc (.bool (decide ((i:Int)<(n:Int))))) (inc:=fun i ρ=>upd (upd ρ tj (iN (i+1))) ti (iN (i+1))) (n:=n) I hs hx (fun i ρ w K h k=>?_) (fun i ρ w h=>?_) (fun i ρ w K hi h k=>?_) h0 (fun i ρ w hi h=>?_) (fun ρ w h=>?_)
 ·have e:upd (upd ρ tn (iN n)) ti (iN i)=ρ:=by rw[qo (hI i ρ w h).2,qo (hI i ρ w h).1]
  refine zW (some tc) _ (fun w=>e▸ht ρ i w) hd.1 ?_;exact zl k
 ·show upd ρ tc _ tc=_;unfold upd;rw[QZ];rfl
 ·have e:upd ρ ti (iN i)=ρ:=qo h;refine xp (some tj) _ (iN (i+1)) (fun w=>e▸hj ρ i w) (zf (zw (a:=i) (b:=1) (by omega))) hd.2.1<|zW (some ti) (iN (i+1)) (fun w=>hk ρ (iN (i+1)) w) hd.2.2 ?_;exact zl k
 ·show WP P N (jq c) _ (upd ρ tc (.bool (decide ((i:Int)<(n:Int))))) w;rw[decide_eq_true (show (i:Int)<(n:Int) by omega)];exact hb i ρ w hi h
 ·show Q .normal (upd ρ tc (.bool (decide ((n:Int)<(n:Int))))) w;rw[decide_eq_false (show ¬(n:Int)<(n:Int) by omega)];exact he ρ w h
end
theorem AtF.row2 {α:Type}{S:Fl α}{w:World}{p:Qc}{n:Nat}{L:List α}(h:AtF S w p n L)(hn:0<n):∃b off C T fz,p=some ⟨b,off,none⟩/\w.heap[b]? =some (.cells C T fz)/\qr S C off L:=by
 rcases h.2 with rfl|h2
 ·have:=h.1;simp at this;omega
 ·exact h2
theorem vB (x y:Qa):(Rm x.toList y.toList||(x.toList==y.toList))= !(zd (tl y) (tl x)):=by
 rw[qJ];by_cases h:x=y
 ·subst h;rw[vh,qU];rfl
 ·rw[yj x y h,Bool.or_false];have hne:tl x≠tl y:=fun e=>h (xI e);cases h1:zd (tl x) (tl y) with
  | true=>
   cases h2:zd (tl y) (tl x) with
   | false=>rfl
   | true=>have:=qt h1 h2;rw[qU]at this;cases this
  | false=>rw[vy h1 hne];rfl
def yq (L:Qi)(i:Nat):Option Qa:=if i=0 then none else L[i-1]?
theorem jV {L:Qi}{i:Nat}{x:Qa}(h:L[i]? =some x):yq L (i+1)=some x:=by
 unfold yq;rw[if_neg (by omega),Nat.add_sub_cancel,h]
theorem zaN (p:Qc)(n c:Nat)(L:Qi)(hL:L.length<=1000000):FnP Try.prog 31 #[.slice p n c] (fun w=>AtF sS w p n L) (.bool (zJ L)):=by
 refine FnP.intro (c:=zr Try.f31) [.tmp 2] 37 Try.func31 kr kr kr fun w hP=>?_;have hn:=hP.1;have H0:=St.start w;refine rS [.v] H0 kr fun gs1 w1 H1=>ze kr<|rS [.v,.v,.v] H1 kr fun gs2 w2 H2=>ye 7 6 8 28 0 1 n (by omega) (fun i ρ ww=>yl none L=yl (yq L i) (L.drop i)/\St w.heap.size w ww []/\Is [(0,.slice p n c),(5,.slice p n c),(6,iN n),(7,iN i)] ρ) (by rintro i _ ww ⟨_,_,_,rfl⟩;exact⟨kr,kr⟩) ⟨rfl,H2.as kr,isK⟩ ?_ ?_
 ·clear H0 H1 H2;rintro i _ w4 hi ⟨hst,H5,_,rfl⟩;obtain⟨x,hx⟩:∃x,L[i]? =some x:=⟨_,Qj (by omega)⟩
  obtain⟨bl,off,C,T,fz,hp,hh,hR⟩:=hP.row2 (by omega);have hcx:C[off+i*1]? =some (.string x):=hR.cell hx 0 (by decide);rw[qc hx]at hst;change yl none L=(decide (x.size=20)&&(upB (yq L i) x&&yl (some x) (L.drop (i+1))))at hst;refine rS [.v,.o (ins:=[((.tmp 5),.slice p n c),((.tmp 7),iN i)]) (v:=.pointer (some ⟨bl,off+i*1,none⟩)) (fun ρ o w ho hi2=>zt (kd:=.i64) (t:=22) (e:=9) (K:=1) (bytes:=16) kr (x:=(.tmp 5)) (y:=(.tmp 7)) bl off n c i hp ho hi2.1 hi2.2.1 (by omega) w),.fs (off:=off+i*1) (v:=.string x) hh (zk hh) hcx,.v,.v] H5 kr fun gs5 w6 H7=>?_;by_cases h1:x.size=20
  case neg=>
   refine rS [.v,.v,.E (.bool (!((x.size:Int)==20))) (.bool true) (za (by rw[beq_eq_false_iff_ne.2 (by omega)];rfl)),.v,.n,.n,.n,.n,.n,.n,.n,.n,.n,.n,.n,.v] H7 kr fun gs6 w7 H8=>zu<|rS [.v] H8 kr fun gs7 w8 H9=>?_;exact rRe [.tmp 2] [] (v:=.bool false) (v':=.bool (zJ L)) H9 (za (by unfold zJ;rw[hst,decide_eq_false h1];rfl)) kr
  rw[decide_eq_true h1]at hst;by_cases h0:i=0
  ·have hup:upB (yq L i) x=true:=by subst h0;rfl
   refine rS [.v,.v,.E (.bool (!((x.size:Int)==20))) (.bool false) (za (by rw[beq_iff_eq.2 (show (x.size:Int)=20 by omega)];rfl)),.v,.v,.E (.bool (decide ((i:Int)>0))) (.bool false) (za (decide_eq_false (by omega))),.v,.n,.n,.n,.n,.n,.n,.n,.v,.v] H7 kr fun gs6 w7 H8=>zq ?_;exact⟨kr,by rw[jV hx,hst,hup];rfl,H8.as kr,isK⟩
  ·obtain⟨y,hy⟩:∃y,L[i-1]? =some y:=⟨_,Qj (by omega)⟩
   have hcell:C[off+(i-1)*1]? =some (.string y):=hR.cell hy 0 (by decide);have hpv:upB (yq L i) x=zd (tl y) (tl x):=by unfold yq;rw[if_neg h0,hy];rfl
   rw[hpv]at hst;cases hup:zd (tl y) (tl x) with
   | false=>
    refine rS [.v,.v,.E (.bool (!((x.size:Int)==20))) (.bool false) (za (by rw[beq_iff_eq.2 (show (x.size:Int)=20 by omega)];rfl)),.v,.v,.E (.bool (decide ((i:Int)>0))) (.bool true) (za (decide_eq_true (by omega))),.v,.v,.v,.v,.E (.int .i64 (Qm.wrap ((i:Int)-1))) (iN (i-1)) (zf (yv (a:=i) (b:=1) (by omega))),.o (ins:=[((.tmp 20),.slice p n c),((.tmp 22),iN (i-1))]) (v:=.pointer (some ⟨bl,off+(i-1)*1,none⟩)) (fun ρ o w ho hi2=>zt (kd:=.i64) (t:=22) (e:=9) (K:=1) (bytes:=16) kr (x:=(.tmp 20)) (y:=(.tmp 22)) bl off n c (i-1) hp ho hi2.1 hi2.2.1 (by omega) w),.fs (off:=off+(i-1)*1) (v:=.string y) hh (zk hh) hcell,.E (.bool (Rm x.toList y.toList||(x.toList==y.toList))) (.bool true) (za (by rw[vB,hup];rfl)),.v,.v] H7 kr fun gs6 w7 H8=>zu<|rS [.v] H8 kr fun gs7 w8 H9=>?_;exact rRe [.tmp 2] [] (v:=.bool false) (v':=.bool (zJ L)) H9 (za (by unfold zJ;rw[hst,hup];rfl)) kr
   | true=>
    refine rS [.v,.v,.E (.bool (!((x.size:Int)==20))) (.bool false) (za (by rw[beq_iff_eq.2 (show (x.size:Int)=20 by omega)];rfl)),.v,.v,.E (.bool (decide ((i:Int)>0))) (.bool true) (za (decide_eq_true (by omega))),.v,.v,.v,.v,.E (.int .i64 (Qm.wrap ((i:Int)-1))) (iN (i-1)) (zf (yv (a:=i) (b:=1) (by omega))),.o (ins:=[((.tmp 20),.slice p n c),((.tmp 22),iN (i-1))]) (v:=.pointer (some ⟨bl,off+(i-1)*1,none⟩)) (fun ρ o w ho hi2=>zt (kd:=.i64) (t:=22) (e:=9) (K:=1) (bytes:=16) kr (x:=(.tmp 20)) (y:=(.tmp 22)) bl off n c (i-1) hp ho hi2.1 hi2.2.1 (by omega) w),.fs (off:=off+(i-1)*1) (v:=.string y) hh (zk hh) hcell,.E (.bool (Rm x.toList y.toList||(x.toList==y.toList))) (.bool false) (za (by rw[vB,hup];rfl)),.v,.v] H7 kr fun gs6 w7 H8=>zq ?_;exact⟨kr,by rw[jV hx,hst,hup];rfl,H8.as kr,isK⟩
 ·rintro _ w4 ⟨hst,H5,_,rfl⟩;rw[Qz (by omega)]at hst;refine wW ?_;by_cases h0:0<n
  ·refine rS [.v,.v,.E (.bool (decide ((n:Int)>0))) (.bool true) (za (decide_eq_true (by omega))),.v,.v,.v,.E (.bool (decide ((n:Int)<=16))) (.bool (decide (n<=16))) (za (by rw[Ue];simp<;>omega)),.v,.v] H5 kr fun gs6 w7 H8=>?_;exact rRe [.tmp 2] [] (v:=.bool (decide (n<=16))) (v':=.bool (zJ L)) H8 (za (by unfold zJ;rw[hst,<-hn,decide_eq_true h0];rfl)) kr
  ·refine rS [.v,.v,.E (.bool (decide ((n:Int)>0))) (.bool false) (za (decide_eq_false (by omega))),.v,.n,.n,.n,.v,.v] H5 kr fun gs6 w7 H8=>?_;exact rRe [.tmp 2] [] (v:=.bool false) (v':=.bool (zJ L)) H8 (za (by unfold zJ;rw[hst,<-hn,decide_eq_false h0];rfl)) kr
section
open Go.ChangeShapes Go.WideShapes Go.ChangeAt
theorem vC:Try.prog.cellsOf 9=1:=kr
theorem zaO:Try.prog.cellsOf 4=1:=kr
section
variable {H:Type}{enc:TypeId×Value->H}{W:World}{sp:Nat->Bool}{held:Bool}
theorem zaP (fuel:Nat)(cs:List Value)(x:DataW H×List MemPlace)(h:RQ enc Try.prog W 0 sp held fuel 9 cs=some x):∃a:Qa,cs=sS.cs a/\a.size<=maxLen:=by
 obtain⟨s,e0,_,hs⟩:=DataW.trod_string Try.underlying9 h;exact⟨s,e0,hs⟩
end
end
abbrev Bal:=Qa×Qa×Bool
def blS:Fl Bal where
 K:=3
 cs x:=[.string x.1,.string x.2.1,.bool x.2.2]
 pos:=by decide
 len _:=rfl
 one a:=fun u hu=>by simp at hu;rcases hu with h | h | h<;>rw[h]<;>rfl
abbrev blV (x:Bal):Value:=.agg #[.string x.1,.string x.2.1,.bool x.2.2]
abbrev blC (x:Bal):Qd:=#[.string x.1,.string x.2.1,.bool x.2.2]
def zA (a:Qa):Qi->Bool
 | []=>false
 | x::r=>decide (x=a)||zA a r
theorem yT {a:Qa} : ∀ {L:Qi},zA a L=true↔a∈L
 | []=>by simp[zA]
 | x::r=>by
  simp only[zA,RL,decide_eq_true_eq,yT (L:=r),QJ];exact⟨fun h=>h.imp Eq.symm id,fun h=>h.imp Eq.symm id⟩
def zC (b x:Bal):Bool:=decide (x.2.1=b.2.1)&&(x.2.2==b.2.2)
def zh (b:Bal)(V:List Bal):Nat:=(V.filter (zC b)).length
theorem vD (b:Bal)(V:List Bal)(x:Bal):zh b (V++ [x])=zh b V+if zC b x=true then 1 else 0:=by
 unfold zh;rw[Q2,QD];congr 1;by_cases h:zC b x=true
 ·rw[if_pos h,RG h];rfl
 ·rw[if_neg h,Q8 h];rfl
theorem jW (b:Bal)(V:List Bal):zh b V<=V.length:=Ry _ _
def zD (L:Qi)(b:Bal):Bool:=zA b.1 L&&(decide (b.2.1.size=20)&&(zA b.2.1 L !=b.2.2))
def aheadB (a b:Bal):Bool:=if a.2.1=b.2.1 then zd (tl a.1) (tl b.1) else zd (tl a.2.1) (tl b.2.1)
def yw:Option Bal->Bal->Bool
 | none,_=>true
 | some a,b=>aheadB a b
def qV (L:Qi)(V:List Bal):Option Bal->List Bal->Bool
 | _,[]=>true
 | p,b::r=>zD L b&&(yw p b&&(decide (2*zh b V<=L.length)&&qV L V (some b) r))
def zE (L:Qi)(V:List Bal):Bool:=qV L V none V&&zJ L
def zO (V:List Bal)(i:Nat):Option Bal:=if i=0 then none else V[i-1]?
theorem vE {V:List Bal}{i:Nat}{x:Bal}(h:V[i]? =some x):zO V (i+1)=some x:=by
 unfold zO;rw[if_neg (by omega),Nat.add_sub_cancel,h]
def ya (b:Bal)(s:List Bal×Bool)(x:Bal):List Bal×Bool:=if (!s.2&& !aheadB x b)=true then (s.1++ [b],true) else s
def yL (b:Bal)(s:List Bal×Bool)(x:Bal):List Bal×Bool:=(if x.2.1=b.2.1/\x.1=b.1 then s.1 else s.1++ [x],s.2)
def qL (b:Bal)(V:List Bal):List Bal×Bool:=V.foldl (fun s x=>yL b (ya b s x) x) ([],false)
def zx (b:Bal)(V:List Bal):List Bal:=if (qL b V).2=true then (qL b V).1 else (qL b V).1++ [b]
def yb (a:Qa)(s:Qi×Bool)(x:Qa):Qi×Bool:=if (!s.2&&zd (tl a) (tl x))=true then (s.1++ [a],true) else s
def yM (a:Qa)(s:Qi×Bool)(x:Qa):Qi×Bool:=(if x=a then s.1 else s.1++ [x],s.2)
def qu (a:Qa)(add:Bool)(L:Qi):Qi×Bool:=L.foldl (fun s x=>yM a (yb a s x) x) ([],!add)
def zL (a:Qa)(add:Bool)(L:Qi):Qi:=if (qu a add L).2=true then (qu a add L).1 else (qu a add L).1++ [a]
def yf (b x:Bal):Bool:=decide (x.2.1≠b.2.1)&&(b.2.2||decide (x.1≠b.2.1))
def zF (L:Qi)(V:List Bal)(b:Bal):Qi×List Bal×Nat:=
 if zE L V=false then ([],[],1)
 else if zD L b=false\/(b.2.2=true/\16<=L.length)\/(b.2.2=false/\L.length=1) then ([],[],44)
 else if 2*zh b (zx b V)<=L.length then (L,zx b V,0)
 else (zL b.2.1 b.2.2 L,((zx b V).filter (yf b)).filter (fun x=>b.2.2||decide (2*zh x ((zx b V).filter (yf b))<=(zL b.2.1 b.2.2 L).length)),0)
abbrev blO (x:Bal):Obj:=.cells (blC x) 27
theorem vF (p:Qc)(n c:Nat)(L:Qi)(a:Qa)(hL:L.length<=1000000):FnP Try.prog 14 #[.slice p n c,.string a] (fun w=>AtF sS w p n L) (.bool (zA a L)):=by
 refine FnP.intro (c:=zr Try.f14) [.tmp 4] 17 Try.func14 kr kr kr fun w hP=>?_;have hn:=hP.1;have H0:=St.start w;refine rS [.v] H0 kr fun gs1 w1 H1=>ze kr<|rS [.v,.v,.v] H1 kr fun gs2 w2 H2=>ye 9 8 10 16 0 1 n (by omega) (fun i ρ ww=>zA a L=zA a (L.drop i)/\St w.heap.size w ww []/\Is [(1,.string a),(7,.slice p n c),(8,iN n),(9,iN i)] ρ) (by rintro i _ ww ⟨_,_,_,rfl⟩;exact⟨kr,kr⟩) ⟨rfl,H2.as kr,isK⟩ ?_ ?_
 ·clear H0 H1 H2;rintro i _ w3 hi ⟨hst,H3,_,rfl⟩;obtain⟨x,hx⟩:∃x,L[i]? =some x:=⟨_,Qj (by omega)⟩
  obtain⟨bl,off,C,T,fz,hp,hh,hR⟩:=hP.row2 (by omega);have hcx:C[off+i*1]? =some (.string x):=hR.cell hx 0 (by decide);rw[qc hx]at hst;change zA a L=(decide (x=a)||zA a (L.drop (i+1)))at hst;refine rS [.o (ins:=[((.tmp 7),.slice p n c),((.tmp 9),iN i)]) (v:=.pointer (some ⟨bl,off+i*1,none⟩)) (fun ρ o w ho hi2=>zt (kd:=.i64) (t:=22) (e:=9) (K:=1) (bytes:=16) kr (x:=(.tmp 7)) (y:=(.tmp 9)) bl off n c i hp ho hi2.1 hi2.2.1 (by omega) w),.fs (off:=off+i*1) (v:=.string x) hh (zk hh) hcx,.v] H3 kr fun gs4 w4 H4=>?_;by_cases e:x=a
  ·refine rS [.v,.v,.E (.bool (x.toList==a.toList)) (.bool true) (za (yi _ _ e))] H4 kr fun gs5 w5 H5=>zu<|rS [.v] H5 kr fun gs6 w6 H6=>?_;exact rRe [.tmp 4] [] (v:=.bool true) (v':=.bool (zA a L)) H6 (za (by rw[hst,decide_eq_true e];rfl)) kr
  ·refine rS [.v,.v,.E (.bool (x.toList==a.toList)) (.bool false) (za (yj _ _ e))] H4 kr fun gs5 w5 H5=>zq ?_;exact⟨kr,by rw[hst,decide_eq_false e];rfl,H5.as kr,isK⟩
 ·rintro _ w3 ⟨hst,H3,_,rfl⟩;rw[Qz (by omega)]at hst;refine wW<|rS [.v] H3 kr fun gs4 w4 H4=>?_;exact rRe [.tmp 4] [] (v:=.bool false) (v':=.bool (zA a L)) H4 (za hst.symm) kr
theorem zaQ (p:Qc)(n c:Nat)(V:List Bal)(b:Bal)(hV:V.length<=1000000):FnP Try.prog 16 #[.slice p n c,blV b] (fun w=>AtF blS w p n V) (iN (zh b V)):=by
 refine FnP.intro (c:=zr Try.f16) [.tmp 4] 30 Try.func16 kr kr kr fun w hP=>?_;have hn:=hP.1;have H0:=St.start w;refine rS [.b,.v] H0 kr fun gs1 w1 H1=>rS [.v] H1 kr fun gs2 w2 H2=>ze kr<|rS [.v,.v,.v] H2 kr fun gs3 w3 H3=>ye 10 9 11 28 0 1 n (by omega) (fun i ρ ww=>St w.heap.size w ww [((gs1 0).b,blO b)]/\Is [(3,Qe (gs1 0).b),(5,iN (zh b (V.take i))),(8,.slice p n c),(9,iN n),(10,iN i)] ρ) (by rintro i _ ww ⟨_,_,rfl⟩;exact⟨kr,kr⟩) ⟨H3.as kr,isK⟩ ?_ ?_
 ·clear H0 H1 H2 H3;rintro i _ w4 hi ⟨H4,_,rfl⟩;obtain⟨x,hx⟩:∃x,V[i]? =some x:=⟨_,Qj (by omega)⟩
  obtain⟨bl,off,C,T,fz,hp,hh,hR⟩:=hP.row2 (by omega);have hle:=jW b (V.take i);rw[Qv]at hle;have hsn:zh b (V.take (i+1))=zh b (V.take i)+if zC b x=true then 1 else 0:=by rw[yk hx,vD]
  refine rS [.o (ins:=[((.tmp 8),.slice p n c),((.tmp 10),iN i)]) (v:=.pointer (some ⟨bl,off+i*3,none⟩)) (fun ρ o w ho hi2=>zt (kd:=.i64) (t:=23) (e:=27) (K:=3) (bytes:=40) kr (x:=(.tmp 8)) (y:=(.tmp 10)) bl off n c i hp ho hi2.1 hi2.2.1 (by omega) w),.fp (off:=off+i*3) (n:=3) (W:=blC x) hh (zk hh) (hR _ _ hx).1 (hR _ _ hx).2,.a,.s 1] H4 kr fun gs4 w5 H5=>?_;have drop1: ∀ {ww:World},St w.heap.size w ww [((gs1 0).b,blO b),((gs4 2).b,blO x)]->St w.heap.size w ww [((gs1 0).b,blO b)]:=fun H=>H.sub (Ro [_] [_]);by_cases e:x.2.1=b.2.1
  ·refine rS [.v,.l 1,.v,.l 0,.E (.bool (x.2.1.toList==b.2.1.toList)) (.bool true) (za (yi _ _ e)),.v,.v,.l 1,.v,.l 0,.E (.bool (x.2.2==b.2.2)) (.bool (zC b x)) (za (by unfold zC;rw[decide_eq_true e];rfl)),.v] H5 kr fun gs5 w6 H6=>?_;by_cases hf:zC b x=true
   ·refine qb 25 (v:=.bool (zC b x)) (v':=.bool true) (by rw[hf]) kr<|zu ?_;rw[if_pos hf]at hsn;refine rL [.v,.E (.int .i64 (Qm.wrap (((zh b (V.take i):Nat):Int)+1))) (iN (zh b (V.take (i+1)))) (zf (by rw[hsn];exact zw (a:=zh b (V.take i)) (b:=1) (by omega))),.v] H6 kr fun gs6 w7 H7=>?_;exact⟨kr,drop1 (H7.as kr),isK⟩
   ·refine qb 25 (v:=.bool (zC b x)) (v':=.bool false) (by rw[QR.2 hf]) kr<|zq ?_;rw[if_neg hf,RD]at hsn;exact⟨kr,drop1 (H6.as kr),(congrArg (fun k=>Is [(3,Qe (gs1 0).b),(5,iN k),(8,.slice p n c),(9,iN n),(10,iN (i+1))] _) hsn).mpr isK⟩
  ·refine rS [.v,.l 1,.v,.l 0,.E (.bool (x.2.1.toList==b.2.1.toList)) (.bool false) (za (yj _ _ e)),.v,.n,.n,.n,.n,.n,.v] H5 kr fun gs5 w6 H6=>zq ?_;rw[if_neg (by unfold zC;rw[decide_eq_false e];exact QN),RD]at hsn;exact⟨kr,drop1 (H6.as kr),(congrArg (fun k=>Is [(3,Qe (gs1 0).b),(5,iN k),(8,.slice p n c),(9,iN n),(10,iN (i+1))] _) hsn).mpr isK⟩
 ·rintro _ w4 ⟨H4,_,rfl⟩;rw[QA (by omega)];refine wW<|rS [.v,.v] H4 kr fun gs4 w5 H5=>?_;exact rR [.tmp 4] [] (iN (zh b V)) H5 kr
theorem zaR (a b:Bal):Fn Try.prog 30 #[blV a,blV b] (.bool (aheadB a b)):=by
 refine Fn.intro (c:=zr Try.f30) [.tmp 4] 20 Try.func30 kr kr kr fun w=>rS [.b,.b,.v] (St.start w) kr fun gs1 w1 H1=>ze kr ?_;by_cases e:a.2.1=b.2.1
 ·refine rS [.v,.l 0,.v,.l 1,.E (.bool (!(a.2.1.toList==b.2.1.toList))) (.bool false) (za (by rw[yi _ _ e];rfl))] H1 kr fun gs2 w2 H2=>zq<|wW<|rS [.v,.l 0,.v,.l 1,.E (.bool (Rm a.1.toList b.1.toList)) (.bool (aheadB a b)) (za (by unfold aheadB;rw[if_pos e,qJ])),.v] H2 kr fun gs3 w3 H3=>?_;exact rR [.tmp 4] [] (.bool (aheadB a b)) H3 kr
 ·refine rS [.v,.l 0,.v,.l 1,.E (.bool (!(a.2.1.toList==b.2.1.toList))) (.bool true) (za (by rw[yj _ _ e];rfl))] H1 kr fun gs2 w2 H2=>zu<|rS [.v,.l 0,.v,.l 1,.E (.bool (Rm a.2.1.toList b.2.1.toList)) (.bool (aheadB a b)) (za (by unfold aheadB;rw[if_neg e,qJ])),.v] H2 kr fun gs3 w3 H3=>?_;exact rR [.tmp 4] [] (.bool (aheadB a b)) H3 kr
theorem zaS (p:Qc)(n c:Nat)(L:Qi)(b:Bal)(hL:L.length<=1000000):FnP Try.prog 25 #[.slice p n c,blV b] (fun w=>AtF sS w p n L) (.bool (zD L b)):=by
 refine FnP.intro (c:=zr Try.f25) [.tmp 4] 24 Try.func25 kr kr kr fun w hP=>?_;have h1:=vF p n c L b.1 hL;have h2:=vF p n c L b.2.1 hL;refine rS [.b,.v] (St.start w) kr fun gs1 w1 H1=>?_;unfold zD;cases e1:zA b.1 L with
 | false=>
  rw[e1]at h1;refine dS [.v,.v,.l 0,.cp (pre:=fun w=>AtF sS w p n L) h1 [] (fun w hb hd=>hP.call hb),.v,.n,.n,.n,.n,.v,.v,.n,.n,.n,.n,.n,.n,.n,.v,.v] H1 kr fun w2 H2=>?_;exact rR [.tmp 4] [] (.bool false) H2 kr
 | true=>
  rw[e1]at h1;by_cases e2:b.2.1.size=20
  ·rw[decide_eq_true e2];refine dS [.v,.v,.l 0,.cp (pre:=fun w=>AtF sS w p n L) h1 [] (fun w hb hd=>hP.call hb),.v,.v,.l 0,.v,.E (.bool (((b.2.1.size:Nat):Int)==20)) (.bool true) (za (beq_iff_eq.2 (by omega))),.v,.v,.v,.v,.l 0,.cp (pre:=fun w=>AtF sS w p n L) h2 [] (fun w hb hd=>hP.call hb),.v,.l 0,.E (.bool (zA b.2.1 L !=b.2.2)) (.bool (zA b.2.1 L !=b.2.2)) rfl,.v,.v] H1 kr fun w2 H2=>?_;exact rR [.tmp 4] [] (.bool (zA b.2.1 L !=b.2.2)) H2 kr
  ·rw[decide_eq_false e2];refine dS [.v,.v,.l 0,.cp (pre:=fun w=>AtF sS w p n L) h1 [] (fun w hb hd=>hP.call hb),.v,.v,.l 0,.v,.E (.bool (((b.2.1.size:Nat):Int)==20)) (.bool false) (za (beq_eq_false_iff_ne.2 (by omega))),.v,.v,.n,.n,.n,.n,.n,.n,.n,.v,.v] H1 kr fun w2 H2=>?_;exact rR [.tmp 4] [] (.bool false) H2 kr
abbrev snV (q:Qc)(m cq:Nat)(p:Qc)(n c:Nat):Value:=.agg #[.slice q m cq,.slice p n c]
abbrev snO (q:Qc)(m cq:Nat)(p:Qc)(n c:Nat):Obj:=.cells #[.slice q m cq,.slice p n c] 25 (0,0)
def zM (w:World)(L:Qi)(V:List Bal)(q:Qc)(m:Nat)(p:Qc)(n:Nat):Prop:=AtF sS w q m L/\AtF blS w p n V
theorem vG (q:Qc)(m cq:Nat)(L:Qi)(p:Qc)(n c:Nat)(V:List Bal)(hL:L.length<=1000000)(hV:V.length<=1000000):FnP Try.prog 12 #[snV q m cq p n c] (fun w=>zM w L V q m p n) (.bool (zE L V)):=by
 refine FnP.intro (c:=zr Try.f12) [.tmp 2] 48 Try.func12 kr kr kr fun w hP=>?_;obtain⟨hS,hVV⟩:=hP;have hm:=hS.1;have hn:=hVV.1;have hset:=zaN q m cq L hL;have H0:=St.start w;refine rS [.b,.v] H0 kr fun gs1 w1 H1=>ze kr<|rS [.v,.l 0,.v,.v] H1 kr fun gs2 w2 H2=>ye 8 7 9 44 0 1 n (by omega) (fun i ρ ww=>zE L V=(qV L V (zO V i) (V.drop i)&&zJ L)/\St w.heap.size w ww [((gs1 0).b,snO q m cq p n c)]/\Is [(1,Qe (gs1 0).b),(6,.slice p n c),(7,iN n),(8,iN i)] ρ) (by rintro i _ ww ⟨_,_,_,rfl⟩;exact⟨kr,kr⟩) ⟨rfl,H2.as kr,isK⟩ ?_ ?_
 ·clear H0 H1 H2;rintro i _ w3 hi ⟨hst,H3,_,rfl⟩;obtain⟨x,hx⟩:∃x,V[i]? =some x:=⟨_,Qj (by omega)⟩
  obtain⟨bl,off,C,T,fz,hp,hh,hR⟩:=hVV.row2 (by omega);have hle:=jW x V;have h1:=zaS q m cq L x hL;have hc:=zaQ p n c V x hV;rw[qc hx]at hst;change zE L V=((zD L x&&(yw (zO V i) x&&(decide (2*zh x V<=L.length)&&qV L V (some x) (V.drop (i+1)))))&&zJ L)at hst;rw[<-vE hx]at hst;refine rS [.v,.o (ins:=[((.tmp 6),.slice p n c),((.tmp 8),iN i)]) (v:=.pointer (some ⟨bl,off+i*3,none⟩)) (fun ρ o w ho hi2=>zt (kd:=.i64) (t:=23) (e:=27) (K:=3) (bytes:=40) kr (x:=(.tmp 6)) (y:=(.tmp 8)) bl off n c i hp ho hi2.1 hi2.2.1 (by omega) w),.fp (off:=off+i*3) (n:=3) (W:=blC x) hh (zk hh) (hR _ _ hx).1 (hR _ _ hx).2,.a,.v,.s 1] H3 kr fun gs4 w4 H4=>?_;have drop1: ∀ {ww:World},St w.heap.size w ww [((gs1 0).b,snO q m cq p n c),((gs4 3).b,blO x)]->St w.heap.size w ww [((gs1 0).b,snO q m cq p n c)]:=fun H=>H.sub (Ro [_] [_]);cases ef:zD L x with
  | false=>
   rw[ef]at h1;refine dS [.v,.l 0,.l 1,.cp (pre:=fun w=>AtF sS w q m L) h1 [] (fun w hb hd=>hS.call hb),.v,.v,.n,.n,.n,.n,.n,.n,.n,.n,.n,.n,.n,.n,.n,.v,.v,.n,.n,.n,.n,.n,.n,.n,.n,.n,.v] H4 kr fun w5 H5=>zu<|rS [.v] H5 kr fun gs6 w6 H6=>?_;exact rRe [.tmp 2] [] (v:=.bool false) (v':=.bool (zE L V)) H6 (za (by rw[hst,ef];rfl)) kr
  | true=>
   rw[ef]at h1;by_cases hi0:i=0
   ·have ea:yw (zO V i) x=true:=by
     have hp0:zO V i=none:=by unfold zO;rw[if_pos hi0]
     rw[hp0];rfl
    by_cases h2:2*zh x V<=L.length
    ·refine dS [.v,.l 0,.l 1,.cp (pre:=fun w=>AtF sS w q m L) h1 [] (fun w hb hd=>hS.call hb),.v,.v,.v,.E (.bool (decide ((i:Int)>0))) (.bool false) (za (decide_eq_false (by omega))),.v,.n,.n,.n,.n,.n,.n,.n,.n,.n,.v,.v,.v,.v,.l 0,.l 1,.cp (pre:=fun w=>AtF blS w p n V) hc [] (fun w hb hd=>hVV.call hb),.E (.int .i64 (Qm.wrap (2*((zh x V:Nat):Int)))) (iN (2*zh x V)) (zf (yu (a:=2) (b:=zh x V) (by omega))),.v,.l 0,.v,.E (.bool (decide (((2*zh x V:Nat):Int)>(m:Int)))) (.bool false) (za (decide_eq_false (by omega))),.v] H4 kr fun w5 H5=>zq ?_;exact⟨kr,hst.trans (by rw[ef,ea,decide_eq_true h2,QU,QU,QU]),drop1 (H5.as kr),isK⟩
    ·refine dS [.v,.l 0,.l 1,.cp (pre:=fun w=>AtF sS w q m L) h1 [] (fun w hb hd=>hS.call hb),.v,.v,.v,.E (.bool (decide ((i:Int)>0))) (.bool false) (za (decide_eq_false (by omega))),.v,.n,.n,.n,.n,.n,.n,.n,.n,.n,.v,.v,.v,.v,.l 0,.l 1,.cp (pre:=fun w=>AtF blS w p n V) hc [] (fun w hb hd=>hVV.call hb),.E (.int .i64 (Qm.wrap (2*((zh x V:Nat):Int)))) (iN (2*zh x V)) (zf (yu (a:=2) (b:=zh x V) (by omega))),.v,.l 0,.v,.E (.bool (decide (((2*zh x V:Nat):Int)>(m:Int)))) (.bool true) (za (decide_eq_true (by omega))),.v] H4 kr fun w5 H5=>zu<|rS [.v] H5 kr fun gs6 w6 H6=>?_;exact rRe [.tmp 2] [] (v:=.bool false) (v':=.bool (zE L V)) H6 (za (by rw[hst,ef,ea,decide_eq_false h2];rfl)) kr
   ·obtain⟨y,hy⟩:∃y,V[i-1]? =some y:=⟨_,Qj (by omega)⟩
    have hp0:zO V i=some y:=by unfold zO;rw[if_neg hi0,hy]
    have ha:=zaR y x;cases ea':aheadB y x with
    | false=>
     have ea:yw (zO V i) x=false:=by rw[hp0];exact ea'
     rw[ea']at ha;refine dS [.v,.l 0,.l 1,.cp (pre:=fun w=>AtF sS w q m L) h1 [] (fun w hb hd=>hS.call hb),.v,.v,.v,.E (.bool (decide ((i:Int)>0))) (.bool true) (za (decide_eq_true (by omega))),.v,.v,.l 0,.v,.E (.int .i64 (Qm.wrap ((i:Int)-1))) (iN (i-1)) (zf (yv (a:=i) (b:=1) (by omega))),.o (ins:=[((.tmp 23),.slice p n c),((.tmp 25),iN (i-1))]) (v:=.pointer (some ⟨bl,off+(i-1)*3,none⟩)) (fun ρ o w ho hi2=>zt (kd:=.i64) (t:=23) (e:=27) (K:=3) (bytes:=40) kr (x:=(.tmp 23)) (y:=(.tmp 25)) bl off n c (i-1) hp ho hi2.1 hi2.2.1 (by omega) w),.fp (off:=off+(i-1)*3) (n:=3) (W:=blC y) hh (zk hh) (hR _ _ hy).1 (hR _ _ hy).2,.l 1,.c ha,.v,.v,.v,.v,.n,.n,.n,.n,.n,.n,.n,.n,.n,.v] H4 kr fun w5 H5=>zu<|rS [.v] H5 kr fun gs6 w6 H6=>?_;exact rRe [.tmp 2] [] (v:=.bool false) (v':=.bool (zE L V)) H6 (za (by rw[hst,ef,ea];rfl)) kr
    | true=>
     have ea:yw (zO V i) x=true:=by rw[hp0];exact ea'
     rw[ea']at ha;by_cases h2:2*zh x V<=L.length
     ·refine dS [.v,.l 0,.l 1,.cp (pre:=fun w=>AtF sS w q m L) h1 [] (fun w hb hd=>hS.call hb),.v,.v,.v,.E (.bool (decide ((i:Int)>0))) (.bool true) (za (decide_eq_true (by omega))),.v,.v,.l 0,.v,.E (.int .i64 (Qm.wrap ((i:Int)-1))) (iN (i-1)) (zf (yv (a:=i) (b:=1) (by omega))),.o (ins:=[((.tmp 23),.slice p n c),((.tmp 25),iN (i-1))]) (v:=.pointer (some ⟨bl,off+(i-1)*3,none⟩)) (fun ρ o w ho hi2=>zt (kd:=.i64) (t:=23) (e:=27) (K:=3) (bytes:=40) kr (x:=(.tmp 23)) (y:=(.tmp 25)) bl off n c (i-1) hp ho hi2.1 hi2.2.1 (by omega) w),.fp (off:=off+(i-1)*3) (n:=3) (W:=blC y) hh (zk hh) (hR _ _ hy).1 (hR _ _ hy).2,.l 1,.c ha,.v,.v,.v,.v,.v,.l 0,.l 1,.cp (pre:=fun w=>AtF blS w p n V) hc [] (fun w hb hd=>hVV.call hb),.E (.int .i64 (Qm.wrap (2*((zh x V:Nat):Int)))) (iN (2*zh x V)) (zf (yu (a:=2) (b:=zh x V) (by omega))),.v,.l 0,.v,.E (.bool (decide (((2*zh x V:Nat):Int)>(m:Int)))) (.bool false) (za (decide_eq_false (by omega))),.v] H4 kr fun w5 H5=>zq ?_;exact⟨kr,hst.trans (by rw[ef,ea,decide_eq_true h2,QU,QU,QU]),drop1 (H5.as kr),isK⟩
     ·refine dS [.v,.l 0,.l 1,.cp (pre:=fun w=>AtF sS w q m L) h1 [] (fun w hb hd=>hS.call hb),.v,.v,.v,.E (.bool (decide ((i:Int)>0))) (.bool true) (za (decide_eq_true (by omega))),.v,.v,.l 0,.v,.E (.int .i64 (Qm.wrap ((i:Int)-1))) (iN (i-1)) (zf (yv (a:=i) (b:=1) (by omega))),.o (ins:=[((.tmp 23),.slice p n c),((.tmp 25),iN (i-1))]) (v:=.pointer (some ⟨bl,off+(i-1)*3,none⟩)) (fun ρ o w ho hi2=>zt (kd:=.i64) (t:=23) (e:=27) (K:=3) (bytes:=40) kr (x:=(.tmp 23)) (y:=(.tmp 25)) bl off n c (i-1) hp ho hi2.1 hi2.2.1 (by omega) w),.fp (off:=off+(i-1)*3) (n:=3) (W:=blC y) hh (zk hh) (hR _ _ hy).1 (hR _ _ hy).2,.l 1,.c ha,.v,.v,.v,.v,.v,.l 0,.l 1,.cp (pre:=fun w=>AtF blS w p n V) hc [] (fun w hb hd=>hVV.call hb),.E (.int .i64 (Qm.wrap (2*((zh x V:Nat):Int)))) (iN (2*zh x V)) (zf (yu (a:=2) (b:=zh x V) (by omega))),.v,.l 0,.v,.E (.bool (decide (((2*zh x V:Nat):Int)>(m:Int)))) (.bool true) (za (decide_eq_true (by omega))),.v] H4 kr fun w5 H5=>zu<|rS [.v] H5 kr fun gs6 w6 H6=>?_;exact rRe [.tmp 2] [] (v:=.bool false) (v':=.bool (zE L V)) H6 (za (by rw[hst,ef,ea,decide_eq_false h2];rfl)) kr
 ·rintro _ w3 ⟨hst,H3,_,rfl⟩;rw[Qz (by omega)]at hst;change zE L V=zJ L at hst;rw[<-hst]at hset;refine wW<|rS [.v,.l 0,.cp (pre:=fun w=>AtF sS w q m L) hset [] (fun w hb hd=>hS.call hb),.v] H3 kr fun gs4 w4 H4=>?_;exact rR [.tmp 2] [] (.bool (zE L V)) H4 kr
theorem zaT (b:Bal)(s:List Bal×Bool)(x:Bal):(yL b s x).1.length<=s.1.length+1:=by
 show (if x.2.1=b.2.1/\x.1=b.1 then s.1 else s.1++ [x]).length<=_;split
 ·omega
 ·rw[QD];exact Qs _
theorem zaU (a:Qa)(s:Qi×Bool)(x:Qa):(yM a s x).1.length<=s.1.length+1:=by
 show (if x=a then s.1 else s.1++ [x]).length<=_;split
 ·omega
 ·rw[QD];exact Qs _
theorem jt {α:Type}{S:Fl α}{w:World}{b n cap:Nat}{cur:Qd}{T:TypeId}{M:List α}(hr:Rw S.K cur cap n (zb S M))(h:w.heap[b]? =some (.cells cur T)):AtF S w (Qg b) n M:=⟨(Rw.lenF (S:=S) hr).symm,.inr ⟨b,0,cur,T,(0,0),rfl,h,hr.rowAt⟩⟩
def yG {α:Type}(S:Fl α)(ty:TypeId)(q0:Qc)(m0 c0:Nat)(L0:List α)(q:Qc)(m c:Nat)(T:Qb)(L:List α):Prop:=(T=[]/\q=q0/\m=m0/\c=c0/\L=L0)\/zz S ty q m c T L
def qd (q0:Qc)(m0 cq0:Nat)(L0:Qi)(p0:Qc)(n0 c0:Nat)(V0:List Bal)(r:Qi×List Bal×Nat)(v:Value)(T:Qb):Prop:=
 ∃(q:Qc) (m cq:Nat) (p:Qc) (n c:Nat) (T1 T2:Qb),v=.tuple #[snV q m cq p n c,.int .i64 ((r.2.2:Nat):Int)]/\T=T1++T2/\yG sS 9 q0 m0 cq0 L0 q m cq T1 r.1/\yG blS 27 p0 n0 c0 V0 p n c T2 r.2.1
theorem qd.no {q0:Qc}{m0 cq0:Nat}{L0:Qi}{p0:Qc}{n0 c0:Nat}{V0:List Bal}{e:Nat} :qd q0 m0 cq0 L0 p0 n0 c0 V0 ([],[],e) (.tuple #[snV none 0 0 none 0 0,.int .i64 (e:Int)]) []:=
 ⟨none,0,0,none,0,0,[],[],rfl,rfl,.inr (.inl ⟨rfl,rfl,rfl,rfl,rfl⟩),.inr (.inl ⟨rfl,rfl,rfl,rfl,rfl⟩)⟩
theorem zaV (x y:Bal)(w:World):(UL 10000 27 (blV x) (blV y)).run Try.prog w=.ok (decide (x=y)) w:=by
 rw[run_equalIn_struct w 9999 27 _ _ kr kr,
  show (Try.prog.fieldsOf 27).toList= [{ name:= "Voter",type:=9,offset:=0,embedded:=false,tag:= "",pkgPath:= "",byteOffset:=0 },{ name:= "Who",type:=9,offset:=1,embedded:=false,tag:= "",pkgPath:= "",byteOffset:=16 },{ name:= "Add",type:=4,offset:=2,embedded:=false,tag:= "",pkgPath:= "",byteOffset:=32 }] by kernel_rfl]
 have px: ∀x:Bal,(part 9 (blC x) 0).run Try.prog w=.ok (.string x.1) w:=fun x=>by kernel_rfl
 have py: ∀x:Bal,(part 9 (blC x) 1).run Try.prog w=.ok (.string x.2.1) w:=fun x=>by kernel_rfl
 have pb: ∀x:Bal,(part 4 (blC x) 2).run Try.prog w=.ok (.bool x.2.2) w:=fun x=>by kernel_rfl
 have ex: ∀a b:Qa,(UL 9999 9 (.string a) (.string b)).run Try.prog w=.ok (decide (a=b)) w:=fun a b=>by
  rw[run_equalIn_string w 9998 9 a b Try.underlying9];by_cases e:a=b
  ·rw[yi _ _ e,decide_eq_true e]
  ·rw[yj _ _ e,decide_eq_false e]
 have eb:(UL 9999 4 (.bool x.2.2) (.bool y.2.2)).run Try.prog w=.ok (x.2.2==y.2.2) w:=by
  rw[run_equalIn_bool' w 9998 4 x.2.2 y.2.2 Try.underlying4]
 have n1:("Voter" :String)≠ "_" :=by decide
 have n2:("Who" :String)≠ "_" :=by decide
 have n3:("Add" :String)≠ "_" :=by decide
 simp only[Op.eqFields,if_pos n1,if_pos n2,if_pos n3,Sem.run_bind,px,py,pb,Result.andThen_ok,ex,eb,Sem.run_ite];obtain⟨a,b,c⟩:=x;obtain⟨a',b',c'⟩:=y;by_cases h1:a=a'
 ·by_cases h2:b=b'
  ·cases c<;>cases c'<;>simp[h1,h2]
  ·simp[h1,h2]
 ·simp[h1]
section
variable {l:Bool}{s:Qa}{k:Fo}
end
section
open D2 (Gh)
end
section
variable {t:Qa}{a b j:Nat}{p:Qc}{n c:Nat}{row:Qb}{M:List X3}{T:Qb}
end
section
variable {P:Program}{N:Nat}{ops:Array Oper}{K:Env->World->Prop}{ρ:Env}{w w0:World}{i B:Nat}{r:List Nat}{l:Qb}
end
section
open D2 (Gh)
section
variable {P:Program}{N:Nat}{ops:Array Oper}{i:Nat}{r:List Nat}{K:Env->World->Prop}{ρ:Env}{w w0:World}{B:Nat}{l:Qb}
end
end
abbrev wt (b:Bool):Nat:=if b=true then 0 else 1
theorem vH (b:Bal): ∀(V:List Bal) (s:List Bal×Bool),(V.foldl (fun s x=>yL b (ya b s x) x) s).1.length+wt (V.foldl (fun s x=>yL b (ya b s x) x) s).2<=s.1.length+wt s.2+V.length
 | [],s=>by simp
 | x::r,s=>by
  have h1:=vH b r (yL b (ya b s x) x);have h2:(yL b (ya b s x) x).1.length<=(ya b s x).1.length+1:=zaT b _ x;have h3:(ya b s x).1.length+wt (ya b s x).2<=s.1.length+wt s.2:=by
   unfold ya;split
   ·rename_i h9
    have h8:s.2=false:=by cases h7:s.2 with
     | false=>rfl
     | true=>rw[h7]at h9;cases h9
    show (s.1++ [b]).length+wt true<=_;rw[QD,h8];exact Qs _
   ·exact Qs _
  have h4:(yL b (ya b s x) x).2=(ya b s x).2:=rfl;rw[h4]at h1;rw[Rz,Rq];omega
theorem zaW (b:Bal)(V:List Bal):(zx b V).length<=V.length+1:=by
 have h:=vH b V ([],false);change (qL b V).1.length+wt (qL b V).2<=0+1+V.length at h;unfold zx;split
 ·omega
 ·rename_i h9
  rw[show wt (qL b V).2=1 from if_neg h9]at h;rw[QD];show (qL b V).1.length+1<=_;omega
theorem vI (a:Qa): ∀(L:Qi) (s:Qi×Bool),(L.foldl (fun s x=>yM a (yb a s x) x) s).1.length+wt (L.foldl (fun s x=>yM a (yb a s x) x) s).2<=s.1.length+wt s.2+L.length
 | [],s=>by simp
 | x::r,s=>by
  have h1:=vI a r (yM a (yb a s x) x);have h2:(yM a (yb a s x) x).1.length<=(yb a s x).1.length+1:=zaU a _ x;have h3:(yb a s x).1.length+wt (yb a s x).2<=s.1.length+wt s.2:=by
   unfold yb;split
   ·rename_i h9
    have h8:s.2=false:=by cases h7:s.2 with
     | false=>rfl
     | true=>rw[h7]at h9;cases h9
    show (s.1++ [a]).length+wt true<=_;rw[QD,h8];exact Qs _
   ·exact Qs _
  have h4:(yM a (yb a s x) x).2=(yb a s x).2:=rfl;rw[h4]at h1;rw[Rz,Rq];omega
theorem zaX (a:Qa)(add:Bool)(L:Qi):(zL a add L).length<=L.length+1:=by
 have h:=vI a L ([],!add);change (qu a add L).1.length+wt (qu a add L).2<=0+wt (!add)+L.length at h;have h1:wt (!add)<=1:=by cases add<;>decide
 unfold zL;split
 ·omega
 ·rename_i h9
  rw[show wt (qu a add L).2=1 from if_neg h9]at h;rw[QD];show (qu a add L).1.length+1<=_;omega
theorem zaY (L:Qi)(V:List Bal)(b:Bal):(zF L V b).1.length<=L.length+1/\(zF L V b).2.1.length<=V.length+1:=by
 have h1:=zaW b V;have h2:=zaX b.2.1 b.2.2 L;unfold zF;split
 ·exact⟨Q5 _,Q5 _⟩
 ·split
  ·exact⟨Q5 _,Q5 _⟩
  ·split
   ·exact⟨Nat.le_succ _,h1⟩
   ·refine⟨h2,?_⟩;have h3:=Ry (yf b) (zx b V);have h4:=Ry (fun x=>b.2.2||decide (2*zh x ((zx b V).filter (yf b))<=(zL b.2.1 b.2.2 L).length)) ((zx b V).filter (yf b));exact Rp h4 (Rp h3 h1)
theorem yG.step {α:Type}{S:Fl α}{ty:TypeId}{q0:Qc}{m0 c0:Nat}{L0:List α}{q1:Qc}{m1 c1:Nat}{A:Qb}{L1:List α}{q2:Qc}{m2 c2:Nat}{T:Qb}{L2:List α}(h1:yG S ty q0 m0 c0 L0 q1 m1 c1 A L1)(h2:yG S ty q1 m1 c1 L1 q2 m2 c2 T L2):∃A',yG S ty q0 m0 c0 L0 q2 m2 c2 A' L2/\A'.Sublist (T++A):=by
 rcases h2 with⟨rfl,rfl,rfl,rfl,rfl⟩|h2
 ·exact⟨A,h1,.refl _⟩
 ·exact⟨T,.inr h2,Ro _ _⟩
theorem yG.at {α:Type}{S:Fl α}{ty:TypeId}{q0:Qc}{m0 c0:Nat}{L0:List α}{q:Qc}{m c:Nat}{T:Qb}{L:List α}(h:yG S ty q0 m0 c0 L0 q m c T L){B:Nat}{w0 w:World}{l:Qb}(hS:St B w0 w l)(hl: ∀e∈T,e∈l)(hA:AtF S w q0 m0 L0):AtF S w q m L:=by
 rcases h with⟨rfl,rfl,rfl,rfl,rfl⟩|h
 ·exact hA
 ·exact h.atF hS hl
theorem vJ {α:Type}(A B C D E:List α):(E++((A++C)++(B++D))).Perm ((A++B)++(E++(C++D))):=by
 have h1:((A++C)++(B++D)).Perm ((A++B)++(C++D)):=by
  rw[QK,QK];refine RT A ?_;rw[<-QK,<-QK];exact List.Perm.append_right D RA
 exact(RT E h1).trans (by rw[<-QK,<-QK (A++B)];exact List.Perm.append_right _ RA)
section
open Go.ChangeShapes Go.WideShapes Go.ChangeAt
theorem vK:Try.prog.cellsOf 27=3:=kr
theorem zaZ {α:Type}(l:List α)(h:l.length=3):∃a0 a1 a2,l=[a0,a1,a2]:=by
 match l,h with
 | [a0,a1,a2],_=>exact⟨_,_,_,rfl⟩
section
variable {H:Type}{enc:TypeId×Value->H}{W:World}{sp:Nat->Bool}{held:Bool}
theorem za0 (fuel:Nat)(cs:List Value)(x:DataW H×List MemPlace)(h:RQ enc Try.prog W 0 sp held fuel 27 cs=some x):∃a:Bal,cs=blS.cs a/\True:=by
 obtain⟨y0,y1,y2,m,hx,hl,hy0,hy1,hy2⟩:=Go.Deep.trod_struct3 Try.underlying27 h;rw[vK]at hl;obtain⟨c0,c1,c2,rfl⟩:=zaZ cs hl;rw[vC]at hy0 hy1;rw[zaO]at hy2;obtain⟨s0,e0,_,_⟩:=DataW.trod_string Try.underlying9 (show RQ enc Try.prog W 0 sp held m 9 [c0]=some y0 from hy0);obtain⟨s1,e1,_,_⟩:=DataW.trod_string Try.underlying9 (show RQ enc Try.prog W 0 sp held m 9 [c1]=some y1 from hy1);obtain⟨b,e2,_⟩:=DataW.trod_bool Try.underlying4 (show RQ enc Try.prog W 0 sp held m 4 [c2]=some y2 from hy2);obtain rfl:c0=.string s0:=by simpa using e0
 obtain rfl:c1=.string s1:=by simpa using e1
 obtain rfl:c2=.bool b:=by simpa using e2
 exact⟨(s0,s1,b),rfl,trivial⟩
theorem za1 {v:Value}{d:DataW H}{p:List MemPlace}{base:Nat}(hv:Value.okWide Try.prog W .any base 23 v)(h:DataW.Trod enc Try.prog W 0 sp held 23 v d p):
 ∃(q:Qc) (n c:Nat) (L:List Bal),v=.slice q n c/\qH q n c/\(∀x∈L,True)/\AtF blS W q n L:=
 vu Try.underlying23 vK za0 hv h
end
end
theorem vL: ∀ {x y:List UInt8},zd x y=false->x≠y->zd y x=true
 | [],[],_,h=>absurd rfl h
 | [],_::_,h,_=>by simp[zd]at h
 | _::_,[],_,_=>rfl
 | a::x,b::y,h,hne=>by
  unfold zd at h⊢;by_cases e:a=b
  ·subst e;have hlt: ¬a.toNat<a.toNat:=R3 _;simp only[R3,if_false,if_true]at h⊢;exact vL h fun e=>hne (by rw[e])
  ·have hn:a.toNat≠b.toNat:=fun q=>e (UInt8.toNat_inj.1 q);by_cases c:b.toNat<a.toNat
   ·rw[if_pos c]
   ·have:a.toNat<b.toNat:=by omega
    rw[if_pos this]at h;cases h
theorem jX {a b:Qa}(h:zd (tl a) (tl b)=false)(hne:a≠b):zd (tl b) (tl a)=true:=vL h fun e=>hne (xI e)
theorem vM {a b:Qa}(h:zd (tl a) (tl b)=true):a≠b:=fun e=>by rw[e,qU]at h;cases h
theorem vN {a b:Qa}(h:zd (tl a) (tl b)=true):zd (tl b) (tl a)=false:=QR.2 fun e=>by
 have:=qt h e;rw[qU]at this;cases this
def nsB (b x:Bal):Bool:= !(decide (x.2.1=b.2.1)&&decide (x.1=b.1))
theorem yN {b x:Bal} :nsB b x=true↔ ¬(x.2.1=b.2.1/\x.1=b.1):=by
 unfold nsB;by_cases h1:x.2.1=b.2.1<;>by_cases h2:x.1=b.1<;>simp[h1,h2]
theorem qM {a b c:Bal}(h1:aheadB a b=true)(h2:aheadB b c=true):aheadB a c=true:=by
 unfold aheadB at*;by_cases e1:a.2.1=b.2.1
 ·rw[if_pos e1]at h1;by_cases e2:b.2.1=c.2.1
  ·rw[if_pos e2]at h2;rw[if_pos (e1.trans e2)];exact qt h1 h2
  ·rw[if_neg e2]at h2;rw[if_neg (by rw[e1];exact e2),e1];exact h2
 ·rw[if_neg e1]at h1;by_cases e2:b.2.1=c.2.1
  ·rw[if_pos e2]at h2;rw[if_neg (by rw[<-e2];exact e1),<-e2];exact h1
  ·rw[if_neg e2]at h2;have h3:=qt h1 h2;rw[if_neg (vM h3)];exact h3
theorem jY {b x:Bal}(h:aheadB x b=true):nsB b x=true:=yN.2 fun e=>by
 unfold aheadB at h;rw[if_pos e.1,e.2,qU]at h;cases h
theorem xT {x b:Bal}(h:aheadB x b=false)(hn:nsB b x=true):aheadB b x=true:=by
 have h1:=yN.1 hn;unfold aheadB at*;by_cases e:x.2.1=b.2.1
 ·rw[if_pos e]at h;rw[if_pos e.symm];exact jX h fun e2=>h1 ⟨e,e2⟩
 ·rw[if_neg e]at h;rw[if_neg (fun q=>e q.symm)];exact jX h e
def yU (b:Bal):List Bal->List Bal
 | []=>[b]
 | x::r=>if aheadB x b=true then x::yU b r else b::(x::r).filter (nsB b)
theorem vO (b x:Bal)(r:List Bal):yU b (x::r)=if aheadB x b=true then x::yU b r else b::(x::r).filter (nsB b):=rfl
theorem vP (b:Bal)(s:List Bal×Bool)(x:Bal):yL b s x=(if nsB b x=true then s.1++ [x] else s.1,s.2):=by
 unfold yL;by_cases h:x.2.1=b.2.1/\x.1=b.1
 ·rw[if_pos h,if_neg (fun e=>yN.1 e h)]
 ·rw[if_neg h,if_pos (yN.2 h)]
theorem xU (b:Bal): ∀(V:List Bal) (A:List Bal),V.foldl (fun s x=>yL b (ya b s x) x) (A,true)=(A++V.filter (nsB b),true)
 | [],A=>by simp
 | x::r,A=>by
  rw[Rz,show ya b (A,true) x=(A,true) from rfl,vP,Ru];by_cases h:nsB b x=true
  ·rw[if_pos h,if_pos h,xU b r];simp
  ·rw[if_neg h,if_neg h,xU b r]
def vQ (b:Bal)(s:List Bal×Bool):List Bal:=if s.2=true then s.1 else s.1++ [b]
theorem vR (b:Bal): ∀(V:List Bal) (A:List Bal),vQ b (V.foldl (fun s x=>yL b (ya b s x) x) (A,false))=A++yU b V
 | [],A=>rfl
 | x::r,A=>by
  rw[Rz];cases h:aheadB x b with
  | true=>
   have e1:ya b (A,false) x=(A,false):=by unfold ya;rw[h];rfl
   rw[e1,vP,if_pos (jY h),vR b r];rw[vO,if_pos h];simp
  | false=>
   have e1:ya b (A,false) x=(A++ [b],true):=by unfold ya;rw[h];rfl
   rw[e1];have e2:=xU b (x::r) (A++ [b]);rw[Rz,show ya b (A++ [b],true) x=(A++ [b],true) from rfl]at e2;rw[e2];unfold vQ yU;rw[if_pos rfl,if_neg (by rw[h];decide)];simp
theorem xW (b:Bal)(V:List Bal):zx b V=yU b V:=by
 have:=vR b V [];rw[Un]at this;exact this
abbrev qe (V:List Bal):Prop:=V.Pairwise fun a b=>aheadB a b=true
theorem xX (b:Bal): ∀V:List Bal,(yU b V).Perm (b::V.filter (nsB b))
 | []=>.refl _
 | x::r=>by
  unfold yU;by_cases h:aheadB x b=true
  ·rw[if_pos h,Ru,if_pos (jY h)];exact(Uw _ (xX b r)).trans (Ux _ _ _)
  ·rw[if_neg h]
theorem vS (b:Bal): ∀ {V:List Bal},qe V->qe (yU b V)
 | [],_=>List.pairwise_singleton _ _
 | x::r,hs=>by
  obtain⟨h1,h2⟩:=QL.1 hs;unfold yU;by_cases h:aheadB x b=true
  ·rw[if_pos h];refine QL.2 ⟨fun y hy=>?_,vS b h2⟩;rcases QJ.1 ((xX b r).mem_iff.1 hy) with rfl | hy
   ·exact h
   ·exact h1 y (Rf.1 hy).1
  ·rw[if_neg h];refine QL.2 ⟨fun y hy=>?_,RF _ hs⟩;obtain⟨hm,hn⟩:=Rf.1 hy;rcases QJ.1 hm with rfl | hm
   ·exact xT (QR.2 h) hn
   ·have h3:=h1 y hm;by_cases hx:nsB b x=true
    ·exact qM (xT (QR.2 h) hx) h3
    ·
     have hxb:x.2.1=b.2.1/\x.1=b.1:=by
      by_cases q:x.2.1=b.2.1/\x.1=b.1
      ·exact q
      ·exact absurd (yN.2 q) hx
     unfold aheadB at h3⊢;rw[hxb.1,hxb.2]at h3;exact h3
theorem vT (b:Bal)(V:List Bal):(zx b V).Perm (b::V.filter (nsB b)):=by rw[xW];exact xX b V
theorem vU (b:Bal){V:List Bal}(h:qe V):qe (zx b V):=by rw[xW];exact vS b h
theorem vV (c b:Bal)(V:List Bal):zh c (zx b V)=(if zC c b=true then 1 else 0)+((V.filter (nsB b)).filter (zC c)).length:=by
 unfold zh;rw[((vT b V).filter (zC c)).length_eq,Ru];split
 ·rw[Rq];omega
 ·omega
abbrev qf (L:Qi):Prop:=L.Pairwise fun a b=>zd (tl a) (tl b)=true
theorem vW (L:Qi)(V:List Bal): ∀(W:List Bal) (p:Option Bal),qV L V p W=true↔(∀x∈W,zD L x=true/\2*zh x V<=L.length)/\qe W/\ ∀x∈W,yw p x=true
 | [],p=>⟨fun _=>⟨fun x hx=>absurd hx (Rv),List.Pairwise.nil,fun x hx=>absurd hx (Rv)⟩,fun _=>rfl⟩
 | b::r,p=>by
  have ih:=vW L V r (some b);show (zD L b&&(yw p b&&(decide (2*zh b V<=L.length)&&qV L V (some b) r)))=true↔_;rw[Qk,Qk,Qk,ih,decide_eq_true_iff];constructor
  ·rintro⟨h1,h2,h3,h4,h5,h6⟩;refine⟨fun x hx=>?_,QL.2 ⟨h6,h5⟩,fun x hx=>?_⟩
   ·rcases QJ.1 hx with rfl|hx
    ·exact⟨h1,h3⟩
    ·exact h4 x hx
   ·rcases QJ.1 hx with rfl|hx
    ·exact h2
    ·cases p with
     | none=>rfl
     | some a=>exact qM h2 (h6 x hx)
  ·rintro⟨h1,h2,h3⟩;obtain⟨h4,h5⟩:=QL.1 h2;have h6:=h1 b (QM ..);exact⟨h6.1,h3 b (QM ..),h6.2,fun x hx=>h1 x (Q4 _ hx),h5,h4⟩
theorem yO {L:Qi}{V:List Bal} :zE L V=true↔(∀x∈V,zD L x=true/\2*zh x V<=L.length)/\qe V/\zJ L=true:=by
 unfold zE;rw[Qk,vW];exact⟨fun h=>⟨h.1.1,h.1.2.1,h.2⟩,fun h=>⟨⟨h.1,h.2.1,fun _ _=>rfl⟩,h.2.2⟩⟩
theorem vX: ∀(W:Qi) (p:Option Qa),yl p W=true↔(∀x∈W,x.size=20)/\qf W/\ ∀x∈W,upB p x=true
 | [],p=>⟨fun _=>⟨fun x hx=>absurd hx (Rv),List.Pairwise.nil,fun x hx=>absurd hx (Rv)⟩,fun _=>rfl⟩
 | b::r,p=>by
  have ih:=vX r (some b);show (decide (b.size=20)&&(upB p b&&yl (some b) r))=true↔_;rw[Qk,Qk,ih,decide_eq_true_iff];constructor
  ·rintro⟨h1,h2,h4,h5,h6⟩;refine⟨fun x hx=>?_,QL.2 ⟨h6,h5⟩,fun x hx=>?_⟩
   ·rcases QJ.1 hx with rfl|hx
    ·exact h1
    ·exact h4 x hx
   ·rcases QJ.1 hx with rfl|hx
    ·exact h2
    ·cases p with
     | none=>rfl
     | some a=>exact qt h2 (h6 x hx)
  ·rintro⟨h1,h2,h3⟩;obtain⟨h4,h5⟩:=QL.1 h2;exact⟨h1 b (QM ..),h3 b (QM ..),fun x hx=>h1 x (Q4 _ hx),h5,h4⟩
theorem qg {L:Qi} :zJ L=true↔(∀x∈L,x.size=20)/\qf L/\0<L.length/\L.length<=16:=by
 unfold zJ;rw[Qk,Qk,vX,decide_eq_true_iff,decide_eq_true_iff];exact⟨fun h=>⟨h.1.1,h.1.2.1,h.2⟩,fun h=>⟨⟨h.1,h.2.1,fun _ _=>rfl⟩,h.2.2⟩⟩
theorem yP {L:Qi}{b:Bal} :zD L b=true↔b.1∈L/\b.2.1.size=20/\zA b.2.1 L= !b.2.2:=by
 unfold zD;rw[Qk,Qk,yT,decide_eq_true_iff];refine and_congr Iff.rfl (and_congr Iff.rfl ?_);cases zA b.2.1 L<;>cases b.2.2<;>simp
def neA (a x:Qa):Bool:= !decide (x=a)
theorem yQ {a x:Qa} :neA a x=true↔x≠a:=by unfold neA;by_cases h:x=a<;>simp[h]
def qh (a:Qa):Qi->Qi
 | []=>[a]
 | x::r=>if zd (tl a) (tl x)=true then a::(x::r).filter (neA a) else if x=a then qh a r else x::qh a r
theorem jZ (a x:Qa)(r:Qi):qh a (x::r)=if zd (tl a) (tl x)=true then a::(x::r).filter (neA a) else if x=a then qh a r else x::qh a r:=rfl
theorem vY (a:Qa)(s:Qi×Bool)(x:Qa):yM a s x=(if neA a x=true then s.1++ [x] else s.1,s.2):=by
 unfold yM;by_cases h:x=a
 ·rw[if_pos h,if_neg (fun e=>yQ.1 e h)]
 ·rw[if_neg h,if_pos (yQ.2 h)]
theorem xa (a:Qa): ∀(L A:Qi),L.foldl (fun s x=>yM a (yb a s x) x) (A,true)=(A++L.filter (neA a),true)
 | [],A=>by simp
 | x::r,A=>by
  rw[Rz,show yb a (A,true) x=(A,true) from rfl,vY,Ru];by_cases h:neA a x=true
  ·rw[if_pos h,if_pos h,xa a r];simp
  ·rw[if_neg h,if_neg h,xa a r]
def vZ (a:Qa)(s:Qi×Bool):Qi:=if s.2=true then s.1 else s.1++ [a]
theorem xY (a:Qa): ∀(L A:Qi),vZ a (L.foldl (fun s x=>yM a (yb a s x) x) (A,false))=A++qh a L
 | [],A=>rfl
 | x::r,A=>by
  rw[Rz,jZ];cases h:zd (tl a) (tl x) with
  | true=>
   have e1:yb a (A,false) x=(A++ [a],true):=by unfold yb;rw[h];rfl
   rw[e1];have e2:=xa a (x::r) (A++ [a]);rw[Rz,show yb a (A++ [a],true) x=(A++ [a],true) from rfl]at e2;rw[e2,if_pos rfl];unfold vZ;rw[if_pos rfl];simp
  | false=>
   have e1:yb a (A,false) x=(A,false):=by unfold yb;rw[h];rfl
   rw[e1,vY,if_neg QN];by_cases e:x=a
   ·rw[if_neg (fun q=>yQ.1 q e),if_pos e];exact xY a r A
   ·rw[if_pos (yQ.2 e),if_neg e];exact(xY a r (A++ [x])).trans (by simp)
theorem xb (a:Qa)(L:Qi):zL a true L=qh a L:=by
 have:=xY a L [];rw[Un]at this;exact this
theorem xc (a:Qa)(L:Qi):zL a false L=L.filter (neA a):=by
 have:=xa a L [];rw[Un]at this;unfold zL qu;rw[show (!false)=true from rfl,this,if_pos rfl]
theorem ju (a:Qa): ∀L:Qi,(qh a L).Perm (a::L.filter (neA a))
 | []=>.refl _
 | x::r=>by
  rw[jZ];by_cases h:zd (tl a) (tl x)=true
  ·rw[if_pos h]
  ·rw[if_neg h];by_cases e:x=a
   ·rw[if_pos e,Ru,if_neg (fun q=>yQ.1 q e)];exact ju a r
   ·rw[if_neg e,Ru,if_pos (yQ.2 e)];exact(Uw _ (ju a r)).trans (Ux _ _ _)
theorem xZ (a:Qa): ∀ {L:Qi},qf L->qf (qh a L)
 | [],_=>List.pairwise_singleton _ _
 | x::r,hs=>by
  obtain⟨h1,h2⟩:=QL.1 hs;rw[jZ];by_cases h:zd (tl a) (tl x)=true
  ·rw[if_pos h];refine QL.2 ⟨fun y hy=>?_,RF _ hs⟩;rcases QJ.1 (Rf.1 hy).1 with rfl | hm
   ·exact h
   ·exact qt h (h1 y hm)
  ·rw[if_neg h];by_cases e:x=a
   ·rw[if_pos e];exact xZ a h2
   ·rw[if_neg e];refine QL.2 ⟨fun y hy=>?_,xZ a h2⟩;rcases QJ.1 ((ju a r).mem_iff.1 hy) with rfl | hy
    ·exact jX (QR.2 h) fun q=>e q.symm
    ·exact h1 y (Rf.1 hy).1
theorem ka {a:Qa}{L:Qi}(h:a∉L):L.filter (neA a)=L:=Ra.2 fun x hx=>yQ.2 fun e=>h (e▸hx)
theorem ua {a:Qa} : ∀ {L:Qi},qf L->a∈L->(L.filter (neA a)).length+1=L.length
 | [],_,h=>absurd h (Rv)
 | x::r,hs,h=>by
  obtain⟨h1,h2⟩:=QL.1 hs;rw[Ru];by_cases e:x=a
  ·rw[if_neg (fun q=>yQ.1 q e),ka (fun hm=>vM (h1 a hm) e),Rq]
  ·rw[if_pos (yQ.2 e),Rq,Rq];rcases QJ.1 h with q | q
   ·exact absurd q.symm e
   ·have:=ua h2 q;omega
theorem jv {a:Qa}{add:Bool}{L:Qi}{x:Qa} :x∈zL a add L↔(add=true/\x=a)\/(x∈L/\x≠a):=by
 cases add with
 | true=>
  rw[xb,(ju a L).mem_iff,QJ,Rf,yQ];simp
 | false=>
  rw[xc,Rf,yQ];simp
theorem kb {a:Qa}{L:Qi}(h:a∉L):(zL a true L).length=L.length+1:=by
 rw[xb,(ju a L).length_eq,Rq,ka h]
theorem ub {a:Qa}{L:Qi}(hs:qf L)(h:a∈L):(zL a false L).length+1=L.length:=by
 rw[xc];exact ua hs h
theorem qW {a:Qa}{L:Qi}(h:zA a L=false):a∉L:=fun e=>by rw[yT.2 e]at h;cases h
theorem za2 {a:Qa}{L M:Qi}(h:a∈L↔a∈M):zA a L=zA a M:=by
 cases e:zA a M with
 | true=>exact yT.2 (h.2 (yT.1 e))
 | false=>exact QR.2 fun q=>qW e (h.1 (yT.1 q))
theorem za3 {a:Qa}{add:Bool}{L:Qi}(hr:zJ L=true)(ha:a.size=20)(hh:zA a L= !add)(h1:add=true->L.length<16)(h2:add=false->L.length≠1):zJ (zL a add L)=true:=by
 obtain⟨q1,q2,q3,q4⟩:=qg.1 hr;refine qg.2 ⟨fun x hx=>?_,?_,?_⟩
 ·rcases jv.1 hx with⟨_,rfl⟩|⟨hx,_⟩
  ·exact ha
  ·exact q1 x hx
 ·cases add with
  | true=>rw[xb];exact xZ a q2
  | false=>rw[xc];exact RF _ q2
 ·cases add with
  | true=>
   have:=kb (qW hh);have:=h1 rfl;omega
  | false=>
   have:=ub q2 (yT.1 hh);have:=h2 rfl;omega
theorem za4 (b:Bal):zC b b=true:=by unfold zC;simp
theorem za5 {b x:Bal}(h:zC x b=true):zh x=zh b:=by
 unfold zC at h;rw[Qk,decide_eq_true_iff,beq_iff_eq]at h;funext V;unfold zh;congr 2;funext y;unfold zC;rw[h.1,h.2]
theorem ke {c:Bal}{A V:List Bal}(h:A.Sublist V):zh c A<=zh c V:=(h.filter _).length_le
theorem uc {b x:Bal}{V:List Bal}(h: ¬zC x b=true):zh x (zx b V)<=zh x V:=by
 rw[vV,if_neg h,Qu];exact ke (R9)
theorem kf {b x:Bal}{V:List Bal} :x∈zx b V↔x=b\/(x∈V/\nsB b x=true):=by
 rw[(vT b V).mem_iff,QJ,Rf]
theorem ud {L:Qi}{V:List Bal}{b:Bal}(h:(zF L V b).2.2=0):zE L V=true/\zD L b=true/\(b.2.2=true->L.length<16)/\(b.2.2=false->L.length≠1)/\
 zF L V b=if 2*zh b (zx b V)<=L.length then (L,zx b V,0) else (zL b.2.1 b.2.2 L,((zx b V).filter (yf b)).filter (fun x=>b.2.2||decide (2*zh x ((zx b V).filter (yf b))<=(zL b.2.1 b.2.2 L).length)),0):=by
 unfold zF at h⊢;by_cases h1:zE L V=false
 ·rw[if_pos h1]at h;cases h
 rw[if_neg h1]at h⊢;by_cases h2:zD L b=false\/(b.2.2=true/\16<=L.length)\/(b.2.2=false/\L.length=1)
 ·rw[if_pos h2]at h;cases h
 rw[if_neg h2];refine⟨by cases e:zE L V<;>simp_all,by cases e:zD L b<;>simp_all,fun e=>?_,fun e q=>h2 (.inr (.inr ⟨e,q⟩)),rfl⟩;exact Nat.lt_of_not_le fun q=>h2 (.inr (.inl ⟨e,q⟩))
theorem ue {L:Qi}{V:List Bal}{b:Bal}(h:(zF L V b).2.2=0):zE (zF L V b).1 (zF L V b).2.1=true:=by
 obtain⟨hr,hf,ha,hc,e⟩:=ud h;rw[e];obtain⟨r1,r2,r3⟩:=yO.1 hr;obtain⟨f1,f2,f3⟩:=yP.1 hf;by_cases h2:2*zh b (zx b V)<=L.length
 ·rw[if_pos h2];refine yO.2 ⟨fun x hx=>?_,vU b r2,r3⟩;rcases kf.1 hx with rfl | ⟨hx,hn⟩
  ·exact⟨hf,h2⟩
  ·refine⟨(r1 x hx).1,?_⟩;by_cases q:zC x b=true
   ·rw[za5 q];exact h2
   ·have:=uc (V:=V) q;have:=(r1 x hx).2;show 2*zh x (zx b V)<=L.length;omega
 ·rw[if_neg h2];have hset:zJ (zL b.2.1 b.2.2 L)=true:=za3 r3 f2 f3 ha hc;refine yO.2 ⟨fun x hx=>?_,(RF _ (RF _ (vU b r2))),hset⟩;change x∈((zx b V).filter (yf b)).filter _ at hx;obtain⟨hx1,hx2⟩:=Rf.1 hx;obtain⟨hx3,hx4⟩:=Rf.1 hx1;unfold yf at hx4;rw[Qk,decide_eq_true_iff,RL,decide_eq_true_iff]at hx4;have hxV:x∈V:=by
   rcases kf.1 hx3 with rfl|⟨hx,_⟩
   ·exact absurd rfl hx4.1
   ·exact hx
  obtain⟨g1,g2⟩:=r1 x hxV;obtain⟨g3,g4,g5⟩:=yP.1 g1;refine⟨yP.2 ⟨jv.2 ?_,g4,?_⟩,?_⟩
  ·by_cases q:x.1=b.2.1
   ·rcases hx4.2 with h9|h9
    ·exact .inl ⟨h9,q⟩
    ·exact absurd q h9
   ·exact .inr ⟨g3,q⟩
  ·refine(za2 ?_).trans g5;rw[jv];exact⟨fun h9=>h9.elim (fun q=>absurd q.2 hx4.1) (·.1),fun h9=>.inr ⟨h9,hx4.1⟩⟩
  ·show 2*zh x (((zx b V).filter (yf b)).filter _)<=(zL b.2.1 b.2.2 L).length;cases had:b.2.2 with
   | true=>
    have k1:zh x (((zx b V).filter (yf b)).filter (fun x=>true||decide (2*zh x ((zx b V).filter (yf b))<=(zL b.2.1 true L).length)))<=zh x (zx b V):=ke (List.Sublist.trans R9 R9)
    have k2:zh x (zx b V)<=zh x V:=uc fun q=>hx4.1 (by
     unfold zC at q;rw[Qk,decide_eq_true_iff]at q;exact q.1.symm)
    rw[had]at f3;have k3:=kb (qW f3);omega
   | false=>
    rw[had,RV,decide_eq_true_iff]at hx2;exact Rp (Nat.mul_le_mul_left 2 (ke R9)) hx2
def yH (b x:Bal):Bool:=decide (x.2.1=b.2.1)&&(x.2.2==b.2.2)&& !decide (x.1=b.1)
theorem za6 (b:Bal):(fun x=>zC b x&&nsB b x)=yH b:=by
 funext x;unfold zC nsB yH;cases decide (x.2.1=b.2.1)<;>cases (x.2.2==b.2.2)<;>cases decide (x.1=b.1)<;>rfl
theorem za7 (b:Bal)(V:List Bal):zh b (zx b V)=(V.filter (yH b)).length+1:=by
 rw[vV,if_pos (za4 b),List.filter_filter,za6,Nat.add_comm]
theorem za8 {L:Qi}{V:List Bal}{b:Bal}(h:(zF L V b).2.2=0):
 1<=(zF L V b).1.length/\(zF L V b).1.length<=L.length+1/\L.length<=(zF L V b).1.length+1/\(L.length≠(zF L V b).1.length↔L.length<2*((V.filter (yH b)).length+1))/\
 (L.length≠(zF L V b).1.length->zA b.2.1 (zF L V b).1=b.2.2):=by
 have hR:=ue h;obtain⟨hr,hf,ha,hc,e⟩:=ud h;obtain⟨r1,r2,r3⟩:=yO.1 hr;obtain⟨f1,f2,f3⟩:=yP.1 hf;have hs:=(qg.1 r3).2.1;have hpos:=(qg.1 (yO.1 hR).2.2).2.2.1;rw[<-za7];rw[e]at hpos⊢;by_cases h2:2*zh b (zx b V)<=L.length
 ·rw[if_pos h2]at hpos⊢;change 0<L.length at hpos;show 1<=L.length/\L.length<=L.length+1/\L.length<=L.length+1/\(L.length≠L.length↔_)/\(L.length≠L.length->_)
  exact⟨hpos,Nat.le_succ _,Nat.le_succ _,⟨fun q=>absurd rfl q,fun q=>by omega⟩,fun q=>absurd rfl q⟩
 ·rw[if_neg h2]at hpos⊢;change 0<(zL b.2.1 b.2.2 L).length at hpos;show 1<=(zL b.2.1 b.2.2 L).length/\(zL b.2.1 b.2.2 L).length<=L.length+1/\L.length<=(zL b.2.1 b.2.2 L).length+1/\(L.length≠(zL b.2.1 b.2.2 L).length↔L.length<2*zh b (zx b V))/\(L.length≠(zL b.2.1 b.2.2 L).length->zA b.2.1 (zL b.2.1 b.2.2 L)=b.2.2)
  cases had:b.2.2 with
  | true=>
   rw[had]at f3 hpos;have k:=kb (qW f3);exact⟨hpos,by omega,by omega,⟨fun _=>by omega,fun _=>by omega⟩,fun _=>yT.2 (jv.2 (.inl ⟨rfl,rfl⟩))⟩
  | false=>
   rw[had]at f3 hpos;have k:=ub hs (yT.1 f3)
   exact⟨hpos,by omega,by omega,⟨fun _=>by omega,fun _=>by omega⟩,fun _=>QR.2 fun q=>by
    rcases jv.1 (yT.1 q) with⟨q,_⟩|⟨_,q⟩
    ·cases q
    ·exact q rfl⟩
theorem za9 {L:Qi}{V:List Bal}{b:Bal}(h:(zF L V b).2.2≠0):zF L V b=([],[],(zF L V b).2.2)/\(zE L V=true->(zF L V b).2.2=44):=by
 unfold zF at h⊢;by_cases h1:zE L V=false
 ·rw[if_pos h1];exact⟨rfl,fun q=>by rw[q]at h1;cases h1⟩
 rw[if_neg h1]at h⊢;by_cases h2:zD L b=false\/(b.2.2=true/\16<=L.length)\/(b.2.2=false/\L.length=1)
 ·rw[if_pos h2];exact⟨rfl,fun _=>rfl⟩
 rw[if_neg h2]at h;exfalso;apply h;split<;>rfl
def whoC (a:Qa)(V:List Bal):Nat:=(V.filter fun x=>decide (x.2.1=a)).length
theorem uf (a:Qa)(V:List Bal):whoC a V<=V.length:=Ry _ _
theorem kg (a:Qa)(V:List Bal)(x:Bal):whoC a (V++ [x])=whoC a V+if x.2.1=a then 1 else 0:=by
 unfold whoC;rw[Q2,QD];congr 1;by_cases h:x.2.1=a
 ·rw[if_pos h,RG (by simpa using h)];rfl
 ·rw[if_neg h,Q8 (by simpa using h)];rfl
def qv:Option Bal->Nat->Bal->Nat
 | none,m,_=>m+1
 | some a,m,x=>(if a.2.1=x.2.1 then m else 0)+1
def qX (L:Qi):Option Bal->Nat->List Bal->Bool
 | _,_,[]=>true
 | p,m,x::r=>zD L x&&(yw p x&&(decide (2*qv p m x<=L.length)&&qX L (some x) (qv p m x) r))
def yI (L:Qi)(V:List Bal):Bool:=qX L none 0 V
theorem kh {L:Qi}{V:List Bal}{x:Bal}(hx:zD L x=true)(hV: ∀y∈V,zD L y=true):zh x V=whoC x.2.1 V:=by
 unfold zh whoC;congr 1;refine List.filter_congr fun y hy=>?_;obtain⟨_,_,h1⟩:=yP.1 hx;obtain⟨_,_,h2⟩:=yP.1 (hV y hy);unfold zC;by_cases e:y.2.1=x.2.1
 ·rw[e,h1]at h2;rw[decide_eq_true e,QU,beq_iff_eq];cases hy2:y.2.2<;>cases hx2:x.2.2<;>simp_all
 ·rw[decide_eq_false e];rfl
structure Run (A:List Bal)(p:Option Bal)(m:Nat):Prop where
 no:p=none->A=[]/\m=0
 so: ∀a,p=some a->m=whoC a.2.1 A/\ ∀y∈A,y=a\/aheadB y a=true
theorem Run.next {A:List Bal}{p:Option Bal}{m:Nat}{x:Bal}(h:Run A p m)(hp:yw p x=true):Run (A++ [x]) (some x) (qv p m x):=by
 refine⟨(fun q=>nomatch q),fun a q=>?_⟩;obtain rfl:x=a:=Option.some.inj q;refine⟨?_,fun y hy=>?_⟩
 ·rw[kg,if_pos rfl];cases p with
  | none=>
   obtain⟨rfl,rfl⟩:=h.no rfl;rfl
  | some a=>
   obtain⟨hm,ha⟩:=h.so a rfl;show (if a.2.1=x.2.1 then m else 0)+1=_;by_cases e:a.2.1=x.2.1
   ·rw[if_pos e,hm,e]
   ·rw[if_neg e];congr 1;unfold whoC;rw[List.filter_eq_nil_iff.2,List.length_nil];intro y hy;simp only[decide_eq_true_eq];intro hyx;have hp2:aheadB a x=true:=hp;have hlt:zd (tl a.2.1) (tl x.2.1)=true:=by unfold aheadB at hp2;rwa [if_neg e]at hp2
    rcases ha y hy with rfl|hya
    ·exact e hyx
    ·unfold aheadB at hya;by_cases e2:y.2.1=a.2.1
     ·exact e (e2.symm.trans hyx)
     ·rw[if_neg e2,hyx]at hya;rw[vN hlt]at hya;cases hya
 ·rcases Ud.1 hy with hy|hy
  ·cases p with
   | none=>rw[(h.no rfl).1]at hy;exact nomatch hy
   | some a=>
    have hp2:aheadB a x=true:=hp;rcases (h.so a rfl).2 y hy with rfl | q
    ·exact .inr hp2
    ·exact .inr (qM q hp2)
  ·exact .inl (RS.1 hy)
theorem ki {L:Qi} : ∀(W A:List Bal) (p:Option Bal) (m:Nat),Run A p m->(qX L p m W=true↔(∀x∈W,zD L x=true)/\qe W/\(∀x∈W,yw p x=true)/\ ∀B x C,W=B++x::C->2*whoC x.2.1 (A++B++ [x])<=L.length)
 | [],A,p,m,_=>⟨fun _=>⟨fun x hx=>absurd hx (Rv),List.Pairwise.nil,fun x hx=>absurd hx (Rv),fun B x C h=>by simp at h⟩,fun _=>rfl⟩
 | x::r,A,p,m,hR=>by
  unfold qX;rw[Qk,Qk,Qk,decide_eq_true_iff];constructor
  ·rintro⟨h1,h2,h3,h4⟩;have hn:=hR.next h2
   obtain⟨g1,g2,g3,g4⟩:=(ki r (A++ [x]) (some x) _ hn).1 h4;refine⟨fun y hy=>?_,QL.2 ⟨g3,g2⟩,fun y hy=>?_,fun B y C e=>?_⟩
   ·rcases QJ.1 hy with rfl|hy
    ·exact h1
    ·exact g1 y hy
   ·rcases QJ.1 hy with rfl|hy
    ·exact h2
    ·cases p with
     | none=>rfl
     | some a=>exact qM h2 (g3 y hy)
   ·cases B with
    | nil=>
     obtain⟨rfl,rfl⟩:x=y/\r=C:=by simpa using e
     rw[Rt,<-(hn.so x rfl).1];exact h3
    | cons z B=>
     obtain⟨rfl,e⟩:x=z/\r=B++y::C:=by simpa using e
     have:=g4 B y C (by assumption);rw[show A++x::B=A++ [x]++B by simp];exact this
  ·rintro⟨g1,g2,g3,g4⟩;obtain⟨q1,q2⟩:=QL.1 g2;have h2:=g3 x (QM ..);have hn:=hR.next h2
   refine⟨g1 x (QM ..),h2,?_,(ki r (A++ [x]) (some x) _ hn).2 ⟨fun y hy=>g1 y (Q4 _ hy),q2,q1,fun B y C e=>?_⟩⟩
   ·have:=g4 [] x r rfl;rw[Rt,<-(hn.so x rfl).1]at this;exact this
   ·have:=g4 (x::B) y C (by rw[e];rfl);rw[show A++ [x]++B=A++x::B by simp];exact this
theorem ug {α:Type}{P:List α->Prop}(h0:P [])(h1: ∀A x,P A->P (A++ [x]))(V:List α):P V:=by
 have: ∀n (V:List α),V.length=n->P V:=by
  intro n
  induction n with
  | zero=>intro V h;rw[List.length_eq_zero_iff.1 h];exact h0
  | succ n ih=>
   intro V h;have hne:V≠[]:=fun e=>by rw[e]at h;cases h
   have:=h1 V.dropLast (V.getLast hne) (ih _ (by rw[List.length_dropLast,h];rfl))
   rwa [List.dropLast_concat_getLast hne]at this
 exact this _ V rfl
theorem zba {k:Nat}(V:List Bal):(∀B x C,V=B++x::C->2*whoC x.2.1 (B++ [x])<=k)-> ∀x∈V,2*whoC x.2.1 V<=k:=by
 refine ug (P:=fun V=>(∀B x C,V=B++x::C->2*whoC x.2.1 (B++ [x])<=k)-> ∀x∈V,2*whoC x.2.1 V<=k) (fun _ x hx=>absurd hx (Rv)) (fun A y ih h x hx=>?_) V;have hy:=h A y [] rfl;by_cases e:x.2.1=y.2.1
 ·rw[e];exact hy
 ·rcases Ud.1 hx with hx|hx
  ·have:=ih (fun B z C q=>h B z (C++ [y]) (by rw[q];simp)) x hx;rw[kg,if_neg (fun q=>e q.symm)];exact this
  ·rw[RS.1 hx]at e;exact absurd rfl e
theorem zbb (L:Qi)(V:List Bal):(zJ L&&yI L V)=zE L V:=by
 rw[Ue,yO,Qk];unfold yI;rw[ki V [] none 0 ⟨fun _=>⟨rfl,rfl⟩,(fun a h=>nomatch h)⟩];constructor
 ·rintro⟨hs,h1,h2,_,h4⟩;have h5:=zba (k:=L.length) V (fun B x C e=>by simpa using h4 B x C e);exact⟨fun x hx=>⟨h1 x hx,by rw[kh (h1 x hx) h1];exact h5 x hx⟩,h2,hs⟩
 ·rintro⟨h1,h2,hs⟩;refine⟨hs,fun x hx=>(h1 x hx).1,h2,fun _ _=>rfl,fun B x C e=>?_⟩;have hx:x∈V:=by rw[e];simp
  have:=(h1 x hx).2;rw[kh (h1 x hx).1 (fun y hy=>(h1 y hy).1)]at this;have hsub:(([]:List Bal)++B++ [x]).Sublist V:=by
   rw[e,Un];exact Re (Rn _) (QH _ (List.nil_sublist _))
  have:whoC x.2.1 ([]++B++ [x])<=whoC x.2.1 V:=(hsub.filter _).length_le;omega
def zj {α:Type}(f:α->Bool):List α->Nat
 | []=>0
 | x::r=>if f x=true then zj f r+1 else 0
theorem qw {α:Type}(f:α->Bool): ∀L:List α,zj f L<=L.length
 | []=>Qs _
 | x::r=>by
  have:=qw f r;unfold zj;split
  ·rw[Rq];omega
  ·omega
def zm {α:Type}[DecidableEq α](f:α->Bool)(b:α)(L:List α):List α:=if L[zj f L]? =some b then L else L.take (zj f L)++b::L.drop (zj f L)
theorem uh {α:Type}[DecidableEq α](f:α->Bool)(b x:α)(r:List α):zm f b (x::r)=if f x=true then x::zm f b r else if x=b then x::r else b::x::r:=by
 unfold zm;rw[zj];by_cases h:f x=true
 ·rw[if_pos h,if_pos h];rw[List.getElem?_cons_succ];by_cases e:r[zj f r]? =some b
  ·rw[if_pos e,if_pos e]
  ·rw[if_neg e,if_neg e];rfl
 ·rw[if_neg h,if_neg h,List.getElem?_cons_zero];by_cases e:x=b
  ·rw[if_pos e,if_pos (by rw[e])]
  ·rw[if_neg e,if_neg (fun q=>e (Option.some.inj q))];rfl
theorem zbc (b:Bal): ∀ {V:List Bal},qe V->(∀x∈V,nsB b x=false->x=b)->zm (fun x=>aheadB x b) b V=zx b V:=by
 intro V hs hb;rw[xW]
 induction V with
 | nil=>rfl
 | cons x r ih=>
  obtain⟨h1,h2⟩:=QL.1 hs;rw[uh,vO];by_cases h:aheadB x b=true
  ·rw[if_pos h,if_pos h,ih h2 fun y hy=>hb y (Q4 _ hy)]
  ·rw[if_neg h,if_neg h];by_cases e:x=b
   ·rw[if_pos e];subst e;rw[Ru,if_neg (fun e=>yN.1 e ⟨rfl,rfl⟩),Ra.2];intro y hy;exact yN.2 fun q=>yN.1 (jY (h1 y hy)) ⟨q.1.symm,q.2.symm⟩
   ·rw[if_neg e];have hn:nsB b x=true:=by
     cases q:nsB b x with
     | true=>rfl
     | false=>exact absurd (hb x (QM ..) q) e
    have ha:=xT (QR.2 h) hn;rw[Ra.2];intro y hy;rcases QJ.1 hy with rfl | hy
    ·exact hn
    ·exact yN.2 fun q=>yN.1 (jY (qM ha (h1 y hy))) ⟨q.1.symm,q.2.symm⟩
theorem zbd (a:Qa): ∀ {L:Qi},qf L->a∉L->zm (fun x=>zd (tl x) (tl a)) a L=zL a true L:=by
 intro L hs ha;rw[xb]
 induction L with
 | nil=>rfl
 | cons x r ih=>
  obtain⟨h1,h2⟩:=QL.1 hs;have hxa:x≠a:=fun e=>ha (by rw[e];exact QM ..);rw[uh,jZ];by_cases h:zd (tl x) (tl a)=true
  ·rw[if_pos h,if_neg (by rw[vN h];exact QN),if_neg hxa,ih h2 fun q=>ha (Q4 _ q)]
  ·rw[if_neg h,if_neg hxa,if_pos (jX (QR.2 h) hxa),ka ha]
def goB (b x:Bal):Bool:=decide (x.2.1=b.2.1)||decide (x.1=b.2.1)
def yr (many:List Bal)(n:Nat)(x:Bal):Bool:=decide (n<2*whoC x.2.1 many)
def ym (L:Qi)(V:List Bal)(b:Bal):Qi×List Bal:=
 if b.2.2=true then (zm (fun x=>zd (tl x) (tl b.2.1)) b.2.1 L,V.filter fun x=> !goB b x)
 else (L.filter (fun x=> !decide (x=b.2.1)),(V.filter fun x=> !goB b x).filter fun x=> !yr (V.filter fun x=> !goB b x) (L.filter (fun x=> !decide (x=b.2.1))).length x)
def qx (L:Qi)(b:Bal):Bool:=zD L b&&(if b.2.2=true then decide (L.length<16) else decide (1<L.length))
def yV (L:Qi)(V:List Bal)(b:Bal):Qi×List Bal×Nat:=
 if zE L V=false then ([],[],1)
 else if qx L b=false then ([],[],44)
 else if L.length<2*zh b (zm (fun x=>aheadB x b) b V) then ((ym L (zm (fun x=>aheadB x b) b V) b).1,(ym L (zm (fun x=>aheadB x b) b V) b).2,0)
 else (L,zm (fun x=>aheadB x b) b V,0)
theorem xd (L:Qi)(V:List Bal)(b:Bal):yV L V b=zF L V b:=by
 unfold yV zF;by_cases hr:zE L V=false
 ·rw[if_pos hr,if_pos hr]
 rw[if_neg hr,if_neg hr];have hr:zE L V=true:=by cases q:zE L V<;>simp_all
 obtain⟨r1,r2,r3⟩:=yO.1 hr;obtain⟨s1,s2,s3,s4⟩:=qg.1 r3;by_cases hc:qx L b=false
 ·rw[if_pos hc,if_pos];unfold qx at hc;cases ef:zD L b with
  | false=>exact .inl rfl
  | true=>
   rw[ef,QU]at hc;cases eb:b.2.2 with
   | true=>rw[eb,if_pos rfl,decide_eq_false_iff_not]at hc;exact .inr (.inl ⟨rfl,by omega⟩)
   | false=>rw[eb,if_neg (by decide),decide_eq_false_iff_not]at hc;exact .inr (.inr ⟨rfl,by omega⟩)
 have hc':zD L b=true/\(if b.2.2=true then decide (L.length<16) else decide (1<L.length))=true:=by
  unfold qx at hc
  rwa [Bool.not_eq_false,Qk]at hc
 obtain⟨hf,hl⟩:=hc';obtain⟨f1,f2,f3⟩:=yP.1 hf;have hno: ¬(zD L b=false\/(b.2.2=true/\16<=L.length)\/(b.2.2=false/\L.length=1)):=fun h=>by
  rcases h with h|⟨h,h9⟩|⟨h,h9⟩
  ·rw[hf]at h;cases h
  ·rw[h,if_pos rfl,decide_eq_true_iff]at hl;omega
  ·rw[h,if_neg (by decide),decide_eq_true_iff]at hl;omega
 rw[if_neg hc,if_neg hno];have hput:zm (fun x=>aheadB x b) b V=zx b V:=zbc b r2 fun x hx hn=>by
  have hn: ¬nsB b x=true:=by rw[hn];exact QN
  have hq:x.2.1=b.2.1/\x.1=b.1:=by
   by_cases q:x.2.1=b.2.1/\x.1=b.1
   ·exact q
   ·exact absurd (yN.2 q) hn
  obtain⟨g1,g2,g3⟩:=yP.1 (r1 x hx).1;rw[hq.1,f3]at g3;exact Uy hq.2 (Uy hq.1 (by cases e1:x.2.2<;>cases e2:b.2.2<;>simp_all))
 rw[hput];by_cases h2:2*zh b (zx b V)<=L.length
 ·rw[if_neg (by omega),if_pos h2]
 rw[if_pos (by omega),if_neg h2];have hall: ∀x∈zx b V,zD L x=true:=fun x hx=>by
  rcases kf.1 hx with rfl|⟨hx,_⟩
  ·exact hf
  ·exact(r1 x hx).1
 have hgo:((zx b V).filter fun x=> !goB b x)=(zx b V).filter (yf b):=List.filter_congr fun x hx=>by
  unfold goB yf;have hx1:=(yP.1 (hall x hx)).1;by_cases e1:x.2.1=b.2.1
  ·simp[e1]
  cases eb:b.2.2 with
  | false=>by_cases e2:x.1=b.2.1<;>simp[e1,e2]
  | true=>
   rw[eb]at f3;have:x.1≠b.2.1:=fun q=>qW f3 (q▸hx1);simp[e1,this]
 unfold ym;rw[hgo];cases eb:b.2.2 with
 | true=>
  rw[eb]at f3;rw[if_pos rfl,zbd b.2.1 s2 (qW f3)];refine Uy rfl (Uy ?_ rfl);show (zx b V).filter (yf b)=((zx b V).filter (yf b)).filter _;exact(Ra.2 fun x _=>rfl).symm
 | false=>
  rw[if_neg (by decide)];have hcut:L.filter (fun x=> !decide (x=b.2.1))=zL b.2.1 false L:=by rw[xc];rfl
  rw[hcut];refine Uy rfl (Uy ?_ rfl);refine List.filter_congr fun x hx=>?_;have hx1:=Rf.1 hx;have hw:=kh (L:=L) (V:=(zx b V).filter (yf b)) (hall x hx1.1) (fun y hy=>hall y (Rf.1 hy).1);unfold yr;rw[<-hw,RV];by_cases q:2*zh x ((zx b V).filter (yf b))<=(zL b.2.1 false L).length
  ·rw[decide_eq_true q,decide_eq_false (by omega)];rfl
  ·rw[decide_eq_false q,decide_eq_true (by omega)];rfl
section
open D2 (Gh)
theorem zT {w w':World}{b:Nat}{o:Obj}(h:w.heap[b]? =some o)(hb:Below w.heap.size w w'):w'.heap[b]? =some o:=by rw[hb.block b (zk h)];exact h
theorem ui (x y:Qa):(!(Rm x.toList y.toList))= !(zd (tl x) (tl y)):=by rw[qJ]
def yR (a:Qa):Nat->Qi->Int
 | _,[]=> -1
 | k,x::r=>if x=a then (k:Int) else yR a (k+1) r
theorem uj (a:Qa): ∀(L:Qi) (k:Nat),decide (yR a k L≥0)=zA a L
 | [],k=>rfl
 | x::r,k=>by
  unfold yR zA;by_cases h:x=a
  ·rw[if_pos h,decide_eq_true h];exact decide_eq_true (by omega)
  ·rw[if_neg h,decide_eq_false h,RV];exact uj a r (k+1)
theorem zbe (p:Qc)(n c:Nat)(L:Qi)(a:Qa)(hL:L.length<=1000000):FnP Try.prog 46 #[.slice p n c,.string a] (fun w=>AtF sS w p n L) (.int .i64 (yR a 0 L)):=by
 refine FnP.intro (c:=zr Try.f46) [.tmp 4] 19 Try.func46 kr kr kr fun w hP=>?_;have hn:=hP.1;have H0:=St.start w;refine rS [.v] H0 kr fun gs1 w1 H1=>ze kr<|rS [.v,.v,.v] H1 kr fun gs2 w2 H2=>ye 8 7 9 18 0 1 n (by omega) (fun i ρ ww=>yR a 0 L=yR a i (L.drop i)/\St w.heap.size w ww []/\Is [(0,.slice p n c),(1,.string a),(7,iN n),(8,iN i)] ρ) (by rintro i _ ww ⟨_,_,_,rfl⟩;exact⟨kr,kr⟩) ⟨rfl,H2.as kr,isK⟩ ?_ ?_
 ·clear H0 H1 H2;rintro i _ w3 hi ⟨hst,H3,_,rfl⟩;obtain⟨x,hx⟩:∃x,L[i]? =some x:=⟨_,Qj (by omega)⟩
  obtain⟨bl,off,C,T,fz,hp,hh,hR⟩:=hP.row2 (by omega);have hcx:C[off+i*1]? =some (.string x):=hR.cell hx 0 (by decide);rw[qc hx]at hst;change yR a 0 L=(if x=a then (i:Int) else yR a (i+1) (L.drop (i+1)))at hst;refine rS [.v,.v] H3 kr fun gs4 w4 H4=>?_;by_cases e:a=x
  ·refine rS [.v,.v,.v,.o (ins:=[((.tmp 12),.slice p n c),((.tmp 13),iN i)]) (v:=.pointer (some ⟨bl,off+i*1,none⟩)) (fun ρ o w ho hi2=>zt (kd:=.i64) (t:=22) (e:=9) (K:=1) (bytes:=16) kr (x:=(.tmp 12)) (y:=(.tmp 13)) bl off n c i hp ho hi2.1 hi2.2.1 (by omega) w),.fs (off:=off+i*1) (v:=.string x) hh (zk hh) hcx,.E (.bool (a.toList==x.toList)) (.bool true) (za (yi _ _ e))] H4 kr fun gs5 w5 H5=>zu<|rS [.v,.v] H5 kr fun gs6 w6 H6=>?_;exact rRe [.tmp 4] [] (v:=iN i) (v':=.int .i64 (yR a 0 L)) H6 (zf (by rw[hst,if_pos e.symm])) kr
  ·refine rS [.v,.v,.v,.o (ins:=[((.tmp 12),.slice p n c),((.tmp 13),iN i)]) (v:=.pointer (some ⟨bl,off+i*1,none⟩)) (fun ρ o w ho hi2=>zt (kd:=.i64) (t:=22) (e:=9) (K:=1) (bytes:=16) kr (x:=(.tmp 12)) (y:=(.tmp 13)) bl off n c i hp ho hi2.1 hi2.2.1 (by omega) w),.fs (off:=off+i*1) (v:=.string x) hh (zk hh) hcx,.E (.bool (a.toList==x.toList)) (.bool false) (za (yj _ _ e))] H4 kr fun gs5 w5 H5=>zq ?_;exact⟨kr,by rw[hst,if_neg (fun q=>e q.symm)],H5.as kr,isK⟩
 ·rintro _ w3 ⟨hst,H3,_,rfl⟩;rw[Qz (by omega)]at hst;refine wW<|rS [.v] H3 kr fun gs4 w4 H4=>?_;exact rRe [.tmp 4] [] (v:=.int .i64 (-1)) (v':=.int .i64 (yR a 0 L)) H4 (zf hst.symm) kr
theorem zbf (p:Qc)(n c:Nat)(L:Qi)(a:Qa)(hL:L.length<=1000000):FnP Try.prog 32 #[.slice p n c,.string a] (fun w=>AtF sS w p n L) (.bool (zA a L)):=by
 refine FnP.intro (c:=zr Try.f32) [.tmp 4] 9 Try.func32 kr kr kr fun w hP=>?_;have hi:=zbe p n c L a hL;refine rS [.v] (St.start w) kr fun gs1 w1 H1=>rS [.v,.v,.cp (pre:=fun w=>AtF sS w p n L) hi [] (fun w hb hd=>hP.call hb),.E (.bool (decide (yR a 0 L≥0))) (.bool (zA a L)) (za (uj a L 0)),.v] H1 kr fun gs2 w2 H2=>?_;exact rR [.tmp 4] [] (.bool (zA a L)) H2 kr
theorem kj (q:Qc)(m cq:Nat)(L:Qi)(p:Qc)(n c:Nat)(a:Qa)(hL:L.length<=1000000):FnP Try.prog 13 #[snV q m cq p n c,.string a] (fun w=>AtF sS w q m L) (.bool (zA a L)):=by
 refine FnP.intro (c:=zr Try.f13) [.tmp 4] 9 Try.func13 kr kr kr fun w hP=>?_;have hi:=zbf q m cq L a hL;refine rS [.b,.v] (St.start w) kr fun gs1 w1 H1=>rS [.v,.l 0,.v,.cp (pre:=fun w=>AtF sS w q m L) hi [] (fun w hb hd=>hP.call hb),.v] H1 kr fun gs2 w2 H2=>?_;exact rR [.tmp 4] [] (.bool (zA a L)) H2 kr
theorem zbg (q:Qc)(m cq:Nat)(p:Qc)(n c:Nat)(V:List Bal)(b:Bal)(hV:V.length<=1000000):FnP Try.prog 15 #[snV q m cq p n c,blV b] (fun w=>AtF blS w p n V) (iN (zh b V)):=by
 refine FnP.intro (c:=zr Try.f15) [.tmp 4] 31 Try.func15 kr kr kr fun w hP=>?_;have hn:=hP.1;have H0:=St.start w;refine rS [.b,.b,.v] H0 kr fun gs1 w1 H1=>rS [.v] H1 kr fun gs2 w2 H2=>ze kr<|rS [.v,.l 0,.v,.v] H2 kr fun gs3 w3 H3=>ye 11 10 12 29 0 1 n (by omega) (fun i ρ ww=>St w.heap.size w ww [((gs1 0).b,snO q m cq p n c),((gs1 1).b,blO b)]/\Is [(3,Qe (gs1 1).b),(5,iN (zh b (V.take i))),(9,.slice p n c),(10,iN n),(11,iN i)] ρ) (by rintro i _ ww ⟨_,_,rfl⟩;exact⟨kr,kr⟩) ⟨H3.as kr,isK⟩ ?_ ?_
 ·clear H0 H1 H2 H3;rintro i _ w4 hi ⟨H4,_,rfl⟩;obtain⟨x,hx⟩:∃x,V[i]? =some x:=⟨_,Qj (by omega)⟩
  obtain⟨bl,off,C,T,fz,hp,hh,hR⟩:=hP.row2 (by omega);have hle:=jW b (V.take i);rw[Qv]at hle;have hsn:zh b (V.take (i+1))=zh b (V.take i)+if zC b x=true then 1 else 0:=by rw[yk hx,vD]
  refine rS [.o (ins:=[((.tmp 9),.slice p n c),((.tmp 11),iN i)]) (v:=.pointer (some ⟨bl,off+i*3,none⟩)) (fun ρ o w ho hi2=>zt (kd:=.i64) (t:=23) (e:=27) (K:=3) (bytes:=40) kr (x:=(.tmp 9)) (y:=(.tmp 11)) bl off n c i hp ho hi2.1 hi2.2.1 (by omega) w),.fp (off:=off+i*3) (n:=3) (W:=blC x) hh (zk hh) (hR _ _ hx).1 (hR _ _ hx).2,.a,.s 2] H4 kr fun gs4 w5 H5=>?_;have drop1: ∀ {ww:World},St w.heap.size w ww [((gs1 0).b,snO q m cq p n c),((gs1 1).b,blO b),((gs4 2).b,blO x)]->St w.heap.size w ww [((gs1 0).b,snO q m cq p n c),((gs1 1).b,blO b)]:=fun H=>H.sub (Ro [_,_] [_]);by_cases e:x.2.1=b.2.1
  ·refine rS [.v,.l 2,.v,.l 1,.E (.bool (x.2.1.toList==b.2.1.toList)) (.bool true) (za (yi _ _ e)),.v,.v,.l 2,.v,.l 1,.E (.bool (x.2.2==b.2.2)) (.bool (zC b x)) (za (by unfold zC;rw[decide_eq_true e];rfl)),.v] H5 kr fun gs5 w6 H6=>?_;by_cases hf:zC b x=true
   ·refine qb 26 (v:=.bool (zC b x)) (v':=.bool true) (by rw[hf]) kr<|zu ?_;rw[if_pos hf]at hsn;refine rL [.v,.E (.int .i64 (Qm.wrap (((zh b (V.take i):Nat):Int)+1))) (iN (zh b (V.take (i+1)))) (zf (by rw[hsn];exact zw (a:=zh b (V.take i)) (b:=1) (by omega))),.v] H6 kr fun gs6 w7 H7=>?_;exact⟨kr,drop1 (H7.as kr),isK⟩
   ·refine qb 26 (v:=.bool (zC b x)) (v':=.bool false) (by rw[QR.2 hf]) kr<|zq ?_;rw[if_neg hf,RD]at hsn;exact⟨kr,drop1 (H6.as kr),(congrArg (fun k=>Is [(3,Qe (gs1 1).b),(5,iN k),(9,.slice p n c),(10,iN n),(11,iN (i+1))] _) hsn).mpr isK⟩
  ·refine rS [.v,.l 2,.v,.l 1,.E (.bool (x.2.1.toList==b.2.1.toList)) (.bool false) (za (yj _ _ e)),.v,.n,.n,.n,.n,.n,.v] H5 kr fun gs5 w6 H6=>zq ?_;rw[if_neg (by unfold zC;rw[decide_eq_false e];exact QN),RD]at hsn;exact⟨kr,drop1 (H6.as kr),(congrArg (fun k=>Is [(3,Qe (gs1 1).b),(5,iN k),(9,.slice p n c),(10,iN n),(11,iN (i+1))] _) hsn).mpr isK⟩
 ·rintro _ w4 ⟨H4,_,rfl⟩;rw[QA (by omega)];refine wW<|rS [.v,.v] H4 kr fun gs4 w5 H5=>?_;exact rR [.tmp 4] [] (iN (zh b V)) H5 kr
theorem uk (q:Qc)(m cq:Nat)(L:Qi)(p:Qc)(n c:Nat)(b:Bal)(hL:L.length<=1000000):FnP Try.prog 33 #[snV q m cq p n c,blV b] (fun w=>AtF sS w q m L) (.bool (zD L b)):=by
 refine FnP.intro (c:=zr Try.f33) [.tmp 4] 24 Try.func33 kr kr kr fun w hP=>?_;have h1:=kj q m cq L p n c b.1 hL;have h2:=kj q m cq L p n c b.2.1 hL;refine rS [.b,.b,.v] (St.start w) kr fun gs1 w1 H1=>?_;unfold zD;cases e1:zA b.1 L with
 | false=>
  rw[e1]at h1;refine dS [.l 0,.v,.l 1,.cp (pre:=fun w=>AtF sS w q m L) h1 [] (fun w hb hd=>hP.call hb),.v,.n,.n,.n,.n,.v,.v,.n,.n,.n,.n,.n,.n,.n,.v,.v] H1 kr fun w2 H2=>?_;exact rR [.tmp 4] [] (.bool false) H2 kr
 | true=>
  rw[e1]at h1;by_cases e2:b.2.1.size=20
  ·rw[decide_eq_true e2];refine dS [.l 0,.v,.l 1,.cp (pre:=fun w=>AtF sS w q m L) h1 [] (fun w hb hd=>hP.call hb),.v,.v,.l 1,.v,.E (.bool (((b.2.1.size:Nat):Int)==20)) (.bool true) (za (beq_iff_eq.2 (by omega))),.v,.v,.l 0,.v,.l 1,.cp (pre:=fun w=>AtF sS w q m L) h2 [] (fun w hb hd=>hP.call hb),.v,.l 1,.E (.bool (zA b.2.1 L !=b.2.2)) (.bool (zA b.2.1 L !=b.2.2)) rfl,.v,.v] H1 kr fun w2 H2=>?_;exact rR [.tmp 4] [] (.bool (zA b.2.1 L !=b.2.2)) H2 kr
  ·rw[decide_eq_false e2];refine dS [.l 0,.v,.l 1,.cp (pre:=fun w=>AtF sS w q m L) h1 [] (fun w hb hd=>hP.call hb),.v,.v,.l 1,.v,.E (.bool (((b.2.1.size:Nat):Int)==20)) (.bool false) (za (beq_eq_false_iff_ne.2 (by omega))),.v,.v,.n,.n,.n,.n,.n,.n,.n,.v,.v] H1 kr fun w2 H2=>?_;exact rR [.tmp 4] [] (.bool false) H2 kr
theorem zbh (q:Qc)(m cq:Nat)(L:Qi)(p:Qc)(n c:Nat)(b:Bal)(hL:L.length<=1000000):FnP Try.prog 19 #[snV q m cq p n c,blV b] (fun w=>AtF sS w q m L) (.bool (qx L b)):=by
 refine FnP.intro (c:=zr Try.f19) [.tmp 4] 19 Try.func19 kr kr kr fun w hP=>?_;have hm:=hP.1;have h1:=uk q m cq L p n c b hL;refine rS [.b,.b,.v] (St.start w) kr fun gs1 w1 H1=>ze kr ?_;unfold qx;cases ef:zD L b with
 | false=>
  rw[ef]at h1;refine rS [.l 0,.l 1,.cp (pre:=fun w=>AtF sS w q m L) h1 [] (fun w hb hd=>hP.call hb),.v] H1 kr fun gs2 w2 H2=>zu<|rS [.v] H2 kr fun gs3 w3 H3=>?_;exact rR [.tmp 4] [] (.bool false) H3 kr
 | true=>
  rw[ef]at h1;refine rS [.l 0,.l 1,.cp (pre:=fun w=>AtF sS w q m L) h1 [] (fun w hb hd=>hP.call hb),.v] H1 kr fun gs2 w2 H2=>zq<|wW<|ze kr ?_;obtain⟨b1,b2,b3⟩:=b;cases b3 with
  | true=>
   refine rS [.v,.l 1] H2 kr fun gs3 w3 H3=>zu<|rS [.v,.l 0,.v,.E (.bool (decide ((m:Int)<16))) (.bool (decide (L.length<16))) (za (by rw[Ue,decide_eq_true_iff,decide_eq_true_iff];omega)),.v] H3 kr fun gs4 w4 H4=>?_;exact rR [.tmp 4] [] (.bool (decide (L.length<16))) H4 kr
  | false=>
   refine rS [.v,.l 1] H2 kr fun gs3 w3 H3=>zq<|wW<|rS [.v,.l 0,.v,.E (.bool (decide ((m:Int)>1))) (.bool (decide (1<L.length))) (za (by rw[Ue,decide_eq_true_iff,decide_eq_true_iff];omega)),.v] H3 kr fun gs4 w4 H4=>?_;exact rR [.tmp 4] [] (.bool (decide (1<L.length))) H4 kr
theorem zbi (p:Qc)(n c:Nat)(L:Qi)(hL:L.length<=1000000):FnP Try.prog 28 #[.slice p n c] (fun w=>AtF sS w p n L) (.bool (zJ L)):=by
 refine FnP.intro (c:=zr Try.f28) [.tmp 2] 37 Try.func28 kr kr kr fun w hP=>?_;have hn:=hP.1;have H0:=St.start w;refine rS [.v] H0 kr fun gs1 w1 H1=>ze kr ?_;by_cases h0:n=0
 ·refine rS [.v,.v,.E (.bool ((n:Int)==0)) (.bool true) (za (beq_iff_eq.2 (by omega))),.v,.n,.n,.n,.v] H1 kr fun gs2 w2 H2=>zu<|rS [.v] H2 kr fun gs3 w3 H3=>?_;exact rRe [.tmp 2] [] (v:=.bool false) (v':=.bool (zJ L)) H3 (za (by unfold zJ;rw[decide_eq_false (show ¬0<L.length by omega),Bool.false_and,UH])) kr
 by_cases h16:16<n
 ·refine rS [.v,.v,.E (.bool ((n:Int)==0)) (.bool false) (za (beq_eq_false_iff_ne.2 (by omega))),.v,.v,.v,.E (.bool (decide ((n:Int)>16))) (.bool true) (za (decide_eq_true (by omega))),.v] H1 kr fun gs2 w2 H2=>zu<|rS [.v] H2 kr fun gs3 w3 H3=>?_;exact rRe [.tmp 2] [] (v:=.bool false) (v':=.bool (zJ L)) H3 (za (by unfold zJ;rw[decide_eq_false (show ¬L.length<=16 by omega),UH,UH])) kr
 refine rS [.v,.v,.E (.bool ((n:Int)==0)) (.bool false) (za (beq_eq_false_iff_ne.2 (by omega))),.v,.v,.v,.E (.bool (decide ((n:Int)>16))) (.bool false) (za (decide_eq_false (by omega))),.v] H1 kr fun gs2 w2 H2=>zq<|wW ?_;have hsm:zJ L=yl none L:=by unfold zJ;rw[decide_eq_true (show 0<L.length by omega),decide_eq_true (show L.length<=16 by omega)];simp
 rw[hsm];refine ze kr<|rS [.v,.v,.v] H2 kr fun gs3 w3 H3=>ye 15 14 16 36 0 1 n (by omega) (fun i ρ ww=>yl none L=yl (yq L i) (L.drop i)/\St w.heap.size w ww []/\Is [(0,.slice p n c),(13,.slice p n c),(14,iN n),(15,iN i)] ρ) (by rintro i _ ww ⟨_,_,_,rfl⟩;exact⟨kr,kr⟩) ⟨rfl,H3.as kr,isK⟩ ?_ ?_
 ·clear H0 H1 H2 H3;rintro i _ w4 hi ⟨hst,H5,_,rfl⟩;obtain⟨x,hx⟩:∃x,L[i]? =some x:=⟨_,Qj (by omega)⟩
  obtain⟨bl,off,C,T,fz,hp,hh,hR⟩:=hP.row2 (by omega);have hcx:C[off+i*1]? =some (.string x):=hR.cell hx 0 (by decide);rw[qc hx]at hst;change yl none L=(decide (x.size=20)&&(upB (yq L i) x&&yl (some x) (L.drop (i+1))))at hst;refine rS [.v,.o (ins:=[((.tmp 13),.slice p n c),((.tmp 15),iN i)]) (v:=.pointer (some ⟨bl,off+i*1,none⟩)) (fun ρ o w ho hi2=>zt (kd:=.i64) (t:=22) (e:=9) (K:=1) (bytes:=16) kr (x:=(.tmp 13)) (y:=(.tmp 15)) bl off n c i hp ho hi2.1 hi2.2.1 (by omega) w),.fs (off:=off+i*1) (v:=.string x) hh (zk hh) hcx,.v,.v] H5 kr fun gs5 w6 H7=>?_;by_cases h1:x.size=20
  case neg=>
   refine rS [.v,.v,.E (.bool (!((x.size:Int)==20))) (.bool true) (za (by rw[beq_eq_false_iff_ne.2 (by omega)];rfl)),.v,.n,.n,.n,.n,.n,.n,.n,.n,.n,.n,.n,.v] H7 kr fun gs6 w7 H8=>zu<|rS [.v] H8 kr fun gs7 w8 H9=>?_;exact rRe [.tmp 2] [] (v:=.bool false) (v':=.bool (yl none L)) H9 (za (by rw[hst,decide_eq_false h1];rfl)) kr
  rw[decide_eq_true h1,QU]at hst;by_cases hi0:i=0
  ·have hu:upB (yq L i) x=true:=by
    have:yq L i=none:=by unfold yq;rw[if_pos hi0]
    rw[this];rfl
   refine rS [.v,.v,.E (.bool (!((x.size:Int)==20))) (.bool false) (za (by rw[beq_iff_eq.2 (show (x.size:Int)=20 by omega)];rfl)),.v,.v,.E (.bool (decide ((i:Int)>0))) (.bool false) (za (decide_eq_false (by omega))),.v,.n,.n,.n,.n,.n,.n,.n,.v,.v] H7 kr fun gs6 w7 H8=>zq ?_;exact⟨kr,by rw[jV hx,hst,hu];rfl,H8.as kr,isK⟩
  ·obtain⟨y,hy⟩:∃y,L[i-1]? =some y:=⟨_,Qj (by omega)⟩
   have hcy:C[off+(i-1)*1]? =some (.string y):=hR.cell hy 0 (by decide);have hpv:upB (yq L i) x=zd (tl y) (tl x):=by
    have:yq L i=some y:=by unfold yq;rw[if_neg hi0,hy]
    rw[this];rfl
   rw[hpv]at hst;cases hup:zd (tl y) (tl x) with
   | false=>
    refine rS [.v,.v,.E (.bool (!((x.size:Int)==20))) (.bool false) (za (by rw[beq_iff_eq.2 (show (x.size:Int)=20 by omega)];rfl)),.v,.v,.E (.bool (decide ((i:Int)>0))) (.bool true) (za (decide_eq_true (by omega))),.v,.v,.v,.E (.int .i64 (Qm.wrap ((i:Int)-1))) (iN (i-1)) (zf (yv (a:=i) (b:=1) (by omega))),.o (ins:=[((.tmp 27),.slice p n c),((.tmp 29),iN (i-1))]) (v:=.pointer (some ⟨bl,off+(i-1)*1,none⟩)) (fun ρ o w ho hi2=>zt (kd:=.i64) (t:=22) (e:=9) (K:=1) (bytes:=16) kr (x:=(.tmp 27)) (y:=(.tmp 29)) bl off n c (i-1) hp ho hi2.1 hi2.2.1 (by omega) w),.fs (off:=off+(i-1)*1) (v:=.string y) hh (zk hh) hcy,.v,.E (.bool (!(Rm y.toList x.toList))) (.bool true) (za (by rw[ui,hup];rfl)),.v,.v] H7 kr fun gs6 w7 H8=>zu<|rS [.v] H8 kr fun gs7 w8 H9=>?_;exact rRe [.tmp 2] [] (v:=.bool false) (v':=.bool (yl none L)) H9 (za (by rw[hst,hup];rfl)) kr
   | true=>
    refine rS [.v,.v,.E (.bool (!((x.size:Int)==20))) (.bool false) (za (by rw[beq_iff_eq.2 (show (x.size:Int)=20 by omega)];rfl)),.v,.v,.E (.bool (decide ((i:Int)>0))) (.bool true) (za (decide_eq_true (by omega))),.v,.v,.v,.E (.int .i64 (Qm.wrap ((i:Int)-1))) (iN (i-1)) (zf (yv (a:=i) (b:=1) (by omega))),.o (ins:=[((.tmp 27),.slice p n c),((.tmp 29),iN (i-1))]) (v:=.pointer (some ⟨bl,off+(i-1)*1,none⟩)) (fun ρ o w ho hi2=>zt (kd:=.i64) (t:=22) (e:=9) (K:=1) (bytes:=16) kr (x:=(.tmp 27)) (y:=(.tmp 29)) bl off n c (i-1) hp ho hi2.1 hi2.2.1 (by omega) w),.fs (off:=off+(i-1)*1) (v:=.string y) hh (zk hh) hcy,.v,.E (.bool (!(Rm y.toList x.toList))) (.bool false) (za (by rw[ui,hup];rfl)),.v,.v] H7 kr fun gs6 w7 H8=>zq ?_;exact⟨kr,by rw[jV hx,hst,hup];rfl,H8.as kr,isK⟩
 ·rintro _ w4 ⟨hst,H5,_,rfl⟩;rw[Qz (by omega)]at hst;refine wW<|rS [.v] H5 kr fun gs6 w7 H8=>?_;exact rRe [.tmp 2] [] (v:=.bool true) (v':=.bool (yl none L)) H8 (za hst.symm) kr
theorem ul (x b:Bal)(k:Nat):FnP Try.prog 38 #[blV x,Qe k] (fun w=>w.heap[k]? =some (blO b)) (.bool (aheadB x b)):=by
 refine FnP.intro (c:=zr Try.f38) [.tmp 3] 19 Try.func38 kr kr kr fun w hP=>rS [.b,.v] (St.start w) kr fun gs1 w1 H1=>ze kr ?_;by_cases e:x.2.1=b.2.1
 ·refine rS [.v,.l 0,.v,.fs (off:=1) (v:=.string b.2.1) hP (zk hP) kr,.E (.bool (!(x.2.1.toList==b.2.1.toList))) (.bool false) (za (by rw[yi _ _ e];rfl))] H1 kr fun gs2 w2 H2=>zq<|wW<|rS [.v,.l 0,.v,.fs (off:=0) (v:=.string b.1) hP (zk hP) kr,.E (.bool (Rm x.1.toList b.1.toList)) (.bool (aheadB x b)) (za (by unfold aheadB;rw[if_pos e,qJ])),.v] H2 kr fun gs3 w3 H3=>?_;exact rR [.tmp 3] [] (.bool (aheadB x b)) H3 kr
 ·refine rS [.v,.l 0,.v,.fs (off:=1) (v:=.string b.2.1) hP (zk hP) kr,.E (.bool (!(x.2.1.toList==b.2.1.toList))) (.bool true) (za (by rw[yj _ _ e];rfl))] H1 kr fun gs2 w2 H2=>zu<|rS [.v,.l 0,.v,.fs (off:=1) (v:=.string b.2.1) hP (zk hP) kr,.E (.bool (Rm x.2.1.toList b.2.1.toList)) (.bool (aheadB x b)) (za (by unfold aheadB;rw[if_neg e,qJ])),.v] H2 kr fun gs3 w3 H3=>?_;exact rR [.tmp 3] [] (.bool (aheadB x b)) H3 kr
abbrev ahV (k:Nat):Value:=.func (.func 38) #[] #[Qe k]
theorem um (b:Bal):FnT Try.prog 23 #[blV b] (fun _=>True) (fun v l=> ∃k,v=ahV k/\l=[(k,blO b)]):=by
 refine FnT.intro (c:=zr Try.f23) [.tmp 2] 4 Try.func23 kr kr kr fun w _=>rS [.b,.v] (St.start w) kr fun gs1 w1 H1=>rS [.v,.v] H1 kr fun gs2 w2 H2=>rRr [.tmp 2] [] (ahV (gs1 0).b) (qF w.heap.size w (fun v l=> ∃k,v=ahV k/\l=[(k,blO b)])) H2 kr ?_;exact⟨_,⟨(gs1 0).b,rfl,rfl⟩,H2.as kr⟩
abbrev xf (x:Operand):Op:=.call { callee:=.value (.func 23),args:=#[x],argTypes:=#[27] }
theorem un {ρ:Env}{o:Oper}{w:World}{x:Operand}{b:Bal}(ho:o.op=xf x)(hx:ev ρ x=blV b):D2.Runs Try.prog (fun v w'=> ∃g:Gh,v=ahV g.b/\Below w.heap.size w w'/\w.heap.size<=g.b/\w'.heap[g.b]? =some (blO b)) ((execOp (ev ρ) o).run Try.prog w):=by
 have e:(execOp (ev ρ) o).run Try.prog w=.ok (.enter 23 #[blV b]) w:=by
  have ha:(#[x]:Array Operand).map (ev ρ)=#[blV b]:=by simp[hx]
  unfold execOp;rw[ho];simp only[xf,resolve,ha];rfl
 rw[e];refine Calls.mono (um b w trivial) ?_;rintro e w' ⟨v,T,rfl,⟨k,rfl,rfl⟩,hT⟩;exact⟨_,rfl,{ b:=k },rfl,St.below hT,(St.ge hT 0 rfl),St.get hT 0 rfl⟩
theorem zbj (q:Qc)(mm cq:Nat)(L:Qi)(p:Qc)(n c:Nat)(V:List Bal)(hL:L.length<=1000000)(hV:V.length<=1000000):FnP Try.prog 29 #[snV q mm cq p n c] (fun w=>zM w L V q mm p n) (.bool (yI L V)):=by
 refine FnP.intro (c:=zr Try.f29) [.tmp 2] 55 Try.func29 kr kr kr fun w hP=>?_;obtain⟨hS,hVV⟩:=hP;have hmm:=hS.1;have hn:=hVV.1;have H0:=St.start w;refine rS [.b,.v] H0 kr fun gs1 w1 H1=>rS [.v] H1 kr fun gs2 w2 H2=>ze kr<|rS [.v,.l 0,.v,.v] H2 kr fun gs3 w3 H3=>ye 9 8 10 54 0 1 n (by omega) (fun i ρ ww=> ∃m,yI L V=qX L (zO V i) m (V.drop i)/\m<=i/\St w.heap.size w ww [((gs1 0).b,snO q mm cq p n c)]/\Is [(1,Qe (gs1 0).b),(3,iN m),(7,.slice p n c),(8,iN n),(9,iN i)] ρ) (by rintro i _ ww ⟨_,_,_,_,_,rfl⟩;exact⟨kr,kr⟩) ⟨0,rfl,Qs _,H3.as kr,isK⟩ ?_ ?_
 ·clear H0 H1 H2 H3;rintro i _ w4 hi ⟨k,hst,hki,H4,_,rfl⟩;obtain⟨x,hx⟩:∃x,V[i]? =some x:=⟨_,Qj (by omega)⟩
  obtain⟨bl,off,C,T,fz,hp,hh,hR⟩:=hVV.row2 (by omega);have hfit:=uk q mm cq L p n c x hL;rw[qc hx]at hst;change yI L V=(zD L x&&(yw (zO V i) x&&(decide (2*qv (zO V i) k x<=L.length)&&qX L (some x) (qv (zO V i) k x) (V.drop (i+1)))))at hst;rw[<-vE hx]at hst;refine rS [.v,.o (ins:=[((.tmp 7),.slice p n c),((.tmp 9),iN i)]) (v:=.pointer (some ⟨bl,off+i*3,none⟩)) (fun ρ o w ho hi2=>zt (kd:=.i64) (t:=23) (e:=27) (K:=3) (bytes:=40) kr (x:=(.tmp 7)) (y:=(.tmp 9)) bl off n c i hp ho hi2.1 hi2.2.1 (by omega) w),.fp (off:=off+i*3) (n:=3) (W:=blC x) hh (zk hh) (hR _ _ hx).1 (hR _ _ hx).2,.a,.v,.s 1] H4 kr fun gs4 w5 HA=>ze kr ?_;cases ef:zD L x with
  | false=>
   rw[ef]at hfit;refine rS [.l 0,.l 1,.cp (pre:=fun w=>AtF sS w q mm L) hfit [] (fun w hb hd=>hS.call hb),.v] HA kr fun gs5 w6 H5=>zu<|rS [.v] H5 kr fun gsr wr Hr=>?_;exact rRe [.tmp 2] [] (v:=.bool false) (v':=.bool (yI L V)) Hr (za (by rw[hst,ef];rfl)) kr
  | true=>
   rw[ef]at hfit;refine rS [.l 0,.l 1,.cp (pre:=fun w=>AtF sS w q mm L) hfit [] (fun w hb hd=>hS.call hb),.v] HA kr fun gs5 w6 H5=>zq<|wW<|ze kr ?_;by_cases hi0:i=0
   ·have hp0:zO V i=none:=by unfold zO;rw[if_pos hi0]
    have ea:yw (zO V i) x=true:=by rw[hp0];rfl
    refine dS [.v,.E (.bool (decide ((i:Int)>0))) (.bool false) (za (decide_eq_false (by omega))),.v,.n,.n,.n,.n,.n,.n,.n,.n,.n,.n,.v] H5 kr fun w6 H6=>zq<|wW<|ze kr<|dS [.v,.E (.bool (decide ((i:Int)>0))) (.bool false) (za (decide_eq_false (by omega))),.v,.n,.n,.n,.n,.n,.n,.n,.n,.n,.n,.v] H6 kr fun w7 H7=>zq ?_;have drop1: ∀ {ww:World},St w.heap.size w ww [((gs1 0).b,snO q mm cq p n c),((gs4 3).b,blO x)]->St w.heap.size w ww [((gs1 0).b,snO q mm cq p n c)]:=fun H=>H.sub (Ro [_] [_]);refine wW<|rS [.v,.E (.int .i64 (Qm.wrap ((k:Int)+1))) (iN (k+1)) (zf (zw (a:=k) (b:=1) (by omega))),.v] H7 kr fun gs8 w8 H8=>?_;have hrun:qv (zO V i) k x=k+1:=by rw[hp0];rfl
    rw[hrun]at hst;by_cases h2:2*(k+1)<=L.length
    ·refine rS [.v,.E (.int .i64 (Qm.wrap (2*((k+1:Nat):Int)))) (iN (2*(k+1))) (zf (yu (a:=2) (b:=k+1) (by omega))),.v,.l 0,.v,.E (.bool (decide (((2*(k+1):Nat):Int)>(mm:Int)))) (.bool false) (za (decide_eq_false (by omega)))] H8 kr fun gs9 w9 H9=>zq ?_;exact⟨kr,k+1,hst.trans (by rw[ef,ea,decide_eq_true h2,QU,QU,QU]),by omega,drop1 (H9.as kr),isK⟩
    ·refine rS [.v,.E (.int .i64 (Qm.wrap (2*((k+1:Nat):Int)))) (iN (2*(k+1))) (zf (yu (a:=2) (b:=k+1) (by omega))),.v,.l 0,.v,.E (.bool (decide (((2*(k+1):Nat):Int)>(mm:Int)))) (.bool true) (za (decide_eq_true (by omega)))] H8 kr fun gs9 w9 H9=>zu<|rS [.v] H9 kr fun gsr wr Hr=>?_;exact rRe [.tmp 2] [] (v:=.bool false) (v':=.bool (yI L V)) Hr (za (by rw[hst,ef,ea,decide_eq_false h2];rfl)) kr
   ·obtain⟨y,hy⟩:∃y,V[i-1]? =some y:=⟨_,Qj (by omega)⟩
    have hp0:zO V i=some y:=by unfold zO;rw[if_neg hi0,hy]
    have hcy:C[off+(i-1)*3+1]? =some (.string y.2.1):=hR.cell hy 1 (by decide);have ha:=fun k=>ul y x k;cases ea':aheadB y x with
    | false=>
     have ea:yw (zO V i) x=false:=by rw[hp0];exact ea'
     rw[ea']at ha;refine dSg (fun gs=>[.v,.E (.bool (decide ((i:Int)>0))) (.bool true) (za (decide_eq_true (by omega))),.v,.l 1,.g [((.tmp 21),blV x)] (xf (.tmp 21)) [] (fun g=>ahV g.b) (.new (blO x)) (fun ρ o w ho hi2 hd hb=>un ho hi2.1),.v,.l 0,.v,.E (.int .i64 (Qm.wrap ((i:Int)-1))) (iN (i-1)) (zf (yv (a:=i) (b:=1) (by omega))),.o (ins:=[((.tmp 24),.slice p n c),((.tmp 26),iN (i-1))]) (v:=.pointer (some ⟨bl,off+(i-1)*3,none⟩)) (fun ρ o w ho hi2=>zt (kd:=.i64) (t:=23) (e:=27) (K:=3) (bytes:=40) kr (x:=(.tmp 24)) (y:=(.tmp 26)) bl off n c (i-1) hp ho hi2.1 hi2.2.1 (by omega) w),.fp (off:=off+(i-1)*3) (n:=3) (W:=blC y) hh (zk hh) (hR _ _ hy).1 (hR _ _ hy).2,.cp (pre:=fun w=>w.heap[(gs 4).b]? =some (blO x)) (ha (gs 4).b) [(2,((gs 4).b,blO x))] (fun w hb hd=>hd.1),.v,.v]) H5 kr fun gs w6 H6=>zu<|rS [.v] H6 kr fun gsr wr Hr=>?_;exact rRe [.tmp 2] [] (v:=.bool false) (v':=.bool (yI L V)) Hr (za (by rw[hst,ef,ea];rfl)) kr
    | true=>
     have ea:yw (zO V i) x=true:=by rw[hp0];exact ea'
     rw[ea']at ha;refine dSg (fun gs=>[.v,.E (.bool (decide ((i:Int)>0))) (.bool true) (za (decide_eq_true (by omega))),.v,.l 1,.g [((.tmp 21),blV x)] (xf (.tmp 21)) [] (fun g=>ahV g.b) (.new (blO x)) (fun ρ o w ho hi2 hd hb=>un ho hi2.1),.v,.l 0,.v,.E (.int .i64 (Qm.wrap ((i:Int)-1))) (iN (i-1)) (zf (yv (a:=i) (b:=1) (by omega))),.o (ins:=[((.tmp 24),.slice p n c),((.tmp 26),iN (i-1))]) (v:=.pointer (some ⟨bl,off+(i-1)*3,none⟩)) (fun ρ o w ho hi2=>zt (kd:=.i64) (t:=23) (e:=27) (K:=3) (bytes:=40) kr (x:=(.tmp 24)) (y:=(.tmp 26)) bl off n c (i-1) hp ho hi2.1 hi2.2.1 (by omega) w),.fp (off:=off+(i-1)*3) (n:=3) (W:=blC y) hh (zk hh) (hR _ _ hy).1 (hR _ _ hy).2,.cp (pre:=fun w=>w.heap[(gs 4).b]? =some (blO x)) (ha (gs 4).b) [(2,((gs 4).b,blO x))] (fun w hb hd=>hd.1),.v,.v]) H5 kr fun gs w6 H6=>zq<|wW<|ze kr ?_;have drop1: ∀ {ww:World},St w.heap.size w ww [((gs1 0).b,snO q mm cq p n c),((gs4 3).b,blO x),((gs 4).b,blO x)]->St w.heap.size w ww [((gs1 0).b,snO q mm cq p n c)]:=fun H=>H.sub (Ro [_] [_,_]);by_cases ew:y.2.1=x.2.1
     ·refine dS [.v,.E (.bool (decide ((i:Int)>0))) (.bool true) (za (decide_eq_true (by omega))),.v,.v,.l 0,.v,.E (.int .i64 (Qm.wrap ((i:Int)-1))) (iN (i-1)) (zf (yv (a:=i) (b:=1) (by omega))),.o (ins:=[((.tmp 36),.slice p n c),((.tmp 38),iN (i-1))]) (v:=.pointer (some ⟨bl,off+(i-1)*3,none⟩)) (fun ρ o w ho hi2=>zt (kd:=.i64) (t:=23) (e:=27) (K:=3) (bytes:=40) kr (x:=(.tmp 36)) (y:=(.tmp 38)) bl off n c (i-1) hp ho hi2.1 hi2.2.1 (by omega) w),.v,.fs (off:=off+(i-1)*3+1) (v:=.string y.2.1) hh (zk hh) hcy,.v,.l 1,.E (.bool (!(y.2.1.toList==x.2.1.toList))) (.bool false) (za (by rw[yi _ _ ew];rfl)),.v] H6 kr fun w7 H7=>zq<|wW<|rS [.v,.E (.int .i64 (Qm.wrap ((k:Int)+1))) (iN (k+1)) (zf (zw (a:=k) (b:=1) (by omega))),.v] H7 kr fun gs8 w8 H8=>?_;have hrun:qv (zO V i) k x=k+1:=by rw[hp0];show (if y.2.1=x.2.1 then k else 0)+1=_;rw[if_pos ew]
      rw[hrun]at hst;by_cases h2:2*(k+1)<=L.length
      ·refine rS [.v,.E (.int .i64 (Qm.wrap (2*((k+1:Nat):Int)))) (iN (2*(k+1))) (zf (yu (a:=2) (b:=k+1) (by omega))),.v,.l 0,.v,.E (.bool (decide (((2*(k+1):Nat):Int)>(mm:Int)))) (.bool false) (za (decide_eq_false (by omega)))] H8 kr fun gs9 w9 H9=>zq ?_;exact⟨kr,k+1,hst.trans (by rw[ef,ea,decide_eq_true h2,QU,QU,QU]),by omega,drop1 (H9.as kr),isK⟩
      ·refine rS [.v,.E (.int .i64 (Qm.wrap (2*((k+1:Nat):Int)))) (iN (2*(k+1))) (zf (yu (a:=2) (b:=k+1) (by omega))),.v,.l 0,.v,.E (.bool (decide (((2*(k+1):Nat):Int)>(mm:Int)))) (.bool true) (za (decide_eq_true (by omega)))] H8 kr fun gs9 w9 H9=>zu<|rS [.v] H9 kr fun gsr wr Hr=>?_;exact rRe [.tmp 2] [] (v:=.bool false) (v':=.bool (yI L V)) Hr (za (by rw[hst,ef,ea,decide_eq_false h2];rfl)) kr
     ·refine dS [.v,.E (.bool (decide ((i:Int)>0))) (.bool true) (za (decide_eq_true (by omega))),.v,.v,.l 0,.v,.E (.int .i64 (Qm.wrap ((i:Int)-1))) (iN (i-1)) (zf (yv (a:=i) (b:=1) (by omega))),.o (ins:=[((.tmp 36),.slice p n c),((.tmp 38),iN (i-1))]) (v:=.pointer (some ⟨bl,off+(i-1)*3,none⟩)) (fun ρ o w ho hi2=>zt (kd:=.i64) (t:=23) (e:=27) (K:=3) (bytes:=40) kr (x:=(.tmp 36)) (y:=(.tmp 38)) bl off n c (i-1) hp ho hi2.1 hi2.2.1 (by omega) w),.v,.fs (off:=off+(i-1)*3+1) (v:=.string y.2.1) hh (zk hh) hcy,.v,.l 1,.E (.bool (!(y.2.1.toList==x.2.1.toList))) (.bool true) (za (by rw[yj _ _ ew];rfl)),.v] H6 kr fun w7 H7=>zu<|rL [.v] H7 kr fun gsz wz Hz=>wW<|rS [.v,.E (.int .i64 (Qm.wrap (((0:Nat):Int)+1))) (iN (0+1)) (zf (zw (a:=0) (b:=1) (by omega))),.v] Hz kr fun gs8 w8 H8=>?_;have hrun:qv (zO V i) k x=0+1:=by rw[hp0];show (if y.2.1=x.2.1 then k else 0)+1=_;rw[if_neg ew]
      rw[hrun]at hst;by_cases h2:2*(0+1)<=L.length
      ·refine rS [.v,.E (.int .i64 (Qm.wrap (2*((0+1:Nat):Int)))) (iN (2*(0+1))) (zf (yu (a:=2) (b:=0+1) (by omega))),.v,.l 0,.v,.E (.bool (decide (((2*(0+1):Nat):Int)>(mm:Int)))) (.bool false) (za (decide_eq_false (by omega)))] H8 kr fun gs9 w9 H9=>zq ?_;exact⟨kr,0+1,hst.trans (by rw[ef,ea,decide_eq_true h2,QU,QU,QU]),by omega,drop1 (H9.as kr),isK⟩
      ·refine rS [.v,.E (.int .i64 (Qm.wrap (2*((0+1:Nat):Int)))) (iN (2*(0+1))) (zf (yu (a:=2) (b:=0+1) (by omega))),.v,.l 0,.v,.E (.bool (decide (((2*(0+1):Nat):Int)>(mm:Int)))) (.bool true) (za (decide_eq_true (by omega)))] H8 kr fun gs9 w9 H9=>zu<|rS [.v] H9 kr fun gsr wr Hr=>?_;exact rRe [.tmp 2] [] (v:=.bool false) (v':=.bool (yI L V)) Hr (za (by rw[hst,ef,ea,decide_eq_false h2];rfl)) kr
 ·rintro _ w4 ⟨k,hst,_,H5,_,rfl⟩;rw[Qz (by omega)]at hst;refine wW<|rS [.v] H5 kr fun gs6 w7 H8=>?_;exact rRe [.tmp 2] [] (v:=.bool true) (v':=.bool (yI L V)) H8 (za hst.symm) kr
theorem ko (q:Qc)(mm cq:Nat)(L:Qi)(p:Qc)(n c:Nat)(V:List Bal)(hL:L.length<=1000000)(hV:V.length<=1000000):FnP Try.prog 11 #[snV q mm cq p n c] (fun w=>zM w L V q mm p n) (.bool (zE L V)):=by
 rw[<-zbb];refine FnP.intro (c:=zr Try.f11) [.tmp 2] 10 Try.func11 kr kr kr fun w hP=>?_;obtain⟨hS,hVV⟩:=hP;have h1:=zbi q mm cq L hL;have h2:=zbj q mm cq L p n c V hL hV;refine rS [.b,.v] (St.start w) kr fun gs1 w1 H1=>?_;cases e1:zJ L with
 | false=>
  rw[e1]at h1;refine rS [.v,.l 0,.cp (pre:=fun w=>AtF sS w q mm L) h1 [] (fun w hb hd=>hS.call hb),.v,.n,.n,.v,.v] H1 kr fun gs2 w2 H2=>?_;exact rR [.tmp 2] [] (.bool false) H2 kr
 | true=>
  rw[e1]at h1;refine rS [.v,.l 0,.cp (pre:=fun w=>AtF sS w q mm L) h1 [] (fun w hb hd=>hS.call hb),.v,.l 0,.cp (pre:=fun w=>zM w L V q mm p n) h2 [] (fun w hb hd=>⟨hS.call hb,hVV.call hb⟩),.v,.v] H1 kr fun gs2 w2 H2=>?_;exact rR [.tmp 2] [] (.bool (yI L V)) H2 kr
end
section
open D2 (Gh Runs)
section
variable {P:Program}{B:Nat}{w0:World}
theorem zbk {w:World}(g:Nat)(C:Qd):w.grownBy (w.setRow g C) (some g):=⟨rfl,rfl,rfl,by simp,fun k _ hk=>setRow_other w g k _ (fun e=>hk (by simp[e]))⟩
theorem qy {dT sT e size:Nat}(hu:P.underlying dT=some (.slice e))(hs:(P.info? e).map (·.size)=some size){x y:Operand}{j b off dLen dCap sLen sCap:Nat}{a:Addr}{cur:Qd}{T:TypeId}{cs:List Value}{rd:List (Nat×(Nat×Obj))}
 (hn:cs.length=Uc sLen dLen*size) (hsrc: ∀w,Hd ((j,(b,.cells cur T))::rd) w-> ∀q v,cs[q]? =some v->w.cell? (a.add q)=some v) (hfit:off+cs.length<=cur.size) (h1: ∀v∈cs,v.oneCell'=true):
 ∀(ρ:Env) (o:Oper) (w:World),o.op=.call { callee:=.builtin .copy,args:=#[x,y],argTypes:=#[dT,sT] } ->Ins (ev ρ) [(x,.slice (some ⟨b,off,none⟩) dLen dCap),(y,.slice (some a) sLen sCap)]->Hd ((j,(b,.cells cur T))::rd) w->Below B w0 w->
  Runs P (fun v w'=> ∃g:Gh,v=.int .i64 ((Uc sLen dLen:Nat):Int)/\∃q,(List.lookup j ((j,(b,Qx cur T))::rd))=some q/\w.grownBy w' (some q.1)/\w'.heap[q.1]? =some (.cells (zg cur off cs) T)) ((execOp (ev ρ) o).run P w):=fun ρ o w ho hi hd hb=>by
 have hg:w.heap[b]? =some (.cells cur T):=hd.1;have hrun:=zax (P:=P) (w:=w) dT sT o.type e size hu hs b off dLen dCap a sLen sCap cur T cs hg hn (hsrc w hd) hfit h1;have hex:(execOp (ev ρ) o).run P w=.ok (.value (.int .i64 ((Uc sLen dLen:Nat):Int))) (w.setRow b (zg cur off cs)):=by
  unfold execOp;simp only[ho,resolve,invoke,builtin,Sem.run_bind,Sem.run_pure,Result.andThen_ok,List.map_toArray,QI,List.map_nil,hi.1,hi.2.1,hrun]
 rw[hex];exact⟨default,rfl,(b,.cells cur T),by simp[List.lookup],zbk b _,setRow_heap w b cur _ T (0,0) hg⟩
theorem qz {w:World}{b off:Nat}{cur:Qd}{T:TypeId}{fz:Nat×Nat}{cs:List Value}(hg:w.heap[b]? =some (.cells cur T fz))(h: ∀q v,cs[q]? =some v->cur[off+q]? =some v): ∀q v,cs[q]? =some v->w.cell? ((⟨b,off,none⟩:Addr).add q)=some v:=fun q v hq=>by
 rw[yS];simp[RW,hg,h q v hq]
end
section
variable {α:Type}{S:Fl α}
theorem jw (L:List α)(i:Nat)(h:i<=L.length):zb S (L.take i)=(zb S L).take (i*S.K):=by
 have e:zb S L=zb S (L.take i)++zb S (L.drop i):=by rw[<-qq,List.take_append_drop]
 rw[e,List.take_left'];rw[yo,Qv,Rk h]
theorem uo (L:List α)(i:Nat)(h:i<=L.length):zb S (L.drop i)=(zb S L).drop (i*S.K):=by
 have e:zb S L=zb S (L.take i)++zb S (L.drop i):=by rw[<-qq,List.take_append_drop]
 rw[e,List.drop_left'];rw[yo,Qv,Rk h]
end
end
section
open D2 (Gh)
abbrev sxO (x:Qa):Obj:=.cells #[.string x] 9 (0,0)
def zR (B:Nat)(w0:World)(Lr:Qb)(L:List Bal)(v:Value)(w:World):Prop:=∃(q:Qc) (m k:Nat) (row:Qb),v=.slice q m k/\zz blS 27 q m k row L/\St B w0 w (row++Lr)
theorem zbl (p:Qc)(n c:Nat)(L:List Bal)(x:Bal)(bv:Nat)(row Lr:Qb){B:Nat}{w0 w:World}(hrow:zz blS 27 p n c row L)(h:St B w0 w (row++((bv,blO x)::Lr)))(hL:L.length<=1000000):
 Calls Try.prog 37 #[.slice p n c,iN n,Qf bv 1 1] w fun e w'=> ∃v,e=.returned v/\zR B w0 Lr (L++ [x]) v w':=by
 refine yt (c:=zr Try.f37) (rs:=[.tmp 6]) (N:=95) Try.func37 kr kr kr ?_;have hlen:=hrow.len;rcases hrow with⟨rfl,rfl,rfl,rfl,rfl⟩ | ⟨bw,cur,rfl,rfl,hrw⟩
 ·refine rS [.v] h kr fun gs1 w1 H1=>rS [.v,.v,.v] H1 kr fun gs2 w2 H2=>rS [.v,.v,.v] H2 kr fun gs3 w3 H3=>ze kr<|rS [.v,.v] H3 kr fun gs4 w4 H4=>zN kr kr<|zQ kr<|wW<|rS [.v,.v,.v] H4 kr fun gs5 w5 H5=>ze kr<|rS [.v,.v,.v] H5 kr fun gs6 w6 H6=>yd kr kr<|zo [0,1,2,3] kr kr<|rp [.v,.v] H6 kr fun gs7 w7 H7=>wX [2,3] ?_;have H8:St B w0 w7 ((bv,blO x)::Lr):=H7.as kr;refine vr (K':=3) H8 (some 25) 23 27 40 (.tmp 23) (.tmp 24) 0 bv 1 #[.string x.1,.string x.2.1,.bool x.2.2] kr kr kr kr kr kr rfl (qT rfl) (by omega) ?_;intro b' cap' cur' w8 H9 hrw;refine rp [.v] H9 kr fun gs8 w9 H10=>wX []<|zl ?_;have H11:St B w0 w9 ((b',.cells cur' 27)::(bv,blO x)::Lr):=H10.as kr;refine rRr [.tmp 6] [] (Qf b' 1 cap') (zR B w0 Lr ([]++ [x])) H10 kr ?_;refine⟨Qg b',1,cap',_,rfl,.inr ⟨b',cur',rfl,rfl,hrw⟩,H11.sub ?_⟩;exact QH _ (Qp ..)
 ·have hin:(n:Int)≠ -1:=by omega
  refine rS [.v] h kr fun gs1 w1 H1=>rS [.v,.v,.o (ins:=[((.tmp 10),Qf bw n c),((.tmp 11),iN n)]) (v:=.slice (some ⟨bw,if c=n then 0 else 0+n*3,none⟩) (n-n) (c-n)) (fun ρ o w ho hi2=>zX (kz:=.i64) (t:=23) (e:=27) (size:=3) (bytes:=40) kr (x:=(.tmp 10)) (z:=(.tmp 11)) bw 0 n c n ho hi2.1 hi2.2.1 (Qs _) hrw.le w)] H1 kr fun gs2 w2 H2=>rS [.v,.v,.v] H2 kr fun gs3 w3 H3=>ze kr<|rS [.v,.v] H3 kr fun gs4 w4 H4=>zN kr kr<|zQ kr<|wW<|rS [.v,.v,.v] H4 kr fun gs5 w5 H5=>ze kr<|rS [.v,.v,.E (.bool ((n:Int)==(n:Int))) (.bool true) (za (beq_self_eq_true _))] H5 kr fun gs6 w6 H6=>yd kr kr<|zo [0,1,2,3] kr kr<|rp [.v,.v] H6 kr fun gs7 w7 H7=>wX [2,3] ?_;have H8:St B w0 w7 ((bw,.cells cur 27)::(bv,blO x)::Lr):=H7.as kr;refine vq (K':=3) H8 (some 25) 23 27 40 (.tmp 23) (.tmp 24) 0 1 bw bv n c 1 cur #[.string x.1,.string x.2.1,.bool x.2.2] (zb blS L) kr kr kr kr kr hrw kr kr rfl (qT rfl) (by omega) (by unfold maxLen;omega) ?_;intro b' cap' cur' w8 H9 hrw';refine rp [.v] H9 kr fun gs8 w9 H10=>wX []<|zl ?_;have H11:St B w0 w9 ((b',.cells cur' 27)::(bv,blO x)::Lr):=H10.as kr;refine rRr [.tmp 6] [] (Qf b' (n+1) cap') (zR B w0 Lr (L++ [x])) H10 kr ?_;refine⟨Qg b',n+1,cap',_,rfl,.inr ⟨b',cur',rfl,rfl,?_⟩,H11.sub ?_⟩
  ·rw[jS];exact hrw'
  ·exact QH _ (Qp ..)
theorem zbm {cur:Qd}{xs X D:List Value}{i n c:Nat}(hsz:cur.size=c*3)(htk:cur.toList.take (n*3)=xs)(hD:D=xs.drop (i*3))(hxs:xs.length=n*3)(hX:X.length=3)(hi:i<n)(hc:n+1<=c):
 (zg (zg cur ((i+1)*3) D) (i*3) X).toList.take ((n+1)*3)=xs.take (i*3)++(X++D):=by
 have hDl:D.length=(n-i)*3:=by rw[hD,RO,hxs];omega
 have s1:(zg cur ((i+1)*3) D).size=c*3:=by rw[yp (by omega),hsz]
 have hcl:cur.toList.length=c*3:=by rw[QE,hsz]
 rw[qs (C:=zg cur ((i+1)*3) D) (o:=i*3) (vs:=X) (m:=(n+1)*3) (by omega) (by omega),
  jo (C:=cur) (o:=(i+1)*3) (vs:=D) (m:=i*3) (by omega) (by omega),
  qs (C:=cur) (o:=(i+1)*3) (vs:=D) (m:=(n+1)*3) (by omega) (by omega)]
 have e1:(cur.toList.take ((n+1)*3)).drop ((i+1)*3+D.length)=[]:=Qz (by rw[Qv];omega);have e2:cur.toList.take (i*3)=xs.take (i*3):=by rw[<-htk,R7,Rk (by omega)]
 have e3:(cur.toList.take ((i+1)*3)++D).drop (i*3+X.length)=D:=List.drop_left' (by rw[Qv];omega);rw[e1,Rt,e3,e2,QK]
theorem zbn {cur:Qd}{xs X D:List Value}{i n c:Nat}(hsz:cur.size=c*3)(htk:cur.toList.take (i*3)=xs.take (i*3))(hxs:xs.length=n*3)(hX:X.length=3)(hDl:D.length=(n-i)*3)(hi:i<n)(hc:n+1<=c):
 (zg (zg cur (i*3) X) ((i+1)*3) D).toList.take ((n+1)*3)=xs.take (i*3)++(X++D):=by
 have s1:(zg cur (i*3) X).size=c*3:=by rw[yp (by omega),hsz]
 have hcl:cur.toList.length=c*3:=by rw[QE,hsz]
 have hcl1:(zg cur (i*3) X).toList.length=c*3:=by rw[QE,s1]
 rw[qs (C:=zg cur (i*3) X) (o:=(i+1)*3) (vs:=D) (m:=(n+1)*3) (by omega) (by omega),
  qs (C:=cur) (o:=i*3) (vs:=X) (m:=(i+1)*3) (by omega) (by omega)]
 have e1:((zg cur (i*3) X).toList.take ((n+1)*3)).drop ((i+1)*3+D.length)=[]:=Qz (by rw[Qv];omega);have e2:(cur.toList.take ((i+1)*3)).drop (i*3+X.length)=[]:=Qz (by rw[Qv];omega);rw[e1,e2,Rt,Rt,htk,QK]
theorem zbo (bv bw:Nat)(cur:Qd)(x:Bal)(la lb cb i:Nat)(hne:bw≠bv)(hc:cur.size≠0){ρ:Env}{o:Oper}{w:World}(ho:o.op=.call { callee:=.value (.func 48),args:=#[.tmp 61,.tmp 66],argTypes:=#[23,23] })
 (hx:ev ρ (.tmp 61)=Qf bv la 1) (hy:ev ρ (.tmp 66)=.slice (some ⟨bw,i*3,none⟩) lb cb) (hv:w.heap[bv]? =some (blO x)) (hw:w.heap[bw]? =some (.cells cur 27)):
 (execOp (ev ρ) o).run Try.prog w=.ok (.value (.bool false)) w:=by
 rw[kG (f:=48) (args:=#[Qf bv la 1,.slice (some ⟨bw,i*3,none⟩) lb cb]) ho rfl rfl (by simp[hx,hy])]
 rw[run_callFunc_extern Try.func48 kr kr kr (e:=Extern.SlicesOverlaps.overlaps #[23,23] #[4]) kr,
  Lib.run_overlaps_apart w 23 4 27 Try.underlying23 3 (fun w=>by
   obtain⟨it,hi,hsz⟩:=Option.map_eq_some_iff.1 (show (Try.prog.info? 27).map (·.size)=some 3 by kernel_rfl)
   simp[sizeOf,typeInfo,hi,hsz]) ⟨bv,0,none⟩ ⟨bw,i*3,none⟩ la 1 lb cb (Ne.symm hne) 27 27 3 cur.size (by simp[Uu,hv]) (by simp[Uu,hw]) hc (by simp[Up,hv]) (by simp[Up,hv])]
 rfl
theorem zbp (bw n c:Nat)(cur:Qd)(L:List Bal)(x:Bal)(i bv:Nat)(Lr:Qb){B:Nat}{w0 w:World}(hrw:Rw 3 cur c n (zb blS L))(h:St B w0 w ((bw,.cells cur 27)::(bv,blO x)::Lr))(hi:i<n)(hL:n<=1000000):
 Calls Try.prog 37 #[Qf bw n c,iN i,Qf bv 1 1] w fun e w'=> ∃v,e=.returned v/\zR B w0 Lr (L.take i++x::L.drop i) v w':=by
 refine yt (c:=zr Try.f37) (rs:=[.tmp 6]) (N:=95) Try.func37 kr kr kr ?_;have hlenL:L.length=n:=hrw.lenF (S:=blS);have hcl:(zb blS L).length=n*3:=by rw[yo,hlenL];rfl
 have hle:=hrw.le;have hmx:=hrw.max;have hnd:bw≠bv:=by
  have q:=(RK.1 h.nd).1;intro e;exact q (by rw[e];exact QM ..)
 have etk:zb blS (L.take i)=(zb blS L).take (i*3):=jw L i (by omega);have edr:zb blS (L.drop i)=(zb blS L).drop (i*3):=uo L i (by omega);have hxs:([.string x.1,.string x.2.1,.bool x.2.2]:List Value).length=3:=rfl;have ex:blS.cs x=[.string x.1,.string x.2.1,.bool x.2.2]:=rfl;have hdl:((zb blS L).drop (i*3)).length=(n-i)*3:=by rw[RO,hcl];omega
 have ecell:zb blS (L.take i++x::L.drop i)=(zb blS L).take (i*3)++([.string x.1,.string x.2.1,.bool x.2.2]++(zb blS L).drop (i*3)):=by
  rw[qq,etk];show _++(blS.cs x++zb blS (L.drop i))=_;rw[edr,ex]
 have hlen2:(L.take i++x::L.drop i).length=n+1:=by simp;omega
 have h1d: ∀v∈(zb blS L).drop (i*3),v.oneCell'=true:=fun v hv=>xK L v (List.mem_of_mem_drop hv);have h1x: ∀v∈([.string x.1,.string x.2.1,.bool x.2.2]:List Value),v.oneCell'=true:=qT rfl;have hsrcD: ∀q v,((zb blS L).drop (i*3))[q]? =some v->cur[i*3+q]? =some v:=fun q v hq=>by
  rw[Uh]at hq;have hlt:=(Qr.1 hq).1;rw[hrw.get (i*3+q) (by omega)];exact hq
 refine rS [.v] h kr fun gs1 w1 H1=>rS [.v,.v,.oe (ins:=[((.tmp 10),Qf bw n c),((.tmp 11),iN i)]) (v:=.slice (some ⟨bw,if c=i then 0 else 0+i*3,none⟩) (n-i) (c-i)) (v':=.slice (some ⟨bw,i*3,none⟩) (n-i) (c-i)) (fun ρ o w ho hi2=>zX (kz:=.i64) (t:=23) (e:=27) (size:=3) (bytes:=40) kr (x:=(.tmp 10)) (z:=(.tmp 11)) bw 0 n c i ho hi2.1 hi2.2.1 (by omega) (hle) w) (by rw[if_neg (by omega),Qu])] H1 kr fun gs2 w2 H2=>rS [.v,.v,.v] H2 kr fun gs3 w3 H3=>ze kr<|rS [.v,.v] H3 kr fun gs4 w4 H4=>zN kr kr<|zQ kr<|wW<|rS [.v,.v,.v] H4 kr fun gs5 w5 H5=>ze kr<|rS [.v,.v,.E (.bool ((i:Int)==(n:Int))) (.bool false) (za (beq_eq_false_iff_ne.2 (by omega)))] H5 kr fun gs6 w6 H6=>zN kr kr<|zQ kr<|wW<|ze kr ?_;by_cases hroom:n+1<=c
 ·refine rS [.v,.v,.E (.int .i64 (Qm.wrap ((n:Int)+1))) (iN (n+1)) (zf (zw (a:=n) (b:=1) (by omega))),.v,.v,.E (.bool (decide (((n+1:Nat):Int)>(c:Int)))) (.bool false) (za (decide_eq_false (by omega)))] H6 kr fun gs7 w7 H7=>zN kr kr<|zQ kr<|wW<|rS [.v,.v,.v,.E (.int .i64 (Qm.wrap ((n:Int)+1))) (iN (n+1)) (zf (zw (a:=n) (b:=1) (by omega))),.o (ins:=[((.tmp 56),Qf bw n c),((.tmp 59),iN (n+1))]) (v:=Qf bw (n+1) c) (fun ρ o w ho hi2=>qD (kd:=.i64) (t:=23) (e:=27) (size:=3) (bytes:=40) kr (x:=(.tmp 56)) (y:=(.tmp 59)) bw n c (n+1) ho hi2.1 hi2.2.1 (hroom) w),.v] H7 kr fun gs8 w8 H8=>ze kr ?_
  refine rS [.v,.v,.v,.v,.E (.int .i64 (Qm.wrap ((i:Int)+1))) (iN (i+1)) (zf (zw (a:=i) (b:=1) (by omega))),.oe (ins:=[((.tmp 62),Qf bw (n+1) c),((.tmp 65),iN (i+1))]) (v:=.slice (some ⟨bw,if c=(i+1) then 0 else 0+(i+1)*3,none⟩) ((n+1)-(i+1)) (c-(i+1))) (v':=.slice (some ⟨bw,(i+1)*3,none⟩) ((n+1)-(i+1)) (c-(i+1))) (fun ρ o w ho hi2=>zX (kz:=.i64) (t:=23) (e:=27) (size:=3) (bytes:=40) kr (x:=(.tmp 62)) (z:=(.tmp 65)) bw 0 (n+1) c (i+1) ho hi2.1 hi2.2.1 (by omega) (hroom) w) (by rw[if_neg (by omega),Qu]),
   .x (ins:=[((.tmp 61),Qf bv 1 1),((.tmp 66),.slice (some ⟨bw,(i+1)*3,none⟩) ((n+1)-(i+1)) (c-(i+1)))]) (op:=.call { callee:=.value (.func 48),args:=#[.tmp 61,.tmp 66],argTypes:=#[23,23] }) (v:=.bool false) [(1,(bv,blO x)),(0,(bw,.cells cur 27))] (fun ρ o w ho hi2 hd=>zbo bv bw cur x _ _ _ (i+1) hnd (by rw[hrw.sz];omega) ho hi2.1 hi2.2.1 hd.1 hd.2.1),.v] H8 kr fun gs9 w9 H9=>?_
  refine yd kr kr ?_
  refine dS [.v,.v,.v,.E (.int .i64 (Qm.wrap ((i:Int)+1))) (iN (i+1)) (zf (zw (a:=i) (b:=1) (by omega))),.oe (ins:=[((.tmp 69),Qf bw (n+1) c),((.tmp 72),iN (i+1))]) (v:=.slice (some ⟨bw,if c=(i+1) then 0 else 0+(i+1)*3,none⟩) ((n+1)-(i+1)) (c-(i+1))) (v':=.slice (some ⟨bw,(i+1)*3,none⟩) ((n+1)-(i+1)) (c-(i+1))) (fun ρ o w ho hi2=>zX (kz:=.i64) (t:=23) (e:=27) (size:=3) (bytes:=40) kr (x:=(.tmp 69)) (z:=(.tmp 72)) bw 0 (n+1) c (i+1) ho hi2.1 hi2.2.1 (by omega) (hroom) w) (by rw[if_neg (by omega),Qu]),.v,.v,.oe (ins:=[((.tmp 74),Qf bw (n+1) c),((.tmp 75),iN i)]) (v:=.slice (some ⟨bw,if c=i then 0 else 0+i*3,none⟩) ((n+1)-i) (c-i)) (v':=.slice (some ⟨bw,i*3,none⟩) ((n+1)-i) (c-i)) (fun ρ o w ho hi2=>zX (kz:=.i64) (t:=23) (e:=27) (size:=3) (bytes:=40) kr (x:=(.tmp 74)) (z:=(.tmp 75)) bw 0 (n+1) c i ho hi2.1 hi2.2.1 (by omega) (hroom) w) (by rw[if_neg (by omega),Qu]),
   .g [((.tmp 73),.slice (some ⟨bw,(i+1)*3,none⟩) ((n+1)-(i+1)) (c-(i+1))),((.tmp 76),.slice (some ⟨bw,i*3,none⟩) ((n+1)-i) (c-i))] (.call { callee:=.builtin .copy,args:=#[.tmp 73,.tmp 76],argTypes:=#[23,23] }) ((0,(bw,Qx (cur) 27))::[]) (fun _=>.int .i64 ((Uc ((n+1)-i) ((n+1)-(i+1)):Nat):Int)) (.turn 0 (.cells (zg (cur) ((i+1)*3) ((zb blS L).drop (i*3))) 27)) (qy (dT:=23) (sT:=23) (e:=27) (size:=3) kr kr (x:=(.tmp 73)) (y:=(.tmp 76)) (j:=0) (b:=bw) (off:=(i+1)*3) (dLen:=(n+1)-(i+1)) (dCap:=c-(i+1)) (sLen:=(n+1)-i) (sCap:=c-i) (a:=⟨bw,i*3,none⟩) (cur:=cur) (T:=27) (cs:=(zb blS L).drop (i*3)) (rd:=[]) (by rw[hdl];show _=min _ _*3;omega) (fun w hd=>qz hd.1 hsrcD) (by rw[hdl,hrw.sz];omega) (h1d))] H9 kr fun w10 H10=>?_
  have hsz1:(zg cur ((i+1)*3) ((zb blS L).drop (i*3))).size=c*3:=by rw[yp (by rw[hdl,hrw.sz];omega),hrw.sz]
  refine rS [.v,.v,.oe (ins:=[((.tmp 78),Qf bw (n+1) c),((.tmp 79),iN i)]) (v:=.slice (some ⟨bw,if c=i then 0 else 0+i*3,none⟩) ((n+1)-i) (c-i)) (v':=.slice (some ⟨bw,i*3,none⟩) ((n+1)-i) (c-i)) (fun ρ o w ho hi2=>zX (kz:=.i64) (t:=23) (e:=27) (size:=3) (bytes:=40) kr (x:=(.tmp 78)) (z:=(.tmp 79)) bw 0 (n+1) c i ho hi2.1 hi2.2.1 (by omega) (hroom) w) (by rw[if_neg (by omega),Qu]),.v,
   .g [((.tmp 80),.slice (some ⟨bw,i*3,none⟩) ((n+1)-i) (c-i)),((.tmp 81),Qf bv (1) (1))] (.call { callee:=.builtin .copy,args:=#[.tmp 80,.tmp 81],argTypes:=#[23,23] }) ((0,(bw,Qx (zg cur ((i+1)*3) ((zb blS L).drop (i*3))) 27))::[(1,(bv,blO x))]) (fun _=>.int .i64 ((Uc (1) ((n+1)-i):Nat):Int)) (.turn 0 (.cells (zg (zg cur ((i+1)*3) ((zb blS L).drop (i*3))) (i*3) ([.string x.1,.string x.2.1,.bool x.2.2])) 27 (0,0))) (qy (dT:=23) (sT:=23) (e:=27) (size:=3) kr kr (x:=(.tmp 80)) (y:=(.tmp 81)) (j:=0) (b:=bw) (off:=i*3) (dLen:=(n+1)-i) (dCap:=c-i) (sLen:=1) (sCap:=1) (a:=⟨bv,0,none⟩) (cur:=zg cur ((i+1)*3) ((zb blS L).drop (i*3))) (T:=27) (cs:=[.string x.1,.string x.2.1,.bool x.2.2]) (rd:=[(1,(bv,blO x))]) (by show 3=min _ _*3;omega) (fun w hd=>qz hd.2.1 (fun q v hq=>by rw[Qu,<-Rd];exact hq)) (by rw[hsz1,hxs];omega) (h1x))] H10 kr fun gs11 w11 H11=>?_
  refine rS [.v,.v] H11 kr fun gs12 w12 H12=>rRr [.tmp 6] [] (Qf bw (n+1) c) (zR B w0 Lr (L.take i++x::L.drop i)) H12 kr ?_;have hfin:Rw 3 (zg (zg cur ((i+1)*3) ((zb blS L).drop (i*3))) (i*3) [.string x.1,.string x.2.1,.bool x.2.2]) c (n+1) (zb blS (L.take i++x::L.drop i)):=by
   refine⟨by rw[yo,hlen2];rfl,hroom,hmx,?_,by rw[yp (by rw[hsz1,hxs];omega),hsz1]⟩;rw[ecell];exact zbm hrw.sz hrw.take rfl hcl hxs hi hroom
  exact⟨Qg bw,n+1,c,_,rfl,.inr ⟨bw,_,rfl,rfl,hfin⟩,(H12.as (l:=(bw,.cells (zg (zg cur ((i+1)*3) ((zb blS L).drop (i*3))) (i*3) [.string x.1,.string x.2.1,.bool x.2.2]) 27 (0,0))::(bv,blO x)::Lr) kr).sub (QH _ (Qp ..))⟩
 ·refine rS [.v,.v,.E (.int .i64 (Qm.wrap ((n:Int)+1))) (iN (n+1)) (zf (zw (a:=n) (b:=1) (by omega))),.v,.v,.E (.bool (decide (((n+1:Nat):Int)>(c:Int)))) (.bool true) (za (decide_eq_true (by omega)))] H6 kr fun gs7 w7 H7=>yd kr kr ?_;have hm1:i+(n+1-i)=n+1:=by omega
  refine zo [0,1,2,3,4,5,6,7,8,9] kr kr<|rp [.v,.v,.o (ins:=[((.tmp 32),Qf bw n c),((.tmp 33),iN i)]) (v:=Qf bw i c) (fun ρ o w ho hi2=>qD (kd:=.i64) (t:=23) (e:=27) (size:=3) (bytes:=40) kr (x:=(.tmp 32)) (y:=(.tmp 33)) bw n c i ho hi2.1 hi2.2.1 (by omega) w),.v,.v,.E (.int .i64 (Qm.wrap ((n:Int)+1))) (iN (n+1)) (zf (zw (a:=n) (b:=1) (by omega))),.v,.E (.int .i64 (Qm.wrap (((n+1:Nat):Int)-(i:Int)))) (iN (n+1-i)) (zf (yv (by omega)))] H7 kr fun gs8 w8 H8=>wX [8,9] ?_;have H9:St B w0 w8 ((bw,.cells cur 27)::(bv,blO x)::Lr):=H8.as kr;refine vo H9 (some 40) 23 3 27 3 40 .i64 (.tmp 34) (.tmp 39) 0 bw i c (n+1-i) cur ((zb blS L).take (i*3)) kr kr kr kr kr kr rfl (hrw.cut i (by omega)) (by omega) (by omega) (by omega) (by unfold maxLen;omega) ?_;intro b' cap' cur' w9 H10 hcp hcx hcs htk;rw[hm1]at hcp⊢;refine rp [.v] H10 kr fun gs9 w10 H11=>wX []<|zl ?_;have H12:St B w0 w10 ((b',.cells cur' 27)::(bw,.cells cur 27)::(bv,blO x)::Lr):=H11.as kr;have hs1:(zg cur' (i*3) [.string x.1,.string x.2.1,.bool x.2.2]).size=cap'*3:=by rw[yp (by rw[hcs,hxs];omega),hcs]
  refine rS [.v,.v,.oe (ins:=[((.tmp 41),Qf b' (n+1) cap'),((.tmp 42),iN i)]) (v:=.slice (some ⟨b',if cap'=i then 0 else 0+i*3,none⟩) ((n+1)-i) (cap'-i)) (v':=.slice (some ⟨b',i*3,none⟩) ((n+1)-i) (cap'-i)) (fun ρ o w ho hi2=>zX (kz:=.i64) (t:=23) (e:=27) (size:=3) (bytes:=40) kr (x:=(.tmp 41)) (z:=(.tmp 42)) b' 0 (n+1) cap' i ho hi2.1 hi2.2.1 (by omega) (hcp) w) (by rw[if_neg (by omega),Qu]),.v,
   .g [((.tmp 43),.slice (some ⟨b',i*3,none⟩) ((n+1)-i) (cap'-i)),((.tmp 44),Qf bv (1) (1))] (.call { callee:=.builtin .copy,args:=#[.tmp 43,.tmp 44],argTypes:=#[23,23] }) ((0,(b',Qx (cur') 27))::[(2,(bv,blO x))]) (fun _=>.int .i64 ((Uc (1) ((n+1)-i):Nat):Int)) (.turn 0 (.cells (zg (cur') (i*3) ([.string x.1,.string x.2.1,.bool x.2.2])) 27)) (qy (dT:=23) (sT:=23) (e:=27) (size:=3) kr kr (x:=(.tmp 43)) (y:=(.tmp 44)) (j:=0) (b:=b') (off:=i*3) (dLen:=(n+1)-i) (dCap:=cap'-i) (sLen:=1) (sCap:=1) (a:=⟨bv,0,none⟩) (cur:=cur') (T:=27) (cs:=[.string x.1,.string x.2.1,.bool x.2.2]) (rd:=[(2,(bv,blO x))]) (by show 3=min _ _*3;omega) (fun w hd=>qz hd.2.1 (fun q v hq=>by rw[Qu,<-Rd];exact hq)) (by rw[hcs,hxs];omega) (h1x))] H12 kr fun gs11 w11 H13=>?_
  refine dS [.v,.v,.v,.E (.int .i64 (Qm.wrap ((i:Int)+1))) (iN (i+1)) (zf (zw (a:=i) (b:=1) (by omega))),.oe (ins:=[((.tmp 46),Qf b' (n+1) cap'),((.tmp 49),iN (i+1))]) (v:=.slice (some ⟨b',if cap'=(i+1) then 0 else 0+(i+1)*3,none⟩) ((n+1)-(i+1)) (cap'-(i+1))) (v':=.slice (some ⟨b',(i+1)*3,none⟩) ((n+1)-(i+1)) (cap'-(i+1))) (fun ρ o w ho hi2=>zX (kz:=.i64) (t:=23) (e:=27) (size:=3) (bytes:=40) kr (x:=(.tmp 46)) (z:=(.tmp 49)) b' 0 (n+1) cap' (i+1) ho hi2.1 hi2.2.1 (by omega) (hcp) w) (by rw[if_neg (by omega),Qu]),.v,.v,.oe (ins:=[((.tmp 51),Qf bw n c),((.tmp 52),iN i)]) (v:=.slice (some ⟨bw,if c=i then 0 else 0+i*3,none⟩) (n-i) (c-i)) (v':=.slice (some ⟨bw,i*3,none⟩) (n-i) (c-i)) (fun ρ o w ho hi2=>zX (kz:=.i64) (t:=23) (e:=27) (size:=3) (bytes:=40) kr (x:=(.tmp 51)) (z:=(.tmp 52)) bw 0 n c i ho hi2.1 hi2.2.1 (by omega) (hle) w) (by rw[if_neg (by omega),Qu]),
   .g [((.tmp 50),.slice (some ⟨b',(i+1)*3,none⟩) ((n+1)-(i+1)) (cap'-(i+1))),((.tmp 53),.slice (some ⟨bw,i*3,none⟩) (n-i) (c-i))] (.call { callee:=.builtin .copy,args:=#[.tmp 50,.tmp 53],argTypes:=#[23,23] }) ((0,(b',Qx (zg cur' (i*3) [.string x.1,.string x.2.1,.bool x.2.2]) 27))::[(1,(bw,.cells cur 27))]) (fun _=>.int .i64 ((Uc (n-i) ((n+1)-(i+1)):Nat):Int)) (.turn 0 (.cells (zg (zg cur' (i*3) [.string x.1,.string x.2.1,.bool x.2.2]) ((i+1)*3) ((zb blS L).drop (i*3))) 27)) (qy (dT:=23) (sT:=23) (e:=27) (size:=3) kr kr (x:=(.tmp 50)) (y:=(.tmp 53)) (j:=0) (b:=b') (off:=(i+1)*3) (dLen:=(n+1)-(i+1)) (dCap:=cap'-(i+1)) (sLen:=n-i) (sCap:=c-i) (a:=⟨bw,i*3,none⟩) (cur:=zg cur' (i*3) [.string x.1,.string x.2.1,.bool x.2.2]) (T:=27) (cs:=(zb blS L).drop (i*3)) (rd:=[(1,(bw,.cells cur 27))]) (by rw[hdl];show _=min _ _*3;omega) (fun w hd=>qz hd.2.1 hsrcD) (by rw[hdl,hs1];omega) (h1d))] H13 kr fun w12 H14=>?_
  refine rS [.v,.v] H14 kr fun gs12 w13 H15=>rRr [.tmp 6] [] (Qf b' (n+1) cap') (zR B w0 Lr (L.take i++x::L.drop i)) H15 kr ?_;have hfin:Rw 3 (zg (zg cur' (i*3) [.string x.1,.string x.2.1,.bool x.2.2]) ((i+1)*3) ((zb blS L).drop (i*3))) cap' (n+1) (zb blS (L.take i++x::L.drop i)):=by
   refine⟨by rw[yo,hlen2];rfl,hcp,hcx,?_,by rw[yp (by rw[hs1,hdl];omega),hs1]⟩;rw[ecell];exact zbn hcs htk hcl hxs hdl hi hcp
  exact⟨Qg b',n+1,cap',_,rfl,.inr ⟨b',_,rfl,rfl,hfin⟩,(H15.as (l:=(b',.cells (zg (zg cur' (i*3) [.string x.1,.string x.2.1,.bool x.2.2]) ((i+1)*3) ((zb blS L).drop (i*3))) 27)::(bw,.cells cur 27)::(bv,blO x)::Lr) kr).sub (QH _ ((Qp ..).trans (Qp ..)))⟩
theorem kp (p:Qc)(n c:Nat)(L:List Bal)(x:Bal)(i bv:Nat)(row Lr:Qb){B:Nat}{w0 w:World}(hrow:zz blS 27 p n c row L)(h:St B w0 w (row++((bv,blO x)::Lr)))(hi:i<=n)(hL:L.length<=1000000):
 Calls Try.prog 37 #[.slice p n c,iN i,Qf bv 1 1] w fun e w'=> ∃v,e=.returned v/\zR B w0 Lr (L.take i++x::L.drop i) v w':=by
 have hlen:=hrow.len;by_cases e:i=n
 ·subst e;rw[QA (by omega),Qz (by omega)];exact zbl p i c L x bv row Lr hrow h hL
 ·rcases hrow with⟨rfl,rfl,rfl,rfl,rfl⟩|⟨bw,cur,rfl,rfl,hrw⟩
  ·omega
  ·exact zbp bw n c cur L x i bv Lr hrw h (by omega) (by omega)
def zY (B:Nat)(w0:World)(Lr:Qb)(L:Qi)(v:Value)(w:World):Prop:=∃(q:Qc) (m k:Nat) (row:Qb),v=.slice q m k/\zz sS 9 q m k row L/\St B w0 w (row++Lr)
theorem zbq (p:Qc)(n c:Nat)(L:Qi)(x:Qa)(bv:Nat)(row Lr:Qb){B:Nat}{w0 w:World}(hrow:zz sS 9 p n c row L)(h:St B w0 w (row++((bv,sxO x)::Lr)))(hL:L.length<=1000000):
 Calls Try.prog 52 #[.slice p n c,iN n,Qf bv 1 1] w fun e w'=> ∃v,e=.returned v/\zY B w0 Lr (L++ [x]) v w':=by
 refine yt (c:=zr Try.f52) (rs:=[.tmp 6]) (N:=95) Try.func52 kr kr kr ?_;have hlen:=hrow.len;rcases hrow with⟨rfl,rfl,rfl,rfl,rfl⟩ | ⟨bw,cur,rfl,rfl,hrw⟩
 ·refine rS [.v] h kr fun gs1 w1 H1=>rS [.v,.v,.v] H1 kr fun gs2 w2 H2=>rS [.v,.v,.v] H2 kr fun gs3 w3 H3=>ze kr<|rS [.v,.v] H3 kr fun gs4 w4 H4=>zN kr kr<|zQ kr<|wW<|rS [.v,.v,.v] H4 kr fun gs5 w5 H5=>ze kr<|rS [.v,.v,.v] H5 kr fun gs6 w6 H6=>yd kr kr<|zo [0,1,2,3] kr kr<|rp [.v,.v] H6 kr fun gs7 w7 H7=>wX [2,3] ?_;have H8:St B w0 w7 ((bv,sxO x)::Lr):=H7.as kr;refine vr (K':=1) H8 (some 25) 22 9 16 (.tmp 23) (.tmp 24) 0 bv 1 #[.string x] kr kr kr kr kr kr rfl (qT rfl) (by omega) ?_;intro b' cap' cur' w8 H9 hrw;refine rp [.v] H9 kr fun gs8 w9 H10=>wX []<|zl ?_;have H11:St B w0 w9 ((b',.cells cur' 9)::(bv,sxO x)::Lr):=H10.as kr;refine rRr [.tmp 6] [] (Qf b' 1 cap') (zY B w0 Lr ([]++ [x])) H10 kr ?_;refine⟨Qg b',1,cap',_,rfl,.inr ⟨b',cur',rfl,rfl,hrw⟩,H11.sub ?_⟩;exact QH _ (Qp ..)
 ·have hin:(n:Int)≠ -1:=by omega
  refine rS [.v] h kr fun gs1 w1 H1=>rS [.v,.v,.o (ins:=[((.tmp 10),Qf bw n c),((.tmp 11),iN n)]) (v:=.slice (some ⟨bw,if c=n then 0 else 0+n*1,none⟩) (n-n) (c-n)) (fun ρ o w ho hi2=>zX (kz:=.i64) (t:=22) (e:=9) (size:=1) (bytes:=16) kr (x:=(.tmp 10)) (z:=(.tmp 11)) bw 0 n c n ho hi2.1 hi2.2.1 (Qs _) hrw.le w)] H1 kr fun gs2 w2 H2=>rS [.v,.v,.v] H2 kr fun gs3 w3 H3=>ze kr<|rS [.v,.v] H3 kr fun gs4 w4 H4=>zN kr kr<|zQ kr<|wW<|rS [.v,.v,.v] H4 kr fun gs5 w5 H5=>ze kr<|rS [.v,.v,.E (.bool ((n:Int)==(n:Int))) (.bool true) (za (beq_self_eq_true _))] H5 kr fun gs6 w6 H6=>yd kr kr<|zo [0,1,2,3] kr kr<|rp [.v,.v] H6 kr fun gs7 w7 H7=>wX [2,3] ?_;have H8:St B w0 w7 ((bw,.cells cur 9)::(bv,sxO x)::Lr):=H7.as kr;refine vq (K':=1) H8 (some 25) 22 9 16 (.tmp 23) (.tmp 24) 0 1 bw bv n c 1 cur #[.string x] (zb sS L) kr kr kr kr kr hrw kr kr rfl (qT rfl) (by omega) (by unfold maxLen;omega) ?_;intro b' cap' cur' w8 H9 hrw';refine rp [.v] H9 kr fun gs8 w9 H10=>wX []<|zl ?_;have H11:St B w0 w9 ((b',.cells cur' 9)::(bv,sxO x)::Lr):=H10.as kr;refine rRr [.tmp 6] [] (Qf b' (n+1) cap') (zY B w0 Lr (L++ [x])) H10 kr ?_;refine⟨Qg b',n+1,cap',_,rfl,.inr ⟨b',cur',rfl,rfl,?_⟩,H11.sub ?_⟩
  ·rw[jS];exact hrw'
  ·exact QH _ (Qp ..)
theorem zbr {cur:Qd}{xs X D:List Value}{i n c:Nat}(hsz:cur.size=c*1)(htk:cur.toList.take (n*1)=xs)(hD:D=xs.drop (i*1))(hxs:xs.length=n*1)(hX:X.length=1)(hi:i<n)(hc:n+1<=c):
 (zg (zg cur ((i+1)*1) D) (i*1) X).toList.take ((n+1)*1)=xs.take (i*1)++(X++D):=by
 have hDl:D.length=(n-i)*1:=by rw[hD,RO,hxs];omega
 have s1:(zg cur ((i+1)*1) D).size=c*1:=by rw[yp (by omega),hsz]
 have hcl:cur.toList.length=c*1:=by rw[QE,hsz]
 rw[qs (C:=zg cur ((i+1)*1) D) (o:=i*1) (vs:=X) (m:=(n+1)*1) (by omega) (by omega),
  jo (C:=cur) (o:=(i+1)*1) (vs:=D) (m:=i*1) (by omega) (by omega),
  qs (C:=cur) (o:=(i+1)*1) (vs:=D) (m:=(n+1)*1) (by omega) (by omega)]
 have e1:(cur.toList.take ((n+1)*1)).drop ((i+1)*1+D.length)=[]:=Qz (by rw[Qv];omega);have e2:cur.toList.take (i*1)=xs.take (i*1):=by rw[<-htk,R7,Rk (by omega)]
 have e3:(cur.toList.take ((i+1)*1)++D).drop (i*1+X.length)=D:=List.drop_left' (by rw[Qv];omega);rw[e1,Rt,e3,e2,QK]
theorem zbs {cur:Qd}{xs X D:List Value}{i n c:Nat}(hsz:cur.size=c*1)(htk:cur.toList.take (i*1)=xs.take (i*1))(hxs:xs.length=n*1)(hX:X.length=1)(hDl:D.length=(n-i)*1)(hi:i<n)(hc:n+1<=c):
 (zg (zg cur (i*1) X) ((i+1)*1) D).toList.take ((n+1)*1)=xs.take (i*1)++(X++D):=by
 have s1:(zg cur (i*1) X).size=c*1:=by rw[yp (by omega),hsz]
 have hcl:cur.toList.length=c*1:=by rw[QE,hsz]
 have hcl1:(zg cur (i*1) X).toList.length=c*1:=by rw[QE,s1]
 rw[qs (C:=zg cur (i*1) X) (o:=(i+1)*1) (vs:=D) (m:=(n+1)*1) (by omega) (by omega),
  qs (C:=cur) (o:=i*1) (vs:=X) (m:=(i+1)*1) (by omega) (by omega)]
 have e1:((zg cur (i*1) X).toList.take ((n+1)*1)).drop ((i+1)*1+D.length)=[]:=Qz (by rw[Qv];omega);have e2:(cur.toList.take ((i+1)*1)).drop (i*1+X.length)=[]:=Qz (by rw[Qv];omega);rw[e1,e2,Rt,Rt,htk,QK]
theorem zbt (bv bw:Nat)(cur:Qd)(x:Qa)(la lb cb i:Nat)(hne:bw≠bv)(hc:cur.size≠0){ρ:Env}{o:Oper}{w:World}(ho:o.op=.call { callee:=.value (.func 56),args:=#[.tmp 61,.tmp 66],argTypes:=#[22,22] })
 (hx:ev ρ (.tmp 61)=Qf bv la 1) (hy:ev ρ (.tmp 66)=.slice (some ⟨bw,i*1,none⟩) lb cb) (hv:w.heap[bv]? =some (sxO x)) (hw:w.heap[bw]? =some (.cells cur 9)):
 (execOp (ev ρ) o).run Try.prog w=.ok (.value (.bool false)) w:=by
 rw[kG (f:=56) (args:=#[Qf bv la 1,.slice (some ⟨bw,i*1,none⟩) lb cb]) ho rfl rfl (by simp[hx,hy])]
 rw[run_callFunc_extern Try.func56 kr kr kr (e:=Extern.SlicesOverlaps.overlaps #[22,22] #[4]) kr,
  Lib.run_overlaps_apart w 22 4 9 Try.underlying22 1 (fun w=>by
   obtain⟨it,hi,hsz⟩:=Option.map_eq_some_iff.1 (show (Try.prog.info? 9).map (·.size)=some 1 by kernel_rfl)
   simp[sizeOf,typeInfo,hi,hsz]) ⟨bv,0,none⟩ ⟨bw,i*1,none⟩ la 1 lb cb (Ne.symm hne) 9 9 1 cur.size (by simp[Uu,hv]) (by simp[Uu,hw]) hc (by simp[Up,hv]) (by simp[Up,hv])]
 rfl
theorem zbu (bw n c:Nat)(cur:Qd)(L:Qi)(x:Qa)(i bv:Nat)(Lr:Qb){B:Nat}{w0 w:World}(hrw:Rw 1 cur c n (zb sS L))(h:St B w0 w ((bw,.cells cur 9)::(bv,sxO x)::Lr))(hi:i<n)(hL:n<=1000000):
 Calls Try.prog 52 #[Qf bw n c,iN i,Qf bv 1 1] w fun e w'=> ∃v,e=.returned v/\zY B w0 Lr (L.take i++x::L.drop i) v w':=by
 refine yt (c:=zr Try.f52) (rs:=[.tmp 6]) (N:=95) Try.func52 kr kr kr ?_;have hlenL:L.length=n:=hrw.lenF (S:=sS);have hcl:(zb sS L).length=n*1:=by rw[yo,hlenL];rfl
 have hle:=hrw.le;have hmx:=hrw.max;have hnd:bw≠bv:=by
  have q:=(RK.1 h.nd).1;intro e;exact q (by rw[e];exact QM ..)
 have etk:zb sS (L.take i)=(zb sS L).take (i*1):=jw L i (by omega);have edr:zb sS (L.drop i)=(zb sS L).drop (i*1):=uo L i (by omega);have hxs:([.string x]:List Value).length=1:=rfl;have ex:sS.cs x=[.string x]:=rfl;have hdl:((zb sS L).drop (i*1)).length=(n-i)*1:=by rw[RO,hcl];omega
 have ecell:zb sS (L.take i++x::L.drop i)=(zb sS L).take (i*1)++([.string x]++(zb sS L).drop (i*1)):=by
  rw[qq,etk];show _++(sS.cs x++zb sS (L.drop i))=_;rw[edr,ex]
 have hlen2:(L.take i++x::L.drop i).length=n+1:=by simp;omega
 have h1d: ∀v∈(zb sS L).drop (i*1),v.oneCell'=true:=fun v hv=>xK L v (List.mem_of_mem_drop hv);have h1x: ∀v∈([.string x]:List Value),v.oneCell'=true:=qT rfl;have hsrcD: ∀q v,((zb sS L).drop (i*1))[q]? =some v->cur[i*1+q]? =some v:=fun q v hq=>by
  rw[Uh]at hq;have hlt:=(Qr.1 hq).1;rw[hrw.get (i*1+q) (by omega)];exact hq
 refine rS [.v] h kr fun gs1 w1 H1=>rS [.v,.v,.oe (ins:=[((.tmp 10),Qf bw n c),((.tmp 11),iN i)]) (v:=.slice (some ⟨bw,if c=i then 0 else 0+i*1,none⟩) (n-i) (c-i)) (v':=.slice (some ⟨bw,i*1,none⟩) (n-i) (c-i)) (fun ρ o w ho hi2=>zX (kz:=.i64) (t:=22) (e:=9) (size:=1) (bytes:=16) kr (x:=(.tmp 10)) (z:=(.tmp 11)) bw 0 n c i ho hi2.1 hi2.2.1 (by omega) (hle) w) (by rw[if_neg (by omega),Qu])] H1 kr fun gs2 w2 H2=>rS [.v,.v,.v] H2 kr fun gs3 w3 H3=>ze kr<|rS [.v,.v] H3 kr fun gs4 w4 H4=>zN kr kr<|zQ kr<|wW<|rS [.v,.v,.v] H4 kr fun gs5 w5 H5=>ze kr<|rS [.v,.v,.E (.bool ((i:Int)==(n:Int))) (.bool false) (za (beq_eq_false_iff_ne.2 (by omega)))] H5 kr fun gs6 w6 H6=>zN kr kr<|zQ kr<|wW<|ze kr ?_;by_cases hroom:n+1<=c
 ·refine rS [.v,.v,.E (.int .i64 (Qm.wrap ((n:Int)+1))) (iN (n+1)) (zf (zw (a:=n) (b:=1) (by omega))),.v,.v,.E (.bool (decide (((n+1:Nat):Int)>(c:Int)))) (.bool false) (za (decide_eq_false (by omega)))] H6 kr fun gs7 w7 H7=>zN kr kr<|zQ kr<|wW<|rS [.v,.v,.v,.E (.int .i64 (Qm.wrap ((n:Int)+1))) (iN (n+1)) (zf (zw (a:=n) (b:=1) (by omega))),.o (ins:=[((.tmp 56),Qf bw n c),((.tmp 59),iN (n+1))]) (v:=Qf bw (n+1) c) (fun ρ o w ho hi2=>qD (kd:=.i64) (t:=22) (e:=9) (size:=1) (bytes:=16) kr (x:=(.tmp 56)) (y:=(.tmp 59)) bw n c (n+1) ho hi2.1 hi2.2.1 (hroom) w),.v] H7 kr fun gs8 w8 H8=>ze kr ?_
  refine rS [.v,.v,.v,.v,.E (.int .i64 (Qm.wrap ((i:Int)+1))) (iN (i+1)) (zf (zw (a:=i) (b:=1) (by omega))),.oe (ins:=[((.tmp 62),Qf bw (n+1) c),((.tmp 65),iN (i+1))]) (v:=.slice (some ⟨bw,if c=(i+1) then 0 else 0+(i+1)*1,none⟩) ((n+1)-(i+1)) (c-(i+1))) (v':=.slice (some ⟨bw,(i+1)*1,none⟩) ((n+1)-(i+1)) (c-(i+1))) (fun ρ o w ho hi2=>zX (kz:=.i64) (t:=22) (e:=9) (size:=1) (bytes:=16) kr (x:=(.tmp 62)) (z:=(.tmp 65)) bw 0 (n+1) c (i+1) ho hi2.1 hi2.2.1 (by omega) (hroom) w) (by rw[if_neg (by omega),Qu]),
   .x (ins:=[((.tmp 61),Qf bv 1 1),((.tmp 66),.slice (some ⟨bw,(i+1)*1,none⟩) ((n+1)-(i+1)) (c-(i+1)))]) (op:=.call { callee:=.value (.func 56),args:=#[.tmp 61,.tmp 66],argTypes:=#[22,22] }) (v:=.bool false) [(1,(bv,sxO x)),(0,(bw,.cells cur 9))] (fun ρ o w ho hi2 hd=>zbt bv bw cur x _ _ _ (i+1) hnd (by rw[hrw.sz];omega) ho hi2.1 hi2.2.1 hd.1 hd.2.1),.v] H8 kr fun gs9 w9 H9=>?_
  refine yd kr kr ?_
  refine dS [.v,.v,.v,.E (.int .i64 (Qm.wrap ((i:Int)+1))) (iN (i+1)) (zf (zw (a:=i) (b:=1) (by omega))),.oe (ins:=[((.tmp 69),Qf bw (n+1) c),((.tmp 72),iN (i+1))]) (v:=.slice (some ⟨bw,if c=(i+1) then 0 else 0+(i+1)*1,none⟩) ((n+1)-(i+1)) (c-(i+1))) (v':=.slice (some ⟨bw,(i+1)*1,none⟩) ((n+1)-(i+1)) (c-(i+1))) (fun ρ o w ho hi2=>zX (kz:=.i64) (t:=22) (e:=9) (size:=1) (bytes:=16) kr (x:=(.tmp 69)) (z:=(.tmp 72)) bw 0 (n+1) c (i+1) ho hi2.1 hi2.2.1 (by omega) (hroom) w) (by rw[if_neg (by omega),Qu]),.v,.v,.oe (ins:=[((.tmp 74),Qf bw (n+1) c),((.tmp 75),iN i)]) (v:=.slice (some ⟨bw,if c=i then 0 else 0+i*1,none⟩) ((n+1)-i) (c-i)) (v':=.slice (some ⟨bw,i*1,none⟩) ((n+1)-i) (c-i)) (fun ρ o w ho hi2=>zX (kz:=.i64) (t:=22) (e:=9) (size:=1) (bytes:=16) kr (x:=(.tmp 74)) (z:=(.tmp 75)) bw 0 (n+1) c i ho hi2.1 hi2.2.1 (by omega) (hroom) w) (by rw[if_neg (by omega),Qu]),
   .g [((.tmp 73),.slice (some ⟨bw,(i+1)*1,none⟩) ((n+1)-(i+1)) (c-(i+1))),((.tmp 76),.slice (some ⟨bw,i*1,none⟩) ((n+1)-i) (c-i))] (.call { callee:=.builtin .copy,args:=#[.tmp 73,.tmp 76],argTypes:=#[22,22] }) ((0,(bw,Qx (cur) 9))::[]) (fun _=>.int .i64 ((Uc ((n+1)-i) ((n+1)-(i+1)):Nat):Int)) (.turn 0 (.cells (zg (cur) ((i+1)*1) ((zb sS L).drop (i*1))) 9)) (qy (dT:=22) (sT:=22) (e:=9) (size:=1) kr kr (x:=(.tmp 73)) (y:=(.tmp 76)) (j:=0) (b:=bw) (off:=(i+1)*1) (dLen:=(n+1)-(i+1)) (dCap:=c-(i+1)) (sLen:=(n+1)-i) (sCap:=c-i) (a:=⟨bw,i*1,none⟩) (cur:=cur) (T:=9) (cs:=(zb sS L).drop (i*1)) (rd:=[]) (by rw[hdl];show _=min _ _*1;omega) (fun w hd=>qz hd.1 hsrcD) (by rw[hdl,hrw.sz];omega) (h1d))] H9 kr fun w10 H10=>?_
  have hsz1:(zg cur ((i+1)*1) ((zb sS L).drop (i*1))).size=c*1:=by rw[yp (by rw[hdl,hrw.sz];omega),hrw.sz]
  refine rS [.v,.v,.oe (ins:=[((.tmp 78),Qf bw (n+1) c),((.tmp 79),iN i)]) (v:=.slice (some ⟨bw,if c=i then 0 else 0+i*1,none⟩) ((n+1)-i) (c-i)) (v':=.slice (some ⟨bw,i*1,none⟩) ((n+1)-i) (c-i)) (fun ρ o w ho hi2=>zX (kz:=.i64) (t:=22) (e:=9) (size:=1) (bytes:=16) kr (x:=(.tmp 78)) (z:=(.tmp 79)) bw 0 (n+1) c i ho hi2.1 hi2.2.1 (by omega) (hroom) w) (by rw[if_neg (by omega),Qu]),.v,
   .g [((.tmp 80),.slice (some ⟨bw,i*1,none⟩) ((n+1)-i) (c-i)),((.tmp 81),Qf bv (1) (1))] (.call { callee:=.builtin .copy,args:=#[.tmp 80,.tmp 81],argTypes:=#[22,22] }) ((0,(bw,Qx (zg cur ((i+1)*1) ((zb sS L).drop (i*1))) 9))::[(1,(bv,sxO x))]) (fun _=>.int .i64 ((Uc (1) ((n+1)-i):Nat):Int)) (.turn 0 (.cells (zg (zg cur ((i+1)*1) ((zb sS L).drop (i*1))) (i*1) ([.string x])) 9 (0,0))) (qy (dT:=22) (sT:=22) (e:=9) (size:=1) kr kr (x:=(.tmp 80)) (y:=(.tmp 81)) (j:=0) (b:=bw) (off:=i*1) (dLen:=(n+1)-i) (dCap:=c-i) (sLen:=1) (sCap:=1) (a:=⟨bv,0,none⟩) (cur:=zg cur ((i+1)*1) ((zb sS L).drop (i*1))) (T:=9) (cs:=[.string x]) (rd:=[(1,(bv,sxO x))]) (by show 1=min _ _*1;omega) (fun w hd=>qz hd.2.1 (fun q v hq=>by rw[Qu,<-Rd];exact hq)) (by rw[hsz1,hxs];omega) (h1x))] H10 kr fun gs11 w11 H11=>?_
  refine rS [.v,.v] H11 kr fun gs12 w12 H12=>rRr [.tmp 6] [] (Qf bw (n+1) c) (zY B w0 Lr (L.take i++x::L.drop i)) H12 kr ?_;have hfin:Rw 1 (zg (zg cur ((i+1)*1) ((zb sS L).drop (i*1))) (i*1) [.string x]) c (n+1) (zb sS (L.take i++x::L.drop i)):=by
   refine⟨by rw[yo,hlen2];rfl,hroom,hmx,?_,by rw[yp (by rw[hsz1,hxs];omega),hsz1]⟩;rw[ecell];exact zbr hrw.sz hrw.take rfl hcl hxs hi hroom
  exact⟨Qg bw,n+1,c,_,rfl,.inr ⟨bw,_,rfl,rfl,hfin⟩,(H12.as (l:=(bw,.cells (zg (zg cur ((i+1)*1) ((zb sS L).drop (i*1))) (i*1) [.string x]) 9 (0,0))::(bv,sxO x)::Lr) kr).sub (QH _ (Qp ..))⟩
 ·refine rS [.v,.v,.E (.int .i64 (Qm.wrap ((n:Int)+1))) (iN (n+1)) (zf (zw (a:=n) (b:=1) (by omega))),.v,.v,.E (.bool (decide (((n+1:Nat):Int)>(c:Int)))) (.bool true) (za (decide_eq_true (by omega)))] H6 kr fun gs7 w7 H7=>yd kr kr ?_;have hm1:i+(n+1-i)=n+1:=by omega
  refine zo [0,1,2,3,4,5,6,7,8,9] kr kr<|rp [.v,.v,.o (ins:=[((.tmp 32),Qf bw n c),((.tmp 33),iN i)]) (v:=Qf bw i c) (fun ρ o w ho hi2=>qD (kd:=.i64) (t:=22) (e:=9) (size:=1) (bytes:=16) kr (x:=(.tmp 32)) (y:=(.tmp 33)) bw n c i ho hi2.1 hi2.2.1 (by omega) w),.v,.v,.E (.int .i64 (Qm.wrap ((n:Int)+1))) (iN (n+1)) (zf (zw (a:=n) (b:=1) (by omega))),.v,.E (.int .i64 (Qm.wrap (((n+1:Nat):Int)-(i:Int)))) (iN (n+1-i)) (zf (yv (by omega)))] H7 kr fun gs8 w8 H8=>wX [8,9] ?_;have H9:St B w0 w8 ((bw,.cells cur 9)::(bv,sxO x)::Lr):=H8.as kr;refine vo H9 (some 40) 22 3 9 1 16 .i64 (.tmp 34) (.tmp 39) 0 bw i c (n+1-i) cur ((zb sS L).take (i*1)) kr kr kr kr kr kr rfl (hrw.cut i (by omega)) (by omega) (by omega) (by omega) (by unfold maxLen;omega) ?_;intro b' cap' cur' w9 H10 hcp hcx hcs htk;rw[hm1]at hcp⊢;refine rp [.v] H10 kr fun gs9 w10 H11=>wX []<|zl ?_;have H12:St B w0 w10 ((b',.cells cur' 9)::(bw,.cells cur 9)::(bv,sxO x)::Lr):=H11.as kr;have hs1:(zg cur' (i*1) [.string x]).size=cap'*1:=by rw[yp (by rw[hcs,hxs];omega),hcs]
  refine rS [.v,.v,.oe (ins:=[((.tmp 41),Qf b' (n+1) cap'),((.tmp 42),iN i)]) (v:=.slice (some ⟨b',if cap'=i then 0 else 0+i*1,none⟩) ((n+1)-i) (cap'-i)) (v':=.slice (some ⟨b',i*1,none⟩) ((n+1)-i) (cap'-i)) (fun ρ o w ho hi2=>zX (kz:=.i64) (t:=22) (e:=9) (size:=1) (bytes:=16) kr (x:=(.tmp 41)) (z:=(.tmp 42)) b' 0 (n+1) cap' i ho hi2.1 hi2.2.1 (by omega) (hcp) w) (by rw[if_neg (by omega),Qu]),.v,
   .g [((.tmp 43),.slice (some ⟨b',i*1,none⟩) ((n+1)-i) (cap'-i)),((.tmp 44),Qf bv (1) (1))] (.call { callee:=.builtin .copy,args:=#[.tmp 43,.tmp 44],argTypes:=#[22,22] }) ((0,(b',Qx (cur') 9))::[(2,(bv,sxO x))]) (fun _=>.int .i64 ((Uc (1) ((n+1)-i):Nat):Int)) (.turn 0 (.cells (zg (cur') (i*1) ([.string x])) 9)) (qy (dT:=22) (sT:=22) (e:=9) (size:=1) kr kr (x:=(.tmp 43)) (y:=(.tmp 44)) (j:=0) (b:=b') (off:=i*1) (dLen:=(n+1)-i) (dCap:=cap'-i) (sLen:=1) (sCap:=1) (a:=⟨bv,0,none⟩) (cur:=cur') (T:=9) (cs:=[.string x]) (rd:=[(2,(bv,sxO x))]) (by show 1=min _ _*1;omega) (fun w hd=>qz hd.2.1 (fun q v hq=>by rw[Qu,<-Rd];exact hq)) (by rw[hcs,hxs];omega) (h1x))] H12 kr fun gs11 w11 H13=>?_
  refine dS [.v,.v,.v,.E (.int .i64 (Qm.wrap ((i:Int)+1))) (iN (i+1)) (zf (zw (a:=i) (b:=1) (by omega))),.oe (ins:=[((.tmp 46),Qf b' (n+1) cap'),((.tmp 49),iN (i+1))]) (v:=.slice (some ⟨b',if cap'=(i+1) then 0 else 0+(i+1)*1,none⟩) ((n+1)-(i+1)) (cap'-(i+1))) (v':=.slice (some ⟨b',(i+1)*1,none⟩) ((n+1)-(i+1)) (cap'-(i+1))) (fun ρ o w ho hi2=>zX (kz:=.i64) (t:=22) (e:=9) (size:=1) (bytes:=16) kr (x:=(.tmp 46)) (z:=(.tmp 49)) b' 0 (n+1) cap' (i+1) ho hi2.1 hi2.2.1 (by omega) (hcp) w) (by rw[if_neg (by omega),Qu]),.v,.v,.oe (ins:=[((.tmp 51),Qf bw n c),((.tmp 52),iN i)]) (v:=.slice (some ⟨bw,if c=i then 0 else 0+i*1,none⟩) (n-i) (c-i)) (v':=.slice (some ⟨bw,i*1,none⟩) (n-i) (c-i)) (fun ρ o w ho hi2=>zX (kz:=.i64) (t:=22) (e:=9) (size:=1) (bytes:=16) kr (x:=(.tmp 51)) (z:=(.tmp 52)) bw 0 n c i ho hi2.1 hi2.2.1 (by omega) (hle) w) (by rw[if_neg (by omega),Qu]),
   .g [((.tmp 50),.slice (some ⟨b',(i+1)*1,none⟩) ((n+1)-(i+1)) (cap'-(i+1))),((.tmp 53),.slice (some ⟨bw,i*1,none⟩) (n-i) (c-i))] (.call { callee:=.builtin .copy,args:=#[.tmp 50,.tmp 53],argTypes:=#[22,22] }) ((0,(b',Qx (zg cur' (i*1) [.string x]) 9))::[(1,(bw,.cells cur 9))]) (fun _=>.int .i64 ((Uc (n-i) ((n+1)-(i+1)):Nat):Int)) (.turn 0 (.cells (zg (zg cur' (i*1) [.string x]) ((i+1)*1) ((zb sS L).drop (i*1))) 9)) (qy (dT:=22) (sT:=22) (e:=9) (size:=1) kr kr (x:=(.tmp 50)) (y:=(.tmp 53)) (j:=0) (b:=b') (off:=(i+1)*1) (dLen:=(n+1)-(i+1)) (dCap:=cap'-(i+1)) (sLen:=n-i) (sCap:=c-i) (a:=⟨bw,i*1,none⟩) (cur:=zg cur' (i*1) [.string x]) (T:=9) (cs:=(zb sS L).drop (i*1)) (rd:=[(1,(bw,.cells cur 9))]) (by rw[hdl];show _=min _ _*1;omega) (fun w hd=>qz hd.2.1 hsrcD) (by rw[hdl,hs1];omega) (h1d))] H13 kr fun w12 H14=>?_
  refine rS [.v,.v] H14 kr fun gs12 w13 H15=>rRr [.tmp 6] [] (Qf b' (n+1) cap') (zY B w0 Lr (L.take i++x::L.drop i)) H15 kr ?_;have hfin:Rw 1 (zg (zg cur' (i*1) [.string x]) ((i+1)*1) ((zb sS L).drop (i*1))) cap' (n+1) (zb sS (L.take i++x::L.drop i)):=by
   refine⟨by rw[yo,hlen2];rfl,hcp,hcx,?_,by rw[yp (by rw[hs1,hdl];omega),hs1]⟩;rw[ecell];exact zbs hcs htk hcl hxs hdl hi hcp
  exact⟨Qg b',n+1,cap',_,rfl,.inr ⟨b',_,rfl,rfl,hfin⟩,(H15.as (l:=(b',.cells (zg (zg cur' (i*1) [.string x]) ((i+1)*1) ((zb sS L).drop (i*1))) 9)::(bw,.cells cur 9)::(bv,sxO x)::Lr) kr).sub (QH _ ((Qp ..).trans (Qp ..)))⟩
theorem kq (p:Qc)(n c:Nat)(L:Qi)(x:Qa)(i bv:Nat)(row Lr:Qb){B:Nat}{w0 w:World}(hrow:zz sS 9 p n c row L)(h:St B w0 w (row++((bv,sxO x)::Lr)))(hi:i<=n)(hL:L.length<=1000000):
 Calls Try.prog 52 #[.slice p n c,iN i,Qf bv 1 1] w fun e w'=> ∃v,e=.returned v/\zY B w0 Lr (L.take i++x::L.drop i) v w':=by
 have hlen:=hrow.len;by_cases e:i=n
 ·subst e;rw[QA (by omega),Qz (by omega)];exact zbq p i c L x bv row Lr hrow h hL
 ·rcases hrow with⟨rfl,rfl,rfl,rfl,rfl⟩|⟨bw,cur,rfl,rfl,hrw⟩
  ·omega
  ·exact zbu bw n c cur L x i bv Lr hrw h (by omega) (by omega)
end
end Go.Proofs.Ytdlllbaejgoncaa
