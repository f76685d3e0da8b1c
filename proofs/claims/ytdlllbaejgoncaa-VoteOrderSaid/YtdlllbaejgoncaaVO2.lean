/-
  Texts of the proof,part 2.
-/
import Derived.Deep.Upon
import Derived.Test.YtdlllbaejgoncaaRows
import Derived.ChangeArms
import Derived.ChangeSlices
import Derived.OpenShut
import Derived.Deep.Strs
import Derived.DataReads
import Derived.ProofKit
import Derived.WalkKit
import Derived.Below
import Derived.KernelRfl
import Derived.Test.YtdlllbaejgoncaaProg
import Derived.Handy
import Derived.WalkLawsBesides
import Derived.Shelf.Spec.BitsCarry
import Derived.Shelf.Bits.Mul64
import Derived.Laws.Bits64b
import Derived.Lib.BitFns
import Derived.Shelf.Strconv.Itoa0
import Derived.Lib.Hide
import Derived.Laws.StructEq
import Derived.ChangeKeysEq
import Derived.Test.YtdlllbaejgoncaaChecked
import Derived.Laws.IdiomArrays
import Derived.Lib.AppendStr
import Derived.Lib.Builder
import Derived.Recover
import Derived.Laws.BitsLemmas
import Derived.Laws.BitsAllLaws
import Derived.Laws.BytesArg
import Derived.Laws.Externs
import Derived.Test.YtdlllbaejgoncaaVO1
set_option maxRecDepth 100000
set_option maxHeartbeats 4000000
set_option linter.unusedVariables false
open Go Go.RowKit
open Bool renaming and_eq_true->Qk,false_ne_true->QL,eq_false_iff->QM,true_and->Ri,or_eq_true->RG,false_or->RR,eq_iff_iff->Uj,and_false->UF
open DataW renaming trod->Rz
open Instr renaming sliceBounds->Uc,sliceBound->Uh,sliceAt->Ur,slice->UC
open IntKind renaming i64->Qm
open List renaming getElem?_eq_getElem->Qj,getElem?_eq_some_iff->Qp,take_of_length_le->Qv,length_take->Qw,sublist_cons_self->Qx,range->Qy,sublist_append_right->QA,drop_of_length_le->QC,length_append->QF,pairwise_cons->QH,map_cons->QI,mem_cons->QJ,mem_cons_self->QK,perm_append_comm_assoc->QP,getElem?_eq_none->QZ,mem_cons_of_mem->Q4,filter_append->Q5,filter_cons->Q6,filter_eq_self->Q7,mem_filter->Ra,append_assoc->Rd,filter_cons_of_neg->Rg,length_cons->Ro,append_nil->Rr,not_mem_nil->Rs,foldl_cons->Rv,nodup_cons->RF,length_filter_le->RI,filter_sublist->RK,length_drop->RL,mem_singleton->RP,filter_cons_of_pos->RV,take_take->R3,nil_append->R4,mem_append->R8,getElem?_drop->Ub
open List.Pairwise renaming filter->RA
open List.Perm renaming swap->Ue,cons->Ug
open List.Sublist renaming cons_cons->QS,append->Rn,refl->Rt
open Nat renaming eq_of_beq_eq_true->Ql,beq->Qn,le_refl->Qs,zero_add->Qt,beq_refl->Q0,le_trans->Rb,zero_le->Rf,min_eq_left->Rl,min->R7,add_zero->Uk,not_lt_zero->Uo,lt_irrefl->Up,lt_or_ge->UE
open Obj renaming cells->QB
open Op renaming bytesLess->RB,equalIn->Uv
open Option renaming some->QX
open Prod renaming ext->Uw
open Result renaming andThen_ok->Qz
open Sem renaming run_bind->QO,run_pure->RO
open UInt8 renaming ofNat->Uz
open Value renaming okWide->Ut
open World renaming cell?->RS,frozen?->Ul,shape?->Us
open _root_.Array renaming length_toList->QD,getElem?_toList->Q9
open _root_.ByteArray renaming size->Qq
namespace Go.Proofs.Ytdlllbaejgoncaa
def sS:Fl Qa where
 K:=1
 cs x:=[.string x]
 pos:=by decide
 len _:=rfl
 one _:=fun u hu=>by obtain rfl:=RP.1 hu;rfl
theorem zv {P:Program}{ρ:Env}{t e:TypeId}{K bytes:Nat}(ht:zU P t=some (e,K,bytes)){x y:Operand}{o:Oper}{kd:IntKind}{p:Qc}(b q n c k:Nat)(hp:p=some ⟨b,q,none⟩)(ho:o.op=.indexAddr t x y)(hx:ev ρ x=.slice p n c)(hy:ev ρ y=.int kd (k:Int))(hk:k<n):
 ∀w,(execOp (ev ρ) o).run P w=.ok (.value (.pointer (some ⟨b,q+k*K,none⟩))) w:=by
 subst hp;exact kK ht b q n c k ho hx hy hk
section
variable {α:Type}{S:Fl α}
def AtF (S:Fl α)(w:World)(p:Qc)(n:Nat)(L:List α):Prop:=n=L.length/\(L=[]\/∃b off C T fz,p=some ⟨b,off,none⟩/\w.heap[b]? =some (.cells C T fz)/\qn S C off L)
theorem AtF.call {w w':World}{p:Qc}{n:Nat}{L:List α}(h:AtF S w p n L)(hb:Below w.heap.size w w'):AtF S w' p n L:=by
 obtain⟨h1,h2⟩:=h;refine⟨h1,h2.imp id ?_⟩;rintro⟨b,off,C,T,fz,e,hh,hr⟩;exact⟨b,off,C,T,fz,e,by rw[hb.block b (zk hh)];exact hh,hr⟩
theorem AtF.take {w:World}{p:Qc}{n:Nat}{L:List α}(h:AtF S w p n L)(k:Nat)(hk:k<=n):AtF S w p k (L.take k):=by
 obtain⟨h1,h2⟩:=h;refine⟨by rw[Qw];omega,?_⟩;rcases h2 with rfl|⟨b,off,C,T,fz,e,hh,hr⟩
 ·exact .inl (by simp)
 ·exact .inr ⟨b,off,C,T,fz,e,hh,hr.take k⟩
theorem zz.atF {ty:TypeId}{p:Qc}{n c:Nat}{row:Qb}{L:List α}(h:zz S ty p n c row L){B:Nat}{w0 w:World}{l:Qb}(hS:St B w0 w l)(hl: ∀e∈row,e∈l):AtF S w p n L:=by
 rcases h with⟨rfl,rfl,rfl,rfl,rfl⟩|⟨b,cur,rfl,rfl,hr⟩
 ·exact⟨rfl,.inl rfl⟩
 ·exact⟨hr.lenF.symm,.inr ⟨b,0,cur,ty,(0,0),rfl,(hS.own _ (hl _ (RP.2 rfl))).2,hr.rowAt⟩⟩
def qp (p:Qc)(n c:Nat):Prop:=(p=none/\n=0/\c=0)\/((∃a,p=some a)/\n<=c)
theorem vw {P:Program}{ρ:Env}{t e:TypeId}{size bytes:Nat}(ht:zU P t=some (e,size,bytes)){x y:Operand}{o:Oper}{kd:IntKind}{p:Qc}{n c k:Nat}(h:qp p n c)(hk:k<=n)(ho:o.op=.slice t x none (some y) none)(hx:ev ρ x=.slice p n c)(hy:ev ρ y=.int kd (k:Int)):
 ∀w,(execOp (ev ρ) o).run P w=.ok (.value (.slice p k c)) w:=fun w=>by
 rcases h with⟨rfl,rfl,rfl⟩|⟨⟨a,rfl⟩,h2⟩
 ·obtain rfl:k=0:=by omega
  obtain⟨it,z,hu,hi,hz,hsz,hby,hzs,h0⟩:=yG ht;have hS:(sizeOf e).run P w=.ok size w:=by simp[sizeOf,typeInfo,hi,hsz]
  unfold execOp;simp[ho,hx,hy,Ur,UC,Uc,Uh,asIntOf,run_underlying hu,hS]
 ·exact zaw ht a n c k ho hx hy (by omega) w
theorem vx {P:Program}{ρ:Env}{w w0:World}{B:Nat}{bx n c mc e:Nat}{p:Qc}{row Z:Qb}{M0:List α}{y:α}(HS:St B w0 w ((bx,.cells (S.cs y).toArray e)::(row++Z)))(hrow:zz S e p n c row M0)
 {t bytes:Nat} {s x:Operand} {o:Oper} (ht:zU P t=some (e,S.K,bytes)) (ho:o.op=yZ t s x) (hs:ev ρ s=.slice p n c) (hx:ev ρ x=Qf bx 1 mc) (hb:(n+1)*bytes<=0x800000000000) (hm:n+1<=maxLen):
 ∃b' cap' cur' w',(execOp (ev ρ) o).run P w=.ok (.value (Qf b' (n+1) cap')) w'/\St B w0 w' ((b',.cells cur' e)::Z)/\Rw S.K cur' cap' (n+1) (zb S (M0++ [y])):=by
 have hY:(S.cs y).toArray.size=S.K:=by rw[List.size_toArray,S.len]
 have hone: ∀u∈(S.cs y).toArray.toList,u.oneCell'=true:=fun u hu=>S.one y u (by simpa using hu);rcases hrow with⟨rfl,rfl,rfl,rfl,rfl⟩ | ⟨b,cur,rfl,rfl,hrw⟩
 ·obtain⟨b',cap',cur',w',hrun,HS',hr'⟩:=vo (k:=0) HS ht ho hs hx rfl hY hone hb;refine⟨b',cap',cur',w',hrun,HS'.sub (QS _ (Qx ..)),?_⟩;rw[jW];exact hr'
 ·obtain⟨b',cap',cur',w',hrun,HS',hr'⟩:=vn (j:=1) (k:=0) HS ht ho hs rfl hrw hx rfl hY hone hb hm;refine⟨b',cap',cur',w',hrun,HS'.sub (Qx ..),?_⟩;rw[jW];exact hr'
end
section
variable {P:Program}{N:Nat}{ops:Array Oper}{K:Env->World->Prop}{ρ:Env}{w w0:World}{i B:Nat}{r:List Nat}{l:Qb}
theorem qE (HS:St B w0 w l)(d:Option Nat)(V:Nat->Value)(C:Qd)(T:TypeId)(h:opv P ops i ρ w=some (d,true,.ok (.value (V w.heap.size)) (w.alloc (.cells C T))))(hd:dOK d N=true)
 (kk: ∀b w',St B w0 w' ((b,.cells C T)::l)->WPs P N ops K r (zo ρ d (V b)) w'):WPs P N ops K (i::r) ρ w:=by
 obtain⟨o,ho,rfl,hw,hr⟩:=zX h;refine WPo.run ho hw fun a ha=>?_;rw[hr,Oper.upon_value];exact⟨_,ha.put _ (zP hd) _,kk w.heap.size _ (HS.alloc _)⟩
end
section
open Go.ChangeShapes Go.WideShapes Go.ChangeAt
theorem zaC {C:Qd}{o m:Nat}{l:List Value}(hl:l.length=m)(hm:0<m)(h: ∀j,j<m->C[o+j]? =l[j]?):o+m<=C.size/\C.extract o (o+m)=l.toArray:=by
 have hs:o+m<=C.size:=by
  have h1:=h (m-1) (by omega);rw[Qj (by omega)]at h1;have:=(Array.getElem?_eq_some_iff.1 h1).1;omega
 refine⟨hs,?_⟩;apply Array.toList_inj.1;apply List.ext_getElem?;intro i;rw[Q9,Array.getElem?_extract,List.toList_toArray];by_cases hi:i<m
 ·rw[if_pos (by omega),h i hi]
 ·rw[if_neg (by omega),QZ (by omega)]
section
variable {H:Type}{enc:TypeId×Value->H}{W:World}{sp:Nat->Bool}{held:Bool}
theorem zaD {a:Addr}{v:Value}(h:W.cell? a=some v):a=⟨a.block,a.off,none⟩/\∃C T fz,W.heap[a.block]? =some (.cells C T fz)/\C[a.off]? =some v:=by
 obtain⟨b,o,sp⟩:=a;unfold RS at h;split at h
 ·rename_i C T fz hh
  cases sp with
  | none=>simp at h;exact⟨rfl,C,T,fz,hh,h⟩
  | some x=>simp at h
 ·cases h
theorem zaE {b o:Nat}{C:Qd}{T:TypeId}{fz:Nat×Nat}{v:Option Value}(hh:W.heap[b]? =some (.cells C T fz))(h:W.cell? ⟨b,o,none⟩=v):C[o]? =v:=by
 unfold RS at h;simp only[hh]at h;simpa using h
theorem vy {α:Type}{S:Fl α}{ok:α->Prop}{st et:TypeId}(hst:Try.prog.underlying st=some (.slice et))(hc:Try.prog.cellsOf et=S.K)(hone: ∀(fuel:Nat) (cs:List Value) (x:DataW H×List MemPlace),Rz enc Try.prog W 0 sp held fuel et cs=some x->∃a:α,cs=S.cs a/\ok a)
 {fuel:Nat} {c0:Value} {x:DataW H×List MemPlace} (hf:Rz enc Try.prog W 0 sp held fuel st [c0]=some x):
 ∃(q:Qc) (n c:Nat) (L:List α),c0=.slice q n c/\qp q n c/\(∀x∈L,ok x)/\AtF S W q n L:=by
 rcases DataW.trod_slice hst hf with⟨hc,hx⟩|⟨a,len0,cap0,elems,rest,n',rfl,hc',hx,_,hlc,hcm,hel,hels,_,_⟩
 ·obtain rfl:c0=.slice none 0 0:=by simpa using hc
  exact⟨none,0,0,[],rfl,.inl ⟨rfl,rfl,rfl⟩,(fun _ h=>nomatch h),rfl,.inl rfl⟩
 ·obtain rfl:c0=.slice (some a) len0 cap0:=by simpa using hc'
  have rows: ∀q,q<=len0->∃L:List α,L.length=q/\(∀x∈L,ok x)/\ ∀(i:Nat) (z:α),L[i]? =some z->W.cells? 0 (a.add (i*S.K)) S.K=some (S.cs z):=by
   intro q
   induction q with
   | zero=>exact fun _=>⟨[],rfl,(fun _ h=>nomatch h),fun i z h=>by simp at h⟩
   | succ q ihq=>
    intro hq;obtain⟨L,hL,hk,hcc⟩:=ihq (by omega);have hi:=hels q (by omega);rw[hc]at hi;have hlt:q<elems.length:=by omega
    rw[Qj hlt]at hi;obtain⟨cs',hcs,ht⟩:=Option.bind_eq_some_iff.1 hi;obtain⟨nd,rfl,hnd⟩:=hone n' cs' _ ht;refine⟨L++ [nd],by simp[hL],fun x hx=>?_,fun i z hz=>?_⟩
    ·rcases R8.1 hx with hx|hx
     ·exact hk x hx
     ·rw[RP.1 hx];exact hnd
    by_cases hiq:i<L.length
    ·rw[List.getElem?_append_left hiq]at hz;exact hcc i z hz
    ·rw[List.getElem?_append_right (by omega)]at hz;have:i-L.length=0:=by
      have:=(Qp.1 hz).1;simp at this;omega
     rw[this]at hz;simp at hz;subst hz;obtain rfl:i=q:=by omega
     exact hcs
  obtain⟨L,hL,hk,hcl⟩:=rows len0 (Qs _);refine⟨some a,len0,cap0,L,rfl,.inr ⟨⟨a,rfl⟩,hlc⟩,hk,hL.symm,?_⟩;cases L with
  | nil=>exact .inl rfl
  | cons z0 L0=>
   have f0:=(World.cells?_some (hcl 0 z0 rfl)).2.2 0 S.pos;rw[Nat.zero_mul]at f0;have e0:(a.add 0).add 0=a:=rfl;rw[e0,Qj (by rw[S.len];exact S.pos)]at f0;obtain⟨ea,C,T,fz,hh,hC0⟩:=zaD f0;refine .inr ⟨a.block,a.off,C,T,fz,congrArg some ea,hh,fun i z hz=>?_⟩;refine zaC (S.len z) S.pos fun j hj=>?_;have h9:=(World.cells?_some (hcl i z hz)).2.2 j hj;rw[ea,yO,yO]at h9;exact zaE hh h9
end
end
def big:Nat:=0x10000000000000000000000000000000000000000000000000000000000000000
end Go.Proofs.Ytdlllbaejgoncaa
namespace Go.Proofs.Ec
section
variable {F:Type}[Lean.Grind.Field F]
variable [DecidableEq F]
end
end Go.Proofs.Ec
namespace Go.Proofs.Ytdlllbaejgoncaa
def PrP (p:Nat):Prop:=1<p/\ ∀d,d∣p->d=1\/d=p
theorem zaF {n:Nat} : ∀k,(∃d,1<d/\d<=k/\d∣n)->∃r,1<r/\r∣n/\ ∀d,1<d->d∣n->r<=d
 | 0,⟨d,h1,h2,_⟩=>by omega
 | k+1,⟨d,h1,h2,h3⟩=>by
  by_cases h:∃d,1<d/\d<=k/\d∣n
  ·exact zaF k h
  ·have hd:d=k+1:=by
    rcases UE k d with h' | h'
    ·omega
    ·exact absurd ⟨d,h1,h',h3⟩ h
   refine⟨d,h1,h3,fun e he hen=>?_⟩;rcases UE e d with h' | h'
   ·exact absurd ⟨e,he,by omega,hen⟩ h
   ·exact h'
def row (a r:Nat):Nat->List Nat
 | 0=>[]
 | n+1=>a*(n+1)%r::row a r n
end Go.Proofs.Ytdlllbaejgoncaa
namespace Go.Proofs.Zm
open Go.Proofs.Ytdlllbaejgoncaa
class PrM (M:Nat):Prop where
 pr:PrP M
 two:2<M
section
variable {M:Nat}[hM:PrM M]
end
end Go.Proofs.Zm
namespace Go.Proofs.Ytdlllbaejgoncaa
section
open Go.ChangeShapes Go.WideShapes Go.ChangeAt
end
def rs (L H M:Nat):Nat:=(L+big*H)%M
end Go.Proofs.Ytdlllbaejgoncaa
namespace Go.Proofs.Ec
open Go.Proofs.Ytdlllbaejgoncaa Go.Proofs.Zm
section
variable {F:Type}[Lean.Grind.Field F][DecidableEq F]
structure zaG (b:F):Prop where
 two:(2:F)≠0
 three:(3:F)≠0
 b:b≠0
variable {b:F}(g:zaG b)
include g
end
end Go.Proofs.Ec
namespace Go.Proofs.Ytdlllbaejgoncaa
section
open Go.ChangeShapes Go.WideShapes Go.ChangeAt
end
section
open Go.ChangeShapes Go.WideShapes Go.ChangeAt Go.Shelf
end
def len (A:Nat):Nat:=if A=0 then 0 else Nat.log2 A+1
section
open Go.ChangeShapes Go.WideShapes Go.ChangeAt
end
section
def vl:List Nat->Nat
 | []=>0
 | d::r=>d+65536*vl r
open Go
def ls (x y:List Nat):Bool:=decide (vl x<vl y)
end
section
variable {P:Program}{N:Nat}{ops:Array Oper}{i:Nat}{r:List Nat}{K:Env->World->Prop}{ρ:Env}{w:World}{B:Nat}{w0:World}{l:Qb}
end
namespace D2
section
variable {P:Program}{ops:Array Oper}{R:(Nat->Gh)->Env}{i:Nat}{d:Option Nat}
variable {E:(Nat->Bool)->(Nat->Gh)->List Ent}{F:(Nat->Bool)->(Nat->Gh)->Prop}{B:Nat}{w0:World}
end
end D2
section
open Go.ChangeShapes Go.WideShapes Go.ChangeAt
end
inductive Fo
 | nil
 | cons (l:Bool) (s:Qa) (k r:Fo)
def dgI:Nat->Nat->List UInt8
 | 0,_=>[]
 | m+1,n=>if n=0 then [] else dgI m (n / 256)++ [Uz n]
def dg (n:Nat):List UInt8:=dgI 8 n
def hd (f n:Nat):List UInt8:=if n<=55 then [Uz (f+n)] else Uz (f+55+(dg n).length)::dg n
section
variable {l:Bool}{s:Qa}{n y:Nat}{k:Fo}
end
section
variable {P:Program}{N:Nat}{ops:Array Oper}{i:Nat}{r:List Nat}{K:Env->World->Prop}{ρ:Env}{w:World}{w0:World}{l E:Qb}
end
section
variable {P:Program}{ops:Array Oper}{R:(Nat->D2.Gh)->Env}{i:Nat}{d:Option Nat}{w0:World}{p:Nat}{T e:TypeId}{out':List UInt8}{bx:Nat×Obj}{E:Qb}{q:Nat}
end
section
variable {P:Program}{ops:Array Oper}{R:(Nat->D2.Gh)->Env}{i:Nat}{d:Option Nat}{w0:World}{l:Qb}{q:Nat}
end
structure X3 where
 l:Bool
 s:Qa
 p:Qc
 n:Nat
 c:Nat
 k:Fo
def val (l:List UInt8):Nat:=l.foldl (fun n b=>n*256+b.toNat) 0
theorem rwB (s:Qa)(h:Qq s<=maxLen):Rw 1 (yf (tl s)).toArray (Qq s) (Qq s) (yf (tl s)):=
 ⟨by rw[jU,jT];omega,Qs _,h,by rw[Qv (by simp[jU,jT])],by simp[jU,jT]⟩
theorem zaH {P:Program}{ρ:Env}{t e:TypeId}{bytes:Nat}(ht:zU P t=some (e,1,bytes)){x y:Operand}{o:Oper}{kd:IntKind}(b n c:Nat)(ho:o.op=.indexAddr t x y)(hx:ev ρ x=Qf b n c)(hy:ev ρ y=.int kd 0)(hk:0<n):
 ∀w,(execOp (ev ρ) o).run P w=.ok (.value (Qe b)) w:=fun w=>
 kK (P:=P) (kd:=kd) ht b 0 n c 0 ho hx hy hk w
theorem zaI (s:Qa)(hs:Qq s<=1000000):Fn Try.prog 47 #[.string s] (.string s):=by
 refine Fn.intro (c:=zu Try.f47) [.tmp 2] 18 Try.func47 kr kr kr fun w=>?_;have H0:=St.start w;refine zp [0] kr kr<|zZ (some 2) (.string (⟨#[]⟩)) (fun w=>by kernel_rfl) kr<|zm<|zf kr<|zp [0,1,2] kr kr<|zZ (some 4) (.string s) (fun w=>by kernel_rfl) kr<|zZ (some 5) (.int .i64 (Qq s:Int)) (fun w=>by kernel_rfl) kr ?_;by_cases hc1:(Qq s:Nat)=0
 ·refine xw (some 6) (.bool ((Qq s:Int)==0)) (.bool true) (fun w=>by kernel_rfl) (za (beq_iff_eq.2 (by omega))) kr<|zm<|zY kr kr<|zp [0] kr kr<|zZ (some 2) (.string (⟨#[]⟩)) (fun w=>by kernel_rfl) kr<|zm<|jf kr<|wV ?_;refine⟨[.string (⟨#[]⟩)],(.tmp (.string (⟨#[]⟩)) kr .nil),?_,H0.below⟩;exact congrArg Value.string (vk (List.eq_nil_of_length_eq_zero (by rw[jT];omega):tl s=[]).symm)
 ·refine xw (some 6) (.bool ((Qq s:Int)==0)) (.bool false) (fun w=>by kernel_rfl) (za (beq_eq_false_iff_ne.2 (by omega))) kr<|zm<|zQ kr kr<|zT kr<|wW<|zp [0,1,2,3] kr kr<|zZ (some 7) (.string s) (fun w=>by kernel_rfl) kr<|zZ (some 8) (.int .i64 (Qq s:Int)) (fun w=>by kernel_rfl) kr<|zaq H0 (some 9) 69 5 1 (.int .u8 0) (.tmp 8) (.tmp 8) .i64 .i64 (Qq s) kr kr kr kr rfl kr kr (by omega) (by unfold maxLen;omega) ?_;intro b_1 cur_2 w1 H1 hr_3;clear H0;have hr_3z:Rw 1 cur_2 (Qq s) (Qq s) (yf (List.replicate (Qq s) 0)):=by rw[zat];exact hr_3
  refine zZ (some 3) (Qf b_1 (Qq s) (Qq s)) (fun w=>by kernel_rfl) kr<|zm<|zp [0,1,2] kr kr<|zZ (some 10) (Qf b_1 (Qq s) (Qq s)) (fun w=>by kernel_rfl) kr<|zZ (some 11) (.string s) (fun w=>by kernel_rfl) kr<|zau H1 (some 12) 69 9 5 1 (.tmp 10) (.tmp 11) 0 b_1 (Qq s) (Qq s) s cur_2 ((yf (tl s)).toArray) 5 [(b_1,QB ((yf (tl s)).toArray) 5)] kr kr kr kr kr kr (by omega) (Nat.le_of_eq (by have h:=hr_3z.sz;rw[h];omega)) (by rw[QC (by have h:=hr_3z.sz;rw[QD,h];omega),Rr]) kr ?_;intro w2 H2;clear H1;refine zm<|zp [0,1,2,3,4,5] kr kr<|zZ (some 13) (Qf b_1 (Qq s) (Qq s)) (fun w=>by kernel_rfl) kr<|zae (some 14) _ (Qe b_1) kr kr (fun o w ho=>zaH (kd:=.i64) (t:=69) (e:=5) (bytes:=1) kr (x:=(.tmp 13)) (y:=(.const (.int .i64 0))) b_1 (Qq s) (Qq s) ho kr kr (by omega) w)<|zZ (some 15) (Qf b_1 (Qq s) (Qq s)) (fun w=>by kernel_rfl) kr<|zZ (some 16) (.int .i64 (Qq s:Int)) (fun w=>by kernel_rfl) kr<|zav H2 (some 17) 70 3 5 (.tmp 14) (.tmp 16) (Qq s) (Qq s) (tl s) kr kr kr kr rfl kr kr (rwB s (by unfold maxLen;omega)) (by omega) (by omega) ?_;intro w3 H3;clear H2;refine zZ (some 2) (.string (qC (tl s))) (fun w=>by kernel_rfl) kr<|zm<|jf kr<|wV ?_;refine⟨[.string (qC (tl s))],(.tmp (.string (qC (tl s))) kr .nil),?_,H3.below⟩;rfl
theorem xR (s:Qa)(hs:Qq s<=1000000):Fn Try.prog 34 #[.string s] (.string s):=by
 refine Fn.intro (c:=zu Try.f34) [.tmp 2] 5 Try.func34 kr kr kr fun w=>?_;have H0:=St.start w;refine zp [0] kr kr<|zZ (some 2) (.string (⟨#[]⟩)) (fun w=>by kernel_rfl) kr<|zm<|zp [0,1,2] kr kr<|zZ (some 3) (.string s) (fun w=>by kernel_rfl) kr<|zaf H0 (some 4) 47 #[.string s] (.string s) (zaI s (by omega)) (fun w=>by kernel_rfl) kr ?_;intro w1 H1;clear H0;refine zZ (some 2) (.string s) (fun w=>by kernel_rfl) kr<|zm<|jf kr<|wV ?_;refine⟨[.string s],(.tmp (.string s) kr .nil),?_,H1.below⟩;rfl
section
variable {P:Program}{N:Nat}{ops:Array Oper}{i:Nat}{r:List Nat}{K:Env->World->Prop}{ρ:Env}{w:World}{B:Nat}{w0:World}{l:Qb}
end
section
variable {P:Program}{N:Nat}{ops:Array Oper}{Q:Exit->Env->World->Prop}{K:Env->World->Prop}{ρ:Env}{w:World}{i:Nat}{r:List Nat}{c:Code}
end
section
variable {P:Program}{N:Nat}{ops:Array Oper}{Q:Exit->Env->World->Prop}{K:Env->World->Prop}{ρ:Env}{w w0:World}{i B:Nat}{r:List Nat}{l:Qb}
end
namespace D2
section
variable {P:Program}{N:Nat}{ops:Array Oper}{Q:Exit->Env->World->Prop}{K:Env->World->Prop}{ρ:Env}{w:World}{vs:List (Option Nat×(Gh->Value))}{pre:(Nat->Bool)->(Nat->Gh)->World->Prop}{Bad:List PanicEntry->World->Prop}
end
end D2
section
variable {P:Program}{ρ:Env}{w w0:World}{B:Nat}{l:Qb}
end
section
variable {B:Nat}{w0:World}{t:Qa}{b2 b3 b4:Nat}{p:Qc}{n c:Nat}{row:Qb}{M:List X3}{L0:Qb}{L:Nat->Bool}{g:Nat->D2.Gh}{w:World}
end
section
variable {P:Program}{N:Nat}{ops:Array Oper}{Q:Exit->Env->World->Prop}{K:Env->World->Prop}{ρ:Env}{w:World}{i:Nat}{ds:List Deferred}
variable {c:Code}
end
section
variable {P:Program}{N:Nat}{ops:Array Oper}{ρ:Env}{w w':World}{i:Nat}{ds:List Deferred}{c:Code}{rest:List Nat}{a:Act}{cs:List Frame}
variable {Q:Exit->Act->List Frame->World->Prop}
end
section
variable {P:Program}{N:Nat}{ops:Array Oper}{ρ:Env}{w w':World}{i:Nat}{rest:List Nat}{a:Act}{Q:Exit->Act->World->Prop}
end
section
variable {P:Program}{N:Nat}{ops:Array Oper}{K:Env->World->Prop}{ρ:Env}{w w0:World}{i B:Nat}{r:List Nat}{l:Qb}
end
section
open D2 (Gh)
end
section
variable {B:Nat}{w0:World}{bq bf bk:Nat}{qO kO:Obj}{p:Qc}{i c:Nat}{row:Qb}{M:List (El (Nat×Qa))}{ok:El (Nat×Qa)->Qb->Prop}{T:Qb}{L:Nat->Bool}{g:Nat->D2.Gh}{w w':World}
end
section
variable {B:Nat}{w0:World}{bd b2 bo:Nat}{dO bO:Obj}{kv:Value}{cur:Qd}{N en:Nat}{row:Qb}{xs:List Value}{T:Qb}{L:Nat->Bool}{g:Nat->D2.Gh}{w:World}
end
section
section
variable {p H Q:Nat}
end
open Go Go.RowKit Go.Proofs.Zm
end
section
open Go.ChangeShapes Go.WideShapes Go.ChangeAt
end
end Go.Proofs.Ytdlllbaejgoncaa
namespace Go.Proofs.Kec
end Go.Proofs.Kec
namespace Go.Proofs.Ytdlllbaejgoncaa
namespace Ke
open Go.Proofs.Kec
end Ke
section
open Go.Proofs.Kec
end
section
open Go.Proofs.Kec Ke
end
section
open Go.ChangeShapes Go.WideShapes Go.ChangeAt
end
def hv:List UInt8->List UInt8
 | []=>[]
 | b::t=>(b >>> 4)::(b &&& 15)::hv t
def isP (l:List UInt8):Bool:=l.all fun b=>decide (b.toNat<=15)
def jn:List UInt8->List UInt8
 | a::b::t=>(a <<< 4 ||| b)::jn t
 | _=>[]
theorem qS {l:List Value}(h:l.all (·.oneCell')=true): ∀u∈l,u.oneCell'=true:=fun u hu=>List.all_eq_true.1 h u hu
def zd:List UInt8->List UInt8->Bool
 | [],[]=>false
 | [],_::_=>true
 | _::_,[]=>false
 | a::l,b::m=>if a.toNat<b.toNat then true else if a=b then zd l m else false
theorem zaJ (l:List UInt8):zd l []=false:=by cases l<;>rfl
theorem jr: ∀l:List UInt8,zd l l=false
 | []=>rfl
 | a::l=>by simp only[zd,Up,if_false,if_true];exact jr l
theorem vz {a b:UInt8}{l m:List UInt8}(h:zd (a::l) (b::m)=true):a.toNat<b.toNat\/(a=b/\zd l m=true):=by
 unfold zd at h;split at h
 ·rename_i q;exact .inl q
 ·split at h
  ·rename_i q;exact .inr ⟨q,h⟩
  ·cases h
theorem qF {x y z:List UInt8} :zd x y=true->zd y z=true->zd x z=true:=by
 induction x generalizing y z with
 | nil=>
  intro h1 h2;cases z with
  | nil=>rw[zaJ]at h2;cases h2
  | cons c z=>rfl
 | cons a x ih=>
  intro h1 h2;cases y with
  | nil=>cases h1
  | cons b y=>
   cases z with
   | nil=>cases h2
   | cons c z=>
    unfold zd;rcases vz h1 with q1 | ⟨rfl,q1⟩<;>rcases vz h2 with q2 | ⟨rfl,q2⟩
    ·rw[if_pos (by omega)]
    ·rw[if_pos q1]
    ·rw[if_pos q2]
    ·rw[if_neg (Up _),if_pos rfl];exact ih q1 q2
structure Nd where
 kind:Int
 part:Qa
 value:Qa
 kids:List Int
def kyB (l:List UInt8):Bool:=isP l&& !decide (l.length%2=1)
def kyS (l:List UInt8):Qa:=bif kyB l then qC (jn l) else ⟨#[]⟩
theorem zR {P:Program}{ρ:Env}{t e:TypeId}{size bytes:Nat}(ht:zU P t=some (e,size,bytes)){x z:Operand}{o:Oper}{kz:IntKind}(b q n c j:Nat)(ho:o.op=.slice t x (some z) none none)(hx:ev ρ x=.slice (some ⟨b,q,none⟩) n c)
 (hz:ev ρ z=.int kz (j:Int)) (hj:j<=n) (hn:n<=c):
 ∀w,(execOp (ev ρ) o).run P w=.ok (.value (.slice (some ⟨b,if c=j then q else q+j*size,none⟩) (n-j) (c-j))) w:=fun w=>by
 obtain⟨it,z',hu,hi,hz',hsz,hby,hzs,h0⟩:=yG ht;have hS:(sizeOf e).run P w=.ok size w:=by simp[sizeOf,typeInfo,hi,hsz]
 unfold execOp;by_cases hc:c=j
 ·have hnj:n=j:=by omega
  subst hc hnj;simp[ho,hx,hz,Ur,UC,Uc,Uh,asIntOf,run_underlying hu,hS]
 ·simp[ho,hx,hz,Ur,UC,Uc,Uh,asIntOf,run_underlying hu,hS,hj,yO,hc]
section
variable {P:Program}{N:Nat}{ops:Array Oper}{i:Nat}{r:List Nat}{K:Env->World->Prop}{ρ:Env}{w:World}
end
abbrev Pr:=Qa×Qa
def zaK (k v:Qa):Bool:=(decide (1<=k.size)&&decide (k.size<=32))&&(decide (1<=v.size)&&decide (v.size<=500))
def zaL (part:List UInt8)(v:Qa)(ps:List Pr):List Pr:=if zaK (kyS part) v=true then ps++ [(kyS part,v)] else ps
def zaM (kind:Int)(i:Nat):List UInt8:=if kind=3 then [Uz i] else []
def xS (go:Int->List UInt8->Nat×List Pr->Nat×List Pr)(x:Nd)(part:List UInt8):Nat->Nat×List Pr->Nat×List Pr
 | 0,s=>s
 | i+1,s=>if x.kids.getD i (-1)= -1 then xS go x part i s else go (x.kids.getD i (-1)) (part++zaM x.kind i) (xS go x part i s)
def vA (A:List Nd):Nat->Int->List UInt8->Nat×List Pr->Nat×List Pr
 | 0,_,_,s=>s
 | f+1,at_,ahead,s=>
  if s.1=0\/at_<0\/(A.length:Int)<=at_ then s
  else match A[at_.toNat]? with
   | none=>s
   | some x=>if 64<ahead.length+x.part.size then (s.1-1,s.2)
    else xS (vA A f) x (ahead++tl x.part) 16 (s.1-1,zaL (ahead++tl x.part) x.value s.2)
section
variable {P:Program}{N:Nat}{ops:Array Oper}{i:Nat}{r:List Nat}{K:Env->World->Prop}{ρ:Env}{w:World}
end
theorem vB: ∀x y:List UInt8,RB x y=zd x y
 | [],[]=>rfl
 | [],_::_=>rfl
 | _::_,[]=>rfl
 | a::x,b::y=>by
  unfold RB zd;rw[vB x y];by_cases h:a.toNat<b.toNat
  ·rw[if_pos h,decide_eq_true (show a<b from h)];rfl
  ·rw[if_neg h,decide_eq_false (show ¬a<b from h)];by_cases e:a=b
   ·rw[if_pos e,e];simp
   ·rw[if_neg e];simp[e]
theorem jX (a b:Qa):RB a.toList b.toList=zd (tl a) (tl b):=by
 rw[ByteArray.toList_eq,ByteArray.toList_eq];exact vB _ _
def zbZ (A:List Nd)(root:Int):List Pr:=(vA A 192 root [] (192,[])).2
theorem ya {α:Type}{L:List α}{i:Nat}{a:α}(ha:L[i]? =some a):L.take (i+1)=L.take i++ [a]:=by
 rw[List.take_add_one,ha];rfl
def upB:Option Qa->Qa->Bool
 | none,_=>true
 | some p,a=>zd (tl p) (tl a)
theorem qT {α:Type}{L:List α}{i:Nat}{x:α}(h:L[i]? =some x):L.drop i=x::L.drop (i+1):=by
 obtain⟨hi,rfl⟩:=Qp.1 h;exact(List.getElem_cons_drop (h:=hi)).symm
def yB:Option Qa->Qi->Bool
 | _,[]=>true
 | p,a::r=>decide (a.size=20)&&(upB p a&&yB (some a) r)
def yg (L:Qi):Bool:=yB none L&&(decide (0<L.length)&&decide (L.length<=16))
theorem isK {l:List (Nat×Value)}{ρ:Env}(h:l.map (fun p=>ρ p.1)=l.map (·.2):=by kernel_rfl):Is l ρ:=by
 refine Is.of ?_
 induction l with
 | nil=>trivial
 | cons p r ih=>
  simp only[QI,List.cons.injEq]at h;exact⟨h.1,ih h.2⟩
section
variable {P:Program}{N:Nat}{c:Code}{Q:Exit->Env->World->Prop}{ρ:Env}{w:World}
theorem zx (k:Q .normal ρ w)(h:(qK c&&jH (jF c))=true:=by kernel_rfl)(hx:ev ρ (qx c)=.bool false:=by kernel_rfl):WP P N c Q ρ w:=by
 rw[Qk]at h;exact zQ h.1 hx (zT h.2 k)
theorem zy (k:WP P N (jE c) Q ρ w)(h:qK c=true:=by kernel_rfl)(hx:ev ρ (qx c)=.bool true:=by kernel_rfl):WP P N c Q ρ w:=zY h hx k
def xT (c:Code):Code:=qg (qg c)
def jY (c:Code):Code:=zD (xT c)
def yC (c:Code):Code:=ys (xT c)
def xU (c:Code):Code:=qg (zD (ys (yC c)))
def jt (c:Code):Code:=ys (ys (yC c))
def ju (n:Nat):Code->Bool
 | .region _ ops d=>Qn ops.size n&& !d
 | _=>false
theorem vC {n:Nat}{c:Code}(h:ju n c=true):∃id,c=.region id (zc c) false/\Qy (zc c).size=Qy n:=by
 cases c with
 | region id ops d=>
  cases d with
  | true=>simp[ju]at h
  | false=>
   simp only[ju,Bool.not_false,Bool.and_true]at h;exact⟨id,rfl,congrArg Qy (Ql h)⟩
 | _=>cases h
def jZ (a:Option Nat)(b:Nat):Bool:=match a with
 | some x=>Qn x b
 | none=>false
theorem xW {a:Option Nat}{b:Nat}(h:jZ a b=true):a=some b:=by
 cases a with
 | none=>cases h
 | some x=>exact congrArg some (Ql h)
def xX (nt ni b0 b1 tc:Nat)(c:Code):Bool:=
 jZ (jG c) b0&&(xt (qg c)&&(yt (xT c)&&(ju nt (jY c)&&(yt (yC c)&&(qK (zD (yC c))&&(jH (jE (zD (yC c)))&&(jZ (xu (jF (zD (yC c)))) b0&&(yt (ys (yC c))&&(jZ (jG (zD (ys (yC c)))) b1&&ju ni (jt c))))))))))
abbrev vD (ti b0 b1:Nat)(inc:Env->Env)(I:Nat->Env->World->Prop)(Q:Exit->Env->World->Prop)(i:Nat):Exit->Env->World->Prop
 | .normal,ρ,w=>ρ ti=iN i/\I (i+1) (inc ρ) w
 | .exit k,ρ,w=>bif Qn k b1 then ρ ti=iN i/\I (i+1) (inc ρ) w else bif Qn k b0 then Q .normal ρ w else Q (.exit k) ρ w
 | e,ρ,w=>Q e ρ w
theorem zaN {ti b0 b1 tc nt ni n:Nat}{tst:Nat->Env->Env}{inc:Nat->Env->Env}(I:Nat->Env->World->Prop)
 (hs:xX nt ni b0 b1 tc c=true) (hx:qx (zD (yC c))=.tmp tc)
 (hT: ∀i ρ w K,I i ρ w->K (tst i ρ) w->WPs P N (zc (jY c)) K (Qy nt) ρ w) (hv: ∀i ρ w,I i ρ w->tst i ρ tc=.bool (decide ((i:Int)<(n:Int))))
 (hJ: ∀i ρ w K,i<n->ρ ti=iN i->K (inc i ρ) w->WPs P N (zc (jt c)) K (Qy ni) ρ w)
 (h0:I 0 ρ w) (hb: ∀i ρ w,i<n->I i ρ w->WP P N (xU c) (vD ti b0 b1 (inc i) I Q i) (tst i ρ) w) (he: ∀ρ w,I n ρ w->Q .normal (tst n ρ) w):WP P N c Q ρ w:=by
 unfold xX at hs;simp only[Qk]at hs;obtain⟨s1,s2,s3,s4,s5,s6,s7,s8,s9,s10,s11⟩:=hs;obtain⟨id1,e1,l1⟩:=vC s4;obtain⟨id2,e2,l2⟩:=vC s11;refine yy b0 (xW s1)<|qN s2 (fun m ρ w=> ∃i,n-i=m/\i<=n/\I i ρ w) n ⟨0,rfl,Rf _,h0⟩ ?_;rintro m ρ w ⟨i,rfl,hin,hI⟩;refine zf s3 ?_;show WP P N (jY c) _ ρ w;rw[e1];refine WP.region _ l1<|hT i ρ w _ hI ?_;show WP P N (yC c) _ (tst i ρ) w;refine zf s5 ?_;have hval:=hv i ρ w hI;by_cases hi:i<n
 ·refine zY s6 (by rw[hx];show tst i ρ tc=_;rw[hval,decide_eq_true (by omega)])<|zT s7 ?_;show WP P N (ys (yC c)) _ (tst i ρ) w;refine zf s9<|yy b1 (xW s10) ?_;have hfin: ∀(Q3:Exit->Env->World->Prop) ρ' w',(ρ' ti=iN i/\I (i+1) (inc i ρ') w')->(∀e ρ w,Q3 e ρ w=Q3 e ρ w)->WP P N (jt c) (nx (fun ρ' w'=> ∃m,m<n-i/\∃i,n-i=m/\i<=n/\I i ρ' w') Q3) ρ' w':=fun Q3 ρ' w' h _=>by
   rw[e2];refine WP.region _ l2 ?_;exact hJ i ρ' w' _ hi h.1 ⟨n-(i+1),by omega,i+1,rfl,by omega,h.2⟩
  refine zad (hb i ρ w hi hI) fun e ρ' w' h=>?_;cases e with
  | normal=>exact hfin _ ρ' w' h fun _ _ _=>rfl
  | exit k=>
   show bif Qn k b1 then _ else _;change (bif Qn k b1 then _ else _)at h;cases hk:Qn k b1 with
   | true=>rw[hk]at h;exact hfin _ ρ' w' h fun _ _ _=>rfl
   | false=>rw[hk]at h;exact h
  | _=>exact h
 ·obtain rfl:i=n:=by omega
  refine zQ s6 (by rw[hx];show tst i ρ tc=_;rw[hval,decide_eq_false (by omega)])<|qM b0 (xW s8) ?_;show bif Qn b0 b0 then _ else _;rw[Q0];exact he ρ w hI
theorem yv (ti tn tc tj b0 b1 n:Nat)(hn:n<=0x4000000000000000)(I:Nat->Env->World->Prop)(hI: ∀i ρ w,I i ρ w->ρ ti=iN i/\ρ tn=iN n)
 (h0:I 0 ρ w) (hb: ∀i ρ w,i<n->I i ρ w->WP P N (xU c) (vD ti b0 b1 (fun ρ=>upd (upd ρ tj (iN (i+1))) ti (iN (i+1))) I Q i) (upd ρ tc (.bool true)) w)
 (he: ∀ρ w,I n ρ w->Q .normal (upd ρ tc (.bool false)) w)
 (hs:xX 1 2 b0 b1 tc c=true:=by kernel_rfl) (hx:qx (zD (yC c))=.tmp tc:=by kernel_rfl)
 (ht: ∀(ρ0:Env) (i:Nat) w,opv P (zc (jY c)) 0 (upd (upd ρ0 tn (iN n)) ti (iN i)) w=some (some tc,true,.ok (.value (.bool (decide ((i:Int)<(n:Int))))) w):=by exact fun ρ0 i w=>by kernel_rfl)
 (hj: ∀(ρ0:Env) (i:Nat) w,opv P (zc (jt c)) 0 (upd ρ0 ti (iN i)) w=some (some tj,true,.ok (.value (.int .i64 (Qm.wrap ((i:Int)+1)))) w):=by exact fun ρ0 i w=>by kernel_rfl)
 (hk: ∀(ρ0:Env) (v:Value) w,opv P (zc (jt c)) 1 (upd ρ0 tj v) w=some (some ti,true,.ok (.value v) w):=by exact fun ρ0 v w=>by kernel_rfl)
 (hd:(dOK (some tc) N&&(dOK (some tj) N&&dOK (some ti) N))=true:=by kernel_rfl):WP P N c Q ρ w:=by
 simp only[Qk]at hd;refine zaN (ti:=ti) (tst:=fun i ρ=>upd ρ tc (.bool (decide ((i:Int)<(n:Int))))) (inc:=fun i ρ=>upd (upd ρ tj (iN (i+1))) ti (iN (i+1))) (n:=n) I hs hx (fun i ρ w K h k=>?_) (fun i ρ w h=>?_) (fun i ρ w K hi h k=>?_) h0 (fun i ρ w hi h=>?_) (fun ρ w h=>?_)
 ·have e:upd (upd ρ tn (iN n)) ti (iN i)=ρ:=by rw[jg (hI i ρ w h).2,jg (hI i ρ w h).1]
  refine zZ (some tc) _ (fun w=>e▸ht ρ i w) hd.1 ?_;exact zm k
 ·show upd ρ tc _ tc=_;unfold upd;rw[Q0];rfl
 ·have e:upd ρ ti (iN i)=ρ:=jg h;refine xw (some tj) _ (iN (i+1)) (fun w=>e▸hj ρ i w) (zh (zB (a:=i) (b:=1) (by omega))) hd.2.1<|zZ (some ti) (iN (i+1)) (fun w=>hk ρ (iN (i+1)) w) hd.2.2 ?_;exact zm k
 ·show WP P N (xU c) _ (upd ρ tc (.bool (decide ((i:Int)<(n:Int))))) w;rw[decide_eq_true (show (i:Int)<(n:Int) by omega)];exact hb i ρ w hi h
 ·show Q .normal (upd ρ tc (.bool (decide ((n:Int)<(n:Int))))) w;rw[decide_eq_false (show ¬(n:Int)<(n:Int) by omega)];exact he ρ w h
end
theorem AtF.row2 {α:Type}{S:Fl α}{w:World}{p:Qc}{n:Nat}{L:List α}(h:AtF S w p n L)(hn:0<n):∃b off C T fz,p=some ⟨b,off,none⟩/\w.heap[b]? =some (.cells C T fz)/\qn S C off L:=by
 rcases h.2 with rfl|h2
 ·have:=h.1;simp at this;omega
 ·exact h2
def yP (L:Qi)(i:Nat):Option Qa:=if i=0 then none else L[i-1]?
theorem vE {L:Qi}{i:Nat}{x:Qa}(h:L[i]? =some x):yP L (i+1)=some x:=by
 unfold yP;rw[if_neg (by omega),Nat.add_sub_cancel,h]
section
open Go.ChangeShapes Go.WideShapes Go.ChangeAt
theorem vF:Try.prog.cellsOf 9=1:=kr
theorem zaO:Try.prog.cellsOf 4=1:=kr
theorem zaP:Try.prog.cellsOf 22=1:=kr
section
variable {H:Type}{enc:TypeId×Value->H}{W:World}{sp:Nat->Bool}{held:Bool}
theorem zaQ (fuel:Nat)(cs:List Value)(x:DataW H×List MemPlace)(h:Rz enc Try.prog W 0 sp held fuel 9 cs=some x):∃a:Qa,cs=sS.cs a/\a.size<=maxLen:=by
 obtain⟨s,e0,_,hs⟩:=DataW.trod_string Try.underlying9 h;exact⟨s,e0,hs⟩
end
end
abbrev Bal:=Qa×Qa×Bool
def blS:Fl Bal where
 K:=3
 cs x:=[.string x.1,.string x.2.1,.bool x.2.2]
 pos:=by decide
 len _:=rfl
 one a:=fun u hu=>by simp at hu;rcases hu with h | h | h<;>rw[h]<;>rfl
abbrev blV (x:Bal):Value:=.agg #[.string x.1,.string x.2.1,.bool x.2.2]
abbrev blC (x:Bal):Qd:=#[.string x.1,.string x.2.1,.bool x.2.2]
def zG (a:Qa):Qi->Bool
 | []=>false
 | x::r=>decide (x=a)||zG a r
theorem yQ {a:Qa} : ∀ {L:Qi},zG a L=true↔a∈L
 | []=>by simp[zG]
 | x::r=>by
  simp only[zG,RG,decide_eq_true_eq,yQ (L:=r),QJ];exact⟨fun h=>h.imp Eq.symm id,fun h=>h.imp Eq.symm id⟩
def zJ (b x:Bal):Bool:=decide (x.2.1=b.2.1)&&(x.2.2==b.2.2)
def zl (b:Bal)(V:List Bal):Nat:=(V.filter (zJ b)).length
theorem zaR (b:Bal)(V:List Bal)(x:Bal):zl b (V++ [x])=zl b V+if zJ b x=true then 1 else 0:=by
 unfold zl;rw[Q5,QF];congr 1;by_cases h:zJ b x=true
 ·rw[if_pos h,RV h];rfl
 ·rw[if_neg h,Rg h];rfl
theorem vG (b:Bal)(V:List Bal):zl b V<=V.length:=RI _ _
def zH (L:Qi)(b:Bal):Bool:=zG b.1 L&&(decide (b.2.1.size=20)&&(zG b.2.1 L !=b.2.2))
def aheadB (a b:Bal):Bool:=if a.2.1=b.2.1 then zd (tl a.1) (tl b.1) else zd (tl a.2.1) (tl b.2.1)
def yR:Option Bal->Bal->Bool
 | none,_=>true
 | some a,b=>aheadB a b
def xa (L:Qi)(V:List Bal):Option Bal->List Bal->Bool
 | _,[]=>true
 | p,b::r=>zH L b&&(yR p b&&(decide (2*zl b V<=L.length)&&xa L V (some b) r))
def yc (L:Qi)(V:List Bal):Bool:=xa L V none V&&yg L
def yh (V:List Bal)(i:Nat):Option Bal:=if i=0 then none else V[i-1]?
theorem zaS {V:List Bal}{i:Nat}{x:Bal}(h:V[i]? =some x):yh V (i+1)=some x:=by
 unfold yh;rw[if_neg (by omega),Nat.add_sub_cancel,h]
def zV (b:Bal)(s:List Bal×Bool)(x:Bal):List Bal×Bool:=if (!s.2&& !aheadB x b)=true then (s.1++ [b],true) else s
def yI (b:Bal)(s:List Bal×Bool)(x:Bal):List Bal×Bool:=(if x.2.1=b.2.1/\x.1=b.1 then s.1 else s.1++ [x],s.2)
def qH (b:Bal)(V:List Bal):List Bal×Bool:=V.foldl (fun s x=>yI b (zV b s x) x) ([],false)
def zj (b:Bal)(V:List Bal):List Bal:=if (qH b V).2=true then (qH b V).1 else (qH b V).1++ [b]
def zW (a:Qa)(s:Qi×Bool)(x:Qa):Qi×Bool:=if (!s.2&&zd (tl a) (tl x))=true then (s.1++ [a],true) else s
def yJ (a:Qa)(s:Qi×Bool)(x:Qa):Qi×Bool:=(if x=a then s.1 else s.1++ [x],s.2)
def qq (a:Qa)(add:Bool)(L:Qi):Qi×Bool:=L.foldl (fun s x=>yJ a (zW a s x) x) ([],!add)
def zF (a:Qa)(add:Bool)(L:Qi):Qi:=if (qq a add L).2=true then (qq a add L).1 else (qq a add L).1++ [a]
def yb (b x:Bal):Bool:=decide (x.2.1≠b.2.1)&&(b.2.2||decide (x.1≠b.2.1))
def zs (L:Qi)(V:List Bal)(b:Bal):Qi×List Bal×Nat:=
 if yc L V=false then ([],[],1)
 else if zH L b=false\/(b.2.2=true/\16<=L.length)\/(b.2.2=false/\L.length=1) then ([],[],44)
 else if 2*zl b (zj b V)<=L.length then (L,zj b V,0)
 else (zF b.2.1 b.2.2 L,((zj b V).filter (yb b)).filter (fun x=>b.2.2||decide (2*zl x ((zj b V).filter (yb b))<=(zF b.2.1 b.2.2 L).length)),0)
abbrev blO (x:Bal):Obj:=.cells (blC x) 27
abbrev snV (q:Qc)(m cq:Nat)(p:Qc)(n c:Nat):Value:=.agg #[.slice q m cq,.slice p n c]
abbrev snO (q:Qc)(m cq:Nat)(p:Qc)(n c:Nat):Obj:=.cells #[.slice q m cq,.slice p n c] 25 (0,0)
def zM (w:World)(L:Qi)(V:List Bal)(q:Qc)(m:Nat)(p:Qc)(n:Nat):Prop:=AtF sS w q m L/\AtF blS w p n V
theorem zaT (b:Bal)(s:List Bal×Bool)(x:Bal):(yI b s x).1.length<=s.1.length+1:=by
 show (if x.2.1=b.2.1/\x.1=b.1 then s.1 else s.1++ [x]).length<=_;split
 ·omega
 ·rw[QF];exact Qs _
theorem zaU (a:Qa)(s:Qi×Bool)(x:Qa):(yJ a s x).1.length<=s.1.length+1:=by
 show (if x=a then s.1 else s.1++ [x]).length<=_;split
 ·omega
 ·rw[QF];exact Qs _
theorem jv {α:Type}{S:Fl α}{w:World}{b n cap:Nat}{cur:Qd}{T:TypeId}{M:List α}(hr:Rw S.K cur cap n (zb S M))(h:w.heap[b]? =some (.cells cur T)):AtF S w (Qg b) n M:=⟨(Rw.lenF (S:=S) hr).symm,.inr ⟨b,0,cur,T,(0,0),rfl,h,hr.rowAt⟩⟩
def qU {α:Type}(S:Fl α)(ty:TypeId)(q0:Qc)(m0 c0:Nat)(L0:List α)(q:Qc)(m c:Nat)(T:Qb)(L:List α):Prop:=(T=[]/\q=q0/\m=m0/\c=c0/\L=L0)\/zz S ty q m c T L
def qc (q0:Qc)(m0 cq0:Nat)(L0:Qi)(p0:Qc)(n0 c0:Nat)(V0:List Bal)(r:Qi×List Bal×Nat)(v:Value)(T:Qb):Prop:=
 ∃(q:Qc) (m cq:Nat) (p:Qc) (n c:Nat) (T1 T2:Qb),v=.tuple #[snV q m cq p n c,.int .i64 ((r.2.2:Nat):Int)]/\T=T1++T2/\qU sS 9 q0 m0 cq0 L0 q m cq T1 r.1/\qU blS 27 p0 n0 c0 V0 p n c T2 r.2.1
theorem qc.no {q0:Qc}{m0 cq0:Nat}{L0:Qi}{p0:Qc}{n0 c0:Nat}{V0:List Bal}{e:Nat} :qc q0 m0 cq0 L0 p0 n0 c0 V0 ([],[],e) (.tuple #[snV none 0 0 none 0 0,.int .i64 (e:Int)]) []:=
 ⟨none,0,0,none,0,0,[],[],rfl,rfl,.inr (.inl ⟨rfl,rfl,rfl,rfl,rfl⟩),.inr (.inl ⟨rfl,rfl,rfl,rfl,rfl⟩)⟩
theorem vH (x y:Bal)(w:World):(Uv 10000 27 (blV x) (blV y)).run Try.prog w=.ok (decide (x=y)) w:=by
 rw[run_equalIn_struct w 9999 27 _ _ kr kr,
  show (Try.prog.fieldsOf 27).toList= [{ name:= "Voter",type:=9,offset:=0,embedded:=false,tag:= "",pkgPath:= "",byteOffset:=0 },{ name:= "Who",type:=9,offset:=1,embedded:=false,tag:= "",pkgPath:= "",byteOffset:=16 },{ name:= "Add",type:=4,offset:=2,embedded:=false,tag:= "",pkgPath:= "",byteOffset:=32 }] by kernel_rfl]
 have px: ∀x:Bal,(part 9 (blC x) 0).run Try.prog w=.ok (.string x.1) w:=fun x=>by kernel_rfl
 have py: ∀x:Bal,(part 9 (blC x) 1).run Try.prog w=.ok (.string x.2.1) w:=fun x=>by kernel_rfl
 have pb: ∀x:Bal,(part 4 (blC x) 2).run Try.prog w=.ok (.bool x.2.2) w:=fun x=>by kernel_rfl
 have ex: ∀a b:Qa,(Uv 9999 9 (.string a) (.string b)).run Try.prog w=.ok (decide (a=b)) w:=fun a b=>by
  rw[run_equalIn_string w 9998 9 a b Try.underlying9];by_cases e:a=b
  ·rw[yH _ _ e,decide_eq_true e]
  ·rw[yp _ _ e,decide_eq_false e]
 have eb:(Uv 9999 4 (.bool x.2.2) (.bool y.2.2)).run Try.prog w=.ok (x.2.2==y.2.2) w:=by
  rw[run_equalIn_bool' w 9998 4 x.2.2 y.2.2 Try.underlying4]
 have n1:("Voter" :String)≠ "_" :=by decide
 have n2:("Who" :String)≠ "_" :=by decide
 have n3:("Add" :String)≠ "_" :=by decide
 simp only[Op.eqFields,if_pos n1,if_pos n2,if_pos n3,QO,px,py,pb,Qz,ex,eb,Sem.run_ite];obtain⟨a,b,c⟩:=x;obtain⟨a',b',c'⟩:=y;by_cases h1:a=a'
 ·by_cases h2:b=b'
  ·cases c<;>cases c'<;>simp[h1,h2]
  ·simp[h1,h2]
 ·simp[h1]
theorem zaV {ρ:Env}(x y:Bal){s t:Operand}{o:Oper}(w:World)(ho:o.op=.binOp .neq 27 s t 27)(hx:ev ρ s=blV x)(hy:ev ρ t=blV y):
 (execOp (ev ρ) o).run Try.prog w=.ok (.value (.bool (!decide (x=y)))) w:=by
 have h:=vH x y w;change ev ρ s=.agg (blC x)at hx;change ev ρ t=.agg (blC y)at hy;change (Uv 10000 27 (.agg (blC x)) (.agg (blC y))).run Try.prog w=_ at h;generalize blC x=X at h hx;generalize blC y=Y at h hy;unfold execOp;simp only[ho,hx,hy,resolve,QO,RO,Qz,run_eqGuard_agg w _ _ _ _ _ _ (show Try.prog.eqGuardType Try.prog.depth 27=false by kernel_rfl),run_eql_struct,run_neq_struct,h]
theorem zaW (q:Qc)(m cq:Nat)(L:Qi)(p:Qc)(n c:Nat)(V:List Bal)(q':Qc)(m' cq':Nat)(L':Qi)(p':Qc)(n' c':Nat)(V':List Bal)(b:Bool)(hb:b=true↔L=L'/\V=V')(hL:L.length<=1000000)(hV:V.length<=1000000):
 FnP Try.prog 17 #[snV q m cq p n c,snV q' m' cq' p' n' c'] (fun w=>zM w L V q m p n/\zM w L' V' q' m' p' n') (.bool b):=by
 have no: ¬(L=L'/\V=V')->b=false:=fun hne=>QM.2 fun e=>hne (hb.1 e);refine FnP.intro (c:=zu Try.f17) [.tmp 4] 59 Try.func17 kr kr kr fun w hP=>?_;obtain⟨⟨hS,hV⟩,hS',hV'⟩:=hP;have hm:=hS.1;have hn:=hV.1;have hm':=hS'.1;have hn':=hV'.1;refine rS [.b,.b,.v] (St.start w) kr fun gs1 w1 H1=>zf kr ?_;by_cases em_:m=m'
 case neg=>
  refine rS [.v,.l 0,.v,.v,.l 1,.v,.E (.bool ((m:Int)!=(m':Int))) (.bool true) (za (bne_iff_ne.2 (by omega))),.v,.n,.n,.n,.n,.n,.n,.n,.v] H1 kr fun gs3 w3 H3=>zy<|rS [.v] H3 kr fun gs8 w8 H8=>?_;exact rRe [.tmp 4] [] (v:=.bool false) (v':=.bool b) H8 (za (no fun e=>em_ (by rw[hm,hm',e.1])).symm) kr
 by_cases en:n=n'
 case neg=>
  subst em_;refine rS [.v,.l 0,.v,.v,.l 1,.v,.E (.bool ((m:Int)!=(m:Int))) (.bool false) (za (bne_self_eq_false' _)),.v,.v,.l 0,.v,.v,.l 1,.v,.E (.bool ((n:Int)!=(n':Int))) (.bool true) (za (bne_iff_ne.2 (by omega))),.v] H1 kr fun gs3 w3 H3=>zy<|rS [.v] H3 kr fun gs8 w8 H8=>?_;exact rRe [.tmp 4] [] (v:=.bool false) (v':=.bool b) H8 (za (no fun e=>en (by rw[hn,hn',e.2])).symm) kr
 subst en em_;refine rS [.v,.l 0,.v,.v,.l 1,.v,.E (.bool ((m:Int)!=(m:Int))) (.bool false) (za (bne_self_eq_false' _)),.v,.v,.l 0,.v,.v,.l 1,.v,.E (.bool ((n:Int)!=(n:Int))) (.bool false) (za (bne_self_eq_false' _)),.v] H1 kr fun gs3 w3 H3=>zx<|wW<|zf kr<|rS [.v,.l 0,.v,.v] H3 kr fun gs4 w4 H4=>yv 26 25 27 40 0 1 m (by omega) (fun i ρ ww=>L.take i=L'.take i/\St w.heap.size w ww [((gs1 0).b,snO q m cq p n c),((gs1 1).b,snO q' m cq' p' n c')]/\Is [(2,Qe (gs1 0).b),(3,Qe (gs1 1).b),(25,iN m),(26,iN i)] ρ) (by rintro i _ ww ⟨_,_,_,rfl⟩;exact⟨kr,kr⟩) ⟨rfl,H4.as kr,isK⟩ ?_ ?_
 ·clear H4;rintro i _ w5 hi ⟨htk,H5,_,rfl⟩;obtain⟨x,hx⟩:∃x,L[i]? =some x:=⟨_,Qj (by omega)⟩
  obtain⟨y,hy⟩:∃y,L'[i]? =some y:=⟨_,Qj (by omega)⟩
  obtain⟨bl,off,C,T,fz,hp,hh,hR⟩:=hS.row2 (by omega);obtain⟨bl2,off2,C2,T2,fz2,hp2,hh2,hR2⟩:=hS'.row2 (by omega);have cx:C[off+i*1]? =some (.string x):=hR.cell hx 0 (by decide);have cy:C2[off2+i*1]? =some (.string y):=hR2.cell hy 0 (by decide);refine rS [.v,.v] H5 kr fun gs5 w6 H6=>?_;by_cases exy:x=y
  ·refine dS [.v,.l 0,.v,.o (ins:=[((.tmp 30),.slice q m cq),((.tmp 31),iN i)]) (v:=.pointer (some ⟨bl,off+i*1,none⟩)) (fun ρ o w ho hi2=>zv (kd:=.i64) (t:=22) (e:=9) (K:=1) (bytes:=16) kr (x:=(.tmp 30)) (y:=(.tmp 31)) bl off m cq i hp ho hi2.1 hi2.2.1 (by omega) w),.fs (off:=off+i*1) (v:=.string x) hh (zk hh) cx,.v,.l 1,.v,.o (ins:=[((.tmp 35),.slice q' m cq'),((.tmp 36),iN i)]) (v:=.pointer (some ⟨bl2,off2+i*1,none⟩)) (fun ρ o w ho hi2=>zv (kd:=.i64) (t:=22) (e:=9) (K:=1) (bytes:=16) kr (x:=(.tmp 35)) (y:=(.tmp 36)) bl2 off2 m cq' i hp2 ho hi2.1 hi2.2.1 (by omega) w),.fs (off:=off2+i*1) (v:=.string y) hh2 (zk hh2) cy,.E (.bool (!(x.toList==y.toList))) (.bool false) (za (by rw[yH _ _ exy];rfl))] H6 kr fun w7 H7=>zx ?_;exact⟨kr,by rw[ya hx,ya hy,htk,exy],H7.as kr,isK⟩
  ·refine dS [.v,.l 0,.v,.o (ins:=[((.tmp 30),.slice q m cq),((.tmp 31),iN i)]) (v:=.pointer (some ⟨bl,off+i*1,none⟩)) (fun ρ o w ho hi2=>zv (kd:=.i64) (t:=22) (e:=9) (K:=1) (bytes:=16) kr (x:=(.tmp 30)) (y:=(.tmp 31)) bl off m cq i hp ho hi2.1 hi2.2.1 (by omega) w),.fs (off:=off+i*1) (v:=.string x) hh (zk hh) cx,.v,.l 1,.v,.o (ins:=[((.tmp 35),.slice q' m cq'),((.tmp 36),iN i)]) (v:=.pointer (some ⟨bl2,off2+i*1,none⟩)) (fun ρ o w ho hi2=>zv (kd:=.i64) (t:=22) (e:=9) (K:=1) (bytes:=16) kr (x:=(.tmp 35)) (y:=(.tmp 36)) bl2 off2 m cq' i hp2 ho hi2.1 hi2.2.1 (by omega) w),.fs (off:=off2+i*1) (v:=.string y) hh2 (zk hh2) cy,.E (.bool (!(x.toList==y.toList))) (.bool true) (za (by rw[yp _ _ exy];rfl))] H6 kr fun w7 H7=>zy<|rS [.v] H7 kr fun gs8 w8 H8=>?_;exact rRe [.tmp 4] [] (v:=.bool false) (v':=.bool b) H8 (za (no fun e=>exy (by rw[e.1,hy]at hx;exact(QX.inj hx).symm)).symm) kr
 ·clear H4;rintro _ w5 ⟨htk,H5,_,rfl⟩;rw[Qv (by omega),Qv (by omega)]at htk;refine wW<|zf kr<|rS [.v,.l 0,.v,.v] H5 kr fun gs5 w6 H6=>yv 44 43 45 58 2 3 n (by omega) (fun i ρ ww=>V.take i=V'.take i/\St w.heap.size w ww [((gs1 0).b,snO q m cq p n c),((gs1 1).b,snO q' m cq' p' n c')]/\Is [(2,Qe (gs1 0).b),(3,Qe (gs1 1).b),(43,iN n),(44,iN i)] ρ) (by rintro i _ ww ⟨_,_,_,rfl⟩;exact⟨kr,kr⟩) ⟨rfl,H6.as kr,isK⟩ ?_ ?_
  ·clear H5 H6;rintro i _ w5 hi ⟨htk2,H5,_,rfl⟩;obtain⟨x,hx⟩:∃x,V[i]? =some x:=⟨_,Qj (by omega)⟩
   obtain⟨y,hy⟩:∃y,V'[i]? =some y:=⟨_,Qj (by omega)⟩
   obtain⟨bl,off,C,T,fz,hp,hh,hR⟩:=hV.row2 (by omega);obtain⟨bl2,off2,C2,T2,fz2,hp2,hh2,hR2⟩:=hV'.row2 (by omega);refine rS [.v,.v] H5 kr fun gs5 w6 H6=>?_;have hit:=fun (v:Bool) (hv:(!decide (x=y))=v) (ρ:Env) (o:Oper) (w:World) (ho:o.op=.binOp .neq 27 (.tmp 51) (.tmp 56) 27) (hi:Ins (ev ρ) [((.tmp 51),blV x),((.tmp 56),blV y)])=>(zaV x y w ho hi.1 hi.2.1).trans (by rw[hv]);by_cases exy:x=y
   ·refine dS [.v,.l 0,.v,.o (ins:=[((.tmp 48),.slice p n c),((.tmp 49),iN i)]) (v:=.pointer (some ⟨bl,off+i*3,none⟩)) (fun ρ o w ho hi2=>zv (kd:=.i64) (t:=23) (e:=27) (K:=3) (bytes:=40) kr (x:=(.tmp 48)) (y:=(.tmp 49)) bl off n c i hp ho hi2.1 hi2.2.1 (by omega) w),.fp (off:=off+i*3) (n:=3) (W:=blC x) hh (zk hh) (hR _ _ hx).1 (hR _ _ hx).2,.v,.l 1,.v,.o (ins:=[((.tmp 53),.slice p' n c'),((.tmp 54),iN i)]) (v:=.pointer (some ⟨bl2,off2+i*3,none⟩)) (fun ρ o w ho hi2=>zv (kd:=.i64) (t:=23) (e:=27) (K:=3) (bytes:=40) kr (x:=(.tmp 53)) (y:=(.tmp 54)) bl2 off2 n c' i hp2 ho hi2.1 hi2.2.1 (by omega) w),.fp (off:=off2+i*3) (n:=3) (W:=blC y) hh2 (zk hh2) (hR2 _ _ hy).1 (hR2 _ _ hy).2,.o (hit false (by rw[decide_eq_true exy];rfl))] H6 kr fun w7 H7=>zx ?_;exact⟨kr,by rw[ya hx,ya hy,htk2,exy],H7.as kr,isK⟩
   ·refine dS [.v,.l 0,.v,.o (ins:=[((.tmp 48),.slice p n c),((.tmp 49),iN i)]) (v:=.pointer (some ⟨bl,off+i*3,none⟩)) (fun ρ o w ho hi2=>zv (kd:=.i64) (t:=23) (e:=27) (K:=3) (bytes:=40) kr (x:=(.tmp 48)) (y:=(.tmp 49)) bl off n c i hp ho hi2.1 hi2.2.1 (by omega) w),.fp (off:=off+i*3) (n:=3) (W:=blC x) hh (zk hh) (hR _ _ hx).1 (hR _ _ hx).2,.v,.l 1,.v,.o (ins:=[((.tmp 53),.slice p' n c'),((.tmp 54),iN i)]) (v:=.pointer (some ⟨bl2,off2+i*3,none⟩)) (fun ρ o w ho hi2=>zv (kd:=.i64) (t:=23) (e:=27) (K:=3) (bytes:=40) kr (x:=(.tmp 53)) (y:=(.tmp 54)) bl2 off2 n c' i hp2 ho hi2.1 hi2.2.1 (by omega) w),.fp (off:=off2+i*3) (n:=3) (W:=blC y) hh2 (zk hh2) (hR2 _ _ hy).1 (hR2 _ _ hy).2,.o (hit true (by rw[decide_eq_false exy];rfl))] H6 kr fun w7 H7=>zy<|rS [.v] H7 kr fun gs8 w8 H8=>?_;exact rRe [.tmp 4] [] (v:=.bool false) (v':=.bool b) H8 (za (no fun e=>exy (by rw[e.2,hy]at hx;exact(QX.inj hx).symm)).symm) kr
  ·rintro _ w7 ⟨htk2,H7,_,rfl⟩;rw[Qv (by omega),Qv (by omega)]at htk2;refine wW<|rS [.v] H7 kr fun gs8 w8 H8=>?_;exact rRe [.tmp 4] [] (v:=.bool true) (v':=.bool b) H8 (za (hb.2 ⟨htk,htk2⟩).symm) kr
section
variable {l:Bool}{s:Qa}{k:Fo}
end
section
open D2 (Gh)
end
section
variable {t:Qa}{a b j:Nat}{p:Qc}{n c:Nat}{row:Qb}{M:List X3}{T:Qb}
end
section
variable {P:Program}{N:Nat}{ops:Array Oper}{K:Env->World->Prop}{ρ:Env}{w w0:World}{i B:Nat}{r:List Nat}{l:Qb}
end
section
open D2 (Gh)
section
variable {P:Program}{N:Nat}{ops:Array Oper}{i:Nat}{r:List Nat}{K:Env->World->Prop}{ρ:Env}{w w0:World}{B:Nat}{l:Qb}
end
end
abbrev wt (b:Bool):Nat:=if b=true then 0 else 1
theorem vI (b:Bal): ∀(V:List Bal) (s:List Bal×Bool),(V.foldl (fun s x=>yI b (zV b s x) x) s).1.length+wt (V.foldl (fun s x=>yI b (zV b s x) x) s).2<=s.1.length+wt s.2+V.length
 | [],s=>by simp
 | x::r,s=>by
  have h1:=vI b r (yI b (zV b s x) x);have h2:(yI b (zV b s x) x).1.length<=(zV b s x).1.length+1:=zaT b _ x;have h3:(zV b s x).1.length+wt (zV b s x).2<=s.1.length+wt s.2:=by
   unfold zV;split
   ·rename_i h9
    have h8:s.2=false:=by cases h7:s.2 with
     | false=>rfl
     | true=>rw[h7]at h9;cases h9
    show (s.1++ [b]).length+wt true<=_;rw[QF,h8];exact Qs _
   ·exact Qs _
  have h4:(yI b (zV b s x) x).2=(zV b s x).2:=rfl;rw[h4]at h1;rw[Rv,Ro];omega
theorem xY (b:Bal)(V:List Bal):(zj b V).length<=V.length+1:=by
 have h:=vI b V ([],false);change (qH b V).1.length+wt (qH b V).2<=0+1+V.length at h;unfold zj;split
 ·omega
 ·rename_i h9
  rw[show wt (qH b V).2=1 from if_neg h9]at h;rw[QF];show (qH b V).1.length+1<=_;omega
theorem vJ (a:Qa): ∀(L:Qi) (s:Qi×Bool),(L.foldl (fun s x=>yJ a (zW a s x) x) s).1.length+wt (L.foldl (fun s x=>yJ a (zW a s x) x) s).2<=s.1.length+wt s.2+L.length
 | [],s=>by simp
 | x::r,s=>by
  have h1:=vJ a r (yJ a (zW a s x) x);have h2:(yJ a (zW a s x) x).1.length<=(zW a s x).1.length+1:=zaU a _ x;have h3:(zW a s x).1.length+wt (zW a s x).2<=s.1.length+wt s.2:=by
   unfold zW;split
   ·rename_i h9
    have h8:s.2=false:=by cases h7:s.2 with
     | false=>rfl
     | true=>rw[h7]at h9;cases h9
    show (s.1++ [a]).length+wt true<=_;rw[QF,h8];exact Qs _
   ·exact Qs _
  have h4:(yJ a (zW a s x) x).2=(zW a s x).2:=rfl;rw[h4]at h1;rw[Rv,Ro];omega
theorem zaX (a:Qa)(add:Bool)(L:Qi):(zF a add L).length<=L.length+1:=by
 have h:=vJ a L ([],!add);change (qq a add L).1.length+wt (qq a add L).2<=0+wt (!add)+L.length at h;have h1:wt (!add)<=1:=by cases add<;>decide
 unfold zF;split
 ·omega
 ·rename_i h9
  rw[show wt (qq a add L).2=1 from if_neg h9]at h;rw[QF];show (qq a add L).1.length+1<=_;omega
theorem vK (L:Qi)(V:List Bal)(b:Bal):(zs L V b).1.length<=L.length+1/\(zs L V b).2.1.length<=V.length+1:=by
 have h1:=xY b V;have h2:=zaX b.2.1 b.2.2 L;unfold zs;split
 ·exact⟨Rf _,Rf _⟩
 ·split
  ·exact⟨Rf _,Rf _⟩
  ·split
   ·exact⟨Nat.le_succ _,h1⟩
   ·refine⟨h2,?_⟩;have h3:=RI (yb b) (zj b V);have h4:=RI (fun x=>b.2.2||decide (2*zl x ((zj b V).filter (yb b))<=(zF b.2.1 b.2.2 L).length)) ((zj b V).filter (yb b));exact Rb h4 (Rb h3 h1)
theorem qU.at {α:Type}{S:Fl α}{ty:TypeId}{q0:Qc}{m0 c0:Nat}{L0:List α}{q:Qc}{m c:Nat}{T:Qb}{L:List α}(h:qU S ty q0 m0 c0 L0 q m c T L){B:Nat}{w0 w:World}{l:Qb}(hS:St B w0 w l)(hl: ∀e∈T,e∈l)(hA:AtF S w q0 m0 L0):AtF S w q m L:=by
 rcases h with⟨rfl,rfl,rfl,rfl,rfl⟩|h
 ·exact hA
 ·exact h.atF hS hl
section
open Go.ChangeShapes Go.WideShapes Go.ChangeAt
theorem vL:Try.prog.cellsOf 27=3:=kr
theorem zaY:Try.prog.cellsOf 25=2:=kr
theorem zaZ:Try.prog.cellsOf 23=1:=kr
theorem vM {α:Type}(l:List α)(h:l.length=2):∃a0 a1,l=[a0,a1]:=by
 match l,h with
 | [a0,a1],_=>exact⟨_,_,rfl⟩
theorem za0 {α:Type}(l:List α)(h:l.length=3):∃a0 a1 a2,l=[a0,a1,a2]:=by
 match l,h with
 | [a0,a1,a2],_=>exact⟨_,_,_,rfl⟩
section
variable {H:Type}{enc:TypeId×Value->H}{W:World}{sp:Nat->Bool}{held:Bool}
theorem vN (fuel:Nat)(cs:List Value)(x:DataW H×List MemPlace)(h:Rz enc Try.prog W 0 sp held fuel 27 cs=some x):∃a:Bal,cs=blS.cs a/\True:=by
 obtain⟨y0,y1,y2,m,hx,hl,hy0,hy1,hy2⟩:=Go.Deep.trod_struct3 Try.underlying27 h;rw[vL]at hl;obtain⟨c0,c1,c2,rfl⟩:=za0 cs hl;rw[vF]at hy0 hy1;rw[zaO]at hy2;obtain⟨s0,e0,_,_⟩:=DataW.trod_string Try.underlying9 (show Rz enc Try.prog W 0 sp held m 9 [c0]=some y0 from hy0);obtain⟨s1,e1,_,_⟩:=DataW.trod_string Try.underlying9 (show Rz enc Try.prog W 0 sp held m 9 [c1]=some y1 from hy1);obtain⟨b,e2,_⟩:=DataW.trod_bool Try.underlying4 (show Rz enc Try.prog W 0 sp held m 4 [c2]=some y2 from hy2);obtain rfl:c0=.string s0:=by simpa using e0
 obtain rfl:c1=.string s1:=by simpa using e1
 obtain rfl:c2=.bool b:=by simpa using e2
 exact⟨(s0,s1,b),rfl,trivial⟩
theorem vO {v:Value}{d:DataW H}{p:List MemPlace}{base:Nat}(hv:Ut Try.prog W .any base 27 v)(h:DataW.Trod enc Try.prog W 0 sp held 27 v d p):∃b:Bal,v=blV b:=by
 obtain⟨cs,rfl,hsz,_⟩:∃cs,v=.agg cs/\cs.size=Try.prog.cellsOf 27/\Row.okWide Try.prog W .any base 27 cs:=by
  simpa [Ut,Try.underlying27] using hv
 obtain⟨fuel,hf⟩:=h;obtain⟨a,ea,_⟩:=vN fuel _ _ hf;exact⟨a,by rw[show cs=(blS.cs a).toArray from Array.toList_inj.1 ea];rfl⟩
theorem za1 {v:Value}{d:DataW H}{p:List MemPlace}{base:Nat}(hv:Ut Try.prog W .any base 25 v)(h:DataW.Trod enc Try.prog W 0 sp held 25 v d p):
 ∃(q:Qc) (m cq:Nat) (L:Qi) (p:Qc) (n c:Nat) (V:List Bal),v=snV q m cq p n c/\qp q m cq/\qp p n c/\zM W L V q m p n:=by
 obtain⟨cs,rfl,hsz,_⟩:∃cs,v=.agg cs/\cs.size=Try.prog.cellsOf 25/\Row.okWide Try.prog W .any base 25 cs:=by
  simpa [Ut,Try.underlying25] using hv
 rw[zaY]at hsz;obtain⟨l⟩:=cs;obtain⟨c0,c1,rfl⟩:=vM l hsz;obtain⟨fuel,hf⟩:=h;obtain⟨xs,m,rfl,hxx,hl,hlen,hff⟩:=DataW.trod_struct Try.underlying25 hf;obtain⟨y0,y1,rfl⟩:=vM xs hlen;have g0:=hff 0 _ rfl;have g1:=hff 1 _ rfl;change Rz enc Try.prog W 0 sp held m 22 (([c0,c1].drop 0).take (Try.prog.cellsOf 22))=some y0 at g0;change Rz enc Try.prog W 0 sp held m 23 (([c0,c1].drop 1).take (Try.prog.cellsOf 23))=some y1 at g1;rw[zaP]at g0;rw[zaZ]at g1;obtain⟨q,mm,cq,L,rfl,sl,_,atL⟩:=vy (S:=sS) Try.underlying22 vF zaQ (show Rz enc Try.prog W 0 sp held m 22 [c0]=some y0 from g0);obtain⟨p,n,c,V,rfl,sl2,_,atV⟩:=vy (S:=blS) Try.underlying23 vL vN (show Rz enc Try.prog W 0 sp held m 23 [c1]=some y1 from g1);exact⟨q,mm,cq,L,p,n,c,V,rfl,sl,sl2,atL,atV⟩
end
end
theorem vP: ∀ {x y:List UInt8},zd x y=false->x≠y->zd y x=true
 | [],[],_,h=>absurd rfl h
 | [],_::_,h,_=>by simp[zd]at h
 | _::_,[],_,_=>rfl
 | a::x,b::y,h,hne=>by
  unfold zd at h⊢;by_cases e:a=b
  ·subst e;have hlt: ¬a.toNat<a.toNat:=Up _;simp only[Up,if_false,if_true]at h⊢;exact vP h fun e=>hne (by rw[e])
  ·have hn:a.toNat≠b.toNat:=fun q=>e (UInt8.toNat_inj.1 q);by_cases c:b.toNat<a.toNat
   ·rw[if_pos c]
   ·have:a.toNat<b.toNat:=by omega
    rw[if_pos this]at h;cases h
theorem xb {a b:Qa}(h:zd (tl a) (tl b)=false)(hne:a≠b):zd (tl b) (tl a)=true:=vP h fun e=>hne (vk e)
theorem za2 (a:Qa):zd (tl a) (tl a)=false:=jr _
theorem vQ {a b:Qa}(h:zd (tl a) (tl b)=true):a≠b:=fun e=>by rw[e,jr]at h;cases h
theorem vR {a b:Qa}(h:zd (tl a) (tl b)=true):zd (tl b) (tl a)=false:=QM.2 fun e=>by
 have:=qF h e;rw[jr]at this;cases this
def nsB (b x:Bal):Bool:= !(decide (x.2.1=b.2.1)&&decide (x.1=b.1))
theorem yq {b x:Bal} :nsB b x=true↔ ¬(x.2.1=b.2.1/\x.1=b.1):=by
 unfold nsB;by_cases h1:x.2.1=b.2.1<;>by_cases h2:x.1=b.1<;>simp[h1,h2]
theorem za3 {b x:Bal}(h:nsB b x=true):nsB x b=true:=yq.2 fun e=>yq.1 h ⟨e.1.symm,e.2.symm⟩
theorem za4 (a:Bal):aheadB a a=false:=by unfold aheadB;rw[if_pos rfl];exact za2 _
theorem qr {a b c:Bal}(h1:aheadB a b=true)(h2:aheadB b c=true):aheadB a c=true:=by
 unfold aheadB at*;by_cases e1:a.2.1=b.2.1
 ·rw[if_pos e1]at h1;by_cases e2:b.2.1=c.2.1
  ·rw[if_pos e2]at h2;rw[if_pos (e1.trans e2)];exact qF h1 h2
  ·rw[if_neg e2]at h2;rw[if_neg (by rw[e1];exact e2),e1];exact h2
 ·rw[if_neg e1]at h1;by_cases e2:b.2.1=c.2.1
  ·rw[if_pos e2]at h2;rw[if_neg (by rw[<-e2];exact e1),<-e2];exact h1
  ·rw[if_neg e2]at h2;have h3:=qF h1 h2;rw[if_neg (vQ h3)];exact h3
theorem za5 {a b:Bal}(h:aheadB a b=true):aheadB b a=false:=QM.2 fun e=>by
 have:=qr h e;rw[za4]at this;cases this
theorem xc {b x:Bal}(h:aheadB x b=true):nsB b x=true:=yq.2 fun e=>by
 unfold aheadB at h;rw[if_pos e.1,e.2,jr]at h;cases h
theorem xZ {x b:Bal}(h:aheadB x b=false)(hn:nsB b x=true):aheadB b x=true:=by
 have h1:=yq.1 hn;unfold aheadB at*;by_cases e:x.2.1=b.2.1
 ·rw[if_pos e]at h;rw[if_pos e.symm];exact xb h fun e2=>h1 ⟨e,e2⟩
 ·rw[if_neg e]at h;rw[if_neg (fun q=>e q.symm)];exact xb h e
def yS (b:Bal):List Bal->List Bal
 | []=>[b]
 | x::r=>if aheadB x b=true then x::yS b r else b::(x::r).filter (nsB b)
theorem vS (b x:Bal)(r:List Bal):yS b (x::r)=if aheadB x b=true then x::yS b r else b::(x::r).filter (nsB b):=rfl
theorem vT (b:Bal)(s:List Bal×Bool)(x:Bal):yI b s x=(if nsB b x=true then s.1++ [x] else s.1,s.2):=by
 unfold yI;by_cases h:x.2.1=b.2.1/\x.1=b.1
 ·rw[if_pos h,if_neg (fun e=>yq.1 e h)]
 ·rw[if_neg h,if_pos (yq.2 h)]
theorem ka (b:Bal): ∀(V:List Bal) (A:List Bal),V.foldl (fun s x=>yI b (zV b s x) x) (A,true)=(A++V.filter (nsB b),true)
 | [],A=>by simp
 | x::r,A=>by
  rw[Rv,show zV b (A,true) x=(A,true) from rfl,vT,Q6];by_cases h:nsB b x=true
  ·rw[if_pos h,if_pos h,ka b r];simp
  ·rw[if_neg h,if_neg h,ka b r]
def vU (b:Bal)(s:List Bal×Bool):List Bal:=if s.2=true then s.1 else s.1++ [b]
theorem vV (b:Bal): ∀(V:List Bal) (A:List Bal),vU b (V.foldl (fun s x=>yI b (zV b s x) x) (A,false))=A++yS b V
 | [],A=>rfl
 | x::r,A=>by
  rw[Rv];cases h:aheadB x b with
  | true=>
   have e1:zV b (A,false) x=(A,false):=by unfold zV;rw[h];rfl
   rw[e1,vT,if_pos (xc h),vV b r];rw[vS,if_pos h];simp
  | false=>
   have e1:zV b (A,false) x=(A++ [b],true):=by unfold zV;rw[h];rfl
   rw[e1];have e2:=ka b (x::r) (A++ [b]);rw[Rv,show zV b (A++ [b],true) x=(A++ [b],true) from rfl]at e2;rw[e2];unfold vU yS;rw[if_pos rfl,if_neg (by rw[h];decide)];simp
theorem kb (b:Bal)(V:List Bal):zj b V=yS b V:=by
 have:=vV b V [];rw[R4]at this;exact this
abbrev yD (V:List Bal):Prop:=V.Pairwise fun a b=>aheadB a b=true
theorem ke (b:Bal): ∀V:List Bal,(yS b V).Perm (b::V.filter (nsB b))
 | []=>.refl _
 | x::r=>by
  unfold yS;by_cases h:aheadB x b=true
  ·rw[if_pos h,Q6,if_pos (xc h)];exact(Ug _ (ke b r)).trans (Ue _ _ _)
  ·rw[if_neg h]
theorem vW (b:Bal): ∀ {V:List Bal},yD V->yD (yS b V)
 | [],_=>List.pairwise_singleton _ _
 | x::r,hs=>by
  obtain⟨h1,h2⟩:=QH.1 hs;unfold yS;by_cases h:aheadB x b=true
  ·rw[if_pos h];refine QH.2 ⟨fun y hy=>?_,vW b h2⟩;rcases QJ.1 ((ke b r).mem_iff.1 hy) with rfl | hy
   ·exact h
   ·exact h1 y (Ra.1 hy).1
  ·rw[if_neg h];refine QH.2 ⟨fun y hy=>?_,RA _ hs⟩;obtain⟨hm,hn⟩:=Ra.1 hy;rcases QJ.1 hm with rfl | hm
   ·exact xZ (QM.2 h) hn
   ·have h3:=h1 y hm;by_cases hx:nsB b x=true
    ·exact qr (xZ (QM.2 h) hx) h3
    ·
     have hxb:x.2.1=b.2.1/\x.1=b.1:=by
      by_cases q:x.2.1=b.2.1/\x.1=b.1
      ·exact q
      ·exact absurd (yq.2 q) hx
     unfold aheadB at h3⊢;rw[hxb.1,hxb.2]at h3;exact h3
theorem qI (b:Bal)(V:List Bal):(zj b V).Perm (b::V.filter (nsB b)):=by rw[kb];exact ke b V
theorem qV (b:Bal){V:List Bal}(h:yD V):yD (zj b V):=by rw[kb];exact vW b h
theorem za6 {A B:List Bal}(hA:yD A)(hB:yD B)(h:A.Perm B):A=B:=
 List.Perm.eq_of_pairwise (fun a b _ _ h1 h2=>by rw[za5 h1]at h2;cases h2) hA hB h
theorem za7 (a b:Bal){V:List Bal}(h:yD V)(hn:nsB a b=true):zj a (zj b V)=zj b (zj a V):=by
 refine za6 (qV a (qV b h)) (qV b (qV a h)) ?_;have h1:(zj a (zj b V)).Perm (a::b::V.filter (fun x=>nsB a x&&nsB b x)):=by
  refine(qI a _).trans (Ug _ ?_);refine((qI b V).filter (nsB a)).trans ?_;rw[Q6,if_pos hn,List.filter_filter]
 have h2:(zj b (zj a V)).Perm (b::a::V.filter (fun x=>nsB b x&&nsB a x)):=by
  refine(qI b _).trans (Ug _ ?_);refine((qI a V).filter (nsB b)).trans ?_;rw[Q6,if_pos (za3 hn),List.filter_filter]
 refine h1.trans (.trans ?_ h2.symm);rw[show (fun x=>nsB b x&&nsB a x)=(fun x=>nsB a x&&nsB b x) from funext fun x=>Bool.and_comm _ _];exact Ue _ _ _
theorem vX (c b:Bal)(V:List Bal):zl c (zj b V)=(if zJ c b=true then 1 else 0)+((V.filter (nsB b)).filter (zJ c)).length:=by
 unfold zl;rw[((qI b V).filter (zJ c)).length_eq,Q6];split
 ·rw[Ro];omega
 ·omega
abbrev qd (L:Qi):Prop:=L.Pairwise fun a b=>zd (tl a) (tl b)=true
theorem vY (L:Qi)(V:List Bal): ∀(W:List Bal) (p:Option Bal),xa L V p W=true↔(∀x∈W,zH L x=true/\2*zl x V<=L.length)/\yD W/\ ∀x∈W,yR p x=true
 | [],p=>⟨fun _=>⟨fun x hx=>absurd hx (Rs),List.Pairwise.nil,fun x hx=>absurd hx (Rs)⟩,fun _=>rfl⟩
 | b::r,p=>by
  have ih:=vY L V r (some b);show (zH L b&&(yR p b&&(decide (2*zl b V<=L.length)&&xa L V (some b) r)))=true↔_;rw[Qk,Qk,Qk,ih,decide_eq_true_iff];constructor
  ·rintro⟨h1,h2,h3,h4,h5,h6⟩;refine⟨fun x hx=>?_,QH.2 ⟨h6,h5⟩,fun x hx=>?_⟩
   ·rcases QJ.1 hx with rfl|hx
    ·exact⟨h1,h3⟩
    ·exact h4 x hx
   ·rcases QJ.1 hx with rfl|hx
    ·exact h2
    ·cases p with
     | none=>rfl
     | some a=>exact qr h2 (h6 x hx)
  ·rintro⟨h1,h2,h3⟩;obtain⟨h4,h5⟩:=QH.1 h2;have h6:=h1 b (QK ..);exact⟨h6.1,h3 b (QK ..),h6.2,fun x hx=>h1 x (Q4 _ hx),h5,h4⟩
theorem yT {L:Qi}{V:List Bal} :yc L V=true↔(∀x∈V,zH L x=true/\2*zl x V<=L.length)/\yD V/\yg L=true:=by
 unfold yc;rw[Qk,vY];exact⟨fun h=>⟨h.1.1,h.1.2.1,h.2⟩,fun h=>⟨⟨h.1,h.2.1,fun _ _=>rfl⟩,h.2.2⟩⟩
theorem vZ: ∀(W:Qi) (p:Option Qa),yB p W=true↔(∀x∈W,x.size=20)/\qd W/\ ∀x∈W,upB p x=true
 | [],p=>⟨fun _=>⟨fun x hx=>absurd hx (Rs),List.Pairwise.nil,fun x hx=>absurd hx (Rs)⟩,fun _=>rfl⟩
 | b::r,p=>by
  have ih:=vZ r (some b);show (decide (b.size=20)&&(upB p b&&yB (some b) r))=true↔_;rw[Qk,Qk,ih,decide_eq_true_iff];constructor
  ·rintro⟨h1,h2,h4,h5,h6⟩;refine⟨fun x hx=>?_,QH.2 ⟨h6,h5⟩,fun x hx=>?_⟩
   ·rcases QJ.1 hx with rfl|hx
    ·exact h1
    ·exact h4 x hx
   ·rcases QJ.1 hx with rfl|hx
    ·exact h2
    ·cases p with
     | none=>rfl
     | some a=>exact qF h2 (h6 x hx)
  ·rintro⟨h1,h2,h3⟩;obtain⟨h4,h5⟩:=QH.1 h2;exact⟨h1 b (QK ..),h3 b (QK ..),fun x hx=>h1 x (Q4 _ hx),h5,h4⟩
theorem qJ {L:Qi} :yg L=true↔(∀x∈L,x.size=20)/\qd L/\0<L.length/\L.length<=16:=by
 unfold yg;rw[Qk,Qk,vZ,decide_eq_true_iff,decide_eq_true_iff];exact⟨fun h=>⟨h.1.1,h.1.2.1,h.2⟩,fun h=>⟨⟨h.1,h.2.1,fun _ _=>rfl⟩,h.2.2⟩⟩
theorem yK {L:Qi}{b:Bal} :zH L b=true↔b.1∈L/\b.2.1.size=20/\zG b.2.1 L= !b.2.2:=by
 unfold zH;rw[Qk,Qk,yQ,decide_eq_true_iff];refine and_congr Iff.rfl (and_congr Iff.rfl ?_);cases zG b.2.1 L<;>cases b.2.2<;>simp
def neA (a x:Qa):Bool:= !decide (x=a)
theorem yM {a x:Qa} :neA a x=true↔x≠a:=by unfold neA;by_cases h:x=a<;>simp[h]
def qe (a:Qa):Qi->Qi
 | []=>[a]
 | x::r=>if zd (tl a) (tl x)=true then a::(x::r).filter (neA a) else if x=a then qe a r else x::qe a r
theorem xd (a x:Qa)(r:Qi):qe a (x::r)=if zd (tl a) (tl x)=true then a::(x::r).filter (neA a) else if x=a then qe a r else x::qe a r:=rfl
theorem ua (a:Qa)(s:Qi×Bool)(x:Qa):yJ a s x=(if neA a x=true then s.1++ [x] else s.1,s.2):=by
 unfold yJ;by_cases h:x=a
 ·rw[if_pos h,if_neg (fun e=>yM.1 e h)]
 ·rw[if_neg h,if_pos (yM.2 h)]
theorem xf (a:Qa): ∀(L A:Qi),L.foldl (fun s x=>yJ a (zW a s x) x) (A,true)=(A++L.filter (neA a),true)
 | [],A=>by simp
 | x::r,A=>by
  rw[Rv,show zW a (A,true) x=(A,true) from rfl,ua,Q6];by_cases h:neA a x=true
  ·rw[if_pos h,if_pos h,xf a r];simp
  ·rw[if_neg h,if_neg h,xf a r]
def ub (a:Qa)(s:Qi×Bool):Qi:=if s.2=true then s.1 else s.1++ [a]
theorem kf (a:Qa): ∀(L A:Qi),ub a (L.foldl (fun s x=>yJ a (zW a s x) x) (A,false))=A++qe a L
 | [],A=>rfl
 | x::r,A=>by
  rw[Rv,xd];cases h:zd (tl a) (tl x) with
  | true=>
   have e1:zW a (A,false) x=(A++ [a],true):=by unfold zW;rw[h];rfl
   rw[e1];have e2:=xf a (x::r) (A++ [a]);rw[Rv,show zW a (A++ [a],true) x=(A++ [a],true) from rfl]at e2;rw[e2,if_pos rfl];unfold ub;rw[if_pos rfl];simp
  | false=>
   have e1:zW a (A,false) x=(A,false):=by unfold zW;rw[h];rfl
   rw[e1,ua,if_neg QL];by_cases e:x=a
   ·rw[if_neg (fun q=>yM.1 q e),if_pos e];exact kf a r A
   ·rw[if_pos (yM.2 e),if_neg e];exact(kf a r (A++ [x])).trans (by simp)
theorem xg (a:Qa)(L:Qi):zF a true L=qe a L:=by
 have:=kf a L [];rw[R4]at this;exact this
theorem xh (a:Qa)(L:Qi):zF a false L=L.filter (neA a):=by
 have:=xf a L [];rw[R4]at this;unfold zF qq;rw[show (!false)=true from rfl,this,if_pos rfl]
theorem jw (a:Qa): ∀L:Qi,(qe a L).Perm (a::L.filter (neA a))
 | []=>.refl _
 | x::r=>by
  rw[xd];by_cases h:zd (tl a) (tl x)=true
  ·rw[if_pos h]
  ·rw[if_neg h];by_cases e:x=a
   ·rw[if_pos e,Q6,if_neg (fun q=>yM.1 q e)];exact jw a r
   ·rw[if_neg e,Q6,if_pos (yM.2 e)];exact(Ug _ (jw a r)).trans (Ue _ _ _)
theorem kg (a:Qa): ∀ {L:Qi},qd L->qd (qe a L)
 | [],_=>List.pairwise_singleton _ _
 | x::r,hs=>by
  obtain⟨h1,h2⟩:=QH.1 hs;rw[xd];by_cases h:zd (tl a) (tl x)=true
  ·rw[if_pos h];refine QH.2 ⟨fun y hy=>?_,RA _ hs⟩;rcases QJ.1 (Ra.1 hy).1 with rfl | hm
   ·exact h
   ·exact qF h (h1 y hm)
  ·rw[if_neg h];by_cases e:x=a
   ·rw[if_pos e];exact kg a h2
   ·rw[if_neg e];refine QH.2 ⟨fun y hy=>?_,kg a h2⟩;rcases QJ.1 ((jw a r).mem_iff.1 hy) with rfl | hy
    ·exact xb (QM.2 h) fun q=>e q.symm
    ·exact h1 y (Ra.1 hy).1
theorem kh {a:Qa}{L:Qi}(h:a∉L):L.filter (neA a)=L:=Q7.2 fun x hx=>yM.2 fun e=>h (e▸hx)
theorem uc {a:Qa} : ∀ {L:Qi},qd L->a∈L->(L.filter (neA a)).length+1=L.length
 | [],_,h=>absurd h (Rs)
 | x::r,hs,h=>by
  obtain⟨h1,h2⟩:=QH.1 hs;rw[Q6];by_cases e:x=a
  ·rw[if_neg (fun q=>yM.1 q e),kh (fun hm=>vQ (h1 a hm) e),Ro]
  ·rw[if_pos (yM.2 e),Ro,Ro];rcases QJ.1 h with q | q
   ·exact absurd q.symm e
   ·have:=uc h2 q;omega
theorem jx {a:Qa}{add:Bool}{L:Qi}{x:Qa} :x∈zF a add L↔(add=true/\x=a)\/(x∈L/\x≠a):=by
 cases add with
 | true=>
  rw[xg,(jw a L).mem_iff,QJ,Ra,yM];simp
 | false=>
  rw[xh,Ra,yM];simp
theorem ki {a:Qa}{L:Qi}(h:a∉L):(zF a true L).length=L.length+1:=by
 rw[xg,(jw a L).length_eq,Ro,kh h]
theorem ud {a:Qa}{L:Qi}(hs:qd L)(h:a∈L):(zF a false L).length+1=L.length:=by
 rw[xh];exact uc hs h
theorem qW {a:Qa}{L:Qi}(h:zG a L=false):a∉L:=fun e=>by rw[yQ.2 e]at h;cases h
theorem za8 {a:Qa}{L M:Qi}(h:a∈L↔a∈M):zG a L=zG a M:=by
 cases e:zG a M with
 | true=>exact yQ.2 (h.2 (yQ.1 e))
 | false=>exact QM.2 fun q=>qW e (h.1 (yQ.1 q))
theorem za9 {a:Qa}{add:Bool}{L:Qi}(hr:yg L=true)(ha:a.size=20)(hh:zG a L= !add)(h1:add=true->L.length<16)(h2:add=false->L.length≠1):yg (zF a add L)=true:=by
 obtain⟨q1,q2,q3,q4⟩:=qJ.1 hr;refine qJ.2 ⟨fun x hx=>?_,?_,?_⟩
 ·rcases jx.1 hx with⟨_,rfl⟩|⟨hx,_⟩
  ·exact ha
  ·exact q1 x hx
 ·cases add with
  | true=>rw[xg];exact kg a q2
  | false=>rw[xh];exact RA _ q2
 ·cases add with
  | true=>
   have:=ki (qW hh);have:=h1 rfl;omega
  | false=>
   have:=ud q2 (yQ.1 hh);have:=h2 rfl;omega
theorem zba (b:Bal):zJ b b=true:=by unfold zJ;simp
theorem zbb {b x:Bal}(h:zJ x b=true):zl x=zl b:=by
 unfold zJ at h;rw[Qk,decide_eq_true_iff,beq_iff_eq]at h;funext V;unfold zl;congr 2;funext y;unfold zJ;rw[h.1,h.2]
theorem kj {c:Bal}{A V:List Bal}(h:A.Sublist V):zl c A<=zl c V:=(h.filter _).length_le
theorem ue {b x:Bal}{V:List Bal}(h: ¬zJ x b=true):zl x (zj b V)<=zl x V:=by
 rw[vX,if_neg h,Qt];exact kj (RK)
theorem ko {b x:Bal}{V:List Bal} :x∈zj b V↔x=b\/(x∈V/\nsB b x=true):=by
 rw[(qI b V).mem_iff,QJ,Ra]
theorem jy {L:Qi}{V:List Bal}{b:Bal}(h:(zs L V b).2.2=0):yc L V=true/\zH L b=true/\(b.2.2=true->L.length<16)/\(b.2.2=false->L.length≠1)/\
 zs L V b=if 2*zl b (zj b V)<=L.length then (L,zj b V,0) else (zF b.2.1 b.2.2 L,((zj b V).filter (yb b)).filter (fun x=>b.2.2||decide (2*zl x ((zj b V).filter (yb b))<=(zF b.2.1 b.2.2 L).length)),0):=by
 unfold zs at h⊢;by_cases h1:yc L V=false
 ·rw[if_pos h1]at h;cases h
 rw[if_neg h1]at h⊢;by_cases h2:zH L b=false\/(b.2.2=true/\16<=L.length)\/(b.2.2=false/\L.length=1)
 ·rw[if_pos h2]at h;cases h
 rw[if_neg h2];refine⟨by cases e:yc L V<;>simp_all,by cases e:zH L b<;>simp_all,fun e=>?_,fun e q=>h2 (.inr (.inr ⟨e,q⟩)),rfl⟩;exact Nat.lt_of_not_le fun q=>h2 (.inr (.inl ⟨e,q⟩))
theorem kp {L:Qi}{V:List Bal}{b:Bal}(h:(zs L V b).2.2=0):yc (zs L V b).1 (zs L V b).2.1=true:=by
 obtain⟨hr,hf,ha,hc,e⟩:=jy h;rw[e];obtain⟨r1,r2,r3⟩:=yT.1 hr;obtain⟨f1,f2,f3⟩:=yK.1 hf;by_cases h2:2*zl b (zj b V)<=L.length
 ·rw[if_pos h2];refine yT.2 ⟨fun x hx=>?_,qV b r2,r3⟩;rcases ko.1 hx with rfl | ⟨hx,hn⟩
  ·exact⟨hf,h2⟩
  ·refine⟨(r1 x hx).1,?_⟩;by_cases q:zJ x b=true
   ·rw[zbb q];exact h2
   ·have:=ue (V:=V) q;have:=(r1 x hx).2;show 2*zl x (zj b V)<=L.length;omega
 ·rw[if_neg h2];have hset:yg (zF b.2.1 b.2.2 L)=true:=za9 r3 f2 f3 ha hc;refine yT.2 ⟨fun x hx=>?_,(RA _ (RA _ (qV b r2))),hset⟩;change x∈((zj b V).filter (yb b)).filter _ at hx;obtain⟨hx1,hx2⟩:=Ra.1 hx;obtain⟨hx3,hx4⟩:=Ra.1 hx1;unfold yb at hx4;rw[Qk,decide_eq_true_iff,RG,decide_eq_true_iff]at hx4;have hxV:x∈V:=by
   rcases ko.1 hx3 with rfl|⟨hx,_⟩
   ·exact absurd rfl hx4.1
   ·exact hx
  obtain⟨g1,g2⟩:=r1 x hxV;obtain⟨g3,g4,g5⟩:=yK.1 g1;refine⟨yK.2 ⟨jx.2 ?_,g4,?_⟩,?_⟩
  ·by_cases q:x.1=b.2.1
   ·rcases hx4.2 with h9|h9
    ·exact .inl ⟨h9,q⟩
    ·exact absurd q h9
   ·exact .inr ⟨g3,q⟩
  ·refine(za8 ?_).trans g5;rw[jx];exact⟨fun h9=>h9.elim (fun q=>absurd q.2 hx4.1) (·.1),fun h9=>.inr ⟨h9,hx4.1⟩⟩
  ·show 2*zl x (((zj b V).filter (yb b)).filter _)<=(zF b.2.1 b.2.2 L).length;cases had:b.2.2 with
   | true=>
    have k1:zl x (((zj b V).filter (yb b)).filter (fun x=>true||decide (2*zl x ((zj b V).filter (yb b))<=(zF b.2.1 true L).length)))<=zl x (zj b V):=kj (List.Sublist.trans RK RK)
    have k2:zl x (zj b V)<=zl x V:=ue fun q=>hx4.1 (by
     unfold zJ at q;rw[Qk,decide_eq_true_iff]at q;exact q.1.symm)
    rw[had]at f3;have k3:=ki (qW f3);omega
   | false=>
    rw[had,RR,decide_eq_true_iff]at hx2;exact Rb (Nat.mul_le_mul_left 2 (kj RK)) hx2
def qX (b x:Bal):Bool:=decide (x.2.1=b.2.1)&&(x.2.2==b.2.2)&& !decide (x.1=b.1)
theorem zbc (b:Bal):(fun x=>zJ b x&&nsB b x)=qX b:=by
 funext x;unfold zJ nsB qX;cases decide (x.2.1=b.2.1)<;>cases (x.2.2==b.2.2)<;>cases decide (x.1=b.1)<;>rfl
theorem xi (b:Bal)(V:List Bal):zl b (zj b V)=(V.filter (qX b)).length+1:=by
 rw[vX,if_pos (zba b),List.filter_filter,zbc,Nat.add_comm]
theorem zbd {L:Qi}{V:List Bal}{b:Bal}(h:(zs L V b).2.2=0):
 1<=(zs L V b).1.length/\(zs L V b).1.length<=L.length+1/\L.length<=(zs L V b).1.length+1/\(L.length≠(zs L V b).1.length↔L.length<2*((V.filter (qX b)).length+1))/\
 (L.length≠(zs L V b).1.length->zG b.2.1 (zs L V b).1=b.2.2):=by
 have hR:=kp h;obtain⟨hr,hf,ha,hc,e⟩:=jy h;obtain⟨r1,r2,r3⟩:=yT.1 hr;obtain⟨f1,f2,f3⟩:=yK.1 hf;have hs:=(qJ.1 r3).2.1;have hpos:=(qJ.1 (yT.1 hR).2.2).2.2.1;rw[<-xi];rw[e]at hpos⊢;by_cases h2:2*zl b (zj b V)<=L.length
 ·rw[if_pos h2]at hpos⊢;change 0<L.length at hpos;show 1<=L.length/\L.length<=L.length+1/\L.length<=L.length+1/\(L.length≠L.length↔_)/\(L.length≠L.length->_)
  exact⟨hpos,Nat.le_succ _,Nat.le_succ _,⟨fun q=>absurd rfl q,fun q=>by omega⟩,fun q=>absurd rfl q⟩
 ·rw[if_neg h2]at hpos⊢;change 0<(zF b.2.1 b.2.2 L).length at hpos;show 1<=(zF b.2.1 b.2.2 L).length/\(zF b.2.1 b.2.2 L).length<=L.length+1/\L.length<=(zF b.2.1 b.2.2 L).length+1/\(L.length≠(zF b.2.1 b.2.2 L).length↔L.length<2*zl b (zj b V))/\(L.length≠(zF b.2.1 b.2.2 L).length->zG b.2.1 (zF b.2.1 b.2.2 L)=b.2.2)
  cases had:b.2.2 with
  | true=>
   rw[had]at f3 hpos;have k:=ki (qW f3);exact⟨hpos,by omega,by omega,⟨fun _=>by omega,fun _=>by omega⟩,fun _=>yQ.2 (jx.2 (.inl ⟨rfl,rfl⟩))⟩
  | false=>
   rw[had]at f3 hpos;have k:=ud hs (yQ.1 f3)
   exact⟨hpos,by omega,by omega,⟨fun _=>by omega,fun _=>by omega⟩,fun _=>QM.2 fun q=>by
    rcases jx.1 (yQ.1 q) with⟨q,_⟩|⟨_,q⟩
    ·cases q
    ·exact q rfl⟩
theorem uf {L:Qi}{V:List Bal}{b:Bal}(hr:yc L V=true)(hf:zH L b=true)(ha:b.2.2=true->L.length<16)(hc:b.2.2=false->L.length≠1)(h2:2*zl b (zj b V)<=L.length):zs L V b=(L,zj b V,0):=by
 unfold zs;rw[if_neg (by rw[hr];decide),if_neg,if_pos h2];rintro (q | ⟨q,k⟩ | ⟨q,k⟩)
 ·rw[hf]at q;cases q
 ·have:=ha q;omega
 ·exact hc q k
theorem ug {L:Qi}{V:List Bal}{b:Bal}(h:(zs L V b).2.2=0)(hl:(zs L V b).1.length=L.length):zs L V b=(L,zj b V,0)/\2*zl b (zj b V)<=L.length:=by
 obtain⟨hr,hf,ha,hc,e⟩:=jy h;have hk:=(zbd h).2.2.2.1;rw[<-xi]at hk;by_cases h2:2*zl b (zj b V)<=L.length
 ·rw[if_pos h2]at e;exact⟨e,h2⟩
 ·exact absurd hl.symm (hk.2 (by omega))
theorem zbe {L:Qi}{V:List Bal}{a b:Bal}(h1:(zs L V a).2.2=0)(h2:(zs L V b).2.2=0)(hw:a.2.1≠b.2.1)(l1:(zs L V a).1.length=L.length)(l2:(zs L V b).1.length=L.length):
 zs (zs L V a).1 (zs L V a).2.1 b=(L,zj b (zj a V),0)/\zs (zs L V b).1 (zs L V b).2.1 a=(L,zj b (zj a V),0):=by
 have hA:=kp h1;have hB:=kp h2;obtain⟨hr,fa,a1,a2,_⟩:=jy h1;obtain⟨_,fb,b1,b2,_⟩:=jy h2;obtain⟨e1,k1⟩:=ug h1 l1;obtain⟨e2,k2⟩:=ug h2 l2;have hs:=(yT.1 hr).2.1;have hn:nsB a b=true:=yq.2 fun q=>hw q.1.symm;have cn: ∀ {a b:Bal},a.2.1≠b.2.1->zl b (zj b (zj a V))<=zl b (zj b V):=fun {a b} hw=>by
  rw[xi,xi];have h9:=((qI a V).filter (qX b)).length_eq;rw[Q6,if_neg (by unfold qX;rw[decide_eq_false hw];exact QL)]at h9;rw[h9];exact Nat.succ_le_succ ((RK).filter _).length_le
 rw[e1]at hA⊢;rw[e2]at hB⊢;constructor
 ·exact uf hA fb b1 b2 (Rb (Nat.mul_le_mul_left 2 (cn hw)) k2)
 ·rw[<-za7 a b hs hn];exact uf hB fa a1 a2 (Rb (Nat.mul_le_mul_left 2 (cn fun q=>hw q.symm)) k1)
def whoC (a:Qa)(V:List Bal):Nat:=(V.filter fun x=>decide (x.2.1=a)).length
theorem uh (a:Qa)(V:List Bal):whoC a V<=V.length:=RI _ _
theorem kq (a:Qa)(V:List Bal)(x:Bal):whoC a (V++ [x])=whoC a V+if x.2.1=a then 1 else 0:=by
 unfold whoC;rw[Q5,QF];congr 1;by_cases h:x.2.1=a
 ·rw[if_pos h,RV (by simpa using h)];rfl
 ·rw[if_neg h,Rg (by simpa using h)];rfl
def qs:Option Bal->Nat->Bal->Nat
 | none,m,_=>m+1
 | some a,m,x=>(if a.2.1=x.2.1 then m else 0)+1
def qY (L:Qi):Option Bal->Nat->List Bal->Bool
 | _,_,[]=>true
 | p,m,x::r=>zH L x&&(yR p x&&(decide (2*qs p m x<=L.length)&&qY L (some x) (qs p m x) r))
def yE (L:Qi)(V:List Bal):Bool:=qY L none 0 V
theorem kt {L:Qi}{V:List Bal}{x:Bal}(hx:zH L x=true)(hV: ∀y∈V,zH L y=true):zl x V=whoC x.2.1 V:=by
 unfold zl whoC;congr 1;refine List.filter_congr fun y hy=>?_;obtain⟨_,_,h1⟩:=yK.1 hx;obtain⟨_,_,h2⟩:=yK.1 (hV y hy);unfold zJ;by_cases e:y.2.1=x.2.1
 ·rw[e,h1]at h2;rw[decide_eq_true e,Ri,beq_iff_eq];cases hy2:y.2.2<;>cases hx2:x.2.2<;>simp_all
 ·rw[decide_eq_false e];rfl
structure Run (A:List Bal)(p:Option Bal)(m:Nat):Prop where
 no:p=none->A=[]/\m=0
 so: ∀a,p=some a->m=whoC a.2.1 A/\ ∀y∈A,y=a\/aheadB y a=true
theorem Run.next {A:List Bal}{p:Option Bal}{m:Nat}{x:Bal}(h:Run A p m)(hp:yR p x=true):Run (A++ [x]) (some x) (qs p m x):=by
 refine⟨(fun q=>nomatch q),fun a q=>?_⟩;obtain rfl:x=a:=QX.inj q;refine⟨?_,fun y hy=>?_⟩
 ·rw[kq,if_pos rfl];cases p with
  | none=>
   obtain⟨rfl,rfl⟩:=h.no rfl;rfl
  | some a=>
   obtain⟨hm,ha⟩:=h.so a rfl;show (if a.2.1=x.2.1 then m else 0)+1=_;by_cases e:a.2.1=x.2.1
   ·rw[if_pos e,hm,e]
   ·rw[if_neg e];congr 1;unfold whoC;rw[List.filter_eq_nil_iff.2,List.length_nil];intro y hy;simp only[decide_eq_true_eq];intro hyx;have hp2:aheadB a x=true:=hp;have hlt:zd (tl a.2.1) (tl x.2.1)=true:=by unfold aheadB at hp2;rwa [if_neg e]at hp2
    rcases ha y hy with rfl|hya
    ·exact e hyx
    ·unfold aheadB at hya;by_cases e2:y.2.1=a.2.1
     ·exact e (e2.symm.trans hyx)
     ·rw[if_neg e2,hyx]at hya;rw[vR hlt]at hya;cases hya
 ·rcases R8.1 hy with hy|hy
  ·cases p with
   | none=>rw[(h.no rfl).1]at hy;exact nomatch hy
   | some a=>
    have hp2:aheadB a x=true:=hp;rcases (h.so a rfl).2 y hy with rfl | q
    ·exact .inr hp2
    ·exact .inr (qr q hp2)
  ·exact .inl (RP.1 hy)
theorem ku {L:Qi} : ∀(W A:List Bal) (p:Option Bal) (m:Nat),Run A p m->(qY L p m W=true↔(∀x∈W,zH L x=true)/\yD W/\(∀x∈W,yR p x=true)/\ ∀B x C,W=B++x::C->2*whoC x.2.1 (A++B++ [x])<=L.length)
 | [],A,p,m,_=>⟨fun _=>⟨fun x hx=>absurd hx (Rs),List.Pairwise.nil,fun x hx=>absurd hx (Rs),fun B x C h=>by simp at h⟩,fun _=>rfl⟩
 | x::r,A,p,m,hR=>by
  unfold qY;rw[Qk,Qk,Qk,decide_eq_true_iff];constructor
  ·rintro⟨h1,h2,h3,h4⟩;have hn:=hR.next h2
   obtain⟨g1,g2,g3,g4⟩:=(ku r (A++ [x]) (some x) _ hn).1 h4;refine⟨fun y hy=>?_,QH.2 ⟨g3,g2⟩,fun y hy=>?_,fun B y C e=>?_⟩
   ·rcases QJ.1 hy with rfl|hy
    ·exact h1
    ·exact g1 y hy
   ·rcases QJ.1 hy with rfl|hy
    ·exact h2
    ·cases p with
     | none=>rfl
     | some a=>exact qr h2 (g3 y hy)
   ·cases B with
    | nil=>
     obtain⟨rfl,rfl⟩:x=y/\r=C:=by simpa using e
     rw[Rr,<-(hn.so x rfl).1];exact h3
    | cons z B=>
     obtain⟨rfl,e⟩:x=z/\r=B++y::C:=by simpa using e
     have:=g4 B y C (by assumption);rw[show A++x::B=A++ [x]++B by simp];exact this
  ·rintro⟨g1,g2,g3,g4⟩;obtain⟨q1,q2⟩:=QH.1 g2;have h2:=g3 x (QK ..);have hn:=hR.next h2
   refine⟨g1 x (QK ..),h2,?_,(ku r (A++ [x]) (some x) _ hn).2 ⟨fun y hy=>g1 y (Q4 _ hy),q2,q1,fun B y C e=>?_⟩⟩
   ·have:=g4 [] x r rfl;rw[Rr,<-(hn.so x rfl).1]at this;exact this
   ·have:=g4 (x::B) y C (by rw[e];rfl);rw[show A++ [x]++B=A++x::B by simp];exact this
theorem ui {α:Type}{P:List α->Prop}(h0:P [])(h1: ∀A x,P A->P (A++ [x]))(V:List α):P V:=by
 have: ∀n (V:List α),V.length=n->P V:=by
  intro n
  induction n with
  | zero=>intro V h;rw[List.length_eq_zero_iff.1 h];exact h0
  | succ n ih=>
   intro V h;have hne:V≠[]:=fun e=>by rw[e]at h;cases h
   have:=h1 V.dropLast (V.getLast hne) (ih _ (by rw[List.length_dropLast,h];rfl))
   rwa [List.dropLast_concat_getLast hne]at this
 exact this _ V rfl
theorem zbf {k:Nat}(V:List Bal):(∀B x C,V=B++x::C->2*whoC x.2.1 (B++ [x])<=k)-> ∀x∈V,2*whoC x.2.1 V<=k:=by
 refine ui (P:=fun V=>(∀B x C,V=B++x::C->2*whoC x.2.1 (B++ [x])<=k)-> ∀x∈V,2*whoC x.2.1 V<=k) (fun _ x hx=>absurd hx (Rs)) (fun A y ih h x hx=>?_) V;have hy:=h A y [] rfl;by_cases e:x.2.1=y.2.1
 ·rw[e];exact hy
 ·rcases R8.1 hx with hx|hx
  ·have:=ih (fun B z C q=>h B z (C++ [y]) (by rw[q];simp)) x hx;rw[kq,if_neg (fun q=>e q.symm)];exact this
  ·rw[RP.1 hx]at e;exact absurd rfl e
theorem zbg (L:Qi)(V:List Bal):(yg L&&yE L V)=yc L V:=by
 rw[Uj,yT,Qk];unfold yE;rw[ku V [] none 0 ⟨fun _=>⟨rfl,rfl⟩,(fun a h=>nomatch h)⟩];constructor
 ·rintro⟨hs,h1,h2,_,h4⟩;have h5:=zbf (k:=L.length) V (fun B x C e=>by simpa using h4 B x C e);exact⟨fun x hx=>⟨h1 x hx,by rw[kt (h1 x hx) h1];exact h5 x hx⟩,h2,hs⟩
 ·rintro⟨h1,h2,hs⟩;refine⟨hs,fun x hx=>(h1 x hx).1,h2,fun _ _=>rfl,fun B x C e=>?_⟩;have hx:x∈V:=by rw[e];simp
  have:=(h1 x hx).2;rw[kt (h1 x hx).1 (fun y hy=>(h1 y hy).1)]at this;have hsub:(([]:List Bal)++B++ [x]).Sublist V:=by
   rw[e,R4];exact Rn (Rt _) (QS _ (List.nil_sublist _))
  have:whoC x.2.1 ([]++B++ [x])<=whoC x.2.1 V:=(hsub.filter _).length_le;omega
def zi {α:Type}(f:α->Bool):List α->Nat
 | []=>0
 | x::r=>if f x=true then zi f r+1 else 0
theorem qt {α:Type}(f:α->Bool): ∀L:List α,zi f L<=L.length
 | []=>Qs _
 | x::r=>by
  have:=qt f r;unfold zi;split
  ·rw[Ro];omega
  ·omega
def zn {α:Type}[DecidableEq α](f:α->Bool)(b:α)(L:List α):List α:=if L[zi f L]? =some b then L else L.take (zi f L)++b::L.drop (zi f L)
theorem uj {α:Type}[DecidableEq α](f:α->Bool)(b x:α)(r:List α):zn f b (x::r)=if f x=true then x::zn f b r else if x=b then x::r else b::x::r:=by
 unfold zn;rw[zi];by_cases h:f x=true
 ·rw[if_pos h,if_pos h];rw[List.getElem?_cons_succ];by_cases e:r[zi f r]? =some b
  ·rw[if_pos e,if_pos e]
  ·rw[if_neg e,if_neg e];rfl
 ·rw[if_neg h,if_neg h,List.getElem?_cons_zero];by_cases e:x=b
  ·rw[if_pos e,if_pos (by rw[e])]
  ·rw[if_neg e,if_neg (fun q=>e (QX.inj q))];rfl
theorem zbh (b:Bal): ∀ {V:List Bal},yD V->(∀x∈V,nsB b x=false->x=b)->zn (fun x=>aheadB x b) b V=zj b V:=by
 intro V hs hb;rw[kb]
 induction V with
 | nil=>rfl
 | cons x r ih=>
  obtain⟨h1,h2⟩:=QH.1 hs;rw[uj,vS];by_cases h:aheadB x b=true
  ·rw[if_pos h,if_pos h,ih h2 fun y hy=>hb y (Q4 _ hy)]
  ·rw[if_neg h,if_neg h];by_cases e:x=b
   ·rw[if_pos e];subst e;rw[Q6,if_neg (fun e=>yq.1 e ⟨rfl,rfl⟩),Q7.2];intro y hy;exact yq.2 fun q=>yq.1 (xc (h1 y hy)) ⟨q.1.symm,q.2.symm⟩
   ·rw[if_neg e];have hn:nsB b x=true:=by
     cases q:nsB b x with
     | true=>rfl
     | false=>exact absurd (hb x (QK ..) q) e
    have ha:=xZ (QM.2 h) hn;rw[Q7.2];intro y hy;rcases QJ.1 hy with rfl | hy
    ·exact hn
    ·exact yq.2 fun q=>yq.1 (xc (qr ha (h1 y hy))) ⟨q.1.symm,q.2.symm⟩
theorem zbi (a:Qa): ∀ {L:Qi},qd L->a∉L->zn (fun x=>zd (tl x) (tl a)) a L=zF a true L:=by
 intro L hs ha;rw[xg]
 induction L with
 | nil=>rfl
 | cons x r ih=>
  obtain⟨h1,h2⟩:=QH.1 hs;have hxa:x≠a:=fun e=>ha (by rw[e];exact QK ..);rw[uj,xd];by_cases h:zd (tl x) (tl a)=true
  ·rw[if_pos h,if_neg (by rw[vR h];exact QL),if_neg hxa,ih h2 fun q=>ha (Q4 _ q)]
  ·rw[if_neg h,if_neg hxa,if_pos (xb (QM.2 h) hxa),kh ha]
def goB (b x:Bal):Bool:=decide (x.2.1=b.2.1)||decide (x.1=b.2.1)
def ym (many:List Bal)(n:Nat)(x:Bal):Bool:=decide (n<2*whoC x.2.1 many)
def yi (L:Qi)(V:List Bal)(b:Bal):Qi×List Bal:=
 if b.2.2=true then (zn (fun x=>zd (tl x) (tl b.2.1)) b.2.1 L,V.filter fun x=> !goB b x)
 else (L.filter (fun x=> !decide (x=b.2.1)),(V.filter fun x=> !goB b x).filter fun x=> !ym (V.filter fun x=> !goB b x) (L.filter (fun x=> !decide (x=b.2.1))).length x)
def qu (L:Qi)(b:Bal):Bool:=zH L b&&(if b.2.2=true then decide (L.length<16) else decide (1<L.length))
def yU (L:Qi)(V:List Bal)(b:Bal):Qi×List Bal×Nat:=
 if yc L V=false then ([],[],1)
 else if qu L b=false then ([],[],44)
 else if L.length<2*zl b (zn (fun x=>aheadB x b) b V) then ((yi L (zn (fun x=>aheadB x b) b V) b).1,(yi L (zn (fun x=>aheadB x b) b V) b).2,0)
 else (L,zn (fun x=>aheadB x b) b V,0)
theorem xj (L:Qi)(V:List Bal)(b:Bal):yU L V b=zs L V b:=by
 unfold yU zs;by_cases hr:yc L V=false
 ·rw[if_pos hr,if_pos hr]
 rw[if_neg hr,if_neg hr];have hr:yc L V=true:=by cases q:yc L V<;>simp_all
 obtain⟨r1,r2,r3⟩:=yT.1 hr;obtain⟨s1,s2,s3,s4⟩:=qJ.1 r3;by_cases hc:qu L b=false
 ·rw[if_pos hc,if_pos];unfold qu at hc;cases ef:zH L b with
  | false=>exact .inl rfl
  | true=>
   rw[ef,Ri]at hc;cases eb:b.2.2 with
   | true=>rw[eb,if_pos rfl,decide_eq_false_iff_not]at hc;exact .inr (.inl ⟨rfl,by omega⟩)
   | false=>rw[eb,if_neg (by decide),decide_eq_false_iff_not]at hc;exact .inr (.inr ⟨rfl,by omega⟩)
 have hc':zH L b=true/\(if b.2.2=true then decide (L.length<16) else decide (1<L.length))=true:=by
  unfold qu at hc
  rwa [Bool.not_eq_false,Qk]at hc
 obtain⟨hf,hl⟩:=hc';obtain⟨f1,f2,f3⟩:=yK.1 hf;have hno: ¬(zH L b=false\/(b.2.2=true/\16<=L.length)\/(b.2.2=false/\L.length=1)):=fun h=>by
  rcases h with h|⟨h,h9⟩|⟨h,h9⟩
  ·rw[hf]at h;cases h
  ·rw[h,if_pos rfl,decide_eq_true_iff]at hl;omega
  ·rw[h,if_neg (by decide),decide_eq_true_iff]at hl;omega
 rw[if_neg hc,if_neg hno];have hput:zn (fun x=>aheadB x b) b V=zj b V:=zbh b r2 fun x hx hn=>by
  have hn: ¬nsB b x=true:=by rw[hn];exact QL
  have hq:x.2.1=b.2.1/\x.1=b.1:=by
   by_cases q:x.2.1=b.2.1/\x.1=b.1
   ·exact q
   ·exact absurd (yq.2 q) hn
  obtain⟨g1,g2,g3⟩:=yK.1 (r1 x hx).1;rw[hq.1,f3]at g3;exact Uw hq.2 (Uw hq.1 (by cases e1:x.2.2<;>cases e2:b.2.2<;>simp_all))
 rw[hput];by_cases h2:2*zl b (zj b V)<=L.length
 ·rw[if_neg (by omega),if_pos h2]
 rw[if_pos (by omega),if_neg h2];have hall: ∀x∈zj b V,zH L x=true:=fun x hx=>by
  rcases ko.1 hx with rfl|⟨hx,_⟩
  ·exact hf
  ·exact(r1 x hx).1
 have hgo:((zj b V).filter fun x=> !goB b x)=(zj b V).filter (yb b):=List.filter_congr fun x hx=>by
  unfold goB yb;have hx1:=(yK.1 (hall x hx)).1;by_cases e1:x.2.1=b.2.1
  ·simp[e1]
  cases eb:b.2.2 with
  | false=>by_cases e2:x.1=b.2.1<;>simp[e1,e2]
  | true=>
   rw[eb]at f3;have:x.1≠b.2.1:=fun q=>qW f3 (q▸hx1);simp[e1,this]
 unfold yi;rw[hgo];cases eb:b.2.2 with
 | true=>
  rw[eb]at f3;rw[if_pos rfl,zbi b.2.1 s2 (qW f3)];refine Uw rfl (Uw ?_ rfl);show (zj b V).filter (yb b)=((zj b V).filter (yb b)).filter _;exact(Q7.2 fun x _=>rfl).symm
 | false=>
  rw[if_neg (by decide)];have hcut:L.filter (fun x=> !decide (x=b.2.1))=zF b.2.1 false L:=by rw[xh];rfl
  rw[hcut];refine Uw rfl (Uw ?_ rfl);refine List.filter_congr fun x hx=>?_;have hx1:=Ra.1 hx;have hw:=kt (L:=L) (V:=(zj b V).filter (yb b)) (hall x hx1.1) (fun y hy=>hall y (Ra.1 hy).1);unfold ym;rw[<-hw,RR];by_cases q:2*zl x ((zj b V).filter (yb b))<=(zF b.2.1 false L).length
  ·rw[decide_eq_true q,decide_eq_false (by omega)];rfl
  ·rw[decide_eq_false q,decide_eq_true (by omega)];rfl
section
open D2 (Gh)
theorem zN {w w':World}{b:Nat}{o:Obj}(h:w.heap[b]? =some o)(hb:Below w.heap.size w w'):w'.heap[b]? =some o:=by rw[hb.block b (zk h)];exact h
theorem uk (x y:Qa):(!(RB x.toList y.toList))= !(zd (tl x) (tl y)):=by rw[jX]
def yN (a:Qa):Nat->Qi->Int
 | _,[]=> -1
 | k,x::r=>if x=a then (k:Int) else yN a (k+1) r
theorem ul (a:Qa): ∀(L:Qi) (k:Nat),decide (yN a k L≥0)=zG a L
 | [],k=>rfl
 | x::r,k=>by
  unfold yN zG;by_cases h:x=a
  ·rw[if_pos h,decide_eq_true h];exact decide_eq_true (by omega)
  ·rw[if_neg h,decide_eq_false h,RR];exact ul a r (k+1)
theorem zbj (p:Qc)(n c:Nat)(L:Qi)(a:Qa)(hL:L.length<=1000000):FnP Try.prog 46 #[.slice p n c,.string a] (fun w=>AtF sS w p n L) (.int .i64 (yN a 0 L)):=by
 refine FnP.intro (c:=zu Try.f46) [.tmp 4] 19 Try.func46 kr kr kr fun w hP=>?_;have hn:=hP.1;have H0:=St.start w;refine rS [.v] H0 kr fun gs1 w1 H1=>zf kr<|rS [.v,.v,.v] H1 kr fun gs2 w2 H2=>yv 8 7 9 18 0 1 n (by omega) (fun i ρ ww=>yN a 0 L=yN a i (L.drop i)/\St w.heap.size w ww []/\Is [(0,.slice p n c),(1,.string a),(7,iN n),(8,iN i)] ρ) (by rintro i _ ww ⟨_,_,_,rfl⟩;exact⟨kr,kr⟩) ⟨rfl,H2.as kr,isK⟩ ?_ ?_
 ·clear H0 H1 H2;rintro i _ w3 hi ⟨hst,H3,_,rfl⟩;obtain⟨x,hx⟩:∃x,L[i]? =some x:=⟨_,Qj (by omega)⟩
  obtain⟨bl,off,C,T,fz,hp,hh,hR⟩:=hP.row2 (by omega);have hcx:C[off+i*1]? =some (.string x):=hR.cell hx 0 (by decide);rw[qT hx]at hst;change yN a 0 L=(if x=a then (i:Int) else yN a (i+1) (L.drop (i+1)))at hst;refine rS [.v,.v] H3 kr fun gs4 w4 H4=>?_;by_cases e:a=x
  ·refine rS [.v,.v,.v,.o (ins:=[((.tmp 12),.slice p n c),((.tmp 13),iN i)]) (v:=.pointer (some ⟨bl,off+i*1,none⟩)) (fun ρ o w ho hi2=>zv (kd:=.i64) (t:=22) (e:=9) (K:=1) (bytes:=16) kr (x:=(.tmp 12)) (y:=(.tmp 13)) bl off n c i hp ho hi2.1 hi2.2.1 (by omega) w),.fs (off:=off+i*1) (v:=.string x) hh (zk hh) hcx,.E (.bool (a.toList==x.toList)) (.bool true) (za (yH _ _ e))] H4 kr fun gs5 w5 H5=>zy<|rS [.v,.v] H5 kr fun gs6 w6 H6=>?_;exact rRe [.tmp 4] [] (v:=iN i) (v':=.int .i64 (yN a 0 L)) H6 (zh (by rw[hst,if_pos e.symm])) kr
  ·refine rS [.v,.v,.v,.o (ins:=[((.tmp 12),.slice p n c),((.tmp 13),iN i)]) (v:=.pointer (some ⟨bl,off+i*1,none⟩)) (fun ρ o w ho hi2=>zv (kd:=.i64) (t:=22) (e:=9) (K:=1) (bytes:=16) kr (x:=(.tmp 12)) (y:=(.tmp 13)) bl off n c i hp ho hi2.1 hi2.2.1 (by omega) w),.fs (off:=off+i*1) (v:=.string x) hh (zk hh) hcx,.E (.bool (a.toList==x.toList)) (.bool false) (za (yp _ _ e))] H4 kr fun gs5 w5 H5=>zx ?_;exact⟨kr,by rw[hst,if_neg (fun q=>e q.symm)],H5.as kr,isK⟩
 ·rintro _ w3 ⟨hst,H3,_,rfl⟩;rw[QC (by omega)]at hst;refine wW<|rS [.v] H3 kr fun gs4 w4 H4=>?_;exact rRe [.tmp 4] [] (v:=.int .i64 (-1)) (v':=.int .i64 (yN a 0 L)) H4 (zh hst.symm) kr
theorem zbk (p:Qc)(n c:Nat)(L:Qi)(a:Qa)(hL:L.length<=1000000):FnP Try.prog 32 #[.slice p n c,.string a] (fun w=>AtF sS w p n L) (.bool (zG a L)):=by
 refine FnP.intro (c:=zu Try.f32) [.tmp 4] 9 Try.func32 kr kr kr fun w hP=>?_;have hi:=zbj p n c L a hL;refine rS [.v] (St.start w) kr fun gs1 w1 H1=>rS [.v,.v,.cp (pre:=fun w=>AtF sS w p n L) hi [] (fun w hb hd=>hP.call hb),.E (.bool (decide (yN a 0 L≥0))) (.bool (zG a L)) (za (ul a L 0)),.v] H1 kr fun gs2 w2 H2=>?_;exact rR [.tmp 4] [] (.bool (zG a L)) H2 kr
theorem um (q:Qc)(m cq:Nat)(L:Qi)(p:Qc)(n c:Nat)(a:Qa)(hL:L.length<=1000000):FnP Try.prog 13 #[snV q m cq p n c,.string a] (fun w=>AtF sS w q m L) (.bool (zG a L)):=by
 refine FnP.intro (c:=zu Try.f13) [.tmp 4] 9 Try.func13 kr kr kr fun w hP=>?_;have hi:=zbk q m cq L a hL;refine rS [.b,.v] (St.start w) kr fun gs1 w1 H1=>rS [.v,.l 0,.v,.cp (pre:=fun w=>AtF sS w q m L) hi [] (fun w hb hd=>hP.call hb),.v] H1 kr fun gs2 w2 H2=>?_;exact rR [.tmp 4] [] (.bool (zG a L)) H2 kr
theorem zbl (q:Qc)(m cq:Nat)(p:Qc)(n c:Nat)(V:List Bal)(b:Bal)(hV:V.length<=1000000):FnP Try.prog 15 #[snV q m cq p n c,blV b] (fun w=>AtF blS w p n V) (iN (zl b V)):=by
 refine FnP.intro (c:=zu Try.f15) [.tmp 4] 31 Try.func15 kr kr kr fun w hP=>?_;have hn:=hP.1;have H0:=St.start w;refine rS [.b,.b,.v] H0 kr fun gs1 w1 H1=>rS [.v] H1 kr fun gs2 w2 H2=>zf kr<|rS [.v,.l 0,.v,.v] H2 kr fun gs3 w3 H3=>yv 11 10 12 29 0 1 n (by omega) (fun i ρ ww=>St w.heap.size w ww [((gs1 0).b,snO q m cq p n c),((gs1 1).b,blO b)]/\Is [(3,Qe (gs1 1).b),(5,iN (zl b (V.take i))),(9,.slice p n c),(10,iN n),(11,iN i)] ρ) (by rintro i _ ww ⟨_,_,rfl⟩;exact⟨kr,kr⟩) ⟨H3.as kr,isK⟩ ?_ ?_
 ·clear H0 H1 H2 H3;rintro i _ w4 hi ⟨H4,_,rfl⟩;obtain⟨x,hx⟩:∃x,V[i]? =some x:=⟨_,Qj (by omega)⟩
  obtain⟨bl,off,C,T,fz,hp,hh,hR⟩:=hP.row2 (by omega);have hle:=vG b (V.take i);rw[Qw]at hle;have hsn:zl b (V.take (i+1))=zl b (V.take i)+if zJ b x=true then 1 else 0:=by rw[ya hx,zaR]
  refine rS [.o (ins:=[((.tmp 9),.slice p n c),((.tmp 11),iN i)]) (v:=.pointer (some ⟨bl,off+i*3,none⟩)) (fun ρ o w ho hi2=>zv (kd:=.i64) (t:=23) (e:=27) (K:=3) (bytes:=40) kr (x:=(.tmp 9)) (y:=(.tmp 11)) bl off n c i hp ho hi2.1 hi2.2.1 (by omega) w),.fp (off:=off+i*3) (n:=3) (W:=blC x) hh (zk hh) (hR _ _ hx).1 (hR _ _ hx).2,.a,.s 2] H4 kr fun gs4 w5 H5=>?_;have drop1: ∀ {ww:World},St w.heap.size w ww [((gs1 0).b,snO q m cq p n c),((gs1 1).b,blO b),((gs4 2).b,blO x)]->St w.heap.size w ww [((gs1 0).b,snO q m cq p n c),((gs1 1).b,blO b)]:=fun H=>H.sub (List.sublist_append_left [_,_] [_]);by_cases e:x.2.1=b.2.1
  ·refine rS [.v,.l 2,.v,.l 1,.E (.bool (x.2.1.toList==b.2.1.toList)) (.bool true) (za (yH _ _ e)),.v,.v,.l 2,.v,.l 1,.E (.bool (x.2.2==b.2.2)) (.bool (zJ b x)) (za (by unfold zJ;rw[decide_eq_true e];rfl)),.v] H5 kr fun gs5 w6 H6=>?_;by_cases hf:zJ b x=true
   ·refine qy 26 (v:=.bool (zJ b x)) (v':=.bool true) (by rw[hf]) kr<|zy ?_;rw[if_pos hf]at hsn;refine rL [.v,.E (.int .i64 (Qm.wrap (((zl b (V.take i):Nat):Int)+1))) (iN (zl b (V.take (i+1)))) (zh (by rw[hsn];exact zB (a:=zl b (V.take i)) (b:=1) (by omega))),.v] H6 kr fun gs6 w7 H7=>?_;exact⟨kr,drop1 (H7.as kr),isK⟩
   ·refine qy 26 (v:=.bool (zJ b x)) (v':=.bool false) (by rw[QM.2 hf]) kr<|zx ?_;rw[if_neg hf,Uk]at hsn;exact⟨kr,drop1 (H6.as kr),(congrArg (fun k=>Is [(3,Qe (gs1 1).b),(5,iN k),(9,.slice p n c),(10,iN n),(11,iN (i+1))] _) hsn).mpr isK⟩
  ·refine rS [.v,.l 2,.v,.l 1,.E (.bool (x.2.1.toList==b.2.1.toList)) (.bool false) (za (yp _ _ e)),.v,.n,.n,.n,.n,.n,.v] H5 kr fun gs5 w6 H6=>zx ?_;rw[if_neg (by unfold zJ;rw[decide_eq_false e];exact QL),Uk]at hsn;exact⟨kr,drop1 (H6.as kr),(congrArg (fun k=>Is [(3,Qe (gs1 1).b),(5,iN k),(9,.slice p n c),(10,iN n),(11,iN (i+1))] _) hsn).mpr isK⟩
 ·rintro _ w4 ⟨H4,_,rfl⟩;rw[Qv (by omega)];refine wW<|rS [.v,.v] H4 kr fun gs4 w5 H5=>?_;exact rR [.tmp 4] [] (iN (zl b V)) H5 kr
theorem un (q:Qc)(m cq:Nat)(L:Qi)(p:Qc)(n c:Nat)(b:Bal)(hL:L.length<=1000000):FnP Try.prog 33 #[snV q m cq p n c,blV b] (fun w=>AtF sS w q m L) (.bool (zH L b)):=by
 refine FnP.intro (c:=zu Try.f33) [.tmp 4] 24 Try.func33 kr kr kr fun w hP=>?_;have h1:=um q m cq L p n c b.1 hL;have h2:=um q m cq L p n c b.2.1 hL;refine rS [.b,.b,.v] (St.start w) kr fun gs1 w1 H1=>?_;unfold zH;cases e1:zG b.1 L with
 | false=>
  rw[e1]at h1;refine dS [.l 0,.v,.l 1,.cp (pre:=fun w=>AtF sS w q m L) h1 [] (fun w hb hd=>hP.call hb),.v,.n,.n,.n,.n,.v,.v,.n,.n,.n,.n,.n,.n,.n,.v,.v] H1 kr fun w2 H2=>?_;exact rR [.tmp 4] [] (.bool false) H2 kr
 | true=>
  rw[e1]at h1;by_cases e2:b.2.1.size=20
  ·rw[decide_eq_true e2];refine dS [.l 0,.v,.l 1,.cp (pre:=fun w=>AtF sS w q m L) h1 [] (fun w hb hd=>hP.call hb),.v,.v,.l 1,.v,.E (.bool (((b.2.1.size:Nat):Int)==20)) (.bool true) (za (beq_iff_eq.2 (by omega))),.v,.v,.l 0,.v,.l 1,.cp (pre:=fun w=>AtF sS w q m L) h2 [] (fun w hb hd=>hP.call hb),.v,.l 1,.E (.bool (zG b.2.1 L !=b.2.2)) (.bool (zG b.2.1 L !=b.2.2)) rfl,.v,.v] H1 kr fun w2 H2=>?_;exact rR [.tmp 4] [] (.bool (zG b.2.1 L !=b.2.2)) H2 kr
  ·rw[decide_eq_false e2];refine dS [.l 0,.v,.l 1,.cp (pre:=fun w=>AtF sS w q m L) h1 [] (fun w hb hd=>hP.call hb),.v,.v,.l 1,.v,.E (.bool (((b.2.1.size:Nat):Int)==20)) (.bool false) (za (beq_eq_false_iff_ne.2 (by omega))),.v,.v,.n,.n,.n,.n,.n,.n,.n,.v,.v] H1 kr fun w2 H2=>?_;exact rR [.tmp 4] [] (.bool false) H2 kr
theorem zbm (q:Qc)(m cq:Nat)(L:Qi)(p:Qc)(n c:Nat)(b:Bal)(hL:L.length<=1000000):FnP Try.prog 19 #[snV q m cq p n c,blV b] (fun w=>AtF sS w q m L) (.bool (qu L b)):=by
 refine FnP.intro (c:=zu Try.f19) [.tmp 4] 19 Try.func19 kr kr kr fun w hP=>?_;have hm:=hP.1;have h1:=un q m cq L p n c b hL;refine rS [.b,.b,.v] (St.start w) kr fun gs1 w1 H1=>zf kr ?_;unfold qu;cases ef:zH L b with
 | false=>
  rw[ef]at h1;refine rS [.l 0,.l 1,.cp (pre:=fun w=>AtF sS w q m L) h1 [] (fun w hb hd=>hP.call hb),.v] H1 kr fun gs2 w2 H2=>zy<|rS [.v] H2 kr fun gs3 w3 H3=>?_;exact rR [.tmp 4] [] (.bool false) H3 kr
 | true=>
  rw[ef]at h1;refine rS [.l 0,.l 1,.cp (pre:=fun w=>AtF sS w q m L) h1 [] (fun w hb hd=>hP.call hb),.v] H1 kr fun gs2 w2 H2=>zx<|wW<|zf kr ?_;obtain⟨b1,b2,b3⟩:=b;cases b3 with
  | true=>
   refine rS [.v,.l 1] H2 kr fun gs3 w3 H3=>zy<|rS [.v,.l 0,.v,.E (.bool (decide ((m:Int)<16))) (.bool (decide (L.length<16))) (za (by rw[Uj,decide_eq_true_iff,decide_eq_true_iff];omega)),.v] H3 kr fun gs4 w4 H4=>?_;exact rR [.tmp 4] [] (.bool (decide (L.length<16))) H4 kr
  | false=>
   refine rS [.v,.l 1] H2 kr fun gs3 w3 H3=>zx<|wW<|rS [.v,.l 0,.v,.E (.bool (decide ((m:Int)>1))) (.bool (decide (1<L.length))) (za (by rw[Uj,decide_eq_true_iff,decide_eq_true_iff];omega)),.v] H3 kr fun gs4 w4 H4=>?_;exact rR [.tmp 4] [] (.bool (decide (1<L.length))) H4 kr
theorem zbn (p:Qc)(n c:Nat)(L:Qi)(hL:L.length<=1000000):FnP Try.prog 28 #[.slice p n c] (fun w=>AtF sS w p n L) (.bool (yg L)):=by
 refine FnP.intro (c:=zu Try.f28) [.tmp 2] 37 Try.func28 kr kr kr fun w hP=>?_;have hn:=hP.1;have H0:=St.start w;refine rS [.v] H0 kr fun gs1 w1 H1=>zf kr ?_;by_cases h0:n=0
 ·refine rS [.v,.v,.E (.bool ((n:Int)==0)) (.bool true) (za (beq_iff_eq.2 (by omega))),.v,.n,.n,.n,.v] H1 kr fun gs2 w2 H2=>zy<|rS [.v] H2 kr fun gs3 w3 H3=>?_;exact rRe [.tmp 2] [] (v:=.bool false) (v':=.bool (yg L)) H3 (za (by unfold yg;rw[decide_eq_false (show ¬0<L.length by omega),Bool.false_and,UF])) kr
 by_cases h16:16<n
 ·refine rS [.v,.v,.E (.bool ((n:Int)==0)) (.bool false) (za (beq_eq_false_iff_ne.2 (by omega))),.v,.v,.v,.E (.bool (decide ((n:Int)>16))) (.bool true) (za (decide_eq_true (by omega))),.v] H1 kr fun gs2 w2 H2=>zy<|rS [.v] H2 kr fun gs3 w3 H3=>?_;exact rRe [.tmp 2] [] (v:=.bool false) (v':=.bool (yg L)) H3 (za (by unfold yg;rw[decide_eq_false (show ¬L.length<=16 by omega),UF,UF])) kr
 refine rS [.v,.v,.E (.bool ((n:Int)==0)) (.bool false) (za (beq_eq_false_iff_ne.2 (by omega))),.v,.v,.v,.E (.bool (decide ((n:Int)>16))) (.bool false) (za (decide_eq_false (by omega))),.v] H1 kr fun gs2 w2 H2=>zx<|wW ?_;have hsm:yg L=yB none L:=by unfold yg;rw[decide_eq_true (show 0<L.length by omega),decide_eq_true (show L.length<=16 by omega)];simp
 rw[hsm];refine zf kr<|rS [.v,.v,.v] H2 kr fun gs3 w3 H3=>yv 15 14 16 36 0 1 n (by omega) (fun i ρ ww=>yB none L=yB (yP L i) (L.drop i)/\St w.heap.size w ww []/\Is [(0,.slice p n c),(13,.slice p n c),(14,iN n),(15,iN i)] ρ) (by rintro i _ ww ⟨_,_,_,rfl⟩;exact⟨kr,kr⟩) ⟨rfl,H3.as kr,isK⟩ ?_ ?_
 ·clear H0 H1 H2 H3;rintro i _ w4 hi ⟨hst,H5,_,rfl⟩;obtain⟨x,hx⟩:∃x,L[i]? =some x:=⟨_,Qj (by omega)⟩
  obtain⟨bl,off,C,T,fz,hp,hh,hR⟩:=hP.row2 (by omega);have hcx:C[off+i*1]? =some (.string x):=hR.cell hx 0 (by decide);rw[qT hx]at hst;change yB none L=(decide (x.size=20)&&(upB (yP L i) x&&yB (some x) (L.drop (i+1))))at hst;refine rS [.v,.o (ins:=[((.tmp 13),.slice p n c),((.tmp 15),iN i)]) (v:=.pointer (some ⟨bl,off+i*1,none⟩)) (fun ρ o w ho hi2=>zv (kd:=.i64) (t:=22) (e:=9) (K:=1) (bytes:=16) kr (x:=(.tmp 13)) (y:=(.tmp 15)) bl off n c i hp ho hi2.1 hi2.2.1 (by omega) w),.fs (off:=off+i*1) (v:=.string x) hh (zk hh) hcx,.v,.v] H5 kr fun gs5 w6 H7=>?_;by_cases h1:x.size=20
  case neg=>
   refine rS [.v,.v,.E (.bool (!((x.size:Int)==20))) (.bool true) (za (by rw[beq_eq_false_iff_ne.2 (by omega)];rfl)),.v,.n,.n,.n,.n,.n,.n,.n,.n,.n,.n,.n,.v] H7 kr fun gs6 w7 H8=>zy<|rS [.v] H8 kr fun gs7 w8 H9=>?_;exact rRe [.tmp 2] [] (v:=.bool false) (v':=.bool (yB none L)) H9 (za (by rw[hst,decide_eq_false h1];rfl)) kr
  rw[decide_eq_true h1,Ri]at hst;by_cases hi0:i=0
  ·have hu:upB (yP L i) x=true:=by
    have:yP L i=none:=by unfold yP;rw[if_pos hi0]
    rw[this];rfl
   refine rS [.v,.v,.E (.bool (!((x.size:Int)==20))) (.bool false) (za (by rw[beq_iff_eq.2 (show (x.size:Int)=20 by omega)];rfl)),.v,.v,.E (.bool (decide ((i:Int)>0))) (.bool false) (za (decide_eq_false (by omega))),.v,.n,.n,.n,.n,.n,.n,.n,.v,.v] H7 kr fun gs6 w7 H8=>zx ?_;exact⟨kr,by rw[vE hx,hst,hu];rfl,H8.as kr,isK⟩
  ·obtain⟨y,hy⟩:∃y,L[i-1]? =some y:=⟨_,Qj (by omega)⟩
   have hcy:C[off+(i-1)*1]? =some (.string y):=hR.cell hy 0 (by decide);have hpv:upB (yP L i) x=zd (tl y) (tl x):=by
    have:yP L i=some y:=by unfold yP;rw[if_neg hi0,hy]
    rw[this];rfl
   rw[hpv]at hst;cases hup:zd (tl y) (tl x) with
   | false=>
    refine rS [.v,.v,.E (.bool (!((x.size:Int)==20))) (.bool false) (za (by rw[beq_iff_eq.2 (show (x.size:Int)=20 by omega)];rfl)),.v,.v,.E (.bool (decide ((i:Int)>0))) (.bool true) (za (decide_eq_true (by omega))),.v,.v,.v,.E (.int .i64 (Qm.wrap ((i:Int)-1))) (iN (i-1)) (zh (ql (a:=i) (b:=1) (by omega))),.o (ins:=[((.tmp 27),.slice p n c),((.tmp 29),iN (i-1))]) (v:=.pointer (some ⟨bl,off+(i-1)*1,none⟩)) (fun ρ o w ho hi2=>zv (kd:=.i64) (t:=22) (e:=9) (K:=1) (bytes:=16) kr (x:=(.tmp 27)) (y:=(.tmp 29)) bl off n c (i-1) hp ho hi2.1 hi2.2.1 (by omega) w),.fs (off:=off+(i-1)*1) (v:=.string y) hh (zk hh) hcy,.v,.E (.bool (!(RB y.toList x.toList))) (.bool true) (za (by rw[uk,hup];rfl)),.v,.v] H7 kr fun gs6 w7 H8=>zy<|rS [.v] H8 kr fun gs7 w8 H9=>?_;exact rRe [.tmp 2] [] (v:=.bool false) (v':=.bool (yB none L)) H9 (za (by rw[hst,hup];rfl)) kr
   | true=>
    refine rS [.v,.v,.E (.bool (!((x.size:Int)==20))) (.bool false) (za (by rw[beq_iff_eq.2 (show (x.size:Int)=20 by omega)];rfl)),.v,.v,.E (.bool (decide ((i:Int)>0))) (.bool true) (za (decide_eq_true (by omega))),.v,.v,.v,.E (.int .i64 (Qm.wrap ((i:Int)-1))) (iN (i-1)) (zh (ql (a:=i) (b:=1) (by omega))),.o (ins:=[((.tmp 27),.slice p n c),((.tmp 29),iN (i-1))]) (v:=.pointer (some ⟨bl,off+(i-1)*1,none⟩)) (fun ρ o w ho hi2=>zv (kd:=.i64) (t:=22) (e:=9) (K:=1) (bytes:=16) kr (x:=(.tmp 27)) (y:=(.tmp 29)) bl off n c (i-1) hp ho hi2.1 hi2.2.1 (by omega) w),.fs (off:=off+(i-1)*1) (v:=.string y) hh (zk hh) hcy,.v,.E (.bool (!(RB y.toList x.toList))) (.bool false) (za (by rw[uk,hup];rfl)),.v,.v] H7 kr fun gs6 w7 H8=>zx ?_;exact⟨kr,by rw[vE hx,hst,hup];rfl,H8.as kr,isK⟩
 ·rintro _ w4 ⟨hst,H5,_,rfl⟩;rw[QC (by omega)]at hst;refine wW<|rS [.v] H5 kr fun gs6 w7 H8=>?_;exact rRe [.tmp 2] [] (v:=.bool true) (v':=.bool (yB none L)) H8 (za hst.symm) kr
theorem uo (x b:Bal)(k:Nat):FnP Try.prog 38 #[blV x,Qe k] (fun w=>w.heap[k]? =some (blO b)) (.bool (aheadB x b)):=by
 refine FnP.intro (c:=zu Try.f38) [.tmp 3] 19 Try.func38 kr kr kr fun w hP=>rS [.b,.v] (St.start w) kr fun gs1 w1 H1=>zf kr ?_;by_cases e:x.2.1=b.2.1
 ·refine rS [.v,.l 0,.v,.fs (off:=1) (v:=.string b.2.1) hP (zk hP) kr,.E (.bool (!(x.2.1.toList==b.2.1.toList))) (.bool false) (za (by rw[yH _ _ e];rfl))] H1 kr fun gs2 w2 H2=>zx<|wW<|rS [.v,.l 0,.v,.fs (off:=0) (v:=.string b.1) hP (zk hP) kr,.E (.bool (RB x.1.toList b.1.toList)) (.bool (aheadB x b)) (za (by unfold aheadB;rw[if_pos e,jX])),.v] H2 kr fun gs3 w3 H3=>?_;exact rR [.tmp 3] [] (.bool (aheadB x b)) H3 kr
 ·refine rS [.v,.l 0,.v,.fs (off:=1) (v:=.string b.2.1) hP (zk hP) kr,.E (.bool (!(x.2.1.toList==b.2.1.toList))) (.bool true) (za (by rw[yp _ _ e];rfl))] H1 kr fun gs2 w2 H2=>zy<|rS [.v,.l 0,.v,.fs (off:=1) (v:=.string b.2.1) hP (zk hP) kr,.E (.bool (RB x.2.1.toList b.2.1.toList)) (.bool (aheadB x b)) (za (by unfold aheadB;rw[if_neg e,jX])),.v] H2 kr fun gs3 w3 H3=>?_;exact rR [.tmp 3] [] (.bool (aheadB x b)) H3 kr
abbrev ahV (k:Nat):Value:=.func (.func 38) #[] #[Qe k]
theorem up (b:Bal):FnT Try.prog 23 #[blV b] (fun _=>True) (fun v l=> ∃k,v=ahV k/\l=[(k,blO b)]):=by
 refine FnT.intro (c:=zu Try.f23) [.tmp 2] 4 Try.func23 kr kr kr fun w _=>rS [.b,.v] (St.start w) kr fun gs1 w1 H1=>rS [.v,.v] H1 kr fun gs2 w2 H2=>rRr [.tmp 2] [] (ahV (gs1 0).b) (qD w.heap.size w (fun v l=> ∃k,v=ahV k/\l=[(k,blO b)])) H2 kr ?_;exact⟨_,⟨(gs1 0).b,rfl,rfl⟩,H2.as kr⟩
abbrev xk (x:Operand):Op:=.call { callee:=.value (.func 23),args:=#[x],argTypes:=#[27] }
theorem uq {ρ:Env}{o:Oper}{w:World}{x:Operand}{b:Bal}(ho:o.op=xk x)(hx:ev ρ x=blV b):D2.Runs Try.prog (fun v w'=> ∃g:Gh,v=ahV g.b/\Below w.heap.size w w'/\w.heap.size<=g.b/\w'.heap[g.b]? =some (blO b)) ((execOp (ev ρ) o).run Try.prog w):=by
 have e:(execOp (ev ρ) o).run Try.prog w=.ok (.enter 23 #[blV b]) w:=by
  have ha:(#[x]:Array Operand).map (ev ρ)=#[blV b]:=by simp[hx]
  unfold execOp;rw[ho];simp only[xk,resolve,ha];rfl
 rw[e];refine Calls.mono (up b w trivial) ?_;rintro e w' ⟨v,T,rfl,⟨k,rfl,rfl⟩,hT⟩;exact⟨_,rfl,{ b:=k },rfl,St.below hT,(St.ge hT 0 rfl),St.get hT 0 rfl⟩
theorem zbo (q:Qc)(mm cq:Nat)(L:Qi)(p:Qc)(n c:Nat)(V:List Bal)(hL:L.length<=1000000)(hV:V.length<=1000000):FnP Try.prog 29 #[snV q mm cq p n c] (fun w=>zM w L V q mm p n) (.bool (yE L V)):=by
 refine FnP.intro (c:=zu Try.f29) [.tmp 2] 55 Try.func29 kr kr kr fun w hP=>?_;obtain⟨hS,hVV⟩:=hP;have hmm:=hS.1;have hn:=hVV.1;have H0:=St.start w;refine rS [.b,.v] H0 kr fun gs1 w1 H1=>rS [.v] H1 kr fun gs2 w2 H2=>zf kr<|rS [.v,.l 0,.v,.v] H2 kr fun gs3 w3 H3=>yv 9 8 10 54 0 1 n (by omega) (fun i ρ ww=> ∃m,yE L V=qY L (yh V i) m (V.drop i)/\m<=i/\St w.heap.size w ww [((gs1 0).b,snO q mm cq p n c)]/\Is [(1,Qe (gs1 0).b),(3,iN m),(7,.slice p n c),(8,iN n),(9,iN i)] ρ) (by rintro i _ ww ⟨_,_,_,_,_,rfl⟩;exact⟨kr,kr⟩) ⟨0,rfl,Qs _,H3.as kr,isK⟩ ?_ ?_
 ·clear H0 H1 H2 H3;rintro i _ w4 hi ⟨k,hst,hki,H4,_,rfl⟩;obtain⟨x,hx⟩:∃x,V[i]? =some x:=⟨_,Qj (by omega)⟩
  obtain⟨bl,off,C,T,fz,hp,hh,hR⟩:=hVV.row2 (by omega);have hfit:=un q mm cq L p n c x hL;rw[qT hx]at hst;change yE L V=(zH L x&&(yR (yh V i) x&&(decide (2*qs (yh V i) k x<=L.length)&&qY L (some x) (qs (yh V i) k x) (V.drop (i+1)))))at hst;rw[<-zaS hx]at hst;refine rS [.v,.o (ins:=[((.tmp 7),.slice p n c),((.tmp 9),iN i)]) (v:=.pointer (some ⟨bl,off+i*3,none⟩)) (fun ρ o w ho hi2=>zv (kd:=.i64) (t:=23) (e:=27) (K:=3) (bytes:=40) kr (x:=(.tmp 7)) (y:=(.tmp 9)) bl off n c i hp ho hi2.1 hi2.2.1 (by omega) w),.fp (off:=off+i*3) (n:=3) (W:=blC x) hh (zk hh) (hR _ _ hx).1 (hR _ _ hx).2,.a,.v,.s 1] H4 kr fun gs4 w5 HA=>zf kr ?_;cases ef:zH L x with
  | false=>
   rw[ef]at hfit;refine rS [.l 0,.l 1,.cp (pre:=fun w=>AtF sS w q mm L) hfit [] (fun w hb hd=>hS.call hb),.v] HA kr fun gs5 w6 H5=>zy<|rS [.v] H5 kr fun gsr wr Hr=>?_;exact rRe [.tmp 2] [] (v:=.bool false) (v':=.bool (yE L V)) Hr (za (by rw[hst,ef];rfl)) kr
  | true=>
   rw[ef]at hfit;refine rS [.l 0,.l 1,.cp (pre:=fun w=>AtF sS w q mm L) hfit [] (fun w hb hd=>hS.call hb),.v] HA kr fun gs5 w6 H5=>zx<|wW<|zf kr ?_;by_cases hi0:i=0
   ·have hp0:yh V i=none:=by unfold yh;rw[if_pos hi0]
    have ea:yR (yh V i) x=true:=by rw[hp0];rfl
    refine dS [.v,.E (.bool (decide ((i:Int)>0))) (.bool false) (za (decide_eq_false (by omega))),.v,.n,.n,.n,.n,.n,.n,.n,.n,.n,.n,.v] H5 kr fun w6 H6=>zx<|wW<|zf kr<|dS [.v,.E (.bool (decide ((i:Int)>0))) (.bool false) (za (decide_eq_false (by omega))),.v,.n,.n,.n,.n,.n,.n,.n,.n,.n,.n,.v] H6 kr fun w7 H7=>zx ?_;have drop1: ∀ {ww:World},St w.heap.size w ww [((gs1 0).b,snO q mm cq p n c),((gs4 3).b,blO x)]->St w.heap.size w ww [((gs1 0).b,snO q mm cq p n c)]:=fun H=>H.sub (List.sublist_append_left [_] [_]);refine wW<|rS [.v,.E (.int .i64 (Qm.wrap ((k:Int)+1))) (iN (k+1)) (zh (zB (a:=k) (b:=1) (by omega))),.v] H7 kr fun gs8 w8 H8=>?_;have hrun:qs (yh V i) k x=k+1:=by rw[hp0];rfl
    rw[hrun]at hst;by_cases h2:2*(k+1)<=L.length
    ·refine rS [.v,.E (.int .i64 (Qm.wrap (2*((k+1:Nat):Int)))) (iN (2*(k+1))) (zh (qk (a:=2) (b:=k+1) (by omega))),.v,.l 0,.v,.E (.bool (decide (((2*(k+1):Nat):Int)>(mm:Int)))) (.bool false) (za (decide_eq_false (by omega)))] H8 kr fun gs9 w9 H9=>zx ?_;exact⟨kr,k+1,hst.trans (by rw[ef,ea,decide_eq_true h2,Ri,Ri,Ri]),by omega,drop1 (H9.as kr),isK⟩
    ·refine rS [.v,.E (.int .i64 (Qm.wrap (2*((k+1:Nat):Int)))) (iN (2*(k+1))) (zh (qk (a:=2) (b:=k+1) (by omega))),.v,.l 0,.v,.E (.bool (decide (((2*(k+1):Nat):Int)>(mm:Int)))) (.bool true) (za (decide_eq_true (by omega)))] H8 kr fun gs9 w9 H9=>zy<|rS [.v] H9 kr fun gsr wr Hr=>?_;exact rRe [.tmp 2] [] (v:=.bool false) (v':=.bool (yE L V)) Hr (za (by rw[hst,ef,ea,decide_eq_false h2];rfl)) kr
   ·obtain⟨y,hy⟩:∃y,V[i-1]? =some y:=⟨_,Qj (by omega)⟩
    have hp0:yh V i=some y:=by unfold yh;rw[if_neg hi0,hy]
    have hcy:C[off+(i-1)*3+1]? =some (.string y.2.1):=hR.cell hy 1 (by decide);have ha:=fun k=>uo y x k;cases ea':aheadB y x with
    | false=>
     have ea:yR (yh V i) x=false:=by rw[hp0];exact ea'
     rw[ea']at ha;refine dSg (fun gs=>[.v,.E (.bool (decide ((i:Int)>0))) (.bool true) (za (decide_eq_true (by omega))),.v,.l 1,.g [((.tmp 21),blV x)] (xk (.tmp 21)) [] (fun g=>ahV g.b) (.new (blO x)) (fun ρ o w ho hi2 hd hb=>uq ho hi2.1),.v,.l 0,.v,.E (.int .i64 (Qm.wrap ((i:Int)-1))) (iN (i-1)) (zh (ql (a:=i) (b:=1) (by omega))),.o (ins:=[((.tmp 24),.slice p n c),((.tmp 26),iN (i-1))]) (v:=.pointer (some ⟨bl,off+(i-1)*3,none⟩)) (fun ρ o w ho hi2=>zv (kd:=.i64) (t:=23) (e:=27) (K:=3) (bytes:=40) kr (x:=(.tmp 24)) (y:=(.tmp 26)) bl off n c (i-1) hp ho hi2.1 hi2.2.1 (by omega) w),.fp (off:=off+(i-1)*3) (n:=3) (W:=blC y) hh (zk hh) (hR _ _ hy).1 (hR _ _ hy).2,.cp (pre:=fun w=>w.heap[(gs 4).b]? =some (blO x)) (ha (gs 4).b) [(2,((gs 4).b,blO x))] (fun w hb hd=>hd.1),.v,.v]) H5 kr fun gs w6 H6=>zy<|rS [.v] H6 kr fun gsr wr Hr=>?_;exact rRe [.tmp 2] [] (v:=.bool false) (v':=.bool (yE L V)) Hr (za (by rw[hst,ef,ea];rfl)) kr
    | true=>
     have ea:yR (yh V i) x=true:=by rw[hp0];exact ea'
     rw[ea']at ha;refine dSg (fun gs=>[.v,.E (.bool (decide ((i:Int)>0))) (.bool true) (za (decide_eq_true (by omega))),.v,.l 1,.g [((.tmp 21),blV x)] (xk (.tmp 21)) [] (fun g=>ahV g.b) (.new (blO x)) (fun ρ o w ho hi2 hd hb=>uq ho hi2.1),.v,.l 0,.v,.E (.int .i64 (Qm.wrap ((i:Int)-1))) (iN (i-1)) (zh (ql (a:=i) (b:=1) (by omega))),.o (ins:=[((.tmp 24),.slice p n c),((.tmp 26),iN (i-1))]) (v:=.pointer (some ⟨bl,off+(i-1)*3,none⟩)) (fun ρ o w ho hi2=>zv (kd:=.i64) (t:=23) (e:=27) (K:=3) (bytes:=40) kr (x:=(.tmp 24)) (y:=(.tmp 26)) bl off n c (i-1) hp ho hi2.1 hi2.2.1 (by omega) w),.fp (off:=off+(i-1)*3) (n:=3) (W:=blC y) hh (zk hh) (hR _ _ hy).1 (hR _ _ hy).2,.cp (pre:=fun w=>w.heap[(gs 4).b]? =some (blO x)) (ha (gs 4).b) [(2,((gs 4).b,blO x))] (fun w hb hd=>hd.1),.v,.v]) H5 kr fun gs w6 H6=>zx<|wW<|zf kr ?_;have drop1: ∀ {ww:World},St w.heap.size w ww [((gs1 0).b,snO q mm cq p n c),((gs4 3).b,blO x),((gs 4).b,blO x)]->St w.heap.size w ww [((gs1 0).b,snO q mm cq p n c)]:=fun H=>H.sub (List.sublist_append_left [_] [_,_]);by_cases ew:y.2.1=x.2.1
     ·refine dS [.v,.E (.bool (decide ((i:Int)>0))) (.bool true) (za (decide_eq_true (by omega))),.v,.v,.l 0,.v,.E (.int .i64 (Qm.wrap ((i:Int)-1))) (iN (i-1)) (zh (ql (a:=i) (b:=1) (by omega))),.o (ins:=[((.tmp 36),.slice p n c),((.tmp 38),iN (i-1))]) (v:=.pointer (some ⟨bl,off+(i-1)*3,none⟩)) (fun ρ o w ho hi2=>zv (kd:=.i64) (t:=23) (e:=27) (K:=3) (bytes:=40) kr (x:=(.tmp 36)) (y:=(.tmp 38)) bl off n c (i-1) hp ho hi2.1 hi2.2.1 (by omega) w),.v,.fs (off:=off+(i-1)*3+1) (v:=.string y.2.1) hh (zk hh) hcy,.v,.l 1,.E (.bool (!(y.2.1.toList==x.2.1.toList))) (.bool false) (za (by rw[yH _ _ ew];rfl)),.v] H6 kr fun w7 H7=>zx<|wW<|rS [.v,.E (.int .i64 (Qm.wrap ((k:Int)+1))) (iN (k+1)) (zh (zB (a:=k) (b:=1) (by omega))),.v] H7 kr fun gs8 w8 H8=>?_;have hrun:qs (yh V i) k x=k+1:=by rw[hp0];show (if y.2.1=x.2.1 then k else 0)+1=_;rw[if_pos ew]
      rw[hrun]at hst;by_cases h2:2*(k+1)<=L.length
      ·refine rS [.v,.E (.int .i64 (Qm.wrap (2*((k+1:Nat):Int)))) (iN (2*(k+1))) (zh (qk (a:=2) (b:=k+1) (by omega))),.v,.l 0,.v,.E (.bool (decide (((2*(k+1):Nat):Int)>(mm:Int)))) (.bool false) (za (decide_eq_false (by omega)))] H8 kr fun gs9 w9 H9=>zx ?_;exact⟨kr,k+1,hst.trans (by rw[ef,ea,decide_eq_true h2,Ri,Ri,Ri]),by omega,drop1 (H9.as kr),isK⟩
      ·refine rS [.v,.E (.int .i64 (Qm.wrap (2*((k+1:Nat):Int)))) (iN (2*(k+1))) (zh (qk (a:=2) (b:=k+1) (by omega))),.v,.l 0,.v,.E (.bool (decide (((2*(k+1):Nat):Int)>(mm:Int)))) (.bool true) (za (decide_eq_true (by omega)))] H8 kr fun gs9 w9 H9=>zy<|rS [.v] H9 kr fun gsr wr Hr=>?_;exact rRe [.tmp 2] [] (v:=.bool false) (v':=.bool (yE L V)) Hr (za (by rw[hst,ef,ea,decide_eq_false h2];rfl)) kr
     ·refine dS [.v,.E (.bool (decide ((i:Int)>0))) (.bool true) (za (decide_eq_true (by omega))),.v,.v,.l 0,.v,.E (.int .i64 (Qm.wrap ((i:Int)-1))) (iN (i-1)) (zh (ql (a:=i) (b:=1) (by omega))),.o (ins:=[((.tmp 36),.slice p n c),((.tmp 38),iN (i-1))]) (v:=.pointer (some ⟨bl,off+(i-1)*3,none⟩)) (fun ρ o w ho hi2=>zv (kd:=.i64) (t:=23) (e:=27) (K:=3) (bytes:=40) kr (x:=(.tmp 36)) (y:=(.tmp 38)) bl off n c (i-1) hp ho hi2.1 hi2.2.1 (by omega) w),.v,.fs (off:=off+(i-1)*3+1) (v:=.string y.2.1) hh (zk hh) hcy,.v,.l 1,.E (.bool (!(y.2.1.toList==x.2.1.toList))) (.bool true) (za (by rw[yp _ _ ew];rfl)),.v] H6 kr fun w7 H7=>zy<|rL [.v] H7 kr fun gsz wz Hz=>wW<|rS [.v,.E (.int .i64 (Qm.wrap (((0:Nat):Int)+1))) (iN (0+1)) (zh (zB (a:=0) (b:=1) (by omega))),.v] Hz kr fun gs8 w8 H8=>?_;have hrun:qs (yh V i) k x=0+1:=by rw[hp0];show (if y.2.1=x.2.1 then k else 0)+1=_;rw[if_neg ew]
      rw[hrun]at hst;by_cases h2:2*(0+1)<=L.length
      ·refine rS [.v,.E (.int .i64 (Qm.wrap (2*((0+1:Nat):Int)))) (iN (2*(0+1))) (zh (qk (a:=2) (b:=0+1) (by omega))),.v,.l 0,.v,.E (.bool (decide (((2*(0+1):Nat):Int)>(mm:Int)))) (.bool false) (za (decide_eq_false (by omega)))] H8 kr fun gs9 w9 H9=>zx ?_;exact⟨kr,0+1,hst.trans (by rw[ef,ea,decide_eq_true h2,Ri,Ri,Ri]),by omega,drop1 (H9.as kr),isK⟩
      ·refine rS [.v,.E (.int .i64 (Qm.wrap (2*((0+1:Nat):Int)))) (iN (2*(0+1))) (zh (qk (a:=2) (b:=0+1) (by omega))),.v,.l 0,.v,.E (.bool (decide (((2*(0+1):Nat):Int)>(mm:Int)))) (.bool true) (za (decide_eq_true (by omega)))] H8 kr fun gs9 w9 H9=>zy<|rS [.v] H9 kr fun gsr wr Hr=>?_;exact rRe [.tmp 2] [] (v:=.bool false) (v':=.bool (yE L V)) Hr (za (by rw[hst,ef,ea,decide_eq_false h2];rfl)) kr
 ·rintro _ w4 ⟨k,hst,_,H5,_,rfl⟩;rw[QC (by omega)]at hst;refine wW<|rS [.v] H5 kr fun gs6 w7 H8=>?_;exact rRe [.tmp 2] [] (v:=.bool true) (v':=.bool (yE L V)) H8 (za hst.symm) kr
theorem ur (q:Qc)(mm cq:Nat)(L:Qi)(p:Qc)(n c:Nat)(V:List Bal)(hL:L.length<=1000000)(hV:V.length<=1000000):FnP Try.prog 11 #[snV q mm cq p n c] (fun w=>zM w L V q mm p n) (.bool (yc L V)):=by
 rw[<-zbg];refine FnP.intro (c:=zu Try.f11) [.tmp 2] 10 Try.func11 kr kr kr fun w hP=>?_;obtain⟨hS,hVV⟩:=hP;have h1:=zbn q mm cq L hL;have h2:=zbo q mm cq L p n c V hL hV;refine rS [.b,.v] (St.start w) kr fun gs1 w1 H1=>?_;cases e1:yg L with
 | false=>
  rw[e1]at h1;refine rS [.v,.l 0,.cp (pre:=fun w=>AtF sS w q mm L) h1 [] (fun w hb hd=>hS.call hb),.v,.n,.n,.v,.v] H1 kr fun gs2 w2 H2=>?_;exact rR [.tmp 2] [] (.bool false) H2 kr
 | true=>
  rw[e1]at h1;refine rS [.v,.l 0,.cp (pre:=fun w=>AtF sS w q mm L) h1 [] (fun w hb hd=>hS.call hb),.v,.l 0,.cp (pre:=fun w=>zM w L V q mm p n) h2 [] (fun w hb hd=>⟨hS.call hb,hVV.call hb⟩),.v,.v] H1 kr fun gs2 w2 H2=>?_;exact rR [.tmp 2] [] (.bool (yE L V)) H2 kr
end
section
open D2 (Gh Runs)
section
variable {P:Program}{B:Nat}{w0:World}
theorem zbp {w:World}(g:Nat)(C:Qd):w.grownBy (w.setRow g C) (some g):=⟨rfl,rfl,rfl,by simp,fun k _ hk=>setRow_other w g k _ (fun e=>hk (by simp[e]))⟩
theorem qv {dT sT e size:Nat}(hu:P.underlying dT=some (.slice e))(hs:(P.info? e).map (·.size)=some size){x y:Operand}{j b off dLen dCap sLen sCap:Nat}{a:Addr}{cur:Qd}{T:TypeId}{cs:List Value}{rd:List (Nat×(Nat×Obj))}
 (hn:cs.length=R7 sLen dLen*size) (hsrc: ∀w,Hd ((j,(b,.cells cur T))::rd) w-> ∀q v,cs[q]? =some v->w.cell? (a.add q)=some v) (hfit:off+cs.length<=cur.size) (h1: ∀v∈cs,v.oneCell'=true):
 ∀(ρ:Env) (o:Oper) (w:World),o.op=.call { callee:=.builtin .copy,args:=#[x,y],argTypes:=#[dT,sT] } ->Ins (ev ρ) [(x,.slice (some ⟨b,off,none⟩) dLen dCap),(y,.slice (some a) sLen sCap)]->Hd ((j,(b,.cells cur T))::rd) w->Below B w0 w->
  Runs P (fun v w'=> ∃g:Gh,v=.int .i64 ((R7 sLen dLen:Nat):Int)/\∃q,(List.lookup j ((j,(b,QB cur T))::rd))=some q/\w.grownBy w' (some q.1)/\w'.heap[q.1]? =some (.cells (ze cur off cs) T)) ((execOp (ev ρ) o).run P w):=fun ρ o w ho hi hd hb=>by
 have hg:w.heap[b]? =some (.cells cur T):=hd.1;have hrun:=zaz (P:=P) (w:=w) dT sT o.type e size hu hs b off dLen dCap a sLen sCap cur T cs hg hn (hsrc w hd) hfit h1;have hex:(execOp (ev ρ) o).run P w=.ok (.value (.int .i64 ((R7 sLen dLen:Nat):Int))) (w.setRow b (ze cur off cs)):=by
  unfold execOp;simp only[ho,resolve,invoke,builtin,QO,RO,Qz,List.map_toArray,QI,List.map_nil,hi.1,hi.2.1,hrun]
 rw[hex];exact⟨default,rfl,(b,.cells cur T),by simp[List.lookup],zbp b _,setRow_heap w b cur _ T (0,0) hg⟩
theorem qw {w:World}{b off:Nat}{cur:Qd}{T:TypeId}{fz:Nat×Nat}{cs:List Value}(hg:w.heap[b]? =some (.cells cur T fz))(h: ∀q v,cs[q]? =some v->cur[off+q]? =some v): ∀q v,cs[q]? =some v->w.cell? ((⟨b,off,none⟩:Addr).add q)=some v:=fun q v hq=>by
 rw[yO];simp[RS,hg,h q v hq]
end
section
variable {α:Type}{S:Fl α}
theorem jz (L:List α)(i:Nat)(h:i<=L.length):zb S (L.take i)=(zb S L).take (i*S.K):=by
 have e:zb S L=zb S (L.take i)++zb S (L.drop i):=by rw[<-qm,List.take_append_drop]
 rw[e,List.take_left'];rw[yk,Qw,Rl h]
theorem us (L:List α)(i:Nat)(h:i<=L.length):zb S (L.drop i)=(zb S L).drop (i*S.K):=by
 have e:zb S L=zb S (L.take i)++zb S (L.drop i):=by rw[<-qm,List.take_append_drop]
 rw[e,List.drop_left'];rw[yk,Qw,Rl h]
end
end
section
open D2 (Gh)
abbrev sxO (x:Qa):Obj:=.cells #[.string x] 9 (0,0)
def zK (B:Nat)(w0:World)(Lr:Qb)(L:List Bal)(v:Value)(w:World):Prop:=∃(q:Qc) (m k:Nat) (row:Qb),v=.slice q m k/\zz blS 27 q m k row L/\St B w0 w (row++Lr)
theorem zbq (p:Qc)(n c:Nat)(L:List Bal)(x:Bal)(bv:Nat)(row Lr:Qb){B:Nat}{w0 w:World}(hrow:zz blS 27 p n c row L)(h:St B w0 w (row++((bv,blO x)::Lr)))(hL:L.length<=1000000):
 Calls Try.prog 37 #[.slice p n c,iN n,Qf bv 1 1] w fun e w'=> ∃v,e=.returned v/\zK B w0 Lr (L++ [x]) v w':=by
 refine yo (c:=zu Try.f37) (rs:=[.tmp 6]) (N:=95) Try.func37 kr kr kr ?_;have hlen:=hrow.len;rcases hrow with⟨rfl,rfl,rfl,rfl,rfl⟩ | ⟨bw,cur,rfl,rfl,hrw⟩
 ·refine rS [.v] h kr fun gs1 w1 H1=>rS [.v,.v,.v] H1 kr fun gs2 w2 H2=>rS [.v,.v,.v] H2 kr fun gs3 w3 H3=>zf kr<|rS [.v,.v] H3 kr fun gs4 w4 H4=>zQ kr kr<|zT kr<|wW<|rS [.v,.v,.v] H4 kr fun gs5 w5 H5=>zf kr<|rS [.v,.v,.v] H5 kr fun gs6 w6 H6=>zY kr kr<|zp [0,1,2,3] kr kr<|rp [.v,.v] H6 kr fun gs7 w7 H7=>wX [2,3] ?_;have H8:St B w0 w7 ((bv,blO x)::Lr):=H7.as kr;refine vv (K':=3) H8 (some 25) 23 27 40 (.tmp 23) (.tmp 24) 0 bv 1 #[.string x.1,.string x.2.1,.bool x.2.2] kr kr kr kr kr kr rfl (qS rfl) (by omega) ?_;intro b' cap' cur' w8 H9 hrw;refine rp [.v] H9 kr fun gs8 w9 H10=>wX []<|zm ?_;have H11:St B w0 w9 ((b',.cells cur' 27)::(bv,blO x)::Lr):=H10.as kr;refine rRr [.tmp 6] [] (Qf b' 1 cap') (zK B w0 Lr ([]++ [x])) H10 kr ?_;refine⟨Qg b',1,cap',_,rfl,.inr ⟨b',cur',rfl,rfl,hrw⟩,H11.sub ?_⟩;exact QS _ (Qx ..)
 ·have hin:(n:Int)≠ -1:=by omega
  refine rS [.v] h kr fun gs1 w1 H1=>rS [.v,.v,.o (ins:=[((.tmp 10),Qf bw n c),((.tmp 11),iN n)]) (v:=.slice (some ⟨bw,if c=n then 0 else 0+n*3,none⟩) (n-n) (c-n)) (fun ρ o w ho hi2=>zR (kz:=.i64) (t:=23) (e:=27) (size:=3) (bytes:=40) kr (x:=(.tmp 10)) (z:=(.tmp 11)) bw 0 n c n ho hi2.1 hi2.2.1 (Qs _) hrw.le w)] H1 kr fun gs2 w2 H2=>rS [.v,.v,.v] H2 kr fun gs3 w3 H3=>zf kr<|rS [.v,.v] H3 kr fun gs4 w4 H4=>zQ kr kr<|zT kr<|wW<|rS [.v,.v,.v] H4 kr fun gs5 w5 H5=>zf kr<|rS [.v,.v,.E (.bool ((n:Int)==(n:Int))) (.bool true) (za (beq_self_eq_true _))] H5 kr fun gs6 w6 H6=>zY kr kr<|zp [0,1,2,3] kr kr<|rp [.v,.v] H6 kr fun gs7 w7 H7=>wX [2,3] ?_;have H8:St B w0 w7 ((bw,.cells cur 27)::(bv,blO x)::Lr):=H7.as kr;refine vu (K':=3) H8 (some 25) 23 27 40 (.tmp 23) (.tmp 24) 0 1 bw bv n c 1 cur #[.string x.1,.string x.2.1,.bool x.2.2] (zb blS L) kr kr kr kr kr hrw kr kr rfl (qS rfl) (by omega) (by unfold maxLen;omega) ?_;intro b' cap' cur' w8 H9 hrw';refine rp [.v] H9 kr fun gs8 w9 H10=>wX []<|zm ?_;have H11:St B w0 w9 ((b',.cells cur' 27)::(bv,blO x)::Lr):=H10.as kr;refine rRr [.tmp 6] [] (Qf b' (n+1) cap') (zK B w0 Lr (L++ [x])) H10 kr ?_;refine⟨Qg b',n+1,cap',_,rfl,.inr ⟨b',cur',rfl,rfl,?_⟩,H11.sub ?_⟩
  ·rw[jW];exact hrw'
  ·exact QS _ (Qx ..)
theorem zbr {cur:Qd}{xs X D:List Value}{i n c:Nat}(hsz:cur.size=c*3)(htk:cur.toList.take (n*3)=xs)(hD:D=xs.drop (i*3))(hxs:xs.length=n*3)(hX:X.length=3)(hi:i<n)(hc:n+1<=c):
 (ze (ze cur ((i+1)*3) D) (i*3) X).toList.take ((n+1)*3)=xs.take (i*3)++(X++D):=by
 have hDl:D.length=(n-i)*3:=by rw[hD,RL,hxs];omega
 have s1:(ze cur ((i+1)*3) D).size=c*3:=by rw[yl (by omega),hsz]
 have hcl:cur.toList.length=c*3:=by rw[QD,hsz]
 rw[qo (C:=ze cur ((i+1)*3) D) (o:=i*3) (vs:=X) (m:=(n+1)*3) (by omega) (by omega),
  jq (C:=cur) (o:=(i+1)*3) (vs:=D) (m:=i*3) (by omega) (by omega),
  qo (C:=cur) (o:=(i+1)*3) (vs:=D) (m:=(n+1)*3) (by omega) (by omega)]
 have e1:(cur.toList.take ((n+1)*3)).drop ((i+1)*3+D.length)=[]:=QC (by rw[Qw];omega);have e2:cur.toList.take (i*3)=xs.take (i*3):=by rw[<-htk,R3,Rl (by omega)]
 have e3:(cur.toList.take ((i+1)*3)++D).drop (i*3+X.length)=D:=List.drop_left' (by rw[Qw];omega);rw[e1,Rr,e3,e2,Rd]
theorem zbs {cur:Qd}{xs X D:List Value}{i n c:Nat}(hsz:cur.size=c*3)(htk:cur.toList.take (i*3)=xs.take (i*3))(hxs:xs.length=n*3)(hX:X.length=3)(hDl:D.length=(n-i)*3)(hi:i<n)(hc:n+1<=c):
 (ze (ze cur (i*3) X) ((i+1)*3) D).toList.take ((n+1)*3)=xs.take (i*3)++(X++D):=by
 have s1:(ze cur (i*3) X).size=c*3:=by rw[yl (by omega),hsz]
 have hcl:cur.toList.length=c*3:=by rw[QD,hsz]
 have hcl1:(ze cur (i*3) X).toList.length=c*3:=by rw[QD,s1]
 rw[qo (C:=ze cur (i*3) X) (o:=(i+1)*3) (vs:=D) (m:=(n+1)*3) (by omega) (by omega),
  qo (C:=cur) (o:=i*3) (vs:=X) (m:=(i+1)*3) (by omega) (by omega)]
 have e1:((ze cur (i*3) X).toList.take ((n+1)*3)).drop ((i+1)*3+D.length)=[]:=QC (by rw[Qw];omega);have e2:(cur.toList.take ((i+1)*3)).drop (i*3+X.length)=[]:=QC (by rw[Qw];omega);rw[e1,e2,Rr,Rr,htk,Rd]
theorem zbt (bv bw:Nat)(cur:Qd)(x:Bal)(la lb cb i:Nat)(hne:bw≠bv)(hc:cur.size≠0){ρ:Env}{o:Oper}{w:World}(ho:o.op=.call { callee:=.value (.func 48),args:=#[.tmp 61,.tmp 66],argTypes:=#[23,23] })
 (hx:ev ρ (.tmp 61)=Qf bv la 1) (hy:ev ρ (.tmp 66)=.slice (some ⟨bw,i*3,none⟩) lb cb) (hv:w.heap[bv]? =some (blO x)) (hw:w.heap[bw]? =some (.cells cur 27)):
 (execOp (ev ρ) o).run Try.prog w=.ok (.value (.bool false)) w:=by
 rw[kJ (f:=48) (args:=#[Qf bv la 1,.slice (some ⟨bw,i*3,none⟩) lb cb]) ho rfl rfl (by simp[hx,hy])]
 rw[run_callFunc_extern Try.func48 kr kr kr (e:=Extern.SlicesOverlaps.overlaps #[23,23] #[4]) kr,
  Lib.run_overlaps_apart w 23 4 27 Try.underlying23 3 (fun w=>by
   obtain⟨it,hi,hsz⟩:=Option.map_eq_some_iff.1 (show (Try.prog.info? 27).map (·.size)=some 3 by kernel_rfl)
   simp[sizeOf,typeInfo,hi,hsz]) ⟨bv,0,none⟩ ⟨bw,i*3,none⟩ la 1 lb cb (Ne.symm hne) 27 27 3 cur.size (by simp[Us,hv]) (by simp[Us,hw]) hc (by simp[Ul,hv]) (by simp[Ul,hv])]
 rfl
theorem zbu (bw n c:Nat)(cur:Qd)(L:List Bal)(x:Bal)(i bv:Nat)(Lr:Qb){B:Nat}{w0 w:World}(hrw:Rw 3 cur c n (zb blS L))(h:St B w0 w ((bw,.cells cur 27)::(bv,blO x)::Lr))(hi:i<n)(hL:n<=1000000):
 Calls Try.prog 37 #[Qf bw n c,iN i,Qf bv 1 1] w fun e w'=> ∃v,e=.returned v/\zK B w0 Lr (L.take i++x::L.drop i) v w':=by
 refine yo (c:=zu Try.f37) (rs:=[.tmp 6]) (N:=95) Try.func37 kr kr kr ?_;have hlenL:L.length=n:=hrw.lenF (S:=blS);have hcl:(zb blS L).length=n*3:=by rw[yk,hlenL];rfl
 have hle:=hrw.le;have hmx:=hrw.max;have hnd:bw≠bv:=by
  have q:=(RF.1 h.nd).1;intro e;exact q (by rw[e];exact QK ..)
 have etk:zb blS (L.take i)=(zb blS L).take (i*3):=jz L i (by omega);have edr:zb blS (L.drop i)=(zb blS L).drop (i*3):=us L i (by omega);have hxs:([.string x.1,.string x.2.1,.bool x.2.2]:List Value).length=3:=rfl;have ex:blS.cs x=[.string x.1,.string x.2.1,.bool x.2.2]:=rfl;have hdl:((zb blS L).drop (i*3)).length=(n-i)*3:=by rw[RL,hcl];omega
 have ecell:zb blS (L.take i++x::L.drop i)=(zb blS L).take (i*3)++([.string x.1,.string x.2.1,.bool x.2.2]++(zb blS L).drop (i*3)):=by
  rw[qm,etk];show _++(blS.cs x++zb blS (L.drop i))=_;rw[edr,ex]
 have hlen2:(L.take i++x::L.drop i).length=n+1:=by simp;omega
 have h1d: ∀v∈(zb blS L).drop (i*3),v.oneCell'=true:=fun v hv=>xO L v (List.mem_of_mem_drop hv);have h1x: ∀v∈([.string x.1,.string x.2.1,.bool x.2.2]:List Value),v.oneCell'=true:=qS rfl;have hsrcD: ∀q v,((zb blS L).drop (i*3))[q]? =some v->cur[i*3+q]? =some v:=fun q v hq=>by
  rw[Ub]at hq;have hlt:=(Qp.1 hq).1;rw[hrw.get (i*3+q) (by omega)];exact hq
 refine rS [.v] h kr fun gs1 w1 H1=>rS [.v,.v,.oe (ins:=[((.tmp 10),Qf bw n c),((.tmp 11),iN i)]) (v:=.slice (some ⟨bw,if c=i then 0 else 0+i*3,none⟩) (n-i) (c-i)) (v':=.slice (some ⟨bw,i*3,none⟩) (n-i) (c-i)) (fun ρ o w ho hi2=>zR (kz:=.i64) (t:=23) (e:=27) (size:=3) (bytes:=40) kr (x:=(.tmp 10)) (z:=(.tmp 11)) bw 0 n c i ho hi2.1 hi2.2.1 (by omega) (hle) w) (by rw[if_neg (by omega),Qt])] H1 kr fun gs2 w2 H2=>rS [.v,.v,.v] H2 kr fun gs3 w3 H3=>zf kr<|rS [.v,.v] H3 kr fun gs4 w4 H4=>zQ kr kr<|zT kr<|wW<|rS [.v,.v,.v] H4 kr fun gs5 w5 H5=>zf kr<|rS [.v,.v,.E (.bool ((i:Int)==(n:Int))) (.bool false) (za (beq_eq_false_iff_ne.2 (by omega)))] H5 kr fun gs6 w6 H6=>zQ kr kr<|zT kr<|wW<|zf kr ?_;by_cases hroom:n+1<=c
 ·refine rS [.v,.v,.E (.int .i64 (Qm.wrap ((n:Int)+1))) (iN (n+1)) (zh (zB (a:=n) (b:=1) (by omega))),.v,.v,.E (.bool (decide (((n+1:Nat):Int)>(c:Int)))) (.bool false) (za (decide_eq_false (by omega)))] H6 kr fun gs7 w7 H7=>zQ kr kr<|zT kr<|wW<|rS [.v,.v,.v,.E (.int .i64 (Qm.wrap ((n:Int)+1))) (iN (n+1)) (zh (zB (a:=n) (b:=1) (by omega))),.o (ins:=[((.tmp 56),Qf bw n c),((.tmp 59),iN (n+1))]) (v:=Qf bw (n+1) c) (fun ρ o w ho hi2=>qz (kd:=.i64) (t:=23) (e:=27) (size:=3) (bytes:=40) kr (x:=(.tmp 56)) (y:=(.tmp 59)) bw n c (n+1) ho hi2.1 hi2.2.1 (hroom) w),.v] H7 kr fun gs8 w8 H8=>zf kr ?_
  refine rS [.v,.v,.v,.v,.E (.int .i64 (Qm.wrap ((i:Int)+1))) (iN (i+1)) (zh (zB (a:=i) (b:=1) (by omega))),.oe (ins:=[((.tmp 62),Qf bw (n+1) c),((.tmp 65),iN (i+1))]) (v:=.slice (some ⟨bw,if c=(i+1) then 0 else 0+(i+1)*3,none⟩) ((n+1)-(i+1)) (c-(i+1))) (v':=.slice (some ⟨bw,(i+1)*3,none⟩) ((n+1)-(i+1)) (c-(i+1))) (fun ρ o w ho hi2=>zR (kz:=.i64) (t:=23) (e:=27) (size:=3) (bytes:=40) kr (x:=(.tmp 62)) (z:=(.tmp 65)) bw 0 (n+1) c (i+1) ho hi2.1 hi2.2.1 (by omega) (hroom) w) (by rw[if_neg (by omega),Qt]),
   .x (ins:=[((.tmp 61),Qf bv 1 1),((.tmp 66),.slice (some ⟨bw,(i+1)*3,none⟩) ((n+1)-(i+1)) (c-(i+1)))]) (op:=.call { callee:=.value (.func 48),args:=#[.tmp 61,.tmp 66],argTypes:=#[23,23] }) (v:=.bool false) [(1,(bv,blO x)),(0,(bw,.cells cur 27))] (fun ρ o w ho hi2 hd=>zbt bv bw cur x _ _ _ (i+1) hnd (by rw[hrw.sz];omega) ho hi2.1 hi2.2.1 hd.1 hd.2.1),.v] H8 kr fun gs9 w9 H9=>?_
  refine zY kr kr ?_
  refine dS [.v,.v,.v,.E (.int .i64 (Qm.wrap ((i:Int)+1))) (iN (i+1)) (zh (zB (a:=i) (b:=1) (by omega))),.oe (ins:=[((.tmp 69),Qf bw (n+1) c),((.tmp 72),iN (i+1))]) (v:=.slice (some ⟨bw,if c=(i+1) then 0 else 0+(i+1)*3,none⟩) ((n+1)-(i+1)) (c-(i+1))) (v':=.slice (some ⟨bw,(i+1)*3,none⟩) ((n+1)-(i+1)) (c-(i+1))) (fun ρ o w ho hi2=>zR (kz:=.i64) (t:=23) (e:=27) (size:=3) (bytes:=40) kr (x:=(.tmp 69)) (z:=(.tmp 72)) bw 0 (n+1) c (i+1) ho hi2.1 hi2.2.1 (by omega) (hroom) w) (by rw[if_neg (by omega),Qt]),.v,.v,.oe (ins:=[((.tmp 74),Qf bw (n+1) c),((.tmp 75),iN i)]) (v:=.slice (some ⟨bw,if c=i then 0 else 0+i*3,none⟩) ((n+1)-i) (c-i)) (v':=.slice (some ⟨bw,i*3,none⟩) ((n+1)-i) (c-i)) (fun ρ o w ho hi2=>zR (kz:=.i64) (t:=23) (e:=27) (size:=3) (bytes:=40) kr (x:=(.tmp 74)) (z:=(.tmp 75)) bw 0 (n+1) c i ho hi2.1 hi2.2.1 (by omega) (hroom) w) (by rw[if_neg (by omega),Qt]),
   .g [((.tmp 73),.slice (some ⟨bw,(i+1)*3,none⟩) ((n+1)-(i+1)) (c-(i+1))),((.tmp 76),.slice (some ⟨bw,i*3,none⟩) ((n+1)-i) (c-i))] (.call { callee:=.builtin .copy,args:=#[.tmp 73,.tmp 76],argTypes:=#[23,23] }) ((0,(bw,QB (cur) 27))::[]) (fun _=>.int .i64 ((R7 ((n+1)-i) ((n+1)-(i+1)):Nat):Int)) (.turn 0 (.cells (ze (cur) ((i+1)*3) ((zb blS L).drop (i*3))) 27)) (qv (dT:=23) (sT:=23) (e:=27) (size:=3) kr kr (x:=(.tmp 73)) (y:=(.tmp 76)) (j:=0) (b:=bw) (off:=(i+1)*3) (dLen:=(n+1)-(i+1)) (dCap:=c-(i+1)) (sLen:=(n+1)-i) (sCap:=c-i) (a:=⟨bw,i*3,none⟩) (cur:=cur) (T:=27) (cs:=(zb blS L).drop (i*3)) (rd:=[]) (by rw[hdl];show _=min _ _*3;omega) (fun w hd=>qw hd.1 hsrcD) (by rw[hdl,hrw.sz];omega) (h1d))] H9 kr fun w10 H10=>?_
  have hsz1:(ze cur ((i+1)*3) ((zb blS L).drop (i*3))).size=c*3:=by rw[yl (by rw[hdl,hrw.sz];omega),hrw.sz]
  refine rS [.v,.v,.oe (ins:=[((.tmp 78),Qf bw (n+1) c),((.tmp 79),iN i)]) (v:=.slice (some ⟨bw,if c=i then 0 else 0+i*3,none⟩) ((n+1)-i) (c-i)) (v':=.slice (some ⟨bw,i*3,none⟩) ((n+1)-i) (c-i)) (fun ρ o w ho hi2=>zR (kz:=.i64) (t:=23) (e:=27) (size:=3) (bytes:=40) kr (x:=(.tmp 78)) (z:=(.tmp 79)) bw 0 (n+1) c i ho hi2.1 hi2.2.1 (by omega) (hroom) w) (by rw[if_neg (by omega),Qt]),.v,
   .g [((.tmp 80),.slice (some ⟨bw,i*3,none⟩) ((n+1)-i) (c-i)),((.tmp 81),Qf bv (1) (1))] (.call { callee:=.builtin .copy,args:=#[.tmp 80,.tmp 81],argTypes:=#[23,23] }) ((0,(bw,QB (ze cur ((i+1)*3) ((zb blS L).drop (i*3))) 27))::[(1,(bv,blO x))]) (fun _=>.int .i64 ((R7 (1) ((n+1)-i):Nat):Int)) (.turn 0 (.cells (ze (ze cur ((i+1)*3) ((zb blS L).drop (i*3))) (i*3) ([.string x.1,.string x.2.1,.bool x.2.2])) 27 (0,0))) (qv (dT:=23) (sT:=23) (e:=27) (size:=3) kr kr (x:=(.tmp 80)) (y:=(.tmp 81)) (j:=0) (b:=bw) (off:=i*3) (dLen:=(n+1)-i) (dCap:=c-i) (sLen:=1) (sCap:=1) (a:=⟨bv,0,none⟩) (cur:=ze cur ((i+1)*3) ((zb blS L).drop (i*3))) (T:=27) (cs:=[.string x.1,.string x.2.1,.bool x.2.2]) (rd:=[(1,(bv,blO x))]) (by show 3=min _ _*3;omega) (fun w hd=>qw hd.2.1 (fun q v hq=>by rw[Qt,<-Q9];exact hq)) (by rw[hsz1,hxs];omega) (h1x))] H10 kr fun gs11 w11 H11=>?_
  refine rS [.v,.v] H11 kr fun gs12 w12 H12=>rRr [.tmp 6] [] (Qf bw (n+1) c) (zK B w0 Lr (L.take i++x::L.drop i)) H12 kr ?_;have hfin:Rw 3 (ze (ze cur ((i+1)*3) ((zb blS L).drop (i*3))) (i*3) [.string x.1,.string x.2.1,.bool x.2.2]) c (n+1) (zb blS (L.take i++x::L.drop i)):=by
   refine⟨by rw[yk,hlen2];rfl,hroom,hmx,?_,by rw[yl (by rw[hsz1,hxs];omega),hsz1]⟩;rw[ecell];exact zbr hrw.sz hrw.take rfl hcl hxs hi hroom
  exact⟨Qg bw,n+1,c,_,rfl,.inr ⟨bw,_,rfl,rfl,hfin⟩,(H12.as (l:=(bw,.cells (ze (ze cur ((i+1)*3) ((zb blS L).drop (i*3))) (i*3) [.string x.1,.string x.2.1,.bool x.2.2]) 27 (0,0))::(bv,blO x)::Lr) kr).sub (QS _ (Qx ..))⟩
 ·refine rS [.v,.v,.E (.int .i64 (Qm.wrap ((n:Int)+1))) (iN (n+1)) (zh (zB (a:=n) (b:=1) (by omega))),.v,.v,.E (.bool (decide (((n+1:Nat):Int)>(c:Int)))) (.bool true) (za (decide_eq_true (by omega)))] H6 kr fun gs7 w7 H7=>zY kr kr ?_;have hm1:i+(n+1-i)=n+1:=by omega
  refine zp [0,1,2,3,4,5,6,7,8,9] kr kr<|rp [.v,.v,.o (ins:=[((.tmp 32),Qf bw n c),((.tmp 33),iN i)]) (v:=Qf bw i c) (fun ρ o w ho hi2=>qz (kd:=.i64) (t:=23) (e:=27) (size:=3) (bytes:=40) kr (x:=(.tmp 32)) (y:=(.tmp 33)) bw n c i ho hi2.1 hi2.2.1 (by omega) w),.v,.v,.E (.int .i64 (Qm.wrap ((n:Int)+1))) (iN (n+1)) (zh (zB (a:=n) (b:=1) (by omega))),.v,.E (.int .i64 (Qm.wrap (((n+1:Nat):Int)-(i:Int)))) (iN (n+1-i)) (zh (ql (by omega)))] H7 kr fun gs8 w8 H8=>wX [8,9] ?_;have H9:St B w0 w8 ((bw,.cells cur 27)::(bv,blO x)::Lr):=H8.as kr;refine vr H9 (some 40) 23 3 27 3 40 .i64 (.tmp 34) (.tmp 39) 0 bw i c (n+1-i) cur ((zb blS L).take (i*3)) kr kr kr kr kr kr rfl (hrw.cut i (by omega)) (by omega) (by omega) (by omega) (by unfold maxLen;omega) ?_;intro b' cap' cur' w9 H10 hcp hcx hcs htk;rw[hm1]at hcp⊢;refine rp [.v] H10 kr fun gs9 w10 H11=>wX []<|zm ?_;have H12:St B w0 w10 ((b',.cells cur' 27)::(bw,.cells cur 27)::(bv,blO x)::Lr):=H11.as kr;have hs1:(ze cur' (i*3) [.string x.1,.string x.2.1,.bool x.2.2]).size=cap'*3:=by rw[yl (by rw[hcs,hxs];omega),hcs]
  refine rS [.v,.v,.oe (ins:=[((.tmp 41),Qf b' (n+1) cap'),((.tmp 42),iN i)]) (v:=.slice (some ⟨b',if cap'=i then 0 else 0+i*3,none⟩) ((n+1)-i) (cap'-i)) (v':=.slice (some ⟨b',i*3,none⟩) ((n+1)-i) (cap'-i)) (fun ρ o w ho hi2=>zR (kz:=.i64) (t:=23) (e:=27) (size:=3) (bytes:=40) kr (x:=(.tmp 41)) (z:=(.tmp 42)) b' 0 (n+1) cap' i ho hi2.1 hi2.2.1 (by omega) (hcp) w) (by rw[if_neg (by omega),Qt]),.v,
   .g [((.tmp 43),.slice (some ⟨b',i*3,none⟩) ((n+1)-i) (cap'-i)),((.tmp 44),Qf bv (1) (1))] (.call { callee:=.builtin .copy,args:=#[.tmp 43,.tmp 44],argTypes:=#[23,23] }) ((0,(b',QB (cur') 27))::[(2,(bv,blO x))]) (fun _=>.int .i64 ((R7 (1) ((n+1)-i):Nat):Int)) (.turn 0 (.cells (ze (cur') (i*3) ([.string x.1,.string x.2.1,.bool x.2.2])) 27)) (qv (dT:=23) (sT:=23) (e:=27) (size:=3) kr kr (x:=(.tmp 43)) (y:=(.tmp 44)) (j:=0) (b:=b') (off:=i*3) (dLen:=(n+1)-i) (dCap:=cap'-i) (sLen:=1) (sCap:=1) (a:=⟨bv,0,none⟩) (cur:=cur') (T:=27) (cs:=[.string x.1,.string x.2.1,.bool x.2.2]) (rd:=[(2,(bv,blO x))]) (by show 3=min _ _*3;omega) (fun w hd=>qw hd.2.1 (fun q v hq=>by rw[Qt,<-Q9];exact hq)) (by rw[hcs,hxs];omega) (h1x))] H12 kr fun gs11 w11 H13=>?_
  refine dS [.v,.v,.v,.E (.int .i64 (Qm.wrap ((i:Int)+1))) (iN (i+1)) (zh (zB (a:=i) (b:=1) (by omega))),.oe (ins:=[((.tmp 46),Qf b' (n+1) cap'),((.tmp 49),iN (i+1))]) (v:=.slice (some ⟨b',if cap'=(i+1) then 0 else 0+(i+1)*3,none⟩) ((n+1)-(i+1)) (cap'-(i+1))) (v':=.slice (some ⟨b',(i+1)*3,none⟩) ((n+1)-(i+1)) (cap'-(i+1))) (fun ρ o w ho hi2=>zR (kz:=.i64) (t:=23) (e:=27) (size:=3) (bytes:=40) kr (x:=(.tmp 46)) (z:=(.tmp 49)) b' 0 (n+1) cap' (i+1) ho hi2.1 hi2.2.1 (by omega) (hcp) w) (by rw[if_neg (by omega),Qt]),.v,.v,.oe (ins:=[((.tmp 51),Qf bw n c),((.tmp 52),iN i)]) (v:=.slice (some ⟨bw,if c=i then 0 else 0+i*3,none⟩) (n-i) (c-i)) (v':=.slice (some ⟨bw,i*3,none⟩) (n-i) (c-i)) (fun ρ o w ho hi2=>zR (kz:=.i64) (t:=23) (e:=27) (size:=3) (bytes:=40) kr (x:=(.tmp 51)) (z:=(.tmp 52)) bw 0 n c i ho hi2.1 hi2.2.1 (by omega) (hle) w) (by rw[if_neg (by omega),Qt]),
   .g [((.tmp 50),.slice (some ⟨b',(i+1)*3,none⟩) ((n+1)-(i+1)) (cap'-(i+1))),((.tmp 53),.slice (some ⟨bw,i*3,none⟩) (n-i) (c-i))] (.call { callee:=.builtin .copy,args:=#[.tmp 50,.tmp 53],argTypes:=#[23,23] }) ((0,(b',QB (ze cur' (i*3) [.string x.1,.string x.2.1,.bool x.2.2]) 27))::[(1,(bw,.cells cur 27))]) (fun _=>.int .i64 ((R7 (n-i) ((n+1)-(i+1)):Nat):Int)) (.turn 0 (.cells (ze (ze cur' (i*3) [.string x.1,.string x.2.1,.bool x.2.2]) ((i+1)*3) ((zb blS L).drop (i*3))) 27)) (qv (dT:=23) (sT:=23) (e:=27) (size:=3) kr kr (x:=(.tmp 50)) (y:=(.tmp 53)) (j:=0) (b:=b') (off:=(i+1)*3) (dLen:=(n+1)-(i+1)) (dCap:=cap'-(i+1)) (sLen:=n-i) (sCap:=c-i) (a:=⟨bw,i*3,none⟩) (cur:=ze cur' (i*3) [.string x.1,.string x.2.1,.bool x.2.2]) (T:=27) (cs:=(zb blS L).drop (i*3)) (rd:=[(1,(bw,.cells cur 27))]) (by rw[hdl];show _=min _ _*3;omega) (fun w hd=>qw hd.2.1 hsrcD) (by rw[hdl,hs1];omega) (h1d))] H13 kr fun w12 H14=>?_
  refine rS [.v,.v] H14 kr fun gs12 w13 H15=>rRr [.tmp 6] [] (Qf b' (n+1) cap') (zK B w0 Lr (L.take i++x::L.drop i)) H15 kr ?_;have hfin:Rw 3 (ze (ze cur' (i*3) [.string x.1,.string x.2.1,.bool x.2.2]) ((i+1)*3) ((zb blS L).drop (i*3))) cap' (n+1) (zb blS (L.take i++x::L.drop i)):=by
   refine⟨by rw[yk,hlen2];rfl,hcp,hcx,?_,by rw[yl (by rw[hs1,hdl];omega),hs1]⟩;rw[ecell];exact zbs hcs htk hcl hxs hdl hi hcp
  exact⟨Qg b',n+1,cap',_,rfl,.inr ⟨b',_,rfl,rfl,hfin⟩,(H15.as (l:=(b',.cells (ze (ze cur' (i*3) [.string x.1,.string x.2.1,.bool x.2.2]) ((i+1)*3) ((zb blS L).drop (i*3))) 27)::(bw,.cells cur 27)::(bv,blO x)::Lr) kr).sub (QS _ ((Qx ..).trans (Qx ..)))⟩
theorem kw (p:Qc)(n c:Nat)(L:List Bal)(x:Bal)(i bv:Nat)(row Lr:Qb){B:Nat}{w0 w:World}(hrow:zz blS 27 p n c row L)(h:St B w0 w (row++((bv,blO x)::Lr)))(hi:i<=n)(hL:L.length<=1000000):
 Calls Try.prog 37 #[.slice p n c,iN i,Qf bv 1 1] w fun e w'=> ∃v,e=.returned v/\zK B w0 Lr (L.take i++x::L.drop i) v w':=by
 have hlen:=hrow.len;by_cases e:i=n
 ·subst e;rw[Qv (by omega),QC (by omega)];exact zbq p i c L x bv row Lr hrow h hL
 ·rcases hrow with⟨rfl,rfl,rfl,rfl,rfl⟩|⟨bw,cur,rfl,rfl,hrw⟩
  ·omega
  ·exact zbu bw n c cur L x i bv Lr hrw h (by omega) (by omega)
def zS (B:Nat)(w0:World)(Lr:Qb)(L:Qi)(v:Value)(w:World):Prop:=∃(q:Qc) (m k:Nat) (row:Qb),v=.slice q m k/\zz sS 9 q m k row L/\St B w0 w (row++Lr)
theorem zbv (p:Qc)(n c:Nat)(L:Qi)(x:Qa)(bv:Nat)(row Lr:Qb){B:Nat}{w0 w:World}(hrow:zz sS 9 p n c row L)(h:St B w0 w (row++((bv,sxO x)::Lr)))(hL:L.length<=1000000):
 Calls Try.prog 52 #[.slice p n c,iN n,Qf bv 1 1] w fun e w'=> ∃v,e=.returned v/\zS B w0 Lr (L++ [x]) v w':=by
 refine yo (c:=zu Try.f52) (rs:=[.tmp 6]) (N:=95) Try.func52 kr kr kr ?_;have hlen:=hrow.len;rcases hrow with⟨rfl,rfl,rfl,rfl,rfl⟩ | ⟨bw,cur,rfl,rfl,hrw⟩
 ·refine rS [.v] h kr fun gs1 w1 H1=>rS [.v,.v,.v] H1 kr fun gs2 w2 H2=>rS [.v,.v,.v] H2 kr fun gs3 w3 H3=>zf kr<|rS [.v,.v] H3 kr fun gs4 w4 H4=>zQ kr kr<|zT kr<|wW<|rS [.v,.v,.v] H4 kr fun gs5 w5 H5=>zf kr<|rS [.v,.v,.v] H5 kr fun gs6 w6 H6=>zY kr kr<|zp [0,1,2,3] kr kr<|rp [.v,.v] H6 kr fun gs7 w7 H7=>wX [2,3] ?_;have H8:St B w0 w7 ((bv,sxO x)::Lr):=H7.as kr;refine vv (K':=1) H8 (some 25) 22 9 16 (.tmp 23) (.tmp 24) 0 bv 1 #[.string x] kr kr kr kr kr kr rfl (qS rfl) (by omega) ?_;intro b' cap' cur' w8 H9 hrw;refine rp [.v] H9 kr fun gs8 w9 H10=>wX []<|zm ?_;have H11:St B w0 w9 ((b',.cells cur' 9)::(bv,sxO x)::Lr):=H10.as kr;refine rRr [.tmp 6] [] (Qf b' 1 cap') (zS B w0 Lr ([]++ [x])) H10 kr ?_;refine⟨Qg b',1,cap',_,rfl,.inr ⟨b',cur',rfl,rfl,hrw⟩,H11.sub ?_⟩;exact QS _ (Qx ..)
 ·have hin:(n:Int)≠ -1:=by omega
  refine rS [.v] h kr fun gs1 w1 H1=>rS [.v,.v,.o (ins:=[((.tmp 10),Qf bw n c),((.tmp 11),iN n)]) (v:=.slice (some ⟨bw,if c=n then 0 else 0+n*1,none⟩) (n-n) (c-n)) (fun ρ o w ho hi2=>zR (kz:=.i64) (t:=22) (e:=9) (size:=1) (bytes:=16) kr (x:=(.tmp 10)) (z:=(.tmp 11)) bw 0 n c n ho hi2.1 hi2.2.1 (Qs _) hrw.le w)] H1 kr fun gs2 w2 H2=>rS [.v,.v,.v] H2 kr fun gs3 w3 H3=>zf kr<|rS [.v,.v] H3 kr fun gs4 w4 H4=>zQ kr kr<|zT kr<|wW<|rS [.v,.v,.v] H4 kr fun gs5 w5 H5=>zf kr<|rS [.v,.v,.E (.bool ((n:Int)==(n:Int))) (.bool true) (za (beq_self_eq_true _))] H5 kr fun gs6 w6 H6=>zY kr kr<|zp [0,1,2,3] kr kr<|rp [.v,.v] H6 kr fun gs7 w7 H7=>wX [2,3] ?_;have H8:St B w0 w7 ((bw,.cells cur 9)::(bv,sxO x)::Lr):=H7.as kr;refine vu (K':=1) H8 (some 25) 22 9 16 (.tmp 23) (.tmp 24) 0 1 bw bv n c 1 cur #[.string x] (zb sS L) kr kr kr kr kr hrw kr kr rfl (qS rfl) (by omega) (by unfold maxLen;omega) ?_;intro b' cap' cur' w8 H9 hrw';refine rp [.v] H9 kr fun gs8 w9 H10=>wX []<|zm ?_;have H11:St B w0 w9 ((b',.cells cur' 9)::(bv,sxO x)::Lr):=H10.as kr;refine rRr [.tmp 6] [] (Qf b' (n+1) cap') (zS B w0 Lr (L++ [x])) H10 kr ?_;refine⟨Qg b',n+1,cap',_,rfl,.inr ⟨b',cur',rfl,rfl,?_⟩,H11.sub ?_⟩
  ·rw[jW];exact hrw'
  ·exact QS _ (Qx ..)
theorem zbw {cur:Qd}{xs X D:List Value}{i n c:Nat}(hsz:cur.size=c*1)(htk:cur.toList.take (n*1)=xs)(hD:D=xs.drop (i*1))(hxs:xs.length=n*1)(hX:X.length=1)(hi:i<n)(hc:n+1<=c):
 (ze (ze cur ((i+1)*1) D) (i*1) X).toList.take ((n+1)*1)=xs.take (i*1)++(X++D):=by
 have hDl:D.length=(n-i)*1:=by rw[hD,RL,hxs];omega
 have s1:(ze cur ((i+1)*1) D).size=c*1:=by rw[yl (by omega),hsz]
 have hcl:cur.toList.length=c*1:=by rw[QD,hsz]
 rw[qo (C:=ze cur ((i+1)*1) D) (o:=i*1) (vs:=X) (m:=(n+1)*1) (by omega) (by omega),
  jq (C:=cur) (o:=(i+1)*1) (vs:=D) (m:=i*1) (by omega) (by omega),
  qo (C:=cur) (o:=(i+1)*1) (vs:=D) (m:=(n+1)*1) (by omega) (by omega)]
 have e1:(cur.toList.take ((n+1)*1)).drop ((i+1)*1+D.length)=[]:=QC (by rw[Qw];omega);have e2:cur.toList.take (i*1)=xs.take (i*1):=by rw[<-htk,R3,Rl (by omega)]
 have e3:(cur.toList.take ((i+1)*1)++D).drop (i*1+X.length)=D:=List.drop_left' (by rw[Qw];omega);rw[e1,Rr,e3,e2,Rd]
theorem zbx {cur:Qd}{xs X D:List Value}{i n c:Nat}(hsz:cur.size=c*1)(htk:cur.toList.take (i*1)=xs.take (i*1))(hxs:xs.length=n*1)(hX:X.length=1)(hDl:D.length=(n-i)*1)(hi:i<n)(hc:n+1<=c):
 (ze (ze cur (i*1) X) ((i+1)*1) D).toList.take ((n+1)*1)=xs.take (i*1)++(X++D):=by
 have s1:(ze cur (i*1) X).size=c*1:=by rw[yl (by omega),hsz]
 have hcl:cur.toList.length=c*1:=by rw[QD,hsz]
 have hcl1:(ze cur (i*1) X).toList.length=c*1:=by rw[QD,s1]
 rw[qo (C:=ze cur (i*1) X) (o:=(i+1)*1) (vs:=D) (m:=(n+1)*1) (by omega) (by omega),
  qo (C:=cur) (o:=i*1) (vs:=X) (m:=(i+1)*1) (by omega) (by omega)]
 have e1:((ze cur (i*1) X).toList.take ((n+1)*1)).drop ((i+1)*1+D.length)=[]:=QC (by rw[Qw];omega);have e2:(cur.toList.take ((i+1)*1)).drop (i*1+X.length)=[]:=QC (by rw[Qw];omega);rw[e1,e2,Rr,Rr,htk,Rd]
theorem zby (bv bw:Nat)(cur:Qd)(x:Qa)(la lb cb i:Nat)(hne:bw≠bv)(hc:cur.size≠0){ρ:Env}{o:Oper}{w:World}(ho:o.op=.call { callee:=.value (.func 56),args:=#[.tmp 61,.tmp 66],argTypes:=#[22,22] })
 (hx:ev ρ (.tmp 61)=Qf bv la 1) (hy:ev ρ (.tmp 66)=.slice (some ⟨bw,i*1,none⟩) lb cb) (hv:w.heap[bv]? =some (sxO x)) (hw:w.heap[bw]? =some (.cells cur 9)):
 (execOp (ev ρ) o).run Try.prog w=.ok (.value (.bool false)) w:=by
 rw[kJ (f:=56) (args:=#[Qf bv la 1,.slice (some ⟨bw,i*1,none⟩) lb cb]) ho rfl rfl (by simp[hx,hy])]
 rw[run_callFunc_extern Try.func56 kr kr kr (e:=Extern.SlicesOverlaps.overlaps #[22,22] #[4]) kr,
  Lib.run_overlaps_apart w 22 4 9 Try.underlying22 1 (fun w=>by
   obtain⟨it,hi,hsz⟩:=Option.map_eq_some_iff.1 (show (Try.prog.info? 9).map (·.size)=some 1 by kernel_rfl)
   simp[sizeOf,typeInfo,hi,hsz]) ⟨bv,0,none⟩ ⟨bw,i*1,none⟩ la 1 lb cb (Ne.symm hne) 9 9 1 cur.size (by simp[Us,hv]) (by simp[Us,hw]) hc (by simp[Ul,hv]) (by simp[Ul,hv])]
 rfl
theorem zbz (bw n c:Nat)(cur:Qd)(L:Qi)(x:Qa)(i bv:Nat)(Lr:Qb){B:Nat}{w0 w:World}(hrw:Rw 1 cur c n (zb sS L))(h:St B w0 w ((bw,.cells cur 9)::(bv,sxO x)::Lr))(hi:i<n)(hL:n<=1000000):
 Calls Try.prog 52 #[Qf bw n c,iN i,Qf bv 1 1] w fun e w'=> ∃v,e=.returned v/\zS B w0 Lr (L.take i++x::L.drop i) v w':=by
 refine yo (c:=zu Try.f52) (rs:=[.tmp 6]) (N:=95) Try.func52 kr kr kr ?_;have hlenL:L.length=n:=hrw.lenF (S:=sS);have hcl:(zb sS L).length=n*1:=by rw[yk,hlenL];rfl
 have hle:=hrw.le;have hmx:=hrw.max;have hnd:bw≠bv:=by
  have q:=(RF.1 h.nd).1;intro e;exact q (by rw[e];exact QK ..)
 have etk:zb sS (L.take i)=(zb sS L).take (i*1):=jz L i (by omega);have edr:zb sS (L.drop i)=(zb sS L).drop (i*1):=us L i (by omega);have hxs:([.string x]:List Value).length=1:=rfl;have ex:sS.cs x=[.string x]:=rfl;have hdl:((zb sS L).drop (i*1)).length=(n-i)*1:=by rw[RL,hcl];omega
 have ecell:zb sS (L.take i++x::L.drop i)=(zb sS L).take (i*1)++([.string x]++(zb sS L).drop (i*1)):=by
  rw[qm,etk];show _++(sS.cs x++zb sS (L.drop i))=_;rw[edr,ex]
 have hlen2:(L.take i++x::L.drop i).length=n+1:=by simp;omega
 have h1d: ∀v∈(zb sS L).drop (i*1),v.oneCell'=true:=fun v hv=>xO L v (List.mem_of_mem_drop hv);have h1x: ∀v∈([.string x]:List Value),v.oneCell'=true:=qS rfl;have hsrcD: ∀q v,((zb sS L).drop (i*1))[q]? =some v->cur[i*1+q]? =some v:=fun q v hq=>by
  rw[Ub]at hq;have hlt:=(Qp.1 hq).1;rw[hrw.get (i*1+q) (by omega)];exact hq
 refine rS [.v] h kr fun gs1 w1 H1=>rS [.v,.v,.oe (ins:=[((.tmp 10),Qf bw n c),((.tmp 11),iN i)]) (v:=.slice (some ⟨bw,if c=i then 0 else 0+i*1,none⟩) (n-i) (c-i)) (v':=.slice (some ⟨bw,i*1,none⟩) (n-i) (c-i)) (fun ρ o w ho hi2=>zR (kz:=.i64) (t:=22) (e:=9) (size:=1) (bytes:=16) kr (x:=(.tmp 10)) (z:=(.tmp 11)) bw 0 n c i ho hi2.1 hi2.2.1 (by omega) (hle) w) (by rw[if_neg (by omega),Qt])] H1 kr fun gs2 w2 H2=>rS [.v,.v,.v] H2 kr fun gs3 w3 H3=>zf kr<|rS [.v,.v] H3 kr fun gs4 w4 H4=>zQ kr kr<|zT kr<|wW<|rS [.v,.v,.v] H4 kr fun gs5 w5 H5=>zf kr<|rS [.v,.v,.E (.bool ((i:Int)==(n:Int))) (.bool false) (za (beq_eq_false_iff_ne.2 (by omega)))] H5 kr fun gs6 w6 H6=>zQ kr kr<|zT kr<|wW<|zf kr ?_;by_cases hroom:n+1<=c
 ·refine rS [.v,.v,.E (.int .i64 (Qm.wrap ((n:Int)+1))) (iN (n+1)) (zh (zB (a:=n) (b:=1) (by omega))),.v,.v,.E (.bool (decide (((n+1:Nat):Int)>(c:Int)))) (.bool false) (za (decide_eq_false (by omega)))] H6 kr fun gs7 w7 H7=>zQ kr kr<|zT kr<|wW<|rS [.v,.v,.v,.E (.int .i64 (Qm.wrap ((n:Int)+1))) (iN (n+1)) (zh (zB (a:=n) (b:=1) (by omega))),.o (ins:=[((.tmp 56),Qf bw n c),((.tmp 59),iN (n+1))]) (v:=Qf bw (n+1) c) (fun ρ o w ho hi2=>qz (kd:=.i64) (t:=22) (e:=9) (size:=1) (bytes:=16) kr (x:=(.tmp 56)) (y:=(.tmp 59)) bw n c (n+1) ho hi2.1 hi2.2.1 (hroom) w),.v] H7 kr fun gs8 w8 H8=>zf kr ?_
  refine rS [.v,.v,.v,.v,.E (.int .i64 (Qm.wrap ((i:Int)+1))) (iN (i+1)) (zh (zB (a:=i) (b:=1) (by omega))),.oe (ins:=[((.tmp 62),Qf bw (n+1) c),((.tmp 65),iN (i+1))]) (v:=.slice (some ⟨bw,if c=(i+1) then 0 else 0+(i+1)*1,none⟩) ((n+1)-(i+1)) (c-(i+1))) (v':=.slice (some ⟨bw,(i+1)*1,none⟩) ((n+1)-(i+1)) (c-(i+1))) (fun ρ o w ho hi2=>zR (kz:=.i64) (t:=22) (e:=9) (size:=1) (bytes:=16) kr (x:=(.tmp 62)) (z:=(.tmp 65)) bw 0 (n+1) c (i+1) ho hi2.1 hi2.2.1 (by omega) (hroom) w) (by rw[if_neg (by omega),Qt]),
   .x (ins:=[((.tmp 61),Qf bv 1 1),((.tmp 66),.slice (some ⟨bw,(i+1)*1,none⟩) ((n+1)-(i+1)) (c-(i+1)))]) (op:=.call { callee:=.value (.func 56),args:=#[.tmp 61,.tmp 66],argTypes:=#[22,22] }) (v:=.bool false) [(1,(bv,sxO x)),(0,(bw,.cells cur 9))] (fun ρ o w ho hi2 hd=>zby bv bw cur x _ _ _ (i+1) hnd (by rw[hrw.sz];omega) ho hi2.1 hi2.2.1 hd.1 hd.2.1),.v] H8 kr fun gs9 w9 H9=>?_
  refine zY kr kr ?_
  refine dS [.v,.v,.v,.E (.int .i64 (Qm.wrap ((i:Int)+1))) (iN (i+1)) (zh (zB (a:=i) (b:=1) (by omega))),.oe (ins:=[((.tmp 69),Qf bw (n+1) c),((.tmp 72),iN (i+1))]) (v:=.slice (some ⟨bw,if c=(i+1) then 0 else 0+(i+1)*1,none⟩) ((n+1)-(i+1)) (c-(i+1))) (v':=.slice (some ⟨bw,(i+1)*1,none⟩) ((n+1)-(i+1)) (c-(i+1))) (fun ρ o w ho hi2=>zR (kz:=.i64) (t:=22) (e:=9) (size:=1) (bytes:=16) kr (x:=(.tmp 69)) (z:=(.tmp 72)) bw 0 (n+1) c (i+1) ho hi2.1 hi2.2.1 (by omega) (hroom) w) (by rw[if_neg (by omega),Qt]),.v,.v,.oe (ins:=[((.tmp 74),Qf bw (n+1) c),((.tmp 75),iN i)]) (v:=.slice (some ⟨bw,if c=i then 0 else 0+i*1,none⟩) ((n+1)-i) (c-i)) (v':=.slice (some ⟨bw,i*1,none⟩) ((n+1)-i) (c-i)) (fun ρ o w ho hi2=>zR (kz:=.i64) (t:=22) (e:=9) (size:=1) (bytes:=16) kr (x:=(.tmp 74)) (z:=(.tmp 75)) bw 0 (n+1) c i ho hi2.1 hi2.2.1 (by omega) (hroom) w) (by rw[if_neg (by omega),Qt]),
   .g [((.tmp 73),.slice (some ⟨bw,(i+1)*1,none⟩) ((n+1)-(i+1)) (c-(i+1))),((.tmp 76),.slice (some ⟨bw,i*1,none⟩) ((n+1)-i) (c-i))] (.call { callee:=.builtin .copy,args:=#[.tmp 73,.tmp 76],argTypes:=#[22,22] }) ((0,(bw,QB (cur) 9))::[]) (fun _=>.int .i64 ((R7 ((n+1)-i) ((n+1)-(i+1)):Nat):Int)) (.turn 0 (.cells (ze (cur) ((i+1)*1) ((zb sS L).drop (i*1))) 9)) (qv (dT:=22) (sT:=22) (e:=9) (size:=1) kr kr (x:=(.tmp 73)) (y:=(.tmp 76)) (j:=0) (b:=bw) (off:=(i+1)*1) (dLen:=(n+1)-(i+1)) (dCap:=c-(i+1)) (sLen:=(n+1)-i) (sCap:=c-i) (a:=⟨bw,i*1,none⟩) (cur:=cur) (T:=9) (cs:=(zb sS L).drop (i*1)) (rd:=[]) (by rw[hdl];show _=min _ _*1;omega) (fun w hd=>qw hd.1 hsrcD) (by rw[hdl,hrw.sz];omega) (h1d))] H9 kr fun w10 H10=>?_
  have hsz1:(ze cur ((i+1)*1) ((zb sS L).drop (i*1))).size=c*1:=by rw[yl (by rw[hdl,hrw.sz];omega),hrw.sz]
  refine rS [.v,.v,.oe (ins:=[((.tmp 78),Qf bw (n+1) c),((.tmp 79),iN i)]) (v:=.slice (some ⟨bw,if c=i then 0 else 0+i*1,none⟩) ((n+1)-i) (c-i)) (v':=.slice (some ⟨bw,i*1,none⟩) ((n+1)-i) (c-i)) (fun ρ o w ho hi2=>zR (kz:=.i64) (t:=22) (e:=9) (size:=1) (bytes:=16) kr (x:=(.tmp 78)) (z:=(.tmp 79)) bw 0 (n+1) c i ho hi2.1 hi2.2.1 (by omega) (hroom) w) (by rw[if_neg (by omega),Qt]),.v,
   .g [((.tmp 80),.slice (some ⟨bw,i*1,none⟩) ((n+1)-i) (c-i)),((.tmp 81),Qf bv (1) (1))] (.call { callee:=.builtin .copy,args:=#[.tmp 80,.tmp 81],argTypes:=#[22,22] }) ((0,(bw,QB (ze cur ((i+1)*1) ((zb sS L).drop (i*1))) 9))::[(1,(bv,sxO x))]) (fun _=>.int .i64 ((R7 (1) ((n+1)-i):Nat):Int)) (.turn 0 (.cells (ze (ze cur ((i+1)*1) ((zb sS L).drop (i*1))) (i*1) ([.string x])) 9 (0,0))) (qv (dT:=22) (sT:=22) (e:=9) (size:=1) kr kr (x:=(.tmp 80)) (y:=(.tmp 81)) (j:=0) (b:=bw) (off:=i*1) (dLen:=(n+1)-i) (dCap:=c-i) (sLen:=1) (sCap:=1) (a:=⟨bv,0,none⟩) (cur:=ze cur ((i+1)*1) ((zb sS L).drop (i*1))) (T:=9) (cs:=[.string x]) (rd:=[(1,(bv,sxO x))]) (by show 1=min _ _*1;omega) (fun w hd=>qw hd.2.1 (fun q v hq=>by rw[Qt,<-Q9];exact hq)) (by rw[hsz1,hxs];omega) (h1x))] H10 kr fun gs11 w11 H11=>?_
  refine rS [.v,.v] H11 kr fun gs12 w12 H12=>rRr [.tmp 6] [] (Qf bw (n+1) c) (zS B w0 Lr (L.take i++x::L.drop i)) H12 kr ?_;have hfin:Rw 1 (ze (ze cur ((i+1)*1) ((zb sS L).drop (i*1))) (i*1) [.string x]) c (n+1) (zb sS (L.take i++x::L.drop i)):=by
   refine⟨by rw[yk,hlen2];rfl,hroom,hmx,?_,by rw[yl (by rw[hsz1,hxs];omega),hsz1]⟩;rw[ecell];exact zbw hrw.sz hrw.take rfl hcl hxs hi hroom
  exact⟨Qg bw,n+1,c,_,rfl,.inr ⟨bw,_,rfl,rfl,hfin⟩,(H12.as (l:=(bw,.cells (ze (ze cur ((i+1)*1) ((zb sS L).drop (i*1))) (i*1) [.string x]) 9 (0,0))::(bv,sxO x)::Lr) kr).sub (QS _ (Qx ..))⟩
 ·refine rS [.v,.v,.E (.int .i64 (Qm.wrap ((n:Int)+1))) (iN (n+1)) (zh (zB (a:=n) (b:=1) (by omega))),.v,.v,.E (.bool (decide (((n+1:Nat):Int)>(c:Int)))) (.bool true) (za (decide_eq_true (by omega)))] H6 kr fun gs7 w7 H7=>zY kr kr ?_;have hm1:i+(n+1-i)=n+1:=by omega
  refine zp [0,1,2,3,4,5,6,7,8,9] kr kr<|rp [.v,.v,.o (ins:=[((.tmp 32),Qf bw n c),((.tmp 33),iN i)]) (v:=Qf bw i c) (fun ρ o w ho hi2=>qz (kd:=.i64) (t:=22) (e:=9) (size:=1) (bytes:=16) kr (x:=(.tmp 32)) (y:=(.tmp 33)) bw n c i ho hi2.1 hi2.2.1 (by omega) w),.v,.v,.E (.int .i64 (Qm.wrap ((n:Int)+1))) (iN (n+1)) (zh (zB (a:=n) (b:=1) (by omega))),.v,.E (.int .i64 (Qm.wrap (((n+1:Nat):Int)-(i:Int)))) (iN (n+1-i)) (zh (ql (by omega)))] H7 kr fun gs8 w8 H8=>wX [8,9] ?_;have H9:St B w0 w8 ((bw,.cells cur 9)::(bv,sxO x)::Lr):=H8.as kr;refine vr H9 (some 40) 22 3 9 1 16 .i64 (.tmp 34) (.tmp 39) 0 bw i c (n+1-i) cur ((zb sS L).take (i*1)) kr kr kr kr kr kr rfl (hrw.cut i (by omega)) (by omega) (by omega) (by omega) (by unfold maxLen;omega) ?_;intro b' cap' cur' w9 H10 hcp hcx hcs htk;rw[hm1]at hcp⊢;refine rp [.v] H10 kr fun gs9 w10 H11=>wX []<|zm ?_;have H12:St B w0 w10 ((b',.cells cur' 9)::(bw,.cells cur 9)::(bv,sxO x)::Lr):=H11.as kr;have hs1:(ze cur' (i*1) [.string x]).size=cap'*1:=by rw[yl (by rw[hcs,hxs];omega),hcs]
  refine rS [.v,.v,.oe (ins:=[((.tmp 41),Qf b' (n+1) cap'),((.tmp 42),iN i)]) (v:=.slice (some ⟨b',if cap'=i then 0 else 0+i*1,none⟩) ((n+1)-i) (cap'-i)) (v':=.slice (some ⟨b',i*1,none⟩) ((n+1)-i) (cap'-i)) (fun ρ o w ho hi2=>zR (kz:=.i64) (t:=22) (e:=9) (size:=1) (bytes:=16) kr (x:=(.tmp 41)) (z:=(.tmp 42)) b' 0 (n+1) cap' i ho hi2.1 hi2.2.1 (by omega) (hcp) w) (by rw[if_neg (by omega),Qt]),.v,
   .g [((.tmp 43),.slice (some ⟨b',i*1,none⟩) ((n+1)-i) (cap'-i)),((.tmp 44),Qf bv (1) (1))] (.call { callee:=.builtin .copy,args:=#[.tmp 43,.tmp 44],argTypes:=#[22,22] }) ((0,(b',QB (cur') 9))::[(2,(bv,sxO x))]) (fun _=>.int .i64 ((R7 (1) ((n+1)-i):Nat):Int)) (.turn 0 (.cells (ze (cur') (i*1) ([.string x])) 9)) (qv (dT:=22) (sT:=22) (e:=9) (size:=1) kr kr (x:=(.tmp 43)) (y:=(.tmp 44)) (j:=0) (b:=b') (off:=i*1) (dLen:=(n+1)-i) (dCap:=cap'-i) (sLen:=1) (sCap:=1) (a:=⟨bv,0,none⟩) (cur:=cur') (T:=9) (cs:=[.string x]) (rd:=[(2,(bv,sxO x))]) (by show 1=min _ _*1;omega) (fun w hd=>qw hd.2.1 (fun q v hq=>by rw[Qt,<-Q9];exact hq)) (by rw[hcs,hxs];omega) (h1x))] H12 kr fun gs11 w11 H13=>?_
  refine dS [.v,.v,.v,.E (.int .i64 (Qm.wrap ((i:Int)+1))) (iN (i+1)) (zh (zB (a:=i) (b:=1) (by omega))),.oe (ins:=[((.tmp 46),Qf b' (n+1) cap'),((.tmp 49),iN (i+1))]) (v:=.slice (some ⟨b',if cap'=(i+1) then 0 else 0+(i+1)*1,none⟩) ((n+1)-(i+1)) (cap'-(i+1))) (v':=.slice (some ⟨b',(i+1)*1,none⟩) ((n+1)-(i+1)) (cap'-(i+1))) (fun ρ o w ho hi2=>zR (kz:=.i64) (t:=22) (e:=9) (size:=1) (bytes:=16) kr (x:=(.tmp 46)) (z:=(.tmp 49)) b' 0 (n+1) cap' (i+1) ho hi2.1 hi2.2.1 (by omega) (hcp) w) (by rw[if_neg (by omega),Qt]),.v,.v,.oe (ins:=[((.tmp 51),Qf bw n c),((.tmp 52),iN i)]) (v:=.slice (some ⟨bw,if c=i then 0 else 0+i*1,none⟩) (n-i) (c-i)) (v':=.slice (some ⟨bw,i*1,none⟩) (n-i) (c-i)) (fun ρ o w ho hi2=>zR (kz:=.i64) (t:=22) (e:=9) (size:=1) (bytes:=16) kr (x:=(.tmp 51)) (z:=(.tmp 52)) bw 0 n c i ho hi2.1 hi2.2.1 (by omega) (hle) w) (by rw[if_neg (by omega),Qt]),
   .g [((.tmp 50),.slice (some ⟨b',(i+1)*1,none⟩) ((n+1)-(i+1)) (cap'-(i+1))),((.tmp 53),.slice (some ⟨bw,i*1,none⟩) (n-i) (c-i))] (.call { callee:=.builtin .copy,args:=#[.tmp 50,.tmp 53],argTypes:=#[22,22] }) ((0,(b',QB (ze cur' (i*1) [.string x]) 9))::[(1,(bw,.cells cur 9))]) (fun _=>.int .i64 ((R7 (n-i) ((n+1)-(i+1)):Nat):Int)) (.turn 0 (.cells (ze (ze cur' (i*1) [.string x]) ((i+1)*1) ((zb sS L).drop (i*1))) 9)) (qv (dT:=22) (sT:=22) (e:=9) (size:=1) kr kr (x:=(.tmp 50)) (y:=(.tmp 53)) (j:=0) (b:=b') (off:=(i+1)*1) (dLen:=(n+1)-(i+1)) (dCap:=cap'-(i+1)) (sLen:=n-i) (sCap:=c-i) (a:=⟨bw,i*1,none⟩) (cur:=ze cur' (i*1) [.string x]) (T:=9) (cs:=(zb sS L).drop (i*1)) (rd:=[(1,(bw,.cells cur 9))]) (by rw[hdl];show _=min _ _*1;omega) (fun w hd=>qw hd.2.1 hsrcD) (by rw[hdl,hs1];omega) (h1d))] H13 kr fun w12 H14=>?_
  refine rS [.v,.v] H14 kr fun gs12 w13 H15=>rRr [.tmp 6] [] (Qf b' (n+1) cap') (zS B w0 Lr (L.take i++x::L.drop i)) H15 kr ?_;have hfin:Rw 1 (ze (ze cur' (i*1) [.string x]) ((i+1)*1) ((zb sS L).drop (i*1))) cap' (n+1) (zb sS (L.take i++x::L.drop i)):=by
   refine⟨by rw[yk,hlen2];rfl,hcp,hcx,?_,by rw[yl (by rw[hs1,hdl];omega),hs1]⟩;rw[ecell];exact zbx hcs htk hcl hxs hdl hi hcp
  exact⟨Qg b',n+1,cap',_,rfl,.inr ⟨b',_,rfl,rfl,hfin⟩,(H15.as (l:=(b',.cells (ze (ze cur' (i*1) [.string x]) ((i+1)*1) ((zb sS L).drop (i*1))) 9)::(bw,.cells cur 9)::(bv,sxO x)::Lr) kr).sub (QS _ ((Qx ..).trans (Qx ..)))⟩
theorem kx (p:Qc)(n c:Nat)(L:Qi)(x:Qa)(i bv:Nat)(row Lr:Qb){B:Nat}{w0 w:World}(hrow:zz sS 9 p n c row L)(h:St B w0 w (row++((bv,sxO x)::Lr)))(hi:i<=n)(hL:L.length<=1000000):
 Calls Try.prog 52 #[.slice p n c,iN i,Qf bv 1 1] w fun e w'=> ∃v,e=.returned v/\zS B w0 Lr (L.take i++x::L.drop i) v w':=by
 have hlen:=hrow.len;by_cases e:i=n
 ·subst e;rw[Qv (by omega),QC (by omega)];exact zbv p i c L x bv row Lr hrow h hL
 ·rcases hrow with⟨rfl,rfl,rfl,rfl,rfl⟩|⟨bw,cur,rfl,rfl,hrw⟩
  ·omega
  ·exact zbz bw n c cur L x i bv Lr hrw h (by omega) (by omega)
theorem ut {ρ:Env}(x y:Bal){s t:Operand}{o:Oper}(w:World)(ho:o.op=.binOp .eql 27 s t 27)(hx:ev ρ s=blV x)(hy:ev ρ t=blV y):
 (execOp (ev ρ) o).run Try.prog w=.ok (.value (.bool (decide (x=y)))) w:=by
 have h:=vH x y w;change ev ρ s=.agg (blC x)at hx;change ev ρ t=.agg (blC y)at hy;change (Uv 10000 27 (.agg (blC x)) (.agg (blC y))).run Try.prog w=_ at h;generalize blC x=X at h hx;generalize blC y=Y at h hy;unfold execOp;simp only[ho,hx,hy,resolve,QO,RO,Qz,run_eqGuard_agg w _ _ _ _ _ _ (show Try.prog.eqGuardType Try.prog.depth 27=false by kernel_rfl),run_eql_struct,run_neq_struct,h]
theorem uu {α:Type}(f:α->Bool): ∀(L:List α) (i:Nat) (x:α),i<zi f L->L[i]? =some x->f x=true
 | [],i,x,h,_=>absurd h (Uo _)
 | y::r,0,x,h,e=>by
  obtain rfl:y=x:=by simpa using e
  unfold zi at h;by_cases q:f y=true
  ·exact q
  ·rw[if_neg q]at h;omega
 | y::r,i+1,x,h,e=>by
  unfold zi at h;by_cases q:f y=true
  ·rw[if_pos q]at h;exact uu f r i x (by omega) (by simpa using e)
  ·rw[if_neg q]at h;omega
theorem uv {α:Type}(f:α->Bool){R:α->α->Prop}(hd: ∀x y,R x y->f y=true->f x=true): ∀(L:List α),L.Pairwise R-> ∀(i:Nat) (x:α),zi f L<=i->L[i]? =some x->f x=false
 | [],_,i,x,_,e=>by simp at e
 | y::r,hs,i,x,h,e=>by
  obtain⟨h1,h2⟩:=QH.1 hs;unfold zi at h;by_cases q:f y=true
  ·rw[if_pos q]at h;obtain⟨i,rfl⟩:∃k,i=k+1:=⟨i-1,by omega⟩
   exact uv f hd r h2 i x (by omega) (by simpa using e)
  ·cases i with
   | zero=>
    obtain rfl:y=x:=by simpa using e
    exact QM.2 q
   | succ i=>
    have hx:x∈r:=List.mem_of_getElem? (by simpa using e);exact QM.2 fun p=>q (hd y x (h1 x hx) p)
theorem xl {α:Type}(f:α->Bool){R:α->α->Prop}(hd: ∀x y,R x y->f y=true->f x=true){L:List α}(hs:L.Pairwise R){i:Nat}{x:α}(e:L[i]? =some x):f x=decide (i<zi f L):=by
 by_cases h:i<zi f L
 ·rw[decide_eq_true h];exact uu f L i x h e
 ·rw[decide_eq_false h];exact uv f hd L hs i x (by omega) e
theorem zbA (x:Qa)(b:Bal)(k:Nat):FnP Try.prog 42 #[.string x,Qe k] (fun w=>w.heap[k]? =some (blO b)) (.bool (zd (tl x) (tl b.2.1))):=by
 refine FnP.intro (c:=zu Try.f42) [.tmp 3] 8 Try.func42 kr kr kr fun w hP=>rS [.v] (St.start w) kr fun gs1 w1 H1=>rS [.v,.v,.fs (off:=1) (v:=.string b.2.1) hP (zk hP) kr,.E (.bool (RB x.toList b.2.1.toList)) (.bool (zd (tl x) (tl b.2.1))) (za (jX _ _)),.v] H1 kr fun gs2 w2 H2=>?_;exact rR [.tmp 3] [] (.bool (zd (tl x) (tl b.2.1))) H2 kr
abbrev leV (k:Nat):Value:=.func (.func 42) #[] #[Qe k]
theorem uw (p:Qc)(n c:Nat)(V:List Bal)(b:Bal)(i k5 k3 k:Nat)(x:Bal)(hx:V[i]? =some x)(hL:V.length<=1000000):FnP Try.prog 36 #[iN i,Qe k5,Qe k3] (fun w=>w.heap[k5]? =some (.cells #[ahV k] 45 (0,0))/\w.heap[k3]? =some (.cells #[.slice p n c] 23 (0,0))/\w.heap[k]? =some (blO b)/\AtF blS w p n V) (.bool (!(aheadB x b))):=by
 refine FnP.intro (c:=zu Try.f36) [.tmp 4] 12 Try.func36 kr kr kr fun w hP=>?_;obtain⟨h5,h3,hk,hA⟩:=hP;have hn:=hA.1;have hi:i<V.length:=(Qp.1 hx).1;obtain⟨bl,off,C,T,fz,hp,hh,hR⟩:=hA.row2 (by omega);refine rS [.v] (St.start w) kr fun gs1 w1 H1=>dS [.fs (off:=0) (v:=ahV k) h5 (zk h5) kr,.fs (off:=0) (v:=.slice p n c) h3 (zk h3) kr,.v,.o (ins:=[((.tmp 6),.slice p n c),((.tmp 7),iN i)]) (v:=.pointer (some ⟨bl,off+i*3,none⟩)) (fun ρ o w ho hi2=>zv (kd:=.i64) (t:=23) (e:=27) (K:=3) (bytes:=40) kr (x:=(.tmp 6)) (y:=(.tmp 7)) bl off n c i hp ho hi2.1 hi2.2.1 (by omega) w),.fp (off:=off+i*3) (n:=3) (W:=blC x) hh (zk hh) (hR _ _ hx).1 (hR _ _ hx).2,.cp (pre:=fun w=>w.heap[k]? =some (blO b)) (uo x b k) [] (fun w hb hd=>zN hk hb),.v,.v] H1 kr fun w2 H2=>?_;exact rR [.tmp 4] [] (.bool (!(aheadB x b))) H2 kr
theorem ux (n a:Nat)(ha:a<=n)(hn:n<=1000000)(c0 c1:Value)(pre:World->Prop)(hst: ∀w w',pre w->Below w.heap.size w w'->pre w')(hc: ∀i,i<n->FnP Try.prog 36 #[iN i,c0,c1] pre (.bool (!decide (i<a)))):
 FnP Try.prog 35 #[iN n,.func (.func 36) #[] #[c0,c1]] pre (iN a):=by
 refine FnP.intro (c:=zu Try.f35) [.tmp 4] 26 Try.func35 kr kr kr fun w hP=>?_;have H0:=St.start w;refine rS [.v] H0 kr fun gs1 w1 H1=>rS [.v,.v,.v] H1 kr fun gs2 w2 H2=>zf kr<|yy 0 kr<|qN kr (fun mz ρ ww=> ∃(i j:Nat),j-i=mz/\i<=a/\a<=j/\j<=n/\St w.heap.size w ww []/\Is [(1,.func (.func 36) #[] #[c0,c1]),(5,iN i),(6,iN j)] ρ) (n-0) ⟨0,n,rfl,Rf _,ha,Qs _,H2.as kr,isK⟩ ?_;clear H0 H1 H2;rintro _ _ w4 ⟨i,j,rfl,hia,haj,hjn,H4,_,rfl⟩;refine zf kr<|zf kr ?_;by_cases hi:i<j
 ·refine rL [.v,.v,.E (.bool (decide ((i:Int)<(j:Int)))) (.bool true) (za (decide_eq_true (by omega)))] H4 kr fun gs4 w5 H5=>wW<|zY kr kr<|zT kr<|wW<|yy 1 kr<|rS [.v,.v,.E (.int .i64 (Qm.wrap ((i:Int)+(j:Int)))) (iN (i+j)) (zh (zB (a:=i) (b:=j) (by omega))),.E (.int .u64 (IntKind.u64.wrap ((i+j:Nat):Int))) (.int .u64 ((i+j:Nat):Int)) (zh (by rw[IntKind.wrap_u64];omega)),.E (.int .u64 (Int.fdiv ((i+j:Nat):Int) (2^1))) (.int .u64 (((i+j) / 2:Nat):Int)) (zh (vi (k:=1) (i+j) 2 rfl)),.E (.int .i64 (Qm.wrap (((i+j) / 2:Nat):Int))) (iN ((i+j) / 2)) (zh (vj (by omega))),.v] H5 kr fun gs5 w6 H6=>?_;have hm:(i+j) / 2<n:=by omega
  have hcm:=hc ((i+j) / 2) hm;by_cases hlt:(i+j) / 2<a
  ·rw[decide_eq_true hlt]at hcm;refine rS [.v,.v,.cp (pre:=pre) hcm [] (fun w' hb hd=>hst w w' hP hb),.v] H6 kr fun gs6 w7 H7=>zY kr kr<|rL [.v,.E (.int .i64 (Qm.wrap (((i+j) / 2:Nat)+1))) (iN ((i+j) / 2+1)) (zh (zB (a:=(i+j) / 2) (b:=1) (by omega))),.v] H7 kr fun gs7 w8 H8=>?_;show ∃m,_/\_;exact⟨_,(by omega),(i+j) / 2+1,j,rfl,by omega,haj,hjn,H8.as kr,isK⟩
  ·rw[decide_eq_false hlt]at hcm;refine rS [.v,.v,.cp (pre:=pre) hcm [] (fun w' hb hd=>hst w w' hP hb),.v] H6 kr fun gs6 w7 H7=>zQ kr kr<|rL [.v,.v] H7 kr fun gs7 w8 H8=>?_;show ∃m,_/\_;exact⟨_,(by omega),i,(i+j) / 2,rfl,hia,by omega,by omega,H8.as kr,isK⟩
 ·refine rL [.v,.v,.E (.bool (decide ((i:Int)<(j:Int)))) (.bool false) (za (decide_eq_false (by omega)))] H4 kr fun gs4 w5 H5=>wW<|zQ kr kr<|qM 0 kr<|wW ?_;obtain rfl:i=a:=by omega
  refine rS [.v,.v] H5 kr fun gs6 w6 H6=>?_;exact rR [.tmp 4] [] (iN i) H6 kr
theorem zbB (p:Qc)(n c:Nat)(V:List Bal)(b:Bal)(k:Nat)(row Lr:Qb){B:Nat}{w0 w:World}(hrow:zz blS 27 p n c row V)(h:St B w0 w (row++((k,blO b)::Lr)))(hs:yD V)(hL:V.length<=1000000):
 Calls Try.prog 21 #[.slice p n c,blV b,ahV k] w fun e w'=> ∃v,e=.returned v/\zK B w0 ((k,blO b)::Lr) (zn (fun x=>aheadB x b) b V) v w':=by
 refine yo (c:=zu Try.f21) (rs:=[.tmp 6]) (N:=30) Try.func21 kr kr kr ?_;have hlen:=hrow.len;refine zp [0,1,2,3] kr kr<|qi h (some 3) 23 (.tmp 0) (.slice p n c) kr kr kr ?_;intro b3 wb3 Hb3;refine qi Hb3 (some 4) 27 (.tmp 1) (blV b) kr kr kr ?_;intro b4 wb4 Hb4;refine qi Hb4 (some 5) 45 (.tmp 2) (ahV k) kr kr kr ?_;intro b5 wb5 Hb5;refine rp [.v] Hb5 kr fun gs0 w0' H0=>wX []<|zm<|wW ?_;rcases hrow with⟨rfl,rfl,rfl,rfl,rfl⟩ | ⟨bw,cur,rfl,rfl,hrw⟩
 ·have H1:St B w0 w0' ((b5,.cells #[ahV k] 45 (0,0))::(b4,blO b)::(b3,.cells #[.slice none 0 0] 23 (0,0))::(k,blO b)::Lr):=H0.as kr
  have hsr:=ux 0 (zi (fun x=>aheadB x b) []) (by have:=qt (fun x=>aheadB x b) [];exact this) (by omega) (Qe b5) (Qe b3) (fun w=>w.heap[b5]? =some (.cells #[ahV k] 45 (0,0))/\w.heap[b3]? =some (.cells #[.slice none 0 0] 23 (0,0))/\w.heap[k]? =some (blO b)/\AtF blS w none 0 []) (fun w w' h hb=>⟨zN h.1 hb,zN h.2.1 hb,zN h.2.2.1 hb,h.2.2.2.call hb⟩) (fun i hi=>by
   obtain⟨x,hx⟩:∃x,([]:List Bal)[i]? =some x:=⟨_,Qj (by exact absurd hi (Uo _))⟩
   rw[<-xl (fun x=>aheadB x b) (fun x y hxy hy=>qr hxy hy) hs hx]
   exact uw none 0 0 [] b i b5 b3 k x hx (Rf _))
  refine rS [.l 2,.v,.v,.cp (pre:=(fun w=>w.heap[b5]? =some (.cells #[ahV k] 45 (0,0))/\w.heap[b3]? =some (.cells #[.slice none 0 0] 23 (0,0))/\w.heap[k]? =some (blO b)/\AtF blS w none 0 [])) hsr [(0,(b5,.cells #[ahV k] 45 (0,0))),(2,(b3,.cells #[.slice none 0 0] 23 (0,0))),(3,(k,blO b))] (fun w hb hd=>⟨hd.1,hd.2.1,hd.2.2.1,⟨rfl,.inl rfl⟩⟩),.v] H1 kr fun gs1 w1 H2=>zf kr<|dS [.v,.l 2,.v,.E (.bool (decide (((0:Nat):Int)<((0:Nat):Int)))) (.bool false) (za (rfl)),.v,.n,.n,.n,.n,.n,.n,.v] H2 kr fun w2 H3=>zx<|wW<|zp [0,1,2,3,4,5] kr kr<|rp [.l 2,.v,.l 1] H3 kr fun gs3 w3 H4=>wX [3,4,5] ?_;have H5:St B w0 w3 ((b5,.cells #[ahV k] 45 (0,0))::(b4,blO b)::(b3,.cells #[.slice none 0 0] 23 (0,0))::(k,blO b)::Lr):=H4.as kr;refine qE H5 (some 28) (fun b=>Qf b 1 1) (blC b) 27 kr kr ?_;intro bn w4 H6;refine yA (R:=zK B w0 (((b5,.cells #[ahV k] 45 (0,0))::(b4,blO b)::(b3,.cells #[.slice none 0 0] 23 (0,0))::(k,blO b)::Lr)) ([].take 0++b::[].drop 0)) (some 29) 37 #[.slice none 0 0,iN 0,Qf bn 1 1] (kw none 0 0 [] b 0 bn [] (((b5,.cells #[ahV k] 45 (0,0))::(b4,blO b)::(b3,.cells #[.slice none 0 0] 23 (0,0))::(k,blO b)::Lr)) (.inl ⟨rfl,rfl,rfl,rfl,rfl⟩) (H6) (Qs _) (Rf _)) kr kr ?_;rintro v w5 ⟨q',m',k',row',rfl,hrow',H7⟩;refine rp [.v] H7 kr fun gs5 w6 H8=>wX []<|zm<|wW<|rRr [.tmp 6] [] (.slice q' m' k') (zK B w0 ((k,blO b)::Lr) (zn (fun x=>aheadB x b) b [])) H8 kr ?_;refine⟨q',m',k',row',rfl,?_,(H8.as (l:=row'++((b5,.cells #[ahV k] 45 (0,0))::(b4,blO b)::(b3,.cells #[.slice none 0 0] 23 (0,0))::(k,blO b)::Lr)) kr).sub (Rn (Rt _) (QA [_,_,_] _))⟩;exact hrow'
 ·have H1:St B w0 w0' ((b5,.cells #[ahV k] 45 (0,0))::(b4,blO b)::(b3,.cells #[Qf bw n c] 23 (0,0))::(bw,.cells cur 27)::(k,blO b)::Lr):=H0.as kr
  have hsr:=ux n (zi (fun x=>aheadB x b) V) (by have:=qt (fun x=>aheadB x b) V;omega) (by omega) (Qe b5) (Qe b3) (fun w=>w.heap[b5]? =some (.cells #[ahV k] 45 (0,0))/\w.heap[b3]? =some (.cells #[Qf bw n c] 23 (0,0))/\w.heap[k]? =some (blO b)/\AtF blS w (Qg bw) n V) (fun w w' h hb=>⟨zN h.1 hb,zN h.2.1 hb,zN h.2.2.1 hb,h.2.2.2.call hb⟩) (fun i hi=>by
   obtain⟨x,hx⟩:∃x,V[i]? =some x:=⟨_,Qj (by omega)⟩
   rw[<-xl (fun x=>aheadB x b) (fun x y hxy hy=>qr hxy hy) hs hx]
   exact uw (Qg bw) n c V b i b5 b3 k x hx hL)
  refine rS [.l 2,.v,.v,.cp (pre:=(fun w=>w.heap[b5]? =some (.cells #[ahV k] 45 (0,0))/\w.heap[b3]? =some (.cells #[Qf bw n c] 23 (0,0))/\w.heap[k]? =some (blO b)/\AtF blS w (Qg bw) n V)) hsr [(0,(b5,.cells #[ahV k] 45 (0,0))),(2,(b3,.cells #[Qf bw n c] 23 (0,0))),(4,(k,blO b)),(3,(bw,.cells cur 27))] (fun w hb hd=>⟨hd.1,hd.2.1,hd.2.2.1,jv hrw hd.2.2.2.1⟩),.v] H1 kr fun gs1 w1 H2=>zf kr ?_;have hpl:=qt (fun x=>aheadB x b) V;by_cases hat:zi (fun x=>aheadB x b) V<n
  ·obtain⟨x,hx⟩:∃x,V[zi (fun x=>aheadB x b) V]? =some x:=⟨_,Qj (by omega)⟩
   have hR:=hrw.rowAt;by_cases hxb:x=b
   ·refine dS [.v,.l 2,.v,.E (.bool (decide (((zi (fun x=>aheadB x b) V:Nat):Int)<(n:Int)))) (.bool true) (za (decide_eq_true (by omega))),.v,.l 2,.v,.o (ins:=[((.tmp 17),Qf bw n c),((.tmp 18),iN (zi (fun x=>aheadB x b) V))]) (v:=.pointer (some ⟨bw,0+(zi (fun x=>aheadB x b) V)*3,none⟩)) (fun ρ o w ho hi2=>zv (kd:=.i64) (t:=23) (e:=27) (K:=3) (bytes:=40) kr (x:=(.tmp 17)) (y:=(.tmp 18)) bw 0 n c (zi (fun x=>aheadB x b) V) rfl ho hi2.1 hi2.2.1 hat w),.lp 3 (C:=cur) (off:=0+(zi (fun x=>aheadB x b) V)*3) (n:=3) (W:=blC x) (hR _ _ hx).1 (hR _ _ hx).2,.l 1,.oe (ins:=[((.tmp 20),blV x),((.tmp 21),blV b)]) (op:=.binOp .eql 27 (.tmp 20) (.tmp 21) 27) (v:=.bool (decide (x=b))) (v':=.bool true) (fun ρ o w ho hi2=>ut x b w ho hi2.1 hi2.2.1) (za (decide_eq_true hxb)),.v] H2 kr fun w2 H3=>zy<|rS [.l 2,.v] H3 kr fun gs3 w3 H4=>rRr [.tmp 6] [] (Qf bw n c) (zK B w0 ((k,blO b)::Lr) (zn (fun x=>aheadB x b) b V)) H4 kr ?_;refine⟨Qg bw,n,c,[(bw,.cells cur 27)],rfl,?_,(H4.as (l:=((b5,.cells #[ahV k] 45 (0,0))::(b4,blO b)::(b3,.cells #[Qf bw n c] 23 (0,0))::(bw,.cells cur 27)::(k,blO b)::Lr)) kr).sub (QA [_,_,_] _)⟩;rw[show zn (fun x=>aheadB x b) b V=V by unfold zn;rw[if_pos (by rw[hx,hxb])]];exact .inr ⟨bw,cur,rfl,rfl,hrw⟩
   ·refine dS [.v,.l 2,.v,.E (.bool (decide (((zi (fun x=>aheadB x b) V:Nat):Int)<(n:Int)))) (.bool true) (za (decide_eq_true (by omega))),.v,.l 2,.v,.o (ins:=[((.tmp 17),Qf bw n c),((.tmp 18),iN (zi (fun x=>aheadB x b) V))]) (v:=.pointer (some ⟨bw,0+(zi (fun x=>aheadB x b) V)*3,none⟩)) (fun ρ o w ho hi2=>zv (kd:=.i64) (t:=23) (e:=27) (K:=3) (bytes:=40) kr (x:=(.tmp 17)) (y:=(.tmp 18)) bw 0 n c (zi (fun x=>aheadB x b) V) rfl ho hi2.1 hi2.2.1 hat w),.lp 3 (C:=cur) (off:=0+(zi (fun x=>aheadB x b) V)*3) (n:=3) (W:=blC x) (hR _ _ hx).1 (hR _ _ hx).2,.l 1,.oe (ins:=[((.tmp 20),blV x),((.tmp 21),blV b)]) (op:=.binOp .eql 27 (.tmp 20) (.tmp 21) 27) (v:=.bool (decide (x=b))) (v':=.bool false) (fun ρ o w ho hi2=>ut x b w ho hi2.1 hi2.2.1) (za (decide_eq_false hxb)),.v] H2 kr fun w2 H3=>zx<|wW<|zp [0,1,2,3,4,5] kr kr<|rp [.l 2,.v,.l 1] H3 kr fun gs3 w3 H4=>wX [3,4,5] ?_;have H5:St B w0 w3 ((b5,.cells #[ahV k] 45 (0,0))::(b4,blO b)::(b3,.cells #[Qf bw n c] 23 (0,0))::(bw,.cells cur 27)::(k,blO b)::Lr):=H4.as kr;refine qE H5 (some 28) (fun b=>Qf b 1 1) (blC b) 27 kr kr ?_;intro bn w4 H6;refine yA (R:=zK B w0 (((b5,.cells #[ahV k] 45 (0,0))::(b4,blO b)::(b3,.cells #[Qf bw n c] 23 (0,0))::(k,blO b)::Lr)) (V.take (zi (fun x=>aheadB x b) V)++b::V.drop (zi (fun x=>aheadB x b) V))) (some 29) 37 #[Qf bw n c,iN (zi (fun x=>aheadB x b) V),Qf bn 1 1] (kw (Qg bw) n c V b (zi (fun x=>aheadB x b) V) bn [(bw,.cells cur 27)] (((b5,.cells #[ahV k] 45 (0,0))::(b4,blO b)::(b3,.cells #[Qf bw n c] 23 (0,0))::(k,blO b)::Lr)) (.inr ⟨bw,cur,rfl,rfl,hrw⟩) (H6.perm (QP [(bw,.cells cur 27)] ((bn,blO b)::(b5,.cells #[ahV k] 45 (0,0))::(b4,blO b)::(b3,.cells #[Qf bw n c] 23 (0,0))::[]) ((k,blO b)::Lr))) (by omega) hL) kr kr ?_;rintro v w5 ⟨q',m',k',row',rfl,hrow',H7⟩;refine rp [.v] H7 kr fun gs5 w6 H8=>wX []<|zm<|wW<|rRr [.tmp 6] [] (.slice q' m' k') (zK B w0 ((k,blO b)::Lr) (zn (fun x=>aheadB x b) b V)) H8 kr ?_;refine⟨q',m',k',row',rfl,?_,(H8.as (l:=row'++((b5,.cells #[ahV k] 45 (0,0))::(b4,blO b)::(b3,.cells #[Qf bw n c] 23 (0,0))::(k,blO b)::Lr)) kr).sub (Rn (Rt _) (QA [_,_,_] _))⟩;rw[show zn (fun x=>aheadB x b) b V=V.take (zi (fun x=>aheadB x b) V)++b::V.drop (zi (fun x=>aheadB x b) V) by unfold zn;rw[if_neg (by rw[hx];exact fun q=>hxb (QX.inj q))]];exact hrow'
  ·refine dS [.v,.l 2,.v,.E (.bool (decide (((zi (fun x=>aheadB x b) V:Nat):Int)<(n:Int)))) (.bool false) (za (decide_eq_false (by omega))),.v,.n,.n,.n,.n,.n,.n,.v] H2 kr fun w2 H3=>zx<|wW<|zp [0,1,2,3,4,5] kr kr<|rp [.l 2,.v,.l 1] H3 kr fun gs3 w3 H4=>wX [3,4,5] ?_;have H5:St B w0 w3 ((b5,.cells #[ahV k] 45 (0,0))::(b4,blO b)::(b3,.cells #[Qf bw n c] 23 (0,0))::(bw,.cells cur 27)::(k,blO b)::Lr):=H4.as kr;refine qE H5 (some 28) (fun b=>Qf b 1 1) (blC b) 27 kr kr ?_;intro bn w4 H6;refine yA (R:=zK B w0 (((b5,.cells #[ahV k] 45 (0,0))::(b4,blO b)::(b3,.cells #[Qf bw n c] 23 (0,0))::(k,blO b)::Lr)) (V.take (zi (fun x=>aheadB x b) V)++b::V.drop (zi (fun x=>aheadB x b) V))) (some 29) 37 #[Qf bw n c,iN (zi (fun x=>aheadB x b) V),Qf bn 1 1] (kw (Qg bw) n c V b (zi (fun x=>aheadB x b) V) bn [(bw,.cells cur 27)] (((b5,.cells #[ahV k] 45 (0,0))::(b4,blO b)::(b3,.cells #[Qf bw n c] 23 (0,0))::(k,blO b)::Lr)) (.inr ⟨bw,cur,rfl,rfl,hrw⟩) (H6.perm (QP [(bw,.cells cur 27)] ((bn,blO b)::(b5,.cells #[ahV k] 45 (0,0))::(b4,blO b)::(b3,.cells #[Qf bw n c] 23 (0,0))::[]) ((k,blO b)::Lr))) (by omega) hL) kr kr ?_;rintro v w5 ⟨q',m',k',row',rfl,hrow',H7⟩;refine rp [.v] H7 kr fun gs5 w6 H8=>wX []<|zm<|wW<|rRr [.tmp 6] [] (.slice q' m' k') (zK B w0 ((k,blO b)::Lr) (zn (fun x=>aheadB x b) b V)) H8 kr ?_;refine⟨q',m',k',row',rfl,?_,(H8.as (l:=row'++((b5,.cells #[ahV k] 45 (0,0))::(b4,blO b)::(b3,.cells #[Qf bw n c] 23 (0,0))::(k,blO b)::Lr)) kr).sub (Rn (Rt _) (QA [_,_,_] _))⟩;rw[show zn (fun x=>aheadB x b) b V=V.take (zi (fun x=>aheadB x b) V)++b::V.drop (zi (fun x=>aheadB x b) V) by unfold zn;rw[if_neg (by rw[QZ (by omega)];exact fun q=>nomatch q)]];exact hrow'
theorem uy (p:Qc)(n c:Nat)(L:Qi)(b:Bal)(i k5 k3 k:Nat)(x:Qa)(hx:L[i]? =some x)(hL:L.length<=1000000):FnP Try.prog 51 #[iN i,Qe k5,Qe k3] (fun w=>w.heap[k5]? =some (.cells #[leV k] 59 (0,0))/\w.heap[k3]? =some (.cells #[.slice p n c] 22 (0,0))/\w.heap[k]? =some (blO b)/\AtF sS w p n L) (.bool (!(zd (tl x) (tl b.2.1)))):=by
 refine FnP.intro (c:=zu Try.f51) [.tmp 4] 12 Try.func51 kr kr kr fun w hP=>?_;obtain⟨h5,h3,hk,hA⟩:=hP;have hn:=hA.1;have hi:i<L.length:=(Qp.1 hx).1;obtain⟨bl,off,C,T,fz,hp,hh,hR⟩:=hA.row2 (by omega);have hcx:C[off+i*1]? =some (.string x):=hR.cell hx 0 (by decide);refine rS [.v] (St.start w) kr fun gs1 w1 H1=>dS [.fs (off:=0) (v:=leV k) h5 (zk h5) kr,.fs (off:=0) (v:=.slice p n c) h3 (zk h3) kr,.v,.o (ins:=[((.tmp 6),.slice p n c),((.tmp 7),iN i)]) (v:=.pointer (some ⟨bl,off+i*1,none⟩)) (fun ρ o w ho hi2=>zv (kd:=.i64) (t:=22) (e:=9) (K:=1) (bytes:=16) kr (x:=(.tmp 6)) (y:=(.tmp 7)) bl off n c i hp ho hi2.1 hi2.2.1 (by omega) w),.fs (off:=off+i*1) (v:=.string x) hh (zk hh) hcx,.cp (pre:=fun w=>w.heap[k]? =some (blO b)) (zbA x b k) [] (fun w hb hd=>zN hk hb),.v,.v] H1 kr fun w2 H2=>?_;exact rR [.tmp 4] [] (.bool (!(zd (tl x) (tl b.2.1)))) H2 kr
theorem uz (n a:Nat)(ha:a<=n)(hn:n<=1000000)(c0 c1:Value)(pre:World->Prop)(hst: ∀w w',pre w->Below w.heap.size w w'->pre w')(hc: ∀i,i<n->FnP Try.prog 51 #[iN i,c0,c1] pre (.bool (!decide (i<a)))):
 FnP Try.prog 35 #[iN n,.func (.func 51) #[] #[c0,c1]] pre (iN a):=by
 refine FnP.intro (c:=zu Try.f35) [.tmp 4] 26 Try.func35 kr kr kr fun w hP=>?_;have H0:=St.start w;refine rS [.v] H0 kr fun gs1 w1 H1=>rS [.v,.v,.v] H1 kr fun gs2 w2 H2=>zf kr<|yy 0 kr<|qN kr (fun mz ρ ww=> ∃(i j:Nat),j-i=mz/\i<=a/\a<=j/\j<=n/\St w.heap.size w ww []/\Is [(1,.func (.func 51) #[] #[c0,c1]),(5,iN i),(6,iN j)] ρ) (n-0) ⟨0,n,rfl,Rf _,ha,Qs _,H2.as kr,isK⟩ ?_;clear H0 H1 H2;rintro _ _ w4 ⟨i,j,rfl,hia,haj,hjn,H4,_,rfl⟩;refine zf kr<|zf kr ?_;by_cases hi:i<j
 ·refine rL [.v,.v,.E (.bool (decide ((i:Int)<(j:Int)))) (.bool true) (za (decide_eq_true (by omega)))] H4 kr fun gs4 w5 H5=>wW<|zY kr kr<|zT kr<|wW<|yy 1 kr<|rS [.v,.v,.E (.int .i64 (Qm.wrap ((i:Int)+(j:Int)))) (iN (i+j)) (zh (zB (a:=i) (b:=j) (by omega))),.E (.int .u64 (IntKind.u64.wrap ((i+j:Nat):Int))) (.int .u64 ((i+j:Nat):Int)) (zh (by rw[IntKind.wrap_u64];omega)),.E (.int .u64 (Int.fdiv ((i+j:Nat):Int) (2^1))) (.int .u64 (((i+j) / 2:Nat):Int)) (zh (vi (k:=1) (i+j) 2 rfl)),.E (.int .i64 (Qm.wrap (((i+j) / 2:Nat):Int))) (iN ((i+j) / 2)) (zh (vj (by omega))),.v] H5 kr fun gs5 w6 H6=>?_;have hm:(i+j) / 2<n:=by omega
  have hcm:=hc ((i+j) / 2) hm;by_cases hlt:(i+j) / 2<a
  ·rw[decide_eq_true hlt]at hcm;refine rS [.v,.v,.cp (pre:=pre) hcm [] (fun w' hb hd=>hst w w' hP hb),.v] H6 kr fun gs6 w7 H7=>zY kr kr<|rL [.v,.E (.int .i64 (Qm.wrap (((i+j) / 2:Nat)+1))) (iN ((i+j) / 2+1)) (zh (zB (a:=(i+j) / 2) (b:=1) (by omega))),.v] H7 kr fun gs7 w8 H8=>?_;show ∃m,_/\_;exact⟨_,(by omega),(i+j) / 2+1,j,rfl,by omega,haj,hjn,H8.as kr,isK⟩
  ·rw[decide_eq_false hlt]at hcm;refine rS [.v,.v,.cp (pre:=pre) hcm [] (fun w' hb hd=>hst w w' hP hb),.v] H6 kr fun gs6 w7 H7=>zQ kr kr<|rL [.v,.v] H7 kr fun gs7 w8 H8=>?_;show ∃m,_/\_;exact⟨_,(by omega),i,(i+j) / 2,rfl,hia,by omega,by omega,H8.as kr,isK⟩
 ·refine rL [.v,.v,.E (.bool (decide ((i:Int)<(j:Int)))) (.bool false) (za (decide_eq_false (by omega)))] H4 kr fun gs4 w5 H5=>wW<|zQ kr kr<|qM 0 kr<|wW ?_;obtain rfl:i=a:=by omega
  refine rS [.v,.v] H5 kr fun gs6 w6 H6=>?_;exact rR [.tmp 4] [] (iN i) H6 kr
theorem zbC (p:Qc)(n c:Nat)(L:Qi)(b:Bal)(k:Nat)(row Lr:Qb){B:Nat}{w0 w:World}(hrow:zz sS 9 p n c row L)(h:St B w0 w (row++((k,blO b)::Lr)))(hs:qd L)(hL:L.length<=1000000):
 Calls Try.prog 41 #[.slice p n c,.string b.2.1,leV k] w fun e w'=> ∃v,e=.returned v/\zS B w0 ((k,blO b)::Lr) (zn (fun x=>zd (tl x) (tl b.2.1)) b.2.1 L) v w':=by
 refine yo (c:=zu Try.f41) (rs:=[.tmp 6]) (N:=30) Try.func41 kr kr kr ?_;have hlen:=hrow.len;refine zp [0,1,2] kr kr<|qi h (some 3) 22 (.tmp 0) (.slice p n c) kr kr kr ?_;intro b3 wb3 Hb3;refine qi Hb3 (some 5) 59 (.tmp 2) (leV k) kr kr kr ?_;intro b5 wb5 Hb5;refine rp [.v] Hb5 kr fun gs0 w0' H0=>wX []<|zm<|wW ?_;rcases hrow with⟨rfl,rfl,rfl,rfl,rfl⟩ | ⟨bw,cur,rfl,rfl,hrw⟩
 ·have H1:St B w0 w0' ((b5,.cells #[leV k] 59 (0,0))::(b3,.cells #[.slice none 0 0] 22 (0,0))::(k,blO b)::Lr):=H0.as kr
  have hsr:=uz 0 (zi (fun x=>zd (tl x) (tl b.2.1)) []) (by have:=qt (fun x=>zd (tl x) (tl b.2.1)) [];exact this) (by omega) (Qe b5) (Qe b3) (fun w=>w.heap[b5]? =some (.cells #[leV k] 59 (0,0))/\w.heap[b3]? =some (.cells #[.slice none 0 0] 22 (0,0))/\w.heap[k]? =some (blO b)/\AtF sS w none 0 []) (fun w w' h hb=>⟨zN h.1 hb,zN h.2.1 hb,zN h.2.2.1 hb,h.2.2.2.call hb⟩) (fun i hi=>by
   obtain⟨x,hx⟩:∃x,([]:Qi)[i]? =some x:=⟨_,Qj (by exact absurd hi (Uo _))⟩
   rw[<-xl (fun x=>zd (tl x) (tl b.2.1)) (fun x y hxy hy=>qF hxy hy) hs hx]
   exact uy none 0 0 [] b i b5 b3 k x hx (Rf _))
  refine rS [.l 1,.v,.v,.cp (pre:=(fun w=>w.heap[b5]? =some (.cells #[leV k] 59 (0,0))/\w.heap[b3]? =some (.cells #[.slice none 0 0] 22 (0,0))/\w.heap[k]? =some (blO b)/\AtF sS w none 0 [])) hsr [(0,(b5,.cells #[leV k] 59 (0,0))),(1,(b3,.cells #[.slice none 0 0] 22 (0,0))),(2,(k,blO b))] (fun w hb hd=>⟨hd.1,hd.2.1,hd.2.2.1,⟨rfl,.inl rfl⟩⟩),.v] H1 kr fun gs1 w1 H2=>zf kr<|rS [.v,.l 1,.v,.E (.bool (decide (((0:Nat):Int)<((0:Nat):Int)))) (.bool false) (za (rfl)),.v,.n,.n,.n,.n,.n,.n,.v] H2 kr fun gs2 w2 H3=>zx<|wW<|zp [0,1,2,3,4,5] kr kr<|rp [.l 1,.v,.v] H3 kr fun gs3 w3 H4=>wX [3,4,5] ?_;have H5:St B w0 w3 ((b5,.cells #[leV k] 59 (0,0))::(b3,.cells #[.slice none 0 0] 22 (0,0))::(k,blO b)::Lr):=H4.as kr;refine qE H5 (some 28) (fun b=>Qf b 1 1) #[.string b.2.1] 9 kr kr ?_;intro bn w4 H6;refine yA (R:=zS B w0 (((b5,.cells #[leV k] 59 (0,0))::(b3,.cells #[.slice none 0 0] 22 (0,0))::(k,blO b)::Lr)) ([].take 0++b.2.1::[].drop 0)) (some 29) 52 #[.slice none 0 0,iN 0,Qf bn 1 1] (kx none 0 0 [] b.2.1 0 bn [] (((b5,.cells #[leV k] 59 (0,0))::(b3,.cells #[.slice none 0 0] 22 (0,0))::(k,blO b)::Lr)) (.inl ⟨rfl,rfl,rfl,rfl,rfl⟩) (H6) (Qs _) (Rf _)) kr kr ?_;rintro v w5 ⟨q',m',k',row',rfl,hrow',H7⟩;refine rp [.v] H7 kr fun gs5 w6 H8=>wX []<|zm<|wW<|rRr [.tmp 6] [] (.slice q' m' k') (zS B w0 ((k,blO b)::Lr) (zn (fun x=>zd (tl x) (tl b.2.1)) b.2.1 [])) H8 kr ?_;refine⟨q',m',k',row',rfl,?_,(H8.as (l:=row'++((b5,.cells #[leV k] 59 (0,0))::(b3,.cells #[.slice none 0 0] 22 (0,0))::(k,blO b)::Lr)) kr).sub (Rn (Rt _) (QA [_,_] _))⟩;exact hrow'
 ·have H1:St B w0 w0' ((b5,.cells #[leV k] 59 (0,0))::(b3,.cells #[Qf bw n c] 22 (0,0))::(bw,.cells cur 9)::(k,blO b)::Lr):=H0.as kr
  have hsr:=uz n (zi (fun x=>zd (tl x) (tl b.2.1)) L) (by have:=qt (fun x=>zd (tl x) (tl b.2.1)) L;omega) (by omega) (Qe b5) (Qe b3) (fun w=>w.heap[b5]? =some (.cells #[leV k] 59 (0,0))/\w.heap[b3]? =some (.cells #[Qf bw n c] 22 (0,0))/\w.heap[k]? =some (blO b)/\AtF sS w (Qg bw) n L) (fun w w' h hb=>⟨zN h.1 hb,zN h.2.1 hb,zN h.2.2.1 hb,h.2.2.2.call hb⟩) (fun i hi=>by
   obtain⟨x,hx⟩:∃x,L[i]? =some x:=⟨_,Qj (by omega)⟩
   rw[<-xl (fun x=>zd (tl x) (tl b.2.1)) (fun x y hxy hy=>qF hxy hy) hs hx]
   exact uy (Qg bw) n c L b i b5 b3 k x hx hL)
  refine rS [.l 1,.v,.v,.cp (pre:=(fun w=>w.heap[b5]? =some (.cells #[leV k] 59 (0,0))/\w.heap[b3]? =some (.cells #[Qf bw n c] 22 (0,0))/\w.heap[k]? =some (blO b)/\AtF sS w (Qg bw) n L)) hsr [(0,(b5,.cells #[leV k] 59 (0,0))),(1,(b3,.cells #[Qf bw n c] 22 (0,0))),(3,(k,blO b)),(2,(bw,.cells cur 9))] (fun w hb hd=>⟨hd.1,hd.2.1,hd.2.2.1,jv hrw hd.2.2.2.1⟩),.v] H1 kr fun gs1 w1 H2=>zf kr ?_;have hpl:=qt (fun x=>zd (tl x) (tl b.2.1)) L;by_cases hat:zi (fun x=>zd (tl x) (tl b.2.1)) L<n
  ·obtain⟨x,hx⟩:∃x,L[zi (fun x=>zd (tl x) (tl b.2.1)) L]? =some x:=⟨_,Qj (by omega)⟩
   have hR:=hrw.rowAt;by_cases hxb:x=b.2.1
   ·refine rS [.v,.l 1,.v,.E (.bool (decide (((zi (fun x=>zd (tl x) (tl b.2.1)) L:Nat):Int)<(n:Int)))) (.bool true) (za (decide_eq_true (by omega))),.v,.l 1,.v,.o (ins:=[((.tmp 17),Qf bw n c),((.tmp 18),iN (zi (fun x=>zd (tl x) (tl b.2.1)) L))]) (v:=.pointer (some ⟨bw,0+(zi (fun x=>zd (tl x) (tl b.2.1)) L)*1,none⟩)) (fun ρ o w ho hi2=>zv (kd:=.i64) (t:=22) (e:=9) (K:=1) (bytes:=16) kr (x:=(.tmp 17)) (y:=(.tmp 18)) bw 0 n c (zi (fun x=>zd (tl x) (tl b.2.1)) L) rfl ho hi2.1 hi2.2.1 hat w),.ls 2 (C:=cur) (off:=0+(zi (fun x=>zd (tl x) (tl b.2.1)) L)*1) (v:=.string x) (hR.cell hx 0 (by decide)),.v,.E (.bool (x.toList==b.2.1.toList)) (.bool true) (za (yH _ _ hxb)),.v] H2 kr fun gs2 w2 H3=>zy<|rS [.l 1,.v] H3 kr fun gs3 w3 H4=>rRr [.tmp 6] [] (Qf bw n c) (zS B w0 ((k,blO b)::Lr) (zn (fun x=>zd (tl x) (tl b.2.1)) b.2.1 L)) H4 kr ?_;refine⟨Qg bw,n,c,[(bw,.cells cur 9)],rfl,?_,(H4.as (l:=((b5,.cells #[leV k] 59 (0,0))::(b3,.cells #[Qf bw n c] 22 (0,0))::(bw,.cells cur 9)::(k,blO b)::Lr)) kr).sub (QA [_,_] _)⟩;rw[show zn (fun x=>zd (tl x) (tl b.2.1)) b.2.1 L=L by unfold zn;rw[if_pos (by rw[hx,hxb])]];exact .inr ⟨bw,cur,rfl,rfl,hrw⟩
   ·refine rS [.v,.l 1,.v,.E (.bool (decide (((zi (fun x=>zd (tl x) (tl b.2.1)) L:Nat):Int)<(n:Int)))) (.bool true) (za (decide_eq_true (by omega))),.v,.l 1,.v,.o (ins:=[((.tmp 17),Qf bw n c),((.tmp 18),iN (zi (fun x=>zd (tl x) (tl b.2.1)) L))]) (v:=.pointer (some ⟨bw,0+(zi (fun x=>zd (tl x) (tl b.2.1)) L)*1,none⟩)) (fun ρ o w ho hi2=>zv (kd:=.i64) (t:=22) (e:=9) (K:=1) (bytes:=16) kr (x:=(.tmp 17)) (y:=(.tmp 18)) bw 0 n c (zi (fun x=>zd (tl x) (tl b.2.1)) L) rfl ho hi2.1 hi2.2.1 hat w),.ls 2 (C:=cur) (off:=0+(zi (fun x=>zd (tl x) (tl b.2.1)) L)*1) (v:=.string x) (hR.cell hx 0 (by decide)),.v,.E (.bool (x.toList==b.2.1.toList)) (.bool false) (za (yp _ _ hxb)),.v] H2 kr fun gs2 w2 H3=>zx<|wW<|zp [0,1,2,3,4,5] kr kr<|rp [.l 1,.v,.v] H3 kr fun gs3 w3 H4=>wX [3,4,5] ?_;have H5:St B w0 w3 ((b5,.cells #[leV k] 59 (0,0))::(b3,.cells #[Qf bw n c] 22 (0,0))::(bw,.cells cur 9)::(k,blO b)::Lr):=H4.as kr;refine qE H5 (some 28) (fun b=>Qf b 1 1) #[.string b.2.1] 9 kr kr ?_;intro bn w4 H6;refine yA (R:=zS B w0 (((b5,.cells #[leV k] 59 (0,0))::(b3,.cells #[Qf bw n c] 22 (0,0))::(k,blO b)::Lr)) (L.take (zi (fun x=>zd (tl x) (tl b.2.1)) L)++b.2.1::L.drop (zi (fun x=>zd (tl x) (tl b.2.1)) L))) (some 29) 52 #[Qf bw n c,iN (zi (fun x=>zd (tl x) (tl b.2.1)) L),Qf bn 1 1] (kx (Qg bw) n c L b.2.1 (zi (fun x=>zd (tl x) (tl b.2.1)) L) bn [(bw,.cells cur 9)] (((b5,.cells #[leV k] 59 (0,0))::(b3,.cells #[Qf bw n c] 22 (0,0))::(k,blO b)::Lr)) (.inr ⟨bw,cur,rfl,rfl,hrw⟩) (H6.perm (QP [(bw,.cells cur 9)] ((bn,sxO b.2.1)::(b5,.cells #[leV k] 59 (0,0))::(b3,.cells #[Qf bw n c] 22 (0,0))::[]) ((k,blO b)::Lr))) (by omega) hL) kr kr ?_;rintro v w5 ⟨q',m',k',row',rfl,hrow',H7⟩;refine rp [.v] H7 kr fun gs5 w6 H8=>wX []<|zm<|wW<|rRr [.tmp 6] [] (.slice q' m' k') (zS B w0 ((k,blO b)::Lr) (zn (fun x=>zd (tl x) (tl b.2.1)) b.2.1 L)) H8 kr ?_;refine⟨q',m',k',row',rfl,?_,(H8.as (l:=row'++((b5,.cells #[leV k] 59 (0,0))::(b3,.cells #[Qf bw n c] 22 (0,0))::(k,blO b)::Lr)) kr).sub (Rn (Rt _) (QA [_,_] _))⟩;rw[show zn (fun x=>zd (tl x) (tl b.2.1)) b.2.1 L=L.take (zi (fun x=>zd (tl x) (tl b.2.1)) L)++b.2.1::L.drop (zi (fun x=>zd (tl x) (tl b.2.1)) L) by unfold zn;rw[if_neg (by rw[hx];exact fun q=>hxb (QX.inj q))]];exact hrow'
  ·refine rS [.v,.l 1,.v,.E (.bool (decide (((zi (fun x=>zd (tl x) (tl b.2.1)) L:Nat):Int)<(n:Int)))) (.bool false) (za (decide_eq_false (by omega))),.v,.n,.n,.n,.n,.n,.n,.v] H2 kr fun gs2 w2 H3=>zx<|wW<|zp [0,1,2,3,4,5] kr kr<|rp [.l 1,.v,.v] H3 kr fun gs3 w3 H4=>wX [3,4,5] ?_;have H5:St B w0 w3 ((b5,.cells #[leV k] 59 (0,0))::(b3,.cells #[Qf bw n c] 22 (0,0))::(bw,.cells cur 9)::(k,blO b)::Lr):=H4.as kr;refine qE H5 (some 28) (fun b=>Qf b 1 1) #[.string b.2.1] 9 kr kr ?_;intro bn w4 H6;refine yA (R:=zS B w0 (((b5,.cells #[leV k] 59 (0,0))::(b3,.cells #[Qf bw n c] 22 (0,0))::(k,blO b)::Lr)) (L.take (zi (fun x=>zd (tl x) (tl b.2.1)) L)++b.2.1::L.drop (zi (fun x=>zd (tl x) (tl b.2.1)) L))) (some 29) 52 #[Qf bw n c,iN (zi (fun x=>zd (tl x) (tl b.2.1)) L),Qf bn 1 1] (kx (Qg bw) n c L b.2.1 (zi (fun x=>zd (tl x) (tl b.2.1)) L) bn [(bw,.cells cur 9)] (((b5,.cells #[leV k] 59 (0,0))::(b3,.cells #[Qf bw n c] 22 (0,0))::(k,blO b)::Lr)) (.inr ⟨bw,cur,rfl,rfl,hrw⟩) (H6.perm (QP [(bw,.cells cur 9)] ((bn,sxO b.2.1)::(b5,.cells #[leV k] 59 (0,0))::(b3,.cells #[Qf bw n c] 22 (0,0))::[]) ((k,blO b)::Lr))) (by omega) hL) kr kr ?_;rintro v w5 ⟨q',m',k',row',rfl,hrow',H7⟩;refine rp [.v] H7 kr fun gs5 w6 H8=>wX []<|zm<|wW<|rRr [.tmp 6] [] (.slice q' m' k') (zS B w0 ((k,blO b)::Lr) (zn (fun x=>zd (tl x) (tl b.2.1)) b.2.1 L)) H8 kr ?_;refine⟨q',m',k',row',rfl,?_,(H8.as (l:=row'++((b5,.cells #[leV k] 59 (0,0))::(b3,.cells #[Qf bw n c] 22 (0,0))::(k,blO b)::Lr)) kr).sub (Rn (Rt _) (QA [_,_] _))⟩;rw[show zn (fun x=>zd (tl x) (tl b.2.1)) b.2.1 L=L.take (zi (fun x=>zd (tl x) (tl b.2.1)) L)++b.2.1::L.drop (zi (fun x=>zd (tl x) (tl b.2.1)) L) by unfold zn;rw[if_neg (by rw[QZ (by omega)];exact fun q=>nomatch q)]];exact hrow'
end
theorem zbD {α:Type}{M:List α}{i:Nat}{x:α}(h:M[i]? =some x):M=M.take i++x::M.drop (i+1)/\(M.take i).length=i:=by
 obtain⟨hi,rfl⟩:=Qp.1 h;exact⟨by rw[List.getElem_cons_drop,List.take_append_drop],by rw[Qw];omega⟩
theorem Rw.setF {α:Type}{S:Fl α}{cur:Qd}{cap n i:Nat}{M:List α}{x y:α}(h:Rw S.K cur cap n (zb S M))(hM:M[i]? =some x)(j:Nat)(v:Value)(hj:j+v.cells.size<=S.K)(hx:(S.cs x).take j++v.cells.toList++(S.cs x).drop (j+v.cells.size)=S.cs y):
 0+i*S.K+j+v.cells.size<=cur.size/\Rw S.K (Go.Proofs.Ytdlllbaejgoncaa.putA cur (0+i*S.K+j) v) cap n (zb S (M.set i y)):=by
 have hl:M.length=n:=h.lenF;have hi:=(Qp.1 hM).1;obtain⟨e1,e2⟩:=zbD hM;have hlt:(i+1)*S.K<=n*S.K:=Nat.mul_le_mul_right _ (by omega);rw[Nat.succ_mul]at hlt;have hp:=h.putA (0+i*S.K+j) v (by omega);refine⟨hp.1,?_⟩;have hc:(zb S (M.take i)).length=i*S.K:=by rw[yk,e2]
 have hxl:=S.len x;have eM:zb S M=zb S (M.take i)++(S.cs x++zb S (M.drop (i+1))):=by
  conv=>lhs;rw[e1]
  rw[qm];rfl
 have eS:zb S (M.set i y)=zb S (M.take i)++(S.cs y++zb S (M.drop (i+1))):=by
  rw[List.set_eq_take_append_cons_drop,if_pos hi,qm];rfl
 have q:=hp.2;rw[eM]at q;rw[eS,<-hx];have t1:(zb S (M.take i)++(S.cs x++zb S (M.drop (i+1)))).take (0+i*S.K+j)=zb S (M.take i)++(S.cs x).take j:=by
  rw[List.take_append,hc,show 0+i*S.K+j-i*S.K=j by omega,Qv (by rw[hc];omega),List.take_append_of_le_length (by omega)]
 have t2:(zb S (M.take i)++(S.cs x++zb S (M.drop (i+1)))).drop (0+i*S.K+j+v.cells.size)=(S.cs x).drop (j+v.cells.size)++zb S (M.drop (i+1)):=by
  rw[List.drop_append,hc,show 0+i*S.K+j+v.cells.size-i*S.K=j+v.cells.size by omega,QC (by rw[hc];omega),R4,List.drop_append_of_le_length (by omega)]
 rw[t1,t2]at q;rw[show zb S (M.take i)++((S.cs x).take j++v.cells.toList++(S.cs x).drop (j+v.cells.size)++zb S (M.drop (i+1)))=zb S (M.take i)++(S.cs x).take j++v.cells.toList++((S.cs x).drop (j+v.cells.size)++zb S (M.drop (i+1))) by simp only[Rd]];exact q
end Go.Proofs.Ytdlllbaejgoncaa
