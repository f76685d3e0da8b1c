/-
  Texts of the proof,part 4.
-/
import Derived.Test.YtbpmjppmpgeejaaGreatDoorProg
import Derived.Laws.BitsLemmas
import Derived.Laws.BitsAllLaws
import Derived.Laws.BytesArg
import Derived.Below
import Derived.Laws.Bits64b
import Derived.Lib.Hide
import Derived.ChangeKeysEq
import Derived.Laws.StructEq
import Derived.Laws.Externs
import Derived.Test.YtbpmjppmpgeejaaGreatDoorRows
import Derived.Lib.LaidTab
import Derived.MakeChecks
import Derived.LaidLaws
import Derived.LaidHandle
import Derived.ProofKit
import Derived.WalkKit
import Derived.Test.YtbpmjppmpgeejaaGreatDoorHK1
import Derived.Test.YtbpmjppmpgeejaaGreatDoorHK2
import Derived.Test.YtbpmjppmpgeejaaGreatDoorHK3
set_option maxRecDepth 100000
set_option maxHeartbeats 4000000
namespace Go.Proofs.YtbpmjppmpgeejaaGreatDoor
open Go Go.RowKit
set_option linter.unusedVariables false
structure jp (C:Array Value)(n i:Nat)(M:List X3):Prop where
 sz:C.size=n*3
 len:M.length=i
 take:C.toList.take (i*3)=cells3 M
theorem jp.start {C:Array Value}{n:Nat}(h:C.size=n*3):jp C n 0 []:=⟨h,rfl,by simp [cells3]⟩
theorem jp.put {C:Array Value}{n i:Nat}{M:List X3}(h:jp C n i M)(x:X3)(hi:i<n):
 0+i*3+(Value.agg (xc x)).cells.size≤C.size∧jp (C.toList.take (0+i*3)++(Value.agg (xc x)).cells.toList++C.toList.drop (0+i*3+(Value.agg (xc x)).cells.size)).toArray n (i+1) (M++ [x]):=by
 have hc:(Value.agg (xc x)).cells=xc x:=rfl;have h3:(xc x).size=3:=rfl;have hl3:(xc x).toList.length=3:=rfl;have hsz:=h.sz;rw [hc,h3,Nat.zero_add];have hle:i*3+3≤C.size:=by omega
 refine ⟨hle,?_,by rw [List.length_append,h.len];rfl,?_⟩
 ·simp only [List.size_toArray,List.length_append,List.length_take,List.length_drop,Array.length_toList,hl3];omega
 ·have e1:(C.toList.take (i*3)).length=i*3:=by rw [List.length_take,Array.length_toList];omega
  have e2:(C.toList.take (i*3)).take (i*3+3)=C.toList.take (i*3):=List.take_of_length_le (by omega);have e3:(xc x).toList.take 3=(xc x).toList:=rfl;rw [show (i+1)*3=i*3+3 by omega,List.toList_toArray,List.append_assoc,List.take_append,e1,e2,Nat.add_sub_cancel_left,List.take_append,hl3,Nat.sub_self,List.take_zero,List.append_nil,e3,uW,h.take];rfl
theorem jp.done {C:Array Value}{n:Nat}{M:List X3}(h:jp C n n M)(hm:n≤maxLen):Rw 3 C n n (cells3 M):=⟨by rw [qV,h.len],Nat.le_refl _,hm,h.take,h.sz⟩
theorem zg2 (n c:Nat)(L:List X3)(h0:n=0):FnR Tryz.prog 132 #[.slice none n c] (fun w=>n=List.length L∧qo w none L) (kh 83 (fun v=>v) n L):=by
 refine FnR.intro (c:=zg Tryz.f132) [.tmp 2] 8 Tryz.func132 kr kr kr fun w hpre=>?_;have H0:=St.start w;refine rS [.v] H0 kr fun gs1 w1 H1=>?_;clear H0;refine zd kr<|rS [.v,.v] H1 kr fun gs2 w2 H2=>?_;clear H1;refine zj kr kr<|rS [.v] H2 kr fun gs3 w3 H3=>?_;clear H2;refine zm kr<|wV ?_;refine ⟨[.slice none 0 0],(.tmp (.slice none 0 0) kr .nil),H3.below,?_⟩;exact Or.inl ⟨h0,rfl⟩
theorem zg3 (a:Addr)(n c:Nat)(L:List X3)(hn8:n≤2000000000000):FnR Tryz.prog 132 #[.slice (some a) n c] (fun w=>n=List.length L∧qo w (some a) L) (kh 83 (fun v=>v) n L):=by
 refine FnR.intro (c:=zg Tryz.f132) [.tmp 2] 8 Tryz.func132 kr kr kr fun w hpre=>?_;have H0:=St.start w;refine rS [.v] H0 kr fun gs1 w1 H1=>?_;clear H0;refine zd kr<|rS [.v,.v] H1 kr fun gs2 w2 H2=>?_;clear H1;refine zl kr kr<|zn kr<|wW<|zf [0,1,2,3] kr kr<|rp [.nw (fun b=>.slice (some ⟨b,0,none⟩) 0 0) #[] 83,.v] H2 kr fun gs3 w3 H3=>wX [2,3] ?_;clear H2;have HL1:St w.heap.size w w3 [((gs3 0).b,Obj.cells #[] 83 (0,0))]:=H3.as kr;clear H3;refine zgt HL1 (some 7) 81 83 48 (.tmp 5) (.tmp 6) 0 ((gs3 0).b) 0 n 0 c (some a) #[] [] L (fun b_1 cur_3=>[(b_1,Obj.cells cur_3 83 (0,0))]) kr kr kr kr kr (Rw.lit #[] 0 (by rfl) (by unfold maxLen;omega)) kr hpre.1 (fun h=>nomatch h) (qo.up hpre.2 HL1.below) (by omega) (by unfold maxLen;omega) (fun _ _=>by kernel_rfl) ?_;intro b_1 cap_2 cur_3 w4 H4 hr_4;clear HL1;rw [Nat.zero_add] at hr_4;refine zS 7 (v:=.slice (some ⟨b_1,0,none⟩) (0+n) cap_2) (v':=.slice (some ⟨b_1,0,none⟩) n cap_2) (by rw [Nat.zero_add]) kr<|rp [.v] H4 kr fun gs5 w5 H5=>wX [] ?_;clear H4;refine zb<|zm kr<|wV ?_;refine ⟨[.slice (some ⟨b_1,0,none⟩) n cap_2],(.tmp (.slice (some ⟨b_1,0,none⟩) n cap_2) kr .nil),H5.below,?_⟩;exact Or.inr ⟨b_1,cap_2,_,rfl,H5.ge 0 (o:=.cells cur_3 83 (0,0)) kr,H5.get 0 kr,hr_4⟩
theorem zg4 (p:Option Addr)(n c:Nat)(L:List X3)(hn8:n≤2000000000000):FnR Tryz.prog 132 #[.slice p n c] (fun w=>n=List.length L∧qo w p L) (kh 83 (fun v=>v) n L):=fun w hp=>by
 cases p with
 | none=>
  have h0:n=0:=by
   rcases hp.2 with h|⟨b,off,e,_⟩
   ·rw [hp.1,h];rfl
   ·cases e
  exact zg2 n c L h0 w hp
 | some a=>exact zg3 a n c L hn8 w hp
theorem zg5 (p:Option Addr)(n c:Nat)(L:List X3)(hn8:n≤2000000000000):FnR Tryz.prog 106 #[.slice p n c] (fun w=>n=List.length L∧qo w p L) (kh 83 (fun v=>.agg #[.bool true,.string ⟨#[]⟩,v]) n L):=by
 refine FnR.intro (c:=zg Tryz.f106) [.cell 2 83] 6 Tryz.func106 kr kr kr fun w hpre=>?_;have H0:=St.start w;refine rS [.a] H0 kr fun gs1 w1 H1=>?_;clear H0;refine zf [0,1,2,3] kr kr<|rp [.v] H1 kr fun gs2 w2 H2=>wX [1,2,3] ?_;clear H1;refine zcq H2 (some 4) 132 #[.slice p n c] (fun w=>n=List.length L∧qo w p L) 83 (fun v=>v) n L (zg4 p n c L (by omega)) ⟨hpre.1,qo.up hpre.2 H2.below⟩ kr kr ?_ ?_
 ·skip;intro w3 h0 H3;clear H2;refine rp [.v,.s 0] H3 kr fun gs5 w5 H5=>wX [] ?_;clear H3;refine zb<|zm kr<|wV ?_;refine ⟨[.agg #[.bool true,.string (⟨#[]⟩),.slice none 0 0]],(.agg (b:=(gs1 0).b) (#[.bool true,.string (⟨#[]⟩),.slice none 0 0]) 83 (0,0) kr (H5.get 0 kr) kr .nil),H5.below,?_⟩;exact Or.inl ⟨h0,rfl⟩
 ·skip;intro b_1 cap_2 cur_3 w4 H4 hr_4;clear H2;refine rp [.v,.s 1] H4 kr fun gs6 w6 H6=>wX [] ?_;clear H4;refine zb<|zm kr<|wV ?_;refine ⟨[.agg #[.bool true,.string (⟨#[]⟩),.slice (some ⟨b_1,0,none⟩) n cap_2]],(.agg (b:=(gs1 0).b) (#[.bool true,.string (⟨#[]⟩),.slice (some ⟨b_1,0,none⟩) n cap_2]) 83 (0,0) kr (H6.get 1 kr) kr .nil),H6.below,?_⟩;exact Or.inr ⟨b_1,cap_2,_,rfl,H6.ge 0 (o:=.cells cur_3 83 (0,0)) kr,H6.get 0 kr,hr_4⟩
def Fo.app:Fo→Fo→Fo
 | .nil,R=>R
 | .cons l s k r,R=>.cons l s k (r.app R)
theorem zcY (x:X3)(R:Fo): ∀M:List X3,(toFo (M++ [x])).app R=(toFo M).app (.cons x.l x.s x.k R)
 | []=>rfl
 | y::r=>by simp only [List.cons_append,toFo,Fo.app,zcY x R r]
theorem Fo.app_nil: ∀k:Fo,k.app .nil=k
 | .nil=>rfl
 | .cons l s k r=>by simp only [Fo.app,Fo.app_nil r]
theorem zcZ {g:Nat}{x:Nat×ByteArray}(h:x.2.size≤0x800000000000):(yk g x).size≤0x800000000000:=by
 unfold yk;split
 ·rw [ql];have:=qh x.1;omega
 ·split
  ·exact Nat.zero_le _
  ·exact h
def ko (g:Nat)(b:Kf)(x:Nat×ByteArray)(l:Fe)(v:Value)(T:List (Nat×Obj)):Prop:=
 ∃(p:Option Addr) (n c:Nat),v=.agg #[.bool (zQ g),.string (yk g x),.slice p n c]∧SlIn T p n (zN g b l)
def vO (l:Fe):Prop:= ∀(g:Nat) (p:Option Addr) (n c:Nat) (b:Kf) (m:Nat) (s:ByteArray) (p2:Option Addr) (n2 c2:Nat) (room:Int),m<0x10000000000000000→0≤zM g b (m,s) l room→
 FnT Tryz.prog 66 #[knd g p n c,fld m s p2 n2 c2] (fun w=>SlR kS w.heap.size w p n b∧SlR fS w.heap.size w p2 n2 l) (ko g b (m,s) l)
abbrev zg6 (v:Value):Obj:=.cells #[.bool true,.string ⟨#[]⟩,v] 83 (0,0)
abbrev itZ:Obj:=.cells #[.bool false,.string ⟨#[]⟩,.slice none 0 0] 83 (0,0)
abbrev kdO (g:Nat)(p:Option Addr)(n c:Nat):Obj:=.cells #[.int .u8 (g:Int),.slice p n c] 62 (0,0)
abbrev fdO (m:Nat)(s:ByteArray)(p:Option Addr)(n c:Nat):Obj:=.cells #[.int .u64 (m:Int),.string s,.slice p n c] 44 (0,0)
abbrev rwO (C:Array Value):Obj:=.cells C 83 (0,0)
def vP (C:Array Value)(i:Nat)(x:X3):Array Value:=(C.toList.take (0+i*3)++(Value.agg (xc x)).cells.toList++C.toList.drop (0+i*3+(Value.agg (xc x)).cells.size)).toArray
def qD (B:Nat)(w0:World)(bq br:Nat)(C:Array Value)(i:Nat)(ok:X3→List (Nat×Obj)→Prop)(bk:Nat)(kO fO:Obj)(T:List (Nat×Obj)):(Nat→Bool)→(Nat→D2.Gh)→World→Prop:=fun L g w=>
 bif L 8 then ∃x T2,ok x T2∧St B w0 w ((bq,fO)::(bk,kO)::(br,rwO (vP C i x))::(T2++T))
 else bif L 6 then ∃x T2,ok x T2∧(g 6).cur=xc x∧St B w0 w ((bq,fO)::(bk,kO)::(br,rwO C)::(T2++T))
 else St B w0 w ((bq,fO)::(bk,kO)::(br,rwO C)::T)
theorem qD.st {B:Nat}{w0:World}{bq br:Nat}{C:Array Value}{i:Nat}{ok:X3→List (Nat×Obj)→Prop}{bk:Nat}{kO fO:Obj}{T:List (Nat×Obj)}{L:Nat→Bool}{g:Nat→D2.Gh}{w:World}(h8:L 8=false)(h:qD B w0 bq br C i ok bk kO fO T L g w):∃T',St B w0 w ((bq,fO)::(bk,kO)::(br,rwO C)::T'):=by
 unfold qD at h;rw [h8] at h;cases h6:L 6 with
 | true=>rw [h6] at h;obtain ⟨x,T2,_,_,h⟩:=h;exact ⟨_,h⟩
 | false=>rw [h6] at h;exact ⟨_,h⟩
theorem qD.call {B:Nat}{w0:World}{bq br:Nat}{C:Array Value}{i:Nat}{ok:X3→List (Nat×Obj)→Prop}{bk:Nat}{kO fO:Obj}{T:List (Nat×Obj)}{L:Nat→Bool}{g:Nat→D2.Gh}{w w':World}(hb:Below w.heap.size w w')(h:qD B w0 bq br C i ok bk kO fO T L g w):qD B w0 bq br C i ok bk kO fO T L g w':=by
 unfold qD at h ⊢;cases h8:L 8 with
 | true=>rw [h8] at h;obtain ⟨x,T2,h1,h⟩:=h;exact ⟨x,T2,h1,h.call hb⟩
 | false=>
  rw [h8] at h;cases h6:L 6 with
  | true=>rw [h6] at h;obtain ⟨x,T2,h1,h2,h⟩:=h;exact ⟨x,T2,h1,h2,h.call hb⟩
  | false=>rw [h6] at h;exact St.call h hb
theorem zg7 (l:Fe)(hs:l.sub vO):vO l:=by
 intro g p n c b m s p2 n2 c2 room hm hleft;refine FnT.intro (c:=zg Tryz.f66) [.cell 4 83] 44 Tryz.func66 kr kr kr fun w hpre=>?_;have H0:=St.start w;obtain ⟨hK,hF⟩:=hpre;have hfit:zx g b.len m s.size l.len=true∧0≤yy l g b 0 (w64 (room-1)):=by
  unfold zM at hleft;by_cases hf:zx g b.len m s.size l.len=true
  ·rw [if_pos hf] at hleft;exact ⟨hf,hleft⟩
  ·rw [if_neg hf] at hleft;omega
 obtain ⟨hf1,hf2,hf3⟩:=zaj hfit.1;have hn2:=hF.1;have hnb:n2≤1000:=by
  have hk1:=hK.1;have hk2:n≤1000:=hK.2.1;have:=hf3.2;unfold zT at this;split at this
  ·simp only at this;omega
  ·split at this
   ·simp only at this;omega
   ·simp only at this;omega
 refine rS [.b,.b,.a] H0 kr fun gs1 w1 H1=>?_;clear H0;refine rS [.v,.l 0] H1 kr fun gs2 w2 H2=>?_;clear H1;refine zA 0 kr ?_;by_cases h110:g=110
 ·refine rS [.E (.bool ((g:Int)==110)) (.bool true) (za (beq_iff_eq.2 (by omega))),.v] H2 kr fun gs3 w3 H3=>zj kr kr<|rS [.v,.l 1,.c (zgg m hm),.s 2] H3 kr fun gs4 w4 H4=>rRr [.cell 4 83] [2] (.agg #[.bool false,.string (zh (dg m)),.slice none 0 0]) (yn w.heap.size w (ko g b (m,s) l)) H4 kr ?_;refine ⟨[],⟨none,0,0,?_,?_⟩,H4.sub (List.nil_sublist _)⟩
  ·subst h110;rfl
  ·subst h110;exact SlIn.none _
 ·refine rS [.E (.bool ((g:Int)==110)) (.bool false) (za (beq_eq_false_iff_ne.2 (by omega))),.v] H2 kr fun gs3 w3 H3=>zl kr kr<|zd kr<|jR (Q:=fun e ρ ww=>e=.normal∧St w.heap.size w ww [((gs1 0).b,kdO g p n c),((gs1 1).b,fdO m s p2 n2 c2),((gs1 2).b,itZ)]∧Is [(2,.pointer (some ⟨(gs1 0).b,0,none⟩)),(3,.pointer (some ⟨(gs1 1).b,0,none⟩)),(4,.pointer (some ⟨(gs1 2).b,0,none⟩)),(18,.bool (zQ g))] ρ) ?_ ?_
  ·by_cases h40:g=40
   ·refine rS [.E (.bool ((g:Int)==40)) (.bool true) (za (beq_iff_eq.2 (by omega))),.v] H3 kr fun gs4 w4 H4=>zj kr kr<|zn kr ?_;refine ⟨rfl,H4.as kr,?_⟩;subst h40;exact Is.of ⟨kr,kr,kr,kr,trivial⟩
   ·refine rS [.E (.bool ((g:Int)==40)) (.bool false) (za (beq_eq_false_iff_ne.2 (by omega))),.v] H3 kr fun gs4 w4 H4=>zl kr kr ?_;have hl:zQ g=decide (g=42):=by unfold zQ;rw [decide_eq_false h40];rfl
    rw [hl];by_cases h42:g=42
    ·refine rL [.E (.bool ((g:Int)==42)) (.bool true) (za (beq_iff_eq.2 (by omega))),.v] H4 kr fun gs5 w5 H5=>?_;refine ⟨rfl,H5.as kr,?_⟩;rw [decide_eq_true h42];exact Is.of ⟨kr,kr,kr,kr,trivial⟩
    ·refine rL [.E (.bool ((g:Int)==42)) (.bool false) (za (beq_eq_false_iff_ne.2 (by omega))),.v] H4 kr fun gs5 w5 H5=>?_;refine ⟨rfl,H5.as kr,?_⟩;rw [decide_eq_false h42];exact Is.of ⟨kr,kr,kr,kr,trivial⟩
  rintro _ _ w4 ⟨rfl,H4,_,rfl⟩;refine wW ?_;clear H3 H2;cases hl:zQ g with
  | false=>
   refine zl kr kr<|rS [.v,.l 1,.v,.s 2] H4 kr fun gs5 w5 H5=>rRr [.cell 4 83] [2] (.agg #[.bool false,.string s,.slice none 0 0]) (yn w.heap.size w (ko g b (m,s) l)) H5 kr ?_;refine ⟨[],⟨none,0,0,?_,?_⟩,H5.sub (List.nil_sublist _)⟩
   ·unfold yk;rw [if_neg h110,if_neg (by rw [hl];decide),hl]
   ·unfold zN;rw [if_neg (by rw [hl];decide)];exact SlIn.none _
  | true=>
   refine zj kr kr<|zf [0,1,2,3,4] kr kr<|rp [.v,.l 1,.v] H4 kr fun gs5 w5 H5=>wX [3,4] ?_;have H6:St w.heap.size w w5 [((gs1 0).b,kdO g p n c),((gs1 1).b,fdO m s p2 n2 c2),((gs1 2).b,itZ)]:=H5.as kr;refine zeD H6 (some 24) 81 83 3 48 (.tmp 23) (.tmp 23) .i64 .i64 n2 kr kr kr kr kr (by omega) (by unfold maxLen;omega) ?_;intro br C0 w6 H7 hC0;clear H4 H5 H6;have H8:St w.heap.size w w6 (((gs1 0).b,kdO g p n c)::(br,rwO C0)::((gs1 1).b,fdO m s p2 n2 c2)::((gs1 2).b,itZ)::[]):=H7.perm (List.Perm.swap _ _ _);clear H7;refine rp [.v] H8 kr fun gs6 w7 H9=>wX []<|zb<|zd kr<|rS [.v,.l 2,.v,.v] H9 kr fun gs7 w8 H10=>zA 1 kr ?_;have H11:St w.heap.size w w8 (((gs1 0).b,kdO g p n c)::(br,rwO C0)::((gs1 1).b,fdO m s p2 n2 c2)::((gs1 2).b,itZ)::[]):=H10.as kr;clear H8 H9 H10;refine yV kr (fun mz ρ ww=> ∃(i:Nat) (r:Fe) (v:Int) (C:Array Value) (M:List X3) (T:List (Nat×Obj)),n2-i=mz∧FrR fS w.heap.size w p2 i r∧i+r.len=n2∧r.sub vO∧0≤yy r g b i v∧(toFo M).app (yW r g b i)=yW l g b 0∧jp C n2 i M∧AllIn T M∧St w.heap.size w ww (((gs1 0).b,kdO g p n c)::(br,rwO C)::((gs1 1).b,fdO m s p2 n2 c2)::((gs1 2).b,itZ)::T)∧Is [(2,.pointer (some ⟨(gs1 0).b,0,none⟩)),(3,.pointer (some ⟨(gs1 1).b,0,none⟩)),(4,.pointer (some ⟨(gs1 2).b,0,none⟩)),(5,.slice (some ⟨br,0,none⟩) n2 n2),(26,.slice p2 n2 c2),(27,.int .i64 (n2:Int)),(28,.int .i64 (i:Int))] ρ) (n2-0) ⟨0,l,_,C0,[],[],rfl,hF.start,by omega,hs,hfit.2,rfl,jp.start hC0,(fun _ h=>nomatch h),H11,(Is.of ⟨kr,kr,kr,kr,kr,kr,kr,trivial⟩)⟩ ?_;clear H11;rintro _ _ w9 ⟨i,r,v,C,M,T,rfl,hR,hN,hsub,hlf,happ,hFill,hAll,H12,_,rfl⟩;by_cases hi:i<n2
   ·refine rS [.E (.bool (decide ((i:Int)<(n2:Int)))) (.bool true) (za (decide_eq_true (by omega)))] H12 kr fun gs8 w10 H13=>?_;clear H12;refine zd kr<|zj kr kr<|zn kr<|wW<|zd kr<|zA 2 kr ?_;obtain ⟨⟨m1,s1⟩,k1,r1,b1,off1,C1,T1,fz1,p1,n1,c1,hr1,hp1,hb1,hh1,hs1,hx1,hz1,hk1,hR1,hN1⟩:=FrR.open hR hN hi;obtain ⟨g',p',n',c',hK1,hK2,hg'⟩:=hK.kid g i;subst hr1;rw [km,←hg'] at hlf;have hkid:0≤zM g' (zp g b i).2 (m1,s1) k1 v∧0≤yy r1 g b (i+1) (zM g' (zp g b i).2 (m1,s1) k1 v):=by
     by_cases hv:zM g' (zp g b i).2 (m1,s1) k1 v<0
     ·rw [if_pos hv] at hlf;omega
     ·rw [if_neg hv] at hlf;exact ⟨Int.not_lt.1 hv,hlf⟩
    refine zf [0,1,2,3,4,5] kr kr<|rp [.v,.o (ins:=[((.tmp 26),.slice p2 n2 c2),((.tmp 28),.int .i64 (i:Int))]) (v:=.pointer (some ⟨b1,off1+i*3,none⟩)) (fun ρ o w ho hi2=>yI (kd:=.i64) (t:=41) (e:=44) (K:=3) (bytes:=48) kr (x:=(.tmp 26)) (y:=(.tmp 28)) b1 off1 n2 c2 i hp1 ho hi2.1 hi2.2.1 (by omega) w),.fp (off:=off1+i*3) (n:=3) (W:=#[.int .u64 (m1:Int),.string s1,.slice p1 n1 c1]) hh1 hb1 hs1 hx1] H13 kr fun gs9 w11 H14=>wX [3,4,5] ?_;have H15:St w.heap.size w w11 (((gs1 0).b,kdO g p n c)::(br,rwO C)::((gs1 1).b,fdO m s p2 n2 c2)::((gs1 2).b,itZ)::T):=H14.as kr;refine zE H15 (some 7) 44 (.agg #[wZ,.string ⟨#[]⟩,.slice none 0 0]) kr kr kr ?_;intro bq w12 H16;refine rp [.v,.s 0] H16 kr fun gs10 w13 H17=>wX []<|zb ?_;have H18:St w.heap.size w w13 ((bq,fdO m1 s1 p1 n1 c1)::((gs1 0).b,kdO g p n c)::(br,rwO C)::((gs1 1).b,fdO m s p2 n2 c2)::((gs1 2).b,itZ)::T):=H17.as kr;clear H13 H14 H15 H16 H17;have hc:=hsub.1 g' p' n' c' (zp g b i).2 m1 s1 p1 n1 c1 v hz1.1 hkid.1;refine D2.g_draw0 [0,1,2,3,4,5,6,7,8] [(some 33,fun _=>.slice (some ⟨br,0,none⟩) n2 n2),(some 34,fun _=>.int .i64 (i:Int)),(some 35,fun _=>knd g p n c),(some 36,fun _=>.int .i64 (i:Int)),(some 37,fun _=>knd g' p' n' c'),(some 38,fun _=>fld m1 s1 p1 n1 c1),(some 39,fun y=>.agg y.cur),(some 40,fun _=>.pointer (some ⟨br,0+i*3,none⟩)),(none,fun _=>undef)]
     (qD w.heap.size w bq br C i (fun x T2=>x.l=zQ g'∧x.s=yk g' (m1,s1)∧x.k=zN g' (zp g b i).2 k1∧SlIn T2 x.p x.n x.k) (gs1 0).b (kdO g p n c) (fdO m1 s1 p1 n1 c1) (((gs1 1).b,fdO m s p2 n2 c2)::((gs1 2).b,itZ)::T)) kr kr kr H18.drew ⟨?_,?_,?_,?_,?_,?_,?_,?_,?_,trivial⟩ ?_
    ·exact D2.gv_val (fun _ _ _ h=>h) (fun g w=>by kernel_rfl)
    ·exact D2.gv_val (fun _ _ _ h=>h) (fun g w=>by kernel_rfl)
    ·refine D2.gv_ld (fun _ _ _ h=>h) 62 (.tmp 2) (fun _=>(gs1 0).b) 0 #[.int .u8 ((g:Nat):Int),.slice p n c] 62 (0,0) (fun g=>by kernel_rfl) (fun g=>by kernel_rfl) (fun L g w hN hp=>?_) kr kr;obtain ⟨T',h⟩:=hp.st (hN.post 8 kr);exact h.get 1 kr
    ·exact D2.gv_val (fun _ _ _ h=>h) (fun g w=>by kernel_rfl)
    ·refine D2.gv_cpW (fun _ _ _ h=>h) 94 #[knd g p n c,.int .i64 (i:Int)] (zao g p n c i g' p' n' c') (fun L g w hN hp=>?_) (fun L g w w' hN hp hb=>hp.call hb) (fun g w=>by kernel_rfl);obtain ⟨T',h⟩:=hp.st (hN.post 8 kr);exact hK1.up h.below h.below.size
    ·refine D2.gv_ld (fun _ _ _ h=>h) 44 (.tmp 7) (fun _=>bq) 0 #[.int .u64 (m1:Int),.string s1,.slice p1 n1 c1] 44 (0,0) (fun g=>by kernel_rfl) (fun g=>by kernel_rfl) (fun L g w hN hp=>?_) kr kr;obtain ⟨T',h⟩:=hp.st (hN.post 8 kr);exact h.get 0 kr
    ·refine D2.gv_ft 66 #[knd g' p' n' c',fld m1 s1 p1 n1 c1] hc (fun L g w hN hp=>?_) (fun L gg ww v' T2 w' hN hp hok hT=>?_) (fun g w=>by kernel_rfl)
     ·obtain ⟨T',h⟩:=hp.st (hN.post 8 kr);exact ⟨hK2.call h.below,hk1.call h.below⟩
     ·obtain ⟨q1,q2,q3,rfl,hsl⟩:=hok;refine ⟨{ cur:=#[.bool (zQ g'),.string (yk g' (m1,s1)),.slice q1 q2 q3] },rfl,?_⟩;unfold qD at hp ⊢;rw [hN.post 8 kr,hN.1] at hp;rw [show D2.put1 L 6 8=false from hN.post 8 kr,show D2.put1 L 6 6=true from rfl];exact ⟨⟨zQ g',yk g' (m1,s1),q1,q2,q3,zN g' (zp g b i).2 k1⟩,T2,⟨rfl,rfl,rfl,hsl⟩,rfl,(St.addAll hp hT).perm (List.perm_append_comm_assoc T2 [(bq,fdO m1 s1 p1 n1 c1),((gs1 0).b,kdO g p n c),(br,rwO C)] (((gs1 1).b,fdO m s p2 n2 c2)::((gs1 2).b,itZ)::T)).symm⟩
    ·exact D2.gv_op (fun _ _ _ h=>h) _ (fun g=>by kernel_rfl) (fun g o w ho=>yI (kd:=.i64) (t:=81) (e:=83) (K:=3) (bytes:=48) kr (x:=(.tmp 33)) (y:=(.tmp 34)) br 0 n2 n2 i rfl ho kr kr hi w)
    ·refine D2.gives_of fun L1 gg ww hp hN=>?_;have h6:=hN.bef 6 kr;unfold qD at hp;rw [hN.1,h6] at hp;obtain ⟨x,T2,hx,hcur,HS⟩:=hp;obtain ⟨o,ho,hd,hw,hop⟩:=zz (show opk _ 8 _=some (none,true,.store 83 (.tmp 40) (.tmp 39)) by kernel_rfl);refine ⟨o,ho,hd,.inr ⟨hw,?_⟩⟩;rw [jW (t:=83) (off:=0+i*3) (b:=br) (C:=C) (T:=83) (v:=.agg (xc x)) (C':=vP C i x) (HS.get 2 kr) kr kr (hFill.put x hi).1 rfl kr (by rw [←hcur];kernel_rfl) o hop];refine ⟨default,rfl,?_⟩;unfold qD;rw [show D2.put1 L1 8 8=true from rfl];exact ⟨x,T2,hx,HS.store 2 (C:=C) kr⟩
    ·intro L1 gg w14 hall hp;unfold qD at hp;rw [hall 8 (Nat.le_of_ble_eq_true kr)] at hp;obtain ⟨x,T2,⟨hx1,hx2,hx3,hx4⟩,HS⟩:=hp;have H19:St w.heap.size w w14 (((gs1 0).b,kdO g p n c)::(br,rwO (vP C i x))::((gs1 1).b,fdO m s p2 n2 c2)::((gs1 2).b,itZ)::(T2++T)):=(HS.sub (List.sublist_cons_self ..)).perm (List.Perm.cons _ (List.Perm.cons _ (List.perm_append_comm_assoc T2 [((gs1 1).b,fdO m s p2 n2 c2),((gs1 2).b,itZ)] T).symm));refine wW<|rL [.E (.int .i64 (IntKind.i64.wrap ((i:Int)+1))) (.int .i64 ((i+1:Nat):Int)) (zr (qv (a:=i) (b:=1) (by omega))),.v] H19 kr fun gs11 w15 H20=>?_;show ∃m,_∧_;refine ⟨_,(by omega),i+1,r1,_,vP C i x,M++ [x],T2++T,rfl,hR1,hN1,hsub.2,hkid.2,?_,(hFill.put x hi).2,?_,H20.as kr,(Is.of ⟨kr,kr,kr,kr,kr,kr,kr,trivial⟩)⟩
     ·rw [zcY,hx1,hx2,hx3,←happ,vK,←hg']
     ·exact (hAll.mono fun e he=>List.mem_append_right _ he).snoc (hx4.mono fun e he=>List.mem_append_left _ he) (by rw [hx2];exact zcZ hz1.2)
   ·obtain rfl:=FrR.done hN hi;obtain rfl:i=n2:=by simp only [Fr.len] at hN;omega
    refine rS [.E (.bool (decide ((i:Int)<(i:Int)))) (.bool false) (za (decide_eq_false (by omega)))] H12 kr fun gs8 w10 H13=>zd kr<|zl kr kr<|yE 1 kr<|wW ?_;have hM:toFo M=zN g b l:=by
     unfold zN;rw [if_pos hl,←happ];exact (Fo.app_nil _).symm
    have hrw:=hFill.done (by unfold maxLen;omega);refine zf [0,1,2] kr kr<|rp [.v] H13 kr fun gs9 w11 H14=>wX [1,2] ?_;have H15:St w.heap.size w w11 (((gs1 0).b,kdO g p n c)::(br,rwO C)::((gs1 1).b,fdO m s p2 i c2)::((gs1 2).b,itZ)::T):=H14.as kr;refine zcq H15 (some 43) 106 #[.slice (some ⟨br,0,none⟩) i i] (fun w=>i=List.length M∧qo w (some ⟨br,0,none⟩) M) 83 (fun v=>.agg #[.bool true,.string ⟨#[]⟩,v]) i M (zg5 _ _ _ M (by omega)) (hrw.cellsAt (T:=83) (fz:=(0,0)) (H15.get 1 kr)) kr kr ?_ ?_
    ·intro w12 h0 H16;subst h0;refine rp [.s 3] H16 kr fun gs10 w13 H17=>wX []<|zb<|rRr [.cell 4 83] [3] (.agg #[.bool true,.string ⟨#[]⟩,.slice none 0 0]) (yn w.heap.size w (ko g b (m,s) l)) H17 kr ?_;refine ⟨[],⟨none,0,0,?_,?_⟩,H17.sub (List.nil_sublist _)⟩
     ·unfold yk;rw [if_neg h110,if_pos hl,hl]
     ·rw [←hM,List.eq_nil_of_length_eq_zero hFill.len];exact SlIn.none _
    ·intro bl cap cur w12 H16 hr;refine rp [.s 4] H16 kr fun gs10 w13 H17=>wX []<|zb<|rRr [.cell 4 83] [4] (.agg #[.bool true,.string ⟨#[]⟩,.slice (some ⟨bl,0,none⟩) i cap]) (yn w.heap.size w (ko g b (m,s) l)) H17 kr ?_;have H18:St w.heap.size w w13 ((bl,rwO cur)::((gs1 0).b,kdO g p n c)::(br,rwO C)::((gs1 1).b,fdO m s p2 i c2)::((gs1 2).b,zg6 (.slice (some ⟨bl,0,none⟩) i cap))::T):=H17.as kr;refine ⟨(bl,rwO cur)::T,⟨some ⟨bl,0,none⟩,i,cap,?_,?_⟩,H18.sub (List.Sublist.cons_cons _ (List.Sublist.cons _ (List.Sublist.cons _ (List.Sublist.cons _ (List.sublist_cons_self ..)))))⟩
     ·unfold yk;rw [if_neg h110,if_pos hl,hl]
     ·rw [←hM];exact hr.slIn (ty:=83) (fz:=(0,0)) (List.mem_cons_self ..) (hAll.mono fun e he=>List.mem_cons_of_mem _ he) (by omega)
theorem zg8 (l:Fe):vO l:=(Fr.induct zg7 l).1
def Fr.app {α:Type} :Fr α→Fr α→Fr α
 | .nil,R=>R
 | .cons a k r,R=>.cons a k (r.app R)
theorem zc0 {α:Type}(x:El α)(R:Fr α): ∀M:List (El α),(yc (M++ [x])).app R=(yc M).app (.cons x.a x.k R)
 | []=>rfl
 | y::r=>by simp only [List.cons_append,yc,Fr.app,zc0 x R r]
theorem Fr.app_nil {α:Type} : ∀k:Fr α,k.app .nil=k
 | .nil=>rfl
 | .cons a k r=>by simp only [Fr.app,Fr.app_nil r]
def Fo.sub (p:Fo→Prop):Fo→Prop
 | .nil=>True
 | .cons l s k r=>p k∧r.sub p
theorem Fo.induct {p:Fo→Prop}(h: ∀l:Fo,l.sub p→p l): ∀l:Fo,p l∧l.sub p
 | .nil=>⟨h .nil trivial,trivial⟩
 | .cons l s k r=>⟨h _ ⟨(Fo.induct h k).1,(Fo.induct h r).2⟩,(Fo.induct h k).1,(Fo.induct h r).2⟩
theorem zg9 (s:ByteArray):(zB s).1<0x10000000000000000:=by
 unfold zB;split
 ·decide
 ·rename_i h
  exact uX (by rw [zv];omega)
theorem zha (g:Nat)(l:Bool)(s:ByteArray)(n:Nat):yB g l s n<0x10000000000000000:=by
 unfold yB qB;split
 ·split
  ·decide
  ·exact zg9 s
 ·decide
theorem zhb {g:Nat}{s:ByteArray}(h:s.size≤0x800000000000):(yq g s).size≤0x800000000000:=by
 unfold yq;split
 ·exact Nat.zero_le _
 ·exact h
def zc1 (g:Nat)(b:Kf)(l:Bool)(s:ByteArray)(k:Fo)(v:Value)(T:List (Nat×Obj)):Prop:=
 ∃(p:Option Addr) (n c:Nat),v=fld (yB g l s k.len) (yq g s) p n c∧RIn fS T p n (yr g b k)
abbrev itm (l:Bool)(s:ByteArray)(p:Option Addr)(n c:Nat):Value:=.agg #[.bool l,.string s,.slice p n c]
def vQ (k:Fo):Prop:= ∀(g:Nat) (p:Option Addr) (n c:Nat) (b:Kf) (l:Bool) (s:ByteArray) (p2:Option Addr) (n2 c2:Nat),s.size≤0x800000000000→k.cnt≤1000000→
 FnT Tryz.prog 59 #[knd g p n c,itm l s p2 n2 c2] (fun w=>SlR kS w.heap.size w p n b∧zq w.heap.size w p2 n2 k) (zc1 g b l s k)
abbrev ixO (l:Bool)(s:ByteArray)(p:Option Addr)(n c:Nat):Obj:=.cells #[.bool l,.string s,.slice p n c] 83 (0,0)
abbrev frO (C:Array Value):Obj:=.cells C 44 (0,0)
abbrev fZ (v:Value):Obj:=.cells #[wZ,.string ⟨#[]⟩,v] 44 (0,0)
abbrev ec (x:El (Nat×ByteArray)):Array Value:=#[.int .u64 ((x.a.1:Nat):Int),.string x.a.2,.slice x.p x.n x.c]
def yz (B:Nat)(w0:World)(bq bf bk:Nat)(qO kO:Obj)(p:Option Addr)(i c:Nat)(row:List (Nat×Obj))(M:List (El (Nat×ByteArray)))(ok:El (Nat×ByteArray)→List (Nat×Obj)→Prop)(T:List (Nat×Obj)):(Nat→Bool)→(Nat→D2.Gh)→World→Prop:=fun L g w=>
 bif L 8 then ∃x T2,ok x T2∧Rw 3 (g 8).cur (g 8).cap (i+1) (zG fS (M++ [x]))∧St B w0 w ((bq,qO)::(bf,fZ (bif L 10 then .slice (some ⟨(g 8).b,0,none⟩) (i+1) (g 8).cap else .slice p i c))::(bk,kO)::((g 8).b,frO (g 8).cur)::(T2++T))
 else bif L 7 then ∃x T2,ok x T2∧St B w0 w (((g 7).b,frO (ec x))::(bq,qO)::(bf,fZ (.slice p i c))::(bk,kO)::(row++(T2++T)))
 else bif L 6 then ∃x T2,ok x T2∧(g 6).cur=ec x∧St B w0 w ((bq,qO)::(bf,fZ (.slice p i c))::(bk,kO)::(row++(T2++T)))
 else St B w0 w ((bq,qO)::(bf,fZ (.slice p i c))::(bk,kO)::(row++T))
section
variable {B:Nat}{w0:World}{bq bf bk:Nat}{qO kO:Obj}{p:Option Addr}{i c:Nat}{row:List (Nat×Obj)}{M:List (El (Nat×ByteArray))}{ok:El (Nat×ByteArray)→List (Nat×Obj)→Prop}{T:List (Nat×Obj)}{L:Nat→Bool}{g:Nat→D2.Gh}{w w':World}
theorem yz.f (h8:L 8=false)(h:yz B w0 bq bf bk qO kO p i c row M ok T L g w):∃l,St B w0 w l∧(bf,fZ (.slice p i c))∈l:=by
 unfold yz at h;rw [h8] at h;cases h7:L 7 with
 | true=>rw [h7] at h;obtain ⟨x,T2,_,h⟩:=h;exact ⟨_,h,by simp⟩
 | false=>
  rw [h7] at h;cases h6:L 6 with
  | true=>rw [h6] at h;obtain ⟨x,T2,_,_,h⟩:=h;exact ⟨_,h,by simp⟩
  | false=>rw [h6] at h;exact ⟨_,h,by simp⟩
theorem yz.st (h8:L 8=false)(h7:L 7=false)(h6:L 6=false)(h:yz B w0 bq bf bk qO kO p i c row M ok T L g w):St B w0 w ((bq,qO)::(bf,fZ (.slice p i c))::(bk,kO)::(row++T)):=by
 unfold yz at h;rw [h8,h7,h6] at h;exact h
theorem yz.call (hb:Below w.heap.size w w')(h:yz B w0 bq bf bk qO kO p i c row M ok T L g w):yz B w0 bq bf bk qO kO p i c row M ok T L g w':=by
 unfold yz at h ⊢;cases h8:L 8 with
 | true=>rw [h8] at h;obtain ⟨x,T2,h1,h2,h⟩:=h;exact ⟨x,T2,h1,h2,h.call hb⟩
 | false=>
  rw [h8] at h;cases h7:L 7 with
  | true=>rw [h7] at h;obtain ⟨x,T2,h1,h⟩:=h;exact ⟨x,T2,h1,h.call hb⟩
  | false=>
   rw [h7] at h;cases h6:L 6 with
   | true=>rw [h6] at h;obtain ⟨x,T2,h1,h2,h⟩:=h;exact ⟨x,T2,h1,h2,h.call hb⟩
   | false=>rw [h6] at h;exact St.call h hb
end
theorem zhc (k:Fo)(hs:k.sub vQ):vQ k:=by
 intro g p n c b l s p2 n2 c2 hsz hcnt;refine FnT.intro (c:=zg Tryz.f59) [.cell 4 44] 44 Tryz.func59 kr kr kr fun w hpre=>?_;have H0:=St.start w;obtain ⟨hK,hF⟩:=hpre;have hn2:=hF.1;have hn3:=hF.2.1;have hlen:=k.len_le;refine rS [.b,.b,.a] H0 kr fun gs1 w1 H1=>?_;clear H0;refine rS [.a] H1 kr fun gs2 w2 H2=>?_;clear H1;refine zd kr<|jR (Q:=fun e ρ ww=>e=.normal∧∃(p3:Option Addr) (n3 c3:Nat) (T:List (Nat×Obj)),RIn fS T p3 n3 (yr g b k)∧St w.heap.size w ww (((gs2 0).b,fdO (yB g l s k.len) (yq g s) p3 n3 c3)::((gs1 2).b,fZ (.slice none 0 0))::T)∧Is [(4,.pointer (some ⟨(gs1 2).b,0,none⟩)),(5,.pointer (some ⟨(gs2 0).b,0,none⟩))] ρ) ?_ ?_
 ·refine rS [.v,.l 0] H2 kr fun gs3 w3 H3=>?_;clear H2;refine zA 0 kr ?_;by_cases h110:g=110
  ·refine rS [.E (.bool ((g:Int)==110)) (.bool true) (za (beq_iff_eq.2 (by omega))),.v] H3 kr fun gs4 w4 H4=>zj kr kr ?_;have hv:yB g l s k.len=(qB l s n2).1:=by unfold yB;rw [if_pos h110,hn2]
   have hb:yq g s=⟨#[]⟩:=by unfold yq;rw [if_pos (.inl h110)]
   have hk:yr g b k=.nil:=by unfold yr;rw [h110];rfl
   rw [hv,hb,hk];refine rL [.l 1,.cp (pre:=fun w=>zq w.heap.size w p2 n2 k) (zgf l s p2 n2 c2 k hsz) [] (fun w hb hd=>hF.call hb),.v,.v,.v,.v,.s 3] H4 kr fun gs5 w5 H5=>?_;have H6:St w.heap.size w w5 [((gs1 0).b,kdO g p n c),((gs1 1).b,ixO l s p2 n2 c2),((gs1 2).b,fZ (.slice none 0 0)),((gs2 0).b,fdO (qB l s n2).1 ⟨#[]⟩ none 0 0)]:=H5.as kr;refine ⟨rfl,none,0,0,[],RIn.none _ _,?_,(Is.of ⟨kr,kr,trivial⟩)⟩;exact (H6.sub (List.Sublist.cons _ (List.Sublist.cons _ (List.Sublist.refl _)))).perm (List.Perm.swap _ _ _)
  ·refine rS [.E (.bool ((g:Int)==110)) (.bool false) (za (beq_eq_false_iff_ne.2 (by omega))),.v] H3 kr fun gs4 w4 H4=>zl kr kr ?_;have hv:yB g l s k.len=0:=by unfold yB;rw [if_neg h110]
   rw [hv];clear H3;refine zd kr<|jR (Q:=fun e ρ ww=>e=.normal∧St w.heap.size w ww [((gs1 0).b,kdO g p n c),((gs1 1).b,ixO l s p2 n2 c2),((gs1 2).b,fZ (.slice none 0 0)),((gs2 0).b,fZ (.slice none 0 0))]∧Is [(2,.pointer (some ⟨(gs1 0).b,0,none⟩)),(3,.pointer (some ⟨(gs1 1).b,0,none⟩)),(4,.pointer (some ⟨(gs1 2).b,0,none⟩)),(5,.pointer (some ⟨(gs2 0).b,0,none⟩)),(21,.bool (zQ g))] ρ) ?_ ?_
   ·by_cases h40:g=40
    ·refine rS [.E (.bool ((g:Int)==40)) (.bool true) (za (beq_iff_eq.2 (by omega))),.v] H4 kr fun gs5 w5 H5=>zj kr kr<|zn kr ?_;refine ⟨rfl,H5.as kr,?_⟩;subst h40;exact Is.of ⟨kr,kr,kr,kr,kr,trivial⟩
    ·refine rS [.E (.bool ((g:Int)==40)) (.bool false) (za (beq_eq_false_iff_ne.2 (by omega))),.v] H4 kr fun gs5 w5 H5=>zl kr kr ?_;have hl:zQ g=decide (g=42):=by unfold zQ;rw [decide_eq_false h40];rfl
     rw [hl];by_cases h42:g=42
     ·refine rL [.E (.bool ((g:Int)==42)) (.bool true) (za (beq_iff_eq.2 (by omega))),.v] H5 kr fun gs6 w6 H6=>?_;refine ⟨rfl,H6.as kr,?_⟩;rw [decide_eq_true h42];exact Is.of ⟨kr,kr,kr,kr,kr,trivial⟩
     ·refine rL [.E (.bool ((g:Int)==42)) (.bool false) (za (beq_eq_false_iff_ne.2 (by omega))),.v] H5 kr fun gs6 w6 H6=>?_;refine ⟨rfl,H6.as kr,?_⟩;rw [decide_eq_false h42];exact Is.of ⟨kr,kr,kr,kr,kr,trivial⟩
   rintro _ _ w5 ⟨rfl,H5,_,rfl⟩;refine wW ?_;clear H4;cases hl:zQ g with
   | false=>
    refine zl kr kr ?_;have hb:yq g s=s:=by unfold yq;rw [if_neg (by rw [hl];simp [h110])]
    have hk:yr g b k=.nil:=by unfold yr;rw [hl];rfl
    rw [hb,hk];refine rL [.v,.l 1,.v,.s 3] H5 kr fun gs6 w6 H6=>?_;have H7:St w.heap.size w w6 [((gs1 0).b,kdO g p n c),((gs1 1).b,ixO l s p2 n2 c2),((gs1 2).b,fZ (.slice none 0 0)),((gs2 0).b,fdO 0 s none 0 0)]:=H6.as kr;refine ⟨rfl,none,0,0,[],RIn.none _ _,?_,(Is.of ⟨kr,kr,trivial⟩)⟩;exact (H7.sub (List.Sublist.cons _ (List.Sublist.cons _ (List.Sublist.refl _)))).perm (List.Perm.swap _ _ _)
   | true=>
    refine zj kr kr ?_;have hb:yq g s=⟨#[]⟩:=by unfold yq;rw [if_pos (.inr hl)]
    have hk:yr g b k=qL k g b 0:=by unfold yr;rw [if_pos hl]
    rw [hb,hk];refine rS [.v,.l 1,.v,.v] H5 kr fun gs6 w6 H6=>zA 1 kr ?_;have H7:St w.heap.size w w6 [((gs1 0).b,kdO g p n c),((gs1 1).b,ixO l s p2 n2 c2),((gs1 2).b,fZ (.slice none 0 0)),((gs2 0).b,fZ (.slice none 0 0))]:=H6.as kr;have H8:St w.heap.size w w6 (((gs2 0).b,fZ (.slice none 0 0))::((gs1 0).b,kdO g p n c)::([]++(((gs1 1).b,ixO l s p2 n2 c2)::((gs1 2).b,fZ (.slice none 0 0))::[]))):=H7.perm (List.perm_append_comm (l₁:=[((gs2 0).b,fZ (.slice none 0 0))]) (l₂:=[((gs1 0).b,kdO g p n c),((gs1 1).b,ixO l s p2 n2 c2),((gs1 2).b,fZ (.slice none 0 0))]));clear H5 H6 H7;refine yV kr (fun mz ρ ww=> ∃(i:Nat) (r:Fo) (p3:Option Addr) (c3:Nat) (row:List (Nat×Obj)) (M:List (El (Nat×ByteArray))) (T:List (Nat×Obj)),n2-i=mz∧FoR w.heap.size w p2 i r∧i+r.len=n2∧r.sub vQ∧r.cnt≤k.cnt∧(yc M).app (qL r g b i)=qL k g b 0∧RowE fS 44 p3 i c3 row M∧AllE fS T M∧St w.heap.size w ww (((gs2 0).b,fZ (.slice p3 i c3))::((gs1 0).b,kdO g p n c)::(row++(((gs1 1).b,ixO l s p2 n2 c2)::((gs1 2).b,fZ (.slice none 0 0))::T)))∧Is [(2,.pointer (some ⟨(gs1 0).b,0,none⟩)),(3,.pointer (some ⟨(gs1 1).b,0,none⟩)),(4,.pointer (some ⟨(gs1 2).b,0,none⟩)),(5,.pointer (some ⟨(gs2 0).b,0,none⟩)),(25,.slice p2 n2 c2),(26,.int .i64 (n2:Int)),(27,.int .i64 (i:Int))] ρ) (n2-0) ⟨0,k,none,0,[],[],[],rfl,hF.start,by omega,hs,Nat.le_refl _,rfl,.inl ⟨rfl,rfl,rfl,rfl,rfl⟩,(fun _ h=>nomatch h),H8,(Is.of ⟨kr,kr,kr,kr,kr,kr,kr,trivial⟩)⟩ ?_;clear H8;rintro _ _ w9 ⟨i,r,p3,c3,row,M,T,rfl,hR,hN,hsub,hcn,happ,hRow,hAll,H12,_,rfl⟩;by_cases hi:i<n2
    ·refine rS [.E (.bool (decide ((i:Int)<(n2:Int)))) (.bool true) (za (decide_eq_true (by omega)))] H12 kr fun gs8 w10 H13=>?_;clear H12;refine zd kr<|zj kr kr<|zn kr<|wW<|zd kr<|zA 2 kr ?_;obtain ⟨l1,s1,k1,r1,b1,off1,C1,T1,fz1,p1,n1,c1,hr1,hp1,hb1,hh1,hs1,hx1,hz1,hk1,hR1,hN1⟩:=FoR.open hR hN hi;obtain ⟨g',p',n',c',hK1,hK2,hg'⟩:=hK.kid g i;subst hr1;simp only [Fo.cnt] at hcn;refine zf [0,1,2,3,4,5] kr kr<|rp [.v,.o (ins:=[((.tmp 25),.slice p2 n2 c2),((.tmp 27),.int .i64 (i:Int))]) (v:=.pointer (some ⟨b1,off1+i*3,none⟩)) (fun ρ o w ho hi2=>yI (kd:=.i64) (t:=81) (e:=83) (K:=3) (bytes:=48) kr (x:=(.tmp 25)) (y:=(.tmp 27)) b1 off1 n2 c2 i hp1 ho hi2.1 hi2.2.1 (by omega) w),.fp (off:=off1+i*3) (n:=3) (W:=#[.bool l1,.string s1,.slice p1 n1 c1]) hh1 hb1 hs1 hx1] H13 kr fun gs9 w11 H14=>wX [3,4,5] ?_;have H15:St w.heap.size w w11 (((gs2 0).b,fZ (.slice p3 i c3))::((gs1 0).b,kdO g p n c)::(row++(((gs1 1).b,ixO l s p2 n2 c2)::((gs1 2).b,fZ (.slice none 0 0))::T))):=H14.as kr;refine zE H15 (some 7) 83 (.agg #[.bool false,.string ⟨#[]⟩,.slice none 0 0]) kr kr kr ?_;intro bq w12 H16;refine rp [.v,.s 0] H16 kr fun gs10 w13 H17=>wX []<|zb ?_;have H18:St w.heap.size w w13 ((bq,ixO l1 s1 p1 n1 c1)::((gs2 0).b,fZ (.slice p3 i c3))::((gs1 0).b,kdO g p n c)::(row++(((gs1 1).b,ixO l s p2 n2 c2)::((gs1 2).b,fZ (.slice none 0 0))::T))):=H17.as kr;clear H13 H14 H15 H16 H17;have hc:=hsub.1 g' p' n' c' (zp g b i).2 l1 s1 p1 n1 c1 hz1 (by omega);refine D2.g_draw0 [0,1,2,3,4,5,6,7,8,9,10] [(some 32,fun _=>.pointer (some ⟨(gs2 0).b,2,none⟩)),(some 33,fun _=>.slice p3 i c3),(some 34,fun _=>knd g p n c),(some 35,fun _=>.int .i64 (i:Int)),(some 36,fun _=>knd g' p' n' c'),(some 37,fun _=>itm l1 s1 p1 n1 c1),(some 38,fun y=>.agg y.cur),(some 39,fun y=>.slice (some ⟨y.b,0,none⟩) 1 1),(some 40,fun y=>.slice (some ⟨y.b,0,none⟩) (i+1) y.cap),(some 41,fun _=>.pointer (some ⟨(gs2 0).b,2,none⟩)),(none,fun _=>undef)]
      (yz w.heap.size w bq (gs2 0).b (gs1 0).b (ixO l1 s1 p1 n1 c1) (kdO g p n c) p3 i c3 row M (fun x T2=>x.a=(yB g' l1 s1 k1.len,yq g' s1)∧x.k=yr g' (zp g b i).2 k1∧RIn fS T2 x.p x.n x.k) (((gs1 1).b,ixO l s p2 n2 c2)::((gs1 2).b,fZ (.slice none 0 0))::T)) kr kr kr H18.drew ⟨?_,?_,?_,?_,?_,?_,?_,?_,?_,?_,?_,trivial⟩ ?_
     ·exact D2.gv_val (fun _ _ _ h=>h) (fun g w=>by kernel_rfl)
     ·refine D2.gv_ld (fun _ _ _ h=>h) 41 (.tmp 32) (fun _=>(gs2 0).b) 2 #[wZ,.string ⟨#[]⟩,.slice p3 i c3] 44 (0,0) (fun g=>by kernel_rfl) (fun g=>by kernel_rfl) (fun L g w hN hp=>?_) kr kr;obtain ⟨l',h,hm⟩:=hp.f (hN.post 8 kr);exact (h.own _ hm).2
     ·refine D2.gv_ld (fun _ _ _ h=>h) 62 (.tmp 2) (fun _=>(gs1 0).b) 0 #[.int .u8 ((g:Nat):Int),.slice p n c] 62 (0,0) (fun g=>by kernel_rfl) (fun g=>by kernel_rfl) (fun L g w hN hp=>?_) kr kr;have h4:=hN.post 4 kr;have h6:=hN.2.2.no 4 6 kr h4;have h7:=hN.2.2.no 6 7 kr h6;exact (hp.st (hN.2.2.no 7 8 kr h7) h7 h6).get 2 kr
     ·exact D2.gv_val (fun _ _ _ h=>h) (fun g w=>by kernel_rfl)
     ·refine D2.gv_cpW (fun _ _ _ h=>h) 94 #[knd g p n c,.int .i64 (i:Int)] (zao g p n c i g' p' n' c') (fun L g w hN hp=>?_) (fun L g w w' hN hp hb=>hp.call hb) (fun g w=>by kernel_rfl);have h6:=hN.post 6 kr;have h7:=hN.2.2.no 6 7 kr h6;have h:=hp.st (hN.2.2.no 7 8 kr h7) h7 h6;exact hK1.up h.below h.below.size
     ·refine D2.gv_ld (fun _ _ _ h=>h) 83 (.tmp 7) (fun _=>bq) 0 #[.bool l1,.string s1,.slice p1 n1 c1] 83 (0,0) (fun g=>by kernel_rfl) (fun g=>by kernel_rfl) (fun L g w hN hp=>?_) kr kr;have h6:=hN.post 6 kr;have h7:=hN.2.2.no 6 7 kr h6;exact (hp.st (hN.2.2.no 7 8 kr h7) h7 h6).get 0 kr
     ·refine D2.gv_ft 59 #[knd g' p' n' c',itm l1 s1 p1 n1 c1] hc (fun L g w hN hp=>?_) (fun L gg ww v' T2 w' hN hp hok hT=>?_) (fun g w=>by kernel_rfl)
      ·have h7:=hN.post 7 kr;have h:=hp.st (hN.2.2.no 7 8 kr h7) h7 hN.1;exact ⟨hK2.call h.below,hk1.call h.below⟩
      ·obtain ⟨q1,q2,q3,rfl,hsl⟩:=hok;have h7:=hN.post 7 kr;have h8:=hN.2.2.no 7 8 kr h7;refine ⟨{ cur:=#[.int .u64 ((yB g' l1 s1 k1.len:Nat):Int),.string (yq g' s1),.slice q1 q2 q3] },rfl,?_⟩;have hp:=hp.st h8 h7 hN.1;unfold yz;rw [show D2.put1 L 6 8=false from h8,show D2.put1 L 6 7=false from h7,show D2.put1 L 6 6=true from rfl];exact ⟨⟨(yB g' l1 s1 k1.len,yq g' s1),q1,q2,q3,yr g' (zp g b i).2 k1⟩,T2,⟨rfl,rfl,hsl⟩,rfl,(St.addAll hp hT).perm ((List.Perm.cons _ (List.Perm.cons _ (List.Perm.cons _ (List.perm_append_comm_assoc row T2 _)))).trans (List.perm_append_comm_assoc T2 [(bq,ixO l1 s1 p1 n1 c1),((gs2 0).b,fZ (.slice p3 i c3)),((gs1 0).b,kdO g p n c)] (row++_)).symm)⟩
     ·refine D2.gives_of fun L1 gg ww hp hN=>?_;have h6:=hN.bef 6 kr;have h8:=hN.post 8 kr;unfold yz at hp;rw [h8,hN.1,h6] at hp;obtain ⟨x,T2,hx,hcur,HS⟩:=hp;obtain ⟨o,ho,hd,hw,hrun⟩:=zJ (show opv _ _ 7 (yt [(32,.pointer (some ⟨(gs2 0).b,2,none⟩)),(33,.slice p3 i c3),(34,knd g p n c),(35,.int .i64 (i:Int)),(36,knd g' p' n' c'),(37,itm l1 s1 p1 n1 c1),(38,.agg (gg 6).cur)] _) ww=some (some 39,true,.ok (.value (.slice (some ⟨ww.heap.size,0,none⟩) 1 1)) (ww.alloc (.cells (ec x) 44))) by rw [hcur];kernel_rfl);refine ⟨o,ho,hd,.inr ⟨hw,?_⟩⟩;refine (congrArg (D2.Runs _ _) hrun).mpr ?_;refine ⟨{ b:=ww.heap.size },rfl,?_⟩;unfold yz;rw [show D2.put1 L1 7 8=false from h8,show D2.put1 L1 7 7=true from rfl];exact ⟨x,T2,hx,HS.alloc _⟩
     ·refine D2.gives_of fun L1 gg ww hp hN=>?_;have h7:=hN.bef 7 kr;have h10:=hN.post 10 kr;unfold yz at hp;rw [hN.1,h7] at hp;obtain ⟨x,T2,hx,HS⟩:=hp;obtain ⟨o,ho,hd,hw,hop⟩:=zz (show opk _ 8 _=some (some 40,true,yi 41 (.tmp 33) (.tmp 39)) by kernel_rfl);refine ⟨o,ho,hd,.inr ⟨hw,?_⟩⟩;rcases hRow with ⟨rfl,rfl,rfl,rfl,rfl⟩ | ⟨br,cur,rfl,rfl,hrw⟩
      ·obtain ⟨b',cap',cur',w',hrun,HS',hr'⟩:=kX (K:=3) HS (t:=41) (e:=44) (bytes:=48) (k:=0) (bx:=(gg 7).b) (c:=1) (Y:=ec x) kr hop kr kr rfl rfl (jm rfl) (by omega);rw [hrun];refine ⟨{ b:=b',cap:=cap',cur:=cur' },rfl,?_⟩;unfold yz;rw [show D2.put1 L1 8 8=true from rfl,show D2.put1 L1 8 10=false from h10];refine ⟨x,T2,hx,hr',?_⟩;exact (HS'.sub (List.Sublist.cons_cons _ (List.sublist_cons_self ..))).perm (List.perm_middle (l₁:=[(bq,ixO l1 s1 p1 n1 c1),((gs2 0).b,fZ (.slice none 0 0)),((gs1 0).b,kdO g p n c)]))
      ·obtain ⟨b',cap',cur',w',hrun,HS',hr'⟩:=xU (K:=3) HS (t:=41) (e:=44) (bytes:=48) (j:=4) (k:=0) (bx:=(gg 7).b) (c:=1) (Y:=ec x) kr hop kr rfl hrw kr rfl rfl (jm rfl) (by omega) (by unfold maxLen;omega);rw [hrun];refine ⟨{ b:=b',cap:=cap',cur:=cur' },rfl,?_⟩;unfold yz;rw [show D2.put1 L1 8 8=true from rfl,show D2.put1 L1 8 10=false from h10];refine ⟨x,T2,hx,?_,HS'.sub (List.sublist_cons_self ..)⟩;rw [xT];exact hr'
     ·exact D2.gv_val (fun _ _ _ h=>h) (fun g w=>by kernel_rfl)
     ·refine D2.gives_of fun L1 gg ww hp hN=>?_;have h8:=hN.bef 8 kr;unfold yz at hp;rw [h8,hN.1] at hp;obtain ⟨x,T2,hx,hr',HS⟩:=hp;obtain ⟨o,ho,hd,hw,hop⟩:=zz (show opk _ 10 _=some (none,true,.store 41 (.tmp 41) (.tmp 40)) by kernel_rfl);refine ⟨o,ho,hd,.inr ⟨hw,?_⟩⟩;rw [jW (t:=41) (off:=2) (b:=(gs2 0).b) (C:=#[wZ,.string ⟨#[]⟩,.slice p3 i c3]) (T:=44) (v:=.slice (some ⟨(gg 8).b,0,none⟩) (i+1) (gg 8).cap) (C':=#[wZ,.string ⟨#[]⟩,.slice (some ⟨(gg 8).b,0,none⟩) (i+1) (gg 8).cap]) (HS.get 1 kr) kr kr (of_decide_eq_true kr) kr kr kr o hop];refine ⟨default,rfl,?_⟩;unfold yz;rw [show D2.put1 L1 10 8=true from h8,show D2.put1 L1 10 10=true from rfl];exact ⟨x,T2,hx,hr',HS.store 1 (C:=#[wZ,.string ⟨#[]⟩,.slice p3 i c3]) kr⟩
     ·intro L1 gg w14 hall hp;unfold yz at hp;rw [hall 8 (Nat.le_of_ble_eq_true kr),hall 10 (Nat.le_of_ble_eq_true kr)] at hp;obtain ⟨x,T2,⟨hx1,hx2,hx3⟩,hr',HS⟩:=hp;have H19:St w.heap.size w w14 (((gs2 0).b,fZ (.slice (some ⟨(gg 8).b,0,none⟩) (i+1) (gg 8).cap))::((gs1 0).b,kdO g p n c)::([((gg 8).b,frO (gg 8).cur)]++(((gs1 1).b,ixO l s p2 n2 c2)::((gs1 2).b,fZ (.slice none 0 0))::(T2++T)))):=(HS.sub (List.sublist_cons_self ..)).perm (List.Perm.cons _ (List.Perm.cons _ (List.Perm.cons _ (List.perm_append_comm_assoc T2 [((gs1 1).b,ixO l s p2 n2 c2),((gs1 2).b,fZ (.slice none 0 0))] T).symm)));refine wW<|rL [.E (.int .i64 (IntKind.i64.wrap ((i:Int)+1))) (.int .i64 ((i+1:Nat):Int)) (zr (qv (a:=i) (b:=1) (by omega))),.v] H19 kr fun gs11 w15 H20=>?_;show ∃m,_∧_;refine ⟨_,(by omega),i+1,r1,_,_,[((gg 8).b,frO (gg 8).cur)],M++ [x],T2++T,rfl,hR1,hN1,hsub.2,(by omega),?_,.inr ⟨_,_,rfl,rfl,hr'⟩,?_,H20.as kr,(Is.of ⟨kr,kr,kr,kr,kr,kr,kr,trivial⟩)⟩
      ·rw [zc0,hx1,hx2,←happ,zcH,←hg']
      ·exact (hAll.mono fun e he=>List.mem_append_right _ he).snoc (hx3.mono fun e he=>List.mem_append_left _ he) (by rw [hx1];exact ⟨zha ..,zhb hz1⟩)
    ·obtain rfl:=FoR.done hN hi;obtain rfl:i=n2:=by simp only [Fo.len] at hN;omega
     refine rS [.E (.bool (decide ((i:Int)<(i:Int)))) (.bool false) (za (decide_eq_false (by omega)))] H12 kr fun gs8 w10 H13=>zd kr<|zl kr kr<|yE 1 kr ?_;have hM:yc M=qL k g b 0:=by
      rw [←happ];exact (Fr.app_nil _).symm
     have H14:St w.heap.size w w10 (((gs2 0).b,fZ (.slice p3 i c3))::((gs1 0).b,kdO g p n c)::(row++(((gs1 1).b,ixO l s p2 i c2)::((gs1 2).b,fZ (.slice none 0 0))::T))):=H13.as kr;refine ⟨rfl,p3,i,c3,row++T,?_,?_,(Is.of ⟨kr,kr,trivial⟩)⟩
     ·rw [←hM];exact hRow.rIn (by decide) hAll hn3
     ·refine (H14.sub (l':=((gs2 0).b,fZ (.slice p3 i c3))::(row++(((gs1 2).b,fZ (.slice none 0 0))::T))) (List.Sublist.cons_cons _ (List.Sublist.cons _ (List.Sublist.append (List.Sublist.refl _) (List.sublist_cons_self ..))))).perm ?_;exact List.Perm.cons _ (List.perm_middle).symm
 rintro _ _ w5 ⟨rfl,p3,n3,c3,T,hT,H5,_,rfl⟩;refine wW<|rS [.l 0,.s 1] H5 kr fun gs6 w6 H6=>rRr [.cell 4 44] [1] (fld (yB g l s k.len) (yq g s) p3 n3 c3) (yn w.heap.size w (zc1 g b l s k)) H6 kr ?_;have H7:St w.heap.size w w6 (((gs2 0).b,fdO (yB g l s k.len) (yq g s) p3 n3 c3)::((gs1 2).b,fdO (yB g l s k.len) (yq g s) p3 n3 c3)::T):=H6.as kr;exact ⟨T,⟨p3,n3,c3,rfl,hT⟩,H7.sub (List.Sublist.cons _ (List.sublist_cons_self ..))⟩
theorem zhd (k:Fo):vQ k:=(Fo.induct zhc k).1
abbrev kR (C:Array Value):Obj:=.cells C 62 (0,0)
structure Sk where
 g:Nat
 p:Option Addr
 n:Nat
 c:Nat
 row:List (Nat×Obj)
 M:List (El Nat)
def Sk.el (e:Sk):El Nat:=⟨e.g,e.p,e.n,e.c,yc e.M⟩
def opE:List Sk→List (El Nat)
 | []=>[]
 | e::r=>opE r++ [e.el]
def zV:List Sk→List (Nat×Obj)
 | []=>[]
 | e::r=>e.row++zV r
def stM (S:List Sk):List (Nat×Kf):=S.map fun e=>(e.g,yc e.M)
def Bot:List Sk→Prop
 | []=>False
 | e::r=>(r=[]∧e.g=40)∨Bot r
structure jq (T:List (Nat×Obj))(m:Nat)(e:Sk):Prop where
 row:RowE kS 62 e.p e.n e.c e.row e.M
 all:AllE kS T e.M
 le:e.n≤m
theorem jq.mono {T T':List (Nat×Obj)}{m m':Nat}{e:Sk}(h:jq T m e)(hT: ∀x∈T,x∈T')(hm:m≤m'):jq T' m' e:=⟨h.row,h.all.mono hT,Nat.le_trans h.le hm⟩
theorem zap: ∀S:List Sk,(opE S).length=S.length
 | []=>rfl
 | e::r=>by simp only [opE,List.length_append,zap r,List.length_cons,List.length_nil]
theorem xy (e:Sk)(r:List Sk):zG kS (opE (e::r))=zG kS (opE r)++ [.int .u8 ((e.g:Nat):Int),.slice e.p e.n e.c]:=by
 show zG kS (opE r++ [e.el])=_;rw [xT];rfl
theorem vR (r:List Sk):(zG kS (opE r)).length=r.length*2:=by rw [jV,zap];rfl
theorem Rw.pop {K:Nat}{cur:Array Value}{cap n:Nat}{X Z:List Value}(h:Rw K cur cap (n+1) (X++Z))(hX:X.length=n*K):Rw K cur cap n X:=by
 have ht:=h.take;refine ⟨hX,by have:=h.le;omega,h.max,?_,h.sz⟩;have e:(cur.toList.take ((n+1)*K)).take (n*K)=X:=by rw [ht,List.take_append,hX,Nat.sub_self,List.take_zero,List.append_nil,List.take_of_length_le (by omega)]
 rw [List.take_take,Nat.min_eq_left (by rw [Nat.succ_mul];omega)] at e;exact e
theorem Rw.top {cur:Array Value}{cap:Nat}{e:Sk}{r:List Sk}(h:Rw 2 cur cap (r.length+1) (zG kS (opE (e::r)))):
 0+r.length*2+2≤cur.size∧cur.extract (0+r.length*2) (0+r.length*2+2)=#[.int .u8 ((e.g:Nat):Int),.slice e.p e.n e.c]∧cur[0+r.length*2]? =some (.int .u8 ((e.g:Nat):Int))∧cur[0+r.length*2+1]? =some (.slice e.p e.n e.c):=by
 rw [xy] at h;have hl:=vR r;rw [Nat.zero_add];have h0:cur[r.length*2]? =some (.int .u8 ((e.g:Nat):Int)):=by
  rw [h.get _ (by omega),List.getElem?_append_right (by omega),hl,Nat.sub_self];rfl
 have h1:cur[r.length*2+1]? =some (.slice e.p e.n e.c):=by
  rw [h.get _ (by omega),List.getElem?_append_right (by omega),hl,Nat.add_sub_cancel_left];rfl
 have h2:=exE (C:=cur) (o:=r.length*2) (x:=[.int .u8 ((e.g:Nat):Int),.slice e.p e.n e.c]) (K:=2) rfl (fun j hj=>by
  rcases j with _|_|j
  ·exact h0
  ·exact h1
  ·omega) (by decide)
 exact ⟨h2.1,h2.2,h0,h1⟩
def zK:Array Value:=#[.int .u8 0,.slice none 0 0]
def yY (B:Nat)(w0:World)(bd b2 bo:Nat)(dO bO:Obj)(kv:Value)(cur:Array Value)(N:Nat)(en:Nat)(row:List (Nat×Obj))(xs:List Value)(T:List (Nat×Obj)):(Nat→Bool)→(Nat→D2.Gh)→World→Prop:=fun L g w=>
 bif L 8 then (L 9=true→(g 9).b=(g 8).b)∧Rw 2 (g 8).cur (g 8).cap (en+1) (xs++zK.toList)∧St B w0 w ((bd,dO)::(b2,bO)::(bo,kR (bif L 13 then putA cur (0+N*2+1) (.slice (some ⟨(g 8).b,0,none⟩) (en+1) (g 8).cap) else cur))::((g 8).b,kR (bif L 10 then putA (g 8).cur (0+en*2) kv else (g 8).cur))::T)
 else bif L 7 then St B w0 w (((g 7).b,kR zK)::(bd,dO)::(b2,bO)::(bo,kR cur)::(row++T))
 else St B w0 w ((bd,dO)::(b2,bO)::(bo,kR cur)::(row++T))
section
variable {B:Nat}{w0:World}{bd b2 bo:Nat}{dO bO:Obj}{kv:Value}{cur:Array Value}{N en:Nat}{row:List (Nat×Obj)}{xs:List Value}{T:List (Nat×Obj)}{L:Nat→Bool}{g:Nat→D2.Gh}{w:World}
theorem yY.st (h8:L 8=false)(h:yY B w0 bd b2 bo dO bO kv cur N en row xs T L g w):∃l,St B w0 w l∧(bd,dO)∈l∧(bo,kR cur)∈l:=by
 unfold yY at h;rw [h8] at h;cases h7:L 7 with
 | true=>rw [h7] at h;exact ⟨_,h,by simp,by simp⟩
 | false=>rw [h7] at h;exact ⟨_,h,by simp,by simp⟩
end
noncomputable abbrev zhe:Code:=zt (zu (zt (zt (zt (yN (zt (zg Tryz.f40)))))))
noncomputable abbrev zc2:Code:=yN (zu (zt (zt (yN (yN zhe)))))
def zc3 (B:Nat)(w0:World)(form:ByteArray)(b2 bd i:Nat)(target:List (Nat×Kf))(mz:Nat)(ρ:Env)(ww:World):Prop:=
 ∃(S:List Sk) (N g:Nat) (p:Option Addr) (n c:Nat) (k:Kf) (T:List (Nat×Obj)) (bo cap:Nat) (cur:Array Value),S.length=mz∧N=S.length∧Bot S∧N≤5∧(∀e∈S,jq T i e)∧RIn kS T p n k∧jo g k (stM S)=target∧Rw 2 cur cap N (zG kS (opE S))∧
  St B w0 ww ((bd,kdO g p n c)::(b2,kdO 0 none 0 0)::(bo,kR cur)::(zV S++T))∧
  Is [(0,.string form),(2,.pointer (some ⟨b2,0,none⟩)),(3,.bool false),(4,.slice (some ⟨bo,0,none⟩) N cap),(6,.pointer (some ⟨bd,0,none⟩)),(16,.int .i64 (form.size:Int)),(17,.int .i64 (i:Int))] ρ
def zhf (B:Nat)(w0:World)(form:ByteArray)(b2 i:Nat)(target:List (Nat×Kf))(ρ:Env)(ww:World):Prop:=
 ∃(S:List Sk) (N:Nat) (T:List (Nat×Obj)) (bo cap:Nat) (cur:Array Value),N=S.length∧Bot S∧N≤5∧(∀e∈S,jq T i e)∧stM S=target∧Rw 2 cur cap N (zG kS (opE S))∧
  St B w0 ww ((b2,kdO 0 none 0 0)::(bo,kR cur)::(zV S++T))∧
  Is [(0,.string form),(2,.pointer (some ⟨b2,0,none⟩)),(3,.bool false),(4,.slice (some ⟨bo,0,none⟩) N cap),(16,.int .i64 (form.size:Int)),(17,.int .i64 (i:Int))] ρ
theorem zc4 {Q:Exit→Env→World→Prop}{B:Nat}{w0:World}(form:ByteArray)(b2 bd i:Nat)(target:List (Nat×Kf))(hi:i≤40)(m0:Nat)(ρ0:Env)(ww0:World)(h0:zc3 B w0 form b2 bd i target m0 ρ0 ww0)
 (hQ: ∀(S:List Sk) (N:Nat) (T:List (Nat×Obj)) (bo cap:Nat) (cur:Array Value) (ρ:Env) (ww:World),N=S.length→Bot S→N≤5→(∀e∈S,jq T (i+1) e)→stM S=target→Rw 2 cur cap N (zG kS (opE S))→
  St B w0 ww ((b2,kdO 0 none 0 0)::(bo,kR cur)::(zV S++T))→Is [(0,.string form),(2,.pointer (some ⟨b2,0,none⟩)),(3,.bool false),(4,.slice (some ⟨bo,0,none⟩) N cap),(16,.int .i64 (form.size:Int)),(17,.int .i64 (i:Int))] ρ→Q (.exit 1) ρ ww):
 WP Tryz.prog 101 (zt (zt (zt zc2))) Q ρ0 ww0:=by
 refine zA 3 kr<|yV kr (zc3 B w0 form b2 bd i target) m0 h0 ?_;clear h0;rintro _ _ w1 ⟨S,N,g,p,n,c,k,T,bo,cap,cur,rfl,rfl,hBot,hN5,hS,hRI,hpush,hRw,H1,_,rfl⟩;rcases S with _ | ⟨e,r⟩
 ·exact hBot.elim
 have he:=hS e (List.mem_cons_self ..);refine zA 4 kr ?_;have hN5':r.length+1≤5:=hN5;refine rS [.v,.v,.E (.int .i64 (IntKind.i64.wrap (((r.length+1:Nat):Int)-1))) (.int .i64 (r.length:Int)) (zr (by rw [show (((r.length+1:Nat):Int)-1)=(r.length:Int) by omega];exact kU (by omega))),.v] H1 kr fun gs2 w2 H2=>?_;clear H1;refine zd kr ?_;have H3:St B w0 w2 ((bd,kdO g p n c)::(b2,kdO 0 none 0 0)::(bo,kR cur)::(e.row++(zV r++T))):=by
  rw [←List.append_assoc];exact H2
 have htop:=hRw.top;refine D2.g_draw0 [0,1,2,3,4,5,6,7,8,9,10,11,12,13] [(some 69,fun _=>.slice (some ⟨bo,0,none⟩) (r.length+1) cap),(some 70,fun _=>.int .i64 (r.length:Int)),(some 71,fun _=>.pointer (some ⟨bo,0+r.length*2,none⟩)),(some 72,fun _=>.pointer (some ⟨bo,0+r.length*2+1,none⟩)),(some 73,fun _=>.slice e.p e.n e.c),(some 74,fun _=>knd g p n c),(some 75,fun _=>.int .i64 ((e.n:Nat):Int)),(some 76,fun y=>.slice (some ⟨y.b,0,none⟩) 1 1),(some 77,fun y=>.slice (some ⟨y.b,0,none⟩) (e.n+1) y.cap),(some 78,fun y=>.pointer (some ⟨y.b,0+e.n*2,none⟩)),(none,fun _=>undef),(some 79,fun _=>.pointer (some ⟨bo,0+r.length*2,none⟩)),(some 80,fun _=>.pointer (some ⟨bo,0+r.length*2+1,none⟩)),(none,fun _=>undef)]
  (yY B w0 bd b2 bo (kdO g p n c) (kdO 0 none 0 0) (knd g p n c) cur r.length e.n e.row (zG kS e.M) (zV r++T)) kr kr kr H3.drew ⟨?_,?_,?_,?_,?_,?_,?_,?_,?_,?_,?_,?_,?_,?_,trivial⟩ ?_
 ·exact D2.gv_val (fun _ _ _ h=>h) (fun g w=>by kernel_rfl)
 ·exact D2.gv_val (fun _ _ _ h=>h) (fun g w=>by kernel_rfl)
 ·exact D2.gv_op (fun _ _ _ h=>h) _ (fun g=>by kernel_rfl) (fun g o w ho=>yI (kd:=.i64) (t:=60) (e:=62) (K:=2) (bytes:=32) kr (x:=(.tmp 69)) (y:=(.tmp 70)) bo 0 (r.length+1) cap r.length rfl ho kr kr (by omega) w)
 ·exact D2.gv_val (fun _ _ _ h=>h) (fun g w=>by kernel_rfl)
 ·refine D2.gv_opW (fun _ _ _ h=>h) (.load 60 (.tmp 72)) (fun g=>by kernel_rfl) (fun L g o w hN hp ho=>?_);obtain ⟨l,h,_,hm⟩:=hp.st (hN.post 8 kr);exact zbu (h.own _ hm).2 kr kr htop.2.2.2 o ho
 ·refine D2.gv_ld (fun _ _ _ h=>h) 62 (.tmp 6) (fun _=>bd) 0 #[.int .u8 ((g:Nat):Int),.slice p n c] 62 (0,0) (fun g=>by kernel_rfl) (fun g=>by kernel_rfl) (fun L g w hN hp=>?_) kr kr;obtain ⟨l,h,hm,_⟩:=hp.st (hN.post 8 kr);exact (h.own _ hm).2
 ·exact D2.gv_val (fun _ _ _ h=>h) (fun g w=>by kernel_rfl)
 ·refine D2.gives_of fun L1 gg ww hp hN=>?_;have h8:=hN.post 8 kr;unfold yY at hp;rw [h8,hN.1] at hp;obtain ⟨o,ho,hd,hw,hrun⟩:=zJ (show opv _ _ 7 _ ww=some (some 76,true,.ok (.value (.slice (some ⟨ww.heap.size,0,none⟩) 1 1)) (ww.alloc (.cells zK 62))) by kernel_rfl);refine ⟨o,ho,hd,.inr ⟨hw,?_⟩⟩;refine (congrArg (D2.Runs _ _) hrun).mpr ?_;refine ⟨{ b:=ww.heap.size },rfl,?_⟩;unfold yY;rw [show D2.put1 L1 7 8=false from h8,show D2.put1 L1 7 7=true from rfl];exact St.alloc hp _
 ·refine D2.gives_of fun L1 gg ww hp hN=>?_;have h7:=hN.bef 7 kr;have h9:=hN.post 9 kr;have h10:=hN.post 10 kr;have h13:=hN.post 13 kr;unfold yY at hp;rw [hN.1,h7] at hp;obtain ⟨o,ho,hd,hw,hop⟩:=zz (show opk _ 8 _=some (some 77,true,yi 60 (.tmp 73) (.tmp 76)) by kernel_rfl);refine ⟨o,ho,hd,.inr ⟨hw,?_⟩⟩;have hen:=he.le;obtain ⟨eg,ep,en,ec,erow,eM⟩:=e;rcases he.row with ⟨rfl,rfl,rfl,rfl,rfl⟩ | ⟨br,curr,rfl,rfl,hrw⟩
  ·obtain ⟨b',cap',cur',w',hrun,HS',hr'⟩:=kX (K:=2) hp (t:=60) (e:=62) (bytes:=32) (k:=0) (bx:=(gg 7).b) (c:=1) (Y:=zK) kr hop kr kr rfl rfl (jm rfl) (by omega);rw [hrun];refine ⟨{ b:=b',cap:=cap',cur:=cur' },rfl,?_⟩;unfold yY;rw [show D2.put1 L1 8 8=true from rfl,show D2.put1 L1 8 10=false from h10,show D2.put1 L1 8 13=false from h13];refine ⟨fun hh=>absurd (h9.symm.trans hh) (by decide),hr',?_⟩;exact (HS'.sub (List.Sublist.cons_cons _ (List.sublist_cons_self ..))).perm (List.perm_middle (l₁:=[(bd,kdO g p n c),(b2,kdO 0 none 0 0),(bo,kR cur)]))
  ·obtain ⟨b',cap',cur',w',hrun,HS',hr'⟩:=xU (K:=2) hp (t:=60) (e:=62) (bytes:=32) (j:=4) (k:=0) (bx:=(gg 7).b) (c:=1) (Y:=zK) kr hop kr rfl hrw kr rfl rfl (jm rfl) (by omega) (by unfold maxLen;omega);rw [hrun];refine ⟨{ b:=b',cap:=cap',cur:=cur' },rfl,?_⟩;unfold yY;rw [show D2.put1 L1 8 8=true from rfl,show D2.put1 L1 8 10=false from h10,show D2.put1 L1 8 13=false from h13];exact ⟨fun hh=>absurd (h9.symm.trans hh) (by decide),hr',HS'.sub (List.sublist_cons_self ..)⟩
 ·refine D2.gives_of fun L1 gg ww hp hN=>?_;have h8:=hN.bef 8 kr;obtain ⟨o,ho,hd,hw,hop⟩:=zz (show opk _ 9 _=some (some 78,true,.indexAddr 60 (.tmp 77) (.tmp 75)) by kernel_rfl);refine ⟨o,ho,hd,.inr ⟨hw,?_⟩⟩;rw [yI (kd:=.i64) (t:=60) (e:=62) (K:=2) (bytes:=32) kr (x:=(.tmp 77)) (y:=(.tmp 75)) (gg 8).b 0 (e.n+1) (gg 8).cap e.n rfl hop kr kr (by omega) ww];refine ⟨{ b:=(gg 8).b },rfl,?_⟩;unfold yY at hp ⊢;rw [h8] at hp;rw [show D2.put1 L1 9 8=true from h8];exact ⟨fun _=>rfl,hp.2.1,hp.2.2⟩
 ·refine D2.gives_of fun L1 gg ww hp hN=>?_;have h8:=hN.bef 8 kr;have h9:=hN.bef 9 kr;unfold yY at hp;rw [h8,hN.1] at hp;obtain ⟨hg9,hr',HS⟩:=hp;have hg:=hg9 h9;have hle:=hr'.putA (0+e.n*2) (knd g p n c) (by show 0+e.n*2+2≤(e.n+1)*2;omega);obtain ⟨o,ho,hd,hw,hop⟩:=zz (show opk _ 10 _=some (none,true,.store 62 (.tmp 78) (.tmp 74)) by kernel_rfl);refine ⟨o,ho,hd,.inr ⟨hw,?_⟩⟩;rw [jW (t:=62) (off:=0+e.n*2) (b:=(gg 8).b) (C:=(gg 8).cur) (T:=62) (v:=knd g p n c) (C':=putA (gg 8).cur (0+e.n*2) (knd g p n c)) (HS.get 3 kr) kr kr hle.1 rfl (by rw [←hg];kernel_rfl) kr o hop];refine ⟨default,rfl,?_⟩;unfold yY;rw [show D2.put1 L1 10 8=true from h8,show D2.put1 L1 10 10=true from rfl];exact ⟨fun h=>hg9 h,hr',HS.store 3 (C:=(gg 8).cur) kr⟩
 ·exact D2.gv_op (fun _ _ _ h=>h) _ (fun g=>by kernel_rfl) (fun g o w ho=>yI (kd:=.i64) (t:=60) (e:=62) (K:=2) (bytes:=32) kr (x:=(.tmp 69)) (y:=(.tmp 70)) bo 0 (r.length+1) cap r.length rfl ho kr kr (by omega) w)
 ·exact D2.gv_val (fun _ _ _ h=>h) (fun g w=>by kernel_rfl)
 ·refine D2.gives_of fun L1 gg ww hp hN=>?_;have h8:=hN.bef 8 kr;unfold yY at hp;rw [h8,hN.1] at hp;obtain ⟨hg9,hr',HS⟩:=hp;have hle:=hRw.putA (0+r.length*2+1) (.slice (some ⟨(gg 8).b,0,none⟩) (e.n+1) (gg 8).cap) (by show 0+r.length*2+1+1≤(r.length+1)*2;omega);obtain ⟨o,ho,hd,hw,hop⟩:=zz (show opk _ 13 _=some (none,true,.store 60 (.tmp 80) (.tmp 77)) by kernel_rfl);refine ⟨o,ho,hd,.inr ⟨hw,?_⟩⟩;rw [jW (t:=60) (off:=0+r.length*2+1) (b:=bo) (C:=cur) (T:=62) (v:=.slice (some ⟨(gg 8).b,0,none⟩) (e.n+1) (gg 8).cap) (C':=putA cur (0+r.length*2+1) (.slice (some ⟨(gg 8).b,0,none⟩) (e.n+1) (gg 8).cap)) (HS.get 2 kr) kr kr hle.1 rfl kr kr o hop];refine ⟨default,rfl,?_⟩;unfold yY;rw [show D2.put1 L1 13 8=true from h8,show D2.put1 L1 13 13=true from rfl];exact ⟨fun h=>hg9 h,hr',HS.store 2 (C:=cur) kr⟩
 ·intro L1 gg w14 hall hp;unfold yY at hp;rw [hall 8 (Nat.le_of_ble_eq_true kr),hall 10 (Nat.le_of_ble_eq_true kr),hall 13 (Nat.le_of_ble_eq_true kr)] at hp;obtain ⟨_,hr',H4⟩:=hp;generalize hb':(gg 8).b=b';generalize hcap':(gg 8).cap=cap';generalize hcur':(gg 8).cur=cur';rw [hb',hcur',hcap'] at H4;rw [hcur',hcap'] at hr';have hn:=he.row.len (by decide);have hMl:(zG kS e.M).length=0+e.n*2:=by rw [jV,hn,Nat.zero_add];rfl
  have hnew:Rw 2 (putA cur' (0+e.n*2) (knd g p n c)) cap' (e.n+1) (zG kS (e.M++ [⟨g,p,n,c,k⟩])):=by
   have h1:=(hr'.putA (0+e.n*2) (knd g p n c) (by show 0+e.n*2+2≤(e.n+1)*2;omega)).2;have h2:=uF (X:=zG kS e.M) (Z:=zK.toList) (V:=(knd g p n c).cells.toList) hMl rfl;rw [xT];exact h2▸h1
  obtain ⟨eg,ep,en,ec,erow,eM⟩:=e;have hop:Rw 2 (putA cur (0+r.length*2+1) (.slice (some ⟨b',0,none⟩) (en+1) cap')) cap (r.length+1) (zG kS (opE (⟨eg,some ⟨b',0,none⟩,en+1,cap',[(b',kR (putA cur' (0+en*2) (knd g p n c)))],eM++ [⟨g,p,n,c,k⟩]⟩::r))):=by
   have h1:=(hRw.putA (0+r.length*2+1) (.slice (some ⟨b',0,none⟩) (en+1) cap') (by show 0+r.length*2+1+1≤(r.length+1)*2;omega)).2;have hl:=vR r;have h2:=uF (X:=zG kS (opE r)++ [.int .u8 (eg:Int)]) (Z:=[.slice ep en ec]) (V:=(Value.slice (some ⟨b',0,none⟩) (en+1) cap').cells.toList) (off:=0+r.length*2+1) (by rw [List.length_append,hl];simp) rfl;rw [xy];rw [xy,show zG kS (opE r)++ [.int .u8 (eg:Int),.slice ep en ec]=(zG kS (opE r)++ [.int .u8 (eg:Int)])++ [.slice ep en ec] by simp] at h1;have h3:(zG kS (opE r)++ [.int .u8 (eg:Int)])++(Value.slice (some ⟨b',0,none⟩) (en+1) cap').cells.toList=zG kS (opE r)++ [.int .u8 (eg:Int),.slice (some ⟨b',0,none⟩) (en+1) cap']:=by
    rw [List.append_assoc];rfl
   exact h3▸(h2▸h1)
  have hok:jq T (i+1) ⟨eg,some ⟨b',0,none⟩,en+1,cap',[(b',kR (putA cur' (0+en*2) (knd g p n c)))],eM++ [⟨g,p,n,c,k⟩]⟩:=
   ⟨.inr ⟨_,_,rfl,rfl,hnew⟩,he.all.snoc hRI trivial,Nat.succ_le_succ he.le⟩
  have htop':=hop.top;have hpush':jo g k ((eg,yc eM)::stM r)=target:=hpush;unfold jo at hpush';rw [←zcJ ⟨g,p,n,c,k⟩] at hpush';have hrc:=hop.le;have hBr:eg=42→Bot r:=fun h42=>by
   rcases hBot with ⟨_,h⟩|h
   ·exact absurd (h.symm.trans h42) (by decide)
   ·exact h
  have hin: ∀x∈T,x∈(b',kR (putA cur' (0+en*2) (knd g p n c)))::T:=fun x hx=>List.mem_cons_of_mem _ hx;refine wW<|zd kr ?_;by_cases h42:eg=42
  ·rw [if_pos h42] at hpush';refine rS [.v,.v,.o (ins:=[((.tmp 81),.slice (some ⟨bo,0,none⟩) (r.length+1) cap),((.tmp 82),.int .i64 (r.length:Int))]) (v:=.pointer (some ⟨bo,0+r.length*2,none⟩)) (fun ρ o w ho hi2=>yI (kd:=.i64) (t:=60) (e:=62) (K:=2) (bytes:=32) kr (x:=(.tmp 81)) (y:=(.tmp 82)) bo 0 (r.length+1) cap r.length rfl ho hi2.1 hi2.2.1 (by omega) w),.v,.ls 2 (C:=putA cur (0+r.length*2+1) (.slice (some ⟨b',0,none⟩) (en+1) cap')) (off:=0+r.length*2) (v:=.int .u8 (eg:Int)) htop'.2.2.1,.E (.bool (!((eg:Int)==42))) (.bool false) (za (by rw [h42];rfl))] H4 kr fun gs5 w15 H5=>zl kr kr<|zn kr<|wW<|dL [.v,.v,.o (ins:=[((.tmp 87),.slice (some ⟨bo,0,none⟩) (r.length+1) cap),((.tmp 88),.int .i64 (r.length:Int))]) (v:=.pointer (some ⟨bo,0+r.length*2,none⟩)) (fun ρ o w ho hi2=>yI (kd:=.i64) (t:=60) (e:=62) (K:=2) (bytes:=32) kr (x:=(.tmp 87)) (y:=(.tmp 88)) bo 0 (r.length+1) cap r.length rfl ho hi2.1 hi2.2.1 (by omega) w),.lp 2 (C:=putA cur (0+r.length*2+1) (.slice (some ⟨b',0,none⟩) (en+1) cap')) (off:=0+r.length*2) (n:=2) (W:=#[.int .u8 (eg:Int),.slice (some ⟨b',0,none⟩) (en+1) cap']) htop'.1 htop'.2.1,.v,.v,.o (ins:=[((.tmp 91),.slice (some ⟨bo,0,none⟩) (r.length+1) cap),((.tmp 92),.int .i64 (r.length:Int))]) (v:=.slice (some ⟨bo,0,none⟩) r.length cap) (fun ρ o w ho hi2=>zbk (kd:=.i64) (t:=60) (e:=62) (size:=2) (bytes:=32) kr (x:=(.tmp 91)) (y:=(.tmp 92)) bo (r.length+1) cap r.length ho hi2.1 hi2.2.1 (by omega) w),.s 0,.v] H5 kr fun w16 H6=>?_;have H7:St B w0 w16 ((bd,kdO eg (some ⟨b',0,none⟩) (en+1) cap')::(b2,kdO 0 none 0 0)::(bo,kR (putA cur (0+r.length*2+1) (.slice (some ⟨b',0,none⟩) (en+1) cap')))::([(b',kR (putA cur' (0+en*2) (knd g p n c)))]++(zV r++T))):=H6.as kr;show ∃m,_∧_;refine ⟨r.length,Nat.lt_succ_self _,r,r.length,eg,_,_,_,yc (eM++ [⟨g,p,n,c,k⟩]),(b',kR (putA cur' (0+en*2) (knd g p n c)))::T,bo,cap,_,rfl,rfl,hBr h42,by omega,fun x hx=>(hS x (List.mem_cons_of_mem _ hx)).mono hin (Nat.le_refl _),?_,hpush',Rw.pop (xy _ _▸hop) (vR r),H7.perm (List.Perm.cons _ (List.Perm.cons _ (List.Perm.cons _ (List.perm_append_comm_assoc (zV r) [(b',kR (putA cur' (0+en*2) (knd g p n c)))] T)))),(Is.of ⟨kr,kr,kr,kr,kr,kr,kr,trivial⟩)⟩;have:=hok.row.rIn (T:=T) (by decide) hok.all (by have:=hok.le;show en+1≤1000;simp only at this;omega);exact this
  ·rw [if_neg h42] at hpush';refine rS [.v,.v,.o (ins:=[((.tmp 81),.slice (some ⟨bo,0,none⟩) (r.length+1) cap),((.tmp 82),.int .i64 (r.length:Int))]) (v:=.pointer (some ⟨bo,0+r.length*2,none⟩)) (fun ρ o w ho hi2=>yI (kd:=.i64) (t:=60) (e:=62) (K:=2) (bytes:=32) kr (x:=(.tmp 81)) (y:=(.tmp 82)) bo 0 (r.length+1) cap r.length rfl ho hi2.1 hi2.2.1 (by omega) w),.v,.ls 2 (C:=putA cur (0+r.length*2+1) (.slice (some ⟨b',0,none⟩) (en+1) cap')) (off:=0+r.length*2) (v:=.int .u8 (eg:Int)) htop'.2.2.1,.E (.bool (!((eg:Int)==42))) (.bool true) (za (by rw [beq_eq_false_iff_ne.2 (by omega)];rfl))] H4 kr fun gs5 w15 H5=>zj kr kr<|yE 1 kr ?_;show Q (.exit 1) _ _;refine hQ (⟨eg,some ⟨b',0,none⟩,en+1,cap',[(b',kR (putA cur' (0+en*2) (knd g p n c)))],eM++ [(⟨g,p,n,c,k⟩:El Nat)]⟩::r) (r.length+1) T bo cap _ _ _ rfl ?_ hN5' ?_ hpush' hop ?_ (Is.of ⟨kr,kr,kr,kr,kr,kr,trivial⟩)
   ·rcases hBot with ⟨h1,h2⟩|h
    ·exact .inl ⟨h1,h2⟩
    ·exact .inr h
   ·intro x hx;rcases List.mem_cons.1 hx with rfl | hx
    ·exact hok
    ·exact (hS x (List.mem_cons_of_mem _ hx)).mono (fun _ h=>h) (Nat.le_succ _)
   ·have H7:St B w0 w15 ((bd,kdO g p n c)::(b2,kdO 0 none 0 0)::(bo,kR (putA cur (0+r.length*2+1) (.slice (some ⟨b',0,none⟩) (en+1) cap')))::([(b',kR (putA cur' (0+en*2) (knd g p n c)))]++(zV r++T))):=H5.as kr;exact H7.sub (List.sublist_cons_self ..)
abbrev zc5 (form:ByteArray)(i:Nat)(b2 bo N cap:Nat):List (Nat×Value):=[(0,.string form),(2,.pointer (some ⟨b2,0,none⟩)),(3,.bool false),(4,.slice (some ⟨bo,0,none⟩) N cap),(16,.int .i64 (form.size:Int)),(17,.int .i64 (i:Int))]
theorem zhg {Q:Exit→Env→World→Prop}{B:Nat}{w0:World}(form:ByteArray)(b2 i:Nat)(hi40:i≤40)(hi:i<form.size)(hz:form.size≤40)(S:List Sk)(N:Nat)(T:List (Nat×Obj))(bo cap:Nat)(cur:Array Value)(hN:N=S.length)(hBot:Bot S)(hN5:N≤5)(hS: ∀e∈S,jq T i e)(hRw:Rw 2 cur cap N (zG kS (opE S)))
 (ρ0:Env) (ww0:World) (H0:St B w0 ww0 ((b2,kdO 0 none 0 0)::(bo,kR cur)::(zV S++T))) (hIs:Is (zc5 form i b2 bo N cap) ρ0)
 (hbad:qq (by_ form i) (stM S)=none→ ∀(ρ:Env) (ww:World) (bd:Nat) (o:Obj) (l:List (Nat×Obj)),St B w0 ww ((bd,o)::(b2,kdO 0 none 0 0)::l)→ρ 3=.bool false→ρ 2=.pointer (some ⟨b2,0,none⟩)→Q .ret ρ ww)
 (hQ: ∀(S':List Sk) (N:Nat) (T:List (Nat×Obj)) (bo cap:Nat) (cur:Array Value) (ρ:Env) (ww:World),N=S'.length→Bot S'→N≤5→(∀e∈S',jq T (i+1) e)→qq (by_ form i) (stM S)=some (stM S')→Rw 2 cur cap N (zG kS (opE S'))→
  St B w0 ww ((b2,kdO 0 none 0 0)::(bo,kR cur)::(zV S'++T))→Is (zc5 form i b2 bo N cap) ρ→Q (.exit 1) ρ ww):
 WP Tryz.prog 101 zc2 Q ρ0 ww0:=by
 obtain ⟨_,rfl⟩:=hIs;rcases S with _|⟨e,r⟩
 ·exact hBot.elim
 obtain rfl:N=r.length+1:=hN;have he:=hS e (List.mem_cons_self ..);have htop:=hRw.top;obtain ⟨c,hc⟩:∃c,by_ form i=c:=⟨_,rfl⟩
 have hrc:=hRw.le;refine rS [.v,.v] H0 kr fun gs1 w1 H1=>zf [0,1,2,3,4,5] kr kr<|rp [.v,.v,.oe (ins:=[((.tmp 20),.string form),((.tmp 21),.int .i64 (i:Int))]) (v:=.int .u8 ((by_ form i:Nat):Int)) (v':=.int .u8 (c:Int)) (fun ρ o w ho hi2=>qw (t:=9) (kd:=.i64) kr (x:=(.tmp 20)) (y:=(.tmp 21)) form i ho hi2.1 hi2.2.1 hi w) (by rw [hc]),.v] H1 kr fun gs2 w2 H2=>wX [4,5] ?_;have H3:St B w0 w2 ((b2,kdO 0 none 0 0)::(bo,kR cur)::(zV (e::r)++T)):=H2.as kr;refine zE H3 (some 6) 62 (.agg #[.int .u8 0,.slice none 0 0]) kr kr kr ?_;intro bd w3 H4;refine rp [.s 0] H4 kr fun gs3 w4 H5=>wX []<|zb<|zd kr<|rS [.v,.v,.E (.int .i64 (IntKind.i64.wrap (((r.length+1:Nat):Int)-1))) (.int .i64 (r.length:Int)) (zr (by rw [show (((r.length+1:Nat):Int)-1)=(r.length:Int) by omega];exact kU (by omega))),.v] H5 kr fun gs4 w5 H6=>rS [.v,.l 0] H6 kr fun gs5 w6 H7=>zA 2 kr ?_;have H8:St B w0 w6 ((bd,kdO c none 0 0)::(b2,kdO 0 none 0 0)::(bo,kR cur)::(zV (e::r)++T)):=H7.as kr;clear H0 H1 H2 H3 H4 H5 H6 H7;refine yK [0,2,3,4,5,6,7,16,17,28] fun ρ1=>zd kr ?_;obtain ⟨lb,hlb⟩:∃lb,decide (c=110∨c=104∨c=97∨c=115∨c=98)=lb:=⟨_,rfl⟩
 refine jR (Q:=fun ex ρ ww=>ex=.normal∧St B w0 ww ((bd,kdO c none 0 0)::(b2,kdO 0 none 0 0)::(bo,kR cur)::(zV (e::r)++T))∧Is [(0,.string form),(2,.pointer (some ⟨b2,0,none⟩)),(3,.bool false),(4,.slice (some ⟨bo,0,none⟩) (r.length+1) cap),(6,.pointer (some ⟨bd,0,none⟩)),(7,.int .i64 (r.length:Int)),(16,.int .i64 (form.size:Int)),(17,.int .i64 (i:Int)),(28,.int .u8 (c:Int)),(30,.bool lb)] ρ) ?_ ?_
 ·by_cases h110:c=110
  ·refine rS [.E (.bool ((c:Int)==110)) (.bool true) (za (beq_iff_eq.2 (by omega))),.v] H8 kr fun gsa110 wa110 Ha110=>zj kr kr<|zn kr ?_;obtain rfl:lb=true:=by rw [←hlb];exact decide_eq_true (by omega)
   exact ⟨rfl,Ha110.as kr,(Is.of ⟨kr,kr,kr,kr,kr,kr,kr,kr,kr,kr,trivial⟩)⟩
  ·refine rS [.E (.bool ((c:Int)==110)) (.bool false) (za (beq_eq_false_iff_ne.2 (by omega))),.v] H8 kr fun gsb110 wb110 Hb110=>zl kr kr ?_;by_cases h104:c=104
   ·refine rS [.E (.bool ((c:Int)==104)) (.bool true) (za (beq_iff_eq.2 (by omega))),.v] Hb110 kr fun gsa104 wa104 Ha104=>zj kr kr<|zn kr ?_;obtain rfl:lb=true:=by rw [←hlb];exact decide_eq_true (by omega)
    exact ⟨rfl,Ha104.as kr,(Is.of ⟨kr,kr,kr,kr,kr,kr,kr,kr,kr,kr,trivial⟩)⟩
   ·refine rS [.E (.bool ((c:Int)==104)) (.bool false) (za (beq_eq_false_iff_ne.2 (by omega))),.v] Hb110 kr fun gsb104 wb104 Hb104=>zl kr kr ?_;by_cases h97:c=97
    ·refine rS [.E (.bool ((c:Int)==97)) (.bool true) (za (beq_iff_eq.2 (by omega))),.v] Hb104 kr fun gsa97 wa97 Ha97=>zj kr kr<|zn kr ?_;obtain rfl:lb=true:=by rw [←hlb];exact decide_eq_true (by omega)
     exact ⟨rfl,Ha97.as kr,(Is.of ⟨kr,kr,kr,kr,kr,kr,kr,kr,kr,kr,trivial⟩)⟩
    ·refine rS [.E (.bool ((c:Int)==97)) (.bool false) (za (beq_eq_false_iff_ne.2 (by omega))),.v] Hb104 kr fun gsb97 wb97 Hb97=>zl kr kr ?_;by_cases h115:c=115
     ·refine rS [.E (.bool ((c:Int)==115)) (.bool true) (za (beq_iff_eq.2 (by omega))),.v] Hb97 kr fun gsa115 wa115 Ha115=>zj kr kr<|zn kr ?_;obtain rfl:lb=true:=by rw [←hlb];exact decide_eq_true (by omega)
      exact ⟨rfl,Ha115.as kr,(Is.of ⟨kr,kr,kr,kr,kr,kr,kr,kr,kr,kr,trivial⟩)⟩
     ·refine rS [.E (.bool ((c:Int)==115)) (.bool false) (za (beq_eq_false_iff_ne.2 (by omega))),.v] Hb97 kr fun gsb115 wb115 Hb115=>zl kr kr ?_;by_cases h98:c=98
      ·refine rL [.E (.bool ((c:Int)==98)) (.bool true) (za (beq_iff_eq.2 (by omega))),.v] Hb115 kr fun gsa98 wa98 Ha98=>?_;obtain rfl:lb=true:=by rw [←hlb];exact decide_eq_true (by omega)
       exact ⟨rfl,Ha98.as kr,(Is.of ⟨kr,kr,kr,kr,kr,kr,kr,kr,kr,kr,trivial⟩)⟩
      ·refine rL [.E (.bool ((c:Int)==98)) (.bool false) (za (beq_eq_false_iff_ne.2 (by omega))),.v] Hb115 kr fun gsb98 wb98 Hb98=>?_;obtain rfl:lb=false:=by rw [←hlb];exact decide_eq_false (by omega)
       exact ⟨rfl,Hb98.as kr,(Is.of ⟨kr,kr,kr,kr,kr,kr,kr,kr,kr,kr,trivial⟩)⟩
 rintro _ _ w7 ⟨rfl,H9,_,rfl⟩;refine wW ?_;cases lb with
 | true=>
  have hst:qq (by_ form i) (stM (e::r))=some (jo c .nil (stM (e::r))):=by
   rw [hc];unfold qq;rw [if_pos (of_decide_eq_true hlb)]
  refine zj kr kr<|zn kr<|wW<|zc4 form b2 bd i _ hi40 (r.length+1) _ _ ⟨e::r,r.length+1,c,none,0,0,.nil,T,bo,cap,cur,rfl,rfl,hBot,hN5,hS,RIn.none _ _,rfl,hRw,H9,(Is.of ⟨kr,kr,kr,kr,kr,kr,kr,trivial⟩)⟩ ?_;intro S' N' T' bo' cap' cur' ρ' ww' h1 h2 h3 h4 h5 h6 h7 h8;exact hQ S' N' T' bo' cap' cur' ρ' ww' h1 h2 h3 h4 (by rw [hst,h5]) h6 h7 h8
 | false=>
  have hnl:=of_decide_eq_false hlb;refine zl kr kr<|zd kr ?_;obtain ⟨gb,hgb⟩:∃gb,decide (c=40∨c=42)=gb:=⟨_,rfl⟩
  refine jR (Q:=fun ex ρ ww=>ex=.normal∧St B w0 ww ((bd,kdO c none 0 0)::(b2,kdO 0 none 0 0)::(bo,kR cur)::(zV (e::r)++T))∧Is [(0,.string form),(2,.pointer (some ⟨b2,0,none⟩)),(3,.bool false),(4,.slice (some ⟨bo,0,none⟩) (r.length+1) cap),(6,.pointer (some ⟨bd,0,none⟩)),(7,.int .i64 (r.length:Int)),(16,.int .i64 (form.size:Int)),(17,.int .i64 (i:Int)),(28,.int .u8 (c:Int)),(36,.bool gb)] ρ) ?_ ?_
  ·by_cases h40:c=40
   ·refine rS [.E (.bool ((c:Int)==40)) (.bool true) (za (beq_iff_eq.2 (by omega))),.v] H9 kr fun gsa40 wa40 Ha40=>zj kr kr<|zn kr ?_;obtain rfl:gb=true:=by rw [←hgb];exact decide_eq_true (by omega)
    exact ⟨rfl,Ha40.as kr,(Is.of ⟨kr,kr,kr,kr,kr,kr,kr,kr,kr,kr,trivial⟩)⟩
   ·refine rS [.E (.bool ((c:Int)==40)) (.bool false) (za (beq_eq_false_iff_ne.2 (by omega))),.v] H9 kr fun gsb40 wb40 Hb40=>zl kr kr ?_;by_cases h42:c=42
    ·refine rL [.E (.bool ((c:Int)==42)) (.bool true) (za (beq_iff_eq.2 (by omega))),.v] Hb40 kr fun gsa42 wa42 Ha42=>?_;obtain rfl:gb=true:=by rw [←hgb];exact decide_eq_true (by omega)
     exact ⟨rfl,Ha42.as kr,(Is.of ⟨kr,kr,kr,kr,kr,kr,kr,kr,kr,kr,trivial⟩)⟩
    ·refine rL [.E (.bool ((c:Int)==42)) (.bool false) (za (beq_eq_false_iff_ne.2 (by omega))),.v] Hb40 kr fun gsb42 wb42 Hb42=>?_;obtain rfl:gb=false:=by rw [←hgb];exact decide_eq_false (by omega)
     exact ⟨rfl,Hb42.as kr,(Is.of ⟨kr,kr,kr,kr,kr,kr,kr,kr,kr,kr,trivial⟩)⟩
  rintro _ _ w8 ⟨rfl,H10,_,rfl⟩;refine wW ?_;cases gb with
  | true=>
   have hyes:=of_decide_eq_true hgb;refine zj kr kr<|zd kr ?_;by_cases h4:r.length=4
   ·refine zd kr<|rL [.v,.E (.bool ((r.length:Int)==4)) (.bool true) (za (beq_iff_eq.2 (by omega)))] H10 kr fun gs6 w9 H11=>wW<|zj kr kr<|rS [.v,.s 1,.v] H11 kr fun gs7 w10 H12=>zm kr ?_;have H13:St B w0 w10 ((bd,kdO c none 0 0)::(b2,kdO 0 none 0 0)::(bo,kR cur)::(zV (e::r)++T)):=H12.as kr;refine hbad ?_ _ w10 bd _ _ H13 kr kr;rw [hc];unfold qq;rw [if_neg hnl,if_pos hyes,if_pos];show ((e::r).map _).length=5;rw [List.length_map,List.length_cons,h4]
   ·refine zd kr<|rL [.v,.E (.bool ((r.length:Int)==4)) (.bool false) (za (beq_eq_false_iff_ne.2 (by omega)))] H10 kr fun gs6 w9 H11=>wW<|zl kr kr<|zn kr<|wW<|zf [0,1,2,3,4] kr kr<|rp [.v,.l 0] H11 kr fun gs7 w10 H12=>wX [2,3,4] ?_;have H13:St B w0 w10 ((bd,kdO c none 0 0)::(b2,kdO 0 none 0 0)::(bo,kR cur)::(zV (e::r)++T)):=H12.as kr;refine zek H13 (some 44) (fun b=>.slice (some ⟨b,0,none⟩) 1 1) #[.int .u8 (c:Int),.slice none 0 0] 62 (fun w=>by kernel_rfl) kr ?_;intro bn w11 H14;refine zeJ (K':=2) H14 (some 45) 60 62 32 (.tmp 42) (.tmp 44) 3 0 bo bn (r.length+1) cap 1 cur #[.int .u8 (c:Int),.slice none 0 0] (zG kS (opE (e::r))) kr kr kr kr kr hRw kr kr rfl (jm rfl) (by omega) (by unfold maxLen;omega) ?_;intro b' cap' cur' w12 H15 hr';have H16:St B w0 w12 ((bn,kR #[.int .u8 (c:Int),.slice none 0 0])::(bd,kdO c none 0 0)::(b2,kdO 0 none 0 0)::(b',kR cur')::(zV (e::r)++T)):=H15;refine rp [.v] H16 kr fun gs8 w13 H17=>wX []<|zb<|yE 1 kr ?_;show Q (.exit 1) _ _;have H18:St B w0 w13 ((bn,kR #[.int .u8 (c:Int),.slice none 0 0])::(bd,kdO c none 0 0)::(b2,kdO 0 none 0 0)::(b',kR cur')::(zV (e::r)++T)):=H17.as kr;refine hQ (⟨c,none,0,0,[],[]⟩::e::r) (r.length+2) T b' cap' cur' _ _ rfl (.inr hBot) (by omega) ?_ ?_ ?_ (H18.sub (List.Sublist.cons _ (List.sublist_cons_self ..))) (Is.of ⟨kr,kr,kr,kr,kr,kr,trivial⟩)
    ·intro x hx;rcases List.mem_cons.1 hx with rfl | hx
     ·exact ⟨.inl ⟨rfl,rfl,rfl,rfl,rfl⟩,(fun _ h=>nomatch h),Nat.zero_le _⟩
     ·exact (hS x hx).mono (fun _ h=>h) (Nat.le_succ _)
    ·rw [hc];unfold qq;rw [if_neg hnl,if_pos hyes,if_neg]
     ·rfl
     ·show ¬((e::r).map _).length=5;rw [List.length_map,List.length_cons];omega
    ·rw [xy];exact hr'
  | false=>
   have hno:=of_decide_eq_false hgb;refine zl kr kr ?_;by_cases h41:c=41
   ·refine rS [.E (.bool ((c:Int)==41)) (.bool true) (za (beq_iff_eq.2 (by omega))),.v] H10 kr fun gs6 w9 H11=>zj kr kr<|zd kr<|zd kr ?_;by_cases hr0:r.length=0
    ·refine rL [.v,.E (.bool ((r.length:Int)==0)) (.bool true) (za (beq_iff_eq.2 (by omega))),.v,.n,.n,.n,.n,.n,.n,.v] H11 kr fun gs7 w10 H12=>wW<|zj kr kr<|rS [.v,.s 1,.v] H12 kr fun gs8 w11 H13=>zm kr ?_;have H14:St B w0 w11 ((bd,kdO c none 0 0)::(b2,kdO 0 none 0 0)::(bo,kR cur)::(zV (e::r)++T)):=H13.as kr;refine hbad ?_ _ w11 bd _ _ H14 kr kr;rw [hc];unfold qq;rw [if_neg hnl,if_neg hno,if_pos h41];show (if (r.map _).length=0∨e.g≠40 then none else some _)=none;rw [if_pos (.inl (by rw [List.length_map];exact hr0))]
    ·by_cases h40:e.g=40
     ·refine rL [.v,.E (.bool ((r.length:Int)==0)) (.bool false) (za (beq_eq_false_iff_ne.2 (by omega))),.v,.v,.v,.o (ins:=[((.tmp 51),.slice (some ⟨bo,0,none⟩) (r.length+1) cap),((.tmp 52),.int .i64 (r.length:Int))]) (v:=.pointer (some ⟨bo,0+r.length*2,none⟩)) (fun ρ o w ho hi2=>yI (kd:=.i64) (t:=60) (e:=62) (K:=2) (bytes:=32) kr (x:=(.tmp 51)) (y:=(.tmp 52)) bo 0 (r.length+1) cap r.length rfl ho hi2.1 hi2.2.1 (by omega) w),.v,.ls 2 (C:=cur) (off:=0+r.length*2) (v:=.int .u8 ((e.g:Nat):Int)) htop.2.2.1,.E (.bool (!(((e.g:Nat):Int)==40))) (.bool false) (za (by rw [h40];rfl)),.v] H11 kr fun gs7 w10 H12=>wW<|zl kr kr<|zn kr<|wW<|dL [.v,.v,.o (ins:=[((.tmp 59),.slice (some ⟨bo,0,none⟩) (r.length+1) cap),((.tmp 60),.int .i64 (r.length:Int))]) (v:=.pointer (some ⟨bo,0+r.length*2,none⟩)) (fun ρ o w ho hi2=>yI (kd:=.i64) (t:=60) (e:=62) (K:=2) (bytes:=32) kr (x:=(.tmp 59)) (y:=(.tmp 60)) bo 0 (r.length+1) cap r.length rfl ho hi2.1 hi2.2.1 (by omega) w),.lp 2 (C:=cur) (off:=0+r.length*2) (n:=2) (W:=#[.int .u8 ((e.g:Nat):Int),.slice e.p e.n e.c]) htop.1 htop.2.1,.v,.v,.o (ins:=[((.tmp 63),.slice (some ⟨bo,0,none⟩) (r.length+1) cap),((.tmp 64),.int .i64 (r.length:Int))]) (v:=.slice (some ⟨bo,0,none⟩) r.length cap) (fun ρ o w ho hi2=>zbk (kd:=.i64) (t:=60) (e:=62) (size:=2) (bytes:=32) kr (x:=(.tmp 63)) (y:=(.tmp 64)) bo (r.length+1) cap r.length ho hi2.1 hi2.2.1 (by omega) w),.s 0,.v] H12 kr fun w11 H13=>wW ?_;have H14:St B w0 w11 ((bd,kdO e.g e.p e.n e.c)::(b2,kdO 0 none 0 0)::(bo,kR cur)::(e.row++(zV r++T))):=by
       rw [←List.append_assoc];exact H13.as kr
      have hBr:Bot r:=by
       rcases hBot with ⟨h,_⟩|h
       ·rw [h] at hr0;exact absurd rfl hr0
       ·exact h
      have hst:qq (by_ form i) (stM (e::r))=some (jo e.g (yc e.M) (stM r)):=by
       rw [hc];unfold qq;rw [if_neg hnl,if_neg hno,if_pos h41];show (if (r.map _).length=0∨e.g≠40 then none else some (jo e.g (yc e.M) (stM r)))=_;rw [if_neg (by rw [List.length_map];exact fun h=>h.elim hr0 (fun h=>h h40))]
      refine zc4 form b2 bd i _ hi40 r.length _ _ ⟨r,r.length,e.g,e.p,e.n,e.c,yc e.M,e.row++T,bo,cap,cur,rfl,rfl,hBr,by omega,fun x hx=>(hS x (List.mem_cons_of_mem _ hx)).mono (fun y hy=>List.mem_append_right _ hy) (Nat.le_refl _),he.row.rIn (by decide) he.all (by have:=he.le;show e.n≤1000;omega),rfl,Rw.pop (xy _ _▸hRw) (vR r),H14.perm (List.Perm.cons _ (List.Perm.cons _ (List.Perm.cons _ (List.perm_append_comm_assoc (zV r) e.row T)))),(Is.of ⟨kr,kr,kr,kr,kr,kr,kr,trivial⟩)⟩ ?_;intro S' N' T' bo' cap' cur' ρ' ww' h1 h2 h3 h4 h5 h6 h7 h8;exact hQ S' N' T' bo' cap' cur' ρ' ww' h1 h2 h3 h4 (by rw [hst,h5]) h6 h7 h8
     ·refine rL [.v,.E (.bool ((r.length:Int)==0)) (.bool false) (za (beq_eq_false_iff_ne.2 (by omega))),.v,.v,.v,.o (ins:=[((.tmp 51),.slice (some ⟨bo,0,none⟩) (r.length+1) cap),((.tmp 52),.int .i64 (r.length:Int))]) (v:=.pointer (some ⟨bo,0+r.length*2,none⟩)) (fun ρ o w ho hi2=>yI (kd:=.i64) (t:=60) (e:=62) (K:=2) (bytes:=32) kr (x:=(.tmp 51)) (y:=(.tmp 52)) bo 0 (r.length+1) cap r.length rfl ho hi2.1 hi2.2.1 (by omega) w),.v,.ls 2 (C:=cur) (off:=0+r.length*2) (v:=.int .u8 ((e.g:Nat):Int)) htop.2.2.1,.E (.bool (!(((e.g:Nat):Int)==40))) (.bool true) (za (by rw [beq_eq_false_iff_ne.2 (by omega)];rfl)),.v] H11 kr fun gs7 w10 H12=>wW<|zj kr kr<|rS [.v,.s 1,.v] H12 kr fun gs8 w11 H13=>zm kr ?_;have H14:St B w0 w11 ((bd,kdO c none 0 0)::(b2,kdO 0 none 0 0)::(bo,kR cur)::(zV (e::r)++T)):=H13.as kr;refine hbad ?_ _ w11 bd _ _ H14 kr kr;rw [hc];unfold qq;rw [if_neg hnl,if_neg hno,if_pos h41];show (if (r.map _).length=0∨e.g≠40 then none else some _)=none;rw [if_pos (.inr h40)]
   ·refine rS [.E (.bool ((c:Int)==41)) (.bool false) (za (beq_eq_false_iff_ne.2 (by omega))),.v] H10 kr fun gs6 w9 H11=>zl kr kr<|rS [.v,.s 1,.v] H11 kr fun gs7 w10 H12=>zm kr ?_;have H13:St B w0 w10 ((bd,kdO c none 0 0)::(b2,kdO 0 none 0 0)::(bo,kR cur)::(zV (e::r)++T)):=H12.as kr;refine hbad ?_ _ w10 bd _ _ H13 kr kr;rw [hc];unfold qq;rw [if_neg hnl,if_neg hno,if_neg h41]
theorem xx.cases {t:ByteArray}{v:Value}{T:List (Nat×Obj)}(h:xx t v T):(∃(l:Bool) (s:ByteArray) (p:Option Addr) (n c:Nat) (k:Fo),v=.tuple #[.agg #[.bool l,.string s,.slice p n c],.int .i64 0]∧yj t l s k ⟨#[]⟩∧SlIn T p n k∧s.size≤t.size∧dp1 l (dpF k)≤8∧t.size≤4000)∨(∃e:Int,e≠0∧v=erV e∧T=[]):=by
 rcases h with ⟨_,rfl,rfl⟩|⟨h4,⟨l,s,p,n,c,k,rfl,h1,h2,h3,h5⟩|⟨_,_,_,_,_,rfl,rfl⟩|⟨_,rfl,rfl⟩⟩
 ·exact .inr ⟨2,by decide,rfl,rfl⟩
 ·exact .inl ⟨l,s,p,n,c,k,rfl,h1,h2,h3,h5,h4⟩
 ·exact .inr ⟨5,by decide,rfl,rfl⟩
 ·exact .inr ⟨4,by decide,rfl,rfl⟩
theorem zhh {l:Bool}{s:ByteArray}{k:Fo}{v:Value}{T:List (Nat×Obj)}(h0:(zP l s k.len k).2=0)(h:xx (zP l s k.len k).1 v T):∃(p:Option Addr) (n c:Nat),v=.tuple #[.agg #[.bool l,.string s,.slice p n c],.int .i64 0]∧SlIn T p n k:=by
 obtain ⟨he,hm,hp,hc,hd,hz,hl⟩:=kg h0;have hsz:(zP l s k.len k).1.size=(wr1 l s (szF k) (wrF k)).length:=by rw [he,ql]
 have htl:tl (zP l s k.len k).1=wr1 l s (szF k) (wrF k):=by rw [he,jg]
 have hpay:=vy hm hz;have key: ∀(l2:Bool) (s2:ByteArray) (k2:Fo),yj (zP l s k.len k).1 l2 s2 k2 ⟨#[]⟩→l=l2∧s=s2∧k=k2:=fun l2 s2 k2 ⟨hm2,hp2,hi2⟩=>by
  have hi3:wr1 l s (szF k) (wrF k)++ []=wr1 l2 s2 (szF k2) (wrF k2)++ []:=by rw [List.append_nil,←htl,hi2];rfl
  have hlen:=congrArg List.length hi3;rw [List.length_append,List.length_append,hl,qm hm2 (zR hp2)] at hlen;have hpay2:=vy hm2 (show sz1 l2 s2 (szF k2)≤4000 by simp only [List.length_nil] at hlen;omega);obtain ⟨a,b,c,_⟩:=kf hm hm2 (zR hp).symm (zR hp2).symm (by omega) (by omega) (fun q=>xu k k2 hp hp2 (by rw [zR hp];omega) q) hi3;exact ⟨a,b,c⟩
 rcases h with ⟨h4,_⟩|⟨_,⟨l2,s2,p,n,c,k2,rfl,h1,h2,_⟩|⟨l2,s2,k2,h1,h2,_⟩|⟨hb,_⟩⟩
 ·omega
 ·obtain ⟨rfl,rfl,rfl⟩:=key l2 s2 k2 h1;exact ⟨p,n,c,rfl,h2⟩
 ·obtain ⟨rfl,rfl,rfl⟩:=key l2 s2 k2 h1;omega
 ·exact absurd htl (hb l s k hm hp)
theorem yj.inj {t:ByteArray}{l l':Bool}{s s':ByteArray}{k k':Fo}(ht:t.size≤4000)(h:yj t l s k ⟨#[]⟩)(h':yj t l' s' k' ⟨#[]⟩):l=l'∧s=s'∧k=k':=by
 obtain ⟨hm,hp,hi⟩:=h;obtain ⟨hm2,hp2,hi2⟩:=h';have hlen:=congrArg List.length hi;have hlen2:=congrArg List.length hi2;rw [zv,List.length_append,qm hm (zR hp)] at hlen;rw [zv,List.length_append,qm hm2 (zR hp2)] at hlen2;have h1:=vy hm (show sz1 l s (szF k)≤4000 by omega);have h2:=vy hm2 (show sz1 l' s' (szF k')≤4000 by omega);obtain ⟨a,b,c,_⟩:=kf hm hm2 (zR hp).symm (zR hp2).symm (by omega) (by omega) (fun q=>xu k k' hp hp2 (by rw [zR hp];omega) q) (hi.symm.trans hi2);exact ⟨a,b,c⟩
theorem zaq {l:Bool}{s t:ByteArray}{k:Fo}(h:zP l s k.len k=(t,0)):yj t l s k ⟨#[]⟩:=by
 obtain ⟨he,hm,hp,_⟩:=kg (show (zP l s k.len k).2=0 by rw [h]);refine ⟨hm,hp,?_⟩;have e:t=zh (wr1 l s (szF k) (wrF k)):=by rw [←he,h]
 rw [e,jg];exact (List.append_nil _).symm
def vS (form:ByteArray)(v:Value)(T:List (Nat×Obj)):Prop:=
 (∃(p:Option Addr) (n c:Nat) (k:Kf),parseM form=some k∧v=.tuple #[knd 40 p n c,.bool true]∧RIn kS T p n k)∨
 (parseM form=none∧∃(g:Nat) (p:Option Addr) (n c:Nat),v=.tuple #[knd g p n c,.bool false])
theorem zhi (s:ByteArray)(i:Nat)(h:i<s.size):(tl s).drop i=(tl s).getD i 0::(tl s).drop (i+1):=by
 have h1:i<(tl s).length:=h;rw [List.drop_eq_getElem_cons h1,List.getD_eq_getElem?_getD,List.getElem?_eq_getElem h1];rfl
theorem zhj: ∀ {S:List Sk},Bot S→1≤S.length
 | [],h=>h.elim
 | e::r,_=>by simp
theorem zc6 (form:ByteArray):FnT Tryz.prog 40 #[.string form] (fun _=>True) (vS form):=by
 refine FnT.intro (c:=zg Tryz.f40) [.cell 2 62,.tmp 3] 101 Tryz.func40 kr kr kr fun w _=>?_;have H0:=St.start w;refine rS [.a,.v] H0 kr fun gs1 w1 H1=>?_;clear H0;refine zeH kr<|zd kr ?_;by_cases h40:40<form.size
 ·refine rS [.v,.v,.E (.bool (decide ((40:Int)<(ByteArray.size form:Int)))) (.bool true) (za (decide_eq_true (by omega)))] H1 kr fun gs2 w2 H2=>zj kr kr<|rS [.v,.s 0,.v] H2 kr fun gs3 w3 H3=>rRr [.cell 2 62,.tmp 3] [0] (.tuple #[knd 0 none 0 0,.bool false]) (yn w.heap.size w (vS form)) H3 kr ?_;exact ⟨[],.inr ⟨by unfold parseM;rw [if_pos h40],_,_,_,_,rfl⟩,H3.sub (List.nil_sublist _)⟩
 ·refine rS [.v,.v,.E (.bool (decide ((40:Int)<(ByteArray.size form:Int)))) (.bool false) (za (decide_eq_false (by omega)))] H1 kr fun gs2 w2 H2=>zl kr kr<|zn kr<|wW<|rS [.v,.nw (fun b=>.slice (some ⟨b,0,none⟩) 1 1) #[.int .u8 40,.slice none 0 0] 62,.v] H2 kr fun gs3 w3 H3=>zd kr<|zeI 0 kr<|wW<|zd kr<|rS [.v,.v,.v] H3 kr fun gs4 w4 H4=>zA 0 kr ?_;have H5:St w.heap.size w w4 (((gs1 0).b,kdO 0 none 0 0)::((gs3 1).b,kR #[.int .u8 40,.slice none 0 0])::(zV [⟨40,none,0,0,[],[]⟩]++ [])):=H4.as kr;have hpm:parseM form=match jK (tl form) [(40,.nil)] with | some [(_,m)]=>some m | _=>none:=by unfold parseM;rw [if_neg h40]<;>rfl
  clear H1 H2 H3 H4;refine yV kr (fun mz ρ ww=> ∃(i:Nat) (st:List (Nat×Kf)),form.size-i=mz∧i≤form.size∧jK ((tl form).drop i) st=jK (tl form) [(40,.nil)]∧zhf w.heap.size w form (gs1 0).b i st ρ ww) (form.size-0)
   ⟨0,[(40,.nil)],rfl,Nat.zero_le _,rfl,[⟨40,none,0,0,[],[]⟩],1,[],(gs3 1).b,1,#[.int .u8 40,.slice none 0 0],rfl,.inl ⟨rfl,rfl⟩,by decide,(fun x hx=>by
    obtain rfl:=List.mem_singleton.1 hx
    exact ⟨.inl ⟨rfl,rfl,rfl,rfl,rfl⟩,(fun _ h=>nomatch h),Nat.zero_le _⟩),rfl,⟨rfl,Nat.le_refl _,by unfold maxLen;omega,rfl,rfl⟩,H5,(Is.of ⟨kr,kr,kr,kr,kr,kr,trivial⟩)⟩ ?_
  clear H5;rintro _ _ w5 ⟨i,_,rfl,hi,hst,S,N,T,bo,cap,cur,hN,hBot,hN5,hS,rfl,hRw,H6,_,rfl⟩;by_cases hlt:i<form.size
  ·refine rS [.E (.bool (decide ((i:Int)<(form.size:Int)))) (.bool true) (za (decide_eq_true (by omega)))] H6 kr fun gs5 w6 H7=>zd kr<|zj kr kr<|zn kr<|wW<|zd kr<|zA 1 kr ?_;have H8:St w.heap.size w w6 (((gs1 0).b,kdO 0 none 0 0)::(bo,kR cur)::(zV S++T)):=H7.as kr;have hstep: ∀x,qq (by_ form i) (stM S)=x→jK (tl form) [(40,.nil)]=match x with | none=>none | some st'=>jK ((tl form).drop (i+1)) st':=fun x hx=>by
    rw [←hst,zhi form i hlt,←hx];rfl
   refine zhg form (gs1 0).b i (by omega) hlt (by omega) S N T bo cap cur hN hBot hN5 hS hRw _ w6 H8 (Is.of ⟨kr,kr,kr,kr,kr,kr,trivial⟩) ?_ ?_
   ·intro hn ρ ww bd o l HS h3 h2;refine wV ?_;refine ⟨[.agg #[.int .u8 0,.slice none 0 0],.bool false],(.agg (b:=(gs1 0).b) #[.int .u8 0,.slice none 0 0] 62 (0,0) h2 (HS.get 1 kr) kr (.tmp (.bool false) h3 .nil)),[],.inr ⟨?_,0,none,0,0,rfl⟩,HS.sub (List.nil_sublist _)⟩;rw [hpm,hstep _ hn]
   ·intro S' N' T' bo' cap' cur' ρ ww h1 h2 h3 h4 h5 h6 h7 ⟨_,h8⟩;subst h8;refine wW<|rL [.E (.int .i64 (IntKind.i64.wrap ((i:Int)+1))) (.int .i64 ((i+1:Nat):Int)) (zr (qv (a:=i) (b:=1) (by omega))),.v] h7 kr fun gs6 w7 H9=>?_;show ∃m,_∧_;exact ⟨_,(by omega),i+1,stM S',rfl,hlt,(hstep _ h5).symm,S',N',T',bo',cap',cur',h1,h2,h3,h4,rfl,h6,H9.as kr,(Is.of ⟨kr,kr,kr,kr,kr,kr,trivial⟩)⟩
  ·obtain rfl:i=form.size:=by omega
   refine rS [.E (.bool (decide ((form.size:Int)<(form.size:Int)))) (.bool false) (za (decide_eq_false (by omega)))] H6 kr fun gs5 w6 H7=>zd kr<|zl kr kr<|yE 0 kr<|wW ?_;have hb1:=zhj hBot;have hend:jK (tl form) [(40,.nil)]=some (stM S):=by
    rw [←hst,List.drop_of_length_le (by rw [zv];exact Nat.le_refl _)];rfl
   rw [hend] at hpm;obtain ⟨x,hx⟩:∃x,(opE S)[0]? =some x:=⟨_,List.getElem?_eq_getElem (by rw [zap];omega)⟩
   have hat:=hRw.atE (S:=kS) hx;by_cases h1:N=1
   ·refine rS [.v,.o (ins:=[((.tmp 95),.slice (some ⟨bo,0,none⟩) N cap),((.const (.int .i64 0)),.int .i64 0)]) (v:=.pointer (some ⟨bo,0+0*2,none⟩)) (fun ρ o w ho hi2=>yI (kd:=.i64) (t:=60) (e:=62) (K:=2) (bytes:=32) kr (x:=(.tmp 95)) (y:=(.const (.int .i64 0))) bo 0 N cap 0 rfl ho hi2.1 hi2.2.1 (by omega) w),.lp 1 (C:=cur) (off:=0*2) (n:=2) (W:=#[.int .u8 ((x.a:Nat):Int),.slice x.p x.n x.c]) hat.1 hat.2,.v,.v,.E (.bool ((N:Int)==1)) (.bool true) (za (beq_iff_eq.2 (by omega))),.s 0,.v] H7 kr fun gs6 w7 H8=>rRr [.cell 2 62,.tmp 3] [0] (.tuple #[knd x.a x.p x.n x.c,.bool true]) (yn w.heap.size w (vS form)) H8 kr ?_;have H9:St w.heap.size w w7 (((gs1 0).b,kdO x.a x.p x.n x.c)::(bo,kR cur)::(zV S++T)):=H8.as kr;rcases S with _ | ⟨e,_ | ⟨e',r⟩⟩
    ·exact hBot.elim
    ·obtain rfl:e.el=x:=by simpa [opE] using hx
     have he:=hS e (List.mem_cons_self ..);have hg:e.g=40:=by
      rcases hBot with ⟨_,h⟩|h
      ·exact h
      ·exact h.elim
     refine ⟨e.row++T,.inl ⟨e.p,e.n,e.c,yc e.M,?_,?_,he.row.rIn (by decide) he.all (by have:=he.le;show e.n≤1000;omega)⟩,?_⟩
     ·rw [hpm];rfl
     ·show Value.tuple #[knd e.g e.p e.n e.c,.bool true]=_;rw [hg]
     ·have H10:=H9.sub (List.Sublist.cons _ (List.sublist_cons_self ..));have e2:zV [e]++T=e.row++T:=by show (e.row++ [])++T=_;rw [List.append_nil]
      rw [e2] at H10;exact H10
    ·exact absurd (hN.symm.trans h1) (by simp)
   ·refine rS [.v,.o (ins:=[((.tmp 95),.slice (some ⟨bo,0,none⟩) N cap),((.const (.int .i64 0)),.int .i64 0)]) (v:=.pointer (some ⟨bo,0+0*2,none⟩)) (fun ρ o w ho hi2=>yI (kd:=.i64) (t:=60) (e:=62) (K:=2) (bytes:=32) kr (x:=(.tmp 95)) (y:=(.const (.int .i64 0))) bo 0 N cap 0 rfl ho hi2.1 hi2.2.1 (by omega) w),.lp 1 (C:=cur) (off:=0*2) (n:=2) (W:=#[.int .u8 ((x.a:Nat):Int),.slice x.p x.n x.c]) hat.1 hat.2,.v,.v,.E (.bool ((N:Int)==1)) (.bool false) (za (beq_eq_false_iff_ne.2 (by omega))),.s 0,.v] H7 kr fun gs6 w7 H8=>rRr [.cell 2 62,.tmp 3] [0] (.tuple #[knd x.a x.p x.n x.c,.bool false]) (yn w.heap.size w (vS form)) H8 kr ?_;refine ⟨[],.inr ⟨?_,_,_,_,_,rfl⟩,H8.sub (List.nil_sublist _)⟩;rw [hpm];rcases S with _ | ⟨e,_ | ⟨e',r⟩⟩
    ·exact hBot.elim
    ·exact absurd hN h1
    ·rfl
def jr (x:ByteArray×Nat):Value:=.tuple #[.string x.1,.int .i64 ((x.2:Nat):Int)]
theorem zc7 (g:Nat)(p:Option Addr)(n c:Nat)(b:Kf)(m:Nat)(s:ByteArray)(p2:Option Addr)(n2 c2:Nat)(l:Fe)(hm:m<0x10000000000000000)(hs:s.size≤0x800000000000):
 FnP Tryz.prog 41 #[knd g p n c,fld m s p2 n2 c2] (fun w=>SlR kS w.heap.size w p n b∧SlR fS w.heap.size w p2 n2 l) (jr (yl g b (m,s) l)):=by
 refine FnP.intro (c:=zg Tryz.f41) [.tmp 4,.tmp 5] 16 Tryz.func41 kr kr kr fun w hpre=>?_;have H0:=St.start w;obtain ⟨hK,hF⟩:=hpre;refine rS [.b,.b,.v,.v] H0 kr fun gs1 w1 H1=>?_;clear H0;refine zd kr ?_;unfold yl;by_cases hl:zM g b (m,s) l 1001<0
 ·rw [if_pos hl];refine rS [.l 0,.l 1,.cp (pre:=fun w=>SlR kS w.heap.size w p n b∧SlR fS w.heap.size w p2 n2 l) (zcX l g p n c b m s p2 n2 c2 1001) [] (fun w hb hd=>⟨hK.call hb,hF.call hb⟩),.E (.bool (decide (zM g b (m,s) l 1001<0))) (.bool true) (za (decide_eq_true hl))] H1 kr fun gs2 w2 H2=>zj kr kr<|rS [.v,.v] H2 kr fun gs3 w3 H3=>?_;exact rR [.tmp 4,.tmp 5] [] (jr (⟨#[]⟩,1)) H3 kr
 ·rw [if_neg hl];refine rS [.l 0,.l 1,.cp (pre:=fun w=>SlR kS w.heap.size w p n b∧SlR fS w.heap.size w p2 n2 l) (zcX l g p n c b m s p2 n2 c2 1001) [] (fun w hb hd=>⟨hK.call hb,hF.call hb⟩),.E (.bool (decide (zM g b (m,s) l 1001<0))) (.bool false) (za (decide_eq_false hl))] H1 kr fun gs2 w2 H2=>zl kr kr<|zn kr<|wW<|zf [0,1,2,3,4,5,6,7] kr kr<|rp [.l 0,.l 1] H2 kr fun gs3 w3 H3=>wX [2,3,4,5,6,7]<|qH H3 (some 12) 66 #[knd g p n c,fld m s p2 n2 c2] (zg8 l g p n c b m s p2 n2 c2 1001 hm (Int.not_lt.1 hl)) ⟨hK.call H3.below,hF.call H3.below⟩ kr kr ?_;intro v T w4 hok H4;obtain ⟨q1,q2,q3,rfl,hsl⟩:=hok;refine yJ H4 (some 13) 65 #[itm (zQ g) (yk g (m,s)) q1 q2 q3] _ _ (zf3 (zQ g) (yk g (m,s)) q1 q2 q3 (zN g b l) (zcZ hs)) (hsl.at H4 fun e he=>List.mem_append_left _ he) (fun w=>by kernel_rfl) kr ?_;intro w5 H5;rw [hsl.1];have H6:=H5.sub (List.nil_sublist _);refine rp [.v,.v,.v,.v] H6 kr fun gs4 w6 H7=>wX []<|zb ?_;exact rR [.tmp 4,.tmp 5] [] (jr (zP (zQ g) (yk g (m,s)) (zN g b l).len (zN g b l))) H7 kr
def wrV (form:ByteArray)(l:Fe):ByteArray×Nat:=match parseM form with
 | none=>(⟨#[]⟩,1)
 | some k=>yl 40 k (0,⟨#[]⟩) l
theorem zhk (form:ByteArray)(p:Option Addr)(n c:Nat)(l:Fe):FnP Tryz.prog 22 #[.string form,.slice p n c] (fun w=>SlR fS w.heap.size w p n l) (jr (wrV form l)):=by
 refine FnP.intro (c:=zg Tryz.f22) [.tmp 4,.tmp 5] 21 Tryz.func22 kr kr kr fun w hF=>?_;have H0:=St.start w;refine rS [.v,.v] H0 kr fun gs1 w1 H1=>?_;clear H0;refine zf [0,1,2,3,4,5,6,7] kr kr<|rp [.v] H1 kr fun gs2 w2 H2=>wX [1,2,3,4,5,6,7]<|qH H2 (some 10) 40 #[.string form] (zc6 form) trivial kr kr ?_;intro v T w3 hok H3;unfold wrV;rcases hok with ⟨q1,q2,q3,k,hp,rfl,hk⟩ | ⟨hp,g',q1,q2,q3,rfl⟩
 ·rw [hp];refine rp [.v,.v,.v] H3 kr fun gs3 w4 H4=>wX [5,6,7] ?_;have H5:St w.heap.size w w4 (T++ []):=H4.as kr;refine zE H5 (some 6) 62 (.agg #[.int .u8 0,.slice none 0 0]) kr kr kr ?_;intro b6 w5 H6;refine rp [.s 0,.v] H6 kr fun gs4 w6 H7=>wX []<|zb<|zd kr<|rS [.v,.v] H7 kr fun gs5 w7 H8=>zl kr kr<|zn kr<|wW<|zf [0,1,2,3,4,5,6,7] kr kr<|rp [.l 0,.v,.v] H8 kr fun gs6 w8 H9=>wX [3,4,5,6,7] ?_;have H10:St w.heap.size w w8 ((b6,kdO 40 q1 q2 q3)::(T++ [])):=H9.as kr;refine yJ H10 (some 18) 41 #[knd 40 q1 q2 q3,fld 0 ⟨#[]⟩ p n c] _ _ (zc7 40 q1 q2 q3 k 0 ⟨#[]⟩ p n c l (by decide) (by decide)) ⟨hk.at H10 fun e he=>List.mem_cons_of_mem _ (List.mem_append_left _ he),hF.call H10.below⟩ (fun w=>by kernel_rfl) kr ?_;intro w9 H11;have H12:=H11.sub (List.nil_sublist _);refine rp [.v,.v,.v,.v] H12 kr fun gs7 w10 H13=>wX []<|zb ?_;exact rR [.tmp 4,.tmp 5] [] (jr (yl 40 k (0,⟨#[]⟩) l)) H13 kr
 ·rw [hp];refine rp [.v,.v,.v] H3 kr fun gs3 w4 H4=>wX [5,6,7] ?_;have H5:St w.heap.size w w4 (T++ []):=H4.as kr;refine zE H5 (some 6) 62 (.agg #[.int .u8 0,.slice none 0 0]) kr kr kr ?_;intro b6 w5 H6;refine rp [.s 0,.v] H6 kr fun gs4 w6 H7=>wX []<|zb<|zd kr<|rS [.v,.v] H7 kr fun gs5 w7 H8=>zj kr kr ?_;have H9:=H8.sub (List.nil_sublist _);refine rS [.v,.v] H9 kr fun gs6 w8 H10=>?_;exact rR [.tmp 4,.tmp 5] [] (jr (⟨#[]⟩,1)) H10 kr
def kq (form s:ByteArray)(v:Value)(T:List (Nat×Obj)):Prop:=
 (∃(p:Option Addr) (n c:Nat) (l:Fe) (k:Kf),parseM form=some k∧v=.tuple #[.slice p n c,.int .i64 0]∧RIn fS T p n l∧yl 40 k (0,⟨#[]⟩) l=(s,0))∨
 (∃e:Int,e≠0∧v=.tuple #[.slice none 0 0,.int .i64 e]∧ ∀(k:Kf) (l:Fe),parseM form=some k→l.all fS.ok→yl 40 k (0,⟨#[]⟩) l≠(s,0))
theorem zhl (l:Bool)(s:ByteArray)(n:Nat)(k:Fo):(zP l s n k).2=0∨(zP l s n k).1=⟨#[]⟩:=by
 unfold zP;split
 ·exact .inr rfl
 ·split
  ·exact .inr rfl
  ·split
   ·exact .inr rfl
   ·exact .inl rfl
theorem jZ {k:Kf}{l:Fe}{s:ByteArray}(h:yl 40 k (0,⟨#[]⟩) l=(s,0)): ¬zM 40 k (0,⟨#[]⟩) l 1001<0∧zP true ⟨#[]⟩ (zN 40 k l).len (zN 40 k l)=(s,0):=by
 unfold yl at h;by_cases hl:zM 40 k (0,⟨#[]⟩) l 1001<0
 ·rw [if_pos hl] at h;exact absurd (congrArg Prod.snd h) Nat.one_ne_zero
 ·rw [if_neg hl] at h;exact ⟨hl,h⟩
theorem zc8 (k:Kf)(l:Fe):(yl 40 k (0,⟨#[]⟩) l).2=0∨(yl 40 k (0,⟨#[]⟩) l).1=⟨#[]⟩:=by
 unfold yl;split
 ·exact .inr rfl
 ·exact zhl ..
theorem zhm {k:Kf}{l:Fe}{s:ByteArray}{v:Value}{T:List (Nat×Obj)}(h:yl 40 k (0,⟨#[]⟩) l=(s,0))(ho:l.all fS.ok)(hd:xx s v T):
 ∃(p:Option Addr) (n c:Nat),v=.tuple #[.agg #[.bool true,.string ⟨#[]⟩,.slice p n c],.int .i64 0]∧SlIn T p n (zN 40 k l)∧yr 40 k (zN 40 k l)=l:=by
 obtain ⟨hl,he⟩:=jZ h;have h1:(zP true ⟨#[]⟩ (zN 40 k l).len (zN 40 k l)).2=0:=by rw [he]
 have h2:xx (zP true ⟨#[]⟩ (zN 40 k l).len (zN 40 k l)).1 v T:=by rw [he];exact hd
 obtain ⟨p,n,c,hv,hT⟩:=zhh h1 h2;exact ⟨p,n,c,hv,hT,(vL (by decide) ho hl).2.2⟩
theorem zhn {t:ByteArray}{l:Bool}{s:ByteArray}{k:Fo}(h:yj t l s k ⟨#[]⟩):t≠⟨#[]⟩:=fun e=>by
 obtain ⟨hm,hp,hi⟩:=h;have h1:=(qU hm hp rfl).1;have h2:=congrArg List.length hi;rw [e,List.length_append] at h2;have h3:(tl (⟨#[]⟩:ByteArray)).length=0:=rfl;omega
theorem zho {form:ByteArray}{ks:List ByteArray}(hK:zcT form ks)(l:Fe):wrV form l=if yX ks l=true∧l.cnt≤1000 then zP true emB (yW l 40 (kfL ks) 0).len (yW l 40 (kfL ks) 0) else (emB,1):=by
 unfold wrV;rw [hK.parse];show yl 40 (kfL ks) (0,⟨#[]⟩) l=_;unfold yl;by_cases h:yX ks l=true∧l.cnt≤1000
 ·rw [if_pos h,if_neg ((zan hK.kd l).2 h)];rfl
 ·rw [if_neg h,if_pos];by_cases hn:zM 40 (kfL ks) (0,⟨#[]⟩) l 1001<0
  ·exact hn
  ·exact absurd ((zan hK.kd l).1 hn) h
theorem qP {ks:List ByteArray}(x:Nat×ByteArray)(l r:Fe)(i:Nat)(hi:i<ks.length):yW (.cons x l r) 40 (kfL ks) i=.cons (zQ (by_ ks[i] 0)) (yk (by_ ks[i] 0) x) (zN (by_ ks[i] 0) (kdB ks[i]) l) (yW r 40 (kfL ks) (i+1)):=by
 rw [vK,zcN,List.getElem?_eq_getElem hi]
abbrev fO (p:Option Addr)(n c:Nat):Obj:=.cells #[wZ,.string ⟨#[]⟩,.slice p n c] 44 (0,0)
theorem zhp (form s:ByteArray)(hs:s.size≤0x800000000000):FnT Tryz.prog 36 #[.string form,.string s] (fun _=>True) (kq form s):=by
 refine FnT.intro (c:=zg Tryz.f36) [.tmp 4,.tmp 5] 42 Tryz.func36 kr kr kr fun w _=>?_;have H0:=St.start w;refine rS [.v,.v] H0 kr fun gs1 w1 H1=>?_;clear H0;refine zf [0,1,2,3,4,5,6,7] kr kr<|rp [.v] H1 kr fun gs2 w2 H2=>wX [1,2,3,4,5,6,7]<|qH H2 (some 15) 40 #[.string form] (zc6 form) trivial kr kr ?_;intro v T w3 hok H3;rcases hok with ⟨q1,q2,q3,k,hp,rfl,hk⟩ | ⟨hp,g',q1,q2,q3,rfl⟩
 ·refine rp [.v,.v,.v] H3 kr fun gs3 w4 H4=>wX [5,6,7] ?_;have H5:St w.heap.size w w4 (T++ []):=H4.as kr;refine zE H5 (some 6) 62 (.agg #[.int .u8 0,.slice none 0 0]) kr kr kr ?_;intro b6 w5 H6;refine rp [.s 0,.v] H6 kr fun gs4 w6 H7=>wX []<|zb<|zd kr<|rS [.v,.v] H7 kr fun gs5 w7 H8=>zl kr kr<|zn kr<|wW<|zf [0,1,2,3,4,5,6,7] kr kr<|rp [.v] H8 kr fun gs6 w8 H9=>wX [1,2,3,4,5,6,7] ?_;have H10:St w.heap.size w w8 ((b6,kdO 40 q1 q2 q3)::(T++ [])):=H9.as kr;refine zcG H10 (some 22) 58 #[.string s] (zgY s hs) kr kr ?_;intro vd Td w9 hdec H11;rcases hdec.cases with ⟨l1,s1,p1,n1,c1,k1,rfl,hit,hsl,hs1,hdp,h4⟩ | ⟨er,her,rfl,rfl⟩
  ·refine rp [.v,.v,.v] H11 kr fun gs7 w10 H12=>wX [5,6,7] ?_;have H13:St w.heap.size w w10 (Td++((b6,kdO 40 q1 q2 q3)::(T++ []))):=H12.as kr;refine zE H13 (some 8) 83 (.agg #[.bool false,.string ⟨#[]⟩,.slice none 0 0]) kr kr kr ?_;intro b8 w11 H14;refine rp [.s 0,.v] H14 kr fun gs8 w12 H15=>wX []<|zb ?_;have H16:St w.heap.size w w12 ((b8,ixO l1 s1 p1 n1 c1)::(Td++((b6,kdO 40 q1 q2 q3)::(T++ [])))):=H15.as kr;have H17:St w.heap.size w w12 ((b6,kdO 40 q1 q2 q3)::(b8,ixO l1 s1 p1 n1 c1)::(Td++T)):=by
    refine H16.perm ?_;rw [List.append_nil];exact (List.Perm.swap _ _ _).trans (List.Perm.cons _ List.perm_middle.symm)
   refine zd kr<|rS [.v,.v] H17 kr fun gs9 w13 H18=>zl kr kr<|zn kr<|wW<|zf [0,1,2,3,4] kr kr<|rp [.l 0,.l 1] H18 kr fun gs10 w14 H19=>wX [2,3,4] ?_;have H20:St w.heap.size w w14 ((b6,kdO 40 q1 q2 q3)::(b8,ixO l1 s1 p1 n1 c1)::(Td++T)):=H19.as kr;have hcnt:=hit.sz.2;refine qH H20 (some 30) 59 #[knd 40 q1 q2 q3,itm l1 s1 p1 n1 c1] (zhd k1 40 q1 q2 q3 k l1 s1 p1 n1 c1 (by omega) (by omega)) ⟨hk.at H20 fun e he=>List.mem_cons_of_mem _ (List.mem_cons_of_mem _ (List.mem_append_right _ he)),hsl.at H20 fun e he=>List.mem_cons_of_mem _ (List.mem_cons_of_mem _ (List.mem_append_left _ he))⟩ kr kr ?_;intro vf Tf w15 hfld H21;obtain ⟨pf,nf,cf,rfl,hTf⟩:=hfld;refine zE H21 (some 10) 44 (.agg #[wZ,.string ⟨#[]⟩,.slice none 0 0]) kr kr kr ?_;intro b10 w16 H22;refine rp [.s 0] H22 kr fun gs11 w17 H23=>wX []<|zb ?_;have H24:St w.heap.size w w17 ((b10,fO pf nf cf)::(Tf++((b6,kdO 40 q1 q2 q3)::(b8,ixO l1 s1 p1 n1 c1)::(Td++T)))):=H23.as kr;have H25:St w.heap.size w w17 ((b10,fO pf nf cf)::(b6,kdO 40 q1 q2 q3)::(b8,ixO l1 s1 p1 n1 c1)::(Tf++(Td++T))):=
    H24.perm (List.Perm.cons _ (List.perm_append_comm_assoc Tf [(b6,kdO 40 q1 q2 q3),(b8,ixO l1 s1 p1 n1 c1)] (Td++T)).symm)
   refine zd kr<|zf [0,1,2,3,4,5,6,7] kr kr<|rp [.l 1,.l 0] H25 kr fun gs12 w18 H26=>wX [2,3,4,5,6,7] ?_;have H27:St w.heap.size w w18 ((b10,fO pf nf cf)::(b6,kdO 40 q1 q2 q3)::(b8,ixO l1 s1 p1 n1 c1)::(Tf++(Td++T))):=H26.as kr;have hmF: ∀e∈Tf,e∈(b10,fO pf nf cf)::(b6,kdO 40 q1 q2 q3)::(b8,ixO l1 s1 p1 n1 c1)::(Tf++(Td++T)):=fun e he=>List.mem_cons_of_mem _ (List.mem_cons_of_mem _ (List.mem_cons_of_mem _ (List.mem_append_left _ he)));have hmK: ∀e∈T,e∈(b10,fO pf nf cf)::(b6,kdO 40 q1 q2 q3)::(b8,ixO l1 s1 p1 n1 c1)::(Tf++(Td++T)):=fun e he=>List.mem_cons_of_mem _ (List.mem_cons_of_mem _ (List.mem_cons_of_mem _ (List.mem_append_right _ (List.mem_append_right _ he))));have hok:=(hTf.at H27 hmF).ok;refine yJ H27 (some 34) 41 #[knd 40 q1 q2 q3,fld 0 ⟨#[]⟩ pf nf cf] _ _ (zc7 40 q1 q2 q3 k 0 ⟨#[]⟩ pf nf cf (yr 40 k k1) (by decide) (by decide)) ⟨hk.at H27 hmK,hTf.at H27 hmF⟩ (fun w=>by kernel_rfl) kr ?_;intro w19 H28;refine rp [.v,.v,.v,.v,.v] H28 kr fun gs13 w20 H29=>wX []<|zb ?_;by_cases hmade:(yl 40 k (0,⟨#[]⟩) (yr 40 k k1)).1=s
   ·refine rS [.v,.v,.E (.bool (!((yl 40 k (0,⟨#[]⟩) (yr 40 k k1)).1.toList==s.toList))) (.bool false) (za (by rw [zD _ _ hmade];rfl))] H29 kr fun gs14 w21 H30=>zl kr kr<|zn kr<|wW<|rS [.v,.l 0,.v,.v] H30 kr fun gs15 w22 H31=>rRr [.tmp 4,.tmp 5] [] (.tuple #[.slice pf nf cf,.int .i64 0]) (yn w.heap.size w (kq form s)) H31 kr ?_;have H32:St w.heap.size w w22 ((b10,fO pf nf cf)::(b6,kdO 40 q1 q2 q3)::(b8,ixO l1 s1 p1 n1 c1)::(Tf++(Td++T))):=H31.as kr;refine ⟨Tf,.inl ⟨pf,nf,cf,yr 40 k k1,k,hp,rfl,hTf,?_⟩,H32.sub (List.Sublist.cons _ (List.Sublist.cons _ (List.Sublist.cons _ (List.sublist_append_left _ _))))⟩;rcases zc8 k (yr 40 k k1) with h | h
    ·exact Prod.ext hmade h
    ·exact absurd (hmade.symm.trans h) (zhn hit)
   ·refine rS [.v,.v,.E (.bool (!((yl 40 k (0,⟨#[]⟩) (yr 40 k k1)).1.toList==s.toList))) (.bool true) (za (by rw [yL _ _ hmade];rfl))] H29 kr fun gs14 w21 H30=>zj kr kr<|rS [.v,.v] H30 kr fun gs15 w22 H31=>rRr [.tmp 4,.tmp 5] [] (.tuple #[.slice none 0 0,.int .i64 4]) (yn w.heap.size w (kq form s)) H31 kr ?_;refine ⟨[],.inr ⟨4,by decide,rfl,fun k' l' hp' ho' hw'=>?_⟩,H31.sub (List.nil_sublist _)⟩;obtain rfl:k=k':=Option.some.inj (hp.symm.trans hp');obtain ⟨hl9,he9⟩:=jZ hw';have hf:=(vL (by decide) ho' hl9).2.2;have hk9:=(yj.inj h4 hit (zaq he9)).2.2;rw [hk9,hf,hw'] at hmade;exact hmade rfl
  ·have hno: ∀(k':Kf) (l':Fe),parseM form=some k'→l'.all fS.ok→yl 40 k' (0,⟨#[]⟩) l'≠(s,0):=fun k' l' _ ho' hw'=>by
    obtain ⟨p9,n9,c9,hv,_⟩:=zhm hw' ho' hdec;unfold erV at hv;injection hv with hv;have h9:=congrArg (fun a:Array Value=>a[1]?) hv;simp at h9;exact her h9
   refine rp [.v,.v,.v] H11 kr fun gs7 w10 H12=>wX [5,6,7] ?_;have H13:St w.heap.size w w10 ([]++((b6,kdO 40 q1 q2 q3)::(T++ []))):=H12.as kr;refine zE H13 (some 8) 83 (.agg #[.bool false,.string ⟨#[]⟩,.slice none 0 0]) kr kr kr ?_;intro b8 w11 H14;refine rp [.s 0,.v] H14 kr fun gs8 w12 H15=>wX []<|zb<|zd kr<|rS [.v,.E (.bool (!(er==0))) (.bool true) (za (by rw [beq_eq_false_iff_ne.2 her];rfl))] H15 kr fun gs9 w13 H16=>zj kr kr<|rS [.v,.v,.v] H16 kr fun gs10 w14 H17=>rRr [.tmp 4,.tmp 5] [] (.tuple #[.slice none 0 0,.int .i64 er]) (yn w.heap.size w (kq form s)) H17 kr ?_;exact ⟨[],.inr ⟨er,her,rfl,hno⟩,H17.sub (List.nil_sublist _)⟩
 ·refine rp [.v,.v,.v] H3 kr fun gs3 w4 H4=>wX [5,6,7] ?_;have H5:St w.heap.size w w4 (T++ []):=H4.as kr;refine zE H5 (some 6) 62 (.agg #[.int .u8 0,.slice none 0 0]) kr kr kr ?_;intro b6 w5 H6;refine rp [.s 0,.v] H6 kr fun gs4 w6 H7=>wX []<|zb<|zd kr<|rS [.v,.v] H7 kr fun gs5 w7 H8=>zj kr kr<|rS [.v,.v] H8 kr fun gs6 w8 H10=>rRr [.tmp 4,.tmp 5] [] (.tuple #[.slice none 0 0,.int .i64 1]) (yn w.heap.size w (kq form s)) H10 kr ?_;exact ⟨[],.inr ⟨1,by decide,rfl,fun k l h=>by rw [hp] at h;cases h⟩,H10.sub (List.nil_sublist _)⟩
theorem zc9 {k:Kf}{l l':Fe}{s:ByteArray}(h:yl 40 k (0,⟨#[]⟩) l=(s,0))(h':yl 40 k (0,⟨#[]⟩) l'=(s,0))(ho:l.all fS.ok)(ho':l'.all fS.ok):l=l':=by
 obtain ⟨h1,h2⟩:=jZ h;obtain ⟨h1',h2'⟩:=jZ h';have hi:=zaq h2;have hz:s.size≤4000:=by
  have:=kg (show (zP true ⟨#[]⟩ (zN 40 k l).len (zN 40 k l)).2=0 by rw [h2]);have h9:=congrArg ByteArray.size this.1;rw [h2,ql,this.2.2.2.2.2.2] at h9;simp only at h9;omega
 have e:=(yj.inj hz hi (zaq h2')).2.2;rw [←(vL (by decide) ho h1).2.2,←(vL (by decide) ho' h1').2.2,e]
theorem zhq (form:ByteArray)(l:Fe):(wrV form l).1.size≤4000:=by
 unfold wrV;split
 ·exact Nat.zero_le _
 ·rename_i k _
  rcases zc8 k l with h|h
  ·have h2:=jZ (s:=(yl 40 k (0,⟨#[]⟩) l).1) (Prod.ext rfl h);have:=kg (show (zP true ⟨#[]⟩ (zN 40 k l).len (zN 40 k l)).2=0 by rw [h2.2]);have h9:=congrArg ByteArray.size this.1;rw [h2.2,ql,this.2.2.2.2.2.2] at h9;simp only at h9;omega
  ·rw [h];exact Nat.zero_le _
theorem zda {A B:Nat}(h:A<B):cm A B<0:=by unfold cm;split<;>(try split)<;>omega
theorem zdb {A B:Nat}(h: ¬A<B): ¬cm A B<0:=by unfold cm;split<;>(try split)<;>omega
end Go.Proofs.YtbpmjppmpgeejaaGreatDoor
namespace Go.Proofs.YtbpmjppmpgeejaaGreatDoor
set_option linter.unusedVariables false
section
variable {p H Q:Nat}
end
open Go Go.RowKit Go.Proofs.Zm
end Go.Proofs.YtbpmjppmpgeejaaGreatDoor
namespace Go.Proofs.YtbpmjppmpgeejaaGreatDoor
open Go Go.RowKit
set_option linter.unusedVariables false
end Go.Proofs.YtbpmjppmpgeejaaGreatDoor
namespace Go.Proofs.YtbpmjppmpgeejaaGreatDoor
open Go.ChangeShapes Go.WideShapes Go.ChangeAt Go.RowKit
set_option linter.unusedVariables false
def bn (A:Nat):List Int:=[w3 A / 72057594037927936%256,w3 A / 281474976710656%256,w3 A / 1099511627776%256,w3 A / 4294967296%256,w3 A / 16777216%256,w3 A / 65536%256,w3 A / 256%256,w3 A%256,w2 A / 72057594037927936%256,w2 A / 281474976710656%256,w2 A / 1099511627776%256,w2 A / 4294967296%256,w2 A / 16777216%256,w2 A / 65536%256,w2 A / 256%256,w2 A%256,w1 A / 72057594037927936%256,w1 A / 281474976710656%256,w1 A / 1099511627776%256,w1 A / 4294967296%256,w1 A / 16777216%256,w1 A / 65536%256,w1 A / 256%256,w1 A%256,w0 A / 72057594037927936%256,w0 A / 281474976710656%256,w0 A / 1099511627776%256,w0 A / 4294967296%256,w0 A / 16777216%256,w0 A / 65536%256,w0 A / 256%256,w0 A%256]
def bs (A:Nat):ByteArray:=strOfNums (bn A)
theorem zhr (w:World)(O:Obj)(xs:List Int)(n:Nat)(hn:xs.length=n)(C:Array Value)(hC:C=(xs.map (Value.int .u8)).toArray):
 (convert 76 9 (.slice (some ⟨w.heap.size+1,0,none⟩) n n)).run Tryz.prog ((w.alloc O).alloc (.cells C 138))=.ok (.string (strOfNums xs)) ((w.alloc O).alloc (.cells C 138)):=by
 subst hC;refine run_convert_bytes_arg _ 76 5 Tryz.underlying76 Tryz.underlying5 _ 0 n n xs hn ?_ 9 Tryz.underlying9;intro i hi;have h:=heap_alloc2_new w O (.cells (xs.map (Value.int .u8)).toArray 138);rw [cell_of_row _ _ _ _ _ _ h];have hi':i<xs.length:=by omega
 simp [hi']
theorem zhs (A:Nat)(hA:A<big)(w:World):Calls Tryz.prog 76 #[uv A] w fun e w'=>e=.returned (.string (bs A))∧Below w.heap.size w w':=by
 have hc:=fun (O:Obj)=>zhr w O (bn A) 32 rfl _ rfl;simp only [bn,List.map_cons,List.map_nil] at hc;unfold uv
 go_enter Tryz.func76,Tryz.ntmps76
 go_wp2
 go_rounds 33
 go_ret
 exact ⟨rfl,by go_grown⟩
theorem qQ (A:Nat):(bs A).size=32:=rfl
end Go.Proofs.YtbpmjppmpgeejaaGreatDoor
namespace Go.Proofs.YtbpmjppmpgeejaaGreatDoor
open Go Go.RowKit
set_option linter.unusedVariables false
def inN (a:Nat):Bool:= !decide (a=0)&&decide (a<NR)
def xz (a:Nat):Bool:=decide (a<yM 0 a NR)
theorem zht {a:Nat}(h: ¬a=0):inN a=decide (a<NR):=by unfold inN;rw [decide_eq_false h];rfl
def zZ (r s:Nat)(v:Int):Bool:=inN r&&xz s&&(decide (v=0)||decide (v=1))
def sgv (r s:Nat)(v:Int):Value:=.agg #[.int .u64 (w0 r),.int .u64 (w1 r),.int .u64 (w2 r),.int .u64 (w3 r),.int .u64 (w0 s),.int .u64 (w1 s),.int .u64 (w2 s),.int .u64 (w3 s),.int .i64 v]
def sbs (r s:Nat)(v:Int):ByteArray:=(bs r++bs s)++strOfNums [IntKind.u8.wrap v]
theorem zar (a b:ByteArray):(a++b).size=a.size+b.size:=ByteArray.size_append
theorem zhu (a:Nat)(ha:a<big)(h:a=0):Fn Tryz.prog 109 #[uv a] (.bool false):=by
 refine Fn.intro (c:=zg Tryz.f109) [.tmp 2] 18 Tryz.func109 kr kr kr fun w=>?_;have H0:=St.start w;refine rS [.b,.v] H0 kr fun gs1 w1 H1=>?_;clear H0;refine rS [.c vj,.v,.v,.v,.a,.s 1,.v] H1 kr fun gs2 w2 H2=>?_;clear H1;refine rS [.l 0,.v,.oe (ins:=[((.tmp 9),uv a),((.tmp 10),.agg #[wZ,wZ,wZ,wZ])]) (v:=.bool (!decide (a=0))) (v':=.bool false) (fun ρ o w ho hi=>xX (x:=(.tmp 9)) (y:=(.tmp 10)) a 0 ha (by unfold big;omega) w ho hi.1 hi.2.1) (by rw [decide_eq_true h]<;>rfl),.v,.n,.n,.n,.n,.v,.v] H2 kr fun gs3 w3 H3=>?_;clear H2;refine zm kr<|wV ?_;refine ⟨[.bool false],(.tmp (.bool false) kr .nil),?_,H3.below⟩;rfl
theorem zhv (a:Nat)(ha:a<big)(h: ¬a=0)(h2: ¬a<NR):Fn Tryz.prog 109 #[uv a] (.bool false):=by
 refine Fn.intro (c:=zg Tryz.f109) [.tmp 2] 18 Tryz.func109 kr kr kr fun w=>?_;have H0:=St.start w;refine rS [.b,.v] H0 kr fun gs1 w1 H1=>?_;clear H0;refine rS [.c vj,.v,.v,.v,.a,.s 1,.v] H1 kr fun gs2 w2 H2=>?_;clear H1;refine rS [.l 0,.v,.oe (ins:=[((.tmp 9),uv a),((.tmp 10),.agg #[wZ,wZ,wZ,wZ])]) (v:=.bool (!decide (a=0))) (v':=.bool true) (fun ρ o w ho hi=>xX (x:=(.tmp 9)) (y:=(.tmp 10)) a 0 ha (by unfold big;omega) w ho hi.1 hi.2.1) (by rw [decide_eq_false h]<;>rfl),.v,.l 0,.l 1,.c (xW a NR ha qJ.1),.E (.bool (decide (cm a NR<0))) (.bool false) (za (decide_eq_false (zdb h2))),.v,.v] H2 kr fun gs3 w3 H3=>?_;clear H2;refine zm kr<|wV ?_;refine ⟨[.bool false],(.tmp (.bool false) kr .nil),?_,H3.below⟩;rfl
theorem zhw (a:Nat)(ha:a<big)(h: ¬a=0)(h2:a<NR):Fn Tryz.prog 109 #[uv a] (.bool true):=by
 refine Fn.intro (c:=zg Tryz.f109) [.tmp 2] 18 Tryz.func109 kr kr kr fun w=>?_;have H0:=St.start w;refine rS [.b,.v] H0 kr fun gs1 w1 H1=>?_;clear H0;refine rS [.c vj,.v,.v,.v,.a,.s 1,.v] H1 kr fun gs2 w2 H2=>?_;clear H1;refine rS [.l 0,.v,.oe (ins:=[((.tmp 9),uv a),((.tmp 10),.agg #[wZ,wZ,wZ,wZ])]) (v:=.bool (!decide (a=0))) (v':=.bool true) (fun ρ o w ho hi=>xX (x:=(.tmp 9)) (y:=(.tmp 10)) a 0 ha (by unfold big;omega) w ho hi.1 hi.2.1) (by rw [decide_eq_false h]<;>rfl),.v,.l 0,.l 1,.c (xW a NR ha qJ.1),.E (.bool (decide (cm a NR<0))) (.bool true) (za (decide_eq_true (zda h2))),.v,.v] H2 kr fun gs3 w3 H3=>?_;clear H2;refine zm kr<|wV ?_;refine ⟨[.bool true],(.tmp (.bool true) kr .nil),?_,H3.below⟩;rfl
theorem zhx (a:Nat)(ha:a<big):Fn Tryz.prog 109 #[uv a] (.bool (inN a)):=by
 by_cases h:a=0
 ·have:=zhu a ha h;subst h;exact this
 ·rw [zht h];by_cases h2:a<NR
  ·rw [decide_eq_true h2];exact zhw a ha h h2
  ·rw [decide_eq_false h2];exact zhv a ha h h2
theorem zdc (a:Nat)(ha:a<big):Fn Tryz.prog 137 #[uv a] (uv (yM 0 a NR)):=by
 refine Fn.intro (c:=zg Tryz.f137) [.cell 2 48] 12 Tryz.func137 kr kr kr fun w=>?_;have H0:=St.start w;refine rS [.b,.a] H0 kr fun gs1 w1 H1=>?_;clear H0;refine rS [.v,.l 0,.c (zfh 0 a (by unfold big;omega) ha),.v,.v,.v,.a,.s 2,.v] H1 kr fun gs2 w2 H2=>?_;clear H1;refine rS [.l 2,.s 1] H2 kr fun gs3 w3 H3=>?_;clear H2;refine zm kr<|wV ?_;refine ⟨[uv (yM 0 a NR)],(.agg (b:=(gs1 1).b) (Value.cells (uv (yM 0 a NR))) 48 (0,0) kr (H3.get 1 kr) kr .nil),?_,H3.below⟩;rfl
theorem zhy (a:Nat)(ha:a<big)(h:a<yM 0 a NR):Fn Tryz.prog 110 #[uv a] (.bool true):=by
 refine Fn.intro (c:=zg Tryz.f110) [.tmp 2] 8 Tryz.func110 kr kr kr fun w=>?_;have H0:=St.start w;refine rS [.b,.v] H0 kr fun gs1 w1 H1=>?_;clear H0;refine dS [.l 0,.l 0,.c (zdc a ha),.c (xW a (yM 0 a NR) ha (zbI qJ)),.E (.bool (decide (cm a (yM 0 a NR)<0))) (.bool true) (za (decide_eq_true (zda h))),.v] H1 kr fun w2 H2=>?_;clear H1;refine zm kr<|wV ?_;refine ⟨[.bool true],(.tmp (.bool true) kr .nil),?_,H2.below⟩;rfl
theorem zhz (a:Nat)(ha:a<big)(h: ¬a<yM 0 a NR):Fn Tryz.prog 110 #[uv a] (.bool false):=by
 refine Fn.intro (c:=zg Tryz.f110) [.tmp 2] 8 Tryz.func110 kr kr kr fun w=>?_;have H0:=St.start w;refine rS [.b,.v] H0 kr fun gs1 w1 H1=>?_;clear H0;refine dS [.l 0,.l 0,.c (zdc a ha),.c (xW a (yM 0 a NR) ha (zbI qJ)),.E (.bool (decide (cm a (yM 0 a NR)<0))) (.bool false) (za (decide_eq_false (zdb h))),.v] H1 kr fun w2 H2=>?_;clear H1;refine zm kr<|wV ?_;refine ⟨[.bool false],(.tmp (.bool false) kr .nil),?_,H2.below⟩;rfl
theorem zhA (a:Nat)(ha:a<big):Fn Tryz.prog 110 #[uv a] (.bool (xz a)):=by
 unfold xz;by_cases h:a<yM 0 a NR
 ·rw [decide_eq_true h];exact zhy a ha h
 ·rw [decide_eq_false h];exact zhz a ha h
theorem vT (r s:Nat)(hr:r<big)(hs:s<big)(v:Int):Fn Tryz.prog 75 #[sgv r s (v)] (.bool (zZ r s v)):=by
 refine Fn.intro (c:=zg Tryz.f75) [.tmp 2] 21 Tryz.func75 kr kr kr fun w=>?_;have H0:=St.start w;refine rS [.b,.v] H0 kr fun gs1 w1 H1=>?_;clear H0;refine zf [0,1,2,3,4,5,6,7,8,9,10,11,12,13,14,15,16,17,18] kr kr<|rp [.v,.l 0,.c (zhx r hr)] H1 kr fun gs2 w2 H2=>wX [3,4,5,6,7,8,9,10,11,12,13,14,15,16,17,18] ?_;clear H1;refine Or.elim (Bool.eq_false_or_eq_true (inN r)).symm (fun hb1=>?_) (fun hb1=>?_)
 ·refine zS 5 (v:=.bool (inN r)) (v':=.bool false) (za hb1) kr<|rp [.v,.n,.n,.n,.v,.v,.n,.n,.n,.n] H2 kr fun gs3 w3 H3=>wX [13,14,15,16,17,18] ?_;clear H2;refine xg (some 16) kr kr<|xg (some 17) kr kr<|xg (some 18) kr kr<|rp [.n,.v,.v] H3 kr fun gs4 w4 H4=>wX [] ?_;clear H3;refine zb<|zm kr<|wV ?_;refine ⟨[.bool false],(.tmp (.bool false) kr .nil),?_,H4.below⟩;exact congrArg Value.bool (by unfold zZ;simp [hb1]<;>omega)
 ·refine zS 5 (v:=.bool (inN r)) (v':=.bool true) (za hb1) kr<|rp [.v,.v,.l 0,.c (zhA s hs)] H2 kr fun gs5 w5 H5=>wX [7,8,9,10,11,12,13,14,15,16,17,18] ?_;clear H2;refine Or.elim (Bool.eq_false_or_eq_true (xz s)).symm (fun hb2=>?_) (fun hb2=>?_)
  ·refine zS 9 (v:=.bool (xz s)) (v':=.bool false) (za hb2) kr<|rp [.v,.v,.n,.n,.n,.n] H5 kr fun gs6 w6 H6=>wX [13,14,15,16,17,18] ?_;clear H5;refine xg (some 16) kr kr<|xg (some 17) kr kr<|xg (some 18) kr kr<|rp [.n,.v,.v] H6 kr fun gs7 w7 H7=>wX [] ?_;clear H6;refine zb<|zm kr<|wV ?_;refine ⟨[.bool false],(.tmp (.bool false) kr .nil),?_,H7.below⟩;exact congrArg Value.bool (by unfold zZ;simp [hb1,hb2]<;>omega)
  ·refine zS 9 (v:=.bool (xz s)) (v':=.bool true) (za hb2) kr<|rp [.v,.v,.v,.l 0] H5 kr fun gs8 w8 H8=>wX [11,12,13,14,15,16,17,18] ?_;clear H5;by_cases hc1:(v:Int)=0
   ·refine rp [.E (.bool (v==0)) (.bool true) (za (beq_iff_eq.2 (by omega))),.v,.n,.n,.n,.v,.v,.v] H8 kr fun gs9 w9 H9=>wX [] ?_;clear H8;refine zb<|zm kr<|wV ?_;refine ⟨[.bool true],(.tmp (.bool true) kr .nil),?_,H9.below⟩;exact congrArg Value.bool (by unfold zZ;simp [hb1,hb2]<;>omega)
   ·refine rp [.E (.bool (v==0)) (.bool false) (za (beq_eq_false_iff_ne.2 (by omega))),.v,.v,.l 0] H8 kr fun gs10 w10 H10=>wX [15,16,17,18] ?_;clear H8;by_cases hc2:(v:Int)=1
    ·refine rp [.E (.bool (v==1)) (.bool true) (za (beq_iff_eq.2 (by omega))),.v,.v,.v] H10 kr fun gs11 w11 H11=>wX [] ?_;clear H10;refine zb<|zm kr<|wV ?_;refine ⟨[.bool true],(.tmp (.bool true) kr .nil),?_,H11.below⟩;exact congrArg Value.bool (by unfold zZ;simp [hb1,hb2]<;>omega)
    ·refine rp [.E (.bool (v==1)) (.bool false) (za (beq_eq_false_iff_ne.2 (by omega))),.v,.v,.v] H10 kr fun gs12 w12 H12=>wX [] ?_;clear H10;refine zb<|zm kr<|wV ?_;refine ⟨[.bool false],(.tmp (.bool false) kr .nil),?_,H12.below⟩;exact congrArg Value.bool (by unfold zZ;simp [hb1,hb2]<;>omega)
end Go.Proofs.YtbpmjppmpgeejaaGreatDoor
namespace Go.Proofs.Kec
set_option linter.unusedVariables false
set_option maxRecDepth 10000
abbrev B64:=BitVec 64
structure ziW (st:List B64×Nat):Prop where
 len:st.1.length=25
 lt:st.2<136
end Go.Proofs.Kec
namespace Go.Proofs.YtbpmjppmpgeejaaGreatDoor.Ke
open Go Go.RowKit Go.Proofs.Kec
set_option linter.unusedVariables false
end Go.Proofs.YtbpmjppmpgeejaaGreatDoor.Ke
namespace Go.Proofs.YtbpmjppmpgeejaaGreatDoor
open Go.Proofs.Kec
set_option maxRecDepth 100000
end Go.Proofs.YtbpmjppmpgeejaaGreatDoor
namespace Go.Proofs.YtbpmjppmpgeejaaGreatDoor
open Go Go.RowKit
set_option linter.unusedVariables false
open Go.Proofs.Kec Ke
theorem zdd (A:Nat)(hA:A<big):Fn Tryz.prog 76 #[uv A] (.string (bs A)):=zhs A hA
end Go.Proofs.YtbpmjppmpgeejaaGreatDoor
namespace Go.Proofs.YtbpmjppmpgeejaaGreatDoor
open Go.RowKit
def sv (l:List UInt8):Nat:=l.foldl (fun n b=>256*n+b.toNat) 0
theorem zhB (l:List UInt8)(b:UInt8):sv (l++ [b])=256*sv l+b.toNat:=by
 unfold sv;rw [List.foldl_append];rfl
theorem zde: ∀(l:List UInt8) (n:Nat),l.foldl (fun n b=>256*n+b.toNat) n<(n+1)*256^l.length
 | [],n=>by simp
 | b::l,n=>by
  rw [List.foldl_cons,List.length_cons,Nat.pow_succ];have h:=zde l (256*n+b.toNat);have hb:b.toNat<256:=b.toNat_lt;have h2:(256*n+b.toNat+1)*256^l.length≤((n+1)*256)*256^l.length:=Nat.mul_le_mul_right _ (by omega);have e:(n+1)*(256^l.length*256)=(n+1)*256*256^l.length:=by rw [Nat.mul_assoc (n+1) 256,Nat.mul_comm 256]
  omega
theorem zdf (l:List UInt8):sv l<256^l.length:=by
 have:=zde l 0;rw [Nat.one_mul] at this;exact this
def wi (n q:Nat):Nat:=n / 0x10000000000000000^q%0x10000000000000000
theorem zhC (x y k K:Nat)(hK:2^k=K)(hx:x%K=0)(hy:y<K):x ||| y=x+y:=by
 subst hK;have e:x=2^k*(x / 2^k):=by have:=Nat.div_add_mod x (2^k);omega
 rw [e];exact (Nat.two_pow_add_eq_or_of_lt hy (x / 2^k)).symm
theorem zhD {b c K:Nat}(hb:b<256)(hc:0<c)(hK:256*c=K):b*c<K:=by
 subst hK;exact (Nat.mul_lt_mul_right hc).2 hb
theorem zhE (P b m:Nat)(hb:b<256)(hm:m<32)(hP:(256*P+b)*256^m<big):
 wi (P*256^(m+1)) (m / 8) ||| (b*2^(8*(m%8)))=wi ((256*P+b)*256^m) (m / 8)∧
 (∀j,j<4→j≠m / 8→wi ((256*P+b)*256^m) j=wi (P*256^(m+1)) j):=by
 obtain ⟨k,r,hr,rfl⟩:∃k r,r<8∧m=8*k+r:=⟨m / 8,m%8,Nat.mod_lt _ (by decide),by omega⟩
 have hk:(8*k+r) / 8=k:=by omega
 have hr':(8*k+r)%8=r:=by omega
 have hw:256^(8*k+r)=256^r*0x10000000000000000^k:=by rw [Nat.add_comm,Nat.pow_add,Nat.pow_mul]
 have hN:P*256^(8*k+r+1)=P*256^(r+1)*0x10000000000000000^k:=by
  rw [Nat.pow_succ,hw,Nat.pow_succ,Nat.mul_right_comm,Nat.mul_assoc P]
 have hN':(256*P+b)*256^(8*k+r)=(256*P+b)*256^r*0x10000000000000000^k:=by rw [hw,Nat.mul_assoc]
 rw [hk,hr',hN,hN'];have hp: ∀n,0<0x10000000000000000^n:=fun n=>Nat.pow_pos (by decide);have h8:r=0∨r=1∨r=2∨r=3∨r=4∨r=5∨r=6∨r=7:=by omega
 unfold wi;constructor
 ·rw [Nat.mul_div_cancel _ (hp k),Nat.mul_div_cancel _ (hp k),zhC _ _ (8*(r+1)) (256^(r+1)) (Nat.pow_mul 2 8 (r+1)) ?_ ?_]
  ·clear hN hN' hw hP;rcases h8 with rfl | rfl | rfl | rfl | rfl | rfl | rfl | rfl<;>simp only [Nat.reduceMul,Nat.reduceAdd,Nat.reducePow]<;>omega
  ·rw [Nat.mod_mod_of_dvd _ (show 256^(r+1)∣256^8 from Nat.pow_dvd_pow 256 hr),Nat.mul_mod_left]
  ·rw [Nat.pow_mul];exact zhD hb (Nat.pow_pos (by decide)) (show 256*256^r=256^(r+1) by rw [Nat.pow_succ 256 r,Nat.mul_comm])
 ·intro j hj hne;rcases Nat.lt_or_gt_of_ne hne with h | h
  ·obtain ⟨d,rfl⟩:∃d,k=d+1+j:=⟨k-j-1,by omega⟩
   have e: ∀A,A*0x10000000000000000^(d+1+j) / 0x10000000000000000^j%0x10000000000000000=0:=fun A=>by
    rw [Nat.pow_add,←Nat.mul_assoc,Nat.mul_div_cancel _ (hp j),Nat.pow_succ,←Nat.mul_assoc,Nat.mul_mod_left]
   rw [e,e]
  ·obtain ⟨d,rfl⟩:∃d,j=k+1+d:=⟨j-k-1,by omega⟩
   have e: ∀A,A*0x10000000000000000^k / 0x10000000000000000^(k+1+d)=A / 0x10000000000000000 / 0x10000000000000000^d:=fun A=>by
    rw [Nat.pow_add,Nat.pow_succ,←Nat.div_div_eq_div_mul,←Nat.div_div_eq_div_mul,Nat.mul_div_cancel _ (hp k)]
   have e2:(256*P+b)*256^r / 0x10000000000000000=P*256^(r+1) / 0x10000000000000000:=by
    clear hN hN' hw hP e;rcases h8 with rfl | rfl | rfl | rfl | rfl | rfl | rfl | rfl<;>simp only [Nat.reduceMul,Nat.reduceAdd,Nat.reducePow]<;>omega
   rw [e,e,e2]
end Go.Proofs.YtbpmjppmpgeejaaGreatDoor
namespace Go.Proofs.YtbpmjppmpgeejaaGreatDoor
open Go.ChangeShapes Go.WideShapes Go.ChangeAt Go.RowKit
set_option linter.unusedVariables false
def zs (s:ByteArray)(k:Nat):Nat:=sv (s.data.toList.take k)*256^(s.size-k)
theorem zhF (s:ByteArray)(k:Nat)(h:s.size≤32)(hk:k≤s.size):zs s k<big:=by
 unfold zs;have h1:=zdf (s.data.toList.take k);have h2:(s.data.toList.take k).length≤k:=List.length_take_le _ _;have h3:256^(s.data.toList.take k).length≤256^k:=Nat.pow_le_pow_right (by omega) h2;have h4:256^k*256^(s.size-k)=256^s.size:=by rw [←Nat.pow_add];congr 1;omega
 have h5:256^s.size≤256^32:=Nat.pow_le_pow_right (by omega) h;have h6:sv (s.data.toList.take k)*256^(s.size-k)<256^k*256^(s.size-k):=(Nat.mul_lt_mul_right (Nat.pow_pos (by omega))).2 (by omega);have h7:(256:Nat)^32=big:=rfl;omega
theorem zhG (s:ByteArray)(k m:Nat)(hk:k<s.size)(hm:s.size=k+1+m):
 zs s k=sv (s.data.toList.take k)*256^(m+1)∧zs s (k+1)=(256*sv (s.data.toList.take k)+s[k].toNat)*256^m:=by
 unfold zs;constructor
 ·congr 2;omega
 ·have e:s.data.toList.take (k+1)=s.data.toList.take k++ [s[k]]:=by rw [List.take_succ_eq_append_getElem (by simpa using hk)];rfl
  rw [e,zhB];congr 2;omega
theorem wi0 (n:Nat):((wi n 0:Nat):Int)=w0 n:=by unfold wi w0;simp
theorem wi1 (n:Nat):((wi n 1:Nat):Int)=w1 n:=rfl
theorem wi2 (n:Nat):((wi n 2:Nat):Int)=w2 n:=rfl
theorem wi3 (n:Nat):((wi n 3:Nat):Int)=w3 n:=rfl
theorem vU (x b m:Nat)(hx:x<0x10000000000000000)(hb:b<256):
 bits BinOp.or IntKind.u64 (x:Int) (IntKind.u64.wrap ((b:Int)*2^(8*(m%8))))=((x ||| b*2^(8*(m%8)):Nat):Int):=by
 have hp:2^(8*(m%8))≤2^56:=Nat.pow_le_pow_right (by omega) (by omega);have hl:b*2^(8*(m%8))<0x10000000000000000:=by
  have h1:b*2^(8*(m%8))≤255*2^56:=Nat.mul_le_mul (by omega) hp;omega
 have e2:(b:Int)*2^(8*(m%8))=((b*2^(8*(m%8)):Nat):Int):=by push_cast;rfl
 rw [e2];have e3:IntKind.u64.wrap ((b*2^(8*(m%8)):Nat):Int)=((b*2^(8*(m%8)):Nat):Int):=by rw [IntKind.wrap_u64];omega
 rw [e3];exact bits_or_u64_nat _ _ hx hl
def vV (wr:World)(b:Nat)(n:Nat):Prop:=
 (wr.cell? ⟨b,0,none⟩=some (.int .u64 (w0 n))∧wr.cell? ⟨b,1,none⟩=some (.int .u64 (w1 n))∧wr.cell? ⟨b,2,none⟩=some (.int .u64 (w2 n))∧wr.cell? ⟨b,3,none⟩=some (.int .u64 (w3 n)))∧
 (wr.frozen? ⟨b,0,none⟩=false∧wr.frozen? ⟨b,1,none⟩=false∧wr.frozen? ⟨b,2,none⟩=false∧wr.frozen? ⟨b,3,none⟩=false)
def zdg (w:World)(s:ByteArray)(k:Nat)(wr:World):Prop:=Below w.heap.size w wr∧vV wr (w.heap.size+1) (zs s k)∧vV wr w.heap.size 0
theorem vW (s:ByteArray)(h:s.size≤32)(w:World):Calls Tryz.prog 95 #[.string s] w fun e w'=>e=.returned (.tuple #[uv (sv s.data.toList),.int .i64 0])∧Below w.heap.size w w':=by
 have hi: ¬(32:Int)<(s.size:Int):=by omega
 have hfin:zs s s.size=sv s.data.toList:=by unfold zs;rw [List.take_of_length_le (by simp)];simp
 have hend: ∀k,¬k<s.size→k≤s.size→zs s k=sv s.data.toList:=fun k h1 h2=>by rw [show k=s.size by omega];exact hfin
 have I:zdg w s 0 ((w.alloc (.cells #[wZ,wZ,wZ,wZ] 48)).alloc (.cells #[wZ,wZ,wZ,wZ] 48)):=by
  have z:zs s 0=0:=by unfold zs;simp [sv]
  have z0:w0 0=0:=rfl;have z1:w1 0=0:=rfl;have z2:w2 0=0:=rfl;have z3:w3 0=0:=rfl;refine ⟨((Below.refl _ _).alloc (Nat.le_refl _) _).alloc (by simp) _,?_,?_⟩
  ·rw [z];unfold vV;rw [z0,z1,z2,z3];exact ⟨⟨by simp,by simp,by simp,by simp⟩,by simp,by simp,by simp,by simp⟩
  ·unfold vV;rw [z0,z1,z2,z3];exact ⟨⟨by simp,by simp,by simp,by simp⟩,by simp,by simp,by simp,by simp⟩
 have Hend:=Lib.hid hend;clear hfin hend
 go_enter Tryz.func95,Tryz.ntmps95
 go_wp2
 go_loopw [13] (fun i wr=> ∃k:Nat,k≤s.size∧i=.int .i64 k∧zdg w s k wr) (fun i _=>s.size-(intOf i).toNat)
 case atStart=>exact ⟨0,by omega,rfl,I⟩
 case round=>
  obtain ⟨k,hk,rfl,J⟩:=hrel;clear I;obtain ⟨JB,⟨⟨c0,c1,c2,c3⟩,f0,f1,f2,f3⟩,⟨⟨r0,r1,r2,r3⟩,y0,y1,y2,y3⟩⟩:=J;by_cases hlt:k<s.size
  ·obtain ⟨m,hm⟩:∃m,s.size=k+1+m:=⟨s.size-k-1,by omega⟩
   have hb:((s.size:Int)-1-(k:Int))=(m:Int):=by omega
   have hm32:m<32:=by omega
   obtain ⟨n1,n2⟩:=zhG s k m hlt hm;have hbig:=zhF s (k+1) h (by omega);have hby:s[k].toNat<256:=s[k].toNat_lt;have OB:=zhE (sv (s.data.toList.take k)) s[k].toNat m hby hm32 (by rw [←n2];exact hbig);rw [←n1,←n2] at OB;have HOB:=Lib.hid OB;clear hm n1 n2 OB hbig;have hq:m / 8=0∨m / 8=1∨m / 8=2∨m / 8=3:=by omega
   rcases hq with hq|hq|hq|hq
   ·go_wp2_with fail
    go_region
    go_wp2
    go_roundw
    case rel=>
     obtain ⟨o1,o2⟩:=HOB.out;rw [hq] at o1 o2;have ev:bits BinOp.or IntKind.u64 (w0 (zs s k)) (IntKind.u64.wrap ((s[k].toNat:Int)*2^(8*(m%8))))=w0 (zs s (k+1)):=by
      rw [←wi0,vU _ _ _ (by unfold wi;exact Nat.mod_lt _ (by omega)) hby,o1,wi0]
     have g1:w1 (zs s (k+1))=w1 (zs s k):=by rw [←wi1,←wi1,o2 1 (by omega) (by omega)]
     have g2:w2 (zs s (k+1))=w2 (zs s k):=by rw [←wi2,←wi2,o2 2 (by omega) (by omega)]
     have g3:w3 (zs s (k+1))=w3 (zs s k):=by rw [←wi3,←wi3,o2 3 (by omega) (by omega)]
     refine ⟨k+1,by omega,by go_num,(JB.setCell (by simp) _).drew,⟨⟨?_,?_,?_,?_⟩,?_,?_,?_,?_⟩,⟨⟨?_,?_,?_,?_⟩,?_,?_,?_,?_⟩⟩
     ·rw [←ev];exact World.cell?_setCell_same _ _ _ c0
     ·rw [g1];exact (World.cell?_setCell_other _ _ _ _ (by simp)).trans c1
     ·rw [g2];exact (World.cell?_setCell_other _ _ _ _ (by simp)).trans c2
     ·rw [g3];exact (World.cell?_setCell_other _ _ _ _ (by simp)).trans c3
     ·simp [f0]
     ·simp [f1]
     ·simp [f2]
     ·simp [f3]
     ·exact (World.cell?_setCell_other _ _ _ _ (by simp)).trans r0
     ·exact (World.cell?_setCell_other _ _ _ _ (by simp)).trans r1
     ·exact (World.cell?_setCell_other _ _ _ _ (by simp)).trans r2
     ·exact (World.cell?_setCell_other _ _ _ _ (by simp)).trans r3
     ·simp [y0]
     ·simp [y1]
     ·simp [y2]
     ·simp [y3]
    case measure=>simp [intOf];omega
   ·go_wp2_with fail
    go_region
    go_wp2
    go_roundw
    case rel=>
     obtain ⟨o1,o2⟩:=HOB.out;rw [hq] at o1 o2;have ev:bits BinOp.or IntKind.u64 (w1 (zs s k)) (IntKind.u64.wrap ((s[k].toNat:Int)*2^(8*(m%8))))=w1 (zs s (k+1)):=by
      rw [←wi1,vU _ _ _ (by unfold wi;exact Nat.mod_lt _ (by omega)) hby,o1,wi1]
     have g0:w0 (zs s (k+1))=w0 (zs s k):=by rw [←wi0,←wi0,o2 0 (by omega) (by omega)]
     have g2:w2 (zs s (k+1))=w2 (zs s k):=by rw [←wi2,←wi2,o2 2 (by omega) (by omega)]
     have g3:w3 (zs s (k+1))=w3 (zs s k):=by rw [←wi3,←wi3,o2 3 (by omega) (by omega)]
     refine ⟨k+1,by omega,by go_num,(JB.setCell (by simp) _).drew,⟨⟨?_,?_,?_,?_⟩,?_,?_,?_,?_⟩,⟨⟨?_,?_,?_,?_⟩,?_,?_,?_,?_⟩⟩
     ·rw [g0];exact (World.cell?_setCell_other _ _ _ _ (by simp)).trans c0
     ·rw [←ev];exact World.cell?_setCell_same _ _ _ c1
     ·rw [g2];exact (World.cell?_setCell_other _ _ _ _ (by simp)).trans c2
     ·rw [g3];exact (World.cell?_setCell_other _ _ _ _ (by simp)).trans c3
     ·simp [f0]
     ·simp [f1]
     ·simp [f2]
     ·simp [f3]
     ·exact (World.cell?_setCell_other _ _ _ _ (by simp)).trans r0
     ·exact (World.cell?_setCell_other _ _ _ _ (by simp)).trans r1
     ·exact (World.cell?_setCell_other _ _ _ _ (by simp)).trans r2
     ·exact (World.cell?_setCell_other _ _ _ _ (by simp)).trans r3
     ·simp [y0]
     ·simp [y1]
     ·simp [y2]
     ·simp [y3]
    case measure=>simp [intOf];omega
   ·go_wp2_with fail
    go_region
    go_wp2
    go_roundw
    case rel=>
     obtain ⟨o1,o2⟩:=HOB.out;rw [hq] at o1 o2;have ev:bits BinOp.or IntKind.u64 (w2 (zs s k)) (IntKind.u64.wrap ((s[k].toNat:Int)*2^(8*(m%8))))=w2 (zs s (k+1)):=by
      rw [←wi2,vU _ _ _ (by unfold wi;exact Nat.mod_lt _ (by omega)) hby,o1,wi2]
     have g0:w0 (zs s (k+1))=w0 (zs s k):=by rw [←wi0,←wi0,o2 0 (by omega) (by omega)]
     have g1:w1 (zs s (k+1))=w1 (zs s k):=by rw [←wi1,←wi1,o2 1 (by omega) (by omega)]
     have g3:w3 (zs s (k+1))=w3 (zs s k):=by rw [←wi3,←wi3,o2 3 (by omega) (by omega)]
     refine ⟨k+1,by omega,by go_num,(JB.setCell (by simp) _).drew,⟨⟨?_,?_,?_,?_⟩,?_,?_,?_,?_⟩,⟨⟨?_,?_,?_,?_⟩,?_,?_,?_,?_⟩⟩
     ·rw [g0];exact (World.cell?_setCell_other _ _ _ _ (by simp)).trans c0
     ·rw [g1];exact (World.cell?_setCell_other _ _ _ _ (by simp)).trans c1
     ·rw [←ev];exact World.cell?_setCell_same _ _ _ c2
     ·rw [g3];exact (World.cell?_setCell_other _ _ _ _ (by simp)).trans c3
     ·simp [f0]
     ·simp [f1]
     ·simp [f2]
     ·simp [f3]
     ·exact (World.cell?_setCell_other _ _ _ _ (by simp)).trans r0
     ·exact (World.cell?_setCell_other _ _ _ _ (by simp)).trans r1
     ·exact (World.cell?_setCell_other _ _ _ _ (by simp)).trans r2
     ·exact (World.cell?_setCell_other _ _ _ _ (by simp)).trans r3
     ·simp [y0]
     ·simp [y1]
     ·simp [y2]
     ·simp [y3]
    case measure=>simp [intOf];omega
   ·go_wp2_with fail
    go_region
    go_wp2
    go_roundw
    case rel=>
     obtain ⟨o1,o2⟩:=HOB.out;rw [hq] at o1 o2;have ev:bits BinOp.or IntKind.u64 (w3 (zs s k)) (IntKind.u64.wrap ((s[k].toNat:Int)*2^(8*(m%8))))=w3 (zs s (k+1)):=by
      rw [←wi3,vU _ _ _ (by unfold wi;exact Nat.mod_lt _ (by omega)) hby,o1,wi3]
     have g0:w0 (zs s (k+1))=w0 (zs s k):=by rw [←wi0,←wi0,o2 0 (by omega) (by omega)]
     have g1:w1 (zs s (k+1))=w1 (zs s k):=by rw [←wi1,←wi1,o2 1 (by omega) (by omega)]
     have g2:w2 (zs s (k+1))=w2 (zs s k):=by rw [←wi2,←wi2,o2 2 (by omega) (by omega)]
     refine ⟨k+1,by omega,by go_num,(JB.setCell (by simp) _).drew,⟨⟨?_,?_,?_,?_⟩,?_,?_,?_,?_⟩,⟨⟨?_,?_,?_,?_⟩,?_,?_,?_,?_⟩⟩
     ·rw [g0];exact (World.cell?_setCell_other _ _ _ _ (by simp)).trans c0
     ·rw [g1];exact (World.cell?_setCell_other _ _ _ _ (by simp)).trans c1
     ·rw [g2];exact (World.cell?_setCell_other _ _ _ _ (by simp)).trans c2
     ·rw [←ev];exact World.cell?_setCell_same _ _ _ c3
     ·simp [f0]
     ·simp [f1]
     ·simp [f2]
     ·simp [f3]
     ·exact (World.cell?_setCell_other _ _ _ _ (by simp)).trans r0
     ·exact (World.cell?_setCell_other _ _ _ _ (by simp)).trans r1
     ·exact (World.cell?_setCell_other _ _ _ _ (by simp)).trans r2
     ·exact (World.cell?_setCell_other _ _ _ _ (by simp)).trans r3
     ·simp [y0]
     ·simp [y1]
     ·simp [y2]
     ·simp [y3]
    case measure=>simp [intOf];omega
  ·have HE:=Lib.hid (Hend.out k hlt hk)
   go_wp2
   have hS0:(wr.setCell ⟨w.heap.size,0,none⟩ (.int .u64 (w0 (zs s k)))).cell? ⟨w.heap.size,0,none⟩=some (.int .u64 (w0 (zs s k))):=World.cell?_setCell_same _ _ _ r0;have hS1:((wr.setCell ⟨w.heap.size,0,none⟩ (.int .u64 (w0 (zs s k)))).setCell ⟨w.heap.size,1,none⟩ (.int .u64 (w1 (zs s k)))).cell? ⟨w.heap.size,1,none⟩=some (.int .u64 (w1 (zs s k))):=World.cell?_setCell_same _ _ _ ((World.cell?_setCell_other _ _ _ _ (by simp)).trans r1);have hS2:(((wr.setCell ⟨w.heap.size,0,none⟩ (.int .u64 (w0 (zs s k)))).setCell ⟨w.heap.size,1,none⟩ (.int .u64 (w1 (zs s k)))).setCell ⟨w.heap.size,2,none⟩ (.int .u64 (w2 (zs s k)))).cell? ⟨w.heap.size,2,none⟩=some (.int .u64 (w2 (zs s k))):=World.cell?_setCell_same _ _ _ ((World.cell?_setCell_other _ _ _ _ (by simp)).trans ((World.cell?_setCell_other _ _ _ _ (by simp)).trans r2));have hS3:((((wr.setCell ⟨w.heap.size,0,none⟩ (.int .u64 (w0 (zs s k)))).setCell ⟨w.heap.size,1,none⟩ (.int .u64 (w1 (zs s k)))).setCell ⟨w.heap.size,2,none⟩ (.int .u64 (w2 (zs s k)))).setCell ⟨w.heap.size,3,none⟩ (.int .u64 (w3 (zs s k)))).cell? ⟨w.heap.size,3,none⟩=some (.int .u64 (w3 (zs s k))):=World.cell?_setCell_same _ _ _ ((World.cell?_setCell_other _ _ _ _ (by simp)).trans ((World.cell?_setCell_other _ _ _ _ (by simp)).trans ((World.cell?_setCell_other _ _ _ _ (by simp)).trans r3)));refine bodyPost_ret (v:=.tuple #[uv (zs s k),.int .i64 0]) (by simp [results,Tryz.results95,go_sem,hS0,hS1,hS2,hS3]) rfl ?_;refine ⟨by rw [HE.out],?_⟩;exact ((((JB.setCell (by simp) _).setCell (by simp) _).setCell (by simp) _).setCell (by simp) _)
end Go.Proofs.YtbpmjppmpgeejaaGreatDoor
namespace Go.Proofs.YtbpmjppmpgeejaaGreatDoor
open Go Go.RowKit
set_option linter.unusedVariables false
theorem xA (s:ByteArray)(h:s.size≤32):sv (tl s)<big:=by
 have h1:=zdf (tl s);have h2:256^(tl s).length≤256^32:=Nat.pow_le_pow_right (by omega) h;have h3:(256:Nat)^32=big:=rfl;omega
theorem zhH (r s:Nat)(hr:r<big)(hs:s<big)(v:Int)(hm:zZ r s v=false):Fn Tryz.prog 48 #[sgv r s (v)] (.tuple #[.string ⟨#[]⟩,.int .i64 1]):=by
 refine Fn.intro (c:=zg Tryz.f48) [.tmp 2,.tmp 3] 20 Tryz.func48 kr kr kr fun w=>?_;have H0:=St.start w;refine rS [.b,.v,.v] H0 kr fun gs1 w1 H1=>?_;clear H0;refine zd kr<|zf [0,1,2] kr kr<|rp [.l 0,.c (vT r s hr hs (v))] H1 kr fun gs2 w2 H2=>wX [2] ?_;clear H1;refine zS 5 (v:=.bool (zZ r s (v))) (v':=.bool false) (za hm) kr<|rp [.v] H2 kr fun gs3 w3 H3=>wX [] ?_;clear H2;refine zb<|zj kr kr<|rS [.v,.v] H3 kr fun gs4 w4 H4=>?_;clear H3;refine zm kr<|wV ?_;refine ⟨[.string (⟨#[]⟩),.int .i64 1],(.tmp (.string (⟨#[]⟩)) kr (.tmp (.int .i64 1) kr .nil)),?_,H4.below⟩;rfl
theorem zdh (r s:Nat)(hr:r<big)(hs:s<big)(v:Int)(hm:zZ r s v=true):Fn Tryz.prog 48 #[sgv r s (v)] (.tuple #[.string (sbs r s v),.int .i64 0]):=by
 refine Fn.intro (c:=zg Tryz.f48) [.tmp 2,.tmp 3] 20 Tryz.func48 kr kr kr fun w=>?_;have H0:=St.start w;refine rS [.b,.v,.v] H0 kr fun gs1 w1 H1=>?_;clear H0;refine zd kr<|zf [0,1,2] kr kr<|rp [.l 0,.c (vT r s hr hs (v))] H1 kr fun gs2 w2 H2=>wX [2] ?_;clear H1;refine zS 5 (v:=.bool (zZ r s (v))) (v':=.bool true) (za hm) kr<|rp [.v] H2 kr fun gs3 w3 H3=>wX [] ?_;clear H2;refine zb<|zl kr kr<|zn kr<|wW<|dSg (fun gs4=>[.v,.l 0,.c (f:=76) (args:=#[uv r]) (v:=.string (bs r)) (zdd r hr),.v,.l 0,.c (f:=76) (args:=#[uv s]) (v:=.string (bs s)) (zdd s hs),.o (ins:=[((.tmp 9),.string (bs r)),((.tmp 12),.string (bs s))]) (v:=.string ((bs r)++(bs s))) (fun ρ o w ho hi=>kW (t:=9) (t':=9) (x:=(.tmp 9)) (y:=(.tmp 12)) (bs r) (bs s) w ho hi.1 hi.2.1 (by rw [qQ,qQ];omega)),.v,.l 0,.v,.nw (fun b=>.slice (some ⟨b,0,none⟩) 1 1) #[.int .u8 (IntKind.u8.wrap v)] 5,.x (ins:=[((.tmp 17),.slice (some ⟨(gs4 10).b,0,none⟩) 1 1)]) [(1,((gs4 10).b,Obj.cells #[.int .u8 (IntKind.u8.wrap v)] 5 (0,0)))] (xl (t:=76) (t':=9) (e:=5) [(IntKind.u8.wrap v)] kr kr kr (Rw.lit #[.int .u8 (IntKind.u8.wrap v)] 1 (by rfl) (by unfold maxLen;omega))),.o (ins:=[((.tmp 13),.string ((bs r)++(bs s))),((.tmp 18),.string (strOfNums ([(IntKind.u8.wrap v)])))]) (v:=.string (((bs r)++(bs s))++(strOfNums ([(IntKind.u8.wrap v)])))) (fun ρ o w ho hi=>kW (t:=9) (t':=9) (x:=(.tmp 13)) (y:=(.tmp 18)) ((bs r)++(bs s)) (strOfNums ([(IntKind.u8.wrap v)])) w ho hi.1 hi.2.1 (by rw [zar,qQ,qQ];show 32+32+1≤_;omega)),.v,.v]) H3 kr fun gs4 w4 H4=>?_;clear H3;refine zm kr<|wV ?_;refine ⟨[.string (((bs r)++(bs s))++(strOfNums ([(IntKind.u8.wrap v)]))),.int .i64 0],(.tmp (.string (((bs r)++(bs s))++(strOfNums ([(IntKind.u8.wrap v)])))) kr (.tmp (.int .i64 0) kr .nil)),?_,H4.below⟩;rfl
theorem vX (t:ByteArray)(h:ByteArray.size t=65):ByteArray.size (ByteArray.extract t 0 32)≤32:=by rw [←zv,qe,List.length_drop,List.length_take,zv,h];decide
theorem vY (t:ByteArray)(h:ByteArray.size t=65):ByteArray.size (ByteArray.extract t 32 64)≤32:=by rw [←zv,qe,List.length_drop,List.length_take,zv,h];decide
theorem zhI (t:ByteArray)(ht:ByteArray.size t≤0x7fffffffffffffff)(hsz:ByteArray.size t≠65):Fn Tryz.prog 60 #[.string t] (.tuple #[sgv 0 0 0,.int .i64 4]):=by
 refine Fn.intro (c:=zg Tryz.f60) [.cell 2 50,.tmp 3] 32 Tryz.func60 kr kr kr fun w=>?_;have H0:=St.start w;refine rS [.a,.v] H0 kr fun gs1 w1 H1=>?_;clear H0;refine zd kr<|rS [.v,.v,.E (.bool (!((ByteArray.size t:Int)==65))) (.bool true) (za (by rw [beq_eq_false_iff_ne.2 (by omega)];rfl))] H1 kr fun gs2 w2 H2=>?_;clear H1;refine zj kr kr<|rS [.v,.s 0,.v] H2 kr fun gs3 w3 H3=>?_;clear H2;refine zm kr<|wV ?_;refine ⟨[sgv 0 0 (0),.int .i64 4],(.agg (b:=(gs1 0).b) (Value.cells (sgv 0 0 (0))) 50 (0,0) kr (H3.get 0 kr) kr (.tmp (.int .i64 4) kr .nil)),?_,H3.below⟩
 kernel_rfl
theorem zhJ (t:ByteArray)(ht:ByteArray.size t≤0x7fffffffffffffff)(hsz:ByteArray.size t=65)(hm:zZ (sv (tl (ByteArray.extract t 0 32))) (sv (tl (ByteArray.extract t 32 64))) (((by_ t 64:Nat)):Int)=true):Fn Tryz.prog 60 #[.string t] (.tuple #[sgv (sv (tl (ByteArray.extract t 0 32))) (sv (tl (ByteArray.extract t 32 64))) (((by_ t 64:Nat)):Int),.int .i64 0]):=by
 have hbl:=jf t 64;refine Fn.intro (c:=zg Tryz.f60) [.cell 2 50,.tmp 3] 32 Tryz.func60 kr kr kr fun w=>?_;have H0:=St.start w;refine rS [.a,.v] H0 kr fun gs1 w1 H1=>?_;clear H0;refine zd kr<|rS [.v,.v,.E (.bool (!((ByteArray.size t:Int)==65))) (.bool false) (za (by rw [beq_iff_eq.2 (by omega)];rfl))] H1 kr fun gs2 w2 H2=>?_;clear H1;refine zl kr kr<|zn kr<|wW<|rS [.v,.o (ins:=[((.tmp 9),.string t),((.const (.int .i64 64)),.int .i64 64)]) (v:=.int .u8 ((by_ t 64:Nat):Int)) (fun ρ o w ho hi=>qw (t:=9) (kd:=.i64) kr (x:=(.tmp 9)) (y:=(.const (.int .i64 64))) t 64 ho hi.1 hi.2.1 (by omega) w),.E (.int .i64 (IntKind.i64.wrap (((by_ t 64:Nat):Int)))) (.int .i64 ((by_ t 64:Nat):Int)) (zr (kU (a:=by_ t 64) (by omega))),.v,.a,.s 1] H2 kr fun gs3 w3 H3=>?_;clear H2;refine rS [.v,.o (ins:=[((.tmp 14),.string t),((.const (.int .i64 32)),.int .i64 32)]) (v:=.string (ByteArray.extract t 0 32)) (fun ρ o w ho hi=>jB (t:=9) (kd:=.i64) kr (x:=(.tmp 14)) (y:=(.const (.int .i64 32))) t 32 ho hi.1 hi.2.1 (by omega) w),.c (vW (ByteArray.extract t 0 32) (vX t hsz)),.v,.v,.v,.v,.s 1] H3 kr fun gs4 w4 H4=>?_;clear H3;refine yK [0,2,3,4,7] fun ρ1=>?_;have HK1:=H4.keep;clear H4;refine rS [.v,.o (ins:=[((.tmp 21),.string t),((.const (.int .i64 64)),.int .i64 64),((.const (.int .i64 32)),.int .i64 32)]) (v:=.string (ByteArray.extract t 32 64)) (fun ρ o w ho hi=>zbm (t:=9) (kd:=.i64) (kz:=.i64) kr (x:=(.tmp 21)) (y:=(.const (.int .i64 64))) (z:=(.const (.int .i64 32))) t 32 64 ho hi.1 hi.2.1 hi.2.2.1 (by omega) (by omega) w),.c (vW (ByteArray.extract t 32 64) (vY t hsz)),.v,.v,.v,.v,.s 1] HK1 kr fun gs5 w5 H5=>?_;clear HK1;refine zd kr<|zf [0,1,2] kr kr<|rp [.l 1,.c (vT (sv (tl (ByteArray.extract t 0 32))) (sv (tl (ByteArray.extract t 32 64))) (xA (ByteArray.extract t 0 32) (vX t hsz)) (xA (ByteArray.extract t 32 64) (vY t hsz)) (((by_ t 64:Nat):Int)))] H5 kr fun gs6 w6 H6=>wX [2] ?_;clear H5;refine zS 28 (v:=.bool (zZ (sv (tl (ByteArray.extract t 0 32))) (sv (tl (ByteArray.extract t 32 64))) (((by_ t 64:Nat):Int)))) (v':=.bool true) (za hm) kr<|rp [.v] H6 kr fun gs7 w7 H7=>wX [] ?_;clear H6;refine zb<|zl kr kr<|zn kr<|wW<|rS [.l 1,.s 0,.v] H7 kr fun gs8 w8 H8=>?_;clear H7;refine zm kr<|wV ?_;refine ⟨[sgv (sv (tl (ByteArray.extract t 0 32))) (sv (tl (ByteArray.extract t 32 64))) (((by_ t 64:Nat):Int)),.int .i64 0],(.agg (b:=(gs1 0).b) (Value.cells (sgv (sv (tl (ByteArray.extract t 0 32))) (sv (tl (ByteArray.extract t 32 64))) (((by_ t 64:Nat):Int)))) 50 (0,0) kr (H8.get 0 kr) kr (.tmp (.int .i64 0) kr .nil)),?_,H8.below⟩
 kernel_rfl
theorem zhK (t:ByteArray)(ht:ByteArray.size t≤0x7fffffffffffffff)(hsz:ByteArray.size t=65)(hm:zZ (sv (tl (ByteArray.extract t 0 32))) (sv (tl (ByteArray.extract t 32 64))) (((by_ t 64:Nat)):Int)=false):Fn Tryz.prog 60 #[.string t] (.tuple #[sgv 0 0 0,.int .i64 4]):=by
 have hbl:=jf t 64;refine Fn.intro (c:=zg Tryz.f60) [.cell 2 50,.tmp 3] 32 Tryz.func60 kr kr kr fun w=>?_;have H0:=St.start w;refine rS [.a,.v] H0 kr fun gs1 w1 H1=>?_;clear H0;refine zd kr<|rS [.v,.v,.E (.bool (!((ByteArray.size t:Int)==65))) (.bool false) (za (by rw [beq_iff_eq.2 (by omega)];rfl))] H1 kr fun gs2 w2 H2=>?_;clear H1;refine zl kr kr<|zn kr<|wW<|rS [.v,.o (ins:=[((.tmp 9),.string t),((.const (.int .i64 64)),.int .i64 64)]) (v:=.int .u8 ((by_ t 64:Nat):Int)) (fun ρ o w ho hi=>qw (t:=9) (kd:=.i64) kr (x:=(.tmp 9)) (y:=(.const (.int .i64 64))) t 64 ho hi.1 hi.2.1 (by omega) w),.E (.int .i64 (IntKind.i64.wrap (((by_ t 64:Nat):Int)))) (.int .i64 ((by_ t 64:Nat):Int)) (zr (kU (a:=by_ t 64) (by omega))),.v,.a,.s 1] H2 kr fun gs3 w3 H3=>?_;clear H2;refine rS [.v,.o (ins:=[((.tmp 14),.string t),((.const (.int .i64 32)),.int .i64 32)]) (v:=.string (ByteArray.extract t 0 32)) (fun ρ o w ho hi=>jB (t:=9) (kd:=.i64) kr (x:=(.tmp 14)) (y:=(.const (.int .i64 32))) t 32 ho hi.1 hi.2.1 (by omega) w),.c (vW (ByteArray.extract t 0 32) (vX t hsz)),.v,.v,.v,.v,.s 1] H3 kr fun gs4 w4 H4=>?_;clear H3;refine yK [0,2,3,4,7] fun ρ1=>?_;have HK1:=H4.keep;clear H4;refine rS [.v,.o (ins:=[((.tmp 21),.string t),((.const (.int .i64 64)),.int .i64 64),((.const (.int .i64 32)),.int .i64 32)]) (v:=.string (ByteArray.extract t 32 64)) (fun ρ o w ho hi=>zbm (t:=9) (kd:=.i64) (kz:=.i64) kr (x:=(.tmp 21)) (y:=(.const (.int .i64 64))) (z:=(.const (.int .i64 32))) t 32 64 ho hi.1 hi.2.1 hi.2.2.1 (by omega) (by omega) w),.c (vW (ByteArray.extract t 32 64) (vY t hsz)),.v,.v,.v,.v,.s 1] HK1 kr fun gs5 w5 H5=>?_;clear HK1;refine zd kr<|zf [0,1,2] kr kr<|rp [.l 1,.c (vT (sv (tl (ByteArray.extract t 0 32))) (sv (tl (ByteArray.extract t 32 64))) (xA (ByteArray.extract t 0 32) (vX t hsz)) (xA (ByteArray.extract t 32 64) (vY t hsz)) (((by_ t 64:Nat):Int)))] H5 kr fun gs6 w6 H6=>wX [2] ?_;clear H5;refine zS 28 (v:=.bool (zZ (sv (tl (ByteArray.extract t 0 32))) (sv (tl (ByteArray.extract t 32 64))) (((by_ t 64:Nat):Int)))) (v':=.bool false) (za hm) kr<|rp [.v] H6 kr fun gs7 w7 H7=>wX [] ?_;clear H6;refine zb<|zj kr kr<|rS [.v,.s 0,.v] H7 kr fun gs8 w8 H8=>?_;clear H7;refine zm kr<|wV ?_;refine ⟨[sgv 0 0 (0),.int .i64 4],(.agg (b:=(gs1 0).b) (Value.cells (sgv 0 0 (0))) 50 (0,0) kr (H8.get 0 kr) kr (.tmp (.int .i64 4) kr .nil)),?_,H8.below⟩
 kernel_rfl
def kt:ByteArray→Value:=fun t=>if ByteArray.size t≠65 then .tuple #[sgv 0 0 0,.int .i64 4] else if zZ (sv (tl (ByteArray.extract t 0 32))) (sv (tl (ByteArray.extract t 32 64))) (((by_ t 64:Nat)):Int)=true then .tuple #[sgv (sv (tl (ByteArray.extract t 0 32))) (sv (tl (ByteArray.extract t 32 64))) (((by_ t 64:Nat)):Int),.int .i64 0] else .tuple #[sgv 0 0 0,.int .i64 4]
theorem zhL (t:ByteArray)(ht:ByteArray.size t≤0x7fffffffffffffff):Fn Tryz.prog 60 #[.string t] (kt t):=by
 unfold kt;by_cases h:ByteArray.size t≠65
 ·rw [if_pos h];exact zhI t ht h
 ·rw [if_neg h];have h2:ByteArray.size t=65:=by omega
  cases hm:zZ (sv (tl (ByteArray.extract t 0 32))) (sv (tl (ByteArray.extract t 32 64))) (((by_ t 64:Nat)):Int)
  ·rw [if_neg (by simp)];exact zhK t ht h2 hm
  ·rw [if_pos rfl];exact zhJ t ht h2 hm
end Go.Proofs.YtbpmjppmpgeejaaGreatDoor
namespace Go.Proofs.YtbpmjppmpgeejaaGreatDoor
open Go.RowKit
theorem zhM (x:Int)(_h0:0≤x)(h1:x<256):(UInt8.ofNat x.toNat).toNat=x.toNat:=by
 simp;omega
theorem vZ (x:Int)(n:Nat)(hx:Wd x):
 256*(256*(256*(256*(256*(256*(256*(256*n+(x / 72057594037927936%256).toNat)+(x / 281474976710656%256).toNat)+(x / 1099511627776%256).toNat)+(x / 4294967296%256).toNat)+(x / 16777216%256).toNat)+(x / 65536%256).toNat)+(x / 256%256).toNat)+(x%256).toNat=0x10000000000000000*n+x.toNat:=by
 obtain ⟨hx0,hx1⟩:=hx;obtain ⟨y,rfl⟩:=Int.eq_ofNat_of_zero_le hx0;have hy:y<0x10000000000000000:=by omega
 have c0:((y:Int)%256).toNat=y%256:=by omega
 have c1:((y:Int) / 256%256).toNat=y / 256%256:=by omega
 have c2:((y:Int) / 65536%256).toNat=y / 65536%256:=by omega
 have c3:((y:Int) / 16777216%256).toNat=y / 16777216%256:=by omega
 have c4:((y:Int) / 4294967296%256).toNat=y / 4294967296%256:=by omega
 have c5:((y:Int) / 1099511627776%256).toNat=y / 1099511627776%256:=by omega
 have c6:((y:Int) / 281474976710656%256).toNat=y / 281474976710656%256:=by omega
 have c7:((y:Int) / 72057594037927936%256).toNat=y / 72057594037927936%256:=by omega
 rw [Int.toNat_natCast,c7,c6,c5,c4,c3,c2,c1,c0];clear c0 c1 c2 c3 c4 c5 c6 c7 hx0 hx1;have s0:y=256*(y / 256)+y%256:=by omega
 have s1:y / 256=256*(y / 65536)+y / 256%256:=by rw [show y / 65536=y / 256 / 256 from by rw [Nat.div_div_eq_div_mul]];omega
 have s2:y / 65536=256*(y / 16777216)+y / 65536%256:=by rw [show y / 16777216=y / 65536 / 256 from by rw [Nat.div_div_eq_div_mul]];omega
 have s3:y / 16777216=256*(y / 4294967296)+y / 16777216%256:=by rw [show y / 4294967296=y / 16777216 / 256 from by rw [Nat.div_div_eq_div_mul]];omega
 have s4:y / 4294967296=256*(y / 1099511627776)+y / 4294967296%256:=by rw [show y / 1099511627776=y / 4294967296 / 256 from by rw [Nat.div_div_eq_div_mul]];omega
 have s5:y / 1099511627776=256*(y / 281474976710656)+y / 1099511627776%256:=by rw [show y / 281474976710656=y / 1099511627776 / 256 from by rw [Nat.div_div_eq_div_mul]];omega
 have s6:y / 281474976710656=256*(y / 72057594037927936)+y / 281474976710656%256:=by rw [show y / 72057594037927936=y / 281474976710656 / 256 from by rw [Nat.div_div_eq_div_mul]];omega
 have s7:y / 72057594037927936%256=y / 72057594037927936:=by omega
 generalize y / 256=z1 at*;generalize y / 65536=z2 at*;generalize y / 16777216=z3 at*;generalize y / 4294967296=z4 at*;generalize y / 1099511627776=z5 at*;generalize y / 281474976710656=z6 at*;generalize y / 72057594037927936=z7 at*;omega
theorem zdi (A:Nat)(hA:A<big):sv (bs A).data.toList=A:=by
 have e:(bs A).data.toList=(bn A).map fun n=>UInt8.ofNat n.toNat:=by simp [bs,strOfNums]
 have b: ∀x:Int,(UInt8.ofNat (x%256).toNat).toNat=(x%256).toNat:=fun x=>zhM _ (by omega) (by omega);rw [e];unfold sv bn;simp only [List.map_cons,List.map_nil,List.foldl_cons,List.foldl_nil,b];rw [vZ _ _ (wd3 A),vZ _ _ (wd2 A),vZ _ _ (wd1 A),vZ _ _ (wd0 A)];have h:=jh A hA;have h0:=wd0 A;have h1:=wd1 A;have h2:=wd2 A;have h3:=wd3 A;unfold Wd at h0 h1 h2 h3;omega
end Go.Proofs.YtbpmjppmpgeejaaGreatDoor
namespace Go.Proofs.YtbpmjppmpgeejaaGreatDoor
open Go Go.RowKit
set_option linter.unusedVariables false
theorem ua (r s:Nat)(v:Int):(sbs r s v).size=65:=by
 unfold sbs;rw [zar,zar,qQ,qQ];rfl
theorem zas (r s:Nat)(v:Int):tl (sbs r s v)=tl (bs r)++(tl (bs s)++tl (strOfNums [IntKind.u8.wrap v])):=by
 unfold sbs;rw [uC,uC,List.append_assoc]
theorem zhN (r s:Nat)(v:Int):(sbs r s v).extract 0 32=bs r:=by
 apply qT;rw [qe,zas,List.drop_zero];exact List.take_left' (by rw [zv];exact qQ r)
theorem zhO (r s:Nat)(v:Int):(sbs r s v).extract 32 64=bs s:=by
 have h1:(tl (bs r)).length=32:=by rw [zv];exact qQ r
 have h2:(tl (bs s)).length=32:=by rw [zv];exact qQ s
 apply qT;rw [qe,zas,←List.append_assoc,List.take_left' (by rw [List.length_append];omega),List.drop_left' h1]
theorem zdj (r s:Nat)(v:Nat)(hv:v<256):by_ (sbs r s (v:Int)) 64=v:=by
 have h1:(tl (bs r)).length=32:=by rw [zv];exact qQ r
 have h2:(tl (bs s)).length=32:=by rw [zv];exact qQ s
 unfold by_;rw [zas,←List.append_assoc,List.getD_eq_getElem?_getD,List.getElem?_append_right (by rw [List.length_append];omega),List.length_append,h1,h2];have e:IntKind.u8.wrap (v:Int)=(v:Int):=by simp [IntKind.wrap,IntKind.bits,IntKind.signed];omega
 rw [e];show (((tl (strOfNums [(v:Int)]))[0]?).getD 0).toNat=v;have e2:tl (strOfNums [(v:Int)])=[UInt8.ofNat v]:=by simp [strOfNums,tl]
 rw [e2];simp;omega
def sgR (t:ByteArray):Nat:=sv (tl (t.extract 0 32))
def sgS (t:ByteArray):Nat:=sv (tl (t.extract 32 64))
def sgV (t:ByteArray):Int:=((by_ t 64:Nat):Int)
theorem zhP {t:ByteArray}(h:t.size=65):sgR t<big:=xA _ (by rw [ByteArray.size_extract];omega)
theorem zhQ {t:ByteArray}(h:t.size=65):sgS t<big:=xA _ (by rw [ByteArray.size_extract];omega)
theorem zhR {r s:Nat}{v:Int}(h:zZ r s v=true):v=0∨v=1:=by
 unfold zZ at h;rw [Bool.and_eq_true,Bool.or_eq_true,decide_eq_true_iff,decide_eq_true_iff] at h;exact h.2
theorem zat {r s:Nat}{v:Int}(hr:r<big):sgR (sbs r s v)=r:=by
 unfold sgR;rw [zhN];exact zdi r hr
theorem zau {r s:Nat}{v:Int}(hs:s<big):sgS (sbs r s v)=s:=by
 unfold sgS;rw [zhO];exact zdi s hs
theorem zav {r s:Nat}{v:Int}(h:zZ r s v=true):sgV (sbs r s v)=v:=by
 unfold sgV;rcases zhR h with rfl | rfl
 ·exact congrArg (Nat.cast:Nat→Int) (zdj r s 0 (by decide))
 ·exact congrArg (Nat.cast:Nat→Int) (zdj r s 1 (by decide))
theorem zhS (t:ByteArray):kt t=if t.size=65∧zZ (sgR t) (sgS t) (sgV t)=true then .tuple #[sgv (sgR t) (sgS t) (sgV t),.int .i64 0] else .tuple #[sgv 0 0 0,.int .i64 4]:=by
 unfold kt;by_cases h:t.size=65
 ·rw [if_neg (fun h9=>h9 h)];by_cases hm:zZ (sgR t) (sgS t) (sgV t)=true
  ·rw [if_pos (show t.size=65∧zZ (sgR t) (sgS t) (sgV t)=true from ⟨h,hm⟩)];exact if_pos hm
  ·rw [if_neg (show ¬(t.size=65∧zZ (sgR t) (sgS t) (sgV t)=true) from fun h9=>hm h9.2)];exact if_neg hm
 ·rw [if_pos h,if_neg (fun h9=>h h9.1)]
theorem zhT (r s:Nat)(v:Int)(r' s':Nat)(v':Int)(hr:r<big)(hs:s<big)(hr':r'<big)(hs':s'<big)(w:World):(Op.equalIn 10000 50 (.agg (Value.cells (sgv r s v))) (.agg (Value.cells (sgv r' s' v')))).run Tryz.prog w=.ok (decide (r=r')&&(decide (s=s')&&(v==v'))) w:=by
 rw [run_equalIn_struct w 9999 50 _ _ kr kr,
  show (Tryz.prog.fieldsOf 50).toList= [{ name:= "R",type:=48,offset:=0,embedded:=false,tag:= "",pkgPath:= "",byteOffset:=0 },{ name:= "S",type:=48,offset:=4,embedded:=false,tag:= "",pkgPath:= "",byteOffset:=32 },{ name:= "V",type:=3,offset:=8,embedded:=false,tag:= "",pkgPath:= "",byteOffset:=64 }] by kernel_rfl]
 have px: ∀r s v,(part 48 (Value.cells (sgv r s v)) 0).run Tryz.prog w=.ok (uv r) w:=fun r s v=>by kernel_rfl
 have py: ∀r s v,(part 48 (Value.cells (sgv r s v)) 4).run Tryz.prog w=.ok (uv s) w:=fun r s v=>by kernel_rfl
 have pb: ∀r s v,(part 3 (Value.cells (sgv r s v)) 8).run Tryz.prog w=.ok (.int .i64 v) w:=fun r s v=>by kernel_rfl
 have ex: ∀r r':Nat,r<big→r'<big→(Op.equalIn 9999 48 (uv r) (uv r')).run Tryz.prog w=.ok (decide (r=r')) w:=fun r r' hr hr'=>by
  have h9:=zbK hr hr';rw [←h9];exact zbJ 9997 _ _ _ _ _ _ _ _ w
 have eb:(Op.equalIn 9999 3 (.int .i64 v) (.int .i64 v')).run Tryz.prog w=.ok (v==v') w:=by
  rw [run_equalIn_int w 9998 3 .i64 .i64 v v' Tryz.underlying3]
 have n1:("R" :String)≠ "_" :=by decide
 have n2:("S" :String)≠ "_" :=by decide
 have n3:("V" :String)≠ "_" :=by decide
 simp only [Op.eqFields,if_pos n1,if_pos n2,if_pos n3,Sem.run_bind,px,py,pb,Result.andThen_ok,ex r r' hr hr',ex s s' hs hs',eb,Sem.run_ite];by_cases h1:r=r'
 ·by_cases h2:s=s'
  ·cases h3:(v==v')<;>simp [h1,h2]
  ·simp [h1,h2]
 ·simp [h1]
theorem zhU {ρ:Env}(r s:Nat)(v:Int)(r' s':Nat)(v':Int)(hr:r<big)(hs:s<big)(hr':r'<big)(hs':s'<big){x y:Operand}{o:Oper}(w:World)(ho:o.op=.binOp .neq 50 x y 50)(hx:ev ρ x=.agg (Value.cells (sgv r s v)))(hy:ev ρ y=.agg (Value.cells (sgv r' s' v'))):
 (execOp (ev ρ) o).run Tryz.prog w=.ok (.value (.bool (!(decide (r=r')&&(decide (s=s')&&(v==v')))))) w:=by
 have h:=zhT r s v r' s' v' hr hs hr' hs' w;generalize Value.cells (sgv r s v)=X at h hx;generalize Value.cells (sgv r' s' v')=Y at h hy;unfold execOp;simp only [ho,hx,hy,resolve,Sem.run_bind,Sem.run_pure,Result.andThen_ok,run_eqGuard_agg w _ _ _ _ _ _ (show Tryz.prog.eqGuardType Tryz.prog.depth 50=false by kernel_rfl),run_eql_struct,run_neq_struct,h]
theorem ub (m sz ln:Nat):zx 97 0 m sz ln=(decide (m=0)&&(decide (sz=20)&&decide (ln=0))):=by
 unfold zx yp zO zT;rw [Bool.eq_iff_iff];simp<;>omega
theorem zdk (m sz ln:Nat):zx 115 0 m sz ln=(decide (m=0)&&(decide (sz=65)&&decide (ln=0))):=by
 unfold zx yp zO zT;rw [Bool.eq_iff_iff];simp<;>omega
theorem zdl (m sz ln:Nat):zx 110 0 m sz ln=(decide (sz=0)&&decide (ln=0)):=by
 unfold zx yp zO zT;rw [Bool.eq_iff_iff];simp<;>omega
theorem zdm (m sz ln:Nat):zx 98 0 m sz ln=(decide (m=0)&&(decide (sz≤64)&&decide (ln=0))):=by
 unfold zx yp zO zT;rw [Bool.eq_iff_iff];simp<;>omega
theorem uc (g:Nat)(q:ByteArray)(x:Nat×ByteArray)(l:Fe)(hg:by_ q 0=g)(h:g≠42):qC q x l=zx g 0 x.1 x.2.size l.len:=by
 have e:kdB q=.nil:=by unfold kdB;rw [hg,if_neg h]
 unfold qC;rw [e,hg,beq_eq_false_iff_ne.2 h];simp [Fr.len]
def hv:List UInt8→List UInt8
 | []=>[]
 | b::t=>(b >>> 4)::(b &&& 15)::hv t
def isP (l:List UInt8):Bool:=l.all fun b=>decide (b.toNat≤15)
def jn:List UInt8→List UInt8
 | a::b::t=>(a <<< 4 ||| b)::jn t
 | _=>[]
def lexB:List UInt8→List UInt8→Bool
 | [],[]=>false
 | [],_::_=>true
 | _::_,[]=>false
 | a::l,b::m=>if a.toNat<b.toNat then true else if a=b then lexB l m else false
structure Nd where
 kind:Int
 part:ByteArray
 value:ByteArray
 kids:List Int
def kyB (l:List UInt8):Bool:=isP l&& !decide (l.length%2=1)
def kyS (l:List UInt8):ByteArray:=bif kyB l then zh (jn l) else ⟨#[]⟩
section
variable {P:Program}{N:Nat}{ops:Array Oper}{i:Nat}{r:List Nat}{K:Env→World→Prop}{ρ:Env}{w:World}
end
abbrev Pr:=ByteArray×ByteArray
def mayM (k v:ByteArray):Bool:=(decide (1≤k.size)&&decide (k.size≤32))&&(decide (1≤v.size)&&decide (v.size≤500))
def zhV (part:List UInt8)(v:ByteArray)(ps:List Pr):List Pr:=if mayM (kyS part) v=true then ps++ [(kyS part,v)] else ps
def zhW (kind:Int)(i:Nat):List UInt8:=if kind=3 then [UInt8.ofNat i] else []
def zaw (go:Int→List UInt8→Nat×List Pr→Nat×List Pr)(x:Nd)(part:List UInt8):Nat→Nat×List Pr→Nat×List Pr
 | 0,s=>s
 | i+1,s=>if x.kids.getD i (-1)= -1 then zaw go x part i s else go (x.kids.getD i (-1)) (part++zhW x.kind i) (zaw go x part i s)
def zdn (A:List Nd):Nat→Int→List UInt8→Nat×List Pr→Nat×List Pr
 | 0,_,_,s=>s
 | f+1,at_,ahead,s=>
  if s.1=0∨at_<0∨(A.length:Int)≤at_ then s
  else match A[at_.toNat]? with
   | none=>s
   | some x=>if 64<ahead.length+x.part.size then (s.1-1,s.2)
    else zaw (zdn A f) x (ahead++tl x.part) 16 (s.1-1,zhV (ahead++tl x.part) x.value s.2)
section
variable {P:Program}{N:Nat}{ops:Array Oper}{i:Nat}{r:List Nat}{K:Env→World→Prop}{ρ:Env}{w:World}
end
theorem zdo: ∀x y:List UInt8,Op.bytesLess x y=lexB x y
 | [],[]=>rfl
 | [],_::_=>rfl
 | _::_,[]=>rfl
 | a::x,b::y=>by
  unfold Op.bytesLess lexB;rw [zdo x y];by_cases h:a.toNat<b.toNat
  ·rw [if_pos h,decide_eq_true (show a<b from h)];rfl
  ·rw [if_neg h,decide_eq_false (show ¬a<b from h)];by_cases e:a=b
   ·rw [if_pos e,e];simp
   ·rw [if_neg e];simp [e]
theorem zdp (a b:ByteArray):Op.bytesLess a.toList b.toList=lexB (tl a) (tl b):=by
 rw [ByteArray.toList_eq,ByteArray.toList_eq];exact zdo _ _
def ziX (A:List Nd)(root:Int):List Pr:=(zdn A 192 root [] (192,[])).2
structure OkP (L:List Pr):Prop where
 len:L.length≤64
 may: ∀x∈L,mayM x.1 x.2=true
 rise:L.Pairwise fun a b=>lexB (tl a.1) (tl b.1)=true
theorem qW {α:Type}{L:List α}{i:Nat}{a:α}(ha:L[i]? =some a):L.take (i+1)=L.take i++ [a]:=by
 rw [List.take_add_one,ha];rfl
def upB:Option ByteArray→ByteArray→Bool
 | none,_=>true
 | some p,a=>lexB (tl p) (tl a)
theorem zax {α:Type}{L:List α}{i:Nat}{x:α}(h:L[i]? =some x):L.drop i=x::L.drop (i+1):=by
 obtain ⟨hi,rfl⟩:=List.getElem?_eq_some_iff.1 h;exact (List.getElem_cons_drop (h:=hi)).symm
abbrev Fel:=El (Nat×ByteArray)
abbrev Sg:=Nat×Nat×Int
def sgF:Fl Sg where
 K:=9
 cs x:=[.int .u64 (w0 x.1),.int .u64 (w1 x.1),.int .u64 (w2 x.1),.int .u64 (w3 x.1),.int .u64 (w0 x.2.1),.int .u64 (w1 x.2.1),.int .u64 (w2 x.2.1),.int .u64 (w3 x.2.1),.int .i64 x.2.2]
 pos:=by decide
 len _:=rfl
 one a:=fun u hu=>by simp at hu;rcases hu with h | h | h | h | h | h | h | h | h<;>rw [h]<;>rfl
abbrev sgB (x:Sg):ByteArray:=sbs x.1 x.2.1 x.2.2
def sgOk (x:Sg):Prop:=x.1<big∧x.2.1<big
abbrev sgMay (x:Sg):Bool:=zZ x.1 x.2.1 x.2.2
structure Hdr where
 pa:ByteArray
 hh:Nat
 ro:ByteArray
 tx:ByteArray
 pr:ByteArray
 va:ByteArray
 vs:List ByteArray
 vo:ByteArray
 ad:Bool
 rd:Nat
 ss:List Sg
theorem zay {h k:Hdr}(e1:h.pa=k.pa)(e2:h.hh=k.hh)(e3:h.ro=k.ro)(e4:h.tx=k.tx)(e5:h.pr=k.pr)(e6:h.va=k.va)(e7:h.vs=k.vs)(e8:h.vo=k.vo)(e9:h.ad=k.ad)(e10:h.rd=k.rd)(e11:h.ss=k.ss):h=k:=by
 cases h;cases k;simp only at*;subst e1 e2 e3 e4 e5 e6 e7 e8 e9 e10 e11;rfl
structure ye (h:Hdr):Prop where
 hh:h.hh<0x10000000000000000
 rd:h.rd<0x10000000000000000
 pa:h.pa.size≤1000000
 ro:h.ro.size≤1000000
 tx:h.tx.size≤1000000
 pr:h.pr.size≤1000000
 va:h.va.size≤1000000
 vo:h.vo.size≤1000000
 vs: ∀x∈h.vs,ByteArray.size x≤1000000
 vl:h.vs.length≤1000
 ss: ∀x∈h.ss,sgOk x
 sl:h.ss.length≤1000
def jM:Option ByteArray→List ByteArray→Bool
 | _,[]=>true
 | p,a::r=>decide (a.size=20)&&(upB p a&&jM (some a) r)
def setM (L:List ByteArray):Bool:=jM none L&&(decide (0<L.length)&&decide (L.length≤16))
def voteB (vo:ByteArray)(ad:Bool):Bool:=if vo.size=0 then !ad else decide (vo.size=20)
def ya (h:Hdr):Bool:=
 (decide (h.pa.size=32)&&(decide (h.ro.size=32)&&(decide (h.tx.size=32)&&(decide (h.pr.size=20)&&(decide (h.va.size≤8)&&setM h.vs)))))&&((voteB h.vo h.ad&&decide (h.ss.length≤16))&&h.ss.all sgMay)
def lsF:List ByteArray→Fe
 | []=>.nil
 | a::r=>.cons (0,a) .nil (lsF r)
theorem ku: ∀L,(lsF L).len=L.length
 | []=>rfl
 | a::r=>by simp only [lsF,Fr.len,List.length_cons,ku r]
theorem zdq: ∀L,(lsF L).cnt=L.length
 | []=>rfl
 | a::r=>by simp only [lsF,Fr.cnt,List.length_cons,zdq r];omega
theorem zaz: ∀ {L M:List ByteArray},lsF L=lsF M→L=M
 | [],[],_=>rfl
 | a::r,b::t,h=>by
  unfold lsF at h;injection h with h1 _ h2;injection h1 with _ h1
  rw [h1,zaz h2]
 | [],b::t,h=>by unfold lsF at h;cases h
 | a::r,[],h=>by unfold lsF at h;cases h
theorem zaA: ∀ {L:List ByteArray},(∀x∈L,ByteArray.size x≤0x800000000000)→(lsF L).all fS.ok
 | [],_=>trivial
 | a::r,h=>⟨⟨(by decide:0<0x10000000000000000),h a (List.mem_cons_self ..)⟩,trivial,zaA fun x hx=>h x (List.mem_cons_of_mem _ hx)⟩
def hdL (pa:ByteArray)(hh:Nat)(ro tx pr va:ByteArray)(L:List ByteArray)(vo:ByteArray)(a rd:Nat)(M:List ByteArray):Fe:=
 .cons (0,pa) .nil (.cons (hh,em) .nil (.cons (0,ro) .nil (.cons (0,tx) .nil (.cons (0,pr) .nil (.cons (0,va) .nil (.cons (0,em) (lsF L) (.cons (0,vo) .nil (.cons (a,em) .nil (.cons (rd,em) .nil (.cons (0,em) (lsF M) .nil))))))))))
def adN (b:Bool):Nat:=if b then 1 else 0
def hdF (h:Hdr):Fe:=hdL h.pa h.hh h.ro h.tx h.pr h.va h.vs h.vo (adN h.ad) h.rd (h.ss.map sgB)
abbrev yT:ByteArray:=⟨#[104,110,104,104,97,98,42,97,98,110,110,42,115]⟩
def hK:List ByteArray:=[⟨#[104]⟩,⟨#[110]⟩,⟨#[104]⟩,⟨#[104]⟩,⟨#[97]⟩,⟨#[98]⟩,⟨#[42,97]⟩,⟨#[98]⟩,⟨#[110]⟩,⟨#[110]⟩,⟨#[42,115]⟩]
theorem xa:zcT yT hK:=⟨by decide,by kernel_rfl,by kernel_rfl,by kernel_rfl,List.all_eq_true.1 (show hK.all kdOk=true by kernel_rfl)⟩
def qi (h:Hdr):ByteArray:=(wrV yT (hdF h)).1
theorem zdr {pa pa':ByteArray}{hh hh':Nat}{ro ro' tx tx' pr pr' va va':ByteArray}{L L':List ByteArray}{vo vo':ByteArray}{a a' rd rd':Nat}{M M':List ByteArray}(h:hdL pa hh ro tx pr va L vo a rd M=hdL pa' hh' ro' tx' pr' va' L' vo' a' rd' M'):
 pa=pa'∧hh=hh'∧ro=ro'∧tx=tx'∧pr=pr'∧va=va'∧L=L'∧vo=vo'∧a=a'∧rd=rd'∧M=M':=by
 unfold hdL at h;injection h with e1 _ h;injection h with e2 _ h;injection h with e3 _ h;injection h with e4 _ h;injection h with e5 _ h;injection h with e6 _ h;injection h with _ e7 h;injection h with e8 _ h;injection h with e9 _ h;injection h with e10 _ h;injection h with _ e11 _
 injection e1 with _ e1;injection e2 with e2 _;injection e3 with _ e3;injection e4 with _ e4;injection e5 with _ e5;injection e6 with _ e6;injection e8 with _ e8;injection e9 with e9 _;injection e10 with e10 _
 exact ⟨e1,e2,e3,e4,e5,e6,zaz e7,e8,e9,e10,zaz e11⟩
theorem zhX {a b:Bool}(h:adN a=adN b):a=b:=by cases a<;>cases b<;>first | rfl | cases h
theorem zhY {x y:Sg}(hx:sgOk x)(hy:sgOk y)(mx:sgMay x=true)(my:sgMay y=true)(h:sgB x=sgB y):x=y:=by
 obtain ⟨r,s,v⟩:=x;obtain ⟨r',s',v'⟩:=y;have e1:=congrArg sgR h;have e2:=congrArg sgS h;have e3:=congrArg sgV h;rw [zat hx.1,zat hy.1] at e1;rw [zau hx.2,zau hy.2] at e2;rw [zav mx,zav my] at e3;exact Prod.ext e1 (Prod.ext e2 e3)
theorem zds: ∀ {L M:List Sg},(∀x∈L,sgOk x)→(∀x∈M,sgOk x)→L.all sgMay=true→M.all sgMay=true→L.map sgB=M.map sgB→L=M
 | [],[],_,_,_,_,_=>rfl
 | x::r,y::t,hL,hM,aL,aM,h=>by
  simp only [List.all_cons,Bool.and_eq_true] at aL aM;simp only [List.map_cons,List.cons.injEq] at h;rw [zhY (hL x (List.mem_cons_self ..)) (hM y (List.mem_cons_self ..)) aL.1 aM.1 h.1,zds (fun z hz=>hL z (List.mem_cons_of_mem _ hz)) (fun z hz=>hM z (List.mem_cons_of_mem _ hz)) aL.2 aM.2 h.2]
 | [],y::t,_,_,_,_,h=>by simp at h
 | x::r,[],_,_,_,_,h=>by simp at h
structure RtH (h:Hdr):Prop where
 pa:h.pa.size=32
 ro:h.ro.size=32
 tx:h.tx.size=32
 pr:h.pr.size=20
 va:h.va.size≤8
 st:setM h.vs=true
 vo:voteB h.vo h.ad=true
 sl:h.ss.length≤16
 ss:h.ss.all sgMay=true
theorem jN {h:Hdr} :ya h=true↔RtH h:=by
 unfold ya;simp only [Bool.and_eq_true,decide_eq_true_eq];exact ⟨fun ⟨⟨h1,h2,h3,h4,h5,h6⟩,⟨h7,h8⟩,h9⟩=>⟨h1,h2,h3,h4,h5,h6,h7,h8,h9⟩,fun ⟨h1,h2,h3,h4,h5,h6,h7,h8,h9⟩=>⟨⟨h1,h2,h3,h4,h5,h6⟩,⟨h7,h8⟩,h9⟩⟩
theorem zhZ {h k:Hdr}(oh:ye h)(ok:ye k)(rh:ya h=true)(rk:ya k=true)(e:hdF h=hdF k):h=k:=by
 have r1:=jN.1 rh;have r2:=jN.1 rk;obtain ⟨e1,e2,e3,e4,e5,e6,e7,e8,e9,e10,e11⟩:=zdr e;have e9:=zhX e9;have e11:=zds oh.ss ok.ss r1.ss r2.ss e11;exact zay e1 e2 e3 e4 e5 e6 e7 e8 e9 e10 e11
theorem zdt {p:Option ByteArray} : ∀ {L:List ByteArray},jM p L=true→ ∀x∈L,ByteArray.size x=20:=by
 intro L
 induction L generalizing p with
 | nil=>intro _ x hx;exact nomatch hx
 | cons a r ih=>
  intro h x hx;simp only [jM,Bool.and_eq_true,decide_eq_true_eq] at h;rcases List.mem_cons.1 hx with rfl | hx
  ·exact h.1
  ·exact ih h.2.2 x hx
theorem ud {h:Hdr}(o:ye h):(hdF h).all fS.ok:=by
 have z:(0:Nat)<0x10000000000000000:=by decide
 have ze:em.size≤0x800000000000:=Nat.zero_le _;have ha:adN h.ad<0x10000000000000000:=by unfold adN;split<;>decide
 have h1:=o.pa;have h2:=o.ro;have h3:=o.tx;have h4:=o.pr;have h5:=o.va;have h6:=o.vo
 exact ⟨⟨z,by show h.pa.size≤_;omega⟩,trivial,⟨o.hh,ze⟩,trivial,⟨z,by show h.ro.size≤_;omega⟩,trivial,⟨z,by show h.tx.size≤_;omega⟩,trivial,⟨z,by show h.pr.size≤_;omega⟩,trivial,⟨z,by show h.va.size≤_;omega⟩,trivial,⟨z,ze⟩,zaA fun x hx=>by have:=o.vs x hx;omega,
  ⟨z,by show h.vo.size≤_;omega⟩,trivial,⟨ha,ze⟩,trivial,⟨o.rd,ze⟩,trivial,⟨z,ze⟩,zaA fun x hx=>by obtain ⟨y,_,rfl⟩:=List.mem_map.1 hx;rw [ua];omega,trivial⟩
theorem zdu (m sz ln:Nat):zx 104 0 m sz ln=(decide (m=0)&&(decide (sz=32)&&decide (ln=0))):=by
 unfold zx yp zO zT;rw [Bool.eq_iff_iff];simp<;>omega
theorem zdv (m sz ln:Nat):zx 42 1 m sz ln=(decide (m=0)&&(decide (sz=0)&&decide (ln≤40))):=by
 unfold zx yp zO zT;rw [Bool.eq_iff_iff];simp<;>omega
theorem zdw (c:Nat)(q:ByteArray)(x:Nat×ByteArray)(l:Fe)(h0:by_ q 0=42)(h1:by_ q 1=c):qC q x l=(zx 42 1 x.1 x.2.size l.len&&qN c l):=by
 have e:kdB q=.cons c .nil .nil:=by unfold kdB;rw [if_pos h0,h1]
 unfold qC;rw [e,h0,h1];rfl
theorem xB {c z:Nat}(hf: ∀m sz ln,zx c 0 m sz ln=(decide (m=0)&&(decide (sz=z)&&decide (ln=0)))): ∀ {l:Fe},qN c l=true↔ ∃L:List ByteArray,l=lsF L∧ ∀x∈L,ByteArray.size x=z
 | .nil=>⟨fun _=>⟨[],rfl,fun _ h=>nomatch h⟩,fun _=>rfl⟩
 | .cons x l r=>by
  simp only [qN,hf,Bool.and_eq_true,decide_eq_true_eq];constructor
  ·rintro ⟨⟨h1,h2,h3⟩,h4⟩;obtain ⟨L,rfl,hL⟩:=(xB hf).1 h4;obtain rfl:=Fr.len_zero h3;obtain ⟨m,s⟩:=x;simp only at h1 h2;subst h1;exact ⟨s::L,rfl,fun y hy=>by rcases List.mem_cons.1 hy with rfl | hy;exact h2;exact hL y hy⟩
  ·rintro ⟨L,h1,h2⟩;cases L with
   | nil=>unfold lsF at h1;cases h1
   | cons a t=>
    unfold lsF at h1;injection h1 with e1 e2 e3
    subst e1 e2 e3;exact ⟨⟨rfl,h2 a (List.mem_cons_self ..),rfl⟩,(xB hf).2 ⟨t,rfl,fun y hy=>h2 y (List.mem_cons_of_mem _ hy)⟩⟩
theorem zdx (l:Fe):yX hK l=true↔ ∃(pa:ByteArray) (hh:Nat) (ro tx pr va:ByteArray) (L:List ByteArray) (vo:ByteArray) (a rd:Nat) (M:List ByteArray),l=hdL pa hh ro tx pr va L vo a rd M∧
 pa.size=32∧ro.size=32∧tx.size=32∧pr.size=20∧va.size≤64∧(∀x∈L,ByteArray.size x=20)∧L.length≤40∧vo.size≤64∧(∀x∈M,ByteArray.size x=65)∧M.length≤40:=by
 have s1:=fun x l=>uc 104 ⟨#[104]⟩ x l rfl (by decide);have s2:=fun x l=>uc 110 ⟨#[110]⟩ x l rfl (by decide);have s3:=fun x l=>uc 97 ⟨#[97]⟩ x l rfl (by decide);have s4:=fun x l=>uc 98 ⟨#[98]⟩ x l rfl (by decide);have s5:=fun x l=>zdw 97 ⟨#[42,97]⟩ x l rfl rfl;have s6:=fun x l=>zdw 115 ⟨#[42,115]⟩ x l rfl rfl;constructor
 ·intro h;have hl:=zam h;unfold hK at h
  match l,h,hl with
  | .cons x1 l1 (.cons x2 l2 (.cons x3 l3 (.cons x4 l4 (.cons x5 l5 (.cons x6 l6 (.cons x7 l7 (.cons x8 l8 (.cons x9 l9 (.cons x10 l10 (.cons x11 l11 .nil)))))))))),h,_=>
   simp only [yX,s1,s2,s3,s4,s5,s6,ub,zdl,zdm,zdu,zdv,Bool.and_eq_true,decide_eq_true_eq] at h;obtain ⟨⟨a1,a2,a3⟩,⟨b1,b2⟩,⟨c1,c2,c3⟩,⟨d1,d2,d3⟩,⟨e1,e2,e3⟩,⟨f1,f2,f3⟩,⟨⟨g1,g2,g3⟩,g4⟩,⟨h1,h2,h3⟩,⟨i1,i2⟩,⟨j1,j2⟩,⟨⟨k1,k2,k3⟩,k4⟩,_⟩:=h;obtain ⟨L,rfl,hL⟩:=(xB ub).1 g4;obtain ⟨M,rfl,hM⟩:=(xB zdk).1 k4;rw [ku] at g3 k3;obtain ⟨m1,t1⟩:=x1;obtain ⟨m2,t2⟩:=x2;obtain ⟨m3,t3⟩:=x3;obtain ⟨m4,t4⟩:=x4;obtain ⟨m5,t5⟩:=x5;obtain ⟨m6,t6⟩:=x6;obtain ⟨m7,t7⟩:=x7;obtain ⟨m8,t8⟩:=x8;obtain ⟨m9,t9⟩:=x9;obtain ⟨m10,t10⟩:=x10;obtain ⟨m11,t11⟩:=x11;obtain rfl:=Fr.len_zero a3;obtain rfl:=Fr.len_zero b2;obtain rfl:=Fr.len_zero c3;obtain rfl:=Fr.len_zero d3;obtain rfl:=Fr.len_zero e3;obtain rfl:=Fr.len_zero f3;obtain rfl:=Fr.len_zero h3;obtain rfl:=Fr.len_zero i2;obtain rfl:=Fr.len_zero j2;obtain rfl:=jJ b1;obtain rfl:=jJ i1;obtain rfl:=jJ j1;obtain rfl:=jJ g2;obtain rfl:=jJ k2;simp only at a1 c1 d1 e1 f1 g1 h1 k1;subst a1 c1 d1 e1 f1 g1 h1 k1;exact ⟨t1,m2,t3,t4,t5,t6,L,t8,m9,m10,M,rfl,a2,c2,d2,e2,f2,hL,g3,h2,hM,k3⟩
 ·rintro ⟨pa,hh,ro,tx,pr,va,L,vo,a,rd,M,rfl,h1,h2,h3,h4,h5,h6,h7,h8,h9,h10⟩;unfold hK hdL;simp only [yX,s1,s2,s3,s4,s5,s6,ub,zdl,zdm,zdu,zdv,(xB ub).2 ⟨L,rfl,h6⟩,(xB zdk).2 ⟨M,rfl,h9⟩,ku,h1,h2,h3,h4,h5,h7,h8,h10,Fr.len];rfl
def lsI:List ByteArray→Fo
 | []=>.nil
 | a::r=>.cons false a .nil (lsI r)
theorem zaB {c:Nat}(h1:c≠110)(h2:zQ c=false): ∀(L:List ByteArray) (i:Nat),yW (lsF L) 42 (.cons c .nil .nil) i=lsI L
 | [],_=>rfl
 | a::r,i=>by
  unfold lsF lsI;rw [vK,zal,zaB h1 h2 r];unfold yk zN;rw [if_neg h1,h2];rfl
theorem zdy: ∀L,(lsI L).cnt=L.length
 | []=>rfl
 | a::r=>by simp only [lsI,Fo.cnt,List.length_cons,zdy r];omega
theorem zaC: ∀L,pureF (lsI L)=true
 | []=>rfl
 | a::r=>by
  show ((!mixed false a 0&&true)&&pureF (lsI r))=true;rw [zaC r];rfl
theorem zdz: ∀L,dpF (lsI L)=0
 | []=>rfl
 | a::r=>by
  show max 0 (dpF (lsI r))=0;rw [zdz r];rfl
theorem zaD {z:Nat} : ∀ {L:List ByteArray},(∀x∈L,ByteArray.size x≤z)→wtF (lsI L)≤L.length*(9+z)
 | [],_=>Nat.zero_le _
 | a::r,h=>by
  have h1:=h a (List.mem_cons_self ..);have h2:=zaD (L:=r) fun x hx=>h x (List.mem_cons_of_mem _ hx);simp only [lsI,wtF,List.length_cons,Nat.succ_mul];omega
def hdI (h:Hdr):Fo:=
 .cons false h.pa .nil (.cons false (zh (dg h.hh)) .nil (.cons false h.ro .nil (.cons false h.tx .nil (.cons false h.pr .nil (.cons false h.va .nil (.cons true emB (lsI h.vs) (.cons false h.vo .nil (.cons false (zh (dg (adN h.ad))) .nil (.cons false (zh (dg h.rd)) .nil (.cons true emB (lsI (h.ss.map sgB)) .nil))))))))))
theorem zh0 (h:Hdr):yW (hdF h) 40 (kfL hK) 0=hdI h:=by
 unfold hdF hdL hdI;rw [qP _ _ _ 0 (by decide),qP _ _ _ 1 (by decide),qP _ _ _ 2 (by decide),qP _ _ _ 3 (by decide),qP _ _ _ 4 (by decide),qP _ _ _ 5 (by decide),qP _ _ _ 6 (by decide),qP _ _ _ 7 (by decide),qP _ _ _ 8 (by decide),qP _ _ _ 9 (by decide),qP _ _ _ 10 (by decide)];have e1:zN 42 (.cons 97 .nil .nil) (lsF h.vs)=lsI h.vs:=by
  unfold zN;rw [if_pos (show zQ 42=true from rfl)];exact zaB (by decide) rfl _ _
 have e2:zN 42 (.cons 115 .nil .nil) (lsF (h.ss.map sgB))=lsI (h.ss.map sgB):=by
  unfold zN;rw [if_pos (show zQ 42=true from rfl)];exact zaB (by decide) rfl _ _
 rw [←e1,←e2];rfl
theorem zdA {vo:ByteArray}{ad:Bool}(h:voteB vo ad=true):vo.size≤20:=by
 unfold voteB at h;split at h
 ·omega
 ·have:=of_decide_eq_true h;omega
theorem zh1 {h:Hdr}(r:ya h=true):yX hK (hdF h)=true:=by
 have q:=jN.1 r;have hs:=q.st;unfold setM at hs;simp only [Bool.and_eq_true,decide_eq_true_eq] at hs;have h1:=q.va;have h2:=zdA q.vo;have h3:=q.sl;exact (zdx _).2 ⟨_,_,_,_,_,_,_,_,_,_,_,rfl,q.pa,q.ro,q.tx,q.pr,by omega,zdt hs.1,by omega,by omega,fun x hx=>by obtain ⟨y,_,rfl⟩:=List.mem_map.1 hx;exact ua _ _ _,by rw [List.length_map];omega⟩
theorem zh2 {h:Hdr}(r:ya h=true):wtF (hdI h)≤2500:=by
 have q:=jN.1 r;have hs:=q.st;unfold setM at hs;simp only [Bool.and_eq_true,decide_eq_true_eq] at hs;have w1:=zaD (L:=h.vs) (z:=20) fun x hx=>Nat.le_of_eq (zdt hs.1 x hx);have w2:=zaD (L:=h.ss.map sgB) (z:=65) fun x hx=>by obtain ⟨y,_,rfl⟩:=List.mem_map.1 hx;exact Nat.le_of_eq (ua _ _ _)
 rw [List.length_map] at w2;have a1:=q.pa;have a2:=q.ro;have a3:=q.tx;have a4:=q.pr;have a5:=q.va;have a6:=zdA q.vo;have a7:=q.sl;have d1:=qh h.hh;have d2:=qh (adN h.ad);have d3:=qh h.rd;have ez:emB.size=0:=rfl;simp only [hdI,wtF,ql];omega
theorem zaE {h:Hdr}(r:ya h=true):(wrV yT (hdF h)).2=0:=by
 have q:=jN.1 r;have hs:=q.st;unfold setM at hs;simp only [Bool.and_eq_true,decide_eq_true_eq] at hs;have a7:=q.sl;have hc:(hdF h).cnt≤1000:=by
  simp only [hdF,hdL,Fr.cnt,zdq,List.length_map];omega
 have hw:=zh2 r;have hci:(hdI h).cnt≤3999:=by
  simp only [hdI,Fo.cnt,zdy,List.length_map];omega
 have hp:pureF (hdI h)=true:=by
  have p1:=zaC h.vs;have p2:=zaC (h.ss.map sgB);simp only [hdI,pureF,p1,p2,mixed];rfl
 have hd:dpF (hdI h)=1:=by
  simp only [hdI,dpF,zdz,dp1];rfl
 have h1:=xr (hdI h);have h2:=uK true emB (szF (hdI h));have ez:emB.size=0:=rfl;have hl:lf1 true emB (hdI h).len (lfF (hdI h)) 4000=some (3999-(hdI h).cnt):=by
  unfold lf1;rw [if_neg (by simp [mixed];rfl),xZ,if_pos ⟨hp,hci⟩]
 rw [zho xa,if_pos ⟨zh1 r,hc⟩,zh0];unfold zP;rw [hl];simp only [];rw [if_neg (by rw [hd];decide),if_neg (by omega)]
theorem isK {l:List (Nat×Value)}{ρ:Env}(h:l.map (fun p=>ρ p.1)=l.map (·.2):=by kernel_rfl):Is l ρ:=by
 refine Is.of ?_
 induction l with
 | nil=>trivial
 | cons p r ih=>
  simp only [List.map_cons,List.cons.injEq] at h;exact ⟨h.1,ih h.2⟩
section
variable {P:Program}{N:Nat}{c:Code}{Q:Exit→Env→World→Prop}{ρ:Env}{w:World}
theorem yZ (k:Q .normal ρ w)(h:(jy c&&xD (jx c))=true:=by kernel_rfl)(hx:ev ρ (qG c)=.bool false:=by kernel_rfl):WP P N c Q ρ w:=by
 rw [Bool.and_eq_true] at h;exact zl h.1 hx (zn h.2 k)
theorem yb (k:WP P N (jw c) Q ρ w)(h:jy c=true:=by kernel_rfl)(hx:ev ρ (qG c)=.bool true:=by kernel_rfl):WP P N c Q ρ w:=zj h hx k
def zaF (c:Code):Code:=yN (yN c)
def ue (c:Code):Code:=zu (zaF c)
def qE (c:Code):Code:=zt (zaF c)
def zaG (c:Code):Code:=yN (zu (zt (qE c)))
def kw (c:Code):Code:=zt (zt (qE c))
def kx (n:Nat):Code→Bool
 | .region _ ops d=>Nat.beq ops.size n&& !d
 | _=>false
theorem zdB {n:Nat}{c:Code}(h:kx n c=true):∃id,c=.region id (zi c) false∧List.range (zi c).size=List.range n:=by
 cases c with
 | region id ops d=>
  cases d with
  | true=>simp [kx] at h
  | false=>
   simp only [kx,Bool.not_false,Bool.and_true] at h;exact ⟨id,rfl,congrArg List.range (Nat.eq_of_beq_eq_true h)⟩
 | _=>cases h
def uf (a:Option Nat)(b:Nat):Bool:=match a with
 | some x=>Nat.beq x b
 | none=>false
theorem zaH {a:Option Nat}{b:Nat}(h:uf a b=true):a=some b:=by
 cases a with
 | none=>cases h
 | some x=>exact congrArg some (Nat.eq_of_beq_eq_true h)
def zaI (nt ni b0 b1 tc:Nat)(c:Code):Bool:=
 uf (kB c) b0&&(kC (yN c)&&(yD (zaF c)&&(kx nt (ue c)&&(yD (qE c)&&(jy (zu (qE c))&&(xD (jw (zu (qE c)))&&(uf (um (jx (zu (qE c)))) b0&&(yD (zt (qE c))&&(uf (kB (zu (zt (qE c)))) b1&&kx ni (kw c))))))))))
abbrev zdC (ti b0 b1:Nat)(inc:Env→Env)(I:Nat→Env→World→Prop)(Q:Exit→Env→World→Prop)(i:Nat):Exit→Env→World→Prop
 | .normal,ρ,w=>ρ ti=iN i∧I (i+1) (inc ρ) w
 | .exit k,ρ,w=>bif Nat.beq k b1 then ρ ti=iN i∧I (i+1) (inc ρ) w else bif Nat.beq k b0 then Q .normal ρ w else Q (.exit k) ρ w
 | e,ρ,w=>Q e ρ w
theorem zh3 {ti b0 b1 tc nt ni n:Nat}{tst:Nat→Env→Env}{inc:Nat→Env→Env}(I:Nat→Env→World→Prop)
 (hs:zaI nt ni b0 b1 tc c=true) (hx:qG (zu (qE c))=.tmp tc)
 (hT: ∀i ρ w K,I i ρ w→K (tst i ρ) w→WPs P N (zi (ue c)) K (List.range nt) ρ w) (hv: ∀i ρ w,I i ρ w→tst i ρ tc=.bool (decide ((i:Int)<(n:Int))))
 (hJ: ∀i ρ w K,i<n→ρ ti=iN i→K (inc i ρ) w→WPs P N (zi (kw c)) K (List.range ni) ρ w)
 (h0:I 0 ρ w) (hb: ∀i ρ w,i<n→I i ρ w→WP P N (zaG c) (zdC ti b0 b1 (inc i) I Q i) (tst i ρ) w) (he: ∀ρ w,I n ρ w→Q .normal (tst n ρ) w):WP P N c Q ρ w:=by
 unfold zaI at hs;simp only [Bool.and_eq_true] at hs;obtain ⟨s1,s2,s3,s4,s5,s6,s7,s8,s9,s10,s11⟩:=hs;obtain ⟨id1,e1,l1⟩:=zdB s4;obtain ⟨id2,e2,l2⟩:=zdB s11;refine zA b0 (zaH s1)<|yV s2 (fun m ρ w=> ∃i,n-i=m∧i≤n∧I i ρ w) n ⟨0,rfl,Nat.zero_le _,h0⟩ ?_;rintro m ρ w ⟨i,rfl,hin,hI⟩;refine zd s3 ?_;show WP P N (ue c) _ ρ w;rw [e1];refine WP.region _ l1<|hT i ρ w _ hI ?_;show WP P N (qE c) _ (tst i ρ) w;refine zd s5 ?_;have hval:=hv i ρ w hI;by_cases hi:i<n
 ·refine zj s6 (by rw [hx];show tst i ρ tc=_;rw [hval,decide_eq_true (by omega)])<|zn s7 ?_;show WP P N (zt (qE c)) _ (tst i ρ) w;refine zd s9<|zA b1 (zaH s10) ?_;have hfin: ∀(Q3:Exit→Env→World→Prop) ρ' w',(ρ' ti=iN i∧I (i+1) (inc i ρ') w')→(∀e ρ w,Q3 e ρ w=Q3 e ρ w)→WP P N (kw c) (nx (fun ρ' w'=> ∃m,m<n-i∧∃i,n-i=m∧i≤n∧I i ρ' w') Q3) ρ' w':=fun Q3 ρ' w' h _=>by
   rw [e2];refine WP.region _ l2 ?_;exact hJ i ρ' w' _ hi h.1 ⟨n-(i+1),by omega,i+1,rfl,by omega,h.2⟩
  refine jR (hb i ρ w hi hI) fun e ρ' w' h=>?_;cases e with
  | normal=>exact hfin _ ρ' w' h fun _ _ _=>rfl
  | exit k=>
   show bif Nat.beq k b1 then _ else _;change (bif Nat.beq k b1 then _ else _) at h;cases hk:Nat.beq k b1 with
   | true=>rw [hk] at h;exact hfin _ ρ' w' h fun _ _ _=>rfl
   | false=>rw [hk] at h;exact h
  | _=>exact h
 ·obtain rfl:i=n:=by omega
  refine zl s6 (by rw [hx];show tst i ρ tc=_;rw [hval,decide_eq_false (by omega)])<|yE b0 (zaH s8) ?_;show bif Nat.beq b0 b0 then _ else _;rw [Nat.beq_refl];exact he ρ w hI
theorem jt (ti tn tc tj b0 b1 n:Nat)(hn:n≤0x4000000000000000)(I:Nat→Env→World→Prop)(hI: ∀i ρ w,I i ρ w→ρ ti=iN i∧ρ tn=iN n)
 (h0:I 0 ρ w) (hb: ∀i ρ w,i<n→I i ρ w→WP P N (zaG c) (zdC ti b0 b1 (fun ρ=>upd (upd ρ tj (iN (i+1))) ti (iN (i+1))) I Q i) (upd ρ tc (.bool true)) w)
 (he: ∀ρ w,I n ρ w→Q .normal (upd ρ tc (.bool false)) w)
 (hs:zaI 1 2 b0 b1 tc c=true:=by kernel_rfl) (hx:qG (zu (qE c))=.tmp tc:=by kernel_rfl)
 (ht: ∀(ρ0:Env) (i:Nat) w,opv P (zi (ue c)) 0 (upd (upd ρ0 tn (iN n)) ti (iN i)) w=some (some tc,true,.ok (.value (.bool (decide ((i:Int)<(n:Int))))) w):=by exact fun ρ0 i w=>by kernel_rfl)
 (hj: ∀(ρ0:Env) (i:Nat) w,opv P (zi (kw c)) 0 (upd ρ0 ti (iN i)) w=some (some tj,true,.ok (.value (.int .i64 (IntKind.i64.wrap ((i:Int)+1)))) w):=by exact fun ρ0 i w=>by kernel_rfl)
 (hk: ∀(ρ0:Env) (v:Value) w,opv P (zi (kw c)) 1 (upd ρ0 tj v) w=some (some ti,true,.ok (.value v) w):=by exact fun ρ0 v w=>by kernel_rfl)
 (hd:(dOK (some tc) N&&(dOK (some tj) N&&dOK (some ti) N))=true:=by kernel_rfl):WP P N c Q ρ w:=by
 simp only [Bool.and_eq_true] at hd;refine zh3 (ti:=ti) (tst:=fun i ρ=>upd ρ tc (.bool (decide ((i:Int)<(n:Int))))) (inc:=fun i ρ=>upd (upd ρ tj (iN (i+1))) ti (iN (i+1))) (n:=n) I hs hx (fun i ρ w K h k=>?_) (fun i ρ w h=>?_) (fun i ρ w K hi h k=>?_) h0 (fun i ρ w hi h=>?_) (fun ρ w h=>?_)
 ·have e:upd (upd ρ tn (iN n)) ti (iN i)=ρ:=by rw [xi (hI i ρ w h).2,xi (hI i ρ w h).1]
  refine zc (some tc) _ (fun w=>e▸ht ρ i w) hd.1 ?_;exact zb k
 ·show upd ρ tc _ tc=_;unfold upd;rw [Nat.beq_refl];rfl
 ·have e:upd ρ ti (iN i)=ρ:=xi h;refine yO (some tj) _ (iN (i+1)) (fun w=>e▸hj ρ i w) (zr (qv (a:=i) (b:=1) (by omega))) hd.2.1<|zc (some ti) (iN (i+1)) (fun w=>hk ρ (iN (i+1)) w) hd.2.2 ?_;exact zb k
 ·show WP P N (zaG c) _ (upd ρ tc (.bool (decide ((i:Int)<(n:Int))))) w;rw [decide_eq_true (show (i:Int)<(n:Int) by omega)];exact hb i ρ w hi h
 ·show Q .normal (upd ρ tc (.bool (decide ((n:Int)<(n:Int))))) w;rw [decide_eq_false (show ¬(n:Int)<(n:Int) by omega)];exact he ρ w h
end
theorem AtF.row2 {α:Type}{S:Fl α}{w:World}{p:Option Addr}{n:Nat}{L:List α}(h:AtF S w p n L)(hn:0<n):∃b off C T fz,p=some ⟨b,off,none⟩∧w.heap[b]? =some (.cells C T fz)∧qI S C off L:=by
 rcases h.2 with rfl|h2
 ·have:=h.1;simp at this;omega
 ·exact h2
def xb (L:List ByteArray)(i:Nat):Option ByteArray:=if i=0 then none else L[i-1]?
theorem zdD {L:List ByteArray}{i:Nat}{x:ByteArray}(h:L[i]? =some x):xb L (i+1)=some x:=by
 unfold xb;rw [if_neg (by omega),Nat.add_sub_cancel,h]
abbrev hdC (h:Hdr)(p:Option Addr)(n c:Nat)(q:Option Addr)(m k:Nat):Array Value:=#[.string h.pa,.int .u64 ((h.hh:Nat):Int),.string h.ro,.string h.tx,.string h.pr,.string h.va,.slice p n c,.string h.vo,.bool h.ad,.int .u64 ((h.rd:Nat):Int),.slice q m k]
abbrev hdV (h:Hdr)(p:Option Addr)(n c:Nat)(q:Option Addr)(m k:Nat):Value:=.agg (hdC h p n c q m k)
abbrev hdO (h:Hdr)(p:Option Addr)(n c:Nat)(q:Option Addr)(m k:Nat):Obj:=.cells (hdC h p n c q m k) 26 (0,0)
def yU (w:World)(h:Hdr)(p:Option Addr)(n:Nat)(q:Option Addr)(m:Nat):Prop:=AtF sS w p n h.vs∧AtF sgF w q m h.ss
theorem yU.call {w w':World}{h:Hdr}{p:Option Addr}{n:Nat}{q:Option Addr}{m:Nat}(a:yU w h p n q m)(hb:Below w.heap.size w w'):yU w' h p n q m:=⟨a.1.call hb,a.2.call hb⟩
abbrev sgC (x:Sg):Array Value:=(sgF.cs x).toArray
abbrev sgO (x:Sg):Obj:=.cells (sgC x) 50 (0,0)
structure zaJ (h:Hdr):Prop where
 vo:h.vo.size≤1000000
 vl:h.vs.length≤1000
 ss: ∀x∈h.ss,sgOk x
 sl:h.ss.length≤1000
theorem ye.sm {h:Hdr}(o:ye h):zaJ h:=⟨o.vo,o.vl,o.ss,o.sl⟩
end Go.Proofs.YtbpmjppmpgeejaaGreatDoor
namespace Go.Proofs.YtbpmjppmpgeejaaGreatDoor
open Go Go.ChangeShapes Go.WideShapes Go.ChangeAt Go.RowKit
set_option linter.unusedVariables false
set_option maxRecDepth 100000
theorem zh4:Tryz.prog.cellsOf 26=11:=kr
theorem zdE:Tryz.prog.cellsOf 50=9:=kr
theorem zh5:Tryz.prog.cellsOf 3=1:=kr
theorem zdF:Tryz.prog.cellsOf 9=1:=kr
theorem zh6:Tryz.prog.cellsOf 22=1:=kr
theorem zh7:Tryz.prog.cellsOf 4=1:=kr
theorem zh8:Tryz.prog.cellsOf 23=1:=kr
theorem zh9:Tryz.prog.cellsOf 24=1:=kr
theorem zdG {α:Type}(l:List α)(h:l.length=11):∃a0 a1 a2 a3 a4 a5 a6 a7 a8 a9 a10,l=[a0,a1,a2,a3,a4,a5,a6,a7,a8,a9,a10]:=by
 match l,h with
 | [a0,a1,a2,a3,a4,a5,a6,a7,a8,a9,a10],_=>exact ⟨_,_,_,_,_,_,_,_,_,_,_,rfl⟩
section
variable {H:Type}{enc:TypeId×Value→H}{W:World}{sp:Nat→Bool}{held:Bool}
theorem zia (fuel:Nat)(cs:List Value)(x:DataW H×List MemPlace)(h:DataW.trod enc Tryz.prog W 0 sp held fuel 50 cs=some x):∃a:Sg,cs=sgF.cs a∧sgOk a:=by
 obtain ⟨y0,y1,y2,m,hx,hl,hy0,hy1,hy2⟩:=Go.Deep.trod_struct3 Tryz.underlying50 h;rw [zdE] at hl;obtain ⟨c0,c1,c2,c3,c4,c5,c6,c7,c8,rfl⟩:=zfk cs hl;rw [zfj] at hy0 hy1;rw [zh5] at hy2;obtain ⟨n,hn,a0,a1,a2,a3⟩:=zbM (show DataW.trod enc Tryz.prog W 0 sp held m 48 [c0,c1,c2,c3]=some y0 from hy0);obtain ⟨k,hk,b0',b1,b2,b3⟩:=zbM (show DataW.trod enc Tryz.prog W 0 sp held m 48 [c4,c5,c6,c7]=some y1 from hy1);obtain ⟨z,hz,_,_⟩:=DataW.trod_int Tryz.underlying3 (show DataW.trod enc Tryz.prog W 0 sp held m 3 [c8]=some y2 from hy2);have hz:c8=.int .i64 z:=by simpa using hz
 exact ⟨(n,k,z),by rw [a0,a1,a2,a3,b0',b1,b2,b3,hz];rfl,hn,hk⟩
theorem zib (fuel:Nat)(cs:List Value)(x:DataW H×List MemPlace)(h:DataW.trod enc Tryz.prog W 0 sp held fuel 9 cs=some x):∃a:ByteArray,cs=sS.cs a∧a.size≤maxLen:=by
 obtain ⟨s,e0,_,hs⟩:=DataW.trod_string Tryz.underlying9 h;exact ⟨s,e0,hs⟩
def zdH (h:Hdr):Prop:=h.hh<0x10000000000000000∧h.rd<0x10000000000000000∧ ∀x∈h.ss,sgOk x
theorem zic {v:Value}{d:DataW H}{p:List MemPlace}{base:Nat}(hv:Value.okWide Tryz.prog W .any base 26 v)(h:DataW.Trod enc Tryz.prog W 0 sp held 26 v d p):
 ∃(hd:Hdr) (p:Option Addr) (n c:Nat) (q:Option Addr) (m k:Nat),v=hdV hd p n c q m k∧qy p n c∧qy q m k∧zdH hd∧yU W hd p n q m:=by
 obtain ⟨cs,rfl,hsz,_⟩:∃cs,v=.agg cs∧cs.size=Tryz.prog.cellsOf 26∧Row.okWide Tryz.prog W .any base 26 cs:=by
  simpa [Value.okWide,Tryz.underlying26] using hv
 rw [zh4] at hsz;obtain ⟨l⟩:=cs;obtain ⟨c0,c1,c2,c3,c4,c5,c6,c7,c8,c9,c10,rfl⟩:=zdG l hsz;obtain ⟨fuel,hf⟩:=h;obtain ⟨xs,m,rfl,hxx,hl,hlen,hff⟩:=DataW.trod_struct Tryz.underlying26 hf;obtain ⟨y0,y1,y2,y3,y4,y5,y6,y7,y8,y9,y10,rfl⟩:=zdG xs hlen;have g0:=hff 0 _ rfl;have g1:=hff 1 _ rfl;have g2:=hff 2 _ rfl;have g3:=hff 3 _ rfl;have g4:=hff 4 _ rfl;have g5:=hff 5 _ rfl;have g6:=hff 6 _ rfl;have g7:=hff 7 _ rfl;have g8:=hff 8 _ rfl;have g9:=hff 9 _ rfl;have g10:=hff 10 _ rfl;change DataW.trod enc Tryz.prog W 0 sp held m 9 (([c0,c1,c2,c3,c4,c5,c6,c7,c8,c9,c10].drop 0).take (Tryz.prog.cellsOf 9))=some y0 at g0;change DataW.trod enc Tryz.prog W 0 sp held m 22 (([c0,c1,c2,c3,c4,c5,c6,c7,c8,c9,c10].drop 1).take (Tryz.prog.cellsOf 22))=some y1 at g1;change DataW.trod enc Tryz.prog W 0 sp held m 9 (([c0,c1,c2,c3,c4,c5,c6,c7,c8,c9,c10].drop 2).take (Tryz.prog.cellsOf 9))=some y2 at g2;change DataW.trod enc Tryz.prog W 0 sp held m 9 (([c0,c1,c2,c3,c4,c5,c6,c7,c8,c9,c10].drop 3).take (Tryz.prog.cellsOf 9))=some y3 at g3;change DataW.trod enc Tryz.prog W 0 sp held m 9 (([c0,c1,c2,c3,c4,c5,c6,c7,c8,c9,c10].drop 4).take (Tryz.prog.cellsOf 9))=some y4 at g4;change DataW.trod enc Tryz.prog W 0 sp held m 9 (([c0,c1,c2,c3,c4,c5,c6,c7,c8,c9,c10].drop 5).take (Tryz.prog.cellsOf 9))=some y5 at g5;change DataW.trod enc Tryz.prog W 0 sp held m 23 (([c0,c1,c2,c3,c4,c5,c6,c7,c8,c9,c10].drop 6).take (Tryz.prog.cellsOf 23))=some y6 at g6;change DataW.trod enc Tryz.prog W 0 sp held m 9 (([c0,c1,c2,c3,c4,c5,c6,c7,c8,c9,c10].drop 7).take (Tryz.prog.cellsOf 9))=some y7 at g7;change DataW.trod enc Tryz.prog W 0 sp held m 4 (([c0,c1,c2,c3,c4,c5,c6,c7,c8,c9,c10].drop 8).take (Tryz.prog.cellsOf 4))=some y8 at g8;change DataW.trod enc Tryz.prog W 0 sp held m 22 (([c0,c1,c2,c3,c4,c5,c6,c7,c8,c9,c10].drop 9).take (Tryz.prog.cellsOf 22))=some y9 at g9;change DataW.trod enc Tryz.prog W 0 sp held m 24 (([c0,c1,c2,c3,c4,c5,c6,c7,c8,c9,c10].drop 10).take (Tryz.prog.cellsOf 24))=some y10 at g10;rw [zdF] at g0 g2 g3 g4 g5 g7;rw [zh6] at g1 g9;rw [zh7] at g8;rw [zh8] at g6;rw [zh9] at g10;have str: ∀ {c:Value} {y:DataW H×List MemPlace},DataW.trod enc Tryz.prog W 0 sp held m 9 [c]=some y→∃s,c=.string s:=fun {c y} g=>by
  obtain ⟨s,e,_,_⟩:=DataW.trod_string Tryz.underlying9 g;exact ⟨s,by simpa using e⟩
 have num: ∀ {c:Value} {y:DataW H×List MemPlace},DataW.trod enc Tryz.prog W 0 sp held m 22 [c]=some y→∃n:Nat,n<0x10000000000000000∧c=.int .u64 ((n:Nat):Int):=fun {c y} g=>by
  obtain ⟨z,e,_,hw⟩:=DataW.trod_int Tryz.underlying22 g;obtain ⟨n,hn,rfl⟩:=zeO hw;exact ⟨n,hn,by simpa using e⟩
 obtain ⟨s0,rfl⟩:=str g0;obtain ⟨n1,h1,rfl⟩:=num g1;obtain ⟨s2,rfl⟩:=str g2;obtain ⟨s3,rfl⟩:=str g3;obtain ⟨s4,rfl⟩:=str g4;obtain ⟨s5,rfl⟩:=str g5;obtain ⟨s7,rfl⟩:=str g7;obtain ⟨n9,h9,rfl⟩:=num g9;obtain ⟨b,e8,_⟩:=DataW.trod_bool Tryz.underlying4 (show DataW.trod enc Tryz.prog W 0 sp held m 4 [c8]=some y8 from g8);obtain rfl:c8=.bool b:=by simpa using e8
 obtain ⟨p,n,c,L,rfl,sl,_,at6⟩:=zbC (S:=sS) Tryz.underlying23 zdF zib (show DataW.trod enc Tryz.prog W 0 sp held m 23 [c6]=some y6 from g6);obtain ⟨q,mm,k,M,rfl,sl2,ok2,at10⟩:=zbC (S:=sgF) Tryz.underlying24 zdE zia (show DataW.trod enc Tryz.prog W 0 sp held m 24 [c10]=some y10 from g10);exact ⟨⟨s0,n1,s2,s3,s4,s5,L,s7,b,n9,M⟩,p,n,c,q,mm,k,rfl,sl,sl2,⟨h1,h9,ok2⟩,at6,at10⟩
end
end Go.Proofs.YtbpmjppmpgeejaaGreatDoor
namespace Go.Proofs.YtbpmjppmpgeejaaGreatDoor
open Go Go.RowKit
set_option linter.unusedVariables false
set_option maxRecDepth 100000
def zid:List Int:=[1,32898,0x800000000000808a,0x8000000080008000,32907,2147483649,0x8000000080008081,0x8000000000008009,138,136,2147516425,2147483658,2147516555,0x800000000000008b,0x8000000000008089,0x8000000000008003,0x8000000000008002,0x8000000000000080,32778,0x800000008000000a,0x8000000080008081,0x8000000000008080,2147483649,0x8000000080008008]
def zie:Array Value:=(Go.Pinned.utf8FirstZ.map fun n=>Value.int .u8 ((n:Nat):Int)).toArray
def zif:Array Value:=#[.int .u8 128,.int .u8 191,.int .u8 160,.int .u8 191,.int .u8 128,.int .u8 159,.int .u8 144,.int .u8 191,.int .u8 128,.int .u8 143,.int .u8 0,.int .u8 0,.int .u8 0,.int .u8 0,.int .u8 0,.int .u8 0,.int .u8 0,.int .u8 0,.int .u8 0,.int .u8 0,.int .u8 0,.int .u8 0,.int .u8 0,.int .u8 0,.int .u8 0,.int .u8 0,.int .u8 0,.int .u8 0,.int .u8 0,.int .u8 0,.int .u8 0,.int .u8 0]
noncomputable def zdI (os:Os):World:=
 let w0:=World.holding Tryz.prog os ⟨#[],#[],[]⟩
 { w0 with heap:=((w0.heap.modify 0 fun
  | .cells _ t frozen=>.cells (zid.map (Value.int .u64)).toArray t frozen
  | o=>o).modify 1 fun
  | .cells _ t frozen=>.cells zie t frozen
  | o=>o).modify 2 fun
  | .cells _ t frozen=>.cells zif t frozen
  | o=>o }
set_option maxRecDepth 100000
theorem zig (os:Os) (args:Array Value):laidMetH Tryz.prog [("unicode/utf8.acceptRanges",Rows.laid_unicode_utf8_acceptRanges),("unicode/utf8.first",Rows.laid_unicode_utf8_first)] ((zdI os).forCall (fun _ _=>0) ⟨#[],args,[]⟩).memory:=by
 rw [MakeChecks.laidMetH_plain _ _ _ kr];exact laidMet_of_run' 8 kr kr
section
variable {l:Bool}{s:ByteArray}{k:Fo}
end
end Go.Proofs.YtbpmjppmpgeejaaGreatDoor
namespace Go.Proofs.YtbpmjppmpgeejaaGreatDoor
open Go Go.RowKit
open D2 (Gh)
set_option linter.unusedVariables false
end Go.Proofs.YtbpmjppmpgeejaaGreatDoor
namespace Go.Proofs.YtbpmjppmpgeejaaGreatDoor
open Go Go.RowKit
open D2 (Gh)
set_option linter.unusedVariables false
end Go.Proofs.YtbpmjppmpgeejaaGreatDoor
namespace Go.Proofs.YtbpmjppmpgeejaaGreatDoor
open Go Go.RowKit
open D2 (Gh)
set_option linter.unusedVariables false
def fe0 (a:ByteArray):Fel:=⟨(0,a),none,0,0,.nil⟩
theorem zdJ: ∀L:List ByteArray,yc (L.map fe0)=lsF L
 | []=>rfl
 | a::r=>by
  show Fr.cons (0,a) .nil (yc (r.map fe0))=_;rw [zdJ r];rfl
theorem zdK {L:List ByteArray}(h: ∀x∈L,ByteArray.size x≤0x800000000000)(T:List (Nat×Obj)):AllE fS T (L.map fe0):=fun x hx=>by
 obtain ⟨a,ha,rfl⟩:=List.mem_map.1 hx;exact ⟨RIn.none _ _,(by decide:0<0x10000000000000000),h a ha⟩
theorem zdL {α:Type}(A B C:List α):(C++(A++B)).Perm (A++(B++C)):=by
 rw [←List.append_assoc A B C];exact List.perm_append_comm
def hdE (h:Hdr)(q1:Option Addr)(n c1:Nat)(q2:Option Addr)(m c2:Nat):List Fel:=
 [fe0 h.pa,⟨(h.hh,em),none,0,0,.nil⟩,fe0 h.ro,fe0 h.tx,fe0 h.pr,fe0 h.va,⟨(0,em),q1,n,c1,lsF h.vs⟩,fe0 h.vo,⟨(adN h.ad,em),none,0,0,.nil⟩,⟨(h.rd,em),none,0,0,.nil⟩,⟨(0,em),q2,m,c2,lsF (h.ss.map sgB)⟩]
theorem zih {T:List (Nat×Obj)}{h:Hdr}{q1:Option Addr}{n c1:Nat}{q2:Option Addr}{m c2:Nat}(o:ye h)(h1:RIn fS T q1 n (lsF h.vs))(h2:RIn fS T q2 m (lsF (h.ss.map sgB))):AllE fS T (hdE h q1 n c1 q2 m c2):=fun x hx=>by
 have z:(0:Nat)<0x10000000000000000:=by decide
 have ze:em.size≤0x800000000000:=Nat.zero_le _;have ha:adN h.ad<0x10000000000000000:=by unfold adN;split<;>decide
 have k1:=o.pa;have k2:=o.ro;have k3:=o.tx;have k4:=o.pr;have k5:=o.va;have k6:=o.vo;unfold hdE at hx;simp only [List.mem_cons,List.not_mem_nil,or_false] at hx;rcases hx with rfl | rfl | rfl | rfl | rfl | rfl | rfl | rfl | rfl | rfl | rfl
 ·exact ⟨RIn.none _ _,z,by show h.pa.size≤_;omega⟩
 ·exact ⟨RIn.none _ _,o.hh,ze⟩
 ·exact ⟨RIn.none _ _,z,by show h.ro.size≤_;omega⟩
 ·exact ⟨RIn.none _ _,z,by show h.tx.size≤_;omega⟩
 ·exact ⟨RIn.none _ _,z,by show h.pr.size≤_;omega⟩
 ·exact ⟨RIn.none _ _,z,by show h.va.size≤_;omega⟩
 ·exact ⟨h1,z,ze⟩
 ·exact ⟨RIn.none _ _,z,by show h.vo.size≤_;omega⟩
 ·exact ⟨RIn.none _ _,ha,ze⟩
 ·exact ⟨RIn.none _ _,o.rd,ze⟩
 ·exact ⟨h2,z,ze⟩
end Go.Proofs.YtbpmjppmpgeejaaGreatDoor
namespace Go.Proofs.YtbpmjppmpgeejaaGreatDoor
open Go Go.RowKit
open D2 (Gh)
set_option linter.unusedVariables false
abbrev wrO (q:Option Addr)(n c:Nat):Obj:=.cells #[.slice q n c] 67 (0,0)
abbrev flO (C:Array Value):Obj:=.cells C 44 (0,0)
abbrev qa (x:Fel):Value:=.agg #[.int .u64 ((x.a.1:Nat):Int),.string x.a.2,.slice x.p x.n x.c]
def zF:Array Value:=#[wZ,.string em,.slice none 0 0]
def FnW (f:Nat)(args:Array Value)(p bd:Nat)(pre:World→Prop)(ok:List Fel→List (Nat×Obj)→Prop):Prop:=
 ∀(w0 w:World) (q:Option Addr) (n c:Nat) (row L:List (Nat×Obj)) (M:List Fel),M.length≤bd→RowE fS 44 q n c row M→pre w0→St w0.heap.size w0 w ((p,wrO q n c)::(row++L))→
  Calls Tryz.prog f args w fun e w'=> ∃v,e=.returned v∧v=.tuple #[]∧∃q' n' c' row' X T,ok X T∧RowE fS 44 q' n' c' row' (M++X)∧St w0.heap.size w0 w' ((p,wrO q' n' c')::(row'++(T++L)))
abbrev wrQ (w0:World)(p:Nat)(M:List Fel)(L:List (Nat×Obj))(ok:List Fel→List (Nat×Obj)→Prop):Value→World→Prop:=fun v w'=>
 v=.tuple #[]∧∃q' n' c' row' X T,ok X T∧RowE fS 44 q' n' c' row' (M++X)∧St w0.heap.size w0 w' ((p,wrO q' n' c')::(row'++(T++L)))
theorem FnW.intro {f:Nat}{fn:Func}{c:Code}(rs:List ResultVar)(N:Nat){args:Array Value}{p bd:Nat}{pre:World→Prop}{ok:List Fel→List (Nat×Obj)→Prop}(hf:Tryz.prog.funcs[f]? =some fn)(hb:fn.body=some c)(hr:fn.results.toList=rs)(hn:args.size+(fn.ntmps-args.size)=N)
 (h: ∀(w0 w:World) (q:Option Addr) (n c':Nat) (row L:List (Nat×Obj)) (M:List Fel),M.length≤bd→RowE fS 44 q n c' row M→pre w0→St w0.heap.size w0 w ((p,wrO q n c')::(row++L))→WP Tryz.prog N c (yg Tryz.prog rs (wrQ w0 p M L ok)) (ini args) w):FnW f args p bd pre ok:=
 fun w0 w q n c' row L M h1 h2 h3 h4=>(qZ hf hb hr hn (h w0 w q n c' row L M h1 h2 h3 h4)).mono fun e w' ⟨v',he,hv⟩=>⟨v',he,hv⟩
theorem ug {α:Type}(E A:List α)(x:α)(L:List α):(x::(A++(E++L))).Perm (E++x::(A++L)):=by
 refine List.Perm.trans ?_ (List.perm_middle.symm);refine List.Perm.cons _ ?_;rw [←List.append_assoc,←List.append_assoc];exact (List.perm_append_comm).append_right _
section
variable {N:Nat}{ops:Array Oper}{i:Nat}{r:List Nat}{K:Env→World→Prop}{ρ:Env}{w:World}{w0:World}{L row:List (Nat×Obj)}
theorem ym (E:List (Nat×Obj)){p:Nat}{q:Option Addr}{n c:Nat}{M:List Fel}(HS:St w0.heap.size w0 w (E++(p,wrO q n c)::(row++L)))(hR:RowE fS 44 q n c row M)(d:Option Nat)(f:Nat)(args:Array Value){bd:Nat}{pre:World→Prop}{ok:List Fel→List (Nat×Obj)→Prop}(hc:FnW f args p bd pre ok)(hM:M.length≤bd)(hp:pre w0)
 (h:opv Tryz.prog ops i ρ w=some (d,true,.ok (.enter f args) w)) (hd:dOK d N=true)
 (kk: ∀q' n' c' row' X T w',ok X T→RowE fS 44 q' n' c' row' (M++X)→St w0.heap.size w0 w' (E++(p,wrO q' n' c')::(row'++(T++L)))→WPs Tryz.prog N ops K r (zk ρ d (.tuple #[])) w'):WPs Tryz.prog N ops K (i::r) ρ w:=by
 obtain ⟨o,ho,rfl,hw,hr⟩:=zJ h;refine WPo.run ho hw fun a ha=>?_;rw [hr,Oper.upon_enter];refine (hc w0 w q n c row (E++L) M hM hR hp (HS.perm (ug E row _ L))).mono ?_;rintro _ w' ⟨_,rfl,rfl,q',n',c',row',X,T,hok,hR',HS'⟩;refine ⟨_,ha.put _ (zI hd) _,kk q' n' c' row' X T w' hok hR' (HS'.perm ?_)⟩;refine (ug E row' (p,wrO q' n' c') (T++L)).symm.trans (List.Perm.cons _ ?_);refine List.Perm.append_left _ ?_;exact List.perm_append_comm_assoc _ _ _
end
theorem qX {w0 w:World}{p:Nat}{q:Option Addr}{n c:Nat}{row L T:List (Nat×Obj)}{X M:List Fel}{ok:List Fel→List (Nat×Obj)→Prop}(E:List (Nat×Obj))(hok:ok X T)(hR:RowE fS 44 q n c row (M++X))(HS:St w0.heap.size w0 w (E++(p,wrO q n c)::(row++(T++L)))):wrQ w0 p M L ok (.tuple #[]) w:=
 ⟨rfl,q,n,c,row,X,T,hok,hR,HS.sub (List.sublist_append_right ..)⟩
def qb (B:Nat)(w0:World)(p bx:Nat)(fO:Obj)(q:Option Addr)(n c:Nat)(fv:Value)(row:List (Nat×Obj))(xs:List Value)(T:List (Nat×Obj)):(Nat→Bool)→(Nat→Gh)→World→Prop:=fun L g w=>
 bif L 7 then (L 8=true→(g 8).b=(g 7).b)∧Rw 3 (g 7).cur (g 7).cap (n+1) (xs++zF.toList)∧St B w0 w ((bx,fO)::(p,.cells #[bif L 12 then .slice (some ⟨(g 7).b,0,none⟩) (n+1) (g 7).cap else .slice q n c] 67 (0,0))::((g 7).b,flO (bif L 9 then putA (g 7).cur (0+n*3) fv else (g 7).cur))::T)
 else bif L 6 then St B w0 w (((g 6).b,flO zF)::(bx,fO)::(p,wrO q n c)::(row++T))
 else St B w0 w ((bx,fO)::(p,wrO q n c)::(row++T))
section
variable {B:Nat}{w0:World}{p bx:Nat}{fO:Obj}{q:Option Addr}{n c:Nat}{fv:Value}{row:List (Nat×Obj)}{xs:List Value}{T:List (Nat×Obj)}{L:Nat→Bool}{g:Nat→Gh}{w:World}
theorem qb.st (h7:L 7=false)(h:qb B w0 p bx fO q n c fv row xs T L g w):∃l,St B w0 w l∧(bx,fO)∈l∧(p,wrO q n c)∈l:=by
 unfold qb at h;rw [h7] at h;cases h6:L 6 with
 | true=>rw [h6] at h;exact ⟨_,h,by simp,by simp⟩
 | false=>rw [h6] at h;exact ⟨_,h,by simp,by simp⟩
end
abbrev ky (x:Fel):List Fel→List (Nat×Obj)→Prop:=fun X T=>X=[x]∧T=[]
theorem uh (p:Nat)(x:Fel):FnW 67 #[.pointer (some ⟨p,0,none⟩),qa x] p 100000 (fun _=>True) (ky x):=by
 refine FnW.intro (c:=zg Tryz.f67) [] 15 Tryz.func67 kr kr kr fun w0 w q n c row Lz M hM hRE _ HS=>?_;have hn:n=M.length:=hRE.len (by decide);refine zf [0] kr kr<|qS HS (some 3) 44 (.tmp 1) (qa x) kr kr kr ?_;intro bx w1 H1;refine zb<|wW ?_;have H2:St w0.heap.size w0 w1 ((bx,flO #[.int .u64 ((x.a.1:Nat):Int),.string x.a.2,.slice x.p x.n x.c])::(p,wrO q n c)::(row++Lz)):=H1;refine D2.g_draw0 [0,1,2,3,4,5,6,7,8,9,10,11,12] [(some 4,fun _=>.pointer (some ⟨p,0,none⟩)),(some 5,fun _=>.pointer (some ⟨p,0,none⟩)),(some 6,fun _=>.pointer (some ⟨p,0,none⟩)),(some 7,fun _=>.slice q n c),(some 8,fun _=>qa x),(some 9,fun _=>iN n),(some 10,fun y=>.slice (some ⟨y.b,0,none⟩) 1 1),(some 11,fun y=>.slice (some ⟨y.b,0,none⟩) (n+1) y.cap),(some 12,fun y=>.pointer (some ⟨y.b,0+n*3,none⟩)),(none,fun _=>undef),(some 13,fun _=>.pointer (some ⟨p,0,none⟩)),(some 14,fun _=>.pointer (some ⟨p,0,none⟩)),(none,fun _=>undef)]
  (qb w0.heap.size w0 p bx (flO #[.int .u64 ((x.a.1:Nat):Int),.string x.a.2,.slice x.p x.n x.c]) q n c (qa x) row (zG fS M) Lz) kr kr kr H2.drew ⟨?_,?_,?_,?_,?_,?_,?_,?_,?_,?_,?_,?_,?_,trivial⟩ ?_
 ·exact D2.gv_val (fun _ _ _ h=>h) (fun g w=>by kernel_rfl)
 ·exact D2.gv_val (fun _ _ _ h=>h) (fun g w=>by kernel_rfl)
 ·exact D2.gv_val (fun _ _ _ h=>h) (fun g w=>by kernel_rfl)
 ·refine D2.gv_ld (fun _ _ _ h=>h) 41 (.tmp 6) (fun _=>p) 0 #[.slice q n c] 67 (0,0) (fun g=>by kernel_rfl) (fun g=>by kernel_rfl) (fun L g w hN hp=>?_) kr kr;obtain ⟨l,h,_,hm⟩:=hp.st (hN.post 7 kr);exact (h.own _ hm).2
 ·refine D2.gv_ld (fun _ _ _ h=>h) 44 (.tmp 3) (fun _=>bx) 0 #[.int .u64 ((x.a.1:Nat):Int),.string x.a.2,.slice x.p x.n x.c] 44 (0,0) (fun g=>by kernel_rfl) (fun g=>by kernel_rfl) (fun L g w hN hp=>?_) kr kr;obtain ⟨l,h,hm,_⟩:=hp.st (hN.post 7 kr);exact (h.own _ hm).2
 ·exact D2.gv_val (fun _ _ _ h=>h) (fun g w=>by kernel_rfl)
 ·refine D2.gives_of fun L1 gg ww hp hN=>?_;have h7:=hN.post 7 kr;unfold qb at hp;rw [h7,hN.1] at hp;obtain ⟨o,ho,hd,hw,hrun⟩:=zJ (show opv _ _ 6 _ ww=some (some 10,true,.ok (.value (.slice (some ⟨ww.heap.size,0,none⟩) 1 1)) (ww.alloc (.cells zF 44))) by kernel_rfl);refine ⟨o,ho,hd,.inr ⟨hw,?_⟩⟩;refine (congrArg (D2.Runs _ _) hrun).mpr ?_;refine ⟨{ b:=ww.heap.size },rfl,?_⟩;unfold qb;rw [show D2.put1 L1 6 7=false from h7,show D2.put1 L1 6 6=true from rfl];exact St.alloc hp _
 ·refine D2.gives_of fun L1 gg ww hp hN=>?_;have h6:=hN.bef 6 kr;have h8:=hN.post 8 kr;have h9:=hN.post 9 kr;have h12:=hN.post 12 kr;unfold qb at hp;rw [hN.1,h6] at hp;obtain ⟨o,ho,hd,hw,hop⟩:=zz (show opk _ 7 _=some (some 11,true,yi 41 (.tmp 7) (.tmp 10)) by kernel_rfl);refine ⟨o,ho,hd,.inr ⟨hw,?_⟩⟩;rcases hRE with ⟨rfl,rfl,rfl,rfl,rfl⟩ | ⟨br,curr,rfl,rfl,hrw⟩
  ·obtain ⟨b',cap',cur',w',hrun,HS',hr'⟩:=kX (K:=3) hp (t:=41) (e:=44) (bytes:=48) (k:=0) (bx:=(gg 6).b) (c:=1) (Y:=zF) kr hop kr kr rfl rfl (jm rfl) (by omega);rw [hrun];refine ⟨{ b:=b',cap:=cap',cur:=cur' },rfl,?_⟩;unfold qb;rw [show D2.put1 L1 7 7=true from rfl,show D2.put1 L1 7 9=false from h9,show D2.put1 L1 7 12=false from h12];refine ⟨fun hh=>absurd (h8.symm.trans hh) (by decide),hr',?_⟩;exact (HS'.sub (List.Sublist.cons_cons _ (List.sublist_cons_self ..))).perm (List.perm_middle (l₁:=[(bx,flO #[.int .u64 ((x.a.1:Nat):Int),.string x.a.2,.slice x.p x.n x.c]),(p,wrO none 0 0)]))
  ·obtain ⟨b',cap',cur',w',hrun,HS',hr'⟩:=xU (K:=3) hp (t:=41) (e:=44) (bytes:=48) (j:=3) (k:=0) (bx:=(gg 6).b) (c:=1) (Y:=zF) kr hop kr rfl hrw kr rfl rfl (jm rfl) (by omega) (by unfold maxLen;omega);rw [hrun];refine ⟨{ b:=b',cap:=cap',cur:=cur' },rfl,?_⟩;unfold qb;rw [show D2.put1 L1 7 7=true from rfl,show D2.put1 L1 7 9=false from h9,show D2.put1 L1 7 12=false from h12];exact ⟨fun hh=>absurd (h8.symm.trans hh) (by decide),hr',HS'.sub (List.sublist_cons_self ..)⟩
 ·refine D2.gives_of fun L1 gg ww hp hN=>?_;have h7:=hN.bef 7 kr;obtain ⟨o,ho,hd,hw,hop⟩:=zz (show opk _ 8 _=some (some 12,true,.indexAddr 41 (.tmp 11) (.tmp 9)) by kernel_rfl);refine ⟨o,ho,hd,.inr ⟨hw,?_⟩⟩;rw [yI (kd:=.i64) (t:=41) (e:=44) (K:=3) (bytes:=48) kr (x:=(.tmp 11)) (y:=(.tmp 9)) (gg 7).b 0 (n+1) (gg 7).cap n rfl hop kr kr (by omega) ww];refine ⟨{ b:=(gg 7).b },rfl,?_⟩;unfold qb at hp ⊢;rw [h7] at hp;rw [show D2.put1 L1 8 7=true from h7];exact ⟨fun _=>rfl,hp.2.1,hp.2.2⟩
 ·refine D2.gives_of fun L1 gg ww hp hN=>?_;have h7:=hN.bef 7 kr;have h8:=hN.bef 8 kr;unfold qb at hp;rw [h7,hN.1] at hp;obtain ⟨hg8,hr',HS⟩:=hp;have hg:=hg8 h8;have hle:=hr'.putA (0+n*3) (qa x) (by show 0+n*3+3≤(n+1)*3;omega);obtain ⟨o,ho,hd,hw,hop⟩:=zz (show opk _ 9 _=some (none,true,.store 44 (.tmp 12) (.tmp 8)) by kernel_rfl);refine ⟨o,ho,hd,.inr ⟨hw,?_⟩⟩;rw [jW (t:=44) (off:=0+n*3) (b:=(gg 7).b) (C:=(gg 7).cur) (T:=44) (v:=qa x) (C':=putA (gg 7).cur (0+n*3) (qa x)) (HS.get 2 kr) kr kr hle.1 rfl (by rw [←hg];kernel_rfl) kr o hop];refine ⟨default,rfl,?_⟩;unfold qb;rw [show D2.put1 L1 9 7=true from h7,show D2.put1 L1 9 9=true from rfl];exact ⟨fun h=>hg8 h,hr',HS.store 2 (C:=(gg 7).cur) kr⟩
 ·exact D2.gv_val (fun _ _ _ h=>h) (fun g w=>by kernel_rfl)
 ·exact D2.gv_val (fun _ _ _ h=>h) (fun g w=>by kernel_rfl)
 ·refine D2.gives_of fun L1 gg ww hp hN=>?_;have h7:=hN.bef 7 kr;unfold qb at hp;rw [h7,hN.1] at hp;obtain ⟨hg8,hr',HS⟩:=hp;obtain ⟨o,ho,hd,hw,hop⟩:=zz (show opk _ 12 _=some (none,true,.store 41 (.tmp 14) (.tmp 11)) by kernel_rfl);refine ⟨o,ho,hd,.inr ⟨hw,?_⟩⟩;rw [jW (t:=41) (off:=0) (b:=p) (C:=#[.slice q n c]) (T:=67) (v:=.slice (some ⟨(gg 7).b,0,none⟩) (n+1) (gg 7).cap) (C':=#[.slice (some ⟨(gg 7).b,0,none⟩) (n+1) (gg 7).cap]) (HS.get 1 kr) kr kr (Nat.le_of_ble_eq_true kr) rfl kr kr o hop];refine ⟨default,rfl,?_⟩;unfold qb;rw [show D2.put1 L1 12 7=true from h7,show D2.put1 L1 12 12=true from rfl];exact ⟨fun h=>hg8 h,hr',HS.store 1 (C:=#[.slice q n c]) kr⟩
 ·intro L1 gg w14 hall hp;unfold qb at hp;rw [hall 7 (Nat.le_of_ble_eq_true kr),hall 9 (Nat.le_of_ble_eq_true kr),hall 12 (Nat.le_of_ble_eq_true kr)] at hp;obtain ⟨_,hr',H4⟩:=hp;have hMl:(zG fS M).length=0+n*3:=by rw [jV,hn,Nat.zero_add];rfl
  have hnew:Rw 3 (putA (gg 7).cur (0+n*3) (qa x)) (gg 7).cap (n+1) (zG fS (M++ [x])):=by
   have h1:=(hr'.putA (0+n*3) (qa x) (by show 0+n*3+3≤(n+1)*3;omega)).2;have h2:=uF (X:=zG fS M) (Z:=zF.toList) (V:=(qa x).cells.toList) hMl rfl;rw [xT];exact h2▸h1
  refine ⟨[],.nil,?_⟩;exact qX (X:=[x]) (T:=[]) (row:=[((gg 7).b,flO (putA (gg 7).cur (0+n*3) (qa x)))]) [(bx,flO #[.int .u64 ((x.a.1:Nat):Int),.string x.a.2,.slice x.p x.n x.c])] ⟨rfl,rfl⟩ (.inr ⟨_,_,rfl,rfl,hnew⟩) H4
end Go.Proofs.YtbpmjppmpgeejaaGreatDoor
namespace Go.Proofs.YtbpmjppmpgeejaaGreatDoor
open Go Go.RowKit
set_option linter.unusedVariables false
end Go.Proofs.YtbpmjppmpgeejaaGreatDoor
namespace Go.Proofs.YtbpmjppmpgeejaaGreatDoor
open Go Go.RowKit
open D2 (Gh)
set_option linter.unusedVariables false
def fn0 (m:Nat):Fel:=⟨(m,em),none,0,0,.nil⟩
theorem jO (p:Nat)(s:ByteArray):FnW 42 #[.pointer (some ⟨p,0,none⟩),.string s] p 100000 (fun _=>True) (ky (fe0 s)):=by
 refine FnW.intro (c:=zg Tryz.f42) [] 8 Tryz.func42 kr kr kr fun w0 w q n c row L M hM hRE _ HS=>ys [0,1,2,3] kr<|rp [.v,.v,.v] HS kr fun gs1 w1 H1=>wX [3]<|ym (row:=row) (L:=L) [] (q:=q) (n:=n) (c:=c) (p:=p) (M:=M) (H1.as kr) hRE (some 7) 67 #[.pointer (some ⟨p,0,none⟩),qa (fe0 s)] (uh p (fe0 s)) hM trivial kr kr ?_;intro q' n' c' row' X T w2 hok hR' H2;refine zb ?_;exact ⟨[],.nil,qX [] hok hR' H2⟩
theorem ui (p:Nat)(m:Nat):FnW 43 #[.pointer (some ⟨p,0,none⟩),.int .u64 (m:Int)] p 100000 (fun _=>True) (ky (fn0 m)):=by
 refine FnW.intro (c:=zg Tryz.f43) [] 8 Tryz.func43 kr kr kr fun w0 w q n c row L M hM hRE _ HS=>ys [0,1,2,3] kr<|rp [.v,.v,.v] HS kr fun gs1 w1 H1=>wX [3]<|ym (row:=row) (L:=L) [] (q:=q) (n:=n) (c:=c) (p:=p) (M:=M) (H1.as kr) hRE (some 7) 67 #[.pointer (some ⟨p,0,none⟩),qa (fn0 m)] (uh p (fn0 m)) hM trivial kr kr ?_;intro q' n' c' row' X T w2 hok hR' H2;refine zb ?_;exact ⟨[],.nil,qX [] hok hR' H2⟩
theorem zii (p:Nat)(b:Bool):FnW 45 #[.pointer (some ⟨p,0,none⟩),.bool b] p 100000 (fun _=>True) (ky (fn0 (adN b))):=by
 refine FnW.intro (c:=zg Tryz.f45) [] 9 Tryz.func45 kr kr kr fun w0 w q n c row L M hM hRE _ HS=>?_;cases b with
 | true=>
  refine rS [.v] HS kr fun gs1 w1 H1=>yb<|ys [0,1] kr<|rp [.v] H1 kr fun gs2 w2 H2=>wX [1]<|ym (row:=row) (L:=L) [] (q:=q) (n:=n) (c:=c) (p:=p) (M:=M) (H2.as kr) hRE (some 6) 43 #[.pointer (some ⟨p,0,none⟩),.int .u64 ((1:Nat):Int)] (ui p 1) hM trivial kr kr ?_;intro q' n' c' row' X T w3 hok hR' H3;refine zb ?_;exact ⟨[],.nil,qX [] hok hR' H3⟩
 | false=>
  refine rS [.v] HS kr fun gs1 w1 H1=>zl kr kr<|ys [0,1] kr<|rp [.v] H1 kr fun gs2 w2 H2=>wX [1]<|ym (row:=row) (L:=L) [] (q:=q) (n:=n) (c:=c) (p:=p) (M:=M) (H2.as kr) hRE (some 8) 43 #[.pointer (some ⟨p,0,none⟩),.int .u64 ((0:Nat):Int)] (ui p 0) hM trivial kr kr ?_;intro q' n' c' row' X T w3 hok hR' H3;refine zb ?_;exact ⟨[],.nil,qX [] hok hR' H3⟩
theorem zij (p:Nat)(x:Sg)(ho:sgOk x)(hm:sgMay x=true):FnW 70 #[.pointer (some ⟨p,0,none⟩),.agg (sgC x)] p 100000 (fun _=>True) (ky (fe0 (sgB x))):=by
 have hb:=zdh x.1 x.2.1 ho.1 ho.2 x.2.2 hm;refine FnW.intro (c:=zg Tryz.f70) [] 14 Tryz.func70 kr kr kr fun w0 w q n c row L M hM hRE _ HS=>zf [0] kr kr<|qS HS (some 3) 50 (.tmp 1) (.agg (sgC x)) kr kr kr ?_;intro bx w1 H1;refine zb ?_;have H2:St w0.heap.size w0 w1 ((bx,sgO x)::(p,wrO q n c)::(row++L)):=H1;refine rS [.l 0,.c hb,.v,.v,.v,.v,.v] H2 kr fun gs2 w2 H3=>ys [0,1,2] kr<|rp [.v,.v] H3 kr fun gs3 w3 H4=>wX [2]<|ym (row:=row) (L:=L) [(bx,sgO x)] (q:=q) (n:=n) (c:=c) (p:=p) (M:=M) (H4.as kr) hRE (some 13) 42 #[.pointer (some ⟨p,0,none⟩),.string (sgB x)] (jO p (sgB x)) hM trivial kr kr ?_;intro q' n' c' row' X T w4 hok hR' H5;refine zb ?_;exact ⟨[],.nil,qX [(bx,sgO x)] hok hR' H5⟩
theorem zik (p:Nat)(qs:Option Addr)(ns cs:Nat)(A:List ByteArray)(hA:A.length≤1000):FnW 68 #[.slice qs ns cs,.func (.func 42) #[.pointer (some ⟨p,0,none⟩)] #[]] p 1000 (fun w=>AtF sS w qs ns A) (fun X T=>X=A.map fe0∧T=[]):=by
 refine FnW.intro (c:=zg Tryz.f68) [] 16 Tryz.func68 kr kr kr fun w0 w q n c row L M hM hRE hP HS=>?_;have hn:=hP.1;refine rS [.v,.v,.v] HS kr fun gs1 w1 H1=>jt 8 7 9 15 0 1 ns (by omega) (fun i ρ ww=> ∃q' n' c' row',RowE fS 44 q' n' c' row' (M++(A.take i).map fe0)∧St w0.heap.size w0 ww ((p,wrO q' n' c')::(row'++L))∧Is [(1,.func (.func 42) #[.pointer (some ⟨p,0,none⟩)] #[]),(6,.slice qs ns cs),(7,iN ns),(8,iN i)] ρ) (by rintro i _ ww ⟨_,_,_,_,_,_,_,rfl⟩;exact ⟨kr,kr⟩) ⟨q,n,c,row,by simpa using hRE,H1.as kr,isK⟩ ?_ ?_
 ·rintro i _ w4 hi ⟨q',n',c',row',hR,H4,_,rfl⟩;obtain ⟨x,hx⟩:∃x,A[i]? =some x:=⟨_,List.getElem?_eq_getElem (by omega)⟩
  obtain ⟨bl,off,C,T,fz,hp,hh,hRA⟩:=hP.row2 (by omega);have hcx:C[off+i*1]? =some (.string x):=hRA.cell hx 0 (by decide);refine rS [.o (ins:=[((.tmp 6),.slice qs ns cs),((.tmp 8),iN i)]) (v:=.pointer (some ⟨bl,off+i*1,none⟩)) (fun ρ o w ho hi2=>zU (kd:=.i64) (t:=23) (e:=9) (K:=1) (bytes:=16) kr (x:=(.tmp 6)) (y:=(.tmp 8)) bl off ns cs i hp ho hi2.1 hi2.2.1 (by omega) w),.fs (off:=off+i*1) (v:=.string x) hh (zC hh) hcx,.v] H4 kr fun gs5 w5 H5=>ys [0,1,2] kr<|rp [.v,.v] H5 kr fun gs6 w6 H6=>wX [2] ?_;have hl:(M++(A.take i).map fe0).length≤100000:=by rw [List.length_append,List.length_map,List.length_take];omega
  refine ym (row:=row') (L:=L) [] (q:=q') (n:=n') (c:=c') (p:=p) (M:=M++(A.take i).map fe0) (H6.as kr) hR (some 14) 42 #[.pointer (some ⟨p,0,none⟩),.string x] (jO p x) hl trivial kr kr ?_;rintro q2 n2 c2 row2 X T w7 ⟨rfl,rfl⟩ hR2 H7;refine zb ?_;exact ⟨kr,q2,n2,c2,row2,by rw [qW hx,List.map_append,←List.append_assoc];exact hR2,H7,isK⟩
 ·rintro _ w4 ⟨q',n',c',row',hR,H4,_,rfl⟩;rw [List.take_of_length_le (by omega)] at hR;exact ⟨[],.nil,qX (T:=[]) [] ⟨rfl,rfl⟩ hR H4⟩
theorem zil (p:Nat)(qs:Option Addr)(ns cs:Nat)(A:List Sg)(hA:A.length≤1000)(ho: ∀x∈A,sgOk x)(hy:A.all sgMay=true):FnW 69 #[.slice qs ns cs,.func (.func 70) #[.pointer (some ⟨p,0,none⟩)] #[]] p 1000 (fun w=>AtF sgF w qs ns A) (fun X T=>X=(A.map sgB).map fe0∧T=[]):=by
 refine FnW.intro (c:=zg Tryz.f69) [] 16 Tryz.func69 kr kr kr fun w0 w q n c row L M hM hRE hP HS=>?_;have hn:=hP.1;refine rS [.v,.v,.v] HS kr fun gs1 w1 H1=>jt 8 7 9 15 0 1 ns (by omega) (fun i ρ ww=> ∃q' n' c' row',RowE fS 44 q' n' c' row' (M++((A.take i).map sgB).map fe0)∧St w0.heap.size w0 ww ((p,wrO q' n' c')::(row'++L))∧Is [(1,.func (.func 70) #[.pointer (some ⟨p,0,none⟩)] #[]),(6,.slice qs ns cs),(7,iN ns),(8,iN i)] ρ) (by rintro i _ ww ⟨_,_,_,_,_,_,_,rfl⟩;exact ⟨kr,kr⟩) ⟨q,n,c,row,by simpa using hRE,H1.as kr,isK⟩ ?_ ?_
 ·rintro i _ w4 hi ⟨q',n',c',row',hR,H4,_,rfl⟩;obtain ⟨x,hx⟩:∃x,A[i]? =some x:=⟨_,List.getElem?_eq_getElem (by omega)⟩
  obtain ⟨bl,off,C,T,fz,hp,hh,hRA⟩:=hP.row2 (by omega);have hxm:=List.mem_of_getElem? hx;refine zf [0,1,2,3] kr kr<|rp [.o (ins:=[((.tmp 6),.slice qs ns cs),((.tmp 8),iN i)]) (v:=.pointer (some ⟨bl,off+i*9,none⟩)) (fun ρ o w ho hi2=>zU (kd:=.i64) (t:=24) (e:=50) (K:=9) (bytes:=72) kr (x:=(.tmp 6)) (y:=(.tmp 8)) bl off ns cs i hp ho hi2.1 hi2.2.1 (by omega) w),.fp (off:=off+i*9) (n:=9) (W:=sgC x) hh (zC hh) (hRA _ _ hx).1 (hRA _ _ hx).2] H4 kr fun gs5 w5 H5=>wX [2,3] ?_;have H6:St w0.heap.size w0 w5 ((p,wrO q' n' c')::(row'++L)):=H5.as kr;refine zE H6 (some 5) 50 (.agg (sgC (0,0,0))) kr kr kr ?_;intro b5 w6 H7;refine rp [.s 0] H7 kr fun gs6 w7 H8=>wX []<|zb ?_;have H9:St w0.heap.size w0 w7 ((b5,sgO x)::(p,wrO q' n' c')::(row'++L)):=H8.as kr;refine ys [0,1,2] kr<|rp [.v,.l 0] H9 kr fun gs7 w8 H10=>wX [2] ?_;have hl:(M++((A.take i).map sgB).map fe0).length≤100000:=by rw [List.length_append,List.length_map,List.length_map,List.length_take];omega
  refine ym (row:=row') (L:=L) [(b5,sgO x)] (q:=q') (n:=n') (c:=c') (p:=p) (M:=M++((A.take i).map sgB).map fe0) (H10.as kr) hR (some 14) 70 #[.pointer (some ⟨p,0,none⟩),.agg (sgC x)] (zij p x (ho x hxm) (List.all_eq_true.1 hy x hxm)) hl trivial kr kr ?_;rintro q2 n2 c2 row2 X T w9 ⟨rfl,rfl⟩ hR2 H11;refine zb ?_;exact ⟨kr,q2,n2,c2,row2,by rw [qW hx,List.map_append,List.map_append,←List.append_assoc];exact hR2,H11.sub (List.sublist_cons_self ..),isK⟩
 ·rintro _ w4 ⟨q',n',c',row',hR,H4,_,rfl⟩;rw [List.take_of_length_le (by omega)] at hR;exact ⟨[],.nil,qX (T:=[]) [] ⟨rfl,rfl⟩ hR H4⟩
theorem zim (p:Nat)(qs:Option Addr)(ns cs:Nat)(A:List ByteArray)(hA:A.length≤1000):FnW 44 #[.pointer (some ⟨p,0,none⟩),.slice qs ns cs] p 100000 (fun w=>AtF sS w qs ns A) (fun X T=> ∃q2 n2 c2,X=[⟨(0,em),q2,n2,c2,lsF (A)⟩]∧RowE fS 44 q2 n2 c2 T ((A).map fe0)):=by
 refine FnW.intro (c:=zg Tryz.f44) [] 13 Tryz.func44 kr kr kr fun w0 w q n c row L M hM hRE hP HS=>zf [0] kr kr<|zE HS (some 4) 67 (.agg #[.slice none 0 0]) kr kr kr ?_;intro b4 w1 H1;refine zb ?_;have H2:St w0.heap.size w0 w1 ((b4,wrO none 0 0)::(p,wrO q n c)::(row++L)):=H1;refine zf [0,1,2] kr kr<|rp [.v,.v] H2 kr fun gs2 w2 H3=>wX [2]<|ym (row:=[]) (L:=(p,wrO q n c)::(row++L)) [] (q:=none) (n:=0) (c:=0) (p:=b4) (M:=[]) (H3.as kr) (.inl ⟨rfl,rfl,rfl,rfl,rfl⟩) (some 7) 68 #[.slice qs ns cs,.func (.func 42) #[.pointer (some ⟨b4,0,none⟩)] #[]] (zik b4 qs ns cs A hA) (Nat.zero_le _) hP kr kr ?_;rintro q2 n2 c2 row2 X T w3 ⟨rfl,rfl⟩ hR2 H4;refine zb ?_;have H5:St w0.heap.size w0 w3 ((b4,wrO q2 n2 c2)::(row2++(p,wrO q n c)::(row++L))):=H4;refine ys [0,1,2,3,4] kr<|rp [.v,.v,.l 0,.v] H5 kr fun gs3 w4 H6=>wX [4] ?_;have H7:St w0.heap.size w0 w4 ((b4,wrO q2 n2 c2)::(row2++(p,wrO q n c)::(row++L))):=H6.as kr;refine ym (row:=row) (L:=row2++L) [(b4,wrO q2 n2 c2)] (q:=q) (n:=n) (c:=c) (p:=p) (M:=M) (H7.perm (List.Perm.cons _ (ug row2 row _ L))) hRE (some 12) 67 #[.pointer (some ⟨p,0,none⟩),qa ⟨(0,em),q2,n2,c2,lsF (A)⟩] (uh p ⟨(0,em),q2,n2,c2,lsF (A)⟩) hM trivial kr kr ?_;rintro q3 n3 c3 row3 X T w5 ⟨rfl,rfl⟩ hR3 H8;refine zb ?_;exact ⟨[],.nil,qX (T:=row2) [(b4,wrO q2 n2 c2)] ⟨q2,n2,c2,rfl,hR2⟩ hR3 H8⟩
theorem zin (p:Nat)(qs:Option Addr)(ns cs:Nat)(A:List Sg)(hA:A.length≤1000)(ho: ∀x∈A,sgOk x)(hy:A.all sgMay=true):FnW 46 #[.pointer (some ⟨p,0,none⟩),.slice qs ns cs] p 100000 (fun w=>AtF sgF w qs ns A) (fun X T=> ∃q2 n2 c2,X=[⟨(0,em),q2,n2,c2,lsF (A.map sgB)⟩]∧RowE fS 44 q2 n2 c2 T ((A.map sgB).map fe0)):=by
 refine FnW.intro (c:=zg Tryz.f46) [] 13 Tryz.func46 kr kr kr fun w0 w q n c row L M hM hRE hP HS=>zf [0] kr kr<|zE HS (some 4) 67 (.agg #[.slice none 0 0]) kr kr kr ?_;intro b4 w1 H1;refine zb ?_;have H2:St w0.heap.size w0 w1 ((b4,wrO none 0 0)::(p,wrO q n c)::(row++L)):=H1;refine zf [0,1,2] kr kr<|rp [.v,.v] H2 kr fun gs2 w2 H3=>wX [2]<|ym (row:=[]) (L:=(p,wrO q n c)::(row++L)) [] (q:=none) (n:=0) (c:=0) (p:=b4) (M:=[]) (H3.as kr) (.inl ⟨rfl,rfl,rfl,rfl,rfl⟩) (some 7) 69 #[.slice qs ns cs,.func (.func 70) #[.pointer (some ⟨b4,0,none⟩)] #[]] (zil b4 qs ns cs A hA ho hy) (Nat.zero_le _) hP kr kr ?_;rintro q2 n2 c2 row2 X T w3 ⟨rfl,rfl⟩ hR2 H4;refine zb ?_;have H5:St w0.heap.size w0 w3 ((b4,wrO q2 n2 c2)::(row2++(p,wrO q n c)::(row++L))):=H4;refine ys [0,1,2,3,4] kr<|rp [.v,.v,.l 0,.v] H5 kr fun gs3 w4 H6=>wX [4] ?_;have H7:St w0.heap.size w0 w4 ((b4,wrO q2 n2 c2)::(row2++(p,wrO q n c)::(row++L))):=H6.as kr;refine ym (row:=row) (L:=row2++L) [(b4,wrO q2 n2 c2)] (q:=q) (n:=n) (c:=c) (p:=p) (M:=M) (H7.perm (List.Perm.cons _ (ug row2 row _ L))) hRE (some 12) 67 #[.pointer (some ⟨p,0,none⟩),qa ⟨(0,em),q2,n2,c2,lsF (A.map sgB)⟩] (uh p ⟨(0,em),q2,n2,c2,lsF (A.map sgB)⟩) hM trivial kr kr ?_;rintro q3 n3 c3 row3 X T w5 ⟨rfl,rfl⟩ hR3 H8;refine zb ?_;exact ⟨[],.nil,qX (T:=row2) [(b4,wrO q2 n2 c2)] ⟨q2,n2,c2,rfl,hR2⟩ hR3 H8⟩
end Go.Proofs.YtbpmjppmpgeejaaGreatDoor
