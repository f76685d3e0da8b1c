/-
  Texts of the proof,part 4.
-/
import Derived.Test.YthonokeibcodpaaGreatDoorProg
import Derived.Laws.BitsLemmas
import Derived.Laws.BitsAllLaws
import Derived.Laws.BytesArg
import Derived.Below
import Derived.Laws.Bits64b
import Derived.Lib.Hide
import Derived.Test.YthonokeibcodpaaGreatDoorBB1
import Derived.Test.YthonokeibcodpaaGreatDoorBB2
import Derived.Test.YthonokeibcodpaaGreatDoorBB3
set_option maxRecDepth 100000
set_option maxHeartbeats 4000000
namespace Go.Proofs.YthonokeibcodpaaGreatDoor
open Go Go.RowKit
set_option linter.unusedVariables false
structure jV (C:Array Value)(n i:Nat)(M:List X3):Prop where
 sz:C.size=n*3
 len:M.length=i
 take:C.toList.take (i*3)=cells3 M
theorem jV.start {C:Array Value}{n:Nat}(h:C.size=n*3):jV C n 0 []:=⟨h,rfl,by simp [cells3]⟩
theorem jV.put {C:Array Value}{n i:Nat}{M:List X3}(h:jV C n i M)(x:X3)(hi:i<n):
 0+i*3+(Value.agg (xc x)).cells.size≤C.size∧jV (C.toList.take (0+i*3)++(Value.agg (xc x)).cells.toList++C.toList.drop (0+i*3+(Value.agg (xc x)).cells.size)).toArray n (i+1) (M++ [x]):=by
 have hc:(Value.agg (xc x)).cells=xc x:=rfl;have h3:(xc x).size=3:=rfl;have hl3:(xc x).toList.length=3:=rfl;have hsz:=h.sz;rw [hc,h3,Nat.zero_add];have hle:i*3+3≤C.size:=by omega
 refine ⟨hle,?_,by rw [List.length_append,h.len];rfl,?_⟩
 ·simp only [List.size_toArray,List.length_append,List.length_take,List.length_drop,Array.length_toList,hl3];omega
 ·have e1:(C.toList.take (i*3)).length=i*3:=by rw [List.length_take,Array.length_toList];omega
  have e2:(C.toList.take (i*3)).take (i*3+3)=C.toList.take (i*3):=List.take_of_length_le (by omega);have e3:(xc x).toList.take 3=(xc x).toList:=rfl;rw [show (i+1)*3=i*3+3 by omega,List.toList_toArray,List.append_assoc,List.take_append,e1,e2,Nat.add_sub_cancel_left,List.take_append,hl3,Nat.sub_self,List.take_zero,List.append_nil,e3,zbn,h.take];rfl
theorem jV.done {C:Array Value}{n:Nat}{M:List X3}(h:jV C n n M)(hm:n≤maxLen):Rw 3 C n n (cells3 M):=⟨by rw [jy,h.len],Nat.le_refl _,hm,h.take,h.sz⟩
theorem zjh (n c:Nat)(L:List X3)(h0:n=0):FnR Tryz.prog 38 #[.slice none n c] (fun w=>n=List.length L∧qG w none L) (vz 46 (fun v=>v) n L):=by
 refine FnR.intro (c:=zf Tryz.f38) [.tmp 2] 8 Tryz.func38 kr kr kr fun w hpre=>?_;have H0:=St.start w;refine rS [.v] H0 kr fun gs1 w1 H1=>?_;clear H0;refine zc kr<|rS [.v,.v] H1 kr fun gs2 w2 H2=>?_;clear H1;refine zj kr kr<|rS [.v] H2 kr fun gs3 w3 H3=>?_;clear H2;refine zk kr<|wV ?_;refine ⟨[.slice none 0 0],(.tmp (.slice none 0 0) kr .nil),H3.below,?_⟩;exact Or.inl ⟨h0,rfl⟩
theorem zji (a:Addr)(n c:Nat)(L:List X3)(hn8:n≤2000000000000):FnR Tryz.prog 38 #[.slice (some a) n c] (fun w=>n=List.length L∧qG w (some a) L) (vz 46 (fun v=>v) n L):=by
 refine FnR.intro (c:=zf Tryz.f38) [.tmp 2] 8 Tryz.func38 kr kr kr fun w hpre=>?_;have H0:=St.start w;refine rS [.v] H0 kr fun gs1 w1 H1=>?_;clear H0;refine zc kr<|rS [.v,.v] H1 kr fun gs2 w2 H2=>?_;clear H1;refine zl kr kr<|zn kr<|wW<|zg [0,1,2,3] kr kr<|rp [.nw (fun b=>.slice (some ⟨b,0,none⟩) 0 0) #[] 46,.v] H2 kr fun gs3 w3 H3=>wX [2,3] ?_;clear H2;have HL1:St w.heap.size w w3 [((gs3 0).b,Obj.cells #[] 46 (0,0))]:=H3.as kr;clear H3;refine ziH HL1 (some 7) 43 46 48 (.tmp 5) (.tmp 6) 0 ((gs3 0).b) 0 n 0 c (some a) #[] [] L (fun b_1 cur_3=>[(b_1,Obj.cells cur_3 46 (0,0))]) kr kr kr kr kr (Rw.lit #[] 0 (by rfl) (by unfold maxLen;omega)) kr hpre.1 (fun h=>nomatch h) (qG.up hpre.2 HL1.below) (by omega) (by unfold maxLen;omega) (fun _ _=>by kernel_rfl) ?_;intro b_1 cap_2 cur_3 w4 H4 hr_4;clear HL1;rw [Nat.zero_add] at hr_4;refine ya 7 (v:=.slice (some ⟨b_1,0,none⟩) (0+n) cap_2) (v':=.slice (some ⟨b_1,0,none⟩) n cap_2) (by rw [Nat.zero_add]) kr<|rp [.v] H4 kr fun gs5 w5 H5=>wX [] ?_;clear H4;refine zb<|zk kr<|wV ?_;refine ⟨[.slice (some ⟨b_1,0,none⟩) n cap_2],(.tmp (.slice (some ⟨b_1,0,none⟩) n cap_2) kr .nil),H5.below,?_⟩;exact Or.inr ⟨b_1,cap_2,_,rfl,H5.ge 0 (o:=.cells cur_3 46 (0,0)) kr,H5.get 0 kr,hr_4⟩
theorem zjj (p:Option Addr)(n c:Nat)(L:List X3)(hn8:n≤2000000000000):FnR Tryz.prog 38 #[.slice p n c] (fun w=>n=List.length L∧qG w p L) (vz 46 (fun v=>v) n L):=fun w hp=>by
 cases p with
 | none=>
  have h0:n=0:=by
   rcases hp.2 with h|⟨b,off,e,_⟩
   ·rw [hp.1,h];rfl
   ·cases e
  exact zjh n c L h0 w hp
 | some a=>exact zji a n c L hn8 w hp
theorem zes (p:Option Addr)(n c:Nat)(L:List X3)(hn8:n≤2000000000000):FnR Tryz.prog 21 #[.slice p n c] (fun w=>n=List.length L∧qG w p L) (vz 46 (fun v=>.agg #[.bool true,.string ⟨#[]⟩,v]) n L):=by
 refine FnR.intro (c:=zf Tryz.f21) [.cell 2 46] 6 Tryz.func21 kr kr kr fun w hpre=>?_;have H0:=St.start w;refine rS [.a] H0 kr fun gs1 w1 H1=>?_;clear H0;refine zg [0,1,2,3] kr kr<|rp [.v] H1 kr fun gs2 w2 H2=>wX [1,2,3] ?_;clear H1;refine zbv H2 (some 4) 38 #[.slice p n c] (fun w=>n=List.length L∧qG w p L) 46 (fun v=>v) n L (zjj p n c L (by omega)) ⟨hpre.1,qG.up hpre.2 H2.below⟩ kr kr ?_ ?_
 ·skip;intro w3 h0 H3;clear H2;refine rp [.v,.s 0] H3 kr fun gs5 w5 H5=>wX [] ?_;clear H3;refine zb<|zk kr<|wV ?_;refine ⟨[.agg #[.bool true,.string (⟨#[]⟩),.slice none 0 0]],(.agg (b:=(gs1 0).b) (#[.bool true,.string (⟨#[]⟩),.slice none 0 0]) 46 (0,0) kr (H5.get 0 kr) kr .nil),H5.below,?_⟩;exact Or.inl ⟨h0,rfl⟩
 ·skip;intro b_1 cap_2 cur_3 w4 H4 hr_4;clear H2;refine rp [.v,.s 1] H4 kr fun gs6 w6 H6=>wX [] ?_;clear H4;refine zb<|zk kr<|wV ?_;refine ⟨[.agg #[.bool true,.string (⟨#[]⟩),.slice (some ⟨b_1,0,none⟩) n cap_2]],(.agg (b:=(gs1 0).b) (#[.bool true,.string (⟨#[]⟩),.slice (some ⟨b_1,0,none⟩) n cap_2]) 46 (0,0) kr (H6.get 1 kr) kr .nil),H6.below,?_⟩;exact Or.inr ⟨b_1,cap_2,_,rfl,H6.ge 0 (o:=.cells cur_3 46 (0,0)) kr,H6.get 0 kr,hr_4⟩
def Fo.app:Fo→Fo→Fo
 | .nil,R=>R
 | .cons l s k r,R=>.cons l s k (r.app R)
theorem zet (x:X3)(R:Fo): ∀M:List X3,(toFo (M++ [x])).app R=(toFo M).app (.cons x.l x.s x.k R)
 | []=>rfl
 | y::r=>by simp only [List.cons_append,toFo,Fo.app,zet x R r]
theorem Fo.app_nil: ∀k:Fo,k.app .nil=k
 | .nil=>rfl
 | .cons l s k r=>by simp only [Fo.app,Fo.app_nil r]
theorem zeu {g:Nat}{x:Nat×ByteArray}(h:x.2.size≤0x800000000000):(yx g x).size≤0x800000000000:=by
 unfold yx;split
 ·rw [qd];have:=qm x.1;omega
 ·split
  ·exact Nat.zero_le _
  ·exact h
def vD (g:Nat)(b:Kf)(x:Nat×ByteArray)(l:Fe)(v:Value)(T:List (Nat×Obj)):Prop:=
 ∃(p:Option Addr) (n c:Nat),v=.agg #[.bool (zY g),.string (yx g x),.slice p n c]∧SlIn T p n (zT g b l)
def uZ (l:Fe):Prop:= ∀(g:Nat) (p:Option Addr) (n c:Nat) (b:Kf) (m:Nat) (s:ByteArray) (p2:Option Addr) (n2 c2:Nat) (room:Int),m<0x10000000000000000→0≤zS g b (m,s) l room→
 FnT Tryz.prog 78 #[knd g p n c,fld m s p2 n2 c2] (fun w=>SlR kS w.heap.size w p n b∧SlR fS w.heap.size w p2 n2 l) (vD g b (m,s) l)
abbrev zjk (v:Value):Obj:=.cells #[.bool true,.string ⟨#[]⟩,v] 46 (0,0)
abbrev itZ:Obj:=.cells #[.bool false,.string ⟨#[]⟩,.slice none 0 0] 46 (0,0)
abbrev kdO (g:Nat)(p:Option Addr)(n c:Nat):Obj:=.cells #[.int .u8 (g:Int),.slice p n c] 112 (0,0)
abbrev fdO (m:Nat)(s:ByteArray)(p:Option Addr)(n c:Nat):Obj:=.cells #[.int .u64 (m:Int),.string s,.slice p n c] 86 (0,0)
abbrev rwO (C:Array Value):Obj:=.cells C 46 (0,0)
def zaa (C:Array Value)(i:Nat)(x:X3):Array Value:=(C.toList.take (0+i*3)++(Value.agg (xc x)).cells.toList++C.toList.drop (0+i*3+(Value.agg (xc x)).cells.size)).toArray
def jc (B:Nat)(w0:World)(bq br:Nat)(C:Array Value)(i:Nat)(ok:X3→List (Nat×Obj)→Prop)(bk:Nat)(kO fO:Obj)(T:List (Nat×Obj)):(Nat→Bool)→(Nat→D2.Gh)→World→Prop:=fun L g w=>
 bif L 8 then ∃x T2,ok x T2∧St B w0 w ((bq,fO)::(bk,kO)::(br,rwO (zaa C i x))::(T2++T))
 else bif L 6 then ∃x T2,ok x T2∧(g 6).cur=xc x∧St B w0 w ((bq,fO)::(bk,kO)::(br,rwO C)::(T2++T))
 else St B w0 w ((bq,fO)::(bk,kO)::(br,rwO C)::T)
theorem jc.st {B:Nat}{w0:World}{bq br:Nat}{C:Array Value}{i:Nat}{ok:X3→List (Nat×Obj)→Prop}{bk:Nat}{kO fO:Obj}{T:List (Nat×Obj)}{L:Nat→Bool}{g:Nat→D2.Gh}{w:World}(h8:L 8=false)(h:jc B w0 bq br C i ok bk kO fO T L g w):∃T',St B w0 w ((bq,fO)::(bk,kO)::(br,rwO C)::T'):=by
 unfold jc at h;rw [h8] at h;cases h6:L 6 with
 | true=>rw [h6] at h;obtain ⟨x,T2,_,_,h⟩:=h;exact ⟨_,h⟩
 | false=>rw [h6] at h;exact ⟨_,h⟩
theorem jc.call {B:Nat}{w0:World}{bq br:Nat}{C:Array Value}{i:Nat}{ok:X3→List (Nat×Obj)→Prop}{bk:Nat}{kO fO:Obj}{T:List (Nat×Obj)}{L:Nat→Bool}{g:Nat→D2.Gh}{w w':World}(hb:Below w.heap.size w w')(h:jc B w0 bq br C i ok bk kO fO T L g w):jc B w0 bq br C i ok bk kO fO T L g w':=by
 unfold jc at h ⊢;cases h8:L 8 with
 | true=>rw [h8] at h;obtain ⟨x,T2,h1,h⟩:=h;exact ⟨x,T2,h1,h.call hb⟩
 | false=>
  rw [h8] at h;cases h6:L 6 with
  | true=>rw [h6] at h;obtain ⟨x,T2,h1,h2,h⟩:=h;exact ⟨x,T2,h1,h2,h.call hb⟩
  | false=>rw [h6] at h;exact St.call h hb
theorem zjl (l:Fe)(hs:l.sub uZ):uZ l:=by
 intro g p n c b m s p2 n2 c2 room hm hleft;refine FnT.intro (c:=zf Tryz.f78) [.cell 4 46] 44 Tryz.func78 kr kr kr fun w hpre=>?_;have H0:=St.start w;obtain ⟨hK,hF⟩:=hpre;have hfit:zB g b.len m s.size l.len=true∧0≤yM l g b 0 (w64 (room-1)):=by
  unfold zS at hleft;by_cases hf:zB g b.len m s.size l.len=true
  ·rw [if_pos hf] at hleft;exact ⟨hf,hleft⟩
  ·rw [if_neg hf] at hleft;omega
 obtain ⟨hf1,hf2,hf3⟩:=zbB hfit.1;have hn2:=hF.1;have hnb:n2≤1000:=by
  have hk1:=hK.1;have hk2:n≤1000:=hK.2.1;have:=hf3.2;unfold yc at this;split at this
  ·simp only at this;omega
  ·split at this
   ·simp only at this;omega
   ·simp only at this;omega
 refine rS [.b,.b,.a] H0 kr fun gs1 w1 H1=>?_;clear H0;refine rS [.v,.l 0] H1 kr fun gs2 w2 H2=>?_;clear H1;refine zz 0 kr ?_;by_cases h110:g=110
 ·refine rS [.E (.bool ((g:Int)==110)) (.bool true) (za (beq_iff_eq.2 (by omega))),.v] H2 kr fun gs3 w3 H3=>zj kr kr<|rS [.v,.l 1,.c (zit m hm),.s 2] H3 kr fun gs4 w4 H4=>rRr [.cell 4 46] [2] (.agg #[.bool false,.string (zh (dg m)),.slice none 0 0]) (zX w.heap.size w (vD g b (m,s) l)) H4 kr ?_;refine ⟨[],⟨none,0,0,?_,?_⟩,H4.sub (List.nil_sublist _)⟩
  ·subst h110;rfl
  ·subst h110;exact SlIn.none _
 ·refine rS [.E (.bool ((g:Int)==110)) (.bool false) (za (beq_eq_false_iff_ne.2 (by omega))),.v] H2 kr fun gs3 w3 H3=>zl kr kr<|zc kr<|xL (Q:=fun e ρ ww=>e=.normal∧St w.heap.size w ww [((gs1 0).b,kdO g p n c),((gs1 1).b,fdO m s p2 n2 c2),((gs1 2).b,itZ)]∧Is [(2,.pointer (some ⟨(gs1 0).b,0,none⟩)),(3,.pointer (some ⟨(gs1 1).b,0,none⟩)),(4,.pointer (some ⟨(gs1 2).b,0,none⟩)),(18,.bool (zY g))] ρ) ?_ ?_
  ·by_cases h40:g=40
   ·refine rS [.E (.bool ((g:Int)==40)) (.bool true) (za (beq_iff_eq.2 (by omega))),.v] H3 kr fun gs4 w4 H4=>zj kr kr<|zn kr ?_;refine ⟨rfl,H4.as kr,?_⟩;subst h40;exact Is.of ⟨kr,kr,kr,kr,trivial⟩
   ·refine rS [.E (.bool ((g:Int)==40)) (.bool false) (za (beq_eq_false_iff_ne.2 (by omega))),.v] H3 kr fun gs4 w4 H4=>zl kr kr ?_;have hl:zY g=decide (g=42):=by unfold zY;rw [decide_eq_false h40];rfl
    rw [hl];by_cases h42:g=42
    ·refine rL [.E (.bool ((g:Int)==42)) (.bool true) (za (beq_iff_eq.2 (by omega))),.v] H4 kr fun gs5 w5 H5=>?_;refine ⟨rfl,H5.as kr,?_⟩;rw [decide_eq_true h42];exact Is.of ⟨kr,kr,kr,kr,trivial⟩
    ·refine rL [.E (.bool ((g:Int)==42)) (.bool false) (za (beq_eq_false_iff_ne.2 (by omega))),.v] H4 kr fun gs5 w5 H5=>?_;refine ⟨rfl,H5.as kr,?_⟩;rw [decide_eq_false h42];exact Is.of ⟨kr,kr,kr,kr,trivial⟩
  rintro _ _ w4 ⟨rfl,H4,_,rfl⟩;refine wW ?_;clear H3 H2;cases hl:zY g with
  | false=>
   refine zl kr kr<|rS [.v,.l 1,.v,.s 2] H4 kr fun gs5 w5 H5=>rRr [.cell 4 46] [2] (.agg #[.bool false,.string s,.slice none 0 0]) (zX w.heap.size w (vD g b (m,s) l)) H5 kr ?_;refine ⟨[],⟨none,0,0,?_,?_⟩,H5.sub (List.nil_sublist _)⟩
   ·unfold yx;rw [if_neg h110,if_neg (by rw [hl];decide),hl]
   ·unfold zT;rw [if_neg (by rw [hl];decide)];exact SlIn.none _
  | true=>
   refine zj kr kr<|zg [0,1,2,3,4] kr kr<|rp [.v,.l 1,.v] H4 kr fun gs5 w5 H5=>wX [3,4] ?_;have H6:St w.heap.size w w5 [((gs1 0).b,kdO g p n c),((gs1 1).b,fdO m s p2 n2 c2),((gs1 2).b,itZ)]:=H5.as kr;refine zgS H6 (some 24) 43 46 3 48 (.tmp 23) (.tmp 23) .i64 .i64 n2 kr kr kr kr kr (by omega) (by unfold maxLen;omega) ?_;intro br C0 w6 H7 hC0;clear H4 H5 H6;have H8:St w.heap.size w w6 (((gs1 0).b,kdO g p n c)::(br,rwO C0)::((gs1 1).b,fdO m s p2 n2 c2)::((gs1 2).b,itZ)::[]):=H7.perm (List.Perm.swap _ _ _);clear H7;refine rp [.v] H8 kr fun gs6 w7 H9=>wX []<|zb<|zc kr<|rS [.v,.l 2,.v,.v] H9 kr fun gs7 w8 H10=>zz 1 kr ?_;have H11:St w.heap.size w w8 (((gs1 0).b,kdO g p n c)::(br,rwO C0)::((gs1 1).b,fdO m s p2 n2 c2)::((gs1 2).b,itZ)::[]):=H10.as kr;clear H8 H9 H10;refine yW kr (fun mz ρ ww=> ∃(i:Nat) (r:Fe) (v:Int) (C:Array Value) (M:List X3) (T:List (Nat×Obj)),n2-i=mz∧FrR fS w.heap.size w p2 i r∧i+r.len=n2∧r.sub uZ∧0≤yM r g b i v∧(toFo M).app (qn r g b i)=qn l g b 0∧jV C n2 i M∧AllIn T M∧St w.heap.size w ww (((gs1 0).b,kdO g p n c)::(br,rwO C)::((gs1 1).b,fdO m s p2 n2 c2)::((gs1 2).b,itZ)::T)∧Is [(2,.pointer (some ⟨(gs1 0).b,0,none⟩)),(3,.pointer (some ⟨(gs1 1).b,0,none⟩)),(4,.pointer (some ⟨(gs1 2).b,0,none⟩)),(5,.slice (some ⟨br,0,none⟩) n2 n2),(26,.slice p2 n2 c2),(27,.int .i64 (n2:Int)),(28,.int .i64 (i:Int))] ρ) (n2-0) ⟨0,l,_,C0,[],[],rfl,hF.start,by omega,hs,hfit.2,rfl,jV.start hC0,(fun _ h=>nomatch h),H11,(Is.of ⟨kr,kr,kr,kr,kr,kr,kr,trivial⟩)⟩ ?_;clear H11;rintro _ _ w9 ⟨i,r,v,C,M,T,rfl,hR,hN,hsub,hlf,happ,hFill,hAll,H12,_,rfl⟩;by_cases hi:i<n2
   ·refine rS [.E (.bool (decide ((i:Int)<(n2:Int)))) (.bool true) (za (decide_eq_true (by omega)))] H12 kr fun gs8 w10 H13=>?_;clear H12;refine zc kr<|zj kr kr<|zn kr<|wW<|zc kr<|zz 2 kr ?_;obtain ⟨⟨m1,s1⟩,k1,r1,b1,off1,C1,T1,fz1,p1,n1,c1,hr1,hp1,hb1,hh1,hs1,hx1,hz1,hk1,hR1,hN1⟩:=FrR.open hR hN hi;obtain ⟨g',p',n',c',hK1,hK2,hg'⟩:=hK.kid g i;subst hr1;rw [vC,←hg'] at hlf;have hkid:0≤zS g' (zq g b i).2 (m1,s1) k1 v∧0≤yM r1 g b (i+1) (zS g' (zq g b i).2 (m1,s1) k1 v):=by
     by_cases hv:zS g' (zq g b i).2 (m1,s1) k1 v<0
     ·rw [if_pos hv] at hlf;omega
     ·rw [if_neg hv] at hlf;exact ⟨Int.not_lt.1 hv,hlf⟩
    refine zg [0,1,2,3,4,5] kr kr<|rp [.v,.o (ins:=[((.tmp 26),.slice p2 n2 c2),((.tmp 28),.int .i64 (i:Int))]) (v:=.pointer (some ⟨b1,off1+i*3,none⟩)) (fun ρ o w ho hi2=>ys (kd:=.i64) (t:=82) (e:=86) (K:=3) (bytes:=48) kr (x:=(.tmp 26)) (y:=(.tmp 28)) b1 off1 n2 c2 i hp1 ho hi2.1 hi2.2.1 (by omega) w),.fp (off:=off1+i*3) (n:=3) (W:=#[.int .u64 (m1:Int),.string s1,.slice p1 n1 c1]) hh1 hb1 hs1 hx1] H13 kr fun gs9 w11 H14=>wX [3,4,5] ?_;have H15:St w.heap.size w w11 (((gs1 0).b,kdO g p n c)::(br,rwO C)::((gs1 1).b,fdO m s p2 n2 c2)::((gs1 2).b,itZ)::T):=H14.as kr;refine zE H15 (some 7) 86 (.agg #[wZ,.string ⟨#[]⟩,.slice none 0 0]) kr kr kr ?_;intro bq w12 H16;refine rp [.v,.s 0] H16 kr fun gs10 w13 H17=>wX []<|zb ?_;have H18:St w.heap.size w w13 ((bq,fdO m1 s1 p1 n1 c1)::((gs1 0).b,kdO g p n c)::(br,rwO C)::((gs1 1).b,fdO m s p2 n2 c2)::((gs1 2).b,itZ)::T):=H17.as kr;clear H13 H14 H15 H16 H17;have hc:=hsub.1 g' p' n' c' (zq g b i).2 m1 s1 p1 n1 c1 v hz1.1 hkid.1;refine D2.g_draw0 [0,1,2,3,4,5,6,7,8] [(some 33,fun _=>.slice (some ⟨br,0,none⟩) n2 n2),(some 34,fun _=>.int .i64 (i:Int)),(some 35,fun _=>knd g p n c),(some 36,fun _=>.int .i64 (i:Int)),(some 37,fun _=>knd g' p' n' c'),(some 38,fun _=>fld m1 s1 p1 n1 c1),(some 39,fun y=>.agg y.cur),(some 40,fun _=>.pointer (some ⟨br,0+i*3,none⟩)),(none,fun _=>undef)]
     (jc w.heap.size w bq br C i (fun x T2=>x.l=zY g'∧x.s=yx g' (m1,s1)∧x.k=zT g' (zq g b i).2 k1∧SlIn T2 x.p x.n x.k) (gs1 0).b (kdO g p n c) (fdO m1 s1 p1 n1 c1) (((gs1 1).b,fdO m s p2 n2 c2)::((gs1 2).b,itZ)::T)) kr kr kr H18.drew ⟨?_,?_,?_,?_,?_,?_,?_,?_,?_,trivial⟩ ?_
    ·exact D2.gv_val (fun _ _ _ h=>h) (fun g w=>by kernel_rfl)
    ·exact D2.gv_val (fun _ _ _ h=>h) (fun g w=>by kernel_rfl)
    ·refine D2.gv_ld (fun _ _ _ h=>h) 112 (.tmp 2) (fun _=>(gs1 0).b) 0 #[.int .u8 ((g:Nat):Int),.slice p n c] 112 (0,0) (fun g=>by kernel_rfl) (fun g=>by kernel_rfl) (fun L g w hN hp=>?_) kr kr;obtain ⟨T',h⟩:=hp.st (hN.post 8 kr);exact h.get 1 kr
    ·exact D2.gv_val (fun _ _ _ h=>h) (fun g w=>by kernel_rfl)
    ·refine D2.gv_cpW (fun _ _ _ h=>h) 88 #[knd g p n c,.int .i64 (i:Int)] (zbG g p n c i g' p' n' c') (fun L g w hN hp=>?_) (fun L g w w' hN hp hb=>hp.call hb) (fun g w=>by kernel_rfl);obtain ⟨T',h⟩:=hp.st (hN.post 8 kr);exact hK1.up h.below h.below.size
    ·refine D2.gv_ld (fun _ _ _ h=>h) 86 (.tmp 7) (fun _=>bq) 0 #[.int .u64 (m1:Int),.string s1,.slice p1 n1 c1] 86 (0,0) (fun g=>by kernel_rfl) (fun g=>by kernel_rfl) (fun L g w hN hp=>?_) kr kr;obtain ⟨T',h⟩:=hp.st (hN.post 8 kr);exact h.get 0 kr
    ·refine D2.gv_ft 78 #[knd g' p' n' c',fld m1 s1 p1 n1 c1] hc (fun L g w hN hp=>?_) (fun L gg ww v' T2 w' hN hp hok hT=>?_) (fun g w=>by kernel_rfl)
     ·obtain ⟨T',h⟩:=hp.st (hN.post 8 kr);exact ⟨hK2.call h.below,hk1.call h.below⟩
     ·obtain ⟨q1,q2,q3,rfl,hsl⟩:=hok;refine ⟨{ cur:=#[.bool (zY g'),.string (yx g' (m1,s1)),.slice q1 q2 q3] },rfl,?_⟩;unfold jc at hp ⊢;rw [hN.post 8 kr,hN.1] at hp;rw [show D2.put1 L 6 8=false from hN.post 8 kr,show D2.put1 L 6 6=true from rfl];exact ⟨⟨zY g',yx g' (m1,s1),q1,q2,q3,zT g' (zq g b i).2 k1⟩,T2,⟨rfl,rfl,rfl,hsl⟩,rfl,(St.addAll hp hT).perm (List.perm_append_comm_assoc T2 [(bq,fdO m1 s1 p1 n1 c1),((gs1 0).b,kdO g p n c),(br,rwO C)] (((gs1 1).b,fdO m s p2 n2 c2)::((gs1 2).b,itZ)::T)).symm⟩
    ·exact D2.gv_op (fun _ _ _ h=>h) _ (fun g=>by kernel_rfl) (fun g o w ho=>ys (kd:=.i64) (t:=43) (e:=46) (K:=3) (bytes:=48) kr (x:=(.tmp 33)) (y:=(.tmp 34)) br 0 n2 n2 i rfl ho kr kr hi w)
    ·refine D2.gives_of fun L1 gg ww hp hN=>?_;have h6:=hN.bef 6 kr;unfold jc at hp;rw [hN.1,h6] at hp;obtain ⟨x,T2,hx,hcur,HS⟩:=hp;obtain ⟨o,ho,hd,hw,hop⟩:=zD (show opk _ 8 _=some (none,true,.store 46 (.tmp 40) (.tmp 39)) by kernel_rfl);refine ⟨o,ho,hd,.inr ⟨hw,?_⟩⟩;rw [xP (t:=46) (off:=0+i*3) (b:=br) (C:=C) (T:=46) (v:=.agg (xc x)) (C':=zaa C i x) (HS.get 2 kr) kr kr (hFill.put x hi).1 rfl kr (by rw [←hcur];kernel_rfl) o hop];refine ⟨default,rfl,?_⟩;unfold jc;rw [show D2.put1 L1 8 8=true from rfl];exact ⟨x,T2,hx,HS.store 2 (C:=C) kr⟩
    ·intro L1 gg w14 hall hp;unfold jc at hp;rw [hall 8 (Nat.le_of_ble_eq_true kr)] at hp;obtain ⟨x,T2,⟨hx1,hx2,hx3,hx4⟩,HS⟩:=hp;have H19:St w.heap.size w w14 (((gs1 0).b,kdO g p n c)::(br,rwO (zaa C i x))::((gs1 1).b,fdO m s p2 n2 c2)::((gs1 2).b,itZ)::(T2++T)):=(HS.sub (List.sublist_cons_self ..)).perm (List.Perm.cons _ (List.Perm.cons _ (List.perm_append_comm_assoc T2 [((gs1 1).b,fdO m s p2 n2 c2),((gs1 2).b,itZ)] T).symm));refine wW<|rL [.E (.int .i64 (IntKind.i64.wrap ((i:Int)+1))) (.int .i64 ((i+1:Nat):Int)) (zo (qc (a:=i) (b:=1) (by omega))),.v] H19 kr fun gs11 w15 H20=>?_;show ∃m,_∧_;refine ⟨_,(by omega),i+1,r1,_,zaa C i x,M++ [x],T2++T,rfl,hR1,hN1,hsub.2,hkid.2,?_,(hFill.put x hi).2,?_,H20.as kr,(Is.of ⟨kr,kr,kr,kr,kr,kr,kr,trivial⟩)⟩
     ·rw [zet,hx1,hx2,hx3,←happ,uU,←hg']
     ·exact (hAll.mono fun e he=>List.mem_append_right _ he).snoc (hx4.mono fun e he=>List.mem_append_left _ he) (by rw [hx2];exact zeu hz1.2)
   ·obtain rfl:=FrR.done hN hi;obtain rfl:i=n2:=by simp only [Fr.len] at hN;omega
    refine rS [.E (.bool (decide ((i:Int)<(i:Int)))) (.bool false) (za (decide_eq_false (by omega)))] H12 kr fun gs8 w10 H13=>zc kr<|zl kr kr<|yv 1 kr<|wW ?_;have hM:toFo M=zT g b l:=by
     unfold zT;rw [if_pos hl,←happ];exact (Fo.app_nil _).symm
    have hrw:=hFill.done (by unfold maxLen;omega);refine zg [0,1,2] kr kr<|rp [.v] H13 kr fun gs9 w11 H14=>wX [1,2] ?_;have H15:St w.heap.size w w11 (((gs1 0).b,kdO g p n c)::(br,rwO C)::((gs1 1).b,fdO m s p2 i c2)::((gs1 2).b,itZ)::T):=H14.as kr;refine zbv H15 (some 43) 21 #[.slice (some ⟨br,0,none⟩) i i] (fun w=>i=List.length M∧qG w (some ⟨br,0,none⟩) M) 46 (fun v=>.agg #[.bool true,.string ⟨#[]⟩,v]) i M (zes _ _ _ M (by omega)) (hrw.cellsAt (T:=46) (fz:=(0,0)) (H15.get 1 kr)) kr kr ?_ ?_
    ·intro w12 h0 H16;subst h0;refine rp [.s 3] H16 kr fun gs10 w13 H17=>wX []<|zb<|rRr [.cell 4 46] [3] (.agg #[.bool true,.string ⟨#[]⟩,.slice none 0 0]) (zX w.heap.size w (vD g b (m,s) l)) H17 kr ?_;refine ⟨[],⟨none,0,0,?_,?_⟩,H17.sub (List.nil_sublist _)⟩
     ·unfold yx;rw [if_neg h110,if_pos hl,hl]
     ·rw [←hM,List.eq_nil_of_length_eq_zero hFill.len];exact SlIn.none _
    ·intro bl cap cur w12 H16 hr;refine rp [.s 4] H16 kr fun gs10 w13 H17=>wX []<|zb<|rRr [.cell 4 46] [4] (.agg #[.bool true,.string ⟨#[]⟩,.slice (some ⟨bl,0,none⟩) i cap]) (zX w.heap.size w (vD g b (m,s) l)) H17 kr ?_;have H18:St w.heap.size w w13 ((bl,rwO cur)::((gs1 0).b,kdO g p n c)::(br,rwO C)::((gs1 1).b,fdO m s p2 i c2)::((gs1 2).b,zjk (.slice (some ⟨bl,0,none⟩) i cap))::T):=H17.as kr;refine ⟨(bl,rwO cur)::T,⟨some ⟨bl,0,none⟩,i,cap,?_,?_⟩,H18.sub (List.Sublist.cons_cons _ (List.Sublist.cons _ (List.Sublist.cons _ (List.Sublist.cons _ (List.sublist_cons_self ..)))))⟩
     ·unfold yx;rw [if_neg h110,if_pos hl,hl]
     ·rw [←hM];exact hr.slIn (ty:=46) (fz:=(0,0)) (List.mem_cons_self ..) (hAll.mono fun e he=>List.mem_cons_of_mem _ he) (by omega)
theorem zjm (l:Fe):uZ l:=(Fr.induct zjl l).1
def Fr.app {α:Type} :Fr α→Fr α→Fr α
 | .nil,R=>R
 | .cons a k r,R=>.cons a k (r.app R)
theorem zev {α:Type}(x:El α)(R:Fr α): ∀M:List (El α),(yl (M++ [x])).app R=(yl M).app (.cons x.a x.k R)
 | []=>rfl
 | y::r=>by simp only [List.cons_append,yl,Fr.app,zev x R r]
theorem Fr.app_nil {α:Type} : ∀k:Fr α,k.app .nil=k
 | .nil=>rfl
 | .cons a k r=>by simp only [Fr.app,Fr.app_nil r]
def Fo.sub (p:Fo→Prop):Fo→Prop
 | .nil=>True
 | .cons l s k r=>p k∧r.sub p
theorem Fo.induct {p:Fo→Prop}(h: ∀l:Fo,l.sub p→p l): ∀l:Fo,p l∧l.sub p
 | .nil=>⟨h .nil trivial,trivial⟩
 | .cons l s k r=>⟨h _ ⟨(Fo.induct h k).1,(Fo.induct h r).2⟩,(Fo.induct h k).1,(Fo.induct h r).2⟩
theorem zjn (s:ByteArray):(zH s).1<0x10000000000000000:=by
 unfold zH;split
 ·decide
 ·rename_i h
  exact zbo (by rw [zt];omega)
theorem zjo (g:Nat)(l:Bool)(s:ByteArray)(n:Nat):yS g l s n<0x10000000000000000:=by
 unfold yS ja;split
 ·split
  ·decide
  ·exact zjn s
 ·decide
theorem zjp {g:Nat}{s:ByteArray}(h:s.size≤0x800000000000):(yF g s).size≤0x800000000000:=by
 unfold yF;split
 ·exact Nat.zero_le _
 ·exact h
def zew (g:Nat)(b:Kf)(l:Bool)(s:ByteArray)(k:Fo)(v:Value)(T:List (Nat×Obj)):Prop:=
 ∃(p:Option Addr) (n c:Nat),v=fld (yS g l s k.len) (yF g s) p n c∧RIn fS T p n (yG g b k)
abbrev itm (l:Bool)(s:ByteArray)(p:Option Addr)(n c:Nat):Value:=.agg #[.bool l,.string s,.slice p n c]
def zab (k:Fo):Prop:= ∀(g:Nat) (p:Option Addr) (n c:Nat) (b:Kf) (l:Bool) (s:ByteArray) (p2:Option Addr) (n2 c2:Nat),s.size≤0x800000000000→k.cnt≤1000000→
 FnT Tryz.prog 71 #[knd g p n c,itm l s p2 n2 c2] (fun w=>SlR kS w.heap.size w p n b∧zr w.heap.size w p2 n2 k) (zew g b l s k)
abbrev ixO (l:Bool)(s:ByteArray)(p:Option Addr)(n c:Nat):Obj:=.cells #[.bool l,.string s,.slice p n c] 46 (0,0)
abbrev frO (C:Array Value):Obj:=.cells C 86 (0,0)
abbrev fZ (v:Value):Obj:=.cells #[wZ,.string ⟨#[]⟩,v] 86 (0,0)
abbrev ec (x:El (Nat×ByteArray)):Array Value:=#[.int .u64 ((x.a.1:Nat):Int),.string x.a.2,.slice x.p x.n x.c]
def yN (B:Nat)(w0:World)(bq bf bk:Nat)(qO kO:Obj)(p:Option Addr)(i c:Nat)(row:List (Nat×Obj))(M:List (El (Nat×ByteArray)))(ok:El (Nat×ByteArray)→List (Nat×Obj)→Prop)(T:List (Nat×Obj)):(Nat→Bool)→(Nat→D2.Gh)→World→Prop:=fun L g w=>
 bif L 8 then ∃x T2,ok x T2∧Rw 3 (g 8).cur (g 8).cap (i+1) (zJ fS (M++ [x]))∧St B w0 w ((bq,qO)::(bf,fZ (bif L 10 then .slice (some ⟨(g 8).b,0,none⟩) (i+1) (g 8).cap else .slice p i c))::(bk,kO)::((g 8).b,frO (g 8).cur)::(T2++T))
 else bif L 7 then ∃x T2,ok x T2∧St B w0 w (((g 7).b,frO (ec x))::(bq,qO)::(bf,fZ (.slice p i c))::(bk,kO)::(row++(T2++T)))
 else bif L 6 then ∃x T2,ok x T2∧(g 6).cur=ec x∧St B w0 w ((bq,qO)::(bf,fZ (.slice p i c))::(bk,kO)::(row++(T2++T)))
 else St B w0 w ((bq,qO)::(bf,fZ (.slice p i c))::(bk,kO)::(row++T))
section
variable {B:Nat}{w0:World}{bq bf bk:Nat}{qO kO:Obj}{p:Option Addr}{i c:Nat}{row:List (Nat×Obj)}{M:List (El (Nat×ByteArray))}{ok:El (Nat×ByteArray)→List (Nat×Obj)→Prop}{T:List (Nat×Obj)}{L:Nat→Bool}{g:Nat→D2.Gh}{w w':World}
theorem yN.f (h8:L 8=false)(h:yN B w0 bq bf bk qO kO p i c row M ok T L g w):∃l,St B w0 w l∧(bf,fZ (.slice p i c))∈l:=by
 unfold yN at h;rw [h8] at h;cases h7:L 7 with
 | true=>rw [h7] at h;obtain ⟨x,T2,_,h⟩:=h;exact ⟨_,h,by simp⟩
 | false=>
  rw [h7] at h;cases h6:L 6 with
  | true=>rw [h6] at h;obtain ⟨x,T2,_,_,h⟩:=h;exact ⟨_,h,by simp⟩
  | false=>rw [h6] at h;exact ⟨_,h,by simp⟩
theorem yN.st (h8:L 8=false)(h7:L 7=false)(h6:L 6=false)(h:yN B w0 bq bf bk qO kO p i c row M ok T L g w):St B w0 w ((bq,qO)::(bf,fZ (.slice p i c))::(bk,kO)::(row++T)):=by
 unfold yN at h;rw [h8,h7,h6] at h;exact h
theorem yN.call (hb:Below w.heap.size w w')(h:yN B w0 bq bf bk qO kO p i c row M ok T L g w):yN B w0 bq bf bk qO kO p i c row M ok T L g w':=by
 unfold yN at h ⊢;cases h8:L 8 with
 | true=>rw [h8] at h;obtain ⟨x,T2,h1,h2,h⟩:=h;exact ⟨x,T2,h1,h2,h.call hb⟩
 | false=>
  rw [h8] at h;cases h7:L 7 with
  | true=>rw [h7] at h;obtain ⟨x,T2,h1,h⟩:=h;exact ⟨x,T2,h1,h.call hb⟩
  | false=>
   rw [h7] at h;cases h6:L 6 with
   | true=>rw [h6] at h;obtain ⟨x,T2,h1,h2,h⟩:=h;exact ⟨x,T2,h1,h2,h.call hb⟩
   | false=>rw [h6] at h;exact St.call h hb
end
theorem zjq (k:Fo)(hs:k.sub zab):zab k:=by
 intro g p n c b l s p2 n2 c2 hsz hcnt;refine FnT.intro (c:=zf Tryz.f71) [.cell 4 86] 44 Tryz.func71 kr kr kr fun w hpre=>?_;have H0:=St.start w;obtain ⟨hK,hF⟩:=hpre;have hn2:=hF.1;have hn3:=hF.2.1;have hlen:=k.len_le;refine rS [.b,.b,.a] H0 kr fun gs1 w1 H1=>?_;clear H0;refine rS [.a] H1 kr fun gs2 w2 H2=>?_;clear H1;refine zc kr<|xL (Q:=fun e ρ ww=>e=.normal∧∃(p3:Option Addr) (n3 c3:Nat) (T:List (Nat×Obj)),RIn fS T p3 n3 (yG g b k)∧St w.heap.size w ww (((gs2 0).b,fdO (yS g l s k.len) (yF g s) p3 n3 c3)::((gs1 2).b,fZ (.slice none 0 0))::T)∧Is [(4,.pointer (some ⟨(gs1 2).b,0,none⟩)),(5,.pointer (some ⟨(gs2 0).b,0,none⟩))] ρ) ?_ ?_
 ·refine rS [.v,.l 0] H2 kr fun gs3 w3 H3=>?_;clear H2;refine zz 0 kr ?_;by_cases h110:g=110
  ·refine rS [.E (.bool ((g:Int)==110)) (.bool true) (za (beq_iff_eq.2 (by omega))),.v] H3 kr fun gs4 w4 H4=>zj kr kr ?_;have hv:yS g l s k.len=(ja l s n2).1:=by unfold yS;rw [if_pos h110,hn2]
   have hb:yF g s=⟨#[]⟩:=by unfold yF;rw [if_pos (.inl h110)]
   have hk:yG g b k=.nil:=by unfold yG;rw [h110];rfl
   rw [hv,hb,hk];refine rL [.l 1,.cp (pre:=fun w=>zr w.heap.size w p2 n2 k) (zis l s p2 n2 c2 k hsz) [] (fun w hb hd=>hF.call hb),.v,.v,.v,.v,.s 3] H4 kr fun gs5 w5 H5=>?_;have H6:St w.heap.size w w5 [((gs1 0).b,kdO g p n c),((gs1 1).b,ixO l s p2 n2 c2),((gs1 2).b,fZ (.slice none 0 0)),((gs2 0).b,fdO (ja l s n2).1 ⟨#[]⟩ none 0 0)]:=H5.as kr;refine ⟨rfl,none,0,0,[],RIn.none _ _,?_,(Is.of ⟨kr,kr,trivial⟩)⟩;exact (H6.sub (List.Sublist.cons _ (List.Sublist.cons _ (List.Sublist.refl _)))).perm (List.Perm.swap _ _ _)
  ·refine rS [.E (.bool ((g:Int)==110)) (.bool false) (za (beq_eq_false_iff_ne.2 (by omega))),.v] H3 kr fun gs4 w4 H4=>zl kr kr ?_;have hv:yS g l s k.len=0:=by unfold yS;rw [if_neg h110]
   rw [hv];clear H3;refine zc kr<|xL (Q:=fun e ρ ww=>e=.normal∧St w.heap.size w ww [((gs1 0).b,kdO g p n c),((gs1 1).b,ixO l s p2 n2 c2),((gs1 2).b,fZ (.slice none 0 0)),((gs2 0).b,fZ (.slice none 0 0))]∧Is [(2,.pointer (some ⟨(gs1 0).b,0,none⟩)),(3,.pointer (some ⟨(gs1 1).b,0,none⟩)),(4,.pointer (some ⟨(gs1 2).b,0,none⟩)),(5,.pointer (some ⟨(gs2 0).b,0,none⟩)),(21,.bool (zY g))] ρ) ?_ ?_
   ·by_cases h40:g=40
    ·refine rS [.E (.bool ((g:Int)==40)) (.bool true) (za (beq_iff_eq.2 (by omega))),.v] H4 kr fun gs5 w5 H5=>zj kr kr<|zn kr ?_;refine ⟨rfl,H5.as kr,?_⟩;subst h40;exact Is.of ⟨kr,kr,kr,kr,kr,trivial⟩
    ·refine rS [.E (.bool ((g:Int)==40)) (.bool false) (za (beq_eq_false_iff_ne.2 (by omega))),.v] H4 kr fun gs5 w5 H5=>zl kr kr ?_;have hl:zY g=decide (g=42):=by unfold zY;rw [decide_eq_false h40];rfl
     rw [hl];by_cases h42:g=42
     ·refine rL [.E (.bool ((g:Int)==42)) (.bool true) (za (beq_iff_eq.2 (by omega))),.v] H5 kr fun gs6 w6 H6=>?_;refine ⟨rfl,H6.as kr,?_⟩;rw [decide_eq_true h42];exact Is.of ⟨kr,kr,kr,kr,kr,trivial⟩
     ·refine rL [.E (.bool ((g:Int)==42)) (.bool false) (za (beq_eq_false_iff_ne.2 (by omega))),.v] H5 kr fun gs6 w6 H6=>?_;refine ⟨rfl,H6.as kr,?_⟩;rw [decide_eq_false h42];exact Is.of ⟨kr,kr,kr,kr,kr,trivial⟩
   rintro _ _ w5 ⟨rfl,H5,_,rfl⟩;refine wW ?_;clear H4;cases hl:zY g with
   | false=>
    refine zl kr kr ?_;have hb:yF g s=s:=by unfold yF;rw [if_neg (by rw [hl];simp [h110])]
    have hk:yG g b k=.nil:=by unfold yG;rw [hl];rfl
    rw [hb,hk];refine rL [.v,.l 1,.v,.s 3] H5 kr fun gs6 w6 H6=>?_;have H7:St w.heap.size w w6 [((gs1 0).b,kdO g p n c),((gs1 1).b,ixO l s p2 n2 c2),((gs1 2).b,fZ (.slice none 0 0)),((gs2 0).b,fdO 0 s none 0 0)]:=H6.as kr;refine ⟨rfl,none,0,0,[],RIn.none _ _,?_,(Is.of ⟨kr,kr,trivial⟩)⟩;exact (H7.sub (List.Sublist.cons _ (List.Sublist.cons _ (List.Sublist.refl _)))).perm (List.Perm.swap _ _ _)
   | true=>
    refine zj kr kr ?_;have hb:yF g s=⟨#[]⟩:=by unfold yF;rw [if_pos (.inr hl)]
    have hk:yG g b k=jo k g b 0:=by unfold yG;rw [if_pos hl]
    rw [hb,hk];refine rS [.v,.l 1,.v,.v] H5 kr fun gs6 w6 H6=>zz 1 kr ?_;have H7:St w.heap.size w w6 [((gs1 0).b,kdO g p n c),((gs1 1).b,ixO l s p2 n2 c2),((gs1 2).b,fZ (.slice none 0 0)),((gs2 0).b,fZ (.slice none 0 0))]:=H6.as kr;have H8:St w.heap.size w w6 (((gs2 0).b,fZ (.slice none 0 0))::((gs1 0).b,kdO g p n c)::([]++(((gs1 1).b,ixO l s p2 n2 c2)::((gs1 2).b,fZ (.slice none 0 0))::[]))):=H7.perm (List.perm_append_comm (l₁:=[((gs2 0).b,fZ (.slice none 0 0))]) (l₂:=[((gs1 0).b,kdO g p n c),((gs1 1).b,ixO l s p2 n2 c2),((gs1 2).b,fZ (.slice none 0 0))]));clear H5 H6 H7;refine yW kr (fun mz ρ ww=> ∃(i:Nat) (r:Fo) (p3:Option Addr) (c3:Nat) (row:List (Nat×Obj)) (M:List (El (Nat×ByteArray))) (T:List (Nat×Obj)),n2-i=mz∧FoR w.heap.size w p2 i r∧i+r.len=n2∧r.sub zab∧r.cnt≤k.cnt∧(yl M).app (jo r g b i)=jo k g b 0∧RowE fS 86 p3 i c3 row M∧AllE fS T M∧St w.heap.size w ww (((gs2 0).b,fZ (.slice p3 i c3))::((gs1 0).b,kdO g p n c)::(row++(((gs1 1).b,ixO l s p2 n2 c2)::((gs1 2).b,fZ (.slice none 0 0))::T)))∧Is [(2,.pointer (some ⟨(gs1 0).b,0,none⟩)),(3,.pointer (some ⟨(gs1 1).b,0,none⟩)),(4,.pointer (some ⟨(gs1 2).b,0,none⟩)),(5,.pointer (some ⟨(gs2 0).b,0,none⟩)),(25,.slice p2 n2 c2),(26,.int .i64 (n2:Int)),(27,.int .i64 (i:Int))] ρ) (n2-0) ⟨0,k,none,0,[],[],[],rfl,hF.start,by omega,hs,Nat.le_refl _,rfl,.inl ⟨rfl,rfl,rfl,rfl,rfl⟩,(fun _ h=>nomatch h),H8,(Is.of ⟨kr,kr,kr,kr,kr,kr,kr,trivial⟩)⟩ ?_;clear H8;rintro _ _ w9 ⟨i,r,p3,c3,row,M,T,rfl,hR,hN,hsub,hcn,happ,hRow,hAll,H12,_,rfl⟩;by_cases hi:i<n2
    ·refine rS [.E (.bool (decide ((i:Int)<(n2:Int)))) (.bool true) (za (decide_eq_true (by omega)))] H12 kr fun gs8 w10 H13=>?_;clear H12;refine zc kr<|zj kr kr<|zn kr<|wW<|zc kr<|zz 2 kr ?_;obtain ⟨l1,s1,k1,r1,b1,off1,C1,T1,fz1,p1,n1,c1,hr1,hp1,hb1,hh1,hs1,hx1,hz1,hk1,hR1,hN1⟩:=FoR.open hR hN hi;obtain ⟨g',p',n',c',hK1,hK2,hg'⟩:=hK.kid g i;subst hr1;simp only [Fo.cnt] at hcn;refine zg [0,1,2,3,4,5] kr kr<|rp [.v,.o (ins:=[((.tmp 25),.slice p2 n2 c2),((.tmp 27),.int .i64 (i:Int))]) (v:=.pointer (some ⟨b1,off1+i*3,none⟩)) (fun ρ o w ho hi2=>ys (kd:=.i64) (t:=43) (e:=46) (K:=3) (bytes:=48) kr (x:=(.tmp 25)) (y:=(.tmp 27)) b1 off1 n2 c2 i hp1 ho hi2.1 hi2.2.1 (by omega) w),.fp (off:=off1+i*3) (n:=3) (W:=#[.bool l1,.string s1,.slice p1 n1 c1]) hh1 hb1 hs1 hx1] H13 kr fun gs9 w11 H14=>wX [3,4,5] ?_;have H15:St w.heap.size w w11 (((gs2 0).b,fZ (.slice p3 i c3))::((gs1 0).b,kdO g p n c)::(row++(((gs1 1).b,ixO l s p2 n2 c2)::((gs1 2).b,fZ (.slice none 0 0))::T))):=H14.as kr;refine zE H15 (some 7) 46 (.agg #[.bool false,.string ⟨#[]⟩,.slice none 0 0]) kr kr kr ?_;intro bq w12 H16;refine rp [.v,.s 0] H16 kr fun gs10 w13 H17=>wX []<|zb ?_;have H18:St w.heap.size w w13 ((bq,ixO l1 s1 p1 n1 c1)::((gs2 0).b,fZ (.slice p3 i c3))::((gs1 0).b,kdO g p n c)::(row++(((gs1 1).b,ixO l s p2 n2 c2)::((gs1 2).b,fZ (.slice none 0 0))::T))):=H17.as kr;clear H13 H14 H15 H16 H17;have hc:=hsub.1 g' p' n' c' (zq g b i).2 l1 s1 p1 n1 c1 hz1 (by omega);refine D2.g_draw0 [0,1,2,3,4,5,6,7,8,9,10] [(some 32,fun _=>.pointer (some ⟨(gs2 0).b,2,none⟩)),(some 33,fun _=>.slice p3 i c3),(some 34,fun _=>knd g p n c),(some 35,fun _=>.int .i64 (i:Int)),(some 36,fun _=>knd g' p' n' c'),(some 37,fun _=>itm l1 s1 p1 n1 c1),(some 38,fun y=>.agg y.cur),(some 39,fun y=>.slice (some ⟨y.b,0,none⟩) 1 1),(some 40,fun y=>.slice (some ⟨y.b,0,none⟩) (i+1) y.cap),(some 41,fun _=>.pointer (some ⟨(gs2 0).b,2,none⟩)),(none,fun _=>undef)]
      (yN w.heap.size w bq (gs2 0).b (gs1 0).b (ixO l1 s1 p1 n1 c1) (kdO g p n c) p3 i c3 row M (fun x T2=>x.a=(yS g' l1 s1 k1.len,yF g' s1)∧x.k=yG g' (zq g b i).2 k1∧RIn fS T2 x.p x.n x.k) (((gs1 1).b,ixO l s p2 n2 c2)::((gs1 2).b,fZ (.slice none 0 0))::T)) kr kr kr H18.drew ⟨?_,?_,?_,?_,?_,?_,?_,?_,?_,?_,?_,trivial⟩ ?_
     ·exact D2.gv_val (fun _ _ _ h=>h) (fun g w=>by kernel_rfl)
     ·refine D2.gv_ld (fun _ _ _ h=>h) 82 (.tmp 32) (fun _=>(gs2 0).b) 2 #[wZ,.string ⟨#[]⟩,.slice p3 i c3] 86 (0,0) (fun g=>by kernel_rfl) (fun g=>by kernel_rfl) (fun L g w hN hp=>?_) kr kr;obtain ⟨l',h,hm⟩:=hp.f (hN.post 8 kr);exact (h.own _ hm).2
     ·refine D2.gv_ld (fun _ _ _ h=>h) 112 (.tmp 2) (fun _=>(gs1 0).b) 0 #[.int .u8 ((g:Nat):Int),.slice p n c] 112 (0,0) (fun g=>by kernel_rfl) (fun g=>by kernel_rfl) (fun L g w hN hp=>?_) kr kr;have h4:=hN.post 4 kr;have h6:=hN.2.2.no 4 6 kr h4;have h7:=hN.2.2.no 6 7 kr h6;exact (hp.st (hN.2.2.no 7 8 kr h7) h7 h6).get 2 kr
     ·exact D2.gv_val (fun _ _ _ h=>h) (fun g w=>by kernel_rfl)
     ·refine D2.gv_cpW (fun _ _ _ h=>h) 88 #[knd g p n c,.int .i64 (i:Int)] (zbG g p n c i g' p' n' c') (fun L g w hN hp=>?_) (fun L g w w' hN hp hb=>hp.call hb) (fun g w=>by kernel_rfl);have h6:=hN.post 6 kr;have h7:=hN.2.2.no 6 7 kr h6;have h:=hp.st (hN.2.2.no 7 8 kr h7) h7 h6;exact hK1.up h.below h.below.size
     ·refine D2.gv_ld (fun _ _ _ h=>h) 46 (.tmp 7) (fun _=>bq) 0 #[.bool l1,.string s1,.slice p1 n1 c1] 46 (0,0) (fun g=>by kernel_rfl) (fun g=>by kernel_rfl) (fun L g w hN hp=>?_) kr kr;have h6:=hN.post 6 kr;have h7:=hN.2.2.no 6 7 kr h6;exact (hp.st (hN.2.2.no 7 8 kr h7) h7 h6).get 0 kr
     ·refine D2.gv_ft 71 #[knd g' p' n' c',itm l1 s1 p1 n1 c1] hc (fun L g w hN hp=>?_) (fun L gg ww v' T2 w' hN hp hok hT=>?_) (fun g w=>by kernel_rfl)
      ·have h7:=hN.post 7 kr;have h:=hp.st (hN.2.2.no 7 8 kr h7) h7 hN.1;exact ⟨hK2.call h.below,hk1.call h.below⟩
      ·obtain ⟨q1,q2,q3,rfl,hsl⟩:=hok;have h7:=hN.post 7 kr;have h8:=hN.2.2.no 7 8 kr h7;refine ⟨{ cur:=#[.int .u64 ((yS g' l1 s1 k1.len:Nat):Int),.string (yF g' s1),.slice q1 q2 q3] },rfl,?_⟩;have hp:=hp.st h8 h7 hN.1;unfold yN;rw [show D2.put1 L 6 8=false from h8,show D2.put1 L 6 7=false from h7,show D2.put1 L 6 6=true from rfl];exact ⟨⟨(yS g' l1 s1 k1.len,yF g' s1),q1,q2,q3,yG g' (zq g b i).2 k1⟩,T2,⟨rfl,rfl,hsl⟩,rfl,(St.addAll hp hT).perm ((List.Perm.cons _ (List.Perm.cons _ (List.Perm.cons _ (List.perm_append_comm_assoc row T2 _)))).trans (List.perm_append_comm_assoc T2 [(bq,ixO l1 s1 p1 n1 c1),((gs2 0).b,fZ (.slice p3 i c3)),((gs1 0).b,kdO g p n c)] (row++_)).symm)⟩
     ·refine D2.gives_of fun L1 gg ww hp hN=>?_;have h6:=hN.bef 6 kr;have h8:=hN.post 8 kr;unfold yN at hp;rw [h8,hN.1,h6] at hp;obtain ⟨x,T2,hx,hcur,HS⟩:=hp;obtain ⟨o,ho,hd,hw,hrun⟩:=zO (show opv _ _ 7 (yH [(32,.pointer (some ⟨(gs2 0).b,2,none⟩)),(33,.slice p3 i c3),(34,knd g p n c),(35,.int .i64 (i:Int)),(36,knd g' p' n' c'),(37,itm l1 s1 p1 n1 c1),(38,.agg (gg 6).cur)] _) ww=some (some 39,true,.ok (.value (.slice (some ⟨ww.heap.size,0,none⟩) 1 1)) (ww.alloc (.cells (ec x) 86))) by rw [hcur];kernel_rfl);refine ⟨o,ho,hd,.inr ⟨hw,?_⟩⟩;refine (congrArg (D2.Runs _ _) hrun).mpr ?_;refine ⟨{ b:=ww.heap.size },rfl,?_⟩;unfold yN;rw [show D2.put1 L1 7 8=false from h8,show D2.put1 L1 7 7=true from rfl];exact ⟨x,T2,hx,HS.alloc _⟩
     ·refine D2.gives_of fun L1 gg ww hp hN=>?_;have h7:=hN.bef 7 kr;have h10:=hN.post 10 kr;unfold yN at hp;rw [hN.1,h7] at hp;obtain ⟨x,T2,hx,HS⟩:=hp;obtain ⟨o,ho,hd,hw,hop⟩:=zD (show opk _ 8 _=some (some 40,true,yp 82 (.tmp 33) (.tmp 39)) by kernel_rfl);refine ⟨o,ho,hd,.inr ⟨hw,?_⟩⟩;rcases hRow with ⟨rfl,rfl,rfl,rfl,rfl⟩ | ⟨br,cur,rfl,rfl,hrw⟩
      ·obtain ⟨b',cap',cur',w',hrun,HS',hr'⟩:=ul (K:=3) HS (t:=82) (e:=86) (bytes:=48) (k:=0) (bx:=(gg 7).b) (c:=1) (Y:=ec x) kr hop kr kr rfl rfl (jT rfl) (by omega);rw [hrun];refine ⟨{ b:=b',cap:=cap',cur:=cur' },rfl,?_⟩;unfold yN;rw [show D2.put1 L1 8 8=true from rfl,show D2.put1 L1 8 10=false from h10];refine ⟨x,T2,hx,hr',?_⟩;exact (HS'.sub (List.Sublist.cons_cons _ (List.sublist_cons_self ..))).perm (List.perm_middle (l₁:=[(bq,ixO l1 s1 p1 n1 c1),((gs2 0).b,fZ (.slice none 0 0)),((gs1 0).b,kdO g p n c)]))
      ·obtain ⟨b',cap',cur',w',hrun,HS',hr'⟩:=vm (K:=3) HS (t:=82) (e:=86) (bytes:=48) (j:=4) (k:=0) (bx:=(gg 7).b) (c:=1) (Y:=ec x) kr hop kr rfl hrw kr rfl rfl (jT rfl) (by omega) (by unfold maxLen;omega);rw [hrun];refine ⟨{ b:=b',cap:=cap',cur:=cur' },rfl,?_⟩;unfold yN;rw [show D2.put1 L1 8 8=true from rfl,show D2.put1 L1 8 10=false from h10];refine ⟨x,T2,hx,?_,HS'.sub (List.sublist_cons_self ..)⟩;rw [vk];exact hr'
     ·exact D2.gv_val (fun _ _ _ h=>h) (fun g w=>by kernel_rfl)
     ·refine D2.gives_of fun L1 gg ww hp hN=>?_;have h8:=hN.bef 8 kr;unfold yN at hp;rw [h8,hN.1] at hp;obtain ⟨x,T2,hx,hr',HS⟩:=hp;obtain ⟨o,ho,hd,hw,hop⟩:=zD (show opk _ 10 _=some (none,true,.store 82 (.tmp 41) (.tmp 40)) by kernel_rfl);refine ⟨o,ho,hd,.inr ⟨hw,?_⟩⟩;rw [xP (t:=82) (off:=2) (b:=(gs2 0).b) (C:=#[wZ,.string ⟨#[]⟩,.slice p3 i c3]) (T:=86) (v:=.slice (some ⟨(gg 8).b,0,none⟩) (i+1) (gg 8).cap) (C':=#[wZ,.string ⟨#[]⟩,.slice (some ⟨(gg 8).b,0,none⟩) (i+1) (gg 8).cap]) (HS.get 1 kr) kr kr (of_decide_eq_true kr) kr kr kr o hop];refine ⟨default,rfl,?_⟩;unfold yN;rw [show D2.put1 L1 10 8=true from h8,show D2.put1 L1 10 10=true from rfl];exact ⟨x,T2,hx,hr',HS.store 1 (C:=#[wZ,.string ⟨#[]⟩,.slice p3 i c3]) kr⟩
     ·intro L1 gg w14 hall hp;unfold yN at hp;rw [hall 8 (Nat.le_of_ble_eq_true kr),hall 10 (Nat.le_of_ble_eq_true kr)] at hp;obtain ⟨x,T2,⟨hx1,hx2,hx3⟩,hr',HS⟩:=hp;have H19:St w.heap.size w w14 (((gs2 0).b,fZ (.slice (some ⟨(gg 8).b,0,none⟩) (i+1) (gg 8).cap))::((gs1 0).b,kdO g p n c)::([((gg 8).b,frO (gg 8).cur)]++(((gs1 1).b,ixO l s p2 n2 c2)::((gs1 2).b,fZ (.slice none 0 0))::(T2++T)))):=(HS.sub (List.sublist_cons_self ..)).perm (List.Perm.cons _ (List.Perm.cons _ (List.Perm.cons _ (List.perm_append_comm_assoc T2 [((gs1 1).b,ixO l s p2 n2 c2),((gs1 2).b,fZ (.slice none 0 0))] T).symm)));refine wW<|rL [.E (.int .i64 (IntKind.i64.wrap ((i:Int)+1))) (.int .i64 ((i+1:Nat):Int)) (zo (qc (a:=i) (b:=1) (by omega))),.v] H19 kr fun gs11 w15 H20=>?_;show ∃m,_∧_;refine ⟨_,(by omega),i+1,r1,_,_,[((gg 8).b,frO (gg 8).cur)],M++ [x],T2++T,rfl,hR1,hN1,hsub.2,(by omega),?_,.inr ⟨_,_,rfl,rfl,hr'⟩,?_,H20.as kr,(Is.of ⟨kr,kr,kr,kr,kr,kr,kr,trivial⟩)⟩
      ·rw [zev,hx1,hx2,←happ,zeb,←hg']
      ·exact (hAll.mono fun e he=>List.mem_append_right _ he).snoc (hx3.mono fun e he=>List.mem_append_left _ he) (by rw [hx1];exact ⟨zjo ..,zjp hz1⟩)
    ·obtain rfl:=FoR.done hN hi;obtain rfl:i=n2:=by simp only [Fo.len] at hN;omega
     refine rS [.E (.bool (decide ((i:Int)<(i:Int)))) (.bool false) (za (decide_eq_false (by omega)))] H12 kr fun gs8 w10 H13=>zc kr<|zl kr kr<|yv 1 kr ?_;have hM:yl M=jo k g b 0:=by
      rw [←happ];exact (Fr.app_nil _).symm
     have H14:St w.heap.size w w10 (((gs2 0).b,fZ (.slice p3 i c3))::((gs1 0).b,kdO g p n c)::(row++(((gs1 1).b,ixO l s p2 i c2)::((gs1 2).b,fZ (.slice none 0 0))::T))):=H13.as kr;refine ⟨rfl,p3,i,c3,row++T,?_,?_,(Is.of ⟨kr,kr,trivial⟩)⟩
     ·rw [←hM];exact hRow.rIn (by decide) hAll hn3
     ·refine (H14.sub (l':=((gs2 0).b,fZ (.slice p3 i c3))::(row++(((gs1 2).b,fZ (.slice none 0 0))::T))) (List.Sublist.cons_cons _ (List.Sublist.cons _ (List.Sublist.append (List.Sublist.refl _) (List.sublist_cons_self ..))))).perm ?_;exact List.Perm.cons _ (List.perm_middle).symm
 rintro _ _ w5 ⟨rfl,p3,n3,c3,T,hT,H5,_,rfl⟩;refine wW<|rS [.l 0,.s 1] H5 kr fun gs6 w6 H6=>rRr [.cell 4 86] [1] (fld (yS g l s k.len) (yF g s) p3 n3 c3) (zX w.heap.size w (zew g b l s k)) H6 kr ?_;have H7:St w.heap.size w w6 (((gs2 0).b,fdO (yS g l s k.len) (yF g s) p3 n3 c3)::((gs1 2).b,fdO (yS g l s k.len) (yF g s) p3 n3 c3)::T):=H6.as kr;exact ⟨T,⟨p3,n3,c3,rfl,hT⟩,H7.sub (List.Sublist.cons _ (List.sublist_cons_self ..))⟩
theorem zjr (k:Fo):zab k:=(Fo.induct zjq k).1
abbrev kR (C:Array Value):Obj:=.cells C 112 (0,0)
structure Sk where
 g:Nat
 p:Option Addr
 n:Nat
 c:Nat
 row:List (Nat×Obj)
 M:List (El Nat)
def Sk.el (e:Sk):El Nat:=⟨e.g,e.p,e.n,e.c,yl e.M⟩
def opE:List Sk→List (El Nat)
 | []=>[]
 | e::r=>opE r++ [e.el]
def yf:List Sk→List (Nat×Obj)
 | []=>[]
 | e::r=>e.row++yf r
def stM (S:List Sk):List (Nat×Kf):=S.map fun e=>(e.g,yl e.M)
def Bot:List Sk→Prop
 | []=>False
 | e::r=>(r=[]∧e.g=40)∨Bot r
structure jW (T:List (Nat×Obj))(m:Nat)(e:Sk):Prop where
 row:RowE kS 112 e.p e.n e.c e.row e.M
 all:AllE kS T e.M
 le:e.n≤m
theorem jW.mono {T T':List (Nat×Obj)}{m m':Nat}{e:Sk}(h:jW T m e)(hT: ∀x∈T,x∈T')(hm:m≤m'):jW T' m' e:=⟨h.row,h.all.mono hT,Nat.le_trans h.le hm⟩
theorem zbH: ∀S:List Sk,(opE S).length=S.length
 | []=>rfl
 | e::r=>by simp only [opE,List.length_append,zbH r,List.length_cons,List.length_nil]
theorem kB (e:Sk)(r:List Sk):zJ kS (opE (e::r))=zJ kS (opE r)++ [.int .u8 ((e.g:Nat):Int),.slice e.p e.n e.c]:=by
 show zJ kS (opE r++ [e.el])=_;rw [vk];rfl
theorem zac (r:List Sk):(zJ kS (opE r)).length=r.length*2:=by rw [xO,zbH];rfl
theorem Rw.pop {K:Nat}{cur:Array Value}{cap n:Nat}{X Z:List Value}(h:Rw K cur cap (n+1) (X++Z))(hX:X.length=n*K):Rw K cur cap n X:=by
 have ht:=h.take;refine ⟨hX,by have:=h.le;omega,h.max,?_,h.sz⟩;have e:(cur.toList.take ((n+1)*K)).take (n*K)=X:=by rw [ht,List.take_append,hX,Nat.sub_self,List.take_zero,List.append_nil,List.take_of_length_le (by omega)]
 rw [List.take_take,Nat.min_eq_left (by rw [Nat.succ_mul];omega)] at e;exact e
theorem Rw.top {cur:Array Value}{cap:Nat}{e:Sk}{r:List Sk}(h:Rw 2 cur cap (r.length+1) (zJ kS (opE (e::r)))):
 0+r.length*2+2≤cur.size∧cur.extract (0+r.length*2) (0+r.length*2+2)=#[.int .u8 ((e.g:Nat):Int),.slice e.p e.n e.c]∧cur[0+r.length*2]? =some (.int .u8 ((e.g:Nat):Int))∧cur[0+r.length*2+1]? =some (.slice e.p e.n e.c):=by
 rw [kB] at h;have hl:=zac r;rw [Nat.zero_add];have h0:cur[r.length*2]? =some (.int .u8 ((e.g:Nat):Int)):=by
  rw [h.get _ (by omega),List.getElem?_append_right (by omega),hl,Nat.sub_self];rfl
 have h1:cur[r.length*2+1]? =some (.slice e.p e.n e.c):=by
  rw [h.get _ (by omega),List.getElem?_append_right (by omega),hl,Nat.add_sub_cancel_left];rfl
 have h2:=exE (C:=cur) (o:=r.length*2) (x:=[.int .u8 ((e.g:Nat):Int),.slice e.p e.n e.c]) (K:=2) rfl (fun j hj=>by
  rcases j with _|_|j
  ·exact h0
  ·exact h1
  ·omega) (by decide)
 exact ⟨h2.1,h2.2,h0,h1⟩
def zK:Array Value:=#[.int .u8 0,.slice none 0 0]
def qu (B:Nat)(w0:World)(bd b2 bo:Nat)(dO bO:Obj)(kv:Value)(cur:Array Value)(N:Nat)(en:Nat)(row:List (Nat×Obj))(xs:List Value)(T:List (Nat×Obj)):(Nat→Bool)→(Nat→D2.Gh)→World→Prop:=fun L g w=>
 bif L 8 then (L 9=true→(g 9).b=(g 8).b)∧Rw 2 (g 8).cur (g 8).cap (en+1) (xs++zK.toList)∧St B w0 w ((bd,dO)::(b2,bO)::(bo,kR (bif L 13 then putA cur (0+N*2+1) (.slice (some ⟨(g 8).b,0,none⟩) (en+1) (g 8).cap) else cur))::((g 8).b,kR (bif L 10 then putA (g 8).cur (0+en*2) kv else (g 8).cur))::T)
 else bif L 7 then St B w0 w (((g 7).b,kR zK)::(bd,dO)::(b2,bO)::(bo,kR cur)::(row++T))
 else St B w0 w ((bd,dO)::(b2,bO)::(bo,kR cur)::(row++T))
section
variable {B:Nat}{w0:World}{bd b2 bo:Nat}{dO bO:Obj}{kv:Value}{cur:Array Value}{N en:Nat}{row:List (Nat×Obj)}{xs:List Value}{T:List (Nat×Obj)}{L:Nat→Bool}{g:Nat→D2.Gh}{w:World}
theorem qu.st (h8:L 8=false)(h:qu B w0 bd b2 bo dO bO kv cur N en row xs T L g w):∃l,St B w0 w l∧(bd,dO)∈l∧(bo,kR cur)∈l:=by
 unfold qu at h;rw [h8] at h;cases h7:L 7 with
 | true=>rw [h7] at h;exact ⟨_,h,by simp,by simp⟩
 | false=>rw [h7] at h;exact ⟨_,h,by simp,by simp⟩
end
noncomputable abbrev zjs:Code:=zx (zy (zx (zx (zx (qf (zx (zf Tryz.f58)))))))
noncomputable abbrev zex:Code:=qf (zy (zx (zx (qf (qf zjs)))))
def zey (B:Nat)(w0:World)(form:ByteArray)(b2 bd i:Nat)(target:List (Nat×Kf))(mz:Nat)(ρ:Env)(ww:World):Prop:=
 ∃(S:List Sk) (N g:Nat) (p:Option Addr) (n c:Nat) (k:Kf) (T:List (Nat×Obj)) (bo cap:Nat) (cur:Array Value),S.length=mz∧N=S.length∧Bot S∧N≤5∧(∀e∈S,jW T i e)∧RIn kS T p n k∧jU g k (stM S)=target∧Rw 2 cur cap N (zJ kS (opE S))∧
  St B w0 ww ((bd,kdO g p n c)::(b2,kdO 0 none 0 0)::(bo,kR cur)::(yf S++T))∧
  Is [(0,.string form),(2,.pointer (some ⟨b2,0,none⟩)),(3,.bool false),(4,.slice (some ⟨bo,0,none⟩) N cap),(6,.pointer (some ⟨bd,0,none⟩)),(16,.int .i64 (form.size:Int)),(17,.int .i64 (i:Int))] ρ
def zjt (B:Nat)(w0:World)(form:ByteArray)(b2 i:Nat)(target:List (Nat×Kf))(ρ:Env)(ww:World):Prop:=
 ∃(S:List Sk) (N:Nat) (T:List (Nat×Obj)) (bo cap:Nat) (cur:Array Value),N=S.length∧Bot S∧N≤5∧(∀e∈S,jW T i e)∧stM S=target∧Rw 2 cur cap N (zJ kS (opE S))∧
  St B w0 ww ((b2,kdO 0 none 0 0)::(bo,kR cur)::(yf S++T))∧
  Is [(0,.string form),(2,.pointer (some ⟨b2,0,none⟩)),(3,.bool false),(4,.slice (some ⟨bo,0,none⟩) N cap),(16,.int .i64 (form.size:Int)),(17,.int .i64 (i:Int))] ρ
theorem zez {Q:Exit→Env→World→Prop}{B:Nat}{w0:World}(form:ByteArray)(b2 bd i:Nat)(target:List (Nat×Kf))(hi:i≤40)(m0:Nat)(ρ0:Env)(ww0:World)(h0:zey B w0 form b2 bd i target m0 ρ0 ww0)
 (hQ: ∀(S:List Sk) (N:Nat) (T:List (Nat×Obj)) (bo cap:Nat) (cur:Array Value) (ρ:Env) (ww:World),N=S.length→Bot S→N≤5→(∀e∈S,jW T (i+1) e)→stM S=target→Rw 2 cur cap N (zJ kS (opE S))→
  St B w0 ww ((b2,kdO 0 none 0 0)::(bo,kR cur)::(yf S++T))→Is [(0,.string form),(2,.pointer (some ⟨b2,0,none⟩)),(3,.bool false),(4,.slice (some ⟨bo,0,none⟩) N cap),(16,.int .i64 (form.size:Int)),(17,.int .i64 (i:Int))] ρ→Q (.exit 1) ρ ww):
 WP Tryz.prog 101 (zx (zx (zx zex))) Q ρ0 ww0:=by
 refine zz 3 kr<|yW kr (zey B w0 form b2 bd i target) m0 h0 ?_;clear h0;rintro _ _ w1 ⟨S,N,g,p,n,c,k,T,bo,cap,cur,rfl,rfl,hBot,hN5,hS,hRI,hpush,hRw,H1,_,rfl⟩;rcases S with _ | ⟨e,r⟩
 ·exact hBot.elim
 have he:=hS e (List.mem_cons_self ..);refine zz 4 kr ?_;have hN5':r.length+1≤5:=hN5;refine rS [.v,.v,.E (.int .i64 (IntKind.i64.wrap (((r.length+1:Nat):Int)-1))) (.int .i64 (r.length:Int)) (zo (by rw [show (((r.length+1:Nat):Int)-1)=(r.length:Int) by omega];exact ui (by omega))),.v] H1 kr fun gs2 w2 H2=>?_;clear H1;refine zc kr ?_;have H3:St B w0 w2 ((bd,kdO g p n c)::(b2,kdO 0 none 0 0)::(bo,kR cur)::(e.row++(yf r++T))):=by
  rw [←List.append_assoc];exact H2
 have htop:=hRw.top;refine D2.g_draw0 [0,1,2,3,4,5,6,7,8,9,10,11,12,13] [(some 69,fun _=>.slice (some ⟨bo,0,none⟩) (r.length+1) cap),(some 70,fun _=>.int .i64 (r.length:Int)),(some 71,fun _=>.pointer (some ⟨bo,0+r.length*2,none⟩)),(some 72,fun _=>.pointer (some ⟨bo,0+r.length*2+1,none⟩)),(some 73,fun _=>.slice e.p e.n e.c),(some 74,fun _=>knd g p n c),(some 75,fun _=>.int .i64 ((e.n:Nat):Int)),(some 76,fun y=>.slice (some ⟨y.b,0,none⟩) 1 1),(some 77,fun y=>.slice (some ⟨y.b,0,none⟩) (e.n+1) y.cap),(some 78,fun y=>.pointer (some ⟨y.b,0+e.n*2,none⟩)),(none,fun _=>undef),(some 79,fun _=>.pointer (some ⟨bo,0+r.length*2,none⟩)),(some 80,fun _=>.pointer (some ⟨bo,0+r.length*2+1,none⟩)),(none,fun _=>undef)]
  (qu B w0 bd b2 bo (kdO g p n c) (kdO 0 none 0 0) (knd g p n c) cur r.length e.n e.row (zJ kS e.M) (yf r++T)) kr kr kr H3.drew ⟨?_,?_,?_,?_,?_,?_,?_,?_,?_,?_,?_,?_,?_,?_,trivial⟩ ?_
 ·exact D2.gv_val (fun _ _ _ h=>h) (fun g w=>by kernel_rfl)
 ·exact D2.gv_val (fun _ _ _ h=>h) (fun g w=>by kernel_rfl)
 ·exact D2.gv_op (fun _ _ _ h=>h) _ (fun g=>by kernel_rfl) (fun g o w ho=>ys (kd:=.i64) (t:=110) (e:=112) (K:=2) (bytes:=32) kr (x:=(.tmp 69)) (y:=(.tmp 70)) bo 0 (r.length+1) cap r.length rfl ho kr kr (by omega) w)
 ·exact D2.gv_val (fun _ _ _ h=>h) (fun g w=>by kernel_rfl)
 ·refine D2.gv_opW (fun _ _ _ h=>h) (.load 110 (.tmp 72)) (fun g=>by kernel_rfl) (fun L g o w hN hp ho=>?_);obtain ⟨l,h,_,hm⟩:=hp.st (hN.post 8 kr);exact zc4 (h.own _ hm).2 kr kr htop.2.2.2 o ho
 ·refine D2.gv_ld (fun _ _ _ h=>h) 112 (.tmp 6) (fun _=>bd) 0 #[.int .u8 ((g:Nat):Int),.slice p n c] 112 (0,0) (fun g=>by kernel_rfl) (fun g=>by kernel_rfl) (fun L g w hN hp=>?_) kr kr;obtain ⟨l,h,hm,_⟩:=hp.st (hN.post 8 kr);exact (h.own _ hm).2
 ·exact D2.gv_val (fun _ _ _ h=>h) (fun g w=>by kernel_rfl)
 ·refine D2.gives_of fun L1 gg ww hp hN=>?_;have h8:=hN.post 8 kr;unfold qu at hp;rw [h8,hN.1] at hp;obtain ⟨o,ho,hd,hw,hrun⟩:=zO (show opv _ _ 7 _ ww=some (some 76,true,.ok (.value (.slice (some ⟨ww.heap.size,0,none⟩) 1 1)) (ww.alloc (.cells zK 112))) by kernel_rfl);refine ⟨o,ho,hd,.inr ⟨hw,?_⟩⟩;refine (congrArg (D2.Runs _ _) hrun).mpr ?_;refine ⟨{ b:=ww.heap.size },rfl,?_⟩;unfold qu;rw [show D2.put1 L1 7 8=false from h8,show D2.put1 L1 7 7=true from rfl];exact St.alloc hp _
 ·refine D2.gives_of fun L1 gg ww hp hN=>?_;have h7:=hN.bef 7 kr;have h9:=hN.post 9 kr;have h10:=hN.post 10 kr;have h13:=hN.post 13 kr;unfold qu at hp;rw [hN.1,h7] at hp;obtain ⟨o,ho,hd,hw,hop⟩:=zD (show opk _ 8 _=some (some 77,true,yp 110 (.tmp 73) (.tmp 76)) by kernel_rfl);refine ⟨o,ho,hd,.inr ⟨hw,?_⟩⟩;have hen:=he.le;obtain ⟨eg,ep,en,ec,erow,eM⟩:=e;rcases he.row with ⟨rfl,rfl,rfl,rfl,rfl⟩ | ⟨br,curr,rfl,rfl,hrw⟩
  ·obtain ⟨b',cap',cur',w',hrun,HS',hr'⟩:=ul (K:=2) hp (t:=110) (e:=112) (bytes:=32) (k:=0) (bx:=(gg 7).b) (c:=1) (Y:=zK) kr hop kr kr rfl rfl (jT rfl) (by omega);rw [hrun];refine ⟨{ b:=b',cap:=cap',cur:=cur' },rfl,?_⟩;unfold qu;rw [show D2.put1 L1 8 8=true from rfl,show D2.put1 L1 8 10=false from h10,show D2.put1 L1 8 13=false from h13];refine ⟨fun hh=>absurd (h9.symm.trans hh) (by decide),hr',?_⟩;exact (HS'.sub (List.Sublist.cons_cons _ (List.sublist_cons_self ..))).perm (List.perm_middle (l₁:=[(bd,kdO g p n c),(b2,kdO 0 none 0 0),(bo,kR cur)]))
  ·obtain ⟨b',cap',cur',w',hrun,HS',hr'⟩:=vm (K:=2) hp (t:=110) (e:=112) (bytes:=32) (j:=4) (k:=0) (bx:=(gg 7).b) (c:=1) (Y:=zK) kr hop kr rfl hrw kr rfl rfl (jT rfl) (by omega) (by unfold maxLen;omega);rw [hrun];refine ⟨{ b:=b',cap:=cap',cur:=cur' },rfl,?_⟩;unfold qu;rw [show D2.put1 L1 8 8=true from rfl,show D2.put1 L1 8 10=false from h10,show D2.put1 L1 8 13=false from h13];exact ⟨fun hh=>absurd (h9.symm.trans hh) (by decide),hr',HS'.sub (List.sublist_cons_self ..)⟩
 ·refine D2.gives_of fun L1 gg ww hp hN=>?_;have h8:=hN.bef 8 kr;obtain ⟨o,ho,hd,hw,hop⟩:=zD (show opk _ 9 _=some (some 78,true,.indexAddr 110 (.tmp 77) (.tmp 75)) by kernel_rfl);refine ⟨o,ho,hd,.inr ⟨hw,?_⟩⟩;rw [ys (kd:=.i64) (t:=110) (e:=112) (K:=2) (bytes:=32) kr (x:=(.tmp 77)) (y:=(.tmp 75)) (gg 8).b 0 (e.n+1) (gg 8).cap e.n rfl hop kr kr (by omega) ww];refine ⟨{ b:=(gg 8).b },rfl,?_⟩;unfold qu at hp ⊢;rw [h8] at hp;rw [show D2.put1 L1 9 8=true from h8];exact ⟨fun _=>rfl,hp.2.1,hp.2.2⟩
 ·refine D2.gives_of fun L1 gg ww hp hN=>?_;have h8:=hN.bef 8 kr;have h9:=hN.bef 9 kr;unfold qu at hp;rw [h8,hN.1] at hp;obtain ⟨hg9,hr',HS⟩:=hp;have hg:=hg9 h9;have hle:=hr'.putA (0+e.n*2) (knd g p n c) (by show 0+e.n*2+2≤(e.n+1)*2;omega);obtain ⟨o,ho,hd,hw,hop⟩:=zD (show opk _ 10 _=some (none,true,.store 112 (.tmp 78) (.tmp 74)) by kernel_rfl);refine ⟨o,ho,hd,.inr ⟨hw,?_⟩⟩;rw [xP (t:=112) (off:=0+e.n*2) (b:=(gg 8).b) (C:=(gg 8).cur) (T:=112) (v:=knd g p n c) (C':=putA (gg 8).cur (0+e.n*2) (knd g p n c)) (HS.get 3 kr) kr kr hle.1 rfl (by rw [←hg];kernel_rfl) kr o hop];refine ⟨default,rfl,?_⟩;unfold qu;rw [show D2.put1 L1 10 8=true from h8,show D2.put1 L1 10 10=true from rfl];exact ⟨fun h=>hg9 h,hr',HS.store 3 (C:=(gg 8).cur) kr⟩
 ·exact D2.gv_op (fun _ _ _ h=>h) _ (fun g=>by kernel_rfl) (fun g o w ho=>ys (kd:=.i64) (t:=110) (e:=112) (K:=2) (bytes:=32) kr (x:=(.tmp 69)) (y:=(.tmp 70)) bo 0 (r.length+1) cap r.length rfl ho kr kr (by omega) w)
 ·exact D2.gv_val (fun _ _ _ h=>h) (fun g w=>by kernel_rfl)
 ·refine D2.gives_of fun L1 gg ww hp hN=>?_;have h8:=hN.bef 8 kr;unfold qu at hp;rw [h8,hN.1] at hp;obtain ⟨hg9,hr',HS⟩:=hp;have hle:=hRw.putA (0+r.length*2+1) (.slice (some ⟨(gg 8).b,0,none⟩) (e.n+1) (gg 8).cap) (by show 0+r.length*2+1+1≤(r.length+1)*2;omega);obtain ⟨o,ho,hd,hw,hop⟩:=zD (show opk _ 13 _=some (none,true,.store 110 (.tmp 80) (.tmp 77)) by kernel_rfl);refine ⟨o,ho,hd,.inr ⟨hw,?_⟩⟩;rw [xP (t:=110) (off:=0+r.length*2+1) (b:=bo) (C:=cur) (T:=112) (v:=.slice (some ⟨(gg 8).b,0,none⟩) (e.n+1) (gg 8).cap) (C':=putA cur (0+r.length*2+1) (.slice (some ⟨(gg 8).b,0,none⟩) (e.n+1) (gg 8).cap)) (HS.get 2 kr) kr kr hle.1 rfl kr kr o hop];refine ⟨default,rfl,?_⟩;unfold qu;rw [show D2.put1 L1 13 8=true from h8,show D2.put1 L1 13 13=true from rfl];exact ⟨fun h=>hg9 h,hr',HS.store 2 (C:=cur) kr⟩
 ·intro L1 gg w14 hall hp;unfold qu at hp;rw [hall 8 (Nat.le_of_ble_eq_true kr),hall 10 (Nat.le_of_ble_eq_true kr),hall 13 (Nat.le_of_ble_eq_true kr)] at hp;obtain ⟨_,hr',H4⟩:=hp;generalize hb':(gg 8).b=b';generalize hcap':(gg 8).cap=cap';generalize hcur':(gg 8).cur=cur';rw [hb',hcur',hcap'] at H4;rw [hcur',hcap'] at hr';have hn:=he.row.len (by decide);have hMl:(zJ kS e.M).length=0+e.n*2:=by rw [xO,hn,Nat.zero_add];rfl
  have hnew:Rw 2 (putA cur' (0+e.n*2) (knd g p n c)) cap' (e.n+1) (zJ kS (e.M++ [⟨g,p,n,c,k⟩])):=by
   have h1:=(hr'.putA (0+e.n*2) (knd g p n c) (by show 0+e.n*2+2≤(e.n+1)*2;omega)).2;have h2:=za2 (X:=zJ kS e.M) (Z:=zK.toList) (V:=(knd g p n c).cells.toList) hMl rfl;rw [vk];exact h2▸h1
  obtain ⟨eg,ep,en,ec,erow,eM⟩:=e;have hop:Rw 2 (putA cur (0+r.length*2+1) (.slice (some ⟨b',0,none⟩) (en+1) cap')) cap (r.length+1) (zJ kS (opE (⟨eg,some ⟨b',0,none⟩,en+1,cap',[(b',kR (putA cur' (0+en*2) (knd g p n c)))],eM++ [⟨g,p,n,c,k⟩]⟩::r))):=by
   have h1:=(hRw.putA (0+r.length*2+1) (.slice (some ⟨b',0,none⟩) (en+1) cap') (by show 0+r.length*2+1+1≤(r.length+1)*2;omega)).2;have hl:=zac r;have h2:=za2 (X:=zJ kS (opE r)++ [.int .u8 (eg:Int)]) (Z:=[.slice ep en ec]) (V:=(Value.slice (some ⟨b',0,none⟩) (en+1) cap').cells.toList) (off:=0+r.length*2+1) (by rw [List.length_append,hl];simp) rfl;rw [kB];rw [kB,show zJ kS (opE r)++ [.int .u8 (eg:Int),.slice ep en ec]=(zJ kS (opE r)++ [.int .u8 (eg:Int)])++ [.slice ep en ec] by simp] at h1;have h3:(zJ kS (opE r)++ [.int .u8 (eg:Int)])++(Value.slice (some ⟨b',0,none⟩) (en+1) cap').cells.toList=zJ kS (opE r)++ [.int .u8 (eg:Int),.slice (some ⟨b',0,none⟩) (en+1) cap']:=by
    rw [List.append_assoc];rfl
   exact h3▸(h2▸h1)
  have hok:jW T (i+1) ⟨eg,some ⟨b',0,none⟩,en+1,cap',[(b',kR (putA cur' (0+en*2) (knd g p n c)))],eM++ [⟨g,p,n,c,k⟩]⟩:=
   ⟨.inr ⟨_,_,rfl,rfl,hnew⟩,he.all.snoc hRI trivial,Nat.succ_le_succ he.le⟩
  have htop':=hop.top;have hpush':jU g k ((eg,yl eM)::stM r)=target:=hpush;unfold jU at hpush';rw [←zed ⟨g,p,n,c,k⟩] at hpush';have hrc:=hop.le;have hBr:eg=42→Bot r:=fun h42=>by
   rcases hBot with ⟨_,h⟩|h
   ·exact absurd (h.symm.trans h42) (by decide)
   ·exact h
  have hin: ∀x∈T,x∈(b',kR (putA cur' (0+en*2) (knd g p n c)))::T:=fun x hx=>List.mem_cons_of_mem _ hx;refine wW<|zc kr ?_;by_cases h42:eg=42
  ·rw [if_pos h42] at hpush';refine rS [.v,.v,.o (ins:=[((.tmp 81),.slice (some ⟨bo,0,none⟩) (r.length+1) cap),((.tmp 82),.int .i64 (r.length:Int))]) (v:=.pointer (some ⟨bo,0+r.length*2,none⟩)) (fun ρ o w ho hi2=>ys (kd:=.i64) (t:=110) (e:=112) (K:=2) (bytes:=32) kr (x:=(.tmp 81)) (y:=(.tmp 82)) bo 0 (r.length+1) cap r.length rfl ho hi2.1 hi2.2.1 (by omega) w),.v,.ls 2 (C:=putA cur (0+r.length*2+1) (.slice (some ⟨b',0,none⟩) (en+1) cap')) (off:=0+r.length*2) (v:=.int .u8 (eg:Int)) htop'.2.2.1,.E (.bool (!((eg:Int)==42))) (.bool false) (za (by rw [h42];rfl))] H4 kr fun gs5 w15 H5=>zl kr kr<|zn kr<|wW<|dL [.v,.v,.o (ins:=[((.tmp 87),.slice (some ⟨bo,0,none⟩) (r.length+1) cap),((.tmp 88),.int .i64 (r.length:Int))]) (v:=.pointer (some ⟨bo,0+r.length*2,none⟩)) (fun ρ o w ho hi2=>ys (kd:=.i64) (t:=110) (e:=112) (K:=2) (bytes:=32) kr (x:=(.tmp 87)) (y:=(.tmp 88)) bo 0 (r.length+1) cap r.length rfl ho hi2.1 hi2.2.1 (by omega) w),.lp 2 (C:=putA cur (0+r.length*2+1) (.slice (some ⟨b',0,none⟩) (en+1) cap')) (off:=0+r.length*2) (n:=2) (W:=#[.int .u8 (eg:Int),.slice (some ⟨b',0,none⟩) (en+1) cap']) htop'.1 htop'.2.1,.v,.v,.o (ins:=[((.tmp 91),.slice (some ⟨bo,0,none⟩) (r.length+1) cap),((.tmp 92),.int .i64 (r.length:Int))]) (v:=.slice (some ⟨bo,0,none⟩) r.length cap) (fun ρ o w ho hi2=>zcV (kd:=.i64) (t:=110) (e:=112) (size:=2) (bytes:=32) kr (x:=(.tmp 91)) (y:=(.tmp 92)) bo (r.length+1) cap r.length ho hi2.1 hi2.2.1 (by omega) w),.s 0,.v] H5 kr fun w16 H6=>?_;have H7:St B w0 w16 ((bd,kdO eg (some ⟨b',0,none⟩) (en+1) cap')::(b2,kdO 0 none 0 0)::(bo,kR (putA cur (0+r.length*2+1) (.slice (some ⟨b',0,none⟩) (en+1) cap')))::([(b',kR (putA cur' (0+en*2) (knd g p n c)))]++(yf r++T))):=H6.as kr;show ∃m,_∧_;refine ⟨r.length,Nat.lt_succ_self _,r,r.length,eg,_,_,_,yl (eM++ [⟨g,p,n,c,k⟩]),(b',kR (putA cur' (0+en*2) (knd g p n c)))::T,bo,cap,_,rfl,rfl,hBr h42,by omega,fun x hx=>(hS x (List.mem_cons_of_mem _ hx)).mono hin (Nat.le_refl _),?_,hpush',Rw.pop (kB _ _▸hop) (zac r),H7.perm (List.Perm.cons _ (List.Perm.cons _ (List.Perm.cons _ (List.perm_append_comm_assoc (yf r) [(b',kR (putA cur' (0+en*2) (knd g p n c)))] T)))),(Is.of ⟨kr,kr,kr,kr,kr,kr,kr,trivial⟩)⟩;have:=hok.row.rIn (T:=T) (by decide) hok.all (by have:=hok.le;show en+1≤1000;simp only at this;omega);exact this
  ·rw [if_neg h42] at hpush';refine rS [.v,.v,.o (ins:=[((.tmp 81),.slice (some ⟨bo,0,none⟩) (r.length+1) cap),((.tmp 82),.int .i64 (r.length:Int))]) (v:=.pointer (some ⟨bo,0+r.length*2,none⟩)) (fun ρ o w ho hi2=>ys (kd:=.i64) (t:=110) (e:=112) (K:=2) (bytes:=32) kr (x:=(.tmp 81)) (y:=(.tmp 82)) bo 0 (r.length+1) cap r.length rfl ho hi2.1 hi2.2.1 (by omega) w),.v,.ls 2 (C:=putA cur (0+r.length*2+1) (.slice (some ⟨b',0,none⟩) (en+1) cap')) (off:=0+r.length*2) (v:=.int .u8 (eg:Int)) htop'.2.2.1,.E (.bool (!((eg:Int)==42))) (.bool true) (za (by rw [beq_eq_false_iff_ne.2 (by omega)];rfl))] H4 kr fun gs5 w15 H5=>zj kr kr<|yv 1 kr ?_;show Q (.exit 1) _ _;refine hQ (⟨eg,some ⟨b',0,none⟩,en+1,cap',[(b',kR (putA cur' (0+en*2) (knd g p n c)))],eM++ [(⟨g,p,n,c,k⟩:El Nat)]⟩::r) (r.length+1) T bo cap _ _ _ rfl ?_ hN5' ?_ hpush' hop ?_ (Is.of ⟨kr,kr,kr,kr,kr,kr,trivial⟩)
   ·rcases hBot with ⟨h1,h2⟩|h
    ·exact .inl ⟨h1,h2⟩
    ·exact .inr h
   ·intro x hx;rcases List.mem_cons.1 hx with rfl | hx
    ·exact hok
    ·exact (hS x (List.mem_cons_of_mem _ hx)).mono (fun _ h=>h) (Nat.le_succ _)
   ·have H7:St B w0 w15 ((bd,kdO g p n c)::(b2,kdO 0 none 0 0)::(bo,kR (putA cur (0+r.length*2+1) (.slice (some ⟨b',0,none⟩) (en+1) cap')))::([(b',kR (putA cur' (0+en*2) (knd g p n c)))]++(yf r++T))):=H5.as kr;exact H7.sub (List.sublist_cons_self ..)
abbrev zeA (form:ByteArray)(i:Nat)(b2 bo N cap:Nat):List (Nat×Value):=[(0,.string form),(2,.pointer (some ⟨b2,0,none⟩)),(3,.bool false),(4,.slice (some ⟨bo,0,none⟩) N cap),(16,.int .i64 (form.size:Int)),(17,.int .i64 (i:Int))]
theorem zju {Q:Exit→Env→World→Prop}{B:Nat}{w0:World}(form:ByteArray)(b2 i:Nat)(hi40:i≤40)(hi:i<form.size)(hz:form.size≤40)(S:List Sk)(N:Nat)(T:List (Nat×Obj))(bo cap:Nat)(cur:Array Value)(hN:N=S.length)(hBot:Bot S)(hN5:N≤5)(hS: ∀e∈S,jW T i e)(hRw:Rw 2 cur cap N (zJ kS (opE S)))
 (ρ0:Env) (ww0:World) (H0:St B w0 ww0 ((b2,kdO 0 none 0 0)::(bo,kR cur)::(yf S++T))) (hIs:Is (zeA form i b2 bo N cap) ρ0)
 (hbad:qR (by_ form i) (stM S)=none→ ∀(ρ:Env) (ww:World) (bd:Nat) (o:Obj) (l:List (Nat×Obj)),St B w0 ww ((bd,o)::(b2,kdO 0 none 0 0)::l)→ρ 3=.bool false→ρ 2=.pointer (some ⟨b2,0,none⟩)→Q .ret ρ ww)
 (hQ: ∀(S':List Sk) (N:Nat) (T:List (Nat×Obj)) (bo cap:Nat) (cur:Array Value) (ρ:Env) (ww:World),N=S'.length→Bot S'→N≤5→(∀e∈S',jW T (i+1) e)→qR (by_ form i) (stM S)=some (stM S')→Rw 2 cur cap N (zJ kS (opE S'))→
  St B w0 ww ((b2,kdO 0 none 0 0)::(bo,kR cur)::(yf S'++T))→Is (zeA form i b2 bo N cap) ρ→Q (.exit 1) ρ ww):
 WP Tryz.prog 101 zex Q ρ0 ww0:=by
 obtain ⟨_,rfl⟩:=hIs;rcases S with _|⟨e,r⟩
 ·exact hBot.elim
 obtain rfl:N=r.length+1:=hN;have he:=hS e (List.mem_cons_self ..);have htop:=hRw.top;obtain ⟨c,hc⟩:∃c,by_ form i=c:=⟨_,rfl⟩
 have hrc:=hRw.le;refine rS [.v,.v] H0 kr fun gs1 w1 H1=>zg [0,1,2,3,4,5] kr kr<|rp [.v,.v,.oe (ins:=[((.tmp 20),.string form),((.tmp 21),.int .i64 (i:Int))]) (v:=.int .u8 ((by_ form i:Nat):Int)) (v':=.int .u8 (c:Int)) (fun ρ o w ho hi2=>qL (t:=9) (kd:=.i64) kr (x:=(.tmp 20)) (y:=(.tmp 21)) form i ho hi2.1 hi2.2.1 hi w) (by rw [hc]),.v] H1 kr fun gs2 w2 H2=>wX [4,5] ?_;have H3:St B w0 w2 ((b2,kdO 0 none 0 0)::(bo,kR cur)::(yf (e::r)++T)):=H2.as kr;refine zE H3 (some 6) 112 (.agg #[.int .u8 0,.slice none 0 0]) kr kr kr ?_;intro bd w3 H4;refine rp [.s 0] H4 kr fun gs3 w4 H5=>wX []<|zb<|zc kr<|rS [.v,.v,.E (.int .i64 (IntKind.i64.wrap (((r.length+1:Nat):Int)-1))) (.int .i64 (r.length:Int)) (zo (by rw [show (((r.length+1:Nat):Int)-1)=(r.length:Int) by omega];exact ui (by omega))),.v] H5 kr fun gs4 w5 H6=>rS [.v,.l 0] H6 kr fun gs5 w6 H7=>zz 2 kr ?_;have H8:St B w0 w6 ((bd,kdO c none 0 0)::(b2,kdO 0 none 0 0)::(bo,kR cur)::(yf (e::r)++T)):=H7.as kr;clear H0 H1 H2 H3 H4 H5 H6 H7;refine yb [0,2,3,4,5,6,7,16,17,28] fun ρ1=>zc kr ?_;obtain ⟨lb,hlb⟩:∃lb,decide (c=110∨c=104∨c=97∨c=115∨c=98)=lb:=⟨_,rfl⟩
 refine xL (Q:=fun ex ρ ww=>ex=.normal∧St B w0 ww ((bd,kdO c none 0 0)::(b2,kdO 0 none 0 0)::(bo,kR cur)::(yf (e::r)++T))∧Is [(0,.string form),(2,.pointer (some ⟨b2,0,none⟩)),(3,.bool false),(4,.slice (some ⟨bo,0,none⟩) (r.length+1) cap),(6,.pointer (some ⟨bd,0,none⟩)),(7,.int .i64 (r.length:Int)),(16,.int .i64 (form.size:Int)),(17,.int .i64 (i:Int)),(28,.int .u8 (c:Int)),(30,.bool lb)] ρ) ?_ ?_
 ·by_cases h110:c=110
  ·refine rS [.E (.bool ((c:Int)==110)) (.bool true) (za (beq_iff_eq.2 (by omega))),.v] H8 kr fun gsa110 wa110 Ha110=>zj kr kr<|zn kr ?_;obtain rfl:lb=true:=by rw [←hlb];exact decide_eq_true (by omega)
   exact ⟨rfl,Ha110.as kr,(Is.of ⟨kr,kr,kr,kr,kr,kr,kr,kr,kr,kr,trivial⟩)⟩
  ·refine rS [.E (.bool ((c:Int)==110)) (.bool false) (za (beq_eq_false_iff_ne.2 (by omega))),.v] H8 kr fun gsb110 wb110 Hb110=>zl kr kr ?_;by_cases h104:c=104
   ·refine rS [.E (.bool ((c:Int)==104)) (.bool true) (za (beq_iff_eq.2 (by omega))),.v] Hb110 kr fun gsa104 wa104 Ha104=>zj kr kr<|zn kr ?_;obtain rfl:lb=true:=by rw [←hlb];exact decide_eq_true (by omega)
    exact ⟨rfl,Ha104.as kr,(Is.of ⟨kr,kr,kr,kr,kr,kr,kr,kr,kr,kr,trivial⟩)⟩
   ·refine rS [.E (.bool ((c:Int)==104)) (.bool false) (za (beq_eq_false_iff_ne.2 (by omega))),.v] Hb110 kr fun gsb104 wb104 Hb104=>zl kr kr ?_;by_cases h97:c=97
    ·refine rS [.E (.bool ((c:Int)==97)) (.bool true) (za (beq_iff_eq.2 (by omega))),.v] Hb104 kr fun gsa97 wa97 Ha97=>zj kr kr<|zn kr ?_;obtain rfl:lb=true:=by rw [←hlb];exact decide_eq_true (by omega)
     exact ⟨rfl,Ha97.as kr,(Is.of ⟨kr,kr,kr,kr,kr,kr,kr,kr,kr,kr,trivial⟩)⟩
    ·refine rS [.E (.bool ((c:Int)==97)) (.bool false) (za (beq_eq_false_iff_ne.2 (by omega))),.v] Hb104 kr fun gsb97 wb97 Hb97=>zl kr kr ?_;by_cases h115:c=115
     ·refine rS [.E (.bool ((c:Int)==115)) (.bool true) (za (beq_iff_eq.2 (by omega))),.v] Hb97 kr fun gsa115 wa115 Ha115=>zj kr kr<|zn kr ?_;obtain rfl:lb=true:=by rw [←hlb];exact decide_eq_true (by omega)
      exact ⟨rfl,Ha115.as kr,(Is.of ⟨kr,kr,kr,kr,kr,kr,kr,kr,kr,kr,trivial⟩)⟩
     ·refine rS [.E (.bool ((c:Int)==115)) (.bool false) (za (beq_eq_false_iff_ne.2 (by omega))),.v] Hb97 kr fun gsb115 wb115 Hb115=>zl kr kr ?_;by_cases h98:c=98
      ·refine rL [.E (.bool ((c:Int)==98)) (.bool true) (za (beq_iff_eq.2 (by omega))),.v] Hb115 kr fun gsa98 wa98 Ha98=>?_;obtain rfl:lb=true:=by rw [←hlb];exact decide_eq_true (by omega)
       exact ⟨rfl,Ha98.as kr,(Is.of ⟨kr,kr,kr,kr,kr,kr,kr,kr,kr,kr,trivial⟩)⟩
      ·refine rL [.E (.bool ((c:Int)==98)) (.bool false) (za (beq_eq_false_iff_ne.2 (by omega))),.v] Hb115 kr fun gsb98 wb98 Hb98=>?_;obtain rfl:lb=false:=by rw [←hlb];exact decide_eq_false (by omega)
       exact ⟨rfl,Hb98.as kr,(Is.of ⟨kr,kr,kr,kr,kr,kr,kr,kr,kr,kr,trivial⟩)⟩
 rintro _ _ w7 ⟨rfl,H9,_,rfl⟩;refine wW ?_;cases lb with
 | true=>
  have hst:qR (by_ form i) (stM (e::r))=some (jU c .nil (stM (e::r))):=by
   rw [hc];unfold qR;rw [if_pos (of_decide_eq_true hlb)]
  refine zj kr kr<|zn kr<|wW<|zez form b2 bd i _ hi40 (r.length+1) _ _ ⟨e::r,r.length+1,c,none,0,0,.nil,T,bo,cap,cur,rfl,rfl,hBot,hN5,hS,RIn.none _ _,rfl,hRw,H9,(Is.of ⟨kr,kr,kr,kr,kr,kr,kr,trivial⟩)⟩ ?_;intro S' N' T' bo' cap' cur' ρ' ww' h1 h2 h3 h4 h5 h6 h7 h8;exact hQ S' N' T' bo' cap' cur' ρ' ww' h1 h2 h3 h4 (by rw [hst,h5]) h6 h7 h8
 | false=>
  have hnl:=of_decide_eq_false hlb;refine zl kr kr<|zc kr ?_;obtain ⟨gb,hgb⟩:∃gb,decide (c=40∨c=42)=gb:=⟨_,rfl⟩
  refine xL (Q:=fun ex ρ ww=>ex=.normal∧St B w0 ww ((bd,kdO c none 0 0)::(b2,kdO 0 none 0 0)::(bo,kR cur)::(yf (e::r)++T))∧Is [(0,.string form),(2,.pointer (some ⟨b2,0,none⟩)),(3,.bool false),(4,.slice (some ⟨bo,0,none⟩) (r.length+1) cap),(6,.pointer (some ⟨bd,0,none⟩)),(7,.int .i64 (r.length:Int)),(16,.int .i64 (form.size:Int)),(17,.int .i64 (i:Int)),(28,.int .u8 (c:Int)),(36,.bool gb)] ρ) ?_ ?_
  ·by_cases h40:c=40
   ·refine rS [.E (.bool ((c:Int)==40)) (.bool true) (za (beq_iff_eq.2 (by omega))),.v] H9 kr fun gsa40 wa40 Ha40=>zj kr kr<|zn kr ?_;obtain rfl:gb=true:=by rw [←hgb];exact decide_eq_true (by omega)
    exact ⟨rfl,Ha40.as kr,(Is.of ⟨kr,kr,kr,kr,kr,kr,kr,kr,kr,kr,trivial⟩)⟩
   ·refine rS [.E (.bool ((c:Int)==40)) (.bool false) (za (beq_eq_false_iff_ne.2 (by omega))),.v] H9 kr fun gsb40 wb40 Hb40=>zl kr kr ?_;by_cases h42:c=42
    ·refine rL [.E (.bool ((c:Int)==42)) (.bool true) (za (beq_iff_eq.2 (by omega))),.v] Hb40 kr fun gsa42 wa42 Ha42=>?_;obtain rfl:gb=true:=by rw [←hgb];exact decide_eq_true (by omega)
     exact ⟨rfl,Ha42.as kr,(Is.of ⟨kr,kr,kr,kr,kr,kr,kr,kr,kr,kr,trivial⟩)⟩
    ·refine rL [.E (.bool ((c:Int)==42)) (.bool false) (za (beq_eq_false_iff_ne.2 (by omega))),.v] Hb40 kr fun gsb42 wb42 Hb42=>?_;obtain rfl:gb=false:=by rw [←hgb];exact decide_eq_false (by omega)
     exact ⟨rfl,Hb42.as kr,(Is.of ⟨kr,kr,kr,kr,kr,kr,kr,kr,kr,kr,trivial⟩)⟩
  rintro _ _ w8 ⟨rfl,H10,_,rfl⟩;refine wW ?_;cases gb with
  | true=>
   have hyes:=of_decide_eq_true hgb;refine zj kr kr<|zc kr ?_;by_cases h4:r.length=4
   ·refine zc kr<|rL [.v,.E (.bool ((r.length:Int)==4)) (.bool true) (za (beq_iff_eq.2 (by omega)))] H10 kr fun gs6 w9 H11=>wW<|zj kr kr<|rS [.v,.s 1,.v] H11 kr fun gs7 w10 H12=>zk kr ?_;have H13:St B w0 w10 ((bd,kdO c none 0 0)::(b2,kdO 0 none 0 0)::(bo,kR cur)::(yf (e::r)++T)):=H12.as kr;refine hbad ?_ _ w10 bd _ _ H13 kr kr;rw [hc];unfold qR;rw [if_neg hnl,if_pos hyes,if_pos];show ((e::r).map _).length=5;rw [List.length_map,List.length_cons,h4]
   ·refine zc kr<|rL [.v,.E (.bool ((r.length:Int)==4)) (.bool false) (za (beq_eq_false_iff_ne.2 (by omega)))] H10 kr fun gs6 w9 H11=>wW<|zl kr kr<|zn kr<|wW<|zg [0,1,2,3,4] kr kr<|rp [.v,.l 0] H11 kr fun gs7 w10 H12=>wX [2,3,4] ?_;have H13:St B w0 w10 ((bd,kdO c none 0 0)::(b2,kdO 0 none 0 0)::(bo,kR cur)::(yf (e::r)++T)):=H12.as kr;refine zgk H13 (some 44) (fun b=>.slice (some ⟨b,0,none⟩) 1 1) #[.int .u8 (c:Int),.slice none 0 0] 112 (fun w=>by kernel_rfl) kr ?_;intro bn w11 H14;refine zgY (K':=2) H14 (some 45) 110 112 32 (.tmp 42) (.tmp 44) 3 0 bo bn (r.length+1) cap 1 cur #[.int .u8 (c:Int),.slice none 0 0] (zJ kS (opE (e::r))) kr kr kr kr kr hRw kr kr rfl (jT rfl) (by omega) (by unfold maxLen;omega) ?_;intro b' cap' cur' w12 H15 hr';have H16:St B w0 w12 ((bn,kR #[.int .u8 (c:Int),.slice none 0 0])::(bd,kdO c none 0 0)::(b2,kdO 0 none 0 0)::(b',kR cur')::(yf (e::r)++T)):=H15;refine rp [.v] H16 kr fun gs8 w13 H17=>wX []<|zb<|yv 1 kr ?_;show Q (.exit 1) _ _;have H18:St B w0 w13 ((bn,kR #[.int .u8 (c:Int),.slice none 0 0])::(bd,kdO c none 0 0)::(b2,kdO 0 none 0 0)::(b',kR cur')::(yf (e::r)++T)):=H17.as kr;refine hQ (⟨c,none,0,0,[],[]⟩::e::r) (r.length+2) T b' cap' cur' _ _ rfl (.inr hBot) (by omega) ?_ ?_ ?_ (H18.sub (List.Sublist.cons _ (List.sublist_cons_self ..))) (Is.of ⟨kr,kr,kr,kr,kr,kr,trivial⟩)
    ·intro x hx;rcases List.mem_cons.1 hx with rfl | hx
     ·exact ⟨.inl ⟨rfl,rfl,rfl,rfl,rfl⟩,(fun _ h=>nomatch h),Nat.zero_le _⟩
     ·exact (hS x hx).mono (fun _ h=>h) (Nat.le_succ _)
    ·rw [hc];unfold qR;rw [if_neg hnl,if_pos hyes,if_neg]
     ·rfl
     ·show ¬((e::r).map _).length=5;rw [List.length_map,List.length_cons];omega
    ·rw [kB];exact hr'
  | false=>
   have hno:=of_decide_eq_false hgb;refine zl kr kr ?_;by_cases h41:c=41
   ·refine rS [.E (.bool ((c:Int)==41)) (.bool true) (za (beq_iff_eq.2 (by omega))),.v] H10 kr fun gs6 w9 H11=>zj kr kr<|zc kr<|zc kr ?_;by_cases hr0:r.length=0
    ·refine rL [.v,.E (.bool ((r.length:Int)==0)) (.bool true) (za (beq_iff_eq.2 (by omega))),.v,.n,.n,.n,.n,.n,.n,.v] H11 kr fun gs7 w10 H12=>wW<|zj kr kr<|rS [.v,.s 1,.v] H12 kr fun gs8 w11 H13=>zk kr ?_;have H14:St B w0 w11 ((bd,kdO c none 0 0)::(b2,kdO 0 none 0 0)::(bo,kR cur)::(yf (e::r)++T)):=H13.as kr;refine hbad ?_ _ w11 bd _ _ H14 kr kr;rw [hc];unfold qR;rw [if_neg hnl,if_neg hno,if_pos h41];show (if (r.map _).length=0∨e.g≠40 then none else some _)=none;rw [if_pos (.inl (by rw [List.length_map];exact hr0))]
    ·by_cases h40:e.g=40
     ·refine rL [.v,.E (.bool ((r.length:Int)==0)) (.bool false) (za (beq_eq_false_iff_ne.2 (by omega))),.v,.v,.v,.o (ins:=[((.tmp 51),.slice (some ⟨bo,0,none⟩) (r.length+1) cap),((.tmp 52),.int .i64 (r.length:Int))]) (v:=.pointer (some ⟨bo,0+r.length*2,none⟩)) (fun ρ o w ho hi2=>ys (kd:=.i64) (t:=110) (e:=112) (K:=2) (bytes:=32) kr (x:=(.tmp 51)) (y:=(.tmp 52)) bo 0 (r.length+1) cap r.length rfl ho hi2.1 hi2.2.1 (by omega) w),.v,.ls 2 (C:=cur) (off:=0+r.length*2) (v:=.int .u8 ((e.g:Nat):Int)) htop.2.2.1,.E (.bool (!(((e.g:Nat):Int)==40))) (.bool false) (za (by rw [h40];rfl)),.v] H11 kr fun gs7 w10 H12=>wW<|zl kr kr<|zn kr<|wW<|dL [.v,.v,.o (ins:=[((.tmp 59),.slice (some ⟨bo,0,none⟩) (r.length+1) cap),((.tmp 60),.int .i64 (r.length:Int))]) (v:=.pointer (some ⟨bo,0+r.length*2,none⟩)) (fun ρ o w ho hi2=>ys (kd:=.i64) (t:=110) (e:=112) (K:=2) (bytes:=32) kr (x:=(.tmp 59)) (y:=(.tmp 60)) bo 0 (r.length+1) cap r.length rfl ho hi2.1 hi2.2.1 (by omega) w),.lp 2 (C:=cur) (off:=0+r.length*2) (n:=2) (W:=#[.int .u8 ((e.g:Nat):Int),.slice e.p e.n e.c]) htop.1 htop.2.1,.v,.v,.o (ins:=[((.tmp 63),.slice (some ⟨bo,0,none⟩) (r.length+1) cap),((.tmp 64),.int .i64 (r.length:Int))]) (v:=.slice (some ⟨bo,0,none⟩) r.length cap) (fun ρ o w ho hi2=>zcV (kd:=.i64) (t:=110) (e:=112) (size:=2) (bytes:=32) kr (x:=(.tmp 63)) (y:=(.tmp 64)) bo (r.length+1) cap r.length ho hi2.1 hi2.2.1 (by omega) w),.s 0,.v] H12 kr fun w11 H13=>wW ?_;have H14:St B w0 w11 ((bd,kdO e.g e.p e.n e.c)::(b2,kdO 0 none 0 0)::(bo,kR cur)::(e.row++(yf r++T))):=by
       rw [←List.append_assoc];exact H13.as kr
      have hBr:Bot r:=by
       rcases hBot with ⟨h,_⟩|h
       ·rw [h] at hr0;exact absurd rfl hr0
       ·exact h
      have hst:qR (by_ form i) (stM (e::r))=some (jU e.g (yl e.M) (stM r)):=by
       rw [hc];unfold qR;rw [if_neg hnl,if_neg hno,if_pos h41];show (if (r.map _).length=0∨e.g≠40 then none else some (jU e.g (yl e.M) (stM r)))=_;rw [if_neg (by rw [List.length_map];exact fun h=>h.elim hr0 (fun h=>h h40))]
      refine zez form b2 bd i _ hi40 r.length _ _ ⟨r,r.length,e.g,e.p,e.n,e.c,yl e.M,e.row++T,bo,cap,cur,rfl,rfl,hBr,by omega,fun x hx=>(hS x (List.mem_cons_of_mem _ hx)).mono (fun y hy=>List.mem_append_right _ hy) (Nat.le_refl _),he.row.rIn (by decide) he.all (by have:=he.le;show e.n≤1000;omega),rfl,Rw.pop (kB _ _▸hRw) (zac r),H14.perm (List.Perm.cons _ (List.Perm.cons _ (List.Perm.cons _ (List.perm_append_comm_assoc (yf r) e.row T)))),(Is.of ⟨kr,kr,kr,kr,kr,kr,kr,trivial⟩)⟩ ?_;intro S' N' T' bo' cap' cur' ρ' ww' h1 h2 h3 h4 h5 h6 h7 h8;exact hQ S' N' T' bo' cap' cur' ρ' ww' h1 h2 h3 h4 (by rw [hst,h5]) h6 h7 h8
     ·refine rL [.v,.E (.bool ((r.length:Int)==0)) (.bool false) (za (beq_eq_false_iff_ne.2 (by omega))),.v,.v,.v,.o (ins:=[((.tmp 51),.slice (some ⟨bo,0,none⟩) (r.length+1) cap),((.tmp 52),.int .i64 (r.length:Int))]) (v:=.pointer (some ⟨bo,0+r.length*2,none⟩)) (fun ρ o w ho hi2=>ys (kd:=.i64) (t:=110) (e:=112) (K:=2) (bytes:=32) kr (x:=(.tmp 51)) (y:=(.tmp 52)) bo 0 (r.length+1) cap r.length rfl ho hi2.1 hi2.2.1 (by omega) w),.v,.ls 2 (C:=cur) (off:=0+r.length*2) (v:=.int .u8 ((e.g:Nat):Int)) htop.2.2.1,.E (.bool (!(((e.g:Nat):Int)==40))) (.bool true) (za (by rw [beq_eq_false_iff_ne.2 (by omega)];rfl)),.v] H11 kr fun gs7 w10 H12=>wW<|zj kr kr<|rS [.v,.s 1,.v] H12 kr fun gs8 w11 H13=>zk kr ?_;have H14:St B w0 w11 ((bd,kdO c none 0 0)::(b2,kdO 0 none 0 0)::(bo,kR cur)::(yf (e::r)++T)):=H13.as kr;refine hbad ?_ _ w11 bd _ _ H14 kr kr;rw [hc];unfold qR;rw [if_neg hnl,if_neg hno,if_pos h41];show (if (r.map _).length=0∨e.g≠40 then none else some _)=none;rw [if_pos (.inr h40)]
   ·refine rS [.E (.bool ((c:Int)==41)) (.bool false) (za (beq_eq_false_iff_ne.2 (by omega))),.v] H10 kr fun gs6 w9 H11=>zl kr kr<|rS [.v,.s 1,.v] H11 kr fun gs7 w10 H12=>zk kr ?_;have H13:St B w0 w10 ((bd,kdO c none 0 0)::(b2,kdO 0 none 0 0)::(bo,kR cur)::(yf (e::r)++T)):=H12.as kr;refine hbad ?_ _ w10 bd _ _ H13 kr kr;rw [hc];unfold qR;rw [if_neg hnl,if_neg hno,if_neg h41]
theorem zjv {t:ByteArray}{l:Bool}{s:ByteArray}{k:Fo}(ht:t.size≤4000)(h:yj t l s k ⟨#[]⟩)(hd:dp1 l (dpF k)≤8):zG l s k.len k=(t,0):=by
 have hsz:=h.sz;obtain ⟨hm,hp,hi⟩:=h;have hlen:=congrArg List.length hi;rw [zt,List.length_append,qF hm (zV hp)] at hlen;have h0:(tl ⟨#[]⟩).length=0:=rfl;have hz:sz1 l s (szF k)=t.size:=by omega
 have hc:=uT hp;have hc9:k.cnt<4000:=by
  unfold sz1 at hz;split at hz
  ·rename_i q
   have h4:=len_zero (qN hm q);rw [h4];decide
  ·have:=xn (frm l) (s.size+szF k);omega
 have hlf:lf1 l s k.len (lfF k) 4000=some (3999-k.cnt):=by
  unfold lf1;rw [if_neg (by rw [hm];simp),xQ,if_pos ⟨hp,by omega⟩]
 have ht2:t=zh (wr1 l s (szF k) (wrF k)):=qM (by rw [hi,qW];exact List.append_nil _);unfold zG;rw [hlf];simp only [];rw [if_neg (by omega),if_neg (by omega),←ht2]
theorem jS.casesC {t:ByteArray}{v:Value}{T:List (Nat×Obj)}(h:jS t v T):(∃(l:Bool) (s:ByteArray) (p:Option Addr) (n c:Nat) (k:Fo),v=.tuple #[.agg #[.bool l,.string s,.slice p n c],.int .i64 0]∧yj t l s k ⟨#[]⟩∧SlC T p n c k∧s.size≤t.size∧dp1 l (dpF k)≤8∧t.size≤4000)∨(∃e:Int,e≠0∧v=erV e∧T=[]):=by
 rcases h with ⟨_,rfl,rfl⟩|⟨h4,⟨l,s,p,n,c,k,rfl,h1,h2,h3,h5⟩|⟨_,_,_,_,_,rfl,rfl⟩|⟨_,rfl,rfl⟩⟩
 ·exact .inr ⟨2,by decide,rfl,rfl⟩
 ·exact .inl ⟨l,s,p,n,c,k,rfl,h1,h2,h3,h5,h4⟩
 ·exact .inr ⟨5,by decide,rfl,rfl⟩
 ·exact .inr ⟨4,by decide,rfl,rfl⟩
theorem jS.cases {t:ByteArray}{v:Value}{T:List (Nat×Obj)}(h:jS t v T):(∃(l:Bool) (s:ByteArray) (p:Option Addr) (n c:Nat) (k:Fo),v=.tuple #[.agg #[.bool l,.string s,.slice p n c],.int .i64 0]∧yj t l s k ⟨#[]⟩∧SlIn T p n k∧s.size≤t.size∧dp1 l (dpF k)≤8∧t.size≤4000)∨(∃e:Int,e≠0∧v=erV e∧T=[]):=by
 rcases h.casesC with ⟨l,s,p,n,c,k,e,h1,h2,h3⟩|h
 ·exact .inl ⟨l,s,p,n,c,k,e,h1,h2.1,h3⟩
 ·exact .inr h
theorem zeB {l:Bool}{s:ByteArray}{k:Fo}{v:Value}{T:List (Nat×Obj)}(h0:(zG l s k.len k).2=0)(h:jS (zG l s k.len k).1 v T):∃(p:Option Addr) (n c:Nat),v=.tuple #[.agg #[.bool l,.string s,.slice p n c],.int .i64 0]∧SlIn T p n k:=by
 obtain ⟨he,hm,hp,hc,hd,hz,hl⟩:=jm h0;have hsz:(zG l s k.len k).1.size=(wr1 l s (szF k) (wrF k)).length:=by rw [he,qd]
 have htl:tl (zG l s k.len k).1=wr1 l s (szF k) (wrF k):=by rw [he,qW]
 have hpay:=kx hm hz;have key: ∀(l2:Bool) (s2:ByteArray) (k2:Fo),yj (zG l s k.len k).1 l2 s2 k2 ⟨#[]⟩→l=l2∧s=s2∧k=k2:=fun l2 s2 k2 ⟨hm2,hp2,hi2⟩=>by
  have hi3:wr1 l s (szF k) (wrF k)++ []=wr1 l2 s2 (szF k2) (wrF k2)++ []:=by rw [List.append_nil,←htl,hi2];rfl
  have hlen:=congrArg List.length hi3;rw [List.length_append,List.length_append,hl,qF hm2 (zV hp2)] at hlen;have hpay2:=kx hm2 (show sz1 l2 s2 (szF k2)≤4000 by simp only [List.length_nil] at hlen;omega);obtain ⟨a,b,c,_⟩:=kw hm hm2 (zV hp).symm (zV hp2).symm (by omega) (by omega) (fun q=>xR k k2 hp hp2 (by rw [zV hp];omega) q) hi3;exact ⟨a,b,c⟩
 rcases h with ⟨h4,_⟩|⟨_,⟨l2,s2,p,n,c,k2,rfl,h1,h2,_⟩|⟨l2,s2,k2,h1,h2,_⟩|⟨hb,_⟩⟩
 ·omega
 ·obtain ⟨rfl,rfl,rfl⟩:=key l2 s2 k2 h1;exact ⟨p,n,c,rfl,h2.1⟩
 ·obtain ⟨rfl,rfl,rfl⟩:=key l2 s2 k2 h1;omega
 ·exact absurd htl (hb l s k hm hp)
theorem yj.inj {t:ByteArray}{l l':Bool}{s s':ByteArray}{k k':Fo}(ht:t.size≤4000)(h:yj t l s k ⟨#[]⟩)(h':yj t l' s' k' ⟨#[]⟩):l=l'∧s=s'∧k=k':=by
 obtain ⟨hm,hp,hi⟩:=h;obtain ⟨hm2,hp2,hi2⟩:=h';have hlen:=congrArg List.length hi;have hlen2:=congrArg List.length hi2;rw [zt,List.length_append,qF hm (zV hp)] at hlen;rw [zt,List.length_append,qF hm2 (zV hp2)] at hlen2;have h1:=kx hm (show sz1 l s (szF k)≤4000 by omega);have h2:=kx hm2 (show sz1 l' s' (szF k')≤4000 by omega);obtain ⟨a,b,c,_⟩:=kw hm hm2 (zV hp).symm (zV hp2).symm (by omega) (by omega) (fun q=>xR k k' hp hp2 (by rw [zV hp];omega) q) (hi.symm.trans hi2);exact ⟨a,b,c⟩
theorem zad {l:Bool}{s t:ByteArray}{k:Fo}(h:zG l s k.len k=(t,0)):yj t l s k ⟨#[]⟩:=by
 obtain ⟨he,hm,hp,_⟩:=jm (show (zG l s k.len k).2=0 by rw [h]);refine ⟨hm,hp,?_⟩;have e:t=zh (wr1 l s (szF k) (wrF k)):=by rw [←he,h]
 rw [e,qW];exact (List.append_nil _).symm
def zae (form:ByteArray)(v:Value)(T:List (Nat×Obj)):Prop:=
 (∃(p:Option Addr) (n c:Nat) (k:Kf),parseM form=some k∧v=.tuple #[knd 40 p n c,.bool true]∧RIn kS T p n k)∨
 (parseM form=none∧∃(g:Nat) (p:Option Addr) (n c:Nat),v=.tuple #[knd g p n c,.bool false])
theorem zjw (s:ByteArray)(i:Nat)(h:i<s.size):(tl s).drop i=(tl s).getD i 0::(tl s).drop (i+1):=by
 have h1:i<(tl s).length:=h;rw [List.drop_eq_getElem_cons h1,List.getD_eq_getElem?_getD,List.getElem?_eq_getElem h1];rfl
theorem zjx: ∀ {S:List Sk},Bot S→1≤S.length
 | [],h=>h.elim
 | e::r,_=>by simp
theorem zeC (form:ByteArray):FnT Tryz.prog 58 #[.string form] (fun _=>True) (zae form):=by
 refine FnT.intro (c:=zf Tryz.f58) [.cell 2 112,.tmp 3] 101 Tryz.func58 kr kr kr fun w _=>?_;have H0:=St.start w;refine rS [.a,.v] H0 kr fun gs1 w1 H1=>?_;clear H0;refine zgW kr<|zc kr ?_;by_cases h40:40<form.size
 ·refine rS [.v,.v,.E (.bool (decide ((40:Int)<(ByteArray.size form:Int)))) (.bool true) (za (decide_eq_true (by omega)))] H1 kr fun gs2 w2 H2=>zj kr kr<|rS [.v,.s 0,.v] H2 kr fun gs3 w3 H3=>rRr [.cell 2 112,.tmp 3] [0] (.tuple #[knd 0 none 0 0,.bool false]) (zX w.heap.size w (zae form)) H3 kr ?_;exact ⟨[],.inr ⟨by unfold parseM;rw [if_pos h40],_,_,_,_,rfl⟩,H3.sub (List.nil_sublist _)⟩
 ·refine rS [.v,.v,.E (.bool (decide ((40:Int)<(ByteArray.size form:Int)))) (.bool false) (za (decide_eq_false (by omega)))] H1 kr fun gs2 w2 H2=>zl kr kr<|zn kr<|wW<|rS [.v,.nw (fun b=>.slice (some ⟨b,0,none⟩) 1 1) #[.int .u8 40,.slice none 0 0] 112,.v] H2 kr fun gs3 w3 H3=>zc kr<|zgX 0 kr<|wW<|zc kr<|rS [.v,.v,.v] H3 kr fun gs4 w4 H4=>zz 0 kr ?_;have H5:St w.heap.size w w4 (((gs1 0).b,kdO 0 none 0 0)::((gs3 1).b,kR #[.int .u8 40,.slice none 0 0])::(yf [⟨40,none,0,0,[],[]⟩]++ [])):=H4.as kr;have hpm:parseM form=match xz (tl form) [(40,.nil)] with | some [(_,m)]=>some m | _=>none:=by unfold parseM;rw [if_neg h40]<;>rfl
  clear H1 H2 H3 H4;refine yW kr (fun mz ρ ww=> ∃(i:Nat) (st:List (Nat×Kf)),form.size-i=mz∧i≤form.size∧xz ((tl form).drop i) st=xz (tl form) [(40,.nil)]∧zjt w.heap.size w form (gs1 0).b i st ρ ww) (form.size-0)
   ⟨0,[(40,.nil)],rfl,Nat.zero_le _,rfl,[⟨40,none,0,0,[],[]⟩],1,[],(gs3 1).b,1,#[.int .u8 40,.slice none 0 0],rfl,.inl ⟨rfl,rfl⟩,by decide,(fun x hx=>by
    obtain rfl:=List.mem_singleton.1 hx
    exact ⟨.inl ⟨rfl,rfl,rfl,rfl,rfl⟩,(fun _ h=>nomatch h),Nat.zero_le _⟩),rfl,⟨rfl,Nat.le_refl _,by unfold maxLen;omega,rfl,rfl⟩,H5,(Is.of ⟨kr,kr,kr,kr,kr,kr,trivial⟩)⟩ ?_
  clear H5;rintro _ _ w5 ⟨i,_,rfl,hi,hst,S,N,T,bo,cap,cur,hN,hBot,hN5,hS,rfl,hRw,H6,_,rfl⟩;by_cases hlt:i<form.size
  ·refine rS [.E (.bool (decide ((i:Int)<(form.size:Int)))) (.bool true) (za (decide_eq_true (by omega)))] H6 kr fun gs5 w6 H7=>zc kr<|zj kr kr<|zn kr<|wW<|zc kr<|zz 1 kr ?_;have H8:St w.heap.size w w6 (((gs1 0).b,kdO 0 none 0 0)::(bo,kR cur)::(yf S++T)):=H7.as kr;have hstep: ∀x,qR (by_ form i) (stM S)=x→xz (tl form) [(40,.nil)]=match x with | none=>none | some st'=>xz ((tl form).drop (i+1)) st':=fun x hx=>by
    rw [←hst,zjw form i hlt,←hx];rfl
   refine zju form (gs1 0).b i (by omega) hlt (by omega) S N T bo cap cur hN hBot hN5 hS hRw _ w6 H8 (Is.of ⟨kr,kr,kr,kr,kr,kr,trivial⟩) ?_ ?_
   ·intro hn ρ ww bd o l HS h3 h2;refine wV ?_;refine ⟨[.agg #[.int .u8 0,.slice none 0 0],.bool false],(.agg (b:=(gs1 0).b) #[.int .u8 0,.slice none 0 0] 112 (0,0) h2 (HS.get 1 kr) kr (.tmp (.bool false) h3 .nil)),[],.inr ⟨?_,0,none,0,0,rfl⟩,HS.sub (List.nil_sublist _)⟩;rw [hpm,hstep _ hn]
   ·intro S' N' T' bo' cap' cur' ρ ww h1 h2 h3 h4 h5 h6 h7 ⟨_,h8⟩;subst h8;refine wW<|rL [.E (.int .i64 (IntKind.i64.wrap ((i:Int)+1))) (.int .i64 ((i+1:Nat):Int)) (zo (qc (a:=i) (b:=1) (by omega))),.v] h7 kr fun gs6 w7 H9=>?_;show ∃m,_∧_;exact ⟨_,(by omega),i+1,stM S',rfl,hlt,(hstep _ h5).symm,S',N',T',bo',cap',cur',h1,h2,h3,h4,rfl,h6,H9.as kr,(Is.of ⟨kr,kr,kr,kr,kr,kr,trivial⟩)⟩
  ·obtain rfl:i=form.size:=by omega
   refine rS [.E (.bool (decide ((form.size:Int)<(form.size:Int)))) (.bool false) (za (decide_eq_false (by omega)))] H6 kr fun gs5 w6 H7=>zc kr<|zl kr kr<|yv 0 kr<|wW ?_;have hb1:=zjx hBot;have hend:xz (tl form) [(40,.nil)]=some (stM S):=by
    rw [←hst,List.drop_of_length_le (by rw [zt];exact Nat.le_refl _)];rfl
   rw [hend] at hpm;obtain ⟨x,hx⟩:∃x,(opE S)[0]? =some x:=⟨_,List.getElem?_eq_getElem (by rw [zbH];omega)⟩
   have hat:=hRw.atE (S:=kS) hx;by_cases h1:N=1
   ·refine rS [.v,.o (ins:=[((.tmp 95),.slice (some ⟨bo,0,none⟩) N cap),((.const (.int .i64 0)),.int .i64 0)]) (v:=.pointer (some ⟨bo,0+0*2,none⟩)) (fun ρ o w ho hi2=>ys (kd:=.i64) (t:=110) (e:=112) (K:=2) (bytes:=32) kr (x:=(.tmp 95)) (y:=(.const (.int .i64 0))) bo 0 N cap 0 rfl ho hi2.1 hi2.2.1 (by omega) w),.lp 1 (C:=cur) (off:=0*2) (n:=2) (W:=#[.int .u8 ((x.a:Nat):Int),.slice x.p x.n x.c]) hat.1 hat.2,.v,.v,.E (.bool ((N:Int)==1)) (.bool true) (za (beq_iff_eq.2 (by omega))),.s 0,.v] H7 kr fun gs6 w7 H8=>rRr [.cell 2 112,.tmp 3] [0] (.tuple #[knd x.a x.p x.n x.c,.bool true]) (zX w.heap.size w (zae form)) H8 kr ?_;have H9:St w.heap.size w w7 (((gs1 0).b,kdO x.a x.p x.n x.c)::(bo,kR cur)::(yf S++T)):=H8.as kr;rcases S with _ | ⟨e,_ | ⟨e',r⟩⟩
    ·exact hBot.elim
    ·obtain rfl:e.el=x:=by simpa [opE] using hx
     have he:=hS e (List.mem_cons_self ..);have hg:e.g=40:=by
      rcases hBot with ⟨_,h⟩|h
      ·exact h
      ·exact h.elim
     refine ⟨e.row++T,.inl ⟨e.p,e.n,e.c,yl e.M,?_,?_,he.row.rIn (by decide) he.all (by have:=he.le;show e.n≤1000;omega)⟩,?_⟩
     ·rw [hpm];rfl
     ·show Value.tuple #[knd e.g e.p e.n e.c,.bool true]=_;rw [hg]
     ·have H10:=H9.sub (List.Sublist.cons _ (List.sublist_cons_self ..));have e2:yf [e]++T=e.row++T:=by show (e.row++ [])++T=_;rw [List.append_nil]
      rw [e2] at H10;exact H10
    ·exact absurd (hN.symm.trans h1) (by simp)
   ·refine rS [.v,.o (ins:=[((.tmp 95),.slice (some ⟨bo,0,none⟩) N cap),((.const (.int .i64 0)),.int .i64 0)]) (v:=.pointer (some ⟨bo,0+0*2,none⟩)) (fun ρ o w ho hi2=>ys (kd:=.i64) (t:=110) (e:=112) (K:=2) (bytes:=32) kr (x:=(.tmp 95)) (y:=(.const (.int .i64 0))) bo 0 N cap 0 rfl ho hi2.1 hi2.2.1 (by omega) w),.lp 1 (C:=cur) (off:=0*2) (n:=2) (W:=#[.int .u8 ((x.a:Nat):Int),.slice x.p x.n x.c]) hat.1 hat.2,.v,.v,.E (.bool ((N:Int)==1)) (.bool false) (za (beq_eq_false_iff_ne.2 (by omega))),.s 0,.v] H7 kr fun gs6 w7 H8=>rRr [.cell 2 112,.tmp 3] [0] (.tuple #[knd x.a x.p x.n x.c,.bool false]) (zX w.heap.size w (zae form)) H8 kr ?_;refine ⟨[],.inr ⟨?_,_,_,_,_,rfl⟩,H8.sub (List.nil_sublist _)⟩;rw [hpm];rcases S with _ | ⟨e,_ | ⟨e',r⟩⟩
    ·exact hBot.elim
    ·exact absurd hN h1
    ·rfl
def qS (x:ByteArray×Nat):Value:=.tuple #[.string x.1,.int .i64 ((x.2:Nat):Int)]
theorem zeD (g:Nat)(p:Option Addr)(n c:Nat)(b:Kf)(m:Nat)(s:ByteArray)(p2:Option Addr)(n2 c2:Nat)(l:Fe)(hm:m<0x10000000000000000)(hs:s.size≤0x800000000000):
 FnP Tryz.prog 59 #[knd g p n c,fld m s p2 n2 c2] (fun w=>SlR kS w.heap.size w p n b∧SlR fS w.heap.size w p2 n2 l) (qS (yr g b (m,s) l)):=by
 refine FnP.intro (c:=zf Tryz.f59) [.tmp 4,.tmp 5] 16 Tryz.func59 kr kr kr fun w hpre=>?_;have H0:=St.start w;obtain ⟨hK,hF⟩:=hpre;refine rS [.b,.b,.v,.v] H0 kr fun gs1 w1 H1=>?_;clear H0;refine zc kr ?_;unfold yr;by_cases hl:zS g b (m,s) l 1001<0
 ·rw [if_pos hl];refine rS [.l 0,.l 1,.cp (pre:=fun w=>SlR kS w.heap.size w p n b∧SlR fS w.heap.size w p2 n2 l) (zer l g p n c b m s p2 n2 c2 1001) [] (fun w hb hd=>⟨hK.call hb,hF.call hb⟩),.E (.bool (decide (zS g b (m,s) l 1001<0))) (.bool true) (za (decide_eq_true hl))] H1 kr fun gs2 w2 H2=>zj kr kr<|rS [.v,.v] H2 kr fun gs3 w3 H3=>?_;exact rR [.tmp 4,.tmp 5] [] (qS (⟨#[]⟩,1)) H3 kr
 ·rw [if_neg hl];refine rS [.l 0,.l 1,.cp (pre:=fun w=>SlR kS w.heap.size w p n b∧SlR fS w.heap.size w p2 n2 l) (zer l g p n c b m s p2 n2 c2 1001) [] (fun w hb hd=>⟨hK.call hb,hF.call hb⟩),.E (.bool (decide (zS g b (m,s) l 1001<0))) (.bool false) (za (decide_eq_false hl))] H1 kr fun gs2 w2 H2=>zl kr kr<|zn kr<|wW<|zg [0,1,2,3,4,5,6,7] kr kr<|rp [.l 0,.l 1] H2 kr fun gs3 w3 H3=>wX [2,3,4,5,6,7]<|qD H3 (some 12) 78 #[knd g p n c,fld m s p2 n2 c2] (zjm l g p n c b m s p2 n2 c2 1001 hm (Int.not_lt.1 hl)) ⟨hK.call H3.below,hF.call H3.below⟩ kr kr ?_;intro v T w4 hok H4;obtain ⟨q1,q2,q3,rfl,hsl⟩:=hok;refine yC H4 (some 13) 20 #[itm (zY g) (yx g (m,s)) q1 q2 q3] _ _ (zdD (zY g) (yx g (m,s)) q1 q2 q3 (zT g b l) (zeu hs)) (hsl.at H4 fun e he=>List.mem_append_left _ he) (fun w=>by kernel_rfl) kr ?_;intro w5 H5;rw [hsl.1];have H6:=H5.sub (List.nil_sublist _);refine rp [.v,.v,.v,.v] H6 kr fun gs4 w6 H7=>wX []<|zb ?_;exact rR [.tmp 4,.tmp 5] [] (qS (zG (zY g) (yx g (m,s)) (zT g b l).len (zT g b l))) H7 kr
def wrV (form:ByteArray)(l:Fe):ByteArray×Nat:=match parseM form with
 | none=>(⟨#[]⟩,1)
 | some k=>yr 40 k (0,⟨#[]⟩) l
theorem zeE (form:ByteArray)(p:Option Addr)(n c:Nat)(l:Fe):FnP Tryz.prog 39 #[.string form,.slice p n c] (fun w=>SlR fS w.heap.size w p n l) (qS (wrV form l)):=by
 refine FnP.intro (c:=zf Tryz.f39) [.tmp 4,.tmp 5] 21 Tryz.func39 kr kr kr fun w hF=>?_;have H0:=St.start w;refine rS [.v,.v] H0 kr fun gs1 w1 H1=>?_;clear H0;refine zg [0,1,2,3,4,5,6,7] kr kr<|rp [.v] H1 kr fun gs2 w2 H2=>wX [1,2,3,4,5,6,7]<|qD H2 (some 10) 58 #[.string form] (zeC form) trivial kr kr ?_;intro v T w3 hok H3;unfold wrV;rcases hok with ⟨q1,q2,q3,k,hp,rfl,hk⟩ | ⟨hp,g',q1,q2,q3,rfl⟩
 ·rw [hp];refine rp [.v,.v,.v] H3 kr fun gs3 w4 H4=>wX [5,6,7] ?_;have H5:St w.heap.size w w4 (T++ []):=H4.as kr;refine zE H5 (some 6) 112 (.agg #[.int .u8 0,.slice none 0 0]) kr kr kr ?_;intro b6 w5 H6;refine rp [.s 0,.v] H6 kr fun gs4 w6 H7=>wX []<|zb<|zc kr<|rS [.v,.v] H7 kr fun gs5 w7 H8=>zl kr kr<|zn kr<|wW<|zg [0,1,2,3,4,5,6,7] kr kr<|rp [.l 0,.v,.v] H8 kr fun gs6 w8 H9=>wX [3,4,5,6,7] ?_;have H10:St w.heap.size w w8 ((b6,kdO 40 q1 q2 q3)::(T++ [])):=H9.as kr;refine yC H10 (some 18) 59 #[knd 40 q1 q2 q3,fld 0 ⟨#[]⟩ p n c] _ _ (zeD 40 q1 q2 q3 k 0 ⟨#[]⟩ p n c l (by decide) (by decide)) ⟨hk.at H10 fun e he=>List.mem_cons_of_mem _ (List.mem_append_left _ he),hF.call H10.below⟩ (fun w=>by kernel_rfl) kr ?_;intro w9 H11;have H12:=H11.sub (List.nil_sublist _);refine rp [.v,.v,.v,.v] H12 kr fun gs7 w10 H13=>wX []<|zb ?_;exact rR [.tmp 4,.tmp 5] [] (qS (yr 40 k (0,⟨#[]⟩) l)) H13 kr
 ·rw [hp];refine rp [.v,.v,.v] H3 kr fun gs3 w4 H4=>wX [5,6,7] ?_;have H5:St w.heap.size w w4 (T++ []):=H4.as kr;refine zE H5 (some 6) 112 (.agg #[.int .u8 0,.slice none 0 0]) kr kr kr ?_;intro b6 w5 H6;refine rp [.s 0,.v] H6 kr fun gs4 w6 H7=>wX []<|zb<|zc kr<|rS [.v,.v] H7 kr fun gs5 w7 H8=>zj kr kr ?_;have H9:=H8.sub (List.nil_sublist _);refine rS [.v,.v] H9 kr fun gs6 w8 H10=>?_;exact rR [.tmp 4,.tmp 5] [] (qS (⟨#[]⟩,1)) H10 kr
def vE (form s:ByteArray)(v:Value)(T:List (Nat×Obj)):Prop:=
 (∃(p:Option Addr) (n c:Nat) (l:Fe) (k:Kf),parseM form=some k∧v=.tuple #[.slice p n c,.int .i64 0]∧RIn fS T p n l∧yr 40 k (0,⟨#[]⟩) l=(s,0))∨
 (∃e:Int,e≠0∧v=.tuple #[.slice none 0 0,.int .i64 e]∧ ∀(k:Kf) (l:Fe),parseM form=some k→l.all fS.ok→yr 40 k (0,⟨#[]⟩) l≠(s,0))
theorem zjy (l:Bool)(s:ByteArray)(n:Nat)(k:Fo):(zG l s n k).2=0∨(zG l s n k).1=⟨#[]⟩:=by
 unfold zG;split
 ·exact .inr rfl
 ·split
  ·exact .inr rfl
  ·split
   ·exact .inr rfl
   ·exact .inl rfl
theorem xB {k:Kf}{l:Fe}{s:ByteArray}(h:yr 40 k (0,⟨#[]⟩) l=(s,0)): ¬zS 40 k (0,⟨#[]⟩) l 1001<0∧zG true ⟨#[]⟩ (zT 40 k l).len (zT 40 k l)=(s,0):=by
 unfold yr at h;by_cases hl:zS 40 k (0,⟨#[]⟩) l 1001<0
 ·rw [if_pos hl] at h;exact absurd (congrArg Prod.snd h) Nat.one_ne_zero
 ·rw [if_neg hl] at h;exact ⟨hl,h⟩
theorem zeF (k:Kf)(l:Fe):(yr 40 k (0,⟨#[]⟩) l).2=0∨(yr 40 k (0,⟨#[]⟩) l).1=⟨#[]⟩:=by
 unfold yr;split
 ·exact .inr rfl
 ·exact zjy ..
theorem zjz {k:Kf}{l:Fe}{s:ByteArray}{v:Value}{T:List (Nat×Obj)}(h:yr 40 k (0,⟨#[]⟩) l=(s,0))(ho:l.all fS.ok)(hd:jS s v T):
 ∃(p:Option Addr) (n c:Nat),v=.tuple #[.agg #[.bool true,.string ⟨#[]⟩,.slice p n c],.int .i64 0]∧SlIn T p n (zT 40 k l)∧yG 40 k (zT 40 k l)=l:=by
 obtain ⟨hl,he⟩:=xB h;have h1:(zG true ⟨#[]⟩ (zT 40 k l).len (zT 40 k l)).2=0:=by rw [he]
 have h2:jS (zG true ⟨#[]⟩ (zT 40 k l).len (zT 40 k l)).1 v T:=by rw [he];exact hd
 obtain ⟨p,n,c,hv,hT⟩:=zeB h1 h2;exact ⟨p,n,c,hv,hT,(uV (by decide) ho hl).2.2⟩
theorem zjA {t:ByteArray}{l:Bool}{s:ByteArray}{k:Fo}(h:yj t l s k ⟨#[]⟩):t≠⟨#[]⟩:=fun e=>by
 obtain ⟨hm,hp,hi⟩:=h;have h1:=(jx hm hp rfl).1;have h2:=congrArg List.length hi;rw [e,List.length_append] at h2;have h3:(tl (⟨#[]⟩:ByteArray)).length=0:=rfl;omega
theorem zaf {form:ByteArray}{ks:List ByteArray}(hK:zbF form ks)(l:Fe):wrV form l=if yy ks l=true∧l.cnt≤1000 then zG true emB (qn l 40 (kfL ks) 0).len (qn l 40 (kfL ks) 0) else (emB,1):=by
 unfold wrV;rw [hK.parse];show yr 40 (kfL ks) (0,⟨#[]⟩) l=_;unfold yr;by_cases h:yy ks l=true∧l.cnt≤1000
 ·rw [if_pos h,if_neg ((uW hK.kd l).2 h)];rfl
 ·rw [if_neg h,if_pos];by_cases hn:zS 40 (kfL ks) (0,⟨#[]⟩) l 1001<0
  ·exact hn
  ·exact absurd ((uW hK.kd l).1 hn) h
theorem qv {ks:List ByteArray}(x:Nat×ByteArray)(l r:Fe)(i:Nat)(hi:i<ks.length):qn (.cons x l r) 40 (kfL ks) i=.cons (zY (by_ ks[i] 0)) (yx (by_ ks[i] 0) x) (zT (by_ ks[i] 0) (kdB ks[i]) l) (qn r 40 (kfL ks) (i+1)):=by
 rw [uU,zeh,List.getElem?_eq_getElem hi]
abbrev fO (p:Option Addr)(n c:Nat):Obj:=.cells #[wZ,.string ⟨#[]⟩,.slice p n c] 86 (0,0)
theorem zeG (form s:ByteArray)(hs:s.size≤0x800000000000):FnT Tryz.prog 44 #[.string form,.string s] (fun _=>True) (vE form s):=by
 refine FnT.intro (c:=zf Tryz.f44) [.tmp 4,.tmp 5] 42 Tryz.func44 kr kr kr fun w _=>?_;have H0:=St.start w;refine rS [.v,.v] H0 kr fun gs1 w1 H1=>?_;clear H0;refine zg [0,1,2,3,4,5,6,7] kr kr<|rp [.v] H1 kr fun gs2 w2 H2=>wX [1,2,3,4,5,6,7]<|qD H2 (some 15) 58 #[.string form] (zeC form) trivial kr kr ?_;intro v T w3 hok H3;rcases hok with ⟨q1,q2,q3,k,hp,rfl,hk⟩ | ⟨hp,g',q1,q2,q3,rfl⟩
 ·refine rp [.v,.v,.v] H3 kr fun gs3 w4 H4=>wX [5,6,7] ?_;have H5:St w.heap.size w w4 (T++ []):=H4.as kr;refine zE H5 (some 6) 112 (.agg #[.int .u8 0,.slice none 0 0]) kr kr kr ?_;intro b6 w5 H6;refine rp [.s 0,.v] H6 kr fun gs4 w6 H7=>wX []<|zb<|zc kr<|rS [.v,.v] H7 kr fun gs5 w7 H8=>zl kr kr<|zn kr<|wW<|zg [0,1,2,3,4,5,6,7] kr kr<|rp [.v] H8 kr fun gs6 w8 H9=>wX [1,2,3,4,5,6,7] ?_;have H10:St w.heap.size w w8 ((b6,kdO 40 q1 q2 q3)::(T++ [])):=H9.as kr;refine zbA H10 (some 22) 14 #[.string s] (zea s hs) kr kr ?_;intro vd Td w9 hdec H11;rcases hdec.cases with ⟨l1,s1,p1,n1,c1,k1,rfl,hit,hsl,hs1,hdp,h4⟩ | ⟨er,her,rfl,rfl⟩
  ·refine rp [.v,.v,.v] H11 kr fun gs7 w10 H12=>wX [5,6,7] ?_;have H13:St w.heap.size w w10 (Td++((b6,kdO 40 q1 q2 q3)::(T++ []))):=H12.as kr;refine zE H13 (some 8) 46 (.agg #[.bool false,.string ⟨#[]⟩,.slice none 0 0]) kr kr kr ?_;intro b8 w11 H14;refine rp [.s 0,.v] H14 kr fun gs8 w12 H15=>wX []<|zb ?_;have H16:St w.heap.size w w12 ((b8,ixO l1 s1 p1 n1 c1)::(Td++((b6,kdO 40 q1 q2 q3)::(T++ [])))):=H15.as kr;have H17:St w.heap.size w w12 ((b6,kdO 40 q1 q2 q3)::(b8,ixO l1 s1 p1 n1 c1)::(Td++T)):=by
    refine H16.perm ?_;rw [List.append_nil];exact (List.Perm.swap _ _ _).trans (List.Perm.cons _ List.perm_middle.symm)
   refine zc kr<|rS [.v,.v] H17 kr fun gs9 w13 H18=>zl kr kr<|zn kr<|wW<|zg [0,1,2,3,4] kr kr<|rp [.l 0,.l 1] H18 kr fun gs10 w14 H19=>wX [2,3,4] ?_;have H20:St w.heap.size w w14 ((b6,kdO 40 q1 q2 q3)::(b8,ixO l1 s1 p1 n1 c1)::(Td++T)):=H19.as kr;have hcnt:=hit.sz.2;refine qD H20 (some 30) 71 #[knd 40 q1 q2 q3,itm l1 s1 p1 n1 c1] (zjr k1 40 q1 q2 q3 k l1 s1 p1 n1 c1 (by omega) (by omega)) ⟨hk.at H20 fun e he=>List.mem_cons_of_mem _ (List.mem_cons_of_mem _ (List.mem_append_right _ he)),hsl.at H20 fun e he=>List.mem_cons_of_mem _ (List.mem_cons_of_mem _ (List.mem_append_left _ he))⟩ kr kr ?_;intro vf Tf w15 hfld H21;obtain ⟨pf,nf,cf,rfl,hTf⟩:=hfld;refine zE H21 (some 10) 86 (.agg #[wZ,.string ⟨#[]⟩,.slice none 0 0]) kr kr kr ?_;intro b10 w16 H22;refine rp [.s 0] H22 kr fun gs11 w17 H23=>wX []<|zb ?_;have H24:St w.heap.size w w17 ((b10,fO pf nf cf)::(Tf++((b6,kdO 40 q1 q2 q3)::(b8,ixO l1 s1 p1 n1 c1)::(Td++T)))):=H23.as kr;have H25:St w.heap.size w w17 ((b10,fO pf nf cf)::(b6,kdO 40 q1 q2 q3)::(b8,ixO l1 s1 p1 n1 c1)::(Tf++(Td++T))):=
    H24.perm (List.Perm.cons _ (List.perm_append_comm_assoc Tf [(b6,kdO 40 q1 q2 q3),(b8,ixO l1 s1 p1 n1 c1)] (Td++T)).symm)
   refine zc kr<|zg [0,1,2,3,4,5,6,7] kr kr<|rp [.l 1,.l 0] H25 kr fun gs12 w18 H26=>wX [2,3,4,5,6,7] ?_;have H27:St w.heap.size w w18 ((b10,fO pf nf cf)::(b6,kdO 40 q1 q2 q3)::(b8,ixO l1 s1 p1 n1 c1)::(Tf++(Td++T))):=H26.as kr;have hmF: ∀e∈Tf,e∈(b10,fO pf nf cf)::(b6,kdO 40 q1 q2 q3)::(b8,ixO l1 s1 p1 n1 c1)::(Tf++(Td++T)):=fun e he=>List.mem_cons_of_mem _ (List.mem_cons_of_mem _ (List.mem_cons_of_mem _ (List.mem_append_left _ he)));have hmK: ∀e∈T,e∈(b10,fO pf nf cf)::(b6,kdO 40 q1 q2 q3)::(b8,ixO l1 s1 p1 n1 c1)::(Tf++(Td++T)):=fun e he=>List.mem_cons_of_mem _ (List.mem_cons_of_mem _ (List.mem_cons_of_mem _ (List.mem_append_right _ (List.mem_append_right _ he))));have hok:=(hTf.at H27 hmF).ok;refine yC H27 (some 34) 59 #[knd 40 q1 q2 q3,fld 0 ⟨#[]⟩ pf nf cf] _ _ (zeD 40 q1 q2 q3 k 0 ⟨#[]⟩ pf nf cf (yG 40 k k1) (by decide) (by decide)) ⟨hk.at H27 hmK,hTf.at H27 hmF⟩ (fun w=>by kernel_rfl) kr ?_;intro w19 H28;refine rp [.v,.v,.v,.v,.v] H28 kr fun gs13 w20 H29=>wX []<|zb ?_;by_cases hmade:(yr 40 k (0,⟨#[]⟩) (yG 40 k k1)).1=s
   ·refine rS [.v,.v,.E (.bool (!((yr 40 k (0,⟨#[]⟩) (yG 40 k k1)).1.toList==s.toList))) (.bool false) (za (by rw [zI _ _ hmade];rfl))] H29 kr fun gs14 w21 H30=>zl kr kr<|zn kr<|wW<|rS [.v,.l 0,.v,.v] H30 kr fun gs15 w22 H31=>rRr [.tmp 4,.tmp 5] [] (.tuple #[.slice pf nf cf,.int .i64 0]) (zX w.heap.size w (vE form s)) H31 kr ?_;have H32:St w.heap.size w w22 ((b10,fO pf nf cf)::(b6,kdO 40 q1 q2 q3)::(b8,ixO l1 s1 p1 n1 c1)::(Tf++(Td++T))):=H31.as kr;refine ⟨Tf,.inl ⟨pf,nf,cf,yG 40 k k1,k,hp,rfl,hTf,?_⟩,H32.sub (List.Sublist.cons _ (List.Sublist.cons _ (List.Sublist.cons _ (List.sublist_append_left _ _))))⟩;rcases zeF k (yG 40 k k1) with h | h
    ·exact Prod.ext hmade h
    ·exact absurd (hmade.symm.trans h) (zjA hit)
   ·refine rS [.v,.v,.E (.bool (!((yr 40 k (0,⟨#[]⟩) (yG 40 k k1)).1.toList==s.toList))) (.bool true) (za (by rw [yO _ _ hmade];rfl))] H29 kr fun gs14 w21 H30=>zj kr kr<|rS [.v,.v] H30 kr fun gs15 w22 H31=>rRr [.tmp 4,.tmp 5] [] (.tuple #[.slice none 0 0,.int .i64 4]) (zX w.heap.size w (vE form s)) H31 kr ?_;refine ⟨[],.inr ⟨4,by decide,rfl,fun k' l' hp' ho' hw'=>?_⟩,H31.sub (List.nil_sublist _)⟩;obtain rfl:k=k':=Option.some.inj (hp.symm.trans hp');obtain ⟨hl9,he9⟩:=xB hw';have hf:=(uV (by decide) ho' hl9).2.2;have hk9:=(yj.inj h4 hit (zad he9)).2.2;rw [hk9,hf,hw'] at hmade;exact hmade rfl
  ·have hno: ∀(k':Kf) (l':Fe),parseM form=some k'→l'.all fS.ok→yr 40 k' (0,⟨#[]⟩) l'≠(s,0):=fun k' l' _ ho' hw'=>by
    obtain ⟨p9,n9,c9,hv,_⟩:=zjz hw' ho' hdec;unfold erV at hv;injection hv with hv;have h9:=congrArg (fun a:Array Value=>a[1]?) hv;simp at h9;exact her h9
   refine rp [.v,.v,.v] H11 kr fun gs7 w10 H12=>wX [5,6,7] ?_;have H13:St w.heap.size w w10 ([]++((b6,kdO 40 q1 q2 q3)::(T++ []))):=H12.as kr;refine zE H13 (some 8) 46 (.agg #[.bool false,.string ⟨#[]⟩,.slice none 0 0]) kr kr kr ?_;intro b8 w11 H14;refine rp [.s 0,.v] H14 kr fun gs8 w12 H15=>wX []<|zb<|zc kr<|rS [.v,.E (.bool (!(er==0))) (.bool true) (za (by rw [beq_eq_false_iff_ne.2 her];rfl))] H15 kr fun gs9 w13 H16=>zj kr kr<|rS [.v,.v,.v] H16 kr fun gs10 w14 H17=>rRr [.tmp 4,.tmp 5] [] (.tuple #[.slice none 0 0,.int .i64 er]) (zX w.heap.size w (vE form s)) H17 kr ?_;exact ⟨[],.inr ⟨er,her,rfl,hno⟩,H17.sub (List.nil_sublist _)⟩
 ·refine rp [.v,.v,.v] H3 kr fun gs3 w4 H4=>wX [5,6,7] ?_;have H5:St w.heap.size w w4 (T++ []):=H4.as kr;refine zE H5 (some 6) 112 (.agg #[.int .u8 0,.slice none 0 0]) kr kr kr ?_;intro b6 w5 H6;refine rp [.s 0,.v] H6 kr fun gs4 w6 H7=>wX []<|zb<|zc kr<|rS [.v,.v] H7 kr fun gs5 w7 H8=>zj kr kr<|rS [.v,.v] H8 kr fun gs6 w8 H10=>rRr [.tmp 4,.tmp 5] [] (.tuple #[.slice none 0 0,.int .i64 1]) (zX w.heap.size w (vE form s)) H10 kr ?_;exact ⟨[],.inr ⟨1,by decide,rfl,fun k l h=>by rw [hp] at h;cases h⟩,H10.sub (List.nil_sublist _)⟩
theorem zag {k:Kf}{l l':Fe}{s:ByteArray}(h:yr 40 k (0,⟨#[]⟩) l=(s,0))(h':yr 40 k (0,⟨#[]⟩) l'=(s,0))(ho:l.all fS.ok)(ho':l'.all fS.ok):l=l':=by
 obtain ⟨h1,h2⟩:=xB h;obtain ⟨h1',h2'⟩:=xB h';have hi:=zad h2;have hz:s.size≤4000:=by
  have:=jm (show (zG true ⟨#[]⟩ (zT 40 k l).len (zT 40 k l)).2=0 by rw [h2]);have h9:=congrArg ByteArray.size this.1;rw [h2,qd,this.2.2.2.2.2.2] at h9;simp only at h9;omega
 have e:=(yj.inj hz hi (zad h2')).2.2;rw [←(uV (by decide) ho h1).2.2,←(uV (by decide) ho' h1').2.2,e]
theorem zjB (form:ByteArray)(l:Fe):(wrV form l).1.size≤4000:=by
 unfold wrV;split
 ·exact Nat.zero_le _
 ·rename_i k _
  rcases zeF k l with h|h
  ·have h2:=xB (s:=(yr 40 k (0,⟨#[]⟩) l).1) (Prod.ext rfl h);have:=jm (show (zG true ⟨#[]⟩ (zT 40 k l).len (zT 40 k l)).2=0 by rw [h2.2]);have h9:=congrArg ByteArray.size this.1;rw [h2.2,qd,this.2.2.2.2.2.2] at h9;simp only at h9;omega
  ·rw [h];exact Nat.zero_le _
theorem zeH {A B:Nat}(h:A<B):cm A B<0:=by unfold cm;split<;>(try split)<;>omega
theorem zeI {A B:Nat}(h: ¬A<B): ¬cm A B<0:=by unfold cm;split<;>(try split)<;>omega
end Go.Proofs.YthonokeibcodpaaGreatDoor
namespace Go.Proofs.YthonokeibcodpaaGreatDoor
set_option linter.unusedVariables false
section
variable {p H Q:Nat}
end
open Go Go.RowKit Go.Proofs.Zm
end Go.Proofs.YthonokeibcodpaaGreatDoor
namespace Go.Proofs.YthonokeibcodpaaGreatDoor
open Go Go.RowKit
set_option linter.unusedVariables false
end Go.Proofs.YthonokeibcodpaaGreatDoor
namespace Go.Proofs.YthonokeibcodpaaGreatDoor
open Go.ChangeShapes Go.WideShapes Go.ChangeAt Go.RowKit
set_option linter.unusedVariables false
def bn (A:Nat):List Int:=[w3 A / 72057594037927936%256,w3 A / 281474976710656%256,w3 A / 1099511627776%256,w3 A / 4294967296%256,w3 A / 16777216%256,w3 A / 65536%256,w3 A / 256%256,w3 A%256,w2 A / 72057594037927936%256,w2 A / 281474976710656%256,w2 A / 1099511627776%256,w2 A / 4294967296%256,w2 A / 16777216%256,w2 A / 65536%256,w2 A / 256%256,w2 A%256,w1 A / 72057594037927936%256,w1 A / 281474976710656%256,w1 A / 1099511627776%256,w1 A / 4294967296%256,w1 A / 16777216%256,w1 A / 65536%256,w1 A / 256%256,w1 A%256,w0 A / 72057594037927936%256,w0 A / 281474976710656%256,w0 A / 1099511627776%256,w0 A / 4294967296%256,w0 A / 16777216%256,w0 A / 65536%256,w0 A / 256%256,w0 A%256]
def bs (A:Nat):ByteArray:=strOfNums (bn A)
theorem zjC (w:World)(O:Obj)(xs:List Int)(n:Nat)(hn:xs.length=n)(C:Array Value)(hC:C=(xs.map (Value.int .u8)).toArray):
 (convert 75 9 (.slice (some ⟨w.heap.size+1,0,none⟩) n n)).run Tryz.prog ((w.alloc O).alloc (.cells C 133))=.ok (.string (strOfNums xs)) ((w.alloc O).alloc (.cells C 133)):=by
 subst hC;refine run_convert_bytes_arg _ 75 5 Tryz.underlying75 Tryz.underlying5 _ 0 n n xs hn ?_ 9 Tryz.underlying9;intro i hi;have h:=heap_alloc2_new w O (.cells (xs.map (Value.int .u8)).toArray 133);rw [cell_of_row _ _ _ _ _ _ h];have hi':i<xs.length:=by omega
 simp [hi']
theorem zjD (A:Nat)(hA:A<big)(w:World):Calls Tryz.prog 66 #[uv A] w fun e w'=>e=.returned (.string (bs A))∧Below w.heap.size w w':=by
 have hc:=fun (O:Obj)=>zjC w O (bn A) 32 rfl _ rfl;simp only [bn,List.map_cons,List.map_nil] at hc;unfold uv
 go_enter Tryz.func66,Tryz.ntmps66
 go_wp2
 go_rounds 33
 go_ret
 exact ⟨rfl,by go_grown⟩
theorem je (A:Nat):(bs A).size=32:=rfl
end Go.Proofs.YthonokeibcodpaaGreatDoor
namespace Go.Proofs.YthonokeibcodpaaGreatDoor
open Go Go.RowKit
set_option linter.unusedVariables false
def inN (a:Nat):Bool:= !decide (a=0)&&decide (a<NR)
def kC (a:Nat):Bool:=decide (a<qe 0 a NR)
theorem zjE:inN 0=false:=rfl
theorem zjF {a:Nat}(h: ¬a=0):inN a=decide (a<NR):=by unfold inN;rw [decide_eq_false h];rfl
def zQ (r s:Nat)(v:Int):Bool:=inN r&&kC s&&(decide (v=0)||decide (v=1))
def sgv (r s:Nat)(v:Int):Value:=.agg #[.int .u64 (w0 r),.int .u64 (w1 r),.int .u64 (w2 r),.int .u64 (w3 r),.int .u64 (w0 s),.int .u64 (w1 s),.int .u64 (w2 s),.int .u64 (w3 s),.int .i64 v]
def sbs (r s:Nat)(v:Int):ByteArray:=(bs r++bs s)++strOfNums [IntKind.u8.wrap v]
theorem zbI (a b:ByteArray):(a++b).size=a.size+b.size:=ByteArray.size_append
theorem zjG (a:Nat)(ha:a<big)(h:a=0):Fn Tryz.prog 83 #[uv a] (.bool false):=by
 refine Fn.intro (c:=zf Tryz.f83) [.tmp 2] 18 Tryz.func83 kr kr kr fun w=>?_;have H0:=St.start w;refine rS [.b,.v] H0 kr fun gs1 w1 H1=>?_;clear H0;refine rS [.c uw,.v,.v,.v,.a,.s 1,.v] H1 kr fun gs2 w2 H2=>?_;clear H1;refine rS [.l 0,.v,.oe (ins:=[((.tmp 9),uv a),((.tmp 10),.agg #[wZ,wZ,wZ,wZ])]) (v:=.bool (!decide (a=0))) (v':=.bool false) (fun ρ o w ho hi=>vt (x:=(.tmp 9)) (y:=(.tmp 10)) a 0 ha (by unfold big;omega) w ho hi.1 hi.2.1) (by rw [decide_eq_true h]<;>rfl),.v,.n,.n,.n,.n,.v,.v] H2 kr fun gs3 w3 H3=>?_;clear H2;refine zk kr<|wV ?_;refine ⟨[.bool false],(.tmp (.bool false) kr .nil),?_,H3.below⟩;rfl
theorem zjH (a:Nat)(ha:a<big)(h: ¬a=0)(h2: ¬a<NR):Fn Tryz.prog 83 #[uv a] (.bool false):=by
 refine Fn.intro (c:=zf Tryz.f83) [.tmp 2] 18 Tryz.func83 kr kr kr fun w=>?_;have H0:=St.start w;refine rS [.b,.v] H0 kr fun gs1 w1 H1=>?_;clear H0;refine rS [.c uw,.v,.v,.v,.a,.s 1,.v] H1 kr fun gs2 w2 H2=>?_;clear H1;refine rS [.l 0,.v,.oe (ins:=[((.tmp 9),uv a),((.tmp 10),.agg #[wZ,wZ,wZ,wZ])]) (v:=.bool (!decide (a=0))) (v':=.bool true) (fun ρ o w ho hi=>vt (x:=(.tmp 9)) (y:=(.tmp 10)) a 0 ha (by unfold big;omega) w ho hi.1 hi.2.1) (by rw [decide_eq_false h]<;>rfl),.v,.l 0,.l 1,.c (vr a NR ha jl.1),.E (.bool (decide (cm a NR<0))) (.bool false) (za (decide_eq_false (zeI h2))),.v,.v] H2 kr fun gs3 w3 H3=>?_;clear H2;refine zk kr<|wV ?_;refine ⟨[.bool false],(.tmp (.bool false) kr .nil),?_,H3.below⟩;rfl
theorem zjI (a:Nat)(ha:a<big)(h: ¬a=0)(h2:a<NR):Fn Tryz.prog 83 #[uv a] (.bool true):=by
 refine Fn.intro (c:=zf Tryz.f83) [.tmp 2] 18 Tryz.func83 kr kr kr fun w=>?_;have H0:=St.start w;refine rS [.b,.v] H0 kr fun gs1 w1 H1=>?_;clear H0;refine rS [.c uw,.v,.v,.v,.a,.s 1,.v] H1 kr fun gs2 w2 H2=>?_;clear H1;refine rS [.l 0,.v,.oe (ins:=[((.tmp 9),uv a),((.tmp 10),.agg #[wZ,wZ,wZ,wZ])]) (v:=.bool (!decide (a=0))) (v':=.bool true) (fun ρ o w ho hi=>vt (x:=(.tmp 9)) (y:=(.tmp 10)) a 0 ha (by unfold big;omega) w ho hi.1 hi.2.1) (by rw [decide_eq_false h]<;>rfl),.v,.l 0,.l 1,.c (vr a NR ha jl.1),.E (.bool (decide (cm a NR<0))) (.bool true) (za (decide_eq_true (zeH h2))),.v,.v] H2 kr fun gs3 w3 H3=>?_;clear H2;refine zk kr<|wV ?_;refine ⟨[.bool true],(.tmp (.bool true) kr .nil),?_,H3.below⟩;rfl
theorem zjJ (a:Nat)(ha:a<big):Fn Tryz.prog 83 #[uv a] (.bool (inN a)):=by
 by_cases h:a=0
 ·have:=zjG a ha h;subst h;exact this
 ·rw [zjF h];by_cases h2:a<NR
  ·rw [decide_eq_true h2];exact zjI a ha h h2
  ·rw [decide_eq_false h2];exact zjH a ha h h2
theorem zeJ (a:Nat)(ha:a<big):Fn Tryz.prog 97 #[uv a] (uv (qe 0 a NR)):=by
 refine Fn.intro (c:=zf Tryz.f97) [.cell 2 55] 12 Tryz.func97 kr kr kr fun w=>?_;have H0:=St.start w;refine rS [.b,.a] H0 kr fun gs1 w1 H1=>?_;clear H0;refine rS [.v,.l 0,.c (zhv 0 a (by unfold big;omega) ha),.v,.v,.v,.a,.s 2,.v] H1 kr fun gs2 w2 H2=>?_;clear H1;refine rS [.l 2,.s 1] H2 kr fun gs3 w3 H3=>?_;clear H2;refine zk kr<|wV ?_;refine ⟨[uv (qe 0 a NR)],(.agg (b:=(gs1 1).b) (Value.cells (uv (qe 0 a NR))) 55 (0,0) kr (H3.get 1 kr) kr .nil),?_,H3.below⟩;rfl
theorem zjK (a:Nat)(ha:a<big)(h:a<qe 0 a NR):Fn Tryz.prog 84 #[uv a] (.bool true):=by
 refine Fn.intro (c:=zf Tryz.f84) [.tmp 2] 8 Tryz.func84 kr kr kr fun w=>?_;have H0:=St.start w;refine rS [.b,.v] H0 kr fun gs1 w1 H1=>?_;clear H0;refine dS [.l 0,.l 0,.c (zeJ a ha),.c (vr a (qe 0 a NR) ha (zde jl)),.E (.bool (decide (cm a (qe 0 a NR)<0))) (.bool true) (za (decide_eq_true (zeH h))),.v] H1 kr fun w2 H2=>?_;clear H1;refine zk kr<|wV ?_;refine ⟨[.bool true],(.tmp (.bool true) kr .nil),?_,H2.below⟩;rfl
theorem zjL (a:Nat)(ha:a<big)(h: ¬a<qe 0 a NR):Fn Tryz.prog 84 #[uv a] (.bool false):=by
 refine Fn.intro (c:=zf Tryz.f84) [.tmp 2] 8 Tryz.func84 kr kr kr fun w=>?_;have H0:=St.start w;refine rS [.b,.v] H0 kr fun gs1 w1 H1=>?_;clear H0;refine dS [.l 0,.l 0,.c (zeJ a ha),.c (vr a (qe 0 a NR) ha (zde jl)),.E (.bool (decide (cm a (qe 0 a NR)<0))) (.bool false) (za (decide_eq_false (zeI h))),.v] H1 kr fun w2 H2=>?_;clear H1;refine zk kr<|wV ?_;refine ⟨[.bool false],(.tmp (.bool false) kr .nil),?_,H2.below⟩;rfl
theorem zjM (a:Nat)(ha:a<big):Fn Tryz.prog 84 #[uv a] (.bool (kC a)):=by
 unfold kC;by_cases h:a<qe 0 a NR
 ·rw [decide_eq_true h];exact zjK a ha h
 ·rw [decide_eq_false h];exact zjL a ha h
theorem zah (r s:Nat)(hr:r<big)(hs:s<big)(v:Int):Fn Tryz.prog 65 #[sgv r s (v)] (.bool (zQ r s v)):=by
 refine Fn.intro (c:=zf Tryz.f65) [.tmp 2] 21 Tryz.func65 kr kr kr fun w=>?_;have H0:=St.start w;refine rS [.b,.v] H0 kr fun gs1 w1 H1=>?_;clear H0;refine zg [0,1,2,3,4,5,6,7,8,9,10,11,12,13,14,15,16,17,18] kr kr<|rp [.v,.l 0,.c (zjJ r hr)] H1 kr fun gs2 w2 H2=>wX [3,4,5,6,7,8,9,10,11,12,13,14,15,16,17,18] ?_;clear H1;refine Or.elim (Bool.eq_false_or_eq_true (inN r)).symm (fun hb1=>?_) (fun hb1=>?_)
 ·refine ya 5 (v:=.bool (inN r)) (v':=.bool false) (za hb1) kr<|rp [.v,.n,.n,.n,.v,.v,.n,.n,.n,.n] H2 kr fun gs3 w3 H3=>wX [13,14,15,16,17,18] ?_;clear H2;refine kb (some 16) kr kr<|kb (some 17) kr kr<|kb (some 18) kr kr<|rp [.n,.v,.v] H3 kr fun gs4 w4 H4=>wX [] ?_;clear H3;refine zb<|zk kr<|wV ?_;refine ⟨[.bool false],(.tmp (.bool false) kr .nil),?_,H4.below⟩;exact congrArg Value.bool (by unfold zQ;simp [hb1]<;>omega)
 ·refine ya 5 (v:=.bool (inN r)) (v':=.bool true) (za hb1) kr<|rp [.v,.v,.l 0,.c (zjM s hs)] H2 kr fun gs5 w5 H5=>wX [7,8,9,10,11,12,13,14,15,16,17,18] ?_;clear H2;refine Or.elim (Bool.eq_false_or_eq_true (kC s)).symm (fun hb2=>?_) (fun hb2=>?_)
  ·refine ya 9 (v:=.bool (kC s)) (v':=.bool false) (za hb2) kr<|rp [.v,.v,.n,.n,.n,.n] H5 kr fun gs6 w6 H6=>wX [13,14,15,16,17,18] ?_;clear H5;refine kb (some 16) kr kr<|kb (some 17) kr kr<|kb (some 18) kr kr<|rp [.n,.v,.v] H6 kr fun gs7 w7 H7=>wX [] ?_;clear H6;refine zb<|zk kr<|wV ?_;refine ⟨[.bool false],(.tmp (.bool false) kr .nil),?_,H7.below⟩;exact congrArg Value.bool (by unfold zQ;simp [hb1,hb2]<;>omega)
  ·refine ya 9 (v:=.bool (kC s)) (v':=.bool true) (za hb2) kr<|rp [.v,.v,.v,.l 0] H5 kr fun gs8 w8 H8=>wX [11,12,13,14,15,16,17,18] ?_;clear H5;by_cases hc1:(v:Int)=0
   ·refine rp [.E (.bool (v==0)) (.bool true) (za (beq_iff_eq.2 (by omega))),.v,.n,.n,.n,.v,.v,.v] H8 kr fun gs9 w9 H9=>wX [] ?_;clear H8;refine zb<|zk kr<|wV ?_;refine ⟨[.bool true],(.tmp (.bool true) kr .nil),?_,H9.below⟩;exact congrArg Value.bool (by unfold zQ;simp [hb1,hb2]<;>omega)
   ·refine rp [.E (.bool (v==0)) (.bool false) (za (beq_eq_false_iff_ne.2 (by omega))),.v,.v,.l 0] H8 kr fun gs10 w10 H10=>wX [15,16,17,18] ?_;clear H8;by_cases hc2:(v:Int)=1
    ·refine rp [.E (.bool (v==1)) (.bool true) (za (beq_iff_eq.2 (by omega))),.v,.v,.v] H10 kr fun gs11 w11 H11=>wX [] ?_;clear H10;refine zb<|zk kr<|wV ?_;refine ⟨[.bool true],(.tmp (.bool true) kr .nil),?_,H11.below⟩;exact congrArg Value.bool (by unfold zQ;simp [hb1,hb2]<;>omega)
    ·refine rp [.E (.bool (v==1)) (.bool false) (za (beq_eq_false_iff_ne.2 (by omega))),.v,.v,.v] H10 kr fun gs12 w12 H12=>wX [] ?_;clear H10;refine zb<|zk kr<|wV ?_;refine ⟨[.bool false],(.tmp (.bool false) kr .nil),?_,H12.below⟩;exact congrArg Value.bool (by unfold zQ;simp [hb1,hb2]<;>omega)
end Go.Proofs.YthonokeibcodpaaGreatDoor
namespace Go.Proofs.Kec
set_option linter.unusedVariables false
set_option maxRecDepth 10000
abbrev B64:=BitVec 64
def nth (s:List B64)(k:Nat):B64:=s.getD k 0
def rl (x:B64)(n:Nat):B64:=x.rotateLeft n
def kD (v w x:B64):B64:=v ^^^ (x &&& ~~~ w)
def cC (s:List B64)(x:Nat):B64:=nth s x ^^^ nth s (x+5) ^^^ nth s (x+10) ^^^ nth s (x+15) ^^^ nth s (x+20)
def dD (c:Nat→B64)(x:Nat):B64:=c ((x+4)%5) ^^^ rl (c ((x+1)%5)) 1
def zjN:List Nat:=[0,6,12,18,24,3,9,10,16,22,1,7,13,19,20,4,5,11,17,23,2,8,14,15,21]
def zjO:List Nat:=[0,44,43,21,14,28,20,3,45,61,1,6,25,8,18,27,36,10,15,56,62,55,39,41,2]
def th (s:List B64)(i:Nat):B64:=nth s i ^^^ dD (cC s) (i%5)
def pI (s:List B64)(k:Nat):B64:=rl (th s (zjN.getD k 0)) (zjO.getD k 0)
def xI (b:Nat→B64)(k:Nat):B64:=kD (b k) (b (k / 5*5+(k%5+1)%5)) (b (k / 5*5+(k%5+2)%5))
def rnd (s:List B64):List B64:=(List.range 25).map (xI (pI s))
theorem zjP (a:B64)(n i:Nat)(hi:i<64):(rl a n).getLsbD i=a.getLsbD ((i+64-n%64)%64):=by
 unfold rl;rw [BitVec.getLsbD_rotateLeft];by_cases h:i<n%64
 ·rw [decide_eq_true h,cond_true];congr 1;omega
 ·rw [decide_eq_false h,cond_false,decide_eq_true hi,Bool.true_and];congr 1;omega
theorem zjQ (s:List B64):(rnd s).length=25:=by unfold rnd;simp
def zai (m:B64)(s:List B64):List B64:=(nth s 0 ^^^ m)::s.drop 1
def rm (s:List B64)(m:B64):List B64:=zai m (rnd s)
def marks:List B64:=[0x0000000000000001,0x0000000000008082,0x800000000000808A,0x8000000080008000,
 0x000000000000808B,0x0000000080000001,0x8000000080008081,0x8000000000008009,
 0x000000000000008A,0x0000000000000088,0x0000000080008009,0x000000008000000A,
 0x000000008000808B,0x800000000000008B,0x8000000000008089,0x8000000000008003,
 0x8000000000008002,0x8000000000000080,0x000000000000800A,0x800000008000000A,
 0x8000000080008081,0x8000000000008080,0x0000000080000001,0x8000000080008008]
def mix (s:List B64):List B64:=marks.foldl rm s
theorem zjR (m:B64){s:List B64}(h:s.length=25):(zai m s).length=25:=by unfold zai;simp [h]
theorem zjS (s:List B64)(m:B64):(rm s m).length=25:=zjR m (zjQ s)
theorem zeK: ∀(ms:List B64) {s:List B64},s.length=25→(ms.foldl rm s).length=25
 | [],_,h=>h
 | m::ms,s,_=>zeK ms (zjS s m)
theorem zeL {s:List B64}(h:s.length=25):(mix s).length=25:=zeK _ h
def zbJ (b:UInt8):B64:=BitVec.ofNat 64 b.toNat
def qo (b:B64)(i:Nat):B64:=b <<< (i%8*8)
def lay (s:List B64)(n:Nat)(b:B64):List B64:=s.set (n / 8) (nth s (n / 8) ^^^ qo b n)
def vF (st:List B64×Nat)(b:UInt8):List B64×Nat:=
 if st.2+1=136 then (mix (lay st.1 st.2 (zbJ b)),0) else (lay st.1 st.2 (zbJ b),st.2+1)
def takeB (st:List B64×Nat)(l:List UInt8):List B64×Nat:=l.foldl vF st
def endB (st:List B64×Nat):List B64:=lay (lay st.1 st.2 1) 135 0x80
def firstB (s:List B64):List UInt8:=(List.range 32).map fun i=>UInt8.ofNat ((nth s (i / 8)).toNat / 2^(i%8*8))
def zeroS:List B64:=List.replicate 25 0
def sumB (l:List UInt8):List UInt8:=firstB (mix (endB (takeB (zeroS,0) l)))
theorem vG {s:List B64}(n:Nat)(b:B64)(h:s.length=25):(lay s n b).length=25:=by unfold lay;simp [h]
structure StOK (st:List B64×Nat):Prop where
 len:st.1.length=25
 lt:st.2<136
theorem zjT {st:List B64×Nat}(b:UInt8)(h:StOK st):StOK (vF st b):=by
 unfold vF;split
 ·exact ⟨zeL (vG _ _ h.len),(by decide:0<136)⟩
 ·exact ⟨vG _ _ h.len,by have:=h.lt;simp only;omega⟩
theorem takeB_ok: ∀(l:List UInt8) {st:List B64×Nat},StOK st→StOK (takeB st l)
 | [],_,h=>h
 | b::l,st,h=>takeB_ok l (zjT b h)
theorem takeB_append (st:List B64×Nat)(l m:List UInt8):takeB st (l++m)=takeB (takeB st l) m:=by unfold takeB;exact List.foldl_append
theorem zjU (st:List B64×Nat)(l:List UInt8)(b:UInt8):takeB st (l++ [b])=vF (takeB st l) b:=by rw [takeB_append];rfl
theorem zero_ok:StOK (zeroS,0):=⟨by decide,by decide⟩
theorem zjV (s:List B64):(firstB s).length=32:=by unfold firstB;simp
theorem sumB_len (l:List UInt8):(sumB l).length=32:=zjV _
end Go.Proofs.Kec
namespace Go.Proofs.YthonokeibcodpaaGreatDoor.Ke
open Go Go.RowKit Go.Proofs.Kec
set_option linter.unusedVariables false
theorem zjW (x:BitVec 64)(n:Nat)(h:n<64):x <<< n ||| x >>> (64-n)=rl x n:=by
 unfold rl BitVec.rotateLeft BitVec.rotateLeftAux;rw [Nat.mod_eq_of_lt h]
theorem zjX (n:Nat)(h:n<64):Value.int .u64 (Go.bits .and .u64 (n:Int) 63)=.int .u64 (n:Int):=by
 rw [show (63:Int)=((63:Nat):Int) from rfl,u64_and_nat n 63 (by omega) (by omega),show (63:Nat)=2^6-1 from rfl,Nat.and_two_pow_sub_one_eq_mod,Nat.mod_eq_of_lt (by omega)]
theorem zjY (x:BitVec 64)(n:Nat)(hn:n<64):Fn Tryz.prog 100 #[.int .u64 (BitVec.toNat x:Int),.int .i64 (n:Int)] (.int .u64 (BitVec.toNat (rl x n):Int)):=by
 refine Fn.intro (c:=zf Tryz.f100) [.tmp 4] 17 Tryz.func100 kr kr kr fun w=>?_;have H0:=St.start w;refine rS [.v] H0 kr fun gs1 w1 H1=>?_;clear H0;refine rS [.v,.E (.int .u64 (IntKind.u64.wrap ((n:Int)))) (.int .u64 (n:Int)) (zo (xl (a:=n) (by omega))),.E (.int .u64 (Go.bits .and .u64 (n:Int) 63)) (.int .u64 (n:Int)) (zjX n hn),.v] H1 kr fun gs2 w2 H2=>?_;clear H1;refine rS [.v,.v,.E (.int .u64 (IntKind.u64.wrap (((BitVec.toNat x:Int))*2^(min n 64)))) (.int .u64 (BitVec.toNat (x <<< n):Int)) (zcT x n),.v,.v,.E (.int .u64 (IntKind.u64.wrap (64-(n:Int)))) (.int .u64 ((64-n:Nat):Int)) (zo (zgw (a:=64) (b:=n) (by omega))),.E (.int .u64 (Int.fdiv ((BitVec.toNat x:Int)) (2^(min (64-n) 64)))) (.int .u64 (BitVec.toNat (x >>> (64-n)):Int)) (zcU x (64-n)),.E (.int .u64 (Go.bits .or .u64 ((BitVec.toNat (x <<< n):Int)) ((BitVec.toNat (x >>> (64-n)):Int)))) (.int .u64 (BitVec.toNat ((x <<< n) ||| (x >>> (64-n))):Int)) (zgz (x <<< n) (x >>> (64-n))),.v] H2 kr fun gs3 w3 H3=>?_;clear H2;refine zk kr<|wV ?_;refine ⟨[.int .u64 (BitVec.toNat ((x <<< n) ||| (x >>> (64-n))):Int)],(.tmp (.int .u64 (BitVec.toNat ((x <<< n) ||| (x >>> (64-n))):Int)) kr .nil),?_,H3.below⟩;rw [←zjW x n hn];rfl
theorem yd (x:BitVec 64)(n:Nat)(hn:n<64):Fn Tryz.prog 89 #[.int .u64 (BitVec.toNat x:Int),.int .i64 (n:Int)] (.int .u64 (BitVec.toNat (rl x n):Int)):=by
 refine Fn.intro (c:=zf Tryz.f89) [.tmp 4] 8 Tryz.func89 kr kr kr fun w=>?_;have H0:=St.start w;refine rS [.v] H0 kr fun gs1 w1 H1=>?_;clear H0;refine rS [.v,.v,.c (zjY x n (by omega)),.v] H1 kr fun gs2 w2 H2=>?_;clear H1;refine zk kr<|wV ?_;refine ⟨[.int .u64 (BitVec.toNat (rl x n):Int)],(.tmp (.int .u64 (BitVec.toNat (rl x n):Int)) kr .nil),?_,H2.below⟩;rfl
theorem vH (xa xb xc xd xe:BitVec 64):Fn Tryz.prog 90 #[.int .u64 (BitVec.toNat xa:Int),.int .u64 (BitVec.toNat xb:Int),.int .u64 (BitVec.toNat xc:Int),.int .u64 (BitVec.toNat xd:Int),.int .u64 (BitVec.toNat xe:Int)] (.tuple #[.int .u64 (BitVec.toNat (kD xa xb xc):Int),.int .u64 (BitVec.toNat (kD xb xc xd):Int),.int .u64 (BitVec.toNat (kD xc xd xe):Int),.int .u64 (BitVec.toNat (kD xd xe xa):Int),.int .u64 (BitVec.toNat (kD xe xa xb):Int)]):=by
 refine Fn.intro (c:=zf Tryz.f90) [.tmp 10,.tmp 11,.tmp 12,.tmp 13,.tmp 14] 40 Tryz.func90 kr kr kr fun w=>?_;have H0:=St.start w;refine rS [.v,.v,.v,.v,.v] H0 kr fun gs1 w1 H1=>?_;clear H0;refine rS [.v,.v,.v,.E (.int .u64 (Go.bits .andNot .u64 ((BitVec.toNat xc:Int)) ((BitVec.toNat xb:Int)))) (.int .u64 (BitVec.toNat (xc &&& ~~~xb):Int)) (ve xc xb),.E (.int .u64 (Go.bits .xor .u64 ((BitVec.toNat xa:Int)) ((BitVec.toNat (xc &&& ~~~xb):Int)))) (.int .u64 (BitVec.toNat (xa ^^^ (xc &&& ~~~xb)):Int)) (zu xa (xc &&& ~~~xb)),.v,.v,.v,.E (.int .u64 (Go.bits .andNot .u64 ((BitVec.toNat xd:Int)) ((BitVec.toNat xc:Int)))) (.int .u64 (BitVec.toNat (xd &&& ~~~xc):Int)) (ve xd xc),.E (.int .u64 (Go.bits .xor .u64 ((BitVec.toNat xb:Int)) ((BitVec.toNat (xd &&& ~~~xc):Int)))) (.int .u64 (BitVec.toNat (xb ^^^ (xd &&& ~~~xc)):Int)) (zu xb (xd &&& ~~~xc)),.v,.v,.v,.E (.int .u64 (Go.bits .andNot .u64 ((BitVec.toNat xe:Int)) ((BitVec.toNat xd:Int)))) (.int .u64 (BitVec.toNat (xe &&& ~~~xd):Int)) (ve xe xd),.E (.int .u64 (Go.bits .xor .u64 ((BitVec.toNat xc:Int)) ((BitVec.toNat (xe &&& ~~~xd):Int)))) (.int .u64 (BitVec.toNat (xc ^^^ (xe &&& ~~~xd)):Int)) (zu xc (xe &&& ~~~xd)),.v,.v,.v,.E (.int .u64 (Go.bits .andNot .u64 ((BitVec.toNat xa:Int)) ((BitVec.toNat xe:Int)))) (.int .u64 (BitVec.toNat (xa &&& ~~~xe):Int)) (ve xa xe),.E (.int .u64 (Go.bits .xor .u64 ((BitVec.toNat xd:Int)) ((BitVec.toNat (xa &&& ~~~xe):Int)))) (.int .u64 (BitVec.toNat (xd ^^^ (xa &&& ~~~xe)):Int)) (zu xd (xa &&& ~~~xe)),.v,.v,.v,.E (.int .u64 (Go.bits .andNot .u64 ((BitVec.toNat xb:Int)) ((BitVec.toNat xa:Int)))) (.int .u64 (BitVec.toNat (xb &&& ~~~xa):Int)) (ve xb xa),.E (.int .u64 (Go.bits .xor .u64 ((BitVec.toNat xe:Int)) ((BitVec.toNat (xb &&& ~~~xa):Int)))) (.int .u64 (BitVec.toNat (xe ^^^ (xb &&& ~~~xa)):Int)) (zu xe (xb &&& ~~~xa)),.v,.v,.v,.v,.v] H1 kr fun gs2 w2 H2=>?_;clear H1;refine zk kr<|wV ?_;refine ⟨[.int .u64 (BitVec.toNat (xa ^^^ (xc &&& ~~~xb)):Int),.int .u64 (BitVec.toNat (xb ^^^ (xd &&& ~~~xc)):Int),.int .u64 (BitVec.toNat (xc ^^^ (xe &&& ~~~xd)):Int),.int .u64 (BitVec.toNat (xd ^^^ (xa &&& ~~~xe)):Int),.int .u64 (BitVec.toNat (xe ^^^ (xb &&& ~~~xa)):Int)],(.tmp (.int .u64 (BitVec.toNat (xa ^^^ (xc &&& ~~~xb)):Int)) kr (.tmp (.int .u64 (BitVec.toNat (xb ^^^ (xd &&& ~~~xc)):Int)) kr (.tmp (.int .u64 (BitVec.toNat (xc ^^^ (xe &&& ~~~xd)):Int)) kr (.tmp (.int .u64 (BitVec.toNat (xd ^^^ (xa &&& ~~~xe)):Int)) kr (.tmp (.int .u64 (BitVec.toNat (xe ^^^ (xb &&& ~~~xa)):Int)) kr .nil))))),?_,H2.below⟩;rfl
def svn (s:List (BitVec 64)):Value:=.agg #[.int .u64 (BitVec.toNat (nth s 0):Int),.int .u64 (BitVec.toNat (nth s 1):Int),.int .u64 (BitVec.toNat (nth s 2):Int),.int .u64 (BitVec.toNat (nth s 3):Int),.int .u64 (BitVec.toNat (nth s 4):Int),.int .u64 (BitVec.toNat (nth s 5):Int),.int .u64 (BitVec.toNat (nth s 6):Int),.int .u64 (BitVec.toNat (nth s 7):Int),.int .u64 (BitVec.toNat (nth s 8):Int),.int .u64 (BitVec.toNat (nth s 9):Int),.int .u64 (BitVec.toNat (nth s 10):Int),.int .u64 (BitVec.toNat (nth s 11):Int),.int .u64 (BitVec.toNat (nth s 12):Int),.int .u64 (BitVec.toNat (nth s 13):Int),.int .u64 (BitVec.toNat (nth s 14):Int),.int .u64 (BitVec.toNat (nth s 15):Int),.int .u64 (BitVec.toNat (nth s 16):Int),.int .u64 (BitVec.toNat (nth s 17):Int),.int .u64 (BitVec.toNat (nth s 18):Int),.int .u64 (BitVec.toNat (nth s 19):Int),.int .u64 (BitVec.toNat (nth s 20):Int),.int .u64 (BitVec.toNat (nth s 21):Int),.int .u64 (BitVec.toNat (nth s 22):Int),.int .u64 (BitVec.toNat (nth s 23):Int),.int .u64 (BitVec.toNat (nth s 24):Int)]
theorem rl0 (x:BitVec 64):rl x 0=x:=by
 apply BitVec.eq_of_getLsbD_eq;intro i hi;rw [zjP _ _ _ hi];congr 1;omega
theorem pI0 (s:List (BitVec 64)):pI s 0=th s 0:=rl0 _
theorem zjZ (s:List (BitVec 64)):Fn Tryz.prog 90 #[.int .u64 (BitVec.toNat (th s 0):Int),.int .u64 (BitVec.toNat (pI s 1):Int),.int .u64 (BitVec.toNat (pI s 2):Int),.int .u64 (BitVec.toNat (pI s 3):Int),.int .u64 (BitVec.toNat (pI s 4):Int)] (.tuple #[.int .u64 (BitVec.toNat (xI (pI s) 0):Int),.int .u64 (BitVec.toNat (xI (pI s) 1):Int),.int .u64 (BitVec.toNat (xI (pI s) 2):Int),.int .u64 (BitVec.toNat (xI (pI s) 3):Int),.int .u64 (BitVec.toNat (xI (pI s) 4):Int)]):=by
 rw [←pI0 s];exact vH (pI s 0) (pI s 1) (pI s 2) (pI s 3) (pI s 4)
theorem zj0 (s:List (BitVec 64)):Fn Tryz.prog 74 #[svn s] (svn (rnd s)):=by
 refine Fn.intro (c:=zf Tryz.f74) [.cell 2 96] 288 Tryz.func74 kr kr kr fun w=>?_;have H0:=St.start w;refine rS [.b,.a] H0 kr fun gs1 w1 H1=>?_;clear H0;refine rS [.v,.l 0,.v,.l 0,.E (.int .u64 (Go.bits .xor .u64 ((BitVec.toNat (nth s 0):Int)) ((BitVec.toNat (nth s 5):Int)))) (.int .u64 (BitVec.toNat ((nth s 0) ^^^ (nth s 5)):Int)) (zu (nth s 0) (nth s 5)),.v,.l 0,.E (.int .u64 (Go.bits .xor .u64 ((BitVec.toNat ((nth s 0) ^^^ (nth s 5)):Int)) ((BitVec.toNat (nth s 10):Int)))) (.int .u64 (BitVec.toNat (((nth s 0) ^^^ (nth s 5)) ^^^ (nth s 10)):Int)) (zu ((nth s 0) ^^^ (nth s 5)) (nth s 10)),.v,.l 0,.E (.int .u64 (Go.bits .xor .u64 ((BitVec.toNat (((nth s 0) ^^^ (nth s 5)) ^^^ (nth s 10)):Int)) ((BitVec.toNat (nth s 15):Int)))) (.int .u64 (BitVec.toNat ((((nth s 0) ^^^ (nth s 5)) ^^^ (nth s 10)) ^^^ (nth s 15)):Int)) (zu (((nth s 0) ^^^ (nth s 5)) ^^^ (nth s 10)) (nth s 15)),.v,.l 0,.E (.int .u64 (Go.bits .xor .u64 ((BitVec.toNat ((((nth s 0) ^^^ (nth s 5)) ^^^ (nth s 10)) ^^^ (nth s 15)):Int)) ((BitVec.toNat (nth s 20):Int)))) (.int .u64 (BitVec.toNat (cC s 0):Int)) (zu ((((nth s 0) ^^^ (nth s 5)) ^^^ (nth s 10)) ^^^ (nth s 15)) (nth s 20)),.v] H1 kr fun gs2 w2 H2=>?_;clear H1;refine yb [0,1,2,3] fun ρ1=>?_;have HK1:=H2.keep;clear H2;refine rS [.v,.l 0,.v,.l 0,.E (.int .u64 (Go.bits .xor .u64 ((BitVec.toNat (nth s 1):Int)) ((BitVec.toNat (nth s 6):Int)))) (.int .u64 (BitVec.toNat ((nth s 1) ^^^ (nth s 6)):Int)) (zu (nth s 1) (nth s 6)),.v,.l 0,.E (.int .u64 (Go.bits .xor .u64 ((BitVec.toNat ((nth s 1) ^^^ (nth s 6)):Int)) ((BitVec.toNat (nth s 11):Int)))) (.int .u64 (BitVec.toNat (((nth s 1) ^^^ (nth s 6)) ^^^ (nth s 11)):Int)) (zu ((nth s 1) ^^^ (nth s 6)) (nth s 11)),.v,.l 0,.E (.int .u64 (Go.bits .xor .u64 ((BitVec.toNat (((nth s 1) ^^^ (nth s 6)) ^^^ (nth s 11)):Int)) ((BitVec.toNat (nth s 16):Int)))) (.int .u64 (BitVec.toNat ((((nth s 1) ^^^ (nth s 6)) ^^^ (nth s 11)) ^^^ (nth s 16)):Int)) (zu (((nth s 1) ^^^ (nth s 6)) ^^^ (nth s 11)) (nth s 16)),.v,.l 0,.E (.int .u64 (Go.bits .xor .u64 ((BitVec.toNat ((((nth s 1) ^^^ (nth s 6)) ^^^ (nth s 11)) ^^^ (nth s 16)):Int)) ((BitVec.toNat (nth s 21):Int)))) (.int .u64 (BitVec.toNat (cC s 1):Int)) (zu ((((nth s 1) ^^^ (nth s 6)) ^^^ (nth s 11)) ^^^ (nth s 16)) (nth s 21)),.v] HK1 kr fun gs3 w3 H3=>?_;clear HK1;refine rS [.v,.l 0,.v,.l 0,.E (.int .u64 (Go.bits .xor .u64 ((BitVec.toNat (nth s 2):Int)) ((BitVec.toNat (nth s 7):Int)))) (.int .u64 (BitVec.toNat ((nth s 2) ^^^ (nth s 7)):Int)) (zu (nth s 2) (nth s 7)),.v,.l 0,.E (.int .u64 (Go.bits .xor .u64 ((BitVec.toNat ((nth s 2) ^^^ (nth s 7)):Int)) ((BitVec.toNat (nth s 12):Int)))) (.int .u64 (BitVec.toNat (((nth s 2) ^^^ (nth s 7)) ^^^ (nth s 12)):Int)) (zu ((nth s 2) ^^^ (nth s 7)) (nth s 12)),.v,.l 0,.E (.int .u64 (Go.bits .xor .u64 ((BitVec.toNat (((nth s 2) ^^^ (nth s 7)) ^^^ (nth s 12)):Int)) ((BitVec.toNat (nth s 17):Int)))) (.int .u64 (BitVec.toNat ((((nth s 2) ^^^ (nth s 7)) ^^^ (nth s 12)) ^^^ (nth s 17)):Int)) (zu (((nth s 2) ^^^ (nth s 7)) ^^^ (nth s 12)) (nth s 17)),.v,.l 0,.E (.int .u64 (Go.bits .xor .u64 ((BitVec.toNat ((((nth s 2) ^^^ (nth s 7)) ^^^ (nth s 12)) ^^^ (nth s 17)):Int)) ((BitVec.toNat (nth s 22):Int)))) (.int .u64 (BitVec.toNat (cC s 2):Int)) (zu ((((nth s 2) ^^^ (nth s 7)) ^^^ (nth s 12)) ^^^ (nth s 17)) (nth s 22)),.v] H3 kr fun gs4 w4 H4=>?_;clear H3;refine yb [0,1,2,3,4,5] fun ρ2=>?_;have HK2:=H4.keep;clear H4;refine rS [.v,.l 0,.v,.l 0,.E (.int .u64 (Go.bits .xor .u64 ((BitVec.toNat (nth s 3):Int)) ((BitVec.toNat (nth s 8):Int)))) (.int .u64 (BitVec.toNat ((nth s 3) ^^^ (nth s 8)):Int)) (zu (nth s 3) (nth s 8)),.v,.l 0,.E (.int .u64 (Go.bits .xor .u64 ((BitVec.toNat ((nth s 3) ^^^ (nth s 8)):Int)) ((BitVec.toNat (nth s 13):Int)))) (.int .u64 (BitVec.toNat (((nth s 3) ^^^ (nth s 8)) ^^^ (nth s 13)):Int)) (zu ((nth s 3) ^^^ (nth s 8)) (nth s 13)),.v,.l 0,.E (.int .u64 (Go.bits .xor .u64 ((BitVec.toNat (((nth s 3) ^^^ (nth s 8)) ^^^ (nth s 13)):Int)) ((BitVec.toNat (nth s 18):Int)))) (.int .u64 (BitVec.toNat ((((nth s 3) ^^^ (nth s 8)) ^^^ (nth s 13)) ^^^ (nth s 18)):Int)) (zu (((nth s 3) ^^^ (nth s 8)) ^^^ (nth s 13)) (nth s 18)),.v,.l 0,.E (.int .u64 (Go.bits .xor .u64 ((BitVec.toNat ((((nth s 3) ^^^ (nth s 8)) ^^^ (nth s 13)) ^^^ (nth s 18)):Int)) ((BitVec.toNat (nth s 23):Int)))) (.int .u64 (BitVec.toNat (cC s 3):Int)) (zu ((((nth s 3) ^^^ (nth s 8)) ^^^ (nth s 13)) ^^^ (nth s 18)) (nth s 23)),.v] HK2 kr fun gs5 w5 H5=>?_;clear HK2;refine rS [.v,.l 0,.v,.l 0,.E (.int .u64 (Go.bits .xor .u64 ((BitVec.toNat (nth s 4):Int)) ((BitVec.toNat (nth s 9):Int)))) (.int .u64 (BitVec.toNat ((nth s 4) ^^^ (nth s 9)):Int)) (zu (nth s 4) (nth s 9)),.v,.l 0,.E (.int .u64 (Go.bits .xor .u64 ((BitVec.toNat ((nth s 4) ^^^ (nth s 9)):Int)) ((BitVec.toNat (nth s 14):Int)))) (.int .u64 (BitVec.toNat (((nth s 4) ^^^ (nth s 9)) ^^^ (nth s 14)):Int)) (zu ((nth s 4) ^^^ (nth s 9)) (nth s 14)),.v,.l 0,.E (.int .u64 (Go.bits .xor .u64 ((BitVec.toNat (((nth s 4) ^^^ (nth s 9)) ^^^ (nth s 14)):Int)) ((BitVec.toNat (nth s 19):Int)))) (.int .u64 (BitVec.toNat ((((nth s 4) ^^^ (nth s 9)) ^^^ (nth s 14)) ^^^ (nth s 19)):Int)) (zu (((nth s 4) ^^^ (nth s 9)) ^^^ (nth s 14)) (nth s 19)),.v,.l 0,.E (.int .u64 (Go.bits .xor .u64 ((BitVec.toNat ((((nth s 4) ^^^ (nth s 9)) ^^^ (nth s 14)) ^^^ (nth s 19)):Int)) ((BitVec.toNat (nth s 24):Int)))) (.int .u64 (BitVec.toNat (cC s 4):Int)) (zu ((((nth s 4) ^^^ (nth s 9)) ^^^ (nth s 14)) ^^^ (nth s 19)) (nth s 24)),.v] H5 kr fun gs6 w6 H6=>?_;clear H5;refine yb [0,1,2,3,4,5,6,7] fun ρ3=>?_;have HK3:=H6.keep;clear H6;refine rS [.v,.v,.c (yd (cC s 1) 1 (by omega)),.E (.int .u64 (Go.bits .xor .u64 ((BitVec.toNat (cC s 4):Int)) ((BitVec.toNat (rl (cC s 1) 1):Int)))) (.int .u64 (BitVec.toNat (dD (cC s) 0):Int)) (zu (cC s 4) (rl (cC s 1) 1)),.v] HK3 kr fun gs7 w7 H7=>?_;clear HK3;refine rS [.v,.v,.c (yd (cC s 2) 1 (by omega)),.E (.int .u64 (Go.bits .xor .u64 ((BitVec.toNat (cC s 0):Int)) ((BitVec.toNat (rl (cC s 2) 1):Int)))) (.int .u64 (BitVec.toNat (dD (cC s) 1):Int)) (zu (cC s 0) (rl (cC s 2) 1)),.v] H7 kr fun gs8 w8 H8=>?_;clear H7;refine rS [.v,.v,.c (yd (cC s 3) 1 (by omega)),.E (.int .u64 (Go.bits .xor .u64 ((BitVec.toNat (cC s 1):Int)) ((BitVec.toNat (rl (cC s 3) 1):Int)))) (.int .u64 (BitVec.toNat (dD (cC s) 2):Int)) (zu (cC s 1) (rl (cC s 3) 1)),.v] H8 kr fun gs9 w9 H9=>?_;clear H8;refine rS [.v,.v,.c (yd (cC s 4) 1 (by omega)),.E (.int .u64 (Go.bits .xor .u64 ((BitVec.toNat (cC s 2):Int)) ((BitVec.toNat (rl (cC s 4) 1):Int)))) (.int .u64 (BitVec.toNat (dD (cC s) 3):Int)) (zu (cC s 2) (rl (cC s 4) 1)),.v] H9 kr fun gs10 w10 H10=>?_;clear H9;refine yb [0,1,2,3,4,5,6,7,8,9,10,11] fun ρ4=>?_;have HK4:=H10.keep;clear H10;refine rS [.v,.v,.c (yd (cC s 0) 1 (by omega)),.E (.int .u64 (Go.bits .xor .u64 ((BitVec.toNat (cC s 3):Int)) ((BitVec.toNat (rl (cC s 0) 1):Int)))) (.int .u64 (BitVec.toNat (dD (cC s) 4):Int)) (zu (cC s 3) (rl (cC s 0) 1)),.v] HK4 kr fun gs11 w11 H11=>?_;clear HK4;refine dS [.v,.l 0,.v,.E (.int .u64 (Go.bits .xor .u64 ((BitVec.toNat (nth s 0):Int)) ((BitVec.toNat (dD (cC s) 0):Int)))) (.int .u64 (BitVec.toNat (th s 0):Int)) (zu (nth s 0) (dD (cC s) 0)),.v,.l 0,.v,.E (.int .u64 (Go.bits .xor .u64 ((BitVec.toNat (nth s 6):Int)) ((BitVec.toNat (dD (cC s) 1):Int)))) (.int .u64 (BitVec.toNat (th s 6):Int)) (zu (nth s 6) (dD (cC s) 1)),.c (yd (th s 6) 44 (by omega)),.v,.l 0,.v,.E (.int .u64 (Go.bits .xor .u64 ((BitVec.toNat (nth s 12):Int)) ((BitVec.toNat (dD (cC s) 2):Int)))) (.int .u64 (BitVec.toNat (th s 12):Int)) (zu (nth s 12) (dD (cC s) 2)),.c (yd (th s 12) 43 (by omega)),.v,.l 0,.v,.E (.int .u64 (Go.bits .xor .u64 ((BitVec.toNat (nth s 18):Int)) ((BitVec.toNat (dD (cC s) 3):Int)))) (.int .u64 (BitVec.toNat (th s 18):Int)) (zu (nth s 18) (dD (cC s) 3)),.c (yd (th s 18) 21 (by omega)),.v,.l 0,.v,.E (.int .u64 (Go.bits .xor .u64 ((BitVec.toNat (nth s 24):Int)) ((BitVec.toNat (dD (cC s) 4):Int)))) (.int .u64 (BitVec.toNat (th s 24):Int)) (zu (nth s 24) (dD (cC s) 4)),.c (yd (th s 24) 14 (by omega)),.c (zjZ s),.v,.v,.v,.v,.v,.v,.v,.s 1,.v,.s 1,.v,.s 1,.v,.s 1,.v,.s 1] H11 kr fun w12 H12=>?_;clear H11;refine yb [0,1,2,3,4,5,6,7,8,9,10,11,12] fun ρ5=>?_;have HK5:=H12.keep;clear H12;refine dS [.v,.l 0,.v,.E (.int .u64 (Go.bits .xor .u64 ((BitVec.toNat (nth s 3):Int)) ((BitVec.toNat (dD (cC s) 3):Int)))) (.int .u64 (BitVec.toNat (th s 3):Int)) (zu (nth s 3) (dD (cC s) 3)),.c (yd (th s 3) 28 (by omega)),.v,.l 0,.v,.E (.int .u64 (Go.bits .xor .u64 ((BitVec.toNat (nth s 9):Int)) ((BitVec.toNat (dD (cC s) 4):Int)))) (.int .u64 (BitVec.toNat (th s 9):Int)) (zu (nth s 9) (dD (cC s) 4)),.c (yd (th s 9) 20 (by omega)),.v,.l 0,.v,.E (.int .u64 (Go.bits .xor .u64 ((BitVec.toNat (nth s 10):Int)) ((BitVec.toNat (dD (cC s) 0):Int)))) (.int .u64 (BitVec.toNat (th s 10):Int)) (zu (nth s 10) (dD (cC s) 0)),.c (yd (th s 10) 3 (by omega)),.v,.l 0,.v,.E (.int .u64 (Go.bits .xor .u64 ((BitVec.toNat (nth s 16):Int)) ((BitVec.toNat (dD (cC s) 1):Int)))) (.int .u64 (BitVec.toNat (th s 16):Int)) (zu (nth s 16) (dD (cC s) 1)),.c (yd (th s 16) 45 (by omega)),.v,.l 0,.v,.E (.int .u64 (Go.bits .xor .u64 ((BitVec.toNat (nth s 22):Int)) ((BitVec.toNat (dD (cC s) 2):Int)))) (.int .u64 (BitVec.toNat (th s 22):Int)) (zu (nth s 22) (dD (cC s) 2)),.c (yd (th s 22) 61 (by omega)),.c (vH (pI s 5) (pI s 6) (pI s 7) (pI s 8) (pI s 9)),.v,.v,.v,.v,.v,.v,.v,.s 1,.v,.s 1,.v,.s 1,.v,.s 1,.v,.s 1] HK5 kr fun w13 H13=>?_;clear HK5;refine yb [0,1,2,3,4,5,6,7,8,9,10,11,12] fun ρ6=>?_;have HK6:=H13.keep;clear H13;refine dS [.v,.l 0,.v,.E (.int .u64 (Go.bits .xor .u64 ((BitVec.toNat (nth s 1):Int)) ((BitVec.toNat (dD (cC s) 1):Int)))) (.int .u64 (BitVec.toNat (th s 1):Int)) (zu (nth s 1) (dD (cC s) 1)),.c (yd (th s 1) 1 (by omega)),.v,.l 0,.v,.E (.int .u64 (Go.bits .xor .u64 ((BitVec.toNat (nth s 7):Int)) ((BitVec.toNat (dD (cC s) 2):Int)))) (.int .u64 (BitVec.toNat (th s 7):Int)) (zu (nth s 7) (dD (cC s) 2)),.c (yd (th s 7) 6 (by omega)),.v,.l 0,.v,.E (.int .u64 (Go.bits .xor .u64 ((BitVec.toNat (nth s 13):Int)) ((BitVec.toNat (dD (cC s) 3):Int)))) (.int .u64 (BitVec.toNat (th s 13):Int)) (zu (nth s 13) (dD (cC s) 3)),.c (yd (th s 13) 25 (by omega)),.v,.l 0,.v,.E (.int .u64 (Go.bits .xor .u64 ((BitVec.toNat (nth s 19):Int)) ((BitVec.toNat (dD (cC s) 4):Int)))) (.int .u64 (BitVec.toNat (th s 19):Int)) (zu (nth s 19) (dD (cC s) 4)),.c (yd (th s 19) 8 (by omega)),.v,.l 0,.v,.E (.int .u64 (Go.bits .xor .u64 ((BitVec.toNat (nth s 20):Int)) ((BitVec.toNat (dD (cC s) 0):Int)))) (.int .u64 (BitVec.toNat (th s 20):Int)) (zu (nth s 20) (dD (cC s) 0)),.c (yd (th s 20) 18 (by omega)),.c (vH (pI s 10) (pI s 11) (pI s 12) (pI s 13) (pI s 14)),.v,.v,.v,.v,.v,.v,.v,.s 1,.v,.s 1,.v,.s 1,.v,.s 1,.v,.s 1] HK6 kr fun w14 H14=>?_;clear HK6;refine yb [0,1,2,3,4,5,6,7,8,9,10,11,12] fun ρ7=>?_;have HK7:=H14.keep;clear H14;refine dS [.v,.l 0,.v,.E (.int .u64 (Go.bits .xor .u64 ((BitVec.toNat (nth s 4):Int)) ((BitVec.toNat (dD (cC s) 4):Int)))) (.int .u64 (BitVec.toNat (th s 4):Int)) (zu (nth s 4) (dD (cC s) 4)),.c (yd (th s 4) 27 (by omega)),.v,.l 0,.v,.E (.int .u64 (Go.bits .xor .u64 ((BitVec.toNat (nth s 5):Int)) ((BitVec.toNat (dD (cC s) 0):Int)))) (.int .u64 (BitVec.toNat (th s 5):Int)) (zu (nth s 5) (dD (cC s) 0)),.c (yd (th s 5) 36 (by omega)),.v,.l 0,.v,.E (.int .u64 (Go.bits .xor .u64 ((BitVec.toNat (nth s 11):Int)) ((BitVec.toNat (dD (cC s) 1):Int)))) (.int .u64 (BitVec.toNat (th s 11):Int)) (zu (nth s 11) (dD (cC s) 1)),.c (yd (th s 11) 10 (by omega)),.v,.l 0,.v,.E (.int .u64 (Go.bits .xor .u64 ((BitVec.toNat (nth s 17):Int)) ((BitVec.toNat (dD (cC s) 2):Int)))) (.int .u64 (BitVec.toNat (th s 17):Int)) (zu (nth s 17) (dD (cC s) 2)),.c (yd (th s 17) 15 (by omega)),.v,.l 0,.v,.E (.int .u64 (Go.bits .xor .u64 ((BitVec.toNat (nth s 23):Int)) ((BitVec.toNat (dD (cC s) 3):Int)))) (.int .u64 (BitVec.toNat (th s 23):Int)) (zu (nth s 23) (dD (cC s) 3)),.c (yd (th s 23) 56 (by omega)),.c (vH (pI s 15) (pI s 16) (pI s 17) (pI s 18) (pI s 19)),.v,.v,.v,.v,.v,.v,.v,.s 1,.v,.s 1,.v,.s 1,.v,.s 1,.v,.s 1] HK7 kr fun w15 H15=>?_;clear HK7;refine yb [0,1,2,3,4,5,6,7,8,9,10,11,12] fun ρ8=>?_;have HK8:=H15.keep;clear H15;refine dS [.v,.l 0,.v,.E (.int .u64 (Go.bits .xor .u64 ((BitVec.toNat (nth s 2):Int)) ((BitVec.toNat (dD (cC s) 2):Int)))) (.int .u64 (BitVec.toNat (th s 2):Int)) (zu (nth s 2) (dD (cC s) 2)),.c (yd (th s 2) 62 (by omega)),.v,.l 0,.v,.E (.int .u64 (Go.bits .xor .u64 ((BitVec.toNat (nth s 8):Int)) ((BitVec.toNat (dD (cC s) 3):Int)))) (.int .u64 (BitVec.toNat (th s 8):Int)) (zu (nth s 8) (dD (cC s) 3)),.c (yd (th s 8) 55 (by omega)),.v,.l 0,.v,.E (.int .u64 (Go.bits .xor .u64 ((BitVec.toNat (nth s 14):Int)) ((BitVec.toNat (dD (cC s) 4):Int)))) (.int .u64 (BitVec.toNat (th s 14):Int)) (zu (nth s 14) (dD (cC s) 4)),.c (yd (th s 14) 39 (by omega)),.v,.l 0,.v,.E (.int .u64 (Go.bits .xor .u64 ((BitVec.toNat (nth s 15):Int)) ((BitVec.toNat (dD (cC s) 0):Int)))) (.int .u64 (BitVec.toNat (th s 15):Int)) (zu (nth s 15) (dD (cC s) 0)),.c (yd (th s 15) 41 (by omega)),.v,.l 0,.v,.E (.int .u64 (Go.bits .xor .u64 ((BitVec.toNat (nth s 21):Int)) ((BitVec.toNat (dD (cC s) 1):Int)))) (.int .u64 (BitVec.toNat (th s 21):Int)) (zu (nth s 21) (dD (cC s) 1)),.c (yd (th s 21) 2 (by omega)),.c (vH (pI s 20) (pI s 21) (pI s 22) (pI s 23) (pI s 24)),.v,.v,.v,.v,.v,.v,.v,.s 1,.v,.s 1,.v,.s 1,.v,.s 1,.v,.s 1] HK8 kr fun w16 H16=>?_;clear HK8;refine yb [0,1,2,3,4,5,6,7,8,9,10,11,12] fun ρ9=>?_;have HK9:=H16.keep;clear H16;refine rS [.l 1,.s 1] HK9 kr fun gs17 w17 H17=>?_;clear HK9;refine zk kr<|wV ?_;refine ⟨[.agg #[.int .u64 (BitVec.toNat (xI (pI s) 0):Int),.int .u64 (BitVec.toNat (xI (pI s) 1):Int),.int .u64 (BitVec.toNat (xI (pI s) 2):Int),.int .u64 (BitVec.toNat (xI (pI s) 3):Int),.int .u64 (BitVec.toNat (xI (pI s) 4):Int),.int .u64 (BitVec.toNat (xI (pI s) 5):Int),.int .u64 (BitVec.toNat (xI (pI s) 6):Int),.int .u64 (BitVec.toNat (xI (pI s) 7):Int),.int .u64 (BitVec.toNat (xI (pI s) 8):Int),.int .u64 (BitVec.toNat (xI (pI s) 9):Int),.int .u64 (BitVec.toNat (xI (pI s) 10):Int),.int .u64 (BitVec.toNat (xI (pI s) 11):Int),.int .u64 (BitVec.toNat (xI (pI s) 12):Int),.int .u64 (BitVec.toNat (xI (pI s) 13):Int),.int .u64 (BitVec.toNat (xI (pI s) 14):Int),.int .u64 (BitVec.toNat (xI (pI s) 15):Int),.int .u64 (BitVec.toNat (xI (pI s) 16):Int),.int .u64 (BitVec.toNat (xI (pI s) 17):Int),.int .u64 (BitVec.toNat (xI (pI s) 18):Int),.int .u64 (BitVec.toNat (xI (pI s) 19):Int),.int .u64 (BitVec.toNat (xI (pI s) 20):Int),.int .u64 (BitVec.toNat (xI (pI s) 21):Int),.int .u64 (BitVec.toNat (xI (pI s) 22):Int),.int .u64 (BitVec.toNat (xI (pI s) 23):Int),.int .u64 (BitVec.toNat (xI (pI s) 24):Int)]],(.agg (b:=(gs1 1).b) #[.int .u64 (BitVec.toNat (xI (pI s) 0):Int),.int .u64 (BitVec.toNat (xI (pI s) 1):Int),.int .u64 (BitVec.toNat (xI (pI s) 2):Int),.int .u64 (BitVec.toNat (xI (pI s) 3):Int),.int .u64 (BitVec.toNat (xI (pI s) 4):Int),.int .u64 (BitVec.toNat (xI (pI s) 5):Int),.int .u64 (BitVec.toNat (xI (pI s) 6):Int),.int .u64 (BitVec.toNat (xI (pI s) 7):Int),.int .u64 (BitVec.toNat (xI (pI s) 8):Int),.int .u64 (BitVec.toNat (xI (pI s) 9):Int),.int .u64 (BitVec.toNat (xI (pI s) 10):Int),.int .u64 (BitVec.toNat (xI (pI s) 11):Int),.int .u64 (BitVec.toNat (xI (pI s) 12):Int),.int .u64 (BitVec.toNat (xI (pI s) 13):Int),.int .u64 (BitVec.toNat (xI (pI s) 14):Int),.int .u64 (BitVec.toNat (xI (pI s) 15):Int),.int .u64 (BitVec.toNat (xI (pI s) 16):Int),.int .u64 (BitVec.toNat (xI (pI s) 17):Int),.int .u64 (BitVec.toNat (xI (pI s) 18):Int),.int .u64 (BitVec.toNat (xI (pI s) 19):Int),.int .u64 (BitVec.toNat (xI (pI s) 20):Int),.int .u64 (BitVec.toNat (xI (pI s) 21):Int),.int .u64 (BitVec.toNat (xI (pI s) 22):Int),.int .u64 (BitVec.toNat (xI (pI s) 23):Int),.int .u64 (BitVec.toNat (xI (pI s) 24):Int)] 96 (0,0) kr (H17.get 1 kr) kr .nil),?_,H17.below⟩;rfl
def marksC:Array Value:=(Kec.marks.map fun m=>Value.int .u64 (BitVec.toNat m:Int)).toArray
def Marks (w:World):Prop:=∃T fz,w.heap[0]? =some (.cells marksC T fz)
theorem zj1 (k q:Nat)(hq:q=k)(h:k<24):marksC[q]? =some (Value.int .u64 (BitVec.toNat (Kec.marks.getD k 0):Int)):=by
 subst hq;have hl:Kec.marks.length=24:=rfl;unfold marksC;simp [hl,h]
def yT (s:List (BitVec 64))(j:Nat):List (BitVec 64):=(Kec.marks.take j).foldl rm s
theorem zj2 (s:List (BitVec 64))(j:Nat)(h:j<24):yT s (j+1)=rm (yT s j) (Kec.marks.getD j 0):=by
 have hl:Kec.marks.length=24:=rfl;unfold yT;rw [List.take_add_one,List.foldl_append,List.getElem?_eq_getElem (by omega)];simp [hl,h]
theorem zj3 (s:List (BitVec 64)):yT s 24=mix s:=by
 unfold yT mix;rw [List.take_of_length_le (by decide)]
theorem yn (s:List (BitVec 64))(m:BitVec 64)(k:Nat):nth (rm s m) (k+1)=nth (rnd s) (k+1):=by
 unfold rm zai nth;simp
theorem zj4 (s:List (BitVec 64))(m:BitVec 64):((Value.cells (svn (rnd s))).toList.take 0++(Value.cells (.int .u64 (BitVec.toNat (nth (rnd s) 0 ^^^ m):Int))).toList++(Value.cells (svn (rnd s))).toList.drop (0+1)).toArray=Value.cells (svn (rm s m)):=by
 have e1:nth (rm s m) 1=nth (rnd s) 1:=yn s m 0;have e2:nth (rm s m) 2=nth (rnd s) 2:=yn s m 1;have e3:nth (rm s m) 3=nth (rnd s) 3:=yn s m 2;have e4:nth (rm s m) 4=nth (rnd s) 4:=yn s m 3;have e5:nth (rm s m) 5=nth (rnd s) 5:=yn s m 4;have e6:nth (rm s m) 6=nth (rnd s) 6:=yn s m 5;have e7:nth (rm s m) 7=nth (rnd s) 7:=yn s m 6;have e8:nth (rm s m) 8=nth (rnd s) 8:=yn s m 7;have e9:nth (rm s m) 9=nth (rnd s) 9:=yn s m 8;have e10:nth (rm s m) 10=nth (rnd s) 10:=yn s m 9;have e11:nth (rm s m) 11=nth (rnd s) 11:=yn s m 10;have e12:nth (rm s m) 12=nth (rnd s) 12:=yn s m 11;have e13:nth (rm s m) 13=nth (rnd s) 13:=yn s m 12;have e14:nth (rm s m) 14=nth (rnd s) 14:=yn s m 13;have e15:nth (rm s m) 15=nth (rnd s) 15:=yn s m 14;have e16:nth (rm s m) 16=nth (rnd s) 16:=yn s m 15;have e17:nth (rm s m) 17=nth (rnd s) 17:=yn s m 16;have e18:nth (rm s m) 18=nth (rnd s) 18:=yn s m 17;have e19:nth (rm s m) 19=nth (rnd s) 19:=yn s m 18;have e20:nth (rm s m) 20=nth (rnd s) 20:=yn s m 19;have e21:nth (rm s m) 21=nth (rnd s) 21:=yn s m 20;have e22:nth (rm s m) 22=nth (rnd s) 22:=yn s m 21;have e23:nth (rm s m) 23=nth (rnd s) 23:=yn s m 22;have e24:nth (rm s m) 24=nth (rnd s) 24:=yn s m 23;have e0:nth (rm s m) 0=nth (rnd s) 0 ^^^ m:=rfl;unfold svn;rw [e0,e1,e2,e3,e4,e5,e6,e7,e8,e9,e10,e11,e12,e13,e14,e15,e16,e17,e18,e19,e20,e21,e22,e23,e24];rfl
theorem zj5 (s:List (BitVec 64))(T:TypeId)(fz:Nat×Nat):FnP Tryz.prog 51 #[svn s] (fun w=>w.heap[0]? =some (.cells marksC T fz)) (svn (mix s)):=by
 refine FnP.intro (c:=zf Tryz.f51) [.cell 2 96] 18 Tryz.func51 kr kr kr fun w hpre=>?_;have H0:=St.start w;refine rS [.b,.a] H0 kr fun gs1 w1 H1=>?_;clear H0;refine zc kr<|rS [.f hpre (zv hpre),.v] H1 kr fun gs2 w2 H2=>?_;clear H1;refine zz 0 kr ?_;have HL1:St w.heap.size w w2 [((gs1 0).b,Obj.cells (Value.cells (svn s)) 96 (0,0)),((gs1 1).b,Obj.cells #[wZ,wZ,wZ,wZ,wZ,wZ,wZ,wZ,wZ,wZ,wZ,wZ,wZ,wZ,wZ,wZ,wZ,wZ,wZ,wZ,wZ,wZ,wZ,wZ,wZ] 96 (0,0))]:=H2.as kr;clear H2;have HM2:St w.heap.size w w2 [((gs1 0).b,Obj.cells (Value.cells (svn (yT s 0))) 96 (0,0)),((gs1 1).b,Obj.cells #[wZ,wZ,wZ,wZ,wZ,wZ,wZ,wZ,wZ,wZ,wZ,wZ,wZ,wZ,wZ,wZ,wZ,wZ,wZ,wZ,wZ,wZ,wZ,wZ,wZ] 96 (0,0))]:=HL1;refine yW kr (fun mz ρ ww=> ∃(j:Nat),24-j=mz∧(j≤24)∧St w.heap.size w ww [((gs1 0).b,Obj.cells (Value.cells (svn (yT s j))) 96 (0,0)),((gs1 1).b,Obj.cells #[wZ,wZ,wZ,wZ,wZ,wZ,wZ,wZ,wZ,wZ,wZ,wZ,wZ,wZ,wZ,wZ,wZ,wZ,wZ,wZ,wZ,wZ,wZ,wZ,wZ] 96 (0,0))]∧Is [(0,svn s),(1,.pointer (some ⟨(gs1 0).b,0,none⟩)),(2,.pointer (some ⟨(gs1 1).b,0,none⟩)),(5,.agg marksC),(6,.int .i64 (j:Int))] ρ) (24-0) ⟨0,rfl,(by omega),HM2,(Is.of ⟨kr,kr,kr,kr,kr,trivial⟩)⟩ ?_;clear HM2;rintro _ _ w3 ⟨j,rfl,hj,H3,_,rfl⟩;by_cases hc3:(j:Nat)<24
 ·refine rS [.E (.bool (decide ((j:Int)<24))) (.bool true) (za (decide_eq_true (by omega)))] H3 kr fun gs4 w4 H4=>?_;clear H3;refine zc kr<|zj kr kr<|zn kr<|wW<|zc kr<|zz 1 kr<|rS [.o (ins:=[((.tmp 5),.agg marksC),((.tmp 6),.int .i64 (j:Int))]) (v:=.int .u64 (BitVec.toNat (List.getD Kec.marks j 0):Int)) (fun ρ o w ho hi=>zgH (t:=134) (e:=22) (kd:=.i64) (n:=24) kr kr kr (x:=(.tmp 5)) (y:=(.tmp 6)) (Value.cells (.agg marksC)) j (.int .u64 (BitVec.toNat (List.getD Kec.marks j 0):Int)) ho hi.1 hi.2.1 (by omega) (zj1 j _ (by omega) (by omega)) w),.v] H4 kr fun gs5 w5 H5=>?_;clear H4;refine rS [.l 0,.c (zj0 (yT s j)),.s 0] H5 kr fun gs6 w6 H6=>?_;clear H5;refine rL [.v,.l 0,.v,.E (.int .u64 (Go.bits .xor .u64 ((BitVec.toNat (nth (rnd (yT s j)) 0):Int)) ((BitVec.toNat (List.getD Kec.marks j 0):Int)))) (.int .u64 (BitVec.toNat ((nth (rnd (yT s j)) 0) ^^^ (List.getD Kec.marks j 0)):Int)) (zu (nth (rnd (yT s j)) 0) (List.getD Kec.marks j 0)),.v,.se (C:=(Value.cells (svn (rnd (yT s j))))) (C':=(Value.cells (svn (rm (yT s j) (List.getD Kec.marks j 0))))) (off:=0) (v:=.int .u64 (BitVec.toNat ((nth (rnd (yT s j)) 0) ^^^ (List.getD Kec.marks j 0)):Int)) 0 (of_decide_eq_true kr) (zj4 (yT s j) (List.getD Kec.marks j 0))] H6 kr fun gs7 w7 H7=>?_;clear H6;refine wW<|rL [.E (.int .i64 (IntKind.i64.wrap ((j:Int)+1))) (.int .i64 ((j+1:Nat):Int)) (zo (qc (a:=j) (b:=1) (by omega))),.v] H7 kr fun gs8 w8 H8=>?_;clear H7;have HL4:St w.heap.size w w8 [((gs1 0).b,Obj.cells (Value.cells (svn (rm (yT s j) (List.getD Kec.marks j 0)))) 96 (0,0)),((gs1 1).b,Obj.cells #[wZ,wZ,wZ,wZ,wZ,wZ,wZ,wZ,wZ,wZ,wZ,wZ,wZ,wZ,wZ,wZ,wZ,wZ,wZ,wZ,wZ,wZ,wZ,wZ,wZ] 96 (0,0))]:=H8.as kr;clear H8;have HM5:St w.heap.size w w8 [((gs1 0).b,Obj.cells (Value.cells (svn (yT s (j+1)))) 96 (0,0)),((gs1 1).b,Obj.cells #[wZ,wZ,wZ,wZ,wZ,wZ,wZ,wZ,wZ,wZ,wZ,wZ,wZ,wZ,wZ,wZ,wZ,wZ,wZ,wZ,wZ,wZ,wZ,wZ,wZ] 96 (0,0))]:=by rw [zj2 s j (by omega)];exact HL4
  show ∃m,_∧_;exact ⟨_,(by omega),(j+1),rfl,(by omega),HM5,(Is.of ⟨kr,kr,kr,kr,kr,trivial⟩)⟩
 ·refine rS [.E (.bool (decide ((j:Int)<24))) (.bool false) (za (decide_eq_false (by omega)))] H3 kr fun gs9 w9 H9=>?_;clear H3;refine zc kr<|zl kr kr<|yv 0 kr<|wW<|rS [.l 0,.s 1] H9 kr fun gs10 w10 H10=>?_;clear H9;refine zk kr<|wV ?_;refine ⟨[svn (yT s j)],(.agg (b:=(gs1 1).b) (Value.cells (svn (yT s j))) 96 (0,0) kr (H10.get 1 kr) kr .nil),?_,H10.below⟩;obtain rfl:j=24:=by omega
  exact congrArg svn (zj3 s)
theorem mix_fn (s:List (BitVec 64)):FnP Tryz.prog 51 #[svn s] Marks (svn (mix s)):=fun w ⟨T,fz,h⟩=>zj5 s T fz w h
theorem tcd {α:Type}(L:List α)(q:Nat)(x:α)(h:q<L.length):L.take q++ [x]++L.drop (q+1)=L.set q x:=by
 rw [List.set_eq_take_append_cons_drop,if_pos h,List.append_assoc];rfl
theorem zbK (s:List (BitVec 64)):Value.cells (svn s)=((List.range 25).map fun k=>Value.int .u64 (BitVec.toNat (nth s k):Int)).toArray:=rfl
theorem zbL (s:List (BitVec 64))(k q:Nat)(hq:q=k)(hk:k<25):(Value.cells (svn s))[q]? =some (Value.int .u64 (BitVec.toNat (nth s k):Int)):=by
 subst hq;rw [zbK];simp [hk]
theorem zeM (s:List (BitVec 64))(k j:Nat)(x:BitVec 64)(hk:k<s.length):nth (s.set k x) j=if j=k then x else nth s j:=by
 unfold nth;rw [List.getD_eq_getElem?_getD,List.getD_eq_getElem?_getD,List.getElem?_set];by_cases h:k=j
 ·subst h;simp [hk]
 ·rw [if_neg h,if_neg (fun e=>h e.symm)]
theorem zbM (s:List (BitVec 64))(k q:Nat)(x:BitVec 64)(hs:s.length=25)(hq:q=k)(hk:k<25):
 ((Value.cells (svn s)).toList.take q++(Value.cells (.int .u64 (BitVec.toNat x:Int))).toList++(Value.cells (svn s)).toList.drop (q+(Value.cells (.int .u64 (BitVec.toNat x:Int))).size)).toArray=Value.cells (svn (s.set k x)):=by
 subst hq;rw [zbK,zbK];congr 1;show List.take q _++ [Value.int .u64 (BitVec.toNat x:Int)]++List.drop (q+1) _=_;rw [tcd _ q _ (by simpa using hk)];apply List.ext_getElem?;intro j;rw [List.toList_toArray];rw [List.getElem?_set];by_cases h:q=j
 ·subst h;simp [hk,zeM s q q x (by omega)]
 ·by_cases hj:j<25
  ·simp [h,hj,zeM s q j x (by omega),show ¬j=q from fun e=>h e.symm]
  ·simp [h,hj]
theorem Marks.oldB {B:Nat}{w0 w:World}(HS:Below B w0 w)(hB:B=w0.heap.size)(h:Marks w0):Marks w:=by
 obtain ⟨T,fz,h⟩:=h;exact ⟨T,fz,by rw [HS.block 0 (by rw [hB];exact zv h)];exact h⟩
theorem zeN {s s1:List (BitVec 64)}{n n1 k:Nat}{t:ByteArray}(h:takeB (s,n) ((tl t).take k)=(s1,n1))(hk:k<ByteArray.size t):
 takeB (s,n) ((tl t).take (k+1))=(if n1+1=136 then (mix (lay s1 n1 (BitVec.ofNat 64 (by_ t k))),0) else (lay s1 n1 (BitVec.ofNat 64 (by_ t k)),n1+1)):=by
 have hk':k<(tl t).length:=hk;rw [List.take_add_one,List.getElem?_eq_getElem hk',Option.toList_some,zjU,h];unfold vF zbJ by_;rw [List.getD_eq_getElem?_getD,List.getElem?_eq_getElem hk',Option.getD_some]
theorem zbN (b i:Nat)(hi:i<1000):Fn Tryz.prog 73 #[.int .u8 (b:Int),.int .i64 (i:Int)] (.int .u64 (BitVec.toNat (qo (BitVec.ofNat 64 b) i):Int)):=by
 refine Fn.intro (c:=zf Tryz.f73) [.tmp 4] 11 Tryz.func73 kr kr kr fun w=>?_;have H0:=St.start w;refine rS [.v] H0 kr fun gs1 w1 H1=>?_;clear H0;refine rS [.v,.E (.int .u64 (IntKind.u64.wrap (b:Int))) (.int .u64 (BitVec.toNat (BitVec.ofNat 64 b):Int)) (zgA b),.v,.E (.int .i64 (Int.tmod (i:Int) 8)) (.int .i64 ((i%8:Nat):Int)) (zo (zcR i 8)),.E (.int .i64 (IntKind.i64.wrap (((i%8:Nat):Int)*8))) (.int .i64 (((i%8)*8:Nat):Int)) (zo (zcP (a:=i%8) (b:=8) (by omega))),.E (.int .u64 (IntKind.u64.wrap (((BitVec.toNat (BitVec.ofNat 64 b):Int))*2^(min ((i%8)*8) 64)))) (.int .u64 (BitVec.toNat ((BitVec.ofNat 64 b) <<< ((i%8)*8)):Int)) (zcT (BitVec.ofNat 64 b) ((i%8)*8)),.v] H1 kr fun gs2 w2 H2=>?_;clear H1;refine zk kr<|wV ?_;refine ⟨[.int .u64 (BitVec.toNat ((BitVec.ofNat 64 b) <<< ((i%8)*8)):Int)],(.tmp (.int .u64 (BitVec.toNat ((BitVec.ofNat 64 b) <<< ((i%8)*8)):Int)) kr .nil),?_,H2.below⟩;rfl
theorem zj6 (s:List (BitVec 64))(n:Nat)(t:ByteArray)(hs:s.length=25)(hn:n<136)(ht:ByteArray.size t<0x4000000000000000):FnP Tryz.prog 49 #[svn s,.int .i64 (n:Int),.string t] (Marks) (.tuple #[svn (takeB (s,n) (tl t)).1,.int .i64 (((takeB (s,n) (tl t)).2:Nat):Int)]):=by
 refine FnP.intro (c:=zf Tryz.f49) [.cell 6 96,.tmp 7] 34 Tryz.func49 kr kr kr fun w hpre=>?_;have H0:=St.start w;refine rS [.b,.a,.v] H0 kr fun gs1 w1 H1=>?_;clear H0;refine zc kr<|rS [.v,.v,.v] H1 kr fun gs2 w2 H2=>?_;clear H1;refine zz 0 kr ?_;have HL1:St w.heap.size w w2 [((gs1 0).b,Obj.cells (Value.cells (svn s)) 96 (0,0)),((gs1 1).b,Obj.cells #[wZ,wZ,wZ,wZ,wZ,wZ,wZ,wZ,wZ,wZ,wZ,wZ,wZ,wZ,wZ,wZ,wZ,wZ,wZ,wZ,wZ,wZ,wZ,wZ,wZ] 96 (0,0))]:=H2.as kr;clear H2;refine yW kr (fun mz ρ ww=> ∃(s1:List (BitVec 64)) (n1:Nat) (k:Nat),ByteArray.size t-k=mz∧(s1.length=25)∧(n1<136)∧(k≤ByteArray.size t)∧(takeB (s,n) ((tl t).take k)=(s1,n1))∧St w.heap.size w ww [((gs1 0).b,Obj.cells (Value.cells (svn s1)) 96 (0,0)),((gs1 1).b,Obj.cells #[wZ,wZ,wZ,wZ,wZ,wZ,wZ,wZ,wZ,wZ,wZ,wZ,wZ,wZ,wZ,wZ,wZ,wZ,wZ,wZ,wZ,wZ,wZ,wZ,wZ] 96 (0,0))]∧Is [(0,svn s),(1,.int .i64 (n1:Int)),(2,.string t),(3,.pointer (some ⟨(gs1 0).b,0,none⟩)),(6,.pointer (some ⟨(gs1 1).b,0,none⟩)),(7,.int .i64 0),(10,.int .i64 (ByteArray.size t:Int)),(11,.int .i64 (k:Int))] ρ) (ByteArray.size t-0) ⟨s,n,0,rfl,hs,hn,(by omega),rfl,HL1,(Is.of ⟨kr,kr,kr,kr,kr,kr,kr,kr,trivial⟩)⟩ ?_;clear HL1;rintro _ _ w3 ⟨s1,n1,k,rfl,hs1,hn1,hk,htk,H3,_,rfl⟩;have hbl:=jj t k;by_cases hc2:(k:Nat)<ByteArray.size t
 ·refine rS [.E (.bool (decide ((k:Int)<(ByteArray.size t:Int)))) (.bool true) (za (decide_eq_true (by omega)))] H3 kr fun gs4 w4 H4=>?_;clear H3;refine zc kr<|zj kr kr<|zn kr<|wW<|zc kr<|zz 1 kr<|rS [.v,.v] H4 kr fun gs5 w5 H5=>?_;clear H4;refine dS [.v,.E (.int .i64 (IntKind.i64.wrap ((n1:Int).tdiv 8))) (.int .i64 ((n1 / 8:Nat):Int)) (zo (zaX (a:=n1) (b:=8) (by omega))),.o (ins:=[((.tmp 3),.pointer (some ⟨(gs1 0).b,0,none⟩)),((.tmp 15),.int .i64 ((n1 / 8:Nat):Int))]) (v:=.pointer (some ⟨(gs1 0).b,0+(n1 / 8)*1,none⟩)) (fun ρ o w ho hi=>kg (kd:=.i64) (t:=96) (n:=25) (size:=1) kr (x:=(.tmp 3)) (y:=(.tmp 15)) (gs1 0).b 0 (n1 / 8) ho hi.1 hi.2.1 (by omega) w),.ls (C:=(Value.cells (svn s1))) (off:=0+(n1 / 8)*1) (v:=.int .u64 (BitVec.toNat (nth s1 (n1 / 8)):Int)) 0 (zbL s1 (n1 / 8) _ (by omega) (by omega)),.v,.v,.o (ins:=[((.tmp 18),.string t),((.tmp 19),.int .i64 (k:Int))]) (v:=.int .u8 ((by_ t k:Nat):Int)) (fun ρ o w ho hi=>qL (t:=9) (kd:=.i64) kr (x:=(.tmp 18)) (y:=(.tmp 19)) t k ho hi.1 hi.2.1 (by omega) w),.v,.c (zbN (by_ t k) n1 (by omega)),.E (.int .u64 (Go.bits .xor .u64 ((BitVec.toNat (nth s1 (n1 / 8)):Int)) ((BitVec.toNat (qo (BitVec.ofNat 64 (by_ t k)) n1):Int)))) (.int .u64 (BitVec.toNat ((nth s1 (n1 / 8)) ^^^ (qo (BitVec.ofNat 64 (by_ t k)) n1)):Int)) (zu (nth s1 (n1 / 8)) (qo (BitVec.ofNat 64 (by_ t k)) n1)),.o (ins:=[((.tmp 3),.pointer (some ⟨(gs1 0).b,0,none⟩)),((.tmp 15),.int .i64 ((n1 / 8:Nat):Int))]) (v:=.pointer (some ⟨(gs1 0).b,0+(n1 / 8)*1,none⟩)) (fun ρ o w ho hi=>kg (kd:=.i64) (t:=96) (n:=25) (size:=1) kr (x:=(.tmp 3)) (y:=(.tmp 15)) (gs1 0).b 0 (n1 / 8) ho hi.1 hi.2.1 (by omega) w),.se (C:=(Value.cells (svn s1))) (C':=(Value.cells (svn (lay s1 n1 (BitVec.ofNat 64 (by_ t k)))))) (off:=0+(n1 / 8)*1) (v:=.int .u64 (BitVec.toNat ((nth s1 (n1 / 8)) ^^^ (qo (BitVec.ofNat 64 (by_ t k)) n1)):Int)) 0 (by show _+1≤25;omega) (zbM s1 (n1 / 8) _ ((nth s1 (n1 / 8)) ^^^ (qo (BitVec.ofNat 64 (by_ t k)) n1)) hs1 (by omega) (by omega))] H5 kr fun w6 H6=>?_;clear H5;refine yb [0,1,2,3,6,7,8,10,11,12] fun ρ1=>?_;have HK3:=H6.keep;clear H6;refine rS [.v,.E (.int .i64 (IntKind.i64.wrap ((n1:Int)+1))) (.int .i64 ((n1+1:Nat):Int)) (zo (qc (a:=n1) (b:=1) (by omega))),.v] HK3 kr fun gs7 w7 H7=>?_;clear HK3;refine zg [0,1] kr kr<|rp [.v] H7 kr fun gs8 w8 H8=>wX [1] ?_;clear H7;by_cases hc4:(n1+1:Nat)=136
  ·refine rp [.E (.bool (((n1+1:Nat):Int)==136)) (.bool true) (za (beq_iff_eq.2 (by omega)))] H8 kr fun gs9 w9 H9=>wX [] ?_;clear H8;refine zb<|zj kr kr<|rL [.l 0,.cp (pre:=Marks) (mix_fn (lay s1 n1 (BitVec.ofNat 64 (by_ t k)))) [] (fun w hb hd=>(Marks.oldB hb rfl hpre)),.s 0,.v] H9 kr fun gs10 w10 H10=>?_;clear H9;refine wW<|rL [.E (.int .i64 (IntKind.i64.wrap ((k:Int)+1))) (.int .i64 ((k+1:Nat):Int)) (zo (qc (a:=k) (b:=1) (by omega))),.v] H10 kr fun gs11 w11 H11=>?_;clear H10;have HL5:St w.heap.size w w11 [((gs1 0).b,Obj.cells (Value.cells (svn (mix (lay s1 n1 (BitVec.ofNat 64 (by_ t k)))))) 96 (0,0)),((gs1 1).b,Obj.cells #[wZ,wZ,wZ,wZ,wZ,wZ,wZ,wZ,wZ,wZ,wZ,wZ,wZ,wZ,wZ,wZ,wZ,wZ,wZ,wZ,wZ,wZ,wZ,wZ,wZ] 96 (0,0))]:=H11.as kr;clear H11;show ∃m,_∧_;exact ⟨_,(by omega),(mix (lay s1 n1 (BitVec.ofNat 64 (by_ t k)))),0,(k+1),rfl,(zeL (vG _ _ hs1)),(by omega),(by omega),((zeN htk (by omega)).trans (if_pos (by omega))),HL5,(Is.of ⟨kr,kr,kr,kr,kr,kr,kr,kr,trivial⟩)⟩
  ·refine rp [.E (.bool (((n1+1:Nat):Int)==136)) (.bool false) (za (beq_eq_false_iff_ne.2 (by omega)))] H8 kr fun gs12 w12 H12=>wX [] ?_;clear H8;refine zb<|zl kr kr<|zn kr<|wW<|rL [.E (.int .i64 (IntKind.i64.wrap ((k:Int)+1))) (.int .i64 ((k+1:Nat):Int)) (zo (qc (a:=k) (b:=1) (by omega))),.v] H12 kr fun gs13 w13 H13=>?_;clear H12;have HL6:St w.heap.size w w13 [((gs1 0).b,Obj.cells (Value.cells (svn (lay s1 n1 (BitVec.ofNat 64 (by_ t k))))) 96 (0,0)),((gs1 1).b,Obj.cells #[wZ,wZ,wZ,wZ,wZ,wZ,wZ,wZ,wZ,wZ,wZ,wZ,wZ,wZ,wZ,wZ,wZ,wZ,wZ,wZ,wZ,wZ,wZ,wZ,wZ] 96 (0,0))]:=H13.as kr;clear H13;show ∃m,_∧_;exact ⟨_,(by omega),(lay s1 n1 (BitVec.ofNat 64 (by_ t k))),(n1+1),(k+1),rfl,(vG _ _ hs1),(by omega),(by omega),((zeN htk (by omega)).trans (if_neg (by omega))),HL6,(Is.of ⟨kr,kr,kr,kr,kr,kr,kr,kr,trivial⟩)⟩
 ·refine rS [.E (.bool (decide ((k:Int)<(ByteArray.size t:Int)))) (.bool false) (za (decide_eq_false (by omega)))] H3 kr fun gs14 w14 H14=>?_;clear H3;refine zc kr<|zl kr kr<|yv 0 kr<|wW<|rS [.l 0,.v,.s 1,.v] H14 kr fun gs15 w15 H15=>?_;clear H14;refine zk kr<|wV ?_;refine ⟨[svn s1,.int .i64 (n1:Int)],(.agg (b:=(gs1 1).b) (Value.cells (svn s1)) 96 (0,0) kr (H15.get 1 kr) kr (.tmp (.int .i64 (n1:Int)) kr .nil)),?_,H15.below⟩;rw [List.take_of_length_le (show (tl t).length≤k by rw [zt];omega)] at htk;rw [htk];rfl
theorem zj7 (s:List (BitVec 64))(n:Nat)(hs:s.length=25)(hn:n<136):Fn Tryz.prog 52 #[svn s,.int .i64 (n:Int)] (svn (endB (s,n))):=by
 refine Fn.intro (c:=zf Tryz.f52) [.cell 4 96] 19 Tryz.func52 kr kr kr fun w=>?_;have H0:=St.start w;refine rS [.b,.a] H0 kr fun gs1 w1 H1=>?_;clear H0;refine dS [.v,.E (.int .i64 (IntKind.i64.wrap ((n:Int).tdiv 8))) (.int .i64 ((n / 8:Nat):Int)) (zo (zaX (a:=n) (b:=8) (by omega))),.o (ins:=[((.tmp 2),.pointer (some ⟨(gs1 0).b,0,none⟩)),((.tmp 6),.int .i64 ((n / 8:Nat):Int))]) (v:=.pointer (some ⟨(gs1 0).b,0+(n / 8)*1,none⟩)) (fun ρ o w ho hi=>kg (kd:=.i64) (t:=96) (n:=25) (size:=1) kr (x:=(.tmp 2)) (y:=(.tmp 6)) (gs1 0).b 0 (n / 8) ho hi.1 hi.2.1 (by omega) w),.ls (C:=(Value.cells (svn s))) (off:=0+(n / 8)*1) (v:=.int .u64 (BitVec.toNat (nth s (n / 8)):Int)) 0 (zbL s (n / 8) _ (by omega) (by omega)),.v,.c (zbN 1 n (by omega)),.E (.int .u64 (Go.bits .xor .u64 ((BitVec.toNat (nth s (n / 8)):Int)) ((BitVec.toNat (qo (BitVec.ofNat 64 1) n):Int)))) (.int .u64 (BitVec.toNat ((nth s (n / 8)) ^^^ (qo (BitVec.ofNat 64 1) n)):Int)) (zu (nth s (n / 8)) (qo (BitVec.ofNat 64 1) n)),.o (ins:=[((.tmp 2),.pointer (some ⟨(gs1 0).b,0,none⟩)),((.tmp 6),.int .i64 ((n / 8:Nat):Int))]) (v:=.pointer (some ⟨(gs1 0).b,0+(n / 8)*1,none⟩)) (fun ρ o w ho hi=>kg (kd:=.i64) (t:=96) (n:=25) (size:=1) kr (x:=(.tmp 2)) (y:=(.tmp 6)) (gs1 0).b 0 (n / 8) ho hi.1 hi.2.1 (by omega) w),.se (C:=(Value.cells (svn s))) (C':=(Value.cells (svn (lay s n 1)))) (off:=0+(n / 8)*1) (v:=.int .u64 (BitVec.toNat ((nth s (n / 8)) ^^^ (qo (BitVec.ofNat 64 1) n)):Int)) 0 (by show _+1≤25;omega) (zbM s (n / 8) _ ((nth s (n / 8)) ^^^ (qo (BitVec.ofNat 64 1) n)) hs (by omega) (by omega))] H1 kr fun w2 H2=>?_;clear H1;refine dS [.v,.l 0,.c (zbN 128 135 (by omega)),.E (.int .u64 (Go.bits .xor .u64 ((BitVec.toNat (nth (lay s n 1) 16):Int)) ((BitVec.toNat (qo (BitVec.ofNat 64 128) 135):Int)))) (.int .u64 (BitVec.toNat ((nth (lay s n 1) 16) ^^^ (qo (BitVec.ofNat 64 128) 135)):Int)) (zu (nth (lay s n 1) 16) (qo (BitVec.ofNat 64 128) 135)),.v,.se (C:=(Value.cells (svn (lay s n 1)))) (C':=(Value.cells (svn (lay (lay s n 1) 135 128)))) (off:=16) (v:=.int .u64 (BitVec.toNat ((nth (lay s n 1) 16) ^^^ (qo (BitVec.ofNat 64 128) 135)):Int)) 0 (of_decide_eq_true kr) (zbM (lay s n 1) 16 16 _ (vG _ _ hs) rfl (by omega))] H2 kr fun w3 H3=>?_;clear H2;refine yb [0,1,2,4] fun ρ1=>?_;have HK1:=H3.keep;clear H3;refine rS [.l 0,.s 1] HK1 kr fun gs4 w4 H4=>?_;clear HK1;refine zk kr<|wV ?_;refine ⟨[svn (lay (lay s n 1) 135 128)],(.agg (b:=(gs1 1).b) (Value.cells (svn (lay (lay s n 1) 135 128))) 96 (0,0) kr (H4.get 1 kr) kr .nil),?_,H4.below⟩;rfl
theorem b8 (x:BitVec 64)(sh:Nat):UInt8.ofNat (Int.toNat ((BitVec.toNat (BitVec.setWidth 8 (x >>> sh)):Int)))=UInt8.ofNat (BitVec.toNat x / 2^sh):=by
 apply UInt8.toNat_inj.1;rw [Int.toNat_natCast,BitVec.toNat_setWidth,BitVec.toNat_ushiftRight,Nat.shiftRight_eq_div_pow];simp
theorem take_fnq (q:List (BitVec 64)×Nat)(hq:StOK q)(t:ByteArray)(ht:ByteArray.size t<0x4000000000000000):
 FnP Tryz.prog 49 #[svn q.1,.int .i64 ((q.2:Nat):Int),.string t] Marks (.tuple #[svn (takeB q (tl t)).1,.int .i64 (((takeB q (tl t)).2:Nat):Int)]):=zj6 q.1 q.2 t hq.len hq.lt ht
theorem end_fnq (q:List (BitVec 64)×Nat)(hq:StOK q):Fn Tryz.prog 52 #[svn q.1,.int .i64 ((q.2:Nat):Int)] (svn (endB q)):=zj7 q.1 q.2 hq.len hq.lt
def kF (s:List (BitVec 64))(i j:Nat):BitVec 8:=if j<i then BitVec.setWidth 8 (nth s (j / 8) >>> (j%8*8)) else 0
theorem zj8 (s:List (BitVec 64))(i j:Nat):kF s (i+1) j=if j=i then BitVec.setWidth 8 (nth s (i / 8) >>> (i%8*8)) else kF s i j:=by
 unfold kF;by_cases h:j=i
 ·subst h;rw [if_pos (by omega),if_pos rfl]
 ·rw [if_neg h];by_cases h2:j<i
  ·rw [if_pos (by omega),if_pos h2]
  ·rw [if_neg (by omega),if_neg h2]
theorem zj9 (s:List (BitVec 64)):((List.range 32).map fun i=>UInt8.ofBitVec (kF s 32 i))=firstB s:=by
 unfold firstB;refine List.map_congr_left fun i hi=>?_;unfold kF;rw [if_pos (by simpa using hi)];have h:=b8 (nth s (i / 8)) (i%8*8);rw [Int.toNat_natCast] at h;rw [←h];apply UInt8.toNat_inj.1;have:=(BitVec.setWidth 8 (nth s (i / 8) >>> (i%8*8))).isLt;rw [UInt8.toNat_ofNat_of_lt' (by simpa using this)];rfl
theorem first_fn (s:List (BitVec 64)):Fn Tryz.prog 50 #[svn s] (.string (zh (firstB s))):=by
 refine Fn.intro (c:=zf Tryz.f50) [.tmp 2] 22 Tryz.func50 kr kr kr fun w=>?_;have H0:=St.start w;refine rS [.b,.v] H0 kr fun gs1 w1 H1=>?_;clear H0;refine rS [.a] H1 kr fun gs2 w2 H2=>?_;clear H1;refine zc kr<|rS [.v] H2 kr fun gs3 w3 H3=>?_;clear H2;refine zz 0 kr ?_;have HL1:St w.heap.size w w3 [((gs1 0).b,Obj.cells (Value.cells (svn s)) 96 (0,0)),((gs2 0).b,Obj.cells (Value.cells (zgL .u8 32)) 133 (0,0))]:=H3.as kr;clear H3;have HM2:St w.heap.size w w3 [((gs1 0).b,Obj.cells (Value.cells (svn s)) 96 (0,0)),((gs2 0).b,Obj.cells (Value.cells (qX 32 (kF s 0))) 133 (0,0))]:=HL1;refine yW kr (fun mz ρ ww=> ∃(i:Nat),32-i=mz∧(i≤32)∧St w.heap.size w ww [((gs1 0).b,Obj.cells (Value.cells (svn s)) 96 (0,0)),((gs2 0).b,Obj.cells (Value.cells (qX 32 (kF s i))) 133 (0,0))]∧Is [(0,svn s),(1,.pointer (some ⟨(gs1 0).b,0,none⟩)),(2,.string (⟨#[]⟩)),(3,.pointer (some ⟨(gs2 0).b,0,none⟩)),(5,.int .i64 (i:Int))] ρ) (32-0) ⟨0,rfl,(by omega),HM2,(Is.of ⟨kr,kr,kr,kr,kr,trivial⟩)⟩ ?_;clear HM2;rintro _ _ w4 ⟨i,rfl,hi,H4,_,rfl⟩;by_cases hc3:(i:Nat)<32
 ·refine rS [.E (.bool (decide ((i:Int)<32))) (.bool true) (za (decide_eq_true (by omega)))] H4 kr fun gs5 w5 H5=>?_;clear H4;refine zc kr<|zj kr kr<|zn kr<|wW<|zc kr<|zz 1 kr<|rS [.v,.v] H5 kr fun gs6 w6 H6=>?_;clear H5;refine rL [.v,.v,.E (.int .i64 (IntKind.i64.wrap ((i:Int).tdiv 8))) (.int .i64 ((i / 8:Nat):Int)) (zo (zaX (a:=i) (b:=8) (by omega))),.o (ins:=[((.tmp 1),.pointer (some ⟨(gs1 0).b,0,none⟩)),((.tmp 10),.int .i64 ((i / 8:Nat):Int))]) (v:=.pointer (some ⟨(gs1 0).b,0+(i / 8)*1,none⟩)) (fun ρ o w ho hi=>kg (kd:=.i64) (t:=96) (n:=25) (size:=1) kr (x:=(.tmp 1)) (y:=(.tmp 10)) (gs1 0).b 0 (i / 8) ho hi.1 hi.2.1 (by omega) w),.ls (C:=(Value.cells (svn s))) (off:=0+(i / 8)*1) (v:=.int .u64 (BitVec.toNat (nth s (i / 8)):Int)) 0 (zbL s (i / 8) _ (by omega) (by omega)),.v,.E (.int .i64 (Int.tmod (i:Int) 8)) (.int .i64 ((i%8:Nat):Int)) (zo (zcR i 8)),.E (.int .i64 (IntKind.i64.wrap (((i%8:Nat):Int)*8))) (.int .i64 (((i%8)*8:Nat):Int)) (zo (zcP (a:=i%8) (b:=8) (by omega))),.E (.int .u64 (Int.fdiv ((BitVec.toNat (nth s (i / 8)):Int)) (2^(min ((i%8)*8) 64)))) (.int .u64 (BitVec.toNat ((nth s (i / 8)) >>> ((i%8)*8)):Int)) (zcU (nth s (i / 8)) ((i%8)*8)),.E (.int .u8 (IntKind.u8.wrap ((BitVec.toNat ((nth s (i / 8)) >>> ((i%8)*8)):Int)))) (.int .u8 (BitVec.toNat (BitVec.setWidth 8 ((nth s (i / 8)) >>> ((i%8)*8))):Int)) (zgB ((nth s (i / 8)) >>> ((i%8)*8))),.o (ins:=[((.tmp 3),.pointer (some ⟨(gs2 0).b,0,none⟩)),((.tmp 8),.int .i64 (i:Int))]) (v:=.pointer (some ⟨(gs2 0).b,0+i*1,none⟩)) (fun ρ o w ho hi=>kg (kd:=.i64) (t:=133) (n:=32) (size:=1) kr (x:=(.tmp 3)) (y:=(.tmp 8)) (gs2 0).b 0 i ho hi.1 hi.2.1 (by omega) w),.se (C:=(Value.cells (qX 32 (kF s i)))) (C':=(Value.cells (qX 32 (kF s (i+1))))) (off:=0+i*1) (v:=.int .u8 (BitVec.toNat (BitVec.setWidth 8 ((nth s (i / 8)) >>> ((i%8)*8))):Int)) 1 (by show _+1≤32;omega) (zgM (k:=i) (x:=BitVec.setWidth 8 ((nth s (i / 8)) >>> ((i%8)*8))) (by omega) (by omega) (fun j _=>zj8 s i j))] H6 kr fun gs7 w7 H7=>?_;clear H6;refine wW<|yb [0,1,2,3,4,5,6] fun ρ1=>?_;have HK4:=H7.keep;clear H7;refine rL [.E (.int .i64 (IntKind.i64.wrap ((i:Int)+1))) (.int .i64 ((i+1:Nat):Int)) (zo (qc (a:=i) (b:=1) (by omega))),.v] HK4 kr fun gs8 w8 H8=>?_;clear HK4;have HL5:St w.heap.size w w8 [((gs1 0).b,Obj.cells (Value.cells (svn s)) 96 (0,0)),((gs2 0).b,Obj.cells (Value.cells (qX 32 (kF s (i+1)))) 133 (0,0))]:=H8.as kr;clear H8;show ∃m,_∧_;exact ⟨_,(by omega),(i+1),rfl,(by omega),HL5,(Is.of ⟨kr,kr,kr,kr,kr,trivial⟩)⟩
 ·refine rS [.E (.bool (decide ((i:Int)<32))) (.bool false) (za (decide_eq_false (by omega)))] H4 kr fun gs9 w9 H9=>?_;clear H4;refine zc kr<|zl kr kr<|yv 0 kr<|wW<|zg [0,1,2] kr kr<|rp [.o (ins:=[((.tmp 3),.pointer (some ⟨(gs2 0).b,0,none⟩))]) (v:=.slice (some ⟨(gs2 0).b,0,none⟩) 32 32) (fun ρ o w ho hi=>zc0 (t:=133) (n:=32) (e:=5) (z:=1) kr kr (x:=(.tmp 3)) ((gs2 0).b) ho hi.1 w)] H9 kr fun gs10 w10 H10=>wX [1,2] ?_;clear H9;have hi32:i=32:=by omega
  have hrow:=zgN 32 (kF s i) (by unfold maxLen;omega);rw [show ((List.range 32).map fun j=>UInt8.ofBitVec (kF s i j))=firstB s by rw [hi32];exact zj9 _] at hrow;refine zgP H10 (some 21) 75 9 5 (.tmp 20) 1 ((gs2 0).b) 32 32 (Value.cells (qX 32 (kF s i))) 133 (0,0) (firstB s) kr kr kr kr kr kr kr hrow<|rp [.v] H10 kr fun gs11 w11 H11=>wX [] ?_;clear H10;refine zb<|zk kr<|wV ?_;refine ⟨[.string (zh (firstB s))],(.tmp (.string (zh (firstB s))) kr .nil),?_,H11.below⟩;rfl
theorem of_fn1 (b:Nat)(s1:ByteArray)(h1:ByteArray.size s1<0x4000000000000000):FnP Tryz.prog 29 #[.slice (some ⟨b,0,none⟩) 1 1] (fun w=>Marks w∧w.heap[b]? =some (.cells #[.string s1] 9 (0,0))) (.string (zh (sumB (tl s1)))):=by
 refine FnP.intro (c:=zf Tryz.f29) [.tmp 2] 26 Tryz.func29 kr kr kr fun w hpre=>?_;have H0:=St.start w;refine rS [.v] H0 kr fun gs1 w1 H1=>?_;clear H0;refine rS [.a] H1 kr fun gs2 w2 H2=>?_;clear H1;refine rS [.v] H2 kr fun gs3 w3 H3=>?_;clear H2;refine zc kr<|rS [.v,.v,.v] H3 kr fun gs4 w4 H4=>?_;clear H3;refine zz 0 kr ?_;have HL1:St w.heap.size w w4 [((gs2 0).b,Obj.cells #[wZ,wZ,wZ,wZ,wZ,wZ,wZ,wZ,wZ,wZ,wZ,wZ,wZ,wZ,wZ,wZ,wZ,wZ,wZ,wZ,wZ,wZ,wZ,wZ,wZ] 96 (0,0))]:=H4.as kr;clear H4;refine zcq kr<|rS [.v] HL1 kr fun gs5 w5 H5=>?_;clear HL1;refine zc kr<|zj kr kr<|zn kr<|wW<|zc kr<|zz 1 kr<|rS [.o (ins:=[((.tmp 7),.slice (some ⟨b,0,none⟩) 1 1),((.tmp 9),.int .i64 0)]) (v:=.pointer (some ⟨b,0+0*1,none⟩)) (fun ρ o w ho hi=>kT (kd:=.i64) (t:=23) (e:=9) (size:=1) (bytes:=16) kr (x:=(.tmp 7)) (y:=(.tmp 9)) b 0 1 1 0 ho hi.1 hi.2.1 (by omega) w),.fs (off:=0+0*1) (v:=.string s1) hpre.2 (zv hpre.2) (by rfl),.v] H5 kr fun gs6 w6 H6=>?_;clear H5;refine rL [.l 0,.v,.v,.cp (pre:=Marks) (take_fnq (zeroS,0) zero_ok s1 (by assumption)) [] (fun w hb hd=>(Marks.oldB hb rfl hpre.1)),.v,.v,.v,.s 0,.v] H6 kr fun gs7 w7 H7=>?_;clear H6;refine wW<|yb [0,2,3,4,6,7,8,9,10] fun ρ1=>?_;have HK2:=H7.keep;clear H7;refine rL [.v,.v] HK2 kr fun gs8 w8 H8=>?_;clear HK2;show WPL _ _ _ _ _ _;refine jI<|rS [.v] H8 kr fun gs9 w9 H9=>?_;clear H8;refine zc kr<|zl kr kr<|yv 0 kr<|wW<|rS [.l 0,.v,.c (end_fnq (takeB (zeroS,0) (tl s1)) (takeB_ok _ zero_ok)),.cp (pre:=Marks) (mix_fn (endB (takeB (zeroS,0) (tl s1)))) [] (fun w hb hd=>(Marks.oldB hb rfl hpre.1)),.c (first_fn (mix (endB (takeB (zeroS,0) (tl s1))))),.v] H9 kr fun gs10 w10 H10=>?_;clear H9;refine zk kr<|wV ?_;refine ⟨[.string (zh (firstB (mix (endB (takeB (zeroS,0) (tl s1))))))],(.tmp (.string (zh (firstB (mix (endB (takeB (zeroS,0) (tl s1))))))) kr .nil),?_,H10.below⟩;rfl
end Go.Proofs.YthonokeibcodpaaGreatDoor.Ke
namespace Go.Proofs.YthonokeibcodpaaGreatDoor
open Go.Proofs.Kec
set_option maxRecDepth 100000
end Go.Proofs.YthonokeibcodpaaGreatDoor
namespace Go.Proofs.YthonokeibcodpaaGreatDoor
open Go Go.RowKit
set_option linter.unusedVariables false
open Go.Proofs.Kec Ke
theorem zeO (A:Nat)(hA:A<big):Fn Tryz.prog 66 #[uv A] (.string (bs A)):=zjD A hA
end Go.Proofs.YthonokeibcodpaaGreatDoor
namespace Go.Proofs.YthonokeibcodpaaGreatDoor
open Go.RowKit
def sv (l:List UInt8):Nat:=l.foldl (fun n b=>256*n+b.toNat) 0
theorem zbO (l:List UInt8)(b:UInt8):sv (l++ [b])=256*sv l+b.toNat:=by
 unfold sv;rw [List.foldl_append];rfl
theorem zeP: ∀(l:List UInt8) (n:Nat),l.foldl (fun n b=>256*n+b.toNat) n<(n+1)*256^l.length
 | [],n=>by simp
 | b::l,n=>by
  rw [List.foldl_cons,List.length_cons,Nat.pow_succ];have h:=zeP l (256*n+b.toNat);have hb:b.toNat<256:=b.toNat_lt;have h2:(256*n+b.toNat+1)*256^l.length≤((n+1)*256)*256^l.length:=Nat.mul_le_mul_right _ (by omega);have e:(n+1)*(256^l.length*256)=(n+1)*256*256^l.length:=by rw [Nat.mul_assoc (n+1) 256,Nat.mul_comm 256]
  omega
theorem zeQ (l:List UInt8):sv l<256^l.length:=by
 have:=zeP l 0;rw [Nat.one_mul] at this;exact this
def wi (n q:Nat):Nat:=n / 0x10000000000000000^q%0x10000000000000000
theorem zka (x y k K:Nat)(hK:2^k=K)(hx:x%K=0)(hy:y<K):x ||| y=x+y:=by
 subst hK;have e:x=2^k*(x / 2^k):=by have:=Nat.div_add_mod x (2^k);omega
 rw [e];exact (Nat.two_pow_add_eq_or_of_lt hy (x / 2^k)).symm
theorem zkb {b c K:Nat}(hb:b<256)(hc:0<c)(hK:256*c=K):b*c<K:=by
 subst hK;exact (Nat.mul_lt_mul_right hc).2 hb
theorem zkc (P b m:Nat)(hb:b<256)(hm:m<32)(hP:(256*P+b)*256^m<big):
 wi (P*256^(m+1)) (m / 8) ||| (b*2^(8*(m%8)))=wi ((256*P+b)*256^m) (m / 8)∧
 (∀j,j<4→j≠m / 8→wi ((256*P+b)*256^m) j=wi (P*256^(m+1)) j):=by
 obtain ⟨k,r,hr,rfl⟩:∃k r,r<8∧m=8*k+r:=⟨m / 8,m%8,Nat.mod_lt _ (by decide),by omega⟩
 have hk:(8*k+r) / 8=k:=by omega
 have hr':(8*k+r)%8=r:=by omega
 have hw:256^(8*k+r)=256^r*0x10000000000000000^k:=by rw [Nat.add_comm,Nat.pow_add,Nat.pow_mul]
 have hN:P*256^(8*k+r+1)=P*256^(r+1)*0x10000000000000000^k:=by
  rw [Nat.pow_succ,hw,Nat.pow_succ,Nat.mul_right_comm,Nat.mul_assoc P]
 have hN':(256*P+b)*256^(8*k+r)=(256*P+b)*256^r*0x10000000000000000^k:=by rw [hw,Nat.mul_assoc]
 rw [hk,hr',hN,hN'];have hp: ∀n,0<0x10000000000000000^n:=fun n=>Nat.pow_pos (by decide);have h8:r=0∨r=1∨r=2∨r=3∨r=4∨r=5∨r=6∨r=7:=by omega
 unfold wi;constructor
 ·rw [Nat.mul_div_cancel _ (hp k),Nat.mul_div_cancel _ (hp k),zka _ _ (8*(r+1)) (256^(r+1)) (Nat.pow_mul 2 8 (r+1)) ?_ ?_]
  ·clear hN hN' hw hP;rcases h8 with rfl | rfl | rfl | rfl | rfl | rfl | rfl | rfl<;>simp only [Nat.reduceMul,Nat.reduceAdd,Nat.reducePow]<;>omega
  ·rw [Nat.mod_mod_of_dvd _ (show 256^(r+1)∣256^8 from Nat.pow_dvd_pow 256 hr),Nat.mul_mod_left]
  ·rw [Nat.pow_mul];exact zkb hb (Nat.pow_pos (by decide)) (show 256*256^r=256^(r+1) by rw [Nat.pow_succ 256 r,Nat.mul_comm])
 ·intro j hj hne;rcases Nat.lt_or_gt_of_ne hne with h | h
  ·obtain ⟨d,rfl⟩:∃d,k=d+1+j:=⟨k-j-1,by omega⟩
   have e: ∀A,A*0x10000000000000000^(d+1+j) / 0x10000000000000000^j%0x10000000000000000=0:=fun A=>by
    rw [Nat.pow_add,←Nat.mul_assoc,Nat.mul_div_cancel _ (hp j),Nat.pow_succ,←Nat.mul_assoc,Nat.mul_mod_left]
   rw [e,e]
  ·obtain ⟨d,rfl⟩:∃d,j=k+1+d:=⟨j-k-1,by omega⟩
   have e: ∀A,A*0x10000000000000000^k / 0x10000000000000000^(k+1+d)=A / 0x10000000000000000 / 0x10000000000000000^d:=fun A=>by
    rw [Nat.pow_add,Nat.pow_succ,←Nat.div_div_eq_div_mul,←Nat.div_div_eq_div_mul,Nat.mul_div_cancel _ (hp k)]
   have e2:(256*P+b)*256^r / 0x10000000000000000=P*256^(r+1) / 0x10000000000000000:=by
    clear hN hN' hw hP e;rcases h8 with rfl | rfl | rfl | rfl | rfl | rfl | rfl | rfl<;>simp only [Nat.reduceMul,Nat.reduceAdd,Nat.reducePow]<;>omega
   rw [e,e,e2]
end Go.Proofs.YthonokeibcodpaaGreatDoor
namespace Go.Proofs.YthonokeibcodpaaGreatDoor
open Go.ChangeShapes Go.WideShapes Go.ChangeAt Go.RowKit
set_option linter.unusedVariables false
def zw (s:ByteArray)(k:Nat):Nat:=sv (s.data.toList.take k)*256^(s.size-k)
theorem zkd (s:ByteArray)(k:Nat)(h:s.size≤32)(hk:k≤s.size):zw s k<big:=by
 unfold zw;have h1:=zeQ (s.data.toList.take k);have h2:(s.data.toList.take k).length≤k:=List.length_take_le _ _;have h3:256^(s.data.toList.take k).length≤256^k:=Nat.pow_le_pow_right (by omega) h2;have h4:256^k*256^(s.size-k)=256^s.size:=by rw [←Nat.pow_add];congr 1;omega
 have h5:256^s.size≤256^32:=Nat.pow_le_pow_right (by omega) h;have h6:sv (s.data.toList.take k)*256^(s.size-k)<256^k*256^(s.size-k):=(Nat.mul_lt_mul_right (Nat.pow_pos (by omega))).2 (by omega);have h7:(256:Nat)^32=big:=rfl;omega
theorem zke (s:ByteArray)(k m:Nat)(hk:k<s.size)(hm:s.size=k+1+m):
 zw s k=sv (s.data.toList.take k)*256^(m+1)∧zw s (k+1)=(256*sv (s.data.toList.take k)+s[k].toNat)*256^m:=by
 unfold zw;constructor
 ·congr 2;omega
 ·have e:s.data.toList.take (k+1)=s.data.toList.take k++ [s[k]]:=by rw [List.take_succ_eq_append_getElem (by simpa using hk)];rfl
  rw [e,zbO];congr 2;omega
theorem wi0 (n:Nat):((wi n 0:Nat):Int)=w0 n:=by unfold wi w0;simp
theorem wi1 (n:Nat):((wi n 1:Nat):Int)=w1 n:=rfl
theorem wi2 (n:Nat):((wi n 2:Nat):Int)=w2 n:=rfl
theorem wi3 (n:Nat):((wi n 3:Nat):Int)=w3 n:=rfl
theorem zaj (x b m:Nat)(hx:x<0x10000000000000000)(hb:b<256):
 bits BinOp.or IntKind.u64 (x:Int) (IntKind.u64.wrap ((b:Int)*2^(8*(m%8))))=((x ||| b*2^(8*(m%8)):Nat):Int):=by
 have hp:2^(8*(m%8))≤2^56:=Nat.pow_le_pow_right (by omega) (by omega);have hl:b*2^(8*(m%8))<0x10000000000000000:=by
  have h1:b*2^(8*(m%8))≤255*2^56:=Nat.mul_le_mul (by omega) hp;omega
 have e2:(b:Int)*2^(8*(m%8))=((b*2^(8*(m%8)):Nat):Int):=by push_cast;rfl
 rw [e2];have e3:IntKind.u64.wrap ((b*2^(8*(m%8)):Nat):Int)=((b*2^(8*(m%8)):Nat):Int):=by rw [IntKind.wrap_u64];omega
 rw [e3];exact bits_or_u64_nat _ _ hx hl
def zak (wr:World)(b:Nat)(n:Nat):Prop:=
 (wr.cell? ⟨b,0,none⟩=some (.int .u64 (w0 n))∧wr.cell? ⟨b,1,none⟩=some (.int .u64 (w1 n))∧wr.cell? ⟨b,2,none⟩=some (.int .u64 (w2 n))∧wr.cell? ⟨b,3,none⟩=some (.int .u64 (w3 n)))∧
 (wr.frozen? ⟨b,0,none⟩=false∧wr.frozen? ⟨b,1,none⟩=false∧wr.frozen? ⟨b,2,none⟩=false∧wr.frozen? ⟨b,3,none⟩=false)
def zeR (w:World)(s:ByteArray)(k:Nat)(wr:World):Prop:=Below w.heap.size w wr∧zak wr (w.heap.size+1) (zw s k)∧zak wr w.heap.size 0
theorem zal (s:ByteArray)(h:s.size≤32)(w:World):Calls Tryz.prog 72 #[.string s] w fun e w'=>e=.returned (.tuple #[uv (sv s.data.toList),.int .i64 0])∧Below w.heap.size w w':=by
 have hi: ¬(32:Int)<(s.size:Int):=by omega
 have hfin:zw s s.size=sv s.data.toList:=by unfold zw;rw [List.take_of_length_le (by simp)];simp
 have hend: ∀k,¬k<s.size→k≤s.size→zw s k=sv s.data.toList:=fun k h1 h2=>by rw [show k=s.size by omega];exact hfin
 have I:zeR w s 0 ((w.alloc (.cells #[wZ,wZ,wZ,wZ] 55)).alloc (.cells #[wZ,wZ,wZ,wZ] 55)):=by
  have z:zw s 0=0:=by unfold zw;simp [sv]
  have z0:w0 0=0:=rfl;have z1:w1 0=0:=rfl;have z2:w2 0=0:=rfl;have z3:w3 0=0:=rfl;refine ⟨((Below.refl _ _).alloc (Nat.le_refl _) _).alloc (by simp) _,?_,?_⟩
  ·rw [z];unfold zak;rw [z0,z1,z2,z3];exact ⟨⟨by simp,by simp,by simp,by simp⟩,by simp,by simp,by simp,by simp⟩
  ·unfold zak;rw [z0,z1,z2,z3];exact ⟨⟨by simp,by simp,by simp,by simp⟩,by simp,by simp,by simp,by simp⟩
 have Hend:=Lib.hid hend;clear hfin hend
 go_enter Tryz.func72,Tryz.ntmps72
 go_wp2
 go_loopw [13] (fun i wr=> ∃k:Nat,k≤s.size∧i=.int .i64 k∧zeR w s k wr) (fun i _=>s.size-(intOf i).toNat)
 case atStart=>exact ⟨0,by omega,rfl,I⟩
 case round=>
  obtain ⟨k,hk,rfl,J⟩:=hrel;clear I;obtain ⟨JB,⟨⟨c0,c1,c2,c3⟩,f0,f1,f2,f3⟩,⟨⟨r0,r1,r2,r3⟩,y0,y1,y2,y3⟩⟩:=J;by_cases hlt:k<s.size
  ·obtain ⟨m,hm⟩:∃m,s.size=k+1+m:=⟨s.size-k-1,by omega⟩
   have hb:((s.size:Int)-1-(k:Int))=(m:Int):=by omega
   have hm32:m<32:=by omega
   obtain ⟨n1,n2⟩:=zke s k m hlt hm;have hbig:=zkd s (k+1) h (by omega);have hby:s[k].toNat<256:=s[k].toNat_lt;have OB:=zkc (sv (s.data.toList.take k)) s[k].toNat m hby hm32 (by rw [←n2];exact hbig);rw [←n1,←n2] at OB;have HOB:=Lib.hid OB;clear hm n1 n2 OB hbig;have hq:m / 8=0∨m / 8=1∨m / 8=2∨m / 8=3:=by omega
   rcases hq with hq|hq|hq|hq
   ·go_wp2_with fail
    go_region
    go_wp2
    go_roundw
    case rel=>
     obtain ⟨o1,o2⟩:=HOB.out;rw [hq] at o1 o2;have ev:bits BinOp.or IntKind.u64 (w0 (zw s k)) (IntKind.u64.wrap ((s[k].toNat:Int)*2^(8*(m%8))))=w0 (zw s (k+1)):=by
      rw [←wi0,zaj _ _ _ (by unfold wi;exact Nat.mod_lt _ (by omega)) hby,o1,wi0]
     have g1:w1 (zw s (k+1))=w1 (zw s k):=by rw [←wi1,←wi1,o2 1 (by omega) (by omega)]
     have g2:w2 (zw s (k+1))=w2 (zw s k):=by rw [←wi2,←wi2,o2 2 (by omega) (by omega)]
     have g3:w3 (zw s (k+1))=w3 (zw s k):=by rw [←wi3,←wi3,o2 3 (by omega) (by omega)]
     refine ⟨k+1,by omega,by go_num,(JB.setCell (by simp) _).drew,⟨⟨?_,?_,?_,?_⟩,?_,?_,?_,?_⟩,⟨⟨?_,?_,?_,?_⟩,?_,?_,?_,?_⟩⟩
     ·rw [←ev];exact World.cell?_setCell_same _ _ _ c0
     ·rw [g1];exact (World.cell?_setCell_other _ _ _ _ (by simp)).trans c1
     ·rw [g2];exact (World.cell?_setCell_other _ _ _ _ (by simp)).trans c2
     ·rw [g3];exact (World.cell?_setCell_other _ _ _ _ (by simp)).trans c3
     ·simp [f0]
     ·simp [f1]
     ·simp [f2]
     ·simp [f3]
     ·exact (World.cell?_setCell_other _ _ _ _ (by simp)).trans r0
     ·exact (World.cell?_setCell_other _ _ _ _ (by simp)).trans r1
     ·exact (World.cell?_setCell_other _ _ _ _ (by simp)).trans r2
     ·exact (World.cell?_setCell_other _ _ _ _ (by simp)).trans r3
     ·simp [y0]
     ·simp [y1]
     ·simp [y2]
     ·simp [y3]
    case measure=>simp [intOf];omega
   ·go_wp2_with fail
    go_region
    go_wp2
    go_roundw
    case rel=>
     obtain ⟨o1,o2⟩:=HOB.out;rw [hq] at o1 o2;have ev:bits BinOp.or IntKind.u64 (w1 (zw s k)) (IntKind.u64.wrap ((s[k].toNat:Int)*2^(8*(m%8))))=w1 (zw s (k+1)):=by
      rw [←wi1,zaj _ _ _ (by unfold wi;exact Nat.mod_lt _ (by omega)) hby,o1,wi1]
     have g0:w0 (zw s (k+1))=w0 (zw s k):=by rw [←wi0,←wi0,o2 0 (by omega) (by omega)]
     have g2:w2 (zw s (k+1))=w2 (zw s k):=by rw [←wi2,←wi2,o2 2 (by omega) (by omega)]
     have g3:w3 (zw s (k+1))=w3 (zw s k):=by rw [←wi3,←wi3,o2 3 (by omega) (by omega)]
     refine ⟨k+1,by omega,by go_num,(JB.setCell (by simp) _).drew,⟨⟨?_,?_,?_,?_⟩,?_,?_,?_,?_⟩,⟨⟨?_,?_,?_,?_⟩,?_,?_,?_,?_⟩⟩
     ·rw [g0];exact (World.cell?_setCell_other _ _ _ _ (by simp)).trans c0
     ·rw [←ev];exact World.cell?_setCell_same _ _ _ c1
     ·rw [g2];exact (World.cell?_setCell_other _ _ _ _ (by simp)).trans c2
     ·rw [g3];exact (World.cell?_setCell_other _ _ _ _ (by simp)).trans c3
     ·simp [f0]
     ·simp [f1]
     ·simp [f2]
     ·simp [f3]
     ·exact (World.cell?_setCell_other _ _ _ _ (by simp)).trans r0
     ·exact (World.cell?_setCell_other _ _ _ _ (by simp)).trans r1
     ·exact (World.cell?_setCell_other _ _ _ _ (by simp)).trans r2
     ·exact (World.cell?_setCell_other _ _ _ _ (by simp)).trans r3
     ·simp [y0]
     ·simp [y1]
     ·simp [y2]
     ·simp [y3]
    case measure=>simp [intOf];omega
   ·go_wp2_with fail
    go_region
    go_wp2
    go_roundw
    case rel=>
     obtain ⟨o1,o2⟩:=HOB.out;rw [hq] at o1 o2;have ev:bits BinOp.or IntKind.u64 (w2 (zw s k)) (IntKind.u64.wrap ((s[k].toNat:Int)*2^(8*(m%8))))=w2 (zw s (k+1)):=by
      rw [←wi2,zaj _ _ _ (by unfold wi;exact Nat.mod_lt _ (by omega)) hby,o1,wi2]
     have g0:w0 (zw s (k+1))=w0 (zw s k):=by rw [←wi0,←wi0,o2 0 (by omega) (by omega)]
     have g1:w1 (zw s (k+1))=w1 (zw s k):=by rw [←wi1,←wi1,o2 1 (by omega) (by omega)]
     have g3:w3 (zw s (k+1))=w3 (zw s k):=by rw [←wi3,←wi3,o2 3 (by omega) (by omega)]
     refine ⟨k+1,by omega,by go_num,(JB.setCell (by simp) _).drew,⟨⟨?_,?_,?_,?_⟩,?_,?_,?_,?_⟩,⟨⟨?_,?_,?_,?_⟩,?_,?_,?_,?_⟩⟩
     ·rw [g0];exact (World.cell?_setCell_other _ _ _ _ (by simp)).trans c0
     ·rw [g1];exact (World.cell?_setCell_other _ _ _ _ (by simp)).trans c1
     ·rw [←ev];exact World.cell?_setCell_same _ _ _ c2
     ·rw [g3];exact (World.cell?_setCell_other _ _ _ _ (by simp)).trans c3
     ·simp [f0]
     ·simp [f1]
     ·simp [f2]
     ·simp [f3]
     ·exact (World.cell?_setCell_other _ _ _ _ (by simp)).trans r0
     ·exact (World.cell?_setCell_other _ _ _ _ (by simp)).trans r1
     ·exact (World.cell?_setCell_other _ _ _ _ (by simp)).trans r2
     ·exact (World.cell?_setCell_other _ _ _ _ (by simp)).trans r3
     ·simp [y0]
     ·simp [y1]
     ·simp [y2]
     ·simp [y3]
    case measure=>simp [intOf];omega
   ·go_wp2_with fail
    go_region
    go_wp2
    go_roundw
    case rel=>
     obtain ⟨o1,o2⟩:=HOB.out;rw [hq] at o1 o2;have ev:bits BinOp.or IntKind.u64 (w3 (zw s k)) (IntKind.u64.wrap ((s[k].toNat:Int)*2^(8*(m%8))))=w3 (zw s (k+1)):=by
      rw [←wi3,zaj _ _ _ (by unfold wi;exact Nat.mod_lt _ (by omega)) hby,o1,wi3]
     have g0:w0 (zw s (k+1))=w0 (zw s k):=by rw [←wi0,←wi0,o2 0 (by omega) (by omega)]
     have g1:w1 (zw s (k+1))=w1 (zw s k):=by rw [←wi1,←wi1,o2 1 (by omega) (by omega)]
     have g2:w2 (zw s (k+1))=w2 (zw s k):=by rw [←wi2,←wi2,o2 2 (by omega) (by omega)]
     refine ⟨k+1,by omega,by go_num,(JB.setCell (by simp) _).drew,⟨⟨?_,?_,?_,?_⟩,?_,?_,?_,?_⟩,⟨⟨?_,?_,?_,?_⟩,?_,?_,?_,?_⟩⟩
     ·rw [g0];exact (World.cell?_setCell_other _ _ _ _ (by simp)).trans c0
     ·rw [g1];exact (World.cell?_setCell_other _ _ _ _ (by simp)).trans c1
     ·rw [g2];exact (World.cell?_setCell_other _ _ _ _ (by simp)).trans c2
     ·rw [←ev];exact World.cell?_setCell_same _ _ _ c3
     ·simp [f0]
     ·simp [f1]
     ·simp [f2]
     ·simp [f3]
     ·exact (World.cell?_setCell_other _ _ _ _ (by simp)).trans r0
     ·exact (World.cell?_setCell_other _ _ _ _ (by simp)).trans r1
     ·exact (World.cell?_setCell_other _ _ _ _ (by simp)).trans r2
     ·exact (World.cell?_setCell_other _ _ _ _ (by simp)).trans r3
     ·simp [y0]
     ·simp [y1]
     ·simp [y2]
     ·simp [y3]
    case measure=>simp [intOf];omega
  ·have HE:=Lib.hid (Hend.out k hlt hk)
   go_wp2
   have hS0:(wr.setCell ⟨w.heap.size,0,none⟩ (.int .u64 (w0 (zw s k)))).cell? ⟨w.heap.size,0,none⟩=some (.int .u64 (w0 (zw s k))):=World.cell?_setCell_same _ _ _ r0;have hS1:((wr.setCell ⟨w.heap.size,0,none⟩ (.int .u64 (w0 (zw s k)))).setCell ⟨w.heap.size,1,none⟩ (.int .u64 (w1 (zw s k)))).cell? ⟨w.heap.size,1,none⟩=some (.int .u64 (w1 (zw s k))):=World.cell?_setCell_same _ _ _ ((World.cell?_setCell_other _ _ _ _ (by simp)).trans r1);have hS2:(((wr.setCell ⟨w.heap.size,0,none⟩ (.int .u64 (w0 (zw s k)))).setCell ⟨w.heap.size,1,none⟩ (.int .u64 (w1 (zw s k)))).setCell ⟨w.heap.size,2,none⟩ (.int .u64 (w2 (zw s k)))).cell? ⟨w.heap.size,2,none⟩=some (.int .u64 (w2 (zw s k))):=World.cell?_setCell_same _ _ _ ((World.cell?_setCell_other _ _ _ _ (by simp)).trans ((World.cell?_setCell_other _ _ _ _ (by simp)).trans r2));have hS3:((((wr.setCell ⟨w.heap.size,0,none⟩ (.int .u64 (w0 (zw s k)))).setCell ⟨w.heap.size,1,none⟩ (.int .u64 (w1 (zw s k)))).setCell ⟨w.heap.size,2,none⟩ (.int .u64 (w2 (zw s k)))).setCell ⟨w.heap.size,3,none⟩ (.int .u64 (w3 (zw s k)))).cell? ⟨w.heap.size,3,none⟩=some (.int .u64 (w3 (zw s k))):=World.cell?_setCell_same _ _ _ ((World.cell?_setCell_other _ _ _ _ (by simp)).trans ((World.cell?_setCell_other _ _ _ _ (by simp)).trans ((World.cell?_setCell_other _ _ _ _ (by simp)).trans r3)));refine bodyPost_ret (v:=.tuple #[uv (zw s k),.int .i64 0]) (by simp [results,Tryz.results72,go_sem,hS0,hS1,hS2,hS3]) rfl ?_;refine ⟨by rw [HE.out],?_⟩;exact ((((JB.setCell (by simp) _).setCell (by simp) _).setCell (by simp) _).setCell (by simp) _)
end Go.Proofs.YthonokeibcodpaaGreatDoor
namespace Go.Proofs.YthonokeibcodpaaGreatDoor
open Go Go.RowKit
set_option linter.unusedVariables false
theorem xT (s:ByteArray)(h:s.size≤32):sv (tl s)<big:=by
 have h1:=zeQ (tl s);have h2:256^(tl s).length≤256^32:=Nat.pow_le_pow_right (by omega) h;have h3:(256:Nat)^32=big:=rfl;omega
theorem zeS (r s:Nat)(hr:r<big)(hs:s<big)(v:Int)(hm:zQ r s v=false):Fn Tryz.prog 41 #[sgv r s (v)] (.tuple #[.string ⟨#[]⟩,.int .i64 1]):=by
 refine Fn.intro (c:=zf Tryz.f41) [.tmp 2,.tmp 3] 20 Tryz.func41 kr kr kr fun w=>?_;have H0:=St.start w;refine rS [.b,.v,.v] H0 kr fun gs1 w1 H1=>?_;clear H0;refine zc kr<|zg [0,1,2] kr kr<|rp [.l 0,.c (zah r s hr hs (v))] H1 kr fun gs2 w2 H2=>wX [2] ?_;clear H1;refine ya 5 (v:=.bool (zQ r s (v))) (v':=.bool false) (za hm) kr<|rp [.v] H2 kr fun gs3 w3 H3=>wX [] ?_;clear H2;refine zb<|zj kr kr<|rS [.v,.v] H3 kr fun gs4 w4 H4=>?_;clear H3;refine zk kr<|wV ?_;refine ⟨[.string (⟨#[]⟩),.int .i64 1],(.tmp (.string (⟨#[]⟩)) kr (.tmp (.int .i64 1) kr .nil)),?_,H4.below⟩;rfl
theorem zbP (r s:Nat)(hr:r<big)(hs:s<big)(v:Int)(hm:zQ r s v=true):Fn Tryz.prog 41 #[sgv r s (v)] (.tuple #[.string (sbs r s v),.int .i64 0]):=by
 refine Fn.intro (c:=zf Tryz.f41) [.tmp 2,.tmp 3] 20 Tryz.func41 kr kr kr fun w=>?_;have H0:=St.start w;refine rS [.b,.v,.v] H0 kr fun gs1 w1 H1=>?_;clear H0;refine zc kr<|zg [0,1,2] kr kr<|rp [.l 0,.c (zah r s hr hs (v))] H1 kr fun gs2 w2 H2=>wX [2] ?_;clear H1;refine ya 5 (v:=.bool (zQ r s (v))) (v':=.bool true) (za hm) kr<|rp [.v] H2 kr fun gs3 w3 H3=>wX [] ?_;clear H2;refine zb<|zl kr kr<|zn kr<|wW<|dSg (fun gs4=>[.v,.l 0,.c (f:=66) (args:=#[uv r]) (v:=.string (bs r)) (zeO r hr),.v,.l 0,.c (f:=66) (args:=#[uv s]) (v:=.string (bs s)) (zeO s hs),.o (ins:=[((.tmp 9),.string (bs r)),((.tmp 12),.string (bs s))]) (v:=.string ((bs r)++(bs s))) (fun ρ o w ho hi=>uk (t:=9) (t':=9) (x:=(.tmp 9)) (y:=(.tmp 12)) (bs r) (bs s) w ho hi.1 hi.2.1 (by rw [je,je];omega)),.v,.l 0,.v,.nw (fun b=>.slice (some ⟨b,0,none⟩) 1 1) #[.int .u8 (IntKind.u8.wrap v)] 5,.x (ins:=[((.tmp 17),.slice (some ⟨(gs4 10).b,0,none⟩) 1 1)]) [(1,((gs4 10).b,Obj.cells #[.int .u8 (IntKind.u8.wrap v)] 5 (0,0)))] (kj (t:=75) (t':=9) (e:=5) [(IntKind.u8.wrap v)] kr kr kr (Rw.lit #[.int .u8 (IntKind.u8.wrap v)] 1 (by rfl) (by unfold maxLen;omega))),.o (ins:=[((.tmp 13),.string ((bs r)++(bs s))),((.tmp 18),.string (strOfNums ([(IntKind.u8.wrap v)])))]) (v:=.string (((bs r)++(bs s))++(strOfNums ([(IntKind.u8.wrap v)])))) (fun ρ o w ho hi=>uk (t:=9) (t':=9) (x:=(.tmp 13)) (y:=(.tmp 18)) ((bs r)++(bs s)) (strOfNums ([(IntKind.u8.wrap v)])) w ho hi.1 hi.2.1 (by rw [zbI,je,je];show 32+32+1≤_;omega)),.v,.v]) H3 kr fun gs4 w4 H4=>?_;clear H3;refine zk kr<|wV ?_;refine ⟨[.string (((bs r)++(bs s))++(strOfNums ([(IntKind.u8.wrap v)]))),.int .i64 0],(.tmp (.string (((bs r)++(bs s))++(strOfNums ([(IntKind.u8.wrap v)])))) kr (.tmp (.int .i64 0) kr .nil)),?_,H4.below⟩;rfl
theorem zam (t:ByteArray)(h:ByteArray.size t=65):ByteArray.size (ByteArray.extract t 0 32)≤32:=by rw [←zt,qj,List.length_drop,List.length_take,zt,h];decide
theorem zan (t:ByteArray)(h:ByteArray.size t=65):ByteArray.size (ByteArray.extract t 32 64)≤32:=by rw [←zt,qj,List.length_drop,List.length_take,zt,h];decide
theorem zkf (t:ByteArray)(ht:ByteArray.size t≤0x7fffffffffffffff)(hsz:ByteArray.size t≠65):Fn Tryz.prog 46 #[.string t] (.tuple #[sgv 0 0 0,.int .i64 4]):=by
 refine Fn.intro (c:=zf Tryz.f46) [.cell 2 57,.tmp 3] 32 Tryz.func46 kr kr kr fun w=>?_;have H0:=St.start w;refine rS [.a,.v] H0 kr fun gs1 w1 H1=>?_;clear H0;refine zc kr<|rS [.v,.v,.E (.bool (!((ByteArray.size t:Int)==65))) (.bool true) (za (by rw [beq_eq_false_iff_ne.2 (by omega)];rfl))] H1 kr fun gs2 w2 H2=>?_;clear H1;refine zj kr kr<|rS [.v,.s 0,.v] H2 kr fun gs3 w3 H3=>?_;clear H2;refine zk kr<|wV ?_;refine ⟨[sgv 0 0 (0),.int .i64 4],(.agg (b:=(gs1 0).b) (Value.cells (sgv 0 0 (0))) 57 (0,0) kr (H3.get 0 kr) kr (.tmp (.int .i64 4) kr .nil)),?_,H3.below⟩
 kernel_rfl
theorem zkg (t:ByteArray)(ht:ByteArray.size t≤0x7fffffffffffffff)(hsz:ByteArray.size t=65)(hm:zQ (sv (tl (ByteArray.extract t 0 32))) (sv (tl (ByteArray.extract t 32 64))) (((by_ t 64:Nat)):Int)=true):Fn Tryz.prog 46 #[.string t] (.tuple #[sgv (sv (tl (ByteArray.extract t 0 32))) (sv (tl (ByteArray.extract t 32 64))) (((by_ t 64:Nat)):Int),.int .i64 0]):=by
 have hbl:=jj t 64;refine Fn.intro (c:=zf Tryz.f46) [.cell 2 57,.tmp 3] 32 Tryz.func46 kr kr kr fun w=>?_;have H0:=St.start w;refine rS [.a,.v] H0 kr fun gs1 w1 H1=>?_;clear H0;refine zc kr<|rS [.v,.v,.E (.bool (!((ByteArray.size t:Int)==65))) (.bool false) (za (by rw [beq_iff_eq.2 (by omega)];rfl))] H1 kr fun gs2 w2 H2=>?_;clear H1;refine zl kr kr<|zn kr<|wW<|rS [.v,.o (ins:=[((.tmp 9),.string t),((.const (.int .i64 64)),.int .i64 64)]) (v:=.int .u8 ((by_ t 64:Nat):Int)) (fun ρ o w ho hi=>qL (t:=9) (kd:=.i64) kr (x:=(.tmp 9)) (y:=(.const (.int .i64 64))) t 64 ho hi.1 hi.2.1 (by omega) w),.E (.int .i64 (IntKind.i64.wrap (((by_ t 64:Nat):Int)))) (.int .i64 ((by_ t 64:Nat):Int)) (zo (ui (a:=by_ t 64) (by omega))),.v,.a,.s 1] H2 kr fun gs3 w3 H3=>?_;clear H2;refine rS [.v,.o (ins:=[((.tmp 14),.string t),((.const (.int .i64 32)),.int .i64 32)]) (v:=.string (ByteArray.extract t 0 32)) (fun ρ o w ho hi=>xm (t:=9) (kd:=.i64) kr (x:=(.tmp 14)) (y:=(.const (.int .i64 32))) t 32 ho hi.1 hi.2.1 (by omega) w),.c (zal (ByteArray.extract t 0 32) (zam t hsz)),.v,.v,.v,.v,.s 1] H3 kr fun gs4 w4 H4=>?_;clear H3;refine yb [0,2,3,4,7] fun ρ1=>?_;have HK1:=H4.keep;clear H4;refine rS [.v,.o (ins:=[((.tmp 21),.string t),((.const (.int .i64 64)),.int .i64 64),((.const (.int .i64 32)),.int .i64 32)]) (v:=.string (ByteArray.extract t 32 64)) (fun ρ o w ho hi=>zcW (t:=9) (kd:=.i64) (kz:=.i64) kr (x:=(.tmp 21)) (y:=(.const (.int .i64 64))) (z:=(.const (.int .i64 32))) t 32 64 ho hi.1 hi.2.1 hi.2.2.1 (by omega) (by omega) w),.c (zal (ByteArray.extract t 32 64) (zan t hsz)),.v,.v,.v,.v,.s 1] HK1 kr fun gs5 w5 H5=>?_;clear HK1;refine zc kr<|zg [0,1,2] kr kr<|rp [.l 1,.c (zah (sv (tl (ByteArray.extract t 0 32))) (sv (tl (ByteArray.extract t 32 64))) (xT (ByteArray.extract t 0 32) (zam t hsz)) (xT (ByteArray.extract t 32 64) (zan t hsz)) (((by_ t 64:Nat):Int)))] H5 kr fun gs6 w6 H6=>wX [2] ?_;clear H5;refine ya 28 (v:=.bool (zQ (sv (tl (ByteArray.extract t 0 32))) (sv (tl (ByteArray.extract t 32 64))) (((by_ t 64:Nat):Int)))) (v':=.bool true) (za hm) kr<|rp [.v] H6 kr fun gs7 w7 H7=>wX [] ?_;clear H6;refine zb<|zl kr kr<|zn kr<|wW<|rS [.l 1,.s 0,.v] H7 kr fun gs8 w8 H8=>?_;clear H7;refine zk kr<|wV ?_;refine ⟨[sgv (sv (tl (ByteArray.extract t 0 32))) (sv (tl (ByteArray.extract t 32 64))) (((by_ t 64:Nat):Int)),.int .i64 0],(.agg (b:=(gs1 0).b) (Value.cells (sgv (sv (tl (ByteArray.extract t 0 32))) (sv (tl (ByteArray.extract t 32 64))) (((by_ t 64:Nat):Int)))) 57 (0,0) kr (H8.get 0 kr) kr (.tmp (.int .i64 0) kr .nil)),?_,H8.below⟩
 kernel_rfl
theorem zkh (t:ByteArray)(ht:ByteArray.size t≤0x7fffffffffffffff)(hsz:ByteArray.size t=65)(hm:zQ (sv (tl (ByteArray.extract t 0 32))) (sv (tl (ByteArray.extract t 32 64))) (((by_ t 64:Nat)):Int)=false):Fn Tryz.prog 46 #[.string t] (.tuple #[sgv 0 0 0,.int .i64 4]):=by
 have hbl:=jj t 64;refine Fn.intro (c:=zf Tryz.f46) [.cell 2 57,.tmp 3] 32 Tryz.func46 kr kr kr fun w=>?_;have H0:=St.start w;refine rS [.a,.v] H0 kr fun gs1 w1 H1=>?_;clear H0;refine zc kr<|rS [.v,.v,.E (.bool (!((ByteArray.size t:Int)==65))) (.bool false) (za (by rw [beq_iff_eq.2 (by omega)];rfl))] H1 kr fun gs2 w2 H2=>?_;clear H1;refine zl kr kr<|zn kr<|wW<|rS [.v,.o (ins:=[((.tmp 9),.string t),((.const (.int .i64 64)),.int .i64 64)]) (v:=.int .u8 ((by_ t 64:Nat):Int)) (fun ρ o w ho hi=>qL (t:=9) (kd:=.i64) kr (x:=(.tmp 9)) (y:=(.const (.int .i64 64))) t 64 ho hi.1 hi.2.1 (by omega) w),.E (.int .i64 (IntKind.i64.wrap (((by_ t 64:Nat):Int)))) (.int .i64 ((by_ t 64:Nat):Int)) (zo (ui (a:=by_ t 64) (by omega))),.v,.a,.s 1] H2 kr fun gs3 w3 H3=>?_;clear H2;refine rS [.v,.o (ins:=[((.tmp 14),.string t),((.const (.int .i64 32)),.int .i64 32)]) (v:=.string (ByteArray.extract t 0 32)) (fun ρ o w ho hi=>xm (t:=9) (kd:=.i64) kr (x:=(.tmp 14)) (y:=(.const (.int .i64 32))) t 32 ho hi.1 hi.2.1 (by omega) w),.c (zal (ByteArray.extract t 0 32) (zam t hsz)),.v,.v,.v,.v,.s 1] H3 kr fun gs4 w4 H4=>?_;clear H3;refine yb [0,2,3,4,7] fun ρ1=>?_;have HK1:=H4.keep;clear H4;refine rS [.v,.o (ins:=[((.tmp 21),.string t),((.const (.int .i64 64)),.int .i64 64),((.const (.int .i64 32)),.int .i64 32)]) (v:=.string (ByteArray.extract t 32 64)) (fun ρ o w ho hi=>zcW (t:=9) (kd:=.i64) (kz:=.i64) kr (x:=(.tmp 21)) (y:=(.const (.int .i64 64))) (z:=(.const (.int .i64 32))) t 32 64 ho hi.1 hi.2.1 hi.2.2.1 (by omega) (by omega) w),.c (zal (ByteArray.extract t 32 64) (zan t hsz)),.v,.v,.v,.v,.s 1] HK1 kr fun gs5 w5 H5=>?_;clear HK1;refine zc kr<|zg [0,1,2] kr kr<|rp [.l 1,.c (zah (sv (tl (ByteArray.extract t 0 32))) (sv (tl (ByteArray.extract t 32 64))) (xT (ByteArray.extract t 0 32) (zam t hsz)) (xT (ByteArray.extract t 32 64) (zan t hsz)) (((by_ t 64:Nat):Int)))] H5 kr fun gs6 w6 H6=>wX [2] ?_;clear H5;refine ya 28 (v:=.bool (zQ (sv (tl (ByteArray.extract t 0 32))) (sv (tl (ByteArray.extract t 32 64))) (((by_ t 64:Nat):Int)))) (v':=.bool false) (za hm) kr<|rp [.v] H6 kr fun gs7 w7 H7=>wX [] ?_;clear H6;refine zb<|zj kr kr<|rS [.v,.s 0,.v] H7 kr fun gs8 w8 H8=>?_;clear H7;refine zk kr<|wV ?_;refine ⟨[sgv 0 0 (0),.int .i64 4],(.agg (b:=(gs1 0).b) (Value.cells (sgv 0 0 (0))) 57 (0,0) kr (H8.get 0 kr) kr (.tmp (.int .i64 4) kr .nil)),?_,H8.below⟩
 kernel_rfl
def vI:ByteArray→Value:=fun t=>if ByteArray.size t≠65 then .tuple #[sgv 0 0 0,.int .i64 4] else if zQ (sv (tl (ByteArray.extract t 0 32))) (sv (tl (ByteArray.extract t 32 64))) (((by_ t 64:Nat)):Int)=true then .tuple #[sgv (sv (tl (ByteArray.extract t 0 32))) (sv (tl (ByteArray.extract t 32 64))) (((by_ t 64:Nat)):Int),.int .i64 0] else .tuple #[sgv 0 0 0,.int .i64 4]
theorem zeT (t:ByteArray)(ht:ByteArray.size t≤0x7fffffffffffffff):Fn Tryz.prog 46 #[.string t] (vI t):=by
 unfold vI;by_cases h:ByteArray.size t≠65
 ·rw [if_pos h];exact zkf t ht h
 ·rw [if_neg h];have h2:ByteArray.size t=65:=by omega
  cases hm:zQ (sv (tl (ByteArray.extract t 0 32))) (sv (tl (ByteArray.extract t 32 64))) (((by_ t 64:Nat)):Int)
  ·rw [if_neg (by simp)];exact zkh t ht h2 hm
  ·rw [if_pos rfl];exact zkg t ht h2 hm
end Go.Proofs.YthonokeibcodpaaGreatDoor
namespace Go.Proofs.YthonokeibcodpaaGreatDoor
open Go.RowKit
theorem zki (x:Int)(_h0:0≤x)(h1:x<256):(UInt8.ofNat x.toNat).toNat=x.toNat:=by
 simp;omega
theorem zao (x:Int)(n:Nat)(hx:Wd x):
 256*(256*(256*(256*(256*(256*(256*(256*n+(x / 72057594037927936%256).toNat)+(x / 281474976710656%256).toNat)+(x / 1099511627776%256).toNat)+(x / 4294967296%256).toNat)+(x / 16777216%256).toNat)+(x / 65536%256).toNat)+(x / 256%256).toNat)+(x%256).toNat=0x10000000000000000*n+x.toNat:=by
 obtain ⟨hx0,hx1⟩:=hx;obtain ⟨y,rfl⟩:=Int.eq_ofNat_of_zero_le hx0;have hy:y<0x10000000000000000:=by omega
 have c0:((y:Int)%256).toNat=y%256:=by omega
 have c1:((y:Int) / 256%256).toNat=y / 256%256:=by omega
 have c2:((y:Int) / 65536%256).toNat=y / 65536%256:=by omega
 have c3:((y:Int) / 16777216%256).toNat=y / 16777216%256:=by omega
 have c4:((y:Int) / 4294967296%256).toNat=y / 4294967296%256:=by omega
 have c5:((y:Int) / 1099511627776%256).toNat=y / 1099511627776%256:=by omega
 have c6:((y:Int) / 281474976710656%256).toNat=y / 281474976710656%256:=by omega
 have c7:((y:Int) / 72057594037927936%256).toNat=y / 72057594037927936%256:=by omega
 rw [Int.toNat_natCast,c7,c6,c5,c4,c3,c2,c1,c0];clear c0 c1 c2 c3 c4 c5 c6 c7 hx0 hx1;have s0:y=256*(y / 256)+y%256:=by omega
 have s1:y / 256=256*(y / 65536)+y / 256%256:=by rw [show y / 65536=y / 256 / 256 from by rw [Nat.div_div_eq_div_mul]];omega
 have s2:y / 65536=256*(y / 16777216)+y / 65536%256:=by rw [show y / 16777216=y / 65536 / 256 from by rw [Nat.div_div_eq_div_mul]];omega
 have s3:y / 16777216=256*(y / 4294967296)+y / 16777216%256:=by rw [show y / 4294967296=y / 16777216 / 256 from by rw [Nat.div_div_eq_div_mul]];omega
 have s4:y / 4294967296=256*(y / 1099511627776)+y / 4294967296%256:=by rw [show y / 1099511627776=y / 4294967296 / 256 from by rw [Nat.div_div_eq_div_mul]];omega
 have s5:y / 1099511627776=256*(y / 281474976710656)+y / 1099511627776%256:=by rw [show y / 281474976710656=y / 1099511627776 / 256 from by rw [Nat.div_div_eq_div_mul]];omega
 have s6:y / 281474976710656=256*(y / 72057594037927936)+y / 281474976710656%256:=by rw [show y / 72057594037927936=y / 281474976710656 / 256 from by rw [Nat.div_div_eq_div_mul]];omega
 have s7:y / 72057594037927936%256=y / 72057594037927936:=by omega
 generalize y / 256=z1 at*;generalize y / 65536=z2 at*;generalize y / 16777216=z3 at*;generalize y / 4294967296=z4 at*;generalize y / 1099511627776=z5 at*;generalize y / 281474976710656=z6 at*;generalize y / 72057594037927936=z7 at*;omega
theorem zbQ (A:Nat)(hA:A<big):sv (bs A).data.toList=A:=by
 have e:(bs A).data.toList=(bn A).map fun n=>UInt8.ofNat n.toNat:=by simp [bs,strOfNums]
 have b: ∀x:Int,(UInt8.ofNat (x%256).toNat).toNat=(x%256).toNat:=fun x=>zki _ (by omega) (by omega);rw [e];unfold sv bn;simp only [List.map_cons,List.map_nil,List.foldl_cons,List.foldl_nil,b];rw [zao _ _ (wd3 A),zao _ _ (wd2 A),zao _ _ (wd1 A),zao _ _ (wd0 A)];have h:=jM A hA;have h0:=wd0 A;have h1:=wd1 A;have h2:=wd2 A;have h3:=wd3 A;unfold Wd at h0 h1 h2 h3;omega
end Go.Proofs.YthonokeibcodpaaGreatDoor
namespace Go.Proofs.YthonokeibcodpaaGreatDoor
open Go Go.RowKit
set_option linter.unusedVariables false
theorem zeU: ∀(n:Nat) (a b:List UInt8),a.length=n→b.length=n→sv a=sv b→a=b
 | 0,a,b,ha,hb,_=>by rw [List.length_eq_zero_iff.1 ha,List.length_eq_zero_iff.1 hb]
 | n+1,a,b,ha,hb,h=>by
  rcases List.eq_nil_or_concat a with rfl|⟨a,x,rfl⟩
  ·simp at ha
  rcases List.eq_nil_or_concat b with rfl|⟨b,y,rfl⟩
  ·simp at hb
  simp only [List.concat_eq_append] at ha hb h ⊢;rw [zbO,zbO] at h;have hx:=x.toNat_lt;have hy:=y.toNat_lt;have h1:sv a=sv b:=by omega
  have h2:x.toNat=y.toNat:=by omega
  rw [zeU n a b (by simpa using ha) (by simpa using hb) h1,UInt8.toNat_inj.1 h2]
theorem zeV {t:ByteArray}(h:t.size=32):bs (sv (tl t))=t:=by
 have hb:sv (tl t)<big:=xT t (by omega);apply qM;exact zeU 32 _ _ (je _) (by rw [zt,h]) (zbQ _ hb)
theorem jA (r s:Nat)(v:Int):(sbs r s v).size=65:=by
 unfold sbs;rw [zbI,zbI,je,je];rfl
theorem zap (r s:Nat)(v:Int):tl (sbs r s v)=tl (bs r)++(tl (bs s)++tl (strOfNums [IntKind.u8.wrap v])):=by
 unfold sbs;rw [km,km,List.append_assoc]
theorem zkj (r s:Nat)(v:Int):(sbs r s v).extract 0 32=bs r:=by
 apply qM;rw [qj,zap,List.drop_zero];exact List.take_left' (by rw [zt];exact je r)
theorem zkk (r s:Nat)(v:Int):(sbs r s v).extract 32 64=bs s:=by
 have h1:(tl (bs r)).length=32:=by rw [zt];exact je r
 have h2:(tl (bs s)).length=32:=by rw [zt];exact je s
 apply qM;rw [qj,zap,←List.append_assoc,List.take_left' (by rw [List.length_append];omega),List.drop_left' h1]
theorem zeW (r s:Nat)(v:Nat)(hv:v<256):by_ (sbs r s (v:Int)) 64=v:=by
 have h1:(tl (bs r)).length=32:=by rw [zt];exact je r
 have h2:(tl (bs s)).length=32:=by rw [zt];exact je s
 unfold by_;rw [zap,←List.append_assoc,List.getD_eq_getElem?_getD,List.getElem?_append_right (by rw [List.length_append];omega),List.length_append,h1,h2];have e:IntKind.u8.wrap (v:Int)=(v:Int):=by simp [IntKind.wrap,IntKind.bits,IntKind.signed];omega
 rw [e];show (((tl (strOfNums [(v:Int)]))[0]?).getD 0).toNat=v;have e2:tl (strOfNums [(v:Int)])=[UInt8.ofNat v]:=by simp [strOfNums,tl]
 rw [e2];simp;omega
def sgR (t:ByteArray):Nat:=sv (tl (t.extract 0 32))
def sgS (t:ByteArray):Nat:=sv (tl (t.extract 32 64))
def sgV (t:ByteArray):Int:=((by_ t 64:Nat):Int)
theorem zbR {t:ByteArray}(h:t.size=65):sgR t<big:=xT _ (by rw [ByteArray.size_extract];omega)
theorem zbS {t:ByteArray}(h:t.size=65):sgS t<big:=xT _ (by rw [ByteArray.size_extract];omega)
theorem zkl {t:ByteArray}(h:t.size=65):sbs (sgR t) (sgS t) (sgV t)=t:=by
 have hl:(tl t).length=65:=by rw [zt,h]
 apply qM;rw [zap];unfold sgR sgS sgV;rw [zeV (by rw [ByteArray.size_extract];omega),zeV (by rw [ByteArray.size_extract];omega),qj,qj,List.drop_zero];have e:tl (strOfNums [IntKind.u8.wrap ((by_ t 64:Nat):Int)])=(tl t).drop 64:=by
  have hb:=jj t 64;have e1:IntKind.u8.wrap ((by_ t 64:Nat):Int)=((by_ t 64:Nat):Int):=by simp [IntKind.wrap,IntKind.bits,IntKind.signed];omega
  rw [e1];have e2:tl (strOfNums [((by_ t 64:Nat):Int)])=[UInt8.ofNat (by_ t 64)]:=by simp [strOfNums,tl]
  rw [e2,List.drop_eq_getElem_cons (by omega),List.drop_eq_nil_of_le (by omega)];congr 1;unfold by_;rw [List.getD_eq_getElem?_getD,List.getElem?_eq_getElem (by omega:64<(tl t).length)];simp
 rw [e];have h1:((tl t).take 64).drop 32++(tl t).drop 64=(tl t).drop 32:=by
  rw [List.drop_take];have:(tl t).drop 64=((tl t).drop 32).drop 32:=by rw [List.drop_drop]
  rw [this];exact List.take_append_drop 32 _
 rw [h1];exact List.take_append_drop 32 _
theorem zkm {r s:Nat}{v:Int}(h:zQ r s v=true):v=0∨v=1:=by
 unfold zQ at h;rw [Bool.and_eq_true,Bool.or_eq_true,decide_eq_true_iff,decide_eq_true_iff] at h;exact h.2
theorem zkn {r s:Nat}{v:Int}(h:zQ r s v=true):r≠0:=fun e=>by
 subst e;unfold zQ at h;rw [zjE] at h;simp at h
theorem zaq {r s:Nat}{v:Int}(hr:r<big):sgR (sbs r s v)=r:=by
 unfold sgR;rw [zkj];exact zbQ r hr
theorem zar {r s:Nat}{v:Int}(hs:s<big):sgS (sbs r s v)=s:=by
 unfold sgS;rw [zkk];exact zbQ s hs
theorem zas {r s:Nat}{v:Int}(h:zQ r s v=true):sgV (sbs r s v)=v:=by
 unfold sgV;rcases zkm h with rfl | rfl
 ·exact congrArg (Nat.cast:Nat→Int) (zeW r s 0 (by decide))
 ·exact congrArg (Nat.cast:Nat→Int) (zeW r s 1 (by decide))
theorem zeX (t:ByteArray):vI t=if t.size=65∧zQ (sgR t) (sgS t) (sgV t)=true then .tuple #[sgv (sgR t) (sgS t) (sgV t),.int .i64 0] else .tuple #[sgv 0 0 0,.int .i64 4]:=by
 unfold vI;by_cases h:t.size=65
 ·rw [if_neg (fun h9=>h9 h)];by_cases hm:zQ (sgR t) (sgS t) (sgV t)=true
  ·rw [if_pos (show t.size=65∧zQ (sgR t) (sgS t) (sgV t)=true from ⟨h,hm⟩)];exact if_pos hm
  ·rw [if_neg (show ¬(t.size=65∧zQ (sgR t) (sgS t) (sgV t)=true) from fun h9=>hm h9.2)];exact if_neg hm
 ·rw [if_pos h,if_neg (fun h9=>h h9.1)]
theorem zko (r s:Nat)(v:Int)(r' s':Nat)(v':Int)(hr:r<big)(hs:s<big)(hr':r'<big)(hs':s'<big)(w:World):(Op.equalIn 10000 57 (.agg (Value.cells (sgv r s v))) (.agg (Value.cells (sgv r' s' v')))).run Tryz.prog w=.ok (decide (r=r')&&(decide (s=s')&&(v==v'))) w:=by
 rw [run_equalIn_struct w 9999 57 _ _ kr kr,
  show (Tryz.prog.fieldsOf 57).toList= [{ name:= "R",type:=55,offset:=0,embedded:=false,tag:= "",pkgPath:= "",byteOffset:=0 },{ name:= "S",type:=55,offset:=4,embedded:=false,tag:= "",pkgPath:= "",byteOffset:=32 },{ name:= "V",type:=3,offset:=8,embedded:=false,tag:= "",pkgPath:= "",byteOffset:=64 }] by kernel_rfl]
 have px: ∀r s v,(part 55 (Value.cells (sgv r s v)) 0).run Tryz.prog w=.ok (uv r) w:=fun r s v=>by kernel_rfl
 have py: ∀r s v,(part 55 (Value.cells (sgv r s v)) 4).run Tryz.prog w=.ok (uv s) w:=fun r s v=>by kernel_rfl
 have pb: ∀r s v,(part 3 (Value.cells (sgv r s v)) 8).run Tryz.prog w=.ok (.int .i64 v) w:=fun r s v=>by kernel_rfl
 have ex: ∀r r':Nat,r<big→r'<big→(Op.equalIn 9999 55 (uv r) (uv r')).run Tryz.prog w=.ok (decide (r=r')) w:=fun r r' hr hr'=>by
  have h9:=zbb hr hr';rw [←h9];exact za8 9997 _ _ _ _ _ _ _ _ w
 have eb:(Op.equalIn 9999 3 (.int .i64 v) (.int .i64 v')).run Tryz.prog w=.ok (v==v') w:=by
  rw [run_equalIn_int w 9998 3 .i64 .i64 v v' Tryz.underlying3]
 have n1:("R" :String)≠ "_" :=by decide
 have n2:("S" :String)≠ "_" :=by decide
 have n3:("V" :String)≠ "_" :=by decide
 simp only [Op.eqFields,if_pos n1,if_pos n2,if_pos n3,Sem.run_bind,px,py,pb,Result.andThen_ok,ex r r' hr hr',ex s s' hs hs',eb,Sem.run_ite];by_cases h1:r=r'
 ·by_cases h2:s=s'
  ·cases h3:(v==v')<;>simp [h1,h2]
  ·simp [h1,h2]
 ·simp [h1]
theorem zbT {ρ:Env}(r s:Nat)(v:Int)(r' s':Nat)(v':Int)(hr:r<big)(hs:s<big)(hr':r'<big)(hs':s'<big){x y:Operand}{o:Oper}(w:World)(ho:o.op=.binOp .neq 57 x y 57)(hx:ev ρ x=.agg (Value.cells (sgv r s v)))(hy:ev ρ y=.agg (Value.cells (sgv r' s' v'))):
 (execOp (ev ρ) o).run Tryz.prog w=.ok (.value (.bool (!(decide (r=r')&&(decide (s=s')&&(v==v')))))) w:=by
 have h:=zko r s v r' s' v' hr hs hr' hs' w;generalize Value.cells (sgv r s v)=X at h hx;generalize Value.cells (sgv r' s' v')=Y at h hy;unfold execOp;simp only [ho,hx,hy,resolve,Sem.run_bind,Sem.run_pure,Result.andThen_ok,run_eqGuard_agg w _ _ _ _ _ _ (show Tryz.prog.eqGuardType Tryz.prog.depth 57=false by kernel_rfl),run_eql_struct,run_neq_struct,h]
abbrev jX:ByteArray:=⟨#[97,110,110,115]⟩
def xC:List ByteArray:=[⟨#[97]⟩,⟨#[110]⟩,⟨#[110]⟩,⟨#[115]⟩]
theorem jY:zbF jX xC:=⟨by decide,by kernel_rfl,by kernel_rfl,by kernel_rfl,List.all_eq_true.1 (show xC.all kdOk=true by kernel_rfl)⟩
def txF (to:ByteArray)(a n:Nat)(sg:ByteArray):Fe:=.cons (0,to) .nil (.cons (a,em) .nil (.cons (n,em) .nil (.cons (0,sg) .nil .nil)))
theorem kE (m sz ln:Nat):zB 97 0 m sz ln=(decide (m=0)&&(decide (sz=20)&&decide (ln=0))):=by
 unfold zB yE zW yc;rw [Bool.eq_iff_iff];simp<;>omega
theorem zat (m sz ln:Nat):zB 115 0 m sz ln=(decide (m=0)&&(decide (sz=65)&&decide (ln=0))):=by
 unfold zB yE zW yc;rw [Bool.eq_iff_iff];simp<;>omega
theorem zau (m sz ln:Nat):zB 110 0 m sz ln=(decide (sz=0)&&decide (ln=0)):=by
 unfold zB yE zW yc;rw [Bool.eq_iff_iff];simp<;>omega
theorem zeY (m sz ln:Nat):zB 98 0 m sz ln=(decide (m=0)&&(decide (sz≤64)&&decide (ln=0))):=by
 unfold zB yE zW yc;rw [Bool.eq_iff_iff];simp<;>omega
theorem jr (g:Nat)(q:ByteArray)(x:Nat×ByteArray)(l:Fe)(hg:by_ q 0=g)(h:g≠42):jb q x l=zB g 0 x.1 x.2.size l.len:=by
 have e:kdB q=.nil:=by unfold kdB;rw [hg,if_neg h]
 unfold jb;rw [e,hg,beq_eq_false_iff_ne.2 h];simp [Fr.len]
theorem zbU (l:Fe):yy xC l=true↔ ∃(to:ByteArray) (a n:Nat) (sg:ByteArray),l=txF to a n sg∧to.size=20∧sg.size=65:=by
 constructor
 ·intro h;unfold xC at h
  match l,h with
  | .cons x1 l1 (.cons x2 l2 (.cons x3 l3 (.cons x4 l4 .nil))),h=>
   simp only [yy,jr 97 ⟨#[97]⟩ x1 l1 rfl (by decide),jr 110 ⟨#[110]⟩ x2 l2 rfl (by decide),jr 110 ⟨#[110]⟩ x3 l3 rfl (by decide),jr 115 ⟨#[115]⟩ x4 l4 rfl (by decide),kE,zat,zau,Bool.and_eq_true,decide_eq_true_eq] at h;obtain ⟨⟨h1,h2,h3⟩,⟨h4,h5⟩,⟨h6,h7⟩,⟨h8,h9,h10⟩,_⟩:=h;obtain ⟨m1,s1⟩:=x1;obtain ⟨m2,s2⟩:=x2;obtain ⟨m3,s3⟩:=x3;obtain ⟨m4,s4⟩:=x4;obtain rfl:=Fr.len_zero h3;obtain rfl:=Fr.len_zero h5;obtain rfl:=Fr.len_zero h7;obtain rfl:=Fr.len_zero h10;obtain rfl:=jz h4;obtain rfl:=jz h6;simp only at h1 h8;subst h1 h8;exact ⟨s1,m2,m3,s4,rfl,h2,h9⟩
  | .nil,h=>exact nomatch h
  | .cons _ _ .nil,h=>simp [yy] at h
  | .cons _ _ (.cons _ _ .nil),h=>simp [yy] at h
  | .cons _ _ (.cons _ _ (.cons _ _ .nil)),h=>simp [yy] at h
  | .cons _ _ (.cons _ _ (.cons _ _ (.cons _ _ (.cons _ _ _)))),h=>simp [yy] at h
 ·rintro ⟨to,a,n,sg,rfl,h1,h2⟩;unfold xC txF;simp only [yy,jr 97 ⟨#[97]⟩ _ _ rfl (by decide),jr 110 ⟨#[110]⟩ _ _ rfl (by decide),jr 115 ⟨#[115]⟩ _ _ rfl (by decide),kE,zat,zau,h1,h2];rfl
theorem zkp (to:ByteArray)(a n:Nat)(sg:ByteArray):(txF to a n sg).cnt=4:=rfl
def qH (to:ByteArray)(r s:Nat)(v:Int):Bool:=decide (to.size=20)&&zQ r s v
def txW (to:ByteArray)(a n r s:Nat)(v:Int):ByteArray×Nat:=wrV jX (txF to a n (if zQ r s v=true then sbs r s v else em))
theorem zkq {to:ByteArray}{a n r s:Nat}{v:Int}(h:qH to r s v=false):txW to a n r s v=(em,1):=by
 unfold txW;rw [zaf jY,if_neg];rintro ⟨h1,_⟩;obtain ⟨to',a',n',sg',e,h2,h3⟩:=(zbU _).1 h1;unfold txF at e;injection e with e1 _ e2;injection e2 with _ _ e3;injection e3 with _ _ e4;injection e4 with e5
 injection e1 with _ e6;injection e5 with _ e7
 unfold qH at h;subst e6;rw [decide_eq_true h2,Bool.true_and] at h;rw [h] at e7;rw [if_neg (by decide)] at e7;rw [←e7] at h3;cases h3
theorem kG {to:ByteArray}{a n r s:Nat}{v:Int}(h:qH to r s v=true):txW to a n r s v=wrV jX (txF to a n (sbs r s v)):=by
 unfold qH at h;rw [Bool.and_eq_true] at h;unfold txW;rw [if_pos h.2]
theorem zeZ {to to':ByteArray}{a a' n n':Nat}{sg sg':ByteArray}(h:txF to a n sg=txF to' a' n' sg'):to=to'∧a=a'∧n=n'∧sg=sg':=by
 unfold txF at h;injection h with e1 _ e2;injection e2 with e3 _ e4;injection e4 with e5 _ e6;injection e6 with e7
 injection e1 with _ e1;injection e3 with e3 _;injection e5 with e5 _;injection e7 with _ e7
 exact ⟨e1,e3,e5,e7⟩
def hv:List UInt8→List UInt8
 | []=>[]
 | b::t=>(b >>> 4)::(b &&& 15)::hv t
def isP (l:List UInt8):Bool:=l.all fun b=>decide (b.toNat≤15)
def jn:List UInt8→List UInt8
 | a::b::t=>(a <<< 4 ||| b)::jn t
 | _=>[]
def lexB:List UInt8→List UInt8→Bool
 | [],[]=>false
 | [],_::_=>true
 | _::_,[]=>false
 | a::l,b::m=>if a.toNat<b.toNat then true else if a=b then lexB l m else false
structure Nd where
 kind:Int
 part:ByteArray
 value:ByteArray
 kids:List Int
def kyB (l:List UInt8):Bool:=isP l&& !decide (l.length%2=1)
def kyS (l:List UInt8):ByteArray:=bif kyB l then zh (jn l) else ⟨#[]⟩
theorem zkr {P:Program}{ρ:Env}{t e:TypeId}{size bytes:Nat}(ht:ye P t=some (e,size,bytes)){x z:Operand}{o:Oper}{kz:IntKind}(b q n c j:Nat)(ho:o.op=.slice t x (some z) none none)(hx:ev ρ x=.slice (some ⟨b,q,none⟩) n c)
 (hz:ev ρ z=.int kz (j:Int)) (hj:j≤n) (hn:n≤c):
 ∀w,(execOp (ev ρ) o).run P w=.ok (.value (.slice (some ⟨b,if c=j then q else q+j*size,none⟩) (n-j) (c-j))) w:=fun w=>by
 obtain ⟨it,z',hu,hi,hz',hsz,hby,hzs,h0⟩:=qb ht;have hS:(sizeOf e).run P w=.ok size w:=by simp [sizeOf,typeInfo,hi,hsz]
 unfold execOp;by_cases hc:c=j
 ·have hnj:n=j:=by omega
  subst hc hnj;simp [ho,hx,hz,Instr.sliceAt,Instr.slice,Instr.sliceBounds,Instr.sliceBound,asIntOf,run_underlying hu,hS]
 ·simp [ho,hx,hz,Instr.sliceAt,Instr.slice,Instr.sliceBounds,Instr.sliceBound,asIntOf,run_underlying hu,hS,hj,qh,hc]
section
variable {P:Program}{N:Nat}{ops:Array Oper}{i:Nat}{r:List Nat}{K:Env→World→Prop}{ρ:Env}{w:World}
end
abbrev Pr:=ByteArray×ByteArray
def mayM (k v:ByteArray):Bool:=(decide (1≤k.size)&&decide (k.size≤32))&&(decide (1≤v.size)&&decide (v.size≤500))
def zks (part:List UInt8)(v:ByteArray)(ps:List Pr):List Pr:=if mayM (kyS part) v=true then ps++ [(kyS part,v)] else ps
def zkt (kind:Int)(i:Nat):List UInt8:=if kind=3 then [UInt8.ofNat i] else []
def zbV (go:Int→List UInt8→Nat×List Pr→Nat×List Pr)(x:Nd)(part:List UInt8):Nat→Nat×List Pr→Nat×List Pr
 | 0,s=>s
 | i+1,s=>if x.kids.getD i (-1)= -1 then zbV go x part i s else go (x.kids.getD i (-1)) (part++zkt x.kind i) (zbV go x part i s)
def ze0 (A:List Nd):Nat→Int→List UInt8→Nat×List Pr→Nat×List Pr
 | 0,_,_,s=>s
 | f+1,at_,ahead,s=>
  if s.1=0∨at_<0∨(A.length:Int)≤at_ then s
  else match A[at_.toNat]? with
   | none=>s
   | some x=>if 64<ahead.length+x.part.size then (s.1-1,s.2)
    else zbV (ze0 A f) x (ahead++tl x.part) 16 (s.1-1,zks (ahead++tl x.part) x.value s.2)
section
variable {P:Program}{N:Nat}{ops:Array Oper}{i:Nat}{r:List Nat}{K:Env→World→Prop}{ρ:Env}{w:World}
end
end Go.Proofs.YthonokeibcodpaaGreatDoor
