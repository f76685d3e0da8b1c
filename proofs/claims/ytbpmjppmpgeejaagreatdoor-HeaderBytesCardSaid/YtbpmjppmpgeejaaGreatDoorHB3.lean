/-
  Texts of the proof,part 3.
-/
import Derived.Test.YtbpmjppmpgeejaaGreatDoorProg
import Derived.Lib.AppendStr
import Derived.Lib.Builder
import Derived.Recover
import Derived.Test.YtbpmjppmpgeejaaGreatDoorHB1
import Derived.Test.YtbpmjppmpgeejaaGreatDoorHB2
set_option maxRecDepth 100000
set_option maxHeartbeats 4000000
namespace Go.Proofs.YtbpmjppmpgeejaaGreatDoor
open Go Go.RowKit
set_option linter.unusedVariables false
theorem zhj (l:Bool)(s:ByteArray)(p:Option Addr)(n c:Nat)(k:Fo)(hs:s.size≤0x800000000000):FnP Tryz.prog 126 #[.agg #[.bool l,.string s,.slice p n c]] (fun w=>zp w.heap.size w p n k) (.bool (zD l s n)):=by
 refine FnP.intro (c:=zk Tryz.f126) [.tmp 2] 12 Tryz.func126 kr kr kr fun w hpre=>?_;have H0:=St.start w;have hn:=hpre.1;have hnm:=hpre.2.1;refine rS [.b,.v] H0 kr fun gs1 w1 H1=>?_;clear H0;refine zb kr<|rS [.v,.l 0] H1 kr fun gs2 w2 H2=>?_;clear H1;refine Or.elim (Bool.eq_false_or_eq_true (l)).symm (fun hq1=>?_) (fun hq1=>?_)
 ·refine yr 4 (v:=.bool l) (v':=.bool false) (za hq1) kr<|zh kr kr<|zj kr<|wW<|zg [0,1,2,3,4] kr kr<|rp [.v,.l 0,.v] H2 kr fun gs3 w3 H3=>wX [3,4] ?_;clear H2;by_cases hc1:(n:Nat)>0
  ·refine rp [.E (.bool (decide (0<(n:Int)))) (.bool true) (za (decide_eq_true (by omega))),.v] H3 kr fun gs4 w4 H4=>wX [] ?_;clear H3;refine zc<|zm kr<|wV ?_;refine ⟨[.bool true],(.tmp (.bool true) kr .nil),?_,H4.below⟩;rw [hq1];exact za (zc0 (decide_eq_true (by omega)))
  ·refine rp [.E (.bool (decide (0<(n:Int)))) (.bool false) (za (decide_eq_false (by omega))),.v] H3 kr fun gs5 w5 H5=>wX [] ?_;clear H3;refine zc<|zm kr<|wV ?_;refine ⟨[.bool false],(.tmp (.bool false) kr .nil),?_,H5.below⟩;rw [hq1];exact za (zc0 (decide_eq_false (by omega)))
 ·refine yr 4 (v:=.bool l) (v':=.bool true) (za hq1) kr<|zi kr kr<|zg [0,1,2,3] kr kr<|rp [.v,.l 0] H2 kr fun gs6 w6 H6=>wX [2,3] ?_;clear H2;by_cases hx2:s=⟨#[]⟩
  ·refine rp [.E (.bool (!(ByteArray.toList s==ByteArray.toList (⟨#[]⟩)))) (.bool false) (za (by rw [xE s (⟨#[]⟩) hx2];rfl)),.v] H6 kr fun gs7 w7 H7=>wX [] ?_;clear H6;refine zc<|zm kr<|wV ?_;refine ⟨[.bool false],(.tmp (.bool false) kr .nil),?_,H7.below⟩;rw [hq1];exact za (zcZ (decide_eq_false (by rw [hx2];decide)))
  ·refine rp [.E (.bool (!(ByteArray.toList s==ByteArray.toList (⟨#[]⟩)))) (.bool true) (za (by rw [jB s (⟨#[]⟩) hx2];rfl)),.v] H6 kr fun gs8 w8 H8=>wX [] ?_;clear H6;refine zc<|zm kr<|wV ?_;refine ⟨[.bool true],(.tmp (.bool true) kr .nil),?_,H8.below⟩;rw [hq1];exact za (zcZ (decide_eq_true (uk hx2)))
theorem zhk (m:Nat)(ih: ∀(l:Bool) (s:ByteArray) (p:Option Addr) (n c:Nat) (k:Fo) (room:Nat),s.size≤0x800000000000→room≤4000→k.cnt<m→FnP Tryz.prog 101 #[.agg #[.bool l,.string s,.slice p n c],.int .i64 (room:Int)] (fun w=>zp w.heap.size w p n k) (.int .i64 (lfV (lf1 l s n (lfF k) room))))(l:Bool)(s:ByteArray)(p:Option Addr)(n c:Nat)(k:Fo)(hs:s.size≤0x800000000000)(room:Nat)(hro:room≤4000)(hkm:k.cnt<m+1):FnP Tryz.prog 101 #[.agg #[.bool l,.string s,.slice p n c],.int .i64 (room:Int)] (fun w=>zp w.heap.size w p n k) (.int .i64 (lfV (lf1 l s n (lfF k) room))):=by
 refine FnP.intro (c:=zk Tryz.f101) [.tmp 4] 30 Tryz.func101 kr kr kr fun w hpre=>?_;have H0:=St.start w;have hn:=hpre.1;have hnm:=hpre.2.1;refine rS [.b,.v] H0 kr fun gs1 w1 H1=>?_;clear H0;refine zb kr<|zg [0,1,2,3,4,5] kr kr<|rp [.v] H1 kr fun gs2 w2 H2=>wX [1,2,3,4,5] ?_;clear H1;by_cases hc1:(room:Nat)=0
 ·refine rp [.E (.bool ((room:Int)==0)) (.bool true) (za (beq_iff_eq.2 (by omega))),.v,.n,.n,.v] H2 kr fun gs3 w3 H3=>wX [] ?_;clear H2;refine zc<|zi kr kr<|rS [.v] H3 kr fun gs4 w4 H4=>?_;clear H3;refine zm kr<|wV ?_;refine ⟨[.int .i64 (-1)],(.tmp (.int .i64 (-1)) kr .nil),?_,H4.below⟩;exact zd (zg2 (by omega)).symm
 ·refine rp [.E (.bool ((room:Int)==0)) (.bool false) (za (beq_eq_false_iff_ne.2 (by omega))),.v,.l 0,.cp (pre:=fun w=>zp w.heap.size w p n k) (zhj l s p n c k (by omega)) [] (fun w hb hd=>(zp.call hpre hb)),.v] H2 kr fun gs5 w5 H5=>wX [] ?_;clear H2;refine zc<|Or.elim (Bool.eq_false_or_eq_true (zD l s n)).symm (fun hq1=>?_) (fun hq1=>?_)
  ·refine yr 11 (v:=.bool (zD l s n)) (v':=.bool false) (za hq1) kr<|yr 12 (v:=.bool (zD l s n)) (v':=.bool false) (za hq1) kr<|zh kr kr<|zj kr<|wW<|rS [.v,.E (.int .i64 (IntKind.i64.wrap ((room:Int)-1))) (.int .i64 ((room-1:Nat):Int)) (zd (jS (a:=room) (b:=1) (by omega))),.v] H5 kr fun gs6 w6 H6=>?_;clear H5;refine zb kr<|rS [.v,.l 0,.v,.v] H6 kr fun gs7 w7 H7=>?_;clear H6;refine zn 0 kr ?_;have HL2:St w.heap.size w w7 [((gs1 0).b,Obj.cells #[.bool l,.string s,.slice p n c] 83 (0,0))]:=H7.as kr;clear H7;have HD3:St w.heap.size w w7 []:=HL2.sub (List.Sublist.cons _ List.Sublist.slnil);refine zG kr (fun mz ρ ww=> ∃(i:Nat) (r:Fo) (q:Nat),n-i=mz∧(FoR w.heap.size w p i r)∧(i+Fo.len r=n)∧(q≤4000)∧(Fo.cnt r≤Fo.cnt k)∧(lfF k (room-1)=lfF r q)∧St w.heap.size w ww []∧Is [(0,.agg #[.bool l,.string s,.slice p n c]),(1,.int .i64 (q:Int)),(2,.pointer (some ⟨(gs1 0).b,0,none⟩)),(12,.bool false),(16,.slice p n c),(17,.int .i64 (n:Int)),(18,.int .i64 (i:Int))] ρ) (n-0) ⟨0,k,(room-1),rfl,(zp.start hpre),(by have hn0:=(hpre).1;omega),(by omega),(Nat.le_refl _),rfl,HD3,(Is.of ⟨kr,kr,kr,kr,kr,kr,kr,trivial⟩)⟩ ?_;clear HD3;rintro _ _ w8 ⟨i,r,q,rfl,hR,hN,hq0,hcn,hlf,H8,_,rfl⟩;by_cases hc4:(i:Nat)<n
   ·refine rS [.E (.bool (decide ((i:Int)<(n:Int)))) (.bool true) (za (decide_eq_true (by omega)))] H8 kr fun gs9 w9 H9=>?_;clear H8;refine zb kr<|zi kr kr<|zj kr<|wW<|zb kr<|zn 1 kr ?_;obtain ⟨l1,s1,k1,r1,b1,off1,C1,T1,fz1,p1,n1,c1,hr1,hp1,hb1,hh1,hs1,hx1,hz1,hk1,hR1,hN1⟩:=FoR.open hR hN (by omega);refine rS [.o (ins:=[((.tmp 16),.slice p n c),((.tmp 18),.int .i64 (i:Int))]) (v:=.pointer (some ⟨b1,off1+i*3,none⟩)) (fun ρ o w ho hi=>jm (kd:=.i64) (t:=81) (e:=83) (bytes:=48) kr (x:=(.tmp 16)) (y:=(.tmp 18)) b1 off1 n c i hp1 ho hi.1 hi.2.1 (by omega) w),.fp (off:=off1+i*3) (n:=3) (W:=#[.bool l1,.string s1,.slice p1 n1 c1]) hh1 hb1 hs1 hx1,.a,.s 0] H9 kr fun gs10 w10 H10=>?_;clear H9;refine zx [0,1,2,6,12,16,17,18,19] fun ρ1=>?_;have HK5:=H10.keep;clear H10;have hcn1:=hcn;rw [hr1] at hcn1;simp only [Fo.cnt] at hcn1;refine zg [0,1,2,3] kr kr<|rp [.l 0,.v,.cp (pre:=fun w=>zp w.heap.size w p1 n1 k1) (ih l1 s1 p1 n1 c1 k1 q hz1 (by omega) (by omega)) [] (fun w hb hd=>(zp.call hk1 hb))] HK5 kr fun gs11 w11 H11=>wX [3] ?_;clear HK5;rcases zcQ (lf1 l1 s1 n1 (lfF k1) q) with hv1 | ⟨y,hv1⟩
    ·refine zP 24 (v:=.int .i64 (lfV (lf1 l1 s1 n1 (lfF k1) q))) (v':=.int .i64 (-1)) (zd (show (lfV (lf1 l1 s1 n1 (lfF k1) q))= -1 from by rw [hv1];rfl)) kr<|rp [.v] H11 kr fun gs12 w12 H12=>wX [] ?_;clear H11;refine zc<|rS [.v,.v] H12 kr fun gs13 w13 H13=>?_;clear H12;refine zi kr kr<|rS [.v,.v] H13 kr fun gs14 w14 H14=>?_;clear H13;refine zm kr<|wV ?_;refine ⟨[.int .i64 (-1)],(.tmp (.int .i64 (-1)) kr .nil),?_,H14.below⟩;refine zd ?_;rw [zcN (by omega) hq1,hlf,hr1];exact (zg5 hk1.1 hv1).symm
    ·refine zP 24 (v:=.int .i64 (lfV (lf1 l1 s1 n1 (lfF k1) q))) (v':=.int .i64 (y:Int)) (zd (show (lfV (lf1 l1 s1 n1 (lfF k1) q))=(y:Int) from by rw [hv1];rfl)) kr ?_;have hy4:=zg1 hv1;refine rp [.v] H11 kr fun gs15 w15 H15=>wX [] ?_;clear H11;refine zc<|rS [.v,.E (.bool (decide ((y:Int)<0))) (.bool false) (za (decide_eq_false (by omega)))] H15 kr fun gs16 w16 H16=>?_;clear H15;refine zh kr kr<|zj kr<|wW<|rL [.E (.int .i64 (IntKind.i64.wrap ((i:Int)+1))) (.int .i64 ((i+1:Nat):Int)) (zd (zq (a:=i) (b:=1) (by omega))),.v] H16 kr fun gs17 w17 H17=>?_;clear H16;have HL6:St w.heap.size w w17 [((gs10 2).b,Obj.cells #[.bool l1,.string s1,.slice p1 n1 c1] 83 (0,0))]:=H17.as kr;clear H17;have HD7:St w.heap.size w w17 []:=HL6.sub (List.Sublist.cons _ List.Sublist.slnil);show ∃m,_∧_;exact ⟨_,(by omega),(i+1),r1,y,rfl,hR1,hN1,(by omega),(by omega),(by rw [hlf,hr1];exact zg4 hk1.1 hv1),HD7,(Is.of ⟨kr,kr,kr,kr,kr,kr,kr,trivial⟩)⟩
   ·refine rS [.E (.bool (decide ((i:Int)<(n:Int)))) (.bool false) (za (decide_eq_false (by omega)))] H8 kr fun gs18 w18 H18=>?_;clear H8;refine zb kr<|zh kr kr<|zy 0 kr<|wW<|rS [.v,.v] H18 kr fun gs19 w19 H19=>?_;clear H18;refine zm kr<|wV ?_;refine ⟨[.int .i64 (q:Int)],(.tmp (.int .i64 (q:Int)) kr .nil),?_,H19.below⟩;refine zd ?_;rw [zcN (by omega) hq1,hlf,FoR.done hN (by omega)];rfl
  ·refine yr 11 (v:=.bool (zD l s n)) (v':=.bool true) (za hq1) kr<|yr 12 (v:=.bool (zD l s n)) (v':=.bool true) (za hq1) kr<|zi kr kr<|rS [.v] H5 kr fun gs20 w20 H20=>?_;clear H5;refine zm kr<|wV ?_;refine ⟨[.int .i64 (-1)],(.tmp (.int .i64 (-1)) kr .nil),?_,H20.below⟩;exact zd (zg3 hq1).symm
theorem left_fn (l:Bool)(s:ByteArray)(p:Option Addr)(n c:Nat)(k:Fo)(hs:s.size≤0x800000000000)(room:Nat)(hro:room≤4000):FnP Tryz.prog 101 #[.agg #[.bool l,.string s,.slice p n c],.int .i64 (room:Int)] (fun w=>zp w.heap.size w p n k) (.int .i64 (lfV (lf1 l s n (lfF k) room))):=by
 have key: ∀(m:Nat) (l:Bool) (s:ByteArray) (p:Option Addr) (n c:Nat) (k:Fo) (room:Nat),s.size≤0x800000000000→room≤4000→k.cnt<m→FnP Tryz.prog 101 #[.agg #[.bool l,.string s,.slice p n c],.int .i64 (room:Int)] (fun w=>zp w.heap.size w p n k) (.int .i64 (lfV (lf1 l s n (lfF k) room))):=by
  intro m
  induction m with
  | zero=>intros;omega
  | succ m ih=>intro l s p n c k room hs hro hkm;exact zhk m ih l s p n c k hs room hro hkm
 exact key (k.cnt+1) l s p n c k room hs hro (by omega)
theorem zhl (m:Nat)(ih: ∀(l:Bool) (s:ByteArray) (p:Option Addr) (n c:Nat) (k:Fo),s.size≤0x800000000000→k.cnt≤1000000→k.cnt<m→FnP Tryz.prog 92 #[.agg #[.bool l,.string s,.slice p n c]] (fun w=>zp w.heap.size w p n k) (.int .i64 ((dp1 l (dpF k):Nat):Int)))(l:Bool)(s:ByteArray)(p:Option Addr)(n c:Nat)(k:Fo)(hs:s.size≤0x800000000000)(hk6:k.cnt≤1000000)(hkm:k.cnt<m+1):FnP Tryz.prog 92 #[.agg #[.bool l,.string s,.slice p n c]] (fun w=>zp w.heap.size w p n k) (.int .i64 ((dp1 l (dpF k):Nat):Int)):=by
 refine FnP.intro (c:=zk Tryz.f92) [.tmp 2] 23 Tryz.func92 kr kr kr fun w hpre=>?_;have H0:=St.start w;have hn:=hpre.1;have hnm:=hpre.2.1;have hdk:=ul k;refine rS [.b,.v] H0 kr fun gs1 w1 H1=>?_;clear H0;refine zb kr<|zg [0,1,2] kr kr<|rp [.v,.l 0] H1 kr fun gs2 w2 H2=>wX [2] ?_;clear H1;refine Or.elim (Bool.eq_false_or_eq_true (l)).symm (fun hq1=>?_) (fun hq1=>?_)
 ·refine zP 7 (v:=.bool l) (v':=.bool false) (za hq1) kr<|rp [.v] H2 kr fun gs3 w3 H3=>wX [] ?_;clear H2;refine zc<|zi kr kr<|rS [.v] H3 kr fun gs4 w4 H4=>?_;clear H3;refine zm kr<|wV ?_;refine ⟨[.int .i64 0],(.tmp (.int .i64 0) kr .nil),?_,H4.below⟩;rw [hq1];rfl
 ·refine zP 7 (v:=.bool l) (v':=.bool true) (za hq1) kr<|rp [.v] H2 kr fun gs5 w5 H5=>wX [] ?_;clear H2;refine zc<|zh kr kr<|zj kr<|wW<|rS [.v] H5 kr fun gs6 w6 H6=>?_;clear H5;refine zb kr<|rS [.v,.l 0,.v,.v] H6 kr fun gs7 w7 H7=>?_;clear H6;refine zn 0 kr ?_;have HL1:St w.heap.size w w7 [((gs1 0).b,Obj.cells #[.bool l,.string s,.slice p n c] 83 (0,0))]:=H7.as kr;clear H7;have HD2:St w.heap.size w w7 []:=HL1.sub (List.Sublist.cons _ List.Sublist.slnil);refine zG kr (fun mz ρ ww=> ∃(i:Nat) (r:Fo) (d:Nat),n-i=mz∧(FoR w.heap.size w p i r)∧(i+Fo.len r=n)∧(Fo.cnt r≤Fo.cnt k)∧(dpF k=max d (dpF r))∧St w.heap.size w ww []∧Is [(0,.agg #[.bool l,.string s,.slice p n c]),(1,.pointer (some ⟨(gs1 0).b,0,none⟩)),(2,.int .i64 0),(3,.int .i64 (d:Int)),(8,.bool false),(10,.slice p n c),(11,.int .i64 (n:Int)),(12,.int .i64 (i:Int))] ρ) (n-0) ⟨0,k,0,rfl,(zp.start hpre),(by have hn0:=(hpre).1;omega),(Nat.le_refl _),(by omega),HD2,(Is.of ⟨kr,kr,kr,kr,kr,kr,kr,kr,trivial⟩)⟩ ?_;clear HD2;rintro _ _ w8 ⟨i,r,d,rfl,hR,hN,hcn,hd,H8,_,rfl⟩;by_cases hc3:(i:Nat)<n
  ·refine rS [.E (.bool (decide ((i:Int)<(n:Int)))) (.bool true) (za (decide_eq_true (by omega)))] H8 kr fun gs9 w9 H9=>?_;clear H8;refine zb kr<|zi kr kr<|zj kr<|wW<|zb kr<|zn 1 kr ?_;obtain ⟨l1,s1,k1,r1,b1,off1,C1,T1,fz1,p1,n1,c1,hr1,hp1,hb1,hh1,hs1,hx1,hz1,hk1,hR1,hN1⟩:=FoR.open hR hN (by omega);refine rS [.o (ins:=[((.tmp 10),.slice p n c),((.tmp 12),.int .i64 (i:Int))]) (v:=.pointer (some ⟨b1,off1+i*3,none⟩)) (fun ρ o w ho hi=>jm (kd:=.i64) (t:=81) (e:=83) (bytes:=48) kr (x:=(.tmp 10)) (y:=(.tmp 12)) b1 off1 n c i hp1 ho hi.1 hi.2.1 (by omega) w),.fp (off:=off1+i*3) (n:=3) (W:=#[.bool l1,.string s1,.slice p1 n1 c1]) hh1 hb1 hs1 hx1,.a,.s 0] H9 kr fun gs10 w10 H10=>?_;clear H9;have hcn1:=hcn;rw [hr1] at hcn1;simp only [Fo.cnt] at hcn1;refine rL [.v,.l 0,.cp (pre:=fun w=>zp w.heap.size w p1 n1 k1) (ih l1 s1 p1 n1 c1 k1 hz1 (by omega) (by omega)) [] (fun w hb hd=>(zp.call hk1 hb)),.E (.int .i64 (if (((dp1 l1 (dpF k1):Nat):Int):Int)>((d:Int):Int) then (((dp1 l1 (dpF k1):Nat):Int):Int) else ((d:Int):Int))) (.int .i64 ((max d (dp1 l1 (dpF k1)):Nat):Int)) (zd (zfJ d (dp1 l1 (dpF k1)))),.v] H10 kr fun gs11 w11 H11=>?_;clear H10;refine wW<|zx [0,1,2,3,5,8,10,11,12,13] fun ρ1=>?_;have HK4:=H11.keep;clear H11;refine rL [.E (.int .i64 (IntKind.i64.wrap ((i:Int)+1))) (.int .i64 ((i+1:Nat):Int)) (zd (zq (a:=i) (b:=1) (by omega))),.v] HK4 kr fun gs12 w12 H12=>?_;clear HK4;have HL5:St w.heap.size w w12 [((gs10 2).b,Obj.cells #[.bool l1,.string s1,.slice p1 n1 c1] 83 (0,0))]:=H12.as kr;clear H12;have HD6:St w.heap.size w w12 []:=HL5.sub (List.Sublist.cons _ List.Sublist.slnil);show ∃m,_∧_;exact ⟨_,(by omega),(i+1),r1,(max d (dp1 l1 (dpF k1))),rfl,hR1,hN1,(by omega),(by rw [hd,hr1];simp only [dpF];omega),HD6,(Is.of ⟨kr,kr,kr,kr,kr,kr,kr,kr,trivial⟩)⟩
  ·refine rS [.E (.bool (decide ((i:Int)<(n:Int)))) (.bool false) (za (decide_eq_false (by omega)))] H8 kr fun gs13 w13 H13=>?_;clear H8;refine zb kr<|zh kr kr<|zy 0 kr<|wW<|rS [.v,.E (.int .i64 (IntKind.i64.wrap (1+(d:Int)))) (.int .i64 ((1+d:Nat):Int)) (zd (zq (a:=1) (b:=d) (by omega))),.v] H13 kr fun gs14 w14 H14=>?_;clear H13;refine zm kr<|wV ?_;refine ⟨[.int .i64 ((1+d:Nat):Int)],(.tmp (.int .i64 ((1+d:Nat):Int)) kr .nil),?_,H14.below⟩;refine zd ?_;rw [hq1,hd,FoR.done hN (by omega)];show ((1+d:Nat):Int)=((1+max d 0:Nat):Int);omega
theorem zhm (l:Bool)(s:ByteArray)(p:Option Addr)(n c:Nat)(k:Fo)(hs:s.size≤0x800000000000)(hk6:k.cnt≤1000000):FnP Tryz.prog 92 #[.agg #[.bool l,.string s,.slice p n c]] (fun w=>zp w.heap.size w p n k) (.int .i64 ((dp1 l (dpF k):Nat):Int)):=by
 have key: ∀(m:Nat) (l:Bool) (s:ByteArray) (p:Option Addr) (n c:Nat) (k:Fo),s.size≤0x800000000000→k.cnt≤1000000→k.cnt<m→FnP Tryz.prog 92 #[.agg #[.bool l,.string s,.slice p n c]] (fun w=>zp w.heap.size w p n k) (.int .i64 ((dp1 l (dpF k):Nat):Int)):=by
  intro m
  induction m with
  | zero=>intros;omega
  | succ m ih=>intro l s p n c k hs hk6 hkm;exact zhl m ih l s p n c k hs hk6 hkm
 exact key (k.cnt+1) l s p n c k hs hk6 (by omega)
theorem zc1 (s:ByteArray):Fn Tryz.prog 127 #[.string s] (.bool (qh s)):=by
 refine Fn.intro (c:=zk Tryz.f127) [.tmp 2] 11 Tryz.func127 kr kr kr fun w=>?_;have H0:=St.start w;refine rS [.v] H0 kr fun gs1 w1 H1=>?_;clear H0;refine zg [0,1,2,3,4,5,6,7,8] kr kr<|rp [.v,.v] H1 kr fun gs2 w2 H2=>wX [2,3,4,5,6,7,8] ?_;clear H1;by_cases hc1:(ByteArray.size s:Nat)=1
 ·refine rp [.E (.bool ((ByteArray.size s:Int)==1)) (.bool true) (za (beq_iff_eq.2 (by omega))),.v,.v,.o (ins:=[((.tmp 7),.string s),((.const (.int .i64 0)),.int .i64 0)]) (v:=.int .u8 ((by_ s 0:Nat):Int)) (fun ρ o w ho hi=>yc (t:=9) (kd:=.i64) kr (x:=(.tmp 7)) (y:=(.const (.int .i64 0))) s 0 ho hi.1 hi.2.1 (by omega) w)] H2 kr fun gs3 w3 H3=>wX [6,7,8] ?_;clear H2;by_cases hc2:(by_ s 0:Nat)<128
  ·refine rp [.E (.bool (decide (((by_ s 0:Nat):Int)<128))) (.bool true) (za (decide_eq_true (by omega))),.v,.v] H3 kr fun gs4 w4 H4=>wX [] ?_;clear H3;refine zc<|zm kr<|wV ?_;refine ⟨[.bool true],(.tmp (.bool true) kr .nil),?_,H4.below⟩;exact za (by unfold qh;simp [*])
  ·refine rp [.E (.bool (decide (((by_ s 0:Nat):Int)<128))) (.bool false) (za (decide_eq_false (by omega))),.v,.v] H3 kr fun gs5 w5 H5=>wX [] ?_;clear H3;refine zc<|zm kr<|wV ?_;refine ⟨[.bool false],(.tmp (.bool false) kr .nil),?_,H5.below⟩;exact za (by unfold qh;simp [*])
 ·refine rp [.E (.bool ((ByteArray.size s:Int)==1)) (.bool false) (za (beq_eq_false_iff_ne.2 (by omega))),.v,.n,.n,.n,.v,.v] H2 kr fun gs6 w6 H6=>wX [] ?_;clear H2;refine zc<|zm kr<|wV ?_;refine ⟨[.bool false],(.tmp (.bool false) kr .nil),?_,H6.below⟩;exact za (by unfold qh;simp [*])
theorem zhn (s:ByteArray)(hs:ByteArray.size s≤0x800000000000):Fn Tryz.prog 151 #[.string s,.int .u8 0] (.string (zf ((tl s).dropWhile (·==0)))):=by
 refine Fn.intro (c:=zk Tryz.f151) [.tmp 4] 17 Tryz.func151 kr kr kr fun w=>?_;have H0:=St.start w;refine rS [.v] H0 kr fun gs1 w1 H1=>?_;clear H0;refine zb kr<|zn 0 kr ?_;have HL1:St w.heap.size w w1 []:=H1.as kr;clear H1;refine zG kr (fun mz ρ ww=> ∃(t:ByteArray),ByteArray.size t=mz∧((tl t).dropWhile (·==0)=(tl s).dropWhile (·==0))∧(ByteArray.size t≤ByteArray.size s)∧St w.heap.size w ww []∧Is [(0,.string t),(1,.int .u8 0),(4,.string (⟨#[]⟩))] ρ) (ByteArray.size s) ⟨s,rfl,rfl,(Nat.le_refl _),HL1,(Is.of ⟨kr,kr,kr,trivial⟩)⟩ ?_;clear HL1;rintro _ _ w2 ⟨t,rfl,ht,htz,H2,_,rfl⟩;refine zb kr<|zg [0,1,2,3,4,5,6,7,8] kr kr<|rp [.v,.v] H2 kr fun gs3 w3 H3=>wX [2,3,4,5,6,7,8] ?_;clear H2;by_cases hc2:(ByteArray.size t:Nat)>0
 ·refine rp [.E (.bool (decide (0<(ByteArray.size t:Int)))) (.bool true) (za (decide_eq_true (by omega))),.v,.v,.o (ins:=[((.tmp 9),.string t),((.const (.int .i64 0)),.int .i64 0)]) (v:=.int .u8 ((by_ t 0:Nat):Int)) (fun ρ o w ho hi=>yc (t:=9) (kd:=.i64) kr (x:=(.tmp 9)) (y:=(.const (.int .i64 0))) t 0 ho hi.1 hi.2.1 (by omega) w),.v] H3 kr fun gs4 w4 H4=>wX [7,8] ?_;clear H3;by_cases hc3:(by_ t 0:Nat)=0
  ·refine rp [.E (.bool (((by_ t 0:Nat):Int)==0)) (.bool true) (za (beq_iff_eq.2 (by omega))),.v] H4 kr fun gs5 w5 H5=>wX [] ?_;clear H4;refine zc<|zi kr kr<|zj kr<|wW<|zn 1 kr<|rL [.v,.o (ins:=[((.tmp 14),.string t),((.const (.int .i64 1)),.int .i64 1)]) (v:=.string (ByteArray.extract t 1 (ByteArray.size t))) (fun ρ o w ho hi=>vV (t:=9) (kz:=.i64) kr (x:=(.tmp 14)) (z:=(.const (.int .i64 1))) t 1 ho hi.1 hi.2.1 (by omega) w),.v] H5 kr fun gs6 w6 H6=>?_;clear H5;have HL4:St w.heap.size w w6 []:=H6.as kr;clear H6;show ∃m,_∧_;exact ⟨_,(by rw [zcR t (by omega)];omega),(ByteArray.extract t 1 (ByteArray.size t)),rfl,(by rw [zg8 t (by omega) (by omega)];exact ht),(by rw [zcR t (by omega)];omega),HL4,(Is.of ⟨kr,kr,kr,trivial⟩)⟩
  ·refine rp [.E (.bool (((by_ t 0:Nat):Int)==0)) (.bool false) (za (beq_eq_false_iff_ne.2 (by omega))),.v] H4 kr fun gs7 w7 H7=>wX [] ?_;clear H4;refine zc<|zh kr kr<|zy 0 kr<|wW<|rS [.v,.v] H7 kr fun gs8 w8 H8=>?_;clear H7;refine zm kr<|wV ?_;refine ⟨[.string t],(.tmp (.string t) kr .nil),?_,H8.below⟩;have hdone:zf ((tl s).dropWhile (·==0))=t:=by rw [←ht];exact zcT t (by omega)
   exact congrArg Value.string hdone.symm
 ·refine rp [.E (.bool (decide (0<(ByteArray.size t:Int)))) (.bool false) (za (decide_eq_false (by omega))),.v,.n,.n,.n,.n,.v] H3 kr fun gs9 w9 H9=>wX [] ?_;clear H3;refine zc<|zh kr kr<|zy 0 kr<|wW<|rS [.v,.v] H9 kr fun gs10 w10 H10=>?_;clear H9;refine zm kr<|wV ?_;refine ⟨[.string t],(.tmp (.string t) kr .nil),?_,H10.below⟩;have hdone:zf ((tl s).dropWhile (·==0))=t:=by rw [←ht];exact zcT t (by omega)
  exact congrArg Value.string hdone.symm
theorem zho (s:ByteArray)(hs:ByteArray.size s≤0x800000000000):Fn Tryz.prog 145 #[.string s,.string (⟨#[0]⟩)] (.string (zf ((tl s).dropWhile (·==0)))):=by
 refine Fn.intro (c:=zk Tryz.f145) [.tmp 4] 37 Tryz.func145 kr kr kr fun w=>?_;have H0:=St.start w;refine rS [.v] H0 kr fun gs1 w1 H1=>?_;clear H0;refine zb kr<|zg [0,1,2,3,4,5] kr kr<|rp [.v] H1 kr fun gs2 w2 H2=>wX [1,2,3,4,5] ?_;clear H1;by_cases hx1:s=⟨#[]⟩
 ·refine rp [.E (.bool (ByteArray.toList s==ByteArray.toList (⟨#[]⟩))) (.bool true) (za (xE s (⟨#[]⟩) hx1)),.v,.n,.n,.v] H2 kr fun gs3 w3 H3=>wX [] ?_;clear H2;refine zc<|zi kr kr<|rS [.v,.v] H3 kr fun gs4 w4 H4=>?_;clear H3;refine zm kr<|wV ?_;refine ⟨[.string s],(.tmp (.string s) kr .nil),?_,H4.below⟩;exact congrArg Value.string (zaJ (by assumption)).symm
 ·refine rp [.E (.bool (ByteArray.toList s==ByteArray.toList (⟨#[]⟩))) (.bool false) (za (jB s (⟨#[]⟩) hx1)),.v,.v,.E (.bool (ByteArray.toList (⟨#[0]⟩)==ByteArray.toList (⟨#[]⟩))) (.bool false) (za (jB (⟨#[0]⟩) (⟨#[]⟩) (fun h=>absurd (congrArg ByteArray.size h) (by decide)))),.v] H2 kr fun gs5 w5 H5=>wX [] ?_;clear H2;refine zc<|zh kr kr<|zj kr<|wW<|zb kr<|rS [.v,.v,.v,.v,.v,.oe (ins:=[((.tmp 18),.string (⟨#[0]⟩)),((.const (.int .i64 0)),.int .i64 0)]) (v:=.int .u8 ((by_ (⟨#[0]⟩) 0:Nat):Int)) (v':=.int .u8 0) (fun ρ o w ho hi=>yc (t:=9) (kd:=.i64) kr (x:=(.tmp 18)) (y:=(.const (.int .i64 0))) (⟨#[0]⟩) 0 ho hi.1 hi.2.1 (by decide) w) (zd (by decide)),.v,.v] H5 kr fun gs6 w6 H6=>?_;clear H5;refine zi kr kr<|rS [.v,.v,.oe (ins:=[((.tmp 23),.string (⟨#[0]⟩)),((.const (.int .i64 0)),.int .i64 0)]) (v:=.int .u8 ((by_ (⟨#[0]⟩) 0:Nat):Int)) (v':=.int .u8 0) (fun ρ o w ho hi=>yc (t:=9) (kd:=.i64) kr (x:=(.tmp 23)) (y:=(.const (.int .i64 0))) (⟨#[0]⟩) 0 ho hi.1 hi.2.1 (by decide) w) (zd (by decide)),.c (zhn s (by omega)),.v] H6 kr fun gs7 w7 H7=>?_;clear H6;refine zm kr<|wV ?_;refine ⟨[.string (zf ((tl s).dropWhile (·==0)))],(.tmp (.string (zf ((tl s).dropWhile (·==0)))) kr .nil),?_,H7.below⟩;rfl
theorem zaL (n:Nat)(hn:n<0x10000000000000000):Fn Tryz.prog 131 #[.int .u64 (n:Int)] (.string (zf (dg n))):=by
 refine Fn.intro (c:=zk Tryz.f131) [.tmp 2] 20 Tryz.func131 kr kr kr fun w=>?_;have H0:=St.start w;refine rS [.v] H0 kr fun gs1 w1 H1=>?_;clear H0;refine rS [.a] H1 kr fun gs2 w2 H2=>?_;clear H1;refine zb kr<|rS [.v] H2 kr fun gs3 w3 H3=>?_;clear H2;refine zn 0 kr ?_;have HL1:St w.heap.size w w3 [((gs2 0).b,Obj.cells #[.int .u8 0,.int .u8 0,.int .u8 0,.int .u8 0,.int .u8 0,.int .u8 0,.int .u8 0,.int .u8 0] 176 (0,0))]:=H3.as kr;clear H3;refine zbE kr<|rS [.v] HL1 kr fun gs4 w4 H4=>?_;clear HL1;refine zb kr<|zi kr kr<|zj kr<|wW<|zb kr<|zn 1 kr<|rS [.v,.v] H4 kr fun gs5 w5 H5=>?_;clear H4;refine rL [.v,.v,.v,.v,.v,.E (.int .u64 (Int.fdiv ((n:Int)) (2^0))) (.int .u64 (n:Int)) (zd (zg6 (a:=n) (by omega))),.E (.int .u8 (IntKind.u8.wrap ((n:Int)))) (.int .u8 (BitVec.toNat (dgB n 1):Int)) (zha n),.v,.s 0] H5 kr fun gs6 w6 H6=>?_;clear H5;refine wW ?_;have HL2:St w.heap.size w w6 [((gs2 0).b,Obj.cells #[.int .u8 0,.int .u8 0,.int .u8 0,.int .u8 0,.int .u8 0,.int .u8 0,.int .u8 0,.int .u8 (BitVec.toNat (dgB n 1):Int)] 176 (0,0))]:=H6.as kr;clear H6;refine rL [.v,.v] HL2 kr fun gs7 w7 H7=>?_;clear HL2;show WPL _ _ _ _ _ _;refine jy<|zx [0,2,3,4,5,6] fun ρ1=>?_;have HK3:=H7.keep;clear H7;refine rS [.v] HK3 kr fun gs8 w8 H8=>?_;clear HK3;refine zb kr<|zi kr kr<|zj kr<|wW<|zb kr<|zn 1 kr<|rS [.v,.v] H8 kr fun gs9 w9 H9=>?_;clear H8;refine rL [.v,.v,.v,.v,.v,.E (.int .u64 (Int.fdiv (n:Int) (2^8))) (.int .u64 ((n / 256:Nat):Int)) (zd (xB (k:=8) n 256 rfl)),.E (.int .u8 (IntKind.u8.wrap (((n / 256:Nat):Int)))) (.int .u8 (BitVec.toNat (dgB n 256):Int)) (jY n 256),.v,.s 0] H9 kr fun gs10 w10 H10=>?_;clear H9;refine wW ?_;have HL4:St w.heap.size w w10 [((gs2 0).b,Obj.cells #[.int .u8 0,.int .u8 0,.int .u8 0,.int .u8 0,.int .u8 0,.int .u8 0,.int .u8 (BitVec.toNat (dgB n 256):Int),.int .u8 (BitVec.toNat (dgB n 1):Int)] 176 (0,0))]:=H10.as kr;clear H10;refine rL [.v,.v] HL4 kr fun gs11 w11 H11=>?_;clear HL4;show WPL _ _ _ _ _ _;refine jy<|rS [.v] H11 kr fun gs12 w12 H12=>?_;clear H11;refine zb kr<|zi kr kr<|zj kr<|wW<|zb kr<|zn 1 kr<|rS [.v,.v] H12 kr fun gs13 w13 H13=>?_;clear H12;refine zx [0,2,3,4,5,6] fun ρ2=>?_;have HK5:=H13.keep;clear H13;refine rL [.v,.v,.v,.v,.v,.E (.int .u64 (Int.fdiv (n:Int) (2^16))) (.int .u64 ((n / 65536:Nat):Int)) (zd (xB (k:=16) n 65536 rfl)),.E (.int .u8 (IntKind.u8.wrap (((n / 65536:Nat):Int)))) (.int .u8 (BitVec.toNat (dgB n 65536):Int)) (jY n 65536),.v,.s 0] HK5 kr fun gs14 w14 H14=>?_;clear HK5;refine wW ?_;have HL6:St w.heap.size w w14 [((gs2 0).b,Obj.cells #[.int .u8 0,.int .u8 0,.int .u8 0,.int .u8 0,.int .u8 0,.int .u8 (BitVec.toNat (dgB n 65536):Int),.int .u8 (BitVec.toNat (dgB n 256):Int),.int .u8 (BitVec.toNat (dgB n 1):Int)] 176 (0,0))]:=H14.as kr;clear H14;refine rL [.v,.v] HL6 kr fun gs15 w15 H15=>?_;clear HL6;show WPL _ _ _ _ _ _;refine jy<|rS [.v] H15 kr fun gs16 w16 H16=>?_;clear H15;refine zb kr<|zi kr kr<|zj kr<|wW<|zb kr<|zn 1 kr<|rS [.v,.v] H16 kr fun gs17 w17 H17=>?_;clear H16;refine rL [.v,.v,.v,.v,.v,.E (.int .u64 (Int.fdiv (n:Int) (2^24))) (.int .u64 ((n / 16777216:Nat):Int)) (zd (xB (k:=24) n 16777216 rfl)),.E (.int .u8 (IntKind.u8.wrap (((n / 16777216:Nat):Int)))) (.int .u8 (BitVec.toNat (dgB n 16777216):Int)) (jY n 16777216),.v,.s 0] H17 kr fun gs18 w18 H18=>?_;clear H17;refine wW<|zx [0,2,3,4,5,6] fun ρ3=>?_;have HK7:=H18.keep;clear H18;have HL8:St w.heap.size w w18 [((gs2 0).b,Obj.cells #[.int .u8 0,.int .u8 0,.int .u8 0,.int .u8 0,.int .u8 (BitVec.toNat (dgB n 16777216):Int),.int .u8 (BitVec.toNat (dgB n 65536):Int),.int .u8 (BitVec.toNat (dgB n 256):Int),.int .u8 (BitVec.toNat (dgB n 1):Int)] 176 (0,0))]:=HK7.as kr;clear HK7;refine rL [.v,.v] HL8 kr fun gs19 w19 H19=>?_;clear HL8;show WPL _ _ _ _ _ _;refine jy<|rS [.v] H19 kr fun gs20 w20 H20=>?_;clear H19;refine zb kr<|zi kr kr<|zj kr<|wW<|zb kr<|zn 1 kr<|rS [.v,.v] H20 kr fun gs21 w21 H21=>?_;clear H20;refine rL [.v,.v,.v,.v,.v,.E (.int .u64 (Int.fdiv (n:Int) (2^32))) (.int .u64 ((n / 4294967296:Nat):Int)) (zd (xB (k:=32) n 4294967296 rfl)),.E (.int .u8 (IntKind.u8.wrap (((n / 4294967296:Nat):Int)))) (.int .u8 (BitVec.toNat (dgB n 4294967296):Int)) (jY n 4294967296),.v,.s 0] H21 kr fun gs22 w22 H22=>?_;clear H21;refine wW ?_;have HL9:St w.heap.size w w22 [((gs2 0).b,Obj.cells #[.int .u8 0,.int .u8 0,.int .u8 0,.int .u8 (BitVec.toNat (dgB n 4294967296):Int),.int .u8 (BitVec.toNat (dgB n 16777216):Int),.int .u8 (BitVec.toNat (dgB n 65536):Int),.int .u8 (BitVec.toNat (dgB n 256):Int),.int .u8 (BitVec.toNat (dgB n 1):Int)] 176 (0,0))]:=H22.as kr;clear H22;refine rL [.v,.v] HL9 kr fun gs23 w23 H23=>?_;clear HL9;show WPL _ _ _ _ _ _;refine jy<|rS [.v] H23 kr fun gs24 w24 H24=>?_;clear H23;refine zx [0,2,3,4,5,6] fun ρ4=>?_;have HK10:=H24.keep;clear H24;refine zb kr<|zi kr kr<|zj kr<|wW<|zb kr<|zn 1 kr<|rS [.v,.v] HK10 kr fun gs25 w25 H25=>?_;clear HK10;refine rL [.v,.v,.v,.v,.v,.E (.int .u64 (Int.fdiv (n:Int) (2^40))) (.int .u64 ((n / 1099511627776:Nat):Int)) (zd (xB (k:=40) n 1099511627776 rfl)),.E (.int .u8 (IntKind.u8.wrap (((n / 1099511627776:Nat):Int)))) (.int .u8 (BitVec.toNat (dgB n 1099511627776):Int)) (jY n 1099511627776),.v,.s 0] H25 kr fun gs26 w26 H26=>?_;clear H25;refine wW ?_;have HL11:St w.heap.size w w26 [((gs2 0).b,Obj.cells #[.int .u8 0,.int .u8 0,.int .u8 (BitVec.toNat (dgB n 1099511627776):Int),.int .u8 (BitVec.toNat (dgB n 4294967296):Int),.int .u8 (BitVec.toNat (dgB n 16777216):Int),.int .u8 (BitVec.toNat (dgB n 65536):Int),.int .u8 (BitVec.toNat (dgB n 256):Int),.int .u8 (BitVec.toNat (dgB n 1):Int)] 176 (0,0))]:=H26.as kr;clear H26;refine rL [.v,.v] HL11 kr fun gs27 w27 H27=>?_;clear HL11;show WPL _ _ _ _ _ _;refine jy<|rS [.v] H27 kr fun gs28 w28 H28=>?_;clear H27;refine zb kr<|zi kr kr<|zj kr<|wW<|zb kr<|zn 1 kr<|rS [.v,.v] H28 kr fun gs29 w29 H29=>?_;clear H28;refine rL [.v,.v,.v,.v,.v,.E (.int .u64 (Int.fdiv (n:Int) (2^48))) (.int .u64 ((n / 281474976710656:Nat):Int)) (zd (xB (k:=48) n 281474976710656 rfl)),.E (.int .u8 (IntKind.u8.wrap (((n / 281474976710656:Nat):Int)))) (.int .u8 (BitVec.toNat (dgB n 281474976710656):Int)) (jY n 281474976710656),.v,.s 0] H29 kr fun gs30 w30 H30=>?_;clear H29;refine wW<|zx [0,2,3,4,5,6] fun ρ5=>?_;have HK12:=H30.keep;clear H30;have HL13:St w.heap.size w w30 [((gs2 0).b,Obj.cells #[.int .u8 0,.int .u8 (BitVec.toNat (dgB n 281474976710656):Int),.int .u8 (BitVec.toNat (dgB n 1099511627776):Int),.int .u8 (BitVec.toNat (dgB n 4294967296):Int),.int .u8 (BitVec.toNat (dgB n 16777216):Int),.int .u8 (BitVec.toNat (dgB n 65536):Int),.int .u8 (BitVec.toNat (dgB n 256):Int),.int .u8 (BitVec.toNat (dgB n 1):Int)] 176 (0,0))]:=HK12.as kr;clear HK12;refine rL [.v,.v] HL13 kr fun gs31 w31 H31=>?_;clear HL13;show WPL _ _ _ _ _ _;refine jy<|rS [.v] H31 kr fun gs32 w32 H32=>?_;clear H31;refine zb kr<|zi kr kr<|zj kr<|wW<|zb kr<|zn 1 kr<|rS [.v,.v] H32 kr fun gs33 w33 H33=>?_;clear H32;refine rL [.v,.v,.v,.v,.v,.E (.int .u64 (Int.fdiv (n:Int) (2^56))) (.int .u64 ((n / 72057594037927936:Nat):Int)) (zd (xB (k:=56) n 72057594037927936 rfl)),.E (.int .u8 (IntKind.u8.wrap (((n / 72057594037927936:Nat):Int)))) (.int .u8 (BitVec.toNat (dgB n 72057594037927936):Int)) (jY n 72057594037927936),.v,.s 0] H33 kr fun gs34 w34 H34=>?_;clear H33;refine wW ?_;have HL14:St w.heap.size w w34 [((gs2 0).b,Obj.cells #[.int .u8 (BitVec.toNat (dgB n 72057594037927936):Int),.int .u8 (BitVec.toNat (dgB n 281474976710656):Int),.int .u8 (BitVec.toNat (dgB n 1099511627776):Int),.int .u8 (BitVec.toNat (dgB n 4294967296):Int),.int .u8 (BitVec.toNat (dgB n 16777216):Int),.int .u8 (BitVec.toNat (dgB n 65536):Int),.int .u8 (BitVec.toNat (dgB n 256):Int),.int .u8 (BitVec.toNat (dgB n 1):Int)] 176 (0,0))]:=H34.as kr;clear H34;refine rL [.v,.v] HL14 kr fun gs35 w35 H35=>?_;clear HL14;show WPL _ _ _ _ _ _;refine jy<|rS [.v] H35 kr fun gs36 w36 H36=>?_;clear H35;refine zx [0,2,3,4,5,6] fun ρ6=>?_;have HK15:=H36.keep;clear H36;refine zb kr<|zh kr kr<|zy 0 kr<|wW ?_;have HL16:St w.heap.size w w36 [((gs2 0).b,Obj.cells #[.int .u8 (BitVec.toNat (dgB n 72057594037927936):Int),.int .u8 (BitVec.toNat (dgB n 281474976710656):Int),.int .u8 (BitVec.toNat (dgB n 1099511627776):Int),.int .u8 (BitVec.toNat (dgB n 4294967296):Int),.int .u8 (BitVec.toNat (dgB n 16777216):Int),.int .u8 (BitVec.toNat (dgB n 65536):Int),.int .u8 (BitVec.toNat (dgB n 256):Int),.int .u8 (BitVec.toNat (dgB n 1):Int)] 176 (0,0))]:=HK15.as kr;clear HK15;have hz_1: ∀(ρ:Env) (o:Oper) (w:World),o.op=.slice 176 (.tmp 3) none none none→Ins (ev ρ) [((.tmp 3),.pointer (some ⟨(gs2 0).b,0,none⟩))]→(execOp (ev ρ) o).run Tryz.prog w=.ok (.value (.slice (some ⟨(gs2 0).b,0,none⟩) 8 8)) w:=(fun ρ o w ho hi=>zcf (t:=176) (n:=8) (e:=5) (z:=1) kr kr (x:=(.tmp 3)) ((gs2 0).b) ho hi.1 w)
 refine rS [.o hz_1,.x (op:=.convert 76 9 (.tmp 17)) (ins:=[((.tmp 17),.slice (some ⟨(gs2 0).b,0,none⟩) 8 8)]) [(0,((gs2 0).b,Obj.cells #[.int .u8 (BitVec.toNat (dgB n 72057594037927936):Int),.int .u8 (BitVec.toNat (dgB n 281474976710656):Int),.int .u8 (BitVec.toNat (dgB n 1099511627776):Int),.int .u8 (BitVec.toNat (dgB n 4294967296):Int),.int .u8 (BitVec.toNat (dgB n 16777216):Int),.int .u8 (BitVec.toNat (dgB n 65536):Int),.int .u8 (BitVec.toNat (dgB n 256):Int),.int .u8 (BitVec.toNat (dgB n 1):Int)] 176 (0,0)))] (jk (t:=76) (t':=9) (e:=5) [(BitVec.toNat (dgB n 72057594037927936):Int),(BitVec.toNat (dgB n 281474976710656):Int),(BitVec.toNat (dgB n 1099511627776):Int),(BitVec.toNat (dgB n 4294967296):Int),(BitVec.toNat (dgB n 16777216):Int),(BitVec.toNat (dgB n 65536):Int),(BitVec.toNat (dgB n 256):Int),(BitVec.toNat (dgB n 1):Int)] kr kr kr (Rw.lit #[.int .u8 (BitVec.toNat (dgB n 72057594037927936):Int),.int .u8 (BitVec.toNat (dgB n 281474976710656):Int),.int .u8 (BitVec.toNat (dgB n 1099511627776):Int),.int .u8 (BitVec.toNat (dgB n 4294967296):Int),.int .u8 (BitVec.toNat (dgB n 16777216):Int),.int .u8 (BitVec.toNat (dgB n 65536):Int),.int .u8 (BitVec.toNat (dgB n 256):Int),.int .u8 (BitVec.toNat (dgB n 1):Int)] 8 (by rfl) (by unfold maxLen;omega))),.c (zho (strOfNums ([(BitVec.toNat (dgB n 72057594037927936):Int),(BitVec.toNat (dgB n 281474976710656):Int),(BitVec.toNat (dgB n 1099511627776):Int),(BitVec.toNat (dgB n 4294967296):Int),(BitVec.toNat (dgB n 16777216):Int),(BitVec.toNat (dgB n 65536):Int),(BitVec.toNat (dgB n 256):Int),(BitVec.toNat (dgB n 1):Int)])) (by rw [strOfNums_size];show 8≤0x800000000000;omega)),.v] HL16 kr fun gs37 w37 H37=>?_;clear HL16;refine zm kr<|wV ?_;refine ⟨[.string (zf ((tl (strOfNums ([(BitVec.toNat (dgB n 72057594037927936):Int),(BitVec.toNat (dgB n 281474976710656):Int),(BitVec.toNat (dgB n 1099511627776):Int),(BitVec.toNat (dgB n 4294967296):Int),(BitVec.toNat (dgB n 16777216):Int),(BitVec.toNat (dgB n 65536):Int),(BitVec.toNat (dgB n 256):Int),(BitVec.toNat (dgB n 1):Int)]))).dropWhile (·==0)))],(.tmp (.string (zf ((tl (strOfNums ([(BitVec.toNat (dgB n 72057594037927936):Int),(BitVec.toNat (dgB n 281474976710656):Int),(BitVec.toNat (dgB n 1099511627776):Int),(BitVec.toNat (dgB n 4294967296):Int),(BitVec.toNat (dgB n 16777216):Int),(BitVec.toNat (dgB n 65536):Int),(BitVec.toNat (dgB n 256):Int),(BitVec.toNat (dgB n 1):Int)]))).dropWhile (·==0)))) kr .nil),?_,H37.below⟩;exact congrArg Value.string (congrArg zf (zhd n hn))
theorem zc2 (l:Bool)(s:ByteArray)(p:Option Addr)(n c m:Nat)(hm:m<0x10000000000000000):Fn Tryz.prog 129 #[.agg #[.bool l,.string s,.slice p n c],.int .u64 (m:Int)] (.string (zf (hd (frm l) m))):=by
 refine Fn.intro (c:=zk Tryz.f129) [.tmp 4] 29 Tryz.func129 kr kr kr fun w=>?_;have H0:=St.start w;refine rS [.b,.v] H0 kr fun gs1 w1 H1=>?_;clear H0;refine rS [.v] H1 kr fun gs2 w2 H2=>?_;clear H1;refine zb kr<|rS [.v,.l 0] H2 kr fun gs3 w3 H3=>?_;clear H2;refine Or.elim (Bool.eq_false_or_eq_true (l)).symm (fun hq1=>?_) (fun hq1=>?_)
 ·refine yr 8 (v:=.bool l) (v':=.bool false) (za hq1) kr<|zh kr kr<|zj kr<|wW<|zb kr<|zg [0,1] kr kr<|rp [.v] H3 kr fun gs4 w4 H4=>wX [1] ?_;clear H3;by_cases hc1:(m:Nat)≤55
  ·refine rp [.E (.bool (decide ((m:Int)≤55))) (.bool true) (za (decide_eq_true (by omega)))] H4 kr fun gs5 w5 H5=>wX [] ?_;clear H4;refine zc<|zi kr kr<|rS [.v,.v,.E (.int .u8 (IntKind.u8.wrap ((m:Int)))) (.int .u8 (BitVec.toNat (BitVec.ofNat 8 m):Int)) (jU m),.E (.int .u8 (IntKind.u8.wrap ((128)+((BitVec.toNat (BitVec.ofNat 8 m):Int))))) (.int .u8 (BitVec.toNat ((128:BitVec 8)+(BitVec.ofNat 8 m)):Int)) (kT (128:BitVec 8) (BitVec.ofNat 8 m)),.nw (fun b=>.slice (some ⟨b,0,none⟩) 1 1) #[.int .u8 (BitVec.toNat ((128:BitVec 8)+(BitVec.ofNat 8 m)):Int)] 5,.w fun nn=>.x (op:=.convert 76 9 (.tmp 15)) (ins:=[((.tmp 15),.slice (some ⟨(nn 1),0,none⟩) 1 1)]) [(1,((nn 1),Obj.cells #[.int .u8 (BitVec.toNat ((128:BitVec 8)+(BitVec.ofNat 8 m)):Int)] 5 (0,0)))] (jk (t:=76) (t':=9) (e:=5) [(BitVec.toNat ((128:BitVec 8)+(BitVec.ofNat 8 m)):Int)] kr kr kr (Rw.lit #[.int .u8 (BitVec.toNat ((128:BitVec 8)+(BitVec.ofNat 8 m)):Int)] 1 (by rfl) (by unfold maxLen;omega))),.v] H5 kr fun gs6 w6 H6=>?_;clear H5;refine zm kr<|wV ?_;refine ⟨[.string (strOfNums ([(BitVec.toNat ((128:BitVec 8)+(BitVec.ofNat 8 m)):Int)]))],(.tmp (.string (strOfNums ([(BitVec.toNat ((128:BitVec 8)+(BitVec.ofNat 8 m)):Int)]))) kr .nil),?_,H6.below⟩;exact congrArg Value.string (zcO (f:=frm l) _ (by rw [hq1];rfl) m (by omega) (by rw [hq1];decide))
  ·refine rp [.E (.bool (decide ((m:Int)≤55))) (.bool false) (za (decide_eq_false (by omega)))] H4 kr fun gs7 w7 H7=>wX [] ?_;clear H4;refine zc<|zh kr kr<|zj kr<|wW<|rS [.v,.c (zaL m (by omega)),.v] H7 kr fun gs8 w8 H8=>?_;clear H7;refine rS [.v,.v,.v,.v,.E (.int .u8 (IntKind.u8.wrap ((ByteArray.size (zf (dg m)):Int)))) (.int .u8 (BitVec.toNat (BitVec.ofNat 8 (ByteArray.size (zf (dg m)))):Int)) (jU (ByteArray.size (zf (dg m)))),.E (.int .u8 (IntKind.u8.wrap ((183)+((BitVec.toNat (BitVec.ofNat 8 (ByteArray.size (zf (dg m)))):Int))))) (.int .u8 (BitVec.toNat ((183:BitVec 8)+(BitVec.ofNat 8 (ByteArray.size (zf (dg m))))):Int)) (kT (183:BitVec 8) (BitVec.ofNat 8 (ByteArray.size (zf (dg m))))),.nw (fun b=>.slice (some ⟨b,0,none⟩) 1 1) #[.int .u8 (BitVec.toNat ((183:BitVec 8)+(BitVec.ofNat 8 (ByteArray.size (zf (dg m))))):Int)] 5,.w fun nn=>.x (op:=.convert 76 9 (.tmp 25)) (ins:=[((.tmp 25),.slice (some ⟨(nn 1),0,none⟩) 1 1)]) [(1,((nn 1),Obj.cells #[.int .u8 (BitVec.toNat ((183:BitVec 8)+(BitVec.ofNat 8 (ByteArray.size (zf (dg m))))):Int)] 5 (0,0)))] (jk (t:=76) (t':=9) (e:=5) [(BitVec.toNat ((183:BitVec 8)+(BitVec.ofNat 8 (ByteArray.size (zf (dg m))))):Int)] kr kr kr (Rw.lit #[.int .u8 (BitVec.toNat ((183:BitVec 8)+(BitVec.ofNat 8 (ByteArray.size (zf (dg m))))):Int)] 1 (by rfl) (by unfold maxLen;omega))),.v,.o (ins:=[((.tmp 26),.string (strOfNums ([(BitVec.toNat ((183:BitVec 8)+(BitVec.ofNat 8 (ByteArray.size (zf (dg m))))):Int)]))),((.tmp 27),.string (zf (dg m)))]) (v:=.string ((strOfNums ([(BitVec.toNat ((183:BitVec 8)+(BitVec.ofNat 8 (ByteArray.size (zf (dg m))))):Int)]))++(zf (dg m)))) (fun ρ o w ho hi=>qN (t:=9) (t':=9) (x:=(.tmp 26)) (y:=(.tmp 27)) (strOfNums ([(BitVec.toNat ((183:BitVec 8)+(BitVec.ofNat 8 (ByteArray.size (zf (dg m))))):Int)])) (zf (dg m)) w ho hi.1 hi.2.1 (by rw [strOfNums_size,qf];have:=qF m;show 1+_≤_;omega)),.v] H8 kr fun gs9 w9 H9=>?_;clear H8;refine zm kr<|wV ?_;refine ⟨[.string ((strOfNums ([(BitVec.toNat ((183:BitVec 8)+(BitVec.ofNat 8 (ByteArray.size (zf (dg m))))):Int)]))++(zf (dg m)))],(.tmp (.string ((strOfNums ([(BitVec.toNat ((183:BitVec 8)+(BitVec.ofNat 8 (ByteArray.size (zf (dg m))))):Int)]))++(zf (dg m)))) kr .nil),?_,H9.below⟩;exact congrArg Value.string (zcP (f:=frm l) _ (by rw [hq1];rfl) m (by omega) (by rw [hq1];decide))
 ·refine yr 8 (v:=.bool l) (v':=.bool true) (za hq1) kr<|zi kr kr<|rL [.v] H3 kr fun gs10 w10 H10=>?_;clear H3;refine wW<|zb kr<|zg [0,1] kr kr<|rp [.v] H10 kr fun gs11 w11 H11=>wX [1] ?_;clear H10;by_cases hc2:(m:Nat)≤55
  ·refine rp [.E (.bool (decide ((m:Int)≤55))) (.bool true) (za (decide_eq_true (by omega)))] H11 kr fun gs12 w12 H12=>wX [] ?_;clear H11;refine zc<|zi kr kr<|rS [.v,.v,.E (.int .u8 (IntKind.u8.wrap ((m:Int)))) (.int .u8 (BitVec.toNat (BitVec.ofNat 8 m):Int)) (jU m),.E (.int .u8 (IntKind.u8.wrap ((192)+((BitVec.toNat (BitVec.ofNat 8 m):Int))))) (.int .u8 (BitVec.toNat ((192:BitVec 8)+(BitVec.ofNat 8 m)):Int)) (kT (192:BitVec 8) (BitVec.ofNat 8 m)),.nw (fun b=>.slice (some ⟨b,0,none⟩) 1 1) #[.int .u8 (BitVec.toNat ((192:BitVec 8)+(BitVec.ofNat 8 m)):Int)] 5,.w fun nn=>.x (op:=.convert 76 9 (.tmp 15)) (ins:=[((.tmp 15),.slice (some ⟨(nn 1),0,none⟩) 1 1)]) [(1,((nn 1),Obj.cells #[.int .u8 (BitVec.toNat ((192:BitVec 8)+(BitVec.ofNat 8 m)):Int)] 5 (0,0)))] (jk (t:=76) (t':=9) (e:=5) [(BitVec.toNat ((192:BitVec 8)+(BitVec.ofNat 8 m)):Int)] kr kr kr (Rw.lit #[.int .u8 (BitVec.toNat ((192:BitVec 8)+(BitVec.ofNat 8 m)):Int)] 1 (by rfl) (by unfold maxLen;omega))),.v] H12 kr fun gs13 w13 H13=>?_;clear H12;refine zm kr<|wV ?_;refine ⟨[.string (strOfNums ([(BitVec.toNat ((192:BitVec 8)+(BitVec.ofNat 8 m)):Int)]))],(.tmp (.string (strOfNums ([(BitVec.toNat ((192:BitVec 8)+(BitVec.ofNat 8 m)):Int)]))) kr .nil),?_,H13.below⟩;exact congrArg Value.string (zcO (f:=frm l) _ (by rw [hq1];rfl) m (by omega) (by rw [hq1];decide))
  ·refine rp [.E (.bool (decide ((m:Int)≤55))) (.bool false) (za (decide_eq_false (by omega)))] H11 kr fun gs14 w14 H14=>wX [] ?_;clear H11;refine zc<|zh kr kr<|zj kr<|wW<|rS [.v,.c (zaL m (by omega)),.v] H14 kr fun gs15 w15 H15=>?_;clear H14;refine rS [.v,.v,.v,.v,.E (.int .u8 (IntKind.u8.wrap ((ByteArray.size (zf (dg m)):Int)))) (.int .u8 (BitVec.toNat (BitVec.ofNat 8 (ByteArray.size (zf (dg m)))):Int)) (jU (ByteArray.size (zf (dg m)))),.E (.int .u8 (IntKind.u8.wrap ((247)+((BitVec.toNat (BitVec.ofNat 8 (ByteArray.size (zf (dg m)))):Int))))) (.int .u8 (BitVec.toNat ((247:BitVec 8)+(BitVec.ofNat 8 (ByteArray.size (zf (dg m))))):Int)) (kT (247:BitVec 8) (BitVec.ofNat 8 (ByteArray.size (zf (dg m))))),.nw (fun b=>.slice (some ⟨b,0,none⟩) 1 1) #[.int .u8 (BitVec.toNat ((247:BitVec 8)+(BitVec.ofNat 8 (ByteArray.size (zf (dg m))))):Int)] 5,.w fun nn=>.x (op:=.convert 76 9 (.tmp 25)) (ins:=[((.tmp 25),.slice (some ⟨(nn 1),0,none⟩) 1 1)]) [(1,((nn 1),Obj.cells #[.int .u8 (BitVec.toNat ((247:BitVec 8)+(BitVec.ofNat 8 (ByteArray.size (zf (dg m))))):Int)] 5 (0,0)))] (jk (t:=76) (t':=9) (e:=5) [(BitVec.toNat ((247:BitVec 8)+(BitVec.ofNat 8 (ByteArray.size (zf (dg m))))):Int)] kr kr kr (Rw.lit #[.int .u8 (BitVec.toNat ((247:BitVec 8)+(BitVec.ofNat 8 (ByteArray.size (zf (dg m))))):Int)] 1 (by rfl) (by unfold maxLen;omega))),.v,.o (ins:=[((.tmp 26),.string (strOfNums ([(BitVec.toNat ((247:BitVec 8)+(BitVec.ofNat 8 (ByteArray.size (zf (dg m))))):Int)]))),((.tmp 27),.string (zf (dg m)))]) (v:=.string ((strOfNums ([(BitVec.toNat ((247:BitVec 8)+(BitVec.ofNat 8 (ByteArray.size (zf (dg m))))):Int)]))++(zf (dg m)))) (fun ρ o w ho hi=>qN (t:=9) (t':=9) (x:=(.tmp 26)) (y:=(.tmp 27)) (strOfNums ([(BitVec.toNat ((247:BitVec 8)+(BitVec.ofNat 8 (ByteArray.size (zf (dg m))))):Int)])) (zf (dg m)) w ho hi.1 hi.2.1 (by rw [strOfNums_size,qf];have:=qF m;show 1+_≤_;omega)),.v] H15 kr fun gs16 w16 H16=>?_;clear H15;refine zm kr<|wV ?_;refine ⟨[.string ((strOfNums ([(BitVec.toNat ((247:BitVec 8)+(BitVec.ofNat 8 (ByteArray.size (zf (dg m))))):Int)]))++(zf (dg m)))],(.tmp (.string ((strOfNums ([(BitVec.toNat ((247:BitVec 8)+(BitVec.ofNat 8 (ByteArray.size (zf (dg m))))):Int)]))++(zf (dg m)))) kr .nil),?_,H16.below⟩;exact congrArg Value.string (zcP (f:=frm l) _ (by rw [hq1];rfl) m (by omega) (by rw [hq1];decide))
theorem zc3 (m:Nat)(ih: ∀(l:Bool) (s:ByteArray) (p:Option Addr) (n c:Nat) (k:Fo),s.size≤0x800000000000→s.size+wtF k≤0x4000000000000000→k.cnt<m→FnP Tryz.prog 102 #[.agg #[.bool l,.string s,.slice p n c]] (fun w=>zp w.heap.size w p n k) (.int .u64 ((sz1 l s (szF k):Nat):Int)))(l:Bool)(s:ByteArray)(p:Option Addr)(n c:Nat)(k:Fo)(hs:s.size≤0x800000000000)(hw:s.size+wtF k≤0x4000000000000000)(hkm:k.cnt<m+1):FnP Tryz.prog 128 #[.agg #[.bool l,.string s,.slice p n c]] (fun w=>zp w.heap.size w p n k) (.int .u64 ((ByteArray.size s+szF k:Nat):Int)):=by
 refine FnP.intro (c:=zk Tryz.f128) [.tmp 2] 23 Tryz.func128 kr kr kr fun w hpre=>?_;have H0:=St.start w;have hn:=hpre.1;have hnm:=hpre.2.1;refine rS [.b,.v] H0 kr fun gs1 w1 H1=>?_;clear H0;refine rS [.v,.l 0,.v,.E (.int .u64 (IntKind.u64.wrap ((ByteArray.size s:Int)))) (.int .u64 (ByteArray.size s:Int)) (zd (jT (a:=ByteArray.size s) (by omega))),.v] H1 kr fun gs2 w2 H2=>?_;clear H1;refine zb kr<|rS [.v,.l 0,.v,.v] H2 kr fun gs3 w3 H3=>?_;clear H2;refine zn 0 kr ?_;have HL1:St w.heap.size w w3 [((gs1 0).b,Obj.cells #[.bool l,.string s,.slice p n c] 83 (0,0))]:=H3.as kr;clear H3;have HD2:St w.heap.size w w3 []:=HL1.sub (List.Sublist.cons _ List.Sublist.slnil);refine zG kr (fun mz ρ ww=> ∃(i:Nat) (r:Fo) (a:Nat),n-i=mz∧(FoR w.heap.size w p i r)∧(i+Fo.len r=n)∧(Fo.cnt r≤Fo.cnt k)∧(a+wtF r≤0x4000000000000000)∧(s.size+szF k=a+szF r)∧St w.heap.size w ww []∧Is [(0,.agg #[.bool l,.string s,.slice p n c]),(1,.pointer (some ⟨(gs1 0).b,0,none⟩)),(2,wZ),(3,.int .u64 (a:Int)),(11,.slice p n c),(12,.int .i64 (n:Int)),(13,.int .i64 (i:Int))] ρ) (n-0) ⟨0,k,(ByteArray.size s),rfl,(zp.start hpre),(by have hn0:=(hpre).1;omega),(Nat.le_refl _),hw,rfl,HD2,(Is.of ⟨kr,kr,kr,kr,kr,kr,kr,trivial⟩)⟩ ?_;clear HD2;rintro _ _ w4 ⟨i,r,a,rfl,hR,hN,hcn,hwt,hd,H4,_,rfl⟩;by_cases hc3:(i:Nat)<n
 ·refine rS [.E (.bool (decide ((i:Int)<(n:Int)))) (.bool true) (za (decide_eq_true (by omega)))] H4 kr fun gs5 w5 H5=>?_;clear H4;refine zb kr<|zi kr kr<|zj kr<|wW<|zb kr<|zn 1 kr ?_;obtain ⟨l1,s1,k1,r1,b1,off1,C1,T1,fz1,p1,n1,c1,hr1,hp1,hb1,hh1,hs1,hx1,hz1,hk1,hR1,hN1⟩:=FoR.open hR hN (by omega);refine rS [.o (ins:=[((.tmp 11),.slice p n c),((.tmp 13),.int .i64 (i:Int))]) (v:=.pointer (some ⟨b1,off1+i*3,none⟩)) (fun ρ o w ho hi=>jm (kd:=.i64) (t:=81) (e:=83) (bytes:=48) kr (x:=(.tmp 11)) (y:=(.tmp 13)) b1 off1 n c i hp1 ho hi.1 hi.2.1 (by omega) w),.fp (off:=off1+i*3) (n:=3) (W:=#[.bool l1,.string s1,.slice p1 n1 c1]) hh1 hb1 hs1 hx1,.a,.s 0] H5 kr fun gs6 w6 H6=>?_;clear H5;have hcn1:=hcn;rw [hr1] at hcn1;simp only [Fo.cnt] at hcn1;have hwt1:=hwt;rw [hr1] at hwt1;simp only [wtF] at hwt1;have hsl1:=xG k1;have hsm1:=uj l1 s1 (szF k1);refine rL [.v,.l 0,.cp (pre:=fun w=>zp w.heap.size w p1 n1 k1) (ih l1 s1 p1 n1 c1 k1 hz1 (by omega) (by omega)) [] (fun w hb hd=>(zp.call hk1 hb)),.E (.int .u64 (IntKind.u64.wrap ((a:Int)+((sz1 l1 s1 (szF k1):Nat):Int)))) (.int .u64 ((a+(sz1 l1 s1 (szF k1)):Nat):Int)) (zd (zb5 (a:=a) (b:=sz1 l1 s1 (szF k1)) (by omega))),.v] H6 kr fun gs7 w7 H7=>?_;clear H6;refine wW<|zx [0,1,2,3,5,11,12,13,14] fun ρ1=>?_;have HK4:=H7.keep;clear H7;refine rL [.E (.int .i64 (IntKind.i64.wrap ((i:Int)+1))) (.int .i64 ((i+1:Nat):Int)) (zd (zq (a:=i) (b:=1) (by omega))),.v] HK4 kr fun gs8 w8 H8=>?_;clear HK4;have HL5:St w.heap.size w w8 [((gs6 2).b,Obj.cells #[.bool l1,.string s1,.slice p1 n1 c1] 83 (0,0))]:=H8.as kr;clear H8;have HD6:St w.heap.size w w8 []:=HL5.sub (List.Sublist.cons _ List.Sublist.slnil);show ∃m,_∧_;exact ⟨_,(by omega),(i+1),r1,(a+sz1 l1 s1 (szF k1)),rfl,hR1,hN1,(by omega),(by omega),(by rw [hd,hr1];simp only [szF];omega),HD6,(Is.of ⟨kr,kr,kr,kr,kr,kr,kr,trivial⟩)⟩
 ·refine rS [.E (.bool (decide ((i:Int)<(n:Int)))) (.bool false) (za (decide_eq_false (by omega)))] H4 kr fun gs9 w9 H9=>?_;clear H4;refine zb kr<|zh kr kr<|zy 0 kr<|wW<|rS [.v,.v] H9 kr fun gs10 w10 H10=>?_;clear H9;refine zm kr<|wV ?_;refine ⟨[.int .u64 (a:Int)],(.tmp (.int .u64 (a:Int)) kr .nil),?_,H10.below⟩;refine zd ?_;rw [hd,FoR.done hN (by omega)];rfl
theorem zhp (m:Nat)(ih: ∀(l:Bool) (s:ByteArray) (p:Option Addr) (n c:Nat) (k:Fo),s.size≤0x800000000000→s.size+wtF k≤0x4000000000000000→k.cnt<m→FnP Tryz.prog 102 #[.agg #[.bool l,.string s,.slice p n c]] (fun w=>zp w.heap.size w p n k) (.int .u64 ((sz1 l s (szF k):Nat):Int)))(l:Bool)(s:ByteArray)(p:Option Addr)(n c:Nat)(k:Fo)(hs:s.size≤0x800000000000)(hw:s.size+wtF k≤0x4000000000000000)(hkm:k.cnt<m+1):FnP Tryz.prog 102 #[.agg #[.bool l,.string s,.slice p n c]] (fun w=>zp w.heap.size w p n k) (.int .u64 ((sz1 l s (szF k):Nat):Int)):=by
 refine FnP.intro (c:=zk Tryz.f102) [.tmp 2] 16 Tryz.func102 kr kr kr fun w hpre=>?_;have H0:=St.start w;have hn:=hpre.1;have hnm:=hpre.2.1;refine rS [.b,.v] H0 kr fun gs1 w1 H1=>?_;clear H0;refine zb kr<|rS [.v,.l 0,.c (zc1 s)] H1 kr fun gs2 w2 H2=>?_;clear H1;refine Or.elim (Bool.eq_false_or_eq_true (qh s)).symm (fun hq1=>?_) (fun hq1=>?_)
 ·refine yr 6 (v:=.bool (qh s)) (v':=.bool false) (za hq1) kr<|zh kr kr<|zj kr<|wW<|rS [.l 0,.cp (pre:=fun w=>zp w.heap.size w p n k) (zc3 m ih l s p n c k (by omega) (by omega) (by omega)) [] (fun w hb hd=>(zp.call hpre hb)),.v] H2 kr fun gs3 w3 H3=>?_;clear H2;have hhl:=jC (frm l) (ByteArray.size s+szF k);have hsz:=xG k;have hhs:ByteArray.size (zf (hd (frm l) (ByteArray.size s+szF k)))≤9:=hhl.2;refine rS [.l 0,.v,.c (zc2 l s p n c (ByteArray.size s+szF k) (by omega)),.v,.E (.int .u64 (IntKind.u64.wrap ((ByteArray.size (zf (hd (frm l) (ByteArray.size s+szF k))):Int)))) (.int .u64 (ByteArray.size (zf (hd (frm l) (ByteArray.size s+szF k))):Int)) (zd (jT (a:=ByteArray.size (zf (hd (frm l) (ByteArray.size s+szF k)))) (by omega))),.v,.E (.int .u64 (IntKind.u64.wrap ((ByteArray.size (zf (hd (frm l) (ByteArray.size s+szF k))):Int)+((ByteArray.size s+szF k:Nat):Int)))) (.int .u64 (((ByteArray.size (zf (hd (frm l) (ByteArray.size s+szF k))))+(ByteArray.size s+szF k):Nat):Int)) (zd (zb5 (a:=ByteArray.size (zf (hd (frm l) (ByteArray.size s+szF k)))) (b:=ByteArray.size s+szF k) (by omega))),.v] H3 kr fun gs4 w4 H4=>?_;clear H3;refine zm kr<|wV ?_;refine ⟨[.int .u64 (((ByteArray.size (zf (hd (frm l) (ByteArray.size s+szF k))))+(ByteArray.size s+szF k):Nat):Int)],(.tmp (.int .u64 (((ByteArray.size (zf (hd (frm l) (ByteArray.size s+szF k))))+(ByteArray.size s+szF k):Nat):Int)) kr .nil),?_,H4.below⟩;refine zd ?_;unfold sz1;rw [if_neg (by rw [hq1];decide)];rfl
 ·refine yr 6 (v:=.bool (qh s)) (v':=.bool true) (za hq1) kr<|zi kr kr<|rS [.v] H2 kr fun gs5 w5 H5=>?_;clear H2;refine zm kr<|wV ?_;refine ⟨[.int .u64 1],(.tmp (.int .u64 1) kr .nil),?_,H5.below⟩;refine zd ?_;unfold sz1;rw [if_pos hq1];rfl
theorem zc4 (l:Bool)(s:ByteArray)(p:Option Addr)(n c:Nat)(k:Fo)(hs:s.size≤0x800000000000)(hw:s.size+wtF k≤0x4000000000000000):FnP Tryz.prog 102 #[.agg #[.bool l,.string s,.slice p n c]] (fun w=>zp w.heap.size w p n k) (.int .u64 ((sz1 l s (szF k):Nat):Int)):=by
 have key: ∀(m:Nat) (l:Bool) (s:ByteArray) (p:Option Addr) (n c:Nat) (k:Fo),s.size≤0x800000000000→s.size+wtF k≤0x4000000000000000→k.cnt<m→FnP Tryz.prog 102 #[.agg #[.bool l,.string s,.slice p n c]] (fun w=>zp w.heap.size w p n k) (.int .u64 ((sz1 l s (szF k):Nat):Int)):=by
  intro m
  induction m with
  | zero=>intros;omega
  | succ m ih=>intro l s p n c k hs hw hkm;exact zhp m ih l s p n c k hs hw hkm
 exact key (k.cnt+1) l s p n c k hs hw (by omega)
theorem zhq (l:Bool)(s:ByteArray)(p:Option Addr)(n c:Nat)(k:Fo)(hs:s.size≤0x800000000000)(hw:s.size+wtF k≤0x4000000000000000):FnP Tryz.prog 128 #[.agg #[.bool l,.string s,.slice p n c]] (fun w=>zp w.heap.size w p n k) (.int .u64 ((ByteArray.size s+szF k:Nat):Int)):=zc3 k.cnt (fun l s p n c k hs hw _=>zc4 l s p n c k hs hw) l s p n c k hs hw (by omega)
inductive BE (p:Nat)(T e:TypeId):List UInt8→List (Nat×Obj)→Prop
 | nil (a:Option Addr):a=none∨a=some ⟨p,0,none⟩→BE p T e [] [(p,.cells #[.pointer a,.slice none 0 0] T (0,0))]
 | row (a:Option Addr) (b n cap:Nat) (cur:Array Value) (out:List UInt8):a=none∨a=some ⟨p,0,none⟩→n=out.length→Rw 1 cur cap n (cellsB out)→
  BE p T e out [(b,.cells cur e (0,0)),(p,.cells #[.pointer a,.slice (some ⟨b,0,none⟩) n cap] T (0,0))]
def FnB (P:Program)(f:Nat)(args:Array Value)(v:Value)(p:Nat)(T e:TypeId)(out out':List UInt8)(pre:World→Prop):Prop:=
 ∀(w0 w:World) (L E:List (Nat×Obj)),BE p T e out E→pre w0→St w0.heap.size w0 w (E++L)→Calls P f args w fun r w'=> ∃E',r=.returned v∧BE p T e out' E'∧St w0.heap.size w0 w' (E'++L)
def jZ (P:Program)(f:Nat)(args:Array Value)(v:Value)(p:Nat)(T e:TypeId)(out out':List UInt8)(pre:World→Prop):Prop:=
 ∀(w0 w:World) (E:List (Nat×Obj)),BE p T e out E→pre w0→St w0.heap.size w0 w E→Calls P f args w fun r w'=> ∃E',r=.returned v∧BE p T e out' E'∧St w0.heap.size w0 w' E'
section
variable {P:Program}{N:Nat}{ops:Array Oper}{i:Nat}{r:List Nat}{K:Env→World→Prop}{ρ:Env}{w:World}{w0:World}{l E:List (Nat×Obj)}
theorem zaM (HS:St w0.heap.size w0 w (l++E)){p:Nat}{T e:TypeId}{out:List UInt8}(hE:BE p T e out E)(d:Option Nat)(f:Nat)(args:Array Value)(v:Value)(out':List UInt8)(pre:World→Prop)(hc:FnB P f args v p T e out out' pre)(hp:pre w0)
 (h:opv P ops i ρ w=some (d,true,.ok (.enter f args) w)) (hd:dOK d N=true)
 (kk: ∀E' w',BE p T e out' E'→St w0.heap.size w0 w' (l++E')→WPs P N ops K r (zr ρ d v) w'):WPs P N ops K (i::r) ρ w:=by
 obtain ⟨o,ho,rfl,hw,hr⟩:=zZ h;refine WPo.run ho hw fun a ha=>?_;rw [hr,Oper.upon_enter];refine (hc w0 w l E hE hp (HS.perm List.perm_append_comm)).mono ?_;rintro _ w' ⟨E',rfl,hE',HS'⟩;exact ⟨_,ha.put _ (zV hd) v,kk E' w' hE' (HS'.perm List.perm_append_comm)⟩
theorem zaN (HS:St w0.heap.size w0 w E){p:Nat}{T e:TypeId}{out:List UInt8}(hE:BE p T e out E)(d:Option Nat)(f:Nat)(args:Array Value)(v:Value)(out':List UInt8)(pre:World→Prop)(hc:jZ P f args v p T e out out' pre)(hp:pre w0)
 (h:opv P ops i ρ w=some (d,true,.ok (.enter f args) w)) (hd:dOK d N=true)
 (kk: ∀E' w',BE p T e out' E'→St w0.heap.size w0 w' E'→WPs P N ops K r (zr ρ d v) w'):WPs P N ops K (i::r) ρ w:=by
 obtain ⟨o,ho,rfl,hw,hr⟩:=zZ h;refine WPo.run ho hw fun a ha=>?_;rw [hr,Oper.upon_enter];refine (hc w0 w E hE hp HS).mono ?_;rintro _ w' ⟨E',rfl,hE',HS'⟩;exact ⟨_,ha.put _ (zV hd) v,kk E' w' hE' HS'⟩
theorem FnB.intro {f:Nat}{fn:Func}{c:Code}(rs:List ResultVar)(N:Nat){args:Array Value}{v:Value}{p:Nat}{T e:TypeId}{out out':List UInt8}{pre:World→Prop}(hf:P.funcs[f]? =some fn)(hb:fn.body=some c)(hr:fn.results.toList=rs)(hn:args.size+(fn.ntmps-args.size)=N)
 (h: ∀w0 w L E,BE p T e out E→pre w0→St w0.heap.size w0 w (E++L)→WP P N c (yC P rs fun v' w'=>v'=v∧∃E',BE p T e out' E'∧St w0.heap.size w0 w' (E'++L)) (ini args) w):FnB P f args v p T e out out' pre:=fun w0 w L E hE hp HS=>
 (jO hf hb hr hn (h w0 w L E hE hp HS)).mono fun _ w' ⟨v',he,hv,E',h1,h2⟩=>⟨E',by rw [he,hv],h1,h2⟩
theorem jZ.intro {f:Nat}{fn:Func}{c:Code}(rs:List ResultVar)(N:Nat){args:Array Value}{v:Value}{p:Nat}{T e:TypeId}{out out':List UInt8}{pre:World→Prop}(hf:P.funcs[f]? =some fn)(hb:fn.body=some c)(hr:fn.results.toList=rs)(hn:args.size+(fn.ntmps-args.size)=N)
 (h: ∀w0 w E,BE p T e out E→pre w0→St w0.heap.size w0 w E→WP P N c (yC P rs fun v' w'=>v'=v∧∃E',BE p T e out' E'∧St w0.heap.size w0 w' E') (ini args) w):jZ P f args v p T e out out' pre:=fun w0 w E hE hp HS=>
 (jO hf hb hr hn (h w0 w E hE hp HS)).mono fun _ w' ⟨v',he,hv,E',h1,h2⟩=>⟨E',by rw [he,hv],h1,h2⟩
def vh (t u:TypeId)(s x:Operand):Op:=.call { callee:=.builtin .append,args:=#[s,x],argTypes:=#[t,u] }
theorem zc5 {P:Program}{ρ:Env}{w w':World}{o:Oper}{t u:TypeId}{s x:Operand}{vs v':Value}{tx:ByteArray}(hop:o.op=vh t u s x)(hs:ev ρ s=vs)(hx:ev ρ x=.string tx)
 (hrun:(Builtin.append_ #[t,u] o.type #[vs,.string tx]).run P w=.ok v' w'):(execOp (ev ρ) o).run P w=.ok (.value v') w':=by
 unfold execOp;simp only [hop,vh,resolve,invoke,builtin,Sem.run_bind,Sem.run_pure,Result.andThen_ok,List.map_toArray,List.map_cons,List.map_nil,hs,hx,hrun]
theorem zhr (HS:St w0.heap.size w0 w l)(d:Option Nat)(t u e:TypeId)(s x:Operand)(j b n cap:Nat)(cur:Array Value)(xs:List UInt8)(tx:ByteArray)(l':Nat→Array Value→List (Nat×Obj))
 (h:opk ops i ρ=some (d,true,vh t u s x)) (hd:dOK d N=true) (ht:yl P t=some (e,1,1)) (hu':P.underlying u=some .string)
 (hs:ev ρ s=.slice (some ⟨b,0,none⟩) n cap) (hj:l[j]? =some (b,.cells cur e (0,0))) (hr:Rw 1 cur cap n (cellsB xs)) (hx:ev ρ x=.string tx) (hm:n+tx.size≤0x800000000000)
 (hl': ∀b' cur',l.set j (b',.cells cur' e (0,0))=l' b' cur')
 (kk: ∀b' cap' cur' w',St w0.heap.size w0 w' (l' b' cur')→Rw 1 cur' cap' (n+tx.size) (cellsB (xs++tl tx))→WPs P N ops K r (zr ρ d (.slice (some ⟨b',0,none⟩) (n+tx.size) cap')) w'):WPs P N ops K (i::r) ρ w:=by
 obtain ⟨o,ho,rfl,hw,hop⟩:=zE h;obtain ⟨it,z,hu,hi,hz,hsz,hby,hzs,h0⟩:=yU ht;have hg:=HS.get j hj;have hcx:Lib.strCells tx=cellsB (tl tx):=rfl;have hxn:xs.length=n:=by have:=hr.len;rw [qm] at this;omega
 have hlen:(cellsB (xs++tl tx)).length=(n+tx.size)*1:=by rw [qm,List.length_append,yn];omega
 have hcsz:=hr.sz;by_cases hroom:n+tx.size≤cap
 ·have hrun:=Lib.run_append_room_string (P:=P) w t u o.type e it hu hu' hi hsz b n cap cur hg tx hroom (by omega);refine WPo.run ho hw fun a ha=>?_;have hex:(execOp (ev ρ) o).run P w=.ok (.value (.slice (some ⟨b,0,none⟩) (n+tx.size) cap)) (w.setRow b (cur.toList.take n++Lib.strCells tx++cur.toList.drop (n+tx.size)).toArray):=by
   unfold execOp;simp only [hop,vh,resolve,invoke,builtin,Sem.run_bind,Sem.run_pure,Result.andThen_ok,List.map_toArray,List.map_cons,List.map_nil,hs,hx,hrun]
  rw [hex,Oper.upon_value];have HS':=HS.store j (C':=(cur.toList.take n++Lib.strCells tx++cur.toList.drop (n+tx.size)).toArray) hj;rw [hl'] at HS';refine ⟨_,ha.put _ (zV hd) _,kk b cap _ _ HS' ⟨hlen,hroom,hr.max,?_,?_⟩⟩
  ·have h1:cur.toList.take n=cellsB xs:=by have:=hr.take;rwa [Nat.mul_one] at this
   rw [h1,hcx,←kU,←hlen];exact List.take_left
  ·simp only [List.size_toArray,List.length_append,List.length_take,List.length_drop,Array.length_toList,Lib.strCells_length];omega
 ·have holds: ∀q v,(cellsB xs)[q]? =some v→w.cell? ((⟨b,0,none⟩:Addr).add q)=some v:=fun q v hq=>by
   have hql:q<n:=by rw [←hxn,←qm];exact (List.getElem?_eq_some_iff.1 hq).1
   rw [yT,Nat.zero_add];simp [World.cell?,hg,hr.get q (by omega),hq]
  have hrun:=Lib.run_append_grow_string (P:=P) w t u o.type e it z hu hu' hi hz ⟨b,0,none⟩ n cap (cellsB xs) (by rw [qm,hsz];omega) holds tx (by omega) (by omega) (by rw [hby];exact growslice_fits (by omega) (by omega));refine WPo.run ho hw fun a ha=>?_;rw [zc5 hop hs hx hrun,Oper.upon_value];have hgr:w.grownBy (w.drew.alloc (.cells ((cellsB xs).toArray++(Lib.strCells tx).toArray++Builtin.zeroCells z.cells (grownCap w (n+tx.size) cap e-(n+tx.size))) e)) (some b):=
   ⟨rfl,rfl,rfl,by simp,fun k hk _=>Go.heap_alloc_old w.drew _ hk⟩
  have HS':=HS.grown j hj hgr (.inr rfl) (heap_alloc_new w.drew _);rw [hl'] at HS';have hge:=grownCap_ge w (n+tx.size) cap e;refine ⟨_,ha.put _ (zV hd) _,kk _ (grownCap w (n+tx.size) cap e) _ _ HS' ⟨hlen,hge,grownCap_le_maxLen w (n+tx.size) cap e (by unfold maxLen;omega),?_,?_⟩⟩
  ·simp only [Array.toList_append];rw [hcx];show List.take _ (cellsB xs++cellsB (tl tx)++_)=_;rw [←kU,←hlen];exact List.take_left
  ·simp only [Array.size_append,List.size_toArray,size_zeroCells,hzs,qm,Lib.strCells_length];omega
theorem zhs (HS:St w0.heap.size w0 w l)(d:Option Nat)(t u e:TypeId)(s x:Operand)(tx:ByteArray)
 (h:opk ops i ρ=some (d,true,vh t u s x)) (hd:dOK d N=true) (ht:yl P t=some (e,1,1)) (hu':P.underlying u=some .string)
 (hs:ev ρ s=.slice none 0 0) (hx:ev ρ x=.string tx) (h0:0<tx.size) (hm:tx.size≤0x800000000000)
 (kk: ∀b' cap' cur' w',St w0.heap.size w0 w' ((b',.cells cur' e (0,0))::l)→Rw 1 cur' cap' tx.size (cellsB (tl tx))→WPs P N ops K r (zr ρ d (.slice (some ⟨b',0,none⟩) tx.size cap')) w'):WPs P N ops K (i::r) ρ w:=by
 obtain ⟨o,ho,rfl,hw,hop⟩:=zE h;obtain ⟨it,z,hu,hi,hz,hsz,hby,hzs,h0'⟩:=yU ht;have hcx:Lib.strCells tx=cellsB (tl tx):=rfl;have hrun:=Go.run_append_nil_string (P:=P) w t u o.type e it z hu hu' hi hz tx h0 (by omega) (by rw [hby];omega);refine WPo.run ho hw fun a ha=>?_;rw [zc5 hop hs hx hrun,Oper.upon_value];have hge:=grownCap_ge w tx.size 0 e;have e1:(tx.data.map (fun b=>Value.int .u8 b.toNat)++Builtin.zeroCells z.cells (grownCap w tx.size 0 e-tx.size)).toList=cellsB (tl tx)++(Builtin.zeroCells z.cells (grownCap w tx.size 0 e-tx.size)).toList:=by
  unfold cellsB tl;simp
 refine ⟨_,ha.put _ (zV hd) _,kk _ (grownCap w tx.size 0 e) _ _ (HS.drew.alloc _) ⟨by rw [qm,yn,Nat.mul_one],hge,grownCap_le_maxLen w tx.size 0 e (by unfold maxLen;omega),?_,?_⟩⟩
 ·rw [e1,Nat.mul_one,List.take_append_of_le_length (by rw [qm,yn];exact Nat.le_refl _),List.take_of_length_le (by rw [qm,yn];exact Nat.le_refl _)]
 ·rw [←Array.length_toList,e1,List.length_append,qm,yn,Array.length_toList,size_zeroCells,hzs];omega
theorem zc6 {B:Nat}(HS:St B w0 w l)(d:Option Nat)(t t' tp:TypeId)(x:Operand)(j b:Nat)(C:Array Value)(T:TypeId)(h:opk ops i ρ=some (d,true,.convert t t' x))(hd:dOK d N=true)(hx:ev ρ x=.pointer (some ⟨b,0,none⟩))(hj:l[j]? =some (b,.cells C T (0,0)))
 (ht:P.underlying t=some (.pointer tp)) (ht':P.underlying t'=some .unsafePointer) (hz:((P.info? tp).map fun i=>Nat.blt 0 i.size)=some true) (hC:0<C.size) (kk:WPs P N ops K r (zr ρ d (.pointer (some ⟨b,0,none⟩))) w):WPs P N ops K (i::r) ρ w:=
 vI d _ _ w h hd (fun o ho=>by
  obtain ⟨it,hi,hs⟩:=Option.map_eq_some_iff.1 hz;have hsh:w.shape? b=some (T,C.size):=by unfold World.shape?;rw [HS.get j hj]
  have:=Lib.run_to_unsafe (P:=P) w (src:=t) (dst:=t') ⟨b,0,none⟩ ht ht' hi (by have:=Nat.le_of_ble_eq_true hs;omega) hsh hC;unfold execOp
  simp only [ho,hx,Sem.run_bind,this,Result.andThen_ok];rfl) kk
theorem zc7 {B:Nat}(HS:St B w0 w l)(d:Option Nat)(t t' tp:TypeId)(x:Operand)(j b:Nat)(C:Array Value)(T:TypeId)(h:opk ops i ρ=some (d,true,.convert t t' x))(hd:dOK d N=true)(hx:ev ρ x=.pointer (some ⟨b,0,none⟩))(hj:l[j]? =some (b,.cells C T (0,0)))
 (ht:P.underlying t=some .unsafePointer) (ht':P.underlying t'=some (.pointer tp)) (hz:(P.info? tp).isSome=true) (hl:liesAt P P.depth T (C.size / P.cellsOf T) 0 tp 1=true) (kk:WPs P N ops K r (zr ρ d (.pointer (some ⟨b,0,none⟩))) w):WPs P N ops K (i::r) ρ w:=
 vI d _ _ w h hd (fun o ho=>by
  obtain ⟨it,hi⟩:=Option.isSome_iff_exists.1 hz;have hsh:w.shape? b=some (T,C.size):=by unfold World.shape?;rw [HS.get j hj]
  have:=Lib.run_from_unsafe (P:=P) w (src:=t) (dst:=t') ⟨b,0,none⟩ ht ht' hi hsh hl;unfold execOp
  simp only [ho,hx,Sem.run_bind,this,Result.andThen_ok];rfl) kk
theorem zc8 {t tp t':TypeId}(ht:P.underlying t=some (.pointer tp))(hz:(P.info? tp).isSome=true){x y:Operand}{o:Oper}(a:Addr)(ho:o.op=.binOp .neq t x y t')(hx:ev ρ x=.pointer (some a))(hy:ev ρ y=.pointer (some a)):
 ∀w,(execOp (ev ρ) o).run P w=.ok (.value (.bool false)) w:=fun w=>by
 obtain ⟨it,hi⟩:=Option.isSome_iff_exists.1 hz;have:=Lib.run_neq_ptr_same (P:=P) w a ht hi;unfold execOp;simp [ho,hx,hy,eqGuard,this]
end
def yO (w0:World)(p:Nat)(T e:TypeId)(out':List UInt8)(bx:Nat×Obj)(E:List (Nat×Obj))(q:Nat):(Nat→Bool)→(Nat→D2.Gh)→World→Prop:=fun L _ w=>
 bif L q then (∃E',BE p T e out' E'∧St w0.heap.size w0 w ([bx]++E')) else St w0.heap.size w0 w ([bx]++E)
section
variable {P:Program}{ops:Array Oper}{R:(Nat→D2.Gh)→Env}{i:Nat}{d:Option Nat}{w0:World}{p:Nat}{T e:TypeId}{out':List UInt8}{bx:Nat×Obj}{E:List (Nat×Obj)}{q:Nat}
theorem zc9 {L:Nat→Bool}(h:Nat.beq q i=false):D2.put1 L i q=L q:=by unfold D2.put1;rw [h];rfl
theorem yO.keep (h:Nat.beq q i=false){L:Nat→Bool}{g g':Nat→D2.Gh}{w:World}(hp:yO w0 p T e out' bx E q L g w):yO w0 p T e out' bx E q (D2.put1 L i) g' w:=by
 unfold yO at hp ⊢;rw [zc9 h];exact hp
theorem yO.cases {L:Nat→Bool}{g:Nat→D2.Gh}{w:World}(hp:yO w0 p T e out' bx E q L g w):∃E',St w0.heap.size w0 w ([bx]++E')∧((∀w',St w0.heap.size w0 w' ([bx]++E')→yO w0 p T e out' bx E q L g w')):=by
 unfold yO at hp ⊢;cases hl:L q with
 | false=>rw [hl] at hp;exact ⟨E,hp,fun w' h=>h⟩
 | true=>rw [hl] at hp;obtain ⟨E',h1,h2⟩:=hp;exact ⟨E',h2,fun w' h=>⟨E',h1,h⟩⟩
theorem zht {V:Value}(hq:Nat.beq q i=false)(h: ∀g w,opv P ops i (R g) w=some (d,true,.ok (.value V) w)):D2.Gives P ops R (yO w0 p T e out' bx E q) i d (fun _=>V):=D2.gv_val (fun _ _ _ hp=>hp.keep hq) h
theorem zda {C:Array Value}{T':TypeId}{t:TypeId}{x:Operand}(hq:Nat.beq q i=false)(h: ∀g,opk ops i (R g)=some (d,true,.load t x))(hx: ∀g,ev (R g) x=.pointer (some ⟨bx.1,0,none⟩))(hb:bx.2=.cells C T' (0,0))(ht:aggSize P t=some C.size):D2.Gives P ops R (yO w0 p T e out' bx E q) i d (fun _=>.agg C):=D2.gives_of fun L g w hp hN=>by
 obtain ⟨o,ho,hd,hw,hop⟩:=zE (h g);obtain ⟨E',hS,_⟩:=hp.cases;have hh:w.heap[bx.1]? =some (.cells C T' (0,0)):=by rw [←hb];exact hS.get 0 rfl
 have:=ju (P:=P) (w:=w) (off:=0) ht hh (by omega);have e1:C.extract 0 (0+C.size)=C:=by simp
 rw [e1] at this;have e2:(execOp (ev (R g)) o).run P w=.ok (.value (.agg C)) w:=by simp [execOp,hop,Instr.loadAt,Instr.sureAddr,hx g,this]
 exact ⟨o,ho,hd,.inr ⟨hw,by rw [e2];exact ⟨g i,rfl,by rw [D2.setN_self];exact hp.keep hq⟩⟩⟩
theorem zdb {V:Value}{f:Nat}{args:Array Value}{pr:World→Prop}(hq:Nat.beq q i=false)(hc:FnP P f args pr V)(hpr: ∀w,Below w0.heap.size w0 w→pr w)(h: ∀g w,opv P ops i (R g) w=some (d,true,.ok (.enter f args) w)):D2.Gives P ops R (yO w0 p T e out' bx E q) i d (fun _=>V):=D2.gives_of fun L g w hp hN=>by
 obtain ⟨o,ho,hd,hw,hr⟩:=zZ (h g w);obtain ⟨E',hS,hk⟩:=hp.cases;exact ⟨o,ho,hd,.inr ⟨hw,by rw [hr];exact (hc w (hpr w hS.below)).mono fun e w' ⟨he,hb⟩=>⟨V,he,g i,rfl,by rw [D2.setN_self];exact (hk w' (hS.call hb)).keep hq⟩⟩⟩
theorem zhu {V:Value}{f:Nat}{args:Array Value}(hq:Nat.beq q i=false)(hc:Fn P f args V)(h: ∀g w,opv P ops i (R g) w=some (d,true,.ok (.enter f args) w)):D2.Gives P ops R (yO w0 p T e out' bx E q) i d (fun _=>V):=
 zdb (pr:=fun _=>True) hq (fun w _=>hc w) (fun _ _=>trivial) h
theorem zhv {V:Value}{f:Nat}{args:Array Value}{out:List UInt8}(hq:q=i)(hE:BE p T e out E)(hc:FnB P f args V p T e out out' (fun _=>True))(h: ∀g w,opv P ops i (R g) w=some (d,true,.ok (.enter f args) w)):D2.Gives P ops R (yO w0 p T e out' bx E q) i d (fun _=>V):=D2.gives_of fun L g w hp hN=>by
 subst hq;obtain ⟨o,ho,hd,hw,hr⟩:=zZ (h g w);have hS:St w0.heap.size w0 w ([bx]++E):=by unfold yO at hp;rw [hN.1] at hp;exact hp
 refine ⟨o,ho,hd,.inr ⟨hw,?_⟩⟩;rw [hr];refine (hc w0 w [bx] E hE trivial (hS.perm List.perm_append_comm)).mono ?_;rintro _ w' ⟨E',rfl,hE',hS'⟩;refine ⟨V,rfl,g q,rfl,?_⟩;unfold yO;rw [show D2.put1 L q q=true from D2.put1_self L q];exact ⟨E',hE',hS'.perm List.perm_append_comm⟩
theorem yO.done {L:Nat→Bool}{g:Nat→D2.Gh}{w:World}(hp:yO w0 p T e out' bx E q L g w)(h:L q=true):∃E',BE p T e out' E'∧St w0.heap.size w0 w ([bx]++E'):=by
 unfold yO at hp;rw [h] at hp;exact hp
end
def qS (w0:World)(l:List (Nat×Obj))(q:Nat):(Nat→Bool)→(Nat→D2.Gh)→World→Prop:=fun L _ w=>bif L q then St w0.heap.size w0 w [] else St w0.heap.size w0 w l
section
variable {P:Program}{ops:Array Oper}{R:(Nat→D2.Gh)→Env}{i:Nat}{d:Option Nat}{w0:World}{l:List (Nat×Obj)}{q:Nat}
theorem qS.keep (h:Nat.beq q i=false){L:Nat→Bool}{g g':Nat→D2.Gh}{w:World}(hp:qS w0 l q L g w):qS w0 l q (D2.put1 L i) g' w:=by
 unfold qS at hp ⊢;rw [zc9 h];exact hp
theorem xf {V:Value}(hq:Nat.beq q i=false)(h: ∀g w,opv P ops i (R g) w=some (d,true,.ok (.value V) w)):D2.Gives P ops R (qS w0 l q) i d (fun _=>V):=D2.gv_val (fun _ _ _ hp=>hp.keep hq) h
theorem zaO {V:Value}(hq:Nat.beq q i=false)(hb: ∀L,D2.Now ops i L→L q=false)(op:Op)(h: ∀g,opk ops i (R g)=some (d,true,op))(hr: ∀g w (o:Oper),St w0.heap.size w0 w l→o.op=op→(execOp (ev (R g)) o).run P w=.ok (.value V) w):D2.Gives P ops R (qS w0 l q) i d (fun _=>V):=D2.gives_of fun L g w hp hN=>by
 obtain ⟨o,ho,hd,hw,hop⟩:=zE (h g);have hS:St w0.heap.size w0 w l:=by have h9:=hp;unfold qS at h9;rw [hb L hN] at h9;exact h9
 exact ⟨o,ho,hd,.inr ⟨hw,by rw [hr g w o hS hop];exact ⟨g i,rfl,by rw [D2.setN_self];exact hp.keep hq⟩⟩⟩
theorem zhw {V:Value}(hq:q=i)(op:Op)(h: ∀g,opk ops i (R g)=some (d,true,op))(hr: ∀g w (o:Oper),St w0.heap.size w0 w l→o.op=op→∃w',(execOp (ev (R g)) o).run P w=.ok (.value V) w'∧St w0.heap.size w0 w' []):D2.Gives P ops R (qS w0 l q) i d (fun _=>V):=D2.gives_of fun L g w hp hN=>by
 subst hq;obtain ⟨o,ho,hd,hw,hop⟩:=zE (h g);have hS:St w0.heap.size w0 w l:=by have h9:=hp;unfold qS at h9;rw [hN.1] at h9;exact h9
 obtain ⟨w',h1,h2⟩:=hr g w o hS hop;exact ⟨o,ho,hd,.inr ⟨hw,by rw [h1];exact ⟨g q,rfl,by unfold qS;rw [show D2.put1 L q q=true from D2.put1_self L q];exact h2⟩⟩⟩
end
def zaP (t:TypeId)(x:Operand):Op:=.call { callee:=.builtin .unsafeSliceData,args:=#[x],argTypes:=#[t] }
theorem zhx {P:Program}{ρ:Env}{w:World}{t:TypeId}{x:Operand}{a:Addr}{n c:Nat}(hx:ev ρ x=.slice (some a) n c)(hc:c≠0)(o:Oper)(ho:o.op=zaP t x):(execOp (ev ρ) o).run P w=.ok (.value (.pointer (some a))) w:=by
 have:=Lib.run_unsafeSliceData_row (P:=P) (w:=w) #[t] o.type a n c hc;unfold execOp;simp only [ho,zaP,resolve,invoke,builtin,Sem.run_bind,Sem.run_pure,Result.andThen_ok,List.map_toArray,List.map_cons,List.map_nil,hx,this]
theorem zhy {P:Program}{ρ:Env}{w w0:World}{l:List (Nat×Obj)}{j b n cap:Nat}{C:Array Value}{t t' e:TypeId}{x y:Operand}{xs:List UInt8}(HS:St w0.heap.size w0 w l)(hj:l[j]? =some (b,.cells C e (0,0)))(ht:P.underlying t=some (.pointer e))(hc:P.cellsOf e=1)
 (hx:ev ρ x=.pointer (some ⟨b,0,none⟩)) (hy:ev ρ y=.int .i64 (n:Int)) (hr:Rw 1 C cap n (cellsB xs)) (h0:0<n) (hm:n≤0x7fffffffffffffff) (o:Oper) (hop:o.op=zas t t' x y):
 ∃w',(execOp (ev ρ) o).run P w=.ok (.value (.string (zf xs))) w'∧St w0.heap.size w0 w' []:=by
 have hb:=HS.get j hj;have hB:=HS.ge j hj;have hlen:xs.length=n:=by have:=hr.len;rw [qm] at this;omega
 have hsz:=hr.sz;have hle:=hr.le
 have hrun:=Lib.run_unsafeString_row (P:=P) w t t' o.type e ht hc b C.size (by unfold World.shape?;rw [hb]) xs (by intro e;subst e;simp at hlen;omega) (by omega) (by omega) (fun j u hj=>by
  have hjl:j<xs.length:=(List.getElem?_eq_some_iff.1 hj).1;have h2:=hr.get j (by omega);rw [yT,Nat.zero_add];have h3:(cellsB xs)[j]? =some (.int .u8 (u.toNat:Int)):=by unfold cellsB;rw [List.getElem?_map,hj];rfl
  simp [World.cell?,hb,h2,h3])
 rw [hlen] at hrun;refine ⟨w.freeze ⟨b,0,none⟩ n,?_,?_⟩
 ·unfold execOp;simp only [hop,zas,resolve,invoke,builtin,Sem.run_bind,Sem.run_pure,Result.andThen_ok,List.map_toArray,List.map_cons,List.map_nil,hx,hy,hrun];rfl
 ·have hbel:=Lib.below_freeze HS.below (p:=⟨b,0,none⟩) hB n;refine ⟨hbel,Nat.le_trans HS.le ?_,(fun e he=>nomatch he),List.nodup_nil⟩;unfold World.freeze;split<;>simp
theorem St.load1_run {P:Program}{ρ:Env}{w w0:World}{l:List (Nat×Obj)}{j b off:Nat}{C:Array Value}{T t:TypeId}{x:Operand}{v:Value}(HS:St w0.heap.size w0 w l)(hj:l[j]? =some (b,.cells C T (0,0)))(ht:oneCell P t=true)(hx:ev ρ x=.pointer (some ⟨b,off,none⟩))(hv:C[off]? =some v)(o:Oper)(ho:o.op=.load t x):
 (execOp (ev ρ) o).run P w=.ok (.value v) w:=by
 have:=jv (P:=P) (w:=w) ht (HS.get j hj) hv;simp [execOp,ho,Instr.loadAt,Instr.sureAddr,hx,this]
theorem zhz (p:Nat)(w0 w:World)(L:List (Nat×Obj))(H0:St w0.heap.size w0 w ([(p,Obj.cells #[.pointer none,.slice none 0 0] 133 (0,0))]++L)):WP Tryz.prog 20 (zk Tryz.f144) (yC Tryz.prog [] fun v' w'=>v'=.tuple #[]∧∃E',BE p 133 5 ([]) E'∧St w0.heap.size w0 w' (E'++L)) (ini #[.pointer (some ⟨p,0,none⟩)]) w:=by
 refine zg [0,1,2,3,4] kr kr<|zl (some 2) (.pointer (some ⟨p,0,none⟩)) (fun w=>by kernel_rfl) kr<|zl (some 3) (.pointer (some ⟨p,0,none⟩)) (fun w=>by kernel_rfl) kr<|zl (some 4) (.pointer (some ⟨p,0,none⟩)) (fun w=>by kernel_rfl) kr<|qB H0 (some 5) 131 (.tmp 4) 0 p 0 #[.pointer none,.slice none 0 0] 133 (0,0) (.pointer none) kr kr kr kr kr kr<|zl (some 6) (.bool true) (fun w=>by kernel_rfl) kr<|zc<|zi kr kr<|yq [0,1,2,3,4,5,6,7] kr<|zl (some 7) (.pointer (some ⟨p,0,none⟩)) (fun w=>by kernel_rfl) kr<|zl (some 8) (.pointer (some ⟨p,0,none⟩)) (fun w=>by kernel_rfl) kr<|zc6 H0 (some 9) 131 179 133 (.tmp 8) 0 p #[.pointer none,.slice none 0 0] 133 kr kr kr kr kr kr kr (by show 0<2;omega)<|zl (some 10) (.pointer (some ⟨p,0,none⟩)) (fun w=>by kernel_rfl) kr<|zc7 H0 (some 11) 179 131 133 (.tmp 10) 0 p #[.pointer none,.slice none 0 0] 133 kr kr kr kr kr kr kr kr<|zl (some 12) (.pointer (some ⟨p,0,none⟩)) (fun w=>by kernel_rfl) kr<|zl (some 13) (.pointer (some ⟨p,0,none⟩)) (fun w=>by kernel_rfl) kr<|yS H0 0 ([(p,Obj.cells #[.pointer (some ⟨p,0,none⟩),.slice none 0 0] 133 (0,0))]++L) 131 (.tmp 13) (.tmp 11) p (0) #[.pointer none,.slice none 0 0] #[.pointer (some ⟨p,0,none⟩),.slice none 0 0] 133 (.pointer (some ⟨p,0,none⟩)) kr kr kr kr kr kr (of_decide_eq_true kr) kr kr ?_;intro w1 H1;clear H0;refine zc<|wV ?_;exact ⟨[],.nil,rfl,_,(BE.nil (some ⟨p,0,none⟩) (Or.inr rfl)),H1⟩
theorem zhA (p:Nat)(w0 w:World)(L:List (Nat×Obj))(H0:St w0.heap.size w0 w ([(p,Obj.cells #[.pointer (some ⟨p,0,none⟩),.slice none 0 0] 133 (0,0))]++L)):WP Tryz.prog 20 (zk Tryz.f144) (yC Tryz.prog [] fun v' w'=>v'=.tuple #[]∧∃E',BE p 133 5 ([]) E'∧St w0.heap.size w0 w' (E'++L)) (ini #[.pointer (some ⟨p,0,none⟩)]) w:=by
 refine zg [0,1,2,3,4] kr kr<|zl (some 2) (.pointer (some ⟨p,0,none⟩)) (fun w=>by kernel_rfl) kr<|zl (some 3) (.pointer (some ⟨p,0,none⟩)) (fun w=>by kernel_rfl) kr<|zl (some 4) (.pointer (some ⟨p,0,none⟩)) (fun w=>by kernel_rfl) kr<|qB H0 (some 5) 131 (.tmp 4) 0 p 0 #[.pointer (some ⟨p,0,none⟩),.slice none 0 0] 133 (0,0) (.pointer (some ⟨p,0,none⟩)) kr kr kr kr kr kr<|zl (some 6) (.bool false) (fun w=>by kernel_rfl) kr<|zc<|zh kr kr<|zg [0,1,2,3,4,5] kr kr<|zl (some 14) (.pointer (some ⟨p,0,none⟩)) (fun w=>by kernel_rfl) kr<|zl (some 15) (.pointer (some ⟨p,0,none⟩)) (fun w=>by kernel_rfl) kr<|zl (some 16) (.pointer (some ⟨p,0,none⟩)) (fun w=>by kernel_rfl) kr<|qB H0 (some 17) 131 (.tmp 16) 0 p 0 #[.pointer (some ⟨p,0,none⟩),.slice none 0 0] 133 (0,0) (.pointer (some ⟨p,0,none⟩)) kr kr kr kr kr kr<|zl (some 18) (.pointer (some ⟨p,0,none⟩)) (fun w=>by kernel_rfl) kr<|vG (some 19) _ (.bool false) kr kr (fun o w ho=>zc8 (t:=131) (tp:=133) (t':=131) kr kr (x:=(.tmp 17)) (y:=(.tmp 18)) ⟨p,0,none⟩ ho kr kr w)<|zc<|zh kr kr<|zj kr<|wV ?_;exact ⟨[],.nil,rfl,_,(BE.nil (some ⟨p,0,none⟩) (Or.inr rfl)),H0⟩
theorem zhB (p:Nat)(b n cap:Nat)(cur:Array Value)(out:List UInt8)(hn:n=out.length)(hr:Rw 1 cur cap n (cellsB out))(w0 w:World)(L:List (Nat×Obj))(H0:St w0.heap.size w0 w ([(b,Obj.cells cur 5 (0,0)),(p,Obj.cells #[.pointer none,.slice (some ⟨b,0,none⟩) n cap] 133 (0,0))]++L)):WP Tryz.prog 20 (zk Tryz.f144) (yC Tryz.prog [] fun v' w'=>v'=.tuple #[]∧∃E',BE p 133 5 out E'∧St w0.heap.size w0 w' (E'++L)) (ini #[.pointer (some ⟨p,0,none⟩)]) w:=by
 refine zg [0,1,2,3,4] kr kr<|zl (some 2) (.pointer (some ⟨p,0,none⟩)) (fun w=>by kernel_rfl) kr<|zl (some 3) (.pointer (some ⟨p,0,none⟩)) (fun w=>by kernel_rfl) kr<|zl (some 4) (.pointer (some ⟨p,0,none⟩)) (fun w=>by kernel_rfl) kr<|qB H0 (some 5) 131 (.tmp 4) 1 p 0 #[.pointer none,.slice (some ⟨b,0,none⟩) n cap] 133 (0,0) (.pointer none) kr kr kr kr kr kr<|zl (some 6) (.bool true) (fun w=>by kernel_rfl) kr<|zc<|zi kr kr<|yq [0,1,2,3,4,5,6,7] kr<|zl (some 7) (.pointer (some ⟨p,0,none⟩)) (fun w=>by kernel_rfl) kr<|zl (some 8) (.pointer (some ⟨p,0,none⟩)) (fun w=>by kernel_rfl) kr<|zc6 H0 (some 9) 131 179 133 (.tmp 8) 1 p #[.pointer none,.slice (some ⟨b,0,none⟩) n cap] 133 kr kr kr kr kr kr kr (by show 0<2;omega)<|zl (some 10) (.pointer (some ⟨p,0,none⟩)) (fun w=>by kernel_rfl) kr<|zc7 H0 (some 11) 179 131 133 (.tmp 10) 1 p #[.pointer none,.slice (some ⟨b,0,none⟩) n cap] 133 kr kr kr kr kr kr kr kr<|zl (some 12) (.pointer (some ⟨p,0,none⟩)) (fun w=>by kernel_rfl) kr<|zl (some 13) (.pointer (some ⟨p,0,none⟩)) (fun w=>by kernel_rfl) kr<|yS H0 1 ([(b,Obj.cells cur 5 (0,0)),(p,Obj.cells #[.pointer (some ⟨p,0,none⟩),.slice (some ⟨b,0,none⟩) n cap] 133 (0,0))]++L) 131 (.tmp 13) (.tmp 11) p (0) #[.pointer none,.slice (some ⟨b,0,none⟩) n cap] #[.pointer (some ⟨p,0,none⟩),.slice (some ⟨b,0,none⟩) n cap] 133 (.pointer (some ⟨p,0,none⟩)) kr kr kr kr kr kr (of_decide_eq_true kr) kr kr ?_;intro w1 H1;clear H0;refine zc<|wV ?_;exact ⟨[],.nil,rfl,_,(BE.row (some ⟨p,0,none⟩) b n cap cur out (Or.inr rfl) hn hr),H1⟩
theorem zhC (p:Nat)(b n cap:Nat)(cur:Array Value)(out:List UInt8)(hn:n=out.length)(hr:Rw 1 cur cap n (cellsB out))(w0 w:World)(L:List (Nat×Obj))(H0:St w0.heap.size w0 w ([(b,Obj.cells cur 5 (0,0)),(p,Obj.cells #[.pointer (some ⟨p,0,none⟩),.slice (some ⟨b,0,none⟩) n cap] 133 (0,0))]++L)):WP Tryz.prog 20 (zk Tryz.f144) (yC Tryz.prog [] fun v' w'=>v'=.tuple #[]∧∃E',BE p 133 5 out E'∧St w0.heap.size w0 w' (E'++L)) (ini #[.pointer (some ⟨p,0,none⟩)]) w:=by
 refine zg [0,1,2,3,4] kr kr<|zl (some 2) (.pointer (some ⟨p,0,none⟩)) (fun w=>by kernel_rfl) kr<|zl (some 3) (.pointer (some ⟨p,0,none⟩)) (fun w=>by kernel_rfl) kr<|zl (some 4) (.pointer (some ⟨p,0,none⟩)) (fun w=>by kernel_rfl) kr<|qB H0 (some 5) 131 (.tmp 4) 1 p 0 #[.pointer (some ⟨p,0,none⟩),.slice (some ⟨b,0,none⟩) n cap] 133 (0,0) (.pointer (some ⟨p,0,none⟩)) kr kr kr kr kr kr<|zl (some 6) (.bool false) (fun w=>by kernel_rfl) kr<|zc<|zh kr kr<|zg [0,1,2,3,4,5] kr kr<|zl (some 14) (.pointer (some ⟨p,0,none⟩)) (fun w=>by kernel_rfl) kr<|zl (some 15) (.pointer (some ⟨p,0,none⟩)) (fun w=>by kernel_rfl) kr<|zl (some 16) (.pointer (some ⟨p,0,none⟩)) (fun w=>by kernel_rfl) kr<|qB H0 (some 17) 131 (.tmp 16) 1 p 0 #[.pointer (some ⟨p,0,none⟩),.slice (some ⟨b,0,none⟩) n cap] 133 (0,0) (.pointer (some ⟨p,0,none⟩)) kr kr kr kr kr kr<|zl (some 18) (.pointer (some ⟨p,0,none⟩)) (fun w=>by kernel_rfl) kr<|vG (some 19) _ (.bool false) kr kr (fun o w ho=>zc8 (t:=131) (tp:=133) (t':=131) kr kr (x:=(.tmp 17)) (y:=(.tmp 18)) ⟨p,0,none⟩ ho kr kr w)<|zc<|zh kr kr<|zj kr<|wV ?_;exact ⟨[],.nil,rfl,_,(BE.row (some ⟨p,0,none⟩) b n cap cur out (Or.inr rfl) hn hr),H0⟩
theorem zhD (p:Nat)(out:List UInt8):FnB Tryz.prog 144 #[.pointer (some ⟨p,0,none⟩)] (.tuple #[]) p 133 5 out out (fun _=>True):=
 FnB.intro (c:=zk Tryz.f144) [] 20 Tryz.func144 kr kr kr fun w0 w L E hE _ HS=>by
  rcases hE with ⟨a,rfl|rfl⟩|⟨a,b,n,cap,cur,_,rfl|rfl,hn,hr⟩
  ·exact zhz p w0 w L HS
  ·exact zhA p w0 w L HS
  ·exact zhB p b n cap cur out hn hr w0 w L HS
  ·exact zhC p b n cap cur out hn hr w0 w L HS
theorem zaQ (p:Nat)(out:List UInt8)(s:ByteArray)(h0:0<s.size∨out≠[])(hm:out.length+s.size≤0x800000000000):FnB Tryz.prog 130 #[.pointer (some ⟨p,0,none⟩),.string s] (.tuple #[.int .i64 (ByteArray.size s:Int),.nilIface]) p 133 5 out (out++tl s) (fun _=>True):=by
 refine FnB.intro (c:=zk Tryz.f130) [.tmp 4,.tmp 5] 19 Tryz.func130 kr kr kr fun w0 w L E hE _ HS=>?_;have H0:St w0.heap.size w0 w (L++E):=HS.perm List.perm_append_comm;refine zg [0,1] kr kr<|zl (some 4) (.int .i64 0) (fun w=>by kernel_rfl) kr<|zl (some 5) (.nilIface) (fun w=>by kernel_rfl) kr<|zc<|zg [0,1] kr kr<|zl (some 6) (.pointer (some ⟨p,0,none⟩)) (fun w=>by kernel_rfl) kr<|zaM (l:=L) H0 hE (some 7) 144 #[.pointer (some ⟨p,0,none⟩)] (.tuple #[]) out (fun _=>True) (zhD p out) trivial kr kr ?_;intro E1 w1 hE1 H1;clear H0;rcases hE1 with ⟨a,ha⟩ | ⟨a,b,n,cap,cur,_,ha,hn,hr⟩
 ·have h0':0<ByteArray.size s:=h0.resolve_right (fun h=>h rfl);simp only [List.length_nil] at hm;have HP:St w0.heap.size w0 w1 ([(p,Obj.cells #[.pointer a,.slice none 0 0] 133 (0,0))]++L):=H1.perm List.perm_append_comm;refine zc<|zg [0,1,2,3,4,5,6,7,8,9] kr kr<|zl (some 8) (.pointer (some ⟨p,0,none⟩)) (fun w=>by kernel_rfl) kr<|zl (some 9) (.pointer (some ⟨p,0,none⟩)) (fun w=>by kernel_rfl) kr<|zl (some 10) (.pointer (some ⟨p,0,none⟩)) (fun w=>by kernel_rfl) kr<|zl (some 11) (.pointer (some ⟨p,1,none⟩)) (fun w=>by kernel_rfl) kr<|qB HP (some 12) 76 (.tmp 11) 0 p 1 #[.pointer a,.slice none 0 0] 133 (0,0) (.slice none 0 0) kr kr kr kr kr kr<|zl (some 13) (.string s) (fun w=>by kernel_rfl) kr<|zhs HP (some 14) 76 9 5 (.tmp 12) (.tmp 13) s kr kr kr kr kr kr (by omega) (by omega) ?_;intro b_1 cap_2 cur_3 w2 H2 hr_4;clear HP;refine zl (some 15) (.pointer (some ⟨p,0,none⟩)) (fun w=>by kernel_rfl) kr<|zl (some 16) (.pointer (some ⟨p,1,none⟩)) (fun w=>by kernel_rfl) kr<|yS H2 1 ([(b_1,Obj.cells cur_3 5 (0,0)),(p,Obj.cells #[.pointer a,.slice (some ⟨b_1,0,none⟩) (ByteArray.size s) cap_2] 133 (0,0))]++L) 76 (.tmp 16) (.tmp 14) p (1) #[.pointer a,.slice none 0 0] #[.pointer a,.slice (some ⟨b_1,0,none⟩) (ByteArray.size s) cap_2] 133 (.slice (some ⟨b_1,0,none⟩) (ByteArray.size s) cap_2) kr kr kr kr kr kr (of_decide_eq_true kr) kr kr ?_;intro w3 H3;clear H2;refine zc<|zg [0,1,2,3] kr kr<|zl (some 17) (.string s) (fun w=>by kernel_rfl) kr<|zl (some 18) (.int .i64 (ByteArray.size s:Int)) (fun w=>by kernel_rfl) kr<|zl (some 4) (.int .i64 (ByteArray.size s:Int)) (fun w=>by kernel_rfl) kr<|zl (some 5) (.nilIface) (fun w=>by kernel_rfl) kr<|zc<|zm kr<|wV ?_;exact ⟨[.int .i64 (ByteArray.size s:Int),.nilIface],(.tmp (.int .i64 (ByteArray.size s:Int)) kr (.tmp (.nilIface) kr .nil)),rfl,_,(BE.row a b_1 (ByteArray.size s) cap_2 cur_3 (tl s) ha rfl hr_4),H3⟩
 ·have HP:St w0.heap.size w0 w1 ([(b,Obj.cells cur 5 (0,0)),(p,Obj.cells #[.pointer a,.slice (some ⟨b,0,none⟩) n cap] 133 (0,0))]++L):=H1.perm List.perm_append_comm;refine zc<|zg [0,1,2,3,4,5,6,7,8,9] kr kr<|zl (some 8) (.pointer (some ⟨p,0,none⟩)) (fun w=>by kernel_rfl) kr<|zl (some 9) (.pointer (some ⟨p,0,none⟩)) (fun w=>by kernel_rfl) kr<|zl (some 10) (.pointer (some ⟨p,0,none⟩)) (fun w=>by kernel_rfl) kr<|zl (some 11) (.pointer (some ⟨p,1,none⟩)) (fun w=>by kernel_rfl) kr<|qB HP (some 12) 76 (.tmp 11) 1 p 1 #[.pointer a,.slice (some ⟨b,0,none⟩) n cap] 133 (0,0) (.slice (some ⟨b,0,none⟩) n cap) kr kr kr kr kr kr<|zl (some 13) (.string s) (fun w=>by kernel_rfl) kr<|zhr HP (some 14) 76 9 5 (.tmp 12) (.tmp 13) 0 b n cap cur out s (fun b_5 cur_7=>([(b_5,Obj.cells cur_7 5 (0,0)),(p,Obj.cells #[.pointer a,.slice (some ⟨b,0,none⟩) n cap] 133 (0,0))]++L)) kr kr kr kr kr kr hr kr (by omega) (fun _ _=>by kernel_rfl) ?_;intro b_5 cap_6 cur_7 w4 H4 hr_8;clear HP;refine zl (some 15) (.pointer (some ⟨p,0,none⟩)) (fun w=>by kernel_rfl) kr<|zl (some 16) (.pointer (some ⟨p,1,none⟩)) (fun w=>by kernel_rfl) kr<|yS H4 1 ([(b_5,Obj.cells cur_7 5 (0,0)),(p,Obj.cells #[.pointer a,.slice (some ⟨b_5,0,none⟩) (n+ByteArray.size s) cap_6] 133 (0,0))]++L) 76 (.tmp 16) (.tmp 14) p (1) #[.pointer a,.slice (some ⟨b,0,none⟩) n cap] #[.pointer a,.slice (some ⟨b_5,0,none⟩) (n+ByteArray.size s) cap_6] 133 (.slice (some ⟨b_5,0,none⟩) (n+ByteArray.size s) cap_6) kr kr kr kr kr kr (of_decide_eq_true kr) kr kr ?_;intro w5 H5;clear H4;refine zc<|zg [0,1,2,3] kr kr<|zl (some 17) (.string s) (fun w=>by kernel_rfl) kr<|zl (some 18) (.int .i64 (ByteArray.size s:Int)) (fun w=>by kernel_rfl) kr<|zl (some 4) (.int .i64 (ByteArray.size s:Int)) (fun w=>by kernel_rfl) kr<|zl (some 5) (.nilIface) (fun w=>by kernel_rfl) kr<|zc<|zm kr<|wV ?_;exact ⟨[.int .i64 (ByteArray.size s:Int),.nilIface],(.tmp (.int .i64 (ByteArray.size s:Int)) kr (.tmp (.nilIface) kr .nil)),rfl,_,(BE.row a b_5 (n+ByteArray.size s) cap_6 cur_7 (out++tl s) ha (by rw [List.length_append,yn,hn]) hr_8),H5⟩
theorem zhE (pb m:Nat)(ih: ∀(out:List UInt8) (l:Bool) (s:ByteArray) (p:Option Addr) (n c:Nat) (k:Fo),s.size≤0x800000000000→List.length out+9+ByteArray.size s+wtF k≤0x800000000000→k.cnt<m→jZ Tryz.prog 103 #[.pointer (some ⟨pb,0,none⟩),.agg #[.bool l,.string s,.slice p n c]] (.tuple #[]) pb 133 5 out (out++wr1 l s (szF k) (wrF k)) (fun w=>zp w.heap.size w p n k))(out:List UInt8)(l:Bool)(s:ByteArray)(p:Option Addr)(n c:Nat)(k:Fo)(hs:s.size≤0x800000000000)(hw:List.length out+9+ByteArray.size s+wtF k≤0x800000000000)(hkm:k.cnt<m+1):jZ Tryz.prog 103 #[.pointer (some ⟨pb,0,none⟩),.agg #[.bool l,.string s,.slice p n c]] (.tuple #[]) pb 133 5 out (out++wr1 l s (szF k) (wrF k)) (fun w=>zp w.heap.size w p n k):=by
 refine jZ.intro (c:=zk Tryz.f103) [] 31 Tryz.func103 kr kr kr fun w0 w E0 hE0 hpre H0=>?_;have hn:=hpre.1;have hnm:=hpre.2.1;refine zg [0] kr kr<|ji H0 (some 3) 83 (.tmp 1) (.agg #[.bool l,.string s,.slice p n c]) kr kr kr ?_;intro b1 w1 H1;clear H0;refine zc<|zb kr<|zg [0,1,2,3] kr kr<|zl (some 6) (.pointer (some ⟨b1,1,none⟩)) (fun w=>by kernel_rfl) kr<|qB H1 (some 7) 9 (.tmp 6) 0 b1 1 #[.bool l,.string s,.slice p n c] 83 (0,0) (.string s) kr kr kr kr kr kr<|jQ H1 (some 8) 127 #[.string s] (.bool (qh s)) (zc1 s) (fun w=>by kernel_rfl) kr ?_;intro w2 H2;clear H1;cases hq1:qh s
 ·refine zl (some 9) (.bool true) (fun w=>by kernel_rfl) kr<|zc<|zi kr kr ?_;have hsl:=xG k;have hhl:=jC (frm l) (ByteArray.size s+szF k);refine D2.g_draw0 [0,1,2,3,4,5] [(some 10,fun _=>.pointer (some ⟨pb,0,none⟩)),(some 11,fun _=>.agg #[.bool l,.string s,.slice p n c]),(some 12,fun _=>.agg #[.bool l,.string s,.slice p n c]),(some 13,fun _=>.int .u64 ((ByteArray.size s+szF k:Nat):Int)),(some 14,fun _=>.string (zf (hd (frm l) (ByteArray.size s+szF k)))),(some 15,fun _=>.tuple #[.int .i64 (ByteArray.size (zf (hd (frm l) (ByteArray.size s+szF k))):Int),.nilIface])] (yO w0 pb 133 5 (out++tl (zf (hd (frm l) (ByteArray.size s+szF k)))) (b1,Obj.cells #[.bool l,.string s,.slice p n c] 83 (0,0)) E0 5) kr kr kr H2.drew ⟨?_,?_,?_,?_,?_,?_,trivial⟩ ?_
  ·exact zht rfl (fun g w=>by kernel_rfl)
  ·exact zda (C:=#[.bool l,.string s,.slice p n c]) (T':=83) (t:=83) (x:=(.tmp 3)) rfl (fun g=>by kernel_rfl) (fun g=>by kernel_rfl) rfl kr
  ·exact zda (C:=#[.bool l,.string s,.slice p n c]) (T':=83) (t:=83) (x:=(.tmp 3)) rfl (fun g=>by kernel_rfl) (fun g=>by kernel_rfl) rfl kr
  ·exact zdb (f:=128) (args:=#[.agg #[.bool l,.string s,.slice p n c]]) rfl (zhq l s p n c k hs (by omega)) (fun w hb=>zp.call hpre hb) (fun g w=>by kernel_rfl)
  ·exact zhu (f:=129) (args:=#[.agg #[.bool l,.string s,.slice p n c],.int .u64 ((ByteArray.size s+szF k:Nat):Int)]) rfl (zc2 l s p n c (ByteArray.size s+szF k) (by omega)) (fun g w=>by kernel_rfl)
  ·exact zhv (f:=130) (args:=#[.pointer (some ⟨pb,0,none⟩),.string (zf (hd (frm l) (ByteArray.size s+szF k)))]) rfl hE0 (zaQ pb out (zf (hd (frm l) (ByteArray.size s+szF k))) (Or.inl (by rw [qf];exact hhl.1)) (by rw [qf];omega)) (fun g w=>by kernel_rfl)
  intro L0 G0 w3 hall HL;clear H2;obtain ⟨E1,hE1,H3⟩:=HL.done (hall 5 (Nat.le_of_ble_eq_true kr));refine wW<|zg [0,1,2,3] kr kr ?_;have hl0:(out++tl (zf (hd (frm l) (ByteArray.size s+szF k)))).length=out.length+(hd (frm l) (ByteArray.size s+szF k)).length:=by rw [List.length_append,xC]
  have hw1:out++wr1 l s (szF k) (wrF k)=(out++tl (zf (hd (frm l) (ByteArray.size s+szF k)))++tl s)++wrF k:=by unfold wr1;rw [if_neg (by rw [hq1];decide),xC];simp only [List.append_assoc]
  have hl1:(out++tl (zf (hd (frm l) (ByteArray.size s+szF k)))++tl s).length=out.length+(hd (frm l) (ByteArray.size s+szF k)).length+ByteArray.size s:=by rw [List.length_append,hl0,yn]
  refine zl (some 16) (.pointer (some ⟨pb,0,none⟩)) (fun w=>by kernel_rfl) kr<|zl (some 17) (.pointer (some ⟨b1,1,none⟩)) (fun w=>by kernel_rfl) kr<|qB H3 (some 18) 9 (.tmp 17) 0 b1 1 #[.bool l,.string s,.slice p n c] 83 (0,0) (.string s) kr kr kr kr kr kr<|zaM (l:=[(b1,Obj.cells #[.bool l,.string s,.slice p n c] 83 (0,0))]) H3 hE1 (some 19) 130 #[.pointer (some ⟨pb,0,none⟩),.string s] (.tuple #[.int .i64 (ByteArray.size s:Int),.nilIface]) ((out++tl (zf (hd (frm l) (ByteArray.size s+szF k))))++tl s) (fun _=>True) (zaQ pb (out++tl (zf (hd (frm l) (ByteArray.size s+szF k)))) s (Or.inr (by intro q;have h9:=congrArg List.length q;rw [hl0] at h9;simp only [List.length_nil] at h9;omega)) (by rw [hl0];omega)) trivial kr kr ?_;intro E2 w4 hE2 H4;clear H3;refine zc<|zg [0,1,2,3] kr kr<|zl (some 20) (.pointer (some ⟨b1,2,none⟩)) (fun w=>by kernel_rfl) kr<|qB H4 (some 21) 81 (.tmp 20) 0 b1 2 #[.bool l,.string s,.slice p n c] 83 (0,0) (.slice p n c) kr kr kr kr kr kr<|zl (some 22) (.int .i64 (n:Int)) (fun w=>by kernel_rfl) kr<|zl (some 23) (.int .i64 0) (fun w=>by kernel_rfl) kr<|zc<|zn 0 kr ?_;have HD1:St w0.heap.size w0 w4 ([]++E2):=H4.sub (List.Sublist.cons _ (List.Sublist.refl E2));refine zG kr (fun mz ρ ww=> ∃(i:Nat) (r:Fo) (o:List UInt8) (Ez:List (Nat×Obj)),n-i=mz∧(FoR w0.heap.size w0 p i r)∧(i+Fo.len r=n)∧(Fo.cnt r≤Fo.cnt k)∧(List.length o+wtF r≤0x800000000000)∧(out++wr1 l s (szF k) (wrF k)=o++wrF r)∧(BE pb 133 5 o Ez)∧St w0.heap.size w0 ww ([]++Ez)∧Is [(0,.pointer (some ⟨pb,0,none⟩)),(1,.agg #[.bool l,.string s,.slice p n c]),(3,.pointer (some ⟨b1,0,none⟩)),(9,.bool true),(21,.slice p n c),(22,.int .i64 (n:Int)),(23,.int .i64 (i:Int))] ρ) (n-0) ⟨0,k,((out++tl (zf (hd (frm l) (ByteArray.size s+szF k))))++tl s),E2,rfl,(zp.start hpre),(by have hn0:=(hpre).1;omega),(Nat.le_refl _),(by rw [hl1];omega),hw1,hE2,HD1,(Is.of ⟨kr,kr,kr,kr,kr,kr,kr,trivial⟩)⟩ ?_;clear HD1;rintro _ _ w5 ⟨i,r,o,Ez,rfl,hR,hN,hcn,hwt,hout,hEz,H5,_,rfl⟩;refine zg [0] kr kr ?_;by_cases hc2:(i:Nat)<n
  ·refine qu (some 24) (.bool (decide ((i:Int)<(n:Int)))) (.bool true) (fun w=>by kernel_rfl) (za (decide_eq_true (by omega))) kr<|zc<|zb kr<|zi kr kr<|zj kr<|wW<|zb kr<|zn 1 kr<|zg [0,1,2,3] kr kr ?_;obtain ⟨l1,s1,k1,r1,b1,off1,C1,T1,fz1,p1,n1,c1,hr1,hp1,hb1,hh1,hs1,hx1,hz1,hk1,hR1,hN1⟩:=FoR.open hR hN (by omega);refine vG (some 25) _ (.pointer (some ⟨b1,off1+i*3,none⟩)) kr kr (fun o w ho=>jm (kd:=.i64) (t:=81) (e:=83) (bytes:=48) kr (x:=(.tmp 21)) (y:=(.tmp 23)) b1 off1 n c i hp1 ho kr kr (by omega) w)<|zbG H5 (some 26) 83 (.tmp 25) b1 (off1+i*3) 3 C1 #[.bool l1,.string s1,.slice p1 n1 c1] T1 fz1 kr kr kr hh1 hb1 kr hs1 hx1<|yu H5 (some 5) 83 (.agg #[.bool false,.string (⟨#[]⟩),.slice none 0 0]) kr kr kr ?_;intro b2 w6 H6;clear H5;refine yS H6 0 ([(b2,Obj.cells #[.bool l1,.string s1,.slice p1 n1 c1] 83 (0,0))]++Ez) 83 (.tmp 5) (.tmp 26) b2 (0) (#[.bool false,.string (⟨#[]⟩),.slice none 0 0]) #[.bool l1,.string s1,.slice p1 n1 c1] 83 (.agg #[.bool l1,.string s1,.slice p1 n1 c1]) kr kr kr kr kr kr (of_decide_eq_true kr) kr kr ?_;intro w7 H7;clear H6;refine zc<|yq [0,1,2] kr ?_;have hcn1:=hcn;rw [hr1] at hcn1;simp only [Fo.cnt] at hcn1;have hwt1:=hwt;rw [hr1] at hwt1;simp only [wtF] at hwt1;have hwl1:(wr1 l1 s1 (szF k1) (wrF k1)).length≤9+ByteArray.size s1+wtF k1:=by have h9:=vf (.cons l1 s1 k1 .nil);simp only [wrF,wtF,List.append_nil,Nat.add_zero] at h9;exact h9
   refine zl (some 27) (.pointer (some ⟨pb,0,none⟩)) (fun w=>by kernel_rfl) kr<|yz H7 (some 28) 83 (.tmp 5) 0 b2 #[.bool l1,.string s1,.slice p1 n1 c1] 83 (0,0) kr kr kr kr kr ?_;have HD3:St w0.heap.size w0 w7 ([]++Ez):=H7.sub (List.Sublist.cons _ (List.Sublist.refl Ez));refine zaN HD3 hEz (some 29) 103 #[.pointer (some ⟨pb,0,none⟩),.agg #[.bool l1,.string s1,.slice p1 n1 c1]] (.tuple #[]) (o++wr1 l1 s1 (szF k1) (wrF k1)) (fun w=>zp w.heap.size w p1 n1 k1) (ih o l1 s1 p1 n1 c1 k1 hz1 (by omega) (by omega)) hk1 kr kr ?_;intro E3 w8 hE3 H8;clear HD3;refine zc<|wW<|yq [0,1] kr<|qu (some 30) (.int .i64 (IntKind.i64.wrap ((i:Int)+1))) (.int .i64 ((i+1:Nat):Int)) (fun w=>by kernel_rfl) (zd (zq (a:=i) (b:=1) (by omega))) kr<|zl (some 23) (.int .i64 ((i+1:Nat):Int)) (fun w=>by kernel_rfl) kr<|zc ?_;show ∃m,_∧_;exact ⟨_,(by omega),(i+1),r1,(o++wr1 l1 s1 (szF k1) (wrF k1)),E3,rfl,hR1,hN1,(by omega),(by rw [List.length_append];omega),(by rw [hout,hr1];simp only [wrF,List.append_assoc]),hE3,H8,(Is.of ⟨kr,kr,kr,kr,kr,kr,kr,trivial⟩)⟩
  ·refine qu (some 24) (.bool (decide ((i:Int)<(n:Int)))) (.bool false) (fun w=>by kernel_rfl) (za (decide_eq_false (by omega))) kr<|zc<|zb kr<|zh kr kr<|zy 0 kr<|wV ?_;have hdn:=FoR.done hN (by omega);rw [hdn] at hout;exact ⟨[],.nil,rfl,_,(by rw [hout,show wrF Fo.nil=[] from rfl,List.append_nil];exact hEz),H5⟩
 ·refine zl (some 9) (.bool false) (fun w=>by kernel_rfl) kr<|zc<|zh kr kr<|zj kr<|wW<|zg [0,1,2,3] kr kr ?_;have hsz1:=vd hq1;have hw1:out++wr1 l s (szF k) (wrF k)=(out++tl s)++wrF k:=by unfold wr1;rw [if_pos hq1,List.nil_append,List.append_assoc]
  have hl1:(out++tl s).length=out.length+ByteArray.size s:=by rw [List.length_append,yn]
  refine zl (some 16) (.pointer (some ⟨pb,0,none⟩)) (fun w=>by kernel_rfl) kr<|zl (some 17) (.pointer (some ⟨b1,1,none⟩)) (fun w=>by kernel_rfl) kr<|qB H2 (some 18) 9 (.tmp 17) 0 b1 1 #[.bool l,.string s,.slice p n c] 83 (0,0) (.string s) kr kr kr kr kr kr<|zaM (l:=[(b1,Obj.cells #[.bool l,.string s,.slice p n c] 83 (0,0))]) H2 hE0 (some 19) 130 #[.pointer (some ⟨pb,0,none⟩),.string s] (.tuple #[.int .i64 (ByteArray.size s:Int),.nilIface]) (out++tl s) (fun _=>True) (zaQ pb out s (Or.inl (by omega)) (by omega)) trivial kr kr ?_;intro E4 w9 hE4 H9;clear H2;refine zc<|zg [0,1,2,3] kr kr<|zl (some 20) (.pointer (some ⟨b1,2,none⟩)) (fun w=>by kernel_rfl) kr<|qB H9 (some 21) 81 (.tmp 20) 0 b1 2 #[.bool l,.string s,.slice p n c] 83 (0,0) (.slice p n c) kr kr kr kr kr kr<|zl (some 22) (.int .i64 (n:Int)) (fun w=>by kernel_rfl) kr<|zl (some 23) (.int .i64 0) (fun w=>by kernel_rfl) kr<|zc<|zn 0 kr ?_;have HD4:St w0.heap.size w0 w9 ([]++E4):=H9.sub (List.Sublist.cons _ (List.Sublist.refl E4));refine zG kr (fun mz ρ ww=> ∃(i:Nat) (r:Fo) (o:List UInt8) (Ez:List (Nat×Obj)),n-i=mz∧(FoR w0.heap.size w0 p i r)∧(i+Fo.len r=n)∧(Fo.cnt r≤Fo.cnt k)∧(List.length o+wtF r≤0x800000000000)∧(out++wr1 l s (szF k) (wrF k)=o++wrF r)∧(BE pb 133 5 o Ez)∧St w0.heap.size w0 ww ([]++Ez)∧Is [(0,.pointer (some ⟨pb,0,none⟩)),(1,.agg #[.bool l,.string s,.slice p n c]),(3,.pointer (some ⟨b1,0,none⟩)),(9,.bool false),(21,.slice p n c),(22,.int .i64 (n:Int)),(23,.int .i64 (i:Int))] ρ) (n-0) ⟨0,k,(out++tl s),E4,rfl,(zp.start hpre),(by have hn0:=(hpre).1;omega),(Nat.le_refl _),(by rw [hl1];omega),hw1,hE4,HD4,(Is.of ⟨kr,kr,kr,kr,kr,kr,kr,trivial⟩)⟩ ?_;clear HD4;rintro _ _ w10 ⟨i,r,o,Ez,rfl,hR,hN,hcn,hwt,hout,hEz,H10,_,rfl⟩;refine zg [0] kr kr ?_;by_cases hc5:(i:Nat)<n
  ·refine qu (some 24) (.bool (decide ((i:Int)<(n:Int)))) (.bool true) (fun w=>by kernel_rfl) (za (decide_eq_true (by omega))) kr<|zc<|zb kr<|zi kr kr<|zj kr<|wW<|zb kr<|zn 1 kr<|zg [0,1,2,3] kr kr ?_;obtain ⟨l2,s2,k2,r2,b2,off2,C2,T2,fz2,p2,n2,c2,hr2,hp2,hb2,hh2,hs2,hx2,hz2,hk2,hR2,hN2⟩:=FoR.open hR hN (by omega);refine vG (some 25) _ (.pointer (some ⟨b2,off2+i*3,none⟩)) kr kr (fun o w ho=>jm (kd:=.i64) (t:=81) (e:=83) (bytes:=48) kr (x:=(.tmp 21)) (y:=(.tmp 23)) b2 off2 n c i hp2 ho kr kr (by omega) w)<|zbG H10 (some 26) 83 (.tmp 25) b2 (off2+i*3) 3 C2 #[.bool l2,.string s2,.slice p2 n2 c2] T2 fz2 kr kr kr hh2 hb2 kr hs2 hx2<|yu H10 (some 5) 83 (.agg #[.bool false,.string (⟨#[]⟩),.slice none 0 0]) kr kr kr ?_;intro b3 w11 H11;clear H10;refine yS H11 0 ([(b3,Obj.cells #[.bool l2,.string s2,.slice p2 n2 c2] 83 (0,0))]++Ez) 83 (.tmp 5) (.tmp 26) b3 (0) (#[.bool false,.string (⟨#[]⟩),.slice none 0 0]) #[.bool l2,.string s2,.slice p2 n2 c2] 83 (.agg #[.bool l2,.string s2,.slice p2 n2 c2]) kr kr kr kr kr kr (of_decide_eq_true kr) kr kr ?_;intro w12 H12;clear H11;refine zc<|yq [0,1,2] kr ?_;have hcn2:=hcn;rw [hr2] at hcn2;simp only [Fo.cnt] at hcn2;have hwt2:=hwt;rw [hr2] at hwt2;simp only [wtF] at hwt2;have hwl2:(wr1 l2 s2 (szF k2) (wrF k2)).length≤9+ByteArray.size s2+wtF k2:=by have h9:=vf (.cons l2 s2 k2 .nil);simp only [wrF,wtF,List.append_nil,Nat.add_zero] at h9;exact h9
   refine zl (some 27) (.pointer (some ⟨pb,0,none⟩)) (fun w=>by kernel_rfl) kr<|yz H12 (some 28) 83 (.tmp 5) 0 b3 #[.bool l2,.string s2,.slice p2 n2 c2] 83 (0,0) kr kr kr kr kr ?_;have HD6:St w0.heap.size w0 w12 ([]++Ez):=H12.sub (List.Sublist.cons _ (List.Sublist.refl Ez));refine zaN HD6 hEz (some 29) 103 #[.pointer (some ⟨pb,0,none⟩),.agg #[.bool l2,.string s2,.slice p2 n2 c2]] (.tuple #[]) (o++wr1 l2 s2 (szF k2) (wrF k2)) (fun w=>zp w.heap.size w p2 n2 k2) (ih o l2 s2 p2 n2 c2 k2 hz2 (by omega) (by omega)) hk2 kr kr ?_;intro E5 w13 hE5 H13;clear HD6;refine zc<|wW<|yq [0,1] kr<|qu (some 30) (.int .i64 (IntKind.i64.wrap ((i:Int)+1))) (.int .i64 ((i+1:Nat):Int)) (fun w=>by kernel_rfl) (zd (zq (a:=i) (b:=1) (by omega))) kr<|zl (some 23) (.int .i64 ((i+1:Nat):Int)) (fun w=>by kernel_rfl) kr<|zc ?_;show ∃m,_∧_;exact ⟨_,(by omega),(i+1),r2,(o++wr1 l2 s2 (szF k2) (wrF k2)),E5,rfl,hR2,hN2,(by omega),(by rw [List.length_append];omega),(by rw [hout,hr2];simp only [wrF,List.append_assoc]),hE5,H13,(Is.of ⟨kr,kr,kr,kr,kr,kr,kr,trivial⟩)⟩
  ·refine qu (some 24) (.bool (decide ((i:Int)<(n:Int)))) (.bool false) (fun w=>by kernel_rfl) (za (decide_eq_false (by omega))) kr<|zc<|zb kr<|zh kr kr<|zy 0 kr<|wV ?_;have hdn:=FoR.done hN (by omega);rw [hdn] at hout;exact ⟨[],.nil,rfl,_,(by rw [hout,show wrF Fo.nil=[] from rfl,List.append_nil];exact hEz),H10⟩
theorem zhF (pb:Nat)(out:List UInt8)(l:Bool)(s:ByteArray)(p:Option Addr)(n c:Nat)(k:Fo)(hs:s.size≤0x800000000000)(hw:List.length out+9+ByteArray.size s+wtF k≤0x800000000000):jZ Tryz.prog 103 #[.pointer (some ⟨pb,0,none⟩),.agg #[.bool l,.string s,.slice p n c]] (.tuple #[]) pb 133 5 out (out++wr1 l s (szF k) (wrF k)) (fun w=>zp w.heap.size w p n k):=by
 have key: ∀(m:Nat) (out:List UInt8) (l:Bool) (s:ByteArray) (p:Option Addr) (n c:Nat) (k:Fo),s.size≤0x800000000000→List.length out+9+ByteArray.size s+wtF k≤0x800000000000→k.cnt<m→jZ Tryz.prog 103 #[.pointer (some ⟨pb,0,none⟩),.agg #[.bool l,.string s,.slice p n c]] (.tuple #[]) pb 133 5 out (out++wr1 l s (szF k) (wrF k)) (fun w=>zp w.heap.size w p n k):=by
  intro m
  induction m with
  | zero=>intros;omega
  | succ m ih=>intro out l s p n c k hs hw hkm;exact zhE pb m ih out l s p n c k hs hw hkm
 exact key (k.cnt+1) out l s p n c k hs hw (by omega)
def FnO (P:Program)(f:Nat)(args:Array Value)(v:Value)(p:Nat)(T e:TypeId)(out:List UInt8):Prop:=
 ∀(w0 w:World) (E:List (Nat×Obj)),BE p T e out E→St w0.heap.size w0 w E→Calls P f args w fun r w'=>r=.returned v∧St w0.heap.size w0 w' []
theorem zhG {P:Program}{N:Nat}{ops:Array Oper}{i:Nat}{r:List Nat}{K:Env→World→Prop}{ρ:Env}{w:World}{w0:World}{E:List (Nat×Obj)}(HS:St w0.heap.size w0 w E){p:Nat}{T e:TypeId}{out:List UInt8}(hE:BE p T e out E)(d:Option Nat)(f:Nat)(args:Array Value)(v:Value)(hc:FnO P f args v p T e out)
 (h:opv P ops i ρ w=some (d,true,.ok (.enter f args) w)) (hd:dOK d N=true) (kk: ∀w',St w0.heap.size w0 w' []→WPs P N ops K r (zr ρ d v) w'):WPs P N ops K (i::r) ρ w:=by
 obtain ⟨o,ho,rfl,hw,hr⟩:=zZ h;refine WPo.run ho hw fun a ha=>?_;rw [hr,Oper.upon_enter];refine (hc w0 w E hE HS).mono ?_;rintro _ w' ⟨rfl,hS⟩;exact ⟨_,ha.put _ (zV hd) v,kk w' hS⟩
theorem zhH (pb b n cap:Nat)(cur:Array Value)(out:List UInt8)(a:Option Addr)(hn:n=out.length)(hr:Rw 1 cur cap n (cellsB out))(h0:0<n)(hm:n≤0x800000000000)(hcap:cap≠0)(w0 w:World)(H0:St w0.heap.size w0 w [(b,Obj.cells cur 5 (0,0)),(pb,Obj.cells #[.pointer a,.slice (some ⟨b,0,none⟩) n cap] 133 (0,0))]):WP Tryz.prog 14 (zk Tryz.f104) (yC Tryz.prog [.tmp 2] fun v' w'=>v'=.string (zf out)∧St w0.heap.size w0 w' []) (ini #[.pointer (some ⟨pb,0,none⟩)]) w:=by
 refine zg [0] kr kr<|zl (some 2) (.string (⟨#[]⟩)) (fun w=>by kernel_rfl) kr<|zc<|D2.g_sdraw [0,1,2,3,4,5,6,7,8,9,10,11] [(some 3,fun _=>.pointer (some ⟨pb,0,none⟩)),(some 4,fun _=>.pointer (some ⟨pb,0,none⟩)),(some 5,fun _=>.pointer (some ⟨pb,1,none⟩)),(some 6,fun _=>.slice (some ⟨b,0,none⟩) n cap),(some 7,fun _=>.pointer (some ⟨b,0,none⟩)),(some 8,fun _=>.pointer (some ⟨pb,0,none⟩)),(some 9,fun _=>.pointer (some ⟨pb,0,none⟩)),(some 10,fun _=>.pointer (some ⟨pb,1,none⟩)),(some 11,fun _=>.slice (some ⟨b,0,none⟩) n cap),(some 12,fun _=>.int .i64 (n:Int)),(some 13,fun _=>.string (zf out)),(some 2,fun _=>.string (zf out))] (qS w0 [(b,Obj.cells cur 5 (0,0)),(pb,Obj.cells #[.pointer a,.slice (some ⟨b,0,none⟩) n cap] 133 (0,0))] 10) kr kr kr kr H0.drew ⟨?_,?_,?_,?_,?_,?_,?_,?_,?_,?_,?_,?_,trivial⟩ ?_
 ·exact xf rfl (fun g w=>by kernel_rfl)
 ·exact xf rfl (fun g w=>by kernel_rfl)
 ·exact xf rfl (fun g w=>by kernel_rfl)
 ·exact zaO rfl (fun L hN=>(hN.2.2.no 4 10 kr (hN.post 4 kr))) (.load 76 (.tmp 5)) (fun g=>by kernel_rfl) (fun g w o hS ho=>hS.load1_run (j:=1) (b:=pb) (off:=1) (C:=#[.pointer a,.slice (some ⟨b,0,none⟩) n cap]) (T:=133) kr kr kr kr o ho)
 ·exact zaO rfl (fun L hN=>(hN.post 10 kr)) (zaP 76 (.tmp 6)) (fun g=>by kernel_rfl) (fun g w o hS ho=>zhx (a:=⟨b,0,none⟩) (n:=n) (c:=cap) kr (by omega) o ho)
 ·exact xf rfl (fun g w=>by kernel_rfl)
 ·exact xf rfl (fun g w=>by kernel_rfl)
 ·exact xf rfl (fun g w=>by kernel_rfl)
 ·exact zaO rfl (fun L hN=>(hN.2.2.no 9 10 kr (hN.post 9 kr))) (.load 76 (.tmp 10)) (fun g=>by kernel_rfl) (fun g w o hS ho=>hS.load1_run (j:=1) (b:=pb) (off:=1) (C:=#[.pointer a,.slice (some ⟨b,0,none⟩) n cap]) (T:=133) kr kr kr kr o ho)
 ·exact xf rfl (fun g w=>by kernel_rfl)
 ·exact zhw rfl (zas 164 3 (.tmp 7) (.tmp 12)) (fun g=>by kernel_rfl) (fun g w o hS ho=>zhy (j:=0) (b:=b) (n:=n) (cap:=cap) (C:=cur) (e:=5) hS kr kr kr kr kr hr (by omega) (by omega) o ho)
 ·exact xf rfl (fun g w=>by kernel_rfl)
 intro L0 G0 w1 hall HL;clear H0;have H1:St w0.heap.size w0 w1 []:=by unfold qS at HL;rw [hall 10 (Nat.le_of_ble_eq_true kr)] at HL;exact HL
 refine zm kr<|wV ?_;exact ⟨[.string (zf out)],.tmp _ kr .nil,rfl,H1⟩
theorem zhI (pb:Nat)(out:List UInt8)(h0:0<out.length)(hm:out.length≤0x800000000000):FnO Tryz.prog 104 #[.pointer (some ⟨pb,0,none⟩)] (.string (zf out)) pb 133 5 out:=fun w0 w E hE HS=>by
 rcases hE with ⟨a,ha⟩|⟨a,b,n,cap,cur,_,ha,hn,hr⟩
 ·simp at h0
 ·have h9:Calls Tryz.prog 104 #[.pointer (some ⟨pb,0,none⟩)] w fun r w'=> ∃v',r=.returned v'∧(v'=.string (zf out)∧St w0.heap.size w0 w' []):=
   jO (c:=zk Tryz.f104) (rs:=[.tmp 2]) (N:=14) Tryz.func104 kr kr kr (zhH pb b n cap cur out a hn hr (by omega) (by omega) (by have:=hr.le;omega) w0 w HS)
  refine h9.mono ?_;rintro _ w' ⟨v',he,hv,hS⟩;exact ⟨by rw [he,hv],hS⟩
theorem zhJ (l:Bool)(s:ByteArray)(p:Option Addr)(n c:Nat)(k:Fo)(hs:s.size≤0x800000000000):FnP Tryz.prog 65 #[.agg #[.bool l,.string s,.slice p n c]] (fun w=>zp w.heap.size w p n k) (kj (zM l s n k)):=by
 refine FnP.intro (c:=zk Tryz.f65) [.tmp 2,.tmp 3] 20 Tryz.func65 kr kr kr fun w hpre=>?_;have H0:=St.start w;have hn:=hpre.1;have hnm:=hpre.2.1;have hdl:=ul k;refine zg [0,1,2] kr kr<|ji H0 (some 1) 83 (.tmp 0) (.agg #[.bool l,.string s,.slice p n c]) kr kr kr ?_;intro b1 w1 H1;clear H0;refine zl (some 2) (.string (⟨#[]⟩)) (fun w=>by kernel_rfl) kr<|zl (some 3) (.int .i64 0) (fun w=>by kernel_rfl) kr<|zc<|zb kr<|zn 0 kr<|zg [0,1,2,3] kr kr<|yz H1 (some 6) 83 (.tmp 1) 0 b1 #[.bool l,.string s,.slice p n c] 83 (0,0) kr kr kr kr kr<|qC H1 (some 7) 101 #[.agg #[.bool l,.string s,.slice p n c],.int .i64 4000] (fun w=>zp w.heap.size w p n k) (.int .i64 (lfV (lf1 l s n (lfF k) 4000))) (left_fn l s p n c k (by omega) 4000 (by omega)) (zp.call hpre H1.below) (fun w=>by kernel_rfl) kr ?_;intro w2 H2;clear H1;rcases zcQ (lf1 l s n (lfF k) 4000) with hv1 | ⟨y,hv1⟩
 ·refine zP 7 (v:=.int .i64 (lfV (lf1 l s n (lfF k) 4000))) (v':=.int .i64 (-1)) (zd (by rw [hv1];rfl)) kr<|zl (some 8) (.bool true) (fun w=>by kernel_rfl) kr<|zl (some 5) (.bool true) (fun w=>by kernel_rfl) kr<|zc<|zi kr kr<|zg [0,1] kr kr<|zl (some 2) (.string (⟨#[]⟩)) (fun w=>by kernel_rfl) kr<|zl (some 3) (.int .i64 1) (fun w=>by kernel_rfl) kr<|zc<|zm kr<|wV ?_;exact ⟨[.string (⟨#[]⟩),.int .i64 1],(.tmp (.string (⟨#[]⟩)) kr (.tmp (.int .i64 1) kr .nil)),(zhe hv1).symm,H2.below⟩
 ·refine zP 7 (v:=.int .i64 (lfV (lf1 l s n (lfF k) 4000))) (v':=.int .i64 (y:Int)) (zd (by rw [hv1];rfl)) kr ?_;have hok:=zcW hv1;have hcn:k.cnt<4000:=hok.2.2;have hwt:=hpre.wt;refine qu (some 8) (.bool (decide ((y:Int)<0))) (.bool false) (fun w=>by kernel_rfl) (za (decide_eq_false (by omega))) kr<|zl (some 5) (.bool false) (fun w=>by kernel_rfl) kr<|zc<|zh kr kr<|zg [0,1,2,3] kr kr<|yz H2 (some 10) 83 (.tmp 1) 0 b1 #[.bool l,.string s,.slice p n c] 83 (0,0) kr kr kr kr kr<|qC H2 (some 11) 92 #[.agg #[.bool l,.string s,.slice p n c]] (fun w=>zp w.heap.size w p n k) (.int .i64 ((dp1 l (dpF k):Nat):Int)) (zhm l s p n c k (by omega) (by omega)) (zp.call hpre H2.below) (fun w=>by kernel_rfl) kr ?_;intro w3 H3;clear H2;by_cases hc1:(dp1 l (dpF k):Nat)>8
  ·refine qu (some 12) (.bool (decide (8<((dp1 l (dpF k):Nat):Int)))) (.bool true) (fun w=>by kernel_rfl) (za (decide_eq_true (by omega))) kr<|zl (some 9) (.bool true) (fun w=>by kernel_rfl) kr<|zc<|zi kr kr<|zg [0,1] kr kr<|zl (some 2) (.string (⟨#[]⟩)) (fun w=>by kernel_rfl) kr<|zl (some 3) (.int .i64 5) (fun w=>by kernel_rfl) kr<|zc<|zm kr<|wV ?_;exact ⟨[.string (⟨#[]⟩),.int .i64 5],(.tmp (.string (⟨#[]⟩)) kr (.tmp (.int .i64 5) kr .nil)),(zhf hv1 (by omega)).symm,H3.below⟩
  ·refine qu (some 12) (.bool (decide (8<((dp1 l (dpF k):Nat):Int)))) (.bool false) (fun w=>by kernel_rfl) (za (decide_eq_false (by omega))) kr<|zl (some 9) (.bool false) (fun w=>by kernel_rfl) kr<|zc<|zh kr kr<|zg [0,1,2,3] kr kr<|yz H3 (some 14) 83 (.tmp 1) 0 b1 #[.bool l,.string s,.slice p n c] 83 (0,0) kr kr kr kr kr<|qC H3 (some 15) 102 #[.agg #[.bool l,.string s,.slice p n c]] (fun w=>zp w.heap.size w p n k) (.int .u64 ((sz1 l s (szF k):Nat):Int)) (zc4 l s p n c k (by omega) (by omega)) (zp.call hpre H3.below) (fun w=>by kernel_rfl) kr ?_;intro w4 H4;clear H3;by_cases hc2:(sz1 l s (szF k):Nat)>4000
   ·refine qu (some 16) (.bool (decide (4000<((sz1 l s (szF k):Nat):Int)))) (.bool true) (fun w=>by kernel_rfl) (za (decide_eq_true (by omega))) kr<|zl (some 13) (.bool true) (fun w=>by kernel_rfl) kr<|zc<|zi kr kr<|zg [0,1] kr kr<|zl (some 2) (.string (⟨#[]⟩)) (fun w=>by kernel_rfl) kr<|zl (some 3) (.int .i64 2) (fun w=>by kernel_rfl) kr<|zc<|zm kr<|wV ?_;exact ⟨[.string (⟨#[]⟩),.int .i64 2],(.tmp (.string (⟨#[]⟩)) kr (.tmp (.int .i64 2) kr .nil)),(zhg hv1 (by omega) (by omega)).symm,H4.below⟩
   ·refine qu (some 16) (.bool (decide (4000<((sz1 l s (szF k):Nat):Int)))) (.bool false) (fun w=>by kernel_rfl) (za (decide_eq_false (by omega))) kr<|zl (some 13) (.bool false) (fun w=>by kernel_rfl) kr<|zc<|zh kr kr<|zj kr<|wW<|zg [0] kr kr ?_;have hpw:=zhi hok.1 hok.2.1 (show sz1 l s (szF k)≤4000 by omega) (by omega);refine yu H4 (some 4) 133 (.agg #[.pointer none,.slice none 0 0]) kr kr kr ?_;intro b2 w5 H5;clear H4;refine zc<|zg [0,1] kr kr<|yz H5 (some 17) 83 (.tmp 1) 1 b1 #[.bool l,.string s,.slice p n c] 83 (0,0) kr kr kr kr kr ?_;have HD3:St w.heap.size w w5 [(b2,Obj.cells #[.pointer none,.slice none 0 0] 133 (0,0))]:=H5.sub (List.Sublist.cons_cons _ (List.Sublist.cons _ List.Sublist.slnil));have hE0:BE b2 133 5 [] [(b2,Obj.cells #[.pointer none,.slice none 0 0] 133 (0,0))]:=BE.nil none (Or.inl rfl);refine zaN HD3 hE0 (some 18) 103 #[.pointer (some ⟨b2,0,none⟩),.agg #[.bool l,.string s,.slice p n c]] (.tuple #[]) ([]++wr1 l s (szF k) (wrF k)) (fun w=>zp w.heap.size w p n k) (zhF b2 [] l s p n c k hs (by simp only [List.length_nil];omega)) hpre kr kr ?_;intro E1 w6 hE1 H6;clear HD3;refine zc<|zg [0,1,2] kr kr ?_;rw [List.nil_append] at hE1;refine zhG H6 hE1 (some 19) 104 #[.pointer (some ⟨b2,0,none⟩)] (.string (zf (wr1 l s (szF k) (wrF k)))) (zhI b2 (wr1 l s (szF k) (wrF k)) (zcY hok.1 hok.2.1 (by omega)).1 (by have h9:=(zcY hok.1 hok.2.1 (by omega)).2;omega)) kr kr ?_;intro w7 H7;clear H6;refine zl (some 2) (.string (zf (wr1 l s (szF k) (wrF k)))) (fun w=>by kernel_rfl) kr<|zl (some 3) (.int .i64 0) (fun w=>by kernel_rfl) kr<|zc<|zm kr<|wV ?_;exact ⟨[.string (zf (wr1 l s (szF k) (wrF k))),.int .i64 0],(.tmp (.string (zf (wr1 l s (szF k) (wrF k)))) kr (.tmp (.int .i64 0) kr .nil)),(zhh hv1 (by omega) (by omega)).symm,H7.below⟩
structure X3 where
 l:Bool
 s:ByteArray
 p:Option Addr
 n:Nat
 c:Nat
 k:Fo
def X3.cs (x:X3):List Value:=[.bool x.l,.string x.s,.slice x.p x.n x.c]
def cells3:List X3→List Value
 | []=>[]
 | x::r=>.bool x.l ::.string x.s ::.slice x.p x.n x.c::cells3 r
def toFo:List X3→Fo
 | []=>.nil
 | x::r=>.cons x.l x.s x.k (toFo r)
def qo:List X3→Nat
 | []=>0
 | x::r=>x.k.cnt+qo r
theorem um: ∀L,(toFo L).len=L.length
 | []=>rfl
 | x::r=>by simp only [toFo,Fo.len,List.length_cons,um r]
theorem xJ: ∀L,(cells3 L).length=L.length*3
 | []=>rfl
 | x::r=>by simp only [cells3,List.length_cons,xJ r];omega
theorem zaR: ∀L M,cells3 (L++M)=cells3 L++cells3 M
 | [],M=>rfl
 | x::r,M=>by simp only [List.cons_append,cells3,zaR r M]
theorem zdc: ∀L,∀u∈cells3 L,u.oneCell'=true
 | [],u,h=>nomatch h
 | x::r,u,h=>by
  simp only [cells3,List.mem_cons] at h;rcases h with rfl | rfl | rfl | h
  ·rfl
  ·rfl
  ·rfl
  ·exact zdc r u h
theorem zdd: ∀L M,qo (L++M)=qo L+qo M
 | [],M=>by simp [qo]
 | x::r,M=>by simp only [List.cons_append,qo,zdd r M];omega
theorem zde: ∀(L:List X3) (i:Nat) (x:X3),L[i]? =some x→qo (L.drop i)=x.k.cnt+qo (L.drop (i+1))
 | [],_,_,h=>by simp at h
 | y::r,0,x,h=>by simp at h;subst h;simp [qo]
 | y::r,i+1,x,h=>by
  have:=zde r i x (by simpa using h)
  simpa using this
theorem zdf: ∀(L:List X3) (i:Nat) (x:X3),L[i]? =some x→(cells3 L)[i*3]? =some (.bool x.l)∧(cells3 L)[i*3+1]? =some (.string x.s)∧(cells3 L)[i*3+2]? =some (.slice x.p x.n x.c)
 | [],_,_,h=>by simp at h
 | y::r,0,x,h=>by simp at h;subst h;exact ⟨rfl,rfl,rfl⟩
 | y::r,i+1,x,h=>by
  obtain ⟨h1,h2,h3⟩:=zdf r i x (by simpa using h);rw [show (i+1)*3=i*3+3 by omega];exact ⟨h1,h2,h3⟩
theorem ex3 {C:Array Value}{o:Nat}{a b c:Value}(h1:C[o]? =some a)(h2:C[o+1]? =some b)(h3:C[o+2]? =some c):o+3≤C.size∧C.extract o (o+3)=#[a,b,c]:=by
 have hl:=(Array.getElem?_eq_some_iff.1 h3).1;refine ⟨by omega,?_⟩;apply Array.ext
 ·simp;omega
 ·intro j hj1 hj2;simp at hj1 hj2;rcases (show j=0∨j=1∨j=2 by omega) with rfl | rfl | rfl
  ·have:=(Array.getElem?_eq_some_iff.1 h1).2;simpa using this
  ·have:=(Array.getElem?_eq_some_iff.1 h2).2;simpa using this
  ·have:=(Array.getElem?_eq_some_iff.1 h3).2;simpa using this
theorem Rw.at3 {cur:Array Value}{cap n:Nat}{L:List X3}(h:Rw 3 cur cap n (cells3 L)){i:Nat}{x:X3}(hx:L[i]? =some x):cur[i*3]? =some (.bool x.l)∧cur[i*3+1]? =some (.string x.s)∧cur[i*3+2]? =some (.slice x.p x.n x.c):=by
 have hl:=h.len;rw [xJ] at hl;have hi:i<L.length:=(List.getElem?_eq_some_iff.1 hx).1;obtain ⟨h1,h2,h3⟩:=zdf L i x hx;refine ⟨?_,?_,?_⟩
 ·rw [h.get _ (by omega)];exact h1
 ·rw [h.get _ (by omega)];exact h2
 ·rw [h.get _ (by omega)];exact h3
def vi (B:Nat)(w:World)(L:List X3):Prop:= ∀x∈L,zp B w x.p x.n x.k∧x.s.size≤0x800000000000
def yY (t limit:Nat):Nat:=if t≤limit then t else limit+1
def Cnt (t limit len u:Nat):Prop:=len≤limit+1∧(len≤limit→len+u=t)∧(limit<len→limit<t)
theorem Cnt.done {t limit len:Nat}(h:Cnt t limit len 0∨∃u,Cnt t limit len u∧limit<len):yY t limit=len:=by
 unfold yY;rcases h with ⟨h1,h2,h3⟩ | ⟨u,⟨h1,h2,h3⟩,h4⟩
 ·by_cases hl:len≤limit
  ·have:=h2 hl;rw [if_pos (by omega)];omega
  ·have:=h3 (by omega);rw [if_neg (by omega)];omega
 ·have:=h3 h4;rw [if_neg (by omega)];omega
theorem Cnt.push {t limit n u kc rc u':Nat}(h:Cnt t limit n (u+(1+kc+rc)))(hn:n≤limit)(hu:u'=u+kc):Cnt t limit (n+1) (u'+rc):=by
 obtain ⟨h1,h2,h3⟩:=h;have:=h2 hn;exact ⟨by omega,fun _=>by omega,fun _=>by omega⟩
theorem Cnt.full {t limit n u v:Nat}(h:Cnt t limit n u)(hn: ¬n≤limit):Cnt t limit n v:=⟨h.1,fun h=>absurd h hn,h.2.2⟩
theorem zhK {M:List X3}{x:X3}{i:Nat}(hi:i+1≤M.length):qo ((M++ [x]).drop (i+1))=qo (M.drop (i+1))+x.k.cnt:=by
 rw [List.drop_append_of_le_length hi,zdd];simp [qo]
theorem vi.push {B:Nat}{w:World}{M:List X3}{x:X3}(h:vi B w M)(hx:zp B w x.p x.n x.k)(hs:x.s.size≤0x800000000000):vi B w (M++ [x]):=fun y hy=>by
 rcases List.mem_append.1 hy with hy|hy
 ·exact h y hy
 ·rw [List.mem_singleton.1 hy];exact ⟨hx,hs⟩
theorem zdg: ∀m n,n<256^m→dgI (m+1) n=dgI m n
 | 0,n,h=>by
  have:n=0:=by simp at h;exact h
  subst this;rfl
 | m+1,n,h=>by
  unfold dgI;split
  ·rfl
  ·rw [zdg m (n / 256) (by rw [Nat.pow_succ] at h;omega)]
theorem zhL {n:Nat}(h0:n≠0)(h:n<0x10000000000000000):dg n=dg (n / 256)++ [UInt8.ofNat n]:=by
 show dgI 8 n=dgI 8 (n / 256)++_;rw [zdg 7 (n / 256) (by show _<72057594037927936;omega)];show (if n=0 then [] else _)=_;rw [if_neg h0]
theorem zhM {n q:Nat}{o:ByteArray}(h0:q≠0)(h:q<0x10000000000000000)(ho:dg n=dg q++tl o):dg n=dg (q / 256)++tl (strOfNums [(BitVec.toNat (BitVec.ofNat 8 (q%256)):Int)]++o):=by
 rw [ho,zhL h0 h,ke,List.append_assoc];congr 1;show [UInt8.ofNat q]++tl o=[UInt8.ofNat (Int.toNat _)]++tl o;rw [Int.toNat_natCast,BitVec.toNat_ofNat];congr 2;apply UInt8.toNat_inj.1;rw [UInt8.toNat_ofNat',UInt8.toNat_ofNat'];omega
theorem zhN {n:Nat}{o:ByteArray}(ho:dg n=dg 0++tl o):zf (dg n)=o:=by rw [ho];exact xD o
theorem zhO (n:Nat)(hn:n<0x10000000000000000):Fn Tryz.prog 105 #[.int .u64 (n:Int)] (.agg #[.bool false,.string (zf (dg n)),.slice none 0 0]):=by
 refine Fn.intro (c:=zk Tryz.f105) [.cell 2 83] 6 Tryz.func105 kr kr kr fun w=>?_;have H0:=St.start w;refine rS [.a] H0 kr fun gs1 w1 H1=>?_;clear H0;refine rS [.v,.c (zaL n (by omega)),.v,.s 0] H1 kr fun gs2 w2 H2=>?_;clear H1;refine zm kr<|wV ?_;refine ⟨[.agg #[.bool false,.string (zf (dg n)),.slice none 0 0]],(.agg (b:=(gs1 0).b) #[.bool false,.string (zf (dg n)),.slice none 0 0] 83 (0,0) kr (H2.get 0 kr) kr .nil),?_,H2.below⟩;rfl
theorem vj {l:Bool}{s:ByteArray}{k:Fo}(h:zD l s k.len=false):(l=true∧s=⟨#[]⟩)∨(l=false∧k=.nil):=by
 unfold zD at h;cases l with
 | true=>
  left;simp at h;exact ⟨rfl,h⟩
 | false=>
  right;simp at h;exact ⟨rfl,len_zero h⟩
theorem zhP {l:Bool}{s:ByteArray}{k:Fo}(h:(zM l s k.len k).2=0):(zM l s k.len k).1=zf (wr1 l s (szF k) (wrF k))∧zD l s k.len=false∧pureF k=true∧k.cnt<4000∧dp1 l (dpF k)≤8∧sz1 l s (szF k)≤4000∧(wr1 l s (szF k) (wrF k)).length=sz1 l s (szF k):=by
 unfold zM at h ⊢;cases hv:lf1 l s k.len (lfF k) 4000 with
 | none=>rw [hv] at h;simp at h
 | some y=>
  rw [hv] at h;obtain ⟨h1,h2,h3⟩:=zcW hv;simp only [] at h ⊢;by_cases hd:8<dp1 l (dpF k)
  ·rw [if_pos hd] at h;simp at h
  ·rw [if_neg hd] at h ⊢;by_cases hz:4000<sz1 l s (szF k)
   ·rw [if_pos hz] at h;simp at h
   ·rw [if_neg hz];exact ⟨rfl,h1,h2,h3,by omega,by omega,vg h1 (xH h2)⟩
def qG (w:World)(p:Option Addr)(L:List X3):Prop:=L=[]∨∃b off,p=some ⟨b,off,none⟩∧ ∀(j:Nat) (u:Value),(cells3 L)[j]? =some u→w.cell? ⟨b,off+j,none⟩=some u
theorem qG.up {w w':World}{p:Option Addr}{L:List X3}(h:qG w p L)(hb:Below w.heap.size w w'):qG w' p L:=by
 rcases h with h|⟨b,off,e,h⟩
 ·exact .inl h
 ·refine .inr ⟨b,off,e,fun j u hj=>?_⟩;have h1:=h j u hj;have hlt:b<w.heap.size:=by
   rcases Nat.lt_or_ge b w.heap.size with q|q
   ·exact q
   ·simp [World.cell?,Array.getElem?_eq_none q] at h1
  rw [←h1];unfold World.cell?;rw [hb.block b hlt]
theorem Rw.cellsAt {cur:Array Value}{cap n:Nat}{L:List X3}(h:Rw 3 cur cap n (cells3 L)){w:World}{b:Nat}{T:TypeId}{fz:Nat×Nat}(hh:w.heap[b]? =some (.cells cur T fz)):n=L.length∧qG w (some ⟨b,0,none⟩) L:=by
 have hl:=h.len;rw [xJ] at hl;refine ⟨by omega,.inr ⟨b,0,rfl,fun j u hj=>?_⟩⟩;have hlt:j<n*3:=by have:=(List.getElem?_eq_some_iff.1 hj).1;rw [xJ] at this;omega
 rw [Nat.zero_add];simp [World.cell?,hh,h.get j hlt,hj]
def vk (T:TypeId)(mk:Value→Value)(n:Nat)(L:List X3):Nat→Value→World→Prop:=fun B v w'=>
 (n=0∧v=mk (.slice none 0 0))∨∃b cap cur,v=mk (.slice (some ⟨b,0,none⟩) n cap)∧B≤b∧w'.heap[b]? =some (.cells cur T (0,0))∧Rw 3 cur cap n (cells3 L)
section
variable {P:Program}{N:Nat}{ops:Array Oper}{i:Nat}{r:List Nat}{K:Env→World→Prop}{ρ:Env}{w:World}{B:Nat}{w0:World}{l:List (Nat×Obj)}
theorem zdh (HS:St B w0 w l)(d:Option Nat)(f:Nat)(args:Array Value)(pre:World→Prop)(T:TypeId)(mk:Value→Value)(n:Nat)(L:List X3)(hc:FnR P f args pre (vk T mk n L))(hp:pre w)
 (h:opv P ops i ρ w=some (d,true,.ok (.enter f args) w)) (hd:dOK d N=true)
 (k0: ∀w',n=0→St B w0 w' l→WPs P N ops K r (zr ρ d (mk (.slice none 0 0))) w')
 (kk: ∀b cap cur w',St B w0 w' ((b,.cells cur T (0,0))::l)→Rw 3 cur cap n (cells3 L)→WPs P N ops K r (zr ρ d (mk (.slice (some ⟨b,0,none⟩) n cap))) w'):WPs P N ops K (i::r) ρ w:=by
 obtain ⟨o,ho,rfl,hw,hr⟩:=zZ h;refine WPo.run ho hw fun a ha=>?_;rw [hr,Oper.upon_enter];refine (hc w hp).mono ?_;rintro e w' ⟨v,rfl,hb,⟨h0,rfl⟩|⟨b,cap,cur,rfl,hle,hh,hr⟩⟩
 ·exact ⟨_,ha.put _ (zV hd) _,k0 w' h0 (HS.call hb)⟩
 ·exact ⟨_,ha.put _ (zV hd) _,kk b cap cur w' (HS.add hb hle hh) hr⟩
theorem zhQ (HS:St B w0 w l)(d:Option Nat)(t e:TypeId)(bytes:Nat)(s x:Operand)(j b n m cap c:Nat)(p:Option Addr)(cur:Array Value)(xs:List Value)(L:List X3)(l':Nat→Array Value→List (Nat×Obj))
 (h:opk ops i ρ=some (d,true,yi t s x)) (hd:dOK d N=true) (ht:yl P t=some (e,3,bytes))
 (hs:ev ρ s=.slice (some ⟨b,0,none⟩) n cap) (hj:l[j]? =some (b,.cells cur e (0,0))) (hr:Rw 3 cur cap n xs)
 (hx:ev ρ x=.slice p m c) (hm:m=L.length) (hp:p≠none) (hc:qG w p L)
 (hb:(n+m)*bytes≤0x800000000000) (hmx:n+m≤maxLen)
 (hl': ∀b' cur',l.set j (b',.cells cur' e (0,0))=l' b' cur')
 (kk: ∀b' cap' cur' w',St B w0 w' (l' b' cur')→Rw 3 cur' cap' (n+m) (xs++cells3 L)→WPs P N ops K r (zr ρ d (.slice (some ⟨b',0,none⟩) (n+m) cap')) w'):WPs P N ops K (i::r) ρ w:=by
 obtain ⟨o,ho,rfl,hw,hop⟩:=zE h;obtain ⟨it,z,hu,hi,hz,hsz,hby,hzs,h0⟩:=yU ht;obtain ⟨a,rfl⟩:∃a,p=some a:=by cases p with
  | none=>exact absurd rfl hp
  | some a=>exact ⟨a,rfl⟩
 have hnews: ∀q u,(cells3 L)[q]? =some u→w.cell? (a.add q)=some u:=fun q u hq=>by
  rcases hc with rfl|⟨b',off,e',h9⟩
  ·simp [cells3] at hq
  ·obtain rfl:a=⟨b',off,none⟩:=Option.some.inj e';rw [yT];exact h9 q u hq
 obtain ⟨v',w',hrun,hown,hgr,hnil,hblk⟩:=run_append_own_at (P:=P) w B t o.type e it z 3 bytes hu hi hz hsz hby hzs h0 _ n xs (hr.owns (HS.ge j hj) (HS.get j hj)) a m c (cells3 L) (by rw [xJ,hm]) hnews (zdc L) hmx hb HS.le;have hown':=hown;rcases hown'.2 with ⟨hv,_⟩|⟨g,cap',cur',rfl,hbg,hg,hnc,hcm,hcs,htk⟩
 ·exact absurd (hnil.1 hv).1 (by simp)
 ·have hgb:g=b∨g=w.heap.size:=by
   rcases hblk with hq|hq
   ·left;injection hq
   ·right;injection hq
  have HS':=HS.grown j hj hgr hgb hg;rw [hl'] at HS';refine WPo.run ho hw fun a' ha=>?_;have hex:(execOp (ev ρ) o).run P w=.ok (.value (.slice (some ⟨g,0,none⟩) (n+m) cap')) w':=by
   unfold execOp;simp only [hop,yi,resolve,invoke,builtin,Sem.run_bind,Sem.run_pure,Result.andThen_ok,List.map_toArray,List.map_cons,List.map_nil,hs,hx,hrun]
  rw [hex,Oper.upon_value];exact ⟨_,ha.put _ (zV hd) _,kk g cap' cur' w' HS' ⟨hown.1,hnc,hcm,htk,hcs⟩⟩
end
section
variable {P:Program}{N:Nat}{ops:Array Oper}{Q:Exit→Env→World→Prop}{K:Env→World→Prop}{ρ:Env}{w:World}{i:Nat}{r:List Nat}{c:Code}
end
def qH (T:List (Nat×Obj)):Fo→Nat→Nat→Prop
 | .nil,_,_=>True
 | .cons l s k r,b,off=>(∃(C:Array Value) (ty:TypeId) (fz:Nat×Nat) (p:Option Addr) (n c:Nat),(b,Obj.cells C ty fz)∈T∧off+3≤C.size∧
  C.extract off (off+3)=#[.bool l,.string s,.slice p n c]∧s.size≤0x800000000000∧n=k.len∧n≤0x800000000000∧(k=.nil∨∃b' off',p=some ⟨b',off',none⟩∧qH T k b' off'))∧qH T r b (off+3)
def yw (T:List (Nat×Obj))(p:Option Addr)(n:Nat)(k:Fo):Prop:=n=k.len∧n≤0x800000000000∧(k=.nil∨∃b off,p=some ⟨b,off,none⟩∧qH T k b off)
theorem qH.mono {T T':List (Nat×Obj)}(h: ∀e∈T,e∈T'): ∀ {k:Fo} {b off:Nat},qH T k b off→qH T' k b off
 | .nil,_,_,_=>trivial
 | .cons l s k r,b,off,⟨⟨C,ty,fz,p,n,c,h1,h2,h3,h4,h5,h6,h7⟩,h8⟩=>⟨⟨C,ty,fz,p,n,c,h _ h1,h2,h3,h4,h5,h6,h7.imp id fun ⟨b',o',e,q⟩=>⟨b',o',e,qH.mono h q⟩⟩,qH.mono h h8⟩
theorem yw.mono {T T':List (Nat×Obj)}{p:Option Addr}{n:Nat}{k:Fo}(hs:yw T p n k)(h: ∀e∈T,e∈T'):yw T' p n k:=
 ⟨hs.1,hs.2.1,hs.2.2.imp id fun ⟨b,o,e,q⟩=>⟨b,o,e,q.mono h⟩⟩
theorem qH.at {B:Nat}{w0 w:World}{l T:List (Nat×Obj)}(hS:St B w0 w l)(h: ∀e∈T,e∈l): ∀ {k:Fo} {b off:Nat},qH T k b off→qx w.heap.size w k b off
 | .nil,_,_,_=>trivial
 | .cons l s k r,b,off,⟨⟨C,ty,fz,p,n,c,h1,h2,h3,h4,h5,h6,h7⟩,h8⟩=>
  have hh:=(hS.own _ (h _ h1)).2
  ⟨⟨C,ty,fz,p,n,c,zz hh,hh,h2,h3,h4,h5,h6,h7.imp id fun ⟨b',o',e,q⟩=>⟨b',o',e,qH.at hS h q⟩⟩,qH.at hS h h8⟩
theorem yw.at {B:Nat}{w0 w:World}{l T:List (Nat×Obj)}{p:Option Addr}{n:Nat}{k:Fo}(hs:yw T p n k)(hS:St B w0 w l)(h: ∀e∈T,e∈l):zp w.heap.size w p n k:=
 ⟨hs.1,hs.2.1,hs.2.2.imp id fun ⟨b,o,e,q⟩=>⟨b,o,e,q.at hS h⟩⟩
def AllIn (T:List (Nat×Obj))(L:List X3):Prop:= ∀x∈L,yw T x.p x.n x.k∧x.s.size≤0x800000000000
theorem zdi {T:List (Nat×Obj)}{b:Nat}{C:Array Value}{ty:TypeId}{fz:Nat×Nat}(hm:(b,Obj.cells C ty fz)∈T): ∀(L:List X3) (o:Nat),
 (∀(i:Nat) (x:X3),L[i]? =some x→C[o+i*3]? =some (.bool x.l)∧C[o+i*3+1]? =some (.string x.s)∧C[o+i*3+2]? =some (.slice x.p x.n x.c))→AllIn T L→qH T (toFo L) b o
 | [],_,_,_=>trivial
 | x::r,o,h,hA=>by
  obtain ⟨h1,h2,h3⟩:=h 0 x rfl;simp only [Nat.zero_mul,Nat.add_zero] at h1 h2 h3;have ha:=hA x (List.mem_cons_self ..);refine ⟨⟨C,ty,fz,x.p,x.n,x.c,hm,(ex3 h1 h2 h3).1,(ex3 h1 h2 h3).2,ha.2,ha.1.1,ha.1.2.1,ha.1.2.2⟩,?_⟩;refine zdi hm r (o+3) (fun i y hy=>?_) fun y hy=>hA y (List.mem_cons_of_mem _ hy);have:=h (i+1) y (by simpa using hy);rw [show o+(i+1)*3=o+3+i*3 by omega] at this;exact this
theorem Rw.slIn {cur:Array Value}{cap n:Nat}{L:List X3}(h:Rw 3 cur cap n (cells3 L)){T:List (Nat×Obj)}{b:Nat}{ty:TypeId}{fz:Nat×Nat}(hm:(b,Obj.cells cur ty fz)∈T)(hA:AllIn T L)(hn:n≤0x800000000000):yw T (some ⟨b,0,none⟩) n (toFo L):=by
 have hl:=h.len;rw [xJ] at hl;refine ⟨by rw [um];omega,hn,.inr ⟨b,0,rfl,zdi hm L 0 (fun i x hx=>?_) hA⟩⟩;have:=h.at3 hx;rw [Nat.zero_add];exact this
section
variable {P:Program}{N:Nat}{ops:Array Oper}{Q:Exit→Env→World→Prop}{K:Env→World→Prop}{ρ:Env}{w w0:World}{i B:Nat}{r:List Nat}{l:List (Nat×Obj)}
end
theorem yw.none (T:List (Nat×Obj)):yw T none 0 .nil:=⟨rfl,by omega,.inl rfl⟩
end Go.Proofs.YtbpmjppmpgeejaaGreatDoor
namespace Go.Proofs.YtbpmjppmpgeejaaGreatDoor.D2
open Go Go.RowKit
set_option linter.unusedVariables false
section
variable {P:Program}{N:Nat}{ops:Array Oper}{Q:Exit→Env→World→Prop}{K:Env→World→Prop}{ρ:Env}{w:World}{vs:List (Option Nat×(Gh→Value))}{pre:(Nat→Bool)→(Nat→Gh)→World→Prop}{Bad:List PanicEntry→World→Prop}
end
end Go.Proofs.YtbpmjppmpgeejaaGreatDoor.D2
namespace Go.Proofs.YtbpmjppmpgeejaaGreatDoor
open Go Go.RowKit
set_option linter.unusedVariables false
abbrev xc (x:X3):Array Value:=#[.bool x.l,.string x.s,.slice x.p x.n x.c]
section
variable {P:Program}{ρ:Env}{w w0:World}{B:Nat}{l:List (Nat×Obj)}
end
def RowSt (p:Option Addr)(n c:Nat)(row:List (Nat×Obj))(L:List X3):Prop:=(p=none∧n=0∧c=0∧row=[]∧L=[])∨∃b cur,p=some ⟨b,0,none⟩∧row=[(b,.cells cur 83 (0,0))]∧Rw 3 cur c n (cells3 L)
section
variable {B:Nat}{w0:World}{t:ByteArray}{b2 b3 b4:Nat}{p:Option Addr}{n c:Nat}{row:List (Nat×Obj)}{M:List X3}{L0:List (Nat×Obj)}{L:Nat→Bool}{g:Nat→D2.Gh}{w:World}
end
theorem AllIn.mono {T T':List (Nat×Obj)}{M:List X3}(h:AllIn T M)(hs: ∀e∈T,e∈T'):AllIn T' M:=fun x hx=>⟨(h x hx).1.mono hs,(h x hx).2⟩
theorem AllIn.snoc {T:List (Nat×Obj)}{M:List X3}{x:X3}(h:AllIn T M)(hx:yw T x.p x.n x.k)(hz:x.s.size≤0x800000000000):AllIn T (M++ [x]):=fun y hy=>by
 rcases List.mem_append.1 hy with q|q
 ·exact h y q
 ·obtain rfl:=List.mem_singleton.1 q;exact ⟨hx,hz⟩
structure zl3 (t t':ByteArray)(p:Option Addr)(n c:Nat)(row:List (Nat×Obj))(M:List X3)(T:List (Nat×Obj)):Prop where
 row:RowSt p n c row M
 size:n+t'.size≤t.size
 all:tl t=wrF (toFo M)++tl t'
 pur:pureF (toFo M)=true
 inn:AllIn T M
 rest: ∀k,pureF k=true→tl t=wrF k→∃k',pureF k'=true∧tl t'=wrF k'
structure zl4 (ds:List Deferred)(a:Act)(ρ:Env)(N:Nat):Prop where
 defers:a.defers=ds
 rep:Rep { a with defers:=[] } ρ N
section
variable {P:Program}{N:Nat}{ops:Array Oper}{Q:Exit→Env→World→Prop}{K:Env→World→Prop}{ρ:Env}{w:World}{i:Nat}{ds:List Deferred}
variable {c:Code}
end
section
variable {P:Program}{N:Nat}{ops:Array Oper}{ρ:Env}{w w':World}{i:Nat}{ds:List Deferred}{c:Code}{rest:List Nat}{a:Act}{cs:List Frame}
variable {Q:Exit→Act→List Frame→World→Prop}
end
section
variable {P:Program}{N:Nat}{ops:Array Oper}{ρ:Env}{w w':World}{i:Nat}{rest:List Nat}{a:Act}{Q:Exit→Act→World→Prop}
end
section
variable {P:Program}{N:Nat}{ops:Array Oper}{K:Env→World→Prop}{ρ:Env}{w w0:World}{i B:Nat}{r:List Nat}{l:List (Nat×Obj)}
end
theorem jD {l:List Value}(h:l.all (·.oneCell')=true): ∀u∈l,u.oneCell'=true:=fun u hu=>List.all_eq_true.1 h u hu
abbrev Kf:=Fr Nat
def kS:Sh Nat where
 K:=2
 hd g:=[.int .u8 (g:Int)]
 ok _:=True
 mx:=1000
 len _:=rfl
 one _:=jD rfl
abbrev Fe:=Fr (Nat×ByteArray)
def fS:Sh (Nat×ByteArray) where
 K:=3
 hd x:=[.int .u64 ((x.1:Nat):Int),.string x.2]
 ok x:=x.1<0x10000000000000000∧x.2.size≤0x800000000000
 mx:=0x800000000000
 len _:=rfl
 one _:=jD rfl
def Fr.all {α:Type}(p:α→Prop):Fr α→Prop
 | .nil=>True
 | .cons a k r=>p a∧k.all p∧r.all p
theorem qn.ok {α:Type}{S:Sh α}{B:Nat}{w:World} : ∀ {k:Fr α} {b off:Nat},qn S B w k b off→k.all S.ok
 | .nil,_,_,_=>trivial
 | .cons a k r,b,off,⟨⟨C,T,fz,p,n,c,h1,h2,h3,h4,h5,h6,h7,h8⟩,h9⟩=>⟨h5,by
  rcases h8 with rfl|⟨b',o',e,h⟩
  ·trivial
  ·exact h.ok,h9.ok⟩
theorem SlR.ok {α:Type}{S:Sh α}{B:Nat}{w:World}{p:Option Addr}{n:Nat}{k:Fr α}(h:SlR S B w p n k):k.all S.ok:=by
 rcases h.2.2 with rfl|⟨b,o,e,h⟩
 ·trivial
 ·exact h.ok
def zA (g:Nat)(b:Kf)(i:Nat):Nat×Kf:=match b.at (if g=42 then 0 else i) with
 | some x=>x
 | none=>(0,.nil)
def zT (g:Nat):Nat×Nat:=if g=104 then (32,32) else if g=97 then (20,20) else if g=115 then (65,65) else if g=98 then (0,64) else (0,0)
def ya (g n:Nat):Nat×Nat:=if g=40 then (n,n) else if g=42 then (0,40) else (0,0)
def yx (x:Nat×Nat)(n:Nat):Bool:=decide (x.1≤n)&&decide (n≤x.2)
def zv (g bl n sz ln:Nat):Bool:=(decide (n=0)||decide (g=110))&&(yx (zT g) sz&&yx (ya g bl) ln)
def w64 (x:Int):Int:=IntKind.i64.wrap x
def yP:Fe→Nat→Kf→Nat→Int→Int
 | .nil,_,_,_,room=>room
 | .cons x l r,g,b,i,room=>
  if (if zv (zA g b i).1 (zA g b i).2.len x.1 x.2.size l.len=true then yP l (zA g b i).1 (zA g b i).2 0 (w64 (room-1)) else-1)<0
  then (if zv (zA g b i).1 (zA g b i).2.len x.1 x.2.size l.len=true then yP l (zA g b i).1 (zA g b i).2 0 (w64 (room-1)) else-1)
  else yP r g b (i+1) (if zv (zA g b i).1 (zA g b i).2.len x.1 x.2.size l.len=true then yP l (zA g b i).1 (zA g b i).2 0 (w64 (room-1)) else-1)
def zU (g:Nat)(b:Kf)(x:Nat×ByteArray)(l:Fe)(room:Int):Int:=
 if zv g b.len x.1 x.2.size l.len=true then yP l g b 0 (w64 (room-1)) else-1
theorem un (x:Nat×ByteArray)(l r:Fe)(g:Nat)(b:Kf)(i:Nat)(room:Int):yP (.cons x l r) g b i room=
 if zU (zA g b i).1 (zA g b i).2 x l room<0 then zU (zA g b i).1 (zA g b i).2 x l room else yP r g b (i+1) (zU (zA g b i).1 (zA g b i).2 x l room):=rfl
def zR (g:Nat):Bool:=decide (g=40)||decide (g=42)
def zJ (g:Nat)(x:Nat×ByteArray):ByteArray:=if g=110 then zf (dg x.1) else if zR g=true then ⟨#[]⟩ else x.2
def yd:Fe→Nat→Kf→Nat→Fo
 | .nil,_,_,_=>.nil
 | .cons x l r,g,b,i=>.cons (zR (zA g b i).1) (zJ (zA g b i).1 x) (if zR (zA g b i).1=true then yd l (zA g b i).1 (zA g b i).2 0 else .nil) (yd r g b (i+1))
def zH (g:Nat)(b:Kf)(l:Fe):Fo:=if zR g=true then yd l g b 0 else .nil
theorem uo (x:Nat×ByteArray)(l r:Fe)(g:Nat)(b:Kf)(i:Nat):yd (.cons x l r) g b i=.cons (zR (zA g b i).1) (zJ (zA g b i).1 x) (zH (zA g b i).1 (zA g b i).2 l) (yd r g b (i+1)):=rfl
theorem Fr.len_zero {α:Type}{k:Fr α}(h:k.len=0):k=.nil:=by
 cases k with
 | nil=>rfl
 | cons a k r=>simp only [Fr.len] at h;omega
theorem jo {s:ByteArray}(h:s.size=0):s=⟨#[]⟩:=by
 obtain ⟨d⟩:=s;have:d=#[]:=Array.eq_empty_of_size_eq_zero h;rw [this]
theorem zaS {g bl n sz ln:Nat}(h:zv g bl n sz ln=true):(n=0∨g=110)∧((zT g).1≤sz∧sz≤(zT g).2)∧(ya g bl).1≤ln∧ln≤(ya g bl).2:=by
 unfold zv yx at h;simp only [Bool.and_eq_true,Bool.or_eq_true,decide_eq_true_eq] at h;exact h
def qT (g:Nat)(b:Kf)(x:Nat×ByteArray)(l:Fe):ByteArray×Nat:=
 if zU g b x l 1001<0 then (⟨#[]⟩,1) else zM (zR g) (zJ g x) (zH g b l).len (zH g b l)
def Fr.snoc {α:Type} :Fr α→α→Fr α→Fr α
 | .nil,a,k=>.cons a k .nil
 | .cons a' k' r,a,k=>.cons a' k' (r.snoc a k)
theorem zdj {α:Type}(x:El α): ∀L:List (El α),yM (L++ [x])=(yM L).snoc x.a x.k
 | []=>rfl
 | y::r=>by simp only [List.cons_append,yM,Fr.snoc,zdj x r]
def jE:Nat→Kf→List (Nat×Kf)→List (Nat×Kf)
 | _,_,[]=>[]
 | g,k,(h,m)::r=>if h=42 then jE h (m.snoc g k) r else (h,m.snoc g k)::r
def qI (c:Nat)(st:List (Nat×Kf)):Option (List (Nat×Kf)):=
 if c=110∨c=104∨c=97∨c=115∨c=98 then some (jE c .nil st)
 else if c=40∨c=42 then if st.length=5 then none else some ((c,.nil)::st)
 else if c=41 then match st with
  | []=>none
  | (h,m)::r=>if r.length=0∨h≠40 then none else some (jE h m r)
 else none
def xg:List UInt8→List (Nat×Kf)→Option (List (Nat×Kf))
 | [],st=>some st
 | c::r,st=>match qI c.toNat st with
  | none=>none
  | some st'=>xg r st'
def parseM (form:ByteArray):Option Kf:=
 if 40<form.size then none else match xg (tl form) [(40,.nil)] with
  | some [(_,m)]=>some m
  | _=>none
def yk (c:Nat):Bool:=c==110||(c==104||(c==97||(c==115||c==98)))
theorem jg {c:Nat} :yk c=true↔c=110∨c=104∨c=97∨c=115∨c=98:=by unfold yk;simp
def kdOk (s:ByteArray):Bool:=(s.size==1&&yk (by_ s 0))||(s.size==2&&(by_ s 0==42&&yk (by_ s 1)))
theorem zaT {s:ByteArray} :kdOk s=true↔(s.size=1∧yk (by_ s 0)=true)∨(s.size=2∧by_ s 0=42∧yk (by_ s 1)=true):=by
 unfold kdOk;simp
def kdB (s:ByteArray):Kf:=if by_ s 0=42 then .cons (by_ s 1) .nil .nil else .nil
def kfL:List ByteArray→Kf
 | []=>.nil
 | s::r=>.cons (by_ s 0) (kdB s) (kfL r)
theorem zdk: ∀ks:List ByteArray,(kfL ks).len=ks.length
 | []=>rfl
 | s::r=>by simp only [kfL,Fr.len,zdk r,List.length_cons]
theorem zdl: ∀(ks:List ByteArray) (i:Nat),(kfL ks).at i=(ks[i]?).map fun s=>(by_ s 0,kdB s)
 | [],i=>by cases i<;>rfl
 | s::r,0=>rfl
 | s::r,i+1=>by simp only [kfL,Fr.at,zdl r i,List.getElem?_cons_succ]
theorem zdm (ks:List ByteArray)(i:Nat):zA 40 (kfL ks) i=match ks[i]? with
 | some s=>(by_ s 0,kdB s)
 | none=>(0,.nil):=by
 unfold zA;rw [if_neg (by decide),zdl];cases ks[i]?<;>rfl
theorem uq (c i:Nat):zA 42 (.cons c .nil .nil) i=(c,.nil):=by
 unfold zA;rw [if_pos rfl];rfl
def Fr.cnt {α:Type} :Fr α→Nat
 | .nil=>0
 | .cons _ k r=>1+k.cnt+r.cnt
def yF (c:Nat):Fe→Bool
 | .nil=>true
 | .cons x l r=>zv c 0 x.1 x.2.size l.len&&yF c r
def yG (s:ByteArray)(x:Nat×ByteArray)(l:Fe):Bool:=zv (by_ s 0) (kdB s).len x.1 x.2.size l.len&&(!(by_ s 0==42)||yF (by_ s 1) l)
def zX:List ByteArray→Fe→Bool
 | [],.nil=>true
 | s::ks,.cons x l r=>yG s x l&&zX ks r
 | [],.cons _ _ _=>false
 | _::_,.nil=>false
theorem vm: ∀ {ks:List ByteArray} {l:Fe},zX ks l=true→l.len=ks.length
 | [],.nil,_=>rfl
 | s::ks,.cons x l r,h=>by
  simp only [zX,Bool.and_eq_true] at h;simp only [Fr.len,List.length_cons,vm h.2]
 | [],.cons _ _ _,h=>nomatch h
 | _::_,.nil,h=>nomatch h
theorem zdn {c:Nat}(hc:yk c=true){n sz ln:Nat}(h:zv c 0 n sz ln=true):ln=0:=by
 have h3:=(zaS h).2.2.2;have:(ya c 0).2=0:=by
  rw [jg] at hc;unfold ya;rw [if_neg (by omega),if_neg (by omega)]
 omega
theorem zdo {r:Nat}(h:r≤2000):w64 ((r:Int)-1)=(r:Int)-1:=by
 unfold w64;exact wrap_i64 (by omega) (by omega)
def LeR (v:Int)(P:Prop)(n room:Nat):Prop:=(P∧n≤room→v=((room-n:Nat):Int))∧(¬(P∧n≤room)→v<0)
theorem LeR.pos {v:Int}{P:Prop}{n room:Nat}(h:LeR v P n room): ¬v<0↔P∧n≤room:=by
 constructor
 ·intro h1;by_cases h2:P∧n≤room
  ·exact h2
  ·exact absurd (h.2 h2) h1
 ·intro h1 h2;rw [h.1 h1] at h2;omega
theorem LeR.two {x:Nat×ByteArray}{l r:Fe}{g:Nat}{b:Kf}{i:Nat}{room:Nat}{P Q:Prop}(h1:LeR (zU (zA g b i).1 (zA g b i).2 x l room) P (1+l.cnt) room)
 (h2:P→ ∀q:Nat,q≤room→LeR (yP r g b (i+1) q) Q r.cnt q):LeR (yP (.cons x l r) g b i room) (P∧Q) (Fr.cnt (.cons x l r)) room:=by
 rw [un];have ec:Fr.cnt (Fr.cons x l r)=1+l.cnt+r.cnt:=rfl;rw [ec];by_cases hv:zU (zA g b i).1 (zA g b i).2 x l room<0
 ·rw [if_pos hv];refine ⟨fun h=>?_,fun _=>hv⟩;exact absurd hv (h1.pos.2 ⟨h.1.1,by omega⟩)
 ·rw [if_neg hv];obtain ⟨hP,hn⟩:=h1.pos.1 hv;rw [h1.1 ⟨hP,hn⟩];have h3:=h2 hP (room-(1+l.cnt)) (by omega);refine ⟨fun h=>?_,fun h=>?_⟩
  ·rw [h3.1 ⟨h.1.2,by omega⟩];congr 1;omega
  ·exact h3.2 fun h9=>h ⟨⟨hP,h9.1⟩,by omega⟩
theorem zdp {c:Nat}(hc:yk c=true)(x:Nat×ByteArray)(l:Fe)(room:Nat)(hr:room≤2000):LeR (zU c .nil x l room) (zv c 0 x.1 x.2.size l.len=true) (1+l.cnt) room:=by
 unfold zU;by_cases hf:zv c 0 x.1 x.2.size l.len=true
 ·rw [if_pos (show zv c (Fr.len .nil) x.1 x.2.size l.len=true from hf),zdo hr];obtain rfl:=Fr.len_zero (zdn hc hf);show LeR ((room:Int)-1) _ (1+0) room;exact ⟨fun h=>by omega,fun h=>by have: ¬1+0≤room:=fun h9=>h ⟨hf,h9⟩;omega⟩
 ·rw [if_neg (show ¬zv c (Fr.len .nil) x.1 x.2.size l.len=true from hf)];exact ⟨fun h=>absurd h.1 hf,fun _=>by decide⟩
theorem zdq {c:Nat}(hc:yk c=true): ∀(l:Fe) (i room:Nat),room≤2000→LeR (yP l 42 (.cons c .nil .nil) i room) (yF c l=true) l.cnt room
 | .nil,i,room,_=>⟨fun _=>rfl,fun h=>absurd ⟨rfl,Nat.zero_le _⟩ h⟩
 | .cons x l r,i,room,hr=>by
  have h1:=zdp hc x l room hr;have h2:LeR (zU (zA 42 (.cons c .nil .nil) i).1 (zA 42 (.cons c .nil .nil) i).2 x l room) (zv c 0 x.1 x.2.size l.len=true) (1+l.cnt) room:=by rw [uq];exact h1
  have h3:=LeR.two (r:=r) (Q:=yF c r=true) h2 fun _ q hq=>zdq hc r (i+1) q (by omega);have e:(yF c (.cons x l r)=true)=(zv c 0 x.1 x.2.size l.len=true∧yF c r=true):=by simp only [yF,Bool.and_eq_true]
  rw [e];exact h3
theorem zhR {s:ByteArray}(hs:kdOk s=true)(x:Nat×ByteArray)(l:Fe)(room:Nat)(hr:room≤2000):LeR (zU (by_ s 0) (kdB s) x l room) (yG s x l=true) (1+l.cnt) room:=by
 rcases zaT.1 hs with ⟨h1,h2⟩|⟨h1,h2,h3⟩
 ·have hn: ¬by_ s 0=42:=by rw [jg] at h2;omega
  have eb:kdB s=.nil:=by unfold kdB;rw [if_neg hn]
  have e:(yG s x l=true)=(zv (by_ s 0) 0 x.1 x.2.size l.len=true):=by
   unfold yG;rw [eb,beq_eq_false_iff_ne.2 hn];simp [Fr.len]
  rw [e,eb];exact zdp h2 x l room hr
 ·have eb:kdB s=.cons (by_ s 1) .nil .nil:=by unfold kdB;rw [if_pos h2]
  have e:(yG s x l=true)=(zv 42 1 x.1 x.2.size l.len=true∧yF (by_ s 1) l=true):=by
   unfold yG;rw [eb,h2];simp [Fr.len]
  rw [e,eb,h2];unfold zU;by_cases hf:zv 42 1 x.1 x.2.size l.len=true
  ·rw [if_pos (show zv 42 (Fr.len (.cons (by_ s 1) .nil .nil)) x.1 x.2.size l.len=true from hf),zdo hr];by_cases h0:room=0
   ·subst h0;refine ⟨fun h=>by omega,fun _=>?_⟩;cases l with
    | nil=>exact (by decide:w64 (-1)<0)
    | cons y k r=>
     have hk:zU (by_ s 1) .nil y k (-1)<0:=by
      unfold zU;by_cases hf2:zv (by_ s 1) 0 y.1 y.2.size k.len=true
      ·rw [if_pos (show zv (by_ s 1) (Fr.len .nil) y.1 y.2.size k.len=true from hf2)];obtain rfl:=Fr.len_zero (zdn h3 hf2);exact (by decide:w64 (-1-1)<0)
      ·rw [if_neg (show ¬zv (by_ s 1) (Fr.len .nil) y.1 y.2.size k.len=true from hf2)];decide
     show yP _ _ _ _ (-1)<0;rw [un,uq,if_pos hk];exact hk
   ·have h4:=zdq h3 l 0 (room-1) (by omega);rw [show (room:Int)-1=((room-1:Nat):Int) by omega];refine ⟨fun h=>?_,fun h=>h4.2 fun h9=>h ⟨⟨hf,h9.1⟩,by omega⟩⟩;rw [h4.1 ⟨h.1.2,by omega⟩];congr 1;omega
  ·rw [if_neg (show ¬zv 42 (Fr.len (.cons (by_ s 1) .nil .nil)) x.1 x.2.size l.len=true from hf)];exact ⟨fun h=>absurd h.1.1 hf,fun _=>by decide⟩
theorem zdr {ks0:List ByteArray}(h0: ∀s∈ks0,kdOk s=true): ∀(ks:List ByteArray) (l:Fe) (i room:Nat),ks0.drop i=ks→l.len=ks.length→room≤2000→LeR (yP l 40 (kfL ks0) i room) (zX ks l=true) l.cnt room
 | [],.nil,i,room,_,_,_=>⟨fun _=>rfl,fun h=>absurd ⟨rfl,Nat.zero_le _⟩ h⟩
 | [],.cons _ _ _,_,_,_,h,_=>by simp [Fr.len] at h
 | _::_,.nil,_,_,_,h,_=>by simp [Fr.len] at h
 | s::ks,.cons x l r,i,room,hd,hl,hr=>by
  have hi:ks0[i]? =some s:=by
   have:=congrArg (fun L=>L[0]?) hd
   simpa using this
  have h1:LeR (zU (zA 40 (kfL ks0) i).1 (zA 40 (kfL ks0) i).2 x l room) (yG s x l=true) (1+l.cnt) room:=by
   rw [zdm,hi];exact zhR (h0 s (List.mem_of_getElem? hi)) x l room hr
  have h3:=LeR.two (r:=r) (Q:=zX ks r=true) h1 fun _ q hq=>zdr h0 ks r (i+1) q (by rw [←List.drop_drop,hd];rfl) (by simp only [Fr.len,List.length_cons] at hl;omega) (by omega);have e:(zX (s::ks) (.cons x l r)=true)=(yG s x l=true∧zX ks r=true):=by simp only [zX,Bool.and_eq_true]
  rw [e];exact h3
theorem zds {ks:List ByteArray}(h0: ∀s∈ks,kdOk s=true)(l:Fe): ¬zU 40 (kfL ks) (0,⟨#[]⟩) l 1001<0↔zX ks l=true∧l.cnt≤1000:=by
 unfold zU;have ef:zv 40 (kfL ks).len 0 (ByteArray.size ⟨#[]⟩) l.len=decide (l.len=ks.length):=by
  rw [zdk];unfold zv yx zT ya;simp only [decide_eq_decide];rw [Bool.eq_iff_iff];simp only [Bool.and_eq_true,Bool.or_eq_true,decide_eq_true_eq];simp;constructor
  ·rintro ⟨_,h⟩;omega
  ·intro h;exact ⟨rfl,by omega⟩
 by_cases hl:l.len=ks.length
 ·rw [if_pos (show zv 40 (kfL ks).len (0,(⟨#[]⟩:ByteArray)).1 (ByteArray.size (0,(⟨#[]⟩:ByteArray)).2) l.len=true by exact ef.trans (decide_eq_true hl))];rw [show w64 (1001-1)=((1000:Nat):Int) by decide];exact (zdr h0 ks l 0 1000 rfl hl (by decide)).pos
 ·rw [if_neg (show ¬zv 40 (kfL ks).len (0,(⟨#[]⟩:ByteArray)).1 (ByteArray.size (0,(⟨#[]⟩:ByteArray)).2) l.len=true by
   intro h;exact hl (of_decide_eq_true (ef.symm.trans h)))]
  exact ⟨fun h=>absurd (by decide) h,fun h=>absurd (vm h.1) hl⟩
def nxK (form:ByteArray)(i:Nat):Nat:=if by_ form i=42 then i+2 else i+1
def ksM (form:ByteArray):Nat→Nat→List ByteArray
 | 0,_=>[]
 | f+1,i=>if i<form.size then form.extract i (nxK form i)::ksM form f (nxK form i) else []
def okK (form:ByteArray):Nat→Nat→Bool
 | 0,i=>decide (form.size≤i)
 | f+1,i=>decide (form.size≤i)||((yk (by_ form i)||(by_ form i==42&&(decide (i+1<form.size)&&yk (by_ form (i+1)))))&&okK form f (nxK form i))
structure xh (form:ByteArray)(ks:List ByteArray):Prop where
 size:form.size≤40
 ok:okK form 41 0=true
 cut:ksM form 41 0=ks
 parse:parseM form=some (kfL ks)
 kd: ∀s∈ks,kdOk s=true
theorem zaU (form:ByteArray): ∀f i:Nat,(ksM form f i).length≤f
 | 0,_=>Nat.le_refl _
 | f+1,i=>by
  unfold ksM;split
  ·rw [List.length_cons];have:=zaU form f (nxK form i);omega
  ·exact Nat.zero_le _
theorem xh.few {form:ByteArray}{ks:List ByteArray}(h:xh form ks):ks.length≤1000:=by
 rw [←h.cut];exact Nat.le_trans (zaU form 41 0) (by decide)
theorem zhS {form:ByteArray}{f i:Nat}(h:okK form (f+1) i=true)(hi:i<form.size):(yk (by_ form i)=true∨(by_ form i=42∧i+1<form.size∧yk (by_ form (i+1))=true))∧okK form f (nxK form i)=true:=by
 unfold okK at h;rw [Bool.or_eq_true,decide_eq_true_iff,Bool.and_eq_true,Bool.or_eq_true,Bool.and_eq_true,Bool.and_eq_true,decide_eq_true_iff,beq_iff_eq] at h;rcases h with h | h
 ·omega
 ·exact h
theorem zhT {form:ByteArray}{f i:Nat}(h:okK form f i=true)(hf:form.size<i+f+1)(hi: ¬i<form.size):ksM form f i=[]:=by
 cases f with
 | zero=>rfl
 | succ f=>unfold ksM;rw [if_neg hi]
theorem zhU {form:ByteArray}{f i:Nat}(h:okK form f i=true)(hi:i<form.size):∃g,f=g+1:=by
 cases f with
 | zero=>unfold okK at h;rw [decide_eq_true_iff] at h;omega
 | succ g=>exact ⟨g,rfl⟩
end Go.Proofs.YtbpmjppmpgeejaaGreatDoor
namespace Go.Proofs.YtbpmjppmpgeejaaGreatDoor
open Go Go.RowKit
open D2 (Gh)
set_option linter.unusedVariables false
def iS:Fl X3 where
 K:=3
 cs:=X3.cs
 pos:=by decide
 len _:=rfl
 one a:=fun u hu=>List.all_eq_true.1 (show (X3.cs a).all (·.oneCell')=true from rfl) u hu
theorem zdt: ∀L:List X3,cellsF iS L=cells3 L
 | []=>rfl
 | x::r=>by
  show X3.cs x++cellsF iS r=_;rw [zdt r];rfl
abbrev emB:ByteArray:=⟨#[]⟩
abbrev b3 (s:ByteArray):X3:=⟨false,s,none,0,0,.nil⟩
abbrev itV (x:X3):Value:=.agg #[.bool x.l,.string x.s,.slice x.p x.n x.c]
abbrev itO (x:X3):Obj:=.cells #[.bool x.l,.string x.s,.slice x.p x.n x.c] 83 (0,0)
abbrev jF (L:List X3):Obj:=.cells (cellsF iS L).toArray 83 (0,0)
theorem zhV (T:List (Nat×Obj))(s:ByteArray):yw T (b3 s).p (b3 s).n (b3 s).k:=⟨rfl,Nat.zero_le _,.inl rfl⟩
theorem zdu {α:Type}{S:Fl α}{P:Program}{ρ:Env}{w w0:World}{B:Nat}{bx n c m mc e:Nat}{p:Option Addr}{row Z:List (Nat×Obj)}{M0 M:List α}(HS:St B w0 w ((bx,.cells (cellsF S M).toArray e (0,0))::(row++Z)))(hrow:yN S e p n c row M0)
 {t bytes:Nat} {s x:Operand} {o:Oper} (ht:yl P t=some (e,S.K,bytes)) (ho:o.op=yi t s x) (hs:ev ρ s=.slice p n c) (hx:ev ρ x=.slice (some ⟨bx,0,none⟩) m mc) (hM:m=M.length) (h0:0<m) (hb:(n+m)*bytes≤0x800000000000) (hm:n+m≤maxLen):
 ∃b' cap' cur' w',(execOp (ev ρ) o).run P w=.ok (.value (.slice (some ⟨b',0,none⟩) (n+m) cap')) w'∧St B w0 w' ((b',.cells cur' e (0,0))::Z)∧Rw S.K cur' cap' (n+m) (cellsF S (M0++M)):=by
 have hx0:=HS.get 0 rfl;have hrw:Rw S.K (cellsF S M).toArray M.length M.length (cellsF S M):=⟨qQ M,Nat.le_refl _,by omega,by rw [List.toList_toArray,List.take_of_length_le (by rw [qQ];exact Nat.le_refl _)],by rw [List.size_toArray,qQ]⟩
 rw [kX];rcases hrow with ⟨rfl,rfl,rfl,rfl,rfl⟩ | ⟨b,cur,rfl,rfl,hr⟩
 ·obtain ⟨it,z,hu,hi,hz,hsz,hby,hzs,hz0⟩:=yU ht;have hnews: ∀q u,(cellsF S M)[q]? =some u→w.cell? ((⟨bx,0,none⟩:Addr).add q)=some u:=fun q u hq=>by
   rw [yT,Nat.zero_add];simp [World.cell?,hx0,hq]
  obtain ⟨v',w',hrun,hown,hgr,hnil,hblk⟩:=run_append_own_at (P:=P) w B t o.type e it z S.K bytes hu hi hz hsz hby hzs hz0 (.slice none 0 0) 0 [] (World.ownsRow_nil w B e S.K) ⟨bx,0,none⟩ m mc (cellsF S M) (by rw [qQ,hM]) hnews (zav M) hm hb HS.le;have hown':=hown;rcases hown'.2 with ⟨hv,_⟩|⟨g,cap',cur',rfl,hbg,hg,hnc,hcm,hcs,htk⟩
  ·exact absurd (hnil.1 hv).2 (by omega)
  ·have hgb:g=w.heap.size:=by
    rcases hblk with hq|hq
    ·simp [Value.ownBlock] at hq
    ·injection hq
   have hbel:Below w.heap.size w w':=(Below.refl _ w).grown hgr (Nat.le_refl _) (fun k hk=>by simp [Value.ownBlock] at hk);have HS':=HS.add hbel (by omega) hg;refine ⟨g,cap',cur',w',?_,HS'.sub (List.Sublist.cons_cons _ (List.sublist_cons_self ..)),⟨?_,hnc,hcm,htk,hcs⟩⟩
   ·unfold execOp;simp only [ho,yi,resolve,invoke,builtin,Sem.run_bind,Sem.run_pure,Result.andThen_ok,List.map_toArray,List.map_cons,List.map_nil,hs,hx,hrun]
   ·rw [Nat.zero_add,List.length_append,qQ,qQ,hM];simp
 ·obtain ⟨b',cap',cur',w',hrun,HS',hr'⟩:=zcl (S:=S) (M:=M) (j:=1) HS ht ho hs rfl hr hx hM (.inr ⟨bx,0,_,_,_,rfl,hx0,hrw.rowAt⟩) hb hm;exact ⟨b',cap',cur',w',hrun,HS'.sub (List.sublist_cons_self ..),hr'⟩
abbrev xlO (q:Option Addr)(n c:Nat):Obj:=.cells #[.bool true,.string emB,.slice q n c] 83 (0,0)
theorem zhW {w w':World}{b:Nat}{C:Array Value}{T:TypeId}{fz:Nat×Nat}(hh:w.heap[b]? =some (.cells C T fz))(hb:Below w.heap.size w w'):w'.heap[b]? =some (.cells C T fz):=by rw [hb.block b (zz hh)];exact hh
theorem zdv {P:Program}{ops:Array Oper}{k:Nat}{ρ:Env}{w:World}{S:Value→World→Prop}{t:TypeId}{x y:Operand}{b:Nat}{q:Option Addr}{n c:Nat}{q':Option Addr}{n' c':Nat}{T:TypeId}(h:opk ops k ρ=some (none,true,.store t x y))(hx:ev ρ x=.pointer (some ⟨b,2,none⟩))(hy:ev ρ y=.slice q' n' c')(hi:(P.info? t).map (·.size)=some 1)
 (hh:w.heap[b]? =some (.cells #[.bool true,.string emB,.slice q n c] T (0,0))) (hS:S undef (w.setRow b #[.bool true,.string emB,.slice q' n' c'])):∃o,ops[k]? =some o∧o.dst=none∧Region.wanted o (zI ops ρ)=true∧Runs P S ((execOp (ev ρ) o).run P w):=
 D2.run_sto (v:=.slice q' n' c') (C':=#[.bool true,.string emB,.slice q' n' c']) h hx hy hi kr hh (Nat.le_of_ble_eq_true kr) kr hS
theorem zhX {α:Type}(a b c d:List α):(a++(b++(c++d))).Perm (d++(a++(b++c))):=by
 rw [←List.append_assoc b c d,←List.append_assoc a (b++c) d];exact List.perm_append_comm
theorem zhY {α:Type}(a b z:List α):(a++(b++z)).Perm (b++(a++z)):=by
 rw [←List.append_assoc,←List.append_assoc];exact List.perm_append_comm.append_right z
theorem zdw {α:Type}(x:α)(tb bs z:List α):(x::(tb++(bs++z))).Perm (bs++x::(tb++z)):=(List.Perm.cons x (zhY tb bs z)).trans List.perm_middle.symm
theorem zdx {T T':List (Nat×Obj)}{M:List X3}(h:AllIn T M)(hs: ∀e∈T,e∈T'):AllIn T' M:=fun x hx=>⟨(h x hx).1.mono hs,(h x hx).2⟩
theorem zdy {T:List (Nat×Obj)}{M:List X3}{x:X3}(h:AllIn T M)(hx:yw T x.p x.n x.k)(hz:x.s.size≤0x800000000000):AllIn T (M++ [x]):=fun y hy=>by
 rcases List.mem_append.1 hy with hy|hy
 ·exact h y hy
 ·rw [List.mem_singleton.1 hy];exact ⟨hx,hz⟩
theorem zhZ {P:Program}{ρ:Env}{x:Operand}{o:Oper}{w:World}{b off n:Nat}{C W:Array Value}{T:TypeId}{fz:Nat×Nat}{t:TypeId}(ht:aggSize P t=some n)(hh:w.heap[b]? =some (.cells C T fz))(hs:off+n≤C.size)(hW:C.extract off (off+n)=W)(ho:o.op=.load t x)(hx:ev ρ x=.pointer (some ⟨b,off,none⟩)):
 (execOp (ev ρ) o).run P w=.ok (.value (.agg W)) w:=by
 have:=ju (P:=P) (w:=w) ht hh hs;rw [hW] at this;simp [execOp,ho,Instr.loadAt,Instr.sureAddr,hx,this]
end Go.Proofs.YtbpmjppmpgeejaaGreatDoor
namespace Go.Proofs.YtbpmjppmpgeejaaGreatDoor
open Go Go.RowKit
set_option linter.unusedVariables false
abbrev knd (g:Nat)(p:Option Addr)(n c:Nat):Value:=.agg #[.int .u8 (g:Int),.slice p n c]
abbrev fld (m:Nat)(s:ByteArray)(p:Option Addr)(n c:Nat):Value:=.agg #[.int .u64 (m:Int),.string s,.slice p n c]
theorem yo {P:Program}{ρ:Env}{t e:TypeId}{K bytes:Nat}(ht:yl P t=some (e,K,bytes)){x y:Operand}{o:Oper}{kd:IntKind}{p:Option Addr}(b q n c k:Nat)(hp:p=some ⟨b,q,none⟩)(ho:o.op=.indexAddr t x y)(hx:ev ρ x=.slice p n c)(hy:ev ρ y=.int kd (k:Int))(hk:k<n):
 ∀w,(execOp (ev ρ) o).run P w=.ok (.value (.pointer (some ⟨b,q+k*K,none⟩))) w:=by
 subst hp;exact jc ht b q n c k ho hx hy hk
def xi (B:Nat)(w:World)(g:Nat)(p:Option Addr)(n i g':Nat)(p':Option Addr)(n' c':Nat):Prop:=
 (n≤(if g=42 then 0 else i)∧g'=0∧p'=none∧n'=0∧c'=0)∨
 ((if g=42 then 0 else i)<n∧∃b off C T fz,p=some ⟨b,off,none⟩∧b<B∧w.heap[b]? =some (.cells C T fz)∧off+(if g=42 then 0 else i)*2+2≤C.size∧C.extract (off+(if g=42 then 0 else i)*2) (off+(if g=42 then 0 else i)*2+2)=#[.int .u8 (g':Int),.slice p' n' c'])
theorem xi.up {B B':Nat}{w w':World}{g:Nat}{p:Option Addr}{n i g':Nat}{p':Option Addr}{n' c':Nat}(h:xi B w g p n i g' p' n' c')(hb:Below B w w')(hB:B≤B'):xi B' w' g p n i g' p' n' c':=by
 rcases h with h|⟨h0,b,off,C,T,fz,h1,h2,h3,h4⟩
 ·exact .inl h
 ·exact .inr ⟨h0,b,off,C,T,fz,h1,Nat.lt_of_lt_of_le h2 hB,by rw [hb.block b h2];exact h3,h4⟩
theorem SlR.kid {B:Nat}{w:World}{p:Option Addr}{n:Nat}{k:Kf}(h:SlR kS B w p n k)(g i:Nat):∃g' p' n' c',xi B w g p n i g' p' n' c'∧SlR kS B w p' n' (zA g k i).2∧g'=(zA g k i).1:=by
 unfold zA xi;generalize (if g=42 then 0 else i)=j;rcases Nat.lt_or_ge j n with hj | hj
 ·obtain ⟨a,q,ha⟩:=Fr.at_some (k:=k) (i:=j) (by rw [←h.1];exact hj);rcases h.2.2 with rfl|⟨b,off,rfl,hA⟩
  ·simp [Fr.at] at ha
  ·obtain ⟨C,T,fz,p',n',c',h1,h2,h3,h4,h5,h6⟩:=hA.at ha;rw [ha];exact ⟨a,p',n',c',.inr ⟨hj,b,off,C,T,fz,rfl,h1,h2,h3,h4⟩,h6,rfl⟩
 ·rw [Fr.at_none (by rw [←h.1];exact hj)];exact ⟨0,none,0,0,.inl ⟨hj,rfl,rfl,rfl,rfl⟩,SlR.nil _ _ _,rfl⟩
theorem zdz (g:Nat)(p:Option Addr)(n c i g':Nat)(p':Option Addr)(n' c':Nat):FnP Tryz.prog 94 #[knd g p n c,.int .i64 (i:Int)] (fun w=>xi w.heap.size w g p n i g' p' n' c') (knd g' p' n' c'):=by
 refine FnP.intro (c:=zk Tryz.f94) [.cell 4 62] 19 Tryz.func94 kr kr kr fun w hpre=>?_;have H0:=St.start w;refine rS [.b,.a] H0 kr fun gs1 w1 H1=>?_;clear H0;unfold xi at hpre;by_cases hg:g=42
 ·rw [if_pos hg] at hpre;refine zb kr<|rS [.v,.l 0,.E (.bool ((g:Int)==42)) (.bool true) (za (beq_iff_eq.2 (by omega)))] H1 kr fun gs2 w2 H2=>?_;clear H1;refine zi kr kr<|rL [.v] H2 kr fun gs3 w3 H3=>wW ?_;rcases hpre with ⟨hj,rfl,rfl,rfl,rfl⟩ | ⟨hj,b,off,C,T,fz,hp,hb,hh,hz,hx⟩
  ·refine zb kr<|rS [.v,.v,.l 0,.v,.E (.bool (decide ((n:Int)≤((0:Nat):Int)))) (.bool true) (za (decide_eq_true (by omega)))] H3 kr fun gs4 w4 H4=>zi kr kr<|rS [.v,.s 1] H4 kr fun gs5 w5 H5=>?_;exact rR [.cell 4 62] [1] (knd 0 none 0 0) H5 kr
  ·refine zb kr<|rS [.v,.v,.l 0,.v,.E (.bool (decide ((n:Int)≤((0:Nat):Int)))) (.bool false) (za (decide_eq_false (by omega)))] H3 kr fun gs4 w4 H4=>zh kr kr<|zj kr<|wW<|rS [.v,.l 0,.v,.o (ins:=[((.tmp 15),.slice p n c),((.tmp 16),.int .i64 ((0:Nat):Int))]) (v:=.pointer (some ⟨b,off+0*2,none⟩)) (fun ρ o w ho hi=>yo (kd:=.i64) (t:=60) (e:=62) (K:=2) (bytes:=32) kr (x:=(.tmp 15)) (y:=(.tmp 16)) b off n c 0 hp ho hi.1 hi.2.1 (by omega) w),.fp (off:=off+0*2) (n:=2) (W:=#[.int .u8 (g':Int),.slice p' n' c']) hh hb hz hx,.s 1] H4 kr fun gs5 w5 H5=>?_;exact rR [.cell 4 62] [1] (knd g' p' n' c') H5 kr
 ·rw [if_neg hg] at hpre;refine zb kr<|rS [.v,.l 0,.E (.bool ((g:Int)==42)) (.bool false) (za (beq_eq_false_iff_ne.2 (by omega)))] H1 kr fun gs2 w2 H2=>?_;clear H1;refine zh kr kr<|zj kr ?_;have H3:=H2;refine wW ?_;rcases hpre with ⟨hj,rfl,rfl,rfl,rfl⟩ | ⟨hj,b,off,C,T,fz,hp,hb,hh,hz,hx⟩
  ·refine zb kr<|rS [.v,.v,.l 0,.v,.E (.bool (decide ((n:Int)≤(i:Int)))) (.bool true) (za (decide_eq_true (by omega)))] H3 kr fun gs4 w4 H4=>zi kr kr<|rS [.v,.s 1] H4 kr fun gs5 w5 H5=>?_;exact rR [.cell 4 62] [1] (knd 0 none 0 0) H5 kr
  ·refine zb kr<|rS [.v,.v,.l 0,.v,.E (.bool (decide ((n:Int)≤(i:Int)))) (.bool false) (za (decide_eq_false (by omega)))] H3 kr fun gs4 w4 H4=>zh kr kr<|zj kr<|wW<|rS [.v,.l 0,.v,.o (ins:=[((.tmp 15),.slice p n c),((.tmp 16),.int .i64 (i:Int))]) (v:=.pointer (some ⟨b,off+i*2,none⟩)) (fun ρ o w ho hi=>yo (kd:=.i64) (t:=60) (e:=62) (K:=2) (bytes:=32) kr (x:=(.tmp 15)) (y:=(.tmp 16)) b off n c i hp ho hi.1 hi.2.1 (by omega) w),.fp (off:=off+i*2) (n:=2) (W:=#[.int .u8 (g':Int),.slice p' n' c']) hh hb hz hx,.s 1] H4 kr fun gs5 w5 H5=>?_;exact rR [.cell 4 62] [1] (knd g' p' n' c') H5 kr
theorem zdA (a b n:Nat):Fn Tryz.prog 124 #[.agg #[.int .i64 (a:Int),.int .i64 (b:Int)],.int .i64 (n:Int)] (.bool (yx (a,b) n)):=by
 refine Fn.intro (c:=zk Tryz.f124) [.tmp 4] 15 Tryz.func124 kr kr kr fun w=>?_;have H0:=St.start w;refine rS [.b,.v] H0 kr fun gs1 w1 H1=>?_;clear H0;by_cases h1:a≤n
 ·by_cases h2:n≤b
  ·refine rS [.v,.l 0,.v,.E (.bool (decide ((a:Int)≤(n:Int)))) (.bool true) (za (decide_eq_true (by omega))),.v,.v,.v,.l 0,.E (.bool (decide ((n:Int)≤(b:Int)))) (.bool true) (za (decide_eq_true (by omega))),.v,.v] H1 kr fun gs2 w2 H2=>?_;exact rRe [.tmp 4] [] (v:=.bool true) (v':=.bool (yx (a,b) n)) H2 (za (by unfold yx;simp [h1,h2])) kr
  ·refine rS [.v,.l 0,.v,.E (.bool (decide ((a:Int)≤(n:Int)))) (.bool true) (za (decide_eq_true (by omega))),.v,.v,.v,.l 0,.E (.bool (decide ((n:Int)≤(b:Int)))) (.bool false) (za (decide_eq_false (by omega))),.v,.v] H1 kr fun gs2 w2 H2=>?_;exact rRe [.tmp 4] [] (v:=.bool false) (v':=.bool (yx (a,b) n)) H2 (za (by unfold yx;simp [h1,h2])) kr
 ·refine rS [.v,.l 0,.v,.E (.bool (decide ((a:Int)≤(n:Int)))) (.bool false) (za (decide_eq_false (by omega))),.v,.n,.n,.n,.n,.v,.v] H1 kr fun gs2 w2 H2=>?_;exact rRe [.tmp 4] [] (v:=.bool false) (v':=.bool (yx (a,b) n)) H2 (za (by unfold yx;simp [h1])) kr
theorem ur (g:Nat)(p:Option Addr)(n c:Nat):Fn Tryz.prog 123 #[knd g p n c] (.agg #[.int .i64 (((zT g).1:Nat):Int),.int .i64 (((zT g).2:Nat):Int)]):=by
 refine Fn.intro (c:=zk Tryz.f123) [.cell 2 156] 18 Tryz.func123 kr kr kr fun w=>?_;have H0:=St.start w;refine rS [.b,.a] H0 kr fun gs1 w1 H1=>?_;clear H0;refine rS [.v,.l 0] H1 kr fun gs2 w2 H2=>?_;clear H1;refine zn 0 kr ?_;by_cases h104:g=104
 ·refine rS [.E (.bool ((g:Int)==104)) (.bool true) (za (beq_iff_eq.2 (by omega))),.v] H2 kr fun gsa104 wa104 Ha104=>zi kr kr<|rS [.v,.s 1] Ha104 kr fun gsb104 wb104 Hb104=>?_;exact rRe [.cell 2 156] [1] (v:=.agg #[.int .i64 32,.int .i64 32]) (v':=.agg #[.int .i64 (((zT g).1:Nat):Int),.int .i64 (((zT g).2:Nat):Int)]) Hb104 (by unfold zT;simp [h104]) kr
 ·refine rS [.E (.bool ((g:Int)==104)) (.bool false) (za (beq_eq_false_iff_ne.2 (by omega))),.v] H2 kr fun gsc104 wc104 Hc104=>zh kr kr ?_;by_cases h97:g=97
  ·refine rS [.E (.bool ((g:Int)==97)) (.bool true) (za (beq_iff_eq.2 (by omega))),.v] Hc104 kr fun gsa97 wa97 Ha97=>zi kr kr<|rS [.v,.s 1] Ha97 kr fun gsb97 wb97 Hb97=>?_;exact rRe [.cell 2 156] [1] (v:=.agg #[.int .i64 20,.int .i64 20]) (v':=.agg #[.int .i64 (((zT g).1:Nat):Int),.int .i64 (((zT g).2:Nat):Int)]) Hb97 (by unfold zT;simp [h97]) kr
  ·refine rS [.E (.bool ((g:Int)==97)) (.bool false) (za (beq_eq_false_iff_ne.2 (by omega))),.v] Hc104 kr fun gsc97 wc97 Hc97=>zh kr kr ?_;by_cases h115:g=115
   ·refine rS [.E (.bool ((g:Int)==115)) (.bool true) (za (beq_iff_eq.2 (by omega))),.v] Hc97 kr fun gsa115 wa115 Ha115=>zi kr kr<|rS [.v,.s 1] Ha115 kr fun gsb115 wb115 Hb115=>?_;exact rRe [.cell 2 156] [1] (v:=.agg #[.int .i64 65,.int .i64 65]) (v':=.agg #[.int .i64 (((zT g).1:Nat):Int),.int .i64 (((zT g).2:Nat):Int)]) Hb115 (by unfold zT;simp [h115]) kr
   ·refine rS [.E (.bool ((g:Int)==115)) (.bool false) (za (beq_eq_false_iff_ne.2 (by omega))),.v] Hc97 kr fun gsc115 wc115 Hc115=>zh kr kr ?_;by_cases h98:g=98
    ·refine rS [.E (.bool ((g:Int)==98)) (.bool true) (za (beq_iff_eq.2 (by omega))),.v] Hc115 kr fun gsa98 wa98 Ha98=>zi kr kr<|rS [.v,.s 1] Ha98 kr fun gsb98 wb98 Hb98=>?_;exact rRe [.cell 2 156] [1] (v:=.agg #[.int .i64 0,.int .i64 64]) (v':=.agg #[.int .i64 (((zT g).1:Nat):Int),.int .i64 (((zT g).2:Nat):Int)]) Hb98 (by unfold zT;simp [h98]) kr
    ·refine rS [.E (.bool ((g:Int)==98)) (.bool false) (za (beq_eq_false_iff_ne.2 (by omega))),.v] Hc115 kr fun gsc98 wc98 Hc98=>zh kr kr<|rS [.v,.s 1] Hc98 kr fun gsz wz Hz=>?_;exact rRe [.cell 2 156] [1] (v:=.agg #[.int .i64 0,.int .i64 0]) (v':=.agg #[.int .i64 (((zT g).1:Nat):Int),.int .i64 (((zT g).2:Nat):Int)]) Hz (by unfold zT;simp [h104,h97,h115,h98]) kr
theorem zdB (g:Nat)(p:Option Addr)(n c:Nat):Fn Tryz.prog 125 #[knd g p n c] (.agg #[.int .i64 (((ya g n).1:Nat):Int),.int .i64 (((ya g n).2:Nat):Int)]):=by
 refine Fn.intro (c:=zk Tryz.f125) [.cell 2 156] 18 Tryz.func125 kr kr kr fun w=>?_;have H0:=St.start w;refine rS [.b,.a] H0 kr fun gs1 w1 H1=>?_;clear H0;refine rS [.v,.l 0] H1 kr fun gs2 w2 H2=>?_;clear H1;refine zn 0 kr ?_;by_cases h40:g=40
 ·refine rS [.E (.bool ((g:Int)==40)) (.bool true) (za (beq_iff_eq.2 (by omega))),.v] H2 kr fun gsa40 wa40 Ha40=>zi kr kr<|rS [.v,.l 0,.v,.v,.l 0,.v,.v,.s 1] Ha40 kr fun gsb40 wb40 Hb40=>?_;exact rRe [.cell 2 156] [1] (v:=.agg #[.int .i64 (n:Int),.int .i64 (n:Int)]) (v':=.agg #[.int .i64 (((ya g n).1:Nat):Int),.int .i64 (((ya g n).2:Nat):Int)]) Hb40 (by unfold ya;simp [h40]) kr
 ·refine rS [.E (.bool ((g:Int)==40)) (.bool false) (za (beq_eq_false_iff_ne.2 (by omega))),.v] H2 kr fun gsc40 wc40 Hc40=>zh kr kr ?_;by_cases h42:g=42
  ·refine rS [.E (.bool ((g:Int)==42)) (.bool true) (za (beq_iff_eq.2 (by omega))),.v] Hc40 kr fun gsa42 wa42 Ha42=>zi kr kr<|rS [.v,.s 1] Ha42 kr fun gsb42 wb42 Hb42=>?_;exact rRe [.cell 2 156] [1] (v:=.agg #[.int .i64 0,.int .i64 40]) (v':=.agg #[.int .i64 (((ya g n).1:Nat):Int),.int .i64 (((ya g n).2:Nat):Int)]) Hb42 (by unfold ya;simp [h42]) kr
  ·refine rS [.E (.bool ((g:Int)==42)) (.bool false) (za (beq_eq_false_iff_ne.2 (by omega))),.v] Hc40 kr fun gsc42 wc42 Hc42=>zh kr kr<|rS [.v,.s 1] Hc42 kr fun gsz wz Hz=>?_;exact rRe [.cell 2 156] [1] (v:=.agg #[.int .i64 0,.int .i64 0]) (v':=.agg #[.int .i64 (((ya g n).1:Nat):Int),.int .i64 (((ya g n).2:Nat):Int)]) Hz (by unfold ya;simp [h40,h42]) kr
theorem zdC (g:Nat)(p:Option Addr)(n c m:Nat)(s:ByteArray)(p2:Option Addr)(n2 c2:Nat):Fn Tryz.prog 100 #[knd g p n c,fld m s p2 n2 c2] (.bool (zv g n m s.size n2)):=by
 refine Fn.intro (c:=zk Tryz.f100) [.tmp 4] 29 Tryz.func100 kr kr kr fun w=>?_;have H0:=St.start w;refine rS [.b,.b,.v] H0 kr fun gs1 w1 H1=>?_;clear H0;have hv:zv g n m s.size n2=((decide (m=0)||decide (g=110))&&(yx (zT g) s.size&&yx (ya g n) n2)):=rfl;obtain ⟨x1,hx1⟩:∃x,yx (zT g) s.size=x:=⟨_,rfl⟩
 obtain ⟨x2,hx2⟩:∃x,yx (ya g n) n2=x:=⟨_,rfl⟩
 have c1:Fn Tryz.prog 124 #[.agg #[.int .i64 (((zT g).1:Nat):Int),.int .i64 (((zT g).2:Nat):Int)],.int .i64 (s.size:Int)] (.bool x1):=hx1▸zdA _ _ _;have c2:Fn Tryz.prog 124 #[.agg #[.int .i64 (((ya g n).1:Nat):Int),.int .i64 (((ya g n).2:Nat):Int)],.int .i64 (n2:Int)] (.bool x2):=hx2▸zdA _ _ _;rw [hx1,hx2] at hv;rw [hv];clear hv hx1 hx2;by_cases hm:m=0
 ·skip;cases x1 with
  | true=>
   refine dS [.v,.l 1,.E (.bool ((m:Int)==0)) (.bool true) (za (beq_iff_eq.2 (by omega))),.v,.n,.n,.n,.v,.v,.l 0,.c (ur g p n c),.v,.l 1,.v,.c c1,.v,.v,.l 0,.c (zdB g p n c),.v,.l 1,.v,.c c2,.v,.v] H1 kr fun w2 H2=>?_;exact rRe [.tmp 4] [] (v:=.bool x2) (v':=.bool ((decide (m=0)||decide (g=110))&&(true&&x2))) H2 (za (by simp [hm])) kr
  | false=>
   refine dS [.v,.l 1,.E (.bool ((m:Int)==0)) (.bool true) (za (beq_iff_eq.2 (by omega))),.v,.n,.n,.n,.v,.v,.l 0,.c (ur g p n c),.v,.l 1,.v,.c c1,.v,.v,.n,.n,.n,.n,.n,.n,.v,.v] H1 kr fun w2 H2=>?_;exact rRe [.tmp 4] [] (v:=.bool false) (v':=.bool ((decide (m=0)||decide (g=110))&&(false&&x2))) H2 (za (by simp [hm])) kr
 ·by_cases hg:g=110
  ·skip;cases x1 with
   | true=>
    refine dS [.v,.l 1,.E (.bool ((m:Int)==0)) (.bool false) (za (beq_eq_false_iff_ne.2 (by omega))),.v,.v,.l 0,.E (.bool ((g:Int)==110)) (.bool true) (za (beq_iff_eq.2 (by omega))),.v,.v,.l 0,.c (ur g p n c),.v,.l 1,.v,.c c1,.v,.v,.l 0,.c (zdB g p n c),.v,.l 1,.v,.c c2,.v,.v] H1 kr fun w2 H2=>?_;exact rRe [.tmp 4] [] (v:=.bool x2) (v':=.bool ((decide (m=0)||decide (g=110))&&(true&&x2))) H2 (za (by simp [hm,hg])) kr
   | false=>
    refine dS [.v,.l 1,.E (.bool ((m:Int)==0)) (.bool false) (za (beq_eq_false_iff_ne.2 (by omega))),.v,.v,.l 0,.E (.bool ((g:Int)==110)) (.bool true) (za (beq_iff_eq.2 (by omega))),.v,.v,.l 0,.c (ur g p n c),.v,.l 1,.v,.c c1,.v,.v,.n,.n,.n,.n,.n,.n,.v,.v] H1 kr fun w2 H2=>?_;exact rRe [.tmp 4] [] (v:=.bool false) (v':=.bool ((decide (m=0)||decide (g=110))&&(false&&x2))) H2 (za (by simp [hm,hg])) kr
  ·refine dS [.v,.l 1,.E (.bool ((m:Int)==0)) (.bool false) (za (beq_eq_false_iff_ne.2 (by omega))),.v,.v,.l 0,.E (.bool ((g:Int)==110)) (.bool false) (za (beq_eq_false_iff_ne.2 (by omega))),.v,.v,.n,.n,.n,.n,.n,.n,.v,.v,.n,.n,.n,.n,.n,.n,.v,.v] H1 kr fun w2 H2=>?_;exact rRe [.tmp 4] [] (v:=.bool false) (v':=.bool ((decide (m=0)||decide (g=110))&&(x1&&x2))) H2 (za (by simp [hm,hg])) kr
def Fr.sub {α:Type}(p:Fr α→Prop):Fr α→Prop
 | .nil=>True
 | .cons a k r=>p k∧r.sub p
theorem Fr.induct {α:Type}{p:Fr α→Prop}(h: ∀l:Fr α,l.sub p→p l): ∀l:Fr α,p l∧l.sub p
 | .nil=>⟨h .nil trivial,trivial⟩
 | .cons a k r=>⟨h _ ⟨(Fr.induct h k).1,(Fr.induct h r).2⟩,(Fr.induct h k).1,(Fr.induct h r).2⟩
def us (l:Fe):Prop:= ∀(g:Nat) (p:Option Addr) (n c:Nat) (b:Kf) (m:Nat) (s:ByteArray) (p2:Option Addr) (n2 c2:Nat) (room:Int),
 FnP Tryz.prog 64 #[knd g p n c,fld m s p2 n2 c2,.int .i64 room] (fun w=>SlR kS w.heap.size w p n b∧SlR fS w.heap.size w p2 n2 l) (.int .i64 (zU g b (m,s) l room))
theorem zh0 (l:Fe)(hs:l.sub us):us l:=by
 intro g p n c b m s p2 n2 c2 room;refine FnP.intro (c:=zk Tryz.f64) [.tmp 6] 34 Tryz.func64 kr kr kr fun w hpre=>?_;have H0:=St.start w;obtain ⟨hK,hF⟩:=hpre;have hn2:=hF.1;have hnm:n2≤0x800000000000:=hF.2.1;unfold zU;rw [←hK.1,←hF.1];refine rS [.b,.b,.v] H0 kr fun gs1 w1 H1=>?_;clear H0;refine zb kr ?_;cases hf:zv g n m s.size n2 with
 | false=>
  rw [if_neg (by decide)];refine rS [.l 0,.l 1,.c (zdC g p n c m s p2 n2 c2),.E (.bool (!(zv g n m s.size n2))) (.bool true) (za (by rw [hf];rfl))] H1 kr fun gs2 w2 H2=>zi kr kr<|rS [.v] H2 kr fun gs3 w3 H3=>?_;exact rR [.tmp 6] [] (.int .i64 (-1)) H3 kr
 | true=>
  rw [if_pos rfl];refine rS [.l 0,.l 1,.c (zdC g p n c m s p2 n2 c2),.E (.bool (!(zv g n m s.size n2))) (.bool false) (za (by rw [hf];rfl))] H1 kr fun gs2 w2 H2=>zh kr kr<|zj kr<|wW<|rS [.v,.E (.int .i64 (IntKind.i64.wrap (room-1))) (.int .i64 (w64 (room-1))) rfl,.v] H2 kr fun gs3 w3 H3=>zb kr<|rS [.v,.l 1,.v,.v] H3 kr fun gs4 w4 H4=>zn 0 kr ?_;have H5:St w.heap.size w w4 [((gs1 0).b,.cells #[.int .u8 (g:Int),.slice p n c] 62 (0,0)),((gs1 1).b,.cells #[.int .u64 (m:Int),.string s,.slice p2 n2 c2] 44 (0,0))]:=H4.as kr;clear H1 H2 H3 H4;refine zG kr (fun mz ρ ww=> ∃(i:Nat) (r:Fe) (v:Int),n2-i=mz∧FrR fS w.heap.size w p2 i r∧i+r.len=n2∧r.sub us∧yP l g b 0 (w64 (room-1))=yP r g b i v∧St w.heap.size w ww [((gs1 0).b,.cells #[.int .u8 (g:Int),.slice p n c] 62 (0,0)),((gs1 1).b,.cells #[.int .u64 (m:Int),.string s,.slice p2 n2 c2] 44 (0,0))]∧Is [(2,.int .i64 v),(3,.pointer (some ⟨(gs1 0).b,0,none⟩)),(16,.slice p2 n2 c2),(17,.int .i64 (n2:Int)),(18,.int .i64 (i:Int))] ρ) (n2-0) ⟨0,l,_,rfl,hF.start,by omega,hs,rfl,H5,(Is.of ⟨kr,kr,kr,kr,kr,trivial⟩)⟩ ?_;clear H5;rintro _ _ w5 ⟨i,r,v,rfl,hR,hN,hsub,hv,H6,_,rfl⟩;by_cases hi:i<n2
  ·refine rS [.E (.bool (decide ((i:Int)<(n2:Int)))) (.bool true) (za (decide_eq_true (by omega)))] H6 kr fun gs5 w6 H7=>?_;clear H6;refine zb kr<|zi kr kr<|zj kr<|wW<|zb kr<|zn 1 kr ?_;obtain ⟨⟨m1,s1⟩,k1,r1,b1,off1,C1,T1,fz1,p1,n1,c1,hr1,hp1,hb1,hh1,hs1,hx1,hz1,hk1,hR1,hN1⟩:=FrR.open hR hN hi;obtain ⟨g',p',n',c',hK1,hK2,hg'⟩:=hK.kid g i;subst hr1;refine rS [.v,.o (ins:=[((.tmp 16),.slice p2 n2 c2),((.tmp 18),.int .i64 (i:Int))]) (v:=.pointer (some ⟨b1,off1+i*3,none⟩)) (fun ρ o w ho hi2=>yo (kd:=.i64) (t:=41) (e:=44) (K:=3) (bytes:=48) kr (x:=(.tmp 16)) (y:=(.tmp 18)) b1 off1 n2 c2 i hp1 ho hi2.1 hi2.2.1 (by omega) w),.fp (off:=off1+i*3) (n:=3) (W:=#[.int .u64 (m1:Int),.string s1,.slice p1 n1 c1]) hh1 hb1 hs1 hx1,.a,.v,.s 2] H7 kr fun gs6 w7 H8=>?_;clear H7;refine dS [.l 0,.v,.cp (pre:=fun w=>xi w.heap.size w g p n i g' p' n' c') (zdz g p n c i g' p' n' c') [] (fun w hb hd=>hK1.up hb hb.size),.l 2,.v,.cp (pre:=fun w=>SlR kS w.heap.size w p' n' (zA g b i).2∧SlR fS w.heap.size w p1 n1 k1) (hsub.1 g' p' n' c' (zA g b i).2 m1 s1 p1 n1 c1 v) [] (fun w hb hd=>⟨hK2.call hb,hk1.call hb⟩),.v] H8 kr fun w8 H9=>?_;clear H8;rw [un,←hg'] at hv;by_cases hv0:zU g' (zA g b i).2 (m1,s1) k1 v<0
   ·rw [if_pos hv0] at hv;refine rS [.v,.E (.bool (decide (zU g' (zA g b i).2 (m1,s1) k1 v<0))) (.bool true) (za (decide_eq_true hv0))] H9 kr fun gs7 w9 H10=>zi kr kr<|rS [.v,.v] H10 kr fun gs8 w10 H11=>?_;exact rRe [.tmp 6] [] (v:=.int .i64 (zU g' (zA g b i).2 (m1,s1) k1 v)) (v':=.int .i64 (yP l g b 0 (w64 (room-1)))) H11 (zd hv.symm) kr
   ·rw [if_neg hv0] at hv;refine rS [.v,.E (.bool (decide (zU g' (zA g b i).2 (m1,s1) k1 v<0))) (.bool false) (za (decide_eq_false hv0))] H9 kr fun gs7 w9 H10=>zh kr kr<|zj kr<|wW<|rL [.E (.int .i64 (IntKind.i64.wrap ((i:Int)+1))) (.int .i64 ((i+1:Nat):Int)) (zd (zq (a:=i) (b:=1) (by omega))),.v] H10 kr fun gs8 w10 H11=>?_;have H12:St w.heap.size w w10 [((gs1 0).b,.cells #[.int .u8 (g:Int),.slice p n c] 62 (0,0)),((gs1 1).b,.cells #[.int .u64 ((m:Nat):Int),.string s,.slice p2 n2 c2] 44 (0,0)),((gs6 3).b,.cells #[.int .u64 (m1:Int),.string s1,.slice p1 n1 c1] 44 (0,0))]:=H11.as kr;show ∃m,_∧_;exact ⟨_,(by omega),i+1,r1,_,rfl,hR1,hN1,hsub.2,hv,H12.sub (List.Sublist.cons_cons _ (List.Sublist.cons_cons _ (List.nil_sublist _))),(Is.of ⟨kr,kr,kr,kr,kr,trivial⟩)⟩
  ·obtain rfl:=FrR.done hN hi;refine rS [.E (.bool (decide ((i:Int)<(n2:Int)))) (.bool false) (za (decide_eq_false (by omega)))] H6 kr fun gs5 w6 H7=>zb kr<|zh kr kr<|zy 0 kr<|wW<|rS [.v,.v] H7 kr fun gs6 w7 H8=>?_;exact rRe [.tmp 6] [] (v:=.int .i64 v) (v':=.int .i64 (yP l g b 0 (w64 (room-1)))) H8 (zd hv.symm) kr
theorem zdD (l:Fe):us l:=(Fr.induct zh0 l).1
structure jG (C:Array Value)(n i:Nat)(M:List X3):Prop where
 sz:C.size=n*3
 len:M.length=i
 take:C.toList.take (i*3)=cells3 M
theorem jG.start {C:Array Value}{n:Nat}(h:C.size=n*3):jG C n 0 []:=⟨h,rfl,by simp [cells3]⟩
theorem jG.put {C:Array Value}{n i:Nat}{M:List X3}(h:jG C n i M)(x:X3)(hi:i<n):
 0+i*3+(Value.agg (xc x)).cells.size≤C.size∧jG (C.toList.take (0+i*3)++(Value.agg (xc x)).cells.toList++C.toList.drop (0+i*3+(Value.agg (xc x)).cells.size)).toArray n (i+1) (M++ [x]):=by
 have hc:(Value.agg (xc x)).cells=xc x:=rfl;have h3:(xc x).size=3:=rfl;have hl3:(xc x).toList.length=3:=rfl;have hsz:=h.sz;rw [hc,h3,Nat.zero_add];have hle:i*3+3≤C.size:=by omega
 refine ⟨hle,?_,by rw [List.length_append,h.len];rfl,?_⟩
 ·simp only [List.size_toArray,List.length_append,List.length_take,List.length_drop,Array.length_toList,hl3];omega
 ·have e1:(C.toList.take (i*3)).length=i*3:=by rw [List.length_take,Array.length_toList];omega
  have e2:(C.toList.take (i*3)).take (i*3+3)=C.toList.take (i*3):=List.take_of_length_le (by omega);have e3:(xc x).toList.take 3=(xc x).toList:=rfl;rw [show (i+1)*3=i*3+3 by omega,List.toList_toArray,List.append_assoc,List.take_append,e1,e2,Nat.add_sub_cancel_left,List.take_append,hl3,Nat.sub_self,List.take_zero,List.append_nil,e3,zaR,h.take];rfl
theorem jG.done {C:Array Value}{n:Nat}{M:List X3}(h:jG C n n M)(hm:n≤maxLen):Rw 3 C n n (cells3 M):=⟨by rw [xJ,h.len],Nat.le_refl _,hm,h.take,h.sz⟩
theorem zh1 (n c:Nat)(L:List X3)(h0:n=0):FnR Tryz.prog 132 #[.slice none n c] (fun w=>n=List.length L∧qG w none L) (vk 83 (fun v=>v) n L):=by
 refine FnR.intro (c:=zk Tryz.f132) [.tmp 2] 8 Tryz.func132 kr kr kr fun w hpre=>?_;have H0:=St.start w;refine rS [.v] H0 kr fun gs1 w1 H1=>?_;clear H0;refine zb kr<|rS [.v,.v] H1 kr fun gs2 w2 H2=>?_;clear H1;refine zi kr kr<|rS [.v] H2 kr fun gs3 w3 H3=>?_;clear H2;refine zm kr<|wV ?_;refine ⟨[.slice none 0 0],(.tmp (.slice none 0 0) kr .nil),H3.below,?_⟩;exact Or.inl ⟨h0,rfl⟩
theorem zh2 (a:Addr)(n c:Nat)(L:List X3)(hn8:n≤2000000000000):FnR Tryz.prog 132 #[.slice (some a) n c] (fun w=>n=List.length L∧qG w (some a) L) (vk 83 (fun v=>v) n L):=by
 refine FnR.intro (c:=zk Tryz.f132) [.tmp 2] 8 Tryz.func132 kr kr kr fun w hpre=>?_;have H0:=St.start w;refine rS [.v] H0 kr fun gs1 w1 H1=>?_;clear H0;refine zb kr<|rS [.v,.v] H1 kr fun gs2 w2 H2=>?_;clear H1;refine zh kr kr<|zj kr<|wW<|zg [0,1,2,3] kr kr<|rp [.nw (fun b=>.slice (some ⟨b,0,none⟩) 0 0) #[] 83,.v] H2 kr fun gs3 w3 H3=>wX [2,3] ?_;clear H2;have HL1:St w.heap.size w w3 [((gs3 0).b,Obj.cells #[] 83 (0,0))]:=H3.as kr;clear H3;refine zhQ HL1 (some 7) 81 83 48 (.tmp 5) (.tmp 6) 0 ((gs3 0).b) 0 n 0 c (some a) #[] [] L (fun b_1 cur_3=>[(b_1,Obj.cells cur_3 83 (0,0))]) kr kr kr kr kr (Rw.lit #[] 0 (by rfl) (by unfold maxLen;omega)) kr hpre.1 (fun h=>nomatch h) (qG.up hpre.2 HL1.below) (by omega) (by unfold maxLen;omega) (fun _ _=>by kernel_rfl) ?_;intro b_1 cap_2 cur_3 w4 H4 hr_4;clear HL1;rw [Nat.zero_add] at hr_4;refine zP 7 (v:=.slice (some ⟨b_1,0,none⟩) (0+n) cap_2) (v':=.slice (some ⟨b_1,0,none⟩) n cap_2) (by rw [Nat.zero_add]) kr<|rp [.v] H4 kr fun gs5 w5 H5=>wX [] ?_;clear H4;refine zc<|zm kr<|wV ?_;refine ⟨[.slice (some ⟨b_1,0,none⟩) n cap_2],(.tmp (.slice (some ⟨b_1,0,none⟩) n cap_2) kr .nil),H5.below,?_⟩;exact Or.inr ⟨b_1,cap_2,_,rfl,H5.ge 0 (o:=.cells cur_3 83 (0,0)) kr,H5.get 0 kr,hr_4⟩
theorem zh3 (p:Option Addr)(n c:Nat)(L:List X3)(hn8:n≤2000000000000):FnR Tryz.prog 132 #[.slice p n c] (fun w=>n=List.length L∧qG w p L) (vk 83 (fun v=>v) n L):=fun w hp=>by
 cases p with
 | none=>
  have h0:n=0:=by
   rcases hp.2 with h|⟨b,off,e,_⟩
   ·rw [hp.1,h];rfl
   ·cases e
  exact zh1 n c L h0 w hp
 | some a=>exact zh2 a n c L hn8 w hp
theorem zh4 (p:Option Addr)(n c:Nat)(L:List X3)(hn8:n≤2000000000000):FnR Tryz.prog 106 #[.slice p n c] (fun w=>n=List.length L∧qG w p L) (vk 83 (fun v=>.agg #[.bool true,.string ⟨#[]⟩,v]) n L):=by
 refine FnR.intro (c:=zk Tryz.f106) [.cell 2 83] 6 Tryz.func106 kr kr kr fun w hpre=>?_;have H0:=St.start w;refine rS [.a] H0 kr fun gs1 w1 H1=>?_;clear H0;refine zg [0,1,2,3] kr kr<|rp [.v] H1 kr fun gs2 w2 H2=>wX [1,2,3] ?_;clear H1;refine zdh H2 (some 4) 132 #[.slice p n c] (fun w=>n=List.length L∧qG w p L) 83 (fun v=>v) n L (zh3 p n c L (by omega)) ⟨hpre.1,qG.up hpre.2 H2.below⟩ kr kr ?_ ?_
 ·skip;intro w3 h0 H3;clear H2;refine rp [.v,.s 0] H3 kr fun gs5 w5 H5=>wX [] ?_;clear H3;refine zc<|zm kr<|wV ?_;refine ⟨[.agg #[.bool true,.string (⟨#[]⟩),.slice none 0 0]],(.agg (b:=(gs1 0).b) (#[.bool true,.string (⟨#[]⟩),.slice none 0 0]) 83 (0,0) kr (H5.get 0 kr) kr .nil),H5.below,?_⟩;exact Or.inl ⟨h0,rfl⟩
 ·skip;intro b_1 cap_2 cur_3 w4 H4 hr_4;clear H2;refine rp [.v,.s 1] H4 kr fun gs6 w6 H6=>wX [] ?_;clear H4;refine zc<|zm kr<|wV ?_;refine ⟨[.agg #[.bool true,.string (⟨#[]⟩),.slice (some ⟨b_1,0,none⟩) n cap_2]],(.agg (b:=(gs1 0).b) (#[.bool true,.string (⟨#[]⟩),.slice (some ⟨b_1,0,none⟩) n cap_2]) 83 (0,0) kr (H6.get 1 kr) kr .nil),H6.below,?_⟩;exact Or.inr ⟨b_1,cap_2,_,rfl,H6.ge 0 (o:=.cells cur_3 83 (0,0)) kr,H6.get 0 kr,hr_4⟩
def Fo.app:Fo→Fo→Fo
 | .nil,R=>R
 | .cons l s k r,R=>.cons l s k (r.app R)
theorem ut (x:X3)(R:Fo): ∀M:List X3,(toFo (M++ [x])).app R=(toFo M).app (.cons x.l x.s x.k R)
 | []=>rfl
 | y::r=>by simp only [List.cons_append,toFo,Fo.app,ut x R r]
theorem Fo.app_nil: ∀k:Fo,k.app .nil=k
 | .nil=>rfl
 | .cons l s k r=>by simp only [Fo.app,Fo.app_nil r]
theorem uu {g:Nat}{x:Nat×ByteArray}(h:x.2.size≤0x800000000000):(zJ g x).size≤0x800000000000:=by
 unfold zJ;split
 ·rw [qf];have:=qF x.1;omega
 ·split
  ·exact Nat.zero_le _
  ·exact h
def vn (g:Nat)(b:Kf)(x:Nat×ByteArray)(l:Fe)(v:Value)(T:List (Nat×Obj)):Prop:=
 ∃(p:Option Addr) (n c:Nat),v=.agg #[.bool (zR g),.string (zJ g x),.slice p n c]∧yw T p n (zH g b l)
def uw (l:Fe):Prop:= ∀(g:Nat) (p:Option Addr) (n c:Nat) (b:Kf) (m:Nat) (s:ByteArray) (p2:Option Addr) (n2 c2:Nat) (room:Int),m<0x10000000000000000→0≤zU g b (m,s) l room→
 FnT Tryz.prog 66 #[knd g p n c,fld m s p2 n2 c2] (fun w=>SlR kS w.heap.size w p n b∧SlR fS w.heap.size w p2 n2 l) (vn g b (m,s) l)
abbrev zh5 (v:Value):Obj:=.cells #[.bool true,.string ⟨#[]⟩,v] 83 (0,0)
abbrev itZ:Obj:=.cells #[.bool false,.string ⟨#[]⟩,.slice none 0 0] 83 (0,0)
abbrev kdO (g:Nat)(p:Option Addr)(n c:Nat):Obj:=.cells #[.int .u8 (g:Int),.slice p n c] 62 (0,0)
abbrev fdO (m:Nat)(s:ByteArray)(p:Option Addr)(n c:Nat):Obj:=.cells #[.int .u64 (m:Int),.string s,.slice p n c] 44 (0,0)
abbrev rwO (C:Array Value):Obj:=.cells C 83 (0,0)
def ux (C:Array Value)(i:Nat)(x:X3):Array Value:=(C.toList.take (0+i*3)++(Value.agg (xc x)).cells.toList++C.toList.drop (0+i*3+(Value.agg (xc x)).cells.size)).toArray
def qU (B:Nat)(w0:World)(bq br:Nat)(C:Array Value)(i:Nat)(ok:X3→List (Nat×Obj)→Prop)(bk:Nat)(kO fO:Obj)(T:List (Nat×Obj)):(Nat→Bool)→(Nat→D2.Gh)→World→Prop:=fun L g w=>
 bif L 8 then ∃x T2,ok x T2∧St B w0 w ((bq,fO)::(bk,kO)::(br,rwO (ux C i x))::(T2++T))
 else bif L 6 then ∃x T2,ok x T2∧(g 6).cur=xc x∧St B w0 w ((bq,fO)::(bk,kO)::(br,rwO C)::(T2++T))
 else St B w0 w ((bq,fO)::(bk,kO)::(br,rwO C)::T)
theorem qU.st {B:Nat}{w0:World}{bq br:Nat}{C:Array Value}{i:Nat}{ok:X3→List (Nat×Obj)→Prop}{bk:Nat}{kO fO:Obj}{T:List (Nat×Obj)}{L:Nat→Bool}{g:Nat→D2.Gh}{w:World}(h8:L 8=false)(h:qU B w0 bq br C i ok bk kO fO T L g w):∃T',St B w0 w ((bq,fO)::(bk,kO)::(br,rwO C)::T'):=by
 unfold qU at h;rw [h8] at h;cases h6:L 6 with
 | true=>rw [h6] at h;obtain ⟨x,T2,_,_,h⟩:=h;exact ⟨_,h⟩
 | false=>rw [h6] at h;exact ⟨_,h⟩
theorem qU.call {B:Nat}{w0:World}{bq br:Nat}{C:Array Value}{i:Nat}{ok:X3→List (Nat×Obj)→Prop}{bk:Nat}{kO fO:Obj}{T:List (Nat×Obj)}{L:Nat→Bool}{g:Nat→D2.Gh}{w w':World}(hb:Below w.heap.size w w')(h:qU B w0 bq br C i ok bk kO fO T L g w):qU B w0 bq br C i ok bk kO fO T L g w':=by
 unfold qU at h ⊢;cases h8:L 8 with
 | true=>rw [h8] at h;obtain ⟨x,T2,h1,h⟩:=h;exact ⟨x,T2,h1,h.call hb⟩
 | false=>
  rw [h8] at h;cases h6:L 6 with
  | true=>rw [h6] at h;obtain ⟨x,T2,h1,h2,h⟩:=h;exact ⟨x,T2,h1,h2,h.call hb⟩
  | false=>rw [h6] at h;exact St.call h hb
theorem zh6 (l:Fe)(hs:l.sub uw):uw l:=by
 intro g p n c b m s p2 n2 c2 room hm hleft;refine FnT.intro (c:=zk Tryz.f66) [.cell 4 83] 44 Tryz.func66 kr kr kr fun w hpre=>?_;have H0:=St.start w;obtain ⟨hK,hF⟩:=hpre;have hfit:zv g b.len m s.size l.len=true∧0≤yP l g b 0 (w64 (room-1)):=by
  unfold zU at hleft;by_cases hf:zv g b.len m s.size l.len=true
  ·rw [if_pos hf] at hleft;exact ⟨hf,hleft⟩
  ·rw [if_neg hf] at hleft;omega
 obtain ⟨hf1,hf2,hf3⟩:=zaS hfit.1;have hn2:=hF.1;have hnb:n2≤1000:=by
  have hk1:=hK.1;have hk2:n≤1000:=hK.2.1;have:=hf3.2;unfold ya at this;split at this
  ·simp only at this;omega
  ·split at this
   ·simp only at this;omega
   ·simp only at this;omega
 refine rS [.b,.b,.a] H0 kr fun gs1 w1 H1=>?_;clear H0;refine rS [.v,.l 0] H1 kr fun gs2 w2 H2=>?_;clear H1;refine zn 0 kr ?_;by_cases h110:g=110
 ·refine rS [.E (.bool ((g:Int)==110)) (.bool true) (za (beq_iff_eq.2 (by omega))),.v] H2 kr fun gs3 w3 H3=>zi kr kr<|rS [.v,.l 1,.c (zhO m hm),.s 2] H3 kr fun gs4 w4 H4=>rRr [.cell 4 83] [2] (.agg #[.bool false,.string (zf (dg m)),.slice none 0 0]) (qD w.heap.size w (vn g b (m,s) l)) H4 kr ?_;refine ⟨[],⟨none,0,0,?_,?_⟩,H4.sub (List.nil_sublist _)⟩
  ·subst h110;rfl
  ·subst h110;exact yw.none _
 ·refine rS [.E (.bool ((g:Int)==110)) (.bool false) (za (beq_eq_false_iff_ne.2 (by omega))),.v] H2 kr fun gs3 w3 H3=>zh kr kr<|zb kr<|qL (Q:=fun e ρ ww=>e=.normal∧St w.heap.size w ww [((gs1 0).b,kdO g p n c),((gs1 1).b,fdO m s p2 n2 c2),((gs1 2).b,itZ)]∧Is [(2,.pointer (some ⟨(gs1 0).b,0,none⟩)),(3,.pointer (some ⟨(gs1 1).b,0,none⟩)),(4,.pointer (some ⟨(gs1 2).b,0,none⟩)),(18,.bool (zR g))] ρ) ?_ ?_
  ·by_cases h40:g=40
   ·refine rS [.E (.bool ((g:Int)==40)) (.bool true) (za (beq_iff_eq.2 (by omega))),.v] H3 kr fun gs4 w4 H4=>zi kr kr<|zj kr ?_;refine ⟨rfl,H4.as kr,?_⟩;subst h40;exact Is.of ⟨kr,kr,kr,kr,trivial⟩
   ·refine rS [.E (.bool ((g:Int)==40)) (.bool false) (za (beq_eq_false_iff_ne.2 (by omega))),.v] H3 kr fun gs4 w4 H4=>zh kr kr ?_;have hl:zR g=decide (g=42):=by unfold zR;rw [decide_eq_false h40];rfl
    rw [hl];by_cases h42:g=42
    ·refine rL [.E (.bool ((g:Int)==42)) (.bool true) (za (beq_iff_eq.2 (by omega))),.v] H4 kr fun gs5 w5 H5=>?_;refine ⟨rfl,H5.as kr,?_⟩;rw [decide_eq_true h42];exact Is.of ⟨kr,kr,kr,kr,trivial⟩
    ·refine rL [.E (.bool ((g:Int)==42)) (.bool false) (za (beq_eq_false_iff_ne.2 (by omega))),.v] H4 kr fun gs5 w5 H5=>?_;refine ⟨rfl,H5.as kr,?_⟩;rw [decide_eq_false h42];exact Is.of ⟨kr,kr,kr,kr,trivial⟩
  rintro _ _ w4 ⟨rfl,H4,_,rfl⟩;refine wW ?_;clear H3 H2;cases hl:zR g with
  | false=>
   refine zh kr kr<|rS [.v,.l 1,.v,.s 2] H4 kr fun gs5 w5 H5=>rRr [.cell 4 83] [2] (.agg #[.bool false,.string s,.slice none 0 0]) (qD w.heap.size w (vn g b (m,s) l)) H5 kr ?_;refine ⟨[],⟨none,0,0,?_,?_⟩,H5.sub (List.nil_sublist _)⟩
   ·unfold zJ;rw [if_neg h110,if_neg (by rw [hl];decide),hl]
   ·unfold zH;rw [if_neg (by rw [hl];decide)];exact yw.none _
  | true=>
   refine zi kr kr<|zg [0,1,2,3,4] kr kr<|rp [.v,.l 1,.v] H4 kr fun gs5 w5 H5=>wX [3,4] ?_;have H6:St w.heap.size w w5 [((gs1 0).b,kdO g p n c),((gs1 1).b,fdO m s p2 n2 c2),((gs1 2).b,itZ)]:=H5.as kr;refine zfY H6 (some 24) 81 83 3 48 (.tmp 23) (.tmp 23) .i64 .i64 n2 kr kr kr kr kr (by omega) (by unfold maxLen;omega) ?_;intro br C0 w6 H7 hC0;clear H4 H5 H6;have H8:St w.heap.size w w6 (((gs1 0).b,kdO g p n c)::(br,rwO C0)::((gs1 1).b,fdO m s p2 n2 c2)::((gs1 2).b,itZ)::[]):=H7.perm (List.Perm.swap _ _ _);clear H7;refine rp [.v] H8 kr fun gs6 w7 H9=>wX []<|zc<|zb kr<|rS [.v,.l 2,.v,.v] H9 kr fun gs7 w8 H10=>zn 1 kr ?_;have H11:St w.heap.size w w8 (((gs1 0).b,kdO g p n c)::(br,rwO C0)::((gs1 1).b,fdO m s p2 n2 c2)::((gs1 2).b,itZ)::[]):=H10.as kr;clear H8 H9 H10;refine zG kr (fun mz ρ ww=> ∃(i:Nat) (r:Fe) (v:Int) (C:Array Value) (M:List X3) (T:List (Nat×Obj)),n2-i=mz∧FrR fS w.heap.size w p2 i r∧i+r.len=n2∧r.sub uw∧0≤yP r g b i v∧(toFo M).app (yd r g b i)=yd l g b 0∧jG C n2 i M∧AllIn T M∧St w.heap.size w ww (((gs1 0).b,kdO g p n c)::(br,rwO C)::((gs1 1).b,fdO m s p2 n2 c2)::((gs1 2).b,itZ)::T)∧Is [(2,.pointer (some ⟨(gs1 0).b,0,none⟩)),(3,.pointer (some ⟨(gs1 1).b,0,none⟩)),(4,.pointer (some ⟨(gs1 2).b,0,none⟩)),(5,.slice (some ⟨br,0,none⟩) n2 n2),(26,.slice p2 n2 c2),(27,.int .i64 (n2:Int)),(28,.int .i64 (i:Int))] ρ) (n2-0) ⟨0,l,_,C0,[],[],rfl,hF.start,by omega,hs,hfit.2,rfl,jG.start hC0,(fun _ h=>nomatch h),H11,(Is.of ⟨kr,kr,kr,kr,kr,kr,kr,trivial⟩)⟩ ?_;clear H11;rintro _ _ w9 ⟨i,r,v,C,M,T,rfl,hR,hN,hsub,hlf,happ,hFill,hAll,H12,_,rfl⟩;by_cases hi:i<n2
   ·refine rS [.E (.bool (decide ((i:Int)<(n2:Int)))) (.bool true) (za (decide_eq_true (by omega)))] H12 kr fun gs8 w10 H13=>?_;clear H12;refine zb kr<|zi kr kr<|zj kr<|wW<|zb kr<|zn 2 kr ?_;obtain ⟨⟨m1,s1⟩,k1,r1,b1,off1,C1,T1,fz1,p1,n1,c1,hr1,hp1,hb1,hh1,hs1,hx1,hz1,hk1,hR1,hN1⟩:=FrR.open hR hN hi;obtain ⟨g',p',n',c',hK1,hK2,hg'⟩:=hK.kid g i;subst hr1;rw [un,←hg'] at hlf;have hkid:0≤zU g' (zA g b i).2 (m1,s1) k1 v∧0≤yP r1 g b (i+1) (zU g' (zA g b i).2 (m1,s1) k1 v):=by
     by_cases hv:zU g' (zA g b i).2 (m1,s1) k1 v<0
     ·rw [if_pos hv] at hlf;omega
     ·rw [if_neg hv] at hlf;exact ⟨Int.not_lt.1 hv,hlf⟩
    refine zg [0,1,2,3,4,5] kr kr<|rp [.v,.o (ins:=[((.tmp 26),.slice p2 n2 c2),((.tmp 28),.int .i64 (i:Int))]) (v:=.pointer (some ⟨b1,off1+i*3,none⟩)) (fun ρ o w ho hi2=>yo (kd:=.i64) (t:=41) (e:=44) (K:=3) (bytes:=48) kr (x:=(.tmp 26)) (y:=(.tmp 28)) b1 off1 n2 c2 i hp1 ho hi2.1 hi2.2.1 (by omega) w),.fp (off:=off1+i*3) (n:=3) (W:=#[.int .u64 (m1:Int),.string s1,.slice p1 n1 c1]) hh1 hb1 hs1 hx1] H13 kr fun gs9 w11 H14=>wX [3,4,5] ?_;have H15:St w.heap.size w w11 (((gs1 0).b,kdO g p n c)::(br,rwO C)::((gs1 1).b,fdO m s p2 n2 c2)::((gs1 2).b,itZ)::T):=H14.as kr;refine yu H15 (some 7) 44 (.agg #[wZ,.string ⟨#[]⟩,.slice none 0 0]) kr kr kr ?_;intro bq w12 H16;refine rp [.v,.s 0] H16 kr fun gs10 w13 H17=>wX []<|zc ?_;have H18:St w.heap.size w w13 ((bq,fdO m1 s1 p1 n1 c1)::((gs1 0).b,kdO g p n c)::(br,rwO C)::((gs1 1).b,fdO m s p2 n2 c2)::((gs1 2).b,itZ)::T):=H17.as kr;clear H13 H14 H15 H16 H17;have hc:=hsub.1 g' p' n' c' (zA g b i).2 m1 s1 p1 n1 c1 v hz1.1 hkid.1;refine D2.g_draw0 [0,1,2,3,4,5,6,7,8] [(some 33,fun _=>.slice (some ⟨br,0,none⟩) n2 n2),(some 34,fun _=>.int .i64 (i:Int)),(some 35,fun _=>knd g p n c),(some 36,fun _=>.int .i64 (i:Int)),(some 37,fun _=>knd g' p' n' c'),(some 38,fun _=>fld m1 s1 p1 n1 c1),(some 39,fun y=>.agg y.cur),(some 40,fun _=>.pointer (some ⟨br,0+i*3,none⟩)),(none,fun _=>undef)]
     (qU w.heap.size w bq br C i (fun x T2=>x.l=zR g'∧x.s=zJ g' (m1,s1)∧x.k=zH g' (zA g b i).2 k1∧yw T2 x.p x.n x.k) (gs1 0).b (kdO g p n c) (fdO m1 s1 p1 n1 c1) (((gs1 1).b,fdO m s p2 n2 c2)::((gs1 2).b,itZ)::T)) kr kr kr H18.drew ⟨?_,?_,?_,?_,?_,?_,?_,?_,?_,trivial⟩ ?_
    ·exact D2.gv_val (fun _ _ _ h=>h) (fun g w=>by kernel_rfl)
    ·exact D2.gv_val (fun _ _ _ h=>h) (fun g w=>by kernel_rfl)
    ·refine D2.gv_ld (fun _ _ _ h=>h) 62 (.tmp 2) (fun _=>(gs1 0).b) 0 #[.int .u8 ((g:Nat):Int),.slice p n c] 62 (0,0) (fun g=>by kernel_rfl) (fun g=>by kernel_rfl) (fun L g w hN hp=>?_) kr kr;obtain ⟨T',h⟩:=hp.st (hN.post 8 kr);exact h.get 1 kr
    ·exact D2.gv_val (fun _ _ _ h=>h) (fun g w=>by kernel_rfl)
    ·refine D2.gv_cpW (fun _ _ _ h=>h) 94 #[knd g p n c,.int .i64 (i:Int)] (zdz g p n c i g' p' n' c') (fun L g w hN hp=>?_) (fun L g w w' hN hp hb=>hp.call hb) (fun g w=>by kernel_rfl);obtain ⟨T',h⟩:=hp.st (hN.post 8 kr);exact hK1.up h.below h.below.size
    ·refine D2.gv_ld (fun _ _ _ h=>h) 44 (.tmp 7) (fun _=>bq) 0 #[.int .u64 (m1:Int),.string s1,.slice p1 n1 c1] 44 (0,0) (fun g=>by kernel_rfl) (fun g=>by kernel_rfl) (fun L g w hN hp=>?_) kr kr;obtain ⟨T',h⟩:=hp.st (hN.post 8 kr);exact h.get 0 kr
    ·refine D2.gv_ft 66 #[knd g' p' n' c',fld m1 s1 p1 n1 c1] hc (fun L g w hN hp=>?_) (fun L gg ww v' T2 w' hN hp hok hT=>?_) (fun g w=>by kernel_rfl)
     ·obtain ⟨T',h⟩:=hp.st (hN.post 8 kr);exact ⟨hK2.call h.below,hk1.call h.below⟩
     ·obtain ⟨q1,q2,q3,rfl,hsl⟩:=hok;refine ⟨{ cur:=#[.bool (zR g'),.string (zJ g' (m1,s1)),.slice q1 q2 q3] },rfl,?_⟩;unfold qU at hp ⊢;rw [hN.post 8 kr,hN.1] at hp;rw [show D2.put1 L 6 8=false from hN.post 8 kr,show D2.put1 L 6 6=true from rfl];exact ⟨⟨zR g',zJ g' (m1,s1),q1,q2,q3,zH g' (zA g b i).2 k1⟩,T2,⟨rfl,rfl,rfl,hsl⟩,rfl,(St.addAll hp hT).perm (List.perm_append_comm_assoc T2 [(bq,fdO m1 s1 p1 n1 c1),((gs1 0).b,kdO g p n c),(br,rwO C)] (((gs1 1).b,fdO m s p2 n2 c2)::((gs1 2).b,itZ)::T)).symm⟩
    ·exact D2.gv_op (fun _ _ _ h=>h) _ (fun g=>by kernel_rfl) (fun g o w ho=>yo (kd:=.i64) (t:=81) (e:=83) (K:=3) (bytes:=48) kr (x:=(.tmp 33)) (y:=(.tmp 34)) br 0 n2 n2 i rfl ho kr kr hi w)
    ·refine D2.gives_of fun L1 gg ww hp hN=>?_;have h6:=hN.bef 6 kr;unfold qU at hp;rw [hN.1,h6] at hp;obtain ⟨x,T2,hx,hcur,HS⟩:=hp;obtain ⟨o,ho,hd,hw,hop⟩:=zE (show opk _ 8 _=some (none,true,.store 83 (.tmp 40) (.tmp 39)) by kernel_rfl);refine ⟨o,ho,hd,.inr ⟨hw,?_⟩⟩;rw [kW (t:=83) (off:=0+i*3) (b:=br) (C:=C) (T:=83) (v:=.agg (xc x)) (C':=ux C i x) (HS.get 2 kr) kr kr (hFill.put x hi).1 rfl kr (by rw [←hcur];kernel_rfl) o hop];refine ⟨default,rfl,?_⟩;unfold qU;rw [show D2.put1 L1 8 8=true from rfl];exact ⟨x,T2,hx,HS.store 2 (C:=C) kr⟩
    ·intro L1 gg w14 hall hp;unfold qU at hp;rw [hall 8 (Nat.le_of_ble_eq_true kr)] at hp;obtain ⟨x,T2,⟨hx1,hx2,hx3,hx4⟩,HS⟩:=hp;have H19:St w.heap.size w w14 (((gs1 0).b,kdO g p n c)::(br,rwO (ux C i x))::((gs1 1).b,fdO m s p2 n2 c2)::((gs1 2).b,itZ)::(T2++T)):=(HS.sub (List.sublist_cons_self ..)).perm (List.Perm.cons _ (List.Perm.cons _ (List.perm_append_comm_assoc T2 [((gs1 1).b,fdO m s p2 n2 c2),((gs1 2).b,itZ)] T).symm));refine wW<|rL [.E (.int .i64 (IntKind.i64.wrap ((i:Int)+1))) (.int .i64 ((i+1:Nat):Int)) (zd (zq (a:=i) (b:=1) (by omega))),.v] H19 kr fun gs11 w15 H20=>?_;show ∃m,_∧_;refine ⟨_,(by omega),i+1,r1,_,ux C i x,M++ [x],T2++T,rfl,hR1,hN1,hsub.2,hkid.2,?_,(hFill.put x hi).2,?_,H20.as kr,(Is.of ⟨kr,kr,kr,kr,kr,kr,kr,trivial⟩)⟩
     ·rw [ut,hx1,hx2,hx3,←happ,uo,←hg']
     ·exact (hAll.mono fun e he=>List.mem_append_right _ he).snoc (hx4.mono fun e he=>List.mem_append_left _ he) (by rw [hx2];exact uu hz1.2)
   ·obtain rfl:=FrR.done hN hi;obtain rfl:i=n2:=by simp only [Fr.len] at hN;omega
    refine rS [.E (.bool (decide ((i:Int)<(i:Int)))) (.bool false) (za (decide_eq_false (by omega)))] H12 kr fun gs8 w10 H13=>zb kr<|zh kr kr<|zy 1 kr<|wW ?_;have hM:toFo M=zH g b l:=by
     unfold zH;rw [if_pos hl,←happ];exact (Fo.app_nil _).symm
    have hrw:=hFill.done (by unfold maxLen;omega);refine zg [0,1,2] kr kr<|rp [.v] H13 kr fun gs9 w11 H14=>wX [1,2] ?_;have H15:St w.heap.size w w11 (((gs1 0).b,kdO g p n c)::(br,rwO C)::((gs1 1).b,fdO m s p2 i c2)::((gs1 2).b,itZ)::T):=H14.as kr;refine zdh H15 (some 43) 106 #[.slice (some ⟨br,0,none⟩) i i] (fun w=>i=List.length M∧qG w (some ⟨br,0,none⟩) M) 83 (fun v=>.agg #[.bool true,.string ⟨#[]⟩,v]) i M (zh4 _ _ _ M (by omega)) (hrw.cellsAt (T:=83) (fz:=(0,0)) (H15.get 1 kr)) kr kr ?_ ?_
    ·intro w12 h0 H16;subst h0;refine rp [.s 3] H16 kr fun gs10 w13 H17=>wX []<|zc<|rRr [.cell 4 83] [3] (.agg #[.bool true,.string ⟨#[]⟩,.slice none 0 0]) (qD w.heap.size w (vn g b (m,s) l)) H17 kr ?_;refine ⟨[],⟨none,0,0,?_,?_⟩,H17.sub (List.nil_sublist _)⟩
     ·unfold zJ;rw [if_neg h110,if_pos hl,hl]
     ·rw [←hM,List.eq_nil_of_length_eq_zero hFill.len];exact yw.none _
    ·intro bl cap cur w12 H16 hr;refine rp [.s 4] H16 kr fun gs10 w13 H17=>wX []<|zc<|rRr [.cell 4 83] [4] (.agg #[.bool true,.string ⟨#[]⟩,.slice (some ⟨bl,0,none⟩) i cap]) (qD w.heap.size w (vn g b (m,s) l)) H17 kr ?_;have H18:St w.heap.size w w13 ((bl,rwO cur)::((gs1 0).b,kdO g p n c)::(br,rwO C)::((gs1 1).b,fdO m s p2 i c2)::((gs1 2).b,zh5 (.slice (some ⟨bl,0,none⟩) i cap))::T):=H17.as kr;refine ⟨(bl,rwO cur)::T,⟨some ⟨bl,0,none⟩,i,cap,?_,?_⟩,H18.sub (List.Sublist.cons_cons _ (List.Sublist.cons _ (List.Sublist.cons _ (List.Sublist.cons _ (List.sublist_cons_self ..)))))⟩
     ·unfold zJ;rw [if_neg h110,if_pos hl,hl]
     ·rw [←hM];exact hr.slIn (ty:=83) (fz:=(0,0)) (List.mem_cons_self ..) (hAll.mono fun e he=>List.mem_cons_of_mem _ he) (by omega)
theorem zh7 (l:Fe):uw l:=(Fr.induct zh6 l).1
abbrev itm (l:Bool)(s:ByteArray)(p:Option Addr)(n c:Nat):Value:=.agg #[.bool l,.string s,.slice p n c]
abbrev frO (C:Array Value):Obj:=.cells C 44 (0,0)
abbrev ec (x:El (Nat×ByteArray)):Array Value:=#[.int .u64 ((x.a.1:Nat):Int),.string x.a.2,.slice x.p x.n x.c]
section
variable {B:Nat}{w0:World}{bq bf bk:Nat}{qO kO:Obj}{p:Option Addr}{i c:Nat}{row:List (Nat×Obj)}{M:List (El (Nat×ByteArray))}{ok:El (Nat×ByteArray)→List (Nat×Obj)→Prop}{T:List (Nat×Obj)}{L:Nat→Bool}{g:Nat→D2.Gh}{w w':World}
end
abbrev kR (C:Array Value):Obj:=.cells C 62 (0,0)
structure Sk where
 g:Nat
 p:Option Addr
 n:Nat
 c:Nat
 row:List (Nat×Obj)
 M:List (El Nat)
def Sk.el (e:Sk):El Nat:=⟨e.g,e.p,e.n,e.c,yM e.M⟩
def opE:List Sk→List (El Nat)
 | []=>[]
 | e::r=>opE r++ [e.el]
def ye:List Sk→List (Nat×Obj)
 | []=>[]
 | e::r=>e.row++ye r
def stM (S:List Sk):List (Nat×Kf):=S.map fun e=>(e.g,yM e.M)
def Bot:List Sk→Prop
 | []=>False
 | e::r=>(r=[]∧e.g=40)∨Bot r
structure jH (T:List (Nat×Obj))(m:Nat)(e:Sk):Prop where
 row:RowE kS 62 e.p e.n e.c e.row e.M
 all:AllE kS T e.M
 le:e.n≤m
theorem jH.mono {T T':List (Nat×Obj)}{m m':Nat}{e:Sk}(h:jH T m e)(hT: ∀x∈T,x∈T')(hm:m≤m'):jH T' m' e:=⟨h.row,h.all.mono hT,Nat.le_trans h.le hm⟩
theorem zaV: ∀S:List Sk,(opE S).length=S.length
 | []=>rfl
 | e::r=>by simp only [opE,List.length_append,zaV r,List.length_cons,List.length_nil]
theorem km (e:Sk)(r:List Sk):zC kS (opE (e::r))=zC kS (opE r)++ [.int .u8 ((e.g:Nat):Int),.slice e.p e.n e.c]:=by
 show zC kS (opE r++ [e.el])=_;rw [kf];rfl
theorem uy (r:List Sk):(zC kS (opE r)).length=r.length*2:=by rw [jl,zaV];rfl
theorem Rw.pop {K:Nat}{cur:Array Value}{cap n:Nat}{X Z:List Value}(h:Rw K cur cap (n+1) (X++Z))(hX:X.length=n*K):Rw K cur cap n X:=by
 have ht:=h.take;refine ⟨hX,by have:=h.le;omega,h.max,?_,h.sz⟩;have e:(cur.toList.take ((n+1)*K)).take (n*K)=X:=by rw [ht,List.take_append,hX,Nat.sub_self,List.take_zero,List.append_nil,List.take_of_length_le (by omega)]
 rw [List.take_take,Nat.min_eq_left (by rw [Nat.succ_mul];omega)] at e;exact e
theorem Rw.top {cur:Array Value}{cap:Nat}{e:Sk}{r:List Sk}(h:Rw 2 cur cap (r.length+1) (zC kS (opE (e::r)))):
 0+r.length*2+2≤cur.size∧cur.extract (0+r.length*2) (0+r.length*2+2)=#[.int .u8 ((e.g:Nat):Int),.slice e.p e.n e.c]∧cur[0+r.length*2]? =some (.int .u8 ((e.g:Nat):Int))∧cur[0+r.length*2+1]? =some (.slice e.p e.n e.c):=by
 rw [km] at h;have hl:=uy r;rw [Nat.zero_add];have h0:cur[r.length*2]? =some (.int .u8 ((e.g:Nat):Int)):=by
  rw [h.get _ (by omega),List.getElem?_append_right (by omega),hl,Nat.sub_self];rfl
 have h1:cur[r.length*2+1]? =some (.slice e.p e.n e.c):=by
  rw [h.get _ (by omega),List.getElem?_append_right (by omega),hl,Nat.add_sub_cancel_left];rfl
 have h2:=exE (C:=cur) (o:=r.length*2) (x:=[.int .u8 ((e.g:Nat):Int),.slice e.p e.n e.c]) (K:=2) rfl (fun j hj=>by
  rcases j with _|_|j
  ·exact h0
  ·exact h1
  ·omega) (by decide)
 exact ⟨h2.1,h2.2,h0,h1⟩
def zK:Array Value:=#[.int .u8 0,.slice none 0 0]
def qp (B:Nat)(w0:World)(bd b2 bo:Nat)(dO bO:Obj)(kv:Value)(cur:Array Value)(N:Nat)(en:Nat)(row:List (Nat×Obj))(xs:List Value)(T:List (Nat×Obj)):(Nat→Bool)→(Nat→D2.Gh)→World→Prop:=fun L g w=>
 bif L 8 then (L 9=true→(g 9).b=(g 8).b)∧Rw 2 (g 8).cur (g 8).cap (en+1) (xs++zK.toList)∧St B w0 w ((bd,dO)::(b2,bO)::(bo,kR (bif L 13 then putA cur (0+N*2+1) (.slice (some ⟨(g 8).b,0,none⟩) (en+1) (g 8).cap) else cur))::((g 8).b,kR (bif L 10 then putA (g 8).cur (0+en*2) kv else (g 8).cur))::T)
 else bif L 7 then St B w0 w (((g 7).b,kR zK)::(bd,dO)::(b2,bO)::(bo,kR cur)::(row++T))
 else St B w0 w ((bd,dO)::(b2,bO)::(bo,kR cur)::(row++T))
section
variable {B:Nat}{w0:World}{bd b2 bo:Nat}{dO bO:Obj}{kv:Value}{cur:Array Value}{N en:Nat}{row:List (Nat×Obj)}{xs:List Value}{T:List (Nat×Obj)}{L:Nat→Bool}{g:Nat→D2.Gh}{w:World}
theorem qp.st (h8:L 8=false)(h:qp B w0 bd b2 bo dO bO kv cur N en row xs T L g w):∃l,St B w0 w l∧(bd,dO)∈l∧(bo,kR cur)∈l:=by
 unfold qp at h;rw [h8] at h;cases h7:L 7 with
 | true=>rw [h7] at h;exact ⟨_,h,by simp,by simp⟩
 | false=>rw [h7] at h;exact ⟨_,h,by simp,by simp⟩
end
noncomputable abbrev zh8:Code:=ym (zN (ym (ym (ym (qb (ym (zk Tryz.f40)))))))
noncomputable abbrev zdE:Code:=qb (zN (ym (ym (qb (qb zh8)))))
def zdF (B:Nat)(w0:World)(form:ByteArray)(b2 bd i:Nat)(target:List (Nat×Kf))(mz:Nat)(ρ:Env)(ww:World):Prop:=
 ∃(S:List Sk) (N g:Nat) (p:Option Addr) (n c:Nat) (k:Kf) (T:List (Nat×Obj)) (bo cap:Nat) (cur:Array Value),S.length=mz∧N=S.length∧Bot S∧N≤5∧(∀e∈S,jH T i e)∧RIn kS T p n k∧jE g k (stM S)=target∧Rw 2 cur cap N (zC kS (opE S))∧
  St B w0 ww ((bd,kdO g p n c)::(b2,kdO 0 none 0 0)::(bo,kR cur)::(ye S++T))∧
  Is [(0,.string form),(2,.pointer (some ⟨b2,0,none⟩)),(3,.bool false),(4,.slice (some ⟨bo,0,none⟩) N cap),(6,.pointer (some ⟨bd,0,none⟩)),(16,.int .i64 (form.size:Int)),(17,.int .i64 (i:Int))] ρ
def zh9 (B:Nat)(w0:World)(form:ByteArray)(b2 i:Nat)(target:List (Nat×Kf))(ρ:Env)(ww:World):Prop:=
 ∃(S:List Sk) (N:Nat) (T:List (Nat×Obj)) (bo cap:Nat) (cur:Array Value),N=S.length∧Bot S∧N≤5∧(∀e∈S,jH T i e)∧stM S=target∧Rw 2 cur cap N (zC kS (opE S))∧
  St B w0 ww ((b2,kdO 0 none 0 0)::(bo,kR cur)::(ye S++T))∧
  Is [(0,.string form),(2,.pointer (some ⟨b2,0,none⟩)),(3,.bool false),(4,.slice (some ⟨bo,0,none⟩) N cap),(16,.int .i64 (form.size:Int)),(17,.int .i64 (i:Int))] ρ
theorem zdG {Q:Exit→Env→World→Prop}{B:Nat}{w0:World}(form:ByteArray)(b2 bd i:Nat)(target:List (Nat×Kf))(hi:i≤40)(m0:Nat)(ρ0:Env)(ww0:World)(h0:zdF B w0 form b2 bd i target m0 ρ0 ww0)
 (hQ: ∀(S:List Sk) (N:Nat) (T:List (Nat×Obj)) (bo cap:Nat) (cur:Array Value) (ρ:Env) (ww:World),N=S.length→Bot S→N≤5→(∀e∈S,jH T (i+1) e)→stM S=target→Rw 2 cur cap N (zC kS (opE S))→
  St B w0 ww ((b2,kdO 0 none 0 0)::(bo,kR cur)::(ye S++T))→Is [(0,.string form),(2,.pointer (some ⟨b2,0,none⟩)),(3,.bool false),(4,.slice (some ⟨bo,0,none⟩) N cap),(16,.int .i64 (form.size:Int)),(17,.int .i64 (i:Int))] ρ→Q (.exit 1) ρ ww):
 WP Tryz.prog 101 (ym (ym (ym zdE))) Q ρ0 ww0:=by
 refine zn 3 kr<|zG kr (zdF B w0 form b2 bd i target) m0 h0 ?_;clear h0;rintro _ _ w1 ⟨S,N,g,p,n,c,k,T,bo,cap,cur,rfl,rfl,hBot,hN5,hS,hRI,hpush,hRw,H1,_,rfl⟩;rcases S with _ | ⟨e,r⟩
 ·exact hBot.elim
 have he:=hS e (List.mem_cons_self ..);refine zn 4 kr ?_;have hN5':r.length+1≤5:=hN5;refine rS [.v,.v,.E (.int .i64 (IntKind.i64.wrap (((r.length+1:Nat):Int)-1))) (.int .i64 (r.length:Int)) (zd (by rw [show (((r.length+1:Nat):Int)-1)=(r.length:Int) by omega];exact zak (by omega))),.v] H1 kr fun gs2 w2 H2=>?_;clear H1;refine zb kr ?_;have H3:St B w0 w2 ((bd,kdO g p n c)::(b2,kdO 0 none 0 0)::(bo,kR cur)::(e.row++(ye r++T))):=by
  rw [←List.append_assoc];exact H2
 have htop:=hRw.top;refine D2.g_draw0 [0,1,2,3,4,5,6,7,8,9,10,11,12,13] [(some 69,fun _=>.slice (some ⟨bo,0,none⟩) (r.length+1) cap),(some 70,fun _=>.int .i64 (r.length:Int)),(some 71,fun _=>.pointer (some ⟨bo,0+r.length*2,none⟩)),(some 72,fun _=>.pointer (some ⟨bo,0+r.length*2+1,none⟩)),(some 73,fun _=>.slice e.p e.n e.c),(some 74,fun _=>knd g p n c),(some 75,fun _=>.int .i64 ((e.n:Nat):Int)),(some 76,fun y=>.slice (some ⟨y.b,0,none⟩) 1 1),(some 77,fun y=>.slice (some ⟨y.b,0,none⟩) (e.n+1) y.cap),(some 78,fun y=>.pointer (some ⟨y.b,0+e.n*2,none⟩)),(none,fun _=>undef),(some 79,fun _=>.pointer (some ⟨bo,0+r.length*2,none⟩)),(some 80,fun _=>.pointer (some ⟨bo,0+r.length*2+1,none⟩)),(none,fun _=>undef)]
  (qp B w0 bd b2 bo (kdO g p n c) (kdO 0 none 0 0) (knd g p n c) cur r.length e.n e.row (zC kS e.M) (ye r++T)) kr kr kr H3.drew ⟨?_,?_,?_,?_,?_,?_,?_,?_,?_,?_,?_,?_,?_,?_,trivial⟩ ?_
 ·exact D2.gv_val (fun _ _ _ h=>h) (fun g w=>by kernel_rfl)
 ·exact D2.gv_val (fun _ _ _ h=>h) (fun g w=>by kernel_rfl)
 ·exact D2.gv_op (fun _ _ _ h=>h) _ (fun g=>by kernel_rfl) (fun g o w ho=>yo (kd:=.i64) (t:=60) (e:=62) (K:=2) (bytes:=32) kr (x:=(.tmp 69)) (y:=(.tmp 70)) bo 0 (r.length+1) cap r.length rfl ho kr kr (by omega) w)
 ·exact D2.gv_val (fun _ _ _ h=>h) (fun g w=>by kernel_rfl)
 ·refine D2.gv_opW (fun _ _ _ h=>h) (.load 60 (.tmp 72)) (fun g=>by kernel_rfl) (fun L g o w hN hp ho=>?_);obtain ⟨l,h,_,hm⟩:=hp.st (hN.post 8 kr);exact zfX (h.own _ hm).2 kr kr htop.2.2.2 o ho
 ·refine D2.gv_ld (fun _ _ _ h=>h) 62 (.tmp 6) (fun _=>bd) 0 #[.int .u8 ((g:Nat):Int),.slice p n c] 62 (0,0) (fun g=>by kernel_rfl) (fun g=>by kernel_rfl) (fun L g w hN hp=>?_) kr kr;obtain ⟨l,h,hm,_⟩:=hp.st (hN.post 8 kr);exact (h.own _ hm).2
 ·exact D2.gv_val (fun _ _ _ h=>h) (fun g w=>by kernel_rfl)
 ·refine D2.gives_of fun L1 gg ww hp hN=>?_;have h8:=hN.post 8 kr;unfold qp at hp;rw [h8,hN.1] at hp;obtain ⟨o,ho,hd,hw,hrun⟩:=zZ (show opv _ _ 7 _ ww=some (some 76,true,.ok (.value (.slice (some ⟨ww.heap.size,0,none⟩) 1 1)) (ww.alloc (.cells zK 62))) by kernel_rfl);refine ⟨o,ho,hd,.inr ⟨hw,?_⟩⟩;refine (congrArg (D2.Runs _ _) hrun).mpr ?_;refine ⟨{ b:=ww.heap.size },rfl,?_⟩;unfold qp;rw [show D2.put1 L1 7 8=false from h8,show D2.put1 L1 7 7=true from rfl];exact St.alloc hp _
 ·refine D2.gives_of fun L1 gg ww hp hN=>?_;have h7:=hN.bef 7 kr;have h9:=hN.post 9 kr;have h10:=hN.post 10 kr;have h13:=hN.post 13 kr;unfold qp at hp;rw [hN.1,h7] at hp;obtain ⟨o,ho,hd,hw,hop⟩:=zE (show opk _ 8 _=some (some 77,true,yi 60 (.tmp 73) (.tmp 76)) by kernel_rfl);refine ⟨o,ho,hd,.inr ⟨hw,?_⟩⟩;have hen:=he.le;obtain ⟨eg,ep,en,ec,erow,eM⟩:=e;rcases he.row with ⟨rfl,rfl,rfl,rfl,rfl⟩ | ⟨br,curr,rfl,rfl,hrw⟩
  ·obtain ⟨b',cap',cur',w',hrun,HS',hr'⟩:=zau (K:=2) hp (t:=60) (e:=62) (bytes:=32) (k:=0) (bx:=(gg 7).b) (c:=1) (Y:=zK) kr hop kr kr rfl rfl (jD rfl) (by omega);rw [hrun];refine ⟨{ b:=b',cap:=cap',cur:=cur' },rfl,?_⟩;unfold qp;rw [show D2.put1 L1 8 8=true from rfl,show D2.put1 L1 8 10=false from h10,show D2.put1 L1 8 13=false from h13];refine ⟨fun hh=>absurd (h9.symm.trans hh) (by decide),hr',?_⟩;exact (HS'.sub (List.Sublist.cons_cons _ (List.sublist_cons_self ..))).perm (List.perm_middle (l₁:=[(bd,kdO g p n c),(b2,kdO 0 none 0 0),(bo,kR cur)]))
  ·obtain ⟨b',cap',cur',w',hrun,HS',hr'⟩:=vW (K:=2) hp (t:=60) (e:=62) (bytes:=32) (j:=4) (k:=0) (bx:=(gg 7).b) (c:=1) (Y:=zK) kr hop kr rfl hrw kr rfl rfl (jD rfl) (by omega) (by unfold maxLen;omega);rw [hrun];refine ⟨{ b:=b',cap:=cap',cur:=cur' },rfl,?_⟩;unfold qp;rw [show D2.put1 L1 8 8=true from rfl,show D2.put1 L1 8 10=false from h10,show D2.put1 L1 8 13=false from h13];exact ⟨fun hh=>absurd (h9.symm.trans hh) (by decide),hr',HS'.sub (List.sublist_cons_self ..)⟩
 ·refine D2.gives_of fun L1 gg ww hp hN=>?_;have h8:=hN.bef 8 kr;obtain ⟨o,ho,hd,hw,hop⟩:=zE (show opk _ 9 _=some (some 78,true,.indexAddr 60 (.tmp 77) (.tmp 75)) by kernel_rfl);refine ⟨o,ho,hd,.inr ⟨hw,?_⟩⟩;rw [yo (kd:=.i64) (t:=60) (e:=62) (K:=2) (bytes:=32) kr (x:=(.tmp 77)) (y:=(.tmp 75)) (gg 8).b 0 (e.n+1) (gg 8).cap e.n rfl hop kr kr (by omega) ww];refine ⟨{ b:=(gg 8).b },rfl,?_⟩;unfold qp at hp ⊢;rw [h8] at hp;rw [show D2.put1 L1 9 8=true from h8];exact ⟨fun _=>rfl,hp.2.1,hp.2.2⟩
 ·refine D2.gives_of fun L1 gg ww hp hN=>?_;have h8:=hN.bef 8 kr;have h9:=hN.bef 9 kr;unfold qp at hp;rw [h8,hN.1] at hp;obtain ⟨hg9,hr',HS⟩:=hp;have hg:=hg9 h9;have hle:=hr'.putA (0+e.n*2) (knd g p n c) (by show 0+e.n*2+2≤(e.n+1)*2;omega);obtain ⟨o,ho,hd,hw,hop⟩:=zE (show opk _ 10 _=some (none,true,.store 62 (.tmp 78) (.tmp 74)) by kernel_rfl);refine ⟨o,ho,hd,.inr ⟨hw,?_⟩⟩;rw [kW (t:=62) (off:=0+e.n*2) (b:=(gg 8).b) (C:=(gg 8).cur) (T:=62) (v:=knd g p n c) (C':=putA (gg 8).cur (0+e.n*2) (knd g p n c)) (HS.get 3 kr) kr kr hle.1 rfl (by rw [←hg];kernel_rfl) kr o hop];refine ⟨default,rfl,?_⟩;unfold qp;rw [show D2.put1 L1 10 8=true from h8,show D2.put1 L1 10 10=true from rfl];exact ⟨fun h=>hg9 h,hr',HS.store 3 (C:=(gg 8).cur) kr⟩
 ·exact D2.gv_op (fun _ _ _ h=>h) _ (fun g=>by kernel_rfl) (fun g o w ho=>yo (kd:=.i64) (t:=60) (e:=62) (K:=2) (bytes:=32) kr (x:=(.tmp 69)) (y:=(.tmp 70)) bo 0 (r.length+1) cap r.length rfl ho kr kr (by omega) w)
 ·exact D2.gv_val (fun _ _ _ h=>h) (fun g w=>by kernel_rfl)
 ·refine D2.gives_of fun L1 gg ww hp hN=>?_;have h8:=hN.bef 8 kr;unfold qp at hp;rw [h8,hN.1] at hp;obtain ⟨hg9,hr',HS⟩:=hp;have hle:=hRw.putA (0+r.length*2+1) (.slice (some ⟨(gg 8).b,0,none⟩) (e.n+1) (gg 8).cap) (by show 0+r.length*2+1+1≤(r.length+1)*2;omega);obtain ⟨o,ho,hd,hw,hop⟩:=zE (show opk _ 13 _=some (none,true,.store 60 (.tmp 80) (.tmp 77)) by kernel_rfl);refine ⟨o,ho,hd,.inr ⟨hw,?_⟩⟩;rw [kW (t:=60) (off:=0+r.length*2+1) (b:=bo) (C:=cur) (T:=62) (v:=.slice (some ⟨(gg 8).b,0,none⟩) (e.n+1) (gg 8).cap) (C':=putA cur (0+r.length*2+1) (.slice (some ⟨(gg 8).b,0,none⟩) (e.n+1) (gg 8).cap)) (HS.get 2 kr) kr kr hle.1 rfl kr kr o hop];refine ⟨default,rfl,?_⟩;unfold qp;rw [show D2.put1 L1 13 8=true from h8,show D2.put1 L1 13 13=true from rfl];exact ⟨fun h=>hg9 h,hr',HS.store 2 (C:=cur) kr⟩
 ·intro L1 gg w14 hall hp;unfold qp at hp;rw [hall 8 (Nat.le_of_ble_eq_true kr),hall 10 (Nat.le_of_ble_eq_true kr),hall 13 (Nat.le_of_ble_eq_true kr)] at hp;obtain ⟨_,hr',H4⟩:=hp;generalize hb':(gg 8).b=b';generalize hcap':(gg 8).cap=cap';generalize hcur':(gg 8).cur=cur';rw [hb',hcur',hcap'] at H4;rw [hcur',hcap'] at hr';have hn:=he.row.len (by decide);have hMl:(zC kS e.M).length=0+e.n*2:=by rw [jl,hn,Nat.zero_add];rfl
  have hnew:Rw 2 (putA cur' (0+e.n*2) (knd g p n c)) cap' (e.n+1) (zC kS (e.M++ [⟨g,p,n,c,k⟩])):=by
   have h1:=(hr'.putA (0+e.n*2) (knd g p n c) (by show 0+e.n*2+2≤(e.n+1)*2;omega)).2;have h2:=zay (X:=zC kS e.M) (Z:=zK.toList) (V:=(knd g p n c).cells.toList) hMl rfl;rw [kf];exact h2▸h1
  obtain ⟨eg,ep,en,ec,erow,eM⟩:=e;have hop:Rw 2 (putA cur (0+r.length*2+1) (.slice (some ⟨b',0,none⟩) (en+1) cap')) cap (r.length+1) (zC kS (opE (⟨eg,some ⟨b',0,none⟩,en+1,cap',[(b',kR (putA cur' (0+en*2) (knd g p n c)))],eM++ [⟨g,p,n,c,k⟩]⟩::r))):=by
   have h1:=(hRw.putA (0+r.length*2+1) (.slice (some ⟨b',0,none⟩) (en+1) cap') (by show 0+r.length*2+1+1≤(r.length+1)*2;omega)).2;have hl:=uy r;have h2:=zay (X:=zC kS (opE r)++ [.int .u8 (eg:Int)]) (Z:=[.slice ep en ec]) (V:=(Value.slice (some ⟨b',0,none⟩) (en+1) cap').cells.toList) (off:=0+r.length*2+1) (by rw [List.length_append,hl];simp) rfl;rw [km];rw [km,show zC kS (opE r)++ [.int .u8 (eg:Int),.slice ep en ec]=(zC kS (opE r)++ [.int .u8 (eg:Int)])++ [.slice ep en ec] by simp] at h1;have h3:(zC kS (opE r)++ [.int .u8 (eg:Int)])++(Value.slice (some ⟨b',0,none⟩) (en+1) cap').cells.toList=zC kS (opE r)++ [.int .u8 (eg:Int),.slice (some ⟨b',0,none⟩) (en+1) cap']:=by
    rw [List.append_assoc];rfl
   exact h3▸(h2▸h1)
  have hok:jH T (i+1) ⟨eg,some ⟨b',0,none⟩,en+1,cap',[(b',kR (putA cur' (0+en*2) (knd g p n c)))],eM++ [⟨g,p,n,c,k⟩]⟩:=
   ⟨.inr ⟨_,_,rfl,rfl,hnew⟩,he.all.snoc hRI trivial,Nat.succ_le_succ he.le⟩
  have htop':=hop.top;have hpush':jE g k ((eg,yM eM)::stM r)=target:=hpush;unfold jE at hpush';rw [←zdj ⟨g,p,n,c,k⟩] at hpush';have hrc:=hop.le;have hBr:eg=42→Bot r:=fun h42=>by
   rcases hBot with ⟨_,h⟩|h
   ·exact absurd (h.symm.trans h42) (by decide)
   ·exact h
  have hin: ∀x∈T,x∈(b',kR (putA cur' (0+en*2) (knd g p n c)))::T:=fun x hx=>List.mem_cons_of_mem _ hx;refine wW<|zb kr ?_;by_cases h42:eg=42
  ·rw [if_pos h42] at hpush';refine rS [.v,.v,.o (ins:=[((.tmp 81),.slice (some ⟨bo,0,none⟩) (r.length+1) cap),((.tmp 82),.int .i64 (r.length:Int))]) (v:=.pointer (some ⟨bo,0+r.length*2,none⟩)) (fun ρ o w ho hi2=>yo (kd:=.i64) (t:=60) (e:=62) (K:=2) (bytes:=32) kr (x:=(.tmp 81)) (y:=(.tmp 82)) bo 0 (r.length+1) cap r.length rfl ho hi2.1 hi2.2.1 (by omega) w),.v,.ls 2 (C:=putA cur (0+r.length*2+1) (.slice (some ⟨b',0,none⟩) (en+1) cap')) (off:=0+r.length*2) (v:=.int .u8 (eg:Int)) htop'.2.2.1,.E (.bool (!((eg:Int)==42))) (.bool false) (za (by rw [h42];rfl))] H4 kr fun gs5 w15 H5=>zh kr kr<|zj kr<|wW<|dL [.v,.v,.o (ins:=[((.tmp 87),.slice (some ⟨bo,0,none⟩) (r.length+1) cap),((.tmp 88),.int .i64 (r.length:Int))]) (v:=.pointer (some ⟨bo,0+r.length*2,none⟩)) (fun ρ o w ho hi2=>yo (kd:=.i64) (t:=60) (e:=62) (K:=2) (bytes:=32) kr (x:=(.tmp 87)) (y:=(.tmp 88)) bo 0 (r.length+1) cap r.length rfl ho hi2.1 hi2.2.1 (by omega) w),.lp 2 (C:=putA cur (0+r.length*2+1) (.slice (some ⟨b',0,none⟩) (en+1) cap')) (off:=0+r.length*2) (n:=2) (W:=#[.int .u8 (eg:Int),.slice (some ⟨b',0,none⟩) (en+1) cap']) htop'.1 htop'.2.1,.v,.v,.o (ins:=[((.tmp 91),.slice (some ⟨bo,0,none⟩) (r.length+1) cap),((.tmp 92),.int .i64 (r.length:Int))]) (v:=.slice (some ⟨bo,0,none⟩) r.length cap) (fun ρ o w ho hi2=>zcb (kd:=.i64) (t:=60) (e:=62) (size:=2) (bytes:=32) kr (x:=(.tmp 91)) (y:=(.tmp 92)) bo (r.length+1) cap r.length ho hi2.1 hi2.2.1 (by omega) w),.s 0,.v] H5 kr fun w16 H6=>?_;have H7:St B w0 w16 ((bd,kdO eg (some ⟨b',0,none⟩) (en+1) cap')::(b2,kdO 0 none 0 0)::(bo,kR (putA cur (0+r.length*2+1) (.slice (some ⟨b',0,none⟩) (en+1) cap')))::([(b',kR (putA cur' (0+en*2) (knd g p n c)))]++(ye r++T))):=H6.as kr;show ∃m,_∧_;refine ⟨r.length,Nat.lt_succ_self _,r,r.length,eg,_,_,_,yM (eM++ [⟨g,p,n,c,k⟩]),(b',kR (putA cur' (0+en*2) (knd g p n c)))::T,bo,cap,_,rfl,rfl,hBr h42,by omega,fun x hx=>(hS x (List.mem_cons_of_mem _ hx)).mono hin (Nat.le_refl _),?_,hpush',Rw.pop (km _ _▸hop) (uy r),H7.perm (List.Perm.cons _ (List.Perm.cons _ (List.Perm.cons _ (List.perm_append_comm_assoc (ye r) [(b',kR (putA cur' (0+en*2) (knd g p n c)))] T)))),(Is.of ⟨kr,kr,kr,kr,kr,kr,kr,trivial⟩)⟩;have:=hok.row.rIn (T:=T) (by decide) hok.all (by have:=hok.le;show en+1≤1000;simp only at this;omega);exact this
  ·rw [if_neg h42] at hpush';refine rS [.v,.v,.o (ins:=[((.tmp 81),.slice (some ⟨bo,0,none⟩) (r.length+1) cap),((.tmp 82),.int .i64 (r.length:Int))]) (v:=.pointer (some ⟨bo,0+r.length*2,none⟩)) (fun ρ o w ho hi2=>yo (kd:=.i64) (t:=60) (e:=62) (K:=2) (bytes:=32) kr (x:=(.tmp 81)) (y:=(.tmp 82)) bo 0 (r.length+1) cap r.length rfl ho hi2.1 hi2.2.1 (by omega) w),.v,.ls 2 (C:=putA cur (0+r.length*2+1) (.slice (some ⟨b',0,none⟩) (en+1) cap')) (off:=0+r.length*2) (v:=.int .u8 (eg:Int)) htop'.2.2.1,.E (.bool (!((eg:Int)==42))) (.bool true) (za (by rw [beq_eq_false_iff_ne.2 (by omega)];rfl))] H4 kr fun gs5 w15 H5=>zi kr kr<|zy 1 kr ?_;show Q (.exit 1) _ _;refine hQ (⟨eg,some ⟨b',0,none⟩,en+1,cap',[(b',kR (putA cur' (0+en*2) (knd g p n c)))],eM++ [(⟨g,p,n,c,k⟩:El Nat)]⟩::r) (r.length+1) T bo cap _ _ _ rfl ?_ hN5' ?_ hpush' hop ?_ (Is.of ⟨kr,kr,kr,kr,kr,kr,trivial⟩)
   ·rcases hBot with ⟨h1,h2⟩|h
    ·exact .inl ⟨h1,h2⟩
    ·exact .inr h
   ·intro x hx;rcases List.mem_cons.1 hx with rfl | hx
    ·exact hok
    ·exact (hS x (List.mem_cons_of_mem _ hx)).mono (fun _ h=>h) (Nat.le_succ _)
   ·have H7:St B w0 w15 ((bd,kdO g p n c)::(b2,kdO 0 none 0 0)::(bo,kR (putA cur (0+r.length*2+1) (.slice (some ⟨b',0,none⟩) (en+1) cap')))::([(b',kR (putA cur' (0+en*2) (knd g p n c)))]++(ye r++T))):=H5.as kr;exact H7.sub (List.sublist_cons_self ..)
end Go.Proofs.YtbpmjppmpgeejaaGreatDoor
