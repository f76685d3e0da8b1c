/-
  Texts of the proof,part 3.
-/
import Derived.Test.YtbpmjppmpgeejaaDoorProg
import Derived.Recover
import Derived.Laws.BitsLemmas
import Derived.Laws.BitsAllLaws
import Derived.Laws.BytesArg
import Derived.Below
import Derived.Laws.Bits64b
import Derived.Lib.Hide
import Derived.ChangeKeysEq
import Derived.Laws.StructEq
import Derived.Laws.Externs
import Derived.Test.YtbpmjppmpgeejaaDoorHO1
import Derived.Test.YtbpmjppmpgeejaaDoorHO2
set_option maxRecDepth 100000
set_option maxHeartbeats 4000000
namespace Go.Proofs.YtbpmjppmpgeejaaDoor
open Go Go.RowKit
set_option linter.unusedVariables false
theorem zec (pb m:Nat)(ih: ∀(out:List UInt8) (l:Bool) (s:ByteArray) (p:Option Addr) (n c:Nat) (k:Fo),s.size≤0x800000000000→List.length out+9+ByteArray.size s+wtF k≤0x800000000000→k.cnt<m→qM Tryd.prog 51 #[.pointer (some ⟨pb,0,none⟩),.agg #[.bool l,.string s,.slice p n c]] (.tuple #[]) pb 93 5 out (out++wr1 l s (szF k) (wrF k)) (fun w=>zp w.heap.size w p n k))(out:List UInt8)(l:Bool)(s:ByteArray)(p:Option Addr)(n c:Nat)(k:Fo)(hs:s.size≤0x800000000000)(hw:List.length out+9+ByteArray.size s+wtF k≤0x800000000000)(hkm:k.cnt<m+1):qM Tryd.prog 51 #[.pointer (some ⟨pb,0,none⟩),.agg #[.bool l,.string s,.slice p n c]] (.tuple #[]) pb 93 5 out (out++wr1 l s (szF k) (wrF k)) (fun w=>zp w.heap.size w p n k):=by
 refine qM.intro (c:=zl Tryd.f51) [] 31 Tryd.func51 kr kr kr fun w0 w E0 hE0 hpre H0=>?_;have hn:=hpre.1;have hnm:=hpre.2.1;refine zh [0] kr kr<|qh H0 (some 3) 74 (.tmp 1) (.agg #[.bool l,.string s,.slice p n c]) kr kr kr ?_;intro b1 w1 H1;clear H0;refine zb<|zd kr<|zh [0,1,2,3] kr kr<|zc (some 6) (.pointer (some ⟨b1,1,none⟩)) (fun w=>by kernel_rfl) kr<|yF H1 (some 7) 9 (.tmp 6) 0 b1 1 #[.bool l,.string s,.slice p n c] 74 (0,0) (.string s) kr kr kr kr kr kr<|qH H1 (some 8) 63 #[.string s] (.bool (zY s)) (zaw s) (fun w=>by kernel_rfl) kr ?_;intro w2 H2;clear H1;cases hq1:zY s
 ·refine zc (some 9) (.bool true) (fun w=>by kernel_rfl) kr<|zb<|zk kr kr ?_;have hsl:=jy k;have hhl:=jx (frm l) (ByteArray.size s+szF k);refine D2.g_draw0 [0,1,2,3,4,5] [(some 10,fun _=>.pointer (some ⟨pb,0,none⟩)),(some 11,fun _=>.agg #[.bool l,.string s,.slice p n c]),(some 12,fun _=>.agg #[.bool l,.string s,.slice p n c]),(some 13,fun _=>.int .u64 ((ByteArray.size s+szF k:Nat):Int)),(some 14,fun _=>.string (zf (hd (frm l) (ByteArray.size s+szF k)))),(some 15,fun _=>.tuple #[.int .i64 (ByteArray.size (zf (hd (frm l) (ByteArray.size s+szF k))):Int),.nilIface])] (yh w0 pb 93 5 (out++tl (zf (hd (frm l) (ByteArray.size s+szF k)))) (b1,Obj.cells #[.bool l,.string s,.slice p n c] 74 (0,0)) E0 5) kr kr kr H2.drew ⟨?_,?_,?_,?_,?_,?_,trivial⟩ ?_
  ·exact zd1 rfl (fun g w=>by kernel_rfl)
  ·exact zaF (C:=#[.bool l,.string s,.slice p n c]) (T':=74) (t:=74) (x:=(.tmp 3)) rfl (fun g=>by kernel_rfl) (fun g=>by kernel_rfl) rfl kr
  ·exact zaF (C:=#[.bool l,.string s,.slice p n c]) (T':=74) (t:=74) (x:=(.tmp 3)) rfl (fun g=>by kernel_rfl) (fun g=>by kernel_rfl) rfl kr
  ·exact zaG (f:=64) (args:=#[.agg #[.bool l,.string s,.slice p n c]]) rfl (zdY l s p n c k hs (by omega)) (fun w hb=>zp.call hpre hb) (fun g w=>by kernel_rfl)
  ·exact zd2 (f:=65) (args:=#[.agg #[.bool l,.string s,.slice p n c],.int .u64 ((ByteArray.size s+szF k:Nat):Int)]) rfl (zax l s p n c (ByteArray.size s+szF k) (by omega)) (fun g w=>by kernel_rfl)
  ·exact zd3 (f:=66) (args:=#[.pointer (some ⟨pb,0,none⟩),.string (zf (hd (frm l) (ByteArray.size s+szF k)))]) rfl hE0 (vF pb out (zf (hd (frm l) (ByteArray.size s+szF k))) (Or.inl (by rw [qm];exact hhl.1)) (by rw [qm];omega)) (fun g w=>by kernel_rfl)
  intro L0 G0 w3 hall HL;clear H2;obtain ⟨E1,hE1,H3⟩:=HL.done (hall 5 (Nat.le_of_ble_eq_true kr));refine wW<|zh [0,1,2,3] kr kr ?_;have hl0:(out++tl (zf (hd (frm l) (ByteArray.size s+szF k)))).length=out.length+(hd (frm l) (ByteArray.size s+szF k)).length:=by rw [List.length_append,jq]
  have hw1:out++wr1 l s (szF k) (wrF k)=(out++tl (zf (hd (frm l) (ByteArray.size s+szF k)))++tl s)++wrF k:=by unfold wr1;rw [if_neg (by rw [hq1];decide),jq];simp only [List.append_assoc]
  have hl1:(out++tl (zf (hd (frm l) (ByteArray.size s+szF k)))++tl s).length=out.length+(hd (frm l) (ByteArray.size s+szF k)).length+ByteArray.size s:=by rw [List.length_append,hl0,zQ]
  refine zc (some 16) (.pointer (some ⟨pb,0,none⟩)) (fun w=>by kernel_rfl) kr<|zc (some 17) (.pointer (some ⟨b1,1,none⟩)) (fun w=>by kernel_rfl) kr<|yF H3 (some 18) 9 (.tmp 17) 0 b1 1 #[.bool l,.string s,.slice p n c] 74 (0,0) (.string s) kr kr kr kr kr kr<|vB (l:=[(b1,Obj.cells #[.bool l,.string s,.slice p n c] 74 (0,0))]) H3 hE1 (some 19) 66 #[.pointer (some ⟨pb,0,none⟩),.string s] (.tuple #[.int .i64 (ByteArray.size s:Int),.nilIface]) ((out++tl (zf (hd (frm l) (ByteArray.size s+szF k))))++tl s) (fun _=>True) (vF pb (out++tl (zf (hd (frm l) (ByteArray.size s+szF k)))) s (Or.inr (by intro q;have h9:=congrArg List.length q;rw [hl0] at h9;simp only [List.length_nil] at h9;omega)) (by rw [hl0];omega)) trivial kr kr ?_;intro E2 w4 hE2 H4;clear H3;refine zb<|zh [0,1,2,3] kr kr<|zc (some 20) (.pointer (some ⟨b1,2,none⟩)) (fun w=>by kernel_rfl) kr<|yF H4 (some 21) 72 (.tmp 20) 0 b1 2 #[.bool l,.string s,.slice p n c] 74 (0,0) (.slice p n c) kr kr kr kr kr kr<|zc (some 22) (.int .i64 (n:Int)) (fun w=>by kernel_rfl) kr<|zc (some 23) (.int .i64 0) (fun w=>by kernel_rfl) kr<|zb<|zw 0 kr ?_;have HD1:St w0.heap.size w0 w4 ([]++E2):=H4.sub (List.Sublist.cons _ (List.Sublist.refl E2));refine yN kr (fun mz ρ ww=> ∃(i:Nat) (r:Fo) (o:List UInt8) (Ez:List (Nat×Obj)),n-i=mz∧(FoR w0.heap.size w0 p i r)∧(i+Fo.len r=n)∧(Fo.cnt r≤Fo.cnt k)∧(List.length o+wtF r≤0x800000000000)∧(out++wr1 l s (szF k) (wrF k)=o++wrF r)∧(BE pb 93 5 o Ez)∧St w0.heap.size w0 ww ([]++Ez)∧Is [(0,.pointer (some ⟨pb,0,none⟩)),(1,.agg #[.bool l,.string s,.slice p n c]),(3,.pointer (some ⟨b1,0,none⟩)),(9,.bool true),(21,.slice p n c),(22,.int .i64 (n:Int)),(23,.int .i64 (i:Int))] ρ) (n-0) ⟨0,k,((out++tl (zf (hd (frm l) (ByteArray.size s+szF k))))++tl s),E2,rfl,(zp.start hpre),(by have hn0:=(hpre).1;omega),(Nat.le_refl _),(by rw [hl1];omega),hw1,hE2,HD1,(Is.of ⟨kr,kr,kr,kr,kr,kr,kr,trivial⟩)⟩ ?_;clear HD1;rintro _ _ w5 ⟨i,r,o,Ez,rfl,hR,hN,hcn,hwt,hout,hEz,H5,_,rfl⟩;refine zh [0] kr kr ?_;by_cases hc2:(i:Nat)<n
  ·refine yz (some 24) (.bool (decide ((i:Int)<(n:Int)))) (.bool true) (fun w=>by kernel_rfl) (za (decide_eq_true (by omega))) kr<|zb<|zd kr<|zk kr kr<|zq kr<|wW<|zd kr<|zw 1 kr<|zh [0,1,2,3] kr kr ?_;obtain ⟨l1,s1,k1,r1,b1,off1,C1,T1,fz1,p1,n1,c1,hr1,hp1,hb1,hh1,hs1,hx1,hz1,hk1,hR1,hN1⟩:=FoR.open hR hN (by omega);refine xz (some 25) _ (.pointer (some ⟨b1,off1+i*3,none⟩)) kr kr (fun o w ho=>jZ (kd:=.i64) (t:=72) (e:=74) (bytes:=48) kr (x:=(.tmp 21)) (y:=(.tmp 23)) b1 off1 n c i hp1 ho kr kr (by omega) w)<|uo H5 (some 26) 74 (.tmp 25) b1 (off1+i*3) 3 C1 #[.bool l1,.string s1,.slice p1 n1 c1] T1 fz1 kr kr kr hh1 hb1 kr hs1 hx1<|ye H5 (some 5) 74 (.agg #[.bool false,.string (⟨#[]⟩),.slice none 0 0]) kr kr kr ?_;intro b2 w6 H6;clear H5;refine yi H6 0 ([(b2,Obj.cells #[.bool l1,.string s1,.slice p1 n1 c1] 74 (0,0))]++Ez) 74 (.tmp 5) (.tmp 26) b2 (0) (#[.bool false,.string (⟨#[]⟩),.slice none 0 0]) #[.bool l1,.string s1,.slice p1 n1 c1] 74 (.agg #[.bool l1,.string s1,.slice p1 n1 c1]) kr kr kr kr kr kr (of_decide_eq_true kr) kr kr ?_;intro w7 H7;clear H6;refine zb<|yj [0,1,2] kr ?_;have hcn1:=hcn;rw [hr1] at hcn1;simp only [Fo.cnt] at hcn1;have hwt1:=hwt;rw [hr1] at hwt1;simp only [wtF] at hwt1;have hwl1:(wr1 l1 s1 (szF k1) (wrF k1)).length≤9+ByteArray.size s1+wtF k1:=by have h9:=xX (.cons l1 s1 k1 .nil);simp only [wrF,wtF,List.append_nil,Nat.add_zero] at h9;exact h9
   refine zc (some 27) (.pointer (some ⟨pb,0,none⟩)) (fun w=>by kernel_rfl) kr<|zT H7 (some 28) 74 (.tmp 5) 0 b2 #[.bool l1,.string s1,.slice p1 n1 c1] 74 (0,0) kr kr kr kr kr ?_;have HD3:St w0.heap.size w0 w7 ([]++Ez):=H7.sub (List.Sublist.cons _ (List.Sublist.refl Ez));refine vC HD3 hEz (some 29) 51 #[.pointer (some ⟨pb,0,none⟩),.agg #[.bool l1,.string s1,.slice p1 n1 c1]] (.tuple #[]) (o++wr1 l1 s1 (szF k1) (wrF k1)) (fun w=>zp w.heap.size w p1 n1 k1) (ih o l1 s1 p1 n1 c1 k1 hz1 (by omega) (by omega)) hk1 kr kr ?_;intro E3 w8 hE3 H8;clear HD3;refine zb<|wW<|yj [0,1] kr<|yz (some 30) (.int .i64 (IntKind.i64.wrap ((i:Int)+1))) (.int .i64 ((i+1:Nat):Int)) (fun w=>by kernel_rfl) (zt (qk (a:=i) (b:=1) (by omega))) kr<|zc (some 23) (.int .i64 ((i+1:Nat):Int)) (fun w=>by kernel_rfl) kr<|zb ?_;show ∃m,_∧_;exact ⟨_,(by omega),(i+1),r1,(o++wr1 l1 s1 (szF k1) (wrF k1)),E3,rfl,hR1,hN1,(by omega),(by rw [List.length_append];omega),(by rw [hout,hr1];simp only [wrF,List.append_assoc]),hE3,H8,(Is.of ⟨kr,kr,kr,kr,kr,kr,kr,trivial⟩)⟩
  ·refine yz (some 24) (.bool (decide ((i:Int)<(n:Int)))) (.bool false) (fun w=>by kernel_rfl) (za (decide_eq_false (by omega))) kr<|zb<|zd kr<|zm kr kr<|yt 0 kr<|wV ?_;have hdn:=FoR.done hN (by omega);rw [hdn] at hout;exact ⟨[],.nil,rfl,_,(by rw [hout,show wrF Fo.nil=[] from rfl,List.append_nil];exact hEz),H5⟩
 ·refine zc (some 9) (.bool false) (fun w=>by kernel_rfl) kr<|zb<|zm kr kr<|zq kr<|wW<|zh [0,1,2,3] kr kr ?_;have hsz1:=qw hq1;have hw1:out++wr1 l s (szF k) (wrF k)=(out++tl s)++wrF k:=by unfold wr1;rw [if_pos hq1,List.nil_append,List.append_assoc]
  have hl1:(out++tl s).length=out.length+ByteArray.size s:=by rw [List.length_append,zQ]
  refine zc (some 16) (.pointer (some ⟨pb,0,none⟩)) (fun w=>by kernel_rfl) kr<|zc (some 17) (.pointer (some ⟨b1,1,none⟩)) (fun w=>by kernel_rfl) kr<|yF H2 (some 18) 9 (.tmp 17) 0 b1 1 #[.bool l,.string s,.slice p n c] 74 (0,0) (.string s) kr kr kr kr kr kr<|vB (l:=[(b1,Obj.cells #[.bool l,.string s,.slice p n c] 74 (0,0))]) H2 hE0 (some 19) 66 #[.pointer (some ⟨pb,0,none⟩),.string s] (.tuple #[.int .i64 (ByteArray.size s:Int),.nilIface]) (out++tl s) (fun _=>True) (vF pb out s (Or.inl (by omega)) (by omega)) trivial kr kr ?_;intro E4 w9 hE4 H9;clear H2;refine zb<|zh [0,1,2,3] kr kr<|zc (some 20) (.pointer (some ⟨b1,2,none⟩)) (fun w=>by kernel_rfl) kr<|yF H9 (some 21) 72 (.tmp 20) 0 b1 2 #[.bool l,.string s,.slice p n c] 74 (0,0) (.slice p n c) kr kr kr kr kr kr<|zc (some 22) (.int .i64 (n:Int)) (fun w=>by kernel_rfl) kr<|zc (some 23) (.int .i64 0) (fun w=>by kernel_rfl) kr<|zb<|zw 0 kr ?_;have HD4:St w0.heap.size w0 w9 ([]++E4):=H9.sub (List.Sublist.cons _ (List.Sublist.refl E4));refine yN kr (fun mz ρ ww=> ∃(i:Nat) (r:Fo) (o:List UInt8) (Ez:List (Nat×Obj)),n-i=mz∧(FoR w0.heap.size w0 p i r)∧(i+Fo.len r=n)∧(Fo.cnt r≤Fo.cnt k)∧(List.length o+wtF r≤0x800000000000)∧(out++wr1 l s (szF k) (wrF k)=o++wrF r)∧(BE pb 93 5 o Ez)∧St w0.heap.size w0 ww ([]++Ez)∧Is [(0,.pointer (some ⟨pb,0,none⟩)),(1,.agg #[.bool l,.string s,.slice p n c]),(3,.pointer (some ⟨b1,0,none⟩)),(9,.bool false),(21,.slice p n c),(22,.int .i64 (n:Int)),(23,.int .i64 (i:Int))] ρ) (n-0) ⟨0,k,(out++tl s),E4,rfl,(zp.start hpre),(by have hn0:=(hpre).1;omega),(Nat.le_refl _),(by rw [hl1];omega),hw1,hE4,HD4,(Is.of ⟨kr,kr,kr,kr,kr,kr,kr,trivial⟩)⟩ ?_;clear HD4;rintro _ _ w10 ⟨i,r,o,Ez,rfl,hR,hN,hcn,hwt,hout,hEz,H10,_,rfl⟩;refine zh [0] kr kr ?_;by_cases hc5:(i:Nat)<n
  ·refine yz (some 24) (.bool (decide ((i:Int)<(n:Int)))) (.bool true) (fun w=>by kernel_rfl) (za (decide_eq_true (by omega))) kr<|zb<|zd kr<|zk kr kr<|zq kr<|wW<|zd kr<|zw 1 kr<|zh [0,1,2,3] kr kr ?_;obtain ⟨l2,s2,k2,r2,b2,off2,C2,T2,fz2,p2,n2,c2,hr2,hp2,hb2,hh2,hs2,hx2,hz2,hk2,hR2,hN2⟩:=FoR.open hR hN (by omega);refine xz (some 25) _ (.pointer (some ⟨b2,off2+i*3,none⟩)) kr kr (fun o w ho=>jZ (kd:=.i64) (t:=72) (e:=74) (bytes:=48) kr (x:=(.tmp 21)) (y:=(.tmp 23)) b2 off2 n c i hp2 ho kr kr (by omega) w)<|uo H10 (some 26) 74 (.tmp 25) b2 (off2+i*3) 3 C2 #[.bool l2,.string s2,.slice p2 n2 c2] T2 fz2 kr kr kr hh2 hb2 kr hs2 hx2<|ye H10 (some 5) 74 (.agg #[.bool false,.string (⟨#[]⟩),.slice none 0 0]) kr kr kr ?_;intro b3 w11 H11;clear H10;refine yi H11 0 ([(b3,Obj.cells #[.bool l2,.string s2,.slice p2 n2 c2] 74 (0,0))]++Ez) 74 (.tmp 5) (.tmp 26) b3 (0) (#[.bool false,.string (⟨#[]⟩),.slice none 0 0]) #[.bool l2,.string s2,.slice p2 n2 c2] 74 (.agg #[.bool l2,.string s2,.slice p2 n2 c2]) kr kr kr kr kr kr (of_decide_eq_true kr) kr kr ?_;intro w12 H12;clear H11;refine zb<|yj [0,1,2] kr ?_;have hcn2:=hcn;rw [hr2] at hcn2;simp only [Fo.cnt] at hcn2;have hwt2:=hwt;rw [hr2] at hwt2;simp only [wtF] at hwt2;have hwl2:(wr1 l2 s2 (szF k2) (wrF k2)).length≤9+ByteArray.size s2+wtF k2:=by have h9:=xX (.cons l2 s2 k2 .nil);simp only [wrF,wtF,List.append_nil,Nat.add_zero] at h9;exact h9
   refine zc (some 27) (.pointer (some ⟨pb,0,none⟩)) (fun w=>by kernel_rfl) kr<|zT H12 (some 28) 74 (.tmp 5) 0 b3 #[.bool l2,.string s2,.slice p2 n2 c2] 74 (0,0) kr kr kr kr kr ?_;have HD6:St w0.heap.size w0 w12 ([]++Ez):=H12.sub (List.Sublist.cons _ (List.Sublist.refl Ez));refine vC HD6 hEz (some 29) 51 #[.pointer (some ⟨pb,0,none⟩),.agg #[.bool l2,.string s2,.slice p2 n2 c2]] (.tuple #[]) (o++wr1 l2 s2 (szF k2) (wrF k2)) (fun w=>zp w.heap.size w p2 n2 k2) (ih o l2 s2 p2 n2 c2 k2 hz2 (by omega) (by omega)) hk2 kr kr ?_;intro E5 w13 hE5 H13;clear HD6;refine zb<|wW<|yj [0,1] kr<|yz (some 30) (.int .i64 (IntKind.i64.wrap ((i:Int)+1))) (.int .i64 ((i+1:Nat):Int)) (fun w=>by kernel_rfl) (zt (qk (a:=i) (b:=1) (by omega))) kr<|zc (some 23) (.int .i64 ((i+1:Nat):Int)) (fun w=>by kernel_rfl) kr<|zb ?_;show ∃m,_∧_;exact ⟨_,(by omega),(i+1),r2,(o++wr1 l2 s2 (szF k2) (wrF k2)),E5,rfl,hR2,hN2,(by omega),(by rw [List.length_append];omega),(by rw [hout,hr2];simp only [wrF,List.append_assoc]),hE5,H13,(Is.of ⟨kr,kr,kr,kr,kr,kr,kr,trivial⟩)⟩
  ·refine yz (some 24) (.bool (decide ((i:Int)<(n:Int)))) (.bool false) (fun w=>by kernel_rfl) (za (decide_eq_false (by omega))) kr<|zb<|zd kr<|zm kr kr<|yt 0 kr<|wV ?_;have hdn:=FoR.done hN (by omega);rw [hdn] at hout;exact ⟨[],.nil,rfl,_,(by rw [hout,show wrF Fo.nil=[] from rfl,List.append_nil];exact hEz),H10⟩
theorem zed (pb:Nat)(out:List UInt8)(l:Bool)(s:ByteArray)(p:Option Addr)(n c:Nat)(k:Fo)(hs:s.size≤0x800000000000)(hw:List.length out+9+ByteArray.size s+wtF k≤0x800000000000):qM Tryd.prog 51 #[.pointer (some ⟨pb,0,none⟩),.agg #[.bool l,.string s,.slice p n c]] (.tuple #[]) pb 93 5 out (out++wr1 l s (szF k) (wrF k)) (fun w=>zp w.heap.size w p n k):=by
 have key: ∀(m:Nat) (out:List UInt8) (l:Bool) (s:ByteArray) (p:Option Addr) (n c:Nat) (k:Fo),s.size≤0x800000000000→List.length out+9+ByteArray.size s+wtF k≤0x800000000000→k.cnt<m→qM Tryd.prog 51 #[.pointer (some ⟨pb,0,none⟩),.agg #[.bool l,.string s,.slice p n c]] (.tuple #[]) pb 93 5 out (out++wr1 l s (szF k) (wrF k)) (fun w=>zp w.heap.size w p n k):=by
  intro m
  induction m with
  | zero=>intros;omega
  | succ m ih=>intro out l s p n c k hs hw hkm;exact zec pb m ih out l s p n c k hs hw hkm
 exact key (k.cnt+1) out l s p n c k hs hw (by omega)
def FnO (P:Program)(f:Nat)(args:Array Value)(v:Value)(p:Nat)(T e:TypeId)(out:List UInt8):Prop:=
 ∀(w0 w:World) (E:List (Nat×Obj)),BE p T e out E→St w0.heap.size w0 w E→Calls P f args w fun r w'=>r=.returned v∧St w0.heap.size w0 w' []
theorem zee {P:Program}{N:Nat}{ops:Array Oper}{i:Nat}{r:List Nat}{K:Env→World→Prop}{ρ:Env}{w:World}{w0:World}{E:List (Nat×Obj)}(HS:St w0.heap.size w0 w E){p:Nat}{T e:TypeId}{out:List UInt8}(hE:BE p T e out E)(d:Option Nat)(f:Nat)(args:Array Value)(v:Value)(hc:FnO P f args v p T e out)
 (h:opv P ops i ρ w=some (d,true,.ok (.enter f args) w)) (hd:dOK d N=true) (kk: ∀w',St w0.heap.size w0 w' []→WPs P N ops K r (zj ρ d v) w'):WPs P N ops K (i::r) ρ w:=by
 obtain ⟨o,ho,rfl,hw,hr⟩:=zN h;refine WPo.run ho hw fun a ha=>?_;rw [hr,Oper.upon_enter];refine (hc w0 w E hE HS).mono ?_;rintro _ w' ⟨rfl,hS⟩;exact ⟨_,ha.put _ (zJ hd) v,kk w' hS⟩
theorem zef (pb b n cap:Nat)(cur:Array Value)(out:List UInt8)(a:Option Addr)(hn:n=out.length)(hr:Rw 1 cur cap n (cellsB out))(h0:0<n)(hm:n≤0x800000000000)(hcap:cap≠0)(w0 w:World)(H0:St w0.heap.size w0 w [(b,Obj.cells cur 5 (0,0)),(pb,Obj.cells #[.pointer a,.slice (some ⟨b,0,none⟩) n cap] 93 (0,0))]):WP Tryd.prog 14 (zl Tryd.f52) (zW Tryd.prog [.tmp 2] fun v' w'=>v'=.string (zf out)∧St w0.heap.size w0 w' []) (ini #[.pointer (some ⟨pb,0,none⟩)]) w:=by
 refine zh [0] kr kr<|zc (some 2) (.string (⟨#[]⟩)) (fun w=>by kernel_rfl) kr<|zb<|D2.g_sdraw [0,1,2,3,4,5,6,7,8,9,10,11] [(some 3,fun _=>.pointer (some ⟨pb,0,none⟩)),(some 4,fun _=>.pointer (some ⟨pb,0,none⟩)),(some 5,fun _=>.pointer (some ⟨pb,1,none⟩)),(some 6,fun _=>.slice (some ⟨b,0,none⟩) n cap),(some 7,fun _=>.pointer (some ⟨b,0,none⟩)),(some 8,fun _=>.pointer (some ⟨pb,0,none⟩)),(some 9,fun _=>.pointer (some ⟨pb,0,none⟩)),(some 10,fun _=>.pointer (some ⟨pb,1,none⟩)),(some 11,fun _=>.slice (some ⟨b,0,none⟩) n cap),(some 12,fun _=>.int .i64 (n:Int)),(some 13,fun _=>.string (zf out)),(some 2,fun _=>.string (zf out))] (yR w0 [(b,Obj.cells cur 5 (0,0)),(pb,Obj.cells #[.pointer a,.slice (some ⟨b,0,none⟩) n cap] 93 (0,0))] 10) kr kr kr kr H0.drew ⟨?_,?_,?_,?_,?_,?_,?_,?_,?_,?_,?_,?_,trivial⟩ ?_
 ·exact qN rfl (fun g w=>by kernel_rfl)
 ·exact qN rfl (fun g w=>by kernel_rfl)
 ·exact qN rfl (fun g w=>by kernel_rfl)
 ·exact vD rfl (fun L hN=>(hN.2.2.no 4 10 kr (hN.post 4 kr))) (.load 56 (.tmp 5)) (fun g=>by kernel_rfl) (fun g w o hS ho=>hS.load1_run (j:=1) (b:=pb) (off:=1) (C:=#[.pointer a,.slice (some ⟨b,0,none⟩) n cap]) (T:=93) kr kr kr kr o ho)
 ·exact vD rfl (fun L hN=>(hN.post 10 kr)) (vE 56 (.tmp 6)) (fun g=>by kernel_rfl) (fun g w o hS ho=>zd5 (a:=⟨b,0,none⟩) (n:=n) (c:=cap) kr (by omega) o ho)
 ·exact qN rfl (fun g w=>by kernel_rfl)
 ·exact qN rfl (fun g w=>by kernel_rfl)
 ·exact qN rfl (fun g w=>by kernel_rfl)
 ·exact vD rfl (fun L hN=>(hN.2.2.no 9 10 kr (hN.post 9 kr))) (.load 56 (.tmp 10)) (fun g=>by kernel_rfl) (fun g w o hS ho=>hS.load1_run (j:=1) (b:=pb) (off:=1) (C:=#[.pointer a,.slice (some ⟨b,0,none⟩) n cap]) (T:=93) kr kr kr kr o ho)
 ·exact qN rfl (fun g w=>by kernel_rfl)
 ·exact zd4 rfl (vi 113 3 (.tmp 7) (.tmp 12)) (fun g=>by kernel_rfl) (fun g w o hS ho=>zd6 (j:=0) (b:=b) (n:=n) (cap:=cap) (C:=cur) (e:=5) hS kr kr kr kr kr hr (by omega) (by omega) o ho)
 ·exact qN rfl (fun g w=>by kernel_rfl)
 intro L0 G0 w1 hall HL;clear H0;have H1:St w0.heap.size w0 w1 []:=by unfold yR at HL;rw [hall 10 (Nat.le_of_ble_eq_true kr)] at HL;exact HL
 refine zo kr<|wV ?_;exact ⟨[.string (zf out)],.tmp _ kr .nil,rfl,H1⟩
theorem zeg (pb:Nat)(out:List UInt8)(h0:0<out.length)(hm:out.length≤0x800000000000):FnO Tryd.prog 52 #[.pointer (some ⟨pb,0,none⟩)] (.string (zf out)) pb 93 5 out:=fun w0 w E hE HS=>by
 rcases hE with ⟨a,ha⟩|⟨a,b,n,cap,cur,_,ha,hn,hr⟩
 ·simp at h0
 ·have h9:Calls Tryd.prog 52 #[.pointer (some ⟨pb,0,none⟩)] w fun r w'=> ∃v',r=.returned v'∧(v'=.string (zf out)∧St w0.heap.size w0 w' []):=
   qE (c:=zl Tryd.f52) (rs:=[.tmp 2]) (N:=14) Tryd.func52 kr kr kr (zef pb b n cap cur out a hn hr (by omega) (by omega) (by have:=hr.le;omega) w0 w HS)
  refine h9.mono ?_;rintro _ w' ⟨v',he,hv,hS⟩;exact ⟨by rw [he,hv],hS⟩
theorem zeh (l:Bool)(s:ByteArray)(p:Option Addr)(n c:Nat)(k:Fo)(hs:s.size≤0x800000000000):FnP Tryd.prog 36 #[.agg #[.bool l,.string s,.slice p n c]] (fun w=>zp w.heap.size w p n k) (xd (yb l s n k)):=by
 refine FnP.intro (c:=zl Tryd.f36) [.tmp 2,.tmp 3] 20 Tryd.func36 kr kr kr fun w hpre=>?_;have H0:=St.start w;have hn:=hpre.1;have hnm:=hpre.2.1;have hdl:=xY k;refine zh [0,1,2] kr kr<|qh H0 (some 1) 74 (.tmp 0) (.agg #[.bool l,.string s,.slice p n c]) kr kr kr ?_;intro b1 w1 H1;clear H0;refine zc (some 2) (.string (⟨#[]⟩)) (fun w=>by kernel_rfl) kr<|zc (some 3) (.int .i64 0) (fun w=>by kernel_rfl) kr<|zb<|zd kr<|zw 0 kr<|zh [0,1,2,3] kr kr<|zT H1 (some 6) 74 (.tmp 1) 0 b1 #[.bool l,.string s,.slice p n c] 74 (0,0) kr kr kr kr kr<|qI H1 (some 7) 48 #[.agg #[.bool l,.string s,.slice p n c],.int .i64 4000] (fun w=>zp w.heap.size w p n k) (.int .i64 (lfV (lf1 l s n (lfF k) 4000))) (zdS l s p n c k (by omega) 4000 (by omega)) (zp.call hpre H1.below) (fun w=>by kernel_rfl) kr ?_;intro w2 H2;clear H1;rcases zaq (lf1 l s n (lfF k) 4000) with hv1 | ⟨y,hv1⟩
 ·refine yH 7 (v:=.int .i64 (lfV (lf1 l s n (lfF k) 4000))) (v':=.int .i64 (-1)) (zt (by rw [hv1];rfl)) kr<|zc (some 8) (.bool true) (fun w=>by kernel_rfl) kr<|zc (some 5) (.bool true) (fun w=>by kernel_rfl) kr<|zb<|zk kr kr<|zh [0,1] kr kr<|zc (some 2) (.string (⟨#[]⟩)) (fun w=>by kernel_rfl) kr<|zc (some 3) (.int .i64 1) (fun w=>by kernel_rfl) kr<|zb<|zo kr<|wV ?_;exact ⟨[.string (⟨#[]⟩),.int .i64 1],(.tmp (.string (⟨#[]⟩)) kr (.tmp (.int .i64 1) kr .nil)),(zdL hv1).symm,H2.below⟩
 ·refine yH 7 (v:=.int .i64 (lfV (lf1 l s n (lfF k) 4000))) (v':=.int .i64 (y:Int)) (zt (by rw [hv1];rfl)) kr ?_;have hok:=zat hv1;have hcn:k.cnt<4000:=hok.2.2;have hwt:=hpre.wt;refine yz (some 8) (.bool (decide ((y:Int)<0))) (.bool false) (fun w=>by kernel_rfl) (za (decide_eq_false (by omega))) kr<|zc (some 5) (.bool false) (fun w=>by kernel_rfl) kr<|zb<|zm kr kr<|zh [0,1,2,3] kr kr<|zT H2 (some 10) 74 (.tmp 1) 0 b1 #[.bool l,.string s,.slice p n c] 74 (0,0) kr kr kr kr kr<|qI H2 (some 11) 49 #[.agg #[.bool l,.string s,.slice p n c]] (fun w=>zp w.heap.size w p n k) (.int .i64 ((dp1 l (dpF k):Nat):Int)) (zdU l s p n c k (by omega) (by omega)) (zp.call hpre H2.below) (fun w=>by kernel_rfl) kr ?_;intro w3 H3;clear H2;by_cases hc1:(dp1 l (dpF k):Nat)>8
  ·refine yz (some 12) (.bool (decide (8<((dp1 l (dpF k):Nat):Int)))) (.bool true) (fun w=>by kernel_rfl) (za (decide_eq_true (by omega))) kr<|zc (some 9) (.bool true) (fun w=>by kernel_rfl) kr<|zb<|zk kr kr<|zh [0,1] kr kr<|zc (some 2) (.string (⟨#[]⟩)) (fun w=>by kernel_rfl) kr<|zc (some 3) (.int .i64 5) (fun w=>by kernel_rfl) kr<|zb<|zo kr<|wV ?_;exact ⟨[.string (⟨#[]⟩),.int .i64 5],(.tmp (.string (⟨#[]⟩)) kr (.tmp (.int .i64 5) kr .nil)),(zdM hv1 (by omega)).symm,H3.below⟩
  ·refine yz (some 12) (.bool (decide (8<((dp1 l (dpF k):Nat):Int)))) (.bool false) (fun w=>by kernel_rfl) (za (decide_eq_false (by omega))) kr<|zc (some 9) (.bool false) (fun w=>by kernel_rfl) kr<|zb<|zm kr kr<|zh [0,1,2,3] kr kr<|zT H3 (some 14) 74 (.tmp 1) 0 b1 #[.bool l,.string s,.slice p n c] 74 (0,0) kr kr kr kr kr<|qI H3 (some 15) 50 #[.agg #[.bool l,.string s,.slice p n c]] (fun w=>zp w.heap.size w p n k) (.int .u64 ((sz1 l s (szF k):Nat):Int)) (zaz l s p n c k (by omega) (by omega)) (zp.call hpre H3.below) (fun w=>by kernel_rfl) kr ?_;intro w4 H4;clear H3;by_cases hc2:(sz1 l s (szF k):Nat)>4000
   ·refine yz (some 16) (.bool (decide (4000<((sz1 l s (szF k):Nat):Int)))) (.bool true) (fun w=>by kernel_rfl) (za (decide_eq_true (by omega))) kr<|zc (some 13) (.bool true) (fun w=>by kernel_rfl) kr<|zb<|zk kr kr<|zh [0,1] kr kr<|zc (some 2) (.string (⟨#[]⟩)) (fun w=>by kernel_rfl) kr<|zc (some 3) (.int .i64 2) (fun w=>by kernel_rfl) kr<|zb<|zo kr<|wV ?_;exact ⟨[.string (⟨#[]⟩),.int .i64 2],(.tmp (.string (⟨#[]⟩)) kr (.tmp (.int .i64 2) kr .nil)),(zdN hv1 (by omega) (by omega)).symm,H4.below⟩
   ·refine yz (some 16) (.bool (decide (4000<((sz1 l s (szF k):Nat):Int)))) (.bool false) (fun w=>by kernel_rfl) (za (decide_eq_false (by omega))) kr<|zc (some 13) (.bool false) (fun w=>by kernel_rfl) kr<|zb<|zm kr kr<|zq kr<|wW<|zh [0] kr kr ?_;have hpw:=zdP hok.1 hok.2.1 (show sz1 l s (szF k)≤4000 by omega) (by omega);refine ye H4 (some 4) 93 (.agg #[.pointer none,.slice none 0 0]) kr kr kr ?_;intro b2 w5 H5;clear H4;refine zb<|zh [0,1] kr kr<|zT H5 (some 17) 74 (.tmp 1) 1 b1 #[.bool l,.string s,.slice p n c] 74 (0,0) kr kr kr kr kr ?_;have HD3:St w.heap.size w w5 [(b2,Obj.cells #[.pointer none,.slice none 0 0] 93 (0,0))]:=H5.sub (List.Sublist.cons_cons _ (List.Sublist.cons _ List.Sublist.slnil));have hE0:BE b2 93 5 [] [(b2,Obj.cells #[.pointer none,.slice none 0 0] 93 (0,0))]:=BE.nil none (Or.inl rfl);refine vC HD3 hE0 (some 18) 51 #[.pointer (some ⟨b2,0,none⟩),.agg #[.bool l,.string s,.slice p n c]] (.tuple #[]) ([]++wr1 l s (szF k) (wrF k)) (fun w=>zp w.heap.size w p n k) (zed b2 [] l s p n c k hs (by simp only [List.length_nil];omega)) hpre kr kr ?_;intro E1 w6 hE1 H6;clear HD3;refine zb<|zh [0,1,2] kr kr ?_;rw [List.nil_append] at hE1;refine zee H6 hE1 (some 19) 52 #[.pointer (some ⟨b2,0,none⟩)] (.string (zf (wr1 l s (szF k) (wrF k)))) (zeg b2 (wr1 l s (szF k) (wrF k)) (ka hok.1 hok.2.1 (by omega)).1 (by have h9:=(ka hok.1 hok.2.1 (by omega)).2;omega)) kr kr ?_;intro w7 H7;clear H6;refine zc (some 2) (.string (zf (wr1 l s (szF k) (wrF k)))) (fun w=>by kernel_rfl) kr<|zc (some 3) (.int .i64 0) (fun w=>by kernel_rfl) kr<|zb<|zo kr<|wV ?_;exact ⟨[.string (zf (wr1 l s (szF k) (wrF k))),.int .i64 0],(.tmp (.string (zf (wr1 l s (szF k) (wrF k)))) kr (.tmp (.int .i64 0) kr .nil)),(zdO hv1 (by omega) (by omega)).symm,H7.below⟩
structure X3 where
 l:Bool
 s:ByteArray
 p:Option Addr
 n:Nat
 c:Nat
 k:Fo
def cells3:List X3→List Value
 | []=>[]
 | x::r=>.bool x.l ::.string x.s ::.slice x.p x.n x.c::cells3 r
def toFo:List X3→Fo
 | []=>.nil
 | x::r=>.cons x.l x.s x.k (toFo r)
theorem zaH: ∀L,(toFo L).len=L.length
 | []=>rfl
 | x::r=>by simp only [toFo,Fo.len,List.length_cons,zaH r]
theorem jb: ∀L,(cells3 L).length=L.length*3
 | []=>rfl
 | x::r=>by simp only [cells3,List.length_cons,jb r];omega
theorem zaI: ∀L M,cells3 (L++M)=cells3 L++cells3 M
 | [],M=>rfl
 | x::r,M=>by simp only [List.cons_append,cells3,zaI r M]
theorem zaJ: ∀L,∀u∈cells3 L,u.oneCell'=true
 | [],u,h=>nomatch h
 | x::r,u,h=>by
  simp only [cells3,List.mem_cons] at h;rcases h with rfl | rfl | rfl | h
  ·rfl
  ·rfl
  ·rfl
  ·exact zaJ r u h
theorem zaK: ∀(L:List X3) (i:Nat) (x:X3),L[i]? =some x→(cells3 L)[i*3]? =some (.bool x.l)∧(cells3 L)[i*3+1]? =some (.string x.s)∧(cells3 L)[i*3+2]? =some (.slice x.p x.n x.c)
 | [],_,_,h=>by simp at h
 | y::r,0,x,h=>by simp at h;subst h;exact ⟨rfl,rfl,rfl⟩
 | y::r,i+1,x,h=>by
  obtain ⟨h1,h2,h3⟩:=zaK r i x (by simpa using h);rw [show (i+1)*3=i*3+3 by omega];exact ⟨h1,h2,h3⟩
theorem ex3 {C:Array Value}{o:Nat}{a b c:Value}(h1:C[o]? =some a)(h2:C[o+1]? =some b)(h3:C[o+2]? =some c):o+3≤C.size∧C.extract o (o+3)=#[a,b,c]:=by
 have hl:=(Array.getElem?_eq_some_iff.1 h3).1;refine ⟨by omega,?_⟩;apply Array.ext
 ·simp;omega
 ·intro j hj1 hj2;simp at hj1 hj2;rcases (show j=0∨j=1∨j=2 by omega) with rfl | rfl | rfl
  ·have:=(Array.getElem?_eq_some_iff.1 h1).2;simpa using this
  ·have:=(Array.getElem?_eq_some_iff.1 h2).2;simpa using this
  ·have:=(Array.getElem?_eq_some_iff.1 h3).2;simpa using this
theorem Rw.at3 {cur:Array Value}{cap n:Nat}{L:List X3}(h:Rw 3 cur cap n (cells3 L)){i:Nat}{x:X3}(hx:L[i]? =some x):cur[i*3]? =some (.bool x.l)∧cur[i*3+1]? =some (.string x.s)∧cur[i*3+2]? =some (.slice x.p x.n x.c):=by
 have hl:=h.len;rw [jb] at hl;have hi:i<L.length:=(List.getElem?_eq_some_iff.1 hx).1;obtain ⟨h1,h2,h3⟩:=zaK L i x hx;refine ⟨?_,?_,?_⟩
 ·rw [h.get _ (by omega)];exact h1
 ·rw [h.get _ (by omega)];exact h2
 ·rw [h.get _ (by omega)];exact h3
def val (l:List UInt8):Nat:=l.foldl (fun n b=>n*256+b.toNat) 0
theorem vG (l:List UInt8)(b:UInt8):val (l++ [b])=val l*256+b.toNat:=by unfold val;rw [List.foldl_append];rfl
def kb (s:ByteArray):Bool:=decide (1≤s.size)&&decide (s.extract 0 1=⟨#[0]⟩)
def ke (s:ByteArray):Nat×Bool:=if 8<s.size∨kb s=true then (0,false) else (val (tl s),true)
def kf (l:Bool)(s:ByteArray)(n:Nat):Nat×Nat:=if l=true∨n≠0∨(ke s).2=false then (0,4) else ((ke s).1,0)
theorem zaL: ∀l:List UInt8,val l.reverse<256^l.length
 | []=>by decide
 | b::l=>by
  rw [List.reverse_cons,vG,List.length_cons,Nat.pow_succ];have:=zaL l;have:=b.toNat_lt;omega
theorem zei (l:List UInt8):val l<256^l.length:=by have:=zaL l.reverse;rwa [List.reverse_reverse,List.length_reverse] at this
theorem zej {l:List UInt8}(h:l.length≤8):val l<0x10000000000000000:=
 Nat.lt_of_lt_of_le (zei l) (Nat.le_trans (Nat.pow_le_pow_right (by decide) h) (by decide))
theorem vH: ∀(m:Nat) (l:List UInt8),l.length≤m→beI m (val l.reverse)=List.replicate (m-l.length) 0++l.reverse
 | 0,l,h=>by
  have:l=[]:=List.eq_nil_of_length_eq_zero (by omega);subst this;rfl
 | m+1,[],_=>by
  have:=vH m [] (Nat.zero_le _);simp only [List.reverse_nil,List.append_nil,List.length_nil,Nat.sub_zero] at this ⊢;show beI m (val [] / 256)++ [UInt8.ofNat (val [])]=_;rw [show val [] / 256=val [] from rfl,this,List.replicate_succ'];rfl
 | m+1,b::l,h=>by
  have hl:l.length≤m:=by simpa using h
  have hb:=b.toNat_lt;rw [List.reverse_cons,vG];show beI m ((val l.reverse*256+b.toNat) / 256)++ [UInt8.ofNat (val l.reverse*256+b.toNat)]=_;rw [show (val l.reverse*256+b.toNat) / 256=val l.reverse by omega,vH m l hl];have e:UInt8.ofNat (val l.reverse*256+b.toNat)=b:=by
   apply UInt8.toNat_inj.1;rw [UInt8.toNat_ofNat'];omega
  rw [e,List.length_cons,Nat.add_sub_add_right,List.append_assoc]
theorem zaM (l:List UInt8): ∀m,(List.replicate m 0++l).dropWhile (·==0)=l.dropWhile (·==0)
 | 0=>rfl
 | m+1=>by rw [List.replicate_succ,List.cons_append,List.dropWhile_cons,if_pos (by decide)];exact zaM l m
theorem zek {l:List UInt8}(h:l.length≤8):dg (val l)=l.dropWhile (·==0):=by
 have h1:=vH 8 l.reverse (by rw [List.length_reverse];exact h);rw [List.reverse_reverse] at h1;have h2:=vz 8 (val l) (zej h);show dgI 8 (val l)=_;rw [←h2,h1,zaM]
theorem zel {s:ByteArray}(h:1≤s.size):s.extract 0 1=⟨#[0]⟩↔by_ s 0=0:=by
 obtain ⟨l,e⟩:=xb (t:=s) (by omega);have hb:=uR s 0;constructor
 ·intro q;have:=congrArg tl q;rw [jQ,e] at this;have h3:UInt8.ofNat (by_ s 0)=0:=by
   have h4:(List.drop 0 (List.take 1 (UInt8.ofNat (by_ s 0)::l)))=[UInt8.ofNat (by_ s 0)]:=rfl;rw [h4] at this;exact (List.cons.inj this).1
  have h5:=congrArg UInt8.toNat h3;rw [UInt8.toNat_ofNat_of_lt' (by simpa using hb)] at h5;exact h5
 ·intro q;apply jr;rw [jQ,e,q];rfl
theorem zem {s:ByteArray}(h:s.size≤8):(zf (dg (val (tl s)))=s)↔kb s=false:=by
 rw [zek (by rw [zQ];exact h)];unfold kb;by_cases h1:1≤s.size
 ·rw [decide_eq_true h1,Bool.true_and,decide_eq_false_iff_not,zel h1];constructor
  ·intro q h0;obtain ⟨l,e⟩:=xb (t:=s) (by omega);have:=congrArg (fun t=>(tl t).length) q;simp only [jq] at this;rw [e,h0,List.dropWhile_cons,if_pos (by decide)] at this;have h6:=(List.dropWhile_suffix (p:=fun x:UInt8=>x==0) (l:=l)).length_le;simp only [List.length_cons] at this;omega
  ·intro h0;exact xZ s (.inr h0)
 ·have:s.size=0:=by omega
  constructor
  ·intro _;rw [decide_eq_false h1];rfl
  ·intro _;exact xZ s (.inl this)
theorem zen (m:Nat): ∀n,n<256^m→val (dgI m n)=n:=by
 induction m with
 | zero=>intro n h;have:n=0:=by simpa using h
         subst this;rfl
 | succ m ih=>
  intro n h;unfold dgI;split
  ·rename_i h0;subst h0;rfl
  ·rw [vG,ih (n / 256) (by rw [Nat.pow_succ] at h;omega),UInt8.toNat_ofNat'];omega
theorem kg {n:Nat}(h:n<0x10000000000000000):val (dg n)=n:=zen 8 n h
theorem zeo {n:Nat}(h:n<0x10000000000000000):ke (zf (dg n))=(n,true):=by
 have hl:=yQ n;have hp:kb (zf (dg n))=false:=(zem (by rw [qm];exact hl)).1 (by rw [jq,kg h]);unfold ke;rw [if_neg (by rw [hp,qm];simp;omega),jq,kg h]
theorem zep {n:Nat}(h:n<0x10000000000000000):kf false (zf (dg n)) 0=(n,0):=by
 unfold kf;rw [zeo h];simp
theorem zeq (n:Nat)(hn:n<0x10000000000000000):Fn Tryd.prog 53 #[.int .u64 (n:Int)] (.agg #[.bool false,.string (zf (dg n)),.slice none 0 0]):=by
 refine Fn.intro (c:=zl Tryd.f53) [.cell 2 74] 6 Tryd.func53 kr kr kr fun w=>?_;have H0:=St.start w;refine rS [.a] H0 kr fun gs1 w1 H1=>?_;clear H0;refine rS [.v,.c (vA n (by omega)),.v,.s 0] H1 kr fun gs2 w2 H2=>?_;clear H1;refine zo kr<|wV ?_;refine ⟨[.agg #[.bool false,.string (zf (dg n)),.slice none 0 0]],(.agg (b:=(gs1 0).b) #[.bool false,.string (zf (dg n)),.slice none 0 0] 74 (0,0) kr (H2.get 0 kr) kr .nil),?_,H2.below⟩;rfl
theorem kh {a b:Nat}(ha:a<256)(hb:b<256)(h:UInt8.ofNat a=UInt8.ofNat b):a=b:=by
 have:=congrArg UInt8.toNat h
 rwa [UInt8.toNat_ofNat_of_lt' (by simpa using ha),UInt8.toNat_ofNat_of_lt' (by simpa using hb)] at this
theorem qn (l:Bool):(l=true∧frm l=192)∨(l=false∧frm l=128):=by cases l<;>simp [frm]
theorem ki {n:Nat}(h:n≠0):1≤(dg n).length:=by unfold dg dgI;rw [if_neg h];simp
theorem zer {l l':Bool}{n n':Nat}{X Y:List UInt8}(hn:n<0x10000000000000000)(hn':n'<0x10000000000000000)(h:hd (frm l) n++X=hd (frm l') n'++Y):l=l'∧n=n'∧X=Y:=by
 have a1:=yQ n;have a2:=yQ n';unfold hd at h;by_cases h1:n≤55<;>by_cases h2:n'≤55
 ·rw [if_pos h1,if_pos h2] at h;obtain ⟨e1,e2⟩:=List.cons.inj h;rcases qn l with ⟨hl,f1⟩ | ⟨hl,f1⟩<;>rcases qn l' with ⟨hl',f2⟩ | ⟨hl',f2⟩<;>rw [f1,f2] at e1<;>have e3:=kh (by omega) (by omega) e1
  ·exact ⟨by rw [hl,hl'],by omega,e2⟩
  ·omega
  ·omega
  ·exact ⟨by rw [hl,hl'],by omega,e2⟩
 ·rw [if_pos h1,if_neg h2] at h;have a3:=ki (show n'≠0 by omega);obtain ⟨e1,e2⟩:=List.cons.inj h;rcases qn l with ⟨hl,f1⟩ | ⟨hl,f1⟩<;>rcases qn l' with ⟨hl',f2⟩ | ⟨hl',f2⟩<;>rw [f1,f2] at e1<;>have e3:=kh (by omega) (by omega) e1<;>omega
 ·rw [if_neg h1,if_pos h2] at h;have a3:=ki (show n≠0 by omega);obtain ⟨e1,e2⟩:=List.cons.inj h;rcases qn l with ⟨hl,f1⟩ | ⟨hl,f1⟩<;>rcases qn l' with ⟨hl',f2⟩ | ⟨hl',f2⟩<;>rw [f1,f2] at e1<;>have e3:=kh (by omega) (by omega) e1<;>omega
 ·rw [if_neg h1,if_neg h2] at h;have a3:=ki (show n≠0 by omega);have a4:=ki (show n'≠0 by omega);obtain ⟨e1,e2⟩:=List.cons.inj h;have key:(dg n).length=(dg n').length→n=n'∧X=Y:=fun hl=>by
   obtain ⟨q1,q2⟩:=List.append_inj e2 hl;exact ⟨by rw [←kg hn,q1,kg hn'],q2⟩
  rcases qn l with ⟨hl,f1⟩|⟨hl,f1⟩<;>rcases qn l' with ⟨hl',f2⟩ | ⟨hl',f2⟩<;>rw [f1,f2] at e1<;>have e3:=kh (by omega) (by omega) e1
  ·exact ⟨by rw [hl,hl'],key (by omega)⟩
  ·omega
  ·omega
  ·exact ⟨by rw [hl,hl'],key (by omega)⟩
theorem zaN (l:Bool)(n:Nat):∃b t,hd (frm l) n=b::t∧128≤b.toNat:=by
 have a1:=yQ n;unfold hd;by_cases h1:n≤55
 ·rw [if_pos h1];refine ⟨_,_,rfl,?_⟩;rw [UInt8.toNat_ofNat'];rcases qn l with ⟨_,f1⟩ | ⟨_,f1⟩<;>rw [f1]<;>omega
 ·rw [if_neg h1];refine ⟨_,_,rfl,?_⟩;rw [UInt8.toNat_ofNat'];rcases qn l with ⟨_,f1⟩ | ⟨_,f1⟩<;>rw [f1]<;>omega
theorem vI {s:ByteArray}(h:zY s=true):∃b:UInt8,tl s=[b]∧b.toNat<128:=by
 have hz:=qw h;obtain ⟨l,e⟩:=xb (t:=s) (by omega);have hl:l=[]:=by
  have:=zQ s;rw [e] at this;simp at this;exact List.eq_nil_of_length_eq_zero (by omega)
 refine ⟨_,by rw [e,hl],?_⟩;unfold zY at h;simp only [Bool.and_eq_true,decide_eq_true_eq] at h;rw [UInt8.toNat_ofNat'];have:=h.2;omega
theorem kj {l:Bool}{s:ByteArray}{k:Fo}(h:mixed l s k.len=false):(l=true∧s=⟨#[]⟩)∨(l=false∧k=.nil):=by
 unfold mixed at h;cases l with
 | true=>
  left;simp at h;exact ⟨rfl,h⟩
 | false=>
  right;simp at h;exact ⟨rfl,len_zero h⟩
theorem zaO {l l':Bool}{s s':ByteArray}{k k':Fo}{A B:List UInt8}(hm:mixed l s k.len=false)(hm':mixed l' s' k'.len=false)(hk:szF k=(wrF k).length)(hk':szF k'=(wrF k').length)
 (hb:s.size+szF k<0x10000000000000000) (hb':s'.size+szF k'<0x10000000000000000) (ih:wrF k=wrF k'→k=k') (h:wr1 l s (szF k) (wrF k)++A=wr1 l' s' (szF k') (wrF k')++B):l=l'∧s=s'∧k=k'∧A=B:=by
 unfold wr1 at h;cases hs:zY s with
 | true=>
  obtain ⟨b,e,hb1⟩:=vI hs;have hl:=qL hm hs;have hkn:=len_zero hl;have hl0:l=false:=by
   rcases kj hm with ⟨_,q⟩|⟨q,_⟩
   ·rw [q] at hs;exact absurd hs (by decide)
   ·exact q
  rw [if_pos hs,hkn,e] at h;cases hs':zY s' with
  | true=>
   obtain ⟨b',e',_⟩:=vI hs';have hkn':=len_zero (qL hm' hs');have hl0':l'=false:=by
    rcases kj hm' with ⟨_,q⟩|⟨q,_⟩
    ·rw [q] at hs';exact absurd hs' (by decide)
    ·exact q
   rw [if_pos hs',hkn',e'] at h;simp only [wrF,List.nil_append,List.append_nil,List.cons_append,List.cons.injEq] at h;exact ⟨by rw [hl0,hl0'],jr (by rw [e,e',h.1]),by rw [hkn,hkn'],h.2⟩
  | false=>
   obtain ⟨c,t,e2,hc⟩:=zaN l' (s'.size+szF k');rw [if_neg (by rw [hs'];decide),e2] at h;simp only [wrF,List.nil_append,List.append_nil,List.cons_append,List.cons.injEq] at h;rw [h.1] at hb1;omega
 | false=>
  rw [if_neg (by rw [hs];decide)] at h;cases hs':zY s' with
  | true=>
   obtain ⟨b',e',hb1⟩:=vI hs';have hkn':=len_zero (qL hm' hs');obtain ⟨c,t,e2,hc⟩:=zaN l (s.size+szF k);rw [if_pos hs',hkn',e',e2] at h;simp only [wrF,List.nil_append,List.append_nil,List.cons_append,List.cons.injEq] at h;rw [←h.1] at hb1;omega
  | false=>
   rw [if_neg (by rw [hs'];decide)] at h;simp only [List.append_assoc] at h;obtain ⟨hl,hn,hx⟩:=zer hb hb' h;rw [←List.append_assoc,←List.append_assoc] at hx;have hlen:(tl s++wrF k).length=(tl s'++wrF k').length:=by rw [List.length_append,List.length_append,zQ,zQ,←hk,←hk',hn]
   obtain ⟨q1,q2⟩:=List.append_inj hx hlen;subst hl;rcases kj hm with ⟨hl,e1⟩|⟨hl,e1⟩<;>rcases kj hm' with ⟨hl',e2⟩ | ⟨hl',e2⟩
   ·rw [e1,e2] at q1;exact ⟨rfl,by rw [e1,e2],ih (List.append_cancel_left q1),q2⟩
   ·rw [hl] at hl';cases hl'
   ·rw [hl] at hl';cases hl'
   ·rw [e1,e2] at q1;simp only [wrF,List.append_nil] at q1;exact ⟨rfl,jr q1,by rw [e1,e2],q2⟩
theorem vJ: ∀(k k':Fo),pureF k=true→pureF k'=true→(wrF k).length<0x10000000000000000→wrF k=wrF k'→k=k'
 | .nil,.nil,_,_,_,_=>rfl
 | .nil,.cons l s k r,_,hp,_,h=>by
  simp only [pureF,Bool.and_eq_true,Bool.not_eq_true'] at hp;have:=congrArg List.length h;simp only [wrF,List.length_nil,List.length_append] at this;have h2:=(ka hp.1.1 hp.1.2 rfl).1;omega
 | .cons l s k r,.nil,hp,_,_,h=>by
  simp only [pureF,Bool.and_eq_true,Bool.not_eq_true'] at hp;have:=congrArg List.length h;simp only [wrF,List.length_nil,List.length_append] at this;have h2:=(ka hp.1.1 hp.1.2 rfl).1;omega
 | .cons l s k r,.cons l' s' k' r',hp,hp',hb,h=>by
  have hlen:=congrArg List.length h;simp only [pureF,Bool.and_eq_true,Bool.not_eq_true'] at hp hp';simp only [wrF,List.length_append] at hb h hlen;have z1:=ja hp.1.1 (yJ hp.1.2);have z2:=ja hp'.1.1 (yJ hp'.1.2);have bd: ∀ {l:Bool} {s:ByteArray} {k:Fo},s.size+szF k≤sz1 l s (szF k)∨zY s=true:=fun {l s k} =>by
   unfold sz1;cases zY s with
   | true=>exact .inr rfl
   | false=>left;simp
  have b1:s.size+szF k<0x10000000000000000:=by
   rcases bd (l:=l) (s:=s) (k:=k) with q|q
   ·omega
   ·have:=len_zero (qL hp.1.1 q);subst this;have:=qw q;simp only [szF];omega
  have b2:s'.size+szF k'<0x10000000000000000:=by
   rcases bd (l:=l') (s:=s') (k:=k') with q|q
   ·omega
   ·have:=len_zero (qL hp'.1.1 q);subst this;have:=qw q;simp only [szF];omega
  have hk:=yJ hp.1.2;obtain ⟨e1,e2,e3,e4⟩:=zaO hp.1.1 hp'.1.1 hk.symm (yJ hp'.1.2).symm b1 b2 (fun q=>vJ k k' hp.1.2 hp'.1.2 (by omega) q) h;rw [e1,e2,e3,vJ r r' hp.2 hp'.2 (by omega) e4]
theorem zaP {l:Bool}{s:ByteArray}{k:Fo}(h:(yb l s k.len k).2=0):(yb l s k.len k).1=zf (wr1 l s (szF k) (wrF k))∧mixed l s k.len=false∧pureF k=true∧k.cnt<4000∧dp1 l (dpF k)≤8∧sz1 l s (szF k)≤4000∧(wr1 l s (szF k) (wrF k)).length=sz1 l s (szF k):=by
 unfold yb at h ⊢;cases hv:lf1 l s k.len (lfF k) 4000 with
 | none=>rw [hv] at h;simp at h
 | some y=>
  rw [hv] at h;obtain ⟨h1,h2,h3⟩:=zat hv;simp only [] at h ⊢;by_cases hd:8<dp1 l (dpF k)
  ·rw [if_pos hd] at h;simp at h
  ·rw [if_neg hd] at h ⊢;by_cases hz:4000<sz1 l s (szF k)
   ·rw [if_pos hz] at h;simp at h
   ·rw [if_neg hz];exact ⟨rfl,h1,h2,h3,by omega,by omega,ja h1 (yJ h2)⟩
theorem zaQ {l:Bool}{s:ByteArray}{k:Fo}(hm:mixed l s k.len=false)(hz:sz1 l s (szF k)≤4000):s.size+szF k≤4000:=by
 unfold sz1 at hz;split at hz
 ·rename_i q
  have:=len_zero (qL hm q);subst this;have:=qw q;simp only [szF];omega
 ·omega
def xf (t:ByteArray)(l:Bool)(s:ByteArray)(k:Fo)(u:ByteArray):Prop:=mixed l s k.len=false∧pureF k=true∧tl t=wr1 l s (szF k) (wrF k)++tl u
def yK (w:World)(p:Option Addr)(L:List X3):Prop:=L=[]∨∃b off,p=some ⟨b,off,none⟩∧ ∀(j:Nat) (u:Value),(cells3 L)[j]? =some u→w.cell? ⟨b,off+j,none⟩=some u
theorem yK.up {w w':World}{p:Option Addr}{L:List X3}(h:yK w p L)(hb:Below w.heap.size w w'):yK w' p L:=by
 rcases h with h|⟨b,off,e,h⟩
 ·exact .inl h
 ·refine .inr ⟨b,off,e,fun j u hj=>?_⟩;have h1:=h j u hj;have hlt:b<w.heap.size:=by
   rcases Nat.lt_or_ge b w.heap.size with q|q
   ·exact q
   ·simp [World.cell?,Array.getElem?_eq_none q] at h1
  rw [←h1];unfold World.cell?;rw [hb.block b hlt]
theorem Rw.cellsAt {cur:Array Value}{cap n:Nat}{L:List X3}(h:Rw 3 cur cap n (cells3 L)){w:World}{b:Nat}{T:TypeId}{fz:Nat×Nat}(hh:w.heap[b]? =some (.cells cur T fz)):n=L.length∧yK w (some ⟨b,0,none⟩) L:=by
 have hl:=h.len;rw [jb] at hl;refine ⟨by omega,.inr ⟨b,0,rfl,fun j u hj=>?_⟩⟩;have hlt:j<n*3:=by have:=(List.getElem?_eq_some_iff.1 hj).1;rw [jb] at this;omega
 rw [Nat.zero_add];simp [World.cell?,hh,h.get j hlt,hj]
def xg (T:TypeId)(mk:Value→Value)(n:Nat)(L:List X3):Nat→Value→World→Prop:=fun B v w'=>
 (n=0∧v=mk (.slice none 0 0))∨∃b cap cur,v=mk (.slice (some ⟨b,0,none⟩) n cap)∧B≤b∧w'.heap[b]? =some (.cells cur T (0,0))∧Rw 3 cur cap n (cells3 L)
section
variable {P:Program}{N:Nat}{ops:Array Oper}{i:Nat}{r:List Nat}{K:Env→World→Prop}{ρ:Env}{w:World}{B:Nat}{w0:World}{l:List (Nat×Obj)}
theorem zaR (HS:St B w0 w l)(d:Option Nat)(f:Nat)(args:Array Value)(pre:World→Prop)(T:TypeId)(mk:Value→Value)(n:Nat)(L:List X3)(hc:FnR P f args pre (xg T mk n L))(hp:pre w)
 (h:opv P ops i ρ w=some (d,true,.ok (.enter f args) w)) (hd:dOK d N=true)
 (k0: ∀w',n=0→St B w0 w' l→WPs P N ops K r (zj ρ d (mk (.slice none 0 0))) w')
 (kk: ∀b cap cur w',St B w0 w' ((b,.cells cur T (0,0))::l)→Rw 3 cur cap n (cells3 L)→WPs P N ops K r (zj ρ d (mk (.slice (some ⟨b,0,none⟩) n cap))) w'):WPs P N ops K (i::r) ρ w:=by
 obtain ⟨o,ho,rfl,hw,hr⟩:=zN h;refine WPo.run ho hw fun a ha=>?_;rw [hr,Oper.upon_enter];refine (hc w hp).mono ?_;rintro e w' ⟨v,rfl,hb,⟨h0,rfl⟩|⟨b,cap,cur,rfl,hle,hh,hr⟩⟩
 ·exact ⟨_,ha.put _ (zJ hd) _,k0 w' h0 (HS.call hb)⟩
 ·exact ⟨_,ha.put _ (zJ hd) _,kk b cap cur w' (HS.add hb hle hh) hr⟩
theorem zes (HS:St B w0 w l)(d:Option Nat)(t e:TypeId)(bytes:Nat)(s x:Operand)(j b n m cap c:Nat)(p:Option Addr)(cur:Array Value)(xs:List Value)(L:List X3)(l':Nat→Array Value→List (Nat×Obj))
 (h:opk ops i ρ=some (d,true,yA t s x)) (hd:dOK d N=true) (ht:yf P t=some (e,3,bytes))
 (hs:ev ρ s=.slice (some ⟨b,0,none⟩) n cap) (hj:l[j]? =some (b,.cells cur e (0,0))) (hr:Rw 3 cur cap n xs)
 (hx:ev ρ x=.slice p m c) (hm:m=L.length) (hp:p≠none) (hc:yK w p L)
 (hb:(n+m)*bytes≤0x800000000000) (hmx:n+m≤maxLen)
 (hl': ∀b' cur',l.set j (b',.cells cur' e (0,0))=l' b' cur')
 (kk: ∀b' cap' cur' w',St B w0 w' (l' b' cur')→Rw 3 cur' cap' (n+m) (xs++cells3 L)→WPs P N ops K r (zj ρ d (.slice (some ⟨b',0,none⟩) (n+m) cap')) w'):WPs P N ops K (i::r) ρ w:=by
 obtain ⟨o,ho,rfl,hw,hop⟩:=zu h;obtain ⟨it,z,hu,hi,hz,hsz,hby,hzs,h0⟩:=yG ht;obtain ⟨a,rfl⟩:∃a,p=some a:=by cases p with
  | none=>exact absurd rfl hp
  | some a=>exact ⟨a,rfl⟩
 have hnews: ∀q u,(cells3 L)[q]? =some u→w.cell? (a.add q)=some u:=fun q u hq=>by
  rcases hc with rfl|⟨b',off,e',h9⟩
  ·simp [cells3] at hq
  ·obtain rfl:a=⟨b',off,none⟩:=Option.some.inj e';rw [yY];exact h9 q u hq
 obtain ⟨v',w',hrun,hown,hgr,hnil,hblk⟩:=run_append_own_at (P:=P) w B t o.type e it z 3 bytes hu hi hz hsz hby hzs h0 _ n xs (hr.owns (HS.ge j hj) (HS.get j hj)) a m c (cells3 L) (by rw [jb,hm]) hnews (zaJ L) hmx hb HS.le;have hown':=hown;rcases hown'.2 with ⟨hv,_⟩|⟨g,cap',cur',rfl,hbg,hg,hnc,hcm,hcs,htk⟩
 ·exact absurd (hnil.1 hv).1 (by simp)
 ·have hgb:g=b∨g=w.heap.size:=by
   rcases hblk with hq|hq
   ·left;injection hq
   ·right;injection hq
  have HS':=HS.grown j hj hgr hgb hg;rw [hl'] at HS';refine WPo.run ho hw fun a' ha=>?_;have hex:(execOp (ev ρ) o).run P w=.ok (.value (.slice (some ⟨g,0,none⟩) (n+m) cap')) w':=by
   unfold execOp;simp only [hop,yA,resolve,invoke,builtin,Sem.run_bind,Sem.run_pure,Result.andThen_ok,List.map_toArray,List.map_cons,List.map_nil,hs,hx,hrun]
  rw [hex,Oper.upon_value];exact ⟨_,ha.put _ (zJ hd) _,kk g cap' cur' w' HS' ⟨hown.1,hnc,hcm,htk,hcs⟩⟩
end
section
variable {P:Program}{N:Nat}{ops:Array Oper}{Q:Exit→Env→World→Prop}{K:Env→World→Prop}{ρ:Env}{w:World}{i:Nat}{r:List Nat}{c:Code}
end
def yL (T:List (Nat×Obj)):Fo→Nat→Nat→Prop
 | .nil,_,_=>True
 | .cons l s k r,b,off=>(∃(C:Array Value) (ty:TypeId) (fz:Nat×Nat) (p:Option Addr) (n c:Nat),(b,Obj.cells C ty fz)∈T∧off+3≤C.size∧
  C.extract off (off+3)=#[.bool l,.string s,.slice p n c]∧s.size≤0x800000000000∧n=k.len∧n≤0x800000000000∧(k=.nil∨∃b' off',p=some ⟨b',off',none⟩∧yL T k b' off'))∧yL T r b (off+3)
def SlIn (T:List (Nat×Obj))(p:Option Addr)(n:Nat)(k:Fo):Prop:=n=k.len∧n≤0x800000000000∧(k=.nil∨∃b off,p=some ⟨b,off,none⟩∧yL T k b off)
theorem yL.mono {T T':List (Nat×Obj)}(h: ∀e∈T,e∈T'): ∀ {k:Fo} {b off:Nat},yL T k b off→yL T' k b off
 | .nil,_,_,_=>trivial
 | .cons l s k r,b,off,⟨⟨C,ty,fz,p,n,c,h1,h2,h3,h4,h5,h6,h7⟩,h8⟩=>⟨⟨C,ty,fz,p,n,c,h _ h1,h2,h3,h4,h5,h6,h7.imp id fun ⟨b',o',e,q⟩=>⟨b',o',e,yL.mono h q⟩⟩,yL.mono h h8⟩
theorem SlIn.mono {T T':List (Nat×Obj)}{p:Option Addr}{n:Nat}{k:Fo}(hs:SlIn T p n k)(h: ∀e∈T,e∈T'):SlIn T' p n k:=
 ⟨hs.1,hs.2.1,hs.2.2.imp id fun ⟨b,o,e,q⟩=>⟨b,o,e,q.mono h⟩⟩
theorem yL.at {B:Nat}{w0 w:World}{l T:List (Nat×Obj)}(hS:St B w0 w l)(h: ∀e∈T,e∈l): ∀ {k:Fo} {b off:Nat},yL T k b off→yC w.heap.size w k b off
 | .nil,_,_,_=>trivial
 | .cons l s k r,b,off,⟨⟨C,ty,fz,p,n,c,h1,h2,h3,h4,h5,h6,h7⟩,h8⟩=>
  have hh:=(hS.own _ (h _ h1)).2
  ⟨⟨C,ty,fz,p,n,c,zD hh,hh,h2,h3,h4,h5,h6,h7.imp id fun ⟨b',o',e,q⟩=>⟨b',o',e,yL.at hS h q⟩⟩,yL.at hS h h8⟩
theorem SlIn.at {B:Nat}{w0 w:World}{l T:List (Nat×Obj)}{p:Option Addr}{n:Nat}{k:Fo}(hs:SlIn T p n k)(hS:St B w0 w l)(h: ∀e∈T,e∈l):zp w.heap.size w p n k:=
 ⟨hs.1,hs.2.1,hs.2.2.imp id fun ⟨b,o,e,q⟩=>⟨b,o,e,q.at hS h⟩⟩
def AllIn (T:List (Nat×Obj))(L:List X3):Prop:= ∀x∈L,SlIn T x.p x.n x.k∧x.s.size≤0x800000000000
theorem zaS {T:List (Nat×Obj)}{b:Nat}{C:Array Value}{ty:TypeId}{fz:Nat×Nat}(hm:(b,Obj.cells C ty fz)∈T): ∀(L:List X3) (o:Nat),
 (∀(i:Nat) (x:X3),L[i]? =some x→C[o+i*3]? =some (.bool x.l)∧C[o+i*3+1]? =some (.string x.s)∧C[o+i*3+2]? =some (.slice x.p x.n x.c))→AllIn T L→yL T (toFo L) b o
 | [],_,_,_=>trivial
 | x::r,o,h,hA=>by
  obtain ⟨h1,h2,h3⟩:=h 0 x rfl;simp only [Nat.zero_mul,Nat.add_zero] at h1 h2 h3;have ha:=hA x (List.mem_cons_self ..);refine ⟨⟨C,ty,fz,x.p,x.n,x.c,hm,(ex3 h1 h2 h3).1,(ex3 h1 h2 h3).2,ha.2,ha.1.1,ha.1.2.1,ha.1.2.2⟩,?_⟩;refine zaS hm r (o+3) (fun i y hy=>?_) fun y hy=>hA y (List.mem_cons_of_mem _ hy);have:=h (i+1) y (by simpa using hy);rw [show o+(i+1)*3=o+3+i*3 by omega] at this;exact this
theorem Rw.slIn {cur:Array Value}{cap n:Nat}{L:List X3}(h:Rw 3 cur cap n (cells3 L)){T:List (Nat×Obj)}{b:Nat}{ty:TypeId}{fz:Nat×Nat}(hm:(b,Obj.cells cur ty fz)∈T)(hA:AllIn T L)(hn:n≤0x800000000000):SlIn T (some ⟨b,0,none⟩) n (toFo L):=by
 have hl:=h.len;rw [jb] at hl;refine ⟨by rw [zaH];omega,hn,.inr ⟨b,0,rfl,zaS hm L 0 (fun i x hx=>?_) hA⟩⟩;have:=h.at3 hx;rw [Nat.zero_add];exact this
section
variable {P:Program}{N:Nat}{ops:Array Oper}{Q:Exit→Env→World→Prop}{K:Env→World→Prop}{ρ:Env}{w w0:World}{i B:Nat}{r:List Nat}{l:List (Nat×Obj)}
end
theorem SlIn.none (T:List (Nat×Obj)):SlIn T none 0 .nil:=⟨rfl,by omega,.inl rfl⟩
end Go.Proofs.YtbpmjppmpgeejaaDoor
namespace Go.Proofs.YtbpmjppmpgeejaaDoor.D2
open Go Go.RowKit
set_option linter.unusedVariables false
section
variable {P:Program}{N:Nat}{ops:Array Oper}{Q:Exit→Env→World→Prop}{K:Env→World→Prop}{ρ:Env}{w:World}{vs:List (Option Nat×(Gh→Value))}{pre:(Nat→Bool)→(Nat→Gh)→World→Prop}{Bad:List PanicEntry→World→Prop}
end
end Go.Proofs.YtbpmjppmpgeejaaDoor.D2
namespace Go.Proofs.YtbpmjppmpgeejaaDoor
open Go Go.RowKit
set_option linter.unusedVariables false
abbrev xc (x:X3):Array Value:=#[.bool x.l,.string x.s,.slice x.p x.n x.c]
section
variable {P:Program}{ρ:Env}{w w0:World}{B:Nat}{l:List (Nat×Obj)}
end
def RowSt (p:Option Addr)(n c:Nat)(row:List (Nat×Obj))(L:List X3):Prop:=(p=none∧n=0∧c=0∧row=[]∧L=[])∨∃b cur,p=some ⟨b,0,none⟩∧row=[(b,.cells cur 74 (0,0))]∧Rw 3 cur c n (cells3 L)
section
variable {B:Nat}{w0:World}{t:ByteArray}{b2 b3 b4:Nat}{p:Option Addr}{n c:Nat}{row:List (Nat×Obj)}{M:List X3}{L0:List (Nat×Obj)}{L:Nat→Bool}{g:Nat→D2.Gh}{w:World}
end
theorem AllIn.mono {T T':List (Nat×Obj)}{M:List X3}(h:AllIn T M)(hs: ∀e∈T,e∈T'):AllIn T' M:=fun x hx=>⟨(h x hx).1.mono hs,(h x hx).2⟩
theorem AllIn.snoc {T:List (Nat×Obj)}{M:List X3}{x:X3}(h:AllIn T M)(hx:SlIn T x.p x.n x.k)(hz:x.s.size≤0x800000000000):AllIn T (M++ [x]):=fun y hy=>by
 rcases List.mem_append.1 hy with q|q
 ·exact h y q
 ·obtain rfl:=List.mem_singleton.1 q;exact ⟨hx,hz⟩
structure zfW (t t':ByteArray)(p:Option Addr)(n c:Nat)(row:List (Nat×Obj))(M:List X3)(T:List (Nat×Obj)):Prop where
 row:RowSt p n c row M
 size:n+t'.size≤t.size
 all:tl t=wrF (toFo M)++tl t'
 pur:pureF (toFo M)=true
 inn:AllIn T M
 rest: ∀k,pureF k=true→tl t=wrF k→∃k',pureF k'=true∧tl t'=wrF k'
structure zfX (ds:List Deferred)(a:Act)(ρ:Env)(N:Nat):Prop where
 defers:a.defers=ds
 rep:Rep { a with defers:=[] } ρ N
section
variable {P:Program}{N:Nat}{ops:Array Oper}{Q:Exit→Env→World→Prop}{K:Env→World→Prop}{ρ:Env}{w:World}{i:Nat}{ds:List Deferred}
variable {c:Code}
end
section
variable {P:Program}{N:Nat}{ops:Array Oper}{ρ:Env}{w w':World}{i:Nat}{ds:List Deferred}{c:Code}{rest:List Nat}{a:Act}{cs:List Frame}
variable {Q:Exit→Act→List Frame→World→Prop}
end
section
variable {P:Program}{N:Nat}{ops:Array Oper}{ρ:Env}{w w':World}{i:Nat}{rest:List Nat}{a:Act}{Q:Exit→Act→World→Prop}
end
section
variable {P:Program}{N:Nat}{ops:Array Oper}{K:Env→World→Prop}{ρ:Env}{w w0:World}{i B:Nat}{r:List Nat}{l:List (Nat×Obj)}
end
theorem jc {l:List Value}(h:l.all (·.oneCell')=true): ∀u∈l,u.oneCell'=true:=fun u hu=>List.all_eq_true.1 h u hu
abbrev Kf:=Fr Nat
def kS:Sh Nat where
 K:=2
 hd g:=[.int .u8 (g:Int)]
 ok _:=True
 mx:=1000
 len _:=rfl
 one _:=jc rfl
abbrev Fe:=Fr (Nat×ByteArray)
def fS:Sh (Nat×ByteArray) where
 K:=3
 hd x:=[.int .u64 ((x.1:Nat):Int),.string x.2]
 ok x:=x.1<0x10000000000000000∧x.2.size≤0x800000000000
 mx:=0x800000000000
 len _:=rfl
 one _:=jc rfl
def Fr.all {α:Type}(p:α→Prop):Fr α→Prop
 | .nil=>True
 | .cons a k r=>p a∧k.all p∧r.all p
def zn (g:Nat)(b:Kf)(i:Nat):Nat×Kf:=match b.at (if g=42 then 0 else i) with
 | some x=>x
 | none=>(0,.nil)
def zC (g:Nat):Nat×Nat:=if g=104 then (32,32) else if g=97 then (20,20) else if g=115 then (65,65) else if g=98 then (0,64) else (0,0)
def zE (g n:Nat):Nat×Nat:=if g=40 then (n,n) else if g=42 then (0,40) else (0,0)
def zZ (x:Nat×Nat)(n:Nat):Bool:=decide (x.1≤n)&&decide (n≤x.2)
def zs (g bl n sz ln:Nat):Bool:=(decide (n=0)||decide (g=110))&&(zZ (zC g) sz&&zZ (zE g bl) ln)
def w64 (x:Int):Int:=IntKind.i64.wrap x
def yc:Fe→Nat→Kf→Nat→Int→Int
 | .nil,_,_,_,room=>room
 | .cons x l r,g,b,i,room=>
  if (if zs (zn g b i).1 (zn g b i).2.len x.1 x.2.size l.len=true then yc l (zn g b i).1 (zn g b i).2 0 (w64 (room-1)) else-1)<0
  then (if zs (zn g b i).1 (zn g b i).2.len x.1 x.2.size l.len=true then yc l (zn g b i).1 (zn g b i).2 0 (w64 (room-1)) else-1)
  else yc r g b (i+1) (if zs (zn g b i).1 (zn g b i).2.len x.1 x.2.size l.len=true then yc l (zn g b i).1 (zn g b i).2 0 (w64 (room-1)) else-1)
def zB (g:Nat)(b:Kf)(x:Nat×ByteArray)(l:Fe)(room:Int):Int:=
 if zs g b.len x.1 x.2.size l.len=true then yc l g b 0 (w64 (room-1)) else-1
theorem xh (x:Nat×ByteArray)(l r:Fe)(g:Nat)(b:Kf)(i:Nat)(room:Int):yc (.cons x l r) g b i room=
 if zB (zn g b i).1 (zn g b i).2 x l room<0 then zB (zn g b i).1 (zn g b i).2 x l room else yc r g b (i+1) (zB (zn g b i).1 (zn g b i).2 x l room):=rfl
def zG (g:Nat):Bool:=decide (g=40)||decide (g=42)
def zU (g:Nat)(x:Nat×ByteArray):ByteArray:=if g=110 then zf (dg x.1) else if zG g=true then ⟨#[]⟩ else x.2
def yu:Fe→Nat→Kf→Nat→Fo
 | .nil,_,_,_=>.nil
 | .cons x l r,g,b,i=>.cons (zG (zn g b i).1) (zU (zn g b i).1 x) (if zG (zn g b i).1=true then yu l (zn g b i).1 (zn g b i).2 0 else .nil) (yu r g b (i+1))
def zM (g:Nat)(b:Kf)(l:Fe):Fo:=if zG g=true then yu l g b 0 else .nil
theorem km (x:Nat×ByteArray)(l r:Fe)(g:Nat)(b:Kf)(i:Nat):yu (.cons x l r) g b i=.cons (zG (zn g b i).1) (zU (zn g b i).1 x) (zM (zn g b i).1 (zn g b i).2 l) (yu r g b (i+1)):=rfl
def xi (g:Nat)(l:Bool)(s:ByteArray)(n:Nat):Nat:=if g=110 then (kf l s n).1 else 0
def xj (g:Nat)(s:ByteArray):ByteArray:=if g=110∨zG g=true then ⟨#[]⟩ else s
def jd:Fo→Nat→Kf→Nat→Fe
 | .nil,_,_,_=>.nil
 | .cons l s k r,g,b,i=>.cons (xi (zn g b i).1 l s k.len,xj (zn g b i).1 s) (if zG (zn g b i).1=true then jd k (zn g b i).1 (zn g b i).2 0 else .nil) (jd r g b (i+1))
def ko (g:Nat)(b:Kf)(k:Fo):Fe:=if zG g=true then jd k g b 0 else .nil
theorem zet (l:Bool)(s:ByteArray)(k r:Fo)(g:Nat)(b:Kf)(i:Nat):jd (.cons l s k r) g b i=.cons (xi (zn g b i).1 l s k.len,xj (zn g b i).1 s) (ko (zn g b i).1 (zn g b i).2 k) (jd r g b (i+1)):=rfl
theorem Fr.len_zero {α:Type}{k:Fr α}(h:k.len=0):k=.nil:=by
 cases k with
 | nil=>rfl
 | cons a k r=>simp only [Fr.len] at h;omega
theorem qP {s:ByteArray}(h:s.size=0):s=⟨#[]⟩:=by
 obtain ⟨d⟩:=s;have:d=#[]:=Array.eq_empty_of_size_eq_zero h;rw [this]
theorem vK {g bl n sz ln:Nat}(h:zs g bl n sz ln=true):(n=0∨g=110)∧((zC g).1≤sz∧sz≤(zC g).2)∧(zE g bl).1≤ln∧ln≤(zE g bl).2:=by
 unfold zs zZ at h;simp only [Bool.and_eq_true,Bool.or_eq_true,decide_eq_true_eq] at h;exact h
theorem zaT (g:Nat)(b:Kf)(x:Nat×ByteArray)(l:Fe)(hx:x.1<0x10000000000000000)(hf:zs g b.len x.1 x.2.size l.len=true)
 (hr:zG g=true→jd (yu l g b 0) g b 0=l):xi g (zG g) (zU g x) (zM g b l).len=x.1∧xj g (zU g x)=x.2∧ko g b (zM g b l)=l:=by
 obtain ⟨h1,h2,h3⟩:=vK hf;obtain ⟨n,s⟩:=x;unfold xi xj zU ko zM zG at*;by_cases e1:g=110
 ·subst e1;have hs:s.size=0:=by have:=h2.2;simp only [zC] at this;simp at this;rw [this];rfl
  have hl:l.len=0:=by have:=h3.2;simp only [zE] at this;simp at this;exact this
  obtain rfl:=Fr.len_zero hl;obtain rfl:=qP hs;refine ⟨?_,rfl,rfl⟩;show (kf false (zf (dg n)) 0).1=n;rw [zep hx]
 ·have hn:n=0:=by rcases h1 with h | h;exact h;exact absurd h e1
  subst hn;by_cases e2:(decide (g=40)||decide (g=42))=true
  ·have hs:s.size=0:=by
    have:=h2.2;simp only [Bool.or_eq_true,decide_eq_true_eq] at e2;rcases e2 with rfl | rfl<;>(simp only [zC] at this;simp at this;rw [this];rfl)
   obtain rfl:=qP hs;simp only [e1,e2,if_false,if_true,or_true];exact ⟨trivial,trivial,hr e2⟩
  ·have hl:l.len=0:=by
    have:=h3.2;simp only [Bool.or_eq_true,decide_eq_true_eq,not_or] at e2;simp only [zE,e2.1,e2.2,if_false] at this;omega
   obtain rfl:=Fr.len_zero hl;have e3:=Bool.not_eq_true _▸e2;refine ⟨?_,?_,?_⟩<;>simp [e1,e3]
theorem vL: ∀(l:Fe) (g:Nat) (b:Kf) (i:Nat) (room:Int),l.all fS.ok→0≤yc l g b i room→jd (yu l g b i) g b i=l
 | .nil,_,_,_,_,_,_=>rfl
 | .cons x l r,g,b,i,room,ho,h=>by
  rw [xh] at h;by_cases hv:zB (zn g b i).1 (zn g b i).2 x l room<0
  ·rw [if_pos hv] at h;omega
  ·rw [if_neg hv] at h;have hv':=hv;unfold zB at hv;by_cases hf:zs (zn g b i).1 (zn g b i).2.len x.1 x.2.size l.len=true
   ·rw [if_pos hf] at hv;obtain ⟨q1,q2,q3⟩:=zaT _ _ x l ho.1.1 hf fun _=>vL l _ _ 0 _ ho.2.1 (Int.not_lt.1 hv);rw [km,zet,q1,q2,q3,vL r g b (i+1) _ ho.2.2 h]
   ·rw [if_neg hf] at hv;omega
def qo (g:Nat)(b:Kf)(x:Nat×ByteArray)(l:Fe):ByteArray×Nat:=
 if zB g b x l 1001<0 then (⟨#[]⟩,1) else yb (zG g) (zU g x) (zM g b l).len (zM g b l)
theorem zaU {g:Nat}{b:Kf}{x:Nat×ByteArray}{l:Fe}(hx:x.1<0x10000000000000000)(ho:l.all fS.ok)(h: ¬zB g b x l 1001<0):
 xi g (zG g) (zU g x) (zM g b l).len=x.1∧xj g (zU g x)=x.2∧ko g b (zM g b l)=l:=by
 unfold zB at h;by_cases hf:zs g b.len x.1 x.2.size l.len=true
 ·rw [if_pos hf] at h;exact zaT g b x l hx hf fun _=>vL l g b 0 _ ho (Int.not_lt.1 h)
 ·rw [if_neg hf] at h;omega
def Fr.snoc {α:Type} :Fr α→α→Fr α→Fr α
 | .nil,a,k=>.cons a k .nil
 | .cons a' k' r,a,k=>.cons a' k' (r.snoc a k)
theorem zaV {α:Type}(x:El α): ∀L:List (El α),yg (L++ [x])=(yg L).snoc x.a x.k
 | []=>rfl
 | y::r=>by simp only [List.cons_append,yg,Fr.snoc,zaV x r]
def qx:Nat→Kf→List (Nat×Kf)→List (Nat×Kf)
 | _,_,[]=>[]
 | g,k,(h,m)::r=>if h=42 then qx h (m.snoc g k) r else (h,m.snoc g k)::r
def yM (c:Nat)(st:List (Nat×Kf)):Option (List (Nat×Kf)):=
 if c=110∨c=104∨c=97∨c=115∨c=98 then some (qx c .nil st)
 else if c=40∨c=42 then if st.length=5 then none else some ((c,.nil)::st)
 else if c=41 then match st with
  | []=>none
  | (h,m)::r=>if r.length=0∨h≠40 then none else some (qx h m r)
 else none
def qQ:List UInt8→List (Nat×Kf)→Option (List (Nat×Kf))
 | [],st=>some st
 | c::r,st=>match yM c.toNat st with
  | none=>none
  | some st'=>qQ r st'
def parseM (form:ByteArray):Option Kf:=
 if 40<form.size then none else match qQ (tl form) [(40,.nil)] with
  | some [(_,m)]=>some m
  | _=>none
def qc (c:Nat):Bool:=c==110||(c==104||(c==97||(c==115||c==98)))
theorem zaW {c:Nat} :qc c=true↔c=110∨c=104∨c=97∨c=115∨c=98:=by unfold qc;simp
def kdOk (s:ByteArray):Bool:=(s.size==1&&qc (by_ s 0))||(s.size==2&&(by_ s 0==42&&qc (by_ s 1)))
theorem zeu {s:ByteArray} :kdOk s=true↔(s.size=1∧qc (by_ s 0)=true)∨(s.size=2∧by_ s 0=42∧qc (by_ s 1)=true):=by
 unfold kdOk;simp
def kdB (s:ByteArray):Kf:=if by_ s 0=42 then .cons (by_ s 1) .nil .nil else .nil
def kfL:List ByteArray→Kf
 | []=>.nil
 | s::r=>.cons (by_ s 0) (kdB s) (kfL r)
theorem zaX: ∀ks:List ByteArray,(kfL ks).len=ks.length
 | []=>rfl
 | s::r=>by simp only [kfL,Fr.len,zaX r,List.length_cons]
theorem zaY: ∀(ks:List ByteArray) (i:Nat),(kfL ks).at i=(ks[i]?).map fun s=>(by_ s 0,kdB s)
 | [],i=>by cases i<;>rfl
 | s::r,0=>rfl
 | s::r,i+1=>by simp only [kfL,Fr.at,zaY r i,List.getElem?_cons_succ]
theorem zaZ (ks:List ByteArray)(i:Nat):zn 40 (kfL ks) i=match ks[i]? with
 | some s=>(by_ s 0,kdB s)
 | none=>(0,.nil):=by
 unfold zn;rw [if_neg (by decide),zaY];cases ks[i]?<;>rfl
theorem vM (c i:Nat):zn 42 (.cons c .nil .nil) i=(c,.nil):=by
 unfold zn;rw [if_pos rfl];rfl
def Fr.cnt {α:Type} :Fr α→Nat
 | .nil=>0
 | .cons _ k r=>1+k.cnt+r.cnt
def qd (c:Nat):Fe→Bool
 | .nil=>true
 | .cons x l r=>zs c 0 x.1 x.2.size l.len&&qd c r
def yS (s:ByteArray)(x:Nat×ByteArray)(l:Fe):Bool:=zs (by_ s 0) (kdB s).len x.1 x.2.size l.len&&(!(by_ s 0==42)||qd (by_ s 1) l)
def yv:List ByteArray→Fe→Bool
 | [],.nil=>true
 | s::ks,.cons x l r=>yS s x l&&yv ks r
 | [],.cons _ _ _=>false
 | _::_,.nil=>false
theorem vN: ∀ {ks:List ByteArray} {l:Fe},yv ks l=true→l.len=ks.length
 | [],.nil,_=>rfl
 | s::ks,.cons x l r,h=>by
  simp only [yv,Bool.and_eq_true] at h;simp only [Fr.len,List.length_cons,vN h.2]
 | [],.cons _ _ _,h=>nomatch h
 | _::_,.nil,h=>nomatch h
theorem za0 {c:Nat}(hc:qc c=true){n sz ln:Nat}(h:zs c 0 n sz ln=true):ln=0:=by
 have h3:=(vK h).2.2.2;have:(zE c 0).2=0:=by
  rw [zaW] at hc;unfold zE;rw [if_neg (by omega),if_neg (by omega)]
 omega
theorem za1 {r:Nat}(h:r≤2000):w64 ((r:Int)-1)=(r:Int)-1:=by
 unfold w64;exact wrap_i64 (by omega) (by omega)
def LeR (v:Int)(P:Prop)(n room:Nat):Prop:=(P∧n≤room→v=((room-n:Nat):Int))∧(¬(P∧n≤room)→v<0)
theorem LeR.pos {v:Int}{P:Prop}{n room:Nat}(h:LeR v P n room): ¬v<0↔P∧n≤room:=by
 constructor
 ·intro h1;by_cases h2:P∧n≤room
  ·exact h2
  ·exact absurd (h.2 h2) h1
 ·intro h1 h2;rw [h.1 h1] at h2;omega
theorem LeR.two {x:Nat×ByteArray}{l r:Fe}{g:Nat}{b:Kf}{i:Nat}{room:Nat}{P Q:Prop}(h1:LeR (zB (zn g b i).1 (zn g b i).2 x l room) P (1+l.cnt) room)
 (h2:P→ ∀q:Nat,q≤room→LeR (yc r g b (i+1) q) Q r.cnt q):LeR (yc (.cons x l r) g b i room) (P∧Q) (Fr.cnt (.cons x l r)) room:=by
 rw [xh];have ec:Fr.cnt (Fr.cons x l r)=1+l.cnt+r.cnt:=rfl;rw [ec];by_cases hv:zB (zn g b i).1 (zn g b i).2 x l room<0
 ·rw [if_pos hv];refine ⟨fun h=>?_,fun _=>hv⟩;exact absurd hv (h1.pos.2 ⟨h.1.1,by omega⟩)
 ·rw [if_neg hv];obtain ⟨hP,hn⟩:=h1.pos.1 hv;rw [h1.1 ⟨hP,hn⟩];have h3:=h2 hP (room-(1+l.cnt)) (by omega);refine ⟨fun h=>?_,fun h=>?_⟩
  ·rw [h3.1 ⟨h.1.2,by omega⟩];congr 1;omega
  ·exact h3.2 fun h9=>h ⟨⟨hP,h9.1⟩,by omega⟩
theorem za2 {c:Nat}(hc:qc c=true)(x:Nat×ByteArray)(l:Fe)(room:Nat)(hr:room≤2000):LeR (zB c .nil x l room) (zs c 0 x.1 x.2.size l.len=true) (1+l.cnt) room:=by
 unfold zB;by_cases hf:zs c 0 x.1 x.2.size l.len=true
 ·rw [if_pos (show zs c (Fr.len .nil) x.1 x.2.size l.len=true from hf),za1 hr];obtain rfl:=Fr.len_zero (za0 hc hf);show LeR ((room:Int)-1) _ (1+0) room;exact ⟨fun h=>by omega,fun h=>by have: ¬1+0≤room:=fun h9=>h ⟨hf,h9⟩;omega⟩
 ·rw [if_neg (show ¬zs c (Fr.len .nil) x.1 x.2.size l.len=true from hf)];exact ⟨fun h=>absurd h.1 hf,fun _=>by decide⟩
theorem za3 {c:Nat}(hc:qc c=true): ∀(l:Fe) (i room:Nat),room≤2000→LeR (yc l 42 (.cons c .nil .nil) i room) (qd c l=true) l.cnt room
 | .nil,i,room,_=>⟨fun _=>rfl,fun h=>absurd ⟨rfl,Nat.zero_le _⟩ h⟩
 | .cons x l r,i,room,hr=>by
  have h1:=za2 hc x l room hr;have h2:LeR (zB (zn 42 (.cons c .nil .nil) i).1 (zn 42 (.cons c .nil .nil) i).2 x l room) (zs c 0 x.1 x.2.size l.len=true) (1+l.cnt) room:=by rw [vM];exact h1
  have h3:=LeR.two (r:=r) (Q:=qd c r=true) h2 fun _ q hq=>za3 hc r (i+1) q (by omega);have e:(qd c (.cons x l r)=true)=(zs c 0 x.1 x.2.size l.len=true∧qd c r=true):=by simp only [qd,Bool.and_eq_true]
  rw [e];exact h3
theorem zev {s:ByteArray}(hs:kdOk s=true)(x:Nat×ByteArray)(l:Fe)(room:Nat)(hr:room≤2000):LeR (zB (by_ s 0) (kdB s) x l room) (yS s x l=true) (1+l.cnt) room:=by
 rcases zeu.1 hs with ⟨h1,h2⟩|⟨h1,h2,h3⟩
 ·have hn: ¬by_ s 0=42:=by rw [zaW] at h2;omega
  have eb:kdB s=.nil:=by unfold kdB;rw [if_neg hn]
  have e:(yS s x l=true)=(zs (by_ s 0) 0 x.1 x.2.size l.len=true):=by
   unfold yS;rw [eb,beq_eq_false_iff_ne.2 hn];simp [Fr.len]
  rw [e,eb];exact za2 h2 x l room hr
 ·have eb:kdB s=.cons (by_ s 1) .nil .nil:=by unfold kdB;rw [if_pos h2]
  have e:(yS s x l=true)=(zs 42 1 x.1 x.2.size l.len=true∧qd (by_ s 1) l=true):=by
   unfold yS;rw [eb,h2];simp [Fr.len]
  rw [e,eb,h2];unfold zB;by_cases hf:zs 42 1 x.1 x.2.size l.len=true
  ·rw [if_pos (show zs 42 (Fr.len (.cons (by_ s 1) .nil .nil)) x.1 x.2.size l.len=true from hf),za1 hr];by_cases h0:room=0
   ·subst h0;refine ⟨fun h=>by omega,fun _=>?_⟩;cases l with
    | nil=>exact (by decide:w64 (-1)<0)
    | cons y k r=>
     have hk:zB (by_ s 1) .nil y k (-1)<0:=by
      unfold zB;by_cases hf2:zs (by_ s 1) 0 y.1 y.2.size k.len=true
      ·rw [if_pos (show zs (by_ s 1) (Fr.len .nil) y.1 y.2.size k.len=true from hf2)];obtain rfl:=Fr.len_zero (za0 h3 hf2);exact (by decide:w64 (-1-1)<0)
      ·rw [if_neg (show ¬zs (by_ s 1) (Fr.len .nil) y.1 y.2.size k.len=true from hf2)];decide
     show yc _ _ _ _ (-1)<0;rw [xh,vM,if_pos hk];exact hk
   ·have h4:=za3 h3 l 0 (room-1) (by omega);rw [show (room:Int)-1=((room-1:Nat):Int) by omega];refine ⟨fun h=>?_,fun h=>h4.2 fun h9=>h ⟨⟨hf,h9.1⟩,by omega⟩⟩;rw [h4.1 ⟨h.1.2,by omega⟩];congr 1;omega
  ·rw [if_neg (show ¬zs 42 (Fr.len (.cons (by_ s 1) .nil .nil)) x.1 x.2.size l.len=true from hf)];exact ⟨fun h=>absurd h.1.1 hf,fun _=>by decide⟩
theorem za4 {ks0:List ByteArray}(h0: ∀s∈ks0,kdOk s=true): ∀(ks:List ByteArray) (l:Fe) (i room:Nat),ks0.drop i=ks→l.len=ks.length→room≤2000→LeR (yc l 40 (kfL ks0) i room) (yv ks l=true) l.cnt room
 | [],.nil,i,room,_,_,_=>⟨fun _=>rfl,fun h=>absurd ⟨rfl,Nat.zero_le _⟩ h⟩
 | [],.cons _ _ _,_,_,_,h,_=>by simp [Fr.len] at h
 | _::_,.nil,_,_,_,h,_=>by simp [Fr.len] at h
 | s::ks,.cons x l r,i,room,hd,hl,hr=>by
  have hi:ks0[i]? =some s:=by
   have:=congrArg (fun L=>L[0]?) hd
   simpa using this
  have h1:LeR (zB (zn 40 (kfL ks0) i).1 (zn 40 (kfL ks0) i).2 x l room) (yS s x l=true) (1+l.cnt) room:=by
   rw [zaZ,hi];exact zev (h0 s (List.mem_of_getElem? hi)) x l room hr
  have h3:=LeR.two (r:=r) (Q:=yv ks r=true) h1 fun _ q hq=>za4 h0 ks r (i+1) q (by rw [←List.drop_drop,hd];rfl) (by simp only [Fr.len,List.length_cons] at hl;omega) (by omega);have e:(yv (s::ks) (.cons x l r)=true)=(yS s x l=true∧yv ks r=true):=by simp only [yv,Bool.and_eq_true]
  rw [e];exact h3
theorem za5 {ks:List ByteArray}(h0: ∀s∈ks,kdOk s=true)(l:Fe): ¬zB 40 (kfL ks) (0,⟨#[]⟩) l 1001<0↔yv ks l=true∧l.cnt≤1000:=by
 unfold zB;have ef:zs 40 (kfL ks).len 0 (ByteArray.size ⟨#[]⟩) l.len=decide (l.len=ks.length):=by
  rw [zaX];unfold zs zZ zC zE;simp only [decide_eq_decide];rw [Bool.eq_iff_iff];simp only [Bool.and_eq_true,Bool.or_eq_true,decide_eq_true_eq];simp;constructor
  ·rintro ⟨_,h⟩;omega
  ·intro h;exact ⟨rfl,by omega⟩
 by_cases hl:l.len=ks.length
 ·rw [if_pos (show zs 40 (kfL ks).len (0,(⟨#[]⟩:ByteArray)).1 (ByteArray.size (0,(⟨#[]⟩:ByteArray)).2) l.len=true by exact ef.trans (decide_eq_true hl))];rw [show w64 (1001-1)=((1000:Nat):Int) by decide];exact (za4 h0 ks l 0 1000 rfl hl (by decide)).pos
 ·rw [if_neg (show ¬zs 40 (kfL ks).len (0,(⟨#[]⟩:ByteArray)).1 (ByteArray.size (0,(⟨#[]⟩:ByteArray)).2) l.len=true by
   intro h;exact hl (of_decide_eq_true (ef.symm.trans h)))]
  exact ⟨fun h=>absurd (by decide) h,fun h=>absurd (vN h.1) hl⟩
def nxK (form:ByteArray)(i:Nat):Nat:=if by_ form i=42 then i+2 else i+1
def ksM (form:ByteArray):Nat→Nat→List ByteArray
 | 0,_=>[]
 | f+1,i=>if i<form.size then form.extract i (nxK form i)::ksM form f (nxK form i) else []
def okK (form:ByteArray):Nat→Nat→Bool
 | 0,i=>decide (form.size≤i)
 | f+1,i=>decide (form.size≤i)||((qc (by_ form i)||(by_ form i==42&&(decide (i+1<form.size)&&qc (by_ form (i+1)))))&&okK form f (nxK form i))
structure za6 (form:ByteArray)(ks:List ByteArray):Prop where
 size:form.size≤40
 ok:okK form 41 0=true
 cut:ksM form 41 0=ks
 parse:parseM form=some (kfL ks)
 kd: ∀s∈ks,kdOk s=true
end Go.Proofs.YtbpmjppmpgeejaaDoor
namespace Go.Proofs.YtbpmjppmpgeejaaDoor
open Go Go.RowKit
open D2 (Gh)
set_option linter.unusedVariables false
abbrev emB:ByteArray:=⟨#[]⟩
end Go.Proofs.YtbpmjppmpgeejaaDoor
namespace Go.Proofs.YtbpmjppmpgeejaaDoor
open Go Go.RowKit
set_option linter.unusedVariables false
abbrev knd (g:Nat)(p:Option Addr)(n c:Nat):Value:=.agg #[.int .u8 (g:Int),.slice p n c]
abbrev fld (m:Nat)(s:ByteArray)(p:Option Addr)(n c:Nat):Value:=.agg #[.int .u64 (m:Int),.string s,.slice p n c]
theorem yl {P:Program}{ρ:Env}{t e:TypeId}{K bytes:Nat}(ht:yf P t=some (e,K,bytes)){x y:Operand}{o:Oper}{kd:IntKind}{p:Option Addr}(b q n c k:Nat)(hp:p=some ⟨b,q,none⟩)(ho:o.op=.indexAddr t x y)(hx:ev ρ x=.slice p n c)(hy:ev ρ y=.int kd (k:Int))(hk:k<n):
 ∀w,(execOp (ev ρ) o).run P w=.ok (.value (.pointer (some ⟨b,q+k*K,none⟩))) w:=by
 subst hp;exact kM ht b q n c k ho hx hy hk
def qR (B:Nat)(w:World)(g:Nat)(p:Option Addr)(n i g':Nat)(p':Option Addr)(n' c':Nat):Prop:=
 (n≤(if g=42 then 0 else i)∧g'=0∧p'=none∧n'=0∧c'=0)∨
 ((if g=42 then 0 else i)<n∧∃b off C T fz,p=some ⟨b,off,none⟩∧b<B∧w.heap[b]? =some (.cells C T fz)∧off+(if g=42 then 0 else i)*2+2≤C.size∧C.extract (off+(if g=42 then 0 else i)*2) (off+(if g=42 then 0 else i)*2+2)=#[.int .u8 (g':Int),.slice p' n' c'])
theorem qR.up {B B':Nat}{w w':World}{g:Nat}{p:Option Addr}{n i g':Nat}{p':Option Addr}{n' c':Nat}(h:qR B w g p n i g' p' n' c')(hb:Below B w w')(hB:B≤B'):qR B' w' g p n i g' p' n' c':=by
 rcases h with h|⟨h0,b,off,C,T,fz,h1,h2,h3,h4⟩
 ·exact .inl h
 ·exact .inr ⟨h0,b,off,C,T,fz,h1,Nat.lt_of_lt_of_le h2 hB,by rw [hb.block b h2];exact h3,h4⟩
theorem SlR.kid {B:Nat}{w:World}{p:Option Addr}{n:Nat}{k:Kf}(h:SlR kS B w p n k)(g i:Nat):∃g' p' n' c',qR B w g p n i g' p' n' c'∧SlR kS B w p' n' (zn g k i).2∧g'=(zn g k i).1:=by
 unfold zn qR;generalize (if g=42 then 0 else i)=j;rcases Nat.lt_or_ge j n with hj | hj
 ·obtain ⟨a,q,ha⟩:=Fr.at_some (k:=k) (i:=j) (by rw [←h.1];exact hj);rcases h.2.2 with rfl|⟨b,off,rfl,hA⟩
  ·simp [Fr.at] at ha
  ·obtain ⟨C,T,fz,p',n',c',h1,h2,h3,h4,h5,h6⟩:=hA.at ha;rw [ha];exact ⟨a,p',n',c',.inr ⟨hj,b,off,C,T,fz,rfl,h1,h2,h3,h4⟩,h6,rfl⟩
 ·rw [Fr.at_none (by rw [←h.1];exact hj)];exact ⟨0,none,0,0,.inl ⟨hj,rfl,rfl,rfl,rfl⟩,SlR.nil _ _ _,rfl⟩
theorem za7 (g:Nat)(p:Option Addr)(n c i g':Nat)(p':Option Addr)(n' c':Nat):FnP Tryd.prog 47 #[knd g p n c,.int .i64 (i:Int)] (fun w=>qR w.heap.size w g p n i g' p' n' c') (knd g' p' n' c'):=by
 refine FnP.intro (c:=zl Tryd.f47) [.cell 4 51] 19 Tryd.func47 kr kr kr fun w hpre=>?_;have H0:=St.start w;refine rS [.b,.a] H0 kr fun gs1 w1 H1=>?_;clear H0;unfold qR at hpre;by_cases hg:g=42
 ·rw [if_pos hg] at hpre;refine zd kr<|rS [.v,.l 0,.E (.bool ((g:Int)==42)) (.bool true) (za (beq_iff_eq.2 (by omega)))] H1 kr fun gs2 w2 H2=>?_;clear H1;refine zk kr kr<|rL [.v] H2 kr fun gs3 w3 H3=>wW ?_;rcases hpre with ⟨hj,rfl,rfl,rfl,rfl⟩ | ⟨hj,b,off,C,T,fz,hp,hb,hh,hz,hx⟩
  ·refine zd kr<|rS [.v,.v,.l 0,.v,.E (.bool (decide ((n:Int)≤((0:Nat):Int)))) (.bool true) (za (decide_eq_true (by omega)))] H3 kr fun gs4 w4 H4=>zk kr kr<|rS [.v,.s 1] H4 kr fun gs5 w5 H5=>?_;exact rR [.cell 4 51] [1] (knd 0 none 0 0) H5 kr
  ·refine zd kr<|rS [.v,.v,.l 0,.v,.E (.bool (decide ((n:Int)≤((0:Nat):Int)))) (.bool false) (za (decide_eq_false (by omega)))] H3 kr fun gs4 w4 H4=>zm kr kr<|zq kr<|wW<|rS [.v,.l 0,.v,.o (ins:=[((.tmp 15),.slice p n c),((.tmp 16),.int .i64 ((0:Nat):Int))]) (v:=.pointer (some ⟨b,off+0*2,none⟩)) (fun ρ o w ho hi=>yl (kd:=.i64) (t:=49) (e:=51) (K:=2) (bytes:=32) kr (x:=(.tmp 15)) (y:=(.tmp 16)) b off n c 0 hp ho hi.1 hi.2.1 (by omega) w),.fp (off:=off+0*2) (n:=2) (W:=#[.int .u8 (g':Int),.slice p' n' c']) hh hb hz hx,.s 1] H4 kr fun gs5 w5 H5=>?_;exact rR [.cell 4 51] [1] (knd g' p' n' c') H5 kr
 ·rw [if_neg hg] at hpre;refine zd kr<|rS [.v,.l 0,.E (.bool ((g:Int)==42)) (.bool false) (za (beq_eq_false_iff_ne.2 (by omega)))] H1 kr fun gs2 w2 H2=>?_;clear H1;refine zm kr kr<|zq kr ?_;have H3:=H2;refine wW ?_;rcases hpre with ⟨hj,rfl,rfl,rfl,rfl⟩ | ⟨hj,b,off,C,T,fz,hp,hb,hh,hz,hx⟩
  ·refine zd kr<|rS [.v,.v,.l 0,.v,.E (.bool (decide ((n:Int)≤(i:Int)))) (.bool true) (za (decide_eq_true (by omega)))] H3 kr fun gs4 w4 H4=>zk kr kr<|rS [.v,.s 1] H4 kr fun gs5 w5 H5=>?_;exact rR [.cell 4 51] [1] (knd 0 none 0 0) H5 kr
  ·refine zd kr<|rS [.v,.v,.l 0,.v,.E (.bool (decide ((n:Int)≤(i:Int)))) (.bool false) (za (decide_eq_false (by omega)))] H3 kr fun gs4 w4 H4=>zm kr kr<|zq kr<|wW<|rS [.v,.l 0,.v,.o (ins:=[((.tmp 15),.slice p n c),((.tmp 16),.int .i64 (i:Int))]) (v:=.pointer (some ⟨b,off+i*2,none⟩)) (fun ρ o w ho hi=>yl (kd:=.i64) (t:=49) (e:=51) (K:=2) (bytes:=32) kr (x:=(.tmp 15)) (y:=(.tmp 16)) b off n c i hp ho hi.1 hi.2.1 (by omega) w),.fp (off:=off+i*2) (n:=2) (W:=#[.int .u8 (g':Int),.slice p' n' c']) hh hb hz hx,.s 1] H4 kr fun gs5 w5 H5=>?_;exact rR [.cell 4 51] [1] (knd g' p' n' c') H5 kr
theorem za8 (a b n:Nat):Fn Tryd.prog 60 #[.agg #[.int .i64 (a:Int),.int .i64 (b:Int)],.int .i64 (n:Int)] (.bool (zZ (a,b) n)):=by
 refine Fn.intro (c:=zl Tryd.f60) [.tmp 4] 15 Tryd.func60 kr kr kr fun w=>?_;have H0:=St.start w;refine rS [.b,.v] H0 kr fun gs1 w1 H1=>?_;clear H0;by_cases h1:a≤n
 ·by_cases h2:n≤b
  ·refine rS [.v,.l 0,.v,.E (.bool (decide ((a:Int)≤(n:Int)))) (.bool true) (za (decide_eq_true (by omega))),.v,.v,.v,.l 0,.E (.bool (decide ((n:Int)≤(b:Int)))) (.bool true) (za (decide_eq_true (by omega))),.v,.v] H1 kr fun gs2 w2 H2=>?_;exact rRe [.tmp 4] [] (v:=.bool true) (v':=.bool (zZ (a,b) n)) H2 (za (by unfold zZ;simp [h1,h2])) kr
  ·refine rS [.v,.l 0,.v,.E (.bool (decide ((a:Int)≤(n:Int)))) (.bool true) (za (decide_eq_true (by omega))),.v,.v,.v,.l 0,.E (.bool (decide ((n:Int)≤(b:Int)))) (.bool false) (za (decide_eq_false (by omega))),.v,.v] H1 kr fun gs2 w2 H2=>?_;exact rRe [.tmp 4] [] (v:=.bool false) (v':=.bool (zZ (a,b) n)) H2 (za (by unfold zZ;simp [h1,h2])) kr
 ·refine rS [.v,.l 0,.v,.E (.bool (decide ((a:Int)≤(n:Int)))) (.bool false) (za (decide_eq_false (by omega))),.v,.n,.n,.n,.n,.v,.v] H1 kr fun gs2 w2 H2=>?_;exact rRe [.tmp 4] [] (v:=.bool false) (v':=.bool (zZ (a,b) n)) H2 (za (by unfold zZ;simp [h1])) kr
theorem kp (g:Nat)(p:Option Addr)(n c:Nat):Fn Tryd.prog 59 #[knd g p n c] (.agg #[.int .i64 (((zC g).1:Nat):Int),.int .i64 (((zC g).2:Nat):Int)]):=by
 refine Fn.intro (c:=zl Tryd.f59) [.cell 2 103] 18 Tryd.func59 kr kr kr fun w=>?_;have H0:=St.start w;refine rS [.b,.a] H0 kr fun gs1 w1 H1=>?_;clear H0;refine rS [.v,.l 0] H1 kr fun gs2 w2 H2=>?_;clear H1;refine zw 0 kr ?_;by_cases h104:g=104
 ·refine rS [.E (.bool ((g:Int)==104)) (.bool true) (za (beq_iff_eq.2 (by omega))),.v] H2 kr fun gsa104 wa104 Ha104=>zk kr kr<|rS [.v,.s 1] Ha104 kr fun gsb104 wb104 Hb104=>?_;exact rRe [.cell 2 103] [1] (v:=.agg #[.int .i64 32,.int .i64 32]) (v':=.agg #[.int .i64 (((zC g).1:Nat):Int),.int .i64 (((zC g).2:Nat):Int)]) Hb104 (by unfold zC;simp [h104]) kr
 ·refine rS [.E (.bool ((g:Int)==104)) (.bool false) (za (beq_eq_false_iff_ne.2 (by omega))),.v] H2 kr fun gsc104 wc104 Hc104=>zm kr kr ?_;by_cases h97:g=97
  ·refine rS [.E (.bool ((g:Int)==97)) (.bool true) (za (beq_iff_eq.2 (by omega))),.v] Hc104 kr fun gsa97 wa97 Ha97=>zk kr kr<|rS [.v,.s 1] Ha97 kr fun gsb97 wb97 Hb97=>?_;exact rRe [.cell 2 103] [1] (v:=.agg #[.int .i64 20,.int .i64 20]) (v':=.agg #[.int .i64 (((zC g).1:Nat):Int),.int .i64 (((zC g).2:Nat):Int)]) Hb97 (by unfold zC;simp [h97]) kr
  ·refine rS [.E (.bool ((g:Int)==97)) (.bool false) (za (beq_eq_false_iff_ne.2 (by omega))),.v] Hc104 kr fun gsc97 wc97 Hc97=>zm kr kr ?_;by_cases h115:g=115
   ·refine rS [.E (.bool ((g:Int)==115)) (.bool true) (za (beq_iff_eq.2 (by omega))),.v] Hc97 kr fun gsa115 wa115 Ha115=>zk kr kr<|rS [.v,.s 1] Ha115 kr fun gsb115 wb115 Hb115=>?_;exact rRe [.cell 2 103] [1] (v:=.agg #[.int .i64 65,.int .i64 65]) (v':=.agg #[.int .i64 (((zC g).1:Nat):Int),.int .i64 (((zC g).2:Nat):Int)]) Hb115 (by unfold zC;simp [h115]) kr
   ·refine rS [.E (.bool ((g:Int)==115)) (.bool false) (za (beq_eq_false_iff_ne.2 (by omega))),.v] Hc97 kr fun gsc115 wc115 Hc115=>zm kr kr ?_;by_cases h98:g=98
    ·refine rS [.E (.bool ((g:Int)==98)) (.bool true) (za (beq_iff_eq.2 (by omega))),.v] Hc115 kr fun gsa98 wa98 Ha98=>zk kr kr<|rS [.v,.s 1] Ha98 kr fun gsb98 wb98 Hb98=>?_;exact rRe [.cell 2 103] [1] (v:=.agg #[.int .i64 0,.int .i64 64]) (v':=.agg #[.int .i64 (((zC g).1:Nat):Int),.int .i64 (((zC g).2:Nat):Int)]) Hb98 (by unfold zC;simp [h98]) kr
    ·refine rS [.E (.bool ((g:Int)==98)) (.bool false) (za (beq_eq_false_iff_ne.2 (by omega))),.v] Hc115 kr fun gsc98 wc98 Hc98=>zm kr kr<|rS [.v,.s 1] Hc98 kr fun gsz wz Hz=>?_;exact rRe [.cell 2 103] [1] (v:=.agg #[.int .i64 0,.int .i64 0]) (v':=.agg #[.int .i64 (((zC g).1:Nat):Int),.int .i64 (((zC g).2:Nat):Int)]) Hz (by unfold zC;simp [h104,h97,h115,h98]) kr
theorem za9 (g:Nat)(p:Option Addr)(n c:Nat):Fn Tryd.prog 61 #[knd g p n c] (.agg #[.int .i64 (((zE g n).1:Nat):Int),.int .i64 (((zE g n).2:Nat):Int)]):=by
 refine Fn.intro (c:=zl Tryd.f61) [.cell 2 103] 18 Tryd.func61 kr kr kr fun w=>?_;have H0:=St.start w;refine rS [.b,.a] H0 kr fun gs1 w1 H1=>?_;clear H0;refine rS [.v,.l 0] H1 kr fun gs2 w2 H2=>?_;clear H1;refine zw 0 kr ?_;by_cases h40:g=40
 ·refine rS [.E (.bool ((g:Int)==40)) (.bool true) (za (beq_iff_eq.2 (by omega))),.v] H2 kr fun gsa40 wa40 Ha40=>zk kr kr<|rS [.v,.l 0,.v,.v,.l 0,.v,.v,.s 1] Ha40 kr fun gsb40 wb40 Hb40=>?_;exact rRe [.cell 2 103] [1] (v:=.agg #[.int .i64 (n:Int),.int .i64 (n:Int)]) (v':=.agg #[.int .i64 (((zE g n).1:Nat):Int),.int .i64 (((zE g n).2:Nat):Int)]) Hb40 (by unfold zE;simp [h40]) kr
 ·refine rS [.E (.bool ((g:Int)==40)) (.bool false) (za (beq_eq_false_iff_ne.2 (by omega))),.v] H2 kr fun gsc40 wc40 Hc40=>zm kr kr ?_;by_cases h42:g=42
  ·refine rS [.E (.bool ((g:Int)==42)) (.bool true) (za (beq_iff_eq.2 (by omega))),.v] Hc40 kr fun gsa42 wa42 Ha42=>zk kr kr<|rS [.v,.s 1] Ha42 kr fun gsb42 wb42 Hb42=>?_;exact rRe [.cell 2 103] [1] (v:=.agg #[.int .i64 0,.int .i64 40]) (v':=.agg #[.int .i64 (((zE g n).1:Nat):Int),.int .i64 (((zE g n).2:Nat):Int)]) Hb42 (by unfold zE;simp [h42]) kr
  ·refine rS [.E (.bool ((g:Int)==42)) (.bool false) (za (beq_eq_false_iff_ne.2 (by omega))),.v] Hc40 kr fun gsc42 wc42 Hc42=>zm kr kr<|rS [.v,.s 1] Hc42 kr fun gsz wz Hz=>?_;exact rRe [.cell 2 103] [1] (v:=.agg #[.int .i64 0,.int .i64 0]) (v':=.agg #[.int .i64 (((zE g n).1:Nat):Int),.int .i64 (((zE g n).2:Nat):Int)]) Hz (by unfold zE;simp [h40,h42]) kr
theorem zba (g:Nat)(p:Option Addr)(n c m:Nat)(s:ByteArray)(p2:Option Addr)(n2 c2:Nat):Fn Tryd.prog 46 #[knd g p n c,fld m s p2 n2 c2] (.bool (zs g n m s.size n2)):=by
 refine Fn.intro (c:=zl Tryd.f46) [.tmp 4] 29 Tryd.func46 kr kr kr fun w=>?_;have H0:=St.start w;refine rS [.b,.b,.v] H0 kr fun gs1 w1 H1=>?_;clear H0;have hv:zs g n m s.size n2=((decide (m=0)||decide (g=110))&&(zZ (zC g) s.size&&zZ (zE g n) n2)):=rfl;obtain ⟨x1,hx1⟩:∃x,zZ (zC g) s.size=x:=⟨_,rfl⟩
 obtain ⟨x2,hx2⟩:∃x,zZ (zE g n) n2=x:=⟨_,rfl⟩
 have c1:Fn Tryd.prog 60 #[.agg #[.int .i64 (((zC g).1:Nat):Int),.int .i64 (((zC g).2:Nat):Int)],.int .i64 (s.size:Int)] (.bool x1):=hx1▸za8 _ _ _;have c2:Fn Tryd.prog 60 #[.agg #[.int .i64 (((zE g n).1:Nat):Int),.int .i64 (((zE g n).2:Nat):Int)],.int .i64 (n2:Int)] (.bool x2):=hx2▸za8 _ _ _;rw [hx1,hx2] at hv;rw [hv];clear hv hx1 hx2;by_cases hm:m=0
 ·skip;cases x1 with
  | true=>
   refine dS [.v,.l 1,.E (.bool ((m:Int)==0)) (.bool true) (za (beq_iff_eq.2 (by omega))),.v,.n,.n,.n,.v,.v,.l 0,.c (kp g p n c),.v,.l 1,.v,.c c1,.v,.v,.l 0,.c (za9 g p n c),.v,.l 1,.v,.c c2,.v,.v] H1 kr fun w2 H2=>?_;exact rRe [.tmp 4] [] (v:=.bool x2) (v':=.bool ((decide (m=0)||decide (g=110))&&(true&&x2))) H2 (za (by simp [hm])) kr
  | false=>
   refine dS [.v,.l 1,.E (.bool ((m:Int)==0)) (.bool true) (za (beq_iff_eq.2 (by omega))),.v,.n,.n,.n,.v,.v,.l 0,.c (kp g p n c),.v,.l 1,.v,.c c1,.v,.v,.n,.n,.n,.n,.n,.n,.v,.v] H1 kr fun w2 H2=>?_;exact rRe [.tmp 4] [] (v:=.bool false) (v':=.bool ((decide (m=0)||decide (g=110))&&(false&&x2))) H2 (za (by simp [hm])) kr
 ·by_cases hg:g=110
  ·skip;cases x1 with
   | true=>
    refine dS [.v,.l 1,.E (.bool ((m:Int)==0)) (.bool false) (za (beq_eq_false_iff_ne.2 (by omega))),.v,.v,.l 0,.E (.bool ((g:Int)==110)) (.bool true) (za (beq_iff_eq.2 (by omega))),.v,.v,.l 0,.c (kp g p n c),.v,.l 1,.v,.c c1,.v,.v,.l 0,.c (za9 g p n c),.v,.l 1,.v,.c c2,.v,.v] H1 kr fun w2 H2=>?_;exact rRe [.tmp 4] [] (v:=.bool x2) (v':=.bool ((decide (m=0)||decide (g=110))&&(true&&x2))) H2 (za (by simp [hm,hg])) kr
   | false=>
    refine dS [.v,.l 1,.E (.bool ((m:Int)==0)) (.bool false) (za (beq_eq_false_iff_ne.2 (by omega))),.v,.v,.l 0,.E (.bool ((g:Int)==110)) (.bool true) (za (beq_iff_eq.2 (by omega))),.v,.v,.l 0,.c (kp g p n c),.v,.l 1,.v,.c c1,.v,.v,.n,.n,.n,.n,.n,.n,.v,.v] H1 kr fun w2 H2=>?_;exact rRe [.tmp 4] [] (v:=.bool false) (v':=.bool ((decide (m=0)||decide (g=110))&&(false&&x2))) H2 (za (by simp [hm,hg])) kr
  ·refine dS [.v,.l 1,.E (.bool ((m:Int)==0)) (.bool false) (za (beq_eq_false_iff_ne.2 (by omega))),.v,.v,.l 0,.E (.bool ((g:Int)==110)) (.bool false) (za (beq_eq_false_iff_ne.2 (by omega))),.v,.v,.n,.n,.n,.n,.n,.n,.v,.v,.n,.n,.n,.n,.n,.n,.v,.v] H1 kr fun w2 H2=>?_;exact rRe [.tmp 4] [] (v:=.bool false) (v':=.bool ((decide (m=0)||decide (g=110))&&(x1&&x2))) H2 (za (by simp [hm,hg])) kr
def Fr.sub {α:Type}(p:Fr α→Prop):Fr α→Prop
 | .nil=>True
 | .cons a k r=>p k∧r.sub p
theorem Fr.induct {α:Type}{p:Fr α→Prop}(h: ∀l:Fr α,l.sub p→p l): ∀l:Fr α,p l∧l.sub p
 | .nil=>⟨h .nil trivial,trivial⟩
 | .cons a k r=>⟨h _ ⟨(Fr.induct h k).1,(Fr.induct h r).2⟩,(Fr.induct h k).1,(Fr.induct h r).2⟩
def kq (l:Fe):Prop:= ∀(g:Nat) (p:Option Addr) (n c:Nat) (b:Kf) (m:Nat) (s:ByteArray) (p2:Option Addr) (n2 c2:Nat) (room:Int),
 FnP Tryd.prog 35 #[knd g p n c,fld m s p2 n2 c2,.int .i64 room] (fun w=>SlR kS w.heap.size w p n b∧SlR fS w.heap.size w p2 n2 l) (.int .i64 (zB g b (m,s) l room))
theorem zew (l:Fe)(hs:l.sub kq):kq l:=by
 intro g p n c b m s p2 n2 c2 room;refine FnP.intro (c:=zl Tryd.f35) [.tmp 6] 34 Tryd.func35 kr kr kr fun w hpre=>?_;have H0:=St.start w;obtain ⟨hK,hF⟩:=hpre;have hn2:=hF.1;have hnm:n2≤0x800000000000:=hF.2.1;unfold zB;rw [←hK.1,←hF.1];refine rS [.b,.b,.v] H0 kr fun gs1 w1 H1=>?_;clear H0;refine zd kr ?_;cases hf:zs g n m s.size n2 with
 | false=>
  rw [if_neg (by decide)];refine rS [.l 0,.l 1,.c (zba g p n c m s p2 n2 c2),.E (.bool (!(zs g n m s.size n2))) (.bool true) (za (by rw [hf];rfl))] H1 kr fun gs2 w2 H2=>zk kr kr<|rS [.v] H2 kr fun gs3 w3 H3=>?_;exact rR [.tmp 6] [] (.int .i64 (-1)) H3 kr
 | true=>
  rw [if_pos rfl];refine rS [.l 0,.l 1,.c (zba g p n c m s p2 n2 c2),.E (.bool (!(zs g n m s.size n2))) (.bool false) (za (by rw [hf];rfl))] H1 kr fun gs2 w2 H2=>zm kr kr<|zq kr<|wW<|rS [.v,.E (.int .i64 (IntKind.i64.wrap (room-1))) (.int .i64 (w64 (room-1))) rfl,.v] H2 kr fun gs3 w3 H3=>zd kr<|rS [.v,.l 1,.v,.v] H3 kr fun gs4 w4 H4=>zw 0 kr ?_;have H5:St w.heap.size w w4 [((gs1 0).b,.cells #[.int .u8 (g:Int),.slice p n c] 51 (0,0)),((gs1 1).b,.cells #[.int .u64 (m:Int),.string s,.slice p2 n2 c2] 39 (0,0))]:=H4.as kr;clear H1 H2 H3 H4;refine yN kr (fun mz ρ ww=> ∃(i:Nat) (r:Fe) (v:Int),n2-i=mz∧FrR fS w.heap.size w p2 i r∧i+r.len=n2∧r.sub kq∧yc l g b 0 (w64 (room-1))=yc r g b i v∧St w.heap.size w ww [((gs1 0).b,.cells #[.int .u8 (g:Int),.slice p n c] 51 (0,0)),((gs1 1).b,.cells #[.int .u64 (m:Int),.string s,.slice p2 n2 c2] 39 (0,0))]∧Is [(2,.int .i64 v),(3,.pointer (some ⟨(gs1 0).b,0,none⟩)),(16,.slice p2 n2 c2),(17,.int .i64 (n2:Int)),(18,.int .i64 (i:Int))] ρ) (n2-0) ⟨0,l,_,rfl,hF.start,by omega,hs,rfl,H5,(Is.of ⟨kr,kr,kr,kr,kr,trivial⟩)⟩ ?_;clear H5;rintro _ _ w5 ⟨i,r,v,rfl,hR,hN,hsub,hv,H6,_,rfl⟩;by_cases hi:i<n2
  ·refine rS [.E (.bool (decide ((i:Int)<(n2:Int)))) (.bool true) (za (decide_eq_true (by omega)))] H6 kr fun gs5 w6 H7=>?_;clear H6;refine zd kr<|zk kr kr<|zq kr<|wW<|zd kr<|zw 1 kr ?_;obtain ⟨⟨m1,s1⟩,k1,r1,b1,off1,C1,T1,fz1,p1,n1,c1,hr1,hp1,hb1,hh1,hs1,hx1,hz1,hk1,hR1,hN1⟩:=FrR.open hR hN hi;obtain ⟨g',p',n',c',hK1,hK2,hg'⟩:=hK.kid g i;subst hr1;refine rS [.v,.o (ins:=[((.tmp 16),.slice p2 n2 c2),((.tmp 18),.int .i64 (i:Int))]) (v:=.pointer (some ⟨b1,off1+i*3,none⟩)) (fun ρ o w ho hi2=>yl (kd:=.i64) (t:=37) (e:=39) (K:=3) (bytes:=48) kr (x:=(.tmp 16)) (y:=(.tmp 18)) b1 off1 n2 c2 i hp1 ho hi2.1 hi2.2.1 (by omega) w),.fp (off:=off1+i*3) (n:=3) (W:=#[.int .u64 (m1:Int),.string s1,.slice p1 n1 c1]) hh1 hb1 hs1 hx1,.a,.v,.s 2] H7 kr fun gs6 w7 H8=>?_;clear H7;refine dS [.l 0,.v,.cp (pre:=fun w=>qR w.heap.size w g p n i g' p' n' c') (za7 g p n c i g' p' n' c') [] (fun w hb hd=>hK1.up hb hb.size),.l 2,.v,.cp (pre:=fun w=>SlR kS w.heap.size w p' n' (zn g b i).2∧SlR fS w.heap.size w p1 n1 k1) (hsub.1 g' p' n' c' (zn g b i).2 m1 s1 p1 n1 c1 v) [] (fun w hb hd=>⟨hK2.call hb,hk1.call hb⟩),.v] H8 kr fun w8 H9=>?_;clear H8;rw [xh,←hg'] at hv;by_cases hv0:zB g' (zn g b i).2 (m1,s1) k1 v<0
   ·rw [if_pos hv0] at hv;refine rS [.v,.E (.bool (decide (zB g' (zn g b i).2 (m1,s1) k1 v<0))) (.bool true) (za (decide_eq_true hv0))] H9 kr fun gs7 w9 H10=>zk kr kr<|rS [.v,.v] H10 kr fun gs8 w10 H11=>?_;exact rRe [.tmp 6] [] (v:=.int .i64 (zB g' (zn g b i).2 (m1,s1) k1 v)) (v':=.int .i64 (yc l g b 0 (w64 (room-1)))) H11 (zt hv.symm) kr
   ·rw [if_neg hv0] at hv;refine rS [.v,.E (.bool (decide (zB g' (zn g b i).2 (m1,s1) k1 v<0))) (.bool false) (za (decide_eq_false hv0))] H9 kr fun gs7 w9 H10=>zm kr kr<|zq kr<|wW<|rL [.E (.int .i64 (IntKind.i64.wrap ((i:Int)+1))) (.int .i64 ((i+1:Nat):Int)) (zt (qk (a:=i) (b:=1) (by omega))),.v] H10 kr fun gs8 w10 H11=>?_;have H12:St w.heap.size w w10 [((gs1 0).b,.cells #[.int .u8 (g:Int),.slice p n c] 51 (0,0)),((gs1 1).b,.cells #[.int .u64 ((m:Nat):Int),.string s,.slice p2 n2 c2] 39 (0,0)),((gs6 3).b,.cells #[.int .u64 (m1:Int),.string s1,.slice p1 n1 c1] 39 (0,0))]:=H11.as kr;show ∃m,_∧_;exact ⟨_,(by omega),i+1,r1,_,rfl,hR1,hN1,hsub.2,hv,H12.sub (List.Sublist.cons_cons _ (List.Sublist.cons_cons _ (List.nil_sublist _))),(Is.of ⟨kr,kr,kr,kr,kr,trivial⟩)⟩
  ·obtain rfl:=FrR.done hN hi;refine rS [.E (.bool (decide ((i:Int)<(n2:Int)))) (.bool false) (za (decide_eq_false (by omega)))] H6 kr fun gs5 w6 H7=>zd kr<|zm kr kr<|yt 0 kr<|wW<|rS [.v,.v] H7 kr fun gs6 w7 H8=>?_;exact rRe [.tmp 6] [] (v:=.int .i64 v) (v':=.int .i64 (yc l g b 0 (w64 (room-1)))) H8 (zt hv.symm) kr
theorem zbb (l:Fe):kq l:=(Fr.induct zew l).1
structure qy (C:Array Value)(n i:Nat)(M:List X3):Prop where
 sz:C.size=n*3
 len:M.length=i
 take:C.toList.take (i*3)=cells3 M
theorem qy.start {C:Array Value}{n:Nat}(h:C.size=n*3):qy C n 0 []:=⟨h,rfl,by simp [cells3]⟩
theorem qy.put {C:Array Value}{n i:Nat}{M:List X3}(h:qy C n i M)(x:X3)(hi:i<n):
 0+i*3+(Value.agg (xc x)).cells.size≤C.size∧qy (C.toList.take (0+i*3)++(Value.agg (xc x)).cells.toList++C.toList.drop (0+i*3+(Value.agg (xc x)).cells.size)).toArray n (i+1) (M++ [x]):=by
 have hc:(Value.agg (xc x)).cells=xc x:=rfl;have h3:(xc x).size=3:=rfl;have hl3:(xc x).toList.length=3:=rfl;have hsz:=h.sz;rw [hc,h3,Nat.zero_add];have hle:i*3+3≤C.size:=by omega
 refine ⟨hle,?_,by rw [List.length_append,h.len];rfl,?_⟩
 ·simp only [List.size_toArray,List.length_append,List.length_take,List.length_drop,Array.length_toList,hl3];omega
 ·have e1:(C.toList.take (i*3)).length=i*3:=by rw [List.length_take,Array.length_toList];omega
  have e2:(C.toList.take (i*3)).take (i*3+3)=C.toList.take (i*3):=List.take_of_length_le (by omega);have e3:(xc x).toList.take 3=(xc x).toList:=rfl;rw [show (i+1)*3=i*3+3 by omega,List.toList_toArray,List.append_assoc,List.take_append,e1,e2,Nat.add_sub_cancel_left,List.take_append,hl3,Nat.sub_self,List.take_zero,List.append_nil,e3,zaI,h.take];rfl
theorem qy.done {C:Array Value}{n:Nat}{M:List X3}(h:qy C n n M)(hm:n≤maxLen):Rw 3 C n n (cells3 M):=⟨by rw [jb,h.len],Nat.le_refl _,hm,h.take,h.sz⟩
theorem zex (n c:Nat)(L:List X3)(h0:n=0):FnR Tryd.prog 68 #[.slice none n c] (fun w=>n=List.length L∧yK w none L) (xg 74 (fun v=>v) n L):=by
 refine FnR.intro (c:=zl Tryd.f68) [.tmp 2] 8 Tryd.func68 kr kr kr fun w hpre=>?_;have H0:=St.start w;refine rS [.v] H0 kr fun gs1 w1 H1=>?_;clear H0;refine zd kr<|rS [.v,.v] H1 kr fun gs2 w2 H2=>?_;clear H1;refine zk kr kr<|rS [.v] H2 kr fun gs3 w3 H3=>?_;clear H2;refine zo kr<|wV ?_;refine ⟨[.slice none 0 0],(.tmp (.slice none 0 0) kr .nil),H3.below,?_⟩;exact Or.inl ⟨h0,rfl⟩
theorem zey (a:Addr)(n c:Nat)(L:List X3)(hn8:n≤2000000000000):FnR Tryd.prog 68 #[.slice (some a) n c] (fun w=>n=List.length L∧yK w (some a) L) (xg 74 (fun v=>v) n L):=by
 refine FnR.intro (c:=zl Tryd.f68) [.tmp 2] 8 Tryd.func68 kr kr kr fun w hpre=>?_;have H0:=St.start w;refine rS [.v] H0 kr fun gs1 w1 H1=>?_;clear H0;refine zd kr<|rS [.v,.v] H1 kr fun gs2 w2 H2=>?_;clear H1;refine zm kr kr<|zq kr<|wW<|zh [0,1,2,3] kr kr<|rp [.nw (fun b=>.slice (some ⟨b,0,none⟩) 0 0) #[] 74,.v] H2 kr fun gs3 w3 H3=>wX [2,3] ?_;clear H2;have HL1:St w.heap.size w w3 [((gs3 0).b,Obj.cells #[] 74 (0,0))]:=H3.as kr;clear H3;refine zes HL1 (some 7) 72 74 48 (.tmp 5) (.tmp 6) 0 ((gs3 0).b) 0 n 0 c (some a) #[] [] L (fun b_1 cur_3=>[(b_1,Obj.cells cur_3 74 (0,0))]) kr kr kr kr kr (Rw.lit #[] 0 (by rfl) (by unfold maxLen;omega)) kr hpre.1 (fun h=>nomatch h) (yK.up hpre.2 HL1.below) (by omega) (by unfold maxLen;omega) (fun _ _=>by kernel_rfl) ?_;intro b_1 cap_2 cur_3 w4 H4 hr_4;clear HL1;rw [Nat.zero_add] at hr_4;refine yH 7 (v:=.slice (some ⟨b_1,0,none⟩) (0+n) cap_2) (v':=.slice (some ⟨b_1,0,none⟩) n cap_2) (by rw [Nat.zero_add]) kr<|rp [.v] H4 kr fun gs5 w5 H5=>wX [] ?_;clear H4;refine zb<|zo kr<|wV ?_;refine ⟨[.slice (some ⟨b_1,0,none⟩) n cap_2],(.tmp (.slice (some ⟨b_1,0,none⟩) n cap_2) kr .nil),H5.below,?_⟩;exact Or.inr ⟨b_1,cap_2,_,rfl,H5.ge 0 (o:=.cells cur_3 74 (0,0)) kr,H5.get 0 kr,hr_4⟩
theorem zez (p:Option Addr)(n c:Nat)(L:List X3)(hn8:n≤2000000000000):FnR Tryd.prog 68 #[.slice p n c] (fun w=>n=List.length L∧yK w p L) (xg 74 (fun v=>v) n L):=fun w hp=>by
 cases p with
 | none=>
  have h0:n=0:=by
   rcases hp.2 with h|⟨b,off,e,_⟩
   ·rw [hp.1,h];rfl
   ·cases e
  exact zex n c L h0 w hp
 | some a=>exact zey a n c L hn8 w hp
theorem zeA (p:Option Addr)(n c:Nat)(L:List X3)(hn8:n≤2000000000000):FnR Tryd.prog 54 #[.slice p n c] (fun w=>n=List.length L∧yK w p L) (xg 74 (fun v=>.agg #[.bool true,.string ⟨#[]⟩,v]) n L):=by
 refine FnR.intro (c:=zl Tryd.f54) [.cell 2 74] 6 Tryd.func54 kr kr kr fun w hpre=>?_;have H0:=St.start w;refine rS [.a] H0 kr fun gs1 w1 H1=>?_;clear H0;refine zh [0,1,2,3] kr kr<|rp [.v] H1 kr fun gs2 w2 H2=>wX [1,2,3] ?_;clear H1;refine zaR H2 (some 4) 68 #[.slice p n c] (fun w=>n=List.length L∧yK w p L) 74 (fun v=>v) n L (zez p n c L (by omega)) ⟨hpre.1,yK.up hpre.2 H2.below⟩ kr kr ?_ ?_
 ·skip;intro w3 h0 H3;clear H2;refine rp [.v,.s 0] H3 kr fun gs5 w5 H5=>wX [] ?_;clear H3;refine zb<|zo kr<|wV ?_;refine ⟨[.agg #[.bool true,.string (⟨#[]⟩),.slice none 0 0]],(.agg (b:=(gs1 0).b) (#[.bool true,.string (⟨#[]⟩),.slice none 0 0]) 74 (0,0) kr (H5.get 0 kr) kr .nil),H5.below,?_⟩;exact Or.inl ⟨h0,rfl⟩
 ·skip;intro b_1 cap_2 cur_3 w4 H4 hr_4;clear H2;refine rp [.v,.s 1] H4 kr fun gs6 w6 H6=>wX [] ?_;clear H4;refine zb<|zo kr<|wV ?_;refine ⟨[.agg #[.bool true,.string (⟨#[]⟩),.slice (some ⟨b_1,0,none⟩) n cap_2]],(.agg (b:=(gs1 0).b) (#[.bool true,.string (⟨#[]⟩),.slice (some ⟨b_1,0,none⟩) n cap_2]) 74 (0,0) kr (H6.get 1 kr) kr .nil),H6.below,?_⟩;exact Or.inr ⟨b_1,cap_2,_,rfl,H6.ge 0 (o:=.cells cur_3 74 (0,0)) kr,H6.get 0 kr,hr_4⟩
def Fo.app:Fo→Fo→Fo
 | .nil,R=>R
 | .cons l s k r,R=>.cons l s k (r.app R)
theorem zbc (x:X3)(R:Fo): ∀M:List X3,(toFo (M++ [x])).app R=(toFo M).app (.cons x.l x.s x.k R)
 | []=>rfl
 | y::r=>by simp only [List.cons_append,toFo,Fo.app,zbc x R r]
theorem Fo.app_nil: ∀k:Fo,k.app .nil=k
 | .nil=>rfl
 | .cons l s k r=>by simp only [Fo.app,Fo.app_nil r]
theorem zbd {g:Nat}{x:Nat×ByteArray}(h:x.2.size≤0x800000000000):(zU g x).size≤0x800000000000:=by
 unfold zU;split
 ·rw [qm];have:=yQ x.1;omega
 ·split
  ·exact Nat.zero_le _
  ·exact h
def xk (g:Nat)(b:Kf)(x:Nat×ByteArray)(l:Fe)(v:Value)(T:List (Nat×Obj)):Prop:=
 ∃(p:Option Addr) (n c:Nat),v=.agg #[.bool (zG g),.string (zU g x),.slice p n c]∧SlIn T p n (zM g b l)
def kt (l:Fe):Prop:= ∀(g:Nat) (p:Option Addr) (n c:Nat) (b:Kf) (m:Nat) (s:ByteArray) (p2:Option Addr) (n2 c2:Nat) (room:Int),m<0x10000000000000000→0≤zB g b (m,s) l room→
 FnT Tryd.prog 37 #[knd g p n c,fld m s p2 n2 c2] (fun w=>SlR kS w.heap.size w p n b∧SlR fS w.heap.size w p2 n2 l) (xk g b (m,s) l)
abbrev zeB (v:Value):Obj:=.cells #[.bool true,.string ⟨#[]⟩,v] 74 (0,0)
abbrev itZ:Obj:=.cells #[.bool false,.string ⟨#[]⟩,.slice none 0 0] 74 (0,0)
abbrev kdO (g:Nat)(p:Option Addr)(n c:Nat):Obj:=.cells #[.int .u8 (g:Int),.slice p n c] 51 (0,0)
abbrev fdO (m:Nat)(s:ByteArray)(p:Option Addr)(n c:Nat):Obj:=.cells #[.int .u64 (m:Int),.string s,.slice p n c] 39 (0,0)
abbrev rwO (C:Array Value):Obj:=.cells C 74 (0,0)
def ku (C:Array Value)(i:Nat)(x:X3):Array Value:=(C.toList.take (0+i*3)++(Value.agg (xc x)).cells.toList++C.toList.drop (0+i*3+(Value.agg (xc x)).cells.size)).toArray
def yT (B:Nat)(w0:World)(bq br:Nat)(C:Array Value)(i:Nat)(ok:X3→List (Nat×Obj)→Prop)(bk:Nat)(kO fO:Obj)(T:List (Nat×Obj)):(Nat→Bool)→(Nat→D2.Gh)→World→Prop:=fun L g w=>
 bif L 8 then ∃x T2,ok x T2∧St B w0 w ((bq,fO)::(bk,kO)::(br,rwO (ku C i x))::(T2++T))
 else bif L 6 then ∃x T2,ok x T2∧(g 6).cur=xc x∧St B w0 w ((bq,fO)::(bk,kO)::(br,rwO C)::(T2++T))
 else St B w0 w ((bq,fO)::(bk,kO)::(br,rwO C)::T)
theorem yT.st {B:Nat}{w0:World}{bq br:Nat}{C:Array Value}{i:Nat}{ok:X3→List (Nat×Obj)→Prop}{bk:Nat}{kO fO:Obj}{T:List (Nat×Obj)}{L:Nat→Bool}{g:Nat→D2.Gh}{w:World}(h8:L 8=false)(h:yT B w0 bq br C i ok bk kO fO T L g w):∃T',St B w0 w ((bq,fO)::(bk,kO)::(br,rwO C)::T'):=by
 unfold yT at h;rw [h8] at h;cases h6:L 6 with
 | true=>rw [h6] at h;obtain ⟨x,T2,_,_,h⟩:=h;exact ⟨_,h⟩
 | false=>rw [h6] at h;exact ⟨_,h⟩
theorem yT.call {B:Nat}{w0:World}{bq br:Nat}{C:Array Value}{i:Nat}{ok:X3→List (Nat×Obj)→Prop}{bk:Nat}{kO fO:Obj}{T:List (Nat×Obj)}{L:Nat→Bool}{g:Nat→D2.Gh}{w w':World}(hb:Below w.heap.size w w')(h:yT B w0 bq br C i ok bk kO fO T L g w):yT B w0 bq br C i ok bk kO fO T L g w':=by
 unfold yT at h ⊢;cases h8:L 8 with
 | true=>rw [h8] at h;obtain ⟨x,T2,h1,h⟩:=h;exact ⟨x,T2,h1,h.call hb⟩
 | false=>
  rw [h8] at h;cases h6:L 6 with
  | true=>rw [h6] at h;obtain ⟨x,T2,h1,h2,h⟩:=h;exact ⟨x,T2,h1,h2,h.call hb⟩
  | false=>rw [h6] at h;exact St.call h hb
theorem zeC (l:Fe)(hs:l.sub kt):kt l:=by
 intro g p n c b m s p2 n2 c2 room hm hleft;refine FnT.intro (c:=zl Tryd.f37) [.cell 4 74] 44 Tryd.func37 kr kr kr fun w hpre=>?_;have H0:=St.start w;obtain ⟨hK,hF⟩:=hpre;have hfit:zs g b.len m s.size l.len=true∧0≤yc l g b 0 (w64 (room-1)):=by
  unfold zB at hleft;by_cases hf:zs g b.len m s.size l.len=true
  ·rw [if_pos hf] at hleft;exact ⟨hf,hleft⟩
  ·rw [if_neg hf] at hleft;omega
 obtain ⟨hf1,hf2,hf3⟩:=vK hfit.1;have hn2:=hF.1;have hnb:n2≤1000:=by
  have hk1:=hK.1;have hk2:n≤1000:=hK.2.1;have:=hf3.2;unfold zE at this;split at this
  ·simp only at this;omega
  ·split at this
   ·simp only at this;omega
   ·simp only at this;omega
 refine rS [.b,.b,.a] H0 kr fun gs1 w1 H1=>?_;clear H0;refine rS [.v,.l 0] H1 kr fun gs2 w2 H2=>?_;clear H1;refine zw 0 kr ?_;by_cases h110:g=110
 ·refine rS [.E (.bool ((g:Int)==110)) (.bool true) (za (beq_iff_eq.2 (by omega))),.v] H2 kr fun gs3 w3 H3=>zk kr kr<|rS [.v,.l 1,.c (zeq m hm),.s 2] H3 kr fun gs4 w4 H4=>rRr [.cell 4 74] [2] (.agg #[.bool false,.string (zf (dg m)),.slice none 0 0]) (yZ w.heap.size w (xk g b (m,s) l)) H4 kr ?_;refine ⟨[],⟨none,0,0,?_,?_⟩,H4.sub (List.nil_sublist _)⟩
  ·subst h110;rfl
  ·subst h110;exact SlIn.none _
 ·refine rS [.E (.bool ((g:Int)==110)) (.bool false) (za (beq_eq_false_iff_ne.2 (by omega))),.v] H2 kr fun gs3 w3 H3=>zm kr kr<|zd kr<|xy (Q:=fun e ρ ww=>e=.normal∧St w.heap.size w ww [((gs1 0).b,kdO g p n c),((gs1 1).b,fdO m s p2 n2 c2),((gs1 2).b,itZ)]∧Is [(2,.pointer (some ⟨(gs1 0).b,0,none⟩)),(3,.pointer (some ⟨(gs1 1).b,0,none⟩)),(4,.pointer (some ⟨(gs1 2).b,0,none⟩)),(18,.bool (zG g))] ρ) ?_ ?_
  ·by_cases h40:g=40
   ·refine rS [.E (.bool ((g:Int)==40)) (.bool true) (za (beq_iff_eq.2 (by omega))),.v] H3 kr fun gs4 w4 H4=>zk kr kr<|zq kr ?_;refine ⟨rfl,H4.as kr,?_⟩;subst h40;exact Is.of ⟨kr,kr,kr,kr,trivial⟩
   ·refine rS [.E (.bool ((g:Int)==40)) (.bool false) (za (beq_eq_false_iff_ne.2 (by omega))),.v] H3 kr fun gs4 w4 H4=>zm kr kr ?_;have hl:zG g=decide (g=42):=by unfold zG;rw [decide_eq_false h40];rfl
    rw [hl];by_cases h42:g=42
    ·refine rL [.E (.bool ((g:Int)==42)) (.bool true) (za (beq_iff_eq.2 (by omega))),.v] H4 kr fun gs5 w5 H5=>?_;refine ⟨rfl,H5.as kr,?_⟩;rw [decide_eq_true h42];exact Is.of ⟨kr,kr,kr,kr,trivial⟩
    ·refine rL [.E (.bool ((g:Int)==42)) (.bool false) (za (beq_eq_false_iff_ne.2 (by omega))),.v] H4 kr fun gs5 w5 H5=>?_;refine ⟨rfl,H5.as kr,?_⟩;rw [decide_eq_false h42];exact Is.of ⟨kr,kr,kr,kr,trivial⟩
  rintro _ _ w4 ⟨rfl,H4,_,rfl⟩;refine wW ?_;clear H3 H2;cases hl:zG g with
  | false=>
   refine zm kr kr<|rS [.v,.l 1,.v,.s 2] H4 kr fun gs5 w5 H5=>rRr [.cell 4 74] [2] (.agg #[.bool false,.string s,.slice none 0 0]) (yZ w.heap.size w (xk g b (m,s) l)) H5 kr ?_;refine ⟨[],⟨none,0,0,?_,?_⟩,H5.sub (List.nil_sublist _)⟩
   ·unfold zU;rw [if_neg h110,if_neg (by rw [hl];decide),hl]
   ·unfold zM;rw [if_neg (by rw [hl];decide)];exact SlIn.none _
  | true=>
   refine zk kr kr<|zh [0,1,2,3,4] kr kr<|rp [.v,.l 1,.v] H4 kr fun gs5 w5 H5=>wX [3,4] ?_;have H6:St w.heap.size w w5 [((gs1 0).b,kdO g p n c),((gs1 1).b,fdO m s p2 n2 c2),((gs1 2).b,itZ)]:=H5.as kr;refine zcP H6 (some 24) 72 74 3 48 (.tmp 23) (.tmp 23) .i64 .i64 n2 kr kr kr kr kr (by omega) (by unfold maxLen;omega) ?_;intro br C0 w6 H7 hC0;clear H4 H5 H6;have H8:St w.heap.size w w6 (((gs1 0).b,kdO g p n c)::(br,rwO C0)::((gs1 1).b,fdO m s p2 n2 c2)::((gs1 2).b,itZ)::[]):=H7.perm (List.Perm.swap _ _ _);clear H7;refine rp [.v] H8 kr fun gs6 w7 H9=>wX []<|zb<|zd kr<|rS [.v,.l 2,.v,.v] H9 kr fun gs7 w8 H10=>zw 1 kr ?_;have H11:St w.heap.size w w8 (((gs1 0).b,kdO g p n c)::(br,rwO C0)::((gs1 1).b,fdO m s p2 n2 c2)::((gs1 2).b,itZ)::[]):=H10.as kr;clear H8 H9 H10;refine yN kr (fun mz ρ ww=> ∃(i:Nat) (r:Fe) (v:Int) (C:Array Value) (M:List X3) (T:List (Nat×Obj)),n2-i=mz∧FrR fS w.heap.size w p2 i r∧i+r.len=n2∧r.sub kt∧0≤yc r g b i v∧(toFo M).app (yu r g b i)=yu l g b 0∧qy C n2 i M∧AllIn T M∧St w.heap.size w ww (((gs1 0).b,kdO g p n c)::(br,rwO C)::((gs1 1).b,fdO m s p2 n2 c2)::((gs1 2).b,itZ)::T)∧Is [(2,.pointer (some ⟨(gs1 0).b,0,none⟩)),(3,.pointer (some ⟨(gs1 1).b,0,none⟩)),(4,.pointer (some ⟨(gs1 2).b,0,none⟩)),(5,.slice (some ⟨br,0,none⟩) n2 n2),(26,.slice p2 n2 c2),(27,.int .i64 (n2:Int)),(28,.int .i64 (i:Int))] ρ) (n2-0) ⟨0,l,_,C0,[],[],rfl,hF.start,by omega,hs,hfit.2,rfl,qy.start hC0,(fun _ h=>nomatch h),H11,(Is.of ⟨kr,kr,kr,kr,kr,kr,kr,trivial⟩)⟩ ?_;clear H11;rintro _ _ w9 ⟨i,r,v,C,M,T,rfl,hR,hN,hsub,hlf,happ,hFill,hAll,H12,_,rfl⟩;by_cases hi:i<n2
   ·refine rS [.E (.bool (decide ((i:Int)<(n2:Int)))) (.bool true) (za (decide_eq_true (by omega)))] H12 kr fun gs8 w10 H13=>?_;clear H12;refine zd kr<|zk kr kr<|zq kr<|wW<|zd kr<|zw 2 kr ?_;obtain ⟨⟨m1,s1⟩,k1,r1,b1,off1,C1,T1,fz1,p1,n1,c1,hr1,hp1,hb1,hh1,hs1,hx1,hz1,hk1,hR1,hN1⟩:=FrR.open hR hN hi;obtain ⟨g',p',n',c',hK1,hK2,hg'⟩:=hK.kid g i;subst hr1;rw [xh,←hg'] at hlf;have hkid:0≤zB g' (zn g b i).2 (m1,s1) k1 v∧0≤yc r1 g b (i+1) (zB g' (zn g b i).2 (m1,s1) k1 v):=by
     by_cases hv:zB g' (zn g b i).2 (m1,s1) k1 v<0
     ·rw [if_pos hv] at hlf;omega
     ·rw [if_neg hv] at hlf;exact ⟨Int.not_lt.1 hv,hlf⟩
    refine zh [0,1,2,3,4,5] kr kr<|rp [.v,.o (ins:=[((.tmp 26),.slice p2 n2 c2),((.tmp 28),.int .i64 (i:Int))]) (v:=.pointer (some ⟨b1,off1+i*3,none⟩)) (fun ρ o w ho hi2=>yl (kd:=.i64) (t:=37) (e:=39) (K:=3) (bytes:=48) kr (x:=(.tmp 26)) (y:=(.tmp 28)) b1 off1 n2 c2 i hp1 ho hi2.1 hi2.2.1 (by omega) w),.fp (off:=off1+i*3) (n:=3) (W:=#[.int .u64 (m1:Int),.string s1,.slice p1 n1 c1]) hh1 hb1 hs1 hx1] H13 kr fun gs9 w11 H14=>wX [3,4,5] ?_;have H15:St w.heap.size w w11 (((gs1 0).b,kdO g p n c)::(br,rwO C)::((gs1 1).b,fdO m s p2 n2 c2)::((gs1 2).b,itZ)::T):=H14.as kr;refine ye H15 (some 7) 39 (.agg #[wZ,.string ⟨#[]⟩,.slice none 0 0]) kr kr kr ?_;intro bq w12 H16;refine rp [.v,.s 0] H16 kr fun gs10 w13 H17=>wX []<|zb ?_;have H18:St w.heap.size w w13 ((bq,fdO m1 s1 p1 n1 c1)::((gs1 0).b,kdO g p n c)::(br,rwO C)::((gs1 1).b,fdO m s p2 n2 c2)::((gs1 2).b,itZ)::T):=H17.as kr;clear H13 H14 H15 H16 H17;have hc:=hsub.1 g' p' n' c' (zn g b i).2 m1 s1 p1 n1 c1 v hz1.1 hkid.1;refine D2.g_draw0 [0,1,2,3,4,5,6,7,8] [(some 33,fun _=>.slice (some ⟨br,0,none⟩) n2 n2),(some 34,fun _=>.int .i64 (i:Int)),(some 35,fun _=>knd g p n c),(some 36,fun _=>.int .i64 (i:Int)),(some 37,fun _=>knd g' p' n' c'),(some 38,fun _=>fld m1 s1 p1 n1 c1),(some 39,fun y=>.agg y.cur),(some 40,fun _=>.pointer (some ⟨br,0+i*3,none⟩)),(none,fun _=>undef)]
     (yT w.heap.size w bq br C i (fun x T2=>x.l=zG g'∧x.s=zU g' (m1,s1)∧x.k=zM g' (zn g b i).2 k1∧SlIn T2 x.p x.n x.k) (gs1 0).b (kdO g p n c) (fdO m1 s1 p1 n1 c1) (((gs1 1).b,fdO m s p2 n2 c2)::((gs1 2).b,itZ)::T)) kr kr kr H18.drew ⟨?_,?_,?_,?_,?_,?_,?_,?_,?_,trivial⟩ ?_
    ·exact D2.gv_val (fun _ _ _ h=>h) (fun g w=>by kernel_rfl)
    ·exact D2.gv_val (fun _ _ _ h=>h) (fun g w=>by kernel_rfl)
    ·refine D2.gv_ld (fun _ _ _ h=>h) 51 (.tmp 2) (fun _=>(gs1 0).b) 0 #[.int .u8 ((g:Nat):Int),.slice p n c] 51 (0,0) (fun g=>by kernel_rfl) (fun g=>by kernel_rfl) (fun L g w hN hp=>?_) kr kr;obtain ⟨T',h⟩:=hp.st (hN.post 8 kr);exact h.get 1 kr
    ·exact D2.gv_val (fun _ _ _ h=>h) (fun g w=>by kernel_rfl)
    ·refine D2.gv_cpW (fun _ _ _ h=>h) 47 #[knd g p n c,.int .i64 (i:Int)] (za7 g p n c i g' p' n' c') (fun L g w hN hp=>?_) (fun L g w w' hN hp hb=>hp.call hb) (fun g w=>by kernel_rfl);obtain ⟨T',h⟩:=hp.st (hN.post 8 kr);exact hK1.up h.below h.below.size
    ·refine D2.gv_ld (fun _ _ _ h=>h) 39 (.tmp 7) (fun _=>bq) 0 #[.int .u64 (m1:Int),.string s1,.slice p1 n1 c1] 39 (0,0) (fun g=>by kernel_rfl) (fun g=>by kernel_rfl) (fun L g w hN hp=>?_) kr kr;obtain ⟨T',h⟩:=hp.st (hN.post 8 kr);exact h.get 0 kr
    ·refine D2.gv_ft 37 #[knd g' p' n' c',fld m1 s1 p1 n1 c1] hc (fun L g w hN hp=>?_) (fun L gg ww v' T2 w' hN hp hok hT=>?_) (fun g w=>by kernel_rfl)
     ·obtain ⟨T',h⟩:=hp.st (hN.post 8 kr);exact ⟨hK2.call h.below,hk1.call h.below⟩
     ·obtain ⟨q1,q2,q3,rfl,hsl⟩:=hok;refine ⟨{ cur:=#[.bool (zG g'),.string (zU g' (m1,s1)),.slice q1 q2 q3] },rfl,?_⟩;unfold yT at hp ⊢;rw [hN.post 8 kr,hN.1] at hp;rw [show D2.put1 L 6 8=false from hN.post 8 kr,show D2.put1 L 6 6=true from rfl];exact ⟨⟨zG g',zU g' (m1,s1),q1,q2,q3,zM g' (zn g b i).2 k1⟩,T2,⟨rfl,rfl,rfl,hsl⟩,rfl,(St.addAll hp hT).perm (List.perm_append_comm_assoc T2 [(bq,fdO m1 s1 p1 n1 c1),((gs1 0).b,kdO g p n c),(br,rwO C)] (((gs1 1).b,fdO m s p2 n2 c2)::((gs1 2).b,itZ)::T)).symm⟩
    ·exact D2.gv_op (fun _ _ _ h=>h) _ (fun g=>by kernel_rfl) (fun g o w ho=>yl (kd:=.i64) (t:=72) (e:=74) (K:=3) (bytes:=48) kr (x:=(.tmp 33)) (y:=(.tmp 34)) br 0 n2 n2 i rfl ho kr kr hi w)
    ·refine D2.gives_of fun L1 gg ww hp hN=>?_;have h6:=hN.bef 6 kr;unfold yT at hp;rw [hN.1,h6] at hp;obtain ⟨x,T2,hx,hcur,HS⟩:=hp;obtain ⟨o,ho,hd,hw,hop⟩:=zu (show opk _ 8 _=some (none,true,.store 74 (.tmp 40) (.tmp 39)) by kernel_rfl);refine ⟨o,ho,hd,.inr ⟨hw,?_⟩⟩;rw [jU (t:=74) (off:=0+i*3) (b:=br) (C:=C) (T:=74) (v:=.agg (xc x)) (C':=ku C i x) (HS.get 2 kr) kr kr (hFill.put x hi).1 rfl kr (by rw [←hcur];kernel_rfl) o hop];refine ⟨default,rfl,?_⟩;unfold yT;rw [show D2.put1 L1 8 8=true from rfl];exact ⟨x,T2,hx,HS.store 2 (C:=C) kr⟩
    ·intro L1 gg w14 hall hp;unfold yT at hp;rw [hall 8 (Nat.le_of_ble_eq_true kr)] at hp;obtain ⟨x,T2,⟨hx1,hx2,hx3,hx4⟩,HS⟩:=hp;have H19:St w.heap.size w w14 (((gs1 0).b,kdO g p n c)::(br,rwO (ku C i x))::((gs1 1).b,fdO m s p2 n2 c2)::((gs1 2).b,itZ)::(T2++T)):=(HS.sub (List.sublist_cons_self ..)).perm (List.Perm.cons _ (List.Perm.cons _ (List.perm_append_comm_assoc T2 [((gs1 1).b,fdO m s p2 n2 c2),((gs1 2).b,itZ)] T).symm));refine wW<|rL [.E (.int .i64 (IntKind.i64.wrap ((i:Int)+1))) (.int .i64 ((i+1:Nat):Int)) (zt (qk (a:=i) (b:=1) (by omega))),.v] H19 kr fun gs11 w15 H20=>?_;show ∃m,_∧_;refine ⟨_,(by omega),i+1,r1,_,ku C i x,M++ [x],T2++T,rfl,hR1,hN1,hsub.2,hkid.2,?_,(hFill.put x hi).2,?_,H20.as kr,(Is.of ⟨kr,kr,kr,kr,kr,kr,kr,trivial⟩)⟩
     ·rw [zbc,hx1,hx2,hx3,←happ,km,←hg']
     ·exact (hAll.mono fun e he=>List.mem_append_right _ he).snoc (hx4.mono fun e he=>List.mem_append_left _ he) (by rw [hx2];exact zbd hz1.2)
   ·obtain rfl:=FrR.done hN hi;obtain rfl:i=n2:=by simp only [Fr.len] at hN;omega
    refine rS [.E (.bool (decide ((i:Int)<(i:Int)))) (.bool false) (za (decide_eq_false (by omega)))] H12 kr fun gs8 w10 H13=>zd kr<|zm kr kr<|yt 1 kr<|wW ?_;have hM:toFo M=zM g b l:=by
     unfold zM;rw [if_pos hl,←happ];exact (Fo.app_nil _).symm
    have hrw:=hFill.done (by unfold maxLen;omega);refine zh [0,1,2] kr kr<|rp [.v] H13 kr fun gs9 w11 H14=>wX [1,2] ?_;have H15:St w.heap.size w w11 (((gs1 0).b,kdO g p n c)::(br,rwO C)::((gs1 1).b,fdO m s p2 i c2)::((gs1 2).b,itZ)::T):=H14.as kr;refine zaR H15 (some 43) 54 #[.slice (some ⟨br,0,none⟩) i i] (fun w=>i=List.length M∧yK w (some ⟨br,0,none⟩) M) 74 (fun v=>.agg #[.bool true,.string ⟨#[]⟩,v]) i M (zeA _ _ _ M (by omega)) (hrw.cellsAt (T:=74) (fz:=(0,0)) (H15.get 1 kr)) kr kr ?_ ?_
    ·intro w12 h0 H16;subst h0;refine rp [.s 3] H16 kr fun gs10 w13 H17=>wX []<|zb<|rRr [.cell 4 74] [3] (.agg #[.bool true,.string ⟨#[]⟩,.slice none 0 0]) (yZ w.heap.size w (xk g b (m,s) l)) H17 kr ?_;refine ⟨[],⟨none,0,0,?_,?_⟩,H17.sub (List.nil_sublist _)⟩
     ·unfold zU;rw [if_neg h110,if_pos hl,hl]
     ·rw [←hM,List.eq_nil_of_length_eq_zero hFill.len];exact SlIn.none _
    ·intro bl cap cur w12 H16 hr;refine rp [.s 4] H16 kr fun gs10 w13 H17=>wX []<|zb<|rRr [.cell 4 74] [4] (.agg #[.bool true,.string ⟨#[]⟩,.slice (some ⟨bl,0,none⟩) i cap]) (yZ w.heap.size w (xk g b (m,s) l)) H17 kr ?_;have H18:St w.heap.size w w13 ((bl,rwO cur)::((gs1 0).b,kdO g p n c)::(br,rwO C)::((gs1 1).b,fdO m s p2 i c2)::((gs1 2).b,zeB (.slice (some ⟨bl,0,none⟩) i cap))::T):=H17.as kr;refine ⟨(bl,rwO cur)::T,⟨some ⟨bl,0,none⟩,i,cap,?_,?_⟩,H18.sub (List.Sublist.cons_cons _ (List.Sublist.cons _ (List.Sublist.cons _ (List.Sublist.cons _ (List.sublist_cons_self ..)))))⟩
     ·unfold zU;rw [if_neg h110,if_pos hl,hl]
     ·rw [←hM];exact hr.slIn (ty:=74) (fz:=(0,0)) (List.mem_cons_self ..) (hAll.mono fun e he=>List.mem_cons_of_mem _ he) (by omega)
theorem zeD (l:Fe):kt l:=(Fr.induct zeC l).1
abbrev itm (l:Bool)(s:ByteArray)(p:Option Addr)(n c:Nat):Value:=.agg #[.bool l,.string s,.slice p n c]
abbrev ec (x:El (Nat×ByteArray)):Array Value:=#[.int .u64 ((x.a.1:Nat):Int),.string x.a.2,.slice x.p x.n x.c]
section
variable {B:Nat}{w0:World}{bq bf bk:Nat}{qO kO:Obj}{p:Option Addr}{i c:Nat}{row:List (Nat×Obj)}{M:List (El (Nat×ByteArray))}{ok:El (Nat×ByteArray)→List (Nat×Obj)→Prop}{T:List (Nat×Obj)}{L:Nat→Bool}{g:Nat→D2.Gh}{w w':World}
end
abbrev kR (C:Array Value):Obj:=.cells C 51 (0,0)
structure Sk where
 g:Nat
 p:Option Addr
 n:Nat
 c:Nat
 row:List (Nat×Obj)
 M:List (El Nat)
def Sk.el (e:Sk):El Nat:=⟨e.g,e.p,e.n,e.c,yg e.M⟩
def opE:List Sk→List (El Nat)
 | []=>[]
 | e::r=>opE r++ [e.el]
def zH:List Sk→List (Nat×Obj)
 | []=>[]
 | e::r=>e.row++zH r
def stM (S:List Sk):List (Nat×Kf):=S.map fun e=>(e.g,yg e.M)
def Bot:List Sk→Prop
 | []=>False
 | e::r=>(r=[]∧e.g=40)∨Bot r
structure qz (T:List (Nat×Obj))(m:Nat)(e:Sk):Prop where
 row:RowE kS 51 e.p e.n e.c e.row e.M
 all:AllE kS T e.M
 le:e.n≤m
theorem qz.mono {T T':List (Nat×Obj)}{m m':Nat}{e:Sk}(h:qz T m e)(hT: ∀x∈T,x∈T')(hm:m≤m'):qz T' m' e:=⟨h.row,h.all.mono hT,Nat.le_trans h.le hm⟩
theorem vO: ∀S:List Sk,(opE S).length=S.length
 | []=>rfl
 | e::r=>by simp only [opE,List.length_append,vO r,List.length_cons,List.length_nil]
theorem jz (e:Sk)(r:List Sk):zz kS (opE (e::r))=zz kS (opE r)++ [.int .u8 ((e.g:Nat):Int),.slice e.p e.n e.c]:=by
 show zz kS (opE r++ [e.el])=_;rw [xN];rfl
theorem kw (r:List Sk):(zz kS (opE r)).length=r.length*2:=by rw [qZ,vO];rfl
theorem Rw.pop {K:Nat}{cur:Array Value}{cap n:Nat}{X Z:List Value}(h:Rw K cur cap (n+1) (X++Z))(hX:X.length=n*K):Rw K cur cap n X:=by
 have ht:=h.take;refine ⟨hX,by have:=h.le;omega,h.max,?_,h.sz⟩;have e:(cur.toList.take ((n+1)*K)).take (n*K)=X:=by rw [ht,List.take_append,hX,Nat.sub_self,List.take_zero,List.append_nil,List.take_of_length_le (by omega)]
 rw [List.take_take,Nat.min_eq_left (by rw [Nat.succ_mul];omega)] at e;exact e
theorem Rw.top {cur:Array Value}{cap:Nat}{e:Sk}{r:List Sk}(h:Rw 2 cur cap (r.length+1) (zz kS (opE (e::r)))):
 0+r.length*2+2≤cur.size∧cur.extract (0+r.length*2) (0+r.length*2+2)=#[.int .u8 ((e.g:Nat):Int),.slice e.p e.n e.c]∧cur[0+r.length*2]? =some (.int .u8 ((e.g:Nat):Int))∧cur[0+r.length*2+1]? =some (.slice e.p e.n e.c):=by
 rw [jz] at h;have hl:=kw r;rw [Nat.zero_add];have h0:cur[r.length*2]? =some (.int .u8 ((e.g:Nat):Int)):=by
  rw [h.get _ (by omega),List.getElem?_append_right (by omega),hl,Nat.sub_self];rfl
 have h1:cur[r.length*2+1]? =some (.slice e.p e.n e.c):=by
  rw [h.get _ (by omega),List.getElem?_append_right (by omega),hl,Nat.add_sub_cancel_left];rfl
 have h2:=exE (C:=cur) (o:=r.length*2) (x:=[.int .u8 ((e.g:Nat):Int),.slice e.p e.n e.c]) (K:=2) rfl (fun j hj=>by
  rcases j with _|_|j
  ·exact h0
  ·exact h1
  ·omega) (by decide)
 exact ⟨h2.1,h2.2,h0,h1⟩
def zK:Array Value:=#[.int .u8 0,.slice none 0 0]
def yw (B:Nat)(w0:World)(bd b2 bo:Nat)(dO bO:Obj)(kv:Value)(cur:Array Value)(N:Nat)(en:Nat)(row:List (Nat×Obj))(xs:List Value)(T:List (Nat×Obj)):(Nat→Bool)→(Nat→D2.Gh)→World→Prop:=fun L g w=>
 bif L 8 then (L 9=true→(g 9).b=(g 8).b)∧Rw 2 (g 8).cur (g 8).cap (en+1) (xs++zK.toList)∧St B w0 w ((bd,dO)::(b2,bO)::(bo,kR (bif L 13 then putA cur (0+N*2+1) (.slice (some ⟨(g 8).b,0,none⟩) (en+1) (g 8).cap) else cur))::((g 8).b,kR (bif L 10 then putA (g 8).cur (0+en*2) kv else (g 8).cur))::T)
 else bif L 7 then St B w0 w (((g 7).b,kR zK)::(bd,dO)::(b2,bO)::(bo,kR cur)::(row++T))
 else St B w0 w ((bd,dO)::(b2,bO)::(bo,kR cur)::(row++T))
section
variable {B:Nat}{w0:World}{bd b2 bo:Nat}{dO bO:Obj}{kv:Value}{cur:Array Value}{N en:Nat}{row:List (Nat×Obj)}{xs:List Value}{T:List (Nat×Obj)}{L:Nat→Bool}{g:Nat→D2.Gh}{w:World}
theorem yw.st (h8:L 8=false)(h:yw B w0 bd b2 bo dO bO kv cur N en row xs T L g w):∃l,St B w0 w l∧(bd,dO)∈l∧(bo,kR cur)∈l:=by
 unfold yw at h;rw [h8] at h;cases h7:L 7 with
 | true=>rw [h7] at h;exact ⟨_,h,by simp,by simp⟩
 | false=>rw [h7] at h;exact ⟨_,h,by simp,by simp⟩
end
noncomputable abbrev zeE:Code:=zO (zA (zO (zO (zO (ym (zO (zl Tryd.f23)))))))
noncomputable abbrev zbe:Code:=ym (zA (zO (zO (ym (ym zeE)))))
def zbf (B:Nat)(w0:World)(form:ByteArray)(b2 bd i:Nat)(target:List (Nat×Kf))(mz:Nat)(ρ:Env)(ww:World):Prop:=
 ∃(S:List Sk) (N g:Nat) (p:Option Addr) (n c:Nat) (k:Kf) (T:List (Nat×Obj)) (bo cap:Nat) (cur:Array Value),S.length=mz∧N=S.length∧Bot S∧N≤5∧(∀e∈S,qz T i e)∧RIn kS T p n k∧qx g k (stM S)=target∧Rw 2 cur cap N (zz kS (opE S))∧
  St B w0 ww ((bd,kdO g p n c)::(b2,kdO 0 none 0 0)::(bo,kR cur)::(zH S++T))∧
  Is [(0,.string form),(2,.pointer (some ⟨b2,0,none⟩)),(3,.bool false),(4,.slice (some ⟨bo,0,none⟩) N cap),(6,.pointer (some ⟨bd,0,none⟩)),(16,.int .i64 (form.size:Int)),(17,.int .i64 (i:Int))] ρ
def zeF (B:Nat)(w0:World)(form:ByteArray)(b2 i:Nat)(target:List (Nat×Kf))(ρ:Env)(ww:World):Prop:=
 ∃(S:List Sk) (N:Nat) (T:List (Nat×Obj)) (bo cap:Nat) (cur:Array Value),N=S.length∧Bot S∧N≤5∧(∀e∈S,qz T i e)∧stM S=target∧Rw 2 cur cap N (zz kS (opE S))∧
  St B w0 ww ((b2,kdO 0 none 0 0)::(bo,kR cur)::(zH S++T))∧
  Is [(0,.string form),(2,.pointer (some ⟨b2,0,none⟩)),(3,.bool false),(4,.slice (some ⟨bo,0,none⟩) N cap),(16,.int .i64 (form.size:Int)),(17,.int .i64 (i:Int))] ρ
theorem zbg {Q:Exit→Env→World→Prop}{B:Nat}{w0:World}(form:ByteArray)(b2 bd i:Nat)(target:List (Nat×Kf))(hi:i≤40)(m0:Nat)(ρ0:Env)(ww0:World)(h0:zbf B w0 form b2 bd i target m0 ρ0 ww0)
 (hQ: ∀(S:List Sk) (N:Nat) (T:List (Nat×Obj)) (bo cap:Nat) (cur:Array Value) (ρ:Env) (ww:World),N=S.length→Bot S→N≤5→(∀e∈S,qz T (i+1) e)→stM S=target→Rw 2 cur cap N (zz kS (opE S))→
  St B w0 ww ((b2,kdO 0 none 0 0)::(bo,kR cur)::(zH S++T))→Is [(0,.string form),(2,.pointer (some ⟨b2,0,none⟩)),(3,.bool false),(4,.slice (some ⟨bo,0,none⟩) N cap),(16,.int .i64 (form.size:Int)),(17,.int .i64 (i:Int))] ρ→Q (.exit 1) ρ ww):
 WP Tryd.prog 101 (zO (zO (zO zbe))) Q ρ0 ww0:=by
 refine zw 3 kr<|yN kr (zbf B w0 form b2 bd i target) m0 h0 ?_;clear h0;rintro _ _ w1 ⟨S,N,g,p,n,c,k,T,bo,cap,cur,rfl,rfl,hBot,hN5,hS,hRI,hpush,hRw,H1,_,rfl⟩;rcases S with _ | ⟨e,r⟩
 ·exact hBot.elim
 have he:=hS e (List.mem_cons_self ..);refine zw 4 kr ?_;have hN5':r.length+1≤5:=hN5;refine rS [.v,.v,.E (.int .i64 (IntKind.i64.wrap (((r.length+1:Nat):Int)-1))) (.int .i64 (r.length:Int)) (zt (by rw [show (((r.length+1:Nat):Int)-1)=(r.length:Int) by omega];exact uN (by omega))),.v] H1 kr fun gs2 w2 H2=>?_;clear H1;refine zd kr ?_;have H3:St B w0 w2 ((bd,kdO g p n c)::(b2,kdO 0 none 0 0)::(bo,kR cur)::(e.row++(zH r++T))):=by
  rw [←List.append_assoc];exact H2
 have htop:=hRw.top;refine D2.g_draw0 [0,1,2,3,4,5,6,7,8,9,10,11,12,13] [(some 69,fun _=>.slice (some ⟨bo,0,none⟩) (r.length+1) cap),(some 70,fun _=>.int .i64 (r.length:Int)),(some 71,fun _=>.pointer (some ⟨bo,0+r.length*2,none⟩)),(some 72,fun _=>.pointer (some ⟨bo,0+r.length*2+1,none⟩)),(some 73,fun _=>.slice e.p e.n e.c),(some 74,fun _=>knd g p n c),(some 75,fun _=>.int .i64 ((e.n:Nat):Int)),(some 76,fun y=>.slice (some ⟨y.b,0,none⟩) 1 1),(some 77,fun y=>.slice (some ⟨y.b,0,none⟩) (e.n+1) y.cap),(some 78,fun y=>.pointer (some ⟨y.b,0+e.n*2,none⟩)),(none,fun _=>undef),(some 79,fun _=>.pointer (some ⟨bo,0+r.length*2,none⟩)),(some 80,fun _=>.pointer (some ⟨bo,0+r.length*2+1,none⟩)),(none,fun _=>undef)]
  (yw B w0 bd b2 bo (kdO g p n c) (kdO 0 none 0 0) (knd g p n c) cur r.length e.n e.row (zz kS e.M) (zH r++T)) kr kr kr H3.drew ⟨?_,?_,?_,?_,?_,?_,?_,?_,?_,?_,?_,?_,?_,?_,trivial⟩ ?_
 ·exact D2.gv_val (fun _ _ _ h=>h) (fun g w=>by kernel_rfl)
 ·exact D2.gv_val (fun _ _ _ h=>h) (fun g w=>by kernel_rfl)
 ·exact D2.gv_op (fun _ _ _ h=>h) _ (fun g=>by kernel_rfl) (fun g o w ho=>yl (kd:=.i64) (t:=49) (e:=51) (K:=2) (bytes:=32) kr (x:=(.tmp 69)) (y:=(.tmp 70)) bo 0 (r.length+1) cap r.length rfl ho kr kr (by omega) w)
 ·exact D2.gv_val (fun _ _ _ h=>h) (fun g w=>by kernel_rfl)
 ·refine D2.gv_opW (fun _ _ _ h=>h) (.load 49 (.tmp 72)) (fun g=>by kernel_rfl) (fun L g o w hN hp ho=>?_);obtain ⟨l,h,_,hm⟩:=hp.st (hN.post 8 kr);exact zcO (h.own _ hm).2 kr kr htop.2.2.2 o ho
 ·refine D2.gv_ld (fun _ _ _ h=>h) 51 (.tmp 6) (fun _=>bd) 0 #[.int .u8 ((g:Nat):Int),.slice p n c] 51 (0,0) (fun g=>by kernel_rfl) (fun g=>by kernel_rfl) (fun L g w hN hp=>?_) kr kr;obtain ⟨l,h,hm,_⟩:=hp.st (hN.post 8 kr);exact (h.own _ hm).2
 ·exact D2.gv_val (fun _ _ _ h=>h) (fun g w=>by kernel_rfl)
 ·refine D2.gives_of fun L1 gg ww hp hN=>?_;have h8:=hN.post 8 kr;unfold yw at hp;rw [h8,hN.1] at hp;obtain ⟨o,ho,hd,hw,hrun⟩:=zN (show opv _ _ 7 _ ww=some (some 76,true,.ok (.value (.slice (some ⟨ww.heap.size,0,none⟩) 1 1)) (ww.alloc (.cells zK 51))) by kernel_rfl);refine ⟨o,ho,hd,.inr ⟨hw,?_⟩⟩;refine (congrArg (D2.Runs _ _) hrun).mpr ?_;refine ⟨{ b:=ww.heap.size },rfl,?_⟩;unfold yw;rw [show D2.put1 L1 7 8=false from h8,show D2.put1 L1 7 7=true from rfl];exact St.alloc hp _
 ·refine D2.gives_of fun L1 gg ww hp hN=>?_;have h7:=hN.bef 7 kr;have h9:=hN.post 9 kr;have h10:=hN.post 10 kr;have h13:=hN.post 13 kr;unfold yw at hp;rw [hN.1,h7] at hp;obtain ⟨o,ho,hd,hw,hop⟩:=zu (show opk _ 8 _=some (some 77,true,yA 49 (.tmp 73) (.tmp 76)) by kernel_rfl);refine ⟨o,ho,hd,.inr ⟨hw,?_⟩⟩;have hen:=he.le;obtain ⟨eg,ep,en,ec,erow,eM⟩:=e;rcases he.row with ⟨rfl,rfl,rfl,rfl,rfl⟩ | ⟨br,curr,rfl,rfl,hrw⟩
  ·obtain ⟨b',cap',cur',w',hrun,HS',hr'⟩:=uW (K:=2) hp (t:=49) (e:=51) (bytes:=32) (k:=0) (bx:=(gg 7).b) (c:=1) (Y:=zK) kr hop kr kr rfl rfl (jc rfl) (by omega);rw [hrun];refine ⟨{ b:=b',cap:=cap',cur:=cur' },rfl,?_⟩;unfold yw;rw [show D2.put1 L1 8 8=true from rfl,show D2.put1 L1 8 10=false from h10,show D2.put1 L1 8 13=false from h13];refine ⟨fun hh=>absurd (h9.symm.trans hh) (by decide),hr',?_⟩;exact (HS'.sub (List.Sublist.cons_cons _ (List.sublist_cons_self ..))).perm (List.perm_middle (l₁:=[(bd,kdO g p n c),(b2,kdO 0 none 0 0),(bo,kR cur)]))
  ·obtain ⟨b',cap',cur',w',hrun,HS',hr'⟩:=vj (K:=2) hp (t:=49) (e:=51) (bytes:=32) (j:=4) (k:=0) (bx:=(gg 7).b) (c:=1) (Y:=zK) kr hop kr rfl hrw kr rfl rfl (jc rfl) (by omega) (by unfold maxLen;omega);rw [hrun];refine ⟨{ b:=b',cap:=cap',cur:=cur' },rfl,?_⟩;unfold yw;rw [show D2.put1 L1 8 8=true from rfl,show D2.put1 L1 8 10=false from h10,show D2.put1 L1 8 13=false from h13];exact ⟨fun hh=>absurd (h9.symm.trans hh) (by decide),hr',HS'.sub (List.sublist_cons_self ..)⟩
 ·refine D2.gives_of fun L1 gg ww hp hN=>?_;have h8:=hN.bef 8 kr;obtain ⟨o,ho,hd,hw,hop⟩:=zu (show opk _ 9 _=some (some 78,true,.indexAddr 49 (.tmp 77) (.tmp 75)) by kernel_rfl);refine ⟨o,ho,hd,.inr ⟨hw,?_⟩⟩;rw [yl (kd:=.i64) (t:=49) (e:=51) (K:=2) (bytes:=32) kr (x:=(.tmp 77)) (y:=(.tmp 75)) (gg 8).b 0 (e.n+1) (gg 8).cap e.n rfl hop kr kr (by omega) ww];refine ⟨{ b:=(gg 8).b },rfl,?_⟩;unfold yw at hp ⊢;rw [h8] at hp;rw [show D2.put1 L1 9 8=true from h8];exact ⟨fun _=>rfl,hp.2.1,hp.2.2⟩
 ·refine D2.gives_of fun L1 gg ww hp hN=>?_;have h8:=hN.bef 8 kr;have h9:=hN.bef 9 kr;unfold yw at hp;rw [h8,hN.1] at hp;obtain ⟨hg9,hr',HS⟩:=hp;have hg:=hg9 h9;have hle:=hr'.putA (0+e.n*2) (knd g p n c) (by show 0+e.n*2+2≤(e.n+1)*2;omega);obtain ⟨o,ho,hd,hw,hop⟩:=zu (show opk _ 10 _=some (none,true,.store 51 (.tmp 78) (.tmp 74)) by kernel_rfl);refine ⟨o,ho,hd,.inr ⟨hw,?_⟩⟩;rw [jU (t:=51) (off:=0+e.n*2) (b:=(gg 8).b) (C:=(gg 8).cur) (T:=51) (v:=knd g p n c) (C':=putA (gg 8).cur (0+e.n*2) (knd g p n c)) (HS.get 3 kr) kr kr hle.1 rfl (by rw [←hg];kernel_rfl) kr o hop];refine ⟨default,rfl,?_⟩;unfold yw;rw [show D2.put1 L1 10 8=true from h8,show D2.put1 L1 10 10=true from rfl];exact ⟨fun h=>hg9 h,hr',HS.store 3 (C:=(gg 8).cur) kr⟩
 ·exact D2.gv_op (fun _ _ _ h=>h) _ (fun g=>by kernel_rfl) (fun g o w ho=>yl (kd:=.i64) (t:=49) (e:=51) (K:=2) (bytes:=32) kr (x:=(.tmp 69)) (y:=(.tmp 70)) bo 0 (r.length+1) cap r.length rfl ho kr kr (by omega) w)
 ·exact D2.gv_val (fun _ _ _ h=>h) (fun g w=>by kernel_rfl)
 ·refine D2.gives_of fun L1 gg ww hp hN=>?_;have h8:=hN.bef 8 kr;unfold yw at hp;rw [h8,hN.1] at hp;obtain ⟨hg9,hr',HS⟩:=hp;have hle:=hRw.putA (0+r.length*2+1) (.slice (some ⟨(gg 8).b,0,none⟩) (e.n+1) (gg 8).cap) (by show 0+r.length*2+1+1≤(r.length+1)*2;omega);obtain ⟨o,ho,hd,hw,hop⟩:=zu (show opk _ 13 _=some (none,true,.store 49 (.tmp 80) (.tmp 77)) by kernel_rfl);refine ⟨o,ho,hd,.inr ⟨hw,?_⟩⟩;rw [jU (t:=49) (off:=0+r.length*2+1) (b:=bo) (C:=cur) (T:=51) (v:=.slice (some ⟨(gg 8).b,0,none⟩) (e.n+1) (gg 8).cap) (C':=putA cur (0+r.length*2+1) (.slice (some ⟨(gg 8).b,0,none⟩) (e.n+1) (gg 8).cap)) (HS.get 2 kr) kr kr hle.1 rfl kr kr o hop];refine ⟨default,rfl,?_⟩;unfold yw;rw [show D2.put1 L1 13 8=true from h8,show D2.put1 L1 13 13=true from rfl];exact ⟨fun h=>hg9 h,hr',HS.store 2 (C:=cur) kr⟩
 ·intro L1 gg w14 hall hp;unfold yw at hp;rw [hall 8 (Nat.le_of_ble_eq_true kr),hall 10 (Nat.le_of_ble_eq_true kr),hall 13 (Nat.le_of_ble_eq_true kr)] at hp;obtain ⟨_,hr',H4⟩:=hp;generalize hb':(gg 8).b=b';generalize hcap':(gg 8).cap=cap';generalize hcur':(gg 8).cur=cur';rw [hb',hcur',hcap'] at H4;rw [hcur',hcap'] at hr';have hn:=he.row.len (by decide);have hMl:(zz kS e.M).length=0+e.n*2:=by rw [qZ,hn,Nat.zero_add];rfl
  have hnew:Rw 2 (putA cur' (0+e.n*2) (knd g p n c)) cap' (e.n+1) (zz kS (e.M++ [⟨g,p,n,c,k⟩])):=by
   have h1:=(hr'.putA (0+e.n*2) (knd g p n c) (by show 0+e.n*2+2≤(e.n+1)*2;omega)).2;have h2:=vn (X:=zz kS e.M) (Z:=zK.toList) (V:=(knd g p n c).cells.toList) hMl rfl;rw [xN];exact h2▸h1
  obtain ⟨eg,ep,en,ec,erow,eM⟩:=e;have hop:Rw 2 (putA cur (0+r.length*2+1) (.slice (some ⟨b',0,none⟩) (en+1) cap')) cap (r.length+1) (zz kS (opE (⟨eg,some ⟨b',0,none⟩,en+1,cap',[(b',kR (putA cur' (0+en*2) (knd g p n c)))],eM++ [⟨g,p,n,c,k⟩]⟩::r))):=by
   have h1:=(hRw.putA (0+r.length*2+1) (.slice (some ⟨b',0,none⟩) (en+1) cap') (by show 0+r.length*2+1+1≤(r.length+1)*2;omega)).2;have hl:=kw r;have h2:=vn (X:=zz kS (opE r)++ [.int .u8 (eg:Int)]) (Z:=[.slice ep en ec]) (V:=(Value.slice (some ⟨b',0,none⟩) (en+1) cap').cells.toList) (off:=0+r.length*2+1) (by rw [List.length_append,hl];simp) rfl;rw [jz];rw [jz,show zz kS (opE r)++ [.int .u8 (eg:Int),.slice ep en ec]=(zz kS (opE r)++ [.int .u8 (eg:Int)])++ [.slice ep en ec] by simp] at h1;have h3:(zz kS (opE r)++ [.int .u8 (eg:Int)])++(Value.slice (some ⟨b',0,none⟩) (en+1) cap').cells.toList=zz kS (opE r)++ [.int .u8 (eg:Int),.slice (some ⟨b',0,none⟩) (en+1) cap']:=by
    rw [List.append_assoc];rfl
   exact h3▸(h2▸h1)
  have hok:qz T (i+1) ⟨eg,some ⟨b',0,none⟩,en+1,cap',[(b',kR (putA cur' (0+en*2) (knd g p n c)))],eM++ [⟨g,p,n,c,k⟩]⟩:=
   ⟨.inr ⟨_,_,rfl,rfl,hnew⟩,he.all.snoc hRI trivial,Nat.succ_le_succ he.le⟩
  have htop':=hop.top;have hpush':qx g k ((eg,yg eM)::stM r)=target:=hpush;unfold qx at hpush';rw [←zaV ⟨g,p,n,c,k⟩] at hpush';have hrc:=hop.le;have hBr:eg=42→Bot r:=fun h42=>by
   rcases hBot with ⟨_,h⟩|h
   ·exact absurd (h.symm.trans h42) (by decide)
   ·exact h
  have hin: ∀x∈T,x∈(b',kR (putA cur' (0+en*2) (knd g p n c)))::T:=fun x hx=>List.mem_cons_of_mem _ hx;refine wW<|zd kr ?_;by_cases h42:eg=42
  ·rw [if_pos h42] at hpush';refine rS [.v,.v,.o (ins:=[((.tmp 81),.slice (some ⟨bo,0,none⟩) (r.length+1) cap),((.tmp 82),.int .i64 (r.length:Int))]) (v:=.pointer (some ⟨bo,0+r.length*2,none⟩)) (fun ρ o w ho hi2=>yl (kd:=.i64) (t:=49) (e:=51) (K:=2) (bytes:=32) kr (x:=(.tmp 81)) (y:=(.tmp 82)) bo 0 (r.length+1) cap r.length rfl ho hi2.1 hi2.2.1 (by omega) w),.v,.ls 2 (C:=putA cur (0+r.length*2+1) (.slice (some ⟨b',0,none⟩) (en+1) cap')) (off:=0+r.length*2) (v:=.int .u8 (eg:Int)) htop'.2.2.1,.E (.bool (!((eg:Int)==42))) (.bool false) (za (by rw [h42];rfl))] H4 kr fun gs5 w15 H5=>zm kr kr<|zq kr<|wW<|dL [.v,.v,.o (ins:=[((.tmp 87),.slice (some ⟨bo,0,none⟩) (r.length+1) cap),((.tmp 88),.int .i64 (r.length:Int))]) (v:=.pointer (some ⟨bo,0+r.length*2,none⟩)) (fun ρ o w ho hi2=>yl (kd:=.i64) (t:=49) (e:=51) (K:=2) (bytes:=32) kr (x:=(.tmp 87)) (y:=(.tmp 88)) bo 0 (r.length+1) cap r.length rfl ho hi2.1 hi2.2.1 (by omega) w),.lp 2 (C:=putA cur (0+r.length*2+1) (.slice (some ⟨b',0,none⟩) (en+1) cap')) (off:=0+r.length*2) (n:=2) (W:=#[.int .u8 (eg:Int),.slice (some ⟨b',0,none⟩) (en+1) cap']) htop'.1 htop'.2.1,.v,.v,.o (ins:=[((.tmp 91),.slice (some ⟨bo,0,none⟩) (r.length+1) cap),((.tmp 92),.int .i64 (r.length:Int))]) (v:=.slice (some ⟨bo,0,none⟩) r.length cap) (fun ρ o w ho hi2=>uQ (kd:=.i64) (t:=49) (e:=51) (size:=2) (bytes:=32) kr (x:=(.tmp 91)) (y:=(.tmp 92)) bo (r.length+1) cap r.length ho hi2.1 hi2.2.1 (by omega) w),.s 0,.v] H5 kr fun w16 H6=>?_;have H7:St B w0 w16 ((bd,kdO eg (some ⟨b',0,none⟩) (en+1) cap')::(b2,kdO 0 none 0 0)::(bo,kR (putA cur (0+r.length*2+1) (.slice (some ⟨b',0,none⟩) (en+1) cap')))::([(b',kR (putA cur' (0+en*2) (knd g p n c)))]++(zH r++T))):=H6.as kr;show ∃m,_∧_;refine ⟨r.length,Nat.lt_succ_self _,r,r.length,eg,_,_,_,yg (eM++ [⟨g,p,n,c,k⟩]),(b',kR (putA cur' (0+en*2) (knd g p n c)))::T,bo,cap,_,rfl,rfl,hBr h42,by omega,fun x hx=>(hS x (List.mem_cons_of_mem _ hx)).mono hin (Nat.le_refl _),?_,hpush',Rw.pop (jz _ _▸hop) (kw r),H7.perm (List.Perm.cons _ (List.Perm.cons _ (List.Perm.cons _ (List.perm_append_comm_assoc (zH r) [(b',kR (putA cur' (0+en*2) (knd g p n c)))] T)))),(Is.of ⟨kr,kr,kr,kr,kr,kr,kr,trivial⟩)⟩;have:=hok.row.rIn (T:=T) (by decide) hok.all (by have:=hok.le;show en+1≤1000;simp only at this;omega);exact this
  ·rw [if_neg h42] at hpush';refine rS [.v,.v,.o (ins:=[((.tmp 81),.slice (some ⟨bo,0,none⟩) (r.length+1) cap),((.tmp 82),.int .i64 (r.length:Int))]) (v:=.pointer (some ⟨bo,0+r.length*2,none⟩)) (fun ρ o w ho hi2=>yl (kd:=.i64) (t:=49) (e:=51) (K:=2) (bytes:=32) kr (x:=(.tmp 81)) (y:=(.tmp 82)) bo 0 (r.length+1) cap r.length rfl ho hi2.1 hi2.2.1 (by omega) w),.v,.ls 2 (C:=putA cur (0+r.length*2+1) (.slice (some ⟨b',0,none⟩) (en+1) cap')) (off:=0+r.length*2) (v:=.int .u8 (eg:Int)) htop'.2.2.1,.E (.bool (!((eg:Int)==42))) (.bool true) (za (by rw [beq_eq_false_iff_ne.2 (by omega)];rfl))] H4 kr fun gs5 w15 H5=>zk kr kr<|yt 1 kr ?_;show Q (.exit 1) _ _;refine hQ (⟨eg,some ⟨b',0,none⟩,en+1,cap',[(b',kR (putA cur' (0+en*2) (knd g p n c)))],eM++ [(⟨g,p,n,c,k⟩:El Nat)]⟩::r) (r.length+1) T bo cap _ _ _ rfl ?_ hN5' ?_ hpush' hop ?_ (Is.of ⟨kr,kr,kr,kr,kr,kr,trivial⟩)
   ·rcases hBot with ⟨h1,h2⟩|h
    ·exact .inl ⟨h1,h2⟩
    ·exact .inr h
   ·intro x hx;rcases List.mem_cons.1 hx with rfl | hx
    ·exact hok
    ·exact (hS x (List.mem_cons_of_mem _ hx)).mono (fun _ h=>h) (Nat.le_succ _)
   ·have H7:St B w0 w15 ((bd,kdO g p n c)::(b2,kdO 0 none 0 0)::(bo,kR (putA cur (0+r.length*2+1) (.slice (some ⟨b',0,none⟩) (en+1) cap')))::([(b',kR (putA cur' (0+en*2) (knd g p n c)))]++(zH r++T))):=H5.as kr;exact H7.sub (List.sublist_cons_self ..)
abbrev zbh (form:ByteArray)(i:Nat)(b2 bo N cap:Nat):List (Nat×Value):=[(0,.string form),(2,.pointer (some ⟨b2,0,none⟩)),(3,.bool false),(4,.slice (some ⟨bo,0,none⟩) N cap),(16,.int .i64 (form.size:Int)),(17,.int .i64 (i:Int))]
theorem zeG {Q:Exit→Env→World→Prop}{B:Nat}{w0:World}(form:ByteArray)(b2 i:Nat)(hi40:i≤40)(hi:i<form.size)(hz:form.size≤40)(S:List Sk)(N:Nat)(T:List (Nat×Obj))(bo cap:Nat)(cur:Array Value)(hN:N=S.length)(hBot:Bot S)(hN5:N≤5)(hS: ∀e∈S,qz T i e)(hRw:Rw 2 cur cap N (zz kS (opE S)))
 (ρ0:Env) (ww0:World) (H0:St B w0 ww0 ((b2,kdO 0 none 0 0)::(bo,kR cur)::(zH S++T))) (hIs:Is (zbh form i b2 bo N cap) ρ0)
 (hbad:yM (by_ form i) (stM S)=none→ ∀(ρ:Env) (ww:World) (bd:Nat) (o:Obj) (l:List (Nat×Obj)),St B w0 ww ((bd,o)::(b2,kdO 0 none 0 0)::l)→ρ 3=.bool false→ρ 2=.pointer (some ⟨b2,0,none⟩)→Q .ret ρ ww)
 (hQ: ∀(S':List Sk) (N:Nat) (T:List (Nat×Obj)) (bo cap:Nat) (cur:Array Value) (ρ:Env) (ww:World),N=S'.length→Bot S'→N≤5→(∀e∈S',qz T (i+1) e)→yM (by_ form i) (stM S)=some (stM S')→Rw 2 cur cap N (zz kS (opE S'))→
  St B w0 ww ((b2,kdO 0 none 0 0)::(bo,kR cur)::(zH S'++T))→Is (zbh form i b2 bo N cap) ρ→Q (.exit 1) ρ ww):
 WP Tryd.prog 101 zbe Q ρ0 ww0:=by
 obtain ⟨_,rfl⟩:=hIs;rcases S with _|⟨e,r⟩
 ·exact hBot.elim
 obtain rfl:N=r.length+1:=hN;have he:=hS e (List.mem_cons_self ..);have htop:=hRw.top;obtain ⟨c,hc⟩:∃c,by_ form i=c:=⟨_,rfl⟩
 have hrc:=hRw.le;refine rS [.v,.v] H0 kr fun gs1 w1 H1=>zh [0,1,2,3,4,5] kr kr<|rp [.v,.v,.oe (ins:=[((.tmp 20),.string form),((.tmp 21),.int .i64 (i:Int))]) (v:=.int .u8 ((by_ form i:Nat):Int)) (v':=.int .u8 (c:Int)) (fun ρ o w ho hi2=>jR (t:=9) (kd:=.i64) kr (x:=(.tmp 20)) (y:=(.tmp 21)) form i ho hi2.1 hi2.2.1 hi w) (by rw [hc]),.v] H1 kr fun gs2 w2 H2=>wX [4,5] ?_;have H3:St B w0 w2 ((b2,kdO 0 none 0 0)::(bo,kR cur)::(zH (e::r)++T)):=H2.as kr;refine ye H3 (some 6) 51 (.agg #[.int .u8 0,.slice none 0 0]) kr kr kr ?_;intro bd w3 H4;refine rp [.s 0] H4 kr fun gs3 w4 H5=>wX []<|zb<|zd kr<|rS [.v,.v,.E (.int .i64 (IntKind.i64.wrap (((r.length+1:Nat):Int)-1))) (.int .i64 (r.length:Int)) (zt (by rw [show (((r.length+1:Nat):Int)-1)=(r.length:Int) by omega];exact uN (by omega))),.v] H5 kr fun gs4 w5 H6=>rS [.v,.l 0] H6 kr fun gs5 w6 H7=>zw 2 kr ?_;have H8:St B w0 w6 ((bd,kdO c none 0 0)::(b2,kdO 0 none 0 0)::(bo,kR cur)::(zH (e::r)++T)):=H7.as kr;clear H0 H1 H2 H3 H4 H5 H6 H7;refine qj [0,2,3,4,5,6,7,16,17,28] fun ρ1=>zd kr ?_;obtain ⟨lb,hlb⟩:∃lb,decide (c=110∨c=104∨c=97∨c=115∨c=98)=lb:=⟨_,rfl⟩
 refine xy (Q:=fun ex ρ ww=>ex=.normal∧St B w0 ww ((bd,kdO c none 0 0)::(b2,kdO 0 none 0 0)::(bo,kR cur)::(zH (e::r)++T))∧Is [(0,.string form),(2,.pointer (some ⟨b2,0,none⟩)),(3,.bool false),(4,.slice (some ⟨bo,0,none⟩) (r.length+1) cap),(6,.pointer (some ⟨bd,0,none⟩)),(7,.int .i64 (r.length:Int)),(16,.int .i64 (form.size:Int)),(17,.int .i64 (i:Int)),(28,.int .u8 (c:Int)),(30,.bool lb)] ρ) ?_ ?_
 ·by_cases h110:c=110
  ·refine rS [.E (.bool ((c:Int)==110)) (.bool true) (za (beq_iff_eq.2 (by omega))),.v] H8 kr fun gsa110 wa110 Ha110=>zk kr kr<|zq kr ?_;obtain rfl:lb=true:=by rw [←hlb];exact decide_eq_true (by omega)
   exact ⟨rfl,Ha110.as kr,(Is.of ⟨kr,kr,kr,kr,kr,kr,kr,kr,kr,kr,trivial⟩)⟩
  ·refine rS [.E (.bool ((c:Int)==110)) (.bool false) (za (beq_eq_false_iff_ne.2 (by omega))),.v] H8 kr fun gsb110 wb110 Hb110=>zm kr kr ?_;by_cases h104:c=104
   ·refine rS [.E (.bool ((c:Int)==104)) (.bool true) (za (beq_iff_eq.2 (by omega))),.v] Hb110 kr fun gsa104 wa104 Ha104=>zk kr kr<|zq kr ?_;obtain rfl:lb=true:=by rw [←hlb];exact decide_eq_true (by omega)
    exact ⟨rfl,Ha104.as kr,(Is.of ⟨kr,kr,kr,kr,kr,kr,kr,kr,kr,kr,trivial⟩)⟩
   ·refine rS [.E (.bool ((c:Int)==104)) (.bool false) (za (beq_eq_false_iff_ne.2 (by omega))),.v] Hb110 kr fun gsb104 wb104 Hb104=>zm kr kr ?_;by_cases h97:c=97
    ·refine rS [.E (.bool ((c:Int)==97)) (.bool true) (za (beq_iff_eq.2 (by omega))),.v] Hb104 kr fun gsa97 wa97 Ha97=>zk kr kr<|zq kr ?_;obtain rfl:lb=true:=by rw [←hlb];exact decide_eq_true (by omega)
     exact ⟨rfl,Ha97.as kr,(Is.of ⟨kr,kr,kr,kr,kr,kr,kr,kr,kr,kr,trivial⟩)⟩
    ·refine rS [.E (.bool ((c:Int)==97)) (.bool false) (za (beq_eq_false_iff_ne.2 (by omega))),.v] Hb104 kr fun gsb97 wb97 Hb97=>zm kr kr ?_;by_cases h115:c=115
     ·refine rS [.E (.bool ((c:Int)==115)) (.bool true) (za (beq_iff_eq.2 (by omega))),.v] Hb97 kr fun gsa115 wa115 Ha115=>zk kr kr<|zq kr ?_;obtain rfl:lb=true:=by rw [←hlb];exact decide_eq_true (by omega)
      exact ⟨rfl,Ha115.as kr,(Is.of ⟨kr,kr,kr,kr,kr,kr,kr,kr,kr,kr,trivial⟩)⟩
     ·refine rS [.E (.bool ((c:Int)==115)) (.bool false) (za (beq_eq_false_iff_ne.2 (by omega))),.v] Hb97 kr fun gsb115 wb115 Hb115=>zm kr kr ?_;by_cases h98:c=98
      ·refine rL [.E (.bool ((c:Int)==98)) (.bool true) (za (beq_iff_eq.2 (by omega))),.v] Hb115 kr fun gsa98 wa98 Ha98=>?_;obtain rfl:lb=true:=by rw [←hlb];exact decide_eq_true (by omega)
       exact ⟨rfl,Ha98.as kr,(Is.of ⟨kr,kr,kr,kr,kr,kr,kr,kr,kr,kr,trivial⟩)⟩
      ·refine rL [.E (.bool ((c:Int)==98)) (.bool false) (za (beq_eq_false_iff_ne.2 (by omega))),.v] Hb115 kr fun gsb98 wb98 Hb98=>?_;obtain rfl:lb=false:=by rw [←hlb];exact decide_eq_false (by omega)
       exact ⟨rfl,Hb98.as kr,(Is.of ⟨kr,kr,kr,kr,kr,kr,kr,kr,kr,kr,trivial⟩)⟩
 rintro _ _ w7 ⟨rfl,H9,_,rfl⟩;refine wW ?_;cases lb with
 | true=>
  have hst:yM (by_ form i) (stM (e::r))=some (qx c .nil (stM (e::r))):=by
   rw [hc];unfold yM;rw [if_pos (of_decide_eq_true hlb)]
  refine zk kr kr<|zq kr<|wW<|zbg form b2 bd i _ hi40 (r.length+1) _ _ ⟨e::r,r.length+1,c,none,0,0,.nil,T,bo,cap,cur,rfl,rfl,hBot,hN5,hS,RIn.none _ _,rfl,hRw,H9,(Is.of ⟨kr,kr,kr,kr,kr,kr,kr,trivial⟩)⟩ ?_;intro S' N' T' bo' cap' cur' ρ' ww' h1 h2 h3 h4 h5 h6 h7 h8;exact hQ S' N' T' bo' cap' cur' ρ' ww' h1 h2 h3 h4 (by rw [hst,h5]) h6 h7 h8
 | false=>
  have hnl:=of_decide_eq_false hlb;refine zm kr kr<|zd kr ?_;obtain ⟨gb,hgb⟩:∃gb,decide (c=40∨c=42)=gb:=⟨_,rfl⟩
  refine xy (Q:=fun ex ρ ww=>ex=.normal∧St B w0 ww ((bd,kdO c none 0 0)::(b2,kdO 0 none 0 0)::(bo,kR cur)::(zH (e::r)++T))∧Is [(0,.string form),(2,.pointer (some ⟨b2,0,none⟩)),(3,.bool false),(4,.slice (some ⟨bo,0,none⟩) (r.length+1) cap),(6,.pointer (some ⟨bd,0,none⟩)),(7,.int .i64 (r.length:Int)),(16,.int .i64 (form.size:Int)),(17,.int .i64 (i:Int)),(28,.int .u8 (c:Int)),(36,.bool gb)] ρ) ?_ ?_
  ·by_cases h40:c=40
   ·refine rS [.E (.bool ((c:Int)==40)) (.bool true) (za (beq_iff_eq.2 (by omega))),.v] H9 kr fun gsa40 wa40 Ha40=>zk kr kr<|zq kr ?_;obtain rfl:gb=true:=by rw [←hgb];exact decide_eq_true (by omega)
    exact ⟨rfl,Ha40.as kr,(Is.of ⟨kr,kr,kr,kr,kr,kr,kr,kr,kr,kr,trivial⟩)⟩
   ·refine rS [.E (.bool ((c:Int)==40)) (.bool false) (za (beq_eq_false_iff_ne.2 (by omega))),.v] H9 kr fun gsb40 wb40 Hb40=>zm kr kr ?_;by_cases h42:c=42
    ·refine rL [.E (.bool ((c:Int)==42)) (.bool true) (za (beq_iff_eq.2 (by omega))),.v] Hb40 kr fun gsa42 wa42 Ha42=>?_;obtain rfl:gb=true:=by rw [←hgb];exact decide_eq_true (by omega)
     exact ⟨rfl,Ha42.as kr,(Is.of ⟨kr,kr,kr,kr,kr,kr,kr,kr,kr,kr,trivial⟩)⟩
    ·refine rL [.E (.bool ((c:Int)==42)) (.bool false) (za (beq_eq_false_iff_ne.2 (by omega))),.v] Hb40 kr fun gsb42 wb42 Hb42=>?_;obtain rfl:gb=false:=by rw [←hgb];exact decide_eq_false (by omega)
     exact ⟨rfl,Hb42.as kr,(Is.of ⟨kr,kr,kr,kr,kr,kr,kr,kr,kr,kr,trivial⟩)⟩
  rintro _ _ w8 ⟨rfl,H10,_,rfl⟩;refine wW ?_;cases gb with
  | true=>
   have hyes:=of_decide_eq_true hgb;refine zk kr kr<|zd kr ?_;by_cases h4:r.length=4
   ·refine zd kr<|rL [.v,.E (.bool ((r.length:Int)==4)) (.bool true) (za (beq_iff_eq.2 (by omega)))] H10 kr fun gs6 w9 H11=>wW<|zk kr kr<|rS [.v,.s 1,.v] H11 kr fun gs7 w10 H12=>zo kr ?_;have H13:St B w0 w10 ((bd,kdO c none 0 0)::(b2,kdO 0 none 0 0)::(bo,kR cur)::(zH (e::r)++T)):=H12.as kr;refine hbad ?_ _ w10 bd _ _ H13 kr kr;rw [hc];unfold yM;rw [if_neg hnl,if_pos hyes,if_pos];show ((e::r).map _).length=5;rw [List.length_map,List.length_cons,h4]
   ·refine zd kr<|rL [.v,.E (.bool ((r.length:Int)==4)) (.bool false) (za (beq_eq_false_iff_ne.2 (by omega)))] H10 kr fun gs6 w9 H11=>wW<|zm kr kr<|zq kr<|wW<|zh [0,1,2,3,4] kr kr<|rp [.v,.l 0] H11 kr fun gs7 w10 H12=>wX [2,3,4] ?_;have H13:St B w0 w10 ((bd,kdO c none 0 0)::(b2,kdO 0 none 0 0)::(bo,kR cur)::(zH (e::r)++T)):=H12.as kr;refine zcv H13 (some 44) (fun b=>.slice (some ⟨b,0,none⟩) 1 1) #[.int .u8 (c:Int),.slice none 0 0] 51 (fun w=>by kernel_rfl) kr ?_;intro bn w11 H14;refine zcV (K':=2) H14 (some 45) 49 51 32 (.tmp 42) (.tmp 44) 3 0 bo bn (r.length+1) cap 1 cur #[.int .u8 (c:Int),.slice none 0 0] (zz kS (opE (e::r))) kr kr kr kr kr hRw kr kr rfl (jc rfl) (by omega) (by unfold maxLen;omega) ?_;intro b' cap' cur' w12 H15 hr';have H16:St B w0 w12 ((bn,kR #[.int .u8 (c:Int),.slice none 0 0])::(bd,kdO c none 0 0)::(b2,kdO 0 none 0 0)::(b',kR cur')::(zH (e::r)++T)):=H15;refine rp [.v] H16 kr fun gs8 w13 H17=>wX []<|zb<|yt 1 kr ?_;show Q (.exit 1) _ _;have H18:St B w0 w13 ((bn,kR #[.int .u8 (c:Int),.slice none 0 0])::(bd,kdO c none 0 0)::(b2,kdO 0 none 0 0)::(b',kR cur')::(zH (e::r)++T)):=H17.as kr;refine hQ (⟨c,none,0,0,[],[]⟩::e::r) (r.length+2) T b' cap' cur' _ _ rfl (.inr hBot) (by omega) ?_ ?_ ?_ (H18.sub (List.Sublist.cons _ (List.sublist_cons_self ..))) (Is.of ⟨kr,kr,kr,kr,kr,kr,trivial⟩)
    ·intro x hx;rcases List.mem_cons.1 hx with rfl | hx
     ·exact ⟨.inl ⟨rfl,rfl,rfl,rfl,rfl⟩,(fun _ h=>nomatch h),Nat.zero_le _⟩
     ·exact (hS x hx).mono (fun _ h=>h) (Nat.le_succ _)
    ·rw [hc];unfold yM;rw [if_neg hnl,if_pos hyes,if_neg]
     ·rfl
     ·show ¬((e::r).map _).length=5;rw [List.length_map,List.length_cons];omega
    ·rw [jz];exact hr'
  | false=>
   have hno:=of_decide_eq_false hgb;refine zm kr kr ?_;by_cases h41:c=41
   ·refine rS [.E (.bool ((c:Int)==41)) (.bool true) (za (beq_iff_eq.2 (by omega))),.v] H10 kr fun gs6 w9 H11=>zk kr kr<|zd kr<|zd kr ?_;by_cases hr0:r.length=0
    ·refine rL [.v,.E (.bool ((r.length:Int)==0)) (.bool true) (za (beq_iff_eq.2 (by omega))),.v,.n,.n,.n,.n,.n,.n,.v] H11 kr fun gs7 w10 H12=>wW<|zk kr kr<|rS [.v,.s 1,.v] H12 kr fun gs8 w11 H13=>zo kr ?_;have H14:St B w0 w11 ((bd,kdO c none 0 0)::(b2,kdO 0 none 0 0)::(bo,kR cur)::(zH (e::r)++T)):=H13.as kr;refine hbad ?_ _ w11 bd _ _ H14 kr kr;rw [hc];unfold yM;rw [if_neg hnl,if_neg hno,if_pos h41];show (if (r.map _).length=0∨e.g≠40 then none else some _)=none;rw [if_pos (.inl (by rw [List.length_map];exact hr0))]
    ·by_cases h40:e.g=40
     ·refine rL [.v,.E (.bool ((r.length:Int)==0)) (.bool false) (za (beq_eq_false_iff_ne.2 (by omega))),.v,.v,.v,.o (ins:=[((.tmp 51),.slice (some ⟨bo,0,none⟩) (r.length+1) cap),((.tmp 52),.int .i64 (r.length:Int))]) (v:=.pointer (some ⟨bo,0+r.length*2,none⟩)) (fun ρ o w ho hi2=>yl (kd:=.i64) (t:=49) (e:=51) (K:=2) (bytes:=32) kr (x:=(.tmp 51)) (y:=(.tmp 52)) bo 0 (r.length+1) cap r.length rfl ho hi2.1 hi2.2.1 (by omega) w),.v,.ls 2 (C:=cur) (off:=0+r.length*2) (v:=.int .u8 ((e.g:Nat):Int)) htop.2.2.1,.E (.bool (!(((e.g:Nat):Int)==40))) (.bool false) (za (by rw [h40];rfl)),.v] H11 kr fun gs7 w10 H12=>wW<|zm kr kr<|zq kr<|wW<|dL [.v,.v,.o (ins:=[((.tmp 59),.slice (some ⟨bo,0,none⟩) (r.length+1) cap),((.tmp 60),.int .i64 (r.length:Int))]) (v:=.pointer (some ⟨bo,0+r.length*2,none⟩)) (fun ρ o w ho hi2=>yl (kd:=.i64) (t:=49) (e:=51) (K:=2) (bytes:=32) kr (x:=(.tmp 59)) (y:=(.tmp 60)) bo 0 (r.length+1) cap r.length rfl ho hi2.1 hi2.2.1 (by omega) w),.lp 2 (C:=cur) (off:=0+r.length*2) (n:=2) (W:=#[.int .u8 ((e.g:Nat):Int),.slice e.p e.n e.c]) htop.1 htop.2.1,.v,.v,.o (ins:=[((.tmp 63),.slice (some ⟨bo,0,none⟩) (r.length+1) cap),((.tmp 64),.int .i64 (r.length:Int))]) (v:=.slice (some ⟨bo,0,none⟩) r.length cap) (fun ρ o w ho hi2=>uQ (kd:=.i64) (t:=49) (e:=51) (size:=2) (bytes:=32) kr (x:=(.tmp 63)) (y:=(.tmp 64)) bo (r.length+1) cap r.length ho hi2.1 hi2.2.1 (by omega) w),.s 0,.v] H12 kr fun w11 H13=>wW ?_;have H14:St B w0 w11 ((bd,kdO e.g e.p e.n e.c)::(b2,kdO 0 none 0 0)::(bo,kR cur)::(e.row++(zH r++T))):=by
       rw [←List.append_assoc];exact H13.as kr
      have hBr:Bot r:=by
       rcases hBot with ⟨h,_⟩|h
       ·rw [h] at hr0;exact absurd rfl hr0
       ·exact h
      have hst:yM (by_ form i) (stM (e::r))=some (qx e.g (yg e.M) (stM r)):=by
       rw [hc];unfold yM;rw [if_neg hnl,if_neg hno,if_pos h41];show (if (r.map _).length=0∨e.g≠40 then none else some (qx e.g (yg e.M) (stM r)))=_;rw [if_neg (by rw [List.length_map];exact fun h=>h.elim hr0 (fun h=>h h40))]
      refine zbg form b2 bd i _ hi40 r.length _ _ ⟨r,r.length,e.g,e.p,e.n,e.c,yg e.M,e.row++T,bo,cap,cur,rfl,rfl,hBr,by omega,fun x hx=>(hS x (List.mem_cons_of_mem _ hx)).mono (fun y hy=>List.mem_append_right _ hy) (Nat.le_refl _),he.row.rIn (by decide) he.all (by have:=he.le;show e.n≤1000;omega),rfl,Rw.pop (jz _ _▸hRw) (kw r),H14.perm (List.Perm.cons _ (List.Perm.cons _ (List.Perm.cons _ (List.perm_append_comm_assoc (zH r) e.row T)))),(Is.of ⟨kr,kr,kr,kr,kr,kr,kr,trivial⟩)⟩ ?_;intro S' N' T' bo' cap' cur' ρ' ww' h1 h2 h3 h4 h5 h6 h7 h8;exact hQ S' N' T' bo' cap' cur' ρ' ww' h1 h2 h3 h4 (by rw [hst,h5]) h6 h7 h8
     ·refine rL [.v,.E (.bool ((r.length:Int)==0)) (.bool false) (za (beq_eq_false_iff_ne.2 (by omega))),.v,.v,.v,.o (ins:=[((.tmp 51),.slice (some ⟨bo,0,none⟩) (r.length+1) cap),((.tmp 52),.int .i64 (r.length:Int))]) (v:=.pointer (some ⟨bo,0+r.length*2,none⟩)) (fun ρ o w ho hi2=>yl (kd:=.i64) (t:=49) (e:=51) (K:=2) (bytes:=32) kr (x:=(.tmp 51)) (y:=(.tmp 52)) bo 0 (r.length+1) cap r.length rfl ho hi2.1 hi2.2.1 (by omega) w),.v,.ls 2 (C:=cur) (off:=0+r.length*2) (v:=.int .u8 ((e.g:Nat):Int)) htop.2.2.1,.E (.bool (!(((e.g:Nat):Int)==40))) (.bool true) (za (by rw [beq_eq_false_iff_ne.2 (by omega)];rfl)),.v] H11 kr fun gs7 w10 H12=>wW<|zk kr kr<|rS [.v,.s 1,.v] H12 kr fun gs8 w11 H13=>zo kr ?_;have H14:St B w0 w11 ((bd,kdO c none 0 0)::(b2,kdO 0 none 0 0)::(bo,kR cur)::(zH (e::r)++T)):=H13.as kr;refine hbad ?_ _ w11 bd _ _ H14 kr kr;rw [hc];unfold yM;rw [if_neg hnl,if_neg hno,if_pos h41];show (if (r.map _).length=0∨e.g≠40 then none else some _)=none;rw [if_pos (.inr h40)]
   ·refine rS [.E (.bool ((c:Int)==41)) (.bool false) (za (beq_eq_false_iff_ne.2 (by omega))),.v] H10 kr fun gs6 w9 H11=>zm kr kr<|rS [.v,.s 1,.v] H11 kr fun gs7 w10 H12=>zo kr ?_;have H13:St B w0 w10 ((bd,kdO c none 0 0)::(b2,kdO 0 none 0 0)::(bo,kR cur)::(zH (e::r)++T)):=H12.as kr;refine hbad ?_ _ w10 bd _ _ H13 kr kr;rw [hc];unfold yM;rw [if_neg hnl,if_neg hno,if_neg h41]
theorem xf.inj {t:ByteArray}{l l':Bool}{s s':ByteArray}{k k':Fo}(ht:t.size≤4000)(h:xf t l s k ⟨#[]⟩)(h':xf t l' s' k' ⟨#[]⟩):l=l'∧s=s'∧k=k':=by
 obtain ⟨hm,hp,hi⟩:=h;obtain ⟨hm2,hp2,hi2⟩:=h';have hlen:=congrArg List.length hi;have hlen2:=congrArg List.length hi2;rw [zQ,List.length_append,ja hm (yJ hp)] at hlen;rw [zQ,List.length_append,ja hm2 (yJ hp2)] at hlen2;have h1:=zaQ hm (show sz1 l s (szF k)≤4000 by omega);have h2:=zaQ hm2 (show sz1 l' s' (szF k')≤4000 by omega);obtain ⟨a,b,c,_⟩:=zaO hm hm2 (yJ hp).symm (yJ hp2).symm (by omega) (by omega) (fun q=>vJ k k' hp hp2 (by rw [yJ hp];omega) q) (hi.symm.trans hi2);exact ⟨a,b,c⟩
theorem zbi {l:Bool}{s t:ByteArray}{k:Fo}(h:yb l s k.len k=(t,0)):xf t l s k ⟨#[]⟩:=by
 obtain ⟨he,hm,hp,_⟩:=zaP (show (yb l s k.len k).2=0 by rw [h]);refine ⟨hm,hp,?_⟩;have e:t=zf (wr1 l s (szF k) (wrF k)):=by rw [←he,h]
 rw [e,jq];exact (List.append_nil _).symm
def kx (form:ByteArray)(v:Value)(T:List (Nat×Obj)):Prop:=
 (∃(p:Option Addr) (n c:Nat) (k:Kf),parseM form=some k∧v=.tuple #[knd 40 p n c,.bool true]∧RIn kS T p n k)∨
 (parseM form=none∧∃(g:Nat) (p:Option Addr) (n c:Nat),v=.tuple #[knd g p n c,.bool false])
theorem zeH (s:ByteArray)(i:Nat)(h:i<s.size):(tl s).drop i=(tl s).getD i 0::(tl s).drop (i+1):=by
 have h1:i<(tl s).length:=h;rw [List.drop_eq_getElem_cons h1,List.getD_eq_getElem?_getD,List.getElem?_eq_getElem h1];rfl
theorem zeI: ∀ {S:List Sk},Bot S→1≤S.length
 | [],h=>h.elim
 | e::r,_=>by simp
theorem zeJ (form:ByteArray):FnT Tryd.prog 23 #[.string form] (fun _=>True) (kx form):=by
 refine FnT.intro (c:=zl Tryd.f23) [.cell 2 51,.tmp 3] 101 Tryd.func23 kr kr kr fun w _=>?_;have H0:=St.start w;refine rS [.a,.v] H0 kr fun gs1 w1 H1=>?_;clear H0;refine zcT kr<|zd kr ?_;by_cases h40:40<form.size
 ·refine rS [.v,.v,.E (.bool (decide ((40:Int)<(ByteArray.size form:Int)))) (.bool true) (za (decide_eq_true (by omega)))] H1 kr fun gs2 w2 H2=>zk kr kr<|rS [.v,.s 0,.v] H2 kr fun gs3 w3 H3=>rRr [.cell 2 51,.tmp 3] [0] (.tuple #[knd 0 none 0 0,.bool false]) (yZ w.heap.size w (kx form)) H3 kr ?_;exact ⟨[],.inr ⟨by unfold parseM;rw [if_pos h40],_,_,_,_,rfl⟩,H3.sub (List.nil_sublist _)⟩
 ·refine rS [.v,.v,.E (.bool (decide ((40:Int)<(ByteArray.size form:Int)))) (.bool false) (za (decide_eq_false (by omega)))] H1 kr fun gs2 w2 H2=>zm kr kr<|zq kr<|wW<|rS [.v,.nw (fun b=>.slice (some ⟨b,0,none⟩) 1 1) #[.int .u8 40,.slice none 0 0] 51,.v] H2 kr fun gs3 w3 H3=>zd kr<|zcU 0 kr<|wW<|zd kr<|rS [.v,.v,.v] H3 kr fun gs4 w4 H4=>zw 0 kr ?_;have H5:St w.heap.size w w4 (((gs1 0).b,kdO 0 none 0 0)::((gs3 1).b,kR #[.int .u8 40,.slice none 0 0])::(zH [⟨40,none,0,0,[],[]⟩]++ [])):=H4.as kr;have hpm:parseM form=match qQ (tl form) [(40,.nil)] with | some [(_,m)]=>some m | _=>none:=by unfold parseM;rw [if_neg h40]<;>rfl
  clear H1 H2 H3 H4;refine yN kr (fun mz ρ ww=> ∃(i:Nat) (st:List (Nat×Kf)),form.size-i=mz∧i≤form.size∧qQ ((tl form).drop i) st=qQ (tl form) [(40,.nil)]∧zeF w.heap.size w form (gs1 0).b i st ρ ww) (form.size-0)
   ⟨0,[(40,.nil)],rfl,Nat.zero_le _,rfl,[⟨40,none,0,0,[],[]⟩],1,[],(gs3 1).b,1,#[.int .u8 40,.slice none 0 0],rfl,.inl ⟨rfl,rfl⟩,by decide,(fun x hx=>by
    obtain rfl:=List.mem_singleton.1 hx
    exact ⟨.inl ⟨rfl,rfl,rfl,rfl,rfl⟩,(fun _ h=>nomatch h),Nat.zero_le _⟩),rfl,⟨rfl,Nat.le_refl _,by unfold maxLen;omega,rfl,rfl⟩,H5,(Is.of ⟨kr,kr,kr,kr,kr,kr,trivial⟩)⟩ ?_
  clear H5;rintro _ _ w5 ⟨i,_,rfl,hi,hst,S,N,T,bo,cap,cur,hN,hBot,hN5,hS,rfl,hRw,H6,_,rfl⟩;by_cases hlt:i<form.size
  ·refine rS [.E (.bool (decide ((i:Int)<(form.size:Int)))) (.bool true) (za (decide_eq_true (by omega)))] H6 kr fun gs5 w6 H7=>zd kr<|zk kr kr<|zq kr<|wW<|zd kr<|zw 1 kr ?_;have H8:St w.heap.size w w6 (((gs1 0).b,kdO 0 none 0 0)::(bo,kR cur)::(zH S++T)):=H7.as kr;have hstep: ∀x,yM (by_ form i) (stM S)=x→qQ (tl form) [(40,.nil)]=match x with | none=>none | some st'=>qQ ((tl form).drop (i+1)) st':=fun x hx=>by
    rw [←hst,zeH form i hlt,←hx];rfl
   refine zeG form (gs1 0).b i (by omega) hlt (by omega) S N T bo cap cur hN hBot hN5 hS hRw _ w6 H8 (Is.of ⟨kr,kr,kr,kr,kr,kr,trivial⟩) ?_ ?_
   ·intro hn ρ ww bd o l HS h3 h2;refine wV ?_;refine ⟨[.agg #[.int .u8 0,.slice none 0 0],.bool false],(.agg (b:=(gs1 0).b) #[.int .u8 0,.slice none 0 0] 51 (0,0) h2 (HS.get 1 kr) kr (.tmp (.bool false) h3 .nil)),[],.inr ⟨?_,0,none,0,0,rfl⟩,HS.sub (List.nil_sublist _)⟩;rw [hpm,hstep _ hn]
   ·intro S' N' T' bo' cap' cur' ρ ww h1 h2 h3 h4 h5 h6 h7 ⟨_,h8⟩;subst h8;refine wW<|rL [.E (.int .i64 (IntKind.i64.wrap ((i:Int)+1))) (.int .i64 ((i+1:Nat):Int)) (zt (qk (a:=i) (b:=1) (by omega))),.v] h7 kr fun gs6 w7 H9=>?_;show ∃m,_∧_;exact ⟨_,(by omega),i+1,stM S',rfl,hlt,(hstep _ h5).symm,S',N',T',bo',cap',cur',h1,h2,h3,h4,rfl,h6,H9.as kr,(Is.of ⟨kr,kr,kr,kr,kr,kr,trivial⟩)⟩
  ·obtain rfl:i=form.size:=by omega
   refine rS [.E (.bool (decide ((form.size:Int)<(form.size:Int)))) (.bool false) (za (decide_eq_false (by omega)))] H6 kr fun gs5 w6 H7=>zd kr<|zm kr kr<|yt 0 kr<|wW ?_;have hb1:=zeI hBot;have hend:qQ (tl form) [(40,.nil)]=some (stM S):=by
    rw [←hst,List.drop_of_length_le (by rw [zQ];exact Nat.le_refl _)];rfl
   rw [hend] at hpm;obtain ⟨x,hx⟩:∃x,(opE S)[0]? =some x:=⟨_,List.getElem?_eq_getElem (by rw [vO];omega)⟩
   have hat:=hRw.atE (S:=kS) hx;by_cases h1:N=1
   ·refine rS [.v,.o (ins:=[((.tmp 95),.slice (some ⟨bo,0,none⟩) N cap),((.const (.int .i64 0)),.int .i64 0)]) (v:=.pointer (some ⟨bo,0+0*2,none⟩)) (fun ρ o w ho hi2=>yl (kd:=.i64) (t:=49) (e:=51) (K:=2) (bytes:=32) kr (x:=(.tmp 95)) (y:=(.const (.int .i64 0))) bo 0 N cap 0 rfl ho hi2.1 hi2.2.1 (by omega) w),.lp 1 (C:=cur) (off:=0*2) (n:=2) (W:=#[.int .u8 ((x.a:Nat):Int),.slice x.p x.n x.c]) hat.1 hat.2,.v,.v,.E (.bool ((N:Int)==1)) (.bool true) (za (beq_iff_eq.2 (by omega))),.s 0,.v] H7 kr fun gs6 w7 H8=>rRr [.cell 2 51,.tmp 3] [0] (.tuple #[knd x.a x.p x.n x.c,.bool true]) (yZ w.heap.size w (kx form)) H8 kr ?_;have H9:St w.heap.size w w7 (((gs1 0).b,kdO x.a x.p x.n x.c)::(bo,kR cur)::(zH S++T)):=H8.as kr;rcases S with _ | ⟨e,_ | ⟨e',r⟩⟩
    ·exact hBot.elim
    ·obtain rfl:e.el=x:=by simpa [opE] using hx
     have he:=hS e (List.mem_cons_self ..);have hg:e.g=40:=by
      rcases hBot with ⟨_,h⟩|h
      ·exact h
      ·exact h.elim
     refine ⟨e.row++T,.inl ⟨e.p,e.n,e.c,yg e.M,?_,?_,he.row.rIn (by decide) he.all (by have:=he.le;show e.n≤1000;omega)⟩,?_⟩
     ·rw [hpm];rfl
     ·show Value.tuple #[knd e.g e.p e.n e.c,.bool true]=_;rw [hg]
     ·have H10:=H9.sub (List.Sublist.cons _ (List.sublist_cons_self ..));have e2:zH [e]++T=e.row++T:=by show (e.row++ [])++T=_;rw [List.append_nil]
      rw [e2] at H10;exact H10
    ·exact absurd (hN.symm.trans h1) (by simp)
   ·refine rS [.v,.o (ins:=[((.tmp 95),.slice (some ⟨bo,0,none⟩) N cap),((.const (.int .i64 0)),.int .i64 0)]) (v:=.pointer (some ⟨bo,0+0*2,none⟩)) (fun ρ o w ho hi2=>yl (kd:=.i64) (t:=49) (e:=51) (K:=2) (bytes:=32) kr (x:=(.tmp 95)) (y:=(.const (.int .i64 0))) bo 0 N cap 0 rfl ho hi2.1 hi2.2.1 (by omega) w),.lp 1 (C:=cur) (off:=0*2) (n:=2) (W:=#[.int .u8 ((x.a:Nat):Int),.slice x.p x.n x.c]) hat.1 hat.2,.v,.v,.E (.bool ((N:Int)==1)) (.bool false) (za (beq_eq_false_iff_ne.2 (by omega))),.s 0,.v] H7 kr fun gs6 w7 H8=>rRr [.cell 2 51,.tmp 3] [0] (.tuple #[knd x.a x.p x.n x.c,.bool false]) (yZ w.heap.size w (kx form)) H8 kr ?_;refine ⟨[],.inr ⟨?_,_,_,_,_,rfl⟩,H8.sub (List.nil_sublist _)⟩;rw [hpm];rcases S with _ | ⟨e,_ | ⟨e',r⟩⟩
    ·exact hBot.elim
    ·exact absurd hN h1
    ·rfl
def qA (x:ByteArray×Nat):Value:=.tuple #[.string x.1,.int .i64 ((x.2:Nat):Int)]
theorem zeK (g:Nat)(p:Option Addr)(n c:Nat)(b:Kf)(m:Nat)(s:ByteArray)(p2:Option Addr)(n2 c2:Nat)(l:Fe)(hm:m<0x10000000000000000)(hs:s.size≤0x800000000000):
 FnP Tryd.prog 24 #[knd g p n c,fld m s p2 n2 c2] (fun w=>SlR kS w.heap.size w p n b∧SlR fS w.heap.size w p2 n2 l) (qA (qo g b (m,s) l)):=by
 refine FnP.intro (c:=zl Tryd.f24) [.tmp 4,.tmp 5] 16 Tryd.func24 kr kr kr fun w hpre=>?_;have H0:=St.start w;obtain ⟨hK,hF⟩:=hpre;refine rS [.b,.b,.v,.v] H0 kr fun gs1 w1 H1=>?_;clear H0;refine zd kr ?_;unfold qo;by_cases hl:zB g b (m,s) l 1001<0
 ·rw [if_pos hl];refine rS [.l 0,.l 1,.cp (pre:=fun w=>SlR kS w.heap.size w p n b∧SlR fS w.heap.size w p2 n2 l) (zbb l g p n c b m s p2 n2 c2 1001) [] (fun w hb hd=>⟨hK.call hb,hF.call hb⟩),.E (.bool (decide (zB g b (m,s) l 1001<0))) (.bool true) (za (decide_eq_true hl))] H1 kr fun gs2 w2 H2=>zk kr kr<|rS [.v,.v] H2 kr fun gs3 w3 H3=>?_;exact rR [.tmp 4,.tmp 5] [] (qA (⟨#[]⟩,1)) H3 kr
 ·rw [if_neg hl];refine rS [.l 0,.l 1,.cp (pre:=fun w=>SlR kS w.heap.size w p n b∧SlR fS w.heap.size w p2 n2 l) (zbb l g p n c b m s p2 n2 c2 1001) [] (fun w hb hd=>⟨hK.call hb,hF.call hb⟩),.E (.bool (decide (zB g b (m,s) l 1001<0))) (.bool false) (za (decide_eq_false hl))] H1 kr fun gs2 w2 H2=>zm kr kr<|zq kr<|wW<|zh [0,1,2,3,4,5,6,7] kr kr<|rp [.l 0,.l 1] H2 kr fun gs3 w3 H3=>wX [2,3,4,5,6,7]<|jV H3 (some 12) 37 #[knd g p n c,fld m s p2 n2 c2] (zeD l g p n c b m s p2 n2 c2 1001 hm (Int.not_lt.1 hl)) ⟨hK.call H3.below,hF.call H3.below⟩ kr kr ?_;intro v T w4 hok H4;obtain ⟨q1,q2,q3,rfl,hsl⟩:=hok;refine qI H4 (some 13) 36 #[itm (zG g) (zU g (m,s)) q1 q2 q3] _ _ (zeh (zG g) (zU g (m,s)) q1 q2 q3 (zM g b l) (zbd hs)) (hsl.at H4 fun e he=>List.mem_append_left _ he) (fun w=>by kernel_rfl) kr ?_;intro w5 H5;rw [hsl.1];have H6:=H5.sub (List.nil_sublist _);refine rp [.v,.v,.v,.v] H6 kr fun gs4 w6 H7=>wX []<|zb ?_;exact rR [.tmp 4,.tmp 5] [] (qA (yb (zG g) (zU g (m,s)) (zM g b l).len (zM g b l))) H7 kr
def wrV (form:ByteArray)(l:Fe):ByteArray×Nat:=match parseM form with
 | none=>(⟨#[]⟩,1)
 | some k=>qo 40 k (0,⟨#[]⟩) l
theorem zeL (form:ByteArray)(p:Option Addr)(n c:Nat)(l:Fe):FnP Tryd.prog 15 #[.string form,.slice p n c] (fun w=>SlR fS w.heap.size w p n l) (qA (wrV form l)):=by
 refine FnP.intro (c:=zl Tryd.f15) [.tmp 4,.tmp 5] 21 Tryd.func15 kr kr kr fun w hF=>?_;have H0:=St.start w;refine rS [.v,.v] H0 kr fun gs1 w1 H1=>?_;clear H0;refine zh [0,1,2,3,4,5,6,7] kr kr<|rp [.v] H1 kr fun gs2 w2 H2=>wX [1,2,3,4,5,6,7]<|jV H2 (some 10) 23 #[.string form] (zeJ form) trivial kr kr ?_;intro v T w3 hok H3;unfold wrV;rcases hok with ⟨q1,q2,q3,k,hp,rfl,hk⟩ | ⟨hp,g',q1,q2,q3,rfl⟩
 ·rw [hp];refine rp [.v,.v,.v] H3 kr fun gs3 w4 H4=>wX [5,6,7] ?_;have H5:St w.heap.size w w4 (T++ []):=H4.as kr;refine ye H5 (some 6) 51 (.agg #[.int .u8 0,.slice none 0 0]) kr kr kr ?_;intro b6 w5 H6;refine rp [.s 0,.v] H6 kr fun gs4 w6 H7=>wX []<|zb<|zd kr<|rS [.v,.v] H7 kr fun gs5 w7 H8=>zm kr kr<|zq kr<|wW<|zh [0,1,2,3,4,5,6,7] kr kr<|rp [.l 0,.v,.v] H8 kr fun gs6 w8 H9=>wX [3,4,5,6,7] ?_;have H10:St w.heap.size w w8 ((b6,kdO 40 q1 q2 q3)::(T++ [])):=H9.as kr;refine qI H10 (some 18) 24 #[knd 40 q1 q2 q3,fld 0 ⟨#[]⟩ p n c] _ _ (zeK 40 q1 q2 q3 k 0 ⟨#[]⟩ p n c l (by decide) (by decide)) ⟨hk.at H10 fun e he=>List.mem_cons_of_mem _ (List.mem_append_left _ he),hF.call H10.below⟩ (fun w=>by kernel_rfl) kr ?_;intro w9 H11;have H12:=H11.sub (List.nil_sublist _);refine rp [.v,.v,.v,.v] H12 kr fun gs7 w10 H13=>wX []<|zb ?_;exact rR [.tmp 4,.tmp 5] [] (qA (qo 40 k (0,⟨#[]⟩) l)) H13 kr
 ·rw [hp];refine rp [.v,.v,.v] H3 kr fun gs3 w4 H4=>wX [5,6,7] ?_;have H5:St w.heap.size w w4 (T++ []):=H4.as kr;refine ye H5 (some 6) 51 (.agg #[.int .u8 0,.slice none 0 0]) kr kr kr ?_;intro b6 w5 H6;refine rp [.s 0,.v] H6 kr fun gs4 w6 H7=>wX []<|zb<|zd kr<|rS [.v,.v] H7 kr fun gs5 w7 H8=>zk kr kr ?_;have H9:=H8.sub (List.nil_sublist _);refine rS [.v,.v] H9 kr fun gs6 w8 H10=>?_;exact rR [.tmp 4,.tmp 5] [] (qA (⟨#[]⟩,1)) H10 kr
theorem zbj {k:Kf}{l:Fe}{s:ByteArray}(h:qo 40 k (0,⟨#[]⟩) l=(s,0)): ¬zB 40 k (0,⟨#[]⟩) l 1001<0∧yb true ⟨#[]⟩ (zM 40 k l).len (zM 40 k l)=(s,0):=by
 unfold qo at h;by_cases hl:zB 40 k (0,⟨#[]⟩) l 1001<0
 ·rw [if_pos hl] at h;exact absurd (congrArg Prod.snd h) Nat.one_ne_zero
 ·rw [if_neg hl] at h;exact ⟨hl,h⟩
theorem zeM {form:ByteArray}{ks:List ByteArray}(hK:za6 form ks)(l:Fe):wrV form l=if yv ks l=true∧l.cnt≤1000 then yb true emB (yu l 40 (kfL ks) 0).len (yu l 40 (kfL ks) 0) else (emB,1):=by
 unfold wrV;rw [hK.parse];show qo 40 (kfL ks) (0,⟨#[]⟩) l=_;unfold qo;by_cases h:yv ks l=true∧l.cnt≤1000
 ·rw [if_pos h,if_neg ((za5 hK.kd l).2 h)];rfl
 ·rw [if_neg h,if_pos];by_cases hn:zB 40 (kfL ks) (0,⟨#[]⟩) l 1001<0
  ·exact hn
  ·exact absurd ((za5 hK.kd l).1 hn) h
theorem qe {ks:List ByteArray}(x:Nat×ByteArray)(l r:Fe)(i:Nat)(hi:i<ks.length):yu (.cons x l r) 40 (kfL ks) i=.cons (zG (by_ ks[i] 0)) (zU (by_ ks[i] 0) x) (zM (by_ ks[i] 0) (kdB ks[i]) l) (yu r 40 (kfL ks) (i+1)):=by
 rw [km,zaZ,List.getElem?_eq_getElem hi]
abbrev fO (p:Option Addr)(n c:Nat):Obj:=.cells #[wZ,.string ⟨#[]⟩,.slice p n c] 39 (0,0)
theorem zeN {k:Kf}{l l':Fe}{s:ByteArray}(h:qo 40 k (0,⟨#[]⟩) l=(s,0))(h':qo 40 k (0,⟨#[]⟩) l'=(s,0))(ho:l.all fS.ok)(ho':l'.all fS.ok):l=l':=by
 obtain ⟨h1,h2⟩:=zbj h;obtain ⟨h1',h2'⟩:=zbj h';have hi:=zbi h2;have hz:s.size≤4000:=by
  have:=zaP (show (yb true ⟨#[]⟩ (zM 40 k l).len (zM 40 k l)).2=0 by rw [h2]);have h9:=congrArg ByteArray.size this.1;rw [h2,qm,this.2.2.2.2.2.2] at h9;simp only at h9;omega
 have e:=(xf.inj hz hi (zbi h2')).2.2;rw [←(zaU (by decide) ho h1).2.2,←(zaU (by decide) ho' h1').2.2,e]
theorem zbk {A B:Nat}(h:A<B):cm A B<0:=by unfold cm;split<;>(try split)<;>omega
theorem zbl {A B:Nat}(h: ¬A<B): ¬cm A B<0:=by unfold cm;split<;>(try split)<;>omega
end Go.Proofs.YtbpmjppmpgeejaaDoor
namespace Go.Proofs.YtbpmjppmpgeejaaDoor
set_option linter.unusedVariables false
section
variable {p H Q:Nat}
end
open Go Go.RowKit Go.Proofs.Zm
end Go.Proofs.YtbpmjppmpgeejaaDoor
namespace Go.Proofs.YtbpmjppmpgeejaaDoor
open Go Go.RowKit
set_option linter.unusedVariables false
end Go.Proofs.YtbpmjppmpgeejaaDoor
namespace Go.Proofs.YtbpmjppmpgeejaaDoor
open Go.ChangeShapes Go.WideShapes Go.ChangeAt Go.RowKit
set_option linter.unusedVariables false
def bn (A:Nat):List Int:=[w3 A / 72057594037927936%256,w3 A / 281474976710656%256,w3 A / 1099511627776%256,w3 A / 4294967296%256,w3 A / 16777216%256,w3 A / 65536%256,w3 A / 256%256,w3 A%256,w2 A / 72057594037927936%256,w2 A / 281474976710656%256,w2 A / 1099511627776%256,w2 A / 4294967296%256,w2 A / 16777216%256,w2 A / 65536%256,w2 A / 256%256,w2 A%256,w1 A / 72057594037927936%256,w1 A / 281474976710656%256,w1 A / 1099511627776%256,w1 A / 4294967296%256,w1 A / 16777216%256,w1 A / 65536%256,w1 A / 256%256,w1 A%256,w0 A / 72057594037927936%256,w0 A / 281474976710656%256,w0 A / 1099511627776%256,w0 A / 4294967296%256,w0 A / 16777216%256,w0 A / 65536%256,w0 A / 256%256,w0 A%256]
def bs (A:Nat):ByteArray:=strOfNums (bn A)
theorem zeO (w:World)(O:Obj)(xs:List Int)(n:Nat)(hn:xs.length=n)(C:Array Value)(hC:C=(xs.map (Value.int .u8)).toArray):
 (convert 56 9 (.slice (some ⟨w.heap.size+1,0,none⟩) n n)).run Tryd.prog ((w.alloc O).alloc (.cells C 84))=.ok (.string (strOfNums xs)) ((w.alloc O).alloc (.cells C 84)):=by
 subst hC;refine run_convert_bytes_arg _ 56 5 Tryd.underlying56 Tryd.underlying5 _ 0 n n xs hn ?_ 9 Tryd.underlying9;intro i hi;have h:=heap_alloc2_new w O (.cells (xs.map (Value.int .u8)).toArray 84);rw [cell_of_row _ _ _ _ _ _ h];have hi':i<xs.length:=by omega
 simp [hi']
theorem zeP (A:Nat)(hA:A<big)(w:World):Calls Tryd.prog 39 #[uv A] w fun e w'=>e=.returned (.string (bs A))∧Below w.heap.size w w':=by
 have hc:=fun (O:Obj)=>zeO w O (bn A) 32 rfl _ rfl;simp only [bn,List.map_cons,List.map_nil] at hc;unfold uv
 go_enter Tryd.func39,Tryd.ntmps39
 go_wp2
 go_rounds 33
 go_ret
 exact ⟨rfl,by go_grown⟩
theorem qf (A:Nat):(bs A).size=32:=rfl
end Go.Proofs.YtbpmjppmpgeejaaDoor
namespace Go.Proofs.YtbpmjppmpgeejaaDoor
open Go Go.RowKit
set_option linter.unusedVariables false
def inN (a:Nat):Bool:= !decide (a=0)&&decide (a<NR)
def jA (a:Nat):Bool:=decide (a<yk 0 a NR)
theorem zeQ {a:Nat}(h: ¬a=0):inN a=decide (a<NR):=by unfold inN;rw [decide_eq_false h];rfl
def yD (r s:Nat)(v:Int):Bool:=inN r&&jA s&&(decide (v=0)||decide (v=1))
def sgv (r s:Nat)(v:Int):Value:=.agg #[.int .u64 (w0 r),.int .u64 (w1 r),.int .u64 (w2 r),.int .u64 (w3 r),.int .u64 (w0 s),.int .u64 (w1 s),.int .u64 (w2 s),.int .u64 (w3 s),.int .i64 v]
def sbs (r s:Nat)(v:Int):ByteArray:=(bs r++bs s)++strOfNums [IntKind.u8.wrap v]
theorem vP (a b:ByteArray):(a++b).size=a.size+b.size:=ByteArray.size_append
theorem zeR (a:Nat)(ha:a<big)(h:a=0):Fn Tryd.prog 55 #[uv a] (.bool false):=by
 refine Fn.intro (c:=zl Tryd.f55) [.tmp 2] 18 Tryd.func55 kr kr kr fun w=>?_;have H0:=St.start w;refine rS [.b,.v] H0 kr fun gs1 w1 H1=>?_;clear H0;refine rS [.c xV,.v,.v,.v,.a,.s 1,.v] H1 kr fun gs2 w2 H2=>?_;clear H1;refine rS [.l 0,.v,.oe (ins:=[((.tmp 9),uv a),((.tmp 10),.agg #[wZ,wZ,wZ,wZ])]) (v:=.bool (!decide (a=0))) (v':=.bool false) (fun ρ o w ho hi=>jY (x:=(.tmp 9)) (y:=(.tmp 10)) a 0 ha (by unfold big;omega) w ho hi.1 hi.2.1) (by rw [decide_eq_true h]<;>rfl),.v,.n,.n,.n,.n,.v,.v] H2 kr fun gs3 w3 H3=>?_;clear H2;refine zo kr<|wV ?_;refine ⟨[.bool false],(.tmp (.bool false) kr .nil),?_,H3.below⟩;rfl
theorem zeS (a:Nat)(ha:a<big)(h: ¬a=0)(h2: ¬a<NR):Fn Tryd.prog 55 #[uv a] (.bool false):=by
 refine Fn.intro (c:=zl Tryd.f55) [.tmp 2] 18 Tryd.func55 kr kr kr fun w=>?_;have H0:=St.start w;refine rS [.b,.v] H0 kr fun gs1 w1 H1=>?_;clear H0;refine rS [.c xV,.v,.v,.v,.a,.s 1,.v] H1 kr fun gs2 w2 H2=>?_;clear H1;refine rS [.l 0,.v,.oe (ins:=[((.tmp 9),uv a),((.tmp 10),.agg #[wZ,wZ,wZ,wZ])]) (v:=.bool (!decide (a=0))) (v':=.bool true) (fun ρ o w ho hi=>jY (x:=(.tmp 9)) (y:=(.tmp 10)) a 0 ha (by unfold big;omega) w ho hi.1 hi.2.1) (by rw [decide_eq_false h]<;>rfl),.v,.l 0,.l 1,.c (jX a NR ha qb.1),.E (.bool (decide (cm a NR<0))) (.bool false) (za (decide_eq_false (zbl h2))),.v,.v] H2 kr fun gs3 w3 H3=>?_;clear H2;refine zo kr<|wV ?_;refine ⟨[.bool false],(.tmp (.bool false) kr .nil),?_,H3.below⟩;rfl
theorem zeT (a:Nat)(ha:a<big)(h: ¬a=0)(h2:a<NR):Fn Tryd.prog 55 #[uv a] (.bool true):=by
 refine Fn.intro (c:=zl Tryd.f55) [.tmp 2] 18 Tryd.func55 kr kr kr fun w=>?_;have H0:=St.start w;refine rS [.b,.v] H0 kr fun gs1 w1 H1=>?_;clear H0;refine rS [.c xV,.v,.v,.v,.a,.s 1,.v] H1 kr fun gs2 w2 H2=>?_;clear H1;refine rS [.l 0,.v,.oe (ins:=[((.tmp 9),uv a),((.tmp 10),.agg #[wZ,wZ,wZ,wZ])]) (v:=.bool (!decide (a=0))) (v':=.bool true) (fun ρ o w ho hi=>jY (x:=(.tmp 9)) (y:=(.tmp 10)) a 0 ha (by unfold big;omega) w ho hi.1 hi.2.1) (by rw [decide_eq_false h]<;>rfl),.v,.l 0,.l 1,.c (jX a NR ha qb.1),.E (.bool (decide (cm a NR<0))) (.bool true) (za (decide_eq_true (zbk h2))),.v,.v] H2 kr fun gs3 w3 H3=>?_;clear H2;refine zo kr<|wV ?_;refine ⟨[.bool true],(.tmp (.bool true) kr .nil),?_,H3.below⟩;rfl
theorem zeU (a:Nat)(ha:a<big):Fn Tryd.prog 55 #[uv a] (.bool (inN a)):=by
 by_cases h:a=0
 ·have:=zeR a ha h;subst h;exact this
 ·rw [zeQ h];by_cases h2:a<NR
  ·rw [decide_eq_true h2];exact zeT a ha h h2
  ·rw [decide_eq_false h2];exact zeS a ha h h2
theorem zbm (a:Nat)(ha:a<big):Fn Tryd.prog 71 #[uv a] (uv (yk 0 a NR)):=by
 refine Fn.intro (c:=zl Tryd.f71) [.cell 2 45] 12 Tryd.func71 kr kr kr fun w=>?_;have H0:=St.start w;refine rS [.b,.a] H0 kr fun gs1 w1 H1=>?_;clear H0;refine rS [.v,.l 0,.c (zds 0 a (by unfold big;omega) ha),.v,.v,.v,.a,.s 2,.v] H1 kr fun gs2 w2 H2=>?_;clear H1;refine rS [.l 2,.s 1] H2 kr fun gs3 w3 H3=>?_;clear H2;refine zo kr<|wV ?_;refine ⟨[uv (yk 0 a NR)],(.agg (b:=(gs1 1).b) (Value.cells (uv (yk 0 a NR))) 45 (0,0) kr (H3.get 1 kr) kr .nil),?_,H3.below⟩;rfl
theorem zeV (a:Nat)(ha:a<big)(h:a<yk 0 a NR):Fn Tryd.prog 56 #[uv a] (.bool true):=by
 refine Fn.intro (c:=zl Tryd.f56) [.tmp 2] 8 Tryd.func56 kr kr kr fun w=>?_;have H0:=St.start w;refine rS [.b,.v] H0 kr fun gs1 w1 H1=>?_;clear H0;refine dS [.l 0,.l 0,.c (zbm a ha),.c (jX a (yk 0 a NR) ha (zah qb)),.E (.bool (decide (cm a (yk 0 a NR)<0))) (.bool true) (za (decide_eq_true (zbk h))),.v] H1 kr fun w2 H2=>?_;clear H1;refine zo kr<|wV ?_;refine ⟨[.bool true],(.tmp (.bool true) kr .nil),?_,H2.below⟩;rfl
theorem zeW (a:Nat)(ha:a<big)(h: ¬a<yk 0 a NR):Fn Tryd.prog 56 #[uv a] (.bool false):=by
 refine Fn.intro (c:=zl Tryd.f56) [.tmp 2] 8 Tryd.func56 kr kr kr fun w=>?_;have H0:=St.start w;refine rS [.b,.v] H0 kr fun gs1 w1 H1=>?_;clear H0;refine dS [.l 0,.l 0,.c (zbm a ha),.c (jX a (yk 0 a NR) ha (zah qb)),.E (.bool (decide (cm a (yk 0 a NR)<0))) (.bool false) (za (decide_eq_false (zbl h))),.v] H1 kr fun w2 H2=>?_;clear H1;refine zo kr<|wV ?_;refine ⟨[.bool false],(.tmp (.bool false) kr .nil),?_,H2.below⟩;rfl
theorem zeX (a:Nat)(ha:a<big):Fn Tryd.prog 56 #[uv a] (.bool (jA a)):=by
 unfold jA;by_cases h:a<yk 0 a NR
 ·rw [decide_eq_true h];exact zeV a ha h
 ·rw [decide_eq_false h];exact zeW a ha h
theorem zbn (r s:Nat)(hr:r<big)(hs:s<big)(v:Int):Fn Tryd.prog 38 #[sgv r s (v)] (.bool (yD r s v)):=by
 refine Fn.intro (c:=zl Tryd.f38) [.tmp 2] 21 Tryd.func38 kr kr kr fun w=>?_;have H0:=St.start w;refine rS [.b,.v] H0 kr fun gs1 w1 H1=>?_;clear H0;refine zh [0,1,2,3,4,5,6,7,8,9,10,11,12,13,14,15,16,17,18] kr kr<|rp [.v,.l 0,.c (zeU r hr)] H1 kr fun gs2 w2 H2=>wX [3,4,5,6,7,8,9,10,11,12,13,14,15,16,17,18] ?_;clear H1;refine Or.elim (Bool.eq_false_or_eq_true (inN r)).symm (fun hb1=>?_) (fun hb1=>?_)
 ·refine yH 5 (v:=.bool (inN r)) (v':=.bool false) (za hb1) kr<|rp [.v,.n,.n,.n,.v,.v,.n,.n,.n,.n] H2 kr fun gs3 w3 H3=>wX [13,14,15,16,17,18] ?_;clear H2;refine jk (some 16) kr kr<|jk (some 17) kr kr<|jk (some 18) kr kr<|rp [.n,.v,.v] H3 kr fun gs4 w4 H4=>wX [] ?_;clear H3;refine zb<|zo kr<|wV ?_;refine ⟨[.bool false],(.tmp (.bool false) kr .nil),?_,H4.below⟩;exact congrArg Value.bool (by unfold yD;simp [hb1]<;>omega)
 ·refine yH 5 (v:=.bool (inN r)) (v':=.bool true) (za hb1) kr<|rp [.v,.v,.l 0,.c (zeX s hs)] H2 kr fun gs5 w5 H5=>wX [7,8,9,10,11,12,13,14,15,16,17,18] ?_;clear H2;refine Or.elim (Bool.eq_false_or_eq_true (jA s)).symm (fun hb2=>?_) (fun hb2=>?_)
  ·refine yH 9 (v:=.bool (jA s)) (v':=.bool false) (za hb2) kr<|rp [.v,.v,.n,.n,.n,.n] H5 kr fun gs6 w6 H6=>wX [13,14,15,16,17,18] ?_;clear H5;refine jk (some 16) kr kr<|jk (some 17) kr kr<|jk (some 18) kr kr<|rp [.n,.v,.v] H6 kr fun gs7 w7 H7=>wX [] ?_;clear H6;refine zb<|zo kr<|wV ?_;refine ⟨[.bool false],(.tmp (.bool false) kr .nil),?_,H7.below⟩;exact congrArg Value.bool (by unfold yD;simp [hb1,hb2]<;>omega)
  ·refine yH 9 (v:=.bool (jA s)) (v':=.bool true) (za hb2) kr<|rp [.v,.v,.v,.l 0] H5 kr fun gs8 w8 H8=>wX [11,12,13,14,15,16,17,18] ?_;clear H5;by_cases hc1:(v:Int)=0
   ·refine rp [.E (.bool (v==0)) (.bool true) (za (beq_iff_eq.2 (by omega))),.v,.n,.n,.n,.v,.v,.v] H8 kr fun gs9 w9 H9=>wX [] ?_;clear H8;refine zb<|zo kr<|wV ?_;refine ⟨[.bool true],(.tmp (.bool true) kr .nil),?_,H9.below⟩;exact congrArg Value.bool (by unfold yD;simp [hb1,hb2]<;>omega)
   ·refine rp [.E (.bool (v==0)) (.bool false) (za (beq_eq_false_iff_ne.2 (by omega))),.v,.v,.l 0] H8 kr fun gs10 w10 H10=>wX [15,16,17,18] ?_;clear H8;by_cases hc2:(v:Int)=1
    ·refine rp [.E (.bool (v==1)) (.bool true) (za (beq_iff_eq.2 (by omega))),.v,.v,.v] H10 kr fun gs11 w11 H11=>wX [] ?_;clear H10;refine zb<|zo kr<|wV ?_;refine ⟨[.bool true],(.tmp (.bool true) kr .nil),?_,H11.below⟩;exact congrArg Value.bool (by unfold yD;simp [hb1,hb2]<;>omega)
    ·refine rp [.E (.bool (v==1)) (.bool false) (za (beq_eq_false_iff_ne.2 (by omega))),.v,.v,.v] H10 kr fun gs12 w12 H12=>wX [] ?_;clear H10;refine zb<|zo kr<|wV ?_;refine ⟨[.bool false],(.tmp (.bool false) kr .nil),?_,H12.below⟩;exact congrArg Value.bool (by unfold yD;simp [hb1,hb2]<;>omega)
end Go.Proofs.YtbpmjppmpgeejaaDoor
namespace Go.Proofs.Kec
set_option linter.unusedVariables false
set_option maxRecDepth 10000
abbrev B64:=BitVec 64
structure zfY (st:List B64×Nat):Prop where
 len:st.1.length=25
 lt:st.2<136
end Go.Proofs.Kec
namespace Go.Proofs.YtbpmjppmpgeejaaDoor.Ke
open Go Go.RowKit Go.Proofs.Kec
set_option linter.unusedVariables false
end Go.Proofs.YtbpmjppmpgeejaaDoor.Ke
namespace Go.Proofs.YtbpmjppmpgeejaaDoor
open Go.Proofs.Kec
set_option maxRecDepth 100000
end Go.Proofs.YtbpmjppmpgeejaaDoor
namespace Go.Proofs.YtbpmjppmpgeejaaDoor
open Go Go.RowKit
set_option linter.unusedVariables false
open Go.Proofs.Kec Ke
theorem zbo (A:Nat)(hA:A<big):Fn Tryd.prog 39 #[uv A] (.string (bs A)):=zeP A hA
end Go.Proofs.YtbpmjppmpgeejaaDoor
namespace Go.Proofs.YtbpmjppmpgeejaaDoor
open Go.RowKit
def sv (l:List UInt8):Nat:=l.foldl (fun n b=>256*n+b.toNat) 0
end Go.Proofs.YtbpmjppmpgeejaaDoor
namespace Go.Proofs.YtbpmjppmpgeejaaDoor
open Go.ChangeShapes Go.WideShapes Go.ChangeAt Go.RowKit
set_option linter.unusedVariables false
end Go.Proofs.YtbpmjppmpgeejaaDoor
namespace Go.Proofs.YtbpmjppmpgeejaaDoor
open Go Go.RowKit
set_option linter.unusedVariables false
theorem zeY (r s:Nat)(hr:r<big)(hs:s<big)(v:Int)(hm:yD r s v=false):Fn Tryd.prog 25 #[sgv r s (v)] (.tuple #[.string ⟨#[]⟩,.int .i64 1]):=by
 refine Fn.intro (c:=zl Tryd.f25) [.tmp 2,.tmp 3] 20 Tryd.func25 kr kr kr fun w=>?_;have H0:=St.start w;refine rS [.b,.v,.v] H0 kr fun gs1 w1 H1=>?_;clear H0;refine zd kr<|zh [0,1,2] kr kr<|rp [.l 0,.c (zbn r s hr hs (v))] H1 kr fun gs2 w2 H2=>wX [2] ?_;clear H1;refine yH 5 (v:=.bool (yD r s (v))) (v':=.bool false) (za hm) kr<|rp [.v] H2 kr fun gs3 w3 H3=>wX [] ?_;clear H2;refine zb<|zk kr kr<|rS [.v,.v] H3 kr fun gs4 w4 H4=>?_;clear H3;refine zo kr<|wV ?_;refine ⟨[.string (⟨#[]⟩),.int .i64 1],(.tmp (.string (⟨#[]⟩)) kr (.tmp (.int .i64 1) kr .nil)),?_,H4.below⟩;rfl
theorem zbp (r s:Nat)(hr:r<big)(hs:s<big)(v:Int)(hm:yD r s v=true):Fn Tryd.prog 25 #[sgv r s (v)] (.tuple #[.string (sbs r s v),.int .i64 0]):=by
 refine Fn.intro (c:=zl Tryd.f25) [.tmp 2,.tmp 3] 20 Tryd.func25 kr kr kr fun w=>?_;have H0:=St.start w;refine rS [.b,.v,.v] H0 kr fun gs1 w1 H1=>?_;clear H0;refine zd kr<|zh [0,1,2] kr kr<|rp [.l 0,.c (zbn r s hr hs (v))] H1 kr fun gs2 w2 H2=>wX [2] ?_;clear H1;refine yH 5 (v:=.bool (yD r s (v))) (v':=.bool true) (za hm) kr<|rp [.v] H2 kr fun gs3 w3 H3=>wX [] ?_;clear H2;refine zb<|zm kr kr<|zq kr<|wW<|dSg (fun gs4=>[.v,.l 0,.c (f:=39) (args:=#[uv r]) (v:=.string (bs r)) (zbo r hr),.v,.l 0,.c (f:=39) (args:=#[uv s]) (v:=.string (bs s)) (zbo s hs),.o (ins:=[((.tmp 9),.string (bs r)),((.tmp 12),.string (bs s))]) (v:=.string ((bs r)++(bs s))) (fun ρ o w ho hi=>xM (t:=9) (t':=9) (x:=(.tmp 9)) (y:=(.tmp 12)) (bs r) (bs s) w ho hi.1 hi.2.1 (by rw [qf,qf];omega)),.v,.l 0,.v,.nw (fun b=>.slice (some ⟨b,0,none⟩) 1 1) #[.int .u8 (IntKind.u8.wrap v)] 5,.x (ins:=[((.tmp 17),.slice (some ⟨(gs4 10).b,0,none⟩) 1 1)]) [(1,((gs4 10).b,Obj.cells #[.int .u8 (IntKind.u8.wrap v)] 5 (0,0)))] (jp (t:=56) (t':=9) (e:=5) [(IntKind.u8.wrap v)] kr kr kr (Rw.lit #[.int .u8 (IntKind.u8.wrap v)] 1 (by rfl) (by unfold maxLen;omega))),.o (ins:=[((.tmp 13),.string ((bs r)++(bs s))),((.tmp 18),.string (strOfNums ([(IntKind.u8.wrap v)])))]) (v:=.string (((bs r)++(bs s))++(strOfNums ([(IntKind.u8.wrap v)])))) (fun ρ o w ho hi=>xM (t:=9) (t':=9) (x:=(.tmp 13)) (y:=(.tmp 18)) ((bs r)++(bs s)) (strOfNums ([(IntKind.u8.wrap v)])) w ho hi.1 hi.2.1 (by rw [vP,qf,qf];show 32+32+1≤_;omega)),.v,.v]) H3 kr fun gs4 w4 H4=>?_;clear H3;refine zo kr<|wV ?_;refine ⟨[.string (((bs r)++(bs s))++(strOfNums ([(IntKind.u8.wrap v)]))),.int .i64 0],(.tmp (.string (((bs r)++(bs s))++(strOfNums ([(IntKind.u8.wrap v)])))) kr (.tmp (.int .i64 0) kr .nil)),?_,H4.below⟩;rfl
end Go.Proofs.YtbpmjppmpgeejaaDoor
namespace Go.Proofs.YtbpmjppmpgeejaaDoor
open Go.RowKit
theorem zeZ (x:Int)(_h0:0≤x)(h1:x<256):(UInt8.ofNat x.toNat).toNat=x.toNat:=by
 simp;omega
theorem ky (x:Int)(n:Nat)(hx:Wd x):
 256*(256*(256*(256*(256*(256*(256*(256*n+(x / 72057594037927936%256).toNat)+(x / 281474976710656%256).toNat)+(x / 1099511627776%256).toNat)+(x / 4294967296%256).toNat)+(x / 16777216%256).toNat)+(x / 65536%256).toNat)+(x / 256%256).toNat)+(x%256).toNat=0x10000000000000000*n+x.toNat:=by
 obtain ⟨hx0,hx1⟩:=hx;obtain ⟨y,rfl⟩:=Int.eq_ofNat_of_zero_le hx0;have hy:y<0x10000000000000000:=by omega
 have c0:((y:Int)%256).toNat=y%256:=by omega
 have c1:((y:Int) / 256%256).toNat=y / 256%256:=by omega
 have c2:((y:Int) / 65536%256).toNat=y / 65536%256:=by omega
 have c3:((y:Int) / 16777216%256).toNat=y / 16777216%256:=by omega
 have c4:((y:Int) / 4294967296%256).toNat=y / 4294967296%256:=by omega
 have c5:((y:Int) / 1099511627776%256).toNat=y / 1099511627776%256:=by omega
 have c6:((y:Int) / 281474976710656%256).toNat=y / 281474976710656%256:=by omega
 have c7:((y:Int) / 72057594037927936%256).toNat=y / 72057594037927936%256:=by omega
 rw [Int.toNat_natCast,c7,c6,c5,c4,c3,c2,c1,c0];clear c0 c1 c2 c3 c4 c5 c6 c7 hx0 hx1;have s0:y=256*(y / 256)+y%256:=by omega
 have s1:y / 256=256*(y / 65536)+y / 256%256:=by rw [show y / 65536=y / 256 / 256 from by rw [Nat.div_div_eq_div_mul]];omega
 have s2:y / 65536=256*(y / 16777216)+y / 65536%256:=by rw [show y / 16777216=y / 65536 / 256 from by rw [Nat.div_div_eq_div_mul]];omega
 have s3:y / 16777216=256*(y / 4294967296)+y / 16777216%256:=by rw [show y / 4294967296=y / 16777216 / 256 from by rw [Nat.div_div_eq_div_mul]];omega
 have s4:y / 4294967296=256*(y / 1099511627776)+y / 4294967296%256:=by rw [show y / 1099511627776=y / 4294967296 / 256 from by rw [Nat.div_div_eq_div_mul]];omega
 have s5:y / 1099511627776=256*(y / 281474976710656)+y / 1099511627776%256:=by rw [show y / 281474976710656=y / 1099511627776 / 256 from by rw [Nat.div_div_eq_div_mul]];omega
 have s6:y / 281474976710656=256*(y / 72057594037927936)+y / 281474976710656%256:=by rw [show y / 72057594037927936=y / 281474976710656 / 256 from by rw [Nat.div_div_eq_div_mul]];omega
 have s7:y / 72057594037927936%256=y / 72057594037927936:=by omega
 generalize y / 256=z1 at*;generalize y / 65536=z2 at*;generalize y / 16777216=z3 at*;generalize y / 4294967296=z4 at*;generalize y / 1099511627776=z5 at*;generalize y / 281474976710656=z6 at*;generalize y / 72057594037927936=z7 at*;omega
theorem zbq (A:Nat)(hA:A<big):sv (bs A).data.toList=A:=by
 have e:(bs A).data.toList=(bn A).map fun n=>UInt8.ofNat n.toNat:=by simp [bs,strOfNums]
 have b: ∀x:Int,(UInt8.ofNat (x%256).toNat).toNat=(x%256).toNat:=fun x=>zeZ _ (by omega) (by omega);rw [e];unfold sv bn;simp only [List.map_cons,List.map_nil,List.foldl_cons,List.foldl_nil,b];rw [ky _ _ (wd3 A),ky _ _ (wd2 A),ky _ _ (wd1 A),ky _ _ (wd0 A)];have h:=qv A hA;have h0:=wd0 A;have h1:=wd1 A;have h2:=wd2 A;have h3:=wd3 A;unfold Wd at h0 h1 h2 h3;omega
end Go.Proofs.YtbpmjppmpgeejaaDoor
namespace Go.Proofs.YtbpmjppmpgeejaaDoor
open Go Go.RowKit
set_option linter.unusedVariables false
theorem kA (r s:Nat)(v:Int):(sbs r s v).size=65:=by
 unfold sbs;rw [vP,vP,qf,qf];rfl
theorem vQ (r s:Nat)(v:Int):tl (sbs r s v)=tl (bs r)++(tl (bs s)++tl (strOfNums [IntKind.u8.wrap v])):=by
 unfold sbs;rw [vh,vh,List.append_assoc]
theorem ze0 (r s:Nat)(v:Int):(sbs r s v).extract 0 32=bs r:=by
 apply jr;rw [jQ,vQ,List.drop_zero];exact List.take_left' (by rw [zQ];exact qf r)
theorem ze1 (r s:Nat)(v:Int):(sbs r s v).extract 32 64=bs s:=by
 have h1:(tl (bs r)).length=32:=by rw [zQ];exact qf r
 have h2:(tl (bs s)).length=32:=by rw [zQ];exact qf s
 apply jr;rw [jQ,vQ,←List.append_assoc,List.take_left' (by rw [List.length_append];omega),List.drop_left' h1]
theorem zbr (r s:Nat)(v:Nat)(hv:v<256):by_ (sbs r s (v:Int)) 64=v:=by
 have h1:(tl (bs r)).length=32:=by rw [zQ];exact qf r
 have h2:(tl (bs s)).length=32:=by rw [zQ];exact qf s
 unfold by_;rw [vQ,←List.append_assoc,List.getD_eq_getElem?_getD,List.getElem?_append_right (by rw [List.length_append];omega),List.length_append,h1,h2];have e:IntKind.u8.wrap (v:Int)=(v:Int):=by simp [IntKind.wrap,IntKind.bits,IntKind.signed];omega
 rw [e];show (((tl (strOfNums [(v:Int)]))[0]?).getD 0).toNat=v;have e2:tl (strOfNums [(v:Int)])=[UInt8.ofNat v]:=by simp [strOfNums,tl]
 rw [e2];simp;omega
def sgR (t:ByteArray):Nat:=sv (tl (t.extract 0 32))
def sgS (t:ByteArray):Nat:=sv (tl (t.extract 32 64))
def sgV (t:ByteArray):Int:=((by_ t 64:Nat):Int)
theorem ze2 {r s:Nat}{v:Int}(h:yD r s v=true):v=0∨v=1:=by
 unfold yD at h;rw [Bool.and_eq_true,Bool.or_eq_true,decide_eq_true_iff,decide_eq_true_iff] at h;exact h.2
theorem zbs {r s:Nat}{v:Int}(hr:r<big):sgR (sbs r s v)=r:=by
 unfold sgR;rw [ze0];exact zbq r hr
theorem zbt {r s:Nat}{v:Int}(hs:s<big):sgS (sbs r s v)=s:=by
 unfold sgS;rw [ze1];exact zbq s hs
theorem zbu {r s:Nat}{v:Int}(h:yD r s v=true):sgV (sbs r s v)=v:=by
 unfold sgV;rcases ze2 h with rfl | rfl
 ·exact congrArg (Nat.cast:Nat→Int) (zbr r s 0 (by decide))
 ·exact congrArg (Nat.cast:Nat→Int) (zbr r s 1 (by decide))
theorem ze3 (r s:Nat)(v:Int)(r' s':Nat)(v':Int)(hr:r<big)(hs:s<big)(hr':r'<big)(hs':s'<big)(w:World):(Op.equalIn 10000 47 (.agg (Value.cells (sgv r s v))) (.agg (Value.cells (sgv r' s' v')))).run Tryd.prog w=.ok (decide (r=r')&&(decide (s=s')&&(v==v'))) w:=by
 rw [run_equalIn_struct w 9999 47 _ _ kr kr,
  show (Tryd.prog.fieldsOf 47).toList= [{ name:= "R",type:=45,offset:=0,embedded:=false,tag:= "",pkgPath:= "",byteOffset:=0 },{ name:= "S",type:=45,offset:=4,embedded:=false,tag:= "",pkgPath:= "",byteOffset:=32 },{ name:= "V",type:=3,offset:=8,embedded:=false,tag:= "",pkgPath:= "",byteOffset:=64 }] by kernel_rfl]
 have px: ∀r s v,(part 45 (Value.cells (sgv r s v)) 0).run Tryd.prog w=.ok (uv r) w:=fun r s v=>by kernel_rfl
 have py: ∀r s v,(part 45 (Value.cells (sgv r s v)) 4).run Tryd.prog w=.ok (uv s) w:=fun r s v=>by kernel_rfl
 have pb: ∀r s v,(part 3 (Value.cells (sgv r s v)) 8).run Tryd.prog w=.ok (.int .i64 v) w:=fun r s v=>by kernel_rfl
 have ex: ∀r r':Nat,r<big→r'<big→(Op.equalIn 9999 45 (uv r) (uv r')).run Tryd.prog w=.ok (decide (r=r')) w:=fun r r' hr hr'=>by
  have h9:=zaj hr hr';rw [←h9];exact zai 9997 _ _ _ _ _ _ _ _ w
 have eb:(Op.equalIn 9999 3 (.int .i64 v) (.int .i64 v')).run Tryd.prog w=.ok (v==v') w:=by
  rw [run_equalIn_int w 9998 3 .i64 .i64 v v' Tryd.underlying3]
 have n1:("R" :String)≠ "_" :=by decide
 have n2:("S" :String)≠ "_" :=by decide
 have n3:("V" :String)≠ "_" :=by decide
 simp only [Op.eqFields,if_pos n1,if_pos n2,if_pos n3,Sem.run_bind,px,py,pb,Result.andThen_ok,ex r r' hr hr',ex s s' hs hs',eb,Sem.run_ite];by_cases h1:r=r'
 ·by_cases h2:s=s'
  ·cases h3:(v==v')<;>simp [h1,h2]
  ·simp [h1,h2]
 ·simp [h1]
theorem ze4 {ρ:Env}(r s:Nat)(v:Int)(r' s':Nat)(v':Int)(hr:r<big)(hs:s<big)(hr':r'<big)(hs':s'<big){x y:Operand}{o:Oper}(w:World)(ho:o.op=.binOp .neq 47 x y 47)(hx:ev ρ x=.agg (Value.cells (sgv r s v)))(hy:ev ρ y=.agg (Value.cells (sgv r' s' v'))):
 (execOp (ev ρ) o).run Tryd.prog w=.ok (.value (.bool (!(decide (r=r')&&(decide (s=s')&&(v==v')))))) w:=by
 have h:=ze3 r s v r' s' v' hr hs hr' hs' w;generalize Value.cells (sgv r s v)=X at h hx;generalize Value.cells (sgv r' s' v')=Y at h hy;unfold execOp;simp only [ho,hx,hy,resolve,Sem.run_bind,Sem.run_pure,Result.andThen_ok,run_eqGuard_agg w _ _ _ _ _ _ (show Tryd.prog.eqGuardType Tryd.prog.depth 47=false by kernel_rfl),run_eql_struct,run_neq_struct,h]
theorem kB (m sz ln:Nat):zs 97 0 m sz ln=(decide (m=0)&&(decide (sz=20)&&decide (ln=0))):=by
 unfold zs zZ zC zE;rw [Bool.eq_iff_iff];simp<;>omega
theorem zbv (m sz ln:Nat):zs 115 0 m sz ln=(decide (m=0)&&(decide (sz=65)&&decide (ln=0))):=by
 unfold zs zZ zC zE;rw [Bool.eq_iff_iff];simp<;>omega
theorem zbw (m sz ln:Nat):zs 110 0 m sz ln=(decide (sz=0)&&decide (ln=0)):=by
 unfold zs zZ zC zE;rw [Bool.eq_iff_iff];simp<;>omega
theorem zbx (m sz ln:Nat):zs 98 0 m sz ln=(decide (m=0)&&(decide (sz≤64)&&decide (ln=0))):=by
 unfold zs zZ zC zE;rw [Bool.eq_iff_iff];simp<;>omega
theorem kC (g:Nat)(q:ByteArray)(x:Nat×ByteArray)(l:Fe)(hg:by_ q 0=g)(h:g≠42):yS q x l=zs g 0 x.1 x.2.size l.len:=by
 have e:kdB q=.nil:=by unfold kdB;rw [hg,if_neg h]
 unfold yS;rw [e,hg,beq_eq_false_iff_ne.2 h];simp [Fr.len]
def hv:List UInt8→List UInt8
 | []=>[]
 | b::t=>(b >>> 4)::(b &&& 15)::hv t
def isP (l:List UInt8):Bool:=l.all fun b=>decide (b.toNat≤15)
def jn:List UInt8→List UInt8
 | a::b::t=>(a <<< 4 ||| b)::jn t
 | _=>[]
def lexB:List UInt8→List UInt8→Bool
 | [],[]=>false
 | [],_::_=>true
 | _::_,[]=>false
 | a::l,b::m=>if a.toNat<b.toNat then true else if a=b then lexB l m else false
structure Nd where
 kind:Int
 part:ByteArray
 value:ByteArray
 kids:List Int
def kyB (l:List UInt8):Bool:=isP l&& !decide (l.length%2=1)
def kyS (l:List UInt8):ByteArray:=bif kyB l then zf (jn l) else ⟨#[]⟩
section
variable {P:Program}{N:Nat}{ops:Array Oper}{i:Nat}{r:List Nat}{K:Env→World→Prop}{ρ:Env}{w:World}
end
abbrev Pr:=ByteArray×ByteArray
def mayM (k v:ByteArray):Bool:=(decide (1≤k.size)&&decide (k.size≤32))&&(decide (1≤v.size)&&decide (v.size≤500))
def ze5 (part:List UInt8)(v:ByteArray)(ps:List Pr):List Pr:=if mayM (kyS part) v=true then ps++ [(kyS part,v)] else ps
def ze6 (kind:Int)(i:Nat):List UInt8:=if kind=3 then [UInt8.ofNat i] else []
def vR (go:Int→List UInt8→Nat×List Pr→Nat×List Pr)(x:Nd)(part:List UInt8):Nat→Nat×List Pr→Nat×List Pr
 | 0,s=>s
 | i+1,s=>if x.kids.getD i (-1)= -1 then vR go x part i s else go (x.kids.getD i (-1)) (part++ze6 x.kind i) (vR go x part i s)
def zby (A:List Nd):Nat→Int→List UInt8→Nat×List Pr→Nat×List Pr
 | 0,_,_,s=>s
 | f+1,at_,ahead,s=>
  if s.1=0∨at_<0∨(A.length:Int)≤at_ then s
  else match A[at_.toNat]? with
   | none=>s
   | some x=>if 64<ahead.length+x.part.size then (s.1-1,s.2)
    else vR (zby A f) x (ahead++tl x.part) 16 (s.1-1,ze5 (ahead++tl x.part) x.value s.2)
section
variable {P:Program}{N:Nat}{ops:Array Oper}{i:Nat}{r:List Nat}{K:Env→World→Prop}{ρ:Env}{w:World}
end
theorem zbz: ∀x y:List UInt8,Op.bytesLess x y=lexB x y
 | [],[]=>rfl
 | [],_::_=>rfl
 | _::_,[]=>rfl
 | a::x,b::y=>by
  unfold Op.bytesLess lexB;rw [zbz x y];by_cases h:a.toNat<b.toNat
  ·rw [if_pos h,decide_eq_true (show a<b from h)];rfl
  ·rw [if_neg h,decide_eq_false (show ¬a<b from h)];by_cases e:a=b
   ·rw [if_pos e,e];simp
   ·rw [if_neg e];simp [e]
theorem zbA (a b:ByteArray):Op.bytesLess a.toList b.toList=lexB (tl a) (tl b):=by
 rw [ByteArray.toList_eq,ByteArray.toList_eq];exact zbz _ _
def zfZ (A:List Nd)(root:Int):List Pr:=(zby A 192 root [] (192,[])).2
structure OkP (L:List Pr):Prop where
 len:L.length≤64
 may: ∀x∈L,mayM x.1 x.2=true
 rise:L.Pairwise fun a b=>lexB (tl a.1) (tl b.1)=true
theorem qS {α:Type}{L:List α}{i:Nat}{a:α}(ha:L[i]? =some a):L.take (i+1)=L.take i++ [a]:=by
 rw [List.take_add_one,ha];rfl
def upB:Option ByteArray→ByteArray→Bool
 | none,_=>true
 | some p,a=>lexB (tl p) (tl a)
theorem vS {α:Type}{L:List α}{i:Nat}{x:α}(h:L[i]? =some x):L.drop i=x::L.drop (i+1):=by
 obtain ⟨hi,rfl⟩:=List.getElem?_eq_some_iff.1 h;exact (List.getElem_cons_drop (h:=hi)).symm
abbrev Fel:=El (Nat×ByteArray)
abbrev Sg:=Nat×Nat×Int
def sgF:Fl Sg where
 K:=9
 cs x:=[.int .u64 (w0 x.1),.int .u64 (w1 x.1),.int .u64 (w2 x.1),.int .u64 (w3 x.1),.int .u64 (w0 x.2.1),.int .u64 (w1 x.2.1),.int .u64 (w2 x.2.1),.int .u64 (w3 x.2.1),.int .i64 x.2.2]
 pos:=by decide
 len _:=rfl
 one a:=fun u hu=>by simp at hu;rcases hu with h | h | h | h | h | h | h | h | h<;>rw [h]<;>rfl
abbrev sgB (x:Sg):ByteArray:=sbs x.1 x.2.1 x.2.2
def sgOk (x:Sg):Prop:=x.1<big∧x.2.1<big
abbrev sgMay (x:Sg):Bool:=yD x.1 x.2.1 x.2.2
structure Hdr where
 pa:ByteArray
 hh:Nat
 ro:ByteArray
 tx:ByteArray
 pr:ByteArray
 va:ByteArray
 vs:List ByteArray
 vo:ByteArray
 ad:Bool
 rd:Nat
 ss:List Sg
theorem zbB {h k:Hdr}(e1:h.pa=k.pa)(e2:h.hh=k.hh)(e3:h.ro=k.ro)(e4:h.tx=k.tx)(e5:h.pr=k.pr)(e6:h.va=k.va)(e7:h.vs=k.vs)(e8:h.vo=k.vo)(e9:h.ad=k.ad)(e10:h.rd=k.rd)(e11:h.ss=k.ss):h=k:=by
 cases h;cases k;simp only at*;subst e1 e2 e3 e4 e5 e6 e7 e8 e9 e10 e11;rfl
structure yE (h:Hdr):Prop where
 hh:h.hh<0x10000000000000000
 rd:h.rd<0x10000000000000000
 pa:h.pa.size≤1000000
 ro:h.ro.size≤1000000
 tx:h.tx.size≤1000000
 pr:h.pr.size≤1000000
 va:h.va.size≤1000000
 vo:h.vo.size≤1000000
 vs: ∀x∈h.vs,ByteArray.size x≤1000000
 vl:h.vs.length≤1000
 ss: ∀x∈h.ss,sgOk x
 sl:h.ss.length≤1000
def qT:Option ByteArray→List ByteArray→Bool
 | _,[]=>true
 | p,a::r=>decide (a.size=20)&&(upB p a&&qT (some a) r)
def setM (L:List ByteArray):Bool:=qT none L&&(decide (0<L.length)&&decide (L.length≤16))
def voteB (vo:ByteArray)(ad:Bool):Bool:=if vo.size=0 then !ad else decide (vo.size=20)
def yd (h:Hdr):Bool:=
 (decide (h.pa.size=32)&&(decide (h.ro.size=32)&&(decide (h.tx.size=32)&&(decide (h.pr.size=20)&&(decide (h.va.size≤8)&&setM h.vs)))))&&((voteB h.vo h.ad&&decide (h.ss.length≤16))&&h.ss.all sgMay)
def lsF:List ByteArray→Fe
 | []=>.nil
 | a::r=>.cons (0,a) .nil (lsF r)
theorem vT: ∀L,(lsF L).len=L.length
 | []=>rfl
 | a::r=>by simp only [lsF,Fr.len,List.length_cons,vT r]
theorem zbC: ∀L,(lsF L).cnt=L.length
 | []=>rfl
 | a::r=>by simp only [lsF,Fr.cnt,List.length_cons,zbC r];omega
theorem vU: ∀ {L M:List ByteArray},lsF L=lsF M→L=M
 | [],[],_=>rfl
 | a::r,b::t,h=>by
  unfold lsF at h;injection h with h1 _ h2;injection h1 with _ h1
  rw [h1,vU h2]
 | [],b::t,h=>by unfold lsF at h;cases h
 | a::r,[],h=>by unfold lsF at h;cases h
theorem vV: ∀ {L:List ByteArray},(∀x∈L,ByteArray.size x≤0x800000000000)→(lsF L).all fS.ok
 | [],_=>trivial
 | a::r,h=>⟨⟨(by decide:0<0x10000000000000000),h a (List.mem_cons_self ..)⟩,trivial,vV fun x hx=>h x (List.mem_cons_of_mem _ hx)⟩
def hdL (pa:ByteArray)(hh:Nat)(ro tx pr va:ByteArray)(L:List ByteArray)(vo:ByteArray)(a rd:Nat)(M:List ByteArray):Fe:=
 .cons (0,pa) .nil (.cons (hh,em) .nil (.cons (0,ro) .nil (.cons (0,tx) .nil (.cons (0,pr) .nil (.cons (0,va) .nil (.cons (0,em) (lsF L) (.cons (0,vo) .nil (.cons (a,em) .nil (.cons (rd,em) .nil (.cons (0,em) (lsF M) .nil))))))))))
def adN (b:Bool):Nat:=if b then 1 else 0
def hdF (h:Hdr):Fe:=hdL h.pa h.hh h.ro h.tx h.pr h.va h.vs h.vo (adN h.ad) h.rd (h.ss.map sgB)
abbrev qB:ByteArray:=⟨#[104,110,104,104,97,98,42,97,98,110,110,42,115]⟩
def hK:List ByteArray:=[⟨#[104]⟩,⟨#[110]⟩,⟨#[104]⟩,⟨#[104]⟩,⟨#[97]⟩,⟨#[98]⟩,⟨#[42,97]⟩,⟨#[98]⟩,⟨#[110]⟩,⟨#[110]⟩,⟨#[42,115]⟩]
theorem zbD:za6 qB hK:=⟨by decide,by kernel_rfl,by kernel_rfl,by kernel_rfl,List.all_eq_true.1 (show hK.all kdOk=true by kernel_rfl)⟩
def yU (h:Hdr):ByteArray:=(wrV qB (hdF h)).1
theorem ze7 {pa pa':ByteArray}{hh hh':Nat}{ro ro' tx tx' pr pr' va va':ByteArray}{L L':List ByteArray}{vo vo':ByteArray}{a a' rd rd':Nat}{M M':List ByteArray}(h:hdL pa hh ro tx pr va L vo a rd M=hdL pa' hh' ro' tx' pr' va' L' vo' a' rd' M'):
 pa=pa'∧hh=hh'∧ro=ro'∧tx=tx'∧pr=pr'∧va=va'∧L=L'∧vo=vo'∧a=a'∧rd=rd'∧M=M':=by
 unfold hdL at h;injection h with e1 _ h;injection h with e2 _ h;injection h with e3 _ h;injection h with e4 _ h;injection h with e5 _ h;injection h with e6 _ h;injection h with _ e7 h;injection h with e8 _ h;injection h with e9 _ h;injection h with e10 _ h;injection h with _ e11 _
 injection e1 with _ e1;injection e2 with e2 _;injection e3 with _ e3;injection e4 with _ e4;injection e5 with _ e5;injection e6 with _ e6;injection e8 with _ e8;injection e9 with e9 _;injection e10 with e10 _
 exact ⟨e1,e2,e3,e4,e5,e6,vU e7,e8,e9,e10,vU e11⟩
theorem ze8 {a b:Bool}(h:adN a=adN b):a=b:=by cases a<;>cases b<;>first | rfl | cases h
theorem ze9 {x y:Sg}(hx:sgOk x)(hy:sgOk y)(mx:sgMay x=true)(my:sgMay y=true)(h:sgB x=sgB y):x=y:=by
 obtain ⟨r,s,v⟩:=x;obtain ⟨r',s',v'⟩:=y;have e1:=congrArg sgR h;have e2:=congrArg sgS h;have e3:=congrArg sgV h;rw [zbs hx.1,zbs hy.1] at e1;rw [zbt hx.2,zbt hy.2] at e2;rw [zbu mx,zbu my] at e3;exact Prod.ext e1 (Prod.ext e2 e3)
theorem zbE: ∀ {L M:List Sg},(∀x∈L,sgOk x)→(∀x∈M,sgOk x)→L.all sgMay=true→M.all sgMay=true→L.map sgB=M.map sgB→L=M
 | [],[],_,_,_,_,_=>rfl
 | x::r,y::t,hL,hM,aL,aM,h=>by
  simp only [List.all_cons,Bool.and_eq_true] at aL aM;simp only [List.map_cons,List.cons.injEq] at h;rw [ze9 (hL x (List.mem_cons_self ..)) (hM y (List.mem_cons_self ..)) aL.1 aM.1 h.1,zbE (fun z hz=>hL z (List.mem_cons_of_mem _ hz)) (fun z hz=>hM z (List.mem_cons_of_mem _ hz)) aL.2 aM.2 h.2]
 | [],y::t,_,_,_,_,h=>by simp at h
 | x::r,[],_,_,_,_,h=>by simp at h
structure RtH (h:Hdr):Prop where
 pa:h.pa.size=32
 ro:h.ro.size=32
 tx:h.tx.size=32
 pr:h.pr.size=20
 va:h.va.size≤8
 st:setM h.vs=true
 vo:voteB h.vo h.ad=true
 sl:h.ss.length≤16
 ss:h.ss.all sgMay=true
theorem je {h:Hdr} :yd h=true↔RtH h:=by
 unfold yd;simp only [Bool.and_eq_true,decide_eq_true_eq];exact ⟨fun ⟨⟨h1,h2,h3,h4,h5,h6⟩,⟨h7,h8⟩,h9⟩=>⟨h1,h2,h3,h4,h5,h6,h7,h8,h9⟩,fun ⟨h1,h2,h3,h4,h5,h6,h7,h8,h9⟩=>⟨⟨h1,h2,h3,h4,h5,h6⟩,⟨h7,h8⟩,h9⟩⟩
theorem zfa {h k:Hdr}(oh:yE h)(ok:yE k)(rh:yd h=true)(rk:yd k=true)(e:hdF h=hdF k):h=k:=by
 have r1:=je.1 rh;have r2:=je.1 rk;obtain ⟨e1,e2,e3,e4,e5,e6,e7,e8,e9,e10,e11⟩:=ze7 e;have e9:=ze8 e9;have e11:=zbE oh.ss ok.ss r1.ss r2.ss e11;exact zbB e1 e2 e3 e4 e5 e6 e7 e8 e9 e10 e11
theorem zbF {p:Option ByteArray} : ∀ {L:List ByteArray},qT p L=true→ ∀x∈L,ByteArray.size x=20:=by
 intro L
 induction L generalizing p with
 | nil=>intro _ x hx;exact nomatch hx
 | cons a r ih=>
  intro h x hx;simp only [qT,Bool.and_eq_true,decide_eq_true_eq] at h;rcases List.mem_cons.1 hx with rfl | hx
  ·exact h.1
  ·exact ih h.2.2 x hx
theorem zbG {h:Hdr}(o:yE h):(hdF h).all fS.ok:=by
 have z:(0:Nat)<0x10000000000000000:=by decide
 have ze:em.size≤0x800000000000:=Nat.zero_le _;have ha:adN h.ad<0x10000000000000000:=by unfold adN;split<;>decide
 have h1:=o.pa;have h2:=o.ro;have h3:=o.tx;have h4:=o.pr;have h5:=o.va;have h6:=o.vo
 exact ⟨⟨z,by show h.pa.size≤_;omega⟩,trivial,⟨o.hh,ze⟩,trivial,⟨z,by show h.ro.size≤_;omega⟩,trivial,⟨z,by show h.tx.size≤_;omega⟩,trivial,⟨z,by show h.pr.size≤_;omega⟩,trivial,⟨z,by show h.va.size≤_;omega⟩,trivial,⟨z,ze⟩,vV fun x hx=>by have:=o.vs x hx;omega,
  ⟨z,by show h.vo.size≤_;omega⟩,trivial,⟨ha,ze⟩,trivial,⟨o.rd,ze⟩,trivial,⟨z,ze⟩,vV fun x hx=>by obtain ⟨y,_,rfl⟩:=List.mem_map.1 hx;rw [kA];omega,trivial⟩
theorem zbH (m sz ln:Nat):zs 104 0 m sz ln=(decide (m=0)&&(decide (sz=32)&&decide (ln=0))):=by
 unfold zs zZ zC zE;rw [Bool.eq_iff_iff];simp<;>omega
theorem zbI (m sz ln:Nat):zs 42 1 m sz ln=(decide (m=0)&&(decide (sz=0)&&decide (ln≤40))):=by
 unfold zs zZ zC zE;rw [Bool.eq_iff_iff];simp<;>omega
theorem zbJ (c:Nat)(q:ByteArray)(x:Nat×ByteArray)(l:Fe)(h0:by_ q 0=42)(h1:by_ q 1=c):yS q x l=(zs 42 1 x.1 x.2.size l.len&&qd c l):=by
 have e:kdB q=.cons c .nil .nil:=by unfold kdB;rw [if_pos h0,h1]
 unfold yS;rw [e,h0,h1];rfl
theorem jB {c z:Nat}(hf: ∀m sz ln,zs c 0 m sz ln=(decide (m=0)&&(decide (sz=z)&&decide (ln=0)))): ∀ {l:Fe},qd c l=true↔ ∃L:List ByteArray,l=lsF L∧ ∀x∈L,ByteArray.size x=z
 | .nil=>⟨fun _=>⟨[],rfl,fun _ h=>nomatch h⟩,fun _=>rfl⟩
 | .cons x l r=>by
  simp only [qd,hf,Bool.and_eq_true,decide_eq_true_eq];constructor
  ·rintro ⟨⟨h1,h2,h3⟩,h4⟩;obtain ⟨L,rfl,hL⟩:=(jB hf).1 h4;obtain rfl:=Fr.len_zero h3;obtain ⟨m,s⟩:=x;simp only at h1 h2;subst h1;exact ⟨s::L,rfl,fun y hy=>by rcases List.mem_cons.1 hy with rfl | hy;exact h2;exact hL y hy⟩
  ·rintro ⟨L,h1,h2⟩;cases L with
   | nil=>unfold lsF at h1;cases h1
   | cons a t=>
    unfold lsF at h1;injection h1 with e1 e2 e3
    subst e1 e2 e3;exact ⟨⟨rfl,h2 a (List.mem_cons_self ..),rfl⟩,(jB hf).2 ⟨t,rfl,fun y hy=>h2 y (List.mem_cons_of_mem _ hy)⟩⟩
theorem zfb (l:Fe):yv hK l=true↔ ∃(pa:ByteArray) (hh:Nat) (ro tx pr va:ByteArray) (L:List ByteArray) (vo:ByteArray) (a rd:Nat) (M:List ByteArray),l=hdL pa hh ro tx pr va L vo a rd M∧
 pa.size=32∧ro.size=32∧tx.size=32∧pr.size=20∧va.size≤64∧(∀x∈L,ByteArray.size x=20)∧L.length≤40∧vo.size≤64∧(∀x∈M,ByteArray.size x=65)∧M.length≤40:=by
 have s1:=fun x l=>kC 104 ⟨#[104]⟩ x l rfl (by decide);have s2:=fun x l=>kC 110 ⟨#[110]⟩ x l rfl (by decide);have s3:=fun x l=>kC 97 ⟨#[97]⟩ x l rfl (by decide);have s4:=fun x l=>kC 98 ⟨#[98]⟩ x l rfl (by decide);have s5:=fun x l=>zbJ 97 ⟨#[42,97]⟩ x l rfl rfl;have s6:=fun x l=>zbJ 115 ⟨#[42,115]⟩ x l rfl rfl;constructor
 ·intro h;have hl:=vN h;unfold hK at h
  match l,h,hl with
  | .cons x1 l1 (.cons x2 l2 (.cons x3 l3 (.cons x4 l4 (.cons x5 l5 (.cons x6 l6 (.cons x7 l7 (.cons x8 l8 (.cons x9 l9 (.cons x10 l10 (.cons x11 l11 .nil)))))))))),h,_=>
   simp only [yv,s1,s2,s3,s4,s5,s6,kB,zbw,zbx,zbH,zbI,Bool.and_eq_true,decide_eq_true_eq] at h;obtain ⟨⟨a1,a2,a3⟩,⟨b1,b2⟩,⟨c1,c2,c3⟩,⟨d1,d2,d3⟩,⟨e1,e2,e3⟩,⟨f1,f2,f3⟩,⟨⟨g1,g2,g3⟩,g4⟩,⟨h1,h2,h3⟩,⟨i1,i2⟩,⟨j1,j2⟩,⟨⟨k1,k2,k3⟩,k4⟩,_⟩:=h;obtain ⟨L,rfl,hL⟩:=(jB kB).1 g4;obtain ⟨M,rfl,hM⟩:=(jB zbv).1 k4;rw [vT] at g3 k3;obtain ⟨m1,t1⟩:=x1;obtain ⟨m2,t2⟩:=x2;obtain ⟨m3,t3⟩:=x3;obtain ⟨m4,t4⟩:=x4;obtain ⟨m5,t5⟩:=x5;obtain ⟨m6,t6⟩:=x6;obtain ⟨m7,t7⟩:=x7;obtain ⟨m8,t8⟩:=x8;obtain ⟨m9,t9⟩:=x9;obtain ⟨m10,t10⟩:=x10;obtain ⟨m11,t11⟩:=x11;obtain rfl:=Fr.len_zero a3;obtain rfl:=Fr.len_zero b2;obtain rfl:=Fr.len_zero c3;obtain rfl:=Fr.len_zero d3;obtain rfl:=Fr.len_zero e3;obtain rfl:=Fr.len_zero f3;obtain rfl:=Fr.len_zero h3;obtain rfl:=Fr.len_zero i2;obtain rfl:=Fr.len_zero j2;obtain rfl:=qP b1;obtain rfl:=qP i1;obtain rfl:=qP j1;obtain rfl:=qP g2;obtain rfl:=qP k2;simp only at a1 c1 d1 e1 f1 g1 h1 k1;subst a1 c1 d1 e1 f1 g1 h1 k1;exact ⟨t1,m2,t3,t4,t5,t6,L,t8,m9,m10,M,rfl,a2,c2,d2,e2,f2,hL,g3,h2,hM,k3⟩
 ·rintro ⟨pa,hh,ro,tx,pr,va,L,vo,a,rd,M,rfl,h1,h2,h3,h4,h5,h6,h7,h8,h9,h10⟩;unfold hK hdL;simp only [yv,s1,s2,s3,s4,s5,s6,kB,zbw,zbx,zbH,zbI,(jB kB).2 ⟨L,rfl,h6⟩,(jB zbv).2 ⟨M,rfl,h9⟩,vT,h1,h2,h3,h4,h5,h7,h8,h10,Fr.len];rfl
def lsI:List ByteArray→Fo
 | []=>.nil
 | a::r=>.cons false a .nil (lsI r)
theorem vW {c:Nat}(h1:c≠110)(h2:zG c=false): ∀(L:List ByteArray) (i:Nat),yu (lsF L) 42 (.cons c .nil .nil) i=lsI L
 | [],_=>rfl
 | a::r,i=>by
  unfold lsF lsI;rw [km,vM,vW h1 h2 r];unfold zU zM;rw [if_neg h1,h2];rfl
theorem zbK: ∀L,(lsI L).cnt=L.length
 | []=>rfl
 | a::r=>by simp only [lsI,Fo.cnt,List.length_cons,zbK r];omega
theorem vX: ∀L,pureF (lsI L)=true
 | []=>rfl
 | a::r=>by
  show ((!mixed false a 0&&true)&&pureF (lsI r))=true;rw [vX r];rfl
theorem zbL: ∀L,dpF (lsI L)=0
 | []=>rfl
 | a::r=>by
  show max 0 (dpF (lsI r))=0;rw [zbL r];rfl
theorem vY {z:Nat} : ∀ {L:List ByteArray},(∀x∈L,ByteArray.size x≤z)→wtF (lsI L)≤L.length*(9+z)
 | [],_=>Nat.zero_le _
 | a::r,h=>by
  have h1:=h a (List.mem_cons_self ..);have h2:=vY (L:=r) fun x hx=>h x (List.mem_cons_of_mem _ hx);simp only [lsI,wtF,List.length_cons,Nat.succ_mul];omega
def hdI (h:Hdr):Fo:=
 .cons false h.pa .nil (.cons false (zf (dg h.hh)) .nil (.cons false h.ro .nil (.cons false h.tx .nil (.cons false h.pr .nil (.cons false h.va .nil (.cons true emB (lsI h.vs) (.cons false h.vo .nil (.cons false (zf (dg (adN h.ad))) .nil (.cons false (zf (dg h.rd)) .nil (.cons true emB (lsI (h.ss.map sgB)) .nil))))))))))
theorem zfc (h:Hdr):yu (hdF h) 40 (kfL hK) 0=hdI h:=by
 unfold hdF hdL hdI;rw [qe _ _ _ 0 (by decide),qe _ _ _ 1 (by decide),qe _ _ _ 2 (by decide),qe _ _ _ 3 (by decide),qe _ _ _ 4 (by decide),qe _ _ _ 5 (by decide),qe _ _ _ 6 (by decide),qe _ _ _ 7 (by decide),qe _ _ _ 8 (by decide),qe _ _ _ 9 (by decide),qe _ _ _ 10 (by decide)];have e1:zM 42 (.cons 97 .nil .nil) (lsF h.vs)=lsI h.vs:=by
  unfold zM;rw [if_pos (show zG 42=true from rfl)];exact vW (by decide) rfl _ _
 have e2:zM 42 (.cons 115 .nil .nil) (lsF (h.ss.map sgB))=lsI (h.ss.map sgB):=by
  unfold zM;rw [if_pos (show zG 42=true from rfl)];exact vW (by decide) rfl _ _
 rw [←e1,←e2];rfl
theorem zbM {vo:ByteArray}{ad:Bool}(h:voteB vo ad=true):vo.size≤20:=by
 unfold voteB at h;split at h
 ·omega
 ·have:=of_decide_eq_true h;omega
theorem zfd {h:Hdr}(r:yd h=true):yv hK (hdF h)=true:=by
 have q:=je.1 r;have hs:=q.st;unfold setM at hs;simp only [Bool.and_eq_true,decide_eq_true_eq] at hs;have h1:=q.va;have h2:=zbM q.vo;have h3:=q.sl;exact (zfb _).2 ⟨_,_,_,_,_,_,_,_,_,_,_,rfl,q.pa,q.ro,q.tx,q.pr,by omega,zbF hs.1,by omega,by omega,fun x hx=>by obtain ⟨y,_,rfl⟩:=List.mem_map.1 hx;exact kA _ _ _,by rw [List.length_map];omega⟩
theorem zfe {h:Hdr}(r:yd h=true):wtF (hdI h)≤2500:=by
 have q:=je.1 r;have hs:=q.st;unfold setM at hs;simp only [Bool.and_eq_true,decide_eq_true_eq] at hs;have w1:=vY (L:=h.vs) (z:=20) fun x hx=>Nat.le_of_eq (zbF hs.1 x hx);have w2:=vY (L:=h.ss.map sgB) (z:=65) fun x hx=>by obtain ⟨y,_,rfl⟩:=List.mem_map.1 hx;exact Nat.le_of_eq (kA _ _ _)
 rw [List.length_map] at w2;have a1:=q.pa;have a2:=q.ro;have a3:=q.tx;have a4:=q.pr;have a5:=q.va;have a6:=zbM q.vo;have a7:=q.sl;have d1:=yQ h.hh;have d2:=yQ (adN h.ad);have d3:=yQ h.rd;have ez:emB.size=0:=rfl;simp only [hdI,wtF,qm];omega
theorem vZ {h:Hdr}(r:yd h=true):(wrV qB (hdF h)).2=0:=by
 have q:=je.1 r;have hs:=q.st;unfold setM at hs;simp only [Bool.and_eq_true,decide_eq_true_eq] at hs;have a7:=q.sl;have hc:(hdF h).cnt≤1000:=by
  simp only [hdF,hdL,Fr.cnt,zbC,List.length_map];omega
 have hw:=zfe r;have hci:(hdI h).cnt≤3999:=by
  simp only [hdI,Fo.cnt,zbK,List.length_map];omega
 have hp:pureF (hdI h)=true:=by
  have p1:=vX h.vs;have p2:=vX (h.ss.map sgB);simp only [hdI,pureF,p1,p2,mixed];rfl
 have hd:dpF (hdI h)=1:=by
  simp only [hdI,dpF,zbL,dp1];rfl
 have h1:=jy (hdI h);have h2:=vu true emB (szF (hdI h));have ez:emB.size=0:=rfl;have hl:lf1 true emB (hdI h).len (lfF (hdI h)) 4000=some (3999-(hdI h).cnt):=by
  unfold lf1;rw [if_neg (by simp [mixed];rfl),xa,if_pos ⟨hp,hci⟩]
 rw [zeM zbD,if_pos ⟨zfd r,hc⟩,zfc];unfold yb;rw [hl];simp only [];rw [if_neg (by rw [hd];decide),if_neg (by omega)]
theorem isK {l:List (Nat×Value)}{ρ:Env}(h:l.map (fun p=>ρ p.1)=l.map (·.2):=by kernel_rfl):Is l ρ:=by
 refine Is.of ?_
 induction l with
 | nil=>trivial
 | cons p r ih=>
  simp only [List.map_cons,List.cons.injEq] at h;exact ⟨h.1,ih h.2⟩
section
variable {P:Program}{N:Nat}{c:Code}{Q:Exit→Env→World→Prop}{ρ:Env}{w:World}
theorem qg (k:Q .normal ρ w)(h:(jj c&&xw (xt c))=true:=by kernel_rfl)(hx:ev ρ (qW c)=.bool false:=by kernel_rfl):WP P N c Q ρ w:=by
 rw [Bool.and_eq_true] at h;exact zm h.1 hx (zq h.2 k)
theorem zR (k:WP P N (xr c) Q ρ w)(h:jj c=true:=by kernel_rfl)(hx:ev ρ (qW c)=.bool true:=by kernel_rfl):WP P N c Q ρ w:=zk h hx k
def ua (c:Code):Code:=ym (ym c)
def kD (c:Code):Code:=zA (ua c)
def yV (c:Code):Code:=zO (ua c)
def ub (c:Code):Code:=ym (zA (zO (yV c)))
def xl (c:Code):Code:=zO (zO (yV c))
def xm (n:Nat):Code→Bool
 | .region _ ops d=>Nat.beq ops.size n&& !d
 | _=>false
theorem zbN {n:Nat}{c:Code}(h:xm n c=true):∃id,c=.region id (zg c) false∧List.range (zg c).size=List.range n:=by
 cases c with
 | region id ops d=>
  cases d with
  | true=>simp [xm] at h
  | false=>
   simp only [xm,Bool.not_false,Bool.and_true] at h;exact ⟨id,rfl,congrArg List.range (Nat.eq_of_beq_eq_true h)⟩
 | _=>cases h
def kE (a:Option Nat)(b:Nat):Bool:=match a with
 | some x=>Nat.beq x b
 | none=>false
theorem uc {a:Option Nat}{b:Nat}(h:kE a b=true):a=some b:=by
 cases a with
 | none=>cases h
 | some x=>exact congrArg some (Nat.eq_of_beq_eq_true h)
def ud (nt ni b0 b1 tc:Nat)(c:Code):Bool:=
 kE (xu c) b0&&(xv (ym c)&&(ys (ua c)&&(xm nt (kD c)&&(ys (yV c)&&(jj (zA (yV c))&&(xw (xr (zA (yV c)))&&(kE (kK (xt (zA (yV c)))) b0&&(ys (zO (yV c))&&(kE (xu (zA (zO (yV c)))) b1&&xm ni (xl c))))))))))
abbrev zbO (ti b0 b1:Nat)(inc:Env→Env)(I:Nat→Env→World→Prop)(Q:Exit→Env→World→Prop)(i:Nat):Exit→Env→World→Prop
 | .normal,ρ,w=>ρ ti=iN i∧I (i+1) (inc ρ) w
 | .exit k,ρ,w=>bif Nat.beq k b1 then ρ ti=iN i∧I (i+1) (inc ρ) w else bif Nat.beq k b0 then Q .normal ρ w else Q (.exit k) ρ w
 | e,ρ,w=>Q e ρ w
theorem zff {ti b0 b1 tc nt ni n:Nat}{tst:Nat→Env→Env}{inc:Nat→Env→Env}(I:Nat→Env→World→Prop)
 (hs:ud nt ni b0 b1 tc c=true) (hx:qW (zA (yV c))=.tmp tc)
 (hT: ∀i ρ w K,I i ρ w→K (tst i ρ) w→WPs P N (zg (kD c)) K (List.range nt) ρ w) (hv: ∀i ρ w,I i ρ w→tst i ρ tc=.bool (decide ((i:Int)<(n:Int))))
 (hJ: ∀i ρ w K,i<n→ρ ti=iN i→K (inc i ρ) w→WPs P N (zg (xl c)) K (List.range ni) ρ w)
 (h0:I 0 ρ w) (hb: ∀i ρ w,i<n→I i ρ w→WP P N (ub c) (zbO ti b0 b1 (inc i) I Q i) (tst i ρ) w) (he: ∀ρ w,I n ρ w→Q .normal (tst n ρ) w):WP P N c Q ρ w:=by
 unfold ud at hs;simp only [Bool.and_eq_true] at hs;obtain ⟨s1,s2,s3,s4,s5,s6,s7,s8,s9,s10,s11⟩:=hs;obtain ⟨id1,e1,l1⟩:=zbN s4;obtain ⟨id2,e2,l2⟩:=zbN s11;refine zw b0 (uc s1)<|yN s2 (fun m ρ w=> ∃i,n-i=m∧i≤n∧I i ρ w) n ⟨0,rfl,Nat.zero_le _,h0⟩ ?_;rintro m ρ w ⟨i,rfl,hin,hI⟩;refine zd s3 ?_;show WP P N (kD c) _ ρ w;rw [e1];refine WP.region _ l1<|hT i ρ w _ hI ?_;show WP P N (yV c) _ (tst i ρ) w;refine zd s5 ?_;have hval:=hv i ρ w hI;by_cases hi:i<n
 ·refine zk s6 (by rw [hx];show tst i ρ tc=_;rw [hval,decide_eq_true (by omega)])<|zq s7 ?_;show WP P N (zO (yV c)) _ (tst i ρ) w;refine zd s9<|zw b1 (uc s10) ?_;have hfin: ∀(Q3:Exit→Env→World→Prop) ρ' w',(ρ' ti=iN i∧I (i+1) (inc i ρ') w')→(∀e ρ w,Q3 e ρ w=Q3 e ρ w)→WP P N (xl c) (nx (fun ρ' w'=> ∃m,m<n-i∧∃i,n-i=m∧i≤n∧I i ρ' w') Q3) ρ' w':=fun Q3 ρ' w' h _=>by
   rw [e2];refine WP.region _ l2 ?_;exact hJ i ρ' w' _ hi h.1 ⟨n-(i+1),by omega,i+1,rfl,by omega,h.2⟩
  refine xy (hb i ρ w hi hI) fun e ρ' w' h=>?_;cases e with
  | normal=>exact hfin _ ρ' w' h fun _ _ _=>rfl
  | exit k=>
   show bif Nat.beq k b1 then _ else _;change (bif Nat.beq k b1 then _ else _) at h;cases hk:Nat.beq k b1 with
   | true=>rw [hk] at h;exact hfin _ ρ' w' h fun _ _ _=>rfl
   | false=>rw [hk] at h;exact h
  | _=>exact h
 ·obtain rfl:i=n:=by omega
  refine zm s6 (by rw [hx];show tst i ρ tc=_;rw [hval,decide_eq_false (by omega)])<|yt b0 (uc s8) ?_;show bif Nat.beq b0 b0 then _ else _;rw [Nat.beq_refl];exact he ρ w hI
theorem jf (ti tn tc tj b0 b1 n:Nat)(hn:n≤0x4000000000000000)(I:Nat→Env→World→Prop)(hI: ∀i ρ w,I i ρ w→ρ ti=iN i∧ρ tn=iN n)
 (h0:I 0 ρ w) (hb: ∀i ρ w,i<n→I i ρ w→WP P N (ub c) (zbO ti b0 b1 (fun ρ=>upd (upd ρ tj (iN (i+1))) ti (iN (i+1))) I Q i) (upd ρ tc (.bool true)) w)
 (he: ∀ρ w,I n ρ w→Q .normal (upd ρ tc (.bool false)) w)
 (hs:ud 1 2 b0 b1 tc c=true:=by kernel_rfl) (hx:qW (zA (yV c))=.tmp tc:=by kernel_rfl)
 (ht: ∀(ρ0:Env) (i:Nat) w,opv P (zg (kD c)) 0 (upd (upd ρ0 tn (iN n)) ti (iN i)) w=some (some tc,true,.ok (.value (.bool (decide ((i:Int)<(n:Int))))) w):=by exact fun ρ0 i w=>by kernel_rfl)
 (hj: ∀(ρ0:Env) (i:Nat) w,opv P (zg (xl c)) 0 (upd ρ0 ti (iN i)) w=some (some tj,true,.ok (.value (.int .i64 (IntKind.i64.wrap ((i:Int)+1)))) w):=by exact fun ρ0 i w=>by kernel_rfl)
 (hk: ∀(ρ0:Env) (v:Value) w,opv P (zg (xl c)) 1 (upd ρ0 tj v) w=some (some ti,true,.ok (.value v) w):=by exact fun ρ0 v w=>by kernel_rfl)
 (hd:(dOK (some tc) N&&(dOK (some tj) N&&dOK (some ti) N))=true:=by kernel_rfl):WP P N c Q ρ w:=by
 simp only [Bool.and_eq_true] at hd;refine zff (ti:=ti) (tst:=fun i ρ=>upd ρ tc (.bool (decide ((i:Int)<(n:Int))))) (inc:=fun i ρ=>upd (upd ρ tj (iN (i+1))) ti (iN (i+1))) (n:=n) I hs hx (fun i ρ w K h k=>?_) (fun i ρ w h=>?_) (fun i ρ w K hi h k=>?_) h0 (fun i ρ w hi h=>?_) (fun ρ w h=>?_)
 ·have e:upd (upd ρ tn (iN n)) ti (iN i)=ρ:=by rw [jl (hI i ρ w h).2,jl (hI i ρ w h).1]
  refine zc (some tc) _ (fun w=>e▸ht ρ i w) hd.1 ?_;exact zb k
 ·show upd ρ tc _ tc=_;unfold upd;rw [Nat.beq_refl];rfl
 ·have e:upd ρ ti (iN i)=ρ:=jl h;refine yz (some tj) _ (iN (i+1)) (fun w=>e▸hj ρ i w) (zt (qk (a:=i) (b:=1) (by omega))) hd.2.1<|zc (some ti) (iN (i+1)) (fun w=>hk ρ (iN (i+1)) w) hd.2.2 ?_;exact zb k
 ·show WP P N (ub c) _ (upd ρ tc (.bool (decide ((i:Int)<(n:Int))))) w;rw [decide_eq_true (show (i:Int)<(n:Int) by omega)];exact hb i ρ w hi h
 ·show Q .normal (upd ρ tc (.bool (decide ((n:Int)<(n:Int))))) w;rw [decide_eq_false (show ¬(n:Int)<(n:Int) by omega)];exact he ρ w h
end
theorem AtF.row2 {α:Type}{S:Fl α}{w:World}{p:Option Addr}{n:Nat}{L:List α}(h:AtF S w p n L)(hn:0<n):∃b off C T fz,p=some ⟨b,off,none⟩∧w.heap[b]? =some (.cells C T fz)∧qa S C off L:=by
 rcases h.2 with rfl|h2
 ·have:=h.1;simp at this;omega
 ·exact h2
def jg (L:List ByteArray)(i:Nat):Option ByteArray:=if i=0 then none else L[i-1]?
theorem zbP {L:List ByteArray}{i:Nat}{x:ByteArray}(h:L[i]? =some x):jg L (i+1)=some x:=by
 unfold jg;rw [if_neg (by omega),Nat.add_sub_cancel,h]
abbrev hdC (h:Hdr)(p:Option Addr)(n c:Nat)(q:Option Addr)(m k:Nat):Array Value:=#[.string h.pa,.int .u64 ((h.hh:Nat):Int),.string h.ro,.string h.tx,.string h.pr,.string h.va,.slice p n c,.string h.vo,.bool h.ad,.int .u64 ((h.rd:Nat):Int),.slice q m k]
abbrev hdV (h:Hdr)(p:Option Addr)(n c:Nat)(q:Option Addr)(m k:Nat):Value:=.agg (hdC h p n c q m k)
abbrev hdO (h:Hdr)(p:Option Addr)(n c:Nat)(q:Option Addr)(m k:Nat):Obj:=.cells (hdC h p n c q m k) 26 (0,0)
def yr (w:World)(h:Hdr)(p:Option Addr)(n:Nat)(q:Option Addr)(m:Nat):Prop:=AtF sS w p n h.vs∧AtF sgF w q m h.ss
theorem yr.call {w w':World}{h:Hdr}{p:Option Addr}{n:Nat}{q:Option Addr}{m:Nat}(a:yr w h p n q m)(hb:Below w.heap.size w w'):yr w' h p n q m:=⟨a.1.call hb,a.2.call hb⟩
abbrev sgC (x:Sg):Array Value:=(sgF.cs x).toArray
abbrev sgO (x:Sg):Obj:=.cells (sgC x) 47 (0,0)
structure ue (h:Hdr):Prop where
 vo:h.vo.size≤1000000
 vl:h.vs.length≤1000
 ss: ∀x∈h.ss,sgOk x
 sl:h.ss.length≤1000
theorem yE.sm {h:Hdr}(o:yE h):ue h:=⟨o.vo,o.vl,o.ss,o.sl⟩
end Go.Proofs.YtbpmjppmpgeejaaDoor
