/-
  Texts of the proof,part 3.
-/
import Derived.Test.YthonokeibcodpaaGreatDoorProg
import Derived.Recover
import Derived.Test.YthonokeibcodpaaGreatDoorBB1
import Derived.Test.YthonokeibcodpaaGreatDoorBB2
set_option maxRecDepth 100000
set_option maxHeartbeats 4000000
namespace Go.Proofs.YthonokeibcodpaaGreatDoor
open Go Go.RowKit
set_option linter.unusedVariables false
theorem zh7 (p:Nat)(w0 w:World)(L:List (Nat×Obj))(H0:St w0.heap.size w0 w ([(p,Obj.cells #[.pointer none,.slice none 0 0] 77 (0,0))]++L)):WP Tryz.prog 20 (zf Tryz.f76) (yu Tryz.prog [] fun v' w'=>v'=.tuple #[]∧∃E',BE p 77 5 ([]) E'∧St w0.heap.size w0 w' (E'++L)) (ini #[.pointer (some ⟨p,0,none⟩)]) w:=by
 refine zg [0,1,2,3,4] kr kr<|zd (some 2) (.pointer (some ⟨p,0,none⟩)) (fun w=>by kernel_rfl) kr<|zd (some 3) (.pointer (some ⟨p,0,none⟩)) (fun w=>by kernel_rfl) kr<|zd (some 4) (.pointer (some ⟨p,0,none⟩)) (fun w=>by kernel_rfl) kr<|qK H0 (some 5) 74 (.tmp 4) 0 p 0 #[.pointer none,.slice none 0 0] 77 (0,0) (.pointer none) kr kr kr kr kr kr<|zd (some 6) (.bool true) (fun w=>by kernel_rfl) kr<|zb<|zj kr kr<|yo [0,1,2,3,4,5,6,7] kr<|zd (some 7) (.pointer (some ⟨p,0,none⟩)) (fun w=>by kernel_rfl) kr<|zd (some 8) (.pointer (some ⟨p,0,none⟩)) (fun w=>by kernel_rfl) kr<|zdx H0 (some 9) 74 153 77 (.tmp 8) 0 p #[.pointer none,.slice none 0 0] 77 kr kr kr kr kr kr kr (by show 0<2;omega)<|zd (some 10) (.pointer (some ⟨p,0,none⟩)) (fun w=>by kernel_rfl) kr<|zdy H0 (some 11) 153 74 77 (.tmp 10) 0 p #[.pointer none,.slice none 0 0] 77 kr kr kr kr kr kr kr kr<|zd (some 12) (.pointer (some ⟨p,0,none⟩)) (fun w=>by kernel_rfl) kr<|zd (some 13) (.pointer (some ⟨p,0,none⟩)) (fun w=>by kernel_rfl) kr<|yX H0 0 ([(p,Obj.cells #[.pointer (some ⟨p,0,none⟩),.slice none 0 0] 77 (0,0))]++L) 74 (.tmp 13) (.tmp 11) p (0) #[.pointer none,.slice none 0 0] #[.pointer (some ⟨p,0,none⟩),.slice none 0 0] 77 (.pointer (some ⟨p,0,none⟩)) kr kr kr kr kr kr (of_decide_eq_true kr) kr kr ?_;intro w1 H1;clear H0;refine zb<|wV ?_;exact ⟨[],.nil,rfl,_,(BE.nil (some ⟨p,0,none⟩) (Or.inr rfl)),H1⟩
theorem zh8 (p:Nat)(w0 w:World)(L:List (Nat×Obj))(H0:St w0.heap.size w0 w ([(p,Obj.cells #[.pointer (some ⟨p,0,none⟩),.slice none 0 0] 77 (0,0))]++L)):WP Tryz.prog 20 (zf Tryz.f76) (yu Tryz.prog [] fun v' w'=>v'=.tuple #[]∧∃E',BE p 77 5 ([]) E'∧St w0.heap.size w0 w' (E'++L)) (ini #[.pointer (some ⟨p,0,none⟩)]) w:=by
 refine zg [0,1,2,3,4] kr kr<|zd (some 2) (.pointer (some ⟨p,0,none⟩)) (fun w=>by kernel_rfl) kr<|zd (some 3) (.pointer (some ⟨p,0,none⟩)) (fun w=>by kernel_rfl) kr<|zd (some 4) (.pointer (some ⟨p,0,none⟩)) (fun w=>by kernel_rfl) kr<|qK H0 (some 5) 74 (.tmp 4) 0 p 0 #[.pointer (some ⟨p,0,none⟩),.slice none 0 0] 77 (0,0) (.pointer (some ⟨p,0,none⟩)) kr kr kr kr kr kr<|zd (some 6) (.bool false) (fun w=>by kernel_rfl) kr<|zb<|zl kr kr<|zg [0,1,2,3,4,5] kr kr<|zd (some 14) (.pointer (some ⟨p,0,none⟩)) (fun w=>by kernel_rfl) kr<|zd (some 15) (.pointer (some ⟨p,0,none⟩)) (fun w=>by kernel_rfl) kr<|zd (some 16) (.pointer (some ⟨p,0,none⟩)) (fun w=>by kernel_rfl) kr<|qK H0 (some 17) 74 (.tmp 16) 0 p 0 #[.pointer (some ⟨p,0,none⟩),.slice none 0 0] 77 (0,0) (.pointer (some ⟨p,0,none⟩)) kr kr kr kr kr kr<|zd (some 18) (.pointer (some ⟨p,0,none⟩)) (fun w=>by kernel_rfl) kr<|kN (some 19) _ (.bool false) kr kr (fun o w ho=>zdz (t:=74) (tp:=77) (t':=74) kr kr (x:=(.tmp 17)) (y:=(.tmp 18)) ⟨p,0,none⟩ ho kr kr w)<|zb<|zl kr kr<|zn kr<|wV ?_;exact ⟨[],.nil,rfl,_,(BE.nil (some ⟨p,0,none⟩) (Or.inr rfl)),H0⟩
theorem zh9 (p:Nat)(b n cap:Nat)(cur:Array Value)(out:List UInt8)(hn:n=out.length)(hr:Rw 1 cur cap n (cellsB out))(w0 w:World)(L:List (Nat×Obj))(H0:St w0.heap.size w0 w ([(b,Obj.cells cur 5 (0,0)),(p,Obj.cells #[.pointer none,.slice (some ⟨b,0,none⟩) n cap] 77 (0,0))]++L)):WP Tryz.prog 20 (zf Tryz.f76) (yu Tryz.prog [] fun v' w'=>v'=.tuple #[]∧∃E',BE p 77 5 out E'∧St w0.heap.size w0 w' (E'++L)) (ini #[.pointer (some ⟨p,0,none⟩)]) w:=by
 refine zg [0,1,2,3,4] kr kr<|zd (some 2) (.pointer (some ⟨p,0,none⟩)) (fun w=>by kernel_rfl) kr<|zd (some 3) (.pointer (some ⟨p,0,none⟩)) (fun w=>by kernel_rfl) kr<|zd (some 4) (.pointer (some ⟨p,0,none⟩)) (fun w=>by kernel_rfl) kr<|qK H0 (some 5) 74 (.tmp 4) 1 p 0 #[.pointer none,.slice (some ⟨b,0,none⟩) n cap] 77 (0,0) (.pointer none) kr kr kr kr kr kr<|zd (some 6) (.bool true) (fun w=>by kernel_rfl) kr<|zb<|zj kr kr<|yo [0,1,2,3,4,5,6,7] kr<|zd (some 7) (.pointer (some ⟨p,0,none⟩)) (fun w=>by kernel_rfl) kr<|zd (some 8) (.pointer (some ⟨p,0,none⟩)) (fun w=>by kernel_rfl) kr<|zdx H0 (some 9) 74 153 77 (.tmp 8) 1 p #[.pointer none,.slice (some ⟨b,0,none⟩) n cap] 77 kr kr kr kr kr kr kr (by show 0<2;omega)<|zd (some 10) (.pointer (some ⟨p,0,none⟩)) (fun w=>by kernel_rfl) kr<|zdy H0 (some 11) 153 74 77 (.tmp 10) 1 p #[.pointer none,.slice (some ⟨b,0,none⟩) n cap] 77 kr kr kr kr kr kr kr kr<|zd (some 12) (.pointer (some ⟨p,0,none⟩)) (fun w=>by kernel_rfl) kr<|zd (some 13) (.pointer (some ⟨p,0,none⟩)) (fun w=>by kernel_rfl) kr<|yX H0 1 ([(b,Obj.cells cur 5 (0,0)),(p,Obj.cells #[.pointer (some ⟨p,0,none⟩),.slice (some ⟨b,0,none⟩) n cap] 77 (0,0))]++L) 74 (.tmp 13) (.tmp 11) p (0) #[.pointer none,.slice (some ⟨b,0,none⟩) n cap] #[.pointer (some ⟨p,0,none⟩),.slice (some ⟨b,0,none⟩) n cap] 77 (.pointer (some ⟨p,0,none⟩)) kr kr kr kr kr kr (of_decide_eq_true kr) kr kr ?_;intro w1 H1;clear H0;refine zb<|wV ?_;exact ⟨[],.nil,rfl,_,(BE.row (some ⟨p,0,none⟩) b n cap cur out (Or.inr rfl) hn hr),H1⟩
theorem zia (p:Nat)(b n cap:Nat)(cur:Array Value)(out:List UInt8)(hn:n=out.length)(hr:Rw 1 cur cap n (cellsB out))(w0 w:World)(L:List (Nat×Obj))(H0:St w0.heap.size w0 w ([(b,Obj.cells cur 5 (0,0)),(p,Obj.cells #[.pointer (some ⟨p,0,none⟩),.slice (some ⟨b,0,none⟩) n cap] 77 (0,0))]++L)):WP Tryz.prog 20 (zf Tryz.f76) (yu Tryz.prog [] fun v' w'=>v'=.tuple #[]∧∃E',BE p 77 5 out E'∧St w0.heap.size w0 w' (E'++L)) (ini #[.pointer (some ⟨p,0,none⟩)]) w:=by
 refine zg [0,1,2,3,4] kr kr<|zd (some 2) (.pointer (some ⟨p,0,none⟩)) (fun w=>by kernel_rfl) kr<|zd (some 3) (.pointer (some ⟨p,0,none⟩)) (fun w=>by kernel_rfl) kr<|zd (some 4) (.pointer (some ⟨p,0,none⟩)) (fun w=>by kernel_rfl) kr<|qK H0 (some 5) 74 (.tmp 4) 1 p 0 #[.pointer (some ⟨p,0,none⟩),.slice (some ⟨b,0,none⟩) n cap] 77 (0,0) (.pointer (some ⟨p,0,none⟩)) kr kr kr kr kr kr<|zd (some 6) (.bool false) (fun w=>by kernel_rfl) kr<|zb<|zl kr kr<|zg [0,1,2,3,4,5] kr kr<|zd (some 14) (.pointer (some ⟨p,0,none⟩)) (fun w=>by kernel_rfl) kr<|zd (some 15) (.pointer (some ⟨p,0,none⟩)) (fun w=>by kernel_rfl) kr<|zd (some 16) (.pointer (some ⟨p,0,none⟩)) (fun w=>by kernel_rfl) kr<|qK H0 (some 17) 74 (.tmp 16) 1 p 0 #[.pointer (some ⟨p,0,none⟩),.slice (some ⟨b,0,none⟩) n cap] 77 (0,0) (.pointer (some ⟨p,0,none⟩)) kr kr kr kr kr kr<|zd (some 18) (.pointer (some ⟨p,0,none⟩)) (fun w=>by kernel_rfl) kr<|kN (some 19) _ (.bool false) kr kr (fun o w ho=>zdz (t:=74) (tp:=77) (t':=74) kr kr (x:=(.tmp 17)) (y:=(.tmp 18)) ⟨p,0,none⟩ ho kr kr w)<|zb<|zl kr kr<|zn kr<|wV ?_;exact ⟨[],.nil,rfl,_,(BE.row (some ⟨p,0,none⟩) b n cap cur out (Or.inr rfl) hn hr),H0⟩
theorem zib (p:Nat)(out:List UInt8):FnB Tryz.prog 76 #[.pointer (some ⟨p,0,none⟩)] (.tuple #[]) p 77 5 out out (fun _=>True):=
 FnB.intro (c:=zf Tryz.f76) [] 20 Tryz.func76 kr kr kr fun w0 w L E hE _ HS=>by
  rcases hE with ⟨a,rfl|rfl⟩|⟨a,b,n,cap,cur,_,rfl|rfl,hn,hr⟩
  ·exact zh7 p w0 w L HS
  ·exact zh8 p w0 w L HS
  ·exact zh9 p b n cap cur out hn hr w0 w L HS
  ·exact zia p b n cap cur out hn hr w0 w L HS
theorem zbm (p:Nat)(out:List UInt8)(s:ByteArray)(h0:0<s.size∨out≠[])(hm:out.length+s.size≤0x800000000000):FnB Tryz.prog 57 #[.pointer (some ⟨p,0,none⟩),.string s] (.tuple #[.int .i64 (ByteArray.size s:Int),.nilIface]) p 77 5 out (out++tl s) (fun _=>True):=by
 refine FnB.intro (c:=zf Tryz.f57) [.tmp 4,.tmp 5] 19 Tryz.func57 kr kr kr fun w0 w L E hE _ HS=>?_;have H0:St w0.heap.size w0 w (L++E):=HS.perm List.perm_append_comm;refine zg [0,1] kr kr<|zd (some 4) (.int .i64 0) (fun w=>by kernel_rfl) kr<|zd (some 5) (.nilIface) (fun w=>by kernel_rfl) kr<|zb<|zg [0,1] kr kr<|zd (some 6) (.pointer (some ⟨p,0,none⟩)) (fun w=>by kernel_rfl) kr<|zbi (l:=L) H0 hE (some 7) 76 #[.pointer (some ⟨p,0,none⟩)] (.tuple #[]) out (fun _=>True) (zib p out) trivial kr kr ?_;intro E1 w1 hE1 H1;clear H0;rcases hE1 with ⟨a,ha⟩ | ⟨a,b,n,cap,cur,_,ha,hn,hr⟩
 ·have h0':0<ByteArray.size s:=h0.resolve_right (fun h=>h rfl);simp only [List.length_nil] at hm;have HP:St w0.heap.size w0 w1 ([(p,Obj.cells #[.pointer a,.slice none 0 0] 77 (0,0))]++L):=H1.perm List.perm_append_comm;refine zb<|zg [0,1,2,3,4,5,6,7,8,9] kr kr<|zd (some 8) (.pointer (some ⟨p,0,none⟩)) (fun w=>by kernel_rfl) kr<|zd (some 9) (.pointer (some ⟨p,0,none⟩)) (fun w=>by kernel_rfl) kr<|zd (some 10) (.pointer (some ⟨p,0,none⟩)) (fun w=>by kernel_rfl) kr<|zd (some 11) (.pointer (some ⟨p,1,none⟩)) (fun w=>by kernel_rfl) kr<|qK HP (some 12) 75 (.tmp 11) 0 p 1 #[.pointer a,.slice none 0 0] 77 (0,0) (.slice none 0 0) kr kr kr kr kr kr<|zd (some 13) (.string s) (fun w=>by kernel_rfl) kr<|zh0 HP (some 14) 75 9 5 (.tmp 12) (.tmp 13) s kr kr kr kr kr kr (by omega) (by omega) ?_;intro b_1 cap_2 cur_3 w2 H2 hr_4;clear HP;refine zd (some 15) (.pointer (some ⟨p,0,none⟩)) (fun w=>by kernel_rfl) kr<|zd (some 16) (.pointer (some ⟨p,1,none⟩)) (fun w=>by kernel_rfl) kr<|yX H2 1 ([(b_1,Obj.cells cur_3 5 (0,0)),(p,Obj.cells #[.pointer a,.slice (some ⟨b_1,0,none⟩) (ByteArray.size s) cap_2] 77 (0,0))]++L) 75 (.tmp 16) (.tmp 14) p (1) #[.pointer a,.slice none 0 0] #[.pointer a,.slice (some ⟨b_1,0,none⟩) (ByteArray.size s) cap_2] 77 (.slice (some ⟨b_1,0,none⟩) (ByteArray.size s) cap_2) kr kr kr kr kr kr (of_decide_eq_true kr) kr kr ?_;intro w3 H3;clear H2;refine zb<|zg [0,1,2,3] kr kr<|zd (some 17) (.string s) (fun w=>by kernel_rfl) kr<|zd (some 18) (.int .i64 (ByteArray.size s:Int)) (fun w=>by kernel_rfl) kr<|zd (some 4) (.int .i64 (ByteArray.size s:Int)) (fun w=>by kernel_rfl) kr<|zd (some 5) (.nilIface) (fun w=>by kernel_rfl) kr<|zb<|zk kr<|wV ?_;exact ⟨[.int .i64 (ByteArray.size s:Int),.nilIface],(.tmp (.int .i64 (ByteArray.size s:Int)) kr (.tmp (.nilIface) kr .nil)),rfl,_,(BE.row a b_1 (ByteArray.size s) cap_2 cur_3 (tl s) ha rfl hr_4),H3⟩
 ·have HP:St w0.heap.size w0 w1 ([(b,Obj.cells cur 5 (0,0)),(p,Obj.cells #[.pointer a,.slice (some ⟨b,0,none⟩) n cap] 77 (0,0))]++L):=H1.perm List.perm_append_comm;refine zb<|zg [0,1,2,3,4,5,6,7,8,9] kr kr<|zd (some 8) (.pointer (some ⟨p,0,none⟩)) (fun w=>by kernel_rfl) kr<|zd (some 9) (.pointer (some ⟨p,0,none⟩)) (fun w=>by kernel_rfl) kr<|zd (some 10) (.pointer (some ⟨p,0,none⟩)) (fun w=>by kernel_rfl) kr<|zd (some 11) (.pointer (some ⟨p,1,none⟩)) (fun w=>by kernel_rfl) kr<|qK HP (some 12) 75 (.tmp 11) 1 p 1 #[.pointer a,.slice (some ⟨b,0,none⟩) n cap] 77 (0,0) (.slice (some ⟨b,0,none⟩) n cap) kr kr kr kr kr kr<|zd (some 13) (.string s) (fun w=>by kernel_rfl) kr<|zhZ HP (some 14) 75 9 5 (.tmp 12) (.tmp 13) 0 b n cap cur out s (fun b_5 cur_7=>([(b_5,Obj.cells cur_7 5 (0,0)),(p,Obj.cells #[.pointer a,.slice (some ⟨b,0,none⟩) n cap] 77 (0,0))]++L)) kr kr kr kr kr kr hr kr (by omega) (fun _ _=>by kernel_rfl) ?_;intro b_5 cap_6 cur_7 w4 H4 hr_8;clear HP;refine zd (some 15) (.pointer (some ⟨p,0,none⟩)) (fun w=>by kernel_rfl) kr<|zd (some 16) (.pointer (some ⟨p,1,none⟩)) (fun w=>by kernel_rfl) kr<|yX H4 1 ([(b_5,Obj.cells cur_7 5 (0,0)),(p,Obj.cells #[.pointer a,.slice (some ⟨b_5,0,none⟩) (n+ByteArray.size s) cap_6] 77 (0,0))]++L) 75 (.tmp 16) (.tmp 14) p (1) #[.pointer a,.slice (some ⟨b,0,none⟩) n cap] #[.pointer a,.slice (some ⟨b_5,0,none⟩) (n+ByteArray.size s) cap_6] 77 (.slice (some ⟨b_5,0,none⟩) (n+ByteArray.size s) cap_6) kr kr kr kr kr kr (of_decide_eq_true kr) kr kr ?_;intro w5 H5;clear H4;refine zb<|zg [0,1,2,3] kr kr<|zd (some 17) (.string s) (fun w=>by kernel_rfl) kr<|zd (some 18) (.int .i64 (ByteArray.size s:Int)) (fun w=>by kernel_rfl) kr<|zd (some 4) (.int .i64 (ByteArray.size s:Int)) (fun w=>by kernel_rfl) kr<|zd (some 5) (.nilIface) (fun w=>by kernel_rfl) kr<|zb<|zk kr<|wV ?_;exact ⟨[.int .i64 (ByteArray.size s:Int),.nilIface],(.tmp (.int .i64 (ByteArray.size s:Int)) kr (.tmp (.nilIface) kr .nil)),rfl,_,(BE.row a b_5 (n+ByteArray.size s) cap_6 cur_7 (out++tl s) ha (by rw [List.length_append,zt,hn]) hr_8),H5⟩
theorem zic (pb m:Nat)(ih: ∀(out:List UInt8) (l:Bool) (s:ByteArray) (p:Option Addr) (n c:Nat) (k:Fo),s.size≤0x800000000000→List.length out+9+ByteArray.size s+wtF k≤0x800000000000→k.cnt<m→xt Tryz.prog 36 #[.pointer (some ⟨pb,0,none⟩),.agg #[.bool l,.string s,.slice p n c]] (.tuple #[]) pb 77 5 out (out++wr1 l s (szF k) (wrF k)) (fun w=>zr w.heap.size w p n k))(out:List UInt8)(l:Bool)(s:ByteArray)(p:Option Addr)(n c:Nat)(k:Fo)(hs:s.size≤0x800000000000)(hw:List.length out+9+ByteArray.size s+wtF k≤0x800000000000)(hkm:k.cnt<m+1):xt Tryz.prog 36 #[.pointer (some ⟨pb,0,none⟩),.agg #[.bool l,.string s,.slice p n c]] (.tuple #[]) pb 77 5 out (out++wr1 l s (szF k) (wrF k)) (fun w=>zr w.heap.size w p n k):=by
 refine xt.intro (c:=zf Tryz.f36) [] 31 Tryz.func36 kr kr kr fun w0 w E0 hE0 hpre H0=>?_;have hn:=hpre.1;have hnm:=hpre.2.1;refine zg [0] kr kr<|jw H0 (some 3) 46 (.tmp 1) (.agg #[.bool l,.string s,.slice p n c]) kr kr kr ?_;intro b1 w1 H1;clear H0;refine zb<|zc kr<|zg [0,1,2,3] kr kr<|zd (some 6) (.pointer (some ⟨b1,1,none⟩)) (fun w=>by kernel_rfl) kr<|qK H1 (some 7) 9 (.tmp 6) 0 b1 1 #[.bool l,.string s,.slice p n c] 46 (0,0) (.string s) kr kr kr kr kr kr<|jJ H1 (some 8) 54 #[.string s] (.bool (zR s)) (uC s) (fun w=>by kernel_rfl) kr ?_;intro w2 H2;clear H1;cases hq1:zR s
 ·refine zd (some 9) (.bool true) (fun w=>by kernel_rfl) kr<|zb<|zj kr kr ?_;have hsl:=xp k;have hhl:=xn (frm l) (ByteArray.size s+szF k);refine D2.g_draw0 [0,1,2,3,4,5] [(some 10,fun _=>.pointer (some ⟨pb,0,none⟩)),(some 11,fun _=>.agg #[.bool l,.string s,.slice p n c]),(some 12,fun _=>.agg #[.bool l,.string s,.slice p n c]),(some 13,fun _=>.int .u64 ((ByteArray.size s+szF k:Nat):Int)),(some 14,fun _=>.string (zh (hd (frm l) (ByteArray.size s+szF k)))),(some 15,fun _=>.tuple #[.int .i64 (ByteArray.size (zh (hd (frm l) (ByteArray.size s+szF k))):Int),.nilIface])] (yR w0 pb 77 5 (out++tl (zh (hd (frm l) (ByteArray.size s+szF k)))) (b1,Obj.cells #[.bool l,.string s,.slice p n c] 46 (0,0)) E0 5) kr kr kr H2.drew ⟨?_,?_,?_,?_,?_,?_,trivial⟩ ?_
  ·exact zh1 rfl (fun g w=>by kernel_rfl)
  ·exact zdB (C:=#[.bool l,.string s,.slice p n c]) (T':=46) (t:=46) (x:=(.tmp 3)) rfl (fun g=>by kernel_rfl) (fun g=>by kernel_rfl) rfl kr
  ·exact zdB (C:=#[.bool l,.string s,.slice p n c]) (T':=46) (t:=46) (x:=(.tmp 3)) rfl (fun g=>by kernel_rfl) (fun g=>by kernel_rfl) rfl kr
  ·exact zdC (f:=55) (args:=#[.agg #[.bool l,.string s,.slice p n c]]) rfl (zhY l s p n c k hs (by omega)) (fun w hb=>zr.call hpre hb) (fun g w=>by kernel_rfl)
  ·exact zh2 (f:=56) (args:=#[.agg #[.bool l,.string s,.slice p n c],.int .u64 ((ByteArray.size s+szF k:Nat):Int)]) rfl (zdt l s p n c (ByteArray.size s+szF k) (by omega)) (fun g w=>by kernel_rfl)
  ·exact zh3 (f:=57) (args:=#[.pointer (some ⟨pb,0,none⟩),.string (zh (hd (frm l) (ByteArray.size s+szF k)))]) rfl hE0 (zbm pb out (zh (hd (frm l) (ByteArray.size s+szF k))) (Or.inl (by rw [qd];exact hhl.1)) (by rw [qd];omega)) (fun g w=>by kernel_rfl)
  intro L0 G0 w3 hall HL;clear H2;obtain ⟨E1,hE1,H3⟩:=HL.done (hall 5 (Nat.le_of_ble_eq_true kr));refine wW<|zg [0,1,2,3] kr kr ?_;have hl0:(out++tl (zh (hd (frm l) (ByteArray.size s+szF k)))).length=out.length+(hd (frm l) (ByteArray.size s+szF k)).length:=by rw [List.length_append,qW]
  have hw1:out++wr1 l s (szF k) (wrF k)=(out++tl (zh (hd (frm l) (ByteArray.size s+szF k)))++tl s)++wrF k:=by unfold wr1;rw [if_neg (by rw [hq1];decide),qW];simp only [List.append_assoc]
  have hl1:(out++tl (zh (hd (frm l) (ByteArray.size s+szF k)))++tl s).length=out.length+(hd (frm l) (ByteArray.size s+szF k)).length+ByteArray.size s:=by rw [List.length_append,hl0,zt]
  refine zd (some 16) (.pointer (some ⟨pb,0,none⟩)) (fun w=>by kernel_rfl) kr<|zd (some 17) (.pointer (some ⟨b1,1,none⟩)) (fun w=>by kernel_rfl) kr<|qK H3 (some 18) 9 (.tmp 17) 0 b1 1 #[.bool l,.string s,.slice p n c] 46 (0,0) (.string s) kr kr kr kr kr kr<|zbi (l:=[(b1,Obj.cells #[.bool l,.string s,.slice p n c] 46 (0,0))]) H3 hE1 (some 19) 57 #[.pointer (some ⟨pb,0,none⟩),.string s] (.tuple #[.int .i64 (ByteArray.size s:Int),.nilIface]) ((out++tl (zh (hd (frm l) (ByteArray.size s+szF k))))++tl s) (fun _=>True) (zbm pb (out++tl (zh (hd (frm l) (ByteArray.size s+szF k)))) s (Or.inr (by intro q;have h9:=congrArg List.length q;rw [hl0] at h9;simp only [List.length_nil] at h9;omega)) (by rw [hl0];omega)) trivial kr kr ?_;intro E2 w4 hE2 H4;clear H3;refine zb<|zg [0,1,2,3] kr kr<|zd (some 20) (.pointer (some ⟨b1,2,none⟩)) (fun w=>by kernel_rfl) kr<|qK H4 (some 21) 43 (.tmp 20) 0 b1 2 #[.bool l,.string s,.slice p n c] 46 (0,0) (.slice p n c) kr kr kr kr kr kr<|zd (some 22) (.int .i64 (n:Int)) (fun w=>by kernel_rfl) kr<|zd (some 23) (.int .i64 0) (fun w=>by kernel_rfl) kr<|zb<|zz 0 kr ?_;have HD1:St w0.heap.size w0 w4 ([]++E2):=H4.sub (List.Sublist.cons _ (List.Sublist.refl E2));refine yW kr (fun mz ρ ww=> ∃(i:Nat) (r:Fo) (o:List UInt8) (Ez:List (Nat×Obj)),n-i=mz∧(FoR w0.heap.size w0 p i r)∧(i+Fo.len r=n)∧(Fo.cnt r≤Fo.cnt k)∧(List.length o+wtF r≤0x800000000000)∧(out++wr1 l s (szF k) (wrF k)=o++wrF r)∧(BE pb 77 5 o Ez)∧St w0.heap.size w0 ww ([]++Ez)∧Is [(0,.pointer (some ⟨pb,0,none⟩)),(1,.agg #[.bool l,.string s,.slice p n c]),(3,.pointer (some ⟨b1,0,none⟩)),(9,.bool true),(21,.slice p n c),(22,.int .i64 (n:Int)),(23,.int .i64 (i:Int))] ρ) (n-0) ⟨0,k,((out++tl (zh (hd (frm l) (ByteArray.size s+szF k))))++tl s),E2,rfl,(zr.start hpre),(by have hn0:=(hpre).1;omega),(Nat.le_refl _),(by rw [hl1];omega),hw1,hE2,HD1,(Is.of ⟨kr,kr,kr,kr,kr,kr,kr,trivial⟩)⟩ ?_;clear HD1;rintro _ _ w5 ⟨i,r,o,Ez,rfl,hR,hN,hcn,hwt,hout,hEz,H5,_,rfl⟩;refine zg [0] kr kr ?_;by_cases hc2:(i:Nat)<n
  ·refine qg (some 24) (.bool (decide ((i:Int)<(n:Int)))) (.bool true) (fun w=>by kernel_rfl) (za (decide_eq_true (by omega))) kr<|zb<|zc kr<|zj kr kr<|zn kr<|wW<|zc kr<|zz 1 kr<|zg [0,1,2,3] kr kr ?_;obtain ⟨l1,s1,k1,r1,b1,off1,C1,T1,fz1,p1,n1,c1,hr1,hp1,hb1,hh1,hs1,hx1,hz1,hk1,hR1,hN1⟩:=FoR.open hR hN (by omega);refine kN (some 25) _ (.pointer (some ⟨b1,off1+i*3,none⟩)) kr kr (fun o w ho=>vu (kd:=.i64) (t:=43) (e:=46) (bytes:=48) kr (x:=(.tmp 21)) (y:=(.tmp 23)) b1 off1 n c i hp1 ho kr kr (by omega) w)<|zcs H5 (some 26) 46 (.tmp 25) b1 (off1+i*3) 3 C1 #[.bool l1,.string s1,.slice p1 n1 c1] T1 fz1 kr kr kr hh1 hb1 kr hs1 hx1<|zE H5 (some 5) 46 (.agg #[.bool false,.string (⟨#[]⟩),.slice none 0 0]) kr kr kr ?_;intro b2 w6 H6;clear H5;refine yX H6 0 ([(b2,Obj.cells #[.bool l1,.string s1,.slice p1 n1 c1] 46 (0,0))]++Ez) 46 (.tmp 5) (.tmp 26) b2 (0) (#[.bool false,.string (⟨#[]⟩),.slice none 0 0]) #[.bool l1,.string s1,.slice p1 n1 c1] 46 (.agg #[.bool l1,.string s1,.slice p1 n1 c1]) kr kr kr kr kr kr (of_decide_eq_true kr) kr kr ?_;intro w7 H7;clear H6;refine zb<|yo [0,1,2] kr ?_;have hcn1:=hcn;rw [hr1] at hcn1;simp only [Fo.cnt] at hcn1;have hwt1:=hwt;rw [hr1] at hwt1;simp only [wtF] at hwt1;have hwl1:(wr1 l1 s1 (szF k1) (wrF k1)).length≤9+ByteArray.size s1+wtF k1:=by have h9:=uz (.cons l1 s1 k1 .nil);simp only [wrF,wtF,List.append_nil,Nat.add_zero] at h9;exact h9
   refine zd (some 27) (.pointer (some ⟨pb,0,none⟩)) (fun w=>by kernel_rfl) kr<|yw H7 (some 28) 46 (.tmp 5) 0 b2 #[.bool l1,.string s1,.slice p1 n1 c1] 46 (0,0) kr kr kr kr kr ?_;have HD3:St w0.heap.size w0 w7 ([]++Ez):=H7.sub (List.Sublist.cons _ (List.Sublist.refl Ez));refine zbj HD3 hEz (some 29) 36 #[.pointer (some ⟨pb,0,none⟩),.agg #[.bool l1,.string s1,.slice p1 n1 c1]] (.tuple #[]) (o++wr1 l1 s1 (szF k1) (wrF k1)) (fun w=>zr w.heap.size w p1 n1 k1) (ih o l1 s1 p1 n1 c1 k1 hz1 (by omega) (by omega)) hk1 kr kr ?_;intro E3 w8 hE3 H8;clear HD3;refine zb<|wW<|yo [0,1] kr<|qg (some 30) (.int .i64 (IntKind.i64.wrap ((i:Int)+1))) (.int .i64 ((i+1:Nat):Int)) (fun w=>by kernel_rfl) (zo (qc (a:=i) (b:=1) (by omega))) kr<|zd (some 23) (.int .i64 ((i+1:Nat):Int)) (fun w=>by kernel_rfl) kr<|zb ?_;show ∃m,_∧_;exact ⟨_,(by omega),(i+1),r1,(o++wr1 l1 s1 (szF k1) (wrF k1)),E3,rfl,hR1,hN1,(by omega),(by rw [List.length_append];omega),(by rw [hout,hr1];simp only [wrF,List.append_assoc]),hE3,H8,(Is.of ⟨kr,kr,kr,kr,kr,kr,kr,trivial⟩)⟩
  ·refine qg (some 24) (.bool (decide ((i:Int)<(n:Int)))) (.bool false) (fun w=>by kernel_rfl) (za (decide_eq_false (by omega))) kr<|zb<|zc kr<|zl kr kr<|yv 0 kr<|wV ?_;have hdn:=FoR.done hN (by omega);rw [hdn] at hout;exact ⟨[],.nil,rfl,_,(by rw [hout,show wrF Fo.nil=[] from rfl,List.append_nil];exact hEz),H5⟩
 ·refine zd (some 9) (.bool false) (fun w=>by kernel_rfl) kr<|zb<|zl kr kr<|zn kr<|wW<|zg [0,1,2,3] kr kr ?_;have hsz1:=qY hq1;have hw1:out++wr1 l s (szF k) (wrF k)=(out++tl s)++wrF k:=by unfold wr1;rw [if_pos hq1,List.nil_append,List.append_assoc]
  have hl1:(out++tl s).length=out.length+ByteArray.size s:=by rw [List.length_append,zt]
  refine zd (some 16) (.pointer (some ⟨pb,0,none⟩)) (fun w=>by kernel_rfl) kr<|zd (some 17) (.pointer (some ⟨b1,1,none⟩)) (fun w=>by kernel_rfl) kr<|qK H2 (some 18) 9 (.tmp 17) 0 b1 1 #[.bool l,.string s,.slice p n c] 46 (0,0) (.string s) kr kr kr kr kr kr<|zbi (l:=[(b1,Obj.cells #[.bool l,.string s,.slice p n c] 46 (0,0))]) H2 hE0 (some 19) 57 #[.pointer (some ⟨pb,0,none⟩),.string s] (.tuple #[.int .i64 (ByteArray.size s:Int),.nilIface]) (out++tl s) (fun _=>True) (zbm pb out s (Or.inl (by omega)) (by omega)) trivial kr kr ?_;intro E4 w9 hE4 H9;clear H2;refine zb<|zg [0,1,2,3] kr kr<|zd (some 20) (.pointer (some ⟨b1,2,none⟩)) (fun w=>by kernel_rfl) kr<|qK H9 (some 21) 43 (.tmp 20) 0 b1 2 #[.bool l,.string s,.slice p n c] 46 (0,0) (.slice p n c) kr kr kr kr kr kr<|zd (some 22) (.int .i64 (n:Int)) (fun w=>by kernel_rfl) kr<|zd (some 23) (.int .i64 0) (fun w=>by kernel_rfl) kr<|zb<|zz 0 kr ?_;have HD4:St w0.heap.size w0 w9 ([]++E4):=H9.sub (List.Sublist.cons _ (List.Sublist.refl E4));refine yW kr (fun mz ρ ww=> ∃(i:Nat) (r:Fo) (o:List UInt8) (Ez:List (Nat×Obj)),n-i=mz∧(FoR w0.heap.size w0 p i r)∧(i+Fo.len r=n)∧(Fo.cnt r≤Fo.cnt k)∧(List.length o+wtF r≤0x800000000000)∧(out++wr1 l s (szF k) (wrF k)=o++wrF r)∧(BE pb 77 5 o Ez)∧St w0.heap.size w0 ww ([]++Ez)∧Is [(0,.pointer (some ⟨pb,0,none⟩)),(1,.agg #[.bool l,.string s,.slice p n c]),(3,.pointer (some ⟨b1,0,none⟩)),(9,.bool false),(21,.slice p n c),(22,.int .i64 (n:Int)),(23,.int .i64 (i:Int))] ρ) (n-0) ⟨0,k,(out++tl s),E4,rfl,(zr.start hpre),(by have hn0:=(hpre).1;omega),(Nat.le_refl _),(by rw [hl1];omega),hw1,hE4,HD4,(Is.of ⟨kr,kr,kr,kr,kr,kr,kr,trivial⟩)⟩ ?_;clear HD4;rintro _ _ w10 ⟨i,r,o,Ez,rfl,hR,hN,hcn,hwt,hout,hEz,H10,_,rfl⟩;refine zg [0] kr kr ?_;by_cases hc5:(i:Nat)<n
  ·refine qg (some 24) (.bool (decide ((i:Int)<(n:Int)))) (.bool true) (fun w=>by kernel_rfl) (za (decide_eq_true (by omega))) kr<|zb<|zc kr<|zj kr kr<|zn kr<|wW<|zc kr<|zz 1 kr<|zg [0,1,2,3] kr kr ?_;obtain ⟨l2,s2,k2,r2,b2,off2,C2,T2,fz2,p2,n2,c2,hr2,hp2,hb2,hh2,hs2,hx2,hz2,hk2,hR2,hN2⟩:=FoR.open hR hN (by omega);refine kN (some 25) _ (.pointer (some ⟨b2,off2+i*3,none⟩)) kr kr (fun o w ho=>vu (kd:=.i64) (t:=43) (e:=46) (bytes:=48) kr (x:=(.tmp 21)) (y:=(.tmp 23)) b2 off2 n c i hp2 ho kr kr (by omega) w)<|zcs H10 (some 26) 46 (.tmp 25) b2 (off2+i*3) 3 C2 #[.bool l2,.string s2,.slice p2 n2 c2] T2 fz2 kr kr kr hh2 hb2 kr hs2 hx2<|zE H10 (some 5) 46 (.agg #[.bool false,.string (⟨#[]⟩),.slice none 0 0]) kr kr kr ?_;intro b3 w11 H11;clear H10;refine yX H11 0 ([(b3,Obj.cells #[.bool l2,.string s2,.slice p2 n2 c2] 46 (0,0))]++Ez) 46 (.tmp 5) (.tmp 26) b3 (0) (#[.bool false,.string (⟨#[]⟩),.slice none 0 0]) #[.bool l2,.string s2,.slice p2 n2 c2] 46 (.agg #[.bool l2,.string s2,.slice p2 n2 c2]) kr kr kr kr kr kr (of_decide_eq_true kr) kr kr ?_;intro w12 H12;clear H11;refine zb<|yo [0,1,2] kr ?_;have hcn2:=hcn;rw [hr2] at hcn2;simp only [Fo.cnt] at hcn2;have hwt2:=hwt;rw [hr2] at hwt2;simp only [wtF] at hwt2;have hwl2:(wr1 l2 s2 (szF k2) (wrF k2)).length≤9+ByteArray.size s2+wtF k2:=by have h9:=uz (.cons l2 s2 k2 .nil);simp only [wrF,wtF,List.append_nil,Nat.add_zero] at h9;exact h9
   refine zd (some 27) (.pointer (some ⟨pb,0,none⟩)) (fun w=>by kernel_rfl) kr<|yw H12 (some 28) 46 (.tmp 5) 0 b3 #[.bool l2,.string s2,.slice p2 n2 c2] 46 (0,0) kr kr kr kr kr ?_;have HD6:St w0.heap.size w0 w12 ([]++Ez):=H12.sub (List.Sublist.cons _ (List.Sublist.refl Ez));refine zbj HD6 hEz (some 29) 36 #[.pointer (some ⟨pb,0,none⟩),.agg #[.bool l2,.string s2,.slice p2 n2 c2]] (.tuple #[]) (o++wr1 l2 s2 (szF k2) (wrF k2)) (fun w=>zr w.heap.size w p2 n2 k2) (ih o l2 s2 p2 n2 c2 k2 hz2 (by omega) (by omega)) hk2 kr kr ?_;intro E5 w13 hE5 H13;clear HD6;refine zb<|wW<|yo [0,1] kr<|qg (some 30) (.int .i64 (IntKind.i64.wrap ((i:Int)+1))) (.int .i64 ((i+1:Nat):Int)) (fun w=>by kernel_rfl) (zo (qc (a:=i) (b:=1) (by omega))) kr<|zd (some 23) (.int .i64 ((i+1:Nat):Int)) (fun w=>by kernel_rfl) kr<|zb ?_;show ∃m,_∧_;exact ⟨_,(by omega),(i+1),r2,(o++wr1 l2 s2 (szF k2) (wrF k2)),E5,rfl,hR2,hN2,(by omega),(by rw [List.length_append];omega),(by rw [hout,hr2];simp only [wrF,List.append_assoc]),hE5,H13,(Is.of ⟨kr,kr,kr,kr,kr,kr,kr,trivial⟩)⟩
  ·refine qg (some 24) (.bool (decide ((i:Int)<(n:Int)))) (.bool false) (fun w=>by kernel_rfl) (za (decide_eq_false (by omega))) kr<|zb<|zc kr<|zl kr kr<|yv 0 kr<|wV ?_;have hdn:=FoR.done hN (by omega);rw [hdn] at hout;exact ⟨[],.nil,rfl,_,(by rw [hout,show wrF Fo.nil=[] from rfl,List.append_nil];exact hEz),H10⟩
theorem zid (pb:Nat)(out:List UInt8)(l:Bool)(s:ByteArray)(p:Option Addr)(n c:Nat)(k:Fo)(hs:s.size≤0x800000000000)(hw:List.length out+9+ByteArray.size s+wtF k≤0x800000000000):xt Tryz.prog 36 #[.pointer (some ⟨pb,0,none⟩),.agg #[.bool l,.string s,.slice p n c]] (.tuple #[]) pb 77 5 out (out++wr1 l s (szF k) (wrF k)) (fun w=>zr w.heap.size w p n k):=by
 have key: ∀(m:Nat) (out:List UInt8) (l:Bool) (s:ByteArray) (p:Option Addr) (n c:Nat) (k:Fo),s.size≤0x800000000000→List.length out+9+ByteArray.size s+wtF k≤0x800000000000→k.cnt<m→xt Tryz.prog 36 #[.pointer (some ⟨pb,0,none⟩),.agg #[.bool l,.string s,.slice p n c]] (.tuple #[]) pb 77 5 out (out++wr1 l s (szF k) (wrF k)) (fun w=>zr w.heap.size w p n k):=by
  intro m
  induction m with
  | zero=>intros;omega
  | succ m ih=>intro out l s p n c k hs hw hkm;exact zic pb m ih out l s p n c k hs hw hkm
 exact key (k.cnt+1) out l s p n c k hs hw (by omega)
def FnO (P:Program)(f:Nat)(args:Array Value)(v:Value)(p:Nat)(T e:TypeId)(out:List UInt8):Prop:=
 ∀(w0 w:World) (E:List (Nat×Obj)),BE p T e out E→St w0.heap.size w0 w E→Calls P f args w fun r w'=>r=.returned v∧St w0.heap.size w0 w' []
theorem zie {P:Program}{N:Nat}{ops:Array Oper}{i:Nat}{r:List Nat}{K:Env→World→Prop}{ρ:Env}{w:World}{w0:World}{E:List (Nat×Obj)}(HS:St w0.heap.size w0 w E){p:Nat}{T e:TypeId}{out:List UInt8}(hE:BE p T e out E)(d:Option Nat)(f:Nat)(args:Array Value)(v:Value)(hc:FnO P f args v p T e out)
 (h:opv P ops i ρ w=some (d,true,.ok (.enter f args) w)) (hd:dOK d N=true) (kk: ∀w',St w0.heap.size w0 w' []→WPs P N ops K r (zm ρ d v) w'):WPs P N ops K (i::r) ρ w:=by
 obtain ⟨o,ho,rfl,hw,hr⟩:=zO h;refine WPo.run ho hw fun a ha=>?_;rw [hr,Oper.upon_enter];refine (hc w0 w E hE HS).mono ?_;rintro _ w' ⟨rfl,hS⟩;exact ⟨_,ha.put _ (zN hd) v,kk w' hS⟩
theorem zif (pb b n cap:Nat)(cur:Array Value)(out:List UInt8)(a:Option Addr)(hn:n=out.length)(hr:Rw 1 cur cap n (cellsB out))(h0:0<n)(hm:n≤0x800000000000)(hcap:cap≠0)(w0 w:World)(H0:St w0.heap.size w0 w [(b,Obj.cells cur 5 (0,0)),(pb,Obj.cells #[.pointer a,.slice (some ⟨b,0,none⟩) n cap] 77 (0,0))]):WP Tryz.prog 14 (zf Tryz.f37) (yu Tryz.prog [.tmp 2] fun v' w'=>v'=.string (zh out)∧St w0.heap.size w0 w' []) (ini #[.pointer (some ⟨pb,0,none⟩)]) w:=by
 refine zg [0] kr kr<|zd (some 2) (.string (⟨#[]⟩)) (fun w=>by kernel_rfl) kr<|zb<|D2.g_sdraw [0,1,2,3,4,5,6,7,8,9,10,11] [(some 3,fun _=>.pointer (some ⟨pb,0,none⟩)),(some 4,fun _=>.pointer (some ⟨pb,0,none⟩)),(some 5,fun _=>.pointer (some ⟨pb,1,none⟩)),(some 6,fun _=>.slice (some ⟨b,0,none⟩) n cap),(some 7,fun _=>.pointer (some ⟨b,0,none⟩)),(some 8,fun _=>.pointer (some ⟨pb,0,none⟩)),(some 9,fun _=>.pointer (some ⟨pb,0,none⟩)),(some 10,fun _=>.pointer (some ⟨pb,1,none⟩)),(some 11,fun _=>.slice (some ⟨b,0,none⟩) n cap),(some 12,fun _=>.int .i64 (n:Int)),(some 13,fun _=>.string (zh out)),(some 2,fun _=>.string (zh out))] (qZ w0 [(b,Obj.cells cur 5 (0,0)),(pb,Obj.cells #[.pointer a,.slice (some ⟨b,0,none⟩) n cap] 77 (0,0))] 10) kr kr kr kr H0.drew ⟨?_,?_,?_,?_,?_,?_,?_,?_,?_,?_,?_,?_,trivial⟩ ?_
 ·exact xu rfl (fun g w=>by kernel_rfl)
 ·exact xu rfl (fun g w=>by kernel_rfl)
 ·exact xu rfl (fun g w=>by kernel_rfl)
 ·exact zbk rfl (fun L hN=>(hN.2.2.no 4 10 kr (hN.post 4 kr))) (.load 75 (.tmp 5)) (fun g=>by kernel_rfl) (fun g w o hS ho=>hS.load1_run (j:=1) (b:=pb) (off:=1) (C:=#[.pointer a,.slice (some ⟨b,0,none⟩) n cap]) (T:=77) kr kr kr kr o ho)
 ·exact zbk rfl (fun L hN=>(hN.post 10 kr)) (zbl 75 (.tmp 6)) (fun g=>by kernel_rfl) (fun g w o hS ho=>zh5 (a:=⟨b,0,none⟩) (n:=n) (c:=cap) kr (by omega) o ho)
 ·exact xu rfl (fun g w=>by kernel_rfl)
 ·exact xu rfl (fun g w=>by kernel_rfl)
 ·exact xu rfl (fun g w=>by kernel_rfl)
 ·exact zbk rfl (fun L hN=>(hN.2.2.no 9 10 kr (hN.post 9 kr))) (.load 75 (.tmp 10)) (fun g=>by kernel_rfl) (fun g w o hS ho=>hS.load1_run (j:=1) (b:=pb) (off:=1) (C:=#[.pointer a,.slice (some ⟨b,0,none⟩) n cap]) (T:=77) kr kr kr kr o ho)
 ·exact xu rfl (fun g w=>by kernel_rfl)
 ·exact zh4 rfl (vj 109 3 (.tmp 7) (.tmp 12)) (fun g=>by kernel_rfl) (fun g w o hS ho=>zh6 (j:=0) (b:=b) (n:=n) (cap:=cap) (C:=cur) (e:=5) hS kr kr kr kr kr hr (by omega) (by omega) o ho)
 ·exact xu rfl (fun g w=>by kernel_rfl)
 intro L0 G0 w1 hall HL;clear H0;have H1:St w0.heap.size w0 w1 []:=by unfold qZ at HL;rw [hall 10 (Nat.le_of_ble_eq_true kr)] at HL;exact HL
 refine zk kr<|wV ?_;exact ⟨[.string (zh out)],.tmp _ kr .nil,rfl,H1⟩
theorem zig (pb:Nat)(out:List UInt8)(h0:0<out.length)(hm:out.length≤0x800000000000):FnO Tryz.prog 37 #[.pointer (some ⟨pb,0,none⟩)] (.string (zh out)) pb 77 5 out:=fun w0 w E hE HS=>by
 rcases hE with ⟨a,ha⟩|⟨a,b,n,cap,cur,_,ha,hn,hr⟩
 ·simp at h0
 ·have h9:Calls Tryz.prog 37 #[.pointer (some ⟨pb,0,none⟩)] w fun r w'=> ∃v',r=.returned v'∧(v'=.string (zh out)∧St w0.heap.size w0 w' []):=
   jG (c:=zf Tryz.f37) (rs:=[.tmp 2]) (N:=14) Tryz.func37 kr kr kr (zif pb b n cap cur out a hn hr (by omega) (by omega) (by have:=hr.le;omega) w0 w HS)
  refine h9.mono ?_;rintro _ w' ⟨v',he,hv,hS⟩;exact ⟨by rw [he,hv],hS⟩
theorem zdD (l:Bool)(s:ByteArray)(p:Option Addr)(n c:Nat)(k:Fo)(hs:s.size≤0x800000000000):FnP Tryz.prog 20 #[.agg #[.bool l,.string s,.slice p n c]] (fun w=>zr w.heap.size w p n k) (jN (zG l s n k)):=by
 refine FnP.intro (c:=zf Tryz.f20) [.tmp 2,.tmp 3] 20 Tryz.func20 kr kr kr fun w hpre=>?_;have H0:=St.start w;have hn:=hpre.1;have hnm:=hpre.2.1;have hdl:=uA k;refine zg [0,1,2] kr kr<|jw H0 (some 1) 46 (.tmp 0) (.agg #[.bool l,.string s,.slice p n c]) kr kr kr ?_;intro b1 w1 H1;clear H0;refine zd (some 2) (.string (⟨#[]⟩)) (fun w=>by kernel_rfl) kr<|zd (some 3) (.int .i64 0) (fun w=>by kernel_rfl) kr<|zb<|zc kr<|zz 0 kr<|zg [0,1,2,3] kr kr<|yw H1 (some 6) 46 (.tmp 1) 0 b1 #[.bool l,.string s,.slice p n c] 46 (0,0) kr kr kr kr kr<|yC H1 (some 7) 34 #[.agg #[.bool l,.string s,.slice p n c],.int .i64 4000] (fun w=>zr w.heap.size w p n k) (.int .i64 (lfV (lf1 l s n (lfF k) 4000))) (zhT l s p n c k (by omega) 4000 (by omega)) (zr.call hpre H1.below) (fun w=>by kernel_rfl) kr ?_;intro w2 H2;clear H1;rcases zdm (lf1 l s n (lfF k) 4000) with hv1 | ⟨y,hv1⟩
 ·refine ya 7 (v:=.int .i64 (lfV (lf1 l s n (lfF k) 4000))) (v':=.int .i64 (-1)) (zo (by rw [hv1];rfl)) kr<|zd (some 8) (.bool true) (fun w=>by kernel_rfl) kr<|zd (some 5) (.bool true) (fun w=>by kernel_rfl) kr<|zb<|zj kr kr<|zg [0,1] kr kr<|zd (some 2) (.string (⟨#[]⟩)) (fun w=>by kernel_rfl) kr<|zd (some 3) (.int .i64 1) (fun w=>by kernel_rfl) kr<|zb<|zk kr<|wV ?_;exact ⟨[.string (⟨#[]⟩),.int .i64 1],(.tmp (.string (⟨#[]⟩)) kr (.tmp (.int .i64 1) kr .nil)),(zhM hv1).symm,H2.below⟩
 ·refine ya 7 (v:=.int .i64 (lfV (lf1 l s n (lfF k) 4000))) (v':=.int .i64 (y:Int)) (zo (by rw [hv1];rfl)) kr ?_;have hok:=zdq hv1;have hcn:k.cnt<4000:=hok.2.2;have hwt:=hpre.wt;refine qg (some 8) (.bool (decide ((y:Int)<0))) (.bool false) (fun w=>by kernel_rfl) (za (decide_eq_false (by omega))) kr<|zd (some 5) (.bool false) (fun w=>by kernel_rfl) kr<|zb<|zl kr kr<|zg [0,1,2,3] kr kr<|yw H2 (some 10) 46 (.tmp 1) 0 b1 #[.bool l,.string s,.slice p n c] 46 (0,0) kr kr kr kr kr<|yC H2 (some 11) 25 #[.agg #[.bool l,.string s,.slice p n c]] (fun w=>zr w.heap.size w p n k) (.int .i64 ((dp1 l (dpF k):Nat):Int)) (zbg l s p n c k (by omega) (by omega)) (zr.call hpre H2.below) (fun w=>by kernel_rfl) kr ?_;intro w3 H3;clear H2;by_cases hc1:(dp1 l (dpF k):Nat)>8
  ·refine qg (some 12) (.bool (decide (8<((dp1 l (dpF k):Nat):Int)))) (.bool true) (fun w=>by kernel_rfl) (za (decide_eq_true (by omega))) kr<|zd (some 9) (.bool true) (fun w=>by kernel_rfl) kr<|zb<|zj kr kr<|zg [0,1] kr kr<|zd (some 2) (.string (⟨#[]⟩)) (fun w=>by kernel_rfl) kr<|zd (some 3) (.int .i64 5) (fun w=>by kernel_rfl) kr<|zb<|zk kr<|wV ?_;exact ⟨[.string (⟨#[]⟩),.int .i64 5],(.tmp (.string (⟨#[]⟩)) kr (.tmp (.int .i64 5) kr .nil)),(zhN hv1 (by omega)).symm,H3.below⟩
  ·refine qg (some 12) (.bool (decide (8<((dp1 l (dpF k):Nat):Int)))) (.bool false) (fun w=>by kernel_rfl) (za (decide_eq_false (by omega))) kr<|zd (some 9) (.bool false) (fun w=>by kernel_rfl) kr<|zb<|zl kr kr<|zg [0,1,2,3] kr kr<|yw H3 (some 14) 46 (.tmp 1) 0 b1 #[.bool l,.string s,.slice p n c] 46 (0,0) kr kr kr kr kr<|yC H3 (some 15) 35 #[.agg #[.bool l,.string s,.slice p n c]] (fun w=>zr w.heap.size w p n k) (.int .u64 ((sz1 l s (szF k):Nat):Int)) (zdv l s p n c k (by omega) (by omega)) (zr.call hpre H3.below) (fun w=>by kernel_rfl) kr ?_;intro w4 H4;clear H3;by_cases hc2:(sz1 l s (szF k):Nat)>4000
   ·refine qg (some 16) (.bool (decide (4000<((sz1 l s (szF k):Nat):Int)))) (.bool true) (fun w=>by kernel_rfl) (za (decide_eq_true (by omega))) kr<|zd (some 13) (.bool true) (fun w=>by kernel_rfl) kr<|zb<|zj kr kr<|zg [0,1] kr kr<|zd (some 2) (.string (⟨#[]⟩)) (fun w=>by kernel_rfl) kr<|zd (some 3) (.int .i64 2) (fun w=>by kernel_rfl) kr<|zb<|zk kr<|wV ?_;exact ⟨[.string (⟨#[]⟩),.int .i64 2],(.tmp (.string (⟨#[]⟩)) kr (.tmp (.int .i64 2) kr .nil)),(zhO hv1 (by omega) (by omega)).symm,H4.below⟩
   ·refine qg (some 16) (.bool (decide (4000<((sz1 l s (szF k):Nat):Int)))) (.bool false) (fun w=>by kernel_rfl) (za (decide_eq_false (by omega))) kr<|zd (some 13) (.bool false) (fun w=>by kernel_rfl) kr<|zb<|zl kr kr<|zn kr<|wW<|zg [0] kr kr ?_;have hpw:=zhQ hok.1 hok.2.1 (show sz1 l s (szF k)≤4000 by omega) (by omega);refine zE H4 (some 4) 77 (.agg #[.pointer none,.slice none 0 0]) kr kr kr ?_;intro b2 w5 H5;clear H4;refine zb<|zg [0,1] kr kr<|yw H5 (some 17) 46 (.tmp 1) 1 b1 #[.bool l,.string s,.slice p n c] 46 (0,0) kr kr kr kr kr ?_;have HD3:St w.heap.size w w5 [(b2,Obj.cells #[.pointer none,.slice none 0 0] 77 (0,0))]:=H5.sub (List.Sublist.cons_cons _ (List.Sublist.cons _ List.Sublist.slnil));have hE0:BE b2 77 5 [] [(b2,Obj.cells #[.pointer none,.slice none 0 0] 77 (0,0))]:=BE.nil none (Or.inl rfl);refine zbj HD3 hE0 (some 18) 36 #[.pointer (some ⟨b2,0,none⟩),.agg #[.bool l,.string s,.slice p n c]] (.tuple #[]) ([]++wr1 l s (szF k) (wrF k)) (fun w=>zr w.heap.size w p n k) (zid b2 [] l s p n c k hs (by simp only [List.length_nil];omega)) hpre kr kr ?_;intro E1 w6 hE1 H6;clear HD3;refine zb<|zg [0,1,2] kr kr ?_;rw [List.nil_append] at hE1;refine zie H6 hE1 (some 19) 37 #[.pointer (some ⟨b2,0,none⟩)] (.string (zh (wr1 l s (szF k) (wrF k)))) (zig b2 (wr1 l s (szF k) (wrF k)) (jx hok.1 hok.2.1 (by omega)).1 (by have h9:=(jx hok.1 hok.2.1 (by omega)).2;omega)) kr kr ?_;intro w7 H7;clear H6;refine zd (some 2) (.string (zh (wr1 l s (szF k) (wrF k)))) (fun w=>by kernel_rfl) kr<|zd (some 3) (.int .i64 0) (fun w=>by kernel_rfl) kr<|zb<|zk kr<|wV ?_;exact ⟨[.string (zh (wr1 l s (szF k) (wrF k))),.int .i64 0],(.tmp (.string (zh (wr1 l s (szF k) (wrF k)))) kr (.tmp (.int .i64 0) kr .nil)),(zhP hv1 (by omega) (by omega)).symm,H7.below⟩
structure X3 where
 l:Bool
 s:ByteArray
 p:Option Addr
 n:Nat
 c:Nat
 k:Fo
def X3.cs (x:X3):List Value:=[.bool x.l,.string x.s,.slice x.p x.n x.c]
def cells3:List X3→List Value
 | []=>[]
 | x::r=>.bool x.l ::.string x.s ::.slice x.p x.n x.c::cells3 r
def toFo:List X3→Fo
 | []=>.nil
 | x::r=>.cons x.l x.s x.k (toFo r)
theorem zdE: ∀L,(toFo L).len=L.length
 | []=>rfl
 | x::r=>by simp only [toFo,Fo.len,List.length_cons,zdE r]
theorem jy: ∀L,(cells3 L).length=L.length*3
 | []=>rfl
 | x::r=>by simp only [cells3,List.length_cons,jy r];omega
theorem zbn: ∀L M,cells3 (L++M)=cells3 L++cells3 M
 | [],M=>rfl
 | x::r,M=>by simp only [List.cons_append,cells3,zbn r M]
theorem uD: ∀L,∀u∈cells3 L,u.oneCell'=true
 | [],u,h=>nomatch h
 | x::r,u,h=>by
  simp only [cells3,List.mem_cons] at h;rcases h with rfl | rfl | rfl | h
  ·rfl
  ·rfl
  ·rfl
  ·exact uD r u h
theorem zdF: ∀(L:List X3) (i:Nat) (x:X3),L[i]? =some x→(cells3 L)[i*3]? =some (.bool x.l)∧(cells3 L)[i*3+1]? =some (.string x.s)∧(cells3 L)[i*3+2]? =some (.slice x.p x.n x.c)
 | [],_,_,h=>by simp at h
 | y::r,0,x,h=>by simp at h;subst h;exact ⟨rfl,rfl,rfl⟩
 | y::r,i+1,x,h=>by
  obtain ⟨h1,h2,h3⟩:=zdF r i x (by simpa using h);rw [show (i+1)*3=i*3+3 by omega];exact ⟨h1,h2,h3⟩
theorem ex3 {C:Array Value}{o:Nat}{a b c:Value}(h1:C[o]? =some a)(h2:C[o+1]? =some b)(h3:C[o+2]? =some c):o+3≤C.size∧C.extract o (o+3)=#[a,b,c]:=by
 have hl:=(Array.getElem?_eq_some_iff.1 h3).1;refine ⟨by omega,?_⟩;apply Array.ext
 ·simp;omega
 ·intro j hj1 hj2;simp at hj1 hj2;rcases (show j=0∨j=1∨j=2 by omega) with rfl | rfl | rfl
  ·have:=(Array.getElem?_eq_some_iff.1 h1).2;simpa using this
  ·have:=(Array.getElem?_eq_some_iff.1 h2).2;simpa using this
  ·have:=(Array.getElem?_eq_some_iff.1 h3).2;simpa using this
theorem Rw.at3 {cur:Array Value}{cap n:Nat}{L:List X3}(h:Rw 3 cur cap n (cells3 L)){i:Nat}{x:X3}(hx:L[i]? =some x):cur[i*3]? =some (.bool x.l)∧cur[i*3+1]? =some (.string x.s)∧cur[i*3+2]? =some (.slice x.p x.n x.c):=by
 have hl:=h.len;rw [jy] at hl;have hi:i<L.length:=(List.getElem?_eq_some_iff.1 hx).1;obtain ⟨h1,h2,h3⟩:=zdF L i x hx;refine ⟨?_,?_,?_⟩
 ·rw [h.get _ (by omega)];exact h1
 ·rw [h.get _ (by omega)];exact h2
 ·rw [h.get _ (by omega)];exact h3
def val (l:List UInt8):Nat:=l.foldl (fun n b=>n*256+b.toNat) 0
theorem uE (l:List UInt8)(b:UInt8):val (l++ [b])=val l*256+b.toNat:=by unfold val;rw [List.foldl_append];rfl
def yJ (s:ByteArray):Bool:=decide (1≤s.size)&&decide (s.extract 0 1=⟨#[0]⟩)
def zH (s:ByteArray):Nat×Bool:=if 8<s.size∨yJ s=true then (0,false) else (val (tl s),true)
def ja (l:Bool)(s:ByteArray)(n:Nat):Nat×Nat:=if l=true∨n≠0∨(zH s).2=false then (0,4) else ((zH s).1,0)
theorem zih (l:List UInt8)(i:Nat)(h:i<l.length):l.take (i+1)=l.take i++ [l.getD i 0]:=by
 rw [List.take_add_one,List.getElem?_eq_getElem h,List.getD_eq_getElem?_getD,List.getElem?_eq_getElem h];rfl
theorem zdG: ∀l:List UInt8,val l.reverse<256^l.length
 | []=>by decide
 | b::l=>by
  rw [List.reverse_cons,uE,List.length_cons,Nat.pow_succ];have:=zdG l;have:=b.toNat_lt;omega
theorem zdH (l:List UInt8):val l<256^l.length:=by have:=zdG l.reverse;rwa [List.reverse_reverse,List.length_reverse] at this
theorem zdI (l:List UInt8)(i:Nat)(h:i≤7):val (l.take i)<72057594037927936:=by
 have h1:=zdH (l.take i);have h2:(l.take i).length≤7:=by rw [List.length_take];omega
 exact Nat.lt_of_lt_of_le h1 (Nat.le_trans (Nat.pow_le_pow_right (by decide) h2) (by decide))
theorem zbo {l:List UInt8}(h:l.length≤8):val l<0x10000000000000000:=
 Nat.lt_of_lt_of_le (zdH l) (Nat.le_trans (Nat.pow_le_pow_right (by decide) h) (by decide))
theorem zii (s:ByteArray)(i:Nat)(h:i<s.size):val ((tl s).take (i+1))=val ((tl s).take i)*256+by_ s i:=by
 rw [zih _ _ (by rw [zt];exact h),uE];rfl
theorem zij {n:Nat}(h:n<72057594037927936):IntKind.u64.wrap ((n:Int)*2^(min 8 64))=((n*256:Nat):Int):=by
 rw [wrap_u64]<;>simp only [show (2:Int)^(min 8 64)=256 by decide]<;>omega
theorem or8 {n b:Nat}(hn:n<72057594037927936)(hb:b<256):Go.bits .or .u64 ((n*256:Nat):Int) (b:Int)=((n*256+b:Nat):Int):=by
 rw [u64_or_nat _ _ (by omega) (by omega)];congr 1;have:=Nat.two_pow_add_eq_or_of_lt (i:=8) (b:=b) (by omega) n;rw [show n*256=2^8*n by omega];exact this.symm
theorem zbp: ∀(m:Nat) (l:List UInt8),l.length≤m→beI m (val l.reverse)=List.replicate (m-l.length) 0++l.reverse
 | 0,l,h=>by
  have:l=[]:=List.eq_nil_of_length_eq_zero (by omega);subst this;rfl
 | m+1,[],_=>by
  have:=zbp m [] (Nat.zero_le _);simp only [List.reverse_nil,List.append_nil,List.length_nil,Nat.sub_zero] at this ⊢;show beI m (val [] / 256)++ [UInt8.ofNat (val [])]=_;rw [show val [] / 256=val [] from rfl,this,List.replicate_succ'];rfl
 | m+1,b::l,h=>by
  have hl:l.length≤m:=by simpa using h
  have hb:=b.toNat_lt;rw [List.reverse_cons,uE];show beI m ((val l.reverse*256+b.toNat) / 256)++ [UInt8.ofNat (val l.reverse*256+b.toNat)]=_;rw [show (val l.reverse*256+b.toNat) / 256=val l.reverse by omega,zbp m l hl];have e:UInt8.ofNat (val l.reverse*256+b.toNat)=b:=by
   apply UInt8.toNat_inj.1;rw [UInt8.toNat_ofNat'];omega
  rw [e,List.length_cons,Nat.add_sub_add_right,List.append_assoc]
theorem zdJ (l:List UInt8): ∀m,(List.replicate m 0++l).dropWhile (·==0)=l.dropWhile (·==0)
 | 0=>rfl
 | m+1=>by rw [List.replicate_succ,List.cons_append,List.dropWhile_cons,if_pos (by decide)];exact zdJ l m
theorem zik {l:List UInt8}(h:l.length≤8):dg (val l)=l.dropWhile (·==0):=by
 have h1:=zbp 8 l.reverse (by rw [List.length_reverse];exact h);rw [List.reverse_reverse] at h1;have h2:=zbf 8 (val l) (zbo h);show dgI 8 (val l)=_;rw [←h2,h1,zdJ]
theorem zil {s:ByteArray}(h:1≤s.size):s.extract 0 1=⟨#[0]⟩↔by_ s 0=0:=by
 obtain ⟨l,e⟩:=xq (t:=s) (by omega);have hb:=jj s 0;constructor
 ·intro q;have:=congrArg tl q;rw [qj,e] at this;have h3:UInt8.ofNat (by_ s 0)=0:=by
   have h4:(List.drop 0 (List.take 1 (UInt8.ofNat (by_ s 0)::l)))=[UInt8.ofNat (by_ s 0)]:=rfl;rw [h4] at this;exact (List.cons.inj this).1
  have h5:=congrArg UInt8.toNat h3;rw [UInt8.toNat_ofNat_of_lt' (by simpa using hb)] at h5;exact h5
 ·intro q;apply qM;rw [qj,e,q];rfl
theorem zdK {s:ByteArray}(h:s.size≤8):(zh (dg (val (tl s)))=s)↔yJ s=false:=by
 rw [zik (by rw [zt];exact h)];unfold yJ;by_cases h1:1≤s.size
 ·rw [decide_eq_true h1,Bool.true_and,decide_eq_false_iff_not,zil h1];constructor
  ·intro q h0;obtain ⟨l,e⟩:=xq (t:=s) (by omega);have:=congrArg (fun t=>(tl t).length) q;simp only [qW] at this;rw [e,h0,List.dropWhile_cons,if_pos (by decide)] at this;have h6:=(List.dropWhile_suffix (p:=fun x:UInt8=>x==0) (l:=l)).length_le;simp only [List.length_cons] at this;omega
  ·intro h0;exact uB s (.inr h0)
 ·have:s.size=0:=by omega
  constructor
  ·intro _;rw [decide_eq_false h1];rfl
  ·intro _;exact uB s (.inl this)
theorem zim (m:Nat): ∀n,n<256^m→val (dgI m n)=n:=by
 induction m with
 | zero=>intro n h;have:n=0:=by simpa using h
         subst this;rfl
 | succ m ih=>
  intro n h;unfold dgI;split
  ·rename_i h0;subst h0;rfl
  ·rw [uE,ih (n / 256) (by rw [Nat.pow_succ] at h;omega),UInt8.toNat_ofNat'];omega
theorem uF {n:Nat}(h:n<0x10000000000000000):val (dg n)=n:=zim 8 n h
theorem zdL {n:Nat}(h:n<0x10000000000000000):zH (zh (dg n))=(n,true):=by
 have hl:=qm n;have hp:yJ (zh (dg n))=false:=(zdK (by rw [qd];exact hl)).1 (by rw [qW,uF h]);unfold zH;rw [if_neg (by rw [hp,qd];simp;omega),qW,uF h]
theorem zin {n:Nat}(h:n<0x10000000000000000):ja false (zh (dg n)) 0=(n,0):=by
 unfold ja;rw [zdL h];simp
def uG (x:Nat×Bool):Value:=.tuple #[.int .u64 ((x.1:Nat):Int),.bool x.2]
def zbq (x:Nat×Nat):Value:=.tuple #[.int .u64 ((x.1:Nat):Int),.int .i64 ((x.2:Nat):Int)]
theorem zdM {s:ByteArray}(h:8<s.size∨yJ s=true):uG (zH s)=.tuple #[wZ,.bool false]:=by unfold zH;rw [if_pos h];rfl
theorem zio {s:ByteArray}{v:Nat}(h: ¬8<s.size)(hp:yJ s=false)(hv:v=val (tl s)):uG (zH s)=.tuple #[.int .u64 (v:Int),.bool true]:=by
 unfold zH;rw [if_neg (by simp [h,hp])];rw [hv];rfl
theorem zbr {l:Bool}{s:ByteArray}{n:Nat}(h:l=true∨n≠0∨(zH s).2=false):zbq (ja l s n)=.tuple #[wZ,.int .i64 4]:=by unfold ja;rw [if_pos h];rfl
theorem zip {l:Bool}{s:ByteArray}{n:Nat}(h:l=false)(hn:n=0)(h2:(zH s).2=true):zbq (ja l s n)=.tuple #[.int .u64 (((zH s).1:Nat):Int),.int .i64 0]:=by unfold ja;rw [if_neg (by simp [h,hn,h2])];rfl
theorem ziq (s:ByteArray):Fn Tryz.prog 109 #[.string s,.string (⟨#[0]⟩)] (.bool (yJ s)):=by
 refine Fn.intro (c:=zf Tryz.f109) [.tmp 4] 18 Tryz.func109 kr kr kr fun w=>?_;have H0:=St.start w;refine rS [.v] H0 kr fun gs1 w1 H1=>?_;clear H0;refine zg [0,1,2,3,4,5,6,7,8,9,10,11,12,13] kr kr<|rp [.v,.v,.v,.v] H1 kr fun gs2 w2 H2=>wX [4,5,6,7,8,9,10,11,12,13] ?_;clear H1;by_cases hc1:(ByteArray.size s:Nat)≥1
 ·refine rp [.E (.bool (decide (1≤(ByteArray.size s:Int)))) (.bool true) (za (decide_eq_true (by omega))),.v,.v,.v,.v,.o (ins:=[((.tmp 11),.string s),((.tmp 13),.int .i64 1)]) (v:=.string (ByteArray.extract s 0 1)) (fun ρ o w ho hi=>xm (t:=9) (kd:=.i64) kr (x:=(.tmp 11)) (y:=(.tmp 13)) s 1 ho hi.1 hi.2.1 (by omega) w),.v] H2 kr fun gs3 w3 H3=>wX [11,12,13] ?_;clear H2;by_cases hx2:(ByteArray.extract s 0 1)=⟨#[0]⟩
  ·refine rp [.E (.bool (ByteArray.toList (ByteArray.extract s 0 1)==ByteArray.toList (⟨#[0]⟩))) (.bool true) (za (zI (ByteArray.extract s 0 1) (⟨#[0]⟩) hx2)),.v,.v] H3 kr fun gs4 w4 H4=>wX [] ?_;clear H3;refine zb<|zk kr<|wV ?_;refine ⟨[.bool true],(.tmp (.bool true) kr .nil),?_,H4.below⟩;exact za (by unfold yJ;rw [decide_eq_true (show 1≤ByteArray.size s by omega),decide_eq_true hx2];rfl)
  ·refine rp [.E (.bool (ByteArray.toList (ByteArray.extract s 0 1)==ByteArray.toList (⟨#[0]⟩))) (.bool false) (za (yO (ByteArray.extract s 0 1) (⟨#[0]⟩) hx2)),.v,.v] H3 kr fun gs5 w5 H5=>wX [] ?_;clear H3;refine zb<|zk kr<|wV ?_;refine ⟨[.bool false],(.tmp (.bool false) kr .nil),?_,H5.below⟩;exact za (by unfold yJ;rw [decide_eq_true (show 1≤ByteArray.size s by omega),decide_eq_false hx2];rfl)
 ·refine rp [.E (.bool (decide (1≤(ByteArray.size s:Int)))) (.bool false) (za (decide_eq_false (by omega))),.v,.n,.n,.n,.n,.n,.n,.v,.v] H2 kr fun gs6 w6 H6=>wX [] ?_;clear H2;refine zb<|zk kr<|wV ?_;refine ⟨[.bool false],(.tmp (.bool false) kr .nil),?_,H6.below⟩;exact za (by unfold yJ;rw [decide_eq_false (show ¬1≤ByteArray.size s by omega)];rfl)
theorem zir (s:ByteArray):Fn Tryz.prog 99 #[.string s,.string (⟨#[0]⟩)] (.bool (yJ s)):=by
 refine Fn.intro (c:=zf Tryz.f99) [.tmp 4] 8 Tryz.func99 kr kr kr fun w=>?_;have H0:=St.start w;refine rS [.v] H0 kr fun gs1 w1 H1=>?_;clear H0;refine rS [.v,.v,.c (ziq s),.v] H1 kr fun gs2 w2 H2=>?_;clear H1;refine zk kr<|wV ?_;refine ⟨[.bool (yJ s)],(.tmp (.bool (yJ s)) kr .nil),?_,H2.below⟩;rfl
theorem zdN (s:ByteArray):Fn Tryz.prog 86 #[.string s] (uG (zH s)):=by
 refine Fn.intro (c:=zf Tryz.f86) [.tmp 2,.tmp 3] 27 Tryz.func86 kr kr kr fun w=>?_;have H0:=St.start w;refine rS [.v,.v] H0 kr fun gs1 w1 H1=>?_;clear H0;refine zc kr<|zg [0,1,2,3,4,5,6] kr kr<|rp [.v,.v] H1 kr fun gs2 w2 H2=>wX [2,3,4,5,6] ?_;clear H1;by_cases hc1:(ByteArray.size s:Nat)>8
 ·refine rp [.E (.bool (decide (8<(ByteArray.size s:Int)))) (.bool true) (za (decide_eq_true (by omega))),.v,.n,.n,.v] H2 kr fun gs3 w3 H3=>wX [] ?_;clear H2;refine zb<|zj kr kr<|rS [.v,.v] H3 kr fun gs4 w4 H4=>?_;clear H3;refine zk kr<|wV ?_;refine ⟨[wZ,.bool false],(.tmp (wZ) kr (.tmp (.bool false) kr .nil)),?_,H4.below⟩;exact (zdM (Or.inl (by omega))).symm
 ·refine rp [.E (.bool (decide (8<(ByteArray.size s:Int)))) (.bool false) (za (decide_eq_false (by omega))),.v,.v,.c (zir s),.v] H2 kr fun gs5 w5 H5=>wX [] ?_;clear H2;refine zb<|Or.elim (Bool.eq_false_or_eq_true (yJ s)).symm (fun hq1=>?_) (fun hq1=>?_)
  ·refine yY 11 (v:=.bool (yJ s)) (v':=.bool false) (za hq1) kr<|yY 12 (v:=.bool (yJ s)) (v':=.bool false) (za hq1) kr<|zl kr kr<|zn kr<|wW<|rS [.v] H5 kr fun gs6 w6 H6=>?_;clear H5;refine zc kr<|rS [.v,.v,.v] H6 kr fun gs7 w7 H7=>?_;clear H6;refine zz 0 kr ?_;have HL2:St w.heap.size w w7 []:=H7.as kr;clear H7;refine yW kr (fun mz ρ ww=> ∃(i:Nat),ByteArray.size s-i=mz∧(i≤ByteArray.size s)∧St w.heap.size w ww []∧Is [(0,.string s),(2,wZ),(3,.bool false),(4,.int .u64 ((val (List.take i (tl s)):Nat):Int)),(12,.bool false),(14,.int .i64 (ByteArray.size s:Int)),(15,.int .i64 (i:Int))] ρ) (ByteArray.size s-0) ⟨0,rfl,(by omega),HL2,(Is.of ⟨kr,kr,kr,kr,kr,kr,kr,trivial⟩)⟩ ?_;clear HL2;rintro _ _ w8 ⟨i,rfl,hi,H8,_,rfl⟩;by_cases hc3:(i:Nat)<ByteArray.size s
   ·refine rS [.E (.bool (decide ((i:Int)<(ByteArray.size s:Int)))) (.bool true) (za (decide_eq_true (by omega)))] H8 kr fun gs9 w9 H9=>?_;clear H8;refine zc kr<|zj kr kr<|zn kr<|wW<|zc kr<|zz 1 kr<|rS [.v,.v] H9 kr fun gs10 w10 H10=>?_;clear H9;refine rL [.v,.E (.int .u64 (IntKind.u64.wrap (((val (List.take i (tl s)):Nat):Int)*2^(min 8 64)))) (.int .u64 (((val (List.take i (tl s)))*256:Nat):Int)) (zo (zij (n:=val (List.take i (tl s))) (zdI (tl s) i (by omega)))),.v,.v,.o (ins:=[((.tmp 20),.string s),((.tmp 21),.int .i64 (i:Int))]) (v:=.int .u8 ((by_ s i:Nat):Int)) (fun ρ o w ho hi=>qL (t:=9) (kd:=.i64) kr (x:=(.tmp 20)) (y:=(.tmp 21)) s i ho hi.1 hi.2.1 (by omega) w),.E (.int .u64 (IntKind.u64.wrap (((by_ s i:Nat):Int)))) (.int .u64 ((by_ s i:Nat):Int)) (zo (xl (a:=by_ s i) (by have:=jj s i;omega))),.E (.int .u64 (Go.bits .or .u64 (((val (List.take i (tl s))*256:Nat):Int)) (((by_ s i:Nat):Int)))) (.int .u64 ((val (List.take (i+1) (tl s)):Nat):Int)) (zo (by rw [zii s i (by omega)];exact or8 (zdI (tl s) i (by omega)) (jj s i))),.v] H10 kr fun gs11 w11 H11=>?_;clear H10;refine wW<|yb [0,2,3,4,5,12,14,15,16] fun ρ1=>?_;have HK4:=H11.keep;clear H11;refine rL [.E (.int .i64 (IntKind.i64.wrap ((i:Int)+1))) (.int .i64 ((i+1:Nat):Int)) (zo (qc (a:=i) (b:=1) (by omega))),.v] HK4 kr fun gs12 w12 H12=>?_;clear HK4;have HL5:St w.heap.size w w12 []:=H12.as kr;clear H12;show ∃m,_∧_;exact ⟨_,(by omega),(i+1),rfl,(by omega),HL5,(Is.of ⟨kr,kr,kr,kr,kr,kr,kr,trivial⟩)⟩
   ·refine rS [.E (.bool (decide ((i:Int)<(ByteArray.size s:Int)))) (.bool false) (za (decide_eq_false (by omega)))] H8 kr fun gs13 w13 H13=>?_;clear H8;refine zc kr<|zl kr kr<|yv 0 kr<|wW<|rS [.v,.v,.v] H13 kr fun gs14 w14 H14=>?_;clear H13;refine zk kr<|wV ?_;refine ⟨[.int .u64 ((val (List.take i (tl s)):Nat):Int),.bool true],(.tmp (.int .u64 ((val (List.take i (tl s)):Nat):Int)) kr (.tmp (.bool true) kr .nil)),?_,H14.below⟩;refine (zio (by omega) (by assumption) ?_).symm;rw [List.take_of_length_le (by rw [zt];omega)]
  ·refine yY 11 (v:=.bool (yJ s)) (v':=.bool true) (za hq1) kr<|yY 12 (v:=.bool (yJ s)) (v':=.bool true) (za hq1) kr<|zj kr kr<|rS [.v,.v] H5 kr fun gs15 w15 H15=>?_;clear H5;refine zk kr<|wV ?_;refine ⟨[wZ,.bool false],(.tmp (wZ) kr (.tmp (.bool false) kr .nil)),?_,H15.below⟩;exact (zdM (Or.inr hq1)).symm
theorem zis (l:Bool)(s:ByteArray)(p:Option Addr)(n c:Nat)(k:Fo)(hs:s.size≤0x800000000000):FnP Tryz.prog 87 #[.agg #[.bool l,.string s,.slice p n c]] (fun w=>zr w.heap.size w p n k) (zbq (ja l s n)):=by
 refine FnP.intro (c:=zf Tryz.f87) [.tmp 2,.tmp 3] 25 Tryz.func87 kr kr kr fun w hpre=>?_;have H0:=St.start w;have hn:=hpre.1;have hnm:=hpre.2.1;refine rS [.b,.v,.v] H0 kr fun gs1 w1 H1=>?_;clear H0;refine rS [.v,.l 0,.c (zdN s),.v,.v,.v,.v,.v] H1 kr fun gs2 w2 H2=>?_;clear H1;refine zc kr<|zg [0,1,2,3,4,5,6,7,8,9,10,11] kr kr<|rp [.v,.l 0,.v] H2 kr fun gs3 w3 H3=>wX [3,4,5,6,7,8,9,10,11] ?_;clear H2;refine Or.elim (Bool.eq_false_or_eq_true (l)).symm (fun hq1=>?_) (fun hq1=>?_)
 ·refine ya 13 (v:=.bool l) (v':=.bool false) (za hq1) kr<|ya 14 (v:=.bool l) (v':=.bool false) (za hq1) kr<|rp [.v,.l 0,.v] H3 kr fun gs4 w4 H4=>wX [6,7,8,9,10,11] ?_;clear H3;by_cases hc1:(n:Nat)>0
  ·refine rp [.E (.bool (decide (0<(n:Int)))) (.bool true) (za (decide_eq_true (by omega))),.v,.v,.n,.n,.v] H4 kr fun gs5 w5 H5=>wX [] ?_;clear H4;refine zb<|yb [0,1,2,3,4,5,23] fun ρ1=>?_;have HK2:=H5.keep;clear H5;refine zj kr kr<|rS [.v,.v] HK2 kr fun gs6 w6 H6=>?_;clear HK2;refine zk kr<|wV ?_;refine ⟨[wZ,.int .i64 4],(.tmp (wZ) kr (.tmp (.int .i64 4) kr .nil)),?_,H6.below⟩;exact (zbr (Or.inr (Or.inl (by omega)))).symm
  ·refine rp [.E (.bool (decide (0<(n:Int)))) (.bool false) (za (decide_eq_false (by omega))),.v,.v,.v] H4 kr fun gs7 w7 H7=>wX [10,11] ?_;clear H4;refine Or.elim (Bool.eq_false_or_eq_true ((zH s).2)).symm (fun hq2=>?_) (fun hq2=>?_)
   ·refine ya 9 (v:=.tuple #[.int .u64 (((zH s).1:Nat):Int),.bool ((zH s).2)]) (v':=.tuple #[.int .u64 (((zH s).1:Nat):Int),.bool false]) (by rw [hq2]) kr<|ya 6 (v:=.tuple #[.int .u64 (((zH s).1:Nat):Int),.bool ((zH s).2)]) (v':=.tuple #[.int .u64 (((zH s).1:Nat):Int),.bool false]) (by rw [hq2]) kr<|ya 11 (v:=.bool ((zH s).2)) (v':=.bool false) (za hq2) kr<|ya 5 (v:=.bool ((zH s).2)) (v':=.bool false) (za hq2) kr<|ya 21 (v:=.bool ((zH s).2)) (v':=.bool false) (za hq2) kr<|rp [.v,.v] H7 kr fun gs8 w8 H8=>wX [] ?_;clear H7;refine zb<|yb [0,1,2,3,4,5,23] fun ρ2=>?_;have HK3:=H8.keep;clear H8;refine zj kr kr<|rS [.v,.v] HK3 kr fun gs9 w9 H9=>?_;clear HK3;refine zk kr<|wV ?_;refine ⟨[wZ,.int .i64 4],(.tmp (wZ) kr (.tmp (.int .i64 4) kr .nil)),?_,H9.below⟩;exact (zbr (Or.inr (Or.inr hq2))).symm
   ·refine ya 9 (v:=.tuple #[.int .u64 (((zH s).1:Nat):Int),.bool ((zH s).2)]) (v':=.tuple #[.int .u64 (((zH s).1:Nat):Int),.bool true]) (by rw [hq2]) kr<|ya 6 (v:=.tuple #[.int .u64 (((zH s).1:Nat):Int),.bool ((zH s).2)]) (v':=.tuple #[.int .u64 (((zH s).1:Nat):Int),.bool true]) (by rw [hq2]) kr<|ya 11 (v:=.bool ((zH s).2)) (v':=.bool true) (za hq2) kr<|ya 5 (v:=.bool ((zH s).2)) (v':=.bool true) (za hq2) kr<|ya 21 (v:=.bool ((zH s).2)) (v':=.bool true) (za hq2) kr<|rp [.v,.v] H7 kr fun gs10 w10 H10=>wX [] ?_;clear H7;refine zb<|yb [0,1,2,3,4,5,23] fun ρ3=>?_;have HK4:=H10.keep;clear H10;refine zl kr kr<|zn kr<|wW<|rS [.v,.v,.v] HK4 kr fun gs11 w11 H11=>?_;clear HK4;refine zk kr<|wV ?_;refine ⟨[.int .u64 (((zH s).1:Nat):Int),.int .i64 0],(.tmp (.int .u64 (((zH s).1:Nat):Int)) kr (.tmp (.int .i64 0) kr .nil)),?_,H11.below⟩;exact (zip hq1 (by omega) hq2).symm
 ·refine ya 13 (v:=.bool l) (v':=.bool true) (za hq1) kr<|ya 14 (v:=.bool l) (v':=.bool true) (za hq1) kr<|rp [.n,.n,.n,.n,.v,.v,.n,.n,.v] H3 kr fun gs12 w12 H12=>wX [] ?_;clear H3;refine zb<|yb [0,1,2,3,4,5,23] fun ρ4=>?_;have HK5:=H12.keep;clear H12;refine zj kr kr<|rS [.v,.v] HK5 kr fun gs13 w13 H13=>?_;clear HK5;refine zk kr<|wV ?_;refine ⟨[wZ,.int .i64 4],(.tmp (wZ) kr (.tmp (.int .i64 4) kr .nil)),?_,H13.below⟩;exact (zbr (Or.inl hq1)).symm
theorem zit (n:Nat)(hn:n<0x10000000000000000):Fn Tryz.prog 94 #[.int .u64 (n:Int)] (.agg #[.bool false,.string (zh (dg n)),.slice none 0 0]):=by
 refine Fn.intro (c:=zf Tryz.f94) [.cell 2 46] 6 Tryz.func94 kr kr kr fun w=>?_;have H0:=St.start w;refine rS [.a] H0 kr fun gs1 w1 H1=>?_;clear H0;refine rS [.v,.c (zbh n (by omega)),.v,.s 0] H1 kr fun gs2 w2 H2=>?_;clear H1;refine zk kr<|wV ?_;refine ⟨[.agg #[.bool false,.string (zh (dg n)),.slice none 0 0]],(.agg (b:=(gs1 0).b) #[.bool false,.string (zh (dg n)),.slice none 0 0] 46 (0,0) kr (H2.get 0 kr) kr .nil),?_,H2.below⟩;rfl
theorem rwB (s:ByteArray)(h:ByteArray.size s≤maxLen):Rw 1 (cellsB (tl s)).toArray (ByteArray.size s) (ByteArray.size s) (cellsB (tl s)):=
 ⟨by rw [qt,zt];omega,Nat.le_refl _,h,by rw [List.take_of_length_le (by simp [qt,zt])],by simp [qt,zt]⟩
theorem ziu {P:Program}{ρ:Env}{t e:TypeId}{bytes:Nat}(ht:ye P t=some (e,1,bytes)){x y:Operand}{o:Oper}{kd:IntKind}(b n c:Nat)(ho:o.op=.indexAddr t x y)(hx:ev ρ x=.slice (some ⟨b,0,none⟩) n c)(hy:ev ρ y=.int kd 0)(hk:0<n):
 ∀w,(execOp (ev ρ) o).run P w=.ok (.value (.pointer (some ⟨b,0,none⟩))) w:=fun w=>
 kT (P:=P) (kd:=kd) ht b 0 n c 0 ho hx hy hk w
theorem ziv (s:ByteArray)(hs:ByteArray.size s≤1000000):Fn Tryz.prog 98 #[.string s] (.string s):=by
 refine Fn.intro (c:=zf Tryz.f98) [.tmp 2] 18 Tryz.func98 kr kr kr fun w=>?_;have H0:=St.start w;refine zg [0] kr kr<|zd (some 2) (.string (⟨#[]⟩)) (fun w=>by kernel_rfl) kr<|zb<|zc kr<|zg [0,1,2] kr kr<|zd (some 4) (.string s) (fun w=>by kernel_rfl) kr<|zd (some 5) (.int .i64 (ByteArray.size s:Int)) (fun w=>by kernel_rfl) kr ?_;by_cases hc1:(ByteArray.size s:Nat)=0
 ·refine qg (some 6) (.bool ((ByteArray.size s:Int)==0)) (.bool true) (fun w=>by kernel_rfl) (za (beq_iff_eq.2 (by omega))) kr<|zb<|zj kr kr<|zg [0] kr kr<|zd (some 2) (.string (⟨#[]⟩)) (fun w=>by kernel_rfl) kr<|zb<|zk kr<|wV ?_;refine ⟨[.string (⟨#[]⟩)],(.tmp (.string (⟨#[]⟩)) kr .nil),?_,H0.below⟩;exact congrArg Value.string (qM (List.eq_nil_of_length_eq_zero (by rw [zt];omega):tl s=[]).symm)
 ·refine qg (some 6) (.bool ((ByteArray.size s:Int)==0)) (.bool false) (fun w=>by kernel_rfl) (za (beq_eq_false_iff_ne.2 (by omega))) kr<|zb<|zl kr kr<|zn kr<|wW<|zg [0,1,2,3] kr kr<|zd (some 7) (.string s) (fun w=>by kernel_rfl) kr<|zd (some 8) (.int .i64 (ByteArray.size s:Int)) (fun w=>by kernel_rfl) kr<|zgC H0 (some 9) 75 5 1 (.int .u8 0) (.tmp 8) (.tmp 8) .i64 .i64 (ByteArray.size s) kr kr kr kr rfl kr kr (by omega) (by unfold maxLen;omega) ?_;intro b_1 cur_2 w1 H1 hr_3;clear H0;have hr_3z:Rw 1 cur_2 (ByteArray.size s) (ByteArray.size s) (cellsB (List.replicate (ByteArray.size s) 0)):=by rw [zgK];exact hr_3
  refine zd (some 3) (.slice (some ⟨b_1,0,none⟩) (ByteArray.size s) (ByteArray.size s)) (fun w=>by kernel_rfl) kr<|zb<|zg [0,1,2] kr kr<|zd (some 10) (.slice (some ⟨b_1,0,none⟩) (ByteArray.size s) (ByteArray.size s)) (fun w=>by kernel_rfl) kr<|zd (some 11) (.string s) (fun w=>by kernel_rfl) kr<|zgO H1 (some 12) 75 9 5 1 (.tmp 10) (.tmp 11) 0 b_1 (ByteArray.size s) (ByteArray.size s) s cur_2 ((cellsB (tl s)).toArray) 5 [(b_1,Obj.cells ((cellsB (tl s)).toArray) 5 (0,0))] kr kr kr kr kr kr (by omega) (Nat.le_of_eq (by have h:=hr_3z.sz;rw [h];omega)) (by rw [List.drop_of_length_le (by have h:=hr_3z.sz;rw [Array.length_toList,h];omega),List.append_nil]) kr ?_;intro w2 H2;clear H1;refine zb<|zg [0,1,2,3,4,5] kr kr<|zd (some 13) (.slice (some ⟨b_1,0,none⟩) (ByteArray.size s) (ByteArray.size s)) (fun w=>by kernel_rfl) kr<|kN (some 14) _ (.pointer (some ⟨b_1,0,none⟩)) kr kr (fun o w ho=>ziu (kd:=.i64) (t:=75) (e:=5) (bytes:=1) kr (x:=(.tmp 13)) (y:=(.const (.int .i64 0))) b_1 (ByteArray.size s) (ByteArray.size s) ho kr kr (by omega) w)<|zd (some 15) (.slice (some ⟨b_1,0,none⟩) (ByteArray.size s) (ByteArray.size s)) (fun w=>by kernel_rfl) kr<|zd (some 16) (.int .i64 (ByteArray.size s:Int)) (fun w=>by kernel_rfl) kr<|zgQ H2 (some 17) 109 3 5 (.tmp 14) (.tmp 16) (ByteArray.size s) (ByteArray.size s) (tl s) kr kr kr kr rfl kr kr (rwB s (by unfold maxLen;omega)) (by omega) (by omega) ?_;intro w3 H3;clear H2;refine zd (some 2) (.string (zh (tl s))) (fun w=>by kernel_rfl) kr<|zb<|zk kr<|wV ?_;refine ⟨[.string (zh (tl s))],(.tmp (.string (zh (tl s))) kr .nil),?_,H3.below⟩;rfl
theorem ziw (s:ByteArray)(hs:ByteArray.size s≤1000000):Fn Tryz.prog 85 #[.string s] (.string s):=by
 refine Fn.intro (c:=zf Tryz.f85) [.tmp 2] 5 Tryz.func85 kr kr kr fun w=>?_;have H0:=St.start w;refine zg [0] kr kr<|zd (some 2) (.string (⟨#[]⟩)) (fun w=>by kernel_rfl) kr<|zb<|zg [0,1,2] kr kr<|zd (some 3) (.string s) (fun w=>by kernel_rfl) kr<|jJ H0 (some 4) 98 #[.string s] (.string s) (ziv s (by omega)) (fun w=>by kernel_rfl) kr ?_;intro w1 H1;clear H0;refine zd (some 2) (.string s) (fun w=>by kernel_rfl) kr<|zb<|zk kr<|wV ?_;refine ⟨[.string s],(.tmp (.string s) kr .nil),?_,H1.below⟩;rfl
theorem zdO (s:ByteArray)(hs:ByteArray.size s≤100000):Fn Tryz.prog 68 #[.string s] (.agg #[.bool false,.string s,.slice none 0 0]):=by
 refine Fn.intro (c:=zf Tryz.f68) [.cell 2 46] 6 Tryz.func68 kr kr kr fun w=>?_;have H0:=St.start w;refine rS [.a] H0 kr fun gs1 w1 H1=>?_;clear H0;refine zg [0,1,2,3] kr kr<|rp [.v,.c (ziw s (by omega)),.v,.s 0] H1 kr fun gs2 w2 H2=>wX []<|zb<|zk kr<|wV ?_;refine ⟨[.agg #[.bool false,.string s,.slice none 0 0]],(.agg (b:=(gs1 0).b) (#[.bool false,.string s,.slice none 0 0]) 46 (0,0) kr (H2.get 0 kr) kr .nil),?_,H2.below⟩;rfl
theorem xv {a b:Nat}(ha:a<256)(hb:b<256)(h:UInt8.ofNat a=UInt8.ofNat b):a=b:=by
 have:=congrArg UInt8.toNat h
 rwa [UInt8.toNat_ofNat_of_lt' (by simpa using ha),UInt8.toNat_ofNat_of_lt' (by simpa using hb)] at this
theorem qP (l:Bool):(l=true∧frm l=192)∨(l=false∧frm l=128):=by cases l<;>simp [frm]
theorem vy {n:Nat}(h:n≠0):1≤(dg n).length:=by unfold dg dgI;rw [if_neg h];simp
theorem zix {l l':Bool}{n n':Nat}{X Y:List UInt8}(hn:n<0x10000000000000000)(hn':n'<0x10000000000000000)(h:hd (frm l) n++X=hd (frm l') n'++Y):l=l'∧n=n'∧X=Y:=by
 have a1:=qm n;have a2:=qm n';unfold hd at h;by_cases h1:n≤55<;>by_cases h2:n'≤55
 ·rw [if_pos h1,if_pos h2] at h;obtain ⟨e1,e2⟩:=List.cons.inj h;rcases qP l with ⟨hl,f1⟩ | ⟨hl,f1⟩<;>rcases qP l' with ⟨hl',f2⟩ | ⟨hl',f2⟩<;>rw [f1,f2] at e1<;>have e3:=xv (by omega) (by omega) e1
  ·exact ⟨by rw [hl,hl'],by omega,e2⟩
  ·omega
  ·omega
  ·exact ⟨by rw [hl,hl'],by omega,e2⟩
 ·rw [if_pos h1,if_neg h2] at h;have a3:=vy (show n'≠0 by omega);obtain ⟨e1,e2⟩:=List.cons.inj h;rcases qP l with ⟨hl,f1⟩ | ⟨hl,f1⟩<;>rcases qP l' with ⟨hl',f2⟩ | ⟨hl',f2⟩<;>rw [f1,f2] at e1<;>have e3:=xv (by omega) (by omega) e1<;>omega
 ·rw [if_neg h1,if_pos h2] at h;have a3:=vy (show n≠0 by omega);obtain ⟨e1,e2⟩:=List.cons.inj h;rcases qP l with ⟨hl,f1⟩ | ⟨hl,f1⟩<;>rcases qP l' with ⟨hl',f2⟩ | ⟨hl',f2⟩<;>rw [f1,f2] at e1<;>have e3:=xv (by omega) (by omega) e1<;>omega
 ·rw [if_neg h1,if_neg h2] at h;have a3:=vy (show n≠0 by omega);have a4:=vy (show n'≠0 by omega);obtain ⟨e1,e2⟩:=List.cons.inj h;have key:(dg n).length=(dg n').length→n=n'∧X=Y:=fun hl=>by
   obtain ⟨q1,q2⟩:=List.append_inj e2 hl;exact ⟨by rw [←uF hn,q1,uF hn'],q2⟩
  rcases qP l with ⟨hl,f1⟩|⟨hl,f1⟩<;>rcases qP l' with ⟨hl',f2⟩ | ⟨hl',f2⟩<;>rw [f1,f2] at e1<;>have e3:=xv (by omega) (by omega) e1
  ·exact ⟨by rw [hl,hl'],key (by omega)⟩
  ·omega
  ·omega
  ·exact ⟨by rw [hl,hl'],key (by omega)⟩
theorem zbs (l:Bool)(n:Nat):∃b t,hd (frm l) n=b::t∧128≤b.toNat:=by
 have a1:=qm n;unfold hd;by_cases h1:n≤55
 ·rw [if_pos h1];refine ⟨_,_,rfl,?_⟩;rw [UInt8.toNat_ofNat'];rcases qP l with ⟨_,f1⟩ | ⟨_,f1⟩<;>rw [f1]<;>omega
 ·rw [if_neg h1];refine ⟨_,_,rfl,?_⟩;rw [UInt8.toNat_ofNat'];rcases qP l with ⟨_,f1⟩ | ⟨_,f1⟩<;>rw [f1]<;>omega
theorem uH {s:ByteArray}(h:zR s=true):∃b:UInt8,tl s=[b]∧b.toNat<128:=by
 have hz:=qY h;obtain ⟨l,e⟩:=xq (t:=s) (by omega);have hl:l=[]:=by
  have:=zt s;rw [e] at this;simp at this;exact List.eq_nil_of_length_eq_zero (by omega)
 refine ⟨_,by rw [e,hl],?_⟩;unfold zR at h;simp only [Bool.and_eq_true,decide_eq_true_eq] at h;rw [UInt8.toNat_ofNat'];have:=h.2;omega
theorem xw {l:Bool}{s:ByteArray}{k:Fo}(h:mixed l s k.len=false):(l=true∧s=⟨#[]⟩)∨(l=false∧k=.nil):=by
 unfold mixed at h;cases l with
 | true=>
  left;simp at h;exact ⟨rfl,h⟩
 | false=>
  right;simp at h;exact ⟨rfl,len_zero h⟩
theorem kw {l l':Bool}{s s':ByteArray}{k k':Fo}{A B:List UInt8}(hm:mixed l s k.len=false)(hm':mixed l' s' k'.len=false)(hk:szF k=(wrF k).length)(hk':szF k'=(wrF k').length)
 (hb:s.size+szF k<0x10000000000000000) (hb':s'.size+szF k'<0x10000000000000000) (ih:wrF k=wrF k'→k=k') (h:wr1 l s (szF k) (wrF k)++A=wr1 l' s' (szF k') (wrF k')++B):l=l'∧s=s'∧k=k'∧A=B:=by
 unfold wr1 at h;cases hs:zR s with
 | true=>
  obtain ⟨b,e,hb1⟩:=uH hs;have hl:=qN hm hs;have hkn:=len_zero hl;have hl0:l=false:=by
   rcases xw hm with ⟨_,q⟩|⟨q,_⟩
   ·rw [q] at hs;exact absurd hs (by decide)
   ·exact q
  rw [if_pos hs,hkn,e] at h;cases hs':zR s' with
  | true=>
   obtain ⟨b',e',_⟩:=uH hs';have hkn':=len_zero (qN hm' hs');have hl0':l'=false:=by
    rcases xw hm' with ⟨_,q⟩|⟨q,_⟩
    ·rw [q] at hs';exact absurd hs' (by decide)
    ·exact q
   rw [if_pos hs',hkn',e'] at h;simp only [wrF,List.nil_append,List.append_nil,List.cons_append,List.cons.injEq] at h;exact ⟨by rw [hl0,hl0'],qM (by rw [e,e',h.1]),by rw [hkn,hkn'],h.2⟩
  | false=>
   obtain ⟨c,t,e2,hc⟩:=zbs l' (s'.size+szF k');rw [if_neg (by rw [hs'];decide),e2] at h;simp only [wrF,List.nil_append,List.append_nil,List.cons_append,List.cons.injEq] at h;rw [h.1] at hb1;omega
 | false=>
  rw [if_neg (by rw [hs];decide)] at h;cases hs':zR s' with
  | true=>
   obtain ⟨b',e',hb1⟩:=uH hs';have hkn':=len_zero (qN hm' hs');obtain ⟨c,t,e2,hc⟩:=zbs l (s.size+szF k);rw [if_pos hs',hkn',e',e2] at h;simp only [wrF,List.nil_append,List.append_nil,List.cons_append,List.cons.injEq] at h;rw [←h.1] at hb1;omega
  | false=>
   rw [if_neg (by rw [hs'];decide)] at h;simp only [List.append_assoc] at h;obtain ⟨hl,hn,hx⟩:=zix hb hb' h;rw [←List.append_assoc,←List.append_assoc] at hx;have hlen:(tl s++wrF k).length=(tl s'++wrF k').length:=by rw [List.length_append,List.length_append,zt,zt,←hk,←hk',hn]
   obtain ⟨q1,q2⟩:=List.append_inj hx hlen;subst hl;rcases xw hm with ⟨hl,e1⟩|⟨hl,e1⟩<;>rcases xw hm' with ⟨hl',e2⟩ | ⟨hl',e2⟩
   ·rw [e1,e2] at q1;exact ⟨rfl,by rw [e1,e2],ih (List.append_cancel_left q1),q2⟩
   ·rw [hl] at hl';cases hl'
   ·rw [hl] at hl';cases hl'
   ·rw [e1,e2] at q1;simp only [wrF,List.append_nil] at q1;exact ⟨rfl,qM q1,by rw [e1,e2],q2⟩
theorem xR: ∀(k k':Fo),pureF k=true→pureF k'=true→(wrF k).length<0x10000000000000000→wrF k=wrF k'→k=k'
 | .nil,.nil,_,_,_,_=>rfl
 | .nil,.cons l s k r,_,hp,_,h=>by
  simp only [pureF,Bool.and_eq_true,Bool.not_eq_true'] at hp;have:=congrArg List.length h;simp only [wrF,List.length_nil,List.length_append] at this;have h2:=(jx hp.1.1 hp.1.2 rfl).1;omega
 | .cons l s k r,.nil,hp,_,_,h=>by
  simp only [pureF,Bool.and_eq_true,Bool.not_eq_true'] at hp;have:=congrArg List.length h;simp only [wrF,List.length_nil,List.length_append] at this;have h2:=(jx hp.1.1 hp.1.2 rfl).1;omega
 | .cons l s k r,.cons l' s' k' r',hp,hp',hb,h=>by
  have hlen:=congrArg List.length h;simp only [pureF,Bool.and_eq_true,Bool.not_eq_true'] at hp hp';simp only [wrF,List.length_append] at hb h hlen;have z1:=qF hp.1.1 (zV hp.1.2);have z2:=qF hp'.1.1 (zV hp'.1.2);have bd: ∀ {l:Bool} {s:ByteArray} {k:Fo},s.size+szF k≤sz1 l s (szF k)∨zR s=true:=fun {l s k} =>by
   unfold sz1;cases zR s with
   | true=>exact .inr rfl
   | false=>left;simp
  have b1:s.size+szF k<0x10000000000000000:=by
   rcases bd (l:=l) (s:=s) (k:=k) with q|q
   ·omega
   ·have:=len_zero (qN hp.1.1 q);subst this;have:=qY q;simp only [szF];omega
  have b2:s'.size+szF k'<0x10000000000000000:=by
   rcases bd (l:=l') (s:=s') (k:=k') with q|q
   ·omega
   ·have:=len_zero (qN hp'.1.1 q);subst this;have:=qY q;simp only [szF];omega
  have hk:=zV hp.1.2;obtain ⟨e1,e2,e3,e4⟩:=kw hp.1.1 hp'.1.1 hk.symm (zV hp'.1.2).symm b1 b2 (fun q=>xR k k' hp.1.2 hp'.1.2 (by omega) q) h;rw [e1,e2,e3,xR r r' hp.2 hp'.2 (by omega) e4]
theorem jm {l:Bool}{s:ByteArray}{k:Fo}(h:(zG l s k.len k).2=0):(zG l s k.len k).1=zh (wr1 l s (szF k) (wrF k))∧mixed l s k.len=false∧pureF k=true∧k.cnt<4000∧dp1 l (dpF k)≤8∧sz1 l s (szF k)≤4000∧(wr1 l s (szF k) (wrF k)).length=sz1 l s (szF k):=by
 unfold zG at h ⊢;cases hv:lf1 l s k.len (lfF k) 4000 with
 | none=>rw [hv] at h;simp at h
 | some y=>
  rw [hv] at h;obtain ⟨h1,h2,h3⟩:=zdq hv;simp only [] at h ⊢;by_cases hd:8<dp1 l (dpF k)
  ·rw [if_pos hd] at h;simp at h
  ·rw [if_neg hd] at h ⊢;by_cases hz:4000<sz1 l s (szF k)
   ·rw [if_pos hz] at h;simp at h
   ·rw [if_neg hz];exact ⟨rfl,h1,h2,h3,by omega,by omega,qF h1 (zV h2)⟩
theorem kx {l:Bool}{s:ByteArray}{k:Fo}(hm:mixed l s k.len=false)(hz:sz1 l s (szF k)≤4000):s.size+szF k≤4000:=by
 unfold sz1 at hz;split at hz
 ·rename_i q
  have:=len_zero (qN hm q);subst this;have:=qY q;simp only [szF];omega
 ·omega
theorem ziy {l l':Bool}{s s':ByteArray}{k k':Fo}{A B:List UInt8}(h:(zG l s k.len k).2=0)(h':(zG l' s' k'.len k').2=0)(he:wr1 l s (szF k) (wrF k)++A=wr1 l' s' (szF k') (wrF k')++B):l=l'∧s=s'∧k=k'∧A=B:=by
 obtain ⟨_,m1,p1,_,_,z1,e1⟩:=jm h;obtain ⟨_,m2,p2,_,_,z2,e2⟩:=jm h';have q1:=kx m1 z1;have q2:=kx m2 z2;have hk:=zV p1;exact kw m1 m2 hk.symm (zV p2).symm (by omega) (by omega) (fun q=>xR k k' p1 p2 (by omega) q) he
def yK (f:Nat)(t:ByteArray):Option (Nat×ByteArray):=
 if f≤55 then some (f,t) else if t.size<f-55 then none else if (zH (t.extract 0 (f-55))).1≤55 then none else some ((zH (t.extract 0 (f-55))).1,t.extract (f-55) t.size)
theorem uI (t:ByteArray)(m:Nat)(h:m≤t.size):tl t=tl (t.extract 0 m)++tl (t.extract m t.size):=by
 rw [qj,qj,List.drop_zero,List.take_of_length_le (l:=tl t) (i:=t.size) (by rw [zt];exact Nat.le_refl _),List.take_append_drop]
theorem jO (t:ByteArray)(a b:Nat)(h:b≤t.size)(hab:a≤b):(t.extract a b).size=b-a:=by
 rw [←zt,qj,List.length_drop,List.length_take,zt,Nat.min_eq_left h]
theorem zbt {t:ByteArray}{A Y:List UInt8}{m:Nat}(h:tl t=A++Y)(hm:m=A.length):tl (t.extract 0 m)=A∧tl (t.extract m t.size)=Y∧m≤t.size:=by
 have hl:t.size=A.length+Y.length:=by rw [←zt,h,List.length_append]
 subst hm;refine ⟨?_,?_,by omega⟩
 ·rw [qj,List.drop_zero,h,List.take_left]
 ·rw [qj,List.take_of_length_le (by rw [zt];exact Nat.le_refl _),h,List.drop_left]
theorem zbu {f n:Nat}{t u:ByteArray}(h:yK f t=some (n,u))(hf:f<64)(base:Nat):UInt8.ofNat (base+f)::tl t=hd base n++tl u∧n<0x10000000000000000∧u.size≤t.size:=by
 unfold yK at h;split at h
 ·rename_i h1
  injection h with h;injection h with e1 e2;subst e1;subst e2
  unfold hd;rw [if_pos h1];exact ⟨rfl,by omega,Nat.le_refl _⟩
 ·rename_i h1
  split at h
  ·cases h
  ·rename_i h2
   split at h
   ·cases h
   ·rename_i h3
    injection h with h;injection h with e1 e2
    have hz:(t.extract 0 (f-55)).size=f-55:=by rw [jO t 0 _ (by omega) (by omega)];omega
    have hs:=uI t (f-55) (by omega);have hu:u.size≤t.size:=by rw [←e2,jO t _ _ (Nat.le_refl _) (by omega)];omega
    generalize t.extract 0 (f-55)=s at*;rw [←e2];have hp:yJ s=false:=by
     cases hp:yJ s with
     | false=>rfl
     | true=>exfalso;apply h3;unfold zH;rw [if_pos (Or.inr hp)];exact Nat.zero_le _
    have hv:(zH s).1=val (tl s):=by unfold zH;rw [if_neg (by rw [hp];simp;omega)]
    have hd1:dg n=tl s:=by rw [←e1,hv,←qW (dg (val (tl s))),(zdK (by omega)).2 hp]
    have hlen:(dg n).length=f-55:=by rw [hd1,zt,hz]
    refine ⟨?_,by rw [←e1,hv];exact zbo (by rw [zt];omega),by rw [e2];exact hu⟩;unfold hd;rw [if_neg (by omega),hlen,show base+55+(f-55)=base+f by omega,hs,hd1];rfl
theorem ziz {f n:Nat}{t:ByteArray}{Y:List UInt8}(l:Bool)(hf:f<64)(hn:n<0x10000000000000000)(h:UInt8.ofNat (frm l+f)::tl t=hd (frm l) n++Y):∃u,yK f t=some (n,u)∧tl u=Y:=by
 have hb:frm l=192∨frm l=128:=by rcases qP l with ⟨_,e⟩ | ⟨_,e⟩<;>omega
 have hdl:=qm n;unfold hd at h;by_cases h1:n≤55
 ·rw [if_pos h1] at h;obtain ⟨e1,e2⟩:=List.cons.inj h;have e3:=xv (by omega) (by omega) e1;have e4:f=n:=by omega
  subst e4;exact ⟨t,by unfold yK;rw [if_pos h1],e2⟩
 ·rw [if_neg h1] at h;obtain ⟨e1,e2⟩:=List.cons.inj h;have e3:=xv (by omega) (by omega) e1;have hp:=vy (show n≠0 by omega);have hfe:f-55=(dg n).length:=by omega
  obtain ⟨c1,c2,c3⟩:=zbt e2 hfe;have hs:t.extract 0 (f-55)=zh (dg n):=qM (by rw [c1,qW]);refine ⟨t.extract (f-55) t.size,?_,c2⟩;unfold yK;rw [if_neg (by omega),if_neg (by omega),hs,zdL hn,if_neg h1]
def jP (t:ByteArray):Prop:= ∀(l:Bool) (s:ByteArray) (k:Fo) (X:List UInt8),mixed l s k.len=false→pureF k=true→tl t≠wr1 l s (szF k) (wrF k)++X
def uJ (t:ByteArray):Prop:= ∀k:Fo,pureF k=true→tl t≠wrF k
def yj (t:ByteArray)(l:Bool)(s:ByteArray)(k:Fo)(u:ByteArray):Prop:=mixed l s k.len=false∧pureF k=true∧tl t=wr1 l s (szF k) (wrF k)++tl u
theorem zdP {t:ByteArray}(h:t.size≠0):tl t=UInt8.ofNat (by_ t 0)::tl (t.extract 1 t.size):=by
 obtain ⟨l,e⟩:=xq h;rw [zdo,e];rfl
theorem zdQ {t:ByteArray}(h:t.size≠0):zR (t.extract 0 1)=decide (by_ t 0<128):=by
 have hz:(t.extract 0 1).size=1:=by rw [jO t 0 1 (by omega) (by omega)]
 have hb:by_ (t.extract 0 1) 0=by_ t 0:=by
  obtain ⟨l,e⟩:=xq h;unfold by_;rw [qj,e];rfl
 unfold zR;rw [hz,hb];simp
theorem ziA {t:ByteArray}{l:Bool}{s:ByteArray}{k:Fo}{X:List UInt8}(ht:t.size≤100000)(hm:mixed l s k.len=false)(hp:pureF k=true)(h:tl t=wr1 l s (szF k) (wrF k)++X):
 t.size≠0∧((by_ t 0<128∧zR s=true)∨(zR s=false∧128≤by_ t 0∧(l=true↔192≤by_ t 0)∧∃u,yK (by_ t 0-frm l) (t.extract 1 t.size)=some (s.size+szF k,u)∧tl u=(tl s++wrF k)++X)):=by
 have h1:=(jx hm hp rfl).1;have hl:t.size=(wr1 l s (szF k) (wrF k)).length+X.length:=by rw [←zt,h,List.length_append]
 have h0:t.size≠0:=by omega
 refine ⟨h0,?_⟩;have hb:=zdP h0;have hlt:=jj t 0;have hpl:=zV hp;unfold wr1 at h hl;cases hs:zR s with
 | true=>
  left;obtain ⟨b,e,hb1⟩:=uH hs;rw [if_pos hs,hb,e] at h;simp only [List.nil_append,List.cons_append] at h;obtain ⟨e1,_⟩:=List.cons.inj h;have:=congrArg UInt8.toNat e1;rw [UInt8.toNat_ofNat_of_lt' (by simpa using hlt)] at this;exact ⟨by omega,rfl⟩
 | false=>
  right;rw [if_neg (by rw [hs];decide)] at h hl;rw [List.length_append,List.length_append,zt] at hl;obtain ⟨b,r,e,hb1⟩:=zbs l (s.size+szF k);have h9:=h;rw [hb,e] at h9;simp only [List.cons_append] at h9;obtain ⟨e1,_⟩:=List.cons.inj h9;have h128:128≤by_ t 0:=by
   have:=congrArg UInt8.toNat e1;rw [UInt8.toNat_ofNat_of_lt' (by simpa using hlt)] at this;omega
  have hrange:frm l≤by_ t 0∧by_ t 0<frm l+64:=by
   have hdl:=qm (s.size+szF k);have hfb:frm l=192∨frm l=128:=by rcases qP l with ⟨_,e⟩ | ⟨_,e⟩<;>omega
   unfold hd at e;split at e
   ·obtain ⟨q,_⟩:=List.cons.inj e;rw [←q] at e1;have:=xv hlt (by omega) e1;omega
   ·obtain ⟨q,_⟩:=List.cons.inj e;rw [←q] at e1;have:=xv hlt (by omega) e1;omega
  refine ⟨rfl,h128,?_,?_⟩
  ·rcases qP l with ⟨q,e2⟩|⟨q,e2⟩
   ·rw [q];simp;omega
   ·rw [q];simp;omega
  ·refine ziz l (by omega) (by omega) ?_;rw [show frm l+(by_ t 0-frm l)=by_ t 0 by omega,←hb,h,List.append_assoc]
theorem ziB {t:ByteArray}(h:t.size<1):jP t:=fun l s k X hm hp he=>by
 have h1:=(jx hm hp rfl).1;have hl:=congrArg List.length he;rw [zt,List.length_append] at hl;omega
theorem ziC {t:ByteArray}(h0:t.size≠0)(hb:by_ t 0<128):yj t false (t.extract 0 1) .nil (t.extract 1 t.size):=by
 have hs:zR (t.extract 0 1)=true:=by rw [zdQ h0];exact decide_eq_true hb
 refine ⟨by simp [mixed,Fo.len],rfl,?_⟩;unfold wr1;rw [if_pos hs];simp only [wrF,List.append_nil,List.nil_append];exact uI t 1 (by omega)
theorem zdR {t u:ByteArray}{b n:Nat}(l:Bool)(h0:t.size≠0)(hb:by_ t 0=b)(hl:frm l≤b)(hf:b-frm l<64)(hc:yK (b-frm l) (t.extract 1 t.size)=some (n,u)):tl t=hd (frm l) n++tl u:=by
 have:=(zbu hc hf (frm l)).1;rw [show frm l+(b-frm l)=b by omega] at this;rw [zdP h0,hb];exact this
theorem ziD {t u:ByteArray}{n:Nat}(h0:t.size≠0)(h1:128≤by_ t 0)(h2:by_ t 0<192)(hc:yK (by_ t 0-128) (t.extract 1 t.size)=some (n,u))(hn:n≤u.size)(hs:zR (u.extract 0 n)=false):yj t false (u.extract 0 n) .nil (u.extract n u.size):=by
 have hz:(u.extract 0 n).size=n:=by rw [jO u 0 n hn (by omega)];omega
 refine ⟨by simp [mixed,Fo.len],rfl,?_⟩;unfold wr1;rw [if_neg (by rw [hs];decide),hz];have:=zdR (b:=by_ t 0) false h0 rfl h1 (show _-128<64 by omega) hc;rw [this,uI u n hn];simp only [szF,wrF,Nat.add_zero,List.append_nil,List.append_assoc]
theorem ziE {t u:ByteArray}{n:Nat}{k:Fo}(h0:t.size≠0)(h2:192≤by_ t 0)(hc:yK (by_ t 0-192) (t.extract 1 t.size)=some (n,u))(hn:n≤u.size)(hp:pureF k=true)(hk:tl (u.extract 0 n)=wrF k):yj t true ⟨#[]⟩ k (u.extract n u.size):=by
 have hlt:=jj t 0;have hz:(u.extract 0 n).size=n:=by rw [jO u 0 n hn (by omega)];omega
 have hpl:=zV hp;have hn2:n=szF k:=by rw [←hz,←zt,hk,hpl]
 refine ⟨rfl,hp,?_⟩;have hs:zR ⟨#[]⟩=false:=by decide
 unfold wr1;rw [if_neg (by rw [hs];decide)];have:=zdR (b:=by_ t 0) true h0 rfl h2 (show _-192<64 by omega) hc;have h9:(ByteArray.size ⟨#[]⟩)+szF k=n:=by rw [hn2];exact Nat.zero_add _
 rw [h9,this,uI u n hn,hk];show _=hd (frm true) n++([]++wrF k)++_;simp only [List.nil_append,List.append_assoc]
theorem uK {t:ByteArray}(l:Bool)(ht:t.size≤100000)(h0:t.size≠0)(h1:128≤by_ t 0)(hl:l=true↔192≤by_ t 0)
 (hb: ∀n u,yK (by_ t 0-frm l) (t.extract 1 t.size)=some (n,u)→ ∀(s:ByteArray) (k:Fo) (X:List UInt8),mixed l s k.len=false→pureF k=true→zR s=false→n=s.size+szF k→n=(tl s++wrF k).length→tl u=(tl s++wrF k)++X→False):jP t:=fun l' s k X hm hp he=>by
 obtain ⟨_,h|⟨hs,_,hl',u,hc,hu⟩⟩:=ziA ht hm hp he
 ·omega
 ·have e:l'=l:=by
   have h8:(l'=true)=(l=true):=propext (hl'.trans hl.symm);cases l<;>cases l'<;>first | rfl | (simp only [Bool.false_eq_true,eq_iff_iff,false_iff,iff_false,true_iff,iff_true,not_true_eq_false] at h8)
  subst e;exact hb _ _ hc s k X hm hp hs rfl (by rw [List.length_append,zt,zV hp]) hu
theorem zdS {t:ByteArray}(l:Bool)(ht:t.size≤100000)(h0:t.size≠0)(h1:128≤by_ t 0)(hl:l=true↔192≤by_ t 0)(hc:yK (by_ t 0-frm l) (t.extract 1 t.size)=none):jP t:=
 uK l ht h0 h1 hl fun n u h=>by rw [hc] at h;cases h
theorem zdT {t u:ByteArray}{n:Nat}(l:Bool)(ht:t.size≤100000)(h0:t.size≠0)(h1:128≤by_ t 0)(hl:l=true↔192≤by_ t 0)(hc:yK (by_ t 0-frm l) (t.extract 1 t.size)=some (n,u))(hn:u.size<n):jP t:=
 uK l ht h0 h1 hl fun n' u' h s k X _ _ _ _ hlen hu=>by
  rw [hc] at h;injection h with h;injection h with e1 e2;subst e1;subst e2
  have:=congrArg List.length hu;rw [List.length_append,←hlen,zt] at this;omega
theorem ziF {t u:ByteArray}{n:Nat}(ht:t.size≤100000)(h0:t.size≠0)(h1:128≤by_ t 0)(h2:by_ t 0<192)(hc:yK (by_ t 0-128) (t.extract 1 t.size)=some (n,u))(hs:zR (u.extract 0 n)=true):jP t:=
 uK false ht h0 h1 (by simp;omega) fun n' u' h s k X hm hp hs' _ hlen hu=>by
  rw [show by_ t 0-frm false=by_ t 0-128 from rfl,hc] at h;injection h with h;injection h with e1 e2;subst e1;subst e2
  rcases xw hm with ⟨q,_⟩|⟨_,q⟩
  ·cases q
  ·subst q;have h9:=(zbt hu hlen).1;simp only [wrF,List.append_nil] at h9;rw [qM h9] at hs;rw [hs] at hs';cases hs'
theorem ziG {t u:ByteArray}{n:Nat}(ht:t.size≤100000)(h0:t.size≠0)(h2:192≤by_ t 0)(hc:yK (by_ t 0-192) (t.extract 1 t.size)=some (n,u))(hs:uJ (u.extract 0 n)):jP t:=
 uK true ht h0 (by omega) (by simp;omega) fun n' u' h s k X hm hp hs' _ hlen hu=>by
  rw [show by_ t 0-frm true=by_ t 0-192 from rfl,hc] at h;injection h with h;injection h with e1 e2;subst e1;subst e2
  rcases xw hm with ⟨_,q⟩|⟨q,_⟩
  ·subst q;exact hs k hp (zbt hu hlen).1
  ·cases q
theorem zdU {t u:ByteArray}{l:Bool}{s:ByteArray}{k k':Fo}(ht:t.size≤100000)(h:yj t l s k u)(hp:pureF k'=true)(he:tl t=wrF k'):∃r,pureF r=true∧tl u=wrF r:=by
 obtain ⟨hm,hpk,hi⟩:=h;have hlen:=congrArg List.length hi;rw [zt,List.length_append,qF hm (zV hpk)] at hlen;have hsz:sz1 l s (szF k)≤100000:=by omega
 cases k' with
 | nil=>
  exfalso;have h1:=(jx hm hpk rfl).1;rw [hi] at he;have:=congrArg List.length he;simp only [wrF,List.length_append,List.length_nil] at this;omega
 | cons l' s' kk r=>
  simp only [pureF,Bool.and_eq_true,Bool.not_eq_true'] at hp;have h9:=he;have hlen2:=congrArg List.length he;simp only [wrF] at hlen2;rw [zt,List.length_append,qF hp.1.1 (zV hp.1.2)] at hlen2;have hsz2:sz1 l' s' (szF kk)≤100000:=by omega
  have hpay: ∀(l:Bool) (s:ByteArray) (k:Fo),sz1 l s (szF k)≤100000→mixed l s k.len=false→s.size+szF k≤100000:=fun l s k h hm=>by
   unfold sz1 at h;split at h
   ·rename_i q
    have h1:=qY q;have h2:=len_zero (qN hm q);rw [h2];simp only [szF];omega
   ·omega
  have hx:=hpay l s k hsz hm;have hy:=hpay l' s' kk hsz2 hp.1.1;rw [hi] at h9;simp only [wrF] at h9;obtain ⟨_,_,_,hX⟩:=kw hm hp.1.1 (zV hpk).symm (zV hp.1.2).symm (by omega) (by omega) (fun q=>xR k kk hpk hp.1.2 (by rw [zV hpk];omega) q) h9;exact ⟨r,hp.2,hX⟩
def qG (w:World)(p:Option Addr)(L:List X3):Prop:=L=[]∨∃b off,p=some ⟨b,off,none⟩∧ ∀(j:Nat) (u:Value),(cells3 L)[j]? =some u→w.cell? ⟨b,off+j,none⟩=some u
theorem qG.up {w w':World}{p:Option Addr}{L:List X3}(h:qG w p L)(hb:Below w.heap.size w w'):qG w' p L:=by
 rcases h with h|⟨b,off,e,h⟩
 ·exact .inl h
 ·refine .inr ⟨b,off,e,fun j u hj=>?_⟩;have h1:=h j u hj;have hlt:b<w.heap.size:=by
   rcases Nat.lt_or_ge b w.heap.size with q|q
   ·exact q
   ·simp [World.cell?,Array.getElem?_eq_none q] at h1
  rw [←h1];unfold World.cell?;rw [hb.block b hlt]
theorem Rw.cellsAt {cur:Array Value}{cap n:Nat}{L:List X3}(h:Rw 3 cur cap n (cells3 L)){w:World}{b:Nat}{T:TypeId}{fz:Nat×Nat}(hh:w.heap[b]? =some (.cells cur T fz)):n=L.length∧qG w (some ⟨b,0,none⟩) L:=by
 have hl:=h.len;rw [jy] at hl;refine ⟨by omega,.inr ⟨b,0,rfl,fun j u hj=>?_⟩⟩;have hlt:j<n*3:=by have:=(List.getElem?_eq_some_iff.1 hj).1;rw [jy] at this;omega
 rw [Nat.zero_add];simp [World.cell?,hh,h.get j hlt,hj]
def vz (T:TypeId)(mk:Value→Value)(n:Nat)(L:List X3):Nat→Value→World→Prop:=fun B v w'=>
 (n=0∧v=mk (.slice none 0 0))∨∃b cap cur,v=mk (.slice (some ⟨b,0,none⟩) n cap)∧B≤b∧w'.heap[b]? =some (.cells cur T (0,0))∧Rw 3 cur cap n (cells3 L)
section
variable {P:Program}{N:Nat}{ops:Array Oper}{i:Nat}{r:List Nat}{K:Env→World→Prop}{ρ:Env}{w:World}{B:Nat}{w0:World}{l:List (Nat×Obj)}
theorem zbv (HS:St B w0 w l)(d:Option Nat)(f:Nat)(args:Array Value)(pre:World→Prop)(T:TypeId)(mk:Value→Value)(n:Nat)(L:List X3)(hc:FnR P f args pre (vz T mk n L))(hp:pre w)
 (h:opv P ops i ρ w=some (d,true,.ok (.enter f args) w)) (hd:dOK d N=true)
 (k0: ∀w',n=0→St B w0 w' l→WPs P N ops K r (zm ρ d (mk (.slice none 0 0))) w')
 (kk: ∀b cap cur w',St B w0 w' ((b,.cells cur T (0,0))::l)→Rw 3 cur cap n (cells3 L)→WPs P N ops K r (zm ρ d (mk (.slice (some ⟨b,0,none⟩) n cap))) w'):WPs P N ops K (i::r) ρ w:=by
 obtain ⟨o,ho,rfl,hw,hr⟩:=zO h;refine WPo.run ho hw fun a ha=>?_;rw [hr,Oper.upon_enter];refine (hc w hp).mono ?_;rintro e w' ⟨v,rfl,hb,⟨h0,rfl⟩|⟨b,cap,cur,rfl,hle,hh,hr⟩⟩
 ·exact ⟨_,ha.put _ (zN hd) _,k0 w' h0 (HS.call hb)⟩
 ·exact ⟨_,ha.put _ (zN hd) _,kk b cap cur w' (HS.add hb hle hh) hr⟩
theorem ziH (HS:St B w0 w l)(d:Option Nat)(t e:TypeId)(bytes:Nat)(s x:Operand)(j b n m cap c:Nat)(p:Option Addr)(cur:Array Value)(xs:List Value)(L:List X3)(l':Nat→Array Value→List (Nat×Obj))
 (h:opk ops i ρ=some (d,true,yp t s x)) (hd:dOK d N=true) (ht:ye P t=some (e,3,bytes))
 (hs:ev ρ s=.slice (some ⟨b,0,none⟩) n cap) (hj:l[j]? =some (b,.cells cur e (0,0))) (hr:Rw 3 cur cap n xs)
 (hx:ev ρ x=.slice p m c) (hm:m=L.length) (hp:p≠none) (hc:qG w p L)
 (hb:(n+m)*bytes≤0x800000000000) (hmx:n+m≤maxLen)
 (hl': ∀b' cur',l.set j (b',.cells cur' e (0,0))=l' b' cur')
 (kk: ∀b' cap' cur' w',St B w0 w' (l' b' cur')→Rw 3 cur' cap' (n+m) (xs++cells3 L)→WPs P N ops K r (zm ρ d (.slice (some ⟨b',0,none⟩) (n+m) cap')) w'):WPs P N ops K (i::r) ρ w:=by
 obtain ⟨o,ho,rfl,hw,hop⟩:=zD h;obtain ⟨it,z,hu,hi,hz,hsz,hby,hzs,h0⟩:=qb ht;obtain ⟨a,rfl⟩:∃a,p=some a:=by cases p with
  | none=>exact absurd rfl hp
  | some a=>exact ⟨a,rfl⟩
 have hnews: ∀q u,(cells3 L)[q]? =some u→w.cell? (a.add q)=some u:=fun q u hq=>by
  rcases hc with rfl|⟨b',off,e',h9⟩
  ·simp [cells3] at hq
  ·obtain rfl:a=⟨b',off,none⟩:=Option.some.inj e';rw [qh];exact h9 q u hq
 obtain ⟨v',w',hrun,hown,hgr,hnil,hblk⟩:=run_append_own_at (P:=P) w B t o.type e it z 3 bytes hu hi hz hsz hby hzs h0 _ n xs (hr.owns (HS.ge j hj) (HS.get j hj)) a m c (cells3 L) (by rw [jy,hm]) hnews (uD L) hmx hb HS.le;have hown':=hown;rcases hown'.2 with ⟨hv,_⟩|⟨g,cap',cur',rfl,hbg,hg,hnc,hcm,hcs,htk⟩
 ·exact absurd (hnil.1 hv).1 (by simp)
 ·have hgb:g=b∨g=w.heap.size:=by
   rcases hblk with hq|hq
   ·left;injection hq
   ·right;injection hq
  have HS':=HS.grown j hj hgr hgb hg;rw [hl'] at HS';refine WPo.run ho hw fun a' ha=>?_;have hex:(execOp (ev ρ) o).run P w=.ok (.value (.slice (some ⟨g,0,none⟩) (n+m) cap')) w':=by
   unfold execOp;simp only [hop,yp,resolve,invoke,builtin,Sem.run_bind,Sem.run_pure,Result.andThen_ok,List.map_toArray,List.map_cons,List.map_nil,hs,hx,hrun]
  rw [hex,Oper.upon_value];exact ⟨_,ha.put _ (zN hd) _,kk g cap' cur' w' HS' ⟨hown.1,hnc,hcm,htk,hcs⟩⟩
end
def vA (P:Program)(N:Nat)(ops:Array Oper)(Q:Exit→Env→World→Prop)(i:Nat)(K:Env→World→Prop)(ρ:Env)(w:World):Prop:=
 ∀a,Rep a ρ N→wpOp P ops (yU N Q) i (fun a' w'=> ∃ρ',Rep a' ρ' N∧K ρ' w') a w
def ym (P:Program)(N:Nat)(ops:Array Oper)(Q:Exit→Env→World→Prop)(K:Env→World→Prop):List Nat→Env→World→Prop
 | [],ρ,w=>K ρ w
 | i::r,ρ,w=>vA P N ops Q i (ym P N ops Q K r) ρ w
section
variable {P:Program}{N:Nat}{ops:Array Oper}{Q:Exit→Env→World→Prop}{K:Env→World→Prop}{ρ:Env}{w:World}{i:Nat}{r:List Nat}{c:Code}
theorem ym.sound: ∀(l:List Nat) (ρ:Env) (w:World),ym P N ops Q (Q .normal) l ρ w→ ∀a,Rep a ρ N→wpOps P ops (yU N Q) l a w
 | [],ρ,w,h,a,ha=>⟨ρ,ha,h⟩
 | i::r,ρ,w,h,a,ha=>by
  rw [wpOps_cons];exact wpOp_mono (fun a' w' ⟨ρ',hr,h'⟩=>ym.sound r ρ' w' h' a' hr) (h a ha)
theorem WP.regionX {id:Nat}(l:List Nat)(hl:List.range ops.size=l)(h:ym P N ops Q (Q .normal) l ρ w):WP P N (.region id ops false) Q ρ w:=fun a ha=>
 wp_region (by rw [hl];exact ym.sound l ρ w h a ha)
theorem jQ (l1:List Nat){l l2:List Nat}(hl:l=l1++l2)(h:WPs P N ops (fun ρ w=>ym P N ops Q K l2 ρ w) l1 ρ w):ym P N ops Q K l ρ w:=by
 subst hl
 induction l1 generalizing ρ w with
 | nil=>exact h
 | cons i r ih=>
  intro a ha;exact wpOp_mono (fun a' w' ⟨ρ',hr,h'⟩=>⟨ρ',hr,ih h'⟩) (zci (h a ha))
theorem vA.run {o:Oper}(ho:ops[i]? =some o)(hw:Region.wanted o (zC ops ρ)=true)
 (h: ∀a,Rep a ρ N→Oper.upon P o a (fun a' w'=> ∃ρ',Rep a' ρ' N∧K ρ' w') (yU N Q) ((execOp (ev ρ) o).run P w)):vA P N ops Q i K ρ w:=fun a ha=>by
 unfold wpOp;simp only [ho,qU ha,hw,if_true];refine .inl ?_;unfold Oper.wp;rw [ha.eval];exact h a ha
theorem zdV (d:Option Nat)(f:Nat)(args:Array Value)(R:Ending→World→Prop)(hc:Calls P f args w R)(h:opv P ops i ρ w=some (d,true,.ok (.enter f args) w))(hd:dOK d N=true)
 (kk: ∀e w',R e w'→(∃v,e=.returned v∧ym P N ops Q K r (zm ρ d v) w')∨(∃ch,e=.panicked ch∧Q (.panic ch) ρ w')):ym P N ops Q K (i::r) ρ w:=by
 obtain ⟨o,ho,rfl,hw,hr⟩:=zO h;refine vA.run ho hw fun a ha=>?_;rw [hr,Oper.upon_enter];refine hc.mono ?_;intro e w' hR;rcases kk e w' hR with ⟨v,rfl,hk⟩|⟨ch,rfl,hq⟩
 ·exact ⟨_,ha.put _ (zN hd) v,hk⟩
 ·exact ⟨ρ,ha,hq⟩
theorem uL (d:Option Nat)(v:Value)(h:opv P ops i ρ w=some (d,true,.halt (.panic v) w))(hq:Q (.panic [{ v,recovered:=false }]) ρ w):ym P N ops Q K (i::r) ρ w:=by
 obtain ⟨o,ho,rfl,hw,hr⟩:=zO h;refine vA.run ho hw fun a ha=>?_;rw [hr,Oper.upon_panic];exact ⟨ρ,ha,hq⟩
theorem uM (l:List Nat)(hc:qC c=some (l,false))(h:ym P N (zi c) Q (Q .normal) l ρ w):WP P N c Q ρ w:=by
 obtain ⟨id,he,hl⟩:=xK hc;rw [he];exact WP.regionX l hl h
theorem uN (l:List Nat)(hc:yV c=true)(hr:qC (zy c)=some (l,false))(h:ym P N (zi (zy c)) (nx (WP P N (zx c) Q) Q) (WP P N (zx c) Q) l ρ w):WP P N c Q ρ w:=
 zc hc (uM l hr h)
end
def zbw (P:Program)(rs:List ResultVar)(R:Value→World→Prop)(RP:List PanicEntry→World→Prop):Exit→Env→World→Prop
 | .normal,ρ,w | .ret,ρ,w=> ∃vs,Res P w ρ rs vs∧R (jv vs) w
 | .panic ch,_,w=>RP ch w
 | _,_,_=>False
theorem zdW {P:Program}{f:Nat}{fn:Func}{c:Code}{rs:List ResultVar}{N:Nat}{args:Array Value}{w:World}{R:Value→World→Prop}{RP:List PanicEntry→World→Prop}(hf:P.funcs[f]? =some fn)(hb:fn.body=some c)(hr:fn.results.toList=rs)(hn:args.size+(fn.ntmps-args.size)=N)
 (h:WP P N c (zbw P rs R RP) (ini args) w):Calls P f args w fun e w'=>(∃v,e=.returned v∧R v w')∨(∃ch,e=.panicked ch∧RP ch w'):=by
 subst hr;refine calls_of_wp hf hb (Go.wp_mono (h { tmps:=args++Array.replicate (fn.ntmps-args.size) undef,defers:=[] } ⟨rfl,by simp [hn],fun t=>?_⟩) ?_)
 ·unfold ini;rw [jF,jF,Array.getElem?_append];split
  ·rfl
  ·rename_i hge
   rw [Array.getElem?_eq_none (Nat.le_of_not_lt hge)];cases he:(Array.replicate (fn.ntmps-args.size) undef)[t-args.size]? with
   | none=>rfl
   | some v=>
    have:=Array.mem_of_getElem? he;simp at this;simp [this]
 ·rintro e a w' ⟨ρ,ha,hq⟩;cases e with
  | normal=>obtain ⟨vs,hR,hv⟩:=hq;exact ⟨ha.defers,_,hR.run ha,.inl ⟨_,rfl,hv⟩⟩
  | ret=>obtain ⟨vs,hR,hv⟩:=hq;exact ⟨ha.defers,_,hR.run ha,.inl ⟨_,rfl,hv⟩⟩
  | panic ch=>exact ⟨ha.defers,.inr ⟨_,rfl,hq⟩⟩
  | _=>exact (hq:False).elim
def qQ (T:List (Nat×Obj)):Fo→Nat→Nat→Prop
 | .nil,_,_=>True
 | .cons l s k r,b,off=>(∃(C:Array Value) (ty:TypeId) (fz:Nat×Nat) (p:Option Addr) (n c:Nat),(b,Obj.cells C ty fz)∈T∧off+3≤C.size∧
  C.extract off (off+3)=#[.bool l,.string s,.slice p n c]∧s.size≤0x800000000000∧n=k.len∧n≤0x800000000000∧(k=.nil∨∃b' off',p=some ⟨b',off',none⟩∧qQ T k b' off'))∧qQ T r b (off+3)
def SlIn (T:List (Nat×Obj))(p:Option Addr)(n:Nat)(k:Fo):Prop:=n=k.len∧n≤0x800000000000∧(k=.nil∨∃b off,p=some ⟨b,off,none⟩∧qQ T k b off)
theorem qQ.mono {T T':List (Nat×Obj)}(h: ∀e∈T,e∈T'): ∀ {k:Fo} {b off:Nat},qQ T k b off→qQ T' k b off
 | .nil,_,_,_=>trivial
 | .cons l s k r,b,off,⟨⟨C,ty,fz,p,n,c,h1,h2,h3,h4,h5,h6,h7⟩,h8⟩=>⟨⟨C,ty,fz,p,n,c,h _ h1,h2,h3,h4,h5,h6,h7.imp id fun ⟨b',o',e,q⟩=>⟨b',o',e,qQ.mono h q⟩⟩,qQ.mono h h8⟩
theorem SlIn.mono {T T':List (Nat×Obj)}{p:Option Addr}{n:Nat}{k:Fo}(hs:SlIn T p n k)(h: ∀e∈T,e∈T'):SlIn T' p n k:=
 ⟨hs.1,hs.2.1,hs.2.2.imp id fun ⟨b,o,e,q⟩=>⟨b,o,e,q.mono h⟩⟩
theorem qQ.at {B:Nat}{w0 w:World}{l T:List (Nat×Obj)}(hS:St B w0 w l)(h: ∀e∈T,e∈l): ∀ {k:Fo} {b off:Nat},qQ T k b off→qE w.heap.size w k b off
 | .nil,_,_,_=>trivial
 | .cons l s k r,b,off,⟨⟨C,ty,fz,p,n,c,h1,h2,h3,h4,h5,h6,h7⟩,h8⟩=>
  have hh:=(hS.own _ (h _ h1)).2
  ⟨⟨C,ty,fz,p,n,c,zv hh,hh,h2,h3,h4,h5,h6,h7.imp id fun ⟨b',o',e,q⟩=>⟨b',o',e,qQ.at hS h q⟩⟩,qQ.at hS h h8⟩
theorem SlIn.at {B:Nat}{w0 w:World}{l T:List (Nat×Obj)}{p:Option Addr}{n:Nat}{k:Fo}(hs:SlIn T p n k)(hS:St B w0 w l)(h: ∀e∈T,e∈l):zr w.heap.size w p n k:=
 ⟨hs.1,hs.2.1,hs.2.2.imp id fun ⟨b,o,e,q⟩=>⟨b,o,e,q.at hS h⟩⟩
def AllIn (T:List (Nat×Obj))(L:List X3):Prop:= ∀x∈L,SlIn T x.p x.n x.k∧x.s.size≤0x800000000000
theorem zdX {T:List (Nat×Obj)}{b:Nat}{C:Array Value}{ty:TypeId}{fz:Nat×Nat}(hm:(b,Obj.cells C ty fz)∈T): ∀(L:List X3) (o:Nat),
 (∀(i:Nat) (x:X3),L[i]? =some x→C[o+i*3]? =some (.bool x.l)∧C[o+i*3+1]? =some (.string x.s)∧C[o+i*3+2]? =some (.slice x.p x.n x.c))→AllIn T L→qQ T (toFo L) b o
 | [],_,_,_=>trivial
 | x::r,o,h,hA=>by
  obtain ⟨h1,h2,h3⟩:=h 0 x rfl;simp only [Nat.zero_mul,Nat.add_zero] at h1 h2 h3;have ha:=hA x (List.mem_cons_self ..);refine ⟨⟨C,ty,fz,x.p,x.n,x.c,hm,(ex3 h1 h2 h3).1,(ex3 h1 h2 h3).2,ha.2,ha.1.1,ha.1.2.1,ha.1.2.2⟩,?_⟩;refine zdX hm r (o+3) (fun i y hy=>?_) fun y hy=>hA y (List.mem_cons_of_mem _ hy);have:=h (i+1) y (by simpa using hy);rw [show o+(i+1)*3=o+3+i*3 by omega] at this;exact this
theorem Rw.slIn {cur:Array Value}{cap n:Nat}{L:List X3}(h:Rw 3 cur cap n (cells3 L)){T:List (Nat×Obj)}{b:Nat}{ty:TypeId}{fz:Nat×Nat}(hm:(b,Obj.cells cur ty fz)∈T)(hA:AllIn T L)(hn:n≤0x800000000000):SlIn T (some ⟨b,0,none⟩) n (toFo L):=by
 have hl:=h.len;rw [jy] at hl;refine ⟨by rw [zdE];omega,hn,.inr ⟨b,0,rfl,zdX hm L 0 (fun i x hx=>?_) hA⟩⟩;have:=h.at3 hx;rw [Nat.zero_add];exact this
theorem zbx {a:Nat}(h:a≤255):IntKind.u8.wrap (a:Int)=(a:Int):=by rw [IntKind.wrap_u8];omega
abbrev dc (t:ByteArray):Obj:=.cells #[.string t] 88 (0,0)
def chF:List PanicEntry:=[{ v:=.iface 31 (.int .i64 4),recovered:=false }]
def FnX (P:Program)(f:Nat)(args:Array Value)(bd:Nat)(t:ByteArray)(ok:ByteArray→Value→List (Nat×Obj)→Prop)(bad:Prop):Prop:=
 ∀(B:Nat) (w0 w:World) (L:List (Nat×Obj)),St B w0 w ((bd,dc t)::L)→Calls P f args w fun e w'=>
  (∃v u T,e=.returned v∧ok u v T∧St B w0 w' ((bd,dc u)::(T++L)))∨(e=.panicked chF∧bad∧St B w0 w' L)
abbrev ziI (P:Program)(rs:List ResultVar)(B:Nat)(w0:World)(bd:Nat)(L:List (Nat×Obj))(ok:ByteArray→Value→List (Nat×Obj)→Prop)(bad:Prop):Exit→Env→World→Prop:=
 zbw P rs (fun v w'=> ∃u T,ok u v T∧St B w0 w' ((bd,dc u)::(T++L))) (fun ch w'=>ch=chF∧bad∧St B w0 w' L)
theorem FnX.intro {P:Program}{f:Nat}{fn:Func}{c:Code}(rs:List ResultVar)(N:Nat){args:Array Value}{bd:Nat}{t:ByteArray}{ok:ByteArray→Value→List (Nat×Obj)→Prop}{bad:Prop}(hf:P.funcs[f]? =some fn)(hb:fn.body=some c)(hr:fn.results.toList=rs)(hn:args.size+(fn.ntmps-args.size)=N)
 (h: ∀B w0 w L,St B w0 w ((bd,dc t)::L)→WP P N c (ziI P rs B w0 bd L ok bad) (ini args) w):FnX P f args bd t ok bad:=fun B w0 w L HS=>
 (zdW hf hb hr hn (h B w0 w L HS)).mono fun e w' q=>by
  rcases q with ⟨v,he,u,T,h1,h2⟩|⟨ch,he,h0,h1,h2⟩
  ·exact .inl ⟨v,u,T,he,h1,h2⟩
  ·exact .inr ⟨by rw [he,h0],h1,h2⟩
section
variable {P:Program}{N:Nat}{ops:Array Oper}{Q:Exit→Env→World→Prop}{K:Env→World→Prop}{ρ:Env}{w w0:World}{i B:Nat}{r:List Nat}{l:List (Nat×Obj)}
theorem xS {bd:Nat}{t:ByteArray}{L:List (Nat×Obj)}(HS:St B w0 w l)(hp:((bd,dc t)::L).Perm l)(d:Option Nat)(f:Nat)(args:Array Value){ok:ByteArray→Value→List (Nat×Obj)→Prop}{bad:Prop}(hc:FnX P f args bd t ok bad)
 (h:opv P ops i ρ w=some (d,true,.ok (.enter f args) w)) (hd:dOK d N=true)
 (kp: ∀w',bad→St B w0 w' L→Q (.panic chF) ρ w')
 (kk: ∀v u T w',ok u v T→St B w0 w' ((bd,dc u)::(T++L))→ym P N ops Q K r (zm ρ d v) w'):ym P N ops Q K (i::r) ρ w:=
 zdV d f args _ (hc B w0 w L (HS.perm hp)) h hd fun e w' q=>by
  rcases q with ⟨v,u,T,he,h1,h2⟩|⟨he,h1,h2⟩
  ·exact .inl ⟨v,he,kk v u T w' h1 h2⟩
  ·exact .inr ⟨chF,he,kp w' h1 h2⟩
theorem jR (l1:List Nat)(h:WPs P N ops K l1 ρ w):ym P N ops Q K l1 ρ w:=jQ l1 (l2:=[]) (by simp) h
end
theorem uO (bd m:Nat)(t:ByteArray)(ht:t.size≤100000):FnX Tryz.prog 67 #[.pointer (some ⟨bd,0,none⟩),.int .u64 (m:Int)] bd t (fun u v T=>m≤t.size∧v=.string (t.extract 0 m)∧u=t.extract m t.size∧T=[]) (t.size<m):=by
 refine FnX.intro (c:=zf Tryz.f67) [.tmp 4] 31 Tryz.func67 kr kr kr fun B w0 w L H0=>rS [.v] H0 kr fun gs1 w1 H1=>zc kr ?_;by_cases hm:m≤t.size
 ·refine rS [.v,.v,.v,.v,.l 0,.v,.E (.int .u64 (IntKind.u64.wrap ((ByteArray.size t:Int)))) (.int .u64 (ByteArray.size t:Int)) (zo (xl (a:=ByteArray.size t) (by omega))),.E (.bool (decide ((ByteArray.size t:Int)<(m:Int)))) (.bool false) (za (decide_eq_false (by omega)))] H1 kr fun gs2 w2 H2=>zl kr kr<|zn kr<|wW<|rS [.v,.v,.v,.l 0,.v,.o (ins:=[((.tmp 18),.string t),((.tmp 19),.int .u64 (m:Int))]) (v:=.string (ByteArray.extract t 0 m)) (fun ρ o w ho hi=>xm (t:=9) (kd:=.u64) kr (x:=(.tmp 18)) (y:=(.tmp 19)) t m ho hi.1 hi.2.1 (by omega) w),.v] H2 kr fun gs3 w3 H3=>rS [.v,.v,.v,.v,.l 0,.v,.o (ins:=[((.tmp 25),.string t),((.tmp 26),.int .u64 (m:Int))]) (v:=.string (ByteArray.extract t m (ByteArray.size t))) (fun ρ o w ho hi=>zcX (t:=9) (kz:=.u64) kr (x:=(.tmp 25)) (z:=(.tmp 26)) t m ho hi.1 hi.2.1 (by omega) w),.v,.v,.s 0] H3 kr fun gs4 w4 H4=>rS [.v,.v] H4 kr fun gs5 w5 H5=>zk kr<|wV ?_;exact ⟨[.string (t.extract 0 m)],(.tmp (.string (t.extract 0 m)) kr .nil),_,[],⟨hm,rfl,rfl,rfl⟩,H5.as kr⟩
 ·refine rS [.v,.v,.v,.v,.l 0,.v,.E (.int .u64 (IntKind.u64.wrap ((ByteArray.size t:Int)))) (.int .u64 (ByteArray.size t:Int)) (zo (xl (a:=ByteArray.size t) (by omega))),.E (.bool (decide ((ByteArray.size t:Int)<(m:Int)))) (.bool true) (za (decide_eq_true (by omega)))] H1 kr fun gs2 w2 H2=>zj kr kr<|uM [0,1] kr<|jQ [0] (l2:=[1]) rfl<|rp [.v] H2 kr fun gs3 w3 H3=>wX []<|zb<|uL none (.iface 31 (.int .i64 4)) kr ?_;have H4:St B w0 w3 ((bd,dc t)::L):=H3.as kr;exact ⟨rfl,by omega,H4.sub (List.sublist_cons_self ..)⟩
theorem zdY (bd f:Nat)(t:ByteArray)(hf:f<64)(ht:t.size≤100000):FnX Tryz.prog 69 #[.pointer (some ⟨bd,0,none⟩),.int .u8 (f:Int)] bd t (fun u v T=> ∃n,yK f t=some (n,u)∧v=.int .u64 ((n:Nat):Int)∧T=[]) (yK f t=none):=by
 refine FnX.intro (c:=zf Tryz.f69) [.tmp 4] 24 Tryz.func69 kr kr kr fun B w0 w L H0=>rS [.v] H0 kr fun gs1 w1 H1=>zc kr ?_;by_cases hm:f≤55
 ·refine rS [.v,.E (.bool (decide ((f:Int)≤55))) (.bool true) (za (decide_eq_true (by omega)))] H1 kr fun gs2 w2 H2=>zj kr kr<|rS [.v,.E (.int .u64 (IntKind.u64.wrap ((f:Int)))) (.int .u64 (f:Int)) (zo (xl (a:=f) (by omega))),.v] H2 kr fun gs3 w3 H3=>zk kr<|wV ?_;exact ⟨[.int .u64 (f:Int)],(.tmp (.int .u64 (f:Int)) kr .nil),t,[],⟨f,by unfold yK;rw [if_pos hm],rfl,rfl⟩,H3.as kr⟩
 ·refine rS [.v,.E (.bool (decide ((f:Int)≤55))) (.bool false) (za (decide_eq_false (by omega)))] H1 kr fun gs2 w2 H2=>zl kr kr<|zn kr<|wW<|uN [0,1,2,3,4,5,6,7,8,9,10] kr kr<|jQ [0,1,2,3] (l2:=[4,5,6,7,8,9,10]) rfl<|rp [.v,.v,.E (.int .u8 (IntKind.u8.wrap ((f:Int)-55))) (.int .u8 (((f-55:Nat):Nat):Int)) (zo (by rw [show (f:Int)-55=((f-55:Nat):Int) by omega];exact zbx (by omega))),.E (.int .u64 (IntKind.u64.wrap (((f-55:Nat):Int)))) (.int .u64 ((f-55:Nat):Int)) (zo (xl (a:=f-55) (by omega)))] H2 kr fun gs3 w3 H3=>wX []<|zb ?_;have H4:St B w0 w3 ((bd,dc t)::L):=H3.as kr;refine xS H4 (List.Perm.refl _) (some 16) 67 #[.pointer (some ⟨bd,0,none⟩),.int .u64 ((f-55:Nat):Int)] (uO bd (f-55) t ht) kr kr (fun w' hb HS=>?_) ?_
  ·exact ⟨rfl,by unfold yK;rw [if_neg hm,if_pos hb],HS⟩
  rintro _ _ _ w4 ⟨hle,rfl,rfl,rfl⟩ H5;refine jR _<|rp [.c (zdN (t.extract 0 (f-55)))] H5 kr fun gs4 w5 H6=>wX [6,7,8,9,10]<|ya 17 (v:=uG (zH (t.extract 0 (f-55)))) (v':=.tuple #[.int .u64 (((zH (t.extract 0 (f-55))).1:Nat):Int),.bool (zH (t.extract 0 (f-55))).2]) rfl kr<|rp [.v,.v,.v,.v,.v] H6 kr fun gs5 w6 H7=>wX []<|zb<|wW<|zc kr ?_;by_cases hn:(zH (t.extract 0 (f-55))).1≤55
  ·refine rS [.v,.E (.bool (decide ((((zH (t.extract 0 (f-55))).1:Nat):Int)≤55))) (.bool true) (za (decide_eq_true (by omega)))] H7 kr fun gs6 w7 H8=>zj kr kr<|uM [0,1] kr<|jQ [0] (l2:=[1]) rfl<|rp [.v] H8 kr fun gs7 w8 H9=>wX []<|zb<|uL none (.iface 31 (.int .i64 4)) kr ?_;have H10:St B w0 w8 ((bd,dc (t.extract (f-55) t.size))::L):=H9.as kr;exact ⟨rfl,by unfold yK;rw [if_neg hm,if_neg (by omega),if_pos hn],H10.sub (List.sublist_cons_self ..)⟩
  ·refine rS [.v,.E (.bool (decide ((((zH (t.extract 0 (f-55))).1:Nat):Int)≤55))) (.bool false) (za (decide_eq_false (by omega)))] H7 kr fun gs6 w7 H8=>zl kr kr<|zn kr<|wW<|rS [.v,.v] H8 kr fun gs7 w8 H9=>zk kr<|wV ?_;exact ⟨[.int .u64 (((zH (t.extract 0 (f-55))).1:Nat):Int)],(.tmp _ kr .nil),t.extract (f-55) t.size,[],⟨_,by unfold yK;rw [if_neg hm,if_neg (by omega),if_neg hn],rfl,rfl⟩,H9.as kr⟩
def FnY (P:Program)(f:Nat)(args:Array Value)(ok:Value→List (Nat×Obj)→Prop)(bad:Prop):Prop:=
 ∀(B:Nat) (w0 w:World) (L:List (Nat×Obj)),St B w0 w L→Calls P f args w fun e w'=>
  (∃v T,e=.returned v∧ok v T∧St B w0 w' (T++L))∨(e=.panicked chF∧bad∧St B w0 w' L)
abbrev ziJ (P:Program)(rs:List ResultVar)(B:Nat)(w0:World)(L:List (Nat×Obj))(ok:Value→List (Nat×Obj)→Prop)(bad:Prop):Exit→Env→World→Prop:=
 zbw P rs (fun v w'=> ∃T,ok v T∧St B w0 w' (T++L)) (fun ch w'=>ch=chF∧bad∧St B w0 w' L)
theorem FnY.intro {P:Program}{f:Nat}{fn:Func}{c:Code}(rs:List ResultVar)(N:Nat){args:Array Value}{ok:Value→List (Nat×Obj)→Prop}{bad:Prop}(hf:P.funcs[f]? =some fn)(hb:fn.body=some c)(hr:fn.results.toList=rs)(hn:args.size+(fn.ntmps-args.size)=N)
 (h: ∀B w0 w L,St B w0 w L→WP P N c (ziJ P rs B w0 L ok bad) (ini args) w):FnY P f args ok bad:=fun B w0 w L HS=>
 (zdW hf hb hr hn (h B w0 w L HS)).mono fun e w' q=>by
  rcases q with ⟨v,he,T,h1,h2⟩|⟨ch,he,h0,h1,h2⟩
  ·exact .inl ⟨v,T,he,h1,h2⟩
  ·exact .inr ⟨by rw [he,h0],h1,h2⟩
theorem ziK {P:Program}{N:Nat}{ops:Array Oper}{Q:Exit→Env→World→Prop}{K:Env→World→Prop}{ρ:Env}{w w0:World}{i B:Nat}{r:List Nat}{l:List (Nat×Obj)}(HS:St B w0 w l)(d:Option Nat)(f:Nat)(args:Array Value){ok:Value→List (Nat×Obj)→Prop}{bad:Prop}(hc:FnY P f args ok bad)
 (h:opv P ops i ρ w=some (d,true,.ok (.enter f args) w)) (hd:dOK d N=true)
 (kp: ∀w',bad→St B w0 w' l→Q (.panic chF) ρ w')
 (kk: ∀v T w',ok v T→St B w0 w' (T++l)→ym P N ops Q K r (zm ρ d v) w'):ym P N ops Q K (i::r) ρ w:=
 zdV d f args _ (hc B w0 w l HS) h hd fun e w' q=>by
  rcases q with ⟨v,T,he,h1,h2⟩|⟨he,h1,h2⟩
  ·exact .inl ⟨v,he,kk v T w' h1 h2⟩
  ·exact .inr ⟨chF,he,kp w' h1 h2⟩
def SlC (T:List (Nat×Obj))(p:Option Addr)(n c:Nat)(k:Fo):Prop:=SlIn T p n k∧n≤c
def ziL (t:ByteArray)(u:ByteArray)(v:Value)(T:List (Nat×Obj)):Prop:=∃(l:Bool) (s:ByteArray) (p:Option Addr) (n c:Nat) (k:Fo),v=.agg #[.bool l,.string s,.slice p n c]∧yj t l s k u∧SlC T p n c k∧s.size≤t.size
def ky (bd:Nat)(t:ByteArray):Prop:=FnX Tryz.prog 43 #[.pointer (some ⟨bd,0,none⟩)] bd t (ziL t) (jP t)
def zdZ (t:ByteArray)(v:Value)(T:List (Nat×Obj)):Prop:=∃(p:Option Addr) (n c:Nat) (k:Fo),v=.agg #[.bool true,.string ⟨#[]⟩,.slice p n c]∧tl t=wrF k∧pureF k=true∧SlC T p n c k
def zby (t:ByteArray):Prop:=FnY Tryz.prog 70 #[.string t] (zdZ t) (uJ t)
theorem SlIn.none (T:List (Nat×Obj)):SlIn T none 0 .nil:=⟨rfl,by omega,.inl rfl⟩
theorem SlC.none (T:List (Nat×Obj)):SlC T none 0 0 .nil:=⟨SlIn.none T,Nat.le_refl _⟩
theorem ziM {t:ByteArray}(h:t.size≠0):by_ (t.extract 0 1) 0=by_ t 0:=by
 obtain ⟨l,e⟩:=xq h;unfold by_;rw [qj,e];rfl
theorem zd0 (bd:Nat)(t:ByteArray)(ht:t.size≤100000)(hl: ∀s:ByteArray,s.size<t.size→zby s):ky bd t:=by
 refine FnX.intro (c:=zf Tryz.f43) [.cell 2 46] 36 Tryz.func43 kr kr kr fun B w0 w L H0=>zg [0] kr kr<|zE H0 (some 2) 46 (.agg #[.bool false,.string ⟨#[]⟩,.slice none 0 0]) kr kr kr ?_;intro b1 w1 H1;refine zb<|uN [0,1,2] kr kr<|jQ [0] (l2:=[1,2]) rfl<|rp [.v] H1 kr fun gs2 w2 H2=>wX []<|zb ?_;have H3:St B w0 w2 ((b1,.cells #[.bool false,.string ⟨#[]⟩,.slice none 0 0] 46 (0,0))::(bd,dc t)::L):=H2.as kr;refine xS H3 (List.Perm.swap _ _ _) (some 6) 67 #[.pointer (some ⟨bd,0,none⟩),.int .u64 ((1:Nat):Int)] (uO bd 1 t ht) kr kr (fun w' hb HS=>?_) ?_
 ·exact ⟨rfl,ziB hb,HS.sub (List.sublist_cons_self ..)⟩
 rintro _ _ _ w3 ⟨hle,rfl,rfl,rfl⟩ H4;have h0:t.size≠0:=by omega
 have hb:=ziM h0;have hlt:=jj t 0;have hz1:(t.extract 0 1).size=1:=by rw [jO t 0 1 (by omega) (by omega)]
 have hzt:(t.extract 1 t.size).size=t.size-1:=by rw [jO t 1 _ (Nat.le_refl _) (by omega)]
 have hfs:=zdQ h0;refine jR _<|rp [.v] H4 kr fun gs3 w4 H5=>wX []<|zb<|wW<|zz 0 kr<|rS [.v,.c (uC (t.extract 0 1)),.v] H5 kr fun gs4 w5 H6=>?_;by_cases h128:by_ t 0<128
 ·have hs1:zR (t.extract 0 1)=true:=by rw [hfs];exact decide_eq_true h128
  refine yY 15 (v:=.bool (zR (t.extract 0 1))) (v':=.bool true) (za hs1) kr<|zj kr kr<|rS [.v,.c (zdO (t.extract 0 1) (by omega)),.s 1] H6 kr fun gs5 w6 H7=>?_;have H8:St B w0 w6 ((bd,dc (t.extract 1 t.size))::(b1,.cells #[.bool false,.string (t.extract 0 1),.slice none 0 0] 46 (0,0))::L):=H7.as kr;refine zk kr<|wV ?_;exact ⟨[.agg #[.bool false,.string (t.extract 0 1),.slice none 0 0]],(.agg (b:=b1) (#[.bool false,.string (t.extract 0 1),.slice none 0 0]) 46 (0,0) kr (H8.get 1 kr) kr .nil),_,[],⟨_,_,_,_,_,_,rfl,ziC h0 h128,SlC.none _,by omega⟩,H8.sub (List.Sublist.cons_cons _ (List.Sublist.cons _ (List.Sublist.refl _)))⟩
 ·have hs1:zR (t.extract 0 1)=false:=by rw [hfs];exact decide_eq_false h128
  refine yY 15 (v:=.bool (zR (t.extract 0 1))) (v':=.bool false) (za hs1) kr<|zl kr kr ?_;by_cases h192:by_ t 0<192
  ·refine rS [.v,.o (ins:=[((.tmp 21),.string (t.extract 0 1)),((.const (.int .i64 0)),.int .i64 0)]) (v:=.int .u8 ((by_ (t.extract 0 1) 0:Nat):Int)) (fun ρ o w ho hi=>qL (t:=9) (kd:=.i64) kr (x:=(.tmp 21)) (y:=(.const (.int .i64 0))) (t.extract 0 1) 0 ho hi.1 hi.2.1 (by omega) w),.E (.bool (decide (((by_ (t.extract 0 1) 0:Nat):Int)<192))) (.bool true) (za (decide_eq_true (by omega))),.v] H6 kr fun gs5 w6 H7=>zj kr kr<|uN [0,1,2,3,4,5,6,7] kr kr<|jQ [0,1,2,3,4] (l2:=[5,6,7]) rfl<|rp [.v,.v,.v,.o (ins:=[((.tmp 26),.string (t.extract 0 1)),((.const (.int .i64 0)),.int .i64 0)]) (v:=.int .u8 ((by_ (t.extract 0 1) 0:Nat):Int)) (fun ρ o w ho hi=>qL (t:=9) (kd:=.i64) kr (x:=(.tmp 26)) (y:=(.const (.int .i64 0))) (t.extract 0 1) 0 ho hi.1 hi.2.1 (by omega) w),.E (.int .u8 (IntKind.u8.wrap (((by_ (t.extract 0 1) 0:Nat):Int)-128))) (.int .u8 ((by_ t 0-128:Nat):Int)) (zo (by rw [show ((by_ (t.extract 0 1) 0:Nat):Int)-128=((by_ t 0-128:Nat):Int) by omega];exact zbx (by omega)))] H7 kr fun gs6 w7 H8=>wX []<|zb ?_;have H9:St B w0 w7 ((bd,dc (t.extract 1 t.size))::(b1,.cells #[.bool false,.string ⟨#[]⟩,.slice none 0 0] 46 (0,0))::L):=H8.as kr;refine xS H9 (List.Perm.refl _) (some 29) 69 #[.pointer (some ⟨bd,0,none⟩),.int .u8 ((by_ t 0-128:Nat):Int)] (zdY bd (by_ t 0-128) (t.extract 1 t.size) (by omega) (by omega)) kr kr (fun w' hb HS=>?_) ?_
   ·exact ⟨rfl,zdS false ht h0 (by omega) (by simp;omega) hb,HS.sub (List.sublist_cons_self ..)⟩
   rintro _ u _ w8 ⟨n,hc,rfl,rfl⟩ H10;have hu:=(zbu hc (by omega) 0).2.2;refine xS (L:=(b1,.cells #[.bool false,.string ⟨#[]⟩,.slice none 0 0] 46 (0,0))::L) H10 (List.Perm.refl _) (some 30) 67 #[.pointer (some ⟨bd,0,none⟩),.int .u64 (n:Int)] (uO bd n u (by omega)) kr kr (fun w' hb HS=>?_) ?_
   ·exact ⟨rfl,zdT false ht h0 (by omega) (by simp;omega) hc hb,HS.sub (List.sublist_cons_self ..)⟩
   rintro _ _ _ w9 ⟨hnu,rfl,rfl,rfl⟩ H11;have hzn:(u.extract 0 n).size=n:=by rw [jO u 0 n hnu (by omega)];omega
   refine jR _<|rp [.v] H11 kr fun gs7 w10 H12=>wX []<|zb<|wW<|zc kr<|rS [.v,.c (uC (u.extract 0 n))] H12 kr fun gs8 w11 H13=>?_;rcases Bool.eq_false_or_eq_true (zR (u.extract 0 n)) with hs2 | hs2
   ·refine yY 32 (v:=.bool (zR (u.extract 0 n))) (v':=.bool true) (za hs2) kr<|zj kr kr<|uM [0,1] kr<|jQ [0] (l2:=[1]) rfl<|rp [.v] H13 kr fun gs9 w12 H14=>wX []<|zb<|uL none (.iface 31 (.int .i64 4)) kr ?_;have H15:St B w0 w12 ((bd,dc (u.extract n u.size))::(b1,.cells #[.bool false,.string ⟨#[]⟩,.slice none 0 0] 46 (0,0))::L):=H14.as kr;exact ⟨rfl,ziF ht h0 (by omega) h192 hc hs2,H15.sub (List.Sublist.cons _ (List.sublist_cons_self ..))⟩
   ·refine yY 32 (v:=.bool (zR (u.extract 0 n))) (v':=.bool false) (za hs2) kr<|zl kr kr<|zn kr<|wW<|rS [.v,.c (zdO (u.extract 0 n) (by omega)),.s 1] H13 kr fun gs9 w12 H14=>?_;have H15:St B w0 w12 ((bd,dc (u.extract n u.size))::(b1,.cells #[.bool false,.string (u.extract 0 n),.slice none 0 0] 46 (0,0))::L):=H14.as kr;refine zk kr<|wV ?_;exact ⟨[.agg #[.bool false,.string (u.extract 0 n),.slice none 0 0]],(.agg (b:=b1) (#[.bool false,.string (u.extract 0 n),.slice none 0 0]) 46 (0,0) kr (H15.get 1 kr) kr .nil),_,[],⟨_,_,_,_,_,_,rfl,ziD h0 (by omega) h192 hc hnu hs2,SlC.none _,by omega⟩,H15.sub (List.Sublist.cons_cons _ (List.Sublist.cons _ (List.Sublist.refl _)))⟩
  ·refine rS [.v,.o (ins:=[((.tmp 21),.string (t.extract 0 1)),((.const (.int .i64 0)),.int .i64 0)]) (v:=.int .u8 ((by_ (t.extract 0 1) 0:Nat):Int)) (fun ρ o w ho hi=>qL (t:=9) (kd:=.i64) kr (x:=(.tmp 21)) (y:=(.const (.int .i64 0))) (t.extract 0 1) 0 ho hi.1 hi.2.1 (by omega) w),.E (.bool (decide (((by_ (t.extract 0 1) 0:Nat):Int)<192))) (.bool false) (za (decide_eq_false (by omega))),.v] H6 kr fun gs5 w6 H7=>zl kr kr<|uN [0,1,2,3,4,5,6,7,8] kr kr<|jQ [0,1,2,3,4] (l2:=[5,6,7,8]) rfl<|rp [.v,.v,.v,.o (ins:=[((.tmp 9),.string (t.extract 0 1)),((.const (.int .i64 0)),.int .i64 0)]) (v:=.int .u8 ((by_ (t.extract 0 1) 0:Nat):Int)) (fun ρ o w ho hi=>qL (t:=9) (kd:=.i64) kr (x:=(.tmp 9)) (y:=(.const (.int .i64 0))) (t.extract 0 1) 0 ho hi.1 hi.2.1 (by omega) w),.E (.int .u8 (IntKind.u8.wrap (((by_ (t.extract 0 1) 0:Nat):Int)-192))) (.int .u8 ((by_ t 0-192:Nat):Int)) (zo (by rw [show ((by_ (t.extract 0 1) 0:Nat):Int)-192=((by_ t 0-192:Nat):Int) by omega];exact zbx (by omega)))] H7 kr fun gs6 w7 H8=>wX []<|zb ?_;have H9:St B w0 w7 ((bd,dc (t.extract 1 t.size))::(b1,.cells #[.bool false,.string ⟨#[]⟩,.slice none 0 0] 46 (0,0))::L):=H8.as kr;refine xS H9 (List.Perm.refl _) (some 12) 69 #[.pointer (some ⟨bd,0,none⟩),.int .u8 ((by_ t 0-192:Nat):Int)] (zdY bd (by_ t 0-192) (t.extract 1 t.size) (by omega) (by omega)) kr kr (fun w' hb HS=>?_) ?_
   ·exact ⟨rfl,zdS true ht h0 (by omega) (by simp;omega) hb,HS.sub (List.sublist_cons_self ..)⟩
   rintro _ u _ w8 ⟨n,hc,rfl,rfl⟩ H10;have hu:=(zbu hc (by omega) 0).2.2;refine xS (L:=(b1,.cells #[.bool false,.string ⟨#[]⟩,.slice none 0 0] 46 (0,0))::L) H10 (List.Perm.refl _) (some 13) 67 #[.pointer (some ⟨bd,0,none⟩),.int .u64 (n:Int)] (uO bd n u (by omega)) kr kr (fun w' hb HS=>?_) ?_
   ·exact ⟨rfl,zdT true ht h0 (by omega) (by simp;omega) hc hb,HS.sub (List.sublist_cons_self ..)⟩
   rintro _ _ _ w9 ⟨hnu,rfl,rfl,rfl⟩ H11;have hzn:(u.extract 0 n).size=n:=by rw [jO u 0 n hnu (by omega)];omega
   have H12:St B w0 w9 ((bd,dc (u.extract n u.size))::(b1,.cells #[.bool false,.string ⟨#[]⟩,.slice none 0 0] 46 (0,0))::L):=H11.as kr;refine ziK H12 (some 14) 70 #[.string (u.extract 0 n)] (hl (u.extract 0 n) (by omega)) kr kr (fun w' hb HS=>?_) ?_
   ·exact ⟨rfl,ziG ht h0 (by omega) hc hb,HS.sub (List.Sublist.cons _ (List.sublist_cons_self ..))⟩
   rintro _ T w10 ⟨p,n3,c3,k,rfl,hk,hpk,hsl⟩ H13
   have H14:St B w0 w10 ((b1,.cells #[.bool false,.string ⟨#[]⟩,.slice none 0 0] 46 (0,0))::(bd,dc (u.extract n u.size))::(T++L)):=H13.perm (by
    refine (List.Perm.swap _ _ _).trans<|List.Perm.symm<|(List.perm_middle).trans (List.Perm.cons _ ?_)
    exact List.perm_middle)
   refine jR _<|rp [.s 0] H14 kr fun gs7 w11 H15=>wX []<|zb<|wW ?_;have H16:St B w0 w11 ((b1,.cells #[.bool true,.string ⟨#[]⟩,.slice p n3 c3] 46 (0,0))::(bd,dc (u.extract n u.size))::(T++L)):=H15.as kr;refine zk kr<|wV ?_;exact ⟨[.agg #[.bool true,.string ⟨#[]⟩,.slice p n3 c3]],(.agg (b:=b1) (#[.bool true,.string ⟨#[]⟩,.slice p n3 c3]) 46 (0,0) kr (H16.get 0 kr) kr .nil),_,T,⟨_,_,_,_,_,_,rfl,ziE h0 (by omega) hc hnu hpk hk,hsl,Nat.zero_le _⟩,H16.sub (List.sublist_cons_self ..)⟩
end Go.Proofs.YthonokeibcodpaaGreatDoor
namespace Go.Proofs.YthonokeibcodpaaGreatDoor.D2
open Go Go.RowKit
set_option linter.unusedVariables false
def uP (P:Program)(Bad:List PanicEntry→World→Prop)(S:Value→World→Prop):Result Next→Prop
 | .ok (.value v) w'=>S v w'
 | .ok .skip w'=>S undef w'
 | .ok (.enter f args) w'=>Calls P f args w' fun e w''=>(∃v,e=.returned v∧S v w'')∨(∃ch,e=.panicked ch∧Bad ch w'')
 | _=>False
theorem uP.of {P:Program}{Bad:List PanicEntry→World→Prop}{S:Value→World→Prop}{r:Result Next}(h:Runs P S r):uP P Bad S r:=by
 cases r with
 | halt a w=>exact h
 | ok n w=>
  cases n with
  | enter f args=>exact Calls.mono (h:Calls P f args w _) fun e w'' q=>.inl q
  | _=>exact h
def uQ (P:Program)(Bad:List PanicEntry→World→Prop)(ops:Array Oper)(R:(Nat→Gh)→Env)(pre:(Nat→Bool)→(Nat→Gh)→World→Prop)(i:Nat)(d:Option Nat)(f:Gh→Value):Prop:=
 ∀L g w,pre L g w→L i=false→(∀o,ops[i]? =some o→ ∀e∈o.after,Region.binds .any e=true→L e.on=true)→Closed ops L→∃o,ops[i]? =some o∧o.dst=d∧
  ((Region.wanted o (zC ops (R g))=false∧f (g i)=undef∧pre (put1 L i) g w)∨(Region.wanted o (zC ops (R g))=true∧uP P Bad (fun v w'=> ∃b,v=f b∧pre (put1 L i) (setN g i b) w') ((execOp (ev (R g)) o).run P w)))
def xx (P:Program)(Bad:List PanicEntry→World→Prop)(ops:Array Oper)(R:Nat→(Nat→Gh)→Env)(pre:(Nat→Bool)→(Nat→Gh)→World→Prop):List (Option Nat×(Gh→Value))→Nat→Prop
 | [],_=>True
 | (d,f)::r,i=>uQ P Bad ops (R i) pre i d f∧xx P Bad ops R pre r (i+1)
theorem xx.get {P:Program}{Bad:List PanicEntry→World→Prop}{ops:Array Oper}{R:Nat→(Nat→Gh)→Env}{pre:(Nat→Bool)→(Nat→Gh)→World→Prop} : ∀ {l:List (Option Nat×(Gh→Value))} {k:Nat},xx P Bad ops R pre l k→ ∀ {i:Nat} {d:Option Nat} {f:Gh→Value},l[i]? =some (d,f)→uQ P Bad ops (R (k+i)) pre (k+i) d f
 | [],_,_,_,_,_,h=>by simp at h
 | (d,V)::r,k,⟨h,hr⟩,0,_,_,hi=>by simp at hi;obtain ⟨rfl,rfl⟩:=hi;exact h
 | (d,V)::r,k,⟨h,hr⟩,i+1,_,_,hi=>by
  have:=hr.get (i:=i) (by simpa using hi)
  rwa [show k+1+i=k+(i+1) by omega] at this
section
variable {P:Program}{N:Nat}{ops:Array Oper}{Q:Exit→Env→World→Prop}{K:Env→World→Prop}{ρ:Env}{w:World}{vs:List (Option Nat×(Gh→Value))}{pre:(Nat→Bool)→(Nat→Gh)→World→Prop}{Bad:List PanicEntry→World→Prop}
theorem ziN (hok:drawOK ops (vs.map (·.1)) N=true)(hg:xx P Bad ops (fun i=>fin_ (vs.take i) ρ) pre vs 0){i:Nat}{L:Array Bool}(hi:i∈Region.ready .any ops L)
 {a:Act} {ρ':Env} {g:Nat→Gh} (ha:Rep a ρ' N) (hm:Mid ρ vs g (ran L) ρ') (hL:L.size=ops.size) (hcl:Closed ops (ran L)) (hp:pre (ran L) g w)
 {QQ:Exit→Act→World→Prop} {KK:Act→World→Prop} (hQ: ∀ch a' ρ'' w',Rep a' ρ'' N→Bad ch w'→QQ (.panic ch) a' w') (hK: ∀a' ρ'' g' w',Rep a' ρ'' N→Mid ρ vs g' (put1 (ran L) i) ρ''→Closed ops (put1 (ran L) i)→pre (put1 (ran L) i) g' w'→KK a' w'):
 wpOp P ops QQ i KK a w:=by
 simp only [drawOK,Bool.and_eq_true,List.all_eq_true,beq_iff_eq] at hok;obtain ⟨⟨⟨hsz,hnd⟩,hN⟩,hops⟩:=hok;obtain ⟨hun,o,ho,hready⟩:=mem_ready.1 hi;have hilt:i<ops.size:=(Array.getElem?_eq_some_iff.1 ho).1
 have hoi:opOK ops (vs.map (·.1)) i o=true:=hops (o,i) (by
  rw [List.mem_iff_getElem?];refine ⟨i,?_⟩;rw [List.getElem?_zipIdx]
  simp [ho])
 simp only [opOK,Bool.and_eq_true] at hoi;obtain ⟨⟨⟨⟨hdst,hsel⟩,hback⟩,hreads⟩,hguard⟩:=hoi;have hivs:i<vs.length:=by rw [List.length_map] at hsz;omega
 obtain ⟨⟨d,f⟩,hv⟩:∃p,vs[i]? =some p:=⟨_,List.getElem?_eq_getElem hivs⟩
 have hd:o.dst=d:=by
  have:=eq_of_beq hdst
  simpa [hv] using this
 have hdN: ∀k,d=some k→k<N:=zN (hN d (List.mem_map.2 ⟨(d,f),List.mem_of_getElem? hv,rfl⟩));have hunL:ran L i=false:=by
  have hlt:i<L.size:=by omega
  unfold ran;simpa [hlt] using hun
 have hcl':Closed ops (put1 (ran L) i):=by
  intro j oj hj hoj e he hb;rcases put1_or hj with rfl | hj
  ·rw [ho] at hoj;obtain rfl:=Option.some.inj hoj;exact put1_of (hready e he hb)
  ·exact put1_of (hcl j oj hj hoj e he hb)
 have hnd':nodupO ((vs.take i).map (·.1))=true:=by rw [List.map_take];exact vX hnd i
 have lookB: ∀t j,j<i→ran L j=true→(vs.map (·.1))[j]? =some (some t)→ρ' t=fin_ (vs.take i) ρ g t:=by
  intro t j hji hLj hdt;rw [List.getElem?_map] at hdt;cases hve:vs[j]? with
  | none=>rw [hve] at hdt;cases hdt
  | some p=>
   obtain ⟨d1,f1⟩:=p;rw [hve] at hdt;simp at hdt;subst hdt;have hvt:(vs.take i)[j]? =some (some t,f1):=by rw [List.getElem?_take,if_pos hji,hve]
   rw [fin_in hnd' hvt];exact (hm t).1 j f1 hLj hve
 have lookA: ∀t,(∀j:Nat,(vs.map (·.1))[j]? =some (some t)→ran L j=false)→(∀j:Nat,j<i→(vs.map (·.1))[j]? ≠some (some t))→ρ' t=fin_ (vs.take i) ρ g t:=by
  intro t hno hnb;have hnot:some t∉(vs.take i).map (·.1):=fun hmem=>by
   obtain ⟨j,hj⟩:=List.mem_iff_getElem?.1 hmem;rw [List.map_take,List.getElem?_take] at hj;split at hj
   ·rename_i hji;exact hnb j hji hj
   ·cases hj
  rw [fin_out hnot];exact (hm t).2 fun j hj heq=>by rw [hno j heq] at hj;cases hj
 have hbk: ∀e∈o.after.toList,Region.binds .any e=true→e.on<i:=fun e he hb=>by
  have:=List.all_eq_true.1 hback e he;rw [hb] at this;simp only [Bool.not_true,Bool.false_or] at this;exact Nat.le_of_ble_eq_true this
 have hops': ∀x∈o.op.operands,ev ρ' x=ev (fin_ (vs.take i) ρ g) x:=by
  intro x hx;cases x with
  | tmp t=>
   have hmem:t∈opTmps o:=List.mem_filterMap.2 ⟨.tmp t,by simpa using hx,rfl⟩;have:=List.all_eq_true.1 hreads t hmem;simp only [Bool.or_eq_true,Bool.not_eq_true'] at this;rcases this with (hc | hb) | hlater
   ·have hnot: ∀j:Nat,(vs.map (·.1))[j]? ≠some (some t):=fun j hj=>by
     have h1:some t∈vs.map (·.1):=List.mem_of_getElem? hj;rw [←Bool.not_eq_true,List.contains_iff_mem] at hc;exact hc h1
    exact lookA t (fun j hj=>absurd hj (hnot j)) (fun j _=>hnot j)
   ·simp only [List.any_eq_true,Bool.and_eq_true,beq_iff_eq] at hb;obtain ⟨e,he,hbi,hdt⟩:=hb;exact lookB t e.on (hbk e he hbi) (hready e (by simpa using he) hbi) hdt
   ·have hl: ∀(j:Nat) oj,ops[j]? =some oj→(vs.map (·.1))[j]? =some (some t)→ ¬j<i∧∃e∈oj.after.toList,Region.binds .any e=true∧e.on=i:=fun j oj hoj hdj=>by
     have h1:=List.all_eq_true.1 hlater (oj,j) (by
      rw [List.mem_iff_getElem?];refine ⟨j,?_⟩;rw [List.getElem?_zipIdx]
      simp [hoj])
     simp only [hdj,beq_self_eq_true,Bool.not_true,Bool.false_or,Bool.and_eq_true,List.any_eq_true,Bool.not_eq_true'] at h1;obtain ⟨h2,e,he,hb,hon⟩:=h1;refine ⟨fun hlt=>?_,e,he,hb,Nat.eq_of_beq_eq_true hon⟩;have h3:Nat.blt j i=true:=Nat.ble_eq_true_of_le hlt;rw [h3] at h2;cases h2
    have hsome: ∀j:Nat,(vs.map (·.1))[j]? =some (some t)→∃oj,ops[j]? =some oj:=fun j hj=>by
     have h1:j<(vs.map (·.1)).length:=(List.getElem?_eq_some_iff.1 hj).1;exact ⟨_,Array.getElem?_eq_getElem (by omega)⟩
    refine lookA t (fun j hj=>?_) (fun j hji hj=>?_)
    ·obtain ⟨oj,hoj⟩:=hsome j hj;obtain ⟨_,e,he,hb,hon⟩:=hl j oj hoj hj;cases hLj:ran L j with
     | false=>rfl
     | true=>
      have:=hcl j oj hLj hoj e (by simpa using he) hb;rw [hon,hunL] at this;cases this
    ·obtain ⟨oj,hoj⟩:=hsome j hj;exact (hl j oj hoj hj).1 hji
  | _=>rfl
 have hexec:execOp (ev ρ') o=execOp (ev (fin_ (vs.take i) ρ g)) o:=execOp_congr o (fun cs b he=>by simp [notSelect,he] at hsel) hops';have hwant:Region.wanted o (zC ops ρ')=Region.wanted o (zC ops (fin_ (vs.take i) ρ g)):=by
  unfold Region.wanted;cases hgd:o.guard with
  | none=>rfl
  | some gd=>
   obtain ⟨j,b⟩:=gd;have:zC ops ρ' j=zC ops (fin_ (vs.take i) ρ g) j:=by
    unfold zC;cases hj:(ops[j]?).bind (·.dst) with
    | none=>rfl
    | some t=>
     simp only [hgd,List.any_eq_true,Bool.and_eq_true,beq_iff_eq] at hguard;obtain ⟨e,he,hb,hon⟩:=hguard;have hjds:(vs.map (·.1))[j]? =some (some t):=by
      cases hoj:ops[j]? with
      | none=>simp [hoj] at hj
      | some oj=>
       have hjj:opOK ops (vs.map (·.1)) j oj=true:=hops (oj,j) (by
        rw [List.mem_iff_getElem?];refine ⟨j,?_⟩;rw [List.getElem?_zipIdx]
        simp [hoj])
       simp only [opOK,Bool.and_eq_true,beq_iff_eq] at hjj;have:=hjj.1.1.1.1;simp [hoj] at hj;rw [←this,hj]
     have hlk:=lookB t j (hon▸hbk e he hb) (hon▸hready e (by simpa using he) hb) hjds;simp only [hlk]
   simp only [this]
 have hmid: ∀b,Mid ρ vs (setN g i b) (put1 (ran L) i) (zm ρ' d (f b)):=by
  intro b t;have hds:(vs.map (·.1))[i]? =some d:=by simp [hv]
  by_cases htd:d=some t
  ·subst htd;have e:zm ρ' (some t) (f b) t=f b:=by
    show (bif Nat.beq t t then f b else _)=f b;rw [Nat.beq_refl];rfl
   refine ⟨fun j f1 hj hvj=>?_,fun hn=>absurd hds (hn i (put1_self _ _))⟩;have hji:j=i:=nodupO_inj hnd (by rw [List.getElem?_map,hvj];rfl) hds;subst hji;rw [hv] at hvj;obtain rfl:f1=f:=by simpa using hvj.symm
   rw [e];unfold setN;rw [Nat.beq_refl];rfl
  ·have e:zm ρ' d (f b) t=ρ' t:=by
    cases d with
    | none=>rfl
    | some k=>
     have hne:Nat.beq t k=false:=by
      cases hb:Nat.beq t k with
      | false=>rfl
      | true=>exact absurd (by rw [Nat.eq_of_beq_eq_true hb]) htd
     show (bif Nat.beq t k then f b else ρ' t)=ρ' t;rw [hne];rfl
   rw [e];refine ⟨fun j f1 hj hvj=>?_,fun hn=>(hm t).2 fun j hj=>hn j (put1_of hj)⟩;have hji:j≠i:=by
    rintro rfl;rw [hv] at hvj;have:d=some t:=by simpa using congrArg (Option.map (·.1)) hvj
    exact htd this
   have hLj:ran L j=true:=(put1_or hj).resolve_left hji;have hN':setN g i b j=g j:=by
    unfold setN;cases hb:Nat.beq j i with
    | false=>rfl
    | true=>exact absurd (Nat.eq_of_beq_eq_true hb) hji
   rw [hN'];exact (hm t).1 j f1 hLj hvj
 have hgi:=xx.get hg hv;rw [Nat.zero_add] at hgi
 obtain ⟨o',ho',hd',hrun⟩:=hgi (ran L) g w hp hunL (fun o1 ho1 e he hb=>by
  rw [ho] at ho1;obtain rfl:=Option.some.inj ho1;exact hready e he hb) hcl
 have:o'=o:=by rw [ho] at ho';exact (Option.some.inj ho').symm
 subst this;have hput: ∀v,Rep (a.put o'.dst v) (zm ρ' d v) N:=fun v=>by
  have:=ha.put o'.dst (fun k hk=>hdN k (by rw [←hd,hk])) v
  rwa [hd] at this ⊢
 unfold wpOp;simp only [ho,qU ha,hwant];rcases hrun with ⟨hwf,hV,hp'⟩ | ⟨hwt,hR⟩
 ·simp only [hwf,Bool.false_eq_true,if_false];refine hK _ _ g _ (hput undef) ?_ hcl' hp';have:=hmid (g i)
  rwa [setN_self,hV] at this
 ·simp only [hwt,if_true];refine .inl ?_;unfold Oper.wp;rw [ha.eval,hexec];generalize (execOp (ev (fin_ (vs.take i) ρ g)) o').run P w=r at hR;cases r with
  | halt h w'=>exact hR.elim
  | ok n w'=>
   cases n with
   | value v=>obtain ⟨b,rfl,hb⟩:=hR;exact hK _ _ _ _ (hput _) (hmid b) hcl' hb
   | skip=>obtain ⟨b,hu,hb⟩:=hR;exact hK _ _ _ _ (by have:=hput undef;rwa [hu] at this ⊢) (hmid b) hcl' hb
   | enter f' args=>
    refine Calls.mono hR fun e w'' he=>?_;rcases he with ⟨v,rfl,b,rfl,hb⟩ | ⟨ch,rfl,hb⟩
    ·exact hK _ _ _ _ (hput _) (hmid b) hcl' hb
    ·exact hQ ch _ _ _ ha hb
   | _=>exact hR.elim
theorem ziO (hB: ∀ch ρ w,Bad ch w→Q (.panic ch) ρ w)(hok:drawOK ops (vs.map (·.1)) N=true)(hg:xx P Bad ops (fun i=>fin_ (vs.take i) ρ) pre vs 0)
 (hfin: ∀L g w',(∀i,i<ops.size→L i=true)→pre L g w'→Q .normal (fin_ vs ρ g) w'):
 ∀(fuel:Nat) (L:Array Bool),L.size=ops.size→(L.toList.countP (! ·))≤fuel→ ∀(a:Act) (ρ':Env) (g:Nat→Gh) (w:World),Rep a ρ' N→Mid ρ vs g (ran L) ρ'→Closed ops (ran L)→pre (ran L) g w→
  wpAny P .any ops (yU N Q) fuel L a w:=by
 have hdone: ∀(L:Array Bool),L.size=ops.size→Region.ready .any ops L=[]→ ∀(a:Act) (ρ':Env) (g:Nat→Gh) (w:World),Rep a ρ' N→Mid ρ vs g (ran L) ρ'→pre (ran L) g w→yU N Q .normal a w:=by
  intro L hL hr a ρ' g w ha hm hp;have hok':=hok;simp only [drawOK,Bool.and_eq_true,List.all_eq_true,beq_iff_eq] at hok';obtain ⟨⟨⟨hsz,hnd⟩,hN⟩,hops⟩:=hok';have hall: ∀i,i<ops.size→ran L i=true:=by
   intro i
   induction i using Nat.strongRecOn with
   | _ i ih=>
    intro hi;cases hb:ran L i with
    | true=>rfl
    | false=>
     have hmem:i∈Region.ready .any ops L:=by
      refine mem_ready.2 ⟨?_,ops[i],Array.getElem?_eq_getElem hi,fun e he hbd=>?_⟩
      ·have hlt:i<L.size:=by omega
       unfold ran at hb;simp [hlt] at hb ⊢;exact hb
      ·have hoi:opOK ops (vs.map (·.1)) i ops[i]=true:=hops (ops[i],i) (by
        rw [List.mem_iff_getElem?];refine ⟨i,?_⟩;rw [List.getElem?_zipIdx]
        simp [hi])
       simp only [opOK,Bool.and_eq_true] at hoi;have:=List.all_eq_true.1 hoi.1.1.2 e (by simpa using he);rw [hbd] at this;have hlt:e.on<i:=Nat.le_of_ble_eq_true this;exact ih e.on hlt (by omega)
     rw [hr] at hmem;cases hmem
  have heq:ρ'=fin_ vs ρ g:=by
   funext t;by_cases ht:some t∈vs.map (·.1)
   ·obtain ⟨i,hi,hit⟩:=List.getElem_of_mem ht;have hi':i<vs.length:=by simpa using hi
    obtain ⟨⟨d,f⟩,hv⟩:∃p,vs[i]? =some p:=⟨_,List.getElem?_eq_getElem hi'⟩
    have hd:d=some t:=by
     rw [List.getElem_map] at hit;rw [List.getElem?_eq_getElem hi'] at hv;rw [Option.some.inj hv] at hit;exact hit
    subst hd;rw [fin_in hnd hv];exact (hm t).1 i f (hall i (by rw [hsz];exact hi)) hv
   ·rw [fin_out ht];exact (hm t).2 fun j hj heq=>ht (List.mem_of_getElem? heq)
  exact ⟨_,ha,heq▸hfin (ran L) g w hall hp⟩
 intro fuel
 induction fuel with
 | zero=>
  intro L hL hc a ρ' g w ha hm hcl hp;have hr:Region.ready .any ops L=[]:=by
   cases hr:Region.ready .any ops L with
   | nil=>rfl
   | cons i r=>
    have hi:i∈Region.ready .any ops L:=by rw [hr];exact List.mem_cons_self
    obtain ⟨hun,o,ho,_⟩:=mem_ready.1 hi;have hlt:i<L.size:=by rw [hL];exact (Array.getElem?_eq_some_iff.1 ho).1
    have:L.toList.countP (! ·)=0:=by omega
    rw [List.countP_eq_zero] at this;have h1:=this L[i] (by simp);simp [hlt] at hun h1;rw [hun] at h1;cases h1
  exact ⟨hr,hdone L hL hr a ρ' g w ha hm hp⟩
 | succ fuel ih=>
  intro L hL hc a ρ' g w ha hm hcl hp;refine ⟨fun hr=>hdone L hL hr a ρ' g w ha hm hp,fun i hi=>?_⟩;obtain ⟨hun,o,ho,_⟩:=mem_ready.1 hi;have hlt:i<L.size:=by rw [hL];exact (Array.getElem?_eq_some_iff.1 ho).1
  refine ziN hok hg hi ha hm hL hcl hp (fun ch a' ρ'' w' ha' hb=>⟨ρ'',ha',hB ch ρ'' w' hb⟩) fun a' ρ'' g' w' ha' hm' hcl' hp'=>ih (L.setIfInBounds i true) (by simpa using hL) ?_ a' ρ'' g' w' ha' (by rw [ran_set hlt];exact hm') (by rw [ran_set hlt];exact hcl') (by rw [ran_set hlt];exact hp');have hf:L[i]=false:=by simpa [hlt] using hun
  have hc2:(L.setIfInBounds i true).toList.countP (! ·)+1=L.toList.countP (! ·):=by
   rw [Array.toList_setIfInBounds];have hl:i<L.toList.length:=by simpa using hlt
   have hfl:L.toList[i]=false:=by simpa using hf
   have hpos:0<L.toList.countP (! ·):=List.countP_pos_iff.2 ⟨_,List.getElem_mem hl,by rw [hfl];rfl⟩;have hset:=List.countP_set (p:=fun b:Bool=> !b) (l:=L.toList) (i:=i) (a:=true) hl;rw [hfl] at hset;simp only [Bool.not_true,Bool.false_eq_true,if_false,Bool.not_false,if_true] at hset;omega
  omega
theorem WP.drawX {id:Nat}(hB: ∀ch ρ w,Bad ch w→Q (.panic ch) ρ w)(hm:P.follows .mixedOrders=true)(hok:drawOK ops (vs.map (·.1)) N=true)(hp:pre (fun _=>false) (fun _=>default) w.drew)(hg:xx P Bad ops (fun i=>fin_ (vs.take i) ρ) pre vs 0)
 (hfin: ∀L g w',(∀i,i<ops.size→L i=true)→pre L g w'→Q .normal (fin_ vs ρ g) w'):WP P N (.region id ops true) Q ρ w:=fun a ha=>
 have hno:ran (Array.replicate ops.size false)=fun _=>false:=funext fun i=>by
  show (Array.replicate ops.size false).getD i false=false;simp only [Array.getD_eq_getD_getElem?,Array.getElem?_replicate];split<;>rfl
 wp_region_any hm (ziO hB hok hg hfin ops.size _ (by simp) (by have:= @List.countP_le_length Bool (! ·) (List.replicate ops.size false);simpa using this) a ρ (fun _=>default) _ ha
  (fun t=>⟨fun i f hi _=>(by rw [hno] at hi;cases hi),fun _=>rfl⟩) (fun j o hj=>(by rw [hno] at hj;cases hj)) (by rw [hno];exact hp))
theorem g_draw0X {c:Code}(hB: ∀ch ρ w,Bad ch w→Q (.panic ch) ρ w)(l:List Nat)(vs:List (Option Nat×(Gh→Value)))(pre:(Nat→Bool)→(Nat→Gh)→World→Prop)(hc:qC c=some (l,true))(hm:P.follows .mixedOrders=true)(hok:drawOK (zi c) (vs.map (·.1)) N=true)(hp:pre (fun _=>false) (fun _=>default) w.drew)
 (hg:xx P Bad (zi c) (fun i=>fin_ (vs.take i) ρ) pre vs 0) (hfin: ∀L g w',(∀i,i<(zi c).size→L i=true)→pre L g w'→Q .normal (fin_ vs ρ g) w'):WP P N c Q ρ w:=by
 obtain ⟨id,he,hl⟩:=xK hc;rw [he];exact WP.drawX hB hm hok hp hg hfin
end
theorem uQ.of {P:Program}{Bad:List PanicEntry→World→Prop}{ops:Array Oper}{R:(Nat→Gh)→Env}{pre:(Nat→Bool)→(Nat→Gh)→World→Prop}{i:Nat}{d:Option Nat}{f:Gh→Value}(h:Gives P ops R pre i d f):uQ P Bad ops R pre i d f:=fun L g w h1 h2 h3 h4=>by
 obtain ⟨o,ho,hd,q⟩:=h L g w h1 h2 h3 h4;exact ⟨o,ho,hd,q.imp id fun ⟨a,b⟩=>⟨a,uP.of b⟩⟩
end Go.Proofs.YthonokeibcodpaaGreatDoor.D2
namespace Go.Proofs.YthonokeibcodpaaGreatDoor
open Go Go.RowKit
set_option linter.unusedVariables false
abbrev xc (x:X3):Array Value:=#[.bool x.l,.string x.s,.slice x.p x.n x.c]
theorem zd1 (x:X3):(xc x).toList=cells3 [x]:=rfl
section
variable {P:Program}{ρ:Env}{w w0:World}{B:Nat}{l:List (Nat×Obj)}
theorem ziP (HS:St B w0 w l){t e bytes:Nat}{s x:Operand}{o:Oper}{j k b bx n cap c:Nat}{cur:Array Value}{L:List X3}{y:X3}(ht:ye P t=some (e,3,bytes))(ho:o.op=yp t s x)
 (hs:ev ρ s=.slice (some ⟨b,0,none⟩) n cap) (hj:l[j]? =some (b,.cells cur e (0,0))) (hr:Rw 3 cur cap n (cells3 L)) (hx:ev ρ x=.slice (some ⟨bx,0,none⟩) 1 c) (hk:l[k]? =some (bx,.cells (xc y) e (0,0)))
 (hb:(n+1)*bytes≤0x800000000000) (hm:n+1≤maxLen):∃b' cap' cur' w',(execOp (ev ρ) o).run P w=.ok (.value (.slice (some ⟨b',0,none⟩) (n+1) cap')) w'∧St B w0 w' (l.set j (b',.cells cur' e (0,0)))∧Rw 3 cur' cap' (n+1) (cells3 (L++ [y])):=by
 obtain ⟨it,z,hu,hi,hz,hsz,hby,hzs,h0⟩:=qb ht;have hnews: ∀q u,(cells3 [y])[q]? =some u→w.cell? ((⟨bx,0,none⟩:Addr).add q)=some u:=fun q u hq=>by
  rw [←zd1,Array.getElem?_toList] at hq;rw [qh,Nat.zero_add];simp [World.cell?,HS.get k hk,hq]
 obtain ⟨v',w',hrun,hown,hgr,hnil,hblk⟩:=run_append_own_at (P:=P) w B t o.type e it z 3 bytes hu hi hz hsz hby hzs h0 _ n (cells3 L) (hr.owns (HS.ge j hj) (HS.get j hj)) ⟨bx,0,none⟩ 1 c (cells3 [y]) (jy [y]) hnews (uD [y]) hm hb HS.le;have hown':=hown;rcases hown'.2 with ⟨hv,_⟩|⟨g,cap',cur',rfl,hbg,hg,hnc,hcm,hcs,htk⟩
 ·exact absurd (hnil.1 hv).1 (by simp)
 ·have hgb:g=b∨g=w.heap.size:=by
   rcases hblk with hq|hq
   ·left;injection hq
   ·right;injection hq
  refine ⟨g,cap',cur',w',?_,HS.grown j hj hgr hgb hg,?_⟩
  ·unfold execOp;simp only [ho,yp,resolve,invoke,builtin,Sem.run_bind,Sem.run_pure,Result.andThen_ok,List.map_toArray,List.map_cons,List.map_nil,hs,hx,hrun]
  ·rw [zbn];exact ⟨hown.1,hnc,hcm,htk,hcs⟩
theorem ziQ (HS:St B w0 w l){t e bytes:Nat}{s x:Operand}{o:Oper}{k bx c:Nat}{y:X3}(ht:ye P t=some (e,3,bytes))(ho:o.op=yp t s x)
 (hs:ev ρ s=.slice none 0 0) (hx:ev ρ x=.slice (some ⟨bx,0,none⟩) 1 c) (hk:l[k]? =some (bx,.cells (xc y) e (0,0)))
 (hb:(0+1)*bytes≤0x800000000000):∃b' cap' cur' w',(execOp (ev ρ) o).run P w=.ok (.value (.slice (some ⟨b',0,none⟩) 1 cap')) w'∧St B w0 w' ((b',.cells cur' e (0,0))::l)∧Rw 3 cur' cap' 1 (cells3 [y]):=by
 obtain ⟨it,z,hu,hi,hz,hsz,hby,hzs,h0⟩:=qb ht;have hnews: ∀q u,(cells3 [y])[q]? =some u→w.cell? ((⟨bx,0,none⟩:Addr).add q)=some u:=fun q u hq=>by
  rw [←zd1,Array.getElem?_toList] at hq;rw [qh,Nat.zero_add];simp [World.cell?,HS.get k hk,hq]
 obtain ⟨v',w',hrun,hown,hgr,hnil,hblk⟩:=run_append_own_at (P:=P) w B t o.type e it z 3 bytes hu hi hz hsz hby hzs h0 (.slice none 0 0) 0 [] (World.ownsRow_nil w B e 3) ⟨bx,0,none⟩ 1 c (cells3 [y]) (jy [y]) hnews (uD [y]) (by unfold maxLen;omega) hb HS.le;have hown':=hown;rcases hown'.2 with ⟨hv,_⟩|⟨g,cap',cur',rfl,hbg,hg,hnc,hcm,hcs,htk⟩
 ·exact absurd (hnil.1 hv).2 (by simp)
 ·have hgb:g=w.heap.size:=by
   rcases hblk with hq|hq
   ·simp [Value.ownBlock] at hq
   ·injection hq
  have hbel:Below w.heap.size w w':=(Below.refl _ w).grown hgr (Nat.le_refl _) (fun k hk=>by simp [Value.ownBlock] at hk);have HS':=HS.add hbel (by omega) hg;rw [Nat.zero_add] at hnc htk;refine ⟨g,cap',cur',w',?_,HS',⟨by rw [jy];rfl,hnc,hcm,htk,hcs⟩⟩;unfold execOp;simp only [ho,yp,resolve,invoke,builtin,Sem.run_bind,Sem.run_pure,Result.andThen_ok,List.map_toArray,List.map_cons,List.map_nil,hs,hx,hrun]
end
abbrev xo (v:Value):Obj:=.cells #[.bool true,.string ⟨#[]⟩,v] 46 (0,0)
abbrev r0:Obj:=.cells #[.bool false,.string ⟨#[]⟩,.slice none 0 0] 46 (0,0)
def okX (t u:ByteArray)(x:X3)(T:List (Nat×Obj)):Prop:=yj t x.l x.s x.k u∧SlC T x.p x.n x.c x.k∧x.s.size≤t.size
def RowSt (p:Option Addr)(n c:Nat)(row:List (Nat×Obj))(L:List X3):Prop:=(p=none∧n=0∧c=0∧row=[]∧L=[])∨∃b cur,p=some ⟨b,0,none⟩∧row=[(b,.cells cur 46 (0,0))]∧Rw 3 cur c n (cells3 L)
def yZ (B:Nat)(w0:World)(t:ByteArray)(b2 b3 b4:Nat)(p:Option Addr)(n c:Nat)(row:List (Nat×Obj))(M:List X3)(L0:List (Nat×Obj)):(Nat→Bool)→(Nat→D2.Gh)→World→Prop:=fun L g w=>
 bif L 4 then ∃u T x,okX t u x T∧Rw 3 (g 4).cur (g 4).cap (n+1) (cells3 (M++ [x]))∧St B w0 w ((b4,dc u)::(b3,xo (bif L 6 then .slice (some ⟨(g 4).b,0,none⟩) (n+1) (g 4).cap else .slice p n c))::(b2,r0)::((g 4).b,.cells (g 4).cur 46 (0,0))::(T++L0))
 else bif L 3 then ∃u T x,okX t u x T∧St B w0 w (((g 3).b,.cells (xc x) 46 (0,0))::(b4,dc u)::(b3,xo (.slice p n c))::(b2,r0)::(row++(T++L0)))
 else bif L 2 then ∃u T x,okX t u x T∧(g 2).cur=xc x∧St B w0 w ((b4,dc u)::(b3,xo (.slice p n c))::(b2,r0)::(row++(T++L0)))
 else St B w0 w ((b4,dc t)::(b3,xo (.slice p n c))::(b2,r0)::(row++L0))
section
variable {B:Nat}{w0:World}{t:ByteArray}{b2 b3 b4:Nat}{p:Option Addr}{n c:Nat}{row:List (Nat×Obj)}{M:List X3}{L0:List (Nat×Obj)}{L:Nat→Bool}{g:Nat→D2.Gh}{w:World}
theorem yZ.keep {i:Nat}{y:D2.Gh}(hi:Nat.beq 2 i=false)(h3:Nat.beq 3 i=false)(h4:Nat.beq 4 i=false)(h6:Nat.beq 6 i=false)(h:yZ B w0 t b2 b3 b4 p n c row M L0 L g w):yZ B w0 t b2 b3 b4 p n c row M L0 (D2.put1 L i) (D2.setN g i y) w:=by
 have e2:D2.put1 L i 2=L 2:=by unfold D2.put1;rw [hi];rfl
 have e3:D2.put1 L i 3=L 3:=by unfold D2.put1;rw [h3];rfl
 have e4:D2.put1 L i 4=L 4:=by unfold D2.put1;rw [h4];rfl
 have e6:D2.put1 L i 6=L 6:=by unfold D2.put1;rw [h6];rfl
 have g2:D2.setN g i y 2=g 2:=by unfold D2.setN;rw [hi];rfl
 have g3:D2.setN g i y 3=g 3:=by unfold D2.setN;rw [h3];rfl
 have g4:D2.setN g i y 4=g 4:=by unfold D2.setN;rw [h4];rfl
 unfold yZ at h ⊢;rw [e2,e3,e4,e6,g2,g3,g4];exact h
theorem yZ.x (h4:L 4=false)(h:yZ B w0 t b2 b3 b4 p n c row M L0 L g w):∃l,St B w0 w l∧(b3,xo (.slice p n c))∈l:=by
 unfold yZ at h;rw [h4] at h;cases h3:L 3 with
 | true=>rw [h3] at h;obtain ⟨u,T,x,_,h⟩:=h;exact ⟨_,h,by simp⟩
 | false=>
  rw [h3] at h;cases h2:L 2 with
  | true=>rw [h2] at h;obtain ⟨u,T,x,_,_,h⟩:=h;exact ⟨_,h,by simp⟩
  | false=>rw [h2] at h;exact ⟨_,h,by simp⟩
end
theorem zd2 (x:X3): ∀M:List X3,wrF (toFo (M++ [x]))=wrF (toFo M)++wr1 x.l x.s (szF x.k) (wrF x.k)
 | []=>by simp [toFo,wrF]
 | m::M=>by simp only [List.cons_append,toFo,wrF,zd2 x M,List.append_assoc]
theorem zd3 (x:X3)(hm:mixed x.l x.s x.k.len=false)(hp:pureF x.k=true): ∀M:List X3,pureF (toFo M)=true→pureF (toFo (M++ [x]))=true
 | [],_=>by simp [toFo,pureF,hm,hp]
 | m::M,h=>by
  simp only [toFo,pureF,Bool.and_eq_true] at h;simp only [List.cons_append,toFo,pureF,Bool.and_eq_true];exact ⟨h.1,zd3 x hm hp M h.2⟩
theorem AllIn.mono {T T':List (Nat×Obj)}{M:List X3}(h:AllIn T M)(hs: ∀e∈T,e∈T'):AllIn T' M:=fun x hx=>⟨(h x hx).1.mono hs,(h x hx).2⟩
theorem AllIn.snoc {T:List (Nat×Obj)}{M:List X3}{x:X3}(h:AllIn T M)(hx:SlIn T x.p x.n x.k)(hz:x.s.size≤0x800000000000):AllIn T (M++ [x]):=fun y hy=>by
 rcases List.mem_append.1 hy with q|q
 ·exact h y q
 ·obtain rfl:=List.mem_singleton.1 q;exact ⟨hx,hz⟩
structure xy (t t':ByteArray)(p:Option Addr)(n c:Nat)(row:List (Nat×Obj))(M:List X3)(T:List (Nat×Obj)):Prop where
 row:RowSt p n c row M
 size:n+t'.size≤t.size
 all:tl t=wrF (toFo M)++tl t'
 pur:pureF (toFo M)=true
 inn:AllIn T M
 rest: ∀k,pureF k=true→tl t=wrF k→∃k',pureF k'=true∧tl t'=wrF k'
theorem xy.bad {t t':ByteArray}{p:Option Addr}{n c:Nat}{row:List (Nat×Obj)}{M:List X3}{T:List (Nat×Obj)}(h:xy t t' p n c row M T)(h0:t'.size≠0)(hb:jP t'):uJ t:=fun k hp he=>by
 obtain ⟨k',hp',he'⟩:=h.rest k hp he;cases k' with
 | nil=>have:=congrArg List.length he';rw [zt] at this;simp [wrF] at this;exact h0 (by rw [this];rfl)
 | cons l s k r=>
  simp only [pureF,Bool.and_eq_true,Bool.not_eq_true'] at hp';exact hb l s k (wrF r) hp'.1.1 hp'.1.2 he'
theorem xy.next {t t' u:ByteArray}{p:Option Addr}{n c:Nat}{row:List (Nat×Obj)}{M:List X3}{T T2:List (Nat×Obj)}{x:X3}{b cap:Nat}{cur:Array Value}(ht:t.size≤100000)(h:xy t t' p n c row M T)(hx:okX t' u x T2)(hr:Rw 3 cur cap (n+1) (cells3 (M++ [x]))):
 u.size<t'.size∧xy t u (some ⟨b,0,none⟩) (n+1) cap [(b,.cells cur 46 (0,0))] (M++ [x]) (T2++T):=by
 obtain ⟨⟨hm,hp,hi⟩,hs,hz⟩:=hx;have hlen:=congrArg List.length hi;have h1:=(jx hm hp rfl).1;rw [zt,List.length_append,zt] at hlen;have hsz:=h.size;refine ⟨by omega,.inr ⟨b,cur,rfl,rfl,hr⟩,by omega,?_,zd3 x hm hp M h.pur,?_,?_⟩
 ·rw [h.all,hi,zd2,List.append_assoc]
 ·exact (h.inn.mono fun e he=>List.mem_append_right _ he).snoc (hs.1.mono fun e he=>List.mem_append_left _ he) (by omega)
 ·intro k hpk hk;obtain ⟨k',hp',he'⟩:=h.rest k hpk hk;exact zdU (by omega) ⟨hm,hp,hi⟩ hp' he'
theorem xy.done {t t':ByteArray}{p:Option Addr}{n c:Nat}{row:List (Nat×Obj)}{M:List X3}{T:List (Nat×Obj)}(ht:t.size≤100000)(h:xy t t' p n c row M T)(h0:t'=⟨#[]⟩):zdZ t (.agg #[.bool true,.string ⟨#[]⟩,.slice p n c]) (row++T):=by
 have hsz:=h.size;refine ⟨p,n,c,toFo M,rfl,?_,h.pur,?_⟩
 ·rw [h.all,h0];exact List.append_nil _
 ·rcases h.row with ⟨rfl,rfl,rfl,rfl,rfl⟩|⟨b,cur,rfl,rfl,hr⟩
  ·exact SlC.none _
  ·exact ⟨hr.slIn (b:=b) (ty:=46) (fz:=(0,0)) (by simp) (h.inn.mono fun e he=>List.mem_append_right _ he) (by omega),hr.le⟩
theorem zd4 (t:ByteArray)(ht:t.size≤100000)(hi: ∀(bd:Nat) (u:ByteArray),u.size≤t.size→ky bd u):zby t:=by
 refine FnY.intro (c:=zf Tryz.f70) [.cell 2 46] 18 Tryz.func70 kr kr kr fun B w0 w L H0=>zg [0] kr kr<|zE H0 (some 2) 46 (.agg #[.bool false,.string ⟨#[]⟩,.slice none 0 0]) kr kr kr ?_;intro b2 w1 H1;refine zb<|zg [0,1,2,3,4,5,6] kr kr<|zd (some 5) (.agg #[.bool true,.string ⟨#[]⟩,.slice none 0 0]) (fun w=>by kernel_rfl) kr<|zd (some 6) (.string t) (fun w=>by kernel_rfl) kr<|zd (some 7) (.agg #[.string t]) (fun w=>by kernel_rfl) kr<|zE H1 (some 3) 46 (.agg #[.bool false,.string ⟨#[]⟩,.slice none 0 0]) kr kr kr ?_;intro b3 w2 H2;refine zE H2 (some 4) 88 (.agg #[.string ⟨#[]⟩]) kr kr kr ?_;intro b4 w3 H3;refine rp [.s 1,.s 0] H3 kr fun gs4 w4 H4=>wX []<|zb ?_;have H5:St B w0 w4 ((b4,dc t)::(b3,xo (.slice none 0 0))::(b2,r0)::([]++([]++L))):=H4.as kr;refine zc kr<|zz 0 kr<|yW kr (fun mz ρ ww=> ∃(t':ByteArray) (p:Option Addr) (n c:Nat) (row:List (Nat×Obj)) (M:List X3) (T:List (Nat×Obj)),t'.size=mz∧xy t t' p n c row M T∧St B w0 ww ((b4,dc t')::(b3,xo (.slice p n c))::(b2,r0)::(row++(T++L)))∧Is [(0,.string t),(2,.pointer (some ⟨b2,0,none⟩)),(3,.pointer (some ⟨b3,0,none⟩)),(4,.pointer (some ⟨b4,0,none⟩))] ρ) t.size ⟨t,none,0,0,[],[],[],rfl,⟨.inl ⟨rfl,rfl,rfl,rfl,rfl⟩,by omega,rfl,rfl,(fun _ h=>nomatch h),fun k hp he=>⟨k,hp,he⟩⟩,H5,(Is.of ⟨kr,kr,kr,kr,trivial⟩)⟩ ?_;rintro _ _ w5 ⟨t',p,n,c,row,M,T,rfl,hI,H6,_,rfl⟩;have hsz:=hI.size;by_cases h0:t'=⟨#[]⟩
 ·refine zc kr<|rS [.v,.l 0,.E (.bool (!(ByteArray.toList t'==ByteArray.toList (⟨#[]⟩)))) (.bool false) (za (by rw [zI t' (⟨#[]⟩) h0];rfl))] H6 kr fun gs5 w6 H7=>zl kr kr<|yv 0 kr<|wW<|rS [.l 1,.s 2] H7 kr fun gs6 w7 H8=>?_;have H9:St B w0 w7 ((b4,dc t')::(b3,xo (.slice p n c))::(b2,xo (.slice p n c))::(row++(T++L))):=H8.as kr;refine zk kr<|wV ?_;refine ⟨[.agg #[.bool true,.string ⟨#[]⟩,.slice p n c]],(.agg (b:=b2) (#[.bool true,.string ⟨#[]⟩,.slice p n c]) 46 (0,0) kr (H9.get 2 kr) kr .nil),row++T,hI.done ht h0,?_⟩;rw [List.append_assoc];exact H9.sub (List.Sublist.cons _ (List.Sublist.cons _ (List.sublist_cons_self ..)))
 ·have hz:=uy h0;refine zc kr<|rS [.v,.l 0,.E (.bool (!(ByteArray.toList t'==ByteArray.toList (⟨#[]⟩)))) (.bool true) (za (by rw [yO t' (⟨#[]⟩) h0];rfl))] H6 kr fun gs5 w6 H7=>zj kr kr<|zn kr<|wW<|zz 1 kr ?_;have H8:St B w0 w6 ((b4,dc t')::(b3,xo (.slice p n c))::(b2,r0)::(row++(T++L))):=H7.as kr;refine D2.g_draw0X (Bad:=fun ch w'=>ch=chF∧uJ t∧St B w0 w' L) (fun ch ρ w h=>h) [0,1,2,3,4,5,6] [(some 11,fun _=>.pointer (some ⟨b3,2,none⟩)),(some 12,fun _=>.slice p n c),(some 13,fun y=>.agg y.cur),(some 14,fun y=>.slice (some ⟨y.b,0,none⟩) 1 1),(some 15,fun y=>.slice (some ⟨y.b,0,none⟩) (n+1) y.cap),(some 16,fun _=>.pointer (some ⟨b3,2,none⟩)),(none,fun _=>undef)] (yZ B w0 t' b2 b3 b4 p n c row M (T++L)) kr kr kr H8.drew ⟨?_,?_,?_,?_,?_,?_,?_,trivial⟩ ?_
  ·exact .of (D2.gv_val (fun L g w h=>by have:=h.keep (i:=0) (y:=g 0) rfl rfl rfl rfl;rwa [D2.setN_self] at this) (fun g w=>by kernel_rfl))
  ·refine .of (D2.gives_of fun L g w hp hN=>?_);obtain ⟨o,ho,hd,hw,hop⟩:=zD (show opk _ 1 _=some (some 12,true,.load 43 (.tmp 11)) by kernel_rfl);obtain ⟨l,HS,hm⟩:=hp.x (hN.post 4 kr);refine ⟨o,ho,hd,.inr ⟨hw,?_⟩⟩;rw [zc4 (off:=2) (v:=.slice p n c) (HS.own _ hm).2 kr kr kr o hop];exact ⟨g 1,rfl,hp.keep rfl rfl rfl rfl⟩
  ·intro L1 g w hp hn hr hc;have hN:D2.Now _ 2 L1:=⟨hn,hr,hc⟩
   have h3:=hN.post 3 kr;have h4:=hc.no 3 4 kr h3;obtain ⟨o,ho,hd,hw,hrun⟩:=zO (show opv _ _ 2 _ w=some (some 13,true,.ok (.enter 43 #[.pointer (some ⟨b4,0,none⟩)]) w) by kernel_rfl);refine ⟨o,ho,hd,.inr ⟨hw,?_⟩⟩;rw [hrun];unfold yZ at hp;rw [h4,h3,hn] at hp;refine (hi b4 t' (by omega) B w0 w _ hp).mono fun e w' q=>?_;rcases q with ⟨v,u,T2,rfl,⟨l,s,p1,n1,c1,k,rfl,q1,q2,q3⟩,HS⟩ | ⟨rfl,hb,HS⟩
   ·refine .inl ⟨_,rfl,{ cur:=#[.bool l,.string s,.slice p1 n1 c1] },rfl,?_⟩;unfold yZ;rw [show D2.put1 L1 2 4=false from h4,show D2.put1 L1 2 3=false from h3,show D2.put1 L1 2 2=true from rfl];exact ⟨u,T2,⟨l,s,p1,n1,c1,k⟩,⟨q1,q2,q3⟩,rfl,HS.perm (List.Perm.cons _ (List.perm_append_comm_assoc ((b3,xo (.slice p n c))::(b2,r0)::row) T2 (T++L)))⟩
   ·exact .inr ⟨chF,rfl,rfl,hI.bad hz hb,HS.sub (List.Sublist.cons _ (List.Sublist.cons _ ((List.sublist_append_right _ _).trans (List.sublist_append_right _ _))))⟩
  ·refine .of (D2.gives_of fun L1 g w hp hN=>?_);have h2:=hN.bef 2 kr;have h4:=hN.post 4 kr;unfold yZ at hp;rw [h4,hN.1,h2] at hp;obtain ⟨u,T2,x,hx,hcur,HS⟩:=hp;obtain ⟨o,ho,hd,hw,hrun⟩:=zO (show opv _ _ 3 (yH [(11,.pointer (some ⟨b3,2,none⟩)),(12,.slice p n c),(13,.agg (g 2).cur)] _) w=some (some 14,true,.ok (.value (.slice (some ⟨w.heap.size,0,none⟩) 1 1)) (w.alloc (.cells (xc x) 46))) by rw [hcur];kernel_rfl);refine ⟨o,ho,hd,.inr ⟨hw,?_⟩⟩;refine (congrArg (D2.Runs _ _) hrun).mpr ?_;refine ⟨{ b:=w.heap.size },rfl,?_⟩;unfold yZ;rw [show D2.put1 L1 3 4=false from h4,show D2.put1 L1 3 3=true from rfl];exact ⟨u,T2,x,hx,HS.alloc _⟩
  ·refine .of (D2.gives_of fun L1 g w hp hN=>?_);have h3:=hN.bef 3 kr;have h6:=hN.post 6 kr;unfold yZ at hp;rw [hN.1,h3] at hp;obtain ⟨u,T2,x,hx,HS⟩:=hp;obtain ⟨o,ho,hd,hw,hop⟩:=zD (show opk _ 4 _=some (some 15,true,yp 43 (.tmp 12) (.tmp 14)) by kernel_rfl);refine ⟨o,ho,hd,.inr ⟨hw,?_⟩⟩;rcases hI.row with ⟨rfl,rfl,rfl,rfl,rfl⟩ | ⟨b,cur,rfl,rfl,hrw⟩
   ·obtain ⟨b',cap',cur',w',hrun,HS',hr'⟩:=ziQ HS (t:=43) (e:=46) (bytes:=48) (k:=0) (bx:=(g 3).b) (c:=1) (y:=x) kr hop kr kr rfl (by omega);rw [hrun];refine ⟨{ b:=b',cap:=cap',cur:=cur' },rfl,?_⟩;unfold yZ;rw [show D2.put1 L1 4 4=true from rfl,show D2.put1 L1 4 6=false from h6];refine ⟨u,T2,x,hx,hr',?_⟩;exact (HS'.sub (List.Sublist.cons_cons _ (List.sublist_cons_self ..))).perm (List.perm_middle (l₁:=[(b4,dc u),(b3,xo (.slice none 0 0)),(b2,r0)]))
   ·obtain ⟨b',cap',cur',w',hrun,HS',hr'⟩:=ziP HS (t:=43) (e:=46) (bytes:=48) (j:=4) (k:=0) (bx:=(g 3).b) (c:=1) (y:=x) kr hop kr rfl hrw kr rfl (by omega) (by unfold maxLen;omega);rw [hrun];refine ⟨{ b:=b',cap:=cap',cur:=cur' },rfl,?_⟩;unfold yZ;rw [show D2.put1 L1 4 4=true from rfl,show D2.put1 L1 4 6=false from h6];exact ⟨u,T2,x,hx,hr',HS'.sub (List.sublist_cons_self ..)⟩
  ·exact .of (D2.gv_val (fun L g w h=>by have:=h.keep (i:=5) (y:=g 5) rfl rfl rfl rfl;rwa [D2.setN_self] at this) (fun g w=>by kernel_rfl))
  ·refine .of (D2.gives_of fun L1 g w hp hN=>?_);have h4:=hN.bef 4 kr;unfold yZ at hp;rw [h4,hN.1] at hp;obtain ⟨u,T2,x,hx,hr',HS⟩:=hp;obtain ⟨o,ho,hd,hw,hop⟩:=zD (show opk _ 6 _=some (none,true,.store 43 (.tmp 16) (.tmp 15)) by kernel_rfl);refine ⟨o,ho,hd,.inr ⟨hw,?_⟩⟩;rw [xP (t:=43) (off:=2) (b:=b3) (C:=#[.bool true,.string ⟨#[]⟩,.slice p n c]) (T:=46) (v:=.slice (some ⟨(g 4).b,0,none⟩) (n+1) (g 4).cap) (C':=#[.bool true,.string ⟨#[]⟩,.slice (some ⟨(g 4).b,0,none⟩) (n+1) (g 4).cap]) (HS.get 1 kr) kr kr (of_decide_eq_true kr) kr kr kr o hop];refine ⟨default,rfl,?_⟩;unfold yZ;rw [show D2.put1 L1 6 4=true from h4,show D2.put1 L1 6 6=true from rfl];exact ⟨u,T2,x,hx,hr',HS.store 1 (C:=#[.bool true,.string ⟨#[]⟩,.slice p n c]) kr⟩
  ·intro L1 g w' hall hp;unfold yZ at hp;rw [hall 4 (Nat.le_of_ble_eq_true kr),hall 6 (Nat.le_of_ble_eq_true kr)] at hp;obtain ⟨u,T2,x,hx,hr',HS⟩:=hp;obtain ⟨hlt,hI'⟩:=hI.next (b:=(g 4).b) ht hx hr'
   show ∃m,_∧_;refine ⟨_,hlt,u,_,_,_,_,_,_,rfl,hI',?_,(Is.of ⟨kr,kr,kr,kr,trivial⟩)⟩;rw [List.append_assoc];exact HS
theorem ziR (m:Nat):(∀(t:ByteArray),t.size≤m→m≤100000→(∀bd,ky bd t)∧zby t):=by
 induction m with
 | zero=>
  intro t h hm;have hi: ∀(bd:Nat) (u:ByteArray),u.size≤t.size→ky bd u:=fun bd u hu=>zd0 bd u (by omega) fun s hs=>by omega
  exact ⟨fun bd=>hi bd t (Nat.le_refl _),zd4 t (by omega) hi⟩
 | succ m ih=>
  intro t h hm;have hi: ∀(bd:Nat) (u:ByteArray),u.size≤t.size→ky bd u:=fun bd u hu=>zd0 bd u (by omega) fun s hs=>(ih s (by omega) (by omega)).2;exact ⟨fun bd=>hi bd t (Nat.le_refl _),zd4 t (by omega) hi⟩
theorem ziS (bd:Nat)(t:ByteArray)(ht:t.size≤100000):ky bd t:=(ziR 100000 t ht (Nat.le_refl _)).1 bd
structure kA (ds:List Deferred)(a:Act)(ρ:Env)(N:Nat):Prop where
 defers:a.defers=ds
 rep:Rep { a with defers:=[] } ρ N
def uR (ds:List Deferred)(N:Nat)(Q:Exit→Env→World→Prop):Exit→Act→World→Prop:=fun e a w=> ∃ρ,kA ds a ρ N∧Q e ρ w
theorem zd5 (a:Act)(d:Option Nat)(v:Value):(a.put d v).defers=a.defers:=by cases d<;>rfl
theorem ziT (a:Act)(d:Option Nat)(v:Value): { a.put d v with defers:=[] } =({ a with defers:=[] } :Act).put d v:=by cases d<;>rfl
theorem uS (a:Act):({ a with defers:=[] } :Act).eval=a.eval:=by funext x;cases x<;>rfl
section
variable {P:Program}{N:Nat}{ops:Array Oper}{Q:Exit→Env→World→Prop}{K:Env→World→Prop}{ρ:Env}{w:World}{i:Nat}{ds:List Deferred}
theorem zd6 (h:LetsOut (yU N Q)):LetsOut (uR ds N Q):=by
 obtain ⟨a,w,ρ,hr,hq⟩:=h;exact ⟨{ a with defers:=ds },w,ρ,⟨rfl,⟨rfl,hr.size,hr.at_⟩⟩,hq⟩
theorem ziU {a:Act}(ha:a.defers=ds)(h:wpOp P ops (yU N Q) i (fun a' w'=> ∃ρ',Rep a' ρ' N∧K ρ' w') { a with defers:=[] } w):wpOp P ops (uR ds N Q) i (fun a' w'=> ∃ρ',kA ds a' ρ' N∧K ρ' w') a w:=by
 unfold wpOp at h ⊢;have hnext: ∀(d:Option Nat) (v:Value) (w':World),(∃ρ',Rep (({ a with defers:=[] } :Act).put d v) ρ' N∧K ρ' w')→∃ρ',kA ds (a.put d v) ρ' N∧K ρ' w':=fun d v w' ⟨ρ',hr,hk⟩=>⟨ρ',⟨by rw [zd5,ha],by rw [ziT];exact hr⟩,hk⟩
 cases ho:ops[i]? with
 | none=>
  simp only [ho] at h ⊢;obtain ⟨ρ',hr,hk⟩:=h;exact ⟨ρ',⟨ha,hr⟩,hk⟩
 | some o=>
  simp only [ho] at h ⊢;split
  ·rename_i hw
   rw [if_pos hw] at h;rcases h with h | ⟨h1,h2⟩
   ·left;unfold Oper.wp at h ⊢;rw [uS] at h;generalize (execOp a.eval o).run P w=r at h;cases r with
    | ok n w'=>
     cases n with
     | value v=>exact hnext _ _ _ h
     | skip=>exact hnext _ _ _ h
     | defer d=>
      obtain ⟨ρ',hr,_⟩:=h;have:=hr.defers;rw [zd5] at this;cases this
     | enter f args=>
      refine Calls.mono h fun e w'' q=>?_;cases e with
      | returned v=>exact hnext _ _ _ q
      | panicked ch=>
       obtain ⟨ρ',hr,hq⟩:=q;exact ⟨ρ',⟨ha,hr⟩,hq⟩
      | outgrown=>exact zd6 q
     | row row args=>exact Rows.mono h fun v w'' q=>hnext _ _ _ q
     | _=>exact (h:False).elim
    | halt hh w'=>
     cases hh with
     | panic v=>
      obtain ⟨ρ',hr,hq⟩:=h;exact ⟨ρ',⟨ha,hr⟩,hq⟩
     | _=>exact (h:False).elim
   ·right;refine ⟨?_,zd6 h2⟩;unfold Oper.asks at h1 ⊢;rw [uS] at h1;exact h1
  ·rename_i hw
   rw [if_neg hw] at h;exact hnext _ _ _ h
theorem ym.soundD: ∀(l:List Nat) (ρ:Env) (w:World),ym P N ops Q (Q .normal) l ρ w→ ∀a,kA ds a ρ N→wpOps P ops (uR ds N Q) l a w
 | [],ρ,w,h,a,ha=>⟨ρ,ha,h⟩
 | i::r,ρ,w,h,a,ha=>by
  rw [wpOps_cons];exact wpOp_mono (fun a' w' ⟨ρ',hr,h'⟩=>ym.soundD r ρ' w' h' a' hr) (ziU ha.defers (h _ ha.rep))
def WPD (ds:List Deferred)(P:Program)(N:Nat)(c:Code)(Q:Exit→Env→World→Prop)(ρ:Env)(w:World):Prop:= ∀a,kA ds a ρ N→c.wp P (uR ds N Q) a w
variable {c:Code}
theorem zd7 (hc:yV c=true)(h:WPD ds P N (zy c) (nx (WPD ds P N (zx c) Q) Q) ρ w):WPD ds P N c Q ρ w:=fun a ha=>by
 rw [zcm hc]
 exact wp_seq (Go.wp_mono (h a ha) fun e a' w' ⟨r,hr,q⟩=>by
  cases e<;>first | exact q a' hr | exact ⟨r,hr,q⟩)
theorem zd8 (l:List Nat)(hc:qC c=some (l,false))(h:ym P N (zi c) Q (Q .normal) l ρ w):WPD ds P N c Q ρ w:=fun a ha=>by
 obtain ⟨id,he,hl⟩:=xK hc;rw [he];exact wp_region (by rw [hl];exact ym.soundD l ρ w h a ha)
theorem vB (l:List Nat)(hc:yV c=true)(hr:qC (zy c)=some (l,false))(h:ym P N (zi (zy c)) (nx (WPD ds P N (zx c) Q) Q) (WPD ds P N (zx c) Q) l ρ w):WPD ds P N c Q ρ w:=
 zd7 hc (zd8 l hr h)
theorem ziV (hc:kM c=true)(h:Q .normal ρ w):WPD ds P N c Q ρ w:=fun a ha=>by rw [zcp hc];exact wp_skip ⟨ρ,ha,h⟩
end
section
variable {P:Program}{N:Nat}{ops:Array Oper}{ρ:Env}{w w':World}{i:Nat}{ds:List Deferred}{c:Code}{rest:List Nat}{a:Act}{cs:List Frame}
theorem ziW {Q:Exit→Env→World→Prop}(hc:xj c=true)(hx:ev ρ (ji c)=.bool true)(ht:WPD ds P N (xh c) Q ρ w):WPD ds P N c Q ρ w:=fun a ha=>by
 rw [vU hc];exact wp_cond_true (by rw [←uS,ha.rep.eval];exact hx) (ht a ha)
theorem ziX {Q:Exit→Env→World→Prop}(hc:xj c=true)(hx:ev ρ (ji c)=.bool false)(ht:WPD ds P N (xi c) Q ρ w):WPD ds P N c Q ρ w:=fun a ha=>by
 rw [vU hc];exact wp_cond_false (by rw [←uS,ha.rep.eval];exact hx) (ht a ha)
theorem ziY {Q:Exit→Env→World→Prop}(hc:jH c=true)(h:Q .ret ρ w):WPD ds P N c Q ρ w:=fun a ha=>by rw [zco hc];exact wp_ret ⟨ρ,ha,h⟩
variable {Q:Exit→Act→List Frame→World→Prop}
theorem ziZ {d:Option Nat}(ha:Rep a ρ N)(hn:recoverD cs=none)(h:opv P ops i ρ w=some (d,true,.ok .recover w'))(k:wpOpsS P ops Q rest (a.put d .nilIface) cs w'):wpOpsS P ops Q (i::rest) a cs w:=by
 obtain ⟨o,ho,rfl,hw,hr⟩:=zO h;have h1:Region.wanted o (yielded ops a.tmps)=true:=by rw [qU ha];exact hw
 rw [←ha.eval] at hr;simp only [wpOpsS,ho,h1,if_true,hr,hn];exact k
theorem zi0 {d:Option Nat}{v:Value}{cs':List Frame}(ha:Rep a ρ N)(hn:recoverD cs=some (v,cs'))(h:opv P ops i ρ w=some (d,true,.ok .recover w'))(k:wpOpsS P ops Q rest (a.put d v) cs' w'):wpOpsS P ops Q (i::rest) a cs w:=by
 obtain ⟨o,ho,rfl,hw,hr⟩:=zO h;have h1:Region.wanted o (yielded ops a.tmps)=true:=by rw [qU ha];exact hw
 rw [←ha.eval] at hr;simp only [wpOpsS,ho,h1,if_true,hr,hn];exact k
theorem zd9 {d:Option Nat}{v:Value}(ha:Rep a ρ N)(h:opv P ops i ρ w=some (d,true,.ok (.value v) w'))(k:wpOpsS P ops Q rest (a.put d v) cs w'):wpOpsS P ops Q (i::rest) a cs w:=by
 obtain ⟨o,ho,rfl,hw,hr⟩:=zO h;have h1:Region.wanted o (yielded ops a.tmps)=true:=by rw [qU ha];exact hw
 rw [←ha.eval] at hr;simp only [wpOpsS,ho,h1,if_true,hr,Oper.upon];exact k
end
def chR:FrameMode:=.panicking [{ v:=.iface 31 (.int .i64 4),recovered:=true }]
theorem zbz (args:Array Value)(n N:Nat)(hn:args.size+n=N):Rep { tmps:=args++Array.replicate n undef,defers:=[] } (ini args) N:=by
 refine ⟨rfl,by simp [hn],fun t=>?_⟩;unfold ini;rw [jF,jF,Array.getElem?_append];split
 ·rfl
 ·rename_i hge
  rw [Array.getElem?_eq_none (Nat.le_of_not_lt hge)];cases he:(Array.replicate n undef)[t-args.size]? with
  | none=>rfl
  | some v=>
   have:=Array.mem_of_getElem? he;simp at this;simp [this]
abbrev yL (b2 b3:Nat):Array Value:=#[.pointer (some ⟨b2,0,none⟩),.pointer (some ⟨b3,0,none⟩)]
theorem zi1 (b2 b3:Nat)(w:World):CallsD Tryz.prog 42 (yL b2 b3) .returning w fun e u' w'=>e=.returned (.tuple #[])∧u'=.returning∧w'=w:=by
 refine callsD_of_wpS (f:=42) (c:=zf Tryz.f42) (P:=Tryz.prog) Tryz.func42 kr fun c0 cs hm=>?_;have ha:=zbz (yL b2 b3) 3 5 rfl;have hc:zf Tryz.f42=.seq (zy (zf Tryz.f42)) (zx (zf Tryz.f42)):=kr;have hr:recoverD (c0::cs)=none:=by simp [recoverD,hm]
 rw [hc];refine wpS_seq ?_;have hreg:zy (zf Tryz.f42)=.region 0 (zi (zy (zf Tryz.f42))) false:=kr;rw [hreg];refine wpS_region ?_;rw [show List.range (zi (zy (zf Tryz.f42))).size=[0,1] by kernel_rfl];show wpOpsS _ _ _ [0,1] { tmps:=yL b2 b3++Array.replicate 3 undef,defers:=[] } _ _;refine ziZ (ρ:=ini (yL b2 b3)) (d:=some 2) (w':=w) ha hr kr ?_;have ha2:=ha.put (some 2) (zN (by rfl)) .nilIface;refine zd9 (d:=some 3) (v:=.bool false) (w':=w) ha2 kr ?_;have ha3:=ha2.put (some 3) (zN (by rfl)) (.bool false);show (zx (zf Tryz.f42)).wpS _ _ _ _ _;have hcond:zx (zf Tryz.f42)=.cond (ji (zx (zf Tryz.f42))) (xh (zx (zf Tryz.f42))) (xi (zx (zf Tryz.f42))):=kr;rw [hcond];refine wpS_cond (t:=false) (by rw [ha3.eval];kernel_rfl)<|wpS_of_wp ?_;have hsk:xi (zx (zf Tryz.f42))=.skip:=kr;rw [if_neg (by decide),hsk];refine wp_skip ?_;exact ⟨ha3.defers,c0.mode,rfl,.tuple #[],by kernel_rfl,rfl,hm,rfl⟩
theorem zi2 (b2 b3:Nat)(x1 x2 x3 y:Value){B:Nat}{w0 w:World}{L:List (Nat×Obj)}(H:St B w0 w ((b2,.cells #[x1,x2,x3] 46 (0,0))::(b3,.cells #[y] 31 (0,0))::L)):
 CallsD Tryz.prog 42 (yL b2 b3) (.panicking chF) w fun e u' w'=>e=.returned (.tuple #[])∧u'=chR∧St B w0 w' ((b2,.cells #[.bool false,.string ⟨#[]⟩,.slice none 0 0] 46 (0,0))::(b3,.cells #[.int .i64 4] 31 (0,0))::L):=by
 refine callsD_of_wpS (f:=42) (c:=zf Tryz.f42) (P:=Tryz.prog) Tryz.func42 kr fun c0 cs hm=>?_;have ha:=zbz (yL b2 b3) 3 5 rfl;have hc:zf Tryz.f42=.seq (zy (zf Tryz.f42)) (zx (zf Tryz.f42)):=kr;have hr:recoverD (c0::cs)=some (.iface 31 (.int .i64 4),{ c0 with mode:=chR } :: cs):=by simp [recoverD,hm,chF,chR]
 rw [hc];refine wpS_seq ?_;have hreg:zy (zf Tryz.f42)=.region 0 (zi (zy (zf Tryz.f42))) false:=kr;rw [hreg];refine wpS_region ?_;rw [show List.range (zi (zy (zf Tryz.f42))).size=[0,1] by kernel_rfl];show wpOpsS _ _ _ [0,1] { tmps:=yL b2 b3++Array.replicate 3 undef,defers:=[] } _ _;refine zi0 (ρ:=ini (yL b2 b3)) (d:=some 2) (w':=w) ha hr kr ?_;have ha2:=ha.put (some 2) (zN (by rfl)) (.iface 31 (.int .i64 4));refine zd9 (d:=some 3) (v:=.bool true) (w':=w) ha2 kr ?_;have ha3:=ha2.put (some 3) (zN (by rfl)) (.bool true);show (zx (zf Tryz.f42)).wpS _ _ _ _ _;have hcond:zx (zf Tryz.f42)=.cond (ji (zx (zf Tryz.f42))) (xh (zx (zf Tryz.f42))) (xi (zx (zf Tryz.f42))):=kr;rw [hcond];refine wpS_cond (t:=true) (by rw [ha3.eval];kernel_rfl)<|wpS_of_wp ?_;rw [if_pos rfl];have hw:WP Tryz.prog 5 (xh (zx (zf Tryz.f42))) (fun e ρ w'=>match e with | .normal=>St B w0 w' ((b2,.cells #[.bool false,.string ⟨#[]⟩,.slice none 0 0] 46 (0,0))::(b3,.cells #[.int .i64 4] 31 (0,0))::L) | _=>False) _ w:=rL (ρ:=zm (zm (ini (yL b2 b3)) (some 2) (.iface 31 (.int .i64 4))) (some 3) (.bool true)) [.v,.s 0,.s 1] H kr fun gs w' H'=>H'.as kr;refine Go.wp_mono (hw _ ha3) ?_;rintro e a' w' ⟨ρ',hrep,hq⟩;cases e with
 | normal=>exact ⟨hrep.defers,chR,rfl,.tuple #[],by kernel_rfl,rfl,rfl,hq⟩
 | _=>exact (hq:False).elim
def zi3 (t:ByteArray)(v:Value)(T:List (Nat×Obj)):Prop:=
 (∃(l:Bool) (s:ByteArray) (p:Option Addr) (n c:Nat) (k:Fo),v=.tuple #[.agg #[.bool l,.string s,.slice p n c],.int .i64 0]∧yj t l s k ⟨#[]⟩∧SlC T p n c k∧s.size≤t.size)∨
 (v=.tuple #[.agg #[.bool false,.string ⟨#[]⟩,.slice none 0 0],.int .i64 4]∧T=[]∧ ∀(l:Bool) (s:ByteArray) (k:Fo),mixed l s k.len=false→pureF k=true→tl t≠wr1 l s (szF k) (wrF k))
def FnZ (P:Program)(f:Nat)(args:Array Value)(ok:Value→List (Nat×Obj)→Prop):Prop:=
 ∀(B:Nat) (w0 w:World) (L:List (Nat×Obj)),St B w0 w L→Calls P f args w fun e w'=> ∃v T,e=.returned v∧ok v T∧St B w0 w' (T++L)
def zi4 (t:ByteArray)(B:Nat)(w0:World)(b2 b3:Nat)(L:List (Nat×Obj)):Exit→Env→World→Prop
 | .ret,ρ,w=>ρ 2=.pointer (some ⟨b2,0,none⟩)∧ρ 3=.pointer (some ⟨b3,0,none⟩)∧∃(l:Bool) (s:ByteArray) (p:Option Addr) (n c:Nat) (k:Fo) (T:List (Nat×Obj)),yj t l s k ⟨#[]⟩∧SlC T p n c k∧s.size≤t.size∧St B w0 w ((b2,.cells #[.bool l,.string s,.slice p n c] 46 (0,0))::(b3,.cells #[.int .i64 0] 31 (0,0))::(T++L))
 | .panic ch,ρ,w=>ρ 2=.pointer (some ⟨b2,0,none⟩)∧ρ 3=.pointer (some ⟨b3,0,none⟩)∧ch=chF∧(∀(l:Bool) (s:ByteArray) (k:Fo),mixed l s k.len=false→pureF k=true→tl t≠wr1 l s (szF k) (wrF k))∧∃x1 x2 x3 y,St B w0 w ((b2,.cells #[x1,x2,x3] 46 (0,0))::(b3,.cells #[y] 31 (0,0))::L)
 | _,_,_=>False
theorem zi5 {t:ByteArray}(h:jP t)(l:Bool)(s:ByteArray)(k:Fo)(hm:mixed l s k.len=false)(hp:pureF k=true):tl t≠wr1 l s (szF k) (wrF k):=fun e=>h l s k [] hm hp (by rw [e,List.append_nil])
theorem zi6 {t u:ByteArray}{l l':Bool}{s s':ByteArray}{k k':Fo}(ht:t.size≤100000)(h:yj t l s k u)(hu: ¬u=⟨#[]⟩)(hm:mixed l' s' k'.len=false)(hp:pureF k'=true):tl t≠wr1 l' s' (szF k') (wrF k'):=fun e=>by
 obtain ⟨r,hr,he⟩:=zdU (k':=.cons l' s' k' .nil) ht h (by simp only [pureF,hm,hp];rfl) (by rw [e];simp only [wrF,List.append_nil]);obtain ⟨hm1,hp1,hi⟩:=h;have hlen:=congrArg List.length hi;have hlen2:=congrArg List.length e;rw [zt,List.length_append,qF hm1 (zV hp1)] at hlen;rw [zt,qF hm (zV hp)] at hlen2;have hpay: ∀(l:Bool) (s:ByteArray) (k:Fo),sz1 l s (szF k)≤100000→mixed l s k.len=false→s.size+szF k≤100000:=fun l s k h hm=>by
  unfold sz1 at h;split at h
  ·rename_i q
   have h1:=qY q;have h2:=len_zero (qN hm q);rw [h2];simp only [szF];omega
  ·omega
 have hx:=hpay l s k (by omega) hm1;have hy:=hpay l' s' k' (by omega) hm;have e2:wr1 l s (szF k) (wrF k)++tl u=wr1 l' s' (szF k') (wrF k')++ []:=by rw [List.append_nil,←e,hi]
 obtain ⟨_,_,_,hX⟩:=kw hm1 hm (zV hp1).symm (zV hp).symm (by omega) (by omega) (fun q=>xR k k' hp1 hp (by rw [zV hp1];omega) q) e2;exact hu (qM hX)
theorem zi7 (t:ByteArray)(ht:t.size≤100000)(ds:List Deferred){B:Nat}{w0 w:World}{L:List (Nat×Obj)}(b2 b3:Nat)(ρ0:Env)(H0:St B w0 w ((b2,.cells #[.bool false,.string ⟨#[]⟩,.slice none 0 0] 46 (0,0))::(b3,.cells #[.int .i64 0] 31 (0,0))::L)):
 WPD ds Tryz.prog 14 (zx (zx (zf Tryz.f24))) (zi4 t B w0 b2 b3 L) (yH [(0,.string t),(2,.pointer (some ⟨b2,0,none⟩)),(3,.pointer (some ⟨b3,0,none⟩))] ρ0) w:=by
 refine vB [0,1,2,3] kr kr<|jR _<|zd (some 6) (.string t) (fun w=>by kernel_rfl) kr<|zd (some 7) (.agg #[.string t]) (fun w=>by kernel_rfl) kr<|zE H0 (some 4) 88 (.agg #[.string ⟨#[]⟩]) kr kr kr ?_;intro b4 w1 H1;refine rp [.s 0] H1 kr fun gs1 w2 H2=>wX []<|zb ?_;have H3:St B w0 w2 ((b4,dc t)::(b2,.cells #[.bool false,.string ⟨#[]⟩,.slice none 0 0] 46 (0,0))::(b3,.cells #[.int .i64 0] 31 (0,0))::L):=H2.as kr;show WPD _ _ _ _ _ _ _;refine vB [0,1] kr kr<|xS H3 (List.Perm.refl _) (some 8) 43 #[.pointer (some ⟨b4,0,none⟩)] (ziS b4 t ht) kr kr (fun w' hb HS=>?_) ?_
 ·exact ⟨by kernel_rfl,by kernel_rfl,rfl,zi5 hb,_,_,_,_,HS⟩
 rintro _ u T w3 ⟨l,s,p,n,c,k,rfl,hi,hs,hz⟩ H4;have H5:St B w0 w3 ((b4,dc u)::(b2,.cells #[.bool false,.string ⟨#[]⟩,.slice none 0 0] 46 (0,0))::(b3,.cells #[.int .i64 0] 31 (0,0))::(T++L)):=H4.perm (List.Perm.cons _ (List.perm_append_comm_assoc [(b2,_),(b3,_)] T L));refine jR _<|rp [.s 1] H5 kr fun gs2 w4 H6=>wX []<|zb ?_;show WPD _ _ _ _ _ _ _;refine zd7 kr ?_;by_cases hu:u=⟨#[]⟩
 ·refine vB [0,1,2] kr kr<|jR _<|rp [.v,.l 0,.E (.bool (!(ByteArray.toList u==ByteArray.toList (⟨#[]⟩)))) (.bool false) (za (by rw [zI u (⟨#[]⟩) hu];rfl))] H6 kr fun gs3 w5 H7=>wX []<|zb ?_;show WPD _ _ _ _ _ _ _;refine ziX kr kr<|ziV kr ?_;show WPD _ _ _ _ _ _ _;refine vB [0,1,2] kr kr<|jR _<|rp [.l 1,.s 1,.s 2] H7 kr fun gs4 w6 H8=>wX []<|zb ?_;show WPD _ _ _ _ _ _ _;refine ziY kr ?_;have H9:St B w0 w6 ((b4,dc u)::(b2,.cells #[.bool l,.string s,.slice p n c] 46 (0,0))::(b3,.cells #[.int .i64 0] 31 (0,0))::(T++L)):=H8.as kr;subst hu;exact ⟨by kernel_rfl,by kernel_rfl,l,s,p,n,c,k,T,hi,hs,hz,H9.sub (List.sublist_cons_self ..)⟩
 ·refine vB [0,1,2] kr kr<|jR _<|rp [.v,.l 0,.E (.bool (!(ByteArray.toList u==ByteArray.toList (⟨#[]⟩)))) (.bool true) (za (by rw [yO u (⟨#[]⟩) hu];rfl))] H6 kr fun gs3 w5 H7=>wX []<|zb ?_;show WPD _ _ _ _ _ _ _;refine ziW kr kr<|zd8 [0,1] kr<|jQ [0] (l2:=[1]) rfl<|rp [.v] H7 kr fun gs4 w6 H8=>wX []<|zb<|uL none (.iface 31 (.int .i64 4)) kr ?_;have H9:St B w0 w6 ((b4,dc u)::(b2,.cells #[.bool l,.string s,.slice p n c] 46 (0,0))::(b3,.cells #[.int .i64 0] 31 (0,0))::(T++L)):=H8.as kr;exact ⟨by kernel_rfl,by kernel_rfl,rfl,fun l' s' k' hm hp=>zi6 ht hi hu hm hp,_,_,_,_,H9.sub (List.Sublist.cons _ (List.Sublist.cons_cons _ (List.Sublist.cons_cons _ (List.sublist_append_right _ _))))⟩
section
variable {P:Program}{N:Nat}{ops:Array Oper}{ρ:Env}{w w':World}{i:Nat}{rest:List Nat}{a:Act}{Q:Exit→Act→World→Prop}
theorem zi8 {d:Option Nat}{v:Value}(ha:Rep a ρ N)(h:opv P ops i ρ w=some (d,true,.ok (.value v) w'))(k:wpOps P ops Q rest (a.put d v) w'):wpOps P ops Q (i::rest) a w:=by
 obtain ⟨o,ho,rfl,hw,hr⟩:=zO h;have h1:Region.wanted o (yielded ops a.tmps)=true:=by rw [qU ha];exact hw
 rw [←ha.eval] at hr;rw [wpOps_cons];unfold wpOp;simp only [ho,h1,if_true];left;unfold Oper.wp;rw [hr];exact k
theorem zi9 {d:Option Nat}{dd:Deferred}(ha:Rep a ρ N)(h:opv P ops i ρ w=some (d,true,.ok (.defer dd) w'))(k:wpOps P ops Q rest ({ a with defers:=dd::a.defers }.put d undef) w'):wpOps P ops Q (i::rest) a w:=by
 obtain ⟨o,ho,rfl,hw,hr⟩:=zO h;have h1:Region.wanted o (yielded ops a.tmps)=true:=by rw [qU ha];exact hw
 rw [←ha.eval] at hr;rw [wpOps_cons];unfold wpOp;simp only [ho,h1,if_true];left;unfold Oper.wp;rw [hr];exact k
end
def ddv (b2 b3:Nat):Deferred:= { target:=.fn (.func 42) (yL b2 b3),args:=#[] }
theorem zja (t:ByteArray)(ht:t.size≤100000):FnZ Tryz.prog 24 #[.string t] (zi3 t):=fun B w0 w L HS=>by
 refine calls_of_wp_defers (f:=24) (fn:=Tryz.f24) (c:=zf Tryz.f24) Tryz.func24 kr ?_;have ha:=zbz #[.string t] 13 14 rfl;show (zf Tryz.f24).wp _ _ { tmps:=#[.string t]++Array.replicate 13 undef,defers:=[] } w;rw [show zf Tryz.f24=.seq (zy (zf Tryz.f24)) (zx (zf Tryz.f24)) by kernel_rfl];refine wp_seq ?_;have h0:WP Tryz.prog 14 (zy (zf Tryz.f24)) (fun e ρ w'=>match e with | .normal=> ∃b2 b3,ρ=zm (zm (ini #[.string t]) (some 2) (.pointer (some ⟨b2,0,none⟩))) (some 3) (.pointer (some ⟨b3,0,none⟩))∧St B w0 w' ((b3,.cells #[.int .i64 0] 31 (0,0))::(b2,.cells #[.bool false,.string ⟨#[]⟩,.slice none 0 0] 46 (0,0))::L) | _=>False) (ini #[.string t]) w:=by
  refine yo [0,1] kr<|zE HS (some 2) 46 (.agg #[.bool false,.string ⟨#[]⟩,.slice none 0 0]) kr kr kr ?_;intro b2 w1 H1;refine zE H1 (some 3) 31 (.int .i64 0) kr kr kr ?_;intro b3 w2 H2;refine zb ?_;exact ⟨b2,b3,rfl,H2⟩
 refine Go.wp_mono (h0 _ ha) ?_;rintro e a1 w1 ⟨ρ1,hr1,hq⟩;cases e with
 | normal=>
  obtain ⟨b2,b3,rfl,H1⟩:=hq;show (zx (zf Tryz.f24)).wp _ _ a1 w1;rw [show zx (zf Tryz.f24)=.seq (zy (zx (zf Tryz.f24))) (zx (zx (zf Tryz.f24))) by kernel_rfl];refine wp_seq ?_;rw [show zy (zx (zf Tryz.f24))=.region 1 (zi (zy (zx (zf Tryz.f24)))) false by kernel_rfl];refine wp_region ?_;rw [show List.range (zi (zy (zx (zf Tryz.f24)))).size=[0,1] by kernel_rfl];refine zi8 (d:=some 5) (v:=.func (.func 42) #[] (yL b2 b3)) (w':=w1) hr1 kr ?_;have hr2:=hr1.put (some 5) (zN (by rfl)) (.func (.func 42) #[] (yL b2 b3));refine zi9 (d:=none) (dd:=ddv b2 b3) (w':=w1) hr2 kr ?_;show (zx (zx (zf Tryz.f24))).wp _ _ { a1.put (some 5) (.func (.func 42) #[] (yL b2 b3)) with defers:=ddv b2 b3::(a1.put (some 5) (.func (.func 42) #[] (yL b2 b3))).defers } w1;have hds:(a1.put (some 5) (.func (.func 42) #[] (yL b2 b3))).defers=[]:=hr2.defers;rw [hds];have hD:kA [ddv b2 b3] { a1.put (some 5) (.func (.func 42) #[] (yL b2 b3)) with defers:=[ddv b2 b3] } (yH [(0,.string t),(2,.pointer (some ⟨b2,0,none⟩)),(3,.pointer (some ⟨b3,0,none⟩))] (zm (zm (zm (ini #[.string t]) (some 2) (.pointer (some ⟨b2,0,none⟩))) (some 3) (.pointer (some ⟨b3,0,none⟩))) (some 5) (.func (.func 42) #[] (yL b2 b3)))) 14:=by
   refine ⟨rfl,?_⟩;have hS:ke (zm (zm (zm (ini #[.string t]) (some 2) (.pointer (some ⟨b2,0,none⟩))) (some 3) (.pointer (some ⟨b3,0,none⟩))) (some 5) (.func (.func 42) #[] (yL b2 b3))) [(0,.string t),(2,.pointer (some ⟨b2,0,none⟩)),(3,.pointer (some ⟨b3,0,none⟩))]:=⟨kr,kr,kr,trivial⟩
   rw [kP hS];exact ⟨rfl,hr2.size,hr2.at_⟩
  have H2:=H1.perm (List.Perm.swap _ _ _);refine Go.wp_mono (zi7 t ht [ddv b2 b3] b2 b3 _ H2 _ hD) ?_;rintro e a2 w2 ⟨ρ2,hr3,hq⟩;cases e with
  | ret=>
   obtain ⟨h2,h3,l,s,p,n,c,k,T,hi,hs,hz,H3⟩:=hq;show Leaves _ _ a2.tmps _ a2.defers _ _;rw [hr3.defers];refine leaves_cons (f:=42) (args:=yL b2 b3) (by simp) kr<|(zi1 b2 b3 w2).mono ?_;rintro e u' w' ⟨rfl,rfl,rfl⟩;have hR:Res Tryz.prog w' ρ2 [.cell 2 46,.cell 3 31] [.agg #[.bool l,.string s,.slice p n c],.int .i64 0]:=
    .agg (b:=b2) (#[.bool l,.string s,.slice p n c]) 46 (0,0) h2 (H3.get 0 rfl) kr (.one (b:=b3) (.int .i64 0) (#[.int .i64 0]) 31 (0,0) h3 (H3.get 1 rfl) kr rfl .nil)
   have hres:=Res.run (fn:=Tryz.f24) hr3.rep (show Res Tryz.prog w' ρ2 Tryz.f24.results.toList _ from hR);refine ⟨_,hres,_,T,rfl,.inl ⟨l,s,p,n,c,k,rfl,hi,hs,hz⟩,H3.sub (List.Sublist.cons _ (List.sublist_cons_self ..))⟩
  | panic ch=>
   obtain ⟨h2,h3,rfl,hb,x1,x2,x3,y,H3⟩:=hq;show Leaves _ _ a2.tmps _ a2.defers _ _;rw [hr3.defers];refine leaves_cons (f:=42) (args:=yL b2 b3) (by simp) kr<|(zi2 b2 b3 x1 x2 x3 y H3).mono ?_;rintro e u' w' ⟨rfl,rfl,H4⟩;have hR:Res Tryz.prog w' ρ2 [.cell 2 46,.cell 3 31] [.agg #[.bool false,.string ⟨#[]⟩,.slice none 0 0],.int .i64 4]:=
    .agg (b:=b2) (#[.bool false,.string ⟨#[]⟩,.slice none 0 0]) 46 (0,0) h2 (H4.get 0 rfl) kr (.one (b:=b3) (.int .i64 4) (#[.int .i64 4]) 31 (0,0) h3 (H4.get 1 rfl) kr rfl .nil)
   have hres:=Res.run (fn:=Tryz.f24) hr3.rep (show Res Tryz.prog w' ρ2 Tryz.f24.results.toList _ from hR);refine ⟨_,hres,_,[],rfl,.inr ⟨rfl,rfl,hb⟩,H4.sub (List.Sublist.cons _ (List.sublist_cons_self ..))⟩
  | _=>exact (hq:False).elim
 | _=>exact (hq:False).elim
theorem uT: ∀ {k:Fo},pureF k=true→k.cnt≤szF k
 | .nil,_=>Nat.le_refl _
 | .cons l s k r,h=>by
  simp only [pureF,Bool.and_eq_true,Bool.not_eq_true'] at h;have h1:=uT h.1.2;have h2:=uT h.2;have h3:=zdi l s (szF k);simp only [Fo.cnt,szF];unfold sz1 at*;split
  ·rename_i q
   have h4:=len_zero (qN h.1.1 q);rw [h4];simp only [Fo.cnt];omega
  ·have:=xn (frm l) (s.size+szF k);omega
theorem yj.sz {t u:ByteArray}{l:Bool}{s:ByteArray}{k:Fo}(h:yj t l s k u):szF k≤t.size∧k.cnt≤t.size:=by
 obtain ⟨hm,hp,hi⟩:=h;have hlen:=congrArg List.length hi;rw [zt,List.length_append,qF hm (zV hp)] at hlen;have hc:=uT hp;have:szF k≤sz1 l s (szF k):=by
  unfold sz1;split
  ·rename_i q
   have h4:=len_zero (qN hm q);rw [h4];simp only [szF];omega
  ·omega
 omega
section
variable {P:Program}{N:Nat}{ops:Array Oper}{K:Env→World→Prop}{ρ:Env}{w w0:World}{i B:Nat}{r:List Nat}{l:List (Nat×Obj)}
theorem zbA (HS:St B w0 w l)(d:Option Nat)(f:Nat)(args:Array Value){ok:Value→List (Nat×Obj)→Prop}(hc:FnZ P f args ok)
 (h:opv P ops i ρ w=some (d,true,.ok (.enter f args) w)) (hd:dOK d N=true)
 (kk: ∀v T w',ok v T→St B w0 w' (T++l)→WPs P N ops K r (zm ρ d v) w'):WPs P N ops K (i::r) ρ w:=by
 obtain ⟨o,ho,rfl,hw,hr⟩:=zO h;refine WPo.run ho hw fun a ha=>?_;rw [hr,Oper.upon_enter];refine (hc B w0 w l HS).mono ?_;rintro _ w' ⟨v,T,rfl,h1,h2⟩;exact ⟨_,ha.put _ (zN hd) v,kk v T w' h1 h2⟩
end
theorem FnZ.intro {P:Program}{f:Nat}{fn:Func}{c:Code}(rs:List ResultVar)(N:Nat){args:Array Value}{ok:Value→List (Nat×Obj)→Prop}(hf:P.funcs[f]? =some fn)(hb:fn.body=some c)(hr:fn.results.toList=rs)(hn:args.size+(fn.ntmps-args.size)=N)
 (h: ∀B w0 w L,St B w0 w L→WP P N c (yu P rs fun v w'=> ∃T,ok v T∧St B w0 w' (T++L)) (ini args) w):FnZ P f args ok:=fun B w0 w L HS=>
 (jG hf hb hr hn (h B w0 w L HS)).mono fun e w' ⟨v,he,T,h1,h2⟩=>⟨v,T,he,h1,h2⟩
def erV (n:Int):Value:=.tuple #[.agg #[.bool false,.string ⟨#[]⟩,.slice none 0 0],.int .i64 n]
def zjb (t:ByteArray):Prop:= ∀(l:Bool) (s:ByteArray) (k:Fo),mixed l s k.len=false→pureF k=true→tl t≠wr1 l s (szF k) (wrF k)
def jS (t:ByteArray)(v:Value)(T:List (Nat×Obj)):Prop:=
 (4000<t.size∧v=erV 2∧T=[])∨(t.size≤4000∧(
  (∃(l:Bool) (s:ByteArray) (p:Option Addr) (n c:Nat) (k:Fo),v=.tuple #[.agg #[.bool l,.string s,.slice p n c],.int .i64 0]∧yj t l s k ⟨#[]⟩∧SlC T p n c k∧s.size≤t.size∧dp1 l (dpF k)≤8)∨
  (∃(l:Bool) (s:ByteArray) (k:Fo),yj t l s k ⟨#[]⟩∧8<dp1 l (dpF k)∧v=erV 5∧T=[])∨
  (zjb t∧v=erV 4∧T=[])))
theorem zea (t:ByteArray)(ht:t.size≤0x800000000000):FnZ Tryz.prog 14 #[.string t] (jS t):=by
 refine FnZ.intro (c:=zf Tryz.f14) [.cell 2 46,.tmp 3] 21 Tryz.func14 kr kr kr fun B w0 w L H0=>zg [0,1] kr kr<|zE H0 (some 2) 46 (.agg #[.bool false,.string ⟨#[]⟩,.slice none 0 0]) kr kr kr ?_;intro b1 w1 H1;refine zd (some 3) (.int .i64 0) (fun w=>by kernel_rfl) kr<|zb<|zc kr ?_;by_cases h4:t.size≤4000
 ·refine rS [.v,.v,.E (.bool (decide ((4000:Int)<(ByteArray.size t:Int)))) (.bool false) (za (decide_eq_false (by omega)))] H1 kr fun gs1 w2 H2=>zl kr kr<|zn kr<|wW<|zg [0,1,2,3,4,5,6,7] kr kr<|rp [.v] H2 kr fun gs2 w3 H3=>wX [1,2,3,4,5,6,7] ?_;have H4:St B w0 w3 ((b1,r0)::L):=H3.as kr;refine zbA H4 (some 12) 24 #[.string t] (zja t (by omega)) kr kr ?_;rintro _ T w4 (⟨l,s,p,n,c,k,rfl,hi,hs,hz⟩ | ⟨rfl,rfl,hb⟩) H5
  ·have H6:St B w0 w4 ((b1,r0)::(T++L)):=H5.perm List.perm_middle.symm;have hsz:=hi.sz;refine rp [.v,.v,.v] H6 kr fun gs3 w5 H7=>wX [5,6,7]<|zE H7 (some 4) 46 (.agg #[.bool false,.string ⟨#[]⟩,.slice none 0 0]) kr kr kr ?_;intro b2 w6 H8;refine rp [.s 0,.v] H8 kr fun gs4 w7 H9=>wX []<|zb ?_;have H10:St B w0 w7 ((b2,.cells #[.bool l,.string s,.slice p n c] 46 (0,0))::(b1,r0)::(T++L)):=H9.as kr;refine wW<|zc kr<|zg [0,1,2] kr kr<|rp [.l 0] H10 kr fun gs5 w8 H11=>wX [1,2] ?_;have H12:St B w0 w8 ((b2,.cells #[.bool l,.string s,.slice p n c] 46 (0,0))::(b1,r0)::(T++L)):=H11.as kr;have hS:=hs.1.at H12 (fun e he=>by simp [he]);refine yC H12 (some 16) 25 #[.agg #[.bool l,.string s,.slice p n c]] (fun w=>zr w.heap.size w p n k) (.int .i64 ((dp1 l (dpF k):Nat):Int)) (zbg l s p n c k (by omega) (by omega)) hS (fun w=>by kernel_rfl) kr ?_;intro w9 H13;by_cases h8:dp1 l (dpF k)≤8
   ·refine rp [.E (.bool (decide (8<((dp1 l (dpF k):Nat):Int)))) (.bool false) (za (decide_eq_false (by omega)))] H13 kr fun gs6 w10 H14=>wX []<|zb<|zl kr kr<|zn kr<|wW<|rS [.l 0,.v,.s 1,.v] H14 kr fun gs7 w11 H15=>?_;have H16:St B w0 w11 ((b2,.cells #[.bool l,.string s,.slice p n c] 46 (0,0))::(b1,.cells #[.bool l,.string s,.slice p n c] 46 (0,0))::(T++L)):=H15.as kr;refine zk kr<|wV ?_;exact ⟨[.agg #[.bool l,.string s,.slice p n c],.int .i64 0],(.agg (b:=b1) (#[.bool l,.string s,.slice p n c]) 46 (0,0) kr (H16.get 1 kr) kr (.tmp (.int .i64 0) kr .nil)),T,.inr ⟨h4,.inl ⟨l,s,p,n,c,k,rfl,hi,hs,hz,h8⟩⟩,H16.sub (List.Sublist.cons _ (List.sublist_cons_self ..))⟩
   ·refine rp [.E (.bool (decide (8<((dp1 l (dpF k):Nat):Int)))) (.bool true) (za (decide_eq_true (by omega)))] H13 kr fun gs6 w10 H14=>wX []<|zb<|zj kr kr<|rS [.v,.s 1,.v] H14 kr fun gs7 w11 H15=>?_;have H16:St B w0 w11 ((b2,.cells #[.bool l,.string s,.slice p n c] 46 (0,0))::(b1,r0)::(T++L)):=H15.as kr;refine zk kr<|wV ?_;exact ⟨[.agg #[.bool false,.string ⟨#[]⟩,.slice none 0 0],.int .i64 5],(.agg (b:=b1) (#[.bool false,.string ⟨#[]⟩,.slice none 0 0]) 46 (0,0) kr (H16.get 1 kr) kr (.tmp (.int .i64 5) kr .nil)),[],.inr ⟨h4,.inr (.inl ⟨l,s,k,hi,by omega,rfl,rfl⟩)⟩,H16.sub (List.Sublist.cons _ (List.Sublist.cons _ (List.sublist_append_right _ _)))⟩
  ·have H6:St B w0 w4 ((b1,r0)::L):=H5.as kr;refine rp [.v,.v,.v] H6 kr fun gs3 w5 H7=>wX [5,6,7]<|zE H7 (some 4) 46 (.agg #[.bool false,.string ⟨#[]⟩,.slice none 0 0]) kr kr kr ?_;intro b2 w6 H8;refine rp [.s 0,.v] H8 kr fun gs4 w7 H9=>wX []<|zb ?_;have H10:St B w0 w7 ((b2,r0)::(b1,r0)::L):=H9.as kr;refine wW<|zc kr<|zg [0,1,2] kr kr<|rp [.l 0] H10 kr fun gs5 w8 H11=>wX [1,2]<|yC H11 (some 16) 25 #[.agg #[.bool false,.string ⟨#[]⟩,.slice none 0 0]] (fun w=>zr w.heap.size w none 0 .nil) (.int .i64 ((dp1 false (dpF .nil):Nat):Int)) (zbg false ⟨#[]⟩ none 0 0 .nil (by decide) (by decide)) (zr.nil ..) (fun w=>by kernel_rfl) kr ?_;intro w9 H13;refine rp [.E (.bool (decide (8<((dp1 false (dpF .nil):Nat):Int)))) (.bool false) (za (by decide))] H13 kr fun gs6 w10 H14=>wX []<|zb<|zl kr kr<|zn kr<|wW<|rS [.l 0,.v,.s 1,.v] H14 kr fun gs7 w11 H15=>?_;have H16:St B w0 w11 ((b2,r0)::(b1,r0)::L):=H15.as kr;refine zk kr<|wV ?_;exact ⟨[.agg #[.bool false,.string ⟨#[]⟩,.slice none 0 0],.int .i64 4],(.agg (b:=b1) (#[.bool false,.string ⟨#[]⟩,.slice none 0 0]) 46 (0,0) kr (H16.get 1 kr) kr (.tmp (.int .i64 4) kr .nil)),[],.inr ⟨h4,.inr (.inr ⟨hb,rfl,rfl⟩)⟩,H16.sub (List.Sublist.cons _ (List.sublist_cons_self ..))⟩
 ·refine rS [.v,.v,.E (.bool (decide ((4000:Int)<(ByteArray.size t:Int)))) (.bool true) (za (decide_eq_true (by omega)))] H1 kr fun gs1 w2 H2=>zj kr kr<|rS [.v,.s 0,.v] H2 kr fun gs2 w3 H3=>?_;have H4:St B w0 w3 ((b1,r0)::L):=H3.as kr;refine zk kr<|wV ?_;exact ⟨[.agg #[.bool false,.string ⟨#[]⟩,.slice none 0 0],.int .i64 2],(.agg (b:=b1) (#[.bool false,.string ⟨#[]⟩,.slice none 0 0]) 46 (0,0) kr (H4.get 0 kr) kr (.tmp (.int .i64 2) kr .nil)),[],.inl ⟨by omega,rfl,rfl⟩,H4.sub (List.sublist_cons_self ..)⟩
theorem jT {l:List Value}(h:l.all (·.oneCell')=true): ∀u∈l,u.oneCell'=true:=fun u hu=>List.all_eq_true.1 h u hu
abbrev Kf:=Fr Nat
def kS:Sh Nat where
 K:=2
 hd g:=[.int .u8 (g:Int)]
 ok _:=True
 mx:=1000
 len _:=rfl
 one _:=jT rfl
abbrev Fe:=Fr (Nat×ByteArray)
def fS:Sh (Nat×ByteArray) where
 K:=3
 hd x:=[.int .u64 ((x.1:Nat):Int),.string x.2]
 ok x:=x.1<0x10000000000000000∧x.2.size≤0x800000000000
 mx:=0x800000000000
 len _:=rfl
 one _:=jT rfl
def Fr.all {α:Type}(p:α→Prop):Fr α→Prop
 | .nil=>True
 | .cons a k r=>p a∧k.all p∧r.all p
theorem qk.ok {α:Type}{S:Sh α}{B:Nat}{w:World} : ∀ {k:Fr α} {b off:Nat},qk S B w k b off→k.all S.ok
 | .nil,_,_,_=>trivial
 | .cons a k r,b,off,⟨⟨C,T,fz,p,n,c,h1,h2,h3,h4,h5,h6,h7,h8⟩,h9⟩=>⟨h5,by
  rcases h8 with rfl|⟨b',o',e,h⟩
  ·trivial
  ·exact h.ok,h9.ok⟩
theorem SlR.ok {α:Type}{S:Sh α}{B:Nat}{w:World}{p:Option Addr}{n:Nat}{k:Fr α}(h:SlR S B w p n k):k.all S.ok:=by
 rcases h.2.2 with rfl|⟨b,o,e,h⟩
 ·trivial
 ·exact h.ok
def zq (g:Nat)(b:Kf)(i:Nat):Nat×Kf:=match b.at (if g=42 then 0 else i) with
 | some x=>x
 | none=>(0,.nil)
def zW (g:Nat):Nat×Nat:=if g=104 then (32,32) else if g=97 then (20,20) else if g=115 then (65,65) else if g=98 then (0,64) else (0,0)
def yc (g n:Nat):Nat×Nat:=if g=40 then (n,n) else if g=42 then (0,40) else (0,0)
def yE (x:Nat×Nat)(n:Nat):Bool:=decide (x.1≤n)&&decide (n≤x.2)
def zB (g bl n sz ln:Nat):Bool:=(decide (n=0)||decide (g=110))&&(yE (zW g) sz&&yE (yc g bl) ln)
def w64 (x:Int):Int:=IntKind.i64.wrap x
def yM:Fe→Nat→Kf→Nat→Int→Int
 | .nil,_,_,_,room=>room
 | .cons x l r,g,b,i,room=>
  if (if zB (zq g b i).1 (zq g b i).2.len x.1 x.2.size l.len=true then yM l (zq g b i).1 (zq g b i).2 0 (w64 (room-1)) else-1)<0
  then (if zB (zq g b i).1 (zq g b i).2.len x.1 x.2.size l.len=true then yM l (zq g b i).1 (zq g b i).2 0 (w64 (room-1)) else-1)
  else yM r g b (i+1) (if zB (zq g b i).1 (zq g b i).2.len x.1 x.2.size l.len=true then yM l (zq g b i).1 (zq g b i).2 0 (w64 (room-1)) else-1)
def zS (g:Nat)(b:Kf)(x:Nat×ByteArray)(l:Fe)(room:Int):Int:=
 if zB g b.len x.1 x.2.size l.len=true then yM l g b 0 (w64 (room-1)) else-1
theorem vC (x:Nat×ByteArray)(l r:Fe)(g:Nat)(b:Kf)(i:Nat)(room:Int):yM (.cons x l r) g b i room=
 if zS (zq g b i).1 (zq g b i).2 x l room<0 then zS (zq g b i).1 (zq g b i).2 x l room else yM r g b (i+1) (zS (zq g b i).1 (zq g b i).2 x l room):=rfl
def zY (g:Nat):Bool:=decide (g=40)||decide (g=42)
def yx (g:Nat)(x:Nat×ByteArray):ByteArray:=if g=110 then zh (dg x.1) else if zY g=true then ⟨#[]⟩ else x.2
def qn:Fe→Nat→Kf→Nat→Fo
 | .nil,_,_,_=>.nil
 | .cons x l r,g,b,i=>.cons (zY (zq g b i).1) (yx (zq g b i).1 x) (if zY (zq g b i).1=true then qn l (zq g b i).1 (zq g b i).2 0 else .nil) (qn r g b (i+1))
def zT (g:Nat)(b:Kf)(l:Fe):Fo:=if zY g=true then qn l g b 0 else .nil
theorem uU (x:Nat×ByteArray)(l r:Fe)(g:Nat)(b:Kf)(i:Nat):qn (.cons x l r) g b i=.cons (zY (zq g b i).1) (yx (zq g b i).1 x) (zT (zq g b i).1 (zq g b i).2 l) (qn r g b (i+1)):=rfl
def yS (g:Nat)(l:Bool)(s:ByteArray)(n:Nat):Nat:=if g=110 then (ja l s n).1 else 0
def yF (g:Nat)(s:ByteArray):ByteArray:=if g=110∨zY g=true then ⟨#[]⟩ else s
def jo:Fo→Nat→Kf→Nat→Fe
 | .nil,_,_,_=>.nil
 | .cons l s k r,g,b,i=>.cons (yS (zq g b i).1 l s k.len,yF (zq g b i).1 s) (if zY (zq g b i).1=true then jo k (zq g b i).1 (zq g b i).2 0 else .nil) (jo r g b (i+1))
def yG (g:Nat)(b:Kf)(k:Fo):Fe:=if zY g=true then jo k g b 0 else .nil
theorem zeb (l:Bool)(s:ByteArray)(k r:Fo)(g:Nat)(b:Kf)(i:Nat):jo (.cons l s k r) g b i=.cons (yS (zq g b i).1 l s k.len,yF (zq g b i).1 s) (yG (zq g b i).1 (zq g b i).2 k) (jo r g b (i+1)):=rfl
theorem Fr.len_zero {α:Type}{k:Fr α}(h:k.len=0):k=.nil:=by
 cases k with
 | nil=>rfl
 | cons a k r=>simp only [Fr.len] at h;omega
theorem jz {s:ByteArray}(h:s.size=0):s=⟨#[]⟩:=by
 obtain ⟨d⟩:=s;have:d=#[]:=Array.eq_empty_of_size_eq_zero h;rw [this]
theorem zbB {g bl n sz ln:Nat}(h:zB g bl n sz ln=true):(n=0∨g=110)∧((zW g).1≤sz∧sz≤(zW g).2)∧(yc g bl).1≤ln∧ln≤(yc g bl).2:=by
 unfold zB yE at h;simp only [Bool.and_eq_true,Bool.or_eq_true,decide_eq_true_eq] at h;exact h
theorem zec (g:Nat)(b:Kf)(x:Nat×ByteArray)(l:Fe)(hx:x.1<0x10000000000000000)(hf:zB g b.len x.1 x.2.size l.len=true)
 (hr:zY g=true→jo (qn l g b 0) g b 0=l):yS g (zY g) (yx g x) (zT g b l).len=x.1∧yF g (yx g x)=x.2∧yG g b (zT g b l)=l:=by
 obtain ⟨h1,h2,h3⟩:=zbB hf;obtain ⟨n,s⟩:=x;unfold yS yF yx yG zT zY at*;by_cases e1:g=110
 ·subst e1;have hs:s.size=0:=by have:=h2.2;simp only [zW] at this;simp at this;rw [this];rfl
  have hl:l.len=0:=by have:=h3.2;simp only [yc] at this;simp at this;exact this
  obtain rfl:=Fr.len_zero hl;obtain rfl:=jz hs;refine ⟨?_,rfl,rfl⟩;show (ja false (zh (dg n)) 0).1=n;rw [zin hx]
 ·have hn:n=0:=by rcases h1 with h | h;exact h;exact absurd h e1
  subst hn;by_cases e2:(decide (g=40)||decide (g=42))=true
  ·have hs:s.size=0:=by
    have:=h2.2;simp only [Bool.or_eq_true,decide_eq_true_eq] at e2;rcases e2 with rfl | rfl<;>(simp only [zW] at this;simp at this;rw [this];rfl)
   obtain rfl:=jz hs;simp only [e1,e2,if_false,if_true,or_true];exact ⟨trivial,trivial,hr e2⟩
  ·have hl:l.len=0:=by
    have:=h3.2;simp only [Bool.or_eq_true,decide_eq_true_eq,not_or] at e2;simp only [yc,e2.1,e2.2,if_false] at this;omega
   obtain rfl:=Fr.len_zero hl;have e3:=Bool.not_eq_true _▸e2;refine ⟨?_,?_,?_⟩<;>simp [e1,e3]
theorem zbC: ∀(l:Fe) (g:Nat) (b:Kf) (i:Nat) (room:Int),l.all fS.ok→0≤yM l g b i room→jo (qn l g b i) g b i=l
 | .nil,_,_,_,_,_,_=>rfl
 | .cons x l r,g,b,i,room,ho,h=>by
  rw [vC] at h;by_cases hv:zS (zq g b i).1 (zq g b i).2 x l room<0
  ·rw [if_pos hv] at h;omega
  ·rw [if_neg hv] at h;have hv':=hv;unfold zS at hv;by_cases hf:zB (zq g b i).1 (zq g b i).2.len x.1 x.2.size l.len=true
   ·rw [if_pos hf] at hv;obtain ⟨q1,q2,q3⟩:=zec _ _ x l ho.1.1 hf fun _=>zbC l _ _ 0 _ ho.2.1 (Int.not_lt.1 hv);rw [uU,zeb,q1,q2,q3,zbC r g b (i+1) _ ho.2.2 h]
   ·rw [if_neg hf] at hv;omega
def yr (g:Nat)(b:Kf)(x:Nat×ByteArray)(l:Fe):ByteArray×Nat:=
 if zS g b x l 1001<0 then (⟨#[]⟩,1) else zG (zY g) (yx g x) (zT g b l).len (zT g b l)
theorem uV {g:Nat}{b:Kf}{x:Nat×ByteArray}{l:Fe}(hx:x.1<0x10000000000000000)(ho:l.all fS.ok)(h: ¬zS g b x l 1001<0):
 yS g (zY g) (yx g x) (zT g b l).len=x.1∧yF g (yx g x)=x.2∧yG g b (zT g b l)=l:=by
 unfold zS at h;by_cases hf:zB g b.len x.1 x.2.size l.len=true
 ·rw [if_pos hf] at h;exact zec g b x l hx hf fun _=>zbC l g b 0 _ ho (Int.not_lt.1 h)
 ·rw [if_neg hf] at h;omega
def Fr.snoc {α:Type} :Fr α→α→Fr α→Fr α
 | .nil,a,k=>.cons a k .nil
 | .cons a' k' r,a,k=>.cons a' k' (r.snoc a k)
theorem zed {α:Type}(x:El α): ∀L:List (El α),yl (L++ [x])=(yl L).snoc x.a x.k
 | []=>rfl
 | y::r=>by simp only [List.cons_append,yl,Fr.snoc,zed x r]
def jU:Nat→Kf→List (Nat×Kf)→List (Nat×Kf)
 | _,_,[]=>[]
 | g,k,(h,m)::r=>if h=42 then jU h (m.snoc g k) r else (h,m.snoc g k)::r
def qR (c:Nat)(st:List (Nat×Kf)):Option (List (Nat×Kf)):=
 if c=110∨c=104∨c=97∨c=115∨c=98 then some (jU c .nil st)
 else if c=40∨c=42 then if st.length=5 then none else some ((c,.nil)::st)
 else if c=41 then match st with
  | []=>none
  | (h,m)::r=>if r.length=0∨h≠40 then none else some (jU h m r)
 else none
def xz:List UInt8→List (Nat×Kf)→Option (List (Nat×Kf))
 | [],st=>some st
 | c::r,st=>match qR c.toNat st with
  | none=>none
  | some st'=>xz r st'
def parseM (form:ByteArray):Option Kf:=
 if 40<form.size then none else match xz (tl form) [(40,.nil)] with
  | some [(_,m)]=>some m
  | _=>none
def jp (c:Nat):Bool:=c==110||(c==104||(c==97||(c==115||c==98)))
theorem zee {c:Nat} :jp c=true↔c=110∨c=104∨c=97∨c=115∨c=98:=by unfold jp;simp
def kdOk (s:ByteArray):Bool:=(s.size==1&&jp (by_ s 0))||(s.size==2&&(by_ s 0==42&&jp (by_ s 1)))
theorem zjc {s:ByteArray} :kdOk s=true↔(s.size=1∧jp (by_ s 0)=true)∨(s.size=2∧by_ s 0=42∧jp (by_ s 1)=true):=by
 unfold kdOk;simp
def kdB (s:ByteArray):Kf:=if by_ s 0=42 then .cons (by_ s 1) .nil .nil else .nil
def kfL:List ByteArray→Kf
 | []=>.nil
 | s::r=>.cons (by_ s 0) (kdB s) (kfL r)
theorem zef: ∀ks:List ByteArray,(kfL ks).len=ks.length
 | []=>rfl
 | s::r=>by simp only [kfL,Fr.len,zef r,List.length_cons]
theorem zeg: ∀(ks:List ByteArray) (i:Nat),(kfL ks).at i=(ks[i]?).map fun s=>(by_ s 0,kdB s)
 | [],i=>by cases i<;>rfl
 | s::r,0=>rfl
 | s::r,i+1=>by simp only [kfL,Fr.at,zeg r i,List.getElem?_cons_succ]
theorem zeh (ks:List ByteArray)(i:Nat):zq 40 (kfL ks) i=match ks[i]? with
 | some s=>(by_ s 0,kdB s)
 | none=>(0,.nil):=by
 unfold zq;rw [if_neg (by decide),zeg];cases ks[i]?<;>rfl
theorem zbD (c i:Nat):zq 42 (.cons c .nil .nil) i=(c,.nil):=by
 unfold zq;rw [if_pos rfl];rfl
def Fr.cnt {α:Type} :Fr α→Nat
 | .nil=>0
 | .cons _ k r=>1+k.cnt+r.cnt
def jq (c:Nat):Fe→Bool
 | .nil=>true
 | .cons x l r=>zB c 0 x.1 x.2.size l.len&&jq c r
def jb (s:ByteArray)(x:Nat×ByteArray)(l:Fe):Bool:=zB (by_ s 0) (kdB s).len x.1 x.2.size l.len&&(!(by_ s 0==42)||jq (by_ s 1) l)
def yy:List ByteArray→Fe→Bool
 | [],.nil=>true
 | s::ks,.cons x l r=>jb s x l&&yy ks r
 | [],.cons _ _ _=>false
 | _::_,.nil=>false
theorem zbE: ∀ {ks:List ByteArray} {l:Fe},yy ks l=true→l.len=ks.length
 | [],.nil,_=>rfl
 | s::ks,.cons x l r,h=>by
  simp only [yy,Bool.and_eq_true] at h;simp only [Fr.len,List.length_cons,zbE h.2]
 | [],.cons _ _ _,h=>nomatch h
 | _::_,.nil,h=>nomatch h
theorem zei {c:Nat}(hc:jp c=true){n sz ln:Nat}(h:zB c 0 n sz ln=true):ln=0:=by
 have h3:=(zbB h).2.2.2;have:(yc c 0).2=0:=by
  rw [zee] at hc;unfold yc;rw [if_neg (by omega),if_neg (by omega)]
 omega
theorem zej {r:Nat}(h:r≤2000):w64 ((r:Int)-1)=(r:Int)-1:=by
 unfold w64;exact wrap_i64 (by omega) (by omega)
def LeR (v:Int)(P:Prop)(n room:Nat):Prop:=(P∧n≤room→v=((room-n:Nat):Int))∧(¬(P∧n≤room)→v<0)
theorem LeR.pos {v:Int}{P:Prop}{n room:Nat}(h:LeR v P n room): ¬v<0↔P∧n≤room:=by
 constructor
 ·intro h1;by_cases h2:P∧n≤room
  ·exact h2
  ·exact absurd (h.2 h2) h1
 ·intro h1 h2;rw [h.1 h1] at h2;omega
theorem LeR.two {x:Nat×ByteArray}{l r:Fe}{g:Nat}{b:Kf}{i:Nat}{room:Nat}{P Q:Prop}(h1:LeR (zS (zq g b i).1 (zq g b i).2 x l room) P (1+l.cnt) room)
 (h2:P→ ∀q:Nat,q≤room→LeR (yM r g b (i+1) q) Q r.cnt q):LeR (yM (.cons x l r) g b i room) (P∧Q) (Fr.cnt (.cons x l r)) room:=by
 rw [vC];have ec:Fr.cnt (Fr.cons x l r)=1+l.cnt+r.cnt:=rfl;rw [ec];by_cases hv:zS (zq g b i).1 (zq g b i).2 x l room<0
 ·rw [if_pos hv];refine ⟨fun h=>?_,fun _=>hv⟩;exact absurd hv (h1.pos.2 ⟨h.1.1,by omega⟩)
 ·rw [if_neg hv];obtain ⟨hP,hn⟩:=h1.pos.1 hv;rw [h1.1 ⟨hP,hn⟩];have h3:=h2 hP (room-(1+l.cnt)) (by omega);refine ⟨fun h=>?_,fun h=>?_⟩
  ·rw [h3.1 ⟨h.1.2,by omega⟩];congr 1;omega
  ·exact h3.2 fun h9=>h ⟨⟨hP,h9.1⟩,by omega⟩
theorem zek {c:Nat}(hc:jp c=true)(x:Nat×ByteArray)(l:Fe)(room:Nat)(hr:room≤2000):LeR (zS c .nil x l room) (zB c 0 x.1 x.2.size l.len=true) (1+l.cnt) room:=by
 unfold zS;by_cases hf:zB c 0 x.1 x.2.size l.len=true
 ·rw [if_pos (show zB c (Fr.len .nil) x.1 x.2.size l.len=true from hf),zej hr];obtain rfl:=Fr.len_zero (zei hc hf);show LeR ((room:Int)-1) _ (1+0) room;exact ⟨fun h=>by omega,fun h=>by have: ¬1+0≤room:=fun h9=>h ⟨hf,h9⟩;omega⟩
 ·rw [if_neg (show ¬zB c (Fr.len .nil) x.1 x.2.size l.len=true from hf)];exact ⟨fun h=>absurd h.1 hf,fun _=>by decide⟩
theorem zel {c:Nat}(hc:jp c=true): ∀(l:Fe) (i room:Nat),room≤2000→LeR (yM l 42 (.cons c .nil .nil) i room) (jq c l=true) l.cnt room
 | .nil,i,room,_=>⟨fun _=>rfl,fun h=>absurd ⟨rfl,Nat.zero_le _⟩ h⟩
 | .cons x l r,i,room,hr=>by
  have h1:=zek hc x l room hr;have h2:LeR (zS (zq 42 (.cons c .nil .nil) i).1 (zq 42 (.cons c .nil .nil) i).2 x l room) (zB c 0 x.1 x.2.size l.len=true) (1+l.cnt) room:=by rw [zbD];exact h1
  have h3:=LeR.two (r:=r) (Q:=jq c r=true) h2 fun _ q hq=>zel hc r (i+1) q (by omega);have e:(jq c (.cons x l r)=true)=(zB c 0 x.1 x.2.size l.len=true∧jq c r=true):=by simp only [jq,Bool.and_eq_true]
  rw [e];exact h3
theorem zjd {s:ByteArray}(hs:kdOk s=true)(x:Nat×ByteArray)(l:Fe)(room:Nat)(hr:room≤2000):LeR (zS (by_ s 0) (kdB s) x l room) (jb s x l=true) (1+l.cnt) room:=by
 rcases zjc.1 hs with ⟨h1,h2⟩|⟨h1,h2,h3⟩
 ·have hn: ¬by_ s 0=42:=by rw [zee] at h2;omega
  have eb:kdB s=.nil:=by unfold kdB;rw [if_neg hn]
  have e:(jb s x l=true)=(zB (by_ s 0) 0 x.1 x.2.size l.len=true):=by
   unfold jb;rw [eb,beq_eq_false_iff_ne.2 hn];simp [Fr.len]
  rw [e,eb];exact zek h2 x l room hr
 ·have eb:kdB s=.cons (by_ s 1) .nil .nil:=by unfold kdB;rw [if_pos h2]
  have e:(jb s x l=true)=(zB 42 1 x.1 x.2.size l.len=true∧jq (by_ s 1) l=true):=by
   unfold jb;rw [eb,h2];simp [Fr.len]
  rw [e,eb,h2];unfold zS;by_cases hf:zB 42 1 x.1 x.2.size l.len=true
  ·rw [if_pos (show zB 42 (Fr.len (.cons (by_ s 1) .nil .nil)) x.1 x.2.size l.len=true from hf),zej hr];by_cases h0:room=0
   ·subst h0;refine ⟨fun h=>by omega,fun _=>?_⟩;cases l with
    | nil=>exact (by decide:w64 (-1)<0)
    | cons y k r=>
     have hk:zS (by_ s 1) .nil y k (-1)<0:=by
      unfold zS;by_cases hf2:zB (by_ s 1) 0 y.1 y.2.size k.len=true
      ·rw [if_pos (show zB (by_ s 1) (Fr.len .nil) y.1 y.2.size k.len=true from hf2)];obtain rfl:=Fr.len_zero (zei h3 hf2);exact (by decide:w64 (-1-1)<0)
      ·rw [if_neg (show ¬zB (by_ s 1) (Fr.len .nil) y.1 y.2.size k.len=true from hf2)];decide
     show yM _ _ _ _ (-1)<0;rw [vC,zbD,if_pos hk];exact hk
   ·have h4:=zel h3 l 0 (room-1) (by omega);rw [show (room:Int)-1=((room-1:Nat):Int) by omega];refine ⟨fun h=>?_,fun h=>h4.2 fun h9=>h ⟨⟨hf,h9.1⟩,by omega⟩⟩;rw [h4.1 ⟨h.1.2,by omega⟩];congr 1;omega
  ·rw [if_neg (show ¬zB 42 (Fr.len (.cons (by_ s 1) .nil .nil)) x.1 x.2.size l.len=true from hf)];exact ⟨fun h=>absurd h.1.1 hf,fun _=>by decide⟩
theorem zem {ks0:List ByteArray}(h0: ∀s∈ks0,kdOk s=true): ∀(ks:List ByteArray) (l:Fe) (i room:Nat),ks0.drop i=ks→l.len=ks.length→room≤2000→LeR (yM l 40 (kfL ks0) i room) (yy ks l=true) l.cnt room
 | [],.nil,i,room,_,_,_=>⟨fun _=>rfl,fun h=>absurd ⟨rfl,Nat.zero_le _⟩ h⟩
 | [],.cons _ _ _,_,_,_,h,_=>by simp [Fr.len] at h
 | _::_,.nil,_,_,_,h,_=>by simp [Fr.len] at h
 | s::ks,.cons x l r,i,room,hd,hl,hr=>by
  have hi:ks0[i]? =some s:=by
   have:=congrArg (fun L=>L[0]?) hd
   simpa using this
  have h1:LeR (zS (zq 40 (kfL ks0) i).1 (zq 40 (kfL ks0) i).2 x l room) (jb s x l=true) (1+l.cnt) room:=by
   rw [zeh,hi];exact zjd (h0 s (List.mem_of_getElem? hi)) x l room hr
  have h3:=LeR.two (r:=r) (Q:=yy ks r=true) h1 fun _ q hq=>zem h0 ks r (i+1) q (by rw [←List.drop_drop,hd];rfl) (by simp only [Fr.len,List.length_cons] at hl;omega) (by omega);have e:(yy (s::ks) (.cons x l r)=true)=(jb s x l=true∧yy ks r=true):=by simp only [yy,Bool.and_eq_true]
  rw [e];exact h3
theorem uW {ks:List ByteArray}(h0: ∀s∈ks,kdOk s=true)(l:Fe): ¬zS 40 (kfL ks) (0,⟨#[]⟩) l 1001<0↔yy ks l=true∧l.cnt≤1000:=by
 unfold zS;have ef:zB 40 (kfL ks).len 0 (ByteArray.size ⟨#[]⟩) l.len=decide (l.len=ks.length):=by
  rw [zef];unfold zB yE zW yc;simp only [decide_eq_decide];rw [Bool.eq_iff_iff];simp only [Bool.and_eq_true,Bool.or_eq_true,decide_eq_true_eq];simp;constructor
  ·rintro ⟨_,h⟩;omega
  ·intro h;exact ⟨rfl,by omega⟩
 by_cases hl:l.len=ks.length
 ·rw [if_pos (show zB 40 (kfL ks).len (0,(⟨#[]⟩:ByteArray)).1 (ByteArray.size (0,(⟨#[]⟩:ByteArray)).2) l.len=true by exact ef.trans (decide_eq_true hl))];rw [show w64 (1001-1)=((1000:Nat):Int) by decide];exact (zem h0 ks l 0 1000 rfl hl (by decide)).pos
 ·rw [if_neg (show ¬zB 40 (kfL ks).len (0,(⟨#[]⟩:ByteArray)).1 (ByteArray.size (0,(⟨#[]⟩:ByteArray)).2) l.len=true by
   intro h;exact hl (of_decide_eq_true (ef.symm.trans h)))]
  exact ⟨fun h=>absurd (by decide) h,fun h=>absurd (zbE h.1) hl⟩
def nxK (form:ByteArray)(i:Nat):Nat:=if by_ form i=42 then i+2 else i+1
def ksM (form:ByteArray):Nat→Nat→List ByteArray
 | 0,_=>[]
 | f+1,i=>if i<form.size then form.extract i (nxK form i)::ksM form f (nxK form i) else []
def okK (form:ByteArray):Nat→Nat→Bool
 | 0,i=>decide (form.size≤i)
 | f+1,i=>decide (form.size≤i)||((jp (by_ form i)||(by_ form i==42&&(decide (i+1<form.size)&&jp (by_ form (i+1)))))&&okK form f (nxK form i))
structure zbF (form:ByteArray)(ks:List ByteArray):Prop where
 size:form.size≤40
 ok:okK form 41 0=true
 cut:ksM form 41 0=ks
 parse:parseM form=some (kfL ks)
 kd: ∀s∈ks,kdOk s=true
end Go.Proofs.YthonokeibcodpaaGreatDoor
namespace Go.Proofs.YthonokeibcodpaaGreatDoor
open Go Go.RowKit
open D2 (Gh)
set_option linter.unusedVariables false
def iS:Fl X3 where
 K:=3
 cs:=X3.cs
 pos:=by decide
 len _:=rfl
 one a:=fun u hu=>List.all_eq_true.1 (show (X3.cs a).all (·.oneCell')=true from rfl) u hu
theorem zen: ∀L:List X3,cellsF iS L=cells3 L
 | []=>rfl
 | x::r=>by
  show X3.cs x++cellsF iS r=_;rw [zen r];rfl
abbrev emB:ByteArray:=⟨#[]⟩
abbrev b3 (s:ByteArray):X3:=⟨false,s,none,0,0,.nil⟩
theorem zje (T:List (Nat×Obj))(s:ByteArray):SlIn T (b3 s).p (b3 s).n (b3 s).k:=⟨rfl,Nat.zero_le _,.inl rfl⟩
theorem zjf {w w':World}{b:Nat}{C:Array Value}{T:TypeId}{fz:Nat×Nat}(hh:w.heap[b]? =some (.cells C T fz))(hb:Below w.heap.size w w'):w'.heap[b]? =some (.cells C T fz):=by rw [hb.block b (zv hh)];exact hh
end Go.Proofs.YthonokeibcodpaaGreatDoor
namespace Go.Proofs.YthonokeibcodpaaGreatDoor
open Go Go.RowKit
set_option linter.unusedVariables false
abbrev knd (g:Nat)(p:Option Addr)(n c:Nat):Value:=.agg #[.int .u8 (g:Int),.slice p n c]
abbrev fld (m:Nat)(s:ByteArray)(p:Option Addr)(n c:Nat):Value:=.agg #[.int .u64 (m:Int),.string s,.slice p n c]
theorem ys {P:Program}{ρ:Env}{t e:TypeId}{K bytes:Nat}(ht:ye P t=some (e,K,bytes)){x y:Operand}{o:Oper}{kd:IntKind}{p:Option Addr}(b q n c k:Nat)(hp:p=some ⟨b,q,none⟩)(ho:o.op=.indexAddr t x y)(hx:ev ρ x=.slice p n c)(hy:ev ρ y=.int kd (k:Int))(hk:k<n):
 ∀w,(execOp (ev ρ) o).run P w=.ok (.value (.pointer (some ⟨b,q+k*K,none⟩))) w:=by
 subst hp;exact kT ht b q n c k ho hx hy hk
def xA (B:Nat)(w:World)(g:Nat)(p:Option Addr)(n i g':Nat)(p':Option Addr)(n' c':Nat):Prop:=
 (n≤(if g=42 then 0 else i)∧g'=0∧p'=none∧n'=0∧c'=0)∨
 ((if g=42 then 0 else i)<n∧∃b off C T fz,p=some ⟨b,off,none⟩∧b<B∧w.heap[b]? =some (.cells C T fz)∧off+(if g=42 then 0 else i)*2+2≤C.size∧C.extract (off+(if g=42 then 0 else i)*2) (off+(if g=42 then 0 else i)*2+2)=#[.int .u8 (g':Int),.slice p' n' c'])
theorem xA.up {B B':Nat}{w w':World}{g:Nat}{p:Option Addr}{n i g':Nat}{p':Option Addr}{n' c':Nat}(h:xA B w g p n i g' p' n' c')(hb:Below B w w')(hB:B≤B'):xA B' w' g p n i g' p' n' c':=by
 rcases h with h|⟨h0,b,off,C,T,fz,h1,h2,h3,h4⟩
 ·exact .inl h
 ·exact .inr ⟨h0,b,off,C,T,fz,h1,Nat.lt_of_lt_of_le h2 hB,by rw [hb.block b h2];exact h3,h4⟩
theorem SlR.kid {B:Nat}{w:World}{p:Option Addr}{n:Nat}{k:Kf}(h:SlR kS B w p n k)(g i:Nat):∃g' p' n' c',xA B w g p n i g' p' n' c'∧SlR kS B w p' n' (zq g k i).2∧g'=(zq g k i).1:=by
 unfold zq xA;generalize (if g=42 then 0 else i)=j;rcases Nat.lt_or_ge j n with hj | hj
 ·obtain ⟨a,q,ha⟩:=Fr.at_some (k:=k) (i:=j) (by rw [←h.1];exact hj);rcases h.2.2 with rfl|⟨b,off,rfl,hA⟩
  ·simp [Fr.at] at ha
  ·obtain ⟨C,T,fz,p',n',c',h1,h2,h3,h4,h5,h6⟩:=hA.at ha;rw [ha];exact ⟨a,p',n',c',.inr ⟨hj,b,off,C,T,fz,rfl,h1,h2,h3,h4⟩,h6,rfl⟩
 ·rw [Fr.at_none (by rw [←h.1];exact hj)];exact ⟨0,none,0,0,.inl ⟨hj,rfl,rfl,rfl,rfl⟩,SlR.nil _ _ _,rfl⟩
theorem zbG (g:Nat)(p:Option Addr)(n c i g':Nat)(p':Option Addr)(n' c':Nat):FnP Tryz.prog 88 #[knd g p n c,.int .i64 (i:Int)] (fun w=>xA w.heap.size w g p n i g' p' n' c') (knd g' p' n' c'):=by
 refine FnP.intro (c:=zf Tryz.f88) [.cell 4 112] 19 Tryz.func88 kr kr kr fun w hpre=>?_;have H0:=St.start w;refine rS [.b,.a] H0 kr fun gs1 w1 H1=>?_;clear H0;unfold xA at hpre;by_cases hg:g=42
 ·rw [if_pos hg] at hpre;refine zc kr<|rS [.v,.l 0,.E (.bool ((g:Int)==42)) (.bool true) (za (beq_iff_eq.2 (by omega)))] H1 kr fun gs2 w2 H2=>?_;clear H1;refine zj kr kr<|rL [.v] H2 kr fun gs3 w3 H3=>wW ?_;rcases hpre with ⟨hj,rfl,rfl,rfl,rfl⟩ | ⟨hj,b,off,C,T,fz,hp,hb,hh,hz,hx⟩
  ·refine zc kr<|rS [.v,.v,.l 0,.v,.E (.bool (decide ((n:Int)≤((0:Nat):Int)))) (.bool true) (za (decide_eq_true (by omega)))] H3 kr fun gs4 w4 H4=>zj kr kr<|rS [.v,.s 1] H4 kr fun gs5 w5 H5=>?_;exact rR [.cell 4 112] [1] (knd 0 none 0 0) H5 kr
  ·refine zc kr<|rS [.v,.v,.l 0,.v,.E (.bool (decide ((n:Int)≤((0:Nat):Int)))) (.bool false) (za (decide_eq_false (by omega)))] H3 kr fun gs4 w4 H4=>zl kr kr<|zn kr<|wW<|rS [.v,.l 0,.v,.o (ins:=[((.tmp 15),.slice p n c),((.tmp 16),.int .i64 ((0:Nat):Int))]) (v:=.pointer (some ⟨b,off+0*2,none⟩)) (fun ρ o w ho hi=>ys (kd:=.i64) (t:=110) (e:=112) (K:=2) (bytes:=32) kr (x:=(.tmp 15)) (y:=(.tmp 16)) b off n c 0 hp ho hi.1 hi.2.1 (by omega) w),.fp (off:=off+0*2) (n:=2) (W:=#[.int .u8 (g':Int),.slice p' n' c']) hh hb hz hx,.s 1] H4 kr fun gs5 w5 H5=>?_;exact rR [.cell 4 112] [1] (knd g' p' n' c') H5 kr
 ·rw [if_neg hg] at hpre;refine zc kr<|rS [.v,.l 0,.E (.bool ((g:Int)==42)) (.bool false) (za (beq_eq_false_iff_ne.2 (by omega)))] H1 kr fun gs2 w2 H2=>?_;clear H1;refine zl kr kr<|zn kr ?_;have H3:=H2;refine wW ?_;rcases hpre with ⟨hj,rfl,rfl,rfl,rfl⟩ | ⟨hj,b,off,C,T,fz,hp,hb,hh,hz,hx⟩
  ·refine zc kr<|rS [.v,.v,.l 0,.v,.E (.bool (decide ((n:Int)≤(i:Int)))) (.bool true) (za (decide_eq_true (by omega)))] H3 kr fun gs4 w4 H4=>zj kr kr<|rS [.v,.s 1] H4 kr fun gs5 w5 H5=>?_;exact rR [.cell 4 112] [1] (knd 0 none 0 0) H5 kr
  ·refine zc kr<|rS [.v,.v,.l 0,.v,.E (.bool (decide ((n:Int)≤(i:Int)))) (.bool false) (za (decide_eq_false (by omega)))] H3 kr fun gs4 w4 H4=>zl kr kr<|zn kr<|wW<|rS [.v,.l 0,.v,.o (ins:=[((.tmp 15),.slice p n c),((.tmp 16),.int .i64 (i:Int))]) (v:=.pointer (some ⟨b,off+i*2,none⟩)) (fun ρ o w ho hi=>ys (kd:=.i64) (t:=110) (e:=112) (K:=2) (bytes:=32) kr (x:=(.tmp 15)) (y:=(.tmp 16)) b off n c i hp ho hi.1 hi.2.1 (by omega) w),.fp (off:=off+i*2) (n:=2) (W:=#[.int .u8 (g':Int),.slice p' n' c']) hh hb hz hx,.s 1] H4 kr fun gs5 w5 H5=>?_;exact rR [.cell 4 112] [1] (knd g' p' n' c') H5 kr
theorem zeo (a b n:Nat):Fn Tryz.prog 106 #[.agg #[.int .i64 (a:Int),.int .i64 (b:Int)],.int .i64 (n:Int)] (.bool (yE (a,b) n)):=by
 refine Fn.intro (c:=zf Tryz.f106) [.tmp 4] 15 Tryz.func106 kr kr kr fun w=>?_;have H0:=St.start w;refine rS [.b,.v] H0 kr fun gs1 w1 H1=>?_;clear H0;by_cases h1:a≤n
 ·by_cases h2:n≤b
  ·refine rS [.v,.l 0,.v,.E (.bool (decide ((a:Int)≤(n:Int)))) (.bool true) (za (decide_eq_true (by omega))),.v,.v,.v,.l 0,.E (.bool (decide ((n:Int)≤(b:Int)))) (.bool true) (za (decide_eq_true (by omega))),.v,.v] H1 kr fun gs2 w2 H2=>?_;exact rRe [.tmp 4] [] (v:=.bool true) (v':=.bool (yE (a,b) n)) H2 (za (by unfold yE;simp [h1,h2])) kr
  ·refine rS [.v,.l 0,.v,.E (.bool (decide ((a:Int)≤(n:Int)))) (.bool true) (za (decide_eq_true (by omega))),.v,.v,.v,.l 0,.E (.bool (decide ((n:Int)≤(b:Int)))) (.bool false) (za (decide_eq_false (by omega))),.v,.v] H1 kr fun gs2 w2 H2=>?_;exact rRe [.tmp 4] [] (v:=.bool false) (v':=.bool (yE (a,b) n)) H2 (za (by unfold yE;simp [h1,h2])) kr
 ·refine rS [.v,.l 0,.v,.E (.bool (decide ((a:Int)≤(n:Int)))) (.bool false) (za (decide_eq_false (by omega))),.v,.n,.n,.n,.n,.v,.v] H1 kr fun gs2 w2 H2=>?_;exact rRe [.tmp 4] [] (v:=.bool false) (v':=.bool (yE (a,b) n)) H2 (za (by unfold yE;simp [h1])) kr
theorem uX (g:Nat)(p:Option Addr)(n c:Nat):Fn Tryz.prog 105 #[knd g p n c] (.agg #[.int .i64 (((zW g).1:Nat):Int),.int .i64 (((zW g).2:Nat):Int)]):=by
 refine Fn.intro (c:=zf Tryz.f105) [.cell 2 170] 18 Tryz.func105 kr kr kr fun w=>?_;have H0:=St.start w;refine rS [.b,.a] H0 kr fun gs1 w1 H1=>?_;clear H0;refine rS [.v,.l 0] H1 kr fun gs2 w2 H2=>?_;clear H1;refine zz 0 kr ?_;by_cases h104:g=104
 ·refine rS [.E (.bool ((g:Int)==104)) (.bool true) (za (beq_iff_eq.2 (by omega))),.v] H2 kr fun gsa104 wa104 Ha104=>zj kr kr<|rS [.v,.s 1] Ha104 kr fun gsb104 wb104 Hb104=>?_;exact rRe [.cell 2 170] [1] (v:=.agg #[.int .i64 32,.int .i64 32]) (v':=.agg #[.int .i64 (((zW g).1:Nat):Int),.int .i64 (((zW g).2:Nat):Int)]) Hb104 (by unfold zW;simp [h104]) kr
 ·refine rS [.E (.bool ((g:Int)==104)) (.bool false) (za (beq_eq_false_iff_ne.2 (by omega))),.v] H2 kr fun gsc104 wc104 Hc104=>zl kr kr ?_;by_cases h97:g=97
  ·refine rS [.E (.bool ((g:Int)==97)) (.bool true) (za (beq_iff_eq.2 (by omega))),.v] Hc104 kr fun gsa97 wa97 Ha97=>zj kr kr<|rS [.v,.s 1] Ha97 kr fun gsb97 wb97 Hb97=>?_;exact rRe [.cell 2 170] [1] (v:=.agg #[.int .i64 20,.int .i64 20]) (v':=.agg #[.int .i64 (((zW g).1:Nat):Int),.int .i64 (((zW g).2:Nat):Int)]) Hb97 (by unfold zW;simp [h97]) kr
  ·refine rS [.E (.bool ((g:Int)==97)) (.bool false) (za (beq_eq_false_iff_ne.2 (by omega))),.v] Hc104 kr fun gsc97 wc97 Hc97=>zl kr kr ?_;by_cases h115:g=115
   ·refine rS [.E (.bool ((g:Int)==115)) (.bool true) (za (beq_iff_eq.2 (by omega))),.v] Hc97 kr fun gsa115 wa115 Ha115=>zj kr kr<|rS [.v,.s 1] Ha115 kr fun gsb115 wb115 Hb115=>?_;exact rRe [.cell 2 170] [1] (v:=.agg #[.int .i64 65,.int .i64 65]) (v':=.agg #[.int .i64 (((zW g).1:Nat):Int),.int .i64 (((zW g).2:Nat):Int)]) Hb115 (by unfold zW;simp [h115]) kr
   ·refine rS [.E (.bool ((g:Int)==115)) (.bool false) (za (beq_eq_false_iff_ne.2 (by omega))),.v] Hc97 kr fun gsc115 wc115 Hc115=>zl kr kr ?_;by_cases h98:g=98
    ·refine rS [.E (.bool ((g:Int)==98)) (.bool true) (za (beq_iff_eq.2 (by omega))),.v] Hc115 kr fun gsa98 wa98 Ha98=>zj kr kr<|rS [.v,.s 1] Ha98 kr fun gsb98 wb98 Hb98=>?_;exact rRe [.cell 2 170] [1] (v:=.agg #[.int .i64 0,.int .i64 64]) (v':=.agg #[.int .i64 (((zW g).1:Nat):Int),.int .i64 (((zW g).2:Nat):Int)]) Hb98 (by unfold zW;simp [h98]) kr
    ·refine rS [.E (.bool ((g:Int)==98)) (.bool false) (za (beq_eq_false_iff_ne.2 (by omega))),.v] Hc115 kr fun gsc98 wc98 Hc98=>zl kr kr<|rS [.v,.s 1] Hc98 kr fun gsz wz Hz=>?_;exact rRe [.cell 2 170] [1] (v:=.agg #[.int .i64 0,.int .i64 0]) (v':=.agg #[.int .i64 (((zW g).1:Nat):Int),.int .i64 (((zW g).2:Nat):Int)]) Hz (by unfold zW;simp [h104,h97,h115,h98]) kr
theorem zep (g:Nat)(p:Option Addr)(n c:Nat):Fn Tryz.prog 107 #[knd g p n c] (.agg #[.int .i64 (((yc g n).1:Nat):Int),.int .i64 (((yc g n).2:Nat):Int)]):=by
 refine Fn.intro (c:=zf Tryz.f107) [.cell 2 170] 18 Tryz.func107 kr kr kr fun w=>?_;have H0:=St.start w;refine rS [.b,.a] H0 kr fun gs1 w1 H1=>?_;clear H0;refine rS [.v,.l 0] H1 kr fun gs2 w2 H2=>?_;clear H1;refine zz 0 kr ?_;by_cases h40:g=40
 ·refine rS [.E (.bool ((g:Int)==40)) (.bool true) (za (beq_iff_eq.2 (by omega))),.v] H2 kr fun gsa40 wa40 Ha40=>zj kr kr<|rS [.v,.l 0,.v,.v,.l 0,.v,.v,.s 1] Ha40 kr fun gsb40 wb40 Hb40=>?_;exact rRe [.cell 2 170] [1] (v:=.agg #[.int .i64 (n:Int),.int .i64 (n:Int)]) (v':=.agg #[.int .i64 (((yc g n).1:Nat):Int),.int .i64 (((yc g n).2:Nat):Int)]) Hb40 (by unfold yc;simp [h40]) kr
 ·refine rS [.E (.bool ((g:Int)==40)) (.bool false) (za (beq_eq_false_iff_ne.2 (by omega))),.v] H2 kr fun gsc40 wc40 Hc40=>zl kr kr ?_;by_cases h42:g=42
  ·refine rS [.E (.bool ((g:Int)==42)) (.bool true) (za (beq_iff_eq.2 (by omega))),.v] Hc40 kr fun gsa42 wa42 Ha42=>zj kr kr<|rS [.v,.s 1] Ha42 kr fun gsb42 wb42 Hb42=>?_;exact rRe [.cell 2 170] [1] (v:=.agg #[.int .i64 0,.int .i64 40]) (v':=.agg #[.int .i64 (((yc g n).1:Nat):Int),.int .i64 (((yc g n).2:Nat):Int)]) Hb42 (by unfold yc;simp [h42]) kr
  ·refine rS [.E (.bool ((g:Int)==42)) (.bool false) (za (beq_eq_false_iff_ne.2 (by omega))),.v] Hc40 kr fun gsc42 wc42 Hc42=>zl kr kr<|rS [.v,.s 1] Hc42 kr fun gsz wz Hz=>?_;exact rRe [.cell 2 170] [1] (v:=.agg #[.int .i64 0,.int .i64 0]) (v':=.agg #[.int .i64 (((yc g n).1:Nat):Int),.int .i64 (((yc g n).2:Nat):Int)]) Hz (by unfold yc;simp [h40,h42]) kr
theorem zeq (g:Nat)(p:Option Addr)(n c m:Nat)(s:ByteArray)(p2:Option Addr)(n2 c2:Nat):Fn Tryz.prog 93 #[knd g p n c,fld m s p2 n2 c2] (.bool (zB g n m s.size n2)):=by
 refine Fn.intro (c:=zf Tryz.f93) [.tmp 4] 29 Tryz.func93 kr kr kr fun w=>?_;have H0:=St.start w;refine rS [.b,.b,.v] H0 kr fun gs1 w1 H1=>?_;clear H0;have hv:zB g n m s.size n2=((decide (m=0)||decide (g=110))&&(yE (zW g) s.size&&yE (yc g n) n2)):=rfl;obtain ⟨x1,hx1⟩:∃x,yE (zW g) s.size=x:=⟨_,rfl⟩
 obtain ⟨x2,hx2⟩:∃x,yE (yc g n) n2=x:=⟨_,rfl⟩
 have c1:Fn Tryz.prog 106 #[.agg #[.int .i64 (((zW g).1:Nat):Int),.int .i64 (((zW g).2:Nat):Int)],.int .i64 (s.size:Int)] (.bool x1):=hx1▸zeo _ _ _;have c2:Fn Tryz.prog 106 #[.agg #[.int .i64 (((yc g n).1:Nat):Int),.int .i64 (((yc g n).2:Nat):Int)],.int .i64 (n2:Int)] (.bool x2):=hx2▸zeo _ _ _;rw [hx1,hx2] at hv;rw [hv];clear hv hx1 hx2;by_cases hm:m=0
 ·skip;cases x1 with
  | true=>
   refine dS [.v,.l 1,.E (.bool ((m:Int)==0)) (.bool true) (za (beq_iff_eq.2 (by omega))),.v,.n,.n,.n,.v,.v,.l 0,.c (uX g p n c),.v,.l 1,.v,.c c1,.v,.v,.l 0,.c (zep g p n c),.v,.l 1,.v,.c c2,.v,.v] H1 kr fun w2 H2=>?_;exact rRe [.tmp 4] [] (v:=.bool x2) (v':=.bool ((decide (m=0)||decide (g=110))&&(true&&x2))) H2 (za (by simp [hm])) kr
  | false=>
   refine dS [.v,.l 1,.E (.bool ((m:Int)==0)) (.bool true) (za (beq_iff_eq.2 (by omega))),.v,.n,.n,.n,.v,.v,.l 0,.c (uX g p n c),.v,.l 1,.v,.c c1,.v,.v,.n,.n,.n,.n,.n,.n,.v,.v] H1 kr fun w2 H2=>?_;exact rRe [.tmp 4] [] (v:=.bool false) (v':=.bool ((decide (m=0)||decide (g=110))&&(false&&x2))) H2 (za (by simp [hm])) kr
 ·by_cases hg:g=110
  ·skip;cases x1 with
   | true=>
    refine dS [.v,.l 1,.E (.bool ((m:Int)==0)) (.bool false) (za (beq_eq_false_iff_ne.2 (by omega))),.v,.v,.l 0,.E (.bool ((g:Int)==110)) (.bool true) (za (beq_iff_eq.2 (by omega))),.v,.v,.l 0,.c (uX g p n c),.v,.l 1,.v,.c c1,.v,.v,.l 0,.c (zep g p n c),.v,.l 1,.v,.c c2,.v,.v] H1 kr fun w2 H2=>?_;exact rRe [.tmp 4] [] (v:=.bool x2) (v':=.bool ((decide (m=0)||decide (g=110))&&(true&&x2))) H2 (za (by simp [hm,hg])) kr
   | false=>
    refine dS [.v,.l 1,.E (.bool ((m:Int)==0)) (.bool false) (za (beq_eq_false_iff_ne.2 (by omega))),.v,.v,.l 0,.E (.bool ((g:Int)==110)) (.bool true) (za (beq_iff_eq.2 (by omega))),.v,.v,.l 0,.c (uX g p n c),.v,.l 1,.v,.c c1,.v,.v,.n,.n,.n,.n,.n,.n,.v,.v] H1 kr fun w2 H2=>?_;exact rRe [.tmp 4] [] (v:=.bool false) (v':=.bool ((decide (m=0)||decide (g=110))&&(false&&x2))) H2 (za (by simp [hm,hg])) kr
  ·refine dS [.v,.l 1,.E (.bool ((m:Int)==0)) (.bool false) (za (beq_eq_false_iff_ne.2 (by omega))),.v,.v,.l 0,.E (.bool ((g:Int)==110)) (.bool false) (za (beq_eq_false_iff_ne.2 (by omega))),.v,.v,.n,.n,.n,.n,.n,.n,.v,.v,.n,.n,.n,.n,.n,.n,.v,.v] H1 kr fun w2 H2=>?_;exact rRe [.tmp 4] [] (v:=.bool false) (v':=.bool ((decide (m=0)||decide (g=110))&&(x1&&x2))) H2 (za (by simp [hm,hg])) kr
def Fr.sub {α:Type}(p:Fr α→Prop):Fr α→Prop
 | .nil=>True
 | .cons a k r=>p k∧r.sub p
theorem Fr.induct {α:Type}{p:Fr α→Prop}(h: ∀l:Fr α,l.sub p→p l): ∀l:Fr α,p l∧l.sub p
 | .nil=>⟨h .nil trivial,trivial⟩
 | .cons a k r=>⟨h _ ⟨(Fr.induct h k).1,(Fr.induct h r).2⟩,(Fr.induct h k).1,(Fr.induct h r).2⟩
def uY (l:Fe):Prop:= ∀(g:Nat) (p:Option Addr) (n c:Nat) (b:Kf) (m:Nat) (s:ByteArray) (p2:Option Addr) (n2 c2:Nat) (room:Int),
 FnP Tryz.prog 77 #[knd g p n c,fld m s p2 n2 c2,.int .i64 room] (fun w=>SlR kS w.heap.size w p n b∧SlR fS w.heap.size w p2 n2 l) (.int .i64 (zS g b (m,s) l room))
theorem zjg (l:Fe)(hs:l.sub uY):uY l:=by
 intro g p n c b m s p2 n2 c2 room;refine FnP.intro (c:=zf Tryz.f77) [.tmp 6] 34 Tryz.func77 kr kr kr fun w hpre=>?_;have H0:=St.start w;obtain ⟨hK,hF⟩:=hpre;have hn2:=hF.1;have hnm:n2≤0x800000000000:=hF.2.1;unfold zS;rw [←hK.1,←hF.1];refine rS [.b,.b,.v] H0 kr fun gs1 w1 H1=>?_;clear H0;refine zc kr ?_;cases hf:zB g n m s.size n2 with
 | false=>
  rw [if_neg (by decide)];refine rS [.l 0,.l 1,.c (zeq g p n c m s p2 n2 c2),.E (.bool (!(zB g n m s.size n2))) (.bool true) (za (by rw [hf];rfl))] H1 kr fun gs2 w2 H2=>zj kr kr<|rS [.v] H2 kr fun gs3 w3 H3=>?_;exact rR [.tmp 6] [] (.int .i64 (-1)) H3 kr
 | true=>
  rw [if_pos rfl];refine rS [.l 0,.l 1,.c (zeq g p n c m s p2 n2 c2),.E (.bool (!(zB g n m s.size n2))) (.bool false) (za (by rw [hf];rfl))] H1 kr fun gs2 w2 H2=>zl kr kr<|zn kr<|wW<|rS [.v,.E (.int .i64 (IntKind.i64.wrap (room-1))) (.int .i64 (w64 (room-1))) rfl,.v] H2 kr fun gs3 w3 H3=>zc kr<|rS [.v,.l 1,.v,.v] H3 kr fun gs4 w4 H4=>zz 0 kr ?_;have H5:St w.heap.size w w4 [((gs1 0).b,.cells #[.int .u8 (g:Int),.slice p n c] 112 (0,0)),((gs1 1).b,.cells #[.int .u64 (m:Int),.string s,.slice p2 n2 c2] 86 (0,0))]:=H4.as kr;clear H1 H2 H3 H4;refine yW kr (fun mz ρ ww=> ∃(i:Nat) (r:Fe) (v:Int),n2-i=mz∧FrR fS w.heap.size w p2 i r∧i+r.len=n2∧r.sub uY∧yM l g b 0 (w64 (room-1))=yM r g b i v∧St w.heap.size w ww [((gs1 0).b,.cells #[.int .u8 (g:Int),.slice p n c] 112 (0,0)),((gs1 1).b,.cells #[.int .u64 (m:Int),.string s,.slice p2 n2 c2] 86 (0,0))]∧Is [(2,.int .i64 v),(3,.pointer (some ⟨(gs1 0).b,0,none⟩)),(16,.slice p2 n2 c2),(17,.int .i64 (n2:Int)),(18,.int .i64 (i:Int))] ρ) (n2-0) ⟨0,l,_,rfl,hF.start,by omega,hs,rfl,H5,(Is.of ⟨kr,kr,kr,kr,kr,trivial⟩)⟩ ?_;clear H5;rintro _ _ w5 ⟨i,r,v,rfl,hR,hN,hsub,hv,H6,_,rfl⟩;by_cases hi:i<n2
  ·refine rS [.E (.bool (decide ((i:Int)<(n2:Int)))) (.bool true) (za (decide_eq_true (by omega)))] H6 kr fun gs5 w6 H7=>?_;clear H6;refine zc kr<|zj kr kr<|zn kr<|wW<|zc kr<|zz 1 kr ?_;obtain ⟨⟨m1,s1⟩,k1,r1,b1,off1,C1,T1,fz1,p1,n1,c1,hr1,hp1,hb1,hh1,hs1,hx1,hz1,hk1,hR1,hN1⟩:=FrR.open hR hN hi;obtain ⟨g',p',n',c',hK1,hK2,hg'⟩:=hK.kid g i;subst hr1;refine rS [.v,.o (ins:=[((.tmp 16),.slice p2 n2 c2),((.tmp 18),.int .i64 (i:Int))]) (v:=.pointer (some ⟨b1,off1+i*3,none⟩)) (fun ρ o w ho hi2=>ys (kd:=.i64) (t:=82) (e:=86) (K:=3) (bytes:=48) kr (x:=(.tmp 16)) (y:=(.tmp 18)) b1 off1 n2 c2 i hp1 ho hi2.1 hi2.2.1 (by omega) w),.fp (off:=off1+i*3) (n:=3) (W:=#[.int .u64 (m1:Int),.string s1,.slice p1 n1 c1]) hh1 hb1 hs1 hx1,.a,.v,.s 2] H7 kr fun gs6 w7 H8=>?_;clear H7;refine dS [.l 0,.v,.cp (pre:=fun w=>xA w.heap.size w g p n i g' p' n' c') (zbG g p n c i g' p' n' c') [] (fun w hb hd=>hK1.up hb hb.size),.l 2,.v,.cp (pre:=fun w=>SlR kS w.heap.size w p' n' (zq g b i).2∧SlR fS w.heap.size w p1 n1 k1) (hsub.1 g' p' n' c' (zq g b i).2 m1 s1 p1 n1 c1 v) [] (fun w hb hd=>⟨hK2.call hb,hk1.call hb⟩),.v] H8 kr fun w8 H9=>?_;clear H8;rw [vC,←hg'] at hv;by_cases hv0:zS g' (zq g b i).2 (m1,s1) k1 v<0
   ·rw [if_pos hv0] at hv;refine rS [.v,.E (.bool (decide (zS g' (zq g b i).2 (m1,s1) k1 v<0))) (.bool true) (za (decide_eq_true hv0))] H9 kr fun gs7 w9 H10=>zj kr kr<|rS [.v,.v] H10 kr fun gs8 w10 H11=>?_;exact rRe [.tmp 6] [] (v:=.int .i64 (zS g' (zq g b i).2 (m1,s1) k1 v)) (v':=.int .i64 (yM l g b 0 (w64 (room-1)))) H11 (zo hv.symm) kr
   ·rw [if_neg hv0] at hv;refine rS [.v,.E (.bool (decide (zS g' (zq g b i).2 (m1,s1) k1 v<0))) (.bool false) (za (decide_eq_false hv0))] H9 kr fun gs7 w9 H10=>zl kr kr<|zn kr<|wW<|rL [.E (.int .i64 (IntKind.i64.wrap ((i:Int)+1))) (.int .i64 ((i+1:Nat):Int)) (zo (qc (a:=i) (b:=1) (by omega))),.v] H10 kr fun gs8 w10 H11=>?_;have H12:St w.heap.size w w10 [((gs1 0).b,.cells #[.int .u8 (g:Int),.slice p n c] 112 (0,0)),((gs1 1).b,.cells #[.int .u64 ((m:Nat):Int),.string s,.slice p2 n2 c2] 86 (0,0)),((gs6 3).b,.cells #[.int .u64 (m1:Int),.string s1,.slice p1 n1 c1] 86 (0,0))]:=H11.as kr;show ∃m,_∧_;exact ⟨_,(by omega),i+1,r1,_,rfl,hR1,hN1,hsub.2,hv,H12.sub (List.Sublist.cons_cons _ (List.Sublist.cons_cons _ (List.nil_sublist _))),(Is.of ⟨kr,kr,kr,kr,kr,trivial⟩)⟩
  ·obtain rfl:=FrR.done hN hi;refine rS [.E (.bool (decide ((i:Int)<(n2:Int)))) (.bool false) (za (decide_eq_false (by omega)))] H6 kr fun gs5 w6 H7=>zc kr<|zl kr kr<|yv 0 kr<|wW<|rS [.v,.v] H7 kr fun gs6 w7 H8=>?_;exact rRe [.tmp 6] [] (v:=.int .i64 v) (v':=.int .i64 (yM l g b 0 (w64 (room-1)))) H8 (zo hv.symm) kr
theorem zer (l:Fe):uY l:=(Fr.induct zjg l).1
end Go.Proofs.YthonokeibcodpaaGreatDoor
