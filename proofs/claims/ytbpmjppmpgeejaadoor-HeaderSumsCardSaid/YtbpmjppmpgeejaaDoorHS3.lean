/-
  Texts of the proof,part 3.
-/
import Derived.Test.YtbpmjppmpgeejaaDoorProg
import Derived.Recover
import Derived.Laws.BitsLemmas
import Derived.Laws.BitsAllLaws
import Derived.Laws.BytesArg
import Derived.Below
import Derived.Test.YtbpmjppmpgeejaaDoorHS1
import Derived.Test.YtbpmjppmpgeejaaDoorHS2
set_option maxRecDepth 100000
set_option maxHeartbeats 4000000
namespace Go.Proofs.YtbpmjppmpgeejaaDoor
open Go Go.RowKit
set_option linter.unusedVariables false
theorem zeJ (p:Nat)(w0 w:World)(L:List (Nat×Obj))(H0:St w0.heap.size w0 w ([(p,Obj.cells #[.pointer none,.slice none 0 0] 93 (0,0))]++L)):WP Tryd.prog 20 (zi Tryd.f73) (zZ Tryd.prog [] fun v' w'=>v'=.tuple #[]∧∃E',BE p 93 5 ([]) E'∧St w0.heap.size w0 w' (E'++L)) (ini #[.pointer (some ⟨p,0,none⟩)]) w:=by
 refine zg [0,1,2,3,4] kr kr<|zc (some 2) (.pointer (some ⟨p,0,none⟩)) (fun w=>by kernel_rfl) kr<|zc (some 3) (.pointer (some ⟨p,0,none⟩)) (fun w=>by kernel_rfl) kr<|zc (some 4) (.pointer (some ⟨p,0,none⟩)) (fun w=>by kernel_rfl) kr<|yO H0 (some 5) 91 (.tmp 4) 0 p 0 #[.pointer none,.slice none 0 0] 93 (0,0) (.pointer none) kr kr kr kr kr kr<|zc (some 6) (.bool true) (fun w=>by kernel_rfl) kr<|zb<|zj kr kr<|yo [0,1,2,3,4,5,6,7] kr<|zc (some 7) (.pointer (some ⟨p,0,none⟩)) (fun w=>by kernel_rfl) kr<|zc (some 8) (.pointer (some ⟨p,0,none⟩)) (fun w=>by kernel_rfl) kr<|za9 H0 (some 9) 91 124 93 (.tmp 8) 0 p #[.pointer none,.slice none 0 0] 93 kr kr kr kr kr kr kr (by show 0<2;omega)<|zc (some 10) (.pointer (some ⟨p,0,none⟩)) (fun w=>by kernel_rfl) kr<|zba H0 (some 11) 124 91 93 (.tmp 10) 0 p #[.pointer none,.slice none 0 0] 93 kr kr kr kr kr kr kr kr<|zc (some 12) (.pointer (some ⟨p,0,none⟩)) (fun w=>by kernel_rfl) kr<|zc (some 13) (.pointer (some ⟨p,0,none⟩)) (fun w=>by kernel_rfl) kr<|yn H0 0 ([(p,Obj.cells #[.pointer (some ⟨p,0,none⟩),.slice none 0 0] 93 (0,0))]++L) 91 (.tmp 13) (.tmp 11) p (0) #[.pointer none,.slice none 0 0] #[.pointer (some ⟨p,0,none⟩),.slice none 0 0] 93 (.pointer (some ⟨p,0,none⟩)) kr kr kr kr kr kr (of_decide_eq_true kr) kr kr ?_;intro w1 H1;clear H0;refine zb<|wV ?_;exact ⟨[],.nil,rfl,_,(BE.nil (some ⟨p,0,none⟩) (Or.inr rfl)),H1⟩
theorem zeK (p:Nat)(w0 w:World)(L:List (Nat×Obj))(H0:St w0.heap.size w0 w ([(p,Obj.cells #[.pointer (some ⟨p,0,none⟩),.slice none 0 0] 93 (0,0))]++L)):WP Tryd.prog 20 (zi Tryd.f73) (zZ Tryd.prog [] fun v' w'=>v'=.tuple #[]∧∃E',BE p 93 5 ([]) E'∧St w0.heap.size w0 w' (E'++L)) (ini #[.pointer (some ⟨p,0,none⟩)]) w:=by
 refine zg [0,1,2,3,4] kr kr<|zc (some 2) (.pointer (some ⟨p,0,none⟩)) (fun w=>by kernel_rfl) kr<|zc (some 3) (.pointer (some ⟨p,0,none⟩)) (fun w=>by kernel_rfl) kr<|zc (some 4) (.pointer (some ⟨p,0,none⟩)) (fun w=>by kernel_rfl) kr<|yO H0 (some 5) 91 (.tmp 4) 0 p 0 #[.pointer (some ⟨p,0,none⟩),.slice none 0 0] 93 (0,0) (.pointer (some ⟨p,0,none⟩)) kr kr kr kr kr kr<|zc (some 6) (.bool false) (fun w=>by kernel_rfl) kr<|zb<|zm kr kr<|zg [0,1,2,3,4,5] kr kr<|zc (some 14) (.pointer (some ⟨p,0,none⟩)) (fun w=>by kernel_rfl) kr<|zc (some 15) (.pointer (some ⟨p,0,none⟩)) (fun w=>by kernel_rfl) kr<|zc (some 16) (.pointer (some ⟨p,0,none⟩)) (fun w=>by kernel_rfl) kr<|yO H0 (some 17) 91 (.tmp 16) 0 p 0 #[.pointer (some ⟨p,0,none⟩),.slice none 0 0] 93 (0,0) (.pointer (some ⟨p,0,none⟩)) kr kr kr kr kr kr<|zc (some 18) (.pointer (some ⟨p,0,none⟩)) (fun w=>by kernel_rfl) kr<|xW (some 19) _ (.bool false) kr kr (fun o w ho=>zbb (t:=91) (tp:=93) (t':=91) kr kr (x:=(.tmp 17)) (y:=(.tmp 18)) ⟨p,0,none⟩ ho kr kr w)<|zb<|zm kr kr<|zo kr<|wV ?_;exact ⟨[],.nil,rfl,_,(BE.nil (some ⟨p,0,none⟩) (Or.inr rfl)),H0⟩
theorem zeL (p:Nat)(b n cap:Nat)(cur:Array Value)(out:List UInt8)(hn:n=out.length)(hr:Rw 1 cur cap n (cellsB out))(w0 w:World)(L:List (Nat×Obj))(H0:St w0.heap.size w0 w ([(b,Obj.cells cur 5 (0,0)),(p,Obj.cells #[.pointer none,.slice (some ⟨b,0,none⟩) n cap] 93 (0,0))]++L)):WP Tryd.prog 20 (zi Tryd.f73) (zZ Tryd.prog [] fun v' w'=>v'=.tuple #[]∧∃E',BE p 93 5 out E'∧St w0.heap.size w0 w' (E'++L)) (ini #[.pointer (some ⟨p,0,none⟩)]) w:=by
 refine zg [0,1,2,3,4] kr kr<|zc (some 2) (.pointer (some ⟨p,0,none⟩)) (fun w=>by kernel_rfl) kr<|zc (some 3) (.pointer (some ⟨p,0,none⟩)) (fun w=>by kernel_rfl) kr<|zc (some 4) (.pointer (some ⟨p,0,none⟩)) (fun w=>by kernel_rfl) kr<|yO H0 (some 5) 91 (.tmp 4) 1 p 0 #[.pointer none,.slice (some ⟨b,0,none⟩) n cap] 93 (0,0) (.pointer none) kr kr kr kr kr kr<|zc (some 6) (.bool true) (fun w=>by kernel_rfl) kr<|zb<|zj kr kr<|yo [0,1,2,3,4,5,6,7] kr<|zc (some 7) (.pointer (some ⟨p,0,none⟩)) (fun w=>by kernel_rfl) kr<|zc (some 8) (.pointer (some ⟨p,0,none⟩)) (fun w=>by kernel_rfl) kr<|za9 H0 (some 9) 91 124 93 (.tmp 8) 1 p #[.pointer none,.slice (some ⟨b,0,none⟩) n cap] 93 kr kr kr kr kr kr kr (by show 0<2;omega)<|zc (some 10) (.pointer (some ⟨p,0,none⟩)) (fun w=>by kernel_rfl) kr<|zba H0 (some 11) 124 91 93 (.tmp 10) 1 p #[.pointer none,.slice (some ⟨b,0,none⟩) n cap] 93 kr kr kr kr kr kr kr kr<|zc (some 12) (.pointer (some ⟨p,0,none⟩)) (fun w=>by kernel_rfl) kr<|zc (some 13) (.pointer (some ⟨p,0,none⟩)) (fun w=>by kernel_rfl) kr<|yn H0 1 ([(b,Obj.cells cur 5 (0,0)),(p,Obj.cells #[.pointer (some ⟨p,0,none⟩),.slice (some ⟨b,0,none⟩) n cap] 93 (0,0))]++L) 91 (.tmp 13) (.tmp 11) p (0) #[.pointer none,.slice (some ⟨b,0,none⟩) n cap] #[.pointer (some ⟨p,0,none⟩),.slice (some ⟨b,0,none⟩) n cap] 93 (.pointer (some ⟨p,0,none⟩)) kr kr kr kr kr kr (of_decide_eq_true kr) kr kr ?_;intro w1 H1;clear H0;refine zb<|wV ?_;exact ⟨[],.nil,rfl,_,(BE.row (some ⟨p,0,none⟩) b n cap cur out (Or.inr rfl) hn hr),H1⟩
theorem zeM (p:Nat)(b n cap:Nat)(cur:Array Value)(out:List UInt8)(hn:n=out.length)(hr:Rw 1 cur cap n (cellsB out))(w0 w:World)(L:List (Nat×Obj))(H0:St w0.heap.size w0 w ([(b,Obj.cells cur 5 (0,0)),(p,Obj.cells #[.pointer (some ⟨p,0,none⟩),.slice (some ⟨b,0,none⟩) n cap] 93 (0,0))]++L)):WP Tryd.prog 20 (zi Tryd.f73) (zZ Tryd.prog [] fun v' w'=>v'=.tuple #[]∧∃E',BE p 93 5 out E'∧St w0.heap.size w0 w' (E'++L)) (ini #[.pointer (some ⟨p,0,none⟩)]) w:=by
 refine zg [0,1,2,3,4] kr kr<|zc (some 2) (.pointer (some ⟨p,0,none⟩)) (fun w=>by kernel_rfl) kr<|zc (some 3) (.pointer (some ⟨p,0,none⟩)) (fun w=>by kernel_rfl) kr<|zc (some 4) (.pointer (some ⟨p,0,none⟩)) (fun w=>by kernel_rfl) kr<|yO H0 (some 5) 91 (.tmp 4) 1 p 0 #[.pointer (some ⟨p,0,none⟩),.slice (some ⟨b,0,none⟩) n cap] 93 (0,0) (.pointer (some ⟨p,0,none⟩)) kr kr kr kr kr kr<|zc (some 6) (.bool false) (fun w=>by kernel_rfl) kr<|zb<|zm kr kr<|zg [0,1,2,3,4,5] kr kr<|zc (some 14) (.pointer (some ⟨p,0,none⟩)) (fun w=>by kernel_rfl) kr<|zc (some 15) (.pointer (some ⟨p,0,none⟩)) (fun w=>by kernel_rfl) kr<|zc (some 16) (.pointer (some ⟨p,0,none⟩)) (fun w=>by kernel_rfl) kr<|yO H0 (some 17) 91 (.tmp 16) 1 p 0 #[.pointer (some ⟨p,0,none⟩),.slice (some ⟨b,0,none⟩) n cap] 93 (0,0) (.pointer (some ⟨p,0,none⟩)) kr kr kr kr kr kr<|zc (some 18) (.pointer (some ⟨p,0,none⟩)) (fun w=>by kernel_rfl) kr<|xW (some 19) _ (.bool false) kr kr (fun o w ho=>zbb (t:=91) (tp:=93) (t':=91) kr kr (x:=(.tmp 17)) (y:=(.tmp 18)) ⟨p,0,none⟩ ho kr kr w)<|zb<|zm kr kr<|zo kr<|wV ?_;exact ⟨[],.nil,rfl,_,(BE.row (some ⟨p,0,none⟩) b n cap cur out (Or.inr rfl) hn hr),H0⟩
theorem zeN (p:Nat)(out:List UInt8):FnB Tryd.prog 73 #[.pointer (some ⟨p,0,none⟩)] (.tuple #[]) p 93 5 out out (fun _=>True):=
 FnB.intro (c:=zi Tryd.f73) [] 20 Tryd.func73 kr kr kr fun w0 w L E hE _ HS=>by
  rcases hE with ⟨a,rfl|rfl⟩|⟨a,b,n,cap,cur,_,rfl|rfl,hn,hr⟩
  ·exact zeJ p w0 w L HS
  ·exact zeK p w0 w L HS
  ·exact zeL p b n cap cur out hn hr w0 w L HS
  ·exact zeM p b n cap cur out hn hr w0 w L HS
theorem vY (p:Nat)(out:List UInt8)(s:ByteArray)(h0:0<s.size∨out≠[])(hm:out.length+s.size≤0x800000000000):FnB Tryd.prog 66 #[.pointer (some ⟨p,0,none⟩),.string s] (.tuple #[.int .i64 (ByteArray.size s:Int),.nilIface]) p 93 5 out (out++tl s) (fun _=>True):=by
 refine FnB.intro (c:=zi Tryd.f66) [.tmp 4,.tmp 5] 19 Tryd.func66 kr kr kr fun w0 w L E hE _ HS=>?_;have H0:St w0.heap.size w0 w (L++E):=HS.perm List.perm_append_comm;refine zg [0,1] kr kr<|zc (some 4) (.int .i64 0) (fun w=>by kernel_rfl) kr<|zc (some 5) (.nilIface) (fun w=>by kernel_rfl) kr<|zb<|zg [0,1] kr kr<|zc (some 6) (.pointer (some ⟨p,0,none⟩)) (fun w=>by kernel_rfl) kr<|vU (l:=L) H0 hE (some 7) 73 #[.pointer (some ⟨p,0,none⟩)] (.tuple #[]) out (fun _=>True) (zeN p out) trivial kr kr ?_;intro E1 w1 hE1 H1;clear H0;rcases hE1 with ⟨a,ha⟩ | ⟨a,b,n,cap,cur,_,ha,hn,hr⟩
 ·have h0':0<ByteArray.size s:=h0.resolve_right (fun h=>h rfl);simp only [List.length_nil] at hm;have HP:St w0.heap.size w0 w1 ([(p,Obj.cells #[.pointer a,.slice none 0 0] 93 (0,0))]++L):=H1.perm List.perm_append_comm;refine zb<|zg [0,1,2,3,4,5,6,7,8,9] kr kr<|zc (some 8) (.pointer (some ⟨p,0,none⟩)) (fun w=>by kernel_rfl) kr<|zc (some 9) (.pointer (some ⟨p,0,none⟩)) (fun w=>by kernel_rfl) kr<|zc (some 10) (.pointer (some ⟨p,0,none⟩)) (fun w=>by kernel_rfl) kr<|zc (some 11) (.pointer (some ⟨p,1,none⟩)) (fun w=>by kernel_rfl) kr<|yO HP (some 12) 56 (.tmp 11) 0 p 1 #[.pointer a,.slice none 0 0] 93 (0,0) (.slice none 0 0) kr kr kr kr kr kr<|zc (some 13) (.string s) (fun w=>by kernel_rfl) kr<|zeC HP (some 14) 56 9 5 (.tmp 12) (.tmp 13) s kr kr kr kr kr kr (by omega) (by omega) ?_;intro b_1 cap_2 cur_3 w2 H2 hr_4;clear HP;refine zc (some 15) (.pointer (some ⟨p,0,none⟩)) (fun w=>by kernel_rfl) kr<|zc (some 16) (.pointer (some ⟨p,1,none⟩)) (fun w=>by kernel_rfl) kr<|yn H2 1 ([(b_1,Obj.cells cur_3 5 (0,0)),(p,Obj.cells #[.pointer a,.slice (some ⟨b_1,0,none⟩) (ByteArray.size s) cap_2] 93 (0,0))]++L) 56 (.tmp 16) (.tmp 14) p (1) #[.pointer a,.slice none 0 0] #[.pointer a,.slice (some ⟨b_1,0,none⟩) (ByteArray.size s) cap_2] 93 (.slice (some ⟨b_1,0,none⟩) (ByteArray.size s) cap_2) kr kr kr kr kr kr (of_decide_eq_true kr) kr kr ?_;intro w3 H3;clear H2;refine zb<|zg [0,1,2,3] kr kr<|zc (some 17) (.string s) (fun w=>by kernel_rfl) kr<|zc (some 18) (.int .i64 (ByteArray.size s:Int)) (fun w=>by kernel_rfl) kr<|zc (some 4) (.int .i64 (ByteArray.size s:Int)) (fun w=>by kernel_rfl) kr<|zc (some 5) (.nilIface) (fun w=>by kernel_rfl) kr<|zb<|zn kr<|wV ?_;exact ⟨[.int .i64 (ByteArray.size s:Int),.nilIface],(.tmp (.int .i64 (ByteArray.size s:Int)) kr (.tmp (.nilIface) kr .nil)),rfl,_,(BE.row a b_1 (ByteArray.size s) cap_2 cur_3 (tl s) ha rfl hr_4),H3⟩
 ·have HP:St w0.heap.size w0 w1 ([(b,Obj.cells cur 5 (0,0)),(p,Obj.cells #[.pointer a,.slice (some ⟨b,0,none⟩) n cap] 93 (0,0))]++L):=H1.perm List.perm_append_comm;refine zb<|zg [0,1,2,3,4,5,6,7,8,9] kr kr<|zc (some 8) (.pointer (some ⟨p,0,none⟩)) (fun w=>by kernel_rfl) kr<|zc (some 9) (.pointer (some ⟨p,0,none⟩)) (fun w=>by kernel_rfl) kr<|zc (some 10) (.pointer (some ⟨p,0,none⟩)) (fun w=>by kernel_rfl) kr<|zc (some 11) (.pointer (some ⟨p,1,none⟩)) (fun w=>by kernel_rfl) kr<|yO HP (some 12) 56 (.tmp 11) 1 p 1 #[.pointer a,.slice (some ⟨b,0,none⟩) n cap] 93 (0,0) (.slice (some ⟨b,0,none⟩) n cap) kr kr kr kr kr kr<|zc (some 13) (.string s) (fun w=>by kernel_rfl) kr<|zeB HP (some 14) 56 9 5 (.tmp 12) (.tmp 13) 0 b n cap cur out s (fun b_5 cur_7=>([(b_5,Obj.cells cur_7 5 (0,0)),(p,Obj.cells #[.pointer a,.slice (some ⟨b,0,none⟩) n cap] 93 (0,0))]++L)) kr kr kr kr kr kr hr kr (by omega) (fun _ _=>by kernel_rfl) ?_;intro b_5 cap_6 cur_7 w4 H4 hr_8;clear HP;refine zc (some 15) (.pointer (some ⟨p,0,none⟩)) (fun w=>by kernel_rfl) kr<|zc (some 16) (.pointer (some ⟨p,1,none⟩)) (fun w=>by kernel_rfl) kr<|yn H4 1 ([(b_5,Obj.cells cur_7 5 (0,0)),(p,Obj.cells #[.pointer a,.slice (some ⟨b_5,0,none⟩) (n+ByteArray.size s) cap_6] 93 (0,0))]++L) 56 (.tmp 16) (.tmp 14) p (1) #[.pointer a,.slice (some ⟨b,0,none⟩) n cap] #[.pointer a,.slice (some ⟨b_5,0,none⟩) (n+ByteArray.size s) cap_6] 93 (.slice (some ⟨b_5,0,none⟩) (n+ByteArray.size s) cap_6) kr kr kr kr kr kr (of_decide_eq_true kr) kr kr ?_;intro w5 H5;clear H4;refine zb<|zg [0,1,2,3] kr kr<|zc (some 17) (.string s) (fun w=>by kernel_rfl) kr<|zc (some 18) (.int .i64 (ByteArray.size s:Int)) (fun w=>by kernel_rfl) kr<|zc (some 4) (.int .i64 (ByteArray.size s:Int)) (fun w=>by kernel_rfl) kr<|zc (some 5) (.nilIface) (fun w=>by kernel_rfl) kr<|zb<|zn kr<|wV ?_;exact ⟨[.int .i64 (ByteArray.size s:Int),.nilIface],(.tmp (.int .i64 (ByteArray.size s:Int)) kr (.tmp (.nilIface) kr .nil)),rfl,_,(BE.row a b_5 (n+ByteArray.size s) cap_6 cur_7 (out++tl s) ha (by rw [List.length_append,yJ,hn]) hr_8),H5⟩
theorem zeO (pb m:Nat)(ih: ∀(out:List UInt8) (l:Bool) (s:ByteArray) (p:Option Addr) (n c:Nat) (k:Fo),s.size≤0x800000000000→List.length out+9+ByteArray.size s+wtF k≤0x800000000000→k.cnt<m→qW Tryd.prog 51 #[.pointer (some ⟨pb,0,none⟩),.agg #[.bool l,.string s,.slice p n c]] (.tuple #[]) pb 93 5 out (out++wr1 l s (szF k) (wrF k)) (fun w=>zr w.heap.size w p n k))(out:List UInt8)(l:Bool)(s:ByteArray)(p:Option Addr)(n c:Nat)(k:Fo)(hs:s.size≤0x800000000000)(hw:List.length out+9+ByteArray.size s+wtF k≤0x800000000000)(hkm:k.cnt<m+1):qW Tryd.prog 51 #[.pointer (some ⟨pb,0,none⟩),.agg #[.bool l,.string s,.slice p n c]] (.tuple #[]) pb 93 5 out (out++wr1 l s (szF k) (wrF k)) (fun w=>zr w.heap.size w p n k):=by
 refine qW.intro (c:=zi Tryd.f51) [] 31 Tryd.func51 kr kr kr fun w0 w E0 hE0 hpre H0=>?_;have hn:=hpre.1;have hnm:=hpre.2.1;refine zg [0] kr kr<|qu H0 (some 3) 74 (.tmp 1) (.agg #[.bool l,.string s,.slice p n c]) kr kr kr ?_;intro b1 w1 H1;clear H0;refine zb<|zd kr<|zg [0,1,2,3] kr kr<|zc (some 6) (.pointer (some ⟨b1,1,none⟩)) (fun w=>by kernel_rfl) kr<|yO H1 (some 7) 9 (.tmp 6) 0 b1 1 #[.bool l,.string s,.slice p n c] 74 (0,0) (.string s) kr kr kr kr kr kr<|qR H1 (some 8) 63 #[.string s] (.bool (yL s)) (za4 s) (fun w=>by kernel_rfl) kr ?_;intro w2 H2;clear H1;cases hq1:yL s
 ·refine zc (some 9) (.bool true) (fun w=>by kernel_rfl) kr<|zb<|zj kr kr ?_;have hsl:=jj k;have hhl:=jM (frm l) (ByteArray.size s+szF k);refine D2.g_draw0 [0,1,2,3,4,5] [(some 10,fun _=>.pointer (some ⟨pb,0,none⟩)),(some 11,fun _=>.agg #[.bool l,.string s,.slice p n c]),(some 12,fun _=>.agg #[.bool l,.string s,.slice p n c]),(some 13,fun _=>.int .u64 ((ByteArray.size s+szF k:Nat):Int)),(some 14,fun _=>.string (zf (hd (frm l) (ByteArray.size s+szF k)))),(some 15,fun _=>.tuple #[.int .i64 (ByteArray.size (zf (hd (frm l) (ByteArray.size s+szF k))):Int),.nilIface])] (yk w0 pb 93 5 (out++tl (zf (hd (frm l) (ByteArray.size s+szF k)))) (b1,Obj.cells #[.bool l,.string s,.slice p n c] 74 (0,0)) E0 5) kr kr kr H2.drew ⟨?_,?_,?_,?_,?_,?_,trivial⟩ ?_
  ·exact zeD rfl (fun g w=>by kernel_rfl)
  ·exact zbd (C:=#[.bool l,.string s,.slice p n c]) (T':=74) (t:=74) (x:=(.tmp 3)) rfl (fun g=>by kernel_rfl) (fun g=>by kernel_rfl) rfl kr
  ·exact zbd (C:=#[.bool l,.string s,.slice p n c]) (T':=74) (t:=74) (x:=(.tmp 3)) rfl (fun g=>by kernel_rfl) (fun g=>by kernel_rfl) rfl kr
  ·exact zbe (f:=64) (args:=#[.agg #[.bool l,.string s,.slice p n c]]) rfl (zeA l s p n c k hs (by omega)) (fun w hb=>zr.call hpre hb) (fun g w=>by kernel_rfl)
  ·exact zeE (f:=65) (args:=#[.agg #[.bool l,.string s,.slice p n c],.int .u64 ((ByteArray.size s+szF k:Nat):Int)]) rfl (za5 l s p n c (ByteArray.size s+szF k) (by omega)) (fun g w=>by kernel_rfl)
  ·exact zeF (f:=66) (args:=#[.pointer (some ⟨pb,0,none⟩),.string (zf (hd (frm l) (ByteArray.size s+szF k)))]) rfl hE0 (vY pb out (zf (hd (frm l) (ByteArray.size s+szF k))) (Or.inl (by rw [qx];exact hhl.1)) (by rw [qx];omega)) (fun g w=>by kernel_rfl)
  intro L0 G0 w3 hall HL;clear H2;obtain ⟨E1,hE1,H3⟩:=HL.done (hall 5 (Nat.le_of_ble_eq_true kr));refine wW<|zg [0,1,2,3] kr kr ?_;have hl0:(out++tl (zf (hd (frm l) (ByteArray.size s+szF k)))).length=out.length+(hd (frm l) (ByteArray.size s+szF k)).length:=by rw [List.length_append,zaw]
  have hw1:out++wr1 l s (szF k) (wrF k)=(out++tl (zf (hd (frm l) (ByteArray.size s+szF k)))++tl s)++wrF k:=by unfold wr1;rw [if_neg (by rw [hq1];decide),zaw];simp only [List.append_assoc]
  have hl1:(out++tl (zf (hd (frm l) (ByteArray.size s+szF k)))++tl s).length=out.length+(hd (frm l) (ByteArray.size s+szF k)).length+ByteArray.size s:=by rw [List.length_append,hl0,yJ]
  refine zc (some 16) (.pointer (some ⟨pb,0,none⟩)) (fun w=>by kernel_rfl) kr<|zc (some 17) (.pointer (some ⟨b1,1,none⟩)) (fun w=>by kernel_rfl) kr<|yO H3 (some 18) 9 (.tmp 17) 0 b1 1 #[.bool l,.string s,.slice p n c] 74 (0,0) (.string s) kr kr kr kr kr kr<|vU (l:=[(b1,Obj.cells #[.bool l,.string s,.slice p n c] 74 (0,0))]) H3 hE1 (some 19) 66 #[.pointer (some ⟨pb,0,none⟩),.string s] (.tuple #[.int .i64 (ByteArray.size s:Int),.nilIface]) ((out++tl (zf (hd (frm l) (ByteArray.size s+szF k))))++tl s) (fun _=>True) (vY pb (out++tl (zf (hd (frm l) (ByteArray.size s+szF k)))) s (Or.inr (by intro q;have h9:=congrArg List.length q;rw [hl0] at h9;simp only [List.length_nil] at h9;omega)) (by rw [hl0];omega)) trivial kr kr ?_;intro E2 w4 hE2 H4;clear H3;refine zb<|zg [0,1,2,3] kr kr<|zc (some 20) (.pointer (some ⟨b1,2,none⟩)) (fun w=>by kernel_rfl) kr<|yO H4 (some 21) 72 (.tmp 20) 0 b1 2 #[.bool l,.string s,.slice p n c] 74 (0,0) (.slice p n c) kr kr kr kr kr kr<|zc (some 22) (.int .i64 (n:Int)) (fun w=>by kernel_rfl) kr<|zc (some 23) (.int .i64 0) (fun w=>by kernel_rfl) kr<|zb<|zw 0 kr ?_;have HD1:St w0.heap.size w0 w4 ([]++E2):=H4.sub (List.Sublist.cons _ (List.Sublist.refl E2));refine yz kr (fun mz ρ ww=> ∃(i:Nat) (r:Fo) (o:List UInt8) (Ez:List (Nat×Obj)),n-i=mz∧(FoR w0.heap.size w0 p i r)∧(i+Fo.len r=n)∧(Fo.cnt r≤Fo.cnt k)∧(List.length o+wtF r≤0x800000000000)∧(out++wr1 l s (szF k) (wrF k)=o++wrF r)∧(BE pb 93 5 o Ez)∧St w0.heap.size w0 ww ([]++Ez)∧Is [(0,.pointer (some ⟨pb,0,none⟩)),(1,.agg #[.bool l,.string s,.slice p n c]),(3,.pointer (some ⟨b1,0,none⟩)),(9,.bool true),(21,.slice p n c),(22,.int .i64 (n:Int)),(23,.int .i64 (i:Int))] ρ) (n-0) ⟨0,k,((out++tl (zf (hd (frm l) (ByteArray.size s+szF k))))++tl s),E2,rfl,(zr.start hpre),(by have hn0:=(hpre).1;omega),(Nat.le_refl _),(by rw [hl1];omega),hw1,hE2,HD1,(Is.of ⟨kr,kr,kr,kr,kr,kr,kr,trivial⟩)⟩ ?_;clear HD1;rintro _ _ w5 ⟨i,r,o,Ez,rfl,hR,hN,hcn,hwt,hout,hEz,H5,_,rfl⟩;refine zg [0] kr kr ?_;by_cases hc2:(i:Nat)<n
  ·refine yH (some 24) (.bool (decide ((i:Int)<(n:Int)))) (.bool true) (fun w=>by kernel_rfl) (za (decide_eq_true (by omega))) kr<|zb<|zd kr<|zj kr kr<|zo kr<|wW<|zd kr<|zw 1 kr<|zg [0,1,2,3] kr kr ?_;obtain ⟨l1,s1,k1,r1,b1,off1,C1,T1,fz1,p1,n1,c1,hr1,hp1,hb1,hh1,hs1,hx1,hz1,hk1,hR1,hN1⟩:=FoR.open hR hN (by omega);refine xW (some 25) _ (.pointer (some ⟨b1,off1+i*3,none⟩)) kr kr (fun o w ho=>xy (kd:=.i64) (t:=72) (e:=74) (bytes:=48) kr (x:=(.tmp 21)) (y:=(.tmp 23)) b1 off1 n c i hp1 ho kr kr (by omega) w)<|uO H5 (some 26) 74 (.tmp 25) b1 (off1+i*3) 3 C1 #[.bool l1,.string s1,.slice p1 n1 c1] T1 fz1 kr kr kr hh1 hb1 kr hs1 hx1<|yh H5 (some 5) 74 (.agg #[.bool false,.string (⟨#[]⟩),.slice none 0 0]) kr kr kr ?_;intro b2 w6 H6;clear H5;refine yn H6 0 ([(b2,Obj.cells #[.bool l1,.string s1,.slice p1 n1 c1] 74 (0,0))]++Ez) 74 (.tmp 5) (.tmp 26) b2 (0) (#[.bool false,.string (⟨#[]⟩),.slice none 0 0]) #[.bool l1,.string s1,.slice p1 n1 c1] 74 (.agg #[.bool l1,.string s1,.slice p1 n1 c1]) kr kr kr kr kr kr (of_decide_eq_true kr) kr kr ?_;intro w7 H7;clear H6;refine zb<|yo [0,1,2] kr ?_;have hcn1:=hcn;rw [hr1] at hcn1;simp only [Fo.cnt] at hcn1;have hwt1:=hwt;rw [hr1] at hwt1;simp only [wtF] at hwt1;have hwl1:(wr1 l1 s1 (szF k1) (wrF k1)).length≤9+ByteArray.size s1+wtF k1:=by have h9:=kH (.cons l1 s1 k1 .nil);simp only [wrF,wtF,List.append_nil,Nat.add_zero] at h9;exact h9
   refine zc (some 27) (.pointer (some ⟨pb,0,none⟩)) (fun w=>by kernel_rfl) kr<|zV H7 (some 28) 74 (.tmp 5) 0 b2 #[.bool l1,.string s1,.slice p1 n1 c1] 74 (0,0) kr kr kr kr kr ?_;have HD3:St w0.heap.size w0 w7 ([]++Ez):=H7.sub (List.Sublist.cons _ (List.Sublist.refl Ez));refine vV HD3 hEz (some 29) 51 #[.pointer (some ⟨pb,0,none⟩),.agg #[.bool l1,.string s1,.slice p1 n1 c1]] (.tuple #[]) (o++wr1 l1 s1 (szF k1) (wrF k1)) (fun w=>zr w.heap.size w p1 n1 k1) (ih o l1 s1 p1 n1 c1 k1 hz1 (by omega) (by omega)) hk1 kr kr ?_;intro E3 w8 hE3 H8;clear HD3;refine zb<|wW<|yo [0,1] kr<|yH (some 30) (.int .i64 (IntKind.i64.wrap ((i:Int)+1))) (.int .i64 ((i+1:Nat):Int)) (fun w=>by kernel_rfl) (zp (yA (a:=i) (b:=1) (by omega))) kr<|zc (some 23) (.int .i64 ((i+1:Nat):Int)) (fun w=>by kernel_rfl) kr<|zb ?_;show ∃m,_∧_;exact ⟨_,(by omega),(i+1),r1,(o++wr1 l1 s1 (szF k1) (wrF k1)),E3,rfl,hR1,hN1,(by omega),(by rw [List.length_append];omega),(by rw [hout,hr1];simp only [wrF,List.append_assoc]),hE3,H8,(Is.of ⟨kr,kr,kr,kr,kr,kr,kr,trivial⟩)⟩
  ·refine yH (some 24) (.bool (decide ((i:Int)<(n:Int)))) (.bool false) (fun w=>by kernel_rfl) (za (decide_eq_false (by omega))) kr<|zb<|zd kr<|zm kr kr<|yg 0 kr<|wV ?_;have hdn:=FoR.done hN (by omega);rw [hdn] at hout;exact ⟨[],.nil,rfl,_,(by rw [hout,show wrF Fo.nil=[] from rfl,List.append_nil];exact hEz),H5⟩
 ·refine zc (some 9) (.bool false) (fun w=>by kernel_rfl) kr<|zb<|zm kr kr<|zo kr<|wW<|zg [0,1,2,3] kr kr ?_;have hsz1:=xz hq1;have hw1:out++wr1 l s (szF k) (wrF k)=(out++tl s)++wrF k:=by unfold wr1;rw [if_pos hq1,List.nil_append,List.append_assoc]
  have hl1:(out++tl s).length=out.length+ByteArray.size s:=by rw [List.length_append,yJ]
  refine zc (some 16) (.pointer (some ⟨pb,0,none⟩)) (fun w=>by kernel_rfl) kr<|zc (some 17) (.pointer (some ⟨b1,1,none⟩)) (fun w=>by kernel_rfl) kr<|yO H2 (some 18) 9 (.tmp 17) 0 b1 1 #[.bool l,.string s,.slice p n c] 74 (0,0) (.string s) kr kr kr kr kr kr<|vU (l:=[(b1,Obj.cells #[.bool l,.string s,.slice p n c] 74 (0,0))]) H2 hE0 (some 19) 66 #[.pointer (some ⟨pb,0,none⟩),.string s] (.tuple #[.int .i64 (ByteArray.size s:Int),.nilIface]) (out++tl s) (fun _=>True) (vY pb out s (Or.inl (by omega)) (by omega)) trivial kr kr ?_;intro E4 w9 hE4 H9;clear H2;refine zb<|zg [0,1,2,3] kr kr<|zc (some 20) (.pointer (some ⟨b1,2,none⟩)) (fun w=>by kernel_rfl) kr<|yO H9 (some 21) 72 (.tmp 20) 0 b1 2 #[.bool l,.string s,.slice p n c] 74 (0,0) (.slice p n c) kr kr kr kr kr kr<|zc (some 22) (.int .i64 (n:Int)) (fun w=>by kernel_rfl) kr<|zc (some 23) (.int .i64 0) (fun w=>by kernel_rfl) kr<|zb<|zw 0 kr ?_;have HD4:St w0.heap.size w0 w9 ([]++E4):=H9.sub (List.Sublist.cons _ (List.Sublist.refl E4));refine yz kr (fun mz ρ ww=> ∃(i:Nat) (r:Fo) (o:List UInt8) (Ez:List (Nat×Obj)),n-i=mz∧(FoR w0.heap.size w0 p i r)∧(i+Fo.len r=n)∧(Fo.cnt r≤Fo.cnt k)∧(List.length o+wtF r≤0x800000000000)∧(out++wr1 l s (szF k) (wrF k)=o++wrF r)∧(BE pb 93 5 o Ez)∧St w0.heap.size w0 ww ([]++Ez)∧Is [(0,.pointer (some ⟨pb,0,none⟩)),(1,.agg #[.bool l,.string s,.slice p n c]),(3,.pointer (some ⟨b1,0,none⟩)),(9,.bool false),(21,.slice p n c),(22,.int .i64 (n:Int)),(23,.int .i64 (i:Int))] ρ) (n-0) ⟨0,k,(out++tl s),E4,rfl,(zr.start hpre),(by have hn0:=(hpre).1;omega),(Nat.le_refl _),(by rw [hl1];omega),hw1,hE4,HD4,(Is.of ⟨kr,kr,kr,kr,kr,kr,kr,trivial⟩)⟩ ?_;clear HD4;rintro _ _ w10 ⟨i,r,o,Ez,rfl,hR,hN,hcn,hwt,hout,hEz,H10,_,rfl⟩;refine zg [0] kr kr ?_;by_cases hc5:(i:Nat)<n
  ·refine yH (some 24) (.bool (decide ((i:Int)<(n:Int)))) (.bool true) (fun w=>by kernel_rfl) (za (decide_eq_true (by omega))) kr<|zb<|zd kr<|zj kr kr<|zo kr<|wW<|zd kr<|zw 1 kr<|zg [0,1,2,3] kr kr ?_;obtain ⟨l2,s2,k2,r2,b2,off2,C2,T2,fz2,p2,n2,c2,hr2,hp2,hb2,hh2,hs2,hx2,hz2,hk2,hR2,hN2⟩:=FoR.open hR hN (by omega);refine xW (some 25) _ (.pointer (some ⟨b2,off2+i*3,none⟩)) kr kr (fun o w ho=>xy (kd:=.i64) (t:=72) (e:=74) (bytes:=48) kr (x:=(.tmp 21)) (y:=(.tmp 23)) b2 off2 n c i hp2 ho kr kr (by omega) w)<|uO H10 (some 26) 74 (.tmp 25) b2 (off2+i*3) 3 C2 #[.bool l2,.string s2,.slice p2 n2 c2] T2 fz2 kr kr kr hh2 hb2 kr hs2 hx2<|yh H10 (some 5) 74 (.agg #[.bool false,.string (⟨#[]⟩),.slice none 0 0]) kr kr kr ?_;intro b3 w11 H11;clear H10;refine yn H11 0 ([(b3,Obj.cells #[.bool l2,.string s2,.slice p2 n2 c2] 74 (0,0))]++Ez) 74 (.tmp 5) (.tmp 26) b3 (0) (#[.bool false,.string (⟨#[]⟩),.slice none 0 0]) #[.bool l2,.string s2,.slice p2 n2 c2] 74 (.agg #[.bool l2,.string s2,.slice p2 n2 c2]) kr kr kr kr kr kr (of_decide_eq_true kr) kr kr ?_;intro w12 H12;clear H11;refine zb<|yo [0,1,2] kr ?_;have hcn2:=hcn;rw [hr2] at hcn2;simp only [Fo.cnt] at hcn2;have hwt2:=hwt;rw [hr2] at hwt2;simp only [wtF] at hwt2;have hwl2:(wr1 l2 s2 (szF k2) (wrF k2)).length≤9+ByteArray.size s2+wtF k2:=by have h9:=kH (.cons l2 s2 k2 .nil);simp only [wrF,wtF,List.append_nil,Nat.add_zero] at h9;exact h9
   refine zc (some 27) (.pointer (some ⟨pb,0,none⟩)) (fun w=>by kernel_rfl) kr<|zV H12 (some 28) 74 (.tmp 5) 0 b3 #[.bool l2,.string s2,.slice p2 n2 c2] 74 (0,0) kr kr kr kr kr ?_;have HD6:St w0.heap.size w0 w12 ([]++Ez):=H12.sub (List.Sublist.cons _ (List.Sublist.refl Ez));refine vV HD6 hEz (some 29) 51 #[.pointer (some ⟨pb,0,none⟩),.agg #[.bool l2,.string s2,.slice p2 n2 c2]] (.tuple #[]) (o++wr1 l2 s2 (szF k2) (wrF k2)) (fun w=>zr w.heap.size w p2 n2 k2) (ih o l2 s2 p2 n2 c2 k2 hz2 (by omega) (by omega)) hk2 kr kr ?_;intro E5 w13 hE5 H13;clear HD6;refine zb<|wW<|yo [0,1] kr<|yH (some 30) (.int .i64 (IntKind.i64.wrap ((i:Int)+1))) (.int .i64 ((i+1:Nat):Int)) (fun w=>by kernel_rfl) (zp (yA (a:=i) (b:=1) (by omega))) kr<|zc (some 23) (.int .i64 ((i+1:Nat):Int)) (fun w=>by kernel_rfl) kr<|zb ?_;show ∃m,_∧_;exact ⟨_,(by omega),(i+1),r2,(o++wr1 l2 s2 (szF k2) (wrF k2)),E5,rfl,hR2,hN2,(by omega),(by rw [List.length_append];omega),(by rw [hout,hr2];simp only [wrF,List.append_assoc]),hE5,H13,(Is.of ⟨kr,kr,kr,kr,kr,kr,kr,trivial⟩)⟩
  ·refine yH (some 24) (.bool (decide ((i:Int)<(n:Int)))) (.bool false) (fun w=>by kernel_rfl) (za (decide_eq_false (by omega))) kr<|zb<|zd kr<|zm kr kr<|yg 0 kr<|wV ?_;have hdn:=FoR.done hN (by omega);rw [hdn] at hout;exact ⟨[],.nil,rfl,_,(by rw [hout,show wrF Fo.nil=[] from rfl,List.append_nil];exact hEz),H10⟩
theorem zeP (pb:Nat)(out:List UInt8)(l:Bool)(s:ByteArray)(p:Option Addr)(n c:Nat)(k:Fo)(hs:s.size≤0x800000000000)(hw:List.length out+9+ByteArray.size s+wtF k≤0x800000000000):qW Tryd.prog 51 #[.pointer (some ⟨pb,0,none⟩),.agg #[.bool l,.string s,.slice p n c]] (.tuple #[]) pb 93 5 out (out++wr1 l s (szF k) (wrF k)) (fun w=>zr w.heap.size w p n k):=by
 have key: ∀(m:Nat) (out:List UInt8) (l:Bool) (s:ByteArray) (p:Option Addr) (n c:Nat) (k:Fo),s.size≤0x800000000000→List.length out+9+ByteArray.size s+wtF k≤0x800000000000→k.cnt<m→qW Tryd.prog 51 #[.pointer (some ⟨pb,0,none⟩),.agg #[.bool l,.string s,.slice p n c]] (.tuple #[]) pb 93 5 out (out++wr1 l s (szF k) (wrF k)) (fun w=>zr w.heap.size w p n k):=by
  intro m
  induction m with
  | zero=>intros;omega
  | succ m ih=>intro out l s p n c k hs hw hkm;exact zeO pb m ih out l s p n c k hs hw hkm
 exact key (k.cnt+1) out l s p n c k hs hw (by omega)
def FnO (P:Program)(f:Nat)(args:Array Value)(v:Value)(p:Nat)(T e:TypeId)(out:List UInt8):Prop:=
 ∀(w0 w:World) (E:List (Nat×Obj)),BE p T e out E→St w0.heap.size w0 w E→Calls P f args w fun r w'=>r=.returned v∧St w0.heap.size w0 w' []
theorem zeQ {P:Program}{N:Nat}{ops:Array Oper}{i:Nat}{r:List Nat}{K:Env→World→Prop}{ρ:Env}{w:World}{w0:World}{E:List (Nat×Obj)}(HS:St w0.heap.size w0 w E){p:Nat}{T e:TypeId}{out:List UInt8}(hE:BE p T e out E)(d:Option Nat)(f:Nat)(args:Array Value)(v:Value)(hc:FnO P f args v p T e out)
 (h:opv P ops i ρ w=some (d,true,.ok (.enter f args) w)) (hd:dOK d N=true) (kk: ∀w',St w0.heap.size w0 w' []→WPs P N ops K r (zl ρ d v) w'):WPs P N ops K (i::r) ρ w:=by
 obtain ⟨o,ho,rfl,hw,hr⟩:=zP h;refine WPo.run ho hw fun a ha=>?_;rw [hr,Oper.upon_enter];refine (hc w0 w E hE HS).mono ?_;rintro _ w' ⟨rfl,hS⟩;exact ⟨_,ha.put _ (zM hd) v,kk w' hS⟩
theorem zeR (pb b n cap:Nat)(cur:Array Value)(out:List UInt8)(a:Option Addr)(hn:n=out.length)(hr:Rw 1 cur cap n (cellsB out))(h0:0<n)(hm:n≤0x800000000000)(hcap:cap≠0)(w0 w:World)(H0:St w0.heap.size w0 w [(b,Obj.cells cur 5 (0,0)),(pb,Obj.cells #[.pointer a,.slice (some ⟨b,0,none⟩) n cap] 93 (0,0))]):WP Tryd.prog 14 (zi Tryd.f52) (zZ Tryd.prog [.tmp 2] fun v' w'=>v'=.string (zf out)∧St w0.heap.size w0 w' []) (ini #[.pointer (some ⟨pb,0,none⟩)]) w:=by
 refine zg [0] kr kr<|zc (some 2) (.string (⟨#[]⟩)) (fun w=>by kernel_rfl) kr<|zb<|D2.g_sdraw [0,1,2,3,4,5,6,7,8,9,10,11] [(some 3,fun _=>.pointer (some ⟨pb,0,none⟩)),(some 4,fun _=>.pointer (some ⟨pb,0,none⟩)),(some 5,fun _=>.pointer (some ⟨pb,1,none⟩)),(some 6,fun _=>.slice (some ⟨b,0,none⟩) n cap),(some 7,fun _=>.pointer (some ⟨b,0,none⟩)),(some 8,fun _=>.pointer (some ⟨pb,0,none⟩)),(some 9,fun _=>.pointer (some ⟨pb,0,none⟩)),(some 10,fun _=>.pointer (some ⟨pb,1,none⟩)),(some 11,fun _=>.slice (some ⟨b,0,none⟩) n cap),(some 12,fun _=>.int .i64 (n:Int)),(some 13,fun _=>.string (zf out)),(some 2,fun _=>.string (zf out))] (yZ w0 [(b,Obj.cells cur 5 (0,0)),(pb,Obj.cells #[.pointer a,.slice (some ⟨b,0,none⟩) n cap] 93 (0,0))] 10) kr kr kr kr H0.drew ⟨?_,?_,?_,?_,?_,?_,?_,?_,?_,?_,?_,?_,trivial⟩ ?_
 ·exact qX rfl (fun g w=>by kernel_rfl)
 ·exact qX rfl (fun g w=>by kernel_rfl)
 ·exact qX rfl (fun g w=>by kernel_rfl)
 ·exact vW rfl (fun L hN=>(hN.2.2.no 4 10 kr (hN.post 4 kr))) (.load 56 (.tmp 5)) (fun g=>by kernel_rfl) (fun g w o hS ho=>hS.load1_run (j:=1) (b:=pb) (off:=1) (C:=#[.pointer a,.slice (some ⟨b,0,none⟩) n cap]) (T:=93) kr kr kr kr o ho)
 ·exact vW rfl (fun L hN=>(hN.post 10 kr)) (vX 56 (.tmp 6)) (fun g=>by kernel_rfl) (fun g w o hS ho=>zeH (a:=⟨b,0,none⟩) (n:=n) (c:=cap) kr (by omega) o ho)
 ·exact qX rfl (fun g w=>by kernel_rfl)
 ·exact qX rfl (fun g w=>by kernel_rfl)
 ·exact qX rfl (fun g w=>by kernel_rfl)
 ·exact vW rfl (fun L hN=>(hN.2.2.no 9 10 kr (hN.post 9 kr))) (.load 56 (.tmp 10)) (fun g=>by kernel_rfl) (fun g w o hS ho=>hS.load1_run (j:=1) (b:=pb) (off:=1) (C:=#[.pointer a,.slice (some ⟨b,0,none⟩) n cap]) (T:=93) kr kr kr kr o ho)
 ·exact qX rfl (fun g w=>by kernel_rfl)
 ·exact zeG rfl (vD 113 3 (.tmp 7) (.tmp 12)) (fun g=>by kernel_rfl) (fun g w o hS ho=>zeI (j:=0) (b:=b) (n:=n) (cap:=cap) (C:=cur) (e:=5) hS kr kr kr kr kr hr (by omega) (by omega) o ho)
 ·exact qX rfl (fun g w=>by kernel_rfl)
 intro L0 G0 w1 hall HL;clear H0;have H1:St w0.heap.size w0 w1 []:=by unfold yZ at HL;rw [hall 10 (Nat.le_of_ble_eq_true kr)] at HL;exact HL
 refine zn kr<|wV ?_;exact ⟨[.string (zf out)],.tmp _ kr .nil,rfl,H1⟩
theorem zeS (pb:Nat)(out:List UInt8)(h0:0<out.length)(hm:out.length≤0x800000000000):FnO Tryd.prog 52 #[.pointer (some ⟨pb,0,none⟩)] (.string (zf out)) pb 93 5 out:=fun w0 w E hE HS=>by
 rcases hE with ⟨a,ha⟩|⟨a,b,n,cap,cur,_,ha,hn,hr⟩
 ·simp at h0
 ·have h9:Calls Tryd.prog 52 #[.pointer (some ⟨pb,0,none⟩)] w fun r w'=> ∃v',r=.returned v'∧(v'=.string (zf out)∧St w0.heap.size w0 w' []):=
   qP (c:=zi Tryd.f52) (rs:=[.tmp 2]) (N:=14) Tryd.func52 kr kr kr (zeR pb b n cap cur out a hn hr (by omega) (by omega) (by have:=hr.le;omega) w0 w HS)
  refine h9.mono ?_;rintro _ w' ⟨v',he,hv,hS⟩;exact ⟨by rw [he,hv],hS⟩
theorem zeT (l:Bool)(s:ByteArray)(p:Option Addr)(n c:Nat)(k:Fo)(hs:s.size≤0x800000000000):FnP Tryd.prog 36 #[.agg #[.bool l,.string s,.slice p n c]] (fun w=>zr w.heap.size w p n k) (xA (zW l s n k)):=by
 refine FnP.intro (c:=zi Tryd.f36) [.tmp 2,.tmp 3] 20 Tryd.func36 kr kr kr fun w hpre=>?_;have H0:=St.start w;have hn:=hpre.1;have hnm:=hpre.2.1;have hdl:=kI k;refine zg [0,1,2] kr kr<|qu H0 (some 1) 74 (.tmp 0) (.agg #[.bool l,.string s,.slice p n c]) kr kr kr ?_;intro b1 w1 H1;clear H0;refine zc (some 2) (.string (⟨#[]⟩)) (fun w=>by kernel_rfl) kr<|zc (some 3) (.int .i64 0) (fun w=>by kernel_rfl) kr<|zb<|zd kr<|zw 0 kr<|zg [0,1,2,3] kr kr<|zV H1 (some 6) 74 (.tmp 1) 0 b1 #[.bool l,.string s,.slice p n c] 74 (0,0) kr kr kr kr kr<|qv H1 (some 7) 48 #[.agg #[.bool l,.string s,.slice p n c],.int .i64 4000] (fun w=>zr w.heap.size w p n k) (.int .i64 (lfV (lf1 l s n (lfF k) 4000))) (zeu l s p n c k (by omega) 4000 (by omega)) (zr.call hpre H1.below) (fun w=>by kernel_rfl) kr ?_;intro w2 H2;clear H1;rcases zaT (lf1 l s n (lfF k) 4000) with hv1 | ⟨y,hv1⟩
 ·refine yQ 7 (v:=.int .i64 (lfV (lf1 l s n (lfF k) 4000))) (v':=.int .i64 (-1)) (zp (by rw [hv1];rfl)) kr<|zc (some 8) (.bool true) (fun w=>by kernel_rfl) kr<|zc (some 5) (.bool true) (fun w=>by kernel_rfl) kr<|zb<|zj kr kr<|zg [0,1] kr kr<|zc (some 2) (.string (⟨#[]⟩)) (fun w=>by kernel_rfl) kr<|zc (some 3) (.int .i64 1) (fun w=>by kernel_rfl) kr<|zb<|zn kr<|wV ?_;exact ⟨[.string (⟨#[]⟩),.int .i64 1],(.tmp (.string (⟨#[]⟩)) kr (.tmp (.int .i64 1) kr .nil)),(zen hv1).symm,H2.below⟩
 ·refine yQ 7 (v:=.int .i64 (lfV (lf1 l s n (lfF k) 4000))) (v':=.int .i64 (y:Int)) (zp (by rw [hv1];rfl)) kr ?_;have hok:=zaZ hv1;have hcn:k.cnt<4000:=hok.2.2;have hwt:=hpre.wt;refine yH (some 8) (.bool (decide ((y:Int)<0))) (.bool false) (fun w=>by kernel_rfl) (za (decide_eq_false (by omega))) kr<|zc (some 5) (.bool false) (fun w=>by kernel_rfl) kr<|zb<|zm kr kr<|zg [0,1,2,3] kr kr<|zV H2 (some 10) 74 (.tmp 1) 0 b1 #[.bool l,.string s,.slice p n c] 74 (0,0) kr kr kr kr kr<|qv H2 (some 11) 49 #[.agg #[.bool l,.string s,.slice p n c]] (fun w=>zr w.heap.size w p n k) (.int .i64 ((dp1 l (dpF k):Nat):Int)) (zew l s p n c k (by omega) (by omega)) (zr.call hpre H2.below) (fun w=>by kernel_rfl) kr ?_;intro w3 H3;clear H2;by_cases hc1:(dp1 l (dpF k):Nat)>8
  ·refine yH (some 12) (.bool (decide (8<((dp1 l (dpF k):Nat):Int)))) (.bool true) (fun w=>by kernel_rfl) (za (decide_eq_true (by omega))) kr<|zc (some 9) (.bool true) (fun w=>by kernel_rfl) kr<|zb<|zj kr kr<|zg [0,1] kr kr<|zc (some 2) (.string (⟨#[]⟩)) (fun w=>by kernel_rfl) kr<|zc (some 3) (.int .i64 5) (fun w=>by kernel_rfl) kr<|zb<|zn kr<|wV ?_;exact ⟨[.string (⟨#[]⟩),.int .i64 5],(.tmp (.string (⟨#[]⟩)) kr (.tmp (.int .i64 5) kr .nil)),(zeo hv1 (by omega)).symm,H3.below⟩
  ·refine yH (some 12) (.bool (decide (8<((dp1 l (dpF k):Nat):Int)))) (.bool false) (fun w=>by kernel_rfl) (za (decide_eq_false (by omega))) kr<|zc (some 9) (.bool false) (fun w=>by kernel_rfl) kr<|zb<|zm kr kr<|zg [0,1,2,3] kr kr<|zV H3 (some 14) 74 (.tmp 1) 0 b1 #[.bool l,.string s,.slice p n c] 74 (0,0) kr kr kr kr kr<|qv H3 (some 15) 50 #[.agg #[.bool l,.string s,.slice p n c]] (fun w=>zr w.heap.size w p n k) (.int .u64 ((sz1 l s (szF k):Nat):Int)) (za7 l s p n c k (by omega) (by omega)) (zr.call hpre H3.below) (fun w=>by kernel_rfl) kr ?_;intro w4 H4;clear H3;by_cases hc2:(sz1 l s (szF k):Nat)>4000
   ·refine yH (some 16) (.bool (decide (4000<((sz1 l s (szF k):Nat):Int)))) (.bool true) (fun w=>by kernel_rfl) (za (decide_eq_true (by omega))) kr<|zc (some 13) (.bool true) (fun w=>by kernel_rfl) kr<|zb<|zj kr kr<|zg [0,1] kr kr<|zc (some 2) (.string (⟨#[]⟩)) (fun w=>by kernel_rfl) kr<|zc (some 3) (.int .i64 2) (fun w=>by kernel_rfl) kr<|zb<|zn kr<|wV ?_;exact ⟨[.string (⟨#[]⟩),.int .i64 2],(.tmp (.string (⟨#[]⟩)) kr (.tmp (.int .i64 2) kr .nil)),(zep hv1 (by omega) (by omega)).symm,H4.below⟩
   ·refine yH (some 16) (.bool (decide (4000<((sz1 l s (szF k):Nat):Int)))) (.bool false) (fun w=>by kernel_rfl) (za (decide_eq_false (by omega))) kr<|zc (some 13) (.bool false) (fun w=>by kernel_rfl) kr<|zb<|zm kr kr<|zo kr<|wW<|zg [0] kr kr ?_;have hpw:=zer hok.1 hok.2.1 (show sz1 l s (szF k)≤4000 by omega) (by omega);refine yh H4 (some 4) 93 (.agg #[.pointer none,.slice none 0 0]) kr kr kr ?_;intro b2 w5 H5;clear H4;refine zb<|zg [0,1] kr kr<|zV H5 (some 17) 74 (.tmp 1) 1 b1 #[.bool l,.string s,.slice p n c] 74 (0,0) kr kr kr kr kr ?_;have HD3:St w.heap.size w w5 [(b2,Obj.cells #[.pointer none,.slice none 0 0] 93 (0,0))]:=H5.sub (List.Sublist.cons_cons _ (List.Sublist.cons _ List.Sublist.slnil));have hE0:BE b2 93 5 [] [(b2,Obj.cells #[.pointer none,.slice none 0 0] 93 (0,0))]:=BE.nil none (Or.inl rfl);refine vV HD3 hE0 (some 18) 51 #[.pointer (some ⟨b2,0,none⟩),.agg #[.bool l,.string s,.slice p n c]] (.tuple #[]) ([]++wr1 l s (szF k) (wrF k)) (fun w=>zr w.heap.size w p n k) (zeP b2 [] l s p n c k hs (by simp only [List.length_nil];omega)) hpre kr kr ?_;intro E1 w6 hE1 H6;clear HD3;refine zb<|zg [0,1,2] kr kr ?_;rw [List.nil_append] at hE1;refine zeQ H6 hE1 (some 19) 52 #[.pointer (some ⟨b2,0,none⟩)] (.string (zf (wr1 l s (szF k) (wrF k)))) (zeS b2 (wr1 l s (szF k) (wrF k)) (za1 hok.1 hok.2.1 (by omega)).1 (by have h9:=(za1 hok.1 hok.2.1 (by omega)).2;omega)) kr kr ?_;intro w7 H7;clear H6;refine zc (some 2) (.string (zf (wr1 l s (szF k) (wrF k)))) (fun w=>by kernel_rfl) kr<|zc (some 3) (.int .i64 0) (fun w=>by kernel_rfl) kr<|zb<|zn kr<|wV ?_;exact ⟨[.string (zf (wr1 l s (szF k) (wrF k))),.int .i64 0],(.tmp (.string (zf (wr1 l s (szF k) (wrF k)))) kr (.tmp (.int .i64 0) kr .nil)),(zeq hv1 (by omega) (by omega)).symm,H7.below⟩
structure X3 where
 l:Bool
 s:ByteArray
 p:Option Addr
 n:Nat
 c:Nat
 k:Fo
def cells3:List X3→List Value
 | []=>[]
 | x::r=>.bool x.l ::.string x.s ::.slice x.p x.n x.c::cells3 r
def toFo:List X3→Fo
 | []=>.nil
 | x::r=>.cons x.l x.s x.k (toFo r)
theorem zbf: ∀L,(toFo L).len=L.length
 | []=>rfl
 | x::r=>by simp only [toFo,Fo.len,List.length_cons,zbf r]
theorem jk: ∀L,(cells3 L).length=L.length*3
 | []=>rfl
 | x::r=>by simp only [cells3,List.length_cons,jk r];omega
theorem zbg: ∀L M,cells3 (L++M)=cells3 L++cells3 M
 | [],M=>rfl
 | x::r,M=>by simp only [List.cons_append,cells3,zbg r M]
theorem zbh: ∀L,∀u∈cells3 L,u.oneCell'=true
 | [],u,h=>nomatch h
 | x::r,u,h=>by
  simp only [cells3,List.mem_cons] at h;rcases h with rfl | rfl | rfl | h
  ·rfl
  ·rfl
  ·rfl
  ·exact zbh r u h
theorem zbi: ∀(L:List X3) (i:Nat) (x:X3),L[i]? =some x→(cells3 L)[i*3]? =some (.bool x.l)∧(cells3 L)[i*3+1]? =some (.string x.s)∧(cells3 L)[i*3+2]? =some (.slice x.p x.n x.c)
 | [],_,_,h=>by simp at h
 | y::r,0,x,h=>by simp at h;subst h;exact ⟨rfl,rfl,rfl⟩
 | y::r,i+1,x,h=>by
  obtain ⟨h1,h2,h3⟩:=zbi r i x (by simpa using h);rw [show (i+1)*3=i*3+3 by omega];exact ⟨h1,h2,h3⟩
theorem ex3 {C:Array Value}{o:Nat}{a b c:Value}(h1:C[o]? =some a)(h2:C[o+1]? =some b)(h3:C[o+2]? =some c):o+3≤C.size∧C.extract o (o+3)=#[a,b,c]:=by
 have hl:=(Array.getElem?_eq_some_iff.1 h3).1;refine ⟨by omega,?_⟩;apply Array.ext
 ·simp;omega
 ·intro j hj1 hj2;simp at hj1 hj2;rcases (show j=0∨j=1∨j=2 by omega) with rfl | rfl | rfl
  ·have:=(Array.getElem?_eq_some_iff.1 h1).2;simpa using this
  ·have:=(Array.getElem?_eq_some_iff.1 h2).2;simpa using this
  ·have:=(Array.getElem?_eq_some_iff.1 h3).2;simpa using this
theorem Rw.at3 {cur:Array Value}{cap n:Nat}{L:List X3}(h:Rw 3 cur cap n (cells3 L)){i:Nat}{x:X3}(hx:L[i]? =some x):cur[i*3]? =some (.bool x.l)∧cur[i*3+1]? =some (.string x.s)∧cur[i*3+2]? =some (.slice x.p x.n x.c):=by
 have hl:=h.len;rw [jk] at hl;have hi:i<L.length:=(List.getElem?_eq_some_iff.1 hx).1;obtain ⟨h1,h2,h3⟩:=zbi L i x hx;refine ⟨?_,?_,?_⟩
 ·rw [h.get _ (by omega)];exact h1
 ·rw [h.get _ (by omega)];exact h2
 ·rw [h.get _ (by omega)];exact h3
theorem zeU (n:Nat)(hn:n<0x10000000000000000):Fn Tryd.prog 53 #[.int .u64 (n:Int)] (.agg #[.bool false,.string (zf (dg n)),.slice none 0 0]):=by
 refine Fn.intro (c:=zi Tryd.f53) [.cell 2 74] 6 Tryd.func53 kr kr kr fun w=>?_;have H0:=St.start w;refine rS [.a] H0 kr fun gs1 w1 H1=>?_;clear H0;refine rS [.v,.c (vT n (by omega)),.v,.s 0] H1 kr fun gs2 w2 H2=>?_;clear H1;refine zn kr<|wV ?_;refine ⟨[.agg #[.bool false,.string (zf (dg n)),.slice none 0 0]],(.agg (b:=(gs1 0).b) #[.bool false,.string (zf (dg n)),.slice none 0 0] 74 (0,0) kr (H2.get 0 kr) kr .nil),?_,H2.below⟩;rfl
theorem zeV {l:Bool}{s:ByteArray}{k:Fo}(h:(zW l s k.len k).2=0):(zW l s k.len k).1=zf (wr1 l s (szF k) (wrF k))∧zO l s k.len=false∧pureF k=true∧k.cnt<4000∧dp1 l (dpF k)≤8∧sz1 l s (szF k)≤4000∧(wr1 l s (szF k) (wrF k)).length=sz1 l s (szF k):=by
 unfold zW at h ⊢;cases hv:lf1 l s k.len (lfF k) 4000 with
 | none=>rw [hv] at h;simp at h
 | some y=>
  rw [hv] at h;obtain ⟨h1,h2,h3⟩:=zaZ hv;simp only [] at h ⊢;by_cases hd:8<dp1 l (dpF k)
  ·rw [if_pos hd] at h;simp at h
  ·rw [if_neg hd] at h ⊢;by_cases hz:4000<sz1 l s (szF k)
   ·rw [if_pos hz] at h;simp at h
   ·rw [if_neg hz];exact ⟨rfl,h1,h2,h3,by omega,by omega,vS h1 (kJ h2)⟩
def yS (w:World)(p:Option Addr)(L:List X3):Prop:=L=[]∨∃b off,p=some ⟨b,off,none⟩∧ ∀(j:Nat) (u:Value),(cells3 L)[j]? =some u→w.cell? ⟨b,off+j,none⟩=some u
theorem yS.up {w w':World}{p:Option Addr}{L:List X3}(h:yS w p L)(hb:Below w.heap.size w w'):yS w' p L:=by
 rcases h with h|⟨b,off,e,h⟩
 ·exact .inl h
 ·refine .inr ⟨b,off,e,fun j u hj=>?_⟩;have h1:=h j u hj;have hlt:b<w.heap.size:=by
   rcases Nat.lt_or_ge b w.heap.size with q|q
   ·exact q
   ·simp [World.cell?,Array.getElem?_eq_none q] at h1
  rw [←h1];unfold World.cell?;rw [hb.block b hlt]
theorem Rw.cellsAt {cur:Array Value}{cap n:Nat}{L:List X3}(h:Rw 3 cur cap n (cells3 L)){w:World}{b:Nat}{T:TypeId}{fz:Nat×Nat}(hh:w.heap[b]? =some (.cells cur T fz)):n=L.length∧yS w (some ⟨b,0,none⟩) L:=by
 have hl:=h.len;rw [jk] at hl;refine ⟨by omega,.inr ⟨b,0,rfl,fun j u hj=>?_⟩⟩;have hlt:j<n*3:=by have:=(List.getElem?_eq_some_iff.1 hj).1;rw [jk] at this;omega
 rw [Nat.zero_add];simp [World.cell?,hh,h.get j hlt,hj]
def xC (T:TypeId)(mk:Value→Value)(n:Nat)(L:List X3):Nat→Value→World→Prop:=fun B v w'=>
 (n=0∧v=mk (.slice none 0 0))∨∃b cap cur,v=mk (.slice (some ⟨b,0,none⟩) n cap)∧B≤b∧w'.heap[b]? =some (.cells cur T (0,0))∧Rw 3 cur cap n (cells3 L)
section
variable {P:Program}{N:Nat}{ops:Array Oper}{i:Nat}{r:List Nat}{K:Env→World→Prop}{ρ:Env}{w:World}{B:Nat}{w0:World}{l:List (Nat×Obj)}
theorem zbj (HS:St B w0 w l)(d:Option Nat)(f:Nat)(args:Array Value)(pre:World→Prop)(T:TypeId)(mk:Value→Value)(n:Nat)(L:List X3)(hc:FnR P f args pre (xC T mk n L))(hp:pre w)
 (h:opv P ops i ρ w=some (d,true,.ok (.enter f args) w)) (hd:dOK d N=true)
 (k0: ∀w',n=0→St B w0 w' l→WPs P N ops K r (zl ρ d (mk (.slice none 0 0))) w')
 (kk: ∀b cap cur w',St B w0 w' ((b,.cells cur T (0,0))::l)→Rw 3 cur cap n (cells3 L)→WPs P N ops K r (zl ρ d (mk (.slice (some ⟨b,0,none⟩) n cap))) w'):WPs P N ops K (i::r) ρ w:=by
 obtain ⟨o,ho,rfl,hw,hr⟩:=zP h;refine WPo.run ho hw fun a ha=>?_;rw [hr,Oper.upon_enter];refine (hc w hp).mono ?_;rintro e w' ⟨v,rfl,hb,⟨h0,rfl⟩|⟨b,cap,cur,rfl,hle,hh,hr⟩⟩
 ·exact ⟨_,ha.put _ (zM hd) _,k0 w' h0 (HS.call hb)⟩
 ·exact ⟨_,ha.put _ (zM hd) _,kk b cap cur w' (HS.add hb hle hh) hr⟩
theorem zeW (HS:St B w0 w l)(d:Option Nat)(t e:TypeId)(bytes:Nat)(s x:Operand)(j b n m cap c:Nat)(p:Option Addr)(cur:Array Value)(xs:List Value)(L:List X3)(l':Nat→Array Value→List (Nat×Obj))
 (h:opk ops i ρ=some (d,true,yI t s x)) (hd:dOK d N=true) (ht:yi P t=some (e,3,bytes))
 (hs:ev ρ s=.slice (some ⟨b,0,none⟩) n cap) (hj:l[j]? =some (b,.cells cur e (0,0))) (hr:Rw 3 cur cap n xs)
 (hx:ev ρ x=.slice p m c) (hm:m=L.length) (hp:p≠none) (hc:yS w p L)
 (hb:(n+m)*bytes≤0x800000000000) (hmx:n+m≤maxLen)
 (hl': ∀b' cur',l.set j (b',.cells cur' e (0,0))=l' b' cur')
 (kk: ∀b' cap' cur' w',St B w0 w' (l' b' cur')→Rw 3 cur' cap' (n+m) (xs++cells3 L)→WPs P N ops K r (zl ρ d (.slice (some ⟨b',0,none⟩) (n+m) cap')) w'):WPs P N ops K (i::r) ρ w:=by
 obtain ⟨o,ho,rfl,hw,hop⟩:=zx h;obtain ⟨it,z,hu,hi,hz,hsz,hby,hzs,h0⟩:=yP ht;obtain ⟨a,rfl⟩:∃a,p=some a:=by cases p with
  | none=>exact absurd rfl hp
  | some a=>exact ⟨a,rfl⟩
 have hnews: ∀q u,(cells3 L)[q]? =some u→w.cell? (a.add q)=some u:=fun q u hq=>by
  rcases hc with rfl|⟨b',off,e',h9⟩
  ·simp [cells3] at hq
  ·obtain rfl:a=⟨b',off,none⟩:=Option.some.inj e';rw [yW];exact h9 q u hq
 obtain ⟨v',w',hrun,hown,hgr,hnil,hblk⟩:=run_append_own_at (P:=P) w B t o.type e it z 3 bytes hu hi hz hsz hby hzs h0 _ n xs (hr.owns (HS.ge j hj) (HS.get j hj)) a m c (cells3 L) (by rw [jk,hm]) hnews (zbh L) hmx hb HS.le;have hown':=hown;rcases hown'.2 with ⟨hv,_⟩|⟨g,cap',cur',rfl,hbg,hg,hnc,hcm,hcs,htk⟩
 ·exact absurd (hnil.1 hv).1 (by simp)
 ·have hgb:g=b∨g=w.heap.size:=by
   rcases hblk with hq|hq
   ·left;injection hq
   ·right;injection hq
  have HS':=HS.grown j hj hgr hgb hg;rw [hl'] at HS';refine WPo.run ho hw fun a' ha=>?_;have hex:(execOp (ev ρ) o).run P w=.ok (.value (.slice (some ⟨g,0,none⟩) (n+m) cap')) w':=by
   unfold execOp;simp only [hop,yI,resolve,invoke,builtin,Sem.run_bind,Sem.run_pure,Result.andThen_ok,List.map_toArray,List.map_cons,List.map_nil,hs,hx,hrun]
  rw [hex,Oper.upon_value];exact ⟨_,ha.put _ (zM hd) _,kk g cap' cur' w' HS' ⟨hown.1,hnc,hcm,htk,hcs⟩⟩
end
section
variable {P:Program}{N:Nat}{ops:Array Oper}{Q:Exit→Env→World→Prop}{K:Env→World→Prop}{ρ:Env}{w:World}{i:Nat}{r:List Nat}{c:Code}
end
def yT (T:List (Nat×Obj)):Fo→Nat→Nat→Prop
 | .nil,_,_=>True
 | .cons l s k r,b,off=>(∃(C:Array Value) (ty:TypeId) (fz:Nat×Nat) (p:Option Addr) (n c:Nat),(b,Obj.cells C ty fz)∈T∧off+3≤C.size∧
  C.extract off (off+3)=#[.bool l,.string s,.slice p n c]∧s.size≤0x800000000000∧n=k.len∧n≤0x800000000000∧(k=.nil∨∃b' off',p=some ⟨b',off',none⟩∧yT T k b' off'))∧yT T r b (off+3)
def yD (T:List (Nat×Obj))(p:Option Addr)(n:Nat)(k:Fo):Prop:=n=k.len∧n≤0x800000000000∧(k=.nil∨∃b off,p=some ⟨b,off,none⟩∧yT T k b off)
theorem yT.mono {T T':List (Nat×Obj)}(h: ∀e∈T,e∈T'): ∀ {k:Fo} {b off:Nat},yT T k b off→yT T' k b off
 | .nil,_,_,_=>trivial
 | .cons l s k r,b,off,⟨⟨C,ty,fz,p,n,c,h1,h2,h3,h4,h5,h6,h7⟩,h8⟩=>⟨⟨C,ty,fz,p,n,c,h _ h1,h2,h3,h4,h5,h6,h7.imp id fun ⟨b',o',e,q⟩=>⟨b',o',e,yT.mono h q⟩⟩,yT.mono h h8⟩
theorem yD.mono {T T':List (Nat×Obj)}{p:Option Addr}{n:Nat}{k:Fo}(hs:yD T p n k)(h: ∀e∈T,e∈T'):yD T' p n k:=
 ⟨hs.1,hs.2.1,hs.2.2.imp id fun ⟨b,o,e,q⟩=>⟨b,o,e,q.mono h⟩⟩
theorem yT.at {B:Nat}{w0 w:World}{l T:List (Nat×Obj)}(hS:St B w0 w l)(h: ∀e∈T,e∈l): ∀ {k:Fo} {b off:Nat},yT T k b off→yK w.heap.size w k b off
 | .nil,_,_,_=>trivial
 | .cons l s k r,b,off,⟨⟨C,ty,fz,p,n,c,h1,h2,h3,h4,h5,h6,h7⟩,h8⟩=>
  have hh:=(hS.own _ (h _ h1)).2
  ⟨⟨C,ty,fz,p,n,c,zE hh,hh,h2,h3,h4,h5,h6,h7.imp id fun ⟨b',o',e,q⟩=>⟨b',o',e,yT.at hS h q⟩⟩,yT.at hS h h8⟩
theorem yD.at {B:Nat}{w0 w:World}{l T:List (Nat×Obj)}{p:Option Addr}{n:Nat}{k:Fo}(hs:yD T p n k)(hS:St B w0 w l)(h: ∀e∈T,e∈l):zr w.heap.size w p n k:=
 ⟨hs.1,hs.2.1,hs.2.2.imp id fun ⟨b,o,e,q⟩=>⟨b,o,e,q.at hS h⟩⟩
def AllIn (T:List (Nat×Obj))(L:List X3):Prop:= ∀x∈L,yD T x.p x.n x.k∧x.s.size≤0x800000000000
theorem zbk {T:List (Nat×Obj)}{b:Nat}{C:Array Value}{ty:TypeId}{fz:Nat×Nat}(hm:(b,Obj.cells C ty fz)∈T): ∀(L:List X3) (o:Nat),
 (∀(i:Nat) (x:X3),L[i]? =some x→C[o+i*3]? =some (.bool x.l)∧C[o+i*3+1]? =some (.string x.s)∧C[o+i*3+2]? =some (.slice x.p x.n x.c))→AllIn T L→yT T (toFo L) b o
 | [],_,_,_=>trivial
 | x::r,o,h,hA=>by
  obtain ⟨h1,h2,h3⟩:=h 0 x rfl;simp only [Nat.zero_mul,Nat.add_zero] at h1 h2 h3;have ha:=hA x (List.mem_cons_self ..);refine ⟨⟨C,ty,fz,x.p,x.n,x.c,hm,(ex3 h1 h2 h3).1,(ex3 h1 h2 h3).2,ha.2,ha.1.1,ha.1.2.1,ha.1.2.2⟩,?_⟩;refine zbk hm r (o+3) (fun i y hy=>?_) fun y hy=>hA y (List.mem_cons_of_mem _ hy);have:=h (i+1) y (by simpa using hy);rw [show o+(i+1)*3=o+3+i*3 by omega] at this;exact this
theorem Rw.slIn {cur:Array Value}{cap n:Nat}{L:List X3}(h:Rw 3 cur cap n (cells3 L)){T:List (Nat×Obj)}{b:Nat}{ty:TypeId}{fz:Nat×Nat}(hm:(b,Obj.cells cur ty fz)∈T)(hA:AllIn T L)(hn:n≤0x800000000000):yD T (some ⟨b,0,none⟩) n (toFo L):=by
 have hl:=h.len;rw [jk] at hl;refine ⟨by rw [zbf];omega,hn,.inr ⟨b,0,rfl,zbk hm L 0 (fun i x hx=>?_) hA⟩⟩;have:=h.at3 hx;rw [Nat.zero_add];exact this
section
variable {P:Program}{N:Nat}{ops:Array Oper}{Q:Exit→Env→World→Prop}{K:Env→World→Prop}{ρ:Env}{w w0:World}{i B:Nat}{r:List Nat}{l:List (Nat×Obj)}
end
theorem yD.none (T:List (Nat×Obj)):yD T none 0 .nil:=⟨rfl,by omega,.inl rfl⟩
end Go.Proofs.YtbpmjppmpgeejaaDoor
namespace Go.Proofs.YtbpmjppmpgeejaaDoor.D2
open Go Go.RowKit
set_option linter.unusedVariables false
section
variable {P:Program}{N:Nat}{ops:Array Oper}{Q:Exit→Env→World→Prop}{K:Env→World→Prop}{ρ:Env}{w:World}{vs:List (Option Nat×(Gh→Value))}{pre:(Nat→Bool)→(Nat→Gh)→World→Prop}{Bad:List PanicEntry→World→Prop}
end
end Go.Proofs.YtbpmjppmpgeejaaDoor.D2
namespace Go.Proofs.YtbpmjppmpgeejaaDoor
open Go Go.RowKit
set_option linter.unusedVariables false
abbrev xc (x:X3):Array Value:=#[.bool x.l,.string x.s,.slice x.p x.n x.c]
section
variable {P:Program}{ρ:Env}{w w0:World}{B:Nat}{l:List (Nat×Obj)}
end
def RowSt (p:Option Addr)(n c:Nat)(row:List (Nat×Obj))(L:List X3):Prop:=(p=none∧n=0∧c=0∧row=[]∧L=[])∨∃b cur,p=some ⟨b,0,none⟩∧row=[(b,.cells cur 74 (0,0))]∧Rw 3 cur c n (cells3 L)
section
variable {B:Nat}{w0:World}{t:ByteArray}{b2 b3 b4:Nat}{p:Option Addr}{n c:Nat}{row:List (Nat×Obj)}{M:List X3}{L0:List (Nat×Obj)}{L:Nat→Bool}{g:Nat→D2.Gh}{w:World}
end
theorem AllIn.mono {T T':List (Nat×Obj)}{M:List X3}(h:AllIn T M)(hs: ∀e∈T,e∈T'):AllIn T' M:=fun x hx=>⟨(h x hx).1.mono hs,(h x hx).2⟩
theorem AllIn.snoc {T:List (Nat×Obj)}{M:List X3}{x:X3}(h:AllIn T M)(hx:yD T x.p x.n x.k)(hz:x.s.size≤0x800000000000):AllIn T (M++ [x]):=fun y hy=>by
 rcases List.mem_append.1 hy with q|q
 ·exact h y q
 ·obtain rfl:=List.mem_singleton.1 q;exact ⟨hx,hz⟩
structure zgY (t t':ByteArray)(p:Option Addr)(n c:Nat)(row:List (Nat×Obj))(M:List X3)(T:List (Nat×Obj)):Prop where
 row:RowSt p n c row M
 size:n+t'.size≤t.size
 all:tl t=wrF (toFo M)++tl t'
 pur:pureF (toFo M)=true
 inn:AllIn T M
 rest: ∀k,pureF k=true→tl t=wrF k→∃k',pureF k'=true∧tl t'=wrF k'
structure zgZ (ds:List Deferred)(a:Act)(ρ:Env)(N:Nat):Prop where
 defers:a.defers=ds
 rep:Rep { a with defers:=[] } ρ N
section
variable {P:Program}{N:Nat}{ops:Array Oper}{Q:Exit→Env→World→Prop}{K:Env→World→Prop}{ρ:Env}{w:World}{i:Nat}{ds:List Deferred}
variable {c:Code}
end
section
variable {P:Program}{N:Nat}{ops:Array Oper}{ρ:Env}{w w':World}{i:Nat}{ds:List Deferred}{c:Code}{rest:List Nat}{a:Act}{cs:List Frame}
variable {Q:Exit→Act→List Frame→World→Prop}
end
section
variable {P:Program}{N:Nat}{ops:Array Oper}{ρ:Env}{w w':World}{i:Nat}{rest:List Nat}{a:Act}{Q:Exit→Act→World→Prop}
end
section
variable {P:Program}{N:Nat}{ops:Array Oper}{K:Env→World→Prop}{ρ:Env}{w w0:World}{i B:Nat}{r:List Nat}{l:List (Nat×Obj)}
end
theorem jl {l:List Value}(h:l.all (·.oneCell')=true): ∀u∈l,u.oneCell'=true:=fun u hu=>List.all_eq_true.1 h u hu
abbrev Kf:=Fr Nat
def kS:Sh Nat where
 K:=2
 hd g:=[.int .u8 (g:Int)]
 ok _:=True
 mx:=1000
 len _:=rfl
 one _:=jl rfl
abbrev Fe:=Fr (Nat×ByteArray)
def fS:Sh (Nat×ByteArray) where
 K:=3
 hd x:=[.int .u64 ((x.1:Nat):Int),.string x.2]
 ok x:=x.1<0x10000000000000000∧x.2.size≤0x800000000000
 mx:=0x800000000000
 len _:=rfl
 one _:=jl rfl
def zt (g:Nat)(b:Kf)(i:Nat):Nat×Kf:=match b.at (if g=42 then 0 else i) with
 | some x=>x
 | none=>(0,.nil)
def zD (g:Nat):Nat×Nat:=if g=104 then (32,32) else if g=97 then (20,20) else if g=115 then (65,65) else if g=98 then (0,64) else (0,0)
def zH (g n:Nat):Nat×Nat:=if g=40 then (n,n) else if g=42 then (0,40) else (0,0)
def yb (x:Nat×Nat)(n:Nat):Bool:=decide (x.1≤n)&&decide (n≤x.2)
def zv (g bl n sz ln:Nat):Bool:=(decide (n=0)||decide (g=110))&&(yb (zD g) sz&&yb (zH g bl) ln)
def w64 (x:Int):Int:=IntKind.i64.wrap x
def yl:Fe→Nat→Kf→Nat→Int→Int
 | .nil,_,_,_,room=>room
 | .cons x l r,g,b,i,room=>
  if (if zv (zt g b i).1 (zt g b i).2.len x.1 x.2.size l.len=true then yl l (zt g b i).1 (zt g b i).2 0 (w64 (room-1)) else-1)<0
  then (if zv (zt g b i).1 (zt g b i).2.len x.1 x.2.size l.len=true then yl l (zt g b i).1 (zt g b i).2 0 (w64 (room-1)) else-1)
  else yl r g b (i+1) (if zv (zt g b i).1 (zt g b i).2.len x.1 x.2.size l.len=true then yl l (zt g b i).1 (zt g b i).2 0 (w64 (room-1)) else-1)
def zC (g:Nat)(b:Kf)(x:Nat×ByteArray)(l:Fe)(room:Int):Int:=
 if zv g b.len x.1 x.2.size l.len=true then yl l g b 0 (w64 (room-1)) else-1
theorem kK (x:Nat×ByteArray)(l r:Fe)(g:Nat)(b:Kf)(i:Nat)(room:Int):yl (.cons x l r) g b i room=
 if zC (zt g b i).1 (zt g b i).2 x l room<0 then zC (zt g b i).1 (zt g b i).2 x l room else yl r g b (i+1) (zC (zt g b i).1 (zt g b i).2 x l room):=rfl
def yc (g:Nat):Bool:=decide (g=40)||decide (g=42)
def yq (g:Nat)(x:Nat×ByteArray):ByteArray:=if g=110 then zf (dg x.1) else if yc g=true then ⟨#[]⟩ else x.2
def yM:Fe→Nat→Kf→Nat→Fo
 | .nil,_,_,_=>.nil
 | .cons x l r,g,b,i=>.cons (yc (zt g b i).1) (yq (zt g b i).1 x) (if yc (zt g b i).1=true then yM l (zt g b i).1 (zt g b i).2 0 else .nil) (yM r g b (i+1))
def zX (g:Nat)(b:Kf)(l:Fe):Fo:=if yc g=true then yM l g b 0 else .nil
theorem vZ (x:Nat×ByteArray)(l r:Fe)(g:Nat)(b:Kf)(i:Nat):yM (.cons x l r) g b i=.cons (yc (zt g b i).1) (yq (zt g b i).1 x) (zX (zt g b i).1 (zt g b i).2 l) (yM r g b (i+1)):=rfl
theorem Fr.len_zero {α:Type}{k:Fr α}(h:k.len=0):k=.nil:=by
 cases k with
 | nil=>rfl
 | cons a k r=>simp only [Fr.len] at h;omega
theorem jN {s:ByteArray}(h:s.size=0):s=⟨#[]⟩:=by
 obtain ⟨d⟩:=s;have:d=#[]:=Array.eq_empty_of_size_eq_zero h;rw [this]
theorem zbl {g bl n sz ln:Nat}(h:zv g bl n sz ln=true):(n=0∨g=110)∧((zD g).1≤sz∧sz≤(zD g).2)∧(zH g bl).1≤ln∧ln≤(zH g bl).2:=by
 unfold zv yb at h;simp only [Bool.and_eq_true,Bool.or_eq_true,decide_eq_true_eq] at h;exact h
def qa (g:Nat)(b:Kf)(x:Nat×ByteArray)(l:Fe):ByteArray×Nat:=
 if zC g b x l 1001<0 then (⟨#[]⟩,1) else zW (yc g) (yq g x) (zX g b l).len (zX g b l)
def Fr.snoc {α:Type} :Fr α→α→Fr α→Fr α
 | .nil,a,k=>.cons a k .nil
 | .cons a' k' r,a,k=>.cons a' k' (r.snoc a k)
theorem zbm {α:Type}(x:El α): ∀L:List (El α),yj (L++ [x])=(yj L).snoc x.a x.k
 | []=>rfl
 | y::r=>by simp only [List.cons_append,yj,Fr.snoc,zbm x r]
def qG:Nat→Kf→List (Nat×Kf)→List (Nat×Kf)
 | _,_,[]=>[]
 | g,k,(h,m)::r=>if h=42 then qG h (m.snoc g k) r else (h,m.snoc g k)::r
def yU (c:Nat)(st:List (Nat×Kf)):Option (List (Nat×Kf)):=
 if c=110∨c=104∨c=97∨c=115∨c=98 then some (qG c .nil st)
 else if c=40∨c=42 then if st.length=5 then none else some ((c,.nil)::st)
 else if c=41 then match st with
  | []=>none
  | (h,m)::r=>if r.length=0∨h≠40 then none else some (qG h m r)
 else none
def qY:List UInt8→List (Nat×Kf)→Option (List (Nat×Kf))
 | [],st=>some st
 | c::r,st=>match yU c.toNat st with
  | none=>none
  | some st'=>qY r st'
def parseM (form:ByteArray):Option Kf:=
 if 40<form.size then none else match qY (tl form) [(40,.nil)] with
  | some [(_,m)]=>some m
  | _=>none
def qm (c:Nat):Bool:=c==110||(c==104||(c==97||(c==115||c==98)))
theorem zbn {c:Nat} :qm c=true↔c=110∨c=104∨c=97∨c=115∨c=98:=by unfold qm;simp
def kdOk (s:ByteArray):Bool:=(s.size==1&&qm (by_ s 0))||(s.size==2&&(by_ s 0==42&&qm (by_ s 1)))
theorem zeX {s:ByteArray} :kdOk s=true↔(s.size=1∧qm (by_ s 0)=true)∨(s.size=2∧by_ s 0=42∧qm (by_ s 1)=true):=by
 unfold kdOk;simp
def kdB (s:ByteArray):Kf:=if by_ s 0=42 then .cons (by_ s 1) .nil .nil else .nil
def kfL:List ByteArray→Kf
 | []=>.nil
 | s::r=>.cons (by_ s 0) (kdB s) (kfL r)
theorem zbo: ∀ks:List ByteArray,(kfL ks).len=ks.length
 | []=>rfl
 | s::r=>by simp only [kfL,Fr.len,zbo r,List.length_cons]
theorem zbp: ∀(ks:List ByteArray) (i:Nat),(kfL ks).at i=(ks[i]?).map fun s=>(by_ s 0,kdB s)
 | [],i=>by cases i<;>rfl
 | s::r,0=>rfl
 | s::r,i+1=>by simp only [kfL,Fr.at,zbp r i,List.getElem?_cons_succ]
theorem zbq (ks:List ByteArray)(i:Nat):zt 40 (kfL ks) i=match ks[i]? with
 | some s=>(by_ s 0,kdB s)
 | none=>(0,.nil):=by
 unfold zt;rw [if_neg (by decide),zbp];cases ks[i]?<;>rfl
theorem ua (c i:Nat):zt 42 (.cons c .nil .nil) i=(c,.nil):=by
 unfold zt;rw [if_pos rfl];rfl
def Fr.cnt {α:Type} :Fr α→Nat
 | .nil=>0
 | .cons _ k r=>1+k.cnt+r.cnt
def qn (c:Nat):Fe→Bool
 | .nil=>true
 | .cons x l r=>zv c 0 x.1 x.2.size l.len&&qn c r
def qb (s:ByteArray)(x:Nat×ByteArray)(l:Fe):Bool:=zv (by_ s 0) (kdB s).len x.1 x.2.size l.len&&(!(by_ s 0==42)||qn (by_ s 1) l)
def yr:List ByteArray→Fe→Bool
 | [],.nil=>true
 | s::ks,.cons x l r=>qb s x l&&yr ks r
 | [],.cons _ _ _=>false
 | _::_,.nil=>false
theorem ub: ∀ {ks:List ByteArray} {l:Fe},yr ks l=true→l.len=ks.length
 | [],.nil,_=>rfl
 | s::ks,.cons x l r,h=>by
  simp only [yr,Bool.and_eq_true] at h;simp only [Fr.len,List.length_cons,ub h.2]
 | [],.cons _ _ _,h=>nomatch h
 | _::_,.nil,h=>nomatch h
theorem zbr {c:Nat}(hc:qm c=true){n sz ln:Nat}(h:zv c 0 n sz ln=true):ln=0:=by
 have h3:=(zbl h).2.2.2;have:(zH c 0).2=0:=by
  rw [zbn] at hc;unfold zH;rw [if_neg (by omega),if_neg (by omega)]
 omega
theorem zbs {r:Nat}(h:r≤2000):w64 ((r:Int)-1)=(r:Int)-1:=by
 unfold w64;exact wrap_i64 (by omega) (by omega)
def LeR (v:Int)(P:Prop)(n room:Nat):Prop:=(P∧n≤room→v=((room-n:Nat):Int))∧(¬(P∧n≤room)→v<0)
theorem LeR.pos {v:Int}{P:Prop}{n room:Nat}(h:LeR v P n room): ¬v<0↔P∧n≤room:=by
 constructor
 ·intro h1;by_cases h2:P∧n≤room
  ·exact h2
  ·exact absurd (h.2 h2) h1
 ·intro h1 h2;rw [h.1 h1] at h2;omega
theorem LeR.two {x:Nat×ByteArray}{l r:Fe}{g:Nat}{b:Kf}{i:Nat}{room:Nat}{P Q:Prop}(h1:LeR (zC (zt g b i).1 (zt g b i).2 x l room) P (1+l.cnt) room)
 (h2:P→ ∀q:Nat,q≤room→LeR (yl r g b (i+1) q) Q r.cnt q):LeR (yl (.cons x l r) g b i room) (P∧Q) (Fr.cnt (.cons x l r)) room:=by
 rw [kK];have ec:Fr.cnt (Fr.cons x l r)=1+l.cnt+r.cnt:=rfl;rw [ec];by_cases hv:zC (zt g b i).1 (zt g b i).2 x l room<0
 ·rw [if_pos hv];refine ⟨fun h=>?_,fun _=>hv⟩;exact absurd hv (h1.pos.2 ⟨h.1.1,by omega⟩)
 ·rw [if_neg hv];obtain ⟨hP,hn⟩:=h1.pos.1 hv;rw [h1.1 ⟨hP,hn⟩];have h3:=h2 hP (room-(1+l.cnt)) (by omega);refine ⟨fun h=>?_,fun h=>?_⟩
  ·rw [h3.1 ⟨h.1.2,by omega⟩];congr 1;omega
  ·exact h3.2 fun h9=>h ⟨⟨hP,h9.1⟩,by omega⟩
theorem zbt {c:Nat}(hc:qm c=true)(x:Nat×ByteArray)(l:Fe)(room:Nat)(hr:room≤2000):LeR (zC c .nil x l room) (zv c 0 x.1 x.2.size l.len=true) (1+l.cnt) room:=by
 unfold zC;by_cases hf:zv c 0 x.1 x.2.size l.len=true
 ·rw [if_pos (show zv c (Fr.len .nil) x.1 x.2.size l.len=true from hf),zbs hr];obtain rfl:=Fr.len_zero (zbr hc hf);show LeR ((room:Int)-1) _ (1+0) room;exact ⟨fun h=>by omega,fun h=>by have: ¬1+0≤room:=fun h9=>h ⟨hf,h9⟩;omega⟩
 ·rw [if_neg (show ¬zv c (Fr.len .nil) x.1 x.2.size l.len=true from hf)];exact ⟨fun h=>absurd h.1 hf,fun _=>by decide⟩
theorem zbu {c:Nat}(hc:qm c=true): ∀(l:Fe) (i room:Nat),room≤2000→LeR (yl l 42 (.cons c .nil .nil) i room) (qn c l=true) l.cnt room
 | .nil,i,room,_=>⟨fun _=>rfl,fun h=>absurd ⟨rfl,Nat.zero_le _⟩ h⟩
 | .cons x l r,i,room,hr=>by
  have h1:=zbt hc x l room hr;have h2:LeR (zC (zt 42 (.cons c .nil .nil) i).1 (zt 42 (.cons c .nil .nil) i).2 x l room) (zv c 0 x.1 x.2.size l.len=true) (1+l.cnt) room:=by rw [ua];exact h1
  have h3:=LeR.two (r:=r) (Q:=qn c r=true) h2 fun _ q hq=>zbu hc r (i+1) q (by omega);have e:(qn c (.cons x l r)=true)=(zv c 0 x.1 x.2.size l.len=true∧qn c r=true):=by simp only [qn,Bool.and_eq_true]
  rw [e];exact h3
theorem zeY {s:ByteArray}(hs:kdOk s=true)(x:Nat×ByteArray)(l:Fe)(room:Nat)(hr:room≤2000):LeR (zC (by_ s 0) (kdB s) x l room) (qb s x l=true) (1+l.cnt) room:=by
 rcases zeX.1 hs with ⟨h1,h2⟩|⟨h1,h2,h3⟩
 ·have hn: ¬by_ s 0=42:=by rw [zbn] at h2;omega
  have eb:kdB s=.nil:=by unfold kdB;rw [if_neg hn]
  have e:(qb s x l=true)=(zv (by_ s 0) 0 x.1 x.2.size l.len=true):=by
   unfold qb;rw [eb,beq_eq_false_iff_ne.2 hn];simp [Fr.len]
  rw [e,eb];exact zbt h2 x l room hr
 ·have eb:kdB s=.cons (by_ s 1) .nil .nil:=by unfold kdB;rw [if_pos h2]
  have e:(qb s x l=true)=(zv 42 1 x.1 x.2.size l.len=true∧qn (by_ s 1) l=true):=by
   unfold qb;rw [eb,h2];simp [Fr.len]
  rw [e,eb,h2];unfold zC;by_cases hf:zv 42 1 x.1 x.2.size l.len=true
  ·rw [if_pos (show zv 42 (Fr.len (.cons (by_ s 1) .nil .nil)) x.1 x.2.size l.len=true from hf),zbs hr];by_cases h0:room=0
   ·subst h0;refine ⟨fun h=>by omega,fun _=>?_⟩;cases l with
    | nil=>exact (by decide:w64 (-1)<0)
    | cons y k r=>
     have hk:zC (by_ s 1) .nil y k (-1)<0:=by
      unfold zC;by_cases hf2:zv (by_ s 1) 0 y.1 y.2.size k.len=true
      ·rw [if_pos (show zv (by_ s 1) (Fr.len .nil) y.1 y.2.size k.len=true from hf2)];obtain rfl:=Fr.len_zero (zbr h3 hf2);exact (by decide:w64 (-1-1)<0)
      ·rw [if_neg (show ¬zv (by_ s 1) (Fr.len .nil) y.1 y.2.size k.len=true from hf2)];decide
     show yl _ _ _ _ (-1)<0;rw [kK,ua,if_pos hk];exact hk
   ·have h4:=zbu h3 l 0 (room-1) (by omega);rw [show (room:Int)-1=((room-1:Nat):Int) by omega];refine ⟨fun h=>?_,fun h=>h4.2 fun h9=>h ⟨⟨hf,h9.1⟩,by omega⟩⟩;rw [h4.1 ⟨h.1.2,by omega⟩];congr 1;omega
  ·rw [if_neg (show ¬zv 42 (Fr.len (.cons (by_ s 1) .nil .nil)) x.1 x.2.size l.len=true from hf)];exact ⟨fun h=>absurd h.1.1 hf,fun _=>by decide⟩
theorem zbv {ks0:List ByteArray}(h0: ∀s∈ks0,kdOk s=true): ∀(ks:List ByteArray) (l:Fe) (i room:Nat),ks0.drop i=ks→l.len=ks.length→room≤2000→LeR (yl l 40 (kfL ks0) i room) (yr ks l=true) l.cnt room
 | [],.nil,i,room,_,_,_=>⟨fun _=>rfl,fun h=>absurd ⟨rfl,Nat.zero_le _⟩ h⟩
 | [],.cons _ _ _,_,_,_,h,_=>by simp [Fr.len] at h
 | _::_,.nil,_,_,_,h,_=>by simp [Fr.len] at h
 | s::ks,.cons x l r,i,room,hd,hl,hr=>by
  have hi:ks0[i]? =some s:=by
   have:=congrArg (fun L=>L[0]?) hd
   simpa using this
  have h1:LeR (zC (zt 40 (kfL ks0) i).1 (zt 40 (kfL ks0) i).2 x l room) (qb s x l=true) (1+l.cnt) room:=by
   rw [zbq,hi];exact zeY (h0 s (List.mem_of_getElem? hi)) x l room hr
  have h3:=LeR.two (r:=r) (Q:=yr ks r=true) h1 fun _ q hq=>zbv h0 ks r (i+1) q (by rw [←List.drop_drop,hd];rfl) (by simp only [Fr.len,List.length_cons] at hl;omega) (by omega);have e:(yr (s::ks) (.cons x l r)=true)=(qb s x l=true∧yr ks r=true):=by simp only [yr,Bool.and_eq_true]
  rw [e];exact h3
theorem zbw {ks:List ByteArray}(h0: ∀s∈ks,kdOk s=true)(l:Fe): ¬zC 40 (kfL ks) (0,⟨#[]⟩) l 1001<0↔yr ks l=true∧l.cnt≤1000:=by
 unfold zC;have ef:zv 40 (kfL ks).len 0 (ByteArray.size ⟨#[]⟩) l.len=decide (l.len=ks.length):=by
  rw [zbo];unfold zv yb zD zH;simp only [decide_eq_decide];rw [Bool.eq_iff_iff];simp only [Bool.and_eq_true,Bool.or_eq_true,decide_eq_true_eq];simp;constructor
  ·rintro ⟨_,h⟩;omega
  ·intro h;exact ⟨rfl,by omega⟩
 by_cases hl:l.len=ks.length
 ·rw [if_pos (show zv 40 (kfL ks).len (0,(⟨#[]⟩:ByteArray)).1 (ByteArray.size (0,(⟨#[]⟩:ByteArray)).2) l.len=true by exact ef.trans (decide_eq_true hl))];rw [show w64 (1001-1)=((1000:Nat):Int) by decide];exact (zbv h0 ks l 0 1000 rfl hl (by decide)).pos
 ·rw [if_neg (show ¬zv 40 (kfL ks).len (0,(⟨#[]⟩:ByteArray)).1 (ByteArray.size (0,(⟨#[]⟩:ByteArray)).2) l.len=true by
   intro h;exact hl (of_decide_eq_true (ef.symm.trans h)))]
  exact ⟨fun h=>absurd (by decide) h,fun h=>absurd (ub h.1) hl⟩
def nxK (form:ByteArray)(i:Nat):Nat:=if by_ form i=42 then i+2 else i+1
def ksM (form:ByteArray):Nat→Nat→List ByteArray
 | 0,_=>[]
 | f+1,i=>if i<form.size then form.extract i (nxK form i)::ksM form f (nxK form i) else []
def okK (form:ByteArray):Nat→Nat→Bool
 | 0,i=>decide (form.size≤i)
 | f+1,i=>decide (form.size≤i)||((qm (by_ form i)||(by_ form i==42&&(decide (i+1<form.size)&&qm (by_ form (i+1)))))&&okK form f (nxK form i))
structure uc (form:ByteArray)(ks:List ByteArray):Prop where
 size:form.size≤40
 ok:okK form 41 0=true
 cut:ksM form 41 0=ks
 parse:parseM form=some (kfL ks)
 kd: ∀s∈ks,kdOk s=true
end Go.Proofs.YtbpmjppmpgeejaaDoor
namespace Go.Proofs.YtbpmjppmpgeejaaDoor
open Go Go.RowKit
open D2 (Gh)
set_option linter.unusedVariables false
abbrev emB:ByteArray:=⟨#[]⟩
end Go.Proofs.YtbpmjppmpgeejaaDoor
namespace Go.Proofs.YtbpmjppmpgeejaaDoor
open Go Go.RowKit
set_option linter.unusedVariables false
abbrev knd (g:Nat)(p:Option Addr)(n c:Nat):Value:=.agg #[.int .u8 (g:Int),.slice p n c]
abbrev fld (m:Nat)(s:ByteArray)(p:Option Addr)(n c:Nat):Value:=.agg #[.int .u64 (m:Int),.string s,.slice p n c]
theorem ys {P:Program}{ρ:Env}{t e:TypeId}{K bytes:Nat}(ht:yi P t=some (e,K,bytes)){x y:Operand}{o:Oper}{kd:IntKind}{p:Option Addr}(b q n c k:Nat)(hp:p=some ⟨b,q,none⟩)(ho:o.op=.indexAddr t x y)(hx:ev ρ x=.slice p n c)(hy:ev ρ y=.int kd (k:Int))(hk:k<n):
 ∀w,(execOp (ev ρ) o).run P w=.ok (.value (.pointer (some ⟨b,q+k*K,none⟩))) w:=by
 subst hp;exact xZ ht b q n c k ho hx hy hk
def qZ (B:Nat)(w:World)(g:Nat)(p:Option Addr)(n i g':Nat)(p':Option Addr)(n' c':Nat):Prop:=
 (n≤(if g=42 then 0 else i)∧g'=0∧p'=none∧n'=0∧c'=0)∨
 ((if g=42 then 0 else i)<n∧∃b off C T fz,p=some ⟨b,off,none⟩∧b<B∧w.heap[b]? =some (.cells C T fz)∧off+(if g=42 then 0 else i)*2+2≤C.size∧C.extract (off+(if g=42 then 0 else i)*2) (off+(if g=42 then 0 else i)*2+2)=#[.int .u8 (g':Int),.slice p' n' c'])
theorem qZ.up {B B':Nat}{w w':World}{g:Nat}{p:Option Addr}{n i g':Nat}{p':Option Addr}{n' c':Nat}(h:qZ B w g p n i g' p' n' c')(hb:Below B w w')(hB:B≤B'):qZ B' w' g p n i g' p' n' c':=by
 rcases h with h|⟨h0,b,off,C,T,fz,h1,h2,h3,h4⟩
 ·exact .inl h
 ·exact .inr ⟨h0,b,off,C,T,fz,h1,Nat.lt_of_lt_of_le h2 hB,by rw [hb.block b h2];exact h3,h4⟩
theorem SlR.kid {B:Nat}{w:World}{p:Option Addr}{n:Nat}{k:Kf}(h:SlR kS B w p n k)(g i:Nat):∃g' p' n' c',qZ B w g p n i g' p' n' c'∧SlR kS B w p' n' (zt g k i).2∧g'=(zt g k i).1:=by
 unfold zt qZ;generalize (if g=42 then 0 else i)=j;rcases Nat.lt_or_ge j n with hj | hj
 ·obtain ⟨a,q,ha⟩:=Fr.at_some (k:=k) (i:=j) (by rw [←h.1];exact hj);rcases h.2.2 with rfl|⟨b,off,rfl,hA⟩
  ·simp [Fr.at] at ha
  ·obtain ⟨C,T,fz,p',n',c',h1,h2,h3,h4,h5,h6⟩:=hA.at ha;rw [ha];exact ⟨a,p',n',c',.inr ⟨hj,b,off,C,T,fz,rfl,h1,h2,h3,h4⟩,h6,rfl⟩
 ·rw [Fr.at_none (by rw [←h.1];exact hj)];exact ⟨0,none,0,0,.inl ⟨hj,rfl,rfl,rfl,rfl⟩,SlR.nil _ _ _,rfl⟩
theorem zbx (g:Nat)(p:Option Addr)(n c i g':Nat)(p':Option Addr)(n' c':Nat):FnP Tryd.prog 47 #[knd g p n c,.int .i64 (i:Int)] (fun w=>qZ w.heap.size w g p n i g' p' n' c') (knd g' p' n' c'):=by
 refine FnP.intro (c:=zi Tryd.f47) [.cell 4 51] 19 Tryd.func47 kr kr kr fun w hpre=>?_;have H0:=St.start w;refine rS [.b,.a] H0 kr fun gs1 w1 H1=>?_;clear H0;unfold qZ at hpre;by_cases hg:g=42
 ·rw [if_pos hg] at hpre;refine zd kr<|rS [.v,.l 0,.E (.bool ((g:Int)==42)) (.bool true) (za (beq_iff_eq.2 (by omega)))] H1 kr fun gs2 w2 H2=>?_;clear H1;refine zj kr kr<|rL [.v] H2 kr fun gs3 w3 H3=>wW ?_;rcases hpre with ⟨hj,rfl,rfl,rfl,rfl⟩ | ⟨hj,b,off,C,T,fz,hp,hb,hh,hz,hx⟩
  ·refine zd kr<|rS [.v,.v,.l 0,.v,.E (.bool (decide ((n:Int)≤((0:Nat):Int)))) (.bool true) (za (decide_eq_true (by omega)))] H3 kr fun gs4 w4 H4=>zj kr kr<|rS [.v,.s 1] H4 kr fun gs5 w5 H5=>?_;exact rR [.cell 4 51] [1] (knd 0 none 0 0) H5 kr
  ·refine zd kr<|rS [.v,.v,.l 0,.v,.E (.bool (decide ((n:Int)≤((0:Nat):Int)))) (.bool false) (za (decide_eq_false (by omega)))] H3 kr fun gs4 w4 H4=>zm kr kr<|zo kr<|wW<|rS [.v,.l 0,.v,.o (ins:=[((.tmp 15),.slice p n c),((.tmp 16),.int .i64 ((0:Nat):Int))]) (v:=.pointer (some ⟨b,off+0*2,none⟩)) (fun ρ o w ho hi=>ys (kd:=.i64) (t:=49) (e:=51) (K:=2) (bytes:=32) kr (x:=(.tmp 15)) (y:=(.tmp 16)) b off n c 0 hp ho hi.1 hi.2.1 (by omega) w),.fp (off:=off+0*2) (n:=2) (W:=#[.int .u8 (g':Int),.slice p' n' c']) hh hb hz hx,.s 1] H4 kr fun gs5 w5 H5=>?_;exact rR [.cell 4 51] [1] (knd g' p' n' c') H5 kr
 ·rw [if_neg hg] at hpre;refine zd kr<|rS [.v,.l 0,.E (.bool ((g:Int)==42)) (.bool false) (za (beq_eq_false_iff_ne.2 (by omega)))] H1 kr fun gs2 w2 H2=>?_;clear H1;refine zm kr kr<|zo kr ?_;have H3:=H2;refine wW ?_;rcases hpre with ⟨hj,rfl,rfl,rfl,rfl⟩ | ⟨hj,b,off,C,T,fz,hp,hb,hh,hz,hx⟩
  ·refine zd kr<|rS [.v,.v,.l 0,.v,.E (.bool (decide ((n:Int)≤(i:Int)))) (.bool true) (za (decide_eq_true (by omega)))] H3 kr fun gs4 w4 H4=>zj kr kr<|rS [.v,.s 1] H4 kr fun gs5 w5 H5=>?_;exact rR [.cell 4 51] [1] (knd 0 none 0 0) H5 kr
  ·refine zd kr<|rS [.v,.v,.l 0,.v,.E (.bool (decide ((n:Int)≤(i:Int)))) (.bool false) (za (decide_eq_false (by omega)))] H3 kr fun gs4 w4 H4=>zm kr kr<|zo kr<|wW<|rS [.v,.l 0,.v,.o (ins:=[((.tmp 15),.slice p n c),((.tmp 16),.int .i64 (i:Int))]) (v:=.pointer (some ⟨b,off+i*2,none⟩)) (fun ρ o w ho hi=>ys (kd:=.i64) (t:=49) (e:=51) (K:=2) (bytes:=32) kr (x:=(.tmp 15)) (y:=(.tmp 16)) b off n c i hp ho hi.1 hi.2.1 (by omega) w),.fp (off:=off+i*2) (n:=2) (W:=#[.int .u8 (g':Int),.slice p' n' c']) hh hb hz hx,.s 1] H4 kr fun gs5 w5 H5=>?_;exact rR [.cell 4 51] [1] (knd g' p' n' c') H5 kr
theorem zby (a b n:Nat):Fn Tryd.prog 60 #[.agg #[.int .i64 (a:Int),.int .i64 (b:Int)],.int .i64 (n:Int)] (.bool (yb (a,b) n)):=by
 refine Fn.intro (c:=zi Tryd.f60) [.tmp 4] 15 Tryd.func60 kr kr kr fun w=>?_;have H0:=St.start w;refine rS [.b,.v] H0 kr fun gs1 w1 H1=>?_;clear H0;by_cases h1:a≤n
 ·by_cases h2:n≤b
  ·refine rS [.v,.l 0,.v,.E (.bool (decide ((a:Int)≤(n:Int)))) (.bool true) (za (decide_eq_true (by omega))),.v,.v,.v,.l 0,.E (.bool (decide ((n:Int)≤(b:Int)))) (.bool true) (za (decide_eq_true (by omega))),.v,.v] H1 kr fun gs2 w2 H2=>?_;exact rRe [.tmp 4] [] (v:=.bool true) (v':=.bool (yb (a,b) n)) H2 (za (by unfold yb;simp [h1,h2])) kr
  ·refine rS [.v,.l 0,.v,.E (.bool (decide ((a:Int)≤(n:Int)))) (.bool true) (za (decide_eq_true (by omega))),.v,.v,.v,.l 0,.E (.bool (decide ((n:Int)≤(b:Int)))) (.bool false) (za (decide_eq_false (by omega))),.v,.v] H1 kr fun gs2 w2 H2=>?_;exact rRe [.tmp 4] [] (v:=.bool false) (v':=.bool (yb (a,b) n)) H2 (za (by unfold yb;simp [h1,h2])) kr
 ·refine rS [.v,.l 0,.v,.E (.bool (decide ((a:Int)≤(n:Int)))) (.bool false) (za (decide_eq_false (by omega))),.v,.n,.n,.n,.n,.v,.v] H1 kr fun gs2 w2 H2=>?_;exact rRe [.tmp 4] [] (v:=.bool false) (v':=.bool (yb (a,b) n)) H2 (za (by unfold yb;simp [h1])) kr
theorem kL (g:Nat)(p:Option Addr)(n c:Nat):Fn Tryd.prog 59 #[knd g p n c] (.agg #[.int .i64 (((zD g).1:Nat):Int),.int .i64 (((zD g).2:Nat):Int)]):=by
 refine Fn.intro (c:=zi Tryd.f59) [.cell 2 103] 18 Tryd.func59 kr kr kr fun w=>?_;have H0:=St.start w;refine rS [.b,.a] H0 kr fun gs1 w1 H1=>?_;clear H0;refine rS [.v,.l 0] H1 kr fun gs2 w2 H2=>?_;clear H1;refine zw 0 kr ?_;by_cases h104:g=104
 ·refine rS [.E (.bool ((g:Int)==104)) (.bool true) (za (beq_iff_eq.2 (by omega))),.v] H2 kr fun gsa104 wa104 Ha104=>zj kr kr<|rS [.v,.s 1] Ha104 kr fun gsb104 wb104 Hb104=>?_;exact rRe [.cell 2 103] [1] (v:=.agg #[.int .i64 32,.int .i64 32]) (v':=.agg #[.int .i64 (((zD g).1:Nat):Int),.int .i64 (((zD g).2:Nat):Int)]) Hb104 (by unfold zD;simp [h104]) kr
 ·refine rS [.E (.bool ((g:Int)==104)) (.bool false) (za (beq_eq_false_iff_ne.2 (by omega))),.v] H2 kr fun gsc104 wc104 Hc104=>zm kr kr ?_;by_cases h97:g=97
  ·refine rS [.E (.bool ((g:Int)==97)) (.bool true) (za (beq_iff_eq.2 (by omega))),.v] Hc104 kr fun gsa97 wa97 Ha97=>zj kr kr<|rS [.v,.s 1] Ha97 kr fun gsb97 wb97 Hb97=>?_;exact rRe [.cell 2 103] [1] (v:=.agg #[.int .i64 20,.int .i64 20]) (v':=.agg #[.int .i64 (((zD g).1:Nat):Int),.int .i64 (((zD g).2:Nat):Int)]) Hb97 (by unfold zD;simp [h97]) kr
  ·refine rS [.E (.bool ((g:Int)==97)) (.bool false) (za (beq_eq_false_iff_ne.2 (by omega))),.v] Hc104 kr fun gsc97 wc97 Hc97=>zm kr kr ?_;by_cases h115:g=115
   ·refine rS [.E (.bool ((g:Int)==115)) (.bool true) (za (beq_iff_eq.2 (by omega))),.v] Hc97 kr fun gsa115 wa115 Ha115=>zj kr kr<|rS [.v,.s 1] Ha115 kr fun gsb115 wb115 Hb115=>?_;exact rRe [.cell 2 103] [1] (v:=.agg #[.int .i64 65,.int .i64 65]) (v':=.agg #[.int .i64 (((zD g).1:Nat):Int),.int .i64 (((zD g).2:Nat):Int)]) Hb115 (by unfold zD;simp [h115]) kr
   ·refine rS [.E (.bool ((g:Int)==115)) (.bool false) (za (beq_eq_false_iff_ne.2 (by omega))),.v] Hc97 kr fun gsc115 wc115 Hc115=>zm kr kr ?_;by_cases h98:g=98
    ·refine rS [.E (.bool ((g:Int)==98)) (.bool true) (za (beq_iff_eq.2 (by omega))),.v] Hc115 kr fun gsa98 wa98 Ha98=>zj kr kr<|rS [.v,.s 1] Ha98 kr fun gsb98 wb98 Hb98=>?_;exact rRe [.cell 2 103] [1] (v:=.agg #[.int .i64 0,.int .i64 64]) (v':=.agg #[.int .i64 (((zD g).1:Nat):Int),.int .i64 (((zD g).2:Nat):Int)]) Hb98 (by unfold zD;simp [h98]) kr
    ·refine rS [.E (.bool ((g:Int)==98)) (.bool false) (za (beq_eq_false_iff_ne.2 (by omega))),.v] Hc115 kr fun gsc98 wc98 Hc98=>zm kr kr<|rS [.v,.s 1] Hc98 kr fun gsz wz Hz=>?_;exact rRe [.cell 2 103] [1] (v:=.agg #[.int .i64 0,.int .i64 0]) (v':=.agg #[.int .i64 (((zD g).1:Nat):Int),.int .i64 (((zD g).2:Nat):Int)]) Hz (by unfold zD;simp [h104,h97,h115,h98]) kr
theorem zbz (g:Nat)(p:Option Addr)(n c:Nat):Fn Tryd.prog 61 #[knd g p n c] (.agg #[.int .i64 (((zH g n).1:Nat):Int),.int .i64 (((zH g n).2:Nat):Int)]):=by
 refine Fn.intro (c:=zi Tryd.f61) [.cell 2 103] 18 Tryd.func61 kr kr kr fun w=>?_;have H0:=St.start w;refine rS [.b,.a] H0 kr fun gs1 w1 H1=>?_;clear H0;refine rS [.v,.l 0] H1 kr fun gs2 w2 H2=>?_;clear H1;refine zw 0 kr ?_;by_cases h40:g=40
 ·refine rS [.E (.bool ((g:Int)==40)) (.bool true) (za (beq_iff_eq.2 (by omega))),.v] H2 kr fun gsa40 wa40 Ha40=>zj kr kr<|rS [.v,.l 0,.v,.v,.l 0,.v,.v,.s 1] Ha40 kr fun gsb40 wb40 Hb40=>?_;exact rRe [.cell 2 103] [1] (v:=.agg #[.int .i64 (n:Int),.int .i64 (n:Int)]) (v':=.agg #[.int .i64 (((zH g n).1:Nat):Int),.int .i64 (((zH g n).2:Nat):Int)]) Hb40 (by unfold zH;simp [h40]) kr
 ·refine rS [.E (.bool ((g:Int)==40)) (.bool false) (za (beq_eq_false_iff_ne.2 (by omega))),.v] H2 kr fun gsc40 wc40 Hc40=>zm kr kr ?_;by_cases h42:g=42
  ·refine rS [.E (.bool ((g:Int)==42)) (.bool true) (za (beq_iff_eq.2 (by omega))),.v] Hc40 kr fun gsa42 wa42 Ha42=>zj kr kr<|rS [.v,.s 1] Ha42 kr fun gsb42 wb42 Hb42=>?_;exact rRe [.cell 2 103] [1] (v:=.agg #[.int .i64 0,.int .i64 40]) (v':=.agg #[.int .i64 (((zH g n).1:Nat):Int),.int .i64 (((zH g n).2:Nat):Int)]) Hb42 (by unfold zH;simp [h42]) kr
  ·refine rS [.E (.bool ((g:Int)==42)) (.bool false) (za (beq_eq_false_iff_ne.2 (by omega))),.v] Hc40 kr fun gsc42 wc42 Hc42=>zm kr kr<|rS [.v,.s 1] Hc42 kr fun gsz wz Hz=>?_;exact rRe [.cell 2 103] [1] (v:=.agg #[.int .i64 0,.int .i64 0]) (v':=.agg #[.int .i64 (((zH g n).1:Nat):Int),.int .i64 (((zH g n).2:Nat):Int)]) Hz (by unfold zH;simp [h40,h42]) kr
theorem zbA (g:Nat)(p:Option Addr)(n c m:Nat)(s:ByteArray)(p2:Option Addr)(n2 c2:Nat):Fn Tryd.prog 46 #[knd g p n c,fld m s p2 n2 c2] (.bool (zv g n m s.size n2)):=by
 refine Fn.intro (c:=zi Tryd.f46) [.tmp 4] 29 Tryd.func46 kr kr kr fun w=>?_;have H0:=St.start w;refine rS [.b,.b,.v] H0 kr fun gs1 w1 H1=>?_;clear H0;have hv:zv g n m s.size n2=((decide (m=0)||decide (g=110))&&(yb (zD g) s.size&&yb (zH g n) n2)):=rfl;obtain ⟨x1,hx1⟩:∃x,yb (zD g) s.size=x:=⟨_,rfl⟩
 obtain ⟨x2,hx2⟩:∃x,yb (zH g n) n2=x:=⟨_,rfl⟩
 have c1:Fn Tryd.prog 60 #[.agg #[.int .i64 (((zD g).1:Nat):Int),.int .i64 (((zD g).2:Nat):Int)],.int .i64 (s.size:Int)] (.bool x1):=hx1▸zby _ _ _;have c2:Fn Tryd.prog 60 #[.agg #[.int .i64 (((zH g n).1:Nat):Int),.int .i64 (((zH g n).2:Nat):Int)],.int .i64 (n2:Int)] (.bool x2):=hx2▸zby _ _ _;rw [hx1,hx2] at hv;rw [hv];clear hv hx1 hx2;by_cases hm:m=0
 ·skip;cases x1 with
  | true=>
   refine dS [.v,.l 1,.E (.bool ((m:Int)==0)) (.bool true) (za (beq_iff_eq.2 (by omega))),.v,.n,.n,.n,.v,.v,.l 0,.c (kL g p n c),.v,.l 1,.v,.c c1,.v,.v,.l 0,.c (zbz g p n c),.v,.l 1,.v,.c c2,.v,.v] H1 kr fun w2 H2=>?_;exact rRe [.tmp 4] [] (v:=.bool x2) (v':=.bool ((decide (m=0)||decide (g=110))&&(true&&x2))) H2 (za (by simp [hm])) kr
  | false=>
   refine dS [.v,.l 1,.E (.bool ((m:Int)==0)) (.bool true) (za (beq_iff_eq.2 (by omega))),.v,.n,.n,.n,.v,.v,.l 0,.c (kL g p n c),.v,.l 1,.v,.c c1,.v,.v,.n,.n,.n,.n,.n,.n,.v,.v] H1 kr fun w2 H2=>?_;exact rRe [.tmp 4] [] (v:=.bool false) (v':=.bool ((decide (m=0)||decide (g=110))&&(false&&x2))) H2 (za (by simp [hm])) kr
 ·by_cases hg:g=110
  ·skip;cases x1 with
   | true=>
    refine dS [.v,.l 1,.E (.bool ((m:Int)==0)) (.bool false) (za (beq_eq_false_iff_ne.2 (by omega))),.v,.v,.l 0,.E (.bool ((g:Int)==110)) (.bool true) (za (beq_iff_eq.2 (by omega))),.v,.v,.l 0,.c (kL g p n c),.v,.l 1,.v,.c c1,.v,.v,.l 0,.c (zbz g p n c),.v,.l 1,.v,.c c2,.v,.v] H1 kr fun w2 H2=>?_;exact rRe [.tmp 4] [] (v:=.bool x2) (v':=.bool ((decide (m=0)||decide (g=110))&&(true&&x2))) H2 (za (by simp [hm,hg])) kr
   | false=>
    refine dS [.v,.l 1,.E (.bool ((m:Int)==0)) (.bool false) (za (beq_eq_false_iff_ne.2 (by omega))),.v,.v,.l 0,.E (.bool ((g:Int)==110)) (.bool true) (za (beq_iff_eq.2 (by omega))),.v,.v,.l 0,.c (kL g p n c),.v,.l 1,.v,.c c1,.v,.v,.n,.n,.n,.n,.n,.n,.v,.v] H1 kr fun w2 H2=>?_;exact rRe [.tmp 4] [] (v:=.bool false) (v':=.bool ((decide (m=0)||decide (g=110))&&(false&&x2))) H2 (za (by simp [hm,hg])) kr
  ·refine dS [.v,.l 1,.E (.bool ((m:Int)==0)) (.bool false) (za (beq_eq_false_iff_ne.2 (by omega))),.v,.v,.l 0,.E (.bool ((g:Int)==110)) (.bool false) (za (beq_eq_false_iff_ne.2 (by omega))),.v,.v,.n,.n,.n,.n,.n,.n,.v,.v,.n,.n,.n,.n,.n,.n,.v,.v] H1 kr fun w2 H2=>?_;exact rRe [.tmp 4] [] (v:=.bool false) (v':=.bool ((decide (m=0)||decide (g=110))&&(x1&&x2))) H2 (za (by simp [hm,hg])) kr
def Fr.sub {α:Type}(p:Fr α→Prop):Fr α→Prop
 | .nil=>True
 | .cons a k r=>p k∧r.sub p
theorem Fr.induct {α:Type}{p:Fr α→Prop}(h: ∀l:Fr α,l.sub p→p l): ∀l:Fr α,p l∧l.sub p
 | .nil=>⟨h .nil trivial,trivial⟩
 | .cons a k r=>⟨h _ ⟨(Fr.induct h k).1,(Fr.induct h r).2⟩,(Fr.induct h k).1,(Fr.induct h r).2⟩
def kM (l:Fe):Prop:= ∀(g:Nat) (p:Option Addr) (n c:Nat) (b:Kf) (m:Nat) (s:ByteArray) (p2:Option Addr) (n2 c2:Nat) (room:Int),
 FnP Tryd.prog 35 #[knd g p n c,fld m s p2 n2 c2,.int .i64 room] (fun w=>SlR kS w.heap.size w p n b∧SlR fS w.heap.size w p2 n2 l) (.int .i64 (zC g b (m,s) l room))
theorem zeZ (l:Fe)(hs:l.sub kM):kM l:=by
 intro g p n c b m s p2 n2 c2 room;refine FnP.intro (c:=zi Tryd.f35) [.tmp 6] 34 Tryd.func35 kr kr kr fun w hpre=>?_;have H0:=St.start w;obtain ⟨hK,hF⟩:=hpre;have hn2:=hF.1;have hnm:n2≤0x800000000000:=hF.2.1;unfold zC;rw [←hK.1,←hF.1];refine rS [.b,.b,.v] H0 kr fun gs1 w1 H1=>?_;clear H0;refine zd kr ?_;cases hf:zv g n m s.size n2 with
 | false=>
  rw [if_neg (by decide)];refine rS [.l 0,.l 1,.c (zbA g p n c m s p2 n2 c2),.E (.bool (!(zv g n m s.size n2))) (.bool true) (za (by rw [hf];rfl))] H1 kr fun gs2 w2 H2=>zj kr kr<|rS [.v] H2 kr fun gs3 w3 H3=>?_;exact rR [.tmp 6] [] (.int .i64 (-1)) H3 kr
 | true=>
  rw [if_pos rfl];refine rS [.l 0,.l 1,.c (zbA g p n c m s p2 n2 c2),.E (.bool (!(zv g n m s.size n2))) (.bool false) (za (by rw [hf];rfl))] H1 kr fun gs2 w2 H2=>zm kr kr<|zo kr<|wW<|rS [.v,.E (.int .i64 (IntKind.i64.wrap (room-1))) (.int .i64 (w64 (room-1))) rfl,.v] H2 kr fun gs3 w3 H3=>zd kr<|rS [.v,.l 1,.v,.v] H3 kr fun gs4 w4 H4=>zw 0 kr ?_;have H5:St w.heap.size w w4 [((gs1 0).b,.cells #[.int .u8 (g:Int),.slice p n c] 51 (0,0)),((gs1 1).b,.cells #[.int .u64 (m:Int),.string s,.slice p2 n2 c2] 39 (0,0))]:=H4.as kr;clear H1 H2 H3 H4;refine yz kr (fun mz ρ ww=> ∃(i:Nat) (r:Fe) (v:Int),n2-i=mz∧FrR fS w.heap.size w p2 i r∧i+r.len=n2∧r.sub kM∧yl l g b 0 (w64 (room-1))=yl r g b i v∧St w.heap.size w ww [((gs1 0).b,.cells #[.int .u8 (g:Int),.slice p n c] 51 (0,0)),((gs1 1).b,.cells #[.int .u64 (m:Int),.string s,.slice p2 n2 c2] 39 (0,0))]∧Is [(2,.int .i64 v),(3,.pointer (some ⟨(gs1 0).b,0,none⟩)),(16,.slice p2 n2 c2),(17,.int .i64 (n2:Int)),(18,.int .i64 (i:Int))] ρ) (n2-0) ⟨0,l,_,rfl,hF.start,by omega,hs,rfl,H5,(Is.of ⟨kr,kr,kr,kr,kr,trivial⟩)⟩ ?_;clear H5;rintro _ _ w5 ⟨i,r,v,rfl,hR,hN,hsub,hv,H6,_,rfl⟩;by_cases hi:i<n2
  ·refine rS [.E (.bool (decide ((i:Int)<(n2:Int)))) (.bool true) (za (decide_eq_true (by omega)))] H6 kr fun gs5 w6 H7=>?_;clear H6;refine zd kr<|zj kr kr<|zo kr<|wW<|zd kr<|zw 1 kr ?_;obtain ⟨⟨m1,s1⟩,k1,r1,b1,off1,C1,T1,fz1,p1,n1,c1,hr1,hp1,hb1,hh1,hs1,hx1,hz1,hk1,hR1,hN1⟩:=FrR.open hR hN hi;obtain ⟨g',p',n',c',hK1,hK2,hg'⟩:=hK.kid g i;subst hr1;refine rS [.v,.o (ins:=[((.tmp 16),.slice p2 n2 c2),((.tmp 18),.int .i64 (i:Int))]) (v:=.pointer (some ⟨b1,off1+i*3,none⟩)) (fun ρ o w ho hi2=>ys (kd:=.i64) (t:=37) (e:=39) (K:=3) (bytes:=48) kr (x:=(.tmp 16)) (y:=(.tmp 18)) b1 off1 n2 c2 i hp1 ho hi2.1 hi2.2.1 (by omega) w),.fp (off:=off1+i*3) (n:=3) (W:=#[.int .u64 (m1:Int),.string s1,.slice p1 n1 c1]) hh1 hb1 hs1 hx1,.a,.v,.s 2] H7 kr fun gs6 w7 H8=>?_;clear H7;refine dS [.l 0,.v,.cp (pre:=fun w=>qZ w.heap.size w g p n i g' p' n' c') (zbx g p n c i g' p' n' c') [] (fun w hb hd=>hK1.up hb hb.size),.l 2,.v,.cp (pre:=fun w=>SlR kS w.heap.size w p' n' (zt g b i).2∧SlR fS w.heap.size w p1 n1 k1) (hsub.1 g' p' n' c' (zt g b i).2 m1 s1 p1 n1 c1 v) [] (fun w hb hd=>⟨hK2.call hb,hk1.call hb⟩),.v] H8 kr fun w8 H9=>?_;clear H8;rw [kK,←hg'] at hv;by_cases hv0:zC g' (zt g b i).2 (m1,s1) k1 v<0
   ·rw [if_pos hv0] at hv;refine rS [.v,.E (.bool (decide (zC g' (zt g b i).2 (m1,s1) k1 v<0))) (.bool true) (za (decide_eq_true hv0))] H9 kr fun gs7 w9 H10=>zj kr kr<|rS [.v,.v] H10 kr fun gs8 w10 H11=>?_;exact rRe [.tmp 6] [] (v:=.int .i64 (zC g' (zt g b i).2 (m1,s1) k1 v)) (v':=.int .i64 (yl l g b 0 (w64 (room-1)))) H11 (zp hv.symm) kr
   ·rw [if_neg hv0] at hv;refine rS [.v,.E (.bool (decide (zC g' (zt g b i).2 (m1,s1) k1 v<0))) (.bool false) (za (decide_eq_false hv0))] H9 kr fun gs7 w9 H10=>zm kr kr<|zo kr<|wW<|rL [.E (.int .i64 (IntKind.i64.wrap ((i:Int)+1))) (.int .i64 ((i+1:Nat):Int)) (zp (yA (a:=i) (b:=1) (by omega))),.v] H10 kr fun gs8 w10 H11=>?_;have H12:St w.heap.size w w10 [((gs1 0).b,.cells #[.int .u8 (g:Int),.slice p n c] 51 (0,0)),((gs1 1).b,.cells #[.int .u64 ((m:Nat):Int),.string s,.slice p2 n2 c2] 39 (0,0)),((gs6 3).b,.cells #[.int .u64 (m1:Int),.string s1,.slice p1 n1 c1] 39 (0,0))]:=H11.as kr;show ∃m,_∧_;exact ⟨_,(by omega),i+1,r1,_,rfl,hR1,hN1,hsub.2,hv,H12.sub (List.Sublist.cons_cons _ (List.Sublist.cons_cons _ (List.nil_sublist _))),(Is.of ⟨kr,kr,kr,kr,kr,trivial⟩)⟩
  ·obtain rfl:=FrR.done hN hi;refine rS [.E (.bool (decide ((i:Int)<(n2:Int)))) (.bool false) (za (decide_eq_false (by omega)))] H6 kr fun gs5 w6 H7=>zd kr<|zm kr kr<|yg 0 kr<|wW<|rS [.v,.v] H7 kr fun gs6 w7 H8=>?_;exact rRe [.tmp 6] [] (v:=.int .i64 v) (v':=.int .i64 (yl l g b 0 (w64 (room-1)))) H8 (zp hv.symm) kr
theorem zbB (l:Fe):kM l:=(Fr.induct zeZ l).1
structure qH (C:Array Value)(n i:Nat)(M:List X3):Prop where
 sz:C.size=n*3
 len:M.length=i
 take:C.toList.take (i*3)=cells3 M
theorem qH.start {C:Array Value}{n:Nat}(h:C.size=n*3):qH C n 0 []:=⟨h,rfl,by simp [cells3]⟩
theorem qH.put {C:Array Value}{n i:Nat}{M:List X3}(h:qH C n i M)(x:X3)(hi:i<n):
 0+i*3+(Value.agg (xc x)).cells.size≤C.size∧qH (C.toList.take (0+i*3)++(Value.agg (xc x)).cells.toList++C.toList.drop (0+i*3+(Value.agg (xc x)).cells.size)).toArray n (i+1) (M++ [x]):=by
 have hc:(Value.agg (xc x)).cells=xc x:=rfl;have h3:(xc x).size=3:=rfl;have hl3:(xc x).toList.length=3:=rfl;have hsz:=h.sz;rw [hc,h3,Nat.zero_add];have hle:i*3+3≤C.size:=by omega
 refine ⟨hle,?_,by rw [List.length_append,h.len];rfl,?_⟩
 ·simp only [List.size_toArray,List.length_append,List.length_take,List.length_drop,Array.length_toList,hl3];omega
 ·have e1:(C.toList.take (i*3)).length=i*3:=by rw [List.length_take,Array.length_toList];omega
  have e2:(C.toList.take (i*3)).take (i*3+3)=C.toList.take (i*3):=List.take_of_length_le (by omega);have e3:(xc x).toList.take 3=(xc x).toList:=rfl;rw [show (i+1)*3=i*3+3 by omega,List.toList_toArray,List.append_assoc,List.take_append,e1,e2,Nat.add_sub_cancel_left,List.take_append,hl3,Nat.sub_self,List.take_zero,List.append_nil,e3,zbg,h.take];rfl
theorem qH.done {C:Array Value}{n:Nat}{M:List X3}(h:qH C n n M)(hm:n≤maxLen):Rw 3 C n n (cells3 M):=⟨by rw [jk,h.len],Nat.le_refl _,hm,h.take,h.sz⟩
theorem ze0 (n c:Nat)(L:List X3)(h0:n=0):FnR Tryd.prog 68 #[.slice none n c] (fun w=>n=List.length L∧yS w none L) (xC 74 (fun v=>v) n L):=by
 refine FnR.intro (c:=zi Tryd.f68) [.tmp 2] 8 Tryd.func68 kr kr kr fun w hpre=>?_;have H0:=St.start w;refine rS [.v] H0 kr fun gs1 w1 H1=>?_;clear H0;refine zd kr<|rS [.v,.v] H1 kr fun gs2 w2 H2=>?_;clear H1;refine zj kr kr<|rS [.v] H2 kr fun gs3 w3 H3=>?_;clear H2;refine zn kr<|wV ?_;refine ⟨[.slice none 0 0],(.tmp (.slice none 0 0) kr .nil),H3.below,?_⟩;exact Or.inl ⟨h0,rfl⟩
theorem ze1 (a:Addr)(n c:Nat)(L:List X3)(hn8:n≤2000000000000):FnR Tryd.prog 68 #[.slice (some a) n c] (fun w=>n=List.length L∧yS w (some a) L) (xC 74 (fun v=>v) n L):=by
 refine FnR.intro (c:=zi Tryd.f68) [.tmp 2] 8 Tryd.func68 kr kr kr fun w hpre=>?_;have H0:=St.start w;refine rS [.v] H0 kr fun gs1 w1 H1=>?_;clear H0;refine zd kr<|rS [.v,.v] H1 kr fun gs2 w2 H2=>?_;clear H1;refine zm kr kr<|zo kr<|wW<|zg [0,1,2,3] kr kr<|rp [.nw (fun b=>.slice (some ⟨b,0,none⟩) 0 0) #[] 74,.v] H2 kr fun gs3 w3 H3=>wX [2,3] ?_;clear H2;have HL1:St w.heap.size w w3 [((gs3 0).b,Obj.cells #[] 74 (0,0))]:=H3.as kr;clear H3;refine zeW HL1 (some 7) 72 74 48 (.tmp 5) (.tmp 6) 0 ((gs3 0).b) 0 n 0 c (some a) #[] [] L (fun b_1 cur_3=>[(b_1,Obj.cells cur_3 74 (0,0))]) kr kr kr kr kr (Rw.lit #[] 0 (by rfl) (by unfold maxLen;omega)) kr hpre.1 (fun h=>nomatch h) (yS.up hpre.2 HL1.below) (by omega) (by unfold maxLen;omega) (fun _ _=>by kernel_rfl) ?_;intro b_1 cap_2 cur_3 w4 H4 hr_4;clear HL1;rw [Nat.zero_add] at hr_4;refine yQ 7 (v:=.slice (some ⟨b_1,0,none⟩) (0+n) cap_2) (v':=.slice (some ⟨b_1,0,none⟩) n cap_2) (by rw [Nat.zero_add]) kr<|rp [.v] H4 kr fun gs5 w5 H5=>wX [] ?_;clear H4;refine zb<|zn kr<|wV ?_;refine ⟨[.slice (some ⟨b_1,0,none⟩) n cap_2],(.tmp (.slice (some ⟨b_1,0,none⟩) n cap_2) kr .nil),H5.below,?_⟩;exact Or.inr ⟨b_1,cap_2,_,rfl,H5.ge 0 (o:=.cells cur_3 74 (0,0)) kr,H5.get 0 kr,hr_4⟩
theorem ze2 (p:Option Addr)(n c:Nat)(L:List X3)(hn8:n≤2000000000000):FnR Tryd.prog 68 #[.slice p n c] (fun w=>n=List.length L∧yS w p L) (xC 74 (fun v=>v) n L):=fun w hp=>by
 cases p with
 | none=>
  have h0:n=0:=by
   rcases hp.2 with h|⟨b,off,e,_⟩
   ·rw [hp.1,h];rfl
   ·cases e
  exact ze0 n c L h0 w hp
 | some a=>exact ze1 a n c L hn8 w hp
theorem ze3 (p:Option Addr)(n c:Nat)(L:List X3)(hn8:n≤2000000000000):FnR Tryd.prog 54 #[.slice p n c] (fun w=>n=List.length L∧yS w p L) (xC 74 (fun v=>.agg #[.bool true,.string ⟨#[]⟩,v]) n L):=by
 refine FnR.intro (c:=zi Tryd.f54) [.cell 2 74] 6 Tryd.func54 kr kr kr fun w hpre=>?_;have H0:=St.start w;refine rS [.a] H0 kr fun gs1 w1 H1=>?_;clear H0;refine zg [0,1,2,3] kr kr<|rp [.v] H1 kr fun gs2 w2 H2=>wX [1,2,3] ?_;clear H1;refine zbj H2 (some 4) 68 #[.slice p n c] (fun w=>n=List.length L∧yS w p L) 74 (fun v=>v) n L (ze2 p n c L (by omega)) ⟨hpre.1,yS.up hpre.2 H2.below⟩ kr kr ?_ ?_
 ·skip;intro w3 h0 H3;clear H2;refine rp [.v,.s 0] H3 kr fun gs5 w5 H5=>wX [] ?_;clear H3;refine zb<|zn kr<|wV ?_;refine ⟨[.agg #[.bool true,.string (⟨#[]⟩),.slice none 0 0]],(.agg (b:=(gs1 0).b) (#[.bool true,.string (⟨#[]⟩),.slice none 0 0]) 74 (0,0) kr (H5.get 0 kr) kr .nil),H5.below,?_⟩;exact Or.inl ⟨h0,rfl⟩
 ·skip;intro b_1 cap_2 cur_3 w4 H4 hr_4;clear H2;refine rp [.v,.s 1] H4 kr fun gs6 w6 H6=>wX [] ?_;clear H4;refine zb<|zn kr<|wV ?_;refine ⟨[.agg #[.bool true,.string (⟨#[]⟩),.slice (some ⟨b_1,0,none⟩) n cap_2]],(.agg (b:=(gs1 0).b) (#[.bool true,.string (⟨#[]⟩),.slice (some ⟨b_1,0,none⟩) n cap_2]) 74 (0,0) kr (H6.get 1 kr) kr .nil),H6.below,?_⟩;exact Or.inr ⟨b_1,cap_2,_,rfl,H6.ge 0 (o:=.cells cur_3 74 (0,0)) kr,H6.get 0 kr,hr_4⟩
def Fo.app:Fo→Fo→Fo
 | .nil,R=>R
 | .cons l s k r,R=>.cons l s k (r.app R)
theorem zbC (x:X3)(R:Fo): ∀M:List X3,(toFo (M++ [x])).app R=(toFo M).app (.cons x.l x.s x.k R)
 | []=>rfl
 | y::r=>by simp only [List.cons_append,toFo,Fo.app,zbC x R r]
theorem Fo.app_nil: ∀k:Fo,k.app .nil=k
 | .nil=>rfl
 | .cons l s k r=>by simp only [Fo.app,Fo.app_nil r]
theorem zbD {g:Nat}{x:Nat×ByteArray}(h:x.2.size≤0x800000000000):(yq g x).size≤0x800000000000:=by
 unfold yq;split
 ·rw [qx];have:=qF x.1;omega
 ·split
  ·exact Nat.zero_le _
  ·exact h
def xD (g:Nat)(b:Kf)(x:Nat×ByteArray)(l:Fe)(v:Value)(T:List (Nat×Obj)):Prop:=
 ∃(p:Option Addr) (n c:Nat),v=.agg #[.bool (yc g),.string (yq g x),.slice p n c]∧yD T p n (zX g b l)
def kN (l:Fe):Prop:= ∀(g:Nat) (p:Option Addr) (n c:Nat) (b:Kf) (m:Nat) (s:ByteArray) (p2:Option Addr) (n2 c2:Nat) (room:Int),m<0x10000000000000000→0≤zC g b (m,s) l room→
 FnT Tryd.prog 37 #[knd g p n c,fld m s p2 n2 c2] (fun w=>SlR kS w.heap.size w p n b∧SlR fS w.heap.size w p2 n2 l) (xD g b (m,s) l)
abbrev ze4 (v:Value):Obj:=.cells #[.bool true,.string ⟨#[]⟩,v] 74 (0,0)
abbrev itZ:Obj:=.cells #[.bool false,.string ⟨#[]⟩,.slice none 0 0] 74 (0,0)
abbrev kdO (g:Nat)(p:Option Addr)(n c:Nat):Obj:=.cells #[.int .u8 (g:Int),.slice p n c] 51 (0,0)
abbrev fdO (m:Nat)(s:ByteArray)(p:Option Addr)(n c:Nat):Obj:=.cells #[.int .u64 (m:Int),.string s,.slice p n c] 39 (0,0)
abbrev rwO (C:Array Value):Obj:=.cells C 74 (0,0)
def kP (C:Array Value)(i:Nat)(x:X3):Array Value:=(C.toList.take (0+i*3)++(Value.agg (xc x)).cells.toList++C.toList.drop (0+i*3+(Value.agg (xc x)).cells.size)).toArray
def qc (B:Nat)(w0:World)(bq br:Nat)(C:Array Value)(i:Nat)(ok:X3→List (Nat×Obj)→Prop)(bk:Nat)(kO fO:Obj)(T:List (Nat×Obj)):(Nat→Bool)→(Nat→D2.Gh)→World→Prop:=fun L g w=>
 bif L 8 then ∃x T2,ok x T2∧St B w0 w ((bq,fO)::(bk,kO)::(br,rwO (kP C i x))::(T2++T))
 else bif L 6 then ∃x T2,ok x T2∧(g 6).cur=xc x∧St B w0 w ((bq,fO)::(bk,kO)::(br,rwO C)::(T2++T))
 else St B w0 w ((bq,fO)::(bk,kO)::(br,rwO C)::T)
theorem qc.st {B:Nat}{w0:World}{bq br:Nat}{C:Array Value}{i:Nat}{ok:X3→List (Nat×Obj)→Prop}{bk:Nat}{kO fO:Obj}{T:List (Nat×Obj)}{L:Nat→Bool}{g:Nat→D2.Gh}{w:World}(h8:L 8=false)(h:qc B w0 bq br C i ok bk kO fO T L g w):∃T',St B w0 w ((bq,fO)::(bk,kO)::(br,rwO C)::T'):=by
 unfold qc at h;rw [h8] at h;cases h6:L 6 with
 | true=>rw [h6] at h;obtain ⟨x,T2,_,_,h⟩:=h;exact ⟨_,h⟩
 | false=>rw [h6] at h;exact ⟨_,h⟩
theorem qc.call {B:Nat}{w0:World}{bq br:Nat}{C:Array Value}{i:Nat}{ok:X3→List (Nat×Obj)→Prop}{bk:Nat}{kO fO:Obj}{T:List (Nat×Obj)}{L:Nat→Bool}{g:Nat→D2.Gh}{w w':World}(hb:Below w.heap.size w w')(h:qc B w0 bq br C i ok bk kO fO T L g w):qc B w0 bq br C i ok bk kO fO T L g w':=by
 unfold qc at h ⊢;cases h8:L 8 with
 | true=>rw [h8] at h;obtain ⟨x,T2,h1,h⟩:=h;exact ⟨x,T2,h1,h.call hb⟩
 | false=>
  rw [h8] at h;cases h6:L 6 with
  | true=>rw [h6] at h;obtain ⟨x,T2,h1,h2,h⟩:=h;exact ⟨x,T2,h1,h2,h.call hb⟩
  | false=>rw [h6] at h;exact St.call h hb
theorem ze5 (l:Fe)(hs:l.sub kN):kN l:=by
 intro g p n c b m s p2 n2 c2 room hm hleft;refine FnT.intro (c:=zi Tryd.f37) [.cell 4 74] 44 Tryd.func37 kr kr kr fun w hpre=>?_;have H0:=St.start w;obtain ⟨hK,hF⟩:=hpre;have hfit:zv g b.len m s.size l.len=true∧0≤yl l g b 0 (w64 (room-1)):=by
  unfold zC at hleft;by_cases hf:zv g b.len m s.size l.len=true
  ·rw [if_pos hf] at hleft;exact ⟨hf,hleft⟩
  ·rw [if_neg hf] at hleft;omega
 obtain ⟨hf1,hf2,hf3⟩:=zbl hfit.1;have hn2:=hF.1;have hnb:n2≤1000:=by
  have hk1:=hK.1;have hk2:n≤1000:=hK.2.1;have:=hf3.2;unfold zH at this;split at this
  ·simp only at this;omega
  ·split at this
   ·simp only at this;omega
   ·simp only at this;omega
 refine rS [.b,.b,.a] H0 kr fun gs1 w1 H1=>?_;clear H0;refine rS [.v,.l 0] H1 kr fun gs2 w2 H2=>?_;clear H1;refine zw 0 kr ?_;by_cases h110:g=110
 ·refine rS [.E (.bool ((g:Int)==110)) (.bool true) (za (beq_iff_eq.2 (by omega))),.v] H2 kr fun gs3 w3 H3=>zj kr kr<|rS [.v,.l 1,.c (zeU m hm),.s 2] H3 kr fun gs4 w4 H4=>rRr [.cell 4 74] [2] (.agg #[.bool false,.string (zf (dg m)),.slice none 0 0]) (qj w.heap.size w (xD g b (m,s) l)) H4 kr ?_;refine ⟨[],⟨none,0,0,?_,?_⟩,H4.sub (List.nil_sublist _)⟩
  ·subst h110;rfl
  ·subst h110;exact yD.none _
 ·refine rS [.E (.bool ((g:Int)==110)) (.bool false) (za (beq_eq_false_iff_ne.2 (by omega))),.v] H2 kr fun gs3 w3 H3=>zm kr kr<|zd kr<|xV (Q:=fun e ρ ww=>e=.normal∧St w.heap.size w ww [((gs1 0).b,kdO g p n c),((gs1 1).b,fdO m s p2 n2 c2),((gs1 2).b,itZ)]∧Is [(2,.pointer (some ⟨(gs1 0).b,0,none⟩)),(3,.pointer (some ⟨(gs1 1).b,0,none⟩)),(4,.pointer (some ⟨(gs1 2).b,0,none⟩)),(18,.bool (yc g))] ρ) ?_ ?_
  ·by_cases h40:g=40
   ·refine rS [.E (.bool ((g:Int)==40)) (.bool true) (za (beq_iff_eq.2 (by omega))),.v] H3 kr fun gs4 w4 H4=>zj kr kr<|zo kr ?_;refine ⟨rfl,H4.as kr,?_⟩;subst h40;exact Is.of ⟨kr,kr,kr,kr,trivial⟩
   ·refine rS [.E (.bool ((g:Int)==40)) (.bool false) (za (beq_eq_false_iff_ne.2 (by omega))),.v] H3 kr fun gs4 w4 H4=>zm kr kr ?_;have hl:yc g=decide (g=42):=by unfold yc;rw [decide_eq_false h40];rfl
    rw [hl];by_cases h42:g=42
    ·refine rL [.E (.bool ((g:Int)==42)) (.bool true) (za (beq_iff_eq.2 (by omega))),.v] H4 kr fun gs5 w5 H5=>?_;refine ⟨rfl,H5.as kr,?_⟩;rw [decide_eq_true h42];exact Is.of ⟨kr,kr,kr,kr,trivial⟩
    ·refine rL [.E (.bool ((g:Int)==42)) (.bool false) (za (beq_eq_false_iff_ne.2 (by omega))),.v] H4 kr fun gs5 w5 H5=>?_;refine ⟨rfl,H5.as kr,?_⟩;rw [decide_eq_false h42];exact Is.of ⟨kr,kr,kr,kr,trivial⟩
  rintro _ _ w4 ⟨rfl,H4,_,rfl⟩;refine wW ?_;clear H3 H2;cases hl:yc g with
  | false=>
   refine zm kr kr<|rS [.v,.l 1,.v,.s 2] H4 kr fun gs5 w5 H5=>rRr [.cell 4 74] [2] (.agg #[.bool false,.string s,.slice none 0 0]) (qj w.heap.size w (xD g b (m,s) l)) H5 kr ?_;refine ⟨[],⟨none,0,0,?_,?_⟩,H5.sub (List.nil_sublist _)⟩
   ·unfold yq;rw [if_neg h110,if_neg (by rw [hl];decide),hl]
   ·unfold zX;rw [if_neg (by rw [hl];decide)];exact yD.none _
  | true=>
   refine zj kr kr<|zg [0,1,2,3,4] kr kr<|rp [.v,.l 1,.v] H4 kr fun gs5 w5 H5=>wX [3,4] ?_;have H6:St w.heap.size w w5 [((gs1 0).b,kdO g p n c),((gs1 1).b,fdO m s p2 n2 c2),((gs1 2).b,itZ)]:=H5.as kr;refine zdp H6 (some 24) 72 74 3 48 (.tmp 23) (.tmp 23) .i64 .i64 n2 kr kr kr kr kr (by omega) (by unfold maxLen;omega) ?_;intro br C0 w6 H7 hC0;clear H4 H5 H6;have H8:St w.heap.size w w6 (((gs1 0).b,kdO g p n c)::(br,rwO C0)::((gs1 1).b,fdO m s p2 n2 c2)::((gs1 2).b,itZ)::[]):=H7.perm (List.Perm.swap _ _ _);clear H7;refine rp [.v] H8 kr fun gs6 w7 H9=>wX []<|zb<|zd kr<|rS [.v,.l 2,.v,.v] H9 kr fun gs7 w8 H10=>zw 1 kr ?_;have H11:St w.heap.size w w8 (((gs1 0).b,kdO g p n c)::(br,rwO C0)::((gs1 1).b,fdO m s p2 n2 c2)::((gs1 2).b,itZ)::[]):=H10.as kr;clear H8 H9 H10;refine yz kr (fun mz ρ ww=> ∃(i:Nat) (r:Fe) (v:Int) (C:Array Value) (M:List X3) (T:List (Nat×Obj)),n2-i=mz∧FrR fS w.heap.size w p2 i r∧i+r.len=n2∧r.sub kN∧0≤yl r g b i v∧(toFo M).app (yM r g b i)=yM l g b 0∧qH C n2 i M∧AllIn T M∧St w.heap.size w ww (((gs1 0).b,kdO g p n c)::(br,rwO C)::((gs1 1).b,fdO m s p2 n2 c2)::((gs1 2).b,itZ)::T)∧Is [(2,.pointer (some ⟨(gs1 0).b,0,none⟩)),(3,.pointer (some ⟨(gs1 1).b,0,none⟩)),(4,.pointer (some ⟨(gs1 2).b,0,none⟩)),(5,.slice (some ⟨br,0,none⟩) n2 n2),(26,.slice p2 n2 c2),(27,.int .i64 (n2:Int)),(28,.int .i64 (i:Int))] ρ) (n2-0) ⟨0,l,_,C0,[],[],rfl,hF.start,by omega,hs,hfit.2,rfl,qH.start hC0,(fun _ h=>nomatch h),H11,(Is.of ⟨kr,kr,kr,kr,kr,kr,kr,trivial⟩)⟩ ?_;clear H11;rintro _ _ w9 ⟨i,r,v,C,M,T,rfl,hR,hN,hsub,hlf,happ,hFill,hAll,H12,_,rfl⟩;by_cases hi:i<n2
   ·refine rS [.E (.bool (decide ((i:Int)<(n2:Int)))) (.bool true) (za (decide_eq_true (by omega)))] H12 kr fun gs8 w10 H13=>?_;clear H12;refine zd kr<|zj kr kr<|zo kr<|wW<|zd kr<|zw 2 kr ?_;obtain ⟨⟨m1,s1⟩,k1,r1,b1,off1,C1,T1,fz1,p1,n1,c1,hr1,hp1,hb1,hh1,hs1,hx1,hz1,hk1,hR1,hN1⟩:=FrR.open hR hN hi;obtain ⟨g',p',n',c',hK1,hK2,hg'⟩:=hK.kid g i;subst hr1;rw [kK,←hg'] at hlf;have hkid:0≤zC g' (zt g b i).2 (m1,s1) k1 v∧0≤yl r1 g b (i+1) (zC g' (zt g b i).2 (m1,s1) k1 v):=by
     by_cases hv:zC g' (zt g b i).2 (m1,s1) k1 v<0
     ·rw [if_pos hv] at hlf;omega
     ·rw [if_neg hv] at hlf;exact ⟨Int.not_lt.1 hv,hlf⟩
    refine zg [0,1,2,3,4,5] kr kr<|rp [.v,.o (ins:=[((.tmp 26),.slice p2 n2 c2),((.tmp 28),.int .i64 (i:Int))]) (v:=.pointer (some ⟨b1,off1+i*3,none⟩)) (fun ρ o w ho hi2=>ys (kd:=.i64) (t:=37) (e:=39) (K:=3) (bytes:=48) kr (x:=(.tmp 26)) (y:=(.tmp 28)) b1 off1 n2 c2 i hp1 ho hi2.1 hi2.2.1 (by omega) w),.fp (off:=off1+i*3) (n:=3) (W:=#[.int .u64 (m1:Int),.string s1,.slice p1 n1 c1]) hh1 hb1 hs1 hx1] H13 kr fun gs9 w11 H14=>wX [3,4,5] ?_;have H15:St w.heap.size w w11 (((gs1 0).b,kdO g p n c)::(br,rwO C)::((gs1 1).b,fdO m s p2 n2 c2)::((gs1 2).b,itZ)::T):=H14.as kr;refine yh H15 (some 7) 39 (.agg #[wZ,.string ⟨#[]⟩,.slice none 0 0]) kr kr kr ?_;intro bq w12 H16;refine rp [.v,.s 0] H16 kr fun gs10 w13 H17=>wX []<|zb ?_;have H18:St w.heap.size w w13 ((bq,fdO m1 s1 p1 n1 c1)::((gs1 0).b,kdO g p n c)::(br,rwO C)::((gs1 1).b,fdO m s p2 n2 c2)::((gs1 2).b,itZ)::T):=H17.as kr;clear H13 H14 H15 H16 H17;have hc:=hsub.1 g' p' n' c' (zt g b i).2 m1 s1 p1 n1 c1 v hz1.1 hkid.1;refine D2.g_draw0 [0,1,2,3,4,5,6,7,8] [(some 33,fun _=>.slice (some ⟨br,0,none⟩) n2 n2),(some 34,fun _=>.int .i64 (i:Int)),(some 35,fun _=>knd g p n c),(some 36,fun _=>.int .i64 (i:Int)),(some 37,fun _=>knd g' p' n' c'),(some 38,fun _=>fld m1 s1 p1 n1 c1),(some 39,fun y=>.agg y.cur),(some 40,fun _=>.pointer (some ⟨br,0+i*3,none⟩)),(none,fun _=>undef)]
     (qc w.heap.size w bq br C i (fun x T2=>x.l=yc g'∧x.s=yq g' (m1,s1)∧x.k=zX g' (zt g b i).2 k1∧yD T2 x.p x.n x.k) (gs1 0).b (kdO g p n c) (fdO m1 s1 p1 n1 c1) (((gs1 1).b,fdO m s p2 n2 c2)::((gs1 2).b,itZ)::T)) kr kr kr H18.drew ⟨?_,?_,?_,?_,?_,?_,?_,?_,?_,trivial⟩ ?_
    ·exact D2.gv_val (fun _ _ _ h=>h) (fun g w=>by kernel_rfl)
    ·exact D2.gv_val (fun _ _ _ h=>h) (fun g w=>by kernel_rfl)
    ·refine D2.gv_ld (fun _ _ _ h=>h) 51 (.tmp 2) (fun _=>(gs1 0).b) 0 #[.int .u8 ((g:Nat):Int),.slice p n c] 51 (0,0) (fun g=>by kernel_rfl) (fun g=>by kernel_rfl) (fun L g w hN hp=>?_) kr kr;obtain ⟨T',h⟩:=hp.st (hN.post 8 kr);exact h.get 1 kr
    ·exact D2.gv_val (fun _ _ _ h=>h) (fun g w=>by kernel_rfl)
    ·refine D2.gv_cpW (fun _ _ _ h=>h) 47 #[knd g p n c,.int .i64 (i:Int)] (zbx g p n c i g' p' n' c') (fun L g w hN hp=>?_) (fun L g w w' hN hp hb=>hp.call hb) (fun g w=>by kernel_rfl);obtain ⟨T',h⟩:=hp.st (hN.post 8 kr);exact hK1.up h.below h.below.size
    ·refine D2.gv_ld (fun _ _ _ h=>h) 39 (.tmp 7) (fun _=>bq) 0 #[.int .u64 (m1:Int),.string s1,.slice p1 n1 c1] 39 (0,0) (fun g=>by kernel_rfl) (fun g=>by kernel_rfl) (fun L g w hN hp=>?_) kr kr;obtain ⟨T',h⟩:=hp.st (hN.post 8 kr);exact h.get 0 kr
    ·refine D2.gv_ft 37 #[knd g' p' n' c',fld m1 s1 p1 n1 c1] hc (fun L g w hN hp=>?_) (fun L gg ww v' T2 w' hN hp hok hT=>?_) (fun g w=>by kernel_rfl)
     ·obtain ⟨T',h⟩:=hp.st (hN.post 8 kr);exact ⟨hK2.call h.below,hk1.call h.below⟩
     ·obtain ⟨q1,q2,q3,rfl,hsl⟩:=hok;refine ⟨{ cur:=#[.bool (yc g'),.string (yq g' (m1,s1)),.slice q1 q2 q3] },rfl,?_⟩;unfold qc at hp ⊢;rw [hN.post 8 kr,hN.1] at hp;rw [show D2.put1 L 6 8=false from hN.post 8 kr,show D2.put1 L 6 6=true from rfl];exact ⟨⟨yc g',yq g' (m1,s1),q1,q2,q3,zX g' (zt g b i).2 k1⟩,T2,⟨rfl,rfl,rfl,hsl⟩,rfl,(St.addAll hp hT).perm (List.perm_append_comm_assoc T2 [(bq,fdO m1 s1 p1 n1 c1),((gs1 0).b,kdO g p n c),(br,rwO C)] (((gs1 1).b,fdO m s p2 n2 c2)::((gs1 2).b,itZ)::T)).symm⟩
    ·exact D2.gv_op (fun _ _ _ h=>h) _ (fun g=>by kernel_rfl) (fun g o w ho=>ys (kd:=.i64) (t:=72) (e:=74) (K:=3) (bytes:=48) kr (x:=(.tmp 33)) (y:=(.tmp 34)) br 0 n2 n2 i rfl ho kr kr hi w)
    ·refine D2.gives_of fun L1 gg ww hp hN=>?_;have h6:=hN.bef 6 kr;unfold qc at hp;rw [hN.1,h6] at hp;obtain ⟨x,T2,hx,hcur,HS⟩:=hp;obtain ⟨o,ho,hd,hw,hop⟩:=zx (show opk _ 8 _=some (none,true,.store 74 (.tmp 40) (.tmp 39)) by kernel_rfl);refine ⟨o,ho,hd,.inr ⟨hw,?_⟩⟩;rw [xu (t:=74) (off:=0+i*3) (b:=br) (C:=C) (T:=74) (v:=.agg (xc x)) (C':=kP C i x) (HS.get 2 kr) kr kr (hFill.put x hi).1 rfl kr (by rw [←hcur];kernel_rfl) o hop];refine ⟨default,rfl,?_⟩;unfold qc;rw [show D2.put1 L1 8 8=true from rfl];exact ⟨x,T2,hx,HS.store 2 (C:=C) kr⟩
    ·intro L1 gg w14 hall hp;unfold qc at hp;rw [hall 8 (Nat.le_of_ble_eq_true kr)] at hp;obtain ⟨x,T2,⟨hx1,hx2,hx3,hx4⟩,HS⟩:=hp;have H19:St w.heap.size w w14 (((gs1 0).b,kdO g p n c)::(br,rwO (kP C i x))::((gs1 1).b,fdO m s p2 n2 c2)::((gs1 2).b,itZ)::(T2++T)):=(HS.sub (List.sublist_cons_self ..)).perm (List.Perm.cons _ (List.Perm.cons _ (List.perm_append_comm_assoc T2 [((gs1 1).b,fdO m s p2 n2 c2),((gs1 2).b,itZ)] T).symm));refine wW<|rL [.E (.int .i64 (IntKind.i64.wrap ((i:Int)+1))) (.int .i64 ((i+1:Nat):Int)) (zp (yA (a:=i) (b:=1) (by omega))),.v] H19 kr fun gs11 w15 H20=>?_;show ∃m,_∧_;refine ⟨_,(by omega),i+1,r1,_,kP C i x,M++ [x],T2++T,rfl,hR1,hN1,hsub.2,hkid.2,?_,(hFill.put x hi).2,?_,H20.as kr,(Is.of ⟨kr,kr,kr,kr,kr,kr,kr,trivial⟩)⟩
     ·rw [zbC,hx1,hx2,hx3,←happ,vZ,←hg']
     ·exact (hAll.mono fun e he=>List.mem_append_right _ he).snoc (hx4.mono fun e he=>List.mem_append_left _ he) (by rw [hx2];exact zbD hz1.2)
   ·obtain rfl:=FrR.done hN hi;obtain rfl:i=n2:=by simp only [Fr.len] at hN;omega
    refine rS [.E (.bool (decide ((i:Int)<(i:Int)))) (.bool false) (za (decide_eq_false (by omega)))] H12 kr fun gs8 w10 H13=>zd kr<|zm kr kr<|yg 1 kr<|wW ?_;have hM:toFo M=zX g b l:=by
     unfold zX;rw [if_pos hl,←happ];exact (Fo.app_nil _).symm
    have hrw:=hFill.done (by unfold maxLen;omega);refine zg [0,1,2] kr kr<|rp [.v] H13 kr fun gs9 w11 H14=>wX [1,2] ?_;have H15:St w.heap.size w w11 (((gs1 0).b,kdO g p n c)::(br,rwO C)::((gs1 1).b,fdO m s p2 i c2)::((gs1 2).b,itZ)::T):=H14.as kr;refine zbj H15 (some 43) 54 #[.slice (some ⟨br,0,none⟩) i i] (fun w=>i=List.length M∧yS w (some ⟨br,0,none⟩) M) 74 (fun v=>.agg #[.bool true,.string ⟨#[]⟩,v]) i M (ze3 _ _ _ M (by omega)) (hrw.cellsAt (T:=74) (fz:=(0,0)) (H15.get 1 kr)) kr kr ?_ ?_
    ·intro w12 h0 H16;subst h0;refine rp [.s 3] H16 kr fun gs10 w13 H17=>wX []<|zb<|rRr [.cell 4 74] [3] (.agg #[.bool true,.string ⟨#[]⟩,.slice none 0 0]) (qj w.heap.size w (xD g b (m,s) l)) H17 kr ?_;refine ⟨[],⟨none,0,0,?_,?_⟩,H17.sub (List.nil_sublist _)⟩
     ·unfold yq;rw [if_neg h110,if_pos hl,hl]
     ·rw [←hM,List.eq_nil_of_length_eq_zero hFill.len];exact yD.none _
    ·intro bl cap cur w12 H16 hr;refine rp [.s 4] H16 kr fun gs10 w13 H17=>wX []<|zb<|rRr [.cell 4 74] [4] (.agg #[.bool true,.string ⟨#[]⟩,.slice (some ⟨bl,0,none⟩) i cap]) (qj w.heap.size w (xD g b (m,s) l)) H17 kr ?_;have H18:St w.heap.size w w13 ((bl,rwO cur)::((gs1 0).b,kdO g p n c)::(br,rwO C)::((gs1 1).b,fdO m s p2 i c2)::((gs1 2).b,ze4 (.slice (some ⟨bl,0,none⟩) i cap))::T):=H17.as kr;refine ⟨(bl,rwO cur)::T,⟨some ⟨bl,0,none⟩,i,cap,?_,?_⟩,H18.sub (List.Sublist.cons_cons _ (List.Sublist.cons _ (List.Sublist.cons _ (List.Sublist.cons _ (List.sublist_cons_self ..)))))⟩
     ·unfold yq;rw [if_neg h110,if_pos hl,hl]
     ·rw [←hM];exact hr.slIn (ty:=74) (fz:=(0,0)) (List.mem_cons_self ..) (hAll.mono fun e he=>List.mem_cons_of_mem _ he) (by omega)
theorem ze6 (l:Fe):kN l:=(Fr.induct ze5 l).1
abbrev itm (l:Bool)(s:ByteArray)(p:Option Addr)(n c:Nat):Value:=.agg #[.bool l,.string s,.slice p n c]
abbrev ec (x:El (Nat×ByteArray)):Array Value:=#[.int .u64 ((x.a.1:Nat):Int),.string x.a.2,.slice x.p x.n x.c]
section
variable {B:Nat}{w0:World}{bq bf bk:Nat}{qO kO:Obj}{p:Option Addr}{i c:Nat}{row:List (Nat×Obj)}{M:List (El (Nat×ByteArray))}{ok:El (Nat×ByteArray)→List (Nat×Obj)→Prop}{T:List (Nat×Obj)}{L:Nat→Bool}{g:Nat→D2.Gh}{w w':World}
end
abbrev kR (C:Array Value):Obj:=.cells C 51 (0,0)
structure Sk where
 g:Nat
 p:Option Addr
 n:Nat
 c:Nat
 row:List (Nat×Obj)
 M:List (El Nat)
def Sk.el (e:Sk):El Nat:=⟨e.g,e.p,e.n,e.c,yj e.M⟩
def opE:List Sk→List (El Nat)
 | []=>[]
 | e::r=>opE r++ [e.el]
def zI:List Sk→List (Nat×Obj)
 | []=>[]
 | e::r=>e.row++zI r
def stM (S:List Sk):List (Nat×Kf):=S.map fun e=>(e.g,yj e.M)
def Bot:List Sk→Prop
 | []=>False
 | e::r=>(r=[]∧e.g=40)∨Bot r
structure qI (T:List (Nat×Obj))(m:Nat)(e:Sk):Prop where
 row:RowE kS 51 e.p e.n e.c e.row e.M
 all:AllE kS T e.M
 le:e.n≤m
theorem qI.mono {T T':List (Nat×Obj)}{m m':Nat}{e:Sk}(h:qI T m e)(hT: ∀x∈T,x∈T')(hm:m≤m'):qI T' m' e:=⟨h.row,h.all.mono hT,Nat.le_trans h.le hm⟩
theorem ud: ∀S:List Sk,(opE S).length=S.length
 | []=>rfl
 | e::r=>by simp only [opE,List.length_append,ud r,List.length_cons,List.length_nil]
theorem jO (e:Sk)(r:List Sk):zA kS (opE (e::r))=zA kS (opE r)++ [.int .u8 ((e.g:Nat):Int),.slice e.p e.n e.c]:=by
 show zA kS (opE r++ [e.el])=_;rw [kt];rfl
theorem kQ (r:List Sk):(zA kS (opE r)).length=r.length*2:=by rw [ji,ud];rfl
theorem Rw.pop {K:Nat}{cur:Array Value}{cap n:Nat}{X Z:List Value}(h:Rw K cur cap (n+1) (X++Z))(hX:X.length=n*K):Rw K cur cap n X:=by
 have ht:=h.take;refine ⟨hX,by have:=h.le;omega,h.max,?_,h.sz⟩;have e:(cur.toList.take ((n+1)*K)).take (n*K)=X:=by rw [ht,List.take_append,hX,Nat.sub_self,List.take_zero,List.append_nil,List.take_of_length_le (by omega)]
 rw [List.take_take,Nat.min_eq_left (by rw [Nat.succ_mul];omega)] at e;exact e
theorem Rw.top {cur:Array Value}{cap:Nat}{e:Sk}{r:List Sk}(h:Rw 2 cur cap (r.length+1) (zA kS (opE (e::r)))):
 0+r.length*2+2≤cur.size∧cur.extract (0+r.length*2) (0+r.length*2+2)=#[.int .u8 ((e.g:Nat):Int),.slice e.p e.n e.c]∧cur[0+r.length*2]? =some (.int .u8 ((e.g:Nat):Int))∧cur[0+r.length*2+1]? =some (.slice e.p e.n e.c):=by
 rw [jO] at h;have hl:=kQ r;rw [Nat.zero_add];have h0:cur[r.length*2]? =some (.int .u8 ((e.g:Nat):Int)):=by
  rw [h.get _ (by omega),List.getElem?_append_right (by omega),hl,Nat.sub_self];rfl
 have h1:cur[r.length*2+1]? =some (.slice e.p e.n e.c):=by
  rw [h.get _ (by omega),List.getElem?_append_right (by omega),hl,Nat.add_sub_cancel_left];rfl
 have h2:=exE (C:=cur) (o:=r.length*2) (x:=[.int .u8 ((e.g:Nat):Int),.slice e.p e.n e.c]) (K:=2) rfl (fun j hj=>by
  rcases j with _|_|j
  ·exact h0
  ·exact h1
  ·omega) (by decide)
 exact ⟨h2.1,h2.2,h0,h1⟩
def zK:Array Value:=#[.int .u8 0,.slice none 0 0]
def yE (B:Nat)(w0:World)(bd b2 bo:Nat)(dO bO:Obj)(kv:Value)(cur:Array Value)(N:Nat)(en:Nat)(row:List (Nat×Obj))(xs:List Value)(T:List (Nat×Obj)):(Nat→Bool)→(Nat→D2.Gh)→World→Prop:=fun L g w=>
 bif L 8 then (L 9=true→(g 9).b=(g 8).b)∧Rw 2 (g 8).cur (g 8).cap (en+1) (xs++zK.toList)∧St B w0 w ((bd,dO)::(b2,bO)::(bo,kR (bif L 13 then putA cur (0+N*2+1) (.slice (some ⟨(g 8).b,0,none⟩) (en+1) (g 8).cap) else cur))::((g 8).b,kR (bif L 10 then putA (g 8).cur (0+en*2) kv else (g 8).cur))::T)
 else bif L 7 then St B w0 w (((g 7).b,kR zK)::(bd,dO)::(b2,bO)::(bo,kR cur)::(row++T))
 else St B w0 w ((bd,dO)::(b2,bO)::(bo,kR cur)::(row++T))
section
variable {B:Nat}{w0:World}{bd b2 bo:Nat}{dO bO:Obj}{kv:Value}{cur:Array Value}{N en:Nat}{row:List (Nat×Obj)}{xs:List Value}{T:List (Nat×Obj)}{L:Nat→Bool}{g:Nat→D2.Gh}{w:World}
theorem yE.st (h8:L 8=false)(h:yE B w0 bd b2 bo dO bO kv cur N en row xs T L g w):∃l,St B w0 w l∧(bd,dO)∈l∧(bo,kR cur)∈l:=by
 unfold yE at h;rw [h8] at h;cases h7:L 7 with
 | true=>rw [h7] at h;exact ⟨_,h,by simp,by simp⟩
 | false=>rw [h7] at h;exact ⟨_,h,by simp,by simp⟩
end
noncomputable abbrev ze7:Code:=zQ (zB (zQ (zQ (zQ (yt (zQ (zi Tryd.f23)))))))
noncomputable abbrev zbE:Code:=yt (zB (zQ (zQ (yt (yt ze7)))))
def zbF (B:Nat)(w0:World)(form:ByteArray)(b2 bd i:Nat)(target:List (Nat×Kf))(mz:Nat)(ρ:Env)(ww:World):Prop:=
 ∃(S:List Sk) (N g:Nat) (p:Option Addr) (n c:Nat) (k:Kf) (T:List (Nat×Obj)) (bo cap:Nat) (cur:Array Value),S.length=mz∧N=S.length∧Bot S∧N≤5∧(∀e∈S,qI T i e)∧RIn kS T p n k∧qG g k (stM S)=target∧Rw 2 cur cap N (zA kS (opE S))∧
  St B w0 ww ((bd,kdO g p n c)::(b2,kdO 0 none 0 0)::(bo,kR cur)::(zI S++T))∧
  Is [(0,.string form),(2,.pointer (some ⟨b2,0,none⟩)),(3,.bool false),(4,.slice (some ⟨bo,0,none⟩) N cap),(6,.pointer (some ⟨bd,0,none⟩)),(16,.int .i64 (form.size:Int)),(17,.int .i64 (i:Int))] ρ
def ze8 (B:Nat)(w0:World)(form:ByteArray)(b2 i:Nat)(target:List (Nat×Kf))(ρ:Env)(ww:World):Prop:=
 ∃(S:List Sk) (N:Nat) (T:List (Nat×Obj)) (bo cap:Nat) (cur:Array Value),N=S.length∧Bot S∧N≤5∧(∀e∈S,qI T i e)∧stM S=target∧Rw 2 cur cap N (zA kS (opE S))∧
  St B w0 ww ((b2,kdO 0 none 0 0)::(bo,kR cur)::(zI S++T))∧
  Is [(0,.string form),(2,.pointer (some ⟨b2,0,none⟩)),(3,.bool false),(4,.slice (some ⟨bo,0,none⟩) N cap),(16,.int .i64 (form.size:Int)),(17,.int .i64 (i:Int))] ρ
theorem zbG {Q:Exit→Env→World→Prop}{B:Nat}{w0:World}(form:ByteArray)(b2 bd i:Nat)(target:List (Nat×Kf))(hi:i≤40)(m0:Nat)(ρ0:Env)(ww0:World)(h0:zbF B w0 form b2 bd i target m0 ρ0 ww0)
 (hQ: ∀(S:List Sk) (N:Nat) (T:List (Nat×Obj)) (bo cap:Nat) (cur:Array Value) (ρ:Env) (ww:World),N=S.length→Bot S→N≤5→(∀e∈S,qI T (i+1) e)→stM S=target→Rw 2 cur cap N (zA kS (opE S))→
  St B w0 ww ((b2,kdO 0 none 0 0)::(bo,kR cur)::(zI S++T))→Is [(0,.string form),(2,.pointer (some ⟨b2,0,none⟩)),(3,.bool false),(4,.slice (some ⟨bo,0,none⟩) N cap),(16,.int .i64 (form.size:Int)),(17,.int .i64 (i:Int))] ρ→Q (.exit 1) ρ ww):
 WP Tryd.prog 101 (zQ (zQ (zQ zbE))) Q ρ0 ww0:=by
 refine zw 3 kr<|yz kr (zbF B w0 form b2 bd i target) m0 h0 ?_;clear h0;rintro _ _ w1 ⟨S,N,g,p,n,c,k,T,bo,cap,cur,rfl,rfl,hBot,hN5,hS,hRI,hpush,hRw,H1,_,rfl⟩;rcases S with _ | ⟨e,r⟩
 ·exact hBot.elim
 have he:=hS e (List.mem_cons_self ..);refine zw 4 kr ?_;have hN5':r.length+1≤5:=hN5;refine rS [.v,.v,.E (.int .i64 (IntKind.i64.wrap (((r.length+1:Nat):Int)-1))) (.int .i64 (r.length:Int)) (zp (by rw [show (((r.length+1:Nat):Int)-1)=(r.length:Int) by omega];exact zao (by omega))),.v] H1 kr fun gs2 w2 H2=>?_;clear H1;refine zd kr ?_;have H3:St B w0 w2 ((bd,kdO g p n c)::(b2,kdO 0 none 0 0)::(bo,kR cur)::(e.row++(zI r++T))):=by
  rw [←List.append_assoc];exact H2
 have htop:=hRw.top;refine D2.g_draw0 [0,1,2,3,4,5,6,7,8,9,10,11,12,13] [(some 69,fun _=>.slice (some ⟨bo,0,none⟩) (r.length+1) cap),(some 70,fun _=>.int .i64 (r.length:Int)),(some 71,fun _=>.pointer (some ⟨bo,0+r.length*2,none⟩)),(some 72,fun _=>.pointer (some ⟨bo,0+r.length*2+1,none⟩)),(some 73,fun _=>.slice e.p e.n e.c),(some 74,fun _=>knd g p n c),(some 75,fun _=>.int .i64 ((e.n:Nat):Int)),(some 76,fun y=>.slice (some ⟨y.b,0,none⟩) 1 1),(some 77,fun y=>.slice (some ⟨y.b,0,none⟩) (e.n+1) y.cap),(some 78,fun y=>.pointer (some ⟨y.b,0+e.n*2,none⟩)),(none,fun _=>undef),(some 79,fun _=>.pointer (some ⟨bo,0+r.length*2,none⟩)),(some 80,fun _=>.pointer (some ⟨bo,0+r.length*2+1,none⟩)),(none,fun _=>undef)]
  (yE B w0 bd b2 bo (kdO g p n c) (kdO 0 none 0 0) (knd g p n c) cur r.length e.n e.row (zA kS e.M) (zI r++T)) kr kr kr H3.drew ⟨?_,?_,?_,?_,?_,?_,?_,?_,?_,?_,?_,?_,?_,?_,trivial⟩ ?_
 ·exact D2.gv_val (fun _ _ _ h=>h) (fun g w=>by kernel_rfl)
 ·exact D2.gv_val (fun _ _ _ h=>h) (fun g w=>by kernel_rfl)
 ·exact D2.gv_op (fun _ _ _ h=>h) _ (fun g=>by kernel_rfl) (fun g o w ho=>ys (kd:=.i64) (t:=49) (e:=51) (K:=2) (bytes:=32) kr (x:=(.tmp 69)) (y:=(.tmp 70)) bo 0 (r.length+1) cap r.length rfl ho kr kr (by omega) w)
 ·exact D2.gv_val (fun _ _ _ h=>h) (fun g w=>by kernel_rfl)
 ·refine D2.gv_opW (fun _ _ _ h=>h) (.load 49 (.tmp 72)) (fun g=>by kernel_rfl) (fun L g o w hN hp ho=>?_);obtain ⟨l,h,_,hm⟩:=hp.st (hN.post 8 kr);exact zdo (h.own _ hm).2 kr kr htop.2.2.2 o ho
 ·refine D2.gv_ld (fun _ _ _ h=>h) 51 (.tmp 6) (fun _=>bd) 0 #[.int .u8 ((g:Nat):Int),.slice p n c] 51 (0,0) (fun g=>by kernel_rfl) (fun g=>by kernel_rfl) (fun L g w hN hp=>?_) kr kr;obtain ⟨l,h,hm,_⟩:=hp.st (hN.post 8 kr);exact (h.own _ hm).2
 ·exact D2.gv_val (fun _ _ _ h=>h) (fun g w=>by kernel_rfl)
 ·refine D2.gives_of fun L1 gg ww hp hN=>?_;have h8:=hN.post 8 kr;unfold yE at hp;rw [h8,hN.1] at hp;obtain ⟨o,ho,hd,hw,hrun⟩:=zP (show opv _ _ 7 _ ww=some (some 76,true,.ok (.value (.slice (some ⟨ww.heap.size,0,none⟩) 1 1)) (ww.alloc (.cells zK 51))) by kernel_rfl);refine ⟨o,ho,hd,.inr ⟨hw,?_⟩⟩;refine (congrArg (D2.Runs _ _) hrun).mpr ?_;refine ⟨{ b:=ww.heap.size },rfl,?_⟩;unfold yE;rw [show D2.put1 L1 7 8=false from h8,show D2.put1 L1 7 7=true from rfl];exact St.alloc hp _
 ·refine D2.gives_of fun L1 gg ww hp hN=>?_;have h7:=hN.bef 7 kr;have h9:=hN.post 9 kr;have h10:=hN.post 10 kr;have h13:=hN.post 13 kr;unfold yE at hp;rw [hN.1,h7] at hp;obtain ⟨o,ho,hd,hw,hop⟩:=zx (show opk _ 8 _=some (some 77,true,yI 49 (.tmp 73) (.tmp 76)) by kernel_rfl);refine ⟨o,ho,hd,.inr ⟨hw,?_⟩⟩;have hen:=he.le;obtain ⟨eg,ep,en,ec,erow,eM⟩:=e;rcases he.row with ⟨rfl,rfl,rfl,rfl,rfl⟩ | ⟨br,curr,rfl,rfl,hrw⟩
  ·obtain ⟨b',cap',cur',w',hrun,HS',hr'⟩:=zaC (K:=2) hp (t:=49) (e:=51) (bytes:=32) (k:=0) (bx:=(gg 7).b) (c:=1) (Y:=zK) kr hop kr kr rfl rfl (jl rfl) (by omega);rw [hrun];refine ⟨{ b:=b',cap:=cap',cur:=cur' },rfl,?_⟩;unfold yE;rw [show D2.put1 L1 8 8=true from rfl,show D2.put1 L1 8 10=false from h10,show D2.put1 L1 8 13=false from h13];refine ⟨fun hh=>absurd (h9.symm.trans hh) (by decide),hr',?_⟩;exact (HS'.sub (List.Sublist.cons_cons _ (List.sublist_cons_self ..))).perm (List.perm_middle (l₁:=[(bd,kdO g p n c),(b2,kdO 0 none 0 0),(bo,kR cur)]))
  ·obtain ⟨b',cap',cur',w',hrun,HS',hr'⟩:=vE (K:=2) hp (t:=49) (e:=51) (bytes:=32) (j:=4) (k:=0) (bx:=(gg 7).b) (c:=1) (Y:=zK) kr hop kr rfl hrw kr rfl rfl (jl rfl) (by omega) (by unfold maxLen;omega);rw [hrun];refine ⟨{ b:=b',cap:=cap',cur:=cur' },rfl,?_⟩;unfold yE;rw [show D2.put1 L1 8 8=true from rfl,show D2.put1 L1 8 10=false from h10,show D2.put1 L1 8 13=false from h13];exact ⟨fun hh=>absurd (h9.symm.trans hh) (by decide),hr',HS'.sub (List.sublist_cons_self ..)⟩
 ·refine D2.gives_of fun L1 gg ww hp hN=>?_;have h8:=hN.bef 8 kr;obtain ⟨o,ho,hd,hw,hop⟩:=zx (show opk _ 9 _=some (some 78,true,.indexAddr 49 (.tmp 77) (.tmp 75)) by kernel_rfl);refine ⟨o,ho,hd,.inr ⟨hw,?_⟩⟩;rw [ys (kd:=.i64) (t:=49) (e:=51) (K:=2) (bytes:=32) kr (x:=(.tmp 77)) (y:=(.tmp 75)) (gg 8).b 0 (e.n+1) (gg 8).cap e.n rfl hop kr kr (by omega) ww];refine ⟨{ b:=(gg 8).b },rfl,?_⟩;unfold yE at hp ⊢;rw [h8] at hp;rw [show D2.put1 L1 9 8=true from h8];exact ⟨fun _=>rfl,hp.2.1,hp.2.2⟩
 ·refine D2.gives_of fun L1 gg ww hp hN=>?_;have h8:=hN.bef 8 kr;have h9:=hN.bef 9 kr;unfold yE at hp;rw [h8,hN.1] at hp;obtain ⟨hg9,hr',HS⟩:=hp;have hg:=hg9 h9;have hle:=hr'.putA (0+e.n*2) (knd g p n c) (by show 0+e.n*2+2≤(e.n+1)*2;omega);obtain ⟨o,ho,hd,hw,hop⟩:=zx (show opk _ 10 _=some (none,true,.store 51 (.tmp 78) (.tmp 74)) by kernel_rfl);refine ⟨o,ho,hd,.inr ⟨hw,?_⟩⟩;rw [xu (t:=51) (off:=0+e.n*2) (b:=(gg 8).b) (C:=(gg 8).cur) (T:=51) (v:=knd g p n c) (C':=putA (gg 8).cur (0+e.n*2) (knd g p n c)) (HS.get 3 kr) kr kr hle.1 rfl (by rw [←hg];kernel_rfl) kr o hop];refine ⟨default,rfl,?_⟩;unfold yE;rw [show D2.put1 L1 10 8=true from h8,show D2.put1 L1 10 10=true from rfl];exact ⟨fun h=>hg9 h,hr',HS.store 3 (C:=(gg 8).cur) kr⟩
 ·exact D2.gv_op (fun _ _ _ h=>h) _ (fun g=>by kernel_rfl) (fun g o w ho=>ys (kd:=.i64) (t:=49) (e:=51) (K:=2) (bytes:=32) kr (x:=(.tmp 69)) (y:=(.tmp 70)) bo 0 (r.length+1) cap r.length rfl ho kr kr (by omega) w)
 ·exact D2.gv_val (fun _ _ _ h=>h) (fun g w=>by kernel_rfl)
 ·refine D2.gives_of fun L1 gg ww hp hN=>?_;have h8:=hN.bef 8 kr;unfold yE at hp;rw [h8,hN.1] at hp;obtain ⟨hg9,hr',HS⟩:=hp;have hle:=hRw.putA (0+r.length*2+1) (.slice (some ⟨(gg 8).b,0,none⟩) (e.n+1) (gg 8).cap) (by show 0+r.length*2+1+1≤(r.length+1)*2;omega);obtain ⟨o,ho,hd,hw,hop⟩:=zx (show opk _ 13 _=some (none,true,.store 49 (.tmp 80) (.tmp 77)) by kernel_rfl);refine ⟨o,ho,hd,.inr ⟨hw,?_⟩⟩;rw [xu (t:=49) (off:=0+r.length*2+1) (b:=bo) (C:=cur) (T:=51) (v:=.slice (some ⟨(gg 8).b,0,none⟩) (e.n+1) (gg 8).cap) (C':=putA cur (0+r.length*2+1) (.slice (some ⟨(gg 8).b,0,none⟩) (e.n+1) (gg 8).cap)) (HS.get 2 kr) kr kr hle.1 rfl kr kr o hop];refine ⟨default,rfl,?_⟩;unfold yE;rw [show D2.put1 L1 13 8=true from h8,show D2.put1 L1 13 13=true from rfl];exact ⟨fun h=>hg9 h,hr',HS.store 2 (C:=cur) kr⟩
 ·intro L1 gg w14 hall hp;unfold yE at hp;rw [hall 8 (Nat.le_of_ble_eq_true kr),hall 10 (Nat.le_of_ble_eq_true kr),hall 13 (Nat.le_of_ble_eq_true kr)] at hp;obtain ⟨_,hr',H4⟩:=hp;generalize hb':(gg 8).b=b';generalize hcap':(gg 8).cap=cap';generalize hcur':(gg 8).cur=cur';rw [hb',hcur',hcap'] at H4;rw [hcur',hcap'] at hr';have hn:=he.row.len (by decide);have hMl:(zA kS e.M).length=0+e.n*2:=by rw [ji,hn,Nat.zero_add];rfl
  have hnew:Rw 2 (putA cur' (0+e.n*2) (knd g p n c)) cap' (e.n+1) (zA kS (e.M++ [⟨g,p,n,c,k⟩])):=by
   have h1:=(hr'.putA (0+e.n*2) (knd g p n c) (by show 0+e.n*2+2≤(e.n+1)*2;omega)).2;have h2:=vH (X:=zA kS e.M) (Z:=zK.toList) (V:=(knd g p n c).cells.toList) hMl rfl;rw [kt];exact h2▸h1
  obtain ⟨eg,ep,en,ec,erow,eM⟩:=e;have hop:Rw 2 (putA cur (0+r.length*2+1) (.slice (some ⟨b',0,none⟩) (en+1) cap')) cap (r.length+1) (zA kS (opE (⟨eg,some ⟨b',0,none⟩,en+1,cap',[(b',kR (putA cur' (0+en*2) (knd g p n c)))],eM++ [⟨g,p,n,c,k⟩]⟩::r))):=by
   have h1:=(hRw.putA (0+r.length*2+1) (.slice (some ⟨b',0,none⟩) (en+1) cap') (by show 0+r.length*2+1+1≤(r.length+1)*2;omega)).2;have hl:=kQ r;have h2:=vH (X:=zA kS (opE r)++ [.int .u8 (eg:Int)]) (Z:=[.slice ep en ec]) (V:=(Value.slice (some ⟨b',0,none⟩) (en+1) cap').cells.toList) (off:=0+r.length*2+1) (by rw [List.length_append,hl];simp) rfl;rw [jO];rw [jO,show zA kS (opE r)++ [.int .u8 (eg:Int),.slice ep en ec]=(zA kS (opE r)++ [.int .u8 (eg:Int)])++ [.slice ep en ec] by simp] at h1;have h3:(zA kS (opE r)++ [.int .u8 (eg:Int)])++(Value.slice (some ⟨b',0,none⟩) (en+1) cap').cells.toList=zA kS (opE r)++ [.int .u8 (eg:Int),.slice (some ⟨b',0,none⟩) (en+1) cap']:=by
    rw [List.append_assoc];rfl
   exact h3▸(h2▸h1)
  have hok:qI T (i+1) ⟨eg,some ⟨b',0,none⟩,en+1,cap',[(b',kR (putA cur' (0+en*2) (knd g p n c)))],eM++ [⟨g,p,n,c,k⟩]⟩:=
   ⟨.inr ⟨_,_,rfl,rfl,hnew⟩,he.all.snoc hRI trivial,Nat.succ_le_succ he.le⟩
  have htop':=hop.top;have hpush':qG g k ((eg,yj eM)::stM r)=target:=hpush;unfold qG at hpush';rw [←zbm ⟨g,p,n,c,k⟩] at hpush';have hrc:=hop.le;have hBr:eg=42→Bot r:=fun h42=>by
   rcases hBot with ⟨_,h⟩|h
   ·exact absurd (h.symm.trans h42) (by decide)
   ·exact h
  have hin: ∀x∈T,x∈(b',kR (putA cur' (0+en*2) (knd g p n c)))::T:=fun x hx=>List.mem_cons_of_mem _ hx;refine wW<|zd kr ?_;by_cases h42:eg=42
  ·rw [if_pos h42] at hpush';refine rS [.v,.v,.o (ins:=[((.tmp 81),.slice (some ⟨bo,0,none⟩) (r.length+1) cap),((.tmp 82),.int .i64 (r.length:Int))]) (v:=.pointer (some ⟨bo,0+r.length*2,none⟩)) (fun ρ o w ho hi2=>ys (kd:=.i64) (t:=49) (e:=51) (K:=2) (bytes:=32) kr (x:=(.tmp 81)) (y:=(.tmp 82)) bo 0 (r.length+1) cap r.length rfl ho hi2.1 hi2.2.1 (by omega) w),.v,.ls 2 (C:=putA cur (0+r.length*2+1) (.slice (some ⟨b',0,none⟩) (en+1) cap')) (off:=0+r.length*2) (v:=.int .u8 (eg:Int)) htop'.2.2.1,.E (.bool (!((eg:Int)==42))) (.bool false) (za (by rw [h42];rfl))] H4 kr fun gs5 w15 H5=>zm kr kr<|zo kr<|wW<|dL [.v,.v,.o (ins:=[((.tmp 87),.slice (some ⟨bo,0,none⟩) (r.length+1) cap),((.tmp 88),.int .i64 (r.length:Int))]) (v:=.pointer (some ⟨bo,0+r.length*2,none⟩)) (fun ρ o w ho hi2=>ys (kd:=.i64) (t:=49) (e:=51) (K:=2) (bytes:=32) kr (x:=(.tmp 87)) (y:=(.tmp 88)) bo 0 (r.length+1) cap r.length rfl ho hi2.1 hi2.2.1 (by omega) w),.lp 2 (C:=putA cur (0+r.length*2+1) (.slice (some ⟨b',0,none⟩) (en+1) cap')) (off:=0+r.length*2) (n:=2) (W:=#[.int .u8 (eg:Int),.slice (some ⟨b',0,none⟩) (en+1) cap']) htop'.1 htop'.2.1,.v,.v,.o (ins:=[((.tmp 91),.slice (some ⟨bo,0,none⟩) (r.length+1) cap),((.tmp 92),.int .i64 (r.length:Int))]) (v:=.slice (some ⟨bo,0,none⟩) r.length cap) (fun ρ o w ho hi2=>zas (kd:=.i64) (t:=49) (e:=51) (size:=2) (bytes:=32) kr (x:=(.tmp 91)) (y:=(.tmp 92)) bo (r.length+1) cap r.length ho hi2.1 hi2.2.1 (by omega) w),.s 0,.v] H5 kr fun w16 H6=>?_;have H7:St B w0 w16 ((bd,kdO eg (some ⟨b',0,none⟩) (en+1) cap')::(b2,kdO 0 none 0 0)::(bo,kR (putA cur (0+r.length*2+1) (.slice (some ⟨b',0,none⟩) (en+1) cap')))::([(b',kR (putA cur' (0+en*2) (knd g p n c)))]++(zI r++T))):=H6.as kr;show ∃m,_∧_;refine ⟨r.length,Nat.lt_succ_self _,r,r.length,eg,_,_,_,yj (eM++ [⟨g,p,n,c,k⟩]),(b',kR (putA cur' (0+en*2) (knd g p n c)))::T,bo,cap,_,rfl,rfl,hBr h42,by omega,fun x hx=>(hS x (List.mem_cons_of_mem _ hx)).mono hin (Nat.le_refl _),?_,hpush',Rw.pop (jO _ _▸hop) (kQ r),H7.perm (List.Perm.cons _ (List.Perm.cons _ (List.Perm.cons _ (List.perm_append_comm_assoc (zI r) [(b',kR (putA cur' (0+en*2) (knd g p n c)))] T)))),(Is.of ⟨kr,kr,kr,kr,kr,kr,kr,trivial⟩)⟩;have:=hok.row.rIn (T:=T) (by decide) hok.all (by have:=hok.le;show en+1≤1000;simp only at this;omega);exact this
  ·rw [if_neg h42] at hpush';refine rS [.v,.v,.o (ins:=[((.tmp 81),.slice (some ⟨bo,0,none⟩) (r.length+1) cap),((.tmp 82),.int .i64 (r.length:Int))]) (v:=.pointer (some ⟨bo,0+r.length*2,none⟩)) (fun ρ o w ho hi2=>ys (kd:=.i64) (t:=49) (e:=51) (K:=2) (bytes:=32) kr (x:=(.tmp 81)) (y:=(.tmp 82)) bo 0 (r.length+1) cap r.length rfl ho hi2.1 hi2.2.1 (by omega) w),.v,.ls 2 (C:=putA cur (0+r.length*2+1) (.slice (some ⟨b',0,none⟩) (en+1) cap')) (off:=0+r.length*2) (v:=.int .u8 (eg:Int)) htop'.2.2.1,.E (.bool (!((eg:Int)==42))) (.bool true) (za (by rw [beq_eq_false_iff_ne.2 (by omega)];rfl))] H4 kr fun gs5 w15 H5=>zj kr kr<|yg 1 kr ?_;show Q (.exit 1) _ _;refine hQ (⟨eg,some ⟨b',0,none⟩,en+1,cap',[(b',kR (putA cur' (0+en*2) (knd g p n c)))],eM++ [(⟨g,p,n,c,k⟩:El Nat)]⟩::r) (r.length+1) T bo cap _ _ _ rfl ?_ hN5' ?_ hpush' hop ?_ (Is.of ⟨kr,kr,kr,kr,kr,kr,trivial⟩)
   ·rcases hBot with ⟨h1,h2⟩|h
    ·exact .inl ⟨h1,h2⟩
    ·exact .inr h
   ·intro x hx;rcases List.mem_cons.1 hx with rfl | hx
    ·exact hok
    ·exact (hS x (List.mem_cons_of_mem _ hx)).mono (fun _ h=>h) (Nat.le_succ _)
   ·have H7:St B w0 w15 ((bd,kdO g p n c)::(b2,kdO 0 none 0 0)::(bo,kR (putA cur (0+r.length*2+1) (.slice (some ⟨b',0,none⟩) (en+1) cap')))::([(b',kR (putA cur' (0+en*2) (knd g p n c)))]++(zI r++T))):=H5.as kr;exact H7.sub (List.sublist_cons_self ..)
abbrev zbH (form:ByteArray)(i:Nat)(b2 bo N cap:Nat):List (Nat×Value):=[(0,.string form),(2,.pointer (some ⟨b2,0,none⟩)),(3,.bool false),(4,.slice (some ⟨bo,0,none⟩) N cap),(16,.int .i64 (form.size:Int)),(17,.int .i64 (i:Int))]
theorem ze9 {Q:Exit→Env→World→Prop}{B:Nat}{w0:World}(form:ByteArray)(b2 i:Nat)(hi40:i≤40)(hi:i<form.size)(hz:form.size≤40)(S:List Sk)(N:Nat)(T:List (Nat×Obj))(bo cap:Nat)(cur:Array Value)(hN:N=S.length)(hBot:Bot S)(hN5:N≤5)(hS: ∀e∈S,qI T i e)(hRw:Rw 2 cur cap N (zA kS (opE S)))
 (ρ0:Env) (ww0:World) (H0:St B w0 ww0 ((b2,kdO 0 none 0 0)::(bo,kR cur)::(zI S++T))) (hIs:Is (zbH form i b2 bo N cap) ρ0)
 (hbad:yU (by_ form i) (stM S)=none→ ∀(ρ:Env) (ww:World) (bd:Nat) (o:Obj) (l:List (Nat×Obj)),St B w0 ww ((bd,o)::(b2,kdO 0 none 0 0)::l)→ρ 3=.bool false→ρ 2=.pointer (some ⟨b2,0,none⟩)→Q .ret ρ ww)
 (hQ: ∀(S':List Sk) (N:Nat) (T:List (Nat×Obj)) (bo cap:Nat) (cur:Array Value) (ρ:Env) (ww:World),N=S'.length→Bot S'→N≤5→(∀e∈S',qI T (i+1) e)→yU (by_ form i) (stM S)=some (stM S')→Rw 2 cur cap N (zA kS (opE S'))→
  St B w0 ww ((b2,kdO 0 none 0 0)::(bo,kR cur)::(zI S'++T))→Is (zbH form i b2 bo N cap) ρ→Q (.exit 1) ρ ww):
 WP Tryd.prog 101 zbE Q ρ0 ww0:=by
 obtain ⟨_,rfl⟩:=hIs;rcases S with _|⟨e,r⟩
 ·exact hBot.elim
 obtain rfl:N=r.length+1:=hN;have he:=hS e (List.mem_cons_self ..);have htop:=hRw.top;obtain ⟨c,hc⟩:∃c,by_ form i=c:=⟨_,rfl⟩
 have hrc:=hRw.le;refine rS [.v,.v] H0 kr fun gs1 w1 H1=>zg [0,1,2,3,4,5] kr kr<|rp [.v,.v,.oe (ins:=[((.tmp 20),.string form),((.tmp 21),.int .i64 (i:Int))]) (v:=.int .u8 ((by_ form i:Nat):Int)) (v':=.int .u8 (c:Int)) (fun ρ o w ho hi2=>jE (t:=9) (kd:=.i64) kr (x:=(.tmp 20)) (y:=(.tmp 21)) form i ho hi2.1 hi2.2.1 hi w) (by rw [hc]),.v] H1 kr fun gs2 w2 H2=>wX [4,5] ?_;have H3:St B w0 w2 ((b2,kdO 0 none 0 0)::(bo,kR cur)::(zI (e::r)++T)):=H2.as kr;refine yh H3 (some 6) 51 (.agg #[.int .u8 0,.slice none 0 0]) kr kr kr ?_;intro bd w3 H4;refine rp [.s 0] H4 kr fun gs3 w4 H5=>wX []<|zb<|zd kr<|rS [.v,.v,.E (.int .i64 (IntKind.i64.wrap (((r.length+1:Nat):Int)-1))) (.int .i64 (r.length:Int)) (zp (by rw [show (((r.length+1:Nat):Int)-1)=(r.length:Int) by omega];exact zao (by omega))),.v] H5 kr fun gs4 w5 H6=>rS [.v,.l 0] H6 kr fun gs5 w6 H7=>zw 2 kr ?_;have H8:St B w0 w6 ((bd,kdO c none 0 0)::(b2,kdO 0 none 0 0)::(bo,kR cur)::(zI (e::r)++T)):=H7.as kr;clear H0 H1 H2 H3 H4 H5 H6 H7;refine zS [0,2,3,4,5,6,7,16,17,28] fun ρ1=>zd kr ?_;obtain ⟨lb,hlb⟩:∃lb,decide (c=110∨c=104∨c=97∨c=115∨c=98)=lb:=⟨_,rfl⟩
 refine xV (Q:=fun ex ρ ww=>ex=.normal∧St B w0 ww ((bd,kdO c none 0 0)::(b2,kdO 0 none 0 0)::(bo,kR cur)::(zI (e::r)++T))∧Is [(0,.string form),(2,.pointer (some ⟨b2,0,none⟩)),(3,.bool false),(4,.slice (some ⟨bo,0,none⟩) (r.length+1) cap),(6,.pointer (some ⟨bd,0,none⟩)),(7,.int .i64 (r.length:Int)),(16,.int .i64 (form.size:Int)),(17,.int .i64 (i:Int)),(28,.int .u8 (c:Int)),(30,.bool lb)] ρ) ?_ ?_
 ·by_cases h110:c=110
  ·refine rS [.E (.bool ((c:Int)==110)) (.bool true) (za (beq_iff_eq.2 (by omega))),.v] H8 kr fun gsa110 wa110 Ha110=>zj kr kr<|zo kr ?_;obtain rfl:lb=true:=by rw [←hlb];exact decide_eq_true (by omega)
   exact ⟨rfl,Ha110.as kr,(Is.of ⟨kr,kr,kr,kr,kr,kr,kr,kr,kr,kr,trivial⟩)⟩
  ·refine rS [.E (.bool ((c:Int)==110)) (.bool false) (za (beq_eq_false_iff_ne.2 (by omega))),.v] H8 kr fun gsb110 wb110 Hb110=>zm kr kr ?_;by_cases h104:c=104
   ·refine rS [.E (.bool ((c:Int)==104)) (.bool true) (za (beq_iff_eq.2 (by omega))),.v] Hb110 kr fun gsa104 wa104 Ha104=>zj kr kr<|zo kr ?_;obtain rfl:lb=true:=by rw [←hlb];exact decide_eq_true (by omega)
    exact ⟨rfl,Ha104.as kr,(Is.of ⟨kr,kr,kr,kr,kr,kr,kr,kr,kr,kr,trivial⟩)⟩
   ·refine rS [.E (.bool ((c:Int)==104)) (.bool false) (za (beq_eq_false_iff_ne.2 (by omega))),.v] Hb110 kr fun gsb104 wb104 Hb104=>zm kr kr ?_;by_cases h97:c=97
    ·refine rS [.E (.bool ((c:Int)==97)) (.bool true) (za (beq_iff_eq.2 (by omega))),.v] Hb104 kr fun gsa97 wa97 Ha97=>zj kr kr<|zo kr ?_;obtain rfl:lb=true:=by rw [←hlb];exact decide_eq_true (by omega)
     exact ⟨rfl,Ha97.as kr,(Is.of ⟨kr,kr,kr,kr,kr,kr,kr,kr,kr,kr,trivial⟩)⟩
    ·refine rS [.E (.bool ((c:Int)==97)) (.bool false) (za (beq_eq_false_iff_ne.2 (by omega))),.v] Hb104 kr fun gsb97 wb97 Hb97=>zm kr kr ?_;by_cases h115:c=115
     ·refine rS [.E (.bool ((c:Int)==115)) (.bool true) (za (beq_iff_eq.2 (by omega))),.v] Hb97 kr fun gsa115 wa115 Ha115=>zj kr kr<|zo kr ?_;obtain rfl:lb=true:=by rw [←hlb];exact decide_eq_true (by omega)
      exact ⟨rfl,Ha115.as kr,(Is.of ⟨kr,kr,kr,kr,kr,kr,kr,kr,kr,kr,trivial⟩)⟩
     ·refine rS [.E (.bool ((c:Int)==115)) (.bool false) (za (beq_eq_false_iff_ne.2 (by omega))),.v] Hb97 kr fun gsb115 wb115 Hb115=>zm kr kr ?_;by_cases h98:c=98
      ·refine rL [.E (.bool ((c:Int)==98)) (.bool true) (za (beq_iff_eq.2 (by omega))),.v] Hb115 kr fun gsa98 wa98 Ha98=>?_;obtain rfl:lb=true:=by rw [←hlb];exact decide_eq_true (by omega)
       exact ⟨rfl,Ha98.as kr,(Is.of ⟨kr,kr,kr,kr,kr,kr,kr,kr,kr,kr,trivial⟩)⟩
      ·refine rL [.E (.bool ((c:Int)==98)) (.bool false) (za (beq_eq_false_iff_ne.2 (by omega))),.v] Hb115 kr fun gsb98 wb98 Hb98=>?_;obtain rfl:lb=false:=by rw [←hlb];exact decide_eq_false (by omega)
       exact ⟨rfl,Hb98.as kr,(Is.of ⟨kr,kr,kr,kr,kr,kr,kr,kr,kr,kr,trivial⟩)⟩
 rintro _ _ w7 ⟨rfl,H9,_,rfl⟩;refine wW ?_;cases lb with
 | true=>
  have hst:yU (by_ form i) (stM (e::r))=some (qG c .nil (stM (e::r))):=by
   rw [hc];unfold yU;rw [if_pos (of_decide_eq_true hlb)]
  refine zj kr kr<|zo kr<|wW<|zbG form b2 bd i _ hi40 (r.length+1) _ _ ⟨e::r,r.length+1,c,none,0,0,.nil,T,bo,cap,cur,rfl,rfl,hBot,hN5,hS,RIn.none _ _,rfl,hRw,H9,(Is.of ⟨kr,kr,kr,kr,kr,kr,kr,trivial⟩)⟩ ?_;intro S' N' T' bo' cap' cur' ρ' ww' h1 h2 h3 h4 h5 h6 h7 h8;exact hQ S' N' T' bo' cap' cur' ρ' ww' h1 h2 h3 h4 (by rw [hst,h5]) h6 h7 h8
 | false=>
  have hnl:=of_decide_eq_false hlb;refine zm kr kr<|zd kr ?_;obtain ⟨gb,hgb⟩:∃gb,decide (c=40∨c=42)=gb:=⟨_,rfl⟩
  refine xV (Q:=fun ex ρ ww=>ex=.normal∧St B w0 ww ((bd,kdO c none 0 0)::(b2,kdO 0 none 0 0)::(bo,kR cur)::(zI (e::r)++T))∧Is [(0,.string form),(2,.pointer (some ⟨b2,0,none⟩)),(3,.bool false),(4,.slice (some ⟨bo,0,none⟩) (r.length+1) cap),(6,.pointer (some ⟨bd,0,none⟩)),(7,.int .i64 (r.length:Int)),(16,.int .i64 (form.size:Int)),(17,.int .i64 (i:Int)),(28,.int .u8 (c:Int)),(36,.bool gb)] ρ) ?_ ?_
  ·by_cases h40:c=40
   ·refine rS [.E (.bool ((c:Int)==40)) (.bool true) (za (beq_iff_eq.2 (by omega))),.v] H9 kr fun gsa40 wa40 Ha40=>zj kr kr<|zo kr ?_;obtain rfl:gb=true:=by rw [←hgb];exact decide_eq_true (by omega)
    exact ⟨rfl,Ha40.as kr,(Is.of ⟨kr,kr,kr,kr,kr,kr,kr,kr,kr,kr,trivial⟩)⟩
   ·refine rS [.E (.bool ((c:Int)==40)) (.bool false) (za (beq_eq_false_iff_ne.2 (by omega))),.v] H9 kr fun gsb40 wb40 Hb40=>zm kr kr ?_;by_cases h42:c=42
    ·refine rL [.E (.bool ((c:Int)==42)) (.bool true) (za (beq_iff_eq.2 (by omega))),.v] Hb40 kr fun gsa42 wa42 Ha42=>?_;obtain rfl:gb=true:=by rw [←hgb];exact decide_eq_true (by omega)
     exact ⟨rfl,Ha42.as kr,(Is.of ⟨kr,kr,kr,kr,kr,kr,kr,kr,kr,kr,trivial⟩)⟩
    ·refine rL [.E (.bool ((c:Int)==42)) (.bool false) (za (beq_eq_false_iff_ne.2 (by omega))),.v] Hb40 kr fun gsb42 wb42 Hb42=>?_;obtain rfl:gb=false:=by rw [←hgb];exact decide_eq_false (by omega)
     exact ⟨rfl,Hb42.as kr,(Is.of ⟨kr,kr,kr,kr,kr,kr,kr,kr,kr,kr,trivial⟩)⟩
  rintro _ _ w8 ⟨rfl,H10,_,rfl⟩;refine wW ?_;cases gb with
  | true=>
   have hyes:=of_decide_eq_true hgb;refine zj kr kr<|zd kr ?_;by_cases h4:r.length=4
   ·refine zd kr<|rL [.v,.E (.bool ((r.length:Int)==4)) (.bool true) (za (beq_iff_eq.2 (by omega)))] H10 kr fun gs6 w9 H11=>wW<|zj kr kr<|rS [.v,.s 1,.v] H11 kr fun gs7 w10 H12=>zn kr ?_;have H13:St B w0 w10 ((bd,kdO c none 0 0)::(b2,kdO 0 none 0 0)::(bo,kR cur)::(zI (e::r)++T)):=H12.as kr;refine hbad ?_ _ w10 bd _ _ H13 kr kr;rw [hc];unfold yU;rw [if_neg hnl,if_pos hyes,if_pos];show ((e::r).map _).length=5;rw [List.length_map,List.length_cons,h4]
   ·refine zd kr<|rL [.v,.E (.bool ((r.length:Int)==4)) (.bool false) (za (beq_eq_false_iff_ne.2 (by omega)))] H10 kr fun gs6 w9 H11=>wW<|zm kr kr<|zo kr<|wW<|zg [0,1,2,3,4] kr kr<|rp [.v,.l 0] H11 kr fun gs7 w10 H12=>wX [2,3,4] ?_;have H13:St B w0 w10 ((bd,kdO c none 0 0)::(b2,kdO 0 none 0 0)::(bo,kR cur)::(zI (e::r)++T)):=H12.as kr;refine zcQ H13 (some 44) (fun b=>.slice (some ⟨b,0,none⟩) 1 1) #[.int .u8 (c:Int),.slice none 0 0] 51 (fun w=>by kernel_rfl) kr ?_;intro bn w11 H14;refine zdv (K':=2) H14 (some 45) 49 51 32 (.tmp 42) (.tmp 44) 3 0 bo bn (r.length+1) cap 1 cur #[.int .u8 (c:Int),.slice none 0 0] (zA kS (opE (e::r))) kr kr kr kr kr hRw kr kr rfl (jl rfl) (by omega) (by unfold maxLen;omega) ?_;intro b' cap' cur' w12 H15 hr';have H16:St B w0 w12 ((bn,kR #[.int .u8 (c:Int),.slice none 0 0])::(bd,kdO c none 0 0)::(b2,kdO 0 none 0 0)::(b',kR cur')::(zI (e::r)++T)):=H15;refine rp [.v] H16 kr fun gs8 w13 H17=>wX []<|zb<|yg 1 kr ?_;show Q (.exit 1) _ _;have H18:St B w0 w13 ((bn,kR #[.int .u8 (c:Int),.slice none 0 0])::(bd,kdO c none 0 0)::(b2,kdO 0 none 0 0)::(b',kR cur')::(zI (e::r)++T)):=H17.as kr;refine hQ (⟨c,none,0,0,[],[]⟩::e::r) (r.length+2) T b' cap' cur' _ _ rfl (.inr hBot) (by omega) ?_ ?_ ?_ (H18.sub (List.Sublist.cons _ (List.sublist_cons_self ..))) (Is.of ⟨kr,kr,kr,kr,kr,kr,trivial⟩)
    ·intro x hx;rcases List.mem_cons.1 hx with rfl | hx
     ·exact ⟨.inl ⟨rfl,rfl,rfl,rfl,rfl⟩,(fun _ h=>nomatch h),Nat.zero_le _⟩
     ·exact (hS x hx).mono (fun _ h=>h) (Nat.le_succ _)
    ·rw [hc];unfold yU;rw [if_neg hnl,if_pos hyes,if_neg]
     ·rfl
     ·show ¬((e::r).map _).length=5;rw [List.length_map,List.length_cons];omega
    ·rw [jO];exact hr'
  | false=>
   have hno:=of_decide_eq_false hgb;refine zm kr kr ?_;by_cases h41:c=41
   ·refine rS [.E (.bool ((c:Int)==41)) (.bool true) (za (beq_iff_eq.2 (by omega))),.v] H10 kr fun gs6 w9 H11=>zj kr kr<|zd kr<|zd kr ?_;by_cases hr0:r.length=0
    ·refine rL [.v,.E (.bool ((r.length:Int)==0)) (.bool true) (za (beq_iff_eq.2 (by omega))),.v,.n,.n,.n,.n,.n,.n,.v] H11 kr fun gs7 w10 H12=>wW<|zj kr kr<|rS [.v,.s 1,.v] H12 kr fun gs8 w11 H13=>zn kr ?_;have H14:St B w0 w11 ((bd,kdO c none 0 0)::(b2,kdO 0 none 0 0)::(bo,kR cur)::(zI (e::r)++T)):=H13.as kr;refine hbad ?_ _ w11 bd _ _ H14 kr kr;rw [hc];unfold yU;rw [if_neg hnl,if_neg hno,if_pos h41];show (if (r.map _).length=0∨e.g≠40 then none else some _)=none;rw [if_pos (.inl (by rw [List.length_map];exact hr0))]
    ·by_cases h40:e.g=40
     ·refine rL [.v,.E (.bool ((r.length:Int)==0)) (.bool false) (za (beq_eq_false_iff_ne.2 (by omega))),.v,.v,.v,.o (ins:=[((.tmp 51),.slice (some ⟨bo,0,none⟩) (r.length+1) cap),((.tmp 52),.int .i64 (r.length:Int))]) (v:=.pointer (some ⟨bo,0+r.length*2,none⟩)) (fun ρ o w ho hi2=>ys (kd:=.i64) (t:=49) (e:=51) (K:=2) (bytes:=32) kr (x:=(.tmp 51)) (y:=(.tmp 52)) bo 0 (r.length+1) cap r.length rfl ho hi2.1 hi2.2.1 (by omega) w),.v,.ls 2 (C:=cur) (off:=0+r.length*2) (v:=.int .u8 ((e.g:Nat):Int)) htop.2.2.1,.E (.bool (!(((e.g:Nat):Int)==40))) (.bool false) (za (by rw [h40];rfl)),.v] H11 kr fun gs7 w10 H12=>wW<|zm kr kr<|zo kr<|wW<|dL [.v,.v,.o (ins:=[((.tmp 59),.slice (some ⟨bo,0,none⟩) (r.length+1) cap),((.tmp 60),.int .i64 (r.length:Int))]) (v:=.pointer (some ⟨bo,0+r.length*2,none⟩)) (fun ρ o w ho hi2=>ys (kd:=.i64) (t:=49) (e:=51) (K:=2) (bytes:=32) kr (x:=(.tmp 59)) (y:=(.tmp 60)) bo 0 (r.length+1) cap r.length rfl ho hi2.1 hi2.2.1 (by omega) w),.lp 2 (C:=cur) (off:=0+r.length*2) (n:=2) (W:=#[.int .u8 ((e.g:Nat):Int),.slice e.p e.n e.c]) htop.1 htop.2.1,.v,.v,.o (ins:=[((.tmp 63),.slice (some ⟨bo,0,none⟩) (r.length+1) cap),((.tmp 64),.int .i64 (r.length:Int))]) (v:=.slice (some ⟨bo,0,none⟩) r.length cap) (fun ρ o w ho hi2=>zas (kd:=.i64) (t:=49) (e:=51) (size:=2) (bytes:=32) kr (x:=(.tmp 63)) (y:=(.tmp 64)) bo (r.length+1) cap r.length ho hi2.1 hi2.2.1 (by omega) w),.s 0,.v] H12 kr fun w11 H13=>wW ?_;have H14:St B w0 w11 ((bd,kdO e.g e.p e.n e.c)::(b2,kdO 0 none 0 0)::(bo,kR cur)::(e.row++(zI r++T))):=by
       rw [←List.append_assoc];exact H13.as kr
      have hBr:Bot r:=by
       rcases hBot with ⟨h,_⟩|h
       ·rw [h] at hr0;exact absurd rfl hr0
       ·exact h
      have hst:yU (by_ form i) (stM (e::r))=some (qG e.g (yj e.M) (stM r)):=by
       rw [hc];unfold yU;rw [if_neg hnl,if_neg hno,if_pos h41];show (if (r.map _).length=0∨e.g≠40 then none else some (qG e.g (yj e.M) (stM r)))=_;rw [if_neg (by rw [List.length_map];exact fun h=>h.elim hr0 (fun h=>h h40))]
      refine zbG form b2 bd i _ hi40 r.length _ _ ⟨r,r.length,e.g,e.p,e.n,e.c,yj e.M,e.row++T,bo,cap,cur,rfl,rfl,hBr,by omega,fun x hx=>(hS x (List.mem_cons_of_mem _ hx)).mono (fun y hy=>List.mem_append_right _ hy) (Nat.le_refl _),he.row.rIn (by decide) he.all (by have:=he.le;show e.n≤1000;omega),rfl,Rw.pop (jO _ _▸hRw) (kQ r),H14.perm (List.Perm.cons _ (List.Perm.cons _ (List.Perm.cons _ (List.perm_append_comm_assoc (zI r) e.row T)))),(Is.of ⟨kr,kr,kr,kr,kr,kr,kr,trivial⟩)⟩ ?_;intro S' N' T' bo' cap' cur' ρ' ww' h1 h2 h3 h4 h5 h6 h7 h8;exact hQ S' N' T' bo' cap' cur' ρ' ww' h1 h2 h3 h4 (by rw [hst,h5]) h6 h7 h8
     ·refine rL [.v,.E (.bool ((r.length:Int)==0)) (.bool false) (za (beq_eq_false_iff_ne.2 (by omega))),.v,.v,.v,.o (ins:=[((.tmp 51),.slice (some ⟨bo,0,none⟩) (r.length+1) cap),((.tmp 52),.int .i64 (r.length:Int))]) (v:=.pointer (some ⟨bo,0+r.length*2,none⟩)) (fun ρ o w ho hi2=>ys (kd:=.i64) (t:=49) (e:=51) (K:=2) (bytes:=32) kr (x:=(.tmp 51)) (y:=(.tmp 52)) bo 0 (r.length+1) cap r.length rfl ho hi2.1 hi2.2.1 (by omega) w),.v,.ls 2 (C:=cur) (off:=0+r.length*2) (v:=.int .u8 ((e.g:Nat):Int)) htop.2.2.1,.E (.bool (!(((e.g:Nat):Int)==40))) (.bool true) (za (by rw [beq_eq_false_iff_ne.2 (by omega)];rfl)),.v] H11 kr fun gs7 w10 H12=>wW<|zj kr kr<|rS [.v,.s 1,.v] H12 kr fun gs8 w11 H13=>zn kr ?_;have H14:St B w0 w11 ((bd,kdO c none 0 0)::(b2,kdO 0 none 0 0)::(bo,kR cur)::(zI (e::r)++T)):=H13.as kr;refine hbad ?_ _ w11 bd _ _ H14 kr kr;rw [hc];unfold yU;rw [if_neg hnl,if_neg hno,if_pos h41];show (if (r.map _).length=0∨e.g≠40 then none else some _)=none;rw [if_pos (.inr h40)]
   ·refine rS [.E (.bool ((c:Int)==41)) (.bool false) (za (beq_eq_false_iff_ne.2 (by omega))),.v] H10 kr fun gs6 w9 H11=>zm kr kr<|rS [.v,.s 1,.v] H11 kr fun gs7 w10 H12=>zn kr ?_;have H13:St B w0 w10 ((bd,kdO c none 0 0)::(b2,kdO 0 none 0 0)::(bo,kR cur)::(zI (e::r)++T)):=H12.as kr;refine hbad ?_ _ w10 bd _ _ H13 kr kr;rw [hc];unfold yU;rw [if_neg hnl,if_neg hno,if_neg h41]
def kT (form:ByteArray)(v:Value)(T:List (Nat×Obj)):Prop:=
 (∃(p:Option Addr) (n c:Nat) (k:Kf),parseM form=some k∧v=.tuple #[knd 40 p n c,.bool true]∧RIn kS T p n k)∨
 (parseM form=none∧∃(g:Nat) (p:Option Addr) (n c:Nat),v=.tuple #[knd g p n c,.bool false])
theorem zfa (s:ByteArray)(i:Nat)(h:i<s.size):(tl s).drop i=(tl s).getD i 0::(tl s).drop (i+1):=by
 have h1:i<(tl s).length:=h;rw [List.drop_eq_getElem_cons h1,List.getD_eq_getElem?_getD,List.getElem?_eq_getElem h1];rfl
theorem zfb: ∀ {S:List Sk},Bot S→1≤S.length
 | [],h=>h.elim
 | e::r,_=>by simp
theorem zfc (form:ByteArray):FnT Tryd.prog 23 #[.string form] (fun _=>True) (kT form):=by
 refine FnT.intro (c:=zi Tryd.f23) [.cell 2 51,.tmp 3] 101 Tryd.func23 kr kr kr fun w _=>?_;have H0:=St.start w;refine rS [.a,.v] H0 kr fun gs1 w1 H1=>?_;clear H0;refine zdt kr<|zd kr ?_;by_cases h40:40<form.size
 ·refine rS [.v,.v,.E (.bool (decide ((40:Int)<(ByteArray.size form:Int)))) (.bool true) (za (decide_eq_true (by omega)))] H1 kr fun gs2 w2 H2=>zj kr kr<|rS [.v,.s 0,.v] H2 kr fun gs3 w3 H3=>rRr [.cell 2 51,.tmp 3] [0] (.tuple #[knd 0 none 0 0,.bool false]) (qj w.heap.size w (kT form)) H3 kr ?_;exact ⟨[],.inr ⟨by unfold parseM;rw [if_pos h40],_,_,_,_,rfl⟩,H3.sub (List.nil_sublist _)⟩
 ·refine rS [.v,.v,.E (.bool (decide ((40:Int)<(ByteArray.size form:Int)))) (.bool false) (za (decide_eq_false (by omega)))] H1 kr fun gs2 w2 H2=>zm kr kr<|zo kr<|wW<|rS [.v,.nw (fun b=>.slice (some ⟨b,0,none⟩) 1 1) #[.int .u8 40,.slice none 0 0] 51,.v] H2 kr fun gs3 w3 H3=>zd kr<|zdu 0 kr<|wW<|zd kr<|rS [.v,.v,.v] H3 kr fun gs4 w4 H4=>zw 0 kr ?_;have H5:St w.heap.size w w4 (((gs1 0).b,kdO 0 none 0 0)::((gs3 1).b,kR #[.int .u8 40,.slice none 0 0])::(zI [⟨40,none,0,0,[],[]⟩]++ [])):=H4.as kr;have hpm:parseM form=match qY (tl form) [(40,.nil)] with | some [(_,m)]=>some m | _=>none:=by unfold parseM;rw [if_neg h40]<;>rfl
  clear H1 H2 H3 H4;refine yz kr (fun mz ρ ww=> ∃(i:Nat) (st:List (Nat×Kf)),form.size-i=mz∧i≤form.size∧qY ((tl form).drop i) st=qY (tl form) [(40,.nil)]∧ze8 w.heap.size w form (gs1 0).b i st ρ ww) (form.size-0)
   ⟨0,[(40,.nil)],rfl,Nat.zero_le _,rfl,[⟨40,none,0,0,[],[]⟩],1,[],(gs3 1).b,1,#[.int .u8 40,.slice none 0 0],rfl,.inl ⟨rfl,rfl⟩,by decide,(fun x hx=>by
    obtain rfl:=List.mem_singleton.1 hx
    exact ⟨.inl ⟨rfl,rfl,rfl,rfl,rfl⟩,(fun _ h=>nomatch h),Nat.zero_le _⟩),rfl,⟨rfl,Nat.le_refl _,by unfold maxLen;omega,rfl,rfl⟩,H5,(Is.of ⟨kr,kr,kr,kr,kr,kr,trivial⟩)⟩ ?_
  clear H5;rintro _ _ w5 ⟨i,_,rfl,hi,hst,S,N,T,bo,cap,cur,hN,hBot,hN5,hS,rfl,hRw,H6,_,rfl⟩;by_cases hlt:i<form.size
  ·refine rS [.E (.bool (decide ((i:Int)<(form.size:Int)))) (.bool true) (za (decide_eq_true (by omega)))] H6 kr fun gs5 w6 H7=>zd kr<|zj kr kr<|zo kr<|wW<|zd kr<|zw 1 kr ?_;have H8:St w.heap.size w w6 (((gs1 0).b,kdO 0 none 0 0)::(bo,kR cur)::(zI S++T)):=H7.as kr;have hstep: ∀x,yU (by_ form i) (stM S)=x→qY (tl form) [(40,.nil)]=match x with | none=>none | some st'=>qY ((tl form).drop (i+1)) st':=fun x hx=>by
    rw [←hst,zfa form i hlt,←hx];rfl
   refine ze9 form (gs1 0).b i (by omega) hlt (by omega) S N T bo cap cur hN hBot hN5 hS hRw _ w6 H8 (Is.of ⟨kr,kr,kr,kr,kr,kr,trivial⟩) ?_ ?_
   ·intro hn ρ ww bd o l HS h3 h2;refine wV ?_;refine ⟨[.agg #[.int .u8 0,.slice none 0 0],.bool false],(.agg (b:=(gs1 0).b) #[.int .u8 0,.slice none 0 0] 51 (0,0) h2 (HS.get 1 kr) kr (.tmp (.bool false) h3 .nil)),[],.inr ⟨?_,0,none,0,0,rfl⟩,HS.sub (List.nil_sublist _)⟩;rw [hpm,hstep _ hn]
   ·intro S' N' T' bo' cap' cur' ρ ww h1 h2 h3 h4 h5 h6 h7 ⟨_,h8⟩;subst h8;refine wW<|rL [.E (.int .i64 (IntKind.i64.wrap ((i:Int)+1))) (.int .i64 ((i+1:Nat):Int)) (zp (yA (a:=i) (b:=1) (by omega))),.v] h7 kr fun gs6 w7 H9=>?_;show ∃m,_∧_;exact ⟨_,(by omega),i+1,stM S',rfl,hlt,(hstep _ h5).symm,S',N',T',bo',cap',cur',h1,h2,h3,h4,rfl,h6,H9.as kr,(Is.of ⟨kr,kr,kr,kr,kr,kr,trivial⟩)⟩
  ·obtain rfl:i=form.size:=by omega
   refine rS [.E (.bool (decide ((form.size:Int)<(form.size:Int)))) (.bool false) (za (decide_eq_false (by omega)))] H6 kr fun gs5 w6 H7=>zd kr<|zm kr kr<|yg 0 kr<|wW ?_;have hb1:=zfb hBot;have hend:qY (tl form) [(40,.nil)]=some (stM S):=by
    rw [←hst,List.drop_of_length_le (by rw [yJ];exact Nat.le_refl _)];rfl
   rw [hend] at hpm;obtain ⟨x,hx⟩:∃x,(opE S)[0]? =some x:=⟨_,List.getElem?_eq_getElem (by rw [ud];omega)⟩
   have hat:=hRw.atE (S:=kS) hx;by_cases h1:N=1
   ·refine rS [.v,.o (ins:=[((.tmp 95),.slice (some ⟨bo,0,none⟩) N cap),((.const (.int .i64 0)),.int .i64 0)]) (v:=.pointer (some ⟨bo,0+0*2,none⟩)) (fun ρ o w ho hi2=>ys (kd:=.i64) (t:=49) (e:=51) (K:=2) (bytes:=32) kr (x:=(.tmp 95)) (y:=(.const (.int .i64 0))) bo 0 N cap 0 rfl ho hi2.1 hi2.2.1 (by omega) w),.lp 1 (C:=cur) (off:=0*2) (n:=2) (W:=#[.int .u8 ((x.a:Nat):Int),.slice x.p x.n x.c]) hat.1 hat.2,.v,.v,.E (.bool ((N:Int)==1)) (.bool true) (za (beq_iff_eq.2 (by omega))),.s 0,.v] H7 kr fun gs6 w7 H8=>rRr [.cell 2 51,.tmp 3] [0] (.tuple #[knd x.a x.p x.n x.c,.bool true]) (qj w.heap.size w (kT form)) H8 kr ?_;have H9:St w.heap.size w w7 (((gs1 0).b,kdO x.a x.p x.n x.c)::(bo,kR cur)::(zI S++T)):=H8.as kr;rcases S with _ | ⟨e,_ | ⟨e',r⟩⟩
    ·exact hBot.elim
    ·obtain rfl:e.el=x:=by simpa [opE] using hx
     have he:=hS e (List.mem_cons_self ..);have hg:e.g=40:=by
      rcases hBot with ⟨_,h⟩|h
      ·exact h
      ·exact h.elim
     refine ⟨e.row++T,.inl ⟨e.p,e.n,e.c,yj e.M,?_,?_,he.row.rIn (by decide) he.all (by have:=he.le;show e.n≤1000;omega)⟩,?_⟩
     ·rw [hpm];rfl
     ·show Value.tuple #[knd e.g e.p e.n e.c,.bool true]=_;rw [hg]
     ·have H10:=H9.sub (List.Sublist.cons _ (List.sublist_cons_self ..));have e2:zI [e]++T=e.row++T:=by show (e.row++ [])++T=_;rw [List.append_nil]
      rw [e2] at H10;exact H10
    ·exact absurd (hN.symm.trans h1) (by simp)
   ·refine rS [.v,.o (ins:=[((.tmp 95),.slice (some ⟨bo,0,none⟩) N cap),((.const (.int .i64 0)),.int .i64 0)]) (v:=.pointer (some ⟨bo,0+0*2,none⟩)) (fun ρ o w ho hi2=>ys (kd:=.i64) (t:=49) (e:=51) (K:=2) (bytes:=32) kr (x:=(.tmp 95)) (y:=(.const (.int .i64 0))) bo 0 N cap 0 rfl ho hi2.1 hi2.2.1 (by omega) w),.lp 1 (C:=cur) (off:=0*2) (n:=2) (W:=#[.int .u8 ((x.a:Nat):Int),.slice x.p x.n x.c]) hat.1 hat.2,.v,.v,.E (.bool ((N:Int)==1)) (.bool false) (za (beq_eq_false_iff_ne.2 (by omega))),.s 0,.v] H7 kr fun gs6 w7 H8=>rRr [.cell 2 51,.tmp 3] [0] (.tuple #[knd x.a x.p x.n x.c,.bool false]) (qj w.heap.size w (kT form)) H8 kr ?_;refine ⟨[],.inr ⟨?_,_,_,_,_,rfl⟩,H8.sub (List.nil_sublist _)⟩;rw [hpm];rcases S with _ | ⟨e,_ | ⟨e',r⟩⟩
    ·exact hBot.elim
    ·exact absurd hN h1
    ·rfl
def qo (x:ByteArray×Nat):Value:=.tuple #[.string x.1,.int .i64 ((x.2:Nat):Int)]
theorem zfd (g:Nat)(p:Option Addr)(n c:Nat)(b:Kf)(m:Nat)(s:ByteArray)(p2:Option Addr)(n2 c2:Nat)(l:Fe)(hm:m<0x10000000000000000)(hs:s.size≤0x800000000000):
 FnP Tryd.prog 24 #[knd g p n c,fld m s p2 n2 c2] (fun w=>SlR kS w.heap.size w p n b∧SlR fS w.heap.size w p2 n2 l) (qo (qa g b (m,s) l)):=by
 refine FnP.intro (c:=zi Tryd.f24) [.tmp 4,.tmp 5] 16 Tryd.func24 kr kr kr fun w hpre=>?_;have H0:=St.start w;obtain ⟨hK,hF⟩:=hpre;refine rS [.b,.b,.v,.v] H0 kr fun gs1 w1 H1=>?_;clear H0;refine zd kr ?_;unfold qa;by_cases hl:zC g b (m,s) l 1001<0
 ·rw [if_pos hl];refine rS [.l 0,.l 1,.cp (pre:=fun w=>SlR kS w.heap.size w p n b∧SlR fS w.heap.size w p2 n2 l) (zbB l g p n c b m s p2 n2 c2 1001) [] (fun w hb hd=>⟨hK.call hb,hF.call hb⟩),.E (.bool (decide (zC g b (m,s) l 1001<0))) (.bool true) (za (decide_eq_true hl))] H1 kr fun gs2 w2 H2=>zj kr kr<|rS [.v,.v] H2 kr fun gs3 w3 H3=>?_;exact rR [.tmp 4,.tmp 5] [] (qo (⟨#[]⟩,1)) H3 kr
 ·rw [if_neg hl];refine rS [.l 0,.l 1,.cp (pre:=fun w=>SlR kS w.heap.size w p n b∧SlR fS w.heap.size w p2 n2 l) (zbB l g p n c b m s p2 n2 c2 1001) [] (fun w hb hd=>⟨hK.call hb,hF.call hb⟩),.E (.bool (decide (zC g b (m,s) l 1001<0))) (.bool false) (za (decide_eq_false hl))] H1 kr fun gs2 w2 H2=>zm kr kr<|zo kr<|wW<|zg [0,1,2,3,4,5,6,7] kr kr<|rp [.l 0,.l 1] H2 kr fun gs3 w3 H3=>wX [2,3,4,5,6,7]<|jG H3 (some 12) 37 #[knd g p n c,fld m s p2 n2 c2] (ze6 l g p n c b m s p2 n2 c2 1001 hm (Int.not_lt.1 hl)) ⟨hK.call H3.below,hF.call H3.below⟩ kr kr ?_;intro v T w4 hok H4;obtain ⟨q1,q2,q3,rfl,hsl⟩:=hok;refine qv H4 (some 13) 36 #[itm (yc g) (yq g (m,s)) q1 q2 q3] _ _ (zeT (yc g) (yq g (m,s)) q1 q2 q3 (zX g b l) (zbD hs)) (hsl.at H4 fun e he=>List.mem_append_left _ he) (fun w=>by kernel_rfl) kr ?_;intro w5 H5;rw [hsl.1];have H6:=H5.sub (List.nil_sublist _);refine rp [.v,.v,.v,.v] H6 kr fun gs4 w6 H7=>wX []<|zb ?_;exact rR [.tmp 4,.tmp 5] [] (qo (zW (yc g) (yq g (m,s)) (zX g b l).len (zX g b l))) H7 kr
def wrV (form:ByteArray)(l:Fe):ByteArray×Nat:=match parseM form with
 | none=>(⟨#[]⟩,1)
 | some k=>qa 40 k (0,⟨#[]⟩) l
theorem zbI (form:ByteArray)(p:Option Addr)(n c:Nat)(l:Fe):FnP Tryd.prog 15 #[.string form,.slice p n c] (fun w=>SlR fS w.heap.size w p n l) (qo (wrV form l)):=by
 refine FnP.intro (c:=zi Tryd.f15) [.tmp 4,.tmp 5] 21 Tryd.func15 kr kr kr fun w hF=>?_;have H0:=St.start w;refine rS [.v,.v] H0 kr fun gs1 w1 H1=>?_;clear H0;refine zg [0,1,2,3,4,5,6,7] kr kr<|rp [.v] H1 kr fun gs2 w2 H2=>wX [1,2,3,4,5,6,7]<|jG H2 (some 10) 23 #[.string form] (zfc form) trivial kr kr ?_;intro v T w3 hok H3;unfold wrV;rcases hok with ⟨q1,q2,q3,k,hp,rfl,hk⟩ | ⟨hp,g',q1,q2,q3,rfl⟩
 ·rw [hp];refine rp [.v,.v,.v] H3 kr fun gs3 w4 H4=>wX [5,6,7] ?_;have H5:St w.heap.size w w4 (T++ []):=H4.as kr;refine yh H5 (some 6) 51 (.agg #[.int .u8 0,.slice none 0 0]) kr kr kr ?_;intro b6 w5 H6;refine rp [.s 0,.v] H6 kr fun gs4 w6 H7=>wX []<|zb<|zd kr<|rS [.v,.v] H7 kr fun gs5 w7 H8=>zm kr kr<|zo kr<|wW<|zg [0,1,2,3,4,5,6,7] kr kr<|rp [.l 0,.v,.v] H8 kr fun gs6 w8 H9=>wX [3,4,5,6,7] ?_;have H10:St w.heap.size w w8 ((b6,kdO 40 q1 q2 q3)::(T++ [])):=H9.as kr;refine qv H10 (some 18) 24 #[knd 40 q1 q2 q3,fld 0 ⟨#[]⟩ p n c] _ _ (zfd 40 q1 q2 q3 k 0 ⟨#[]⟩ p n c l (by decide) (by decide)) ⟨hk.at H10 fun e he=>List.mem_cons_of_mem _ (List.mem_append_left _ he),hF.call H10.below⟩ (fun w=>by kernel_rfl) kr ?_;intro w9 H11;have H12:=H11.sub (List.nil_sublist _);refine rp [.v,.v,.v,.v] H12 kr fun gs7 w10 H13=>wX []<|zb ?_;exact rR [.tmp 4,.tmp 5] [] (qo (qa 40 k (0,⟨#[]⟩) l)) H13 kr
 ·rw [hp];refine rp [.v,.v,.v] H3 kr fun gs3 w4 H4=>wX [5,6,7] ?_;have H5:St w.heap.size w w4 (T++ []):=H4.as kr;refine yh H5 (some 6) 51 (.agg #[.int .u8 0,.slice none 0 0]) kr kr kr ?_;intro b6 w5 H6;refine rp [.s 0,.v] H6 kr fun gs4 w6 H7=>wX []<|zb<|zd kr<|rS [.v,.v] H7 kr fun gs5 w7 H8=>zj kr kr ?_;have H9:=H8.sub (List.nil_sublist _);refine rS [.v,.v] H9 kr fun gs6 w8 H10=>?_;exact rR [.tmp 4,.tmp 5] [] (qo (⟨#[]⟩,1)) H10 kr
theorem zfe (l:Bool)(s:ByteArray)(n:Nat)(k:Fo):(zW l s n k).2=0∨(zW l s n k).1=⟨#[]⟩:=by
 unfold zW;split
 ·exact .inr rfl
 ·split
  ·exact .inr rfl
  ·split
   ·exact .inr rfl
   ·exact .inl rfl
theorem zff {k:Kf}{l:Fe}{s:ByteArray}(h:qa 40 k (0,⟨#[]⟩) l=(s,0)): ¬zC 40 k (0,⟨#[]⟩) l 1001<0∧zW true ⟨#[]⟩ (zX 40 k l).len (zX 40 k l)=(s,0):=by
 unfold qa at h;by_cases hl:zC 40 k (0,⟨#[]⟩) l 1001<0
 ·rw [if_pos hl] at h;exact absurd (congrArg Prod.snd h) Nat.one_ne_zero
 ·rw [if_neg hl] at h;exact ⟨hl,h⟩
theorem zfg (k:Kf)(l:Fe):(qa 40 k (0,⟨#[]⟩) l).2=0∨(qa 40 k (0,⟨#[]⟩) l).1=⟨#[]⟩:=by
 unfold qa;split
 ·exact .inr rfl
 ·exact zfe ..
theorem zbJ {form:ByteArray}{ks:List ByteArray}(hK:uc form ks)(l:Fe):wrV form l=if yr ks l=true∧l.cnt≤1000 then zW true emB (yM l 40 (kfL ks) 0).len (yM l 40 (kfL ks) 0) else (emB,1):=by
 unfold wrV;rw [hK.parse];show qa 40 (kfL ks) (0,⟨#[]⟩) l=_;unfold qa;by_cases h:yr ks l=true∧l.cnt≤1000
 ·rw [if_pos h,if_neg ((zbw hK.kd l).2 h)];rfl
 ·rw [if_neg h,if_pos];by_cases hn:zC 40 (kfL ks) (0,⟨#[]⟩) l 1001<0
  ·exact hn
  ·exact absurd ((zbw hK.kd l).1 hn) h
theorem yN {ks:List ByteArray}(x:Nat×ByteArray)(l r:Fe)(i:Nat)(hi:i<ks.length):yM (.cons x l r) 40 (kfL ks) i=.cons (yc (by_ ks[i] 0)) (yq (by_ ks[i] 0) x) (zX (by_ ks[i] 0) (kdB ks[i]) l) (yM r 40 (kfL ks) (i+1)):=by
 rw [vZ,zbq,List.getElem?_eq_getElem hi]
abbrev fO (p:Option Addr)(n c:Nat):Obj:=.cells #[wZ,.string ⟨#[]⟩,.slice p n c] 39 (0,0)
theorem zbK (form:ByteArray)(l:Fe):(wrV form l).1.size≤4000:=by
 unfold wrV;split
 ·exact Nat.zero_le _
 ·rename_i k _
  rcases zfg k l with h|h
  ·have h2:=zff (s:=(qa 40 k (0,⟨#[]⟩) l).1) (Prod.ext rfl h);have:=zeV (show (zW true ⟨#[]⟩ (zX 40 k l).len (zX 40 k l)).2=0 by rw [h2.2]);have h9:=congrArg ByteArray.size this.1;rw [h2.2,qx,this.2.2.2.2.2.2] at h9;simp only at h9;omega
  ·rw [h];exact Nat.zero_le _
theorem zbL {A B:Nat}(h:A<B):cm A B<0:=by unfold cm;split<;>(try split)<;>omega
theorem zbM {A B:Nat}(h: ¬A<B): ¬cm A B<0:=by unfold cm;split<;>(try split)<;>omega
end Go.Proofs.YtbpmjppmpgeejaaDoor
namespace Go.Proofs.YtbpmjppmpgeejaaDoor
set_option linter.unusedVariables false
section
variable {p H Q:Nat}
end
open Go Go.RowKit Go.Proofs.Zm
end Go.Proofs.YtbpmjppmpgeejaaDoor
namespace Go.Proofs.YtbpmjppmpgeejaaDoor
open Go Go.RowKit
set_option linter.unusedVariables false
end Go.Proofs.YtbpmjppmpgeejaaDoor
namespace Go.Proofs.YtbpmjppmpgeejaaDoor
open Go.ChangeShapes Go.WideShapes Go.ChangeAt Go.RowKit
set_option linter.unusedVariables false
def bn (A:Nat):List Int:=[w3 A / 72057594037927936%256,w3 A / 281474976710656%256,w3 A / 1099511627776%256,w3 A / 4294967296%256,w3 A / 16777216%256,w3 A / 65536%256,w3 A / 256%256,w3 A%256,w2 A / 72057594037927936%256,w2 A / 281474976710656%256,w2 A / 1099511627776%256,w2 A / 4294967296%256,w2 A / 16777216%256,w2 A / 65536%256,w2 A / 256%256,w2 A%256,w1 A / 72057594037927936%256,w1 A / 281474976710656%256,w1 A / 1099511627776%256,w1 A / 4294967296%256,w1 A / 16777216%256,w1 A / 65536%256,w1 A / 256%256,w1 A%256,w0 A / 72057594037927936%256,w0 A / 281474976710656%256,w0 A / 1099511627776%256,w0 A / 4294967296%256,w0 A / 16777216%256,w0 A / 65536%256,w0 A / 256%256,w0 A%256]
def bs (A:Nat):ByteArray:=strOfNums (bn A)
theorem zfh (w:World)(O:Obj)(xs:List Int)(n:Nat)(hn:xs.length=n)(C:Array Value)(hC:C=(xs.map (Value.int .u8)).toArray):
 (convert 56 9 (.slice (some ⟨w.heap.size+1,0,none⟩) n n)).run Tryd.prog ((w.alloc O).alloc (.cells C 84))=.ok (.string (strOfNums xs)) ((w.alloc O).alloc (.cells C 84)):=by
 subst hC;refine run_convert_bytes_arg _ 56 5 Tryd.underlying56 Tryd.underlying5 _ 0 n n xs hn ?_ 9 Tryd.underlying9;intro i hi;have h:=heap_alloc2_new w O (.cells (xs.map (Value.int .u8)).toArray 84);rw [cell_of_row _ _ _ _ _ _ h];have hi':i<xs.length:=by omega
 simp [hi']
theorem zfi (A:Nat)(hA:A<big)(w:World):Calls Tryd.prog 39 #[uv A] w fun e w'=>e=.returned (.string (bs A))∧Below w.heap.size w w':=by
 have hc:=fun (O:Obj)=>zfh w O (bn A) 32 rfl _ rfl;simp only [bn,List.map_cons,List.map_nil] at hc;unfold uv
 go_enter Tryd.func39,Tryd.ntmps39
 go_wp2
 go_rounds 33
 go_ret
 exact ⟨rfl,by go_grown⟩
theorem jP (A:Nat):(bs A).size=32:=rfl
end Go.Proofs.YtbpmjppmpgeejaaDoor
namespace Go.Proofs.YtbpmjppmpgeejaaDoor
open Go Go.RowKit
set_option linter.unusedVariables false
def inN (a:Nat):Bool:= !decide (a=0)&&decide (a<NR)
def jQ (a:Nat):Bool:=decide (a<yp 0 a NR)
theorem zfj {a:Nat}(h: ¬a=0):inN a=decide (a<NR):=by unfold inN;rw [decide_eq_false h];rfl
def qp (r s:Nat)(v:Int):Bool:=inN r&&jQ s&&(decide (v=0)||decide (v=1))
def sgv (r s:Nat)(v:Int):Value:=.agg #[.int .u64 (w0 r),.int .u64 (w1 r),.int .u64 (w2 r),.int .u64 (w3 r),.int .u64 (w0 s),.int .u64 (w1 s),.int .u64 (w2 s),.int .u64 (w3 s),.int .i64 v]
def sbs (r s:Nat)(v:Int):ByteArray:=(bs r++bs s)++strOfNums [IntKind.u8.wrap v]
theorem ue (a b:ByteArray):(a++b).size=a.size+b.size:=ByteArray.size_append
theorem zfk (a:Nat)(ha:a<big)(h:a=0):Fn Tryd.prog 55 #[uv a] (.bool false):=by
 refine Fn.intro (c:=zi Tryd.f55) [.tmp 2] 18 Tryd.func55 kr kr kr fun w=>?_;have H0:=St.start w;refine rS [.b,.v] H0 kr fun gs1 w1 H1=>?_;clear H0;refine rS [.c kD,.v,.v,.v,.a,.s 1,.v] H1 kr fun gs2 w2 H2=>?_;clear H1;refine rS [.l 0,.v,.oe (ins:=[((.tmp 9),uv a),((.tmp 10),.agg #[wZ,wZ,wZ,wZ])]) (v:=.bool (!decide (a=0))) (v':=.bool false) (fun ρ o w ho hi=>xx (x:=(.tmp 9)) (y:=(.tmp 10)) a 0 ha (by unfold big;omega) w ho hi.1 hi.2.1) (by rw [decide_eq_true h]<;>rfl),.v,.n,.n,.n,.n,.v,.v] H2 kr fun gs3 w3 H3=>?_;clear H2;refine zn kr<|wV ?_;refine ⟨[.bool false],(.tmp (.bool false) kr .nil),?_,H3.below⟩;rfl
theorem zfl (a:Nat)(ha:a<big)(h: ¬a=0)(h2: ¬a<NR):Fn Tryd.prog 55 #[uv a] (.bool false):=by
 refine Fn.intro (c:=zi Tryd.f55) [.tmp 2] 18 Tryd.func55 kr kr kr fun w=>?_;have H0:=St.start w;refine rS [.b,.v] H0 kr fun gs1 w1 H1=>?_;clear H0;refine rS [.c kD,.v,.v,.v,.a,.s 1,.v] H1 kr fun gs2 w2 H2=>?_;clear H1;refine rS [.l 0,.v,.oe (ins:=[((.tmp 9),uv a),((.tmp 10),.agg #[wZ,wZ,wZ,wZ])]) (v:=.bool (!decide (a=0))) (v':=.bool true) (fun ρ o w ho hi=>xx (x:=(.tmp 9)) (y:=(.tmp 10)) a 0 ha (by unfold big;omega) w ho hi.1 hi.2.1) (by rw [decide_eq_false h]<;>rfl),.v,.l 0,.l 1,.c (xw a NR ha ql.1),.E (.bool (decide (cm a NR<0))) (.bool false) (za (decide_eq_false (zbM h2))),.v,.v] H2 kr fun gs3 w3 H3=>?_;clear H2;refine zn kr<|wV ?_;refine ⟨[.bool false],(.tmp (.bool false) kr .nil),?_,H3.below⟩;rfl
theorem zfm (a:Nat)(ha:a<big)(h: ¬a=0)(h2:a<NR):Fn Tryd.prog 55 #[uv a] (.bool true):=by
 refine Fn.intro (c:=zi Tryd.f55) [.tmp 2] 18 Tryd.func55 kr kr kr fun w=>?_;have H0:=St.start w;refine rS [.b,.v] H0 kr fun gs1 w1 H1=>?_;clear H0;refine rS [.c kD,.v,.v,.v,.a,.s 1,.v] H1 kr fun gs2 w2 H2=>?_;clear H1;refine rS [.l 0,.v,.oe (ins:=[((.tmp 9),uv a),((.tmp 10),.agg #[wZ,wZ,wZ,wZ])]) (v:=.bool (!decide (a=0))) (v':=.bool true) (fun ρ o w ho hi=>xx (x:=(.tmp 9)) (y:=(.tmp 10)) a 0 ha (by unfold big;omega) w ho hi.1 hi.2.1) (by rw [decide_eq_false h]<;>rfl),.v,.l 0,.l 1,.c (xw a NR ha ql.1),.E (.bool (decide (cm a NR<0))) (.bool true) (za (decide_eq_true (zbL h2))),.v,.v] H2 kr fun gs3 w3 H3=>?_;clear H2;refine zn kr<|wV ?_;refine ⟨[.bool true],(.tmp (.bool true) kr .nil),?_,H3.below⟩;rfl
theorem zfn (a:Nat)(ha:a<big):Fn Tryd.prog 55 #[uv a] (.bool (inN a)):=by
 by_cases h:a=0
 ·have:=zfk a ha h;subst h;exact this
 ·rw [zfj h];by_cases h2:a<NR
  ·rw [decide_eq_true h2];exact zfm a ha h h2
  ·rw [decide_eq_false h2];exact zfl a ha h h2
theorem zbN (a:Nat)(ha:a<big):Fn Tryd.prog 71 #[uv a] (uv (yp 0 a NR)):=by
 refine Fn.intro (c:=zi Tryd.f71) [.cell 2 45] 12 Tryd.func71 kr kr kr fun w=>?_;have H0:=St.start w;refine rS [.b,.a] H0 kr fun gs1 w1 H1=>?_;clear H0;refine rS [.v,.l 0,.c (zd4 0 a (by unfold big;omega) ha),.v,.v,.v,.a,.s 2,.v] H1 kr fun gs2 w2 H2=>?_;clear H1;refine rS [.l 2,.s 1] H2 kr fun gs3 w3 H3=>?_;clear H2;refine zn kr<|wV ?_;refine ⟨[uv (yp 0 a NR)],(.agg (b:=(gs1 1).b) (Value.cells (uv (yp 0 a NR))) 45 (0,0) kr (H3.get 1 kr) kr .nil),?_,H3.below⟩;rfl
theorem zfo (a:Nat)(ha:a<big)(h:a<yp 0 a NR):Fn Tryd.prog 56 #[uv a] (.bool true):=by
 refine Fn.intro (c:=zi Tryd.f56) [.tmp 2] 8 Tryd.func56 kr kr kr fun w=>?_;have H0:=St.start w;refine rS [.b,.v] H0 kr fun gs1 w1 H1=>?_;clear H0;refine dS [.l 0,.l 0,.c (zbN a ha),.c (xw a (yp 0 a NR) ha (zaM ql)),.E (.bool (decide (cm a (yp 0 a NR)<0))) (.bool true) (za (decide_eq_true (zbL h))),.v] H1 kr fun w2 H2=>?_;clear H1;refine zn kr<|wV ?_;refine ⟨[.bool true],(.tmp (.bool true) kr .nil),?_,H2.below⟩;rfl
theorem zfp (a:Nat)(ha:a<big)(h: ¬a<yp 0 a NR):Fn Tryd.prog 56 #[uv a] (.bool false):=by
 refine Fn.intro (c:=zi Tryd.f56) [.tmp 2] 8 Tryd.func56 kr kr kr fun w=>?_;have H0:=St.start w;refine rS [.b,.v] H0 kr fun gs1 w1 H1=>?_;clear H0;refine dS [.l 0,.l 0,.c (zbN a ha),.c (xw a (yp 0 a NR) ha (zaM ql)),.E (.bool (decide (cm a (yp 0 a NR)<0))) (.bool false) (za (decide_eq_false (zbM h))),.v] H1 kr fun w2 H2=>?_;clear H1;refine zn kr<|wV ?_;refine ⟨[.bool false],(.tmp (.bool false) kr .nil),?_,H2.below⟩;rfl
theorem zfq (a:Nat)(ha:a<big):Fn Tryd.prog 56 #[uv a] (.bool (jQ a)):=by
 unfold jQ;by_cases h:a<yp 0 a NR
 ·rw [decide_eq_true h];exact zfo a ha h
 ·rw [decide_eq_false h];exact zfp a ha h
theorem zbO (r s:Nat)(hr:r<big)(hs:s<big)(v:Int):Fn Tryd.prog 38 #[sgv r s (v)] (.bool (qp r s v)):=by
 refine Fn.intro (c:=zi Tryd.f38) [.tmp 2] 21 Tryd.func38 kr kr kr fun w=>?_;have H0:=St.start w;refine rS [.b,.v] H0 kr fun gs1 w1 H1=>?_;clear H0;refine zg [0,1,2,3,4,5,6,7,8,9,10,11,12,13,14,15,16,17,18] kr kr<|rp [.v,.l 0,.c (zfn r hr)] H1 kr fun gs2 w2 H2=>wX [3,4,5,6,7,8,9,10,11,12,13,14,15,16,17,18] ?_;clear H1;refine Or.elim (Bool.eq_false_or_eq_true (inN r)).symm (fun hb1=>?_) (fun hb1=>?_)
 ·refine yQ 5 (v:=.bool (inN r)) (v':=.bool false) (za hb1) kr<|rp [.v,.n,.n,.n,.v,.v,.n,.n,.n,.n] H2 kr fun gs3 w3 H3=>wX [13,14,15,16,17,18] ?_;clear H2;refine jz (some 16) kr kr<|jz (some 17) kr kr<|jz (some 18) kr kr<|rp [.n,.v,.v] H3 kr fun gs4 w4 H4=>wX [] ?_;clear H3;refine zb<|zn kr<|wV ?_;refine ⟨[.bool false],(.tmp (.bool false) kr .nil),?_,H4.below⟩;exact congrArg Value.bool (by unfold qp;simp [hb1]<;>omega)
 ·refine yQ 5 (v:=.bool (inN r)) (v':=.bool true) (za hb1) kr<|rp [.v,.v,.l 0,.c (zfq s hs)] H2 kr fun gs5 w5 H5=>wX [7,8,9,10,11,12,13,14,15,16,17,18] ?_;clear H2;refine Or.elim (Bool.eq_false_or_eq_true (jQ s)).symm (fun hb2=>?_) (fun hb2=>?_)
  ·refine yQ 9 (v:=.bool (jQ s)) (v':=.bool false) (za hb2) kr<|rp [.v,.v,.n,.n,.n,.n] H5 kr fun gs6 w6 H6=>wX [13,14,15,16,17,18] ?_;clear H5;refine jz (some 16) kr kr<|jz (some 17) kr kr<|jz (some 18) kr kr<|rp [.n,.v,.v] H6 kr fun gs7 w7 H7=>wX [] ?_;clear H6;refine zb<|zn kr<|wV ?_;refine ⟨[.bool false],(.tmp (.bool false) kr .nil),?_,H7.below⟩;exact congrArg Value.bool (by unfold qp;simp [hb1,hb2]<;>omega)
  ·refine yQ 9 (v:=.bool (jQ s)) (v':=.bool true) (za hb2) kr<|rp [.v,.v,.v,.l 0] H5 kr fun gs8 w8 H8=>wX [11,12,13,14,15,16,17,18] ?_;clear H5;by_cases hc1:(v:Int)=0
   ·refine rp [.E (.bool (v==0)) (.bool true) (za (beq_iff_eq.2 (by omega))),.v,.n,.n,.n,.v,.v,.v] H8 kr fun gs9 w9 H9=>wX [] ?_;clear H8;refine zb<|zn kr<|wV ?_;refine ⟨[.bool true],(.tmp (.bool true) kr .nil),?_,H9.below⟩;exact congrArg Value.bool (by unfold qp;simp [hb1,hb2]<;>omega)
   ·refine rp [.E (.bool (v==0)) (.bool false) (za (beq_eq_false_iff_ne.2 (by omega))),.v,.v,.l 0] H8 kr fun gs10 w10 H10=>wX [15,16,17,18] ?_;clear H8;by_cases hc2:(v:Int)=1
    ·refine rp [.E (.bool (v==1)) (.bool true) (za (beq_iff_eq.2 (by omega))),.v,.v,.v] H10 kr fun gs11 w11 H11=>wX [] ?_;clear H10;refine zb<|zn kr<|wV ?_;refine ⟨[.bool true],(.tmp (.bool true) kr .nil),?_,H11.below⟩;exact congrArg Value.bool (by unfold qp;simp [hb1,hb2]<;>omega)
    ·refine rp [.E (.bool (v==1)) (.bool false) (za (beq_eq_false_iff_ne.2 (by omega))),.v,.v,.v] H10 kr fun gs12 w12 H12=>wX [] ?_;clear H10;refine zb<|zn kr<|wV ?_;refine ⟨[.bool false],(.tmp (.bool false) kr .nil),?_,H12.below⟩;exact congrArg Value.bool (by unfold qp;simp [hb1,hb2]<;>omega)
end Go.Proofs.YtbpmjppmpgeejaaDoor
namespace Go.Proofs.Kec
set_option linter.unusedVariables false
set_option maxRecDepth 10000
abbrev B64:=BitVec 64
def nth (s:List B64)(k:Nat):B64:=s.getD k 0
def rl (x:B64)(n:Nat):B64:=x.rotateLeft n
def jR (v w x:B64):B64:=v ^^^ (x &&& ~~~ w)
def cC (s:List B64)(x:Nat):B64:=nth s x ^^^ nth s (x+5) ^^^ nth s (x+10) ^^^ nth s (x+15) ^^^ nth s (x+20)
def dD (c:Nat→B64)(x:Nat):B64:=c ((x+4)%5) ^^^ rl (c ((x+1)%5)) 1
def zfr:List Nat:=[0,6,12,18,24,3,9,10,16,22,1,7,13,19,20,4,5,11,17,23,2,8,14,15,21]
def zfs:List Nat:=[0,44,43,21,14,28,20,3,45,61,1,6,25,8,18,27,36,10,15,56,62,55,39,41,2]
def th (s:List B64)(i:Nat):B64:=nth s i ^^^ dD (cC s) (i%5)
def pI (s:List B64)(k:Nat):B64:=rl (th s (zfr.getD k 0)) (zfs.getD k 0)
def xI (b:Nat→B64)(k:Nat):B64:=jR (b k) (b (k / 5*5+(k%5+1)%5)) (b (k / 5*5+(k%5+2)%5))
def rnd (s:List B64):List B64:=(List.range 25).map (xI (pI s))
theorem zft (a:B64)(n i:Nat)(hi:i<64):(rl a n).getLsbD i=a.getLsbD ((i+64-n%64)%64):=by
 unfold rl;rw [BitVec.getLsbD_rotateLeft];by_cases h:i<n%64
 ·rw [decide_eq_true h,cond_true];congr 1;omega
 ·rw [decide_eq_false h,cond_false,decide_eq_true hi,Bool.true_and];congr 1;omega
theorem zfu (s:List B64):(rnd s).length=25:=by unfold rnd;simp
def kU (m:B64)(s:List B64):List B64:=(nth s 0 ^^^ m)::s.drop 1
def rm (s:List B64)(m:B64):List B64:=kU m (rnd s)
def marks:List B64:=[0x0000000000000001,0x0000000000008082,0x800000000000808A,0x8000000080008000,
 0x000000000000808B,0x0000000080000001,0x8000000080008081,0x8000000000008009,
 0x000000000000008A,0x0000000000000088,0x0000000080008009,0x000000008000000A,
 0x000000008000808B,0x800000000000008B,0x8000000000008089,0x8000000000008003,
 0x8000000000008002,0x8000000000000080,0x000000000000800A,0x800000008000000A,
 0x8000000080008081,0x8000000000008080,0x0000000080000001,0x8000000080008008]
def mix (s:List B64):List B64:=marks.foldl rm s
theorem zfv (m:B64){s:List B64}(h:s.length=25):(kU m s).length=25:=by unfold kU;simp [h]
theorem zfw (s:List B64)(m:B64):(rm s m).length=25:=zfv m (zfu s)
theorem zbP: ∀(ms:List B64) {s:List B64},s.length=25→(ms.foldl rm s).length=25
 | [],_,h=>h
 | m::ms,s,_=>zbP ms (zfw s m)
theorem zbQ {s:List B64}(h:s.length=25):(mix s).length=25:=zbP _ h
def uf (b:UInt8):B64:=BitVec.ofNat 64 b.toNat
def yx (b:B64)(i:Nat):B64:=b <<< (i%8*8)
def lay (s:List B64)(n:Nat)(b:B64):List B64:=s.set (n / 8) (nth s (n / 8) ^^^ yx b n)
def xE (st:List B64×Nat)(b:UInt8):List B64×Nat:=
 if st.2+1=136 then (mix (lay st.1 st.2 (uf b)),0) else (lay st.1 st.2 (uf b),st.2+1)
def ye (st:List B64×Nat)(l:List UInt8):List B64×Nat:=l.foldl xE st
def jm (st:List B64×Nat):List B64:=lay (lay st.1 st.2 1) 135 0x80
def qd (s:List B64):List UInt8:=(List.range 32).map fun i=>UInt8.ofNat ((nth s (i / 8)).toNat / 2^(i%8*8))
def ja:List B64:=List.replicate 25 0
def sumB (l:List UInt8):List UInt8:=qd (mix (jm (ye (ja,0) l)))
theorem xF {s:List B64}(n:Nat)(b:B64)(h:s.length=25):(lay s n b).length=25:=by unfold lay;simp [h]
structure jo (st:List B64×Nat):Prop where
 len:st.1.length=25
 lt:st.2<136
theorem zfx {st:List B64×Nat}(b:UInt8)(h:jo st):jo (xE st b):=by
 unfold xE;split
 ·exact ⟨zbQ (xF _ _ h.len),(by decide:0<136)⟩
 ·exact ⟨xF _ _ h.len,by have:=h.lt;simp only;omega⟩
theorem zbR: ∀(l:List UInt8) {st:List B64×Nat},jo st→jo (ye st l)
 | [],_,h=>h
 | b::l,st,h=>zbR l (zfx b h)
theorem zfy (st:List B64×Nat)(l m:List UInt8):ye st (l++m)=ye (ye st l) m:=by unfold ye;exact List.foldl_append
theorem zfz (st:List B64×Nat)(l:List UInt8)(b:UInt8):ye st (l++ [b])=xE (ye st l) b:=by rw [zfy];rfl
theorem zero_ok:jo (ja,0):=⟨by decide,by decide⟩
theorem zfA (s:List B64):(qd s).length=32:=by unfold qd;simp
theorem sumB_len (l:List UInt8):(sumB l).length=32:=zfA _
end Go.Proofs.Kec
namespace Go.Proofs.YtbpmjppmpgeejaaDoor.Ke
open Go Go.RowKit Go.Proofs.Kec
set_option linter.unusedVariables false
theorem zfB (x:BitVec 64)(n:Nat)(h:n<64):x <<< n ||| x >>> (64-n)=rl x n:=by
 unfold rl BitVec.rotateLeft BitVec.rotateLeftAux;rw [Nat.mod_eq_of_lt h]
theorem zfC (n:Nat)(h:n<64):Value.int .u64 (Go.bits .and .u64 (n:Int) 63)=.int .u64 (n:Int):=by
 rw [show (63:Int)=((63:Nat):Int) from rfl,u64_and_nat n 63 (by omega) (by omega),show (63:Nat)=2^6-1 from rfl,Nat.and_two_pow_sub_one_eq_mod,Nat.mod_eq_of_lt (by omega)]
theorem zfD (x:BitVec 64)(n:Nat)(hn:n<64):Fn Tryd.prog 72 #[.int .u64 (BitVec.toNat x:Int),.int .i64 (n:Int)] (.int .u64 (BitVec.toNat (rl x n):Int)):=by
 refine Fn.intro (c:=zi Tryd.f72) [.tmp 4] 17 Tryd.func72 kr kr kr fun w=>?_;have H0:=St.start w;refine rS [.v] H0 kr fun gs1 w1 H1=>?_;clear H0;refine rS [.v,.E (.int .u64 (IntKind.u64.wrap ((n:Int)))) (.int .u64 (n:Int)) (zp (vz (a:=n) (by omega))),.E (.int .u64 (Go.bits .and .u64 (n:Int) 63)) (.int .u64 (n:Int)) (zfC n hn),.v] H1 kr fun gs2 w2 H2=>?_;clear H1;refine rS [.v,.v,.E (.int .u64 (IntKind.u64.wrap (((BitVec.toNat x:Int))*2^(min n 64)))) (.int .u64 (BitVec.toNat (x <<< n):Int)) (zaq x n),.v,.v,.E (.int .u64 (IntKind.u64.wrap (64-(n:Int)))) (.int .u64 ((64-n:Nat):Int)) (zp (zc2 (a:=64) (b:=n) (by omega))),.E (.int .u64 (Int.fdiv ((BitVec.toNat x:Int)) (2^(min (64-n) 64)))) (.int .u64 (BitVec.toNat (x >>> (64-n)):Int)) (zar x (64-n)),.E (.int .u64 (Go.bits .or .u64 ((BitVec.toNat (x <<< n):Int)) ((BitVec.toNat (x >>> (64-n)):Int)))) (.int .u64 (BitVec.toNat ((x <<< n) ||| (x >>> (64-n))):Int)) (zc5 (x <<< n) (x >>> (64-n))),.v] H2 kr fun gs3 w3 H3=>?_;clear H2;refine zn kr<|wV ?_;refine ⟨[.int .u64 (BitVec.toNat ((x <<< n) ||| (x >>> (64-n))):Int)],(.tmp (.int .u64 (BitVec.toNat ((x <<< n) ||| (x >>> (64-n))):Int)) kr .nil),?_,H3.below⟩;rw [←zfB x n hn];rfl
theorem zG (x:BitVec 64)(n:Nat)(hn:n<64):Fn Tryd.prog 57 #[.int .u64 (BitVec.toNat x:Int),.int .i64 (n:Int)] (.int .u64 (BitVec.toNat (rl x n):Int)):=by
 refine Fn.intro (c:=zi Tryd.f57) [.tmp 4] 8 Tryd.func57 kr kr kr fun w=>?_;have H0:=St.start w;refine rS [.v] H0 kr fun gs1 w1 H1=>?_;clear H0;refine rS [.v,.v,.c (zfD x n (by omega)),.v] H1 kr fun gs2 w2 H2=>?_;clear H1;refine zn kr<|wV ?_;refine ⟨[.int .u64 (BitVec.toNat (rl x n):Int)],(.tmp (.int .u64 (BitVec.toNat (rl x n):Int)) kr .nil),?_,H2.below⟩;rfl
theorem xG (xa xb xc xd xe:BitVec 64):Fn Tryd.prog 58 #[.int .u64 (BitVec.toNat xa:Int),.int .u64 (BitVec.toNat xb:Int),.int .u64 (BitVec.toNat xc:Int),.int .u64 (BitVec.toNat xd:Int),.int .u64 (BitVec.toNat xe:Int)] (.tuple #[.int .u64 (BitVec.toNat (jR xa xb xc):Int),.int .u64 (BitVec.toNat (jR xb xc xd):Int),.int .u64 (BitVec.toNat (jR xc xd xe):Int),.int .u64 (BitVec.toNat (jR xd xe xa):Int),.int .u64 (BitVec.toNat (jR xe xa xb):Int)]):=by
 refine Fn.intro (c:=zi Tryd.f58) [.tmp 10,.tmp 11,.tmp 12,.tmp 13,.tmp 14] 40 Tryd.func58 kr kr kr fun w=>?_;have H0:=St.start w;refine rS [.v,.v,.v,.v,.v] H0 kr fun gs1 w1 H1=>?_;clear H0;refine rS [.v,.v,.v,.E (.int .u64 (Go.bits .andNot .u64 ((BitVec.toNat xc:Int)) ((BitVec.toNat xb:Int)))) (.int .u64 (BitVec.toNat (xc &&& ~~~xb):Int)) (xo xc xb),.E (.int .u64 (Go.bits .xor .u64 ((BitVec.toNat xa:Int)) ((BitVec.toNat (xc &&& ~~~xb):Int)))) (.int .u64 (BitVec.toNat (xa ^^^ (xc &&& ~~~xb)):Int)) (zq xa (xc &&& ~~~xb)),.v,.v,.v,.E (.int .u64 (Go.bits .andNot .u64 ((BitVec.toNat xd:Int)) ((BitVec.toNat xc:Int)))) (.int .u64 (BitVec.toNat (xd &&& ~~~xc):Int)) (xo xd xc),.E (.int .u64 (Go.bits .xor .u64 ((BitVec.toNat xb:Int)) ((BitVec.toNat (xd &&& ~~~xc):Int)))) (.int .u64 (BitVec.toNat (xb ^^^ (xd &&& ~~~xc)):Int)) (zq xb (xd &&& ~~~xc)),.v,.v,.v,.E (.int .u64 (Go.bits .andNot .u64 ((BitVec.toNat xe:Int)) ((BitVec.toNat xd:Int)))) (.int .u64 (BitVec.toNat (xe &&& ~~~xd):Int)) (xo xe xd),.E (.int .u64 (Go.bits .xor .u64 ((BitVec.toNat xc:Int)) ((BitVec.toNat (xe &&& ~~~xd):Int)))) (.int .u64 (BitVec.toNat (xc ^^^ (xe &&& ~~~xd)):Int)) (zq xc (xe &&& ~~~xd)),.v,.v,.v,.E (.int .u64 (Go.bits .andNot .u64 ((BitVec.toNat xa:Int)) ((BitVec.toNat xe:Int)))) (.int .u64 (BitVec.toNat (xa &&& ~~~xe):Int)) (xo xa xe),.E (.int .u64 (Go.bits .xor .u64 ((BitVec.toNat xd:Int)) ((BitVec.toNat (xa &&& ~~~xe):Int)))) (.int .u64 (BitVec.toNat (xd ^^^ (xa &&& ~~~xe)):Int)) (zq xd (xa &&& ~~~xe)),.v,.v,.v,.E (.int .u64 (Go.bits .andNot .u64 ((BitVec.toNat xb:Int)) ((BitVec.toNat xa:Int)))) (.int .u64 (BitVec.toNat (xb &&& ~~~xa):Int)) (xo xb xa),.E (.int .u64 (Go.bits .xor .u64 ((BitVec.toNat xe:Int)) ((BitVec.toNat (xb &&& ~~~xa):Int)))) (.int .u64 (BitVec.toNat (xe ^^^ (xb &&& ~~~xa)):Int)) (zq xe (xb &&& ~~~xa)),.v,.v,.v,.v,.v] H1 kr fun gs2 w2 H2=>?_;clear H1;refine zn kr<|wV ?_;refine ⟨[.int .u64 (BitVec.toNat (xa ^^^ (xc &&& ~~~xb)):Int),.int .u64 (BitVec.toNat (xb ^^^ (xd &&& ~~~xc)):Int),.int .u64 (BitVec.toNat (xc ^^^ (xe &&& ~~~xd)):Int),.int .u64 (BitVec.toNat (xd ^^^ (xa &&& ~~~xe)):Int),.int .u64 (BitVec.toNat (xe ^^^ (xb &&& ~~~xa)):Int)],(.tmp (.int .u64 (BitVec.toNat (xa ^^^ (xc &&& ~~~xb)):Int)) kr (.tmp (.int .u64 (BitVec.toNat (xb ^^^ (xd &&& ~~~xc)):Int)) kr (.tmp (.int .u64 (BitVec.toNat (xc ^^^ (xe &&& ~~~xd)):Int)) kr (.tmp (.int .u64 (BitVec.toNat (xd ^^^ (xa &&& ~~~xe)):Int)) kr (.tmp (.int .u64 (BitVec.toNat (xe ^^^ (xb &&& ~~~xa)):Int)) kr .nil))))),?_,H2.below⟩;rfl
def svn (s:List (BitVec 64)):Value:=.agg #[.int .u64 (BitVec.toNat (nth s 0):Int),.int .u64 (BitVec.toNat (nth s 1):Int),.int .u64 (BitVec.toNat (nth s 2):Int),.int .u64 (BitVec.toNat (nth s 3):Int),.int .u64 (BitVec.toNat (nth s 4):Int),.int .u64 (BitVec.toNat (nth s 5):Int),.int .u64 (BitVec.toNat (nth s 6):Int),.int .u64 (BitVec.toNat (nth s 7):Int),.int .u64 (BitVec.toNat (nth s 8):Int),.int .u64 (BitVec.toNat (nth s 9):Int),.int .u64 (BitVec.toNat (nth s 10):Int),.int .u64 (BitVec.toNat (nth s 11):Int),.int .u64 (BitVec.toNat (nth s 12):Int),.int .u64 (BitVec.toNat (nth s 13):Int),.int .u64 (BitVec.toNat (nth s 14):Int),.int .u64 (BitVec.toNat (nth s 15):Int),.int .u64 (BitVec.toNat (nth s 16):Int),.int .u64 (BitVec.toNat (nth s 17):Int),.int .u64 (BitVec.toNat (nth s 18):Int),.int .u64 (BitVec.toNat (nth s 19):Int),.int .u64 (BitVec.toNat (nth s 20):Int),.int .u64 (BitVec.toNat (nth s 21):Int),.int .u64 (BitVec.toNat (nth s 22):Int),.int .u64 (BitVec.toNat (nth s 23):Int),.int .u64 (BitVec.toNat (nth s 24):Int)]
theorem rl0 (x:BitVec 64):rl x 0=x:=by
 apply BitVec.eq_of_getLsbD_eq;intro i hi;rw [zft _ _ _ hi];congr 1;omega
theorem pI0 (s:List (BitVec 64)):pI s 0=th s 0:=rl0 _
theorem zfE (s:List (BitVec 64)):Fn Tryd.prog 58 #[.int .u64 (BitVec.toNat (th s 0):Int),.int .u64 (BitVec.toNat (pI s 1):Int),.int .u64 (BitVec.toNat (pI s 2):Int),.int .u64 (BitVec.toNat (pI s 3):Int),.int .u64 (BitVec.toNat (pI s 4):Int)] (.tuple #[.int .u64 (BitVec.toNat (xI (pI s) 0):Int),.int .u64 (BitVec.toNat (xI (pI s) 1):Int),.int .u64 (BitVec.toNat (xI (pI s) 2):Int),.int .u64 (BitVec.toNat (xI (pI s) 3):Int),.int .u64 (BitVec.toNat (xI (pI s) 4):Int)]):=by
 rw [←pI0 s];exact xG (pI s 0) (pI s 1) (pI s 2) (pI s 3) (pI s 4)
theorem zfF (s:List (BitVec 64)):Fn Tryd.prog 45 #[svn s] (svn (rnd s)):=by
 refine Fn.intro (c:=zi Tryd.f45) [.cell 2 64] 288 Tryd.func45 kr kr kr fun w=>?_;have H0:=St.start w;refine rS [.b,.a] H0 kr fun gs1 w1 H1=>?_;clear H0;refine rS [.v,.l 0,.v,.l 0,.E (.int .u64 (Go.bits .xor .u64 ((BitVec.toNat (nth s 0):Int)) ((BitVec.toNat (nth s 5):Int)))) (.int .u64 (BitVec.toNat ((nth s 0) ^^^ (nth s 5)):Int)) (zq (nth s 0) (nth s 5)),.v,.l 0,.E (.int .u64 (Go.bits .xor .u64 ((BitVec.toNat ((nth s 0) ^^^ (nth s 5)):Int)) ((BitVec.toNat (nth s 10):Int)))) (.int .u64 (BitVec.toNat (((nth s 0) ^^^ (nth s 5)) ^^^ (nth s 10)):Int)) (zq ((nth s 0) ^^^ (nth s 5)) (nth s 10)),.v,.l 0,.E (.int .u64 (Go.bits .xor .u64 ((BitVec.toNat (((nth s 0) ^^^ (nth s 5)) ^^^ (nth s 10)):Int)) ((BitVec.toNat (nth s 15):Int)))) (.int .u64 (BitVec.toNat ((((nth s 0) ^^^ (nth s 5)) ^^^ (nth s 10)) ^^^ (nth s 15)):Int)) (zq (((nth s 0) ^^^ (nth s 5)) ^^^ (nth s 10)) (nth s 15)),.v,.l 0,.E (.int .u64 (Go.bits .xor .u64 ((BitVec.toNat ((((nth s 0) ^^^ (nth s 5)) ^^^ (nth s 10)) ^^^ (nth s 15)):Int)) ((BitVec.toNat (nth s 20):Int)))) (.int .u64 (BitVec.toNat (cC s 0):Int)) (zq ((((nth s 0) ^^^ (nth s 5)) ^^^ (nth s 10)) ^^^ (nth s 15)) (nth s 20)),.v] H1 kr fun gs2 w2 H2=>?_;clear H1;refine zS [0,1,2,3] fun ρ1=>?_;have HK1:=H2.keep;clear H2;refine rS [.v,.l 0,.v,.l 0,.E (.int .u64 (Go.bits .xor .u64 ((BitVec.toNat (nth s 1):Int)) ((BitVec.toNat (nth s 6):Int)))) (.int .u64 (BitVec.toNat ((nth s 1) ^^^ (nth s 6)):Int)) (zq (nth s 1) (nth s 6)),.v,.l 0,.E (.int .u64 (Go.bits .xor .u64 ((BitVec.toNat ((nth s 1) ^^^ (nth s 6)):Int)) ((BitVec.toNat (nth s 11):Int)))) (.int .u64 (BitVec.toNat (((nth s 1) ^^^ (nth s 6)) ^^^ (nth s 11)):Int)) (zq ((nth s 1) ^^^ (nth s 6)) (nth s 11)),.v,.l 0,.E (.int .u64 (Go.bits .xor .u64 ((BitVec.toNat (((nth s 1) ^^^ (nth s 6)) ^^^ (nth s 11)):Int)) ((BitVec.toNat (nth s 16):Int)))) (.int .u64 (BitVec.toNat ((((nth s 1) ^^^ (nth s 6)) ^^^ (nth s 11)) ^^^ (nth s 16)):Int)) (zq (((nth s 1) ^^^ (nth s 6)) ^^^ (nth s 11)) (nth s 16)),.v,.l 0,.E (.int .u64 (Go.bits .xor .u64 ((BitVec.toNat ((((nth s 1) ^^^ (nth s 6)) ^^^ (nth s 11)) ^^^ (nth s 16)):Int)) ((BitVec.toNat (nth s 21):Int)))) (.int .u64 (BitVec.toNat (cC s 1):Int)) (zq ((((nth s 1) ^^^ (nth s 6)) ^^^ (nth s 11)) ^^^ (nth s 16)) (nth s 21)),.v] HK1 kr fun gs3 w3 H3=>?_;clear HK1;refine rS [.v,.l 0,.v,.l 0,.E (.int .u64 (Go.bits .xor .u64 ((BitVec.toNat (nth s 2):Int)) ((BitVec.toNat (nth s 7):Int)))) (.int .u64 (BitVec.toNat ((nth s 2) ^^^ (nth s 7)):Int)) (zq (nth s 2) (nth s 7)),.v,.l 0,.E (.int .u64 (Go.bits .xor .u64 ((BitVec.toNat ((nth s 2) ^^^ (nth s 7)):Int)) ((BitVec.toNat (nth s 12):Int)))) (.int .u64 (BitVec.toNat (((nth s 2) ^^^ (nth s 7)) ^^^ (nth s 12)):Int)) (zq ((nth s 2) ^^^ (nth s 7)) (nth s 12)),.v,.l 0,.E (.int .u64 (Go.bits .xor .u64 ((BitVec.toNat (((nth s 2) ^^^ (nth s 7)) ^^^ (nth s 12)):Int)) ((BitVec.toNat (nth s 17):Int)))) (.int .u64 (BitVec.toNat ((((nth s 2) ^^^ (nth s 7)) ^^^ (nth s 12)) ^^^ (nth s 17)):Int)) (zq (((nth s 2) ^^^ (nth s 7)) ^^^ (nth s 12)) (nth s 17)),.v,.l 0,.E (.int .u64 (Go.bits .xor .u64 ((BitVec.toNat ((((nth s 2) ^^^ (nth s 7)) ^^^ (nth s 12)) ^^^ (nth s 17)):Int)) ((BitVec.toNat (nth s 22):Int)))) (.int .u64 (BitVec.toNat (cC s 2):Int)) (zq ((((nth s 2) ^^^ (nth s 7)) ^^^ (nth s 12)) ^^^ (nth s 17)) (nth s 22)),.v] H3 kr fun gs4 w4 H4=>?_;clear H3;refine zS [0,1,2,3,4,5] fun ρ2=>?_;have HK2:=H4.keep;clear H4;refine rS [.v,.l 0,.v,.l 0,.E (.int .u64 (Go.bits .xor .u64 ((BitVec.toNat (nth s 3):Int)) ((BitVec.toNat (nth s 8):Int)))) (.int .u64 (BitVec.toNat ((nth s 3) ^^^ (nth s 8)):Int)) (zq (nth s 3) (nth s 8)),.v,.l 0,.E (.int .u64 (Go.bits .xor .u64 ((BitVec.toNat ((nth s 3) ^^^ (nth s 8)):Int)) ((BitVec.toNat (nth s 13):Int)))) (.int .u64 (BitVec.toNat (((nth s 3) ^^^ (nth s 8)) ^^^ (nth s 13)):Int)) (zq ((nth s 3) ^^^ (nth s 8)) (nth s 13)),.v,.l 0,.E (.int .u64 (Go.bits .xor .u64 ((BitVec.toNat (((nth s 3) ^^^ (nth s 8)) ^^^ (nth s 13)):Int)) ((BitVec.toNat (nth s 18):Int)))) (.int .u64 (BitVec.toNat ((((nth s 3) ^^^ (nth s 8)) ^^^ (nth s 13)) ^^^ (nth s 18)):Int)) (zq (((nth s 3) ^^^ (nth s 8)) ^^^ (nth s 13)) (nth s 18)),.v,.l 0,.E (.int .u64 (Go.bits .xor .u64 ((BitVec.toNat ((((nth s 3) ^^^ (nth s 8)) ^^^ (nth s 13)) ^^^ (nth s 18)):Int)) ((BitVec.toNat (nth s 23):Int)))) (.int .u64 (BitVec.toNat (cC s 3):Int)) (zq ((((nth s 3) ^^^ (nth s 8)) ^^^ (nth s 13)) ^^^ (nth s 18)) (nth s 23)),.v] HK2 kr fun gs5 w5 H5=>?_;clear HK2;refine rS [.v,.l 0,.v,.l 0,.E (.int .u64 (Go.bits .xor .u64 ((BitVec.toNat (nth s 4):Int)) ((BitVec.toNat (nth s 9):Int)))) (.int .u64 (BitVec.toNat ((nth s 4) ^^^ (nth s 9)):Int)) (zq (nth s 4) (nth s 9)),.v,.l 0,.E (.int .u64 (Go.bits .xor .u64 ((BitVec.toNat ((nth s 4) ^^^ (nth s 9)):Int)) ((BitVec.toNat (nth s 14):Int)))) (.int .u64 (BitVec.toNat (((nth s 4) ^^^ (nth s 9)) ^^^ (nth s 14)):Int)) (zq ((nth s 4) ^^^ (nth s 9)) (nth s 14)),.v,.l 0,.E (.int .u64 (Go.bits .xor .u64 ((BitVec.toNat (((nth s 4) ^^^ (nth s 9)) ^^^ (nth s 14)):Int)) ((BitVec.toNat (nth s 19):Int)))) (.int .u64 (BitVec.toNat ((((nth s 4) ^^^ (nth s 9)) ^^^ (nth s 14)) ^^^ (nth s 19)):Int)) (zq (((nth s 4) ^^^ (nth s 9)) ^^^ (nth s 14)) (nth s 19)),.v,.l 0,.E (.int .u64 (Go.bits .xor .u64 ((BitVec.toNat ((((nth s 4) ^^^ (nth s 9)) ^^^ (nth s 14)) ^^^ (nth s 19)):Int)) ((BitVec.toNat (nth s 24):Int)))) (.int .u64 (BitVec.toNat (cC s 4):Int)) (zq ((((nth s 4) ^^^ (nth s 9)) ^^^ (nth s 14)) ^^^ (nth s 19)) (nth s 24)),.v] H5 kr fun gs6 w6 H6=>?_;clear H5;refine zS [0,1,2,3,4,5,6,7] fun ρ3=>?_;have HK3:=H6.keep;clear H6;refine rS [.v,.v,.c (zG (cC s 1) 1 (by omega)),.E (.int .u64 (Go.bits .xor .u64 ((BitVec.toNat (cC s 4):Int)) ((BitVec.toNat (rl (cC s 1) 1):Int)))) (.int .u64 (BitVec.toNat (dD (cC s) 0):Int)) (zq (cC s 4) (rl (cC s 1) 1)),.v] HK3 kr fun gs7 w7 H7=>?_;clear HK3;refine rS [.v,.v,.c (zG (cC s 2) 1 (by omega)),.E (.int .u64 (Go.bits .xor .u64 ((BitVec.toNat (cC s 0):Int)) ((BitVec.toNat (rl (cC s 2) 1):Int)))) (.int .u64 (BitVec.toNat (dD (cC s) 1):Int)) (zq (cC s 0) (rl (cC s 2) 1)),.v] H7 kr fun gs8 w8 H8=>?_;clear H7;refine rS [.v,.v,.c (zG (cC s 3) 1 (by omega)),.E (.int .u64 (Go.bits .xor .u64 ((BitVec.toNat (cC s 1):Int)) ((BitVec.toNat (rl (cC s 3) 1):Int)))) (.int .u64 (BitVec.toNat (dD (cC s) 2):Int)) (zq (cC s 1) (rl (cC s 3) 1)),.v] H8 kr fun gs9 w9 H9=>?_;clear H8;refine rS [.v,.v,.c (zG (cC s 4) 1 (by omega)),.E (.int .u64 (Go.bits .xor .u64 ((BitVec.toNat (cC s 2):Int)) ((BitVec.toNat (rl (cC s 4) 1):Int)))) (.int .u64 (BitVec.toNat (dD (cC s) 3):Int)) (zq (cC s 2) (rl (cC s 4) 1)),.v] H9 kr fun gs10 w10 H10=>?_;clear H9;refine zS [0,1,2,3,4,5,6,7,8,9,10,11] fun ρ4=>?_;have HK4:=H10.keep;clear H10;refine rS [.v,.v,.c (zG (cC s 0) 1 (by omega)),.E (.int .u64 (Go.bits .xor .u64 ((BitVec.toNat (cC s 3):Int)) ((BitVec.toNat (rl (cC s 0) 1):Int)))) (.int .u64 (BitVec.toNat (dD (cC s) 4):Int)) (zq (cC s 3) (rl (cC s 0) 1)),.v] HK4 kr fun gs11 w11 H11=>?_;clear HK4;refine dS [.v,.l 0,.v,.E (.int .u64 (Go.bits .xor .u64 ((BitVec.toNat (nth s 0):Int)) ((BitVec.toNat (dD (cC s) 0):Int)))) (.int .u64 (BitVec.toNat (th s 0):Int)) (zq (nth s 0) (dD (cC s) 0)),.v,.l 0,.v,.E (.int .u64 (Go.bits .xor .u64 ((BitVec.toNat (nth s 6):Int)) ((BitVec.toNat (dD (cC s) 1):Int)))) (.int .u64 (BitVec.toNat (th s 6):Int)) (zq (nth s 6) (dD (cC s) 1)),.c (zG (th s 6) 44 (by omega)),.v,.l 0,.v,.E (.int .u64 (Go.bits .xor .u64 ((BitVec.toNat (nth s 12):Int)) ((BitVec.toNat (dD (cC s) 2):Int)))) (.int .u64 (BitVec.toNat (th s 12):Int)) (zq (nth s 12) (dD (cC s) 2)),.c (zG (th s 12) 43 (by omega)),.v,.l 0,.v,.E (.int .u64 (Go.bits .xor .u64 ((BitVec.toNat (nth s 18):Int)) ((BitVec.toNat (dD (cC s) 3):Int)))) (.int .u64 (BitVec.toNat (th s 18):Int)) (zq (nth s 18) (dD (cC s) 3)),.c (zG (th s 18) 21 (by omega)),.v,.l 0,.v,.E (.int .u64 (Go.bits .xor .u64 ((BitVec.toNat (nth s 24):Int)) ((BitVec.toNat (dD (cC s) 4):Int)))) (.int .u64 (BitVec.toNat (th s 24):Int)) (zq (nth s 24) (dD (cC s) 4)),.c (zG (th s 24) 14 (by omega)),.c (zfE s),.v,.v,.v,.v,.v,.v,.v,.s 1,.v,.s 1,.v,.s 1,.v,.s 1,.v,.s 1] H11 kr fun w12 H12=>?_;clear H11;refine zS [0,1,2,3,4,5,6,7,8,9,10,11,12] fun ρ5=>?_;have HK5:=H12.keep;clear H12;refine dS [.v,.l 0,.v,.E (.int .u64 (Go.bits .xor .u64 ((BitVec.toNat (nth s 3):Int)) ((BitVec.toNat (dD (cC s) 3):Int)))) (.int .u64 (BitVec.toNat (th s 3):Int)) (zq (nth s 3) (dD (cC s) 3)),.c (zG (th s 3) 28 (by omega)),.v,.l 0,.v,.E (.int .u64 (Go.bits .xor .u64 ((BitVec.toNat (nth s 9):Int)) ((BitVec.toNat (dD (cC s) 4):Int)))) (.int .u64 (BitVec.toNat (th s 9):Int)) (zq (nth s 9) (dD (cC s) 4)),.c (zG (th s 9) 20 (by omega)),.v,.l 0,.v,.E (.int .u64 (Go.bits .xor .u64 ((BitVec.toNat (nth s 10):Int)) ((BitVec.toNat (dD (cC s) 0):Int)))) (.int .u64 (BitVec.toNat (th s 10):Int)) (zq (nth s 10) (dD (cC s) 0)),.c (zG (th s 10) 3 (by omega)),.v,.l 0,.v,.E (.int .u64 (Go.bits .xor .u64 ((BitVec.toNat (nth s 16):Int)) ((BitVec.toNat (dD (cC s) 1):Int)))) (.int .u64 (BitVec.toNat (th s 16):Int)) (zq (nth s 16) (dD (cC s) 1)),.c (zG (th s 16) 45 (by omega)),.v,.l 0,.v,.E (.int .u64 (Go.bits .xor .u64 ((BitVec.toNat (nth s 22):Int)) ((BitVec.toNat (dD (cC s) 2):Int)))) (.int .u64 (BitVec.toNat (th s 22):Int)) (zq (nth s 22) (dD (cC s) 2)),.c (zG (th s 22) 61 (by omega)),.c (xG (pI s 5) (pI s 6) (pI s 7) (pI s 8) (pI s 9)),.v,.v,.v,.v,.v,.v,.v,.s 1,.v,.s 1,.v,.s 1,.v,.s 1,.v,.s 1] HK5 kr fun w13 H13=>?_;clear HK5;refine zS [0,1,2,3,4,5,6,7,8,9,10,11,12] fun ρ6=>?_;have HK6:=H13.keep;clear H13;refine dS [.v,.l 0,.v,.E (.int .u64 (Go.bits .xor .u64 ((BitVec.toNat (nth s 1):Int)) ((BitVec.toNat (dD (cC s) 1):Int)))) (.int .u64 (BitVec.toNat (th s 1):Int)) (zq (nth s 1) (dD (cC s) 1)),.c (zG (th s 1) 1 (by omega)),.v,.l 0,.v,.E (.int .u64 (Go.bits .xor .u64 ((BitVec.toNat (nth s 7):Int)) ((BitVec.toNat (dD (cC s) 2):Int)))) (.int .u64 (BitVec.toNat (th s 7):Int)) (zq (nth s 7) (dD (cC s) 2)),.c (zG (th s 7) 6 (by omega)),.v,.l 0,.v,.E (.int .u64 (Go.bits .xor .u64 ((BitVec.toNat (nth s 13):Int)) ((BitVec.toNat (dD (cC s) 3):Int)))) (.int .u64 (BitVec.toNat (th s 13):Int)) (zq (nth s 13) (dD (cC s) 3)),.c (zG (th s 13) 25 (by omega)),.v,.l 0,.v,.E (.int .u64 (Go.bits .xor .u64 ((BitVec.toNat (nth s 19):Int)) ((BitVec.toNat (dD (cC s) 4):Int)))) (.int .u64 (BitVec.toNat (th s 19):Int)) (zq (nth s 19) (dD (cC s) 4)),.c (zG (th s 19) 8 (by omega)),.v,.l 0,.v,.E (.int .u64 (Go.bits .xor .u64 ((BitVec.toNat (nth s 20):Int)) ((BitVec.toNat (dD (cC s) 0):Int)))) (.int .u64 (BitVec.toNat (th s 20):Int)) (zq (nth s 20) (dD (cC s) 0)),.c (zG (th s 20) 18 (by omega)),.c (xG (pI s 10) (pI s 11) (pI s 12) (pI s 13) (pI s 14)),.v,.v,.v,.v,.v,.v,.v,.s 1,.v,.s 1,.v,.s 1,.v,.s 1,.v,.s 1] HK6 kr fun w14 H14=>?_;clear HK6;refine zS [0,1,2,3,4,5,6,7,8,9,10,11,12] fun ρ7=>?_;have HK7:=H14.keep;clear H14;refine dS [.v,.l 0,.v,.E (.int .u64 (Go.bits .xor .u64 ((BitVec.toNat (nth s 4):Int)) ((BitVec.toNat (dD (cC s) 4):Int)))) (.int .u64 (BitVec.toNat (th s 4):Int)) (zq (nth s 4) (dD (cC s) 4)),.c (zG (th s 4) 27 (by omega)),.v,.l 0,.v,.E (.int .u64 (Go.bits .xor .u64 ((BitVec.toNat (nth s 5):Int)) ((BitVec.toNat (dD (cC s) 0):Int)))) (.int .u64 (BitVec.toNat (th s 5):Int)) (zq (nth s 5) (dD (cC s) 0)),.c (zG (th s 5) 36 (by omega)),.v,.l 0,.v,.E (.int .u64 (Go.bits .xor .u64 ((BitVec.toNat (nth s 11):Int)) ((BitVec.toNat (dD (cC s) 1):Int)))) (.int .u64 (BitVec.toNat (th s 11):Int)) (zq (nth s 11) (dD (cC s) 1)),.c (zG (th s 11) 10 (by omega)),.v,.l 0,.v,.E (.int .u64 (Go.bits .xor .u64 ((BitVec.toNat (nth s 17):Int)) ((BitVec.toNat (dD (cC s) 2):Int)))) (.int .u64 (BitVec.toNat (th s 17):Int)) (zq (nth s 17) (dD (cC s) 2)),.c (zG (th s 17) 15 (by omega)),.v,.l 0,.v,.E (.int .u64 (Go.bits .xor .u64 ((BitVec.toNat (nth s 23):Int)) ((BitVec.toNat (dD (cC s) 3):Int)))) (.int .u64 (BitVec.toNat (th s 23):Int)) (zq (nth s 23) (dD (cC s) 3)),.c (zG (th s 23) 56 (by omega)),.c (xG (pI s 15) (pI s 16) (pI s 17) (pI s 18) (pI s 19)),.v,.v,.v,.v,.v,.v,.v,.s 1,.v,.s 1,.v,.s 1,.v,.s 1,.v,.s 1] HK7 kr fun w15 H15=>?_;clear HK7;refine zS [0,1,2,3,4,5,6,7,8,9,10,11,12] fun ρ8=>?_;have HK8:=H15.keep;clear H15;refine dS [.v,.l 0,.v,.E (.int .u64 (Go.bits .xor .u64 ((BitVec.toNat (nth s 2):Int)) ((BitVec.toNat (dD (cC s) 2):Int)))) (.int .u64 (BitVec.toNat (th s 2):Int)) (zq (nth s 2) (dD (cC s) 2)),.c (zG (th s 2) 62 (by omega)),.v,.l 0,.v,.E (.int .u64 (Go.bits .xor .u64 ((BitVec.toNat (nth s 8):Int)) ((BitVec.toNat (dD (cC s) 3):Int)))) (.int .u64 (BitVec.toNat (th s 8):Int)) (zq (nth s 8) (dD (cC s) 3)),.c (zG (th s 8) 55 (by omega)),.v,.l 0,.v,.E (.int .u64 (Go.bits .xor .u64 ((BitVec.toNat (nth s 14):Int)) ((BitVec.toNat (dD (cC s) 4):Int)))) (.int .u64 (BitVec.toNat (th s 14):Int)) (zq (nth s 14) (dD (cC s) 4)),.c (zG (th s 14) 39 (by omega)),.v,.l 0,.v,.E (.int .u64 (Go.bits .xor .u64 ((BitVec.toNat (nth s 15):Int)) ((BitVec.toNat (dD (cC s) 0):Int)))) (.int .u64 (BitVec.toNat (th s 15):Int)) (zq (nth s 15) (dD (cC s) 0)),.c (zG (th s 15) 41 (by omega)),.v,.l 0,.v,.E (.int .u64 (Go.bits .xor .u64 ((BitVec.toNat (nth s 21):Int)) ((BitVec.toNat (dD (cC s) 1):Int)))) (.int .u64 (BitVec.toNat (th s 21):Int)) (zq (nth s 21) (dD (cC s) 1)),.c (zG (th s 21) 2 (by omega)),.c (xG (pI s 20) (pI s 21) (pI s 22) (pI s 23) (pI s 24)),.v,.v,.v,.v,.v,.v,.v,.s 1,.v,.s 1,.v,.s 1,.v,.s 1,.v,.s 1] HK8 kr fun w16 H16=>?_;clear HK8;refine zS [0,1,2,3,4,5,6,7,8,9,10,11,12] fun ρ9=>?_;have HK9:=H16.keep;clear H16;refine rS [.l 1,.s 1] HK9 kr fun gs17 w17 H17=>?_;clear HK9;refine zn kr<|wV ?_;refine ⟨[.agg #[.int .u64 (BitVec.toNat (xI (pI s) 0):Int),.int .u64 (BitVec.toNat (xI (pI s) 1):Int),.int .u64 (BitVec.toNat (xI (pI s) 2):Int),.int .u64 (BitVec.toNat (xI (pI s) 3):Int),.int .u64 (BitVec.toNat (xI (pI s) 4):Int),.int .u64 (BitVec.toNat (xI (pI s) 5):Int),.int .u64 (BitVec.toNat (xI (pI s) 6):Int),.int .u64 (BitVec.toNat (xI (pI s) 7):Int),.int .u64 (BitVec.toNat (xI (pI s) 8):Int),.int .u64 (BitVec.toNat (xI (pI s) 9):Int),.int .u64 (BitVec.toNat (xI (pI s) 10):Int),.int .u64 (BitVec.toNat (xI (pI s) 11):Int),.int .u64 (BitVec.toNat (xI (pI s) 12):Int),.int .u64 (BitVec.toNat (xI (pI s) 13):Int),.int .u64 (BitVec.toNat (xI (pI s) 14):Int),.int .u64 (BitVec.toNat (xI (pI s) 15):Int),.int .u64 (BitVec.toNat (xI (pI s) 16):Int),.int .u64 (BitVec.toNat (xI (pI s) 17):Int),.int .u64 (BitVec.toNat (xI (pI s) 18):Int),.int .u64 (BitVec.toNat (xI (pI s) 19):Int),.int .u64 (BitVec.toNat (xI (pI s) 20):Int),.int .u64 (BitVec.toNat (xI (pI s) 21):Int),.int .u64 (BitVec.toNat (xI (pI s) 22):Int),.int .u64 (BitVec.toNat (xI (pI s) 23):Int),.int .u64 (BitVec.toNat (xI (pI s) 24):Int)]],(.agg (b:=(gs1 1).b) #[.int .u64 (BitVec.toNat (xI (pI s) 0):Int),.int .u64 (BitVec.toNat (xI (pI s) 1):Int),.int .u64 (BitVec.toNat (xI (pI s) 2):Int),.int .u64 (BitVec.toNat (xI (pI s) 3):Int),.int .u64 (BitVec.toNat (xI (pI s) 4):Int),.int .u64 (BitVec.toNat (xI (pI s) 5):Int),.int .u64 (BitVec.toNat (xI (pI s) 6):Int),.int .u64 (BitVec.toNat (xI (pI s) 7):Int),.int .u64 (BitVec.toNat (xI (pI s) 8):Int),.int .u64 (BitVec.toNat (xI (pI s) 9):Int),.int .u64 (BitVec.toNat (xI (pI s) 10):Int),.int .u64 (BitVec.toNat (xI (pI s) 11):Int),.int .u64 (BitVec.toNat (xI (pI s) 12):Int),.int .u64 (BitVec.toNat (xI (pI s) 13):Int),.int .u64 (BitVec.toNat (xI (pI s) 14):Int),.int .u64 (BitVec.toNat (xI (pI s) 15):Int),.int .u64 (BitVec.toNat (xI (pI s) 16):Int),.int .u64 (BitVec.toNat (xI (pI s) 17):Int),.int .u64 (BitVec.toNat (xI (pI s) 18):Int),.int .u64 (BitVec.toNat (xI (pI s) 19):Int),.int .u64 (BitVec.toNat (xI (pI s) 20):Int),.int .u64 (BitVec.toNat (xI (pI s) 21):Int),.int .u64 (BitVec.toNat (xI (pI s) 22):Int),.int .u64 (BitVec.toNat (xI (pI s) 23):Int),.int .u64 (BitVec.toNat (xI (pI s) 24):Int)] 64 (0,0) kr (H17.get 1 kr) kr .nil),?_,H17.below⟩;rfl
def marksC:Array Value:=(Kec.marks.map fun m=>Value.int .u64 (BitVec.toNat m:Int)).toArray
def Marks (w:World):Prop:=∃T fz,w.heap[0]? =some (.cells marksC T fz)
theorem zfG (k q:Nat)(hq:q=k)(h:k<24):marksC[q]? =some (Value.int .u64 (BitVec.toNat (Kec.marks.getD k 0):Int)):=by
 subst hq;have hl:Kec.marks.length=24:=rfl;unfold marksC;simp [hl,h]
def ym (s:List (BitVec 64))(j:Nat):List (BitVec 64):=(Kec.marks.take j).foldl rm s
theorem zfH (s:List (BitVec 64))(j:Nat)(h:j<24):ym s (j+1)=rm (ym s j) (Kec.marks.getD j 0):=by
 have hl:Kec.marks.length=24:=rfl;unfold ym;rw [List.take_add_one,List.foldl_append,List.getElem?_eq_getElem (by omega)];simp [hl,h]
theorem zfI (s:List (BitVec 64)):ym s 24=mix s:=by
 unfold ym mix;rw [List.take_of_length_le (by decide)]
theorem zR (s:List (BitVec 64))(m:BitVec 64)(k:Nat):nth (rm s m) (k+1)=nth (rnd s) (k+1):=by
 unfold rm kU nth;simp
theorem zfJ (s:List (BitVec 64))(m:BitVec 64):((Value.cells (svn (rnd s))).toList.take 0++(Value.cells (.int .u64 (BitVec.toNat (nth (rnd s) 0 ^^^ m):Int))).toList++(Value.cells (svn (rnd s))).toList.drop (0+1)).toArray=Value.cells (svn (rm s m)):=by
 have e1:nth (rm s m) 1=nth (rnd s) 1:=zR s m 0;have e2:nth (rm s m) 2=nth (rnd s) 2:=zR s m 1;have e3:nth (rm s m) 3=nth (rnd s) 3:=zR s m 2;have e4:nth (rm s m) 4=nth (rnd s) 4:=zR s m 3;have e5:nth (rm s m) 5=nth (rnd s) 5:=zR s m 4;have e6:nth (rm s m) 6=nth (rnd s) 6:=zR s m 5;have e7:nth (rm s m) 7=nth (rnd s) 7:=zR s m 6;have e8:nth (rm s m) 8=nth (rnd s) 8:=zR s m 7;have e9:nth (rm s m) 9=nth (rnd s) 9:=zR s m 8;have e10:nth (rm s m) 10=nth (rnd s) 10:=zR s m 9;have e11:nth (rm s m) 11=nth (rnd s) 11:=zR s m 10;have e12:nth (rm s m) 12=nth (rnd s) 12:=zR s m 11;have e13:nth (rm s m) 13=nth (rnd s) 13:=zR s m 12;have e14:nth (rm s m) 14=nth (rnd s) 14:=zR s m 13;have e15:nth (rm s m) 15=nth (rnd s) 15:=zR s m 14;have e16:nth (rm s m) 16=nth (rnd s) 16:=zR s m 15;have e17:nth (rm s m) 17=nth (rnd s) 17:=zR s m 16;have e18:nth (rm s m) 18=nth (rnd s) 18:=zR s m 17;have e19:nth (rm s m) 19=nth (rnd s) 19:=zR s m 18;have e20:nth (rm s m) 20=nth (rnd s) 20:=zR s m 19;have e21:nth (rm s m) 21=nth (rnd s) 21:=zR s m 20;have e22:nth (rm s m) 22=nth (rnd s) 22:=zR s m 21;have e23:nth (rm s m) 23=nth (rnd s) 23:=zR s m 22;have e24:nth (rm s m) 24=nth (rnd s) 24:=zR s m 23;have e0:nth (rm s m) 0=nth (rnd s) 0 ^^^ m:=rfl;unfold svn;rw [e0,e1,e2,e3,e4,e5,e6,e7,e8,e9,e10,e11,e12,e13,e14,e15,e16,e17,e18,e19,e20,e21,e22,e23,e24];rfl
theorem zfK (s:List (BitVec 64))(T:TypeId)(fz:Nat×Nat):FnP Tryd.prog 33 #[svn s] (fun w=>w.heap[0]? =some (.cells marksC T fz)) (svn (mix s)):=by
 refine FnP.intro (c:=zi Tryd.f33) [.cell 2 64] 18 Tryd.func33 kr kr kr fun w hpre=>?_;have H0:=St.start w;refine rS [.b,.a] H0 kr fun gs1 w1 H1=>?_;clear H0;refine zd kr<|rS [.f hpre (zE hpre),.v] H1 kr fun gs2 w2 H2=>?_;clear H1;refine zw 0 kr ?_;have HL1:St w.heap.size w w2 [((gs1 0).b,Obj.cells (Value.cells (svn s)) 64 (0,0)),((gs1 1).b,Obj.cells #[wZ,wZ,wZ,wZ,wZ,wZ,wZ,wZ,wZ,wZ,wZ,wZ,wZ,wZ,wZ,wZ,wZ,wZ,wZ,wZ,wZ,wZ,wZ,wZ,wZ] 64 (0,0))]:=H2.as kr;clear H2;have HM2:St w.heap.size w w2 [((gs1 0).b,Obj.cells (Value.cells (svn (ym s 0))) 64 (0,0)),((gs1 1).b,Obj.cells #[wZ,wZ,wZ,wZ,wZ,wZ,wZ,wZ,wZ,wZ,wZ,wZ,wZ,wZ,wZ,wZ,wZ,wZ,wZ,wZ,wZ,wZ,wZ,wZ,wZ] 64 (0,0))]:=HL1;refine yz kr (fun mz ρ ww=> ∃(j:Nat),24-j=mz∧(j≤24)∧St w.heap.size w ww [((gs1 0).b,Obj.cells (Value.cells (svn (ym s j))) 64 (0,0)),((gs1 1).b,Obj.cells #[wZ,wZ,wZ,wZ,wZ,wZ,wZ,wZ,wZ,wZ,wZ,wZ,wZ,wZ,wZ,wZ,wZ,wZ,wZ,wZ,wZ,wZ,wZ,wZ,wZ] 64 (0,0))]∧Is [(0,svn s),(1,.pointer (some ⟨(gs1 0).b,0,none⟩)),(2,.pointer (some ⟨(gs1 1).b,0,none⟩)),(5,.agg marksC),(6,.int .i64 (j:Int))] ρ) (24-0) ⟨0,rfl,(by omega),HM2,(Is.of ⟨kr,kr,kr,kr,kr,trivial⟩)⟩ ?_;clear HM2;rintro _ _ w3 ⟨j,rfl,hj,H3,_,rfl⟩;by_cases hc3:(j:Nat)<24
 ·refine rS [.E (.bool (decide ((j:Int)<24))) (.bool true) (za (decide_eq_true (by omega)))] H3 kr fun gs4 w4 H4=>?_;clear H3;refine zd kr<|zj kr kr<|zo kr<|wW<|zd kr<|zw 1 kr<|rS [.o (ins:=[((.tmp 5),.agg marksC),((.tmp 6),.int .i64 (j:Int))]) (v:=.int .u64 (BitVec.toNat (List.getD Kec.marks j 0):Int)) (fun ρ o w ho hi=>zdf (t:=85) (e:=22) (kd:=.i64) (n:=24) kr kr kr (x:=(.tmp 5)) (y:=(.tmp 6)) (Value.cells (.agg marksC)) j (.int .u64 (BitVec.toNat (List.getD Kec.marks j 0):Int)) ho hi.1 hi.2.1 (by omega) (zfG j _ (by omega) (by omega)) w),.v] H4 kr fun gs5 w5 H5=>?_;clear H4;refine rS [.l 0,.c (zfF (ym s j)),.s 0] H5 kr fun gs6 w6 H6=>?_;clear H5;refine rL [.v,.l 0,.v,.E (.int .u64 (Go.bits .xor .u64 ((BitVec.toNat (nth (rnd (ym s j)) 0):Int)) ((BitVec.toNat (List.getD Kec.marks j 0):Int)))) (.int .u64 (BitVec.toNat ((nth (rnd (ym s j)) 0) ^^^ (List.getD Kec.marks j 0)):Int)) (zq (nth (rnd (ym s j)) 0) (List.getD Kec.marks j 0)),.v,.se (C:=(Value.cells (svn (rnd (ym s j))))) (C':=(Value.cells (svn (rm (ym s j) (List.getD Kec.marks j 0))))) (off:=0) (v:=.int .u64 (BitVec.toNat ((nth (rnd (ym s j)) 0) ^^^ (List.getD Kec.marks j 0)):Int)) 0 (of_decide_eq_true kr) (zfJ (ym s j) (List.getD Kec.marks j 0))] H6 kr fun gs7 w7 H7=>?_;clear H6;refine wW<|rL [.E (.int .i64 (IntKind.i64.wrap ((j:Int)+1))) (.int .i64 ((j+1:Nat):Int)) (zp (yA (a:=j) (b:=1) (by omega))),.v] H7 kr fun gs8 w8 H8=>?_;clear H7;have HL4:St w.heap.size w w8 [((gs1 0).b,Obj.cells (Value.cells (svn (rm (ym s j) (List.getD Kec.marks j 0)))) 64 (0,0)),((gs1 1).b,Obj.cells #[wZ,wZ,wZ,wZ,wZ,wZ,wZ,wZ,wZ,wZ,wZ,wZ,wZ,wZ,wZ,wZ,wZ,wZ,wZ,wZ,wZ,wZ,wZ,wZ,wZ] 64 (0,0))]:=H8.as kr;clear H8;have HM5:St w.heap.size w w8 [((gs1 0).b,Obj.cells (Value.cells (svn (ym s (j+1)))) 64 (0,0)),((gs1 1).b,Obj.cells #[wZ,wZ,wZ,wZ,wZ,wZ,wZ,wZ,wZ,wZ,wZ,wZ,wZ,wZ,wZ,wZ,wZ,wZ,wZ,wZ,wZ,wZ,wZ,wZ,wZ] 64 (0,0))]:=by rw [zfH s j (by omega)];exact HL4
  show ∃m,_∧_;exact ⟨_,(by omega),(j+1),rfl,(by omega),HM5,(Is.of ⟨kr,kr,kr,kr,kr,trivial⟩)⟩
 ·refine rS [.E (.bool (decide ((j:Int)<24))) (.bool false) (za (decide_eq_false (by omega)))] H3 kr fun gs9 w9 H9=>?_;clear H3;refine zd kr<|zm kr kr<|yg 0 kr<|wW<|rS [.l 0,.s 1] H9 kr fun gs10 w10 H10=>?_;clear H9;refine zn kr<|wV ?_;refine ⟨[svn (ym s j)],(.agg (b:=(gs1 1).b) (Value.cells (svn (ym s j))) 64 (0,0) kr (H10.get 1 kr) kr .nil),?_,H10.below⟩;obtain rfl:j=24:=by omega
  exact congrArg svn (zfI s)
theorem zbS (s:List (BitVec 64)):FnP Tryd.prog 33 #[svn s] Marks (svn (mix s)):=fun w ⟨T,fz,h⟩=>zfK s T fz w h
end Go.Proofs.YtbpmjppmpgeejaaDoor.Ke
