/-
  Texts of the proof,part 3.
-/
import Derived.Test.YtbbdbdndedeokaaGreatDoorProg
import Derived.Recover
import Derived.Test.YtbbdbdndedeokaaGreatDoorSR1
import Derived.Test.YtbbdbdndedeokaaGreatDoorSR2
set_option maxRecDepth 100000
set_option maxHeartbeats 4000000
namespace Go.Proofs.YtbbdbdndedeokaaGreatDoor
open Go Go.RowKit
set_option linter.unusedVariables false
def FnO (P:Program)(f:Nat)(args:Array Value)(v:Value)(p:Nat)(T e:TypeId)(out:List UInt8):Prop:=
 ∀(w0 w:World) (E:List (Nat×Obj)),BE p T e out E→St w0.heap.size w0 w E→Calls P f args w fun r w'=>r=.returned v∧St w0.heap.size w0 w' []
theorem zjF {P:Program}{N:Nat}{ops:Array Oper}{i:Nat}{r:List Nat}{K:Env→World→Prop}{ρ:Env}{w:World}{w0:World}{E:List (Nat×Obj)}(HS:St w0.heap.size w0 w E){p:Nat}{T e:TypeId}{out:List UInt8}(hE:BE p T e out E)(d:Option Nat)(f:Nat)(args:Array Value)(v:Value)(hc:FnO P f args v p T e out)
 (h:opv P ops i ρ w=some (d,true,.ok (.enter f args) w)) (hd:dOK d N=true) (kk: ∀w',St w0.heap.size w0 w' []→WPs P N ops K r (zt ρ d v) w'):WPs P N ops K (i::r) ρ w:=by
 obtain ⟨o,ho,rfl,hw,hr⟩:=yg h;refine WPo.run ho hw fun a ha=>?_;rw [hr,Oper.upon_enter];refine (hc w0 w E hE HS).mono ?_;rintro _ w' ⟨rfl,hS⟩;exact ⟨_,ha.put _ (zX hd) v,kk w' hS⟩
theorem zjG (pb b n cap:Nat)(cur:Array Value)(out:List UInt8)(a:Option Addr)(hn:n=out.length)(hr:Rw 1 cur cap n (cellsB out))(h0:0<n)(hm:n≤0x800000000000)(hcap:cap≠0)(w0 w:World)(H0:St w0.heap.size w0 w [(b,Obj.cells cur 5 (0,0)),(pb,Obj.cells #[.pointer a,.slice (some ⟨b,0,none⟩) n cap] 113 (0,0))]):WP Tryz.prog 14 (zl Tryz.f67) (qf Tryz.prog [.tmp 2] fun v' w'=>v'=.string (zb out)∧St w0.heap.size w0 w' []) (ini #[.pointer (some ⟨pb,0,none⟩)]) w:=by
 refine zi [0] kr kr<|zp (some 2) (.string (⟨#[]⟩)) (fun w=>by kernel_rfl) kr<|zd<|D2.g_sdraw [0,1,2,3,4,5,6,7,8,9,10,11] [(some 3,fun _=>.pointer (some ⟨pb,0,none⟩)),(some 4,fun _=>.pointer (some ⟨pb,0,none⟩)),(some 5,fun _=>.pointer (some ⟨pb,1,none⟩)),(some 6,fun _=>.slice (some ⟨b,0,none⟩) n cap),(some 7,fun _=>.pointer (some ⟨b,0,none⟩)),(some 8,fun _=>.pointer (some ⟨pb,0,none⟩)),(some 9,fun _=>.pointer (some ⟨pb,0,none⟩)),(some 10,fun _=>.pointer (some ⟨pb,1,none⟩)),(some 11,fun _=>.slice (some ⟨b,0,none⟩) n cap),(some 12,fun _=>.int .i64 (n:Int)),(some 13,fun _=>.string (zb out)),(some 2,fun _=>.string (zb out))] (jy w0 [(b,Obj.cells cur 5 (0,0)),(pb,Obj.cells #[.pointer a,.slice (some ⟨b,0,none⟩) n cap] 113 (0,0))] 10) kr kr kr kr H0.drew ⟨?_,?_,?_,?_,?_,?_,?_,?_,?_,?_,?_,?_,trivial⟩ ?_
 ·exact xV rfl (fun g w=>by kernel_rfl)
 ·exact xV rfl (fun g w=>by kernel_rfl)
 ·exact xV rfl (fun g w=>by kernel_rfl)
 ·exact zbD rfl (fun L hN=>(hN.2.2.no 4 10 kr (hN.post 4 kr))) (.load 80 (.tmp 5)) (fun g=>by kernel_rfl) (fun g w o hS ho=>hS.load1_run (j:=1) (b:=pb) (off:=1) (C:=#[.pointer a,.slice (some ⟨b,0,none⟩) n cap]) (T:=113) kr kr kr kr o ho)
 ·exact zbD rfl (fun L hN=>(hN.post 10 kr)) (zbE 80 (.tmp 6)) (fun g=>by kernel_rfl) (fun g w o hS ho=>zjw (a:=⟨b,0,none⟩) (n:=n) (c:=cap) kr (by omega) o ho)
 ·exact xV rfl (fun g w=>by kernel_rfl)
 ·exact xV rfl (fun g w=>by kernel_rfl)
 ·exact xV rfl (fun g w=>by kernel_rfl)
 ·exact zbD rfl (fun L hN=>(hN.2.2.no 9 10 kr (hN.post 9 kr))) (.load 80 (.tmp 10)) (fun g=>by kernel_rfl) (fun g w o hS ho=>hS.load1_run (j:=1) (b:=pb) (off:=1) (C:=#[.pointer a,.slice (some ⟨b,0,none⟩) n cap]) (T:=113) kr kr kr kr o ho)
 ·exact xV rfl (fun g w=>by kernel_rfl)
 ·exact zjv rfl (vY 121 3 (.tmp 7) (.tmp 12)) (fun g=>by kernel_rfl) (fun g w o hS ho=>zjx (j:=0) (b:=b) (n:=n) (cap:=cap) (C:=cur) (e:=5) hS kr kr kr kr kr hr (by omega) (by omega) o ho)
 ·exact xV rfl (fun g w=>by kernel_rfl)
 intro L0 G0 w1 hall HL;clear H0;have H1:St w0.heap.size w0 w1 []:=by unfold jy at HL;rw [hall 10 (Nat.le_of_ble_eq_true kr)] at HL;exact HL
 refine zn kr<|wV ?_;exact ⟨[.string (zb out)],.tmp _ kr .nil,rfl,H1⟩
theorem zjH (pb:Nat)(out:List UInt8)(h0:0<out.length)(hm:out.length≤0x800000000000):FnO Tryz.prog 67 #[.pointer (some ⟨pb,0,none⟩)] (.string (zb out)) pb 113 5 out:=fun w0 w E hE HS=>by
 rcases hE with ⟨a,ha⟩|⟨a,b,n,cap,cur,_,ha,hn,hr⟩
 ·simp at h0
 ·have h9:Calls Tryz.prog 67 #[.pointer (some ⟨pb,0,none⟩)] w fun r w'=> ∃v',r=.returned v'∧(v'=.string (zb out)∧St w0.heap.size w0 w' []):=
   ql (c:=zl Tryz.f67) (rs:=[.tmp 2]) (N:=14) Tryz.func67 kr kr kr (zjG pb b n cap cur out a hn hr (by omega) (by omega) (by have:=hr.le;omega) w0 w HS)
  refine h9.mono ?_;rintro _ w' ⟨v',he,hv,hS⟩;exact ⟨by rw [he,hv],hS⟩
theorem zbG (l:Bool)(s:ByteArray)(p:Option Addr)(n c:Nat)(k:Fo)(hs:s.size≤0x800000000000):FnP Tryz.prog 36 #[.agg #[.bool l,.string s,.slice p n c]] (fun w=>zq w.heap.size w p n k) (vn (yo l s n k)):=by
 refine FnP.intro (c:=zl Tryz.f36) [.tmp 2,.tmp 3] 20 Tryz.func36 kr kr kr fun w hpre=>?_;have H0:=St.start w;have hn:=hpre.1;have hnm:=hpre.2.1;have hdl:=zah k;refine zi [0,1,2] kr kr<|za2 H0 (some 1) 73 (.tmp 0) (.agg #[.bool l,.string s,.slice p n c]) kr kr kr ?_;intro b1 w1 H1;clear H0;refine zp (some 2) (.string (⟨#[]⟩)) (fun w=>by kernel_rfl) kr<|zp (some 3) (.int .i64 0) (fun w=>by kernel_rfl) kr<|zd<|zc kr<|zj 0 kr<|zi [0,1,2,3] kr kr<|kY H1 (some 6) 73 (.tmp 1) 0 b1 #[.bool l,.string s,.slice p n c] 73 (0,0) kr kr kr kr kr<|qd H1 (some 7) 63 #[.agg #[.bool l,.string s,.slice p n c],.int .i64 4000] (fun w=>zq w.heap.size w p n k) (.int .i64 (lfV (lf1 l s n (lfF k) 4000))) (left_fn l s p n c k (by omega) 4000 (by omega)) (zq.call hpre H1.below) (fun w=>by kernel_rfl) kr ?_;intro w2 H2;clear H1;rcases zeb (lf1 l s n (lfF k) 4000) with hv1 | ⟨y,hv1⟩
 ·refine yT 7 (v:=.int .i64 (lfV (lf1 l s n (lfF k) 4000))) (v':=.int .i64 (-1)) (ze (by rw [hv1];rfl)) kr<|zp (some 8) (.bool true) (fun w=>by kernel_rfl) kr<|zp (some 5) (.bool true) (fun w=>by kernel_rfl) kr<|zd<|zg kr kr<|zi [0,1] kr kr<|zp (some 2) (.string (⟨#[]⟩)) (fun w=>by kernel_rfl) kr<|zp (some 3) (.int .i64 1) (fun w=>by kernel_rfl) kr<|zd<|zn kr<|wV ?_;exact ⟨[.string (⟨#[]⟩),.int .i64 1],(.tmp (.string (⟨#[]⟩)) kr (.tmp (.int .i64 1) kr .nil)),(zjc hv1).symm,H2.below⟩
 ·refine yT 7 (v:=.int .i64 (lfV (lf1 l s n (lfF k) 4000))) (v':=.int .i64 (y:Int)) (ze (by rw [hv1];rfl)) kr ?_;have hok:=zjg hv1;have hcn:k.cnt<4000:=hok.2.2;have hwt:=hpre.wt;refine je (some 8) (.bool (decide ((y:Int)<0))) (.bool false) (fun w=>by kernel_rfl) (za (decide_eq_false (by omega))) kr<|zp (some 5) (.bool false) (fun w=>by kernel_rfl) kr<|zd<|zf kr kr<|zi [0,1,2,3] kr kr<|kY H2 (some 10) 73 (.tmp 1) 0 b1 #[.bool l,.string s,.slice p n c] 73 (0,0) kr kr kr kr kr<|qd H2 (some 11) 64 #[.agg #[.bool l,.string s,.slice p n c]] (fun w=>zq w.heap.size w p n k) (.int .i64 ((dp1 l (dpF k):Nat):Int)) (zjl l s p n c k (by omega) (by omega)) (zq.call hpre H2.below) (fun w=>by kernel_rfl) kr ?_;intro w3 H3;clear H2;by_cases hc1:(dp1 l (dpF k):Nat)>8
  ·refine je (some 12) (.bool (decide (8<((dp1 l (dpF k):Nat):Int)))) (.bool true) (fun w=>by kernel_rfl) (za (decide_eq_true (by omega))) kr<|zp (some 9) (.bool true) (fun w=>by kernel_rfl) kr<|zd<|zg kr kr<|zi [0,1] kr kr<|zp (some 2) (.string (⟨#[]⟩)) (fun w=>by kernel_rfl) kr<|zp (some 3) (.int .i64 5) (fun w=>by kernel_rfl) kr<|zd<|zn kr<|wV ?_;exact ⟨[.string (⟨#[]⟩),.int .i64 5],(.tmp (.string (⟨#[]⟩)) kr (.tmp (.int .i64 5) kr .nil)),(zjd hv1 (by omega)).symm,H3.below⟩
  ·refine je (some 12) (.bool (decide (8<((dp1 l (dpF k):Nat):Int)))) (.bool false) (fun w=>by kernel_rfl) (za (decide_eq_false (by omega))) kr<|zp (some 9) (.bool false) (fun w=>by kernel_rfl) kr<|zd<|zf kr kr<|zi [0,1,2,3] kr kr<|kY H3 (some 14) 73 (.tmp 1) 0 b1 #[.bool l,.string s,.slice p n c] 73 (0,0) kr kr kr kr kr<|qd H3 (some 15) 65 #[.agg #[.bool l,.string s,.slice p n c]] (fun w=>zq w.heap.size w p n k) (.int .u64 ((sz1 l s (szF k):Nat):Int)) (zen l s p n c k (by omega) (by omega)) (zq.call hpre H3.below) (fun w=>by kernel_rfl) kr ?_;intro w4 H4;clear H3;by_cases hc2:(sz1 l s (szF k):Nat)>4000
   ·refine je (some 16) (.bool (decide (4000<((sz1 l s (szF k):Nat):Int)))) (.bool true) (fun w=>by kernel_rfl) (za (decide_eq_true (by omega))) kr<|zp (some 13) (.bool true) (fun w=>by kernel_rfl) kr<|zd<|zg kr kr<|zi [0,1] kr kr<|zp (some 2) (.string (⟨#[]⟩)) (fun w=>by kernel_rfl) kr<|zp (some 3) (.int .i64 2) (fun w=>by kernel_rfl) kr<|zd<|zn kr<|wV ?_;exact ⟨[.string (⟨#[]⟩),.int .i64 2],(.tmp (.string (⟨#[]⟩)) kr (.tmp (.int .i64 2) kr .nil)),(zje hv1 (by omega) (by omega)).symm,H4.below⟩
   ·refine je (some 16) (.bool (decide (4000<((sz1 l s (szF k):Nat):Int)))) (.bool false) (fun w=>by kernel_rfl) (za (decide_eq_false (by omega))) kr<|zp (some 13) (.bool false) (fun w=>by kernel_rfl) kr<|zd<|zf kr kr<|zh kr<|wW<|zi [0] kr kr ?_;have hpw:=zjh hok.1 hok.2.1 (show sz1 l s (szF k)≤4000 by omega) (by omega);refine qA H4 (some 4) 113 (.agg #[.pointer none,.slice none 0 0]) kr kr kr ?_;intro b2 w5 H5;clear H4;refine zd<|zi [0,1] kr kr<|kY H5 (some 17) 73 (.tmp 1) 1 b1 #[.bool l,.string s,.slice p n c] 73 (0,0) kr kr kr kr kr ?_;have HD3:St w.heap.size w w5 [(b2,Obj.cells #[.pointer none,.slice none 0 0] 113 (0,0))]:=H5.sub (List.Sublist.cons_cons _ (List.Sublist.cons _ List.Sublist.slnil));have hE0:BE b2 113 5 [] [(b2,Obj.cells #[.pointer none,.slice none 0 0] 113 (0,0))]:=BE.nil none (Or.inl rfl);refine zbC HD3 hE0 (some 18) 66 #[.pointer (some ⟨b2,0,none⟩),.agg #[.bool l,.string s,.slice p n c]] (.tuple #[]) ([]++wr1 l s (szF k) (wrF k)) (fun w=>zq w.heap.size w p n k) (zjE b2 [] l s p n c k hs (by simp only [List.length_nil];omega)) hpre kr kr ?_;intro E1 w6 hE1 H6;clear HD3;refine zd<|zi [0,1,2] kr kr ?_;rw [List.nil_append] at hE1;refine zjF H6 hE1 (some 19) 67 #[.pointer (some ⟨b2,0,none⟩)] (.string (zb (wr1 l s (szF k) (wrF k)))) (zjH b2 (wr1 l s (szF k) (wrF k)) (zai hok.1 hok.2.1 (by omega)).1 (by have h9:=(zai hok.1 hok.2.1 (by omega)).2;omega)) kr kr ?_;intro w7 H7;clear H6;refine zp (some 2) (.string (zb (wr1 l s (szF k) (wrF k)))) (fun w=>by kernel_rfl) kr<|zp (some 3) (.int .i64 0) (fun w=>by kernel_rfl) kr<|zd<|zn kr<|wV ?_;exact ⟨[.string (zb (wr1 l s (szF k) (wrF k))),.int .i64 0],(.tmp (.string (zb (wr1 l s (szF k) (wrF k)))) kr (.tmp (.int .i64 0) kr .nil)),(zjf hv1 (by omega) (by omega)).symm,H7.below⟩
structure X3 where
 l:Bool
 s:ByteArray
 p:Option Addr
 n:Nat
 c:Nat
 k:Fo
def X3.cs (x:X3):List Value:=[.bool x.l,.string x.s,.slice x.p x.n x.c]
def cells3:List X3→List Value
 | []=>[]
 | x::r=>.bool x.l ::.string x.s ::.slice x.p x.n x.c::cells3 r
def toFo:List X3→Fo
 | []=>.nil
 | x::r=>.cons x.l x.s x.k (toFo r)
def qT:List X3→Nat
 | []=>0
 | x::r=>x.k.cnt+qT r
theorem ug: ∀L,(toFo L).len=L.length
 | []=>rfl
 | x::r=>by simp only [toFo,Fo.len,List.length_cons,ug r]
theorem ky: ∀L,(cells3 L).length=L.length*3
 | []=>rfl
 | x::r=>by simp only [cells3,List.length_cons,ky r];omega
theorem zbH: ∀L M,cells3 (L++M)=cells3 L++cells3 M
 | [],M=>rfl
 | x::r,M=>by simp only [List.cons_append,cells3,zbH r M]
theorem zev: ∀L,∀u∈cells3 L,u.oneCell'=true
 | [],u,h=>nomatch h
 | x::r,u,h=>by
  simp only [cells3,List.mem_cons] at h;rcases h with rfl | rfl | rfl | h
  ·rfl
  ·rfl
  ·rfl
  ·exact zev r u h
theorem zew: ∀L M,qT (L++M)=qT L+qT M
 | [],M=>by simp [qT]
 | x::r,M=>by simp only [List.cons_append,qT,zew r M];omega
theorem zex: ∀(L:List X3) (i:Nat) (x:X3),L[i]? =some x→qT (L.drop i)=x.k.cnt+qT (L.drop (i+1))
 | [],_,_,h=>by simp at h
 | y::r,0,x,h=>by simp at h;subst h;simp [qT]
 | y::r,i+1,x,h=>by
  have:=zex r i x (by simpa using h)
  simpa using this
theorem zey: ∀(L:List X3) (i:Nat) (x:X3),L[i]? =some x→(cells3 L)[i*3]? =some (.bool x.l)∧(cells3 L)[i*3+1]? =some (.string x.s)∧(cells3 L)[i*3+2]? =some (.slice x.p x.n x.c)
 | [],_,_,h=>by simp at h
 | y::r,0,x,h=>by simp at h;subst h;exact ⟨rfl,rfl,rfl⟩
 | y::r,i+1,x,h=>by
  obtain ⟨h1,h2,h3⟩:=zey r i x (by simpa using h);rw [show (i+1)*3=i*3+3 by omega];exact ⟨h1,h2,h3⟩
theorem ex3 {C:Array Value}{o:Nat}{a b c:Value}(h1:C[o]? =some a)(h2:C[o+1]? =some b)(h3:C[o+2]? =some c):o+3≤C.size∧C.extract o (o+3)=#[a,b,c]:=by
 have hl:=(Array.getElem?_eq_some_iff.1 h3).1;refine ⟨by omega,?_⟩;apply Array.ext
 ·simp;omega
 ·intro j hj1 hj2;simp at hj1 hj2;rcases (show j=0∨j=1∨j=2 by omega) with rfl | rfl | rfl
  ·have:=(Array.getElem?_eq_some_iff.1 h1).2;simpa using this
  ·have:=(Array.getElem?_eq_some_iff.1 h2).2;simpa using this
  ·have:=(Array.getElem?_eq_some_iff.1 h3).2;simpa using this
theorem Rw.at3 {cur:Array Value}{cap n:Nat}{L:List X3}(h:Rw 3 cur cap n (cells3 L)){i:Nat}{x:X3}(hx:L[i]? =some x):cur[i*3]? =some (.bool x.l)∧cur[i*3+1]? =some (.string x.s)∧cur[i*3+2]? =some (.slice x.p x.n x.c):=by
 have hl:=h.len;rw [ky] at hl;have hi:i<L.length:=(List.getElem?_eq_some_iff.1 hx).1;obtain ⟨h1,h2,h3⟩:=zey L i x hx;refine ⟨?_,?_,?_⟩
 ·rw [h.get _ (by omega)];exact h1
 ·rw [h.get _ (by omega)];exact h2
 ·rw [h.get _ (by omega)];exact h3
def uh (B:Nat)(w:World)(L:List X3):Prop:= ∀x∈L,zq B w x.p x.n x.k∧x.s.size≤0x800000000000
def qG (t limit:Nat):Nat:=if t≤limit then t else limit+1
def Cnt (t limit len u:Nat):Prop:=len≤limit+1∧(len≤limit→len+u=t)∧(limit<len→limit<t)
theorem Cnt.done {t limit len:Nat}(h:Cnt t limit len 0∨∃u,Cnt t limit len u∧limit<len):qG t limit=len:=by
 unfold qG;rcases h with ⟨h1,h2,h3⟩ | ⟨u,⟨h1,h2,h3⟩,h4⟩
 ·by_cases hl:len≤limit
  ·have:=h2 hl;rw [if_pos (by omega)];omega
  ·have:=h3 (by omega);rw [if_neg (by omega)];omega
 ·have:=h3 h4;rw [if_neg (by omega)];omega
theorem Cnt.push {t limit n u kc rc u':Nat}(h:Cnt t limit n (u+(1+kc+rc)))(hn:n≤limit)(hu:u'=u+kc):Cnt t limit (n+1) (u'+rc):=by
 obtain ⟨h1,h2,h3⟩:=h;have:=h2 hn;exact ⟨by omega,fun _=>by omega,fun _=>by omega⟩
theorem Cnt.full {t limit n u v:Nat}(h:Cnt t limit n u)(hn: ¬n≤limit):Cnt t limit n v:=⟨h.1,fun h=>absurd h hn,h.2.2⟩
theorem zjI {M:List X3}{x:X3}{i:Nat}(hi:i+1≤M.length):qT ((M++ [x]).drop (i+1))=qT (M.drop (i+1))+x.k.cnt:=by
 rw [List.drop_append_of_le_length hi,zew];simp [qT]
theorem uh.push {B:Nat}{w:World}{M:List X3}{x:X3}(h:uh B w M)(hx:zq B w x.p x.n x.k)(hs:x.s.size≤0x800000000000):uh B w (M++ [x]):=fun y hy=>by
 rcases List.mem_append.1 hy with hy|hy
 ·exact h y hy
 ·rw [List.mem_singleton.1 hy];exact ⟨hx,hs⟩
theorem zez: ∀m n,n<256^m→dgI (m+1) n=dgI m n
 | 0,n,h=>by
  have:n=0:=by simp at h;exact h
  subst this;rfl
 | m+1,n,h=>by
  unfold dgI;split
  ·rfl
  ·rw [zez m (n / 256) (by rw [Nat.pow_succ] at h;omega)]
theorem zjJ {n:Nat}(h0:n≠0)(h:n<0x10000000000000000):dg n=dg (n / 256)++ [UInt8.ofNat n]:=by
 show dgI 8 n=dgI 8 (n / 256)++_;rw [zez 7 (n / 256) (by show _<72057594037927936;omega)];show (if n=0 then [] else _)=_;rw [if_neg h0]
theorem zjK {n q:Nat}{o:ByteArray}(h0:q≠0)(h:q<0x10000000000000000)(ho:dg n=dg q++tl o):dg n=dg (q / 256)++tl (strOfNums [(BitVec.toNat (BitVec.ofNat 8 (q%256)):Int)]++o):=by
 rw [ho,zjJ h0 h,qg,List.append_assoc];congr 1;show [UInt8.ofNat q]++tl o=[UInt8.ofNat (Int.toNat _)]++tl o;rw [Int.toNat_natCast,BitVec.toNat_ofNat];congr 2;apply UInt8.toNat_inj.1;rw [UInt8.toNat_ofNat',UInt8.toNat_ofNat'];omega
theorem zjL {n:Nat}{o:ByteArray}(ho:dg n=dg 0++tl o):zb (dg n)=o:=by rw [ho];exact ku o
theorem zjM (n:Nat)(hn:n<0x10000000000000000):Fn Tryz.prog 92 #[.int .u64 (n:Int)] (.agg #[.bool false,.string (zb (dg n)),.slice none 0 0]):=by
 refine Fn.intro (c:=zl Tryz.f92) [.cell 2 73] 6 Tryz.func92 kr kr kr fun w=>?_;have H0:=St.start w;refine rS [.a] H0 kr fun gs1 w1 H1=>?_;clear H0;refine rS [.v,.c (zbA n (by omega)),.v,.s 0] H1 kr fun gs2 w2 H2=>?_;clear H1;refine zn kr<|wV ?_;refine ⟨[.agg #[.bool false,.string (zb (dg n)),.slice none 0 0]],(.agg (b:=(gs1 0).b) #[.bool false,.string (zb (dg n)),.slice none 0 0] 73 (0,0) kr (H2.get 0 kr) kr .nil),?_,H2.below⟩;rfl
theorem rwB (s:ByteArray)(h:ByteArray.size s≤maxLen):Rw 1 (cellsB (tl s)).toArray (ByteArray.size s) (ByteArray.size s) (cellsB (tl s)):=
 ⟨by rw [qo,zy];omega,Nat.le_refl _,h,by rw [List.take_of_length_le (by simp [qo,zy])],by simp [qo,zy]⟩
theorem zjN {P:Program}{ρ:Env}{t e:TypeId}{bytes:Nat}(ht:ye P t=some (e,1,bytes)){x y:Operand}{o:Oper}{kd:IntKind}(b n c:Nat)(ho:o.op=.indexAddr t x y)(hx:ev ρ x=.slice (some ⟨b,0,none⟩) n c)(hy:ev ρ y=.int kd 0)(hk:0<n):
 ∀w,(execOp (ev ρ) o).run P w=.ok (.value (.pointer (some ⟨b,0,none⟩))) w:=fun w=>
 jL (P:=P) (kd:=kd) ht b 0 n c 0 ho hx hy hk w
theorem zjO (s:ByteArray)(hs:ByteArray.size s≤1000000):Fn Tryz.prog 38 #[.string s] (.string s):=by
 refine Fn.intro (c:=zl Tryz.f38) [.tmp 2] 18 Tryz.func38 kr kr kr fun w=>?_;have H0:=St.start w;refine zi [0] kr kr<|zp (some 2) (.string (⟨#[]⟩)) (fun w=>by kernel_rfl) kr<|zd<|zc kr<|zi [0,1,2] kr kr<|zp (some 4) (.string s) (fun w=>by kernel_rfl) kr<|zp (some 5) (.int .i64 (ByteArray.size s:Int)) (fun w=>by kernel_rfl) kr ?_;by_cases hc1:(ByteArray.size s:Nat)=0
 ·refine je (some 6) (.bool ((ByteArray.size s:Int)==0)) (.bool true) (fun w=>by kernel_rfl) (za (beq_iff_eq.2 (by omega))) kr<|zd<|zg kr kr<|zi [0] kr kr<|zp (some 2) (.string (⟨#[]⟩)) (fun w=>by kernel_rfl) kr<|zd<|zn kr<|wV ?_;refine ⟨[.string (⟨#[]⟩)],(.tmp (.string (⟨#[]⟩)) kr .nil),?_,H0.below⟩;exact congrArg Value.string (jv (List.eq_nil_of_length_eq_zero (by rw [zy];omega):tl s=[]).symm)
 ·refine je (some 6) (.bool ((ByteArray.size s:Int)==0)) (.bool false) (fun w=>by kernel_rfl) (za (beq_eq_false_iff_ne.2 (by omega))) kr<|zd<|zf kr kr<|zh kr<|wW<|zi [0,1,2,3] kr kr<|zp (some 7) (.string s) (fun w=>by kernel_rfl) kr<|zp (some 8) (.int .i64 (ByteArray.size s:Int)) (fun w=>by kernel_rfl) kr<|zdQ H0 (some 9) 80 5 1 (.int .u8 0) (.tmp 8) (.tmp 8) .i64 .i64 (ByteArray.size s) kr kr kr kr rfl kr kr (by omega) (by unfold maxLen;omega) ?_;intro b_1 cur_2 w1 H1 hr_3;clear H0;have hr_3z:Rw 1 cur_2 (ByteArray.size s) (ByteArray.size s) (cellsB (List.replicate (ByteArray.size s) 0)):=by rw [zdV];exact hr_3
  refine zp (some 3) (.slice (some ⟨b_1,0,none⟩) (ByteArray.size s) (ByteArray.size s)) (fun w=>by kernel_rfl) kr<|zd<|zi [0,1,2] kr kr<|zp (some 10) (.slice (some ⟨b_1,0,none⟩) (ByteArray.size s) (ByteArray.size s)) (fun w=>by kernel_rfl) kr<|zp (some 11) (.string s) (fun w=>by kernel_rfl) kr<|ziy H1 (some 12) 80 9 5 1 (.tmp 10) (.tmp 11) 0 b_1 (ByteArray.size s) (ByteArray.size s) s cur_2 ((cellsB (tl s)).toArray) 5 [(b_1,Obj.cells ((cellsB (tl s)).toArray) 5 (0,0))] kr kr kr kr kr kr (by omega) (Nat.le_of_eq (by have h:=hr_3z.sz;rw [h];omega)) (by rw [List.drop_of_length_le (by have h:=hr_3z.sz;rw [Array.length_toList,h];omega),List.append_nil]) kr ?_;intro w2 H2;clear H1;refine zd<|zi [0,1,2,3,4,5] kr kr<|zp (some 13) (.slice (some ⟨b_1,0,none⟩) (ByteArray.size s) (ByteArray.size s)) (fun w=>by kernel_rfl) kr<|vL (some 14) _ (.pointer (some ⟨b_1,0,none⟩)) kr kr (fun o w ho=>zjN (kd:=.i64) (t:=80) (e:=5) (bytes:=1) kr (x:=(.tmp 13)) (y:=(.const (.int .i64 0))) b_1 (ByteArray.size s) (ByteArray.size s) ho kr kr (by omega) w)<|zp (some 15) (.slice (some ⟨b_1,0,none⟩) (ByteArray.size s) (ByteArray.size s)) (fun w=>by kernel_rfl) kr<|zp (some 16) (.int .i64 (ByteArray.size s:Int)) (fun w=>by kernel_rfl) kr<|ziF H2 (some 17) 121 3 5 (.tmp 14) (.tmp 16) (ByteArray.size s) (ByteArray.size s) (tl s) kr kr kr kr rfl kr kr (rwB s (by unfold maxLen;omega)) (by omega) (by omega) ?_;intro w3 H3;clear H2;refine zp (some 2) (.string (zb (tl s))) (fun w=>by kernel_rfl) kr<|zd<|zn kr<|wV ?_;refine ⟨[.string (zb (tl s))],(.tmp (.string (zb (tl s))) kr .nil),?_,H3.below⟩;rfl
theorem vp (s:ByteArray)(hs:ByteArray.size s≤1000000):Fn Tryz.prog 22 #[.string s] (.string s):=by
 refine Fn.intro (c:=zl Tryz.f22) [.tmp 2] 5 Tryz.func22 kr kr kr fun w=>?_;have H0:=St.start w;refine zi [0] kr kr<|zp (some 2) (.string (⟨#[]⟩)) (fun w=>by kernel_rfl) kr<|zd<|zi [0,1,2] kr kr<|zp (some 3) (.string s) (fun w=>by kernel_rfl) kr<|zdk H0 (some 4) 38 #[.string s] (.string s) (zjO s (by omega)) (fun w=>by kernel_rfl) kr ?_;intro w1 H1;clear H0;refine zp (some 2) (.string s) (fun w=>by kernel_rfl) kr<|zd<|zn kr<|wV ?_;refine ⟨[.string s],(.tmp (.string s) kr .nil),?_,H1.below⟩;rfl
theorem ui {l:Bool}{s:ByteArray}{k:Fo}(h:zS l s k.len=false):(l=true∧s=⟨#[]⟩)∨(l=false∧k=.nil):=by
 unfold zS at h;cases l with
 | true=>
  left;simp at h;exact ⟨rfl,h⟩
 | false=>
  right;simp at h;exact ⟨rfl,len_zero h⟩
def ji (w:World)(p:Option Addr)(L:List X3):Prop:=L=[]∨∃b off,p=some ⟨b,off,none⟩∧ ∀(j:Nat) (u:Value),(cells3 L)[j]? =some u→w.cell? ⟨b,off+j,none⟩=some u
theorem ji.up {w w':World}{p:Option Addr}{L:List X3}(h:ji w p L)(hb:Below w.heap.size w w'):ji w' p L:=by
 rcases h with h|⟨b,off,e,h⟩
 ·exact .inl h
 ·refine .inr ⟨b,off,e,fun j u hj=>?_⟩;have h1:=h j u hj;have hlt:b<w.heap.size:=by
   rcases Nat.lt_or_ge b w.heap.size with q|q
   ·exact q
   ·simp [World.cell?,Array.getElem?_eq_none q] at h1
  rw [←h1];unfold World.cell?;rw [hb.block b hlt]
theorem Rw.cellsAt {cur:Array Value}{cap n:Nat}{L:List X3}(h:Rw 3 cur cap n (cells3 L)){w:World}{b:Nat}{T:TypeId}{fz:Nat×Nat}(hh:w.heap[b]? =some (.cells cur T fz)):n=L.length∧ji w (some ⟨b,0,none⟩) L:=by
 have hl:=h.len;rw [ky] at hl;refine ⟨by omega,.inr ⟨b,0,rfl,fun j u hj=>?_⟩⟩;have hlt:j<n*3:=by have:=(List.getElem?_eq_some_iff.1 hj).1;rw [ky] at this;omega
 rw [Nat.zero_add];simp [World.cell?,hh,h.get j hlt,hj]
def uj (T:TypeId)(mk:Value→Value)(n:Nat)(L:List X3):Nat→Value→World→Prop:=fun B v w'=>
 (n=0∧v=mk (.slice none 0 0))∨∃b cap cur,v=mk (.slice (some ⟨b,0,none⟩) n cap)∧B≤b∧w'.heap[b]? =some (.cells cur T (0,0))∧Rw 3 cur cap n (cells3 L)
section
variable {P:Program}{N:Nat}{ops:Array Oper}{i:Nat}{r:List Nat}{K:Env→World→Prop}{ρ:Env}{w:World}{B:Nat}{w0:World}{l:List (Nat×Obj)}
theorem zeA (HS:St B w0 w l)(d:Option Nat)(f:Nat)(args:Array Value)(pre:World→Prop)(T:TypeId)(mk:Value→Value)(n:Nat)(L:List X3)(hc:FnR P f args pre (uj T mk n L))(hp:pre w)
 (h:opv P ops i ρ w=some (d,true,.ok (.enter f args) w)) (hd:dOK d N=true)
 (k0: ∀w',n=0→St B w0 w' l→WPs P N ops K r (zt ρ d (mk (.slice none 0 0))) w')
 (kk: ∀b cap cur w',St B w0 w' ((b,.cells cur T (0,0))::l)→Rw 3 cur cap n (cells3 L)→WPs P N ops K r (zt ρ d (mk (.slice (some ⟨b,0,none⟩) n cap))) w'):WPs P N ops K (i::r) ρ w:=by
 obtain ⟨o,ho,rfl,hw,hr⟩:=yg h;refine WPo.run ho hw fun a ha=>?_;rw [hr,Oper.upon_enter];refine (hc w hp).mono ?_;rintro e w' ⟨v,rfl,hb,⟨h0,rfl⟩|⟨b,cap,cur,rfl,hle,hh,hr⟩⟩
 ·exact ⟨_,ha.put _ (zX hd) _,k0 w' h0 (HS.call hb)⟩
 ·exact ⟨_,ha.put _ (zX hd) _,kk b cap cur w' (HS.add hb hle hh) hr⟩
theorem zjP (HS:St B w0 w l)(d:Option Nat)(t e:TypeId)(bytes:Nat)(s x:Operand)(j b n m cap c:Nat)(p:Option Addr)(cur:Array Value)(xs:List Value)(L:List X3)(l':Nat→Array Value→List (Nat×Obj))
 (h:opk ops i ρ=some (d,true,yn t s x)) (hd:dOK d N=true) (ht:ye P t=some (e,3,bytes))
 (hs:ev ρ s=.slice (some ⟨b,0,none⟩) n cap) (hj:l[j]? =some (b,.cells cur e (0,0))) (hr:Rw 3 cur cap n xs)
 (hx:ev ρ x=.slice p m c) (hm:m=L.length) (hp:p≠none) (hc:ji w p L)
 (hb:(n+m)*bytes≤0x800000000000) (hmx:n+m≤maxLen)
 (hl': ∀b' cur',l.set j (b',.cells cur' e (0,0))=l' b' cur')
 (kk: ∀b' cap' cur' w',St B w0 w' (l' b' cur')→Rw 3 cur' cap' (n+m) (xs++cells3 L)→WPs P N ops K r (zt ρ d (.slice (some ⟨b',0,none⟩) (n+m) cap')) w'):WPs P N ops K (i::r) ρ w:=by
 obtain ⟨o,ho,rfl,hw,hop⟩:=zI h;obtain ⟨it,z,hu,hi,hz,hsz,hby,hzs,h0⟩:=yY ht;obtain ⟨a,rfl⟩:∃a,p=some a:=by cases p with
  | none=>exact absurd rfl hp
  | some a=>exact ⟨a,rfl⟩
 have hnews: ∀q u,(cells3 L)[q]? =some u→w.cell? (a.add q)=some u:=fun q u hq=>by
  rcases hc with rfl|⟨b',off,e',h9⟩
  ·simp [cells3] at hq
  ·obtain rfl:a=⟨b',off,none⟩:=Option.some.inj e';rw [yX];exact h9 q u hq
 obtain ⟨v',w',hrun,hown,hgr,hnil,hblk⟩:=run_append_own_at (P:=P) w B t o.type e it z 3 bytes hu hi hz hsz hby hzs h0 _ n xs (hr.owns (HS.ge j hj) (HS.get j hj)) a m c (cells3 L) (by rw [ky,hm]) hnews (zev L) hmx hb HS.le;have hown':=hown;rcases hown'.2 with ⟨hv,_⟩|⟨g,cap',cur',rfl,hbg,hg,hnc,hcm,hcs,htk⟩
 ·exact absurd (hnil.1 hv).1 (by simp)
 ·have hgb:g=b∨g=w.heap.size:=by
   rcases hblk with hq|hq
   ·left;injection hq
   ·right;injection hq
  have HS':=HS.grown j hj hgr hgb hg;rw [hl'] at HS';refine WPo.run ho hw fun a' ha=>?_;have hex:(execOp (ev ρ) o).run P w=.ok (.value (.slice (some ⟨g,0,none⟩) (n+m) cap')) w':=by
   unfold execOp;simp only [hop,yn,resolve,invoke,builtin,Sem.run_bind,Sem.run_pure,Result.andThen_ok,List.map_toArray,List.map_cons,List.map_nil,hs,hx,hrun]
  rw [hex,Oper.upon_value];exact ⟨_,ha.put _ (zX hd) _,kk g cap' cur' w' HS' ⟨hown.1,hnc,hcm,htk,hcs⟩⟩
end
section
variable {P:Program}{N:Nat}{ops:Array Oper}{Q:Exit→Env→World→Prop}{K:Env→World→Prop}{ρ:Env}{w:World}{i:Nat}{r:List Nat}{c:Code}
end
def jj (T:List (Nat×Obj)):Fo→Nat→Nat→Prop
 | .nil,_,_=>True
 | .cons l s k r,b,off=>(∃(C:Array Value) (ty:TypeId) (fz:Nat×Nat) (p:Option Addr) (n c:Nat),(b,Obj.cells C ty fz)∈T∧off+3≤C.size∧
  C.extract off (off+3)=#[.bool l,.string s,.slice p n c]∧s.size≤0x800000000000∧n=k.len∧n≤0x800000000000∧(k=.nil∨∃b' off',p=some ⟨b',off',none⟩∧jj T k b' off'))∧jj T r b (off+3)
def yh (T:List (Nat×Obj))(p:Option Addr)(n:Nat)(k:Fo):Prop:=n=k.len∧n≤0x800000000000∧(k=.nil∨∃b off,p=some ⟨b,off,none⟩∧jj T k b off)
theorem jj.mono {T T':List (Nat×Obj)}(h: ∀e∈T,e∈T'): ∀ {k:Fo} {b off:Nat},jj T k b off→jj T' k b off
 | .nil,_,_,_=>trivial
 | .cons l s k r,b,off,⟨⟨C,ty,fz,p,n,c,h1,h2,h3,h4,h5,h6,h7⟩,h8⟩=>⟨⟨C,ty,fz,p,n,c,h _ h1,h2,h3,h4,h5,h6,h7.imp id fun ⟨b',o',e,q⟩=>⟨b',o',e,jj.mono h q⟩⟩,jj.mono h h8⟩
theorem yh.mono {T T':List (Nat×Obj)}{p:Option Addr}{n:Nat}{k:Fo}(hs:yh T p n k)(h: ∀e∈T,e∈T'):yh T' p n k:=
 ⟨hs.1,hs.2.1,hs.2.2.imp id fun ⟨b,o,e,q⟩=>⟨b,o,e,q.mono h⟩⟩
theorem jj.at {B:Nat}{w0 w:World}{l T:List (Nat×Obj)}(hS:St B w0 w l)(h: ∀e∈T,e∈l): ∀ {k:Fo} {b off:Nat},jj T k b off→qW w.heap.size w k b off
 | .nil,_,_,_=>trivial
 | .cons l s k r,b,off,⟨⟨C,ty,fz,p,n,c,h1,h2,h3,h4,h5,h6,h7⟩,h8⟩=>
  have hh:=(hS.own _ (h _ h1)).2
  ⟨⟨C,ty,fz,p,n,c,zC hh,hh,h2,h3,h4,h5,h6,h7.imp id fun ⟨b',o',e,q⟩=>⟨b',o',e,jj.at hS h q⟩⟩,jj.at hS h h8⟩
theorem yh.at {B:Nat}{w0 w:World}{l T:List (Nat×Obj)}{p:Option Addr}{n:Nat}{k:Fo}(hs:yh T p n k)(hS:St B w0 w l)(h: ∀e∈T,e∈l):zq w.heap.size w p n k:=
 ⟨hs.1,hs.2.1,hs.2.2.imp id fun ⟨b,o,e,q⟩=>⟨b,o,e,q.at hS h⟩⟩
def AllIn (T:List (Nat×Obj))(L:List X3):Prop:= ∀x∈L,yh T x.p x.n x.k∧x.s.size≤0x800000000000
theorem zeB {T:List (Nat×Obj)}{b:Nat}{C:Array Value}{ty:TypeId}{fz:Nat×Nat}(hm:(b,Obj.cells C ty fz)∈T): ∀(L:List X3) (o:Nat),
 (∀(i:Nat) (x:X3),L[i]? =some x→C[o+i*3]? =some (.bool x.l)∧C[o+i*3+1]? =some (.string x.s)∧C[o+i*3+2]? =some (.slice x.p x.n x.c))→AllIn T L→jj T (toFo L) b o
 | [],_,_,_=>trivial
 | x::r,o,h,hA=>by
  obtain ⟨h1,h2,h3⟩:=h 0 x rfl;simp only [Nat.zero_mul,Nat.add_zero] at h1 h2 h3;have ha:=hA x (List.mem_cons_self ..);refine ⟨⟨C,ty,fz,x.p,x.n,x.c,hm,(ex3 h1 h2 h3).1,(ex3 h1 h2 h3).2,ha.2,ha.1.1,ha.1.2.1,ha.1.2.2⟩,?_⟩;refine zeB hm r (o+3) (fun i y hy=>?_) fun y hy=>hA y (List.mem_cons_of_mem _ hy);have:=h (i+1) y (by simpa using hy);rw [show o+(i+1)*3=o+3+i*3 by omega] at this;exact this
theorem Rw.slIn {cur:Array Value}{cap n:Nat}{L:List X3}(h:Rw 3 cur cap n (cells3 L)){T:List (Nat×Obj)}{b:Nat}{ty:TypeId}{fz:Nat×Nat}(hm:(b,Obj.cells cur ty fz)∈T)(hA:AllIn T L)(hn:n≤0x800000000000):yh T (some ⟨b,0,none⟩) n (toFo L):=by
 have hl:=h.len;rw [ky] at hl;refine ⟨by rw [ug];omega,hn,.inr ⟨b,0,rfl,zeB hm L 0 (fun i x hx=>?_) hA⟩⟩;have:=h.at3 hx;rw [Nat.zero_add];exact this
section
variable {P:Program}{N:Nat}{ops:Array Oper}{Q:Exit→Env→World→Prop}{K:Env→World→Prop}{ρ:Env}{w w0:World}{i B:Nat}{r:List Nat}{l:List (Nat×Obj)}
end
theorem yh.none (T:List (Nat×Obj)):yh T none 0 .nil:=⟨rfl,by omega,.inl rfl⟩
end Go.Proofs.YtbbdbdndedeokaaGreatDoor
namespace Go.Proofs.YtbbdbdndedeokaaGreatDoor.D2
open Go Go.RowKit
set_option linter.unusedVariables false
section
variable {P:Program}{N:Nat}{ops:Array Oper}{Q:Exit→Env→World→Prop}{K:Env→World→Prop}{ρ:Env}{w:World}{vs:List (Option Nat×(Gh→Value))}{pre:(Nat→Bool)→(Nat→Gh)→World→Prop}{Bad:List PanicEntry→World→Prop}
end
end Go.Proofs.YtbbdbdndedeokaaGreatDoor.D2
namespace Go.Proofs.YtbbdbdndedeokaaGreatDoor
open Go Go.RowKit
set_option linter.unusedVariables false
abbrev xc (x:X3):Array Value:=#[.bool x.l,.string x.s,.slice x.p x.n x.c]
section
variable {P:Program}{ρ:Env}{w w0:World}{B:Nat}{l:List (Nat×Obj)}
end
def RowSt (p:Option Addr)(n c:Nat)(row:List (Nat×Obj))(L:List X3):Prop:=(p=none∧n=0∧c=0∧row=[]∧L=[])∨∃b cur,p=some ⟨b,0,none⟩∧row=[(b,.cells cur 73 (0,0))]∧Rw 3 cur c n (cells3 L)
section
variable {B:Nat}{w0:World}{t:ByteArray}{b2 b3 b4:Nat}{p:Option Addr}{n c:Nat}{row:List (Nat×Obj)}{M:List X3}{L0:List (Nat×Obj)}{L:Nat→Bool}{g:Nat→D2.Gh}{w:World}
end
theorem AllIn.mono {T T':List (Nat×Obj)}{M:List X3}(h:AllIn T M)(hs: ∀e∈T,e∈T'):AllIn T' M:=fun x hx=>⟨(h x hx).1.mono hs,(h x hx).2⟩
theorem AllIn.snoc {T:List (Nat×Obj)}{M:List X3}{x:X3}(h:AllIn T M)(hx:yh T x.p x.n x.k)(hz:x.s.size≤0x800000000000):AllIn T (M++ [x]):=fun y hy=>by
 rcases List.mem_append.1 hy with q|q
 ·exact h y q
 ·obtain rfl:=List.mem_singleton.1 q;exact ⟨hx,hz⟩
structure zoy (t t':ByteArray)(p:Option Addr)(n c:Nat)(row:List (Nat×Obj))(M:List X3)(T:List (Nat×Obj)):Prop where
 row:RowSt p n c row M
 size:n+t'.size≤t.size
 all:tl t=wrF (toFo M)++tl t'
 pur:pureF (toFo M)=true
 inn:AllIn T M
 rest: ∀k,pureF k=true→tl t=wrF k→∃k',pureF k'=true∧tl t'=wrF k'
structure zoz (ds:List Deferred)(a:Act)(ρ:Env)(N:Nat):Prop where
 defers:a.defers=ds
 rep:Rep { a with defers:=[] } ρ N
section
variable {P:Program}{N:Nat}{ops:Array Oper}{Q:Exit→Env→World→Prop}{K:Env→World→Prop}{ρ:Env}{w:World}{i:Nat}{ds:List Deferred}
variable {c:Code}
end
section
variable {P:Program}{N:Nat}{ops:Array Oper}{ρ:Env}{w w':World}{i:Nat}{ds:List Deferred}{c:Code}{rest:List Nat}{a:Act}{cs:List Frame}
variable {Q:Exit→Act→List Frame→World→Prop}
end
section
variable {P:Program}{N:Nat}{ops:Array Oper}{ρ:Env}{w w':World}{i:Nat}{rest:List Nat}{a:Act}{Q:Exit→Act→World→Prop}
end
section
variable {P:Program}{N:Nat}{ops:Array Oper}{K:Env→World→Prop}{ρ:Env}{w w0:World}{i B:Nat}{r:List Nat}{l:List (Nat×Obj)}
end
theorem kA {l:List Value}(h:l.all (·.oneCell')=true): ∀u∈l,u.oneCell'=true:=fun u hu=>List.all_eq_true.1 h u hu
abbrev Kf:=Fr Nat
def kS:Sh Nat where
 K:=2
 hd g:=[.int .u8 (g:Int)]
 ok _:=True
 mx:=1000
 len _:=rfl
 one _:=kA rfl
abbrev Fe:=Fr (Nat×ByteArray)
def fS:Sh (Nat×ByteArray) where
 K:=3
 hd x:=[.int .u64 ((x.1:Nat):Int),.string x.2]
 ok x:=x.1<0x10000000000000000∧x.2.size≤0x800000000000
 mx:=0x800000000000
 len _:=rfl
 one _:=kA rfl
def Fr.all {α:Type}(p:α→Prop):Fr α→Prop
 | .nil=>True
 | .cons a k r=>p a∧k.all p∧r.all p
theorem qS.ok {α:Type}{S:Sh α}{B:Nat}{w:World} : ∀ {k:Fr α} {b off:Nat},qS S B w k b off→k.all S.ok
 | .nil,_,_,_=>trivial
 | .cons a k r,b,off,⟨⟨C,T,fz,p,n,c,h1,h2,h3,h4,h5,h6,h7,h8⟩,h9⟩=>⟨h5,by
  rcases h8 with rfl|⟨b',o',e,h⟩
  ·trivial
  ·exact h.ok,h9.ok⟩
theorem SlR.ok {α:Type}{S:Sh α}{B:Nat}{w:World}{p:Option Addr}{n:Nat}{k:Fr α}(h:SlR S B w p n k):k.all S.ok:=by
 rcases h.2.2 with rfl|⟨b,o,e,h⟩
 ·trivial
 ·exact h.ok
def zL (g:Nat)(b:Kf)(i:Nat):Nat×Kf:=match b.at (if g=42 then 0 else i) with
 | some x=>x
 | none=>(0,.nil)
def yA (g:Nat):Nat×Nat:=if g=104 then (32,32) else if g=97 then (20,20) else if g=115 then (65,65) else if g=98 then (0,64) else (0,0)
def yJ (g n:Nat):Nat×Nat:=if g=40 then (n,n) else if g=42 then (0,40) else (0,0)
def qC (x:Nat×Nat)(n:Nat):Bool:=decide (x.1≤n)&&decide (n≤x.2)
def zE (g bl n sz ln:Nat):Bool:=(decide (n=0)||decide (g=110))&&(qC (yA g) sz&&qC (yJ g bl) ln)
def w64 (x:Int):Int:=IntKind.i64.wrap x
def qr:Fe→Nat→Kf→Nat→Int→Int
 | .nil,_,_,_,room=>room
 | .cons x l r,g,b,i,room=>
  if (if zE (zL g b i).1 (zL g b i).2.len x.1 x.2.size l.len=true then qr l (zL g b i).1 (zL g b i).2 0 (w64 (room-1)) else-1)<0
  then (if zE (zL g b i).1 (zL g b i).2.len x.1 x.2.size l.len=true then qr l (zL g b i).1 (zL g b i).2 0 (w64 (room-1)) else-1)
  else qr r g b (i+1) (if zE (zL g b i).1 (zL g b i).2.len x.1 x.2.size l.len=true then qr l (zL g b i).1 (zL g b i).2 0 (w64 (room-1)) else-1)
def yv (g:Nat)(b:Kf)(x:Nat×ByteArray)(l:Fe)(room:Int):Int:=
 if zE g b.len x.1 x.2.size l.len=true then qr l g b 0 (w64 (room-1)) else-1
theorem zaj (x:Nat×ByteArray)(l r:Fe)(g:Nat)(b:Kf)(i:Nat)(room:Int):qr (.cons x l r) g b i room=
 if yv (zL g b i).1 (zL g b i).2 x l room<0 then yv (zL g b i).1 (zL g b i).2 x l room else qr r g b (i+1) (yv (zL g b i).1 (zL g b i).2 x l room):=rfl
def yr (g:Nat):Bool:=decide (g=40)||decide (g=42)
def zY (g:Nat)(x:Nat×ByteArray):ByteArray:=if g=110 then zb (dg x.1) else if yr g=true then ⟨#[]⟩ else x.2
def yK:Fe→Nat→Kf→Nat→Fo
 | .nil,_,_,_=>.nil
 | .cons x l r,g,b,i=>.cons (yr (zL g b i).1) (zY (zL g b i).1 x) (if yr (zL g b i).1=true then yK l (zL g b i).1 (zL g b i).2 0 else .nil) (yK r g b (i+1))
def yk (g:Nat)(b:Kf)(l:Fe):Fo:=if yr g=true then yK l g b 0 else .nil
theorem zbI (x:Nat×ByteArray)(l r:Fe)(g:Nat)(b:Kf)(i:Nat):yK (.cons x l r) g b i=.cons (yr (zL g b i).1) (zY (zL g b i).1 x) (yk (zL g b i).1 (zL g b i).2 l) (yK r g b (i+1)):=rfl
theorem Fr.len_zero {α:Type}{k:Fr α}(h:k.len=0):k=.nil:=by
 cases k with
 | nil=>rfl
 | cons a k r=>simp only [Fr.len] at h;omega
theorem zbJ {s:ByteArray}(h:s.size=0):s=⟨#[]⟩:=by
 obtain ⟨d⟩:=s;have:d=#[]:=Array.eq_empty_of_size_eq_zero h;rw [this]
theorem zbK {g bl n sz ln:Nat}(h:zE g bl n sz ln=true):(n=0∨g=110)∧((yA g).1≤sz∧sz≤(yA g).2)∧(yJ g bl).1≤ln∧ln≤(yJ g bl).2:=by
 unfold zE qC at h;simp only [Bool.and_eq_true,Bool.or_eq_true,decide_eq_true_eq] at h;exact h
def vq (g:Nat)(b:Kf)(x:Nat×ByteArray)(l:Fe):ByteArray×Nat:=
 if yv g b x l 1001<0 then (⟨#[]⟩,1) else yo (yr g) (zY g x) (yk g b l).len (yk g b l)
def Fr.snoc {α:Type} :Fr α→α→Fr α→Fr α
 | .nil,a,k=>.cons a k .nil
 | .cons a' k' r,a,k=>.cons a' k' (r.snoc a k)
theorem zeC {α:Type}(x:El α): ∀L:List (El α),qE (L++ [x])=(qE L).snoc x.a x.k
 | []=>rfl
 | y::r=>by simp only [List.cons_append,qE,Fr.snoc,zeC x r]
def xy:Nat→Kf→List (Nat×Kf)→List (Nat×Kf)
 | _,_,[]=>[]
 | g,k,(h,m)::r=>if h=42 then xy h (m.snoc g k) r else (h,m.snoc g k)::r
def jk (c:Nat)(st:List (Nat×Kf)):Option (List (Nat×Kf)):=
 if c=110∨c=104∨c=97∨c=115∨c=98 then some (xy c .nil st)
 else if c=40∨c=42 then if st.length=5 then none else some ((c,.nil)::st)
 else if c=41 then match st with
  | []=>none
  | (h,m)::r=>if r.length=0∨h≠40 then none else some (xy h m r)
 else none
def xW:List UInt8→List (Nat×Kf)→Option (List (Nat×Kf))
 | [],st=>some st
 | c::r,st=>match jk c.toNat st with
  | none=>none
  | some st'=>xW r st'
def parseM (form:ByteArray):Option Kf:=
 if 40<form.size then none else match xW (tl form) [(40,.nil)] with
  | some [(_,m)]=>some m
  | _=>none
def yF (c:Nat):Bool:=c==110||(c==104||(c==97||(c==115||c==98)))
theorem jN {c:Nat} :yF c=true↔c=110∨c=104∨c=97∨c=115∨c=98:=by unfold yF;simp
def kdOk (s:ByteArray):Bool:=(s.size==1&&yF (by_ s 0))||(s.size==2&&(by_ s 0==42&&yF (by_ s 1)))
theorem zbL {s:ByteArray} :kdOk s=true↔(s.size=1∧yF (by_ s 0)=true)∨(s.size=2∧by_ s 0=42∧yF (by_ s 1)=true):=by
 unfold kdOk;simp
def kdB (s:ByteArray):Kf:=if by_ s 0=42 then .cons (by_ s 1) .nil .nil else .nil
def kfL:List ByteArray→Kf
 | []=>.nil
 | s::r=>.cons (by_ s 0) (kdB s) (kfL r)
theorem zeD: ∀ks:List ByteArray,(kfL ks).len=ks.length
 | []=>rfl
 | s::r=>by simp only [kfL,Fr.len,zeD r,List.length_cons]
theorem zeE: ∀(ks:List ByteArray) (i:Nat),(kfL ks).at i=(ks[i]?).map fun s=>(by_ s 0,kdB s)
 | [],i=>by cases i<;>rfl
 | s::r,0=>rfl
 | s::r,i+1=>by simp only [kfL,Fr.at,zeE r i,List.getElem?_cons_succ]
theorem zeF (ks:List ByteArray)(i:Nat):zL 40 (kfL ks) i=match ks[i]? with
 | some s=>(by_ s 0,kdB s)
 | none=>(0,.nil):=by
 unfold zL;rw [if_neg (by decide),zeE];cases ks[i]?<;>rfl
theorem zbM (c i:Nat):zL 42 (.cons c .nil .nil) i=(c,.nil):=by
 unfold zL;rw [if_pos rfl];rfl
def Fr.cnt {α:Type} :Fr α→Nat
 | .nil=>0
 | .cons _ k r=>1+k.cnt+r.cnt
def qs (c:Nat):Fe→Bool
 | .nil=>true
 | .cons x l r=>zE c 0 x.1 x.2.size l.len&&qs c r
def qt (s:ByteArray)(x:Nat×ByteArray)(l:Fe):Bool:=zE (by_ s 0) (kdB s).len x.1 x.2.size l.len&&(!(by_ s 0==42)||qs (by_ s 1) l)
def yB:List ByteArray→Fe→Bool
 | [],.nil=>true
 | s::ks,.cons x l r=>qt s x l&&yB ks r
 | [],.cons _ _ _=>false
 | _::_,.nil=>false
theorem zak: ∀ {ks:List ByteArray} {l:Fe},yB ks l=true→l.len=ks.length
 | [],.nil,_=>rfl
 | s::ks,.cons x l r,h=>by
  simp only [yB,Bool.and_eq_true] at h;simp only [Fr.len,List.length_cons,zak h.2]
 | [],.cons _ _ _,h=>nomatch h
 | _::_,.nil,h=>nomatch h
theorem zeG {c:Nat}(hc:yF c=true){n sz ln:Nat}(h:zE c 0 n sz ln=true):ln=0:=by
 have h3:=(zbK h).2.2.2;have:(yJ c 0).2=0:=by
  rw [jN] at hc;unfold yJ;rw [if_neg (by omega),if_neg (by omega)]
 omega
theorem zeH {r:Nat}(h:r≤2000):w64 ((r:Int)-1)=(r:Int)-1:=by
 unfold w64;exact wrap_i64 (by omega) (by omega)
def LeR (v:Int)(P:Prop)(n room:Nat):Prop:=(P∧n≤room→v=((room-n:Nat):Int))∧(¬(P∧n≤room)→v<0)
theorem LeR.pos {v:Int}{P:Prop}{n room:Nat}(h:LeR v P n room): ¬v<0↔P∧n≤room:=by
 constructor
 ·intro h1;by_cases h2:P∧n≤room
  ·exact h2
  ·exact absurd (h.2 h2) h1
 ·intro h1 h2;rw [h.1 h1] at h2;omega
theorem LeR.two {x:Nat×ByteArray}{l r:Fe}{g:Nat}{b:Kf}{i:Nat}{room:Nat}{P Q:Prop}(h1:LeR (yv (zL g b i).1 (zL g b i).2 x l room) P (1+l.cnt) room)
 (h2:P→ ∀q:Nat,q≤room→LeR (qr r g b (i+1) q) Q r.cnt q):LeR (qr (.cons x l r) g b i room) (P∧Q) (Fr.cnt (.cons x l r)) room:=by
 rw [zaj];have ec:Fr.cnt (Fr.cons x l r)=1+l.cnt+r.cnt:=rfl;rw [ec];by_cases hv:yv (zL g b i).1 (zL g b i).2 x l room<0
 ·rw [if_pos hv];refine ⟨fun h=>?_,fun _=>hv⟩;exact absurd hv (h1.pos.2 ⟨h.1.1,by omega⟩)
 ·rw [if_neg hv];obtain ⟨hP,hn⟩:=h1.pos.1 hv;rw [h1.1 ⟨hP,hn⟩];have h3:=h2 hP (room-(1+l.cnt)) (by omega);refine ⟨fun h=>?_,fun h=>?_⟩
  ·rw [h3.1 ⟨h.1.2,by omega⟩];congr 1;omega
  ·exact h3.2 fun h9=>h ⟨⟨hP,h9.1⟩,by omega⟩
theorem zeI {c:Nat}(hc:yF c=true)(x:Nat×ByteArray)(l:Fe)(room:Nat)(hr:room≤2000):LeR (yv c .nil x l room) (zE c 0 x.1 x.2.size l.len=true) (1+l.cnt) room:=by
 unfold yv;by_cases hf:zE c 0 x.1 x.2.size l.len=true
 ·rw [if_pos (show zE c (Fr.len .nil) x.1 x.2.size l.len=true from hf),zeH hr];obtain rfl:=Fr.len_zero (zeG hc hf);show LeR ((room:Int)-1) _ (1+0) room;exact ⟨fun h=>by omega,fun h=>by have: ¬1+0≤room:=fun h9=>h ⟨hf,h9⟩;omega⟩
 ·rw [if_neg (show ¬zE c (Fr.len .nil) x.1 x.2.size l.len=true from hf)];exact ⟨fun h=>absurd h.1 hf,fun _=>by decide⟩
theorem zeJ {c:Nat}(hc:yF c=true): ∀(l:Fe) (i room:Nat),room≤2000→LeR (qr l 42 (.cons c .nil .nil) i room) (qs c l=true) l.cnt room
 | .nil,i,room,_=>⟨fun _=>rfl,fun h=>absurd ⟨rfl,Nat.zero_le _⟩ h⟩
 | .cons x l r,i,room,hr=>by
  have h1:=zeI hc x l room hr;have h2:LeR (yv (zL 42 (.cons c .nil .nil) i).1 (zL 42 (.cons c .nil .nil) i).2 x l room) (zE c 0 x.1 x.2.size l.len=true) (1+l.cnt) room:=by rw [zbM];exact h1
  have h3:=LeR.two (r:=r) (Q:=qs c r=true) h2 fun _ q hq=>zeJ hc r (i+1) q (by omega);have e:(qs c (.cons x l r)=true)=(zE c 0 x.1 x.2.size l.len=true∧qs c r=true):=by simp only [qs,Bool.and_eq_true]
  rw [e];exact h3
theorem zjQ {s:ByteArray}(hs:kdOk s=true)(x:Nat×ByteArray)(l:Fe)(room:Nat)(hr:room≤2000):LeR (yv (by_ s 0) (kdB s) x l room) (qt s x l=true) (1+l.cnt) room:=by
 rcases zbL.1 hs with ⟨h1,h2⟩|⟨h1,h2,h3⟩
 ·have hn: ¬by_ s 0=42:=by rw [jN] at h2;omega
  have eb:kdB s=.nil:=by unfold kdB;rw [if_neg hn]
  have e:(qt s x l=true)=(zE (by_ s 0) 0 x.1 x.2.size l.len=true):=by
   unfold qt;rw [eb,beq_eq_false_iff_ne.2 hn];simp [Fr.len]
  rw [e,eb];exact zeI h2 x l room hr
 ·have eb:kdB s=.cons (by_ s 1) .nil .nil:=by unfold kdB;rw [if_pos h2]
  have e:(qt s x l=true)=(zE 42 1 x.1 x.2.size l.len=true∧qs (by_ s 1) l=true):=by
   unfold qt;rw [eb,h2];simp [Fr.len]
  rw [e,eb,h2];unfold yv;by_cases hf:zE 42 1 x.1 x.2.size l.len=true
  ·rw [if_pos (show zE 42 (Fr.len (.cons (by_ s 1) .nil .nil)) x.1 x.2.size l.len=true from hf),zeH hr];by_cases h0:room=0
   ·subst h0;refine ⟨fun h=>by omega,fun _=>?_⟩;cases l with
    | nil=>exact (by decide:w64 (-1)<0)
    | cons y k r=>
     have hk:yv (by_ s 1) .nil y k (-1)<0:=by
      unfold yv;by_cases hf2:zE (by_ s 1) 0 y.1 y.2.size k.len=true
      ·rw [if_pos (show zE (by_ s 1) (Fr.len .nil) y.1 y.2.size k.len=true from hf2)];obtain rfl:=Fr.len_zero (zeG h3 hf2);exact (by decide:w64 (-1-1)<0)
      ·rw [if_neg (show ¬zE (by_ s 1) (Fr.len .nil) y.1 y.2.size k.len=true from hf2)];decide
     show qr _ _ _ _ (-1)<0;rw [zaj,zbM,if_pos hk];exact hk
   ·have h4:=zeJ h3 l 0 (room-1) (by omega);rw [show (room:Int)-1=((room-1:Nat):Int) by omega];refine ⟨fun h=>?_,fun h=>h4.2 fun h9=>h ⟨⟨hf,h9.1⟩,by omega⟩⟩;rw [h4.1 ⟨h.1.2,by omega⟩];congr 1;omega
  ·rw [if_neg (show ¬zE 42 (Fr.len (.cons (by_ s 1) .nil .nil)) x.1 x.2.size l.len=true from hf)];exact ⟨fun h=>absurd h.1.1 hf,fun _=>by decide⟩
theorem zeK {ks0:List ByteArray}(h0: ∀s∈ks0,kdOk s=true): ∀(ks:List ByteArray) (l:Fe) (i room:Nat),ks0.drop i=ks→l.len=ks.length→room≤2000→LeR (qr l 40 (kfL ks0) i room) (yB ks l=true) l.cnt room
 | [],.nil,i,room,_,_,_=>⟨fun _=>rfl,fun h=>absurd ⟨rfl,Nat.zero_le _⟩ h⟩
 | [],.cons _ _ _,_,_,_,h,_=>by simp [Fr.len] at h
 | _::_,.nil,_,_,_,h,_=>by simp [Fr.len] at h
 | s::ks,.cons x l r,i,room,hd,hl,hr=>by
  have hi:ks0[i]? =some s:=by
   have:=congrArg (fun L=>L[0]?) hd
   simpa using this
  have h1:LeR (yv (zL 40 (kfL ks0) i).1 (zL 40 (kfL ks0) i).2 x l room) (qt s x l=true) (1+l.cnt) room:=by
   rw [zeF,hi];exact zjQ (h0 s (List.mem_of_getElem? hi)) x l room hr
  have h3:=LeR.two (r:=r) (Q:=yB ks r=true) h1 fun _ q hq=>zeK h0 ks r (i+1) q (by rw [←List.drop_drop,hd];rfl) (by simp only [Fr.len,List.length_cons] at hl;omega) (by omega);have e:(yB (s::ks) (.cons x l r)=true)=(qt s x l=true∧yB ks r=true):=by simp only [yB,Bool.and_eq_true]
  rw [e];exact h3
theorem zeL {ks:List ByteArray}(h0: ∀s∈ks,kdOk s=true)(l:Fe): ¬yv 40 (kfL ks) (0,⟨#[]⟩) l 1001<0↔yB ks l=true∧l.cnt≤1000:=by
 unfold yv;have ef:zE 40 (kfL ks).len 0 (ByteArray.size ⟨#[]⟩) l.len=decide (l.len=ks.length):=by
  rw [zeD];unfold zE qC yA yJ;simp only [decide_eq_decide];rw [Bool.eq_iff_iff];simp only [Bool.and_eq_true,Bool.or_eq_true,decide_eq_true_eq];simp;constructor
  ·rintro ⟨_,h⟩;omega
  ·intro h;exact ⟨rfl,by omega⟩
 by_cases hl:l.len=ks.length
 ·rw [if_pos (show zE 40 (kfL ks).len (0,(⟨#[]⟩:ByteArray)).1 (ByteArray.size (0,(⟨#[]⟩:ByteArray)).2) l.len=true by exact ef.trans (decide_eq_true hl))];rw [show w64 (1001-1)=((1000:Nat):Int) by decide];exact (zeK h0 ks l 0 1000 rfl hl (by decide)).pos
 ·rw [if_neg (show ¬zE 40 (kfL ks).len (0,(⟨#[]⟩:ByteArray)).1 (ByteArray.size (0,(⟨#[]⟩:ByteArray)).2) l.len=true by
   intro h;exact hl (of_decide_eq_true (ef.symm.trans h)))]
  exact ⟨fun h=>absurd (by decide) h,fun h=>absurd (zak h.1) hl⟩
def nxK (form:ByteArray)(i:Nat):Nat:=if by_ form i=42 then i+2 else i+1
def ksM (form:ByteArray):Nat→Nat→List ByteArray
 | 0,_=>[]
 | f+1,i=>if i<form.size then form.extract i (nxK form i)::ksM form f (nxK form i) else []
def okK (form:ByteArray):Nat→Nat→Bool
 | 0,i=>decide (form.size≤i)
 | f+1,i=>decide (form.size≤i)||((yF (by_ form i)||(by_ form i==42&&(decide (i+1<form.size)&&yF (by_ form (i+1)))))&&okK form f (nxK form i))
structure kB (form:ByteArray)(ks:List ByteArray):Prop where
 size:form.size≤40
 ok:okK form 41 0=true
 cut:ksM form 41 0=ks
 parse:parseM form=some (kfL ks)
 kd: ∀s∈ks,kdOk s=true
theorem zbN (form:ByteArray): ∀f i:Nat,(ksM form f i).length≤f
 | 0,_=>Nat.le_refl _
 | f+1,i=>by
  unfold ksM;split
  ·rw [List.length_cons];have:=zbN form f (nxK form i);omega
  ·exact Nat.zero_le _
theorem kB.few {form:ByteArray}{ks:List ByteArray}(h:kB form ks):ks.length≤1000:=by
 rw [←h.cut];exact Nat.le_trans (zbN form 41 0) (by decide)
theorem zjR {form:ByteArray}{f i:Nat}(h:okK form (f+1) i=true)(hi:i<form.size):(yF (by_ form i)=true∨(by_ form i=42∧i+1<form.size∧yF (by_ form (i+1))=true))∧okK form f (nxK form i)=true:=by
 unfold okK at h;rw [Bool.or_eq_true,decide_eq_true_iff,Bool.and_eq_true,Bool.or_eq_true,Bool.and_eq_true,Bool.and_eq_true,decide_eq_true_iff,beq_iff_eq] at h;rcases h with h | h
 ·omega
 ·exact h
theorem zjS {form:ByteArray}{f i:Nat}(h:okK form f i=true)(hf:form.size<i+f+1)(hi: ¬i<form.size):ksM form f i=[]:=by
 cases f with
 | zero=>rfl
 | succ f=>unfold ksM;rw [if_neg hi]
theorem zjT {form:ByteArray}{f i:Nat}(h:okK form f i=true)(hi:i<form.size):∃g,f=g+1:=by
 cases f with
 | zero=>unfold okK at h;rw [decide_eq_true_iff] at h;omega
 | succ g=>exact ⟨g,rfl⟩
end Go.Proofs.YtbbdbdndedeokaaGreatDoor
namespace Go.Proofs.YtbbdbdndedeokaaGreatDoor
open Go Go.RowKit
open D2 (Gh)
set_option linter.unusedVariables false
def iS:Fl X3 where
 K:=3
 cs:=X3.cs
 pos:=by decide
 len _:=rfl
 one a:=fun u hu=>List.all_eq_true.1 (show (X3.cs a).all (·.oneCell')=true from rfl) u hu
theorem zal: ∀L:List X3,cellsF iS L=cells3 L
 | []=>rfl
 | x::r=>by
  show X3.cs x++cellsF iS r=_;rw [zal r];rfl
abbrev emB:ByteArray:=⟨#[]⟩
abbrev b3 (s:ByteArray):X3:=⟨false,s,none,0,0,.nil⟩
abbrev itV (x:X3):Value:=.agg #[.bool x.l,.string x.s,.slice x.p x.n x.c]
abbrev itO (x:X3):Obj:=.cells #[.bool x.l,.string x.s,.slice x.p x.n x.c] 73 (0,0)
abbrev yl (L:List X3):Obj:=.cells (cellsF iS L).toArray 73 (0,0)
theorem jz (T:List (Nat×Obj))(s:ByteArray):yh T (b3 s).p (b3 s).n (b3 s).k:=⟨rfl,Nat.zero_le _,.inl rfl⟩
theorem zbO {P:Program}{ρ:Env}{x:Operand}{o:Oper}{w:World}{b off:Nat}{C:Array Value}{T:TypeId}{fz:Nat×Nat}{v:Value}{t:TypeId}(ht:oneCell P t=true)(hh:w.heap[b]? =some (.cells C T fz))(hv:C[off]? =some v)(ho:o.op=.load t x)(hx:ev ρ x=.pointer (some ⟨b,off,none⟩)):
 (execOp (ev ρ) o).run P w=.ok (.value v) w:=by
 have:=jT (P:=P) (w:=w) ht hh hv;simp [execOp,ho,Instr.loadAt,Instr.sureAddr,hx,this]
theorem uk {α:Type}{S:Fl α}{P:Program}{ρ:Env}{w w0:World}{B:Nat}{bx n c m mc e:Nat}{p:Option Addr}{row Z:List (Nat×Obj)}{M0 M:List α}(HS:St B w0 w ((bx,.cells (cellsF S M).toArray e (0,0))::(row++Z)))(hrow:zR S e p n c row M0)
 {t bytes:Nat} {s x:Operand} {o:Oper} (ht:ye P t=some (e,S.K,bytes)) (ho:o.op=yn t s x) (hs:ev ρ s=.slice p n c) (hx:ev ρ x=.slice (some ⟨bx,0,none⟩) m mc) (hM:m=M.length) (h0:0<m) (hb:(n+m)*bytes≤0x800000000000) (hm:n+m≤maxLen):
 ∃b' cap' cur' w',(execOp (ev ρ) o).run P w=.ok (.value (.slice (some ⟨b',0,none⟩) (n+m) cap')) w'∧St B w0 w' ((b',.cells cur' e (0,0))::Z)∧Rw S.K cur' cap' (n+m) (cellsF S (M0++M)):=by
 have hx0:=HS.get 0 rfl;have hrw:Rw S.K (cellsF S M).toArray M.length M.length (cellsF S M):=⟨yI M,Nat.le_refl _,by omega,by rw [List.toList_toArray,List.take_of_length_le (by rw [yI];exact Nat.le_refl _)],by rw [List.size_toArray,yI]⟩
 rw [jM];rcases hrow with ⟨rfl,rfl,rfl,rfl,rfl⟩ | ⟨b,cur,rfl,rfl,hr⟩
 ·obtain ⟨it,z,hu,hi,hz,hsz,hby,hzs,hz0⟩:=yY ht;have hnews: ∀q u,(cellsF S M)[q]? =some u→w.cell? ((⟨bx,0,none⟩:Addr).add q)=some u:=fun q u hq=>by
   rw [yX,Nat.zero_add];simp [World.cell?,hx0,hq]
  obtain ⟨v',w',hrun,hown,hgr,hnil,hblk⟩:=run_append_own_at (P:=P) w B t o.type e it z S.K bytes hu hi hz hsz hby hzs hz0 (.slice none 0 0) 0 [] (World.ownsRow_nil w B e S.K) ⟨bx,0,none⟩ m mc (cellsF S M) (by rw [yI,hM]) hnews (zac M) hm hb HS.le;have hown':=hown;rcases hown'.2 with ⟨hv,_⟩|⟨g,cap',cur',rfl,hbg,hg,hnc,hcm,hcs,htk⟩
  ·exact absurd (hnil.1 hv).2 (by omega)
  ·have hgb:g=w.heap.size:=by
    rcases hblk with hq|hq
    ·simp [Value.ownBlock] at hq
    ·injection hq
   have hbel:Below w.heap.size w w':=(Below.refl _ w).grown hgr (Nat.le_refl _) (fun k hk=>by simp [Value.ownBlock] at hk);have HS':=HS.add hbel (by omega) hg;refine ⟨g,cap',cur',w',?_,HS'.sub (List.Sublist.cons_cons _ (List.sublist_cons_self ..)),⟨?_,hnc,hcm,htk,hcs⟩⟩
   ·unfold execOp;simp only [ho,yn,resolve,invoke,builtin,Sem.run_bind,Sem.run_pure,Result.andThen_ok,List.map_toArray,List.map_cons,List.map_nil,hs,hx,hrun]
   ·rw [Nat.zero_add,List.length_append,yI,yI,hM];simp
 ·obtain ⟨b',cap',cur',w',hrun,HS',hr'⟩:=zbu (S:=S) (M:=M) (j:=1) HS ht ho hs rfl hr hx hM (.inr ⟨bx,0,_,_,_,rfl,hx0,hrw.rowAt⟩) hb hm;exact ⟨b',cap',cur',w',hrun,HS'.sub (List.sublist_cons_self ..),hr'⟩
abbrev xlO (q:Option Addr)(n c:Nat):Obj:=.cells #[.bool true,.string emB,.slice q n c] 73 (0,0)
theorem vr {w w':World}{b:Nat}{C:Array Value}{T:TypeId}{fz:Nat×Nat}(hh:w.heap[b]? =some (.cells C T fz))(hb:Below w.heap.size w w'):w'.heap[b]? =some (.cells C T fz):=by rw [hb.block b (zC hh)];exact hh
theorem ul {P:Program}{ops:Array Oper}{k:Nat}{ρ:Env}{w:World}{S:Value→World→Prop}{t:TypeId}{x y:Operand}{b:Nat}{q:Option Addr}{n c:Nat}{q':Option Addr}{n' c':Nat}{T:TypeId}(h:opk ops k ρ=some (none,true,.store t x y))(hx:ev ρ x=.pointer (some ⟨b,2,none⟩))(hy:ev ρ y=.slice q' n' c')(hi:(P.info? t).map (·.size)=some 1)
 (hh:w.heap[b]? =some (.cells #[.bool true,.string emB,.slice q n c] T (0,0))) (hS:S undef (w.setRow b #[.bool true,.string emB,.slice q' n' c'])):∃o,ops[k]? =some o∧o.dst=none∧Region.wanted o (zU ops ρ)=true∧Runs P S ((execOp (ev ρ) o).run P w):=
 D2.run_sto (v:=.slice q' n' c') (C':=#[.bool true,.string emB,.slice q' n' c']) h hx hy hi kr hh (Nat.le_of_ble_eq_true kr) kr hS
theorem zbP {α:Type}(a b c d:List α):(a++(b++(c++d))).Perm (d++(a++(b++c))):=by
 rw [←List.append_assoc b c d,←List.append_assoc a (b++c) d];exact List.perm_append_comm
theorem zeM {α:Type}(a b z:List α):(a++(b++z)).Perm (b++(a++z)):=by
 rw [←List.append_assoc,←List.append_assoc];exact List.perm_append_comm.append_right z
theorem zbQ {α:Type}(x:α)(tb bs z:List α):(x::(tb++(bs++z))).Perm (bs++x::(tb++z)):=(List.Perm.cons x (zeM tb bs z)).trans List.perm_middle.symm
theorem vt {T T':List (Nat×Obj)}{M:List X3}(h:AllIn T M)(hs: ∀e∈T,e∈T'):AllIn T' M:=fun x hx=>⟨(h x hx).1.mono hs,(h x hx).2⟩
theorem um {T:List (Nat×Obj)}{M:List X3}{x:X3}(h:AllIn T M)(hx:yh T x.p x.n x.k)(hz:x.s.size≤0x800000000000):AllIn T (M++ [x]):=fun y hy=>by
 rcases List.mem_append.1 hy with hy|hy
 ·exact h y hy
 ·rw [List.mem_singleton.1 hy];exact ⟨hx,hz⟩
theorem zjU {P:Program}{ρ:Env}{x:Operand}{o:Oper}{w:World}{b off n:Nat}{C W:Array Value}{T:TypeId}{fz:Nat×Nat}{t:TypeId}(ht:aggSize P t=some n)(hh:w.heap[b]? =some (.cells C T fz))(hs:off+n≤C.size)(hW:C.extract off (off+n)=W)(ho:o.op=.load t x)(hx:ev ρ x=.pointer (some ⟨b,off,none⟩)):
 (execOp (ev ρ) o).run P w=.ok (.value (.agg W)) w:=by
 have:=jS (P:=P) (w:=w) ht hh hs;rw [hW] at this;simp [execOp,ho,Instr.loadAt,Instr.sureAddr,hx,this]
end Go.Proofs.YtbbdbdndedeokaaGreatDoor
namespace Go.Proofs.YtbbdbdndedeokaaGreatDoor
open Go Go.RowKit
set_option linter.unusedVariables false
abbrev knd (g:Nat)(p:Option Addr)(n c:Nat):Value:=.agg #[.int .u8 (g:Int),.slice p n c]
abbrev fld (m:Nat)(s:ByteArray)(p:Option Addr)(n c:Nat):Value:=.agg #[.int .u64 (m:Int),.string s,.slice p n c]
theorem yP {P:Program}{ρ:Env}{t e:TypeId}{K bytes:Nat}(ht:ye P t=some (e,K,bytes)){x y:Operand}{o:Oper}{kd:IntKind}{p:Option Addr}(b q n c k:Nat)(hp:p=some ⟨b,q,none⟩)(ho:o.op=.indexAddr t x y)(hx:ev ρ x=.slice p n c)(hy:ev ρ y=.int kd (k:Int))(hk:k<n):
 ∀w,(execOp (ev ρ) o).run P w=.ok (.value (.pointer (some ⟨b,q+k*K,none⟩))) w:=by
 subst hp;exact jL ht b q n c k ho hx hy hk
def xX (B:Nat)(w:World)(g:Nat)(p:Option Addr)(n i g':Nat)(p':Option Addr)(n' c':Nat):Prop:=
 (n≤(if g=42 then 0 else i)∧g'=0∧p'=none∧n'=0∧c'=0)∨
 ((if g=42 then 0 else i)<n∧∃b off C T fz,p=some ⟨b,off,none⟩∧b<B∧w.heap[b]? =some (.cells C T fz)∧off+(if g=42 then 0 else i)*2+2≤C.size∧C.extract (off+(if g=42 then 0 else i)*2) (off+(if g=42 then 0 else i)*2+2)=#[.int .u8 (g':Int),.slice p' n' c'])
theorem xX.up {B B':Nat}{w w':World}{g:Nat}{p:Option Addr}{n i g':Nat}{p':Option Addr}{n' c':Nat}(h:xX B w g p n i g' p' n' c')(hb:Below B w w')(hB:B≤B'):xX B' w' g p n i g' p' n' c':=by
 rcases h with h|⟨h0,b,off,C,T,fz,h1,h2,h3,h4⟩
 ·exact .inl h
 ·exact .inr ⟨h0,b,off,C,T,fz,h1,Nat.lt_of_lt_of_le h2 hB,by rw [hb.block b h2];exact h3,h4⟩
theorem SlR.kid {B:Nat}{w:World}{p:Option Addr}{n:Nat}{k:Kf}(h:SlR kS B w p n k)(g i:Nat):∃g' p' n' c',xX B w g p n i g' p' n' c'∧SlR kS B w p' n' (zL g k i).2∧g'=(zL g k i).1:=by
 unfold zL xX;generalize (if g=42 then 0 else i)=j;rcases Nat.lt_or_ge j n with hj | hj
 ·obtain ⟨a,q,ha⟩:=Fr.at_some (k:=k) (i:=j) (by rw [←h.1];exact hj);rcases h.2.2 with rfl|⟨b,off,rfl,hA⟩
  ·simp [Fr.at] at ha
  ·obtain ⟨C,T,fz,p',n',c',h1,h2,h3,h4,h5,h6⟩:=hA.at ha;rw [ha];exact ⟨a,p',n',c',.inr ⟨hj,b,off,C,T,fz,rfl,h1,h2,h3,h4⟩,h6,rfl⟩
 ·rw [Fr.at_none (by rw [←h.1];exact hj)];exact ⟨0,none,0,0,.inl ⟨hj,rfl,rfl,rfl,rfl⟩,SlR.nil _ _ _,rfl⟩
theorem zeN (g:Nat)(p:Option Addr)(n c i g':Nat)(p':Option Addr)(n' c':Nat):FnP Tryz.prog 91 #[knd g p n c,.int .i64 (i:Int)] (fun w=>xX w.heap.size w g p n i g' p' n' c') (knd g' p' n' c'):=by
 refine FnP.intro (c:=zl Tryz.f91) [.cell 4 56] 19 Tryz.func91 kr kr kr fun w hpre=>?_;have H0:=St.start w;refine rS [.b,.a] H0 kr fun gs1 w1 H1=>?_;clear H0;unfold xX at hpre;by_cases hg:g=42
 ·rw [if_pos hg] at hpre;refine zc kr<|rS [.v,.l 0,.E (.bool ((g:Int)==42)) (.bool true) (za (beq_iff_eq.2 (by omega)))] H1 kr fun gs2 w2 H2=>?_;clear H1;refine zg kr kr<|rL [.v] H2 kr fun gs3 w3 H3=>wW ?_;rcases hpre with ⟨hj,rfl,rfl,rfl,rfl⟩ | ⟨hj,b,off,C,T,fz,hp,hb,hh,hz,hx⟩
  ·refine zc kr<|rS [.v,.v,.l 0,.v,.E (.bool (decide ((n:Int)≤((0:Nat):Int)))) (.bool true) (za (decide_eq_true (by omega)))] H3 kr fun gs4 w4 H4=>zg kr kr<|rS [.v,.s 1] H4 kr fun gs5 w5 H5=>?_;exact rR [.cell 4 56] [1] (knd 0 none 0 0) H5 kr
  ·refine zc kr<|rS [.v,.v,.l 0,.v,.E (.bool (decide ((n:Int)≤((0:Nat):Int)))) (.bool false) (za (decide_eq_false (by omega)))] H3 kr fun gs4 w4 H4=>zf kr kr<|zh kr<|wW<|rS [.v,.l 0,.v,.o (ins:=[((.tmp 15),.slice p n c),((.tmp 16),.int .i64 ((0:Nat):Int))]) (v:=.pointer (some ⟨b,off+0*2,none⟩)) (fun ρ o w ho hi=>yP (kd:=.i64) (t:=54) (e:=56) (K:=2) (bytes:=32) kr (x:=(.tmp 15)) (y:=(.tmp 16)) b off n c 0 hp ho hi.1 hi.2.1 (by omega) w),.fp (off:=off+0*2) (n:=2) (W:=#[.int .u8 (g':Int),.slice p' n' c']) hh hb hz hx,.s 1] H4 kr fun gs5 w5 H5=>?_;exact rR [.cell 4 56] [1] (knd g' p' n' c') H5 kr
 ·rw [if_neg hg] at hpre;refine zc kr<|rS [.v,.l 0,.E (.bool ((g:Int)==42)) (.bool false) (za (beq_eq_false_iff_ne.2 (by omega)))] H1 kr fun gs2 w2 H2=>?_;clear H1;refine zf kr kr<|zh kr ?_;have H3:=H2;refine wW ?_;rcases hpre with ⟨hj,rfl,rfl,rfl,rfl⟩ | ⟨hj,b,off,C,T,fz,hp,hb,hh,hz,hx⟩
  ·refine zc kr<|rS [.v,.v,.l 0,.v,.E (.bool (decide ((n:Int)≤(i:Int)))) (.bool true) (za (decide_eq_true (by omega)))] H3 kr fun gs4 w4 H4=>zg kr kr<|rS [.v,.s 1] H4 kr fun gs5 w5 H5=>?_;exact rR [.cell 4 56] [1] (knd 0 none 0 0) H5 kr
  ·refine zc kr<|rS [.v,.v,.l 0,.v,.E (.bool (decide ((n:Int)≤(i:Int)))) (.bool false) (za (decide_eq_false (by omega)))] H3 kr fun gs4 w4 H4=>zf kr kr<|zh kr<|wW<|rS [.v,.l 0,.v,.o (ins:=[((.tmp 15),.slice p n c),((.tmp 16),.int .i64 (i:Int))]) (v:=.pointer (some ⟨b,off+i*2,none⟩)) (fun ρ o w ho hi=>yP (kd:=.i64) (t:=54) (e:=56) (K:=2) (bytes:=32) kr (x:=(.tmp 15)) (y:=(.tmp 16)) b off n c i hp ho hi.1 hi.2.1 (by omega) w),.fp (off:=off+i*2) (n:=2) (W:=#[.int .u8 (g':Int),.slice p' n' c']) hh hb hz hx,.s 1] H4 kr fun gs5 w5 H5=>?_;exact rR [.cell 4 56] [1] (knd g' p' n' c') H5 kr
theorem zeO (a b n:Nat):Fn Tryz.prog 121 #[.agg #[.int .i64 (a:Int),.int .i64 (b:Int)],.int .i64 (n:Int)] (.bool (qC (a,b) n)):=by
 refine Fn.intro (c:=zl Tryz.f121) [.tmp 4] 15 Tryz.func121 kr kr kr fun w=>?_;have H0:=St.start w;refine rS [.b,.v] H0 kr fun gs1 w1 H1=>?_;clear H0;by_cases h1:a≤n
 ·by_cases h2:n≤b
  ·refine rS [.v,.l 0,.v,.E (.bool (decide ((a:Int)≤(n:Int)))) (.bool true) (za (decide_eq_true (by omega))),.v,.v,.v,.l 0,.E (.bool (decide ((n:Int)≤(b:Int)))) (.bool true) (za (decide_eq_true (by omega))),.v,.v] H1 kr fun gs2 w2 H2=>?_;exact rRe [.tmp 4] [] (v:=.bool true) (v':=.bool (qC (a,b) n)) H2 (za (by unfold qC;simp [h1,h2])) kr
  ·refine rS [.v,.l 0,.v,.E (.bool (decide ((a:Int)≤(n:Int)))) (.bool true) (za (decide_eq_true (by omega))),.v,.v,.v,.l 0,.E (.bool (decide ((n:Int)≤(b:Int)))) (.bool false) (za (decide_eq_false (by omega))),.v,.v] H1 kr fun gs2 w2 H2=>?_;exact rRe [.tmp 4] [] (v:=.bool false) (v':=.bool (qC (a,b) n)) H2 (za (by unfold qC;simp [h1,h2])) kr
 ·refine rS [.v,.l 0,.v,.E (.bool (decide ((a:Int)≤(n:Int)))) (.bool false) (za (decide_eq_false (by omega))),.v,.n,.n,.n,.n,.v,.v] H1 kr fun gs2 w2 H2=>?_;exact rRe [.tmp 4] [] (v:=.bool false) (v':=.bool (qC (a,b) n)) H2 (za (by unfold qC;simp [h1])) kr
theorem zam (g:Nat)(p:Option Addr)(n c:Nat):Fn Tryz.prog 120 #[knd g p n c] (.agg #[.int .i64 (((yA g).1:Nat):Int),.int .i64 (((yA g).2:Nat):Int)]):=by
 refine Fn.intro (c:=zl Tryz.f120) [.cell 2 166] 18 Tryz.func120 kr kr kr fun w=>?_;have H0:=St.start w;refine rS [.b,.a] H0 kr fun gs1 w1 H1=>?_;clear H0;refine rS [.v,.l 0] H1 kr fun gs2 w2 H2=>?_;clear H1;refine zj 0 kr ?_;by_cases h104:g=104
 ·refine rS [.E (.bool ((g:Int)==104)) (.bool true) (za (beq_iff_eq.2 (by omega))),.v] H2 kr fun gsa104 wa104 Ha104=>zg kr kr<|rS [.v,.s 1] Ha104 kr fun gsb104 wb104 Hb104=>?_;exact rRe [.cell 2 166] [1] (v:=.agg #[.int .i64 32,.int .i64 32]) (v':=.agg #[.int .i64 (((yA g).1:Nat):Int),.int .i64 (((yA g).2:Nat):Int)]) Hb104 (by unfold yA;simp [h104]) kr
 ·refine rS [.E (.bool ((g:Int)==104)) (.bool false) (za (beq_eq_false_iff_ne.2 (by omega))),.v] H2 kr fun gsc104 wc104 Hc104=>zf kr kr ?_;by_cases h97:g=97
  ·refine rS [.E (.bool ((g:Int)==97)) (.bool true) (za (beq_iff_eq.2 (by omega))),.v] Hc104 kr fun gsa97 wa97 Ha97=>zg kr kr<|rS [.v,.s 1] Ha97 kr fun gsb97 wb97 Hb97=>?_;exact rRe [.cell 2 166] [1] (v:=.agg #[.int .i64 20,.int .i64 20]) (v':=.agg #[.int .i64 (((yA g).1:Nat):Int),.int .i64 (((yA g).2:Nat):Int)]) Hb97 (by unfold yA;simp [h97]) kr
  ·refine rS [.E (.bool ((g:Int)==97)) (.bool false) (za (beq_eq_false_iff_ne.2 (by omega))),.v] Hc104 kr fun gsc97 wc97 Hc97=>zf kr kr ?_;by_cases h115:g=115
   ·refine rS [.E (.bool ((g:Int)==115)) (.bool true) (za (beq_iff_eq.2 (by omega))),.v] Hc97 kr fun gsa115 wa115 Ha115=>zg kr kr<|rS [.v,.s 1] Ha115 kr fun gsb115 wb115 Hb115=>?_;exact rRe [.cell 2 166] [1] (v:=.agg #[.int .i64 65,.int .i64 65]) (v':=.agg #[.int .i64 (((yA g).1:Nat):Int),.int .i64 (((yA g).2:Nat):Int)]) Hb115 (by unfold yA;simp [h115]) kr
   ·refine rS [.E (.bool ((g:Int)==115)) (.bool false) (za (beq_eq_false_iff_ne.2 (by omega))),.v] Hc97 kr fun gsc115 wc115 Hc115=>zf kr kr ?_;by_cases h98:g=98
    ·refine rS [.E (.bool ((g:Int)==98)) (.bool true) (za (beq_iff_eq.2 (by omega))),.v] Hc115 kr fun gsa98 wa98 Ha98=>zg kr kr<|rS [.v,.s 1] Ha98 kr fun gsb98 wb98 Hb98=>?_;exact rRe [.cell 2 166] [1] (v:=.agg #[.int .i64 0,.int .i64 64]) (v':=.agg #[.int .i64 (((yA g).1:Nat):Int),.int .i64 (((yA g).2:Nat):Int)]) Hb98 (by unfold yA;simp [h98]) kr
    ·refine rS [.E (.bool ((g:Int)==98)) (.bool false) (za (beq_eq_false_iff_ne.2 (by omega))),.v] Hc115 kr fun gsc98 wc98 Hc98=>zf kr kr<|rS [.v,.s 1] Hc98 kr fun gsz wz Hz=>?_;exact rRe [.cell 2 166] [1] (v:=.agg #[.int .i64 0,.int .i64 0]) (v':=.agg #[.int .i64 (((yA g).1:Nat):Int),.int .i64 (((yA g).2:Nat):Int)]) Hz (by unfold yA;simp [h104,h97,h115,h98]) kr
theorem zeP (g:Nat)(p:Option Addr)(n c:Nat):Fn Tryz.prog 122 #[knd g p n c] (.agg #[.int .i64 (((yJ g n).1:Nat):Int),.int .i64 (((yJ g n).2:Nat):Int)]):=by
 refine Fn.intro (c:=zl Tryz.f122) [.cell 2 166] 18 Tryz.func122 kr kr kr fun w=>?_;have H0:=St.start w;refine rS [.b,.a] H0 kr fun gs1 w1 H1=>?_;clear H0;refine rS [.v,.l 0] H1 kr fun gs2 w2 H2=>?_;clear H1;refine zj 0 kr ?_;by_cases h40:g=40
 ·refine rS [.E (.bool ((g:Int)==40)) (.bool true) (za (beq_iff_eq.2 (by omega))),.v] H2 kr fun gsa40 wa40 Ha40=>zg kr kr<|rS [.v,.l 0,.v,.v,.l 0,.v,.v,.s 1] Ha40 kr fun gsb40 wb40 Hb40=>?_;exact rRe [.cell 2 166] [1] (v:=.agg #[.int .i64 (n:Int),.int .i64 (n:Int)]) (v':=.agg #[.int .i64 (((yJ g n).1:Nat):Int),.int .i64 (((yJ g n).2:Nat):Int)]) Hb40 (by unfold yJ;simp [h40]) kr
 ·refine rS [.E (.bool ((g:Int)==40)) (.bool false) (za (beq_eq_false_iff_ne.2 (by omega))),.v] H2 kr fun gsc40 wc40 Hc40=>zf kr kr ?_;by_cases h42:g=42
  ·refine rS [.E (.bool ((g:Int)==42)) (.bool true) (za (beq_iff_eq.2 (by omega))),.v] Hc40 kr fun gsa42 wa42 Ha42=>zg kr kr<|rS [.v,.s 1] Ha42 kr fun gsb42 wb42 Hb42=>?_;exact rRe [.cell 2 166] [1] (v:=.agg #[.int .i64 0,.int .i64 40]) (v':=.agg #[.int .i64 (((yJ g n).1:Nat):Int),.int .i64 (((yJ g n).2:Nat):Int)]) Hb42 (by unfold yJ;simp [h42]) kr
  ·refine rS [.E (.bool ((g:Int)==42)) (.bool false) (za (beq_eq_false_iff_ne.2 (by omega))),.v] Hc40 kr fun gsc42 wc42 Hc42=>zf kr kr<|rS [.v,.s 1] Hc42 kr fun gsz wz Hz=>?_;exact rRe [.cell 2 166] [1] (v:=.agg #[.int .i64 0,.int .i64 0]) (v':=.agg #[.int .i64 (((yJ g n).1:Nat):Int),.int .i64 (((yJ g n).2:Nat):Int)]) Hz (by unfold yJ;simp [h40,h42]) kr
theorem zeQ (g:Nat)(p:Option Addr)(n c m:Nat)(s:ByteArray)(p2:Option Addr)(n2 c2:Nat):Fn Tryz.prog 90 #[knd g p n c,fld m s p2 n2 c2] (.bool (zE g n m s.size n2)):=by
 refine Fn.intro (c:=zl Tryz.f90) [.tmp 4] 29 Tryz.func90 kr kr kr fun w=>?_;have H0:=St.start w;refine rS [.b,.b,.v] H0 kr fun gs1 w1 H1=>?_;clear H0;have hv:zE g n m s.size n2=((decide (m=0)||decide (g=110))&&(qC (yA g) s.size&&qC (yJ g n) n2)):=rfl;obtain ⟨x1,hx1⟩:∃x,qC (yA g) s.size=x:=⟨_,rfl⟩
 obtain ⟨x2,hx2⟩:∃x,qC (yJ g n) n2=x:=⟨_,rfl⟩
 have c1:Fn Tryz.prog 121 #[.agg #[.int .i64 (((yA g).1:Nat):Int),.int .i64 (((yA g).2:Nat):Int)],.int .i64 (s.size:Int)] (.bool x1):=hx1▸zeO _ _ _;have c2:Fn Tryz.prog 121 #[.agg #[.int .i64 (((yJ g n).1:Nat):Int),.int .i64 (((yJ g n).2:Nat):Int)],.int .i64 (n2:Int)] (.bool x2):=hx2▸zeO _ _ _;rw [hx1,hx2] at hv;rw [hv];clear hv hx1 hx2;by_cases hm:m=0
 ·skip;cases x1 with
  | true=>
   refine dS [.v,.l 1,.E (.bool ((m:Int)==0)) (.bool true) (za (beq_iff_eq.2 (by omega))),.v,.n,.n,.n,.v,.v,.l 0,.c (zam g p n c),.v,.l 1,.v,.c c1,.v,.v,.l 0,.c (zeP g p n c),.v,.l 1,.v,.c c2,.v,.v] H1 kr fun w2 H2=>?_;exact rRe [.tmp 4] [] (v:=.bool x2) (v':=.bool ((decide (m=0)||decide (g=110))&&(true&&x2))) H2 (za (by simp [hm])) kr
  | false=>
   refine dS [.v,.l 1,.E (.bool ((m:Int)==0)) (.bool true) (za (beq_iff_eq.2 (by omega))),.v,.n,.n,.n,.v,.v,.l 0,.c (zam g p n c),.v,.l 1,.v,.c c1,.v,.v,.n,.n,.n,.n,.n,.n,.v,.v] H1 kr fun w2 H2=>?_;exact rRe [.tmp 4] [] (v:=.bool false) (v':=.bool ((decide (m=0)||decide (g=110))&&(false&&x2))) H2 (za (by simp [hm])) kr
 ·by_cases hg:g=110
  ·skip;cases x1 with
   | true=>
    refine dS [.v,.l 1,.E (.bool ((m:Int)==0)) (.bool false) (za (beq_eq_false_iff_ne.2 (by omega))),.v,.v,.l 0,.E (.bool ((g:Int)==110)) (.bool true) (za (beq_iff_eq.2 (by omega))),.v,.v,.l 0,.c (zam g p n c),.v,.l 1,.v,.c c1,.v,.v,.l 0,.c (zeP g p n c),.v,.l 1,.v,.c c2,.v,.v] H1 kr fun w2 H2=>?_;exact rRe [.tmp 4] [] (v:=.bool x2) (v':=.bool ((decide (m=0)||decide (g=110))&&(true&&x2))) H2 (za (by simp [hm,hg])) kr
   | false=>
    refine dS [.v,.l 1,.E (.bool ((m:Int)==0)) (.bool false) (za (beq_eq_false_iff_ne.2 (by omega))),.v,.v,.l 0,.E (.bool ((g:Int)==110)) (.bool true) (za (beq_iff_eq.2 (by omega))),.v,.v,.l 0,.c (zam g p n c),.v,.l 1,.v,.c c1,.v,.v,.n,.n,.n,.n,.n,.n,.v,.v] H1 kr fun w2 H2=>?_;exact rRe [.tmp 4] [] (v:=.bool false) (v':=.bool ((decide (m=0)||decide (g=110))&&(false&&x2))) H2 (za (by simp [hm,hg])) kr
  ·refine dS [.v,.l 1,.E (.bool ((m:Int)==0)) (.bool false) (za (beq_eq_false_iff_ne.2 (by omega))),.v,.v,.l 0,.E (.bool ((g:Int)==110)) (.bool false) (za (beq_eq_false_iff_ne.2 (by omega))),.v,.v,.n,.n,.n,.n,.n,.n,.v,.v,.n,.n,.n,.n,.n,.n,.v,.v] H1 kr fun w2 H2=>?_;exact rRe [.tmp 4] [] (v:=.bool false) (v':=.bool ((decide (m=0)||decide (g=110))&&(x1&&x2))) H2 (za (by simp [hm,hg])) kr
def Fr.sub {α:Type}(p:Fr α→Prop):Fr α→Prop
 | .nil=>True
 | .cons a k r=>p k∧r.sub p
theorem Fr.induct {α:Type}{p:Fr α→Prop}(h: ∀l:Fr α,l.sub p→p l): ∀l:Fr α,p l∧l.sub p
 | .nil=>⟨h .nil trivial,trivial⟩
 | .cons a k r=>⟨h _ ⟨(Fr.induct h k).1,(Fr.induct h r).2⟩,(Fr.induct h k).1,(Fr.induct h r).2⟩
def zan (l:Fe):Prop:= ∀(g:Nat) (p:Option Addr) (n c:Nat) (b:Kf) (m:Nat) (s:ByteArray) (p2:Option Addr) (n2 c2:Nat) (room:Int),
 FnP Tryz.prog 50 #[knd g p n c,fld m s p2 n2 c2,.int .i64 room] (fun w=>SlR kS w.heap.size w p n b∧SlR fS w.heap.size w p2 n2 l) (.int .i64 (yv g b (m,s) l room))
theorem zjV (l:Fe)(hs:l.sub zan):zan l:=by
 intro g p n c b m s p2 n2 c2 room;refine FnP.intro (c:=zl Tryz.f50) [.tmp 6] 34 Tryz.func50 kr kr kr fun w hpre=>?_;have H0:=St.start w;obtain ⟨hK,hF⟩:=hpre;have hn2:=hF.1;have hnm:n2≤0x800000000000:=hF.2.1;unfold yv;rw [←hK.1,←hF.1];refine rS [.b,.b,.v] H0 kr fun gs1 w1 H1=>?_;clear H0;refine zc kr ?_;cases hf:zE g n m s.size n2 with
 | false=>
  rw [if_neg (by decide)];refine rS [.l 0,.l 1,.c (zeQ g p n c m s p2 n2 c2),.E (.bool (!(zE g n m s.size n2))) (.bool true) (za (by rw [hf];rfl))] H1 kr fun gs2 w2 H2=>zg kr kr<|rS [.v] H2 kr fun gs3 w3 H3=>?_;exact rR [.tmp 6] [] (.int .i64 (-1)) H3 kr
 | true=>
  rw [if_pos rfl];refine rS [.l 0,.l 1,.c (zeQ g p n c m s p2 n2 c2),.E (.bool (!(zE g n m s.size n2))) (.bool false) (za (by rw [hf];rfl))] H1 kr fun gs2 w2 H2=>zf kr kr<|zh kr<|wW<|rS [.v,.E (.int .i64 (IntKind.i64.wrap (room-1))) (.int .i64 (w64 (room-1))) rfl,.v] H2 kr fun gs3 w3 H3=>zc kr<|rS [.v,.l 1,.v,.v] H3 kr fun gs4 w4 H4=>zj 0 kr ?_;have H5:St w.heap.size w w4 [((gs1 0).b,.cells #[.int .u8 (g:Int),.slice p n c] 56 (0,0)),((gs1 1).b,.cells #[.int .u64 (m:Int),.string s,.slice p2 n2 c2] 43 (0,0))]:=H4.as kr;clear H1 H2 H3 H4;refine zz kr (fun mz ρ ww=> ∃(i:Nat) (r:Fe) (v:Int),n2-i=mz∧FrR fS w.heap.size w p2 i r∧i+r.len=n2∧r.sub zan∧qr l g b 0 (w64 (room-1))=qr r g b i v∧St w.heap.size w ww [((gs1 0).b,.cells #[.int .u8 (g:Int),.slice p n c] 56 (0,0)),((gs1 1).b,.cells #[.int .u64 (m:Int),.string s,.slice p2 n2 c2] 43 (0,0))]∧Is [(2,.int .i64 v),(3,.pointer (some ⟨(gs1 0).b,0,none⟩)),(16,.slice p2 n2 c2),(17,.int .i64 (n2:Int)),(18,.int .i64 (i:Int))] ρ) (n2-0) ⟨0,l,_,rfl,hF.start,by omega,hs,rfl,H5,(Is.of ⟨kr,kr,kr,kr,kr,trivial⟩)⟩ ?_;clear H5;rintro _ _ w5 ⟨i,r,v,rfl,hR,hN,hsub,hv,H6,_,rfl⟩;by_cases hi:i<n2
  ·refine rS [.E (.bool (decide ((i:Int)<(n2:Int)))) (.bool true) (za (decide_eq_true (by omega)))] H6 kr fun gs5 w6 H7=>?_;clear H6;refine zc kr<|zg kr kr<|zh kr<|wW<|zc kr<|zj 1 kr ?_;obtain ⟨⟨m1,s1⟩,k1,r1,b1,off1,C1,T1,fz1,p1,n1,c1,hr1,hp1,hb1,hh1,hs1,hx1,hz1,hk1,hR1,hN1⟩:=FrR.open hR hN hi;obtain ⟨g',p',n',c',hK1,hK2,hg'⟩:=hK.kid g i;subst hr1;refine rS [.v,.o (ins:=[((.tmp 16),.slice p2 n2 c2),((.tmp 18),.int .i64 (i:Int))]) (v:=.pointer (some ⟨b1,off1+i*3,none⟩)) (fun ρ o w ho hi2=>yP (kd:=.i64) (t:=41) (e:=43) (K:=3) (bytes:=48) kr (x:=(.tmp 16)) (y:=(.tmp 18)) b1 off1 n2 c2 i hp1 ho hi2.1 hi2.2.1 (by omega) w),.fp (off:=off1+i*3) (n:=3) (W:=#[.int .u64 (m1:Int),.string s1,.slice p1 n1 c1]) hh1 hb1 hs1 hx1,.a,.v,.s 2] H7 kr fun gs6 w7 H8=>?_;clear H7;refine dS [.l 0,.v,.cp (pre:=fun w=>xX w.heap.size w g p n i g' p' n' c') (zeN g p n c i g' p' n' c') [] (fun w hb hd=>hK1.up hb hb.size),.l 2,.v,.cp (pre:=fun w=>SlR kS w.heap.size w p' n' (zL g b i).2∧SlR fS w.heap.size w p1 n1 k1) (hsub.1 g' p' n' c' (zL g b i).2 m1 s1 p1 n1 c1 v) [] (fun w hb hd=>⟨hK2.call hb,hk1.call hb⟩),.v] H8 kr fun w8 H9=>?_;clear H8;rw [zaj,←hg'] at hv;by_cases hv0:yv g' (zL g b i).2 (m1,s1) k1 v<0
   ·rw [if_pos hv0] at hv;refine rS [.v,.E (.bool (decide (yv g' (zL g b i).2 (m1,s1) k1 v<0))) (.bool true) (za (decide_eq_true hv0))] H9 kr fun gs7 w9 H10=>zg kr kr<|rS [.v,.v] H10 kr fun gs8 w10 H11=>?_;exact rRe [.tmp 6] [] (v:=.int .i64 (yv g' (zL g b i).2 (m1,s1) k1 v)) (v':=.int .i64 (qr l g b 0 (w64 (room-1)))) H11 (ze hv.symm) kr
   ·rw [if_neg hv0] at hv;refine rS [.v,.E (.bool (decide (yv g' (zL g b i).2 (m1,s1) k1 v<0))) (.bool false) (za (decide_eq_false hv0))] H9 kr fun gs7 w9 H10=>zf kr kr<|zh kr<|wW<|rL [.E (.int .i64 (IntKind.i64.wrap ((i:Int)+1))) (.int .i64 ((i+1:Nat):Int)) (ze (zm (a:=i) (b:=1) (by omega))),.v] H10 kr fun gs8 w10 H11=>?_;have H12:St w.heap.size w w10 [((gs1 0).b,.cells #[.int .u8 (g:Int),.slice p n c] 56 (0,0)),((gs1 1).b,.cells #[.int .u64 ((m:Nat):Int),.string s,.slice p2 n2 c2] 43 (0,0)),((gs6 3).b,.cells #[.int .u64 (m1:Int),.string s1,.slice p1 n1 c1] 43 (0,0))]:=H11.as kr;show ∃m,_∧_;exact ⟨_,(by omega),i+1,r1,_,rfl,hR1,hN1,hsub.2,hv,H12.sub (List.Sublist.cons_cons _ (List.Sublist.cons_cons _ (List.nil_sublist _))),(Is.of ⟨kr,kr,kr,kr,kr,trivial⟩)⟩
  ·obtain rfl:=FrR.done hN hi;refine rS [.E (.bool (decide ((i:Int)<(n2:Int)))) (.bool false) (za (decide_eq_false (by omega)))] H6 kr fun gs5 w6 H7=>zc kr<|zf kr kr<|zw 0 kr<|wW<|rS [.v,.v] H7 kr fun gs6 w7 H8=>?_;exact rRe [.tmp 6] [] (v:=.int .i64 v) (v':=.int .i64 (qr l g b 0 (w64 (room-1)))) H8 (ze hv.symm) kr
theorem zeR (l:Fe):zan l:=(Fr.induct zjV l).1
structure xz (C:Array Value)(n i:Nat)(M:List X3):Prop where
 sz:C.size=n*3
 len:M.length=i
 take:C.toList.take (i*3)=cells3 M
theorem xz.start {C:Array Value}{n:Nat}(h:C.size=n*3):xz C n 0 []:=⟨h,rfl,by simp [cells3]⟩
theorem xz.put {C:Array Value}{n i:Nat}{M:List X3}(h:xz C n i M)(x:X3)(hi:i<n):
 0+i*3+(Value.agg (xc x)).cells.size≤C.size∧xz (C.toList.take (0+i*3)++(Value.agg (xc x)).cells.toList++C.toList.drop (0+i*3+(Value.agg (xc x)).cells.size)).toArray n (i+1) (M++ [x]):=by
 have hc:(Value.agg (xc x)).cells=xc x:=rfl;have h3:(xc x).size=3:=rfl;have hl3:(xc x).toList.length=3:=rfl;have hsz:=h.sz;rw [hc,h3,Nat.zero_add];have hle:i*3+3≤C.size:=by omega
 refine ⟨hle,?_,by rw [List.length_append,h.len];rfl,?_⟩
 ·simp only [List.size_toArray,List.length_append,List.length_take,List.length_drop,Array.length_toList,hl3];omega
 ·have e1:(C.toList.take (i*3)).length=i*3:=by rw [List.length_take,Array.length_toList];omega
  have e2:(C.toList.take (i*3)).take (i*3+3)=C.toList.take (i*3):=List.take_of_length_le (by omega);have e3:(xc x).toList.take 3=(xc x).toList:=rfl;rw [show (i+1)*3=i*3+3 by omega,List.toList_toArray,List.append_assoc,List.take_append,e1,e2,Nat.add_sub_cancel_left,List.take_append,hl3,Nat.sub_self,List.take_zero,List.append_nil,e3,zbH,h.take];rfl
theorem xz.done {C:Array Value}{n:Nat}{M:List X3}(h:xz C n n M)(hm:n≤maxLen):Rw 3 C n n (cells3 M):=⟨by rw [ky,h.len],Nat.le_refl _,hm,h.take,h.sz⟩
theorem zjW (n c:Nat)(L:List X3)(h0:n=0):FnR Tryz.prog 124 #[.slice none n c] (fun w=>n=List.length L∧ji w none L) (uj 73 (fun v=>v) n L):=by
 refine FnR.intro (c:=zl Tryz.f124) [.tmp 2] 8 Tryz.func124 kr kr kr fun w hpre=>?_;have H0:=St.start w;refine rS [.v] H0 kr fun gs1 w1 H1=>?_;clear H0;refine zc kr<|rS [.v,.v] H1 kr fun gs2 w2 H2=>?_;clear H1;refine zg kr kr<|rS [.v] H2 kr fun gs3 w3 H3=>?_;clear H2;refine zn kr<|wV ?_;refine ⟨[.slice none 0 0],(.tmp (.slice none 0 0) kr .nil),H3.below,?_⟩;exact Or.inl ⟨h0,rfl⟩
theorem zjX (a:Addr)(n c:Nat)(L:List X3)(hn8:n≤2000000000000):FnR Tryz.prog 124 #[.slice (some a) n c] (fun w=>n=List.length L∧ji w (some a) L) (uj 73 (fun v=>v) n L):=by
 refine FnR.intro (c:=zl Tryz.f124) [.tmp 2] 8 Tryz.func124 kr kr kr fun w hpre=>?_;have H0:=St.start w;refine rS [.v] H0 kr fun gs1 w1 H1=>?_;clear H0;refine zc kr<|rS [.v,.v] H1 kr fun gs2 w2 H2=>?_;clear H1;refine zf kr kr<|zh kr<|wW<|zi [0,1,2,3] kr kr<|rp [.nw (fun b=>.slice (some ⟨b,0,none⟩) 0 0) #[] 73,.v] H2 kr fun gs3 w3 H3=>wX [2,3] ?_;clear H2;have HL1:St w.heap.size w w3 [((gs3 0).b,Obj.cells #[] 73 (0,0))]:=H3.as kr;clear H3;refine zjP HL1 (some 7) 71 73 48 (.tmp 5) (.tmp 6) 0 ((gs3 0).b) 0 n 0 c (some a) #[] [] L (fun b_1 cur_3=>[(b_1,Obj.cells cur_3 73 (0,0))]) kr kr kr kr kr (Rw.lit #[] 0 (by rfl) (by unfold maxLen;omega)) kr hpre.1 (fun h=>nomatch h) (ji.up hpre.2 HL1.below) (by omega) (by unfold maxLen;omega) (fun _ _=>by kernel_rfl) ?_;intro b_1 cap_2 cur_3 w4 H4 hr_4;clear HL1;rw [Nat.zero_add] at hr_4;refine yT 7 (v:=.slice (some ⟨b_1,0,none⟩) (0+n) cap_2) (v':=.slice (some ⟨b_1,0,none⟩) n cap_2) (by rw [Nat.zero_add]) kr<|rp [.v] H4 kr fun gs5 w5 H5=>wX [] ?_;clear H4;refine zd<|zn kr<|wV ?_;refine ⟨[.slice (some ⟨b_1,0,none⟩) n cap_2],(.tmp (.slice (some ⟨b_1,0,none⟩) n cap_2) kr .nil),H5.below,?_⟩;exact Or.inr ⟨b_1,cap_2,_,rfl,H5.ge 0 (o:=.cells cur_3 73 (0,0)) kr,H5.get 0 kr,hr_4⟩
theorem zjY (p:Option Addr)(n c:Nat)(L:List X3)(hn8:n≤2000000000000):FnR Tryz.prog 124 #[.slice p n c] (fun w=>n=List.length L∧ji w p L) (uj 73 (fun v=>v) n L):=fun w hp=>by
 cases p with
 | none=>
  have h0:n=0:=by
   rcases hp.2 with h|⟨b,off,e,_⟩
   ·rw [hp.1,h];rfl
   ·cases e
  exact zjW n c L h0 w hp
 | some a=>exact zjX a n c L hn8 w hp
theorem zjZ (p:Option Addr)(n c:Nat)(L:List X3)(hn8:n≤2000000000000):FnR Tryz.prog 93 #[.slice p n c] (fun w=>n=List.length L∧ji w p L) (uj 73 (fun v=>.agg #[.bool true,.string ⟨#[]⟩,v]) n L):=by
 refine FnR.intro (c:=zl Tryz.f93) [.cell 2 73] 6 Tryz.func93 kr kr kr fun w hpre=>?_;have H0:=St.start w;refine rS [.a] H0 kr fun gs1 w1 H1=>?_;clear H0;refine zi [0,1,2,3] kr kr<|rp [.v] H1 kr fun gs2 w2 H2=>wX [1,2,3] ?_;clear H1;refine zeA H2 (some 4) 124 #[.slice p n c] (fun w=>n=List.length L∧ji w p L) 73 (fun v=>v) n L (zjY p n c L (by omega)) ⟨hpre.1,ji.up hpre.2 H2.below⟩ kr kr ?_ ?_
 ·skip;intro w3 h0 H3;clear H2;refine rp [.v,.s 0] H3 kr fun gs5 w5 H5=>wX [] ?_;clear H3;refine zd<|zn kr<|wV ?_;refine ⟨[.agg #[.bool true,.string (⟨#[]⟩),.slice none 0 0]],(.agg (b:=(gs1 0).b) (#[.bool true,.string (⟨#[]⟩),.slice none 0 0]) 73 (0,0) kr (H5.get 0 kr) kr .nil),H5.below,?_⟩;exact Or.inl ⟨h0,rfl⟩
 ·skip;intro b_1 cap_2 cur_3 w4 H4 hr_4;clear H2;refine rp [.v,.s 1] H4 kr fun gs6 w6 H6=>wX [] ?_;clear H4;refine zd<|zn kr<|wV ?_;refine ⟨[.agg #[.bool true,.string (⟨#[]⟩),.slice (some ⟨b_1,0,none⟩) n cap_2]],(.agg (b:=(gs1 0).b) (#[.bool true,.string (⟨#[]⟩),.slice (some ⟨b_1,0,none⟩) n cap_2]) 73 (0,0) kr (H6.get 1 kr) kr .nil),H6.below,?_⟩;exact Or.inr ⟨b_1,cap_2,_,rfl,H6.ge 0 (o:=.cells cur_3 73 (0,0)) kr,H6.get 0 kr,hr_4⟩
def Fo.app:Fo→Fo→Fo
 | .nil,R=>R
 | .cons l s k r,R=>.cons l s k (r.app R)
theorem zao (x:X3)(R:Fo): ∀M:List X3,(toFo (M++ [x])).app R=(toFo M).app (.cons x.l x.s x.k R)
 | []=>rfl
 | y::r=>by simp only [List.cons_append,toFo,Fo.app,zao x R r]
theorem Fo.app_nil: ∀k:Fo,k.app .nil=k
 | .nil=>rfl
 | .cons l s k r=>by simp only [Fo.app,Fo.app_nil r]
theorem zap {g:Nat}{x:Nat×ByteArray}(h:x.2.size≤0x800000000000):(zY g x).size≤0x800000000000:=by
 unfold zY;split
 ·rw [zO];have:=jx x.1;omega
 ·split
  ·exact Nat.zero_le _
  ·exact h
def un (g:Nat)(b:Kf)(x:Nat×ByteArray)(l:Fe)(v:Value)(T:List (Nat×Obj)):Prop:=
 ∃(p:Option Addr) (n c:Nat),v=.agg #[.bool (yr g),.string (zY g x),.slice p n c]∧yh T p n (yk g b l)
def zaq (l:Fe):Prop:= ∀(g:Nat) (p:Option Addr) (n c:Nat) (b:Kf) (m:Nat) (s:ByteArray) (p2:Option Addr) (n2 c2:Nat) (room:Int),m<0x10000000000000000→0≤yv g b (m,s) l room→
 FnT Tryz.prog 51 #[knd g p n c,fld m s p2 n2 c2] (fun w=>SlR kS w.heap.size w p n b∧SlR fS w.heap.size w p2 n2 l) (un g b (m,s) l)
abbrev zj0 (v:Value):Obj:=.cells #[.bool true,.string ⟨#[]⟩,v] 73 (0,0)
abbrev itZ:Obj:=.cells #[.bool false,.string ⟨#[]⟩,.slice none 0 0] 73 (0,0)
abbrev kdO (g:Nat)(p:Option Addr)(n c:Nat):Obj:=.cells #[.int .u8 (g:Int),.slice p n c] 56 (0,0)
abbrev fdO (m:Nat)(s:ByteArray)(p:Option Addr)(n c:Nat):Obj:=.cells #[.int .u64 (m:Int),.string s,.slice p n c] 43 (0,0)
abbrev rwO (C:Array Value):Obj:=.cells C 73 (0,0)
def zar (C:Array Value)(i:Nat)(x:X3):Array Value:=(C.toList.take (0+i*3)++(Value.agg (xc x)).cells.toList++C.toList.drop (0+i*3+(Value.agg (xc x)).cells.size)).toArray
def jA (B:Nat)(w0:World)(bq br:Nat)(C:Array Value)(i:Nat)(ok:X3→List (Nat×Obj)→Prop)(bk:Nat)(kO fO:Obj)(T:List (Nat×Obj)):(Nat→Bool)→(Nat→D2.Gh)→World→Prop:=fun L g w=>
 bif L 8 then ∃x T2,ok x T2∧St B w0 w ((bq,fO)::(bk,kO)::(br,rwO (zar C i x))::(T2++T))
 else bif L 6 then ∃x T2,ok x T2∧(g 6).cur=xc x∧St B w0 w ((bq,fO)::(bk,kO)::(br,rwO C)::(T2++T))
 else St B w0 w ((bq,fO)::(bk,kO)::(br,rwO C)::T)
theorem jA.st {B:Nat}{w0:World}{bq br:Nat}{C:Array Value}{i:Nat}{ok:X3→List (Nat×Obj)→Prop}{bk:Nat}{kO fO:Obj}{T:List (Nat×Obj)}{L:Nat→Bool}{g:Nat→D2.Gh}{w:World}(h8:L 8=false)(h:jA B w0 bq br C i ok bk kO fO T L g w):∃T',St B w0 w ((bq,fO)::(bk,kO)::(br,rwO C)::T'):=by
 unfold jA at h;rw [h8] at h;cases h6:L 6 with
 | true=>rw [h6] at h;obtain ⟨x,T2,_,_,h⟩:=h;exact ⟨_,h⟩
 | false=>rw [h6] at h;exact ⟨_,h⟩
theorem jA.call {B:Nat}{w0:World}{bq br:Nat}{C:Array Value}{i:Nat}{ok:X3→List (Nat×Obj)→Prop}{bk:Nat}{kO fO:Obj}{T:List (Nat×Obj)}{L:Nat→Bool}{g:Nat→D2.Gh}{w w':World}(hb:Below w.heap.size w w')(h:jA B w0 bq br C i ok bk kO fO T L g w):jA B w0 bq br C i ok bk kO fO T L g w':=by
 unfold jA at h ⊢;cases h8:L 8 with
 | true=>rw [h8] at h;obtain ⟨x,T2,h1,h⟩:=h;exact ⟨x,T2,h1,h.call hb⟩
 | false=>
  rw [h8] at h;cases h6:L 6 with
  | true=>rw [h6] at h;obtain ⟨x,T2,h1,h2,h⟩:=h;exact ⟨x,T2,h1,h2,h.call hb⟩
  | false=>rw [h6] at h;exact St.call h hb
theorem zj1 (l:Fe)(hs:l.sub zaq):zaq l:=by
 intro g p n c b m s p2 n2 c2 room hm hleft;refine FnT.intro (c:=zl Tryz.f51) [.cell 4 73] 44 Tryz.func51 kr kr kr fun w hpre=>?_;have H0:=St.start w;obtain ⟨hK,hF⟩:=hpre;have hfit:zE g b.len m s.size l.len=true∧0≤qr l g b 0 (w64 (room-1)):=by
  unfold yv at hleft;by_cases hf:zE g b.len m s.size l.len=true
  ·rw [if_pos hf] at hleft;exact ⟨hf,hleft⟩
  ·rw [if_neg hf] at hleft;omega
 obtain ⟨hf1,hf2,hf3⟩:=zbK hfit.1;have hn2:=hF.1;have hnb:n2≤1000:=by
  have hk1:=hK.1;have hk2:n≤1000:=hK.2.1;have:=hf3.2;unfold yJ at this;split at this
  ·simp only at this;omega
  ·split at this
   ·simp only at this;omega
   ·simp only at this;omega
 refine rS [.b,.b,.a] H0 kr fun gs1 w1 H1=>?_;clear H0;refine rS [.v,.l 0] H1 kr fun gs2 w2 H2=>?_;clear H1;refine zj 0 kr ?_;by_cases h110:g=110
 ·refine rS [.E (.bool ((g:Int)==110)) (.bool true) (za (beq_iff_eq.2 (by omega))),.v] H2 kr fun gs3 w3 H3=>zg kr kr<|rS [.v,.l 1,.c (zjM m hm),.s 2] H3 kr fun gs4 w4 H4=>rRr [.cell 4 73] [2] (.agg #[.bool false,.string (zb (dg m)),.slice none 0 0]) (yf w.heap.size w (un g b (m,s) l)) H4 kr ?_;refine ⟨[],⟨none,0,0,?_,?_⟩,H4.sub (List.nil_sublist _)⟩
  ·subst h110;rfl
  ·subst h110;exact yh.none _
 ·refine rS [.E (.bool ((g:Int)==110)) (.bool false) (za (beq_eq_false_iff_ne.2 (by omega))),.v] H2 kr fun gs3 w3 H3=>zf kr kr<|zc kr<|jc (Q:=fun e ρ ww=>e=.normal∧St w.heap.size w ww [((gs1 0).b,kdO g p n c),((gs1 1).b,fdO m s p2 n2 c2),((gs1 2).b,itZ)]∧Is [(2,.pointer (some ⟨(gs1 0).b,0,none⟩)),(3,.pointer (some ⟨(gs1 1).b,0,none⟩)),(4,.pointer (some ⟨(gs1 2).b,0,none⟩)),(18,.bool (yr g))] ρ) ?_ ?_
  ·by_cases h40:g=40
   ·refine rS [.E (.bool ((g:Int)==40)) (.bool true) (za (beq_iff_eq.2 (by omega))),.v] H3 kr fun gs4 w4 H4=>zg kr kr<|zh kr ?_;refine ⟨rfl,H4.as kr,?_⟩;subst h40;exact Is.of ⟨kr,kr,kr,kr,trivial⟩
   ·refine rS [.E (.bool ((g:Int)==40)) (.bool false) (za (beq_eq_false_iff_ne.2 (by omega))),.v] H3 kr fun gs4 w4 H4=>zf kr kr ?_;have hl:yr g=decide (g=42):=by unfold yr;rw [decide_eq_false h40];rfl
    rw [hl];by_cases h42:g=42
    ·refine rL [.E (.bool ((g:Int)==42)) (.bool true) (za (beq_iff_eq.2 (by omega))),.v] H4 kr fun gs5 w5 H5=>?_;refine ⟨rfl,H5.as kr,?_⟩;rw [decide_eq_true h42];exact Is.of ⟨kr,kr,kr,kr,trivial⟩
    ·refine rL [.E (.bool ((g:Int)==42)) (.bool false) (za (beq_eq_false_iff_ne.2 (by omega))),.v] H4 kr fun gs5 w5 H5=>?_;refine ⟨rfl,H5.as kr,?_⟩;rw [decide_eq_false h42];exact Is.of ⟨kr,kr,kr,kr,trivial⟩
  rintro _ _ w4 ⟨rfl,H4,_,rfl⟩;refine wW ?_;clear H3 H2;cases hl:yr g with
  | false=>
   refine zf kr kr<|rS [.v,.l 1,.v,.s 2] H4 kr fun gs5 w5 H5=>rRr [.cell 4 73] [2] (.agg #[.bool false,.string s,.slice none 0 0]) (yf w.heap.size w (un g b (m,s) l)) H5 kr ?_;refine ⟨[],⟨none,0,0,?_,?_⟩,H5.sub (List.nil_sublist _)⟩
   ·unfold zY;rw [if_neg h110,if_neg (by rw [hl];decide),hl]
   ·unfold yk;rw [if_neg (by rw [hl];decide)];exact yh.none _
  | true=>
   refine zg kr kr<|zi [0,1,2,3,4] kr kr<|rp [.v,.l 1,.v] H4 kr fun gs5 w5 H5=>wX [3,4] ?_;have H6:St w.heap.size w w5 [((gs1 0).b,kdO g p n c),((gs1 1).b,fdO m s p2 n2 c2),((gs1 2).b,itZ)]:=H5.as kr;refine zd0 H6 (some 24) 71 73 3 48 (.tmp 23) (.tmp 23) .i64 .i64 n2 kr kr kr kr kr (by omega) (by unfold maxLen;omega) ?_;intro br C0 w6 H7 hC0;clear H4 H5 H6;have H8:St w.heap.size w w6 (((gs1 0).b,kdO g p n c)::(br,rwO C0)::((gs1 1).b,fdO m s p2 n2 c2)::((gs1 2).b,itZ)::[]):=H7.perm (List.Perm.swap _ _ _);clear H7;refine rp [.v] H8 kr fun gs6 w7 H9=>wX []<|zd<|zc kr<|rS [.v,.l 2,.v,.v] H9 kr fun gs7 w8 H10=>zj 1 kr ?_;have H11:St w.heap.size w w8 (((gs1 0).b,kdO g p n c)::(br,rwO C0)::((gs1 1).b,fdO m s p2 n2 c2)::((gs1 2).b,itZ)::[]):=H10.as kr;clear H8 H9 H10;refine zz kr (fun mz ρ ww=> ∃(i:Nat) (r:Fe) (v:Int) (C:Array Value) (M:List X3) (T:List (Nat×Obj)),n2-i=mz∧FrR fS w.heap.size w p2 i r∧i+r.len=n2∧r.sub zaq∧0≤qr r g b i v∧(toFo M).app (yK r g b i)=yK l g b 0∧xz C n2 i M∧AllIn T M∧St w.heap.size w ww (((gs1 0).b,kdO g p n c)::(br,rwO C)::((gs1 1).b,fdO m s p2 n2 c2)::((gs1 2).b,itZ)::T)∧Is [(2,.pointer (some ⟨(gs1 0).b,0,none⟩)),(3,.pointer (some ⟨(gs1 1).b,0,none⟩)),(4,.pointer (some ⟨(gs1 2).b,0,none⟩)),(5,.slice (some ⟨br,0,none⟩) n2 n2),(26,.slice p2 n2 c2),(27,.int .i64 (n2:Int)),(28,.int .i64 (i:Int))] ρ) (n2-0) ⟨0,l,_,C0,[],[],rfl,hF.start,by omega,hs,hfit.2,rfl,xz.start hC0,(fun _ h=>nomatch h),H11,(Is.of ⟨kr,kr,kr,kr,kr,kr,kr,trivial⟩)⟩ ?_;clear H11;rintro _ _ w9 ⟨i,r,v,C,M,T,rfl,hR,hN,hsub,hlf,happ,hFill,hAll,H12,_,rfl⟩;by_cases hi:i<n2
   ·refine rS [.E (.bool (decide ((i:Int)<(n2:Int)))) (.bool true) (za (decide_eq_true (by omega)))] H12 kr fun gs8 w10 H13=>?_;clear H12;refine zc kr<|zg kr kr<|zh kr<|wW<|zc kr<|zj 2 kr ?_;obtain ⟨⟨m1,s1⟩,k1,r1,b1,off1,C1,T1,fz1,p1,n1,c1,hr1,hp1,hb1,hh1,hs1,hx1,hz1,hk1,hR1,hN1⟩:=FrR.open hR hN hi;obtain ⟨g',p',n',c',hK1,hK2,hg'⟩:=hK.kid g i;subst hr1;rw [zaj,←hg'] at hlf;have hkid:0≤yv g' (zL g b i).2 (m1,s1) k1 v∧0≤qr r1 g b (i+1) (yv g' (zL g b i).2 (m1,s1) k1 v):=by
     by_cases hv:yv g' (zL g b i).2 (m1,s1) k1 v<0
     ·rw [if_pos hv] at hlf;omega
     ·rw [if_neg hv] at hlf;exact ⟨Int.not_lt.1 hv,hlf⟩
    refine zi [0,1,2,3,4,5] kr kr<|rp [.v,.o (ins:=[((.tmp 26),.slice p2 n2 c2),((.tmp 28),.int .i64 (i:Int))]) (v:=.pointer (some ⟨b1,off1+i*3,none⟩)) (fun ρ o w ho hi2=>yP (kd:=.i64) (t:=41) (e:=43) (K:=3) (bytes:=48) kr (x:=(.tmp 26)) (y:=(.tmp 28)) b1 off1 n2 c2 i hp1 ho hi2.1 hi2.2.1 (by omega) w),.fp (off:=off1+i*3) (n:=3) (W:=#[.int .u64 (m1:Int),.string s1,.slice p1 n1 c1]) hh1 hb1 hs1 hx1] H13 kr fun gs9 w11 H14=>wX [3,4,5] ?_;have H15:St w.heap.size w w11 (((gs1 0).b,kdO g p n c)::(br,rwO C)::((gs1 1).b,fdO m s p2 n2 c2)::((gs1 2).b,itZ)::T):=H14.as kr;refine qA H15 (some 7) 43 (.agg #[wZ,.string ⟨#[]⟩,.slice none 0 0]) kr kr kr ?_;intro bq w12 H16;refine rp [.v,.s 0] H16 kr fun gs10 w13 H17=>wX []<|zd ?_;have H18:St w.heap.size w w13 ((bq,fdO m1 s1 p1 n1 c1)::((gs1 0).b,kdO g p n c)::(br,rwO C)::((gs1 1).b,fdO m s p2 n2 c2)::((gs1 2).b,itZ)::T):=H17.as kr;clear H13 H14 H15 H16 H17;have hc:=hsub.1 g' p' n' c' (zL g b i).2 m1 s1 p1 n1 c1 v hz1.1 hkid.1;refine D2.g_draw0 [0,1,2,3,4,5,6,7,8] [(some 33,fun _=>.slice (some ⟨br,0,none⟩) n2 n2),(some 34,fun _=>.int .i64 (i:Int)),(some 35,fun _=>knd g p n c),(some 36,fun _=>.int .i64 (i:Int)),(some 37,fun _=>knd g' p' n' c'),(some 38,fun _=>fld m1 s1 p1 n1 c1),(some 39,fun y=>.agg y.cur),(some 40,fun _=>.pointer (some ⟨br,0+i*3,none⟩)),(none,fun _=>undef)]
     (jA w.heap.size w bq br C i (fun x T2=>x.l=yr g'∧x.s=zY g' (m1,s1)∧x.k=yk g' (zL g b i).2 k1∧yh T2 x.p x.n x.k) (gs1 0).b (kdO g p n c) (fdO m1 s1 p1 n1 c1) (((gs1 1).b,fdO m s p2 n2 c2)::((gs1 2).b,itZ)::T)) kr kr kr H18.drew ⟨?_,?_,?_,?_,?_,?_,?_,?_,?_,trivial⟩ ?_
    ·exact D2.gv_val (fun _ _ _ h=>h) (fun g w=>by kernel_rfl)
    ·exact D2.gv_val (fun _ _ _ h=>h) (fun g w=>by kernel_rfl)
    ·refine D2.gv_ld (fun _ _ _ h=>h) 56 (.tmp 2) (fun _=>(gs1 0).b) 0 #[.int .u8 ((g:Nat):Int),.slice p n c] 56 (0,0) (fun g=>by kernel_rfl) (fun g=>by kernel_rfl) (fun L g w hN hp=>?_) kr kr;obtain ⟨T',h⟩:=hp.st (hN.post 8 kr);exact h.get 1 kr
    ·exact D2.gv_val (fun _ _ _ h=>h) (fun g w=>by kernel_rfl)
    ·refine D2.gv_cpW (fun _ _ _ h=>h) 91 #[knd g p n c,.int .i64 (i:Int)] (zeN g p n c i g' p' n' c') (fun L g w hN hp=>?_) (fun L g w w' hN hp hb=>hp.call hb) (fun g w=>by kernel_rfl);obtain ⟨T',h⟩:=hp.st (hN.post 8 kr);exact hK1.up h.below h.below.size
    ·refine D2.gv_ld (fun _ _ _ h=>h) 43 (.tmp 7) (fun _=>bq) 0 #[.int .u64 (m1:Int),.string s1,.slice p1 n1 c1] 43 (0,0) (fun g=>by kernel_rfl) (fun g=>by kernel_rfl) (fun L g w hN hp=>?_) kr kr;obtain ⟨T',h⟩:=hp.st (hN.post 8 kr);exact h.get 0 kr
    ·refine D2.gv_ft 51 #[knd g' p' n' c',fld m1 s1 p1 n1 c1] hc (fun L g w hN hp=>?_) (fun L gg ww v' T2 w' hN hp hok hT=>?_) (fun g w=>by kernel_rfl)
     ·obtain ⟨T',h⟩:=hp.st (hN.post 8 kr);exact ⟨hK2.call h.below,hk1.call h.below⟩
     ·obtain ⟨q1,q2,q3,rfl,hsl⟩:=hok;refine ⟨{ cur:=#[.bool (yr g'),.string (zY g' (m1,s1)),.slice q1 q2 q3] },rfl,?_⟩;unfold jA at hp ⊢;rw [hN.post 8 kr,hN.1] at hp;rw [show D2.put1 L 6 8=false from hN.post 8 kr,show D2.put1 L 6 6=true from rfl];exact ⟨⟨yr g',zY g' (m1,s1),q1,q2,q3,yk g' (zL g b i).2 k1⟩,T2,⟨rfl,rfl,rfl,hsl⟩,rfl,(St.addAll hp hT).perm (List.perm_append_comm_assoc T2 [(bq,fdO m1 s1 p1 n1 c1),((gs1 0).b,kdO g p n c),(br,rwO C)] (((gs1 1).b,fdO m s p2 n2 c2)::((gs1 2).b,itZ)::T)).symm⟩
    ·exact D2.gv_op (fun _ _ _ h=>h) _ (fun g=>by kernel_rfl) (fun g o w ho=>yP (kd:=.i64) (t:=71) (e:=73) (K:=3) (bytes:=48) kr (x:=(.tmp 33)) (y:=(.tmp 34)) br 0 n2 n2 i rfl ho kr kr hi w)
    ·refine D2.gives_of fun L1 gg ww hp hN=>?_;have h6:=hN.bef 6 kr;unfold jA at hp;rw [hN.1,h6] at hp;obtain ⟨x,T2,hx,hcur,HS⟩:=hp;obtain ⟨o,ho,hd,hw,hop⟩:=zI (show opk _ 8 _=some (none,true,.store 73 (.tmp 40) (.tmp 39)) by kernel_rfl);refine ⟨o,ho,hd,.inr ⟨hw,?_⟩⟩;rw [ub (t:=73) (off:=0+i*3) (b:=br) (C:=C) (T:=73) (v:=.agg (xc x)) (C':=zar C i x) (HS.get 2 kr) kr kr (hFill.put x hi).1 rfl kr (by rw [←hcur];kernel_rfl) o hop];refine ⟨default,rfl,?_⟩;unfold jA;rw [show D2.put1 L1 8 8=true from rfl];exact ⟨x,T2,hx,HS.store 2 (C:=C) kr⟩
    ·intro L1 gg w14 hall hp;unfold jA at hp;rw [hall 8 (Nat.le_of_ble_eq_true kr)] at hp;obtain ⟨x,T2,⟨hx1,hx2,hx3,hx4⟩,HS⟩:=hp;have H19:St w.heap.size w w14 (((gs1 0).b,kdO g p n c)::(br,rwO (zar C i x))::((gs1 1).b,fdO m s p2 n2 c2)::((gs1 2).b,itZ)::(T2++T)):=(HS.sub (List.sublist_cons_self ..)).perm (List.Perm.cons _ (List.Perm.cons _ (List.perm_append_comm_assoc T2 [((gs1 1).b,fdO m s p2 n2 c2),((gs1 2).b,itZ)] T).symm));refine wW<|rL [.E (.int .i64 (IntKind.i64.wrap ((i:Int)+1))) (.int .i64 ((i+1:Nat):Int)) (ze (zm (a:=i) (b:=1) (by omega))),.v] H19 kr fun gs11 w15 H20=>?_;show ∃m,_∧_;refine ⟨_,(by omega),i+1,r1,_,zar C i x,M++ [x],T2++T,rfl,hR1,hN1,hsub.2,hkid.2,?_,(hFill.put x hi).2,?_,H20.as kr,(Is.of ⟨kr,kr,kr,kr,kr,kr,kr,trivial⟩)⟩
     ·rw [zao,hx1,hx2,hx3,←happ,zbI,←hg']
     ·exact (hAll.mono fun e he=>List.mem_append_right _ he).snoc (hx4.mono fun e he=>List.mem_append_left _ he) (by rw [hx2];exact zap hz1.2)
   ·obtain rfl:=FrR.done hN hi;obtain rfl:i=n2:=by simp only [Fr.len] at hN;omega
    refine rS [.E (.bool (decide ((i:Int)<(i:Int)))) (.bool false) (za (decide_eq_false (by omega)))] H12 kr fun gs8 w10 H13=>zc kr<|zf kr kr<|zw 1 kr<|wW ?_;have hM:toFo M=yk g b l:=by
     unfold yk;rw [if_pos hl,←happ];exact (Fo.app_nil _).symm
    have hrw:=hFill.done (by unfold maxLen;omega);refine zi [0,1,2] kr kr<|rp [.v] H13 kr fun gs9 w11 H14=>wX [1,2] ?_;have H15:St w.heap.size w w11 (((gs1 0).b,kdO g p n c)::(br,rwO C)::((gs1 1).b,fdO m s p2 i c2)::((gs1 2).b,itZ)::T):=H14.as kr;refine zeA H15 (some 43) 93 #[.slice (some ⟨br,0,none⟩) i i] (fun w=>i=List.length M∧ji w (some ⟨br,0,none⟩) M) 73 (fun v=>.agg #[.bool true,.string ⟨#[]⟩,v]) i M (zjZ _ _ _ M (by omega)) (hrw.cellsAt (T:=73) (fz:=(0,0)) (H15.get 1 kr)) kr kr ?_ ?_
    ·intro w12 h0 H16;subst h0;refine rp [.s 3] H16 kr fun gs10 w13 H17=>wX []<|zd<|rRr [.cell 4 73] [3] (.agg #[.bool true,.string ⟨#[]⟩,.slice none 0 0]) (yf w.heap.size w (un g b (m,s) l)) H17 kr ?_;refine ⟨[],⟨none,0,0,?_,?_⟩,H17.sub (List.nil_sublist _)⟩
     ·unfold zY;rw [if_neg h110,if_pos hl,hl]
     ·rw [←hM,List.eq_nil_of_length_eq_zero hFill.len];exact yh.none _
    ·intro bl cap cur w12 H16 hr;refine rp [.s 4] H16 kr fun gs10 w13 H17=>wX []<|zd<|rRr [.cell 4 73] [4] (.agg #[.bool true,.string ⟨#[]⟩,.slice (some ⟨bl,0,none⟩) i cap]) (yf w.heap.size w (un g b (m,s) l)) H17 kr ?_;have H18:St w.heap.size w w13 ((bl,rwO cur)::((gs1 0).b,kdO g p n c)::(br,rwO C)::((gs1 1).b,fdO m s p2 i c2)::((gs1 2).b,zj0 (.slice (some ⟨bl,0,none⟩) i cap))::T):=H17.as kr;refine ⟨(bl,rwO cur)::T,⟨some ⟨bl,0,none⟩,i,cap,?_,?_⟩,H18.sub (List.Sublist.cons_cons _ (List.Sublist.cons _ (List.Sublist.cons _ (List.Sublist.cons _ (List.sublist_cons_self ..)))))⟩
     ·unfold zY;rw [if_neg h110,if_pos hl,hl]
     ·rw [←hM];exact hr.slIn (ty:=73) (fz:=(0,0)) (List.mem_cons_self ..) (hAll.mono fun e he=>List.mem_cons_of_mem _ he) (by omega)
theorem zj2 (l:Fe):zaq l:=(Fr.induct zj1 l).1
abbrev itm (l:Bool)(s:ByteArray)(p:Option Addr)(n c:Nat):Value:=.agg #[.bool l,.string s,.slice p n c]
abbrev frO (C:Array Value):Obj:=.cells C 43 (0,0)
abbrev ec (x:El (Nat×ByteArray)):Array Value:=#[.int .u64 ((x.a.1:Nat):Int),.string x.a.2,.slice x.p x.n x.c]
section
variable {B:Nat}{w0:World}{bq bf bk:Nat}{qO kO:Obj}{p:Option Addr}{i c:Nat}{row:List (Nat×Obj)}{M:List (El (Nat×ByteArray))}{ok:El (Nat×ByteArray)→List (Nat×Obj)→Prop}{T:List (Nat×Obj)}{L:Nat→Bool}{g:Nat→D2.Gh}{w w':World}
end
abbrev kR (C:Array Value):Obj:=.cells C 56 (0,0)
structure Sk where
 g:Nat
 p:Option Addr
 n:Nat
 c:Nat
 row:List (Nat×Obj)
 M:List (El Nat)
def Sk.el (e:Sk):El Nat:=⟨e.g,e.p,e.n,e.c,qE e.M⟩
def opE:List Sk→List (El Nat)
 | []=>[]
 | e::r=>opE r++ [e.el]
def yC:List Sk→List (Nat×Obj)
 | []=>[]
 | e::r=>e.row++yC r
def stM (S:List Sk):List (Nat×Kf):=S.map fun e=>(e.g,qE e.M)
def Bot:List Sk→Prop
 | []=>False
 | e::r=>(r=[]∧e.g=40)∨Bot r
structure xB (T:List (Nat×Obj))(m:Nat)(e:Sk):Prop where
 row:RowE kS 56 e.p e.n e.c e.row e.M
 all:AllE kS T e.M
 le:e.n≤m
theorem xB.mono {T T':List (Nat×Obj)}{m m':Nat}{e:Sk}(h:xB T m e)(hT: ∀x∈T,x∈T')(hm:m≤m'):xB T' m' e:=⟨h.row,h.all.mono hT,Nat.le_trans h.le hm⟩
theorem zbR: ∀S:List Sk,(opE S).length=S.length
 | []=>rfl
 | e::r=>by simp only [opE,List.length_append,zbR r,List.length_cons,List.length_nil]
theorem vu (e:Sk)(r:List Sk):ya kS (opE (e::r))=ya kS (opE r)++ [.int .u8 ((e.g:Nat):Int),.slice e.p e.n e.c]:=by
 show ya kS (opE r++ [e.el])=_;rw [vZ];rfl
theorem zas (r:List Sk):(ya kS (opE r)).length=r.length*2:=by rw [vh,zbR];rfl
theorem Rw.pop {K:Nat}{cur:Array Value}{cap n:Nat}{X Z:List Value}(h:Rw K cur cap (n+1) (X++Z))(hX:X.length=n*K):Rw K cur cap n X:=by
 have ht:=h.take;refine ⟨hX,by have:=h.le;omega,h.max,?_,h.sz⟩;have e:(cur.toList.take ((n+1)*K)).take (n*K)=X:=by rw [ht,List.take_append,hX,Nat.sub_self,List.take_zero,List.append_nil,List.take_of_length_le (by omega)]
 rw [List.take_take,Nat.min_eq_left (by rw [Nat.succ_mul];omega)] at e;exact e
theorem Rw.top {cur:Array Value}{cap:Nat}{e:Sk}{r:List Sk}(h:Rw 2 cur cap (r.length+1) (ya kS (opE (e::r)))):
 0+r.length*2+2≤cur.size∧cur.extract (0+r.length*2) (0+r.length*2+2)=#[.int .u8 ((e.g:Nat):Int),.slice e.p e.n e.c]∧cur[0+r.length*2]? =some (.int .u8 ((e.g:Nat):Int))∧cur[0+r.length*2+1]? =some (.slice e.p e.n e.c):=by
 rw [vu] at h;have hl:=zas r;rw [Nat.zero_add];have h0:cur[r.length*2]? =some (.int .u8 ((e.g:Nat):Int)):=by
  rw [h.get _ (by omega),List.getElem?_append_right (by omega),hl,Nat.sub_self];rfl
 have h1:cur[r.length*2+1]? =some (.slice e.p e.n e.c):=by
  rw [h.get _ (by omega),List.getElem?_append_right (by omega),hl,Nat.add_sub_cancel_left];rfl
 have h2:=exE (C:=cur) (o:=r.length*2) (x:=[.int .u8 ((e.g:Nat):Int),.slice e.p e.n e.c]) (K:=2) rfl (fun j hj=>by
  rcases j with _|_|j
  ·exact h0
  ·exact h1
  ·omega) (by decide)
 exact ⟨h2.1,h2.2,h0,h1⟩
def zK:Array Value:=#[.int .u8 0,.slice none 0 0]
def qU (B:Nat)(w0:World)(bd b2 bo:Nat)(dO bO:Obj)(kv:Value)(cur:Array Value)(N:Nat)(en:Nat)(row:List (Nat×Obj))(xs:List Value)(T:List (Nat×Obj)):(Nat→Bool)→(Nat→D2.Gh)→World→Prop:=fun L g w=>
 bif L 8 then (L 9=true→(g 9).b=(g 8).b)∧Rw 2 (g 8).cur (g 8).cap (en+1) (xs++zK.toList)∧St B w0 w ((bd,dO)::(b2,bO)::(bo,kR (bif L 13 then putA cur (0+N*2+1) (.slice (some ⟨(g 8).b,0,none⟩) (en+1) (g 8).cap) else cur))::((g 8).b,kR (bif L 10 then putA (g 8).cur (0+en*2) kv else (g 8).cur))::T)
 else bif L 7 then St B w0 w (((g 7).b,kR zK)::(bd,dO)::(b2,bO)::(bo,kR cur)::(row++T))
 else St B w0 w ((bd,dO)::(b2,bO)::(bo,kR cur)::(row++T))
section
variable {B:Nat}{w0:World}{bd b2 bo:Nat}{dO bO:Obj}{kv:Value}{cur:Array Value}{N en:Nat}{row:List (Nat×Obj)}{xs:List Value}{T:List (Nat×Obj)}{L:Nat→Bool}{g:Nat→D2.Gh}{w:World}
theorem qU.st (h8:L 8=false)(h:qU B w0 bd b2 bo dO bO kv cur N en row xs T L g w):∃l,St B w0 w l∧(bd,dO)∈l∧(bo,kR cur)∈l:=by
 unfold qU at h;rw [h8] at h;cases h7:L 7 with
 | true=>rw [h7] at h;exact ⟨_,h,by simp,by simp⟩
 | false=>rw [h7] at h;exact ⟨_,h,by simp,by simp⟩
end
noncomputable abbrev zj3:Code:=qD (yN (qD (qD (qD (jt (qD (zl Tryz.f28)))))))
noncomputable abbrev zeS:Code:=jt (yN (qD (qD (jt (jt zj3)))))
def zeT (B:Nat)(w0:World)(form:ByteArray)(b2 bd i:Nat)(target:List (Nat×Kf))(mz:Nat)(ρ:Env)(ww:World):Prop:=
 ∃(S:List Sk) (N g:Nat) (p:Option Addr) (n c:Nat) (k:Kf) (T:List (Nat×Obj)) (bo cap:Nat) (cur:Array Value),S.length=mz∧N=S.length∧Bot S∧N≤5∧(∀e∈S,xB T i e)∧RIn kS T p n k∧xy g k (stM S)=target∧Rw 2 cur cap N (ya kS (opE S))∧
  St B w0 ww ((bd,kdO g p n c)::(b2,kdO 0 none 0 0)::(bo,kR cur)::(yC S++T))∧
  Is [(0,.string form),(2,.pointer (some ⟨b2,0,none⟩)),(3,.bool false),(4,.slice (some ⟨bo,0,none⟩) N cap),(6,.pointer (some ⟨bd,0,none⟩)),(16,.int .i64 (form.size:Int)),(17,.int .i64 (i:Int))] ρ
def zj4 (B:Nat)(w0:World)(form:ByteArray)(b2 i:Nat)(target:List (Nat×Kf))(ρ:Env)(ww:World):Prop:=
 ∃(S:List Sk) (N:Nat) (T:List (Nat×Obj)) (bo cap:Nat) (cur:Array Value),N=S.length∧Bot S∧N≤5∧(∀e∈S,xB T i e)∧stM S=target∧Rw 2 cur cap N (ya kS (opE S))∧
  St B w0 ww ((b2,kdO 0 none 0 0)::(bo,kR cur)::(yC S++T))∧
  Is [(0,.string form),(2,.pointer (some ⟨b2,0,none⟩)),(3,.bool false),(4,.slice (some ⟨bo,0,none⟩) N cap),(16,.int .i64 (form.size:Int)),(17,.int .i64 (i:Int))] ρ
theorem zeU {Q:Exit→Env→World→Prop}{B:Nat}{w0:World}(form:ByteArray)(b2 bd i:Nat)(target:List (Nat×Kf))(hi:i≤40)(m0:Nat)(ρ0:Env)(ww0:World)(h0:zeT B w0 form b2 bd i target m0 ρ0 ww0)
 (hQ: ∀(S:List Sk) (N:Nat) (T:List (Nat×Obj)) (bo cap:Nat) (cur:Array Value) (ρ:Env) (ww:World),N=S.length→Bot S→N≤5→(∀e∈S,xB T (i+1) e)→stM S=target→Rw 2 cur cap N (ya kS (opE S))→
  St B w0 ww ((b2,kdO 0 none 0 0)::(bo,kR cur)::(yC S++T))→Is [(0,.string form),(2,.pointer (some ⟨b2,0,none⟩)),(3,.bool false),(4,.slice (some ⟨bo,0,none⟩) N cap),(16,.int .i64 (form.size:Int)),(17,.int .i64 (i:Int))] ρ→Q (.exit 1) ρ ww):
 WP Tryz.prog 101 (qD (qD (qD zeS))) Q ρ0 ww0:=by
 refine zj 3 kr<|zz kr (zeT B w0 form b2 bd i target) m0 h0 ?_;clear h0;rintro _ _ w1 ⟨S,N,g,p,n,c,k,T,bo,cap,cur,rfl,rfl,hBot,hN5,hS,hRI,hpush,hRw,H1,_,rfl⟩;rcases S with _ | ⟨e,r⟩
 ·exact hBot.elim
 have he:=hS e (List.mem_cons_self ..);refine zj 4 kr ?_;have hN5':r.length+1≤5:=hN5;refine rS [.v,.v,.E (.int .i64 (IntKind.i64.wrap (((r.length+1:Nat):Int)-1))) (.int .i64 (r.length:Int)) (ze (by rw [show (((r.length+1:Nat):Int)-1)=(r.length:Int) by omega];exact xP (by omega))),.v] H1 kr fun gs2 w2 H2=>?_;clear H1;refine zc kr ?_;have H3:St B w0 w2 ((bd,kdO g p n c)::(b2,kdO 0 none 0 0)::(bo,kR cur)::(e.row++(yC r++T))):=by
  rw [←List.append_assoc];exact H2
 have htop:=hRw.top;refine D2.g_draw0 [0,1,2,3,4,5,6,7,8,9,10,11,12,13] [(some 69,fun _=>.slice (some ⟨bo,0,none⟩) (r.length+1) cap),(some 70,fun _=>.int .i64 (r.length:Int)),(some 71,fun _=>.pointer (some ⟨bo,0+r.length*2,none⟩)),(some 72,fun _=>.pointer (some ⟨bo,0+r.length*2+1,none⟩)),(some 73,fun _=>.slice e.p e.n e.c),(some 74,fun _=>knd g p n c),(some 75,fun _=>.int .i64 ((e.n:Nat):Int)),(some 76,fun y=>.slice (some ⟨y.b,0,none⟩) 1 1),(some 77,fun y=>.slice (some ⟨y.b,0,none⟩) (e.n+1) y.cap),(some 78,fun y=>.pointer (some ⟨y.b,0+e.n*2,none⟩)),(none,fun _=>undef),(some 79,fun _=>.pointer (some ⟨bo,0+r.length*2,none⟩)),(some 80,fun _=>.pointer (some ⟨bo,0+r.length*2+1,none⟩)),(none,fun _=>undef)]
  (qU B w0 bd b2 bo (kdO g p n c) (kdO 0 none 0 0) (knd g p n c) cur r.length e.n e.row (ya kS e.M) (yC r++T)) kr kr kr H3.drew ⟨?_,?_,?_,?_,?_,?_,?_,?_,?_,?_,?_,?_,?_,?_,trivial⟩ ?_
 ·exact D2.gv_val (fun _ _ _ h=>h) (fun g w=>by kernel_rfl)
 ·exact D2.gv_val (fun _ _ _ h=>h) (fun g w=>by kernel_rfl)
 ·exact D2.gv_op (fun _ _ _ h=>h) _ (fun g=>by kernel_rfl) (fun g o w ho=>yP (kd:=.i64) (t:=54) (e:=56) (K:=2) (bytes:=32) kr (x:=(.tmp 69)) (y:=(.tmp 70)) bo 0 (r.length+1) cap r.length rfl ho kr kr (by omega) w)
 ·exact D2.gv_val (fun _ _ _ h=>h) (fun g w=>by kernel_rfl)
 ·refine D2.gv_opW (fun _ _ _ h=>h) (.load 54 (.tmp 72)) (fun g=>by kernel_rfl) (fun L g o w hN hp ho=>?_);obtain ⟨l,h,_,hm⟩:=hp.st (hN.post 8 kr);exact ua (h.own _ hm).2 kr kr htop.2.2.2 o ho
 ·refine D2.gv_ld (fun _ _ _ h=>h) 56 (.tmp 6) (fun _=>bd) 0 #[.int .u8 ((g:Nat):Int),.slice p n c] 56 (0,0) (fun g=>by kernel_rfl) (fun g=>by kernel_rfl) (fun L g w hN hp=>?_) kr kr;obtain ⟨l,h,hm,_⟩:=hp.st (hN.post 8 kr);exact (h.own _ hm).2
 ·exact D2.gv_val (fun _ _ _ h=>h) (fun g w=>by kernel_rfl)
 ·refine D2.gives_of fun L1 gg ww hp hN=>?_;have h8:=hN.post 8 kr;unfold qU at hp;rw [h8,hN.1] at hp;obtain ⟨o,ho,hd,hw,hrun⟩:=yg (show opv _ _ 7 _ ww=some (some 76,true,.ok (.value (.slice (some ⟨ww.heap.size,0,none⟩) 1 1)) (ww.alloc (.cells zK 56))) by kernel_rfl);refine ⟨o,ho,hd,.inr ⟨hw,?_⟩⟩;refine (congrArg (D2.Runs _ _) hrun).mpr ?_;refine ⟨{ b:=ww.heap.size },rfl,?_⟩;unfold qU;rw [show D2.put1 L1 7 8=false from h8,show D2.put1 L1 7 7=true from rfl];exact St.alloc hp _
 ·refine D2.gives_of fun L1 gg ww hp hN=>?_;have h7:=hN.bef 7 kr;have h9:=hN.post 9 kr;have h10:=hN.post 10 kr;have h13:=hN.post 13 kr;unfold qU at hp;rw [hN.1,h7] at hp;obtain ⟨o,ho,hd,hw,hop⟩:=zI (show opk _ 8 _=some (some 77,true,yn 54 (.tmp 73) (.tmp 76)) by kernel_rfl);refine ⟨o,ho,hd,.inr ⟨hw,?_⟩⟩;have hen:=he.le;obtain ⟨eg,ep,en,ec,erow,eM⟩:=e;rcases he.row with ⟨rfl,rfl,rfl,rfl,rfl⟩ | ⟨br,curr,rfl,rfl,hrw⟩
  ·obtain ⟨b',cap',cur',w',hrun,HS',hr'⟩:=vj (K:=2) hp (t:=54) (e:=56) (bytes:=32) (k:=0) (bx:=(gg 7).b) (c:=1) (Y:=zK) kr hop kr kr rfl rfl (kA rfl) (by omega);rw [hrun];refine ⟨{ b:=b',cap:=cap',cur:=cur' },rfl,?_⟩;unfold qU;rw [show D2.put1 L1 8 8=true from rfl,show D2.put1 L1 8 10=false from h10,show D2.put1 L1 8 13=false from h13];refine ⟨fun hh=>absurd (h9.symm.trans hh) (by decide),hr',?_⟩;exact (HS'.sub (List.Sublist.cons_cons _ (List.sublist_cons_self ..))).perm (List.perm_middle (l₁:=[(bd,kdO g p n c),(b2,kdO 0 none 0 0),(bo,kR cur)]))
  ·obtain ⟨b',cap',cur',w',hrun,HS',hr'⟩:=vi (K:=2) hp (t:=54) (e:=56) (bytes:=32) (j:=4) (k:=0) (bx:=(gg 7).b) (c:=1) (Y:=zK) kr hop kr rfl hrw kr rfl rfl (kA rfl) (by omega) (by unfold maxLen;omega);rw [hrun];refine ⟨{ b:=b',cap:=cap',cur:=cur' },rfl,?_⟩;unfold qU;rw [show D2.put1 L1 8 8=true from rfl,show D2.put1 L1 8 10=false from h10,show D2.put1 L1 8 13=false from h13];exact ⟨fun hh=>absurd (h9.symm.trans hh) (by decide),hr',HS'.sub (List.sublist_cons_self ..)⟩
 ·refine D2.gives_of fun L1 gg ww hp hN=>?_;have h8:=hN.bef 8 kr;obtain ⟨o,ho,hd,hw,hop⟩:=zI (show opk _ 9 _=some (some 78,true,.indexAddr 54 (.tmp 77) (.tmp 75)) by kernel_rfl);refine ⟨o,ho,hd,.inr ⟨hw,?_⟩⟩;rw [yP (kd:=.i64) (t:=54) (e:=56) (K:=2) (bytes:=32) kr (x:=(.tmp 77)) (y:=(.tmp 75)) (gg 8).b 0 (e.n+1) (gg 8).cap e.n rfl hop kr kr (by omega) ww];refine ⟨{ b:=(gg 8).b },rfl,?_⟩;unfold qU at hp ⊢;rw [h8] at hp;rw [show D2.put1 L1 9 8=true from h8];exact ⟨fun _=>rfl,hp.2.1,hp.2.2⟩
 ·refine D2.gives_of fun L1 gg ww hp hN=>?_;have h8:=hN.bef 8 kr;have h9:=hN.bef 9 kr;unfold qU at hp;rw [h8,hN.1] at hp;obtain ⟨hg9,hr',HS⟩:=hp;have hg:=hg9 h9;have hle:=hr'.putA (0+e.n*2) (knd g p n c) (by show 0+e.n*2+2≤(e.n+1)*2;omega);obtain ⟨o,ho,hd,hw,hop⟩:=zI (show opk _ 10 _=some (none,true,.store 56 (.tmp 78) (.tmp 74)) by kernel_rfl);refine ⟨o,ho,hd,.inr ⟨hw,?_⟩⟩;rw [ub (t:=56) (off:=0+e.n*2) (b:=(gg 8).b) (C:=(gg 8).cur) (T:=56) (v:=knd g p n c) (C':=putA (gg 8).cur (0+e.n*2) (knd g p n c)) (HS.get 3 kr) kr kr hle.1 rfl (by rw [←hg];kernel_rfl) kr o hop];refine ⟨default,rfl,?_⟩;unfold qU;rw [show D2.put1 L1 10 8=true from h8,show D2.put1 L1 10 10=true from rfl];exact ⟨fun h=>hg9 h,hr',HS.store 3 (C:=(gg 8).cur) kr⟩
 ·exact D2.gv_op (fun _ _ _ h=>h) _ (fun g=>by kernel_rfl) (fun g o w ho=>yP (kd:=.i64) (t:=54) (e:=56) (K:=2) (bytes:=32) kr (x:=(.tmp 69)) (y:=(.tmp 70)) bo 0 (r.length+1) cap r.length rfl ho kr kr (by omega) w)
 ·exact D2.gv_val (fun _ _ _ h=>h) (fun g w=>by kernel_rfl)
 ·refine D2.gives_of fun L1 gg ww hp hN=>?_;have h8:=hN.bef 8 kr;unfold qU at hp;rw [h8,hN.1] at hp;obtain ⟨hg9,hr',HS⟩:=hp;have hle:=hRw.putA (0+r.length*2+1) (.slice (some ⟨(gg 8).b,0,none⟩) (e.n+1) (gg 8).cap) (by show 0+r.length*2+1+1≤(r.length+1)*2;omega);obtain ⟨o,ho,hd,hw,hop⟩:=zI (show opk _ 13 _=some (none,true,.store 54 (.tmp 80) (.tmp 77)) by kernel_rfl);refine ⟨o,ho,hd,.inr ⟨hw,?_⟩⟩;rw [ub (t:=54) (off:=0+r.length*2+1) (b:=bo) (C:=cur) (T:=56) (v:=.slice (some ⟨(gg 8).b,0,none⟩) (e.n+1) (gg 8).cap) (C':=putA cur (0+r.length*2+1) (.slice (some ⟨(gg 8).b,0,none⟩) (e.n+1) (gg 8).cap)) (HS.get 2 kr) kr kr hle.1 rfl kr kr o hop];refine ⟨default,rfl,?_⟩;unfold qU;rw [show D2.put1 L1 13 8=true from h8,show D2.put1 L1 13 13=true from rfl];exact ⟨fun h=>hg9 h,hr',HS.store 2 (C:=cur) kr⟩
 ·intro L1 gg w14 hall hp;unfold qU at hp;rw [hall 8 (Nat.le_of_ble_eq_true kr),hall 10 (Nat.le_of_ble_eq_true kr),hall 13 (Nat.le_of_ble_eq_true kr)] at hp;obtain ⟨_,hr',H4⟩:=hp;generalize hb':(gg 8).b=b';generalize hcap':(gg 8).cap=cap';generalize hcur':(gg 8).cur=cur';rw [hb',hcur',hcap'] at H4;rw [hcur',hcap'] at hr';have hn:=he.row.len (by decide);have hMl:(ya kS e.M).length=0+e.n*2:=by rw [vh,hn,Nat.zero_add];rfl
  have hnew:Rw 2 (putA cur' (0+e.n*2) (knd g p n c)) cap' (e.n+1) (ya kS (e.M++ [⟨g,p,n,c,k⟩])):=by
   have h1:=(hr'.putA (0+e.n*2) (knd g p n c) (by show 0+e.n*2+2≤(e.n+1)*2;omega)).2;have h2:=zbv (X:=ya kS e.M) (Z:=zK.toList) (V:=(knd g p n c).cells.toList) hMl rfl;rw [vZ];exact h2▸h1
  obtain ⟨eg,ep,en,ec,erow,eM⟩:=e;have hop:Rw 2 (putA cur (0+r.length*2+1) (.slice (some ⟨b',0,none⟩) (en+1) cap')) cap (r.length+1) (ya kS (opE (⟨eg,some ⟨b',0,none⟩,en+1,cap',[(b',kR (putA cur' (0+en*2) (knd g p n c)))],eM++ [⟨g,p,n,c,k⟩]⟩::r))):=by
   have h1:=(hRw.putA (0+r.length*2+1) (.slice (some ⟨b',0,none⟩) (en+1) cap') (by show 0+r.length*2+1+1≤(r.length+1)*2;omega)).2;have hl:=zas r;have h2:=zbv (X:=ya kS (opE r)++ [.int .u8 (eg:Int)]) (Z:=[.slice ep en ec]) (V:=(Value.slice (some ⟨b',0,none⟩) (en+1) cap').cells.toList) (off:=0+r.length*2+1) (by rw [List.length_append,hl];simp) rfl;rw [vu];rw [vu,show ya kS (opE r)++ [.int .u8 (eg:Int),.slice ep en ec]=(ya kS (opE r)++ [.int .u8 (eg:Int)])++ [.slice ep en ec] by simp] at h1;have h3:(ya kS (opE r)++ [.int .u8 (eg:Int)])++(Value.slice (some ⟨b',0,none⟩) (en+1) cap').cells.toList=ya kS (opE r)++ [.int .u8 (eg:Int),.slice (some ⟨b',0,none⟩) (en+1) cap']:=by
    rw [List.append_assoc];rfl
   exact h3▸(h2▸h1)
  have hok:xB T (i+1) ⟨eg,some ⟨b',0,none⟩,en+1,cap',[(b',kR (putA cur' (0+en*2) (knd g p n c)))],eM++ [⟨g,p,n,c,k⟩]⟩:=
   ⟨.inr ⟨_,_,rfl,rfl,hnew⟩,he.all.snoc hRI trivial,Nat.succ_le_succ he.le⟩
  have htop':=hop.top;have hpush':xy g k ((eg,qE eM)::stM r)=target:=hpush;unfold xy at hpush';rw [←zeC ⟨g,p,n,c,k⟩] at hpush';have hrc:=hop.le;have hBr:eg=42→Bot r:=fun h42=>by
   rcases hBot with ⟨_,h⟩|h
   ·exact absurd (h.symm.trans h42) (by decide)
   ·exact h
  have hin: ∀x∈T,x∈(b',kR (putA cur' (0+en*2) (knd g p n c)))::T:=fun x hx=>List.mem_cons_of_mem _ hx;refine wW<|zc kr ?_;by_cases h42:eg=42
  ·rw [if_pos h42] at hpush';refine rS [.v,.v,.o (ins:=[((.tmp 81),.slice (some ⟨bo,0,none⟩) (r.length+1) cap),((.tmp 82),.int .i64 (r.length:Int))]) (v:=.pointer (some ⟨bo,0+r.length*2,none⟩)) (fun ρ o w ho hi2=>yP (kd:=.i64) (t:=54) (e:=56) (K:=2) (bytes:=32) kr (x:=(.tmp 81)) (y:=(.tmp 82)) bo 0 (r.length+1) cap r.length rfl ho hi2.1 hi2.2.1 (by omega) w),.v,.ls 2 (C:=putA cur (0+r.length*2+1) (.slice (some ⟨b',0,none⟩) (en+1) cap')) (off:=0+r.length*2) (v:=.int .u8 (eg:Int)) htop'.2.2.1,.E (.bool (!((eg:Int)==42))) (.bool false) (za (by rw [h42];rfl))] H4 kr fun gs5 w15 H5=>zf kr kr<|zh kr<|wW<|dL [.v,.v,.o (ins:=[((.tmp 87),.slice (some ⟨bo,0,none⟩) (r.length+1) cap),((.tmp 88),.int .i64 (r.length:Int))]) (v:=.pointer (some ⟨bo,0+r.length*2,none⟩)) (fun ρ o w ho hi2=>yP (kd:=.i64) (t:=54) (e:=56) (K:=2) (bytes:=32) kr (x:=(.tmp 87)) (y:=(.tmp 88)) bo 0 (r.length+1) cap r.length rfl ho hi2.1 hi2.2.1 (by omega) w),.lp 2 (C:=putA cur (0+r.length*2+1) (.slice (some ⟨b',0,none⟩) (en+1) cap')) (off:=0+r.length*2) (n:=2) (W:=#[.int .u8 (eg:Int),.slice (some ⟨b',0,none⟩) (en+1) cap']) htop'.1 htop'.2.1,.v,.v,.o (ins:=[((.tmp 91),.slice (some ⟨bo,0,none⟩) (r.length+1) cap),((.tmp 92),.int .i64 (r.length:Int))]) (v:=.slice (some ⟨bo,0,none⟩) r.length cap) (fun ρ o w ho hi2=>zab (kd:=.i64) (t:=54) (e:=56) (size:=2) (bytes:=32) kr (x:=(.tmp 91)) (y:=(.tmp 92)) bo (r.length+1) cap r.length ho hi2.1 hi2.2.1 (by omega) w),.s 0,.v] H5 kr fun w16 H6=>?_;have H7:St B w0 w16 ((bd,kdO eg (some ⟨b',0,none⟩) (en+1) cap')::(b2,kdO 0 none 0 0)::(bo,kR (putA cur (0+r.length*2+1) (.slice (some ⟨b',0,none⟩) (en+1) cap')))::([(b',kR (putA cur' (0+en*2) (knd g p n c)))]++(yC r++T))):=H6.as kr;show ∃m,_∧_;refine ⟨r.length,Nat.lt_succ_self _,r,r.length,eg,_,_,_,qE (eM++ [⟨g,p,n,c,k⟩]),(b',kR (putA cur' (0+en*2) (knd g p n c)))::T,bo,cap,_,rfl,rfl,hBr h42,by omega,fun x hx=>(hS x (List.mem_cons_of_mem _ hx)).mono hin (Nat.le_refl _),?_,hpush',Rw.pop (vu _ _▸hop) (zas r),H7.perm (List.Perm.cons _ (List.Perm.cons _ (List.Perm.cons _ (List.perm_append_comm_assoc (yC r) [(b',kR (putA cur' (0+en*2) (knd g p n c)))] T)))),(Is.of ⟨kr,kr,kr,kr,kr,kr,kr,trivial⟩)⟩;have:=hok.row.rIn (T:=T) (by decide) hok.all (by have:=hok.le;show en+1≤1000;simp only at this;omega);exact this
  ·rw [if_neg h42] at hpush';refine rS [.v,.v,.o (ins:=[((.tmp 81),.slice (some ⟨bo,0,none⟩) (r.length+1) cap),((.tmp 82),.int .i64 (r.length:Int))]) (v:=.pointer (some ⟨bo,0+r.length*2,none⟩)) (fun ρ o w ho hi2=>yP (kd:=.i64) (t:=54) (e:=56) (K:=2) (bytes:=32) kr (x:=(.tmp 81)) (y:=(.tmp 82)) bo 0 (r.length+1) cap r.length rfl ho hi2.1 hi2.2.1 (by omega) w),.v,.ls 2 (C:=putA cur (0+r.length*2+1) (.slice (some ⟨b',0,none⟩) (en+1) cap')) (off:=0+r.length*2) (v:=.int .u8 (eg:Int)) htop'.2.2.1,.E (.bool (!((eg:Int)==42))) (.bool true) (za (by rw [beq_eq_false_iff_ne.2 (by omega)];rfl))] H4 kr fun gs5 w15 H5=>zg kr kr<|zw 1 kr ?_;show Q (.exit 1) _ _;refine hQ (⟨eg,some ⟨b',0,none⟩,en+1,cap',[(b',kR (putA cur' (0+en*2) (knd g p n c)))],eM++ [(⟨g,p,n,c,k⟩:El Nat)]⟩::r) (r.length+1) T bo cap _ _ _ rfl ?_ hN5' ?_ hpush' hop ?_ (Is.of ⟨kr,kr,kr,kr,kr,kr,trivial⟩)
   ·rcases hBot with ⟨h1,h2⟩|h
    ·exact .inl ⟨h1,h2⟩
    ·exact .inr h
   ·intro x hx;rcases List.mem_cons.1 hx with rfl | hx
    ·exact hok
    ·exact (hS x (List.mem_cons_of_mem _ hx)).mono (fun _ h=>h) (Nat.le_succ _)
   ·have H7:St B w0 w15 ((bd,kdO g p n c)::(b2,kdO 0 none 0 0)::(bo,kR (putA cur (0+r.length*2+1) (.slice (some ⟨b',0,none⟩) (en+1) cap')))::([(b',kR (putA cur' (0+en*2) (knd g p n c)))]++(yC r++T))):=H5.as kr;exact H7.sub (List.sublist_cons_self ..)
abbrev zeV (form:ByteArray)(i:Nat)(b2 bo N cap:Nat):List (Nat×Value):=[(0,.string form),(2,.pointer (some ⟨b2,0,none⟩)),(3,.bool false),(4,.slice (some ⟨bo,0,none⟩) N cap),(16,.int .i64 (form.size:Int)),(17,.int .i64 (i:Int))]
theorem zj5 {Q:Exit→Env→World→Prop}{B:Nat}{w0:World}(form:ByteArray)(b2 i:Nat)(hi40:i≤40)(hi:i<form.size)(hz:form.size≤40)(S:List Sk)(N:Nat)(T:List (Nat×Obj))(bo cap:Nat)(cur:Array Value)(hN:N=S.length)(hBot:Bot S)(hN5:N≤5)(hS: ∀e∈S,xB T i e)(hRw:Rw 2 cur cap N (ya kS (opE S)))
 (ρ0:Env) (ww0:World) (H0:St B w0 ww0 ((b2,kdO 0 none 0 0)::(bo,kR cur)::(yC S++T))) (hIs:Is (zeV form i b2 bo N cap) ρ0)
 (hbad:jk (by_ form i) (stM S)=none→ ∀(ρ:Env) (ww:World) (bd:Nat) (o:Obj) (l:List (Nat×Obj)),St B w0 ww ((bd,o)::(b2,kdO 0 none 0 0)::l)→ρ 3=.bool false→ρ 2=.pointer (some ⟨b2,0,none⟩)→Q .ret ρ ww)
 (hQ: ∀(S':List Sk) (N:Nat) (T:List (Nat×Obj)) (bo cap:Nat) (cur:Array Value) (ρ:Env) (ww:World),N=S'.length→Bot S'→N≤5→(∀e∈S',xB T (i+1) e)→jk (by_ form i) (stM S)=some (stM S')→Rw 2 cur cap N (ya kS (opE S'))→
  St B w0 ww ((b2,kdO 0 none 0 0)::(bo,kR cur)::(yC S'++T))→Is (zeV form i b2 bo N cap) ρ→Q (.exit 1) ρ ww):
 WP Tryz.prog 101 zeS Q ρ0 ww0:=by
 obtain ⟨_,rfl⟩:=hIs;rcases S with _|⟨e,r⟩
 ·exact hBot.elim
 obtain rfl:N=r.length+1:=hN;have he:=hS e (List.mem_cons_self ..);have htop:=hRw.top;obtain ⟨c,hc⟩:∃c,by_ form i=c:=⟨_,rfl⟩
 have hrc:=hRw.le;refine rS [.v,.v] H0 kr fun gs1 w1 H1=>zi [0,1,2,3,4,5] kr kr<|rp [.v,.v,.oe (ins:=[((.tmp 20),.string form),((.tmp 21),.int .i64 (i:Int))]) (v:=.int .u8 ((by_ form i:Nat):Int)) (v':=.int .u8 (c:Int)) (fun ρ o w ho hi2=>zQ (t:=9) (kd:=.i64) kr (x:=(.tmp 20)) (y:=(.tmp 21)) form i ho hi2.1 hi2.2.1 hi w) (by rw [hc]),.v] H1 kr fun gs2 w2 H2=>wX [4,5] ?_;have H3:St B w0 w2 ((b2,kdO 0 none 0 0)::(bo,kR cur)::(yC (e::r)++T)):=H2.as kr;refine qA H3 (some 6) 56 (.agg #[.int .u8 0,.slice none 0 0]) kr kr kr ?_;intro bd w3 H4;refine rp [.s 0] H4 kr fun gs3 w4 H5=>wX []<|zd<|zc kr<|rS [.v,.v,.E (.int .i64 (IntKind.i64.wrap (((r.length+1:Nat):Int)-1))) (.int .i64 (r.length:Int)) (ze (by rw [show (((r.length+1:Nat):Int)-1)=(r.length:Int) by omega];exact xP (by omega))),.v] H5 kr fun gs4 w5 H6=>rS [.v,.l 0] H6 kr fun gs5 w6 H7=>zj 2 kr ?_;have H8:St B w0 w6 ((bd,kdO c none 0 0)::(b2,kdO 0 none 0 0)::(bo,kR cur)::(yC (e::r)++T)):=H7.as kr;clear H0 H1 H2 H3 H4 H5 H6 H7;refine zJ [0,2,3,4,5,6,7,16,17,28] fun ρ1=>zc kr ?_;obtain ⟨lb,hlb⟩:∃lb,decide (c=110∨c=104∨c=97∨c=115∨c=98)=lb:=⟨_,rfl⟩
 refine jc (Q:=fun ex ρ ww=>ex=.normal∧St B w0 ww ((bd,kdO c none 0 0)::(b2,kdO 0 none 0 0)::(bo,kR cur)::(yC (e::r)++T))∧Is [(0,.string form),(2,.pointer (some ⟨b2,0,none⟩)),(3,.bool false),(4,.slice (some ⟨bo,0,none⟩) (r.length+1) cap),(6,.pointer (some ⟨bd,0,none⟩)),(7,.int .i64 (r.length:Int)),(16,.int .i64 (form.size:Int)),(17,.int .i64 (i:Int)),(28,.int .u8 (c:Int)),(30,.bool lb)] ρ) ?_ ?_
 ·by_cases h110:c=110
  ·refine rS [.E (.bool ((c:Int)==110)) (.bool true) (za (beq_iff_eq.2 (by omega))),.v] H8 kr fun gsa110 wa110 Ha110=>zg kr kr<|zh kr ?_;obtain rfl:lb=true:=by rw [←hlb];exact decide_eq_true (by omega)
   exact ⟨rfl,Ha110.as kr,(Is.of ⟨kr,kr,kr,kr,kr,kr,kr,kr,kr,kr,trivial⟩)⟩
  ·refine rS [.E (.bool ((c:Int)==110)) (.bool false) (za (beq_eq_false_iff_ne.2 (by omega))),.v] H8 kr fun gsb110 wb110 Hb110=>zf kr kr ?_;by_cases h104:c=104
   ·refine rS [.E (.bool ((c:Int)==104)) (.bool true) (za (beq_iff_eq.2 (by omega))),.v] Hb110 kr fun gsa104 wa104 Ha104=>zg kr kr<|zh kr ?_;obtain rfl:lb=true:=by rw [←hlb];exact decide_eq_true (by omega)
    exact ⟨rfl,Ha104.as kr,(Is.of ⟨kr,kr,kr,kr,kr,kr,kr,kr,kr,kr,trivial⟩)⟩
   ·refine rS [.E (.bool ((c:Int)==104)) (.bool false) (za (beq_eq_false_iff_ne.2 (by omega))),.v] Hb110 kr fun gsb104 wb104 Hb104=>zf kr kr ?_;by_cases h97:c=97
    ·refine rS [.E (.bool ((c:Int)==97)) (.bool true) (za (beq_iff_eq.2 (by omega))),.v] Hb104 kr fun gsa97 wa97 Ha97=>zg kr kr<|zh kr ?_;obtain rfl:lb=true:=by rw [←hlb];exact decide_eq_true (by omega)
     exact ⟨rfl,Ha97.as kr,(Is.of ⟨kr,kr,kr,kr,kr,kr,kr,kr,kr,kr,trivial⟩)⟩
    ·refine rS [.E (.bool ((c:Int)==97)) (.bool false) (za (beq_eq_false_iff_ne.2 (by omega))),.v] Hb104 kr fun gsb97 wb97 Hb97=>zf kr kr ?_;by_cases h115:c=115
     ·refine rS [.E (.bool ((c:Int)==115)) (.bool true) (za (beq_iff_eq.2 (by omega))),.v] Hb97 kr fun gsa115 wa115 Ha115=>zg kr kr<|zh kr ?_;obtain rfl:lb=true:=by rw [←hlb];exact decide_eq_true (by omega)
      exact ⟨rfl,Ha115.as kr,(Is.of ⟨kr,kr,kr,kr,kr,kr,kr,kr,kr,kr,trivial⟩)⟩
     ·refine rS [.E (.bool ((c:Int)==115)) (.bool false) (za (beq_eq_false_iff_ne.2 (by omega))),.v] Hb97 kr fun gsb115 wb115 Hb115=>zf kr kr ?_;by_cases h98:c=98
      ·refine rL [.E (.bool ((c:Int)==98)) (.bool true) (za (beq_iff_eq.2 (by omega))),.v] Hb115 kr fun gsa98 wa98 Ha98=>?_;obtain rfl:lb=true:=by rw [←hlb];exact decide_eq_true (by omega)
       exact ⟨rfl,Ha98.as kr,(Is.of ⟨kr,kr,kr,kr,kr,kr,kr,kr,kr,kr,trivial⟩)⟩
      ·refine rL [.E (.bool ((c:Int)==98)) (.bool false) (za (beq_eq_false_iff_ne.2 (by omega))),.v] Hb115 kr fun gsb98 wb98 Hb98=>?_;obtain rfl:lb=false:=by rw [←hlb];exact decide_eq_false (by omega)
       exact ⟨rfl,Hb98.as kr,(Is.of ⟨kr,kr,kr,kr,kr,kr,kr,kr,kr,kr,trivial⟩)⟩
 rintro _ _ w7 ⟨rfl,H9,_,rfl⟩;refine wW ?_;cases lb with
 | true=>
  have hst:jk (by_ form i) (stM (e::r))=some (xy c .nil (stM (e::r))):=by
   rw [hc];unfold jk;rw [if_pos (of_decide_eq_true hlb)]
  refine zg kr kr<|zh kr<|wW<|zeU form b2 bd i _ hi40 (r.length+1) _ _ ⟨e::r,r.length+1,c,none,0,0,.nil,T,bo,cap,cur,rfl,rfl,hBot,hN5,hS,RIn.none _ _,rfl,hRw,H9,(Is.of ⟨kr,kr,kr,kr,kr,kr,kr,trivial⟩)⟩ ?_;intro S' N' T' bo' cap' cur' ρ' ww' h1 h2 h3 h4 h5 h6 h7 h8;exact hQ S' N' T' bo' cap' cur' ρ' ww' h1 h2 h3 h4 (by rw [hst,h5]) h6 h7 h8
 | false=>
  have hnl:=of_decide_eq_false hlb;refine zf kr kr<|zc kr ?_;obtain ⟨gb,hgb⟩:∃gb,decide (c=40∨c=42)=gb:=⟨_,rfl⟩
  refine jc (Q:=fun ex ρ ww=>ex=.normal∧St B w0 ww ((bd,kdO c none 0 0)::(b2,kdO 0 none 0 0)::(bo,kR cur)::(yC (e::r)++T))∧Is [(0,.string form),(2,.pointer (some ⟨b2,0,none⟩)),(3,.bool false),(4,.slice (some ⟨bo,0,none⟩) (r.length+1) cap),(6,.pointer (some ⟨bd,0,none⟩)),(7,.int .i64 (r.length:Int)),(16,.int .i64 (form.size:Int)),(17,.int .i64 (i:Int)),(28,.int .u8 (c:Int)),(36,.bool gb)] ρ) ?_ ?_
  ·by_cases h40:c=40
   ·refine rS [.E (.bool ((c:Int)==40)) (.bool true) (za (beq_iff_eq.2 (by omega))),.v] H9 kr fun gsa40 wa40 Ha40=>zg kr kr<|zh kr ?_;obtain rfl:gb=true:=by rw [←hgb];exact decide_eq_true (by omega)
    exact ⟨rfl,Ha40.as kr,(Is.of ⟨kr,kr,kr,kr,kr,kr,kr,kr,kr,kr,trivial⟩)⟩
   ·refine rS [.E (.bool ((c:Int)==40)) (.bool false) (za (beq_eq_false_iff_ne.2 (by omega))),.v] H9 kr fun gsb40 wb40 Hb40=>zf kr kr ?_;by_cases h42:c=42
    ·refine rL [.E (.bool ((c:Int)==42)) (.bool true) (za (beq_iff_eq.2 (by omega))),.v] Hb40 kr fun gsa42 wa42 Ha42=>?_;obtain rfl:gb=true:=by rw [←hgb];exact decide_eq_true (by omega)
     exact ⟨rfl,Ha42.as kr,(Is.of ⟨kr,kr,kr,kr,kr,kr,kr,kr,kr,kr,trivial⟩)⟩
    ·refine rL [.E (.bool ((c:Int)==42)) (.bool false) (za (beq_eq_false_iff_ne.2 (by omega))),.v] Hb40 kr fun gsb42 wb42 Hb42=>?_;obtain rfl:gb=false:=by rw [←hgb];exact decide_eq_false (by omega)
     exact ⟨rfl,Hb42.as kr,(Is.of ⟨kr,kr,kr,kr,kr,kr,kr,kr,kr,kr,trivial⟩)⟩
  rintro _ _ w8 ⟨rfl,H10,_,rfl⟩;refine wW ?_;cases gb with
  | true=>
   have hyes:=of_decide_eq_true hgb;refine zg kr kr<|zc kr ?_;by_cases h4:r.length=4
   ·refine zc kr<|rL [.v,.E (.bool ((r.length:Int)==4)) (.bool true) (za (beq_iff_eq.2 (by omega)))] H10 kr fun gs6 w9 H11=>wW<|zg kr kr<|rS [.v,.s 1,.v] H11 kr fun gs7 w10 H12=>zn kr ?_;have H13:St B w0 w10 ((bd,kdO c none 0 0)::(b2,kdO 0 none 0 0)::(bo,kR cur)::(yC (e::r)++T)):=H12.as kr;refine hbad ?_ _ w10 bd _ _ H13 kr kr;rw [hc];unfold jk;rw [if_neg hnl,if_pos hyes,if_pos];show ((e::r).map _).length=5;rw [List.length_map,List.length_cons,h4]
   ·refine zc kr<|rL [.v,.E (.bool ((r.length:Int)==4)) (.bool false) (za (beq_eq_false_iff_ne.2 (by omega)))] H10 kr fun gs6 w9 H11=>wW<|zf kr kr<|zh kr<|wW<|zi [0,1,2,3,4] kr kr<|rp [.v,.l 0] H11 kr fun gs7 w10 H12=>wX [2,3,4] ?_;have H13:St B w0 w10 ((bd,kdO c none 0 0)::(b2,kdO 0 none 0 0)::(bo,kR cur)::(yC (e::r)++T)):=H12.as kr;refine za8 H13 (some 44) (fun b=>.slice (some ⟨b,0,none⟩) 1 1) #[.int .u8 (c:Int),.slice none 0 0] 56 (fun w=>by kernel_rfl) kr ?_;intro bn w11 H14;refine xv (K':=2) H14 (some 45) 54 56 32 (.tmp 42) (.tmp 44) 3 0 bo bn (r.length+1) cap 1 cur #[.int .u8 (c:Int),.slice none 0 0] (ya kS (opE (e::r))) kr kr kr kr kr hRw kr kr rfl (kA rfl) (by omega) (by unfold maxLen;omega) ?_;intro b' cap' cur' w12 H15 hr';have H16:St B w0 w12 ((bn,kR #[.int .u8 (c:Int),.slice none 0 0])::(bd,kdO c none 0 0)::(b2,kdO 0 none 0 0)::(b',kR cur')::(yC (e::r)++T)):=H15;refine rp [.v] H16 kr fun gs8 w13 H17=>wX []<|zd<|zw 1 kr ?_;show Q (.exit 1) _ _;have H18:St B w0 w13 ((bn,kR #[.int .u8 (c:Int),.slice none 0 0])::(bd,kdO c none 0 0)::(b2,kdO 0 none 0 0)::(b',kR cur')::(yC (e::r)++T)):=H17.as kr;refine hQ (⟨c,none,0,0,[],[]⟩::e::r) (r.length+2) T b' cap' cur' _ _ rfl (.inr hBot) (by omega) ?_ ?_ ?_ (H18.sub (List.Sublist.cons _ (List.sublist_cons_self ..))) (Is.of ⟨kr,kr,kr,kr,kr,kr,trivial⟩)
    ·intro x hx;rcases List.mem_cons.1 hx with rfl | hx
     ·exact ⟨.inl ⟨rfl,rfl,rfl,rfl,rfl⟩,(fun _ h=>nomatch h),Nat.zero_le _⟩
     ·exact (hS x hx).mono (fun _ h=>h) (Nat.le_succ _)
    ·rw [hc];unfold jk;rw [if_neg hnl,if_pos hyes,if_neg]
     ·rfl
     ·show ¬((e::r).map _).length=5;rw [List.length_map,List.length_cons];omega
    ·rw [vu];exact hr'
  | false=>
   have hno:=of_decide_eq_false hgb;refine zf kr kr ?_;by_cases h41:c=41
   ·refine rS [.E (.bool ((c:Int)==41)) (.bool true) (za (beq_iff_eq.2 (by omega))),.v] H10 kr fun gs6 w9 H11=>zg kr kr<|zc kr<|zc kr ?_;by_cases hr0:r.length=0
    ·refine rL [.v,.E (.bool ((r.length:Int)==0)) (.bool true) (za (beq_iff_eq.2 (by omega))),.v,.n,.n,.n,.n,.n,.n,.v] H11 kr fun gs7 w10 H12=>wW<|zg kr kr<|rS [.v,.s 1,.v] H12 kr fun gs8 w11 H13=>zn kr ?_;have H14:St B w0 w11 ((bd,kdO c none 0 0)::(b2,kdO 0 none 0 0)::(bo,kR cur)::(yC (e::r)++T)):=H13.as kr;refine hbad ?_ _ w11 bd _ _ H14 kr kr;rw [hc];unfold jk;rw [if_neg hnl,if_neg hno,if_pos h41];show (if (r.map _).length=0∨e.g≠40 then none else some _)=none;rw [if_pos (.inl (by rw [List.length_map];exact hr0))]
    ·by_cases h40:e.g=40
     ·refine rL [.v,.E (.bool ((r.length:Int)==0)) (.bool false) (za (beq_eq_false_iff_ne.2 (by omega))),.v,.v,.v,.o (ins:=[((.tmp 51),.slice (some ⟨bo,0,none⟩) (r.length+1) cap),((.tmp 52),.int .i64 (r.length:Int))]) (v:=.pointer (some ⟨bo,0+r.length*2,none⟩)) (fun ρ o w ho hi2=>yP (kd:=.i64) (t:=54) (e:=56) (K:=2) (bytes:=32) kr (x:=(.tmp 51)) (y:=(.tmp 52)) bo 0 (r.length+1) cap r.length rfl ho hi2.1 hi2.2.1 (by omega) w),.v,.ls 2 (C:=cur) (off:=0+r.length*2) (v:=.int .u8 ((e.g:Nat):Int)) htop.2.2.1,.E (.bool (!(((e.g:Nat):Int)==40))) (.bool false) (za (by rw [h40];rfl)),.v] H11 kr fun gs7 w10 H12=>wW<|zf kr kr<|zh kr<|wW<|dL [.v,.v,.o (ins:=[((.tmp 59),.slice (some ⟨bo,0,none⟩) (r.length+1) cap),((.tmp 60),.int .i64 (r.length:Int))]) (v:=.pointer (some ⟨bo,0+r.length*2,none⟩)) (fun ρ o w ho hi2=>yP (kd:=.i64) (t:=54) (e:=56) (K:=2) (bytes:=32) kr (x:=(.tmp 59)) (y:=(.tmp 60)) bo 0 (r.length+1) cap r.length rfl ho hi2.1 hi2.2.1 (by omega) w),.lp 2 (C:=cur) (off:=0+r.length*2) (n:=2) (W:=#[.int .u8 ((e.g:Nat):Int),.slice e.p e.n e.c]) htop.1 htop.2.1,.v,.v,.o (ins:=[((.tmp 63),.slice (some ⟨bo,0,none⟩) (r.length+1) cap),((.tmp 64),.int .i64 (r.length:Int))]) (v:=.slice (some ⟨bo,0,none⟩) r.length cap) (fun ρ o w ho hi2=>zab (kd:=.i64) (t:=54) (e:=56) (size:=2) (bytes:=32) kr (x:=(.tmp 63)) (y:=(.tmp 64)) bo (r.length+1) cap r.length ho hi2.1 hi2.2.1 (by omega) w),.s 0,.v] H12 kr fun w11 H13=>wW ?_;have H14:St B w0 w11 ((bd,kdO e.g e.p e.n e.c)::(b2,kdO 0 none 0 0)::(bo,kR cur)::(e.row++(yC r++T))):=by
       rw [←List.append_assoc];exact H13.as kr
      have hBr:Bot r:=by
       rcases hBot with ⟨h,_⟩|h
       ·rw [h] at hr0;exact absurd rfl hr0
       ·exact h
      have hst:jk (by_ form i) (stM (e::r))=some (xy e.g (qE e.M) (stM r)):=by
       rw [hc];unfold jk;rw [if_neg hnl,if_neg hno,if_pos h41];show (if (r.map _).length=0∨e.g≠40 then none else some (xy e.g (qE e.M) (stM r)))=_;rw [if_neg (by rw [List.length_map];exact fun h=>h.elim hr0 (fun h=>h h40))]
      refine zeU form b2 bd i _ hi40 r.length _ _ ⟨r,r.length,e.g,e.p,e.n,e.c,qE e.M,e.row++T,bo,cap,cur,rfl,rfl,hBr,by omega,fun x hx=>(hS x (List.mem_cons_of_mem _ hx)).mono (fun y hy=>List.mem_append_right _ hy) (Nat.le_refl _),he.row.rIn (by decide) he.all (by have:=he.le;show e.n≤1000;omega),rfl,Rw.pop (vu _ _▸hRw) (zas r),H14.perm (List.Perm.cons _ (List.Perm.cons _ (List.Perm.cons _ (List.perm_append_comm_assoc (yC r) e.row T)))),(Is.of ⟨kr,kr,kr,kr,kr,kr,kr,trivial⟩)⟩ ?_;intro S' N' T' bo' cap' cur' ρ' ww' h1 h2 h3 h4 h5 h6 h7 h8;exact hQ S' N' T' bo' cap' cur' ρ' ww' h1 h2 h3 h4 (by rw [hst,h5]) h6 h7 h8
     ·refine rL [.v,.E (.bool ((r.length:Int)==0)) (.bool false) (za (beq_eq_false_iff_ne.2 (by omega))),.v,.v,.v,.o (ins:=[((.tmp 51),.slice (some ⟨bo,0,none⟩) (r.length+1) cap),((.tmp 52),.int .i64 (r.length:Int))]) (v:=.pointer (some ⟨bo,0+r.length*2,none⟩)) (fun ρ o w ho hi2=>yP (kd:=.i64) (t:=54) (e:=56) (K:=2) (bytes:=32) kr (x:=(.tmp 51)) (y:=(.tmp 52)) bo 0 (r.length+1) cap r.length rfl ho hi2.1 hi2.2.1 (by omega) w),.v,.ls 2 (C:=cur) (off:=0+r.length*2) (v:=.int .u8 ((e.g:Nat):Int)) htop.2.2.1,.E (.bool (!(((e.g:Nat):Int)==40))) (.bool true) (za (by rw [beq_eq_false_iff_ne.2 (by omega)];rfl)),.v] H11 kr fun gs7 w10 H12=>wW<|zg kr kr<|rS [.v,.s 1,.v] H12 kr fun gs8 w11 H13=>zn kr ?_;have H14:St B w0 w11 ((bd,kdO c none 0 0)::(b2,kdO 0 none 0 0)::(bo,kR cur)::(yC (e::r)++T)):=H13.as kr;refine hbad ?_ _ w11 bd _ _ H14 kr kr;rw [hc];unfold jk;rw [if_neg hnl,if_neg hno,if_pos h41];show (if (r.map _).length=0∨e.g≠40 then none else some _)=none;rw [if_pos (.inr h40)]
   ·refine rS [.E (.bool ((c:Int)==41)) (.bool false) (za (beq_eq_false_iff_ne.2 (by omega))),.v] H10 kr fun gs6 w9 H11=>zf kr kr<|rS [.v,.s 1,.v] H11 kr fun gs7 w10 H12=>zn kr ?_;have H13:St B w0 w10 ((bd,kdO c none 0 0)::(b2,kdO 0 none 0 0)::(bo,kR cur)::(yC (e::r)++T)):=H12.as kr;refine hbad ?_ _ w10 bd _ _ H13 kr kr;rw [hc];unfold jk;rw [if_neg hnl,if_neg hno,if_neg h41]
def zat (form:ByteArray)(v:Value)(T:List (Nat×Obj)):Prop:=
 (∃(p:Option Addr) (n c:Nat) (k:Kf),parseM form=some k∧v=.tuple #[knd 40 p n c,.bool true]∧RIn kS T p n k)∨
 (parseM form=none∧∃(g:Nat) (p:Option Addr) (n c:Nat),v=.tuple #[knd g p n c,.bool false])
theorem zj6 (s:ByteArray)(i:Nat)(h:i<s.size):(tl s).drop i=(tl s).getD i 0::(tl s).drop (i+1):=by
 have h1:i<(tl s).length:=h;rw [List.drop_eq_getElem_cons h1,List.getD_eq_getElem?_getD,List.getElem?_eq_getElem h1];rfl
theorem zj7: ∀ {S:List Sk},Bot S→1≤S.length
 | [],h=>h.elim
 | e::r,_=>by simp
theorem zj8 (form:ByteArray):FnT Tryz.prog 28 #[.string form] (fun _=>True) (zat form):=by
 refine FnT.intro (c:=zl Tryz.f28) [.cell 2 56,.tmp 3] 101 Tryz.func28 kr kr kr fun w _=>?_;have H0:=St.start w;refine rS [.a,.v] H0 kr fun gs1 w1 H1=>?_;clear H0;refine ziO kr<|zc kr ?_;by_cases h40:40<form.size
 ·refine rS [.v,.v,.E (.bool (decide ((40:Int)<(ByteArray.size form:Int)))) (.bool true) (za (decide_eq_true (by omega)))] H1 kr fun gs2 w2 H2=>zg kr kr<|rS [.v,.s 0,.v] H2 kr fun gs3 w3 H3=>rRr [.cell 2 56,.tmp 3] [0] (.tuple #[knd 0 none 0 0,.bool false]) (yf w.heap.size w (zat form)) H3 kr ?_;exact ⟨[],.inr ⟨by unfold parseM;rw [if_pos h40],_,_,_,_,rfl⟩,H3.sub (List.nil_sublist _)⟩
 ·refine rS [.v,.v,.E (.bool (decide ((40:Int)<(ByteArray.size form:Int)))) (.bool false) (za (decide_eq_false (by omega)))] H1 kr fun gs2 w2 H2=>zf kr kr<|zh kr<|wW<|rS [.v,.nw (fun b=>.slice (some ⟨b,0,none⟩) 1 1) #[.int .u8 40,.slice none 0 0] 56,.v] H2 kr fun gs3 w3 H3=>zc kr<|ziP 0 kr<|wW<|zc kr<|rS [.v,.v,.v] H3 kr fun gs4 w4 H4=>zj 0 kr ?_;have H5:St w.heap.size w w4 (((gs1 0).b,kdO 0 none 0 0)::((gs3 1).b,kR #[.int .u8 40,.slice none 0 0])::(yC [⟨40,none,0,0,[],[]⟩]++ [])):=H4.as kr;have hpm:parseM form=match xW (tl form) [(40,.nil)] with | some [(_,m)]=>some m | _=>none:=by unfold parseM;rw [if_neg h40]<;>rfl
  clear H1 H2 H3 H4;refine zz kr (fun mz ρ ww=> ∃(i:Nat) (st:List (Nat×Kf)),form.size-i=mz∧i≤form.size∧xW ((tl form).drop i) st=xW (tl form) [(40,.nil)]∧zj4 w.heap.size w form (gs1 0).b i st ρ ww) (form.size-0)
   ⟨0,[(40,.nil)],rfl,Nat.zero_le _,rfl,[⟨40,none,0,0,[],[]⟩],1,[],(gs3 1).b,1,#[.int .u8 40,.slice none 0 0],rfl,.inl ⟨rfl,rfl⟩,by decide,(fun x hx=>by
    obtain rfl:=List.mem_singleton.1 hx
    exact ⟨.inl ⟨rfl,rfl,rfl,rfl,rfl⟩,(fun _ h=>nomatch h),Nat.zero_le _⟩),rfl,⟨rfl,Nat.le_refl _,by unfold maxLen;omega,rfl,rfl⟩,H5,(Is.of ⟨kr,kr,kr,kr,kr,kr,trivial⟩)⟩ ?_
  clear H5;rintro _ _ w5 ⟨i,_,rfl,hi,hst,S,N,T,bo,cap,cur,hN,hBot,hN5,hS,rfl,hRw,H6,_,rfl⟩;by_cases hlt:i<form.size
  ·refine rS [.E (.bool (decide ((i:Int)<(form.size:Int)))) (.bool true) (za (decide_eq_true (by omega)))] H6 kr fun gs5 w6 H7=>zc kr<|zg kr kr<|zh kr<|wW<|zc kr<|zj 1 kr ?_;have H8:St w.heap.size w w6 (((gs1 0).b,kdO 0 none 0 0)::(bo,kR cur)::(yC S++T)):=H7.as kr;have hstep: ∀x,jk (by_ form i) (stM S)=x→xW (tl form) [(40,.nil)]=match x with | none=>none | some st'=>xW ((tl form).drop (i+1)) st':=fun x hx=>by
    rw [←hst,zj6 form i hlt,←hx];rfl
   refine zj5 form (gs1 0).b i (by omega) hlt (by omega) S N T bo cap cur hN hBot hN5 hS hRw _ w6 H8 (Is.of ⟨kr,kr,kr,kr,kr,kr,trivial⟩) ?_ ?_
   ·intro hn ρ ww bd o l HS h3 h2;refine wV ?_;refine ⟨[.agg #[.int .u8 0,.slice none 0 0],.bool false],(.agg (b:=(gs1 0).b) #[.int .u8 0,.slice none 0 0] 56 (0,0) h2 (HS.get 1 kr) kr (.tmp (.bool false) h3 .nil)),[],.inr ⟨?_,0,none,0,0,rfl⟩,HS.sub (List.nil_sublist _)⟩;rw [hpm,hstep _ hn]
   ·intro S' N' T' bo' cap' cur' ρ ww h1 h2 h3 h4 h5 h6 h7 ⟨_,h8⟩;subst h8;refine wW<|rL [.E (.int .i64 (IntKind.i64.wrap ((i:Int)+1))) (.int .i64 ((i+1:Nat):Int)) (ze (zm (a:=i) (b:=1) (by omega))),.v] h7 kr fun gs6 w7 H9=>?_;show ∃m,_∧_;exact ⟨_,(by omega),i+1,stM S',rfl,hlt,(hstep _ h5).symm,S',N',T',bo',cap',cur',h1,h2,h3,h4,rfl,h6,H9.as kr,(Is.of ⟨kr,kr,kr,kr,kr,kr,trivial⟩)⟩
  ·obtain rfl:i=form.size:=by omega
   refine rS [.E (.bool (decide ((form.size:Int)<(form.size:Int)))) (.bool false) (za (decide_eq_false (by omega)))] H6 kr fun gs5 w6 H7=>zc kr<|zf kr kr<|zw 0 kr<|wW ?_;have hb1:=zj7 hBot;have hend:xW (tl form) [(40,.nil)]=some (stM S):=by
    rw [←hst,List.drop_of_length_le (by rw [zy];exact Nat.le_refl _)];rfl
   rw [hend] at hpm;obtain ⟨x,hx⟩:∃x,(opE S)[0]? =some x:=⟨_,List.getElem?_eq_getElem (by rw [zbR];omega)⟩
   have hat:=hRw.atE (S:=kS) hx;by_cases h1:N=1
   ·refine rS [.v,.o (ins:=[((.tmp 95),.slice (some ⟨bo,0,none⟩) N cap),((.const (.int .i64 0)),.int .i64 0)]) (v:=.pointer (some ⟨bo,0+0*2,none⟩)) (fun ρ o w ho hi2=>yP (kd:=.i64) (t:=54) (e:=56) (K:=2) (bytes:=32) kr (x:=(.tmp 95)) (y:=(.const (.int .i64 0))) bo 0 N cap 0 rfl ho hi2.1 hi2.2.1 (by omega) w),.lp 1 (C:=cur) (off:=0*2) (n:=2) (W:=#[.int .u8 ((x.a:Nat):Int),.slice x.p x.n x.c]) hat.1 hat.2,.v,.v,.E (.bool ((N:Int)==1)) (.bool true) (za (beq_iff_eq.2 (by omega))),.s 0,.v] H7 kr fun gs6 w7 H8=>rRr [.cell 2 56,.tmp 3] [0] (.tuple #[knd x.a x.p x.n x.c,.bool true]) (yf w.heap.size w (zat form)) H8 kr ?_;have H9:St w.heap.size w w7 (((gs1 0).b,kdO x.a x.p x.n x.c)::(bo,kR cur)::(yC S++T)):=H8.as kr;rcases S with _ | ⟨e,_ | ⟨e',r⟩⟩
    ·exact hBot.elim
    ·obtain rfl:e.el=x:=by simpa [opE] using hx
     have he:=hS e (List.mem_cons_self ..);have hg:e.g=40:=by
      rcases hBot with ⟨_,h⟩|h
      ·exact h
      ·exact h.elim
     refine ⟨e.row++T,.inl ⟨e.p,e.n,e.c,qE e.M,?_,?_,he.row.rIn (by decide) he.all (by have:=he.le;show e.n≤1000;omega)⟩,?_⟩
     ·rw [hpm];rfl
     ·show Value.tuple #[knd e.g e.p e.n e.c,.bool true]=_;rw [hg]
     ·have H10:=H9.sub (List.Sublist.cons _ (List.sublist_cons_self ..));have e2:yC [e]++T=e.row++T:=by show (e.row++ [])++T=_;rw [List.append_nil]
      rw [e2] at H10;exact H10
    ·exact absurd (hN.symm.trans h1) (by simp)
   ·refine rS [.v,.o (ins:=[((.tmp 95),.slice (some ⟨bo,0,none⟩) N cap),((.const (.int .i64 0)),.int .i64 0)]) (v:=.pointer (some ⟨bo,0+0*2,none⟩)) (fun ρ o w ho hi2=>yP (kd:=.i64) (t:=54) (e:=56) (K:=2) (bytes:=32) kr (x:=(.tmp 95)) (y:=(.const (.int .i64 0))) bo 0 N cap 0 rfl ho hi2.1 hi2.2.1 (by omega) w),.lp 1 (C:=cur) (off:=0*2) (n:=2) (W:=#[.int .u8 ((x.a:Nat):Int),.slice x.p x.n x.c]) hat.1 hat.2,.v,.v,.E (.bool ((N:Int)==1)) (.bool false) (za (beq_eq_false_iff_ne.2 (by omega))),.s 0,.v] H7 kr fun gs6 w7 H8=>rRr [.cell 2 56,.tmp 3] [0] (.tuple #[knd x.a x.p x.n x.c,.bool false]) (yf w.heap.size w (zat form)) H8 kr ?_;refine ⟨[],.inr ⟨?_,_,_,_,_,rfl⟩,H8.sub (List.nil_sublist _)⟩;rw [hpm];rcases S with _ | ⟨e,_ | ⟨e',r⟩⟩
    ·exact hBot.elim
    ·exact absurd hN h1
    ·rfl
def xC (x:ByteArray×Nat):Value:=.tuple #[.string x.1,.int .i64 ((x.2:Nat):Int)]
theorem zj9 (g:Nat)(p:Option Addr)(n c:Nat)(b:Kf)(m:Nat)(s:ByteArray)(p2:Option Addr)(n2 c2:Nat)(l:Fe)(hm:m<0x10000000000000000)(hs:s.size≤0x800000000000):
 FnP Tryz.prog 29 #[knd g p n c,fld m s p2 n2 c2] (fun w=>SlR kS w.heap.size w p n b∧SlR fS w.heap.size w p2 n2 l) (xC (vq g b (m,s) l)):=by
 refine FnP.intro (c:=zl Tryz.f29) [.tmp 4,.tmp 5] 16 Tryz.func29 kr kr kr fun w hpre=>?_;have H0:=St.start w;obtain ⟨hK,hF⟩:=hpre;refine rS [.b,.b,.v,.v] H0 kr fun gs1 w1 H1=>?_;clear H0;refine zc kr ?_;unfold vq;by_cases hl:yv g b (m,s) l 1001<0
 ·rw [if_pos hl];refine rS [.l 0,.l 1,.cp (pre:=fun w=>SlR kS w.heap.size w p n b∧SlR fS w.heap.size w p2 n2 l) (zeR l g p n c b m s p2 n2 c2 1001) [] (fun w hb hd=>⟨hK.call hb,hF.call hb⟩),.E (.bool (decide (yv g b (m,s) l 1001<0))) (.bool true) (za (decide_eq_true hl))] H1 kr fun gs2 w2 H2=>zg kr kr<|rS [.v,.v] H2 kr fun gs3 w3 H3=>?_;exact rR [.tmp 4,.tmp 5] [] (xC (⟨#[]⟩,1)) H3 kr
 ·rw [if_neg hl];refine rS [.l 0,.l 1,.cp (pre:=fun w=>SlR kS w.heap.size w p n b∧SlR fS w.heap.size w p2 n2 l) (zeR l g p n c b m s p2 n2 c2 1001) [] (fun w hb hd=>⟨hK.call hb,hF.call hb⟩),.E (.bool (decide (yv g b (m,s) l 1001<0))) (.bool false) (za (decide_eq_false hl))] H1 kr fun gs2 w2 H2=>zf kr kr<|zh kr<|wW<|zi [0,1,2,3,4,5,6,7] kr kr<|rp [.l 0,.l 1] H2 kr fun gs3 w3 H3=>wX [2,3,4,5,6,7]<|yZ H3 (some 12) 51 #[knd g p n c,fld m s p2 n2 c2] (zj2 l g p n c b m s p2 n2 c2 1001 hm (Int.not_lt.1 hl)) ⟨hK.call H3.below,hF.call H3.below⟩ kr kr ?_;intro v T w4 hok H4;obtain ⟨q1,q2,q3,rfl,hsl⟩:=hok;refine qd H4 (some 13) 36 #[itm (yr g) (zY g (m,s)) q1 q2 q3] _ _ (zbG (yr g) (zY g (m,s)) q1 q2 q3 (yk g b l) (zap hs)) (hsl.at H4 fun e he=>List.mem_append_left _ he) (fun w=>by kernel_rfl) kr ?_;intro w5 H5;rw [hsl.1];have H6:=H5.sub (List.nil_sublist _);refine rp [.v,.v,.v,.v] H6 kr fun gs4 w6 H7=>wX []<|zd ?_;exact rR [.tmp 4,.tmp 5] [] (xC (yo (yr g) (zY g (m,s)) (yk g b l).len (yk g b l))) H7 kr
def wrV (form:ByteArray)(l:Fe):ByteArray×Nat:=match parseM form with
 | none=>(⟨#[]⟩,1)
 | some k=>vq 40 k (0,⟨#[]⟩) l
theorem zka (form:ByteArray)(p:Option Addr)(n c:Nat)(l:Fe):FnP Tryz.prog 15 #[.string form,.slice p n c] (fun w=>SlR fS w.heap.size w p n l) (xC (wrV form l)):=by
 refine FnP.intro (c:=zl Tryz.f15) [.tmp 4,.tmp 5] 21 Tryz.func15 kr kr kr fun w hF=>?_;have H0:=St.start w;refine rS [.v,.v] H0 kr fun gs1 w1 H1=>?_;clear H0;refine zi [0,1,2,3,4,5,6,7] kr kr<|rp [.v] H1 kr fun gs2 w2 H2=>wX [1,2,3,4,5,6,7]<|yZ H2 (some 10) 28 #[.string form] (zj8 form) trivial kr kr ?_;intro v T w3 hok H3;unfold wrV;rcases hok with ⟨q1,q2,q3,k,hp,rfl,hk⟩ | ⟨hp,g',q1,q2,q3,rfl⟩
 ·rw [hp];refine rp [.v,.v,.v] H3 kr fun gs3 w4 H4=>wX [5,6,7] ?_;have H5:St w.heap.size w w4 (T++ []):=H4.as kr;refine qA H5 (some 6) 56 (.agg #[.int .u8 0,.slice none 0 0]) kr kr kr ?_;intro b6 w5 H6;refine rp [.s 0,.v] H6 kr fun gs4 w6 H7=>wX []<|zd<|zc kr<|rS [.v,.v] H7 kr fun gs5 w7 H8=>zf kr kr<|zh kr<|wW<|zi [0,1,2,3,4,5,6,7] kr kr<|rp [.l 0,.v,.v] H8 kr fun gs6 w8 H9=>wX [3,4,5,6,7] ?_;have H10:St w.heap.size w w8 ((b6,kdO 40 q1 q2 q3)::(T++ [])):=H9.as kr;refine qd H10 (some 18) 29 #[knd 40 q1 q2 q3,fld 0 ⟨#[]⟩ p n c] _ _ (zj9 40 q1 q2 q3 k 0 ⟨#[]⟩ p n c l (by decide) (by decide)) ⟨hk.at H10 fun e he=>List.mem_cons_of_mem _ (List.mem_append_left _ he),hF.call H10.below⟩ (fun w=>by kernel_rfl) kr ?_;intro w9 H11;have H12:=H11.sub (List.nil_sublist _);refine rp [.v,.v,.v,.v] H12 kr fun gs7 w10 H13=>wX []<|zd ?_;exact rR [.tmp 4,.tmp 5] [] (xC (vq 40 k (0,⟨#[]⟩) l)) H13 kr
 ·rw [hp];refine rp [.v,.v,.v] H3 kr fun gs3 w4 H4=>wX [5,6,7] ?_;have H5:St w.heap.size w w4 (T++ []):=H4.as kr;refine qA H5 (some 6) 56 (.agg #[.int .u8 0,.slice none 0 0]) kr kr kr ?_;intro b6 w5 H6;refine rp [.s 0,.v] H6 kr fun gs4 w6 H7=>wX []<|zd<|zc kr<|rS [.v,.v] H7 kr fun gs5 w7 H8=>zg kr kr ?_;have H9:=H8.sub (List.nil_sublist _);refine rS [.v,.v] H9 kr fun gs6 w8 H10=>?_;exact rR [.tmp 4,.tmp 5] [] (xC (⟨#[]⟩,1)) H10 kr
theorem zeW {form:ByteArray}{ks:List ByteArray}(hK:kB form ks)(l:Fe):wrV form l=if yB ks l=true∧l.cnt≤1000 then yo true emB (yK l 40 (kfL ks) 0).len (yK l 40 (kfL ks) 0) else (emB,1):=by
 unfold wrV;rw [hK.parse];show vq 40 (kfL ks) (0,⟨#[]⟩) l=_;unfold vq;by_cases h:yB ks l=true∧l.cnt≤1000
 ·rw [if_pos h,if_neg ((zeL hK.kd l).2 h)];rfl
 ·rw [if_neg h,if_pos];by_cases hn:yv 40 (kfL ks) (0,⟨#[]⟩) l 1001<0
  ·exact hn
  ·exact absurd ((zeL hK.kd l).1 hn) h
theorem zbS {ks:List ByteArray}(x:Nat×ByteArray)(l r:Fe)(i:Nat)(hi:i<ks.length):yK (.cons x l r) 40 (kfL ks) i=.cons (yr (by_ ks[i] 0)) (zY (by_ ks[i] 0) x) (yk (by_ ks[i] 0) (kdB ks[i]) l) (yK r 40 (kfL ks) (i+1)):=by
 rw [zbI,zeF,List.getElem?_eq_getElem hi]
def hv:List UInt8→List UInt8
 | []=>[]
 | b::t=>(b >>> 4)::(b &&& 15)::hv t
def isP (l:List UInt8):Bool:=l.all fun b=>decide (b.toNat≤15)
def jn:List UInt8→List UInt8
 | a::b::t=>(a <<< 4 ||| b)::jn t
 | _=>[]
def fl (e:Bool):UInt8:=if e then 2 else 0
def hdP (n:Nat)(e:Bool):List UInt8:=if n%2=1 then [fl e+1] else [fl e,0]
def pk (l:List UInt8)(e:Bool):List UInt8:=jn (hdP l.length e++l)
theorem kC {p:UInt8→Prop}(h: ∀x:BitVec 8,p (UInt8.ofBitVec x))(b:UInt8):p b:=h b.toBitVec
theorem zkb (b:UInt8):(b >>> 4) <<< 4 ||| (b &&& 15)=b:=kC (p:=fun b=>(b >>> 4) <<< 4 ||| (b &&& 15)=b) (by decide+kernel) b
theorem zkc (b:UInt8):(b >>> 4).toNat≤15∧(b &&& 15).toNat≤15:=kC (p:=fun b=>(b >>> 4).toNat≤15∧(b &&& 15).toNat≤15) (by decide+kernel) b
theorem zeX (b:UInt8):b / (16:UInt8)=b >>> 4∧b%(16:UInt8)=b &&& 15:=kC (p:=fun b=>b / (16:UInt8)=b >>> 4∧b%(16:UInt8)=b &&& 15) (by decide+kernel) b
theorem zkd: ∀a b:Fin 16,(UInt8.ofNat a.val <<< 4 ||| UInt8.ofNat b.val) >>> 4=UInt8.ofNat a.val∧(UInt8.ofNat a.val <<< 4 ||| UInt8.ofNat b.val) &&& 15=UInt8.ofNat b.val∧(16:UInt8)*UInt8.ofNat a.val+UInt8.ofNat b.val=UInt8.ofNat a.val <<< 4 ||| UInt8.ofNat b.val:=by decide+kernel
theorem zke {a b:UInt8}(ha:a.toNat≤15)(hb:b.toNat≤15):(a <<< 4 ||| b) >>> 4=a∧(a <<< 4 ||| b) &&& 15=b∧(16:UInt8)*a+b=a <<< 4 ||| b:=by
 have h:=zkd ⟨a.toNat,by omega⟩ ⟨b.toNat,by omega⟩
 simpa using h
theorem xY: ∀l:List UInt8,(hv l).length=2*l.length
 | []=>rfl
 | b::t=>by simp [hv,xY t];omega
theorem zeY: ∀a b:List UInt8,hv (a++b)=hv a++hv b
 | [],b=>rfl
 | x::a,b=>by simp [hv,zeY a b]
theorem zbT: ∀l:List UInt8,isP (hv l)=true
 | []=>rfl
 | b::t=>by
  have h1:=zkc b;have h2:=zbT t;unfold isP at h2 ⊢;simp only [hv,List.all_cons,Bool.and_eq_true,decide_eq_true_eq];exact ⟨h1.1,h1.2,h2⟩
theorem zeZ: ∀l:List UInt8,jn (hv l)=l
 | []=>rfl
 | b::t=>by simp only [hv,jn];rw [zkb,zeZ t]
theorem zau {a b:List UInt8} :isP (a++b)=true↔isP a=true∧isP b=true:=by unfold isP;simp
theorem xD: ∀l:List UInt8,(jn l).length=l.length / 2
 | []=>rfl
 | [a]=>by simp [jn]
 | a::b::t=>by simp only [jn,List.length_cons,xD t];omega
theorem uo: ∀(l:List UInt8) (i:Nat),i<l.length / 2→(jn l).getD i 0=l.getD (2*i) 0 <<< 4 ||| l.getD (2*i+1) 0
 | [],i,h=>by simp at h
 | [a],i,h=>by simp at h
 | a::b::t,0,_=>rfl
 | a::b::t,i+1,h=>by
  have:=uo t i (by simp at h;omega);simp only [jn,List.getD_cons_succ];rw [this,show 2*(i+1)=2*i+1+1 by omega];simp only [List.getD_cons_succ]
theorem ze0 (n:Nat)(e:Bool):((hdP n e).length+n)%2=0∧(hdP n e).length=2-n%2:=by
 unfold hdP;split
 ·simp;omega
 ·simp;omega
theorem zkf (l:List UInt8)(e:Bool):(pk l e).length=l.length / 2+1:=by
 unfold pk;rw [xD,List.length_append];have:=(ze0 l.length e).2;omega
def shr:List UInt8→List UInt8→Nat
 | a::x,b::y=>if a=b then 1+shr x y else 0
 | _,_=>0
theorem kD: ∀x y:List UInt8,shr x y≤x.length∧shr x y≤y.length
 | [],y=>by simp [shr]
 | a::x,[]=>by simp [shr]
 | a::x,b::y=>by have:=kD x y;unfold shr;split<;>simp<;>omega
theorem zbU: ∀x y:List UInt8,shr x y=shr y x
 | [],[]=>rfl
 | [],b::y=>rfl
 | a::x,[]=>rfl
 | a::x,b::y=>by
  unfold shr;by_cases h:a=b
  ·subst h;simp [zbU x y]
  ·rw [if_neg h,if_neg (Ne.symm h)]
theorem ze1: ∀x y:List UInt8,x.take (shr x y)=y.take (shr x y)
 | [],y=>by simp [shr]
 | a::x,[]=>by simp [shr]
 | a::x,b::y=>by
  unfold shr;split
  ·rename_i h;subst h;rw [show 1+shr x y=shr x y+1 by omega];simp [ze1 x y]
  ·simp
theorem ze2: ∀(x y:List UInt8) (i:Nat),i<x.length→i<y.length→shr (x.drop i) (y.drop i)=if x.getD i 0=y.getD i 0 then 1+shr (x.drop (i+1)) (y.drop (i+1)) else 0:=by
 intro x y i hx hy;rw [List.drop_eq_getElem_cons hx,List.drop_eq_getElem_cons hy];rw [List.getD_eq_getElem?_getD,List.getD_eq_getElem?_getD,List.getElem?_eq_getElem hx,List.getElem?_eq_getElem hy];rfl
theorem zkg {x y:List UInt8}(h:x.length=0∨y.length=0):shr x y=0:=by have:=kD x y;omega
theorem ze3 (l:List UInt8)(i:Nat)(h:i<l.length):hv (l.take (i+1))=hv (l.take i)++ [l.getD i 0 >>> 4,l.getD i 0 &&& 15]:=by
 rw [List.take_add_one,zeY];congr 1;rw [List.getD_eq_getElem?_getD,List.getElem?_eq_getElem h];rfl
theorem zkh {l:List UInt8}{i:Nat}(h:i<l.length):isP (l.take (i+1))=(isP (l.take i)&&decide ((l.getD i 0).toNat≤15)):=by
 unfold isP;rw [List.take_add_one,List.all_append,List.getD_eq_getElem?_getD,List.getElem?_eq_getElem h];simp
theorem zki {l:List UInt8}{i:Nat}(h:i<l.length)(hb: ¬(l.getD i 0).toNat≤15):isP l=false:=by
 rcases hq:isP l with _|_
 ·rfl
 ·unfold isP at hq;rw [List.all_eq_true] at hq;have:=hq (l.getD i 0) (by rw [List.getD_eq_getElem?_getD,List.getElem?_eq_getElem h];exact List.getElem_mem h);exact absurd (of_decide_eq_true this) hb
theorem ze4 {l:List UInt8}(h:isP l=true)(i:Nat):(l.getD i 0).toNat≤15:=by
 rw [List.getD_eq_getElem?_getD];rcases Nat.lt_or_ge i l.length with hi | hi
 ·rw [List.getElem?_eq_getElem hi];unfold isP at h;rw [List.all_eq_true] at h;exact of_decide_eq_true (h _ (List.getElem_mem hi))
 ·rw [List.getElem?_eq_none hi];decide
theorem zkj (l:List UInt8)(i:Nat)(h:i<l.length / 2):
 (((jn l).take i++List.replicate (l.length / 2-i) 0).set i (l.getD (2*i) 0 <<< 4 ||| l.getD (2*i+1) 0))=(jn l).take (i+1)++List.replicate (l.length / 2-(i+1)) 0:=by
 have hl:=xD l
 rw [←uo l i h,List.set_append_right _ _ (by rw [List.length_take];omega),List.length_take,show i-min i (jn l).length=0 by omega,
  show l.length / 2-i=(l.length / 2-(i+1))+1 by omega,List.replicate_succ,List.set_cons_zero,List.take_add_one,List.append_assoc,
  List.getD_eq_getElem?_getD,List.getElem?_eq_getElem (by omega)]
 rfl
theorem zkk (l:List UInt8)(k:Nat)(h:2*k+1<l.length):jn (l.take (2*k+2))=jn (l.take (2*k))++ [l.getD (2*k) 0 <<< 4 ||| l.getD (2*k+1) 0]:=by
 have h1:=uo l k (by omega);have ht: ∀(m:Nat) (l:List UInt8),jn (l.take (2*m))=(jn l).take m:=by
  intro m
  induction m with
  | zero=>intro l;simp [jn]
  | succ m ih=>
   intro l
   match l with
   | []=>simp [jn]
   | [a]=>simp [jn,show 2*(m+1)=2*m+1+1 by omega]
   | a::b::t=>simp [jn,show 2*(m+1)=2*m+1+1 by omega,ih t]
 rw [show 2*k+2=2*(k+1) by omega,ht,ht,List.take_add_one,←h1,List.getD_eq_getElem?_getD,List.getElem?_eq_getElem (by rw [xD];omega)];rfl
theorem hi4 (x:UInt8):BitVec.toNat (x.toBitVec >>> 4)=(x >>> 4).toNat:=kC (p:=fun x=>BitVec.toNat (x.toBitVec >>> 4)=(x >>> 4).toNat) (by decide+kernel) x
theorem lo4 (x:UInt8):BitVec.toNat (x.toBitVec &&& (15:BitVec 8))=(x &&& 15).toNat:=rfl
theorem zkl (x:UInt8):[Value.int .u8 (BitVec.toNat (x.toBitVec >>> 4):Int),.int .u8 (BitVec.toNat (x.toBitVec &&& (15:BitVec 8)):Int)]=cellsB [x >>> 4,x &&& 15]:=by
 rw [hi4,lo4];rfl
theorem zkm (x:UInt8):[Value.int .u8 (BitVec.toNat (x.toBitVec / (16:BitVec 8)):Int),.int .u8 (BitVec.toNat (x.toBitVec%(16:BitVec 8)):Int)]=cellsB [x >>> 4,x &&& 15]:=by
 rw [←(zeX x).1,←(zeX x).2];rfl
theorem zkn (x y:UInt8):UInt8.ofBitVec (x.toBitVec <<< 4 ||| y.toBitVec)=x <<< 4 ||| y:=by
 have h: ∀x:UInt8,x.toBitVec <<< 4=(x <<< 4).toBitVec:=fun x=>kC (p:=fun x=>x.toBitVec <<< 4=(x <<< 4).toBitVec) (by decide+kernel) x;rw [h];rfl
theorem qX {l:List Value}(h:l.all (·.oneCell')=true): ∀u∈l,u.oneCell'=true:=fun u hu=>List.all_eq_true.1 h u hu
abbrev Ent:=List UInt8×ByteArray
def lexB:List UInt8→List UInt8→Bool
 | [],[]=>false
 | [],_::_=>true
 | _::_,[]=>false
 | a::l,b::m=>if a.toNat<b.toNat then true else if a=b then lexB l m else false
theorem uq (l:List UInt8):lexB l []=false:=by cases l<;>rfl
theorem ur: ∀l:List UInt8,lexB l l=false
 | []=>rfl
 | a::l=>by simp only [lexB,Nat.lt_irrefl,if_false,if_true];exact ur l
theorem xE {a b:UInt8}{l m:List UInt8}(h:lexB (a::l) (b::m)=true):a.toNat<b.toNat∨(a=b∧lexB l m=true):=by
 unfold lexB at h;split at h
 ·rename_i q;exact .inl q
 ·split at h
  ·rename_i q;exact .inr ⟨q,h⟩
  ·cases h
theorem ze5: ∀(p l m:List UInt8),lexB (p++l) (p++m)=lexB l m
 | [],_,_=>rfl
 | a::p,l,m=>by simp only [List.cons_append,lexB,Nat.lt_irrefl,if_false,if_true];exact ze5 p l m
theorem zko {l m:List UInt8}(k:Nat)(h:lexB l m=true)(e:l.take k=m.take k):lexB (l.drop k) (m.drop k)=true:=by
 rw [←List.take_append_drop k l,←List.take_append_drop k m,e,ze5] at h;exact h
def yD (l:List Ent):Prop:=l.Pairwise fun a b=>lexB a.1 b.1=true
theorem ze6: ∀ {x y z:List UInt8},lexB x y=true→lexB y z=true→shr x z≤shr x y∧shr x z≤shr y z
 | [],_,_,_,_=>⟨by simp [shr],by simp [shr]⟩
 | a::x,[],_,h,_=>by simp [lexB] at h
 | a::x,b::y,[],_,h=>by simp [lexB] at h
 | a::x,b::y,c::z,h1,h2=>by
  by_cases hac:a=c
  ·subst hac;have hab:a=b:=by
    rcases xE h1 with q|⟨q,_⟩
    ·rcases xE h2 with q2|⟨q2,_⟩
     ·omega
     ·rw [q2] at q;omega
    ·exact q
   subst hab;have h1':=(xE h1).resolve_left (Nat.lt_irrefl _);have h2':=(xE h2).resolve_left (Nat.lt_irrefl _);have:=ze6 h1'.2 h2'.2;simp only [shr,if_true];omega
  ·simp [shr,hac]
theorem zav {x y z:List UInt8} :lexB x y=true→lexB y z=true→lexB x z=true:=by
 induction x generalizing y z with
 | nil=>
  intro h1 h2;cases z with
  | nil=>rw [uq] at h2;cases h2
  | cons c z=>rfl
 | cons a x ih=>
  intro h1 h2;cases y with
  | nil=>cases h1
  | cons b y=>
   cases z with
   | nil=>cases h2
   | cons c z=>
    unfold lexB;rcases xE h1 with q1 | ⟨rfl,q1⟩<;>rcases xE h2 with q2 | ⟨rfl,q2⟩
    ·rw [if_pos (by omega)]
    ·rw [if_pos q1]
    ·rw [if_pos q2]
    ·rw [if_neg (Nat.lt_irrefl _),if_pos rfl];exact ih q1 q2
theorem us: ∀x y:List UInt8,shr x y≤x.length
 | [],_=>by simp [shr]
 | a::x,[]=>by simp [shr]
 | a::x,b::y=>by
  have:=us x y;simp only [shr,List.length_cons];split<;>omega
theorem ut: ∀(p x y:List UInt8),shr (p++x) (p++y)=p.length+shr x y
 | [],_,_=>by simp
 | a::p,x,y=>by simp only [List.cons_append,shr,if_true,ut p x y,List.length_cons];omega
def cmL (x:List UInt8):List Ent→Nat→Nat
 | [],n=>n
 | p::r,n=>cmL x r (min (shr p.1 x) n)
def zr:List Ent→Nat
 | []=>0
 | e::r=>cmL e.1 (e::r) e.1.length
theorem zbV (x:List UInt8): ∀(l:List Ent) (n:Nat),cmL x l n≤n∧ ∀p∈l,cmL x l n≤shr p.1 x
 | [],n=>⟨Nat.le_refl _,fun _ h=>nomatch h⟩
 | p::r,n=>by
  have h:=zbV x r (min (shr p.1 x) n);refine ⟨?_,fun q hq=>?_⟩
  ·unfold cmL;omega
  ·unfold cmL;rcases List.mem_cons.1 hq with rfl | hq
   ·omega
   ·exact h.2 q hq
theorem zaw (x:List UInt8)(k:Nat): ∀(l:List Ent) (n:Nat),k≤n→(∀p∈l,k≤shr p.1 x)→k≤cmL x l n
 | [],n,h,_=>h
 | p::r,n,h,hp=>by
  unfold cmL;refine zaw x k r _ ?_ fun q hq=>hp q (List.mem_cons_of_mem _ hq);have:=hp p (List.mem_cons_self ..);omega
theorem jO {l:List Ent}{e:Ent}(h:l.head? =some e): ∀p∈l,zr l≤shr p.1 e.1:=by
 cases l with
 | nil=>simp at h
 | cons e' r=>
  obtain rfl:e'=e:=by simpa using h
  exact (zbV _ _ _).2
theorem ze7 {e z:Ent}{r:List Ent}(h:yD (e::r))(hz:(e::r).getLast? =some z):zr (e::r)=shr e.1 z.1:=by
 have hmem:z∈e::r:=List.mem_of_getLast? hz;refine Nat.le_antisymm (by rw [zbU];exact (zbV _ _ _).2 z hmem)<|zaw _ _ _ _ (us _ _) fun p hp=>?_;rw [zbU p.1];rcases List.mem_cons.1 hp with rfl | hp
 ·have: ∀x:List UInt8,shr x x=x.length:=fun x=>by
   have:=ut x [] [];simp [shr] at this;exact this
  rw [this];exact us _ _
 ·have h1:lexB e.1 p.1=true:=(List.pairwise_cons.1 h).1 p hp;by_cases hpz:p=z
  ·rw [hpz];exact Nat.le_refl _
  ·have h2:lexB p.1 z.1=true:=by
    obtain ⟨a,b,hab⟩:=List.append_of_mem hp;have hb:z∈b:=by
     have hl:(e::r).getLast? =(p::b).getLast? :=by
      rw [hab,←List.cons_append,List.getLast?_append];cases hq:(p::b).getLast? with
      | none=>simp at hq
      | some v=>rfl
     rw [hl] at hz;cases b with
     | nil=>simp at hz;exact absurd hz hpz
     | cons b0 b'=>
      rw [List.getLast?_cons_cons] at hz;exact List.mem_of_getLast? hz
    rw [hab] at h;have h3:=(List.pairwise_append.1 (List.pairwise_cons.1 h).2).2.1;exact (List.pairwise_cons.1 h3).1 z hb
   exact (ze6 h1 h2).1
structure Nd where
 kind:Int
 part:ByteArray
 value:ByteArray
 kids:List Int
def yG (k:List Int):List Value:=(List.range 16).map fun j=>Value.int .i64 (k.getD j (-1))
def nS:Fl Nd where
 K:=19
 cs x:=[.int .i64 x.kind,.string x.part,.string x.value]++yG x.kids
 pos:=by decide
 len _:=rfl
 one _:=qX rfl
def qu:List Int:=List.replicate 16 (-1)
def zM (k:Nat)(l:List Ent):List Ent:=l.map fun e=>(e.1.drop k,e.2)
def zo (c:Nat)(l:List Ent):List Ent:=l.filterMap fun e=>match e.1 with
 | []=>none
 | b::t=>if b.toNat=c then some (t,e.2) else none
def zW:List Ent→ByteArray
 | []=>⟨#[]⟩
 | e::r=>if e.1=[] then e.2 else zW r
def zu (lay:List Ent→List Nd→List Nd×Int)(l:List Ent):Nat→List Nd→List Nd×List Int
 | 0,A=>(A,[])
 | c+1,A=>((lay (zo c l) (zu lay l c A).1).1,(zu lay l c A).2++ [(lay (zo c l) (zu lay l c A).1).2])
def zk:Nat→List Ent→List Nd→List Nd×Int
 | 0,_,A=>(A,-1)
 | f+1,[],A=>(A,-1)
 | f+1,[e],A=>(A++ [⟨1,zb e.1,e.2,qu⟩],(A.length:Int))
 | f+1,e::e'::r,A=>
  if 0<zr (e::e'::r) then
   ((zk f (zM (zr (e::e'::r)) (e::e'::r)) A).1++ [⟨2,zb (e.1.take (zr (e::e'::r))),⟨#[]⟩,(zk f (zM (zr (e::e'::r)) (e::e'::r)) A).2::List.replicate 15 (-1)⟩],((zk f (zM (zr (e::e'::r)) (e::e'::r)) A).1.length:Int))
  else
   ((zu (zk f) (e::e'::r) 16 A).1++ [⟨3,⟨#[]⟩,zW (e::e'::r),(zu (zk f) (e::e'::r) 16 A).2⟩],((zu (zk f) (e::e'::r) 16 A).1.length:Int))
theorem xF (k:Nat)(l:List Ent):(zM k l).length=l.length:=List.length_map ..
theorem vw: ∀(l:List Ent) (n:Nat),((List.range n).map fun c=>(zo c l).length).sum≤l.length
 | [],n=>by
  induction n with
  | zero=>exact Nat.le_refl _
  | succ n ih=>rw [List.range_succ,List.map_append,List.sum_append];simp [zo] at ih ⊢;exact ih
 | e::r,n=>by
  have h:=vw r n;have key: ∀c,(zo c (e::r)).length=(if (match e.1 with | []=>false | b::_=>decide (b.toNat=c))=true then 1 else 0)+(zo c r).length:=fun c=>by
   obtain ⟨x,v⟩:=e;cases x with
   | nil=>simp [zo]
   | cons b t=>
    by_cases hb:b.toNat=c
    ·simp [zo,hb];omega
    ·simp [zo,hb]
  have key2: ∀n,((List.range n).map fun c=>(if (match e.1 with | []=>false | b::_=>decide (b.toNat=c))=true then 1 else 0:Nat)).sum≤1:=by
   intro n;obtain ⟨x,v⟩:=e;cases x with
   | nil=>
    have h0: ∀n,((List.range n).map fun c=>(0:Nat)).sum=0:=fun n=>by
     induction n with
     | zero=>rfl
     | succ n ih=>rw [List.range_succ,List.map_append,List.sum_append,ih];rfl
    show ((List.range n).map fun c=>(0:Nat)).sum≤1;rw [h0];omega
   | cons b t=>
    have h2: ∀n,((List.range n).map fun c=>(if decide (b.toNat=c)=true then 1 else 0:Nat)).sum=if b.toNat<n then 1 else 0:=by
     intro n
     induction n with
     | zero=>rfl
     | succ n ih=>
      rw [List.range_succ,List.map_append,List.sum_append,ih];simp only [List.map_cons,List.map_nil,List.sum_cons,List.sum_nil,decide_eq_true_eq];split<;>split<;>split<;>omega
    show ((List.range n).map fun c=>(if decide (b.toNat=c)=true then 1 else 0:Nat)).sum≤1;rw [h2];split<;>omega
  have e2:((List.range n).map fun c=>(zo c (e::r)).length).sum=((List.range n).map fun c=>(if (match e.1 with | []=>false | b::_=>decide (b.toNat=c))=true then 1 else 0:Nat)).sum+((List.range n).map fun c=>(zo c r).length).sum:=by
   clear h
   induction n with
   | zero=>rfl
   | succ n ih=>
    rw [List.range_succ,List.map_append,List.map_append,List.map_append,List.sum_append,List.sum_append,List.sum_append,ih];simp only [List.map_cons,List.map_nil,List.sum_cons,List.sum_nil,key n];omega
  rw [e2];have:=key2 n;simp only [List.length_cons];omega
theorem ze8 (lay:List Ent→List Nd→List Nd×Int)(l:List Ent): ∀(n:Nat) (A:List Nd),(zu lay l n A).2.length=n
 | 0,_=>rfl
 | n+1,A=>by simp only [zu,List.length_append,ze8 lay l n A,List.length_cons,List.length_nil]
theorem vx: ∀(f:Nat) (l:List Ent) (A:List Nd),(zk f l A).1.length≤A.length+f*l.length
 | 0,_,_=>by simp [zk]
 | f+1,[],A=>by simp [zk]
 | f+1,[e],A=>by simp [zk]
 | f+1,e::e'::r,A=>by
  unfold zk;split
  ·have:=vx f (zM (zr (e::e'::r)) (e::e'::r)) A;rw [xF] at this;rw [List.length_append];rw [Nat.succ_mul];simp only [List.length_cons,List.length_nil] at this ⊢;omega
  ·have hk: ∀n,(zu (zk f) (e::e'::r) n A).1.length≤A.length+f*((List.range n).map fun c=>(zo c (e::e'::r)).length).sum:=by
    intro n
    induction n with
    | zero=>simp [zu]
    | succ n ih=>
     have:=vx f (zo n (e::e'::r)) (zu (zk f) (e::e'::r) n A).1;rw [List.range_succ,List.map_append,List.sum_append,Nat.mul_add];simp only [zu,List.map_cons,List.map_nil,List.sum_cons,List.sum_nil,Nat.add_zero];omega
   have h16:=hk 16;have h17:=Nat.mul_le_mul_left f (vw (e::e'::r) 16);rw [List.length_append,Nat.succ_mul];simp only [List.length_cons,List.length_nil] at h16 h17 ⊢;omega
theorem zkp (s:ByteArray)(hs:ByteArray.size s≤0xe8d4a51000):Fn Tryz.prog 48 #[.string s] (.string (zb (hv (tl s)))):=by
 refine Fn.intro (c:=zl Tryz.f48) [.tmp 2] 28 Tryz.func48 kr kr kr fun w=>?_;have H0:=St.start w;refine rS [.v] H0 kr fun gs1 w1 H1=>?_;clear H0;refine zi [0,1,2,3,4] kr kr<|rp [.v,.v,.E (.int .i64 (IntKind.i64.wrap (2*(ByteArray.size s:Int)))) (.int .i64 ((2*(ByteArray.size s):Nat):Int)) (ze (qB (a:=2) (b:=ByteArray.size s) (by omega)))] H1 kr fun gs2 w2 H2=>wX [3,4] ?_;clear H1;refine ziz H2 (some 8) 80 5 1 (.int .u8 0) (.const (.int .i64 0)) (.tmp 7) .i64 .i64 0 (2*(ByteArray.size s)) kr kr kr kr rfl kr kr (by omega) (by omega) (by unfold maxLen;omega) ?_;intro b_1 cur_2 w3 H3 hr_3;clear H2;have hr_3z:Rw 1 cur_2 (2*(ByteArray.size s)) (0) (cellsB ([]:List UInt8)):=hr_3;refine rp [.v] H3 kr fun gs4 w4 H4=>wX [] ?_;clear H3;refine zd<|zc kr<|rS [.v,.v,.v] H4 kr fun gs5 w5 H5=>?_;clear H4;refine zj 0 kr ?_;have HL1:St w.heap.size w w5 [(b_1,Obj.cells cur_2 5 (0,0))]:=H5.as kr;clear H5;refine zz kr (fun mz ρ ww=> ∃(b:Nat) (cap:Nat) (n:Nat) (cur:Array Value) (i:Nat),ByteArray.size s-i=mz∧(n=2*i)∧(Rw 1 cur cap n (cellsB (hv (List.take i (tl s)))))∧(i≤ByteArray.size s)∧St w.heap.size w ww [(b,Obj.cells cur 5 (0,0))]∧Is [(0,.string s),(2,.string (⟨#[]⟩)),(3,.slice (some ⟨b,0,none⟩) n cap),(10,.int .i64 (ByteArray.size s:Int)),(11,.int .i64 (i:Int))] ρ) (ByteArray.size s-0) ⟨b_1,2*(ByteArray.size s),0,cur_2,0,rfl,rfl,hr_3z,(by omega),HL1,(Is.of ⟨kr,kr,kr,kr,kr,trivial⟩)⟩ ?_;clear HL1;rintro _ _ w6 ⟨b,cap,n,cur,i,rfl,hn,hr,hi,H6,_,rfl⟩;by_cases hc2:(i:Nat)<ByteArray.size s
 ·refine rS [.E (.bool (decide ((i:Int)<(ByteArray.size s:Int)))) (.bool true) (za (decide_eq_true (by omega)))] H6 kr fun gs7 w7 H7=>?_;clear H6;refine zc kr<|zg kr kr<|zh kr<|wW<|zc kr<|zj 1 kr<|rS [.v,.v] H7 kr fun gs8 w8 H8=>?_;clear H7;have HL3:St w.heap.size w w8 [(b,Obj.cells cur 5 (0,0))]:=H8.as kr;clear H8;refine D2.g_draw0 [0,1,2,3,4,5,6,7,8,9,10,11] [((some 14),fun _=>.slice (some ⟨b,0,none⟩) n cap),((some 15),fun _=>.string s),((some 16),fun _=>.int .i64 (i:Int)),((some 17),fun _=>.int .u8 (BitVec.toNat (UInt8.toBitVec (List.getD (tl s) i 0)):Int)),((some 18),fun _=>.int .u8 (BitVec.toNat ((UInt8.toBitVec (List.getD (tl s) i 0)) >>> 4):Int)),((some 19),fun _=>.string s),((some 20),fun _=>.int .i64 (i:Int)),((some 21),fun _=>.int .u8 (BitVec.toNat (UInt8.toBitVec (List.getD (tl s) i 0)):Int)),((some 22),fun _=>.int .u8 (BitVec.toNat ((UInt8.toBitVec (List.getD (tl s) i 0)) &&& (15:BitVec 8)):Int)),((some 23),fun b=>.slice (some ⟨b.b,0,none⟩) 2 2),((some 24),fun y=>.slice (some ⟨y.b,0,none⟩) y.n y.cap),((some 3),fun y=>.slice (some ⟨y.b,0,none⟩) (y.n) (y.cap))] (D2.Pre w.heap.size w (fun L g=>[(true,(bif L 10 then ((g 10).b,Obj.cells ((g 10).cur) 5 (0,0)) else (b,Obj.cells cur 5 (0,0)))),(L 9,((g 9).b,Obj.cells #[.int .u8 (BitVec.toNat ((UInt8.toBitVec (List.getD (tl s) i 0)) >>> 4):Int),.int .u8 (BitVec.toNat ((UInt8.toBitVec (List.getD (tl s) i 0)) &&& (15:BitVec 8)):Int)] 5 (0,0)))]) (fun L g=>(L 10=true→((g 10).n=n+2∧Rw 1 (g 10).cur (g 10).cap (n+2) (cellsB (hv (List.take (i+1) (tl s))))))∧(L 11=true→g 11=g 10)∧True)) kr kr kr ⟨D2.StE.of HL3.drew _ kr,⟨(fun h=>nomatch h),(fun h=>nomatch h),trivial⟩⟩ ⟨?_,?_,?_,?_,?_,?_,?_,?_,?_,?_,?_,?_,trivial⟩ ?_
  ·exact D2.gv_val (fun _ _ _ h=>h) (fun g w=>by kernel_rfl)
  ·exact D2.gv_val (fun _ _ _ h=>h) (fun g w=>by kernel_rfl)
  ·exact D2.gv_val (fun _ _ _ h=>h) (fun g w=>by kernel_rfl)
  ·exact D2.gv_op (fun _ _ _ h=>h) _ (fun g=>by kernel_rfl) (fun g=>(fun o w ho=>zQ (t:=9) (kd:=.i64) kr (x:=(.tmp 15)) (y:=(.tmp 16)) s i ho kr kr (by omega) w))
  ·exact D2.gv_valE (fun _ _ _ h=>h) (V':=.int .u8 (Int.fdiv ((BitVec.toNat (UInt8.toBitVec (List.getD (tl s) i 0)):Int)) (2^(min 4 8)))) (fun g w=>by kernel_rfl) (zil (UInt8.toBitVec (List.getD (tl s) i 0)) 4)
  ·exact D2.gv_val (fun _ _ _ h=>h) (fun g w=>by kernel_rfl)
  ·exact D2.gv_val (fun _ _ _ h=>h) (fun g w=>by kernel_rfl)
  ·exact D2.gv_op (fun _ _ _ h=>h) _ (fun g=>by kernel_rfl) (fun g=>(fun o w ho=>zQ (t:=9) (kd:=.i64) kr (x:=(.tmp 19)) (y:=(.tmp 20)) s i ho kr kr (by omega) w))
  ·exact D2.gv_valE (fun _ _ _ h=>h) (V':=.int .u8 (Go.bits .and .u8 ((BitVec.toNat (UInt8.toBitVec (List.getD (tl s) i 0)):Int)) (15))) (fun g w=>by kernel_rfl) (zih (UInt8.toBitVec (List.getD (tl s) i 0)) (15:BitVec 8))
  ·exact D2.gv_new (fun b=>.slice (some ⟨b,0,none⟩) 2 2) #[.int .u8 (BitVec.toNat ((UInt8.toBitVec (List.getD (tl s) i 0)) >>> 4):Int),.int .u8 (BitVec.toNat ((UInt8.toBitVec (List.getD (tl s) i 0)) &&& (15:BitVec 8)):Int)] 5 1 (fun g w=>by kernel_rfl) (fun L g b hN=>kr) (fun L g b hN hF=>hF)
  ·exact D2.gv_append 80 5 1 1 (.tmp 14) (.tmp 23) 0 1 (fun g=>b) (fun g=>(g 9).b) (fun g=>n) (fun g=>2) (fun g=>cap) (fun g=>2) (fun g=>cur) (fun g=>#[.int .u8 (BitVec.toNat ((UInt8.toBitVec (List.getD (tl s) i 0)) >>> 4):Int),.int .u8 (BitVec.toNat ((UInt8.toBitVec (List.getD (tl s) i 0)) &&& (15:BitVec 8)):Int)]) 5 (0,0) (fun g=>(cellsB (hv (List.take i (tl s))))) (fun g=>[.int .u8 (BitVec.toNat ((UInt8.toBitVec (List.getD (tl s) i 0)) >>> 4):Int),.int .u8 (BitVec.toNat ((UInt8.toBitVec (List.getD (tl s) i 0)) &&& (15:BitVec 8)):Int)]) (fun g=>by kernel_rfl) kr (fun g=>by kernel_rfl) (fun L g hN=>(by have hL10:L 10=false:=hN.1;exact D2.ent_get' (p:=true) (e:=(bif L 10 then ((g 10).b,Obj.cells ((g 10).cur) 5 (0,0)) else (b,Obj.cells cur 5 (0,0)))) kr (by rfl) (by simp only [hL10,cond_true,cond_false]<;>rfl))) (fun L g hN hF=>by exact hr) (fun g=>by kernel_rfl) (fun L g hN=>(by have hL9:L 9=true:=(hN.bef 9 kr);exact D2.ent_get' (p:=L 9) (e:=((g 9).b,Obj.cells #[.int .u8 (BitVec.toNat ((UInt8.toBitVec (List.getD (tl s) i 0)) >>> 4):Int),.int .u8 (BitVec.toNat ((UInt8.toBitVec (List.getD (tl s) i 0)) &&& (15:BitVec 8)):Int)] 5 (0,0))) kr (by exact hL9) (by simp only [hL9,cond_true,cond_false]<;>rfl))) (fun L g hN hF=>by exact ⟨(by rfl),(by rfl),(by intro u hu;simp at hu;first | exact hu.elim | (rcases hu with rfl | rfl | rfl | rfl<;>rfl) | (rcases hu with rfl | rfl<;>rfl) | (subst hu;rfl)),(by omega),(by unfold maxLen;omega)⟩) (fun L g y hN=>kr) (fun L g y hN hF hyn hyr=>by have hnew:=(show (y.n=n+2∧Rw 1 y.cur y.cap (n+2) (cellsB (hv (List.take (i+1) (tl s))))) from ⟨hyn,by rw [ze3 (tl s) i (by rw [zy];omega),xR,←zkl];exact hyr⟩);exact ⟨fun _=>hnew,(fun hx=>nomatch (Eq.trans (Eq.symm (show L 11=true from hx)) (hN.post 11 kr))),trivial⟩)
  ·exact D2.gv_valG (fun g=>g 10) (fun L g w hN hp=>⟨hp.1,hp.2.1,fun _=>rfl,trivial⟩) (fun g w=>by kernel_rfl)
  intro L0 G9 w9 hall HL;clear HL3;have H9:St w.heap.size w w9 [((G9 10).b,Obj.cells ((G9 10).cur) 5 (0,0)),((G9 9).b,Obj.cells #[.int .u8 (BitVec.toNat ((UInt8.toBitVec (List.getD (tl s) i 0)) >>> 4):Int),.int .u8 (BitVec.toNat ((UInt8.toBitVec (List.getD (tl s) i 0)) &&& (15:BitVec 8)):Int)] 5 (0,0))]:=by have e9:=hall 9 (Nat.le_of_ble_eq_true kr);have e10:=hall 10 (Nat.le_of_ble_eq_true kr);have e11:=hall 11 (Nat.le_of_ble_eq_true kr);have hS:=D2.StE.st HL.1;simp only [e9,e10,e11,cond_true,D2.pres] at hS;exact hS
  have hf10_9:((G9 10).n=n+2∧Rw 1 (G9 10).cur (G9 10).cap (n+2) (cellsB (hv (List.take (i+1) (tl s))))):=HL.2.1 (hall 10 (Nat.le_of_ble_eq_true kr));have hf11_9:G9 11=G9 10:=HL.2.2.1 (hall 11 (Nat.le_of_ble_eq_true kr));clear HL hall;rw [←hf11_9] at H9 hf10_9;refine wW<|zJ [0,2,3,4,10,11,12] fun ρ1=>rL [.E (.int .i64 (IntKind.i64.wrap ((i:Int)+1))) (.int .i64 ((i+1:Nat):Int)) (ze (zm (a:=i) (b:=1) (by omega))),.v] H9 kr fun gs10 w10 H10=>?_;clear H9;have HL4:St w.heap.size w w10 [((G9 11).b,Obj.cells ((G9 11).cur) 5 (0,0)),((G9 9).b,Obj.cells #[.int .u8 (BitVec.toNat ((UInt8.toBitVec (List.getD (tl s) i 0)) >>> 4):Int),.int .u8 (BitVec.toNat ((UInt8.toBitVec (List.getD (tl s) i 0)) &&& (15:BitVec 8)):Int)] 5 (0,0))]:=H10.as kr;clear H10;have HD5:St w.heap.size w w10 [((G9 11).b,Obj.cells ((G9 11).cur) 5 (0,0))]:=HL4.sub (List.Sublist.cons_cons _ (List.Sublist.cons _ List.Sublist.slnil));show ∃m,_∧_;exact ⟨_,(by omega),(G9 11).b,(G9 11).cap,(G9 11).n,(G9 11).cur,(i+1),rfl,(by have h9:=hf10_9.1;omega),(by have h9:=hf10_9;rw [h9.1];exact h9.2),(by omega),HD5,(Is.of ⟨kr,kr,kr,kr,kr,trivial⟩)⟩
 ·refine rS [.E (.bool (decide ((i:Int)<(ByteArray.size s:Int)))) (.bool false) (za (decide_eq_false (by omega)))] H6 kr fun gs11 w11 H11=>?_;clear H6;refine zc kr<|zf kr kr<|zw 0 kr<|wW<|zi [0,1,2] kr kr<|rp [.v] H11 kr fun gs12 w12 H12=>wX [1,2] ?_;clear H11;refine kw H12 (some 27) 80 9 5 (.tmp 26) 0 b n cap cur 5 (0,0) (hv (List.take i (tl s))) kr kr kr kr kr kr kr hr<|rp [.v] H12 kr fun gs13 w13 H13=>wX [] ?_;clear H12;refine zd<|zn kr<|wV ?_;refine ⟨[.string (zb (hv (List.take i (tl s))))],(.tmp (.string (zb (hv (List.take i (tl s))))) kr .nil),?_,H13.below⟩;obtain rfl:i=ByteArray.size s:=by omega
  rw [List.take_of_length_le (show (tl s).length≤ByteArray.size s by rw [zy];omega)];rfl
theorem zkq (s:ByteArray)(hs:ByteArray.size s≤0xe8d4a51000):Fn Tryz.prog 85 #[.string s] (.string (zb (hv (tl s)))):=by
 refine Fn.intro (c:=zl Tryz.f85) [.tmp 2] 25 Tryz.func85 kr kr kr fun w=>?_;have H0:=St.start w;refine rS [.v] H0 kr fun gs1 w1 H1=>?_;clear H0;refine rS [.nw (fun b=>.slice (some ⟨b,0,none⟩) 0 0) #[] 5,.v] H1 kr fun gs2 w2 H2=>?_;clear H1;refine zc kr<|rS [.v] H2 kr fun gs3 w3 H3=>?_;clear H2;refine zj 0 kr ?_;have HL1:St w.heap.size w w3 [((gs2 0).b,Obj.cells #[] 5 (0,0))]:=H3.as kr;clear H3;refine zz kr (fun mz ρ ww=> ∃(b:Nat) (cap:Nat) (n:Nat) (cur:Array Value) (i:Nat),ByteArray.size s-i=mz∧(n=2*i)∧(Rw 1 cur cap n (cellsB (hv (List.take i (tl s)))))∧(i≤ByteArray.size s)∧St w.heap.size w ww [(b,Obj.cells cur 5 (0,0))]∧Is [(0,.string s),(2,.string (⟨#[]⟩)),(3,.slice (some ⟨b,0,none⟩) n cap),(4,.int .i64 (i:Int))] ρ) (ByteArray.size s-0) ⟨(gs2 0).b,0,0,#[],0,rfl,rfl,(Rw.lit #[] 0 rfl (by unfold maxLen;omega)),(by omega),HL1,(Is.of ⟨kr,kr,kr,kr,trivial⟩)⟩ ?_;clear HL1;rintro _ _ w4 ⟨b,cap,n,cur,i,rfl,hn,hr,hi,H4,_,rfl⟩;refine zc kr<|zi [0,1,2,3] kr kr<|rp [.v,.v,.v] H4 kr fun gs5 w5 H5=>wX [3] ?_;clear H4;by_cases hc2:(i:Nat)<ByteArray.size s
 ·refine rp [.E (.bool (decide ((i:Int)<(ByteArray.size s:Int)))) (.bool true) (za (decide_eq_true (by omega)))] H5 kr fun gs6 w6 H6=>wX [] ?_;clear H5;refine zd<|zg kr kr<|zh kr<|wW<|zc kr<|zj 1 kr ?_;have HL3:St w.heap.size w w6 [(b,Obj.cells cur 5 (0,0))]:=H6.as kr;clear H6;refine D2.g_draw0 [0,1,2,3,4,5,6,7,8,9,10,11] [((some 12),fun _=>.slice (some ⟨b,0,none⟩) n cap),((some 13),fun _=>.string s),((some 14),fun _=>.int .i64 (i:Int)),((some 15),fun _=>.int .u8 (BitVec.toNat (UInt8.toBitVec (List.getD (tl s) i 0)):Int)),((some 16),fun _=>.int .u8 (BitVec.toNat ((UInt8.toBitVec (List.getD (tl s) i 0)) / (16:BitVec 8)):Int)),((some 17),fun _=>.string s),((some 18),fun _=>.int .i64 (i:Int)),((some 19),fun _=>.int .u8 (BitVec.toNat (UInt8.toBitVec (List.getD (tl s) i 0)):Int)),((some 20),fun _=>.int .u8 (BitVec.toNat ((UInt8.toBitVec (List.getD (tl s) i 0))%(16:BitVec 8)):Int)),((some 21),fun b=>.slice (some ⟨b.b,0,none⟩) 2 2),((some 22),fun y=>.slice (some ⟨y.b,0,none⟩) y.n y.cap),((some 3),fun y=>.slice (some ⟨y.b,0,none⟩) (y.n) (y.cap))] (D2.Pre w.heap.size w (fun L g=>[(true,(bif L 10 then ((g 10).b,Obj.cells ((g 10).cur) 5 (0,0)) else (b,Obj.cells cur 5 (0,0)))),(L 9,((g 9).b,Obj.cells #[.int .u8 (BitVec.toNat ((UInt8.toBitVec (List.getD (tl s) i 0)) / (16:BitVec 8)):Int),.int .u8 (BitVec.toNat ((UInt8.toBitVec (List.getD (tl s) i 0))%(16:BitVec 8)):Int)] 5 (0,0)))]) (fun L g=>(L 10=true→((g 10).n=n+2∧Rw 1 (g 10).cur (g 10).cap (n+2) (cellsB (hv (List.take (i+1) (tl s))))))∧(L 11=true→g 11=g 10)∧True)) kr kr kr ⟨D2.StE.of HL3.drew _ kr,⟨(fun h=>nomatch h),(fun h=>nomatch h),trivial⟩⟩ ⟨?_,?_,?_,?_,?_,?_,?_,?_,?_,?_,?_,?_,trivial⟩ ?_
  ·exact D2.gv_val (fun _ _ _ h=>h) (fun g w=>by kernel_rfl)
  ·exact D2.gv_val (fun _ _ _ h=>h) (fun g w=>by kernel_rfl)
  ·exact D2.gv_val (fun _ _ _ h=>h) (fun g w=>by kernel_rfl)
  ·exact D2.gv_op (fun _ _ _ h=>h) _ (fun g=>by kernel_rfl) (fun g=>(fun o w ho=>zQ (t:=9) (kd:=.i64) kr (x:=(.tmp 13)) (y:=(.tmp 14)) s i ho kr kr (by omega) w))
  ·exact D2.gv_valE (fun _ _ _ h=>h) (V':=.int .u8 (IntKind.u8.wrap (Int.tdiv ((BitVec.toNat (UInt8.toBitVec (List.getD (tl s) i 0)):Int)) (16)))) (fun g w=>by kernel_rfl) (zim (UInt8.toBitVec (List.getD (tl s) i 0)) (16:BitVec 8))
  ·exact D2.gv_val (fun _ _ _ h=>h) (fun g w=>by kernel_rfl)
  ·exact D2.gv_val (fun _ _ _ h=>h) (fun g w=>by kernel_rfl)
  ·exact D2.gv_op (fun _ _ _ h=>h) _ (fun g=>by kernel_rfl) (fun g=>(fun o w ho=>zQ (t:=9) (kd:=.i64) kr (x:=(.tmp 17)) (y:=(.tmp 18)) s i ho kr kr (by omega) w))
  ·exact D2.gv_valE (fun _ _ _ h=>h) (V':=.int .u8 (Int.tmod ((BitVec.toNat (UInt8.toBitVec (List.getD (tl s) i 0)):Int)) (16))) (fun g w=>by kernel_rfl) (zin (UInt8.toBitVec (List.getD (tl s) i 0)) (16:BitVec 8))
  ·exact D2.gv_new (fun b=>.slice (some ⟨b,0,none⟩) 2 2) #[.int .u8 (BitVec.toNat ((UInt8.toBitVec (List.getD (tl s) i 0)) / (16:BitVec 8)):Int),.int .u8 (BitVec.toNat ((UInt8.toBitVec (List.getD (tl s) i 0))%(16:BitVec 8)):Int)] 5 1 (fun g w=>by kernel_rfl) (fun L g b hN=>kr) (fun L g b hN hF=>hF)
  ·exact D2.gv_append 80 5 1 1 (.tmp 12) (.tmp 21) 0 1 (fun g=>b) (fun g=>(g 9).b) (fun g=>n) (fun g=>2) (fun g=>cap) (fun g=>2) (fun g=>cur) (fun g=>#[.int .u8 (BitVec.toNat ((UInt8.toBitVec (List.getD (tl s) i 0)) / (16:BitVec 8)):Int),.int .u8 (BitVec.toNat ((UInt8.toBitVec (List.getD (tl s) i 0))%(16:BitVec 8)):Int)]) 5 (0,0) (fun g=>(cellsB (hv (List.take i (tl s))))) (fun g=>[.int .u8 (BitVec.toNat ((UInt8.toBitVec (List.getD (tl s) i 0)) / (16:BitVec 8)):Int),.int .u8 (BitVec.toNat ((UInt8.toBitVec (List.getD (tl s) i 0))%(16:BitVec 8)):Int)]) (fun g=>by kernel_rfl) kr (fun g=>by kernel_rfl) (fun L g hN=>(by have hL10:L 10=false:=hN.1;exact D2.ent_get' (p:=true) (e:=(bif L 10 then ((g 10).b,Obj.cells ((g 10).cur) 5 (0,0)) else (b,Obj.cells cur 5 (0,0)))) kr (by rfl) (by simp only [hL10,cond_true,cond_false]<;>rfl))) (fun L g hN hF=>by exact hr) (fun g=>by kernel_rfl) (fun L g hN=>(by have hL9:L 9=true:=(hN.bef 9 kr);exact D2.ent_get' (p:=L 9) (e:=((g 9).b,Obj.cells #[.int .u8 (BitVec.toNat ((UInt8.toBitVec (List.getD (tl s) i 0)) / (16:BitVec 8)):Int),.int .u8 (BitVec.toNat ((UInt8.toBitVec (List.getD (tl s) i 0))%(16:BitVec 8)):Int)] 5 (0,0))) kr (by exact hL9) (by simp only [hL9,cond_true,cond_false]<;>rfl))) (fun L g hN hF=>by exact ⟨(by rfl),(by rfl),(by intro u hu;simp at hu;first | exact hu.elim | (rcases hu with rfl | rfl | rfl | rfl<;>rfl) | (rcases hu with rfl | rfl<;>rfl) | (subst hu;rfl)),(by omega),(by unfold maxLen;omega)⟩) (fun L g y hN=>kr) (fun L g y hN hF hyn hyr=>by have hnew:=(show (y.n=n+2∧Rw 1 y.cur y.cap (n+2) (cellsB (hv (List.take (i+1) (tl s))))) from ⟨hyn,by rw [ze3 (tl s) i (by rw [zy];omega),xR,←zkm];exact hyr⟩);exact ⟨fun _=>hnew,(fun hx=>nomatch (Eq.trans (Eq.symm (show L 11=true from hx)) (hN.post 11 kr))),trivial⟩)
  ·exact D2.gv_valG (fun g=>g 10) (fun L g w hN hp=>⟨hp.1,hp.2.1,fun _=>rfl,trivial⟩) (fun g w=>by kernel_rfl)
  intro L0 G7 w7 hall HL;clear HL3;have H7:St w.heap.size w w7 [((G7 10).b,Obj.cells ((G7 10).cur) 5 (0,0)),((G7 9).b,Obj.cells #[.int .u8 (BitVec.toNat ((UInt8.toBitVec (List.getD (tl s) i 0)) / (16:BitVec 8)):Int),.int .u8 (BitVec.toNat ((UInt8.toBitVec (List.getD (tl s) i 0))%(16:BitVec 8)):Int)] 5 (0,0))]:=by have e9:=hall 9 (Nat.le_of_ble_eq_true kr);have e10:=hall 10 (Nat.le_of_ble_eq_true kr);have e11:=hall 11 (Nat.le_of_ble_eq_true kr);have hS:=D2.StE.st HL.1;simp only [e9,e10,e11,cond_true,D2.pres] at hS;exact hS
  have hf10_7:((G7 10).n=n+2∧Rw 1 (G7 10).cur (G7 10).cap (n+2) (cellsB (hv (List.take (i+1) (tl s))))):=HL.2.1 (hall 10 (Nat.le_of_ble_eq_true kr));have hf11_7:G7 11=G7 10:=HL.2.2.1 (hall 11 (Nat.le_of_ble_eq_true kr));clear HL hall;rw [←hf11_7] at H7 hf10_7;refine wW<|zJ [0,2,3,4,9] fun ρ1=>rL [.v,.E (.int .i64 (IntKind.i64.wrap ((i:Int)+1))) (.int .i64 ((i+1:Nat):Int)) (ze (zm (a:=i) (b:=1) (by omega))),.v] H7 kr fun gs8 w8 H8=>?_;clear H7;have HL4:St w.heap.size w w8 [((G7 11).b,Obj.cells ((G7 11).cur) 5 (0,0)),((G7 9).b,Obj.cells #[.int .u8 (BitVec.toNat ((UInt8.toBitVec (List.getD (tl s) i 0)) / (16:BitVec 8)):Int),.int .u8 (BitVec.toNat ((UInt8.toBitVec (List.getD (tl s) i 0))%(16:BitVec 8)):Int)] 5 (0,0))]:=H8.as kr;clear H8;have HD5:St w.heap.size w w8 [((G7 11).b,Obj.cells ((G7 11).cur) 5 (0,0))]:=HL4.sub (List.Sublist.cons_cons _ (List.Sublist.cons _ List.Sublist.slnil));show ∃m,_∧_;exact ⟨_,(by omega),(G7 11).b,(G7 11).cap,(G7 11).n,(G7 11).cur,(i+1),rfl,(by have h9:=hf10_7.1;omega),(by have h9:=hf10_7;rw [h9.1];exact h9.2),(by omega),HD5,(Is.of ⟨kr,kr,kr,kr,trivial⟩)⟩
 ·refine rp [.E (.bool (decide ((i:Int)<(ByteArray.size s:Int)))) (.bool false) (za (decide_eq_false (by omega)))] H5 kr fun gs9 w9 H9=>wX [] ?_;clear H5;refine zd<|zf kr kr<|zw 0 kr<|wW<|zi [0,1,2] kr kr<|rp [.v] H9 kr fun gs10 w10 H10=>wX [1,2] ?_;clear H9;refine kw H10 (some 24) 80 9 5 (.tmp 23) 0 b n cap cur 5 (0,0) (hv (List.take i (tl s))) kr kr kr kr kr kr kr hr<|rp [.v] H10 kr fun gs11 w11 H11=>wX [] ?_;clear H10;refine zd<|zn kr<|wV ?_;refine ⟨[.string (zb (hv (List.take i (tl s))))],(.tmp (.string (zb (hv (List.take i (tl s))))) kr .nil),?_,H11.below⟩;obtain rfl:i=ByteArray.size s:=by omega
  rw [List.take_of_length_le (show (tl s).length≤ByteArray.size s by rw [zy];omega)];rfl
theorem ze9 (s:ByteArray)(hs:ByteArray.size s≤0xe8d4a51000):Fn Tryz.prog 139 #[.string s] (.bool (isP (tl s))):=by
 refine Fn.intro (c:=zl Tryz.f139) [.tmp 2] 14 Tryz.func139 kr kr kr fun w=>?_;have H0:=St.start w;refine rS [.v] H0 kr fun gs1 w1 H1=>?_;clear H0;refine zc kr<|rS [.v,.v,.v] H1 kr fun gs2 w2 H2=>?_;clear H1;refine zj 0 kr ?_;have HL1:St w.heap.size w w2 []:=H2.as kr;clear H2;refine zz kr (fun mz ρ ww=> ∃(i:Nat),ByteArray.size s-i=mz∧(i≤ByteArray.size s)∧(isP (List.take i (tl s))=true)∧St w.heap.size w ww []∧Is [(0,.string s),(5,.int .i64 (ByteArray.size s:Int)),(6,.int .i64 (i:Int))] ρ) (ByteArray.size s-0) ⟨0,rfl,(by omega),rfl,HL1,(Is.of ⟨kr,kr,kr,trivial⟩)⟩ ?_;clear HL1;rintro _ _ w3 ⟨i,rfl,hi,hp,H3,_,rfl⟩;by_cases hc2:(i:Nat)<ByteArray.size s
 ·refine rS [.E (.bool (decide ((i:Int)<(ByteArray.size s:Int)))) (.bool true) (za (decide_eq_true (by omega)))] H3 kr fun gs4 w4 H4=>?_;clear H3;refine zc kr<|zg kr kr<|zh kr<|wW<|zc kr<|zj 1 kr<|rS [.v,.v] H4 kr fun gs5 w5 H5=>?_;clear H4;refine zi [0,1,2,3] kr kr<|rp [.v,.v,.o (ins:=[((.tmp 9),.string s),((.tmp 10),.int .i64 (i:Int))]) (v:=.int .u8 ((by_ s i:Nat):Int)) (fun ρ o w ho hi=>zQ (t:=9) (kd:=.i64) kr (x:=(.tmp 9)) (y:=(.tmp 10)) s i ho hi.1 hi.2.1 (by omega) w)] H5 kr fun gs6 w6 H6=>wX [3] ?_;clear H5;by_cases hc3:(by_ s i:Nat)>15
  ·refine rp [.E (.bool (decide (15<((by_ s i:Nat):Int)))) (.bool true) (za (decide_eq_true (by omega)))] H6 kr fun gs7 w7 H7=>wX [] ?_;clear H6;refine zd<|zg kr kr<|rS [.v] H7 kr fun gs8 w8 H8=>?_;clear H7;refine zn kr<|wV ?_;refine ⟨[.bool false],(.tmp (.bool false) kr .nil),?_,H8.below⟩;exact za (zki (l:=tl s) (i:=i) (by rw [zy];omega) (show ¬by_ s i≤15 by omega)).symm
  ·refine rp [.E (.bool (decide (15<((by_ s i:Nat):Int)))) (.bool false) (za (decide_eq_false (by omega)))] H6 kr fun gs9 w9 H9=>wX [] ?_;clear H6;refine zd<|zf kr kr<|zh kr<|wW<|rL [.E (.int .i64 (IntKind.i64.wrap ((i:Int)+1))) (.int .i64 ((i+1:Nat):Int)) (ze (zm (a:=i) (b:=1) (by omega))),.v] H9 kr fun gs10 w10 H10=>?_;clear H9;have HL4:St w.heap.size w w10 []:=H10.as kr;clear H10;show ∃m,_∧_;exact ⟨_,(by omega),(i+1),rfl,(by omega),(by rw [zkh (by rw [zy];omega),hp];exact decide_eq_true (show by_ s i≤15 by omega)),HL4,(Is.of ⟨kr,kr,kr,trivial⟩)⟩
 ·refine rS [.E (.bool (decide ((i:Int)<(ByteArray.size s:Int)))) (.bool false) (za (decide_eq_false (by omega)))] H3 kr fun gs11 w11 H11=>?_;clear H3;refine zc kr<|zf kr kr<|zw 0 kr<|wW<|rS [.v] H11 kr fun gs12 w12 H12=>?_;clear H11;refine zn kr<|wV ?_;refine ⟨[.bool true],(.tmp (.bool true) kr .nil),?_,H12.below⟩;obtain rfl:i=ByteArray.size s:=by omega
  rw [List.take_of_length_le (show (tl s).length≤ByteArray.size s by rw [zy];omega)] at hp;exact za hp.symm
theorem zbW (n:Nat)(hn:n≤0x7fffffffffffffff):Fn Tryz.prog 146 #[.int .i64 (n:Int)] (.bool (decide (n%2=1))):=by
 refine Fn.intro (c:=zl Tryz.f146) [.tmp 2] 6 Tryz.func146 kr kr kr fun w=>?_;have H0:=St.start w;refine rS [.v] H0 kr fun gs1 w1 H1=>?_;clear H0;refine zi [0,1,2,3] kr kr<|rp [.v,.E (.int .i64 (Int.tmod (n:Int) 2)) (.int .i64 ((n%2:Nat):Int)) (ze (qL n 2))] H1 kr fun gs2 w2 H2=>wX [2,3] ?_;clear H1;by_cases hc1:(n%2:Nat)=1
 ·refine rp [.E (.bool (((n%2:Nat):Int)==1)) (.bool true) (za (beq_iff_eq.2 (by omega))),.v] H2 kr fun gs3 w3 H3=>wX [] ?_;clear H2;refine zd<|zn kr<|wV ?_;refine ⟨[.bool true],(.tmp (.bool true) kr .nil),?_,H3.below⟩;exact za (decide_eq_true (by omega)).symm
 ·refine rp [.E (.bool (((n%2:Nat):Int)==1)) (.bool false) (za (beq_eq_false_iff_ne.2 (by omega))),.v] H2 kr fun gs4 w4 H4=>wX [] ?_;clear H2;refine zd<|zn kr<|wV ?_;refine ⟨[.bool false],(.tmp (.bool false) kr .nil),?_,H4.below⟩;exact za (decide_eq_false (by omega)).symm
theorem zkr (n:Nat)(e:Bool)(hn:n≤0x7fffffffffffffff):Fn Tryz.prog 141 #[.int .i64 (n:Int),.bool e] (.string (zb (hdP n e))):=by
 refine Fn.intro (c:=zl Tryz.f141) [.tmp 4] 16 Tryz.func141 kr kr kr fun w=>?_;have H0:=St.start w;refine rS [.v] H0 kr fun gs1 w1 H1=>?_;clear H0;refine rS [.v] H1 kr fun gs2 w2 H2=>?_;clear H1;refine zc kr<|rS [.v] H2 kr fun gs3 w3 H3=>?_;clear H2;refine Or.elim (Bool.eq_false_or_eq_true (e)).symm (fun hq1=>?_) (fun hq1=>?_)
 ·refine zZ 1 (v:=.bool e) (v':=.bool false) (za hq1) kr<|zZ 6 (v:=.bool e) (v':=.bool false) (za hq1) kr<|zf kr kr<|zh kr<|wW<|zc kr<|rS [.v,.c (zbW n (by omega))] H3 kr fun gs4 w4 H4=>?_;clear H3;refine Or.elim (Bool.eq_false_or_eq_true (decide (n%2=1))).symm (fun hq2=>?_) (fun hq2=>?_)
  ·refine zZ 8 (v:=.bool (decide (n%2=1))) (v':=.bool false) (za hq2) kr<|zf kr kr<|zh kr<|wW<|rS [.v,.nw (fun b=>.slice (some ⟨b,0,none⟩) 2 2) #[.int .u8 0,.int .u8 0] 5,.w fun nn=>.x (op:=.convert 80 9 (.tmp 14)) (ins:=[((.tmp 14),.slice (some ⟨(nn 0),0,none⟩) 2 2)]) [(0,((nn 0),Obj.cells #[.int .u8 0,.int .u8 0] 5 (0,0)))] (qM (t:=80) (t':=9) (e:=5) [0,0] kr kr kr (Rw.lit #[.int .u8 0,.int .u8 0] 2 (by rfl) (by unfold maxLen;omega))),.v] H4 kr fun gs5 w5 H5=>?_;clear H4;refine zn kr<|wV ?_;refine ⟨[.string (strOfNums ([0,0]))],(.tmp (.string (strOfNums ([0,0]))) kr .nil),?_,H5.below⟩;rw [hdP,if_neg (of_decide_eq_false hq2),hq1];rfl
  ·refine zZ 8 (v:=.bool (decide (n%2=1))) (v':=.bool true) (za hq2) kr<|zg kr kr<|rS [.v,.v,.nw (fun b=>.slice (some ⟨b,0,none⟩) 1 1) #[.int .u8 1] 5,.w fun nn=>.x (op:=.convert 80 9 (.tmp 11)) (ins:=[((.tmp 11),.slice (some ⟨(nn 0),0,none⟩) 1 1)]) [(0,((nn 0),Obj.cells #[.int .u8 1] 5 (0,0)))] (qM (t:=80) (t':=9) (e:=5) [1] kr kr kr (Rw.lit #[.int .u8 1] 1 (by rfl) (by unfold maxLen;omega))),.v] H4 kr fun gs6 w6 H6=>?_;clear H4;refine zn kr<|wV ?_;refine ⟨[.string (strOfNums ([1]))],(.tmp (.string (strOfNums ([1]))) kr .nil),?_,H6.below⟩;rw [hdP,if_pos (of_decide_eq_true hq2),hq1];rfl
 ·refine zZ 1 (v:=.bool e) (v':=.bool true) (za hq1) kr<|zZ 6 (v:=.bool e) (v':=.bool true) (za hq1) kr<|zg kr kr<|rL [.v] H3 kr fun gs7 w7 H7=>?_;clear H3;refine wW<|zc kr<|rS [.v,.c (zbW n (by omega))] H7 kr fun gs8 w8 H8=>?_;clear H7;refine Or.elim (Bool.eq_false_or_eq_true (decide (n%2=1))).symm (fun hq3=>?_) (fun hq3=>?_)
  ·refine zZ 8 (v:=.bool (decide (n%2=1))) (v':=.bool false) (za hq3) kr<|zf kr kr<|zh kr<|wW<|rS [.v,.nw (fun b=>.slice (some ⟨b,0,none⟩) 2 2) #[.int .u8 2,.int .u8 0] 5,.w fun nn=>.x (op:=.convert 80 9 (.tmp 14)) (ins:=[((.tmp 14),.slice (some ⟨(nn 0),0,none⟩) 2 2)]) [(0,((nn 0),Obj.cells #[.int .u8 2,.int .u8 0] 5 (0,0)))] (qM (t:=80) (t':=9) (e:=5) [2,0] kr kr kr (Rw.lit #[.int .u8 2,.int .u8 0] 2 (by rfl) (by unfold maxLen;omega))),.v] H8 kr fun gs9 w9 H9=>?_;clear H8;refine zn kr<|wV ?_;refine ⟨[.string (strOfNums ([2,0]))],(.tmp (.string (strOfNums ([2,0]))) kr .nil),?_,H9.below⟩;rw [hdP,if_neg (of_decide_eq_false hq3),hq1];rfl
  ·refine zZ 8 (v:=.bool (decide (n%2=1))) (v':=.bool true) (za hq3) kr<|zg kr kr<|rS [.v,.v,.nw (fun b=>.slice (some ⟨b,0,none⟩) 1 1) #[.int .u8 3] 5,.w fun nn=>.x (op:=.convert 80 9 (.tmp 11)) (ins:=[((.tmp 11),.slice (some ⟨(nn 0),0,none⟩) 1 1)]) [(0,((nn 0),Obj.cells #[.int .u8 3] 5 (0,0)))] (qM (t:=80) (t':=9) (e:=5) [3] kr kr kr (Rw.lit #[.int .u8 3] 1 (by rfl) (by unfold maxLen;omega))),.v] H8 kr fun gs10 w10 H10=>?_;clear H8;refine zn kr<|wV ?_;refine ⟨[.string (strOfNums ([3]))],(.tmp (.string (strOfNums ([3]))) kr .nil),?_,H10.below⟩;rw [hdP,if_pos (of_decide_eq_true hq3),hq1];rfl
theorem zfa (s:ByteArray)(hs:ByteArray.size s≤0xe8d4a51000):Fn Tryz.prog 140 #[.string s] (.string (zb (jn (tl s)))):=by
 refine Fn.intro (c:=zl Tryz.f140) [.tmp 2] 31 Tryz.func140 kr kr kr fun w=>?_;have H0:=St.start w;refine rS [.v] H0 kr fun gs1 w1 H1=>?_;clear H0;refine zi [0,1,2,3,4] kr kr<|rp [.v,.v,.E (.int .i64 (IntKind.i64.wrap ((ByteArray.size s:Int).tdiv 2))) (.int .i64 (((ByteArray.size s) / 2:Nat):Int)) (ze (vd (a:=ByteArray.size s) (b:=2) (by omega)))] H1 kr fun gs2 w2 H2=>wX [3,4] ?_;clear H1;refine zdQ H2 (some 8) 80 5 1 (.int .u8 0) (.tmp 7) (.tmp 7) .i64 .i64 ((ByteArray.size s) / 2) kr kr kr kr rfl kr kr (by omega) (by unfold maxLen;omega) ?_;intro b_1 cur_2 w3 H3 hr_3;clear H2;have hr_3z:Rw 1 cur_2 ((ByteArray.size s) / 2) ((ByteArray.size s) / 2) (cellsB (List.take 0 (jn (tl s))++List.replicate ((tl s).length / 2-0) 0)):=by rw [List.take_zero,List.nil_append,Nat.sub_zero,zy,zdV];exact hr_3
 refine rp [.v] H3 kr fun gs4 w4 H4=>wX [] ?_;clear H3;refine zd<|zc kr<|rS [.v,.v,.v] H4 kr fun gs5 w5 H5=>?_;clear H4;refine zj 0 kr ?_;have HL1:St w.heap.size w w5 [(b_1,Obj.cells cur_2 5 (0,0))]:=H5.as kr;clear H5;refine zz kr (fun mz ρ ww=> ∃(cur:Array Value) (i:Nat),ByteArray.size s / 2-i=mz∧(Rw 1 cur (ByteArray.size s / 2) (ByteArray.size s / 2) (cellsB (List.take i (jn (tl s))++List.replicate ((tl s).length / 2-i) 0)))∧(i≤ByteArray.size s / 2)∧St w.heap.size w ww [(b_1,Obj.cells cur 5 (0,0))]∧Is [(0,.string s),(2,.string (⟨#[]⟩)),(3,.slice (some ⟨b_1,0,none⟩) ((ByteArray.size s) / 2) ((ByteArray.size s) / 2)),(10,.int .i64 (((ByteArray.size s) / 2:Nat):Int)),(11,.int .i64 (i:Int))] ρ) (ByteArray.size s / 2-0) ⟨cur_2,0,rfl,hr_3z,(by omega),HL1,(Is.of ⟨kr,kr,kr,kr,kr,trivial⟩)⟩ ?_;clear HL1;rintro _ _ w6 ⟨cur,i,rfl,hr,hi,H6,_,rfl⟩;by_cases hc2:(i:Nat)<(ByteArray.size s) / 2
 ·refine rS [.E (.bool (decide ((i:Int)<(((ByteArray.size s) / 2:Nat):Int)))) (.bool true) (za (decide_eq_true (by omega)))] H6 kr fun gs7 w7 H7=>?_;clear H6;refine zc kr<|zg kr kr<|zh kr<|wW<|zc kr<|zj 1 kr<|rS [.v,.v] H7 kr fun gs8 w8 H8=>?_;clear H7;obtain ⟨cx,hx1,hx2,hx3⟩:=hr.putB i (UInt8.ofBitVec (UInt8.toBitVec (List.getD (tl s) (2*i) 0) <<< 4 ||| UInt8.toBitVec (List.getD (tl s) (2*i+1) 0))) (by omega);rw [zkn,zkj (tl s) i (by rw [zy];omega)] at hx3;refine dL [.v,.v,.v,.v,.E (.int .i64 (IntKind.i64.wrap (2*(i:Int)))) (.int .i64 ((2*i:Nat):Int)) (ze (qB (a:=2) (b:=i) (by omega))),.o (ins:=[((.tmp 16),.string s),((.tmp 18),.int .i64 ((2*i:Nat):Int))]) (v:=.int .u8 (BitVec.toNat (UInt8.toBitVec (List.getD (tl s) (2*i) 0)):Int)) (fun ρ o w ho hi=>zQ (t:=9) (kd:=.i64) kr (x:=(.tmp 16)) (y:=(.tmp 18)) s (2*i) ho hi.1 hi.2.1 (by omega) w),.E (.int .u8 (IntKind.u8.wrap (((BitVec.toNat (UInt8.toBitVec (List.getD (tl s) (2*i) 0)):Int))*2^(min 4 8)))) (.int .u8 (BitVec.toNat ((UInt8.toBitVec (List.getD (tl s) (2*i) 0)) <<< 4):Int)) (zik (UInt8.toBitVec (List.getD (tl s) (2*i) 0)) 4),.v,.v,.E (.int .i64 (IntKind.i64.wrap (2*(i:Int)))) (.int .i64 ((2*i:Nat):Int)) (ze (qB (a:=2) (b:=i) (by omega))),.E (.int .i64 (IntKind.i64.wrap (((2*i:Nat):Int)+1))) (.int .i64 (((2*i)+1:Nat):Int)) (ze (zm (a:=2*i) (b:=1) (by omega))),.o (ins:=[((.tmp 21),.string s),((.tmp 24),.int .i64 (((2*i)+1:Nat):Int))]) (v:=.int .u8 (BitVec.toNat (UInt8.toBitVec (List.getD (tl s) ((2*i)+1) 0)):Int)) (fun ρ o w ho hi=>zQ (t:=9) (kd:=.i64) kr (x:=(.tmp 21)) (y:=(.tmp 24)) s ((2*i)+1) ho hi.1 hi.2.1 (by omega) w),.E (.int .u8 (Go.bits .or .u8 ((BitVec.toNat ((UInt8.toBitVec (List.getD (tl s) (2*i) 0)) <<< 4):Int)) ((BitVec.toNat (UInt8.toBitVec (List.getD (tl s) ((2*i)+1) 0)):Int)))) (.int .u8 (BitVec.toNat (((UInt8.toBitVec (List.getD (tl s) (2*i) 0)) <<< 4) ||| (UInt8.toBitVec (List.getD (tl s) ((2*i)+1) 0))):Int)) (zii ((UInt8.toBitVec (List.getD (tl s) (2*i) 0)) <<< 4) (UInt8.toBitVec (List.getD (tl s) ((2*i)+1) 0))),.o (ins:=[((.tmp 14),.slice (some ⟨b_1,0,none⟩) ((ByteArray.size s) / 2) ((ByteArray.size s) / 2)),((.tmp 15),.int .i64 (i:Int))]) (v:=.pointer (some ⟨b_1,0+i*1,none⟩)) (fun ρ o w ho hi=>jL (kd:=.i64) (t:=80) (e:=5) (size:=1) (bytes:=1) kr (x:=(.tmp 14)) (y:=(.tmp 15)) b_1 0 ((ByteArray.size s) / 2) ((ByteArray.size s) / 2) i ho hi.1 hi.2.1 (by omega) w),.se (C:=cur) (C':=cx) (off:=0+i*1) (v:=.int .u8 (BitVec.toNat (((UInt8.toBitVec (List.getD (tl s) (2*i) 0)) <<< 4) ||| (UInt8.toBitVec (List.getD (tl s) ((2*i)+1) 0))):Int)) 0 hx2 hx1] H8 kr fun w9 H9=>?_;clear H8;refine wW<|zJ [0,2,3,4,10,11,12] fun ρ1=>?_;have HK3:=H9.keep;clear H9;refine rL [.E (.int .i64 (IntKind.i64.wrap ((i:Int)+1))) (.int .i64 ((i+1:Nat):Int)) (ze (zm (a:=i) (b:=1) (by omega))),.v] HK3 kr fun gs10 w10 H10=>?_;clear HK3;have HL4:St w.heap.size w w10 [(b_1,Obj.cells cx 5 (0,0))]:=H10.as kr;clear H10;show ∃m,_∧_;exact ⟨_,(by omega),cx,(i+1),rfl,hx3,(by omega),HL4,(Is.of ⟨kr,kr,kr,kr,kr,trivial⟩)⟩
 ·refine rS [.E (.bool (decide ((i:Int)<(((ByteArray.size s) / 2:Nat):Int)))) (.bool false) (za (decide_eq_false (by omega)))] H6 kr fun gs11 w11 H11=>?_;clear H6;refine zc kr<|zf kr kr<|zw 0 kr<|wW<|zi [0,1,2] kr kr<|rp [.v] H11 kr fun gs12 w12 H12=>wX [1,2] ?_;clear H11;refine kw H12 (some 30) 80 9 5 (.tmp 29) 0 b_1 ((ByteArray.size s) / 2) ((ByteArray.size s) / 2) cur 5 (0,0) (List.take i (jn (tl s))++List.replicate ((tl s).length / 2-i) 0) kr kr kr kr kr kr kr hr<|rp [.v] H12 kr fun gs13 w13 H13=>wX [] ?_;clear H12;refine zd<|zn kr<|wV ?_;refine ⟨[.string (zb (List.take i (jn (tl s))++List.replicate ((tl s).length / 2-i) 0))],(.tmp (.string (zb (List.take i (jn (tl s))++List.replicate ((tl s).length / 2-i) 0))) kr .nil),?_,H13.below⟩;obtain rfl:i=ByteArray.size s / 2:=by omega
  rw [zy,Nat.sub_self,List.replicate_zero,List.append_nil,List.take_of_length_le (show (jn (tl s)).length≤ByteArray.size s / 2 by rw [xD,zy];omega)];rfl
theorem zks (l:List UInt8)(k:Nat)(h:l.length≤2*k+1):jn (List.take (2*k) l)=jn l:=by
 rcases Nat.lt_or_ge (2*k) l.length with h2|h2
 ·have e:l.length=2*k+1:=by omega
  apply List.ext_getElem
  ·rw [xD,xD,List.length_take];omega
  ·intro i h1 h3;rw [xD,List.length_take] at h1;have g1:=uo (l.take (2*k)) i (by rw [List.length_take];omega);have g2:=uo l i (by omega);have q: ∀j,j<2*k→(l.take (2*k)).getD j 0=l.getD j 0:=fun j hj=>by
    rw [List.getD_eq_getElem?_getD,List.getD_eq_getElem?_getD,List.getElem?_take,if_pos hj]
   rw [q _ (by omega),q _ (by omega),←g2] at g1;rw [List.getD_eq_getElem?_getD,List.getD_eq_getElem?_getD,List.getElem?_eq_getElem h3,List.getElem?_eq_getElem (by rw [xD,List.length_take];omega)] at g1;exact g1
 ·rw [List.take_of_length_le h2]
theorem zkt {a b:UInt8}(ha:a.toNat≤15)(hb:b.toNat≤15):[Value.int .u8 (BitVec.toNat ((16:BitVec 8)*a.toBitVec+b.toBitVec):Int)]=cellsB [a <<< 4 ||| b]:=by
 rw [←(zke ha hb).2.2];rfl
theorem zax (s:ByteArray)(hs:ByteArray.size s≤0xe8d4a51000)(hp:isP (tl s)=true):Fn Tryz.prog 115 #[.string s] (.string (zb (jn (tl s)))):=by
 refine Fn.intro (c:=zl Tryz.f115) [.tmp 2] 27 Tryz.func115 kr kr kr fun w=>?_;have H0:=St.start w;refine rS [.v] H0 kr fun gs1 w1 H1=>?_;clear H0;refine rS [.nw (fun b=>.slice (some ⟨b,0,none⟩) 0 0) #[] 5,.v] H1 kr fun gs2 w2 H2=>?_;clear H1;refine zc kr<|rS [.v] H2 kr fun gs3 w3 H3=>?_;clear H2;refine zj 0 kr ?_;have HL1:St w.heap.size w w3 [((gs2 0).b,Obj.cells #[] 5 (0,0))]:=H3.as kr;clear H3;refine zz kr (fun mz ρ ww=> ∃(b:Nat) (cap:Nat) (n:Nat) (cur:Array Value) (k:Nat),ByteArray.size s-2*k=mz∧(n=k)∧(Rw 1 cur cap n (cellsB (jn (List.take (2*k) (tl s)))))∧(2*k≤ByteArray.size s)∧St w.heap.size w ww [(b,Obj.cells cur 5 (0,0))]∧Is [(0,.string s),(2,.string (⟨#[]⟩)),(3,.slice (some ⟨b,0,none⟩) n cap),(4,.int .i64 ((2*k:Nat):Int))] ρ) (ByteArray.size s-2*0) ⟨(gs2 0).b,0,0,#[],0,rfl,rfl,(Rw.lit #[] 0 rfl (by unfold maxLen;omega)),(by omega),HL1,(Is.of ⟨kr,kr,kr,kr,trivial⟩)⟩ ?_;clear HL1;rintro _ _ w4 ⟨b,cap,n,cur,k,rfl,hn,hr,hi,H4,_,rfl⟩;refine zc kr<|zi [0,1,2,3,4] kr kr<|rp [.v,.E (.int .i64 (IntKind.i64.wrap (((2*k:Nat):Int)+1))) (.int .i64 (((2*k)+1:Nat):Int)) (ze (zm (a:=2*k) (b:=1) (by omega))),.v,.v] H4 kr fun gs5 w5 H5=>wX [4] ?_;clear H4;by_cases hc2:((2*k)+1:Nat)<ByteArray.size s
 ·refine rp [.E (.bool (decide ((((2*k)+1:Nat):Int)<(ByteArray.size s:Int)))) (.bool true) (za (decide_eq_true (by omega)))] H5 kr fun gs6 w6 H6=>wX [] ?_;clear H5;refine zd<|zg kr kr<|zh kr<|wW<|zc kr<|zj 1 kr ?_;have HL3:St w.heap.size w w6 [(b,Obj.cells cur 5 (0,0))]:=H6.as kr;clear H6;refine D2.g_draw0 [0,1,2,3,4,5,6,7,8,9,10,11,12] [((some 13),fun _=>.slice (some ⟨b,0,none⟩) n cap),((some 14),fun _=>.string s),((some 15),fun _=>.int .i64 ((2*k:Nat):Int)),((some 16),fun _=>.int .u8 (BitVec.toNat (UInt8.toBitVec (List.getD (tl s) (2*k) 0)):Int)),((some 17),fun _=>.int .u8 (BitVec.toNat ((16:BitVec 8)*(UInt8.toBitVec (List.getD (tl s) (2*k) 0))):Int)),((some 18),fun _=>.string s),((some 19),fun _=>.int .i64 ((2*k:Nat):Int)),((some 20),fun _=>.int .i64 (((2*k)+1:Nat):Int)),((some 21),fun _=>.int .u8 (BitVec.toNat (UInt8.toBitVec (List.getD (tl s) ((2*k)+1) 0)):Int)),((some 22),fun _=>.int .u8 (BitVec.toNat (((16:BitVec 8)*(UInt8.toBitVec (List.getD (tl s) (2*k) 0)))+(UInt8.toBitVec (List.getD (tl s) ((2*k)+1) 0))):Int)),((some 23),fun b=>.slice (some ⟨b.b,0,none⟩) 1 1),((some 24),fun y=>.slice (some ⟨y.b,0,none⟩) y.n y.cap),((some 3),fun y=>.slice (some ⟨y.b,0,none⟩) (y.n) (y.cap))] (D2.Pre w.heap.size w (fun L g=>[(true,(bif L 11 then ((g 11).b,Obj.cells ((g 11).cur) 5 (0,0)) else (b,Obj.cells cur 5 (0,0)))),(L 10,((g 10).b,Obj.cells #[.int .u8 (BitVec.toNat (((16:BitVec 8)*(UInt8.toBitVec (List.getD (tl s) (2*k) 0)))+(UInt8.toBitVec (List.getD (tl s) ((2*k)+1) 0))):Int)] 5 (0,0)))]) (fun L g=>(L 11=true→((g 11).n=n+1∧Rw 1 (g 11).cur (g 11).cap (n+1) (cellsB (jn (List.take (2*(k+1)) (tl s))))))∧(L 12=true→g 12=g 11)∧True)) kr kr kr ⟨D2.StE.of HL3.drew _ kr,⟨(fun h=>nomatch h),(fun h=>nomatch h),trivial⟩⟩ ⟨?_,?_,?_,?_,?_,?_,?_,?_,?_,?_,?_,?_,?_,trivial⟩ ?_
  ·exact D2.gv_val (fun _ _ _ h=>h) (fun g w=>by kernel_rfl)
  ·exact D2.gv_val (fun _ _ _ h=>h) (fun g w=>by kernel_rfl)
  ·exact D2.gv_val (fun _ _ _ h=>h) (fun g w=>by kernel_rfl)
  ·exact D2.gv_op (fun _ _ _ h=>h) _ (fun g=>by kernel_rfl) (fun g=>(fun o w ho=>zQ (t:=9) (kd:=.i64) kr (x:=(.tmp 14)) (y:=(.tmp 15)) s (2*k) ho kr kr (by omega) w))
  ·exact D2.gv_valE (fun _ _ _ h=>h) (V':=.int .u8 (IntKind.u8.wrap ((16)*((BitVec.toNat (UInt8.toBitVec (List.getD (tl s) (2*k) 0)):Int))))) (fun g w=>by kernel_rfl) (zij (16:BitVec 8) (UInt8.toBitVec (List.getD (tl s) (2*k) 0)))
  ·exact D2.gv_val (fun _ _ _ h=>h) (fun g w=>by kernel_rfl)
  ·exact D2.gv_val (fun _ _ _ h=>h) (fun g w=>by kernel_rfl)
  ·exact D2.gv_valE (fun _ _ _ h=>h) (V':=.int .i64 (IntKind.i64.wrap (((2*k:Nat):Int)+1))) (fun g w=>by kernel_rfl) (ze (zm (a:=2*k) (b:=1) (by omega)))
  ·exact D2.gv_op (fun _ _ _ h=>h) _ (fun g=>by kernel_rfl) (fun g=>(fun o w ho=>zQ (t:=9) (kd:=.i64) kr (x:=(.tmp 18)) (y:=(.tmp 20)) s ((2*k)+1) ho kr kr (by omega) w))
  ·exact D2.gv_valE (fun _ _ _ h=>h) (V':=.int .u8 (IntKind.u8.wrap (((BitVec.toNat ((16:BitVec 8)*(UInt8.toBitVec (List.getD (tl s) (2*k) 0))):Int))+((BitVec.toNat (UInt8.toBitVec (List.getD (tl s) ((2*k)+1) 0)):Int))))) (fun g w=>by kernel_rfl) (vf ((16:BitVec 8)*(UInt8.toBitVec (List.getD (tl s) (2*k) 0))) (UInt8.toBitVec (List.getD (tl s) ((2*k)+1) 0)))
  ·exact D2.gv_new (fun b=>.slice (some ⟨b,0,none⟩) 1 1) #[.int .u8 (BitVec.toNat (((16:BitVec 8)*(UInt8.toBitVec (List.getD (tl s) (2*k) 0)))+(UInt8.toBitVec (List.getD (tl s) ((2*k)+1) 0))):Int)] 5 1 (fun g w=>by kernel_rfl) (fun L g b hN=>kr) (fun L g b hN hF=>hF)
  ·exact D2.gv_append 80 5 1 1 (.tmp 13) (.tmp 23) 0 1 (fun g=>b) (fun g=>(g 10).b) (fun g=>n) (fun g=>1) (fun g=>cap) (fun g=>1) (fun g=>cur) (fun g=>#[.int .u8 (BitVec.toNat (((16:BitVec 8)*(UInt8.toBitVec (List.getD (tl s) (2*k) 0)))+(UInt8.toBitVec (List.getD (tl s) ((2*k)+1) 0))):Int)]) 5 (0,0) (fun g=>(cellsB (jn (List.take (2*k) (tl s))))) (fun g=>[.int .u8 (BitVec.toNat (((16:BitVec 8)*(UInt8.toBitVec (List.getD (tl s) (2*k) 0)))+(UInt8.toBitVec (List.getD (tl s) ((2*k)+1) 0))):Int)]) (fun g=>by kernel_rfl) kr (fun g=>by kernel_rfl) (fun L g hN=>(by have hL11:L 11=false:=hN.1;exact D2.ent_get' (p:=true) (e:=(bif L 11 then ((g 11).b,Obj.cells ((g 11).cur) 5 (0,0)) else (b,Obj.cells cur 5 (0,0)))) kr (by rfl) (by simp only [hL11,cond_true,cond_false]<;>rfl))) (fun L g hN hF=>by exact hr) (fun g=>by kernel_rfl) (fun L g hN=>(by have hL10:L 10=true:=(hN.bef 10 kr);exact D2.ent_get' (p:=L 10) (e:=((g 10).b,Obj.cells #[.int .u8 (BitVec.toNat (((16:BitVec 8)*(UInt8.toBitVec (List.getD (tl s) (2*k) 0)))+(UInt8.toBitVec (List.getD (tl s) ((2*k)+1) 0))):Int)] 5 (0,0))) kr (by exact hL10) (by simp only [hL10,cond_true,cond_false]<;>rfl))) (fun L g hN hF=>by exact ⟨(by rfl),(by rfl),(by intro u hu;simp at hu;first | exact hu.elim | (rcases hu with rfl | rfl | rfl | rfl<;>rfl) | (rcases hu with rfl | rfl<;>rfl) | (subst hu;rfl)),(by omega),(by unfold maxLen;omega)⟩) (fun L g y hN=>kr) (fun L g y hN hF hyn hyr=>by have hnew:=(show (y.n=n+1∧Rw 1 y.cur y.cap (n+1) (cellsB (jn (List.take (2*(k+1)) (tl s))))) from ⟨hyn,by rw [show 2*(k+1)=2*k+2 by omega,zkk (tl s) k (by rw [zy];omega),xR,←zkt (ze4 hp (2*k)) (ze4 hp (2*k+1))];exact hyr⟩);exact ⟨fun _=>hnew,(fun hx=>nomatch (Eq.trans (Eq.symm (show L 12=true from hx)) (hN.post 12 kr))),trivial⟩)
  ·exact D2.gv_valG (fun g=>g 11) (fun L g w hN hp=>⟨hp.1,hp.2.1,fun _=>rfl,trivial⟩) (fun g w=>by kernel_rfl)
  intro L0 G7 w7 hall HL;clear HL3;have H7:St w.heap.size w w7 [((G7 11).b,Obj.cells ((G7 11).cur) 5 (0,0)),((G7 10).b,Obj.cells #[.int .u8 (BitVec.toNat (((16:BitVec 8)*(UInt8.toBitVec (List.getD (tl s) (2*k) 0)))+(UInt8.toBitVec (List.getD (tl s) ((2*k)+1) 0))):Int)] 5 (0,0))]:=by have e10:=hall 10 (Nat.le_of_ble_eq_true kr);have e11:=hall 11 (Nat.le_of_ble_eq_true kr);have e12:=hall 12 (Nat.le_of_ble_eq_true kr);have hS:=D2.StE.st HL.1;simp only [e10,e11,e12,cond_true,D2.pres] at hS;exact hS
  have hf11_7:((G7 11).n=n+1∧Rw 1 (G7 11).cur (G7 11).cap (n+1) (cellsB (jn (List.take (2*(k+1)) (tl s))))):=HL.2.1 (hall 11 (Nat.le_of_ble_eq_true kr));have hf12_7:G7 12=G7 11:=HL.2.2.1 (hall 12 (Nat.le_of_ble_eq_true kr));clear HL hall;rw [←hf12_7] at H7 hf11_7;refine wW<|zJ [0,2,3,4,10] fun ρ1=>rL [.v,.E (.int .i64 (IntKind.i64.wrap (((2*k:Nat):Int)+2))) (.int .i64 (((2*k)+2:Nat):Int)) (ze (zm (a:=2*k) (b:=2) (by omega))),.v] H7 kr fun gs8 w8 H8=>?_;clear H7;have HL4:St w.heap.size w w8 [((G7 12).b,Obj.cells ((G7 12).cur) 5 (0,0)),((G7 10).b,Obj.cells #[.int .u8 (BitVec.toNat (((16:BitVec 8)*(UInt8.toBitVec (List.getD (tl s) (2*k) 0)))+(UInt8.toBitVec (List.getD (tl s) ((2*k)+1) 0))):Int)] 5 (0,0))]:=H8.as kr;clear H8;have HD5:St w.heap.size w w8 [((G7 12).b,Obj.cells ((G7 12).cur) 5 (0,0))]:=HL4.sub (List.Sublist.cons_cons _ (List.Sublist.cons _ List.Sublist.slnil));show ∃m,_∧_;exact ⟨_,(by omega),(G7 12).b,(G7 12).cap,(G7 12).n,(G7 12).cur,(k+1),rfl,(by have h9:=hf11_7.1;omega),(by have h9:=hf11_7;rw [h9.1];exact h9.2),(by omega),HD5,(Is.of ⟨kr,kr,kr,(ze (by omega)),trivial⟩)⟩
 ·refine rp [.E (.bool (decide ((((2*k)+1:Nat):Int)<(ByteArray.size s:Int)))) (.bool false) (za (decide_eq_false (by omega)))] H5 kr fun gs9 w9 H9=>wX [] ?_;clear H5;refine zd<|zf kr kr<|zw 0 kr<|wW<|zi [0,1,2] kr kr<|rp [.v] H9 kr fun gs10 w10 H10=>wX [1,2] ?_;clear H9;refine kw H10 (some 26) 80 9 5 (.tmp 25) 0 b n cap cur 5 (0,0) (jn (List.take (2*k) (tl s))) kr kr kr kr kr kr kr hr<|rp [.v] H10 kr fun gs11 w11 H11=>wX [] ?_;clear H10;refine zd<|zn kr<|wV ?_;refine ⟨[.string (zb (jn (List.take (2*k) (tl s))))],(.tmp (.string (zb (jn (List.take (2*k) (tl s))))) kr .nil),?_,H11.below⟩;rw [zks (tl s) k (by rw [zy];omega)];rfl
def kyB (l:List UInt8):Bool:=isP l&& !decide (l.length%2=1)
def kyS (l:List UInt8):ByteArray:=bif kyB l then zb (jn l) else ⟨#[]⟩
def kyN (l:List UInt8):Int:=bif kyB l then 0 else 1
theorem zfb (l:List UInt8):kyS (hv l)=zb l∧kyN (hv l)=0:=by
 have h:kyB (hv l)=true:=by unfold kyB;rw [zbT,xY,decide_eq_false (by omega)];rfl
 unfold kyS kyN;rw [h];exact ⟨congrArg zb (zeZ l),rfl⟩
theorem zku (s:ByteArray)(hs:ByteArray.size s≤0xe8d4a51000):Fn Tryz.prog 136 #[.string s] (.tuple #[.string (kyS (tl s)),.int .i64 (kyN (tl s))]):=by
 refine Fn.intro (c:=zl Tryz.f136) [.tmp 2,.tmp 3] 14 Tryz.func136 kr kr kr fun w=>?_;have H0:=St.start w;refine rS [.v,.v] H0 kr fun gs1 w1 H1=>?_;clear H0;refine zc kr<|zi [0,1,2,3,4,5,6,7] kr kr<|rp [.v,.c (ze9 s (by omega))] H1 kr fun gs2 w2 H2=>wX [2,3,4,5,6,7] ?_;clear H1;refine Or.elim (Bool.eq_false_or_eq_true (isP (tl s))).symm (fun hq1=>?_) (fun hq1=>?_)
 ·refine yT 5 (v:=.bool (isP (tl s))) (v':=.bool false) (za hq1) kr<|rp [.v,.v,.n,.n,.n,.v] H2 kr fun gs3 w3 H3=>wX [] ?_;clear H2;refine zd<|zg kr kr<|rS [.v,.v] H3 kr fun gs4 w4 H4=>?_;clear H3;refine zn kr<|wV ?_;refine ⟨[.string (⟨#[]⟩),.int .i64 1],(.tmp (.string (⟨#[]⟩)) kr (.tmp (.int .i64 1) kr .nil)),?_,H4.below⟩;unfold kyS kyN;rw [show kyB (tl s)=false by unfold kyB;rw [hq1];rfl];rfl
 ·refine yT 5 (v:=.bool (isP (tl s))) (v':=.bool true) (za hq1) kr<|rp [.v,.v,.v,.v,.c (zbW (ByteArray.size s) (by omega)),.v] H2 kr fun gs5 w5 H5=>wX [] ?_;clear H2;refine zd<|Or.elim (Bool.eq_false_or_eq_true (decide ((ByteArray.size s)%2=1))).symm (fun hq2=>?_) (fun hq2=>?_)
  ·refine zZ 10 (v:=.bool (decide ((ByteArray.size s)%2=1))) (v':=.bool false) (za hq2) kr<|zZ 11 (v:=.bool (decide ((ByteArray.size s)%2=1))) (v':=.bool false) (za hq2) kr<|zf kr kr<|zh kr<|wW<|rS [.v,.c (zfa s (by omega)),.v,.v] H5 kr fun gs6 w6 H6=>?_;clear H5;refine zn kr<|wV ?_;refine ⟨[.string (zb (jn (tl s))),.int .i64 0],(.tmp (.string (zb (jn (tl s)))) kr (.tmp (.int .i64 0) kr .nil)),?_,H6.below⟩;unfold kyS kyN;rw [show kyB (tl s)=true by unfold kyB;rw [hq1,zy,hq2];rfl];rfl
  ·refine zZ 10 (v:=.bool (decide ((ByteArray.size s)%2=1))) (v':=.bool true) (za hq2) kr<|zZ 11 (v:=.bool (decide ((ByteArray.size s)%2=1))) (v':=.bool true) (za hq2) kr<|zg kr kr<|rS [.v,.v] H5 kr fun gs7 w7 H7=>?_;clear H5;refine zn kr<|wV ?_;refine ⟨[.string (⟨#[]⟩),.int .i64 1],(.tmp (.string (⟨#[]⟩)) kr (.tmp (.int .i64 1) kr .nil)),?_,H7.below⟩;unfold kyS kyN;rw [show kyB (tl s)=false by unfold kyB;rw [hq1,zy,hq2];rfl];rfl
theorem zkv (s:ByteArray)(hs:ByteArray.size s≤100000000000)(e:Bool)(hp:isP (tl s)=true):Fn Tryz.prog 133 #[.string s,.bool e] (.tuple #[.string (zb (pk (tl s) e)),.int .i64 0]):=by
 refine Fn.intro (c:=zl Tryz.f133) [.tmp 4,.tmp 5] 16 Tryz.func133 kr kr kr fun w=>?_;have H0:=St.start w;refine rS [.v,.v] H0 kr fun gs1 w1 H1=>?_;clear H0;refine zc kr<|zi [0,1,2] kr kr<|rp [.v,.c (ze9 s (by omega))] H1 kr fun gs2 w2 H2=>wX [2] ?_;clear H1;refine Or.elim (Bool.eq_false_or_eq_true (isP (tl s))).symm (fun hq1=>?_) (fun hq1=>?_)
 ·refine yT 7 (v:=.bool (isP (tl s))) (v':=.bool false) (za hq1) kr<|rp [.v] H2 kr fun gs3 w3 H3=>wX [] ?_;clear H2;refine zd<|zg kr kr<|rS [.v,.v] H3 kr fun gs4 w4 H4=>?_;clear H3;refine zn kr<|wV ?_;refine ⟨[.string (⟨#[]⟩),.int .i64 1],(.tmp (.string (⟨#[]⟩)) kr (.tmp (.int .i64 1) kr .nil)),?_,H4.below⟩;exact (absurd (hp.symm.trans hq1) (by decide))
 ·refine yT 7 (v:=.bool (isP (tl s))) (v':=.bool true) (za hq1) kr<|rp [.v] H2 kr fun gs5 w5 H5=>wX [] ?_;clear H2;refine zd<|zf kr kr<|zh kr<|wW<|zi [0,1,2,3,4,5,6,7,8] kr kr<|rp [.v,.v,.v,.c (zkr (ByteArray.size s) e (by omega)),.v] H5 kr fun gs6 w6 H6=>wX [5,6,7,8] ?_;clear H5;have hcz:=(ze0 (ByteArray.size s) e).2;have hcy:ByteArray.size (zb (hdP (ByteArray.size s) e))=(hdP (ByteArray.size s) e).length:=rfl;have hcw:ByteArray.size (zb (hdP (ByteArray.size s) e)++s)=ByteArray.size (zb (hdP (ByteArray.size s) e))+ByteArray.size s:=by rw [←zy,qg,List.length_append,zy,zy]
  refine rp [.o (ins:=[((.tmp 12),.string (zb (hdP (ByteArray.size s) e))),((.tmp 13),.string s)]) (v:=.string ((zb (hdP (ByteArray.size s) e))++s)) (fun ρ o w ho hi=>qR (t:=9) (t':=9) (x:=(.tmp 12)) (y:=(.tmp 13)) (zb (hdP (ByteArray.size s) e)) s w ho hi.1 hi.2.1 (by omega)),.c (zfa ((zb (hdP (ByteArray.size s) e))++s) (by omega)),.v,.v] H6 kr fun gs7 w7 H7=>wX [] ?_;clear H6;refine zd<|zn kr<|wV ?_;refine ⟨[.string (zb (jn (tl ((zb (hdP (ByteArray.size s) e))++s)))),.int .i64 0],(.tmp (.string (zb (jn (tl ((zb (hdP (ByteArray.size s) e))++s))))) kr (.tmp (.int .i64 0) kr .nil)),?_,H7.below⟩;exact (rfl)
theorem zfc (s:ByteArray)(hs:ByteArray.size s≤100000000000)(e:Bool)(hp:isP (tl s)=true):Fn Tryz.prog 81 #[.string s,.bool e] (.string (zb (pk (tl s) e))):=by
 refine Fn.intro (c:=zl Tryz.f81) [.tmp 4] 24 Tryz.func81 kr kr kr fun w=>?_;have H0:=St.start w;refine rS [.v] H0 kr fun gs1 w1 H1=>?_;clear H0;refine rS [.v] H1 kr fun gs2 w2 H2=>?_;clear H1;refine zc kr<|rS [.v] H2 kr fun gs3 w3 H3=>?_;clear H2;refine Or.elim (Bool.eq_false_or_eq_true (e)).symm (fun hq1=>?_) (fun hq1=>?_)
 ·refine zZ 1 (v:=.bool e) (v':=.bool false) (za hq1) kr<|zZ 6 (v:=.bool e) (v':=.bool false) (za hq1) kr<|zf kr kr<|zh kr<|wW<|zc kr<|zi [0,1,2,3] kr kr<|rp [.v,.v,.E (.int .i64 (Int.tmod (ByteArray.size s:Int) 2)) (.int .i64 (((ByteArray.size s)%2:Nat):Int)) (ze (qL (ByteArray.size s) 2))] H3 kr fun gs4 w4 H4=>wX [3] ?_;clear H3;by_cases hc1:((ByteArray.size s)%2:Nat)=1
  ·refine rp [.E (.bool ((((ByteArray.size s)%2:Nat):Int)==1)) (.bool true) (za (beq_iff_eq.2 (by omega)))] H4 kr fun gs5 w5 H5=>wX [] ?_;clear H4;refine zd<|zg kr kr<|zi [0,1,2,3,4,5,6,7] kr kr<|rp [.v,.v,.nw (fun b=>.slice (some ⟨b,0,none⟩) 1 1) #[.int .u8 1] 5,.w fun nn=>.x (op:=.convert 80 9 (.tmp 13)) (ins:=[((.tmp 13),.slice (some ⟨(nn 0),0,none⟩) 1 1)]) [(0,((nn 0),Obj.cells #[.int .u8 1] 5 (0,0)))] (qM (t:=80) (t':=9) (e:=5) [1] kr kr kr (Rw.lit #[.int .u8 1] 1 (by rfl) (by unfold maxLen;omega))),.v] H5 kr fun gs6 w6 H6=>wX [5,6,7] ?_;clear H5;have hcw:ByteArray.size ((strOfNums ([1]))++s)=ByteArray.size (strOfNums ([1]))+ByteArray.size s:=by rw [←zy,qg,List.length_append,zy,zy]
   have hcx:ByteArray.size (strOfNums ([1]))≤2:=by first | exact (by decide:(1:Nat)≤2) | exact (by decide:(2:Nat)≤2)
   refine rp [.o (ins:=[((.tmp 14),.string (strOfNums ([1]))),((.tmp 15),.string s)]) (v:=.string ((strOfNums ([1]))++s)) (fun ρ o w ho hi=>qR (t:=9) (t':=9) (x:=(.tmp 14)) (y:=(.tmp 15)) (strOfNums ([1])) s w ho hi.1 hi.2.1 (by omega)),.c (zax ((strOfNums ([1]))++s) (by omega) (by rw [qg];exact zau.2 ⟨rfl,hp⟩)),.v] H6 kr fun gs7 w7 H7=>wX [] ?_;clear H6;refine zd<|zn kr<|wV ?_;refine ⟨[.string (zb (jn (tl ((strOfNums ([1]))++s))))],(.tmp (.string (zb (jn (tl ((strOfNums ([1]))++s))))) kr .nil),?_,H7.below⟩;rw [pk,hdP,if_pos (show (tl s).length%2=1 by rw [zy];omega),hq1];exact congrArg (fun x=>Value.string (zb (jn x))) (qg _ _)
  ·refine rp [.E (.bool ((((ByteArray.size s)%2:Nat):Int)==1)) (.bool false) (za (beq_eq_false_iff_ne.2 (by omega)))] H4 kr fun gs8 w8 H8=>wX [] ?_;clear H4;refine zd<|zf kr kr<|zh kr<|wW<|zi [0,1,2,3,4,5,6] kr kr<|rp [.v,.nw (fun b=>.slice (some ⟨b,0,none⟩) 2 2) #[.int .u8 0,.int .u8 0] 5,.w fun nn=>.x (op:=.convert 80 9 (.tmp 19)) (ins:=[((.tmp 19),.slice (some ⟨(nn 0),0,none⟩) 2 2)]) [(0,((nn 0),Obj.cells #[.int .u8 0,.int .u8 0] 5 (0,0)))] (qM (t:=80) (t':=9) (e:=5) [0,0] kr kr kr (Rw.lit #[.int .u8 0,.int .u8 0] 2 (by rfl) (by unfold maxLen;omega))),.v] H8 kr fun gs9 w9 H9=>wX [4,5,6] ?_;clear H8;have hcw:ByteArray.size ((strOfNums ([0,0]))++s)=ByteArray.size (strOfNums ([0,0]))+ByteArray.size s:=by rw [←zy,qg,List.length_append,zy,zy]
   have hcx:ByteArray.size (strOfNums ([0,0]))≤2:=by first | exact (by decide:(1:Nat)≤2) | exact (by decide:(2:Nat)≤2)
   refine rp [.o (ins:=[((.tmp 20),.string (strOfNums ([0,0]))),((.tmp 21),.string s)]) (v:=.string ((strOfNums ([0,0]))++s)) (fun ρ o w ho hi=>qR (t:=9) (t':=9) (x:=(.tmp 20)) (y:=(.tmp 21)) (strOfNums ([0,0])) s w ho hi.1 hi.2.1 (by omega)),.c (zax ((strOfNums ([0,0]))++s) (by omega) (by rw [qg];exact zau.2 ⟨rfl,hp⟩)),.v] H9 kr fun gs10 w10 H10=>wX [] ?_;clear H9;refine zd<|zn kr<|wV ?_;refine ⟨[.string (zb (jn (tl ((strOfNums ([0,0]))++s))))],(.tmp (.string (zb (jn (tl ((strOfNums ([0,0]))++s))))) kr .nil),?_,H10.below⟩;rw [pk,hdP,if_neg (show ¬(tl s).length%2=1 by rw [zy];omega),hq1];exact congrArg (fun x=>Value.string (zb (jn x))) (qg _ _)
 ·refine zZ 1 (v:=.bool e) (v':=.bool true) (za hq1) kr<|zZ 6 (v:=.bool e) (v':=.bool true) (za hq1) kr<|zg kr kr<|rL [.v] H3 kr fun gs11 w11 H11=>?_;clear H3;refine wW<|zc kr<|zi [0,1,2,3] kr kr<|rp [.v,.v,.E (.int .i64 (Int.tmod (ByteArray.size s:Int) 2)) (.int .i64 (((ByteArray.size s)%2:Nat):Int)) (ze (qL (ByteArray.size s) 2))] H11 kr fun gs12 w12 H12=>wX [3] ?_;clear H11;by_cases hc2:((ByteArray.size s)%2:Nat)=1
  ·refine rp [.E (.bool ((((ByteArray.size s)%2:Nat):Int)==1)) (.bool true) (za (beq_iff_eq.2 (by omega)))] H12 kr fun gs13 w13 H13=>wX [] ?_;clear H12;refine zd<|zg kr kr<|zi [0,1,2,3,4,5,6,7] kr kr<|rp [.v,.v,.nw (fun b=>.slice (some ⟨b,0,none⟩) 1 1) #[.int .u8 3] 5,.w fun nn=>.x (op:=.convert 80 9 (.tmp 13)) (ins:=[((.tmp 13),.slice (some ⟨(nn 0),0,none⟩) 1 1)]) [(0,((nn 0),Obj.cells #[.int .u8 3] 5 (0,0)))] (qM (t:=80) (t':=9) (e:=5) [3] kr kr kr (Rw.lit #[.int .u8 3] 1 (by rfl) (by unfold maxLen;omega))),.v] H13 kr fun gs14 w14 H14=>wX [5,6,7] ?_;clear H13;have hcw:ByteArray.size ((strOfNums ([3]))++s)=ByteArray.size (strOfNums ([3]))+ByteArray.size s:=by rw [←zy,qg,List.length_append,zy,zy]
   have hcx:ByteArray.size (strOfNums ([3]))≤2:=by first | exact (by decide:(1:Nat)≤2) | exact (by decide:(2:Nat)≤2)
   refine rp [.o (ins:=[((.tmp 14),.string (strOfNums ([3]))),((.tmp 15),.string s)]) (v:=.string ((strOfNums ([3]))++s)) (fun ρ o w ho hi=>qR (t:=9) (t':=9) (x:=(.tmp 14)) (y:=(.tmp 15)) (strOfNums ([3])) s w ho hi.1 hi.2.1 (by omega)),.c (zax ((strOfNums ([3]))++s) (by omega) (by rw [qg];exact zau.2 ⟨rfl,hp⟩)),.v] H14 kr fun gs15 w15 H15=>wX [] ?_;clear H14;refine zd<|zn kr<|wV ?_;refine ⟨[.string (zb (jn (tl ((strOfNums ([3]))++s))))],(.tmp (.string (zb (jn (tl ((strOfNums ([3]))++s))))) kr .nil),?_,H15.below⟩;rw [pk,hdP,if_pos (show (tl s).length%2=1 by rw [zy];omega),hq1];exact congrArg (fun x=>Value.string (zb (jn x))) (qg _ _)
  ·refine rp [.E (.bool ((((ByteArray.size s)%2:Nat):Int)==1)) (.bool false) (za (beq_eq_false_iff_ne.2 (by omega)))] H12 kr fun gs16 w16 H16=>wX [] ?_;clear H12;refine zd<|zf kr kr<|zh kr<|wW<|zi [0,1,2,3,4,5,6] kr kr<|rp [.v,.nw (fun b=>.slice (some ⟨b,0,none⟩) 2 2) #[.int .u8 2,.int .u8 0] 5,.w fun nn=>.x (op:=.convert 80 9 (.tmp 19)) (ins:=[((.tmp 19),.slice (some ⟨(nn 0),0,none⟩) 2 2)]) [(0,((nn 0),Obj.cells #[.int .u8 2,.int .u8 0] 5 (0,0)))] (qM (t:=80) (t':=9) (e:=5) [2,0] kr kr kr (Rw.lit #[.int .u8 2,.int .u8 0] 2 (by rfl) (by unfold maxLen;omega))),.v] H16 kr fun gs17 w17 H17=>wX [4,5,6] ?_;clear H16;have hcw:ByteArray.size ((strOfNums ([2,0]))++s)=ByteArray.size (strOfNums ([2,0]))+ByteArray.size s:=by rw [←zy,qg,List.length_append,zy,zy]
   have hcx:ByteArray.size (strOfNums ([2,0]))≤2:=by first | exact (by decide:(1:Nat)≤2) | exact (by decide:(2:Nat)≤2)
   refine rp [.o (ins:=[((.tmp 20),.string (strOfNums ([2,0]))),((.tmp 21),.string s)]) (v:=.string ((strOfNums ([2,0]))++s)) (fun ρ o w ho hi=>qR (t:=9) (t':=9) (x:=(.tmp 20)) (y:=(.tmp 21)) (strOfNums ([2,0])) s w ho hi.1 hi.2.1 (by omega)),.c (zax ((strOfNums ([2,0]))++s) (by omega) (by rw [qg];exact zau.2 ⟨rfl,hp⟩)),.v] H17 kr fun gs18 w18 H18=>wX [] ?_;clear H17;refine zd<|zn kr<|wV ?_;refine ⟨[.string (zb (jn (tl ((strOfNums ([2,0]))++s))))],(.tmp (.string (zb (jn (tl ((strOfNums ([2,0]))++s))))) kr .nil),?_,H18.below⟩;rw [pk,hdP,if_neg (show ¬(tl s).length%2=1 by rw [zy];omega),hq1];exact congrArg (fun x=>Value.string (zb (jn x))) (qg _ _)
end Go.Proofs.YtbbdbdndedeokaaGreatDoor
