/-
  Texts of the proof,part 4.
-/
import Derived.Test.YtpghmdbjmigjlaaGreatDoorProg
import Derived.Laws.BytesArg
import Derived.Laws.Bits64b
import Derived.Lib.Hide
import Derived.ChangeKeysEq
import Derived.Laws.StructEq
import Derived.Laws.Externs
import Derived.Below
import Derived.Test.YtpghmdbjmigjlaaGreatDoorMO1
import Derived.Test.YtpghmdbjmigjlaaGreatDoorMO2
import Derived.Test.YtpghmdbjmigjlaaGreatDoorMO3
set_option maxRecDepth 100000
set_option maxHeartbeats 4000000
namespace Go.Proofs.YtpghmdbjmigjlaaGreatDoor
open Go Go.RowKit
set_option linter.unusedVariables false
abbrev knd (g:Nat)(p:Option Addr)(n c:Nat):Value:=.agg #[.int .u8 (g:Int),.slice p n c]
abbrev fld (m:Nat)(s:ByteArray)(p:Option Addr)(n c:Nat):Value:=.agg #[.int .u64 (m:Int),.string s,.slice p n c]
theorem yH {P:Program}{ρ:Env}{t e:TypeId}{K bytes:Nat}(ht:yd P t=some (e,K,bytes)){x y:Operand}{o:Oper}{kd:IntKind}{p:Option Addr}(b q n c k:Nat)(hp:p=some ⟨b,q,none⟩)(ho:o.op=.indexAddr t x y)(hx:ev ρ x=.slice p n c)(hy:ev ρ y=.int kd (k:Int))(hk:k<n):
 ∀w,(execOp (ev ρ) o).run P w=.ok (.value (.pointer (some ⟨b,q+k*K,none⟩))) w:=by
 subst hp;exact xT ht b q n c k ho hx hy hk
def km (B:Nat)(w:World)(g:Nat)(p:Option Addr)(n i g':Nat)(p':Option Addr)(n' c':Nat):Prop:=
 (n≤(if g=42 then 0 else i)∧g'=0∧p'=none∧n'=0∧c'=0)∨
 ((if g=42 then 0 else i)<n∧∃b off C T fz,p=some ⟨b,off,none⟩∧b<B∧w.heap[b]? =some (.cells C T fz)∧off+(if g=42 then 0 else i)*2+2≤C.size∧C.extract (off+(if g=42 then 0 else i)*2) (off+(if g=42 then 0 else i)*2+2)=#[.int .u8 (g':Int),.slice p' n' c'])
theorem km.up {B B':Nat}{w w':World}{g:Nat}{p:Option Addr}{n i g':Nat}{p':Option Addr}{n' c':Nat}(h:km B w g p n i g' p' n' c')(hb:Below B w w')(hB:B≤B'):km B' w' g p n i g' p' n' c':=by
 rcases h with h|⟨h0,b,off,C,T,fz,h1,h2,h3,h4⟩
 ·exact .inl h
 ·exact .inr ⟨h0,b,off,C,T,fz,h1,Nat.lt_of_lt_of_le h2 hB,by rw [hb.block b h2];exact h3,h4⟩
theorem SlR.kid {B:Nat}{w:World}{p:Option Addr}{n:Nat}{k:Kf}(h:SlR kS B w p n k)(g i:Nat):∃g' p' n' c',km B w g p n i g' p' n' c'∧SlR kS B w p' n' (zv g k i).2∧g'=(zv g k i).1:=by
 unfold zv km;generalize (if g=42 then 0 else i)=j;rcases Nat.lt_or_ge j n with hj | hj
 ·obtain ⟨a,q,ha⟩:=Fr.at_some (k:=k) (i:=j) (by rw [←h.1];exact hj);rcases h.2.2 with rfl|⟨b,off,rfl,hA⟩
  ·simp [Fr.at] at ha
  ·obtain ⟨C,T,fz,p',n',c',h1,h2,h3,h4,h5,h6⟩:=hA.at ha;rw [ha];exact ⟨a,p',n',c',.inr ⟨hj,b,off,C,T,fz,rfl,h1,h2,h3,h4⟩,h6,rfl⟩
 ·rw [Fr.at_none (by rw [←h.1];exact hj)];exact ⟨0,none,0,0,.inl ⟨hj,rfl,rfl,rfl,rfl⟩,SlR.nil _ _ _,rfl⟩
theorem zdW (g:Nat)(p:Option Addr)(n c i g':Nat)(p':Option Addr)(n' c':Nat):FnP Tryz.prog 115 #[knd g p n c,.int .i64 (i:Int)] (fun w=>km w.heap.size w g p n i g' p' n' c') (knd g' p' n' c'):=by
 refine FnP.intro (c:=zd Tryz.f115) [.cell 4 106] 19 Tryz.func115 kr kr kr fun w hpre=>?_;have H0:=St.start w;refine rS [.b,.a] H0 kr fun gs1 w1 H1=>?_;clear H0;unfold km at hpre;by_cases hg:g=42
 ·rw [if_pos hg] at hpre;refine zb kr<|rS [.v,.l 0,.E (.bool ((g:Int)==42)) (.bool true) (za (beq_iff_eq.2 (by omega)))] H1 kr fun gs2 w2 H2=>?_;clear H1;refine zi kr kr<|rL [.v] H2 kr fun gs3 w3 H3=>wW ?_;rcases hpre with ⟨hj,rfl,rfl,rfl,rfl⟩ | ⟨hj,b,off,C,T,fz,hp,hb,hh,hz,hx⟩
  ·refine zb kr<|rS [.v,.v,.l 0,.v,.E (.bool (decide ((n:Int)≤((0:Nat):Int)))) (.bool true) (za (decide_eq_true (by omega)))] H3 kr fun gs4 w4 H4=>zi kr kr<|rS [.v,.s 1] H4 kr fun gs5 w5 H5=>?_;exact rR [.cell 4 106] [1] (knd 0 none 0 0) H5 kr
  ·refine zb kr<|rS [.v,.v,.l 0,.v,.E (.bool (decide ((n:Int)≤((0:Nat):Int)))) (.bool false) (za (decide_eq_false (by omega)))] H3 kr fun gs4 w4 H4=>zl kr kr<|zp kr<|wW<|rS [.v,.l 0,.v,.o (ins:=[((.tmp 15),.slice p n c),((.tmp 16),.int .i64 ((0:Nat):Int))]) (v:=.pointer (some ⟨b,off+0*2,none⟩)) (fun ρ o w ho hi=>yH (kd:=.i64) (t:=104) (e:=106) (K:=2) (bytes:=32) kr (x:=(.tmp 15)) (y:=(.tmp 16)) b off n c 0 hp ho hi.1 hi.2.1 (by omega) w),.fp (off:=off+0*2) (n:=2) (W:=#[.int .u8 (g':Int),.slice p' n' c']) hh hb hz hx,.s 1] H4 kr fun gs5 w5 H5=>?_;exact rR [.cell 4 106] [1] (knd g' p' n' c') H5 kr
 ·rw [if_neg hg] at hpre;refine zb kr<|rS [.v,.l 0,.E (.bool ((g:Int)==42)) (.bool false) (za (beq_eq_false_iff_ne.2 (by omega)))] H1 kr fun gs2 w2 H2=>?_;clear H1;refine zl kr kr<|zp kr ?_;have H3:=H2;refine wW ?_;rcases hpre with ⟨hj,rfl,rfl,rfl,rfl⟩ | ⟨hj,b,off,C,T,fz,hp,hb,hh,hz,hx⟩
  ·refine zb kr<|rS [.v,.v,.l 0,.v,.E (.bool (decide ((n:Int)≤(i:Int)))) (.bool true) (za (decide_eq_true (by omega)))] H3 kr fun gs4 w4 H4=>zi kr kr<|rS [.v,.s 1] H4 kr fun gs5 w5 H5=>?_;exact rR [.cell 4 106] [1] (knd 0 none 0 0) H5 kr
  ·refine zb kr<|rS [.v,.v,.l 0,.v,.E (.bool (decide ((n:Int)≤(i:Int)))) (.bool false) (za (decide_eq_false (by omega)))] H3 kr fun gs4 w4 H4=>zl kr kr<|zp kr<|wW<|rS [.v,.l 0,.v,.o (ins:=[((.tmp 15),.slice p n c),((.tmp 16),.int .i64 (i:Int))]) (v:=.pointer (some ⟨b,off+i*2,none⟩)) (fun ρ o w ho hi=>yH (kd:=.i64) (t:=104) (e:=106) (K:=2) (bytes:=32) kr (x:=(.tmp 15)) (y:=(.tmp 16)) b off n c i hp ho hi.1 hi.2.1 (by omega) w),.fp (off:=off+i*2) (n:=2) (W:=#[.int .u8 (g':Int),.slice p' n' c']) hh hb hz hx,.s 1] H4 kr fun gs5 w5 H5=>?_;exact rR [.cell 4 106] [1] (knd g' p' n' c') H5 kr
theorem zhf (a b n:Nat):Fn Tryz.prog 155 #[.agg #[.int .i64 (a:Int),.int .i64 (b:Int)],.int .i64 (n:Int)] (.bool (yR (a,b) n)):=by
 refine Fn.intro (c:=zd Tryz.f155) [.tmp 4] 15 Tryz.func155 kr kr kr fun w=>?_;have H0:=St.start w;refine rS [.b,.v] H0 kr fun gs1 w1 H1=>?_;clear H0;by_cases h1:a≤n
 ·by_cases h2:n≤b
  ·refine rS [.v,.l 0,.v,.E (.bool (decide ((a:Int)≤(n:Int)))) (.bool true) (za (decide_eq_true (by omega))),.v,.v,.v,.l 0,.E (.bool (decide ((n:Int)≤(b:Int)))) (.bool true) (za (decide_eq_true (by omega))),.v,.v] H1 kr fun gs2 w2 H2=>?_;exact rRe [.tmp 4] [] (v:=.bool true) (v':=.bool (yR (a,b) n)) H2 (za (by unfold yR;simp [h1,h2])) kr
  ·refine rS [.v,.l 0,.v,.E (.bool (decide ((a:Int)≤(n:Int)))) (.bool true) (za (decide_eq_true (by omega))),.v,.v,.v,.l 0,.E (.bool (decide ((n:Int)≤(b:Int)))) (.bool false) (za (decide_eq_false (by omega))),.v,.v] H1 kr fun gs2 w2 H2=>?_;exact rRe [.tmp 4] [] (v:=.bool false) (v':=.bool (yR (a,b) n)) H2 (za (by unfold yR;simp [h1,h2])) kr
 ·refine rS [.v,.l 0,.v,.E (.bool (decide ((a:Int)≤(n:Int)))) (.bool false) (za (decide_eq_false (by omega))),.v,.n,.n,.n,.n,.v,.v] H1 kr fun gs2 w2 H2=>?_;exact rRe [.tmp 4] [] (v:=.bool false) (v':=.bool (yR (a,b) n)) H2 (za (by unfold yR;simp [h1])) kr
theorem zbZ (g:Nat)(p:Option Addr)(n c:Nat):Fn Tryz.prog 154 #[knd g p n c] (.agg #[.int .i64 (((yb g).1:Nat):Int),.int .i64 (((yb g).2:Nat):Int)]):=by
 refine Fn.intro (c:=zd Tryz.f154) [.cell 2 224] 18 Tryz.func154 kr kr kr fun w=>?_;have H0:=St.start w;refine rS [.b,.a] H0 kr fun gs1 w1 H1=>?_;clear H0;refine rS [.v,.l 0] H1 kr fun gs2 w2 H2=>?_;clear H1;refine zu 0 kr ?_;by_cases h104:g=104
 ·refine rS [.E (.bool ((g:Int)==104)) (.bool true) (za (beq_iff_eq.2 (by omega))),.v] H2 kr fun gsa104 wa104 Ha104=>zi kr kr<|rS [.v,.s 1] Ha104 kr fun gsb104 wb104 Hb104=>?_;exact rRe [.cell 2 224] [1] (v:=.agg #[.int .i64 32,.int .i64 32]) (v':=.agg #[.int .i64 (((yb g).1:Nat):Int),.int .i64 (((yb g).2:Nat):Int)]) Hb104 (by unfold yb;simp [h104]) kr
 ·refine rS [.E (.bool ((g:Int)==104)) (.bool false) (za (beq_eq_false_iff_ne.2 (by omega))),.v] H2 kr fun gsc104 wc104 Hc104=>zl kr kr ?_;by_cases h97:g=97
  ·refine rS [.E (.bool ((g:Int)==97)) (.bool true) (za (beq_iff_eq.2 (by omega))),.v] Hc104 kr fun gsa97 wa97 Ha97=>zi kr kr<|rS [.v,.s 1] Ha97 kr fun gsb97 wb97 Hb97=>?_;exact rRe [.cell 2 224] [1] (v:=.agg #[.int .i64 20,.int .i64 20]) (v':=.agg #[.int .i64 (((yb g).1:Nat):Int),.int .i64 (((yb g).2:Nat):Int)]) Hb97 (by unfold yb;simp [h97]) kr
  ·refine rS [.E (.bool ((g:Int)==97)) (.bool false) (za (beq_eq_false_iff_ne.2 (by omega))),.v] Hc104 kr fun gsc97 wc97 Hc97=>zl kr kr ?_;by_cases h115:g=115
   ·refine rS [.E (.bool ((g:Int)==115)) (.bool true) (za (beq_iff_eq.2 (by omega))),.v] Hc97 kr fun gsa115 wa115 Ha115=>zi kr kr<|rS [.v,.s 1] Ha115 kr fun gsb115 wb115 Hb115=>?_;exact rRe [.cell 2 224] [1] (v:=.agg #[.int .i64 65,.int .i64 65]) (v':=.agg #[.int .i64 (((yb g).1:Nat):Int),.int .i64 (((yb g).2:Nat):Int)]) Hb115 (by unfold yb;simp [h115]) kr
   ·refine rS [.E (.bool ((g:Int)==115)) (.bool false) (za (beq_eq_false_iff_ne.2 (by omega))),.v] Hc97 kr fun gsc115 wc115 Hc115=>zl kr kr ?_;by_cases h98:g=98
    ·refine rS [.E (.bool ((g:Int)==98)) (.bool true) (za (beq_iff_eq.2 (by omega))),.v] Hc115 kr fun gsa98 wa98 Ha98=>zi kr kr<|rS [.v,.s 1] Ha98 kr fun gsb98 wb98 Hb98=>?_;exact rRe [.cell 2 224] [1] (v:=.agg #[.int .i64 0,.int .i64 64]) (v':=.agg #[.int .i64 (((yb g).1:Nat):Int),.int .i64 (((yb g).2:Nat):Int)]) Hb98 (by unfold yb;simp [h98]) kr
    ·refine rS [.E (.bool ((g:Int)==98)) (.bool false) (za (beq_eq_false_iff_ne.2 (by omega))),.v] Hc115 kr fun gsc98 wc98 Hc98=>zl kr kr<|rS [.v,.s 1] Hc98 kr fun gsz wz Hz=>?_;exact rRe [.cell 2 224] [1] (v:=.agg #[.int .i64 0,.int .i64 0]) (v':=.agg #[.int .i64 (((yb g).1:Nat):Int),.int .i64 (((yb g).2:Nat):Int)]) Hz (by unfold yb;simp [h104,h97,h115,h98]) kr
theorem zhg (g:Nat)(p:Option Addr)(n c:Nat):Fn Tryz.prog 156 #[knd g p n c] (.agg #[.int .i64 (((yj g n).1:Nat):Int),.int .i64 (((yj g n).2:Nat):Int)]):=by
 refine Fn.intro (c:=zd Tryz.f156) [.cell 2 224] 18 Tryz.func156 kr kr kr fun w=>?_;have H0:=St.start w;refine rS [.b,.a] H0 kr fun gs1 w1 H1=>?_;clear H0;refine rS [.v,.l 0] H1 kr fun gs2 w2 H2=>?_;clear H1;refine zu 0 kr ?_;by_cases h40:g=40
 ·refine rS [.E (.bool ((g:Int)==40)) (.bool true) (za (beq_iff_eq.2 (by omega))),.v] H2 kr fun gsa40 wa40 Ha40=>zi kr kr<|rS [.v,.l 0,.v,.v,.l 0,.v,.v,.s 1] Ha40 kr fun gsb40 wb40 Hb40=>?_;exact rRe [.cell 2 224] [1] (v:=.agg #[.int .i64 (n:Int),.int .i64 (n:Int)]) (v':=.agg #[.int .i64 (((yj g n).1:Nat):Int),.int .i64 (((yj g n).2:Nat):Int)]) Hb40 (by unfold yj;simp [h40]) kr
 ·refine rS [.E (.bool ((g:Int)==40)) (.bool false) (za (beq_eq_false_iff_ne.2 (by omega))),.v] H2 kr fun gsc40 wc40 Hc40=>zl kr kr ?_;by_cases h42:g=42
  ·refine rS [.E (.bool ((g:Int)==42)) (.bool true) (za (beq_iff_eq.2 (by omega))),.v] Hc40 kr fun gsa42 wa42 Ha42=>zi kr kr<|rS [.v,.s 1] Ha42 kr fun gsb42 wb42 Hb42=>?_;exact rRe [.cell 2 224] [1] (v:=.agg #[.int .i64 0,.int .i64 40]) (v':=.agg #[.int .i64 (((yj g n).1:Nat):Int),.int .i64 (((yj g n).2:Nat):Int)]) Hb42 (by unfold yj;simp [h42]) kr
  ·refine rS [.E (.bool ((g:Int)==42)) (.bool false) (za (beq_eq_false_iff_ne.2 (by omega))),.v] Hc40 kr fun gsc42 wc42 Hc42=>zl kr kr<|rS [.v,.s 1] Hc42 kr fun gsz wz Hz=>?_;exact rRe [.cell 2 224] [1] (v:=.agg #[.int .i64 0,.int .i64 0]) (v':=.agg #[.int .i64 (((yj g n).1:Nat):Int),.int .i64 (((yj g n).2:Nat):Int)]) Hz (by unfold yj;simp [h40,h42]) kr
theorem zhh (g:Nat)(p:Option Addr)(n c m:Nat)(s:ByteArray)(p2:Option Addr)(n2 c2:Nat):Fn Tryz.prog 114 #[knd g p n c,fld m s p2 n2 c2] (.bool (zE g n m s.size n2)):=by
 refine Fn.intro (c:=zd Tryz.f114) [.tmp 4] 29 Tryz.func114 kr kr kr fun w=>?_;have H0:=St.start w;refine rS [.b,.b,.v] H0 kr fun gs1 w1 H1=>?_;clear H0;have hv:zE g n m s.size n2=((decide (m=0)||decide (g=110))&&(yR (yb g) s.size&&yR (yj g n) n2)):=rfl;obtain ⟨x1,hx1⟩:∃x,yR (yb g) s.size=x:=⟨_,rfl⟩
 obtain ⟨x2,hx2⟩:∃x,yR (yj g n) n2=x:=⟨_,rfl⟩
 have c1:Fn Tryz.prog 155 #[.agg #[.int .i64 (((yb g).1:Nat):Int),.int .i64 (((yb g).2:Nat):Int)],.int .i64 (s.size:Int)] (.bool x1):=hx1▸zhf _ _ _;have c2:Fn Tryz.prog 155 #[.agg #[.int .i64 (((yj g n).1:Nat):Int),.int .i64 (((yj g n).2:Nat):Int)],.int .i64 (n2:Int)] (.bool x2):=hx2▸zhf _ _ _;rw [hx1,hx2] at hv;rw [hv];clear hv hx1 hx2;by_cases hm:m=0
 ·skip;cases x1 with
  | true=>
   refine dS [.v,.l 1,.E (.bool ((m:Int)==0)) (.bool true) (za (beq_iff_eq.2 (by omega))),.v,.n,.n,.n,.v,.v,.l 0,.c (zbZ g p n c),.v,.l 1,.v,.c c1,.v,.v,.l 0,.c (zhg g p n c),.v,.l 1,.v,.c c2,.v,.v] H1 kr fun w2 H2=>?_;exact rRe [.tmp 4] [] (v:=.bool x2) (v':=.bool ((decide (m=0)||decide (g=110))&&(true&&x2))) H2 (za (by simp [hm])) kr
  | false=>
   refine dS [.v,.l 1,.E (.bool ((m:Int)==0)) (.bool true) (za (beq_iff_eq.2 (by omega))),.v,.n,.n,.n,.v,.v,.l 0,.c (zbZ g p n c),.v,.l 1,.v,.c c1,.v,.v,.n,.n,.n,.n,.n,.n,.v,.v] H1 kr fun w2 H2=>?_;exact rRe [.tmp 4] [] (v:=.bool false) (v':=.bool ((decide (m=0)||decide (g=110))&&(false&&x2))) H2 (za (by simp [hm])) kr
 ·by_cases hg:g=110
  ·skip;cases x1 with
   | true=>
    refine dS [.v,.l 1,.E (.bool ((m:Int)==0)) (.bool false) (za (beq_eq_false_iff_ne.2 (by omega))),.v,.v,.l 0,.E (.bool ((g:Int)==110)) (.bool true) (za (beq_iff_eq.2 (by omega))),.v,.v,.l 0,.c (zbZ g p n c),.v,.l 1,.v,.c c1,.v,.v,.l 0,.c (zhg g p n c),.v,.l 1,.v,.c c2,.v,.v] H1 kr fun w2 H2=>?_;exact rRe [.tmp 4] [] (v:=.bool x2) (v':=.bool ((decide (m=0)||decide (g=110))&&(true&&x2))) H2 (za (by simp [hm,hg])) kr
   | false=>
    refine dS [.v,.l 1,.E (.bool ((m:Int)==0)) (.bool false) (za (beq_eq_false_iff_ne.2 (by omega))),.v,.v,.l 0,.E (.bool ((g:Int)==110)) (.bool true) (za (beq_iff_eq.2 (by omega))),.v,.v,.l 0,.c (zbZ g p n c),.v,.l 1,.v,.c c1,.v,.v,.n,.n,.n,.n,.n,.n,.v,.v] H1 kr fun w2 H2=>?_;exact rRe [.tmp 4] [] (v:=.bool false) (v':=.bool ((decide (m=0)||decide (g=110))&&(false&&x2))) H2 (za (by simp [hm,hg])) kr
  ·refine dS [.v,.l 1,.E (.bool ((m:Int)==0)) (.bool false) (za (beq_eq_false_iff_ne.2 (by omega))),.v,.v,.l 0,.E (.bool ((g:Int)==110)) (.bool false) (za (beq_eq_false_iff_ne.2 (by omega))),.v,.v,.n,.n,.n,.n,.n,.n,.v,.v,.n,.n,.n,.n,.n,.n,.v,.v] H1 kr fun w2 H2=>?_;exact rRe [.tmp 4] [] (v:=.bool false) (v':=.bool ((decide (m=0)||decide (g=110))&&(x1&&x2))) H2 (za (by simp [hm,hg])) kr
def Fr.sub {α:Type}(p:Fr α→Prop):Fr α→Prop
 | .nil=>True
 | .cons a k r=>p k∧r.sub p
theorem Fr.induct {α:Type}{p:Fr α→Prop}(h: ∀l:Fr α,l.sub p→p l): ∀l:Fr α,p l∧l.sub p
 | .nil=>⟨h .nil trivial,trivial⟩
 | .cons a k r=>⟨h _ ⟨(Fr.induct h k).1,(Fr.induct h r).2⟩,(Fr.induct h k).1,(Fr.induct h r).2⟩
def zb0 (l:Fe):Prop:= ∀(g:Nat) (p:Option Addr) (n c:Nat) (b:Kf) (m:Nat) (s:ByteArray) (p2:Option Addr) (n2 c2:Nat) (room:Int),
 FnP Tryz.prog 76 #[knd g p n c,fld m s p2 n2 c2,.int .i64 room] (fun w=>SlR kS w.heap.size w p n b∧SlR fS w.heap.size w p2 n2 l) (.int .i64 (zW g b (m,s) l room))
theorem zm7 (l:Fe)(hs:l.sub zb0):zb0 l:=by
 intro g p n c b m s p2 n2 c2 room;refine FnP.intro (c:=zd Tryz.f76) [.tmp 6] 34 Tryz.func76 kr kr kr fun w hpre=>?_;have H0:=St.start w;obtain ⟨hK,hF⟩:=hpre;have hn2:=hF.1;have hnm:n2≤0x800000000000:=hF.2.1;unfold zW;rw [←hK.1,←hF.1];refine rS [.b,.b,.v] H0 kr fun gs1 w1 H1=>?_;clear H0;refine zb kr ?_;cases hf:zE g n m s.size n2 with
 | false=>
  rw [if_neg (by decide)];refine rS [.l 0,.l 1,.c (zhh g p n c m s p2 n2 c2),.E (.bool (!(zE g n m s.size n2))) (.bool true) (za (by rw [hf];rfl))] H1 kr fun gs2 w2 H2=>zi kr kr<|rS [.v] H2 kr fun gs3 w3 H3=>?_;exact rR [.tmp 6] [] (.int .i64 (-1)) H3 kr
 | true=>
  rw [if_pos rfl];refine rS [.l 0,.l 1,.c (zhh g p n c m s p2 n2 c2),.E (.bool (!(zE g n m s.size n2))) (.bool false) (za (by rw [hf];rfl))] H1 kr fun gs2 w2 H2=>zl kr kr<|zp kr<|wW<|rS [.v,.E (.int .i64 (IntKind.i64.wrap (room-1))) (.int .i64 (w64 (room-1))) rfl,.v] H2 kr fun gs3 w3 H3=>zb kr<|rS [.v,.l 1,.v,.v] H3 kr fun gs4 w4 H4=>zu 0 kr ?_;have H5:St w.heap.size w w4 [((gs1 0).b,.cells #[.int .u8 (g:Int),.slice p n c] 106 (0,0)),((gs1 1).b,.cells #[.int .u64 (m:Int),.string s,.slice p2 n2 c2] 91 (0,0))]:=H4.as kr;clear H1 H2 H3 H4;refine yD kr (fun mz ρ ww=> ∃(i:Nat) (r:Fe) (v:Int),n2-i=mz∧FrR fS w.heap.size w p2 i r∧i+r.len=n2∧r.sub zb0∧qd l g b 0 (w64 (room-1))=qd r g b i v∧St w.heap.size w ww [((gs1 0).b,.cells #[.int .u8 (g:Int),.slice p n c] 106 (0,0)),((gs1 1).b,.cells #[.int .u64 (m:Int),.string s,.slice p2 n2 c2] 91 (0,0))]∧Is [(2,.int .i64 v),(3,.pointer (some ⟨(gs1 0).b,0,none⟩)),(16,.slice p2 n2 c2),(17,.int .i64 (n2:Int)),(18,.int .i64 (i:Int))] ρ) (n2-0) ⟨0,l,_,rfl,hF.start,by omega,hs,rfl,H5,(Is.of ⟨kr,kr,kr,kr,kr,trivial⟩)⟩ ?_;clear H5;rintro _ _ w5 ⟨i,r,v,rfl,hR,hN,hsub,hv,H6,_,rfl⟩;by_cases hi:i<n2
  ·refine rS [.E (.bool (decide ((i:Int)<(n2:Int)))) (.bool true) (za (decide_eq_true (by omega)))] H6 kr fun gs5 w6 H7=>?_;clear H6;refine zb kr<|zi kr kr<|zp kr<|wW<|zb kr<|zu 1 kr ?_;obtain ⟨⟨m1,s1⟩,k1,r1,b1,off1,C1,T1,fz1,p1,n1,c1,hr1,hp1,hb1,hh1,hs1,hx1,hz1,hk1,hR1,hN1⟩:=FrR.open hR hN hi;obtain ⟨g',p',n',c',hK1,hK2,hg'⟩:=hK.kid g i;subst hr1;refine rS [.v,.o (ins:=[((.tmp 16),.slice p2 n2 c2),((.tmp 18),.int .i64 (i:Int))]) (v:=.pointer (some ⟨b1,off1+i*3,none⟩)) (fun ρ o w ho hi2=>yH (kd:=.i64) (t:=88) (e:=91) (K:=3) (bytes:=48) kr (x:=(.tmp 16)) (y:=(.tmp 18)) b1 off1 n2 c2 i hp1 ho hi2.1 hi2.2.1 (by omega) w),.fp (off:=off1+i*3) (n:=3) (W:=#[.int .u64 (m1:Int),.string s1,.slice p1 n1 c1]) hh1 hb1 hs1 hx1,.a,.v,.s 2] H7 kr fun gs6 w7 H8=>?_;clear H7;refine dS [.l 0,.v,.cp (pre:=fun w=>km w.heap.size w g p n i g' p' n' c') (zdW g p n c i g' p' n' c') [] (fun w hb hd=>hK1.up hb hb.size),.l 2,.v,.cp (pre:=fun w=>SlR kS w.heap.size w p' n' (zv g b i).2∧SlR fS w.heap.size w p1 n1 k1) (hsub.1 g' p' n' c' (zv g b i).2 m1 s1 p1 n1 c1 v) [] (fun w hb hd=>⟨hK2.call hb,hk1.call hb⟩),.v] H8 kr fun w8 H9=>?_;clear H8;rw [zak,←hg'] at hv;by_cases hv0:zW g' (zv g b i).2 (m1,s1) k1 v<0
   ·rw [if_pos hv0] at hv;refine rS [.v,.E (.bool (decide (zW g' (zv g b i).2 (m1,s1) k1 v<0))) (.bool true) (za (decide_eq_true hv0))] H9 kr fun gs7 w9 H10=>zi kr kr<|rS [.v,.v] H10 kr fun gs8 w10 H11=>?_;exact rRe [.tmp 6] [] (v:=.int .i64 (zW g' (zv g b i).2 (m1,s1) k1 v)) (v':=.int .i64 (qd l g b 0 (w64 (room-1)))) H11 (zk hv.symm) kr
   ·rw [if_neg hv0] at hv;refine rS [.v,.E (.bool (decide (zW g' (zv g b i).2 (m1,s1) k1 v<0))) (.bool false) (za (decide_eq_false hv0))] H9 kr fun gs7 w9 H10=>zl kr kr<|zp kr<|wW<|rL [.E (.int .i64 (IntKind.i64.wrap ((i:Int)+1))) (.int .i64 ((i+1:Nat):Int)) (zk (yF (a:=i) (b:=1) (by omega))),.v] H10 kr fun gs8 w10 H11=>?_;have H12:St w.heap.size w w10 [((gs1 0).b,.cells #[.int .u8 (g:Int),.slice p n c] 106 (0,0)),((gs1 1).b,.cells #[.int .u64 ((m:Nat):Int),.string s,.slice p2 n2 c2] 91 (0,0)),((gs6 3).b,.cells #[.int .u64 (m1:Int),.string s1,.slice p1 n1 c1] 91 (0,0))]:=H11.as kr;show ∃m,_∧_;exact ⟨_,(by omega),i+1,r1,_,rfl,hR1,hN1,hsub.2,hv,H12.sub (List.Sublist.cons_cons _ (List.Sublist.cons_cons _ (List.nil_sublist _))),(Is.of ⟨kr,kr,kr,kr,kr,trivial⟩)⟩
  ·obtain rfl:=FrR.done hN hi;refine rS [.E (.bool (decide ((i:Int)<(n2:Int)))) (.bool false) (za (decide_eq_false (by omega)))] H6 kr fun gs5 w6 H7=>zb kr<|zl kr kr<|ym 0 kr<|wW<|rS [.v,.v] H7 kr fun gs6 w7 H8=>?_;exact rRe [.tmp 6] [] (v:=.int .i64 v) (v':=.int .i64 (qd l g b 0 (w64 (room-1)))) H8 (zk hv.symm) kr
theorem zhi (l:Fe):zb0 l:=(Fr.induct zm7 l).1
structure xH (C:Array Value)(n i:Nat)(M:List X3):Prop where
 sz:C.size=n*3
 len:M.length=i
 take:C.toList.take (i*3)=cells3 M
theorem xH.start {C:Array Value}{n:Nat}(h:C.size=n*3):xH C n 0 []:=⟨h,rfl,by simp [cells3]⟩
theorem xH.put {C:Array Value}{n i:Nat}{M:List X3}(h:xH C n i M)(x:X3)(hi:i<n):
 0+i*3+(Value.agg (xc x)).cells.size≤C.size∧xH (C.toList.take (0+i*3)++(Value.agg (xc x)).cells.toList++C.toList.drop (0+i*3+(Value.agg (xc x)).cells.size)).toArray n (i+1) (M++ [x]):=by
 have hc:(Value.agg (xc x)).cells=xc x:=rfl;have h3:(xc x).size=3:=rfl;have hl3:(xc x).toList.length=3:=rfl;have hsz:=h.sz;rw [hc,h3,Nat.zero_add];have hle:i*3+3≤C.size:=by omega
 refine ⟨hle,?_,by rw [List.length_append,h.len];rfl,?_⟩
 ·simp only [List.size_toArray,List.length_append,List.length_take,List.length_drop,Array.length_toList,hl3];omega
 ·have e1:(C.toList.take (i*3)).length=i*3:=by rw [List.length_take,Array.length_toList];omega
  have e2:(C.toList.take (i*3)).take (i*3+3)=C.toList.take (i*3):=List.take_of_length_le (by omega);have e3:(xc x).toList.take 3=(xc x).toList:=rfl;rw [show (i+1)*3=i*3+3 by omega,List.toList_toArray,List.append_assoc,List.take_append,e1,e2,Nat.add_sub_cancel_left,List.take_append,hl3,Nat.sub_self,List.take_zero,List.append_nil,e3,zdC,h.take];rfl
theorem xH.done {C:Array Value}{n:Nat}{M:List X3}(h:xH C n n M)(hm:n≤maxLen):Rw 3 C n n (cells3 M):=⟨by rw [jY,h.len],Nat.le_refl _,hm,h.take,h.sz⟩
theorem zm8 (n c:Nat)(L:List X3)(h0:n=0):FnR Tryz.prog 41 #[.slice none n c] (fun w=>n=List.length L∧jp w none L) (zah 44 (fun v=>v) n L):=by
 refine FnR.intro (c:=zd Tryz.f41) [.tmp 2] 8 Tryz.func41 kr kr kr fun w hpre=>?_;have H0:=St.start w;refine rS [.v] H0 kr fun gs1 w1 H1=>?_;clear H0;refine zb kr<|rS [.v,.v] H1 kr fun gs2 w2 H2=>?_;clear H1;refine zi kr kr<|rS [.v] H2 kr fun gs3 w3 H3=>?_;clear H2;refine zn kr<|wV ?_;refine ⟨[.slice none 0 0],(.tmp (.slice none 0 0) kr .nil),H3.below,?_⟩;exact Or.inl ⟨h0,rfl⟩
theorem zm9 (a:Addr)(n c:Nat)(L:List X3)(hn8:n≤2000000000000):FnR Tryz.prog 41 #[.slice (some a) n c] (fun w=>n=List.length L∧jp w (some a) L) (zah 44 (fun v=>v) n L):=by
 refine FnR.intro (c:=zd Tryz.f41) [.tmp 2] 8 Tryz.func41 kr kr kr fun w hpre=>?_;have H0:=St.start w;refine rS [.v] H0 kr fun gs1 w1 H1=>?_;clear H0;refine zb kr<|rS [.v,.v] H1 kr fun gs2 w2 H2=>?_;clear H1;refine zl kr kr<|zp kr<|wW<|zh [0,1,2,3] kr kr<|rp [.nw (fun b=>.slice (some ⟨b,0,none⟩) 0 0) #[] 44,.v] H2 kr fun gs3 w3 H3=>wX [2,3] ?_;clear H2;have HL1:St w.heap.size w w3 [((gs3 0).b,Obj.cells #[] 44 (0,0))]:=H3.as kr;clear H3;refine zmz HL1 (some 7) 42 44 48 (.tmp 5) (.tmp 6) 0 ((gs3 0).b) 0 n 0 c (some a) #[] [] L (fun b_1 cur_3=>[(b_1,Obj.cells cur_3 44 (0,0))]) kr kr kr kr kr (Rw.lit #[] 0 (by rfl) (by unfold maxLen;omega)) kr hpre.1 (fun h=>nomatch h) (jp.up hpre.2 HL1.below) (by omega) (by unfold maxLen;omega) (fun _ _=>by kernel_rfl) ?_;intro b_1 cap_2 cur_3 w4 H4 hr_4;clear HL1;rw [Nat.zero_add] at hr_4;refine yi 7 (v:=.slice (some ⟨b_1,0,none⟩) (0+n) cap_2) (v':=.slice (some ⟨b_1,0,none⟩) n cap_2) (by rw [Nat.zero_add]) kr<|rp [.v] H4 kr fun gs5 w5 H5=>wX [] ?_;clear H4;refine zc<|zn kr<|wV ?_;refine ⟨[.slice (some ⟨b_1,0,none⟩) n cap_2],(.tmp (.slice (some ⟨b_1,0,none⟩) n cap_2) kr .nil),H5.below,?_⟩;exact Or.inr ⟨b_1,cap_2,_,rfl,H5.ge 0 (o:=.cells cur_3 44 (0,0)) kr,H5.get 0 kr,hr_4⟩
theorem zna (p:Option Addr)(n c:Nat)(L:List X3)(hn8:n≤2000000000000):FnR Tryz.prog 41 #[.slice p n c] (fun w=>n=List.length L∧jp w p L) (zah 44 (fun v=>v) n L):=fun w hp=>by
 cases p with
 | none=>
  have h0:n=0:=by
   rcases hp.2 with h|⟨b,off,e,_⟩
   ·rw [hp.1,h];rfl
   ·cases e
  exact zm8 n c L h0 w hp
 | some a=>exact zm9 a n c L hn8 w hp
theorem zhj (p:Option Addr)(n c:Nat)(L:List X3)(hn8:n≤2000000000000):FnR Tryz.prog 24 #[.slice p n c] (fun w=>n=List.length L∧jp w p L) (zah 44 (fun v=>.agg #[.bool true,.string ⟨#[]⟩,v]) n L):=by
 refine FnR.intro (c:=zd Tryz.f24) [.cell 2 44] 6 Tryz.func24 kr kr kr fun w hpre=>?_;have H0:=St.start w;refine rS [.a] H0 kr fun gs1 w1 H1=>?_;clear H0;refine zh [0,1,2,3] kr kr<|rp [.v] H1 kr fun gs2 w2 H2=>wX [1,2,3] ?_;clear H1;refine zgN H2 (some 4) 41 #[.slice p n c] (fun w=>n=List.length L∧jp w p L) 44 (fun v=>v) n L (zna p n c L (by omega)) ⟨hpre.1,jp.up hpre.2 H2.below⟩ kr kr ?_ ?_
 ·skip;intro w3 h0 H3;clear H2;refine rp [.v,.s 0] H3 kr fun gs5 w5 H5=>wX [] ?_;clear H3;refine zc<|zn kr<|wV ?_;refine ⟨[.agg #[.bool true,.string (⟨#[]⟩),.slice none 0 0]],(.agg (b:=(gs1 0).b) (#[.bool true,.string (⟨#[]⟩),.slice none 0 0]) 44 (0,0) kr (H5.get 0 kr) kr .nil),H5.below,?_⟩;exact Or.inl ⟨h0,rfl⟩
 ·skip;intro b_1 cap_2 cur_3 w4 H4 hr_4;clear H2;refine rp [.v,.s 1] H4 kr fun gs6 w6 H6=>wX [] ?_;clear H4;refine zc<|zn kr<|wV ?_;refine ⟨[.agg #[.bool true,.string (⟨#[]⟩),.slice (some ⟨b_1,0,none⟩) n cap_2]],(.agg (b:=(gs1 0).b) (#[.bool true,.string (⟨#[]⟩),.slice (some ⟨b_1,0,none⟩) n cap_2]) 44 (0,0) kr (H6.get 1 kr) kr .nil),H6.below,?_⟩;exact Or.inr ⟨b_1,cap_2,_,rfl,H6.ge 0 (o:=.cells cur_3 44 (0,0)) kr,H6.get 0 kr,hr_4⟩
def Fo.app:Fo→Fo→Fo
 | .nil,R=>R
 | .cons l s k r,R=>.cons l s k (r.app R)
theorem zhk (x:X3)(R:Fo): ∀M:List X3,(toFo (M++ [x])).app R=(toFo M).app (.cons x.l x.s x.k R)
 | []=>rfl
 | y::r=>by simp only [List.cons_append,toFo,Fo.app,zhk x R r]
theorem Fo.app_nil: ∀k:Fo,k.app .nil=k
 | .nil=>rfl
 | .cons l s k r=>by simp only [Fo.app,Fo.app_nil r]
theorem zhl {g:Nat}{x:Nat×ByteArray}(h:x.2.size≤0x800000000000):(yK g x).size≤0x800000000000:=by
 unfold yK;split
 ·rw [qt];have:=yZ x.1;omega
 ·split
  ·exact Nat.zero_le _
  ·exact h
def zal (g:Nat)(b:Kf)(x:Nat×ByteArray)(l:Fe)(v:Value)(T:List (Nat×Obj)):Prop:=
 ∃(p:Option Addr) (n c:Nat),v=.agg #[.bool (yf g),.string (yK g x),.slice p n c]∧ya T p n (zX g b l)
def zb1 (l:Fe):Prop:= ∀(g:Nat) (p:Option Addr) (n c:Nat) (b:Kf) (m:Nat) (s:ByteArray) (p2:Option Addr) (n2 c2:Nat) (room:Int),m<0x10000000000000000→0≤zW g b (m,s) l room→
 FnT Tryz.prog 77 #[knd g p n c,fld m s p2 n2 c2] (fun w=>SlR kS w.heap.size w p n b∧SlR fS w.heap.size w p2 n2 l) (zal g b (m,s) l)
abbrev znb (v:Value):Obj:=.cells #[.bool true,.string ⟨#[]⟩,v] 44 (0,0)
abbrev itZ:Obj:=.cells #[.bool false,.string ⟨#[]⟩,.slice none 0 0] 44 (0,0)
abbrev kdO (g:Nat)(p:Option Addr)(n c:Nat):Obj:=.cells #[.int .u8 (g:Int),.slice p n c] 106 (0,0)
abbrev fdO (m:Nat)(s:ByteArray)(p:Option Addr)(n c:Nat):Obj:=.cells #[.int .u64 (m:Int),.string s,.slice p n c] 91 (0,0)
abbrev rwO (C:Array Value):Obj:=.cells C 44 (0,0)
def zb2 (C:Array Value)(i:Nat)(x:X3):Array Value:=(C.toList.take (0+i*3)++(Value.agg (xc x)).cells.toList++C.toList.drop (0+i*3+(Value.agg (xc x)).cells.size)).toArray
def jE (B:Nat)(w0:World)(bq br:Nat)(C:Array Value)(i:Nat)(ok:X3→List (Nat×Obj)→Prop)(bk:Nat)(kO fO:Obj)(T:List (Nat×Obj)):(Nat→Bool)→(Nat→D2.Gh)→World→Prop:=fun L g w=>
 bif L 8 then ∃x T2,ok x T2∧St B w0 w ((bq,fO)::(bk,kO)::(br,rwO (zb2 C i x))::(T2++T))
 else bif L 6 then ∃x T2,ok x T2∧(g 6).cur=xc x∧St B w0 w ((bq,fO)::(bk,kO)::(br,rwO C)::(T2++T))
 else St B w0 w ((bq,fO)::(bk,kO)::(br,rwO C)::T)
theorem jE.st {B:Nat}{w0:World}{bq br:Nat}{C:Array Value}{i:Nat}{ok:X3→List (Nat×Obj)→Prop}{bk:Nat}{kO fO:Obj}{T:List (Nat×Obj)}{L:Nat→Bool}{g:Nat→D2.Gh}{w:World}(h8:L 8=false)(h:jE B w0 bq br C i ok bk kO fO T L g w):∃T',St B w0 w ((bq,fO)::(bk,kO)::(br,rwO C)::T'):=by
 unfold jE at h;rw [h8] at h;cases h6:L 6 with
 | true=>rw [h6] at h;obtain ⟨x,T2,_,_,h⟩:=h;exact ⟨_,h⟩
 | false=>rw [h6] at h;exact ⟨_,h⟩
theorem jE.call {B:Nat}{w0:World}{bq br:Nat}{C:Array Value}{i:Nat}{ok:X3→List (Nat×Obj)→Prop}{bk:Nat}{kO fO:Obj}{T:List (Nat×Obj)}{L:Nat→Bool}{g:Nat→D2.Gh}{w w':World}(hb:Below w.heap.size w w')(h:jE B w0 bq br C i ok bk kO fO T L g w):jE B w0 bq br C i ok bk kO fO T L g w':=by
 unfold jE at h ⊢;cases h8:L 8 with
 | true=>rw [h8] at h;obtain ⟨x,T2,h1,h⟩:=h;exact ⟨x,T2,h1,h.call hb⟩
 | false=>
  rw [h8] at h;cases h6:L 6 with
  | true=>rw [h6] at h;obtain ⟨x,T2,h1,h2,h⟩:=h;exact ⟨x,T2,h1,h2,h.call hb⟩
  | false=>rw [h6] at h;exact St.call h hb
theorem znc (l:Fe)(hs:l.sub zb1):zb1 l:=by
 intro g p n c b m s p2 n2 c2 room hm hleft;refine FnT.intro (c:=zd Tryz.f77) [.cell 4 44] 44 Tryz.func77 kr kr kr fun w hpre=>?_;have H0:=St.start w;obtain ⟨hK,hF⟩:=hpre;have hfit:zE g b.len m s.size l.len=true∧0≤qd l g b 0 (w64 (room-1)):=by
  unfold zW at hleft;by_cases hf:zE g b.len m s.size l.len=true
  ·rw [if_pos hf] at hleft;exact ⟨hf,hleft⟩
  ·rw [if_neg hf] at hleft;omega
 obtain ⟨hf1,hf2,hf3⟩:=zdQ hfit.1;have hn2:=hF.1;have hnb:n2≤1000:=by
  have hk1:=hK.1;have hk2:n≤1000:=hK.2.1;have:=hf3.2;unfold yj at this;split at this
  ·simp only at this;omega
  ·split at this
   ·simp only at this;omega
   ·simp only at this;omega
 refine rS [.b,.b,.a] H0 kr fun gs1 w1 H1=>?_;clear H0;refine rS [.v,.l 0] H1 kr fun gs2 w2 H2=>?_;clear H1;refine zu 0 kr ?_;by_cases h110:g=110
 ·refine rS [.E (.bool ((g:Int)==110)) (.bool true) (za (beq_iff_eq.2 (by omega))),.v] H2 kr fun gs3 w3 H3=>zi kr kr<|rS [.v,.l 1,.c (zml m hm),.s 2] H3 kr fun gs4 w4 H4=>rRr [.cell 4 44] [2] (.agg #[.bool false,.string (zf (dg m)),.slice none 0 0]) (zU w.heap.size w (zal g b (m,s) l)) H4 kr ?_;refine ⟨[],⟨none,0,0,?_,?_⟩,H4.sub (List.nil_sublist _)⟩
  ·subst h110;rfl
  ·subst h110;exact ya.none _
 ·refine rS [.E (.bool ((g:Int)==110)) (.bool false) (za (beq_eq_false_iff_ne.2 (by omega))),.v] H2 kr fun gs3 w3 H3=>zl kr kr<|zb kr<|vx (Q:=fun e ρ ww=>e=.normal∧St w.heap.size w ww [((gs1 0).b,kdO g p n c),((gs1 1).b,fdO m s p2 n2 c2),((gs1 2).b,itZ)]∧Is [(2,.pointer (some ⟨(gs1 0).b,0,none⟩)),(3,.pointer (some ⟨(gs1 1).b,0,none⟩)),(4,.pointer (some ⟨(gs1 2).b,0,none⟩)),(18,.bool (yf g))] ρ) ?_ ?_
  ·by_cases h40:g=40
   ·refine rS [.E (.bool ((g:Int)==40)) (.bool true) (za (beq_iff_eq.2 (by omega))),.v] H3 kr fun gs4 w4 H4=>zi kr kr<|zp kr ?_;refine ⟨rfl,H4.as kr,?_⟩;subst h40;exact Is.of ⟨kr,kr,kr,kr,trivial⟩
   ·refine rS [.E (.bool ((g:Int)==40)) (.bool false) (za (beq_eq_false_iff_ne.2 (by omega))),.v] H3 kr fun gs4 w4 H4=>zl kr kr ?_;have hl:yf g=decide (g=42):=by unfold yf;rw [decide_eq_false h40];rfl
    rw [hl];by_cases h42:g=42
    ·refine rL [.E (.bool ((g:Int)==42)) (.bool true) (za (beq_iff_eq.2 (by omega))),.v] H4 kr fun gs5 w5 H5=>?_;refine ⟨rfl,H5.as kr,?_⟩;rw [decide_eq_true h42];exact Is.of ⟨kr,kr,kr,kr,trivial⟩
    ·refine rL [.E (.bool ((g:Int)==42)) (.bool false) (za (beq_eq_false_iff_ne.2 (by omega))),.v] H4 kr fun gs5 w5 H5=>?_;refine ⟨rfl,H5.as kr,?_⟩;rw [decide_eq_false h42];exact Is.of ⟨kr,kr,kr,kr,trivial⟩
  rintro _ _ w4 ⟨rfl,H4,_,rfl⟩;refine wW ?_;clear H3 H2;cases hl:yf g with
  | false=>
   refine zl kr kr<|rS [.v,.l 1,.v,.s 2] H4 kr fun gs5 w5 H5=>rRr [.cell 4 44] [2] (.agg #[.bool false,.string s,.slice none 0 0]) (zU w.heap.size w (zal g b (m,s) l)) H5 kr ?_;refine ⟨[],⟨none,0,0,?_,?_⟩,H5.sub (List.nil_sublist _)⟩
   ·unfold yK;rw [if_neg h110,if_neg (by rw [hl];decide),hl]
   ·unfold zX;rw [if_neg (by rw [hl];decide)];exact ya.none _
  | true=>
   refine zi kr kr<|zh [0,1,2,3,4] kr kr<|rp [.v,.l 1,.v] H4 kr fun gs5 w5 H5=>wX [3,4] ?_;have H6:St w.heap.size w w5 [((gs1 0).b,kdO g p n c),((gs1 1).b,fdO m s p2 n2 c2),((gs1 2).b,itZ)]:=H5.as kr;refine zkm H6 (some 24) 42 44 3 48 (.tmp 23) (.tmp 23) .i64 .i64 n2 kr kr kr kr kr (by omega) (by unfold maxLen;omega) ?_;intro br C0 w6 H7 hC0;clear H4 H5 H6;have H8:St w.heap.size w w6 (((gs1 0).b,kdO g p n c)::(br,rwO C0)::((gs1 1).b,fdO m s p2 n2 c2)::((gs1 2).b,itZ)::[]):=H7.perm (List.Perm.swap _ _ _);clear H7;refine rp [.v] H8 kr fun gs6 w7 H9=>wX []<|zc<|zb kr<|rS [.v,.l 2,.v,.v] H9 kr fun gs7 w8 H10=>zu 1 kr ?_;have H11:St w.heap.size w w8 (((gs1 0).b,kdO g p n c)::(br,rwO C0)::((gs1 1).b,fdO m s p2 n2 c2)::((gs1 2).b,itZ)::[]):=H10.as kr;clear H8 H9 H10;refine yD kr (fun mz ρ ww=> ∃(i:Nat) (r:Fe) (v:Int) (C:Array Value) (M:List X3) (T:List (Nat×Obj)),n2-i=mz∧FrR fS w.heap.size w p2 i r∧i+r.len=n2∧r.sub zb1∧0≤qd r g b i v∧(toFo M).app (qv r g b i)=qv l g b 0∧xH C n2 i M∧AllIn T M∧St w.heap.size w ww (((gs1 0).b,kdO g p n c)::(br,rwO C)::((gs1 1).b,fdO m s p2 n2 c2)::((gs1 2).b,itZ)::T)∧Is [(2,.pointer (some ⟨(gs1 0).b,0,none⟩)),(3,.pointer (some ⟨(gs1 1).b,0,none⟩)),(4,.pointer (some ⟨(gs1 2).b,0,none⟩)),(5,.slice (some ⟨br,0,none⟩) n2 n2),(26,.slice p2 n2 c2),(27,.int .i64 (n2:Int)),(28,.int .i64 (i:Int))] ρ) (n2-0) ⟨0,l,_,C0,[],[],rfl,hF.start,by omega,hs,hfit.2,rfl,xH.start hC0,(fun _ h=>nomatch h),H11,(Is.of ⟨kr,kr,kr,kr,kr,kr,kr,trivial⟩)⟩ ?_;clear H11;rintro _ _ w9 ⟨i,r,v,C,M,T,rfl,hR,hN,hsub,hlf,happ,hFill,hAll,H12,_,rfl⟩;by_cases hi:i<n2
   ·refine rS [.E (.bool (decide ((i:Int)<(n2:Int)))) (.bool true) (za (decide_eq_true (by omega)))] H12 kr fun gs8 w10 H13=>?_;clear H12;refine zb kr<|zi kr kr<|zp kr<|wW<|zb kr<|zu 2 kr ?_;obtain ⟨⟨m1,s1⟩,k1,r1,b1,off1,C1,T1,fz1,p1,n1,c1,hr1,hp1,hb1,hh1,hs1,hx1,hz1,hk1,hR1,hN1⟩:=FrR.open hR hN hi;obtain ⟨g',p',n',c',hK1,hK2,hg'⟩:=hK.kid g i;subst hr1;rw [zak,←hg'] at hlf;have hkid:0≤zW g' (zv g b i).2 (m1,s1) k1 v∧0≤qd r1 g b (i+1) (zW g' (zv g b i).2 (m1,s1) k1 v):=by
     by_cases hv:zW g' (zv g b i).2 (m1,s1) k1 v<0
     ·rw [if_pos hv] at hlf;omega
     ·rw [if_neg hv] at hlf;exact ⟨Int.not_lt.1 hv,hlf⟩
    refine zh [0,1,2,3,4,5] kr kr<|rp [.v,.o (ins:=[((.tmp 26),.slice p2 n2 c2),((.tmp 28),.int .i64 (i:Int))]) (v:=.pointer (some ⟨b1,off1+i*3,none⟩)) (fun ρ o w ho hi2=>yH (kd:=.i64) (t:=88) (e:=91) (K:=3) (bytes:=48) kr (x:=(.tmp 26)) (y:=(.tmp 28)) b1 off1 n2 c2 i hp1 ho hi2.1 hi2.2.1 (by omega) w),.fp (off:=off1+i*3) (n:=3) (W:=#[.int .u64 (m1:Int),.string s1,.slice p1 n1 c1]) hh1 hb1 hs1 hx1] H13 kr fun gs9 w11 H14=>wX [3,4,5] ?_;have H15:St w.heap.size w w11 (((gs1 0).b,kdO g p n c)::(br,rwO C)::((gs1 1).b,fdO m s p2 n2 c2)::((gs1 2).b,itZ)::T):=H14.as kr;refine zP H15 (some 7) 91 (.agg #[wZ,.string ⟨#[]⟩,.slice none 0 0]) kr kr kr ?_;intro bq w12 H16;refine rp [.v,.s 0] H16 kr fun gs10 w13 H17=>wX []<|zc ?_;have H18:St w.heap.size w w13 ((bq,fdO m1 s1 p1 n1 c1)::((gs1 0).b,kdO g p n c)::(br,rwO C)::((gs1 1).b,fdO m s p2 n2 c2)::((gs1 2).b,itZ)::T):=H17.as kr;clear H13 H14 H15 H16 H17;have hc:=hsub.1 g' p' n' c' (zv g b i).2 m1 s1 p1 n1 c1 v hz1.1 hkid.1;refine D2.g_draw0 [0,1,2,3,4,5,6,7,8] [(some 33,fun _=>.slice (some ⟨br,0,none⟩) n2 n2),(some 34,fun _=>.int .i64 (i:Int)),(some 35,fun _=>knd g p n c),(some 36,fun _=>.int .i64 (i:Int)),(some 37,fun _=>knd g' p' n' c'),(some 38,fun _=>fld m1 s1 p1 n1 c1),(some 39,fun y=>.agg y.cur),(some 40,fun _=>.pointer (some ⟨br,0+i*3,none⟩)),(none,fun _=>undef)]
     (jE w.heap.size w bq br C i (fun x T2=>x.l=yf g'∧x.s=yK g' (m1,s1)∧x.k=zX g' (zv g b i).2 k1∧ya T2 x.p x.n x.k) (gs1 0).b (kdO g p n c) (fdO m1 s1 p1 n1 c1) (((gs1 1).b,fdO m s p2 n2 c2)::((gs1 2).b,itZ)::T)) kr kr kr H18.drew ⟨?_,?_,?_,?_,?_,?_,?_,?_,?_,trivial⟩ ?_
    ·exact D2.gv_val (fun _ _ _ h=>h) (fun g w=>by kernel_rfl)
    ·exact D2.gv_val (fun _ _ _ h=>h) (fun g w=>by kernel_rfl)
    ·refine D2.gv_ld (fun _ _ _ h=>h) 106 (.tmp 2) (fun _=>(gs1 0).b) 0 #[.int .u8 ((g:Nat):Int),.slice p n c] 106 (0,0) (fun g=>by kernel_rfl) (fun g=>by kernel_rfl) (fun L g w hN hp=>?_) kr kr;obtain ⟨T',h⟩:=hp.st (hN.post 8 kr);exact h.get 1 kr
    ·exact D2.gv_val (fun _ _ _ h=>h) (fun g w=>by kernel_rfl)
    ·refine D2.gv_cpW (fun _ _ _ h=>h) 115 #[knd g p n c,.int .i64 (i:Int)] (zdW g p n c i g' p' n' c') (fun L g w hN hp=>?_) (fun L g w w' hN hp hb=>hp.call hb) (fun g w=>by kernel_rfl);obtain ⟨T',h⟩:=hp.st (hN.post 8 kr);exact hK1.up h.below h.below.size
    ·refine D2.gv_ld (fun _ _ _ h=>h) 91 (.tmp 7) (fun _=>bq) 0 #[.int .u64 (m1:Int),.string s1,.slice p1 n1 c1] 91 (0,0) (fun g=>by kernel_rfl) (fun g=>by kernel_rfl) (fun L g w hN hp=>?_) kr kr;obtain ⟨T',h⟩:=hp.st (hN.post 8 kr);exact h.get 0 kr
    ·refine D2.gv_ft 77 #[knd g' p' n' c',fld m1 s1 p1 n1 c1] hc (fun L g w hN hp=>?_) (fun L gg ww v' T2 w' hN hp hok hT=>?_) (fun g w=>by kernel_rfl)
     ·obtain ⟨T',h⟩:=hp.st (hN.post 8 kr);exact ⟨hK2.call h.below,hk1.call h.below⟩
     ·obtain ⟨q1,q2,q3,rfl,hsl⟩:=hok;refine ⟨{ cur:=#[.bool (yf g'),.string (yK g' (m1,s1)),.slice q1 q2 q3] },rfl,?_⟩;unfold jE at hp ⊢;rw [hN.post 8 kr,hN.1] at hp;rw [show D2.put1 L 6 8=false from hN.post 8 kr,show D2.put1 L 6 6=true from rfl];exact ⟨⟨yf g',yK g' (m1,s1),q1,q2,q3,zX g' (zv g b i).2 k1⟩,T2,⟨rfl,rfl,rfl,hsl⟩,rfl,(St.addAll hp hT).perm (List.perm_append_comm_assoc T2 [(bq,fdO m1 s1 p1 n1 c1),((gs1 0).b,kdO g p n c),(br,rwO C)] (((gs1 1).b,fdO m s p2 n2 c2)::((gs1 2).b,itZ)::T)).symm⟩
    ·exact D2.gv_op (fun _ _ _ h=>h) _ (fun g=>by kernel_rfl) (fun g o w ho=>yH (kd:=.i64) (t:=42) (e:=44) (K:=3) (bytes:=48) kr (x:=(.tmp 33)) (y:=(.tmp 34)) br 0 n2 n2 i rfl ho kr kr hi w)
    ·refine D2.gives_of fun L1 gg ww hp hN=>?_;have h6:=hN.bef 6 kr;unfold jE at hp;rw [hN.1,h6] at hp;obtain ⟨x,T2,hx,hcur,HS⟩:=hp;obtain ⟨o,ho,hd,hw,hop⟩:=zH (show opk _ 8 _=some (none,true,.store 44 (.tmp 40) (.tmp 39)) by kernel_rfl);refine ⟨o,ho,hd,.inr ⟨hw,?_⟩⟩;rw [kV (t:=44) (off:=0+i*3) (b:=br) (C:=C) (T:=44) (v:=.agg (xc x)) (C':=zb2 C i x) (HS.get 2 kr) kr kr (hFill.put x hi).1 rfl kr (by rw [←hcur];kernel_rfl) o hop];refine ⟨default,rfl,?_⟩;unfold jE;rw [show D2.put1 L1 8 8=true from rfl];exact ⟨x,T2,hx,HS.store 2 (C:=C) kr⟩
    ·intro L1 gg w14 hall hp;unfold jE at hp;rw [hall 8 (Nat.le_of_ble_eq_true kr)] at hp;obtain ⟨x,T2,⟨hx1,hx2,hx3,hx4⟩,HS⟩:=hp;have H19:St w.heap.size w w14 (((gs1 0).b,kdO g p n c)::(br,rwO (zb2 C i x))::((gs1 1).b,fdO m s p2 n2 c2)::((gs1 2).b,itZ)::(T2++T)):=(HS.sub (List.sublist_cons_self ..)).perm (List.Perm.cons _ (List.Perm.cons _ (List.perm_append_comm_assoc T2 [((gs1 1).b,fdO m s p2 n2 c2),((gs1 2).b,itZ)] T).symm));refine wW<|rL [.E (.int .i64 (IntKind.i64.wrap ((i:Int)+1))) (.int .i64 ((i+1:Nat):Int)) (zk (yF (a:=i) (b:=1) (by omega))),.v] H19 kr fun gs11 w15 H20=>?_;show ∃m,_∧_;refine ⟨_,(by omega),i+1,r1,_,zb2 C i x,M++ [x],T2++T,rfl,hR1,hN1,hsub.2,hkid.2,?_,(hFill.put x hi).2,?_,H20.as kr,(Is.of ⟨kr,kr,kr,kr,kr,kr,kr,trivial⟩)⟩
     ·rw [zhk,hx1,hx2,hx3,←happ,zbU,←hg']
     ·exact (hAll.mono fun e he=>List.mem_append_right _ he).snoc (hx4.mono fun e he=>List.mem_append_left _ he) (by rw [hx2];exact zhl hz1.2)
   ·obtain rfl:=FrR.done hN hi;obtain rfl:i=n2:=by simp only [Fr.len] at hN;omega
    refine rS [.E (.bool (decide ((i:Int)<(i:Int)))) (.bool false) (za (decide_eq_false (by omega)))] H12 kr fun gs8 w10 H13=>zb kr<|zl kr kr<|ym 1 kr<|wW ?_;have hM:toFo M=zX g b l:=by
     unfold zX;rw [if_pos hl,←happ];exact (Fo.app_nil _).symm
    have hrw:=hFill.done (by unfold maxLen;omega);refine zh [0,1,2] kr kr<|rp [.v] H13 kr fun gs9 w11 H14=>wX [1,2] ?_;have H15:St w.heap.size w w11 (((gs1 0).b,kdO g p n c)::(br,rwO C)::((gs1 1).b,fdO m s p2 i c2)::((gs1 2).b,itZ)::T):=H14.as kr;refine zgN H15 (some 43) 24 #[.slice (some ⟨br,0,none⟩) i i] (fun w=>i=List.length M∧jp w (some ⟨br,0,none⟩) M) 44 (fun v=>.agg #[.bool true,.string ⟨#[]⟩,v]) i M (zhj _ _ _ M (by omega)) (hrw.cellsAt (T:=44) (fz:=(0,0)) (H15.get 1 kr)) kr kr ?_ ?_
    ·intro w12 h0 H16;subst h0;refine rp [.s 3] H16 kr fun gs10 w13 H17=>wX []<|zc<|rRr [.cell 4 44] [3] (.agg #[.bool true,.string ⟨#[]⟩,.slice none 0 0]) (zU w.heap.size w (zal g b (m,s) l)) H17 kr ?_;refine ⟨[],⟨none,0,0,?_,?_⟩,H17.sub (List.nil_sublist _)⟩
     ·unfold yK;rw [if_neg h110,if_pos hl,hl]
     ·rw [←hM,List.eq_nil_of_length_eq_zero hFill.len];exact ya.none _
    ·intro bl cap cur w12 H16 hr;refine rp [.s 4] H16 kr fun gs10 w13 H17=>wX []<|zc<|rRr [.cell 4 44] [4] (.agg #[.bool true,.string ⟨#[]⟩,.slice (some ⟨bl,0,none⟩) i cap]) (zU w.heap.size w (zal g b (m,s) l)) H17 kr ?_;have H18:St w.heap.size w w13 ((bl,rwO cur)::((gs1 0).b,kdO g p n c)::(br,rwO C)::((gs1 1).b,fdO m s p2 i c2)::((gs1 2).b,znb (.slice (some ⟨bl,0,none⟩) i cap))::T):=H17.as kr;refine ⟨(bl,rwO cur)::T,⟨some ⟨bl,0,none⟩,i,cap,?_,?_⟩,H18.sub (List.Sublist.cons_cons _ (List.Sublist.cons _ (List.Sublist.cons _ (List.Sublist.cons _ (List.sublist_cons_self ..)))))⟩
     ·unfold yK;rw [if_neg h110,if_pos hl,hl]
     ·rw [←hM];exact hr.slIn (ty:=44) (fz:=(0,0)) (List.mem_cons_self ..) (hAll.mono fun e he=>List.mem_cons_of_mem _ he) (by omega)
theorem znd (l:Fe):zb1 l:=(Fr.induct znc l).1
def Fr.app {α:Type} :Fr α→Fr α→Fr α
 | .nil,R=>R
 | .cons a k r,R=>.cons a k (r.app R)
theorem zhm {α:Type}(x:El α)(R:Fr α): ∀M:List (El α),(yA (M++ [x])).app R=(yA M).app (.cons x.a x.k R)
 | []=>rfl
 | y::r=>by simp only [List.cons_append,yA,Fr.app,zhm x R r]
theorem Fr.app_nil {α:Type} : ∀k:Fr α,k.app .nil=k
 | .nil=>rfl
 | .cons a k r=>by simp only [Fr.app,Fr.app_nil r]
def Fo.sub (p:Fo→Prop):Fo→Prop
 | .nil=>True
 | .cons l s k r=>p k∧r.sub p
theorem Fo.induct {p:Fo→Prop}(h: ∀l:Fo,l.sub p→p l): ∀l:Fo,p l∧l.sub p
 | .nil=>⟨h .nil trivial,trivial⟩
 | .cons l s k r=>⟨h _ ⟨(Fo.induct h k).1,(Fo.induct h r).2⟩,(Fo.induct h k).1,(Fo.induct h r).2⟩
theorem zne (s:ByteArray):(zL s).1<0x10000000000000000:=by
 unfold zL;split
 ·decide
 ·rename_i h
  exact zdD (by rw [zy];omega)
theorem znf (g:Nat)(l:Bool)(s:ByteArray)(n:Nat):qj g l s n<0x10000000000000000:=by
 unfold qj jC;split
 ·split
  ·decide
  ·exact zne s
 ·decide
theorem zng {g:Nat}{s:ByteArray}(h:s.size≤0x800000000000):(yS g s).size≤0x800000000000:=by
 unfold yS;split
 ·exact Nat.zero_le _
 ·exact h
def zhn (g:Nat)(b:Kf)(l:Bool)(s:ByteArray)(k:Fo)(v:Value)(T:List (Nat×Obj)):Prop:=
 ∃(p:Option Addr) (n c:Nat),v=fld (qj g l s k.len) (yS g s) p n c∧RIn fS T p n (yT g b k)
abbrev itm (l:Bool)(s:ByteArray)(p:Option Addr)(n c:Nat):Value:=.agg #[.bool l,.string s,.slice p n c]
def zb3 (k:Fo):Prop:= ∀(g:Nat) (p:Option Addr) (n c:Nat) (b:Kf) (l:Bool) (s:ByteArray) (p2:Option Addr) (n2 c2:Nat),s.size≤0x800000000000→k.cnt≤1000000→
 FnT Tryz.prog 144 #[knd g p n c,itm l s p2 n2 c2] (fun w=>SlR kS w.heap.size w p n b∧zx w.heap.size w p2 n2 k) (zhn g b l s k)
abbrev ixO (l:Bool)(s:ByteArray)(p:Option Addr)(n c:Nat):Obj:=.cells #[.bool l,.string s,.slice p n c] 44 (0,0)
abbrev frO (C:Array Value):Obj:=.cells C 91 (0,0)
abbrev fZ (v:Value):Obj:=.cells #[wZ,.string ⟨#[]⟩,v] 91 (0,0)
abbrev ec (x:El (Nat×ByteArray)):Array Value:=#[.int .u64 ((x.a.1:Nat):Int),.string x.a.2,.slice x.p x.n x.c]
def qe (B:Nat)(w0:World)(bq bf bk:Nat)(qO kO:Obj)(p:Option Addr)(i c:Nat)(row:List (Nat×Obj))(M:List (El (Nat×ByteArray)))(ok:El (Nat×ByteArray)→List (Nat×Obj)→Prop)(T:List (Nat×Obj)):(Nat→Bool)→(Nat→D2.Gh)→World→Prop:=fun L g w=>
 bif L 8 then ∃x T2,ok x T2∧Rw 3 (g 8).cur (g 8).cap (i+1) (zN fS (M++ [x]))∧St B w0 w ((bq,qO)::(bf,fZ (bif L 10 then .slice (some ⟨(g 8).b,0,none⟩) (i+1) (g 8).cap else .slice p i c))::(bk,kO)::((g 8).b,frO (g 8).cur)::(T2++T))
 else bif L 7 then ∃x T2,ok x T2∧St B w0 w (((g 7).b,frO (ec x))::(bq,qO)::(bf,fZ (.slice p i c))::(bk,kO)::(row++(T2++T)))
 else bif L 6 then ∃x T2,ok x T2∧(g 6).cur=ec x∧St B w0 w ((bq,qO)::(bf,fZ (.slice p i c))::(bk,kO)::(row++(T2++T)))
 else St B w0 w ((bq,qO)::(bf,fZ (.slice p i c))::(bk,kO)::(row++T))
section
variable {B:Nat}{w0:World}{bq bf bk:Nat}{qO kO:Obj}{p:Option Addr}{i c:Nat}{row:List (Nat×Obj)}{M:List (El (Nat×ByteArray))}{ok:El (Nat×ByteArray)→List (Nat×Obj)→Prop}{T:List (Nat×Obj)}{L:Nat→Bool}{g:Nat→D2.Gh}{w w':World}
theorem qe.f (h8:L 8=false)(h:qe B w0 bq bf bk qO kO p i c row M ok T L g w):∃l,St B w0 w l∧(bf,fZ (.slice p i c))∈l:=by
 unfold qe at h;rw [h8] at h;cases h7:L 7 with
 | true=>rw [h7] at h;obtain ⟨x,T2,_,h⟩:=h;exact ⟨_,h,by simp⟩
 | false=>
  rw [h7] at h;cases h6:L 6 with
  | true=>rw [h6] at h;obtain ⟨x,T2,_,_,h⟩:=h;exact ⟨_,h,by simp⟩
  | false=>rw [h6] at h;exact ⟨_,h,by simp⟩
theorem qe.st (h8:L 8=false)(h7:L 7=false)(h6:L 6=false)(h:qe B w0 bq bf bk qO kO p i c row M ok T L g w):St B w0 w ((bq,qO)::(bf,fZ (.slice p i c))::(bk,kO)::(row++T)):=by
 unfold qe at h;rw [h8,h7,h6] at h;exact h
theorem qe.call (hb:Below w.heap.size w w')(h:qe B w0 bq bf bk qO kO p i c row M ok T L g w):qe B w0 bq bf bk qO kO p i c row M ok T L g w':=by
 unfold qe at h ⊢;cases h8:L 8 with
 | true=>rw [h8] at h;obtain ⟨x,T2,h1,h2,h⟩:=h;exact ⟨x,T2,h1,h2,h.call hb⟩
 | false=>
  rw [h8] at h;cases h7:L 7 with
  | true=>rw [h7] at h;obtain ⟨x,T2,h1,h⟩:=h;exact ⟨x,T2,h1,h.call hb⟩
  | false=>
   rw [h7] at h;cases h6:L 6 with
   | true=>rw [h6] at h;obtain ⟨x,T2,h1,h2,h⟩:=h;exact ⟨x,T2,h1,h2,h.call hb⟩
   | false=>rw [h6] at h;exact St.call h hb
end
theorem znh (k:Fo)(hs:k.sub zb3):zb3 k:=by
 intro g p n c b l s p2 n2 c2 hsz hcnt;refine FnT.intro (c:=zd Tryz.f144) [.cell 4 91] 44 Tryz.func144 kr kr kr fun w hpre=>?_;have H0:=St.start w;obtain ⟨hK,hF⟩:=hpre;have hn2:=hF.1;have hn3:=hF.2.1;have hlen:=k.len_le;refine rS [.b,.b,.a] H0 kr fun gs1 w1 H1=>?_;clear H0;refine rS [.a] H1 kr fun gs2 w2 H2=>?_;clear H1;refine zb kr<|vx (Q:=fun e ρ ww=>e=.normal∧∃(p3:Option Addr) (n3 c3:Nat) (T:List (Nat×Obj)),RIn fS T p3 n3 (yT g b k)∧St w.heap.size w ww (((gs2 0).b,fdO (qj g l s k.len) (yS g s) p3 n3 c3)::((gs1 2).b,fZ (.slice none 0 0))::T)∧Is [(4,.pointer (some ⟨(gs1 2).b,0,none⟩)),(5,.pointer (some ⟨(gs2 0).b,0,none⟩))] ρ) ?_ ?_
 ·refine rS [.v,.l 0] H2 kr fun gs3 w3 H3=>?_;clear H2;refine zu 0 kr ?_;by_cases h110:g=110
  ·refine rS [.E (.bool ((g:Int)==110)) (.bool true) (za (beq_iff_eq.2 (by omega))),.v] H3 kr fun gs4 w4 H4=>zi kr kr ?_;have hv:qj g l s k.len=(jC l s n2).1:=by unfold qj;rw [if_pos h110,hn2]
   have hb:yS g s=⟨#[]⟩:=by unfold yS;rw [if_pos (.inl h110)]
   have hk:yT g b k=.nil:=by unfold yT;rw [h110];rfl
   rw [hv,hb,hk];refine rL [.l 1,.cp (pre:=fun w=>zx w.heap.size w p2 n2 k) (zmk l s p2 n2 c2 k hsz) [] (fun w hb hd=>hF.call hb),.v,.v,.v,.v,.s 3] H4 kr fun gs5 w5 H5=>?_;have H6:St w.heap.size w w5 [((gs1 0).b,kdO g p n c),((gs1 1).b,ixO l s p2 n2 c2),((gs1 2).b,fZ (.slice none 0 0)),((gs2 0).b,fdO (jC l s n2).1 ⟨#[]⟩ none 0 0)]:=H5.as kr;refine ⟨rfl,none,0,0,[],RIn.none _ _,?_,(Is.of ⟨kr,kr,trivial⟩)⟩;exact (H6.sub (List.Sublist.cons _ (List.Sublist.cons _ (List.Sublist.refl _)))).perm (List.Perm.swap _ _ _)
  ·refine rS [.E (.bool ((g:Int)==110)) (.bool false) (za (beq_eq_false_iff_ne.2 (by omega))),.v] H3 kr fun gs4 w4 H4=>zl kr kr ?_;have hv:qj g l s k.len=0:=by unfold qj;rw [if_neg h110]
   rw [hv];clear H3;refine zb kr<|vx (Q:=fun e ρ ww=>e=.normal∧St w.heap.size w ww [((gs1 0).b,kdO g p n c),((gs1 1).b,ixO l s p2 n2 c2),((gs1 2).b,fZ (.slice none 0 0)),((gs2 0).b,fZ (.slice none 0 0))]∧Is [(2,.pointer (some ⟨(gs1 0).b,0,none⟩)),(3,.pointer (some ⟨(gs1 1).b,0,none⟩)),(4,.pointer (some ⟨(gs1 2).b,0,none⟩)),(5,.pointer (some ⟨(gs2 0).b,0,none⟩)),(21,.bool (yf g))] ρ) ?_ ?_
   ·by_cases h40:g=40
    ·refine rS [.E (.bool ((g:Int)==40)) (.bool true) (za (beq_iff_eq.2 (by omega))),.v] H4 kr fun gs5 w5 H5=>zi kr kr<|zp kr ?_;refine ⟨rfl,H5.as kr,?_⟩;subst h40;exact Is.of ⟨kr,kr,kr,kr,kr,trivial⟩
    ·refine rS [.E (.bool ((g:Int)==40)) (.bool false) (za (beq_eq_false_iff_ne.2 (by omega))),.v] H4 kr fun gs5 w5 H5=>zl kr kr ?_;have hl:yf g=decide (g=42):=by unfold yf;rw [decide_eq_false h40];rfl
     rw [hl];by_cases h42:g=42
     ·refine rL [.E (.bool ((g:Int)==42)) (.bool true) (za (beq_iff_eq.2 (by omega))),.v] H5 kr fun gs6 w6 H6=>?_;refine ⟨rfl,H6.as kr,?_⟩;rw [decide_eq_true h42];exact Is.of ⟨kr,kr,kr,kr,kr,trivial⟩
     ·refine rL [.E (.bool ((g:Int)==42)) (.bool false) (za (beq_eq_false_iff_ne.2 (by omega))),.v] H5 kr fun gs6 w6 H6=>?_;refine ⟨rfl,H6.as kr,?_⟩;rw [decide_eq_false h42];exact Is.of ⟨kr,kr,kr,kr,kr,trivial⟩
   rintro _ _ w5 ⟨rfl,H5,_,rfl⟩;refine wW ?_;clear H4;cases hl:yf g with
   | false=>
    refine zl kr kr ?_;have hb:yS g s=s:=by unfold yS;rw [if_neg (by rw [hl];simp [h110])]
    have hk:yT g b k=.nil:=by unfold yT;rw [hl];rfl
    rw [hb,hk];refine rL [.v,.l 1,.v,.s 3] H5 kr fun gs6 w6 H6=>?_;have H7:St w.heap.size w w6 [((gs1 0).b,kdO g p n c),((gs1 1).b,ixO l s p2 n2 c2),((gs1 2).b,fZ (.slice none 0 0)),((gs2 0).b,fdO 0 s none 0 0)]:=H6.as kr;refine ⟨rfl,none,0,0,[],RIn.none _ _,?_,(Is.of ⟨kr,kr,trivial⟩)⟩;exact (H7.sub (List.Sublist.cons _ (List.Sublist.cons _ (List.Sublist.refl _)))).perm (List.Perm.swap _ _ _)
   | true=>
    refine zi kr kr ?_;have hb:yS g s=⟨#[]⟩:=by unfold yS;rw [if_pos (.inr hl)]
    have hk:yT g b k=jL k g b 0:=by unfold yT;rw [if_pos hl]
    rw [hb,hk];refine rS [.v,.l 1,.v,.v] H5 kr fun gs6 w6 H6=>zu 1 kr ?_;have H7:St w.heap.size w w6 [((gs1 0).b,kdO g p n c),((gs1 1).b,ixO l s p2 n2 c2),((gs1 2).b,fZ (.slice none 0 0)),((gs2 0).b,fZ (.slice none 0 0))]:=H6.as kr;have H8:St w.heap.size w w6 (((gs2 0).b,fZ (.slice none 0 0))::((gs1 0).b,kdO g p n c)::([]++(((gs1 1).b,ixO l s p2 n2 c2)::((gs1 2).b,fZ (.slice none 0 0))::[]))):=H7.perm (List.perm_append_comm (l₁:=[((gs2 0).b,fZ (.slice none 0 0))]) (l₂:=[((gs1 0).b,kdO g p n c),((gs1 1).b,ixO l s p2 n2 c2),((gs1 2).b,fZ (.slice none 0 0))]));clear H5 H6 H7;refine yD kr (fun mz ρ ww=> ∃(i:Nat) (r:Fo) (p3:Option Addr) (c3:Nat) (row:List (Nat×Obj)) (M:List (El (Nat×ByteArray))) (T:List (Nat×Obj)),n2-i=mz∧FoR w.heap.size w p2 i r∧i+r.len=n2∧r.sub zb3∧r.cnt≤k.cnt∧(yA M).app (jL r g b i)=jL k g b 0∧RowE fS 91 p3 i c3 row M∧AllE fS T M∧St w.heap.size w ww (((gs2 0).b,fZ (.slice p3 i c3))::((gs1 0).b,kdO g p n c)::(row++(((gs1 1).b,ixO l s p2 n2 c2)::((gs1 2).b,fZ (.slice none 0 0))::T)))∧Is [(2,.pointer (some ⟨(gs1 0).b,0,none⟩)),(3,.pointer (some ⟨(gs1 1).b,0,none⟩)),(4,.pointer (some ⟨(gs1 2).b,0,none⟩)),(5,.pointer (some ⟨(gs2 0).b,0,none⟩)),(25,.slice p2 n2 c2),(26,.int .i64 (n2:Int)),(27,.int .i64 (i:Int))] ρ) (n2-0) ⟨0,k,none,0,[],[],[],rfl,hF.start,by omega,hs,Nat.le_refl _,rfl,.inl ⟨rfl,rfl,rfl,rfl,rfl⟩,(fun _ h=>nomatch h),H8,(Is.of ⟨kr,kr,kr,kr,kr,kr,kr,trivial⟩)⟩ ?_;clear H8;rintro _ _ w9 ⟨i,r,p3,c3,row,M,T,rfl,hR,hN,hsub,hcn,happ,hRow,hAll,H12,_,rfl⟩;by_cases hi:i<n2
    ·refine rS [.E (.bool (decide ((i:Int)<(n2:Int)))) (.bool true) (za (decide_eq_true (by omega)))] H12 kr fun gs8 w10 H13=>?_;clear H12;refine zb kr<|zi kr kr<|zp kr<|wW<|zb kr<|zu 2 kr ?_;obtain ⟨l1,s1,k1,r1,b1,off1,C1,T1,fz1,p1,n1,c1,hr1,hp1,hb1,hh1,hs1,hx1,hz1,hk1,hR1,hN1⟩:=FoR.open hR hN hi;obtain ⟨g',p',n',c',hK1,hK2,hg'⟩:=hK.kid g i;subst hr1;simp only [Fo.cnt] at hcn;refine zh [0,1,2,3,4,5] kr kr<|rp [.v,.o (ins:=[((.tmp 25),.slice p2 n2 c2),((.tmp 27),.int .i64 (i:Int))]) (v:=.pointer (some ⟨b1,off1+i*3,none⟩)) (fun ρ o w ho hi2=>yH (kd:=.i64) (t:=42) (e:=44) (K:=3) (bytes:=48) kr (x:=(.tmp 25)) (y:=(.tmp 27)) b1 off1 n2 c2 i hp1 ho hi2.1 hi2.2.1 (by omega) w),.fp (off:=off1+i*3) (n:=3) (W:=#[.bool l1,.string s1,.slice p1 n1 c1]) hh1 hb1 hs1 hx1] H13 kr fun gs9 w11 H14=>wX [3,4,5] ?_;have H15:St w.heap.size w w11 (((gs2 0).b,fZ (.slice p3 i c3))::((gs1 0).b,kdO g p n c)::(row++(((gs1 1).b,ixO l s p2 n2 c2)::((gs1 2).b,fZ (.slice none 0 0))::T))):=H14.as kr;refine zP H15 (some 7) 44 (.agg #[.bool false,.string ⟨#[]⟩,.slice none 0 0]) kr kr kr ?_;intro bq w12 H16;refine rp [.v,.s 0] H16 kr fun gs10 w13 H17=>wX []<|zc ?_;have H18:St w.heap.size w w13 ((bq,ixO l1 s1 p1 n1 c1)::((gs2 0).b,fZ (.slice p3 i c3))::((gs1 0).b,kdO g p n c)::(row++(((gs1 1).b,ixO l s p2 n2 c2)::((gs1 2).b,fZ (.slice none 0 0))::T))):=H17.as kr;clear H13 H14 H15 H16 H17;have hc:=hsub.1 g' p' n' c' (zv g b i).2 l1 s1 p1 n1 c1 hz1 (by omega);refine D2.g_draw0 [0,1,2,3,4,5,6,7,8,9,10] [(some 32,fun _=>.pointer (some ⟨(gs2 0).b,2,none⟩)),(some 33,fun _=>.slice p3 i c3),(some 34,fun _=>knd g p n c),(some 35,fun _=>.int .i64 (i:Int)),(some 36,fun _=>knd g' p' n' c'),(some 37,fun _=>itm l1 s1 p1 n1 c1),(some 38,fun y=>.agg y.cur),(some 39,fun y=>.slice (some ⟨y.b,0,none⟩) 1 1),(some 40,fun y=>.slice (some ⟨y.b,0,none⟩) (i+1) y.cap),(some 41,fun _=>.pointer (some ⟨(gs2 0).b,2,none⟩)),(none,fun _=>undef)]
      (qe w.heap.size w bq (gs2 0).b (gs1 0).b (ixO l1 s1 p1 n1 c1) (kdO g p n c) p3 i c3 row M (fun x T2=>x.a=(qj g' l1 s1 k1.len,yS g' s1)∧x.k=yT g' (zv g b i).2 k1∧RIn fS T2 x.p x.n x.k) (((gs1 1).b,ixO l s p2 n2 c2)::((gs1 2).b,fZ (.slice none 0 0))::T)) kr kr kr H18.drew ⟨?_,?_,?_,?_,?_,?_,?_,?_,?_,?_,?_,trivial⟩ ?_
     ·exact D2.gv_val (fun _ _ _ h=>h) (fun g w=>by kernel_rfl)
     ·refine D2.gv_ld (fun _ _ _ h=>h) 88 (.tmp 32) (fun _=>(gs2 0).b) 2 #[wZ,.string ⟨#[]⟩,.slice p3 i c3] 91 (0,0) (fun g=>by kernel_rfl) (fun g=>by kernel_rfl) (fun L g w hN hp=>?_) kr kr;obtain ⟨l',h,hm⟩:=hp.f (hN.post 8 kr);exact (h.own _ hm).2
     ·refine D2.gv_ld (fun _ _ _ h=>h) 106 (.tmp 2) (fun _=>(gs1 0).b) 0 #[.int .u8 ((g:Nat):Int),.slice p n c] 106 (0,0) (fun g=>by kernel_rfl) (fun g=>by kernel_rfl) (fun L g w hN hp=>?_) kr kr;have h4:=hN.post 4 kr;have h6:=hN.2.2.no 4 6 kr h4;have h7:=hN.2.2.no 6 7 kr h6;exact (hp.st (hN.2.2.no 7 8 kr h7) h7 h6).get 2 kr
     ·exact D2.gv_val (fun _ _ _ h=>h) (fun g w=>by kernel_rfl)
     ·refine D2.gv_cpW (fun _ _ _ h=>h) 115 #[knd g p n c,.int .i64 (i:Int)] (zdW g p n c i g' p' n' c') (fun L g w hN hp=>?_) (fun L g w w' hN hp hb=>hp.call hb) (fun g w=>by kernel_rfl);have h6:=hN.post 6 kr;have h7:=hN.2.2.no 6 7 kr h6;have h:=hp.st (hN.2.2.no 7 8 kr h7) h7 h6;exact hK1.up h.below h.below.size
     ·refine D2.gv_ld (fun _ _ _ h=>h) 44 (.tmp 7) (fun _=>bq) 0 #[.bool l1,.string s1,.slice p1 n1 c1] 44 (0,0) (fun g=>by kernel_rfl) (fun g=>by kernel_rfl) (fun L g w hN hp=>?_) kr kr;have h6:=hN.post 6 kr;have h7:=hN.2.2.no 6 7 kr h6;exact (hp.st (hN.2.2.no 7 8 kr h7) h7 h6).get 0 kr
     ·refine D2.gv_ft 144 #[knd g' p' n' c',itm l1 s1 p1 n1 c1] hc (fun L g w hN hp=>?_) (fun L gg ww v' T2 w' hN hp hok hT=>?_) (fun g w=>by kernel_rfl)
      ·have h7:=hN.post 7 kr;have h:=hp.st (hN.2.2.no 7 8 kr h7) h7 hN.1;exact ⟨hK2.call h.below,hk1.call h.below⟩
      ·obtain ⟨q1,q2,q3,rfl,hsl⟩:=hok;have h7:=hN.post 7 kr;have h8:=hN.2.2.no 7 8 kr h7;refine ⟨{ cur:=#[.int .u64 ((qj g' l1 s1 k1.len:Nat):Int),.string (yS g' s1),.slice q1 q2 q3] },rfl,?_⟩;have hp:=hp.st h8 h7 hN.1;unfold qe;rw [show D2.put1 L 6 8=false from h8,show D2.put1 L 6 7=false from h7,show D2.put1 L 6 6=true from rfl];exact ⟨⟨(qj g' l1 s1 k1.len,yS g' s1),q1,q2,q3,yT g' (zv g b i).2 k1⟩,T2,⟨rfl,rfl,hsl⟩,rfl,(St.addAll hp hT).perm ((List.Perm.cons _ (List.Perm.cons _ (List.Perm.cons _ (List.perm_append_comm_assoc row T2 _)))).trans (List.perm_append_comm_assoc T2 [(bq,ixO l1 s1 p1 n1 c1),((gs2 0).b,fZ (.slice p3 i c3)),((gs1 0).b,kdO g p n c)] (row++_)).symm)⟩
     ·refine D2.gives_of fun L1 gg ww hp hN=>?_;have h6:=hN.bef 6 kr;have h8:=hN.post 8 kr;unfold qe at hp;rw [h8,hN.1,h6] at hp;obtain ⟨x,T2,hx,hcur,HS⟩:=hp;obtain ⟨o,ho,hd,hw,hrun⟩:=zQ (show opv _ _ 7 (yV [(32,.pointer (some ⟨(gs2 0).b,2,none⟩)),(33,.slice p3 i c3),(34,knd g p n c),(35,.int .i64 (i:Int)),(36,knd g' p' n' c'),(37,itm l1 s1 p1 n1 c1),(38,.agg (gg 6).cur)] _) ww=some (some 39,true,.ok (.value (.slice (some ⟨ww.heap.size,0,none⟩) 1 1)) (ww.alloc (.cells (ec x) 91))) by rw [hcur];kernel_rfl);refine ⟨o,ho,hd,.inr ⟨hw,?_⟩⟩;refine (congrArg (D2.Runs _ _) hrun).mpr ?_;refine ⟨{ b:=ww.heap.size },rfl,?_⟩;unfold qe;rw [show D2.put1 L1 7 8=false from h8,show D2.put1 L1 7 7=true from rfl];exact ⟨x,T2,hx,HS.alloc _⟩
     ·refine D2.gives_of fun L1 gg ww hp hN=>?_;have h7:=hN.bef 7 kr;have h10:=hN.post 10 kr;unfold qe at hp;rw [hN.1,h7] at hp;obtain ⟨x,T2,hx,HS⟩:=hp;obtain ⟨o,ho,hd,hw,hop⟩:=zH (show opk _ 8 _=some (some 40,true,yq 88 (.tmp 33) (.tmp 39)) by kernel_rfl);refine ⟨o,ho,hd,.inr ⟨hw,?_⟩⟩;rcases hRow with ⟨rfl,rfl,rfl,rfl,rfl⟩ | ⟨br,cur,rfl,rfl,hrw⟩
      ·obtain ⟨b',cap',cur',w',hrun,HS',hr'⟩:=za6 (K:=3) HS (t:=88) (e:=91) (bytes:=48) (k:=0) (bx:=(gg 7).b) (c:=1) (Y:=ec x) kr hop kr kr rfl rfl (xF rfl) (by omega);rw [hrun];refine ⟨{ b:=b',cap:=cap',cur:=cur' },rfl,?_⟩;unfold qe;rw [show D2.put1 L1 8 8=true from rfl,show D2.put1 L1 8 10=false from h10];refine ⟨x,T2,hx,hr',?_⟩;exact (HS'.sub (List.Sublist.cons_cons _ (List.sublist_cons_self ..))).perm (List.perm_middle (l₁:=[(bq,ixO l1 s1 p1 n1 c1),((gs2 0).b,fZ (.slice none 0 0)),((gs1 0).b,kdO g p n c)]))
      ·obtain ⟨b',cap',cur',w',hrun,HS',hr'⟩:=uQ (K:=3) HS (t:=88) (e:=91) (bytes:=48) (j:=4) (k:=0) (bx:=(gg 7).b) (c:=1) (Y:=ec x) kr hop kr rfl hrw kr rfl rfl (xF rfl) (by omega) (by unfold maxLen;omega);rw [hrun];refine ⟨{ b:=b',cap:=cap',cur:=cur' },rfl,?_⟩;unfold qe;rw [show D2.put1 L1 8 8=true from rfl,show D2.put1 L1 8 10=false from h10];refine ⟨x,T2,hx,?_,HS'.sub (List.sublist_cons_self ..)⟩;rw [uP];exact hr'
     ·exact D2.gv_val (fun _ _ _ h=>h) (fun g w=>by kernel_rfl)
     ·refine D2.gives_of fun L1 gg ww hp hN=>?_;have h8:=hN.bef 8 kr;unfold qe at hp;rw [h8,hN.1] at hp;obtain ⟨x,T2,hx,hr',HS⟩:=hp;obtain ⟨o,ho,hd,hw,hop⟩:=zH (show opk _ 10 _=some (none,true,.store 88 (.tmp 41) (.tmp 40)) by kernel_rfl);refine ⟨o,ho,hd,.inr ⟨hw,?_⟩⟩;rw [kV (t:=88) (off:=2) (b:=(gs2 0).b) (C:=#[wZ,.string ⟨#[]⟩,.slice p3 i c3]) (T:=91) (v:=.slice (some ⟨(gg 8).b,0,none⟩) (i+1) (gg 8).cap) (C':=#[wZ,.string ⟨#[]⟩,.slice (some ⟨(gg 8).b,0,none⟩) (i+1) (gg 8).cap]) (HS.get 1 kr) kr kr (of_decide_eq_true kr) kr kr kr o hop];refine ⟨default,rfl,?_⟩;unfold qe;rw [show D2.put1 L1 10 8=true from h8,show D2.put1 L1 10 10=true from rfl];exact ⟨x,T2,hx,hr',HS.store 1 (C:=#[wZ,.string ⟨#[]⟩,.slice p3 i c3]) kr⟩
     ·intro L1 gg w14 hall hp;unfold qe at hp;rw [hall 8 (Nat.le_of_ble_eq_true kr),hall 10 (Nat.le_of_ble_eq_true kr)] at hp;obtain ⟨x,T2,⟨hx1,hx2,hx3⟩,hr',HS⟩:=hp;have H19:St w.heap.size w w14 (((gs2 0).b,fZ (.slice (some ⟨(gg 8).b,0,none⟩) (i+1) (gg 8).cap))::((gs1 0).b,kdO g p n c)::([((gg 8).b,frO (gg 8).cur)]++(((gs1 1).b,ixO l s p2 n2 c2)::((gs1 2).b,fZ (.slice none 0 0))::(T2++T)))):=(HS.sub (List.sublist_cons_self ..)).perm (List.Perm.cons _ (List.Perm.cons _ (List.Perm.cons _ (List.perm_append_comm_assoc T2 [((gs1 1).b,ixO l s p2 n2 c2),((gs1 2).b,fZ (.slice none 0 0))] T).symm)));refine wW<|rL [.E (.int .i64 (IntKind.i64.wrap ((i:Int)+1))) (.int .i64 ((i+1:Nat):Int)) (zk (yF (a:=i) (b:=1) (by omega))),.v] H19 kr fun gs11 w15 H20=>?_;show ∃m,_∧_;refine ⟨_,(by omega),i+1,r1,_,_,[((gg 8).b,frO (gg 8).cur)],M++ [x],T2++T,rfl,hR1,hN1,hsub.2,(by omega),?_,.inr ⟨_,_,rfl,rfl,hr'⟩,?_,H20.as kr,(Is.of ⟨kr,kr,kr,kr,kr,kr,kr,trivial⟩)⟩
      ·rw [zhm,hx1,hx2,←happ,zg3,←hg']
      ·exact (hAll.mono fun e he=>List.mem_append_right _ he).snoc (hx3.mono fun e he=>List.mem_append_left _ he) (by rw [hx1];exact ⟨znf ..,zng hz1⟩)
    ·obtain rfl:=FoR.done hN hi;obtain rfl:i=n2:=by simp only [Fo.len] at hN;omega
     refine rS [.E (.bool (decide ((i:Int)<(i:Int)))) (.bool false) (za (decide_eq_false (by omega)))] H12 kr fun gs8 w10 H13=>zb kr<|zl kr kr<|ym 1 kr ?_;have hM:yA M=jL k g b 0:=by
      rw [←happ];exact (Fr.app_nil _).symm
     have H14:St w.heap.size w w10 (((gs2 0).b,fZ (.slice p3 i c3))::((gs1 0).b,kdO g p n c)::(row++(((gs1 1).b,ixO l s p2 i c2)::((gs1 2).b,fZ (.slice none 0 0))::T))):=H13.as kr;refine ⟨rfl,p3,i,c3,row++T,?_,?_,(Is.of ⟨kr,kr,trivial⟩)⟩
     ·rw [←hM];exact hRow.rIn (by decide) hAll hn3
     ·refine (H14.sub (l':=((gs2 0).b,fZ (.slice p3 i c3))::(row++(((gs1 2).b,fZ (.slice none 0 0))::T))) (List.Sublist.cons_cons _ (List.Sublist.cons _ (List.Sublist.append (List.Sublist.refl _) (List.sublist_cons_self ..))))).perm ?_;exact List.Perm.cons _ (List.perm_middle).symm
 rintro _ _ w5 ⟨rfl,p3,n3,c3,T,hT,H5,_,rfl⟩;refine wW<|rS [.l 0,.s 1] H5 kr fun gs6 w6 H6=>rRr [.cell 4 91] [1] (fld (qj g l s k.len) (yS g s) p3 n3 c3) (zU w.heap.size w (zhn g b l s k)) H6 kr ?_;have H7:St w.heap.size w w6 (((gs2 0).b,fdO (qj g l s k.len) (yS g s) p3 n3 c3)::((gs1 2).b,fdO (qj g l s k.len) (yS g s) p3 n3 c3)::T):=H6.as kr;exact ⟨T,⟨p3,n3,c3,rfl,hT⟩,H7.sub (List.Sublist.cons _ (List.sublist_cons_self ..))⟩
theorem zni (k:Fo):zb3 k:=(Fo.induct znh k).1
abbrev kR (C:Array Value):Obj:=.cells C 106 (0,0)
structure Sk where
 g:Nat
 p:Option Addr
 n:Nat
 c:Nat
 row:List (Nat×Obj)
 M:List (El Nat)
def Sk.el (e:Sk):El Nat:=⟨e.g,e.p,e.n,e.c,yA e.M⟩
def opE:List Sk→List (El Nat)
 | []=>[]
 | e::r=>opE r++ [e.el]
def yn:List Sk→List (Nat×Obj)
 | []=>[]
 | e::r=>e.row++yn r
def stM (S:List Sk):List (Nat×Kf):=S.map fun e=>(e.g,yA e.M)
def Bot:List Sk→Prop
 | []=>False
 | e::r=>(r=[]∧e.g=40)∨Bot r
structure xJ (T:List (Nat×Obj))(m:Nat)(e:Sk):Prop where
 row:RowE kS 106 e.p e.n e.c e.row e.M
 all:AllE kS T e.M
 le:e.n≤m
theorem xJ.mono {T T':List (Nat×Obj)}{m m':Nat}{e:Sk}(h:xJ T m e)(hT: ∀x∈T,x∈T')(hm:m≤m'):xJ T' m' e:=⟨h.row,h.all.mono hT,Nat.le_trans h.le hm⟩
theorem zdX: ∀S:List Sk,(opE S).length=S.length
 | []=>rfl
 | e::r=>by simp only [opE,List.length_append,zdX r,List.length_cons,List.length_nil]
theorem vR (e:Sk)(r:List Sk):zN kS (opE (e::r))=zN kS (opE r)++ [.int .u8 ((e.g:Nat):Int),.slice e.p e.n e.c]:=by
 show zN kS (opE r++ [e.el])=_;rw [uP];rfl
theorem zb4 (r:List Sk):(zN kS (opE r)).length=r.length*2:=by rw [kU,zdX];rfl
theorem Rw.pop {K:Nat}{cur:Array Value}{cap n:Nat}{X Z:List Value}(h:Rw K cur cap (n+1) (X++Z))(hX:X.length=n*K):Rw K cur cap n X:=by
 have ht:=h.take;refine ⟨hX,by have:=h.le;omega,h.max,?_,h.sz⟩;have e:(cur.toList.take ((n+1)*K)).take (n*K)=X:=by rw [ht,List.take_append,hX,Nat.sub_self,List.take_zero,List.append_nil,List.take_of_length_le (by omega)]
 rw [List.take_take,Nat.min_eq_left (by rw [Nat.succ_mul];omega)] at e;exact e
theorem Rw.top {cur:Array Value}{cap:Nat}{e:Sk}{r:List Sk}(h:Rw 2 cur cap (r.length+1) (zN kS (opE (e::r)))):
 0+r.length*2+2≤cur.size∧cur.extract (0+r.length*2) (0+r.length*2+2)=#[.int .u8 ((e.g:Nat):Int),.slice e.p e.n e.c]∧cur[0+r.length*2]? =some (.int .u8 ((e.g:Nat):Int))∧cur[0+r.length*2+1]? =some (.slice e.p e.n e.c):=by
 rw [vR] at h;have hl:=zb4 r;rw [Nat.zero_add];have h0:cur[r.length*2]? =some (.int .u8 ((e.g:Nat):Int)):=by
  rw [h.get _ (by omega),List.getElem?_append_right (by omega),hl,Nat.sub_self];rfl
 have h1:cur[r.length*2+1]? =some (.slice e.p e.n e.c):=by
  rw [h.get _ (by omega),List.getElem?_append_right (by omega),hl,Nat.add_sub_cancel_left];rfl
 have h2:=exE (C:=cur) (o:=r.length*2) (x:=[.int .u8 ((e.g:Nat):Int),.slice e.p e.n e.c]) (K:=2) rfl (fun j hj=>by
  rcases j with _|_|j
  ·exact h0
  ·exact h1
  ·omega) (by decide)
 exact ⟨h2.1,h2.2,h0,h1⟩
def zK:Array Value:=#[.int .u8 0,.slice none 0 0]
def qR (B:Nat)(w0:World)(bd b2 bo:Nat)(dO bO:Obj)(kv:Value)(cur:Array Value)(N:Nat)(en:Nat)(row:List (Nat×Obj))(xs:List Value)(T:List (Nat×Obj)):(Nat→Bool)→(Nat→D2.Gh)→World→Prop:=fun L g w=>
 bif L 8 then (L 9=true→(g 9).b=(g 8).b)∧Rw 2 (g 8).cur (g 8).cap (en+1) (xs++zK.toList)∧St B w0 w ((bd,dO)::(b2,bO)::(bo,kR (bif L 13 then putA cur (0+N*2+1) (.slice (some ⟨(g 8).b,0,none⟩) (en+1) (g 8).cap) else cur))::((g 8).b,kR (bif L 10 then putA (g 8).cur (0+en*2) kv else (g 8).cur))::T)
 else bif L 7 then St B w0 w (((g 7).b,kR zK)::(bd,dO)::(b2,bO)::(bo,kR cur)::(row++T))
 else St B w0 w ((bd,dO)::(b2,bO)::(bo,kR cur)::(row++T))
section
variable {B:Nat}{w0:World}{bd b2 bo:Nat}{dO bO:Obj}{kv:Value}{cur:Array Value}{N en:Nat}{row:List (Nat×Obj)}{xs:List Value}{T:List (Nat×Obj)}{L:Nat→Bool}{g:Nat→D2.Gh}{w:World}
theorem qR.st (h8:L 8=false)(h:qR B w0 bd b2 bo dO bO kv cur N en row xs T L g w):∃l,St B w0 w l∧(bd,dO)∈l∧(bo,kR cur)∈l:=by
 unfold qR at h;rw [h8] at h;cases h7:L 7 with
 | true=>rw [h7] at h;exact ⟨_,h,by simp,by simp⟩
 | false=>rw [h7] at h;exact ⟨_,h,by simp,by simp⟩
end
noncomputable abbrev znj:Code:=zw (zq (zw (zw (zw (qf (zw (zd Tryz.f55)))))))
noncomputable abbrev zho:Code:=qf (zq (zw (zw (qf (qf znj)))))
def zhp (B:Nat)(w0:World)(form:ByteArray)(b2 bd i:Nat)(target:List (Nat×Kf))(mz:Nat)(ρ:Env)(ww:World):Prop:=
 ∃(S:List Sk) (N g:Nat) (p:Option Addr) (n c:Nat) (k:Kf) (T:List (Nat×Obj)) (bo cap:Nat) (cur:Array Value),S.length=mz∧N=S.length∧Bot S∧N≤5∧(∀e∈S,xJ T i e)∧RIn kS T p n k∧xG g k (stM S)=target∧Rw 2 cur cap N (zN kS (opE S))∧
  St B w0 ww ((bd,kdO g p n c)::(b2,kdO 0 none 0 0)::(bo,kR cur)::(yn S++T))∧
  Is [(0,.string form),(2,.pointer (some ⟨b2,0,none⟩)),(3,.bool false),(4,.slice (some ⟨bo,0,none⟩) N cap),(6,.pointer (some ⟨bd,0,none⟩)),(16,.int .i64 (form.size:Int)),(17,.int .i64 (i:Int))] ρ
def znk (B:Nat)(w0:World)(form:ByteArray)(b2 i:Nat)(target:List (Nat×Kf))(ρ:Env)(ww:World):Prop:=
 ∃(S:List Sk) (N:Nat) (T:List (Nat×Obj)) (bo cap:Nat) (cur:Array Value),N=S.length∧Bot S∧N≤5∧(∀e∈S,xJ T i e)∧stM S=target∧Rw 2 cur cap N (zN kS (opE S))∧
  St B w0 ww ((b2,kdO 0 none 0 0)::(bo,kR cur)::(yn S++T))∧
  Is [(0,.string form),(2,.pointer (some ⟨b2,0,none⟩)),(3,.bool false),(4,.slice (some ⟨bo,0,none⟩) N cap),(16,.int .i64 (form.size:Int)),(17,.int .i64 (i:Int))] ρ
theorem zhq {Q:Exit→Env→World→Prop}{B:Nat}{w0:World}(form:ByteArray)(b2 bd i:Nat)(target:List (Nat×Kf))(hi:i≤40)(m0:Nat)(ρ0:Env)(ww0:World)(h0:zhp B w0 form b2 bd i target m0 ρ0 ww0)
 (hQ: ∀(S:List Sk) (N:Nat) (T:List (Nat×Obj)) (bo cap:Nat) (cur:Array Value) (ρ:Env) (ww:World),N=S.length→Bot S→N≤5→(∀e∈S,xJ T (i+1) e)→stM S=target→Rw 2 cur cap N (zN kS (opE S))→
  St B w0 ww ((b2,kdO 0 none 0 0)::(bo,kR cur)::(yn S++T))→Is [(0,.string form),(2,.pointer (some ⟨b2,0,none⟩)),(3,.bool false),(4,.slice (some ⟨bo,0,none⟩) N cap),(16,.int .i64 (form.size:Int)),(17,.int .i64 (i:Int))] ρ→Q (.exit 1) ρ ww):
 WP Tryz.prog 101 (zw (zw (zw zho))) Q ρ0 ww0:=by
 refine zu 3 kr<|yD kr (zhp B w0 form b2 bd i target) m0 h0 ?_;clear h0;rintro _ _ w1 ⟨S,N,g,p,n,c,k,T,bo,cap,cur,rfl,rfl,hBot,hN5,hS,hRI,hpush,hRw,H1,_,rfl⟩;rcases S with _ | ⟨e,r⟩
 ·exact hBot.elim
 have he:=hS e (List.mem_cons_self ..);refine zu 4 kr ?_;have hN5':r.length+1≤5:=hN5;refine rS [.v,.v,.E (.int .i64 (IntKind.i64.wrap (((r.length+1:Nat):Int)-1))) (.int .i64 (r.length:Int)) (zk (by rw [show (((r.length+1:Nat):Int)-1)=(r.length:Int) by omega];exact za2 (by omega))),.v] H1 kr fun gs2 w2 H2=>?_;clear H1;refine zb kr ?_;have H3:St B w0 w2 ((bd,kdO g p n c)::(b2,kdO 0 none 0 0)::(bo,kR cur)::(e.row++(yn r++T))):=by
  rw [←List.append_assoc];exact H2
 have htop:=hRw.top;refine D2.g_draw0 [0,1,2,3,4,5,6,7,8,9,10,11,12,13] [(some 69,fun _=>.slice (some ⟨bo,0,none⟩) (r.length+1) cap),(some 70,fun _=>.int .i64 (r.length:Int)),(some 71,fun _=>.pointer (some ⟨bo,0+r.length*2,none⟩)),(some 72,fun _=>.pointer (some ⟨bo,0+r.length*2+1,none⟩)),(some 73,fun _=>.slice e.p e.n e.c),(some 74,fun _=>knd g p n c),(some 75,fun _=>.int .i64 ((e.n:Nat):Int)),(some 76,fun y=>.slice (some ⟨y.b,0,none⟩) 1 1),(some 77,fun y=>.slice (some ⟨y.b,0,none⟩) (e.n+1) y.cap),(some 78,fun y=>.pointer (some ⟨y.b,0+e.n*2,none⟩)),(none,fun _=>undef),(some 79,fun _=>.pointer (some ⟨bo,0+r.length*2,none⟩)),(some 80,fun _=>.pointer (some ⟨bo,0+r.length*2+1,none⟩)),(none,fun _=>undef)]
  (qR B w0 bd b2 bo (kdO g p n c) (kdO 0 none 0 0) (knd g p n c) cur r.length e.n e.row (zN kS e.M) (yn r++T)) kr kr kr H3.drew ⟨?_,?_,?_,?_,?_,?_,?_,?_,?_,?_,?_,?_,?_,?_,trivial⟩ ?_
 ·exact D2.gv_val (fun _ _ _ h=>h) (fun g w=>by kernel_rfl)
 ·exact D2.gv_val (fun _ _ _ h=>h) (fun g w=>by kernel_rfl)
 ·exact D2.gv_op (fun _ _ _ h=>h) _ (fun g=>by kernel_rfl) (fun g o w ho=>yH (kd:=.i64) (t:=104) (e:=106) (K:=2) (bytes:=32) kr (x:=(.tmp 69)) (y:=(.tmp 70)) bo 0 (r.length+1) cap r.length rfl ho kr kr (by omega) w)
 ·exact D2.gv_val (fun _ _ _ h=>h) (fun g w=>by kernel_rfl)
 ·refine D2.gv_opW (fun _ _ _ h=>h) (.load 104 (.tmp 72)) (fun g=>by kernel_rfl) (fun L g o w hN hp ho=>?_);obtain ⟨l,h,_,hm⟩:=hp.st (hN.post 8 kr);exact zfI (h.own _ hm).2 kr kr htop.2.2.2 o ho
 ·refine D2.gv_ld (fun _ _ _ h=>h) 106 (.tmp 6) (fun _=>bd) 0 #[.int .u8 ((g:Nat):Int),.slice p n c] 106 (0,0) (fun g=>by kernel_rfl) (fun g=>by kernel_rfl) (fun L g w hN hp=>?_) kr kr;obtain ⟨l,h,hm,_⟩:=hp.st (hN.post 8 kr);exact (h.own _ hm).2
 ·exact D2.gv_val (fun _ _ _ h=>h) (fun g w=>by kernel_rfl)
 ·refine D2.gives_of fun L1 gg ww hp hN=>?_;have h8:=hN.post 8 kr;unfold qR at hp;rw [h8,hN.1] at hp;obtain ⟨o,ho,hd,hw,hrun⟩:=zQ (show opv _ _ 7 _ ww=some (some 76,true,.ok (.value (.slice (some ⟨ww.heap.size,0,none⟩) 1 1)) (ww.alloc (.cells zK 106))) by kernel_rfl);refine ⟨o,ho,hd,.inr ⟨hw,?_⟩⟩;refine (congrArg (D2.Runs _ _) hrun).mpr ?_;refine ⟨{ b:=ww.heap.size },rfl,?_⟩;unfold qR;rw [show D2.put1 L1 7 8=false from h8,show D2.put1 L1 7 7=true from rfl];exact St.alloc hp _
 ·refine D2.gives_of fun L1 gg ww hp hN=>?_;have h7:=hN.bef 7 kr;have h9:=hN.post 9 kr;have h10:=hN.post 10 kr;have h13:=hN.post 13 kr;unfold qR at hp;rw [hN.1,h7] at hp;obtain ⟨o,ho,hd,hw,hop⟩:=zH (show opk _ 8 _=some (some 77,true,yq 104 (.tmp 73) (.tmp 76)) by kernel_rfl);refine ⟨o,ho,hd,.inr ⟨hw,?_⟩⟩;have hen:=he.le;obtain ⟨eg,ep,en,ec,erow,eM⟩:=e;rcases he.row with ⟨rfl,rfl,rfl,rfl,rfl⟩ | ⟨br,curr,rfl,rfl,hrw⟩
  ·obtain ⟨b',cap',cur',w',hrun,HS',hr'⟩:=za6 (K:=2) hp (t:=104) (e:=106) (bytes:=32) (k:=0) (bx:=(gg 7).b) (c:=1) (Y:=zK) kr hop kr kr rfl rfl (xF rfl) (by omega);rw [hrun];refine ⟨{ b:=b',cap:=cap',cur:=cur' },rfl,?_⟩;unfold qR;rw [show D2.put1 L1 8 8=true from rfl,show D2.put1 L1 8 10=false from h10,show D2.put1 L1 8 13=false from h13];refine ⟨fun hh=>absurd (h9.symm.trans hh) (by decide),hr',?_⟩;exact (HS'.sub (List.Sublist.cons_cons _ (List.sublist_cons_self ..))).perm (List.perm_middle (l₁:=[(bd,kdO g p n c),(b2,kdO 0 none 0 0),(bo,kR cur)]))
  ·obtain ⟨b',cap',cur',w',hrun,HS',hr'⟩:=uQ (K:=2) hp (t:=104) (e:=106) (bytes:=32) (j:=4) (k:=0) (bx:=(gg 7).b) (c:=1) (Y:=zK) kr hop kr rfl hrw kr rfl rfl (xF rfl) (by omega) (by unfold maxLen;omega);rw [hrun];refine ⟨{ b:=b',cap:=cap',cur:=cur' },rfl,?_⟩;unfold qR;rw [show D2.put1 L1 8 8=true from rfl,show D2.put1 L1 8 10=false from h10,show D2.put1 L1 8 13=false from h13];exact ⟨fun hh=>absurd (h9.symm.trans hh) (by decide),hr',HS'.sub (List.sublist_cons_self ..)⟩
 ·refine D2.gives_of fun L1 gg ww hp hN=>?_;have h8:=hN.bef 8 kr;obtain ⟨o,ho,hd,hw,hop⟩:=zH (show opk _ 9 _=some (some 78,true,.indexAddr 104 (.tmp 77) (.tmp 75)) by kernel_rfl);refine ⟨o,ho,hd,.inr ⟨hw,?_⟩⟩;rw [yH (kd:=.i64) (t:=104) (e:=106) (K:=2) (bytes:=32) kr (x:=(.tmp 77)) (y:=(.tmp 75)) (gg 8).b 0 (e.n+1) (gg 8).cap e.n rfl hop kr kr (by omega) ww];refine ⟨{ b:=(gg 8).b },rfl,?_⟩;unfold qR at hp ⊢;rw [h8] at hp;rw [show D2.put1 L1 9 8=true from h8];exact ⟨fun _=>rfl,hp.2.1,hp.2.2⟩
 ·refine D2.gives_of fun L1 gg ww hp hN=>?_;have h8:=hN.bef 8 kr;have h9:=hN.bef 9 kr;unfold qR at hp;rw [h8,hN.1] at hp;obtain ⟨hg9,hr',HS⟩:=hp;have hg:=hg9 h9;have hle:=hr'.putA (0+e.n*2) (knd g p n c) (by show 0+e.n*2+2≤(e.n+1)*2;omega);obtain ⟨o,ho,hd,hw,hop⟩:=zH (show opk _ 10 _=some (none,true,.store 106 (.tmp 78) (.tmp 74)) by kernel_rfl);refine ⟨o,ho,hd,.inr ⟨hw,?_⟩⟩;rw [kV (t:=106) (off:=0+e.n*2) (b:=(gg 8).b) (C:=(gg 8).cur) (T:=106) (v:=knd g p n c) (C':=putA (gg 8).cur (0+e.n*2) (knd g p n c)) (HS.get 3 kr) kr kr hle.1 rfl (by rw [←hg];kernel_rfl) kr o hop];refine ⟨default,rfl,?_⟩;unfold qR;rw [show D2.put1 L1 10 8=true from h8,show D2.put1 L1 10 10=true from rfl];exact ⟨fun h=>hg9 h,hr',HS.store 3 (C:=(gg 8).cur) kr⟩
 ·exact D2.gv_op (fun _ _ _ h=>h) _ (fun g=>by kernel_rfl) (fun g o w ho=>yH (kd:=.i64) (t:=104) (e:=106) (K:=2) (bytes:=32) kr (x:=(.tmp 69)) (y:=(.tmp 70)) bo 0 (r.length+1) cap r.length rfl ho kr kr (by omega) w)
 ·exact D2.gv_val (fun _ _ _ h=>h) (fun g w=>by kernel_rfl)
 ·refine D2.gives_of fun L1 gg ww hp hN=>?_;have h8:=hN.bef 8 kr;unfold qR at hp;rw [h8,hN.1] at hp;obtain ⟨hg9,hr',HS⟩:=hp;have hle:=hRw.putA (0+r.length*2+1) (.slice (some ⟨(gg 8).b,0,none⟩) (e.n+1) (gg 8).cap) (by show 0+r.length*2+1+1≤(r.length+1)*2;omega);obtain ⟨o,ho,hd,hw,hop⟩:=zH (show opk _ 13 _=some (none,true,.store 104 (.tmp 80) (.tmp 77)) by kernel_rfl);refine ⟨o,ho,hd,.inr ⟨hw,?_⟩⟩;rw [kV (t:=104) (off:=0+r.length*2+1) (b:=bo) (C:=cur) (T:=106) (v:=.slice (some ⟨(gg 8).b,0,none⟩) (e.n+1) (gg 8).cap) (C':=putA cur (0+r.length*2+1) (.slice (some ⟨(gg 8).b,0,none⟩) (e.n+1) (gg 8).cap)) (HS.get 2 kr) kr kr hle.1 rfl kr kr o hop];refine ⟨default,rfl,?_⟩;unfold qR;rw [show D2.put1 L1 13 8=true from h8,show D2.put1 L1 13 13=true from rfl];exact ⟨fun h=>hg9 h,hr',HS.store 2 (C:=cur) kr⟩
 ·intro L1 gg w14 hall hp;unfold qR at hp;rw [hall 8 (Nat.le_of_ble_eq_true kr),hall 10 (Nat.le_of_ble_eq_true kr),hall 13 (Nat.le_of_ble_eq_true kr)] at hp;obtain ⟨_,hr',H4⟩:=hp;generalize hb':(gg 8).b=b';generalize hcap':(gg 8).cap=cap';generalize hcur':(gg 8).cur=cur';rw [hb',hcur',hcap'] at H4;rw [hcur',hcap'] at hr';have hn:=he.row.len (by decide);have hMl:(zN kS e.M).length=0+e.n*2:=by rw [kU,hn,Nat.zero_add];rfl
  have hnew:Rw 2 (putA cur' (0+e.n*2) (knd g p n c)) cap' (e.n+1) (zN kS (e.M++ [⟨g,p,n,c,k⟩])):=by
   have h1:=(hr'.putA (0+e.n*2) (knd g p n c) (by show 0+e.n*2+2≤(e.n+1)*2;omega)).2;have h2:=zdd (X:=zN kS e.M) (Z:=zK.toList) (V:=(knd g p n c).cells.toList) hMl rfl;rw [uP];exact h2▸h1
  obtain ⟨eg,ep,en,ec,erow,eM⟩:=e;have hop:Rw 2 (putA cur (0+r.length*2+1) (.slice (some ⟨b',0,none⟩) (en+1) cap')) cap (r.length+1) (zN kS (opE (⟨eg,some ⟨b',0,none⟩,en+1,cap',[(b',kR (putA cur' (0+en*2) (knd g p n c)))],eM++ [⟨g,p,n,c,k⟩]⟩::r))):=by
   have h1:=(hRw.putA (0+r.length*2+1) (.slice (some ⟨b',0,none⟩) (en+1) cap') (by show 0+r.length*2+1+1≤(r.length+1)*2;omega)).2;have hl:=zb4 r;have h2:=zdd (X:=zN kS (opE r)++ [.int .u8 (eg:Int)]) (Z:=[.slice ep en ec]) (V:=(Value.slice (some ⟨b',0,none⟩) (en+1) cap').cells.toList) (off:=0+r.length*2+1) (by rw [List.length_append,hl];simp) rfl;rw [vR];rw [vR,show zN kS (opE r)++ [.int .u8 (eg:Int),.slice ep en ec]=(zN kS (opE r)++ [.int .u8 (eg:Int)])++ [.slice ep en ec] by simp] at h1;have h3:(zN kS (opE r)++ [.int .u8 (eg:Int)])++(Value.slice (some ⟨b',0,none⟩) (en+1) cap').cells.toList=zN kS (opE r)++ [.int .u8 (eg:Int),.slice (some ⟨b',0,none⟩) (en+1) cap']:=by
    rw [List.append_assoc];rfl
   exact h3▸(h2▸h1)
  have hok:xJ T (i+1) ⟨eg,some ⟨b',0,none⟩,en+1,cap',[(b',kR (putA cur' (0+en*2) (knd g p n c)))],eM++ [⟨g,p,n,c,k⟩]⟩:=
   ⟨.inr ⟨_,_,rfl,rfl,hnew⟩,he.all.snoc hRI trivial,Nat.succ_le_succ he.le⟩
  have htop':=hop.top;have hpush':xG g k ((eg,yA eM)::stM r)=target:=hpush;unfold xG at hpush';rw [←zg5 ⟨g,p,n,c,k⟩] at hpush';have hrc:=hop.le;have hBr:eg=42→Bot r:=fun h42=>by
   rcases hBot with ⟨_,h⟩|h
   ·exact absurd (h.symm.trans h42) (by decide)
   ·exact h
  have hin: ∀x∈T,x∈(b',kR (putA cur' (0+en*2) (knd g p n c)))::T:=fun x hx=>List.mem_cons_of_mem _ hx;refine wW<|zb kr ?_;by_cases h42:eg=42
  ·rw [if_pos h42] at hpush';refine rS [.v,.v,.o (ins:=[((.tmp 81),.slice (some ⟨bo,0,none⟩) (r.length+1) cap),((.tmp 82),.int .i64 (r.length:Int))]) (v:=.pointer (some ⟨bo,0+r.length*2,none⟩)) (fun ρ o w ho hi2=>yH (kd:=.i64) (t:=104) (e:=106) (K:=2) (bytes:=32) kr (x:=(.tmp 81)) (y:=(.tmp 82)) bo 0 (r.length+1) cap r.length rfl ho hi2.1 hi2.2.1 (by omega) w),.v,.ls 2 (C:=putA cur (0+r.length*2+1) (.slice (some ⟨b',0,none⟩) (en+1) cap')) (off:=0+r.length*2) (v:=.int .u8 (eg:Int)) htop'.2.2.1,.E (.bool (!((eg:Int)==42))) (.bool false) (za (by rw [h42];rfl))] H4 kr fun gs5 w15 H5=>zl kr kr<|zp kr<|wW<|dL [.v,.v,.o (ins:=[((.tmp 87),.slice (some ⟨bo,0,none⟩) (r.length+1) cap),((.tmp 88),.int .i64 (r.length:Int))]) (v:=.pointer (some ⟨bo,0+r.length*2,none⟩)) (fun ρ o w ho hi2=>yH (kd:=.i64) (t:=104) (e:=106) (K:=2) (bytes:=32) kr (x:=(.tmp 87)) (y:=(.tmp 88)) bo 0 (r.length+1) cap r.length rfl ho hi2.1 hi2.2.1 (by omega) w),.lp 2 (C:=putA cur (0+r.length*2+1) (.slice (some ⟨b',0,none⟩) (en+1) cap')) (off:=0+r.length*2) (n:=2) (W:=#[.int .u8 (eg:Int),.slice (some ⟨b',0,none⟩) (en+1) cap']) htop'.1 htop'.2.1,.v,.v,.o (ins:=[((.tmp 91),.slice (some ⟨bo,0,none⟩) (r.length+1) cap),((.tmp 92),.int .i64 (r.length:Int))]) (v:=.slice (some ⟨bo,0,none⟩) r.length cap) (fun ρ o w ho hi2=>zfA (kd:=.i64) (t:=104) (e:=106) (size:=2) (bytes:=32) kr (x:=(.tmp 91)) (y:=(.tmp 92)) bo (r.length+1) cap r.length ho hi2.1 hi2.2.1 (by omega) w),.s 0,.v] H5 kr fun w16 H6=>?_;have H7:St B w0 w16 ((bd,kdO eg (some ⟨b',0,none⟩) (en+1) cap')::(b2,kdO 0 none 0 0)::(bo,kR (putA cur (0+r.length*2+1) (.slice (some ⟨b',0,none⟩) (en+1) cap')))::([(b',kR (putA cur' (0+en*2) (knd g p n c)))]++(yn r++T))):=H6.as kr;show ∃m,_∧_;refine ⟨r.length,Nat.lt_succ_self _,r,r.length,eg,_,_,_,yA (eM++ [⟨g,p,n,c,k⟩]),(b',kR (putA cur' (0+en*2) (knd g p n c)))::T,bo,cap,_,rfl,rfl,hBr h42,by omega,fun x hx=>(hS x (List.mem_cons_of_mem _ hx)).mono hin (Nat.le_refl _),?_,hpush',Rw.pop (vR _ _▸hop) (zb4 r),H7.perm (List.Perm.cons _ (List.Perm.cons _ (List.Perm.cons _ (List.perm_append_comm_assoc (yn r) [(b',kR (putA cur' (0+en*2) (knd g p n c)))] T)))),(Is.of ⟨kr,kr,kr,kr,kr,kr,kr,trivial⟩)⟩;have:=hok.row.rIn (T:=T) (by decide) hok.all (by have:=hok.le;show en+1≤1000;simp only at this;omega);exact this
  ·rw [if_neg h42] at hpush';refine rS [.v,.v,.o (ins:=[((.tmp 81),.slice (some ⟨bo,0,none⟩) (r.length+1) cap),((.tmp 82),.int .i64 (r.length:Int))]) (v:=.pointer (some ⟨bo,0+r.length*2,none⟩)) (fun ρ o w ho hi2=>yH (kd:=.i64) (t:=104) (e:=106) (K:=2) (bytes:=32) kr (x:=(.tmp 81)) (y:=(.tmp 82)) bo 0 (r.length+1) cap r.length rfl ho hi2.1 hi2.2.1 (by omega) w),.v,.ls 2 (C:=putA cur (0+r.length*2+1) (.slice (some ⟨b',0,none⟩) (en+1) cap')) (off:=0+r.length*2) (v:=.int .u8 (eg:Int)) htop'.2.2.1,.E (.bool (!((eg:Int)==42))) (.bool true) (za (by rw [beq_eq_false_iff_ne.2 (by omega)];rfl))] H4 kr fun gs5 w15 H5=>zi kr kr<|ym 1 kr ?_;show Q (.exit 1) _ _;refine hQ (⟨eg,some ⟨b',0,none⟩,en+1,cap',[(b',kR (putA cur' (0+en*2) (knd g p n c)))],eM++ [(⟨g,p,n,c,k⟩:El Nat)]⟩::r) (r.length+1) T bo cap _ _ _ rfl ?_ hN5' ?_ hpush' hop ?_ (Is.of ⟨kr,kr,kr,kr,kr,kr,trivial⟩)
   ·rcases hBot with ⟨h1,h2⟩|h
    ·exact .inl ⟨h1,h2⟩
    ·exact .inr h
   ·intro x hx;rcases List.mem_cons.1 hx with rfl | hx
    ·exact hok
    ·exact (hS x (List.mem_cons_of_mem _ hx)).mono (fun _ h=>h) (Nat.le_succ _)
   ·have H7:St B w0 w15 ((bd,kdO g p n c)::(b2,kdO 0 none 0 0)::(bo,kR (putA cur (0+r.length*2+1) (.slice (some ⟨b',0,none⟩) (en+1) cap')))::([(b',kR (putA cur' (0+en*2) (knd g p n c)))]++(yn r++T))):=H5.as kr;exact H7.sub (List.sublist_cons_self ..)
abbrev zhr (form:ByteArray)(i:Nat)(b2 bo N cap:Nat):List (Nat×Value):=[(0,.string form),(2,.pointer (some ⟨b2,0,none⟩)),(3,.bool false),(4,.slice (some ⟨bo,0,none⟩) N cap),(16,.int .i64 (form.size:Int)),(17,.int .i64 (i:Int))]
theorem znl {Q:Exit→Env→World→Prop}{B:Nat}{w0:World}(form:ByteArray)(b2 i:Nat)(hi40:i≤40)(hi:i<form.size)(hz:form.size≤40)(S:List Sk)(N:Nat)(T:List (Nat×Obj))(bo cap:Nat)(cur:Array Value)(hN:N=S.length)(hBot:Bot S)(hN5:N≤5)(hS: ∀e∈S,xJ T i e)(hRw:Rw 2 cur cap N (zN kS (opE S)))
 (ρ0:Env) (ww0:World) (H0:St B w0 ww0 ((b2,kdO 0 none 0 0)::(bo,kR cur)::(yn S++T))) (hIs:Is (zhr form i b2 bo N cap) ρ0)
 (hbad:jr (by_ form i) (stM S)=none→ ∀(ρ:Env) (ww:World) (bd:Nat) (o:Obj) (l:List (Nat×Obj)),St B w0 ww ((bd,o)::(b2,kdO 0 none 0 0)::l)→ρ 3=.bool false→ρ 2=.pointer (some ⟨b2,0,none⟩)→Q .ret ρ ww)
 (hQ: ∀(S':List Sk) (N:Nat) (T:List (Nat×Obj)) (bo cap:Nat) (cur:Array Value) (ρ:Env) (ww:World),N=S'.length→Bot S'→N≤5→(∀e∈S',xJ T (i+1) e)→jr (by_ form i) (stM S)=some (stM S')→Rw 2 cur cap N (zN kS (opE S'))→
  St B w0 ww ((b2,kdO 0 none 0 0)::(bo,kR cur)::(yn S'++T))→Is (zhr form i b2 bo N cap) ρ→Q (.exit 1) ρ ww):
 WP Tryz.prog 101 zho Q ρ0 ww0:=by
 obtain ⟨_,rfl⟩:=hIs;rcases S with _|⟨e,r⟩
 ·exact hBot.elim
 obtain rfl:N=r.length+1:=hN;have he:=hS e (List.mem_cons_self ..);have htop:=hRw.top;obtain ⟨c,hc⟩:∃c,by_ form i=c:=⟨_,rfl⟩
 have hrc:=hRw.le;refine rS [.v,.v] H0 kr fun gs1 w1 H1=>zh [0,1,2,3,4,5] kr kr<|rp [.v,.v,.oe (ins:=[((.tmp 20),.string form),((.tmp 21),.int .i64 (i:Int))]) (v:=.int .u8 ((by_ form i:Nat):Int)) (v':=.int .u8 (c:Int)) (fun ρ o w ho hi2=>qV (t:=9) (kd:=.i64) kr (x:=(.tmp 20)) (y:=(.tmp 21)) form i ho hi2.1 hi2.2.1 hi w) (by rw [hc]),.v] H1 kr fun gs2 w2 H2=>wX [4,5] ?_;have H3:St B w0 w2 ((b2,kdO 0 none 0 0)::(bo,kR cur)::(yn (e::r)++T)):=H2.as kr;refine zP H3 (some 6) 106 (.agg #[.int .u8 0,.slice none 0 0]) kr kr kr ?_;intro bd w3 H4;refine rp [.s 0] H4 kr fun gs3 w4 H5=>wX []<|zc<|zb kr<|rS [.v,.v,.E (.int .i64 (IntKind.i64.wrap (((r.length+1:Nat):Int)-1))) (.int .i64 (r.length:Int)) (zk (by rw [show (((r.length+1:Nat):Int)-1)=(r.length:Int) by omega];exact za2 (by omega))),.v] H5 kr fun gs4 w5 H6=>rS [.v,.l 0] H6 kr fun gs5 w6 H7=>zu 2 kr ?_;have H8:St B w0 w6 ((bd,kdO c none 0 0)::(b2,kdO 0 none 0 0)::(bo,kR cur)::(yn (e::r)++T)):=H7.as kr;clear H0 H1 H2 H3 H4 H5 H6 H7;refine ye [0,2,3,4,5,6,7,16,17,28] fun ρ1=>zb kr ?_;obtain ⟨lb,hlb⟩:∃lb,decide (c=110∨c=104∨c=97∨c=115∨c=98)=lb:=⟨_,rfl⟩
 refine vx (Q:=fun ex ρ ww=>ex=.normal∧St B w0 ww ((bd,kdO c none 0 0)::(b2,kdO 0 none 0 0)::(bo,kR cur)::(yn (e::r)++T))∧Is [(0,.string form),(2,.pointer (some ⟨b2,0,none⟩)),(3,.bool false),(4,.slice (some ⟨bo,0,none⟩) (r.length+1) cap),(6,.pointer (some ⟨bd,0,none⟩)),(7,.int .i64 (r.length:Int)),(16,.int .i64 (form.size:Int)),(17,.int .i64 (i:Int)),(28,.int .u8 (c:Int)),(30,.bool lb)] ρ) ?_ ?_
 ·by_cases h110:c=110
  ·refine rS [.E (.bool ((c:Int)==110)) (.bool true) (za (beq_iff_eq.2 (by omega))),.v] H8 kr fun gsa110 wa110 Ha110=>zi kr kr<|zp kr ?_;obtain rfl:lb=true:=by rw [←hlb];exact decide_eq_true (by omega)
   exact ⟨rfl,Ha110.as kr,(Is.of ⟨kr,kr,kr,kr,kr,kr,kr,kr,kr,kr,trivial⟩)⟩
  ·refine rS [.E (.bool ((c:Int)==110)) (.bool false) (za (beq_eq_false_iff_ne.2 (by omega))),.v] H8 kr fun gsb110 wb110 Hb110=>zl kr kr ?_;by_cases h104:c=104
   ·refine rS [.E (.bool ((c:Int)==104)) (.bool true) (za (beq_iff_eq.2 (by omega))),.v] Hb110 kr fun gsa104 wa104 Ha104=>zi kr kr<|zp kr ?_;obtain rfl:lb=true:=by rw [←hlb];exact decide_eq_true (by omega)
    exact ⟨rfl,Ha104.as kr,(Is.of ⟨kr,kr,kr,kr,kr,kr,kr,kr,kr,kr,trivial⟩)⟩
   ·refine rS [.E (.bool ((c:Int)==104)) (.bool false) (za (beq_eq_false_iff_ne.2 (by omega))),.v] Hb110 kr fun gsb104 wb104 Hb104=>zl kr kr ?_;by_cases h97:c=97
    ·refine rS [.E (.bool ((c:Int)==97)) (.bool true) (za (beq_iff_eq.2 (by omega))),.v] Hb104 kr fun gsa97 wa97 Ha97=>zi kr kr<|zp kr ?_;obtain rfl:lb=true:=by rw [←hlb];exact decide_eq_true (by omega)
     exact ⟨rfl,Ha97.as kr,(Is.of ⟨kr,kr,kr,kr,kr,kr,kr,kr,kr,kr,trivial⟩)⟩
    ·refine rS [.E (.bool ((c:Int)==97)) (.bool false) (za (beq_eq_false_iff_ne.2 (by omega))),.v] Hb104 kr fun gsb97 wb97 Hb97=>zl kr kr ?_;by_cases h115:c=115
     ·refine rS [.E (.bool ((c:Int)==115)) (.bool true) (za (beq_iff_eq.2 (by omega))),.v] Hb97 kr fun gsa115 wa115 Ha115=>zi kr kr<|zp kr ?_;obtain rfl:lb=true:=by rw [←hlb];exact decide_eq_true (by omega)
      exact ⟨rfl,Ha115.as kr,(Is.of ⟨kr,kr,kr,kr,kr,kr,kr,kr,kr,kr,trivial⟩)⟩
     ·refine rS [.E (.bool ((c:Int)==115)) (.bool false) (za (beq_eq_false_iff_ne.2 (by omega))),.v] Hb97 kr fun gsb115 wb115 Hb115=>zl kr kr ?_;by_cases h98:c=98
      ·refine rL [.E (.bool ((c:Int)==98)) (.bool true) (za (beq_iff_eq.2 (by omega))),.v] Hb115 kr fun gsa98 wa98 Ha98=>?_;obtain rfl:lb=true:=by rw [←hlb];exact decide_eq_true (by omega)
       exact ⟨rfl,Ha98.as kr,(Is.of ⟨kr,kr,kr,kr,kr,kr,kr,kr,kr,kr,trivial⟩)⟩
      ·refine rL [.E (.bool ((c:Int)==98)) (.bool false) (za (beq_eq_false_iff_ne.2 (by omega))),.v] Hb115 kr fun gsb98 wb98 Hb98=>?_;obtain rfl:lb=false:=by rw [←hlb];exact decide_eq_false (by omega)
       exact ⟨rfl,Hb98.as kr,(Is.of ⟨kr,kr,kr,kr,kr,kr,kr,kr,kr,kr,trivial⟩)⟩
 rintro _ _ w7 ⟨rfl,H9,_,rfl⟩;refine wW ?_;cases lb with
 | true=>
  have hst:jr (by_ form i) (stM (e::r))=some (xG c .nil (stM (e::r))):=by
   rw [hc];unfold jr;rw [if_pos (of_decide_eq_true hlb)]
  refine zi kr kr<|zp kr<|wW<|zhq form b2 bd i _ hi40 (r.length+1) _ _ ⟨e::r,r.length+1,c,none,0,0,.nil,T,bo,cap,cur,rfl,rfl,hBot,hN5,hS,RIn.none _ _,rfl,hRw,H9,(Is.of ⟨kr,kr,kr,kr,kr,kr,kr,trivial⟩)⟩ ?_;intro S' N' T' bo' cap' cur' ρ' ww' h1 h2 h3 h4 h5 h6 h7 h8;exact hQ S' N' T' bo' cap' cur' ρ' ww' h1 h2 h3 h4 (by rw [hst,h5]) h6 h7 h8
 | false=>
  have hnl:=of_decide_eq_false hlb;refine zl kr kr<|zb kr ?_;obtain ⟨gb,hgb⟩:∃gb,decide (c=40∨c=42)=gb:=⟨_,rfl⟩
  refine vx (Q:=fun ex ρ ww=>ex=.normal∧St B w0 ww ((bd,kdO c none 0 0)::(b2,kdO 0 none 0 0)::(bo,kR cur)::(yn (e::r)++T))∧Is [(0,.string form),(2,.pointer (some ⟨b2,0,none⟩)),(3,.bool false),(4,.slice (some ⟨bo,0,none⟩) (r.length+1) cap),(6,.pointer (some ⟨bd,0,none⟩)),(7,.int .i64 (r.length:Int)),(16,.int .i64 (form.size:Int)),(17,.int .i64 (i:Int)),(28,.int .u8 (c:Int)),(36,.bool gb)] ρ) ?_ ?_
  ·by_cases h40:c=40
   ·refine rS [.E (.bool ((c:Int)==40)) (.bool true) (za (beq_iff_eq.2 (by omega))),.v] H9 kr fun gsa40 wa40 Ha40=>zi kr kr<|zp kr ?_;obtain rfl:gb=true:=by rw [←hgb];exact decide_eq_true (by omega)
    exact ⟨rfl,Ha40.as kr,(Is.of ⟨kr,kr,kr,kr,kr,kr,kr,kr,kr,kr,trivial⟩)⟩
   ·refine rS [.E (.bool ((c:Int)==40)) (.bool false) (za (beq_eq_false_iff_ne.2 (by omega))),.v] H9 kr fun gsb40 wb40 Hb40=>zl kr kr ?_;by_cases h42:c=42
    ·refine rL [.E (.bool ((c:Int)==42)) (.bool true) (za (beq_iff_eq.2 (by omega))),.v] Hb40 kr fun gsa42 wa42 Ha42=>?_;obtain rfl:gb=true:=by rw [←hgb];exact decide_eq_true (by omega)
     exact ⟨rfl,Ha42.as kr,(Is.of ⟨kr,kr,kr,kr,kr,kr,kr,kr,kr,kr,trivial⟩)⟩
    ·refine rL [.E (.bool ((c:Int)==42)) (.bool false) (za (beq_eq_false_iff_ne.2 (by omega))),.v] Hb40 kr fun gsb42 wb42 Hb42=>?_;obtain rfl:gb=false:=by rw [←hgb];exact decide_eq_false (by omega)
     exact ⟨rfl,Hb42.as kr,(Is.of ⟨kr,kr,kr,kr,kr,kr,kr,kr,kr,kr,trivial⟩)⟩
  rintro _ _ w8 ⟨rfl,H10,_,rfl⟩;refine wW ?_;cases gb with
  | true=>
   have hyes:=of_decide_eq_true hgb;refine zi kr kr<|zb kr ?_;by_cases h4:r.length=4
   ·refine zb kr<|rL [.v,.E (.bool ((r.length:Int)==4)) (.bool true) (za (beq_iff_eq.2 (by omega)))] H10 kr fun gs6 w9 H11=>wW<|zi kr kr<|rS [.v,.s 1,.v] H11 kr fun gs7 w10 H12=>zn kr ?_;have H13:St B w0 w10 ((bd,kdO c none 0 0)::(b2,kdO 0 none 0 0)::(bo,kR cur)::(yn (e::r)++T)):=H12.as kr;refine hbad ?_ _ w10 bd _ _ H13 kr kr;rw [hc];unfold jr;rw [if_neg hnl,if_pos hyes,if_pos];show ((e::r).map _).length=5;rw [List.length_map,List.length_cons,h4]
   ·refine zb kr<|rL [.v,.E (.bool ((r.length:Int)==4)) (.bool false) (za (beq_eq_false_iff_ne.2 (by omega)))] H10 kr fun gs6 w9 H11=>wW<|zl kr kr<|zp kr<|wW<|zh [0,1,2,3,4] kr kr<|rp [.v,.l 0] H11 kr fun gs7 w10 H12=>wX [2,3,4] ?_;have H13:St B w0 w10 ((bd,kdO c none 0 0)::(b2,kdO 0 none 0 0)::(bo,kR cur)::(yn (e::r)++T)):=H12.as kr;refine ze7 H13 (some 44) (fun b=>.slice (some ⟨b,0,none⟩) 1 1) #[.int .u8 (c:Int),.slice none 0 0] 106 (fun w=>by kernel_rfl) kr ?_;intro bn w11 H14;refine zks (K':=2) H14 (some 45) 104 106 32 (.tmp 42) (.tmp 44) 3 0 bo bn (r.length+1) cap 1 cur #[.int .u8 (c:Int),.slice none 0 0] (zN kS (opE (e::r))) kr kr kr kr kr hRw kr kr rfl (xF rfl) (by omega) (by unfold maxLen;omega) ?_;intro b' cap' cur' w12 H15 hr';have H16:St B w0 w12 ((bn,kR #[.int .u8 (c:Int),.slice none 0 0])::(bd,kdO c none 0 0)::(b2,kdO 0 none 0 0)::(b',kR cur')::(yn (e::r)++T)):=H15;refine rp [.v] H16 kr fun gs8 w13 H17=>wX []<|zc<|ym 1 kr ?_;show Q (.exit 1) _ _;have H18:St B w0 w13 ((bn,kR #[.int .u8 (c:Int),.slice none 0 0])::(bd,kdO c none 0 0)::(b2,kdO 0 none 0 0)::(b',kR cur')::(yn (e::r)++T)):=H17.as kr;refine hQ (⟨c,none,0,0,[],[]⟩::e::r) (r.length+2) T b' cap' cur' _ _ rfl (.inr hBot) (by omega) ?_ ?_ ?_ (H18.sub (List.Sublist.cons _ (List.sublist_cons_self ..))) (Is.of ⟨kr,kr,kr,kr,kr,kr,trivial⟩)
    ·intro x hx;rcases List.mem_cons.1 hx with rfl | hx
     ·exact ⟨.inl ⟨rfl,rfl,rfl,rfl,rfl⟩,(fun _ h=>nomatch h),Nat.zero_le _⟩
     ·exact (hS x hx).mono (fun _ h=>h) (Nat.le_succ _)
    ·rw [hc];unfold jr;rw [if_neg hnl,if_pos hyes,if_neg]
     ·rfl
     ·show ¬((e::r).map _).length=5;rw [List.length_map,List.length_cons];omega
    ·rw [vR];exact hr'
  | false=>
   have hno:=of_decide_eq_false hgb;refine zl kr kr ?_;by_cases h41:c=41
   ·refine rS [.E (.bool ((c:Int)==41)) (.bool true) (za (beq_iff_eq.2 (by omega))),.v] H10 kr fun gs6 w9 H11=>zi kr kr<|zb kr<|zb kr ?_;by_cases hr0:r.length=0
    ·refine rL [.v,.E (.bool ((r.length:Int)==0)) (.bool true) (za (beq_iff_eq.2 (by omega))),.v,.n,.n,.n,.n,.n,.n,.v] H11 kr fun gs7 w10 H12=>wW<|zi kr kr<|rS [.v,.s 1,.v] H12 kr fun gs8 w11 H13=>zn kr ?_;have H14:St B w0 w11 ((bd,kdO c none 0 0)::(b2,kdO 0 none 0 0)::(bo,kR cur)::(yn (e::r)++T)):=H13.as kr;refine hbad ?_ _ w11 bd _ _ H14 kr kr;rw [hc];unfold jr;rw [if_neg hnl,if_neg hno,if_pos h41];show (if (r.map _).length=0∨e.g≠40 then none else some _)=none;rw [if_pos (.inl (by rw [List.length_map];exact hr0))]
    ·by_cases h40:e.g=40
     ·refine rL [.v,.E (.bool ((r.length:Int)==0)) (.bool false) (za (beq_eq_false_iff_ne.2 (by omega))),.v,.v,.v,.o (ins:=[((.tmp 51),.slice (some ⟨bo,0,none⟩) (r.length+1) cap),((.tmp 52),.int .i64 (r.length:Int))]) (v:=.pointer (some ⟨bo,0+r.length*2,none⟩)) (fun ρ o w ho hi2=>yH (kd:=.i64) (t:=104) (e:=106) (K:=2) (bytes:=32) kr (x:=(.tmp 51)) (y:=(.tmp 52)) bo 0 (r.length+1) cap r.length rfl ho hi2.1 hi2.2.1 (by omega) w),.v,.ls 2 (C:=cur) (off:=0+r.length*2) (v:=.int .u8 ((e.g:Nat):Int)) htop.2.2.1,.E (.bool (!(((e.g:Nat):Int)==40))) (.bool false) (za (by rw [h40];rfl)),.v] H11 kr fun gs7 w10 H12=>wW<|zl kr kr<|zp kr<|wW<|dL [.v,.v,.o (ins:=[((.tmp 59),.slice (some ⟨bo,0,none⟩) (r.length+1) cap),((.tmp 60),.int .i64 (r.length:Int))]) (v:=.pointer (some ⟨bo,0+r.length*2,none⟩)) (fun ρ o w ho hi2=>yH (kd:=.i64) (t:=104) (e:=106) (K:=2) (bytes:=32) kr (x:=(.tmp 59)) (y:=(.tmp 60)) bo 0 (r.length+1) cap r.length rfl ho hi2.1 hi2.2.1 (by omega) w),.lp 2 (C:=cur) (off:=0+r.length*2) (n:=2) (W:=#[.int .u8 ((e.g:Nat):Int),.slice e.p e.n e.c]) htop.1 htop.2.1,.v,.v,.o (ins:=[((.tmp 63),.slice (some ⟨bo,0,none⟩) (r.length+1) cap),((.tmp 64),.int .i64 (r.length:Int))]) (v:=.slice (some ⟨bo,0,none⟩) r.length cap) (fun ρ o w ho hi2=>zfA (kd:=.i64) (t:=104) (e:=106) (size:=2) (bytes:=32) kr (x:=(.tmp 63)) (y:=(.tmp 64)) bo (r.length+1) cap r.length ho hi2.1 hi2.2.1 (by omega) w),.s 0,.v] H12 kr fun w11 H13=>wW ?_;have H14:St B w0 w11 ((bd,kdO e.g e.p e.n e.c)::(b2,kdO 0 none 0 0)::(bo,kR cur)::(e.row++(yn r++T))):=by
       rw [←List.append_assoc];exact H13.as kr
      have hBr:Bot r:=by
       rcases hBot with ⟨h,_⟩|h
       ·rw [h] at hr0;exact absurd rfl hr0
       ·exact h
      have hst:jr (by_ form i) (stM (e::r))=some (xG e.g (yA e.M) (stM r)):=by
       rw [hc];unfold jr;rw [if_neg hnl,if_neg hno,if_pos h41];show (if (r.map _).length=0∨e.g≠40 then none else some (xG e.g (yA e.M) (stM r)))=_;rw [if_neg (by rw [List.length_map];exact fun h=>h.elim hr0 (fun h=>h h40))]
      refine zhq form b2 bd i _ hi40 r.length _ _ ⟨r,r.length,e.g,e.p,e.n,e.c,yA e.M,e.row++T,bo,cap,cur,rfl,rfl,hBr,by omega,fun x hx=>(hS x (List.mem_cons_of_mem _ hx)).mono (fun y hy=>List.mem_append_right _ hy) (Nat.le_refl _),he.row.rIn (by decide) he.all (by have:=he.le;show e.n≤1000;omega),rfl,Rw.pop (vR _ _▸hRw) (zb4 r),H14.perm (List.Perm.cons _ (List.Perm.cons _ (List.Perm.cons _ (List.perm_append_comm_assoc (yn r) e.row T)))),(Is.of ⟨kr,kr,kr,kr,kr,kr,kr,trivial⟩)⟩ ?_;intro S' N' T' bo' cap' cur' ρ' ww' h1 h2 h3 h4 h5 h6 h7 h8;exact hQ S' N' T' bo' cap' cur' ρ' ww' h1 h2 h3 h4 (by rw [hst,h5]) h6 h7 h8
     ·refine rL [.v,.E (.bool ((r.length:Int)==0)) (.bool false) (za (beq_eq_false_iff_ne.2 (by omega))),.v,.v,.v,.o (ins:=[((.tmp 51),.slice (some ⟨bo,0,none⟩) (r.length+1) cap),((.tmp 52),.int .i64 (r.length:Int))]) (v:=.pointer (some ⟨bo,0+r.length*2,none⟩)) (fun ρ o w ho hi2=>yH (kd:=.i64) (t:=104) (e:=106) (K:=2) (bytes:=32) kr (x:=(.tmp 51)) (y:=(.tmp 52)) bo 0 (r.length+1) cap r.length rfl ho hi2.1 hi2.2.1 (by omega) w),.v,.ls 2 (C:=cur) (off:=0+r.length*2) (v:=.int .u8 ((e.g:Nat):Int)) htop.2.2.1,.E (.bool (!(((e.g:Nat):Int)==40))) (.bool true) (za (by rw [beq_eq_false_iff_ne.2 (by omega)];rfl)),.v] H11 kr fun gs7 w10 H12=>wW<|zi kr kr<|rS [.v,.s 1,.v] H12 kr fun gs8 w11 H13=>zn kr ?_;have H14:St B w0 w11 ((bd,kdO c none 0 0)::(b2,kdO 0 none 0 0)::(bo,kR cur)::(yn (e::r)++T)):=H13.as kr;refine hbad ?_ _ w11 bd _ _ H14 kr kr;rw [hc];unfold jr;rw [if_neg hnl,if_neg hno,if_pos h41];show (if (r.map _).length=0∨e.g≠40 then none else some _)=none;rw [if_pos (.inr h40)]
   ·refine rS [.E (.bool ((c:Int)==41)) (.bool false) (za (beq_eq_false_iff_ne.2 (by omega))),.v] H10 kr fun gs6 w9 H11=>zl kr kr<|rS [.v,.s 1,.v] H11 kr fun gs7 w10 H12=>zn kr ?_;have H13:St B w0 w10 ((bd,kdO c none 0 0)::(b2,kdO 0 none 0 0)::(bo,kR cur)::(yn (e::r)++T)):=H12.as kr;refine hbad ?_ _ w10 bd _ _ H13 kr kr;rw [hc];unfold jr;rw [if_neg hnl,if_neg hno,if_neg h41]
theorem znm {t:ByteArray}{l:Bool}{s:ByteArray}{k:Fo}(ht:t.size≤4000)(h:yr t l s k ⟨#[]⟩)(hd:dp1 l (dpF k)≤8):zJ l s k.len k=(t,0):=by
 have hsz:=h.sz;obtain ⟨hm,hp,hi⟩:=h;have hlen:=congrArg List.length hi;rw [zy,List.length_append,qY hm (zY hp)] at hlen;have h0:(tl ⟨#[]⟩).length=0:=rfl;have hz:sz1 l s (szF k)=t.size:=by omega
 have hc:=zbT hp;have hc9:k.cnt<4000:=by
  unfold sz1 at hz;split at hz
  ·rename_i q
   have h4:=len_zero (jm hm q);rw [h4];decide
  ·have:=xW (frm l) (s.size+szF k);omega
 have hlf:lf1 l s k.len (lfF k) 4000=some (3999-k.cnt):=by
  unfold lf1;rw [if_neg (by rw [hm];simp),kY,if_pos ⟨hp,by omega⟩]
 have ht2:t=zf (wr1 l s (szF k) (wrF k)):=jj (by rw [hi,ji];exact List.append_nil _);unfold zJ;rw [hlf];simp only [];rw [if_neg (by omega),if_neg (by omega),←ht2]
theorem xE.casesC {t:ByteArray}{v:Value}{T:List (Nat×Obj)}(h:xE t v T):(∃(l:Bool) (s:ByteArray) (p:Option Addr) (n c:Nat) (k:Fo),v=.tuple #[.agg #[.bool l,.string s,.slice p n c],.int .i64 0]∧yr t l s k ⟨#[]⟩∧SlC T p n c k∧s.size≤t.size∧dp1 l (dpF k)≤8∧t.size≤4000)∨(∃e:Int,e≠0∧v=erV e∧T=[]):=by
 rcases h with ⟨_,rfl,rfl⟩|⟨h4,⟨l,s,p,n,c,k,rfl,h1,h2,h3,h5⟩|⟨_,_,_,_,_,rfl,rfl⟩|⟨_,rfl,rfl⟩⟩
 ·exact .inr ⟨2,by decide,rfl,rfl⟩
 ·exact .inl ⟨l,s,p,n,c,k,rfl,h1,h2,h3,h5,h4⟩
 ·exact .inr ⟨5,by decide,rfl,rfl⟩
 ·exact .inr ⟨4,by decide,rfl,rfl⟩
theorem xE.cases {t:ByteArray}{v:Value}{T:List (Nat×Obj)}(h:xE t v T):(∃(l:Bool) (s:ByteArray) (p:Option Addr) (n c:Nat) (k:Fo),v=.tuple #[.agg #[.bool l,.string s,.slice p n c],.int .i64 0]∧yr t l s k ⟨#[]⟩∧ya T p n k∧s.size≤t.size∧dp1 l (dpF k)≤8∧t.size≤4000)∨(∃e:Int,e≠0∧v=erV e∧T=[]):=by
 rcases h.casesC with ⟨l,s,p,n,c,k,e,h1,h2,h3⟩|h
 ·exact .inl ⟨l,s,p,n,c,k,e,h1,h2.1,h3⟩
 ·exact .inr h
theorem zhs {l:Bool}{s:ByteArray}{k:Fo}{v:Value}{T:List (Nat×Obj)}(h0:(zJ l s k.len k).2=0)(h:xE (zJ l s k.len k).1 v T):∃(p:Option Addr) (n c:Nat),v=.tuple #[.agg #[.bool l,.string s,.slice p n c],.int .i64 0]∧ya T p n k:=by
 obtain ⟨he,hm,hp,hc,hd,hz,hl⟩:=jZ h0;have hsz:(zJ l s k.len k).1.size=(wr1 l s (szF k) (wrF k)).length:=by rw [he,qt]
 have htl:tl (zJ l s k.len k).1=wr1 l s (szF k) (wrF k):=by rw [he,ji]
 have hpay:=vP hm hz;have key: ∀(l2:Bool) (s2:ByteArray) (k2:Fo),yr (zJ l s k.len k).1 l2 s2 k2 ⟨#[]⟩→l=l2∧s=s2∧k=k2:=fun l2 s2 k2 ⟨hm2,hp2,hi2⟩=>by
  have hi3:wr1 l s (szF k) (wrF k)++ []=wr1 l2 s2 (szF k2) (wrF k2)++ []:=by rw [List.append_nil,←htl,hi2];rfl
  have hlen:=congrArg List.length hi3;rw [List.length_append,List.length_append,hl,qY hm2 (zY hp2)] at hlen;have hpay2:=vP hm2 (show sz1 l2 s2 (szF k2)≤4000 by simp only [List.length_nil] at hlen;omega);obtain ⟨a,b,c,_⟩:=vO hm hm2 (zY hp).symm (zY hp2).symm (by omega) (by omega) (fun q=>kZ k k2 hp hp2 (by rw [zY hp];omega) q) hi3;exact ⟨a,b,c⟩
 rcases h with ⟨h4,_⟩|⟨_,⟨l2,s2,p,n,c,k2,rfl,h1,h2,_⟩|⟨l2,s2,k2,h1,h2,_⟩|⟨hb,_⟩⟩
 ·omega
 ·obtain ⟨rfl,rfl,rfl⟩:=key l2 s2 k2 h1;exact ⟨p,n,c,rfl,h2.1⟩
 ·obtain ⟨rfl,rfl,rfl⟩:=key l2 s2 k2 h1;omega
 ·exact absurd htl (hb l s k hm hp)
theorem yr.inj {t:ByteArray}{l l':Bool}{s s':ByteArray}{k k':Fo}(ht:t.size≤4000)(h:yr t l s k ⟨#[]⟩)(h':yr t l' s' k' ⟨#[]⟩):l=l'∧s=s'∧k=k':=by
 obtain ⟨hm,hp,hi⟩:=h;obtain ⟨hm2,hp2,hi2⟩:=h';have hlen:=congrArg List.length hi;have hlen2:=congrArg List.length hi2;rw [zy,List.length_append,qY hm (zY hp)] at hlen;rw [zy,List.length_append,qY hm2 (zY hp2)] at hlen2;have h1:=vP hm (show sz1 l s (szF k)≤4000 by omega);have h2:=vP hm2 (show sz1 l' s' (szF k')≤4000 by omega);obtain ⟨a,b,c,_⟩:=vO hm hm2 (zY hp).symm (zY hp2).symm (by omega) (by omega) (fun q=>kZ k k' hp hp2 (by rw [zY hp];omega) q) (hi.symm.trans hi2);exact ⟨a,b,c⟩
theorem zb5 {l:Bool}{s t:ByteArray}{k:Fo}(h:zJ l s k.len k=(t,0)):yr t l s k ⟨#[]⟩:=by
 obtain ⟨he,hm,hp,_⟩:=jZ (show (zJ l s k.len k).2=0 by rw [h]);refine ⟨hm,hp,?_⟩;have e:t=zf (wr1 l s (szF k) (wrF k)):=by rw [←he,h]
 rw [e,ji];exact (List.append_nil _).symm
def zb6 (form:ByteArray)(v:Value)(T:List (Nat×Obj)):Prop:=
 (∃(p:Option Addr) (n c:Nat) (k:Kf),parseM form=some k∧v=.tuple #[knd 40 p n c,.bool true]∧RIn kS T p n k)∨
 (parseM form=none∧∃(g:Nat) (p:Option Addr) (n c:Nat),v=.tuple #[knd g p n c,.bool false])
theorem znn (s:ByteArray)(i:Nat)(h:i<s.size):(tl s).drop i=(tl s).getD i 0::(tl s).drop (i+1):=by
 have h1:i<(tl s).length:=h;rw [List.drop_eq_getElem_cons h1,List.getD_eq_getElem?_getD,List.getElem?_eq_getElem h1];rfl
theorem zno: ∀ {S:List Sk},Bot S→1≤S.length
 | [],h=>h.elim
 | e::r,_=>by simp
theorem zht (form:ByteArray):FnT Tryz.prog 55 #[.string form] (fun _=>True) (zb6 form):=by
 refine FnT.intro (c:=zd Tryz.f55) [.cell 2 106,.tmp 3] 101 Tryz.func55 kr kr kr fun w _=>?_;have H0:=St.start w;refine rS [.a,.v] H0 kr fun gs1 w1 H1=>?_;clear H0;refine zkq kr<|zb kr ?_;by_cases h40:40<form.size
 ·refine rS [.v,.v,.E (.bool (decide ((40:Int)<(ByteArray.size form:Int)))) (.bool true) (za (decide_eq_true (by omega)))] H1 kr fun gs2 w2 H2=>zi kr kr<|rS [.v,.s 0,.v] H2 kr fun gs3 w3 H3=>rRr [.cell 2 106,.tmp 3] [0] (.tuple #[knd 0 none 0 0,.bool false]) (zU w.heap.size w (zb6 form)) H3 kr ?_;exact ⟨[],.inr ⟨by unfold parseM;rw [if_pos h40],_,_,_,_,rfl⟩,H3.sub (List.nil_sublist _)⟩
 ·refine rS [.v,.v,.E (.bool (decide ((40:Int)<(ByteArray.size form:Int)))) (.bool false) (za (decide_eq_false (by omega)))] H1 kr fun gs2 w2 H2=>zl kr kr<|zp kr<|wW<|rS [.v,.nw (fun b=>.slice (some ⟨b,0,none⟩) 1 1) #[.int .u8 40,.slice none 0 0] 106,.v] H2 kr fun gs3 w3 H3=>zb kr<|zkr 0 kr<|wW<|zb kr<|rS [.v,.v,.v] H3 kr fun gs4 w4 H4=>zu 0 kr ?_;have H5:St w.heap.size w w4 (((gs1 0).b,kdO 0 none 0 0)::((gs3 1).b,kR #[.int .u8 40,.slice none 0 0])::(yn [⟨40,none,0,0,[],[]⟩]++ [])):=H4.as kr;have hpm:parseM form=match kj (tl form) [(40,.nil)] with | some [(_,m)]=>some m | _=>none:=by unfold parseM;rw [if_neg h40]<;>rfl
  clear H1 H2 H3 H4;refine yD kr (fun mz ρ ww=> ∃(i:Nat) (st:List (Nat×Kf)),form.size-i=mz∧i≤form.size∧kj ((tl form).drop i) st=kj (tl form) [(40,.nil)]∧znk w.heap.size w form (gs1 0).b i st ρ ww) (form.size-0)
   ⟨0,[(40,.nil)],rfl,Nat.zero_le _,rfl,[⟨40,none,0,0,[],[]⟩],1,[],(gs3 1).b,1,#[.int .u8 40,.slice none 0 0],rfl,.inl ⟨rfl,rfl⟩,by decide,(fun x hx=>by
    obtain rfl:=List.mem_singleton.1 hx
    exact ⟨.inl ⟨rfl,rfl,rfl,rfl,rfl⟩,(fun _ h=>nomatch h),Nat.zero_le _⟩),rfl,⟨rfl,Nat.le_refl _,by unfold maxLen;omega,rfl,rfl⟩,H5,(Is.of ⟨kr,kr,kr,kr,kr,kr,trivial⟩)⟩ ?_
  clear H5;rintro _ _ w5 ⟨i,_,rfl,hi,hst,S,N,T,bo,cap,cur,hN,hBot,hN5,hS,rfl,hRw,H6,_,rfl⟩;by_cases hlt:i<form.size
  ·refine rS [.E (.bool (decide ((i:Int)<(form.size:Int)))) (.bool true) (za (decide_eq_true (by omega)))] H6 kr fun gs5 w6 H7=>zb kr<|zi kr kr<|zp kr<|wW<|zb kr<|zu 1 kr ?_;have H8:St w.heap.size w w6 (((gs1 0).b,kdO 0 none 0 0)::(bo,kR cur)::(yn S++T)):=H7.as kr;have hstep: ∀x,jr (by_ form i) (stM S)=x→kj (tl form) [(40,.nil)]=match x with | none=>none | some st'=>kj ((tl form).drop (i+1)) st':=fun x hx=>by
    rw [←hst,znn form i hlt,←hx];rfl
   refine znl form (gs1 0).b i (by omega) hlt (by omega) S N T bo cap cur hN hBot hN5 hS hRw _ w6 H8 (Is.of ⟨kr,kr,kr,kr,kr,kr,trivial⟩) ?_ ?_
   ·intro hn ρ ww bd o l HS h3 h2;refine wV ?_;refine ⟨[.agg #[.int .u8 0,.slice none 0 0],.bool false],(.agg (b:=(gs1 0).b) #[.int .u8 0,.slice none 0 0] 106 (0,0) h2 (HS.get 1 kr) kr (.tmp (.bool false) h3 .nil)),[],.inr ⟨?_,0,none,0,0,rfl⟩,HS.sub (List.nil_sublist _)⟩;rw [hpm,hstep _ hn]
   ·intro S' N' T' bo' cap' cur' ρ ww h1 h2 h3 h4 h5 h6 h7 ⟨_,h8⟩;subst h8;refine wW<|rL [.E (.int .i64 (IntKind.i64.wrap ((i:Int)+1))) (.int .i64 ((i+1:Nat):Int)) (zk (yF (a:=i) (b:=1) (by omega))),.v] h7 kr fun gs6 w7 H9=>?_;show ∃m,_∧_;exact ⟨_,(by omega),i+1,stM S',rfl,hlt,(hstep _ h5).symm,S',N',T',bo',cap',cur',h1,h2,h3,h4,rfl,h6,H9.as kr,(Is.of ⟨kr,kr,kr,kr,kr,kr,trivial⟩)⟩
  ·obtain rfl:i=form.size:=by omega
   refine rS [.E (.bool (decide ((form.size:Int)<(form.size:Int)))) (.bool false) (za (decide_eq_false (by omega)))] H6 kr fun gs5 w6 H7=>zb kr<|zl kr kr<|ym 0 kr<|wW ?_;have hb1:=zno hBot;have hend:kj (tl form) [(40,.nil)]=some (stM S):=by
    rw [←hst,List.drop_of_length_le (by rw [zy];exact Nat.le_refl _)];rfl
   rw [hend] at hpm;obtain ⟨x,hx⟩:∃x,(opE S)[0]? =some x:=⟨_,List.getElem?_eq_getElem (by rw [zdX];omega)⟩
   have hat:=hRw.atE (S:=kS) hx;by_cases h1:N=1
   ·refine rS [.v,.o (ins:=[((.tmp 95),.slice (some ⟨bo,0,none⟩) N cap),((.const (.int .i64 0)),.int .i64 0)]) (v:=.pointer (some ⟨bo,0+0*2,none⟩)) (fun ρ o w ho hi2=>yH (kd:=.i64) (t:=104) (e:=106) (K:=2) (bytes:=32) kr (x:=(.tmp 95)) (y:=(.const (.int .i64 0))) bo 0 N cap 0 rfl ho hi2.1 hi2.2.1 (by omega) w),.lp 1 (C:=cur) (off:=0*2) (n:=2) (W:=#[.int .u8 ((x.a:Nat):Int),.slice x.p x.n x.c]) hat.1 hat.2,.v,.v,.E (.bool ((N:Int)==1)) (.bool true) (za (beq_iff_eq.2 (by omega))),.s 0,.v] H7 kr fun gs6 w7 H8=>rRr [.cell 2 106,.tmp 3] [0] (.tuple #[knd x.a x.p x.n x.c,.bool true]) (zU w.heap.size w (zb6 form)) H8 kr ?_;have H9:St w.heap.size w w7 (((gs1 0).b,kdO x.a x.p x.n x.c)::(bo,kR cur)::(yn S++T)):=H8.as kr;rcases S with _ | ⟨e,_ | ⟨e',r⟩⟩
    ·exact hBot.elim
    ·obtain rfl:e.el=x:=by simpa [opE] using hx
     have he:=hS e (List.mem_cons_self ..);have hg:e.g=40:=by
      rcases hBot with ⟨_,h⟩|h
      ·exact h
      ·exact h.elim
     refine ⟨e.row++T,.inl ⟨e.p,e.n,e.c,yA e.M,?_,?_,he.row.rIn (by decide) he.all (by have:=he.le;show e.n≤1000;omega)⟩,?_⟩
     ·rw [hpm];rfl
     ·show Value.tuple #[knd e.g e.p e.n e.c,.bool true]=_;rw [hg]
     ·have H10:=H9.sub (List.Sublist.cons _ (List.sublist_cons_self ..));have e2:yn [e]++T=e.row++T:=by show (e.row++ [])++T=_;rw [List.append_nil]
      rw [e2] at H10;exact H10
    ·exact absurd (hN.symm.trans h1) (by simp)
   ·refine rS [.v,.o (ins:=[((.tmp 95),.slice (some ⟨bo,0,none⟩) N cap),((.const (.int .i64 0)),.int .i64 0)]) (v:=.pointer (some ⟨bo,0+0*2,none⟩)) (fun ρ o w ho hi2=>yH (kd:=.i64) (t:=104) (e:=106) (K:=2) (bytes:=32) kr (x:=(.tmp 95)) (y:=(.const (.int .i64 0))) bo 0 N cap 0 rfl ho hi2.1 hi2.2.1 (by omega) w),.lp 1 (C:=cur) (off:=0*2) (n:=2) (W:=#[.int .u8 ((x.a:Nat):Int),.slice x.p x.n x.c]) hat.1 hat.2,.v,.v,.E (.bool ((N:Int)==1)) (.bool false) (za (beq_eq_false_iff_ne.2 (by omega))),.s 0,.v] H7 kr fun gs6 w7 H8=>rRr [.cell 2 106,.tmp 3] [0] (.tuple #[knd x.a x.p x.n x.c,.bool false]) (zU w.heap.size w (zb6 form)) H8 kr ?_;refine ⟨[],.inr ⟨?_,_,_,_,_,rfl⟩,H8.sub (List.nil_sublist _)⟩;rw [hpm];rcases S with _ | ⟨e,_ | ⟨e',r⟩⟩
    ·exact hBot.elim
    ·exact absurd hN h1
    ·rfl
def jO (x:ByteArray×Nat):Value:=.tuple #[.string x.1,.int .i64 ((x.2:Nat):Int)]
theorem zhu (g:Nat)(p:Option Addr)(n c:Nat)(b:Kf)(m:Nat)(s:ByteArray)(p2:Option Addr)(n2 c2:Nat)(l:Fe)(hm:m<0x10000000000000000)(hs:s.size≤0x800000000000):
 FnP Tryz.prog 56 #[knd g p n c,fld m s p2 n2 c2] (fun w=>SlR kS w.heap.size w p n b∧SlR fS w.heap.size w p2 n2 l) (jO (yG g b (m,s) l)):=by
 refine FnP.intro (c:=zd Tryz.f56) [.tmp 4,.tmp 5] 16 Tryz.func56 kr kr kr fun w hpre=>?_;have H0:=St.start w;obtain ⟨hK,hF⟩:=hpre;refine rS [.b,.b,.v,.v] H0 kr fun gs1 w1 H1=>?_;clear H0;refine zb kr ?_;unfold yG;by_cases hl:zW g b (m,s) l 1001<0
 ·rw [if_pos hl];refine rS [.l 0,.l 1,.cp (pre:=fun w=>SlR kS w.heap.size w p n b∧SlR fS w.heap.size w p2 n2 l) (zhi l g p n c b m s p2 n2 c2 1001) [] (fun w hb hd=>⟨hK.call hb,hF.call hb⟩),.E (.bool (decide (zW g b (m,s) l 1001<0))) (.bool true) (za (decide_eq_true hl))] H1 kr fun gs2 w2 H2=>zi kr kr<|rS [.v,.v] H2 kr fun gs3 w3 H3=>?_;exact rR [.tmp 4,.tmp 5] [] (jO (⟨#[]⟩,1)) H3 kr
 ·rw [if_neg hl];refine rS [.l 0,.l 1,.cp (pre:=fun w=>SlR kS w.heap.size w p n b∧SlR fS w.heap.size w p2 n2 l) (zhi l g p n c b m s p2 n2 c2 1001) [] (fun w hb hd=>⟨hK.call hb,hF.call hb⟩),.E (.bool (decide (zW g b (m,s) l 1001<0))) (.bool false) (za (decide_eq_false hl))] H1 kr fun gs2 w2 H2=>zl kr kr<|zp kr<|wW<|zh [0,1,2,3,4,5,6,7] kr kr<|rp [.l 0,.l 1] H2 kr fun gs3 w3 H3=>wX [2,3,4,5,6,7]<|qo H3 (some 12) 77 #[knd g p n c,fld m s p2 n2 c2] (znd l g p n c b m s p2 n2 c2 1001 hm (Int.not_lt.1 hl)) ⟨hK.call H3.below,hF.call H3.below⟩ kr kr ?_;intro v T w4 hok H4;obtain ⟨q1,q2,q3,rfl,hsl⟩:=hok;refine qm H4 (some 13) 11 #[itm (yf g) (yK g (m,s)) q1 q2 q3] _ _ (zgv (yf g) (yK g (m,s)) q1 q2 q3 (zX g b l) (zhl hs)) (hsl.at H4 fun e he=>List.mem_append_left _ he) (fun w=>by kernel_rfl) kr ?_;intro w5 H5;rw [hsl.1];have H6:=H5.sub (List.nil_sublist _);refine rp [.v,.v,.v,.v] H6 kr fun gs4 w6 H7=>wX []<|zc ?_;exact rR [.tmp 4,.tmp 5] [] (jO (zJ (yf g) (yK g (m,s)) (zX g b l).len (zX g b l))) H7 kr
def wrV (form:ByteArray)(l:Fe):ByteArray×Nat:=match parseM form with
 | none=>(⟨#[]⟩,1)
 | some k=>yG 40 k (0,⟨#[]⟩) l
theorem zb7 (form:ByteArray)(p:Option Addr)(n c:Nat)(l:Fe):FnP Tryz.prog 42 #[.string form,.slice p n c] (fun w=>SlR fS w.heap.size w p n l) (jO (wrV form l)):=by
 refine FnP.intro (c:=zd Tryz.f42) [.tmp 4,.tmp 5] 21 Tryz.func42 kr kr kr fun w hF=>?_;have H0:=St.start w;refine rS [.v,.v] H0 kr fun gs1 w1 H1=>?_;clear H0;refine zh [0,1,2,3,4,5,6,7] kr kr<|rp [.v] H1 kr fun gs2 w2 H2=>wX [1,2,3,4,5,6,7]<|qo H2 (some 10) 55 #[.string form] (zht form) trivial kr kr ?_;intro v T w3 hok H3;unfold wrV;rcases hok with ⟨q1,q2,q3,k,hp,rfl,hk⟩ | ⟨hp,g',q1,q2,q3,rfl⟩
 ·rw [hp];refine rp [.v,.v,.v] H3 kr fun gs3 w4 H4=>wX [5,6,7] ?_;have H5:St w.heap.size w w4 (T++ []):=H4.as kr;refine zP H5 (some 6) 106 (.agg #[.int .u8 0,.slice none 0 0]) kr kr kr ?_;intro b6 w5 H6;refine rp [.s 0,.v] H6 kr fun gs4 w6 H7=>wX []<|zc<|zb kr<|rS [.v,.v] H7 kr fun gs5 w7 H8=>zl kr kr<|zp kr<|wW<|zh [0,1,2,3,4,5,6,7] kr kr<|rp [.l 0,.v,.v] H8 kr fun gs6 w8 H9=>wX [3,4,5,6,7] ?_;have H10:St w.heap.size w w8 ((b6,kdO 40 q1 q2 q3)::(T++ [])):=H9.as kr;refine qm H10 (some 18) 56 #[knd 40 q1 q2 q3,fld 0 ⟨#[]⟩ p n c] _ _ (zhu 40 q1 q2 q3 k 0 ⟨#[]⟩ p n c l (by decide) (by decide)) ⟨hk.at H10 fun e he=>List.mem_cons_of_mem _ (List.mem_append_left _ he),hF.call H10.below⟩ (fun w=>by kernel_rfl) kr ?_;intro w9 H11;have H12:=H11.sub (List.nil_sublist _);refine rp [.v,.v,.v,.v] H12 kr fun gs7 w10 H13=>wX []<|zc ?_;exact rR [.tmp 4,.tmp 5] [] (jO (yG 40 k (0,⟨#[]⟩) l)) H13 kr
 ·rw [hp];refine rp [.v,.v,.v] H3 kr fun gs3 w4 H4=>wX [5,6,7] ?_;have H5:St w.heap.size w w4 (T++ []):=H4.as kr;refine zP H5 (some 6) 106 (.agg #[.int .u8 0,.slice none 0 0]) kr kr kr ?_;intro b6 w5 H6;refine rp [.s 0,.v] H6 kr fun gs4 w6 H7=>wX []<|zc<|zb kr<|rS [.v,.v] H7 kr fun gs5 w7 H8=>zi kr kr ?_;have H9:=H8.sub (List.nil_sublist _);refine rS [.v,.v] H9 kr fun gs6 w8 H10=>?_;exact rR [.tmp 4,.tmp 5] [] (jO (⟨#[]⟩,1)) H10 kr
def zam (form s:ByteArray)(v:Value)(T:List (Nat×Obj)):Prop:=
 (∃(p:Option Addr) (n c:Nat) (l:Fe) (k:Kf),parseM form=some k∧v=.tuple #[.slice p n c,.int .i64 0]∧RIn fS T p n l∧yG 40 k (0,⟨#[]⟩) l=(s,0))∨
 (∃e:Int,e≠0∧v=.tuple #[.slice none 0 0,.int .i64 e]∧ ∀(k:Kf) (l:Fe),parseM form=some k→l.all fS.ok→yG 40 k (0,⟨#[]⟩) l≠(s,0))
theorem znp (l:Bool)(s:ByteArray)(n:Nat)(k:Fo):(zJ l s n k).2=0∨(zJ l s n k).1=⟨#[]⟩:=by
 unfold zJ;split
 ·exact .inr rfl
 ·split
  ·exact .inr rfl
  ·split
   ·exact .inr rfl
   ·exact .inl rfl
theorem ko {k:Kf}{l:Fe}{s:ByteArray}(h:yG 40 k (0,⟨#[]⟩) l=(s,0)): ¬zW 40 k (0,⟨#[]⟩) l 1001<0∧zJ true ⟨#[]⟩ (zX 40 k l).len (zX 40 k l)=(s,0):=by
 unfold yG at h;by_cases hl:zW 40 k (0,⟨#[]⟩) l 1001<0
 ·rw [if_pos hl] at h;exact absurd (congrArg Prod.snd h) Nat.one_ne_zero
 ·rw [if_neg hl] at h;exact ⟨hl,h⟩
theorem zhv (k:Kf)(l:Fe):(yG 40 k (0,⟨#[]⟩) l).2=0∨(yG 40 k (0,⟨#[]⟩) l).1=⟨#[]⟩:=by
 unfold yG;split
 ·exact .inr rfl
 ·exact znp ..
theorem znq {k:Kf}{l:Fe}{s:ByteArray}{v:Value}{T:List (Nat×Obj)}(h:yG 40 k (0,⟨#[]⟩) l=(s,0))(ho:l.all fS.ok)(hd:xE s v T):
 ∃(p:Option Addr) (n c:Nat),v=.tuple #[.agg #[.bool true,.string ⟨#[]⟩,.slice p n c],.int .i64 0]∧ya T p n (zX 40 k l)∧yT 40 k (zX 40 k l)=l:=by
 obtain ⟨hl,he⟩:=ko h;have h1:(zJ true ⟨#[]⟩ (zX 40 k l).len (zX 40 k l)).2=0:=by rw [he]
 have h2:xE (zJ true ⟨#[]⟩ (zX 40 k l).len (zX 40 k l)).1 v T:=by rw [he];exact hd
 obtain ⟨p,n,c,hv,hT⟩:=zhs h1 h2;exact ⟨p,n,c,hv,hT,(zbV (by decide) ho hl).2.2⟩
theorem znr {t:ByteArray}{l:Bool}{s:ByteArray}{k:Fo}(h:yr t l s k ⟨#[]⟩):t≠⟨#[]⟩:=fun e=>by
 obtain ⟨hm,hp,hi⟩:=h;have h1:=(jX hm hp rfl).1;have h2:=congrArg List.length hi;rw [e,List.length_append] at h2;have h3:(tl (⟨#[]⟩:ByteArray)).length=0:=rfl;omega
theorem zan {form:ByteArray}{ks:List ByteArray}(hK:zbX form ks)(l:Fe):wrV form l=if yB ks l=true∧l.cnt≤1000 then zJ true emB (qv l 40 (kfL ks) 0).len (qv l 40 (kfL ks) 0) else (emB,1):=by
 unfold wrV;rw [hK.parse];show yG 40 (kfL ks) (0,⟨#[]⟩) l=_;unfold yG;by_cases h:yB ks l=true∧l.cnt≤1000
 ·rw [if_pos h,if_neg ((zbW hK.kd l).2 h)];rfl
 ·rw [if_neg h,if_pos];by_cases hn:zW 40 (kfL ks) (0,⟨#[]⟩) l 1001<0
  ·exact hn
  ·exact absurd ((zbW hK.kd l).1 hn) h
theorem yU {ks:List ByteArray}(x:Nat×ByteArray)(l r:Fe)(i:Nat)(hi:i<ks.length):qv (.cons x l r) 40 (kfL ks) i=.cons (yf (by_ ks[i] 0)) (yK (by_ ks[i] 0) x) (zX (by_ ks[i] 0) (kdB ks[i]) l) (qv r 40 (kfL ks) (i+1)):=by
 rw [zbU,zg9,List.getElem?_eq_getElem hi]
abbrev fO (p:Option Addr)(n c:Nat):Obj:=.cells #[wZ,.string ⟨#[]⟩,.slice p n c] 91 (0,0)
theorem zhw (form s:ByteArray)(hs:s.size≤0x800000000000):FnT Tryz.prog 102 #[.string form,.string s] (fun _=>True) (zam form s):=by
 refine FnT.intro (c:=zd Tryz.f102) [.tmp 4,.tmp 5] 42 Tryz.func102 kr kr kr fun w _=>?_;have H0:=St.start w;refine rS [.v,.v] H0 kr fun gs1 w1 H1=>?_;clear H0;refine zh [0,1,2,3,4,5,6,7] kr kr<|rp [.v] H1 kr fun gs2 w2 H2=>wX [1,2,3,4,5,6,7]<|qo H2 (some 15) 55 #[.string form] (zht form) trivial kr kr ?_;intro v T w3 hok H3;rcases hok with ⟨q1,q2,q3,k,hp,rfl,hk⟩ | ⟨hp,g',q1,q2,q3,rfl⟩
 ·refine rp [.v,.v,.v] H3 kr fun gs3 w4 H4=>wX [5,6,7] ?_;have H5:St w.heap.size w w4 (T++ []):=H4.as kr;refine zP H5 (some 6) 106 (.agg #[.int .u8 0,.slice none 0 0]) kr kr kr ?_;intro b6 w5 H6;refine rp [.s 0,.v] H6 kr fun gs4 w6 H7=>wX []<|zc<|zb kr<|rS [.v,.v] H7 kr fun gs5 w7 H8=>zl kr kr<|zp kr<|wW<|zh [0,1,2,3,4,5,6,7] kr kr<|rp [.v] H8 kr fun gs6 w8 H9=>wX [1,2,3,4,5,6,7] ?_;have H10:St w.heap.size w w8 ((b6,kdO 40 q1 q2 q3)::(T++ [])):=H9.as kr;refine zdP H10 (some 22) 50 #[.string s] (zg2 s hs) kr kr ?_;intro vd Td w9 hdec H11;rcases hdec.cases with ⟨l1,s1,p1,n1,c1,k1,rfl,hit,hsl,hs1,hdp,h4⟩ | ⟨er,her,rfl,rfl⟩
  ·refine rp [.v,.v,.v] H11 kr fun gs7 w10 H12=>wX [5,6,7] ?_;have H13:St w.heap.size w w10 (Td++((b6,kdO 40 q1 q2 q3)::(T++ []))):=H12.as kr;refine zP H13 (some 8) 44 (.agg #[.bool false,.string ⟨#[]⟩,.slice none 0 0]) kr kr kr ?_;intro b8 w11 H14;refine rp [.s 0,.v] H14 kr fun gs8 w12 H15=>wX []<|zc ?_;have H16:St w.heap.size w w12 ((b8,ixO l1 s1 p1 n1 c1)::(Td++((b6,kdO 40 q1 q2 q3)::(T++ [])))):=H15.as kr;have H17:St w.heap.size w w12 ((b6,kdO 40 q1 q2 q3)::(b8,ixO l1 s1 p1 n1 c1)::(Td++T)):=by
    refine H16.perm ?_;rw [List.append_nil];exact (List.Perm.swap _ _ _).trans (List.Perm.cons _ List.perm_middle.symm)
   refine zb kr<|rS [.v,.v] H17 kr fun gs9 w13 H18=>zl kr kr<|zp kr<|wW<|zh [0,1,2,3,4] kr kr<|rp [.l 0,.l 1] H18 kr fun gs10 w14 H19=>wX [2,3,4] ?_;have H20:St w.heap.size w w14 ((b6,kdO 40 q1 q2 q3)::(b8,ixO l1 s1 p1 n1 c1)::(Td++T)):=H19.as kr;have hcnt:=hit.sz.2;refine qo H20 (some 30) 144 #[knd 40 q1 q2 q3,itm l1 s1 p1 n1 c1] (zni k1 40 q1 q2 q3 k l1 s1 p1 n1 c1 (by omega) (by omega)) ⟨hk.at H20 fun e he=>List.mem_cons_of_mem _ (List.mem_cons_of_mem _ (List.mem_append_right _ he)),hsl.at H20 fun e he=>List.mem_cons_of_mem _ (List.mem_cons_of_mem _ (List.mem_append_left _ he))⟩ kr kr ?_;intro vf Tf w15 hfld H21;obtain ⟨pf,nf,cf,rfl,hTf⟩:=hfld;refine zP H21 (some 10) 91 (.agg #[wZ,.string ⟨#[]⟩,.slice none 0 0]) kr kr kr ?_;intro b10 w16 H22;refine rp [.s 0] H22 kr fun gs11 w17 H23=>wX []<|zc ?_;have H24:St w.heap.size w w17 ((b10,fO pf nf cf)::(Tf++((b6,kdO 40 q1 q2 q3)::(b8,ixO l1 s1 p1 n1 c1)::(Td++T)))):=H23.as kr;have H25:St w.heap.size w w17 ((b10,fO pf nf cf)::(b6,kdO 40 q1 q2 q3)::(b8,ixO l1 s1 p1 n1 c1)::(Tf++(Td++T))):=
    H24.perm (List.Perm.cons _ (List.perm_append_comm_assoc Tf [(b6,kdO 40 q1 q2 q3),(b8,ixO l1 s1 p1 n1 c1)] (Td++T)).symm)
   refine zb kr<|zh [0,1,2,3,4,5,6,7] kr kr<|rp [.l 1,.l 0] H25 kr fun gs12 w18 H26=>wX [2,3,4,5,6,7] ?_;have H27:St w.heap.size w w18 ((b10,fO pf nf cf)::(b6,kdO 40 q1 q2 q3)::(b8,ixO l1 s1 p1 n1 c1)::(Tf++(Td++T))):=H26.as kr;have hmF: ∀e∈Tf,e∈(b10,fO pf nf cf)::(b6,kdO 40 q1 q2 q3)::(b8,ixO l1 s1 p1 n1 c1)::(Tf++(Td++T)):=fun e he=>List.mem_cons_of_mem _ (List.mem_cons_of_mem _ (List.mem_cons_of_mem _ (List.mem_append_left _ he)));have hmK: ∀e∈T,e∈(b10,fO pf nf cf)::(b6,kdO 40 q1 q2 q3)::(b8,ixO l1 s1 p1 n1 c1)::(Tf++(Td++T)):=fun e he=>List.mem_cons_of_mem _ (List.mem_cons_of_mem _ (List.mem_cons_of_mem _ (List.mem_append_right _ (List.mem_append_right _ he))));have hok:=(hTf.at H27 hmF).ok;refine qm H27 (some 34) 56 #[knd 40 q1 q2 q3,fld 0 ⟨#[]⟩ pf nf cf] _ _ (zhu 40 q1 q2 q3 k 0 ⟨#[]⟩ pf nf cf (yT 40 k k1) (by decide) (by decide)) ⟨hk.at H27 hmK,hTf.at H27 hmF⟩ (fun w=>by kernel_rfl) kr ?_;intro w19 H28;refine rp [.v,.v,.v,.v,.v] H28 kr fun gs13 w20 H29=>wX []<|zc ?_;by_cases hmade:(yG 40 k (0,⟨#[]⟩) (yT 40 k k1)).1=s
   ·refine rS [.v,.v,.E (.bool (!((yG 40 k (0,⟨#[]⟩) (yT 40 k k1)).1.toList==s.toList))) (.bool false) (za (by rw [qD _ _ hmade];rfl))] H29 kr fun gs14 w21 H30=>zl kr kr<|zp kr<|wW<|rS [.v,.l 0,.v,.v] H30 kr fun gs15 w22 H31=>rRr [.tmp 4,.tmp 5] [] (.tuple #[.slice pf nf cf,.int .i64 0]) (zU w.heap.size w (zam form s)) H31 kr ?_;have H32:St w.heap.size w w22 ((b10,fO pf nf cf)::(b6,kdO 40 q1 q2 q3)::(b8,ixO l1 s1 p1 n1 c1)::(Tf++(Td++T))):=H31.as kr;refine ⟨Tf,.inl ⟨pf,nf,cf,yT 40 k k1,k,hp,rfl,hTf,?_⟩,H32.sub (List.Sublist.cons _ (List.Sublist.cons _ (List.Sublist.cons _ (List.sublist_append_left _ _))))⟩;rcases zhv k (yT 40 k k1) with h | h
    ·exact Prod.ext hmade h
    ·exact absurd (hmade.symm.trans h) (znr hit)
   ·refine rS [.v,.v,.E (.bool (!((yG 40 k (0,⟨#[]⟩) (yT 40 k k1)).1.toList==s.toList))) (.bool true) (za (by rw [qW _ _ hmade];rfl))] H29 kr fun gs14 w21 H30=>zi kr kr<|rS [.v,.v] H30 kr fun gs15 w22 H31=>rRr [.tmp 4,.tmp 5] [] (.tuple #[.slice none 0 0,.int .i64 4]) (zU w.heap.size w (zam form s)) H31 kr ?_;refine ⟨[],.inr ⟨4,by decide,rfl,fun k' l' hp' ho' hw'=>?_⟩,H31.sub (List.nil_sublist _)⟩;obtain rfl:k=k':=Option.some.inj (hp.symm.trans hp');obtain ⟨hl9,he9⟩:=ko hw';have hf:=(zbV (by decide) ho' hl9).2.2;have hk9:=(yr.inj h4 hit (zb5 he9)).2.2;rw [hk9,hf,hw'] at hmade;exact hmade rfl
  ·have hno: ∀(k':Kf) (l':Fe),parseM form=some k'→l'.all fS.ok→yG 40 k' (0,⟨#[]⟩) l'≠(s,0):=fun k' l' _ ho' hw'=>by
    obtain ⟨p9,n9,c9,hv,_⟩:=znq hw' ho' hdec;unfold erV at hv;injection hv with hv;have h9:=congrArg (fun a:Array Value=>a[1]?) hv;simp at h9;exact her h9
   refine rp [.v,.v,.v] H11 kr fun gs7 w10 H12=>wX [5,6,7] ?_;have H13:St w.heap.size w w10 ([]++((b6,kdO 40 q1 q2 q3)::(T++ []))):=H12.as kr;refine zP H13 (some 8) 44 (.agg #[.bool false,.string ⟨#[]⟩,.slice none 0 0]) kr kr kr ?_;intro b8 w11 H14;refine rp [.s 0,.v] H14 kr fun gs8 w12 H15=>wX []<|zc<|zb kr<|rS [.v,.E (.bool (!(er==0))) (.bool true) (za (by rw [beq_eq_false_iff_ne.2 her];rfl))] H15 kr fun gs9 w13 H16=>zi kr kr<|rS [.v,.v,.v] H16 kr fun gs10 w14 H17=>rRr [.tmp 4,.tmp 5] [] (.tuple #[.slice none 0 0,.int .i64 er]) (zU w.heap.size w (zam form s)) H17 kr ?_;exact ⟨[],.inr ⟨er,her,rfl,hno⟩,H17.sub (List.nil_sublist _)⟩
 ·refine rp [.v,.v,.v] H3 kr fun gs3 w4 H4=>wX [5,6,7] ?_;have H5:St w.heap.size w w4 (T++ []):=H4.as kr;refine zP H5 (some 6) 106 (.agg #[.int .u8 0,.slice none 0 0]) kr kr kr ?_;intro b6 w5 H6;refine rp [.s 0,.v] H6 kr fun gs4 w6 H7=>wX []<|zc<|zb kr<|rS [.v,.v] H7 kr fun gs5 w7 H8=>zi kr kr<|rS [.v,.v] H8 kr fun gs6 w8 H10=>rRr [.tmp 4,.tmp 5] [] (.tuple #[.slice none 0 0,.int .i64 1]) (zU w.heap.size w (zam form s)) H10 kr ?_;exact ⟨[],.inr ⟨1,by decide,rfl,fun k l h=>by rw [hp] at h;cases h⟩,H10.sub (List.nil_sublist _)⟩
theorem zao {k:Kf}{l l':Fe}{s:ByteArray}(h:yG 40 k (0,⟨#[]⟩) l=(s,0))(h':yG 40 k (0,⟨#[]⟩) l'=(s,0))(ho:l.all fS.ok)(ho':l'.all fS.ok):l=l':=by
 obtain ⟨h1,h2⟩:=ko h;obtain ⟨h1',h2'⟩:=ko h';have hi:=zb5 h2;have hz:s.size≤4000:=by
  have:=jZ (show (zJ true ⟨#[]⟩ (zX 40 k l).len (zX 40 k l)).2=0 by rw [h2]);have h9:=congrArg ByteArray.size this.1;rw [h2,qt,this.2.2.2.2.2.2] at h9;simp only at h9;omega
 have e:=(yr.inj hz hi (zb5 h2')).2.2;rw [←(zbV (by decide) ho h1).2.2,←(zbV (by decide) ho' h1').2.2,e]
theorem zns (form:ByteArray)(l:Fe):(wrV form l).1.size≤4000:=by
 unfold wrV;split
 ·exact Nat.zero_le _
 ·rename_i k _
  rcases zhv k l with h|h
  ·have h2:=ko (s:=(yG 40 k (0,⟨#[]⟩) l).1) (Prod.ext rfl h);have:=jZ (show (zJ true ⟨#[]⟩ (zX 40 k l).len (zX 40 k l)).2=0 by rw [h2.2]);have h9:=congrArg ByteArray.size this.1;rw [h2.2,qt,this.2.2.2.2.2.2] at h9;simp only at h9;omega
  ·rw [h];exact Nat.zero_le _
end Go.Proofs.YtpghmdbjmigjlaaGreatDoor
namespace Go.Proofs.YtpghmdbjmigjlaaGreatDoor
open Go.ChangeShapes Go.WideShapes Go.ChangeAt Go.RowKit
set_option linter.unusedVariables false
def bn (A:Nat):List Int:=[w3 A / 72057594037927936%256,w3 A / 281474976710656%256,w3 A / 1099511627776%256,w3 A / 4294967296%256,w3 A / 16777216%256,w3 A / 65536%256,w3 A / 256%256,w3 A%256,w2 A / 72057594037927936%256,w2 A / 281474976710656%256,w2 A / 1099511627776%256,w2 A / 4294967296%256,w2 A / 16777216%256,w2 A / 65536%256,w2 A / 256%256,w2 A%256,w1 A / 72057594037927936%256,w1 A / 281474976710656%256,w1 A / 1099511627776%256,w1 A / 4294967296%256,w1 A / 16777216%256,w1 A / 65536%256,w1 A / 256%256,w1 A%256,w0 A / 72057594037927936%256,w0 A / 281474976710656%256,w0 A / 1099511627776%256,w0 A / 4294967296%256,w0 A / 16777216%256,w0 A / 65536%256,w0 A / 256%256,w0 A%256]
def bs (A:Nat):ByteArray:=strOfNums (bn A)
theorem znt (w:World)(O:Obj)(xs:List Int)(n:Nat)(hn:xs.length=n)(C:Array Value)(hC:C=(xs.map (Value.int .u8)).toArray):
 (convert 48 9 (.slice (some ⟨w.heap.size+1,0,none⟩) n n)).run Tryz.prog ((w.alloc O).alloc (.cells C 103))=.ok (.string (strOfNums xs)) ((w.alloc O).alloc (.cells C 103)):=by
 subst hC;refine run_convert_bytes_arg _ 48 5 Tryz.underlying48 Tryz.underlying5 _ 0 n n xs hn ?_ 9 Tryz.underlying9;intro i hi;have h:=heap_alloc2_new w O (.cells (xs.map (Value.int .u8)).toArray 103);rw [cell_of_row _ _ _ _ _ _ h];have hi':i<xs.length:=by omega
 simp [hi']
theorem zdY (A:Nat)(hA:A<big)(w:World):Calls Tryz.prog 40 #[uv A] w fun e w'=>e=.returned (.string (bs A))∧Below w.heap.size w w':=by
 have hc:=fun (O:Obj)=>znt w O (bn A) 32 rfl _ rfl;simp only [bn,List.map_cons,List.map_nil] at hc;unfold uv
 go_enter Tryz.func40,Tryz.ntmps40
 go_wp2
 go_rounds 33
 go_ret
 exact ⟨rfl,by go_grown⟩
theorem qH (A:Nat):(bs A).size=32:=rfl
end Go.Proofs.YtpghmdbjmigjlaaGreatDoor
namespace Go.Proofs.YtpghmdbjmigjlaaGreatDoor
open Go Go.RowKit
set_option linter.unusedVariables false
def inN (a:Nat):Bool:= !decide (a=0)&&decide (a<NR)
def vS (a:Nat):Bool:=decide (a<fSub 0 a NR)
theorem znu:inN 0=false:=rfl
theorem znv {a:Nat}(h: ¬a=0):inN a=decide (a<NR):=by unfold inN;rw [decide_eq_false h];rfl
def zO (r s:Nat)(v:Int):Bool:=inN r&&vS s&&(decide (v=0)||decide (v=1))
def sgv (r s:Nat)(v:Int):Value:=.agg #[.int .u64 (w0 r),.int .u64 (w1 r),.int .u64 (w2 r),.int .u64 (w3 r),.int .u64 (w0 s),.int .u64 (w1 s),.int .u64 (w2 s),.int .u64 (w3 s),.int .i64 v]
def sbs (r s:Nat)(v:Int):ByteArray:=(bs r++bs s)++strOfNums [IntKind.u8.wrap v]
theorem zdZ (a b:ByteArray):(a++b).size=a.size+b.size:=ByteArray.size_append
theorem znw (a:Nat)(ha:a<big)(h:a=0):Fn Tryz.prog 45 #[uv a] (.bool false):=by
 refine Fn.intro (c:=zd Tryz.f45) [.tmp 2] 18 Tryz.func45 kr kr kr fun w=>?_;have H0:=St.start w;refine rS [.b,.v] H0 kr fun gs1 w1 H1=>?_;clear H0;refine rS [.c xz,.v,.v,.v,.a,.s 1,.v] H1 kr fun gs2 w2 H2=>?_;clear H1;refine rS [.l 0,.v,.oe (ins:=[((.tmp 9),uv a),((.tmp 10),.agg #[wZ,wZ,wZ,wZ])]) (v:=.bool (!decide (a=0))) (v':=.bool false) (fun ρ o w ho hi=>kW (x:=(.tmp 9)) (y:=(.tmp 10)) a 0 ha (by unfold big;omega) w ho hi.1 hi.2.1) (by rw [decide_eq_true h]<;>rfl),.v,.n,.n,.n,.n,.v,.v] H2 kr fun gs3 w3 H3=>?_;clear H2;refine zn kr<|wV ?_;refine ⟨[.bool false],(.tmp (.bool false) kr .nil),?_,H3.below⟩;rfl
theorem znx (a:Nat)(ha:a<big)(h: ¬a=0)(h2: ¬a<NR):Fn Tryz.prog 45 #[uv a] (.bool false):=by
 refine Fn.intro (c:=zd Tryz.f45) [.tmp 2] 18 Tryz.func45 kr kr kr fun w=>?_;have H0:=St.start w;refine rS [.b,.v] H0 kr fun gs1 w1 H1=>?_;clear H0;refine rS [.c xz,.v,.v,.v,.a,.s 1,.v] H1 kr fun gs2 w2 H2=>?_;clear H1;refine rS [.l 0,.v,.oe (ins:=[((.tmp 9),uv a),((.tmp 10),.agg #[wZ,wZ,wZ,wZ])]) (v:=.bool (!decide (a=0))) (v':=.bool true) (fun ρ o w ho hi=>kW (x:=(.tmp 9)) (y:=(.tmp 10)) a 0 ha (by unfold big;omega) w ho hi.1 hi.2.1) (by rw [decide_eq_false h]<;>rfl),.v,.l 0,.l 1,.c (xy a NR ha qu.1),.E (.bool (decide (cm a NR<0))) (.bool false) (za (decide_eq_false (zdq h2))),.v,.v] H2 kr fun gs3 w3 H3=>?_;clear H2;refine zn kr<|wV ?_;refine ⟨[.bool false],(.tmp (.bool false) kr .nil),?_,H3.below⟩;rfl
theorem zny (a:Nat)(ha:a<big)(h: ¬a=0)(h2:a<NR):Fn Tryz.prog 45 #[uv a] (.bool true):=by
 refine Fn.intro (c:=zd Tryz.f45) [.tmp 2] 18 Tryz.func45 kr kr kr fun w=>?_;have H0:=St.start w;refine rS [.b,.v] H0 kr fun gs1 w1 H1=>?_;clear H0;refine rS [.c xz,.v,.v,.v,.a,.s 1,.v] H1 kr fun gs2 w2 H2=>?_;clear H1;refine rS [.l 0,.v,.oe (ins:=[((.tmp 9),uv a),((.tmp 10),.agg #[wZ,wZ,wZ,wZ])]) (v:=.bool (!decide (a=0))) (v':=.bool true) (fun ρ o w ho hi=>kW (x:=(.tmp 9)) (y:=(.tmp 10)) a 0 ha (by unfold big;omega) w ho hi.1 hi.2.1) (by rw [decide_eq_false h]<;>rfl),.v,.l 0,.l 1,.c (xy a NR ha qu.1),.E (.bool (decide (cm a NR<0))) (.bool true) (za (decide_eq_true (zdp h2))),.v,.v] H2 kr fun gs3 w3 H3=>?_;clear H2;refine zn kr<|wV ?_;refine ⟨[.bool true],(.tmp (.bool true) kr .nil),?_,H3.below⟩;rfl
theorem znz (a:Nat)(ha:a<big):Fn Tryz.prog 45 #[uv a] (.bool (inN a)):=by
 by_cases h:a=0
 ·have:=znw a ha h;subst h;exact this
 ·rw [znv h];by_cases h2:a<NR
  ·rw [decide_eq_true h2];exact zny a ha h h2
  ·rw [decide_eq_false h2];exact znx a ha h h2
theorem zhx (a:Nat)(ha:a<big):Fn Tryz.prog 75 #[uv a] (uv (fSub 0 a NR)):=by
 refine Fn.intro (c:=zd Tryz.f75) [.cell 2 24] 12 Tryz.func75 kr kr kr fun w=>?_;have H0:=St.start w;refine rS [.b,.a] H0 kr fun gs1 w1 H1=>?_;clear H0;refine rS [.v,.l 0,.c (zf5 0 a (by unfold big;omega) ha),.v,.v,.v,.a,.s 2,.v] H1 kr fun gs2 w2 H2=>?_;clear H1;refine rS [.l 2,.s 1] H2 kr fun gs3 w3 H3=>?_;clear H2;refine zn kr<|wV ?_;refine ⟨[uv (fSub 0 a NR)],(.agg (b:=(gs1 1).b) (Value.cells (uv (fSub 0 a NR))) 24 (0,0) kr (H3.get 1 kr) kr .nil),?_,H3.below⟩;rfl
theorem znA (a:Nat)(ha:a<big)(h:a<fSub 0 a NR):Fn Tryz.prog 54 #[uv a] (.bool true):=by
 refine Fn.intro (c:=zd Tryz.f54) [.tmp 2] 8 Tryz.func54 kr kr kr fun w=>?_;have H0:=St.start w;refine rS [.b,.v] H0 kr fun gs1 w1 H1=>?_;clear H0;refine dS [.l 0,.l 0,.c (zhx a ha),.c (xy a (fSub 0 a NR) ha (zbj qu)),.E (.bool (decide (cm a (fSub 0 a NR)<0))) (.bool true) (za (decide_eq_true (zdp h))),.v] H1 kr fun w2 H2=>?_;clear H1;refine zn kr<|wV ?_;refine ⟨[.bool true],(.tmp (.bool true) kr .nil),?_,H2.below⟩;rfl
theorem znB (a:Nat)(ha:a<big)(h: ¬a<fSub 0 a NR):Fn Tryz.prog 54 #[uv a] (.bool false):=by
 refine Fn.intro (c:=zd Tryz.f54) [.tmp 2] 8 Tryz.func54 kr kr kr fun w=>?_;have H0:=St.start w;refine rS [.b,.v] H0 kr fun gs1 w1 H1=>?_;clear H0;refine dS [.l 0,.l 0,.c (zhx a ha),.c (xy a (fSub 0 a NR) ha (zbj qu)),.E (.bool (decide (cm a (fSub 0 a NR)<0))) (.bool false) (za (decide_eq_false (zdq h))),.v] H1 kr fun w2 H2=>?_;clear H1;refine zn kr<|wV ?_;refine ⟨[.bool false],(.tmp (.bool false) kr .nil),?_,H2.below⟩;rfl
theorem znC (a:Nat)(ha:a<big):Fn Tryz.prog 54 #[uv a] (.bool (vS a)):=by
 unfold vS;by_cases h:a<fSub 0 a NR
 ·rw [decide_eq_true h];exact znA a ha h
 ·rw [decide_eq_false h];exact znB a ha h
theorem zb8 (r s:Nat)(hr:r<big)(hs:s<big)(v:Int):Fn Tryz.prog 39 #[sgv r s (v)] (.bool (zO r s v)):=by
 refine Fn.intro (c:=zd Tryz.f39) [.tmp 2] 21 Tryz.func39 kr kr kr fun w=>?_;have H0:=St.start w;refine rS [.b,.v] H0 kr fun gs1 w1 H1=>?_;clear H0;refine zh [0,1,2,3,4,5,6,7,8,9,10,11,12,13,14,15,16,17,18] kr kr<|rp [.v,.l 0,.c (znz r hr)] H1 kr fun gs2 w2 H2=>wX [3,4,5,6,7,8,9,10,11,12,13,14,15,16,17,18] ?_;clear H1;refine Or.elim (Bool.eq_false_or_eq_true (inN r)).symm (fun hb1=>?_) (fun hb1=>?_)
 ·refine yi 5 (v:=.bool (inN r)) (v':=.bool false) (za hb1) kr<|rp [.v,.n,.n,.n,.v,.v,.n,.n,.n,.n] H2 kr fun gs3 w3 H3=>wX [13,14,15,16,17,18] ?_;clear H2;refine vy (some 16) kr kr<|vy (some 17) kr kr<|vy (some 18) kr kr<|rp [.n,.v,.v] H3 kr fun gs4 w4 H4=>wX [] ?_;clear H3;refine zc<|zn kr<|wV ?_;refine ⟨[.bool false],(.tmp (.bool false) kr .nil),?_,H4.below⟩;exact congrArg Value.bool (by unfold zO;simp [hb1]<;>omega)
 ·refine yi 5 (v:=.bool (inN r)) (v':=.bool true) (za hb1) kr<|rp [.v,.v,.l 0,.c (znC s hs)] H2 kr fun gs5 w5 H5=>wX [7,8,9,10,11,12,13,14,15,16,17,18] ?_;clear H2;refine Or.elim (Bool.eq_false_or_eq_true (vS s)).symm (fun hb2=>?_) (fun hb2=>?_)
  ·refine yi 9 (v:=.bool (vS s)) (v':=.bool false) (za hb2) kr<|rp [.v,.v,.n,.n,.n,.n] H5 kr fun gs6 w6 H6=>wX [13,14,15,16,17,18] ?_;clear H5;refine vy (some 16) kr kr<|vy (some 17) kr kr<|vy (some 18) kr kr<|rp [.n,.v,.v] H6 kr fun gs7 w7 H7=>wX [] ?_;clear H6;refine zc<|zn kr<|wV ?_;refine ⟨[.bool false],(.tmp (.bool false) kr .nil),?_,H7.below⟩;exact congrArg Value.bool (by unfold zO;simp [hb1,hb2]<;>omega)
  ·refine yi 9 (v:=.bool (vS s)) (v':=.bool true) (za hb2) kr<|rp [.v,.v,.v,.l 0] H5 kr fun gs8 w8 H8=>wX [11,12,13,14,15,16,17,18] ?_;clear H5;by_cases hc1:(v:Int)=0
   ·refine rp [.E (.bool (v==0)) (.bool true) (za (beq_iff_eq.2 (by omega))),.v,.n,.n,.n,.v,.v,.v] H8 kr fun gs9 w9 H9=>wX [] ?_;clear H8;refine zc<|zn kr<|wV ?_;refine ⟨[.bool true],(.tmp (.bool true) kr .nil),?_,H9.below⟩;exact congrArg Value.bool (by unfold zO;simp [hb1,hb2]<;>omega)
   ·refine rp [.E (.bool (v==0)) (.bool false) (za (beq_eq_false_iff_ne.2 (by omega))),.v,.v,.l 0] H8 kr fun gs10 w10 H10=>wX [15,16,17,18] ?_;clear H8;by_cases hc2:(v:Int)=1
    ·refine rp [.E (.bool (v==1)) (.bool true) (za (beq_iff_eq.2 (by omega))),.v,.v,.v] H10 kr fun gs11 w11 H11=>wX [] ?_;clear H10;refine zc<|zn kr<|wV ?_;refine ⟨[.bool true],(.tmp (.bool true) kr .nil),?_,H11.below⟩;exact congrArg Value.bool (by unfold zO;simp [hb1,hb2]<;>omega)
    ·refine rp [.E (.bool (v==1)) (.bool false) (za (beq_eq_false_iff_ne.2 (by omega))),.v,.v,.v] H10 kr fun gs12 w12 H12=>wX [] ?_;clear H10;refine zc<|zn kr<|wV ?_;refine ⟨[.bool false],(.tmp (.bool false) kr .nil),?_,H12.below⟩;exact congrArg Value.bool (by unfold zO;simp [hb1,hb2]<;>omega)
end Go.Proofs.YtpghmdbjmigjlaaGreatDoor
namespace Go.Proofs.YtpghmdbjmigjlaaGreatDoor
open Go.RowKit
def sv (l:List UInt8):Nat:=l.foldl (fun n b=>256*n+b.toNat) 0
theorem zd0 (l:List UInt8)(b:UInt8):sv (l++ [b])=256*sv l+b.toNat:=by
 unfold sv;rw [List.foldl_append];rfl
theorem zhy: ∀(l:List UInt8) (n:Nat),l.foldl (fun n b=>256*n+b.toNat) n<(n+1)*256^l.length
 | [],n=>by simp
 | b::l,n=>by
  rw [List.foldl_cons,List.length_cons,Nat.pow_succ];have h:=zhy l (256*n+b.toNat);have hb:b.toNat<256:=b.toNat_lt;have h2:(256*n+b.toNat+1)*256^l.length≤((n+1)*256)*256^l.length:=Nat.mul_le_mul_right _ (by omega);have e:(n+1)*(256^l.length*256)=(n+1)*256*256^l.length:=by rw [Nat.mul_assoc (n+1) 256,Nat.mul_comm 256]
  omega
theorem zd1 (l:List UInt8):sv l<256^l.length:=by
 have:=zhy l 0;rw [Nat.one_mul] at this;exact this
def wi (n q:Nat):Nat:=n / 0x10000000000000000^q%0x10000000000000000
theorem znD (x y k K:Nat)(hK:2^k=K)(hx:x%K=0)(hy:y<K):x ||| y=x+y:=by
 subst hK;have e:x=2^k*(x / 2^k):=by have:=Nat.div_add_mod x (2^k);omega
 rw [e];exact (Nat.two_pow_add_eq_or_of_lt hy (x / 2^k)).symm
theorem znE {b c K:Nat}(hb:b<256)(hc:0<c)(hK:256*c=K):b*c<K:=by
 subst hK;exact (Nat.mul_lt_mul_right hc).2 hb
theorem znF (P b m:Nat)(hb:b<256)(hm:m<32)(hP:(256*P+b)*256^m<big):
 wi (P*256^(m+1)) (m / 8) ||| (b*2^(8*(m%8)))=wi ((256*P+b)*256^m) (m / 8)∧
 (∀j,j<4→j≠m / 8→wi ((256*P+b)*256^m) j=wi (P*256^(m+1)) j):=by
 obtain ⟨k,r,hr,rfl⟩:∃k r,r<8∧m=8*k+r:=⟨m / 8,m%8,Nat.mod_lt _ (by decide),by omega⟩
 have hk:(8*k+r) / 8=k:=by omega
 have hr':(8*k+r)%8=r:=by omega
 have hw:256^(8*k+r)=256^r*0x10000000000000000^k:=by rw [Nat.add_comm,Nat.pow_add,Nat.pow_mul]
 have hN:P*256^(8*k+r+1)=P*256^(r+1)*0x10000000000000000^k:=by
  rw [Nat.pow_succ,hw,Nat.pow_succ,Nat.mul_right_comm,Nat.mul_assoc P]
 have hN':(256*P+b)*256^(8*k+r)=(256*P+b)*256^r*0x10000000000000000^k:=by rw [hw,Nat.mul_assoc]
 rw [hk,hr',hN,hN'];have hp: ∀n,0<0x10000000000000000^n:=fun n=>Nat.pow_pos (by decide);have h8:r=0∨r=1∨r=2∨r=3∨r=4∨r=5∨r=6∨r=7:=by omega
 unfold wi;constructor
 ·rw [Nat.mul_div_cancel _ (hp k),Nat.mul_div_cancel _ (hp k),znD _ _ (8*(r+1)) (256^(r+1)) (Nat.pow_mul 2 8 (r+1)) ?_ ?_]
  ·clear hN hN' hw hP;rcases h8 with rfl | rfl | rfl | rfl | rfl | rfl | rfl | rfl<;>simp only [Nat.reduceMul,Nat.reduceAdd,Nat.reducePow]<;>omega
  ·rw [Nat.mod_mod_of_dvd _ (show 256^(r+1)∣256^8 from Nat.pow_dvd_pow 256 hr),Nat.mul_mod_left]
  ·rw [Nat.pow_mul];exact znE hb (Nat.pow_pos (by decide)) (show 256*256^r=256^(r+1) by rw [Nat.pow_succ 256 r,Nat.mul_comm])
 ·intro j hj hne;rcases Nat.lt_or_gt_of_ne hne with h | h
  ·obtain ⟨d,rfl⟩:∃d,k=d+1+j:=⟨k-j-1,by omega⟩
   have e: ∀A,A*0x10000000000000000^(d+1+j) / 0x10000000000000000^j%0x10000000000000000=0:=fun A=>by
    rw [Nat.pow_add,←Nat.mul_assoc,Nat.mul_div_cancel _ (hp j),Nat.pow_succ,←Nat.mul_assoc,Nat.mul_mod_left]
   rw [e,e]
  ·obtain ⟨d,rfl⟩:∃d,j=k+1+d:=⟨j-k-1,by omega⟩
   have e: ∀A,A*0x10000000000000000^k / 0x10000000000000000^(k+1+d)=A / 0x10000000000000000 / 0x10000000000000000^d:=fun A=>by
    rw [Nat.pow_add,Nat.pow_succ,←Nat.div_div_eq_div_mul,←Nat.div_div_eq_div_mul,Nat.mul_div_cancel _ (hp k)]
   have e2:(256*P+b)*256^r / 0x10000000000000000=P*256^(r+1) / 0x10000000000000000:=by
    clear hN hN' hw hP e;rcases h8 with rfl | rfl | rfl | rfl | rfl | rfl | rfl | rfl<;>simp only [Nat.reduceMul,Nat.reduceAdd,Nat.reducePow]<;>omega
   rw [e,e,e2]
end Go.Proofs.YtpghmdbjmigjlaaGreatDoor
namespace Go.Proofs.YtpghmdbjmigjlaaGreatDoor
open Go.ChangeShapes Go.WideShapes Go.ChangeAt Go.RowKit
set_option linter.unusedVariables false
def zA (s:ByteArray)(k:Nat):Nat:=sv (s.data.toList.take k)*256^(s.size-k)
theorem znG (s:ByteArray)(k:Nat)(h:s.size≤32)(hk:k≤s.size):zA s k<big:=by
 unfold zA;have h1:=zd1 (s.data.toList.take k);have h2:(s.data.toList.take k).length≤k:=List.length_take_le _ _;have h3:256^(s.data.toList.take k).length≤256^k:=Nat.pow_le_pow_right (by omega) h2;have h4:256^k*256^(s.size-k)=256^s.size:=by rw [←Nat.pow_add];congr 1;omega
 have h5:256^s.size≤256^32:=Nat.pow_le_pow_right (by omega) h;have h6:sv (s.data.toList.take k)*256^(s.size-k)<256^k*256^(s.size-k):=(Nat.mul_lt_mul_right (Nat.pow_pos (by omega))).2 (by omega);have h7:(256:Nat)^32=big:=rfl;omega
theorem znH (s:ByteArray)(k m:Nat)(hk:k<s.size)(hm:s.size=k+1+m):
 zA s k=sv (s.data.toList.take k)*256^(m+1)∧zA s (k+1)=(256*sv (s.data.toList.take k)+s[k].toNat)*256^m:=by
 unfold zA;constructor
 ·congr 2;omega
 ·have e:s.data.toList.take (k+1)=s.data.toList.take k++ [s[k]]:=by rw [List.take_succ_eq_append_getElem (by simpa using hk)];rfl
  rw [e,zd0];congr 2;omega
theorem wi0 (n:Nat):((wi n 0:Nat):Int)=w0 n:=by unfold wi w0;simp
theorem wi1 (n:Nat):((wi n 1:Nat):Int)=w1 n:=rfl
theorem wi2 (n:Nat):((wi n 2:Nat):Int)=w2 n:=rfl
theorem wi3 (n:Nat):((wi n 3:Nat):Int)=w3 n:=rfl
theorem zb9 (x b m:Nat)(hx:x<0x10000000000000000)(hb:b<256):
 bits BinOp.or IntKind.u64 (x:Int) (IntKind.u64.wrap ((b:Int)*2^(8*(m%8))))=((x ||| b*2^(8*(m%8)):Nat):Int):=by
 have hp:2^(8*(m%8))≤2^56:=Nat.pow_le_pow_right (by omega) (by omega);have hl:b*2^(8*(m%8))<0x10000000000000000:=by
  have h1:b*2^(8*(m%8))≤255*2^56:=Nat.mul_le_mul (by omega) hp;omega
 have e2:(b:Int)*2^(8*(m%8))=((b*2^(8*(m%8)):Nat):Int):=by push_cast;rfl
 rw [e2];have e3:IntKind.u64.wrap ((b*2^(8*(m%8)):Nat):Int)=((b*2^(8*(m%8)):Nat):Int):=by rw [IntKind.wrap_u64];omega
 rw [e3];exact bits_or_u64_nat _ _ hx hl
def zca (wr:World)(b:Nat)(n:Nat):Prop:=
 (wr.cell? ⟨b,0,none⟩=some (.int .u64 (w0 n))∧wr.cell? ⟨b,1,none⟩=some (.int .u64 (w1 n))∧wr.cell? ⟨b,2,none⟩=some (.int .u64 (w2 n))∧wr.cell? ⟨b,3,none⟩=some (.int .u64 (w3 n)))∧
 (wr.frozen? ⟨b,0,none⟩=false∧wr.frozen? ⟨b,1,none⟩=false∧wr.frozen? ⟨b,2,none⟩=false∧wr.frozen? ⟨b,3,none⟩=false)
def zhz (w:World)(s:ByteArray)(k:Nat)(wr:World):Prop:=Below w.heap.size w wr∧zca wr (w.heap.size+1) (zA s k)∧zca wr w.heap.size 0
theorem vT (s:ByteArray)(h:s.size≤32)(w:World):Calls Tryz.prog 57 #[.string s] w fun e w'=>e=.returned (.tuple #[uv (sv s.data.toList),.int .i64 0])∧Below w.heap.size w w':=by
 have hi: ¬(32:Int)<(s.size:Int):=by omega
 have hfin:zA s s.size=sv s.data.toList:=by unfold zA;rw [List.take_of_length_le (by simp)];simp
 have hend: ∀k,¬k<s.size→k≤s.size→zA s k=sv s.data.toList:=fun k h1 h2=>by rw [show k=s.size by omega];exact hfin
 have I:zhz w s 0 ((w.alloc (.cells #[wZ,wZ,wZ,wZ] 24)).alloc (.cells #[wZ,wZ,wZ,wZ] 24)):=by
  have z:zA s 0=0:=by unfold zA;simp [sv]
  have z0:w0 0=0:=rfl;have z1:w1 0=0:=rfl;have z2:w2 0=0:=rfl;have z3:w3 0=0:=rfl;refine ⟨((Below.refl _ _).alloc (Nat.le_refl _) _).alloc (by simp) _,?_,?_⟩
  ·rw [z];unfold zca;rw [z0,z1,z2,z3];exact ⟨⟨by simp,by simp,by simp,by simp⟩,by simp,by simp,by simp,by simp⟩
  ·unfold zca;rw [z0,z1,z2,z3];exact ⟨⟨by simp,by simp,by simp,by simp⟩,by simp,by simp,by simp,by simp⟩
 have Hend:=Lib.hid hend;clear hfin hend
 go_enter Tryz.func57,Tryz.ntmps57
 go_wp2
 go_loopw [13] (fun i wr=> ∃k:Nat,k≤s.size∧i=.int .i64 k∧zhz w s k wr) (fun i _=>s.size-(intOf i).toNat)
 case atStart=>exact ⟨0,by omega,rfl,I⟩
 case round=>
  obtain ⟨k,hk,rfl,J⟩:=hrel;clear I;obtain ⟨JB,⟨⟨c0,c1,c2,c3⟩,f0,f1,f2,f3⟩,⟨⟨r0,r1,r2,r3⟩,y0,y1,y2,y3⟩⟩:=J;by_cases hlt:k<s.size
  ·obtain ⟨m,hm⟩:∃m,s.size=k+1+m:=⟨s.size-k-1,by omega⟩
   have hb:((s.size:Int)-1-(k:Int))=(m:Int):=by omega
   have hm32:m<32:=by omega
   obtain ⟨n1,n2⟩:=znH s k m hlt hm;have hbig:=znG s (k+1) h (by omega);have hby:s[k].toNat<256:=s[k].toNat_lt;have OB:=znF (sv (s.data.toList.take k)) s[k].toNat m hby hm32 (by rw [←n2];exact hbig);rw [←n1,←n2] at OB;have HOB:=Lib.hid OB;clear hm n1 n2 OB hbig;have hq:m / 8=0∨m / 8=1∨m / 8=2∨m / 8=3:=by omega
   rcases hq with hq|hq|hq|hq
   ·go_wp2_with fail
    go_region
    go_wp2
    go_roundw
    case rel=>
     obtain ⟨o1,o2⟩:=HOB.out;rw [hq] at o1 o2;have ev:bits BinOp.or IntKind.u64 (w0 (zA s k)) (IntKind.u64.wrap ((s[k].toNat:Int)*2^(8*(m%8))))=w0 (zA s (k+1)):=by
      rw [←wi0,zb9 _ _ _ (by unfold wi;exact Nat.mod_lt _ (by omega)) hby,o1,wi0]
     have g1:w1 (zA s (k+1))=w1 (zA s k):=by rw [←wi1,←wi1,o2 1 (by omega) (by omega)]
     have g2:w2 (zA s (k+1))=w2 (zA s k):=by rw [←wi2,←wi2,o2 2 (by omega) (by omega)]
     have g3:w3 (zA s (k+1))=w3 (zA s k):=by rw [←wi3,←wi3,o2 3 (by omega) (by omega)]
     refine ⟨k+1,by omega,by go_num,(JB.setCell (by simp) _).drew,⟨⟨?_,?_,?_,?_⟩,?_,?_,?_,?_⟩,⟨⟨?_,?_,?_,?_⟩,?_,?_,?_,?_⟩⟩
     ·rw [←ev];exact World.cell?_setCell_same _ _ _ c0
     ·rw [g1];exact (World.cell?_setCell_other _ _ _ _ (by simp)).trans c1
     ·rw [g2];exact (World.cell?_setCell_other _ _ _ _ (by simp)).trans c2
     ·rw [g3];exact (World.cell?_setCell_other _ _ _ _ (by simp)).trans c3
     ·simp [f0]
     ·simp [f1]
     ·simp [f2]
     ·simp [f3]
     ·exact (World.cell?_setCell_other _ _ _ _ (by simp)).trans r0
     ·exact (World.cell?_setCell_other _ _ _ _ (by simp)).trans r1
     ·exact (World.cell?_setCell_other _ _ _ _ (by simp)).trans r2
     ·exact (World.cell?_setCell_other _ _ _ _ (by simp)).trans r3
     ·simp [y0]
     ·simp [y1]
     ·simp [y2]
     ·simp [y3]
    case measure=>simp [intOf];omega
   ·go_wp2_with fail
    go_region
    go_wp2
    go_roundw
    case rel=>
     obtain ⟨o1,o2⟩:=HOB.out;rw [hq] at o1 o2;have ev:bits BinOp.or IntKind.u64 (w1 (zA s k)) (IntKind.u64.wrap ((s[k].toNat:Int)*2^(8*(m%8))))=w1 (zA s (k+1)):=by
      rw [←wi1,zb9 _ _ _ (by unfold wi;exact Nat.mod_lt _ (by omega)) hby,o1,wi1]
     have g0:w0 (zA s (k+1))=w0 (zA s k):=by rw [←wi0,←wi0,o2 0 (by omega) (by omega)]
     have g2:w2 (zA s (k+1))=w2 (zA s k):=by rw [←wi2,←wi2,o2 2 (by omega) (by omega)]
     have g3:w3 (zA s (k+1))=w3 (zA s k):=by rw [←wi3,←wi3,o2 3 (by omega) (by omega)]
     refine ⟨k+1,by omega,by go_num,(JB.setCell (by simp) _).drew,⟨⟨?_,?_,?_,?_⟩,?_,?_,?_,?_⟩,⟨⟨?_,?_,?_,?_⟩,?_,?_,?_,?_⟩⟩
     ·rw [g0];exact (World.cell?_setCell_other _ _ _ _ (by simp)).trans c0
     ·rw [←ev];exact World.cell?_setCell_same _ _ _ c1
     ·rw [g2];exact (World.cell?_setCell_other _ _ _ _ (by simp)).trans c2
     ·rw [g3];exact (World.cell?_setCell_other _ _ _ _ (by simp)).trans c3
     ·simp [f0]
     ·simp [f1]
     ·simp [f2]
     ·simp [f3]
     ·exact (World.cell?_setCell_other _ _ _ _ (by simp)).trans r0
     ·exact (World.cell?_setCell_other _ _ _ _ (by simp)).trans r1
     ·exact (World.cell?_setCell_other _ _ _ _ (by simp)).trans r2
     ·exact (World.cell?_setCell_other _ _ _ _ (by simp)).trans r3
     ·simp [y0]
     ·simp [y1]
     ·simp [y2]
     ·simp [y3]
    case measure=>simp [intOf];omega
   ·go_wp2_with fail
    go_region
    go_wp2
    go_roundw
    case rel=>
     obtain ⟨o1,o2⟩:=HOB.out;rw [hq] at o1 o2;have ev:bits BinOp.or IntKind.u64 (w2 (zA s k)) (IntKind.u64.wrap ((s[k].toNat:Int)*2^(8*(m%8))))=w2 (zA s (k+1)):=by
      rw [←wi2,zb9 _ _ _ (by unfold wi;exact Nat.mod_lt _ (by omega)) hby,o1,wi2]
     have g0:w0 (zA s (k+1))=w0 (zA s k):=by rw [←wi0,←wi0,o2 0 (by omega) (by omega)]
     have g1:w1 (zA s (k+1))=w1 (zA s k):=by rw [←wi1,←wi1,o2 1 (by omega) (by omega)]
     have g3:w3 (zA s (k+1))=w3 (zA s k):=by rw [←wi3,←wi3,o2 3 (by omega) (by omega)]
     refine ⟨k+1,by omega,by go_num,(JB.setCell (by simp) _).drew,⟨⟨?_,?_,?_,?_⟩,?_,?_,?_,?_⟩,⟨⟨?_,?_,?_,?_⟩,?_,?_,?_,?_⟩⟩
     ·rw [g0];exact (World.cell?_setCell_other _ _ _ _ (by simp)).trans c0
     ·rw [g1];exact (World.cell?_setCell_other _ _ _ _ (by simp)).trans c1
     ·rw [←ev];exact World.cell?_setCell_same _ _ _ c2
     ·rw [g3];exact (World.cell?_setCell_other _ _ _ _ (by simp)).trans c3
     ·simp [f0]
     ·simp [f1]
     ·simp [f2]
     ·simp [f3]
     ·exact (World.cell?_setCell_other _ _ _ _ (by simp)).trans r0
     ·exact (World.cell?_setCell_other _ _ _ _ (by simp)).trans r1
     ·exact (World.cell?_setCell_other _ _ _ _ (by simp)).trans r2
     ·exact (World.cell?_setCell_other _ _ _ _ (by simp)).trans r3
     ·simp [y0]
     ·simp [y1]
     ·simp [y2]
     ·simp [y3]
    case measure=>simp [intOf];omega
   ·go_wp2_with fail
    go_region
    go_wp2
    go_roundw
    case rel=>
     obtain ⟨o1,o2⟩:=HOB.out;rw [hq] at o1 o2;have ev:bits BinOp.or IntKind.u64 (w3 (zA s k)) (IntKind.u64.wrap ((s[k].toNat:Int)*2^(8*(m%8))))=w3 (zA s (k+1)):=by
      rw [←wi3,zb9 _ _ _ (by unfold wi;exact Nat.mod_lt _ (by omega)) hby,o1,wi3]
     have g0:w0 (zA s (k+1))=w0 (zA s k):=by rw [←wi0,←wi0,o2 0 (by omega) (by omega)]
     have g1:w1 (zA s (k+1))=w1 (zA s k):=by rw [←wi1,←wi1,o2 1 (by omega) (by omega)]
     have g2:w2 (zA s (k+1))=w2 (zA s k):=by rw [←wi2,←wi2,o2 2 (by omega) (by omega)]
     refine ⟨k+1,by omega,by go_num,(JB.setCell (by simp) _).drew,⟨⟨?_,?_,?_,?_⟩,?_,?_,?_,?_⟩,⟨⟨?_,?_,?_,?_⟩,?_,?_,?_,?_⟩⟩
     ·rw [g0];exact (World.cell?_setCell_other _ _ _ _ (by simp)).trans c0
     ·rw [g1];exact (World.cell?_setCell_other _ _ _ _ (by simp)).trans c1
     ·rw [g2];exact (World.cell?_setCell_other _ _ _ _ (by simp)).trans c2
     ·rw [←ev];exact World.cell?_setCell_same _ _ _ c3
     ·simp [f0]
     ·simp [f1]
     ·simp [f2]
     ·simp [f3]
     ·exact (World.cell?_setCell_other _ _ _ _ (by simp)).trans r0
     ·exact (World.cell?_setCell_other _ _ _ _ (by simp)).trans r1
     ·exact (World.cell?_setCell_other _ _ _ _ (by simp)).trans r2
     ·exact (World.cell?_setCell_other _ _ _ _ (by simp)).trans r3
     ·simp [y0]
     ·simp [y1]
     ·simp [y2]
     ·simp [y3]
    case measure=>simp [intOf];omega
  ·have HE:=Lib.hid (Hend.out k hlt hk)
   go_wp2
   have hS0:(wr.setCell ⟨w.heap.size,0,none⟩ (.int .u64 (w0 (zA s k)))).cell? ⟨w.heap.size,0,none⟩=some (.int .u64 (w0 (zA s k))):=World.cell?_setCell_same _ _ _ r0;have hS1:((wr.setCell ⟨w.heap.size,0,none⟩ (.int .u64 (w0 (zA s k)))).setCell ⟨w.heap.size,1,none⟩ (.int .u64 (w1 (zA s k)))).cell? ⟨w.heap.size,1,none⟩=some (.int .u64 (w1 (zA s k))):=World.cell?_setCell_same _ _ _ ((World.cell?_setCell_other _ _ _ _ (by simp)).trans r1);have hS2:(((wr.setCell ⟨w.heap.size,0,none⟩ (.int .u64 (w0 (zA s k)))).setCell ⟨w.heap.size,1,none⟩ (.int .u64 (w1 (zA s k)))).setCell ⟨w.heap.size,2,none⟩ (.int .u64 (w2 (zA s k)))).cell? ⟨w.heap.size,2,none⟩=some (.int .u64 (w2 (zA s k))):=World.cell?_setCell_same _ _ _ ((World.cell?_setCell_other _ _ _ _ (by simp)).trans ((World.cell?_setCell_other _ _ _ _ (by simp)).trans r2));have hS3:((((wr.setCell ⟨w.heap.size,0,none⟩ (.int .u64 (w0 (zA s k)))).setCell ⟨w.heap.size,1,none⟩ (.int .u64 (w1 (zA s k)))).setCell ⟨w.heap.size,2,none⟩ (.int .u64 (w2 (zA s k)))).setCell ⟨w.heap.size,3,none⟩ (.int .u64 (w3 (zA s k)))).cell? ⟨w.heap.size,3,none⟩=some (.int .u64 (w3 (zA s k))):=World.cell?_setCell_same _ _ _ ((World.cell?_setCell_other _ _ _ _ (by simp)).trans ((World.cell?_setCell_other _ _ _ _ (by simp)).trans ((World.cell?_setCell_other _ _ _ _ (by simp)).trans r3)));refine bodyPost_ret (v:=.tuple #[uv (zA s k),.int .i64 0]) (by simp [results,Tryz.results57,go_sem,hS0,hS1,hS2,hS3]) rfl ?_;refine ⟨by rw [HE.out],?_⟩;exact ((((JB.setCell (by simp) _).setCell (by simp) _).setCell (by simp) _).setCell (by simp) _)
end Go.Proofs.YtpghmdbjmigjlaaGreatDoor
namespace Go.Proofs.YtpghmdbjmigjlaaGreatDoor
open Go Go.RowKit
set_option linter.unusedVariables false
theorem ve (s:ByteArray)(h:s.size≤32):sv (tl s)<big:=by
 have h1:=zd1 (tl s);have h2:256^(tl s).length≤256^32:=Nat.pow_le_pow_right (by omega) h;have h3:(256:Nat)^32=big:=rfl;omega
theorem zhA (A:Nat)(hA:A<big):Fn Tryz.prog 40 #[uv A] (.string (bs A)):=zdY A hA
theorem zhB (r s:Nat)(hr:r<big)(hs:s<big)(v:Int)(hm:zO r s v=false):Fn Tryz.prog 23 #[sgv r s (v)] (.tuple #[.string ⟨#[]⟩,.int .i64 1]):=by
 refine Fn.intro (c:=zd Tryz.f23) [.tmp 2,.tmp 3] 20 Tryz.func23 kr kr kr fun w=>?_;have H0:=St.start w;refine rS [.b,.v,.v] H0 kr fun gs1 w1 H1=>?_;clear H0;refine zb kr<|zh [0,1,2] kr kr<|rp [.l 0,.c (zb8 r s hr hs (v))] H1 kr fun gs2 w2 H2=>wX [2] ?_;clear H1;refine yi 5 (v:=.bool (zO r s (v))) (v':=.bool false) (za hm) kr<|rp [.v] H2 kr fun gs3 w3 H3=>wX [] ?_;clear H2;refine zc<|zi kr kr<|rS [.v,.v] H3 kr fun gs4 w4 H4=>?_;clear H3;refine zn kr<|wV ?_;refine ⟨[.string (⟨#[]⟩),.int .i64 1],(.tmp (.string (⟨#[]⟩)) kr (.tmp (.int .i64 1) kr .nil)),?_,H4.below⟩;rfl
theorem zd2 (r s:Nat)(hr:r<big)(hs:s<big)(v:Int)(hm:zO r s v=true):Fn Tryz.prog 23 #[sgv r s (v)] (.tuple #[.string (sbs r s v),.int .i64 0]):=by
 refine Fn.intro (c:=zd Tryz.f23) [.tmp 2,.tmp 3] 20 Tryz.func23 kr kr kr fun w=>?_;have H0:=St.start w;refine rS [.b,.v,.v] H0 kr fun gs1 w1 H1=>?_;clear H0;refine zb kr<|zh [0,1,2] kr kr<|rp [.l 0,.c (zb8 r s hr hs (v))] H1 kr fun gs2 w2 H2=>wX [2] ?_;clear H1;refine yi 5 (v:=.bool (zO r s (v))) (v':=.bool true) (za hm) kr<|rp [.v] H2 kr fun gs3 w3 H3=>wX [] ?_;clear H2;refine zc<|zl kr kr<|zp kr<|wW<|dSg (fun gs4=>[.v,.l 0,.c (f:=40) (args:=#[uv r]) (v:=.string (bs r)) (zhA r hr),.v,.l 0,.c (f:=40) (args:=#[uv s]) (v:=.string (bs s)) (zhA s hs),.o (ins:=[((.tmp 9),.string (bs r)),((.tmp 12),.string (bs s))]) (v:=.string ((bs r)++(bs s))) (fun ρ o w ho hi=>kM (t:=9) (t':=9) (x:=(.tmp 9)) (y:=(.tmp 12)) (bs r) (bs s) w ho hi.1 hi.2.1 (by rw [qH,qH];omega)),.v,.l 0,.v,.nw (fun b=>.slice (some ⟨b,0,none⟩) 1 1) #[.int .u8 (IntKind.u8.wrap v)] 5,.x (ins:=[((.tmp 17),.slice (some ⟨(gs4 10).b,0,none⟩) 1 1)]) [(1,((gs4 10).b,Obj.cells #[.int .u8 (IntKind.u8.wrap v)] 5 (0,0)))] (xV (t:=48) (t':=9) (e:=5) [(IntKind.u8.wrap v)] kr kr kr (Rw.lit #[.int .u8 (IntKind.u8.wrap v)] 1 (by rfl) (by unfold maxLen;omega))),.o (ins:=[((.tmp 13),.string ((bs r)++(bs s))),((.tmp 18),.string (strOfNums ([(IntKind.u8.wrap v)])))]) (v:=.string (((bs r)++(bs s))++(strOfNums ([(IntKind.u8.wrap v)])))) (fun ρ o w ho hi=>kM (t:=9) (t':=9) (x:=(.tmp 13)) (y:=(.tmp 18)) ((bs r)++(bs s)) (strOfNums ([(IntKind.u8.wrap v)])) w ho hi.1 hi.2.1 (by rw [zdZ,qH,qH];show 32+32+1≤_;omega)),.v,.v]) H3 kr fun gs4 w4 H4=>?_;clear H3;refine zn kr<|wV ?_;refine ⟨[.string (((bs r)++(bs s))++(strOfNums ([(IntKind.u8.wrap v)]))),.int .i64 0],(.tmp (.string (((bs r)++(bs s))++(strOfNums ([(IntKind.u8.wrap v)])))) kr (.tmp (.int .i64 0) kr .nil)),?_,H4.below⟩;rfl
theorem zcb (t:ByteArray)(h:ByteArray.size t=65):ByteArray.size (ByteArray.extract t 0 32)≤32:=by rw [←zy,qC,List.length_drop,List.length_take,zy,h];decide
theorem zcc (t:ByteArray)(h:ByteArray.size t=65):ByteArray.size (ByteArray.extract t 32 64)≤32:=by rw [←zy,qC,List.length_drop,List.length_take,zy,h];decide
theorem znI (t:ByteArray)(ht:ByteArray.size t≤0x7fffffffffffffff)(hsz:ByteArray.size t≠65):Fn Tryz.prog 105 #[.string t] (.tuple #[sgv 0 0 0,.int .i64 4]):=by
 refine Fn.intro (c:=zd Tryz.f105) [.cell 2 26,.tmp 3] 32 Tryz.func105 kr kr kr fun w=>?_;have H0:=St.start w;refine rS [.a,.v] H0 kr fun gs1 w1 H1=>?_;clear H0;refine zb kr<|rS [.v,.v,.E (.bool (!((ByteArray.size t:Int)==65))) (.bool true) (za (by rw [beq_eq_false_iff_ne.2 (by omega)];rfl))] H1 kr fun gs2 w2 H2=>?_;clear H1;refine zi kr kr<|rS [.v,.s 0,.v] H2 kr fun gs3 w3 H3=>?_;clear H2;refine zn kr<|wV ?_;refine ⟨[sgv 0 0 (0),.int .i64 4],(.agg (b:=(gs1 0).b) (Value.cells (sgv 0 0 (0))) 26 (0,0) kr (H3.get 0 kr) kr (.tmp (.int .i64 4) kr .nil)),?_,H3.below⟩
 kernel_rfl
theorem znJ (t:ByteArray)(ht:ByteArray.size t≤0x7fffffffffffffff)(hsz:ByteArray.size t=65)(hm:zO (sv (tl (ByteArray.extract t 0 32))) (sv (tl (ByteArray.extract t 32 64))) (((by_ t 64:Nat)):Int)=true):Fn Tryz.prog 105 #[.string t] (.tuple #[sgv (sv (tl (ByteArray.extract t 0 32))) (sv (tl (ByteArray.extract t 32 64))) (((by_ t 64:Nat)):Int),.int .i64 0]):=by
 have hbl:=jK t 64;refine Fn.intro (c:=zd Tryz.f105) [.cell 2 26,.tmp 3] 32 Tryz.func105 kr kr kr fun w=>?_;have H0:=St.start w;refine rS [.a,.v] H0 kr fun gs1 w1 H1=>?_;clear H0;refine zb kr<|rS [.v,.v,.E (.bool (!((ByteArray.size t:Int)==65))) (.bool false) (za (by rw [beq_iff_eq.2 (by omega)];rfl))] H1 kr fun gs2 w2 H2=>?_;clear H1;refine zl kr kr<|zp kr<|wW<|rS [.v,.o (ins:=[((.tmp 9),.string t),((.const (.int .i64 64)),.int .i64 64)]) (v:=.int .u8 ((by_ t 64:Nat):Int)) (fun ρ o w ho hi=>qV (t:=9) (kd:=.i64) kr (x:=(.tmp 9)) (y:=(.const (.int .i64 64))) t 64 ho hi.1 hi.2.1 (by omega) w),.E (.int .i64 (IntKind.i64.wrap (((by_ t 64:Nat):Int)))) (.int .i64 ((by_ t 64:Nat):Int)) (zk (za2 (a:=by_ t 64) (by omega))),.v,.a,.s 1] H2 kr fun gs3 w3 H3=>?_;clear H2;refine rS [.v,.o (ins:=[((.tmp 14),.string t),((.const (.int .i64 32)),.int .i64 32)]) (v:=.string (ByteArray.extract t 0 32)) (fun ρ o w ho hi=>vH (t:=9) (kd:=.i64) kr (x:=(.tmp 14)) (y:=(.const (.int .i64 32))) t 32 ho hi.1 hi.2.1 (by omega) w),.c (vT (ByteArray.extract t 0 32) (zcb t hsz)),.v,.v,.v,.v,.s 1] H3 kr fun gs4 w4 H4=>?_;clear H3;refine ye [0,2,3,4,7] fun ρ1=>?_;have HK1:=H4.keep;clear H4;refine rS [.v,.o (ins:=[((.tmp 21),.string t),((.const (.int .i64 64)),.int .i64 64),((.const (.int .i64 32)),.int .i64 32)]) (v:=.string (ByteArray.extract t 32 64)) (fun ρ o w ho hi=>zfB (t:=9) (kd:=.i64) (kz:=.i64) kr (x:=(.tmp 21)) (y:=(.const (.int .i64 64))) (z:=(.const (.int .i64 32))) t 32 64 ho hi.1 hi.2.1 hi.2.2.1 (by omega) (by omega) w),.c (vT (ByteArray.extract t 32 64) (zcc t hsz)),.v,.v,.v,.v,.s 1] HK1 kr fun gs5 w5 H5=>?_;clear HK1;refine zb kr<|zh [0,1,2] kr kr<|rp [.l 1,.c (zb8 (sv (tl (ByteArray.extract t 0 32))) (sv (tl (ByteArray.extract t 32 64))) (ve (ByteArray.extract t 0 32) (zcb t hsz)) (ve (ByteArray.extract t 32 64) (zcc t hsz)) (((by_ t 64:Nat):Int)))] H5 kr fun gs6 w6 H6=>wX [2] ?_;clear H5;refine yi 28 (v:=.bool (zO (sv (tl (ByteArray.extract t 0 32))) (sv (tl (ByteArray.extract t 32 64))) (((by_ t 64:Nat):Int)))) (v':=.bool true) (za hm) kr<|rp [.v] H6 kr fun gs7 w7 H7=>wX [] ?_;clear H6;refine zc<|zl kr kr<|zp kr<|wW<|rS [.l 1,.s 0,.v] H7 kr fun gs8 w8 H8=>?_;clear H7;refine zn kr<|wV ?_;refine ⟨[sgv (sv (tl (ByteArray.extract t 0 32))) (sv (tl (ByteArray.extract t 32 64))) (((by_ t 64:Nat):Int)),.int .i64 0],(.agg (b:=(gs1 0).b) (Value.cells (sgv (sv (tl (ByteArray.extract t 0 32))) (sv (tl (ByteArray.extract t 32 64))) (((by_ t 64:Nat):Int)))) 26 (0,0) kr (H8.get 0 kr) kr (.tmp (.int .i64 0) kr .nil)),?_,H8.below⟩
 kernel_rfl
theorem znK (t:ByteArray)(ht:ByteArray.size t≤0x7fffffffffffffff)(hsz:ByteArray.size t=65)(hm:zO (sv (tl (ByteArray.extract t 0 32))) (sv (tl (ByteArray.extract t 32 64))) (((by_ t 64:Nat)):Int)=false):Fn Tryz.prog 105 #[.string t] (.tuple #[sgv 0 0 0,.int .i64 4]):=by
 have hbl:=jK t 64;refine Fn.intro (c:=zd Tryz.f105) [.cell 2 26,.tmp 3] 32 Tryz.func105 kr kr kr fun w=>?_;have H0:=St.start w;refine rS [.a,.v] H0 kr fun gs1 w1 H1=>?_;clear H0;refine zb kr<|rS [.v,.v,.E (.bool (!((ByteArray.size t:Int)==65))) (.bool false) (za (by rw [beq_iff_eq.2 (by omega)];rfl))] H1 kr fun gs2 w2 H2=>?_;clear H1;refine zl kr kr<|zp kr<|wW<|rS [.v,.o (ins:=[((.tmp 9),.string t),((.const (.int .i64 64)),.int .i64 64)]) (v:=.int .u8 ((by_ t 64:Nat):Int)) (fun ρ o w ho hi=>qV (t:=9) (kd:=.i64) kr (x:=(.tmp 9)) (y:=(.const (.int .i64 64))) t 64 ho hi.1 hi.2.1 (by omega) w),.E (.int .i64 (IntKind.i64.wrap (((by_ t 64:Nat):Int)))) (.int .i64 ((by_ t 64:Nat):Int)) (zk (za2 (a:=by_ t 64) (by omega))),.v,.a,.s 1] H2 kr fun gs3 w3 H3=>?_;clear H2;refine rS [.v,.o (ins:=[((.tmp 14),.string t),((.const (.int .i64 32)),.int .i64 32)]) (v:=.string (ByteArray.extract t 0 32)) (fun ρ o w ho hi=>vH (t:=9) (kd:=.i64) kr (x:=(.tmp 14)) (y:=(.const (.int .i64 32))) t 32 ho hi.1 hi.2.1 (by omega) w),.c (vT (ByteArray.extract t 0 32) (zcb t hsz)),.v,.v,.v,.v,.s 1] H3 kr fun gs4 w4 H4=>?_;clear H3;refine ye [0,2,3,4,7] fun ρ1=>?_;have HK1:=H4.keep;clear H4;refine rS [.v,.o (ins:=[((.tmp 21),.string t),((.const (.int .i64 64)),.int .i64 64),((.const (.int .i64 32)),.int .i64 32)]) (v:=.string (ByteArray.extract t 32 64)) (fun ρ o w ho hi=>zfB (t:=9) (kd:=.i64) (kz:=.i64) kr (x:=(.tmp 21)) (y:=(.const (.int .i64 64))) (z:=(.const (.int .i64 32))) t 32 64 ho hi.1 hi.2.1 hi.2.2.1 (by omega) (by omega) w),.c (vT (ByteArray.extract t 32 64) (zcc t hsz)),.v,.v,.v,.v,.s 1] HK1 kr fun gs5 w5 H5=>?_;clear HK1;refine zb kr<|zh [0,1,2] kr kr<|rp [.l 1,.c (zb8 (sv (tl (ByteArray.extract t 0 32))) (sv (tl (ByteArray.extract t 32 64))) (ve (ByteArray.extract t 0 32) (zcb t hsz)) (ve (ByteArray.extract t 32 64) (zcc t hsz)) (((by_ t 64:Nat):Int)))] H5 kr fun gs6 w6 H6=>wX [2] ?_;clear H5;refine yi 28 (v:=.bool (zO (sv (tl (ByteArray.extract t 0 32))) (sv (tl (ByteArray.extract t 32 64))) (((by_ t 64:Nat):Int)))) (v':=.bool false) (za hm) kr<|rp [.v] H6 kr fun gs7 w7 H7=>wX [] ?_;clear H6;refine zc<|zi kr kr<|rS [.v,.s 0,.v] H7 kr fun gs8 w8 H8=>?_;clear H7;refine zn kr<|wV ?_;refine ⟨[sgv 0 0 (0),.int .i64 4],(.agg (b:=(gs1 0).b) (Value.cells (sgv 0 0 (0))) 26 (0,0) kr (H8.get 0 kr) kr (.tmp (.int .i64 4) kr .nil)),?_,H8.below⟩
 kernel_rfl
def zap:ByteArray→Value:=fun t=>if ByteArray.size t≠65 then .tuple #[sgv 0 0 0,.int .i64 4] else if zO (sv (tl (ByteArray.extract t 0 32))) (sv (tl (ByteArray.extract t 32 64))) (((by_ t 64:Nat)):Int)=true then .tuple #[sgv (sv (tl (ByteArray.extract t 0 32))) (sv (tl (ByteArray.extract t 32 64))) (((by_ t 64:Nat)):Int),.int .i64 0] else .tuple #[sgv 0 0 0,.int .i64 4]
theorem zhC (t:ByteArray)(ht:ByteArray.size t≤0x7fffffffffffffff):Fn Tryz.prog 105 #[.string t] (zap t):=by
 unfold zap;by_cases h:ByteArray.size t≠65
 ·rw [if_pos h];exact znI t ht h
 ·rw [if_neg h];have h2:ByteArray.size t=65:=by omega
  cases hm:zO (sv (tl (ByteArray.extract t 0 32))) (sv (tl (ByteArray.extract t 32 64))) (((by_ t 64:Nat)):Int)
  ·rw [if_neg (by simp)];exact znK t ht h2 hm
  ·rw [if_pos rfl];exact znJ t ht h2 hm
end Go.Proofs.YtpghmdbjmigjlaaGreatDoor
namespace Go.Proofs.YtpghmdbjmigjlaaGreatDoor
open Go.RowKit
theorem znL (x:Int)(_h0:0≤x)(h1:x<256):(UInt8.ofNat x.toNat).toNat=x.toNat:=by
 simp;omega
theorem zcd (x:Int)(n:Nat)(hx:Wd x):
 256*(256*(256*(256*(256*(256*(256*(256*n+(x / 72057594037927936%256).toNat)+(x / 281474976710656%256).toNat)+(x / 1099511627776%256).toNat)+(x / 4294967296%256).toNat)+(x / 16777216%256).toNat)+(x / 65536%256).toNat)+(x / 256%256).toNat)+(x%256).toNat=0x10000000000000000*n+x.toNat:=by
 obtain ⟨hx0,hx1⟩:=hx;obtain ⟨y,rfl⟩:=Int.eq_ofNat_of_zero_le hx0;have hy:y<0x10000000000000000:=by omega
 have c0:((y:Int)%256).toNat=y%256:=by omega
 have c1:((y:Int) / 256%256).toNat=y / 256%256:=by omega
 have c2:((y:Int) / 65536%256).toNat=y / 65536%256:=by omega
 have c3:((y:Int) / 16777216%256).toNat=y / 16777216%256:=by omega
 have c4:((y:Int) / 4294967296%256).toNat=y / 4294967296%256:=by omega
 have c5:((y:Int) / 1099511627776%256).toNat=y / 1099511627776%256:=by omega
 have c6:((y:Int) / 281474976710656%256).toNat=y / 281474976710656%256:=by omega
 have c7:((y:Int) / 72057594037927936%256).toNat=y / 72057594037927936%256:=by omega
 rw [Int.toNat_natCast,c7,c6,c5,c4,c3,c2,c1,c0];clear c0 c1 c2 c3 c4 c5 c6 c7 hx0 hx1;have s0:y=256*(y / 256)+y%256:=by omega
 have s1:y / 256=256*(y / 65536)+y / 256%256:=by rw [show y / 65536=y / 256 / 256 from by rw [Nat.div_div_eq_div_mul]];omega
 have s2:y / 65536=256*(y / 16777216)+y / 65536%256:=by rw [show y / 16777216=y / 65536 / 256 from by rw [Nat.div_div_eq_div_mul]];omega
 have s3:y / 16777216=256*(y / 4294967296)+y / 16777216%256:=by rw [show y / 4294967296=y / 16777216 / 256 from by rw [Nat.div_div_eq_div_mul]];omega
 have s4:y / 4294967296=256*(y / 1099511627776)+y / 4294967296%256:=by rw [show y / 1099511627776=y / 4294967296 / 256 from by rw [Nat.div_div_eq_div_mul]];omega
 have s5:y / 1099511627776=256*(y / 281474976710656)+y / 1099511627776%256:=by rw [show y / 281474976710656=y / 1099511627776 / 256 from by rw [Nat.div_div_eq_div_mul]];omega
 have s6:y / 281474976710656=256*(y / 72057594037927936)+y / 281474976710656%256:=by rw [show y / 72057594037927936=y / 281474976710656 / 256 from by rw [Nat.div_div_eq_div_mul]];omega
 have s7:y / 72057594037927936%256=y / 72057594037927936:=by omega
 generalize y / 256=z1 at*;generalize y / 65536=z2 at*;generalize y / 16777216=z3 at*;generalize y / 4294967296=z4 at*;generalize y / 1099511627776=z5 at*;generalize y / 281474976710656=z6 at*;generalize y / 72057594037927936=z7 at*;omega
theorem zd3 (A:Nat)(hA:A<big):sv (bs A).data.toList=A:=by
 have e:(bs A).data.toList=(bn A).map fun n=>UInt8.ofNat n.toNat:=by simp [bs,strOfNums]
 have b: ∀x:Int,(UInt8.ofNat (x%256).toNat).toNat=(x%256).toNat:=fun x=>znL _ (by omega) (by omega);rw [e];unfold sv bn;simp only [List.map_cons,List.map_nil,List.foldl_cons,List.foldl_nil,b];rw [zcd _ _ (wd3 A),zcd _ _ (wd2 A),zcd _ _ (wd1 A),zcd _ _ (wd0 A)];have h:=xx A hA;have h0:=wd0 A;have h1:=wd1 A;have h2:=wd2 A;have h3:=wd3 A;unfold Wd at h0 h1 h2 h3;omega
end Go.Proofs.YtpghmdbjmigjlaaGreatDoor
namespace Go.Proofs.YtpghmdbjmigjlaaGreatDoor
open Go Go.RowKit
set_option linter.unusedVariables false
theorem zhD: ∀(n:Nat) (a b:List UInt8),a.length=n→b.length=n→sv a=sv b→a=b
 | 0,a,b,ha,hb,_=>by rw [List.length_eq_zero_iff.1 ha,List.length_eq_zero_iff.1 hb]
 | n+1,a,b,ha,hb,h=>by
  rcases List.eq_nil_or_concat a with rfl|⟨a,x,rfl⟩
  ·simp at ha
  rcases List.eq_nil_or_concat b with rfl|⟨b,y,rfl⟩
  ·simp at hb
  simp only [List.concat_eq_append] at ha hb h ⊢;rw [zd0,zd0] at h;have hx:=x.toNat_lt;have hy:=y.toNat_lt;have h1:sv a=sv b:=by omega
  have h2:x.toNat=y.toNat:=by omega
  rw [zhD n a b (by simpa using ha) (by simpa using hb) h1,UInt8.toNat_inj.1 h2]
theorem zhE {t:ByteArray}(h:t.size=32):bs (sv (tl t))=t:=by
 have hb:sv (tl t)<big:=ve t (by omega);apply jj;exact zhD 32 _ _ (qH _) (by rw [zy,h]) (zd3 _ hb)
theorem jt (r s:Nat)(v:Int):(sbs r s v).size=65:=by
 unfold sbs;rw [zdZ,zdZ,qH,qH];rfl
theorem zce (r s:Nat)(v:Int):tl (sbs r s v)=tl (bs r)++(tl (bs s)++tl (strOfNums [IntKind.u8.wrap v])):=by
 unfold sbs;rw [vI,vI,List.append_assoc]
theorem znM (r s:Nat)(v:Int):(sbs r s v).extract 0 32=bs r:=by
 apply jj;rw [qC,zce,List.drop_zero];exact List.take_left' (by rw [zy];exact qH r)
theorem znN (r s:Nat)(v:Int):(sbs r s v).extract 32 64=bs s:=by
 have h1:(tl (bs r)).length=32:=by rw [zy];exact qH r
 have h2:(tl (bs s)).length=32:=by rw [zy];exact qH s
 apply jj;rw [qC,zce,←List.append_assoc,List.take_left' (by rw [List.length_append];omega),List.drop_left' h1]
theorem zhF (r s:Nat)(v:Nat)(hv:v<256):by_ (sbs r s (v:Int)) 64=v:=by
 have h1:(tl (bs r)).length=32:=by rw [zy];exact qH r
 have h2:(tl (bs s)).length=32:=by rw [zy];exact qH s
 unfold by_;rw [zce,←List.append_assoc,List.getD_eq_getElem?_getD,List.getElem?_append_right (by rw [List.length_append];omega),List.length_append,h1,h2];have e:IntKind.u8.wrap (v:Int)=(v:Int):=by simp [IntKind.wrap,IntKind.bits,IntKind.signed];omega
 rw [e];show (((tl (strOfNums [(v:Int)]))[0]?).getD 0).toNat=v;have e2:tl (strOfNums [(v:Int)])=[UInt8.ofNat v]:=by simp [strOfNums,tl]
 rw [e2];simp;omega
def sgR (t:ByteArray):Nat:=sv (tl (t.extract 0 32))
def sgS (t:ByteArray):Nat:=sv (tl (t.extract 32 64))
def sgV (t:ByteArray):Int:=((by_ t 64:Nat):Int)
theorem zd4 {t:ByteArray}(h:t.size=65):sgR t<big:=ve _ (by rw [ByteArray.size_extract];omega)
theorem zd5 {t:ByteArray}(h:t.size=65):sgS t<big:=ve _ (by rw [ByteArray.size_extract];omega)
theorem znO {t:ByteArray}(h:t.size=65):sbs (sgR t) (sgS t) (sgV t)=t:=by
 have hl:(tl t).length=65:=by rw [zy,h]
 apply jj;rw [zce];unfold sgR sgS sgV;rw [zhE (by rw [ByteArray.size_extract];omega),zhE (by rw [ByteArray.size_extract];omega),qC,qC,List.drop_zero];have e:tl (strOfNums [IntKind.u8.wrap ((by_ t 64:Nat):Int)])=(tl t).drop 64:=by
  have hb:=jK t 64;have e1:IntKind.u8.wrap ((by_ t 64:Nat):Int)=((by_ t 64:Nat):Int):=by simp [IntKind.wrap,IntKind.bits,IntKind.signed];omega
  rw [e1];have e2:tl (strOfNums [((by_ t 64:Nat):Int)])=[UInt8.ofNat (by_ t 64)]:=by simp [strOfNums,tl]
  rw [e2,List.drop_eq_getElem_cons (by omega),List.drop_eq_nil_of_le (by omega)];congr 1;unfold by_;rw [List.getD_eq_getElem?_getD,List.getElem?_eq_getElem (by omega:64<(tl t).length)];simp
 rw [e];have h1:((tl t).take 64).drop 32++(tl t).drop 64=(tl t).drop 32:=by
  rw [List.drop_take];have:(tl t).drop 64=((tl t).drop 32).drop 32:=by rw [List.drop_drop]
  rw [this];exact List.take_append_drop 32 _
 rw [h1];exact List.take_append_drop 32 _
theorem znP {r s:Nat}{v:Int}(h:zO r s v=true):v=0∨v=1:=by
 unfold zO at h;rw [Bool.and_eq_true,Bool.or_eq_true,decide_eq_true_iff,decide_eq_true_iff] at h;exact h.2
theorem znQ {r s:Nat}{v:Int}(h:zO r s v=true):r≠0:=fun e=>by
 subst e;unfold zO at h;rw [znu] at h;simp at h
theorem zcf {r s:Nat}{v:Int}(hr:r<big):sgR (sbs r s v)=r:=by
 unfold sgR;rw [znM];exact zd3 r hr
theorem zcg {r s:Nat}{v:Int}(hs:s<big):sgS (sbs r s v)=s:=by
 unfold sgS;rw [znN];exact zd3 s hs
theorem zch {r s:Nat}{v:Int}(h:zO r s v=true):sgV (sbs r s v)=v:=by
 unfold sgV;rcases znP h with rfl | rfl
 ·exact congrArg (Nat.cast:Nat→Int) (zhF r s 0 (by decide))
 ·exact congrArg (Nat.cast:Nat→Int) (zhF r s 1 (by decide))
theorem zhG (t:ByteArray):zap t=if t.size=65∧zO (sgR t) (sgS t) (sgV t)=true then .tuple #[sgv (sgR t) (sgS t) (sgV t),.int .i64 0] else .tuple #[sgv 0 0 0,.int .i64 4]:=by
 unfold zap;by_cases h:t.size=65
 ·rw [if_neg (fun h9=>h9 h)];by_cases hm:zO (sgR t) (sgS t) (sgV t)=true
  ·rw [if_pos (show t.size=65∧zO (sgR t) (sgS t) (sgV t)=true from ⟨h,hm⟩)];exact if_pos hm
  ·rw [if_neg (show ¬(t.size=65∧zO (sgR t) (sgS t) (sgV t)=true) from fun h9=>hm h9.2)];exact if_neg hm
 ·rw [if_pos h,if_neg (fun h9=>h h9.1)]
theorem zhH (r s:Nat)(v:Int)(r' s':Nat)(v':Int)(hr:r<big)(hs:s<big)(hr':r'<big)(hs':s'<big)(w:World):(Op.equalIn 10000 26 (.agg (Value.cells (sgv r s v))) (.agg (Value.cells (sgv r' s' v')))).run Tryz.prog w=.ok (decide (r=r')&&(decide (s=s')&&(v==v'))) w:=by
 rw [run_equalIn_struct w 9999 26 _ _ kr kr,
  show (Tryz.prog.fieldsOf 26).toList= [{ name:= "R",type:=24,offset:=0,embedded:=false,tag:= "",pkgPath:= "",byteOffset:=0 },{ name:= "S",type:=24,offset:=4,embedded:=false,tag:= "",pkgPath:= "",byteOffset:=32 },{ name:= "V",type:=3,offset:=8,embedded:=false,tag:= "",pkgPath:= "",byteOffset:=64 }] by kernel_rfl]
 have px: ∀r s v,(part 24 (Value.cells (sgv r s v)) 0).run Tryz.prog w=.ok (uv r) w:=fun r s v=>by kernel_rfl
 have py: ∀r s v,(part 24 (Value.cells (sgv r s v)) 4).run Tryz.prog w=.ok (uv s) w:=fun r s v=>by kernel_rfl
 have pb: ∀r s v,(part 3 (Value.cells (sgv r s v)) 8).run Tryz.prog w=.ok (.int .i64 v) w:=fun r s v=>by kernel_rfl
 have ex: ∀r r':Nat,r<big→r'<big→(Op.equalIn 9999 24 (uv r) (uv r')).run Tryz.prog w=.ok (decide (r=r')) w:=fun r r' hr hr'=>by
  have h9:=zbr hr hr';rw [←h9];exact zdj 9997 _ _ _ _ _ _ _ _ w
 have eb:(Op.equalIn 9999 3 (.int .i64 v) (.int .i64 v')).run Tryz.prog w=.ok (v==v') w:=by
  rw [run_equalIn_int w 9998 3 .i64 .i64 v v' Tryz.underlying3]
 have n1:("R" :String)≠ "_" :=by decide
 have n2:("S" :String)≠ "_" :=by decide
 have n3:("V" :String)≠ "_" :=by decide
 simp only [Op.eqFields,if_pos n1,if_pos n2,if_pos n3,Sem.run_bind,px,py,pb,Result.andThen_ok,ex r r' hr hr',ex s s' hs hs',eb,Sem.run_ite];by_cases h1:r=r'
 ·by_cases h2:s=s'
  ·cases h3:(v==v')<;>simp [h1,h2]
  ·simp [h1,h2]
 ·simp [h1]
theorem zhI {ρ:Env}(r s:Nat)(v:Int)(r' s':Nat)(v':Int)(hr:r<big)(hs:s<big)(hr':r'<big)(hs':s'<big){x y:Operand}{o:Oper}(w:World)(ho:o.op=.binOp .neq 26 x y 26)(hx:ev ρ x=.agg (Value.cells (sgv r s v)))(hy:ev ρ y=.agg (Value.cells (sgv r' s' v'))):
 (execOp (ev ρ) o).run Tryz.prog w=.ok (.value (.bool (!(decide (r=r')&&(decide (s=s')&&(v==v')))))) w:=by
 have h:=zhH r s v r' s' v' hr hs hr' hs' w;generalize Value.cells (sgv r s v)=X at h hx;generalize Value.cells (sgv r' s' v')=Y at h hy;unfold execOp;simp only [ho,hx,hy,resolve,Sem.run_bind,Sem.run_pure,Result.andThen_ok,run_eqGuard_agg w _ _ _ _ _ _ (show Tryz.prog.eqGuardType Tryz.prog.depth 26=false by kernel_rfl),run_eql_struct,run_neq_struct,h]
abbrev xK:ByteArray:=⟨#[97,110,110,115]⟩
def kq:List ByteArray:=[⟨#[97]⟩,⟨#[110]⟩,⟨#[110]⟩,⟨#[115]⟩]
theorem xL:zbX xK kq:=⟨by decide,by kernel_rfl,by kernel_rfl,by kernel_rfl,List.all_eq_true.1 (show kq.all kdOk=true by kernel_rfl)⟩
def txF (to:ByteArray)(a n:Nat)(sg:ByteArray):Fe:=.cons (0,to) .nil (.cons (a,em) .nil (.cons (n,em) .nil (.cons (0,sg) .nil .nil)))
theorem vU (m sz ln:Nat):zE 97 0 m sz ln=(decide (m=0)&&(decide (sz=20)&&decide (ln=0))):=by
 unfold zE yR yb yj;rw [Bool.eq_iff_iff];simp<;>omega
theorem zaq (m sz ln:Nat):zE 115 0 m sz ln=(decide (m=0)&&(decide (sz=65)&&decide (ln=0))):=by
 unfold zE yR yb yj;rw [Bool.eq_iff_iff];simp<;>omega
theorem zar (m sz ln:Nat):zE 110 0 m sz ln=(decide (sz=0)&&decide (ln=0)):=by
 unfold zE yR yb yj;rw [Bool.eq_iff_iff];simp<;>omega
theorem zd6 (m sz ln:Nat):zE 98 0 m sz ln=(decide (m=0)&&(decide (sz≤64)&&decide (ln=0))):=by
 unfold zE yR yb yj;rw [Bool.eq_iff_iff];simp<;>omega
theorem qZ (g:Nat)(q:ByteArray)(x:Nat×ByteArray)(l:Fe)(hg:by_ q 0=g)(h:g≠42):jD q x l=zE g 0 x.1 x.2.size l.len:=by
 have e:kdB q=.nil:=by unfold kdB;rw [hg,if_neg h]
 unfold jD;rw [e,hg,beq_eq_false_iff_ne.2 h];simp [Fr.len]
theorem zd7 (l:Fe):yB kq l=true↔ ∃(to:ByteArray) (a n:Nat) (sg:ByteArray),l=txF to a n sg∧to.size=20∧sg.size=65:=by
 constructor
 ·intro h;unfold kq at h
  match l,h with
  | .cons x1 l1 (.cons x2 l2 (.cons x3 l3 (.cons x4 l4 .nil))),h=>
   simp only [yB,qZ 97 ⟨#[97]⟩ x1 l1 rfl (by decide),qZ 110 ⟨#[110]⟩ x2 l2 rfl (by decide),qZ 110 ⟨#[110]⟩ x3 l3 rfl (by decide),qZ 115 ⟨#[115]⟩ x4 l4 rfl (by decide),vU,zaq,zar,Bool.and_eq_true,decide_eq_true_eq] at h;obtain ⟨⟨h1,h2,h3⟩,⟨h4,h5⟩,⟨h6,h7⟩,⟨h8,h9,h10⟩,_⟩:=h;obtain ⟨m1,s1⟩:=x1;obtain ⟨m2,s2⟩:=x2;obtain ⟨m3,s3⟩:=x3;obtain ⟨m4,s4⟩:=x4;obtain rfl:=Fr.len_zero h3;obtain rfl:=Fr.len_zero h5;obtain rfl:=Fr.len_zero h7;obtain rfl:=Fr.len_zero h10;obtain rfl:=xg h4;obtain rfl:=xg h6;simp only at h1 h8;subst h1 h8;exact ⟨s1,m2,m3,s4,rfl,h2,h9⟩
  | .nil,h=>exact nomatch h
  | .cons _ _ .nil,h=>simp [yB] at h
  | .cons _ _ (.cons _ _ .nil),h=>simp [yB] at h
  | .cons _ _ (.cons _ _ (.cons _ _ .nil)),h=>simp [yB] at h
  | .cons _ _ (.cons _ _ (.cons _ _ (.cons _ _ (.cons _ _ _)))),h=>simp [yB] at h
 ·rintro ⟨to,a,n,sg,rfl,h1,h2⟩;unfold kq txF;simp only [yB,qZ 97 ⟨#[97]⟩ _ _ rfl (by decide),qZ 110 ⟨#[110]⟩ _ _ rfl (by decide),qZ 115 ⟨#[115]⟩ _ _ rfl (by decide),vU,zaq,zar,h1,h2];rfl
theorem znR (to:ByteArray)(a n:Nat)(sg:ByteArray):(txF to a n sg).cnt=4:=rfl
def ja (to:ByteArray)(r s:Nat)(v:Int):Bool:=decide (to.size=20)&&zO r s v
def txW (to:ByteArray)(a n r s:Nat)(v:Int):ByteArray×Nat:=wrV xK (txF to a n (if zO r s v=true then sbs r s v else em))
theorem znS {to:ByteArray}{a n r s:Nat}{v:Int}(h:ja to r s v=false):txW to a n r s v=(em,1):=by
 unfold txW;rw [zan xL,if_neg];rintro ⟨h1,_⟩;obtain ⟨to',a',n',sg',e,h2,h3⟩:=(zd7 _).1 h1;unfold txF at e;injection e with e1 _ e2;injection e2 with _ _ e3;injection e3 with _ _ e4;injection e4 with e5
 injection e1 with _ e6;injection e5 with _ e7
 unfold ja at h;subst e6;rw [decide_eq_true h2,Bool.true_and] at h;rw [h] at e7;rw [if_neg (by decide)] at e7;rw [←e7] at h3;cases h3
theorem vV {to:ByteArray}{a n r s:Nat}{v:Int}(h:ja to r s v=true):txW to a n r s v=wrV xK (txF to a n (sbs r s v)):=by
 unfold ja at h;rw [Bool.and_eq_true] at h;unfold txW;rw [if_pos h.2]
theorem zhJ {to to':ByteArray}{a a' n n':Nat}{sg sg':ByteArray}(h:txF to a n sg=txF to' a' n' sg'):to=to'∧a=a'∧n=n'∧sg=sg':=by
 unfold txF at h;injection h with e1 _ e2;injection e2 with e3 _ e4;injection e4 with e5 _ e6;injection e6 with e7
 injection e1 with _ e1;injection e3 with e3 _;injection e5 with e5 _;injection e7 with _ e7
 exact ⟨e1,e3,e5,e7⟩
def hv:List UInt8→List UInt8
 | []=>[]
 | b::t=>(b >>> 4)::(b &&& 15)::hv t
def isP (l:List UInt8):Bool:=l.all fun b=>decide (b.toNat≤15)
def jn:List UInt8→List UInt8
 | a::b::t=>(a <<< 4 ||| b)::jn t
 | _=>[]
def vg:List UInt8→List UInt8→Bool
 | [],[]=>false
 | [],_::_=>true
 | _::_,[]=>false
 | a::l,b::m=>if a.toNat<b.toNat then true else if a=b then vg l m else false
structure Nd where
 kind:Int
 part:ByteArray
 value:ByteArray
 kids:List Int
def kyB (l:List UInt8):Bool:=isP l&& !decide (l.length%2=1)
def kyS (l:List UInt8):ByteArray:=bif kyB l then zf (jn l) else ⟨#[]⟩
theorem znT {P:Program}{ρ:Env}{t e:TypeId}{size bytes:Nat}(ht:yd P t=some (e,size,bytes)){x z:Operand}{o:Oper}{kz:IntKind}(b q n c j:Nat)(ho:o.op=.slice t x (some z) none none)(hx:ev ρ x=.slice (some ⟨b,q,none⟩) n c)
 (hz:ev ρ z=.int kz (j:Int)) (hj:j≤n) (hn:n≤c):
 ∀w,(execOp (ev ρ) o).run P w=.ok (.value (.slice (some ⟨b,if c=j then q else q+j*size,none⟩) (n-j) (c-j))) w:=fun w=>by
 obtain ⟨it,z',hu,hi,hz',hsz,hby,hzs,h0⟩:=yW ht;have hS:(sizeOf e).run P w=.ok size w:=by simp [sizeOf,typeInfo,hi,hsz]
 unfold execOp;by_cases hc:c=j
 ·have hnj:n=j:=by omega
  subst hc hnj;simp [ho,hx,hz,Instr.sliceAt,Instr.slice,Instr.sliceBounds,Instr.sliceBound,asIntOf,run_underlying hu,hS]
 ·simp [ho,hx,hz,Instr.sliceAt,Instr.slice,Instr.sliceBounds,Instr.sliceBound,asIntOf,run_underlying hu,hS,hj,qn,hc]
section
variable {P:Program}{N:Nat}{ops:Array Oper}{i:Nat}{r:List Nat}{K:Env→World→Prop}{ρ:Env}{w:World}
end
abbrev Pr:=ByteArray×ByteArray
def znU (k v:ByteArray):Bool:=(decide (1≤k.size)&&decide (k.size≤32))&&(decide (1≤v.size)&&decide (v.size≤500))
def znV (part:List UInt8)(v:ByteArray)(ps:List Pr):List Pr:=if znU (kyS part) v=true then ps++ [(kyS part,v)] else ps
def znW (kind:Int)(i:Nat):List UInt8:=if kind=3 then [UInt8.ofNat i] else []
def zd8 (go:Int→List UInt8→Nat×List Pr→Nat×List Pr)(x:Nd)(part:List UInt8):Nat→Nat×List Pr→Nat×List Pr
 | 0,s=>s
 | i+1,s=>if x.kids.getD i (-1)= -1 then zd8 go x part i s else go (x.kids.getD i (-1)) (part++znW x.kind i) (zd8 go x part i s)
def zhK (A:List Nd):Nat→Int→List UInt8→Nat×List Pr→Nat×List Pr
 | 0,_,_,s=>s
 | f+1,at_,ahead,s=>
  if s.1=0∨at_<0∨(A.length:Int)≤at_ then s
  else match A[at_.toNat]? with
   | none=>s
   | some x=>if 64<ahead.length+x.part.size then (s.1-1,s.2)
    else zd8 (zhK A f) x (ahead++tl x.part) 16 (s.1-1,znV (ahead++tl x.part) x.value s.2)
section
variable {P:Program}{N:Nat}{ops:Array Oper}{i:Nat}{r:List Nat}{K:Env→World→Prop}{ρ:Env}{w:World}
end
theorem zhL: ∀x y:List UInt8,Op.bytesLess x y=vg x y
 | [],[]=>rfl
 | [],_::_=>rfl
 | _::_,[]=>rfl
 | a::x,b::y=>by
  unfold Op.bytesLess vg;rw [zhL x y];by_cases h:a.toNat<b.toNat
  ·rw [if_pos h,decide_eq_true (show a<b from h)];rfl
  ·rw [if_neg h,decide_eq_false (show ¬a<b from h)];by_cases e:a=b
   ·rw [if_pos e,e];simp
   ·rw [if_neg e];simp [e]
theorem zhM (a b:ByteArray):Op.bytesLess a.toList b.toList=vg (tl a) (tl b):=by
 rw [ByteArray.toList_eq,ByteArray.toList_eq];exact zhL _ _
def zri (A:List Nd)(root:Int):List Pr:=(zhK A 192 root [] (192,[])).2
theorem ju {α:Type}{L:List α}{i:Nat}{a:α}(ha:L[i]? =some a):L.take (i+1)=L.take i++ [a]:=by
 rw [List.take_add_one,ha];rfl
end Go.Proofs.YtpghmdbjmigjlaaGreatDoor
namespace Go.Proofs.Kec
set_option linter.unusedVariables false
set_option maxRecDepth 10000
abbrev B64:=BitVec 64
def nth (s:List B64)(k:Nat):B64:=s.getD k 0
def rl (x:B64)(n:Nat):B64:=x.rotateLeft n
def vW (v w x:B64):B64:=v ^^^ (x &&& ~~~ w)
def cC (s:List B64)(x:Nat):B64:=nth s x ^^^ nth s (x+5) ^^^ nth s (x+10) ^^^ nth s (x+15) ^^^ nth s (x+20)
def dD (c:Nat→B64)(x:Nat):B64:=c ((x+4)%5) ^^^ rl (c ((x+1)%5)) 1
def znX:List Nat:=[0,6,12,18,24,3,9,10,16,22,1,7,13,19,20,4,5,11,17,23,2,8,14,15,21]
def znY:List Nat:=[0,44,43,21,14,28,20,3,45,61,1,6,25,8,18,27,36,10,15,56,62,55,39,41,2]
def th (s:List B64)(i:Nat):B64:=nth s i ^^^ dD (cC s) (i%5)
def pI (s:List B64)(k:Nat):B64:=rl (th s (znX.getD k 0)) (znY.getD k 0)
def xI (b:Nat→B64)(k:Nat):B64:=vW (b k) (b (k / 5*5+(k%5+1)%5)) (b (k / 5*5+(k%5+2)%5))
def rnd (s:List B64):List B64:=(List.range 25).map (xI (pI s))
theorem znZ (a:B64)(n i:Nat)(hi:i<64):(rl a n).getLsbD i=a.getLsbD ((i+64-n%64)%64):=by
 unfold rl;rw [BitVec.getLsbD_rotateLeft];by_cases h:i<n%64
 ·rw [decide_eq_true h,cond_true];congr 1;omega
 ·rw [decide_eq_false h,cond_false,decide_eq_true hi,Bool.true_and];congr 1;omega
theorem zn0 (s:List B64):(rnd s).length=25:=by unfold rnd;simp
def zci (m:B64)(s:List B64):List B64:=(nth s 0 ^^^ m)::s.drop 1
def rm (s:List B64)(m:B64):List B64:=zci m (rnd s)
def marks:List B64:=[0x0000000000000001,0x0000000000008082,0x800000000000808A,0x8000000080008000,
 0x000000000000808B,0x0000000080000001,0x8000000080008081,0x8000000000008009,
 0x000000000000008A,0x0000000000000088,0x0000000080008009,0x000000008000000A,
 0x000000008000808B,0x800000000000008B,0x8000000000008089,0x8000000000008003,
 0x8000000000008002,0x8000000000000080,0x000000000000800A,0x800000008000000A,
 0x8000000080008081,0x8000000000008080,0x0000000080000001,0x8000000080008008]
def mix (s:List B64):List B64:=marks.foldl rm s
theorem zn1 (m:B64){s:List B64}(h:s.length=25):(zci m s).length=25:=by unfold zci;simp [h]
theorem zn2 (s:List B64)(m:B64):(rm s m).length=25:=zn1 m (zn0 s)
theorem zhN: ∀(ms:List B64) {s:List B64},s.length=25→(ms.foldl rm s).length=25
 | [],_,h=>h
 | m::ms,s,_=>zhN ms (zn2 s m)
theorem zhO {s:List B64}(h:s.length=25):(mix s).length=25:=zhN _ h
def zd9 (b:UInt8):B64:=BitVec.ofNat 64 b.toNat
def qI (b:B64)(i:Nat):B64:=b <<< (i%8*8)
def lay (s:List B64)(n:Nat)(b:B64):List B64:=s.set (n / 8) (nth s (n / 8) ^^^ qI b n)
def step1 (st:List B64×Nat)(b:UInt8):List B64×Nat:=
 if st.2+1=136 then (mix (lay st.1 st.2 (zd9 b)),0) else (lay st.1 st.2 (zd9 b),st.2+1)
def takeB (st:List B64×Nat)(l:List UInt8):List B64×Nat:=l.foldl step1 st
def endB (st:List B64×Nat):List B64:=lay (lay st.1 st.2 1) 135 0x80
def firstB (s:List B64):List UInt8:=(List.range 32).map fun i=>UInt8.ofNat ((nth s (i / 8)).toNat / 2^(i%8*8))
def zeroS:List B64:=List.replicate 25 0
def sumB (l:List UInt8):List UInt8:=firstB (mix (endB (takeB (zeroS,0) l)))
theorem zas {s:List B64}(n:Nat)(b:B64)(h:s.length=25):(lay s n b).length=25:=by unfold lay;simp [h]
structure StOK (st:List B64×Nat):Prop where
 len:st.1.length=25
 lt:st.2<136
theorem zn3 {st:List B64×Nat}(b:UInt8)(h:StOK st):StOK (step1 st b):=by
 unfold step1;split
 ·exact ⟨zhO (zas _ _ h.len),(by decide:0<136)⟩
 ·exact ⟨zas _ _ h.len,by have:=h.lt;simp only;omega⟩
theorem takeB_ok: ∀(l:List UInt8) {st:List B64×Nat},StOK st→StOK (takeB st l)
 | [],_,h=>h
 | b::l,st,h=>takeB_ok l (zn3 b h)
theorem takeB_append (st:List B64×Nat)(l m:List UInt8):takeB st (l++m)=takeB (takeB st l) m:=by unfold takeB;exact List.foldl_append
theorem zn4 (st:List B64×Nat)(l:List UInt8)(b:UInt8):takeB st (l++ [b])=step1 (takeB st l) b:=by rw [takeB_append];rfl
theorem zero_ok:StOK (zeroS,0):=⟨by decide,by decide⟩
theorem zn5 (s:List B64):(firstB s).length=32:=by unfold firstB;simp
theorem sumB_len (l:List UInt8):(sumB l).length=32:=zn5 _
end Go.Proofs.Kec
namespace Go.Proofs.YtpghmdbjmigjlaaGreatDoor
open Go Go.RowKit
set_option linter.unusedVariables false
def upB:Option ByteArray→ByteArray→Bool
 | none,_=>true
 | some p,a=>vg (tl p) (tl a)
theorem zea {α:Type}{L:List α}{i:Nat}{x:α}(h:L[i]? =some x):L.drop i=x::L.drop (i+1):=by
 obtain ⟨hi,rfl⟩:=List.getElem?_eq_some_iff.1 h;exact (List.getElem_cons_drop (h:=hi)).symm
abbrev Fel:=El (Nat×ByteArray)
abbrev Sg:=Nat×Nat×Int
def sgF:Fl Sg where
 K:=9
 cs x:=[.int .u64 (w0 x.1),.int .u64 (w1 x.1),.int .u64 (w2 x.1),.int .u64 (w3 x.1),.int .u64 (w0 x.2.1),.int .u64 (w1 x.2.1),.int .u64 (w2 x.2.1),.int .u64 (w3 x.2.1),.int .i64 x.2.2]
 pos:=by decide
 len _:=rfl
 one a:=fun u hu=>by simp at hu;rcases hu with h | h | h | h | h | h | h | h | h<;>rw [h]<;>rfl
abbrev sgB (x:Sg):ByteArray:=sbs x.1 x.2.1 x.2.2
def sgOk (x:Sg):Prop:=x.1<big∧x.2.1<big
abbrev sgMay (x:Sg):Bool:=zO x.1 x.2.1 x.2.2
structure Hdr where
 pa:ByteArray
 hh:Nat
 ro:ByteArray
 tx:ByteArray
 pr:ByteArray
 va:ByteArray
 vs:List ByteArray
 vo:ByteArray
 ad:Bool
 rd:Nat
 ss:List Sg
theorem zhP {h k:Hdr}(e1:h.pa=k.pa)(e2:h.hh=k.hh)(e3:h.ro=k.ro)(e4:h.tx=k.tx)(e5:h.pr=k.pr)(e6:h.va=k.va)(e7:h.vs=k.vs)(e8:h.vo=k.vo)(e9:h.ad=k.ad)(e10:h.rd=k.rd)(e11:h.ss=k.ss):h=k:=by
 cases h;cases k;simp only at*;subst e1 e2 e3 e4 e5 e6 e7 e8 e9 e10 e11;rfl
structure yM (h:Hdr):Prop where
 hh:h.hh<0x10000000000000000
 rd:h.rd<0x10000000000000000
 pa:h.pa.size≤1000000
 ro:h.ro.size≤1000000
 tx:h.tx.size≤1000000
 pr:h.pr.size≤1000000
 va:h.va.size≤1000000
 vo:h.vo.size≤1000000
 vs: ∀x∈h.vs,ByteArray.size x≤1000000
 vl:h.vs.length≤1000
 ss: ∀x∈h.ss,sgOk x
 sl:h.ss.length≤1000
def kt:Option ByteArray→List ByteArray→Bool
 | _,[]=>true
 | p,a::r=>decide (a.size=20)&&(upB p a&&kt (some a) r)
def setM (L:List ByteArray):Bool:=kt none L&&(decide (0<L.length)&&decide (L.length≤16))
def voteB (vo:ByteArray)(ad:Bool):Bool:=if vo.size=0 then !ad else decide (vo.size=20)
def rightH (h:Hdr):Bool:=
 (decide (h.pa.size=32)&&(decide (h.ro.size=32)&&(decide (h.tx.size=32)&&(decide (h.pr.size=20)&&(decide (h.va.size≤8)&&setM h.vs)))))&&((voteB h.vo h.ad&&decide (h.ss.length≤16))&&h.ss.all sgMay)
def lsF:List ByteArray→Fe
 | []=>.nil
 | a::r=>.cons (0,a) .nil (lsF r)
theorem zat: ∀L,(lsF L).len=L.length
 | []=>rfl
 | a::r=>by simp only [lsF,Fr.len,List.length_cons,zat r]
theorem zeb: ∀L,(lsF L).cnt=L.length
 | []=>rfl
 | a::r=>by simp only [lsF,Fr.cnt,List.length_cons,zeb r];omega
theorem zec: ∀ {L M:List ByteArray},lsF L=lsF M→L=M
 | [],[],_=>rfl
 | a::r,b::t,h=>by
  unfold lsF at h;injection h with h1 _ h2;injection h1 with _ h1
  rw [h1,zec h2]
 | [],b::t,h=>by unfold lsF at h;cases h
 | a::r,[],h=>by unfold lsF at h;cases h
theorem zed: ∀ {L:List ByteArray},(∀x∈L,ByteArray.size x≤0x800000000000)→(lsF L).all fS.ok
 | [],_=>trivial
 | a::r,h=>⟨⟨(by decide:0<0x10000000000000000),h a (List.mem_cons_self ..)⟩,trivial,zed fun x hx=>h x (List.mem_cons_of_mem _ hx)⟩
def hdL (pa:ByteArray)(hh:Nat)(ro tx pr va:ByteArray)(L:List ByteArray)(vo:ByteArray)(a rd:Nat)(M:List ByteArray):Fe:=
 .cons (0,pa) .nil (.cons (hh,em) .nil (.cons (0,ro) .nil (.cons (0,tx) .nil (.cons (0,pr) .nil (.cons (0,va) .nil (.cons (0,em) (lsF L) (.cons (0,vo) .nil (.cons (a,em) .nil (.cons (rd,em) .nil (.cons (0,em) (lsF M) .nil))))))))))
def adN (b:Bool):Nat:=if b then 1 else 0
def hdF (h:Hdr):Fe:=hdL h.pa h.hh h.ro h.tx h.pr h.va h.vs h.vo (adN h.ad) h.rd (h.ss.map sgB)
abbrev qq:ByteArray:=⟨#[104,110,104,104,97,98,42,97,98,110,110,42,115]⟩
def hK:List ByteArray:=[⟨#[104]⟩,⟨#[110]⟩,⟨#[104]⟩,⟨#[104]⟩,⟨#[97]⟩,⟨#[98]⟩,⟨#[42,97]⟩,⟨#[98]⟩,⟨#[110]⟩,⟨#[110]⟩,⟨#[42,115]⟩]
theorem xM:zbX qq hK:=⟨by decide,by kernel_rfl,by kernel_rfl,by kernel_rfl,List.all_eq_true.1 (show hK.all kdOk=true by kernel_rfl)⟩
def yN (h:Hdr):ByteArray:=(wrV qq (hdF h)).1
theorem zhQ {pa pa':ByteArray}{hh hh':Nat}{ro ro' tx tx' pr pr' va va':ByteArray}{L L':List ByteArray}{vo vo':ByteArray}{a a' rd rd':Nat}{M M':List ByteArray}(h:hdL pa hh ro tx pr va L vo a rd M=hdL pa' hh' ro' tx' pr' va' L' vo' a' rd' M'):
 pa=pa'∧hh=hh'∧ro=ro'∧tx=tx'∧pr=pr'∧va=va'∧L=L'∧vo=vo'∧a=a'∧rd=rd'∧M=M':=by
 unfold hdL at h;injection h with e1 _ h;injection h with e2 _ h;injection h with e3 _ h;injection h with e4 _ h;injection h with e5 _ h;injection h with e6 _ h;injection h with _ e7 h;injection h with e8 _ h;injection h with e9 _ h;injection h with e10 _ h;injection h with _ e11 _
 injection e1 with _ e1;injection e2 with e2 _;injection e3 with _ e3;injection e4 with _ e4;injection e5 with _ e5;injection e6 with _ e6;injection e8 with _ e8;injection e9 with e9 _;injection e10 with e10 _
 exact ⟨e1,e2,e3,e4,e5,e6,zec e7,e8,e9,e10,zec e11⟩
theorem zn6 {a b:Bool}(h:adN a=adN b):a=b:=by cases a<;>cases b<;>first | rfl | cases h
theorem zcj {x y:Sg}(hx:sgOk x)(hy:sgOk y)(mx:sgMay x=true)(my:sgMay y=true)(h:sgB x=sgB y):x=y:=by
 obtain ⟨r,s,v⟩:=x;obtain ⟨r',s',v'⟩:=y;have e1:=congrArg sgR h;have e2:=congrArg sgS h;have e3:=congrArg sgV h;rw [zcf hx.1,zcf hy.1] at e1;rw [zcg hx.2,zcg hy.2] at e2;rw [zch mx,zch my] at e3;exact Prod.ext e1 (Prod.ext e2 e3)
theorem zhR: ∀ {L M:List Sg},(∀x∈L,sgOk x)→(∀x∈M,sgOk x)→L.all sgMay=true→M.all sgMay=true→L.map sgB=M.map sgB→L=M
 | [],[],_,_,_,_,_=>rfl
 | x::r,y::t,hL,hM,aL,aM,h=>by
  simp only [List.all_cons,Bool.and_eq_true] at aL aM;simp only [List.map_cons,List.cons.injEq] at h;rw [zcj (hL x (List.mem_cons_self ..)) (hM y (List.mem_cons_self ..)) aL.1 aM.1 h.1,zhR (fun z hz=>hL z (List.mem_cons_of_mem _ hz)) (fun z hz=>hM z (List.mem_cons_of_mem _ hz)) aL.2 aM.2 h.2]
 | [],y::t,_,_,_,_,h=>by simp at h
 | x::r,[],_,_,_,_,h=>by simp at h
structure RtH (h:Hdr):Prop where
 pa:h.pa.size=32
 ro:h.ro.size=32
 tx:h.tx.size=32
 pr:h.pr.size=20
 va:h.va.size≤8
 st:setM h.vs=true
 vo:voteB h.vo h.ad=true
 sl:h.ss.length≤16
 ss:h.ss.all sgMay=true
theorem ku {h:Hdr} :rightH h=true↔RtH h:=by
 unfold rightH;simp only [Bool.and_eq_true,decide_eq_true_eq];exact ⟨fun ⟨⟨h1,h2,h3,h4,h5,h6⟩,⟨h7,h8⟩,h9⟩=>⟨h1,h2,h3,h4,h5,h6,h7,h8,h9⟩,fun ⟨h1,h2,h3,h4,h5,h6,h7,h8,h9⟩=>⟨⟨h1,h2,h3,h4,h5,h6⟩,⟨h7,h8⟩,h9⟩⟩
theorem zn7 {h k:Hdr}(oh:yM h)(ok:yM k)(rh:rightH h=true)(rk:rightH k=true)(e:hdF h=hdF k):h=k:=by
 have r1:=ku.1 rh;have r2:=ku.1 rk;obtain ⟨e1,e2,e3,e4,e5,e6,e7,e8,e9,e10,e11⟩:=zhQ e;have e9:=zn6 e9;have e11:=zhR oh.ss ok.ss r1.ss r2.ss e11;exact zhP e1 e2 e3 e4 e5 e6 e7 e8 e9 e10 e11
theorem zhS {p:Option ByteArray} : ∀ {L:List ByteArray},kt p L=true→ ∀x∈L,ByteArray.size x=20:=by
 intro L
 induction L generalizing p with
 | nil=>intro _ x hx;exact nomatch hx
 | cons a r ih=>
  intro h x hx;simp only [kt,Bool.and_eq_true,decide_eq_true_eq] at h;rcases List.mem_cons.1 hx with rfl | hx
  ·exact h.1
  ·exact ih h.2.2 x hx
theorem zck {h:Hdr}(o:yM h):(hdF h).all fS.ok:=by
 have z:(0:Nat)<0x10000000000000000:=by decide
 have ze:em.size≤0x800000000000:=Nat.zero_le _;have ha:adN h.ad<0x10000000000000000:=by unfold adN;split<;>decide
 have h1:=o.pa;have h2:=o.ro;have h3:=o.tx;have h4:=o.pr;have h5:=o.va;have h6:=o.vo
 exact ⟨⟨z,by show h.pa.size≤_;omega⟩,trivial,⟨o.hh,ze⟩,trivial,⟨z,by show h.ro.size≤_;omega⟩,trivial,⟨z,by show h.tx.size≤_;omega⟩,trivial,⟨z,by show h.pr.size≤_;omega⟩,trivial,⟨z,by show h.va.size≤_;omega⟩,trivial,⟨z,ze⟩,zed fun x hx=>by have:=o.vs x hx;omega,
  ⟨z,by show h.vo.size≤_;omega⟩,trivial,⟨ha,ze⟩,trivial,⟨o.rd,ze⟩,trivial,⟨z,ze⟩,zed fun x hx=>by obtain ⟨y,_,rfl⟩:=List.mem_map.1 hx;rw [jt];omega,trivial⟩
theorem zhT (m sz ln:Nat):zE 104 0 m sz ln=(decide (m=0)&&(decide (sz=32)&&decide (ln=0))):=by
 unfold zE yR yb yj;rw [Bool.eq_iff_iff];simp<;>omega
theorem zhU (m sz ln:Nat):zE 42 1 m sz ln=(decide (m=0)&&(decide (sz=0)&&decide (ln≤40))):=by
 unfold zE yR yb yj;rw [Bool.eq_iff_iff];simp<;>omega
theorem zhV (c:Nat)(q:ByteArray)(x:Nat×ByteArray)(l:Fe)(h0:by_ q 0=42)(h1:by_ q 1=c):jD q x l=(zE 42 1 x.1 x.2.size l.len&&jN c l):=by
 have e:kdB q=.cons c .nil .nil:=by unfold kdB;rw [if_pos h0,h1]
 unfold jD;rw [e,h0,h1];rfl
theorem vX {c z:Nat}(hf: ∀m sz ln,zE c 0 m sz ln=(decide (m=0)&&(decide (sz=z)&&decide (ln=0)))): ∀ {l:Fe},jN c l=true↔ ∃L:List ByteArray,l=lsF L∧ ∀x∈L,ByteArray.size x=z
 | .nil=>⟨fun _=>⟨[],rfl,fun _ h=>nomatch h⟩,fun _=>rfl⟩
 | .cons x l r=>by
  simp only [jN,hf,Bool.and_eq_true,decide_eq_true_eq];constructor
  ·rintro ⟨⟨h1,h2,h3⟩,h4⟩;obtain ⟨L,rfl,hL⟩:=(vX hf).1 h4;obtain rfl:=Fr.len_zero h3;obtain ⟨m,s⟩:=x;simp only at h1 h2;subst h1;exact ⟨s::L,rfl,fun y hy=>by rcases List.mem_cons.1 hy with rfl | hy;exact h2;exact hL y hy⟩
  ·rintro ⟨L,h1,h2⟩;cases L with
   | nil=>unfold lsF at h1;cases h1
   | cons a t=>
    unfold lsF at h1;injection h1 with e1 e2 e3
    subst e1 e2 e3;exact ⟨⟨rfl,h2 a (List.mem_cons_self ..),rfl⟩,(vX hf).2 ⟨t,rfl,fun y hy=>h2 y (List.mem_cons_of_mem _ hy)⟩⟩
theorem zhW (l:Fe):yB hK l=true↔ ∃(pa:ByteArray) (hh:Nat) (ro tx pr va:ByteArray) (L:List ByteArray) (vo:ByteArray) (a rd:Nat) (M:List ByteArray),l=hdL pa hh ro tx pr va L vo a rd M∧
 pa.size=32∧ro.size=32∧tx.size=32∧pr.size=20∧va.size≤64∧(∀x∈L,ByteArray.size x=20)∧L.length≤40∧vo.size≤64∧(∀x∈M,ByteArray.size x=65)∧M.length≤40:=by
 have s1:=fun x l=>qZ 104 ⟨#[104]⟩ x l rfl (by decide);have s2:=fun x l=>qZ 110 ⟨#[110]⟩ x l rfl (by decide);have s3:=fun x l=>qZ 97 ⟨#[97]⟩ x l rfl (by decide);have s4:=fun x l=>qZ 98 ⟨#[98]⟩ x l rfl (by decide);have s5:=fun x l=>zhV 97 ⟨#[42,97]⟩ x l rfl rfl;have s6:=fun x l=>zhV 115 ⟨#[42,115]⟩ x l rfl rfl;constructor
 ·intro h;have hl:=zdT h;unfold hK at h
  match l,h,hl with
  | .cons x1 l1 (.cons x2 l2 (.cons x3 l3 (.cons x4 l4 (.cons x5 l5 (.cons x6 l6 (.cons x7 l7 (.cons x8 l8 (.cons x9 l9 (.cons x10 l10 (.cons x11 l11 .nil)))))))))),h,_=>
   simp only [yB,s1,s2,s3,s4,s5,s6,vU,zar,zd6,zhT,zhU,Bool.and_eq_true,decide_eq_true_eq] at h;obtain ⟨⟨a1,a2,a3⟩,⟨b1,b2⟩,⟨c1,c2,c3⟩,⟨d1,d2,d3⟩,⟨e1,e2,e3⟩,⟨f1,f2,f3⟩,⟨⟨g1,g2,g3⟩,g4⟩,⟨h1,h2,h3⟩,⟨i1,i2⟩,⟨j1,j2⟩,⟨⟨k1,k2,k3⟩,k4⟩,_⟩:=h;obtain ⟨L,rfl,hL⟩:=(vX vU).1 g4;obtain ⟨M,rfl,hM⟩:=(vX zaq).1 k4;rw [zat] at g3 k3;obtain ⟨m1,t1⟩:=x1;obtain ⟨m2,t2⟩:=x2;obtain ⟨m3,t3⟩:=x3;obtain ⟨m4,t4⟩:=x4;obtain ⟨m5,t5⟩:=x5;obtain ⟨m6,t6⟩:=x6;obtain ⟨m7,t7⟩:=x7;obtain ⟨m8,t8⟩:=x8;obtain ⟨m9,t9⟩:=x9;obtain ⟨m10,t10⟩:=x10;obtain ⟨m11,t11⟩:=x11;obtain rfl:=Fr.len_zero a3;obtain rfl:=Fr.len_zero b2;obtain rfl:=Fr.len_zero c3;obtain rfl:=Fr.len_zero d3;obtain rfl:=Fr.len_zero e3;obtain rfl:=Fr.len_zero f3;obtain rfl:=Fr.len_zero h3;obtain rfl:=Fr.len_zero i2;obtain rfl:=Fr.len_zero j2;obtain rfl:=xg b1;obtain rfl:=xg i1;obtain rfl:=xg j1;obtain rfl:=xg g2;obtain rfl:=xg k2;simp only at a1 c1 d1 e1 f1 g1 h1 k1;subst a1 c1 d1 e1 f1 g1 h1 k1;exact ⟨t1,m2,t3,t4,t5,t6,L,t8,m9,m10,M,rfl,a2,c2,d2,e2,f2,hL,g3,h2,hM,k3⟩
 ·rintro ⟨pa,hh,ro,tx,pr,va,L,vo,a,rd,M,rfl,h1,h2,h3,h4,h5,h6,h7,h8,h9,h10⟩;unfold hK hdL;simp only [yB,s1,s2,s3,s4,s5,s6,vU,zar,zd6,zhT,zhU,(vX vU).2 ⟨L,rfl,h6⟩,(vX zaq).2 ⟨M,rfl,h9⟩,zat,h1,h2,h3,h4,h5,h7,h8,h10,Fr.len];rfl
def lsI:List ByteArray→Fo
 | []=>.nil
 | a::r=>.cons false a .nil (lsI r)
theorem zee {c:Nat}(h1:c≠110)(h2:yf c=false): ∀(L:List ByteArray) (i:Nat),qv (lsF L) 42 (.cons c .nil .nil) i=lsI L
 | [],_=>rfl
 | a::r,i=>by
  unfold lsF lsI;rw [zbU,zdS,zee h1 h2 r];unfold yK zX;rw [if_neg h1,h2];rfl
theorem zef: ∀L,(lsI L).cnt=L.length
 | []=>rfl
 | a::r=>by simp only [lsI,Fo.cnt,List.length_cons,zef r];omega
theorem zcl: ∀L,pureF (lsI L)=true
 | []=>rfl
 | a::r=>by
  show ((!mixed false a 0&&true)&&pureF (lsI r))=true;rw [zcl r];rfl
theorem zeg: ∀L,dpF (lsI L)=0
 | []=>rfl
 | a::r=>by
  show max 0 (dpF (lsI r))=0;rw [zeg r];rfl
theorem zcm {z:Nat} : ∀ {L:List ByteArray},(∀x∈L,ByteArray.size x≤z)→wtF (lsI L)≤L.length*(9+z)
 | [],_=>Nat.zero_le _
 | a::r,h=>by
  have h1:=h a (List.mem_cons_self ..);have h2:=zcm (L:=r) fun x hx=>h x (List.mem_cons_of_mem _ hx);simp only [lsI,wtF,List.length_cons,Nat.succ_mul];omega
def hdI (h:Hdr):Fo:=
 .cons false h.pa .nil (.cons false (zf (dg h.hh)) .nil (.cons false h.ro .nil (.cons false h.tx .nil (.cons false h.pr .nil (.cons false h.va .nil (.cons true emB (lsI h.vs) (.cons false h.vo .nil (.cons false (zf (dg (adN h.ad))) .nil (.cons false (zf (dg h.rd)) .nil (.cons true emB (lsI (h.ss.map sgB)) .nil))))))))))
theorem zhX (h:Hdr):qv (hdF h) 40 (kfL hK) 0=hdI h:=by
 unfold hdF hdL hdI;rw [yU _ _ _ 0 (by decide),yU _ _ _ 1 (by decide),yU _ _ _ 2 (by decide),yU _ _ _ 3 (by decide),yU _ _ _ 4 (by decide),yU _ _ _ 5 (by decide),yU _ _ _ 6 (by decide),yU _ _ _ 7 (by decide),yU _ _ _ 8 (by decide),yU _ _ _ 9 (by decide),yU _ _ _ 10 (by decide)];have e1:zX 42 (.cons 97 .nil .nil) (lsF h.vs)=lsI h.vs:=by
  unfold zX;rw [if_pos (show yf 42=true from rfl)];exact zee (by decide) rfl _ _
 have e2:zX 42 (.cons 115 .nil .nil) (lsF (h.ss.map sgB))=lsI (h.ss.map sgB):=by
  unfold zX;rw [if_pos (show yf 42=true from rfl)];exact zee (by decide) rfl _ _
 rw [←e1,←e2];rfl
theorem zhY {vo:ByteArray}{ad:Bool}(h:voteB vo ad=true):vo.size≤20:=by
 unfold voteB at h;split at h
 ·omega
 ·have:=of_decide_eq_true h;omega
theorem zhZ {h:Hdr}(r:rightH h=true):yB hK (hdF h)=true:=by
 have q:=ku.1 r;have hs:=q.st;unfold setM at hs;simp only [Bool.and_eq_true,decide_eq_true_eq] at hs;have h1:=q.va;have h2:=zhY q.vo;have h3:=q.sl;exact (zhW _).2 ⟨_,_,_,_,_,_,_,_,_,_,_,rfl,q.pa,q.ro,q.tx,q.pr,by omega,zhS hs.1,by omega,by omega,fun x hx=>by obtain ⟨y,_,rfl⟩:=List.mem_map.1 hx;exact jt _ _ _,by rw [List.length_map];omega⟩
theorem zh0 {h:Hdr}(r:rightH h=true):wtF (hdI h)≤2500:=by
 have q:=ku.1 r;have hs:=q.st;unfold setM at hs;simp only [Bool.and_eq_true,decide_eq_true_eq] at hs;have w1:=zcm (L:=h.vs) (z:=20) fun x hx=>Nat.le_of_eq (zhS hs.1 x hx);have w2:=zcm (L:=h.ss.map sgB) (z:=65) fun x hx=>by obtain ⟨y,_,rfl⟩:=List.mem_map.1 hx;exact Nat.le_of_eq (jt _ _ _)
 rw [List.length_map] at w2;have a1:=q.pa;have a2:=q.ro;have a3:=q.tx;have a4:=q.pr;have a5:=q.va;have a6:=zhY q.vo;have a7:=q.sl;have d1:=yZ h.hh;have d2:=yZ (adN h.ad);have d3:=yZ h.rd;have ez:emB.size=0:=rfl;simp only [hdI,wtF,qt];omega
theorem vY {h:Hdr}(r:rightH h=true):(wrV qq (hdF h)).2=0:=by
 have q:=ku.1 r;have hs:=q.st;unfold setM at hs;simp only [Bool.and_eq_true,decide_eq_true_eq] at hs;have a7:=q.sl;have hc:(hdF h).cnt≤1000:=by
  simp only [hdF,hdL,Fr.cnt,zeb,List.length_map];omega
 have hw:=zh0 r;have hci:(hdI h).cnt≤3999:=by
  simp only [hdI,Fo.cnt,zef,List.length_map];omega
 have hp:pureF (hdI h)=true:=by
  have p1:=zcl h.vs;have p2:=zcl (h.ss.map sgB);simp only [hdI,pureF,p1,p2,mixed];rfl
 have hd:dpF (hdI h)=1:=by
  simp only [hdI,dpF,zeg,dp1];rfl
 have h1:=xX (hdI h);have h2:=zae true emB (szF (hdI h));have ez:emB.size=0:=rfl;have hl:lf1 true emB (hdI h).len (lfF (hdI h)) 4000=some (3999-(hdI h).cnt):=by
  unfold lf1;rw [if_neg (by simp [mixed];rfl),kY,if_pos ⟨hp,hci⟩]
 rw [zan xM,if_pos ⟨zhZ r,hc⟩,zhX];unfold zJ;rw [hl];simp only [];rw [if_neg (by rw [hd];decide),if_neg (by omega)]
theorem AtF.row2 {α:Type}{S:Fl α}{w:World}{p:Option Addr}{n:Nat}{L:List α}(h:AtF S w p n L)(hn:0<n):∃b off C T fz,p=some ⟨b,off,none⟩∧w.heap[b]? =some (.cells C T fz)∧jk S C off L:=by
 rcases h.2 with rfl|h2
 ·have:=h.1;simp at this;omega
 ·exact h2
def vh (L:List ByteArray)(i:Nat):Option ByteArray:=if i=0 then none else L[i-1]?
theorem zh1 {L:List ByteArray}{i:Nat}{x:ByteArray}(h:L[i]? =some x):vh L (i+1)=some x:=by
 unfold vh;rw [if_neg (by omega),Nat.add_sub_cancel,h]
abbrev hdC (h:Hdr)(p:Option Addr)(n c:Nat)(q:Option Addr)(m k:Nat):Array Value:=#[.string h.pa,.int .u64 ((h.hh:Nat):Int),.string h.ro,.string h.tx,.string h.pr,.string h.va,.slice p n c,.string h.vo,.bool h.ad,.int .u64 ((h.rd:Nat):Int),.slice q m k]
abbrev hdV (h:Hdr)(p:Option Addr)(n c:Nat)(q:Option Addr)(m k:Nat):Value:=.agg (hdC h p n c q m k)
abbrev hdO (h:Hdr)(p:Option Addr)(n c:Nat)(q:Option Addr)(m k:Nat):Obj:=.cells (hdC h p n c q m k) 71 (0,0)
def xO (w:World)(h:Hdr)(p:Option Addr)(n:Nat)(q:Option Addr)(m:Nat):Prop:=AtF sS w p n h.vs∧AtF sgF w q m h.ss
theorem xO.call {w w':World}{h:Hdr}{p:Option Addr}{n:Nat}{q:Option Addr}{m:Nat}(a:xO w h p n q m)(hb:Below w.heap.size w w'):xO w' h p n q m:=⟨a.1.call hb,a.2.call hb⟩
abbrev sgC (x:Sg):Array Value:=(sgF.cs x).toArray
abbrev sgO (x:Sg):Obj:=.cells (sgC x) 26 (0,0)
structure zcn (h:Hdr):Prop where
 vo:h.vo.size≤1000000
 vl:h.vs.length≤1000
 ss: ∀x∈h.ss,sgOk x
 sl:h.ss.length≤1000
theorem yM.sm {h:Hdr}(o:yM h):zcn h:=⟨o.vo,o.vl,o.ss,o.sl⟩
end Go.Proofs.YtpghmdbjmigjlaaGreatDoor
namespace Go.Proofs.YtpghmdbjmigjlaaGreatDoor
open Go Go.ChangeShapes Go.WideShapes Go.ChangeAt Go.RowKit
set_option linter.unusedVariables false
set_option maxRecDepth 100000
theorem zeh:Tryz.prog.cellsOf 26=9:=kr
theorem zn8:Tryz.prog.cellsOf 3=1:=kr
theorem zh2:Tryz.prog.cellsOf 9=1:=kr
theorem zn9:Tryz.prog.cellsOf 22=1:=kr
section
variable {H:Type}{enc:TypeId×Value→H}{W:World}{sp:Nat→Bool}{held:Bool}
theorem zh3 (fuel:Nat)(cs:List Value)(x:DataW H×List MemPlace)(h:DataW.trod enc Tryz.prog W 0 sp held fuel 26 cs=some x):∃a:Sg,cs=sgF.cs a∧sgOk a:=by
 obtain ⟨y0,y1,y2,m,hx,hl,hy0,hy1,hy2⟩:=Go.Deep.trod_struct3 Tryz.underlying26 h;rw [zeh] at hl;obtain ⟨c0,c1,c2,c3,c4,c5,c6,c7,c8,rfl⟩:=zlq cs hl;rw [zlp] at hy0 hy1;rw [zn8] at hy2;obtain ⟨n,hn,a0,a1,a2,a3⟩:=zf8 (show DataW.trod enc Tryz.prog W 0 sp held m 24 [c0,c1,c2,c3]=some y0 from hy0);obtain ⟨k,hk,b0',b1,b2,b3⟩:=zf8 (show DataW.trod enc Tryz.prog W 0 sp held m 24 [c4,c5,c6,c7]=some y1 from hy1);obtain ⟨z,hz,_,_⟩:=DataW.trod_int Tryz.underlying3 (show DataW.trod enc Tryz.prog W 0 sp held m 3 [c8]=some y2 from hy2);have hz:c8=.int .i64 z:=by simpa using hz
 exact ⟨(n,k,z),by rw [a0,a1,a2,a3,b0',b1,b2,b3,hz];rfl,hn,hk⟩
end
end Go.Proofs.YtpghmdbjmigjlaaGreatDoor
namespace Go.Proofs.YtpghmdbjmigjlaaGreatDoor
open Go Go.RowKit
set_option linter.unusedVariables false
set_option maxRecDepth 4000
set_option maxRecDepth 4000
def zh4 {α:Type}(S:Fl α)(T:TypeId)(M:List α)(v:Value)(l:List (Nat×Obj)):Prop:=∃(b m k:Nat) (cur:Array Value),v=.slice (some ⟨b,0,none⟩) m k∧l=[(b,.cells cur T (0,0))]∧Rw S.K cur k m (zo S M)
set_option maxRecDepth 4000
set_option maxRecDepth 4000
set_option maxRecDepth 4000
set_option maxRecDepth 4000
section
variable {l:Bool}{s:ByteArray}{k:Fo}
end
end Go.Proofs.YtpghmdbjmigjlaaGreatDoor
namespace Go.Proofs.YtpghmdbjmigjlaaGreatDoor
open Go Go.RowKit
open D2 (Gh)
set_option linter.unusedVariables false
abbrev Yg (l:Bool)(s:ByteArray)(k:Fo)(y:Gh):X3:=⟨l,s,pG y,k.len,y.cap,k⟩
def zoa (l:Bool)(s:ByteArray)(k:Fo)(v:Value)(T:List (Nat×Obj)):Prop:=∃y:Gh,v=itV (Yg l s k y)∧ya T (pG y) k.len k
theorem yk.gh {p:Option Addr}{n c:Nat}{T Tk:List (Nat×Obj)}{M:List X3}(h:yk iS 44 p n c T M)(hA:AllIn Tk M)(hn:n≤100000):∃y:Gh,Value.slice p n c=.slice (pG y) (toFo M).len y.cap∧ya (T++Tk) (pG y) (toFo M).len (toFo M):=by
 have hl:=h.len;obtain ⟨y,hy,hr⟩:=zkn h;obtain ⟨q1,q2,q3⟩:p=pG y∧n=y.n∧c=y.cap:=by injection hy with a b c;exact ⟨a,b,c⟩
 refine ⟨y,?_,?_⟩
 ·rw [hy,zbC,←q2,hl]
 ·rcases hr with ⟨e1,e2,e3,e4,e5⟩|⟨b,cur,e1,e2,e3⟩
  ·rw [e1,e4,e5];exact ⟨rfl,Nat.zero_le _,.inl rfl⟩
  ·rw [e1,e2];have hn2:y.n=(toFo M).len:=by rw [zbC,←q2,hl]
   rw [←hn2];exact (show Rw 3 cur y.cap y.n (cells3 M) by rw [←zdU];exact e3).slIn (ty:=44) (fz:=(0,0)) (by simp) (zm6 hA fun e he=>List.mem_append_right _ he) (by omega)
end Go.Proofs.YtpghmdbjmigjlaaGreatDoor
namespace Go.Proofs.YtpghmdbjmigjlaaGreatDoor
open Go Go.RowKit
open D2 (Gh)
set_option linter.unusedVariables false
def eS:Fl Fel where
 K:=3
 cs x:=x.cs fS
 pos:=by decide
 len x:=x.cs_len
 one x:=x.cs_one
theorem zei: ∀L:List Fel,zo eS L=zN fS L
 | []=>rfl
 | x::r=>by
  show x.cs fS++zo eS r=_;rw [zei r];rfl
theorem yk.toE {p:Option Addr}{n c:Nat}{T:List (Nat×Obj)}{M:List Fel}(h:yk eS 91 p n c T M):RowE fS 91 p n c T M:=by
 rcases h with h|⟨b,cur,e1,e2,e3⟩
 ·exact .inl h
 ·exact .inr ⟨b,cur,e1,e2,by rw [←zei];exact e3⟩
end Go.Proofs.YtpghmdbjmigjlaaGreatDoor
namespace Go.Proofs.YtpghmdbjmigjlaaGreatDoor
open Go Go.RowKit
open D2 (Gh)
set_option linter.unusedVariables false
def fe0 (a:ByteArray):Fel:=⟨(0,a),none,0,0,.nil⟩
theorem zh5: ∀L:List ByteArray,yA (L.map fe0)=lsF L
 | []=>rfl
 | a::r=>by
  show Fr.cons (0,a) .nil (yA (r.map fe0))=_;rw [zh5 r];rfl
theorem zh6 {L:List ByteArray}(h: ∀x∈L,ByteArray.size x≤0x800000000000)(T:List (Nat×Obj)):AllE fS T (L.map fe0):=fun x hx=>by
 obtain ⟨a,ha,rfl⟩:=List.mem_map.1 hx;exact ⟨RIn.none _ _,(by decide:0<0x10000000000000000),h a ha⟩
theorem zau {α:Type}(A B C:List α):(C++(A++B)).Perm (A++(B++C)):=by
 rw [←List.append_assoc A B C];exact List.perm_append_comm
def hdE (h:Hdr)(q1:Option Addr)(n c1:Nat)(q2:Option Addr)(m c2:Nat):List Fel:=
 [fe0 h.pa,⟨(h.hh,em),none,0,0,.nil⟩,fe0 h.ro,fe0 h.tx,fe0 h.pr,fe0 h.va,⟨(0,em),q1,n,c1,lsF h.vs⟩,fe0 h.vo,⟨(adN h.ad,em),none,0,0,.nil⟩,⟨(h.rd,em),none,0,0,.nil⟩,⟨(0,em),q2,m,c2,lsF (h.ss.map sgB)⟩]
theorem zob {T:List (Nat×Obj)}{h:Hdr}{q1:Option Addr}{n c1:Nat}{q2:Option Addr}{m c2:Nat}(o:yM h)(h1:RIn fS T q1 n (lsF h.vs))(h2:RIn fS T q2 m (lsF (h.ss.map sgB))):AllE fS T (hdE h q1 n c1 q2 m c2):=fun x hx=>by
 have z:(0:Nat)<0x10000000000000000:=by decide
 have ze:em.size≤0x800000000000:=Nat.zero_le _;have ha:adN h.ad<0x10000000000000000:=by unfold adN;split<;>decide
 have k1:=o.pa;have k2:=o.ro;have k3:=o.tx;have k4:=o.pr;have k5:=o.va;have k6:=o.vo;unfold hdE at hx;simp only [List.mem_cons,List.not_mem_nil,or_false] at hx;rcases hx with rfl | rfl | rfl | rfl | rfl | rfl | rfl | rfl | rfl | rfl | rfl
 ·exact ⟨RIn.none _ _,z,by show h.pa.size≤_;omega⟩
 ·exact ⟨RIn.none _ _,o.hh,ze⟩
 ·exact ⟨RIn.none _ _,z,by show h.ro.size≤_;omega⟩
 ·exact ⟨RIn.none _ _,z,by show h.tx.size≤_;omega⟩
 ·exact ⟨RIn.none _ _,z,by show h.pr.size≤_;omega⟩
 ·exact ⟨RIn.none _ _,z,by show h.va.size≤_;omega⟩
 ·exact ⟨h1,z,ze⟩
 ·exact ⟨RIn.none _ _,z,by show h.vo.size≤_;omega⟩
 ·exact ⟨RIn.none _ _,ha,ze⟩
 ·exact ⟨RIn.none _ _,o.rd,ze⟩
 ·exact ⟨h2,z,ze⟩
end Go.Proofs.YtpghmdbjmigjlaaGreatDoor
namespace Go.Proofs.YtpghmdbjmigjlaaGreatDoor
open Go Go.RowKit
set_option linter.unusedVariables false
def rc (b:Nat):Nat:=if 192≤b then b-64 else b
section
variable {t:ByteArray}{a b j:Nat}{p:Option Addr}{n c:Nat}{row:List (Nat×Obj)}{M:List X3}{T:List (Nat×Obj)}
end
section
variable {P:Program}{N:Nat}{ops:Array Oper}{K:Env→World→Prop}{ρ:Env}{w w0:World}{i B:Nat}{r:List Nat}{l:List (Nat×Obj)}
end
end Go.Proofs.YtpghmdbjmigjlaaGreatDoor
namespace Go.Proofs.YtpghmdbjmigjlaaGreatDoor
open Go Go.RowKit
open D2 (Gh)
set_option linter.unusedVariables false
section
variable {P:Program}{N:Nat}{ops:Array Oper}{i:Nat}{r:List Nat}{K:Env→World→Prop}{ρ:Env}{w w0:World}{B:Nat}{l:List (Nat×Obj)}
end
end Go.Proofs.YtpghmdbjmigjlaaGreatDoor
namespace Go.Proofs.YtpghmdbjmigjlaaGreatDoor
open Go Go.RowKit
open D2 (Gh)
set_option linter.unusedVariables false
def hd0:Hdr:=⟨em,0,em,em,em,em,[],em,false,0,[]⟩
def vi (S:ByteArray)(v:Value)(T:List (Nat×Obj)):Prop:=
 (∃(h:Hdr) (p:Option Addr) (n c:Nat) (q:Option Addr) (m k:Nat) (T1 T2:List (Nat×Obj)),v=.tuple #[hdV h p n c q m k,.int .i64 0]∧rightH h=true∧yM h∧yk sS 9 p n c T1 h.vs∧yk sgF 26 q m k T2 h.ss∧T=T1++T2∧wrV qq (hdF h)=(S,0))∨
 (v=.tuple #[hdV hd0 none 0 0 none 0 0,.int .i64 4]∧T=[]∧ ∀h:Hdr,rightH h=true→yM h→wrV qq (hdF h)≠(S,0))
def jb (t:ByteArray):Sg:=if zO (sgR t) (sgS t) (sgV t)=true then (sgR t,sgS t,sgV t) else (0,0,0)
theorem zoc {t:ByteArray}(h:t.size=65):∃e:Int,zap t=.tuple #[.agg (sgC (jb t)),.int .i64 e]:=by
 rw [zhG];unfold jb;by_cases hm:zO (sgR t) (sgS t) (sgV t)=true
 ·rw [if_pos ⟨h,hm⟩,if_pos hm];exact ⟨0,rfl⟩
 ·rw [if_neg (fun h9=>hm h9.2),if_neg hm];exact ⟨4,rfl⟩
theorem zod {t:ByteArray}(h:t.size=65):sgOk (jb t):=by
 unfold jb;split
 ·exact ⟨zd4 h,zd5 h⟩
 ·exact ⟨by decide,by decide⟩
theorem zoe {x:Sg}(o:sgOk x)(m:sgMay x=true):jb (sgB x)=x:=by
 obtain ⟨r,s,v⟩:=x;unfold jb;rw [zcf o.1,zcg o.2,zch m,if_pos m]
theorem zh7: ∀ {L:List Sg},(∀x∈L,sgOk x)→L.all sgMay=true→(L.map sgB).map jb=L
 | [],_,_=>rfl
 | x::r,o,m=>by
  simp only [List.all_cons,Bool.and_eq_true] at m;rw [List.map_cons,List.map_cons,zoe (o x (List.mem_cons_self ..)) m.1,zh7 (fun y hy=>o y (List.mem_cons_of_mem _ hy)) m.2]
def hdX (pa:ByteArray)(hn:Nat)(ro tx pr va vo:ByteArray)(a rd:Nat)(L M:List ByteArray):Hdr:=⟨pa,hn,ro,tx,pr,va,L,vo,decide (0<a),rd,M.map jb⟩
theorem zog {h:Hdr}(o:yM h)(r:rightH h=true):hdX h.pa h.hh h.ro h.tx h.pr h.va h.vo (adN h.ad) h.rd h.vs (h.ss.map sgB)=h:=by
 refine zhP rfl rfl rfl rfl rfl rfl rfl rfl ?_ rfl (zh7 o.ss (ku.1 r).ss);show decide (0<adN h.ad)=h.ad;cases h.ad<;>rfl
theorem zej {B:Nat}{w:World}{p:Option Addr}{n:Nat}{l:Fe}(h:SlR fS B w p n l)(h0:l≠.nil):∃b off C T fz,p=some ⟨b,off,none⟩∧w.heap[b]? =some (.cells C T fz)∧
 ∀(i:Nat) (a:Nat×ByteArray) (k:Fe),l.at i=some (a,k)→C[off+i*3+0]? =some (.int .u64 ((a.1:Nat):Int))∧C[off+i*3+1]? =some (.string a.2)∧∃p' n' c',C[off+i*3+2]? =some (.slice p' n' c')∧SlR fS B w p' n' k∧off+i*3+3≤C.size∧C.extract (off+i*3) (off+i*3+3)=#[.int .u64 ((a.1:Nat):Int),.string a.2,.slice p' n' c']:=by
 obtain ⟨h1,h2,rfl|⟨b,off,e,hF⟩⟩:=h
 ·exact absurd rfl h0
 ·cases l with
  | nil=>exact absurd rfl h0
  | cons a0 k0 r0=>
   obtain ⟨⟨C,T,fz,_,_,_,_,hh,_⟩,_⟩:=id hF;refine ⟨b,off,C,T,fz,e,hh,fun i a k hk=>?_⟩;obtain ⟨C',T',fz',p',n',c',hb,hh',hs,hx,hok,hn',hm',hs'⟩:=qE.at hF hk;rw [hh] at hh';injection hh' with hh';injection hh' with hC _ _;subst hC;have hs:off+i*3+3≤C.size:=hs;have key: ∀j,j<3→C[off+i*3+j]? =([Value.int .u64 ((a.1:Nat):Int),.string a.2,.slice p' n' c']:List Value)[j]? :=fun j hj=>by
    have:(C.extract (off+i*3) (off+i*3+3))[j]? =C[off+i*3+j]? :=by rw [Array.getElem?_extract,if_pos (by omega)]
    rw [←this];have hx2:C.extract (off+i*3) (off+i*3+3)=([Value.int .u64 ((a.1:Nat):Int),.string a.2,.slice p' n' c']:List Value).toArray:=hx;rw [hx2];simp
   exact ⟨key 0 (by decide),key 1 (by decide),p',n',c',key 2 (by decide),⟨hn',hm',hs'⟩,hs,hx⟩
theorem zek: ∀ {L:List ByteArray} {i:Nat} {x:ByteArray},L[i]? =some x→(lsF L).at i=some ((0,x),.nil)
 | a::r,0,x,h=>by simp at h;subst h;rfl
 | a::r,i+1,x,h=>zek (L:=r) (by simpa using h)
theorem zh8 {L:List ByteArray}(h:0<L.length):lsF L≠.nil:=by cases L with | nil=>simp at h | cons a r=>intro e;unfold lsF at e;cases e
end Go.Proofs.YtpghmdbjmigjlaaGreatDoor
namespace Go.Proofs.YtpghmdbjmigjlaaGreatDoor
open Go Go.RowKit
set_option linter.unusedVariables false
set_option maxRecDepth 4000
end Go.Proofs.YtpghmdbjmigjlaaGreatDoor
namespace Go.Proofs.YtpghmdbjmigjlaaGreatDoor
open Go Go.ChangeShapes Go.WideShapes Go.ChangeAt Go.RowKit
set_option linter.unusedVariables false
set_option maxRecDepth 100000
section
variable {H:Type}{enc:TypeId×Value→H}{W:World}{sp:Nat→Bool}{held:Bool}
end
end Go.Proofs.YtpghmdbjmigjlaaGreatDoor
