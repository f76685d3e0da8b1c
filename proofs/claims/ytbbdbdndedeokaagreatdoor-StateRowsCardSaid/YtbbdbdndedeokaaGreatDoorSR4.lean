/-
  Texts of the proof,part 4.
-/
import Derived.Test.YtbbdbdndedeokaaGreatDoorProg
import Derived.ChangeKeysEq
import Derived.Laws.StructEq
import Derived.Laws.Externs
import Derived.Test.YtbbdbdndedeokaaGreatDoorSR2
import Derived.Test.YtbbdbdndedeokaaGreatDoorSR3
set_option maxRecDepth 100000
set_option maxHeartbeats 4000000
namespace Go.Proofs.YtbbdbdndedeokaaGreatDoor
open Go Go.RowKit
set_option linter.unusedVariables false
theorem zfd {s t:ByteArray}{i:Nat}(h1:i<s.size)(h2:i<t.size)(h:by_ s i=by_ t i):shr ((tl s).drop i) ((tl t).drop i)=1+shr ((tl s).drop (i+1)) ((tl t).drop (i+1)):=by
 rw [ze2 _ _ _ (by rw [zy];omega) (by rw [zy];omega),if_pos (UInt8.toNat_inj.1 h)]
theorem zfe {s t:ByteArray}{i:Nat}(h1:i<s.size)(h2:i<t.size)(h: ¬by_ s i=by_ t i):shr ((tl s).drop i) ((tl t).drop i)=0:=by
 rw [ze2 _ _ _ (by rw [zy];omega) (by rw [zy];omega),if_neg fun e=>h (congrArg UInt8.toNat e)]
theorem zay {s t:ByteArray}{i:Nat}(h:s.size≤i∨t.size≤i):shr ((tl s).drop i) ((tl t).drop i)=0:=
 zkg (by rw [List.length_drop,List.length_drop,zy,zy];omega)
theorem zkw (s t:ByteArray)(hs:ByteArray.size s≤0xe8d4a51000)(ht:ByteArray.size t≤0xe8d4a51000):Fn Tryz.prog 119 #[.string s,.string t] (.int .i64 ((shr (tl s) (tl t):Nat):Int)):=by
 refine Fn.intro (c:=zl Tryz.f119) [.tmp 4] 26 Tryz.func119 kr kr kr fun w=>?_;have H0:=St.start w;refine rS [.v] H0 kr fun gs1 w1 H1=>?_;clear H0;refine rS [.v,.v,.v,.v,.E (.int .i64 (if ((ByteArray.size t:Int):Int)<((ByteArray.size s:Int):Int) then ((ByteArray.size t:Int):Int) else ((ByteArray.size s:Int):Int))) (.int .i64 ((min (ByteArray.size s) (ByteArray.size t):Nat):Int)) (ze (zio (ByteArray.size s) (ByteArray.size t))),.v] H1 kr fun gs2 w2 H2=>?_;clear H1;refine zc kr<|rS [.v,.v] H2 kr fun gs3 w3 H3=>?_;clear H2;refine zj 0 kr ?_;have HL1:St w.heap.size w w3 []:=H3.as kr;clear H3;refine zz kr (fun mz ρ ww=> ∃(i:Nat),min (ByteArray.size s) (ByteArray.size t)-i=mz∧(i≤ByteArray.size s∧i≤ByteArray.size t)∧(shr (tl s) (tl t)=i+shr ((tl s).drop i) ((tl t).drop i))∧St w.heap.size w ww []∧Is [(0,.string s),(1,.string t),(5,.int .i64 ((min (ByteArray.size s) (ByteArray.size t):Nat):Int)),(12,.int .i64 ((min (ByteArray.size s) (ByteArray.size t):Nat):Int)),(13,.int .i64 (i:Int))] ρ) (min (ByteArray.size s) (ByteArray.size t)-0) ⟨0,rfl,(by omega),(by rw [List.drop_zero,List.drop_zero];omega),HL1,(Is.of ⟨kr,kr,kr,kr,kr,trivial⟩)⟩ ?_;clear HL1;rintro _ _ w4 ⟨i,rfl,hi,hq,H4,_,rfl⟩;by_cases hc2:(i:Nat)<min (ByteArray.size s) (ByteArray.size t)
 ·refine rS [.E (.bool (decide ((i:Int)<((min (ByteArray.size s) (ByteArray.size t):Nat):Int)))) (.bool true) (za (decide_eq_true (by omega)))] H4 kr fun gs5 w5 H5=>?_;clear H4;refine zc kr<|zg kr kr<|zh kr<|wW<|zc kr<|zj 1 kr<|rS [.v,.v] H5 kr fun gs6 w6 H6=>?_;clear H5;by_cases hx3:(by_ s i:Nat)≠by_ t i
  ·refine dS [.v,.v,.o (ins:=[((.tmp 16),.string s),((.tmp 17),.int .i64 (i:Int))]) (v:=.int .u8 ((by_ s i:Nat):Int)) (fun ρ o w ho hi=>zQ (t:=9) (kd:=.i64) kr (x:=(.tmp 16)) (y:=(.tmp 17)) s i ho hi.1 hi.2.1 (by omega) w),.v,.v,.o (ins:=[((.tmp 19),.string t),((.tmp 20),.int .i64 (i:Int))]) (v:=.int .u8 ((by_ t i:Nat):Int)) (fun ρ o w ho hi=>zQ (t:=9) (kd:=.i64) kr (x:=(.tmp 19)) (y:=(.tmp 20)) t i ho hi.1 hi.2.1 (by omega) w),.E (.bool (!(((by_ s i:Nat):Int)==((by_ t i:Nat):Int)))) (.bool true) (za (by rw [beq_eq_false_iff_ne.2 (by omega)];rfl))] H6 kr fun w7 H7=>?_;clear H6;refine zJ [0,1,5,6,12,13,14,22] fun ρ1=>?_;have HK4:=H7.keep;clear H7;refine zg kr kr<|rS [.v,.v] HK4 kr fun gs8 w8 H8=>?_;clear HK4;refine zn kr<|wV ?_;refine ⟨[.int .i64 (i:Int)],(.tmp (.int .i64 (i:Int)) kr .nil),?_,H8.below⟩;refine ze ?_;rw [hq,zfe (by omega) (by omega) (by omega)];rfl
  ·refine dS [.v,.v,.o (ins:=[((.tmp 16),.string s),((.tmp 17),.int .i64 (i:Int))]) (v:=.int .u8 ((by_ s i:Nat):Int)) (fun ρ o w ho hi=>zQ (t:=9) (kd:=.i64) kr (x:=(.tmp 16)) (y:=(.tmp 17)) s i ho hi.1 hi.2.1 (by omega) w),.v,.v,.o (ins:=[((.tmp 19),.string t),((.tmp 20),.int .i64 (i:Int))]) (v:=.int .u8 ((by_ t i:Nat):Int)) (fun ρ o w ho hi=>zQ (t:=9) (kd:=.i64) kr (x:=(.tmp 19)) (y:=(.tmp 20)) t i ho hi.1 hi.2.1 (by omega) w),.E (.bool (!(((by_ s i:Nat):Int)==((by_ t i:Nat):Int)))) (.bool false) (za (by rw [beq_iff_eq.2 (by omega)];rfl))] H6 kr fun w9 H9=>?_;clear H6;refine zJ [0,1,5,6,12,13,14,22] fun ρ2=>?_;have HK5:=H9.keep;clear H9;refine zf kr kr<|zh kr<|wW<|rL [.E (.int .i64 (IntKind.i64.wrap ((i:Int)+1))) (.int .i64 ((i+1:Nat):Int)) (ze (zm (a:=i) (b:=1) (by omega))),.v] HK5 kr fun gs10 w10 H10=>?_;clear HK5;have HL6:St w.heap.size w w10 []:=H10.as kr;clear H10;show ∃m,_∧_;exact ⟨_,(by omega),(i+1),rfl,(by omega),(by rw [hq,zfd (by omega) (by omega) (by omega)];omega),HL6,(Is.of ⟨kr,kr,kr,kr,kr,trivial⟩)⟩
 ·refine rS [.E (.bool (decide ((i:Int)<((min (ByteArray.size s) (ByteArray.size t):Nat):Int)))) (.bool false) (za (decide_eq_false (by omega)))] H4 kr fun gs11 w11 H11=>?_;clear H4;refine zc kr<|zf kr kr<|zw 0 kr<|wW<|rS [.v,.v] H11 kr fun gs12 w12 H12=>?_;clear H11;refine zn kr<|wV ?_;refine ⟨[.int .i64 ((min (ByteArray.size s) (ByteArray.size t):Nat):Int)],(.tmp (.int .i64 ((min (ByteArray.size s) (ByteArray.size t):Nat):Int)) kr .nil),?_,H12.below⟩;refine ze ?_;rw [hq,zay (by omega)];omega
theorem zkx (s t:ByteArray)(hs:ByteArray.size s≤0xe8d4a51000)(ht:ByteArray.size t≤0xe8d4a51000):Fn Tryz.prog 114 #[.string s,.string t] (.int .i64 ((shr (tl s) (tl t):Nat):Int)):=by
 refine Fn.intro (c:=zl Tryz.f114) [.tmp 4] 28 Tryz.func114 kr kr kr fun w=>?_;have H0:=St.start w;refine rS [.v] H0 kr fun gs1 w1 H1=>?_;clear H0;refine zc kr<|rS [.v] H1 kr fun gs2 w2 H2=>?_;clear H1;refine zj 0 kr ?_;have HL1:St w.heap.size w w2 []:=H2.as kr;clear H2;refine zz kr (fun mz ρ ww=> ∃(i:Nat),ByteArray.size s-i=mz∧(i≤ByteArray.size s∧i≤ByteArray.size t)∧(shr (tl s) (tl t)=i+shr ((tl s).drop i) ((tl t).drop i))∧St w.heap.size w ww []∧Is [(0,.string s),(1,.string t),(5,.int .i64 (i:Int))] ρ) (ByteArray.size s-0) ⟨0,rfl,(by omega),(by rw [List.drop_zero,List.drop_zero];omega),HL1,(Is.of ⟨kr,kr,kr,trivial⟩)⟩ ?_;clear HL1;rintro _ _ w3 ⟨i,rfl,hi,hq,H3,_,rfl⟩;refine zc kr<|zi [0,1,2,3] kr kr<|rp [.v,.v,.v] H3 kr fun gs4 w4 H4=>wX [3] ?_;clear H3;by_cases hc2:(i:Nat)<ByteArray.size s
 ·refine rp [.E (.bool (decide ((i:Int)<(ByteArray.size s:Int)))) (.bool true) (za (decide_eq_true (by omega)))] H4 kr fun gs5 w5 H5=>wX [] ?_;clear H4;refine zd<|zg kr kr<|zh kr<|wW<|zc kr<|zj 1 kr ?_;by_cases hx3:(i:Nat)≥ByteArray.size t
  ·skip;by_cases hx4:(by_ s i:Nat)≠by_ t i
   ·refine dS [.v,.v,.v,.E (.bool (decide ((ByteArray.size t:Int)≤(i:Int)))) (.bool true) (za (decide_eq_true (by omega))),.v,.n,.n,.n,.n,.n,.n,.n,.v] H5 kr fun w6 H6=>?_;clear H5;refine zJ [0,1,5,9,24] fun ρ1=>?_;have HK5:=H6.keep;clear H6;refine zg kr kr<|rS [.v,.v] HK5 kr fun gs7 w7 H7=>?_;clear HK5;refine zn kr<|wV ?_;refine ⟨[.int .i64 (i:Int)],(.tmp (.int .i64 (i:Int)) kr .nil),?_,H7.below⟩;refine ze ?_;rw [hq,zay (by omega)];rfl
   ·refine dS [.v,.v,.v,.E (.bool (decide ((ByteArray.size t:Int)≤(i:Int)))) (.bool true) (za (decide_eq_true (by omega))),.v,.n,.n,.n,.n,.n,.n,.n,.v] H5 kr fun w8 H8=>?_;clear H5;refine zJ [0,1,5,9,24] fun ρ2=>?_;have HK6:=H8.keep;clear H8;refine zg kr kr<|rS [.v,.v] HK6 kr fun gs9 w9 H9=>?_;clear HK6;refine zn kr<|wV ?_;refine ⟨[.int .i64 (i:Int)],(.tmp (.int .i64 (i:Int)) kr .nil),?_,H9.below⟩;refine ze ?_;rw [hq,zay (by omega)];rfl
  ·skip;by_cases hx7:(by_ s i:Nat)≠by_ t i
   ·refine dS [.v,.v,.v,.E (.bool (decide ((ByteArray.size t:Int)≤(i:Int)))) (.bool false) (za (decide_eq_false (by omega))),.v,.v,.v,.o (ins:=[((.tmp 17),.string s),((.tmp 18),.int .i64 (i:Int))]) (v:=.int .u8 ((by_ s i:Nat):Int)) (fun ρ o w ho hi=>zQ (t:=9) (kd:=.i64) kr (x:=(.tmp 17)) (y:=(.tmp 18)) s i ho hi.1 hi.2.1 (by omega) w),.v,.v,.o (ins:=[((.tmp 20),.string t),((.tmp 21),.int .i64 (i:Int))]) (v:=.int .u8 ((by_ t i:Nat):Int)) (fun ρ o w ho hi=>zQ (t:=9) (kd:=.i64) kr (x:=(.tmp 20)) (y:=(.tmp 21)) t i ho hi.1 hi.2.1 (by omega) w),.E (.bool (!(((by_ s i:Nat):Int)==((by_ t i:Nat):Int)))) (.bool true) (za (by rw [beq_eq_false_iff_ne.2 (by omega)];rfl)),.v] H5 kr fun w10 H10=>?_;clear H5;refine zJ [0,1,5,9,24] fun ρ3=>?_;have HK8:=H10.keep;clear H10;refine zg kr kr<|rS [.v,.v] HK8 kr fun gs11 w11 H11=>?_;clear HK8;refine zn kr<|wV ?_;refine ⟨[.int .i64 (i:Int)],(.tmp (.int .i64 (i:Int)) kr .nil),?_,H11.below⟩;refine ze ?_;rw [hq,zfe (by omega) (by omega) (by omega)];rfl
   ·refine dS [.v,.v,.v,.E (.bool (decide ((ByteArray.size t:Int)≤(i:Int)))) (.bool false) (za (decide_eq_false (by omega))),.v,.v,.v,.o (ins:=[((.tmp 17),.string s),((.tmp 18),.int .i64 (i:Int))]) (v:=.int .u8 ((by_ s i:Nat):Int)) (fun ρ o w ho hi=>zQ (t:=9) (kd:=.i64) kr (x:=(.tmp 17)) (y:=(.tmp 18)) s i ho hi.1 hi.2.1 (by omega) w),.v,.v,.o (ins:=[((.tmp 20),.string t),((.tmp 21),.int .i64 (i:Int))]) (v:=.int .u8 ((by_ t i:Nat):Int)) (fun ρ o w ho hi=>zQ (t:=9) (kd:=.i64) kr (x:=(.tmp 20)) (y:=(.tmp 21)) t i ho hi.1 hi.2.1 (by omega) w),.E (.bool (!(((by_ s i:Nat):Int)==((by_ t i:Nat):Int)))) (.bool false) (za (by rw [beq_iff_eq.2 (by omega)];rfl)),.v] H5 kr fun w12 H12=>?_;clear H5;refine zJ [0,1,5,9,24] fun ρ4=>?_;have HK9:=H12.keep;clear H12;refine zf kr kr<|zh kr<|wW<|rL [.v,.E (.int .i64 (IntKind.i64.wrap ((i:Int)+1))) (.int .i64 ((i+1:Nat):Int)) (ze (zm (a:=i) (b:=1) (by omega))),.v] HK9 kr fun gs13 w13 H13=>?_;clear HK9;have HL10:St w.heap.size w w13 []:=H13.as kr;clear H13;show ∃m,_∧_;exact ⟨_,(by omega),(i+1),rfl,(by omega),(by rw [hq,zfd (by omega) (by omega) (by omega)];omega),HL10,(Is.of ⟨kr,kr,kr,trivial⟩)⟩
 ·refine rp [.E (.bool (decide ((i:Int)<(ByteArray.size s:Int)))) (.bool false) (za (decide_eq_false (by omega)))] H4 kr fun gs14 w14 H14=>wX [] ?_;clear H4;refine zd<|zf kr kr<|zw 0 kr<|wW<|rS [.v,.v,.v] H14 kr fun gs15 w15 H15=>?_;clear H14;refine zn kr<|wV ?_;refine ⟨[.int .i64 (ByteArray.size s:Int)],(.tmp (.int .i64 (ByteArray.size s:Int)) kr .nil),?_,H15.below⟩;refine ze ?_;rw [hq,zay (by omega)];omega
theorem yb {P:Program}{ρ:Env}{t e:TypeId}{K bytes:Nat}(ht:ye P t=some (e,K,bytes)){x y:Operand}{o:Oper}{kd:IntKind}{p:Option Addr}(b q n c k:Nat)(hp:p=some ⟨b,q,none⟩)(ho:o.op=.indexAddr t x y)(hx:ev ρ x=.slice p n c)(hy:ev ρ y=.int kd (k:Int))(hk:k<n):
 ∀w,(execOp (ev ρ) o).run P w=.ok (.value (.pointer (some ⟨b,q+k*K,none⟩))) w:=by
 subst hp;exact jL ht b q n c k ho hx hy hk
def pS:Fl (ByteArray×ByteArray) where
 K:=2
 cs x:=[.string x.1,.string x.2]
 pos:=by decide
 len _:=rfl
 one _:=qX rfl
theorem zff:Fn Tryz.prog 118 #[] (.agg (yG qu).toArray):=by
 refine Fn.intro (c:=zl Tryz.f118) [.cell 0 116] 10 Tryz.func118 kr kr kr fun w=>?_;have H0:=St.start w;refine rS [.a] H0 kr fun gs1 w1 H1=>rS [.a] H1 kr fun gs2 w2 H2=>zc kr<|rS [.v] H2 kr fun gs3 w3 H3=>zj 0 kr ?_;have H4:St w.heap.size w w3 [((gs1 0).b,.cells (zP 16 fun _=>.int .i64 0).toArray 116 (0,0)),((gs2 0).b,.cells (zP 16 fun _=>.int .i64 0).toArray 116 (0,0))]:=H3.as kr;clear H0 H1 H2 H3;refine zz kr (fun mz ρ ww=> ∃(i:Nat),16-i=mz∧i≤16∧St w.heap.size w ww [((gs1 0).b,.cells (zP 16 fun _=>.int .i64 0).toArray 116 (0,0)),((gs2 0).b,.cells (zP 16 fun j=>.int .i64 (if j<i then-1 else 0)).toArray 116 (0,0))]∧Is [(0,.pointer (some ⟨(gs1 0).b,0,none⟩)),(1,.pointer (some ⟨(gs2 0).b,0,none⟩)),(3,.int .i64 (i:Int))] ρ) (16-0) ⟨0,rfl,Nat.zero_le _,H4,(Is.of ⟨kr,kr,kr,trivial⟩)⟩ ?_;clear H4;rintro _ _ w4 ⟨i,rfl,hi16,H5,_,rfl⟩;by_cases hi:i<16
 ·refine rS [.E (.bool (decide ((i:Int)<16))) (.bool true) (za (decide_eq_true (by omega)))] H5 kr fun gs4 w5 H6=>zc kr<|zg kr kr<|zh kr<|wW<|zc kr<|zj 1 kr<|rS [.v,.v] H6 kr fun gs5 w6 H7=>?_
  refine rL [.v,.o (ins:=[((.tmp 1),.pointer (some ⟨(gs2 0).b,0,none⟩)),((.tmp 6),.int .i64 (i:Int))]) (v:=.pointer (some ⟨(gs2 0).b,0+i*1,none⟩)) (fun ρ o w ho hi2=>yS (t:=116) (n:=16) (size:=1) (kd:=.i64) kr (x:=(.tmp 1)) (y:=(.tmp 6)) (gs2 0).b 0 i ho hi2.1 hi2.2.1 hi w),
   .se 1 (C:=(zP 16 fun j=>.int .i64 (if j<i then-1 else 0)).toArray) (C':=(zP 16 fun j=>.int .i64 (if j<i+1 then-1 else 0)).toArray) (off:=0+i*1) (v:=.int .i64 (-1)) (by show 0+i*1+1≤_;rw [List.size_toArray,xt];omega) (by
    have:=vX (C:=(zP 16 fun j=>Value.int .i64 (if j<i then-1 else 0)).toArray) (pre:=[]) (post:=[]) (n:=16) (f:=fun j=>.int .i64 (if j<i then-1 else 0)) (g:=fun j=>.int .i64 (if j<i+1 then-1 else 0)) (by simp) (off:=0+i*1) (k:=i) (v:=.int .i64 (-1)) rfl (by simp) hi (fun j _=>by
     by_cases h1:j=i
     ·subst h1;simp
     ·rw [if_neg h1];by_cases h2:j<i
      ·rw [if_pos h2,if_pos (by omega)]
      ·rw [if_neg h2,if_neg (by omega)])
    simpa using this)] H7 kr fun gs6 w7 H8=>?_
  refine wW<|rL [.E (.int .i64 (IntKind.i64.wrap ((i:Int)+1))) (.int .i64 ((i+1:Nat):Int)) (ze (zm (a:=i) (b:=1) (by omega))),.v] H8 kr fun gs7 w8 H9=>?_;show ∃m,_∧_;exact ⟨_,(by omega),i+1,rfl,hi,H9.as kr,(Is.of ⟨kr,kr,kr,trivial⟩)⟩
 ·obtain rfl:i=16:=by omega
  refine rS [.v] H5 kr fun gs4 w5 H6=>zc kr<|zf kr kr<|zw 0 kr<|wW<|rS [.l 1,.s 0] H6 kr fun gs5 w6 H7=>?_;exact rR [.cell 0 116] [0] (.agg (yG qu).toArray) H7 kr
theorem zfg (br off n cap:Nat)(C:Array Value)(T:TypeId)(fz:Nat×Nat)(E:List (ByteArray×ByteArray))(e z:ByteArray×ByteArray)(hR:yq pS C off E)(hn:E.length=n)(hn9:n≤1000000000)(he:E[0]? =some e)(hz:E[n-1]? =some z)(h1:e.1.size≤0xe8d4a51000)(h2:z.1.size≤0xe8d4a51000):
 FnP Tryz.prog 88 #[.slice (some ⟨br,off,none⟩) n cap] (fun w=>w.heap[br]? =some (.cells C T fz)) (.int .i64 ((shr (tl e.1) (tl z.1):Nat):Int)):=by
 refine FnP.intro (c:=zl Tryz.f88) [.tmp 2] 15 Tryz.func88 kr kr kr fun w hh=>?_;have hpos:0<n:=by have:=(List.getElem?_eq_some_iff.1 he).1;omega
 have c1:C[off+0*2]? =some (.string e.1):=hR.cell he 0 (by decide);have c2:C[off+(n-1)*2]? =some (.string z.1):=hR.cell hz 0 (by decide);refine rS [.v] (St.start w) kr fun gs1 w1 H1=>?_
 refine dS [.v,.o (ins:=[((.tmp 3),.slice (some ⟨br,off,none⟩) n cap),((.const (.int .i64 0)),.int .i64 0)]) (v:=.pointer (some ⟨br,off+0*2,none⟩)) (fun ρ o w ho hi2=>yb (kd:=.i64) (t:=88) (e:=90) (K:=2) (bytes:=32) kr (x:=(.tmp 3)) (y:=(.const (.int .i64 0))) br off n cap 0 rfl ho hi2.1 hi2.2.1 hpos w),.v,.fs (off:=off+0*2) (v:=.string e.1) hh (zC hh) c1,
  .v,.v,.v,.E (.int .i64 (IntKind.i64.wrap ((n:Int)-1))) (.int .i64 ((n-1:Nat):Int)) (ze (jh (a:=n) (b:=1) (by omega))),.o (ins:=[((.tmp 7),.slice (some ⟨br,off,none⟩) n cap),((.tmp 10),.int .i64 ((n-1:Nat):Int))]) (v:=.pointer (some ⟨br,off+(n-1)*2,none⟩)) (fun ρ o w ho hi2=>yb (kd:=.i64) (t:=88) (e:=90) (K:=2) (bytes:=32) kr (x:=(.tmp 7)) (y:=(.tmp 10)) br off n cap (n-1) rfl ho hi2.1 hi2.2.1 (by omega) w),.v,.fs (off:=off+(n-1)*2) (v:=.string z.1) hh (zC hh) c2,.c (zkw e.1 z.1 h1 h2),.v] H1 kr fun w2 H2=>?_
 exact rR [.tmp 2] [] (.int .i64 ((shr (tl e.1) (tl z.1):Nat):Int)) H2 kr
abbrev arO (p:Option Addr)(n c:Nat):Obj:=.cells #[.slice p n c] 92 (0,0)
abbrev ndV (x:Nd):Value:=.agg (nS.cs x).toArray
abbrev ndO (x:Nd):Obj:=.cells (nS.cs x).toArray 118 (0,0)
abbrev nrO (C:Array Value):Obj:=.cells C 118 (0,0)
def Arn (B:Nat)(w0 w:World)(ba:Nat)(A:List Nd)(L:List (Nat×Obj)):Prop:=∃(p:Option Addr) (n c:Nat) (row:List (Nat×Obj)),zR nS 118 p n c row A∧St B w0 w ((ba,arO p n c)::(row++L))
theorem Arn.call {B:Nat}{w0 w w':World}{ba:Nat}{A:List Nd}{L:List (Nat×Obj)}(h:Arn B w0 w ba A L)(hb:Below w.heap.size w w'):Arn B w0 w' ba A L:=by
 obtain ⟨p,n,c,row,h1,h2⟩:=h;exact ⟨p,n,c,row,h1,h2.call hb⟩
theorem Arn.mem {B:Nat}{w0 w:World}{ba:Nat}{A:List Nd}{L:List (Nat×Obj)}(h:Arn B w0 w ba A L){e:Nat×Obj}(he:e∈L):w.heap[e.1]? =some e.2:=by
 obtain ⟨p,n,c,row,_,h2⟩:=h;exact (h2.own e (List.mem_cons_of_mem _ (List.mem_append_right _ he))).2
theorem Arn.sub {B:Nat}{w0 w:World}{ba:Nat}{A:List Nd}{L L':List (Nat×Obj)}(h:Arn B w0 w ba A L)(hs:List.Sublist L' L):Arn B w0 w ba A L':=by
 obtain ⟨p,n,c,row,h1,h2⟩:=h;exact ⟨p,n,c,row,h1,h2.sub (List.Sublist.cons_cons _ (List.Sublist.append (List.Sublist.refl _) hs))⟩
def jB (B:Nat)(w0:World)(bx ba:Nat)(xO:Obj)(xc:Array Value)(p:Option Addr)(n c:Nat)(row:List (Nat×Obj))(xs:List Value)(L0:List (Nat×Obj)):(Nat→Bool)→(Nat→D2.Gh)→World→Prop:=fun L g w=>
 bif L 7 then Rw 19 (g 7).cur (g 7).cap (n+1) xs∧St B w0 w ((bx,xO)::(ba,arO (bif L 10 then some ⟨(g 7).b,0,none⟩ else p) (bif L 10 then n+1 else n) (bif L 10 then (g 7).cap else c))::((g 7).b,nrO (g 7).cur)::L0)
 else bif L 6 then St B w0 w (((g 6).b,nrO xc)::(bx,xO)::(ba,arO p n c)::(row++L0))
 else St B w0 w ((bx,xO)::(ba,arO p n c)::(row++L0))
theorem jB.st {B:Nat}{w0:World}{bx ba:Nat}{xO:Obj}{xc:Array Value}{p:Option Addr}{n c:Nat}{row:List (Nat×Obj)}{xs:List Value}{L0:List (Nat×Obj)}{L:Nat→Bool}{g:Nat→D2.Gh}{w:World}(h7:L 7=false)(h:jB B w0 bx ba xO xc p n c row xs L0 L g w):∃l,St B w0 w l∧(bx,xO)∈l∧(ba,arO p n c)∈l:=by
 unfold jB at h;rw [h7] at h;cases h6:L 6 with
 | true=>rw [h6] at h;exact ⟨_,h,by simp,by simp⟩
 | false=>rw [h6] at h;exact ⟨_,h,by simp,by simp⟩
theorem zbX (x:Nd)(ba:Nat)(A:List Nd){B:Nat}{w0 w:World}{L:List (Nat×Obj)}(h:Arn B w0 w ba A L)(hA:A.length≤100000000000):
 Calls Tryz.prog 117 #[.pointer (some ⟨ba,0,none⟩),ndV x] w fun e w'=> ∃v,e=.returned v∧v=.int .i64 (A.length:Int)∧Arn B w0 w' ba (A++ [x]) L:=by
 refine ql (c:=zl Tryz.f117) (rs:=[.tmp 4]) (N:=21) Tryz.func117 kr kr kr ?_;obtain ⟨p,n,c,row,hrow,H0⟩:=h;have hlen:=hrow.len;refine zi [0,1] kr kr<|za2 H0 (some 3) 118 (.tmp 1) (ndV x) kr kr kr ?_;intro bx w1 H1;refine rp [.v] H1 kr fun gs1 w2 H2=>wX []<|zd ?_;have H3:St B w0 w2 ((bx,ndO x)::(ba,arO p n c)::(row++L)):=H2.as kr;clear H1 H2;refine zc kr<|D2.g_draw0 [0,1,2,3,4,5,6,7,8,9,10] [(some 5,fun _=>.pointer (some ⟨ba,0,none⟩)),(some 6,fun _=>.pointer (some ⟨ba,0,none⟩)),(some 7,fun _=>.pointer (some ⟨ba,0,none⟩)),(some 8,fun _=>.pointer (some ⟨ba,0,none⟩)),(some 9,fun _=>.slice p n c),(some 10,fun _=>ndV x),(some 11,fun y=>.slice (some ⟨y.b,0,none⟩) 1 1),(some 12,fun y=>.slice (some ⟨y.b,0,none⟩) (n+1) y.cap),(some 13,fun _=>.pointer (some ⟨ba,0,none⟩)),(some 14,fun _=>.pointer (some ⟨ba,0,none⟩)),(none,fun _=>undef)]
  (jB B w0 bx ba (ndO x) (nS.cs x).toArray p n c row (cellsF nS (A++ [x])) L) kr kr kr H3.drew ⟨?_,?_,?_,?_,?_,?_,?_,?_,?_,?_,?_,trivial⟩ ?_
 ·exact D2.gv_val (fun _ _ _ h=>h) (fun g w=>by kernel_rfl)
 ·exact D2.gv_val (fun _ _ _ h=>h) (fun g w=>by kernel_rfl)
 ·exact D2.gv_val (fun _ _ _ h=>h) (fun g w=>by kernel_rfl)
 ·exact D2.gv_val (fun _ _ _ h=>h) (fun g w=>by kernel_rfl)
 ·refine D2.gv_ld (fun _ _ _ h=>h) 36 (.tmp 8) (fun _=>ba) 0 #[.slice p n c] 92 (0,0) (fun g=>by kernel_rfl) (fun g=>by kernel_rfl) (fun L g w hN hp=>?_) kr kr;obtain ⟨l,h,_,hm⟩:=hp.st (hN.post 7 kr);exact (h.own _ hm).2
 ·refine D2.gv_ld (fun _ _ _ h=>h) 118 (.tmp 3) (fun _=>bx) 0 (nS.cs x).toArray 118 (0,0) (fun g=>by kernel_rfl) (fun g=>by kernel_rfl) (fun L g w hN hp=>?_) kr kr;obtain ⟨l,h,hm,_⟩:=hp.st (hN.2.2.no 6 7 kr (hN.post 6 kr));exact (h.own _ hm).2
 ·refine D2.gives_of fun L1 gg ww hp hN=>?_;have h7:=hN.post 7 kr;unfold jB at hp;rw [h7,hN.1] at hp;obtain ⟨o,ho,hd,hw,hrun⟩:=yg (show opv _ _ 6 _ ww=some (some 11,true,.ok (.value (.slice (some ⟨ww.heap.size,0,none⟩) 1 1)) (ww.alloc (.cells (nS.cs x).toArray 118))) by kernel_rfl);refine ⟨o,ho,hd,.inr ⟨hw,?_⟩⟩;refine (congrArg (D2.Runs _ _) hrun).mpr ?_;refine ⟨{ b:=ww.heap.size },rfl,?_⟩;unfold jB;rw [show D2.put1 L1 6 7=false from h7,show D2.put1 L1 6 6=true from rfl];exact St.alloc hp _
 ·refine D2.gives_of fun L1 gg ww hp hN=>?_;have h6:=hN.bef 6 kr;have h10:=hN.post 10 kr;unfold jB at hp;rw [hN.1,h6] at hp;obtain ⟨o,ho,hd,hw,hop⟩:=zI (show opk _ 7 _=some (some 12,true,yn 36 (.tmp 9) (.tmp 11)) by kernel_rfl);refine ⟨o,ho,hd,.inr ⟨hw,?_⟩⟩;rcases hrow with ⟨rfl,rfl,rfl,rfl,rfl⟩ | ⟨br,cur,rfl,rfl,hrw⟩
  ·obtain ⟨b',cap',cur',w',hrun,HS',hr'⟩:=vj (K:=19) hp (t:=36) (e:=118) (bytes:=168) (k:=0) (bx:=(gg 6).b) (c:=1) (Y:=(nS.cs x).toArray) kr hop kr kr rfl rfl (nS.one x) (by omega);rw [hrun];refine ⟨{ b:=b',cap:=cap',cur:=cur' },rfl,?_⟩;unfold jB;rw [show D2.put1 L1 7 7=true from rfl,show D2.put1 L1 7 10=false from h10];refine ⟨?_,(HS'.sub (List.Sublist.cons_cons _ (List.sublist_cons_self ..))).perm (List.perm_middle (l₁:=[(bx,ndO x),(ba,arO none 0 0)]))⟩;rw [jM];have e:cellsF nS []++cellsF nS [x]=(nS.cs x).toArray.toList:=by simp [cellsF]
   rw [e];exact hr'
  ·obtain ⟨b',cap',cur',w',hrun,HS',hr'⟩:=vi (K:=19) hp (t:=36) (e:=118) (bytes:=168) (j:=3) (k:=0) (bx:=(gg 6).b) (c:=1) (Y:=(nS.cs x).toArray) kr hop kr rfl hrw kr rfl rfl (nS.one x) (by omega) (by unfold maxLen;omega);rw [hrun];refine ⟨{ b:=b',cap:=cap',cur:=cur' },rfl,?_⟩;unfold jB;rw [show D2.put1 L1 7 7=true from rfl,show D2.put1 L1 7 10=false from h10];refine ⟨?_,HS'.sub (List.sublist_cons_self ..)⟩;rw [qF];exact hr'
 ·exact D2.gv_val (fun _ _ _ h=>h) (fun g w=>by kernel_rfl)
 ·exact D2.gv_val (fun _ _ _ h=>h) (fun g w=>by kernel_rfl)
 ·refine D2.gives_of fun L1 gg ww hp hN=>?_;have h7:=hN.bef 7 kr;unfold jB at hp;rw [h7,hN.1] at hp;obtain ⟨hr',HS⟩:=hp;obtain ⟨o,ho,hd,hw,hop⟩:=zI (show opk _ 10 _=some (none,true,.store 36 (.tmp 14) (.tmp 12)) by kernel_rfl);refine ⟨o,ho,hd,.inr ⟨hw,?_⟩⟩;rw [ub (t:=36) (off:=0) (b:=ba) (C:=#[.slice p n c]) (T:=92) (v:=.slice (some ⟨(gg 7).b,0,none⟩) (n+1) (gg 7).cap) (C':=#[.slice (some ⟨(gg 7).b,0,none⟩) (n+1) (gg 7).cap]) (HS.get 1 kr) kr kr (of_decide_eq_true kr) kr kr kr o hop];refine ⟨default,rfl,?_⟩;unfold jB;rw [show D2.put1 L1 10 7=true from h7,show D2.put1 L1 10 10=true from rfl];exact ⟨hr',HS.store 1 (C:=#[.slice p n c]) kr⟩
 ·intro L1 gg w14 hall hp;unfold jB at hp;rw [hall 7 (Nat.le_of_ble_eq_true kr),hall 10 (Nat.le_of_ble_eq_true kr)] at hp;obtain ⟨hr',HS⟩:=hp;refine wW<|rS [.v,.v,.v,.l 1,.v,.E (.int .i64 (IntKind.i64.wrap (((n+1:Nat):Int)-1))) (.int .i64 (A.length:Int)) (ze (by rw [show (((n+1:Nat):Int)-1)=(A.length:Int) by omega];exact xP (by omega))),.v] HS kr fun gs5 w15 H5=>rRr [.tmp 4] [] (.int .i64 (A.length:Int)) (fun v w'=>v=.int .i64 (A.length:Int)∧Arn B w0 w' ba (A++ [x]) L) H5 kr ?_;have H6:St B w0 w15 ((bx,ndO x)::(ba,arO (some ⟨(gg 7).b,0,none⟩) (n+1) (gg 7).cap)::((gg 7).b,nrO (gg 7).cur)::L):=H5.as kr;exact ⟨rfl,_,_,_,[((gg 7).b,nrO (gg 7).cur)],.inr ⟨_,_,rfl,rfl,hr'⟩,H6.sub (List.sublist_cons_self ..)⟩
theorem zfh (s:ByteArray)(a b:Nat):tl (s.extract a b)=((tl s).drop a).take (b-a):=by
 unfold tl;rw [ByteArray.data_extract,Array.toList_extract,List.extract_eq_take_drop]
theorem zfi (p x:List UInt8)(k:Nat)(hk:k=p.length):(zb (p++x)).extract k (zb (p++x)).size=zb x:=by
 subst hk;apply jv;rw [zfh,yx,yx,zO,List.drop_left,List.length_append,Nat.add_sub_cancel_left,List.take_length]
theorem zfj (p x:List UInt8)(k m n:Nat)(hk:k=p.length)(hm:m=p.length+n):(zb (p++x)).extract k m=zb (x.take n):=by
 subst hk hm;apply jv;rw [zfh,yx,yx,List.drop_left,Nat.add_sub_cancel_left]
theorem jP {P:Program}{ρ:Env}{t e:TypeId}{size bytes:Nat}(ht:ye P t=some (e,size,bytes)){x z:Operand}{o:Oper}{kz:IntKind}(b q n c j:Nat)(ho:o.op=.slice t x (some z) none none)(hx:ev ρ x=.slice (some ⟨b,q,none⟩) n c)
 (hz:ev ρ z=.int kz (j:Int)) (hj:j≤n) (hn:n≤c):
 ∀w,(execOp (ev ρ) o).run P w=.ok (.value (.slice (some ⟨b,if c=j then q else q+j*size,none⟩) (n-j) (c-j))) w:=fun w=>by
 obtain ⟨it,z',hu,hi,hz',hsz,hby,hzs,h0⟩:=yY ht;have hS:(sizeOf e).run P w=.ok size w:=by simp [sizeOf,typeInfo,hi,hsz]
 unfold execOp;by_cases hc:c=j
 ·have hnj:n=j:=by omega
  subst hc hnj;simp [ho,hx,hz,Instr.sliceAt,Instr.slice,Instr.sliceBounds,Instr.sliceBound,asIntOf,run_underlying hu,hS]
 ·simp [ho,hx,hz,Instr.sliceAt,Instr.slice,Instr.sliceBounds,Instr.sliceBound,asIntOf,run_underlying hu,hS,hj,yX,hc]
def ym (pre:List UInt8)(l:List Ent):List (ByteArray×ByteArray):=l.map fun e=>(zb (pre++e.1),e.2)
theorem zfk (pre:List UInt8)(l:List Ent):(ym pre l).length=l.length:=List.length_map ..
theorem xG {pre:List UInt8}{l:List Ent}{i:Nat}{e:Ent}(h:l[i]? =some e):(ym pre l)[i]? =some (zb (pre++e.1),e.2):=by
 unfold ym;rw [List.getElem?_map,h];rfl
theorem Fn.toP {P:Program}{f:Nat}{args:Array Value}{v:Value}(h:Fn P f args v):FnP P f args (fun _=>True) v:=fun w _=>h w
theorem zky (e:Ent)(pre:List UInt8)(ba:Nat)(A:List Nd)(br off cap:Nat)(C:Array Value)(T:TypeId)(fz:Nat×Nat){B:Nat}{w0 w:World}{L:List (Nat×Obj)}(h:Arn B w0 w ba A L)(hm:(br,Obj.cells C T fz)∈L)(hR:yq pS C off (ym pre [e]))(hA:A.length≤100000000000):
 Calls Tryz.prog 87 #[.pointer (some ⟨ba,0,none⟩),.slice (some ⟨br,off,none⟩) 1 cap,iN pre.length] w fun ed w'=> ∃v,ed=.returned v∧v=iN A.length∧Arn B w0 w' ba (A++ [⟨1,zb e.1,e.2,qu⟩]) L:=by
 refine ql (c:=zl Tryz.f87) (rs:=[.tmp 6]) (N:=21) Tryz.func87 kr kr kr ?_;obtain ⟨p,n,c,row,hrow,H0⟩:=h;refine rS [.v] H0 kr fun gs1 w1 H1=>?_;have h1:Arn B w0 w1 ba A L:=⟨p,n,c,row,hrow,H1.as kr⟩
 have c1:C[off+0*2]? =some (.string (zb (pre++e.1))):=hR.cell (i:=0) rfl 0 (by decide);have c2:C[off+0*2+1]? =some (.string e.2):=hR.cell (i:=0) rfl 1 (by decide);refine zc kr ?_;have hd:Arn B w0 w1.drew ba A L:=⟨p,n,c,row,hrow,H1.drew⟩
 refine D2.g_draw0 [0,1,2,3,4,5,6,7,8,9,10,11,12,13,14] [(some 7,fun _=>.pointer (some ⟨ba,0,none⟩)),(some 8,fun _=>.slice (some ⟨br,off,none⟩) 1 cap),(some 9,fun _=>.pointer (some ⟨br,off+0*2,none⟩)),(some 10,fun _=>.pointer (some ⟨br,off+0*2,none⟩)),(some 11,fun _=>.string (zb (pre++e.1))),(some 12,fun _=>iN pre.length),(some 13,fun _=>.string (zb e.1)),(some 14,fun _=>.slice (some ⟨br,off,none⟩) 1 cap),(some 15,fun _=>.pointer (some ⟨br,off+0*2,none⟩)),(some 16,fun _=>.pointer (some ⟨br,off+0*2+1,none⟩)),(some 17,fun _=>.string e.2),(some 18,fun _=>.agg (yG qu).toArray),(some 19,fun _=>ndV ⟨1,zb e.1,e.2,qu⟩),(some 20,fun _=>iN A.length),(some 6,fun _=>iN A.length)]
  (D2.two 13 (fun w=>Arn B w0 w ba A L) (fun _ w=>Arn B w0 w ba (A++ [⟨1,zb e.1,e.2,qu⟩]) L)) kr kr kr hd ⟨?_,?_,?_,?_,?_,?_,?_,?_,?_,?_,?_,?_,?_,?_,?_,trivial⟩ ?_
 ·exact D2.gv_val (fun _ _ _ h=>h) (fun g w=>by kernel_rfl)
 ·exact D2.gv_val (fun _ _ _ h=>h) (fun g w=>by kernel_rfl)
 ·exact D2.gv_op (fun _ _ _ h=>h) _ (fun g=>by kernel_rfl) (fun g o w ho=>yb (kd:=.i64) (t:=88) (e:=90) (K:=2) (bytes:=32) kr (x:=(.tmp 8)) (y:=(.const (.int .i64 0))) br off 1 cap 0 rfl ho kr kr (by decide) w)
 ·exact D2.gv_val (fun _ _ _ h=>h) (fun g w=>by kernel_rfl)
 ·refine D2.gv_opW (fun _ _ _ h=>h) (.load 9 (.tmp 10)) (fun g=>by kernel_rfl) (fun L g o w hN hp ho=>?_);exact ua ((hp.bef (hN.2.2.no 12 13 kr (hN.2.2.no 6 12 kr (hN.post 6 kr)))).mem hm) kr kr c1 o ho
 ·exact D2.gv_val (fun _ _ _ h=>h) (fun g w=>by kernel_rfl)
 ·exact D2.gv_opE (fun _ _ _ h=>h) _ (fun g=>by kernel_rfl) (fun g o w ho=>kq (t:=9) (kz:=.i64) kr (x:=(.tmp 11)) (z:=(.tmp 12)) (zb (pre++e.1)) pre.length ho kr kr (by rw [zO,List.length_append];omega) w) (congrArg Value.string (zfi pre e.1 _ rfl))
 ·exact D2.gv_val (fun _ _ _ h=>h) (fun g w=>by kernel_rfl)
 ·exact D2.gv_op (fun _ _ _ h=>h) _ (fun g=>by kernel_rfl) (fun g o w ho=>yb (kd:=.i64) (t:=88) (e:=90) (K:=2) (bytes:=32) kr (x:=(.tmp 14)) (y:=(.const (.int .i64 0))) br off 1 cap 0 rfl ho kr kr (by decide) w)
 ·exact D2.gv_val (fun _ _ _ h=>h) (fun g w=>by kernel_rfl)
 ·refine D2.gv_opW (fun _ _ _ h=>h) (.load 9 (.tmp 16)) (fun g=>by kernel_rfl) (fun L g o w hN hp ho=>?_);exact ua ((hp.bef (hN.2.2.no 12 13 kr (hN.post 12 kr))).mem hm) kr kr c2 o ho
 ·exact D2.gv_cpW (fun _ _ _ h=>h) 118 #[] zff.toP (fun _ _ _ _ _=>trivial) (fun L g w w' hN hp hb=>hp.call (fun h=>h.call hb) (fun _ h=>h.call hb)) (fun g w=>by kernel_rfl)
 ·exact D2.gv_val (fun _ _ _ h=>h) (fun g w=>by kernel_rfl)
 ·refine D2.gv_cc 117 #[.pointer (some ⟨ba,0,none⟩),ndV ⟨1,zb e.1,e.2,qu⟩] (fun L g w hN hp=>?_) (fun g w=>by kernel_rfl);refine (zbX ⟨1,zb e.1,e.2,qu⟩ ba A (hp.bef hN.1) hA).mono ?_;rintro ed w' ⟨v,rfl,rfl,h2⟩;exact ⟨_,rfl,default,rfl,D2.two.to h2⟩
 ·exact D2.gv_val (fun _ _ _ h=>h) (fun g w=>by kernel_rfl)
 ·intro L1 gg w14 hall hp;have h2:=hp.aft (hall 13 (Nat.le_of_ble_eq_true kr));refine wW<|zn kr<|wV ?_;exact ⟨[iN A.length],(.tmp (iN A.length) kr .nil),rfl,h2⟩
theorem yD.tail {e:Ent}{l:List Ent}(h:yD (e::l)):yD l:=(List.pairwise_cons.1 h).2
def kE (c:Nat)(l:List Ent):Prop:= ∀e∈l,∃b t,e.1=b::t∧c≤b.toNat∧b.toNat<16
theorem zfl: ∀ {l:List Ent} {c:Nat},yD l→kE c l→∃a r,l=a++r∧(∀e∈a,∃b t,e.1=b::t∧b.toNat=c)∧kE (c+1) r
 | [],c,_,_=>⟨[],[],rfl,(fun _ h=>nomatch h),fun _ h=>nomatch h⟩
 | e::l,c,h,hF=>by
  obtain ⟨b,t,e1,hb,hb2⟩:=hF e (List.mem_cons_self ..);by_cases hc:b.toNat=c
  ·obtain ⟨a,r,rfl,ha,hr⟩:=zfl (yD.tail h) (fun x hx=>hF x (List.mem_cons_of_mem _ hx));refine ⟨e::a,r,rfl,fun x hx=>?_,hr⟩;rcases List.mem_cons.1 hx with rfl|hx
   ·exact ⟨b,t,e1,hc⟩
   ·exact ha x hx
  ·refine ⟨[],e::l,rfl,(fun _ h=>nomatch h),fun x hx=>?_⟩;rcases List.mem_cons.1 hx with rfl | hx
   ·exact ⟨b,t,e1,by omega,hb2⟩
   ·obtain ⟨b',t',e2,_,h4⟩:=hF x (List.mem_cons_of_mem _ hx);have:=(List.pairwise_cons.1 h).1 x hx;rw [e1,e2] at this;refine ⟨b',t',e2,?_,h4⟩;rcases xE this with q|⟨q,_⟩
    ·omega
    ·rw [←q];omega
theorem zfm (c:Nat)(a r:List Ent):zo c (a++r)=zo c a++zo c r:=List.filterMap_append ..
theorem zfn {c:Nat}{l:List Ent}(h: ∀e∈l,∀b t,e.1=b::t→b.toNat≠c):zo c l=[]:=by
 unfold zo;rw [List.filterMap_eq_nil_iff];intro e he;obtain ⟨x,v⟩:=e;cases x with
 | nil=>rfl
 | cons b t=>simp only;rw [if_neg (h _ he b t rfl)]
theorem zbY {c:Nat} : ∀ {a:List Ent},(∀e∈a,∃b t,e.1=b::t∧b.toNat=c)→zo c a=a.map fun e=>(e.1.drop 1,e.2)
 | [],_=>rfl
 | e::a,h=>by
  obtain ⟨b,t,e1,hb⟩:=h e (List.mem_cons_self ..);obtain ⟨x,v⟩:=e;simp only at e1;subst e1;have ih:=zbY (a:=a) fun x hx=>h x (List.mem_cons_of_mem _ hx);unfold zo at ih ⊢;simp only [List.filterMap_cons,hb,if_true,ih,List.map_cons,List.drop_succ_cons,List.drop_zero]
theorem zkz {pre:List UInt8}{c:Nat}{a:List Ent}(h: ∀e∈a,∃b t,e.1=b::t∧b.toNat=c):ym pre a=ym (pre++ [UInt8.ofNat c]) (zo c a):=by
 rw [zbY h];unfold ym;rw [List.map_map];refine List.map_congr_left fun e he=>?_;obtain ⟨b,t,e1,hb⟩:=h e he;have:UInt8.ofNat c=b:=by rw [←hb];simp
 simp only [Function.comp,e1,this,List.drop_succ_cons,List.drop_zero,List.append_assoc,List.singleton_append]
theorem zfo (pre x:List UInt8)(b:UInt8):by_ (zb (pre++b::x)) pre.length=b.toNat:=by
 unfold by_;rw [yx,List.getD_eq_getElem?_getD,List.getElem?_append_right (Nat.le_refl _),Nat.sub_self];rfl
theorem kE.some {c:Nat}{l:List Ent}(h:kE c l){i:Nat}(hi:i<l.length):∃b t v,l[i]? =some (b::t,v)∧c≤b.toNat∧b.toNat<16:=by
 obtain ⟨b,t,e1,h1,h2⟩:=h l[i] (List.getElem_mem hi);refine ⟨b,t,l[i].2,?_,h1,h2⟩;rw [List.getElem?_eq_getElem hi,←e1]
abbrev hpO (f:Nat→Value):Obj:=.cells (zP 16 f).toArray 161 (0,0)
def zbZ (C:Array Value)(pre:List UInt8)(l:List Ent)(br:Nat)(m:Nat)(q c:Nat→Nat):Prop:= ∀j,j<m→yq pS C (q j) (ym (pre++ [UInt8.ofNat j]) (zo j l))
def hpF (l:List Ent)(br m:Nat)(q c:Nat→Nat):Nat→Value:=fun j=>if j<m then .slice (some ⟨br,q j,none⟩) (zo j l).length (c j) else .slice none 0 0
theorem zkA (l:List Ent)(pre:List UInt8)(br off cap:Nat)(C:Array Value)(T:TypeId)(fz:Nat×Nat)(hR:yq pS C off (ym pre l))(hrise:yD l)(hF:kE 0 l)(hlen:l.length≤1000000000)(hcap:l.length≤cap)(hpre:pre.length≤1000000000):
 FnR Tryz.prog 116 #[.slice (some ⟨br,off,none⟩) l.length cap,iN pre.length] (fun w=>w.heap[br]? =some (.cells C T fz)) (fun _ v _=> ∃q c:Nat→Nat,v=.agg (zP 16 (hpF l br 16 q c)).toArray∧zbZ C pre l br 16 q c∧ ∀j,j<16→(zo j l).length≤c j):=by
 refine FnR.intro (c:=zl Tryz.f116) [.cell 4 161] 39 Tryz.func116 kr kr kr fun w hh=>?_;have H0:=St.start w;refine rS [.a] H0 kr fun gs1 w1 H1=>rS [.a] H1 kr fun gs2 w2 H2=>zc kr<|rS [.v] H2 kr fun gs3 w3 H3=>zj 0 kr ?_;have H4:St w.heap.size w w3 [((gs1 0).b,hpO fun _=>.slice none 0 0),((gs2 0).b,hpO fun _=>.slice none 0 0)]:=H3.as kr;clear H0 H1 H2 H3
 refine zz kr (fun mz ρ ww=> ∃(i:Nat) (q c:Nat→Nat) (R:List Ent) (pq n cp:Nat),16-i=mz∧i≤16∧n=R.length∧n≤cp∧n≤1000000000∧zbZ C pre l br i q c∧(∀j,j<i→(zo j l).length≤c j)∧(∀j,i≤j→zo j l=zo j R)∧yD R∧kE i R∧yq pS C pq (ym pre R)∧
  St w.heap.size w ww [((gs1 0).b,hpO fun _=>.slice none 0 0),((gs2 0).b,hpO (hpF l br i q c))]∧Is [(0,.slice (some ⟨br,pq,none⟩) n cp),(1,iN pre.length),(4,.pointer (some ⟨(gs1 0).b,0,none⟩)),(5,.pointer (some ⟨(gs2 0).b,0,none⟩)),(8,iN i)] ρ) (16-0) ⟨0,fun _=>0,fun _=>0,l,off,l.length,cap,rfl,Nat.zero_le _,rfl,hcap,hlen,(fun _ h=>absurd h (Nat.not_lt_zero _)),(fun _ h=>absurd h (Nat.not_lt_zero _)),(fun _ _=>rfl),hrise,hF,hR,H4,(Is.of ⟨kr,kr,kr,kr,kr,trivial⟩)⟩ ?_
 clear H4;rintro _ _ w4 ⟨i,q,c,R,pq,n,cp,rfl,hi16,hnR,hncp,hn9,hOK,hcs,hcut,hRr,hRF,hRR,H5,_,rfl⟩;by_cases hi:i<16
 ·refine rS [.E (.bool (decide ((i:Int)<16))) (.bool true) (za (decide_eq_true (by omega)))] H5 kr fun gs4 w5 H6=>zc kr<|zg kr kr<|zh kr<|wW<|zc kr<|zj 1 kr<|rS [.v,.v] H6 kr fun gs5 w6 H7=>rS [.v] H7 kr fun gs6 w7 H8=>?_;obtain ⟨a,r,hsp,ha,hr⟩:=zfl hRr hRF;have hal:a.length≤n:=by rw [hnR,hsp,List.length_append];omega
  refine zc kr ?_;have H9:St w.heap.size w w7 [((gs1 0).b,hpO fun _=>.slice none 0 0),((gs2 0).b,hpO (hpF l br i q c))]:=H8.as kr;refine jc (Q:=fun e ρ ww=>e=.normal∧St w.heap.size w ww [((gs1 0).b,hpO fun _=>.slice none 0 0),((gs2 0).b,hpO (hpF l br i q c))]∧Is [(0,.slice (some ⟨br,pq,none⟩) n cp),(1,iN pre.length),(4,.pointer (some ⟨(gs1 0).b,0,none⟩)),(5,.pointer (some ⟨(gs2 0).b,0,none⟩)),(6,iN i),(7,iN a.length),(8,iN i)] ρ) ?_ ?_
  ·refine zj 2 kr<|zz kr (fun mz ρ ww=> ∃(s:Nat),a.length-s=mz∧s≤a.length∧St w.heap.size w ww [((gs1 0).b,hpO fun _=>.slice none 0 0),((gs2 0).b,hpO (hpF l br i q c))]∧Is [(0,.slice (some ⟨br,pq,none⟩) n cp),(1,iN pre.length),(4,.pointer (some ⟨(gs1 0).b,0,none⟩)),(5,.pointer (some ⟨(gs2 0).b,0,none⟩)),(6,iN i),(7,iN s),(8,iN i)] ρ) (a.length-0) ⟨0,rfl,Nat.zero_le _,H9,(Is.of ⟨kr,kr,kr,kr,kr,kr,kr,trivial⟩)⟩ ?_;clear H5 H6 H7 H8 H9;rintro _ _ w8 ⟨s,rfl,hs,H10,_,rfl⟩;refine zc kr<|zc kr ?_;by_cases hsa:s<a.length
   ·obtain ⟨b,t,e1,hb⟩:=ha a[s] (List.getElem_mem hsa);have hRs:R[s]? =some (b::t,a[s].2):=by
     rw [hsp,List.getElem?_append_left hsa,List.getElem?_eq_getElem hsa,←e1]
    have hcell:C[pq+s*2]? =some (.string (zb (pre++b::t))):=hRR.cell (xG hRs) 0 (by decide);refine rL [.v,.v,.v,.E (.bool (decide ((s:Int)<(n:Int)))) (.bool true) (za (decide_eq_true (by omega))),.v,.v,.v,.o (ins:=[((.tmp 16),.slice (some ⟨br,pq,none⟩) n cp),((.tmp 17),iN s)]) (v:=.pointer (some ⟨br,pq+s*2,none⟩)) (fun ρ o w ho hi2=>yb (kd:=.i64) (t:=88) (e:=90) (K:=2) (bytes:=32) kr (x:=(.tmp 16)) (y:=(.tmp 17)) br pq n cp s rfl ho hi2.1 hi2.2.1 (by omega) w),.v,.fs (off:=pq+s*2) (v:=.string (zb (pre++b::t))) hh (zC hh) hcell,.v,.oe (ins:=[((.tmp 20),.string (zb (pre++b::t))),((.tmp 21),iN pre.length)]) (v:=.int .u8 ((by_ (zb (pre++b::t)) pre.length:Nat):Int)) (v':=.int .u8 (b.toNat:Int)) (fun ρ o w ho hi2=>zQ (t:=9) (kd:=.i64) kr (x:=(.tmp 20)) (y:=(.tmp 21)) (zb (pre++b::t)) pre.length ho hi2.1 hi2.2.1 (by rw [zO,List.length_append,List.length_cons];omega) w) (by rw [zfo]),.v,.E (.int .u8 (IntKind.u8.wrap (i:Int))) (.int .u8 (i:Int)) (ze (by rw [IntKind.wrap_u8];omega)),.E (.bool ((b.toNat:Int)==(i:Int))) (.bool true) (za (beq_iff_eq.2 (by omega))),.v] H10 kr fun gs7 w9 H11=>wW<|zg kr kr<|zh kr<|wW<|zj 3 kr<|rL [.v,.E (.int .i64 (IntKind.i64.wrap ((s:Int)+1))) (.int .i64 ((s+1:Nat):Int)) (ze (zm (a:=s) (b:=1) (by omega))),.v] H11 kr fun gs8 w10 H12=>?_;show ∃m,_∧_;exact ⟨_,(by omega),s+1,rfl,hsa,H12.as kr,(Is.of ⟨kr,kr,kr,kr,kr,kr,kr,trivial⟩)⟩
   ·obtain rfl:s=a.length:=by omega
    by_cases hrn:r.length=0
    ·have hn0:n=a.length:=by rw [hnR,hsp,List.length_append];omega
     refine rL [.v,.v,.v,.E (.bool (decide ((a.length:Int)<(n:Int)))) (.bool false) (za (decide_eq_false (by omega))),.v,.n,.n,.n,.n,.n,.n,.n,.n,.n,.n,.v] H10 kr fun gs7 w9 H11=>wW<|zf kr kr<|zw 2 kr ?_;exact ⟨rfl,H11.as kr,(Is.of ⟨kr,kr,kr,kr,kr,kr,kr,trivial⟩)⟩
    ·obtain ⟨b,t,v,hr0,hb,hb2⟩:=hr.some (i:=0) (by omega);have hRs:R[a.length]? =some (b::t,v):=by
      rw [hsp,List.getElem?_append_right (Nat.le_refl _),Nat.sub_self];exact hr0
     have hnlt:a.length<n:=by rw [hnR,hsp,List.length_append];omega
     generalize hs9:a.length=s at*;have hcell:C[pq+s*2]? =some (.string (zb (pre++b::t))):=hRR.cell (xG hRs) 0 (by decide);refine rL [.v,.v,.v,.E (.bool (decide ((s:Int)<(n:Int)))) (.bool true) (za (decide_eq_true (by omega))),.v,.v,.v,.o (ins:=[((.tmp 16),.slice (some ⟨br,pq,none⟩) n cp),((.tmp 17),iN s)]) (v:=.pointer (some ⟨br,pq+s*2,none⟩)) (fun ρ o w ho hi2=>yb (kd:=.i64) (t:=88) (e:=90) (K:=2) (bytes:=32) kr (x:=(.tmp 16)) (y:=(.tmp 17)) br pq n cp s rfl ho hi2.1 hi2.2.1 (by omega) w),.v,.fs (off:=pq+s*2) (v:=.string (zb (pre++b::t))) hh (zC hh) hcell,.v,.oe (ins:=[((.tmp 20),.string (zb (pre++b::t))),((.tmp 21),iN pre.length)]) (v:=.int .u8 ((by_ (zb (pre++b::t)) pre.length:Nat):Int)) (v':=.int .u8 (b.toNat:Int)) (fun ρ o w ho hi2=>zQ (t:=9) (kd:=.i64) kr (x:=(.tmp 20)) (y:=(.tmp 21)) (zb (pre++b::t)) pre.length ho hi2.1 hi2.2.1 (by rw [zO,List.length_append,List.length_cons];omega) w) (by rw [zfo]),.v,.E (.int .u8 (IntKind.u8.wrap (i:Int))) (.int .u8 (i:Int)) (ze (by rw [IntKind.wrap_u8];omega)),.E (.bool ((b.toNat:Int)==(i:Int))) (.bool false) (za (beq_eq_false_iff_ne.2 (by omega))),.v] H10 kr fun gs7 w9 H11=>wW<|zf kr kr<|zw 2 kr ?_;exact ⟨rfl,H11.as kr,(Is.of ⟨kr,kr,kr,kr,kr,kr,kr,trivial⟩)⟩
  clear H5 H6 H7 H8 H9;rintro _ _ w8 ⟨rfl,H10,_,rfl⟩;refine wW ?_;have hcr:zo i r=[]:=zfn fun e he b t e1=>by
   obtain ⟨b',t',e2,h3,_⟩:=hr e he;rw [e1] at e2;injection e2 with e2 _;subst e2;omega
  have hci:zo i l=zo i a:=by rw [hcut i (Nat.le_refl _),hsp,zfm,hcr,List.append_nil]
  have hcl:(zo i l).length=a.length:=by rw [hci,zbY ha,List.length_map]
  refine dL [.v,.v,.v,.o (ins:=[((.tmp 30),.slice (some ⟨br,pq,none⟩) n cp),((.tmp 31),iN a.length)]) (v:=.slice (some ⟨br,pq,none⟩) a.length cp) (fun ρ o w ho hi2=>zdX (kd:=.i64) (t:=88) (e:=90) (size:=2) (bytes:=32) kr (x:=(.tmp 30)) (y:=(.tmp 31)) ⟨br,pq,none⟩ n cp a.length ho hi2.1 hi2.2.1 (by omega) w),
   .v,.v,.o (ins:=[((.tmp 33),.slice (some ⟨br,pq,none⟩) n cp),((.tmp 34),iN a.length)]) (v:=.slice (some ⟨br,if cp=a.length then pq else pq+a.length*2,none⟩) (n-a.length) (cp-a.length)) (fun ρ o w ho hi2=>jP (kz:=.i64) (t:=88) (e:=90) (size:=2) (bytes:=32) kr (x:=(.tmp 33)) (z:=(.tmp 34)) br pq n cp a.length ho hi2.1 hi2.2.1 hal hncp w),
   .o (ins:=[((.tmp 5),.pointer (some ⟨(gs2 0).b,0,none⟩)),((.tmp 29),iN i)]) (v:=.pointer (some ⟨(gs2 0).b,0+i*1,none⟩)) (fun ρ o w ho hi2=>yS (t:=161) (n:=16) (size:=1) (kd:=.i64) kr (x:=(.tmp 5)) (y:=(.tmp 29)) (gs2 0).b 0 i ho hi2.1 hi2.2.1 hi w),
   .se 1 (C:=(zP 16 (hpF l br i q c)).toArray) (C':=(zP 16 (hpF l br (i+1) (fun j=>if j=i then pq else q j) (fun j=>if j=i then cp else c j))).toArray) (off:=0+i*1) (v:=.slice (some ⟨br,pq,none⟩) a.length cp) (by show 0+i*1+1≤_;rw [List.size_toArray,xt];omega) (by
    have:=vX (C:=(zP 16 (hpF l br i q c)).toArray) (pre:=[]) (post:=[]) (n:=16) (f:=hpF l br i q c) (g:=hpF l br (i+1) (fun j=>if j=i then pq else q j) (fun j=>if j=i then cp else c j)) (by simp) (off:=0+i*1) (k:=i) (v:=.slice (some ⟨br,pq,none⟩) a.length cp) rfl (by simp) hi (fun j _=>by
     unfold hpF;by_cases h1:j=i
     ·subst h1;simp [hcl]
     ·simp only [if_neg h1];by_cases h2:j<i
      ·rw [if_pos h2,if_pos (by omega)]
      ·rw [if_neg h2,if_neg (by omega)])
    simpa using this),.v] H10 kr fun w9 H11=>?_
  refine wW<|rL [.E (.int .i64 (IntKind.i64.wrap ((i:Int)+1))) (.int .i64 ((i+1:Nat):Int)) (ze (zm (a:=i) (b:=1) (by omega))),.v] H11 kr fun gs7 w10 H12=>?_;show ∃m,_∧_;have hlr:n-a.length=r.length:=by rw [hnR,hsp,List.length_append];omega
  refine ⟨_,(by omega),i+1,(fun j=>if j=i then pq else q j),(fun j=>if j=i then cp else c j),r,(if cp=a.length then pq else pq+a.length*2),n-a.length,cp-a.length,rfl,hi,hlr,by omega,by omega,?_,?_,?_,?_,hr,?_,H12.as kr,(Is.of ⟨kr,kr,kr,kr,kr,trivial⟩)⟩
  ·intro j hj;by_cases h1:j=i
   ·subst h1;simp only [if_true];rw [hci,←zkz ha];have:=hRR.take a.length;rw [show (ym pre R).take a.length=ym pre a by rw [hsp];unfold ym;rw [List.map_append,List.take_left' (List.length_map ..)]] at this;exact this
   ·simp only [if_neg h1];exact hOK j (by omega)
  ·intro j hj;by_cases h1:j=i
   ·subst h1;simp only [if_true];omega
   ·simp only [if_neg h1];exact hcs j (by omega)
  ·intro j hj;have hja:zo j a=[]:=zfn fun e he b t e1=>by
    obtain ⟨b',t',e2,h3⟩:=ha e he;rw [e1] at e2;injection e2 with e2 _;subst e2;omega
   rw [hcut j (by omega),hsp,zfm,hja,List.nil_append]
  ·rw [hsp] at hRr;exact (List.pairwise_append.1 hRr).2.1
  ·by_cases h1:cp=a.length
   ·have:r=[]:=List.eq_nil_of_length_eq_zero (by omega);rw [this];exact yq.nil _ _
   ·rw [if_neg h1];have:=hRR.drop a.length;rw [show (ym pre R).drop a.length=ym pre r by rw [hsp];unfold ym;rw [List.map_append,List.drop_left' (List.length_map ..)]] at this;exact this
 ·obtain rfl:i=16:=by omega
  refine rS [.v] H5 kr fun gs4 w5 H6=>zc kr<|zf kr kr<|zw 0 kr<|wW<|rS [.l 1,.s 0] H6 kr fun gs5 w6 H7=>rRr [.cell 4 161] [0] (.agg (zP 16 (hpF l br 16 q c)).toArray) (fun v' w'=>Below w.heap.size w w'∧∃q c:Nat→Nat,v'=.agg (zP 16 (hpF l br 16 q c)).toArray∧zbZ C pre l br 16 q c∧ ∀j,j<16→(zo j l).length≤c j) H7 kr ?_;exact ⟨H7.below,q,c,rfl,hOK,hcs⟩
def Okl (f:Nat)(l:List Ent):Prop:= ∀e∈l,e.1.length<f∧ ∀b∈e.1,b.toNat<16
def uu (f:Nat):Prop:= ∀(l:List Ent) (pre:List UInt8) (ba:Nat) (A:List Nd) (br off cap:Nat) (C:Array Value) (T:TypeId) (fz:Nat×Nat) {B:Nat} {w0 w:World} {L:List (Nat×Obj)},Arn B w0 w ba A L→(br,Obj.cells C T fz)∈L→yq pS C off (ym pre l)→yD l→Okl f l→l.length≤cap→(∀e∈l,pre.length+e.1.length≤1000000)→A.length+f*l.length≤1000000000→
 Calls Tryz.prog 49 #[.pointer (some ⟨ba,0,none⟩),.slice (some ⟨br,off,none⟩) l.length cap,iN pre.length] w fun ed w'=> ∃v,ed=.returned v∧v=.int .i64 (zk f l A).2∧Arn B w0 w' ba (zk f l A).1 L
theorem vy {x y:List UInt8}{k:Nat}(h:k≤shr x y):x.take k=y.take k:=by
 have:=congrArg (List.take k) (ze1 x y);rw [List.take_take,List.take_take,Nat.min_eq_left h] at this;exact this
theorem zb0 {l:List Ent}{e:Ent}(h:yD l)(he:l.head? =some e):yD (zM (zr l) l):=by
 unfold yD zM;rw [List.pairwise_map];refine List.Pairwise.imp_of_mem ?_ h;intro a b ha hb hab;refine zko _ hab ?_;rw [vy (jO he a ha),vy (jO he b hb)]
theorem zkB {l:List Ent}{e:Ent}(he:l.head? =some e)(pre:List UInt8):ym pre l=ym (pre++e.1.take (zr l)) (zM (zr l) l):=by
 unfold ym zM;rw [List.map_map];refine List.map_congr_left fun x hx=>?_;simp only [Function.comp];rw [←vy (jO he x hx),List.append_assoc,List.take_append_drop]
theorem kG {f:Nat}{l:List Ent}{e:Ent}(he:l.head? =some e)(hk:0<zr l)(h:Okl (f+1) l):Okl f (zM (zr l) l):=fun x hx=>by
 unfold zM at hx;obtain ⟨y,hy,rfl⟩:=List.mem_map.1 hx;obtain ⟨h1,h2⟩:=h y hy;have h3:=jO he y hy;have h4:=(kD y.1 e.1).1;exact ⟨by simp only [List.length_drop];omega,fun b hb=>h2 b (List.mem_of_mem_drop hb)⟩
theorem zfp {l:List Ent}(h:l≠[]):∃z,l.getLast? =some z∧l[l.length-1]? =some z:=by
 refine ⟨l.getLast h,List.getLast?_eq_some_getLast h,?_⟩;have h0:l.length-1<l.length:=by have:=List.length_pos_iff.2 h;omega
 rw [List.getElem?_eq_getElem h0,List.getLast_eq_getElem]
theorem zkC (f:Nat)(ih:uu f)(e e':Ent)(r:List Ent)(pre:List UInt8)(ba:Nat)(A:List Nd)(br off cap:Nat)(C:Array Value)(T:TypeId)(fz:Nat×Nat){B:Nat}{w0 w:World}{L:List (Nat×Obj)}(h:Arn B w0 w ba A L)(hm:(br,Obj.cells C T fz)∈L)(hR:yq pS C off (ym pre (e::e'::r)))
 (hrise:yD (e::e'::r)) (hok:Okl (f+1) (e::e'::r)) (hcap:(e::e'::r).length≤cap) (hpf: ∀x∈e::e'::r,pre.length+x.1.length≤1000000) (hA:A.length+(f+1)*(e::e'::r).length≤1000000000) (hk:0<zr (e::e'::r)):
 Calls Tryz.prog 89 #[.pointer (some ⟨ba,0,none⟩),.slice (some ⟨br,off,none⟩) (e::e'::r).length cap,iN pre.length] w fun ed w'=> ∃v,ed=.returned v∧v=.int .i64 (zk (f+1) (e::e'::r) A).2∧Arn B w0 w' ba (zk (f+1) (e::e'::r) A).1 L:=by
 unfold zk;rw [if_pos hk];generalize hle:e::e'::r=l at*;have hhd:l.head? =some e:=by rw [←hle];rfl
 obtain ⟨z,hz,hz2⟩:=zfp (l:=l) (by rw [←hle];simp);have hl0:l[0]? =some e:=by rw [←hle];rfl
 have hcz:zr l=shr e.1 z.1:=by rw [←hle] at hz hrise ⊢;exact ze7 hrise hz
 obtain ⟨k,hkk⟩:∃k,zr l=k:=⟨_,rfl⟩
 obtain ⟨hoe1,hoe2⟩:=hok e (List.mem_of_getElem? hl0);obtain ⟨hoz1,hoz2⟩:=hok z (List.mem_of_getElem? hz2);have hpe:=hpf e (List.mem_of_getElem? hl0);have hpz:=hpf z (List.mem_of_getElem? hz2);have hke:k≤e.1.length:=by rw [←hkk,hcz];exact (kD _ _).1
 have hmul:(f+1)*l.length=f*l.length+l.length:=Nat.succ_mul ..;have hlen:(ym pre l).length=l.length:=zfk ..;have hcom:shr (tl (zb (pre++e.1))) (tl (zb (pre++z.1)))=pre.length+k:=by rw [yx,yx,ut,←hcz,hkk]
 have hlay:=vx f (zM k l) A;rw [xF] at hlay;rw [hkk];have hrise':=zb0 hrise hhd;have hents:=zkB hhd pre;have hok':=kG hhd hk hok;rw [hkk] at hrise' hents hok';obtain ⟨X,hX⟩:∃X,zk f (zM k l) A=X:=⟨_,rfl⟩
 rw [hX] at hlay ⊢;refine ql (c:=zl Tryz.f89) (rs:=[.tmp 6]) (N:=28) Tryz.func89 kr kr kr ?_;obtain ⟨p,n,c,row,hrow,H0⟩:=h;refine rS [.v] H0 kr fun gs1 w1 H1=>zi [0,1,2] kr kr<|rp [.v] H1 kr fun gs2 w2 H2=>wX [1,2] ?_;have H3:St B w0 w2 ((ba,arO p n c)::(row++L)):=H2.as kr;refine qd H3 (some 10) 88 #[.slice (some ⟨br,off,none⟩) l.length cap] _ _ (zfg br off l.length cap C T fz (ym pre l) _ _ hR hlen (by omega) (xG hl0) (xG hz2) (by rw [zO,List.length_append];omega) (by rw [zO,List.length_append];omega)) (H3.own _ (List.mem_cons_of_mem _ (List.mem_append_right _ hm))).2 (fun w=>by kernel_rfl) kr ?_;intro w3 H4;rw [hcom];refine rp [.v] H4 kr fun gs3 w4 H5=>wX []<|zd<|zi [0,1,2] kr kr<|rp [.c zff] H5 kr fun gs4 w5 H6=>wX [1,2] ?_;have H7:St B w0 w5 ((ba,arO p n c)::(row++L)):=H6.as kr;refine qA H7 (some 8) 116 (.agg (zP 16 fun _=>.int .i64 0).toArray) kr kr kr ?_;intro bk w6 H8;refine rp [.s 0] H8 kr fun gs5 w7 H9=>wX []<|zd ?_;have H10:St B w0 w7 ((bk,.cells (yG qu).toArray 116 (0,0))::(ba,arO p n c)::(row++L)):=H9.as kr;have A1:Arn B w0 w7 ba A ((bk,.cells (yG qu).toArray 116 (0,0))::L):=⟨p,n,c,row,hrow,H10.perm ((List.Perm.cons _ List.perm_middle).trans (List.Perm.swap _ _ _))⟩
 refine zi [0,1,2,3,4,5] kr kr<|rp [.v,.v,.v] H10 kr fun gs6 w8 H11=>wX [3,4,5] ?_;have H12:St B w0 w8 ((bk,.cells (yG qu).toArray 116 (0,0))::(ba,arO p n c)::(row++L)):=H11.as kr;have A2:Arn B w0 w8 ba A ((bk,.cells (yG qu).toArray 116 (0,0))::L):=⟨p,n,c,row,hrow,H12.perm ((List.Perm.cons _ List.perm_middle).trans (List.Perm.swap _ _ _))⟩
 have hplen:(pre++e.1.take k).length=pre.length+k:=by rw [List.length_append,List.length_take,Nat.min_eq_left hke]
 have hpf': ∀x∈zM k l,(pre++e.1.take k).length+x.1.length≤1000000:=fun x hx=>by
  unfold zM at hx;obtain ⟨y,hy,rfl⟩:=List.mem_map.1 hx;have h3:=hpf y hy;have h4:=jO hhd y hy;have h5:=(kD y.1 e.1).1;rw [hplen];simp only [List.length_drop];omega
 have hcall:=ih (zM k l) (pre++e.1.take k) ba A br off cap C T fz A2 (List.mem_cons_of_mem _ hm) (hents▸hR) hrise' hok' (by rw [xF];exact hcap) hpf' (by rw [xF];omega);rw [hX,xF,hplen] at hcall;refine jw (some 15) 49 #[.pointer (some ⟨ba,0,none⟩),.slice (some ⟨br,off,none⟩) l.length cap,iN (pre.length+k)] hcall kr kr ?_;rintro _ w9 ⟨rfl,p',n',c',row',hrow',H13⟩;have H14:St B w0 w9 ((bk,.cells (yG qu).toArray 116 (0,0))::(ba,arO p' n' c')::(row'++L)):=H13.perm ((List.Perm.swap _ _ _).trans (List.Perm.cons _ List.perm_middle.symm));refine rp [.v,.s 0] H14 kr fun gs7 w10 H15=>wX []<|zd ?_;have H16:St B w0 w10 ((bk,.cells (yG (X.2::List.replicate 15 (-1))).toArray 116 (0,0))::(ba,arO p' n' c')::(row'++L)):=H15.as kr;have A3:Arn B w0 w10.drew ba X.1 ((bk,.cells (yG (X.2::List.replicate 15 (-1))).toArray 116 (0,0))::L):=⟨p',n',c',row',hrow',H16.drew.perm ((List.Perm.cons _ List.perm_middle).trans (List.Perm.swap _ _ _))⟩
 have c1:C[off+0*2]? =some (.string (zb (pre++e.1))):=hR.cell (xG hl0) 0 (by decide);have hl1:0<l.length:=by rw [←hle];simp
 refine zc kr<|D2.g_draw0 [0,1,2,3,4,5,6,7,8,9,10,11] [(some 17,fun _=>.pointer (some ⟨ba,0,none⟩)),(some 18,fun _=>.slice (some ⟨br,off,none⟩) l.length cap),(some 19,fun _=>.pointer (some ⟨br,off+0*2,none⟩)),(some 20,fun _=>.pointer (some ⟨br,off+0*2,none⟩)),(some 21,fun _=>.string (zb (pre++e.1))),(some 22,fun _=>iN pre.length),(some 23,fun _=>iN (pre.length+k)),(some 24,fun _=>.string (zb (e.1.take k))),(some 25,fun _=>.agg (yG (X.2::List.replicate 15 (-1))).toArray),(some 26,fun _=>ndV ⟨2,zb (e.1.take k),⟨#[]⟩,X.2::List.replicate 15 (-1)⟩),(some 27,fun _=>iN X.1.length),(some 6,fun _=>iN X.1.length)]
  (D2.two 10 (fun w=>Arn B w0 w ba X.1 ((bk,.cells (yG (X.2::List.replicate 15 (-1))).toArray 116 (0,0))::L)) (fun _ w=>Arn B w0 w ba (X.1++ [⟨2,zb (e.1.take k),⟨#[]⟩,X.2::List.replicate 15 (-1)⟩]) ((bk,.cells (yG (X.2::List.replicate 15 (-1))).toArray 116 (0,0))::L))) kr kr kr A3 ⟨?_,?_,?_,?_,?_,?_,?_,?_,?_,?_,?_,?_,trivial⟩ ?_
 ·exact D2.gv_val (fun _ _ _ h=>h) (fun g w=>by kernel_rfl)
 ·exact D2.gv_val (fun _ _ _ h=>h) (fun g w=>by kernel_rfl)
 ·exact D2.gv_op (fun _ _ _ h=>h) _ (fun g=>by kernel_rfl) (fun g o w ho=>yb (kd:=.i64) (t:=88) (e:=90) (K:=2) (bytes:=32) kr (x:=(.tmp 18)) (y:=(.const (.int .i64 0))) br off l.length cap 0 rfl ho kr kr hl1 w)
 ·exact D2.gv_val (fun _ _ _ h=>h) (fun g w=>by kernel_rfl)
 ·refine D2.gv_opW (fun _ _ _ h=>h) (.load 9 (.tmp 20)) (fun g=>by kernel_rfl) (fun L g o w hN hp ho=>?_);exact ua ((hp.bef (hN.2.2.no 9 10 kr (hN.2.2.no 7 9 kr (hN.post 7 kr)))).mem (List.mem_cons_of_mem _ hm)) kr kr c1 o ho
 ·exact D2.gv_val (fun _ _ _ h=>h) (fun g w=>by kernel_rfl)
 ·exact D2.gv_val (fun _ _ _ h=>h) (fun g w=>by kernel_rfl)
 ·exact D2.gv_opE (fun _ _ _ h=>h) _ (fun g=>by kernel_rfl) (fun g o w ho=>zdR (t:=9) (kd:=.i64) (kz:=.i64) kr (x:=(.tmp 21)) (y:=(.tmp 23)) (z:=(.tmp 22)) (zb (pre++e.1)) pre.length (pre.length+k) ho kr kr kr (by rw [zO,List.length_append];omega) (by omega) w) (congrArg Value.string (zfj pre e.1 _ _ k rfl rfl))
 ·refine D2.gv_ld (fun _ _ _ h=>h) 116 (.tmp 8) (fun _=>bk) 0 (yG (X.2::List.replicate 15 (-1))).toArray 116 (0,0) (fun g=>by kernel_rfl) (fun g=>by kernel_rfl) (fun L g w hN hp=>?_) kr kr;exact (hp.bef (hN.2.2.no 9 10 kr (hN.post 9 kr))).mem (List.mem_cons_self ..)
 ·exact D2.gv_val (fun _ _ _ h=>h) (fun g w=>by kernel_rfl)
 ·refine D2.gv_cc 117 #[.pointer (some ⟨ba,0,none⟩),ndV ⟨2,zb (e.1.take k),⟨#[]⟩,X.2::List.replicate 15 (-1)⟩] (fun L g w hN hp=>?_) (fun g w=>by kernel_rfl);refine (zbX _ ba X.1 (hp.bef hN.1) (by omega)).mono ?_;rintro ed w' ⟨v,rfl,rfl,h2⟩;exact ⟨_,rfl,default,rfl,D2.two.to h2⟩
 ·exact D2.gv_val (fun _ _ _ h=>h) (fun g w=>by kernel_rfl)
 ·intro L1 gg w14 hall hp;have h2:=hp.aft (hall 10 (Nat.le_of_ble_eq_true kr));refine wW<|zn kr<|wV ?_;exact ⟨[iN X.1.length],(.tmp (iN X.1.length) kr .nil),rfl,h2.sub (List.sublist_cons_self ..)⟩
section
variable {P:Program}{N:Nat}{ops:Array Oper}{i:Nat}{r:List Nat}{K:Env→World→Prop}{ρ:Env}{w:World}
theorem zfq (d:Option Nat)(t:TypeId)(x:Operand)(b off:Nat){C:Array Value}{T:TypeId}{fz:Nat×Nat}(v:Value)(h:opk ops i ρ=some (d,true,.load t x))(hd:dOK d N=true)(ht:oneCell P t=true)(hx:ev ρ x=.pointer (some ⟨b,off,none⟩))
 (hh:w.heap[b]? =some (.cells C T fz)) (hv:C[off]? =some v) (kk:WPs P N ops K r (zt ρ d v) w):WPs P N ops K (i::r) ρ w:=by
 obtain ⟨o,ho,rfl,hw,hop⟩:=zI h;refine WPo.run ho hw fun a ha=>?_;rw [ua hh ht hx hv o hop,Oper.upon_value];exact ⟨_,ha.put _ (zX hd) _,kk⟩
end
theorem zkD {P:Program}{ρ:Env}{t e e2:TypeId}{n:Nat}(ht:P.underlying t=some (.array n e))(he:P.underlying e=some (.slice e2))(hz:(P.info? e).map (·.size)=some 1){x y:Operand}{o:Oper}{kd:IntKind}(C:Array Value)(k:Nat)(v:Value)
 (ho:o.op=.index t x y) (hx:ev ρ x=.agg C) (hy:ev ρ y=.int kd (k:Int)) (hk:k<n) (hv:C[0+k*1]? =some v): ∀w,(execOp (ev ρ) o).run P w=.ok (.value v) w:=fun w=>by
 obtain ⟨it,hi,hsz⟩:=Option.map_eq_some_iff.1 hz;have hS:(sizeOf e).run P w=.ok 1 w:=by simp [sizeOf,typeInfo,hi,hsz]
 have hv2:C[k]? =some v:=by rw [Nat.zero_add,Nat.mul_one] at hv;exact hv
 have hp:(part e C k).run P w=.ok v w:=by
  unfold part isAgg;simp [run_underlying he,hv2]
 have h1:(0:Int)≤(k:Int)∧(k:Int)<(n:Int):=by omega
 unfold execOp;simp [ho,hx,hy,Instr.index,asIntOf,run_underlying ht,hS,hp,hk]
theorem zb1 {l:List Ent}(c:Nat)(h:yD l):yD (zo c l):=by
 unfold yD zo;refine List.Pairwise.filterMap _ ?_ h;rintro ⟨x,v⟩ ⟨y,v'⟩ hab a ha b hb;cases x with
 | nil=>simp at ha
 | cons a0 x=>
  cases y with
  | nil=>simp at hb
  | cons b0 y=>
   simp only [Option.ite_none_right_eq_some,Option.some.injEq] at ha hb;obtain ⟨ha0,rfl⟩:=ha;obtain ⟨hb0,rfl⟩:=hb;rcases xE hab with q | ⟨_,q⟩
   ·omega
   ·exact q
theorem kH {l:List Ent}{c:Nat}{x:Ent}(h:x∈zo c l):∃b,(b::x.1,x.2)∈l∧b.toNat=c:=by
 unfold zo at h;obtain ⟨⟨y,v⟩,hy,he⟩:=List.mem_filterMap.1 h;cases y with
 | nil=>simp at he
 | cons b t=>
  simp only [Option.ite_none_right_eq_some,Option.some.injEq] at he;obtain ⟨hb,rfl⟩:=he;exact ⟨b,hy,hb⟩
theorem jZ {f:Nat}{l:List Ent}(c:Nat)(h:Okl (f+1) l):Okl f (zo c l):=fun x hx=>by
 obtain ⟨b,hb,_⟩:=kH hx;obtain ⟨h1,h2⟩:=h _ hb;exact ⟨by simp only [List.length_cons] at h1;omega,fun y hy=>h2 y (List.mem_cons_of_mem _ hy)⟩
theorem uv (lay:List Ent→List Nd→List Nd×Int)(l:List Ent)(A:List Nd): ∀(n j:Nat),j<n→(zu lay l n A).2.getD j (-1)=(lay (zo j l) (zu lay l j A).1).2
 | n+1,j,h=>by
  have hl:=ze8 lay l n A;have hu:(zu lay l (n+1) A).2=(zu lay l n A).2++ [(lay (zo n l) (zu lay l n A).1).2]:=rfl;rw [List.getD_eq_getElem?_getD,hu];by_cases h1:j=n
  ·subst h1;rw [List.getElem?_append_right (by omega),hl,Nat.sub_self];rfl
  ·rw [List.getElem?_append_left (by omega),←List.getD_eq_getElem?_getD];exact uv lay l A n j (by omega)
theorem zfr (f:Nat)(l:List Ent)(A:List Nd)(n:Nat):(zu (zk f) l n A).1.length≤A.length+f*((List.range n).map fun c=>(zo c l).length).sum:=by
 induction n with
 | zero=>simp [zu]
 | succ n ih=>
  have:=vx f (zo n l) (zu (zk f) l n A).1;rw [List.range_succ,List.map_append,List.sum_append,Nat.mul_add];simp only [zu,List.map_cons,List.map_nil,List.sum_cons,List.sum_nil,Nat.add_zero];omega
theorem zkE (f:Nat)(l:List Ent)(A:List Nd)(n:Nat):(zu (zk f) l n A).1.length+f*(zo n l).length≤A.length+f*l.length:=by
 have h1:=zfr f l A n;have h2:=Nat.mul_le_mul_left f (vw l (n+1));rw [List.range_succ,List.map_append,List.sum_append,Nat.mul_add] at h2;simp only [List.map_cons,List.map_nil,List.sum_cons,List.sum_nil,Nat.add_zero] at h2;omega
theorem zfs: ∀ {l:List Ent},(∀e∈l,e.1≠[])→zW l=⟨#[]⟩
 | [],_=>rfl
 | e::r,h=>by unfold zW;rw [if_neg (h e (List.mem_cons_self ..))];exact zfs fun x hx=>h x (List.mem_cons_of_mem _ hx)
theorem zkF {e:Ent}{r:List Ent}(h:yD (e::r)): ∀x∈r,x.1≠[]:=fun x hx e0=>by
 have:=(List.pairwise_cons.1 h).1 x hx;rw [e0,uq] at this;cases this
abbrev bnO (v:ByteArray)(g:Nat→Value):Obj:=.cells ([Value.int .i64 3,Value.string ⟨#[]⟩,Value.string v]++zP 16 g).toArray 118 (0,0)
theorem zkG (f:Nat)(ih:uu f)(e e':Ent)(r:List Ent)(pre:List UInt8)(ba:Nat)(A:List Nd)(br off cap:Nat)(C:Array Value)(T:TypeId)(fz:Nat×Nat){B:Nat}{w0 w:World}{L:List (Nat×Obj)}(h:Arn B w0 w ba A L)(hm:(br,Obj.cells C T fz)∈L)(hR:yq pS C off (ym pre (e::e'::r)))
 (hrise:yD (e::e'::r)) (hok:Okl (f+1) (e::e'::r)) (hcap:(e::e'::r).length≤cap) (hpf: ∀x∈e::e'::r,pre.length+x.1.length≤1000000) (hA:A.length+(f+1)*(e::e'::r).length≤1000000000) (hk: ¬0<zr (e::e'::r)):
 Calls Tryz.prog 86 #[.pointer (some ⟨ba,0,none⟩),.slice (some ⟨br,off,none⟩) (e::e'::r).length cap,iN pre.length] w fun ed w'=> ∃v,ed=.returned v∧v=.int .i64 (zk (f+1) (e::e'::r) A).2∧Arn B w0 w' ba (zk (f+1) (e::e'::r) A).1 L:=by
 unfold zk;rw [if_neg hk];have hne: ∀x∈e'::r,x.1≠[]:=zkF hrise;generalize hle:e::e'::r=l at*;have hl0:l[0]? =some e:=by rw [←hle];rfl
 have hl2:2≤l.length:=by rw [←hle];simp
 have hpe:=hpf e (List.mem_of_getElem? hl0);have hmul:(f+1)*l.length=f*l.length+l.length:=Nat.succ_mul ..;have c1:C[off+0*2]? =some (.string (zb (pre++e.1))):=hR.cell (xG hl0) 0 (by decide);have c2:C[off+0*2+1]? =some (.string e.2):=hR.cell (xG hl0) 1 (by decide);refine ql (c:=zl Tryz.f86) (rs:=[.tmp 6]) (N:=44) Tryz.func86 kr kr kr ?_;obtain ⟨p,n,c,row,hrow,H0⟩:=h;refine rS [.v] H0 kr fun gs1 w1 H1=>zi [0,1,2] kr kr<|rp [.v] H1 kr fun gs2 w2 H2=>wX [1,2] ?_;have H3:St B w0 w2 ((ba,arO p n c)::(row++L)):=H2.as kr;refine qA H3 (some 7) 118 (.agg ([Value.int .i64 0,Value.string ⟨#[]⟩,Value.string ⟨#[]⟩]++zP 16 fun _=>.int .i64 0).toArray) kr kr kr ?_;intro b7 w3 H4;refine rp [.s 0] H4 kr fun gs3 w4 H5=>wX []<|zd ?_;have H6:St B w0 w4 ((b7,bnO ⟨#[]⟩ fun _=>.int .i64 0)::(ba,arO p n c)::(row++L)):=H5.as kr;clear H0 H1 H2 H3 H4 H5;have hbr: ∀ {w':World} {x:Nat×Obj} {y:Nat×Obj} {row':List (Nat×Obj)},St B w0 w' (x::y::(row'++L))→w'.heap[br]? =some (.cells C T fz):=fun hS=>(hS.own _ (List.mem_cons_of_mem _ (List.mem_cons_of_mem _ (List.mem_append_right _ hm)))).2;refine zc kr ?_
 refine jc (Q:=fun ed ρ ww=>ed=.normal∧∃(l':List Ent) (off' m' cap':Nat) (v:ByteArray),m'=l'.length∧kE 0 l'∧yD l'∧yq pS C off' (ym pre l')∧l'.length≤cap'∧l'.length≤1000000000∧(∀c,zo c l'=zo c l)∧v=zW l∧
  St B w0 ww ((b7,bnO v fun _=>.int .i64 0)::(ba,arO p n c)::(row++L))∧Is [(0,.pointer (some ⟨ba,0,none⟩)),(1,.slice (some ⟨br,off',none⟩) m' cap'),(2,iN pre.length),(7,.pointer (some ⟨b7,0,none⟩))] ρ) ?_ ?_
 ·refine zc kr<|zdi [0,1,2,3,4,5,6] kr<|rp [.v,.o (ins:=[((.tmp 11),.slice (some ⟨br,off,none⟩) l.length cap),((.const (.int .i64 0)),.int .i64 0)]) (v:=.pointer (some ⟨br,off+0*2,none⟩)) (fun ρ o w ho hi2=>yb (kd:=.i64) (t:=88) (e:=90) (K:=2) (bytes:=32) kr (x:=(.tmp 11)) (y:=(.const (.int .i64 0))) br off l.length cap 0 rfl ho hi2.1 hi2.2.1 (by omega) w),.v] H6 kr fun gs4 w5 H7=>wX [3,4,5,6] ?_;have H8:St B w0 w5 ((b7,bnO ⟨#[]⟩ fun _=>.int .i64 0)::(ba,arO p n c)::(row++L)):=H7.as kr;refine zfq (some 14) 9 (.tmp 13) br (off+0*2) (.string (zb (pre++e.1))) kr kr kr kr (hbr H8) c1 ?_;by_cases he0:e.1=[]
  ·refine rp [.v,.v,.E (.bool ((((zb (pre++e.1)).size:Nat):Int)==(pre.length:Int))) (.bool true) (za (beq_iff_eq.2 (by rw [zO,he0,List.append_nil])))] H8 kr fun gs5 w6 H9=>wX []<|zd<|wW<|zg kr kr<|zi [0,1,2,3,4,5] kr kr<|rp [.v,.o (ins:=[((.tmp 18),.slice (some ⟨br,off,none⟩) l.length cap),((.const (.int .i64 0)),.int .i64 0)]) (v:=.pointer (some ⟨br,off+0*2,none⟩)) (fun ρ o w ho hi2=>yb (kd:=.i64) (t:=88) (e:=90) (K:=2) (bytes:=32) kr (x:=(.tmp 18)) (y:=(.const (.int .i64 0))) br off l.length cap 0 rfl ho hi2.1 hi2.2.1 (by omega) w),.v] H9 kr fun gs6 w7 H10=>wX [3,4,5] ?_;have H11:St B w0 w7 ((b7,bnO ⟨#[]⟩ fun _=>.int .i64 0)::(ba,arO p n c)::(row++L)):=H10.as kr;refine zfq (some 21) 9 (.tmp 20) br (off+0*2+1) (.string e.2) kr kr kr kr (hbr H11) c2<|rp [.v,.s 0] H11 kr fun gs7 w8 H12=>wX []<|zd<|rL [.v,.o (ins:=[((.tmp 23),.slice (some ⟨br,off,none⟩) l.length cap),((.const (.int .i64 1)),.int .i64 1)]) (v:=.slice (some ⟨br,if cap=1 then off else off+1*2,none⟩) (l.length-1) (cap-1)) (fun ρ o w ho hi2=>jP (kz:=.i64) (t:=88) (e:=90) (size:=2) (bytes:=32) kr (x:=(.tmp 23)) (z:=(.const (.int .i64 1))) br off l.length cap 1 ho hi2.1 hi2.2.1 (by omega) hcap w),.v] H12 kr fun gs8 w9 H13=>?_;have hd1:l.drop 1=e'::r:=by rw [←hle];rfl
   refine ⟨rfl,e'::r,(if cap=1 then off else off+1*2),l.length-1,cap-1,e.2,by rw [←hle];rfl,fun x hx=>?_,?_,?_,?_,?_,fun c=>?_,?_,H13.as kr,(Is.of ⟨kr,kr,kr,kr,trivial⟩)⟩
   ·have hx2:x∈l:=by rw [←hle];exact List.mem_cons_of_mem _ hx
    have hb:=(hok x hx2).2;have hn0:=hne x hx;obtain ⟨y,v⟩:=x;cases y with
    | nil=>exact absurd rfl hn0
    | cons b t=>exact ⟨b,t,rfl,Nat.zero_le _,hb b (List.mem_cons_self ..)⟩
   ·rw [←hle] at hrise;exact hrise.tail
   ·rw [if_neg (by omega)];have:=hR.drop 1;rw [show (ym pre l).drop 1=ym pre (e'::r) by rw [←hd1];unfold ym;rw [List.map_drop]] at this;exact this
   ·rw [←hd1,List.length_drop];omega
   ·rw [←hd1,List.length_drop];omega
   ·rw [←hle];obtain ⟨y,v⟩:=e;simp only at he0;subst he0;rfl
   ·rw [←hle];unfold zW;rw [if_pos he0]
  ·refine rp [.v,.v,.E (.bool ((((zb (pre++e.1)).size:Nat):Int)==(pre.length:Int))) (.bool false) (za (beq_eq_false_iff_ne.2 (by
    have:e.1.length≠0:=fun q=>he0 (List.eq_nil_of_length_eq_zero q)
    rw [zO,List.length_append];omega)))] H8 kr fun gs5 w6 H9=>?_
   refine wX []<|zd<|wW<|zf kr kr<|zh kr ?_;have hall: ∀x∈l,x.1≠[]:=fun x hx=>by
    rw [←hle] at hx;rcases List.mem_cons.1 hx with rfl | hx
    ·exact he0
    ·exact hne x hx
   refine ⟨rfl,l,off,l.length,cap,⟨#[]⟩,rfl,fun x hx=>?_,hrise,hR,hcap,by omega,fun _=>rfl,(zfs hall).symm,H9.as kr,(Is.of ⟨kr,kr,kr,kr,trivial⟩)⟩;have hb:=(hok x hx).2;have hn0:=hall x hx;obtain ⟨y,v⟩:=x;cases y with
   | nil=>exact absurd rfl hn0
   | cons b t=>exact ⟨b,t,rfl,Nat.zero_le _,hb b (List.mem_cons_self ..)⟩
 rintro _ _ w5 ⟨rfl,l',off',m',cap',v,rfl,hF',hrise',hR',hcap',hlen',hcut,hv,H7,_,rfl⟩;refine wW<|zc kr<|zi [0,1,2,3] kr kr<|rp [.v,.v] H7 kr fun gs4 w6 H8=>wX [2,3] ?_;have H9:St B w0 w6 ((b7,bnO v fun _=>.int .i64 0)::(ba,arO p n c)::(row++L)):=H8.as kr;refine zhW H9 (some 27) 116 #[.slice (some ⟨br,off',none⟩) l'.length cap',iN pre.length] _ _ (zkA l' pre br off' cap' C T fz hR' hrise' hF' hlen' hcap' (by omega)) (hbr H9) kr kr ?_;rintro _ w7 _ H10 ⟨q,cc,rfl,hHp,hcs⟩;refine rp [.v] H10 kr fun gs5 w8 H11=>wX []<|zd<|zj 0 kr ?_;have H12:St B w0 w8 ((b7,bnO v fun _=>.int .i64 0)::(ba,arO p n c)::(row++L)):=H11.as kr;clear H6 H7 H8 H9 H10 H11
 let kd:Nat→Int:=fun j=>(zk f (zo j l) (zu (zk f) l j A).1).2
 have hkd: ∀j,(zk f (zo j l) (zu (zk f) l j A).1).2=kd j:=fun _=>rfl;generalize kd=kd at hkd;refine zz kr (fun mz ρ ww=> ∃(i:Nat) (p:Option Addr) (n c:Nat) (row:List (Nat×Obj)),16-i=mz∧i≤16∧zR nS 118 p n c row (zu (zk f) l i A).1∧St B w0 ww ((b7,bnO v fun j=>.int .i64 (if j<i then kd j else 0))::(ba,arO p n c)::(row++L))∧Is [(0,.pointer (some ⟨ba,0,none⟩)),(2,iN pre.length),(7,.pointer (some ⟨b7,0,none⟩)),(27,.agg (zP 16 (hpF l' br 16 q cc)).toArray),(28,iN i)] ρ) (16-0) ⟨0,p,n,c,row,rfl,Nat.zero_le _,hrow,H12,(Is.of ⟨kr,kr,kr,kr,kr,trivial⟩)⟩ ?_;clear H12;rintro _ _ w9 ⟨i,p,n,c,row,rfl,hi16,hrow,H13,_,rfl⟩;by_cases hi:i<16
 ·refine rS [.E (.bool (decide ((i:Int)<16))) (.bool true) (za (decide_eq_true (by omega)))] H13 kr fun gs6 w10 H14=>zc kr<|zg kr kr<|zh kr<|wW<|zc kr<|zj 1 kr ?_;have hval:(zP 16 (hpF l' br 16 q cc)).toArray[0+i*1]? =some (.slice (some ⟨br,q i,none⟩) (zo i l').length (cc i)):=by
   rw [List.getElem?_toArray,Nat.zero_add,Nat.mul_one,kt hi];unfold hpF;rw [if_pos hi]
  refine rS [.v,.o (ins:=[((.tmp 27),.agg (zP 16 (hpF l' br 16 q cc)).toArray),((.tmp 28),iN i)]) (v:=.slice (some ⟨br,q i,none⟩) (zo i l').length (cc i)) (fun ρ o w ho hi2=>zkD (t:=161) (e:=88) (e2:=90) (n:=16) (kd:=.i64) kr kr kr (x:=(.tmp 27)) (y:=(.tmp 28)) _ i _ ho hi2.1 hi2.2.1 hi hval w),.v,.v] H14 kr fun gs7 w11 H15=>qm [0,1,2,3,4,5,6,7,8] kr<|rp [.v,.v,.v,.v,.E (.int .i64 (IntKind.i64.wrap ((pre.length:Int)+1))) (iN (pre.length+1)) (ze (zm (a:=pre.length) (b:=1) (by omega)))] H15 kr fun gs8 w12 H16=>wX [5,6,7,8] ?_;have H17:St B w0 w12 ((b7,bnO v fun j=>.int .i64 (if j<i then kd j else 0))::(ba,arO p n c)::(row++L)):=H16.as kr;have A2:Arn B w0 w12 ba (zu (zk f) l i A).1 ((b7,bnO v fun j=>.int .i64 (if j<i then kd j else 0))::L):=⟨p,n,c,row,hrow,H17.perm ((List.Perm.cons _ List.perm_middle).trans (List.Perm.swap _ _ _))⟩
  have hroom:=zkE f l A i
  have hcall:=ih (zo i l) (pre++ [UInt8.ofNat i]) ba (zu (zk f) l i A).1 br (q i) (cc i) C T fz A2 (List.mem_cons_of_mem _ hm) (by rw [←hcut i];exact hHp i hi) (zb1 i hrise) (jZ i hok) (by rw [←hcut i];exact hcs i hi) (fun x hx=>by
   obtain ⟨b,hb,_⟩:=kH hx;have:=hpf _ hb
   simp only [List.length_append,List.length_cons,List.length_nil] at this ⊢;omega) (by omega)
  rw [hkd i,show (pre++ [UInt8.ofNat i]).length=pre.length+1 by simp,←hcut i] at hcall;refine jw (some 37) 49 #[.pointer (some ⟨ba,0,none⟩),.slice (some ⟨br,q i,none⟩) (zo i l').length (cc i),iN (pre.length+1)] hcall kr kr ?_;rintro _ w13 ⟨rfl,p',n',c',row',hrow',H18⟩;rw [hcut i] at hrow';have H19:St B w0 w13 ((b7,bnO v fun j=>.int .i64 (if j<i then kd j else 0))::(ba,arO p' n' c')::(row'++L)):=H18.perm ((List.Perm.swap _ _ _).trans (List.Perm.cons _ List.perm_middle.symm))
  refine rp [.v,.o (ins:=[((.tmp 38),.pointer (some ⟨b7,3,none⟩)),((.tmp 32),iN i)]) (v:=.pointer (some ⟨b7,3+i*1,none⟩)) (fun ρ o w ho hi2=>yS (t:=116) (n:=16) (size:=1) (kd:=.i64) kr (x:=(.tmp 38)) (y:=(.tmp 32)) b7 3 i ho hi2.1 hi2.2.1 hi w),
   .se 0 (C:=([Value.int .i64 3,Value.string ⟨#[]⟩,Value.string v]++zP 16 fun j=>.int .i64 (if j<i then kd j else 0)).toArray) (C':=([Value.int .i64 3,Value.string ⟨#[]⟩,Value.string v]++zP 16 fun j=>.int .i64 (if j<i+1 then kd j else 0)).toArray) (off:=3+i*1) (v:=.int .i64 (kd i)) (by show 3+i*1+1≤_;rw [List.size_toArray,List.length_append,xt];simp only [List.length_cons,List.length_nil];omega) (by
    have:=vX (C:=([Value.int .i64 3,Value.string ⟨#[]⟩,Value.string v]++zP 16 fun j=>Value.int .i64 (if j<i then kd j else 0)).toArray) (pre:=[Value.int .i64 3,Value.string ⟨#[]⟩,Value.string v]) (post:=[]) (n:=16) (f:=fun j=>.int .i64 (if j<i then kd j else 0)) (g:=fun j=>.int .i64 (if j<i+1 then kd j else 0)) (by simp) (off:=3+i*1) (k:=i) (v:=.int .i64 (kd i)) rfl (by simp) hi (fun j _=>by
     by_cases h1:j=i
     ·subst h1;simp
     ·rw [if_neg h1];by_cases h2:j<i
      ·rw [if_pos h2,if_pos (by omega)]
      ·rw [if_neg h2,if_neg (by omega)])
    rw [List.append_nil] at this
    exact this)] H19 kr fun gs9 w14 H20=>?_
  refine wX []<|zd<|wW<|rL [.E (.int .i64 (IntKind.i64.wrap ((i:Int)+1))) (.int .i64 ((i+1:Nat):Int)) (ze (zm (a:=i) (b:=1) (by omega))),.v] H20 kr fun gs10 w15 H21=>?_;show ∃m,_∧_;exact ⟨_,(by omega),i+1,p',n',c',row',rfl,hi,hrow',H21.as kr,(Is.of ⟨kr,kr,kr,kr,kr,trivial⟩)⟩
 ·obtain rfl:i=16:=by omega
  refine rS [.v] H13 kr fun gs6 w10 H14=>zc kr<|zf kr kr<|zw 0 kr<|wW ?_;have hnd:bnO v (fun j=>.int .i64 (if j<16 then kd j else 0))=ndO ⟨3,⟨#[]⟩,zW l,(zu (zk f) l 16 A).2⟩:=by
   have e1:zP 16 (fun j=>Value.int .i64 (if j<16 then kd j else 0))=yG (zu (zk f) l 16 A).2:=zir fun j hj=>by
    rw [if_pos hj,uv (zk f) l A 16 j hj,hkd j]
   unfold bnO ndO;rw [e1,hv];rfl
  refine zi [0,1,2,3] kr kr ?_;have H15:St B w0 w10 ((b7,bnO v fun j=>.int .i64 (if j<16 then kd j else 0))::(ba,arO p n c)::(row++L)):=H14.as kr;rw [hnd] at H15;refine rp [.v,.l 0] H15 kr fun gs7 w11 H16=>wX [2,3] ?_;have H17:St B w0 w11 ((b7,ndO ⟨3,⟨#[]⟩,zW l,(zu (zk f) l 16 A).2⟩)::(ba,arO p n c)::(row++L)):=H16.as kr;have A2:Arn B w0 w11 ba (zu (zk f) l 16 A).1 ((b7,ndO ⟨3,⟨#[]⟩,zW l,(zu (zk f) l 16 A).2⟩)::L):=⟨p,n,c,row,hrow,H17.perm ((List.Perm.cons _ List.perm_middle).trans (List.Perm.swap _ _ _))⟩
  have hsz:=zfr f l A 16;have hsz2:=Nat.mul_le_mul_left f (vw l 16);refine jw (some 43) 117 #[.pointer (some ⟨ba,0,none⟩),ndV ⟨3,⟨#[]⟩,zW l,(zu (zk f) l 16 A).2⟩] (zbX _ ba _ A2 (by omega)) kr kr ?_;rintro _ w12 ⟨rfl,hA3⟩;obtain ⟨p',n',c',row',hrow',H18⟩:=hA3;refine rp [.v] H18 kr fun gs8 w13 H19=>wX []<|zd<|rRr [.tmp 6] [] (iN (zu (zk f) l 16 A).1.length) (fun v' w'=>v'=.int .i64 ((zu (zk f) l 16 A).1.length:Int)∧Arn B w0 w' ba ((zu (zk f) l 16 A).1++ [⟨3,⟨#[]⟩,zW l,(zu (zk f) l 16 A).2⟩]) L) H19 kr ?_;exact ⟨rfl,Arn.sub (L:=(b7,ndO ⟨3,⟨#[]⟩,zW l,(zu (zk f) l 16 A).2⟩)::L) ⟨p',n',c',row',hrow',H19.as kr⟩ (List.sublist_cons_self ..)⟩
theorem zft (f:Nat)(pre:List UInt8)(ba:Nat)(A:List Nd)(sp:Option Addr)(cap:Nat){B:Nat}{w0 w:World}{L:List (Nat×Obj)}(h:Arn B w0 w ba A L):
 Calls Tryz.prog 49 #[.pointer (some ⟨ba,0,none⟩),.slice sp 0 cap,iN pre.length] w fun ed w'=> ∃v,ed=.returned v∧v=.int .i64 (zk f [] A).2∧Arn B w0 w' ba (zk f [] A).1 L:=by
 have e0:zk f [] A=(A,-1):=by cases f<;>rfl
 rw [e0];refine ql (c:=zl Tryz.f49) (rs:=[.tmp 6]) (N:=31) Tryz.func49 kr kr kr ?_;obtain ⟨p,n,c,row,hrow,H0⟩:=h;refine rS [.v] H0 kr fun gs1 w1 H1=>rS [.v,.v,.v] H1 kr fun gs2 w2 H2=>zc kr<|zj 0 kr<|rS [.v,.v,.v,.v] H2 kr fun gs3 w3 H3=>zg kr kr<|rS [.v] H3 kr fun gs4 w4 H4=>rRr [.tmp 6] [] (.int .i64 (-1)) (fun v' w'=>v'=.int .i64 (-1)∧Arn B w0 w' ba A L) H4 kr ?_;exact ⟨rfl,p,n,c,row,hrow,H4.as kr⟩
theorem zkH (f:Nat)(ih:uu f):uu (f+1):=by
 intro l pre ba A br off cap C T fz B w0 w L h hm hR hrise hok hcap hpf hA
 match l,hR,hrise,hok,hcap,hpf,hA with
 | [],_,_,_,_,_,_=>exact zft (f+1) pre ba A _ cap h
 | [e],hR,hrise,hok,hcap,hpf,hA=>
  have hA2:A.length≤100000000000:=by omega
  refine ql (c:=zl Tryz.f49) (rs:=[.tmp 6]) (N:=31) Tryz.func49 kr kr kr ?_;obtain ⟨p,n,c,row,hrow,H0⟩:=h;refine rS [.v] H0 kr fun gs1 w1 H1=>rS [.v,.v,.v] H1 kr fun gs2 w2 H2=>zc kr<|zj 0 kr<|rS [.v,.v,.v,.v] H2 kr fun gs3 w3 H3=>zf kr kr<|rS [.v,.v,.v,.v] H3 kr fun gs4 w4 H4=>zg kr kr<|rL [.v,.v,.v] H4 kr fun gs5 w5 H5=>wW<|zi [0,1,2,3,4] kr kr<|rp [.v,.v,.v] H5 kr fun gs6 w6 H6=>wX [3,4]<|jw (some 30) 87 #[.pointer (some ⟨ba,0,none⟩),.slice (some ⟨br,off,none⟩) 1 cap,iN pre.length] (zky e pre ba A br off cap C T fz ⟨p,n,c,row,hrow,H6.as kr⟩ hm hR hA2) kr kr ?_;rintro _ w7 ⟨rfl,p',n',c',row',hrow',H7⟩;refine rp [.v] H7 kr fun gs7 w8 H8=>wX []<|zd<|rRr [.tmp 6] [] (iN A.length) (fun v' w'=>v'=.int .i64 (zk (f+1) [e] A).2∧Arn B w0 w' ba (zk (f+1) [e] A).1 L) H8 kr ?_;exact ⟨rfl,p',n',c',row',hrow',H8.as kr⟩
 | e::e'::r,hR,hrise,hok,hcap,hpf,hA=>
  obtain ⟨z,hz,hz2⟩:=zfp (l:=e::e'::r) (by simp);have hl0:(e::e'::r)[0]? =some e:=rfl;have hpe:=hpf e (List.mem_of_getElem? hl0);have hpz:=hpf z (List.mem_of_getElem? hz2);have hmul:(f+1)*(e::e'::r).length=f*(e::e'::r).length+(e::e'::r).length:=Nat.succ_mul ..;obtain ⟨m,hml⟩:∃m,(e::e'::r).length=m:=⟨_,rfl⟩
  have hm2:2≤m:=by rw [←hml];simp
  have hcom:shr (tl (zb (pre++e.1))) (tl (zb (pre++z.1)))=pre.length+zr (e::e'::r):=by rw [yx,yx,ut,←ze7 hrise hz]
  have hcf:=zfg br off m cap C T fz (ym pre (e::e'::r)) _ _ hR (by rw [zfk,hml]) (by omega) (xG hl0) (by rw [←hml];exact xG hz2) (by rw [zO,List.length_append];omega) (by rw [zO,List.length_append];omega);rw [hcom] at hcf;have hj:=fun w=>zkC f ih e e' r pre ba A br off cap C T fz (B:=B) (w0:=w0) (w:=w) (L:=L);have hb:=fun w=>zkG f ih e e' r pre ba A br off cap C T fz (B:=B) (w0:=w0) (w:=w) (L:=L);rw [hml] at hj hb ⊢;refine ql (c:=zl Tryz.f49) (rs:=[.tmp 6]) (N:=31) Tryz.func49 kr kr kr ?_;obtain ⟨p,n,c,row,hrow,H0⟩:=h;refine rS [.v] H0 kr fun gs1 w1 H1=>rS [.v,.v,.v] H1 kr fun gs2 w2 H2=>zc kr<|zj 0 kr<|rS [.v,.v,.E (.bool ((m:Int)==0)) (.bool false) (za (beq_eq_false_iff_ne.2 (by omega))),.v] H2 kr fun gs3 w3 H3=>zf kr kr<|rS [.v,.v,.E (.bool ((m:Int)==1)) (.bool false) (za (beq_eq_false_iff_ne.2 (by omega))),.v] H3 kr fun gs4 w4 H4=>zf kr kr<|zi [0,1,2,3,4] kr kr<|rp [.v] H4 kr fun gs5 w5 H5=>wX [1,2,3,4] ?_;have H6:St B w0 w5 ((ba,arO p n c)::(row++L)):=H5.as kr;refine qd H6 (some 22) 88 #[.slice (some ⟨br,off,none⟩) m cap] _ _ hcf (H6.own _ (List.mem_cons_of_mem _ (List.mem_append_right _ hm))).2 (fun w=>by kernel_rfl) kr ?_;intro w6 H7;by_cases hk:0<zr (e::e'::r)
  ·refine rp [.v,.E (.bool (decide ((pre.length:Int)<((pre.length+zr (e::e'::r):Nat):Int)))) (.bool true) (za (decide_eq_true (by omega))),.v] H7 kr fun gs6 w7 H8=>wX []<|zd<|zg kr kr<|rL [.v,.v,.v] H8 kr fun gs7 w8 H9=>wW<|zi [0,1,2,3,4] kr kr<|rp [.v,.v,.v] H9 kr fun gs8 w9 H10=>wX [3,4]<|jw (some 30) 89 #[.pointer (some ⟨ba,0,none⟩),.slice (some ⟨br,off,none⟩) m cap,iN pre.length] (hj _ ⟨p,n,c,row,hrow,H10.as kr⟩ hm hR hrise hok (hml▸hcap) hpf (hml▸hA) hk) kr kr ?_;rintro _ w10 ⟨rfl,p',n',c',row',hrow',H11⟩;refine rp [.v] H11 kr fun gs9 w11 H12=>wX []<|zd<|rRr [.tmp 6] [] (.int .i64 (zk (f+1) (e::e'::r) A).2) (fun v' w'=>v'=.int .i64 (zk (f+1) (e::e'::r) A).2∧Arn B w0 w' ba (zk (f+1) (e::e'::r) A).1 L) H12 kr ?_;exact ⟨rfl,p',n',c',row',hrow',H12.as kr⟩
  ·refine rp [.v,.E (.bool (decide ((pre.length:Int)<((pre.length+zr (e::e'::r):Nat):Int)))) (.bool false) (za (decide_eq_false (by omega))),.v] H7 kr fun gs6 w7 H8=>wX []<|zd<|zf kr kr<|zh kr<|wW<|zi [0,1,2,3,4] kr kr<|rp [.v,.v,.v] H8 kr fun gs8 w9 H10=>wX [3,4]<|jw (some 30) 86 #[.pointer (some ⟨ba,0,none⟩),.slice (some ⟨br,off,none⟩) m cap,iN pre.length] (hb _ ⟨p,n,c,row,hrow,H10.as kr⟩ hm hR hrise hok (hml▸hcap) hpf (hml▸hA) hk) kr kr ?_;rintro _ w10 ⟨rfl,p',n',c',row',hrow',H11⟩;refine rp [.v] H11 kr fun gs9 w11 H12=>wX []<|zd<|rRr [.tmp 6] [] (.int .i64 (zk (f+1) (e::e'::r) A).2) (fun v' w'=>v'=.int .i64 (zk (f+1) (e::e'::r) A).2∧Arn B w0 w' ba (zk (f+1) (e::e'::r) A).1 L) H12 kr ?_;exact ⟨rfl,p',n',c',row',hrow',H12.as kr⟩
theorem zfu: ∀f,uu f
 | 0=>by
  intro l pre ba A br off cap C T fz B w0 w L h hm hR hrise hok hcap hpf hA;cases l with
  | nil=>exact zft 0 pre ba A _ cap h
  | cons e r=>exact absurd (hok e (List.mem_cons_self ..)).1 (Nat.not_lt_zero _)
 | f+1=>zkH f (zfu f)
abbrev Pr:=ByteArray×ByteArray
def zF (L:List Pr):List Ent:=L.map fun x=>(hv (tl x.1),x.2)
def yH (w:World)(p:Option Addr)(n:Nat)(L:List Pr):Prop:=n=L.length∧(L=[]∨∃b off C T fz,p=some ⟨b,off,none⟩∧w.heap[b]? =some (.cells C T fz)∧yq pS C off L)
theorem yH.call {w w':World}{p:Option Addr}{n:Nat}{L:List Pr}(h:yH w p n L)(hb:Below w.heap.size w w'):yH w' p n L:=by
 obtain ⟨h1,h2⟩:=h;refine ⟨h1,h2.imp id ?_⟩;rintro ⟨b,off,C,T,fz,e,hh,hr⟩;exact ⟨b,off,C,T,fz,e,by rw [hb.block b (zC hh)];exact hh,hr⟩
theorem zb2 (l:List UInt8): ∀b∈hv l,b.toNat<16:=fun b hb=>by
 have h:=zbT l;unfold isP at h;have:=of_decide_eq_true (List.all_eq_true.1 h b hb);omega
def zaz (L:List Pr)(v:Value)(T:List (Nat×Obj)):Prop:=∃(p:Option Addr) (n c:Nat),zR nS 118 p n c T (zk 65 (zF L) []).1∧v=.agg #[.slice p n c,.int .i64 (zk 65 (zF L) []).2]
abbrev trO (p:Option Addr)(n c:Nat)(r:Int):Obj:=.cells #[.slice p n c,.int .i64 r] 38 (0,0)
abbrev eR (C:Array Value):Obj:=.cells C 90 (0,0)
theorem uw (p:Option Addr)(n c:Nat)(L:List Pr)(hL:L.length≤1000000)(hk: ∀x∈L,x.1.size≤32)(hrise:yD (zF L)):FnT Tryz.prog 27 #[.slice p n c] (fun w=>yH w p n L) (zaz L):=by
 refine FnT.intro (c:=zl Tryz.f27) [.cell 2 38] 34 Tryz.func27 kr kr kr fun w hP=>?_;have H0:=St.start w;have hn:=hP.1;refine rS [.a] H0 kr fun gs1 w1 H1=>zi [0,1,2,3] kr kr<|rp [.v,.v] H1 kr fun gs2 w2 H2=>wX [2,3] ?_;have H3:St w.heap.size w w2 [((gs1 0).b,trO none 0 0 0)]:=H2.as kr;refine zd0 H3 (some 10) 88 90 2 32 (.tmp 9) (.tmp 9) .i64 .i64 n kr kr kr kr kr (by omega) (by unfold maxLen;omega) ?_;intro br C0 w3 H4 hC0;refine rp [.v] H4 kr fun gs3 w4 H5=>wX []<|zd<|zc kr<|rS [.v,.v,.v] H5 kr fun gs4 w5 H6=>zj 0 kr ?_;have H7:St w.heap.size w w5 [(br,eR C0),((gs1 0).b,trO none 0 0 0)]:=H6.as kr;clear H0 H1 H2 H3 H4 H5 H6;refine zz kr (fun mz ρ ww=> ∃(i:Nat) (C:Array Value),n-i=mz∧i≤n∧xu pS C n i (ym [] (zF (L.take i)))∧St w.heap.size w ww [(br,eR C),((gs1 0).b,trO none 0 0 0)]∧Is [(2,.pointer (some ⟨(gs1 0).b,0,none⟩)),(3,.slice (some ⟨br,0,none⟩) n n),(11,.slice p n c),(12,iN n),(13,iN i)] ρ) (n-0) ⟨0,C0,rfl,Nat.zero_le _,xu.start hC0,H7,(Is.of ⟨kr,kr,kr,kr,kr,trivial⟩)⟩ ?_;clear H7;rintro _ _ w6 ⟨i,C,rfl,hin,hFill,H8,_,rfl⟩;by_cases hi:i<n
 ·refine rS [.E (.bool (decide ((i:Int)<(n:Int)))) (.bool true) (za (decide_eq_true (by omega)))] H8 kr fun gs5 w7 H9=>zc kr<|zg kr kr<|zh kr<|wW<|zc kr<|zj 1 kr ?_;obtain ⟨x,hx⟩:∃x,L[i]? =some x:=⟨_,List.getElem?_eq_getElem (by omega)⟩
  obtain ⟨b,off,C1,T1,fz1,hp,hh,hR⟩:∃b off C T fz,p=some ⟨b,off,none⟩∧w.heap[b]? =some (.cells C T fz)∧yq pS C off L:=by
   rcases hP.2 with h|h
   ·rw [h] at hx;simp at hx
   ·exact h
  obtain ⟨hr1,hr2⟩:=hR i x hx;have hxk:=hk x (List.mem_of_getElem? hx);refine rS [.v,.o (ins:=[((.tmp 11),.slice p n c),((.tmp 13),iN i)]) (v:=.pointer (some ⟨b,off+i*2,none⟩)) (fun ρ o w ho hi2=>yb (kd:=.i64) (t:=50) (e:=64) (K:=2) (bytes:=32) kr (x:=(.tmp 11)) (y:=(.tmp 13)) b off n c i hp ho hi2.1 hi2.2.1 hi w),.fp (off:=off+i*2) (n:=2) (W:=#[.string x.1,.string x.2]) hh (zC hh) hr1 hr2,.a,.v,.s 2] H9 kr fun gs6 w8 H10=>?_;have hput:=hFill.put (zb (hv (tl x.1)),x.2) (v:=.agg #[.string (zb (hv (tl x.1))),.string x.2]) rfl hi;refine dL [.v,.v,.v,.l 2,.c (zkp x.1 (by omega)),.v,.l 2,.v,.o (ins:=[((.tmp 18),.slice (some ⟨br,0,none⟩) n n),((.tmp 19),iN i)]) (v:=.pointer (some ⟨br,0+i*2,none⟩)) (fun ρ o w ho hi2=>yb (kd:=.i64) (t:=88) (e:=90) (K:=2) (bytes:=32) kr (x:=(.tmp 18)) (y:=(.tmp 19)) br 0 n n i rfl ho hi2.1 hi2.2.1 hi w),.se 0 (C:=C) (C':=uc C (0+i*2) (.agg #[.string (zb (hv (tl x.1))),.string x.2])) (off:=0+i*2) (v:=.agg #[.string (zb (hv (tl x.1))),.string x.2]) hput.1 rfl] H10 kr fun w9 H11=>wW<|rL [.E (.int .i64 (IntKind.i64.wrap ((i:Int)+1))) (.int .i64 ((i+1:Nat):Int)) (ze (zm (a:=i) (b:=1) (by omega))),.v] H11 kr fun gs7 w10 H12=>?_;have H13:St w.heap.size w w10 [(br,eR (uc C (0+i*2) (.agg #[.string (zb (hv (tl x.1))),.string x.2]))),((gs1 0).b,trO none 0 0 0),((gs6 3).b,.cells #[.string x.1,.string x.2] 64 (0,0))]:=H12.as kr;show ∃m,_∧_;refine ⟨_,(by omega),i+1,_,rfl,hi,?_,H13.sub (List.Sublist.cons_cons _ (List.Sublist.cons_cons _ (List.nil_sublist _))),(Is.of ⟨kr,kr,kr,kr,kr,trivial⟩)⟩;have e1:ym [] (zF (L.take (i+1)))=ym [] (zF (L.take i))++ [(zb (hv (tl x.1)),x.2)]:=by
   rw [List.take_add_one,hx];unfold ym zF;simp
  rw [e1];exact hput.2
 ·obtain rfl:i=n:=by omega
  refine rS [.E (.bool (decide ((i:Int)<(i:Int)))) (.bool false) (za (decide_eq_false (by omega)))] H8 kr fun gs5 w7 H9=>zc kr<|zf kr kr<|zw 0 kr<|wW ?_;have hall:ym [] (zF (L.take i))=ym [] (zF L):=by rw [List.take_of_length_le (by omega)]
  rw [hall] at hFill;have hrow:=(hFill.done (by unfold maxLen;omega)).rowAt;have H10:St w.heap.size w w7 [(br,eR C),((gs1 0).b,trO none 0 0 0)]:=H9.as kr;refine zi [0] kr kr<|qA H10 (some 6) 92 (.agg #[.slice none 0 0]) kr kr kr ?_;intro b6 w8 H11;refine zd<|zi [0,1,2] kr kr<|rp [.v] H11 kr fun gs6 w9 H12=>wX [1,2] ?_;have A1:Arn w.heap.size w w9 b6 [] [(br,eR C),((gs1 0).b,trO none 0 0 0)]:=⟨none,0,0,[],.inl ⟨rfl,rfl,rfl,rfl,rfl⟩,H12.as kr⟩
  have hel:(zF L).length=i:=by unfold zF;rw [List.length_map];exact hn.symm
  have hcall:=zfu 65 (zF L) [] b6 [] br 0 i C 90 (0,0) A1 (List.mem_cons_self ..) hrow hrise (fun e he=>by
   unfold zF at he;obtain ⟨y,hy,rfl⟩:=List.mem_map.1 he;have:=hk y hy
   exact ⟨by show (hv (tl y.1)).length<65;rw [xY,zy];omega,zb2 _⟩) (by rw [hel];exact Nat.le_refl _) (fun e he=>by
   unfold zF at he;obtain ⟨y,hy,rfl⟩:=List.mem_map.1 he;have:=hk y hy;show 0+(hv (tl y.1)).length≤1000000
   rw [xY,zy];omega) (by rw [hel];simp only [List.length_nil];omega)
  rw [hel] at hcall;refine jw (some 29) 49 #[.pointer (some ⟨b6,0,none⟩),.slice (some ⟨br,0,none⟩) i i,iN 0] hcall kr kr ?_;rintro _ w10 ⟨rfl,p',n',c',row',hrow',H13⟩;have H14:St w.heap.size w w10 ((b6,arO p' n' c')::(br,eR C)::((gs1 0).b,trO none 0 0 0)::row'):=H13.perm (List.Perm.cons _ (List.perm_append_comm (l₁:=[(br,eR C),((gs1 0).b,trO none 0 0 0)]) (l₂:=row')));refine rp [.v] H14 kr fun gs7 w11 H15=>wX []<|zd<|rS [.v,.l 0,.v,.v,.s 2] H15 kr fun gs8 w12 H16=>rRr [.cell 2 38] [2] (.agg #[.slice p' n' c',.int .i64 (zk 65 (zF L) []).2]) (yf w.heap.size w (zaz L)) H16 kr ?_;have H17:St w.heap.size w w12 ((b6,arO p' n' c')::(br,eR C)::((gs1 0).b,trO p' n' c' (zk 65 (zF L) []).2)::row'):=H16.as kr;exact ⟨row',⟨p',n',c',hrow',rfl⟩,H17.sub (List.Sublist.cons _ (List.Sublist.cons _ (List.sublist_cons_self ..)))⟩
def mayM (k v:ByteArray):Bool:=(decide (1≤k.size)&&decide (k.size≤32))&&(decide (1≤v.size)&&decide (v.size≤500))
def qv (part:List UInt8)(v:ByteArray)(ps:List Pr):List Pr:=if mayM (kyS part) v=true then ps++ [(kyS part,v)] else ps
def qw (kind:Int)(i:Nat):List UInt8:=if kind=3 then [UInt8.ofNat i] else []
def yy (go:Int→List UInt8→Nat×List Pr→Nat×List Pr)(x:Nd)(part:List UInt8):Nat→Nat×List Pr→Nat×List Pr
 | 0,s=>s
 | i+1,s=>if x.kids.getD i (-1)= -1 then yy go x part i s else go (x.kids.getD i (-1)) (part++qw x.kind i) (yy go x part i s)
def yt (A:List Nd):Nat→Int→List UInt8→Nat×List Pr→Nat×List Pr
 | 0,_,_,s=>s
 | f+1,at_,ahead,s=>
  if s.1=0∨at_<0∨(A.length:Int)≤at_ then s
  else match A[at_.toNat]? with
   | none=>s
   | some x=>if 64<ahead.length+x.part.size then (s.1-1,s.2)
    else yy (yt A f) x (ahead++tl x.part) 16 (s.1-1,qv (ahead++tl x.part) x.value s.2)
def yO (w:World)(p:Option Addr)(n:Nat)(A:List Nd):Prop:=n=A.length∧(A=[]∨∃b off C T fz,p=some ⟨b,off,none⟩∧w.heap[b]? =some (.cells C T fz)∧yq nS C off A)
theorem yO.call {w w':World}{p:Option Addr}{n:Nat}{A:List Nd}(h:yO w p n A)(hb:Below w.heap.size w w'):yO w' p n A:=by
 obtain ⟨h1,h2⟩:=h;refine ⟨h1,h2.imp id ?_⟩;rintro ⟨b,off,C,T,fz,e,hh,hr⟩;exact ⟨b,off,C,T,fz,e,by rw [hb.block b (zC hh)];exact hh,hr⟩
def NdS (B:Nat)(w0:World)(L:List (Nat×Obj))(p:Option Addr)(n:Nat)(A:List Nd):Prop:= ∀w' l,St B w0 w' l→(∀e∈L,e∈l)→yO w' p n A
theorem NdS.mono {B:Nat}{w0:World}{L L':List (Nat×Obj)}{p:Option Addr}{n:Nat}{A:List Nd}(h:NdS B w0 L p n A)(hL: ∀e∈L,e∈L'):NdS B w0 L' p n A:=fun w' l hS hl=>h w' l hS fun e he=>hl e (hL e he)
theorem NdS.below {w0:World}{p:Option Addr}{n:Nat}{A:List Nd}(h:yO w0 p n A):NdS w0.heap.size w0 [] p n A:=fun w' l hS _=>h.call hS.below
theorem NdS.own {B:Nat}{w0:World}{L:List (Nat×Obj)}{p:Option Addr}{n c:Nat}{A:List Nd}{ty:TypeId}(h:zR nS ty p n c L A):NdS B w0 L p n A:=fun w' l hS hl=>by
 refine ⟨h.len.symm,?_⟩;rcases h with ⟨_,_,_,_,hA⟩ | ⟨b,cur,hp,rfl,hr⟩
 ·exact .inl hA
 ·exact .inr ⟨b,0,cur,ty,(0,0),hp,(hS.own _ (hl _ (List.mem_cons_self ..))).2,hr.rowAt⟩
abbrev rdO (np:Option Addr)(nn nc:Nat)(p:Option Addr)(n c:Nat)(left:Nat):Obj:=.cells #[.slice np nn nc,.slice p n c,.int .i64 (left:Int)] 140 (0,0)
abbrev prO (C:Array Value):Obj:=.cells C 64 (0,0)
def Rdr (B:Nat)(w0 w:World)(br:Nat)(np:Option Addr)(nn nc:Nat)(s:Nat×List Pr)(L:List (Nat×Obj)):Prop:=∃(p:Option Addr) (n c:Nat) (row:List (Nat×Obj)),zR pS 64 p n c row s.2∧St B w0 w ((br,rdO np nn nc p n c s.1)::(row++L))
theorem zfv (a b:Nat):Fn Tryz.prog 53 #[iN a,iN b] (.bool (decide (1≤a)&&decide (a≤b))):=by
 refine Fn.intro (c:=zl Tryz.f53) [.tmp 4] 12 Tryz.func53 kr kr kr fun w=>rS [.v] (St.start w) kr fun gs1 w1 H1=>?_;by_cases h1:1≤a
 ·refine rS [.v,.E (.bool (decide ((1:Int)≤(a:Int)))) (.bool true) (za (decide_eq_true (by omega))),.v,.v,.v,.E (.bool (decide ((a:Int)≤(b:Int)))) (.bool (decide (a≤b))) (za (decide_eq_decide.2 (by omega))),.v,.v] H1 kr fun gs2 w2 H2=>?_;exact rRe [.tmp 4] [] (v:=.bool (decide (a≤b))) (v':=.bool (decide (1≤a)&&decide (a≤b))) H2 (za (by simp [h1])) kr
 ·refine rS [.v,.E (.bool (decide ((1:Int)≤(a:Int)))) (.bool false) (za (decide_eq_false (by omega))),.v,.n,.n,.n,.v,.v] H1 kr fun gs2 w2 H2=>?_;exact rRe [.tmp 4] [] (v:=.bool false) (v':=.bool (decide (1≤a)&&decide (a≤b))) H2 (za (by simp [h1])) kr
theorem zaA (k v:ByteArray):Fn Tryz.prog 31 #[.agg #[.string k,.string v]] (.bool (mayM k v)):=by
 refine Fn.intro (c:=zl Tryz.f31) [.tmp 2] 13 Tryz.func31 kr kr kr fun w=>rS [.b,.v] (St.start w) kr fun gs1 w1 H1=>?_;have c1:=zfv k.size 32;cases hb:(decide (1≤k.size)&&decide (k.size≤32)) with
 | true=>
  rw [hb] at c1;refine rS [.v,.l 0,.v,.c c1,.v,.v,.l 0,.v,.c (zfv v.size 500),.v,.v] H1 kr fun gs2 w2 H2=>?_;exact rRe [.tmp 2] [] (v:=.bool (decide (1≤v.size)&&decide (v.size≤500))) (v':=.bool (mayM k v)) H2 (za (by unfold mayM;rw [hb];rfl)) kr
 | false=>
  rw [hb] at c1;refine rS [.v,.l 0,.v,.c c1,.v,.n,.n,.n,.n,.v,.v] H1 kr fun gs2 w2 H2=>?_;exact rRe [.tmp 2] [] (v:=.bool false) (v':=.bool (mayM k v)) H2 (za (by unfold mayM;rw [hb];rfl)) kr
section
variable {P:Program}{N:Nat}{ops:Array Oper}{i:Nat}{r:List Nat}{K:Env→World→Prop}{ρ:Env}{w:World}
theorem zkI (d:Option Nat)(t:TypeId)(x:Operand)(b off m:Nat){C W:Array Value}{T:TypeId}{fz:Nat×Nat}(h:opk ops i ρ=some (d,true,.load t x))(hd:dOK d N=true)(ht:aggSize P t=some m)(hx:ev ρ x=.pointer (some ⟨b,off,none⟩))
 (hh:w.heap[b]? =some (.cells C T fz)) (hz:off+m≤C.size) (hv:C.extract off (off+m)=W) (kk:WPs P N ops K r (zt ρ d (.agg W)) w):WPs P N ops K (i::r) ρ w:=by
 obtain ⟨o,ho,rfl,hw,hop⟩:=zI h;refine WPo.run ho hw fun a ha=>?_;have:=jS (P:=P) (w:=w) ht hh hz;rw [hv] at this;have e:(execOp (ev ρ) o).run P w=.ok (.value (.agg W)) w:=by
  simp [execOp,hop,Instr.loadAt,Instr.sureAddr,hx,this]
 rw [e,Oper.upon_value];exact ⟨_,ha.put _ (zX hd) _,kk⟩
end
theorem zkJ (kind:Int)(i:Nat)(hi:i<16):Fn Tryz.prog 126 #[.int .i64 kind,iN i] (.string (zb (qw kind i))):=by
 refine Fn.intro (c:=zl Tryz.f126) [.tmp 4] 11 Tryz.func126 kr kr kr fun w=>rS [.v] (St.start w) kr fun gs1 w1 H1=>zc kr ?_;by_cases hk:kind=3
 ·refine rS [.v,.E (.bool (kind==3)) (.bool true) (za (beq_iff_eq.2 hk))] H1 kr fun gs2 w2 H2=>zg kr kr<|zi [0,1,2,3,4] kr kr<|rp [.v,.E (.int .u8 (IntKind.u8.wrap (i:Int))) (.int .u8 (i:Int)) (ze (by rw [IntKind.wrap_u8];omega)),.nw (fun b=>.slice (some ⟨b,0,none⟩) 1 1) #[.int .u8 (i:Int)] 5] H2 kr fun gs3 w3 H3=>wX [3,4] ?_;have H4:St w.heap.size w w3 [((gs3 2).b,.cells #[.int .u8 (i:Int)] 5 (0,0))]:=H3.as kr;have hc:cellsB [UInt8.ofNat i]=[Value.int .u8 (i:Int)]:=by
   unfold cellsB;have:(UInt8.ofNat i).toNat=i:=by simp;omega
   simp [this]
  refine kw H4 (some 10) 80 9 5 (.tmp 9) 0 (gs3 2).b 1 1 #[.int .u8 (i:Int)] 5 (0,0) [UInt8.ofNat i] kr kr kr kr kr kr kr ⟨by rw [hc];rfl,Nat.le_refl _,by unfold maxLen;omega,by rw [hc];rfl,rfl⟩<|rp [.v] H4 kr fun gs4 w4 H5=>wX []<|zd ?_;exact rRe [.tmp 4] [] (v:=.string (zb [UInt8.ofNat i])) (v':=.string (zb (qw kind i))) H5 (by unfold qw;rw [if_pos hk]) kr
 ·refine rS [.v,.E (.bool (kind==3)) (.bool false) (za (beq_eq_false_iff_ne.2 hk))] H1 kr fun gs2 w2 H2=>zf kr kr<|zh kr<|wW<|rS [.v] H2 kr fun gs3 w3 H3=>?_;exact rRe [.tmp 4] [] (v:=.string ⟨#[]⟩) (v':=.string (zb (qw kind i))) H3 (by unfold qw;rw [if_neg hk];rfl) kr
def jC (B:Nat)(w0:World)(bx br:Nat)(xO:Obj)(xc:Array Value)(np:Option Addr)(nn nc:Nat)(left:Nat)(p:Option Addr)(n c:Nat)(row:List (Nat×Obj))(xs:List Value)(L0:List (Nat×Obj)):(Nat→Bool)→(Nat→D2.Gh)→World→Prop:=fun L g w=>
 bif L 7 then Rw 2 (g 7).cur (g 7).cap (n+1) xs∧St B w0 w ((bx,xO)::(br,rdO np nn nc (bif L 10 then some ⟨(g 7).b,0,none⟩ else p) (bif L 10 then n+1 else n) (bif L 10 then (g 7).cap else c) left)::((g 7).b,prO (g 7).cur)::L0)
 else bif L 6 then St B w0 w (((g 6).b,prO xc)::(bx,xO)::(br,rdO np nn nc p n c left)::(row++L0))
 else St B w0 w ((bx,xO)::(br,rdO np nn nc p n c left)::(row++L0))
theorem jC.st {B:Nat}{w0:World}{bx br:Nat}{xO:Obj}{xc:Array Value}{np:Option Addr}{nn nc left:Nat}{p:Option Addr}{n c:Nat}{row:List (Nat×Obj)}{xs:List Value}{L0:List (Nat×Obj)}{L:Nat→Bool}{g:Nat→D2.Gh}{w:World}(h7:L 7=false)(h:jC B w0 bx br xO xc np nn nc left p n c row xs L0 L g w):∃l,St B w0 w l∧(bx,xO)∈l∧(br,rdO np nn nc p n c left)∈l:=by
 unfold jC at h;rw [h7] at h;cases h6:L 6 with
 | true=>rw [h6] at h;exact ⟨_,h,by simp,by simp⟩
 | false=>rw [h6] at h;exact ⟨_,h,by simp,by simp⟩
theorem zkK (part:List UInt8)(v:ByteArray)(br:Nat)(np:Option Addr)(nn nc:Nat)(s:Nat×List Pr){B:Nat}{w0 w:World}{L:List (Nat×Obj)}(h:Rdr B w0 w br np nn nc s L)(hp:part.length≤1000)(hs:s.2.length≤1000000):
 Calls Tryz.prog 125 #[.pointer (some ⟨br,0,none⟩),.string (zb part),.string v] w fun e w'=> ∃r,e=.returned r∧Rdr B w0 w' br np nn nc (s.1,qv part v s.2) L:=by
 refine ql (c:=zl Tryz.f125) (rs:=[]) (N:=29) Tryz.func125 kr kr kr ?_;obtain ⟨p,n,c,row,hrow,H0⟩:=h;have hlen:=hrow.len;have hkey:=zku (zb part) (by rw [zO];omega);rw [yx] at hkey;refine rS [.v,.c hkey,.v,.v,.v,.v,.v] H0 kr fun gs1 w1 H1=>?_;have H2:St B w0 w1 ((br,rdO np nn nc p n c s.1)::(row++L)):=H1.as kr;refine zi [0,1,2,3,4] kr kr<|rp [.v,.v,.v] H2 kr fun gs2 w2 H3=>wX [3,4]<|qA H3 (some 8) 64 (.agg #[.string ⟨#[]⟩,.string ⟨#[]⟩]) kr kr kr ?_;intro bx w3 H4;refine rp [.s 0] H4 kr fun gs3 w4 H5=>wX []<|zd ?_;have H6:St B w0 w4 ((bx,prO #[.string (kyS part),.string v])::(br,rdO np nn nc p n c s.1)::(row++L)):=H5.as kr;have hm:=zaA (kyS part) v;unfold qv;cases hb:mayM (kyS part) v with
 | false=>
  rw [hb] at hm;rw [if_neg (by decide)];refine rS [.l 0,.c hm] H6 kr fun gs4 w5 H7=>zf kr kr<|zh kr<|wV ?_;have H8:St B w0 w5 ((bx,prO #[.string (kyS part),.string v])::(br,rdO np nn nc p n c s.1)::(row++L)):=H7.as kr;exact ⟨[],.nil,p,n,c,row,hrow,H8.sub (List.sublist_cons_self ..)⟩
 | true=>
  rw [hb] at hm;rw [if_pos rfl];refine rS [.l 0,.c hm] H6 kr fun gs4 w5 H7=>zg kr kr ?_;have H8:St B w0 w5 ((bx,prO #[.string (kyS part),.string v])::(br,rdO np nn nc p n c s.1)::(row++L)):=H7.as kr;refine D2.g_draw0 [0,1,2,3,4,5,6,7,8,9,10] [(some 19,fun _=>.pointer (some ⟨br,0,none⟩)),(some 20,fun _=>.pointer (some ⟨br,0,none⟩)),(some 21,fun _=>.pointer (some ⟨br,0,none⟩)),(some 22,fun _=>.pointer (some ⟨br,1,none⟩)),(some 23,fun _=>.slice p n c),(some 24,fun _=>.agg #[.string (kyS part),.string v]),(some 25,fun y=>.slice (some ⟨y.b,0,none⟩) 1 1),(some 26,fun y=>.slice (some ⟨y.b,0,none⟩) (n+1) y.cap),(some 27,fun _=>.pointer (some ⟨br,0,none⟩)),(some 28,fun _=>.pointer (some ⟨br,1,none⟩)),(none,fun _=>undef)]
   (jC B w0 bx br (prO #[.string (kyS part),.string v]) #[.string (kyS part),.string v] np nn nc s.1 p n c row (cellsF pS (s.2++ [(kyS part,v)])) L) kr kr kr H8.drew ⟨?_,?_,?_,?_,?_,?_,?_,?_,?_,?_,?_,trivial⟩ ?_
  ·exact D2.gv_val (fun _ _ _ h=>h) (fun g w=>by kernel_rfl)
  ·exact D2.gv_val (fun _ _ _ h=>h) (fun g w=>by kernel_rfl)
  ·exact D2.gv_val (fun _ _ _ h=>h) (fun g w=>by kernel_rfl)
  ·exact D2.gv_val (fun _ _ _ h=>h) (fun g w=>by kernel_rfl)
  ·refine D2.gv_ld (fun _ _ _ h=>h) 50 (.tmp 22) (fun _=>br) 1 #[.slice np nn nc,.slice p n c,.int .i64 ((s.1:Nat):Int)] 140 (0,0) (fun g=>by kernel_rfl) (fun g=>by kernel_rfl) (fun L g w hN hp=>?_) kr kr;obtain ⟨l,h,_,hm⟩:=hp.st (hN.post 7 kr);exact (h.own _ hm).2
  ·refine D2.gv_ld (fun _ _ _ h=>h) 64 (.tmp 8) (fun _=>bx) 0 #[.string (kyS part),.string v] 64 (0,0) (fun g=>by kernel_rfl) (fun g=>by kernel_rfl) (fun L g w hN hp=>?_) kr kr;obtain ⟨l,h,hm,_⟩:=hp.st (hN.2.2.no 6 7 kr (hN.post 6 kr));exact (h.own _ hm).2
  ·refine D2.gives_of fun L1 gg ww hp hN=>?_;have h7:=hN.post 7 kr;unfold jC at hp;rw [h7,hN.1] at hp;obtain ⟨o,ho,hd,hw,hrun⟩:=yg (show opv _ _ 6 _ ww=some (some 25,true,.ok (.value (.slice (some ⟨ww.heap.size,0,none⟩) 1 1)) (ww.alloc (.cells #[.string (kyS part),.string v] 64))) by kernel_rfl);refine ⟨o,ho,hd,.inr ⟨hw,?_⟩⟩;refine (congrArg (D2.Runs _ _) hrun).mpr ?_;refine ⟨{ b:=ww.heap.size },rfl,?_⟩;unfold jC;rw [show D2.put1 L1 6 7=false from h7,show D2.put1 L1 6 6=true from rfl];exact St.alloc hp _
  ·refine D2.gives_of fun L1 gg ww hp hN=>?_;have h6:=hN.bef 6 kr;have h10:=hN.post 10 kr;unfold jC at hp;rw [hN.1,h6] at hp;obtain ⟨o,ho,hd,hw,hop⟩:=zI (show opk _ 7 _=some (some 26,true,yn 50 (.tmp 23) (.tmp 25)) by kernel_rfl);refine ⟨o,ho,hd,.inr ⟨hw,?_⟩⟩;obtain ⟨left,ps⟩:=s;rcases hrow with ⟨rfl,rfl,rfl,rfl,hA⟩ | ⟨bw,cur,rfl,rfl,hrw⟩
   ·simp only at hA;subst hA;obtain ⟨b',cap',cur',w',hrun,HS',hr'⟩:=vj (K:=2) hp (t:=50) (e:=64) (bytes:=32) (k:=0) (bx:=(gg 6).b) (c:=1) (Y:=#[.string (kyS part),.string v]) kr hop kr kr rfl rfl (qX rfl) (by omega);rw [hrun];refine ⟨{ b:=b',cap:=cap',cur:=cur' },rfl,?_⟩;unfold jC;rw [show D2.put1 L1 7 7=true from rfl,show D2.put1 L1 7 10=false from h10];exact ⟨hr',(HS'.sub (List.Sublist.cons_cons _ (List.sublist_cons_self ..))).perm (List.perm_middle (l₁:=[(bx,prO #[.string (kyS part),.string v]),(br,rdO np nn nc none 0 0 left)]))⟩
   ·obtain ⟨b',cap',cur',w',hrun,HS',hr'⟩:=vi (K:=2) hp (t:=50) (e:=64) (bytes:=32) (j:=3) (k:=0) (bx:=(gg 6).b) (c:=1) (Y:=#[.string (kyS part),.string v]) kr hop kr rfl hrw kr rfl rfl (qX rfl) (by simp only at hlen hs;omega) (by simp only at hlen hs;unfold maxLen;omega);rw [hrun];refine ⟨{ b:=b',cap:=cap',cur:=cur' },rfl,?_⟩;unfold jC;rw [show D2.put1 L1 7 7=true from rfl,show D2.put1 L1 7 10=false from h10];refine ⟨?_,HS'.sub (List.sublist_cons_self ..)⟩;rw [qF];exact hr'
  ·exact D2.gv_val (fun _ _ _ h=>h) (fun g w=>by kernel_rfl)
  ·exact D2.gv_val (fun _ _ _ h=>h) (fun g w=>by kernel_rfl)
  ·refine D2.gives_of fun L1 gg ww hp hN=>?_;have h7:=hN.bef 7 kr;unfold jC at hp;rw [h7,hN.1] at hp;obtain ⟨hr',HS⟩:=hp;obtain ⟨o,ho,hd,hw,hop⟩:=zI (show opk _ 10 _=some (none,true,.store 50 (.tmp 28) (.tmp 26)) by kernel_rfl);refine ⟨o,ho,hd,.inr ⟨hw,?_⟩⟩;rw [ub (t:=50) (off:=1) (b:=br) (C:=#[.slice np nn nc,.slice p n c,.int .i64 ((s.1:Nat):Int)]) (T:=140) (v:=.slice (some ⟨(gg 7).b,0,none⟩) (n+1) (gg 7).cap) (C':=#[.slice np nn nc,.slice (some ⟨(gg 7).b,0,none⟩) (n+1) (gg 7).cap,.int .i64 ((s.1:Nat):Int)]) (HS.get 1 kr) kr kr (of_decide_eq_true kr) kr kr kr o hop];refine ⟨default,rfl,?_⟩;unfold jC;rw [show D2.put1 L1 10 7=true from h7,show D2.put1 L1 10 10=true from rfl];exact ⟨hr',HS.store 1 (C:=#[.slice np nn nc,.slice p n c,.int .i64 ((s.1:Nat):Int)]) kr⟩
  ·intro L1 gg w14 hall hp;unfold jC at hp;rw [hall 7 (Nat.le_of_ble_eq_true kr),hall 10 (Nat.le_of_ble_eq_true kr)] at hp;obtain ⟨hr',HS⟩:=hp;refine wV ?_;exact ⟨[],.nil,_,_,_,[((gg 7).b,prO (gg 7).cur)],.inr ⟨_,_,rfl,rfl,hr'⟩,HS.sub (List.sublist_cons_self ..)⟩
def xZ (s t:Nat×List Pr):Prop:=t.1≤s.1∧t.2.length+t.1≤s.2.length+s.1
theorem xZ.trans {a b c:Nat×List Pr}(h:xZ a b)(h2:xZ b c):xZ a c:=⟨Nat.le_trans h2.1 h.1,Nat.le_trans h2.2 h.2⟩
theorem zaB {go:Int→List UInt8→Nat×List Pr→Nat×List Pr}(hg: ∀a p s,xZ s (go a p s))(x:Nd)(part:List UInt8): ∀(n:Nat) (s:Nat×List Pr),xZ s (yy go x part n s)
 | 0,s=>⟨Nat.le_refl _,Nat.le_refl _⟩
 | n+1,s=>by
  unfold yy;split
  ·exact zaB hg x part n s
  ·exact (zaB hg x part n s).trans (hg ..)
theorem zfw (part:List UInt8)(v:ByteArray)(ps:List Pr):(qv part v ps).length≤ps.length+1:=by
 unfold qv;split
 ·rw [List.length_append];exact Nat.le_refl _
 ·omega
theorem zb3 (A:List Nd): ∀(f:Nat) (a:Int) (p:List UInt8) (s:Nat×List Pr),xZ s (yt A f a p s)
 | 0,_,_,_=>⟨Nat.le_refl _,Nat.le_refl _⟩
 | f+1,a,p,s=>by
  unfold yt;split
  ·exact ⟨Nat.le_refl _,Nat.le_refl _⟩
  ·rename_i h0
   cases hx:A[a.toNat]? with
   | none=>exact ⟨Nat.le_refl _,Nat.le_refl _⟩
   | some x=>
    simp only;split
    ·exact ⟨Nat.sub_le _ _,by simp only;omega⟩
    ·refine xZ.trans ?_ (zaB (zb3 A f) x _ 16 _);have:=zfw (p++tl x.part) x.value s.2;exact ⟨Nat.sub_le _ _,by simp only;omega⟩
theorem zfx (a:List UInt8)(b:ByteArray):zb a++b=zb (a++tl b):=by apply jv;rw [qg,yx,yx]
def zb4 (A:List Nd)(f:Nat):Prop:= ∀(at_:Int) (ahead:List UInt8) (br:Nat) (np:Option Addr) (nn nc:Nat) (s:Nat×List Pr) {B:Nat} {w0 w:World} {L:List (Nat×Obj)},Rdr B w0 w br np nn nc s L→NdS B w0 L np nn A→s.1≤f→ahead.length≤65→s.2.length+s.1≤1000→
 Calls Tryz.prog 94 #[.pointer (some ⟨br,0,none⟩),.int .i64 at_,.string (zb ahead)] w fun e w'=> ∃r,e=.returned r∧Rdr B w0 w' br np nn nc (yt A f at_ ahead s) L
theorem zfy (A:List Nd)(at_:Int)(ahead:List UInt8)(br:Nat)(np:Option Addr)(nn nc:Nat)(s:Nat×List Pr){B:Nat}{w0 w:World}{L:List (Nat×Obj)}(h:Rdr B w0 w br np nn nc s L)(hc:s.1=0∨at_<0∨(nn:Int)≤at_):
 Calls Tryz.prog 94 #[.pointer (some ⟨br,0,none⟩),.int .i64 at_,.string (zb ahead)] w fun e w'=> ∃r,e=.returned r∧Rdr B w0 w' br np nn nc s L:=by
 refine ql (c:=zl Tryz.f94) (rs:=[]) (N:=76) Tryz.func94 kr kr kr ?_;obtain ⟨p,n,c,row,hrow,H0⟩:=h;refine zc kr<|zc kr ?_;by_cases h1:s.1=0
 ·refine rL [.v,.v,.v,.l 0,.E (.bool (((s.1:Nat):Int)==0)) (.bool true) (za (beq_iff_eq.2 (by omega))),.v,.n,.n,.v,.v,.n,.n,.n,.n,.n,.n,.n,.v] H0 kr fun gs1 w1 H1=>wW<|zg kr kr<|zn kr<|wV ?_;exact ⟨[],.nil,p,n,c,row,hrow,H1.as kr⟩
 ·by_cases h2:at_<0
  ·refine rL [.v,.v,.v,.l 0,.E (.bool (((s.1:Nat):Int)==0)) (.bool false) (za (beq_eq_false_iff_ne.2 (by omega))),.v,.v,.E (.bool (decide (at_<0))) (.bool true) (za (decide_eq_true (by omega))),.v,.v,.n,.n,.n,.n,.n,.n,.n,.v] H0 kr fun gs1 w1 H1=>wW<|zg kr kr<|zn kr<|wV ?_;exact ⟨[],.nil,p,n,c,row,hrow,H1.as kr⟩
  ·refine rL [.v,.v,.v,.l 0,.E (.bool (((s.1:Nat):Int)==0)) (.bool false) (za (beq_eq_false_iff_ne.2 (by omega))),.v,.v,.E (.bool (decide (at_<0))) (.bool false) (za (decide_eq_false (by omega))),.v,.v,.v,.v,.v,.v,.l 0,.v,.E (.bool (decide ((nn:Int)≤at_))) (.bool true) (za (decide_eq_true (by omega))),.v] H0 kr fun gs1 w1 H1=>wW<|zg kr kr<|zn kr<|wV ?_;exact ⟨[],.nil,p,n,c,row,hrow,H1.as kr⟩
theorem zkL (A:List Nd)(hA: ∀x∈A,x.part.size≤0x800000000000)(f:Nat)(ih:zb4 A f):zb4 A (f+1):=by
 intro at_ ahead br np nn nc s B w0 w L h hN hf hah hs;have hnn:nn=A.length:=by obtain ⟨p,n,c,row,_,H⟩:=h;exact (hN _ _ H fun e he=>List.mem_cons_of_mem _ (List.mem_append_right _ he)).1
 by_cases hout:s.1=0∨at_<0∨(A.length:Int)≤at_
 ·unfold yt;rw [if_pos hout];exact zfy A at_ ahead br np nn nc s h (by rw [hnn];exact hout)
 ·obtain ⟨k,rfl⟩:∃k:Nat,at_=(k:Int):=⟨at_.toNat,by omega⟩
  have hk:k<A.length:=by omega
  obtain ⟨x,hx⟩:∃x,A[k]? =some x:=⟨_,List.getElem?_eq_getElem hk⟩
  have hxs:=hA x (List.mem_of_getElem? hx);have hw:yt A (f+1) (k:Int) ahead s=if 64<ahead.length+x.part.size then (s.1-1,s.2) else yy (yt A f) x (ahead++tl x.part) 16 (s.1-1,qv (ahead++tl x.part) x.value s.2):=by
   rw [yt,if_neg hout,Int.toNat_natCast,hx]
  rw [hw];clear hw;generalize hat:(k:Int)=at_ at hout;refine ql (c:=zl Tryz.f94) (rs:=[]) (N:=76) Tryz.func94 kr kr kr ?_;obtain ⟨p,n,c,row,hrow,H0⟩:=h;refine zc kr<|zc kr<|rL [.v,.v,.v,.l 0,.E (.bool (((s.1:Nat):Int)==0)) (.bool false) (za (beq_eq_false_iff_ne.2 (by omega))),.v,.v,.E (.bool (decide (at_<0))) (.bool false) (za (decide_eq_false (by omega))),.v,.v,.v,.v,.v,.v,.l 0,.v,.E (.bool (decide ((nn:Int)≤at_))) (.bool false) (za (decide_eq_false (by omega))),.v] H0 kr fun gs1 w1 H1=>wW<|zf kr kr<|zh kr<|wW<|rS [.v,.v,.v,.l 0,.E (.int .i64 (IntKind.i64.wrap (((s.1:Nat):Int)-1))) (.int .i64 ((s.1-1:Nat):Int)) (ze (jh (a:=s.1) (b:=1) (by omega))),.v,.v,.s 0] H1 kr fun gs2 w2 H2=>zi [0,1,2,3,4,5,6,7,8] kr kr<|rp [.v,.v,.v,.l 0,.v] H2 kr fun gs3 w3 H3=>wX [5,6,7,8] ?_;have H4:St B w0 w3 ((br,rdO np nn nc p n c (s.1-1))::(row++L)):=H3.as kr;obtain ⟨_,hnd⟩:=hN _ _ H4 fun e he=>List.mem_cons_of_mem _ (List.mem_append_right _ he);rcases hnd with hnil | ⟨b,off,C,T,fz,hp,hh,hR⟩
  ·rw [hnil] at hk;simp at hk
  obtain ⟨hr1,hr2⟩:=hR k x hx;refine rp [.o (ins:=[((.tmp 38),.slice np nn nc),((.tmp 39),.int .i64 at_)]) (v:=.pointer (some ⟨b,off+k*19,none⟩)) (fun ρ o w ho hi2=>yb (kd:=.i64) (t:=36) (e:=118) (K:=19) (bytes:=168) kr (x:=(.tmp 38)) (y:=(.tmp 39)) b off nn nc k hp ho hi2.1 (by rw [hat];exact hi2.2.1) (by omega) w)] H4 kr fun gs4 w4 H5=>wX [6,7,8] ?_;have H6:St B w0 w4 ((br,rdO np nn nc p n c (s.1-1))::(row++L)):=H5.as kr;obtain ⟨_,hnd⟩:=hN _ _ H6 fun e he=>List.mem_cons_of_mem _ (List.mem_append_right _ he);rcases hnd with hnil|⟨b',off',C',T',fz',hp',hh',hR'⟩
  ·rw [hnil] at hk;simp at hk
  obtain ⟨rfl,rfl⟩:b'=b∧off'=off:=by rw [hp] at hp';injection hp' with hp';injection hp' with h1 h2;exact ⟨h1.symm,h2.symm⟩
  obtain ⟨hr1',hr2'⟩:=hR' k x hx;refine zkI (some 41) 118 (.tmp 40) b' (off'+k*19) 19 (W:=(nS.cs x).toArray) kr kr kr kr hh' hr1' hr2'<|qA H6 (some 6) 118 (.agg ([Value.int .i64 0,Value.string ⟨#[]⟩,Value.string ⟨#[]⟩]++zP 16 fun _=>.int .i64 0).toArray) kr kr kr ?_;intro bn w5 H7;refine rp [.s 0] H7 kr fun gs5 w6 H8=>wX []<|zd ?_;have H9:St B w0 w6 ((bn,ndO x)::(br,rdO np nn nc p n c (s.1-1))::(row++L)):=H8.as kr;clear H0 H1 H2 H3 H4 H5 H6 H7 H8;refine zJ [0,1,2,6] fun ρ1=>zc kr<|zc kr ?_;by_cases h64:64<ahead.length+x.part.size
  ·rw [if_pos h64];refine rL [.v,.v,.v,.l 0,.v,.E (.int .i64 (IntKind.i64.wrap ((ahead.length:Int)+((x.part.size:Nat):Int)))) (iN (ahead.length+x.part.size)) (ze (zm (by omega))),.E (.bool (decide ((64:Int)<((ahead.length+x.part.size:Nat):Int)))) (.bool true) (za (decide_eq_true (by omega)))] H9 kr fun gs6 w7 H10=>wW<|zg kr kr<|zn kr<|wV ?_;have H11:St B w0 w7 ((bn,ndO x)::(br,rdO np nn nc p n c (s.1-1))::(row++L)):=H10.as kr;exact ⟨[],.nil,p,n,c,row,hrow,H11.sub (List.sublist_cons_self ..)⟩
  ·rw [if_neg h64];obtain ⟨part,hpart⟩:∃part,ahead++tl x.part=part:=⟨_,rfl⟩
   have hpl:part.length≤64:=by rw [←hpart,List.length_append,zy];omega
   rw [hpart];have hfl:=zfw part x.value s.2;obtain ⟨s0,hs0⟩:∃s0,(s.1-1,qv part x.value s.2)=s0:=⟨_,rfl⟩
   rw [hs0];have hs01:s0.1=s.1-1:=by rw [←hs0]
   have hs02:s0.2.length+s0.1≤1000:=by rw [←hs0];simp only;omega
   refine rL [.v,.v,.v,.l 0,.v,.E (.int .i64 (IntKind.i64.wrap ((ahead.length:Int)+((x.part.size:Nat):Int)))) (iN (ahead.length+x.part.size)) (ze (zm (by omega))),.E (.bool (decide ((64:Int)<((ahead.length+x.part.size:Nat):Int)))) (.bool false) (za (decide_eq_false (by omega)))] H9 kr fun gs6 w7 H10=>wW<|zf kr kr<|zh kr<|wW<|rS [.v,.v,.l 0,.oe (ins:=[((.tmp 49),.string (zb ahead)),((.tmp 51),.string x.part)]) (v:=.string (zb ahead++x.part)) (v':=.string (zb part)) (fun ρ o w ho hi2=>qR (t:=9) (t':=9) (x:=(.tmp 49)) (y:=(.tmp 51)) (zb ahead) x.part w ho hi2.1 hi2.2.1 (by rw [zO];omega)) (by rw [zfx,hpart]),.v] H10 kr fun gs7 w8 H11=>zi [0,1,2,3,4] kr kr<|rp [.v,.v,.v,.l 0] H11 kr fun gs8 w9 H12=>wX [4] ?_;have H13:St B w0 w9 ((bn,ndO x)::(br,rdO np nn nc p n c (s.1-1))::(row++L)):=H12.as kr;have R1:Rdr B w0 w9 br np nn nc (s.1-1,s.2) ((bn,ndO x)::L):=⟨p,n,c,row,hrow,H13.perm ((List.Perm.cons _ List.perm_middle).trans (List.Perm.swap _ _ _))⟩
   refine jw (some 57) 125 #[.pointer (some ⟨br,0,none⟩),.string (zb part),.string x.value] (zkK part x.value br np nn nc _ R1 (by omega) (by simp only;omega)) kr kr ?_;rintro _ w10 ⟨p2,n2,c2,row2,hrow2,H14⟩;refine zd ?_;have hrow2':zR pS 64 p2 n2 c2 row2 s0.2:=by rw [←hs0];exact hrow2
   have H14':St B w0 w10 ((br,rdO np nn nc p2 n2 c2 s0.1)::(row2++((bn,ndO x)::L))):=by rw [hs01];exact H14
   have H15:St B w0 w10 ((bn,ndO x)::(br,rdO np nn nc p2 n2 c2 s0.1)::(row2++L)):=H14'.perm ((List.Perm.swap _ _ _).trans (List.Perm.cons _ List.perm_middle.symm));clear H9 H10 H11 H12 H13;refine rS [.v,.l 0,.v] H15 kr fun gs9 w11 H16=>zj 0 kr ?_;have H17:St B w0 w11 ((bn,ndO x)::(br,rdO np nn nc p2 n2 c2 s0.1)::(row2++L)):=H16.as kr;clear H14 H14' H15 H16;refine zz kr (fun mz ρ ww=> ∃(i:Nat) (p n c:_) (row:List (Nat×Obj)),16-i=mz∧i≤16∧zR pS 64 p n c row (yy (yt A f) x part i s0).2∧St B w0 ww ((bn,ndO x)::(br,rdO np nn nc p n c (yy (yt A f) x part i s0).1)::(row++L))∧Is [(0,.pointer (some ⟨br,0,none⟩)),(6,.pointer (some ⟨bn,0,none⟩)),(7,.string (zb part)),(59,.agg (yG x.kids).toArray),(60,iN i)] ρ) (16-0) ⟨0,p2,n2,c2,row2,rfl,Nat.zero_le _,hrow2',H17,(Is.of ⟨kr,kr,kr,kr,kr,trivial⟩)⟩ ?_;clear H17 hrow2 hrow2';rintro _ _ w12 ⟨i,p3,n3,c3,row3,rfl,hi16,hrow3,H18,_,rfl⟩;have hless:=zaB (zb3 A f) x part i s0;by_cases hi:i<16
   ·refine rS [.E (.bool (decide ((i:Int)<16))) (.bool true) (za (decide_eq_true (by omega)))] H18 kr fun gs10 w13 H19=>zc kr<|zg kr kr<|zh kr<|wW<|zc kr<|zj 1 kr ?_;have hval:(yG x.kids).toArray[0+i*1]? =some (.int .i64 (x.kids.getD i (-1))):=by
     rw [List.getElem?_toArray,Nat.zero_add,Nat.mul_one];exact kt (f:=fun j=>Value.int .i64 (x.kids.getD j (-1))) hi
    obtain ⟨kd,hkd⟩:∃kd,x.kids.getD i (-1)=kd:=⟨_,rfl⟩
    rw [hkd] at hval;refine rS [.v,.o (ins:=[((.tmp 59),.agg (yG x.kids).toArray),((.tmp 60),iN i)]) (v:=.int .i64 kd) (fun ρ o w ho hi2=>zbp (t:=116) (e:=3) (n:=16) (kd:=.i64) kr kr kr (x:=(.tmp 59)) (y:=(.tmp 60)) _ i _ ho hi2.1 hi2.2.1 hi hval w),.v,.v] H19 kr fun gs11 w14 H20=>?_;by_cases hk1:kd= -1
    ·refine rS [.v,.E (.bool (!(kd== -1))) (.bool false) (za (by rw [hk1];rfl))] H20 kr fun gs12 w15 H21=>zf kr kr<|zh kr<|wW ?_;have e1:yy (yt A f) x part (i+1) s0=yy (yt A f) x part i s0:=by rw [yy,hkd,if_pos hk1]
     refine rL [.E (.int .i64 (IntKind.i64.wrap ((i:Int)+1))) (.int .i64 ((i+1:Nat):Int)) (ze (zm (a:=i) (b:=1) (by omega))),.v] H21 kr fun gs13 w16 H22=>?_;show ∃m,_∧_;refine ⟨_,(by omega),i+1,p3,n3,c3,row3,rfl,hi,by rw [e1];exact hrow3,by rw [e1];exact H22.as kr,(Is.of ⟨kr,kr,kr,kr,kr,trivial⟩)⟩
    ·refine rS [.v,.E (.bool (!(kd== -1))) (.bool true) (za (by rw [beq_eq_false_iff_ne.2 hk1];rfl))] H20 kr fun gs12 w15 H21=>zg kr kr<|qm [0,1,2,3,4,5,6,7,8] kr<|rp [.v,.v,.v,.v,.l 0,.v,.c (zkJ x.kind i hi),.oe (ins:=[((.tmp 68),.string (zb part)),((.tmp 72),.string (zb (qw x.kind i)))]) (v:=.string (zb part++zb (qw x.kind i))) (v':=.string (zb (part++qw x.kind i))) (fun ρ o w ho hi2=>qR (t:=9) (t':=9) (x:=(.tmp 68)) (y:=(.tmp 72)) (zb part) (zb (qw x.kind i)) w ho hi2.1 hi2.2.1 (by rw [zO,zO];unfold qw;split<;>simp only [List.length_cons,List.length_nil]<;>omega)) (by rw [zfx,yx])] H21 kr fun gs13 w16 H22=>wX [8] ?_;have H23:St B w0 w16 ((bn,ndO x)::(br,rdO np nn nc p3 n3 c3 (yy (yt A f) x part i s0).1)::(row3++L)):=H22.as kr;have R2:Rdr B w0 w16 br np nn nc (yy (yt A f) x part i s0) ((bn,ndO x)::L):=⟨p3,n3,c3,row3,hrow3,H23.perm ((List.Perm.cons _ List.perm_middle).trans (List.Perm.swap _ _ _))⟩
     have hcall:=ih kd (part++qw x.kind i) br np nn nc _ R2 (hN.mono fun e he=>List.mem_cons_of_mem _ he) (by have:=hless.1;omega) (by rw [List.length_append];unfold qw;split<;>simp only [List.length_cons,List.length_nil]<;>omega) (by have:=hless.2;omega);have e1:yy (yt A f) x part (i+1) s0=yt A f kd (part++qw x.kind i) (yy (yt A f) x part i s0):=by rw [yy,hkd,if_neg hk1]
     rw [←e1] at hcall;refine jw (some 74) 94 #[.pointer (some ⟨br,0,none⟩),.int .i64 kd,.string (zb (part++qw x.kind i))] hcall kr kr ?_;rintro _ w17 ⟨p4,n4,c4,row4,hrow4,H24⟩;refine zd ?_;have H25:St B w0 w17 ((bn,ndO x)::(br,rdO np nn nc p4 n4 c4 (yy (yt A f) x part (i+1) s0).1)::(row4++L)):=H24.perm ((List.Perm.swap _ _ _).trans (List.Perm.cons _ List.perm_middle.symm));refine wW<|rL [.E (.int .i64 (IntKind.i64.wrap ((i:Int)+1))) (.int .i64 ((i+1:Nat):Int)) (ze (zm (a:=i) (b:=1) (by omega))),.v] H25 kr fun gs14 w18 H26=>?_;show ∃m,_∧_;exact ⟨_,(by omega),i+1,p4,n4,c4,row4,rfl,hi,hrow4,H26.as kr,(Is.of ⟨kr,kr,kr,kr,kr,trivial⟩)⟩
   ·obtain rfl:i=16:=by omega
    refine rS [.v] H18 kr fun gs10 w13 H19=>zc kr<|zf kr kr<|zw 0 kr<|wV ?_;have H20:St B w0 w13 ((bn,ndO x)::(br,rdO np nn nc p3 n3 c3 (yy (yt A f) x part 16 s0).1)::(row3++L)):=H19.as kr;exact ⟨[],.nil,p3,n3,c3,row3,hrow3,H20.sub (List.sublist_cons_self ..)⟩
theorem zfz (A:List Nd)(hA: ∀x∈A,x.part.size≤0x800000000000): ∀f,zb4 A f
 | 0=>fun at_ ahead br np nn nc s B w0 w L h hN hf hah hs=>zfy A at_ ahead br np nn nc s h (.inl (Nat.le_zero.1 hf))
 | f+1=>zkL A hA f (zfz A hA f)
theorem zfA: ∀x y:List UInt8,Op.bytesLess x y=lexB x y
 | [],[]=>rfl
 | [],_::_=>rfl
 | _::_,[]=>rfl
 | a::x,b::y=>by
  unfold Op.bytesLess lexB;rw [zfA x y];by_cases h:a.toNat<b.toNat
  ·rw [if_pos h,decide_eq_true (show a<b from h)];rfl
  ·rw [if_neg h,decide_eq_false (show ¬a<b from h)];by_cases e:a=b
   ·rw [if_pos e,e];simp
   ·rw [if_neg e];simp [e]
theorem zfB (a:UInt8):(a >>> 4).toNat=a.toNat / 16:=kC (p:=fun a=>(a >>> 4).toNat=a.toNat / 16) (by decide+kernel) a
theorem zfC (a:UInt8):(a &&& 15).toNat=a.toNat%16:=kC (p:=fun a=>(a &&& 15).toNat=a.toNat%16) (by decide+kernel) a
theorem zfD: ∀x y:List UInt8,lexB (hv x) (hv y)=lexB x y
 | [],[]=>rfl
 | [],_::_=>rfl
 | _::_,[]=>rfl
 | a::x,b::y=>by
  simp only [hv,lexB];have h1:=zfB a;have h2:=zfB b;have h3:=zfC a;have h4:=zfC b;have e1:(a >>> 4=b >>> 4)↔a.toNat / 16=b.toNat / 16:=by rw [←h1,←h2];exact ⟨fun h=>by rw [h],fun h=>UInt8.toNat_inj.1 h⟩
  have e2:(a &&& 15=b &&& 15)↔a.toNat%16=b.toNat%16:=by rw [←h3,←h4];exact ⟨fun h=>by rw [h],fun h=>UInt8.toNat_inj.1 h⟩
  have e3:a=b↔a.toNat=b.toNat:=⟨fun h=>by rw [h],fun h=>UInt8.toNat_inj.1 h⟩
  rw [zfD x y,h1,h2,h3,h4];by_cases c1:a.toNat / 16<b.toNat / 16
  ·rw [if_pos c1,if_pos (by omega)]
  ·rw [if_neg c1];by_cases c2:a.toNat / 16=b.toNat / 16
   ·rw [if_pos (e1.2 c2)];by_cases c3:a.toNat%16<b.toNat%16
    ·rw [if_pos c3,if_pos (by omega)]
    ·rw [if_neg c3];by_cases c4:a.toNat%16=b.toNat%16
     ·rw [if_pos (e2.2 c4),if_neg (by omega),if_pos (e3.2 (by omega))]
     ·rw [if_neg (fun h=>c4 (e2.1 h)),if_neg (by omega),if_neg (fun h=>by have:=e3.1 h;omega)]
   ·rw [if_neg (fun h=>c2 (e1.1 h)),if_neg (by omega),if_neg (fun h=>by have:=e3.1 h;omega)]
theorem ux {L:List Pr} :yD (zF L)↔L.Pairwise fun a b=>lexB (tl a.1) (tl b.1)=true:=by
 unfold yD zF;rw [List.pairwise_map];simp only [zfD]
def ndB (x y:Nd):Bool:=(x.kind==y.kind)&&((x.part.toList==y.part.toList)&&((x.value.toList==y.value.toList)&&(List.range 16).all fun i=>x.kids.getD i (-1)==y.kids.getD i (-1)))
theorem zfE {P:Program}{w:World}(d e:Nat)(xs ys:Array Value)(f g:Nat→Int)(n:Nat)(he:P.underlying e=some (.int .i64))(hk:P.plainKey e=true)
 (hx: ∀i,i<n→xs[i]? =some (.int .i64 (f i))) (hy: ∀i,i<n→ys[i]? =some (.int .i64 (g i))):
 ∀is:List Nat,(∀i∈is,i<n)→(Op.eqItems (d+1) e 1 xs ys is).run P w=.ok (is.all fun i=>f i==g i) w
 | [],_=>by simp [Op.eqItems]
 | i::is,h=>by
  have p1:(part e xs (i*1)).run P w=.ok (.int .i64 (f i)) w:=by
   rw [Nat.mul_one];exact run_part_plain w hk (hx i (h i (by simp)))
  have p2:(part e ys (i*1)).run P w=.ok (.int .i64 (g i)) w:=by
   rw [Nat.mul_one];exact run_part_plain w hk (hy i (h i (by simp)))
  have p3:(Op.equalIn (d+1) e (.int .i64 (f i)) (.int .i64 (g i))).run P w=.ok (f i==g i) w:=run_equalIn_int w d e .i64 .i64 _ _ he;have ih:=zfE (w:=w) d e xs ys f g n he hk hx hy is (fun j hj=>h j (by simp [hj]));simp only [Op.eqItems,Sem.run_bind,p1,p2,p3,Result.andThen_ok,List.all_cons];cases f i==g i
  ·simp
  ·simpa using ih
theorem zkM (x y:List Int)(w:World):(Op.equalIn 9999 116 (.agg (yG x).toArray) (.agg (yG y).toArray)).run Tryz.prog w=.ok ((List.range 16).all fun i=>x.getD i (-1)==y.getD i (-1)) w:=by
 obtain ⟨it,hi,hsz⟩:=Option.map_eq_some_iff.1 (show (Tryz.prog.info? 3).map (·.size)=some 1 by kernel_rfl);rw [run_equalIn_array w 9998 _ _ Tryz.underlying116 hi,show Tryz.prog.cellsOf 3=1 by kernel_rfl];have hg: ∀(z:List Int) (i:Nat),i<16→(yG z).toArray[i]? =some (.int .i64 (z.getD i (-1))):=fun z i h=>by
  rw [List.getElem?_toArray];exact kt (f:=fun j=>Value.int .i64 (z.getD j (-1))) h
 exact zfE 9997 3 _ _ (fun i=>x.getD i (-1)) (fun i=>y.getD i (-1)) 16 Tryz.underlying3 kr (hg x) (hg y) _ (fun i h=>by simpa using h)
theorem zaC {P:Program} {w:World} {d:Nat} {xs ys:Array Value} {f:Field} {fs:List Field} {a b:Value} {r:Bool} (hn:f.name≠ "_") (ha:(part f.type xs f.offset).run P w= .ok a w) (hb:(part f.type ys f.offset).run P w= .ok b w) (hr:(Op.equalIn d f.type a b).run P w= .ok r w) {q:Bool} (hq:(Op.eqFields d xs ys fs).run P w= .ok q w):
 (Op.eqFields d xs ys (f::fs)).run P w=.ok (r&&q) w:=by
 unfold Op.eqFields;rw [if_pos hn];simp only [Sem.run_bind,ha,hb,hr,Result.andThen_ok];cases r
 ·simp
 ·simpa using hq
theorem zkN (x y:Nd)(w:World):(Op.equalIn 10000 118 (.agg (nS.cs x).toArray) (.agg (nS.cs y).toArray)).run Tryz.prog w=.ok (ndB x y) w:=by
 rw [run_equalIn_agg w 9999 118 _ _ kr kr];have pk: ∀z:Nd,(part 116 (nS.cs z).toArray 3).run Tryz.prog w=.ok (.agg (yG z.kids).toArray) w:=fun z=>by
  obtain ⟨it,hi,hsz⟩:=Option.map_eq_some_iff.1 (show (Tryz.prog.info? 116).map (·.size)=some 16 by kernel_rfl);unfold part isAgg;simp [run_underlying Tryz.underlying116,sizeOf,typeInfo,hi,hsz];rfl
 rw [show (Tryz.prog.fieldsOf 118).toList= [{ name:= "Kind",type:=3,offset:=0,embedded:=false,tag:= "",pkgPath:= "",byteOffset:=0 },{ name:= "Part",type:=9,offset:=1,embedded:=false,tag:= "",pkgPath:= "",byteOffset:=8 },{ name:= "Value",type:=9,offset:=2,embedded:=false,tag:= "",pkgPath:= "",byteOffset:=24 },{ name:= "Kids",type:=116,offset:=3,embedded:=false,tag:= "",pkgPath:= "",byteOffset:=40 }] by kernel_rfl];have e4:(Op.eqFields 9999 (nS.cs x).toArray (nS.cs y).toArray []).run Tryz.prog w= .ok true w:=by simp [Op.eqFields]
 have h:=zaC (P:=Tryz.prog) (w:=w) (d:=9999) (xs:=(nS.cs x).toArray) (ys:=(nS.cs y).toArray) (f:= { name:= "Kids",type:=116,offset:=3,embedded:=false,tag:= "",pkgPath:= "",byteOffset:=40 }) (by decide) (pk x) (pk y) (zkM x.kids y.kids w) e4;have h2:=zaC (P:=Tryz.prog) (w:=w) (d:=9999) (xs:=(nS.cs x).toArray) (ys:=(nS.cs y).toArray) (f:= { name:= "Value",type:=9,offset:=2,embedded:=false,tag:= "",pkgPath:= "",byteOffset:=24 }) (a:= .string x.value) (b:= .string y.value) (by decide) (run_part_plain w kr rfl) (run_part_plain w kr rfl) (run_equalIn_string w 9998 _ _ _ Tryz.underlying9) h;have h3:=zaC (P:=Tryz.prog) (w:=w) (d:=9999) (xs:=(nS.cs x).toArray) (ys:=(nS.cs y).toArray) (f:= { name:= "Part",type:=9,offset:=1,embedded:=false,tag:= "",pkgPath:= "",byteOffset:=8 }) (a:= .string x.part) (b:= .string y.part) (by decide) (run_part_plain w kr rfl) (run_part_plain w kr rfl) (run_equalIn_string w 9998 _ _ _ Tryz.underlying9) h2;have h4:=zaC (P:=Tryz.prog) (w:=w) (d:=9999) (xs:=(nS.cs x).toArray) (ys:=(nS.cs y).toArray) (f:= { name:= "Kind",type:=3,offset:=0,embedded:=false,tag:= "",pkgPath:= "",byteOffset:=0 }) (a:= .int .i64 x.kind) (b:= .int .i64 y.kind) (by decide) (run_part_plain w kr rfl) (run_part_plain w kr rfl) (run_equalIn_int w 9998 3 .i64 .i64 _ _ Tryz.underlying3) h3;rw [h4]; unfold ndB; rw [Bool.and_true]
theorem zfF {ρ:Env}(x y:Nd){a b:Operand}{o:Oper}(w:World)(ho:o.op=.binOp .neq 118 a b 118)(hx:ev ρ a=ndV x)(hy:ev ρ b=ndV y):
 (execOp (ev ρ) o).run Tryz.prog w=.ok (.value (.bool (!(ndB x y)))) w:=by
 have q:=zkN x y w;have hg:=fun X Y=>run_eqGuard_agg (P:=Tryz.prog) w .neq 118 a b X Y kr;have hn:=fun X Y=>run_neq_struct (P:=Tryz.prog) w 118 X Y;unfold ndV at hx hy;generalize (nS.cs x).toArray=X at q hx;generalize (nS.cs y).toArray=Y at q hy;unfold execOp;simp only [ho,hx,hy,Sem.run_bind,hg,hn,q,Result.andThen_ok,Sem.run_pure]
def qh:List Nd→List Nd→Bool
 | [],[]=>true
 | x::a,y::b=>ndB x y&&qh a b
 | _,_=>false
theorem zkO (x:Nd):ndB x x=true:=by unfold ndB;simp
def qV:List Pr→Bool
 | a::b::r=>lexB (tl a.1) (tl b.1)&&qV (b::r)
 | _=>true
theorem zaD: ∀L:List Pr,qV L=true↔L.Pairwise fun a b=>lexB (tl a.1) (tl b.1)=true
 | []=>by simp [qV]
 | [a]=>by simp [qV]
 | a::b::r=>by
  have ih:=zaD (b::r);unfold qV;rw [Bool.and_eq_true,ih];constructor
  ·rintro ⟨h1,h2⟩;refine List.pairwise_cons.2 ⟨fun x hx=>?_,h2⟩;rcases List.mem_cons.1 hx with rfl|hx
   ·exact h1
   ·exact zav h1 ((List.pairwise_cons.1 h2).1 x hx)
  ·intro h;obtain ⟨h1,h2⟩:=List.pairwise_cons.1 h;exact ⟨h1 b (List.mem_cons_self ..),h2⟩
theorem zfG (a b:Pr)(r:List Pr):qV (a::b::r)=(lexB (tl a.1) (tl b.1)&&qV (b::r)):=rfl
theorem yH.row {w:World}{p:Option Addr}{n:Nat}{L:List Pr}(h:yH w p n L)(h0:0<n):∃b off C T fz,p=some ⟨b,off,none⟩∧w.heap[b]? =some (.cells C T fz)∧yq pS C off L:=by
 rcases h.2 with h2|h2
 ·rw [h.1,h2] at h0;simp at h0
 ·exact h2
theorem yO.row {w:World}{p:Option Addr}{n:Nat}{L:List Nd}(h:yO w p n L)(h0:0<n):∃b off C T fz,p=some ⟨b,off,none⟩∧w.heap[b]? =some (.cells C T fz)∧yq nS C off L:=by
 rcases h.2 with h2|h2
 ·rw [h.1,h2] at h0;simp at h0
 ·exact h2
theorem zkP {α:Type}{L:List α}{i:Nat}{a b:α}(ha:L[i]? =some a)(hb:L[i+1]? =some b):L.drop i=a::b::L.drop (i+2):=by
 obtain ⟨h1,e1⟩:=List.getElem?_eq_some_iff.1 ha;obtain ⟨h2,e2⟩:=List.getElem?_eq_some_iff.1 hb;rw [List.drop_eq_getElem_cons h1,List.drop_eq_getElem_cons h2,e1,e2]
theorem kI (a b:ByteArray):Op.bytesLess a.toList b.toList=lexB (tl a) (tl b):=by
 rw [ByteArray.toList_eq,ByteArray.toList_eq];exact zfA _ _
theorem zkQ (p:Option Addr)(n c:Nat)(L:List Pr)(hL:L.length≤1000000):FnP Tryz.prog 95 #[.slice p n c] (fun w=>yH w p n L) (.bool (qV L)):=by
 refine FnP.intro (c:=zl Tryz.f95) [.tmp 2] 22 Tryz.func95 kr kr kr fun w hP=>?_;have H0:=St.start w;have hn:=hP.1;refine rS [.v] H0 kr fun gs1 w1 H1=>zc kr<|rS [.v] H1 kr fun gs2 w2 H2=>zj 0 kr ?_;have H3:St w.heap.size w w2 []:=H2.as kr;refine zz kr (fun mz ρ ww=> ∃(i:Nat),n-i=mz∧qV (L.drop i)=qV L∧(i+1≤n∨i=0)∧St w.heap.size w ww []∧Is [(0,.slice p n c),(3,.int .i64 ((i+1:Nat):Int))] ρ) (n-0) ⟨0,rfl,rfl,.inr rfl,H3,(Is.of ⟨kr,kr,trivial⟩)⟩ ?_;clear H0 H1 H2 H3;rintro _ _ w4 ⟨i,rfl,hri,hin,H4,_,rfl⟩;refine zc kr<|zc kr ?_;by_cases hi:i+1<n
 ·refine rL [.v,.v,.v,.E (.bool (decide (((i+1:Nat):Int)<(n:Int)))) (.bool true) (za (decide_eq_true (by omega)))] H4 kr fun gs3 w5 H5=>wW<|zg kr kr<|zh kr<|wW ?_;obtain ⟨a,ha⟩:∃a,L[i]? =some a:=⟨_,List.getElem?_eq_getElem (by omega)⟩
  obtain ⟨b,hb⟩:∃b,L[i+1]? =some b:=⟨_,List.getElem?_eq_getElem (by omega)⟩
  obtain ⟨bl,off,C,T,fz,hp,hh,hR⟩:=hP.row (by omega);have c1:C[off+i*2]? =some (.string a.1):=hR.cell ha 0 (by decide);have c2:C[off+(i+1)*2]? =some (.string b.1):=hR.cell hb 0 (by decide);have hdr:=zkP ha hb;have hd1:L.drop (i+1)=b::L.drop (i+2):=by
   obtain ⟨h2,e2⟩:=List.getElem?_eq_some_iff.1 hb;rw [List.drop_eq_getElem_cons h2,e2]
  refine zc kr<|zj 1 kr ?_;cases hlt:lexB (tl a.1) (tl b.1) with
  | true=>
   refine zc kr<|dL [.v,.v,.E (.int .i64 (IntKind.i64.wrap (((i+1:Nat):Int)-1))) (iN i) (ze (by rw [show (((i+1:Nat):Int)-1)=(i:Int) by omega];exact xP (by omega))),.o (ins:=[((.tmp 10),.slice p n c),((.tmp 12),iN i)]) (v:=.pointer (some ⟨bl,off+i*2,none⟩)) (fun ρ o w ho hi2=>yb (kd:=.i64) (t:=50) (e:=64) (K:=2) (bytes:=32) kr (x:=(.tmp 10)) (y:=(.tmp 12)) bl off n c i hp ho hi2.1 hi2.2.1 (by omega) w),.v,.fs (off:=off+i*2) (v:=.string a.1) hh (zC hh) c1,.v,.v,.o (ins:=[((.tmp 16),.slice p n c),((.tmp 17),iN (i+1))]) (v:=.pointer (some ⟨bl,off+(i+1)*2,none⟩)) (fun ρ o w ho hi2=>yb (kd:=.i64) (t:=50) (e:=64) (K:=2) (bytes:=32) kr (x:=(.tmp 16)) (y:=(.tmp 17)) bl off n c (i+1) hp ho hi2.1 hi2.2.1 hi w),.v,.fs (off:=off+(i+1)*2) (v:=.string b.1) hh (zC hh) c2,.E (.bool (!(Op.bytesLess a.1.toList b.1.toList))) (.bool (!true)) (za (by rw [kI,hlt]))] H5 kr fun w6 H6=>wW<|zf kr kr<|zh kr<|wW<|rL [.v,.E (.int .i64 (IntKind.i64.wrap (((i+1:Nat):Int)+1))) (.int .i64 ((i+1+1:Nat):Int)) (ze (zm (a:=i+1) (b:=1) (by omega))),.v] H6 kr fun gs4 w7 H7=>?_;show ∃m,_∧_;refine ⟨_,(by omega),i+1,rfl,?_,.inl (by omega),H7.as kr,(Is.of ⟨kr,kr,trivial⟩)⟩;rw [←hri,hdr,hd1,zfG,hlt];rfl
  | false=>
   refine zc kr<|dL [.v,.v,.E (.int .i64 (IntKind.i64.wrap (((i+1:Nat):Int)-1))) (iN i) (ze (by rw [show (((i+1:Nat):Int)-1)=(i:Int) by omega];exact xP (by omega))),.o (ins:=[((.tmp 10),.slice p n c),((.tmp 12),iN i)]) (v:=.pointer (some ⟨bl,off+i*2,none⟩)) (fun ρ o w ho hi2=>yb (kd:=.i64) (t:=50) (e:=64) (K:=2) (bytes:=32) kr (x:=(.tmp 10)) (y:=(.tmp 12)) bl off n c i hp ho hi2.1 hi2.2.1 (by omega) w),.v,.fs (off:=off+i*2) (v:=.string a.1) hh (zC hh) c1,.v,.v,.o (ins:=[((.tmp 16),.slice p n c),((.tmp 17),iN (i+1))]) (v:=.pointer (some ⟨bl,off+(i+1)*2,none⟩)) (fun ρ o w ho hi2=>yb (kd:=.i64) (t:=50) (e:=64) (K:=2) (bytes:=32) kr (x:=(.tmp 16)) (y:=(.tmp 17)) bl off n c (i+1) hp ho hi2.1 hi2.2.1 hi w),.v,.fs (off:=off+(i+1)*2) (v:=.string b.1) hh (zC hh) c2,.E (.bool (!(Op.bytesLess a.1.toList b.1.toList))) (.bool (!false)) (za (by rw [kI,hlt]))] H5 kr fun w6 H6=>wW<|zg kr kr<|rS [.v] H6 kr fun gs4 w7 H7=>?_;exact rRe [.tmp 2] [] (v:=.bool false) (v':=.bool (qV L)) H7 (za (by rw [←hri,hdr,zfG,hlt];rfl)) kr
 ·refine rL [.v,.v,.v,.E (.bool (decide (((i+1:Nat):Int)<(n:Int)))) (.bool false) (za (decide_eq_false (by omega)))] H4 kr fun gs3 w5 H5=>wW<|zf kr kr<|zw 0 kr<|wW<|rS [.v] H5 kr fun gs4 w6 H6=>?_;have hl:(L.drop i).length≤1:=by rw [List.length_drop];omega
  exact rRe [.tmp 2] [] (v:=.bool true) (v':=.bool (qV L)) H6 (za (by
   rw [←hri]
   match L.drop i,hl with
   | [],_=>rfl
   | [x],_=>rfl)) kr
theorem zfH: ∀ {a b:List Nd},a.length≠b.length→qh a b=false
 | [],[],h=>absurd rfl h
 | [],_::_,_=>rfl
 | _::_,[],_=>rfl
 | x::a,y::b,h=>by
  unfold qh;rw [zfH (a:=a) (b:=b) (by simpa using h),Bool.and_false]
theorem zb5 {α:Type}{L:List α}{i:Nat}{a:α}(ha:L[i]? =some a):L.drop i=a::L.drop (i+1):=by
 obtain ⟨h1,e1⟩:=List.getElem?_eq_some_iff.1 ha;rw [List.drop_eq_getElem_cons h1,e1]
theorem zkR (p:Option Addr)(n c:Nat)(A:List Nd)(p':Option Addr)(n' c':Nat)(A':List Nd)(hA:A.length≤0xe8d4a51000):
 FnP Tryz.prog 127 #[.slice p n c,.slice p' n' c'] (fun w=>yO w p n A∧yO w p' n' A') (.bool (qh A A')):=by
 refine FnP.intro (c:=zl Tryz.f127) [.tmp 4] 26 Tryz.func127 kr kr kr fun w hP=>?_;have H0:=St.start w;obtain ⟨hN,hN'⟩:=hP;have hn:=hN.1;have hn':=hN'.1;refine rS [.v] H0 kr fun gs1 w1 H1=>zc kr ?_;by_cases hne:n=n'
 ·obtain rfl:=hne;refine rS [.v,.v,.v,.v,.E (.bool (!((n:Int)==(n:Int)))) (.bool false) (za (by rw [beq_self_eq_true];rfl))] H1 kr fun gs2 w2 H2=>zf kr kr<|zh kr<|wW<|zc kr<|rS [.v,.v,.v] H2 kr fun gs3 w3 H3=>zj 0 kr ?_;have H4:St w.heap.size w w3 []:=H3.as kr;refine zz kr (fun mz ρ ww=> ∃(i:Nat),n-i=mz∧i≤n∧qh (A.drop i) (A'.drop i)=qh A A'∧St w.heap.size w ww []∧Is [(0,.slice p n c),(1,.slice p' n c'),(12,iN n),(13,iN i)] ρ) (n-0) ⟨0,rfl,Nat.zero_le _,rfl,H4,(Is.of ⟨kr,kr,kr,kr,trivial⟩)⟩ ?_;clear H0 H1 H2 H3 H4;rintro _ _ w4 ⟨i,rfl,hin,heq,H5,_,rfl⟩;by_cases hi:i<n
  ·refine rS [.E (.bool (decide ((i:Int)<(n:Int)))) (.bool true) (za (decide_eq_true (by omega)))] H5 kr fun gs4 w5 H6=>zc kr<|zg kr kr<|zh kr<|wW ?_;obtain ⟨x,hx⟩:∃x,A[i]? =some x:=⟨_,List.getElem?_eq_getElem (by omega)⟩
   obtain ⟨y,hy⟩:∃y,A'[i]? =some y:=⟨_,List.getElem?_eq_getElem (by omega)⟩
   obtain ⟨b1,o1,C1,T1,fz1,hp1,hh1,hR1⟩:=hN.row (by omega);obtain ⟨b2,o2,C2,T2,fz2,hp2,hh2,hR2⟩:=hN'.row (by omega);rw [zb5 hx,zb5 hy] at heq;refine zc kr<|zj 1 kr<|rS [.v,.v] H6 kr fun gs5 w6 H7=>zc kr ?_;cases hb:ndB x y with
   | true=>
    refine dL [.v,.v,.o (ins:=[((.tmp 16),.slice p n c),((.tmp 17),iN i)]) (v:=.pointer (some ⟨b1,o1+i*19,none⟩)) (fun ρ o w ho hi2=>yb (kd:=.i64) (t:=36) (e:=118) (K:=19) (bytes:=168) kr (x:=(.tmp 16)) (y:=(.tmp 17)) b1 o1 n c i hp1 ho hi2.1 hi2.2.1 (by omega) w),.fp (off:=o1+i*19) (n:=19) (W:=(nS.cs x).toArray) hh1 (zC hh1) (hR1 i x hx).1 (hR1 i x hx).2,.v,.v,.o (ins:=[((.tmp 20),.slice p' n c'),((.tmp 21),iN i)]) (v:=.pointer (some ⟨b2,o2+i*19,none⟩)) (fun ρ o w ho hi2=>yb (kd:=.i64) (t:=36) (e:=118) (K:=19) (bytes:=168) kr (x:=(.tmp 20)) (y:=(.tmp 21)) b2 o2 n c' i hp2 ho hi2.1 hi2.2.1 (by omega) w),.fp (off:=o2+i*19) (n:=19) (W:=(nS.cs y).toArray) hh2 (zC hh2) (hR2 i y hy).1 (hR2 i y hy).2,.oe (ins:=[((.tmp 19),ndV x),((.tmp 23),ndV y)]) (v:=.bool (!(ndB x y))) (v':=.bool (!true)) (fun ρ o w ho hi2=>zfF x y w ho hi2.1 hi2.2.1) (by rw [hb])] H7 kr fun w7 H8=>wW<|zf kr kr<|zh kr<|wW<|rL [.E (.int .i64 (IntKind.i64.wrap ((i:Int)+1))) (.int .i64 ((i+1:Nat):Int)) (ze (zm (a:=i) (b:=1) (by omega))),.v] H8 kr fun gs7 w10 H9=>?_;show ∃m,_∧_;refine ⟨_,(by omega),i+1,rfl,hi,?_,H9.as kr,(Is.of ⟨kr,kr,kr,kr,trivial⟩)⟩;rw [←heq];simp only [qh,hb,Bool.true_and]
   | false=>
    refine dL [.v,.v,.o (ins:=[((.tmp 16),.slice p n c),((.tmp 17),iN i)]) (v:=.pointer (some ⟨b1,o1+i*19,none⟩)) (fun ρ o w ho hi2=>yb (kd:=.i64) (t:=36) (e:=118) (K:=19) (bytes:=168) kr (x:=(.tmp 16)) (y:=(.tmp 17)) b1 o1 n c i hp1 ho hi2.1 hi2.2.1 (by omega) w),.fp (off:=o1+i*19) (n:=19) (W:=(nS.cs x).toArray) hh1 (zC hh1) (hR1 i x hx).1 (hR1 i x hx).2,.v,.v,.o (ins:=[((.tmp 20),.slice p' n c'),((.tmp 21),iN i)]) (v:=.pointer (some ⟨b2,o2+i*19,none⟩)) (fun ρ o w ho hi2=>yb (kd:=.i64) (t:=36) (e:=118) (K:=19) (bytes:=168) kr (x:=(.tmp 20)) (y:=(.tmp 21)) b2 o2 n c' i hp2 ho hi2.1 hi2.2.1 (by omega) w),.fp (off:=o2+i*19) (n:=19) (W:=(nS.cs y).toArray) hh2 (zC hh2) (hR2 i y hy).1 (hR2 i y hy).2,.oe (ins:=[((.tmp 19),ndV x),((.tmp 23),ndV y)]) (v:=.bool (!(ndB x y))) (v':=.bool (!false)) (fun ρ o w ho hi2=>zfF x y w ho hi2.1 hi2.2.1) (by rw [hb])] H7 kr fun w7 H8=>wW<|zg kr kr<|rS [.v] H8 kr fun gs6 w8 H9=>?_;exact rRe [.tmp 4] [] (v:=.bool false) (v':=.bool (qh A A')) H9 (za (by rw [←heq];simp only [qh,hb,Bool.false_and])) kr
  ·refine rS [.E (.bool (decide ((i:Int)<(n:Int)))) (.bool false) (za (decide_eq_false (by omega)))] H5 kr fun gs4 w5 H6=>zc kr<|zf kr kr<|zw 0 kr<|wW<|rS [.v] H6 kr fun gs5 w6 H7=>?_;exact rRe [.tmp 4] [] (v:=.bool true) (v':=.bool (qh A A')) H7 (za (by rw [←heq,List.drop_of_length_le (by omega),List.drop_of_length_le (by omega)];rfl)) kr
 ·refine rS [.v,.v,.v,.v,.E (.bool (!((n:Int)==(n':Int)))) (.bool true) (za (by rw [beq_eq_false_iff_ne.2 (by omega)];rfl))] H1 kr fun gs2 w2 H2=>zg kr kr<|rS [.v] H2 kr fun gs3 w3 H3=>?_;exact rRe [.tmp 4] [] (v:=.bool false) (v':=.bool (qh A A')) H3 (za (zfH (by omega)).symm) kr
theorem zkS (p:Option Addr)(n c:Nat)(a:Int)(A:List Nd)(p':Option Addr)(n' c':Nat)(a':Int)(A':List Nd)(hA:A.length≤0xe8d4a51000):
 FnP Tryz.prog 96 #[.agg #[.slice p n c,.int .i64 a],.agg #[.slice p' n' c',.int .i64 a']] (fun w=>yO w p n A∧yO w p' n' A') (.bool (decide (a=a')&&qh A A')):=by
 refine FnP.intro (c:=zl Tryz.f96) [.tmp 4] 17 Tryz.func96 kr kr kr fun w hP=>rS [.b,.b,.v] (St.start w) kr fun gs1 w1 H1=>?_;by_cases h:a=a'
 ·refine rS [.v,.l 0,.v,.l 1,.E (.bool (a==a')) (.bool true) (za (beq_iff_eq.2 h)),.v,.v,.l 0,.v,.l 1,.cp (pre:=fun w=>yO w p n A∧yO w p' n' A') (zkR p n c A p' n' c' A' hA) [] (fun w hb hd=>⟨hP.1.call hb,hP.2.call hb⟩),.v,.v] H1 kr fun gs2 w2 H2=>?_;exact rRe [.tmp 4] [] (v:=.bool (qh A A')) (v':=.bool (decide (a=a')&&qh A A')) H2 (za (by rw [decide_eq_true h];rfl)) kr
 ·refine rS [.v,.l 0,.v,.l 1,.E (.bool (a==a')) (.bool false) (za (beq_eq_false_iff_ne.2 h)),.v,.n,.n,.n,.n,.n,.v,.v] H1 kr fun gs2 w2 H2=>?_;exact rRe [.tmp 4] [] (v:=.bool false) (v':=.bool (decide (a=a')&&qh A A')) H2 (za (by rw [decide_eq_false h];rfl)) kr
theorem zb6 {go:Int→List UInt8→Nat×List Pr→Nat×List Pr}(hg: ∀a p s,∀x∈(go a p s).2,x∈s.2∨mayM x.1 x.2=true)(nd:Nd)(part:List UInt8): ∀(n:Nat) (s:Nat×List Pr),∀x∈(yy go nd part n s).2,x∈s.2∨mayM x.1 x.2=true
 | 0,s,x,hx=>.inl hx
 | n+1,s,x,hx=>by
  unfold yy at hx;split at hx
  ·exact zb6 hg nd part n s x hx
  ·rcases hg _ _ _ x hx with h|h
   ·exact zb6 hg nd part n s x h
   ·exact .inr h
theorem zfI (A:List Nd): ∀(f:Nat) (a:Int) (p:List UInt8) (s:Nat×List Pr),∀x∈(yt A f a p s).2,x∈s.2∨mayM x.1 x.2=true
 | 0,_,_,s,x,hx=>.inl hx
 | f+1,a,p,s,x,hx=>by
  unfold yt at hx;split at hx
  ·exact .inl hx
  ·cases hn:A[a.toNat]? with
   | none=>rw [hn] at hx;exact .inl hx
   | some nd=>
    rw [hn] at hx;simp only at hx;split at hx
    ·exact .inl hx
    ·rcases zb6 (zfI A f) nd _ 16 _ x hx with h|h
     ·unfold qv at h;simp only at h;split at h
      ·rename_i hm
       rcases List.mem_append.1 h with h|h
       ·exact .inl h
       ·obtain rfl:=List.mem_singleton.1 h;exact .inr hm
      ·exact .inl h
     ·exact .inr h
theorem qY {k v:ByteArray}(h:mayM k v=true):(1≤k.size∧k.size≤32)∧1≤v.size∧v.size≤500:=by
 unfold mayM at h;simp only [Bool.and_eq_true,decide_eq_true_eq] at h;exact h
def jQ (A:List Nd)(root:Int):List Pr:=(yt A 192 root [] (192,[])).2
def zG (L:List Pr):List Nd×Int:=zk 65 (zF L) []
def qi (A:List Nd)(root:Int):Option (List Pr):=
 if (jQ A root).length≤64∧qV (jQ A root)=true∧(decide ((zG (jQ A root)).2=root)&&qh (zG (jQ A root)).1 A)=true then some (jQ A root) else none
theorem zfJ (A:List Nd)(root:Int): ∀x∈jQ A root,mayM x.1 x.2=true:=fun x hx=>(zfI A 192 root [] (192,[]) x hx).resolve_left (by simp)
theorem zkT (A:List Nd)(root:Int):(jQ A root).length≤192:=by
 have:=(zb3 A 192 root [] (192,[])).2;unfold jQ;simp only [List.length_nil] at this;omega
theorem zR.prAt {ty:TypeId}{p:Option Addr}{n c:Nat}{row:List (Nat×Obj)}{L:List Pr}(h:zR pS ty p n c row L){B:Nat}{w0 w:World}{l:List (Nat×Obj)}(hS:St B w0 w l)(hl: ∀e∈row,e∈l):yH w p n L:=by
 refine ⟨h.len.symm,?_⟩;rcases h with ⟨_,_,_,_,hA⟩ | ⟨b,cur,hp,rfl,hr⟩
 ·exact .inl hA
 ·exact .inr ⟨b,0,cur,ty,(0,0),hp,(hS.own _ (hl _ (List.mem_cons_self ..))).2,hr.rowAt⟩
def uy (r:Option (List Pr))(v:Value)(T:List (Nat×Obj)):Prop:=match r with
 | none=>v=.tuple #[.slice none 0 0,.bool false]
 | some L=> ∃(p:Option Addr) (n c:Nat),v=.tuple #[.slice p n c,.bool true]∧zR pS 64 p n c T L
theorem zfK (p:Option Addr)(n c:Nat)(root:Int)(A:List Nd)(hA: ∀x∈A,x.part.size≤0x800000000000)(hAl:A.length≤0xe8d4a51000):
 FnT Tryz.prog 52 #[.agg #[.slice p n c,.int .i64 root]] (fun w=>yO w p n A) (uy (qi A root)):=by
 refine FnT.intro (c:=zl Tryz.f52) [.tmp 2,.tmp 3] 31 Tryz.func52 kr kr kr fun w hN=>?_;have hN0:=hN;have H0:=St.start w;refine rS [.b,.v,.v] H0 kr fun gs1 w1 H1=>rS [.v,.l 0,.v,.a,.s 1] H1 kr fun gs2 w2 H2=>?_;have H3:St w.heap.size w w2 [((gs1 0).b,trO p n c root),((gs2 3).b,rdO p n c none 0 0 192)]:=H2.as kr;refine zi [0,1,2] kr kr<|rp [.v,.l 0] H3 kr fun gs3 w3 H4=>wX [2] ?_;have H5:St w.heap.size w w3 [((gs1 0).b,trO p n c root),((gs2 3).b,rdO p n c none 0 0 192)]:=H4.as kr;have R1:Rdr w.heap.size w w3 (gs2 3).b p n c (192,[]) [((gs1 0).b,trO p n c root)]:=⟨none,0,0,[],.inl ⟨rfl,rfl,rfl,rfl,rfl⟩,H5.perm (List.Perm.swap _ _ _)⟩
 refine jw (some 10) 94 #[.pointer (some ⟨(gs2 3).b,0,none⟩),.int .i64 root,.string ⟨#[]⟩] (zfz A hA 192 root [] (gs2 3).b p n c (192,[]) R1 ((NdS.below hN).mono (fun _ h=>nomatch h)) (Nat.le_refl _) (by simp) (by simp)) kr kr ?_;rintro _ w4 ⟨p2,n2,c2,row,hrow,H6⟩;refine zd ?_;have hwl:=zkT A root;have hwm:=zfJ A root;obtain ⟨L,hL⟩:∃L,jQ A root=L:=⟨_,rfl⟩
 have hrow':zR pS 64 p2 n2 c2 row L:=by rw [←hL];exact hrow
 obtain ⟨lf,hlf⟩:∃lf,(yt A 192 root [] (192,[])).1=lf:=⟨_,rfl⟩
 have H7:St w.heap.size w w4 (((gs2 3).b,rdO p n c p2 n2 c2 lf)::((gs1 0).b,trO p n c root)::row):=by
  rw [←hlf];exact H6.perm (List.Perm.cons _ (List.perm_append_comm (l₁:=[((gs1 0).b,trO p n c root)]) (l₂:=row)))
 have hrm:qi A root=if L.length≤64∧qV L=true∧(decide ((zG L).2=root)&&qh (zG L).1 A)=true then some L else none:=by rw [←hL];rfl
 rw [hL] at hwl hwm;rw [hrm];have hn2:=hrow'.len;clear H0 H1 H2 H3 H4 H5 H6 hrow R1 hrm;refine zJ [1,4] fun ρ1=>zc kr<|zc kr ?_;by_cases h64:64<n2
 ·rw [if_neg (fun h=>by omega)];refine dL [.v,.l 0,.v,.E (.bool (decide ((64:Int)<(n2:Int)))) (.bool true) (za (decide_eq_true (by omega))),.v,.n,.n,.n,.n,.v,.v,.n,.n,.n,.n,.n,.n,.v] H7 kr fun w5 H8=>wW<|zg kr kr<|rS [.v,.v] H8 kr fun gs4 w6 H9=>rRr [.tmp 2,.tmp 3] [] (.tuple #[.slice none 0 0,.bool false]) (yf w.heap.size w (uy none)) H9 kr ?_;exact ⟨[],rfl,H9.sub (List.nil_sublist _)⟩
 ·have hmemR: ∀e∈row,e∈((gs2 3).b,rdO p n c p2 n2 c2 lf)::((gs1 0).b,trO p n c root)::row:=fun e he=>List.mem_cons_of_mem _ (List.mem_cons_of_mem _ he);have hrise:=zkQ p2 n2 c2 L (by omega);cases hrb:qV L with
  | false=>
   rw [hrb] at hrise;rw [if_neg (fun h=>by simp at h)];refine D2.g_draw0 [0,1,2,3,4,5,6,7,8,9,10,11,12,13,14,15,16,17] [(some 11,fun _=>.pointer (some ⟨(gs2 3).b,1,none⟩)),(some 12,fun _=>.slice p2 n2 c2),(some 13,fun _=>iN n2),(some 14,fun _=>.bool false),(some 15,fun _=>.bool false),(some 16,fun _=>.pointer (some ⟨(gs2 3).b,1,none⟩)),(some 17,fun _=>.slice p2 n2 c2),(some 18,fun _=>.bool false),(some 19,fun _=>.bool true),(some 20,fun _=>.bool true),(some 21,fun _=>.bool true),(some 22,fun _=>undef),(some 23,fun _=>undef),(some 24,fun _=>undef),(some 25,fun _=>undef),(some 26,fun _=>undef),(some 27,fun _=>undef),(some 28,fun _=>.bool true)]
    (fun _ _ ww=>St w.heap.size w ww (((gs2 3).b,rdO p n c p2 n2 c2 lf)::((gs1 0).b,trO p n c root)::row)) kr kr kr H7.drew ⟨?_,?_,?_,?_,?_,?_,?_,?_,?_,?_,?_,?_,?_,?_,?_,?_,?_,?_,trivial⟩ ?_
   ·exact D2.gv_val (fun _ _ _ h=>h) (fun g w=>by kernel_rfl)
   ·exact D2.gv_ld (fun _ _ _ h=>h) 50 (.tmp 11) (fun _=>(gs2 3).b) 1 #[.slice p n c,.slice p2 n2 c2,.int .i64 (lf:Int)] 140 (0,0) (fun g=>by kernel_rfl) (fun g=>by kernel_rfl) (fun L g w hN hp=>St.get hp 0 kr) kr kr
   ·exact D2.gv_val (fun _ _ _ h=>h) (fun g w=>by kernel_rfl)
   ·exact D2.gv_valE (fun _ _ _ h=>h) (fun g w=>by kernel_rfl) (za (decide_eq_false (p:=(64:Int)<(n2:Int)) (by omega)))
   ·exact D2.gv_val (fun _ _ _ h=>h) (fun g w=>by kernel_rfl)
   ·exact D2.gv_val (fun _ _ _ h=>h) (fun g w=>by kernel_rfl)
   ·exact D2.gv_ld (fun _ _ _ h=>h) 50 (.tmp 16) (fun _=>(gs2 3).b) 1 #[.slice p n c,.slice p2 n2 c2,.int .i64 (lf:Int)] 140 (0,0) (fun g=>by kernel_rfl) (fun g=>by kernel_rfl) (fun L g w hN hp=>St.get hp 0 kr) kr kr
   ·exact D2.gv_cpW (fun _ _ _ h=>h) 95 #[.slice p2 n2 c2] hrise (fun L g w hN hp=>hrow'.prAt hp hmemR) (fun L g w w' hN hp hb=>St.call hp hb) (fun g w=>by kernel_rfl)
   ·exact D2.gv_val (fun _ _ _ h=>h) (fun g w=>by kernel_rfl)
   ·exact D2.gv_val (fun _ _ _ h=>h) (fun g w=>by kernel_rfl)
   ·exact D2.gv_val (fun _ _ _ h=>h) (fun g w=>by kernel_rfl)
   ·exact D2.gv_not (fun _ _ _ h=>h) (fun g=>by kernel_rfl)
   ·exact D2.gv_not (fun _ _ _ h=>h) (fun g=>by kernel_rfl)
   ·exact D2.gv_not (fun _ _ _ h=>h) (fun g=>by kernel_rfl)
   ·exact D2.gv_not (fun _ _ _ h=>h) (fun g=>by kernel_rfl)
   ·exact D2.gv_not (fun _ _ _ h=>h) (fun g=>by kernel_rfl)
   ·exact D2.gv_not (fun _ _ _ h=>h) (fun g=>by kernel_rfl)
   ·exact D2.gv_val (fun _ _ _ h=>h) (fun g w=>by kernel_rfl)
   ·intro L1 gg w5 hall H8;refine wW<|zg kr kr<|rS [.v,.v] H8 kr fun gs4 w6 H9=>rRr [.tmp 2,.tmp 3] [] (.tuple #[.slice none 0 0,.bool false]) (yf w.heap.size w (uy none)) H9 kr ?_;exact ⟨[],rfl,H9.sub (List.nil_sublist _)⟩
  | true=>
   rw [hrb] at hrise;have hbuild:=uw p2 n2 c2 L (by omega) (fun x hx=>(qY (hwm x hx)).1.2) (ux.2 ((zaD L).1 hrb));obtain ⟨sb,hsb⟩:∃sb,(decide ((zG L).2=root)&&qh (zG L).1 A)=sb:=⟨_,rfl⟩
   have hbl:(zG L).1.length≤0xe8d4a51000:=by
    have:=vx 65 (zF L) [];have h2:(zF L).length=L.length:=by unfold zF;rw [List.length_map]
    unfold zG;simp only [List.length_nil] at this;omega
   rw [hsb];have hif:(if L.length≤64∧true=true∧sb=true then some L else none)=if sb=true then some L else none:=by
    cases sb
    ·rw [if_neg (fun h=>by simp at h),if_neg (by decide)]
    ·rw [if_pos ⟨by omega,rfl,rfl⟩,if_pos rfl]
   rw [hif];refine D2.g_draw0 [0,1,2,3,4,5,6,7,8,9,10,11,12,13,14,15,16,17] [(some 11,fun _=>.pointer (some ⟨(gs2 3).b,1,none⟩)),(some 12,fun _=>.slice p2 n2 c2),(some 13,fun _=>iN n2),(some 14,fun _=>.bool false),(some 15,fun _=>.bool false),(some 16,fun _=>.pointer (some ⟨(gs2 3).b,1,none⟩)),(some 17,fun _=>.slice p2 n2 c2),(some 18,fun _=>.bool true),(some 19,fun _=>.bool false),(some 20,fun _=>.bool false),(some 21,fun _=>.bool false),(some 22,fun _=>.pointer (some ⟨(gs2 3).b,1,none⟩)),(some 23,fun _=>.slice p2 n2 c2),(some 24,fun y=>.agg #[.slice (pG y) y.n y.cap,.int .i64 (zG L).2]),(some 25,fun _=>.agg #[.slice p n c,.int .i64 root]),(some 26,fun _=>.bool sb),(some 27,fun _=>.bool (!sb)),(some 28,fun _=>.bool (!sb))]
    (D2.two 13 (fun ww=>St w.heap.size w ww (((gs2 3).b,rdO p n c p2 n2 c2 lf)::((gs1 0).b,trO p n c root)::row)) (fun y ww=> ∃T,zR nS 118 (pG y) y.n y.cap T (zG L).1∧St w.heap.size w ww (((gs2 3).b,rdO p n c p2 n2 c2 lf)::((gs1 0).b,trO p n c root)::(row++T)))) kr kr kr H7.drew ⟨?_,?_,?_,?_,?_,?_,?_,?_,?_,?_,?_,?_,?_,?_,?_,?_,?_,?_,trivial⟩ ?_
   ·exact D2.gv_val (fun _ _ _ h=>h) (fun g w=>by kernel_rfl)
   ·exact D2.gv_ld (fun _ _ _ h=>h) 50 (.tmp 11) (fun _=>(gs2 3).b) 1 #[.slice p n c,.slice p2 n2 c2,.int .i64 (lf:Int)] 140 (0,0) (fun g=>by kernel_rfl) (fun g=>by kernel_rfl) (fun L g w hN hp=>hp.get (fun h=>St.get h 0 kr) (fun _ ⟨_,_,h⟩=>St.get h 0 kr)) kr kr
   ·exact D2.gv_val (fun _ _ _ h=>h) (fun g w=>by kernel_rfl)
   ·exact D2.gv_valE (fun _ _ _ h=>h) (fun g w=>by kernel_rfl) (za (decide_eq_false (p:=(64:Int)<(n2:Int)) (by omega)))
   ·exact D2.gv_val (fun _ _ _ h=>h) (fun g w=>by kernel_rfl)
   ·exact D2.gv_val (fun _ _ _ h=>h) (fun g w=>by kernel_rfl)
   ·exact D2.gv_ld (fun _ _ _ h=>h) 50 (.tmp 16) (fun _=>(gs2 3).b) 1 #[.slice p n c,.slice p2 n2 c2,.int .i64 (lf:Int)] 140 (0,0) (fun g=>by kernel_rfl) (fun g=>by kernel_rfl) (fun L g w hN hp=>hp.get (fun h=>St.get h 0 kr) (fun _ ⟨_,_,h⟩=>St.get h 0 kr)) kr kr
   ·exact D2.gv_cpW (fun _ _ _ h=>h) 95 #[.slice p2 n2 c2] hrise (fun L g w hN hp=>hp.get (fun h=>hrow'.prAt h hmemR) (fun _ ⟨_,_,h⟩=>hrow'.prAt h fun e he=>List.mem_cons_of_mem _ (List.mem_cons_of_mem _ (List.mem_append_left _ he)))) (fun L g w w' hN hp hb=>hp.call (fun h=>h.call hb) (fun _ ⟨T,h1,h2⟩=>⟨T,h1,h2.call hb⟩)) (fun g w=>by kernel_rfl)
   ·exact D2.gv_val (fun _ _ _ h=>h) (fun g w=>by kernel_rfl)
   ·exact D2.gv_val (fun _ _ _ h=>h) (fun g w=>by kernel_rfl)
   ·exact D2.gv_val (fun _ _ _ h=>h) (fun g w=>by kernel_rfl)
   ·exact D2.gv_val (fun _ _ _ h=>h) (fun g w=>by kernel_rfl)
   ·exact D2.gv_ld (fun _ _ _ h=>h) 50 (.tmp 22) (fun _=>(gs2 3).b) 1 #[.slice p n c,.slice p2 n2 c2,.int .i64 (lf:Int)] 140 (0,0) (fun g=>by kernel_rfl) (fun g=>by kernel_rfl) (fun L g w hN hp=>hp.get (fun h=>St.get h 0 kr) (fun _ ⟨_,_,h⟩=>St.get h 0 kr)) kr kr
   ·refine D2.gv_ft 27 #[.slice p2 n2 c2] hbuild (fun L g w hN hp=>hrow'.prAt (hp.bef hN.1) hmemR) (fun L1 g ww v T w' hN hp hok hT=>?_) (fun g w=>by kernel_rfl);obtain ⟨p3,n3,c3,hr3,rfl⟩:=hok;have hS:=(St.addAll (hp.bef hN.1) hT).perm (List.perm_append_comm (l₁:=((gs2 3).b,rdO p n c p2 n2 c2 lf)::((gs1 0).b,trO p n c root)::row) (l₂:=T));rcases hr3 with ⟨rfl,rfl,rfl,rfl,hA0⟩ | ⟨b3,cur3,rfl,rfl,hr4⟩
    ·exact ⟨{ n:=0,cap:=0 },rfl,D2.two.to ⟨[],.inl ⟨rfl,rfl,rfl,rfl,hA0⟩,hS⟩⟩
    ·exact ⟨{ b:=b3,n:=n3,cap:=c3,l:=[1] },rfl,D2.two.to ⟨[_],.inr ⟨b3,cur3,rfl,rfl,hr4⟩,hS⟩⟩
   ·exact D2.gv_ld (fun _ _ _ h=>h) 38 (.tmp 1) (fun _=>(gs1 0).b) 0 #[.slice p n c,.int .i64 root] 38 (0,0) (fun g=>by kernel_rfl) (fun g=>by kernel_rfl) (fun L g w hN hp=>hp.get (fun h=>St.get h 1 kr) (fun _ ⟨_,_,h⟩=>St.get h 1 kr)) kr kr
   ·refine D2.gives_of fun L1 gg ww hp hN=>?_;have h13:=hN.bef 13 kr;obtain ⟨T,hr,hS⟩:=hp.aft h13;obtain ⟨o,ho,hd,hw,hrun⟩:=yg (show opv _ _ 15 _ ww=some (some 26,true,.ok (.enter 96 #[.agg #[.slice (pG (gg 13)) (gg 13).n (gg 13).cap,.int .i64 (zG L).2],.agg #[.slice p n c,.int .i64 root]]) ww) by kernel_rfl);refine ⟨o,ho,hd,.inr ⟨hw,?_⟩⟩;rw [hrun];refine Calls.mono (zkS (pG (gg 13)) (gg 13).n (gg 13).cap (zG L).2 (zG L).1 p n c root A hbl ww ⟨NdS.own hr ww _ hS fun e he=>List.mem_cons_of_mem _ (List.mem_cons_of_mem _ (List.mem_append_right _ he)),hN0.call hS.below⟩) ?_;rintro e w' ⟨rfl,hb⟩;rw [hsb];refine ⟨_,rfl,gg 15,rfl,?_⟩;rw [D2.setN_self];unfold D2.two;rw [show D2.put1 L1 15 13=true from h13];exact ⟨T,hr,hS.call hb⟩
   ·exact D2.gv_val (fun _ _ _ h=>h) (fun g w=>by kernel_rfl)
   ·exact D2.gv_val (fun _ _ _ h=>h) (fun g w=>by kernel_rfl)
   ·intro L1 gg w5 hall hp;obtain ⟨T,_,H8⟩:=hp.aft (hall 13 (Nat.le_of_ble_eq_true kr));refine wW ?_;cases sb with
    | false=>
     refine zg kr kr<|rS [.v,.v] H8 kr fun gs4 w6 H9=>rRr [.tmp 2,.tmp 3] [] (.tuple #[.slice none 0 0,.bool false]) (yf w.heap.size w (uy none)) H9 kr ?_;exact ⟨[],rfl,H9.sub (List.nil_sublist _)⟩
    | true=>
     refine zf kr kr<|zh kr<|wW<|rS [.v,.l 0,.v,.v] H8 kr fun gs4 w6 H9=>rRr [.tmp 2,.tmp 3] [] (.tuple #[.slice p2 n2 c2,.bool true]) (yf w.heap.size w (uy (some L))) H9 kr ?_;have H10:St w.heap.size w w6 (((gs2 3).b,rdO p n c p2 n2 c2 lf)::((gs1 0).b,trO p n c root)::(row++T)):=H9.as kr;exact ⟨row,⟨p2,n2,c2,rfl,hrow'⟩,H10.sub (List.Sublist.cons _ (List.Sublist.cons _ (List.sublist_append_left _ _)))⟩
def kap (e:Ent):Nat:=match e.1 with
 | []=>0
 | b::_=>b.toNat+1
def fil (c:Nat)(l:List Ent):List Ent:=l.filter fun e=>decide (kap e=c)
theorem zb7 (c:Nat)(e:Ent)(l:List Ent):fil c (e::l)=if kap e=c then e::fil c l else fil c l:=by
 unfold fil;rw [List.filter_cons];by_cases h:kap e=c<;>simp [h]
def fm:Nat→List Ent→List Ent
 | 0,_=>[]
 | n+1,l=>fm n l++fil n l
theorem zfL {c:Nat}{l:List Ent}(h: ∀e∈l,kap e≠c):fil c l=[]:=by
 unfold fil;rw [List.filter_eq_nil_iff];intro e he;simp [h e he]
theorem zb8: ∀ {n:Nat} {l:List Ent},(∀e∈l,n≤kap e)→fm n l=[]
 | 0,_,_=>rfl
 | n+1,l,h=>by
  unfold fm;rw [zb8 fun e he=>Nat.le_of_succ_le (h e he),zfL fun e he=>by have:=h e he;omega];rfl
theorem zfM {e:Ent}{l:List Ent}(h: ∀x∈l,kap e≤kap x): ∀n,fm n (e::l)=if kap e<n then e::fm n l else fm n l
 | 0=>by rw [if_neg (Nat.not_lt_zero _)];rfl
 | n+1=>by
  have ih:=zfM h n;unfold fm;rw [ih,zb7];rcases Nat.lt_trichotomy (kap e) n with c | c | c
  ·rw [if_pos c,if_neg (by omega),if_pos (by omega)];rfl
  ·rw [if_neg (by omega),if_pos c,if_pos (by omega),zb8 fun x hx=>by have:=h x hx;omega];rfl
  ·rw [if_neg (by omega),if_neg (by omega),if_neg (by omega)]
theorem zfN {n:Nat} : ∀ {l:List Ent},l.Pairwise (fun a b=>kap a≤kap b)→(∀e∈l,kap e<n)→fm n l=l
 | [],_,_=>zb8 fun _ h=>nomatch h
 | e::l,h,hn=>by
  rw [zfM (List.pairwise_cons.1 h).1,if_pos (hn e (List.mem_cons_self ..)),zfN (List.pairwise_cons.1 h).2 fun x hx=>hn x (List.mem_cons_of_mem _ hx)]
theorem zkU {a b:Ent}(h:lexB a.1 b.1=true):kap a≤kap b:=by
 obtain ⟨x,v⟩:=a;obtain ⟨y,u⟩:=b;cases x with
 | nil=>exact Nat.zero_le _
 | cons p x=>
  cases y with
  | nil=>rw [uq] at h;cases h
  | cons q y=>
   show p.toNat+1≤q.toNat+1;rcases xE h with h | ⟨rfl,_⟩<;>omega
theorem zkV {l:List Ent}(h:yD l):l.Pairwise fun a b=>kap a≤kap b:=List.Pairwise.imp zkU h
theorem zkW {f:Nat}{l:List Ent}(h:Okl f l): ∀e∈l,kap e<17:=fun e he=>by
 obtain ⟨x,v⟩:=e;cases x with
 | nil=>show 0<17;omega
 | cons p x=>have:=(h _ he).2 p (List.mem_cons_self ..);show p.toNat+1<17;omega
def yL (pre:List UInt8)(l:List Ent):List Pr:=l.map fun e=>(kyS (pre++e.1),e.2)
theorem zkX (pre:List UInt8)(l m:List Ent):yL pre (l++m)=yL pre l++yL pre m:=List.map_append ..
theorem zfO (b:UInt8):UInt8.ofNat b.toNat=b:=by simp
theorem zfP (pre:List UInt8)(c:Nat): ∀l:List Ent,yL pre (fil (c+1) l)=yL (pre++ [UInt8.ofNat c]) (zo c l)
 | []=>rfl
 | e::l=>by
  have ih:=zfP pre c l;rw [zb7];obtain ⟨x,v⟩:=e;cases x with
  | nil=>
   rw [if_neg (show ¬kap ([],v)=c+1 from fun h=>by cases h),ih];rfl
  | cons p x=>
   by_cases h:p.toNat=c
   ·rw [if_pos (show kap (p::x,v)=c+1 from congrArg (·+1) h)];have e2:zo c ((p::x,v)::l)=(x,v)::zo c l:=by simp [zo,h]
    rw [e2];unfold yL at ih ⊢;rw [List.map_cons,List.map_cons,ih];congr 2;rw [List.append_assoc,←h,zfO];rfl
   ·rw [if_neg (show ¬kap (p::x,v)=c+1 from fun q=>h (Nat.succ.inj q)),ih];have e2:zo c ((p::x,v)::l)=zo c l:=by simp [zo,h]
    rw [e2]
theorem zfQ (k:ByteArray):mayM k ⟨#[]⟩=false:=by unfold mayM;simp [show (⟨#[]⟩:ByteArray).size=0 from rfl]
theorem zfR (pre:List UInt8)(ps:List Pr): ∀l:List Ent,yD l→(∀e∈l,mayM (kyS (pre++e.1)) e.2=true)→qv pre (zW l) ps=ps++yL pre (fil 0 l)
 | [],_,_=>by
  show qv pre ⟨#[]⟩ ps=ps++ [];unfold qv;rw [zfQ];simp
 | e::l,h,hm=>by
  have h2:=List.pairwise_cons.1 h;unfold zW;rw [zb7];by_cases he:e.1=[]
  ·have hk:kap e=0:=by unfold kap;rw [he]
   rw [if_pos he,if_pos hk];have hn:fil 0 l=[]:=zfL fun x hx=>by
    have h3:=h2.1 x hx;rw [he] at h3;unfold kap;cases hx1:x.1 with
    | nil=>rw [hx1] at h3;cases h3
    | cons p t=>simp
   have hme:=hm e (List.mem_cons_self ..);rw [he,List.append_nil] at hme;rw [hn];unfold qv yL;rw [if_pos hme];simp [he]
  ·have hk: ¬kap e=0:=by
    unfold kap;cases hx1:e.1 with
    | nil=>exact absurd hx1 he
    | cons p t=>simp
   rw [if_neg he,if_neg hk];exact zfR pre ps l h2.2 fun x hx=>hm x (List.mem_cons_of_mem _ hx)
theorem uz {lay:List Ent→List Nd→List Nd×Int}(h: ∀l A,∃Z,(lay l A).1=A++Z)(l:List Ent)(A:List Nd): ∀n,∃Z,(zu lay l n A).1=A++Z
 | 0=>⟨[],by simp [zu]⟩
 | n+1=>by
  obtain ⟨Z,hZ⟩:=uz h l A n;obtain ⟨Y,hY⟩:=h (zo n l) (zu lay l n A).1;exact ⟨Z++Y,by show (lay (zo n l) (zu lay l n A).1).1=_;rw [hY,hZ,List.append_assoc]⟩
theorem kJ: ∀(f:Nat) (l:List Ent) (A:List Nd),∃Z,(zk f l A).1=A++Z
 | 0,_,A=>⟨[],by simp [zk]⟩
 | f+1,[],A=>⟨[],by simp [zk]⟩
 | f+1,[e],A=>⟨_,by unfold zk;rfl⟩
 | f+1,e::e'::r,A=>by
  unfold zk;split
  ·obtain ⟨Z,hZ⟩:=kJ f (zM (zr (e::e'::r)) (e::e'::r)) A;exact ⟨_,by rw [hZ,List.append_assoc]⟩
  ·obtain ⟨Z,hZ⟩:=uz (kJ f) (e::e'::r) A 16;exact ⟨_,by rw [hZ,List.append_assoc]⟩
theorem zb9 (f:Nat)(l:List Ent)(A:List Nd)(c:Nat): ∀n,c≤n→∃Z,(zu (zk f) l n A).1=(zu (zk f) l c A).1++Z:=by
 intro n hn
 induction n with
 | zero=>obtain rfl:c=0:=by omega
         exact ⟨[],by simp⟩
 | succ n ih=>
  by_cases h:c=n+1
  ·subst h;exact ⟨[],by simp⟩
  ·obtain ⟨Z,hZ⟩:=ih (by omega);obtain ⟨Y,hY⟩:=kJ f (zo n l) (zu (zk f) l n A).1;exact ⟨Z++Y,by show (zk f (zo n l) (zu (zk f) l n A).1).1=_;rw [hY,hZ,List.append_assoc]⟩
theorem zaE: ∀(f:Nat) (l:List Ent) (A:List Nd),l≠[]→Okl f l→∃m:Nat,(zk f l A).2=(m:Int)∧(zk f l A).1.length=m+1∧A.length≤m
 | 0,[],_,h,_=>absurd rfl h
 | 0,e::l,_,_,h=>absurd (h e (List.mem_cons_self ..)).1 (Nat.not_lt_zero _)
 | f+1,[],_,h,_=>absurd rfl h
 | f+1,[e],A,_,_=>⟨A.length,rfl,by unfold zk;simp,Nat.le_refl _⟩
 | f+1,e::e'::r,A,_,_=>by
  unfold zk;split
  ·obtain ⟨Z,hZ⟩:=kJ f (zM (zr (e::e'::r)) (e::e'::r)) A;exact ⟨_,rfl,by simp,by rw [hZ];simp⟩
  ·obtain ⟨Z,hZ⟩:=uz (kJ f) (e::e'::r) A 16;exact ⟨_,rfl,by simp,by rw [hZ];simp⟩
def grp (l:List Ent):Nat→Nat
 | 0=>0
 | n+1=>grp l n+if zo n l=[] then 0 else 1
theorem zca (l:List Ent){m n:Nat}(h:m≤n):grp l m≤grp l n:=by
 induction n with
 | zero=>obtain rfl:m=0:=by omega
         exact Nat.le_refl _
 | succ n ih=>
  by_cases e:m=n+1
  ·subst e;exact Nat.le_refl _
  ·have:=ih (by omega);show _≤grp l n+(if zo n l=[] then 0 else 1);omega
theorem zcb {l:List Ent}{i:Nat}(h:zo i l≠[]):grp l i+1=grp l (i+1):=by
 show _=grp l i+if zo i l=[] then 0 else 1;rw [if_neg h]
theorem zfS {l:List Ent}{i j n:Nat}(hi:i<n)(hj:j<n)(hij:i<j)(h1:zo i l≠[])(h2:zo j l≠[]):2≤grp l n:=by
 have a:=zcb h1;have b:=zcb h2;have c:=zca l (show i+1≤j by omega);have d:=zca l (show j+1≤n by omega);omega
theorem zcc {l:List Ent}{b:UInt8}{t:List UInt8}{v:ByteArray}(h:(b::t,v)∈l):zo b.toNat l≠[]:=by
 intro e;have:(t,v)∈zo b.toNat l:=by
  unfold zo;rw [List.mem_filterMap];exact ⟨_,h,by simp⟩
 rw [e] at this;cases this
theorem zkY {e:Ent}(h:e.1=[])(r:List Ent)(n:Nat):((List.range n).map fun c=>(zo c (e::r)).length).sum=((List.range n).map fun c=>(zo c r).length).sum:=by
 congr 1;refine List.map_congr_left fun c _=>?_;obtain ⟨x,v⟩:=e;obtain rfl:x=[]:=h;rfl
theorem zkZ {f:Nat}{l:List Ent}(hr:yD l)(ho:Okl f l)(h2:2≤l.length)(hc:zr l=0):((List.range 16).map fun c=>(zo c l).length).sum+1≤l.length∧1≤grp l 16∨2≤grp l 16:=by
 match l,h2 with
 | e::e'::r,_=>
  have h':=ho e' (by simp);have hlex:lexB e.1 e'.1=true:=(List.pairwise_cons.1 hr).1 e' (by simp);obtain ⟨x',v'⟩:=e';cases x' with
  | nil=>rw [uq] at hlex;cases hlex
  | cons q y=>
   have hq:q.toNat<16:=h'.2 q (by simp);have hcq:=zcc (l:=e::(q::y,v')::r) (b:=q) (t:=y) (v:=v') (by simp);obtain ⟨x,v⟩:=e;cases x with
   | nil=>
    left;refine ⟨?_,?_⟩
    ·rw [zkY rfl];have:=vw ((q::y,v')::r) 16;simp only [List.length_cons] at this ⊢;omega
    ·have a:=zcb hcq;have b:=zca ((([]:List UInt8),v)::(q::y,v')::r) (show q.toNat+1≤16 by omega);omega
   | cons p x=>
    right;have hp:p.toNat<16:=(ho (p::x,v) (by simp)).2 p (by simp);have hcp:=zcc (l:=(p::x,v)::(q::y,v')::r) (b:=p) (t:=x) (v:=v) (by simp);by_cases hall: ∀z∈(p::x,v)::(q::y,v')::r,∃t,z.1=p::t
    ·exfalso;have:1≤zr ((p::x,v)::(q::y,v')::r):=zaw _ _ _ _ (by simp) fun z hz=>by
      obtain ⟨t,ht⟩:=hall z hz;rw [ht];simp [shr]
     omega
    ·have ⟨z,hz,hne⟩:∃z∈(p::x,v)::(q::y,v')::r,∀t,z.1≠p::t:=by
      refine Classical.byContradiction fun hn=>hall fun z hz=>Classical.byContradiction fun ht=>hn ⟨z,hz,fun t e=>ht ⟨t,e⟩⟩
     obtain ⟨zx,zv⟩:=z;cases zx with
     | nil=>
      exfalso;rcases List.mem_cons.1 hz with hz | hz
      ·cases hz
      ·have:=(List.pairwise_cons.1 hr).1 _ hz;rw [uq] at this;cases this
     | cons b t=>
      have hb:b.toNat<16:=(ho _ hz).2 b (by simp);have hcb:=zcc hz;have hbp:b.toNat≠p.toNat:=fun e=>hne t (by rw [UInt8.toNat_inj.1 e]);rcases Nat.lt_or_gt_of_ne hbp with h | h
      ·exact zfS hb hp h hcb hcp
      ·exact zfS hp hb h hcp hcb
theorem zfT {l:List Ent}{e:Ent}(he:l.head? =some e):zr (zM (zr l) l)=0:=by
 cases l with
 | nil=>rfl
 | cons e0 r=>
  obtain rfl:e0=e:=by simpa using he
  refine Classical.byContradiction fun hne=>?_;have hle:=fun p (hp:p∈e0::r)=>jO (l:=e0::r) (e:=e0) rfl p hp;generalize hk:zr (e0::r)=k at*;have h1:=fun p hp=>jO (l:=zM k (e0::r)) (e:=(e0.1.drop k,e0.2)) rfl p hp;have h2:k+1≤zr (e0::r):=by
   have key: ∀p∈e0::r,k+1≤shr p.1 e0.1:=fun p hp=>by
    have a:=h1 (p.1.drop k,p.2) (List.mem_map.2 ⟨p,hp,rfl⟩);have b:=vy (hle p hp);have d:shr p.1 e0.1=(p.1.take k).length+shr (p.1.drop k) (e0.1.drop k):=by
     have:=ut (p.1.take k) (p.1.drop k) (e0.1.drop k);rw [List.take_append_drop] at this;rw [b,List.take_append_drop] at this;rw [this,b]
    have g:=hle p hp;have g2:=(kD p.1 e0.1).1;rw [List.length_take] at d;simp only at a;omega
   refine zaw _ _ _ _ ?_ key;have:=key e0 (List.mem_cons_self ..);have:=(kD e0.1 e0.1).1;omega
  omega
theorem zfU {f:Nat}(l:List Ent)(hc: ∀c (A:List Nd),zo c l≠[]→(zk f (zo c l) A).1.length+2≤A.length+3*(zo c l).length)(A:List Nd): ∀n,(zu (zk f) l n A).1.length+2*grp l n≤A.length+3*((List.range n).map fun c=>(zo c l).length).sum
 | 0=>by simp [zu,grp]
 | n+1=>by
  have ih:=zfU l hc A n;rw [List.range_succ,List.map_append,List.sum_append];simp only [List.map_cons,List.map_nil,List.sum_cons,List.sum_nil,Nat.add_zero];show (zk f (zo n l) (zu (zk f) l n A).1).1.length+2*(grp l n+if zo n l=[] then 0 else 1)≤_;by_cases h:zo n l=[]
  ·rw [if_pos h,h];have e0:zk f ([]:List Ent) (zu (zk f) l n A).1=((zu (zk f) l n A).1,-1):=by cases f<;>simp [zk]
   rw [e0];simp only [List.length_nil];omega
  ·rw [if_neg h];have:=hc n (zu (zk f) l n A).1 h;omega
theorem zcd: ∀(f:Nat) (l:List Ent) (A:List Nd),l≠[]→yD l→Okl f l→(zk f l A).1.length+2≤A.length+3*l.length∧(2≤l.length→zr l=0→(zk f l A).1.length+3≤A.length+3*l.length)
 | 0,[],_,h,_,_=>absurd rfl h
 | 0,e::l,_,_,_,h=>absurd (h e (List.mem_cons_self ..)).1 (Nat.not_lt_zero _)
 | f+1,[],_,h,_,_=>absurd rfl h
 | f+1,[e],A,_,_,_=>by unfold zk;simp
 | f+1,e::e'::r,A,_,hr,ho=>by
  have h2:2≤(e::e'::r).length:=by simp
  unfold zk;by_cases hc:0<zr (e::e'::r)
  ·rw [if_pos hc];have ih:=(zcd f (zM (zr (e::e'::r)) (e::e'::r)) A (by simp [zM]) (zb0 hr rfl) (kG rfl hc ho)).2 (by rw [xF];exact h2) (zfT rfl);rw [xF] at ih;refine ⟨?_,fun _ h=>absurd h (by omega)⟩;simp only [List.length_append,List.length_cons,List.length_nil] at ih ⊢;omega
  ·rw [if_neg hc];have hk:=zfU (f:=f) (e::e'::r) (fun c A' hne=>(zcd f _ A' hne (zb1 c hr) (jZ c ho)).1) A 16;have hg:=zkZ hr ho h2 (by omega);have hs:=vw (e::e'::r) 16;have:(zu (zk f) (e::e'::r) 16 A).1.length+1+3≤A.length+3*(e::e'::r).length:=by
    rcases hg with ⟨h1,h3⟩|h3<;>omega
   refine ⟨?_,fun _ _=>?_⟩<;>(simp only [List.length_append,List.length_cons,List.length_nil] at this ⊢;omega)
theorem zfV {go:Int→List UInt8→Nat×List Pr→Nat×List Pr}{x:Nd}{part:List UInt8} : ∀(n:Nat) (s:Nat×List Pr),(∀i,i<n→x.kids.getD i (-1)= -1)→yy go x part n s=s
 | 0,s,_=>rfl
 | n+1,s,h=>by
  unfold yy;rw [if_pos (h n (Nat.lt_succ_self n))];exact zfV n s fun i hi=>h i (by omega)
theorem zfW {go:Int→List UInt8→Nat×List Pr→Nat×List Pr}{x:Nd}{part:List UInt8}(h0:x.kids.getD 0 (-1)≠ -1)(h1: ∀i,0<i→x.kids.getD i (-1)= -1): ∀(n:Nat) (s:Nat×List Pr),yy go x part (n+1) s=go (x.kids.getD 0 (-1)) (part++qw x.kind 0) s
 | 0,s=>by
  unfold yy;rw [if_neg h0];rfl
 | n+1,s=>by
  rw [yy,if_pos (h1 (n+1) (Nat.succ_pos n))];exact zfW h0 h1 n s
theorem zce {A':List Nd}{g m:Nat}{pre:List UInt8}{s:Nat×List Pr}{x:Nd}(hx:A'[m]? =some x)(hs:s.1≠0)(hp:pre.length+x.part.size≤64):
 yt A' (g+1) (m:Int) pre s=yy (yt A' g) x (pre++tl x.part) 16 (s.1-1,qv (pre++tl x.part) x.value s.2):=by
 have hm:=(List.getElem?_eq_some_iff.1 hx).1;unfold yt;rw [if_neg (by omega),Int.toNat_natCast,hx];simp only;rw [if_neg (by omega)]
theorem zcf {α:Type}(L:List α)(x:α)(Z:List α):((L++ [x])++Z)[L.length]? =some x:=by simp
theorem zcg: ∀(f g:Nat) (l:List Ent) (A A':List Nd) (pre:List UInt8) (s:Nat×List Pr),f≤g→l≠[]→Okl f l→yD l→(∀e∈l,pre.length+e.1.length≤64)→(∀e∈l,mayM (kyS (pre++e.1)) e.2=true)→
 (∃Z,A'=(zk f l A).1++Z)→(zk f l A).1.length≤A.length+s.1→yt A' g (zk f l A).2 pre s=(s.1-((zk f l A).1.length-A.length),s.2++yL pre l)
 | 0,_,[],_,_,_,_,_,h,_,_,_,_,_,_=>absurd rfl h
 | 0,_,e::l,_,_,_,_,_,_,h,_,_,_,_,_=>absurd (h e (List.mem_cons_self ..)).1 (Nat.not_lt_zero _)
 | f+1,0,_,_,_,_,_,h,_,_,_,_,_,_,_=>absurd h (Nat.not_succ_le_zero f)
 | f+1,g+1,[],_,_,_,_,_,h,_,_,_,_,_,_=>absurd rfl h
 | f+1,g+1,[e],A,A',pre,s,hg,_,ho,hr,hlen,hmay,⟨Z,hZ⟩,hs=>by
  unfold zk at hs hZ ⊢;simp only [List.length_append,List.length_cons,List.length_nil] at hs ⊢;have hsz:(zb e.1).size=e.1.length:=rfl;rw [zce (x:=⟨1,zb e.1,e.2,qu⟩) (by rw [hZ];exact zcf A _ Z) (by omega) (by show pre.length+(zb e.1).size≤64;rw [hsz];exact hlen e (by simp)),zfV]
  ·have hm:=hmay e (by simp);show (s.1-1,qv (pre++e.1) e.2 s.2)=_;unfold qv;rw [if_pos hm];refine Prod.ext ?_ rfl;show s.1-1=_;omega
  ·intro i hi;show qu.getD i (-1)= -1;unfold qu;rw [List.getD_eq_getElem?_getD,List.getElem?_replicate,if_pos hi];rfl
 | f+1,g+1,e::e'::r,A,A',pre,s,hg,_,ho,hr,hlen,hmay,⟨Z,hZ⟩,hs=>by
  unfold zk at hs hZ ⊢;by_cases hc:0<zr (e::e'::r)
  ·rw [if_pos hc] at hs hZ ⊢;have hd:zM (zr (e::e'::r)) (e::e'::r)≠[]:=by simp [zM]
   have hok:=kG (e:=e) rfl hc ho;obtain ⟨m,hm1,hm2,hm3⟩:=zaE f _ A hd hok;have hsub: ∀x∈zM (zr (e::e'::r)) (e::e'::r),(pre++e.1.take (zr (e::e'::r))).length+x.1.length≤64∧mayM (kyS ((pre++e.1.take (zr (e::e'::r)))++x.1)) x.2=true:=fun x hx=>by
    obtain ⟨y,hy,rfl⟩:=List.mem_map.1 hx;have h1:=vy (jO (l:=e::e'::r) (e:=e) rfl y hy);have h2:(pre++e.1.take (zr (e::e'::r)))++y.1.drop (zr (e::e'::r))=pre++y.1:=by
     rw [←h1,List.append_assoc,List.take_append_drop]
    refine ⟨?_,by rw [show ((y.1.drop (zr (e::e'::r)),y.2):Ent).1=y.1.drop (zr (e::e'::r)) from rfl,h2];exact hmay y hy⟩;rw [←List.length_append,show ((y.1.drop (zr (e::e'::r)),y.2):Ent).1=y.1.drop (zr (e::e'::r)) from rfl,h2,List.length_append];exact hlen y hy
   have hcol:yL (pre++e.1.take (zr (e::e'::r))) (zM (zr (e::e'::r)) (e::e'::r))=yL pre (e::e'::r):=by
    unfold yL zM;rw [List.map_map];refine List.map_congr_left fun y hy=>?_;have h1:=vy (jO (l:=e::e'::r) (e:=e) rfl y hy);show (kyS ((pre++e.1.take (zr (e::e'::r)))++y.1.drop (zr (e::e'::r))),y.2)=_;rw [←h1,List.append_assoc,List.take_append_drop]
   have ih:=fun A' s=>zcg f g (zM (zr (e::e'::r)) (e::e'::r)) A A' (pre++e.1.take (zr (e::e'::r))) s (by omega) hd hok (zb0 hr rfl) (fun x hx=>(hsub x hx).1) (fun x hx=>(hsub x hx).2);rw [hcol] at ih;generalize zk f (zM (zr (e::e'::r)) (e::e'::r)) A=R at*;obtain ⟨R1,R2⟩:=R;simp only at*;subst hm1;simp only [List.length_append,List.length_cons,List.length_nil] at hs ⊢;have hsz:(zb (e.1.take (zr (e::e'::r)))).size=min (zr (e::e'::r)) e.1.length:=by rw [zO,List.length_take]
   have he:=hlen e (by simp);rw [zce (x:=⟨2,zb (e.1.take (zr (e::e'::r))),⟨#[]⟩,(m:Int)::List.replicate 15 (-1)⟩) (by rw [hZ];exact zcf R1 _ Z) (by omega) (by show pre.length+(zb _).size≤64;rw [hsz];omega)];have h0:((m:Int)::List.replicate 15 (-1)).getD 0 (-1)=(m:Int):=rfl
   rw [zfW (x:=⟨2,zb (e.1.take (zr (e::e'::r))),⟨#[]⟩,(m:Int)::List.replicate 15 (-1)⟩) (by show ((m:Int)::List.replicate 15 (-1)).getD 0 (-1)≠ -1;rw [h0];omega) (fun i hi=>by
    show ((m:Int)::List.replicate 15 (-1)).getD i (-1)= -1;cases i with
    | zero=>omega
    | succ i=>
     rw [List.getD_cons_succ,List.getD_eq_getElem?_getD,List.getElem?_replicate]
     split<;>rfl)]
   show yt A' g (m:Int) (pre++e.1.take (zr (e::e'::r))++qw 2 0) (s.1-1,qv (pre++e.1.take (zr (e::e'::r))) ⟨#[]⟩ s.2)=_;have e1:qw 2 0=[]:=rfl;have e2:qv (pre++e.1.take (zr (e::e'::r))) ⟨#[]⟩ s.2=s.2:=by unfold qv;rw [zfQ];simp
   rw [e1,e2,List.append_nil,ih A' (s.1-1,s.2) ⟨_,by rw [hZ,List.append_assoc]⟩ (by show _≤A.length+(s.1-1);omega)];refine Prod.ext ?_ rfl;show s.1-1-_=_;omega
  ·rw [if_neg hc] at hs hZ ⊢;simp only [List.length_append,List.length_cons,List.length_nil] at hs ⊢;have hl0:(zu (zk f) (e::e'::r) 16 A).1.length≥A.length:=by
    obtain ⟨Y,hY⟩:=uz (kJ f) (e::e'::r) A 16;rw [hY];simp
   have hpre:pre.length≤64:=by have:=hlen e (by simp);omega
   have hcol:yL pre (e::e'::r)=yL pre (fm 17 (e::e'::r)):=by rw [zfN (zkV hr) (zkW ho)]
   generalize hl:e::e'::r=l at*;rw [zce (x:=⟨3,⟨#[]⟩,zW l,(zu (zk f) l 16 A).2⟩) (by rw [hZ];exact zcf _ _ Z) (by omega) (by show pre.length+0≤64;exact hpre)];show yy (yt A' g) ⟨3,⟨#[]⟩,zW l,(zu (zk f) l 16 A).2⟩ (pre++ []) 16 (s.1-1,qv (pre++ []) (zW l) s.2)=_;rw [List.append_nil,zfR pre s.2 l hr hmay];have key: ∀c,c≤16→yy (yt A' g) ⟨3,⟨#[]⟩,zW l,(zu (zk f) l 16 A).2⟩ pre c (s.1-1,s.2++yL pre (fil 0 l))=(s.1-1-((zu (zk f) l c A).1.length-A.length),s.2++yL pre (fm (c+1) l)):=by
    intro c
    induction c with
    | zero=>
     intro _;show (s.1-1,s.2++yL pre (fil 0 l))=(s.1-1-(A.length-A.length),s.2++yL pre ([]++fil 0 l))
     rw [Nat.sub_self,List.nil_append];rfl
    | succ c ih=>
     intro hc16;have ih:=ih (by omega);rw [yy,ih];have hk:((zu (zk f) l 16 A).2).getD c (-1)=(zk f (zo c l) (zu (zk f) l c A).1).2:=uv (zk f) l A 16 c (by omega);show (if ((zu (zk f) l 16 A).2).getD c (-1)= -1 then _ else yt A' g (((zu (zk f) l 16 A).2).getD c (-1)) (pre++qw 3 c) _)=_;rw [hk];have hstep:(zu (zk f) l (c+1) A).1=(zk f (zo c l) (zu (zk f) l c A).1).1:=rfl;rw [hstep];have hfm:yL pre (fm (c+1+1) l)=yL pre (fm (c+1) l)++yL (pre++ [UInt8.ofNat c]) (zo c l):=by
      rw [fm,zkX,zfP]
     rw [hfm];by_cases hn:zo c l=[]
     ·have e0:zk f (zo c l) (zu (zk f) l c A).1=((zu (zk f) l c A).1,-1):=by rw [hn];cases f<;>simp [zk]
      rw [e0,if_pos rfl,hn];simp [yL]
     ·obtain ⟨m,hm1,hm2,hm3⟩:=zaE f (zo c l) (zu (zk f) l c A).1 hn (jZ c ho);rw [if_neg (by rw [hm1];omega)];obtain ⟨Y,hY⟩:=zb9 f l A (c+1) 16 hc16;rw [hstep] at hY;obtain ⟨Y0,hY0⟩:=uz (kJ f) l A c;have hl1:A.length≤(zu (zk f) l c A).1.length:=by rw [hY0];simp
      have hl2:(zk f (zo c l) (zu (zk f) l c A).1).1.length≤(zu (zk f) l 16 A).1.length:=by rw [hY];simp
      have hmem: ∀x∈zo c l,(pre++ [UInt8.ofNat c]).length+x.1.length≤64∧mayM (kyS ((pre++ [UInt8.ofNat c])++x.1)) x.2=true:=fun x hx=>by
       obtain ⟨b,hb,hbc⟩:=kH hx;have h1:=hlen _ hb;have h2:=hmay _ hb;simp only [List.length_cons,List.length_append,List.length_nil] at h1 ⊢;refine ⟨by omega,?_⟩;rw [List.append_assoc,←hbc,zfO];exact h2
      have hw:=zcg f g (zo c l) (zu (zk f) l c A).1 A' (pre++ [UInt8.ofNat c]) (s.1-1-((zu (zk f) l c A).1.length-A.length),s.2++yL pre (fm (c+1) l)) (by omega) hn (jZ c ho) (zb1 c hr) (fun x hx=>(hmem x hx).1) (fun x hx=>(hmem x hx).2) ⟨Y++([⟨3,⟨#[]⟩,zW l,(zu (zk f) l 16 A).2⟩]++Z),by rw [hZ,hY];simp only [List.append_assoc]⟩ (by show _≤_+(s.1-1-_);omega);show yt A' g _ (pre++ [UInt8.ofNat c]) _=_;rw [hw];refine Prod.ext ?_ ?_
      ·show s.1-1-_-_=s.1-1-_;omega
      ·show _++_++_=_;rw [List.append_assoc]
   rw [key 16 (Nat.le_refl _),←hcol];refine Prod.ext ?_ rfl;show s.1-1-_=_;omega
theorem zfX: ∀A:List Nd,qh A A=true
 | []=>rfl
 | x::A=>by unfold qh;rw [zkO,zfX A];rfl
structure OkP (L:List Pr):Prop where
 len:L.length≤64
 may: ∀x∈L,mayM x.1 x.2=true
 rise:L.Pairwise fun a b=>lexB (tl a.1) (tl b.1)=true
theorem zk0 (L:List Pr):yL [] (zF L)=L:=by
 unfold yL zF;rw [List.map_map]
 conv=>rhs;rw [←List.map_id L]
 refine List.map_congr_left fun x _=>?_;show (kyS ([]++hv (tl x.1)),x.2)=x;rw [List.nil_append,(zfb (tl x.1)).1];rfl
theorem zfY {L:List Pr}(h:OkP L):qi (zG L).1 (zG L).2=some L:=by
 cases hL:L with
 | nil=>decide+kernel
 | cons x0 L0=>
  rw [←hL];have hne:zF L≠[]:=by rw [hL];simp [zF]
  have hlen:(zF L).length=L.length:=List.length_map ..;have hr:yD (zF L):=ux.2 h.rise;have ho:Okl 65 (zF L):=fun e he=>by
   obtain ⟨x,hx,rfl⟩:=List.mem_map.1 he;have:=(qY (h.may x hx)).1.2;refine ⟨?_,fun b hb=>zb2 _ b hb⟩;show (hv (tl x.1)).length<65;rw [xY,zy];omega
  have hw:=zcg 65 192 (zF L) [] (zG L).1 [] (192,[]) (by omega) hne ho hr (fun e he=>by have:=(ho e he).1;simp only [List.length_nil];omega) (fun e he=>by
   obtain ⟨x,hx,rfl⟩:=List.mem_map.1 he;show mayM (kyS ([]++hv (tl x.1))) x.2=true;rw [List.nil_append,(zfb (tl x.1)).1]
   exact h.may x hx) ⟨[],by simp [zG]⟩ (by
    have h1:=(zcd 65 (zF L) [] hne hr ho).1;have h2:=h.len;rw [hlen] at h1;show _≤([]:List Nd).length+192
    simp only [List.length_nil] at h1 ⊢;omega)
  have hwk:jQ (zG L).1 (zG L).2=L:=by
   unfold jQ;rw [show (zG L).2=(zk 65 (zF L) []).2 from rfl,hw];show []++yL [] (zF L)=L;rw [zk0];rfl
  unfold qi;rw [hwk,if_pos ⟨h.len,(zaD L).2 h.rise,by rw [zfX];simp⟩]
def qa (x y:List UInt8):Int:=if lexB x y=true then-1 else if x=y then 0 else 1
def uA (x y:List UInt8):Int:=
 match (List.range (min x.length y.length)).find? fun i=>x.getD i 0!=y.getD i 0 with
 | some i=>if x.getD i 0<y.getD i 0 then-1 else 1
 | none=>if x.length<y.length then-1 else if x.length>y.length then 1 else 0
theorem zfZ: ∀x y:List UInt8,uA x y=qa x y
 | [],[]=>rfl
 | [],_::_=>by simp [uA,qa,lexB]
 | _::_,[]=>by simp [uA,qa,lexB]
 | a::x,b::y=>by
  have ih:=zfZ x y;unfold uA qa at ih ⊢;rw [List.length_cons,List.length_cons,Nat.add_min_add_right,List.range_succ_eq_map,List.find?_cons];by_cases e:a=b
  ·subst e;have h0:((a::x).getD 0 0!=(a::y).getD 0 0)=false:=by simp
   rw [h0,List.find?_map];have hf:((fun i=>(a::x).getD i 0!=(a::y).getD i 0)∘Nat.succ)=fun i=>x.getD i 0!=y.getD i 0:=by funext i;simp
   rw [hf];have hl:lexB (a::x) (a::y)=lexB x y:=by simp [lexB]
   rw [hl];simp only [List.cons.injEq,true_and];rw [←ih];cases (List.range (min x.length y.length)).find? fun i=>x.getD i 0!=y.getD i 0 with
   | some i=>simp
   | none=>simp
  ·have h0:((a::x).getD 0 0!=(b::y).getD 0 0)=true:=by simpa using e
   rw [h0];simp only [lexB,List.cons.injEq,e,false_and,if_false];by_cases c:a<b
   ·simp [c,UInt8.lt_iff_toNat_lt.1 c]
   ·simp [c,mt UInt8.lt_iff_toNat_lt.2 c]
theorem zk1 (a:ByteArray)(i:Nat):a[i]! =(tl a).getD i 0:=by
 unfold tl;rw [List.getD_eq_getElem?_getD,Array.getElem?_toList];by_cases h:i<a.size
 ·rw [getElem!_pos a i h,Array.getElem?_eq_getElem (show i<a.data.size from h)];rfl
 ·rw [getElem!_neg a i h,Array.getElem?_eq_none (show a.data.size≤i from Nat.not_lt.1 h)];rfl
theorem zk2 (a b:ByteArray):Go.Extern.BytealgCompare.cmp a b=qa (tl a) (tl b):=by
 rw [←zfZ];unfold Go.Extern.BytealgCompare.cmp uA;simp only [zk1];rfl
theorem zf0 (x y:List UInt8):decide (qa x y<0)=lexB x y:=by
 unfold qa;cases lexB x y with
 | true=>rfl
 | false=>rw [if_neg (by decide)];by_cases h:x=y<;>simp [h]
theorem zk3 (x y:List UInt8):(qa x y==0)=decide (x=y):=by
 unfold qa;by_cases h:x=y
 ·subst h;rw [ur,if_neg (by decide),if_pos rfl];simp
 ·rw [decide_eq_false h];cases lexB x y with
  | true=>rfl
  | false=>rw [if_neg (by decide),if_neg h];rfl
theorem zk4 (a b:ByteArray):Fn Tryz.prog 97 #[.string a,.string b] (.int .i64 (qa (tl a) (tl b))):=by
 refine Fn.intro (c:=zl Tryz.f97) [.tmp 4] 8 Tryz.func97 kr kr kr fun w=>rS [.v] (St.start w) kr fun gs1 w1 H1=>rS [.v,.v,.E (.int .i64 (Go.Extern.BytealgCompare.cmp a b)) (.int .i64 (qa (tl a) (tl b))) (ze (zk2 a b)),.v] H1 kr fun gs2 w2 H2=>?_;exact rRe [.tmp 4] [] (v:=.int .i64 (qa (tl a) (tl b))) (v':=.int .i64 (qa (tl a) (tl b))) H2 rfl kr
theorem zk5 (a b:ByteArray):Fn Tryz.prog 56 #[.string a,.string b] (.int .i64 (qa (tl a) (tl b))):=by
 refine Fn.intro (c:=zl Tryz.f56) [.tmp 4] 8 Tryz.func56 kr kr kr fun w=>rS [.v] (St.start w) kr fun gs1 w1 H1=>rS [.v,.v,.c (zk4 a b),.v] H1 kr fun gs2 w2 H2=>?_;exact rRe [.tmp 4] [] (v:=.int .i64 (qa (tl a) (tl b))) (v':=.int .i64 (qa (tl a) (tl b))) H2 rfl kr
theorem zch (k v key:ByteArray):Fn Tryz.prog 55 #[.agg #[.string k,.string v],.string key] (.int .i64 (qa (tl k) (tl key))):=by
 refine Fn.intro (c:=zl Tryz.f55) [.tmp 4] 9 Tryz.func55 kr kr kr fun w=>rS [.b,.v] (St.start w) kr fun gs1 w1 H1=>rS [.v,.l 0,.v,.c (zk5 k key),.v] H1 kr fun gs2 w2 H2=>?_;exact rRe [.tmp 4] [] (v:=.int .i64 (qa (tl k) (tl key))) (v':=.int .i64 (qa (tl k) (tl key))) H2 rfl kr
def zN (k:ByteArray)(L:List Pr):Nat:=(L.takeWhile fun x=>lexB (tl x.1) (tl k)).length
def yw (k:ByteArray)(L:List Pr):Bool:=match L[zN k L]? with
 | some x=>decide (tl x.1=tl k)
 | none=>false
theorem zf1 (k:ByteArray): ∀(L:List Pr) (i:Nat),i≤L.length→(∀t x,t<i→L[t]? =some x→lexB (tl x.1) (tl k)=true)→(∀x,L[i]? =some x→lexB (tl x.1) (tl k)=false)→zN k L=i
 | [],i,h,_,_=>by unfold zN;simp at h;simp [h]
 | x::L,0,_,_,h=>by unfold zN;rw [List.takeWhile_cons,h x rfl];rfl
 | x::L,i+1,h,h1,h2=>by
  have ih:=zf1 k L i (by simpa using h) (fun t y ht hy=>h1 (t+1) y (by omega) hy) (fun y hy=>h2 y hy);unfold zN at ih ⊢;rw [List.takeWhile_cons,h1 0 x (by omega) rfl,if_pos rfl,List.length_cons,ih]
theorem zf2 {L:List Pr}{k:ByteArray}(hr:L.Pairwise fun a b=>lexB (tl a.1) (tl b.1)=true){h t:Nat}{x y:Pr}(hx:L[h]? =some x)(hl:lexB (tl x.1) (tl k)=true)(hy:L[t]? =some y)(ht:t≤h):lexB (tl y.1) (tl k)=true:=by
 rcases Nat.lt_or_eq_of_le ht with ht|rfl
 ·obtain ⟨h1,rfl⟩:=List.getElem?_eq_some_iff.1 hx;obtain ⟨h2,rfl⟩:=List.getElem?_eq_some_iff.1 hy;exact zav (List.pairwise_iff_getElem.1 hr t h h2 h1 ht) hl
 ·rw [hx] at hy;cases hy;exact hl
theorem zk6 {L:List Pr}{k:ByteArray}(hr:L.Pairwise fun a b=>lexB (tl a.1) (tl b.1)=true){h t:Nat}{x y:Pr}(hx:L[h]? =some x)(hl:lexB (tl x.1) (tl k)=false)(hy:L[t]? =some y)(ht:h≤t):lexB (tl y.1) (tl k)=false:=by
 cases e:lexB (tl y.1) (tl k) with
 | false=>rfl
 | true=>rw [zf2 hr hy e hx ht] at hl;exact hl
theorem zk7 (p:Option Addr)(n c:Nat)(L:List Pr)(key:ByteArray)(hL:L.length≤1000000)(hr:L.Pairwise fun a b=>lexB (tl a.1) (tl b.1)=true):
 FnP Tryz.prog 54 #[.slice p n c,.string key,.func (.func 55) #[] #[]] (fun w=>yH w p n L) (.tuple #[iN (zN key L),.bool (yw key L)]):=by
 refine FnP.intro (c:=zl Tryz.f54) [.tmp 6,.tmp 7] 49 Tryz.func54 kr kr kr fun w hP=>?_;have H0:=St.start w;have hn:=hP.1;refine rS [.v,.v] H0 kr fun gs1 w1 H1=>rS [.v,.v,.v] H1 kr fun gs2 w2 H2=>rS [.v,.v,.v] H2 kr fun gs3 w3 H3=>zc kr<|zj 0 kr ?_;have H4:St w.heap.size w w3 []:=H3.as kr;refine zz kr (fun mz ρ ww=> ∃(i j:Nat),j-i=mz∧i≤j∧j≤n∧(∀t x,t<i→L[t]? =some x→lexB (tl x.1) (tl key)=true)∧(∀x,L[j]? =some x→lexB (tl x.1) (tl key)=false)∧St w.heap.size w ww []∧Is [(0,.slice p n c),(1,.string key),(2,.func (.func 55) #[] #[]),(8,iN n),(9,iN i),(10,iN j)] ρ) (n-0) ⟨0,n,rfl,Nat.zero_le _,Nat.le_refl _,fun t x h=>absurd h (Nat.not_lt_zero _),fun x h=>(by rw [List.getElem?_eq_none (by omega)] at h;cases h),H4,(Is.of ⟨kr,kr,kr,kr,kr,kr,trivial⟩)⟩ ?_;clear H0 H1 H2 H3 H4;rintro _ _ w4 ⟨i,j,rfl,hij,hjn,hlo,hhi,H4,_,rfl⟩;refine zc kr<|zc kr ?_;by_cases hi:i<j
 ·refine rL [.v,.v,.E (.bool (decide ((i:Int)<(j:Int)))) (.bool true) (za (decide_eq_true (by omega)))] H4 kr fun gs4 w5 H5=>wW<|zg kr kr<|zh kr<|wW<|zj 1 kr<|rS [.v,.v,.E (.int .i64 (IntKind.i64.wrap ((i:Int)+(j:Int)))) (iN (i+j)) (ze (zm (a:=i) (b:=j) (by omega))),.E (.int .u64 (IntKind.u64.wrap ((i+j:Nat):Int))) (.int .u64 ((i+j:Nat):Int)) (ze (by rw [IntKind.wrap_u64];omega)),.E (.int .u64 (Int.fdiv ((i+j:Nat):Int) (2^1))) (.int .u64 (((i+j) / 2:Nat):Int)) (ze (xN (k:=1) (i+j) 2 rfl)),.E (.int .i64 (IntKind.i64.wrap (((i+j) / 2:Nat):Int))) (iN ((i+j) / 2)) (ze (xP (by omega))),.v] H5 kr fun gs5 w6 H6=>?_;have hL2:(i+j) / 2<L.length:=by omega
  obtain ⟨⟨k,v⟩,hx⟩:∃x,L[(i+j) / 2]? =some x:=⟨_,List.getElem?_eq_getElem hL2⟩
  obtain ⟨bl,off,C,T,fz,hp,hh,hR⟩:=hP.row (by omega);refine zc kr ?_;cases hlt:lexB (tl k) (tl key) with
  | true=>
   refine rL [.v,.v,.v,.o (ins:=[((.tmp 25),.slice p n c),((.tmp 26),iN ((i+j) / 2))]) (v:=.pointer (some ⟨bl,off+(i+j) / 2*2,none⟩)) (fun ρ o w ho hi2=>yb (kd:=.i64) (t:=50) (e:=64) (K:=2) (bytes:=32) kr (x:=(.tmp 25)) (y:=(.tmp 26)) bl off n c ((i+j) / 2) hp ho hi2.1 hi2.2.1 (by omega) w),.fp (off:=off+(i+j) / 2*2) (n:=2) (W:=#[.string k,.string v]) hh (zC hh) (hR _ _ hx).1 (hR _ _ hx).2,.v,.c (zch k v key),.E (.bool (decide (qa (tl k) (tl key)<0))) (.bool true) (za (by rw [zf0,hlt]))] H6 kr fun gs6 w7 H7=>wW<|zg kr kr<|rL [.v,.E (.int .i64 (IntKind.i64.wrap (((i+j) / 2:Nat)+1))) (iN ((i+j) / 2+1)) (ze (zm (a:=(i+j) / 2) (b:=1) (by omega))),.v] H7 kr fun gs7 w8 H8=>?_;show ∃m,_∧_;refine ⟨_,(by omega),(i+j) / 2+1,j,rfl,by omega,hjn,fun t x ht he=>zf2 hr hx hlt he (by omega),hhi,H8.as kr,(Is.of ⟨kr,kr,kr,kr,kr,kr,trivial⟩)⟩
  | false=>
   refine rL [.v,.v,.v,.o (ins:=[((.tmp 25),.slice p n c),((.tmp 26),iN ((i+j) / 2))]) (v:=.pointer (some ⟨bl,off+(i+j) / 2*2,none⟩)) (fun ρ o w ho hi2=>yb (kd:=.i64) (t:=50) (e:=64) (K:=2) (bytes:=32) kr (x:=(.tmp 25)) (y:=(.tmp 26)) bl off n c ((i+j) / 2) hp ho hi2.1 hi2.2.1 (by omega) w),.fp (off:=off+(i+j) / 2*2) (n:=2) (W:=#[.string k,.string v]) hh (zC hh) (hR _ _ hx).1 (hR _ _ hx).2,.v,.c (zch k v key),.E (.bool (decide (qa (tl k) (tl key)<0))) (.bool false) (za (by rw [zf0,hlt]))] H6 kr fun gs6 w7 H7=>wW<|zf kr kr<|rL [.v,.v] H7 kr fun gs7 w8 H8=>?_;show ∃m,_∧_;refine ⟨_,(by omega),i,(i+j) / 2,rfl,by omega,by omega,hlo,fun x he=>zk6 hr hx hlt he (Nat.le_refl _),H8.as kr,(Is.of ⟨kr,kr,kr,kr,kr,kr,trivial⟩)⟩
 ·refine rL [.v,.v,.E (.bool (decide ((i:Int)<(j:Int)))) (.bool false) (za (decide_eq_false (by omega)))] H4 kr fun gs4 w5 H5=>wW<|zf kr kr<|zw 0 kr<|wW ?_;obtain rfl:i=j:=by omega
  have hpos:=zf1 key L i (by omega) hlo hhi;by_cases hin:i<n
  ·obtain ⟨⟨k,v⟩,hx⟩:∃x,L[i]? =some x:=⟨_,List.getElem?_eq_getElem (by omega)⟩
   obtain ⟨bl,off,C,T,fz,hp,hh,hR⟩:=hP.row (by omega);have hh2:yw key L=decide (tl k=tl key):=by unfold yw;rw [hpos,hx]
   refine rS [.v,.v,.v,.E (.bool (decide ((i:Int)<(n:Int)))) (.bool true) (za (decide_eq_true (by omega))),.v,.v,.v,.v,.o (ins:=[((.tmp 41),.slice p n c),((.tmp 42),iN i)]) (v:=.pointer (some ⟨bl,off+i*2,none⟩)) (fun ρ o w ho hi2=>yb (kd:=.i64) (t:=50) (e:=64) (K:=2) (bytes:=32) kr (x:=(.tmp 41)) (y:=(.tmp 42)) bl off n c i hp ho hi2.1 hi2.2.1 (by omega) w),.fp (off:=off+i*2) (n:=2) (W:=#[.string k,.string v]) hh (zC hh) (hR _ _ hx).1 (hR _ _ hx).2,.v,.c (zch k v key),.E (.bool (qa (tl k) (tl key)==0)) (.bool (yw key L)) (za (by rw [zk3,hh2])),.v,.v,.v] H5 kr fun gs6 w6 H6=>?_;exact rRe [.tmp 6,.tmp 7] [] (v:=.tuple #[iN i,.bool (yw key L)]) (v':=.tuple #[iN (zN key L),.bool (yw key L)]) H6 (by rw [hpos]) kr
  ·have hh2:yw key L=false:=by unfold yw;rw [hpos,List.getElem?_eq_none (by omega)]
   refine rS [.v,.v,.v,.E (.bool (decide ((i:Int)<(n:Int)))) (.bool false) (za (decide_eq_false (by omega))),.v,.n,.n,.n,.n,.n,.n,.n,.n,.v,.v,.v] H5 kr fun gs6 w6 H6=>?_;exact rRe [.tmp 6,.tmp 7] [] (v:=.tuple #[iN i,.bool false]) (v':=.tuple #[iN (zN key L),.bool (yw key L)]) H6 (by rw [hpos,hh2]) kr
theorem zci (p:Option Addr)(n c:Nat)(L:List Pr)(key:ByteArray)(hL:L.length≤1000000)(hr:L.Pairwise fun a b=>lexB (tl a.1) (tl b.1)=true):
 FnP Tryz.prog 32 #[.slice p n c,.string key] (fun w=>yH w p n L) (.tuple #[iN (zN key L),.bool (yw key L)]):=by
 refine FnP.intro (c:=zl Tryz.f32) [.tmp 4,.tmp 5] 11 Tryz.func32 kr kr kr fun w hP=>rS [.v,.v] (St.start w) kr fun gs1 w1 H1=>rS [.v,.v,.cp (pre:=fun w=>yH w p n L) (zk7 p n c L key hL hr) [] (fun w hb hd=>hP.call hb),.v,.v,.v,.v] H1 kr fun gs2 w2 H2=>?_;exact rRe [.tmp 4,.tmp 5] [] (v:=.tuple #[iN (zN key L),.bool (yw key L)]) (v':=.tuple #[iN (zN key L),.bool (yw key L)]) H2 rfl kr
theorem zk8 {C:Array Value}{off:Nat}{v:Value}(hv:v.cells=#[v])(h:C[off]? =some v):(C.toList.take off++v.cells.toList++C.toList.drop (off+v.cells.size)).toArray=C:=by
 obtain ⟨h1,h2⟩:=Array.getElem?_eq_some_iff.1 h;rw [hv];apply Array.toList_inj.1;simp only [List.append_assoc];have h3:C.toList.drop off=v::C.toList.drop (off+1):=by
  rw [List.drop_eq_getElem_cons (by simpa using h1)];simp [h2]
 show C.toList.take off++([v]++C.toList.drop (off+1))=C.toList;rw [List.singleton_append,←h3,List.take_append_drop]
def zcj (r:Option (List Pr))(v:Value)(T:List (Nat×Obj)):Prop:=match r with
 | none=>v=.tuple #[.slice none 0 0,.int .i64 1]
 | some L=> ∃(p:Option Addr) (n c:Nat),v=.tuple #[.slice p n c,.int .i64 0]∧zR pS 64 p n c T L
abbrev boT (p:Option Addr)(n c:Nat)(root:Int):Obj:=.cells #[.slice p n c,.int .i64 root] 38 (0,0)
theorem zck {A:List Nd}{root:Int}{L:List Pr}(h:qi A root=some L): ∀x∈L,mayM x.1 x.2=true:=by
 unfold qi at h;split at h
 ·cases h;exact zfJ A root
 ·cases h
theorem zf3 {A:List Nd}{root:Int}{L:List Pr}(h:qi A root=some L):L.length≤64:=by
 unfold qi at h;split at h
 ·rename_i hc;cases h;exact hc.1
 ·cases h
theorem zf4 {A:List Nd}{root:Int}{L:List Pr}(h:qi A root=some L):L.Pairwise fun a b=>lexB (tl a.1) (tl b.1)=true:=by
 unfold qi at h;split at h
 ·rename_i hc;cases h;exact (zaD _).1 hc.2.1
 ·cases h
theorem zcl (p:Option Addr)(n c:Nat)(root:Int)(A:List Nd)(hA: ∀x∈A,x.part.size≤0x800000000000)(hAl:A.length≤0xe8d4a51000):
 FnT Tryz.prog 30 #[.agg #[.slice p n c,.int .i64 root]] (fun w=>yO w p n A) (zcj (qi A root)):=by
 refine FnT.intro (c:=zl Tryz.f30) [.tmp 2,.tmp 3] 31 Tryz.func30 kr kr kr fun w hN=>?_;have H0:=St.start w;refine rS [.b,.v,.v] H0 kr fun gs1 w1 H1=>zi [0,1,2,3,4,5,6] kr kr<|rp [.l 0] H1 kr fun gs2 w2 H2=>wX [1,2,3,4,5,6] ?_;have H2:St w.heap.size w w2 [((gs1 0).b,boT p n c root)]:=H2.as kr;refine yZ H2 (some 10) 52 #[.agg #[.slice p n c,.int .i64 root]] (zfK p n c root A hA hAl) (hN.call H2.below) kr kr ?_;intro v T w3 hok H3;cases hr:qi A root with
 | none=>
  rw [hr] at hok;have hok:v=.tuple #[.slice none 0 0,.bool false]:=hok;subst hok;refine rp [.v,.v,.v,.v,.v] (H3.sub (List.nil_sublist _)) kr fun gs3 w4 H4=>wX []<|zd<|zc kr<|rS [.v,.v] H4 kr fun gs4 w5 H5=>zg kr kr<|rS [.v,.v] H5 kr fun gs5 w6 H6=>rRr [.tmp 2,.tmp 3] [] (.tuple #[.slice none 0 0,.int .i64 1]) (yf w.heap.size w (zcj none)) H6 kr ?_;exact ⟨[],rfl,H6.as kr⟩
 | some L=>
  rw [hr] at hok;obtain ⟨q,m,k,rfl,hrow⟩:=hok;have hlen:=hrow.len;have hl64:=zf3 hr;have hmay:=zck hr;refine rp [.v,.v,.v,.v,.v] (H3.sub (List.sublist_append_left ..)) kr fun gs3 w4 H4=>wX []<|zd<|zc kr<|rS [.v,.v] H4 kr fun gs4 w5 H5=>zf kr kr<|zh kr<|wW<|zc kr<|rS [.v,.v,.v] H5 kr fun gs5 w6 H6=>zj 0 kr ?_;have H7:St w.heap.size w w6 T:=H6.as kr;refine zz kr (fun mz ρ ww=> ∃(i:Nat),m-i=mz∧i≤m∧St w.heap.size w ww T∧Is [(4,.slice q m k),(15,.slice q m k),(16,iN m),(17,iN i)] ρ) (m-0) ⟨0,rfl,Nat.zero_le _,H7,(Is.of ⟨kr,kr,kr,kr,trivial⟩)⟩ ?_;clear H0 H1 H2 H3 H4 H5 H6 H7;rintro _ _ w4 ⟨i,rfl,him,H5,_,rfl⟩;by_cases hi:i<m
  ·obtain ⟨⟨kk,vv⟩,hx⟩:∃x,L[i]? =some x:=⟨_,List.getElem?_eq_getElem (by omega)⟩
   have hv:vv.size≤500:=(qY (hmay _ (List.mem_of_getElem? hx))).2.2;rcases hrow with ⟨_,h0,_⟩ | ⟨bw,cur,rfl,rfl,hrw⟩
   ·omega
   have hR:=hrw.rowAt;refine rS [.E (.bool (decide ((i:Int)<(m:Int)))) (.bool true) (za (decide_eq_true (by omega)))] H5 kr fun gs4 w5 H6=>zc kr<|zg kr kr<|zh kr<|wW<|zc kr<|zj 1 kr<|rS [.v,.o (ins:=[((.tmp 15),.slice (some ⟨bw,0,none⟩) m k),((.tmp 17),iN i)]) (v:=.pointer (some ⟨bw,0+i*2,none⟩)) (fun ρ o w ho hi2=>yb (kd:=.i64) (t:=50) (e:=64) (K:=2) (bytes:=32) kr (x:=(.tmp 15)) (y:=(.tmp 17)) bw 0 m k i rfl ho hi2.1 hi2.2.1 hi w),.lp 0 (C:=cur) (W:=#[.string kk,.string vv]) (off:=0+i*2) (n:=2) (hR _ _ hx).1 (hR _ _ hx).2,.a,.v,.s 1] H6 kr fun gs5 w6 H7=>?_
   refine rL [.v,.v,.v,.l 1,.c (vp vv (by omega)),.o (ins:=[((.tmp 22),.slice (some ⟨bw,0,none⟩) m k),((.tmp 23),iN i)]) (v:=.pointer (some ⟨bw,0+i*2,none⟩)) (fun ρ o w ho hi2=>yb (kd:=.i64) (t:=50) (e:=64) (K:=2) (bytes:=32) kr (x:=(.tmp 22)) (y:=(.tmp 23)) bw 0 m k i rfl ho hi2.1 hi2.2.1 hi w),.v,.se 0 (C:=cur) (C':=cur) (off:=0+i*2+1) (v:=.string vv) (by
    have:=(hR _ _ hx).1;show _+1≤_
    simp only [pS] at this;omega) (zk8 rfl (hR.cell hx 1 (by decide)))] H7 kr fun gs6 w7 H8=>?_
   refine wW<|rL [.E (.int .i64 (IntKind.i64.wrap ((i:Int)+1))) (.int .i64 ((i+1:Nat):Int)) (ze (zm (a:=i) (b:=1) (by omega))),.v] H8 kr fun gs7 w10 H9=>?_;show ∃m,_∧_;have H10:St w.heap.size w w10 [(bw,.cells cur 64 (0,0)),((gs5 3).b,.cells #[.string kk,.string vv] 64 (0,0))]:=H9.as kr;exact ⟨_,(by omega),i+1,rfl,hi,H10.sub (List.sublist_append_left [_] [_]),(Is.of ⟨kr,kr,kr,kr,trivial⟩)⟩
  ·refine rS [.E (.bool (decide ((i:Int)<(m:Int)))) (.bool false) (za (decide_eq_false (by omega)))] H5 kr fun gs4 w5 H6=>zc kr<|zf kr kr<|zw 0 kr<|wW<|rS [.v,.v,.v] H6 kr fun gs5 w6 H7=>rRr [.tmp 2,.tmp 3] [] (.tuple #[.slice q m k,.int .i64 0]) (yf w.heap.size w (zcj (some L))) H7 kr ?_;exact ⟨T,⟨q,m,k,rfl,hrow⟩,H7.as kr⟩
theorem zk9 (p:Option Addr)(n c:Nat)(root:Int)(A:List Nd)(hA: ∀x∈A,x.part.size≤0x800000000000)(hAl:A.length≤0xe8d4a51000):
 FnP Tryz.prog 35 #[.agg #[.slice p n c,.int .i64 root]] (fun w=>yO w p n A) (.bool (qi A root).isSome):=by
 refine FnP.intro (c:=zl Tryz.f35) [.tmp 2] 11 Tryz.func35 kr kr kr fun w hN=>rS [.b,.v] (St.start w) kr fun gs1 w1 H1=>zi [0,1,2,3,4,5,6] kr kr<|rp [.l 0] H1 kr fun gs2 w2 H2=>wX [1,2,3,4,5,6]<|yZ H2 (some 7) 52 #[.agg #[.slice p n c,.int .i64 root]] (zfK p n c root A hA hAl) (hN.call H2.below) kr kr ?_;intro v T w3 hok H3;have H3:=H3.sub (List.nil_sublist _);cases hr:qi A root with
 | none=>
  rw [hr] at hok;have hok:v=.tuple #[.slice none 0 0,.bool false]:=hok;subst hok;refine rp [.v,.v,.v,.v,.v] H3 kr fun gs3 w4 H4=>wX []<|zd<|rS [.v,.v] H4 kr fun gs4 w5 H5=>?_;exact rRe [.tmp 2] [] (v:=.bool false) (v':=.bool false) H5 rfl kr
 | some L=>
  rw [hr] at hok;obtain ⟨q,m,k,rfl,hrow⟩:=hok;refine rp [.v,.v,.v,.v,.v] H3 kr fun gs3 w4 H4=>wX []<|zd<|rS [.v,.v] H4 kr fun gs4 w5 H5=>?_;exact rRe [.tmp 2] [] (v:=.bool true) (v':=.bool true) H5 rfl kr
theorem zla:FnT Tryz.prog 14 #[] (fun _=>True) (zaz []):=by
 refine FnT.intro (c:=zl Tryz.f14) [.cell 0 38] 2 Tryz.func14 kr kr kr fun w _=>rS [.a] (St.start w) kr fun gs1 w1 H1=>zi [0,1] kr kr ?_;have H2:St w.heap.size w w1 [((gs1 0).b,boT none 0 0 0)]:=H1.as kr;refine yZ H2 (some 1) 27 #[.slice none 0 0] (uw none 0 0 [] (by decide) (fun _ h=>by simp at h) List.Pairwise.nil) ⟨rfl,.inl rfl⟩ kr kr ?_;rintro v T w3 ⟨q,m,k,hrow,rfl⟩ H3;have H4:=H3.perm (List.perm_append_comm (l₁:=[((gs1 0).b,boT none 0 0 0)]) (l₂:=T));refine rp [.s 0] H4 kr fun gs3 w4 H5=>wX []<|zd ?_;have H6:St w.heap.size w w4 (((gs1 0).b,boT q m k (zk 65 (zF []) []).2)::T):=H5.as kr;refine rRr [.cell 0 38] [0] (.agg #[.slice q m k,.int .i64 (zk 65 (zF []) []).2]) (yf w.heap.size w (zaz [])) H6 kr ?_;exact ⟨T,⟨q,m,k,hrow,rfl⟩,H6.sub (List.sublist_cons_self ..)⟩
abbrev pwO (x:Pr):Obj:=.cells #[.string x.1,.string x.2] 64 (0,0)
def vz (B:Nat)(w0:World)(Lr:List (Nat×Obj))(L:List Pr)(v:Value)(w:World):Prop:=∃(q:Option Addr) (m k:Nat) (row:List (Nat×Obj)),v=.slice q m k∧zR pS 64 q m k row L∧St B w0 w (row++Lr)
theorem zlb (p:Option Addr)(n c:Nat)(L:List Pr)(x:Pr)(bv:Nat)(row Lr:List (Nat×Obj)){B:Nat}{w0 w:World}(hrow:zR pS 64 p n c row L)(h:St B w0 w (row++((bv,pwO x)::Lr)))(hL:L.length≤1000000):
 Calls Tryz.prog 33 #[.slice p n c,iN n,.slice (some ⟨bv,0,none⟩) 1 1] w fun e w'=> ∃v,e=.returned v∧vz B w0 Lr (L++ [x]) v w':=by
 refine ql (c:=zl Tryz.f33) (rs:=[.tmp 6]) (N:=95) Tryz.func33 kr kr kr ?_;have hlen:=hrow.len;rcases hrow with ⟨rfl,rfl,rfl,rfl,rfl⟩ | ⟨bw,cur,rfl,rfl,hrw⟩
 ·refine rS [.v] h kr fun gs1 w1 H1=>rS [.v,.v,.v] H1 kr fun gs2 w2 H2=>rS [.v,.v,.v] H2 kr fun gs3 w3 H3=>zc kr<|rS [.v,.v] H3 kr fun gs4 w4 H4=>zf kr kr<|zh kr<|wW<|rS [.v,.v,.v] H4 kr fun gs5 w5 H5=>zc kr<|rS [.v,.v,.v] H5 kr fun gs6 w6 H6=>zg kr kr<|zi [0,1,2,3] kr kr<|rp [.v,.v] H6 kr fun gs7 w7 H7=>wX [2,3] ?_;have H8:St B w0 w7 ((bv,pwO x)::Lr):=H7.as kr;refine zd5 (K':=2) H8 (some 25) 50 64 32 (.tmp 23) (.tmp 24) 0 bv 1 #[.string x.1,.string x.2] kr kr kr kr kr kr rfl (qX rfl) (by omega) ?_;intro b' cap' cur' w8 H9 hrw;refine rp [.v] H9 kr fun gs8 w9 H10=>wX []<|zd ?_;have H11:St B w0 w9 ((b',.cells cur' 64 (0,0))::(bv,pwO x)::Lr):=H10.as kr;refine rRr [.tmp 6] [] (.slice (some ⟨b',0,none⟩) 1 cap') (vz B w0 Lr ([]++ [x])) H10 kr ?_;refine ⟨some ⟨b',0,none⟩,1,cap',_,rfl,.inr ⟨b',cur',rfl,rfl,hrw⟩,H11.sub ?_⟩;exact List.Sublist.cons_cons _ (List.sublist_cons_self ..)
 ·have hin:(n:Int)≠ -1:=by omega
  refine rS [.v] h kr fun gs1 w1 H1=>rS [.v,.v,.o (ins:=[((.tmp 10),.slice (some ⟨bw,0,none⟩) n c),((.tmp 11),iN n)]) (v:=.slice (some ⟨bw,if c=n then 0 else 0+n*2,none⟩) (n-n) (c-n)) (fun ρ o w ho hi2=>jP (kz:=.i64) (t:=50) (e:=64) (size:=2) (bytes:=32) kr (x:=(.tmp 10)) (z:=(.tmp 11)) bw 0 n c n ho hi2.1 hi2.2.1 (Nat.le_refl _) hrw.le w)] H1 kr fun gs2 w2 H2=>rS [.v,.v,.v] H2 kr fun gs3 w3 H3=>zc kr<|rS [.v,.v] H3 kr fun gs4 w4 H4=>zf kr kr<|zh kr<|wW<|rS [.v,.v,.v] H4 kr fun gs5 w5 H5=>zc kr<|rS [.v,.v,.E (.bool ((n:Int)==(n:Int))) (.bool true) (za (beq_self_eq_true _))] H5 kr fun gs6 w6 H6=>zg kr kr<|zi [0,1,2,3] kr kr<|rp [.v,.v] H6 kr fun gs7 w7 H7=>wX [2,3] ?_;have H8:St B w0 w7 ((bw,.cells cur 64 (0,0))::(bv,pwO x)::Lr):=H7.as kr;refine xv (K':=2) H8 (some 25) 50 64 32 (.tmp 23) (.tmp 24) 0 1 bw bv n c 1 cur #[.string x.1,.string x.2] (cellsF pS L) kr kr kr kr kr hrw kr kr rfl (qX rfl) (by omega) (by unfold maxLen;omega) ?_;intro b' cap' cur' w8 H9 hrw';refine rp [.v] H9 kr fun gs8 w9 H10=>wX []<|zd ?_;have H11:St B w0 w9 ((b',.cells cur' 64 (0,0))::(bv,pwO x)::Lr):=H10.as kr;refine rRr [.tmp 6] [] (.slice (some ⟨b',0,none⟩) (n+1) cap') (vz B w0 Lr (L++ [x])) H10 kr ?_;refine ⟨some ⟨b',0,none⟩,n+1,cap',_,rfl,.inr ⟨b',cur',rfl,rfl,?_⟩,H11.sub ?_⟩
  ·rw [qF];exact hrw'
  ·exact List.Sublist.cons_cons _ (List.sublist_cons_self ..)
def kK (L:List Pr)(v:Value)(T:List (Nat×Obj)):Prop:=∃(p:Option Addr) (n c:Nat),zR nS 118 p n c T (zk 65 (zF L) []).1∧v=.tuple #[.agg #[.slice p n c,.int .i64 (zk 65 (zF L) []).2],.int .i64 0]
theorem zf5 {k:ByteArray} : ∀ {L:List Pr},zN k L=L.length→ ∀x∈L,lexB (tl x.1) (tl k)=true
 | [],_,x,hx=>by simp at hx
 | y::L,h,x,hx=>by
  unfold zN at h;rw [List.takeWhile_cons] at h;by_cases hy:lexB (tl y.1) (tl k)=true
  ·rw [if_pos hy,List.length_cons,List.length_cons] at h;rcases List.mem_cons.1 hx with rfl | hx
   ·exact hy
   ·exact zf5 (by unfold zN;omega) x hx
  ·rw [if_neg hy] at h;simp at h
theorem zlc {L:List Pr}{k v:ByteArray}(h:L.Pairwise fun a b=>lexB (tl a.1) (tl b.1)=true)(hp:zN k L=L.length):(L++ [(k,v)]).Pairwise fun a b=>lexB (tl a.1) (tl b.1)=true:=by
 rw [List.pairwise_append];exact ⟨h,List.pairwise_singleton ..,fun a ha b hb=>by rw [List.mem_singleton.1 hb];exact zf5 hp a ha⟩
theorem zld {cur:Array Value}{cap n:Nat}{L:List Pr}{k u v:ByteArray}(h:Rw 2 cur cap n (cellsF pS (L++ [(k,u)])))(hn:L.length+1=n):0+L.length*2+1+1≤cur.size∧Rw 2 (Go.Proofs.YtbbdbdndedeokaaGreatDoor.putA cur (0+L.length*2+1) (.string v)) cap n (cellsF pS (L++ [(k,v)])):=by
 have:=h.putA (0+L.length*2+1) (.string v) (by show _+1≤_;omega);refine ⟨this.1,?_⟩;have e:(cellsF pS (L++ [(k,u)])).take (0+L.length*2+1)++(Value.string v).cells.toList++(cellsF pS (L++ [(k,u)])).drop (0+L.length*2+1+(Value.string v).cells.size)=cellsF pS (L++ [(k,v)]):=by
  have e1:cellsF pS (L++ [(k,u)])=(cellsF pS L++ [.string k])++ [.string u]:=by rw [qF];show _++ [_,_]=_;simp
  have e2:cellsF pS (L++ [(k,v)])=(cellsF pS L++ [.string k])++ [.string v]:=by rw [qF];show _++ [_,_]=_;simp
  rw [e1,e2];exact zbv (X:=cellsF pS L++ [.string k]) (Z:=[.string u]) (V:=[.string v]) (off:=0+L.length*2+1) (by rw [List.length_append,yI];show _*2+1=_;omega) rfl
 rw [←e];exact this.2
theorem zle (p:Option Addr)(n c:Nat)(root:Int)(A:List Nd)(hA: ∀x∈A,x.part.size≤0x800000000000)(hAl:A.length≤0xe8d4a51000)(key value:ByteArray){L:List Pr}(hr:qi A root=some L)(hm:mayM key value=true)(hp:zN key L=L.length)(h64:L.length<64):
 FnT Tryz.prog 16 #[.agg #[.slice p n c,.int .i64 root],.string key,.string value] (fun w=>yO w p n A) (kK (L++ [(key,value)])):=by
 refine FnT.intro (c:=zl Tryz.f16) [.cell 6 38,.tmp 7] 53 Tryz.func16 kr kr kr fun w hN=>?_;have hmay:=zck hr;have hrise:=zf4 hr;have hsz:=qY hm;have hH:yw key L=false:=by unfold yw;rw [hp,List.getElem?_eq_none (Nat.le_refl _)]
 refine rS [.b,.a,.v] (St.start w) kr fun gs1 w1 H1=>zi [0,1,2,3,4,5,6] kr kr<|rp [.l 0] H1 kr fun gs2 w2 H2=>wX [1,2,3,4,5,6] ?_;have H2:St w.heap.size w w2 [((gs1 0).b,boT p n c root),((gs1 1).b,boT none 0 0 0)]:=H2.as kr;refine yZ H2 (some 14) 30 #[.agg #[.slice p n c,.int .i64 root]] (zcl p n c root A hA hAl) (hN.call H2.below) kr kr ?_;intro v T w3 hok H3;rw [hr] at hok;obtain ⟨q,m,k,rfl,hrow⟩:=hok;have hlen:=hrow.len;have H4:St w.heap.size w w3 (T++ [((gs1 1).b,boT none 0 0 0)]):=H3.sub (List.Sublist.append_left (List.sublist_cons_self ..) T);refine rp [.v,.v,.v,.v,.v] H4 kr fun gs3 w4 H5=>wX []<|zd<|zc kr ?_;have hmf:=zaA key value;rw [hm] at hmf;refine rS [.v,.v,.v,.v,.v,.v,.c hmf,.v,.v] H5 kr fun gs4 w5 H6=>zf kr kr<|zh kr<|wW<|zi [0,1,2,3,4,5,6,7] kr kr<|rp [.v,.v] H6 kr fun gs5 w6 H7=>wX [2,3,4,5,6,7] ?_;have H8:St w.heap.size w w6 (T++ [((gs1 1).b,boT none 0 0 0)]):=H7.as kr;refine qd H8 (some 30) 32 #[.slice q m k,.string key] _ _ (zci q m k L key (by omega) hrise) (hrow.prAt H8 fun e he=>List.mem_append_left _ he) (fun w=>by kernel_rfl) kr ?_;intro w7 H9;rw [hH,hp,hlen];refine rp [.v,.v,.v,.v,.v] H9 kr fun gs6 w8 H10=>wX []<|zd<|zc kr<|rS [.v,.v] H10 kr fun gs7 w9 H11=>zg kr kr<|zc kr<|rS [.v,.v,.E (.bool ((m:Int)==64)) (.bool false) (za (beq_eq_false_iff_ne.2 (by omega)))] H11 kr fun gs8 w10 H12=>zf kr kr<|zh kr<|wW<|qm [0,1,2,3,4,5,6] kr<|rp [.v,.v,.v,.v,.nw (fun b=>.slice (some ⟨b,0,none⟩) 1 1) #[.string key,.string ⟨#[]⟩] 64] H12 kr fun gs9 w11 H13=>wX [5,6] ?_;have H14:St w.heap.size w w11 ((T++ [((gs1 1).b,boT none 0 0 0)])++ [((gs9 4).b,pwO (key,⟨#[]⟩))]):=H13.as kr;have H15:St w.heap.size w w11 (T++(((gs9 4).b,pwO (key,⟨#[]⟩))::[((gs1 1).b,boT none 0 0 0)])):=H14.perm (by rw [List.append_assoc];exact List.Perm.append_left T (List.Perm.swap ..));refine jw (some 44) 33 #[.slice q m k,iN m,.slice (some ⟨(gs9 4).b,0,none⟩) 1 1] (zlb q m k L (key,⟨#[]⟩) (gs9 4).b T [((gs1 1).b,boT none 0 0 0)] hrow H15 (by omega)) kr kr ?_;rintro v w12 ⟨q2,m2,k2,row2,rfl,hrow2,H16⟩;refine rp [.v] H16 kr fun gs10 w13 H17=>wX []<|zd<|wW ?_;have hlen2:=hrow2.len;rw [List.length_append,List.length_singleton] at hlen2;rcases hrow2 with ⟨_,_,_,_,h0⟩ | ⟨bw,cur,rfl,rfl,hrw⟩
 ·simp at h0
 have hput:=zld (v:=value) hrw hlen2;refine rS [.v,.v,.v,.c (vp value (by omega)),.o (ins:=[((.tmp 45),.slice (some ⟨bw,0,none⟩) m2 k2),((.tmp 46),iN m)]) (v:=.pointer (some ⟨bw,0+m*2,none⟩)) (fun ρ o w ho hi2=>yb (kd:=.i64) (t:=50) (e:=64) (K:=2) (bytes:=32) kr (x:=(.tmp 45)) (y:=(.tmp 46)) bw 0 m2 k2 m rfl ho hi2.1 hi2.2.1 (by omega) w),.v,.se 0 (C:=cur) (C':=putA cur (0+m*2+1) (.string value)) (off:=0+m*2+1) (v:=.string value) (by rw [←hlen];exact hput.1) rfl] H17 kr fun gs11 w14 H18=>?_;rw [hlen] at hput;have H19:St w.heap.size w w14 [(bw,.cells (putA cur (0+m*2+1) (.string value)) 64 (0,0)),((gs1 1).b,boT none 0 0 0)]:=H18.as kr;have hrow3:zR pS 64 (some ⟨bw,0,none⟩) m2 k2 [(bw,.cells (putA cur (0+m*2+1) (.string value)) 64 (0,0))] (L++ [(key,value)]):=.inr ⟨bw,_,rfl,rfl,hput.2⟩;refine zi [0,1,2,3] kr kr<|rp [.v] H18 kr fun gs12 w15 H20=>wX [1,2,3] ?_;have H21:St w.heap.size w w15 [(bw,.cells (putA cur (0+m*2+1) (.string value)) 64 (0,0)),((gs1 1).b,boT none 0 0 0)]:=H20.as kr;refine yZ H21 (some 52) 27 #[.slice (some ⟨bw,0,none⟩) m2 k2] (uw (some ⟨bw,0,none⟩) m2 k2 (L++ [(key,value)]) (by rw [List.length_append];show _+1≤_;omega) (fun x hx=>?_) (ux.2 (zlc hrise hp))) (hrow3.prAt H21 fun e he=>List.mem_of_mem_head? (by rw [List.mem_singleton.1 he];rfl)) kr kr ?_
 ·rcases List.mem_append.1 hx with hx|hx
  ·exact (qY (hmay x hx)).1.2
  ·rw [List.mem_singleton.1 hx];exact hsz.1.2
 rintro v T2 w16 ⟨p3,n3,c3,hrow4,rfl⟩ H22;have H23:St w.heap.size w w16 (((gs1 1).b,boT none 0 0 0)::T2):=(H22.sub (List.Sublist.append_left (List.sublist_cons_self ..) T2)).perm (List.perm_append_comm (l₁:=[((gs1 1).b,boT none 0 0 0)]) (l₂:=T2));refine rp [.s 0,.v] H23 kr fun gs13 w17 H24=>wX []<|zd ?_;have H25:St w.heap.size w w17 (((gs1 1).b,boT p3 n3 c3 (zk 65 (zF (L++ [(key,value)])) []).2)::T2):=H24.as kr;refine rRr [.cell 6 38,.tmp 7] [0] (.tuple #[.agg #[.slice p3 n3 c3,.int .i64 (zk 65 (zF (L++ [(key,value)])) []).2],.int .i64 0]) (yf w.heap.size w (kK (L++ [(key,value)]))) H25 kr ?_;exact ⟨T2,⟨p3,n3,c3,hrow4,rfl⟩,H25.sub (List.sublist_cons_self ..)⟩
def kL (L:List Pr)(v:Value)(T:List (Nat×Obj)):Prop:=∃(p:Option Addr) (n c:Nat),v=.slice p n c∧zR pS 64 p n c T L
def uB (x:Pr):Pr:=(zb (hv (tl x.1)),x.2)
theorem xf {α:Type}{L:List α}{i:Nat}{a:α}(ha:L[i]? =some a):L.take (i+1)=L.take i++ [a]:=by
 rw [List.take_add_one,ha];rfl
theorem zlf (p:Option Addr)(n c:Nat)(L:List Pr)(hL:L.length≤1000000)(hk: ∀x∈L,x.1.size≤1000000):
 FnT Tryz.prog 47 #[.slice p n c] (fun w=>yH w p n L) (kL (L.map uB)):=by
 refine FnT.intro (c:=zl Tryz.f47) [.tmp 2] 24 Tryz.func47 kr kr kr fun w hP=>?_;have H0:=St.start w;have hn:=hP.1;refine rS [.v] H0 kr fun gs1 w1 H1=>rS [.nw (fun b=>.slice (some ⟨b,0,none⟩) 0 0) #[] 64,.v] H1 kr fun gs2 w2 H2=>zc kr<|rS [.v,.v,.v] H2 kr fun gs3 w3 H3=>zj 0 kr ?_;have H4:St w.heap.size w w3 [((gs2 0).b,.cells #[] 64 (0,0))]:=H3.as kr;refine zz kr (fun mz ρ ww=> ∃(i b k:Nat) (cur:Array Value),n-i=mz∧i≤n∧Rw 2 cur k i (cellsF pS ((L.take i).map uB))∧St w.heap.size w ww [(b,.cells cur 64 (0,0))]∧Is [(3,.slice (some ⟨b,0,none⟩) i k),(7,.slice p n c),(8,iN n),(9,iN i)] ρ) (n-0) ⟨0,(gs2 0).b,0,#[],rfl,Nat.zero_le _,⟨rfl,Nat.le_refl _,Nat.zero_le _,rfl,rfl⟩,H4,(Is.of ⟨kr,kr,kr,kr,trivial⟩)⟩ ?_;clear H0 H1 H2 H3 H4;rintro _ _ w4 ⟨i,b,k,cur,rfl,hin,hrw,H5,_,rfl⟩;by_cases hi:i<n
 ·obtain ⟨⟨kk,vv⟩,hx⟩:∃x,L[i]? =some x:=⟨_,List.getElem?_eq_getElem (by omega)⟩
  have hks:kk.size≤1000000:=hk _ (List.mem_of_getElem? hx);obtain ⟨bl,off,C,T,fz,hp,hh,hR⟩:=hP.row (by omega);refine rS [.E (.bool (decide ((i:Int)<(n:Int)))) (.bool true) (za (decide_eq_true (by omega)))] H5 kr fun gs4 w5 H6=>zc kr<|zg kr kr<|zh kr<|wW<|zc kr<|zj 1 kr<|rS [.o (ins:=[((.tmp 7),.slice p n c),((.tmp 9),iN i)]) (v:=.pointer (some ⟨bl,off+i*2,none⟩)) (fun ρ o w ho hi2=>yb (kd:=.i64) (t:=50) (e:=64) (K:=2) (bytes:=32) kr (x:=(.tmp 7)) (y:=(.tmp 9)) bl off n c i hp ho hi2.1 hi2.2.1 hi w),.fp (off:=off+i*2) (n:=2) (W:=#[.string kk,.string vv]) hh (zC hh) (hR _ _ hx).1 (hR _ _ hx).2,.a,.s 1] H6 kr fun gs5 w6 H7=>?_;have H8:St w.heap.size w w6 ([(b,.cells cur 64 (0,0))]++ [((gs5 2).b,pwO (kk,vv))]):=H7.as kr;have hof:=zkq kk (by show kk.size≤_;omega);refine D2.g_draw0 [0,1,2,3,4,5,6,7,8,9] [(some 13,fun _=>.slice (some ⟨b,0,none⟩) i k),(some 14,fun _=>.pointer (some ⟨(gs5 2).b,0,none⟩)),(some 15,fun _=>.string kk),(some 16,fun _=>.string (zb (hv (tl kk)))),(some 17,fun _=>.pointer (some ⟨(gs5 2).b,1,none⟩)),(some 18,fun _=>.string vv),(some 19,fun _=>.agg #[.string (zb (hv (tl kk))),.string vv]),(some 20,fun y=>.slice (some ⟨y.b,0,none⟩) 1 1),(some 21,fun y=>.slice (some ⟨y.b,0,none⟩) (i+1) y.cap),(some 3,fun y=>.slice (some ⟨y.b,0,none⟩) (i+1) y.cap)]
   (D2.ApP 7 8 9 (D2.ap0 w.heap.size w [(b,.cells cur 64 (0,0))] [((gs5 2).b,pwO (kk,vv))]) (D2.ap1 w.heap.size w [(b,.cells cur 64 (0,0))] [((gs5 2).b,pwO (kk,vv))] #[.string (zb (hv (tl kk))),.string vv] 64) (D2.ap2 w.heap.size w [((gs5 2).b,pwO (kk,vv))] #[.string (zb (hv (tl kk))),.string vv] 64 2 i (cellsF pS ((L.take i).map uB)))) kr kr kr H8.drew ⟨?_,?_,?_,?_,?_,?_,?_,?_,?_,?_,trivial⟩ ?_
  ·exact D2.gv_val (fun _ _ _ h=>h) (fun g w=>by kernel_rfl)
  ·exact D2.gv_val (fun _ _ _ h=>h) (fun g w=>by kernel_rfl)
  ·exact D2.gv_ld (fun _ _ _ h=>h) 9 (.tmp 14) (fun _=>(gs5 2).b) 0 #[.string kk,.string vv] 64 (0,0) (fun g=>by kernel_rfl) (fun g=>by kernel_rfl) (fun L g w hN hp=>hp.get (fun h=>St.get h 1 kr) (fun _ h=>St.get h 2 kr) (fun _ h=>St.get h.2 1 kr)) kr kr
  ·exact D2.gv_cW (fun _ _ _ h=>h) 85 #[.string kk] hof (fun L g w w' hN hp hb=>hp.call (fun h=>St.call h hb) (fun _ h=>St.call h hb) (fun _ h=>⟨h.1,St.call h.2 hb⟩)) (fun g w=>by kernel_rfl)
  ·exact D2.gv_val (fun _ _ _ h=>h) (fun g w=>by kernel_rfl)
  ·exact D2.gv_ld (fun _ _ _ h=>h) 9 (.tmp 17) (fun _=>(gs5 2).b) 1 #[.string kk,.string vv] 64 (0,0) (fun g=>by kernel_rfl) (fun g=>by kernel_rfl) (fun L g w hN hp=>hp.get (fun h=>St.get h 1 kr) (fun _ h=>St.get h 2 kr) (fun _ h=>St.get h.2 1 kr)) kr kr
  ·exact D2.gv_val (fun _ _ _ h=>h) (fun g w=>by kernel_rfl)
  ·exact D2.gv_ap1 7 8 9 kr kr (fun L hN=>⟨hN.post 8 kr,hN.post 9 kr⟩) (fun g w=>by kernel_rfl)
  ·exact D2.gv_ap2 7 8 9 kr k 50 32 (.tmp 13) (.tmp 20) (some ⟨b,0,none⟩) (fun L hN=>⟨hN.bef 7 kr,hN.post 9 kr⟩) (fun g=>by kernel_rfl) kr (fun g=>by kernel_rfl) (fun g=>by kernel_rfl) (.inr ⟨b,cur,rfl,rfl,hrw⟩) rfl (qX rfl) (by omega) (by unfold maxLen;omega)
  ·exact D2.gv_ap3 7 8 9 (fun L hN=>hN.bef 8 kr) (fun g w=>by kernel_rfl)
  ·intro L1 gg w14 hall hp;unfold D2.ApP at hp;rw [hall 9 (Nat.le_of_ble_eq_true kr)] at hp;obtain ⟨hr',HS⟩:=hp;refine wW<|rL [.E (.int .i64 (IntKind.i64.wrap ((i:Int)+1))) (.int .i64 ((i+1:Nat):Int)) (ze (zm (a:=i) (b:=1) (by omega))),.v] HS kr fun gs7 w10 H9=>?_;show ∃m,_∧_;have H10:St w.heap.size w w10 [((gg 9).b,.cells (gg 9).cur 64 (0,0)),((gs5 2).b,pwO (kk,vv))]:=H9.as kr;refine ⟨_,(by omega),i+1,(gg 9).b,(gg 9).cap,(gg 9).cur,rfl,hi,?_,H10.sub (List.Sublist.cons_cons _ (List.sublist_cons_self ..)),(Is.of ⟨kr,kr,kr,kr,trivial⟩)⟩;rw [xf hx,List.map_append,List.map_singleton,qF];exact hr'
 ·refine rS [.E (.bool (decide ((i:Int)<(n:Int)))) (.bool false) (za (decide_eq_false (by omega)))] H5 kr fun gs4 w5 H6=>zc kr<|zf kr kr<|zw 0 kr<|wW<|rS [.v,.v] H6 kr fun gs5 w6 H7=>rRr [.tmp 2] [] (.slice (some ⟨b,0,none⟩) i k) (yf w.heap.size w (kL (L.map uB))) H7 kr ?_;rw [List.take_of_length_le (by omega)] at hrw;exact ⟨_,⟨some ⟨b,0,none⟩,i,k,rfl,.inr ⟨b,cur,rfl,rfl,hrw⟩⟩,H7.as kr⟩
def pE (e:Ent):Pr:=(zb e.1,e.2)
def qH (a:Nat):List UInt8→Bool
 | []=>a==16
 | b::_=>a==16||b.toNat==a
def jl (a m:Nat)(l:List Ent):List Ent:=(l.filter fun e=>qH a e.1).map fun e=>(e.1.drop m,e.2)
theorem zaF (a m:Nat)(l:List Ent)(e:Ent):jl a m (l++ [e])=if qH a e.1=true then jl a m l++ [(e.1.drop m,e.2)] else jl a m l:=by
 unfold jl;rw [List.filter_append,List.map_append,List.filter_cons,List.filter_nil];cases qH a e.1<;>simp
theorem zlg (m:Nat)(l:List Ent):jl 16 m l=zM m l:=by
 unfold jl zM;rw [List.filter_eq_self.2 fun e _=>by unfold qH;split<;>simp]
theorem zf6 (c:Nat)(hc:c<16): ∀l:List Ent,jl c 1 l=zo c l
 | []=>rfl
 | e::l=>by
  have ih:=zf6 c hc l;unfold jl zo at ih ⊢;rw [List.filter_cons,List.filterMap_cons];obtain ⟨k,v⟩:=e;cases k with
  | nil=>rw [if_neg (by simp [qH];omega)];exact ih
  | cons b t=>
   by_cases h:b.toNat=c
   ·rw [if_pos (by simp [qH,h])];simp only [h,if_true,List.map_cons,List.drop_succ_cons,List.drop_zero];rw [ih]
   ·rw [if_neg (by simp [qH,h];omega)];simp only [h,if_false];exact ih
theorem zf7 (x:List UInt8)(m:Nat)(h:m≤x.length):(zb x).extract m (zb x).size=zb (x.drop m):=by
 have:=zfi (x.take m) (x.drop m) m (by rw [List.length_take];omega)
 rwa [List.take_append_drop] at this
theorem zcm {l:List Ent}{i:Nat}{e:Ent}(h:l[i]? =some e):(l.map pE)[i]? =some (pE e):=by rw [List.getElem?_map,h];rfl
theorem zf8 (p:Option Addr)(n c a m:Nat)(l:List Ent)(hL:l.length≤1000000)(hk: ∀e∈l,e.1.length≤1000000)(hm: ∀e∈l,qH a e.1=true→m≤e.1.length)(ha:a≤1000):
 FnT Tryz.prog 83 #[.slice p n c,iN a,iN m] (fun w=>yH w p n (l.map pE)) (kL ((jl a m l).map pE)):=by
 refine FnT.intro (c:=zl Tryz.f83) [.tmp 6] 45 Tryz.func83 kr kr kr fun w hP=>?_;have H0:=St.start w;have hn:=hP.1;rw [List.length_map] at hn;refine rS [.v] H0 kr fun gs1 w1 H1=>rS [.nw (fun b=>.slice (some ⟨b,0,none⟩) 0 0) #[] 64,.v] H1 kr fun gs2 w2 H2=>zc kr<|rS [.v,.v,.v] H2 kr fun gs3 w3 H3=>zj 0 kr ?_;have H4:St w.heap.size w w3 [((gs2 0).b,.cells #[] 64 (0,0))]:=H3.as kr;refine zz kr (fun mz ρ ww=> ∃(i b k r:Nat) (cur:Array Value),n-i=mz∧i≤n∧r≤i∧Rw 2 cur k r (cellsF pS ((jl a m (l.take i)).map pE))∧St w.heap.size w ww [(b,.cells cur 64 (0,0))]∧Is [(1,iN a),(2,iN m),(7,.slice (some ⟨b,0,none⟩) r k),(11,.slice p n c),(12,iN n),(13,iN i)] ρ) (n-0) ⟨0,(gs2 0).b,0,0,#[],rfl,Nat.zero_le _,Nat.le_refl _,⟨rfl,Nat.le_refl _,Nat.zero_le _,rfl,rfl⟩,H4,(Is.of ⟨kr,kr,kr,kr,kr,kr,trivial⟩)⟩ ?_;clear H0 H1 H2 H3 H4;rintro _ _ w4 ⟨i,b,k,r,cur,rfl,hin,hri,hrw,H5,_,rfl⟩;by_cases hi:i<n
 ·obtain ⟨⟨kk,vv⟩,hx0⟩:∃x,l[i]? =some x:=⟨_,List.getElem?_eq_getElem (by omega)⟩
  have hx:=zcm hx0;have hks:kk.length≤1000000:=hk _ (List.mem_of_getElem? hx0);have hmm:qH a kk=true→m≤kk.length:=hm _ (List.mem_of_getElem? hx0);have htk:=xf hx0;obtain ⟨bl,off,C,T,fz,hp,hh,hR⟩:=hP.row (by omega);refine rS [.E (.bool (decide ((i:Int)<(n:Int)))) (.bool true) (za (decide_eq_true (by omega)))] H5 kr fun gs4 w5 H6=>zc kr<|zg kr kr<|zh kr<|wW<|zc kr<|zj 1 kr<|rS [.o (ins:=[((.tmp 11),.slice p n c),((.tmp 13),iN i)]) (v:=.pointer (some ⟨bl,off+i*2,none⟩)) (fun ρ o w ho hi2=>yb (kd:=.i64) (t:=50) (e:=64) (K:=2) (bytes:=32) kr (x:=(.tmp 11)) (y:=(.tmp 13)) bl off n c i hp ho hi2.1 hi2.2.1 hi w),.fp (off:=off+i*2) (n:=2) (W:=#[.string (zb kk),.string vv]) hh (zC hh) (hR _ _ hx).1 (hR _ _ hx).2,.a,.s 1] H6 kr fun gs5 w6 H7=>?_;have H8:St w.heap.size w w6 ([(b,.cells cur 64 (0,0))]++ [((gs5 2).b,pwO (zb kk,vv))]):=H7.as kr;by_cases h16:a=16
  ·have hkeep:qH a kk=true:=by unfold qH;split<;>simp [h16]
   refine rS [.v,.E (.bool ((a:Int)==16)) (.bool true) (za (beq_iff_eq.2 (by omega))),.v,.n,.n,.n,.n,.n,.n,.n,.n,.n,.n,.n,.n,.v] H7 kr fun gs6 w7 H9=>zg kr kr ?_;have H10:St w.heap.size w w7 ([(b,.cells cur 64 (0,0))]++ [((gs5 2).b,pwO (zb kk,vv))]):=H9.as kr;have hext:=zf7 kk m (hmm hkeep);refine D2.g_draw0 [0,1,2,3,4,5,6,7,8,9,10] [(some 33,fun _=>.slice (some ⟨b,0,none⟩) r k),(some 34,fun _=>.pointer (some ⟨(gs5 2).b,0,none⟩)),(some 35,fun _=>.string (zb kk)),(some 36,fun _=>iN m),(some 37,fun _=>.string (zb (kk.drop m))),(some 38,fun _=>.pointer (some ⟨(gs5 2).b,1,none⟩)),(some 39,fun _=>.string vv),(some 40,fun _=>.agg #[.string (zb (kk.drop m)),.string vv]),(some 41,fun y=>.slice (some ⟨y.b,0,none⟩) 1 1),(some 42,fun y=>.slice (some ⟨y.b,0,none⟩) (r+1) y.cap),(some 7,fun y=>.slice (some ⟨y.b,0,none⟩) (r+1) y.cap)]
    (D2.ApP 8 9 10 (D2.ap0 w.heap.size w [(b,.cells cur 64 (0,0))] [((gs5 2).b,pwO (zb kk,vv))]) (D2.ap1 w.heap.size w [(b,.cells cur 64 (0,0))] [((gs5 2).b,pwO (zb kk,vv))] #[.string (zb (kk.drop m)),.string vv] 64) (D2.ap2 w.heap.size w [((gs5 2).b,pwO (zb kk,vv))] #[.string (zb (kk.drop m)),.string vv] 64 2 r (cellsF pS ((jl a m (l.take i)).map pE)))) kr kr kr H10.drew ⟨?_,?_,?_,?_,?_,?_,?_,?_,?_,?_,?_,trivial⟩ ?_
   ·exact D2.gv_val (fun _ _ _ h=>h) (fun g w=>by kernel_rfl)
   ·exact D2.gv_val (fun _ _ _ h=>h) (fun g w=>by kernel_rfl)
   ·exact D2.gv_ld (fun _ _ _ h=>h) 9 (.tmp 34) (fun _=>(gs5 2).b) 0 #[.string (zb kk),.string vv] 64 (0,0) (fun g=>by kernel_rfl) (fun g=>by kernel_rfl) (fun L g w hN hp=>hp.get (fun h=>St.get h 1 kr) (fun _ h=>St.get h 2 kr) (fun _ h=>St.get h.2 1 kr)) kr kr
   ·exact D2.gv_val (fun _ _ _ h=>h) (fun g w=>by kernel_rfl)
   ·exact D2.gv_opE (V':=.string ((zb kk).extract m (zb kk).size)) (fun _ _ _ h=>h) (.slice 9 (.tmp 35) (some (.tmp 36)) none none) (fun g=>by kernel_rfl) (fun g o w ho=>kq (t:=9) (kz:=.i64) kr (x:=.tmp 35) (z:=.tmp 36) (zb kk) m ho kr kr (by rw [zO];exact hmm hkeep) w) (by rw [hext])
   ·exact D2.gv_val (fun _ _ _ h=>h) (fun g w=>by kernel_rfl)
   ·exact D2.gv_ld (fun _ _ _ h=>h) 9 (.tmp 38) (fun _=>(gs5 2).b) 1 #[.string (zb kk),.string vv] 64 (0,0) (fun g=>by kernel_rfl) (fun g=>by kernel_rfl) (fun L g w hN hp=>hp.get (fun h=>St.get h 1 kr) (fun _ h=>St.get h 2 kr) (fun _ h=>St.get h.2 1 kr)) kr kr
   ·exact D2.gv_val (fun _ _ _ h=>h) (fun g w=>by kernel_rfl)
   ·exact D2.gv_ap1 8 9 10 kr kr (fun L hN=>⟨hN.post 9 kr,hN.post 10 kr⟩) (fun g w=>by kernel_rfl)
   ·exact D2.gv_ap2 8 9 10 kr k 50 32 (.tmp 33) (.tmp 41) (some ⟨b,0,none⟩) (fun L hN=>⟨hN.bef 8 kr,hN.post 10 kr⟩) (fun g=>by kernel_rfl) kr (fun g=>by kernel_rfl) (fun g=>by kernel_rfl) (.inr ⟨b,cur,rfl,rfl,hrw⟩) rfl (qX rfl) (by omega) (by unfold maxLen;omega)
   ·exact D2.gv_ap3 8 9 10 (fun L hN=>hN.bef 9 kr) (fun g w=>by kernel_rfl)
   ·intro L1 gg w14 hall hp;unfold D2.ApP at hp;rw [hall 10 (Nat.le_of_ble_eq_true kr)] at hp;obtain ⟨hr',HS⟩:=hp;refine wW<|rL [.E (.int .i64 (IntKind.i64.wrap ((i:Int)+1))) (.int .i64 ((i+1:Nat):Int)) (ze (zm (a:=i) (b:=1) (by omega))),.v] HS kr fun gs7 w10 H9=>?_;show ∃m,_∧_;have H12:St w.heap.size w w10 [((gg 10).b,.cells (gg 10).cur 64 (0,0)),((gs5 2).b,pwO (zb kk,vv))]:=H9.as kr;refine ⟨_,(by omega),i+1,(gg 10).b,(gg 10).cap,r+1,(gg 10).cur,rfl,hi,by omega,?_,H12.sub (List.Sublist.cons_cons _ (List.sublist_cons_self ..)),(Is.of ⟨kr,kr,kr,kr,kr,kr,trivial⟩)⟩;rw [htk,zaF,if_pos hkeep,List.map_append,List.map_singleton,qF];exact hr'
  ·cases kk with
   | nil=>
    have hkeep:qH a []=false:=by simp [qH,h16]
    refine rS [.v,.E (.bool ((a:Int)==16)) (.bool false) (za (beq_eq_false_iff_ne.2 (by omega))),.v,.v,.l 1,.v,.v,.v,.n,.n,.n,.n,.n,.n,.v,.v] H7 kr fun gs6 w7 H9=>zf kr kr<|zh kr<|wW<|rL [.E (.int .i64 (IntKind.i64.wrap ((i:Int)+1))) (.int .i64 ((i+1:Nat):Int)) (ze (zm (a:=i) (b:=1) (by omega))),.v] H9 kr fun gs7 w10 H11=>?_;show ∃m,_∧_;have H12:St w.heap.size w w10 [(b,.cells cur 64 (0,0)),((gs5 2).b,pwO (zb [],vv))]:=H11.as kr;refine ⟨_,(by omega),i+1,b,k,r,cur,rfl,hi,by omega,?_,H12.sub (List.Sublist.cons_cons _ (List.sublist_cons_self ..)),(Is.of ⟨kr,kr,kr,kr,kr,kr,trivial⟩)⟩;rw [htk,zaF,if_neg (by rw [hkeep];decide)];exact hrw
   | cons c0 t0=>
    have hsz:(zb (c0::t0)).size=t0.length+1:=by rw [zO];rfl
    cases hkeep:qH a (c0::t0) with
    | true=>
     have hca:c0.toNat=a:=by simp [qH,h16] at hkeep;exact hkeep
     refine rS [.v,.E (.bool ((a:Int)==16)) (.bool false) (za (beq_eq_false_iff_ne.2 (by omega))),.v,.v,.l 1,.v,.E (.bool (decide ((0:Int)<(((zb (c0::t0)).size:Nat):Int)))) (.bool true) (za (decide_eq_true (by omega))),.v,.v,.l 1,.oe (ins:=[((.tmp 26),.string (zb (c0::t0)))]) (v:=.int .u8 ((by_ (zb (c0::t0)) 0:Nat):Int)) (v':=.int .u8 (c0.toNat:Int)) (fun ρ o w ho hi2=>zQ (t:=9) (kd:=.i64) kr (x:=(.tmp 26)) (y:=.const (.int .i64 0)) (zb (c0::t0)) 0 ho hi2.1 rfl (by omega) w) rfl,.E (.int .i64 (IntKind.i64.wrap (c0.toNat:Int))) (iN c0.toNat) (ze (xP (by have:=UInt8.toNat_lt c0;omega))),.v,.E (.bool ((c0.toNat:Int)==(a:Int))) (.bool true) (za (beq_iff_eq.2 (by omega))),.v,.v] H7 kr fun gs6 w7 H9=>zg kr kr ?_;have H10:St w.heap.size w w7 ([(b,.cells cur 64 (0,0))]++ [((gs5 2).b,pwO (zb (c0::t0),vv))]):=H9.as kr;have hext:=zf7 (c0::t0) m (hmm hkeep);refine D2.g_draw0 [0,1,2,3,4,5,6,7,8,9,10] [(some 33,fun _=>.slice (some ⟨b,0,none⟩) r k),(some 34,fun _=>.pointer (some ⟨(gs5 2).b,0,none⟩)),(some 35,fun _=>.string (zb (c0::t0))),(some 36,fun _=>iN m),(some 37,fun _=>.string (zb ((c0::t0).drop m))),(some 38,fun _=>.pointer (some ⟨(gs5 2).b,1,none⟩)),(some 39,fun _=>.string vv),(some 40,fun _=>.agg #[.string (zb ((c0::t0).drop m)),.string vv]),(some 41,fun y=>.slice (some ⟨y.b,0,none⟩) 1 1),(some 42,fun y=>.slice (some ⟨y.b,0,none⟩) (r+1) y.cap),(some 7,fun y=>.slice (some ⟨y.b,0,none⟩) (r+1) y.cap)]
      (D2.ApP 8 9 10 (D2.ap0 w.heap.size w [(b,.cells cur 64 (0,0))] [((gs5 2).b,pwO (zb (c0::t0),vv))]) (D2.ap1 w.heap.size w [(b,.cells cur 64 (0,0))] [((gs5 2).b,pwO (zb (c0::t0),vv))] #[.string (zb ((c0::t0).drop m)),.string vv] 64) (D2.ap2 w.heap.size w [((gs5 2).b,pwO (zb (c0::t0),vv))] #[.string (zb ((c0::t0).drop m)),.string vv] 64 2 r (cellsF pS ((jl a m (l.take i)).map pE)))) kr kr kr H10.drew ⟨?_,?_,?_,?_,?_,?_,?_,?_,?_,?_,?_,trivial⟩ ?_
     ·exact D2.gv_val (fun _ _ _ h=>h) (fun g w=>by kernel_rfl)
     ·exact D2.gv_val (fun _ _ _ h=>h) (fun g w=>by kernel_rfl)
     ·exact D2.gv_ld (fun _ _ _ h=>h) 9 (.tmp 34) (fun _=>(gs5 2).b) 0 #[.string (zb (c0::t0)),.string vv] 64 (0,0) (fun g=>by kernel_rfl) (fun g=>by kernel_rfl) (fun L g w hN hp=>hp.get (fun h=>St.get h 1 kr) (fun _ h=>St.get h 2 kr) (fun _ h=>St.get h.2 1 kr)) kr kr
     ·exact D2.gv_val (fun _ _ _ h=>h) (fun g w=>by kernel_rfl)
     ·exact D2.gv_opE (V':=.string ((zb (c0::t0)).extract m (zb (c0::t0)).size)) (fun _ _ _ h=>h) (.slice 9 (.tmp 35) (some (.tmp 36)) none none) (fun g=>by kernel_rfl) (fun g o w ho=>kq (t:=9) (kz:=.i64) kr (x:=.tmp 35) (z:=.tmp 36) (zb (c0::t0)) m ho kr kr (by rw [zO];exact hmm hkeep) w) (by rw [hext])
     ·exact D2.gv_val (fun _ _ _ h=>h) (fun g w=>by kernel_rfl)
     ·exact D2.gv_ld (fun _ _ _ h=>h) 9 (.tmp 38) (fun _=>(gs5 2).b) 1 #[.string (zb (c0::t0)),.string vv] 64 (0,0) (fun g=>by kernel_rfl) (fun g=>by kernel_rfl) (fun L g w hN hp=>hp.get (fun h=>St.get h 1 kr) (fun _ h=>St.get h 2 kr) (fun _ h=>St.get h.2 1 kr)) kr kr
     ·exact D2.gv_val (fun _ _ _ h=>h) (fun g w=>by kernel_rfl)
     ·exact D2.gv_ap1 8 9 10 kr kr (fun L hN=>⟨hN.post 9 kr,hN.post 10 kr⟩) (fun g w=>by kernel_rfl)
     ·exact D2.gv_ap2 8 9 10 kr k 50 32 (.tmp 33) (.tmp 41) (some ⟨b,0,none⟩) (fun L hN=>⟨hN.bef 8 kr,hN.post 10 kr⟩) (fun g=>by kernel_rfl) kr (fun g=>by kernel_rfl) (fun g=>by kernel_rfl) (.inr ⟨b,cur,rfl,rfl,hrw⟩) rfl (qX rfl) (by omega) (by unfold maxLen;omega)
     ·exact D2.gv_ap3 8 9 10 (fun L hN=>hN.bef 9 kr) (fun g w=>by kernel_rfl)
     ·intro L1 gg w14 hall hp;unfold D2.ApP at hp;rw [hall 10 (Nat.le_of_ble_eq_true kr)] at hp;obtain ⟨hr',HS⟩:=hp;refine wW<|rL [.E (.int .i64 (IntKind.i64.wrap ((i:Int)+1))) (.int .i64 ((i+1:Nat):Int)) (ze (zm (a:=i) (b:=1) (by omega))),.v] HS kr fun gs7 w10 H9=>?_;show ∃m,_∧_;have H12:St w.heap.size w w10 [((gg 10).b,.cells (gg 10).cur 64 (0,0)),((gs5 2).b,pwO (zb (c0::t0),vv))]:=H9.as kr;refine ⟨_,(by omega),i+1,(gg 10).b,(gg 10).cap,r+1,(gg 10).cur,rfl,hi,by omega,?_,H12.sub (List.Sublist.cons_cons _ (List.sublist_cons_self ..)),(Is.of ⟨kr,kr,kr,kr,kr,kr,trivial⟩)⟩;rw [htk,zaF,if_pos hkeep,List.map_append,List.map_singleton,qF];exact hr'
    | false=>
     have hca:c0.toNat≠a:=by simp [qH,h16] at hkeep;exact hkeep
     refine rS [.v,.E (.bool ((a:Int)==16)) (.bool false) (za (beq_eq_false_iff_ne.2 (by omega))),.v,.v,.l 1,.v,.E (.bool (decide ((0:Int)<(((zb (c0::t0)).size:Nat):Int)))) (.bool true) (za (decide_eq_true (by omega))),.v,.v,.l 1,.oe (ins:=[((.tmp 26),.string (zb (c0::t0)))]) (v:=.int .u8 ((by_ (zb (c0::t0)) 0:Nat):Int)) (v':=.int .u8 (c0.toNat:Int)) (fun ρ o w ho hi2=>zQ (t:=9) (kd:=.i64) kr (x:=(.tmp 26)) (y:=.const (.int .i64 0)) (zb (c0::t0)) 0 ho hi2.1 rfl (by omega) w) rfl,.E (.int .i64 (IntKind.i64.wrap (c0.toNat:Int))) (iN c0.toNat) (ze (xP (by have:=UInt8.toNat_lt c0;omega))),.v,.E (.bool ((c0.toNat:Int)==(a:Int))) (.bool false) (za (beq_eq_false_iff_ne.2 (by omega))),.v,.v] H7 kr fun gs6 w7 H9=>zf kr kr<|zh kr<|wW<|rL [.E (.int .i64 (IntKind.i64.wrap ((i:Int)+1))) (.int .i64 ((i+1:Nat):Int)) (ze (zm (a:=i) (b:=1) (by omega))),.v] H9 kr fun gs7 w10 H11=>?_;show ∃m,_∧_;have H12:St w.heap.size w w10 [(b,.cells cur 64 (0,0)),((gs5 2).b,pwO (zb (c0::t0),vv))]:=H11.as kr;refine ⟨_,(by omega),i+1,b,k,r,cur,rfl,hi,by omega,?_,H12.sub (List.Sublist.cons_cons _ (List.sublist_cons_self ..)),(Is.of ⟨kr,kr,kr,kr,kr,kr,trivial⟩)⟩;rw [htk,zaF,if_neg (by rw [hkeep];decide)];exact hrw
 ·refine rS [.E (.bool (decide ((i:Int)<(n:Int)))) (.bool false) (za (decide_eq_false (by omega)))] H5 kr fun gs4 w5 H6=>zc kr<|zf kr kr<|zw 0 kr<|wW<|rS [.v,.v] H6 kr fun gs5 w6 H7=>rRr [.tmp 6] [] (.slice (some ⟨b,0,none⟩) r k) (yf w.heap.size w (kL ((jl a m l).map pE))) H7 kr ?_;rw [List.take_of_length_le (by omega)] at hrw;exact ⟨_,⟨some ⟨b,0,none⟩,r,k,rfl,.inr ⟨b,cur,rfl,rfl,hrw⟩⟩,H7.as kr⟩
end Go.Proofs.YtbbdbdndedeokaaGreatDoor
