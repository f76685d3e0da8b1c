/-
  Texts of the proof,part 4.
-/
import Derived.Test.YtbpmjppmpgeejaaDoorProg
import Derived.Laws.Bits64b
import Derived.Lib.Hide
import Derived.ChangeKeysEq
import Derived.Laws.StructEq
import Derived.Laws.Externs
import Derived.Test.YtbpmjppmpgeejaaDoorRows
import Derived.Lib.LaidTab
import Derived.MakeChecks
import Derived.LaidLaws
import Derived.LaidHandle
import Derived.ProofKit
import Derived.WalkKit
import Derived.Test.YtbpmjppmpgeejaaDoorHS1
import Derived.Test.YtbpmjppmpgeejaaDoorHS2
import Derived.Test.YtbpmjppmpgeejaaDoorHS3
set_option maxRecDepth 100000
set_option maxHeartbeats 4000000
namespace Go.Proofs.YtbpmjppmpgeejaaDoor.Ke
open Go Go.RowKit Go.Proofs.Kec
set_option linter.unusedVariables false
theorem tcd {α:Type}(L:List α)(q:Nat)(x:α)(h:q<L.length):L.take q++ [x]++L.drop (q+1)=L.set q x:=by
 rw [List.set_eq_take_append_cons_drop,if_pos h,List.append_assoc];rfl
theorem ug (s:List (BitVec 64)):Value.cells (svn s)=((List.range 25).map fun k=>Value.int .u64 (BitVec.toNat (nth s k):Int)).toArray:=rfl
theorem uh (s:List (BitVec 64))(k q:Nat)(hq:q=k)(hk:k<25):(Value.cells (svn s))[q]? =some (Value.int .u64 (BitVec.toNat (nth s k):Int)):=by
 subst hq;rw [ug];simp [hk]
theorem zbT (s:List (BitVec 64))(k j:Nat)(x:BitVec 64)(hk:k<s.length):nth (s.set k x) j=if j=k then x else nth s j:=by
 unfold nth;rw [List.getD_eq_getElem?_getD,List.getD_eq_getElem?_getD,List.getElem?_set];by_cases h:k=j
 ·subst h;simp [hk]
 ·rw [if_neg h,if_neg (fun e=>h e.symm)]
theorem ui (s:List (BitVec 64))(k q:Nat)(x:BitVec 64)(hs:s.length=25)(hq:q=k)(hk:k<25):
 ((Value.cells (svn s)).toList.take q++(Value.cells (.int .u64 (BitVec.toNat x:Int))).toList++(Value.cells (svn s)).toList.drop (q+(Value.cells (.int .u64 (BitVec.toNat x:Int))).size)).toArray=Value.cells (svn (s.set k x)):=by
 subst hq;rw [ug,ug];congr 1;show List.take q _++ [Value.int .u64 (BitVec.toNat x:Int)]++List.drop (q+1) _=_;rw [tcd _ q _ (by simpa using hk)];apply List.ext_getElem?;intro j;rw [List.toList_toArray];rw [List.getElem?_set];by_cases h:q=j
 ·subst h;simp [hk,zbT s q q x (by omega)]
 ·by_cases hj:j<25
  ·simp [h,hj,zbT s q j x (by omega),show ¬j=q from fun e=>h e.symm]
  ·simp [h,hj]
theorem Marks.oldB {B:Nat}{w0 w:World}(HS:Below B w0 w)(hB:B=w0.heap.size)(h:Marks w0):Marks w:=by
 obtain ⟨T,fz,h⟩:=h;exact ⟨T,fz,by rw [HS.block 0 (by rw [hB];exact zE h)];exact h⟩
theorem zbU {s s1:List (BitVec 64)}{n n1 k:Nat}{t:ByteArray}(h:ye (s,n) ((tl t).take k)=(s1,n1))(hk:k<ByteArray.size t):
 ye (s,n) ((tl t).take (k+1))=(if n1+1=136 then (mix (lay s1 n1 (BitVec.ofNat 64 (by_ t k))),0) else (lay s1 n1 (BitVec.ofNat 64 (by_ t k)),n1+1)):=by
 have hk':k<(tl t).length:=hk;rw [List.take_add_one,List.getElem?_eq_getElem hk',Option.toList_some,zfz,h];unfold xE uf by_;rw [List.getD_eq_getElem?_getD,List.getElem?_eq_getElem hk',Option.getD_some]
theorem uj (b i:Nat)(hi:i<1000):Fn Tryd.prog 44 #[.int .u8 (b:Int),.int .i64 (i:Int)] (.int .u64 (BitVec.toNat (yx (BitVec.ofNat 64 b) i):Int)):=by
 refine Fn.intro (c:=zi Tryd.f44) [.tmp 4] 11 Tryd.func44 kr kr kr fun w=>?_;have H0:=St.start w;refine rS [.v] H0 kr fun gs1 w1 H1=>?_;clear H0;refine rS [.v,.E (.int .u64 (IntKind.u64.wrap (b:Int))) (.int .u64 (BitVec.toNat (BitVec.ofNat 64 b):Int)) (zc6 b),.v,.E (.int .i64 (Int.tmod (i:Int) 8)) (.int .i64 ((i%8:Nat):Int)) (zp (zan i 8)),.E (.int .i64 (IntKind.i64.wrap (((i%8:Nat):Int)*8))) (.int .i64 (((i%8)*8:Nat):Int)) (zp (zal (a:=i%8) (b:=8) (by omega))),.E (.int .u64 (IntKind.u64.wrap (((BitVec.toNat (BitVec.ofNat 64 b):Int))*2^(min ((i%8)*8) 64)))) (.int .u64 (BitVec.toNat ((BitVec.ofNat 64 b) <<< ((i%8)*8)):Int)) (zaq (BitVec.ofNat 64 b) ((i%8)*8)),.v] H1 kr fun gs2 w2 H2=>?_;clear H1;refine zn kr<|wV ?_;refine ⟨[.int .u64 (BitVec.toNat ((BitVec.ofNat 64 b) <<< ((i%8)*8)):Int)],(.tmp (.int .u64 (BitVec.toNat ((BitVec.ofNat 64 b) <<< ((i%8)*8)):Int)) kr .nil),?_,H2.below⟩;rfl
theorem zfL (s:List (BitVec 64))(n:Nat)(t:ByteArray)(hs:s.length=25)(hn:n<136)(ht:ByteArray.size t<0x4000000000000000):FnP Tryd.prog 31 #[svn s,.int .i64 (n:Int),.string t] (Marks) (.tuple #[svn (ye (s,n) (tl t)).1,.int .i64 (((ye (s,n) (tl t)).2:Nat):Int)]):=by
 refine FnP.intro (c:=zi Tryd.f31) [.cell 6 64,.tmp 7] 34 Tryd.func31 kr kr kr fun w hpre=>?_;have H0:=St.start w;refine rS [.b,.a,.v] H0 kr fun gs1 w1 H1=>?_;clear H0;refine zd kr<|rS [.v,.v,.v] H1 kr fun gs2 w2 H2=>?_;clear H1;refine zw 0 kr ?_;have HL1:St w.heap.size w w2 [((gs1 0).b,Obj.cells (Value.cells (svn s)) 64 (0,0)),((gs1 1).b,Obj.cells #[wZ,wZ,wZ,wZ,wZ,wZ,wZ,wZ,wZ,wZ,wZ,wZ,wZ,wZ,wZ,wZ,wZ,wZ,wZ,wZ,wZ,wZ,wZ,wZ,wZ] 64 (0,0))]:=H2.as kr;clear H2;refine yz kr (fun mz ρ ww=> ∃(s1:List (BitVec 64)) (n1:Nat) (k:Nat),ByteArray.size t-k=mz∧(s1.length=25)∧(n1<136)∧(k≤ByteArray.size t)∧(ye (s,n) ((tl t).take k)=(s1,n1))∧St w.heap.size w ww [((gs1 0).b,Obj.cells (Value.cells (svn s1)) 64 (0,0)),((gs1 1).b,Obj.cells #[wZ,wZ,wZ,wZ,wZ,wZ,wZ,wZ,wZ,wZ,wZ,wZ,wZ,wZ,wZ,wZ,wZ,wZ,wZ,wZ,wZ,wZ,wZ,wZ,wZ] 64 (0,0))]∧Is [(0,svn s),(1,.int .i64 (n1:Int)),(2,.string t),(3,.pointer (some ⟨(gs1 0).b,0,none⟩)),(6,.pointer (some ⟨(gs1 1).b,0,none⟩)),(7,.int .i64 0),(10,.int .i64 (ByteArray.size t:Int)),(11,.int .i64 (k:Int))] ρ) (ByteArray.size t-0) ⟨s,n,0,rfl,hs,hn,(by omega),rfl,HL1,(Is.of ⟨kr,kr,kr,kr,kr,kr,kr,kr,trivial⟩)⟩ ?_;clear HL1;rintro _ _ w3 ⟨s1,n1,k,rfl,hs1,hn1,hk,htk,H3,_,rfl⟩;have hbl:=zat t k;by_cases hc2:(k:Nat)<ByteArray.size t
 ·refine rS [.E (.bool (decide ((k:Int)<(ByteArray.size t:Int)))) (.bool true) (za (decide_eq_true (by omega)))] H3 kr fun gs4 w4 H4=>?_;clear H3;refine zd kr<|zj kr kr<|zo kr<|wW<|zd kr<|zw 1 kr<|rS [.v,.v] H4 kr fun gs5 w5 H5=>?_;clear H4;refine dS [.v,.E (.int .i64 (IntKind.i64.wrap ((n1:Int).tdiv 8))) (.int .i64 ((n1 / 8:Nat):Int)) (zp (vy (a:=n1) (b:=8) (by omega))),.o (ins:=[((.tmp 3),.pointer (some ⟨(gs1 0).b,0,none⟩)),((.tmp 15),.int .i64 ((n1 / 8:Nat):Int))]) (v:=.pointer (some ⟨(gs1 0).b,0+(n1 / 8)*1,none⟩)) (fun ρ o w ho hi=>jB (kd:=.i64) (t:=64) (n:=25) (size:=1) kr (x:=(.tmp 3)) (y:=(.tmp 15)) (gs1 0).b 0 (n1 / 8) ho hi.1 hi.2.1 (by omega) w),.ls (C:=(Value.cells (svn s1))) (off:=0+(n1 / 8)*1) (v:=.int .u64 (BitVec.toNat (nth s1 (n1 / 8)):Int)) 0 (uh s1 (n1 / 8) _ (by omega) (by omega)),.v,.v,.o (ins:=[((.tmp 18),.string t),((.tmp 19),.int .i64 (k:Int))]) (v:=.int .u8 ((by_ t k:Nat):Int)) (fun ρ o w ho hi=>jE (t:=9) (kd:=.i64) kr (x:=(.tmp 18)) (y:=(.tmp 19)) t k ho hi.1 hi.2.1 (by omega) w),.v,.c (uj (by_ t k) n1 (by omega)),.E (.int .u64 (Go.bits .xor .u64 ((BitVec.toNat (nth s1 (n1 / 8)):Int)) ((BitVec.toNat (yx (BitVec.ofNat 64 (by_ t k)) n1):Int)))) (.int .u64 (BitVec.toNat ((nth s1 (n1 / 8)) ^^^ (yx (BitVec.ofNat 64 (by_ t k)) n1)):Int)) (zq (nth s1 (n1 / 8)) (yx (BitVec.ofNat 64 (by_ t k)) n1)),.o (ins:=[((.tmp 3),.pointer (some ⟨(gs1 0).b,0,none⟩)),((.tmp 15),.int .i64 ((n1 / 8:Nat):Int))]) (v:=.pointer (some ⟨(gs1 0).b,0+(n1 / 8)*1,none⟩)) (fun ρ o w ho hi=>jB (kd:=.i64) (t:=64) (n:=25) (size:=1) kr (x:=(.tmp 3)) (y:=(.tmp 15)) (gs1 0).b 0 (n1 / 8) ho hi.1 hi.2.1 (by omega) w),.se (C:=(Value.cells (svn s1))) (C':=(Value.cells (svn (lay s1 n1 (BitVec.ofNat 64 (by_ t k)))))) (off:=0+(n1 / 8)*1) (v:=.int .u64 (BitVec.toNat ((nth s1 (n1 / 8)) ^^^ (yx (BitVec.ofNat 64 (by_ t k)) n1)):Int)) 0 (by show _+1≤25;omega) (ui s1 (n1 / 8) _ ((nth s1 (n1 / 8)) ^^^ (yx (BitVec.ofNat 64 (by_ t k)) n1)) hs1 (by omega) (by omega))] H5 kr fun w6 H6=>?_;clear H5;refine zS [0,1,2,3,6,7,8,10,11,12] fun ρ1=>?_;have HK3:=H6.keep;clear H6;refine rS [.v,.E (.int .i64 (IntKind.i64.wrap ((n1:Int)+1))) (.int .i64 ((n1+1:Nat):Int)) (zp (yA (a:=n1) (b:=1) (by omega))),.v] HK3 kr fun gs7 w7 H7=>?_;clear HK3;refine zg [0,1] kr kr<|rp [.v] H7 kr fun gs8 w8 H8=>wX [1] ?_;clear H7;by_cases hc4:(n1+1:Nat)=136
  ·refine rp [.E (.bool (((n1+1:Nat):Int)==136)) (.bool true) (za (beq_iff_eq.2 (by omega)))] H8 kr fun gs9 w9 H9=>wX [] ?_;clear H8;refine zb<|zj kr kr<|rL [.l 0,.cp (pre:=Marks) (zbS (lay s1 n1 (BitVec.ofNat 64 (by_ t k)))) [] (fun w hb hd=>(Marks.oldB hb rfl hpre)),.s 0,.v] H9 kr fun gs10 w10 H10=>?_;clear H9;refine wW<|rL [.E (.int .i64 (IntKind.i64.wrap ((k:Int)+1))) (.int .i64 ((k+1:Nat):Int)) (zp (yA (a:=k) (b:=1) (by omega))),.v] H10 kr fun gs11 w11 H11=>?_;clear H10;have HL5:St w.heap.size w w11 [((gs1 0).b,Obj.cells (Value.cells (svn (mix (lay s1 n1 (BitVec.ofNat 64 (by_ t k)))))) 64 (0,0)),((gs1 1).b,Obj.cells #[wZ,wZ,wZ,wZ,wZ,wZ,wZ,wZ,wZ,wZ,wZ,wZ,wZ,wZ,wZ,wZ,wZ,wZ,wZ,wZ,wZ,wZ,wZ,wZ,wZ] 64 (0,0))]:=H11.as kr;clear H11;show ∃m,_∧_;exact ⟨_,(by omega),(mix (lay s1 n1 (BitVec.ofNat 64 (by_ t k)))),0,(k+1),rfl,(zbQ (xF _ _ hs1)),(by omega),(by omega),((zbU htk (by omega)).trans (if_pos (by omega))),HL5,(Is.of ⟨kr,kr,kr,kr,kr,kr,kr,kr,trivial⟩)⟩
  ·refine rp [.E (.bool (((n1+1:Nat):Int)==136)) (.bool false) (za (beq_eq_false_iff_ne.2 (by omega)))] H8 kr fun gs12 w12 H12=>wX [] ?_;clear H8;refine zb<|zm kr kr<|zo kr<|wW<|rL [.E (.int .i64 (IntKind.i64.wrap ((k:Int)+1))) (.int .i64 ((k+1:Nat):Int)) (zp (yA (a:=k) (b:=1) (by omega))),.v] H12 kr fun gs13 w13 H13=>?_;clear H12;have HL6:St w.heap.size w w13 [((gs1 0).b,Obj.cells (Value.cells (svn (lay s1 n1 (BitVec.ofNat 64 (by_ t k))))) 64 (0,0)),((gs1 1).b,Obj.cells #[wZ,wZ,wZ,wZ,wZ,wZ,wZ,wZ,wZ,wZ,wZ,wZ,wZ,wZ,wZ,wZ,wZ,wZ,wZ,wZ,wZ,wZ,wZ,wZ,wZ] 64 (0,0))]:=H13.as kr;clear H13;show ∃m,_∧_;exact ⟨_,(by omega),(lay s1 n1 (BitVec.ofNat 64 (by_ t k))),(n1+1),(k+1),rfl,(xF _ _ hs1),(by omega),(by omega),((zbU htk (by omega)).trans (if_neg (by omega))),HL6,(Is.of ⟨kr,kr,kr,kr,kr,kr,kr,kr,trivial⟩)⟩
 ·refine rS [.E (.bool (decide ((k:Int)<(ByteArray.size t:Int)))) (.bool false) (za (decide_eq_false (by omega)))] H3 kr fun gs14 w14 H14=>?_;clear H3;refine zd kr<|zm kr kr<|yg 0 kr<|wW<|rS [.l 0,.v,.s 1,.v] H14 kr fun gs15 w15 H15=>?_;clear H14;refine zn kr<|wV ?_;refine ⟨[svn s1,.int .i64 (n1:Int)],(.agg (b:=(gs1 1).b) (Value.cells (svn s1)) 64 (0,0) kr (H15.get 1 kr) kr (.tmp (.int .i64 (n1:Int)) kr .nil)),?_,H15.below⟩;rw [List.take_of_length_le (show (tl t).length≤k by rw [yJ];omega)] at htk;rw [htk];rfl
theorem zfM (s:List (BitVec 64))(n:Nat)(hs:s.length=25)(hn:n<136):Fn Tryd.prog 34 #[svn s,.int .i64 (n:Int)] (svn (jm (s,n))):=by
 refine Fn.intro (c:=zi Tryd.f34) [.cell 4 64] 19 Tryd.func34 kr kr kr fun w=>?_;have H0:=St.start w;refine rS [.b,.a] H0 kr fun gs1 w1 H1=>?_;clear H0;refine dS [.v,.E (.int .i64 (IntKind.i64.wrap ((n:Int).tdiv 8))) (.int .i64 ((n / 8:Nat):Int)) (zp (vy (a:=n) (b:=8) (by omega))),.o (ins:=[((.tmp 2),.pointer (some ⟨(gs1 0).b,0,none⟩)),((.tmp 6),.int .i64 ((n / 8:Nat):Int))]) (v:=.pointer (some ⟨(gs1 0).b,0+(n / 8)*1,none⟩)) (fun ρ o w ho hi=>jB (kd:=.i64) (t:=64) (n:=25) (size:=1) kr (x:=(.tmp 2)) (y:=(.tmp 6)) (gs1 0).b 0 (n / 8) ho hi.1 hi.2.1 (by omega) w),.ls (C:=(Value.cells (svn s))) (off:=0+(n / 8)*1) (v:=.int .u64 (BitVec.toNat (nth s (n / 8)):Int)) 0 (uh s (n / 8) _ (by omega) (by omega)),.v,.c (uj 1 n (by omega)),.E (.int .u64 (Go.bits .xor .u64 ((BitVec.toNat (nth s (n / 8)):Int)) ((BitVec.toNat (yx (BitVec.ofNat 64 1) n):Int)))) (.int .u64 (BitVec.toNat ((nth s (n / 8)) ^^^ (yx (BitVec.ofNat 64 1) n)):Int)) (zq (nth s (n / 8)) (yx (BitVec.ofNat 64 1) n)),.o (ins:=[((.tmp 2),.pointer (some ⟨(gs1 0).b,0,none⟩)),((.tmp 6),.int .i64 ((n / 8:Nat):Int))]) (v:=.pointer (some ⟨(gs1 0).b,0+(n / 8)*1,none⟩)) (fun ρ o w ho hi=>jB (kd:=.i64) (t:=64) (n:=25) (size:=1) kr (x:=(.tmp 2)) (y:=(.tmp 6)) (gs1 0).b 0 (n / 8) ho hi.1 hi.2.1 (by omega) w),.se (C:=(Value.cells (svn s))) (C':=(Value.cells (svn (lay s n 1)))) (off:=0+(n / 8)*1) (v:=.int .u64 (BitVec.toNat ((nth s (n / 8)) ^^^ (yx (BitVec.ofNat 64 1) n)):Int)) 0 (by show _+1≤25;omega) (ui s (n / 8) _ ((nth s (n / 8)) ^^^ (yx (BitVec.ofNat 64 1) n)) hs (by omega) (by omega))] H1 kr fun w2 H2=>?_;clear H1;refine dS [.v,.l 0,.c (uj 128 135 (by omega)),.E (.int .u64 (Go.bits .xor .u64 ((BitVec.toNat (nth (lay s n 1) 16):Int)) ((BitVec.toNat (yx (BitVec.ofNat 64 128) 135):Int)))) (.int .u64 (BitVec.toNat ((nth (lay s n 1) 16) ^^^ (yx (BitVec.ofNat 64 128) 135)):Int)) (zq (nth (lay s n 1) 16) (yx (BitVec.ofNat 64 128) 135)),.v,.se (C:=(Value.cells (svn (lay s n 1)))) (C':=(Value.cells (svn (lay (lay s n 1) 135 128)))) (off:=16) (v:=.int .u64 (BitVec.toNat ((nth (lay s n 1) 16) ^^^ (yx (BitVec.ofNat 64 128) 135)):Int)) 0 (of_decide_eq_true kr) (ui (lay s n 1) 16 16 _ (xF _ _ hs) rfl (by omega))] H2 kr fun w3 H3=>?_;clear H2;refine zS [0,1,2,4] fun ρ1=>?_;have HK1:=H3.keep;clear H3;refine rS [.l 0,.s 1] HK1 kr fun gs4 w4 H4=>?_;clear HK1;refine zn kr<|wV ?_;refine ⟨[svn (lay (lay s n 1) 135 128)],(.agg (b:=(gs1 1).b) (Value.cells (svn (lay (lay s n 1) 135 128))) 64 (0,0) kr (H4.get 1 kr) kr .nil),?_,H4.below⟩;rfl
theorem b8 (x:BitVec 64)(sh:Nat):UInt8.ofNat (Int.toNat ((BitVec.toNat (BitVec.setWidth 8 (x >>> sh)):Int)))=UInt8.ofNat (BitVec.toNat x / 2^sh):=by
 apply UInt8.toNat_inj.1;rw [Int.toNat_natCast,BitVec.toNat_setWidth,BitVec.toNat_ushiftRight,Nat.shiftRight_eq_div_pow];simp
theorem zfN (q:List (BitVec 64)×Nat)(hq:jo q)(t:ByteArray)(ht:ByteArray.size t<0x4000000000000000):
 FnP Tryd.prog 31 #[svn q.1,.int .i64 ((q.2:Nat):Int),.string t] Marks (.tuple #[svn (ye q (tl t)).1,.int .i64 (((ye q (tl t)).2:Nat):Int)]):=zfL q.1 q.2 t hq.len hq.lt ht
theorem zfO (q:List (BitVec 64)×Nat)(hq:jo q):Fn Tryd.prog 34 #[svn q.1,.int .i64 ((q.2:Nat):Int)] (svn (jm q)):=zfM q.1 q.2 hq.len hq.lt
def kF (s:List (BitVec 64))(i j:Nat):BitVec 8:=if j<i then BitVec.setWidth 8 (nth s (j / 8) >>> (j%8*8)) else 0
theorem zfP (s:List (BitVec 64))(i j:Nat):kF s (i+1) j=if j=i then BitVec.setWidth 8 (nth s (i / 8) >>> (i%8*8)) else kF s i j:=by
 unfold kF;by_cases h:j=i
 ·subst h;rw [if_pos (by omega),if_pos rfl]
 ·rw [if_neg h];by_cases h2:j<i
  ·rw [if_pos (by omega),if_pos h2]
  ·rw [if_neg (by omega),if_neg h2]
theorem zfQ (s:List (BitVec 64)):((List.range 32).map fun i=>UInt8.ofBitVec (kF s 32 i))=qd s:=by
 unfold qd;refine List.map_congr_left fun i hi=>?_;unfold kF;rw [if_pos (by simpa using hi)];have h:=b8 (nth s (i / 8)) (i%8*8);rw [Int.toNat_natCast] at h;rw [←h];apply UInt8.toNat_inj.1;have:=(BitVec.setWidth 8 (nth s (i / 8) >>> (i%8*8))).isLt;rw [UInt8.toNat_ofNat_of_lt' (by simpa using this)];rfl
theorem zfR (s:List (BitVec 64)):Fn Tryd.prog 32 #[svn s] (.string (zf (qd s))):=by
 refine Fn.intro (c:=zi Tryd.f32) [.tmp 2] 22 Tryd.func32 kr kr kr fun w=>?_;have H0:=St.start w;refine rS [.b,.v] H0 kr fun gs1 w1 H1=>?_;clear H0;refine rS [.a] H1 kr fun gs2 w2 H2=>?_;clear H1;refine zd kr<|rS [.v] H2 kr fun gs3 w3 H3=>?_;clear H2;refine zw 0 kr ?_;have HL1:St w.heap.size w w3 [((gs1 0).b,Obj.cells (Value.cells (svn s)) 64 (0,0)),((gs2 0).b,Obj.cells (Value.cells (zdj .u8 32)) 84 (0,0))]:=H3.as kr;clear H3;have HM2:St w.heap.size w w3 [((gs1 0).b,Obj.cells (Value.cells (svn s)) 64 (0,0)),((gs2 0).b,Obj.cells (Value.cells (yY 32 (kF s 0))) 84 (0,0))]:=HL1;refine yz kr (fun mz ρ ww=> ∃(i:Nat),32-i=mz∧(i≤32)∧St w.heap.size w ww [((gs1 0).b,Obj.cells (Value.cells (svn s)) 64 (0,0)),((gs2 0).b,Obj.cells (Value.cells (yY 32 (kF s i))) 84 (0,0))]∧Is [(0,svn s),(1,.pointer (some ⟨(gs1 0).b,0,none⟩)),(2,.string (⟨#[]⟩)),(3,.pointer (some ⟨(gs2 0).b,0,none⟩)),(5,.int .i64 (i:Int))] ρ) (32-0) ⟨0,rfl,(by omega),HM2,(Is.of ⟨kr,kr,kr,kr,kr,trivial⟩)⟩ ?_;clear HM2;rintro _ _ w4 ⟨i,rfl,hi,H4,_,rfl⟩;by_cases hc3:(i:Nat)<32
 ·refine rS [.E (.bool (decide ((i:Int)<32))) (.bool true) (za (decide_eq_true (by omega)))] H4 kr fun gs5 w5 H5=>?_;clear H4;refine zd kr<|zj kr kr<|zo kr<|wW<|zd kr<|zw 1 kr<|rS [.v,.v] H5 kr fun gs6 w6 H6=>?_;clear H5;refine rL [.v,.v,.E (.int .i64 (IntKind.i64.wrap ((i:Int).tdiv 8))) (.int .i64 ((i / 8:Nat):Int)) (zp (vy (a:=i) (b:=8) (by omega))),.o (ins:=[((.tmp 1),.pointer (some ⟨(gs1 0).b,0,none⟩)),((.tmp 10),.int .i64 ((i / 8:Nat):Int))]) (v:=.pointer (some ⟨(gs1 0).b,0+(i / 8)*1,none⟩)) (fun ρ o w ho hi=>jB (kd:=.i64) (t:=64) (n:=25) (size:=1) kr (x:=(.tmp 1)) (y:=(.tmp 10)) (gs1 0).b 0 (i / 8) ho hi.1 hi.2.1 (by omega) w),.ls (C:=(Value.cells (svn s))) (off:=0+(i / 8)*1) (v:=.int .u64 (BitVec.toNat (nth s (i / 8)):Int)) 0 (uh s (i / 8) _ (by omega) (by omega)),.v,.E (.int .i64 (Int.tmod (i:Int) 8)) (.int .i64 ((i%8:Nat):Int)) (zp (zan i 8)),.E (.int .i64 (IntKind.i64.wrap (((i%8:Nat):Int)*8))) (.int .i64 (((i%8)*8:Nat):Int)) (zp (zal (a:=i%8) (b:=8) (by omega))),.E (.int .u64 (Int.fdiv ((BitVec.toNat (nth s (i / 8)):Int)) (2^(min ((i%8)*8) 64)))) (.int .u64 (BitVec.toNat ((nth s (i / 8)) >>> ((i%8)*8)):Int)) (zar (nth s (i / 8)) ((i%8)*8)),.E (.int .u8 (IntKind.u8.wrap ((BitVec.toNat ((nth s (i / 8)) >>> ((i%8)*8)):Int)))) (.int .u8 (BitVec.toNat (BitVec.setWidth 8 ((nth s (i / 8)) >>> ((i%8)*8))):Int)) (zc7 ((nth s (i / 8)) >>> ((i%8)*8))),.o (ins:=[((.tmp 3),.pointer (some ⟨(gs2 0).b,0,none⟩)),((.tmp 8),.int .i64 (i:Int))]) (v:=.pointer (some ⟨(gs2 0).b,0+i*1,none⟩)) (fun ρ o w ho hi=>jB (kd:=.i64) (t:=84) (n:=32) (size:=1) kr (x:=(.tmp 3)) (y:=(.tmp 8)) (gs2 0).b 0 i ho hi.1 hi.2.1 (by omega) w),.se (C:=(Value.cells (yY 32 (kF s i)))) (C':=(Value.cells (yY 32 (kF s (i+1))))) (off:=0+i*1) (v:=.int .u8 (BitVec.toNat (BitVec.setWidth 8 ((nth s (i / 8)) >>> ((i%8)*8))):Int)) 1 (by show _+1≤32;omega) (zdk (k:=i) (x:=BitVec.setWidth 8 ((nth s (i / 8)) >>> ((i%8)*8))) (by omega) (by omega) (fun j _=>zfP s i j))] H6 kr fun gs7 w7 H7=>?_;clear H6;refine wW<|zS [0,1,2,3,4,5,6] fun ρ1=>?_;have HK4:=H7.keep;clear H7;refine rL [.E (.int .i64 (IntKind.i64.wrap ((i:Int)+1))) (.int .i64 ((i+1:Nat):Int)) (zp (yA (a:=i) (b:=1) (by omega))),.v] HK4 kr fun gs8 w8 H8=>?_;clear HK4;have HL5:St w.heap.size w w8 [((gs1 0).b,Obj.cells (Value.cells (svn s)) 64 (0,0)),((gs2 0).b,Obj.cells (Value.cells (yY 32 (kF s (i+1)))) 84 (0,0))]:=H8.as kr;clear H8;show ∃m,_∧_;exact ⟨_,(by omega),(i+1),rfl,(by omega),HL5,(Is.of ⟨kr,kr,kr,kr,kr,trivial⟩)⟩
 ·refine rS [.E (.bool (decide ((i:Int)<32))) (.bool false) (za (decide_eq_false (by omega)))] H4 kr fun gs9 w9 H9=>?_;clear H4;refine zd kr<|zm kr kr<|yg 0 kr<|wW<|zg [0,1,2] kr kr<|rp [.o (ins:=[((.tmp 3),.pointer (some ⟨(gs2 0).b,0,none⟩))]) (v:=.slice (some ⟨(gs2 0).b,0,none⟩) 32 32) (fun ρ o w ho hi=>zax (t:=84) (n:=32) (e:=5) (z:=1) kr kr (x:=(.tmp 3)) ((gs2 0).b) ho hi.1 w)] H9 kr fun gs10 w10 H10=>wX [1,2] ?_;clear H9;have hi32:i=32:=by omega
  have hrow:=zdl 32 (kF s i) (by unfold maxLen;omega);rw [show ((List.range 32).map fun j=>UInt8.ofBitVec (kF s i j))=qd s by rw [hi32];exact zfQ _] at hrow;refine zay H10 (some 21) 56 9 5 (.tmp 20) 1 ((gs2 0).b) 32 32 (Value.cells (yY 32 (kF s i))) 84 (0,0) (qd s) kr kr kr kr kr kr kr hrow<|rp [.v] H10 kr fun gs11 w11 H11=>wX [] ?_;clear H10;refine zb<|zn kr<|wV ?_;refine ⟨[.string (zf (qd s))],(.tmp (.string (zf (qd s))) kr .nil),?_,H11.below⟩;rfl
theorem of_fn1 (b:Nat)(s1:ByteArray)(h1:ByteArray.size s1<0x4000000000000000):FnP Tryd.prog 22 #[.slice (some ⟨b,0,none⟩) 1 1] (fun w=>Marks w∧w.heap[b]? =some (.cells #[.string s1] 9 (0,0))) (.string (zf (sumB (tl s1)))):=by
 refine FnP.intro (c:=zi Tryd.f22) [.tmp 2] 26 Tryd.func22 kr kr kr fun w hpre=>?_;have H0:=St.start w;refine rS [.v] H0 kr fun gs1 w1 H1=>?_;clear H0;refine rS [.a] H1 kr fun gs2 w2 H2=>?_;clear H1;refine rS [.v] H2 kr fun gs3 w3 H3=>?_;clear H2;refine zd kr<|rS [.v,.v,.v] H3 kr fun gs4 w4 H4=>?_;clear H3;refine zw 0 kr ?_;have HL1:St w.heap.size w w4 [((gs2 0).b,Obj.cells #[wZ,wZ,wZ,wZ,wZ,wZ,wZ,wZ,wZ,wZ,wZ,wZ,wZ,wZ,wZ,wZ,wZ,wZ,wZ,wZ,wZ,wZ,wZ,wZ,wZ] 64 (0,0))]:=H4.as kr;clear H4;refine uM kr<|rS [.v] HL1 kr fun gs5 w5 H5=>?_;clear HL1;refine zd kr<|zj kr kr<|zo kr<|wW<|zd kr<|zw 1 kr<|rS [.o (ins:=[((.tmp 7),.slice (some ⟨b,0,none⟩) 1 1),((.tmp 9),.int .i64 0)]) (v:=.pointer (some ⟨b,0+0*1,none⟩)) (fun ρ o w ho hi=>xZ (kd:=.i64) (t:=23) (e:=9) (size:=1) (bytes:=16) kr (x:=(.tmp 7)) (y:=(.tmp 9)) b 0 1 1 0 ho hi.1 hi.2.1 (by omega) w),.fs (off:=0+0*1) (v:=.string s1) hpre.2 (zE hpre.2) (by rfl),.v] H5 kr fun gs6 w6 H6=>?_;clear H5;refine rL [.l 0,.v,.v,.cp (pre:=Marks) (zfN (ja,0) zero_ok s1 (by assumption)) [] (fun w hb hd=>(Marks.oldB hb rfl hpre.1)),.v,.v,.v,.s 0,.v] H6 kr fun gs7 w7 H7=>?_;clear H6;refine wW<|zS [0,2,3,4,6,7,8,9,10] fun ρ1=>?_;have HK2:=H7.keep;clear H7;refine rL [.v,.v] HK2 kr fun gs8 w8 H8=>?_;clear HK2;show WPL _ _ _ _ _ _;refine qC<|rS [.v] H8 kr fun gs9 w9 H9=>?_;clear H8;refine zd kr<|zm kr kr<|yg 0 kr<|wW<|rS [.l 0,.v,.c (zfO (ye (ja,0) (tl s1)) (zbR _ zero_ok)),.cp (pre:=Marks) (zbS (jm (ye (ja,0) (tl s1)))) [] (fun w hb hd=>(Marks.oldB hb rfl hpre.1)),.c (zfR (mix (jm (ye (ja,0) (tl s1))))),.v] H9 kr fun gs10 w10 H10=>?_;clear H9;refine zn kr<|wV ?_;refine ⟨[.string (zf (qd (mix (jm (ye (ja,0) (tl s1))))))],(.tmp (.string (zf (qd (mix (jm (ye (ja,0) (tl s1))))))) kr .nil),?_,H10.below⟩;rfl
end Go.Proofs.YtbpmjppmpgeejaaDoor.Ke
namespace Go.Proofs.YtbpmjppmpgeejaaDoor
open Go.Proofs.Kec
set_option maxRecDepth 100000
end Go.Proofs.YtbpmjppmpgeejaaDoor
namespace Go.Proofs.YtbpmjppmpgeejaaDoor
open Go Go.RowKit
set_option linter.unusedVariables false
open Go.Proofs.Kec Ke
theorem zbV (A:Nat)(hA:A<big):Fn Tryd.prog 39 #[uv A] (.string (bs A)):=zfi A hA
end Go.Proofs.YtbpmjppmpgeejaaDoor
namespace Go.Proofs.YtbpmjppmpgeejaaDoor
open Go.RowKit
end Go.Proofs.YtbpmjppmpgeejaaDoor
namespace Go.Proofs.YtbpmjppmpgeejaaDoor
open Go.ChangeShapes Go.WideShapes Go.ChangeAt Go.RowKit
set_option linter.unusedVariables false
end Go.Proofs.YtbpmjppmpgeejaaDoor
namespace Go.Proofs.YtbpmjppmpgeejaaDoor
open Go Go.RowKit
set_option linter.unusedVariables false
theorem zfS (r s:Nat)(hr:r<big)(hs:s<big)(v:Int)(hm:qp r s v=false):Fn Tryd.prog 25 #[sgv r s (v)] (.tuple #[.string ⟨#[]⟩,.int .i64 1]):=by
 refine Fn.intro (c:=zi Tryd.f25) [.tmp 2,.tmp 3] 20 Tryd.func25 kr kr kr fun w=>?_;have H0:=St.start w;refine rS [.b,.v,.v] H0 kr fun gs1 w1 H1=>?_;clear H0;refine zd kr<|zg [0,1,2] kr kr<|rp [.l 0,.c (zbO r s hr hs (v))] H1 kr fun gs2 w2 H2=>wX [2] ?_;clear H1;refine yQ 5 (v:=.bool (qp r s (v))) (v':=.bool false) (za hm) kr<|rp [.v] H2 kr fun gs3 w3 H3=>wX [] ?_;clear H2;refine zb<|zj kr kr<|rS [.v,.v] H3 kr fun gs4 w4 H4=>?_;clear H3;refine zn kr<|wV ?_;refine ⟨[.string (⟨#[]⟩),.int .i64 1],(.tmp (.string (⟨#[]⟩)) kr (.tmp (.int .i64 1) kr .nil)),?_,H4.below⟩;rfl
theorem zbW (r s:Nat)(hr:r<big)(hs:s<big)(v:Int)(hm:qp r s v=true):Fn Tryd.prog 25 #[sgv r s (v)] (.tuple #[.string (sbs r s v),.int .i64 0]):=by
 refine Fn.intro (c:=zi Tryd.f25) [.tmp 2,.tmp 3] 20 Tryd.func25 kr kr kr fun w=>?_;have H0:=St.start w;refine rS [.b,.v,.v] H0 kr fun gs1 w1 H1=>?_;clear H0;refine zd kr<|zg [0,1,2] kr kr<|rp [.l 0,.c (zbO r s hr hs (v))] H1 kr fun gs2 w2 H2=>wX [2] ?_;clear H1;refine yQ 5 (v:=.bool (qp r s (v))) (v':=.bool true) (za hm) kr<|rp [.v] H2 kr fun gs3 w3 H3=>wX [] ?_;clear H2;refine zb<|zm kr kr<|zo kr<|wW<|dSg (fun gs4=>[.v,.l 0,.c (f:=39) (args:=#[uv r]) (v:=.string (bs r)) (zbV r hr),.v,.l 0,.c (f:=39) (args:=#[uv s]) (v:=.string (bs s)) (zbV s hs),.o (ins:=[((.tmp 9),.string (bs r)),((.tmp 12),.string (bs s))]) (v:=.string ((bs r)++(bs s))) (fun ρ o w ho hi=>kp (t:=9) (t':=9) (x:=(.tmp 9)) (y:=(.tmp 12)) (bs r) (bs s) w ho hi.1 hi.2.1 (by rw [jP,jP];omega)),.v,.l 0,.v,.nw (fun b=>.slice (some ⟨b,0,none⟩) 1 1) #[.int .u8 (IntKind.u8.wrap v)] 5,.x (ins:=[((.tmp 17),.slice (some ⟨(gs4 10).b,0,none⟩) 1 1)]) [(1,((gs4 10).b,Obj.cells #[.int .u8 (IntKind.u8.wrap v)] 5 (0,0)))] (jF (t:=56) (t':=9) (e:=5) [(IntKind.u8.wrap v)] kr kr kr (Rw.lit #[.int .u8 (IntKind.u8.wrap v)] 1 (by rfl) (by unfold maxLen;omega))),.o (ins:=[((.tmp 13),.string ((bs r)++(bs s))),((.tmp 18),.string (strOfNums ([(IntKind.u8.wrap v)])))]) (v:=.string (((bs r)++(bs s))++(strOfNums ([(IntKind.u8.wrap v)])))) (fun ρ o w ho hi=>kp (t:=9) (t':=9) (x:=(.tmp 13)) (y:=(.tmp 18)) ((bs r)++(bs s)) (strOfNums ([(IntKind.u8.wrap v)])) w ho hi.1 hi.2.1 (by rw [ue,jP,jP];show 32+32+1≤_;omega)),.v,.v]) H3 kr fun gs4 w4 H4=>?_;clear H3;refine zn kr<|wV ?_;refine ⟨[.string (((bs r)++(bs s))++(strOfNums ([(IntKind.u8.wrap v)]))),.int .i64 0],(.tmp (.string (((bs r)++(bs s))++(strOfNums ([(IntKind.u8.wrap v)])))) kr (.tmp (.int .i64 0) kr .nil)),?_,H4.below⟩;rfl
end Go.Proofs.YtbpmjppmpgeejaaDoor
namespace Go.Proofs.YtbpmjppmpgeejaaDoor
open Go.RowKit
end Go.Proofs.YtbpmjppmpgeejaaDoor
namespace Go.Proofs.YtbpmjppmpgeejaaDoor
open Go Go.RowKit
set_option linter.unusedVariables false
theorem uk (r s:Nat)(v:Int):(sbs r s v).size=65:=by
 unfold sbs;rw [ue,ue,jP,jP];rfl
theorem kV (m sz ln:Nat):zv 97 0 m sz ln=(decide (m=0)&&(decide (sz=20)&&decide (ln=0))):=by
 unfold zv yb zD zH;rw [Bool.eq_iff_iff];simp<;>omega
theorem zbX (m sz ln:Nat):zv 115 0 m sz ln=(decide (m=0)&&(decide (sz=65)&&decide (ln=0))):=by
 unfold zv yb zD zH;rw [Bool.eq_iff_iff];simp<;>omega
theorem ul (m sz ln:Nat):zv 110 0 m sz ln=(decide (sz=0)&&decide (ln=0)):=by
 unfold zv yb zD zH;rw [Bool.eq_iff_iff];simp<;>omega
theorem um (m sz ln:Nat):zv 98 0 m sz ln=(decide (m=0)&&(decide (sz≤64)&&decide (ln=0))):=by
 unfold zv yb zD zH;rw [Bool.eq_iff_iff];simp<;>omega
theorem jp (g:Nat)(q:ByteArray)(x:Nat×ByteArray)(l:Fe)(hg:by_ q 0=g)(h:g≠42):qb q x l=zv g 0 x.1 x.2.size l.len:=by
 have e:kdB q=.nil:=by unfold kdB;rw [hg,if_neg h]
 unfold qb;rw [e,hg,beq_eq_false_iff_ne.2 h];simp [Fr.len]
def hv:List UInt8→List UInt8
 | []=>[]
 | b::t=>(b >>> 4)::(b &&& 15)::hv t
def isP (l:List UInt8):Bool:=l.all fun b=>decide (b.toNat≤15)
def jn:List UInt8→List UInt8
 | a::b::t=>(a <<< 4 ||| b)::jn t
 | _=>[]
def lexB:List UInt8→List UInt8→Bool
 | [],[]=>false
 | [],_::_=>true
 | _::_,[]=>false
 | a::l,b::m=>if a.toNat<b.toNat then true else if a=b then lexB l m else false
structure Nd where
 kind:Int
 part:ByteArray
 value:ByteArray
 kids:List Int
def kyB (l:List UInt8):Bool:=isP l&& !decide (l.length%2=1)
def kyS (l:List UInt8):ByteArray:=bif kyB l then zf (jn l) else ⟨#[]⟩
section
variable {P:Program}{N:Nat}{ops:Array Oper}{i:Nat}{r:List Nat}{K:Env→World→Prop}{ρ:Env}{w:World}
end
abbrev Pr:=ByteArray×ByteArray
def mayM (k v:ByteArray):Bool:=(decide (1≤k.size)&&decide (k.size≤32))&&(decide (1≤v.size)&&decide (v.size≤500))
def zfT (part:List UInt8)(v:ByteArray)(ps:List Pr):List Pr:=if mayM (kyS part) v=true then ps++ [(kyS part,v)] else ps
def zfU (kind:Int)(i:Nat):List UInt8:=if kind=3 then [UInt8.ofNat i] else []
def un (go:Int→List UInt8→Nat×List Pr→Nat×List Pr)(x:Nd)(part:List UInt8):Nat→Nat×List Pr→Nat×List Pr
 | 0,s=>s
 | i+1,s=>if x.kids.getD i (-1)= -1 then un go x part i s else go (x.kids.getD i (-1)) (part++zfU x.kind i) (un go x part i s)
def zbY (A:List Nd):Nat→Int→List UInt8→Nat×List Pr→Nat×List Pr
 | 0,_,_,s=>s
 | f+1,at_,ahead,s=>
  if s.1=0∨at_<0∨(A.length:Int)≤at_ then s
  else match A[at_.toNat]? with
   | none=>s
   | some x=>if 64<ahead.length+x.part.size then (s.1-1,s.2)
    else un (zbY A f) x (ahead++tl x.part) 16 (s.1-1,zfT (ahead++tl x.part) x.value s.2)
section
variable {P:Program}{N:Nat}{ops:Array Oper}{i:Nat}{r:List Nat}{K:Env→World→Prop}{ρ:Env}{w:World}
end
theorem zbZ: ∀x y:List UInt8,Op.bytesLess x y=lexB x y
 | [],[]=>rfl
 | [],_::_=>rfl
 | _::_,[]=>rfl
 | a::x,b::y=>by
  unfold Op.bytesLess lexB;rw [zbZ x y];by_cases h:a.toNat<b.toNat
  ·rw [if_pos h,decide_eq_true (show a<b from h)];rfl
  ·rw [if_neg h,decide_eq_false (show ¬a<b from h)];by_cases e:a=b
   ·rw [if_pos e,e];simp
   ·rw [if_neg e];simp [e]
theorem zb0 (a b:ByteArray):Op.bytesLess a.toList b.toList=lexB (tl a) (tl b):=by
 rw [ByteArray.toList_eq,ByteArray.toList_eq];exact zbZ _ _
def zg0 (A:List Nd)(root:Int):List Pr:=(zbY A 192 root [] (192,[])).2
structure OkP (L:List Pr):Prop where
 len:L.length≤64
 may: ∀x∈L,mayM x.1 x.2=true
 rise:L.Pairwise fun a b=>lexB (tl a.1) (tl b.1)=true
theorem kW {α:Type}{L:List α}{i:Nat}{a:α}(ha:L[i]? =some a):L.take (i+1)=L.take i++ [a]:=by
 rw [List.take_add_one,ha];rfl
def upB:Option ByteArray→ByteArray→Bool
 | none,_=>true
 | some p,a=>lexB (tl p) (tl a)
theorem uo {α:Type}{L:List α}{i:Nat}{x:α}(h:L[i]? =some x):L.drop i=x::L.drop (i+1):=by
 obtain ⟨hi,rfl⟩:=List.getElem?_eq_some_iff.1 h;exact (List.getElem_cons_drop (h:=hi)).symm
abbrev Fel:=El (Nat×ByteArray)
abbrev Sg:=Nat×Nat×Int
def sgF:Fl Sg where
 K:=9
 cs x:=[.int .u64 (w0 x.1),.int .u64 (w1 x.1),.int .u64 (w2 x.1),.int .u64 (w3 x.1),.int .u64 (w0 x.2.1),.int .u64 (w1 x.2.1),.int .u64 (w2 x.2.1),.int .u64 (w3 x.2.1),.int .i64 x.2.2]
 pos:=by decide
 len _:=rfl
 one a:=fun u hu=>by simp at hu;rcases hu with h | h | h | h | h | h | h | h | h<;>rw [h]<;>rfl
abbrev sgB (x:Sg):ByteArray:=sbs x.1 x.2.1 x.2.2
def sgOk (x:Sg):Prop:=x.1<big∧x.2.1<big
abbrev sgMay (x:Sg):Bool:=qp x.1 x.2.1 x.2.2
structure Hdr where
 pa:ByteArray
 hh:Nat
 ro:ByteArray
 tx:ByteArray
 pr:ByteArray
 va:ByteArray
 vs:List ByteArray
 vo:ByteArray
 ad:Bool
 rd:Nat
 ss:List Sg
structure yf (h:Hdr):Prop where
 hh:h.hh<0x10000000000000000
 rd:h.rd<0x10000000000000000
 pa:h.pa.size≤1000000
 ro:h.ro.size≤1000000
 tx:h.tx.size≤1000000
 pr:h.pr.size≤1000000
 va:h.va.size≤1000000
 vo:h.vo.size≤1000000
 vs: ∀x∈h.vs,ByteArray.size x≤1000000
 vl:h.vs.length≤1000
 ss: ∀x∈h.ss,sgOk x
 sl:h.ss.length≤1000
def jb:Option ByteArray→List ByteArray→Bool
 | _,[]=>true
 | p,a::r=>decide (a.size=20)&&(upB p a&&jb (some a) r)
def setM (L:List ByteArray):Bool:=jb none L&&(decide (0<L.length)&&decide (L.length≤16))
def voteB (vo:ByteArray)(ad:Bool):Bool:=if vo.size=0 then !ad else decide (vo.size=20)
def zU (h:Hdr):Bool:=
 (decide (h.pa.size=32)&&(decide (h.ro.size=32)&&(decide (h.tx.size=32)&&(decide (h.pr.size=20)&&(decide (h.va.size≤8)&&setM h.vs)))))&&((voteB h.vo h.ad&&decide (h.ss.length≤16))&&h.ss.all sgMay)
def lsF:List ByteArray→Fe
 | []=>.nil
 | a::r=>.cons (0,a) .nil (lsF r)
theorem uq: ∀L,(lsF L).len=L.length
 | []=>rfl
 | a::r=>by simp only [lsF,Fr.len,List.length_cons,uq r]
theorem zb1: ∀L,(lsF L).cnt=L.length
 | []=>rfl
 | a::r=>by simp only [lsF,Fr.cnt,List.length_cons,zb1 r];omega
def hdL (pa:ByteArray)(hh:Nat)(ro tx pr va:ByteArray)(L:List ByteArray)(vo:ByteArray)(a rd:Nat)(M:List ByteArray):Fe:=
 .cons (0,pa) .nil (.cons (hh,em) .nil (.cons (0,ro) .nil (.cons (0,tx) .nil (.cons (0,pr) .nil (.cons (0,va) .nil (.cons (0,em) (lsF L) (.cons (0,vo) .nil (.cons (a,em) .nil (.cons (rd,em) .nil (.cons (0,em) (lsF M) .nil))))))))))
def adN (b:Bool):Nat:=if b then 1 else 0
def hdF (h:Hdr):Fe:=hdL h.pa h.hh h.ro h.tx h.pr h.va h.vs h.vo (adN h.ad) h.rd (h.ss.map sgB)
abbrev jq:ByteArray:=⟨#[104,110,104,104,97,98,42,97,98,110,110,42,115]⟩
def hK:List ByteArray:=[⟨#[104]⟩,⟨#[110]⟩,⟨#[104]⟩,⟨#[104]⟩,⟨#[97]⟩,⟨#[98]⟩,⟨#[42,97]⟩,⟨#[98]⟩,⟨#[110]⟩,⟨#[110]⟩,⟨#[42,115]⟩]
theorem zfV:uc jq hK:=⟨by decide,by kernel_rfl,by kernel_rfl,by kernel_rfl,List.all_eq_true.1 (show hK.all kdOk=true by kernel_rfl)⟩
def qy (h:Hdr):ByteArray:=(wrV jq (hdF h)).1
structure RtH (h:Hdr):Prop where
 pa:h.pa.size=32
 ro:h.ro.size=32
 tx:h.tx.size=32
 pr:h.pr.size=20
 va:h.va.size≤8
 st:setM h.vs=true
 vo:voteB h.vo h.ad=true
 sl:h.ss.length≤16
 ss:h.ss.all sgMay=true
theorem jr {h:Hdr} :zU h=true↔RtH h:=by
 unfold zU;simp only [Bool.and_eq_true,decide_eq_true_eq];exact ⟨fun ⟨⟨h1,h2,h3,h4,h5,h6⟩,⟨h7,h8⟩,h9⟩=>⟨h1,h2,h3,h4,h5,h6,h7,h8,h9⟩,fun ⟨h1,h2,h3,h4,h5,h6,h7,h8,h9⟩=>⟨⟨h1,h2,h3,h4,h5,h6⟩,⟨h7,h8⟩,h9⟩⟩
theorem zb2 {p:Option ByteArray} : ∀ {L:List ByteArray},jb p L=true→ ∀x∈L,ByteArray.size x=20:=by
 intro L
 induction L generalizing p with
 | nil=>intro _ x hx;exact nomatch hx
 | cons a r ih=>
  intro h x hx;simp only [jb,Bool.and_eq_true,decide_eq_true_eq] at h;rcases List.mem_cons.1 hx with rfl | hx
  ·exact h.1
  ·exact ih h.2.2 x hx
theorem ur (m sz ln:Nat):zv 104 0 m sz ln=(decide (m=0)&&(decide (sz=32)&&decide (ln=0))):=by
 unfold zv yb zD zH;rw [Bool.eq_iff_iff];simp<;>omega
theorem zb3 (m sz ln:Nat):zv 42 1 m sz ln=(decide (m=0)&&(decide (sz=0)&&decide (ln≤40))):=by
 unfold zv yb zD zH;rw [Bool.eq_iff_iff];simp<;>omega
theorem zb4 (c:Nat)(q:ByteArray)(x:Nat×ByteArray)(l:Fe)(h0:by_ q 0=42)(h1:by_ q 1=c):qb q x l=(zv 42 1 x.1 x.2.size l.len&&qn c l):=by
 have e:kdB q=.cons c .nil .nil:=by unfold kdB;rw [if_pos h0,h1]
 unfold qb;rw [e,h0,h1];rfl
theorem jS {c z:Nat}(hf: ∀m sz ln,zv c 0 m sz ln=(decide (m=0)&&(decide (sz=z)&&decide (ln=0)))): ∀ {l:Fe},qn c l=true↔ ∃L:List ByteArray,l=lsF L∧ ∀x∈L,ByteArray.size x=z
 | .nil=>⟨fun _=>⟨[],rfl,fun _ h=>nomatch h⟩,fun _=>rfl⟩
 | .cons x l r=>by
  simp only [qn,hf,Bool.and_eq_true,decide_eq_true_eq];constructor
  ·rintro ⟨⟨h1,h2,h3⟩,h4⟩;obtain ⟨L,rfl,hL⟩:=(jS hf).1 h4;obtain rfl:=Fr.len_zero h3;obtain ⟨m,s⟩:=x;simp only at h1 h2;subst h1;exact ⟨s::L,rfl,fun y hy=>by rcases List.mem_cons.1 hy with rfl | hy;exact h2;exact hL y hy⟩
  ·rintro ⟨L,h1,h2⟩;cases L with
   | nil=>unfold lsF at h1;cases h1
   | cons a t=>
    unfold lsF at h1;injection h1 with e1 e2 e3
    subst e1 e2 e3;exact ⟨⟨rfl,h2 a (List.mem_cons_self ..),rfl⟩,(jS hf).2 ⟨t,rfl,fun y hy=>h2 y (List.mem_cons_of_mem _ hy)⟩⟩
theorem zfW (l:Fe):yr hK l=true↔ ∃(pa:ByteArray) (hh:Nat) (ro tx pr va:ByteArray) (L:List ByteArray) (vo:ByteArray) (a rd:Nat) (M:List ByteArray),l=hdL pa hh ro tx pr va L vo a rd M∧
 pa.size=32∧ro.size=32∧tx.size=32∧pr.size=20∧va.size≤64∧(∀x∈L,ByteArray.size x=20)∧L.length≤40∧vo.size≤64∧(∀x∈M,ByteArray.size x=65)∧M.length≤40:=by
 have s1:=fun x l=>jp 104 ⟨#[104]⟩ x l rfl (by decide);have s2:=fun x l=>jp 110 ⟨#[110]⟩ x l rfl (by decide);have s3:=fun x l=>jp 97 ⟨#[97]⟩ x l rfl (by decide);have s4:=fun x l=>jp 98 ⟨#[98]⟩ x l rfl (by decide);have s5:=fun x l=>zb4 97 ⟨#[42,97]⟩ x l rfl rfl;have s6:=fun x l=>zb4 115 ⟨#[42,115]⟩ x l rfl rfl;constructor
 ·intro h;have hl:=ub h;unfold hK at h
  match l,h,hl with
  | .cons x1 l1 (.cons x2 l2 (.cons x3 l3 (.cons x4 l4 (.cons x5 l5 (.cons x6 l6 (.cons x7 l7 (.cons x8 l8 (.cons x9 l9 (.cons x10 l10 (.cons x11 l11 .nil)))))))))),h,_=>
   simp only [yr,s1,s2,s3,s4,s5,s6,kV,ul,um,ur,zb3,Bool.and_eq_true,decide_eq_true_eq] at h;obtain ⟨⟨a1,a2,a3⟩,⟨b1,b2⟩,⟨c1,c2,c3⟩,⟨d1,d2,d3⟩,⟨e1,e2,e3⟩,⟨f1,f2,f3⟩,⟨⟨g1,g2,g3⟩,g4⟩,⟨h1,h2,h3⟩,⟨i1,i2⟩,⟨j1,j2⟩,⟨⟨k1,k2,k3⟩,k4⟩,_⟩:=h;obtain ⟨L,rfl,hL⟩:=(jS kV).1 g4;obtain ⟨M,rfl,hM⟩:=(jS zbX).1 k4;rw [uq] at g3 k3;obtain ⟨m1,t1⟩:=x1;obtain ⟨m2,t2⟩:=x2;obtain ⟨m3,t3⟩:=x3;obtain ⟨m4,t4⟩:=x4;obtain ⟨m5,t5⟩:=x5;obtain ⟨m6,t6⟩:=x6;obtain ⟨m7,t7⟩:=x7;obtain ⟨m8,t8⟩:=x8;obtain ⟨m9,t9⟩:=x9;obtain ⟨m10,t10⟩:=x10;obtain ⟨m11,t11⟩:=x11;obtain rfl:=Fr.len_zero a3;obtain rfl:=Fr.len_zero b2;obtain rfl:=Fr.len_zero c3;obtain rfl:=Fr.len_zero d3;obtain rfl:=Fr.len_zero e3;obtain rfl:=Fr.len_zero f3;obtain rfl:=Fr.len_zero h3;obtain rfl:=Fr.len_zero i2;obtain rfl:=Fr.len_zero j2;obtain rfl:=jN b1;obtain rfl:=jN i1;obtain rfl:=jN j1;obtain rfl:=jN g2;obtain rfl:=jN k2;simp only at a1 c1 d1 e1 f1 g1 h1 k1;subst a1 c1 d1 e1 f1 g1 h1 k1;exact ⟨t1,m2,t3,t4,t5,t6,L,t8,m9,m10,M,rfl,a2,c2,d2,e2,f2,hL,g3,h2,hM,k3⟩
 ·rintro ⟨pa,hh,ro,tx,pr,va,L,vo,a,rd,M,rfl,h1,h2,h3,h4,h5,h6,h7,h8,h9,h10⟩;unfold hK hdL;simp only [yr,s1,s2,s3,s4,s5,s6,kV,ul,um,ur,zb3,(jS kV).2 ⟨L,rfl,h6⟩,(jS zbX).2 ⟨M,rfl,h9⟩,uq,h1,h2,h3,h4,h5,h7,h8,h10,Fr.len];rfl
def lsI:List ByteArray→Fo
 | []=>.nil
 | a::r=>.cons false a .nil (lsI r)
theorem us {c:Nat}(h1:c≠110)(h2:yc c=false): ∀(L:List ByteArray) (i:Nat),yM (lsF L) 42 (.cons c .nil .nil) i=lsI L
 | [],_=>rfl
 | a::r,i=>by
  unfold lsF lsI;rw [vZ,ua,us h1 h2 r];unfold yq zX;rw [if_neg h1,h2];rfl
theorem zb5: ∀L,(lsI L).cnt=L.length
 | []=>rfl
 | a::r=>by simp only [lsI,Fo.cnt,List.length_cons,zb5 r];omega
theorem ut: ∀L,pureF (lsI L)=true
 | []=>rfl
 | a::r=>by
  show ((!zO false a 0&&true)&&pureF (lsI r))=true;rw [ut r];rfl
theorem zb6: ∀L,dpF (lsI L)=0
 | []=>rfl
 | a::r=>by
  show max 0 (dpF (lsI r))=0;rw [zb6 r];rfl
theorem uu {z:Nat} : ∀ {L:List ByteArray},(∀x∈L,ByteArray.size x≤z)→wtF (lsI L)≤L.length*(9+z)
 | [],_=>Nat.zero_le _
 | a::r,h=>by
  have h1:=h a (List.mem_cons_self ..);have h2:=uu (L:=r) fun x hx=>h x (List.mem_cons_of_mem _ hx);simp only [lsI,wtF,List.length_cons,Nat.succ_mul];omega
def hdI (h:Hdr):Fo:=
 .cons false h.pa .nil (.cons false (zf (dg h.hh)) .nil (.cons false h.ro .nil (.cons false h.tx .nil (.cons false h.pr .nil (.cons false h.va .nil (.cons true emB (lsI h.vs) (.cons false h.vo .nil (.cons false (zf (dg (adN h.ad))) .nil (.cons false (zf (dg h.rd)) .nil (.cons true emB (lsI (h.ss.map sgB)) .nil))))))))))
theorem zfX (h:Hdr):yM (hdF h) 40 (kfL hK) 0=hdI h:=by
 unfold hdF hdL hdI;rw [yN _ _ _ 0 (by decide),yN _ _ _ 1 (by decide),yN _ _ _ 2 (by decide),yN _ _ _ 3 (by decide),yN _ _ _ 4 (by decide),yN _ _ _ 5 (by decide),yN _ _ _ 6 (by decide),yN _ _ _ 7 (by decide),yN _ _ _ 8 (by decide),yN _ _ _ 9 (by decide),yN _ _ _ 10 (by decide)];have e1:zX 42 (.cons 97 .nil .nil) (lsF h.vs)=lsI h.vs:=by
  unfold zX;rw [if_pos (show yc 42=true from rfl)];exact us (by decide) rfl _ _
 have e2:zX 42 (.cons 115 .nil .nil) (lsF (h.ss.map sgB))=lsI (h.ss.map sgB):=by
  unfold zX;rw [if_pos (show yc 42=true from rfl)];exact us (by decide) rfl _ _
 rw [←e1,←e2];rfl
theorem zb7 {vo:ByteArray}{ad:Bool}(h:voteB vo ad=true):vo.size≤20:=by
 unfold voteB at h;split at h
 ·omega
 ·have:=of_decide_eq_true h;omega
theorem zfY {h:Hdr}(r:zU h=true):yr hK (hdF h)=true:=by
 have q:=jr.1 r;have hs:=q.st;unfold setM at hs;simp only [Bool.and_eq_true,decide_eq_true_eq] at hs;have h1:=q.va;have h2:=zb7 q.vo;have h3:=q.sl;exact (zfW _).2 ⟨_,_,_,_,_,_,_,_,_,_,_,rfl,q.pa,q.ro,q.tx,q.pr,by omega,zb2 hs.1,by omega,by omega,fun x hx=>by obtain ⟨y,_,rfl⟩:=List.mem_map.1 hx;exact uk _ _ _,by rw [List.length_map];omega⟩
theorem zfZ {h:Hdr}(r:zU h=true):wtF (hdI h)≤2500:=by
 have q:=jr.1 r;have hs:=q.st;unfold setM at hs;simp only [Bool.and_eq_true,decide_eq_true_eq] at hs;have w1:=uu (L:=h.vs) (z:=20) fun x hx=>Nat.le_of_eq (zb2 hs.1 x hx);have w2:=uu (L:=h.ss.map sgB) (z:=65) fun x hx=>by obtain ⟨y,_,rfl⟩:=List.mem_map.1 hx;exact Nat.le_of_eq (uk _ _ _)
 rw [List.length_map] at w2;have a1:=q.pa;have a2:=q.ro;have a3:=q.tx;have a4:=q.pr;have a5:=q.va;have a6:=zb7 q.vo;have a7:=q.sl;have d1:=qF h.hh;have d2:=qF (adN h.ad);have d3:=qF h.rd;have ez:emB.size=0:=rfl;simp only [hdI,wtF,qx];omega
theorem zf0 {h:Hdr}(r:zU h=true):(wrV jq (hdF h)).2=0:=by
 have q:=jr.1 r;have hs:=q.st;unfold setM at hs;simp only [Bool.and_eq_true,decide_eq_true_eq] at hs;have a7:=q.sl;have hc:(hdF h).cnt≤1000:=by
  simp only [hdF,hdL,Fr.cnt,zb1,List.length_map];omega
 have hw:=zfZ r;have hci:(hdI h).cnt≤3999:=by
  simp only [hdI,Fo.cnt,zb5,List.length_map];omega
 have hp:pureF (hdI h)=true:=by
  have p1:=ut h.vs;have p2:=ut (h.ss.map sgB);simp only [hdI,pureF,p1,p2,zO];rfl
 have hd:dpF (hdI h)=1:=by
  simp only [hdI,dpF,zb6,dp1];rfl
 have h1:=jj (hdI h);have h2:=kG true emB (szF (hdI h));have ez:emB.size=0:=rfl;have hl:lf1 true emB (hdI h).len (lfF (hdI h)) 4000=some (3999-(hdI h).cnt):=by
  unfold lf1;rw [if_neg (by simp [zO];rfl),jL,if_pos ⟨hp,hci⟩]
 rw [zbJ zfV,if_pos ⟨zfY r,hc⟩,zfX];unfold zW;rw [hl];simp only [];rw [if_neg (by rw [hd];decide),if_neg (by omega)]
theorem isK {l:List (Nat×Value)}{ρ:Env}(h:l.map (fun p=>ρ p.1)=l.map (·.2):=by kernel_rfl):Is l ρ:=by
 refine Is.of ?_
 induction l with
 | nil=>trivial
 | cons p r ih=>
  simp only [List.map_cons,List.cons.injEq] at h;exact ⟨h.1,ih h.2⟩
section
variable {P:Program}{N:Nat}{c:Code}{Q:Exit→Env→World→Prop}{ρ:Env}{w:World}
theorem qJ (k:Q .normal ρ w)(h:(jy c&&xT (xQ c))=true:=by kernel_rfl)(hx:ev ρ (jf c)=.bool false:=by kernel_rfl):WP P N c Q ρ w:=by
 rw [Bool.and_eq_true] at h;exact zm h.1 hx (zo h.2 k)
theorem qq (k:WP P N (xP c) Q ρ w)(h:jy c=true:=by kernel_rfl)(hx:ev ρ (jf c)=.bool true:=by kernel_rfl):WP P N c Q ρ w:=zj h hx k
def uw (c:Code):Code:=yt (yt c)
def kX (c:Code):Code:=zB (uw c)
def qe (c:Code):Code:=zQ (uw c)
def ux (c:Code):Code:=yt (zB (zQ (qe c)))
def xH (c:Code):Code:=zQ (zQ (qe c))
def xJ (n:Nat):Code→Bool
 | .region _ ops d=>Nat.beq ops.size n&& !d
 | _=>false
theorem zb8 {n:Nat}{c:Code}(h:xJ n c=true):∃id,c=.region id (zh c) false∧List.range (zh c).size=List.range n:=by
 cases c with
 | region id ops d=>
  cases d with
  | true=>simp [xJ] at h
  | false=>
   simp only [xJ,Bool.not_false,Bool.and_true] at h;exact ⟨id,rfl,congrArg List.range (Nat.eq_of_beq_eq_true h)⟩
 | _=>cases h
def kY (a:Option Nat)(b:Nat):Bool:=match a with
 | some x=>Nat.beq x b
 | none=>false
theorem uy {a:Option Nat}{b:Nat}(h:kY a b=true):a=some b:=by
 cases a with
 | none=>cases h
 | some x=>exact congrArg some (Nat.eq_of_beq_eq_true h)
def uz (nt ni b0 b1 tc:Nat)(c:Code):Bool:=
 kY (xR c) b0&&(xS (yt c)&&(yy (uw c)&&(xJ nt (kX c)&&(yy (qe c)&&(jy (zB (qe c))&&(xT (xP (zB (qe c)))&&(kY (vf (xQ (zB (qe c)))) b0&&(yy (zQ (qe c))&&(kY (xR (zB (zQ (qe c)))) b1&&xJ ni (xH c))))))))))
abbrev zb9 (ti b0 b1:Nat)(inc:Env→Env)(I:Nat→Env→World→Prop)(Q:Exit→Env→World→Prop)(i:Nat):Exit→Env→World→Prop
 | .normal,ρ,w=>ρ ti=iN i∧I (i+1) (inc ρ) w
 | .exit k,ρ,w=>bif Nat.beq k b1 then ρ ti=iN i∧I (i+1) (inc ρ) w else bif Nat.beq k b0 then Q .normal ρ w else Q (.exit k) ρ w
 | e,ρ,w=>Q e ρ w
theorem zf1 {ti b0 b1 tc nt ni n:Nat}{tst:Nat→Env→Env}{inc:Nat→Env→Env}(I:Nat→Env→World→Prop)
 (hs:uz nt ni b0 b1 tc c=true) (hx:jf (zB (qe c))=.tmp tc)
 (hT: ∀i ρ w K,I i ρ w→K (tst i ρ) w→WPs P N (zh (kX c)) K (List.range nt) ρ w) (hv: ∀i ρ w,I i ρ w→tst i ρ tc=.bool (decide ((i:Int)<(n:Int))))
 (hJ: ∀i ρ w K,i<n→ρ ti=iN i→K (inc i ρ) w→WPs P N (zh (xH c)) K (List.range ni) ρ w)
 (h0:I 0 ρ w) (hb: ∀i ρ w,i<n→I i ρ w→WP P N (ux c) (zb9 ti b0 b1 (inc i) I Q i) (tst i ρ) w) (he: ∀ρ w,I n ρ w→Q .normal (tst n ρ) w):WP P N c Q ρ w:=by
 unfold uz at hs;simp only [Bool.and_eq_true] at hs;obtain ⟨s1,s2,s3,s4,s5,s6,s7,s8,s9,s10,s11⟩:=hs;obtain ⟨id1,e1,l1⟩:=zb8 s4;obtain ⟨id2,e2,l2⟩:=zb8 s11;refine zw b0 (uy s1)<|yz s2 (fun m ρ w=> ∃i,n-i=m∧i≤n∧I i ρ w) n ⟨0,rfl,Nat.zero_le _,h0⟩ ?_;rintro m ρ w ⟨i,rfl,hin,hI⟩;refine zd s3 ?_;show WP P N (kX c) _ ρ w;rw [e1];refine WP.region _ l1<|hT i ρ w _ hI ?_;show WP P N (qe c) _ (tst i ρ) w;refine zd s5 ?_;have hval:=hv i ρ w hI;by_cases hi:i<n
 ·refine zj s6 (by rw [hx];show tst i ρ tc=_;rw [hval,decide_eq_true (by omega)])<|zo s7 ?_;show WP P N (zQ (qe c)) _ (tst i ρ) w;refine zd s9<|zw b1 (uy s10) ?_;have hfin: ∀(Q3:Exit→Env→World→Prop) ρ' w',(ρ' ti=iN i∧I (i+1) (inc i ρ') w')→(∀e ρ w,Q3 e ρ w=Q3 e ρ w)→WP P N (xH c) (nx (fun ρ' w'=> ∃m,m<n-i∧∃i,n-i=m∧i≤n∧I i ρ' w') Q3) ρ' w':=fun Q3 ρ' w' h _=>by
   rw [e2];refine WP.region _ l2 ?_;exact hJ i ρ' w' _ hi h.1 ⟨n-(i+1),by omega,i+1,rfl,by omega,h.2⟩
  refine xV (hb i ρ w hi hI) fun e ρ' w' h=>?_;cases e with
  | normal=>exact hfin _ ρ' w' h fun _ _ _=>rfl
  | exit k=>
   show bif Nat.beq k b1 then _ else _;change (bif Nat.beq k b1 then _ else _) at h;cases hk:Nat.beq k b1 with
   | true=>rw [hk] at h;exact hfin _ ρ' w' h fun _ _ _=>rfl
   | false=>rw [hk] at h;exact h
  | _=>exact h
 ·obtain rfl:i=n:=by omega
  refine zm s6 (by rw [hx];show tst i ρ tc=_;rw [hval,decide_eq_false (by omega)])<|yg b0 (uy s8) ?_;show bif Nat.beq b0 b0 then _ else _;rw [Nat.beq_refl];exact he ρ w hI
theorem xK (ti tn tc tj b0 b1 n:Nat)(hn:n≤0x4000000000000000)(I:Nat→Env→World→Prop)(hI: ∀i ρ w,I i ρ w→ρ ti=iN i∧ρ tn=iN n)
 (h0:I 0 ρ w) (hb: ∀i ρ w,i<n→I i ρ w→WP P N (ux c) (zb9 ti b0 b1 (fun ρ=>upd (upd ρ tj (iN (i+1))) ti (iN (i+1))) I Q i) (upd ρ tc (.bool true)) w)
 (he: ∀ρ w,I n ρ w→Q .normal (upd ρ tc (.bool false)) w)
 (hs:uz 1 2 b0 b1 tc c=true:=by kernel_rfl) (hx:jf (zB (qe c))=.tmp tc:=by kernel_rfl)
 (ht: ∀(ρ0:Env) (i:Nat) w,opv P (zh (kX c)) 0 (upd (upd ρ0 tn (iN n)) ti (iN i)) w=some (some tc,true,.ok (.value (.bool (decide ((i:Int)<(n:Int))))) w):=by exact fun ρ0 i w=>by kernel_rfl)
 (hj: ∀(ρ0:Env) (i:Nat) w,opv P (zh (xH c)) 0 (upd ρ0 ti (iN i)) w=some (some tj,true,.ok (.value (.int .i64 (IntKind.i64.wrap ((i:Int)+1)))) w):=by exact fun ρ0 i w=>by kernel_rfl)
 (hk: ∀(ρ0:Env) (v:Value) w,opv P (zh (xH c)) 1 (upd ρ0 tj v) w=some (some ti,true,.ok (.value v) w):=by exact fun ρ0 v w=>by kernel_rfl)
 (hd:(dOK (some tc) N&&(dOK (some tj) N&&dOK (some ti) N))=true:=by kernel_rfl):WP P N c Q ρ w:=by
 simp only [Bool.and_eq_true] at hd;refine zf1 (ti:=ti) (tst:=fun i ρ=>upd ρ tc (.bool (decide ((i:Int)<(n:Int))))) (inc:=fun i ρ=>upd (upd ρ tj (iN (i+1))) ti (iN (i+1))) (n:=n) I hs hx (fun i ρ w K h k=>?_) (fun i ρ w h=>?_) (fun i ρ w K hi h k=>?_) h0 (fun i ρ w hi h=>?_) (fun ρ w h=>?_)
 ·have e:upd (upd ρ tn (iN n)) ti (iN i)=ρ:=by rw [jA (hI i ρ w h).2,jA (hI i ρ w h).1]
  refine zc (some tc) _ (fun w=>e▸ht ρ i w) hd.1 ?_;exact zb k
 ·show upd ρ tc _ tc=_;unfold upd;rw [Nat.beq_refl];rfl
 ·have e:upd ρ ti (iN i)=ρ:=jA h;refine yH (some tj) _ (iN (i+1)) (fun w=>e▸hj ρ i w) (zp (yA (a:=i) (b:=1) (by omega))) hd.2.1<|zc (some ti) (iN (i+1)) (fun w=>hk ρ (iN (i+1)) w) hd.2.2 ?_;exact zb k
 ·show WP P N (ux c) _ (upd ρ tc (.bool (decide ((i:Int)<(n:Int))))) w;rw [decide_eq_true (show (i:Int)<(n:Int) by omega)];exact hb i ρ w hi h
 ·show Q .normal (upd ρ tc (.bool (decide ((n:Int)<(n:Int))))) w;rw [decide_eq_false (show ¬(n:Int)<(n:Int) by omega)];exact he ρ w h
end
theorem AtF.row2 {α:Type}{S:Fl α}{w:World}{p:Option Addr}{n:Nat}{L:List α}(h:AtF S w p n L)(hn:0<n):∃b off C T fz,p=some ⟨b,off,none⟩∧w.heap[b]? =some (.cells C T fz)∧qk S C off L:=by
 rcases h.2 with rfl|h2
 ·have:=h.1;simp at this;omega
 ·exact h2
def jt (L:List ByteArray)(i:Nat):Option ByteArray:=if i=0 then none else L[i-1]?
theorem zca {L:List ByteArray}{i:Nat}{x:ByteArray}(h:L[i]? =some x):jt L (i+1)=some x:=by
 unfold jt;rw [if_neg (by omega),Nat.add_sub_cancel,h]
abbrev hdC (h:Hdr)(p:Option Addr)(n c:Nat)(q:Option Addr)(m k:Nat):Array Value:=#[.string h.pa,.int .u64 ((h.hh:Nat):Int),.string h.ro,.string h.tx,.string h.pr,.string h.va,.slice p n c,.string h.vo,.bool h.ad,.int .u64 ((h.rd:Nat):Int),.slice q m k]
abbrev hdV (h:Hdr)(p:Option Addr)(n c:Nat)(q:Option Addr)(m k:Nat):Value:=.agg (hdC h p n c q m k)
abbrev hdO (h:Hdr)(p:Option Addr)(n c:Nat)(q:Option Addr)(m k:Nat):Obj:=.cells (hdC h p n c q m k) 26 (0,0)
def zJ (w:World)(h:Hdr)(p:Option Addr)(n:Nat)(q:Option Addr)(m:Nat):Prop:=AtF sS w p n h.vs∧AtF sgF w q m h.ss
theorem zJ.call {w w':World}{h:Hdr}{p:Option Addr}{n:Nat}{q:Option Addr}{m:Nat}(a:zJ w h p n q m)(hb:Below w.heap.size w w'):zJ w' h p n q m:=⟨a.1.call hb,a.2.call hb⟩
abbrev sgC (x:Sg):Array Value:=(sgF.cs x).toArray
abbrev sgO (x:Sg):Obj:=.cells (sgC x) 47 (0,0)
structure ju (h:Hdr):Prop where
 vo:h.vo.size≤1000000
 vl:h.vs.length≤1000
 ss: ∀x∈h.ss,sgOk x
 sl:h.ss.length≤1000
theorem yf.sm {h:Hdr}(o:yf h):ju h:=⟨o.vo,o.vl,o.ss,o.sl⟩
end Go.Proofs.YtbpmjppmpgeejaaDoor
namespace Go.Proofs.YtbpmjppmpgeejaaDoor
open Go Go.ChangeShapes Go.WideShapes Go.ChangeAt Go.RowKit
set_option linter.unusedVariables false
set_option maxRecDepth 100000
theorem zf2:Tryd.prog.cellsOf 26=11:=kr
theorem uA:Tryd.prog.cellsOf 47=9:=kr
theorem zf3:Tryd.prog.cellsOf 3=1:=kr
theorem zcb:Tryd.prog.cellsOf 9=1:=kr
theorem zf4:Tryd.prog.cellsOf 22=1:=kr
theorem zf5:Tryd.prog.cellsOf 4=1:=kr
theorem zf6:Tryd.prog.cellsOf 23=1:=kr
theorem zf7:Tryd.prog.cellsOf 24=1:=kr
theorem zcc {α:Type}(l:List α)(h:l.length=11):∃a0 a1 a2 a3 a4 a5 a6 a7 a8 a9 a10,l=[a0,a1,a2,a3,a4,a5,a6,a7,a8,a9,a10]:=by
 match l,h with
 | [a0,a1,a2,a3,a4,a5,a6,a7,a8,a9,a10],_=>exact ⟨_,_,_,_,_,_,_,_,_,_,_,rfl⟩
section
variable {H:Type}{enc:TypeId×Value→H}{W:World}{sp:Nat→Bool}{held:Bool}
theorem zcd (fuel:Nat)(cs:List Value)(x:DataW H×List MemPlace)(h:DataW.trod enc Tryd.prog W 0 sp held fuel 47 cs=some x):∃a:Sg,cs=sgF.cs a∧sgOk a:=by
 obtain ⟨y0,y1,y2,m,hx,hl,hy0,hy1,hy2⟩:=Go.Deep.trod_struct3 Tryd.underlying47 h;rw [uA] at hl;obtain ⟨c0,c1,c2,c3,c4,c5,c6,c7,c8,rfl⟩:=zd7 cs hl;rw [zd6] at hy0 hy1;rw [zf3] at hy2;obtain ⟨n,hn,a0,a1,a2,a3⟩:=zaO (show DataW.trod enc Tryd.prog W 0 sp held m 45 [c0,c1,c2,c3]=some y0 from hy0);obtain ⟨k,hk,b0',b1,b2,b3⟩:=zaO (show DataW.trod enc Tryd.prog W 0 sp held m 45 [c4,c5,c6,c7]=some y1 from hy1);obtain ⟨z,hz,_,_⟩:=DataW.trod_int Tryd.underlying3 (show DataW.trod enc Tryd.prog W 0 sp held m 3 [c8]=some y2 from hy2);have hz:c8=.int .i64 z:=by simpa using hz
 exact ⟨(n,k,z),by rw [a0,a1,a2,a3,b0',b1,b2,b3,hz];rfl,hn,hk⟩
theorem zf8 (fuel:Nat)(cs:List Value)(x:DataW H×List MemPlace)(h:DataW.trod enc Tryd.prog W 0 sp held fuel 9 cs=some x):∃a:ByteArray,cs=sS.cs a∧a.size≤maxLen:=by
 obtain ⟨s,e0,_,hs⟩:=DataW.trod_string Tryd.underlying9 h;exact ⟨s,e0,hs⟩
theorem zf9 {v:Value}{d:DataW H}{p:List MemPlace}{base:Nat}(hv:Value.okWide Tryd.prog W .any base 24 v)(h:DataW.Trod enc Tryd.prog W 0 sp held 24 v d p):
 ∃(q:Option Addr) (n c:Nat) (L:List Sg),v=.slice q n c∧yC q n c∧(∀x∈L,sgOk x)∧AtF sgF W q n L:=
 zdz Tryd.underlying24 uA zcd hv h
def zce (h:Hdr):Prop:=h.hh<0x10000000000000000∧h.rd<0x10000000000000000∧ ∀x∈h.ss,sgOk x
theorem zga {v:Value}{d:DataW H}{p:List MemPlace}{base:Nat}(hv:Value.okWide Tryd.prog W .any base 26 v)(h:DataW.Trod enc Tryd.prog W 0 sp held 26 v d p):
 ∃(hd:Hdr) (p:Option Addr) (n c:Nat) (q:Option Addr) (m k:Nat),v=hdV hd p n c q m k∧yC p n c∧yC q m k∧zce hd∧zJ W hd p n q m:=by
 obtain ⟨cs,rfl,hsz,_⟩:∃cs,v=.agg cs∧cs.size=Tryd.prog.cellsOf 26∧Row.okWide Tryd.prog W .any base 26 cs:=by
  simpa [Value.okWide,Tryd.underlying26] using hv
 rw [zf2] at hsz;obtain ⟨l⟩:=cs;obtain ⟨c0,c1,c2,c3,c4,c5,c6,c7,c8,c9,c10,rfl⟩:=zcc l hsz;obtain ⟨fuel,hf⟩:=h;obtain ⟨xs,m,rfl,hxx,hl,hlen,hff⟩:=DataW.trod_struct Tryd.underlying26 hf;obtain ⟨y0,y1,y2,y3,y4,y5,y6,y7,y8,y9,y10,rfl⟩:=zcc xs hlen;have g0:=hff 0 _ rfl;have g1:=hff 1 _ rfl;have g2:=hff 2 _ rfl;have g3:=hff 3 _ rfl;have g4:=hff 4 _ rfl;have g5:=hff 5 _ rfl;have g6:=hff 6 _ rfl;have g7:=hff 7 _ rfl;have g8:=hff 8 _ rfl;have g9:=hff 9 _ rfl;have g10:=hff 10 _ rfl;change DataW.trod enc Tryd.prog W 0 sp held m 9 (([c0,c1,c2,c3,c4,c5,c6,c7,c8,c9,c10].drop 0).take (Tryd.prog.cellsOf 9))=some y0 at g0;change DataW.trod enc Tryd.prog W 0 sp held m 22 (([c0,c1,c2,c3,c4,c5,c6,c7,c8,c9,c10].drop 1).take (Tryd.prog.cellsOf 22))=some y1 at g1;change DataW.trod enc Tryd.prog W 0 sp held m 9 (([c0,c1,c2,c3,c4,c5,c6,c7,c8,c9,c10].drop 2).take (Tryd.prog.cellsOf 9))=some y2 at g2;change DataW.trod enc Tryd.prog W 0 sp held m 9 (([c0,c1,c2,c3,c4,c5,c6,c7,c8,c9,c10].drop 3).take (Tryd.prog.cellsOf 9))=some y3 at g3;change DataW.trod enc Tryd.prog W 0 sp held m 9 (([c0,c1,c2,c3,c4,c5,c6,c7,c8,c9,c10].drop 4).take (Tryd.prog.cellsOf 9))=some y4 at g4;change DataW.trod enc Tryd.prog W 0 sp held m 9 (([c0,c1,c2,c3,c4,c5,c6,c7,c8,c9,c10].drop 5).take (Tryd.prog.cellsOf 9))=some y5 at g5;change DataW.trod enc Tryd.prog W 0 sp held m 23 (([c0,c1,c2,c3,c4,c5,c6,c7,c8,c9,c10].drop 6).take (Tryd.prog.cellsOf 23))=some y6 at g6;change DataW.trod enc Tryd.prog W 0 sp held m 9 (([c0,c1,c2,c3,c4,c5,c6,c7,c8,c9,c10].drop 7).take (Tryd.prog.cellsOf 9))=some y7 at g7;change DataW.trod enc Tryd.prog W 0 sp held m 4 (([c0,c1,c2,c3,c4,c5,c6,c7,c8,c9,c10].drop 8).take (Tryd.prog.cellsOf 4))=some y8 at g8;change DataW.trod enc Tryd.prog W 0 sp held m 22 (([c0,c1,c2,c3,c4,c5,c6,c7,c8,c9,c10].drop 9).take (Tryd.prog.cellsOf 22))=some y9 at g9;change DataW.trod enc Tryd.prog W 0 sp held m 24 (([c0,c1,c2,c3,c4,c5,c6,c7,c8,c9,c10].drop 10).take (Tryd.prog.cellsOf 24))=some y10 at g10;rw [zcb] at g0 g2 g3 g4 g5 g7;rw [zf4] at g1 g9;rw [zf5] at g8;rw [zf6] at g6;rw [zf7] at g10;have str: ∀ {c:Value} {y:DataW H×List MemPlace},DataW.trod enc Tryd.prog W 0 sp held m 9 [c]=some y→∃s,c=.string s:=fun {c y} g=>by
  obtain ⟨s,e,_,_⟩:=DataW.trod_string Tryd.underlying9 g;exact ⟨s,by simpa using e⟩
 have num: ∀ {c:Value} {y:DataW H×List MemPlace},DataW.trod enc Tryd.prog W 0 sp held m 22 [c]=some y→∃n:Nat,n<0x10000000000000000∧c=.int .u64 ((n:Nat):Int):=fun {c y} g=>by
  obtain ⟨z,e,_,hw⟩:=DataW.trod_int Tryd.underlying22 g;obtain ⟨n,hn,rfl⟩:=zaG hw;exact ⟨n,hn,by simpa using e⟩
 obtain ⟨s0,rfl⟩:=str g0;obtain ⟨n1,h1,rfl⟩:=num g1;obtain ⟨s2,rfl⟩:=str g2;obtain ⟨s3,rfl⟩:=str g3;obtain ⟨s4,rfl⟩:=str g4;obtain ⟨s5,rfl⟩:=str g5;obtain ⟨s7,rfl⟩:=str g7;obtain ⟨n9,h9,rfl⟩:=num g9;obtain ⟨b,e8,_⟩:=DataW.trod_bool Tryd.underlying4 (show DataW.trod enc Tryd.prog W 0 sp held m 4 [c8]=some y8 from g8);obtain rfl:c8=.bool b:=by simpa using e8
 obtain ⟨p,n,c,L,rfl,sl,_,at6⟩:=vJ (S:=sS) Tryd.underlying23 zcb zf8 (show DataW.trod enc Tryd.prog W 0 sp held m 23 [c6]=some y6 from g6);obtain ⟨q,mm,k,M,rfl,sl2,ok2,at10⟩:=vJ (S:=sgF) Tryd.underlying24 uA zcd (show DataW.trod enc Tryd.prog W 0 sp held m 24 [c10]=some y10 from g10);exact ⟨⟨s0,n1,s2,s3,s4,s5,L,s7,b,n9,M⟩,p,n,c,q,mm,k,rfl,sl,sl2,⟨h1,h9,ok2⟩,at6,at10⟩
end
end Go.Proofs.YtbpmjppmpgeejaaDoor
namespace Go.Proofs.YtbpmjppmpgeejaaDoor
open Go Go.RowKit
set_option linter.unusedVariables false
set_option maxRecDepth 100000
def uB:List Int:=[1,32898,0x800000000000808a,0x8000000080008000,32907,2147483649,0x8000000080008081,0x8000000000008009,138,136,2147516425,2147483658,2147516555,0x800000000000008b,0x8000000000008089,0x8000000000008003,0x8000000000008002,0x8000000000000080,32778,0x800000008000000a,0x8000000080008081,0x8000000000008080,2147483649,0x8000000080008008]
theorem zgb:Ke.marksC=(uB.map (Value.int .u64)).toArray:=kr
theorem zcf:Tryd.prog.globalNamed "ecclesia/keccak.marks" =some 0:=kr
theorem zgc {W:World} (h:laidMetH Tryd.prog [("ecclesia/keccak.marks",Rows.laid_ecclesia_keccak_marks),("unicode/utf8.acceptRanges",Rows.laid_unicode_utf8_acceptRanges),("unicode/utf8.first",Rows.laid_unicode_utf8_first)] W):Ke.Marks W:=by
 rw [MakeChecks.laidMetH_plain _ _ _ kr] at h;have t:=Lib.tabIs_of_head (k:=.u64) (zs:=uB) zcf (show (Tryd.prog.globals[0]?).map (·.type)=some 85 by kernel_rfl) Tryd.underlying85 Tryd.underlying22 kr kr h;unfold Lib.TabIs World.var? at t;rw [zcf] at t;simp only [Option.bind_some] at t;split at t
 ·rename_i cs T fz hh
  exact ⟨T,fz,by rw [hh,zgb];exact congrArg (fun c=>some (Obj.cells c T fz)) (Option.some.inj t)⟩
 ·cases t
def zgd:Array Value:=(Go.Pinned.utf8FirstZ.map fun n=>Value.int .u8 ((n:Nat):Int)).toArray
def zge:Array Value:=#[.int .u8 128,.int .u8 191,.int .u8 160,.int .u8 191,.int .u8 128,.int .u8 159,.int .u8 144,.int .u8 191,.int .u8 128,.int .u8 143,.int .u8 0,.int .u8 0,.int .u8 0,.int .u8 0,.int .u8 0,.int .u8 0,.int .u8 0,.int .u8 0,.int .u8 0,.int .u8 0,.int .u8 0,.int .u8 0,.int .u8 0,.int .u8 0,.int .u8 0,.int .u8 0,.int .u8 0,.int .u8 0,.int .u8 0,.int .u8 0,.int .u8 0,.int .u8 0]
noncomputable def zcg (os:Os):World:=
 let w0:=World.holding Tryd.prog os ⟨#[],#[],[]⟩
 { w0 with heap:=((w0.heap.modify 0 fun
  | .cells _ t frozen=>.cells (uB.map (Value.int .u64)).toArray t frozen
  | o=>o).modify 1 fun
  | .cells _ t frozen=>.cells zgd t frozen
  | o=>o).modify 2 fun
  | .cells _ t frozen=>.cells zge t frozen
  | o=>o }
theorem zgf (os:Os) (args:Array Value):laidMetH Tryd.prog [("ecclesia/keccak.marks",Rows.laid_ecclesia_keccak_marks),("unicode/utf8.acceptRanges",Rows.laid_unicode_utf8_acceptRanges),("unicode/utf8.first",Rows.laid_unicode_utf8_first)] ((zcg os).forCall (fun _ _=>0) ⟨#[],args,[]⟩).memory:=by
 rw [MakeChecks.laidMetH_plain _ _ _ kr];exact laidMet_of_run' 8 kr kr
section
variable {l:Bool}{s:ByteArray}{k:Fo}
end
end Go.Proofs.YtbpmjppmpgeejaaDoor
namespace Go.Proofs.YtbpmjppmpgeejaaDoor
open Go Go.RowKit
open D2 (Gh)
set_option linter.unusedVariables false
end Go.Proofs.YtbpmjppmpgeejaaDoor
namespace Go.Proofs.YtbpmjppmpgeejaaDoor
open Go Go.RowKit
open D2 (Gh)
set_option linter.unusedVariables false
end Go.Proofs.YtbpmjppmpgeejaaDoor
namespace Go.Proofs.YtbpmjppmpgeejaaDoor
open Go Go.RowKit
open D2 (Gh)
set_option linter.unusedVariables false
def qK (h:Hdr)(r:Nat):Hdr:= { h with ss:=[],rd:=r }
def fe0 (a:ByteArray):Fel:=⟨(0,a),none,0,0,.nil⟩
theorem zch: ∀L:List ByteArray,yj (L.map fe0)=lsF L
 | []=>rfl
 | a::r=>by
  show Fr.cons (0,a) .nil (yj (r.map fe0))=_;rw [zch r];rfl
theorem zci {L:List ByteArray}(h: ∀x∈L,ByteArray.size x≤0x800000000000)(T:List (Nat×Obj)):AllE fS T (L.map fe0):=fun x hx=>by
 obtain ⟨a,ha,rfl⟩:=List.mem_map.1 hx;exact ⟨RIn.none _ _,(by decide:0<0x10000000000000000),h a ha⟩
def hdE (h:Hdr)(q1:Option Addr)(n c1:Nat)(q2:Option Addr)(m c2:Nat):List Fel:=
 [fe0 h.pa,⟨(h.hh,em),none,0,0,.nil⟩,fe0 h.ro,fe0 h.tx,fe0 h.pr,fe0 h.va,⟨(0,em),q1,n,c1,lsF h.vs⟩,fe0 h.vo,⟨(adN h.ad,em),none,0,0,.nil⟩,⟨(h.rd,em),none,0,0,.nil⟩,⟨(0,em),q2,m,c2,lsF (h.ss.map sgB)⟩]
theorem zgg {T:List (Nat×Obj)}{h:Hdr}{q1:Option Addr}{n c1:Nat}{q2:Option Addr}{m c2:Nat}(o:yf h)(h1:RIn fS T q1 n (lsF h.vs))(h2:RIn fS T q2 m (lsF (h.ss.map sgB))):AllE fS T (hdE h q1 n c1 q2 m c2):=fun x hx=>by
 have z:(0:Nat)<0x10000000000000000:=by decide
 have ze:em.size≤0x800000000000:=Nat.zero_le _;have ha:adN h.ad<0x10000000000000000:=by unfold adN;split<;>decide
 have k1:=o.pa;have k2:=o.ro;have k3:=o.tx;have k4:=o.pr;have k5:=o.va;have k6:=o.vo;unfold hdE at hx;simp only [List.mem_cons,List.not_mem_nil,or_false] at hx;rcases hx with rfl | rfl | rfl | rfl | rfl | rfl | rfl | rfl | rfl | rfl | rfl
 ·exact ⟨RIn.none _ _,z,by show h.pa.size≤_;omega⟩
 ·exact ⟨RIn.none _ _,o.hh,ze⟩
 ·exact ⟨RIn.none _ _,z,by show h.ro.size≤_;omega⟩
 ·exact ⟨RIn.none _ _,z,by show h.tx.size≤_;omega⟩
 ·exact ⟨RIn.none _ _,z,by show h.pr.size≤_;omega⟩
 ·exact ⟨RIn.none _ _,z,by show h.va.size≤_;omega⟩
 ·exact ⟨h1,z,ze⟩
 ·exact ⟨RIn.none _ _,z,by show h.vo.size≤_;omega⟩
 ·exact ⟨RIn.none _ _,ha,ze⟩
 ·exact ⟨RIn.none _ _,o.rd,ze⟩
 ·exact ⟨h2,z,ze⟩
end Go.Proofs.YtbpmjppmpgeejaaDoor
namespace Go.Proofs.YtbpmjppmpgeejaaDoor
open Go Go.RowKit
open D2 (Gh)
set_option linter.unusedVariables false
abbrev wrO (q:Option Addr)(n c:Nat):Obj:=.cells #[.slice q n c] 58 (0,0)
abbrev flO (C:Array Value):Obj:=.cells C 39 (0,0)
abbrev yF (x:Fel):Value:=.agg #[.int .u64 ((x.a.1:Nat):Int),.string x.a.2,.slice x.p x.n x.c]
def zF:Array Value:=#[wZ,.string em,.slice none 0 0]
def FnW (f:Nat)(args:Array Value)(p bd:Nat)(pre:World→Prop)(ok:List Fel→List (Nat×Obj)→Prop):Prop:=
 ∀(w0 w:World) (q:Option Addr) (n c:Nat) (row L:List (Nat×Obj)) (M:List Fel),M.length≤bd→RowE fS 39 q n c row M→pre w0→St w0.heap.size w0 w ((p,wrO q n c)::(row++L))→
  Calls Tryd.prog f args w fun e w'=> ∃v,e=.returned v∧v=.tuple #[]∧∃q' n' c' row' X T,ok X T∧RowE fS 39 q' n' c' row' (M++X)∧St w0.heap.size w0 w' ((p,wrO q' n' c')::(row'++(T++L)))
abbrev wrQ (w0:World)(p:Nat)(M:List Fel)(L:List (Nat×Obj))(ok:List Fel→List (Nat×Obj)→Prop):Value→World→Prop:=fun v w'=>
 v=.tuple #[]∧∃q' n' c' row' X T,ok X T∧RowE fS 39 q' n' c' row' (M++X)∧St w0.heap.size w0 w' ((p,wrO q' n' c')::(row'++(T++L)))
theorem FnW.intro {f:Nat}{fn:Func}{c:Code}(rs:List ResultVar)(N:Nat){args:Array Value}{p bd:Nat}{pre:World→Prop}{ok:List Fel→List (Nat×Obj)→Prop}(hf:Tryd.prog.funcs[f]? =some fn)(hb:fn.body=some c)(hr:fn.results.toList=rs)(hn:args.size+(fn.ntmps-args.size)=N)
 (h: ∀(w0 w:World) (q:Option Addr) (n c':Nat) (row L:List (Nat×Obj)) (M:List Fel),M.length≤bd→RowE fS 39 q n c' row M→pre w0→St w0.heap.size w0 w ((p,wrO q n c')::(row++L))→WP Tryd.prog N c (zZ Tryd.prog rs (wrQ w0 p M L ok)) (ini args) w):FnW f args p bd pre ok:=
 fun w0 w q n c' row L M h1 h2 h3 h4=>(qP hf hb hr hn (h w0 w q n c' row L M h1 h2 h3 h4)).mono fun e w' ⟨v',he,hv⟩=>⟨v',he,hv⟩
theorem kZ {α:Type}(E A:List α)(x:α)(L:List α):(x::(A++(E++L))).Perm (E++x::(A++L)):=by
 refine List.Perm.trans ?_ (List.perm_middle.symm);refine List.Perm.cons _ ?_;rw [←List.append_assoc,←List.append_assoc];exact (List.perm_append_comm).append_right _
section
variable {N:Nat}{ops:Array Oper}{i:Nat}{r:List Nat}{K:Env→World→Prop}{ρ:Env}{w:World}{w0:World}{L row:List (Nat×Obj)}
theorem zY (E:List (Nat×Obj)){p:Nat}{q:Option Addr}{n c:Nat}{M:List Fel}(HS:St w0.heap.size w0 w (E++(p,wrO q n c)::(row++L)))(hR:RowE fS 39 q n c row M)(d:Option Nat)(f:Nat)(args:Array Value){bd:Nat}{pre:World→Prop}{ok:List Fel→List (Nat×Obj)→Prop}(hc:FnW f args p bd pre ok)(hM:M.length≤bd)(hp:pre w0)
 (h:opv Tryd.prog ops i ρ w=some (d,true,.ok (.enter f args) w)) (hd:dOK d N=true)
 (kk: ∀q' n' c' row' X T w',ok X T→RowE fS 39 q' n' c' row' (M++X)→St w0.heap.size w0 w' (E++(p,wrO q' n' c')::(row'++(T++L)))→WPs Tryd.prog N ops K r (zl ρ d (.tuple #[])) w'):WPs Tryd.prog N ops K (i::r) ρ w:=by
 obtain ⟨o,ho,rfl,hw,hr⟩:=zP h;refine WPo.run ho hw fun a ha=>?_;rw [hr,Oper.upon_enter];refine (hc w0 w q n c row (E++L) M hM hR hp (HS.perm (kZ E row _ L))).mono ?_;rintro _ w' ⟨_,rfl,rfl,q',n',c',row',X,T,hok,hR',HS'⟩;refine ⟨_,ha.put _ (zM hd) _,kk q' n' c' row' X T w' hok hR' (HS'.perm ?_)⟩;refine (kZ E row' (p,wrO q' n' c') (T++L)).symm.trans (List.Perm.cons _ ?_);refine List.Perm.append_left _ ?_;exact List.perm_append_comm_assoc _ _ _
end
theorem qz {w0 w:World}{p:Nat}{q:Option Addr}{n c:Nat}{row L T:List (Nat×Obj)}{X M:List Fel}{ok:List Fel→List (Nat×Obj)→Prop}(E:List (Nat×Obj))(hok:ok X T)(hR:RowE fS 39 q n c row (M++X))(HS:St w0.heap.size w0 w (E++(p,wrO q n c)::(row++(T++L)))):wrQ w0 p M L ok (.tuple #[]) w:=
 ⟨rfl,q,n,c,row,X,T,hok,hR,HS.sub (List.sublist_append_right ..)⟩
def yG (B:Nat)(w0:World)(p bx:Nat)(fO:Obj)(q:Option Addr)(n c:Nat)(fv:Value)(row:List (Nat×Obj))(xs:List Value)(T:List (Nat×Obj)):(Nat→Bool)→(Nat→Gh)→World→Prop:=fun L g w=>
 bif L 7 then (L 8=true→(g 8).b=(g 7).b)∧Rw 3 (g 7).cur (g 7).cap (n+1) (xs++zF.toList)∧St B w0 w ((bx,fO)::(p,.cells #[bif L 12 then .slice (some ⟨(g 7).b,0,none⟩) (n+1) (g 7).cap else .slice q n c] 58 (0,0))::((g 7).b,flO (bif L 9 then putA (g 7).cur (0+n*3) fv else (g 7).cur))::T)
 else bif L 6 then St B w0 w (((g 6).b,flO zF)::(bx,fO)::(p,wrO q n c)::(row++T))
 else St B w0 w ((bx,fO)::(p,wrO q n c)::(row++T))
section
variable {B:Nat}{w0:World}{p bx:Nat}{fO:Obj}{q:Option Addr}{n c:Nat}{fv:Value}{row:List (Nat×Obj)}{xs:List Value}{T:List (Nat×Obj)}{L:Nat→Bool}{g:Nat→Gh}{w:World}
theorem yG.st (h7:L 7=false)(h:yG B w0 p bx fO q n c fv row xs T L g w):∃l,St B w0 w l∧(bx,fO)∈l∧(p,wrO q n c)∈l:=by
 unfold yG at h;rw [h7] at h;cases h6:L 6 with
 | true=>rw [h6] at h;exact ⟨_,h,by simp,by simp⟩
 | false=>rw [h6] at h;exact ⟨_,h,by simp,by simp⟩
end
abbrev xL (x:Fel):List Fel→List (Nat×Obj)→Prop:=fun X T=>X=[x]∧T=[]
theorem vb (p:Nat)(x:Fel):FnW 40 #[.pointer (some ⟨p,0,none⟩),yF x] p 100000 (fun _=>True) (xL x):=by
 refine FnW.intro (c:=zi Tryd.f40) [] 15 Tryd.func40 kr kr kr fun w0 w q n c row Lz M hM hRE _ HS=>?_;have hn:n=M.length:=hRE.len (by decide);refine zg [0] kr kr<|qu HS (some 3) 39 (.tmp 1) (yF x) kr kr kr ?_;intro bx w1 H1;refine zb<|wW ?_;have H2:St w0.heap.size w0 w1 ((bx,flO #[.int .u64 ((x.a.1:Nat):Int),.string x.a.2,.slice x.p x.n x.c])::(p,wrO q n c)::(row++Lz)):=H1;refine D2.g_draw0 [0,1,2,3,4,5,6,7,8,9,10,11,12] [(some 4,fun _=>.pointer (some ⟨p,0,none⟩)),(some 5,fun _=>.pointer (some ⟨p,0,none⟩)),(some 6,fun _=>.pointer (some ⟨p,0,none⟩)),(some 7,fun _=>.slice q n c),(some 8,fun _=>yF x),(some 9,fun _=>iN n),(some 10,fun y=>.slice (some ⟨y.b,0,none⟩) 1 1),(some 11,fun y=>.slice (some ⟨y.b,0,none⟩) (n+1) y.cap),(some 12,fun y=>.pointer (some ⟨y.b,0+n*3,none⟩)),(none,fun _=>undef),(some 13,fun _=>.pointer (some ⟨p,0,none⟩)),(some 14,fun _=>.pointer (some ⟨p,0,none⟩)),(none,fun _=>undef)]
  (yG w0.heap.size w0 p bx (flO #[.int .u64 ((x.a.1:Nat):Int),.string x.a.2,.slice x.p x.n x.c]) q n c (yF x) row (zA fS M) Lz) kr kr kr H2.drew ⟨?_,?_,?_,?_,?_,?_,?_,?_,?_,?_,?_,?_,?_,trivial⟩ ?_
 ·exact D2.gv_val (fun _ _ _ h=>h) (fun g w=>by kernel_rfl)
 ·exact D2.gv_val (fun _ _ _ h=>h) (fun g w=>by kernel_rfl)
 ·exact D2.gv_val (fun _ _ _ h=>h) (fun g w=>by kernel_rfl)
 ·refine D2.gv_ld (fun _ _ _ h=>h) 37 (.tmp 6) (fun _=>p) 0 #[.slice q n c] 58 (0,0) (fun g=>by kernel_rfl) (fun g=>by kernel_rfl) (fun L g w hN hp=>?_) kr kr;obtain ⟨l,h,_,hm⟩:=hp.st (hN.post 7 kr);exact (h.own _ hm).2
 ·refine D2.gv_ld (fun _ _ _ h=>h) 39 (.tmp 3) (fun _=>bx) 0 #[.int .u64 ((x.a.1:Nat):Int),.string x.a.2,.slice x.p x.n x.c] 39 (0,0) (fun g=>by kernel_rfl) (fun g=>by kernel_rfl) (fun L g w hN hp=>?_) kr kr;obtain ⟨l,h,hm,_⟩:=hp.st (hN.post 7 kr);exact (h.own _ hm).2
 ·exact D2.gv_val (fun _ _ _ h=>h) (fun g w=>by kernel_rfl)
 ·refine D2.gives_of fun L1 gg ww hp hN=>?_;have h7:=hN.post 7 kr;unfold yG at hp;rw [h7,hN.1] at hp;obtain ⟨o,ho,hd,hw,hrun⟩:=zP (show opv _ _ 6 _ ww=some (some 10,true,.ok (.value (.slice (some ⟨ww.heap.size,0,none⟩) 1 1)) (ww.alloc (.cells zF 39))) by kernel_rfl);refine ⟨o,ho,hd,.inr ⟨hw,?_⟩⟩;refine (congrArg (D2.Runs _ _) hrun).mpr ?_;refine ⟨{ b:=ww.heap.size },rfl,?_⟩;unfold yG;rw [show D2.put1 L1 6 7=false from h7,show D2.put1 L1 6 6=true from rfl];exact St.alloc hp _
 ·refine D2.gives_of fun L1 gg ww hp hN=>?_;have h6:=hN.bef 6 kr;have h8:=hN.post 8 kr;have h9:=hN.post 9 kr;have h12:=hN.post 12 kr;unfold yG at hp;rw [hN.1,h6] at hp;obtain ⟨o,ho,hd,hw,hop⟩:=zx (show opk _ 7 _=some (some 11,true,yI 37 (.tmp 7) (.tmp 10)) by kernel_rfl);refine ⟨o,ho,hd,.inr ⟨hw,?_⟩⟩;rcases hRE with ⟨rfl,rfl,rfl,rfl,rfl⟩ | ⟨br,curr,rfl,rfl,hrw⟩
  ·obtain ⟨b',cap',cur',w',hrun,HS',hr'⟩:=zaC (K:=3) hp (t:=37) (e:=39) (bytes:=48) (k:=0) (bx:=(gg 6).b) (c:=1) (Y:=zF) kr hop kr kr rfl rfl (jl rfl) (by omega);rw [hrun];refine ⟨{ b:=b',cap:=cap',cur:=cur' },rfl,?_⟩;unfold yG;rw [show D2.put1 L1 7 7=true from rfl,show D2.put1 L1 7 9=false from h9,show D2.put1 L1 7 12=false from h12];refine ⟨fun hh=>absurd (h8.symm.trans hh) (by decide),hr',?_⟩;exact (HS'.sub (List.Sublist.cons_cons _ (List.sublist_cons_self ..))).perm (List.perm_middle (l₁:=[(bx,flO #[.int .u64 ((x.a.1:Nat):Int),.string x.a.2,.slice x.p x.n x.c]),(p,wrO none 0 0)]))
  ·obtain ⟨b',cap',cur',w',hrun,HS',hr'⟩:=vE (K:=3) hp (t:=37) (e:=39) (bytes:=48) (j:=3) (k:=0) (bx:=(gg 6).b) (c:=1) (Y:=zF) kr hop kr rfl hrw kr rfl rfl (jl rfl) (by omega) (by unfold maxLen;omega);rw [hrun];refine ⟨{ b:=b',cap:=cap',cur:=cur' },rfl,?_⟩;unfold yG;rw [show D2.put1 L1 7 7=true from rfl,show D2.put1 L1 7 9=false from h9,show D2.put1 L1 7 12=false from h12];exact ⟨fun hh=>absurd (h8.symm.trans hh) (by decide),hr',HS'.sub (List.sublist_cons_self ..)⟩
 ·refine D2.gives_of fun L1 gg ww hp hN=>?_;have h7:=hN.bef 7 kr;obtain ⟨o,ho,hd,hw,hop⟩:=zx (show opk _ 8 _=some (some 12,true,.indexAddr 37 (.tmp 11) (.tmp 9)) by kernel_rfl);refine ⟨o,ho,hd,.inr ⟨hw,?_⟩⟩;rw [ys (kd:=.i64) (t:=37) (e:=39) (K:=3) (bytes:=48) kr (x:=(.tmp 11)) (y:=(.tmp 9)) (gg 7).b 0 (n+1) (gg 7).cap n rfl hop kr kr (by omega) ww];refine ⟨{ b:=(gg 7).b },rfl,?_⟩;unfold yG at hp ⊢;rw [h7] at hp;rw [show D2.put1 L1 8 7=true from h7];exact ⟨fun _=>rfl,hp.2.1,hp.2.2⟩
 ·refine D2.gives_of fun L1 gg ww hp hN=>?_;have h7:=hN.bef 7 kr;have h8:=hN.bef 8 kr;unfold yG at hp;rw [h7,hN.1] at hp;obtain ⟨hg8,hr',HS⟩:=hp;have hg:=hg8 h8;have hle:=hr'.putA (0+n*3) (yF x) (by show 0+n*3+3≤(n+1)*3;omega);obtain ⟨o,ho,hd,hw,hop⟩:=zx (show opk _ 9 _=some (none,true,.store 39 (.tmp 12) (.tmp 8)) by kernel_rfl);refine ⟨o,ho,hd,.inr ⟨hw,?_⟩⟩;rw [xu (t:=39) (off:=0+n*3) (b:=(gg 7).b) (C:=(gg 7).cur) (T:=39) (v:=yF x) (C':=putA (gg 7).cur (0+n*3) (yF x)) (HS.get 2 kr) kr kr hle.1 rfl (by rw [←hg];kernel_rfl) kr o hop];refine ⟨default,rfl,?_⟩;unfold yG;rw [show D2.put1 L1 9 7=true from h7,show D2.put1 L1 9 9=true from rfl];exact ⟨fun h=>hg8 h,hr',HS.store 2 (C:=(gg 7).cur) kr⟩
 ·exact D2.gv_val (fun _ _ _ h=>h) (fun g w=>by kernel_rfl)
 ·exact D2.gv_val (fun _ _ _ h=>h) (fun g w=>by kernel_rfl)
 ·refine D2.gives_of fun L1 gg ww hp hN=>?_;have h7:=hN.bef 7 kr;unfold yG at hp;rw [h7,hN.1] at hp;obtain ⟨hg8,hr',HS⟩:=hp;obtain ⟨o,ho,hd,hw,hop⟩:=zx (show opk _ 12 _=some (none,true,.store 37 (.tmp 14) (.tmp 11)) by kernel_rfl);refine ⟨o,ho,hd,.inr ⟨hw,?_⟩⟩;rw [xu (t:=37) (off:=0) (b:=p) (C:=#[.slice q n c]) (T:=58) (v:=.slice (some ⟨(gg 7).b,0,none⟩) (n+1) (gg 7).cap) (C':=#[.slice (some ⟨(gg 7).b,0,none⟩) (n+1) (gg 7).cap]) (HS.get 1 kr) kr kr (Nat.le_of_ble_eq_true kr) rfl kr kr o hop];refine ⟨default,rfl,?_⟩;unfold yG;rw [show D2.put1 L1 12 7=true from h7,show D2.put1 L1 12 12=true from rfl];exact ⟨fun h=>hg8 h,hr',HS.store 1 (C:=#[.slice q n c]) kr⟩
 ·intro L1 gg w14 hall hp;unfold yG at hp;rw [hall 7 (Nat.le_of_ble_eq_true kr),hall 9 (Nat.le_of_ble_eq_true kr),hall 12 (Nat.le_of_ble_eq_true kr)] at hp;obtain ⟨_,hr',H4⟩:=hp;have hMl:(zA fS M).length=0+n*3:=by rw [ji,hn,Nat.zero_add];rfl
  have hnew:Rw 3 (putA (gg 7).cur (0+n*3) (yF x)) (gg 7).cap (n+1) (zA fS (M++ [x])):=by
   have h1:=(hr'.putA (0+n*3) (yF x) (by show 0+n*3+3≤(n+1)*3;omega)).2;have h2:=vH (X:=zA fS M) (Z:=zF.toList) (V:=(yF x).cells.toList) hMl rfl;rw [kt];exact h2▸h1
  refine ⟨[],.nil,?_⟩;exact qz (X:=[x]) (T:=[]) (row:=[((gg 7).b,flO (putA (gg 7).cur (0+n*3) (yF x)))]) [(bx,flO #[.int .u64 ((x.a.1:Nat):Int),.string x.a.2,.slice x.p x.n x.c])] ⟨rfl,rfl⟩ (.inr ⟨_,_,rfl,rfl,hnew⟩) H4
end Go.Proofs.YtbpmjppmpgeejaaDoor
namespace Go.Proofs.YtbpmjppmpgeejaaDoor
open Go Go.RowKit
set_option linter.unusedVariables false
theorem qf {w w':World}(h:Ke.Marks w)(hb:Below w.heap.size w w'):Ke.Marks w':=by
 obtain ⟨T,fz,h⟩:=h;exact ⟨T,fz,by rw [hb.block 0 (zE h)];exact h⟩
theorem zcj (s:ByteArray)(hs:s.size<0x4000000000000000):FnP Tryd.prog 14 #[.string s] Ke.Marks (.string (zf (Kec.sumB (tl s)))):=by
 refine FnP.intro (c:=zi Tryd.f14) [.tmp 2] 6 Tryd.func14 kr kr kr fun w hM=>rS [.v] (St.start w) kr fun gs1 w1 H1=>zg [0,1,2,3] kr kr<|rp [.v,.nw (fun b=>.slice (some ⟨b,0,none⟩) 1 1) #[.string s] 9] H1 kr fun gs2 w2 H2=>wX [2,3] ?_;have H3:St w.heap.size w w2 [((gs2 1).b,.cells #[.string s] 9 (0,0))]:=H2.as kr;refine qv H3 (some 5) 22 #[.slice (some ⟨(gs2 1).b,0,none⟩) 1 1] _ _ (Ke.of_fn1 (gs2 1).b s hs) ⟨qf hM H3.below,H3.get 0 rfl⟩ (fun w=>by kernel_rfl) kr ?_;intro w3 H4;refine rp [.v] H4 kr fun gs3 w4 H5=>wX []<|zb ?_;exact rR [.tmp 2] [] (.string (zf (Kec.sumB (tl s)))) H5 kr
end Go.Proofs.YtbpmjppmpgeejaaDoor
namespace Go.Proofs.YtbpmjppmpgeejaaDoor
open Go Go.RowKit
open D2 (Gh)
set_option linter.unusedVariables false
def fn0 (m:Nat):Fel:=⟨(m,em),none,0,0,.nil⟩
theorem jc (p:Nat)(s:ByteArray):FnW 26 #[.pointer (some ⟨p,0,none⟩),.string s] p 100000 (fun _=>True) (xL (fe0 s)):=by
 refine FnW.intro (c:=zi Tryd.f26) [] 8 Tryd.func26 kr kr kr fun w0 w q n c row L M hM hRE _ HS=>yo [0,1,2,3] kr<|rp [.v,.v,.v] HS kr fun gs1 w1 H1=>wX [3]<|zY (row:=row) (L:=L) [] (q:=q) (n:=n) (c:=c) (p:=p) (M:=M) (H1.as kr) hRE (some 7) 40 #[.pointer (some ⟨p,0,none⟩),yF (fe0 s)] (vb p (fe0 s)) hM trivial kr kr ?_;intro q' n' c' row' X T w2 hok hR' H2;refine zb ?_;exact ⟨[],.nil,qz [] hok hR' H2⟩
theorem vc (p:Nat)(m:Nat):FnW 27 #[.pointer (some ⟨p,0,none⟩),.int .u64 (m:Int)] p 100000 (fun _=>True) (xL (fn0 m)):=by
 refine FnW.intro (c:=zi Tryd.f27) [] 8 Tryd.func27 kr kr kr fun w0 w q n c row L M hM hRE _ HS=>yo [0,1,2,3] kr<|rp [.v,.v,.v] HS kr fun gs1 w1 H1=>wX [3]<|zY (row:=row) (L:=L) [] (q:=q) (n:=n) (c:=c) (p:=p) (M:=M) (H1.as kr) hRE (some 7) 40 #[.pointer (some ⟨p,0,none⟩),yF (fn0 m)] (vb p (fn0 m)) hM trivial kr kr ?_;intro q' n' c' row' X T w2 hok hR' H2;refine zb ?_;exact ⟨[],.nil,qz [] hok hR' H2⟩
theorem zgh (p:Nat)(b:Bool):FnW 29 #[.pointer (some ⟨p,0,none⟩),.bool b] p 100000 (fun _=>True) (xL (fn0 (adN b))):=by
 refine FnW.intro (c:=zi Tryd.f29) [] 9 Tryd.func29 kr kr kr fun w0 w q n c row L M hM hRE _ HS=>?_;cases b with
 | true=>
  refine rS [.v] HS kr fun gs1 w1 H1=>qq<|yo [0,1] kr<|rp [.v] H1 kr fun gs2 w2 H2=>wX [1]<|zY (row:=row) (L:=L) [] (q:=q) (n:=n) (c:=c) (p:=p) (M:=M) (H2.as kr) hRE (some 6) 27 #[.pointer (some ⟨p,0,none⟩),.int .u64 ((1:Nat):Int)] (vc p 1) hM trivial kr kr ?_;intro q' n' c' row' X T w3 hok hR' H3;refine zb ?_;exact ⟨[],.nil,qz [] hok hR' H3⟩
 | false=>
  refine rS [.v] HS kr fun gs1 w1 H1=>zm kr kr<|yo [0,1] kr<|rp [.v] H1 kr fun gs2 w2 H2=>wX [1]<|zY (row:=row) (L:=L) [] (q:=q) (n:=n) (c:=c) (p:=p) (M:=M) (H2.as kr) hRE (some 8) 27 #[.pointer (some ⟨p,0,none⟩),.int .u64 ((0:Nat):Int)] (vc p 0) hM trivial kr kr ?_;intro q' n' c' row' X T w3 hok hR' H3;refine zb ?_;exact ⟨[],.nil,qz [] hok hR' H3⟩
theorem zgi (p:Nat)(x:Sg)(ho:sgOk x)(hm:sgMay x=true):FnW 43 #[.pointer (some ⟨p,0,none⟩),.agg (sgC x)] p 100000 (fun _=>True) (xL (fe0 (sgB x))):=by
 have hb:=zbW x.1 x.2.1 ho.1 ho.2 x.2.2 hm;refine FnW.intro (c:=zi Tryd.f43) [] 14 Tryd.func43 kr kr kr fun w0 w q n c row L M hM hRE _ HS=>zg [0] kr kr<|qu HS (some 3) 47 (.tmp 1) (.agg (sgC x)) kr kr kr ?_;intro bx w1 H1;refine zb ?_;have H2:St w0.heap.size w0 w1 ((bx,sgO x)::(p,wrO q n c)::(row++L)):=H1;refine rS [.l 0,.c hb,.v,.v,.v,.v,.v] H2 kr fun gs2 w2 H3=>yo [0,1,2] kr<|rp [.v,.v] H3 kr fun gs3 w3 H4=>wX [2]<|zY (row:=row) (L:=L) [(bx,sgO x)] (q:=q) (n:=n) (c:=c) (p:=p) (M:=M) (H4.as kr) hRE (some 13) 26 #[.pointer (some ⟨p,0,none⟩),.string (sgB x)] (jc p (sgB x)) hM trivial kr kr ?_;intro q' n' c' row' X T w4 hok hR' H5;refine zb ?_;exact ⟨[],.nil,qz [(bx,sgO x)] hok hR' H5⟩
theorem zgj (p:Nat)(qs:Option Addr)(ns cs:Nat)(A:List ByteArray)(hA:A.length≤1000):FnW 41 #[.slice qs ns cs,.func (.func 26) #[.pointer (some ⟨p,0,none⟩)] #[]] p 1000 (fun w=>AtF sS w qs ns A) (fun X T=>X=A.map fe0∧T=[]):=by
 refine FnW.intro (c:=zi Tryd.f41) [] 16 Tryd.func41 kr kr kr fun w0 w q n c row L M hM hRE hP HS=>?_;have hn:=hP.1;refine rS [.v,.v,.v] HS kr fun gs1 w1 H1=>xK 8 7 9 15 0 1 ns (by omega) (fun i ρ ww=> ∃q' n' c' row',RowE fS 39 q' n' c' row' (M++(A.take i).map fe0)∧St w0.heap.size w0 ww ((p,wrO q' n' c')::(row'++L))∧Is [(1,.func (.func 26) #[.pointer (some ⟨p,0,none⟩)] #[]),(6,.slice qs ns cs),(7,iN ns),(8,iN i)] ρ) (by rintro i _ ww ⟨_,_,_,_,_,_,_,rfl⟩;exact ⟨kr,kr⟩) ⟨q,n,c,row,by simpa using hRE,H1.as kr,isK⟩ ?_ ?_
 ·rintro i _ w4 hi ⟨q',n',c',row',hR,H4,_,rfl⟩;obtain ⟨x,hx⟩:∃x,A[i]? =some x:=⟨_,List.getElem?_eq_getElem (by omega)⟩
  obtain ⟨bl,off,C,T,fz,hp,hh,hRA⟩:=hP.row2 (by omega);have hcx:C[off+i*1]? =some (.string x):=hRA.cell hx 0 (by decide);refine rS [.o (ins:=[((.tmp 6),.slice qs ns cs),((.tmp 8),iN i)]) (v:=.pointer (some ⟨bl,off+i*1,none⟩)) (fun ρ o w ho hi2=>qT (kd:=.i64) (t:=23) (e:=9) (K:=1) (bytes:=16) kr (x:=(.tmp 6)) (y:=(.tmp 8)) bl off ns cs i hp ho hi2.1 hi2.2.1 (by omega) w),.fs (off:=off+i*1) (v:=.string x) hh (zE hh) hcx,.v] H4 kr fun gs5 w5 H5=>yo [0,1,2] kr<|rp [.v,.v] H5 kr fun gs6 w6 H6=>wX [2] ?_;have hl:(M++(A.take i).map fe0).length≤100000:=by rw [List.length_append,List.length_map,List.length_take];omega
  refine zY (row:=row') (L:=L) [] (q:=q') (n:=n') (c:=c') (p:=p) (M:=M++(A.take i).map fe0) (H6.as kr) hR (some 14) 26 #[.pointer (some ⟨p,0,none⟩),.string x] (jc p x) hl trivial kr kr ?_;rintro q2 n2 c2 row2 X T w7 ⟨rfl,rfl⟩ hR2 H7;refine zb ?_;exact ⟨kr,q2,n2,c2,row2,by rw [kW hx,List.map_append,←List.append_assoc];exact hR2,H7,isK⟩
 ·rintro _ w4 ⟨q',n',c',row',hR,H4,_,rfl⟩;rw [List.take_of_length_le (by omega)] at hR;exact ⟨[],.nil,qz (T:=[]) [] ⟨rfl,rfl⟩ hR H4⟩
theorem zgk (p:Nat)(qs:Option Addr)(ns cs:Nat)(A:List Sg)(hA:A.length≤1000)(ho: ∀x∈A,sgOk x)(hy:A.all sgMay=true):FnW 42 #[.slice qs ns cs,.func (.func 43) #[.pointer (some ⟨p,0,none⟩)] #[]] p 1000 (fun w=>AtF sgF w qs ns A) (fun X T=>X=(A.map sgB).map fe0∧T=[]):=by
 refine FnW.intro (c:=zi Tryd.f42) [] 16 Tryd.func42 kr kr kr fun w0 w q n c row L M hM hRE hP HS=>?_;have hn:=hP.1;refine rS [.v,.v,.v] HS kr fun gs1 w1 H1=>xK 8 7 9 15 0 1 ns (by omega) (fun i ρ ww=> ∃q' n' c' row',RowE fS 39 q' n' c' row' (M++((A.take i).map sgB).map fe0)∧St w0.heap.size w0 ww ((p,wrO q' n' c')::(row'++L))∧Is [(1,.func (.func 43) #[.pointer (some ⟨p,0,none⟩)] #[]),(6,.slice qs ns cs),(7,iN ns),(8,iN i)] ρ) (by rintro i _ ww ⟨_,_,_,_,_,_,_,rfl⟩;exact ⟨kr,kr⟩) ⟨q,n,c,row,by simpa using hRE,H1.as kr,isK⟩ ?_ ?_
 ·rintro i _ w4 hi ⟨q',n',c',row',hR,H4,_,rfl⟩;obtain ⟨x,hx⟩:∃x,A[i]? =some x:=⟨_,List.getElem?_eq_getElem (by omega)⟩
  obtain ⟨bl,off,C,T,fz,hp,hh,hRA⟩:=hP.row2 (by omega);have hxm:=List.mem_of_getElem? hx;refine zg [0,1,2,3] kr kr<|rp [.o (ins:=[((.tmp 6),.slice qs ns cs),((.tmp 8),iN i)]) (v:=.pointer (some ⟨bl,off+i*9,none⟩)) (fun ρ o w ho hi2=>qT (kd:=.i64) (t:=24) (e:=47) (K:=9) (bytes:=72) kr (x:=(.tmp 6)) (y:=(.tmp 8)) bl off ns cs i hp ho hi2.1 hi2.2.1 (by omega) w),.fp (off:=off+i*9) (n:=9) (W:=sgC x) hh (zE hh) (hRA _ _ hx).1 (hRA _ _ hx).2] H4 kr fun gs5 w5 H5=>wX [2,3] ?_;have H6:St w0.heap.size w0 w5 ((p,wrO q' n' c')::(row'++L)):=H5.as kr;refine yh H6 (some 5) 47 (.agg (sgC (0,0,0))) kr kr kr ?_;intro b5 w6 H7;refine rp [.s 0] H7 kr fun gs6 w7 H8=>wX []<|zb ?_;have H9:St w0.heap.size w0 w7 ((b5,sgO x)::(p,wrO q' n' c')::(row'++L)):=H8.as kr;refine yo [0,1,2] kr<|rp [.v,.l 0] H9 kr fun gs7 w8 H10=>wX [2] ?_;have hl:(M++((A.take i).map sgB).map fe0).length≤100000:=by rw [List.length_append,List.length_map,List.length_map,List.length_take];omega
  refine zY (row:=row') (L:=L) [(b5,sgO x)] (q:=q') (n:=n') (c:=c') (p:=p) (M:=M++((A.take i).map sgB).map fe0) (H10.as kr) hR (some 14) 43 #[.pointer (some ⟨p,0,none⟩),.agg (sgC x)] (zgi p x (ho x hxm) (List.all_eq_true.1 hy x hxm)) hl trivial kr kr ?_;rintro q2 n2 c2 row2 X T w9 ⟨rfl,rfl⟩ hR2 H11;refine zb ?_;exact ⟨kr,q2,n2,c2,row2,by rw [kW hx,List.map_append,List.map_append,←List.append_assoc];exact hR2,H11.sub (List.sublist_cons_self ..),isK⟩
 ·rintro _ w4 ⟨q',n',c',row',hR,H4,_,rfl⟩;rw [List.take_of_length_le (by omega)] at hR;exact ⟨[],.nil,qz (T:=[]) [] ⟨rfl,rfl⟩ hR H4⟩
theorem zgl (p:Nat)(qs:Option Addr)(ns cs:Nat)(A:List ByteArray)(hA:A.length≤1000):FnW 28 #[.pointer (some ⟨p,0,none⟩),.slice qs ns cs] p 100000 (fun w=>AtF sS w qs ns A) (fun X T=> ∃q2 n2 c2,X=[⟨(0,em),q2,n2,c2,lsF (A)⟩]∧RowE fS 39 q2 n2 c2 T ((A).map fe0)):=by
 refine FnW.intro (c:=zi Tryd.f28) [] 13 Tryd.func28 kr kr kr fun w0 w q n c row L M hM hRE hP HS=>zg [0] kr kr<|yh HS (some 4) 58 (.agg #[.slice none 0 0]) kr kr kr ?_;intro b4 w1 H1;refine zb ?_;have H2:St w0.heap.size w0 w1 ((b4,wrO none 0 0)::(p,wrO q n c)::(row++L)):=H1;refine zg [0,1,2] kr kr<|rp [.v,.v] H2 kr fun gs2 w2 H3=>wX [2]<|zY (row:=[]) (L:=(p,wrO q n c)::(row++L)) [] (q:=none) (n:=0) (c:=0) (p:=b4) (M:=[]) (H3.as kr) (.inl ⟨rfl,rfl,rfl,rfl,rfl⟩) (some 7) 41 #[.slice qs ns cs,.func (.func 26) #[.pointer (some ⟨b4,0,none⟩)] #[]] (zgj b4 qs ns cs A hA) (Nat.zero_le _) hP kr kr ?_;rintro q2 n2 c2 row2 X T w3 ⟨rfl,rfl⟩ hR2 H4;refine zb ?_;have H5:St w0.heap.size w0 w3 ((b4,wrO q2 n2 c2)::(row2++(p,wrO q n c)::(row++L))):=H4;refine yo [0,1,2,3,4] kr<|rp [.v,.v,.l 0,.v] H5 kr fun gs3 w4 H6=>wX [4] ?_;have H7:St w0.heap.size w0 w4 ((b4,wrO q2 n2 c2)::(row2++(p,wrO q n c)::(row++L))):=H6.as kr;refine zY (row:=row) (L:=row2++L) [(b4,wrO q2 n2 c2)] (q:=q) (n:=n) (c:=c) (p:=p) (M:=M) (H7.perm (List.Perm.cons _ (kZ row2 row _ L))) hRE (some 12) 40 #[.pointer (some ⟨p,0,none⟩),yF ⟨(0,em),q2,n2,c2,lsF (A)⟩] (vb p ⟨(0,em),q2,n2,c2,lsF (A)⟩) hM trivial kr kr ?_;rintro q3 n3 c3 row3 X T w5 ⟨rfl,rfl⟩ hR3 H8;refine zb ?_;exact ⟨[],.nil,qz (T:=row2) [(b4,wrO q2 n2 c2)] ⟨q2,n2,c2,rfl,hR2⟩ hR3 H8⟩
theorem zgm (p:Nat)(qs:Option Addr)(ns cs:Nat)(A:List Sg)(hA:A.length≤1000)(ho: ∀x∈A,sgOk x)(hy:A.all sgMay=true):FnW 30 #[.pointer (some ⟨p,0,none⟩),.slice qs ns cs] p 100000 (fun w=>AtF sgF w qs ns A) (fun X T=> ∃q2 n2 c2,X=[⟨(0,em),q2,n2,c2,lsF (A.map sgB)⟩]∧RowE fS 39 q2 n2 c2 T ((A.map sgB).map fe0)):=by
 refine FnW.intro (c:=zi Tryd.f30) [] 13 Tryd.func30 kr kr kr fun w0 w q n c row L M hM hRE hP HS=>zg [0] kr kr<|yh HS (some 4) 58 (.agg #[.slice none 0 0]) kr kr kr ?_;intro b4 w1 H1;refine zb ?_;have H2:St w0.heap.size w0 w1 ((b4,wrO none 0 0)::(p,wrO q n c)::(row++L)):=H1;refine zg [0,1,2] kr kr<|rp [.v,.v] H2 kr fun gs2 w2 H3=>wX [2]<|zY (row:=[]) (L:=(p,wrO q n c)::(row++L)) [] (q:=none) (n:=0) (c:=0) (p:=b4) (M:=[]) (H3.as kr) (.inl ⟨rfl,rfl,rfl,rfl,rfl⟩) (some 7) 42 #[.slice qs ns cs,.func (.func 43) #[.pointer (some ⟨b4,0,none⟩)] #[]] (zgk b4 qs ns cs A hA ho hy) (Nat.zero_le _) hP kr kr ?_;rintro q2 n2 c2 row2 X T w3 ⟨rfl,rfl⟩ hR2 H4;refine zb ?_;have H5:St w0.heap.size w0 w3 ((b4,wrO q2 n2 c2)::(row2++(p,wrO q n c)::(row++L))):=H4;refine yo [0,1,2,3,4] kr<|rp [.v,.v,.l 0,.v] H5 kr fun gs3 w4 H6=>wX [4] ?_;have H7:St w0.heap.size w0 w4 ((b4,wrO q2 n2 c2)::(row2++(p,wrO q n c)::(row++L))):=H6.as kr;refine zY (row:=row) (L:=row2++L) [(b4,wrO q2 n2 c2)] (q:=q) (n:=n) (c:=c) (p:=p) (M:=M) (H7.perm (List.Perm.cons _ (kZ row2 row _ L))) hRE (some 12) 40 #[.pointer (some ⟨p,0,none⟩),yF ⟨(0,em),q2,n2,c2,lsF (A.map sgB)⟩] (vb p ⟨(0,em),q2,n2,c2,lsF (A.map sgB)⟩) hM trivial kr kr ?_;rintro q3 n3 c3 row3 X T w5 ⟨rfl,rfl⟩ hR3 H8;refine zb ?_;exact ⟨[],.nil,qz (T:=row2) [(b4,wrO q2 n2 c2)] ⟨q2,n2,c2,rfl,hR2⟩ hR3 H8⟩
end Go.Proofs.YtbpmjppmpgeejaaDoor
namespace Go.Proofs.YtbpmjppmpgeejaaDoor
open Go Go.RowKit
open D2 (Gh)
set_option linter.unusedVariables false
def zck (h:Hdr)(v:Value)(T:List (Nat×Obj)):Prop:=∃p n c,v=.slice p n c∧RIn fS T p n (hdF h)
theorem zgn (h:Hdr)(o:yf h)(hr:zU h=true)(p:Option Addr)(n c:Nat)(q:Option Addr)(m k:Nat):FnT Tryd.prog 21 #[hdV h p n c q m k] (fun w=>zJ w h p n q m) (zck h):=by
 refine FnT.intro (c:=zi Tryd.f21) [.tmp 2] 39 Tryd.func21 kr kr kr fun w hP=>?_;have hvl:=o.vl;have hsl:=o.sl;have hss:=(jr.1 hr).ss;have H0:=St.start w;refine zg [0,1] kr kr<|qu H0 (some 1) 26 (.tmp 0) (hdV h p n c q m k) kr kr kr ?_;intro bh w1 H1;refine rp [.v] H1 kr fun gs1 w2 H2=>wX []<|zb ?_;have H3:St w.heap.size w w2 [(bh,hdO h p n c q m k)]:=H2.as kr;refine zg [0] kr kr<|yh H3 (some 3) 58 (.agg #[.slice none 0 0]) kr kr kr ?_;intro bw w3 H4;refine zb ?_;have G0:St w.heap.size w w3 ([(bh,hdO h p n c q m k)]++(bw,wrO none 0 0)::([]++ [])):=H4.perm (List.Perm.swap _ _ _);have R0:RowE fS 39 none 0 0 [] ([]:List Fel):=.inl ⟨rfl,rfl,rfl,rfl,rfl⟩;refine zg [0,1,2] kr kr<|rp [.v,.l 0] G0 kr fun ga1 wa1 Ga1=>wX [2]<|zY (row:=[]) (L:=[]) [(bh,hdO h p n c q m k)] (q:=none) (n:=0) (c:=0) (p:=bw) (Ga1.as kr) R0 (some 6) 26 #[.pointer (some ⟨bw,0,none⟩),.string h.pa] (jc bw h.pa) (Nat.le_of_ble_eq_true kr) trivial kr kr ?_;rintro q1 n1 c1 row1 _ _ wb1 ⟨rfl,rfl⟩ R1 G1;refine zb<|wW<|zg [0,1,2] kr kr<|rp [.v,.l 0] G1 kr fun ga2 wa2 Ga2=>wX [2]<|zY (row:=row1) (L:=[]) [(bh,hdO h p n c q m k)] (q:=q1) (n:=n1) (c:=c1) (p:=bw) (Ga2.as kr) R1 (some 9) 27 #[.pointer (some ⟨bw,0,none⟩),.int .u64 ((h.hh:Nat):Int)] (vc bw h.hh) (Nat.le_of_ble_eq_true kr) trivial kr kr ?_;rintro q2 n2 c2 row2 _ _ wb2 ⟨rfl,rfl⟩ R2 G2;refine zb<|wW ?_;clear G1 Ga2 R1;refine zg [0,1,2] kr kr<|rp [.v,.l 0] G2 kr fun ga3 wa3 Ga3=>wX [2]<|zY (row:=row2) (L:=[]) [(bh,hdO h p n c q m k)] (q:=q2) (n:=n2) (c:=c2) (p:=bw) (Ga3.as kr) R2 (some 12) 26 #[.pointer (some ⟨bw,0,none⟩),.string h.ro] (jc bw h.ro) (Nat.le_of_ble_eq_true kr) trivial kr kr ?_;rintro q3 n3 c3 row3 _ _ wb3 ⟨rfl,rfl⟩ R3 G3;refine zb<|wW ?_;clear G2 Ga3 R2;refine zg [0,1,2] kr kr<|rp [.v,.l 0] G3 kr fun ga4 wa4 Ga4=>wX [2]<|zY (row:=row3) (L:=[]) [(bh,hdO h p n c q m k)] (q:=q3) (n:=n3) (c:=c3) (p:=bw) (Ga4.as kr) R3 (some 15) 26 #[.pointer (some ⟨bw,0,none⟩),.string h.tx] (jc bw h.tx) (Nat.le_of_ble_eq_true kr) trivial kr kr ?_;rintro q4 n4 c4 row4 _ _ wb4 ⟨rfl,rfl⟩ R4 G4;refine zb<|wW ?_;clear G3 Ga4 R3;refine zg [0,1,2] kr kr<|rp [.v,.l 0] G4 kr fun ga5 wa5 Ga5=>wX [2]<|zY (row:=row4) (L:=[]) [(bh,hdO h p n c q m k)] (q:=q4) (n:=n4) (c:=c4) (p:=bw) (Ga5.as kr) R4 (some 18) 26 #[.pointer (some ⟨bw,0,none⟩),.string h.pr] (jc bw h.pr) (Nat.le_of_ble_eq_true kr) trivial kr kr ?_;rintro q5 n5 c5 row5 _ _ wb5 ⟨rfl,rfl⟩ R5 G5;refine zb<|wW ?_;clear G4 Ga5 R4;refine zg [0,1,2] kr kr<|rp [.v,.l 0] G5 kr fun ga6 wa6 Ga6=>wX [2]<|zY (row:=row5) (L:=[]) [(bh,hdO h p n c q m k)] (q:=q5) (n:=n5) (c:=c5) (p:=bw) (Ga6.as kr) R5 (some 21) 26 #[.pointer (some ⟨bw,0,none⟩),.string h.va] (jc bw h.va) (Nat.le_of_ble_eq_true kr) trivial kr kr ?_;rintro q6 n6 c6 row6 _ _ wb6 ⟨rfl,rfl⟩ R6 G6;refine zb<|wW ?_;clear G5 Ga6 R5;refine zg [0,1,2] kr kr<|rp [.v,.l 0] G6 kr fun ga7 wa7 Ga7=>wX [2]<|zY (row:=row6) (L:=[]) [(bh,hdO h p n c q m k)] (q:=q6) (n:=n6) (c:=c6) (p:=bw) (Ga7.as kr) R6 (some 24) 28 #[.pointer (some ⟨bw,0,none⟩),.slice p n c] (zgl bw p n c h.vs (by omega)) (Nat.le_of_ble_eq_true kr) hP.1 kr kr ?_;rintro q7 n7 c7 row7 _ T1 wb7 ⟨qa1,na1,ca1,rfl,hT1⟩ R7 G7;refine zb<|wW ?_;clear G6 Ga7 R6;refine zg [0,1,2] kr kr<|rp [.v,.l 0] G7 kr fun ga8 wa8 Ga8=>wX [2]<|zY (row:=row7) (L:=T1++ []) [(bh,hdO h p n c q m k)] (q:=q7) (n:=n7) (c:=c7) (p:=bw) (Ga8.as kr) R7 (some 27) 26 #[.pointer (some ⟨bw,0,none⟩),.string h.vo] (jc bw h.vo) (Nat.le_of_ble_eq_true kr) trivial kr kr ?_;rintro q8 n8 c8 row8 _ _ wb8 ⟨rfl,rfl⟩ R8 G8;refine zb<|wW ?_;clear G7 Ga8 R7;refine zg [0,1,2] kr kr<|rp [.v,.l 0] G8 kr fun ga9 wa9 Ga9=>wX [2]<|zY (row:=row8) (L:=T1++ []) [(bh,hdO h p n c q m k)] (q:=q8) (n:=n8) (c:=c8) (p:=bw) (Ga9.as kr) R8 (some 30) 29 #[.pointer (some ⟨bw,0,none⟩),.bool h.ad] (zgh bw h.ad) (Nat.le_of_ble_eq_true kr) trivial kr kr ?_;rintro q9 n9 c9 row9 _ _ wb9 ⟨rfl,rfl⟩ R9 G9;refine zb<|wW ?_;clear G8 Ga9 R8;refine zg [0,1,2] kr kr<|rp [.v,.l 0] G9 kr fun ga10 wa10 Ga10=>wX [2]<|zY (row:=row9) (L:=T1++ []) [(bh,hdO h p n c q m k)] (q:=q9) (n:=n9) (c:=c9) (p:=bw) (Ga10.as kr) R9 (some 33) 27 #[.pointer (some ⟨bw,0,none⟩),.int .u64 ((h.rd:Nat):Int)] (vc bw h.rd) (Nat.le_of_ble_eq_true kr) trivial kr kr ?_;rintro q10 n10 c10 row10 _ _ wb10 ⟨rfl,rfl⟩ R10 G10;refine zb<|wW ?_;clear G9 Ga10 R9;refine zg [0,1,2] kr kr<|rp [.v,.l 0] G10 kr fun ga11 wa11 Ga11=>wX [2]<|zY (row:=row10) (L:=T1++ []) [(bh,hdO h p n c q m k)] (q:=q10) (n:=n10) (c:=c10) (p:=bw) (Ga11.as kr) R10 (some 36) 30 #[.pointer (some ⟨bw,0,none⟩),.slice q m k] (zgm bw q m k h.ss (by omega) o.ss hss) (Nat.le_of_ble_eq_true kr) hP.2 kr kr ?_;rintro q11 n11 c11 row11 _ T2 wb11 ⟨qa2,na2,ca2,rfl,hT2⟩ R11 G11;refine zb<|wW ?_;clear G10 Ga11 R10;have nL:=R11.len (by decide);have hve: ∀x∈h.vs,ByteArray.size x≤0x800000000000:=fun x hx=>by have:=o.vs x hx;omega
 have hse: ∀x∈h.ss.map sgB,ByteArray.size x≤0x800000000000:=fun x hx=>by obtain ⟨y,_,rfl⟩:=List.mem_map.1 hx;rw [uk];omega
 refine rS [.v,.l 1,.v] G11 kr fun gs9 w9 H9=>rRr [.tmp 2] [] (.slice q11 n11 c11) (qj w.heap.size w (zck h)) H9 kr ?_;have H10:St w.heap.size w w9 ((bh,hdO h p n c q m k)::(bw,wrO q11 n11 c11)::(row11++(T2++(T1++ [])))):=H9.as kr;refine ⟨row11++(T2++(T1++ [])),⟨q11,n11,c11,rfl,?_⟩,(H10.sub (List.sublist_cons_self ..)).sub (List.sublist_cons_self ..)⟩;have i1:=hT1.rIn (T:=[]) (by decide) (zci hve []) (by show na1≤0x800000000000;have:=hT1.len (by decide);rw [List.length_map] at this;omega);have i2:=hT2.rIn (T:=[]) (by decide) (zci hse []) (by show na2≤0x800000000000;have:=hT2.len (by decide);rw [List.length_map,List.length_map] at this;omega);rw [zch] at i1 i2;exact RowE.rIn (S:=fS) (L:=hdE h qa1 na1 ca1 qa2 na2 ca2) R11 (by decide) (zgg o (i1.mono fun e he=>by simp at he ⊢;exact .inr he) (i2.mono fun e he=>by simp at he ⊢;exact .inl he)) (by show n11≤0x800000000000;rw [nL];exact Nat.le_of_ble_eq_true kr)
end Go.Proofs.YtbpmjppmpgeejaaDoor
namespace Go.Proofs.YtbpmjppmpgeejaaDoor
open Go Go.RowKit
set_option linter.unusedVariables false
def szM (h:Hdr):Bool:=(decide (h.pa.size=32)&&(decide (h.ro.size=32)&&decide (h.tx.size=32)))&&(decide (h.pr.size=20)&&decide (h.va.size≤8))
theorem zgo (h:Hdr):zU h=(szM h&&(setM h.vs&&(voteB h.vo h.ad&&(decide (h.ss.length≤16)&&h.ss.all sgMay)))):=by
 unfold zU szM;cases decide (h.pa.size=32)<;>cases decide (h.ro.size=32)<;>cases decide (h.tx.size=32)<;>cases decide (h.pr.size=20)<;>cases decide (h.va.size≤8)<;>cases setM h.vs<;>cases voteB h.vo h.ad<;>cases decide (h.ss.length≤16)<;>rfl
theorem zgp (h:Hdr)(p:Option Addr)(n c:Nat)(q:Option Addr)(m k:Nat):Fn Tryd.prog 16 #[hdV h p n c q m k] (.bool (szM h)):=by
 refine Fn.intro (c:=zi Tryd.f16) [.tmp 2] 33 Tryd.func16 kr kr kr fun w=>rS [.b,.v] (St.start w) kr fun gs1 w1 H1=>?_;by_cases h_pa:h.pa.size=32
 case neg=>
  refine rS [.v,.l 0,.v,.E (.bool (((h.pa.size:Nat):Int)==32)) (.bool false) (za (beq_eq_false_iff_ne.2 (by omega))),.v,.n,.n,.n,.n,.v,.v,.n,.n,.n,.n,.v,.v] H1 kr fun gs2 w2 H2=>rS [.v,.v,.n,.n,.n,.n,.v,.v,.n,.n,.n,.n,.v,.v] H2 kr fun gs3 w3 H3=>?_;exact rRe [.tmp 2] [] (v:=.bool false) (v':=.bool (szM h)) H3 (za (by unfold szM;rw [decide_eq_false h_pa];first | rfl | simp)) kr
 by_cases h_ro:h.ro.size=32
 case neg=>
  refine rS [.v,.l 0,.v,.E (.bool (((h.pa.size:Nat):Int)==32)) (.bool true) (za (beq_iff_eq.2 (by omega))),.v,.v,.l 0,.v,.E (.bool (((h.ro.size:Nat):Int)==32)) (.bool false) (za (beq_eq_false_iff_ne.2 (by omega))),.v,.v,.n,.n,.n,.n,.v,.v] H1 kr fun gs2 w2 H2=>rS [.v,.v,.n,.n,.n,.n,.v,.v,.n,.n,.n,.n,.v,.v] H2 kr fun gs3 w3 H3=>?_;exact rRe [.tmp 2] [] (v:=.bool false) (v':=.bool (szM h)) H3 (za (by unfold szM;rw [decide_eq_false h_ro];first | rfl | simp)) kr
 by_cases h_tx:h.tx.size=32
 case neg=>
  refine rS [.v,.l 0,.v,.E (.bool (((h.pa.size:Nat):Int)==32)) (.bool true) (za (beq_iff_eq.2 (by omega))),.v,.v,.l 0,.v,.E (.bool (((h.ro.size:Nat):Int)==32)) (.bool true) (za (beq_iff_eq.2 (by omega))),.v,.v,.v,.l 0,.v,.E (.bool (((h.tx.size:Nat):Int)==32)) (.bool false) (za (beq_eq_false_iff_ne.2 (by omega))),.v,.v] H1 kr fun gs2 w2 H2=>rS [.v,.v,.n,.n,.n,.n,.v,.v,.n,.n,.n,.n,.v,.v] H2 kr fun gs3 w3 H3=>?_;exact rRe [.tmp 2] [] (v:=.bool false) (v':=.bool (szM h)) H3 (za (by unfold szM;rw [decide_eq_false h_tx];first | rfl | simp)) kr
 by_cases h_pr:h.pr.size=20
 case neg=>
  refine rS [.v,.l 0,.v,.E (.bool (((h.pa.size:Nat):Int)==32)) (.bool true) (za (beq_iff_eq.2 (by omega))),.v,.v,.l 0,.v,.E (.bool (((h.ro.size:Nat):Int)==32)) (.bool true) (za (beq_iff_eq.2 (by omega))),.v,.v,.v,.l 0,.v,.E (.bool (((h.tx.size:Nat):Int)==32)) (.bool true) (za (beq_iff_eq.2 (by omega))),.v,.v] H1 kr fun gs2 w2 H2=>rS [.v,.v,.v,.l 0,.v,.E (.bool (((h.pr.size:Nat):Int)==20)) (.bool false) (za (beq_eq_false_iff_ne.2 (by omega))),.v,.v,.n,.n,.n,.n,.v,.v] H2 kr fun gs3 w3 H3=>?_;exact rRe [.tmp 2] [] (v:=.bool false) (v':=.bool (szM h)) H3 (za (by unfold szM;rw [decide_eq_false h_pr];first | rfl | simp)) kr
 by_cases h_va:h.va.size≤8
 case neg=>
  refine rS [.v,.l 0,.v,.E (.bool (((h.pa.size:Nat):Int)==32)) (.bool true) (za (beq_iff_eq.2 (by omega))),.v,.v,.l 0,.v,.E (.bool (((h.ro.size:Nat):Int)==32)) (.bool true) (za (beq_iff_eq.2 (by omega))),.v,.v,.v,.l 0,.v,.E (.bool (((h.tx.size:Nat):Int)==32)) (.bool true) (za (beq_iff_eq.2 (by omega))),.v,.v] H1 kr fun gs2 w2 H2=>rS [.v,.v,.v,.l 0,.v,.E (.bool (((h.pr.size:Nat):Int)==20)) (.bool true) (za (beq_iff_eq.2 (by omega))),.v,.v,.v,.l 0,.v,.E (.bool (decide (((h.va.size:Nat):Int)≤8))) (.bool false) (za (decide_eq_false (by omega))),.v,.v] H2 kr fun gs3 w3 H3=>?_;exact rRe [.tmp 2] [] (v:=.bool false) (v':=.bool (szM h)) H3 (za (by unfold szM;rw [decide_eq_false h_va];first | rfl | simp)) kr
 refine rS [.v,.l 0,.v,.E (.bool (((h.pa.size:Nat):Int)==32)) (.bool true) (za (beq_iff_eq.2 (by omega))),.v,.v,.l 0,.v,.E (.bool (((h.ro.size:Nat):Int)==32)) (.bool true) (za (beq_iff_eq.2 (by omega))),.v,.v,.v,.l 0,.v,.E (.bool (((h.tx.size:Nat):Int)==32)) (.bool true) (za (beq_iff_eq.2 (by omega))),.v,.v] H1 kr fun gs2 w2 H2=>rS [.v,.v,.v,.l 0,.v,.E (.bool (((h.pr.size:Nat):Int)==20)) (.bool true) (za (beq_iff_eq.2 (by omega))),.v,.v,.v,.l 0,.v,.E (.bool (decide (((h.va.size:Nat):Int)≤8))) (.bool true) (za (decide_eq_true (by omega))),.v,.v] H2 kr fun gs3 w3 H3=>?_;exact rRe [.tmp 2] [] (v:=.bool true) (v':=.bool (szM h)) H3 (za (by unfold szM;rw [decide_eq_true h_pa,decide_eq_true h_ro,decide_eq_true h_tx,decide_eq_true h_pr,decide_eq_true h_va];first | rfl | simp)) kr
theorem zgq (p:Option Addr)(n c:Nat)(L:List ByteArray)(hL:L.length≤1000000):FnP Tryd.prog 17 #[.slice p n c] (fun w=>AtF sS w p n L) (.bool (setM L)):=by
 refine FnP.intro (c:=zi Tryd.f17) [.tmp 2] 37 Tryd.func17 kr kr kr fun w hP=>?_;have hn:=hP.1;have H0:=St.start w;refine rS [.v] H0 kr fun gs1 w1 H1=>zd kr ?_;by_cases h0:n=0
 ·refine rS [.v,.v,.E (.bool ((n:Int)==0)) (.bool true) (za (beq_iff_eq.2 (by omega))),.v,.n,.n,.n,.v] H1 kr fun gs2 w2 H2=>qq<|rS [.v] H2 kr fun gs3 w3 H3=>?_;exact rRe [.tmp 2] [] (v:=.bool false) (v':=.bool (setM L)) H3 (za (by unfold setM;rw [←hn,decide_eq_false (show ¬0<n by omega)];simp)) kr
 by_cases h16:n≤16
 case neg=>
  refine rS [.v,.v,.E (.bool ((n:Int)==0)) (.bool false) (za (beq_eq_false_iff_ne.2 (by omega))),.v,.v,.v,.E (.bool (decide ((n:Int)>16))) (.bool true) (za (decide_eq_true (by omega))),.v] H1 kr fun gs2 w2 H2=>qq<|rS [.v] H2 kr fun gs3 w3 H3=>?_;exact rRe [.tmp 2] [] (v:=.bool false) (v':=.bool (setM L)) H3 (za (by unfold setM;rw [←hn,decide_eq_false h16];simp)) kr
 refine rS [.v,.v,.E (.bool ((n:Int)==0)) (.bool false) (za (beq_eq_false_iff_ne.2 (by omega))),.v,.v,.v,.E (.bool (decide ((n:Int)>16))) (.bool false) (za (decide_eq_false (by omega))),.v] H1 kr fun gs2 w2 H2=>qJ<|wW<|zd kr<|rS [.v,.v,.v] H2 kr fun gs3 w3 H3=>xK 15 14 16 36 0 1 n (by omega) (fun i ρ ww=>jb none L=jb (jt L i) (L.drop i)∧St w.heap.size w ww []∧Is [(0,.slice p n c),(13,.slice p n c),(14,iN n),(15,iN i)] ρ) (by rintro i _ ww ⟨_,_,_,rfl⟩;exact ⟨kr,kr⟩) ⟨rfl,H3.as kr,isK⟩ ?_ ?_
 ·clear H0 H1 H2 H3;rintro i _ w4 hi ⟨hst,H5,_,rfl⟩;obtain ⟨x,hx⟩:∃x,L[i]? =some x:=⟨_,List.getElem?_eq_getElem (by omega)⟩
  obtain ⟨bl,off,C,T,fz,hp,hh,hR⟩:=hP.row2 (by omega);have hcx:C[off+i*1]? =some (.string x):=hR.cell hx 0 (by decide);rw [uo hx] at hst;change jb none L=(decide (x.size=20)&&(upB (jt L i) x&&jb (some x) (L.drop (i+1)))) at hst;refine rS [.v,.o (ins:=[((.tmp 13),.slice p n c),((.tmp 15),iN i)]) (v:=.pointer (some ⟨bl,off+i*1,none⟩)) (fun ρ o w ho hi2=>qT (kd:=.i64) (t:=23) (e:=9) (K:=1) (bytes:=16) kr (x:=(.tmp 13)) (y:=(.tmp 15)) bl off n c i hp ho hi2.1 hi2.2.1 (by omega) w),.fs (off:=off+i*1) (v:=.string x) hh (zE hh) hcx,.v,.v] H5 kr fun gs5 w6 H7=>?_;by_cases h1:x.size=20
  case neg=>
   refine rS [.v,.v,.E (.bool (!((x.size:Int)==20))) (.bool true) (za (by rw [beq_eq_false_iff_ne.2 (by omega)];rfl)),.v,.n,.n,.n,.n,.n,.n,.n,.n,.n,.n,.n,.v] H7 kr fun gs6 w7 H8=>qq<|rS [.v] H8 kr fun gs7 w8 H9=>?_;exact rRe [.tmp 2] [] (v:=.bool false) (v':=.bool (setM L)) H9 (za (by unfold setM;rw [hst,decide_eq_false h1];rfl)) kr
  rw [decide_eq_true h1] at hst;by_cases h0:i=0
  ·have hup:upB (jt L i) x=true:=by subst h0;rfl
   refine rS [.v,.v,.E (.bool (!((x.size:Int)==20))) (.bool false) (za (by rw [beq_iff_eq.2 (show (x.size:Int)=20 by omega)];rfl)),.v,.v,.E (.bool (decide ((i:Int)>0))) (.bool false) (za (decide_eq_false (by omega))),.v,.n,.n,.n,.n,.n,.n,.n,.v,.v] H7 kr fun gs6 w7 H8=>qJ ?_;exact ⟨kr,by rw [zca hx,hst,hup];rfl,H8.as kr,isK⟩
  ·obtain ⟨y,hy⟩:∃y,L[i-1]? =some y:=⟨_,List.getElem?_eq_getElem (by omega)⟩
   have hcell:C[off+(i-1)*1]? =some (.string y):=hR.cell hy 0 (by decide);have hpv:upB (jt L i) x=lexB (tl y) (tl x):=by unfold jt;rw [if_neg h0,hy];rfl
   rw [hpv] at hst;cases hup:lexB (tl y) (tl x) with
   | false=>
    refine rS [.v,.v,.E (.bool (!((x.size:Int)==20))) (.bool false) (za (by rw [beq_iff_eq.2 (show (x.size:Int)=20 by omega)];rfl)),.v,.v,.E (.bool (decide ((i:Int)>0))) (.bool true) (za (decide_eq_true (by omega))),.v,.v,.v,.E (.int .i64 (IntKind.i64.wrap ((i:Int)-1))) (iN (i-1)) (zp (vx (a:=i) (b:=1) (by omega))),.o (ins:=[((.tmp 27),.slice p n c),((.tmp 29),iN (i-1))]) (v:=.pointer (some ⟨bl,off+(i-1)*1,none⟩)) (fun ρ o w ho hi2=>qT (kd:=.i64) (t:=23) (e:=9) (K:=1) (bytes:=16) kr (x:=(.tmp 27)) (y:=(.tmp 29)) bl off n c (i-1) hp ho hi2.1 hi2.2.1 (by omega) w),.fs (off:=off+(i-1)*1) (v:=.string y) hh (zE hh) hcell,.v,.E (.bool (!(Op.bytesLess y.toList x.toList))) (.bool true) (za (by rw [zb0,hup];rfl)),.v,.v] H7 kr fun gs6 w7 H8=>qq<|rS [.v] H8 kr fun gs7 w8 H9=>?_;exact rRe [.tmp 2] [] (v:=.bool false) (v':=.bool (setM L)) H9 (za (by unfold setM;rw [hst,hup];rfl)) kr
   | true=>
    refine rS [.v,.v,.E (.bool (!((x.size:Int)==20))) (.bool false) (za (by rw [beq_iff_eq.2 (show (x.size:Int)=20 by omega)];rfl)),.v,.v,.E (.bool (decide ((i:Int)>0))) (.bool true) (za (decide_eq_true (by omega))),.v,.v,.v,.E (.int .i64 (IntKind.i64.wrap ((i:Int)-1))) (iN (i-1)) (zp (vx (a:=i) (b:=1) (by omega))),.o (ins:=[((.tmp 27),.slice p n c),((.tmp 29),iN (i-1))]) (v:=.pointer (some ⟨bl,off+(i-1)*1,none⟩)) (fun ρ o w ho hi2=>qT (kd:=.i64) (t:=23) (e:=9) (K:=1) (bytes:=16) kr (x:=(.tmp 27)) (y:=(.tmp 29)) bl off n c (i-1) hp ho hi2.1 hi2.2.1 (by omega) w),.fs (off:=off+(i-1)*1) (v:=.string y) hh (zE hh) hcell,.v,.E (.bool (!(Op.bytesLess y.toList x.toList))) (.bool false) (za (by rw [zb0,hup];rfl)),.v,.v] H7 kr fun gs6 w7 H8=>qJ ?_;exact ⟨kr,by rw [zca hx,hst,hup];rfl,H8.as kr,isK⟩
 ·rintro _ w4 ⟨hst,H5,_,rfl⟩;rw [List.drop_of_length_le (by omega)] at hst;refine wW<|rS [.v] H5 kr fun gs6 w7 H8=>?_;exact rRe [.tmp 2] [] (v:=.bool true) (v':=.bool (setM L)) H8 (za (by unfold setM;rw [hst,←hn,decide_eq_true (show 0<n by omega),decide_eq_true h16];rfl)) kr
theorem zgr (h:Hdr)(p:Option Addr)(n c:Nat)(q:Option Addr)(m k:Nat):Fn Tryd.prog 18 #[hdV h p n c q m k] (.bool (voteB h.vo h.ad)):=by
 refine Fn.intro (c:=zi Tryd.f18) [.tmp 2] 17 Tryd.func18 kr kr kr fun w=>rS [.b,.v] (St.start w) kr fun gs1 w1 H1=>?_;by_cases h1:h.vo.size=20
 ·refine rS [.v,.l 0,.v,.E (.bool (((h.vo.size:Nat):Int)==20)) (.bool true) (za (beq_iff_eq.2 (by omega))),.v,.n,.n,.n,.n,.n,.n,.n,.n,.v,.v] H1 kr fun gs2 w2 H2=>?_;exact rRe [.tmp 2] [] (v:=.bool true) (v':=.bool (voteB h.vo h.ad)) H2 (za (by unfold voteB;rw [if_neg (by omega),decide_eq_true h1])) kr
 by_cases h0:h.vo=em
 ·refine rS [.v,.l 0,.v,.E (.bool (((h.vo.size:Nat):Int)==20)) (.bool false) (za (beq_eq_false_iff_ne.2 (by omega))),.v,.v,.l 0,.E (.bool (h.vo.toList==em.toList)) (.bool true) (za (vC _ _ h0)),.v,.v,.l 0,.v,.v,.v,.v] H1 kr fun gs2 w2 H2=>?_;exact rRe [.tmp 2] [] (v:=.bool (!h.ad)) (v':=.bool (voteB h.vo h.ad)) H2 (za (by unfold voteB;rw [if_pos (by rw [h0];rfl)])) kr
 ·have h00:h.vo.size≠0:=fun e=>h0 (jN e);refine rS [.v,.l 0,.v,.E (.bool (((h.vo.size:Nat):Int)==20)) (.bool false) (za (beq_eq_false_iff_ne.2 (by omega))),.v,.v,.l 0,.E (.bool (h.vo.toList==em.toList)) (.bool false) (za (kq _ _ h0)),.v,.n,.n,.n,.v,.v,.v] H1 kr fun gs2 w2 H2=>?_;exact rRe [.tmp 2] [] (v:=.bool false) (v':=.bool (voteB h.vo h.ad)) H2 (za (by unfold voteB;rw [if_neg h00,decide_eq_false h1])) kr
theorem zgs (p:Option Addr)(n c:Nat)(L:List Sg)(hL:L.length≤1000)(ho: ∀x∈L,sgOk x):FnP Tryd.prog 19 #[.slice p n c] (fun w=>AtF sgF w p n L) (.bool (decide (L.length≤16)&&L.all sgMay)):=by
 refine FnP.intro (c:=zi Tryd.f19) [.tmp 2] 24 Tryd.func19 kr kr kr fun w hP=>?_;have hn:=hP.1;rw [←hn];have H0:=St.start w;refine rS [.v] H0 kr fun gs1 w1 H1=>zd kr ?_;by_cases h16:n≤16
 case neg=>
  refine rS [.v,.v,.E (.bool (decide ((n:Int)>16))) (.bool true) (za (decide_eq_true (by omega)))] H1 kr fun gs2 w2 H2=>qq<|rS [.v] H2 kr fun gs3 w3 H3=>?_;exact rRe [.tmp 2] [] (v:=.bool false) (v':=.bool (decide (n≤16)&&L.all sgMay)) H3 (za (by rw [decide_eq_false h16];rfl)) kr
 refine rS [.v,.v,.E (.bool (decide ((n:Int)>16))) (.bool false) (za (decide_eq_false (by omega)))] H1 kr fun gs2 w2 H2=>qJ<|wW ?_;rw [decide_eq_true h16,Bool.true_and];refine zd kr<|rS [.v,.v,.v] H2 kr fun gs3 w3 H3=>xK 12 11 13 23 0 1 n (by omega) (fun i ρ ww=>(L.take i).all sgMay=true∧St w.heap.size w ww []∧Is [(10,.slice p n c),(11,iN n),(12,iN i)] ρ) (by rintro i _ ww ⟨_,_,_,rfl⟩;exact ⟨kr,kr⟩) ⟨rfl,H3.as kr,isK⟩ ?_ ?_
 ·clear H0 H1 H2 H3;rintro i _ w7 hi ⟨hst,H7,_,rfl⟩;obtain ⟨x,hx⟩:∃x,L[i]? =some x:=⟨_,List.getElem?_eq_getElem (by omega)⟩
  obtain ⟨bl,off,C,T,fz,hp,hh,hR⟩:=hP.row2 (by omega);have hxm:=List.mem_of_getElem? hx;have hxo:=ho x hxm;refine rS [.o (ins:=[((.tmp 10),.slice p n c),((.tmp 12),iN i)]) (v:=.pointer (some ⟨bl,off+i*9,none⟩)) (fun ρ o w ho hi2=>qT (kd:=.i64) (t:=24) (e:=47) (K:=9) (bytes:=72) kr (x:=(.tmp 10)) (y:=(.tmp 12)) bl off n c i hp ho hi2.1 hi2.2.1 (by omega) w),.fp (off:=off+i*9) (n:=9) (W:=sgC x) hh (zE hh) (hR _ _ hx).1 (hR _ _ hx).2,.a,.s 0] H7 kr fun gs7 w8 H8=>?_;cases hmy:sgMay x with
  | false=>
   refine rS [.l 0,.c (zfS x.1 x.2.1 hxo.1 hxo.2 x.2.2 hmy),.v,.v,.v,.v,.v] H8 kr fun gs8 w9 H9=>rS [.v,.v] H9 kr fun gs9 w10 H10=>qq<|rS [.v] H10 kr fun gs10 w11 H11=>?_;exact rRe [.tmp 2] [] (v:=.bool false) (v':=.bool (L.all sgMay)) H11 (congrArg Value.bool (Bool.eq_false_iff.2 fun e=>by have:=List.all_eq_true.1 e x hxm;rw [hmy] at this;cases this).symm) kr
  | true=>
   refine rS [.l 0,.c (zbW x.1 x.2.1 hxo.1 hxo.2 x.2.2 hmy),.v,.v,.v,.v,.v] H8 kr fun gs8 w9 H9=>rS [.v,.v] H9 kr fun gs9 w10 H10=>qJ ?_;exact ⟨kr,by rw [kW hx,List.all_append,hst];simp [hmy],(H10.as (l:=[((gs7 2).b,sgO x)]) kr).sub (List.nil_sublist _),isK⟩
 ·rintro _ w7 ⟨hst,H7,_,rfl⟩;refine wW ?_;rw [List.take_of_length_le (by omega)] at hst;refine rS [.v] H7 kr fun gs7 w8 H8=>?_;exact rRe [.tmp 2] [] (v:=.bool true) (v':=.bool (L.all sgMay)) H8 (congrArg Value.bool hst.symm) kr
theorem xM (h:Hdr)(o:ju h)(p:Option Addr)(n c:Nat)(q:Option Addr)(m k:Nat):FnP Tryd.prog 9 #[hdV h p n c q m k] (fun w=>zJ w h p n q m) (.bool (zU h)):=by
 have hvl:=o.vl;have hsl:=o.sl;have hsz:=zgp h p n c q m k;have hst:=zgq p n c h.vs (by omega);have hvt:=zgr h p n c q m k;have hse:=zgs q m k h.ss hsl o.ss;rw [zgo h];refine FnP.intro (c:=zi Tryd.f9) [.tmp 2] 19 Tryd.func9 kr kr kr fun w hP=>rS [.b,.v] (St.start w) kr fun gs1 w1 H1=>?_;generalize szM h=b1 at*;generalize setM h.vs=b2 at*;generalize voteB h.vo h.ad=b3 at*;generalize (decide (h.ss.length≤16)&&h.ss.all sgMay)=b4 at*;cases b1 with
 | false=>
  refine rS [.l 0,.c hsz,.v,.n,.n,.n,.v,.v,.n,.n,.v,.v,.n,.n,.n,.v,.v] H1 kr fun gs2 w2 H2=>?_;exact rR [.tmp 2] [] (.bool false) H2 kr
 | true=>
  cases b2 with
  | false=>
   refine rS [.l 0,.c hsz,.v,.v,.l 0,.cp (pre:=fun w=>AtF sS w p n h.vs) hst [] (fun w hb hd=>hP.1.call hb),.v,.v,.n,.n,.v,.v,.n,.n,.n,.v,.v] H1 kr fun gs2 w2 H2=>?_;exact rR [.tmp 2] [] (.bool false) H2 kr
  | true=>
   cases b3 with
   | false=>
    refine rS [.l 0,.c hsz,.v,.v,.l 0,.cp (pre:=fun w=>AtF sS w p n h.vs) hst [] (fun w hb hd=>hP.1.call hb),.v,.v,.l 0,.c hvt,.v,.v,.n,.n,.n,.v,.v] H1 kr fun gs2 w2 H2=>?_;exact rR [.tmp 2] [] (.bool false) H2 kr
   | true=>
    refine rS [.l 0,.c hsz,.v,.v,.l 0,.cp (pre:=fun w=>AtF sS w p n h.vs) hst [] (fun w hb hd=>hP.1.call hb),.v,.v,.l 0,.c hvt,.v,.v,.v,.l 0,.cp (pre:=fun w=>AtF sgF w q m h.ss) hse [] (fun w hb hd=>hP.2.call hb),.v,.v] H1 kr fun gs2 w2 H2=>?_;exact rR [.tmp 2] [] (.bool b4) H2 kr
end Go.Proofs.YtbpmjppmpgeejaaDoor
namespace Go.Proofs.Kec
set_option maxRecDepth 100000
end Go.Proofs.Kec
namespace Go.Proofs.YtbpmjppmpgeejaaDoor.Ke
open Go Go.RowKit Go.Proofs.Kec
set_option linter.unusedVariables false
end Go.Proofs.YtbpmjppmpgeejaaDoor.Ke
namespace Go.Proofs.YtbpmjppmpgeejaaDoor
open Go Go.RowKit
open D2 (Gh)
set_option linter.unusedVariables false
theorem zgt {h:Hdr}(o:yf h){r:Nat}(hr:r<0x10000000000000000):yf (qK h r):=⟨o.hh,hr,o.pa,o.ro,o.tx,o.pr,o.va,o.vo,o.vs,o.vl,(fun _ h=>nomatch h),Nat.zero_le _⟩
theorem zgu {w:World}{h:Hdr}{p:Option Addr}{n:Nat}{q:Option Addr}{m:Nat}(a:zJ w h p n q m)(r:Nat):zJ w (qK h r) p n none 0:=⟨a.1,rfl,.inl rfl⟩
theorem zgv (h:Hdr):(qy h).size≤4000:=zbK _ _
def xN (s:ByteArray):ByteArray:=zf (Kec.sumB (tl s))
theorem zgw (s:ByteArray):(xN s).size=32:=by unfold xN;rw [qx];exact Kec.sumB_len _
def idH (h:Hdr):ByteArray:=xN (qy (qK h 0))
def qr (h:Hdr):ByteArray:=xN (qy (qK h h.rd))
abbrev qL:ByteArray:=⟨#[98,104,110]⟩
def tK:List ByteArray:=[⟨#[98]⟩,⟨#[104]⟩,⟨#[110]⟩]
theorem zgx:uc qL tK:=⟨by decide,by kernel_rfl,by kernel_rfl,by kernel_rfl,List.all_eq_true.1 (show tK.all kdOk=true by kernel_rfl)⟩
abbrev jT:ByteArray:=⟨#[116,117,114,110]⟩
def yV (id:ByteArray)(r:Nat):Fe:=.cons (0,jT) .nil (.cons (0,id) .nil (.cons (r,em) .nil .nil))
def qt (h:Hdr):ByteArray:=xN (wrV qL (yV (idH h) h.rd)).1
def uC (x1 x2 x3:Nat×ByteArray):Array Value:=#[.int .u64 ((x1.1:Nat):Int),.string x1.2,.slice none 0 0,.int .u64 ((x2.1:Nat):Int),.string x2.2,.slice none 0 0,.int .u64 ((x3.1:Nat):Int),.string x3.2,.slice none 0 0]
theorem zgy {w:World}{b:Nat}{T:TypeId}{fz:Nat×Nat}{x1 x2 x3:Nat×ByteArray}(hh:w.heap[b]? =some (.cells (uC x1 x2 x3) T fz))(h1:fS.ok x1)(h2:fS.ok x2)(h3:fS.ok x3):SlR fS w.heap.size w (some ⟨b,0,none⟩) 3 (.cons x1 .nil (.cons x2 .nil (.cons x3 .nil .nil))):=
 ⟨rfl,by decide,.inr ⟨b,0,rfl,⟨_,_,_,none,0,0,zE hh,hh,of_decide_eq_true kr,by kernel_rfl,h1,rfl,by decide,.inl rfl⟩,⟨_,_,_,none,0,0,zE hh,hh,of_decide_eq_true kr,by kernel_rfl,h2,rfl,by decide,.inl rfl⟩,⟨_,_,_,none,0,0,zE hh,hh,of_decide_eq_true kr,by kernel_rfl,h3,rfl,by decide,.inl rfl⟩,trivial⟩⟩
end Go.Proofs.YtbpmjppmpgeejaaDoor
namespace Go.Proofs.YtbpmjppmpgeejaaDoor
open Go Go.RowKit
open D2 (Gh)
set_option linter.unusedVariables false
abbrev jU:Value:=.tuple #[.string em,.int .i64 1]
theorem zgz {h:Hdr}{r:Nat}(hr:zU h=true):zU (qK h r)=true:=by
 have q:=jr.1 hr;exact jr.2 ⟨q.pa,q.ro,q.tx,q.pr,q.va,q.st,q.vo,Nat.zero_le _,rfl⟩
def tnI (id:ByteArray)(r:Nat):Fo:=.cons false jT .nil (.cons false id .nil (.cons false (zf (dg r)) .nil .nil))
theorem zgA (id:ByteArray)(r:Nat):yM (yV id r) 40 (kfL tK) 0=tnI id r:=by
 unfold yV tnI;rw [yN _ _ _ 0 (by decide),yN _ _ _ 1 (by decide),yN _ _ _ 2 (by decide)];rfl
theorem zgB {id:ByteArray}(hi:id.size=32)(r:Nat):(wrV qL (yV id r)).2=0:=by
 have s1:=fun x l=>jp 98 ⟨#[98]⟩ x l rfl (by decide);have s2:=fun x l=>jp 104 ⟨#[104]⟩ x l rfl (by decide);have s3:=fun x l=>jp 110 ⟨#[110]⟩ x l rfl (by decide);have ha:yr tK (yV id r)=true:=by
  unfold tK yV;simp only [yr,s1,s2,s3,um,ur,ul,hi];rfl
 have hc:(yV id r).cnt≤1000:=by simp only [yV,Fr.cnt];omega
 have d3:=qF r;have et:jT.size=4:=rfl;have ez:emB.size=0:=rfl;have hw:wtF (tnI id r)≤100:=by simp only [tnI,wtF,qx];omega
 have hci:(tnI id r).cnt≤3999:=by simp only [tnI,Fo.cnt];omega
 have hp:pureF (tnI id r)=true:=rfl;have hd:dpF (tnI id r)=0:=by simp only [tnI,dpF,dp1];rfl
 have h1:=jj (tnI id r);have h2:=kG true emB (szF (tnI id r));have hl:lf1 true emB (tnI id r).len (lfF (tnI id r)) 4000=some (3999-(tnI id r).cnt):=by
  unfold lf1;rw [if_neg (by simp [zO];rfl),jL,if_pos ⟨hp,hci⟩]
 rw [zbJ zgx,if_pos ⟨ha,hc⟩,zgA];unfold zW;rw [hl];simp only [];rw [if_neg (by rw [hd];decide),if_neg (by omega)]
theorem zgC {h:Hdr}(hr:zU h=true):qo (wrV jq (hdF h))=.tuple #[.string (qy h),.int .i64 0]:=by
 unfold qo qy;rw [zf0 hr];rfl
theorem zcl (h:Hdr)(o:yf h)(hr:zU h=true)(p:Option Addr)(n c:Nat)(q:Option Addr)(m k:Nat):FnP Tryd.prog 11 #[hdV h p n c q m k] (fun w=>zJ w h p n q m) (.tuple #[.string (qy h),.int .i64 0]):=by
 have hR:=xM h o.sm p n c q m k;rw [hr] at hR;refine FnP.intro (c:=zi Tryd.f11) [.tmp 2,.tmp 3] 12 Tryd.func11 kr kr kr fun w hP=>rS [.b,.v,.v] (St.start w) kr fun gs1 w1 H1=>zd kr<|rS [.l 0,.cp hR [] (fun w hb hd=>hP.call hb),.v] H1 kr fun gs2 w2 H2=>qJ<|wW<|zg [0,1,2,3,4,5,6] kr kr<|rp [.l 0] H2 kr fun gs3 w3 H3=>wX [1,2,3,4,5,6] ?_;have H4:St w.heap.size w w3 [((gs1 0).b,hdO h p n c q m k)]:=H3.as kr;refine jG H4 (some 8) 21 #[hdV h p n c q m k] (zgn h o hr p n c q m k) (hP.call H4.below) kr kr ?_;rintro _ T w4 ⟨pf,nf,cf,rfl,hin⟩ H5;refine qv H5 (some 9) 15 #[.string jq,.slice pf nf cf] _ _ (zbI jq pf nf cf (hdF h)) (hin.at H5 fun e he=>List.mem_append_left _ he) (fun w=>by kernel_rfl) kr ?_;intro w5 H6;refine rp [.v,.v,.v,.v] H6 kr fun gs4 w6 H7=>wX []<|zb<|wW ?_;exact rRe [.tmp 2,.tmp 3] [] (v:=qo (wrV jq (hdF h))) (v':=.tuple #[.string (qy h),.int .i64 0]) H7 (zgC hr) kr
theorem zcm (h:Hdr)(o:ju h)(hr:zU h=false)(p:Option Addr)(n c:Nat)(q:Option Addr)(m k:Nat):FnP Tryd.prog 7 #[hdV h p n c q m k] (fun w=>zJ w h p n q m) jU:=by
 have hR:=xM h o p n c q m k;rw [hr] at hR;refine FnP.intro (c:=zi Tryd.f7) [.tmp 2,.tmp 3] 18 Tryd.func7 kr kr kr fun w hP=>rS [.b,.v,.v] (St.start w) kr fun gs1 w1 H1=>zd kr<|rS [.l 0,.cp hR [] (fun w hb hd=>hP.call hb),.v] H1 kr fun gs2 w2 H2=>qq<|rS [.v,.v] H2 kr fun gs3 w3 H3=>?_;exact rR [.tmp 2,.tmp 3] [] jU H3 kr
theorem uD (h:Hdr)(o:yf h)(hr:zU h=true)(p:Option Addr)(n c:Nat)(q:Option Addr)(m k:Nat):FnP Tryd.prog 7 #[hdV h p n c q m k] (fun w=>zJ w h p n q m∧Ke.Marks w) (.tuple #[.string (qr h),.int .i64 0]):=by
 have hR:=xM h o.sm p n c q m k;rw [hr] at hR;have hz:=zgv (qK h h.rd);refine FnP.intro (c:=zi Tryd.f7) [.tmp 2,.tmp 3] 18 Tryd.func7 kr kr kr fun w hP=>rS [.b,.v,.v] (St.start w) kr fun gs1 w1 H1=>zd kr<|rS [.l 0,.cp hR [] (fun w hb hd=>hP.1.call hb),.v] H1 kr fun gs2 w2 H2=>qJ<|wW<|rS [.v,.s 0] H2 kr fun gs3 w3 H3=>?_;have H4:St w.heap.size w w3 [((gs1 0).b,hdO (qK h h.rd) p n c none 0 0)]:=H3.as kr;refine rS [.l 0,.cp (zcl (qK h h.rd) (zgt o o.rd) (zgz hr) p n c none 0 0) [] (fun w hb hd=>(zgu hP.1 h.rd).call hb),.v,.v,.v,.v,.v] H4 kr fun gs4 w4 H5=>rS [.v,.cp (zcj (qy (qK h h.rd)) (by omega)) [] (fun w hb hd=>qf hP.2 hb),.v,.v,.v] H5 kr fun gs5 w5 H6=>?_;exact rR [.tmp 2,.tmp 3] [] (.tuple #[.string (qr h),.int .i64 0]) H6 kr
def jd (h:Hdr):Hdr:= { h with rd:=0 }
theorem zero_ok {h:Hdr}(o:yf h):yf (jd h):=⟨o.hh,(by decide:0<0x10000000000000000),o.pa,o.ro,o.tx,o.pr,o.va,o.vo,o.vs,o.vl,o.ss,o.sl⟩
theorem zgD {h:Hdr}(o:ju h):ju (jd h):=⟨o.vo,o.vl,o.ss,o.sl⟩
theorem zcn (h:Hdr)(o:ju h)(hr:zU h=false)(p:Option Addr)(n c:Nat)(q:Option Addr)(m k:Nat):FnP Tryd.prog 6 #[hdV h p n c q m k] (fun w=>zJ w h p n q m) jU:=by
 refine FnP.intro (c:=zi Tryd.f6) [.tmp 2,.tmp 3] 9 Tryd.func6 kr kr kr fun w hP=>rS [.b,.v,.v] (St.start w) kr fun gs1 w1 H1=>rS [.v,.s 0] H1 kr fun gs2 w2 H2=>?_;have H3:St w.heap.size w w2 [((gs1 0).b,hdO (jd h) p n c q m k)]:=H2.as kr;refine rS [.l 0,.cp (zcm (jd h) (zgD o) hr p n c q m k) [] (fun w hb hd=>(show zJ _ (jd h) p n q m from hP).call hb),.v,.v,.v,.v] H3 kr fun gs3 w3 H4=>?_;exact rR [.tmp 2,.tmp 3] [] jU H4 kr
theorem vd (h:Hdr)(o:yf h)(hr:zU h=true)(p:Option Addr)(n c:Nat)(q:Option Addr)(m k:Nat):FnP Tryd.prog 6 #[hdV h p n c q m k] (fun w=>zJ w h p n q m∧Ke.Marks w) (.tuple #[.string (idH h),.int .i64 0]):=by
 refine FnP.intro (c:=zi Tryd.f6) [.tmp 2,.tmp 3] 9 Tryd.func6 kr kr kr fun w hP=>rS [.b,.v,.v] (St.start w) kr fun gs1 w1 H1=>rS [.v,.s 0] H1 kr fun gs2 w2 H2=>?_;have H3:St w.heap.size w w2 [((gs1 0).b,hdO (jd h) p n c q m k)]:=H2.as kr;refine rS [.l 0,.cp (uD (jd h) (zero_ok o) hr p n c q m k) [] (fun w hb hd=>⟨(show zJ _ (jd h) p n q m from hP.1).call hb,qf hP.2 hb⟩),.v,.v,.v,.v] H3 kr fun gs3 w3 H4=>?_;exact rR [.tmp 2,.tmp 3] [] (.tuple #[.string (idH h),.int .i64 0]) H4 kr
theorem zgE (h:Hdr)(o:ju h)(hr:zU h=false)(p:Option Addr)(n c:Nat)(q:Option Addr)(m k:Nat):FnP Tryd.prog 8 #[hdV h p n c q m k] (fun w=>zJ w h p n q m) jU:=by
 refine FnP.intro (c:=zi Tryd.f8) [.tmp 2,.tmp 3] 29 Tryd.func8 kr kr kr fun w hP=>rS [.b,.v,.v] (St.start w) kr fun gs1 w1 H1=>rS [.l 0,.cp (zcn h o hr p n c q m k) [] (fun w hb hd=>hP.call hb),.v,.v,.v,.v,.v] H1 kr fun gs2 w2 H2=>zd kr<|rS [.v,.v] H2 kr fun gs3 w3 H3=>qq<|rS [.v,.v,.v] H3 kr fun gs4 w4 H4=>?_;exact rR [.tmp 2,.tmp 3] [] jU H4 kr
theorem zco (h:Hdr)(o:yf h)(hr:zU h=true)(p:Option Addr)(n c:Nat)(q:Option Addr)(m k:Nat):FnP Tryd.prog 8 #[hdV h p n c q m k] (fun w=>zJ w h p n q m∧Ke.Marks w) (.tuple #[.string (qt h),.int .i64 0]):=by
 have hz:(wrV qL (yV (idH h) h.rd)).1.size≤4000:=zbK _ _;have hi:(idH h).size=32:=zgw _;have hw0:qo (wrV qL (yV (idH h) h.rd))=.tuple #[.string (wrV qL (yV (idH h) h.rd)).1,.int .i64 0]:=by
  unfold qo;rw [zgB hi];rfl
 have hwr:=fun pf nf cf=>zbI qL pf nf cf (yV (idH h) h.rd);rw [hw0] at hwr;have ord:=o.rd;refine FnP.intro (c:=zi Tryd.f8) [.tmp 2,.tmp 3] 29 Tryd.func8 kr kr kr fun w hP=>rS [.b,.v,.v] (St.start w) kr fun gs1 w1 H1=>rS [.l 0,.cp (vd h o hr p n c q m k) [] (fun w hb hd=>⟨hP.1.call hb,qf hP.2 hb⟩),.v,.v,.v,.v,.v] H1 kr fun gs2 w2 H2=>zd kr<|rS [.v,.v] H2 kr fun gs3 w3 H3=>qJ<|wW<|zg [0,1,2,3,4,5,6,7,8,9,10,11,12] kr kr<|rp [.v,.v,.v,.v,.l 0,.v,.nw (fun b=>.slice (some ⟨b,0,none⟩) 3 3) (uC (0,jT) (0,idH h) (h.rd,em)) 39] H3 kr fun gs4 w4 H4=>wX [7,8,9,10,11,12] ?_;have H5:St w.heap.size w w4 [((gs1 0).b,hdO h p n c q m k),((gs4 6).b,.cells (uC (0,jT) (0,idH h) (h.rd,em)) 39 (0,0))]:=H4.as kr;refine qv H5 (some 23) 15 #[.string qL,.slice (some ⟨(gs4 6).b,0,none⟩) 3 3] _ _ (hwr (some ⟨(gs4 6).b,0,none⟩) 3 3) (zgy (T:=39) (fz:=(0,0)) (H5.get 1 kr) ⟨(by decide:0<0x10000000000000000),by show jT.size≤_;decide⟩ ⟨(by decide:0<0x10000000000000000),by show (idH h).size≤_;omega⟩ ⟨ord,Nat.zero_le _⟩) (fun w=>by kernel_rfl) kr ?_;intro w5 H6;refine rp [.v,.v,.v,.v,.v] H6 kr fun gs5 w6 H7=>wX []<|zb<|wW<|rS [.v,.cp (zcj (wrV qL (yV (idH h) h.rd)).1 (by omega)) [] (fun w hb hd=>qf hP.2 hb),.v,.v,.v] H7 kr fun gs6 w7 H8=>?_;exact rR [.tmp 2,.tmp 3] [] (.tuple #[.string (qt h),.int .i64 0]) H8 kr
end Go.Proofs.YtbpmjppmpgeejaaDoor
namespace Go.Proofs.YtbpmjppmpgeejaaDoor
open Go Go.RowKit
open D2 (Gh)
set_option linter.unusedVariables false
def z32:ByteArray:=zf (List.replicate 32 0)
def z20:ByteArray:=z32.extract 0 20
theorem xO:z32.size=32:=by decide
theorem zcp:z20.size=20:=by decide
def qg:Hdr:=⟨z32,0,z32,z32,z20,em,[z20],em,false,0,[]⟩
theorem zcq:zU qg=true:=jr.2 ⟨xO,xO,xO,zcp,Nat.zero_le _,by decide,rfl,by decide,rfl⟩
theorem zcr:yf qg:=by
 have h1:=xO;have h2:=zcp;exact ⟨by decide,by decide,by show z32.size≤_;omega,by show z32.size≤_;omega,by show z32.size≤_;omega,by show z20.size≤_;omega,Nat.zero_le _,Nat.zero_le _,(fun x hx=>by rw [List.mem_singleton.1 hx];omega),by decide,(fun _ h=>nomatch h),by decide⟩
def zcs (v:Value)(T:List (Nat×Obj)):Prop:=∃b,v=hdV qg (some ⟨b,0,none⟩) 1 1 none 0 0∧T=[(b,.cells #[.string z20] 9 (0,0))]
theorem zct {w w0:World}{B b:Nat}{l:List (Nat×Obj)}(H:St B w0 w l)(hm:(b,Obj.cells #[.string z20] 9 (0,0))∈l):zJ w qg (some ⟨b,0,none⟩) 1 none 0:=
 ⟨⟨rfl,.inr ⟨b,0,_,_,_,rfl,(H.own _ hm).2,Rw.rowAt (S:=sS) (cap:=1) (n:=1) ⟨rfl,Nat.le_refl _,by decide,rfl,rfl⟩⟩⟩,rfl,.inl rfl⟩
theorem zcu:FnT Tryd.prog 20 #[] (fun _=>True) zcs:=by
 refine FnT.intro (c:=zi Tryd.f20) [.cell 0 26] 13 Tryd.func20 kr kr kr fun w _=>rS [.a] (St.start w) kr fun gs1 w1 H1=>zg [0,1,2] kr kr<|zc8 H1 (some 2) 56 5 1 (.int .u8 0) (.const (.int .i64 32)) (.const (.int .i64 32)) .i64 .i64 32 kr kr kr kr rfl kr kr (by decide) (by decide) ?_;intro b cur w2 H2 hr;rw [←zdi] at hr;refine zay H2 (some 3) 56 9 5 (.tmp 2) 0 b 32 32 cur 5 (0,0) (List.replicate 32 0) kr kr kr kr kr kr kr hr ?_;have H3:=H2.sub (List.sublist_cons_self ..);refine rp [.v] H3 kr fun gs2 w3 H4=>wX []<|zb<|wW<|xn [(0,.pointer (some ⟨(gs1 0).b,0,none⟩)),(1,.string z32)] kr fun ρ1=>?_;have hz:=xO;refine dSg (fun gs=>[.v,.v,.v,.v,.o (ins:=[((.tmp 7),.string z32),((.const (.int .i64 20)),iN 20)]) (v:=.string z20) (fun ρ o w ho hi=>vB (t:=9) (kd:=.i64) kr (x:=(.tmp 7)) (y:=(.const (.int .i64 20))) z32 20 ho hi.1 hi.2.1 (by omega) w),.v,.o (ins:=[((.tmp 9),.string z32),((.const (.int .i64 20)),iN 20)]) (v:=.string z20) (fun ρ o w ho hi=>vB (t:=9) (kd:=.i64) kr (x:=(.tmp 9)) (y:=(.const (.int .i64 20))) z32 20 ho hi.1 hi.2.1 (by omega) w),.nw (fun b=>.slice (some ⟨b,0,none⟩) 1 1) #[.string z20] 9,.v,.s 0]) H4 kr fun gs3 w4 H5=>rRr [.cell 0 26] [0] (hdV qg (some ⟨(gs3 7).b,0,none⟩) 1 1 none 0 0) (qj w.heap.size w zcs) H5 kr ?_;exact ⟨_,⟨(gs3 7).b,rfl,rfl⟩,(H5.as (l:=[((gs1 0).b,hdO qg (some ⟨(gs3 7).b,0,none⟩) 1 1 none 0 0),((gs3 7).b,.cells #[.string z20] 9 (0,0))]) kr).sub (List.sublist_cons_self ..)⟩
end Go.Proofs.YtbpmjppmpgeejaaDoor
namespace Go.Proofs.YtbpmjppmpgeejaaDoor
open Go Go.RowKit
open D2 (Gh)
set_option linter.unusedVariables false
theorem zcv {α:Type}{S:Fl α}{w:World}{b m k:Nat}{cur:Array Value}{T:TypeId}{M:List α}(h:Rw S.K cur k m (cellsF S M))(hh:w.heap[b]? =some (.cells cur T (0,0))):AtF S w (some ⟨b,0,none⟩) m M:=⟨h.lenF.symm,.inr ⟨b,0,cur,T,(0,0),rfl,hh,h.rowAt⟩⟩
theorem zgF:100<(qy qg).size:=by decide+kernel
theorem uE:Fn Tryd.prog 10 #[] (.bool true):=by
 have hz:=zgF;refine Fn.intro (c:=zi Tryd.f10) [.tmp 0] 19 Tryd.func10 kr kr kr fun w=>rS [.v] (St.start w) kr fun gs1 w1 H1=>?_;have H2:St w.heap.size w w1 []:=H1.as kr;refine zg [0,1,2,3,4,5,6] kr kr<|jG H2 (some 4) 20 #[] zcu trivial kr kr ?_;rintro _ _ w2 ⟨b,rfl,rfl⟩ H3;refine qv H3 (some 5) 11 #[hdV qg (some ⟨b,0,none⟩) 1 1 none 0 0] _ _ (zcl qg zcr zcq (some ⟨b,0,none⟩) 1 1 none 0 0) (zct H3 (List.mem_cons_self ..)) (fun w=>by kernel_rfl) kr ?_;intro w3 H4;refine rp [.v,.v,.v,.v,.v] H4 kr fun gs2 w4 H5=>wX []<|zb<|wW<|zg [0,1,2,3,4,5,6,7,8,9,10,11] kr kr<|rp [.v,.v,.v,.v,.v,.E (.bool (decide ((((qy qg).size:Nat):Int)>100))) (.bool true) (za (decide_eq_true (by omega))),.v,.v] H5 kr fun gs3 w5 H6=>wX [8,9,10,11]<|jG H6 (some 16) 20 #[] zcu trivial kr kr ?_;rintro _ _ w6 ⟨b,rfl,rfl⟩ H7;have hR:=xM qg zcr.sm (some ⟨b,0,none⟩) 1 1 none 0 0;rw [zcq] at hR;refine qv H7 (some 17) 9 #[hdV qg (some ⟨b,0,none⟩) 1 1 none 0 0] _ _ hR (zct H7 (List.mem_cons_self ..)) (fun w=>by kernel_rfl) kr ?_;intro w7 H8;refine rp [.v,.v] H8 kr fun gs4 w8 H9=>wX []<|zb ?_;exact rR [.tmp 0] [] (.bool true) H9 kr
end Go.Proofs.YtbpmjppmpgeejaaDoor
namespace Go.Proofs.YtbpmjppmpgeejaaDoor
open Go Go.RowKit
set_option linter.unusedVariables false
theorem zgG {α:Type}{S:Fl α}{P:Program}{ρ:Env}{w w0:World}{B:Nat}{l:List (Nat×Obj)}(HS:St B w0 w l){t e bytes:Nat}{s x:Operand}{o:Oper}{j b n cap m c:Nat}{p:Option Addr}{cur:Array Value}{xs:List Value}{M:List α}(ht:yi P t=some (e,S.K,bytes))(ho:o.op=yI t s x)
 (hs:ev ρ s=.slice (some ⟨b,0,none⟩) n cap) (hj:l[j]? =some (b,.cells cur e (0,0))) (hr:Rw S.K cur cap n xs) (hx:ev ρ x=.slice p m c) (hA:AtF S w p m M) (hp:yC p m c)
 (hb:(n+m)*bytes≤0x800000000000) (hm:n+m≤maxLen):∃b' cap' cur' w',(execOp (ev ρ) o).run P w=.ok (.value (.slice (some ⟨b',0,none⟩) (n+m) cap')) w'∧St B w0 w' (l.set j (b',.cells cur' e (0,0)))∧Rw S.K cur' cap' (n+m) (xs++cellsF S M):=by
 rcases hp with ⟨rfl,rfl,rfl⟩|⟨⟨a,rfl⟩,_⟩
 ·obtain ⟨it,z,hu,hi,hz,hsz,hby,hzs,hz0⟩:=yP ht;obtain rfl:M=[]:=List.length_eq_zero_iff.1 hA.1.symm;have hrun:=run_append_nothing (P:=P) w t t o.type e it hu hi (some ⟨b,0,none⟩) n cap hr.le (.slice none 0 0) ⟨.inl ⟨e,hu⟩,fun w'=>by simp [Builtin.lenOf],by simp [Builtin.firstCells],by simp [Builtin.firstCells],by simp,(fun _ h=>by cases h)⟩;refine ⟨b,cap,cur,w,?_,?_,?_⟩
  ·unfold execOp;simp only [ho,yI,resolve,invoke,builtin,Sem.run_bind,Sem.run_pure,Result.andThen_ok,List.map_toArray,List.map_cons,List.map_nil,hs,hx,hrun,Nat.add_zero]
  ·obtain ⟨hlt,he⟩:=List.getElem?_eq_some_iff.1 hj;rw [←he,List.set_getElem_self];exact HS
  ·simpa [cellsF] using hr
 ·refine zdq (S:=S) HS ht ho hs hj hr hx hA.1 ?_ hb hm;rcases hA.2 with h | ⟨bx,off,C,T,fz,e1,h2,h3⟩
  ·exact .inl h
  ·exact .inr ⟨bx,off,C,T,fz,Option.some.inj e1,h2,h3⟩
theorem zgH {α:Type}{M:List α}{i:Nat}{x:α}(h:M[i]? =some x):M=M.take i++x::M.drop (i+1)∧(M.take i).length=i:=by
 obtain ⟨hi,rfl⟩:=List.getElem?_eq_some_iff.1 h;exact ⟨by rw [List.getElem_cons_drop,List.take_append_drop],by rw [List.length_take];omega⟩
theorem Rw.setF {α:Type}{S:Fl α}{cur:Array Value}{cap n i:Nat}{M:List α}{x y:α}(h:Rw S.K cur cap n (cellsF S M))(hM:M[i]? =some x)(j:Nat)(v:Value)(hj:j+v.cells.size≤S.K)(hx:(S.cs x).take j++v.cells.toList++(S.cs x).drop (j+v.cells.size)=S.cs y):
 0+i*S.K+j+v.cells.size≤cur.size∧Rw S.K (Go.Proofs.YtbpmjppmpgeejaaDoor.putA cur (0+i*S.K+j) v) cap n (cellsF S (M.set i y)):=by
 have hl:M.length=n:=h.lenF;have hi:=(List.getElem?_eq_some_iff.1 hM).1;obtain ⟨e1,e2⟩:=zgH hM;have hlt:(i+1)*S.K≤n*S.K:=Nat.mul_le_mul_right _ (by omega);rw [Nat.succ_mul] at hlt;have hp:=h.putA (0+i*S.K+j) v (by omega);refine ⟨hp.1,?_⟩;have hc:(cellsF S (M.take i)).length=i*S.K:=by rw [jH,e2]
 have hxl:=S.len x;have eM:cellsF S M=cellsF S (M.take i)++(S.cs x++cellsF S (M.drop (i+1))):=by
  conv=>lhs;rw [e1]
  rw [vF];rfl
 have eS:cellsF S (M.set i y)=cellsF S (M.take i)++(S.cs y++cellsF S (M.drop (i+1))):=by
  rw [List.set_eq_take_append_cons_drop,if_pos hi,vF];rfl
 have q:=hp.2;rw [eM] at q;rw [eS,←hx];have t1:(cellsF S (M.take i)++(S.cs x++cellsF S (M.drop (i+1)))).take (0+i*S.K+j)=cellsF S (M.take i)++(S.cs x).take j:=by
  rw [List.take_append,hc,show 0+i*S.K+j-i*S.K=j by omega,List.take_of_length_le (by rw [hc];omega),List.take_append_of_le_length (by omega)]
 have t2:(cellsF S (M.take i)++(S.cs x++cellsF S (M.drop (i+1)))).drop (0+i*S.K+j+v.cells.size)=(S.cs x).drop (j+v.cells.size)++cellsF S (M.drop (i+1)):=by
  rw [List.drop_append,hc,show 0+i*S.K+j+v.cells.size-i*S.K=j+v.cells.size by omega,List.drop_of_length_le (by rw [hc];omega),List.nil_append,List.drop_append_of_le_length (by omega)]
 rw [t1,t2] at q;rw [show cellsF S (M.take i)++((S.cs x).take j++v.cells.toList++(S.cs x).drop (j+v.cells.size)++cellsF S (M.drop (i+1)))=cellsF S (M.take i)++(S.cs x).take j++v.cells.toList++((S.cs x).drop (j+v.cells.size)++cellsF S (M.drop (i+1))) by simp only [List.append_assoc]];exact q
end Go.Proofs.YtbpmjppmpgeejaaDoor
namespace Go.Proofs.YtbpmjppmpgeejaaDoor
open Go Go.RowKit
open D2 (Gh)
set_option linter.unusedVariables false
def zL (x:ByteArray):ByteArray:=x.extract 0 (min x.size 50)
theorem zgI (x:ByteArray):(zL x).size≤50:=by unfold zL;rw [ByteArray.size_extract];omega
theorem jv (s:ByteArray):Fn Tryd.prog 13 #[.string s] (.string (zL s)):=by
 refine Fn.intro (c:=zi Tryd.f13) [.tmp 2] 8 Tryd.func13 kr kr kr fun w=>rS [.v] (St.start w) kr fun gs1 w1 H1=>rS [.v,.v,.v,.E (.int .i64 (if (50:Int)<(s.size:Int) then (50:Int) else (s.size:Int))) (iN (min s.size 50)) (zp (by split<;>omega)),.o (ins:=[((.tmp 3),.string s),((.tmp 6),iN (min s.size 50))]) (v:=.string (zL s)) (fun ρ o w ho hi=>vB (t:=9) (kd:=.i64) kr (x:=(.tmp 3)) (y:=(.tmp 6)) s (min s.size 50) ho hi.1 hi.2.1 (Nat.min_le_left _ _) w),.v] H1 kr fun gs2 w2 H2=>?_;exact rR [.tmp 2] [] (.string (zL s)) H2 kr
def hdZ:Hdr:=⟨em,0,em,em,em,em,[],em,false,0,[]⟩
def zgJ (h:Hdr):Hdr:=⟨zL h.pa,h.hh,zL h.ro,zL h.tx,zL h.pr,zL h.va,h.vs,zL h.vo,h.ad,h.rd,h.ss⟩
def jw (h:Hdr):Hdr:=⟨zL h.pa,h.hh,zL h.ro,zL h.tx,zL h.pr,zL h.va,(h.vs.take 20).map zL,zL h.vo,h.ad,h.rd,h.ss.take 20⟩
theorem zgK {h:Hdr}(h1:h.hh<0x10000000000000000)(h2:h.rd<0x10000000000000000)(h3: ∀x∈h.ss,sgOk x):yf (jw h):=by
 have z:=zgI;have le: ∀x,(zL x).size≤1000000:=fun x=>by have:=z x;omega
 exact ⟨h1,h2,le _,le _,le _,le _,le _,le _,(fun x hx=>by obtain ⟨y,_,rfl⟩:=List.mem_map.1 hx;exact le _),by show ((h.vs.take 20).map zL).length≤_;rw [List.length_map,List.length_take];omega,fun x hx=>h3 x (List.mem_of_mem_take hx),by show (h.ss.take 20).length≤_;rw [List.length_take];omega⟩
theorem uF {α:Type}{L:List α}{n z:Nat}(h:n=L.length):L.take (min n z)=L.take z:=by
 subst h;by_cases hl:L.length≤z
 ·rw [Nat.min_eq_left hl,List.take_of_length_le (Nat.le_refl _),List.take_of_length_le hl]
 ·rw [Nat.min_eq_right (by omega)]
theorem zgL {α:Type}{g:α→α}{M:List α}{i:Nat}{x:α}(h:M[i]? =some x):((M.take i).map g++M.drop i)[i]? =some x∧((M.take i).map g++M.drop i).set i (g x)=(M.take (i+1)).map g++M.drop (i+1):=by
 have hi:=(List.getElem?_eq_some_iff.1 h).1;have hl:((M.take i).map g).length=i:=by rw [List.length_map,List.length_take];omega
 constructor
 ·rw [List.getElem?_append_right (by omega),hl,Nat.sub_self,uo h];rfl
 ·rw [List.set_append_right (h:=by omega),hl,Nat.sub_self,uo h,kW h,List.map_append,List.append_assoc];rfl
def zcw (h:Hdr)(q:Option Addr)(k:Nat)(v:Value)(T:List (Nat×Obj)):Prop:=∃(b n c:Nat) (cur:Array Value),v=hdV (jw h) (some ⟨b,0,none⟩) n c q (h.ss.take 20).length k∧T=[(b,.cells cur 9 (0,0))]∧Rw 1 cur c n (cellsF sS (jw h).vs)
theorem zgM (h:Hdr)(p:Option Addr)(n c:Nat)(q:Option Addr)(m k:Nat)(hp:yC p n c)(hq:yC q m k):FnT Tryd.prog 5 #[hdV h p n c q m k] (fun w=>zJ w h p n q m) (zcw h q k):=by
 refine FnT.intro (c:=zi Tryd.f5) [.cell 2 26] 71 Tryd.func5 kr kr kr fun w hP=>?_;have hn:=hP.1.1;have hm:=hP.2.1;have hT:=hP.1.take (min n 20) (Nat.min_le_left _ _);rw [uF hn] at hT;have hnv:min n 20=(h.vs.take 20).length:=hT.1;have hms:(h.ss.take 20).length=min m 20:=by rw [List.length_take,←hm];omega
 obtain ⟨nv,env⟩:∃nv,min n 20=nv:=⟨_,rfl⟩
 rw [env] at hT hnv;obtain ⟨ms,ems⟩:∃ms,(h.ss.take 20).length=ms:=⟨_,rfl⟩
 rw [ems] at hms;have H0:=St.start w;refine rS [.b,.a] H0 kr fun gs1 w1 H1=>rS [.v] H1 kr fun gs2 w2 H2=>dS [.v,.v,.l 0,.c (jv h.pa),.v,.v,.l 0,.c (jv h.ro),.v,.v,.l 0,.c (jv h.tx),.v,.v,.l 0,.c (jv h.pr),.v,.v,.l 0,.c (jv h.va),.v,.v,.l 0,.c (jv h.vo),.v,.s 0,.v,.s 0,.v,.s 0,.v,.s 0,.v,.s 0,.v,.s 0] H2 kr fun w3 H3=>?_;obtain ⟨hc,ehc⟩:∃hc,zgJ h=hc:=⟨_,rfl⟩
 have H4:St w.heap.size w w3 [((gs1 0).b,.cells (hdC hc p n c q m k) 26 (0,0)),((gs1 1).b,hdO hdZ none 0 0 none 0 0)]:=H3.as (by rw [←ehc];kernel_rfl);refine xn [(1,.pointer (some ⟨(gs1 0).b,0,none⟩)),(2,.pointer (some ⟨(gs1 1).b,0,none⟩)),(3,.func (.func 13) #[] #[])] kr fun ρ1=>?_;clear H0 H1 H2 H3;refine zd kr<|D2.g_draw0 [0,1,2,3,4,5,6,7,8,9,10,11,12,13,14,15,16,17,18,19] [(some 36,fun y=>.slice (some ⟨y.b,0,none⟩) 0 0),(some 37,fun _=>.pointer (some ⟨(gs1 0).b,6,none⟩)),(some 38,fun _=>.slice p n c),(some 39,fun _=>.pointer (some ⟨(gs1 0).b,6,none⟩)),(some 40,fun _=>.slice p n c),(some 41,fun _=>iN n),(some 42,fun _=>iN nv),(some 43,fun _=>.slice p nv c),(some 44,fun y=>.slice (some ⟨y.b,0,none⟩) nv y.cap),(some 45,fun _=>.pointer (some ⟨(gs1 0).b,10,none⟩)),(some 46,fun _=>.slice q m k),(some 47,fun _=>.pointer (some ⟨(gs1 0).b,10,none⟩)),(some 48,fun _=>.slice q m k),(some 49,fun _=>iN m),(some 50,fun _=>iN ms),(some 51,fun _=>.slice q ms k),(some 52,fun _=>.pointer (some ⟨(gs1 0).b,6,none⟩)),(none,fun _=>undef),(some 53,fun _=>.pointer (some ⟨(gs1 0).b,10,none⟩)),(none,fun _=>undef)]
  (D2.chn [0,8,17,19] (fun j g ww=>match j with
   | 0=>St w.heap.size w ww [((gs1 0).b,.cells (hdC hc p n c q m k) 26 (0,0)),((gs1 1).b,hdO hdZ none 0 0 none 0 0)]
   | 1=>St w.heap.size w ww [((g 0).b,.cells #[] 9 (0,0)),((gs1 0).b,.cells (hdC hc p n c q m k) 26 (0,0)),((gs1 1).b,hdO hdZ none 0 0 none 0 0)]
   | 2=>Rw 1 (g 8).cur (g 8).cap nv (cellsF sS (h.vs.take 20))∧St w.heap.size w ww [((g 8).b,.cells (g 8).cur 9 (0,0)),((gs1 0).b,.cells (hdC hc p n c q m k) 26 (0,0)),((gs1 1).b,hdO hdZ none 0 0 none 0 0)]
   | 3=>Rw 1 (g 8).cur (g 8).cap nv (cellsF sS (h.vs.take 20))∧St w.heap.size w ww [((g 8).b,.cells (g 8).cur 9 (0,0)),((gs1 0).b,.cells (hdC hc (some ⟨(g 8).b,0,none⟩) nv (g 8).cap q m k) 26 (0,0)),((gs1 1).b,hdO hdZ none 0 0 none 0 0)]
   | _=>Rw 1 (g 8).cur (g 8).cap nv (cellsF sS (h.vs.take 20))∧St w.heap.size w ww [((g 8).b,.cells (g 8).cur 9 (0,0)),((gs1 0).b,.cells (hdC hc (some ⟨(g 8).b,0,none⟩) nv (g 8).cap q ms k) 26 (0,0)),((gs1 1).b,hdO hdZ none 0 0 none 0 0)])) kr kr kr H4.drew ⟨?_,?_,?_,?_,?_,?_,?_,?_,?_,?_,?_,?_,?_,?_,?_,?_,?_,?_,?_,?_,trivial⟩ ?_
 ·refine D2.gv_chn 0 0 (fun L hN=>by
   have e0:=hN.1;have e8:=hN.post 8 kr;have e17:=hN.fwd e8 (show D2.edge _ 8 17=true by kernel_rfl);have e19:=hN.fwd e17 (show D2.edge _ 17 19=true by kernel_rfl)
   exact ⟨by (simp [D2.stg,e0,e8,e17,e19])<;>rfl,by (simp [D2.stg,D2.put1,e0,e8,e17,e19])<;>rfl⟩) fun g ww hq=>?_
  exact D2.run_new (F:=fun b=>.slice (some ⟨b,0,none⟩) 0 0) (ob:=.cells #[] 9 (0,0)) kr ⟨{ b:=ww.heap.size },rfl,St.alloc hq _⟩
 ·exact D2.gv_val (fun _ _ _ h=>h) (fun g w=>by kernel_rfl)
 ·exact D2.gv_ld (fun _ _ _ h=>h) 23 (.tmp 37) (fun _=>(gs1 0).b) 6 (hdC hc p n c q m k) 26 (0,0) (fun g=>by kernel_rfl) (fun g=>by kernel_rfl) (fun L1 g ww hN hp=>D2.chn.getN hp 2 17 rfl (hN.post 17 kr) fun j hj h=>by
   match j,h with
   | 0,h=>exact St.get h 0 kr
   | 1,h=>exact St.get h 1 kr
   | 2,h=>exact St.get h.2 1 kr) kr kr
 ·exact D2.gv_val (fun _ _ _ h=>h) (fun g w=>by kernel_rfl)
 ·exact D2.gv_ld (fun _ _ _ h=>h) 23 (.tmp 39) (fun _=>(gs1 0).b) 6 (hdC hc p n c q m k) 26 (0,0) (fun g=>by kernel_rfl) (fun g=>by kernel_rfl) (fun L1 g ww hN hp=>D2.chn.getN hp 2 17 rfl (hN.post 17 kr) fun j hj h=>by
   match j,h with
   | 0,h=>exact St.get h 0 kr
   | 1,h=>exact St.get h 1 kr
   | 2,h=>exact St.get h.2 1 kr) kr kr
 ·exact D2.gv_val (fun _ _ _ h=>h) (fun g w=>by kernel_rfl)
 ·exact D2.gv_valE (V':=.int .i64 (if (20:Int)<(n:Int) then (20:Int) else (n:Int))) (fun _ _ _ h=>h) (fun g w=>by kernel_rfl) (zp (by rw [←env];split<;>omega))
 ·exact D2.gv_op (fun _ _ _ h=>h) (.slice 23 (.tmp 38) none (some (.tmp 42)) none) (fun g=>by kernel_rfl) (fun g o w ho=>vI (t:=23) (e:=9) (size:=1) (bytes:=16) (kd:=.i64) kr (x:=(.tmp 38)) (y:=(.tmp 42)) hp (by omega) ho kr kr w)
 ·refine D2.gv_chn 8 1 (fun L hN=>by
   have e8:=hN.1;have e0:=hN.bef 0 kr;have e17:=hN.post 17 kr;have e19:=hN.fwd e17 (show D2.edge _ 17 19=true by kernel_rfl)
   exact ⟨by (simp [D2.stg,e0,e8,e17,e19])<;>rfl,by (simp [D2.stg,D2.put1,e0,e8,e17,e19])<;>rfl⟩) fun g ww hq=>?_
  refine D2.run_of (op:=yI 23 (.tmp 36) (.tmp 43)) kr fun o ho=>?_;obtain ⟨b',cap',cur',w',hrun,HS',hr'⟩:=zgG (S:=sS) (j:=0) (cur:=#[]) (cap:=0) (b:=(g 0).b) hq (t:=23) (bytes:=16) (n:=0) (xs:=[]) kr ho kr kr ⟨rfl,Nat.le_refl _,Nat.zero_le _,rfl,rfl⟩ kr (hT.call (St.below hq)) (hp.cut (by omega)) (by omega) (by unfold maxLen;omega);rw [Nat.zero_add] at hrun hr';rw [List.nil_append] at hr';exact ⟨_,w',hrun,{ b:=b',cap:=cap',cur:=cur' },rfl,hr',HS'⟩
 ·exact D2.gv_val (fun _ _ _ h=>h) (fun g w=>by kernel_rfl)
 ·exact D2.gv_ld (fun _ _ _ h=>h) 24 (.tmp 45) (fun _=>(gs1 0).b) 10 (hdC hc p n c q m k) 26 (0,0) (fun g=>by kernel_rfl) (fun g=>by kernel_rfl) (fun L1 g ww hN hp=>D2.chn.getN hp 2 17 rfl (hN.post 17 kr) fun j hj h=>by
   match j,h with
   | 0,h=>exact St.get h 0 kr
   | 1,h=>exact St.get h 1 kr
   | 2,h=>exact St.get h.2 1 kr) kr kr
 ·exact D2.gv_val (fun _ _ _ h=>h) (fun g w=>by kernel_rfl)
 ·exact D2.gv_ld (fun _ _ _ h=>h) 24 (.tmp 47) (fun _=>(gs1 0).b) 10 (hdC hc p n c q m k) 26 (0,0) (fun g=>by kernel_rfl) (fun g=>by kernel_rfl) (fun L1 g ww hN hp=>D2.chn.getN hp 2 17 rfl (hN.post 17 kr) fun j hj h=>by
   match j,h with
   | 0,h=>exact St.get h 0 kr
   | 1,h=>exact St.get h 1 kr
   | 2,h=>exact St.get h.2 1 kr) kr kr
 ·exact D2.gv_val (fun _ _ _ h=>h) (fun g w=>by kernel_rfl)
 ·exact D2.gv_valE (V':=.int .i64 (if (20:Int)<(m:Int) then (20:Int) else (m:Int))) (fun _ _ _ h=>h) (fun g w=>by kernel_rfl) (zp (by rw [hms];split<;>omega))
 ·exact D2.gv_op (fun _ _ _ h=>h) (.slice 24 (.tmp 46) none (some (.tmp 50)) none) (fun g=>by kernel_rfl) (fun g o w ho=>vI (t:=24) (e:=47) (size:=9) (bytes:=72) (kd:=.i64) kr (x:=(.tmp 46)) (y:=(.tmp 50)) hq (by omega) ho kr kr w)
 ·exact D2.gv_val (fun _ _ _ h=>h) (fun g w=>by kernel_rfl)
 ·refine D2.gv_chn 17 2 (fun L hN=>by
   have e17:=hN.1;have e8:=hN.bef 8 kr;have e0:=hN.back e8 (show D2.edge _ 0 8=true by kernel_rfl);have e19:=hN.post 19 kr
   exact ⟨by (simp [D2.stg,e0,e8,e17,e19])<;>rfl,by (simp [D2.stg,D2.put1,e0,e8,e17,e19])<;>rfl⟩) fun g ww hq=>?_
  exact D2.run_sto (t:=23) (x:=.tmp 52) (y:=.tmp 44) (b:=(gs1 0).b) (off:=6) (C:=hdC hc p n c q m k) (C':=hdC hc (some ⟨(g 8).b,0,none⟩) nv (g 8).cap q m k) (T:=26) (v:=.slice (some ⟨(g 8).b,0,none⟩) nv (g 8).cap) kr kr kr kr kr (St.get hq.2 1 kr) (Nat.le_of_ble_eq_true kr) kr ⟨g 17,rfl,hq.1,St.store (C:=hdC hc p n c q m k) (T:=26) hq.2 1 kr⟩
 ·exact D2.gv_val (fun _ _ _ h=>h) (fun g w=>by kernel_rfl)
 ·refine D2.gv_chn 19 3 (fun L hN=>by
   have e19:=hN.1;have e17:=hN.bef 17 kr;have e8:=hN.back e17 (show D2.edge _ 8 17=true by kernel_rfl);have e0:=hN.back e8 (show D2.edge _ 0 8=true by kernel_rfl)
   exact ⟨by (simp [D2.stg,e0,e8,e17,e19])<;>rfl,by (simp [D2.stg,D2.put1,e0,e8,e17,e19])<;>rfl⟩) fun g ww hq=>?_
  exact D2.run_sto (t:=24) (x:=.tmp 53) (y:=.tmp 51) (b:=(gs1 0).b) (off:=10) (C:=hdC hc (some ⟨(g 8).b,0,none⟩) nv (g 8).cap q m k) (C':=hdC hc (some ⟨(g 8).b,0,none⟩) nv (g 8).cap q ms k) (T:=26) (v:=.slice q ms k) kr kr kr kr kr (St.get hq.2 1 kr) (Nat.le_of_ble_eq_true kr) kr ⟨g 19,rfl,hq.1,St.store (C:=hdC hc (some ⟨(g 8).b,0,none⟩) nv (g 8).cap q m k) (T:=26) hq.2 1 kr⟩
 intro L1 g w5 hall hp9;obtain ⟨hrw,H5⟩:=hp9.fin (fun k hk=>hall k (by simp at hk;rcases hk with rfl | rfl | rfl | rfl<;>exact Nat.le_of_ble_eq_true kr));refine wW ?_;generalize (g 8).b=b at*;generalize (g 8).cap=cv at*;generalize (g 8).cur=cur at*;have H6:St w.heap.size w w5 [(b,.cells cur 9 (0,0)),((gs1 0).b,.cells (hdC hc (some ⟨b,0,none⟩) nv cv q ms k) 26 (0,0)),((gs1 1).b,hdO hdZ none 0 0 none 0 0)]:=H5;refine zd kr<|rS [.v,.l 1,.v,.v] H6 kr fun gs3 w6 H7=>?_;generalize hMV:h.vs.take 20=M at*;refine xK 57 56 58 69 0 1 nv (by omega) (fun i ρ ww=> ∃cur,Rw 1 cur cv nv (cellsF sS ((M.take i).map zL++M.drop i))∧St w.heap.size w ww [(b,.cells cur 9 (0,0)),((gs1 0).b,.cells (hdC hc (some ⟨b,0,none⟩) nv cv q ms k) 26 (0,0)),((gs1 1).b,hdO hdZ none 0 0 none 0 0)]∧Is [(1,.pointer (some ⟨(gs1 0).b,0,none⟩)),(2,.pointer (some ⟨(gs1 1).b,0,none⟩)),(3,.func (.func 13) #[] #[]),(55,.slice (some ⟨b,0,none⟩) nv cv),(56,iN nv),(57,iN i)] ρ) (by rintro i _ ww ⟨_,_,_,_,rfl⟩;exact ⟨kr,kr⟩) ⟨cur,hrw,H7.as kr,isK⟩ ?_ ?_
 ·clear H4 H5 H6 H7 hrw;rintro i _ w7 hi ⟨cur,hrw,H8,_,rfl⟩;obtain ⟨x,hx⟩:∃x,M[i]? =some x:=⟨_,List.getElem?_eq_getElem (by omega)⟩
  obtain ⟨hx2,hset⟩:=zgL (g:=zL) hx;have hput:=Rw.setF (S:=sS) (y:=zL x) hrw hx2 0 (.string (zL x)) (show 0+1≤1 by decide) rfl;rw [hset] at hput;have hcell:cur[0+i*1]? =some (.string x):=(hrw.rowAt (S:=sS)).cell hx2 0 (by decide);refine rS [.v,.o (ins:=[((.tmp 55),.slice (some ⟨b,0,none⟩) nv cv),((.tmp 57),iN i)]) (v:=.pointer (some ⟨b,0+i*1,none⟩)) (fun ρ o w ho hi2=>qT (kd:=.i64) (t:=23) (e:=9) (K:=1) (bytes:=16) kr (x:=(.tmp 55)) (y:=(.tmp 57)) b 0 nv cv i rfl ho hi2.1 hi2.2.1 (by omega) w),.ls 0 (C:=cur) (off:=0+i*1) (v:=.string x) hcell,.v,.v] H8 kr fun gs4 w8 H9=>dL [.v,.l 1,.v,.v,.v,.c (jv x),.o (ins:=[((.tmp 63),.slice (some ⟨b,0,none⟩) nv cv),((.tmp 64),iN i)]) (v:=.pointer (some ⟨b,0+i*1,none⟩)) (fun ρ o w ho hi2=>qT (kd:=.i64) (t:=23) (e:=9) (K:=1) (bytes:=16) kr (x:=(.tmp 63)) (y:=(.tmp 64)) b 0 nv cv i rfl ho hi2.1 hi2.2.1 (by omega) w),.se 0 (C:=cur) (C':=putA cur (0+i*1+0) (.string (zL x))) (off:=0+i*1) (v:=.string (zL x)) hput.1 rfl] H9 kr fun w9 H10=>?_;exact ⟨kr,_,hput.2,H10.as kr,isK⟩
 ·rintro _ w7 ⟨cur,hrw,H8,_,rfl⟩;rw [List.take_of_length_le (by omega),List.drop_of_length_le (by omega),List.append_nil] at hrw;refine wW<|rS [.l 1,.s 2] H8 kr fun gs4 w8 H9=>rRr [.cell 2 26] [2] (hdV (jw h) (some ⟨b,0,none⟩) nv cv q ms k) (qj w.heap.size w (zcw h q k)) H9 (by rw [show jw h=⟨hc.pa,hc.hh,hc.ro,hc.tx,hc.pr,hc.va,M.map zL,hc.vo,hc.ad,hc.rd,h.ss.take 20⟩ by rw [←ehc,←hMV];rfl];kernel_rfl) ?_;refine ⟨_,⟨b,nv,cv,cur,by rw [ems],rfl,?_⟩,H9.sub (List.Sublist.cons_cons _ (List.nil_sublist _))⟩;show Rw 1 cur cv nv (cellsF sS ((h.vs.take 20).map zL));rw [hMV];exact hrw
end Go.Proofs.YtbpmjppmpgeejaaDoor
namespace Go.Proofs.YtbpmjppmpgeejaaDoor
open Go Go.RowKit
open D2 (Gh)
set_option linter.unusedVariables false
theorem zgN {h:Hdr}(o:yf h){M:List Sg}(hM: ∀x∈M,sgOk x)(hl:M.length≤1000):yf { h with ss:=M } :=⟨o.hh,o.rd,o.pa,o.ro,o.tx,o.pr,o.va,o.vo,o.vs,o.vl,hM,hl⟩
theorem zgO {h:Hdr}(o:yf h){r:Nat}(hr:r<0x10000000000000000):yf { h with rd:=r } :=⟨o.hh,hr,o.pa,o.ro,o.tx,o.pr,o.va,o.vo,o.vs,o.vl,o.ss,o.sl⟩
theorem zgP (hd:Hdr)(p:Option Addr)(n c:Nat)(q:Option Addr)(m k:Nat)(hp:yC p n c)(hq:yC q m k)(hnum:zce hd)(rnd:Nat)(hrnd:rnd<0x10000000000000000)(q2:Option Addr)(n2 c2:Nat)(B2:List Sg)(hq2s:yC q2 n2 c2)(hB2: ∀x∈B2,sgOk x):FnP Tryd.prog 3 #[hdV hd p n c q m k,.int .u64 (rnd:Int),.slice q2 n2 c2] (fun w=>zJ w hd p n q m∧AtF sgF w q2 n2 B2∧Ke.Marks w) (.bool true):=by
 refine FnP.intro (c:=zi Tryd.f3) [.tmp 6] 135 Tryd.func3 kr kr kr fun w hP=>?_;obtain ⟨hP,hPB,hM⟩:=hP;have hm:=hP.2.1;have hn2:=hPB.1;have H0:=St.start w;refine rS [.b,.v] H0 kr fun gs1 w1 H1=>zg [0,1,2] kr kr<|rp [.l 0] H1 kr fun gs2 w2 H2=>wX [1,2] ?_;have H2':St w.heap.size w w2 [((gs1 0).b,hdO hd p n c q m k)]:=H2.as kr;refine jG H2' (some 23) 5 #[hdV hd p n c q m k] (zgM hd p n c q m k hp hq) (hP.call H2'.below) kr kr ?_;rintro _ _ w3 ⟨b,n1,c1,cur,rfl,rfl,hrw⟩ H3;have hq2:=hP.2.take (min m 20) (Nat.min_le_left _ _);rw [uF hm] at hq2;have hms:(hd.ss.take 20).length=min m 20:=by rw [List.length_take,←hm];omega
 rw [←hms] at hq2;have o:=zgK hnum.1 hnum.2.1 hnum.2.2;change AtF sgF w q (hd.ss.take 20).length (jw hd).ss at hq2;generalize (hd.ss.take 20).length=ms at*;generalize jw hd=h at*;refine rp [.s 1] H3 kr fun gs3 w4 H3b=>wX []<|zb<|wW ?_;have H4z:St w.heap.size w w4 [(b,Obj.cells cur 9 (0,0)),((gs1 0).b,hdO h (some ⟨b,0,none⟩) n1 c1 q ms k)]:=H3b.as kr;have hat: ∀ {ww:World},ww.heap[b]? =some (.cells cur 9 (0,0))→Below w.heap.size w ww→zJ ww h (some ⟨b,0,none⟩) n1 q ms:=fun hh hb=>⟨zcv (S:=sS) hrw hh,hq2.call hb⟩
 have hA2:=hPB.take (min n2 20) (Nat.min_le_left _ _);rw [uF hn2] at hA2;have hms2:(B2.take 20).length=min n2 20:=by rw [List.length_take,←hn2];omega
 have hBo: ∀x∈B2.take 20,sgOk x:=fun x hx=>hB2 x (List.mem_of_mem_take hx);have hBl:(B2.take 20).length≤1000:=by omega
 rw [←hms2] at hA2;refine rS [.v,.v,.v,.E (.int .i64 (if (20:Int)<(n2:Int) then (20:Int) else (n2:Int))) (iN (min n2 20)) (zp (by split<;>omega)),.o (ins:=[((.tmp 24),.slice q2 n2 c2),((.tmp 27),iN (min n2 20))]) (v:=.slice q2 (min n2 20) c2) (fun ρ o w ho hi=>vI (t:=24) (e:=47) (size:=9) (bytes:=72) (kd:=.i64) kr (x:=.tmp 24) (y:=.tmp 27) hq2s (Nat.min_le_left _ _) ho hi.1 hi.2.1 w),.v] H4z kr fun gs4 w5 H5z=>?_;have H3:St w.heap.size w w5 [(b,Obj.cells cur 9 (0,0)),((gs1 0).b,hdO h (some ⟨b,0,none⟩) n1 c1 q ms k)]:=H5z.as kr;refine xn [(1,.int .u64 (rnd:Int)),(2,.slice q2 (min n2 20) c2),(3,.pointer (some ⟨(gs1 0).b,0,none⟩))] kr fun ρ1=>?_;clear H0 H1 H2 H2' H3b H4z H5z;rw [←hms2];generalize (B2.take 20).length=ms2 at*;generalize B2.take 20=M2 at*;obtain ⟨oth,eo⟩:∃oth:Hdr,{ h with ss:=M2 } =oth:=⟨_,rfl⟩
 have oo:yf oth:=eo▸zgN o hBo (by have:=hA2.1;omega);have hato: ∀ {ww:World},ww.heap[b]? =some (.cells cur 9 (0,0))→Below w.heap.size w ww→zJ ww oth (some ⟨b,0,none⟩) n1 q2 ms2:=fun hh hb=>eo▸⟨zcv (S:=sS) hrw hh,hA2.call hb⟩;have hRo:=xM oth oo.sm (some ⟨b,0,none⟩) n1 c1 q2 ms2 c2;cases hr:zU h with
 | false=>
  refine rS [.l 1,.cp (zcn h o.sm hr (some ⟨b,0,none⟩) n1 c1 q ms k) [(0,(b,Obj.cells cur 9 (0,0)))] (fun w hb hd=>hat hd.1 hb),.v,.v,.v,.v,.v] H3 kr fun gs4 w4 H4=>rS [.l 1,.cp (zcm h o.sm hr (some ⟨b,0,none⟩) n1 c1 q ms k) [(0,(b,Obj.cells cur 9 (0,0)))] (fun w hb hd=>hat hd.1 hb),.v,.v,.v,.v,.v] H4 kr fun gs5 w5 H5=>rS [.l 1,.cp (zgE h o.sm hr (some ⟨b,0,none⟩) n1 c1 q ms k) [(0,(b,Obj.cells cur 9 (0,0)))] (fun w hb hd=>hat hd.1 hb),.v,.v,.v,.v,.v] H5 kr fun gs6 w6 H6=>rS [.l 1,.a,.s 2] H6 kr fun gs7 w7 H7=>rS [.v,.v,.s 2] H7 kr fun gs8 w8 H8=>zd kr<|rS [.v,.v,.v,.n,.n,.v,.v,.n,.n,.v,.v,.n,.n,.n,.v] H8 kr fun gs9 w9 H9=>qq<|rS [.c uE,.v,.v,.v,.v,.v,.v,.v,.v,.v,.v,.v] H9 kr fun gs10 w10 H10=>?_;exact rR [.tmp 6] [] (.bool true) H10 kr
 | true=>
  refine rS [.l 1,.cp (vd h o hr (some ⟨b,0,none⟩) n1 c1 q ms k) [(0,(b,Obj.cells cur 9 (0,0)))] (fun w hb hd=>⟨hat hd.1 hb,qf hM hb⟩),.v,.v,.v,.v,.v] H3 kr fun gs4 w4 H4=>rS [.l 1,.cp (uD h o hr (some ⟨b,0,none⟩) n1 c1 q ms k) [(0,(b,Obj.cells cur 9 (0,0)))] (fun w hb hd=>⟨hat hd.1 hb,qf hM hb⟩),.v,.v,.v,.v,.v] H4 kr fun gs5 w5 H5=>rS [.l 1,.cp (zco h o hr (some ⟨b,0,none⟩) n1 c1 q ms k) [(0,(b,Obj.cells cur 9 (0,0)))] (fun w hb hd=>⟨hat hd.1 hb,qf hM hb⟩),.v,.v,.v,.v,.v] H5 kr fun gs6 w6 H6=>rS [.l 1,.a,.s 2] H6 kr fun gs7 w7 H7=>rS [.v,.v,.s 2] H7 kr fun gs8 w8 H8=>?_;have H8':St w.heap.size w w8 [(b,Obj.cells cur 9 (0,0)),((gs1 0).b,hdO h (some ⟨b,0,none⟩) n1 c1 q ms k),((gs7 1).b,hdO oth (some ⟨b,0,none⟩) n1 c1 q2 ms2 c2)]:=H8.as (by rw [←eo];kernel_rfl);refine xn [(1,.int .u64 (rnd:Int)),(7,.string (idH h)),(8,.int .i64 0),(9,.string (qr h)),(10,.int .i64 0),(11,.string (qt h)),(12,.int .i64 0),(13,.pointer (some ⟨(gs7 1).b,0,none⟩))] kr fun ρ2=>zd kr ?_;cases hro:zU oth with
  | false=>
   rw [hro] at hRo;refine rS [.v,.v,.v,.v,.v,.v,.v,.v,.v,.v,.v,.l 2,.cp (hRo) [(0,(b,Obj.cells cur 9 (0,0)))] (fun w hb hd=>hato hd.1 hb),.v,.v] H8' kr fun gs9 w9 H9=>qq<|rS [.c uE,.v,.v,.v,.v,.v,.v,.v,.v,.v,.v,.v] H9 kr fun gs10 w10 H10=>?_;exact rR [.tmp 6] [] (.bool true) H10 kr
  | true=>
   rw [hro] at hRo;refine rS [.v,.v,.v,.v,.v,.v,.v,.v,.v,.v,.v,.l 2,.cp (hRo) [(0,(b,Obj.cells cur 9 (0,0)))] (fun w hb hd=>hato hd.1 hb),.v,.v] H8' kr fun gs9 w9 H9=>qJ<|wW ?_;have hI:FnP Tryd.prog 6 #[hdV oth (some ⟨b,0,none⟩) n1 c1 q2 ms2 c2] (fun w=>zJ w oth (some ⟨b,0,none⟩) n1 q2 ms2∧Ke.Marks w) (.tuple #[.string (idH h),.int .i64 0]):=(show idH oth=idH h by rw [←eo];rfl)▸vd oth oo hro (some ⟨b,0,none⟩) n1 c1 q2 ms2 c2;have hS:FnP Tryd.prog 7 #[hdV oth (some ⟨b,0,none⟩) n1 c1 q2 ms2 c2] (fun w=>zJ w oth (some ⟨b,0,none⟩) n1 q2 ms2∧Ke.Marks w) (.tuple #[.string (qr h),.int .i64 0]):=(show qr oth=qr h by rw [←eo];rfl)▸uD oth oo hro (some ⟨b,0,none⟩) n1 c1 q2 ms2 c2;have hT:FnP Tryd.prog 8 #[hdV oth (some ⟨b,0,none⟩) n1 c1 q2 ms2 c2] (fun w=>zJ w oth (some ⟨b,0,none⟩) n1 q2 ms2∧Ke.Marks w) (.tuple #[.string (qt h),.int .i64 0]):=(show qt oth=qt h by rw [←eo];rfl)▸zco oth oo hro (some ⟨b,0,none⟩) n1 c1 q2 ms2 c2;refine rS [.l 2,.cp (hI) [(0,(b,Obj.cells cur 9 (0,0)))] (fun w hb hd=>⟨hato hd.1 hb,qf hM hb⟩),.v,.v,.v,.v,.v] H9 kr fun gs10 w10 H10=>rS [.l 2,.cp (hS) [(0,(b,Obj.cells cur 9 (0,0)))] (fun w hb hd=>⟨hato hd.1 hb,qf hM hb⟩),.v,.v,.v,.v,.v] H10 kr fun gs11 w11 H11=>rS [.l 2,.cp (hT) [(0,(b,Obj.cells cur 9 (0,0)))] (fun w hb hd=>⟨hato hd.1 hb,qf hM hb⟩),.v,.v,.v,.v,.v] H11 kr fun gs12 w12 H12=>rS [.v,.v,.s 2] H12 kr fun gs13 w13 H13=>?_;obtain ⟨otr,er⟩:∃otr:Hdr,{ oth with rd:=rnd } =otr:=⟨_,rfl⟩
   have otro:yf otr:=er▸zgO oo hrnd;have hrr:zU otr=true:=by rw [←er];exact hro
   have hatr: ∀ {ww:World},ww.heap[b]? =some (.cells cur 9 (0,0))→Below w.heap.size w ww→zJ ww otr (some ⟨b,0,none⟩) n1 q2 ms2:=fun hh hb=>er▸(show zJ _ { oth with rd:=rnd } _ _ _ _ from hato hh hb);have hI2:FnP Tryd.prog 6 #[hdV otr (some ⟨b,0,none⟩) n1 c1 q2 ms2 c2] (fun w=>zJ w otr (some ⟨b,0,none⟩) n1 q2 ms2∧Ke.Marks w) (.tuple #[.string (idH h),.int .i64 0]):=(show idH otr=idH h by rw [←er,←eo];rfl)▸vd otr otro hrr (some ⟨b,0,none⟩) n1 c1 q2 ms2 c2;have H13':St w.heap.size w w13 [(b,Obj.cells cur 9 (0,0)),((gs1 0).b,hdO h (some ⟨b,0,none⟩) n1 c1 q ms k),((gs7 1).b,hdO otr (some ⟨b,0,none⟩) n1 c1 q2 ms2 c2)]:=H13.as (by rw [←er];kernel_rfl);refine xn [(7,.string (idH h)),(9,.string (qr h)),(11,.string (qt h)),(13,.pointer (some ⟨(gs7 1).b,0,none⟩)),(14,.string (idH h)),(15,.int .i64 0),(16,.string (qr h)),(17,.int .i64 0),(18,.string (qt h)),(19,.int .i64 0)] kr fun ρ3=>rS [.l 2,.cp (hI2) [(0,(b,Obj.cells cur 9 (0,0)))] (fun w hb hd=>⟨hatr hd.1 hb,qf hM hb⟩),.v,.v,.v,.v,.v] H13' kr fun gs14 w14 H14=>rS [.c uE,.v,.v,.v,.v,.v,.v,.v,.v,.v,.v,.v,.v,.v,.v,.v,.v,.v,.v,.v,.v,.v,.v,.E (.bool ((idH h).toList==(idH h).toList)) (.bool true) (za (xq (idH h))),.v,.v,.v,.v,.E (.bool ((qr h).toList==(qr h).toList)) (.bool true) (za (xq (qr h))),.v,.v,.v,.v,.E (.bool ((qt h).toList==(qt h).toList)) (.bool true) (za (xq (qt h))),.v,.v,.v,.v,.E (.bool ((idH h).toList==(idH h).toList)) (.bool true) (za (xq (idH h))),.v,.v] H14 kr fun gs15 w15 H15=>?_;exact rR [.tmp 6] [] (.bool true) H15 kr
end Go.Proofs.YtbpmjppmpgeejaaDoor
