/-
  Texts of the proof,part 4.
-/
import Derived.Test.YtbpmjppmpgeejaaGreatDoorProg
import Derived.Below
import Derived.KernelRfl
import Derived.WalkKit
import Derived.ProofKit
import Derived.OpenShut
import Derived.Handy
import Derived.WalkLawsBesides
import Derived.Shelf.Spec.BitsCarry
import Derived.Shelf.Bits.Mul64
import Derived.Laws.Bits64b
import Derived.Lib.BitFns
import Derived.Shelf.Strconv.Itoa0
import Derived.Lib.Hide
import Derived.Laws.StructEq
import Derived.ChangeKeysEq
import Derived.Laws.BitsLemmas
import Derived.Laws.BitsAllLaws
import Derived.Laws.BytesArg
import Derived.Test.YtbpmjppmpgeejaaGreatDoorHR1
import Derived.Test.YtbpmjppmpgeejaaGreatDoorHR2
import Derived.Test.YtbpmjppmpgeejaaGreatDoorHR3
set_option maxRecDepth 100000
set_option maxHeartbeats 4000000
namespace Go.Proofs.YtbpmjppmpgeejaaGreatDoor
open Go Go.RowKit
set_option linter.unusedVariables false
abbrev zeD (form:ByteArray)(i:Nat)(b2 bo N cap:Nat):List (Nat×Value):=[(0,.string form),(2,.pointer (some ⟨b2,0,none⟩)),(3,.bool false),(4,.slice (some ⟨bo,0,none⟩) N cap),(16,.int .i64 (form.size:Int)),(17,.int .i64 (i:Int))]
theorem zi0 {Q:Exit→Env→World→Prop}{B:Nat}{w0:World}(form:ByteArray)(b2 i:Nat)(hi40:i≤40)(hi:i<form.size)(hz:form.size≤40)(S:List Sk)(N:Nat)(T:List (Nat×Obj))(bo cap:Nat)(cur:Array Value)(hN:N=S.length)(hBot:Bot S)(hN5:N≤5)(hS: ∀e∈S,xe T i e)(hRw:Rw 2 cur cap N (zI kS (opE S)))
 (ρ0:Env) (ww0:World) (H0:St B w0 ww0 ((b2,kdO 0 none 0 0)::(bo,kR cur)::(yw S++T))) (hIs:Is (zeD form i b2 bo N cap) ρ0)
 (hbad:jc (by_ form i) (stM S)=none→ ∀(ρ:Env) (ww:World) (bd:Nat) (o:Obj) (l:List (Nat×Obj)),St B w0 ww ((bd,o)::(b2,kdO 0 none 0 0)::l)→ρ 3=.bool false→ρ 2=.pointer (some ⟨b2,0,none⟩)→Q .ret ρ ww)
 (hQ: ∀(S':List Sk) (N:Nat) (T:List (Nat×Obj)) (bo cap:Nat) (cur:Array Value) (ρ:Env) (ww:World),N=S'.length→Bot S'→N≤5→(∀e∈S',xe T (i+1) e)→jc (by_ form i) (stM S)=some (stM S')→Rw 2 cur cap N (zI kS (opE S'))→
  St B w0 ww ((b2,kdO 0 none 0 0)::(bo,kR cur)::(yw S'++T))→Is (zeD form i b2 bo N cap) ρ→Q (.exit 1) ρ ww):
 WP Tryz.prog 101 zeA Q ρ0 ww0:=by
 obtain ⟨_,rfl⟩:=hIs;rcases S with _|⟨e,r⟩
 ·exact hBot.elim
 obtain rfl:N=r.length+1:=hN;have he:=hS e (List.mem_cons_self ..);have htop:=hRw.top;obtain ⟨c,hc⟩:∃c,by_ form i=c:=⟨_,rfl⟩
 have hrc:=hRw.le;refine rS [.v,.v] H0 kr fun gs1 w1 H1=>zg [0,1,2,3,4,5] kr kr<|rp [.v,.v,.oe (ins:=[((.tmp 20),.string form),((.tmp 21),.int .i64 (i:Int))]) (v:=.int .u8 ((by_ form i:Nat):Int)) (v':=.int .u8 (c:Int)) (fun ρ o w ho hi2=>zO (t:=9) (kd:=.i64) kr (x:=(.tmp 20)) (y:=(.tmp 21)) form i ho hi2.1 hi2.2.1 hi w) (by rw [hc]),.v] H1 kr fun gs2 w2 H2=>wX [4,5] ?_;have H3:St B w0 w2 ((b2,kdO 0 none 0 0)::(bo,kR cur)::(yw (e::r)++T)):=H2.as kr;refine zB H3 (some 6) 62 (.agg #[.int .u8 0,.slice none 0 0]) kr kr kr ?_;intro bd w3 H4;refine rp [.s 0] H4 kr fun gs3 w4 H5=>wX []<|zc<|zb kr<|rS [.v,.v,.E (.int .i64 (IntKind.i64.wrap (((r.length+1:Nat):Int)-1))) (.int .i64 (r.length:Int)) (zd (by rw [show (((r.length+1:Nat):Int)-1)=(r.length:Int) by omega];exact qC (by omega))),.v] H5 kr fun gs4 w5 H6=>rS [.v,.l 0] H6 kr fun gs5 w6 H7=>zn 2 kr ?_;have H8:St B w0 w6 ((bd,kdO c none 0 0)::(b2,kdO 0 none 0 0)::(bo,kR cur)::(yw (e::r)++T)):=H7.as kr;clear H0 H1 H2 H3 H4 H5 H6 H7;refine zx [0,2,3,4,5,6,7,16,17,28] fun ρ1=>zb kr ?_;obtain ⟨lb,hlb⟩:∃lb,decide (c=110∨c=104∨c=97∨c=115∨c=98)=lb:=⟨_,rfl⟩
 refine qA (Q:=fun ex ρ ww=>ex=.normal∧St B w0 ww ((bd,kdO c none 0 0)::(b2,kdO 0 none 0 0)::(bo,kR cur)::(yw (e::r)++T))∧Is [(0,.string form),(2,.pointer (some ⟨b2,0,none⟩)),(3,.bool false),(4,.slice (some ⟨bo,0,none⟩) (r.length+1) cap),(6,.pointer (some ⟨bd,0,none⟩)),(7,.int .i64 (r.length:Int)),(16,.int .i64 (form.size:Int)),(17,.int .i64 (i:Int)),(28,.int .u8 (c:Int)),(30,.bool lb)] ρ) ?_ ?_
 ·by_cases h110:c=110
  ·refine rS [.E (.bool ((c:Int)==110)) (.bool true) (za (beq_iff_eq.2 (by omega))),.v] H8 kr fun gsa110 wa110 Ha110=>zf kr kr<|zj kr ?_;obtain rfl:lb=true:=by rw [←hlb];exact decide_eq_true (by omega)
   exact ⟨rfl,Ha110.as kr,(Is.of ⟨kr,kr,kr,kr,kr,kr,kr,kr,kr,kr,trivial⟩)⟩
  ·refine rS [.E (.bool ((c:Int)==110)) (.bool false) (za (beq_eq_false_iff_ne.2 (by omega))),.v] H8 kr fun gsb110 wb110 Hb110=>zi kr kr ?_;by_cases h104:c=104
   ·refine rS [.E (.bool ((c:Int)==104)) (.bool true) (za (beq_iff_eq.2 (by omega))),.v] Hb110 kr fun gsa104 wa104 Ha104=>zf kr kr<|zj kr ?_;obtain rfl:lb=true:=by rw [←hlb];exact decide_eq_true (by omega)
    exact ⟨rfl,Ha104.as kr,(Is.of ⟨kr,kr,kr,kr,kr,kr,kr,kr,kr,kr,trivial⟩)⟩
   ·refine rS [.E (.bool ((c:Int)==104)) (.bool false) (za (beq_eq_false_iff_ne.2 (by omega))),.v] Hb110 kr fun gsb104 wb104 Hb104=>zi kr kr ?_;by_cases h97:c=97
    ·refine rS [.E (.bool ((c:Int)==97)) (.bool true) (za (beq_iff_eq.2 (by omega))),.v] Hb104 kr fun gsa97 wa97 Ha97=>zf kr kr<|zj kr ?_;obtain rfl:lb=true:=by rw [←hlb];exact decide_eq_true (by omega)
     exact ⟨rfl,Ha97.as kr,(Is.of ⟨kr,kr,kr,kr,kr,kr,kr,kr,kr,kr,trivial⟩)⟩
    ·refine rS [.E (.bool ((c:Int)==97)) (.bool false) (za (beq_eq_false_iff_ne.2 (by omega))),.v] Hb104 kr fun gsb97 wb97 Hb97=>zi kr kr ?_;by_cases h115:c=115
     ·refine rS [.E (.bool ((c:Int)==115)) (.bool true) (za (beq_iff_eq.2 (by omega))),.v] Hb97 kr fun gsa115 wa115 Ha115=>zf kr kr<|zj kr ?_;obtain rfl:lb=true:=by rw [←hlb];exact decide_eq_true (by omega)
      exact ⟨rfl,Ha115.as kr,(Is.of ⟨kr,kr,kr,kr,kr,kr,kr,kr,kr,kr,trivial⟩)⟩
     ·refine rS [.E (.bool ((c:Int)==115)) (.bool false) (za (beq_eq_false_iff_ne.2 (by omega))),.v] Hb97 kr fun gsb115 wb115 Hb115=>zi kr kr ?_;by_cases h98:c=98
      ·refine rL [.E (.bool ((c:Int)==98)) (.bool true) (za (beq_iff_eq.2 (by omega))),.v] Hb115 kr fun gsa98 wa98 Ha98=>?_;obtain rfl:lb=true:=by rw [←hlb];exact decide_eq_true (by omega)
       exact ⟨rfl,Ha98.as kr,(Is.of ⟨kr,kr,kr,kr,kr,kr,kr,kr,kr,kr,trivial⟩)⟩
      ·refine rL [.E (.bool ((c:Int)==98)) (.bool false) (za (beq_eq_false_iff_ne.2 (by omega))),.v] Hb115 kr fun gsb98 wb98 Hb98=>?_;obtain rfl:lb=false:=by rw [←hlb];exact decide_eq_false (by omega)
       exact ⟨rfl,Hb98.as kr,(Is.of ⟨kr,kr,kr,kr,kr,kr,kr,kr,kr,kr,trivial⟩)⟩
 rintro _ _ w7 ⟨rfl,H9,_,rfl⟩;refine wW ?_;cases lb with
 | true=>
  have hst:jc (by_ form i) (stM (e::r))=some (xa c .nil (stM (e::r))):=by
   rw [hc];unfold jc;rw [if_pos (of_decide_eq_true hlb)]
  refine zf kr kr<|zj kr<|wW<|zeC form b2 bd i _ hi40 (r.length+1) _ _ ⟨e::r,r.length+1,c,none,0,0,.nil,T,bo,cap,cur,rfl,rfl,hBot,hN5,hS,RIn.none _ _,rfl,hRw,H9,(Is.of ⟨kr,kr,kr,kr,kr,kr,kr,trivial⟩)⟩ ?_;intro S' N' T' bo' cap' cur' ρ' ww' h1 h2 h3 h4 h5 h6 h7 h8;exact hQ S' N' T' bo' cap' cur' ρ' ww' h1 h2 h3 h4 (by rw [hst,h5]) h6 h7 h8
 | false=>
  have hnl:=of_decide_eq_false hlb;refine zi kr kr<|zb kr ?_;obtain ⟨gb,hgb⟩:∃gb,decide (c=40∨c=42)=gb:=⟨_,rfl⟩
  refine qA (Q:=fun ex ρ ww=>ex=.normal∧St B w0 ww ((bd,kdO c none 0 0)::(b2,kdO 0 none 0 0)::(bo,kR cur)::(yw (e::r)++T))∧Is [(0,.string form),(2,.pointer (some ⟨b2,0,none⟩)),(3,.bool false),(4,.slice (some ⟨bo,0,none⟩) (r.length+1) cap),(6,.pointer (some ⟨bd,0,none⟩)),(7,.int .i64 (r.length:Int)),(16,.int .i64 (form.size:Int)),(17,.int .i64 (i:Int)),(28,.int .u8 (c:Int)),(36,.bool gb)] ρ) ?_ ?_
  ·by_cases h40:c=40
   ·refine rS [.E (.bool ((c:Int)==40)) (.bool true) (za (beq_iff_eq.2 (by omega))),.v] H9 kr fun gsa40 wa40 Ha40=>zf kr kr<|zj kr ?_;obtain rfl:gb=true:=by rw [←hgb];exact decide_eq_true (by omega)
    exact ⟨rfl,Ha40.as kr,(Is.of ⟨kr,kr,kr,kr,kr,kr,kr,kr,kr,kr,trivial⟩)⟩
   ·refine rS [.E (.bool ((c:Int)==40)) (.bool false) (za (beq_eq_false_iff_ne.2 (by omega))),.v] H9 kr fun gsb40 wb40 Hb40=>zi kr kr ?_;by_cases h42:c=42
    ·refine rL [.E (.bool ((c:Int)==42)) (.bool true) (za (beq_iff_eq.2 (by omega))),.v] Hb40 kr fun gsa42 wa42 Ha42=>?_;obtain rfl:gb=true:=by rw [←hgb];exact decide_eq_true (by omega)
     exact ⟨rfl,Ha42.as kr,(Is.of ⟨kr,kr,kr,kr,kr,kr,kr,kr,kr,kr,trivial⟩)⟩
    ·refine rL [.E (.bool ((c:Int)==42)) (.bool false) (za (beq_eq_false_iff_ne.2 (by omega))),.v] Hb40 kr fun gsb42 wb42 Hb42=>?_;obtain rfl:gb=false:=by rw [←hgb];exact decide_eq_false (by omega)
     exact ⟨rfl,Hb42.as kr,(Is.of ⟨kr,kr,kr,kr,kr,kr,kr,kr,kr,kr,trivial⟩)⟩
  rintro _ _ w8 ⟨rfl,H10,_,rfl⟩;refine wW ?_;cases gb with
  | true=>
   have hyes:=of_decide_eq_true hgb;refine zf kr kr<|zb kr ?_;by_cases h4:r.length=4
   ·refine zb kr<|rL [.v,.E (.bool ((r.length:Int)==4)) (.bool true) (za (beq_iff_eq.2 (by omega)))] H10 kr fun gs6 w9 H11=>wW<|zf kr kr<|rS [.v,.s 1,.v] H11 kr fun gs7 w10 H12=>zl kr ?_;have H13:St B w0 w10 ((bd,kdO c none 0 0)::(b2,kdO 0 none 0 0)::(bo,kR cur)::(yw (e::r)++T)):=H12.as kr;refine hbad ?_ _ w10 bd _ _ H13 kr kr;rw [hc];unfold jc;rw [if_neg hnl,if_pos hyes,if_pos];show ((e::r).map _).length=5;rw [List.length_map,List.length_cons,h4]
   ·refine zb kr<|rL [.v,.E (.bool ((r.length:Int)==4)) (.bool false) (za (beq_eq_false_iff_ne.2 (by omega)))] H10 kr fun gs6 w9 H11=>wW<|zi kr kr<|zj kr<|wW<|zg [0,1,2,3,4] kr kr<|rp [.v,.l 0] H11 kr fun gs7 w10 H12=>wX [2,3,4] ?_;have H13:St B w0 w10 ((bd,kdO c none 0 0)::(b2,kdO 0 none 0 0)::(bo,kR cur)::(yw (e::r)++T)):=H12.as kr;refine zaX H13 (some 44) (fun b=>.slice (some ⟨b,0,none⟩) 1 1) #[.int .u8 (c:Int),.slice none 0 0] 62 (fun w=>by kernel_rfl) kr ?_;intro bn w11 H14;refine zbN (K':=2) H14 (some 45) 60 62 32 (.tmp 42) (.tmp 44) 3 0 bo bn (r.length+1) cap 1 cur #[.int .u8 (c:Int),.slice none 0 0] (zI kS (opE (e::r))) kr kr kr kr kr hRw kr kr rfl (jA rfl) (by omega) (by unfold maxLen;omega) ?_;intro b' cap' cur' w12 H15 hr';have H16:St B w0 w12 ((bn,kR #[.int .u8 (c:Int),.slice none 0 0])::(bd,kdO c none 0 0)::(b2,kdO 0 none 0 0)::(b',kR cur')::(yw (e::r)++T)):=H15;refine rp [.v] H16 kr fun gs8 w13 H17=>wX []<|zc<|zN 1 kr ?_;show Q (.exit 1) _ _;have H18:St B w0 w13 ((bn,kR #[.int .u8 (c:Int),.slice none 0 0])::(bd,kdO c none 0 0)::(b2,kdO 0 none 0 0)::(b',kR cur')::(yw (e::r)++T)):=H17.as kr;refine hQ (⟨c,none,0,0,[],[]⟩::e::r) (r.length+2) T b' cap' cur' _ _ rfl (.inr hBot) (by omega) ?_ ?_ ?_ (H18.sub (List.Sublist.cons _ (List.sublist_cons_self ..))) (Is.of ⟨kr,kr,kr,kr,kr,kr,trivial⟩)
    ·intro x hx;rcases List.mem_cons.1 hx with rfl | hx
     ·exact ⟨.inl ⟨rfl,rfl,rfl,rfl,rfl⟩,(fun _ h=>nomatch h),Nat.zero_le _⟩
     ·exact (hS x hx).mono (fun _ h=>h) (Nat.le_succ _)
    ·rw [hc];unfold jc;rw [if_neg hnl,if_pos hyes,if_neg]
     ·rfl
     ·show ¬((e::r).map _).length=5;rw [List.length_map,List.length_cons];omega
    ·rw [kC];exact hr'
  | false=>
   have hno:=of_decide_eq_false hgb;refine zi kr kr ?_;by_cases h41:c=41
   ·refine rS [.E (.bool ((c:Int)==41)) (.bool true) (za (beq_iff_eq.2 (by omega))),.v] H10 kr fun gs6 w9 H11=>zf kr kr<|zb kr<|zb kr ?_;by_cases hr0:r.length=0
    ·refine rL [.v,.E (.bool ((r.length:Int)==0)) (.bool true) (za (beq_iff_eq.2 (by omega))),.v,.n,.n,.n,.n,.n,.n,.v] H11 kr fun gs7 w10 H12=>wW<|zf kr kr<|rS [.v,.s 1,.v] H12 kr fun gs8 w11 H13=>zl kr ?_;have H14:St B w0 w11 ((bd,kdO c none 0 0)::(b2,kdO 0 none 0 0)::(bo,kR cur)::(yw (e::r)++T)):=H13.as kr;refine hbad ?_ _ w11 bd _ _ H14 kr kr;rw [hc];unfold jc;rw [if_neg hnl,if_neg hno,if_pos h41];show (if (r.map _).length=0∨e.g≠40 then none else some _)=none;rw [if_pos (.inl (by rw [List.length_map];exact hr0))]
    ·by_cases h40:e.g=40
     ·refine rL [.v,.E (.bool ((r.length:Int)==0)) (.bool false) (za (beq_eq_false_iff_ne.2 (by omega))),.v,.v,.v,.o (ins:=[((.tmp 51),.slice (some ⟨bo,0,none⟩) (r.length+1) cap),((.tmp 52),.int .i64 (r.length:Int))]) (v:=.pointer (some ⟨bo,0+r.length*2,none⟩)) (fun ρ o w ho hi2=>yD (kd:=.i64) (t:=60) (e:=62) (K:=2) (bytes:=32) kr (x:=(.tmp 51)) (y:=(.tmp 52)) bo 0 (r.length+1) cap r.length rfl ho hi2.1 hi2.2.1 (by omega) w),.v,.ls 2 (C:=cur) (off:=0+r.length*2) (v:=.int .u8 ((e.g:Nat):Int)) htop.2.2.1,.E (.bool (!(((e.g:Nat):Int)==40))) (.bool false) (za (by rw [h40];rfl)),.v] H11 kr fun gs7 w10 H12=>wW<|zi kr kr<|zj kr<|wW<|dL [.v,.v,.o (ins:=[((.tmp 59),.slice (some ⟨bo,0,none⟩) (r.length+1) cap),((.tmp 60),.int .i64 (r.length:Int))]) (v:=.pointer (some ⟨bo,0+r.length*2,none⟩)) (fun ρ o w ho hi2=>yD (kd:=.i64) (t:=60) (e:=62) (K:=2) (bytes:=32) kr (x:=(.tmp 59)) (y:=(.tmp 60)) bo 0 (r.length+1) cap r.length rfl ho hi2.1 hi2.2.1 (by omega) w),.lp 2 (C:=cur) (off:=0+r.length*2) (n:=2) (W:=#[.int .u8 ((e.g:Nat):Int),.slice e.p e.n e.c]) htop.1 htop.2.1,.v,.v,.o (ins:=[((.tmp 63),.slice (some ⟨bo,0,none⟩) (r.length+1) cap),((.tmp 64),.int .i64 (r.length:Int))]) (v:=.slice (some ⟨bo,0,none⟩) r.length cap) (fun ρ o w ho hi2=>zda (kd:=.i64) (t:=60) (e:=62) (size:=2) (bytes:=32) kr (x:=(.tmp 63)) (y:=(.tmp 64)) bo (r.length+1) cap r.length ho hi2.1 hi2.2.1 (by omega) w),.s 0,.v] H12 kr fun w11 H13=>wW ?_;have H14:St B w0 w11 ((bd,kdO e.g e.p e.n e.c)::(b2,kdO 0 none 0 0)::(bo,kR cur)::(e.row++(yw r++T))):=by
       rw [←List.append_assoc];exact H13.as kr
      have hBr:Bot r:=by
       rcases hBot with ⟨h,_⟩|h
       ·rw [h] at hr0;exact absurd rfl hr0
       ·exact h
      have hst:jc (by_ form i) (stM (e::r))=some (xa e.g (ys e.M) (stM r)):=by
       rw [hc];unfold jc;rw [if_neg hnl,if_neg hno,if_pos h41];show (if (r.map _).length=0∨e.g≠40 then none else some (xa e.g (ys e.M) (stM r)))=_;rw [if_neg (by rw [List.length_map];exact fun h=>h.elim hr0 (fun h=>h h40))]
      refine zeC form b2 bd i _ hi40 r.length _ _ ⟨r,r.length,e.g,e.p,e.n,e.c,ys e.M,e.row++T,bo,cap,cur,rfl,rfl,hBr,by omega,fun x hx=>(hS x (List.mem_cons_of_mem _ hx)).mono (fun y hy=>List.mem_append_right _ hy) (Nat.le_refl _),he.row.rIn (by decide) he.all (by have:=he.le;show e.n≤1000;omega),rfl,Rw.pop (kC _ _▸hRw) (zaf r),H14.perm (List.Perm.cons _ (List.Perm.cons _ (List.Perm.cons _ (List.perm_append_comm_assoc (yw r) e.row T)))),(Is.of ⟨kr,kr,kr,kr,kr,kr,kr,trivial⟩)⟩ ?_;intro S' N' T' bo' cap' cur' ρ' ww' h1 h2 h3 h4 h5 h6 h7 h8;exact hQ S' N' T' bo' cap' cur' ρ' ww' h1 h2 h3 h4 (by rw [hst,h5]) h6 h7 h8
     ·refine rL [.v,.E (.bool ((r.length:Int)==0)) (.bool false) (za (beq_eq_false_iff_ne.2 (by omega))),.v,.v,.v,.o (ins:=[((.tmp 51),.slice (some ⟨bo,0,none⟩) (r.length+1) cap),((.tmp 52),.int .i64 (r.length:Int))]) (v:=.pointer (some ⟨bo,0+r.length*2,none⟩)) (fun ρ o w ho hi2=>yD (kd:=.i64) (t:=60) (e:=62) (K:=2) (bytes:=32) kr (x:=(.tmp 51)) (y:=(.tmp 52)) bo 0 (r.length+1) cap r.length rfl ho hi2.1 hi2.2.1 (by omega) w),.v,.ls 2 (C:=cur) (off:=0+r.length*2) (v:=.int .u8 ((e.g:Nat):Int)) htop.2.2.1,.E (.bool (!(((e.g:Nat):Int)==40))) (.bool true) (za (by rw [beq_eq_false_iff_ne.2 (by omega)];rfl)),.v] H11 kr fun gs7 w10 H12=>wW<|zf kr kr<|rS [.v,.s 1,.v] H12 kr fun gs8 w11 H13=>zl kr ?_;have H14:St B w0 w11 ((bd,kdO c none 0 0)::(b2,kdO 0 none 0 0)::(bo,kR cur)::(yw (e::r)++T)):=H13.as kr;refine hbad ?_ _ w11 bd _ _ H14 kr kr;rw [hc];unfold jc;rw [if_neg hnl,if_neg hno,if_pos h41];show (if (r.map _).length=0∨e.g≠40 then none else some _)=none;rw [if_pos (.inr h40)]
   ·refine rS [.E (.bool ((c:Int)==41)) (.bool false) (za (beq_eq_false_iff_ne.2 (by omega))),.v] H10 kr fun gs6 w9 H11=>zi kr kr<|rS [.v,.s 1,.v] H11 kr fun gs7 w10 H12=>zl kr ?_;have H13:St B w0 w10 ((bd,kdO c none 0 0)::(b2,kdO 0 none 0 0)::(bo,kR cur)::(yw (e::r)++T)):=H12.as kr;refine hbad ?_ _ w10 bd _ _ H13 kr kr;rw [hc];unfold jc;rw [if_neg hnl,if_neg hno,if_neg h41]
theorem kB.cases {t:ByteArray}{v:Value}{T:List (Nat×Obj)}(h:kB t v T):(∃(l:Bool) (s:ByteArray) (p:Option Addr) (n c:Nat) (k:Fo),v=.tuple #[.agg #[.bool l,.string s,.slice p n c],.int .i64 0]∧yc t l s k ⟨#[]⟩∧SlIn T p n k∧s.size≤t.size∧dp1 l (dpF k)≤8∧t.size≤4000)∨(∃e:Int,e≠0∧v=erV e∧T=[]):=by
 rcases h with ⟨_,rfl,rfl⟩|⟨h4,⟨l,s,p,n,c,k,rfl,h1,h2,h3,h5⟩|⟨_,_,_,_,_,rfl,rfl⟩|⟨_,rfl,rfl⟩⟩
 ·exact .inr ⟨2,by decide,rfl,rfl⟩
 ·exact .inl ⟨l,s,p,n,c,k,rfl,h1,h2,h3,h5,h4⟩
 ·exact .inr ⟨5,by decide,rfl,rfl⟩
 ·exact .inr ⟨4,by decide,rfl,rfl⟩
theorem zi1 {l:Bool}{s:ByteArray}{k:Fo}{v:Value}{T:List (Nat×Obj)}(h0:(zP l s k.len k).2=0)(h:kB (zP l s k.len k).1 v T):∃(p:Option Addr) (n c:Nat),v=.tuple #[.agg #[.bool l,.string s,.slice p n c],.int .i64 0]∧SlIn T p n k:=by
 obtain ⟨he,hm,hp,hc,hd,hz,hl⟩:=vz h0;have hsz:(zP l s k.len k).1.size=(wr1 l s (szF k) (wrF k)).length:=by rw [he,qh]
 have htl:tl (zP l s k.len k).1=wr1 l s (szF k) (wrF k):=by rw [he,qm]
 have hpay:=uE hm hz;have key: ∀(l2:Bool) (s2:ByteArray) (k2:Fo),yc (zP l s k.len k).1 l2 s2 k2 ⟨#[]⟩→l=l2∧s=s2∧k=k2:=fun l2 s2 k2 ⟨hm2,hp2,hi2⟩=>by
  have hi3:wr1 l s (szF k) (wrF k)++ []=wr1 l2 s2 (szF k2) (wrF k2)++ []:=by rw [List.append_nil,←htl,hi2];rfl
  have hlen:=congrArg List.length hi3;rw [List.length_append,List.length_append,hl,qn hm2 (ye hp2)] at hlen;have hpay2:=uE hm2 (show sz1 l2 s2 (szF k2)≤4000 by simp only [List.length_nil] at hlen;omega);obtain ⟨a,b,c,_⟩:=vy hm hm2 (ye hp).symm (ye hp2).symm (by omega) (by omega) (fun q=>kx k k2 hp hp2 (by rw [ye hp];omega) q) hi3;exact ⟨a,b,c⟩
 rcases h with ⟨h4,_⟩|⟨_,⟨l2,s2,p,n,c,k2,rfl,h1,h2,_⟩|⟨l2,s2,k2,h1,h2,_⟩|⟨hb,_⟩⟩
 ·omega
 ·obtain ⟨rfl,rfl,rfl⟩:=key l2 s2 k2 h1;exact ⟨p,n,c,rfl,h2⟩
 ·obtain ⟨rfl,rfl,rfl⟩:=key l2 s2 k2 h1;omega
 ·exact absurd htl (hb l s k hm hp)
theorem yc.inj {t:ByteArray}{l l':Bool}{s s':ByteArray}{k k':Fo}(ht:t.size≤4000)(h:yc t l s k ⟨#[]⟩)(h':yc t l' s' k' ⟨#[]⟩):l=l'∧s=s'∧k=k':=by
 obtain ⟨hm,hp,hi⟩:=h;obtain ⟨hm2,hp2,hi2⟩:=h';have hlen:=congrArg List.length hi;have hlen2:=congrArg List.length hi2;rw [zt,List.length_append,qn hm (ye hp)] at hlen;rw [zt,List.length_append,qn hm2 (ye hp2)] at hlen2;have h1:=uE hm (show sz1 l s (szF k)≤4000 by omega);have h2:=uE hm2 (show sz1 l' s' (szF k')≤4000 by omega);obtain ⟨a,b,c,_⟩:=vy hm hm2 (ye hp).symm (ye hp2).symm (by omega) (by omega) (fun q=>kx k k' hp hp2 (by rw [ye hp];omega) q) (hi.symm.trans hi2);exact ⟨a,b,c⟩
theorem vK {l:Bool}{s t:ByteArray}{k:Fo}(h:zP l s k.len k=(t,0)):yc t l s k ⟨#[]⟩:=by
 obtain ⟨he,hm,hp,_⟩:=vz (show (zP l s k.len k).2=0 by rw [h]);refine ⟨hm,hp,?_⟩;have e:t=zh (wr1 l s (szF k) (wrF k)):=by rw [←he,h]
 rw [e,qm];exact (List.append_nil _).symm
def zag (form:ByteArray)(v:Value)(T:List (Nat×Obj)):Prop:=
 (∃(p:Option Addr) (n c:Nat) (k:Kf),parseM form=some k∧v=.tuple #[knd 40 p n c,.bool true]∧RIn kS T p n k)∨
 (parseM form=none∧∃(g:Nat) (p:Option Addr) (n c:Nat),v=.tuple #[knd g p n c,.bool false])
theorem zi2 (s:ByteArray)(i:Nat)(h:i<s.size):(tl s).drop i=(tl s).getD i 0::(tl s).drop (i+1):=by
 have h1:i<(tl s).length:=h;rw [List.drop_eq_getElem_cons h1,List.getD_eq_getElem?_getD,List.getElem?_eq_getElem h1];rfl
theorem zi3: ∀ {S:List Sk},Bot S→1≤S.length
 | [],h=>h.elim
 | e::r,_=>by simp
theorem zeE (form:ByteArray):FnT Tryz.prog 40 #[.string form] (fun _=>True) (zag form):=by
 refine FnT.intro (c:=zk Tryz.f40) [.cell 2 62,.tmp 3] 101 Tryz.func40 kr kr kr fun w _=>?_;have H0:=St.start w;refine rS [.a,.v] H0 kr fun gs1 w1 H1=>?_;clear H0;refine ziW kr<|zb kr ?_;by_cases h40:40<form.size
 ·refine rS [.v,.v,.E (.bool (decide ((40:Int)<(ByteArray.size form:Int)))) (.bool true) (za (decide_eq_true (by omega)))] H1 kr fun gs2 w2 H2=>zf kr kr<|rS [.v,.s 0,.v] H2 kr fun gs3 w3 H3=>rRr [.cell 2 62,.tmp 3] [0] (.tuple #[knd 0 none 0 0,.bool false]) (yp w.heap.size w (zag form)) H3 kr ?_;exact ⟨[],.inr ⟨by unfold parseM;rw [if_pos h40],_,_,_,_,rfl⟩,H3.sub (List.nil_sublist _)⟩
 ·refine rS [.v,.v,.E (.bool (decide ((40:Int)<(ByteArray.size form:Int)))) (.bool false) (za (decide_eq_false (by omega)))] H1 kr fun gs2 w2 H2=>zi kr kr<|zj kr<|wW<|rS [.v,.nw (fun b=>.slice (some ⟨b,0,none⟩) 1 1) #[.int .u8 40,.slice none 0 0] 62,.v] H2 kr fun gs3 w3 H3=>zb kr<|ziX 0 kr<|wW<|zb kr<|rS [.v,.v,.v] H3 kr fun gs4 w4 H4=>zn 0 kr ?_;have H5:St w.heap.size w w4 (((gs1 0).b,kdO 0 none 0 0)::((gs3 1).b,kR #[.int .u8 40,.slice none 0 0])::(yw [⟨40,none,0,0,[],[]⟩]++ [])):=H4.as kr;have hpm:parseM form=match xE (tl form) [(40,.nil)] with | some [(_,m)]=>some m | _=>none:=by unfold parseM;rw [if_neg h40]<;>rfl
  clear H1 H2 H3 H4;refine zV kr (fun mz ρ ww=> ∃(i:Nat) (st:List (Nat×Kf)),form.size-i=mz∧i≤form.size∧xE ((tl form).drop i) st=xE (tl form) [(40,.nil)]∧ziZ w.heap.size w form (gs1 0).b i st ρ ww) (form.size-0)
   ⟨0,[(40,.nil)],rfl,Nat.zero_le _,rfl,[⟨40,none,0,0,[],[]⟩],1,[],(gs3 1).b,1,#[.int .u8 40,.slice none 0 0],rfl,.inl ⟨rfl,rfl⟩,by decide,(fun x hx=>by
    obtain rfl:=List.mem_singleton.1 hx
    exact ⟨.inl ⟨rfl,rfl,rfl,rfl,rfl⟩,(fun _ h=>nomatch h),Nat.zero_le _⟩),rfl,⟨rfl,Nat.le_refl _,by unfold maxLen;omega,rfl,rfl⟩,H5,(Is.of ⟨kr,kr,kr,kr,kr,kr,trivial⟩)⟩ ?_
  clear H5;rintro _ _ w5 ⟨i,_,rfl,hi,hst,S,N,T,bo,cap,cur,hN,hBot,hN5,hS,rfl,hRw,H6,_,rfl⟩;by_cases hlt:i<form.size
  ·refine rS [.E (.bool (decide ((i:Int)<(form.size:Int)))) (.bool true) (za (decide_eq_true (by omega)))] H6 kr fun gs5 w6 H7=>zb kr<|zf kr kr<|zj kr<|wW<|zb kr<|zn 1 kr ?_;have H8:St w.heap.size w w6 (((gs1 0).b,kdO 0 none 0 0)::(bo,kR cur)::(yw S++T)):=H7.as kr;have hstep: ∀x,jc (by_ form i) (stM S)=x→xE (tl form) [(40,.nil)]=match x with | none=>none | some st'=>xE ((tl form).drop (i+1)) st':=fun x hx=>by
    rw [←hst,zi2 form i hlt,←hx];rfl
   refine zi0 form (gs1 0).b i (by omega) hlt (by omega) S N T bo cap cur hN hBot hN5 hS hRw _ w6 H8 (Is.of ⟨kr,kr,kr,kr,kr,kr,trivial⟩) ?_ ?_
   ·intro hn ρ ww bd o l HS h3 h2;refine wV ?_;refine ⟨[.agg #[.int .u8 0,.slice none 0 0],.bool false],(.agg (b:=(gs1 0).b) #[.int .u8 0,.slice none 0 0] 62 (0,0) h2 (HS.get 1 kr) kr (.tmp (.bool false) h3 .nil)),[],.inr ⟨?_,0,none,0,0,rfl⟩,HS.sub (List.nil_sublist _)⟩;rw [hpm,hstep _ hn]
   ·intro S' N' T' bo' cap' cur' ρ ww h1 h2 h3 h4 h5 h6 h7 ⟨_,h8⟩;subst h8;refine wW<|rL [.E (.int .i64 (IntKind.i64.wrap ((i:Int)+1))) (.int .i64 ((i+1:Nat):Int)) (zd (zs (a:=i) (b:=1) (by omega))),.v] h7 kr fun gs6 w7 H9=>?_;show ∃m,_∧_;exact ⟨_,(by omega),i+1,stM S',rfl,hlt,(hstep _ h5).symm,S',N',T',bo',cap',cur',h1,h2,h3,h4,rfl,h6,H9.as kr,(Is.of ⟨kr,kr,kr,kr,kr,kr,trivial⟩)⟩
  ·obtain rfl:i=form.size:=by omega
   refine rS [.E (.bool (decide ((form.size:Int)<(form.size:Int)))) (.bool false) (za (decide_eq_false (by omega)))] H6 kr fun gs5 w6 H7=>zb kr<|zi kr kr<|zN 0 kr<|wW ?_;have hb1:=zi3 hBot;have hend:xE (tl form) [(40,.nil)]=some (stM S):=by
    rw [←hst,List.drop_of_length_le (by rw [zt];exact Nat.le_refl _)];rfl
   rw [hend] at hpm;obtain ⟨x,hx⟩:∃x,(opE S)[0]? =some x:=⟨_,List.getElem?_eq_getElem (by rw [zbP];omega)⟩
   have hat:=hRw.atE (S:=kS) hx;by_cases h1:N=1
   ·refine rS [.v,.o (ins:=[((.tmp 95),.slice (some ⟨bo,0,none⟩) N cap),((.const (.int .i64 0)),.int .i64 0)]) (v:=.pointer (some ⟨bo,0+0*2,none⟩)) (fun ρ o w ho hi2=>yD (kd:=.i64) (t:=60) (e:=62) (K:=2) (bytes:=32) kr (x:=(.tmp 95)) (y:=(.const (.int .i64 0))) bo 0 N cap 0 rfl ho hi2.1 hi2.2.1 (by omega) w),.lp 1 (C:=cur) (off:=0*2) (n:=2) (W:=#[.int .u8 ((x.a:Nat):Int),.slice x.p x.n x.c]) hat.1 hat.2,.v,.v,.E (.bool ((N:Int)==1)) (.bool true) (za (beq_iff_eq.2 (by omega))),.s 0,.v] H7 kr fun gs6 w7 H8=>rRr [.cell 2 62,.tmp 3] [0] (.tuple #[knd x.a x.p x.n x.c,.bool true]) (yp w.heap.size w (zag form)) H8 kr ?_;have H9:St w.heap.size w w7 (((gs1 0).b,kdO x.a x.p x.n x.c)::(bo,kR cur)::(yw S++T)):=H8.as kr;rcases S with _ | ⟨e,_ | ⟨e',r⟩⟩
    ·exact hBot.elim
    ·obtain rfl:e.el=x:=by simpa [opE] using hx
     have he:=hS e (List.mem_cons_self ..);have hg:e.g=40:=by
      rcases hBot with ⟨_,h⟩|h
      ·exact h
      ·exact h.elim
     refine ⟨e.row++T,.inl ⟨e.p,e.n,e.c,ys e.M,?_,?_,he.row.rIn (by decide) he.all (by have:=he.le;show e.n≤1000;omega)⟩,?_⟩
     ·rw [hpm];rfl
     ·show Value.tuple #[knd e.g e.p e.n e.c,.bool true]=_;rw [hg]
     ·have H10:=H9.sub (List.Sublist.cons _ (List.sublist_cons_self ..));have e2:yw [e]++T=e.row++T:=by show (e.row++ [])++T=_;rw [List.append_nil]
      rw [e2] at H10;exact H10
    ·exact absurd (hN.symm.trans h1) (by simp)
   ·refine rS [.v,.o (ins:=[((.tmp 95),.slice (some ⟨bo,0,none⟩) N cap),((.const (.int .i64 0)),.int .i64 0)]) (v:=.pointer (some ⟨bo,0+0*2,none⟩)) (fun ρ o w ho hi2=>yD (kd:=.i64) (t:=60) (e:=62) (K:=2) (bytes:=32) kr (x:=(.tmp 95)) (y:=(.const (.int .i64 0))) bo 0 N cap 0 rfl ho hi2.1 hi2.2.1 (by omega) w),.lp 1 (C:=cur) (off:=0*2) (n:=2) (W:=#[.int .u8 ((x.a:Nat):Int),.slice x.p x.n x.c]) hat.1 hat.2,.v,.v,.E (.bool ((N:Int)==1)) (.bool false) (za (beq_eq_false_iff_ne.2 (by omega))),.s 0,.v] H7 kr fun gs6 w7 H8=>rRr [.cell 2 62,.tmp 3] [0] (.tuple #[knd x.a x.p x.n x.c,.bool false]) (yp w.heap.size w (zag form)) H8 kr ?_;refine ⟨[],.inr ⟨?_,_,_,_,_,rfl⟩,H8.sub (List.nil_sublist _)⟩;rw [hpm];rcases S with _ | ⟨e,_ | ⟨e',r⟩⟩
    ·exact hBot.elim
    ·exact absurd hN h1
    ·rfl
def jq (x:ByteArray×Nat):Value:=.tuple #[.string x.1,.int .i64 ((x.2:Nat):Int)]
theorem zeF (g:Nat)(p:Option Addr)(n c:Nat)(b:Kf)(m:Nat)(s:ByteArray)(p2:Option Addr)(n2 c2:Nat)(l:Fe)(hm:m<0x10000000000000000)(hs:s.size≤0x800000000000):
 FnP Tryz.prog 41 #[knd g p n c,fld m s p2 n2 c2] (fun w=>SlR kS w.heap.size w p n b∧SlR fS w.heap.size w p2 n2 l) (jq (yI g b (m,s) l)):=by
 refine FnP.intro (c:=zk Tryz.f41) [.tmp 4,.tmp 5] 16 Tryz.func41 kr kr kr fun w hpre=>?_;have H0:=St.start w;obtain ⟨hK,hF⟩:=hpre;refine rS [.b,.b,.v,.v] H0 kr fun gs1 w1 H1=>?_;clear H0;refine zb kr ?_;unfold yI;by_cases hl:yf g b (m,s) l 1001<0
 ·rw [if_pos hl];refine rS [.l 0,.l 1,.cp (pre:=fun w=>SlR kS w.heap.size w p n b∧SlR fS w.heap.size w p2 n2 l) (zew l g p n c b m s p2 n2 c2 1001) [] (fun w hb hd=>⟨hK.call hb,hF.call hb⟩),.E (.bool (decide (yf g b (m,s) l 1001<0))) (.bool true) (za (decide_eq_true hl))] H1 kr fun gs2 w2 H2=>zf kr kr<|rS [.v,.v] H2 kr fun gs3 w3 H3=>?_;exact rR [.tmp 4,.tmp 5] [] (jq (⟨#[]⟩,1)) H3 kr
 ·rw [if_neg hl];refine rS [.l 0,.l 1,.cp (pre:=fun w=>SlR kS w.heap.size w p n b∧SlR fS w.heap.size w p2 n2 l) (zew l g p n c b m s p2 n2 c2 1001) [] (fun w hb hd=>⟨hK.call hb,hF.call hb⟩),.E (.bool (decide (yf g b (m,s) l 1001<0))) (.bool false) (za (decide_eq_false hl))] H1 kr fun gs2 w2 H2=>zi kr kr<|zj kr<|wW<|zg [0,1,2,3,4,5,6,7] kr kr<|rp [.l 0,.l 1] H2 kr fun gs3 w3 H3=>wX [2,3,4,5,6,7]<|qy H3 (some 12) 66 #[knd g p n c,fld m s p2 n2 c2] (ziQ l g p n c b m s p2 n2 c2 1001 hm (Int.not_lt.1 hl)) ⟨hK.call H3.below,hF.call H3.below⟩ kr kr ?_;intro v T w4 hok H4;obtain ⟨q1,q2,q3,rfl,hsl⟩:=hok;refine yJ H4 (some 13) 65 #[itm (zR g) (zQ g (m,s)) q1 q2 q3] _ _ (zhE (zR g) (zQ g (m,s)) q1 q2 q3 (zA g b l) (zaa hs)) (hsl.at H4 fun e he=>List.mem_append_left _ he) (fun w=>by kernel_rfl) kr ?_;intro w5 H5;rw [hsl.1];have H6:=H5.sub (List.nil_sublist _);refine rp [.v,.v,.v,.v] H6 kr fun gs4 w6 H7=>wX []<|zc ?_;exact rR [.tmp 4,.tmp 5] [] (jq (zP (zR g) (zQ g (m,s)) (zA g b l).len (zA g b l))) H7 kr
def wrV (form:ByteArray)(l:Fe):ByteArray×Nat:=match parseM form with
 | none=>(⟨#[]⟩,1)
 | some k=>yI 40 k (0,⟨#[]⟩) l
theorem zi4 (form:ByteArray)(p:Option Addr)(n c:Nat)(l:Fe):FnP Tryz.prog 22 #[.string form,.slice p n c] (fun w=>SlR fS w.heap.size w p n l) (jq (wrV form l)):=by
 refine FnP.intro (c:=zk Tryz.f22) [.tmp 4,.tmp 5] 21 Tryz.func22 kr kr kr fun w hF=>?_;have H0:=St.start w;refine rS [.v,.v] H0 kr fun gs1 w1 H1=>?_;clear H0;refine zg [0,1,2,3,4,5,6,7] kr kr<|rp [.v] H1 kr fun gs2 w2 H2=>wX [1,2,3,4,5,6,7]<|qy H2 (some 10) 40 #[.string form] (zeE form) trivial kr kr ?_;intro v T w3 hok H3;unfold wrV;rcases hok with ⟨q1,q2,q3,k,hp,rfl,hk⟩ | ⟨hp,g',q1,q2,q3,rfl⟩
 ·rw [hp];refine rp [.v,.v,.v] H3 kr fun gs3 w4 H4=>wX [5,6,7] ?_;have H5:St w.heap.size w w4 (T++ []):=H4.as kr;refine zB H5 (some 6) 62 (.agg #[.int .u8 0,.slice none 0 0]) kr kr kr ?_;intro b6 w5 H6;refine rp [.s 0,.v] H6 kr fun gs4 w6 H7=>wX []<|zc<|zb kr<|rS [.v,.v] H7 kr fun gs5 w7 H8=>zi kr kr<|zj kr<|wW<|zg [0,1,2,3,4,5,6,7] kr kr<|rp [.l 0,.v,.v] H8 kr fun gs6 w8 H9=>wX [3,4,5,6,7] ?_;have H10:St w.heap.size w w8 ((b6,kdO 40 q1 q2 q3)::(T++ [])):=H9.as kr;refine yJ H10 (some 18) 41 #[knd 40 q1 q2 q3,fld 0 ⟨#[]⟩ p n c] _ _ (zeF 40 q1 q2 q3 k 0 ⟨#[]⟩ p n c l (by decide) (by decide)) ⟨hk.at H10 fun e he=>List.mem_cons_of_mem _ (List.mem_append_left _ he),hF.call H10.below⟩ (fun w=>by kernel_rfl) kr ?_;intro w9 H11;have H12:=H11.sub (List.nil_sublist _);refine rp [.v,.v,.v,.v] H12 kr fun gs7 w10 H13=>wX []<|zc ?_;exact rR [.tmp 4,.tmp 5] [] (jq (yI 40 k (0,⟨#[]⟩) l)) H13 kr
 ·rw [hp];refine rp [.v,.v,.v] H3 kr fun gs3 w4 H4=>wX [5,6,7] ?_;have H5:St w.heap.size w w4 (T++ []):=H4.as kr;refine zB H5 (some 6) 62 (.agg #[.int .u8 0,.slice none 0 0]) kr kr kr ?_;intro b6 w5 H6;refine rp [.s 0,.v] H6 kr fun gs4 w6 H7=>wX []<|zc<|zb kr<|rS [.v,.v] H7 kr fun gs5 w7 H8=>zf kr kr ?_;have H9:=H8.sub (List.nil_sublist _);refine rS [.v,.v] H9 kr fun gs6 w8 H10=>?_;exact rR [.tmp 4,.tmp 5] [] (jq (⟨#[]⟩,1)) H10 kr
def jK (form s:ByteArray)(v:Value)(T:List (Nat×Obj)):Prop:=
 (∃(p:Option Addr) (n c:Nat) (l:Fe) (k:Kf),parseM form=some k∧v=.tuple #[.slice p n c,.int .i64 0]∧RIn fS T p n l∧yI 40 k (0,⟨#[]⟩) l=(s,0))∨
 (∃e:Int,e≠0∧v=.tuple #[.slice none 0 0,.int .i64 e]∧ ∀(k:Kf) (l:Fe),parseM form=some k→l.all fS.ok→yI 40 k (0,⟨#[]⟩) l≠(s,0))
theorem zi5 (l:Bool)(s:ByteArray)(n:Nat)(k:Fo):(zP l s n k).2=0∨(zP l s n k).1=⟨#[]⟩:=by
 unfold zP;split
 ·exact .inr rfl
 ·split
  ·exact .inr rfl
  ·split
   ·exact .inr rfl
   ·exact .inl rfl
theorem xf {k:Kf}{l:Fe}{s:ByteArray}(h:yI 40 k (0,⟨#[]⟩) l=(s,0)): ¬yf 40 k (0,⟨#[]⟩) l 1001<0∧zP true ⟨#[]⟩ (zA 40 k l).len (zA 40 k l)=(s,0):=by
 unfold yI at h;by_cases hl:yf 40 k (0,⟨#[]⟩) l 1001<0
 ·rw [if_pos hl] at h;exact absurd (congrArg Prod.snd h) Nat.one_ne_zero
 ·rw [if_neg hl] at h;exact ⟨hl,h⟩
theorem zi6 (k:Kf)(l:Fe):(yI 40 k (0,⟨#[]⟩) l).2=0∨(yI 40 k (0,⟨#[]⟩) l).1=⟨#[]⟩:=by
 unfold yI;split
 ·exact .inr rfl
 ·exact zi5 ..
theorem zi7 {k:Kf}{l:Fe}{s:ByteArray}{v:Value}{T:List (Nat×Obj)}(h:yI 40 k (0,⟨#[]⟩) l=(s,0))(ho:l.all fS.ok)(hd:kB s v T):
 ∃(p:Option Addr) (n c:Nat),v=.tuple #[.agg #[.bool true,.string ⟨#[]⟩,.slice p n c],.int .i64 0]∧SlIn T p n (zA 40 k l)∧yh 40 k (zA 40 k l)=l:=by
 obtain ⟨hl,he⟩:=xf h;have h1:(zP true ⟨#[]⟩ (zA 40 k l).len (zA 40 k l)).2=0:=by rw [he]
 have h2:kB (zP true ⟨#[]⟩ (zA 40 k l).len (zA 40 k l)).1 v T:=by rw [he];exact hd
 obtain ⟨p,n,c,hv,hT⟩:=zi1 h1 h2;exact ⟨p,n,c,hv,hT,(vG (by decide) ho hl).2.2⟩
theorem zi8 {t:ByteArray}{l:Bool}{s:ByteArray}{k:Fo}(h:yc t l s k ⟨#[]⟩):t≠⟨#[]⟩:=fun e=>by
 obtain ⟨hm,hp,hi⟩:=h;have h1:=(jz hm hp rfl).1;have h2:=congrArg List.length hi;rw [e,List.length_append] at h2;have h3:(tl (⟨#[]⟩:ByteArray)).length=0:=rfl;omega
theorem zeG {form:ByteArray}{ks:List ByteArray}(hK:xF form ks)(l:Fe):wrV form l=if yt ks l=true∧l.cnt≤1000 then zP true emB (yu l 40 (kfL ks) 0).len (yu l 40 (kfL ks) 0) else (emB,1):=by
 unfold wrV;rw [hK.parse];show yI 40 (kfL ks) (0,⟨#[]⟩) l=_;unfold yI;by_cases h:yt ks l=true∧l.cnt≤1000
 ·rw [if_pos h,if_neg ((uU hK.kd l).2 h)];rfl
 ·rw [if_neg h,if_pos];by_cases hn:yf 40 (kfL ks) (0,⟨#[]⟩) l 1001<0
  ·exact hn
  ·exact absurd ((uU hK.kd l).1 hn) h
theorem jr {ks:List ByteArray}(x:Nat×ByteArray)(l r:Fe)(i:Nat)(hi:i<ks.length):yu (.cons x l r) 40 (kfL ks) i=.cons (zR (by_ ks[i] 0)) (zQ (by_ ks[i] 0) x) (zA (by_ ks[i] 0) (kdB ks[i]) l) (yu r 40 (kfL ks) (i+1)):=by
 rw [vF,zbE,List.getElem?_eq_getElem hi]
abbrev fO (p:Option Addr)(n c:Nat):Obj:=.cells #[wZ,.string ⟨#[]⟩,.slice p n c] 44 (0,0)
theorem zi9 (form s:ByteArray)(hs:s.size≤0x800000000000):FnT Tryz.prog 36 #[.string form,.string s] (fun _=>True) (jK form s):=by
 refine FnT.intro (c:=zk Tryz.f36) [.tmp 4,.tmp 5] 42 Tryz.func36 kr kr kr fun w _=>?_;have H0:=St.start w;refine rS [.v,.v] H0 kr fun gs1 w1 H1=>?_;clear H0;refine zg [0,1,2,3,4,5,6,7] kr kr<|rp [.v] H1 kr fun gs2 w2 H2=>wX [1,2,3,4,5,6,7]<|qy H2 (some 15) 40 #[.string form] (zeE form) trivial kr kr ?_;intro v T w3 hok H3;rcases hok with ⟨q1,q2,q3,k,hp,rfl,hk⟩ | ⟨hp,g',q1,q2,q3,rfl⟩
 ·refine rp [.v,.v,.v] H3 kr fun gs3 w4 H4=>wX [5,6,7] ?_;have H5:St w.heap.size w w4 (T++ []):=H4.as kr;refine zB H5 (some 6) 62 (.agg #[.int .u8 0,.slice none 0 0]) kr kr kr ?_;intro b6 w5 H6;refine rp [.s 0,.v] H6 kr fun gs4 w6 H7=>wX []<|zc<|zb kr<|rS [.v,.v] H7 kr fun gs5 w7 H8=>zi kr kr<|zj kr<|wW<|zg [0,1,2,3,4,5,6,7] kr kr<|rp [.v] H8 kr fun gs6 w8 H9=>wX [1,2,3,4,5,6,7] ?_;have H10:St w.heap.size w w8 ((b6,kdO 40 q1 q2 q3)::(T++ [])):=H9.as kr;refine vD H10 (some 22) 58 #[.string s] (ziz s hs) kr kr ?_;intro vd Td w9 hdec H11;rcases hdec.cases with ⟨l1,s1,p1,n1,c1,k1,rfl,hit,hsl,hs1,hdp,h4⟩ | ⟨er,her,rfl,rfl⟩
  ·refine rp [.v,.v,.v] H11 kr fun gs7 w10 H12=>wX [5,6,7] ?_;have H13:St w.heap.size w w10 (Td++((b6,kdO 40 q1 q2 q3)::(T++ []))):=H12.as kr;refine zB H13 (some 8) 83 (.agg #[.bool false,.string ⟨#[]⟩,.slice none 0 0]) kr kr kr ?_;intro b8 w11 H14;refine rp [.s 0,.v] H14 kr fun gs8 w12 H15=>wX []<|zc ?_;have H16:St w.heap.size w w12 ((b8,ixO l1 s1 p1 n1 c1)::(Td++((b6,kdO 40 q1 q2 q3)::(T++ [])))):=H15.as kr;have H17:St w.heap.size w w12 ((b6,kdO 40 q1 q2 q3)::(b8,ixO l1 s1 p1 n1 c1)::(Td++T)):=by
    refine H16.perm ?_;rw [List.append_nil];exact (List.Perm.swap _ _ _).trans (List.Perm.cons _ List.perm_middle.symm)
   refine zb kr<|rS [.v,.v] H17 kr fun gs9 w13 H18=>zi kr kr<|zj kr<|wW<|zg [0,1,2,3,4] kr kr<|rp [.l 0,.l 1] H18 kr fun gs10 w14 H19=>wX [2,3,4] ?_;have H20:St w.heap.size w w14 ((b6,kdO 40 q1 q2 q3)::(b8,ixO l1 s1 p1 n1 c1)::(Td++T)):=H19.as kr;have hcnt:=hit.sz.2;refine qy H20 (some 30) 59 #[knd 40 q1 q2 q3,itm l1 s1 p1 n1 c1] (ziT k1 40 q1 q2 q3 k l1 s1 p1 n1 c1 (by omega) (by omega)) ⟨hk.at H20 fun e he=>List.mem_cons_of_mem _ (List.mem_cons_of_mem _ (List.mem_append_right _ he)),hsl.at H20 fun e he=>List.mem_cons_of_mem _ (List.mem_cons_of_mem _ (List.mem_append_left _ he))⟩ kr kr ?_;intro vf Tf w15 hfld H21;obtain ⟨pf,nf,cf,rfl,hTf⟩:=hfld;refine zB H21 (some 10) 44 (.agg #[wZ,.string ⟨#[]⟩,.slice none 0 0]) kr kr kr ?_;intro b10 w16 H22;refine rp [.s 0] H22 kr fun gs11 w17 H23=>wX []<|zc ?_;have H24:St w.heap.size w w17 ((b10,fO pf nf cf)::(Tf++((b6,kdO 40 q1 q2 q3)::(b8,ixO l1 s1 p1 n1 c1)::(Td++T)))):=H23.as kr;have H25:St w.heap.size w w17 ((b10,fO pf nf cf)::(b6,kdO 40 q1 q2 q3)::(b8,ixO l1 s1 p1 n1 c1)::(Tf++(Td++T))):=
    H24.perm (List.Perm.cons _ (List.perm_append_comm_assoc Tf [(b6,kdO 40 q1 q2 q3),(b8,ixO l1 s1 p1 n1 c1)] (Td++T)).symm)
   refine zb kr<|zg [0,1,2,3,4,5,6,7] kr kr<|rp [.l 1,.l 0] H25 kr fun gs12 w18 H26=>wX [2,3,4,5,6,7] ?_;have H27:St w.heap.size w w18 ((b10,fO pf nf cf)::(b6,kdO 40 q1 q2 q3)::(b8,ixO l1 s1 p1 n1 c1)::(Tf++(Td++T))):=H26.as kr;have hmF: ∀e∈Tf,e∈(b10,fO pf nf cf)::(b6,kdO 40 q1 q2 q3)::(b8,ixO l1 s1 p1 n1 c1)::(Tf++(Td++T)):=fun e he=>List.mem_cons_of_mem _ (List.mem_cons_of_mem _ (List.mem_cons_of_mem _ (List.mem_append_left _ he)));have hmK: ∀e∈T,e∈(b10,fO pf nf cf)::(b6,kdO 40 q1 q2 q3)::(b8,ixO l1 s1 p1 n1 c1)::(Tf++(Td++T)):=fun e he=>List.mem_cons_of_mem _ (List.mem_cons_of_mem _ (List.mem_cons_of_mem _ (List.mem_append_right _ (List.mem_append_right _ he))));have hok:=(hTf.at H27 hmF).ok;refine yJ H27 (some 34) 41 #[knd 40 q1 q2 q3,fld 0 ⟨#[]⟩ pf nf cf] _ _ (zeF 40 q1 q2 q3 k 0 ⟨#[]⟩ pf nf cf (yh 40 k k1) (by decide) (by decide)) ⟨hk.at H27 hmK,hTf.at H27 hmF⟩ (fun w=>by kernel_rfl) kr ?_;intro w19 H28;refine rp [.v,.v,.v,.v,.v] H28 kr fun gs13 w20 H29=>wX []<|zc ?_;by_cases hmade:(yI 40 k (0,⟨#[]⟩) (yh 40 k k1)).1=s
   ·refine rS [.v,.v,.E (.bool (!((yI 40 k (0,⟨#[]⟩) (yh 40 k k1)).1.toList==s.toList))) (.bool false) (za (by rw [zL _ _ hmade];rfl))] H29 kr fun gs14 w21 H30=>zi kr kr<|zj kr<|wW<|rS [.v,.l 0,.v,.v] H30 kr fun gs15 w22 H31=>rRr [.tmp 4,.tmp 5] [] (.tuple #[.slice pf nf cf,.int .i64 0]) (yp w.heap.size w (jK form s)) H31 kr ?_;have H32:St w.heap.size w w22 ((b10,fO pf nf cf)::(b6,kdO 40 q1 q2 q3)::(b8,ixO l1 s1 p1 n1 c1)::(Tf++(Td++T))):=H31.as kr;refine ⟨Tf,.inl ⟨pf,nf,cf,yh 40 k k1,k,hp,rfl,hTf,?_⟩,H32.sub (List.Sublist.cons _ (List.Sublist.cons _ (List.Sublist.cons _ (List.sublist_append_left _ _))))⟩;rcases zi6 k (yh 40 k k1) with h | h
    ·exact Prod.ext hmade h
    ·exact absurd (hmade.symm.trans h) (zi8 hit)
   ·refine rS [.v,.v,.E (.bool (!((yI 40 k (0,⟨#[]⟩) (yh 40 k k1)).1.toList==s.toList))) (.bool true) (za (by rw [yA _ _ hmade];rfl))] H29 kr fun gs14 w21 H30=>zf kr kr<|rS [.v,.v] H30 kr fun gs15 w22 H31=>rRr [.tmp 4,.tmp 5] [] (.tuple #[.slice none 0 0,.int .i64 4]) (yp w.heap.size w (jK form s)) H31 kr ?_;refine ⟨[],.inr ⟨4,by decide,rfl,fun k' l' hp' ho' hw'=>?_⟩,H31.sub (List.nil_sublist _)⟩;obtain rfl:k=k':=Option.some.inj (hp.symm.trans hp');obtain ⟨hl9,he9⟩:=xf hw';have hf:=(vG (by decide) ho' hl9).2.2;have hk9:=(yc.inj h4 hit (vK he9)).2.2;rw [hk9,hf,hw'] at hmade;exact hmade rfl
  ·have hno: ∀(k':Kf) (l':Fe),parseM form=some k'→l'.all fS.ok→yI 40 k' (0,⟨#[]⟩) l'≠(s,0):=fun k' l' _ ho' hw'=>by
    obtain ⟨p9,n9,c9,hv,_⟩:=zi7 hw' ho' hdec;unfold erV at hv;injection hv with hv;have h9:=congrArg (fun a:Array Value=>a[1]?) hv;simp at h9;exact her h9
   refine rp [.v,.v,.v] H11 kr fun gs7 w10 H12=>wX [5,6,7] ?_;have H13:St w.heap.size w w10 ([]++((b6,kdO 40 q1 q2 q3)::(T++ []))):=H12.as kr;refine zB H13 (some 8) 83 (.agg #[.bool false,.string ⟨#[]⟩,.slice none 0 0]) kr kr kr ?_;intro b8 w11 H14;refine rp [.s 0,.v] H14 kr fun gs8 w12 H15=>wX []<|zc<|zb kr<|rS [.v,.E (.bool (!(er==0))) (.bool true) (za (by rw [beq_eq_false_iff_ne.2 her];rfl))] H15 kr fun gs9 w13 H16=>zf kr kr<|rS [.v,.v,.v] H16 kr fun gs10 w14 H17=>rRr [.tmp 4,.tmp 5] [] (.tuple #[.slice none 0 0,.int .i64 er]) (yp w.heap.size w (jK form s)) H17 kr ?_;exact ⟨[],.inr ⟨er,her,rfl,hno⟩,H17.sub (List.nil_sublist _)⟩
 ·refine rp [.v,.v,.v] H3 kr fun gs3 w4 H4=>wX [5,6,7] ?_;have H5:St w.heap.size w w4 (T++ []):=H4.as kr;refine zB H5 (some 6) 62 (.agg #[.int .u8 0,.slice none 0 0]) kr kr kr ?_;intro b6 w5 H6;refine rp [.s 0,.v] H6 kr fun gs4 w6 H7=>wX []<|zc<|zb kr<|rS [.v,.v] H7 kr fun gs5 w7 H8=>zf kr kr<|rS [.v,.v] H8 kr fun gs6 w8 H10=>rRr [.tmp 4,.tmp 5] [] (.tuple #[.slice none 0 0,.int .i64 1]) (yp w.heap.size w (jK form s)) H10 kr ?_;exact ⟨[],.inr ⟨1,by decide,rfl,fun k l h=>by rw [hp] at h;cases h⟩,H10.sub (List.nil_sublist _)⟩
theorem zbQ {k:Kf}{l l':Fe}{s:ByteArray}(h:yI 40 k (0,⟨#[]⟩) l=(s,0))(h':yI 40 k (0,⟨#[]⟩) l'=(s,0))(ho:l.all fS.ok)(ho':l'.all fS.ok):l=l':=by
 obtain ⟨h1,h2⟩:=xf h;obtain ⟨h1',h2'⟩:=xf h';have hi:=vK h2;have hz:s.size≤4000:=by
  have:=vz (show (zP true ⟨#[]⟩ (zA 40 k l).len (zA 40 k l)).2=0 by rw [h2]);have h9:=congrArg ByteArray.size this.1;rw [h2,qh,this.2.2.2.2.2.2] at h9;simp only at h9;omega
 have e:=(yc.inj hz hi (vK h2')).2.2;rw [←(vG (by decide) ho h1).2.2,←(vG (by decide) ho' h1').2.2,e]
end Go.Proofs.YtbpmjppmpgeejaaGreatDoor
namespace Go.Proofs.YtbpmjppmpgeejaaGreatDoor
open Go.RowKit
def Wd (x:Int):Prop:=0≤x∧x<0x10000000000000000
def Bt (c:Int):Prop:=0≤c∧c≤1
def w0 (n:Nat):Int:=((n%0x10000000000000000:Nat):Int)
def w1 (n:Nat):Int:=((n / 0x10000000000000000%0x10000000000000000:Nat):Int)
def w2 (n:Nat):Int:=((n / 0x100000000000000000000000000000000%0x10000000000000000:Nat):Int)
def w3 (n:Nat):Int:=((n / 0x1000000000000000000000000000000000000000000000000%0x10000000000000000:Nat):Int)
def big:Nat:=0x10000000000000000000000000000000000000000000000000000000000000000
def mk4 (a b c d:Int):Nat:=(a+0x10000000000000000*b+0x100000000000000000000000000000000*c+0x1000000000000000000000000000000000000000000000000*d).toNat
theorem wd0 (n:Nat):Wd (w0 n):=by unfold Wd w0;omega
theorem wd1 (n:Nat):Wd (w1 n):=by unfold Wd w1;omega
theorem wd2 (n:Nat):Wd (w2 n):=by unfold Wd w2;omega
theorem wd3 (n:Nat):Wd (w3 n):=by unfold Wd w3;omega
theorem zah {a b c d:Int}(ha:Wd a)(hb:Wd b)(hc:Wd c)(hd:Wd d):mk4 a b c d<big:=by
 unfold Wd at*;unfold mk4 big;omega
theorem zbR {a b c d:Int}(ha:Wd a)(hb:Wd b)(hc:Wd c)(hd:Wd d):w0 (mk4 a b c d)=a:=by
 unfold Wd at*;unfold mk4 w0;omega
theorem zbS {a b c d:Int}(ha:Wd a)(hb:Wd b)(hc:Wd c)(hd:Wd d):w1 (mk4 a b c d)=b:=by
 unfold Wd at*;unfold mk4 w1;omega
theorem zbT {a b c d:Int}(ha:Wd a)(hb:Wd b)(hc:Wd c)(hd:Wd d):w2 (mk4 a b c d)=c:=by
 unfold Wd at*;unfold mk4 w2;omega
theorem zbU {a b c d:Int}(ha:Wd a)(hb:Wd b)(hc:Wd c)(hd:Wd d):w3 (mk4 a b c d)=d:=by
 unfold Wd at*;unfold mk4 w3;omega
theorem xg (n:Nat)(h:n<big):(n:Int)=w0 n+0x10000000000000000*w1 n+0x100000000000000000000000000000000*w2 n+0x1000000000000000000000000000000000000000000000000*w3 n:=by
 unfold big at h;unfold w0 w1 w2 w3;omega
theorem zeH {a b c d:Int}{n:Nat}(ha:Wd a)(hb:Wd b)(hc:Wd c)(hd:Wd d)
 (h:(n:Int)=a+0x10000000000000000*b+0x100000000000000000000000000000000*c+0x1000000000000000000000000000000000000000000000000*d):
 a=w0 n∧b=w1 n∧c=w2 n∧d=w3 n:=by
 have e:n=mk4 a b c d:=by unfold mk4;omega
 subst e;exact ⟨(zbR ha hb hc hd).symm,(zbS ha hb hc hd).symm,(zbT ha hb hc hd).symm,(zbU ha hb hc hd).symm⟩
theorem zja {n m:Nat}(hn:n<big)(hm:m<big)(h0:w0 n=w0 m)(h1:w1 n=w1 m)(h2:w2 n=w2 m)(h3:w3 n=w3 m):n=m:=by
 have a:=xg n hn;have b:=xg m hm;rw [h0,h1,h2,h3] at a;omega
def kD (x y c s d:Int):Prop:=x+y+c=s+0x10000000000000000*d∧Wd s∧Bt d
def kE (x y c s d:Int):Prop:=x-y-c=s-0x10000000000000000*d∧Wd s∧Bt d
def ov (a b:Nat):Bool:=decide (big≤a+b)
def sm (a b:Nat):Nat:=(a+b)%big
def lo (a b:Nat):Bool:=decide (a<b)
def df (a b:Nat):Nat:=(a+big-b)%big
theorem zjb {A B:Nat}(hA:A<big)(hB:B<big){s0 c0 s1 c1 s2 c2 s3 c3:Int}(h0:kD (w0 A) (w0 B) 0 s0 c0)(h1:kD (w1 A) (w1 B) c0 s1 c1)(h2:kD (w2 A) (w2 B) c1 s2 c2)(h3:kD (w3 A) (w3 B) c2 s3 c3):
 (s0=w0 (sm A B)∧s1=w1 (sm A B)∧s2=w2 (sm A B)∧s3=w3 (sm A B))∧(c3==1)=ov A B:=by
 have a:=xg A hA;have b:=xg B hB;obtain ⟨e0,d0,_⟩:=h0;obtain ⟨e1,d1,_⟩:=h1;obtain ⟨e2,d2,_⟩:=h2;obtain ⟨e3,d3,k3⟩:=h3;have key:(A:Int)+B=s0+0x10000000000000000*s1+0x100000000000000000000000000000000*s2+0x1000000000000000000000000000000000000000000000000*s3+0x10000000000000000000000000000000000000000000000000000000000000000*c3:=by omega
 have lt:=zah d0 d1 d2 d3;have em:((mk4 s0 s1 s2 s3:Nat):Int)=s0+0x10000000000000000*s1+0x100000000000000000000000000000000*s2+0x1000000000000000000000000000000000000000000000000*s3:=by
  unfold Wd at*;unfold mk4;omega
 constructor
 ·refine zeH d0 d1 d2 d3 ?_;rw [←em];unfold sm;unfold big at*;unfold Bt at*;omega
 ·unfold ov;rw [Bool.eq_iff_iff];simp only [beq_iff_eq,decide_eq_true_eq];unfold big at*;unfold Bt at*;omega
theorem zjc {A B:Nat}(hA:A<big)(hB:B<big){s0 c0 s1 c1 s2 c2 s3 c3:Int}(h0:kE (w0 A) (w0 B) 0 s0 c0)(h1:kE (w1 A) (w1 B) c0 s1 c1)(h2:kE (w2 A) (w2 B) c1 s2 c2)(h3:kE (w3 A) (w3 B) c2 s3 c3):
 (s0=w0 (df A B)∧s1=w1 (df A B)∧s2=w2 (df A B)∧s3=w3 (df A B))∧(c3==1)=lo A B:=by
 have a:=xg A hA;have b:=xg B hB;obtain ⟨e0,d0,_⟩:=h0;obtain ⟨e1,d1,_⟩:=h1;obtain ⟨e2,d2,_⟩:=h2;obtain ⟨e3,d3,k3⟩:=h3;have key:(A:Int)-B=s0+0x10000000000000000*s1+0x100000000000000000000000000000000*s2+0x1000000000000000000000000000000000000000000000000*s3-0x10000000000000000000000000000000000000000000000000000000000000000*c3:=by omega
 have lt:=zah d0 d1 d2 d3;have em:((mk4 s0 s1 s2 s3:Nat):Int)=s0+0x10000000000000000*s1+0x100000000000000000000000000000000*s2+0x1000000000000000000000000000000000000000000000000*s3:=by
  unfold Wd at*;unfold mk4;omega
 constructor
 ·refine zeH d0 d1 d2 d3 ?_;rw [←em];unfold df;unfold big at*;unfold Bt at*;omega
 ·unfold lo;rw [Bool.eq_iff_iff];simp only [beq_iff_eq,decide_eq_true_eq];unfold big at*;unfold Bt at*;omega
end Go.Proofs.YtbpmjppmpgeejaaGreatDoor
namespace Go.Proofs.Ec
set_option linter.unusedVariables false
set_option linter.unusedSectionVars false
section
variable {F:Type}[Lean.Grind.Field F]
structure zm0 (b k m x1 y1 x2 y2 x3 y3:F):Prop where
 e1:x1+x2+x3=k*k
 e2:x1*x2+x1*x3+x2*x3= -2*k*m
 e3:x1*x2*x3=m*m-b
 l1:y1=k*x1+m
 l2:y2=k*x2+m
 l3:y3=k*x3+m
inductive Pt (F:Type) where
 | zero
 | pt (x y:F)
 deriving DecidableEq
variable [DecidableEq F]
end
end Go.Proofs.Ec
namespace Go.Proofs.YtbpmjppmpgeejaaGreatDoor
set_option linter.unusedVariables false
def PrP (p:Nat):Prop:=1<p∧ ∀d,d∣p→d=1∨d=p
theorem zjd {n:Nat} : ∀k,(∃d,1<d∧d≤k∧d∣n)→∃r,1<r∧r∣n∧ ∀d,1<d→d∣n→r≤d
 | 0,⟨d,h1,h2,_⟩=>by omega
 | k+1,⟨d,h1,h2,h3⟩=>by
  by_cases h:∃d,1<d∧d≤k∧d∣n
  ·exact zjd k h
  ·have hd:d=k+1:=by
    rcases Nat.lt_or_ge k d with h' | h'
    ·omega
    ·exact absurd ⟨d,h1,h',h3⟩ h
   refine ⟨d,h1,h3,fun e he hen=>?_⟩;rcases Nat.lt_or_ge e d with h' | h'
   ·exact absurd ⟨e,he,by omega,hen⟩ h
   ·exact h'
def row (a r:Nat):Nat→List Nat
 | 0=>[]
 | n+1=>a*(n+1)%r::row a r n
end Go.Proofs.YtbpmjppmpgeejaaGreatDoor
namespace Go.Proofs.Zm
open Go.Proofs.YtbpmjppmpgeejaaGreatDoor
set_option linter.unusedVariables false
class PrM (M:Nat):Prop where
 pr:PrP M
 two:2<M
structure Zm (M:Nat) where
 v:Nat
 lt:v<M
section
variable {M:Nat}[hM:PrM M]
end
end Go.Proofs.Zm
namespace Go.Proofs.YtbpmjppmpgeejaaGreatDoor
open Go.ChangeShapes Go.WideShapes Go.ChangeAt Go.RowKit
set_option linter.unusedVariables false
@[reducible] def uv (n:Nat):Value:=.agg #[.int .u64 (w0 n),.int .u64 (w1 n),.int .u64 (w2 n),.int .u64 (w3 n)]
theorem kF {x y c:Int}(hx:Wd x)(hy:Wd y)(hc:Bt c):∃s d,(∀w,(callFunc 165 #[.int .u64 x,.int .u64 y,.int .u64 c]).run Tryz.prog w=.ok (.value (.tuple #[.int .u64 s,.int .u64 d])) w)∧kD x y c s d:=by
 obtain ⟨hx0,hx1⟩:=hx;obtain ⟨hy0,hy1⟩:=hy;obtain ⟨hc0,hc1⟩:=hc;obtain ⟨X,rfl⟩:=Int.eq_ofNat_of_zero_le hx0;obtain ⟨Y,rfl⟩:=Int.eq_ofNat_of_zero_le hy0;obtain ⟨C,rfl⟩:=Int.eq_ofNat_of_zero_le hc0;refine ⟨(((X+Y+C)%0x10000000000000000:Nat):Int),(((X+Y+C) / 0x10000000000000000:Nat):Int),fun w=>?_,?_⟩
 ·rw [run_callFunc_extern Tryz.func165 (by kernel_rfl) (by kernel_rfl) (by kernel_rfl) (e:=add64Entry) (by kernel_rfl),run_add64 X Y C (by omega) (by omega) (by omega) (by omega)];simp only [Result.andThen];congr 5<;>omega
 ·unfold kD Wd Bt;omega
theorem zai {x y c:Int}(hx:Wd x)(hy:Wd y)(hc:Bt c):∃s d,(∀w,(callFunc 162 #[.int .u64 x,.int .u64 y,.int .u64 c]).run Tryz.prog w=.ok (.value (.tuple #[.int .u64 s,.int .u64 d])) w)∧kE x y c s d:=by
 obtain ⟨hx0,hx1⟩:=hx;obtain ⟨hy0,hy1⟩:=hy;obtain ⟨hc0,hc1⟩:=hc;obtain ⟨X,rfl⟩:=Int.eq_ofNat_of_zero_le hx0;obtain ⟨Y,rfl⟩:=Int.eq_ofNat_of_zero_le hy0;obtain ⟨C,rfl⟩:=Int.eq_ofNat_of_zero_le hc0;refine ⟨(((X+0x10000000000000000-Y-C)%0x10000000000000000:Nat):Int),((if X<Y+C then 1 else 0:Nat):Int),fun w=>?_,?_⟩
 ·rw [run_callFunc_extern Tryz.func162 (by kernel_rfl) (by kernel_rfl) (by kernel_rfl) (e:=sub64Entry) (by kernel_rfl),run_sub64 X Y C (by omega)];rfl
 ·unfold kE Wd Bt;split<;>omega
theorem ix0 (x0 x1 x2 x3:Value)(w:World):(Instr.index 48 (.agg #[x0,x1,x2,x3]) (.int .i64 0)).run Tryz.prog w=.ok x0 w:=by kernel_rfl
theorem ix1 (x0 x1 x2 x3:Value)(w:World):(Instr.index 48 (.agg #[x0,x1,x2,x3]) (.int .i64 1)).run Tryz.prog w=.ok x1 w:=by kernel_rfl
theorem ix2 (x0 x1 x2 x3:Value)(w:World):(Instr.index 48 (.agg #[x0,x1,x2,x3]) (.int .i64 2)).run Tryz.prog w=.ok x2 w:=by kernel_rfl
theorem ix3 (x0 x1 x2 x3:Value)(w:World):(Instr.index 48 (.agg #[x0,x1,x2,x3]) (.int .i64 3)).run Tryz.prog w=.ok x3 w:=by kernel_rfl
theorem zje (n:Int)(w:World):Calls Tryz.prog 164 #[.int .u64 n] w fun e w'=>e=.returned (.agg #[.int .u64 n,wZ,wZ,wZ])∧Below w.heap.size w w':=by
 go_enter Tryz.func164,Tryz.ntmps164
 go_wp2
 go_returns
 exact ⟨rfl,by go_grown⟩
theorem zjf (A B:Nat)(hA:A<big)(hB:B<big)(w:World):Calls Tryz.prog 157 #[uv A,uv B] w fun e w'=>e=.returned (.tuple #[uv (sm A B),.bool (ov A B)])∧Below w.heap.size w w':=by
 obtain ⟨s0,c0,r0,e0⟩:=kF (wd0 A) (wd0 B) (c:=0) (by unfold Bt;omega);obtain ⟨s1,c1,r1,e1⟩:=kF (wd1 A) (wd1 B) e0.2.2;obtain ⟨s2,c2,r2,e2⟩:=kF (wd2 A) (wd2 B) e1.2.2;obtain ⟨s3,c3,r3,e3⟩:=kF (wd3 A) (wd3 B) e2.2.2;obtain ⟨⟨q0,q1,q2,q3⟩,q4⟩:=zjb hA hB e0 e1 e2 e3;clear e0 e1 e2 e3;unfold uv;rw [←q0,←q1,←q2,←q3,←q4];clear q0 q1 q2 q3 q4;have i0:=ix0;have i1:=ix1;have i2:=ix2;have i3:=ix3
 go_enter Tryz.func157,Tryz.ntmps157
 go_wp2
 go_rounds 5
 go_returns
 exact ⟨rfl,by go_grown⟩
theorem zjg (A B:Nat)(hA:A<big)(hB:B<big)(w:World):Calls Tryz.prog 155 #[uv A,uv B] w fun e w'=>e=.returned (.tuple #[uv (df A B),.bool (lo A B)])∧Below w.heap.size w w':=by
 obtain ⟨s0,c0,r0,e0⟩:=zai (wd0 A) (wd0 B) (c:=0) (by unfold Bt;omega);obtain ⟨s1,c1,r1,e1⟩:=zai (wd1 A) (wd1 B) e0.2.2;obtain ⟨s2,c2,r2,e2⟩:=zai (wd2 A) (wd2 B) e1.2.2;obtain ⟨s3,c3,r3,e3⟩:=zai (wd3 A) (wd3 B) e2.2.2;obtain ⟨⟨q0,q1,q2,q3⟩,q4⟩:=zjc hA hB e0 e1 e2 e3;clear e0 e1 e2 e3;unfold uv;rw [←q0,←q1,←q2,←q3,←q4];clear q0 q1 q2 q3 q4;have i0:=ix0;have i1:=ix1;have i2:=ix2;have i3:=ix3
 go_enter Tryz.func155,Tryz.ntmps155
 go_wp2
 go_rounds 5
 go_returns
 exact ⟨rfl,by go_grown⟩
def mH (x y:Int):Int:=x*y / 0x10000000000000000
def mL (x y:Int):Int:=x*y%0x10000000000000000
theorem zjh (x y:Nat)(hx:x<0x10000000000000000)(hy:y<0x10000000000000000)(w:World):
 Calls Tryz.prog 168 #[.int .u64 x,.int .u64 y] w fun e w'=>e=.returned (.tuple #[.int .u64 ((x*y / 0x10000000000000000:Nat):Int),.int .u64 ((x*y%0x10000000000000000:Nat):Int)])∧w=w':=by
 obtain ⟨bd,bt,bw,hhi⟩:=Lib.mul64_hi x y hx hy;have ba:=Lib.half_mul_le (a:=x / 4294967296) (b:=y / 4294967296) (by omega) (by omega);have bb:=Lib.half_mul_le (a:=x / 4294967296) (b:=y%4294967296) (by omega) (by omega);have bc:=Lib.half_mul_le (a:=x%4294967296) (b:=y / 4294967296) (by omega) (by omega);have ba':x / 4294967296*(y / 4294967296)<0x10000000000000000:=by omega
 have bb':x / 4294967296*(y%4294967296)<0x10000000000000000:=by omega
 have bc':x%4294967296*(y / 4294967296)<0x10000000000000000:=by omega
 have bh1:x / 4294967296*(y / 4294967296)+(x / 4294967296*(y%4294967296)+x%4294967296*(y%4294967296) / 4294967296) / 4294967296<0x10000000000000000:=by omega
 have bh:x / 4294967296*(y / 4294967296)+(x / 4294967296*(y%4294967296)+x%4294967296*(y%4294967296) / 4294967296) / 4294967296+((x / 4294967296*(y%4294967296)+x%4294967296*(y%4294967296) / 4294967296)%4294967296+x%4294967296*(y / 4294967296)) / 4294967296<0x10000000000000000:=by omega
 go_enter Tryz.func168,Tryz.ntmps168
 go_wp2
 simp only [Mul64.maskN x hx,Mul64.maskN y hy,Mul64.divN,Mul64.mulN,Mul64.addN,Mul64.wrapN _ bd,Mul64.wrapN _ bb',Mul64.wrapN _ bt,Mul64.maskN _ bt,Mul64.wrapN _ bc',Mul64.wrapN _ bw,Mul64.wrapN _ ba',Mul64.wrapN _ bh1,Mul64.wrapN _ bh,Mul64.wrapM (x*y)];rw [hhi]
 go_ret2
 exact ⟨rfl,rfl⟩
theorem yZ {x y:Int}(hx:Wd x)(hy:Wd y)(w:World):
 Calls Tryz.prog 168 #[.int .u64 x,.int .u64 y] w fun e w'=>e=.returned (.tuple #[.int .u64 (mH x y),.int .u64 (mL x y)])∧w=w':=by
 obtain ⟨hx0,hx1⟩:=hx;obtain ⟨hy0,hy1⟩:=hy;obtain ⟨X,rfl⟩:=Int.eq_ofNat_of_zero_le hx0;obtain ⟨Y,rfl⟩:=Int.eq_ofNat_of_zero_le hy0;have e1:mH X Y=((X*Y / 0x10000000000000000:Nat):Int):=by unfold mH;omega
 have e2:mL X Y=((X*Y%0x10000000000000000:Nat):Int):=by unfold mL;omega
 rw [e1,e2];exact zjh X Y (by omega) (by omega) w
def yT (x y p c s d:Int):Prop:=x*y+p+c=s+0x10000000000000000*d∧Wd s∧Wd d
theorem qz {x y p c:Int}(hx:Wd x)(hy:Wd y)(hp:Wd p)(hc:Wd c):∃l1 o1 l2 o2,
 (∀w,(callFunc 165 #[.int .u64 (mL x y),.int .u64 p,wZ]).run Tryz.prog w=.ok (.value (.tuple #[.int .u64 l1,.int .u64 o1])) w)∧
 (∀w,(callFunc 165 #[.int .u64 l1,.int .u64 c,wZ]).run Tryz.prog w=.ok (.value (.tuple #[.int .u64 l2,.int .u64 o2])) w)∧
 IntKind.u64.wrap (mH x y+o1)=mH x y+o1∧IntKind.u64.wrap (mH x y+o1+o2)=mH x y+o1+o2∧yT x y p c l2 (mH x y+o1+o2):=by
 have hm:0≤x*y∧x*y≤0xfffffffffffffffe0000000000000001:=by
  obtain ⟨hx0,hx1⟩:=hx;obtain ⟨hy0,hy1⟩:=hy;refine ⟨Int.mul_nonneg hx0 hy0,?_⟩;have:=Int.mul_le_mul (show x≤0xffffffffffffffff by omega) (show y≤0xffffffffffffffff by omega) hy0 (by omega);omega
 have hL:Wd (mL x y):=by unfold Wd mL;omega
 obtain ⟨l1,o1,r1,e1,d1,b1⟩:=kF hL hp (c:=0) (by unfold Bt;omega);obtain ⟨l2,o2,r2,e2,d2,b2⟩:=kF d1 hc (c:=0) (by unfold Bt;omega);have k1:0≤mH x y+o1∧mH x y+o1+o2≤0xffffffffffffffff:=by
  unfold Wd Bt at*;unfold mH mL at*;omega
 have k2:0≤o2:=b2.1;refine ⟨l1,o1,l2,o2,r1,r2,?_,?_,?_⟩
 ·rw [IntKind.wrap_u64];omega
 ·rw [IntKind.wrap_u64];omega
 ·refine ⟨?_,d2,?_⟩
  ·unfold mH mL at*;omega
  ·unfold Wd;omega
def pl (A B:Nat):Nat:=A*B%big
def ph (A B:Nat):Nat:=A*B / big
theorem zaj {a b0 b1 b2 b3 p0 p1 p2 p3 q0 q1 q2 q3 c0 c1 c2 c3:Int}(h0:yT a b0 p0 0 q0 c0)(h1:yT a b1 p1 c0 q1 c1)(h2:yT a b2 p2 c1 q2 c2)(h3:yT a b3 p3 c2 q3 c3):
 a*(b0+0x10000000000000000*b1+0x100000000000000000000000000000000*b2+0x1000000000000000000000000000000000000000000000000*b3)+p0+0x10000000000000000*p1+0x100000000000000000000000000000000*p2+0x1000000000000000000000000000000000000000000000000*p3=q0+0x10000000000000000*q1+0x100000000000000000000000000000000*q2+0x1000000000000000000000000000000000000000000000000*q3+0x10000000000000000000000000000000000000000000000000000000000000000*c3:=by
 have e:a*(b0+0x10000000000000000*b1+0x100000000000000000000000000000000*b2+0x1000000000000000000000000000000000000000000000000*b3)=a*b0+0x10000000000000000*(a*b1)+0x100000000000000000000000000000000*(a*b2)+0x1000000000000000000000000000000000000000000000000*(a*b3):=by
  rw [Int.mul_add,Int.mul_add,Int.mul_add,Int.mul_left_comm a,Int.mul_left_comm a,Int.mul_left_comm a]
 obtain ⟨e0,_,_⟩:=h0;obtain ⟨e1,_,_⟩:=h1;obtain ⟨e2,_,_⟩:=h2;obtain ⟨e3,_,_⟩:=h3;rw [e];omega
theorem zji {A B:Nat}(hA:A<big)(hB:B<big){q00 c00 q01 c01 q02 c02 q03 c03 q10 c10 q11 c11 q12 c12 q13 c13 q20 c20 q21 c21 q22 c22 q23 c23 q30 c30 q31 c31 q32 c32 q33 c33:Int}(m00:yT (w0 A) (w0 B) 0 0 q00 c00)(m01:yT (w0 A) (w1 B) 0 c00 q01 c01)(m02:yT (w0 A) (w2 B) 0 c01 q02 c02)(m03:yT (w0 A) (w3 B) 0 c02 q03 c03)(m10:yT (w1 A) (w0 B) q01 0 q10 c10)(m11:yT (w1 A) (w1 B) q02 c10 q11 c11)(m12:yT (w1 A) (w2 B) q03 c11 q12 c12)(m13:yT (w1 A) (w3 B) c03 c12 q13 c13)(m20:yT (w2 A) (w0 B) q11 0 q20 c20)(m21:yT (w2 A) (w1 B) q12 c20 q21 c21)(m22:yT (w2 A) (w2 B) q13 c21 q22 c22)(m23:yT (w2 A) (w3 B) c13 c22 q23 c23)(m30:yT (w3 A) (w0 B) q21 0 q30 c30)(m31:yT (w3 A) (w1 B) q22 c30 q31 c31)(m32:yT (w3 A) (w2 B) q23 c31 q32 c32)(m33:yT (w3 A) (w3 B) c23 c32 q33 c33):
 (q00=w0 (pl A B)∧q10=w1 (pl A B)∧q20=w2 (pl A B)∧q30=w3 (pl A B))∧q31=w0 (ph A B)∧q32=w1 (ph A B)∧q33=w2 (ph A B)∧c33=w3 (ph A B):=by
 have a:=xg A hA;have b:=xg B hB;have r0:=zaj m00 m01 m02 m03;have r1:=zaj m10 m11 m12 m13;have r2:=zaj m20 m21 m22 m23;have r3:=zaj m30 m31 m32 m33;rw [←b] at r0 r1 r2 r3;have e:(A:Int)*B=w0 A*B+0x10000000000000000*(w1 A*B)+0x100000000000000000000000000000000*(w2 A*B)+0x1000000000000000000000000000000000000000000000000*(w3 A*B):=by
  conv=>lhs;rw [a]
  rw [Int.add_mul,Int.add_mul,Int.add_mul,Int.mul_assoc,Int.mul_assoc,Int.mul_assoc]
 have d0:Wd q00:=m00.2.1;have d1:Wd q10:=m10.2.1;have d2:Wd q20:=m20.2.1;have d3:Wd q30:=m30.2.1;have d4:Wd q31:=m31.2.1;have d5:Wd q32:=m32.2.1;have d6:Wd q33:=m33.2.1;have d7:Wd c33:=m33.2.2;have key:(A:Int)*B=q00+0x10000000000000000*q10+0x100000000000000000000000000000000*q20+0x1000000000000000000000000000000000000000000000000*q30+0x10000000000000000000000000000000000000000000000000000000000000000*q31+0x100000000000000000000000000000000000000000000000000000000000000000000000000000000*q32+0x1000000000000000000000000000000000000000000000000000000000000000000000000000000000000000000000000*q33+0x10000000000000000000000000000000000000000000000000000000000000000000000000000000000000000000000000000000000000000*c33:=by omega
 clear r0 r1 r2 r3 e;have lt1:=zah d0 d1 d2 d3;have lt2:=zah d4 d5 d6 d7;have em1:((mk4 q00 q10 q20 q30:Nat):Int)=q00+0x10000000000000000*q10+0x100000000000000000000000000000000*q20+0x1000000000000000000000000000000000000000000000000*q30:=by unfold Wd at d0 d1 d2 d3;unfold mk4;omega
 have em2:((mk4 q31 q32 q33 c33:Nat):Int)=q31+0x10000000000000000*q32+0x100000000000000000000000000000000*q33+0x1000000000000000000000000000000000000000000000000*c33:=by unfold Wd at d4 d5 d6 d7;unfold mk4;omega
 have kn:A*B=mk4 q00 q10 q20 q30+0x10000000000000000000000000000000000000000000000000000000000000000*mk4 q31 q32 q33 c33:=by
  have:((A*B:Nat):Int)=(A:Int)*B:=Int.natCast_mul A B;omega
 have k1:pl A B=mk4 q00 q10 q20 q30:=by unfold pl;unfold big at*;omega
 have k2:ph A B=mk4 q31 q32 q33 c33:=by unfold ph;unfold big at*;omega
 rw [k1,k2];exact ⟨⟨(zbR d0 d1 d2 d3).symm,(zbS d0 d1 d2 d3).symm,(zbT d0 d1 d2 d3).symm,(zbU d0 d1 d2 d3).symm⟩,(zbR d4 d5 d6 d7).symm,(zbS d4 d5 d6 d7).symm,(zbT d4 d5 d6 d7).symm,(zbU d4 d5 d6 d7).symm⟩
end Go.Proofs.YtbpmjppmpgeejaaGreatDoor
namespace Go.Proofs.YtbpmjppmpgeejaaGreatDoor
set_option linter.unusedVariables false
def NR:Nat:=0xfffffffffffffffffffffffffffffffebaaedce6af48a03bbfd25e8cd0364141
def MOK (M:Nat):Prop:=M<big∧big<2*M
theorem je:MOK NR:=by unfold MOK NR big;omega
def rs (L H M:Nat):Nat:=(L+big*H)%M
theorem zeI {L H M:Nat}(h:MOK M):rs L H M<big:=Nat.lt_trans (Nat.mod_lt _ (by unfold MOK big at h;omega)) h.1
theorem zak {L H M:Nat}(h:MOK M):rs L H M<M:=Nat.mod_lt _ (by unfold MOK big at h;omega)
theorem zbV (A B:Nat):sm A B<big:=Nat.mod_lt _ (by decide)
theorem zbW (A B:Nat):df A B<big:=Nat.mod_lt _ (by decide)
theorem zeJ (A B:Nat):pl A B<big:=Nat.mod_lt _ (by decide)
theorem zjj {A B:Nat}(hA:A<big)(hB:B<big):ph A B<big:=by
 unfold ph;exact Nat.div_lt_of_lt_mul (Nat.mul_lt_mul'' hA hB)
theorem zjk (A B:Nat):A*B=pl A B+big*ph A B:=by unfold pl ph;exact (Nat.mod_add_div _ _).symm
theorem zjl {l h M:Nat}(hM:MOK M)(hl:l<big)(hh:h<big)(h0:h≠0):
 ∃h',(h'=if ov l (pl h (df 0 M)) then sm (ph h (df 0 M)) 1 else ph h (df 0 M))∧h'<big∧
  sm l (pl h (df 0 M))+big*h'+h*M=l+big*h:=by
 have hs:df 0 M=big-M:=by unfold df;unfold MOK at hM;rw [Nat.zero_add,Nat.mod_eq_of_lt];omega
 have hk:=zjk h (df 0 M);have hph:ph h (df 0 M)+1<big:=by
  have:ph h (df 0 M)<big-M:=by
   rw [hs];unfold ph;refine Nat.div_lt_of_lt_mul ?_;exact Nat.mul_lt_mul_of_pos_right hh (by unfold MOK at hM;omega)
  unfold MOK at hM;omega
 have hp:=zeJ h (df 0 M);have hmul:h*(big-M)+h*M=big*h:=by rw [←Nat.mul_add,Nat.sub_add_cancel (Nat.le_of_lt hM.1),Nat.mul_comm]
 rw [←hs] at hmul;refine ⟨_,rfl,?_,?_⟩
 ·split
  ·exact zbV _ _
  ·omega
 ·generalize df 0 M=s at*;generalize pl h s=p at*;generalize ph h s=q at*;generalize h*s=hs2 at*;unfold ov sm;by_cases ho:big≤l+p
  ·rw [decide_eq_true ho];simp only [if_true];rw [Nat.mod_eq_of_lt hph];have:(l+p)%big=l+p-big:=by rw [Nat.mod_eq_sub_mod ho,Nat.mod_eq_of_lt (by omega)]
   rw [this,Nat.mul_add,Nat.mul_one];omega
  ·rw [decide_eq_false ho];simp only [Bool.false_eq_true,if_false];rw [Nat.mod_eq_of_lt (by omega)];omega
theorem zeK {l h l' h' M L H:Nat}(he:l'+big*h'+h*M=l+big*h)(hm:(l+big*h)%M=rs L H M):(l'+big*h')%M=rs L H M:=by
 rw [←hm,←he,Nat.add_mul_mod_self_right]
theorem zeL {l h l' h' M:Nat}(hM:MOK M)(h0:h≠0)(he:l'+big*h'+h*M=l+big*h):l'+big*h'<l+big*h:=by
 have:0<h*M:=Nat.mul_pos (by omega) (by unfold MOK big at hM;omega);omega
theorem zjm {l M L H:Nat}(hM:MOK M)(hl:l<big)(hm:(l+big*0)%M=rs L H M)(hc:M≤l):df l M=rs L H M:=by
 rw [←hm];unfold df MOK at*;have h1:(l+big-M)%big=l-M:=by
  have:l+big-M=(l-M)+big:=by omega
  rw [this,Nat.add_mod_right,Nat.mod_eq_of_lt (by omega)]
 rw [h1,Nat.mul_zero,Nat.add_zero,Nat.mod_eq_sub_mod hc,Nat.mod_eq_of_lt (by omega)]
theorem zjn {l M L H:Nat}(hm:(l+big*0)%M=rs L H M)(hc: ¬M≤l):l=rs L H M:=by
 rw [←hm,Nat.mul_zero,Nat.add_zero,Nat.mod_eq_of_lt (by omega)]
def ql (A B M:Nat):Nat:=(A%M+(M-B%M))%M
theorem zjo {A B M:Nat}(hM:MOK M)(h:lo (rs A 0 M) (rs B 0 M)=true):sm (df (rs A 0 M) (rs B 0 M)) M=ql A B M:=by
 have ha:=zak (L:=A) (H:=0) hM;have hb:=zak (L:=B) (H:=0) hM;unfold lo at h;have h:=of_decide_eq_true h;have e1:rs A 0 M=A%M:=by unfold rs;rw [Nat.mul_zero,Nat.add_zero]
 have e2:rs B 0 M=B%M:=by unfold rs;rw [Nat.mul_zero,Nat.add_zero]
 rw [e1] at ha h ⊢;rw [e2] at hb h ⊢;unfold ql sm df;unfold MOK at hM;rw [Nat.mod_eq_of_lt (show A%M+big-B%M<big by omega)];have:A%M+big-B%M+M=(A%M+(M-B%M))+big:=by omega
 rw [this,Nat.add_mod_right,Nat.mod_eq_of_lt (show A%M+(M-B%M)<big by omega),Nat.mod_eq_of_lt (show A%M+(M-B%M)<M by omega)]
theorem zjp {A B M:Nat}(hM:MOK M)(h:lo (rs A 0 M) (rs B 0 M)=false):df (rs A 0 M) (rs B 0 M)=ql A B M:=by
 have ha:=zak (L:=A) (H:=0) hM;have hb:=zak (L:=B) (H:=0) hM;unfold lo at h;have h:=of_decide_eq_false h;have e1:rs A 0 M=A%M:=by unfold rs;rw [Nat.mul_zero,Nat.add_zero]
 have e2:rs B 0 M=B%M:=by unfold rs;rw [Nat.mul_zero,Nat.add_zero]
 rw [e1] at ha h ⊢;rw [e2] at hb h ⊢;unfold ql df;unfold MOK at hM;have t1:A%M+big-B%M=(A%M-B%M)+big:=by omega
 have t2:A%M+(M-B%M)=(A%M-B%M)+M:=by omega
 rw [t1,t2,Nat.add_mod_right,Nat.add_mod_right,Nat.mod_eq_of_lt (show A%M-B%M<big by omega),Nat.mod_eq_of_lt (show A%M-B%M<M by omega)]
theorem zeM {A B M:Nat}(h:MOK M):ql A B M<big:=Nat.lt_trans (Nat.mod_lt _ (by unfold MOK big at h;omega)) h.1
set_option maxRecDepth 100000
end Go.Proofs.YtbpmjppmpgeejaaGreatDoor
namespace Go.Proofs.Ec
open Go.Proofs.YtbpmjppmpgeejaaGreatDoor Go.Proofs.Zm
set_option linter.unusedVariables false
section
variable {F:Type}[Lean.Grind.Field F][DecidableEq F]
structure zjq (b:F):Prop where
 two:(2:F)≠0
 three:(3:F)≠0
 b:b≠0
variable {b:F}(g:zjq b)
include g
end
structure Wp where
 X:Nat
 Y:Nat
 b:Bool
 Z:Nat
structure Wp.Ok (a:Wp):Prop where
 X:a.X<big
 Y:a.Y<big
 Z:a.Z<big
structure Pd where
 X:Nat
 Y:Nat
 b:Bool
 deriving DecidableEq
structure Pd.Ok (p:Pd):Prop where
 X:p.X<big
 Y:p.Y<big
end Go.Proofs.Ec
namespace Go.Proofs.YtbpmjppmpgeejaaGreatDoor
open Go.ChangeShapes Go.WideShapes Go.ChangeAt Go.RowKit
set_option linter.unusedVariables false
theorem zjr (A B:Nat)(hA:A<big)(hB:B<big)(w:World):Calls Tryz.prog 163 #[uv A,uv B] w fun e w'=>e=.returned (.tuple #[uv (pl A B),uv (ph A B)])∧Below w.heap.size w w':=by
 have z:Wd 0:=by unfold Wd;omega
 have a0:=wd0 A;have b0:=wd0 B;have a1:=wd1 A;have b1:=wd1 B;have a2:=wd2 A;have b2:=wd2 B;have a3:=wd3 A;have b3:=wd3 B;obtain ⟨l00,o00,q00,u00,r00,t00,v00,x00,m00⟩:=qz a0 b0 z z;have dq00:=m00.2.1;have dc00:=m00.2.2;obtain ⟨l01,o01,q01,u01,r01,t01,v01,x01,m01⟩:=qz a0 b1 z dc00;have dq01:=m01.2.1;have dc01:=m01.2.2;obtain ⟨l02,o02,q02,u02,r02,t02,v02,x02,m02⟩:=qz a0 b2 z dc01;have dq02:=m02.2.1;have dc02:=m02.2.2;obtain ⟨l03,o03,q03,u03,r03,t03,v03,x03,m03⟩:=qz a0 b3 z dc02;have dq03:=m03.2.1;have dc03:=m03.2.2;obtain ⟨l10,o10,q10,u10,r10,t10,v10,x10,m10⟩:=qz a1 b0 dq01 z;have dq10:=m10.2.1;have dc10:=m10.2.2;obtain ⟨l11,o11,q11,u11,r11,t11,v11,x11,m11⟩:=qz a1 b1 dq02 dc10;have dq11:=m11.2.1;have dc11:=m11.2.2;obtain ⟨l12,o12,q12,u12,r12,t12,v12,x12,m12⟩:=qz a1 b2 dq03 dc11;have dq12:=m12.2.1;have dc12:=m12.2.2;obtain ⟨l13,o13,q13,u13,r13,t13,v13,x13,m13⟩:=qz a1 b3 dc03 dc12;have dq13:=m13.2.1;have dc13:=m13.2.2;obtain ⟨l20,o20,q20,u20,r20,t20,v20,x20,m20⟩:=qz a2 b0 dq11 z;have dq20:=m20.2.1;have dc20:=m20.2.2;obtain ⟨l21,o21,q21,u21,r21,t21,v21,x21,m21⟩:=qz a2 b1 dq12 dc20;have dq21:=m21.2.1;have dc21:=m21.2.2;obtain ⟨l22,o22,q22,u22,r22,t22,v22,x22,m22⟩:=qz a2 b2 dq13 dc21;have dq22:=m22.2.1;have dc22:=m22.2.2;obtain ⟨l23,o23,q23,u23,r23,t23,v23,x23,m23⟩:=qz a2 b3 dc13 dc22;have dq23:=m23.2.1;have dc23:=m23.2.2;obtain ⟨l30,o30,q30,u30,r30,t30,v30,x30,m30⟩:=qz a3 b0 dq21 z;have dq30:=m30.2.1;have dc30:=m30.2.2;obtain ⟨l31,o31,q31,u31,r31,t31,v31,x31,m31⟩:=qz a3 b1 dq22 dc30;have dq31:=m31.2.1;have dc31:=m31.2.2;obtain ⟨l32,o32,q32,u32,r32,t32,v32,x32,m32⟩:=qz a3 b2 dq23 dc31;have dq32:=m32.2.1;have dc32:=m32.2.2;obtain ⟨l33,o33,q33,u33,r33,t33,v33,x33,m33⟩:=qz a3 b3 dc23 dc32;have dq33:=m33.2.1;have dc33:=m33.2.2;obtain ⟨⟨g0,g1,g2,g3⟩,g4,g5,g6,g7⟩:=zji hA hB m00 m01 m02 m03 m10 m11 m12 m13 m20 m21 m22 m23 m30 m31 m32 m33;clear m00 m01 m02 m03 m10 m11 m12 m13 m20 m21 m22 m23 m30 m31 m32 m33;unfold uv;rw [←g0,←g1,←g2,←g3,←g4,←g5,←g6,←g7];clear g0 g1 g2 g3 g4 g5 g6 g7;have i0:=ix0;have i1:=ix1;have i2:=ix2;have i3:=ix3
 go_enter Tryz.func163,Tryz.ntmps163
 go_wp2
 refine wp_loop_rounds 5 ?_;rw [rounds_succ]
 go_wp2
 refine wp_loop_rounds 5 ?_;rw [rounds_succ]
 go_wp2_with (go_at_call 168;refine (yZ (by assumption) (by assumption) _).mono ?_;rintro e w' ⟨rfl,rfl⟩)
 rw [rounds_succ]
 go_wp2_with (go_at_call 168;refine (yZ (by assumption) (by assumption) _).mono ?_;rintro e w' ⟨rfl,rfl⟩)
 rw [rounds_succ]
 go_wp2_with (go_at_call 168;refine (yZ (by assumption) (by assumption) _).mono ?_;rintro e w' ⟨rfl,rfl⟩)
 rw [rounds_succ]
 go_wp2_with (go_at_call 168;refine (yZ (by assumption) (by assumption) _).mono ?_;rintro e w' ⟨rfl,rfl⟩)
 rw [rounds_succ]
 go_wp2_with (go_at_call 168;refine (yZ (by assumption) (by assumption) _).mono ?_;rintro e w' ⟨rfl,rfl⟩)
 rw [rounds_succ]
 go_wp2
 refine wp_loop_rounds 5 ?_;rw [rounds_succ]
 go_wp2_with (go_at_call 168;refine (yZ (by assumption) (by assumption) _).mono ?_;rintro e w' ⟨rfl,rfl⟩)
 rw [rounds_succ]
 go_wp2_with (go_at_call 168;refine (yZ (by assumption) (by assumption) _).mono ?_;rintro e w' ⟨rfl,rfl⟩)
 rw [rounds_succ]
 go_wp2_with (go_at_call 168;refine (yZ (by assumption) (by assumption) _).mono ?_;rintro e w' ⟨rfl,rfl⟩)
 rw [rounds_succ]
 go_wp2_with (go_at_call 168;refine (yZ (by assumption) (by assumption) _).mono ?_;rintro e w' ⟨rfl,rfl⟩)
 rw [rounds_succ]
 go_wp2_with (go_at_call 168;refine (yZ (by assumption) (by assumption) _).mono ?_;rintro e w' ⟨rfl,rfl⟩)
 rw [rounds_succ]
 go_wp2
 refine wp_loop_rounds 5 ?_;rw [rounds_succ]
 go_wp2_with (go_at_call 168;refine (yZ (by assumption) (by assumption) _).mono ?_;rintro e w' ⟨rfl,rfl⟩)
 rw [rounds_succ]
 go_wp2_with (go_at_call 168;refine (yZ (by assumption) (by assumption) _).mono ?_;rintro e w' ⟨rfl,rfl⟩)
 rw [rounds_succ]
 go_wp2_with (go_at_call 168;refine (yZ (by assumption) (by assumption) _).mono ?_;rintro e w' ⟨rfl,rfl⟩)
 rw [rounds_succ]
 go_wp2_with (go_at_call 168;refine (yZ (by assumption) (by assumption) _).mono ?_;rintro e w' ⟨rfl,rfl⟩)
 rw [rounds_succ]
 go_wp2_with (go_at_call 168;refine (yZ (by assumption) (by assumption) _).mono ?_;rintro e w' ⟨rfl,rfl⟩)
 rw [rounds_succ]
 go_wp2
 refine wp_loop_rounds 5 ?_;rw [rounds_succ]
 go_wp2_with (go_at_call 168;refine (yZ (by assumption) (by assumption) _).mono ?_;rintro e w' ⟨rfl,rfl⟩)
 rw [rounds_succ]
 go_wp2_with (go_at_call 168;refine (yZ (by assumption) (by assumption) _).mono ?_;rintro e w' ⟨rfl,rfl⟩)
 rw [rounds_succ]
 go_wp2_with (go_at_call 168;refine (yZ (by assumption) (by assumption) _).mono ?_;rintro e w' ⟨rfl,rfl⟩)
 rw [rounds_succ]
 go_wp2_with (go_at_call 168;refine (yZ (by assumption) (by assumption) _).mono ?_;rintro e w' ⟨rfl,rfl⟩)
 rw [rounds_succ]
 go_wp2_with (go_at_call 168;refine (yZ (by assumption) (by assumption) _).mono ?_;rintro e w' ⟨rfl,rfl⟩)
 rw [rounds_succ]
 go_wp2
 go_region
 all_goals (go_wp2;go_returns;exact ⟨rfl,by go_grown⟩)
end Go.Proofs.YtbpmjppmpgeejaaGreatDoor
namespace Go.Proofs.YtbpmjppmpgeejaaGreatDoor
open Go.RowKit
end Go.Proofs.YtbpmjppmpgeejaaGreatDoor
namespace Go.Proofs.YtbpmjppmpgeejaaGreatDoor
open Go.ChangeShapes Go.WideShapes Go.ChangeAt Go.RowKit Go.Shelf
set_option linter.unusedVariables false
end Go.Proofs.YtbpmjppmpgeejaaGreatDoor
namespace Go.Proofs.YtbpmjppmpgeejaaGreatDoor
open Go.RowKit
def len (A:Nat):Nat:=if A=0 then 0 else Nat.log2 A+1
end Go.Proofs.YtbpmjppmpgeejaaGreatDoor
namespace Go.Proofs.YtbpmjppmpgeejaaGreatDoor
open Go.ChangeShapes Go.WideShapes Go.ChangeAt Go.RowKit
set_option linter.unusedVariables false
def cm (A B:Nat):Int:=if A=B then 0 else if A<B then-1 else 1
def cmK (A B k:Nat):Int:=cm (A%0x10000000000000000^k) (B%0x10000000000000000^k)
theorem zjs (A B:Nat):cmK A B 0=0:=by unfold cmK cm;simp [Nat.mod_one]
theorem zjt (a b x y W:Nat)(hx:x<W)(hy:y<W):cm (x+W*a) (y+W*b)=if a<b then-1 else if b<a then 1 else cm x y:=by
 unfold cm;rcases Nat.lt_trichotomy a b with h | h | h
 ·have:W*(a+1)≤W*b:=Nat.mul_le_mul_left _ h;rw [Nat.mul_add] at this;rw [if_pos h,if_neg (by omega),if_pos (by omega)]
 ·subst h;have h1:(x+W*a=y+W*a)=(x=y):=by rw [eq_iff_iff];omega
  have h2:(x+W*a<y+W*a)=(x<y):=by rw [eq_iff_iff];omega
  simp only [h1,h2,Nat.lt_irrefl,if_false]
 ·have:W*(b+1)≤W*a:=Nat.mul_le_mul_left _ h;rw [Nat.mul_add] at this;rw [if_neg (by omega),if_pos h,if_neg (by omega),if_neg (by omega)]
def wk (A k:Nat):Nat:=A / 0x10000000000000000^k%0x10000000000000000
theorem zju (A B k:Nat):cmK A B (k+1)=if wk A k<wk B k then-1 else if wk B k<wk A k then 1 else cmK A B k:=by
 unfold cmK wk;rw [Nat.pow_succ,Nat.mod_mul,Nat.mod_mul,zjt _ _ _ _ _ (Nat.mod_lt _ (Nat.pow_pos (by omega))) (Nat.mod_lt _ (Nat.pow_pos (by omega)))]
theorem zjv (A B:Nat)(hA:A<big)(hB:B<big):cmK A B 4=cm A B:=by
 unfold cmK;have e:0x10000000000000000^4=big:=rfl;rw [e,Nat.mod_eq_of_lt hA,Nat.mod_eq_of_lt hB]
theorem wk0 (A:Nat):w0 A=((wk A 0:Nat):Int):=by unfold w0 wk;simp
theorem wk1 (A:Nat):w1 A=((wk A 1:Nat):Int):=rfl
theorem wk2 (A:Nat):w2 A=((wk A 2:Nat):Int):=rfl
theorem wk3 (A:Nat):w3 A=((wk A 3:Nat):Int):=rfl
theorem zjw (A B:Nat)(hA:A<big)(hB:B<big)(w:World):Calls Tryz.prog 136 #[uv A,uv B] w fun e w'=>e=.returned (.int .i64 (cm A B))∧Below w.heap.size w w':=by
 have i0:=ix0;have i1:=ix1;have i2:=ix2;have i3:=ix3;have HF:=Lib.hid (zjv A B hA hB);unfold uv
 go_enter Tryz.func136,Tryz.ntmps136
 go_wp2
 go_loop [5,9] (fun r i=> ∃k:Nat,k≤4∧i=.int .i64 k∧r=.int .i64 (cmK A B k)) (fun _ i=>4-(intOf i).toNat)
 case atStart=>exact ⟨0,by omega,rfl,by rw [zjs]⟩
 case round=>
  obtain ⟨k,hk,rfl,rfl⟩:=hrel;have hn:=zju A B k;have hk5:k=0∨k=1∨k=2∨k=3∨k=4:=by omega
  rcases hk5 with rfl|rfl|rfl|rfl|rfl
  ·rcases Nat.lt_trichotomy (wk A 0) (wk B 0) with h|h|h
   ·rw [if_pos h] at hn;have HN:=Lib.hid hn;have h1:w0 A<w0 B:=by rw [wk0,wk0];omega
    clear hn h
    go_wp2
    go_round
    case rel=>exact ⟨1,by omega,by go_num,by rw [HN.out]⟩
    case measure=>simp [intOf]
   ·rw [if_neg (by omega),if_neg (by omega)] at hn;have HN:=Lib.hid hn;have h1: ¬w0 A<w0 B:=by rw [wk0,wk0];omega
    have h2: ¬w0 B<w0 A:=by rw [wk0,wk0];omega
    clear hn h
    go_wp2
    go_round
    case rel=>exact ⟨1,by omega,by go_num,by rw [HN.out]⟩
    case measure=>simp [intOf]
   ·rw [if_neg (by omega),if_pos h] at hn;have HN:=Lib.hid hn;have h1: ¬w0 A<w0 B:=by rw [wk0,wk0];omega
    have h2:w0 B<w0 A:=by rw [wk0,wk0];omega
    clear hn h
    go_wp2
    go_round
    case rel=>exact ⟨1,by omega,by go_num,by rw [HN.out]⟩
    case measure=>simp [intOf]
  ·rcases Nat.lt_trichotomy (wk A 1) (wk B 1) with h|h|h
   ·rw [if_pos h] at hn;have HN:=Lib.hid hn;have h1:w1 A<w1 B:=by rw [wk1,wk1];omega
    clear hn h
    go_wp2
    go_round
    case rel=>exact ⟨2,by omega,by go_num,by rw [HN.out]⟩
    case measure=>simp [intOf]
   ·rw [if_neg (by omega),if_neg (by omega)] at hn;have HN:=Lib.hid hn;have h1: ¬w1 A<w1 B:=by rw [wk1,wk1];omega
    have h2: ¬w1 B<w1 A:=by rw [wk1,wk1];omega
    clear hn h
    go_wp2
    go_round
    case rel=>exact ⟨2,by omega,by go_num,by rw [HN.out]⟩
    case measure=>simp [intOf]
   ·rw [if_neg (by omega),if_pos h] at hn;have HN:=Lib.hid hn;have h1: ¬w1 A<w1 B:=by rw [wk1,wk1];omega
    have h2:w1 B<w1 A:=by rw [wk1,wk1];omega
    clear hn h
    go_wp2
    go_round
    case rel=>exact ⟨2,by omega,by go_num,by rw [HN.out]⟩
    case measure=>simp [intOf]
  ·rcases Nat.lt_trichotomy (wk A 2) (wk B 2) with h|h|h
   ·rw [if_pos h] at hn;have HN:=Lib.hid hn;have h1:w2 A<w2 B:=by rw [wk2,wk2];omega
    clear hn h
    go_wp2
    go_round
    case rel=>exact ⟨3,by omega,by go_num,by rw [HN.out]⟩
    case measure=>simp [intOf]
   ·rw [if_neg (by omega),if_neg (by omega)] at hn;have HN:=Lib.hid hn;have h1: ¬w2 A<w2 B:=by rw [wk2,wk2];omega
    have h2: ¬w2 B<w2 A:=by rw [wk2,wk2];omega
    clear hn h
    go_wp2
    go_round
    case rel=>exact ⟨3,by omega,by go_num,by rw [HN.out]⟩
    case measure=>simp [intOf]
   ·rw [if_neg (by omega),if_pos h] at hn;have HN:=Lib.hid hn;have h1: ¬w2 A<w2 B:=by rw [wk2,wk2];omega
    have h2:w2 B<w2 A:=by rw [wk2,wk2];omega
    clear hn h
    go_wp2
    go_round
    case rel=>exact ⟨3,by omega,by go_num,by rw [HN.out]⟩
    case measure=>simp [intOf]
  ·rcases Nat.lt_trichotomy (wk A 3) (wk B 3) with h|h|h
   ·rw [if_pos h] at hn;have HN:=Lib.hid hn;have h1:w3 A<w3 B:=by rw [wk3,wk3];omega
    clear hn h
    go_wp2
    go_round
    case rel=>exact ⟨4,by omega,by go_num,by rw [HN.out]⟩
    case measure=>simp [intOf]
   ·rw [if_neg (by omega),if_neg (by omega)] at hn;have HN:=Lib.hid hn;have h1: ¬w3 A<w3 B:=by rw [wk3,wk3];omega
    have h2: ¬w3 B<w3 A:=by rw [wk3,wk3];omega
    clear hn h
    go_wp2
    go_round
    case rel=>exact ⟨4,by omega,by go_num,by rw [HN.out]⟩
    case measure=>simp [intOf]
   ·rw [if_neg (by omega),if_pos h] at hn;have HN:=Lib.hid hn;have h1: ¬w3 A<w3 B:=by rw [wk3,wk3];omega
    have h2:w3 B<w3 A:=by rw [wk3,wk3];omega
    clear hn h
    go_wp2
    go_round
    case rel=>exact ⟨4,by omega,by go_num,by rw [HN.out]⟩
    case measure=>simp [intOf]
  ·clear hn
   go_wp2
   go_ret
   exact ⟨by rw [←HF.out];rfl,by go_grown⟩
theorem zeN (d:Nat)(a0 a1 a2 a3 b0 b1 b2 b3:Int)(w:World):
 (Op.equalIn (d+2) 48 (.agg #[.int .u64 a0,.int .u64 a1,.int .u64 a2,.int .u64 a3]) (.agg #[.int .u64 b0,.int .u64 b1,.int .u64 b2,.int .u64 b3])).run Tryz.prog w
  =.ok (a0==b0&&(a1==b1&&(a2==b2&&a3==b3))) w:=by
 have e: ∀x y:Int,(Op.equalIn (d+1) 22 (.int .u64 x) (.int .u64 y)).run Tryz.prog w=.ok (x==y) w:=fun x y=>run_equalIn_int w d 22 .u64 .u64 x y Tryz.underlying22;have s:(sizeOf 22).run Tryz.prog w=.ok 1 w:=by kernel_rfl
 have p0: ∀x y z u:Int,(part 22 #[.int .u64 x,.int .u64 y,.int .u64 z,.int .u64 u] 0).run Tryz.prog w=.ok (.int .u64 x) w:=fun x y z u=>by kernel_rfl
 have p1: ∀x y z u:Int,(part 22 #[.int .u64 x,.int .u64 y,.int .u64 z,.int .u64 u] 1).run Tryz.prog w=.ok (.int .u64 y) w:=fun x y z u=>by kernel_rfl
 have p2: ∀x y z u:Int,(part 22 #[.int .u64 x,.int .u64 y,.int .u64 z,.int .u64 u] 2).run Tryz.prog w=.ok (.int .u64 z) w:=fun x y z u=>by kernel_rfl
 have p3: ∀x y z u:Int,(part 22 #[.int .u64 x,.int .u64 y,.int .u64 z,.int .u64 u] 3).run Tryz.prog w=.ok (.int .u64 u) w:=fun x y z u=>by kernel_rfl
 rw [Op.equalIn];simp only [Sem.run_bind,run_underlying Tryz.underlying48,Result.andThen_ok,s,Std.Legacy.Range.forIn_eq_forIn_range',Std.Legacy.Range.size];simp only [show (4-0+1-1) / 1=4 from rfl,List.range',List.forIn_cons,List.forIn_nil];cases c0:(a0==b0)
 ·simp [p0,e,c0]
 ·cases c1:(a1==b1)
  ·simp [p0,p1,e,c0,c1]
  ·cases c2:(a2==b2)
   ·simp [p0,p1,p2,e,c0,c1,c2]
   ·cases c3:(a3==b3)
    ·simp [p0,p1,p2,p3,e,c0,c1,c2,c3]
    ·simp [p0,p1,p2,p3,e,c0,c1,c2,c3]
theorem eqU (a0 a1 a2 a3 b0 b1 b2 b3:Int)(w:World):
 (Op.equalIn 10000 48 (.agg #[.int .u64 a0,.int .u64 a1,.int .u64 a2,.int .u64 a3]) (.agg #[.int .u64 b0,.int .u64 b1,.int .u64 b2,.int .u64 b3])).run Tryz.prog w
  =.ok (a0==b0&&(a1==b1&&(a2==b2&&a3==b3))) w:=zeN 9998 a0 a1 a2 a3 b0 b1 b2 b3 w
end Go.Proofs.YtbpmjppmpgeejaaGreatDoor
namespace Go.Proofs.YtbpmjppmpgeejaaGreatDoor
open Go Go.RowKit
set_option linter.unusedVariables false
theorem zbX (A B:Nat)(hA:A<big)(hB:B<big):Fn Tryz.prog 157 #[uv A,uv B] (.tuple #[uv (sm A B),.bool (ov A B)]):=zjf A B hA hB
theorem zbY (A B:Nat)(hA:A<big)(hB:B<big):Fn Tryz.prog 155 #[uv A,uv B] (.tuple #[uv (df A B),.bool (lo A B)]):=zjg A B hA hB
theorem zjx (A B:Nat)(hA:A<big)(hB:B<big):Fn Tryz.prog 163 #[uv A,uv B] (.tuple #[uv (pl A B),uv (ph A B)]):=zjr A B hA hB
theorem vL (A B:Nat)(hA:A<big)(hB:B<big):Fn Tryz.prog 136 #[uv A,uv B] (.int .i64 (cm A B)):=zjw A B hA hB
theorem zjy (n:Nat)(h:n<0x10000000000000000):Fn Tryz.prog 164 #[.int .u64 (n:Int)] (uv n):=fun w=>(zje n w).mono fun e w' ⟨he,hb⟩=>⟨by
 rw [he];have e0:w0 n=(n:Int):=by unfold w0;omega
 have e1:w1 n=0:=by unfold w1;omega
 have e2:w2 n=0:=by unfold w2;omega
 have e3:w3 n=0:=by unfold w3;omega
 unfold uv;rw [e0,e1,e2,e3],hb⟩
theorem zeO {A B:Nat}(hA:A<big)(hB:B<big):(w0 A==w0 B&&(w1 A==w1 B&&(w2 A==w2 B&&w3 A==w3 B)))=decide (A=B):=by
 rw [Bool.eq_iff_iff];simp only [Bool.and_eq_true,beq_iff_eq,decide_eq_true_eq];exact ⟨fun ⟨a,b,c,d⟩=>zja hA hB a b c d,fun h=>by subst h;exact ⟨rfl,rfl,rfl,rfl⟩⟩
theorem xY {ρ:Env}(A B:Nat)(hA:A<big)(hB:B<big){x y:Operand}{o:Oper}(w:World)(ho:o.op=.binOp .neq 48 x y 48)(hx:ev ρ x=uv A)(hy:ev ρ y=uv B):
 (execOp (ev ρ) o).run Tryz.prog w=.ok (.value (.bool (!decide (A=B)))) w:=by
 have q:=eqU;have e:=zeO hA hB;unfold execOp;simp only [ho,hx,hy]
 go_simp
theorem zjz {A B:Nat}(h:B≤A):cm A B≥0:=by unfold cm;split<;>(try split)<;>omega
theorem zjA {A B:Nat}(h: ¬B≤A): ¬cm A B≥0:=by unfold cm;split<;>(try split)<;>omega
theorem zeP (L H M:Nat)(hL:L<big)(hH:H<big)(hM:MOK M):Fn Tryz.prog 156 #[uv L,uv H,uv M] (uv (rs L H M)):=by
 refine Fn.intro (c:=zk Tryz.f156) [.cell 6 48] 54 Tryz.func156 kr kr kr fun w=>?_;have H0:=St.start w;refine zg [0,1,2,3] kr kr<|jF H0 (some 3) 48 (.tmp 0) (uv L) kr kr kr ?_;intro b1 w1 H1;clear H0;refine jF H1 (some 4) 48 (.tmp 1) (uv H) kr kr kr ?_;intro b2 w2 H2;clear H1;refine jF H2 (some 5) 48 (.tmp 2) (uv M) kr kr kr ?_;intro b3 w3 H3;clear H2;refine zB H3 (some 6) 48 (.agg #[wZ,wZ,wZ,wZ]) kr kr kr ?_;intro b4 w4 H4;clear H3;refine zc<|zg [0,1,2,3,4,5,6,7,8] kr kr<|zm (some 14) (.agg #[wZ,wZ,wZ,wZ]) (fun w=>by kernel_rfl) kr<|yM H4 (some 15) 48 (.tmp 5) 1 b3 (Value.cells (uv M)) 48 (0,0) kr kr kr kr kr<|jS H4 (some 16) 155 #[.agg #[wZ,wZ,wZ,wZ],uv M] (.tuple #[uv (df 0 M),.bool (lo 0 M)]) (zbY 0 M (by unfold big;omega) hM.1) (fun w=>by kernel_rfl) kr ?_;intro w5 H5;clear H4;refine zm (some 13) (.tuple #[uv (df 0 M),.bool (lo 0 M)]) (fun w=>by kernel_rfl) kr<|zm (some 17) (uv (df 0 M)) (fun w=>by kernel_rfl) kr<|zm (some 18) (.bool (lo 0 M)) (fun w=>by kernel_rfl) kr<|zB H5 (some 7) 48 (.agg #[wZ,wZ,wZ,wZ]) kr kr kr ?_;intro b5 w6 H6;clear H5;refine qf H6 0 [(b5,Obj.cells (Value.cells (uv (df 0 M))) 48 (0,0)),(b4,Obj.cells #[wZ,wZ,wZ,wZ] 48 (0,0)),(b3,Obj.cells (Value.cells (uv M)) 48 (0,0)),(b2,Obj.cells (Value.cells (uv H)) 48 (0,0)),(b1,Obj.cells (Value.cells (uv L)) 48 (0,0))] 48 (.tmp 7) (.tmp 17) b5 0 #[wZ,wZ,wZ,wZ] (Value.cells (uv (df 0 M))) 48 (uv (df 0 M)) kr kr kr kr kr kr (of_decide_eq_true kr) kr kr ?_;intro w7 H7;clear H6;refine zm (some 8) (.bool (lo 0 M)) (fun w=>by kernel_rfl) kr<|zc<|zb kr<|zn 0 kr<|zV kr (fun m ρ x=> ∃(l:Nat) (h:Nat),l+big*h=m∧(l<big)∧(h<big)∧((l+big*h)%M=rs L H M)∧St w.heap.size w x [(b5,Obj.cells (Value.cells (uv (df 0 M))) 48 (0,0)),(b4,Obj.cells #[wZ,wZ,wZ,wZ] 48 (0,0)),(b3,Obj.cells (Value.cells (uv M)) 48 (0,0)),(b2,Obj.cells (Value.cells (uv h)) 48 (0,0)),(b1,Obj.cells (Value.cells (uv l)) 48 (0,0))]∧Is [(0,uv L),(1,uv H),(2,uv M),(3,.pointer (some ⟨b1,0,none⟩)),(4,.pointer (some ⟨b2,0,none⟩)),(5,.pointer (some ⟨b3,0,none⟩)),(6,.pointer (some ⟨b4,0,none⟩)),(7,.pointer (some ⟨b5,0,none⟩))] ρ) (L+big*H) ⟨L,H,rfl,hL,hH,rfl,H7,(Is.of ⟨kr,kr,kr,kr,kr,kr,kr,kr,trivial⟩)⟩ ?_;clear H7;rintro _ _ w8 ⟨l,h,rfl,hl,hh,hm,H8,_,rfl⟩;refine zb kr<|zg [0,1,2] kr kr<|yM H8 (some 19) 48 (.tmp 4) 3 b2 (Value.cells (uv h)) 48 (0,0) kr kr kr kr kr<|zm (some 20) (.agg #[wZ,wZ,wZ,wZ]) (fun w=>by kernel_rfl) kr ?_;by_cases hne:h=0
 ·refine zcL (some 21) _ (.bool (!decide (h=0))) (.bool false) kr (fun o w ho=>xY (x:=(.tmp 19)) (y:=(.tmp 20)) h 0 hh (by unfold big;omega) w ho kr kr) (by rw [decide_eq_true hne];rfl) kr ?_;have hm0:(l+big*0)%M=rs L H M:=by rw [hne] at hm;exact hm
  refine zc<|zi kr kr<|zN 0 kr<|wW<|zb kr<|zg [0,1,2,3] kr kr<|yM H8 (some 43) 48 (.tmp 3) 4 b1 (Value.cells (uv l)) 48 (0,0) kr kr kr kr kr<|yM H8 (some 44) 48 (.tmp 5) 2 b3 (Value.cells (uv M)) 48 (0,0) kr kr kr kr kr<|jS H8 (some 45) 136 #[uv l,uv M] (.int .i64 (cm l M)) (vL l M hl hM.1) (fun w=>by kernel_rfl) kr ?_;intro w9 H9;clear H8;by_cases hc:M≤l
  ·refine qr (some 46) (.bool (decide (0≤cm l M))) (.bool true) (fun w=>by kernel_rfl) (za (decide_eq_true (zjz hc))) kr<|zc<|zf kr kr<|yv [0,1,2,3,4,5,6] kr<|yM H9 (some 48) 48 (.tmp 3) 4 b1 (Value.cells (uv l)) 48 (0,0) kr kr kr kr kr<|yM H9 (some 49) 48 (.tmp 5) 2 b3 (Value.cells (uv M)) 48 (0,0) kr kr kr kr kr<|jS H9 (some 50) 155 #[uv l,uv M] (.tuple #[uv (df l M),.bool (lo l M)]) (zbY l M hl hM.1) (fun w=>by kernel_rfl) kr ?_;intro w10 H10;clear H9;refine zm (some 47) (.tuple #[uv (df l M),.bool (lo l M)]) (fun w=>by kernel_rfl) kr<|zm (some 51) (uv (df l M)) (fun w=>by kernel_rfl) kr<|zm (some 52) (.bool (lo l M)) (fun w=>by kernel_rfl) kr<|qf H10 4 [(b5,Obj.cells (Value.cells (uv (df 0 M))) 48 (0,0)),(b4,Obj.cells #[wZ,wZ,wZ,wZ] 48 (0,0)),(b3,Obj.cells (Value.cells (uv M)) 48 (0,0)),(b2,Obj.cells (Value.cells (uv h)) 48 (0,0)),(b1,Obj.cells (Value.cells (uv (df l M))) 48 (0,0))] 48 (.tmp 3) (.tmp 51) b1 0 (Value.cells (uv l)) (Value.cells (uv (df l M))) 48 (uv (df l M)) kr kr kr kr kr kr (of_decide_eq_true kr) kr kr ?_;intro w11 H11;clear H10;refine zc<|wW<|zg [0,1] kr kr<|yM H11 (some 53) 48 (.tmp 3) 4 b1 (Value.cells (uv (df l M))) 48 (0,0) kr kr kr kr kr<|qf H11 1 [(b5,Obj.cells (Value.cells (uv (df 0 M))) 48 (0,0)),(b4,Obj.cells (Value.cells (uv (df l M))) 48 (0,0)),(b3,Obj.cells (Value.cells (uv M)) 48 (0,0)),(b2,Obj.cells (Value.cells (uv h)) 48 (0,0)),(b1,Obj.cells (Value.cells (uv (df l M))) 48 (0,0))] 48 (.tmp 6) (.tmp 53) b4 0 #[wZ,wZ,wZ,wZ] (Value.cells (uv (df l M))) 48 (uv (df l M)) kr kr kr kr kr kr (of_decide_eq_true kr) kr kr ?_;intro w12 H12;clear H11;refine zc<|zl kr<|wV ?_;refine ⟨[uv (df l M)],(.agg (b:=b4) (Value.cells (uv (df l M))) 48 (0,0) kr (H12.get 1 kr) kr .nil),?_,H12.below⟩;exact congrArg uv (zjm hM hl hm0 hc)
  ·refine qr (some 46) (.bool (decide (0≤cm l M))) (.bool false) (fun w=>by kernel_rfl) (za (decide_eq_false (zjA hc))) kr<|zc<|zi kr kr<|zj kr<|wW<|zg [0,1] kr kr<|yM H9 (some 53) 48 (.tmp 3) 4 b1 (Value.cells (uv l)) 48 (0,0) kr kr kr kr kr<|qf H9 1 [(b5,Obj.cells (Value.cells (uv (df 0 M))) 48 (0,0)),(b4,Obj.cells (Value.cells (uv l)) 48 (0,0)),(b3,Obj.cells (Value.cells (uv M)) 48 (0,0)),(b2,Obj.cells (Value.cells (uv h)) 48 (0,0)),(b1,Obj.cells (Value.cells (uv l)) 48 (0,0))] 48 (.tmp 6) (.tmp 53) b4 0 #[wZ,wZ,wZ,wZ] (Value.cells (uv l)) 48 (uv l) kr kr kr kr kr kr (of_decide_eq_true kr) kr kr ?_;intro w13 H13;clear H9;refine zc<|zl kr<|wV ?_;refine ⟨[uv l],(.agg (b:=b4) (Value.cells (uv l)) 48 (0,0) kr (H13.get 1 kr) kr .nil),?_,H13.below⟩;exact congrArg uv (zjn hm0 hc)
 ·refine zcL (some 21) _ (.bool (!decide (h=0))) (.bool true) kr (fun o w ho=>xY (x:=(.tmp 19)) (y:=(.tmp 20)) h 0 hh (by unfold big;omega) w ho kr kr) (by rw [decide_eq_false hne];rfl) kr<|zc<|zf kr kr<|zj kr<|wW<|zn 1 kr<|zg [0,1,2,3,4,5,6,7,8,9] kr kr<|yM H8 (some 23) 48 (.tmp 4) 3 b2 (Value.cells (uv h)) 48 (0,0) kr kr kr kr kr<|yM H8 (some 24) 48 (.tmp 7) 0 b5 (Value.cells (uv (df 0 M))) 48 (0,0) kr kr kr kr kr<|jS H8 (some 25) 163 #[uv h,uv (df 0 M)] (.tuple #[uv (pl h (df 0 M)),uv (ph h (df 0 M))]) (zjx h (df 0 M) hh (zbW _ _)) (fun w=>by kernel_rfl) kr ?_;intro w14 H14;clear H8;refine zm (some 22) (.tuple #[uv (pl h (df 0 M)),uv (ph h (df 0 M))]) (fun w=>by kernel_rfl) kr<|zm (some 26) (uv (pl h (df 0 M))) (fun w=>by kernel_rfl) kr<|zm (some 27) (uv (ph h (df 0 M))) (fun w=>by kernel_rfl) kr<|zB H14 (some 9) 48 (.agg #[wZ,wZ,wZ,wZ]) kr kr kr ?_;intro b6 w15 H15;clear H14;refine zB H15 (some 10) 48 (.agg #[wZ,wZ,wZ,wZ]) kr kr kr ?_;intro b7 w16 H16;clear H15;refine qf H16 1 [(b7,Obj.cells #[wZ,wZ,wZ,wZ] 48 (0,0)),(b6,Obj.cells (Value.cells (uv (pl h (df 0 M)))) 48 (0,0)),(b5,Obj.cells (Value.cells (uv (df 0 M))) 48 (0,0)),(b4,Obj.cells #[wZ,wZ,wZ,wZ] 48 (0,0)),(b3,Obj.cells (Value.cells (uv M)) 48 (0,0)),(b2,Obj.cells (Value.cells (uv h)) 48 (0,0)),(b1,Obj.cells (Value.cells (uv l)) 48 (0,0))] 48 (.tmp 9) (.tmp 26) b6 0 #[wZ,wZ,wZ,wZ] (Value.cells (uv (pl h (df 0 M)))) 48 (uv (pl h (df 0 M))) kr kr kr kr kr kr (of_decide_eq_true kr) kr kr ?_;intro w17 H17;clear H16;refine qf H17 0 [(b7,Obj.cells (Value.cells (uv (ph h (df 0 M)))) 48 (0,0)),(b6,Obj.cells (Value.cells (uv (pl h (df 0 M)))) 48 (0,0)),(b5,Obj.cells (Value.cells (uv (df 0 M))) 48 (0,0)),(b4,Obj.cells #[wZ,wZ,wZ,wZ] 48 (0,0)),(b3,Obj.cells (Value.cells (uv M)) 48 (0,0)),(b2,Obj.cells (Value.cells (uv h)) 48 (0,0)),(b1,Obj.cells (Value.cells (uv l)) 48 (0,0))] 48 (.tmp 10) (.tmp 27) b7 0 #[wZ,wZ,wZ,wZ] (Value.cells (uv (ph h (df 0 M)))) 48 (uv (ph h (df 0 M))) kr kr kr kr kr kr (of_decide_eq_true kr) kr kr ?_;intro w18 H18;clear H17;refine zc<|zg [0,1,2,3,4,5,6,7,8] kr kr<|yM H18 (some 29) 48 (.tmp 3) 6 b1 (Value.cells (uv l)) 48 (0,0) kr kr kr kr kr<|yM H18 (some 30) 48 (.tmp 9) 1 b6 (Value.cells (uv (pl h (df 0 M)))) 48 (0,0) kr kr kr kr kr<|jS H18 (some 31) 157 #[uv l,uv (pl h (df 0 M))] (.tuple #[uv (sm l (pl h (df 0 M))),.bool (ov l (pl h (df 0 M)))]) (zbX l (pl h (df 0 M)) hl (zeJ _ _)) (fun w=>by kernel_rfl) kr ?_;intro w19 H19;clear H18;refine zm (some 28) (.tuple #[uv (sm l (pl h (df 0 M))),.bool (ov l (pl h (df 0 M)))]) (fun w=>by kernel_rfl) kr<|zm (some 32) (uv (sm l (pl h (df 0 M)))) (fun w=>by kernel_rfl) kr<|zm (some 33) (.bool (ov l (pl h (df 0 M)))) (fun w=>by kernel_rfl) kr<|zB H19 (some 11) 48 (.agg #[wZ,wZ,wZ,wZ]) kr kr kr ?_;intro b8 w20 H20;clear H19;refine qf H20 0 [(b8,Obj.cells (Value.cells (uv (sm l (pl h (df 0 M))))) 48 (0,0)),(b7,Obj.cells (Value.cells (uv (ph h (df 0 M)))) 48 (0,0)),(b6,Obj.cells (Value.cells (uv (pl h (df 0 M)))) 48 (0,0)),(b5,Obj.cells (Value.cells (uv (df 0 M))) 48 (0,0)),(b4,Obj.cells #[wZ,wZ,wZ,wZ] 48 (0,0)),(b3,Obj.cells (Value.cells (uv M)) 48 (0,0)),(b2,Obj.cells (Value.cells (uv h)) 48 (0,0)),(b1,Obj.cells (Value.cells (uv l)) 48 (0,0))] 48 (.tmp 11) (.tmp 32) b8 0 #[wZ,wZ,wZ,wZ] (Value.cells (uv (sm l (pl h (df 0 M))))) 48 (uv (sm l (pl h (df 0 M)))) kr kr kr kr kr kr (of_decide_eq_true kr) kr kr ?_;intro w21 H21;clear H20;refine zm (some 12) (.bool (ov l (pl h (df 0 M)))) (fun w=>by kernel_rfl) kr<|zc<|g_sdraw [0,1,2,3] [((some 34),fun _=>uv (sm l (pl h (df 0 M)))),((some 35),fun _=>uv (ph h (df 0 M))),(none,fun _=>undef),(none,fun _=>undef)] (fun L g x=>St w.heap.size w x ([(b8,Obj.cells (Value.cells (uv (sm l (pl h (df 0 M))))) 48 (0,0)),(b7,Obj.cells (Value.cells (uv (ph h (df 0 M)))) 48 (0,0)),(b6,Obj.cells (Value.cells (uv (pl h (df 0 M)))) 48 (0,0)),(b5,Obj.cells (Value.cells (uv (df 0 M))) 48 (0,0)),(b4,Obj.cells #[wZ,wZ,wZ,wZ] 48 (0,0)),(b3,Obj.cells (Value.cells (uv M)) 48 (0,0)),(b2,(bif L 3 then Obj.cells (Value.cells (uv (ph h (df 0 M)))) 48 (0,0) else Obj.cells (Value.cells (uv h)) 48 (0,0))),(b1,(bif L 2 then Obj.cells (Value.cells (uv (sm l (pl h (df 0 M))))) 48 (0,0) else Obj.cells (Value.cells (uv l)) 48 (0,0)))])) kr kr kr kr (H21.drew) ⟨?_,?_,?_,?_,trivial⟩ ?_
  ·exact xO 48 (.tmp 11) (fun _=>0) (fun g=>b8) (Value.cells (uv (sm l (pl h (df 0 M))))) 48 (0,0) (fun _ _ _ h=>h) (fun g=>by kernel_rfl) (fun g=>by kernel_rfl) (fun L g _=>by kernel_rfl) kr
  ·exact xO 48 (.tmp 10) (fun _=>1) (fun g=>b7) (Value.cells (uv (ph h (df 0 M)))) 48 (0,0) (fun _ _ _ h=>h) (fun g=>by kernel_rfl) (fun g=>by kernel_rfl) (fun L g _=>by kernel_rfl) kr
  ·exact ub (fun _=>7) 48 (.tmp 3) (.tmp 34) (fun g=>b1) 0 (Value.cells (uv l)) (Value.cells (uv (sm l (pl h (df 0 M))))) 48 (uv (sm l (pl h (df 0 M)))) (fun g=>by kernel_rfl) (fun g=>by kernel_rfl) (fun g=>by kernel_rfl) kr kr (of_decide_eq_true kr) kr (fun L g hN=>by (have hs2:L 2=false:=hN.1;show ([(b8,Obj.cells (Value.cells (uv (sm l (pl h (df 0 M))))) 48 (0,0)),(b7,Obj.cells (Value.cells (uv (ph h (df 0 M)))) 48 (0,0)),(b6,Obj.cells (Value.cells (uv (pl h (df 0 M)))) 48 (0,0)),(b5,Obj.cells (Value.cells (uv (df 0 M))) 48 (0,0)),(b4,Obj.cells #[wZ,wZ,wZ,wZ] 48 (0,0)),(b3,Obj.cells (Value.cells (uv M)) 48 (0,0)),(b2,(bif L 3 then Obj.cells (Value.cells (uv (ph h (df 0 M)))) 48 (0,0) else Obj.cells (Value.cells (uv h)) 48 (0,0))),(b1,(bif L 2 then Obj.cells (Value.cells (uv (sm l (pl h (df 0 M))))) 48 (0,0) else Obj.cells (Value.cells (uv l)) 48 (0,0)))])[(fun _=>7) L]? =some (b1,Obj.cells (Value.cells (uv l)) 48 (0,0))∧([(b8,Obj.cells (Value.cells (uv (sm l (pl h (df 0 M))))) 48 (0,0)),(b7,Obj.cells (Value.cells (uv (ph h (df 0 M)))) 48 (0,0)),(b6,Obj.cells (Value.cells (uv (pl h (df 0 M)))) 48 (0,0)),(b5,Obj.cells (Value.cells (uv (df 0 M))) 48 (0,0)),(b4,Obj.cells #[wZ,wZ,wZ,wZ] 48 (0,0)),(b3,Obj.cells (Value.cells (uv M)) 48 (0,0)),(b2,(bif L 3 then Obj.cells (Value.cells (uv (ph h (df 0 M)))) 48 (0,0) else Obj.cells (Value.cells (uv h)) 48 (0,0))),(b1,(bif L 2 then Obj.cells (Value.cells (uv (sm l (pl h (df 0 M))))) 48 (0,0) else Obj.cells (Value.cells (uv l)) 48 (0,0)))]).set ((fun _=>7) L) (b1,Obj.cells (Value.cells (uv (sm l (pl h (df 0 M))))) 48 (0,0))=([(b8,Obj.cells (Value.cells (uv (sm l (pl h (df 0 M))))) 48 (0,0)),(b7,Obj.cells (Value.cells (uv (ph h (df 0 M)))) 48 (0,0)),(b6,Obj.cells (Value.cells (uv (pl h (df 0 M)))) 48 (0,0)),(b5,Obj.cells (Value.cells (uv (df 0 M))) 48 (0,0)),(b4,Obj.cells #[wZ,wZ,wZ,wZ] 48 (0,0)),(b3,Obj.cells (Value.cells (uv M)) 48 (0,0)),(b2,(bif L 3 then Obj.cells (Value.cells (uv (ph h (df 0 M)))) 48 (0,0) else Obj.cells (Value.cells (uv h)) 48 (0,0))),(b1,(bif true then Obj.cells (Value.cells (uv (sm l (pl h (df 0 M))))) 48 (0,0) else Obj.cells (Value.cells (uv l)) 48 (0,0)))]);rw [hs2];exact ⟨rfl,rfl⟩))
  ·exact ub (fun _=>6) 48 (.tmp 4) (.tmp 35) (fun g=>b2) 0 (Value.cells (uv h)) (Value.cells (uv (ph h (df 0 M)))) 48 (uv (ph h (df 0 M))) (fun g=>by kernel_rfl) (fun g=>by kernel_rfl) (fun g=>by kernel_rfl) kr kr (of_decide_eq_true kr) kr (fun L g hN=>by (have hs3:L 3=false:=hN.1;show ([(b8,Obj.cells (Value.cells (uv (sm l (pl h (df 0 M))))) 48 (0,0)),(b7,Obj.cells (Value.cells (uv (ph h (df 0 M)))) 48 (0,0)),(b6,Obj.cells (Value.cells (uv (pl h (df 0 M)))) 48 (0,0)),(b5,Obj.cells (Value.cells (uv (df 0 M))) 48 (0,0)),(b4,Obj.cells #[wZ,wZ,wZ,wZ] 48 (0,0)),(b3,Obj.cells (Value.cells (uv M)) 48 (0,0)),(b2,(bif L 3 then Obj.cells (Value.cells (uv (ph h (df 0 M)))) 48 (0,0) else Obj.cells (Value.cells (uv h)) 48 (0,0))),(b1,(bif L 2 then Obj.cells (Value.cells (uv (sm l (pl h (df 0 M))))) 48 (0,0) else Obj.cells (Value.cells (uv l)) 48 (0,0)))])[(fun _=>6) L]? =some (b2,Obj.cells (Value.cells (uv h)) 48 (0,0))∧([(b8,Obj.cells (Value.cells (uv (sm l (pl h (df 0 M))))) 48 (0,0)),(b7,Obj.cells (Value.cells (uv (ph h (df 0 M)))) 48 (0,0)),(b6,Obj.cells (Value.cells (uv (pl h (df 0 M)))) 48 (0,0)),(b5,Obj.cells (Value.cells (uv (df 0 M))) 48 (0,0)),(b4,Obj.cells #[wZ,wZ,wZ,wZ] 48 (0,0)),(b3,Obj.cells (Value.cells (uv M)) 48 (0,0)),(b2,(bif L 3 then Obj.cells (Value.cells (uv (ph h (df 0 M)))) 48 (0,0) else Obj.cells (Value.cells (uv h)) 48 (0,0))),(b1,(bif L 2 then Obj.cells (Value.cells (uv (sm l (pl h (df 0 M))))) 48 (0,0) else Obj.cells (Value.cells (uv l)) 48 (0,0)))]).set ((fun _=>6) L) (b2,Obj.cells (Value.cells (uv (ph h (df 0 M)))) 48 (0,0))=([(b8,Obj.cells (Value.cells (uv (sm l (pl h (df 0 M))))) 48 (0,0)),(b7,Obj.cells (Value.cells (uv (ph h (df 0 M)))) 48 (0,0)),(b6,Obj.cells (Value.cells (uv (pl h (df 0 M)))) 48 (0,0)),(b5,Obj.cells (Value.cells (uv (df 0 M))) 48 (0,0)),(b4,Obj.cells #[wZ,wZ,wZ,wZ] 48 (0,0)),(b3,Obj.cells (Value.cells (uv M)) 48 (0,0)),(b2,(bif true then Obj.cells (Value.cells (uv (ph h (df 0 M)))) 48 (0,0) else Obj.cells (Value.cells (uv h)) 48 (0,0))),(b1,(bif L 2 then Obj.cells (Value.cells (uv (sm l (pl h (df 0 M))))) 48 (0,0) else Obj.cells (Value.cells (uv l)) 48 (0,0)))]);rw [hs3];exact ⟨rfl,rfl⟩))
  intro L0 g22 w22 hall HL;clear H21;have H22:St w.heap.size w w22 [(b8,Obj.cells (Value.cells (uv (sm l (pl h (df 0 M))))) 48 (0,0)),(b7,Obj.cells (Value.cells (uv (ph h (df 0 M)))) 48 (0,0)),(b6,Obj.cells (Value.cells (uv (pl h (df 0 M)))) 48 (0,0)),(b5,Obj.cells (Value.cells (uv (df 0 M))) 48 (0,0)),(b4,Obj.cells #[wZ,wZ,wZ,wZ] 48 (0,0)),(b3,Obj.cells (Value.cells (uv M)) 48 (0,0)),(b2,Obj.cells (Value.cells (uv (ph h (df 0 M)))) 48 (0,0)),(b1,Obj.cells (Value.cells (uv (sm l (pl h (df 0 M))))) 48 (0,0))]:=by have e2:=hall 2 (Nat.le_of_ble_eq_true kr);have e3:=hall 3 (Nat.le_of_ble_eq_true kr);simp only [e2,e3,cond_true] at HL;exact HL
  clear HL hall;refine zg [0] kr kr ?_;obtain ⟨h',hh1,hh2,hfold⟩:=zjl hM hl hh hne;cases hov:ov l (pl h (df 0 M))
  ·rw [hov] at hh1;simp only [Bool.false_eq_true,if_false] at hh1;subst hh1;refine zm (some 36) (.bool false) (fun w=>by kernel_rfl) kr<|zc<|zi kr kr<|zj kr ?_;have HD1:St w.heap.size w w22 [(b5,Obj.cells (Value.cells (uv (df 0 M))) 48 (0,0)),(b4,Obj.cells #[wZ,wZ,wZ,wZ] 48 (0,0)),(b3,Obj.cells (Value.cells (uv M)) 48 (0,0)),(b2,Obj.cells (Value.cells (uv (ph h (df 0 M)))) 48 (0,0)),(b1,Obj.cells (Value.cells (uv (sm l (pl h (df 0 M))))) 48 (0,0))]:=H22.sub (List.Sublist.cons _ (List.Sublist.cons _ (List.Sublist.cons _ (List.Sublist.cons_cons _ (List.Sublist.cons_cons _ (List.Sublist.cons_cons _ (List.Sublist.cons_cons _ (List.Sublist.cons_cons _ List.Sublist.slnil))))))));show ∃m,_∧_;exact ⟨_,(zeL hM hne hfold),(sm l (pl h (df 0 M))),(ph h (df 0 M)),rfl,(zbV _ _),hh2,(zeK hfold hm),HD1,(Is.of ⟨kr,kr,kr,kr,kr,kr,kr,kr,trivial⟩)⟩
  ·rw [hov] at hh1;simp only [if_true] at hh1;subst hh1;refine zm (some 36) (.bool true) (fun w=>by kernel_rfl) kr<|zc<|zf kr kr<|g_draw0 [0,1,2,3,4,5,6] [((some 38),fun _=>uv (ph h (df 0 M))),((some 39),fun _=>uv 1),((some 40),fun _=>.tuple #[uv (sm (ph h (df 0 M)) 1),.bool (ov (ph h (df 0 M)) 1)]),((some 37),fun _=>.tuple #[uv (sm (ph h (df 0 M)) 1),.bool (ov (ph h (df 0 M)) 1)]),((some 41),fun _=>uv (sm (ph h (df 0 M)) 1)),((some 42),fun _=>.bool (ov (ph h (df 0 M)) 1)),(none,fun _=>undef)] (fun L g x=>St w.heap.size w x ([(b8,Obj.cells (Value.cells (uv (sm l (pl h (df 0 M))))) 48 (0,0)),(b7,Obj.cells (Value.cells (uv (ph h (df 0 M)))) 48 (0,0)),(b6,Obj.cells (Value.cells (uv (pl h (df 0 M)))) 48 (0,0)),(b5,Obj.cells (Value.cells (uv (df 0 M))) 48 (0,0)),(b4,Obj.cells #[wZ,wZ,wZ,wZ] 48 (0,0)),(b3,Obj.cells (Value.cells (uv M)) 48 (0,0)),(b2,(bif L 6 then Obj.cells (Value.cells (uv (sm (ph h (df 0 M)) 1))) 48 (0,0) else Obj.cells (Value.cells (uv (ph h (df 0 M)))) 48 (0,0))),(b1,Obj.cells (Value.cells (uv (sm l (pl h (df 0 M))))) 48 (0,0))])) kr kr kr (H22.drew) ⟨?_,?_,?_,?_,?_,?_,?_,trivial⟩ ?_
   ·exact xO 48 (.tmp 10) (fun _=>1) (fun g=>b7) (Value.cells (uv (ph h (df 0 M)))) 48 (0,0) (fun _ _ _ h=>h) (fun g=>by kernel_rfl) (fun g=>by kernel_rfl) (fun L g _=>by kernel_rfl) kr
   ·exact kX 164 #[.int .u64 1] (fun _ _ _ h=>h) (zjy 1 (by omega)) (fun g w=>by kernel_rfl)
   ·exact kX 157 #[uv (ph h (df 0 M)),uv 1] (fun _ _ _ h=>h) (zbX (ph h (df 0 M)) 1 (zjj hh (zbW _ _)) (by unfold big;omega)) (fun g w=>by kernel_rfl)
   ·exact gv_val (fun _ _ _ h=>h) (fun g w=>by kernel_rfl)
   ·exact gv_val (fun _ _ _ h=>h) (fun g w=>by kernel_rfl)
   ·exact gv_val (fun _ _ _ h=>h) (fun g w=>by kernel_rfl)
   ·exact ub (fun _=>6) 48 (.tmp 4) (.tmp 41) (fun g=>b2) 0 (Value.cells (uv (ph h (df 0 M)))) (Value.cells (uv (sm (ph h (df 0 M)) 1))) 48 (uv (sm (ph h (df 0 M)) 1)) (fun g=>by kernel_rfl) (fun g=>by kernel_rfl) (fun g=>by kernel_rfl) kr kr (of_decide_eq_true kr) kr (fun L g hN=>by (have hs6:L 6=false:=hN.1;show ([(b8,Obj.cells (Value.cells (uv (sm l (pl h (df 0 M))))) 48 (0,0)),(b7,Obj.cells (Value.cells (uv (ph h (df 0 M)))) 48 (0,0)),(b6,Obj.cells (Value.cells (uv (pl h (df 0 M)))) 48 (0,0)),(b5,Obj.cells (Value.cells (uv (df 0 M))) 48 (0,0)),(b4,Obj.cells #[wZ,wZ,wZ,wZ] 48 (0,0)),(b3,Obj.cells (Value.cells (uv M)) 48 (0,0)),(b2,(bif L 6 then Obj.cells (Value.cells (uv (sm (ph h (df 0 M)) 1))) 48 (0,0) else Obj.cells (Value.cells (uv (ph h (df 0 M)))) 48 (0,0))),(b1,Obj.cells (Value.cells (uv (sm l (pl h (df 0 M))))) 48 (0,0))])[(fun _=>6) L]? =some (b2,Obj.cells (Value.cells (uv (ph h (df 0 M)))) 48 (0,0))∧([(b8,Obj.cells (Value.cells (uv (sm l (pl h (df 0 M))))) 48 (0,0)),(b7,Obj.cells (Value.cells (uv (ph h (df 0 M)))) 48 (0,0)),(b6,Obj.cells (Value.cells (uv (pl h (df 0 M)))) 48 (0,0)),(b5,Obj.cells (Value.cells (uv (df 0 M))) 48 (0,0)),(b4,Obj.cells #[wZ,wZ,wZ,wZ] 48 (0,0)),(b3,Obj.cells (Value.cells (uv M)) 48 (0,0)),(b2,(bif L 6 then Obj.cells (Value.cells (uv (sm (ph h (df 0 M)) 1))) 48 (0,0) else Obj.cells (Value.cells (uv (ph h (df 0 M)))) 48 (0,0))),(b1,Obj.cells (Value.cells (uv (sm l (pl h (df 0 M))))) 48 (0,0))]).set ((fun _=>6) L) (b2,Obj.cells (Value.cells (uv (sm (ph h (df 0 M)) 1))) 48 (0,0))=([(b8,Obj.cells (Value.cells (uv (sm l (pl h (df 0 M))))) 48 (0,0)),(b7,Obj.cells (Value.cells (uv (ph h (df 0 M)))) 48 (0,0)),(b6,Obj.cells (Value.cells (uv (pl h (df 0 M)))) 48 (0,0)),(b5,Obj.cells (Value.cells (uv (df 0 M))) 48 (0,0)),(b4,Obj.cells #[wZ,wZ,wZ,wZ] 48 (0,0)),(b3,Obj.cells (Value.cells (uv M)) 48 (0,0)),(b2,(bif true then Obj.cells (Value.cells (uv (sm (ph h (df 0 M)) 1))) 48 (0,0) else Obj.cells (Value.cells (uv (ph h (df 0 M)))) 48 (0,0))),(b1,Obj.cells (Value.cells (uv (sm l (pl h (df 0 M))))) 48 (0,0))]);rw [hs6];exact ⟨rfl,rfl⟩))
   intro L0 g23 w23 hall HL;clear H22;have H23:St w.heap.size w w23 [(b8,Obj.cells (Value.cells (uv (sm l (pl h (df 0 M))))) 48 (0,0)),(b7,Obj.cells (Value.cells (uv (ph h (df 0 M)))) 48 (0,0)),(b6,Obj.cells (Value.cells (uv (pl h (df 0 M)))) 48 (0,0)),(b5,Obj.cells (Value.cells (uv (df 0 M))) 48 (0,0)),(b4,Obj.cells #[wZ,wZ,wZ,wZ] 48 (0,0)),(b3,Obj.cells (Value.cells (uv M)) 48 (0,0)),(b2,Obj.cells (Value.cells (uv (sm (ph h (df 0 M)) 1))) 48 (0,0)),(b1,Obj.cells (Value.cells (uv (sm l (pl h (df 0 M))))) 48 (0,0))]:=by have e6:=hall 6 (Nat.le_of_ble_eq_true kr);simp only [e6,cond_true] at HL;exact HL
   clear HL hall;have HD2:St w.heap.size w w23 [(b5,Obj.cells (Value.cells (uv (df 0 M))) 48 (0,0)),(b4,Obj.cells #[wZ,wZ,wZ,wZ] 48 (0,0)),(b3,Obj.cells (Value.cells (uv M)) 48 (0,0)),(b2,Obj.cells (Value.cells (uv (sm (ph h (df 0 M)) 1))) 48 (0,0)),(b1,Obj.cells (Value.cells (uv (sm l (pl h (df 0 M))))) 48 (0,0))]:=H23.sub (List.Sublist.cons _ (List.Sublist.cons _ (List.Sublist.cons _ (List.Sublist.cons_cons _ (List.Sublist.cons_cons _ (List.Sublist.cons_cons _ (List.Sublist.cons_cons _ (List.Sublist.cons_cons _ List.Sublist.slnil))))))));show ∃m,_∧_;exact ⟨_,(zeL hM hne hfold),(sm l (pl h (df 0 M))),(sm (ph h (df 0 M)) 1),rfl,(zbV _ _),hh2,(zeK hfold hm),HD2,(Is.of ⟨kr,kr,kr,kr,kr,kr,kr,kr,trivial⟩)⟩
theorem zal:Fn Tryz.prog 135 #[.int .i64 1] (.tuple #[uv NR,.int .i64 0]):=by
 refine Fn.intro (c:=zk Tryz.f135) [.cell 2 48,.tmp 3] 12 Tryz.func135 kr kr kr fun w=>?_;have H0:=St.start w;refine zg [0,1] kr kr<|zB H0 (some 2) 48 (.agg #[wZ,wZ,wZ,wZ]) kr kr kr ?_;intro b1 w1 H1;clear H0;refine zm (some 3) (.int .i64 0) (fun w=>by kernel_rfl) kr<|zc<|zb kr<|zg [0] kr kr<|zm (some 4) (.int .i64 1) (fun w=>by kernel_rfl) kr<|zc<|zn 0 kr<|zg [0,1] kr kr<|zm (some 6) (.bool false) (fun w=>by kernel_rfl) kr<|zm (some 5) (.bool false) (fun w=>by kernel_rfl) kr<|zc<|zi kr kr<|zg [0,1] kr kr<|zm (some 9) (.bool true) (fun w=>by kernel_rfl) kr<|zm (some 8) (.bool true) (fun w=>by kernel_rfl) kr<|zc<|zf kr kr<|zg [0,1,2] kr kr<|zm (some 10) (.agg #[.int .u64 0xbfd25e8cd0364141,.int .u64 0xbaaedce6af48a03b,.int .u64 0xfffffffffffffffe,.int .u64 0xffffffffffffffff]) (fun w=>by kernel_rfl) kr<|qf H1 0 [(b1,Obj.cells #[.int .u64 0xbfd25e8cd0364141,.int .u64 0xbaaedce6af48a03b,.int .u64 0xfffffffffffffffe,.int .u64 0xffffffffffffffff] 48 (0,0))] 48 (.tmp 2) (.tmp 10) b1 0 #[wZ,wZ,wZ,wZ] #[.int .u64 0xbfd25e8cd0364141,.int .u64 0xbaaedce6af48a03b,.int .u64 0xfffffffffffffffe,.int .u64 0xffffffffffffffff] 48 (.agg #[.int .u64 0xbfd25e8cd0364141,.int .u64 0xbaaedce6af48a03b,.int .u64 0xfffffffffffffffe,.int .u64 0xffffffffffffffff]) kr kr kr kr kr kr (of_decide_eq_true kr) kr kr ?_;intro w2 H2;clear H1;refine zm (some 3) (.int .i64 0) (fun w=>by kernel_rfl) kr<|zc<|zl kr<|wV ?_;refine ⟨[.agg #[.int .u64 0xbfd25e8cd0364141,.int .u64 0xbaaedce6af48a03b,.int .u64 0xfffffffffffffffe,.int .u64 0xffffffffffffffff],.int .i64 0],(.agg (b:=b1) #[.int .u64 0xbfd25e8cd0364141,.int .u64 0xbaaedce6af48a03b,.int .u64 0xfffffffffffffffe,.int .u64 0xffffffffffffffff] 48 (0,0) kr (H2.get 0 kr) kr (.tmp (.int .i64 0) kr .nil)),?_,H2.below⟩
 kernel_rfl
theorem zjB (A B:Nat)(hA:A<big)(hB:B<big):Fn Tryz.prog 147 #[uv A,uv B,.int .i64 1] (.tuple #[uv (ql A B NR),.int .i64 0]):=by
 refine Fn.intro (c:=zk Tryz.f147) [.cell 6 48,.tmp 7] 41 Tryz.func147 kr kr kr fun w=>?_;have H0:=St.start w;refine zg [0,1,2,3] kr kr<|jF H0 (some 3) 48 (.tmp 0) (uv A) kr kr kr ?_;intro b1 w1 H1;clear H0;refine jF H1 (some 4) 48 (.tmp 1) (uv B) kr kr kr ?_;intro b2 w2 H2;clear H1;refine zB H2 (some 6) 48 (.agg #[wZ,wZ,wZ,wZ]) kr kr kr ?_;intro b3 w3 H3;clear H2;refine zm (some 7) (.int .i64 0) (fun w=>by kernel_rfl) kr<|zc<|zg [0,1,2,3,4,5,6,7] kr kr<|zm (some 13) (.int .i64 1) (fun w=>by kernel_rfl) kr<|jS H3 (some 14) 135 #[.int .i64 1] (.tuple #[uv NR,.int .i64 0]) zal (fun w=>by kernel_rfl) kr ?_;intro w4 H4;clear H3;refine zm (some 12) (.tuple #[uv NR,.int .i64 0]) (fun w=>by kernel_rfl) kr<|zm (some 15) (uv NR) (fun w=>by kernel_rfl) kr<|zm (some 16) (.int .i64 0) (fun w=>by kernel_rfl) kr<|zB H4 (some 8) 48 (.agg #[wZ,wZ,wZ,wZ]) kr kr kr ?_;intro b4 w5 H5;clear H4;refine qf H5 0 [(b4,Obj.cells (Value.cells (uv NR)) 48 (0,0)),(b3,Obj.cells #[wZ,wZ,wZ,wZ] 48 (0,0)),(b2,Obj.cells (Value.cells (uv B)) 48 (0,0)),(b1,Obj.cells (Value.cells (uv A)) 48 (0,0))] 48 (.tmp 8) (.tmp 15) b4 0 #[wZ,wZ,wZ,wZ] (Value.cells (uv NR)) 48 (uv NR) kr kr kr kr kr kr (of_decide_eq_true kr) kr kr ?_;intro w6 H6;clear H5;refine zm (some 9) (.int .i64 0) (fun w=>by kernel_rfl) kr<|zc<|zb kr<|zg [0,1] kr kr<|zm (some 17) (.int .i64 0) (fun w=>by kernel_rfl) kr<|zm (some 18) (.bool false) (fun w=>by kernel_rfl) kr<|zc<|zi kr kr<|zj kr<|wW<|g_sdraw [0,1,2,3,4,5,6,7,8,9,10,11,12,13,14] [((some 22),fun _=>uv A),((some 23),fun _=>.agg #[wZ,wZ,wZ,wZ]),((some 24),fun _=>uv NR),((some 25),fun _=>uv (rs A 0 NR)),((some 26),fun _=>uv B),((some 27),fun _=>.agg #[wZ,wZ,wZ,wZ]),((some 28),fun _=>uv NR),((some 29),fun _=>uv (rs B 0 NR)),((some 30),fun _=>.tuple #[uv (df (rs A 0 NR) (rs B 0 NR)),.bool (lo (rs A 0 NR) (rs B 0 NR))]),((some 21),fun _=>.tuple #[uv (df (rs A 0 NR) (rs B 0 NR)),.bool (lo (rs A 0 NR) (rs B 0 NR))]),((some 31),fun _=>uv (df (rs A 0 NR) (rs B 0 NR))),((some 32),fun _=>.bool (lo (rs A 0 NR) (rs B 0 NR))),((some 10),fun b=>.pointer (some ⟨b,0,none⟩)),(none,fun _=>undef),((some 11),fun _=>.bool (lo (rs A 0 NR) (rs B 0 NR)))] (fun L g x=>St w.heap.size w x ([(b4,Obj.cells (Value.cells (uv NR)) 48 (0,0)),(b3,Obj.cells #[wZ,wZ,wZ,wZ] 48 (0,0)),(b2,Obj.cells (Value.cells (uv B)) 48 (0,0)),(b1,Obj.cells (Value.cells (uv A)) 48 (0,0))]++(bif L 12 then [(g 12,(bif L 13 then Obj.cells (Value.cells (uv (df (rs A 0 NR) (rs B 0 NR)))) 48 (0,0) else Obj.cells #[wZ,wZ,wZ,wZ] 48 (0,0)))] else []))) kr kr kr kr (H6.drew) ⟨?_,?_,?_,?_,?_,?_,?_,?_,?_,?_,?_,?_,?_,?_,?_,trivial⟩ ?_
 ·exact xO 48 (.tmp 3) (fun _=>3) (fun g=>b1) (Value.cells (uv A)) 48 (0,0) (fun _ _ _ h=>h) (fun g=>by kernel_rfl) (fun g=>by kernel_rfl) (fun L g _=>by kernel_rfl) kr
 ·exact gv_val (fun _ _ _ h=>h) (fun g w=>by kernel_rfl)
 ·exact xO 48 (.tmp 8) (fun _=>0) (fun g=>b4) (Value.cells (uv NR)) 48 (0,0) (fun _ _ _ h=>h) (fun g=>by kernel_rfl) (fun g=>by kernel_rfl) (fun L g _=>by kernel_rfl) kr
 ·exact kX 156 #[uv A,.agg #[wZ,wZ,wZ,wZ],uv NR] (fun _ _ _ h=>h) (zeP A 0 NR hA (by unfold big;omega) je) (fun g w=>by kernel_rfl)
 ·exact xO 48 (.tmp 4) (fun _=>2) (fun g=>b2) (Value.cells (uv B)) 48 (0,0) (fun _ _ _ h=>h) (fun g=>by kernel_rfl) (fun g=>by kernel_rfl) (fun L g _=>by kernel_rfl) kr
 ·exact gv_val (fun _ _ _ h=>h) (fun g w=>by kernel_rfl)
 ·exact xO 48 (.tmp 8) (fun _=>0) (fun g=>b4) (Value.cells (uv NR)) 48 (0,0) (fun _ _ _ h=>h) (fun g=>by kernel_rfl) (fun g=>by kernel_rfl) (fun L g _=>by kernel_rfl) kr
 ·exact kX 156 #[uv B,.agg #[wZ,wZ,wZ,wZ],uv NR] (fun _ _ _ h=>h) (zeP B 0 NR hB (by unfold big;omega) je) (fun g w=>by kernel_rfl)
 ·exact kX 155 #[uv (rs A 0 NR),uv (rs B 0 NR)] (fun _ _ _ h=>h) (zbY (rs A 0 NR) (rs B 0 NR) (zeI je) (zeI je)) (fun g w=>by kernel_rfl)
 ·exact gv_val (fun _ _ _ h=>h) (fun g w=>by kernel_rfl)
 ·exact gv_val (fun _ _ _ h=>h) (fun g w=>by kernel_rfl)
 ·exact gv_val (fun _ _ _ h=>h) (fun g w=>by kernel_rfl)
 ·exact zgv 48 (.agg #[wZ,wZ,wZ,wZ]) (fun L g=>[(b4,Obj.cells (Value.cells (uv NR)) 48 (0,0)),(b3,Obj.cells #[wZ,wZ,wZ,wZ] 48 (0,0)),(b2,Obj.cells (Value.cells (uv B)) 48 (0,0)),(b1,Obj.cells (Value.cells (uv A)) 48 (0,0))]) (fun L g=>([]:List (Nat×Obj))) (fun g=>by kernel_rfl) kr (fun L g hN=>by (have hn:L 12=false:=hN.1;show ([(b4,Obj.cells (Value.cells (uv NR)) 48 (0,0)),(b3,Obj.cells #[wZ,wZ,wZ,wZ] 48 (0,0)),(b2,Obj.cells (Value.cells (uv B)) 48 (0,0)),(b1,Obj.cells (Value.cells (uv A)) 48 (0,0))]++(bif L 12 then [(g 12,(bif L 13 then Obj.cells (Value.cells (uv (df (rs A 0 NR) (rs B 0 NR)))) 48 (0,0) else Obj.cells #[wZ,wZ,wZ,wZ] 48 (0,0)))] else []))=([(b4,Obj.cells (Value.cells (uv NR)) 48 (0,0)),(b3,Obj.cells #[wZ,wZ,wZ,wZ] 48 (0,0)),(b2,Obj.cells (Value.cells (uv B)) 48 (0,0)),(b1,Obj.cells (Value.cells (uv A)) 48 (0,0))])++(([]:List (Nat×Obj)));rw [hn];rfl)) (fun L g b hN=>by (have hz:L 13=false:=hN.2.2.no 12 13 kr hN.1;show ([(b4,Obj.cells (Value.cells (uv NR)) 48 (0,0)),(b3,Obj.cells #[wZ,wZ,wZ,wZ] 48 (0,0)),(b2,Obj.cells (Value.cells (uv B)) 48 (0,0)),(b1,Obj.cells (Value.cells (uv A)) 48 (0,0))])++(b,Obj.cells #[wZ,wZ,wZ,wZ] 48 (0,0))::(([]:List (Nat×Obj)))=([(b4,Obj.cells (Value.cells (uv NR)) 48 (0,0)),(b3,Obj.cells #[wZ,wZ,wZ,wZ] 48 (0,0)),(b2,Obj.cells (Value.cells (uv B)) 48 (0,0)),(b1,Obj.cells (Value.cells (uv A)) 48 (0,0))]++([(b,(bif L 13 then Obj.cells (Value.cells (uv (df (rs A 0 NR) (rs B 0 NR)))) 48 (0,0) else Obj.cells #[wZ,wZ,wZ,wZ] 48 (0,0)))]));rw [hz];rfl))
 ·exact ub (fun _=>4) 48 (.tmp 10) (.tmp 31) (fun g=>g 12) 0 #[wZ,wZ,wZ,wZ] (Value.cells (uv (df (rs A 0 NR) (rs B 0 NR)))) 48 (uv (df (rs A 0 NR) (rs B 0 NR))) (fun g=>by kernel_rfl) (fun g=>by kernel_rfl) (fun g=>by kernel_rfl) kr kr (of_decide_eq_true kr) kr (fun L g hN=>by (have hs13:L 13=false:=hN.1;have hs12:L 12=true:=before_yes hN.2.1 12 kr;show ([(b4,Obj.cells (Value.cells (uv NR)) 48 (0,0)),(b3,Obj.cells #[wZ,wZ,wZ,wZ] 48 (0,0)),(b2,Obj.cells (Value.cells (uv B)) 48 (0,0)),(b1,Obj.cells (Value.cells (uv A)) 48 (0,0))]++(bif L 12 then [(g 12,(bif L 13 then Obj.cells (Value.cells (uv (df (rs A 0 NR) (rs B 0 NR)))) 48 (0,0) else Obj.cells #[wZ,wZ,wZ,wZ] 48 (0,0)))] else []))[(fun _=>4) L]? =some (g 12,Obj.cells #[wZ,wZ,wZ,wZ] 48 (0,0))∧([(b4,Obj.cells (Value.cells (uv NR)) 48 (0,0)),(b3,Obj.cells #[wZ,wZ,wZ,wZ] 48 (0,0)),(b2,Obj.cells (Value.cells (uv B)) 48 (0,0)),(b1,Obj.cells (Value.cells (uv A)) 48 (0,0))]++(bif L 12 then [(g 12,(bif L 13 then Obj.cells (Value.cells (uv (df (rs A 0 NR) (rs B 0 NR)))) 48 (0,0) else Obj.cells #[wZ,wZ,wZ,wZ] 48 (0,0)))] else [])).set ((fun _=>4) L) (g 12,Obj.cells (Value.cells (uv (df (rs A 0 NR) (rs B 0 NR)))) 48 (0,0))=([(b4,Obj.cells (Value.cells (uv NR)) 48 (0,0)),(b3,Obj.cells #[wZ,wZ,wZ,wZ] 48 (0,0)),(b2,Obj.cells (Value.cells (uv B)) 48 (0,0)),(b1,Obj.cells (Value.cells (uv A)) 48 (0,0))]++(bif L 12 then [(g 12,(bif true then Obj.cells (Value.cells (uv (df (rs A 0 NR) (rs B 0 NR)))) 48 (0,0) else Obj.cells #[wZ,wZ,wZ,wZ] 48 (0,0)))] else []));rw [hs13,hs12];exact ⟨rfl,rfl⟩))
 ·exact gv_val (fun _ _ _ h=>h) (fun g w=>by kernel_rfl)
 intro L0 g7 w7 hall HL;clear H6;have H7:St w.heap.size w w7 [(b4,Obj.cells (Value.cells (uv NR)) 48 (0,0)),(b3,Obj.cells #[wZ,wZ,wZ,wZ] 48 (0,0)),(b2,Obj.cells (Value.cells (uv B)) 48 (0,0)),(b1,Obj.cells (Value.cells (uv A)) 48 (0,0)),((g7 12),Obj.cells (Value.cells (uv (df (rs A 0 NR) (rs B 0 NR)))) 48 (0,0))]:=by have e13:=hall 13 (Nat.le_of_ble_eq_true kr);have e12:=hall 12 (Nat.le_of_ble_eq_true kr);simp only [e13,e12,cond_true] at HL;exact HL
 clear HL hall;refine zb kr<|zg [0] kr kr ?_;cases hlo:lo (rs A 0 NR) (rs B 0 NR)
 ·refine zm (some 33) (.bool false) (fun w=>by kernel_rfl) kr<|zc<|zi kr kr<|zj kr<|wW<|zg [0,1,2] kr kr<|yM H7 (some 40) 48 (.tmp 10) 4 (g7 12) (Value.cells (uv (df (rs A 0 NR) (rs B 0 NR)))) 48 (0,0) kr kr kr kr kr<|qf H7 1 [(b4,Obj.cells (Value.cells (uv NR)) 48 (0,0)),(b3,Obj.cells (Value.cells (uv (df (rs A 0 NR) (rs B 0 NR)))) 48 (0,0)),(b2,Obj.cells (Value.cells (uv B)) 48 (0,0)),(b1,Obj.cells (Value.cells (uv A)) 48 (0,0)),((g7 12),Obj.cells (Value.cells (uv (df (rs A 0 NR) (rs B 0 NR)))) 48 (0,0))] 48 (.tmp 6) (.tmp 40) b3 0 #[wZ,wZ,wZ,wZ] (Value.cells (uv (df (rs A 0 NR) (rs B 0 NR)))) 48 (uv (df (rs A 0 NR) (rs B 0 NR))) kr kr kr kr kr kr (of_decide_eq_true kr) kr kr ?_;intro w8 H8;clear H7;refine zm (some 7) (.int .i64 0) (fun w=>by kernel_rfl) kr<|zc<|zl kr<|wV ?_;refine ⟨[uv (df (rs A 0 NR) (rs B 0 NR)),.int .i64 0],(.agg (b:=b3) (Value.cells (uv (df (rs A 0 NR) (rs B 0 NR)))) 48 (0,0) kr (H8.get 1 kr) kr (.tmp (.int .i64 0) kr .nil)),?_,H8.below⟩;exact congrArg (fun n=>Value.tuple #[uv n,.int .i64 0]) (zjp je hlo)
 ·refine zm (some 33) (.bool true) (fun w=>by kernel_rfl) kr<|zc<|zf kr kr<|yv [0,1,2,3,4,5,6] kr<|yM H7 (some 35) 48 (.tmp 10) 4 (g7 12) (Value.cells (uv (df (rs A 0 NR) (rs B 0 NR)))) 48 (0,0) kr kr kr kr kr<|yM H7 (some 36) 48 (.tmp 8) 0 b4 (Value.cells (uv NR)) 48 (0,0) kr kr kr kr kr<|jS H7 (some 37) 157 #[uv (df (rs A 0 NR) (rs B 0 NR)),uv NR] (.tuple #[uv (sm (df (rs A 0 NR) (rs B 0 NR)) NR),.bool (ov (df (rs A 0 NR) (rs B 0 NR)) NR)]) (zbX (df (rs A 0 NR) (rs B 0 NR)) NR (zbW _ _) je.1) (fun w=>by kernel_rfl) kr ?_;intro w9 H9;clear H7;refine zm (some 34) (.tuple #[uv (sm (df (rs A 0 NR) (rs B 0 NR)) NR),.bool (ov (df (rs A 0 NR) (rs B 0 NR)) NR)]) (fun w=>by kernel_rfl) kr<|zm (some 38) (uv (sm (df (rs A 0 NR) (rs B 0 NR)) NR)) (fun w=>by kernel_rfl) kr<|zm (some 39) (.bool (ov (df (rs A 0 NR) (rs B 0 NR)) NR)) (fun w=>by kernel_rfl) kr<|qf H9 4 [(b4,Obj.cells (Value.cells (uv NR)) 48 (0,0)),(b3,Obj.cells #[wZ,wZ,wZ,wZ] 48 (0,0)),(b2,Obj.cells (Value.cells (uv B)) 48 (0,0)),(b1,Obj.cells (Value.cells (uv A)) 48 (0,0)),((g7 12),Obj.cells (Value.cells (uv (sm (df (rs A 0 NR) (rs B 0 NR)) NR))) 48 (0,0))] 48 (.tmp 10) (.tmp 38) (g7 12) 0 (Value.cells (uv (df (rs A 0 NR) (rs B 0 NR)))) (Value.cells (uv (sm (df (rs A 0 NR) (rs B 0 NR)) NR))) 48 (uv (sm (df (rs A 0 NR) (rs B 0 NR)) NR)) kr kr kr kr kr kr (of_decide_eq_true kr) kr kr ?_;intro w10 H10;clear H9;refine zc<|wW<|zg [0,1,2] kr kr<|yM H10 (some 40) 48 (.tmp 10) 4 (g7 12) (Value.cells (uv (sm (df (rs A 0 NR) (rs B 0 NR)) NR))) 48 (0,0) kr kr kr kr kr<|qf H10 1 [(b4,Obj.cells (Value.cells (uv NR)) 48 (0,0)),(b3,Obj.cells (Value.cells (uv (sm (df (rs A 0 NR) (rs B 0 NR)) NR))) 48 (0,0)),(b2,Obj.cells (Value.cells (uv B)) 48 (0,0)),(b1,Obj.cells (Value.cells (uv A)) 48 (0,0)),((g7 12),Obj.cells (Value.cells (uv (sm (df (rs A 0 NR) (rs B 0 NR)) NR))) 48 (0,0))] 48 (.tmp 6) (.tmp 40) b3 0 #[wZ,wZ,wZ,wZ] (Value.cells (uv (sm (df (rs A 0 NR) (rs B 0 NR)) NR))) 48 (uv (sm (df (rs A 0 NR) (rs B 0 NR)) NR)) kr kr kr kr kr kr (of_decide_eq_true kr) kr kr ?_;intro w11 H11;clear H10;refine zm (some 7) (.int .i64 0) (fun w=>by kernel_rfl) kr<|zc<|zl kr<|wV ?_;refine ⟨[uv (sm (df (rs A 0 NR) (rs B 0 NR)) NR),.int .i64 0],(.agg (b:=b3) (Value.cells (uv (sm (df (rs A 0 NR) (rs B 0 NR)) NR))) 48 (0,0) kr (H11.get 1 kr) kr (.tmp (.int .i64 0) kr .nil)),?_,H11.below⟩;exact congrArg (fun n=>Value.tuple #[uv n,.int .i64 0]) (zjo je hlo)
end Go.Proofs.YtbpmjppmpgeejaaGreatDoor
namespace Go.Proofs.YtbpmjppmpgeejaaGreatDoor
def vl:List Nat→Nat
 | []=>0
 | d::r=>d+65536*vl r
def Ok (l:List Nat):Prop:= ∀d∈l,d<65536
def dgt (A i:Nat):Nat:=A / 65536^i%65536
def dgs (A k:Nat):List Nat:=(List.range k).map (dgt A)
theorem zbZ (A k:Nat):(dgs A k).length=k:=by unfold dgs;simp
theorem zeQ (A k:Nat):dgs A (k+1)=dgs A k++ [dgt A k]:=by unfold dgs;rw [List.range_succ];simp
theorem zjC (A k:Nat):Ok (dgs A k):=by
 intro d hd;unfold dgs at hd;obtain ⟨i,_,rfl⟩:=List.mem_map.1 hd;exact Nat.mod_lt _ (by omega)
theorem zeR (l m:List Nat):vl (l++m)=vl l+65536^l.length*vl m:=by
 induction l with
 | nil=>simp [vl]
 | cons d r ih=>
  rw [List.cons_append,vl,vl,ih,List.length_cons,Nat.pow_succ,Nat.mul_add,←Nat.mul_assoc,Nat.mul_comm 65536 (65536^_)];omega
theorem zb0 (l:List Nat)(d:Nat):vl (l++ [d])=vl l+65536^l.length*d:=by rw [zeR];simp [vl]
theorem zjD (A k:Nat):vl (dgs A k)=A%65536^k:=by
 induction k with
 | zero=>simp [dgs,vl,Nat.mod_one]
 | succ k ih=>
  rw [zeQ,zb0,ih,zbZ,Nat.pow_succ,Nat.mod_mul];rfl
theorem zam {l:List Nat}(h:Ok l):vl l<65536^l.length:=by
 induction l with
 | nil=>simp [vl]
 | cons d r ih=>
  have h1:=h d (by simp);have h2:=ih (fun x hx=>h x (by simp [hx]));rw [vl,List.length_cons,Nat.pow_succ];omega
theorem zjE {l m:List Nat}(h:Ok l)(k:Ok m):Ok (l++m):=fun d hd=>by
 rcases List.mem_append.1 hd with h1|h1
 ·exact h d h1
 ·exact k d h1
theorem zb1 {l:List Nat}(h:Ok l)(k:Nat):Ok (l.take k):=fun d hd=>h d (List.mem_of_mem_take hd)
theorem yB {l:List Nat}(h:Ok l)(i:Nat):l.getD i 0<65536:=by
 rcases Nat.lt_or_ge i l.length with hi|hi
 ·have:l.getD i 0=l[i]:=by simp [List.getD,List.getElem?_eq_getElem hi]
  rw [this];exact h _ (List.getElem_mem hi)
 ·have:l.getD i 0=0:=by simp [List.getD,List.getElem?_eq_none hi]
  omega
theorem zjF (l:List Nat)(k:Nat)(h:k<l.length):vl (l.take (k+1))=vl (l.take k)+65536^k*l.getD k 0:=by
 rw [List.take_succ_eq_append_getElem h,zb0,List.length_take,Nat.min_eq_left (by omega)];simp [List.getD,List.getElem?_eq_getElem h]
theorem kG (l:List Nat)(k:Nat):vl (l.take (k+1))=vl (l.take k)+65536^k*l.getD k 0:=by
 rcases Nat.lt_or_ge k l.length with h|h
 ·exact zjF l k h
 ·rw [List.take_of_length_le h,List.take_of_length_le (by omega)];simp [List.getD,List.getElem?_eq_none h]
theorem zjG (l:List Nat)(k:Nat):vl l=vl (l.take k)+65536^k*vl (l.drop k):=by
 rcases Nat.lt_or_ge l.length k with h|h
 ·rw [List.take_of_length_le (by omega),List.drop_of_length_le (by omega)];simp [vl]
 ·conv=>lhs;rw [←List.take_append_drop k l]
  rw [zeR,List.length_take,Nat.min_eq_left h]
theorem zjH:big=65536^16:=rfl
theorem zan (A k:Nat)(h:k / 4=0):(w0 A / 2^(16*(k%4)))%65536=(dgt A k:Int):=by
 have hk:k=0∨k=1∨k=2∨k=3:=by omega
 unfold w0 dgt;rcases hk with rfl | rfl | rfl | rfl
 ·show ((A%0x10000000000000000:Nat):Int) / 1%65536=((A / 1%65536:Nat):Int);omega
 ·show ((A%0x10000000000000000:Nat):Int) / 65536%65536=((A / 65536%65536:Nat):Int);omega
 ·show ((A%0x10000000000000000:Nat):Int) / 4294967296%65536=((A / 4294967296%65536:Nat):Int);omega
 ·show ((A%0x10000000000000000:Nat):Int) / 281474976710656%65536=((A / 281474976710656%65536:Nat):Int);omega
theorem zb2 (A j k:Nat):dgt (A / 65536^j) k=dgt A (j+k):=by unfold dgt;rw [Nat.div_div_eq_div_mul,←Nat.pow_add]
theorem zjI (A k:Nat)(h:k / 4=1):(w1 A / 2^(16*(k%4)))%65536=(dgt A k:Int):=by
 have e:=zan (A / 65536^4) (k-4) (by omega);rw [zb2,show 4+(k-4)=k by omega,show (k-4)%4=k%4 by omega] at e;exact e
theorem zjJ (A k:Nat)(h:k / 4=2):(w2 A / 2^(16*(k%4)))%65536=(dgt A k:Int):=by
 have e:=zan (A / 65536^8) (k-8) (by omega);rw [zb2,show 8+(k-8)=k by omega,show (k-8)%4=k%4 by omega] at e;exact e
theorem zjK (A k:Nat)(h:k / 4=3):(w3 A / 2^(16*(k%4)))%65536=(dgt A k:Int):=by
 have e:=zan (A / 65536^12) (k-12) (by omega);rw [zb2,show 12+(k-12)=k by omega,show (k-12)%4=k%4 by omega] at e;exact e
open Go
set_option linter.unusedVariables false
def dAt (ds:List Nat)(i:Nat):Int:=((ds.getD i 0:Nat):Int)
theorem zeS {l:List Nat}(i:Nat):0≤dAt l i:=by unfold dAt;omega
theorem zeT {l:List Nat}(h:Ok l)(i:Nat):dAt l i≤65535:=by have:=yB h i;unfold dAt;omega
structure qT (x y l:List Nat)(k:Nat)(c:Int):Prop where
 len:l.length=k
 ok:Ok l
 c0:0≤c
 c1:c≤1
 val:(vl l:Int)+65536^k*c=vl (x.take k)+vl (y.take k)
 top:k≤max x.length y.length+1
 last:k=max x.length y.length+1→c=0
theorem qT.start (x y:List Nat):qT x y [] 0 0:=⟨rfl,(fun d h=>by cases h),by omega,by omega,by simp [vl],by omega,by omega⟩
theorem qT.next {x y l:List Nat}{k:Nat}{c:Int}(h:qT x y l k c)(hx:Ok x)(hy:Ok y)(hgo:k<x.length∨k<y.length∨0<c):
 qT x y (l++ [((dAt x k+dAt y k+c)%65536).toNat]) (k+1) ((dAt x k+dAt y k+c) / 65536):=by
 have x0:=zeS (l:=x) k;have x1:=zeT hx k;have y0:=zeS (l:=y) k;have y1:=zeT hy k;obtain ⟨e1,e2,c0,c1,ev,et,el⟩:=h;have hend:k=max x.length y.length→dAt x k=0∧dAt y k=0:=fun e=>by
  unfold dAt;simp [List.getD,List.getElem?_eq_none (show x.length≤k by omega),List.getElem?_eq_none (show y.length≤k by omega)]
 refine ⟨by simp [e1],zjE e2 (fun d hd=>by simp at hd;omega),by omega,by omega,?_,?_,?_⟩
 ·rw [zb0,e1,kG,kG,Int.pow_succ];have hdx:dAt x k=((x.getD k 0:Nat):Int):=rfl;have hdy:dAt y k=((y.getD k 0:Nat):Int):=rfl;have hs:(((dAt x k+dAt y k+c)%65536).toNat:Int)=(dAt x k+dAt y k+c)%65536:=by omega
  have hm:dAt x k+dAt y k+c=65536*((dAt x k+dAt y k+c) / 65536)+(dAt x k+dAt y k+c)%65536:=by omega
  generalize hq:(dAt x k+dAt y k+c) / 65536=q at*;generalize hr:(dAt x k+dAt y k+c)%65536=r at*;have e3:(65536:Int)^k*dAt x k+65536^k*dAt y k+65536^k*c=65536^k*65536*q+65536^k*r:=by
   rw [←Int.mul_add,←Int.mul_add,hm,Int.mul_add,Int.mul_assoc]
  have g1:((vl l+65536^k*r.toNat:Nat):Int)=(vl l:Int)+65536^k*r:=by rw [Int.natCast_add,Int.natCast_mul,Int.natCast_pow,hs];rfl
  have g2:((vl (x.take k)+65536^k*x.getD k 0:Nat):Int)=(vl (x.take k):Int)+65536^k*dAt x k:=by rw [Int.natCast_add,Int.natCast_mul,Int.natCast_pow];rfl
  have g3:((vl (y.take k)+65536^k*y.getD k 0:Nat):Int)=(vl (y.take k):Int)+65536^k*dAt y k:=by rw [Int.natCast_add,Int.natCast_mul,Int.natCast_pow];rfl
  rw [g1,g2,g3];omega
 ·rcases Nat.lt_or_ge k (max x.length y.length+1) with h|h
  ·omega
  ·have:=el (by omega);omega
 ·intro e;have:=hend (by omega);omega
theorem qT.fin {x y l:List Nat}{k:Nat}{c:Int}(h:qT x y l k c)(hx: ¬k<x.length)(hy: ¬k<y.length)(hc: ¬0<c):vl l=vl x+vl y:=by
 obtain ⟨e1,e2,c0,c1,ev,et,el⟩:=h;rw [show c=0 by omega,List.take_of_length_le (by omega),List.take_of_length_le (by omega)] at ev;simp at ev;omega
def ls (x y:List Nat):Bool:=decide (vl x<vl y)
theorem vM: ∀(x y:List Nat),(∀t,dAt x t=dAt y t)→vl x=vl y
 | [],[],_=>rfl
 | [],b::y,h=>by
  have h0:=h 0;have ih:=vM [] y (fun t=>by have:=h (t+1);simpa [dAt] using this);simp [dAt] at h0;simp only [vl] at ih ⊢;omega
 | a::x,[],h=>by
  have h0:=h 0;have ih:=vM x [] (fun t=>by have:=h (t+1);simpa [dAt] using this);simp [dAt] at h0;simp only [vl] at ih ⊢;omega
 | a::x,b::y,h=>by
  have h0:=h 0;have ih:=vM x y (fun t=>by have:=h (t+1);simpa [dAt] using this);simp [dAt] at h0;simp only [vl];omega
theorem zeU (l:List Nat)(k t:Nat):dAt (l.drop k) t=dAt l (k+t):=by unfold dAt;simp [List.getD,List.getElem?_drop]
theorem zb3 (l:List Nat)(j:Nat):vl l=vl (l.take j)+65536^j*l.getD j 0+65536^(j+1)*vl (l.drop (j+1)):=by
 rw [zjG l (j+1),kG]
theorem zeV {x y:List Nat}(hx:Ok x)(hy:Ok y)(j:Nat)(ht: ∀t,j<t→dAt x t=dAt y t)(h:dAt x j<dAt y j):vl x<vl y:=by
 have e:vl (x.drop (j+1))=vl (y.drop (j+1)):=vM _ _ (fun t=>by rw [zeU,zeU];exact ht _ (by omega));have hl:=zam (zb1 hx j);have h3:65536^(x.take j).length≤65536^j:=Nat.pow_le_pow_right (by omega) (List.length_take_le _ _);have hd:x.getD j 0+1≤y.getD j 0:=by unfold dAt at h;omega
 have hm:65536^j*(x.getD j 0+1)≤65536^j*y.getD j 0:=Nat.mul_le_mul_left _ hd;rw [Nat.mul_add,Nat.mul_one] at hm;rw [zb3 x j,zb3 y j,e];omega
theorem zeW {x y:List Nat}(hx:Ok x)(hy:Ok y)(j:Nat)(ht: ∀t,j<t→dAt x t=dAt y t)(h:dAt x j≠dAt y j):decide (dAt x j<dAt y j)=ls x y:=by
 unfold ls;rcases Int.lt_or_gt_of_ne h with k | k
 ·have:=zeV hx hy j ht k;simp [k,this]
 ·have:=zeV hy hx j (fun t h=>(ht t h).symm) k;have k': ¬dAt x j<dAt y j:=by omega
  have this': ¬vl x<vl y:=by omega
  simp [k',this']
theorem zeX {x y:List Nat}(ht: ∀t,dAt x t=dAt y t):ls x y=false:=by
 unfold ls;rw [vM x y ht];simp
def jC (x y:List Nat)(j:Int):Prop:= ∀t:Nat,j<t→dAt x t=dAt y t
theorem jC.start (x y:List Nat)(n:Int)(h1:(x.length:Int)≤n)(h2:(y.length:Int)≤n):jC x y (n-1):=fun t ht=>by
 unfold dAt;simp [List.getD,List.getElem?_eq_none (show x.length≤t by omega),List.getElem?_eq_none (show y.length≤t by omega)]
theorem jC.down {x y:List Nat}{j:Nat}(h:jC x y j)(e:dAt x j=dAt y j):jC x y ((j:Int)-1):=fun t ht=>by
 rcases Nat.lt_or_ge j t with k|k
 ·exact h t (by omega)
 ·rw [show t=j by omega];exact e
structure zm1 (x y l:List Nat)(k:Nat)(c:Int):Prop where
 len:l.length=k
 ok:Ok l
 c0:0≤c
 c1:c≤1
 val:(vl l:Int)-65536^k*c=vl (x.take k)-vl (y.take k)
theorem zao {l:List Nat}(h:Ok l)(i:Nat):dgt (vl l) i=l.getD i 0:=by
 have e:=zb3 l i;have hl:=zam (zb1 h i);have h3:65536^(l.take i).length≤65536^i:=Nat.pow_le_pow_right (by omega) (List.length_take_le _ _);have hd:=yB h i;have e2:vl l=vl (l.take i)+65536^i*(l.getD i 0+65536*vl (l.drop (i+1))):=by
  rw [e,Nat.pow_succ,Nat.mul_add,Nat.mul_assoc];omega
 unfold dgt;rw [e2,Nat.add_mul_div_left _ _ (Nat.pow_pos (by omega)),Nat.div_eq_of_lt (by omega)];omega
theorem zjL (V:Nat):w0 (V%big)=w0 V:=by unfold w0 big;omega
theorem zjM (V:Nat):w1 (V%big)=w1 V:=by unfold w1 big;omega
theorem zjN (V:Nat):w2 (V%big)=w2 V:=by unfold w2 big;omega
theorem zjO (V:Nat):w3 (V%big)=w3 V:=by unfold w3 big;omega
theorem zeY: ∀(l:List Nat) (j d:Nat),j<l.length→vl (l.set j d)+65536^j*l.getD j 0=vl l+65536^j*d
 | [],j,d,h=>by simp at h
 | a::r,0,d,_=>by simp [vl];omega
 | a::r,j+1,d,h=>by
  have ih:=zeY r j d (by simpa using h);simp only [List.set_cons_succ,vl,List.getD_cons_succ,Nat.pow_succ];have e1:65536^j*65536*r.getD j 0=65536*(65536^j*r.getD j 0):=by rw [Nat.mul_comm (65536^j) 65536,Nat.mul_assoc]
  have e2:65536^j*65536*d=65536*(65536^j*d):=by rw [Nat.mul_comm (65536^j) 65536,Nat.mul_assoc]
  rw [e1,e2];omega
theorem zjP {l:List Nat}(h:Ok l)(j d:Nat)(hd:d<65536):Ok (l.set j d):=fun x hx=>by
 rcases List.mem_or_eq_of_mem_set hx with h1|h1
 ·exact h x h1
 ·rw [h1];exact hd
theorem zjQ (n:Nat):vl (List.replicate n 0)=0:=by
 induction n with
 | zero=>rfl
 | succ n ih=>rw [List.replicate_succ,vl,ih]
theorem zjR (n:Nat):Ok (List.replicate n 0):=fun d hd=>by
 have:=List.eq_of_mem_replicate hd;omega
structure xh (x y out:List Nat)(i k c:Nat):Prop where
 len:out.length=x.length+y.length+1
 ok:Ok out
 hi:i<x.length
 cw:c<65536
 val:vl out+65536^(i+k)*c=vl (x.take i)*vl y+65536^i*(x.getD i 0*vl (y.take k))
 top:k≤y.length+1
 last:k=y.length+1→c=0
theorem xh.start {x y out:List Nat}{i:Nat}(hl:out.length=x.length+y.length+1)(hok:Ok out)(hi:i<x.length)(hv:vl out=vl (x.take i)*vl y):xh x y out i 0 0:=
 ⟨hl,hok,hi,by omega,by simp [vl,hv],by omega,by omega⟩
theorem xh.next {x y out:List Nat}{i k c:Nat}(h:xh x y out i k c)(hx:Ok x)(hy:Ok y)(hgo:k<y.length∨0<c):
 i+k<out.length∧xh x y (out.set (i+k) ((out.getD (i+k) 0+x.getD i 0*y.getD k 0+c)%65536)) i (k+1) ((out.getD (i+k) 0+x.getD i 0*y.getD k 0+c) / 65536):=by
 obtain ⟨e1,e2,e3,e4,ev,et,el⟩:=h;have hk:k≤y.length:=by
  rcases Nat.lt_or_ge k (y.length+1) with h|h
  ·omega
  ·have:=el (by omega);omega
 have hij:i+k<out.length:=by omega
 refine ⟨hij,?_⟩;have ho:=yB e2 (i+k);have hxi:=yB hx i;have hyk:=yB hy k;generalize hn:out.getD (i+k) 0+x.getD i 0*y.getD k 0+c=n;have hm:x.getD i 0*y.getD k 0≤65535*65535:=Nat.mul_le_mul (by omega) (by omega);have hset:=zeY out (i+k) (n%65536) hij;have hnew:vl (out.set (i+k) (n%65536))+65536^(i+(k+1))*(n / 65536)=vl (x.take i)*vl y+65536^i*(x.getD i 0*vl (y.take (k+1))):=by
  have hp:65536^(i+(k+1))*(n / 65536)+65536^(i+k)*(n%65536)=65536^(i+k)*n:=by
   rw [show i+(k+1)=(i+k)+1 by omega,Nat.pow_succ,Nat.mul_assoc,←Nat.mul_add];congr 1;omega
  have ht:65536^i*(x.getD i 0*vl (y.take (k+1)))=65536^i*(x.getD i 0*vl (y.take k))+65536^(i+k)*(x.getD i 0*y.getD k 0):=by
   rw [kG,Nat.mul_add,Nat.mul_add,Nat.pow_add,Nat.mul_left_comm (x.getD i 0),Nat.mul_assoc (65536^i)]
  have hs:65536^(i+k)*n=65536^(i+k)*out.getD (i+k) 0+65536^(i+k)*(x.getD i 0*y.getD k 0)+65536^(i+k)*c:=by
   rw [←hn,Nat.mul_add,Nat.mul_add]
  rw [ht];omega
 refine ⟨by simpa using e1,zjP e2 _ _ (Nat.mod_lt _ (by omega)),e3,?_,hnew,by omega,?_⟩
 ·omega
 ·intro hkl;have hky:k=y.length:=by omega
  have hb:vl (x.take i)*vl y+65536^i*(x.getD i 0*vl (y.take (k+1)))=vl (x.take (i+1))*vl y:=by
   rw [List.take_of_length_le (l:=y) (by omega),kG x,Nat.add_mul,Nat.mul_assoc]
  have b1:=zam (zb1 hx (i+1));have b2:65536^(x.take (i+1)).length≤65536^(i+1):=Nat.pow_le_pow_right (by omega) (List.length_take_le _ _);have b3:=zam hy;have b4:vl (x.take (i+1))*vl y<65536^(i+1)*65536^y.length:=by
   exact Nat.mul_lt_mul_of_lt_of_le (by omega) (Nat.le_of_lt b3) (Nat.pow_pos (by omega))
  rw [←Nat.pow_add] at b4;rw [hb] at hnew;rcases Nat.eq_zero_or_pos (n / 65536) with hz | hz
  ·exact hz
  ·exfalso;have h5:65536^(i+(k+1))*1≤65536^(i+(k+1))*(n / 65536):=Nat.mul_le_mul_left _ hz;rw [show i+(k+1)=i+1+y.length by omega] at h5 hnew;omega
theorem xh.fin {x y out:List Nat}{i k c:Nat}(h:xh x y out i k c)(hk: ¬k<y.length)(hc: ¬0<c):vl out=vl (x.take (i+1))*vl y:=by
 obtain ⟨e1,e2,e3,e4,ev,et,el⟩:=h;rw [show c=0 by omega,List.take_of_length_le (l:=y) (by omega)] at ev;rw [kG,Nat.add_mul,Nat.mul_assoc]
 simpa using ev
theorem qT.go {x y l:List Nat}{k c:Nat}(h:qT x y l k (c:Int))(hx:Ok x)(hy:Ok y)(hgo:k<x.length∨k<y.length∨0<c):
 qT x y (l++ [(x.getD k 0+y.getD k 0+c)%65536]) (k+1) (((x.getD k 0+y.getD k 0+c) / 65536:Nat):Int):=by
 have hn:=h.next hx hy (by omega)
 unfold dAt at hn
 rw [show ((((x.getD k 0:Nat):Int)+((y.getD k 0:Nat):Int)+(c:Int))%65536).toNat=(x.getD k 0+y.getD k 0+c)%65536 by omega,
  show (((x.getD k 0:Nat):Int)+((y.getD k 0:Nat):Int)+(c:Int)) / 65536=(((x.getD k 0+y.getD k 0+c) / 65536:Nat):Int) by omega] at hn
 exact hn
theorem qT.done {x y l:List Nat}{k c:Nat}(h:qT x y l k (c:Int))(hx: ¬k<x.length)(hy: ¬k<y.length)(hc: ¬0<c):vl l=vl x+vl y:=h.fin hx hy (by omega)
theorem zap {x:List Nat}(h:Ok x)(q:Nat):((x.getD (4*q+3) 0*65536+x.getD (4*q+2) 0)*65536+x.getD (4*q+1) 0)*65536+x.getD (4*q) 0=vl x / 65536^(4*q)%0x10000000000000000:=by
 rw [←zao h (4*q+3),←zao h (4*q+2),←zao h (4*q+1),←zao h (4*q)];unfold dgt;rw [Nat.pow_add,Nat.pow_add 65536 (4*q) 2,Nat.pow_add 65536 (4*q) 1,←Nat.div_div_eq_div_mul,←Nat.div_div_eq_div_mul,←Nat.div_div_eq_div_mul];generalize vl x / 65536^(4*q)=X;show ((X / 281474976710656%65536*65536+X / 4294967296%65536)*65536+X / 65536%65536)*65536+X%65536=_;omega
theorem zjS {x:List Nat}(h:Ok x)(g:Nat→Nat)(hg: ∀i,g i=x.getD i 0):
 Value.agg #[.int .u64 (((((g 3*65536+g 2)*65536+g 1)*65536+g 0:Nat)):Int),.int .u64 (((((g 7*65536+g 6)*65536+g 5)*65536+g 4:Nat)):Int),.int .u64 (((((g 11*65536+g 10)*65536+g 9)*65536+g 8:Nat)):Int),.int .u64 (((((g 15*65536+g 14)*65536+g 13)*65536+g 12:Nat)):Int)]=uv (vl x%big):=by
 have e0:=zap h 0;have e1:=zap h 1;have e2:=zap h 2;have e3:=zap h 3;simp only [hg];have f0:((((x.getD 3 0*65536+x.getD 2 0)*65536+x.getD 1 0)*65536+x.getD 0 0:Nat):Int)=w0 (vl x%big):=by
  rw [zjL];unfold w0;rw [e0,Nat.mul_zero,Nat.pow_zero,Nat.div_one]
 have f1:((((x.getD 7 0*65536+x.getD 6 0)*65536+x.getD 5 0)*65536+x.getD 4 0:Nat):Int)=w1 (vl x%big):=by
  rw [zjM];unfold w1;rw [e1]
 have f2:((((x.getD 11 0*65536+x.getD 10 0)*65536+x.getD 9 0)*65536+x.getD 8 0:Nat):Int)=w2 (vl x%big):=by
  rw [zjN];unfold w2;rw [e2]
 have f3:((((x.getD 15 0*65536+x.getD 14 0)*65536+x.getD 13 0)*65536+x.getD 12 0:Nat):Int)=w3 (vl x%big):=by
  rw [zjO];unfold w3;rw [e3]
 rw [f0,f1,f2,f3]
end Go.Proofs.YtbpmjppmpgeejaaGreatDoor
namespace Go.Proofs.YtbpmjppmpgeejaaGreatDoor
open Go Go.RowKit
set_option linter.unusedVariables false
theorem ym (x:List Nat)(ba nx ca:Nat)(curA:Array Value)(hnx:nx=List.length x)(hA:Rw 1 curA ca nx (zS x))(lx:List.length x≤100000)(i:Nat)(hi:i≤100000):FnP Tryz.prog 111 #[.slice (some ⟨ba,0,none⟩) nx ca,.int .i64 (i:Int)] (fun w=>w.heap[ba]? =some (.cells curA 3 (0,0))) (.int .i64 ((List.getD x i 0:Nat):Int)):=by
 subst hnx;refine FnP.intro (c:=zk Tryz.f111) [.tmp 4] 13 Tryz.func111 kr kr kr fun w hpre=>?_;have H0:=St.start w;refine rS [.v] H0 kr fun gs1 w1 H1=>?_;clear H0;refine zb kr<|zg [0,1,2,3] kr kr<|rp [.v,.v,.v] H1 kr fun gs2 w2 H2=>wX [3] ?_;clear H1;by_cases hc1:(i:Nat)<List.length x
 ·refine rp [.E (.bool (decide ((i:Int)<(List.length x:Int)))) (.bool true) (za (decide_eq_true (by omega)))] H2 kr fun gs3 w3 H3=>wX [] ?_;clear H2;refine zc<|zf kr kr<|rS [.v,.v,.o (ins:=[((.tmp 9),.slice (some ⟨ba,0,none⟩) (List.length x) ca),((.tmp 10),.int .i64 (i:Int))]) (v:=.pointer (some ⟨ba,0+i*1,none⟩)) (fun ρ o w ho hi=>qM (kd:=.i64) (t:=107) (e:=3) (size:=1) (bytes:=8) kr (x:=(.tmp 9)) (y:=(.tmp 10)) ba 0 (List.length x) ca i ho hi.1 hi.2.1 (by omega) w),.fs (off:=0+i*1) (v:=.int .i64 ((List.getD x i 0:Nat):Int)) hpre (zq hpre) (hA.atD (by omega) rfl),.v] H3 kr fun gs4 w4 H4=>?_;clear H3;refine zl kr<|wV ?_;refine ⟨[.int .i64 ((List.getD x i 0:Nat):Int)],(.tmp (.int .i64 ((List.getD x i 0:Nat):Int)) kr .nil),?_,H4.below⟩
  first | rfl | (rw [show List.getD x i 0=0 by simp [List.getD,List.getElem?_eq_none (show x.length≤i by omega)]];rfl)
 ·refine rp [.E (.bool (decide ((i:Int)<(List.length x:Int)))) (.bool false) (za (decide_eq_false (by omega)))] H2 kr fun gs5 w5 H5=>wX [] ?_;clear H2;refine zc<|zi kr kr<|zj kr<|wW<|rS [.v] H5 kr fun gs6 w6 H6=>?_;clear H5;refine zl kr<|wV ?_;refine ⟨[.int .i64 0],(.tmp (.int .i64 0) kr .nil),?_,H6.below⟩
  first | rfl | (rw [show List.getD x i 0=0 by simp [List.getD,List.getElem?_eq_none (show x.length≤i by omega)]];rfl)
theorem zjT {A:Nat}(h:A<big):vl (dgs A 16)=A:=by rw [zjD,←zjH,Nat.mod_eq_of_lt h]
theorem zaq (X n:Nat):IntKind.i64.wrap ((X / 2^n%65536:Nat):Int)=(X:Int) / 2^n%65536:=by
 have h:=Nat.mod_lt (X / 2^n) (show 0<65536 by omega);rw [qC (by omega),Int.natCast_emod,Int.natCast_ediv,Int.natCast_pow];rfl
theorem zjU (A k:Nat)(h:k / 4=0):IntKind.i64.wrap (((A%0x10000000000000000 / 2^(16*(k%4))%65536:Nat)):Int)=((dgt A k:Nat):Int):=(zaq _ _).trans (zan A k h)
theorem zjV (A k:Nat)(h:k / 4=1):IntKind.i64.wrap (((A / 0x10000000000000000%0x10000000000000000 / 2^(16*(k%4))%65536:Nat)):Int)=((dgt A k:Nat):Int):=(zaq _ _).trans (zjI A k h)
theorem zjW (A k:Nat)(h:k / 4=2):IntKind.i64.wrap (((A / 0x100000000000000000000000000000000%0x10000000000000000 / 2^(16*(k%4))%65536:Nat)):Int)=((dgt A k:Nat):Int):=(zaq _ _).trans (zjJ A k h)
theorem zjX (A k:Nat)(h:k / 4=3):IntKind.i64.wrap (((A / 0x1000000000000000000000000000000000000000000000000%0x10000000000000000 / 2^(16*(k%4))%65536:Nat)):Int)=((dgt A k:Nat):Int):=(zaq _ _).trans (zjK A k h)
def wq (A q:Nat):Nat:=A / 0x10000000000000000^q%0x10000000000000000
theorem wq0 (A:Nat):wq A 0=A%0x10000000000000000:=by unfold wq;rw [Nat.pow_zero,Nat.div_one]
theorem zjY (A:Nat){q:Nat}(hq:q<4):(Value.cells (uv A))[0+q*1]? =some (.int .u64 ((wq A q:Nat):Int)):=by
 have h:q=0∨q=1∨q=2∨q=3:=by omega
 rcases h with rfl|rfl|rfl|rfl
 ·rw [wq0];exact kr
 ·exact kr
 ·exact kr
 ·exact kr
theorem zjZ (A k:Nat)(hk:k<16):IntKind.i64.wrap ((wq A (k / 4) / 2^(16*(k%4))%65536:Nat):Int)=((dgt A k:Nat):Int):=by
 have h:k / 4=0∨k / 4=1∨k / 4=2∨k / 4=3:=by omega
 rcases h with h|h|h|h
 ·rw [h,wq0];exact zjU A k h
 ·rw [h];exact zjV A k h
 ·rw [h];exact zjW A k h
 ·rw [h];exact zjX A k h
theorem vN (A:Nat)(hA:A<big):FnR Tryz.prog 77 #[uv A] (fun _=>True) (ki 3 1 (fun cur cap n l=>(n=List.length l∧Rw 1 cur cap n (zS l)∧Ok l∧(l=dgs A 16∧vl l=A∧List.length l=16)))):=by
 refine FnR.intro (c:=zk Tryz.f77) [.tmp 2] 25 Tryz.func77 kr kr kr fun w hpre=>?_;have H0:=St.start w;refine rS [.b,.v] H0 kr fun gs1 w1 H1=>rS [.nw (fun b=>.slice (some ⟨b,0,none⟩) 0 0) #[] 3,.v] H1 kr fun gs2 w2 H2=>zb kr<|rS [.v] H2 kr fun gs3 w3 H3=>zn 0 kr ?_;have HL:St w.heap.size w w3 [((gs1 0).b,Obj.cells (Value.cells (uv A)) 48 (0,0)),((gs2 0).b,Obj.cells #[] 3 (0,0))]:=H3.as kr;refine zV kr (fun mz ρ ww=> ∃(k b cap:Nat) (cur:Array Value),16-k=mz∧k≤16∧Rw 1 cur cap k (zS (dgs A k))∧St w.heap.size w ww [((gs1 0).b,Obj.cells (Value.cells (uv A)) 48 (0,0)),(b,Obj.cells cur 3 (0,0))]∧Is [(1,.pointer (some ⟨(gs1 0).b,0,none⟩)),(3,.slice (some ⟨b,0,none⟩) k cap),(4,.int .i64 (k:Int))] ρ) 16 ⟨0,(gs2 0).b,0,#[],rfl,by decide,Rw.lit #[] 0 (by rfl) (by unfold maxLen;omega),HL,Is.of ⟨kr,kr,kr,trivial⟩⟩ ?_;clear H0 H1 H2 H3 HL;rintro _ _ w4 ⟨k,b,cap,cur,rfl,hk,hr,H4,_,rfl⟩;refine zb kr ?_;by_cases h:k<16
 ·refine rS [.v,.E (.bool (decide ((k:Int)<16))) (.bool true) (za (decide_eq_true (by omega)))] H4 kr fun gs4 w5 H5=>zf kr kr<|zj kr<|wW<|zb kr<|zn 1 kr<|yv [0,1,2,3,4,5,6,7,8,9,10,11,12,13,14] kr ?_
  refine rp [.v,.v,.E (.int .i64 (IntKind.i64.wrap (Int.tdiv (k:Int) 4))) (.int .i64 ((k / 4:Nat):Int)) (zd (xQ (a:=k) (b:=4) (by omega))),
   .o (ins:=[((.tmp 1),.pointer (some ⟨(gs1 0).b,0,none⟩)),((.tmp 12),.int .i64 ((k / 4:Nat):Int))]) (v:=.pointer (some ⟨(gs1 0).b,0+k / 4*1,none⟩)) (fun ρ o w ho hi=>zgw (kd:=.i64) (t:=48) (n:=4) (size:=1) kr (x:=(.tmp 1)) (y:=(.tmp 12)) (gs1 0).b 0 (k / 4) ho hi.1 hi.2.1 (by omega) w),
   .ls 0 (C:=Value.cells (uv A)) (off:=0+k / 4*1) (v:=.int .u64 ((wq A (k / 4):Nat):Int)) (zjY A (by omega)),.v,
   .E (.int .i64 (Int.tmod (k:Int) 4)) (.int .i64 ((k%4:Nat):Int)) (zd (jV k 4)),
   .E (.int .i64 (IntKind.i64.wrap (16*((k%4:Nat):Int)))) (.int .i64 ((16*(k%4):Nat):Int)) (zd (za8 (a:=16) (b:=k%4) (by omega))),
   .E (.int .u64 (IntKind.u64.wrap ((16*(k%4):Nat):Int))) (.int .u64 ((16*(k%4):Nat):Int)) (zd (yr (by omega))),
   .E (.int .u64 (Int.fdiv ((wq A (k / 4):Nat):Int) (2^(min (16*(k%4)) 64)))) (.int .u64 ((wq A (k / 4) / 2^(16*(k%4)):Nat):Int)) (zd (zgK _ _ 64 (Nat.mod_lt _ (by decide)))),
   .E (.int .u64 (Int.tmod ((wq A (k / 4) / 2^(16*(k%4)):Nat):Int) 65536)) (.int .u64 ((wq A (k / 4) / 2^(16*(k%4))%65536:Nat):Int)) (zd (jV _ 65536)),
   .E (.int .i64 (IntKind.i64.wrap ((wq A (k / 4) / 2^(16*(k%4))%65536:Nat):Int))) (.int .i64 ((dgt A k:Nat):Int)) (zd (zjZ A k h)),
   .nw (fun b=>.slice (some ⟨b,0,none⟩) 1 1) #[.int .i64 ((dgt A k:Nat):Int)] 3] H5 kr fun gs5 w6 H6=>?_
  refine wX [13,14]<|kY H6 (some 23) 107 3 1 8 (.tmp 10) (.tmp 22) 1 2 b ((gs5 12).b) k 1 cap 1 cur #[.int .i64 ((dgt A k:Nat):Int)] 3 (0,0) (zS (dgs A k)) ([.int .i64 ((dgt A k:Nat):Int)]) (fun b' cur'=>[((gs1 0).b,Obj.cells (Value.cells (uv A)) 48 (0,0)),(b',Obj.cells cur' 3 (0,0)),((gs5 12).b,Obj.cells #[.int .i64 ((dgt A k:Nat):Int)] 3 (0,0))]) kr kr kr kr kr hr kr kr (by rfl) (by rfl) (by intro u hu;rw [List.mem_singleton] at hu;subst hu;rfl) (by omega) (by unfold maxLen;omega) (fun _ _=>by kernel_rfl) ?_;intro b' cap' cur' w7 H7 hr';refine rp [.v] H7 kr fun gs7 w8 H8=>wX []<|zc<|wW<|rL [.v,.E (.int .i64 (IntKind.i64.wrap ((k:Int)+1))) (.int .i64 ((k+1:Nat):Int)) (zd (zs (a:=k) (b:=1) (by omega))),.v] H8 kr fun gs9 w9 H9=>?_;show ∃m,_∧_;have H10:St w.heap.size w w9 [((gs1 0).b,Obj.cells (Value.cells (uv A)) 48 (0,0)),(b',Obj.cells cur' 3 (0,0)),((gs5 12).b,Obj.cells #[.int .i64 ((dgt A k:Nat):Int)] 3 (0,0))]:=H9.as kr;exact ⟨_,(by omega:16-(k+1)<16-k),k+1,b',cap',cur',rfl,by omega,by rw [zeQ,uf];exact hr',H10.sub ((List.nil_sublist _).cons_cons _ |>.cons_cons _),Is.of ⟨kr,kr,kr,trivial⟩⟩
 ·obtain rfl:k=16:=by omega
  refine rS [.v,.v] H4 kr fun gs4 w5 H5=>zi kr kr<|zN 0 kr<|wW<|rS [.v,.v] H5 kr fun gs6 w6 H6=>zl kr<|wV ?_;refine ⟨[.slice (some ⟨b,0,none⟩) 16 cap],(.tmp (.slice (some ⟨b,0,none⟩) 16 cap) kr .nil),H6.below,?_⟩;exact ⟨b,cap,_,_,dgs A 16,rfl,H6.ge 1 (o:=.cells cur 3 (0,0)) kr,H6.get 1 kr,by rw [zbZ],hr,zjC A 16,rfl,zjT hA,zbZ A 16⟩
theorem zeZ (x y:List Nat)(ba nx ca bb ny cb:Nat)(curA curB:Array Value)(hnx:nx=List.length x)(hny:ny=List.length y)(hA:Rw 1 curA ca nx (zS x))(hB:Rw 1 curB cb ny (zS y))(hx:Ok x)(hy:Ok y)(lx:List.length x≤5000)(ly:List.length y≤5000):FnR Tryz.prog 80 #[.slice (some ⟨ba,0,none⟩) nx ca,.slice (some ⟨bb,0,none⟩) ny cb] (fun w=>w.heap[ba]? =some (.cells curA 3 (0,0))∧w.heap[bb]? =some (.cells curB 3 (0,0))) (ki 3 1 (fun cur cap n l=>(n=List.length l∧Rw 1 cur cap n (zS l)∧Ok l∧(vl l=vl x+vl y∧List.length l≤max (List.length x) (List.length y)+1∧max (List.length x) (List.length y)≤List.length l)))):=by
 subst hnx hny;refine FnR.intro (c:=zk Tryz.f80) [.tmp 4] 43 Tryz.func80 kr kr kr fun w hpre=>?_;have H0:=St.start w;refine rS [.v] H0 kr fun gs1 w1 H1=>?_;clear H0;refine rS [.nw (fun b=>.slice (some ⟨b,0,none⟩) 0 0) #[] 3,.v] H1 kr fun gs2 w2 H2=>?_;clear H1;refine rS [.v] H2 kr fun gs3 w3 H3=>?_;clear H2;refine zb kr<|rS [.v] H3 kr fun gs4 w4 H4=>?_;clear H3;refine zn 0 kr ?_;have HL1:St w.heap.size w w4 [((gs2 0).b,Obj.cells #[] 3 (0,0))]:=H4.as kr;clear H4;refine zV kr (fun mz ρ ww=> ∃(b:Nat) (cap:Nat) (n:Nat) (cur:Array Value) (l:List Nat) (k:Nat) (c:Nat),max (List.length x) (List.length y)+2-k=mz∧(n=List.length l)∧(Rw 1 cur cap n (zS l))∧(qT x y l k (c:Int))∧St w.heap.size w ww [(b,Obj.cells cur 3 (0,0))]∧Is [(0,.slice (some ⟨ba,0,none⟩) (List.length x) ca),(1,.slice (some ⟨bb,0,none⟩) (List.length y) cb),(4,.slice none 0 0),(5,.slice (some ⟨b,0,none⟩) n cap),(6,.int .i64 (c:Int)),(7,.int .i64 (k:Int))] ρ) (max (List.length x) (List.length y)+2-0) ⟨(gs2 0).b,0,0,#[],[],0,0,rfl,rfl,(Rw.lit #[] 0 rfl (by unfold maxLen;omega)),(qT.start x y),HL1,(Is.of ⟨kr,kr,kr,kr,kr,kr,trivial⟩)⟩ ?_;clear HL1;rintro _ _ w5 ⟨b,cap,n,cur,l,k,c,rfl,hn,hr,hS,H5,_,rfl⟩;have hc1:=hS.c1;have htop:=hS.top;have hxk:=yB hx k;have hyk:=yB hy k;have hlen:=hS.len;have hok:=hS.ok;refine zb kr<|zg [0,1,2,3,4,5,6,7,8,9,10,11,12,13] kr kr<|rp [.v,.v,.v] H5 kr fun gs6 w6 H6=>wX [3,4,5,6,7,8,9,10,11,12,13] ?_;clear H5;by_cases hc2:(k:Nat)<List.length x
 ·refine rp [.E (.bool (decide ((k:Int)<(List.length x:Int)))) (.bool true) (za (decide_eq_true (by omega))),.v,.n,.n,.n,.n,.v,.v,.n,.n,.v] H6 kr fun gs7 w7 H7=>wX [] ?_;clear H6;refine zc<|zx [0,1,4,5,6,7,23] fun ρ1=>?_;have HK3:=H7.keep;clear H7;refine zf kr kr<|zj kr<|wW<|zb kr<|zn 1 kr<|rS [.v,.v,.cp (pre:=fun w=>w.heap[ba]? =some (.cells curA 3 (0,0))) (ym x ba (List.length x) ca curA rfl hA (by omega) k (by omega)) [] (fun w hb hd=>((hb.block _ (zq hpre.1)).trans hpre.1)),.v,.v,.cp (pre:=fun w=>w.heap[bb]? =some (.cells curB 3 (0,0))) (ym y bb (List.length y) cb curB rfl hB (by omega) k (by omega)) [] (fun w hb hd=>((hb.block _ (zq hpre.2)).trans hpre.2)),.E (.int .i64 (IntKind.i64.wrap (((List.getD x k 0:Nat):Int)+((List.getD y k 0:Nat):Int)))) (.int .i64 (((List.getD x k 0)+(List.getD y k 0):Nat):Int)) (zd (zs (a:=List.getD x k 0) (b:=List.getD y k 0) (by omega))),.v,.E (.int .i64 (IntKind.i64.wrap ((((List.getD x k 0)+(List.getD y k 0):Nat):Int)+(c:Int)))) (.int .i64 ((((List.getD x k 0)+(List.getD y k 0))+c:Nat):Int)) (zd (zs (a:=(List.getD x k 0)+(List.getD y k 0)) (b:=c) (by omega))),.v] HK3 kr fun gs8 w8 H8=>?_;clear HK3;refine zg [0,1,2,3,4,5] kr kr<|rp [.v,.v,.E (.int .i64 (Int.tmod ((((List.getD x k 0)+(List.getD y k 0))+c:Nat):Int) 65536)) (.int .i64 (((((List.getD x k 0)+(List.getD y k 0))+c)%65536:Nat):Int)) (zd (jV (((List.getD x k 0)+(List.getD y k 0))+c) 65536)),.nw (fun b=>.slice (some ⟨b,0,none⟩) 1 1) #[.int .i64 (((((List.getD x k 0)+(List.getD y k 0))+c)%65536:Nat):Int)] 3] H8 kr fun gs9 w9 H9=>wX [4,5] ?_;clear H8;refine kY H9 (some 39) 107 3 1 8 (.tmp 35) (.tmp 38) 0 1 b ((gs9 3).b) n 1 cap 1 cur #[.int .i64 (((((List.getD x k 0)+(List.getD y k 0))+c)%65536:Nat):Int)] 3 (0,0) (zS l) ([.int .i64 (((((List.getD x k 0)+(List.getD y k 0))+c)%65536:Nat):Int)]) (fun b_1 cur_3=>[(b_1,Obj.cells cur_3 3 (0,0)),((gs9 3).b,Obj.cells #[.int .i64 (((((List.getD x k 0)+(List.getD y k 0))+c)%65536:Nat):Int)] 3 (0,0))]) kr kr kr kr kr hr kr kr (by rfl) (by rfl) (by intro u hu;simp at hu;first | exact hu.elim | (rcases hu with rfl | rfl | rfl | rfl<;>rfl) | (rcases hu with rfl | rfl<;>rfl) | (subst hu;rfl)) (by omega) (by unfold maxLen;omega) (fun _ _=>by kernel_rfl) ?_;intro b_1 cap_2 cur_3 w10 H10 hr_4;clear H9;refine rp [.v] H10 kr fun gs11 w11 H11=>wX [] ?_;clear H10;refine zc<|rL [.v,.E (.int .i64 (IntKind.i64.wrap (((((List.getD x k 0)+(List.getD y k 0))+c:Nat):Int).tdiv 65536))) (.int .i64 (((((List.getD x k 0)+(List.getD y k 0))+c) / 65536:Nat):Int)) (zd (xQ (a:=((List.getD x k 0)+(List.getD y k 0))+c) (b:=65536) (by omega))),.v] H11 kr fun gs12 w12 H12=>?_;clear H11;refine wW<|zx [0,1,4,5,6,7,8,23] fun ρ2=>?_;have HK4:=H12.keep;clear H12;refine rL [.v,.E (.int .i64 (IntKind.i64.wrap ((k:Int)+1))) (.int .i64 ((k+1:Nat):Int)) (zd (zs (a:=k) (b:=1) (by omega))),.v] HK4 kr fun gs13 w13 H13=>?_;clear HK4;have HL5:St w.heap.size w w13 [(b_1,Obj.cells cur_3 3 (0,0)),((gs9 3).b,Obj.cells #[.int .i64 (((((List.getD x k 0)+(List.getD y k 0))+c)%65536:Nat):Int)] 3 (0,0))]:=H13.as kr;clear H13;have hS2:=hS.go hx hy (by omega);have HD6:St w.heap.size w w13 [(b_1,Obj.cells cur_3 3 (0,0))]:=HL5.sub (List.Sublist.cons_cons _ (List.Sublist.cons _ List.Sublist.slnil));show ∃m,_∧_;exact ⟨_,(by have:=hS2.top;omega),b_1,cap_2,n+1,cur_3,l++ [(List.getD x k 0+List.getD y k 0+c)%65536],k+1,(List.getD x k 0+List.getD y k 0+c) / 65536,rfl,(by rw [List.length_append,←hn];rfl),(by rw [uf];exact hr_4),hS2,HD6,(Is.of ⟨kr,kr,kr,kr,kr,kr,trivial⟩)⟩
 ·refine rp [.E (.bool (decide ((k:Int)<(List.length x:Int)))) (.bool false) (za (decide_eq_false (by omega))),.v,.v,.v,.v] H6 kr fun gs14 w14 H14=>wX [8,9,10,11,12,13] ?_;clear H6;by_cases hc7:(k:Nat)<List.length y
  ·refine rp [.E (.bool (decide ((k:Int)<(List.length y:Int)))) (.bool true) (za (decide_eq_true (by omega))),.v,.v,.n,.n,.v] H14 kr fun gs15 w15 H15=>wX [] ?_;clear H14;refine zc<|zx [0,1,4,5,6,7,23] fun ρ3=>?_;have HK8:=H15.keep;clear H15;refine zf kr kr<|zj kr<|wW<|zb kr<|zn 1 kr<|rS [.v,.v,.cp (pre:=fun w=>w.heap[ba]? =some (.cells curA 3 (0,0))) (ym x ba (List.length x) ca curA rfl hA (by omega) k (by omega)) [] (fun w hb hd=>((hb.block _ (zq hpre.1)).trans hpre.1)),.v,.v,.cp (pre:=fun w=>w.heap[bb]? =some (.cells curB 3 (0,0))) (ym y bb (List.length y) cb curB rfl hB (by omega) k (by omega)) [] (fun w hb hd=>((hb.block _ (zq hpre.2)).trans hpre.2)),.E (.int .i64 (IntKind.i64.wrap (((List.getD x k 0:Nat):Int)+((List.getD y k 0:Nat):Int)))) (.int .i64 (((List.getD x k 0)+(List.getD y k 0):Nat):Int)) (zd (zs (a:=List.getD x k 0) (b:=List.getD y k 0) (by omega))),.v,.E (.int .i64 (IntKind.i64.wrap ((((List.getD x k 0)+(List.getD y k 0):Nat):Int)+(c:Int)))) (.int .i64 ((((List.getD x k 0)+(List.getD y k 0))+c:Nat):Int)) (zd (zs (a:=(List.getD x k 0)+(List.getD y k 0)) (b:=c) (by omega))),.v] HK8 kr fun gs16 w16 H16=>?_;clear HK8;refine zg [0,1,2,3,4,5] kr kr<|rp [.v,.v,.E (.int .i64 (Int.tmod ((((List.getD x k 0)+(List.getD y k 0))+c:Nat):Int) 65536)) (.int .i64 (((((List.getD x k 0)+(List.getD y k 0))+c)%65536:Nat):Int)) (zd (jV (((List.getD x k 0)+(List.getD y k 0))+c) 65536)),.nw (fun b=>.slice (some ⟨b,0,none⟩) 1 1) #[.int .i64 (((((List.getD x k 0)+(List.getD y k 0))+c)%65536:Nat):Int)] 3] H16 kr fun gs17 w17 H17=>wX [4,5] ?_;clear H16;refine kY H17 (some 39) 107 3 1 8 (.tmp 35) (.tmp 38) 0 1 b ((gs17 3).b) n 1 cap 1 cur #[.int .i64 (((((List.getD x k 0)+(List.getD y k 0))+c)%65536:Nat):Int)] 3 (0,0) (zS l) ([.int .i64 (((((List.getD x k 0)+(List.getD y k 0))+c)%65536:Nat):Int)]) (fun b_5 cur_7=>[(b_5,Obj.cells cur_7 3 (0,0)),((gs17 3).b,Obj.cells #[.int .i64 (((((List.getD x k 0)+(List.getD y k 0))+c)%65536:Nat):Int)] 3 (0,0))]) kr kr kr kr kr hr kr kr (by rfl) (by rfl) (by intro u hu;simp at hu;first | exact hu.elim | (rcases hu with rfl | rfl | rfl | rfl<;>rfl) | (rcases hu with rfl | rfl<;>rfl) | (subst hu;rfl)) (by omega) (by unfold maxLen;omega) (fun _ _=>by kernel_rfl) ?_;intro b_5 cap_6 cur_7 w18 H18 hr_8;clear H17;refine rp [.v] H18 kr fun gs19 w19 H19=>wX [] ?_;clear H18;refine zc<|rL [.v,.E (.int .i64 (IntKind.i64.wrap (((((List.getD x k 0)+(List.getD y k 0))+c:Nat):Int).tdiv 65536))) (.int .i64 (((((List.getD x k 0)+(List.getD y k 0))+c) / 65536:Nat):Int)) (zd (xQ (a:=((List.getD x k 0)+(List.getD y k 0))+c) (b:=65536) (by omega))),.v] H19 kr fun gs20 w20 H20=>?_;clear H19;refine wW<|zx [0,1,4,5,6,7,8,23] fun ρ4=>?_;have HK9:=H20.keep;clear H20;refine rL [.v,.E (.int .i64 (IntKind.i64.wrap ((k:Int)+1))) (.int .i64 ((k+1:Nat):Int)) (zd (zs (a:=k) (b:=1) (by omega))),.v] HK9 kr fun gs21 w21 H21=>?_;clear HK9;have HL10:St w.heap.size w w21 [(b_5,Obj.cells cur_7 3 (0,0)),((gs17 3).b,Obj.cells #[.int .i64 (((((List.getD x k 0)+(List.getD y k 0))+c)%65536:Nat):Int)] 3 (0,0))]:=H21.as kr;clear H21;have hS2:=hS.go hx hy (by omega);have HD11:St w.heap.size w w21 [(b_5,Obj.cells cur_7 3 (0,0))]:=HL10.sub (List.Sublist.cons_cons _ (List.Sublist.cons _ List.Sublist.slnil));show ∃m,_∧_;exact ⟨_,(by have:=hS2.top;omega),b_5,cap_6,n+1,cur_7,l++ [(List.getD x k 0+List.getD y k 0+c)%65536],k+1,(List.getD x k 0+List.getD y k 0+c) / 65536,rfl,(by rw [List.length_append,←hn];rfl),(by rw [uf];exact hr_8),hS2,HD11,(Is.of ⟨kr,kr,kr,kr,kr,kr,trivial⟩)⟩
  ·refine rp [.E (.bool (decide ((k:Int)<(List.length y:Int)))) (.bool false) (za (decide_eq_false (by omega))),.v,.v,.v] H14 kr fun gs22 w22 H22=>wX [12,13] ?_;clear H14;by_cases hc12:(c:Nat)>0
   ·refine rp [.E (.bool (decide (0<(c:Int)))) (.bool true) (za (decide_eq_true (by omega))),.v] H22 kr fun gs23 w23 H23=>wX [] ?_;clear H22;refine zc<|zx [0,1,4,5,6,7,23] fun ρ5=>?_;have HK13:=H23.keep;clear H23;refine zf kr kr<|zj kr<|wW<|zb kr<|zn 1 kr<|rS [.v,.v,.cp (pre:=fun w=>w.heap[ba]? =some (.cells curA 3 (0,0))) (ym x ba (List.length x) ca curA rfl hA (by omega) k (by omega)) [] (fun w hb hd=>((hb.block _ (zq hpre.1)).trans hpre.1)),.v,.v,.cp (pre:=fun w=>w.heap[bb]? =some (.cells curB 3 (0,0))) (ym y bb (List.length y) cb curB rfl hB (by omega) k (by omega)) [] (fun w hb hd=>((hb.block _ (zq hpre.2)).trans hpre.2)),.E (.int .i64 (IntKind.i64.wrap (((List.getD x k 0:Nat):Int)+((List.getD y k 0:Nat):Int)))) (.int .i64 (((List.getD x k 0)+(List.getD y k 0):Nat):Int)) (zd (zs (a:=List.getD x k 0) (b:=List.getD y k 0) (by omega))),.v,.E (.int .i64 (IntKind.i64.wrap ((((List.getD x k 0)+(List.getD y k 0):Nat):Int)+(c:Int)))) (.int .i64 ((((List.getD x k 0)+(List.getD y k 0))+c:Nat):Int)) (zd (zs (a:=(List.getD x k 0)+(List.getD y k 0)) (b:=c) (by omega))),.v] HK13 kr fun gs24 w24 H24=>?_;clear HK13;refine zg [0,1,2,3,4,5] kr kr<|rp [.v,.v,.E (.int .i64 (Int.tmod ((((List.getD x k 0)+(List.getD y k 0))+c:Nat):Int) 65536)) (.int .i64 (((((List.getD x k 0)+(List.getD y k 0))+c)%65536:Nat):Int)) (zd (jV (((List.getD x k 0)+(List.getD y k 0))+c) 65536)),.nw (fun b=>.slice (some ⟨b,0,none⟩) 1 1) #[.int .i64 (((((List.getD x k 0)+(List.getD y k 0))+c)%65536:Nat):Int)] 3] H24 kr fun gs25 w25 H25=>wX [4,5] ?_;clear H24;refine kY H25 (some 39) 107 3 1 8 (.tmp 35) (.tmp 38) 0 1 b ((gs25 3).b) n 1 cap 1 cur #[.int .i64 (((((List.getD x k 0)+(List.getD y k 0))+c)%65536:Nat):Int)] 3 (0,0) (zS l) ([.int .i64 (((((List.getD x k 0)+(List.getD y k 0))+c)%65536:Nat):Int)]) (fun b_9 cur_11=>[(b_9,Obj.cells cur_11 3 (0,0)),((gs25 3).b,Obj.cells #[.int .i64 (((((List.getD x k 0)+(List.getD y k 0))+c)%65536:Nat):Int)] 3 (0,0))]) kr kr kr kr kr hr kr kr (by rfl) (by rfl) (by intro u hu;simp at hu;first | exact hu.elim | (rcases hu with rfl | rfl | rfl | rfl<;>rfl) | (rcases hu with rfl | rfl<;>rfl) | (subst hu;rfl)) (by omega) (by unfold maxLen;omega) (fun _ _=>by kernel_rfl) ?_;intro b_9 cap_10 cur_11 w26 H26 hr_12;clear H25;refine rp [.v] H26 kr fun gs27 w27 H27=>wX [] ?_;clear H26;refine zc<|rL [.v,.E (.int .i64 (IntKind.i64.wrap (((((List.getD x k 0)+(List.getD y k 0))+c:Nat):Int).tdiv 65536))) (.int .i64 (((((List.getD x k 0)+(List.getD y k 0))+c) / 65536:Nat):Int)) (zd (xQ (a:=((List.getD x k 0)+(List.getD y k 0))+c) (b:=65536) (by omega))),.v] H27 kr fun gs28 w28 H28=>?_;clear H27;refine wW<|zx [0,1,4,5,6,7,8,23] fun ρ6=>?_;have HK14:=H28.keep;clear H28;refine rL [.v,.E (.int .i64 (IntKind.i64.wrap ((k:Int)+1))) (.int .i64 ((k+1:Nat):Int)) (zd (zs (a:=k) (b:=1) (by omega))),.v] HK14 kr fun gs29 w29 H29=>?_;clear HK14;have HL15:St w.heap.size w w29 [(b_9,Obj.cells cur_11 3 (0,0)),((gs25 3).b,Obj.cells #[.int .i64 (((((List.getD x k 0)+(List.getD y k 0))+c)%65536:Nat):Int)] 3 (0,0))]:=H29.as kr;clear H29;have hS2:=hS.go hx hy (by omega);have HD16:St w.heap.size w w29 [(b_9,Obj.cells cur_11 3 (0,0))]:=HL15.sub (List.Sublist.cons_cons _ (List.Sublist.cons _ List.Sublist.slnil));show ∃m,_∧_;exact ⟨_,(by have:=hS2.top;omega),b_9,cap_10,n+1,cur_11,l++ [(List.getD x k 0+List.getD y k 0+c)%65536],k+1,(List.getD x k 0+List.getD y k 0+c) / 65536,rfl,(by rw [List.length_append,←hn];rfl),(by rw [uf];exact hr_12),hS2,HD16,(Is.of ⟨kr,kr,kr,kr,kr,kr,trivial⟩)⟩
   ·refine rp [.E (.bool (decide (0<(c:Int)))) (.bool false) (za (decide_eq_false (by omega))),.v] H22 kr fun gs30 w30 H30=>wX [] ?_;clear H22;refine zc<|zx [0,1,4,5,6,7,23] fun ρ7=>?_;have HK17:=H30.keep;clear H30;refine zi kr kr<|zN 0 kr<|wW<|rS [.v,.v] HK17 kr fun gs31 w31 H31=>?_;clear HK17;refine zl kr<|wV ?_;refine ⟨[.slice (some ⟨b,0,none⟩) n cap],(.tmp (.slice (some ⟨b,0,none⟩) n cap) kr .nil),H31.below,?_⟩;exact ⟨b,cap,_,_,l,rfl,H31.ge 0 (o:=.cells cur 3 (0,0)) kr,H31.get 0 kr,hn,hr,hok,hS.done (by omega) (by omega) (by omega),by omega,by omega⟩
theorem ze0 (x y:List Nat)(ba nx ca bb ny cb:Nat)(curA curB:Array Value)(hnx:nx=List.length x)(hny:ny=List.length y)(hA:Rw 1 curA ca nx (zS x))(hB:Rw 1 curB cb ny (zS y))(hx:Ok x)(hy:Ok y)(lx:List.length x≤5000)(ly:List.length y≤5000):FnP Tryz.prog 79 #[.slice (some ⟨ba,0,none⟩) nx ca,.slice (some ⟨bb,0,none⟩) ny cb] (fun w=>w.heap[ba]? =some (.cells curA 3 (0,0))∧w.heap[bb]? =some (.cells curB 3 (0,0))) (.bool (ls x y)):=by
 subst hnx hny;refine FnP.intro (c:=zk Tryz.f79) [.tmp 4] 35 Tryz.func79 kr kr kr fun w hpre=>?_;have H0:=St.start w;refine rS [.v] H0 kr fun gs1 w1 H1=>?_;clear H0;refine rS [.v,.v,.v] H1 kr fun gs2 w2 H2=>?_;clear H1;refine zb kr<|zg [0,1,2,3] kr kr<|rp [.v,.v,.v] H2 kr fun gs3 w3 H3=>wX [3] ?_;clear H2;by_cases hc1:(List.length y:Nat)>List.length x
 ·refine rp [.E (.bool (decide ((List.length x:Int)<(List.length y:Int)))) (.bool true) (za (decide_eq_true (by omega)))] H3 kr fun gs4 w4 H4=>wX [] ?_;clear H3;refine zc<|zf kr kr<|rL [.v,.v,.v] H4 kr fun gs5 w5 H5=>?_;clear H4;refine wW<|zb kr<|rS [.v,.E (.int .i64 (IntKind.i64.wrap ((List.length y:Int)-1))) (.int .i64 ((List.length y:Int)-1)) (zd (wrap_i64 (by omega) (by omega))),.v] H5 kr fun gs6 w6 H6=>?_;clear H5;refine zn 0 kr ?_;have HL2:St w.heap.size w w6 []:=H6.as kr;clear H6;refine zV kr (fun mz ρ ww=> ∃(j:Nat),j=mz∧(j≤5000)∧(jC x y ((j:Int)-1))∧St w.heap.size w ww []∧Is [(0,.slice (some ⟨ba,0,none⟩) (List.length x) ca),(1,.slice (some ⟨bb,0,none⟩) (List.length y) cb),(5,.int .i64 (List.length y:Int)),(6,.int .i64 ((j:Int)-1)),(12,.bool true)] ρ) (List.length y) ⟨List.length y,rfl,(by omega),(jC.start x y _ (by omega) (by omega)),HL2,(Is.of ⟨kr,kr,kr,kr,kr,trivial⟩)⟩ ?_;clear HL2;rintro _ _ w7 ⟨j,rfl,hj,hs,H7,_,rfl⟩;refine zb kr<|zg [0,1] kr kr<|rp [.v] H7 kr fun gs8 w8 H8=>wX [1] ?_;clear H7;by_cases hc3:((j:Int)-1:Int)≥0
  ·refine rp [.E (.bool (decide (0≤(j:Int)-1))) (.bool true) (za (decide_eq_true (by omega)))] H8 kr fun gs9 w9 H9=>wX [] ?_;clear H8;refine zc<|zf kr kr<|zj kr<|wW<|zb kr<|zn 1 kr<|zg [0,1,2,3,4,5,6] kr kr<|rp [.v] H9 kr fun gs10 w10 H10=>wX [1,2,3,4,5,6] ?_;clear H9;refine zz 6 (v:=.int .i64 ((j:Int)-1)) (v':=.int .i64 ((j-1:Nat):Int)) (zd (show ((j:Int)-1)=((j-1:Nat):Int) from by omega)) kr<|zz 17 (v:=.int .i64 ((j:Int)-1)) (v':=.int .i64 ((j-1:Nat):Int)) (zd (show ((j:Int)-1)=((j-1:Nat):Int) from by omega)) kr<|rp [.v,.cp (pre:=fun w=>w.heap[ba]? =some (.cells curA 3 (0,0))) (ym x ba (List.length x) ca curA rfl hA (by omega) (j-1) (by omega)) [] (fun w hb hd=>((hb.block _ (zq hpre.1)).trans hpre.1)),.v,.v,.cp (pre:=fun w=>w.heap[bb]? =some (.cells curB 3 (0,0))) (ym y bb (List.length y) cb curB rfl hB (by omega) (j-1) (by omega)) [] (fun w hb hd=>((hb.block _ (zq hpre.2)).trans hpre.2))] H10 kr fun gs11 w11 H11=>wX [6] ?_;clear H10;by_cases hc4:(List.getD x (j-1) 0:Nat)≠List.getD y (j-1) 0
   ·refine rp [.E (.bool (!(((List.getD x (j-1) 0:Nat):Int)==((List.getD y (j-1) 0:Nat):Int)))) (.bool true) (za (by rw [beq_eq_false_iff_ne.2 (by omega)];rfl))] H11 kr fun gs12 w12 H12=>wX [] ?_;clear H11;refine zc<|zx [0,1,5,6,12,18,27] fun ρ1=>?_;have HK5:=H12.keep;clear H12;refine zf kr kr<|rS [.v,.v,.cp (pre:=fun w=>w.heap[ba]? =some (.cells curA 3 (0,0))) (ym x ba (List.length x) ca curA rfl hA (by omega) (j-1) (by omega)) [] (fun w hb hd=>((hb.block _ (zq hpre.1)).trans hpre.1)),.v,.v,.cp (pre:=fun w=>w.heap[bb]? =some (.cells curB 3 (0,0))) (ym y bb (List.length y) cb curB rfl hB (by omega) (j-1) (by omega)) [] (fun w hb hd=>((hb.block _ (zq hpre.2)).trans hpre.2)),.E (.bool (decide (((List.getD x (j-1) 0:Nat):Int)<((List.getD y (j-1) 0:Nat):Int)))) (.bool (ls x y)) (za (zeW hx hy (j-1) (fun t ht=>hs t (by omega)) (by unfold dAt;omega))),.v] HK5 kr fun gs13 w13 H13=>?_;clear HK5;refine zl kr<|wV ?_;refine ⟨[.bool (ls x y)],(.tmp (.bool (ls x y)) kr .nil),?_,H13.below⟩;rfl
   ·refine rp [.E (.bool (!(((List.getD x (j-1) 0:Nat):Int)==((List.getD y (j-1) 0:Nat):Int)))) (.bool false) (za (by rw [beq_iff_eq.2 (by omega)];rfl))] H11 kr fun gs14 w14 H14=>wX [] ?_;clear H11;refine zc<|zx [0,1,5,6,12,18,27] fun ρ2=>?_;have HK6:=H14.keep;clear H14;refine zi kr kr<|zj kr<|wW<|rL [.v,.E (.int .i64 (IntKind.i64.wrap (((j-1:Nat):Int)-1))) (.int .i64 (((j-1:Nat):Int)-1)) (zd (wrap_i64 (by omega) (by omega))),.v] HK6 kr fun gs15 w15 H15=>?_;clear HK6;have HL7:St w.heap.size w w15 []:=H15.as kr;clear H15;show ∃m,_∧_;exact ⟨_,(by omega),(j-1),rfl,(by omega),(jC.down (j:=j-1) (fun t ht=>hs t (by omega)) (by unfold dAt;omega)),HL7,(Is.of ⟨kr,kr,kr,kr,kr,trivial⟩)⟩
  ·refine rp [.E (.bool (decide (0≤(j:Int)-1))) (.bool false) (za (decide_eq_false (by omega)))] H8 kr fun gs16 w16 H16=>wX [] ?_;clear H8;refine zc<|zi kr kr<|zN 0 kr<|wW<|rS [.v] H16 kr fun gs17 w17 H17=>?_;clear H16;refine zl kr<|wV ?_;refine ⟨[.bool false],(.tmp (.bool false) kr .nil),?_,H17.below⟩;exact congrArg Value.bool (zeX (x:=x) (y:=y) fun t=>hs t (by omega)).symm
 ·refine rp [.E (.bool (decide ((List.length x:Int)<(List.length y:Int)))) (.bool false) (za (decide_eq_false (by omega)))] H3 kr fun gs18 w18 H18=>wX [] ?_;clear H3;refine zc<|zi kr kr<|zj kr<|wW<|zb kr<|rS [.v,.E (.int .i64 (IntKind.i64.wrap ((List.length x:Int)-1))) (.int .i64 ((List.length x:Int)-1)) (zd (wrap_i64 (by omega) (by omega))),.v] H18 kr fun gs19 w19 H19=>?_;clear H18;refine zn 0 kr ?_;have HL8:St w.heap.size w w19 []:=H19.as kr;clear H19;refine zV kr (fun mz ρ ww=> ∃(j:Nat),j=mz∧(j≤5000)∧(jC x y ((j:Int)-1))∧St w.heap.size w ww []∧Is [(0,.slice (some ⟨ba,0,none⟩) (List.length x) ca),(1,.slice (some ⟨bb,0,none⟩) (List.length y) cb),(5,.int .i64 (List.length x:Int)),(6,.int .i64 ((j:Int)-1)),(12,.bool false)] ρ) (List.length x) ⟨List.length x,rfl,(by omega),(jC.start x y _ (by omega) (by omega)),HL8,(Is.of ⟨kr,kr,kr,kr,kr,trivial⟩)⟩ ?_;clear HL8;rintro _ _ w20 ⟨j,rfl,hj,hs,H20,_,rfl⟩;refine zb kr<|zg [0,1] kr kr<|rp [.v] H20 kr fun gs21 w21 H21=>wX [1] ?_;clear H20;by_cases hc9:((j:Int)-1:Int)≥0
  ·refine rp [.E (.bool (decide (0≤(j:Int)-1))) (.bool true) (za (decide_eq_true (by omega)))] H21 kr fun gs22 w22 H22=>wX [] ?_;clear H21;refine zc<|zf kr kr<|zj kr<|wW<|zb kr<|zn 1 kr<|zg [0,1,2,3,4,5,6] kr kr<|rp [.v] H22 kr fun gs23 w23 H23=>wX [1,2,3,4,5,6] ?_;clear H22;refine zz 6 (v:=.int .i64 ((j:Int)-1)) (v':=.int .i64 ((j-1:Nat):Int)) (zd (show ((j:Int)-1)=((j-1:Nat):Int) from by omega)) kr<|zz 17 (v:=.int .i64 ((j:Int)-1)) (v':=.int .i64 ((j-1:Nat):Int)) (zd (show ((j:Int)-1)=((j-1:Nat):Int) from by omega)) kr<|rp [.v,.cp (pre:=fun w=>w.heap[ba]? =some (.cells curA 3 (0,0))) (ym x ba (List.length x) ca curA rfl hA (by omega) (j-1) (by omega)) [] (fun w hb hd=>((hb.block _ (zq hpre.1)).trans hpre.1)),.v,.v,.cp (pre:=fun w=>w.heap[bb]? =some (.cells curB 3 (0,0))) (ym y bb (List.length y) cb curB rfl hB (by omega) (j-1) (by omega)) [] (fun w hb hd=>((hb.block _ (zq hpre.2)).trans hpre.2))] H23 kr fun gs24 w24 H24=>wX [6] ?_;clear H23;by_cases hc10:(List.getD x (j-1) 0:Nat)≠List.getD y (j-1) 0
   ·refine rp [.E (.bool (!(((List.getD x (j-1) 0:Nat):Int)==((List.getD y (j-1) 0:Nat):Int)))) (.bool true) (za (by rw [beq_eq_false_iff_ne.2 (by omega)];rfl))] H24 kr fun gs25 w25 H25=>wX [] ?_;clear H24;refine zc<|zx [0,1,5,6,12,18,27] fun ρ3=>?_;have HK11:=H25.keep;clear H25;refine zf kr kr<|rS [.v,.v,.cp (pre:=fun w=>w.heap[ba]? =some (.cells curA 3 (0,0))) (ym x ba (List.length x) ca curA rfl hA (by omega) (j-1) (by omega)) [] (fun w hb hd=>((hb.block _ (zq hpre.1)).trans hpre.1)),.v,.v,.cp (pre:=fun w=>w.heap[bb]? =some (.cells curB 3 (0,0))) (ym y bb (List.length y) cb curB rfl hB (by omega) (j-1) (by omega)) [] (fun w hb hd=>((hb.block _ (zq hpre.2)).trans hpre.2)),.E (.bool (decide (((List.getD x (j-1) 0:Nat):Int)<((List.getD y (j-1) 0:Nat):Int)))) (.bool (ls x y)) (za (zeW hx hy (j-1) (fun t ht=>hs t (by omega)) (by unfold dAt;omega))),.v] HK11 kr fun gs26 w26 H26=>?_;clear HK11;refine zl kr<|wV ?_;refine ⟨[.bool (ls x y)],(.tmp (.bool (ls x y)) kr .nil),?_,H26.below⟩;rfl
   ·refine rp [.E (.bool (!(((List.getD x (j-1) 0:Nat):Int)==((List.getD y (j-1) 0:Nat):Int)))) (.bool false) (za (by rw [beq_iff_eq.2 (by omega)];rfl))] H24 kr fun gs27 w27 H27=>wX [] ?_;clear H24;refine zc<|zx [0,1,5,6,12,18,27] fun ρ4=>?_;have HK12:=H27.keep;clear H27;refine zi kr kr<|zj kr<|wW<|rL [.v,.E (.int .i64 (IntKind.i64.wrap (((j-1:Nat):Int)-1))) (.int .i64 (((j-1:Nat):Int)-1)) (zd (wrap_i64 (by omega) (by omega))),.v] HK12 kr fun gs28 w28 H28=>?_;clear HK12;have HL13:St w.heap.size w w28 []:=H28.as kr;clear H28;show ∃m,_∧_;exact ⟨_,(by omega),(j-1),rfl,(by omega),(jC.down (j:=j-1) (fun t ht=>hs t (by omega)) (by unfold dAt;omega)),HL13,(Is.of ⟨kr,kr,kr,kr,kr,trivial⟩)⟩
  ·refine rp [.E (.bool (decide (0≤(j:Int)-1))) (.bool false) (za (decide_eq_false (by omega)))] H21 kr fun gs29 w29 H29=>wX [] ?_;clear H21;refine zc<|zi kr kr<|zN 0 kr<|wW<|rS [.v] H29 kr fun gs30 w30 H30=>?_;clear H29;refine zl kr<|wV ?_;refine ⟨[.bool false],(.tmp (.bool false) kr .nil),?_,H30.below⟩;exact congrArg Value.bool (zeX (x:=x) (y:=y) fun t=>hs t (by omega)).symm
theorem zj0 (x y:List Nat)(ba nx ca bb ny cb:Nat)(curA curB:Array Value)(hnx:nx=List.length x)(hny:ny=List.length y)(hA:Rw 1 curA ca nx (zS x))(hB:Rw 1 curB cb ny (zS y))(hx:Ok x)(hy:Ok y)(lx:List.length x≤5000)(ly:List.length y≤5000):FnR Tryz.prog 98 #[.slice (some ⟨ba,0,none⟩) nx ca,.slice (some ⟨bb,0,none⟩) ny cb] (fun w=>w.heap[ba]? =some (.cells curA 3 (0,0))∧w.heap[bb]? =some (.cells curB 3 (0,0))) (ki 3 1 (fun cur cap n l=>(n=List.length l∧Rw 1 cur cap n (zS l)∧Ok l∧(vl l=vl x*vl y∧List.length l=List.length x+List.length y+1)))):=by
 subst hnx hny;refine FnR.intro (c:=zk Tryz.f98) [.tmp 4] 60 Tryz.func98 kr kr kr fun w hpre=>?_;have H0:=St.start w;refine rS [.v] H0 kr fun gs1 w1 H1=>?_;clear H0;refine zg [0,1,2,3,4,5,6,7] kr kr<|rp [.v,.v,.v,.v,.E (.int .i64 (IntKind.i64.wrap ((List.length x:Int)+(List.length y:Int)))) (.int .i64 (((List.length x)+(List.length y):Nat):Int)) (zd (zs (a:=List.length x) (b:=List.length y) (by omega))),.E (.int .i64 (IntKind.i64.wrap ((((List.length x)+(List.length y):Nat):Int)+1))) (.int .i64 ((((List.length x)+(List.length y))+1:Nat):Int)) (zd (zs (a:=(List.length x)+(List.length y)) (b:=1) (by omega)))] H1 kr fun gs2 w2 H2=>wX [6,7] ?_;clear H1;refine za9 H2 (some 16) 106 3 8 (.int .i64 0) (.tmp 15) (.tmp 15) .i64 .i64 (((List.length x)+(List.length y))+1) kr kr kr kr rfl kr kr (by omega) (by unfold maxLen;omega) ?_;intro b_1 cur_2 w3 H3 hr_3;clear H2;have hr_3z:Rw 1 cur_2 (((List.length x)+(List.length y))+1) (((List.length x)+(List.length y))+1) (zS (List.replicate (((List.length x)+(List.length y))+1) 0)):=by unfold zS;rw [List.map_replicate];exact hr_3
 refine rp [.v] H3 kr fun gs4 w4 H4=>wX [] ?_;clear H3;refine zc<|zb kr<|rS [.v,.v,.v] H4 kr fun gs5 w5 H5=>?_;clear H4;refine zn 0 kr ?_;have HL1:St w.heap.size w w5 [(b_1,Obj.cells cur_2 3 (0,0))]:=H5.as kr;clear H5;refine zV kr (fun mz ρ ww=> ∃(b:Nat) (cap:Nat) (n:Nat) (cur:Array Value) (l:List Nat) (i:Nat),List.length x+1-i=mz∧(n=List.length l)∧(Rw 1 cur cap n (zS l))∧(i≤List.length x)∧(List.length l=List.length x+List.length y+1)∧(Ok l)∧(vl l=vl (List.take i x)*vl y)∧St w.heap.size w ww [(b,Obj.cells cur 3 (0,0))]∧Is [(0,.slice (some ⟨ba,0,none⟩) (List.length x) ca),(1,.slice (some ⟨bb,0,none⟩) (List.length y) cb),(4,.slice none 0 0),(5,.slice (some ⟨b,0,none⟩) n cap),(18,.int .i64 (List.length x:Int)),(19,.int .i64 (i:Int))] ρ) (List.length x+1-0) ⟨b_1,((List.length x)+(List.length y))+1,((List.length x)+(List.length y))+1,cur_2,(List.replicate (((List.length x)+(List.length y))+1) 0),0,rfl,(by rw [List.length_replicate]),hr_3z,(by omega),(by rw [List.length_replicate]),(zjR _),(by rw [zjQ];simp [vl]),HL1,(Is.of ⟨kr,kr,kr,kr,kr,kr,trivial⟩)⟩ ?_;clear HL1;rintro _ _ w6 ⟨b,cap,n,cur,l,i,rfl,hn,hr,hi,hl,hok,hv,H6,_,rfl⟩;by_cases hc2:(i:Nat)<List.length x
 ·refine rS [.E (.bool (decide ((i:Int)<(List.length x:Int)))) (.bool true) (za (decide_eq_true (by omega)))] H6 kr fun gs7 w7 H7=>?_;clear H6;refine zb kr<|zf kr kr<|zj kr<|wW<|zb kr<|zn 1 kr<|rS [.v,.v] H7 kr fun gs8 w8 H8=>?_;clear H7;refine rS [.v] H8 kr fun gs9 w9 H9=>?_;clear H8;refine rS [.v] H9 kr fun gs10 w10 H10=>?_;clear H9;refine zn 2 kr ?_;have HL3:St w.heap.size w w10 [(b,Obj.cells cur 3 (0,0))]:=H10.as kr;clear H10;refine zV kr (fun mz ρ ww=> ∃(b2:Nat) (cap2:Nat) (n2:Nat) (cur2:Array Value) (l2:List Nat) (k:Nat) (c:Nat),List.length y+2-k=mz∧(n2=List.length l2)∧(Rw 1 cur2 cap2 n2 (zS l2))∧(xh x y l2 i k c)∧St w.heap.size w ww [(b2,Obj.cells cur2 3 (0,0))]∧Is [(0,.slice (some ⟨ba,0,none⟩) (List.length x) ca),(1,.slice (some ⟨bb,0,none⟩) (List.length y) cb),(4,.slice none 0 0),(5,.slice (some ⟨b2,0,none⟩) n2 cap2),(6,.int .i64 (i:Int)),(7,.int .i64 (c:Int)),(8,.int .i64 (k:Int)),(18,.int .i64 (List.length x:Int)),(19,.int .i64 (i:Int)),(20,.bool true)] ρ) (List.length y+2-0) ⟨b,cap,n,cur,l,0,0,rfl,hn,hr,(xh.start hl hok (by omega) hv),HL3,(Is.of ⟨kr,kr,kr,kr,kr,kr,kr,kr,kr,kr,trivial⟩)⟩ ?_;clear HL3;rintro _ _ w11 ⟨b2,cap2,n2,cur2,l2,k,c,rfl,hn2,hr2,hM,H11,_,rfl⟩;have hcw:=hM.cw;have htop:=hM.top;have hii:=hM.hi;have hlen2:=hM.len;have ho:=yB hM.ok (i+k);have hxi:=yB hx i;have hyk:=yB hy k;have hm:List.getD x i 0*List.getD y k 0≤65535*65535:=Nat.mul_le_mul (by omega) (by omega);refine zb kr<|zg [0,1,2,3,4,5,6,7] kr kr<|rp [.v,.v,.v] H11 kr fun gs12 w12 H12=>wX [3,4,5,6,7] ?_;clear H11;by_cases hc4:(k:Nat)<List.length y
  ·refine rp [.E (.bool (decide ((k:Int)<(List.length y:Int)))) (.bool true) (za (decide_eq_true (by omega))),.v,.n,.n,.v] H12 kr fun gs13 w13 H13=>wX [] ?_;clear H12;refine zc<|zx [0,1,4,5,6,7,8,18,19,20,29] fun ρ1=>?_;have HK5:=H13.keep;clear H13;refine zf kr kr<|zj kr<|wW<|zb kr<|zn 3 kr ?_;obtain ⟨hij,hM2⟩:=hM.next hx hy (by omega)
   refine dS [.v,.v,.v,.E (.int .i64 (IntKind.i64.wrap ((i:Int)+(k:Int)))) (.int .i64 ((i+k:Nat):Int)) (zd (zs (a:=i) (b:=k) (by omega))),.o (ins:=[((.tmp 32),.slice (some ⟨b2,0,none⟩) n2 cap2),((.tmp 35),.int .i64 ((i+k:Nat):Int))]) (v:=.pointer (some ⟨b2,0+(i+k)*1,none⟩)) (fun ρ o w ho hi=>qM (kd:=.i64) (t:=106) (e:=3) (size:=1) (bytes:=8) kr (x:=(.tmp 32)) (y:=(.tmp 35)) b2 0 n2 cap2 (i+k) ho hi.1 hi.2.1 (by omega) w),.ls (C:=cur2) (off:=0+(i+k)*1) (v:=.int .i64 ((List.getD l2 (i+k) 0:Nat):Int)) 0 (hr2.atD (by omega) hn2),.v,.v,.o (ins:=[((.tmp 38),.slice (some ⟨ba,0,none⟩) (List.length x) ca),((.tmp 39),.int .i64 (i:Int))]) (v:=.pointer (some ⟨ba,0+i*1,none⟩)) (fun ρ o w ho hi=>qM (kd:=.i64) (t:=107) (e:=3) (size:=1) (bytes:=8) kr (x:=(.tmp 38)) (y:=(.tmp 39)) ba 0 (List.length x) ca i ho hi.1 hi.2.1 (by omega) w),.fs (off:=0+i*1) (v:=.int .i64 ((List.getD x i 0:Nat):Int)) hpre.1 (zq hpre.1) (hA.atD (by omega) rfl),.v,.v,.cp (pre:=fun w=>w.heap[bb]? =some (.cells curB 3 (0,0))) (ym y bb (List.length y) cb curB rfl hB (by omega) k (by omega)) [] (fun w hb hd=>((hb.block _ (zq hpre.2)).trans hpre.2)),.E (.int .i64 (IntKind.i64.wrap (((List.getD x i 0:Nat):Int)*((List.getD y k 0:Nat):Int)))) (.int .i64 (((List.getD x i 0)*(List.getD y k 0):Nat):Int)) (zd (za8 (a:=List.getD x i 0) (b:=List.getD y k 0) (by omega))),.E (.int .i64 (IntKind.i64.wrap (((List.getD l2 (i+k) 0:Nat):Int)+(((List.getD x i 0)*(List.getD y k 0):Nat):Int)))) (.int .i64 (((List.getD l2 (i+k) 0)+((List.getD x i 0)*(List.getD y k 0)):Nat):Int)) (zd (zs (a:=List.getD l2 (i+k) 0) (b:=(List.getD x i 0)*(List.getD y k 0)) (by omega))),.v,.E (.int .i64 (IntKind.i64.wrap ((((List.getD l2 (i+k) 0)+((List.getD x i 0)*(List.getD y k 0)):Nat):Int)+(c:Int)))) (.int .i64 ((((List.getD l2 (i+k) 0)+((List.getD x i 0)*(List.getD y k 0)))+c:Nat):Int)) (zd (zs (a:=(List.getD l2 (i+k) 0)+((List.getD x i 0)*(List.getD y k 0))) (b:=c) (by omega))),.v] HK5 kr fun w14 H14=>?_;clear HK5;refine zx [0,1,4,5,6,7,8,9,18,19,20,29] fun ρ2=>?_;have HK6:=H14.keep;clear H14;refine zg [0,1,2,3,4,5,6,7] kr kr<|rp [.v,.v,.v,.E (.int .i64 (IntKind.i64.wrap ((i:Int)+(k:Int)))) (.int .i64 ((i+k:Nat):Int)) (zd (zs (a:=i) (b:=k) (by omega))),.v,.E (.int .i64 (Int.tmod ((((List.getD l2 (i+k) 0)+((List.getD x i 0)*(List.getD y k 0)))+c:Nat):Int) 65536)) (.int .i64 (((((List.getD l2 (i+k) 0)+((List.getD x i 0)*(List.getD y k 0)))+c)%65536:Nat):Int)) (zd (jV (((List.getD l2 (i+k) 0)+((List.getD x i 0)*(List.getD y k 0)))+c) 65536)),.o (ins:=[((.tmp 49),.slice (some ⟨b2,0,none⟩) n2 cap2),((.tmp 52),.int .i64 ((i+k:Nat):Int))]) (v:=.pointer (some ⟨b2,0+(i+k)*1,none⟩)) (fun ρ o w ho hi=>qM (kd:=.i64) (t:=106) (e:=3) (size:=1) (bytes:=8) kr (x:=(.tmp 49)) (y:=(.tmp 52)) b2 0 n2 cap2 (i+k) ho hi.1 hi.2.1 (by omega) w)] HK6 kr fun gs15 w15 H15=>wX [7] ?_;clear HK6;obtain ⟨cur_4,hc_5,hs_6,hr_7⟩:=hr2.put (i+k) ((((List.getD l2 (i+k) 0)+((List.getD x i 0)*(List.getD y k 0)))+c)%65536) (by omega);refine rp [.se (C:=cur2) (C':=cur_4) (off:=0+(i+k)*1) (v:=.int .i64 (((((List.getD l2 (i+k) 0)+((List.getD x i 0)*(List.getD y k 0)))+c)%65536:Nat):Int)) 0 hs_6 hc_5] H15 kr fun gs16 w16 H16=>wX [] ?_;clear H15;refine zc<|rL [.v,.E (.int .i64 (IntKind.i64.wrap (((((List.getD l2 (i+k) 0)+((List.getD x i 0)*(List.getD y k 0)))+c:Nat):Int).tdiv 65536))) (.int .i64 (((((List.getD l2 (i+k) 0)+((List.getD x i 0)*(List.getD y k 0)))+c) / 65536:Nat):Int)) (zd (xQ (a:=((List.getD l2 (i+k) 0)+((List.getD x i 0)*(List.getD y k 0)))+c) (b:=65536) (by omega))),.v] H16 kr fun gs17 w17 H17=>?_;clear H16;refine wW<|rL [.v,.E (.int .i64 (IntKind.i64.wrap ((k:Int)+1))) (.int .i64 ((k+1:Nat):Int)) (zd (zs (a:=k) (b:=1) (by omega))),.v] H17 kr fun gs18 w18 H18=>?_;clear H17;have HL7:St w.heap.size w w18 [(b2,Obj.cells cur_4 3 (0,0))]:=H18.as kr;clear H18;show ∃m,_∧_;exact ⟨_,(by have:=hM2.top;omega),b2,cap2,n2,cur_4,(List.set l2 (i+k) ((((List.getD l2 (i+k) 0)+((List.getD x i 0)*(List.getD y k 0)))+c)%65536)),k+1,(List.getD l2 (i+k) 0+List.getD x i 0*List.getD y k 0+c) / 65536,rfl,(by rw [List.length_set];exact hn2),hr_7,hM2,HL7,(Is.of ⟨kr,kr,kr,kr,kr,kr,kr,kr,kr,kr,trivial⟩)⟩
  ·refine rp [.E (.bool (decide ((k:Int)<(List.length y:Int)))) (.bool false) (za (decide_eq_false (by omega))),.v,.v] H12 kr fun gs19 w19 H19=>wX [6,7] ?_;clear H12;by_cases hc8:(c:Nat)>0
   ·refine rp [.E (.bool (decide (0<(c:Int)))) (.bool true) (za (decide_eq_true (by omega))),.v] H19 kr fun gs20 w20 H20=>wX [] ?_;clear H19;refine zc<|zx [0,1,4,5,6,7,8,18,19,20,29] fun ρ3=>?_;have HK9:=H20.keep;clear H20;refine zf kr kr<|zj kr<|wW<|zb kr<|zn 3 kr ?_;obtain ⟨hij,hM2⟩:=hM.next hx hy (by omega)
    refine dS [.v,.v,.v,.E (.int .i64 (IntKind.i64.wrap ((i:Int)+(k:Int)))) (.int .i64 ((i+k:Nat):Int)) (zd (zs (a:=i) (b:=k) (by omega))),.o (ins:=[((.tmp 32),.slice (some ⟨b2,0,none⟩) n2 cap2),((.tmp 35),.int .i64 ((i+k:Nat):Int))]) (v:=.pointer (some ⟨b2,0+(i+k)*1,none⟩)) (fun ρ o w ho hi=>qM (kd:=.i64) (t:=106) (e:=3) (size:=1) (bytes:=8) kr (x:=(.tmp 32)) (y:=(.tmp 35)) b2 0 n2 cap2 (i+k) ho hi.1 hi.2.1 (by omega) w),.ls (C:=cur2) (off:=0+(i+k)*1) (v:=.int .i64 ((List.getD l2 (i+k) 0:Nat):Int)) 0 (hr2.atD (by omega) hn2),.v,.v,.o (ins:=[((.tmp 38),.slice (some ⟨ba,0,none⟩) (List.length x) ca),((.tmp 39),.int .i64 (i:Int))]) (v:=.pointer (some ⟨ba,0+i*1,none⟩)) (fun ρ o w ho hi=>qM (kd:=.i64) (t:=107) (e:=3) (size:=1) (bytes:=8) kr (x:=(.tmp 38)) (y:=(.tmp 39)) ba 0 (List.length x) ca i ho hi.1 hi.2.1 (by omega) w),.fs (off:=0+i*1) (v:=.int .i64 ((List.getD x i 0:Nat):Int)) hpre.1 (zq hpre.1) (hA.atD (by omega) rfl),.v,.v,.cp (pre:=fun w=>w.heap[bb]? =some (.cells curB 3 (0,0))) (ym y bb (List.length y) cb curB rfl hB (by omega) k (by omega)) [] (fun w hb hd=>((hb.block _ (zq hpre.2)).trans hpre.2)),.E (.int .i64 (IntKind.i64.wrap (((List.getD x i 0:Nat):Int)*((List.getD y k 0:Nat):Int)))) (.int .i64 (((List.getD x i 0)*(List.getD y k 0):Nat):Int)) (zd (za8 (a:=List.getD x i 0) (b:=List.getD y k 0) (by omega))),.E (.int .i64 (IntKind.i64.wrap (((List.getD l2 (i+k) 0:Nat):Int)+(((List.getD x i 0)*(List.getD y k 0):Nat):Int)))) (.int .i64 (((List.getD l2 (i+k) 0)+((List.getD x i 0)*(List.getD y k 0)):Nat):Int)) (zd (zs (a:=List.getD l2 (i+k) 0) (b:=(List.getD x i 0)*(List.getD y k 0)) (by omega))),.v,.E (.int .i64 (IntKind.i64.wrap ((((List.getD l2 (i+k) 0)+((List.getD x i 0)*(List.getD y k 0)):Nat):Int)+(c:Int)))) (.int .i64 ((((List.getD l2 (i+k) 0)+((List.getD x i 0)*(List.getD y k 0)))+c:Nat):Int)) (zd (zs (a:=(List.getD l2 (i+k) 0)+((List.getD x i 0)*(List.getD y k 0))) (b:=c) (by omega))),.v] HK9 kr fun w21 H21=>?_;clear HK9;refine zx [0,1,4,5,6,7,8,9,18,19,20,29] fun ρ4=>?_;have HK10:=H21.keep;clear H21;refine zg [0,1,2,3,4,5,6,7] kr kr<|rp [.v,.v,.v,.E (.int .i64 (IntKind.i64.wrap ((i:Int)+(k:Int)))) (.int .i64 ((i+k:Nat):Int)) (zd (zs (a:=i) (b:=k) (by omega))),.v,.E (.int .i64 (Int.tmod ((((List.getD l2 (i+k) 0)+((List.getD x i 0)*(List.getD y k 0)))+c:Nat):Int) 65536)) (.int .i64 (((((List.getD l2 (i+k) 0)+((List.getD x i 0)*(List.getD y k 0)))+c)%65536:Nat):Int)) (zd (jV (((List.getD l2 (i+k) 0)+((List.getD x i 0)*(List.getD y k 0)))+c) 65536)),.o (ins:=[((.tmp 49),.slice (some ⟨b2,0,none⟩) n2 cap2),((.tmp 52),.int .i64 ((i+k:Nat):Int))]) (v:=.pointer (some ⟨b2,0+(i+k)*1,none⟩)) (fun ρ o w ho hi=>qM (kd:=.i64) (t:=106) (e:=3) (size:=1) (bytes:=8) kr (x:=(.tmp 49)) (y:=(.tmp 52)) b2 0 n2 cap2 (i+k) ho hi.1 hi.2.1 (by omega) w)] HK10 kr fun gs22 w22 H22=>wX [7] ?_;clear HK10;obtain ⟨cur_8,hc_9,hs_10,hr_11⟩:=hr2.put (i+k) ((((List.getD l2 (i+k) 0)+((List.getD x i 0)*(List.getD y k 0)))+c)%65536) (by omega);refine rp [.se (C:=cur2) (C':=cur_8) (off:=0+(i+k)*1) (v:=.int .i64 (((((List.getD l2 (i+k) 0)+((List.getD x i 0)*(List.getD y k 0)))+c)%65536:Nat):Int)) 0 hs_10 hc_9] H22 kr fun gs23 w23 H23=>wX [] ?_;clear H22;refine zc<|rL [.v,.E (.int .i64 (IntKind.i64.wrap (((((List.getD l2 (i+k) 0)+((List.getD x i 0)*(List.getD y k 0)))+c:Nat):Int).tdiv 65536))) (.int .i64 (((((List.getD l2 (i+k) 0)+((List.getD x i 0)*(List.getD y k 0)))+c) / 65536:Nat):Int)) (zd (xQ (a:=((List.getD l2 (i+k) 0)+((List.getD x i 0)*(List.getD y k 0)))+c) (b:=65536) (by omega))),.v] H23 kr fun gs24 w24 H24=>?_;clear H23;refine wW<|rL [.v,.E (.int .i64 (IntKind.i64.wrap ((k:Int)+1))) (.int .i64 ((k+1:Nat):Int)) (zd (zs (a:=k) (b:=1) (by omega))),.v] H24 kr fun gs25 w25 H25=>?_;clear H24;have HL11:St w.heap.size w w25 [(b2,Obj.cells cur_8 3 (0,0))]:=H25.as kr;clear H25;show ∃m,_∧_;exact ⟨_,(by have:=hM2.top;omega),b2,cap2,n2,cur_8,(List.set l2 (i+k) ((((List.getD l2 (i+k) 0)+((List.getD x i 0)*(List.getD y k 0)))+c)%65536)),k+1,(List.getD l2 (i+k) 0+List.getD x i 0*List.getD y k 0+c) / 65536,rfl,(by rw [List.length_set];exact hn2),hr_11,hM2,HL11,(Is.of ⟨kr,kr,kr,kr,kr,kr,kr,kr,kr,kr,trivial⟩)⟩
   ·refine rp [.E (.bool (decide (0<(c:Int)))) (.bool false) (za (decide_eq_false (by omega))),.v] H19 kr fun gs26 w26 H26=>wX [] ?_;clear H19;refine zc<|zx [0,1,4,5,6,7,8,18,19,20,29] fun ρ5=>?_;have HK12:=H26.keep;clear H26;refine zi kr kr<|zN 2 kr<|wW<|rL [.E (.int .i64 (IntKind.i64.wrap ((i:Int)+1))) (.int .i64 ((i+1:Nat):Int)) (zd (zs (a:=i) (b:=1) (by omega))),.v] HK12 kr fun gs27 w27 H27=>?_;clear HK12;have HL13:St w.heap.size w w27 [(b2,Obj.cells cur2 3 (0,0))]:=H27.as kr;clear H27;show ∃m,_∧_;exact ⟨_,(by omega),b2,cap2,n2,cur2,l2,i+1,rfl,hn2,hr2,(by omega),hM.len,hM.ok,(hM.fin (by omega) (by omega)),HL13,(Is.of ⟨kr,kr,kr,kr,kr,kr,trivial⟩)⟩
 ·refine rS [.E (.bool (decide ((i:Int)<(List.length x:Int)))) (.bool false) (za (decide_eq_false (by omega)))] H6 kr fun gs28 w28 H28=>?_;clear H6;refine zb kr<|zi kr kr<|zN 0 kr<|wW<|rS [.v,.v] H28 kr fun gs29 w29 H29=>?_;clear H28;refine zl kr<|wV ?_;refine ⟨[.slice (some ⟨b,0,none⟩) n cap],(.tmp (.slice (some ⟨b,0,none⟩) n cap) kr .nil),H29.below,?_⟩;obtain rfl:i=List.length x:=by omega
  exact ⟨b,cap,_,_,l,rfl,H29.ge 0 (o:=.cells cur 3 (0,0)) kr,H29.get 0 kr,hn,hr,hok,by rw [hv,List.take_of_length_le (Nat.le_refl _)],hl⟩
theorem zj1 (x:List Nat)(ba nx ca:Nat)(curA:Array Value)(hnx:nx=List.length x)(hA:Rw 1 curA ca nx (zS x))(lx:List.length x≤100000)(hx:Ok x):FnP Tryz.prog 99 #[.slice (some ⟨ba,0,none⟩) nx ca] (fun w=>w.heap[ba]? =some (.cells curA 3 (0,0))) (uv (vl x%big)):=by
 subst hnx;have hd0:=yB hx 0;have hd1:=yB hx 1;have hd2:=yB hx 2;have hd3:=yB hx 3;have hd4:=yB hx 4;have hd5:=yB hx 5;have hd6:=yB hx 6;have hd7:=yB hx 7;have hd8:=yB hx 8;have hd9:=yB hx 9;have hd10:=yB hx 10;have hd11:=yB hx 11;have hd12:=yB hx 12;have hd13:=yB hx 13;have hd14:=yB hx 14;have hd15:=yB hx 15;refine FnP.intro (c:=zk Tryz.f99) [.cell 2 48] 24 Tryz.func99 kr kr kr fun w hpre=>?_;have H0:=St.start w;refine rS [.a] H0 kr fun gs1 w1 H1=>?_;clear H0;refine rS [.v,.a,.s 1] H1 kr fun gs2 w2 H2=>?_;clear H1;refine zb kr<|rS [.v] H2 kr fun gs3 w3 H3=>?_;clear H2;refine zn 0 kr ?_;have HL1:St w.heap.size w w3 [((gs1 0).b,Obj.cells #[wZ,wZ,wZ,wZ] 48 (0,0)),((gs2 1).b,Obj.cells #[wZ,wZ,wZ,wZ] 48 (0,0))]:=H3.as kr;clear H3;refine zcK kr<|zb kr<|rS [.v,.v] HL1 kr fun gs4 w4 H4=>?_;clear HL1;refine zf kr kr<|zj kr<|wW<|zb kr<|zn 1 kr<|dL [.v,.v,.v,.v,.v,.l 1,.v,.v,.v,.cp (pre:=fun w=>w.heap[ba]? =some (.cells curA 3 (0,0))) (ym x ba (List.length x) ca curA rfl hA (by omega) 15 (by omega)) [] (fun w hb hd=>((hb.block _ (zq hpre)).trans hpre)),.E (.int .u64 (IntKind.u64.wrap (((List.getD x 15 0:Nat):Int)))) (.int .u64 ((List.getD x 15 0:Nat):Int)) (zd (yr (a:=List.getD x 15 0) (by omega))),.E (.int .u64 (IntKind.u64.wrap (0+((List.getD x 15 0:Nat):Int)))) (.int .u64 ((List.getD x 15 0:Nat):Int)) (zd (show IntKind.u64.wrap ((0:Int)+((List.getD x 15 0:Nat):Int))=_ by rw [Int.zero_add];exact yr (by omega))),.v,.s 1] H4 kr fun w5 H5=>?_;clear H4;refine wW<|zx [0,2,3,4,7] fun ρ1=>?_;have HK2:=H5.keep;clear H5;refine rL [.v,.v,.v] HK2 kr fun gs6 w6 H6=>?_;clear HK2;show WPL _ _ _ _ _ _;refine yF<|zb kr<|rS [.v,.v] H6 kr fun gs7 w7 H7=>?_;clear H6;refine zf kr kr<|zj kr<|wW<|zb kr<|zn 1 kr<|dL [.v,.v,.v,.v,.v,.l 1,.E (.int .u64 (IntKind.u64.wrap (((List.getD x 15 0:Nat):Int)*65536))) (.int .u64 (((List.getD x 15 0)*65536:Nat):Int)) (zd (qZ (a:=List.getD x 15 0) (b:=65536) (by omega))),.v,.v,.cp (pre:=fun w=>w.heap[ba]? =some (.cells curA 3 (0,0))) (ym x ba (List.length x) ca curA rfl hA (by omega) 14 (by omega)) [] (fun w hb hd=>((hb.block _ (zq hpre)).trans hpre)),.E (.int .u64 (IntKind.u64.wrap (((List.getD x 14 0:Nat):Int)))) (.int .u64 ((List.getD x 14 0:Nat):Int)) (zd (yr (a:=List.getD x 14 0) (by omega))),.E (.int .u64 (IntKind.u64.wrap ((((List.getD x 15 0)*65536:Nat):Int)+((List.getD x 14 0:Nat):Int)))) (.int .u64 ((((List.getD x 15 0)*65536)+(List.getD x 14 0):Nat):Int)) (zd (qB (a:=(List.getD x 15 0)*65536) (b:=List.getD x 14 0) (by omega))),.v,.s 1] H7 kr fun w8 H8=>?_;clear H7;refine wW<|zx [0,2,3,4,7] fun ρ2=>?_;have HK3:=H8.keep;clear H8;refine rL [.v,.v,.v] HK3 kr fun gs9 w9 H9=>?_;clear HK3;show WPL _ _ _ _ _ _;refine yF<|zb kr<|rS [.v,.v] H9 kr fun gs10 w10 H10=>?_;clear H9;refine zf kr kr<|zj kr<|wW<|zb kr<|zn 1 kr<|dL [.v,.v,.v,.v,.v,.l 1,.E (.int .u64 (IntKind.u64.wrap (((((List.getD x 15 0)*65536)+(List.getD x 14 0):Nat):Int)*65536))) (.int .u64 (((((List.getD x 15 0)*65536)+(List.getD x 14 0))*65536:Nat):Int)) (zd (qZ (a:=((List.getD x 15 0)*65536)+(List.getD x 14 0)) (b:=65536) (by omega))),.v,.v,.cp (pre:=fun w=>w.heap[ba]? =some (.cells curA 3 (0,0))) (ym x ba (List.length x) ca curA rfl hA (by omega) 13 (by omega)) [] (fun w hb hd=>((hb.block _ (zq hpre)).trans hpre)),.E (.int .u64 (IntKind.u64.wrap (((List.getD x 13 0:Nat):Int)))) (.int .u64 ((List.getD x 13 0:Nat):Int)) (zd (yr (a:=List.getD x 13 0) (by omega))),.E (.int .u64 (IntKind.u64.wrap ((((((List.getD x 15 0)*65536)+(List.getD x 14 0))*65536:Nat):Int)+((List.getD x 13 0:Nat):Int)))) (.int .u64 ((((((List.getD x 15 0)*65536)+(List.getD x 14 0))*65536)+(List.getD x 13 0):Nat):Int)) (zd (qB (a:=(((List.getD x 15 0)*65536)+(List.getD x 14 0))*65536) (b:=List.getD x 13 0) (by omega))),.v,.s 1] H10 kr fun w11 H11=>?_;clear H10;refine wW<|zx [0,2,3,4,7] fun ρ3=>?_;have HK4:=H11.keep;clear H11;refine rL [.v,.v,.v] HK4 kr fun gs12 w12 H12=>?_;clear HK4;show WPL _ _ _ _ _ _;refine yF<|zb kr<|rS [.v,.v] H12 kr fun gs13 w13 H13=>?_;clear H12;refine zf kr kr<|zj kr<|wW<|zb kr<|zn 1 kr<|dL [.v,.v,.v,.v,.v,.l 1,.E (.int .u64 (IntKind.u64.wrap (((((((List.getD x 15 0)*65536)+(List.getD x 14 0))*65536)+(List.getD x 13 0):Nat):Int)*65536))) (.int .u64 (((((((List.getD x 15 0)*65536)+(List.getD x 14 0))*65536)+(List.getD x 13 0))*65536:Nat):Int)) (zd (qZ (a:=((((List.getD x 15 0)*65536)+(List.getD x 14 0))*65536)+(List.getD x 13 0)) (b:=65536) (by omega))),.v,.v,.cp (pre:=fun w=>w.heap[ba]? =some (.cells curA 3 (0,0))) (ym x ba (List.length x) ca curA rfl hA (by omega) 12 (by omega)) [] (fun w hb hd=>((hb.block _ (zq hpre)).trans hpre)),.E (.int .u64 (IntKind.u64.wrap (((List.getD x 12 0:Nat):Int)))) (.int .u64 ((List.getD x 12 0:Nat):Int)) (zd (yr (a:=List.getD x 12 0) (by omega))),.E (.int .u64 (IntKind.u64.wrap ((((((((List.getD x 15 0)*65536)+(List.getD x 14 0))*65536)+(List.getD x 13 0))*65536:Nat):Int)+((List.getD x 12 0:Nat):Int)))) (.int .u64 ((((((((List.getD x 15 0)*65536)+(List.getD x 14 0))*65536)+(List.getD x 13 0))*65536)+(List.getD x 12 0):Nat):Int)) (zd (qB (a:=(((((List.getD x 15 0)*65536)+(List.getD x 14 0))*65536)+(List.getD x 13 0))*65536) (b:=List.getD x 12 0) (by omega))),.v,.s 1] H13 kr fun w14 H14=>?_;clear H13;refine wW<|zx [0,2,3,4,7] fun ρ4=>?_;have HK5:=H14.keep;clear H14;refine rL [.v,.v,.v] HK5 kr fun gs15 w15 H15=>?_;clear HK5;show WPL _ _ _ _ _ _;refine yF<|zb kr<|rS [.v,.v] H15 kr fun gs16 w16 H16=>?_;clear H15;refine zf kr kr<|zj kr<|wW<|zb kr<|zn 1 kr<|dL [.v,.v,.v,.v,.v,.l 1,.v,.v,.v,.cp (pre:=fun w=>w.heap[ba]? =some (.cells curA 3 (0,0))) (ym x ba (List.length x) ca curA rfl hA (by omega) 11 (by omega)) [] (fun w hb hd=>((hb.block _ (zq hpre)).trans hpre)),.E (.int .u64 (IntKind.u64.wrap (((List.getD x 11 0:Nat):Int)))) (.int .u64 ((List.getD x 11 0:Nat):Int)) (zd (yr (a:=List.getD x 11 0) (by omega))),.E (.int .u64 (IntKind.u64.wrap (0+((List.getD x 11 0:Nat):Int)))) (.int .u64 ((List.getD x 11 0:Nat):Int)) (zd (show IntKind.u64.wrap ((0:Int)+((List.getD x 11 0:Nat):Int))=_ by rw [Int.zero_add];exact yr (by omega))),.v,.s 1] H16 kr fun w17 H17=>?_;clear H16;refine wW<|zx [0,2,3,4,7] fun ρ5=>?_;have HK6:=H17.keep;clear H17;refine rL [.v,.v,.v] HK6 kr fun gs18 w18 H18=>?_;clear HK6;show WPL _ _ _ _ _ _;refine yF<|zb kr<|rS [.v,.v] H18 kr fun gs19 w19 H19=>?_;clear H18;refine zf kr kr<|zj kr<|wW<|zb kr<|zn 1 kr<|dL [.v,.v,.v,.v,.v,.l 1,.E (.int .u64 (IntKind.u64.wrap (((List.getD x 11 0:Nat):Int)*65536))) (.int .u64 (((List.getD x 11 0)*65536:Nat):Int)) (zd (qZ (a:=List.getD x 11 0) (b:=65536) (by omega))),.v,.v,.cp (pre:=fun w=>w.heap[ba]? =some (.cells curA 3 (0,0))) (ym x ba (List.length x) ca curA rfl hA (by omega) 10 (by omega)) [] (fun w hb hd=>((hb.block _ (zq hpre)).trans hpre)),.E (.int .u64 (IntKind.u64.wrap (((List.getD x 10 0:Nat):Int)))) (.int .u64 ((List.getD x 10 0:Nat):Int)) (zd (yr (a:=List.getD x 10 0) (by omega))),.E (.int .u64 (IntKind.u64.wrap ((((List.getD x 11 0)*65536:Nat):Int)+((List.getD x 10 0:Nat):Int)))) (.int .u64 ((((List.getD x 11 0)*65536)+(List.getD x 10 0):Nat):Int)) (zd (qB (a:=(List.getD x 11 0)*65536) (b:=List.getD x 10 0) (by omega))),.v,.s 1] H19 kr fun w20 H20=>?_;clear H19;refine wW<|zx [0,2,3,4,7] fun ρ6=>?_;have HK7:=H20.keep;clear H20;refine rL [.v,.v,.v] HK7 kr fun gs21 w21 H21=>?_;clear HK7;show WPL _ _ _ _ _ _;refine yF<|zb kr<|rS [.v,.v] H21 kr fun gs22 w22 H22=>?_;clear H21;refine zf kr kr<|zj kr<|wW<|zb kr<|zn 1 kr<|dL [.v,.v,.v,.v,.v,.l 1,.E (.int .u64 (IntKind.u64.wrap (((((List.getD x 11 0)*65536)+(List.getD x 10 0):Nat):Int)*65536))) (.int .u64 (((((List.getD x 11 0)*65536)+(List.getD x 10 0))*65536:Nat):Int)) (zd (qZ (a:=((List.getD x 11 0)*65536)+(List.getD x 10 0)) (b:=65536) (by omega))),.v,.v,.cp (pre:=fun w=>w.heap[ba]? =some (.cells curA 3 (0,0))) (ym x ba (List.length x) ca curA rfl hA (by omega) 9 (by omega)) [] (fun w hb hd=>((hb.block _ (zq hpre)).trans hpre)),.E (.int .u64 (IntKind.u64.wrap (((List.getD x 9 0:Nat):Int)))) (.int .u64 ((List.getD x 9 0:Nat):Int)) (zd (yr (a:=List.getD x 9 0) (by omega))),.E (.int .u64 (IntKind.u64.wrap ((((((List.getD x 11 0)*65536)+(List.getD x 10 0))*65536:Nat):Int)+((List.getD x 9 0:Nat):Int)))) (.int .u64 ((((((List.getD x 11 0)*65536)+(List.getD x 10 0))*65536)+(List.getD x 9 0):Nat):Int)) (zd (qB (a:=(((List.getD x 11 0)*65536)+(List.getD x 10 0))*65536) (b:=List.getD x 9 0) (by omega))),.v,.s 1] H22 kr fun w23 H23=>?_;clear H22;refine wW<|zx [0,2,3,4,7] fun ρ7=>?_;have HK8:=H23.keep;clear H23;refine rL [.v,.v,.v] HK8 kr fun gs24 w24 H24=>?_;clear HK8;show WPL _ _ _ _ _ _;refine yF<|zb kr<|rS [.v,.v] H24 kr fun gs25 w25 H25=>?_;clear H24;refine zf kr kr<|zj kr<|wW<|zb kr<|zn 1 kr<|dL [.v,.v,.v,.v,.v,.l 1,.E (.int .u64 (IntKind.u64.wrap (((((((List.getD x 11 0)*65536)+(List.getD x 10 0))*65536)+(List.getD x 9 0):Nat):Int)*65536))) (.int .u64 (((((((List.getD x 11 0)*65536)+(List.getD x 10 0))*65536)+(List.getD x 9 0))*65536:Nat):Int)) (zd (qZ (a:=((((List.getD x 11 0)*65536)+(List.getD x 10 0))*65536)+(List.getD x 9 0)) (b:=65536) (by omega))),.v,.v,.cp (pre:=fun w=>w.heap[ba]? =some (.cells curA 3 (0,0))) (ym x ba (List.length x) ca curA rfl hA (by omega) 8 (by omega)) [] (fun w hb hd=>((hb.block _ (zq hpre)).trans hpre)),.E (.int .u64 (IntKind.u64.wrap (((List.getD x 8 0:Nat):Int)))) (.int .u64 ((List.getD x 8 0:Nat):Int)) (zd (yr (a:=List.getD x 8 0) (by omega))),.E (.int .u64 (IntKind.u64.wrap ((((((((List.getD x 11 0)*65536)+(List.getD x 10 0))*65536)+(List.getD x 9 0))*65536:Nat):Int)+((List.getD x 8 0:Nat):Int)))) (.int .u64 ((((((((List.getD x 11 0)*65536)+(List.getD x 10 0))*65536)+(List.getD x 9 0))*65536)+(List.getD x 8 0):Nat):Int)) (zd (qB (a:=(((((List.getD x 11 0)*65536)+(List.getD x 10 0))*65536)+(List.getD x 9 0))*65536) (b:=List.getD x 8 0) (by omega))),.v,.s 1] H25 kr fun w26 H26=>?_;clear H25;refine wW<|zx [0,2,3,4,7] fun ρ8=>?_;have HK9:=H26.keep;clear H26;refine rL [.v,.v,.v] HK9 kr fun gs27 w27 H27=>?_;clear HK9;show WPL _ _ _ _ _ _;refine yF<|zb kr<|rS [.v,.v] H27 kr fun gs28 w28 H28=>?_;clear H27;refine zf kr kr<|zj kr<|wW<|zb kr<|zn 1 kr<|dL [.v,.v,.v,.v,.v,.l 1,.v,.v,.v,.cp (pre:=fun w=>w.heap[ba]? =some (.cells curA 3 (0,0))) (ym x ba (List.length x) ca curA rfl hA (by omega) 7 (by omega)) [] (fun w hb hd=>((hb.block _ (zq hpre)).trans hpre)),.E (.int .u64 (IntKind.u64.wrap (((List.getD x 7 0:Nat):Int)))) (.int .u64 ((List.getD x 7 0:Nat):Int)) (zd (yr (a:=List.getD x 7 0) (by omega))),.E (.int .u64 (IntKind.u64.wrap (0+((List.getD x 7 0:Nat):Int)))) (.int .u64 ((List.getD x 7 0:Nat):Int)) (zd (show IntKind.u64.wrap ((0:Int)+((List.getD x 7 0:Nat):Int))=_ by rw [Int.zero_add];exact yr (by omega))),.v,.s 1] H28 kr fun w29 H29=>?_;clear H28;refine wW<|zx [0,2,3,4,7] fun ρ9=>?_;have HK10:=H29.keep;clear H29;refine rL [.v,.v,.v] HK10 kr fun gs30 w30 H30=>?_;clear HK10;show WPL _ _ _ _ _ _;refine yF<|zb kr<|rS [.v,.v] H30 kr fun gs31 w31 H31=>?_;clear H30;refine zf kr kr<|zj kr<|wW<|zb kr<|zn 1 kr<|dL [.v,.v,.v,.v,.v,.l 1,.E (.int .u64 (IntKind.u64.wrap (((List.getD x 7 0:Nat):Int)*65536))) (.int .u64 (((List.getD x 7 0)*65536:Nat):Int)) (zd (qZ (a:=List.getD x 7 0) (b:=65536) (by omega))),.v,.v,.cp (pre:=fun w=>w.heap[ba]? =some (.cells curA 3 (0,0))) (ym x ba (List.length x) ca curA rfl hA (by omega) 6 (by omega)) [] (fun w hb hd=>((hb.block _ (zq hpre)).trans hpre)),.E (.int .u64 (IntKind.u64.wrap (((List.getD x 6 0:Nat):Int)))) (.int .u64 ((List.getD x 6 0:Nat):Int)) (zd (yr (a:=List.getD x 6 0) (by omega))),.E (.int .u64 (IntKind.u64.wrap ((((List.getD x 7 0)*65536:Nat):Int)+((List.getD x 6 0:Nat):Int)))) (.int .u64 ((((List.getD x 7 0)*65536)+(List.getD x 6 0):Nat):Int)) (zd (qB (a:=(List.getD x 7 0)*65536) (b:=List.getD x 6 0) (by omega))),.v,.s 1] H31 kr fun w32 H32=>?_;clear H31;refine wW<|zx [0,2,3,4,7] fun ρ10=>?_;have HK11:=H32.keep;clear H32;refine rL [.v,.v,.v] HK11 kr fun gs33 w33 H33=>?_;clear HK11;show WPL _ _ _ _ _ _;refine yF<|zb kr<|rS [.v,.v] H33 kr fun gs34 w34 H34=>?_;clear H33;refine zf kr kr<|zj kr<|wW<|zb kr<|zn 1 kr<|dL [.v,.v,.v,.v,.v,.l 1,.E (.int .u64 (IntKind.u64.wrap (((((List.getD x 7 0)*65536)+(List.getD x 6 0):Nat):Int)*65536))) (.int .u64 (((((List.getD x 7 0)*65536)+(List.getD x 6 0))*65536:Nat):Int)) (zd (qZ (a:=((List.getD x 7 0)*65536)+(List.getD x 6 0)) (b:=65536) (by omega))),.v,.v,.cp (pre:=fun w=>w.heap[ba]? =some (.cells curA 3 (0,0))) (ym x ba (List.length x) ca curA rfl hA (by omega) 5 (by omega)) [] (fun w hb hd=>((hb.block _ (zq hpre)).trans hpre)),.E (.int .u64 (IntKind.u64.wrap (((List.getD x 5 0:Nat):Int)))) (.int .u64 ((List.getD x 5 0:Nat):Int)) (zd (yr (a:=List.getD x 5 0) (by omega))),.E (.int .u64 (IntKind.u64.wrap ((((((List.getD x 7 0)*65536)+(List.getD x 6 0))*65536:Nat):Int)+((List.getD x 5 0:Nat):Int)))) (.int .u64 ((((((List.getD x 7 0)*65536)+(List.getD x 6 0))*65536)+(List.getD x 5 0):Nat):Int)) (zd (qB (a:=(((List.getD x 7 0)*65536)+(List.getD x 6 0))*65536) (b:=List.getD x 5 0) (by omega))),.v,.s 1] H34 kr fun w35 H35=>?_;clear H34;refine wW<|zx [0,2,3,4,7] fun ρ11=>?_;have HK12:=H35.keep;clear H35;refine rL [.v,.v,.v] HK12 kr fun gs36 w36 H36=>?_;clear HK12;show WPL _ _ _ _ _ _;refine yF<|zb kr<|rS [.v,.v] H36 kr fun gs37 w37 H37=>?_;clear H36;refine zf kr kr<|zj kr<|wW<|zb kr<|zn 1 kr<|dL [.v,.v,.v,.v,.v,.l 1,.E (.int .u64 (IntKind.u64.wrap (((((((List.getD x 7 0)*65536)+(List.getD x 6 0))*65536)+(List.getD x 5 0):Nat):Int)*65536))) (.int .u64 (((((((List.getD x 7 0)*65536)+(List.getD x 6 0))*65536)+(List.getD x 5 0))*65536:Nat):Int)) (zd (qZ (a:=((((List.getD x 7 0)*65536)+(List.getD x 6 0))*65536)+(List.getD x 5 0)) (b:=65536) (by omega))),.v,.v,.cp (pre:=fun w=>w.heap[ba]? =some (.cells curA 3 (0,0))) (ym x ba (List.length x) ca curA rfl hA (by omega) 4 (by omega)) [] (fun w hb hd=>((hb.block _ (zq hpre)).trans hpre)),.E (.int .u64 (IntKind.u64.wrap (((List.getD x 4 0:Nat):Int)))) (.int .u64 ((List.getD x 4 0:Nat):Int)) (zd (yr (a:=List.getD x 4 0) (by omega))),.E (.int .u64 (IntKind.u64.wrap ((((((((List.getD x 7 0)*65536)+(List.getD x 6 0))*65536)+(List.getD x 5 0))*65536:Nat):Int)+((List.getD x 4 0:Nat):Int)))) (.int .u64 ((((((((List.getD x 7 0)*65536)+(List.getD x 6 0))*65536)+(List.getD x 5 0))*65536)+(List.getD x 4 0):Nat):Int)) (zd (qB (a:=(((((List.getD x 7 0)*65536)+(List.getD x 6 0))*65536)+(List.getD x 5 0))*65536) (b:=List.getD x 4 0) (by omega))),.v,.s 1] H37 kr fun w38 H38=>?_;clear H37;refine wW<|zx [0,2,3,4,7] fun ρ12=>?_;have HK13:=H38.keep;clear H38;refine rL [.v,.v,.v] HK13 kr fun gs39 w39 H39=>?_;clear HK13;show WPL _ _ _ _ _ _;refine yF<|zb kr<|rS [.v,.v] H39 kr fun gs40 w40 H40=>?_;clear H39;refine zf kr kr<|zj kr<|wW<|zb kr<|zn 1 kr<|dL [.v,.v,.v,.v,.v,.l 1,.v,.v,.v,.cp (pre:=fun w=>w.heap[ba]? =some (.cells curA 3 (0,0))) (ym x ba (List.length x) ca curA rfl hA (by omega) 3 (by omega)) [] (fun w hb hd=>((hb.block _ (zq hpre)).trans hpre)),.E (.int .u64 (IntKind.u64.wrap (((List.getD x 3 0:Nat):Int)))) (.int .u64 ((List.getD x 3 0:Nat):Int)) (zd (yr (a:=List.getD x 3 0) (by omega))),.E (.int .u64 (IntKind.u64.wrap (0+((List.getD x 3 0:Nat):Int)))) (.int .u64 ((List.getD x 3 0:Nat):Int)) (zd (show IntKind.u64.wrap ((0:Int)+((List.getD x 3 0:Nat):Int))=_ by rw [Int.zero_add];exact yr (by omega))),.v,.s 1] H40 kr fun w41 H41=>?_;clear H40;refine wW<|zx [0,2,3,4,7] fun ρ13=>?_;have HK14:=H41.keep;clear H41;refine rL [.v,.v,.v] HK14 kr fun gs42 w42 H42=>?_;clear HK14;show WPL _ _ _ _ _ _;refine yF<|zb kr<|rS [.v,.v] H42 kr fun gs43 w43 H43=>?_;clear H42;refine zf kr kr<|zj kr<|wW<|zb kr<|zn 1 kr<|dL [.v,.v,.v,.v,.v,.l 1,.E (.int .u64 (IntKind.u64.wrap (((List.getD x 3 0:Nat):Int)*65536))) (.int .u64 (((List.getD x 3 0)*65536:Nat):Int)) (zd (qZ (a:=List.getD x 3 0) (b:=65536) (by omega))),.v,.v,.cp (pre:=fun w=>w.heap[ba]? =some (.cells curA 3 (0,0))) (ym x ba (List.length x) ca curA rfl hA (by omega) 2 (by omega)) [] (fun w hb hd=>((hb.block _ (zq hpre)).trans hpre)),.E (.int .u64 (IntKind.u64.wrap (((List.getD x 2 0:Nat):Int)))) (.int .u64 ((List.getD x 2 0:Nat):Int)) (zd (yr (a:=List.getD x 2 0) (by omega))),.E (.int .u64 (IntKind.u64.wrap ((((List.getD x 3 0)*65536:Nat):Int)+((List.getD x 2 0:Nat):Int)))) (.int .u64 ((((List.getD x 3 0)*65536)+(List.getD x 2 0):Nat):Int)) (zd (qB (a:=(List.getD x 3 0)*65536) (b:=List.getD x 2 0) (by omega))),.v,.s 1] H43 kr fun w44 H44=>?_;clear H43;refine wW<|zx [0,2,3,4,7] fun ρ14=>?_;have HK15:=H44.keep;clear H44;refine rL [.v,.v,.v] HK15 kr fun gs45 w45 H45=>?_;clear HK15;show WPL _ _ _ _ _ _;refine yF<|zb kr<|rS [.v,.v] H45 kr fun gs46 w46 H46=>?_;clear H45;refine zf kr kr<|zj kr<|wW<|zb kr<|zn 1 kr<|dL [.v,.v,.v,.v,.v,.l 1,.E (.int .u64 (IntKind.u64.wrap (((((List.getD x 3 0)*65536)+(List.getD x 2 0):Nat):Int)*65536))) (.int .u64 (((((List.getD x 3 0)*65536)+(List.getD x 2 0))*65536:Nat):Int)) (zd (qZ (a:=((List.getD x 3 0)*65536)+(List.getD x 2 0)) (b:=65536) (by omega))),.v,.v,.cp (pre:=fun w=>w.heap[ba]? =some (.cells curA 3 (0,0))) (ym x ba (List.length x) ca curA rfl hA (by omega) 1 (by omega)) [] (fun w hb hd=>((hb.block _ (zq hpre)).trans hpre)),.E (.int .u64 (IntKind.u64.wrap (((List.getD x 1 0:Nat):Int)))) (.int .u64 ((List.getD x 1 0:Nat):Int)) (zd (yr (a:=List.getD x 1 0) (by omega))),.E (.int .u64 (IntKind.u64.wrap ((((((List.getD x 3 0)*65536)+(List.getD x 2 0))*65536:Nat):Int)+((List.getD x 1 0:Nat):Int)))) (.int .u64 ((((((List.getD x 3 0)*65536)+(List.getD x 2 0))*65536)+(List.getD x 1 0):Nat):Int)) (zd (qB (a:=(((List.getD x 3 0)*65536)+(List.getD x 2 0))*65536) (b:=List.getD x 1 0) (by omega))),.v,.s 1] H46 kr fun w47 H47=>?_;clear H46;refine wW<|zx [0,2,3,4,7] fun ρ15=>?_;have HK16:=H47.keep;clear H47;refine rL [.v,.v,.v] HK16 kr fun gs48 w48 H48=>?_;clear HK16;show WPL _ _ _ _ _ _;refine yF<|zb kr<|rS [.v,.v] H48 kr fun gs49 w49 H49=>?_;clear H48;refine zf kr kr<|zj kr<|wW<|zb kr<|zn 1 kr<|dL [.v,.v,.v,.v,.v,.l 1,.E (.int .u64 (IntKind.u64.wrap (((((((List.getD x 3 0)*65536)+(List.getD x 2 0))*65536)+(List.getD x 1 0):Nat):Int)*65536))) (.int .u64 (((((((List.getD x 3 0)*65536)+(List.getD x 2 0))*65536)+(List.getD x 1 0))*65536:Nat):Int)) (zd (qZ (a:=((((List.getD x 3 0)*65536)+(List.getD x 2 0))*65536)+(List.getD x 1 0)) (b:=65536) (by omega))),.v,.v,.cp (pre:=fun w=>w.heap[ba]? =some (.cells curA 3 (0,0))) (ym x ba (List.length x) ca curA rfl hA (by omega) 0 (by omega)) [] (fun w hb hd=>((hb.block _ (zq hpre)).trans hpre)),.E (.int .u64 (IntKind.u64.wrap (((List.getD x 0 0:Nat):Int)))) (.int .u64 ((List.getD x 0 0:Nat):Int)) (zd (yr (a:=List.getD x 0 0) (by omega))),.E (.int .u64 (IntKind.u64.wrap ((((((((List.getD x 3 0)*65536)+(List.getD x 2 0))*65536)+(List.getD x 1 0))*65536:Nat):Int)+((List.getD x 0 0:Nat):Int)))) (.int .u64 ((((((((List.getD x 3 0)*65536)+(List.getD x 2 0))*65536)+(List.getD x 1 0))*65536)+(List.getD x 0 0):Nat):Int)) (zd (qB (a:=(((((List.getD x 3 0)*65536)+(List.getD x 2 0))*65536)+(List.getD x 1 0))*65536) (b:=List.getD x 0 0) (by omega))),.v,.s 1] H49 kr fun w50 H50=>?_;clear H49;refine wW<|zx [0,2,3,4,7] fun ρ16=>?_;have HK17:=H50.keep;clear H50;refine rL [.v,.v,.v] HK17 kr fun gs51 w51 H51=>?_;clear HK17;show WPL _ _ _ _ _ _;refine yF<|zb kr<|rS [.v,.v] H51 kr fun gs52 w52 H52=>?_;clear H51;refine zi kr kr<|zN 0 kr<|wW<|rS [.l 1,.s 0] H52 kr fun gs53 w53 H53=>?_;clear H52;refine zl kr<|wV ?_;refine ⟨[.agg #[.int .u64 ((((((((List.getD x 3 0)*65536)+(List.getD x 2 0))*65536)+(List.getD x 1 0))*65536)+(List.getD x 0 0):Nat):Int),.int .u64 ((((((((List.getD x 7 0)*65536)+(List.getD x 6 0))*65536)+(List.getD x 5 0))*65536)+(List.getD x 4 0):Nat):Int),.int .u64 ((((((((List.getD x 11 0)*65536)+(List.getD x 10 0))*65536)+(List.getD x 9 0))*65536)+(List.getD x 8 0):Nat):Int),.int .u64 ((((((((List.getD x 15 0)*65536)+(List.getD x 14 0))*65536)+(List.getD x 13 0))*65536)+(List.getD x 12 0):Nat):Int)]],(.agg (b:=(gs1 0).b) #[.int .u64 ((((((((List.getD x 3 0)*65536)+(List.getD x 2 0))*65536)+(List.getD x 1 0))*65536)+(List.getD x 0 0):Nat):Int),.int .u64 ((((((((List.getD x 7 0)*65536)+(List.getD x 6 0))*65536)+(List.getD x 5 0))*65536)+(List.getD x 4 0):Nat):Int),.int .u64 ((((((((List.getD x 11 0)*65536)+(List.getD x 10 0))*65536)+(List.getD x 9 0))*65536)+(List.getD x 8 0):Nat):Int),.int .u64 ((((((((List.getD x 15 0)*65536)+(List.getD x 14 0))*65536)+(List.getD x 13 0))*65536)+(List.getD x 12 0):Nat):Int)] 48 (0,0) kr (H53.get 0 kr) kr .nil),?_,H53.below⟩;have e:=zjS hx (fun i=>List.getD x i 0) (fun _=>rfl);exact e
theorem ze1:Fn Tryz.prog 78 #[.int .i64 1] (uv NR):=by
 refine Fn.intro (c:=zk Tryz.f78) [.cell 2 48] 7 Tryz.func78 kr kr kr fun w=>?_;have H0:=St.start w;refine rS [.a] H0 kr fun gs1 w1 H1=>?_;clear H0;refine zb kr<|rS [.v,.v] H1 kr fun gs2 w2 H2=>?_;clear H1;refine zi kr kr<|zj kr<|wW<|rS [.v,.s 0] H2 kr fun gs3 w3 H3=>?_;clear H2;refine zl kr<|wV ?_;refine ⟨[.agg #[.int .u64 0xbfd25e8cd0364141,.int .u64 0xbaaedce6af48a03b,.int .u64 0xfffffffffffffffe,.int .u64 0xffffffffffffffff]],(.agg (b:=(gs1 0).b) #[.int .u64 0xbfd25e8cd0364141,.int .u64 0xbaaedce6af48a03b,.int .u64 0xfffffffffffffffe,.int .u64 0xffffffffffffffff] 48 (0,0) kr (H3.get 0 kr) kr .nil),?_,H3.below⟩
 kernel_rfl
@[reducible] def wu0 (n:Nat):Int:=w0 n
@[reducible] def wu1 (n:Nat):Int:=w1 n
@[reducible] def wu2 (n:Nat):Int:=w2 n
@[reducible] def wu3 (n:Nat):Int:=w3 n
def pv (p:Ec.Pd):Value:=.agg #[.int .u64 (w0 p.X),.int .u64 (w1 p.X),.int .u64 (w2 p.X),.int .u64 (w3 p.X),.int .u64 (w0 p.Y),.int .u64 (w1 p.Y),.int .u64 (w2 p.Y),.int .u64 (w3 p.Y),.bool p.b]
section
variable {P:Program}{N:Nat}{ops:Array Oper}{i:Nat}{r:List Nat}{K:Env→World→Prop}{ρ:Env}{w:World}{B:Nat}{w0:World}{l:List (Nat×Obj)}
end
namespace D2
section
variable {P:Program}{ops:Array Oper}{R:(Nat→Gh)→Env}{i:Nat}{d:Option Nat}
variable {E:(Nat→Bool)→(Nat→Gh)→List Ent}{F:(Nat→Bool)→(Nat→Gh)→Prop}{B:Nat}{w0:World}
end
end D2
end Go.Proofs.YtbpmjppmpgeejaaGreatDoor
namespace Go.Proofs.YtbpmjppmpgeejaaGreatDoor
open Go Go.RowKit
set_option linter.unusedVariables false
theorem ze2 {A B:Nat}(h:A<B):cm A B<0:=by unfold cm;split<;>(try split)<;>omega
theorem ze3 {A B:Nat}(h: ¬A<B): ¬cm A B<0:=by unfold cm;split<;>(try split)<;>omega
end Go.Proofs.YtbpmjppmpgeejaaGreatDoor
namespace Go.Proofs.YtbpmjppmpgeejaaGreatDoor
set_option linter.unusedVariables false
section
variable {p H Q:Nat}
end
open Go Go.RowKit Go.Proofs.Zm
end Go.Proofs.YtbpmjppmpgeejaaGreatDoor
namespace Go.Proofs.YtbpmjppmpgeejaaGreatDoor
open Go Go.RowKit
set_option linter.unusedVariables false
end Go.Proofs.YtbpmjppmpgeejaaGreatDoor
namespace Go.Proofs.YtbpmjppmpgeejaaGreatDoor
open Go.ChangeShapes Go.WideShapes Go.ChangeAt Go.RowKit
set_option linter.unusedVariables false
def bn (A:Nat):List Int:=[w3 A / 72057594037927936%256,w3 A / 281474976710656%256,w3 A / 1099511627776%256,w3 A / 4294967296%256,w3 A / 16777216%256,w3 A / 65536%256,w3 A / 256%256,w3 A%256,w2 A / 72057594037927936%256,w2 A / 281474976710656%256,w2 A / 1099511627776%256,w2 A / 4294967296%256,w2 A / 16777216%256,w2 A / 65536%256,w2 A / 256%256,w2 A%256,w1 A / 72057594037927936%256,w1 A / 281474976710656%256,w1 A / 1099511627776%256,w1 A / 4294967296%256,w1 A / 16777216%256,w1 A / 65536%256,w1 A / 256%256,w1 A%256,w0 A / 72057594037927936%256,w0 A / 281474976710656%256,w0 A / 1099511627776%256,w0 A / 4294967296%256,w0 A / 16777216%256,w0 A / 65536%256,w0 A / 256%256,w0 A%256]
def bs (A:Nat):ByteArray:=strOfNums (bn A)
theorem zj2 (w:World)(O:Obj)(xs:List Int)(n:Nat)(hn:xs.length=n)(C:Array Value)(hC:C=(xs.map (Value.int .u8)).toArray):
 (convert 76 9 (.slice (some ⟨w.heap.size+1,0,none⟩) n n)).run Tryz.prog ((w.alloc O).alloc (.cells C 138))=.ok (.string (strOfNums xs)) ((w.alloc O).alloc (.cells C 138)):=by
 subst hC;refine run_convert_bytes_arg _ 76 5 Tryz.underlying76 Tryz.underlying5 _ 0 n n xs hn ?_ 9 Tryz.underlying9;intro i hi;have h:=heap_alloc2_new w O (.cells (xs.map (Value.int .u8)).toArray 138);rw [cell_of_row _ _ _ _ _ _ h];have hi':i<xs.length:=by omega
 simp [hi']
theorem zj3 (A:Nat)(hA:A<big)(w:World):Calls Tryz.prog 76 #[uv A] w fun e w'=>e=.returned (.string (bs A))∧Below w.heap.size w w':=by
 have hc:=fun (O:Obj)=>zj2 w O (bn A) 32 rfl _ rfl;simp only [bn,List.map_cons,List.map_nil] at hc;unfold uv
 go_enter Tryz.func76,Tryz.ntmps76
 go_wp2
 go_rounds 33
 go_ret
 exact ⟨rfl,by go_grown⟩
theorem qG (A:Nat):(bs A).size=32:=rfl
end Go.Proofs.YtbpmjppmpgeejaaGreatDoor
namespace Go.Proofs.YtbpmjppmpgeejaaGreatDoor
open Go Go.RowKit
set_option linter.unusedVariables false
def inN (a:Nat):Bool:= !decide (a=0)&&decide (a<NR)
def xI (a:Nat):Bool:=decide (NR<a+a)
def xJ (a:Nat):Bool:=decide (a<ql 0 a NR)
theorem ze4 {a:Nat}(h: ¬a=0):inN a=decide (a<NR):=by unfold inN;rw [decide_eq_false h];rfl
theorem zj4:NR%2=1:=by decide+kernel
theorem kH (a:Nat)(ha:a<big):xJ a=(inN a&& !xI a):=by
 have hpos:0<NR:=by decide+kernel
 have hodd:=zj4;unfold xJ inN xI ql;rw [Nat.zero_mod,Nat.zero_add];generalize NR=M at*;have hm:=Nat.mod_lt a hpos;by_cases h0:a=0
 ·subst h0;rw [Nat.zero_mod,Nat.sub_zero,Nat.mod_self];rfl
 ·by_cases h1:a<M
  ·rw [Nat.mod_eq_of_lt h1,Nat.mod_eq_of_lt (by omega),decide_eq_false h0,decide_eq_true h1];rw [Bool.eq_iff_iff];simp only [decide_eq_true_eq,Bool.not_false,Bool.true_and,Bool.not_eq_true',decide_eq_false_iff_not];omega
  ·have h2:=Nat.mod_lt (M-a%M) hpos;rw [decide_eq_false h1,decide_eq_false h0,decide_eq_false (by omega)];rfl
def ya (r s:Nat)(v:Int):Bool:=inN r&&xJ s&&(decide (v=0)||decide (v=1))
def sgv (r s:Nat)(v:Int):Value:=.agg #[.int .u64 (w0 r),.int .u64 (w1 r),.int .u64 (w2 r),.int .u64 (w3 r),.int .u64 (w0 s),.int .u64 (w1 s),.int .u64 (w2 s),.int .u64 (w3 s),.int .i64 v]
def sbs (r s:Nat)(v:Int):ByteArray:=(bs r++bs s)++strOfNums [IntKind.u8.wrap v]
theorem zar (a b:ByteArray):(a++b).size=a.size+b.size:=ByteArray.size_append
end Go.Proofs.YtbpmjppmpgeejaaGreatDoor
