/-
  Texts of the proof,part 4.
-/
import Derived.Test.YtbpmjppmpgeejaaGreatDoorProg
import Derived.Laws.BitsLemmas
import Derived.Laws.BitsAllLaws
import Derived.Laws.BytesArg
import Derived.Below
import Derived.Laws.Bits64b
import Derived.Lib.Hide
import Derived.ChangeKeysEq
import Derived.Laws.StructEq
import Derived.Laws.Externs
import Derived.Test.YtbpmjppmpgeejaaGreatDoorHB1
import Derived.Test.YtbpmjppmpgeejaaGreatDoorHB2
import Derived.Test.YtbpmjppmpgeejaaGreatDoorHB3
set_option maxRecDepth 100000
set_option maxHeartbeats 4000000
namespace Go.Proofs.YtbpmjppmpgeejaaGreatDoor
open Go Go.RowKit
set_option linter.unusedVariables false
abbrev zdH (form:ByteArray)(i:Nat)(b2 bo N cap:Nat):List (Nat×Value):=[(0,.string form),(2,.pointer (some ⟨b2,0,none⟩)),(3,.bool false),(4,.slice (some ⟨bo,0,none⟩) N cap),(16,.int .i64 (form.size:Int)),(17,.int .i64 (i:Int))]
theorem zia {Q:Exit→Env→World→Prop}{B:Nat}{w0:World}(form:ByteArray)(b2 i:Nat)(hi40:i≤40)(hi:i<form.size)(hz:form.size≤40)(S:List Sk)(N:Nat)(T:List (Nat×Obj))(bo cap:Nat)(cur:Array Value)(hN:N=S.length)(hBot:Bot S)(hN5:N≤5)(hS: ∀e∈S,jH T i e)(hRw:Rw 2 cur cap N (zC kS (opE S)))
 (ρ0:Env) (ww0:World) (H0:St B w0 ww0 ((b2,kdO 0 none 0 0)::(bo,kR cur)::(ye S++T))) (hIs:Is (zdH form i b2 bo N cap) ρ0)
 (hbad:qI (by_ form i) (stM S)=none→ ∀(ρ:Env) (ww:World) (bd:Nat) (o:Obj) (l:List (Nat×Obj)),St B w0 ww ((bd,o)::(b2,kdO 0 none 0 0)::l)→ρ 3=.bool false→ρ 2=.pointer (some ⟨b2,0,none⟩)→Q .ret ρ ww)
 (hQ: ∀(S':List Sk) (N:Nat) (T:List (Nat×Obj)) (bo cap:Nat) (cur:Array Value) (ρ:Env) (ww:World),N=S'.length→Bot S'→N≤5→(∀e∈S',jH T (i+1) e)→qI (by_ form i) (stM S)=some (stM S')→Rw 2 cur cap N (zC kS (opE S'))→
  St B w0 ww ((b2,kdO 0 none 0 0)::(bo,kR cur)::(ye S'++T))→Is (zdH form i b2 bo N cap) ρ→Q (.exit 1) ρ ww):
 WP Tryz.prog 101 zdE Q ρ0 ww0:=by
 obtain ⟨_,rfl⟩:=hIs;rcases S with _|⟨e,r⟩
 ·exact hBot.elim
 obtain rfl:N=r.length+1:=hN;have he:=hS e (List.mem_cons_self ..);have htop:=hRw.top;obtain ⟨c,hc⟩:∃c,by_ form i=c:=⟨_,rfl⟩
 have hrc:=hRw.le;refine rS [.v,.v] H0 kr fun gs1 w1 H1=>zg [0,1,2,3,4,5] kr kr<|rp [.v,.v,.oe (ins:=[((.tmp 20),.string form),((.tmp 21),.int .i64 (i:Int))]) (v:=.int .u8 ((by_ form i:Nat):Int)) (v':=.int .u8 (c:Int)) (fun ρ o w ho hi2=>yc (t:=9) (kd:=.i64) kr (x:=(.tmp 20)) (y:=(.tmp 21)) form i ho hi2.1 hi2.2.1 hi w) (by rw [hc]),.v] H1 kr fun gs2 w2 H2=>wX [4,5] ?_;have H3:St B w0 w2 ((b2,kdO 0 none 0 0)::(bo,kR cur)::(ye (e::r)++T)):=H2.as kr;refine yu H3 (some 6) 62 (.agg #[.int .u8 0,.slice none 0 0]) kr kr kr ?_;intro bd w3 H4;refine rp [.s 0] H4 kr fun gs3 w4 H5=>wX []<|zc<|zb kr<|rS [.v,.v,.E (.int .i64 (IntKind.i64.wrap (((r.length+1:Nat):Int)-1))) (.int .i64 (r.length:Int)) (zd (by rw [show (((r.length+1:Nat):Int)-1)=(r.length:Int) by omega];exact zak (by omega))),.v] H5 kr fun gs4 w5 H6=>rS [.v,.l 0] H6 kr fun gs5 w6 H7=>zn 2 kr ?_;have H8:St B w0 w6 ((bd,kdO c none 0 0)::(b2,kdO 0 none 0 0)::(bo,kR cur)::(ye (e::r)++T)):=H7.as kr;clear H0 H1 H2 H3 H4 H5 H6 H7;refine zx [0,2,3,4,5,6,7,16,17,28] fun ρ1=>zb kr ?_;obtain ⟨lb,hlb⟩:∃lb,decide (c=110∨c=104∨c=97∨c=115∨c=98)=lb:=⟨_,rfl⟩
 refine qL (Q:=fun ex ρ ww=>ex=.normal∧St B w0 ww ((bd,kdO c none 0 0)::(b2,kdO 0 none 0 0)::(bo,kR cur)::(ye (e::r)++T))∧Is [(0,.string form),(2,.pointer (some ⟨b2,0,none⟩)),(3,.bool false),(4,.slice (some ⟨bo,0,none⟩) (r.length+1) cap),(6,.pointer (some ⟨bd,0,none⟩)),(7,.int .i64 (r.length:Int)),(16,.int .i64 (form.size:Int)),(17,.int .i64 (i:Int)),(28,.int .u8 (c:Int)),(30,.bool lb)] ρ) ?_ ?_
 ·by_cases h110:c=110
  ·refine rS [.E (.bool ((c:Int)==110)) (.bool true) (za (beq_iff_eq.2 (by omega))),.v] H8 kr fun gsa110 wa110 Ha110=>zi kr kr<|zj kr ?_;obtain rfl:lb=true:=by rw [←hlb];exact decide_eq_true (by omega)
   exact ⟨rfl,Ha110.as kr,(Is.of ⟨kr,kr,kr,kr,kr,kr,kr,kr,kr,kr,trivial⟩)⟩
  ·refine rS [.E (.bool ((c:Int)==110)) (.bool false) (za (beq_eq_false_iff_ne.2 (by omega))),.v] H8 kr fun gsb110 wb110 Hb110=>zh kr kr ?_;by_cases h104:c=104
   ·refine rS [.E (.bool ((c:Int)==104)) (.bool true) (za (beq_iff_eq.2 (by omega))),.v] Hb110 kr fun gsa104 wa104 Ha104=>zi kr kr<|zj kr ?_;obtain rfl:lb=true:=by rw [←hlb];exact decide_eq_true (by omega)
    exact ⟨rfl,Ha104.as kr,(Is.of ⟨kr,kr,kr,kr,kr,kr,kr,kr,kr,kr,trivial⟩)⟩
   ·refine rS [.E (.bool ((c:Int)==104)) (.bool false) (za (beq_eq_false_iff_ne.2 (by omega))),.v] Hb110 kr fun gsb104 wb104 Hb104=>zh kr kr ?_;by_cases h97:c=97
    ·refine rS [.E (.bool ((c:Int)==97)) (.bool true) (za (beq_iff_eq.2 (by omega))),.v] Hb104 kr fun gsa97 wa97 Ha97=>zi kr kr<|zj kr ?_;obtain rfl:lb=true:=by rw [←hlb];exact decide_eq_true (by omega)
     exact ⟨rfl,Ha97.as kr,(Is.of ⟨kr,kr,kr,kr,kr,kr,kr,kr,kr,kr,trivial⟩)⟩
    ·refine rS [.E (.bool ((c:Int)==97)) (.bool false) (za (beq_eq_false_iff_ne.2 (by omega))),.v] Hb104 kr fun gsb97 wb97 Hb97=>zh kr kr ?_;by_cases h115:c=115
     ·refine rS [.E (.bool ((c:Int)==115)) (.bool true) (za (beq_iff_eq.2 (by omega))),.v] Hb97 kr fun gsa115 wa115 Ha115=>zi kr kr<|zj kr ?_;obtain rfl:lb=true:=by rw [←hlb];exact decide_eq_true (by omega)
      exact ⟨rfl,Ha115.as kr,(Is.of ⟨kr,kr,kr,kr,kr,kr,kr,kr,kr,kr,trivial⟩)⟩
     ·refine rS [.E (.bool ((c:Int)==115)) (.bool false) (za (beq_eq_false_iff_ne.2 (by omega))),.v] Hb97 kr fun gsb115 wb115 Hb115=>zh kr kr ?_;by_cases h98:c=98
      ·refine rL [.E (.bool ((c:Int)==98)) (.bool true) (za (beq_iff_eq.2 (by omega))),.v] Hb115 kr fun gsa98 wa98 Ha98=>?_;obtain rfl:lb=true:=by rw [←hlb];exact decide_eq_true (by omega)
       exact ⟨rfl,Ha98.as kr,(Is.of ⟨kr,kr,kr,kr,kr,kr,kr,kr,kr,kr,trivial⟩)⟩
      ·refine rL [.E (.bool ((c:Int)==98)) (.bool false) (za (beq_eq_false_iff_ne.2 (by omega))),.v] Hb115 kr fun gsb98 wb98 Hb98=>?_;obtain rfl:lb=false:=by rw [←hlb];exact decide_eq_false (by omega)
       exact ⟨rfl,Hb98.as kr,(Is.of ⟨kr,kr,kr,kr,kr,kr,kr,kr,kr,kr,trivial⟩)⟩
 rintro _ _ w7 ⟨rfl,H9,_,rfl⟩;refine wW ?_;cases lb with
 | true=>
  have hst:qI (by_ form i) (stM (e::r))=some (jE c .nil (stM (e::r))):=by
   rw [hc];unfold qI;rw [if_pos (of_decide_eq_true hlb)]
  refine zi kr kr<|zj kr<|wW<|zdG form b2 bd i _ hi40 (r.length+1) _ _ ⟨e::r,r.length+1,c,none,0,0,.nil,T,bo,cap,cur,rfl,rfl,hBot,hN5,hS,RIn.none _ _,rfl,hRw,H9,(Is.of ⟨kr,kr,kr,kr,kr,kr,kr,trivial⟩)⟩ ?_;intro S' N' T' bo' cap' cur' ρ' ww' h1 h2 h3 h4 h5 h6 h7 h8;exact hQ S' N' T' bo' cap' cur' ρ' ww' h1 h2 h3 h4 (by rw [hst,h5]) h6 h7 h8
 | false=>
  have hnl:=of_decide_eq_false hlb;refine zh kr kr<|zb kr ?_;obtain ⟨gb,hgb⟩:∃gb,decide (c=40∨c=42)=gb:=⟨_,rfl⟩
  refine qL (Q:=fun ex ρ ww=>ex=.normal∧St B w0 ww ((bd,kdO c none 0 0)::(b2,kdO 0 none 0 0)::(bo,kR cur)::(ye (e::r)++T))∧Is [(0,.string form),(2,.pointer (some ⟨b2,0,none⟩)),(3,.bool false),(4,.slice (some ⟨bo,0,none⟩) (r.length+1) cap),(6,.pointer (some ⟨bd,0,none⟩)),(7,.int .i64 (r.length:Int)),(16,.int .i64 (form.size:Int)),(17,.int .i64 (i:Int)),(28,.int .u8 (c:Int)),(36,.bool gb)] ρ) ?_ ?_
  ·by_cases h40:c=40
   ·refine rS [.E (.bool ((c:Int)==40)) (.bool true) (za (beq_iff_eq.2 (by omega))),.v] H9 kr fun gsa40 wa40 Ha40=>zi kr kr<|zj kr ?_;obtain rfl:gb=true:=by rw [←hgb];exact decide_eq_true (by omega)
    exact ⟨rfl,Ha40.as kr,(Is.of ⟨kr,kr,kr,kr,kr,kr,kr,kr,kr,kr,trivial⟩)⟩
   ·refine rS [.E (.bool ((c:Int)==40)) (.bool false) (za (beq_eq_false_iff_ne.2 (by omega))),.v] H9 kr fun gsb40 wb40 Hb40=>zh kr kr ?_;by_cases h42:c=42
    ·refine rL [.E (.bool ((c:Int)==42)) (.bool true) (za (beq_iff_eq.2 (by omega))),.v] Hb40 kr fun gsa42 wa42 Ha42=>?_;obtain rfl:gb=true:=by rw [←hgb];exact decide_eq_true (by omega)
     exact ⟨rfl,Ha42.as kr,(Is.of ⟨kr,kr,kr,kr,kr,kr,kr,kr,kr,kr,trivial⟩)⟩
    ·refine rL [.E (.bool ((c:Int)==42)) (.bool false) (za (beq_eq_false_iff_ne.2 (by omega))),.v] Hb40 kr fun gsb42 wb42 Hb42=>?_;obtain rfl:gb=false:=by rw [←hgb];exact decide_eq_false (by omega)
     exact ⟨rfl,Hb42.as kr,(Is.of ⟨kr,kr,kr,kr,kr,kr,kr,kr,kr,kr,trivial⟩)⟩
  rintro _ _ w8 ⟨rfl,H10,_,rfl⟩;refine wW ?_;cases gb with
  | true=>
   have hyes:=of_decide_eq_true hgb;refine zi kr kr<|zb kr ?_;by_cases h4:r.length=4
   ·refine zb kr<|rL [.v,.E (.bool ((r.length:Int)==4)) (.bool true) (za (beq_iff_eq.2 (by omega)))] H10 kr fun gs6 w9 H11=>wW<|zi kr kr<|rS [.v,.s 1,.v] H11 kr fun gs7 w10 H12=>zm kr ?_;have H13:St B w0 w10 ((bd,kdO c none 0 0)::(b2,kdO 0 none 0 0)::(bo,kR cur)::(ye (e::r)++T)):=H12.as kr;refine hbad ?_ _ w10 bd _ _ H13 kr kr;rw [hc];unfold qI;rw [if_neg hnl,if_pos hyes,if_pos];show ((e::r).map _).length=5;rw [List.length_map,List.length_cons,h4]
   ·refine zb kr<|rL [.v,.E (.bool ((r.length:Int)==4)) (.bool false) (za (beq_eq_false_iff_ne.2 (by omega)))] H10 kr fun gs6 w9 H11=>wW<|zh kr kr<|zj kr<|wW<|zg [0,1,2,3,4] kr kr<|rp [.v,.l 0] H11 kr fun gs7 w10 H12=>wX [2,3,4] ?_;have H13:St B w0 w10 ((bd,kdO c none 0 0)::(b2,kdO 0 none 0 0)::(bo,kR cur)::(ye (e::r)++T)):=H12.as kr;refine uY H13 (some 44) (fun b=>.slice (some ⟨b,0,none⟩) 1 1) #[.int .u8 (c:Int),.slice none 0 0] 62 (fun w=>by kernel_rfl) kr ?_;intro bn w11 H14;refine zax (K':=2) H14 (some 45) 60 62 32 (.tmp 42) (.tmp 44) 3 0 bo bn (r.length+1) cap 1 cur #[.int .u8 (c:Int),.slice none 0 0] (zC kS (opE (e::r))) kr kr kr kr kr hRw kr kr rfl (jD rfl) (by omega) (by unfold maxLen;omega) ?_;intro b' cap' cur' w12 H15 hr';have H16:St B w0 w12 ((bn,kR #[.int .u8 (c:Int),.slice none 0 0])::(bd,kdO c none 0 0)::(b2,kdO 0 none 0 0)::(b',kR cur')::(ye (e::r)++T)):=H15;refine rp [.v] H16 kr fun gs8 w13 H17=>wX []<|zc<|zy 1 kr ?_;show Q (.exit 1) _ _;have H18:St B w0 w13 ((bn,kR #[.int .u8 (c:Int),.slice none 0 0])::(bd,kdO c none 0 0)::(b2,kdO 0 none 0 0)::(b',kR cur')::(ye (e::r)++T)):=H17.as kr;refine hQ (⟨c,none,0,0,[],[]⟩::e::r) (r.length+2) T b' cap' cur' _ _ rfl (.inr hBot) (by omega) ?_ ?_ ?_ (H18.sub (List.Sublist.cons _ (List.sublist_cons_self ..))) (Is.of ⟨kr,kr,kr,kr,kr,kr,trivial⟩)
    ·intro x hx;rcases List.mem_cons.1 hx with rfl | hx
     ·exact ⟨.inl ⟨rfl,rfl,rfl,rfl,rfl⟩,(fun _ h=>nomatch h),Nat.zero_le _⟩
     ·exact (hS x hx).mono (fun _ h=>h) (Nat.le_succ _)
    ·rw [hc];unfold qI;rw [if_neg hnl,if_pos hyes,if_neg]
     ·rfl
     ·show ¬((e::r).map _).length=5;rw [List.length_map,List.length_cons];omega
    ·rw [km];exact hr'
  | false=>
   have hno:=of_decide_eq_false hgb;refine zh kr kr ?_;by_cases h41:c=41
   ·refine rS [.E (.bool ((c:Int)==41)) (.bool true) (za (beq_iff_eq.2 (by omega))),.v] H10 kr fun gs6 w9 H11=>zi kr kr<|zb kr<|zb kr ?_;by_cases hr0:r.length=0
    ·refine rL [.v,.E (.bool ((r.length:Int)==0)) (.bool true) (za (beq_iff_eq.2 (by omega))),.v,.n,.n,.n,.n,.n,.n,.v] H11 kr fun gs7 w10 H12=>wW<|zi kr kr<|rS [.v,.s 1,.v] H12 kr fun gs8 w11 H13=>zm kr ?_;have H14:St B w0 w11 ((bd,kdO c none 0 0)::(b2,kdO 0 none 0 0)::(bo,kR cur)::(ye (e::r)++T)):=H13.as kr;refine hbad ?_ _ w11 bd _ _ H14 kr kr;rw [hc];unfold qI;rw [if_neg hnl,if_neg hno,if_pos h41];show (if (r.map _).length=0∨e.g≠40 then none else some _)=none;rw [if_pos (.inl (by rw [List.length_map];exact hr0))]
    ·by_cases h40:e.g=40
     ·refine rL [.v,.E (.bool ((r.length:Int)==0)) (.bool false) (za (beq_eq_false_iff_ne.2 (by omega))),.v,.v,.v,.o (ins:=[((.tmp 51),.slice (some ⟨bo,0,none⟩) (r.length+1) cap),((.tmp 52),.int .i64 (r.length:Int))]) (v:=.pointer (some ⟨bo,0+r.length*2,none⟩)) (fun ρ o w ho hi2=>yo (kd:=.i64) (t:=60) (e:=62) (K:=2) (bytes:=32) kr (x:=(.tmp 51)) (y:=(.tmp 52)) bo 0 (r.length+1) cap r.length rfl ho hi2.1 hi2.2.1 (by omega) w),.v,.ls 2 (C:=cur) (off:=0+r.length*2) (v:=.int .u8 ((e.g:Nat):Int)) htop.2.2.1,.E (.bool (!(((e.g:Nat):Int)==40))) (.bool false) (za (by rw [h40];rfl)),.v] H11 kr fun gs7 w10 H12=>wW<|zh kr kr<|zj kr<|wW<|dL [.v,.v,.o (ins:=[((.tmp 59),.slice (some ⟨bo,0,none⟩) (r.length+1) cap),((.tmp 60),.int .i64 (r.length:Int))]) (v:=.pointer (some ⟨bo,0+r.length*2,none⟩)) (fun ρ o w ho hi2=>yo (kd:=.i64) (t:=60) (e:=62) (K:=2) (bytes:=32) kr (x:=(.tmp 59)) (y:=(.tmp 60)) bo 0 (r.length+1) cap r.length rfl ho hi2.1 hi2.2.1 (by omega) w),.lp 2 (C:=cur) (off:=0+r.length*2) (n:=2) (W:=#[.int .u8 ((e.g:Nat):Int),.slice e.p e.n e.c]) htop.1 htop.2.1,.v,.v,.o (ins:=[((.tmp 63),.slice (some ⟨bo,0,none⟩) (r.length+1) cap),((.tmp 64),.int .i64 (r.length:Int))]) (v:=.slice (some ⟨bo,0,none⟩) r.length cap) (fun ρ o w ho hi2=>zcb (kd:=.i64) (t:=60) (e:=62) (size:=2) (bytes:=32) kr (x:=(.tmp 63)) (y:=(.tmp 64)) bo (r.length+1) cap r.length ho hi2.1 hi2.2.1 (by omega) w),.s 0,.v] H12 kr fun w11 H13=>wW ?_;have H14:St B w0 w11 ((bd,kdO e.g e.p e.n e.c)::(b2,kdO 0 none 0 0)::(bo,kR cur)::(e.row++(ye r++T))):=by
       rw [←List.append_assoc];exact H13.as kr
      have hBr:Bot r:=by
       rcases hBot with ⟨h,_⟩|h
       ·rw [h] at hr0;exact absurd rfl hr0
       ·exact h
      have hst:qI (by_ form i) (stM (e::r))=some (jE e.g (yM e.M) (stM r)):=by
       rw [hc];unfold qI;rw [if_neg hnl,if_neg hno,if_pos h41];show (if (r.map _).length=0∨e.g≠40 then none else some (jE e.g (yM e.M) (stM r)))=_;rw [if_neg (by rw [List.length_map];exact fun h=>h.elim hr0 (fun h=>h h40))]
      refine zdG form b2 bd i _ hi40 r.length _ _ ⟨r,r.length,e.g,e.p,e.n,e.c,yM e.M,e.row++T,bo,cap,cur,rfl,rfl,hBr,by omega,fun x hx=>(hS x (List.mem_cons_of_mem _ hx)).mono (fun y hy=>List.mem_append_right _ hy) (Nat.le_refl _),he.row.rIn (by decide) he.all (by have:=he.le;show e.n≤1000;omega),rfl,Rw.pop (km _ _▸hRw) (uy r),H14.perm (List.Perm.cons _ (List.Perm.cons _ (List.Perm.cons _ (List.perm_append_comm_assoc (ye r) e.row T)))),(Is.of ⟨kr,kr,kr,kr,kr,kr,kr,trivial⟩)⟩ ?_;intro S' N' T' bo' cap' cur' ρ' ww' h1 h2 h3 h4 h5 h6 h7 h8;exact hQ S' N' T' bo' cap' cur' ρ' ww' h1 h2 h3 h4 (by rw [hst,h5]) h6 h7 h8
     ·refine rL [.v,.E (.bool ((r.length:Int)==0)) (.bool false) (za (beq_eq_false_iff_ne.2 (by omega))),.v,.v,.v,.o (ins:=[((.tmp 51),.slice (some ⟨bo,0,none⟩) (r.length+1) cap),((.tmp 52),.int .i64 (r.length:Int))]) (v:=.pointer (some ⟨bo,0+r.length*2,none⟩)) (fun ρ o w ho hi2=>yo (kd:=.i64) (t:=60) (e:=62) (K:=2) (bytes:=32) kr (x:=(.tmp 51)) (y:=(.tmp 52)) bo 0 (r.length+1) cap r.length rfl ho hi2.1 hi2.2.1 (by omega) w),.v,.ls 2 (C:=cur) (off:=0+r.length*2) (v:=.int .u8 ((e.g:Nat):Int)) htop.2.2.1,.E (.bool (!(((e.g:Nat):Int)==40))) (.bool true) (za (by rw [beq_eq_false_iff_ne.2 (by omega)];rfl)),.v] H11 kr fun gs7 w10 H12=>wW<|zi kr kr<|rS [.v,.s 1,.v] H12 kr fun gs8 w11 H13=>zm kr ?_;have H14:St B w0 w11 ((bd,kdO c none 0 0)::(b2,kdO 0 none 0 0)::(bo,kR cur)::(ye (e::r)++T)):=H13.as kr;refine hbad ?_ _ w11 bd _ _ H14 kr kr;rw [hc];unfold qI;rw [if_neg hnl,if_neg hno,if_pos h41];show (if (r.map _).length=0∨e.g≠40 then none else some _)=none;rw [if_pos (.inr h40)]
   ·refine rS [.E (.bool ((c:Int)==41)) (.bool false) (za (beq_eq_false_iff_ne.2 (by omega))),.v] H10 kr fun gs6 w9 H11=>zh kr kr<|rS [.v,.s 1,.v] H11 kr fun gs7 w10 H12=>zm kr ?_;have H13:St B w0 w10 ((bd,kdO c none 0 0)::(b2,kdO 0 none 0 0)::(bo,kR cur)::(ye (e::r)++T)):=H12.as kr;refine hbad ?_ _ w10 bd _ _ H13 kr kr;rw [hc];unfold qI;rw [if_neg hnl,if_neg hno,if_neg h41]
def uz (form:ByteArray)(v:Value)(T:List (Nat×Obj)):Prop:=
 (∃(p:Option Addr) (n c:Nat) (k:Kf),parseM form=some k∧v=.tuple #[knd 40 p n c,.bool true]∧RIn kS T p n k)∨
 (parseM form=none∧∃(g:Nat) (p:Option Addr) (n c:Nat),v=.tuple #[knd g p n c,.bool false])
theorem zib (s:ByteArray)(i:Nat)(h:i<s.size):(tl s).drop i=(tl s).getD i 0::(tl s).drop (i+1):=by
 have h1:i<(tl s).length:=h;rw [List.drop_eq_getElem_cons h1,List.getD_eq_getElem?_getD,List.getElem?_eq_getElem h1];rfl
theorem zic: ∀ {S:List Sk},Bot S→1≤S.length
 | [],h=>h.elim
 | e::r,_=>by simp
theorem zid (form:ByteArray):FnT Tryz.prog 40 #[.string form] (fun _=>True) (uz form):=by
 refine FnT.intro (c:=zk Tryz.f40) [.cell 2 62,.tmp 3] 101 Tryz.func40 kr kr kr fun w _=>?_;have H0:=St.start w;refine rS [.a,.v] H0 kr fun gs1 w1 H1=>?_;clear H0;refine zf2 kr<|zb kr ?_;by_cases h40:40<form.size
 ·refine rS [.v,.v,.E (.bool (decide ((40:Int)<(ByteArray.size form:Int)))) (.bool true) (za (decide_eq_true (by omega)))] H1 kr fun gs2 w2 H2=>zi kr kr<|rS [.v,.s 0,.v] H2 kr fun gs3 w3 H3=>rRr [.cell 2 62,.tmp 3] [0] (.tuple #[knd 0 none 0 0,.bool false]) (qD w.heap.size w (uz form)) H3 kr ?_;exact ⟨[],.inr ⟨by unfold parseM;rw [if_pos h40],_,_,_,_,rfl⟩,H3.sub (List.nil_sublist _)⟩
 ·refine rS [.v,.v,.E (.bool (decide ((40:Int)<(ByteArray.size form:Int)))) (.bool false) (za (decide_eq_false (by omega)))] H1 kr fun gs2 w2 H2=>zh kr kr<|zj kr<|wW<|rS [.v,.nw (fun b=>.slice (some ⟨b,0,none⟩) 1 1) #[.int .u8 40,.slice none 0 0] 62,.v] H2 kr fun gs3 w3 H3=>zb kr<|zf3 0 kr<|wW<|zb kr<|rS [.v,.v,.v] H3 kr fun gs4 w4 H4=>zn 0 kr ?_;have H5:St w.heap.size w w4 (((gs1 0).b,kdO 0 none 0 0)::((gs3 1).b,kR #[.int .u8 40,.slice none 0 0])::(ye [⟨40,none,0,0,[],[]⟩]++ [])):=H4.as kr;have hpm:parseM form=match xg (tl form) [(40,.nil)] with | some [(_,m)]=>some m | _=>none:=by unfold parseM;rw [if_neg h40]<;>rfl
  clear H1 H2 H3 H4;refine zG kr (fun mz ρ ww=> ∃(i:Nat) (st:List (Nat×Kf)),form.size-i=mz∧i≤form.size∧xg ((tl form).drop i) st=xg (tl form) [(40,.nil)]∧zh9 w.heap.size w form (gs1 0).b i st ρ ww) (form.size-0)
   ⟨0,[(40,.nil)],rfl,Nat.zero_le _,rfl,[⟨40,none,0,0,[],[]⟩],1,[],(gs3 1).b,1,#[.int .u8 40,.slice none 0 0],rfl,.inl ⟨rfl,rfl⟩,by decide,(fun x hx=>by
    obtain rfl:=List.mem_singleton.1 hx
    exact ⟨.inl ⟨rfl,rfl,rfl,rfl,rfl⟩,(fun _ h=>nomatch h),Nat.zero_le _⟩),rfl,⟨rfl,Nat.le_refl _,by unfold maxLen;omega,rfl,rfl⟩,H5,(Is.of ⟨kr,kr,kr,kr,kr,kr,trivial⟩)⟩ ?_
  clear H5;rintro _ _ w5 ⟨i,_,rfl,hi,hst,S,N,T,bo,cap,cur,hN,hBot,hN5,hS,rfl,hRw,H6,_,rfl⟩;by_cases hlt:i<form.size
  ·refine rS [.E (.bool (decide ((i:Int)<(form.size:Int)))) (.bool true) (za (decide_eq_true (by omega)))] H6 kr fun gs5 w6 H7=>zb kr<|zi kr kr<|zj kr<|wW<|zb kr<|zn 1 kr ?_;have H8:St w.heap.size w w6 (((gs1 0).b,kdO 0 none 0 0)::(bo,kR cur)::(ye S++T)):=H7.as kr;have hstep: ∀x,qI (by_ form i) (stM S)=x→xg (tl form) [(40,.nil)]=match x with | none=>none | some st'=>xg ((tl form).drop (i+1)) st':=fun x hx=>by
    rw [←hst,zib form i hlt,←hx];rfl
   refine zia form (gs1 0).b i (by omega) hlt (by omega) S N T bo cap cur hN hBot hN5 hS hRw _ w6 H8 (Is.of ⟨kr,kr,kr,kr,kr,kr,trivial⟩) ?_ ?_
   ·intro hn ρ ww bd o l HS h3 h2;refine wV ?_;refine ⟨[.agg #[.int .u8 0,.slice none 0 0],.bool false],(.agg (b:=(gs1 0).b) #[.int .u8 0,.slice none 0 0] 62 (0,0) h2 (HS.get 1 kr) kr (.tmp (.bool false) h3 .nil)),[],.inr ⟨?_,0,none,0,0,rfl⟩,HS.sub (List.nil_sublist _)⟩;rw [hpm,hstep _ hn]
   ·intro S' N' T' bo' cap' cur' ρ ww h1 h2 h3 h4 h5 h6 h7 ⟨_,h8⟩;subst h8;refine wW<|rL [.E (.int .i64 (IntKind.i64.wrap ((i:Int)+1))) (.int .i64 ((i+1:Nat):Int)) (zd (zq (a:=i) (b:=1) (by omega))),.v] h7 kr fun gs6 w7 H9=>?_;show ∃m,_∧_;exact ⟨_,(by omega),i+1,stM S',rfl,hlt,(hstep _ h5).symm,S',N',T',bo',cap',cur',h1,h2,h3,h4,rfl,h6,H9.as kr,(Is.of ⟨kr,kr,kr,kr,kr,kr,trivial⟩)⟩
  ·obtain rfl:i=form.size:=by omega
   refine rS [.E (.bool (decide ((form.size:Int)<(form.size:Int)))) (.bool false) (za (decide_eq_false (by omega)))] H6 kr fun gs5 w6 H7=>zb kr<|zh kr kr<|zy 0 kr<|wW ?_;have hb1:=zic hBot;have hend:xg (tl form) [(40,.nil)]=some (stM S):=by
    rw [←hst,List.drop_of_length_le (by rw [yn];exact Nat.le_refl _)];rfl
   rw [hend] at hpm;obtain ⟨x,hx⟩:∃x,(opE S)[0]? =some x:=⟨_,List.getElem?_eq_getElem (by rw [zaV];omega)⟩
   have hat:=hRw.atE (S:=kS) hx;by_cases h1:N=1
   ·refine rS [.v,.o (ins:=[((.tmp 95),.slice (some ⟨bo,0,none⟩) N cap),((.const (.int .i64 0)),.int .i64 0)]) (v:=.pointer (some ⟨bo,0+0*2,none⟩)) (fun ρ o w ho hi2=>yo (kd:=.i64) (t:=60) (e:=62) (K:=2) (bytes:=32) kr (x:=(.tmp 95)) (y:=(.const (.int .i64 0))) bo 0 N cap 0 rfl ho hi2.1 hi2.2.1 (by omega) w),.lp 1 (C:=cur) (off:=0*2) (n:=2) (W:=#[.int .u8 ((x.a:Nat):Int),.slice x.p x.n x.c]) hat.1 hat.2,.v,.v,.E (.bool ((N:Int)==1)) (.bool true) (za (beq_iff_eq.2 (by omega))),.s 0,.v] H7 kr fun gs6 w7 H8=>rRr [.cell 2 62,.tmp 3] [0] (.tuple #[knd x.a x.p x.n x.c,.bool true]) (qD w.heap.size w (uz form)) H8 kr ?_;have H9:St w.heap.size w w7 (((gs1 0).b,kdO x.a x.p x.n x.c)::(bo,kR cur)::(ye S++T)):=H8.as kr;rcases S with _ | ⟨e,_ | ⟨e',r⟩⟩
    ·exact hBot.elim
    ·obtain rfl:e.el=x:=by simpa [opE] using hx
     have he:=hS e (List.mem_cons_self ..);have hg:e.g=40:=by
      rcases hBot with ⟨_,h⟩|h
      ·exact h
      ·exact h.elim
     refine ⟨e.row++T,.inl ⟨e.p,e.n,e.c,yM e.M,?_,?_,he.row.rIn (by decide) he.all (by have:=he.le;show e.n≤1000;omega)⟩,?_⟩
     ·rw [hpm];rfl
     ·show Value.tuple #[knd e.g e.p e.n e.c,.bool true]=_;rw [hg]
     ·have H10:=H9.sub (List.Sublist.cons _ (List.sublist_cons_self ..));have e2:ye [e]++T=e.row++T:=by show (e.row++ [])++T=_;rw [List.append_nil]
      rw [e2] at H10;exact H10
    ·exact absurd (hN.symm.trans h1) (by simp)
   ·refine rS [.v,.o (ins:=[((.tmp 95),.slice (some ⟨bo,0,none⟩) N cap),((.const (.int .i64 0)),.int .i64 0)]) (v:=.pointer (some ⟨bo,0+0*2,none⟩)) (fun ρ o w ho hi2=>yo (kd:=.i64) (t:=60) (e:=62) (K:=2) (bytes:=32) kr (x:=(.tmp 95)) (y:=(.const (.int .i64 0))) bo 0 N cap 0 rfl ho hi2.1 hi2.2.1 (by omega) w),.lp 1 (C:=cur) (off:=0*2) (n:=2) (W:=#[.int .u8 ((x.a:Nat):Int),.slice x.p x.n x.c]) hat.1 hat.2,.v,.v,.E (.bool ((N:Int)==1)) (.bool false) (za (beq_eq_false_iff_ne.2 (by omega))),.s 0,.v] H7 kr fun gs6 w7 H8=>rRr [.cell 2 62,.tmp 3] [0] (.tuple #[knd x.a x.p x.n x.c,.bool false]) (qD w.heap.size w (uz form)) H8 kr ?_;refine ⟨[],.inr ⟨?_,_,_,_,_,rfl⟩,H8.sub (List.nil_sublist _)⟩;rw [hpm];rcases S with _ | ⟨e,_ | ⟨e',r⟩⟩
    ·exact hBot.elim
    ·exact absurd hN h1
    ·rfl
def qy (x:ByteArray×Nat):Value:=.tuple #[.string x.1,.int .i64 ((x.2:Nat):Int)]
theorem zie (g:Nat)(p:Option Addr)(n c:Nat)(b:Kf)(m:Nat)(s:ByteArray)(p2:Option Addr)(n2 c2:Nat)(l:Fe)(hm:m<0x10000000000000000)(hs:s.size≤0x800000000000):
 FnP Tryz.prog 41 #[knd g p n c,fld m s p2 n2 c2] (fun w=>SlR kS w.heap.size w p n b∧SlR fS w.heap.size w p2 n2 l) (qy (qT g b (m,s) l)):=by
 refine FnP.intro (c:=zk Tryz.f41) [.tmp 4,.tmp 5] 16 Tryz.func41 kr kr kr fun w hpre=>?_;have H0:=St.start w;obtain ⟨hK,hF⟩:=hpre;refine rS [.b,.b,.v,.v] H0 kr fun gs1 w1 H1=>?_;clear H0;refine zb kr ?_;unfold qT;by_cases hl:zU g b (m,s) l 1001<0
 ·rw [if_pos hl];refine rS [.l 0,.l 1,.cp (pre:=fun w=>SlR kS w.heap.size w p n b∧SlR fS w.heap.size w p2 n2 l) (zdD l g p n c b m s p2 n2 c2 1001) [] (fun w hb hd=>⟨hK.call hb,hF.call hb⟩),.E (.bool (decide (zU g b (m,s) l 1001<0))) (.bool true) (za (decide_eq_true hl))] H1 kr fun gs2 w2 H2=>zi kr kr<|rS [.v,.v] H2 kr fun gs3 w3 H3=>?_;exact rR [.tmp 4,.tmp 5] [] (qy (⟨#[]⟩,1)) H3 kr
 ·rw [if_neg hl];refine rS [.l 0,.l 1,.cp (pre:=fun w=>SlR kS w.heap.size w p n b∧SlR fS w.heap.size w p2 n2 l) (zdD l g p n c b m s p2 n2 c2 1001) [] (fun w hb hd=>⟨hK.call hb,hF.call hb⟩),.E (.bool (decide (zU g b (m,s) l 1001<0))) (.bool false) (za (decide_eq_false hl))] H1 kr fun gs2 w2 H2=>zh kr kr<|zj kr<|wW<|zg [0,1,2,3,4,5,6,7] kr kr<|rp [.l 0,.l 1] H2 kr fun gs3 w3 H3=>wX [2,3,4,5,6,7]<|jV H3 (some 12) 66 #[knd g p n c,fld m s p2 n2 c2] (zh7 l g p n c b m s p2 n2 c2 1001 hm (Int.not_lt.1 hl)) ⟨hK.call H3.below,hF.call H3.below⟩ kr kr ?_;intro v T w4 hok H4;obtain ⟨q1,q2,q3,rfl,hsl⟩:=hok;refine qC H4 (some 13) 65 #[itm (zR g) (zJ g (m,s)) q1 q2 q3] _ _ (zhJ (zR g) (zJ g (m,s)) q1 q2 q3 (zH g b l) (uu hs)) (hsl.at H4 fun e he=>List.mem_append_left _ he) (fun w=>by kernel_rfl) kr ?_;intro w5 H5;rw [hsl.1];have H6:=H5.sub (List.nil_sublist _);refine rp [.v,.v,.v,.v] H6 kr fun gs4 w6 H7=>wX []<|zc ?_;exact rR [.tmp 4,.tmp 5] [] (qy (zM (zR g) (zJ g (m,s)) (zH g b l).len (zH g b l))) H7 kr
def wrV (form:ByteArray)(l:Fe):ByteArray×Nat:=match parseM form with
 | none=>(⟨#[]⟩,1)
 | some k=>qT 40 k (0,⟨#[]⟩) l
theorem zdI (form:ByteArray)(p:Option Addr)(n c:Nat)(l:Fe):FnP Tryz.prog 22 #[.string form,.slice p n c] (fun w=>SlR fS w.heap.size w p n l) (qy (wrV form l)):=by
 refine FnP.intro (c:=zk Tryz.f22) [.tmp 4,.tmp 5] 21 Tryz.func22 kr kr kr fun w hF=>?_;have H0:=St.start w;refine rS [.v,.v] H0 kr fun gs1 w1 H1=>?_;clear H0;refine zg [0,1,2,3,4,5,6,7] kr kr<|rp [.v] H1 kr fun gs2 w2 H2=>wX [1,2,3,4,5,6,7]<|jV H2 (some 10) 40 #[.string form] (zid form) trivial kr kr ?_;intro v T w3 hok H3;unfold wrV;rcases hok with ⟨q1,q2,q3,k,hp,rfl,hk⟩ | ⟨hp,g',q1,q2,q3,rfl⟩
 ·rw [hp];refine rp [.v,.v,.v] H3 kr fun gs3 w4 H4=>wX [5,6,7] ?_;have H5:St w.heap.size w w4 (T++ []):=H4.as kr;refine yu H5 (some 6) 62 (.agg #[.int .u8 0,.slice none 0 0]) kr kr kr ?_;intro b6 w5 H6;refine rp [.s 0,.v] H6 kr fun gs4 w6 H7=>wX []<|zc<|zb kr<|rS [.v,.v] H7 kr fun gs5 w7 H8=>zh kr kr<|zj kr<|wW<|zg [0,1,2,3,4,5,6,7] kr kr<|rp [.l 0,.v,.v] H8 kr fun gs6 w8 H9=>wX [3,4,5,6,7] ?_;have H10:St w.heap.size w w8 ((b6,kdO 40 q1 q2 q3)::(T++ [])):=H9.as kr;refine qC H10 (some 18) 41 #[knd 40 q1 q2 q3,fld 0 ⟨#[]⟩ p n c] _ _ (zie 40 q1 q2 q3 k 0 ⟨#[]⟩ p n c l (by decide) (by decide)) ⟨hk.at H10 fun e he=>List.mem_cons_of_mem _ (List.mem_append_left _ he),hF.call H10.below⟩ (fun w=>by kernel_rfl) kr ?_;intro w9 H11;have H12:=H11.sub (List.nil_sublist _);refine rp [.v,.v,.v,.v] H12 kr fun gs7 w10 H13=>wX []<|zc ?_;exact rR [.tmp 4,.tmp 5] [] (qy (qT 40 k (0,⟨#[]⟩) l)) H13 kr
 ·rw [hp];refine rp [.v,.v,.v] H3 kr fun gs3 w4 H4=>wX [5,6,7] ?_;have H5:St w.heap.size w w4 (T++ []):=H4.as kr;refine yu H5 (some 6) 62 (.agg #[.int .u8 0,.slice none 0 0]) kr kr kr ?_;intro b6 w5 H6;refine rp [.s 0,.v] H6 kr fun gs4 w6 H7=>wX []<|zc<|zb kr<|rS [.v,.v] H7 kr fun gs5 w7 H8=>zi kr kr ?_;have H9:=H8.sub (List.nil_sublist _);refine rS [.v,.v] H9 kr fun gs6 w8 H10=>?_;exact rR [.tmp 4,.tmp 5] [] (qy (⟨#[]⟩,1)) H10 kr
theorem zif (l:Bool)(s:ByteArray)(n:Nat)(k:Fo):(zM l s n k).2=0∨(zM l s n k).1=⟨#[]⟩:=by
 unfold zM;split
 ·exact .inr rfl
 ·split
  ·exact .inr rfl
  ·split
   ·exact .inr rfl
   ·exact .inl rfl
theorem zig {k:Kf}{l:Fe}{s:ByteArray}(h:qT 40 k (0,⟨#[]⟩) l=(s,0)): ¬zU 40 k (0,⟨#[]⟩) l 1001<0∧zM true ⟨#[]⟩ (zH 40 k l).len (zH 40 k l)=(s,0):=by
 unfold qT at h;by_cases hl:zU 40 k (0,⟨#[]⟩) l 1001<0
 ·rw [if_pos hl] at h;exact absurd (congrArg Prod.snd h) Nat.one_ne_zero
 ·rw [if_neg hl] at h;exact ⟨hl,h⟩
theorem zih (k:Kf)(l:Fe):(qT 40 k (0,⟨#[]⟩) l).2=0∨(qT 40 k (0,⟨#[]⟩) l).1=⟨#[]⟩:=by
 unfold qT;split
 ·exact .inr rfl
 ·exact zif ..
theorem zaW {form:ByteArray}{ks:List ByteArray}(hK:xh form ks)(l:Fe):wrV form l=if zX ks l=true∧l.cnt≤1000 then zM true emB (yd l 40 (kfL ks) 0).len (yd l 40 (kfL ks) 0) else (emB,1):=by
 unfold wrV;rw [hK.parse];show qT 40 (kfL ks) (0,⟨#[]⟩) l=_;unfold qT;by_cases h:zX ks l=true∧l.cnt≤1000
 ·rw [if_pos h,if_neg ((zds hK.kd l).2 h)];rfl
 ·rw [if_neg h,if_pos];by_cases hn:zU 40 (kfL ks) (0,⟨#[]⟩) l 1001<0
  ·exact hn
  ·exact absurd ((zds hK.kd l).1 hn) h
theorem qq {ks:List ByteArray}(x:Nat×ByteArray)(l r:Fe)(i:Nat)(hi:i<ks.length):yd (.cons x l r) 40 (kfL ks) i=.cons (zR (by_ ks[i] 0)) (zJ (by_ ks[i] 0) x) (zH (by_ ks[i] 0) (kdB ks[i]) l) (yd r 40 (kfL ks) (i+1)):=by
 rw [uo,zdm,List.getElem?_eq_getElem hi]
abbrev fO (p:Option Addr)(n c:Nat):Obj:=.cells #[wZ,.string ⟨#[]⟩,.slice p n c] 44 (0,0)
theorem zaX (form:ByteArray)(l:Fe):(wrV form l).1.size≤4000:=by
 unfold wrV;split
 ·exact Nat.zero_le _
 ·rename_i k _
  rcases zih k l with h|h
  ·have h2:=zig (s:=(qT 40 k (0,⟨#[]⟩) l).1) (Prod.ext rfl h);have:=zhP (show (zM true ⟨#[]⟩ (zH 40 k l).len (zH 40 k l)).2=0 by rw [h2.2]);have h9:=congrArg ByteArray.size this.1;rw [h2.2,qf,this.2.2.2.2.2.2] at h9;simp only at h9;omega
  ·rw [h];exact Nat.zero_le _
theorem zdJ {A B:Nat}(h:A<B):cm A B<0:=by unfold cm;split<;>(try split)<;>omega
theorem zdK {A B:Nat}(h: ¬A<B): ¬cm A B<0:=by unfold cm;split<;>(try split)<;>omega
end Go.Proofs.YtbpmjppmpgeejaaGreatDoor
namespace Go.Proofs.YtbpmjppmpgeejaaGreatDoor
set_option linter.unusedVariables false
section
variable {p H Q:Nat}
end
open Go Go.RowKit Go.Proofs.Zm
end Go.Proofs.YtbpmjppmpgeejaaGreatDoor
namespace Go.Proofs.YtbpmjppmpgeejaaGreatDoor
open Go Go.RowKit
set_option linter.unusedVariables false
end Go.Proofs.YtbpmjppmpgeejaaGreatDoor
namespace Go.Proofs.YtbpmjppmpgeejaaGreatDoor
open Go.ChangeShapes Go.WideShapes Go.ChangeAt Go.RowKit
set_option linter.unusedVariables false
def bn (A:Nat):List Int:=[w3 A / 72057594037927936%256,w3 A / 281474976710656%256,w3 A / 1099511627776%256,w3 A / 4294967296%256,w3 A / 16777216%256,w3 A / 65536%256,w3 A / 256%256,w3 A%256,w2 A / 72057594037927936%256,w2 A / 281474976710656%256,w2 A / 1099511627776%256,w2 A / 4294967296%256,w2 A / 16777216%256,w2 A / 65536%256,w2 A / 256%256,w2 A%256,w1 A / 72057594037927936%256,w1 A / 281474976710656%256,w1 A / 1099511627776%256,w1 A / 4294967296%256,w1 A / 16777216%256,w1 A / 65536%256,w1 A / 256%256,w1 A%256,w0 A / 72057594037927936%256,w0 A / 281474976710656%256,w0 A / 1099511627776%256,w0 A / 4294967296%256,w0 A / 16777216%256,w0 A / 65536%256,w0 A / 256%256,w0 A%256]
def bs (A:Nat):ByteArray:=strOfNums (bn A)
theorem zii (w:World)(O:Obj)(xs:List Int)(n:Nat)(hn:xs.length=n)(C:Array Value)(hC:C=(xs.map (Value.int .u8)).toArray):
 (convert 76 9 (.slice (some ⟨w.heap.size+1,0,none⟩) n n)).run Tryz.prog ((w.alloc O).alloc (.cells C 138))=.ok (.string (strOfNums xs)) ((w.alloc O).alloc (.cells C 138)):=by
 subst hC;refine run_convert_bytes_arg _ 76 5 Tryz.underlying76 Tryz.underlying5 _ 0 n n xs hn ?_ 9 Tryz.underlying9;intro i hi;have h:=heap_alloc2_new w O (.cells (xs.map (Value.int .u8)).toArray 138);rw [cell_of_row _ _ _ _ _ _ h];have hi':i<xs.length:=by omega
 simp [hi']
theorem zij (A:Nat)(hA:A<big)(w:World):Calls Tryz.prog 76 #[uv A] w fun e w'=>e=.returned (.string (bs A))∧Below w.heap.size w w':=by
 have hc:=fun (O:Obj)=>zii w O (bn A) 32 rfl _ rfl;simp only [bn,List.map_cons,List.map_nil] at hc;unfold uv
 go_enter Tryz.func76,Tryz.ntmps76
 go_wp2
 go_rounds 33
 go_ret
 exact ⟨rfl,by go_grown⟩
theorem jp (A:Nat):(bs A).size=32:=rfl
end Go.Proofs.YtbpmjppmpgeejaaGreatDoor
namespace Go.Proofs.YtbpmjppmpgeejaaGreatDoor
open Go Go.RowKit
set_option linter.unusedVariables false
def inN (a:Nat):Bool:= !decide (a=0)&&decide (a<NR)
def xj (a:Nat):Bool:=decide (NR<a+a)
def xm (a:Nat):Bool:=decide (a<yV 0 a NR)
theorem zdL {a:Nat}(h: ¬a=0):inN a=decide (a<NR):=by unfold inN;rw [decide_eq_false h];rfl
theorem zik:NR%2=1:=by decide+kernel
theorem ko (a:Nat)(ha:a<big):xm a=(inN a&& !xj a):=by
 have hpos:0<NR:=by decide+kernel
 have hodd:=zik;unfold xm inN xj yV;rw [Nat.zero_mod,Nat.zero_add];generalize NR=M at*;have hm:=Nat.mod_lt a hpos;by_cases h0:a=0
 ·subst h0;rw [Nat.zero_mod,Nat.sub_zero,Nat.mod_self];rfl
 ·by_cases h1:a<M
  ·rw [Nat.mod_eq_of_lt h1,Nat.mod_eq_of_lt (by omega),decide_eq_false h0,decide_eq_true h1];rw [Bool.eq_iff_iff];simp only [decide_eq_true_eq,Bool.not_false,Bool.true_and,Bool.not_eq_true',decide_eq_false_iff_not];omega
  ·have h2:=Nat.mod_lt (M-a%M) hpos;rw [decide_eq_false h1,decide_eq_false h0,decide_eq_false (by omega)];rfl
def yI (r s:Nat)(v:Int):Bool:=inN r&&xm s&&(decide (v=0)||decide (v=1))
def sgv (r s:Nat)(v:Int):Value:=.agg #[.int .u64 (w0 r),.int .u64 (w1 r),.int .u64 (w2 r),.int .u64 (w3 r),.int .u64 (w0 s),.int .u64 (w1 s),.int .u64 (w2 s),.int .u64 (w3 s),.int .i64 v]
def sbs (r s:Nat)(v:Int):ByteArray:=(bs r++bs s)++strOfNums [IntKind.u8.wrap v]
theorem uA (a b:ByteArray):(a++b).size=a.size+b.size:=ByteArray.size_append
theorem zil (a:Nat)(ha:a<big)(h:a=0):Fn Tryz.prog 109 #[uv a] (.bool false):=by
 refine Fn.intro (c:=zk Tryz.f109) [.tmp 2] 18 Tryz.func109 kr kr kr fun w=>?_;have H0:=St.start w;refine rS [.b,.v] H0 kr fun gs1 w1 H1=>?_;clear H0;refine rS [.c ue,.v,.v,.v,.a,.s 1,.v] H1 kr fun gs2 w2 H2=>?_;clear H1;refine rS [.l 0,.v,.oe (ins:=[((.tmp 9),uv a),((.tmp 10),.agg #[wZ,wZ,wZ,wZ])]) (v:=.bool (!decide (a=0))) (v':=.bool false) (fun ρ o w ho hi=>xF (x:=(.tmp 9)) (y:=(.tmp 10)) a 0 ha (by unfold big;omega) w ho hi.1 hi.2.1) (by rw [decide_eq_true h]<;>rfl),.v,.n,.n,.n,.n,.v,.v] H2 kr fun gs3 w3 H3=>?_;clear H2;refine zm kr<|wV ?_;refine ⟨[.bool false],(.tmp (.bool false) kr .nil),?_,H3.below⟩;rfl
theorem zim (a:Nat)(ha:a<big)(h: ¬a=0)(h2: ¬a<NR):Fn Tryz.prog 109 #[uv a] (.bool false):=by
 refine Fn.intro (c:=zk Tryz.f109) [.tmp 2] 18 Tryz.func109 kr kr kr fun w=>?_;have H0:=St.start w;refine rS [.b,.v] H0 kr fun gs1 w1 H1=>?_;clear H0;refine rS [.c ue,.v,.v,.v,.a,.s 1,.v] H1 kr fun gs2 w2 H2=>?_;clear H1;refine rS [.l 0,.v,.oe (ins:=[((.tmp 9),uv a),((.tmp 10),.agg #[wZ,wZ,wZ,wZ])]) (v:=.bool (!decide (a=0))) (v':=.bool true) (fun ρ o w ho hi=>xF (x:=(.tmp 9)) (y:=(.tmp 10)) a 0 ha (by unfold big;omega) w ho hi.1 hi.2.1) (by rw [decide_eq_false h]<;>rfl),.v,.l 0,.l 1,.c (kZ a NR ha qE.1),.E (.bool (decide (cm a NR<0))) (.bool false) (za (decide_eq_false (zdK h2))),.v,.v] H2 kr fun gs3 w3 H3=>?_;clear H2;refine zm kr<|wV ?_;refine ⟨[.bool false],(.tmp (.bool false) kr .nil),?_,H3.below⟩;rfl
theorem zin (a:Nat)(ha:a<big)(h: ¬a=0)(h2:a<NR):Fn Tryz.prog 109 #[uv a] (.bool true):=by
 refine Fn.intro (c:=zk Tryz.f109) [.tmp 2] 18 Tryz.func109 kr kr kr fun w=>?_;have H0:=St.start w;refine rS [.b,.v] H0 kr fun gs1 w1 H1=>?_;clear H0;refine rS [.c ue,.v,.v,.v,.a,.s 1,.v] H1 kr fun gs2 w2 H2=>?_;clear H1;refine rS [.l 0,.v,.oe (ins:=[((.tmp 9),uv a),((.tmp 10),.agg #[wZ,wZ,wZ,wZ])]) (v:=.bool (!decide (a=0))) (v':=.bool true) (fun ρ o w ho hi=>xF (x:=(.tmp 9)) (y:=(.tmp 10)) a 0 ha (by unfold big;omega) w ho hi.1 hi.2.1) (by rw [decide_eq_false h]<;>rfl),.v,.l 0,.l 1,.c (kZ a NR ha qE.1),.E (.bool (decide (cm a NR<0))) (.bool true) (za (decide_eq_true (zdJ h2))),.v,.v] H2 kr fun gs3 w3 H3=>?_;clear H2;refine zm kr<|wV ?_;refine ⟨[.bool true],(.tmp (.bool true) kr .nil),?_,H3.below⟩;rfl
theorem zio (a:Nat)(ha:a<big):Fn Tryz.prog 109 #[uv a] (.bool (inN a)):=by
 by_cases h:a=0
 ·have:=zil a ha h;subst h;exact this
 ·rw [zdL h];by_cases h2:a<NR
  ·rw [decide_eq_true h2];exact zin a ha h h2
  ·rw [decide_eq_false h2];exact zim a ha h h2
theorem zdM (a:Nat)(ha:a<big):Fn Tryz.prog 137 #[uv a] (uv (yV 0 a NR)):=by
 refine Fn.intro (c:=zk Tryz.f137) [.cell 2 48] 12 Tryz.func137 kr kr kr fun w=>?_;have H0:=St.start w;refine rS [.b,.a] H0 kr fun gs1 w1 H1=>?_;clear H0;refine rS [.v,.l 0,.c (zgC 0 a (by unfold big;omega) ha),.v,.v,.v,.a,.s 2,.v] H1 kr fun gs2 w2 H2=>?_;clear H1;refine rS [.l 2,.s 1] H2 kr fun gs3 w3 H3=>?_;clear H2;refine zm kr<|wV ?_;refine ⟨[uv (yV 0 a NR)],(.agg (b:=(gs1 1).b) (Value.cells (uv (yV 0 a NR))) 48 (0,0) kr (H3.get 1 kr) kr .nil),?_,H3.below⟩;rfl
theorem zip (a:Nat)(ha:a<big)(h:a<yV 0 a NR):Fn Tryz.prog 110 #[uv a] (.bool true):=by
 refine Fn.intro (c:=zk Tryz.f110) [.tmp 2] 8 Tryz.func110 kr kr kr fun w=>?_;have H0:=St.start w;refine rS [.b,.v] H0 kr fun gs1 w1 H1=>?_;clear H0;refine dS [.l 0,.l 0,.c (zdM a ha),.c (kZ a (yV 0 a NR) ha (zcy qE)),.E (.bool (decide (cm a (yV 0 a NR)<0))) (.bool true) (za (decide_eq_true (zdJ h))),.v] H1 kr fun w2 H2=>?_;clear H1;refine zm kr<|wV ?_;refine ⟨[.bool true],(.tmp (.bool true) kr .nil),?_,H2.below⟩;rfl
theorem ziq (a:Nat)(ha:a<big)(h: ¬a<yV 0 a NR):Fn Tryz.prog 110 #[uv a] (.bool false):=by
 refine Fn.intro (c:=zk Tryz.f110) [.tmp 2] 8 Tryz.func110 kr kr kr fun w=>?_;have H0:=St.start w;refine rS [.b,.v] H0 kr fun gs1 w1 H1=>?_;clear H0;refine dS [.l 0,.l 0,.c (zdM a ha),.c (kZ a (yV 0 a NR) ha (zcy qE)),.E (.bool (decide (cm a (yV 0 a NR)<0))) (.bool false) (za (decide_eq_false (zdK h))),.v] H1 kr fun w2 H2=>?_;clear H1;refine zm kr<|wV ?_;refine ⟨[.bool false],(.tmp (.bool false) kr .nil),?_,H2.below⟩;rfl
theorem zir (a:Nat)(ha:a<big):Fn Tryz.prog 110 #[uv a] (.bool (xm a)):=by
 unfold xm;by_cases h:a<yV 0 a NR
 ·rw [decide_eq_true h];exact zip a ha h
 ·rw [decide_eq_false h];exact ziq a ha h
theorem zdN (r s:Nat)(hr:r<big)(hs:s<big)(v:Int):Fn Tryz.prog 75 #[sgv r s (v)] (.bool (yI r s v)):=by
 refine Fn.intro (c:=zk Tryz.f75) [.tmp 2] 21 Tryz.func75 kr kr kr fun w=>?_;have H0:=St.start w;refine rS [.b,.v] H0 kr fun gs1 w1 H1=>?_;clear H0;refine zg [0,1,2,3,4,5,6,7,8,9,10,11,12,13,14,15,16,17,18] kr kr<|rp [.v,.l 0,.c (zio r hr)] H1 kr fun gs2 w2 H2=>wX [3,4,5,6,7,8,9,10,11,12,13,14,15,16,17,18] ?_;clear H1;refine Or.elim (Bool.eq_false_or_eq_true (inN r)).symm (fun hb1=>?_) (fun hb1=>?_)
 ·refine zP 5 (v:=.bool (inN r)) (v':=.bool false) (za hb1) kr<|rp [.v,.n,.n,.n,.v,.v,.n,.n,.n,.n] H2 kr fun gs3 w3 H3=>wX [13,14,15,16,17,18] ?_;clear H2;refine jh (some 16) kr kr<|jh (some 17) kr kr<|jh (some 18) kr kr<|rp [.n,.v,.v] H3 kr fun gs4 w4 H4=>wX [] ?_;clear H3;refine zc<|zm kr<|wV ?_;refine ⟨[.bool false],(.tmp (.bool false) kr .nil),?_,H4.below⟩;exact congrArg Value.bool (by unfold yI;simp [hb1]<;>omega)
 ·refine zP 5 (v:=.bool (inN r)) (v':=.bool true) (za hb1) kr<|rp [.v,.v,.l 0,.c (zir s hs)] H2 kr fun gs5 w5 H5=>wX [7,8,9,10,11,12,13,14,15,16,17,18] ?_;clear H2;refine Or.elim (Bool.eq_false_or_eq_true (xm s)).symm (fun hb2=>?_) (fun hb2=>?_)
  ·refine zP 9 (v:=.bool (xm s)) (v':=.bool false) (za hb2) kr<|rp [.v,.v,.n,.n,.n,.n] H5 kr fun gs6 w6 H6=>wX [13,14,15,16,17,18] ?_;clear H5;refine jh (some 16) kr kr<|jh (some 17) kr kr<|jh (some 18) kr kr<|rp [.n,.v,.v] H6 kr fun gs7 w7 H7=>wX [] ?_;clear H6;refine zc<|zm kr<|wV ?_;refine ⟨[.bool false],(.tmp (.bool false) kr .nil),?_,H7.below⟩;exact congrArg Value.bool (by unfold yI;simp [hb1,hb2]<;>omega)
  ·refine zP 9 (v:=.bool (xm s)) (v':=.bool true) (za hb2) kr<|rp [.v,.v,.v,.l 0] H5 kr fun gs8 w8 H8=>wX [11,12,13,14,15,16,17,18] ?_;clear H5;by_cases hc1:(v:Int)=0
   ·refine rp [.E (.bool (v==0)) (.bool true) (za (beq_iff_eq.2 (by omega))),.v,.n,.n,.n,.v,.v,.v] H8 kr fun gs9 w9 H9=>wX [] ?_;clear H8;refine zc<|zm kr<|wV ?_;refine ⟨[.bool true],(.tmp (.bool true) kr .nil),?_,H9.below⟩;exact congrArg Value.bool (by unfold yI;simp [hb1,hb2]<;>omega)
   ·refine rp [.E (.bool (v==0)) (.bool false) (za (beq_eq_false_iff_ne.2 (by omega))),.v,.v,.l 0] H8 kr fun gs10 w10 H10=>wX [15,16,17,18] ?_;clear H8;by_cases hc2:(v:Int)=1
    ·refine rp [.E (.bool (v==1)) (.bool true) (za (beq_iff_eq.2 (by omega))),.v,.v,.v] H10 kr fun gs11 w11 H11=>wX [] ?_;clear H10;refine zc<|zm kr<|wV ?_;refine ⟨[.bool true],(.tmp (.bool true) kr .nil),?_,H11.below⟩;exact congrArg Value.bool (by unfold yI;simp [hb1,hb2]<;>omega)
    ·refine rp [.E (.bool (v==1)) (.bool false) (za (beq_eq_false_iff_ne.2 (by omega))),.v,.v,.v] H10 kr fun gs12 w12 H12=>wX [] ?_;clear H10;refine zc<|zm kr<|wV ?_;refine ⟨[.bool false],(.tmp (.bool false) kr .nil),?_,H12.below⟩;exact congrArg Value.bool (by unfold yI;simp [hb1,hb2]<;>omega)
theorem zdO (a:Nat)(ha:a<big):Fn Tryz.prog 49 #[uv a] (.bool (inN a)):=by
 refine Fn.intro (c:=zk Tryz.f49) [.tmp 2] 15 Tryz.func49 kr kr kr fun w=>?_;have H0:=St.start w;refine rS [.b,.v] H0 kr fun gs1 w1 H1=>?_;clear H0;refine zg [0,1,2] kr kr<|rp [.c zcK] H1 kr fun gs2 w2 H2=>wX [1,2] ?_;clear H1;refine xA H2 (some 5) 77 #[uv NR] (fun _=>True) 3 1 (fun curZ capZ nZ lZ=>(nZ=List.length lZ∧Rw 1 curZ capZ nZ (zW lZ)∧Ok lZ∧(lZ=dgs NR 16∧vl lZ=NR∧List.length lZ=16))) (vc NR qE.1) trivial kr kr ?_;intro b_1 cap_2 n_3 cur_4 l_5 w3 H3 hs_6;clear H2;obtain ⟨hs_6n,hs_6r,hs_6o,hs_6s⟩:=hs_6;obtain ⟨hs_6a,hs_6b,hs_6c⟩:=hs_6s;refine rp [.v] H3 kr fun gs4 w4 H4=>wX [] ?_;clear H3;refine zc<|zg [0,1,2,3,4,5,6,7,8,9] kr kr<|rp [.l 1,.v] H4 kr fun gs5 w5 H5=>wX [2,3,4,5,6,7,8,9] ?_;clear H4;by_cases he1:(a:Nat)=0
 ·refine rp [.oe (ins:=[((.tmp 6),uv a),((.tmp 7),.agg #[wZ,wZ,wZ,wZ])]) (v:=.bool (!decide (a=0))) (v':=.bool false) (fun ρ o w ho hi=>xF (x:=(.tmp 6)) (y:=(.tmp 7)) a 0 ha (by unfold big;omega) w ho hi.1 hi.2.1) (by rw [decide_eq_true he1]<;>rfl),.v,.n,.n,.n,.n,.v,.v] H5 kr fun gs6 w6 H6=>wX [] ?_;clear H5;refine zc<|zm kr<|wV ?_;refine ⟨[.bool false],(.tmp (.bool false) kr .nil),?_,H6.below⟩;exact congrArg Value.bool (show false=inN a by rw [he1];rfl)
 ·refine rp [.oe (ins:=[((.tmp 6),uv a),((.tmp 7),.agg #[wZ,wZ,wZ,wZ])]) (v:=.bool (!decide (a=0))) (v':=.bool true) (fun ρ o w ho hi=>xF (x:=(.tmp 6)) (y:=(.tmp 7)) a 0 ha (by unfold big;omega) w ho hi.1 hi.2.1) (by rw [decide_eq_false he1]<;>rfl),.v,.l 1] H5 kr fun gs7 w7 H7=>wX [5,6,7,8,9] ?_;clear H5;refine xA H7 (some 11) 77 #[uv a] (fun _=>True) 3 1 (fun curZ capZ nZ lZ=>(nZ=List.length lZ∧Rw 1 curZ capZ nZ (zW lZ)∧Ok lZ∧(lZ=dgs a 16∧vl lZ=a∧List.length lZ=16))) (vc a ha) trivial kr kr ?_;intro b_7 cap_8 n_9 cur_10 l_11 w8 H8 hs_12;clear H7;obtain ⟨hs_12n,hs_12r,hs_12o,hs_12s⟩:=hs_12;obtain ⟨hs_12a,hs_12b,hs_12c⟩:=hs_12s;refine rp [.v,.cp (pre:=fun w=>w.heap[b_7]? =some (.cells cur_10 3 (0,0))∧w.heap[b_1]? =some (.cells cur_4 3 (0,0))) (zcJ l_11 l_5 b_7 n_9 cap_8 b_1 n_3 cap_2 cur_10 cur_4 hs_12n hs_6n hs_12r hs_6r hs_12o hs_6o (by omega) (by omega)) [(0,(b_7,Obj.cells cur_10 3 (0,0))),(1,(b_1,Obj.cells cur_4 3 (0,0)))] (fun w hb hd=>⟨hd.1,hd.2.1⟩),.v,.v] H8 kr fun gs9 w9 H9=>wX [] ?_;clear H8;refine zc<|zm kr<|wV ?_;refine ⟨[.bool (ls l_11 l_5)],(.tmp (.bool (ls l_11 l_5)) kr .nil),?_,H9.below⟩;exact congrArg Value.bool (show ls l_11 l_5=inN a by rw [zdL he1];unfold ls;rw [hs_12b,hs_6b])
theorem zis (a:Nat)(ha:a<big):Fn Tryz.prog 50 #[uv a] (.bool (xj a)):=by
 refine Fn.intro (c:=zk Tryz.f50) [.tmp 2] 12 Tryz.func50 kr kr kr fun w=>?_;have H0:=St.start w;refine rS [.b,.v] H0 kr fun gs1 w1 H1=>?_;clear H0;refine zg [0,1,2] kr kr<|rp [.l 0] H1 kr fun gs2 w2 H2=>wX [1,2] ?_;clear H1;refine xA H2 (some 5) 77 #[uv a] (fun _=>True) 3 1 (fun curZ capZ nZ lZ=>(nZ=List.length lZ∧Rw 1 curZ capZ nZ (zW lZ)∧Ok lZ∧(lZ=dgs a 16∧vl lZ=a∧List.length lZ=16))) (vc a ha) trivial kr kr ?_;intro b_1 cap_2 n_3 cur_4 l_5 w3 H3 hs_6;clear H2;obtain ⟨hs_6n,hs_6r,hs_6o,hs_6s⟩:=hs_6;obtain ⟨hs_6a,hs_6b,hs_6c⟩:=hs_6s;refine rp [.v] H3 kr fun gs4 w4 H4=>wX [] ?_;clear H3;refine zc<|zg [0,1,2,3,4,5,6] kr kr<|rp [.c zcK] H4 kr fun gs5 w5 H5=>wX [1,2,3,4,5,6] ?_;clear H4;refine xA H5 (some 7) 77 #[uv NR] (fun _=>True) 3 1 (fun curZ capZ nZ lZ=>(nZ=List.length lZ∧Rw 1 curZ capZ nZ (zW lZ)∧Ok lZ∧(lZ=dgs NR 16∧vl lZ=NR∧List.length lZ=16))) (vc NR qE.1) trivial kr kr ?_;intro b_7 cap_8 n_9 cur_10 l_11 w6 H6 hs_12;clear H5;obtain ⟨hs_12n,hs_12r,hs_12o,hs_12s⟩:=hs_12;obtain ⟨hs_12a,hs_12b,hs_12c⟩:=hs_12s;refine rp [.v,.v] H6 kr fun gs7 w7 H7=>wX [4,5,6] ?_;clear H6;refine xA H7 (some 10) 80 #[.slice (some ⟨b_1,0,none⟩) n_3 cap_2,.slice (some ⟨b_1,0,none⟩) n_3 cap_2] (fun w=>w.heap[b_1]? =some (.cells cur_4 3 (0,0))∧w.heap[b_1]? =some (.cells cur_4 3 (0,0))) 3 1 (fun curZ capZ nZ lZ=>(nZ=List.length lZ∧Rw 1 curZ capZ nZ (zW lZ)∧Ok lZ∧(vl lZ=vl l_5+vl l_5∧List.length lZ≤max (List.length l_5) (List.length l_5)+1∧max (List.length l_5) (List.length l_5)≤List.length lZ))) (zgV l_5 l_5 b_1 n_3 cap_2 b_1 n_3 cap_2 cur_4 cur_4 hs_6n hs_6n hs_6r hs_6r hs_6o hs_6o (by omega) (by omega)) (⟨(H7.get 1 kr),(H7.get 1 kr)⟩) kr kr ?_;intro b_13 cap_14 n_15 cur_16 l_17 w8 H8 hs_18;clear H7;obtain ⟨hs_18n,hs_18r,hs_18o,hs_18s⟩:=hs_18;refine rp [.cp (pre:=fun w=>w.heap[b_7]? =some (.cells cur_10 3 (0,0))∧w.heap[b_13]? =some (.cells cur_16 3 (0,0))) (zcJ l_11 l_17 b_7 n_9 cap_8 b_13 n_15 cap_14 cur_10 cur_16 hs_12n hs_18n hs_12r hs_18r hs_12o hs_18o (by omega) (by omega)) [(1,(b_7,Obj.cells cur_10 3 (0,0))),(0,(b_13,Obj.cells cur_16 3 (0,0)))] (fun w hb hd=>⟨hd.1,hd.2.1⟩),.v] H8 kr fun gs9 w9 H9=>wX [] ?_;clear H8;refine zc<|zm kr<|wV ?_;refine ⟨[.bool (ls l_11 l_17)],(.tmp (.bool (ls l_11 l_17)) kr .nil),?_,H9.below⟩;exact congrArg Value.bool (show ls l_11 l_17=xj a by unfold ls xj;rw [hs_12b,hs_18s.1,hs_6b])
theorem zit (r s:Nat)(hr:r<big)(hs:s<big)(v:Int):Fn Tryz.prog 30 #[sgv r s (v)] (.bool (yI r s v)):=by
 refine Fn.intro (c:=zk Tryz.f30) [.tmp 2] 27 Tryz.func30 kr kr kr fun w=>?_;have H0:=St.start w;refine rS [.b,.v] H0 kr fun gs1 w1 H1=>?_;clear H0;refine zg [0,1,2,3,4,5,6,7,8,9,10,11,12,13,14,15,16,17,18,19,20,21,22,23,24] kr kr<|rp [.v,.l 0,.c (zdO r hr)] H1 kr fun gs2 w2 H2=>wX [3,4,5,6,7,8,9,10,11,12,13,14,15,16,17,18,19,20,21,22,23,24] ?_;clear H1;refine Or.elim (Bool.eq_false_or_eq_true (inN r)).symm (fun hb1=>?_) (fun hb1=>?_)
 ·refine zP 5 (v:=.bool (inN r)) (v':=.bool false) (za hb1) kr<|rp [.v,.n,.n,.n,.v,.v,.n,.n,.n,.n,.v,.v,.n,.n,.n,.v,.v,.n,.n,.n,.v,.v] H2 kr fun gs3 w3 H3=>wX [] ?_;clear H2;refine zc<|zm kr<|wV ?_;refine ⟨[.bool false],(.tmp (.bool false) kr .nil),?_,H3.below⟩;exact congrArg Value.bool (by unfold yI;rw [ko s hs];simp [hb1]<;>omega)
 ·refine zP 5 (v:=.bool (inN r)) (v':=.bool true) (za hb1) kr<|rp [.v,.v,.l 0,.c (zdO s hs)] H2 kr fun gs4 w4 H4=>wX [7,8,9,10,11,12,13,14,15,16,17,18,19,20,21,22,23,24] ?_;clear H2;refine Or.elim (Bool.eq_false_or_eq_true (inN s)).symm (fun hb2=>?_) (fun hb2=>?_)
  ·refine zP 9 (v:=.bool (inN s)) (v':=.bool false) (za hb2) kr<|rp [.v,.v,.n,.n,.n,.n,.v,.v,.n,.n,.n,.v,.v,.n,.n,.n,.v,.v] H4 kr fun gs5 w5 H5=>wX [] ?_;clear H4;refine zc<|zm kr<|wV ?_;refine ⟨[.bool false],(.tmp (.bool false) kr .nil),?_,H5.below⟩;exact congrArg Value.bool (by unfold yI;rw [ko s hs];simp [hb1,hb2]<;>omega)
  ·refine zP 9 (v:=.bool (inN s)) (v':=.bool true) (za hb2) kr<|rp [.v,.v,.v,.l 0,.c (zis s hs)] H4 kr fun gs6 w6 H6=>wX [12,13,14,15,16,17,18,19,20,21,22,23,24] ?_;clear H4;refine Or.elim (Bool.eq_false_or_eq_true (xj s)).symm (fun hb3=>?_) (fun hb3=>?_)
   ·refine zP 14 (v:=.bool (xj s)) (v':=.bool false) (za hb3) kr<|rp [.v,.v,.v,.v,.l 0] H6 kr fun gs7 w7 H7=>wX [17,18,19,20,21,22,23,24] ?_;clear H6;by_cases hc1:(v:Int)≥0
    ·refine rp [.E (.bool (decide (0≤v))) (.bool true) (za (decide_eq_true (by omega))),.v,.v,.v,.l 0] H7 kr fun gs8 w8 H8=>wX [22,23,24] ?_;clear H7;by_cases hc2:(v:Int)≤1
     ·refine rp [.E (.bool (decide (v≤1))) (.bool true) (za (decide_eq_true (by omega))),.v,.v] H8 kr fun gs9 w9 H9=>wX [] ?_;clear H8;refine zc<|zm kr<|wV ?_;refine ⟨[.bool true],(.tmp (.bool true) kr .nil),?_,H9.below⟩;exact congrArg Value.bool (by unfold yI;rw [ko s hs];simp [hb1,hb2,hb3]<;>omega)
     ·refine rp [.E (.bool (decide (v≤1))) (.bool false) (za (decide_eq_false (by omega))),.v,.v] H8 kr fun gs10 w10 H10=>wX [] ?_;clear H8;refine zc<|zm kr<|wV ?_;refine ⟨[.bool false],(.tmp (.bool false) kr .nil),?_,H10.below⟩;exact congrArg Value.bool (by unfold yI;rw [ko s hs];simp [hb1,hb2,hb3]<;>omega)
    ·refine rp [.E (.bool (decide (0≤v))) (.bool false) (za (decide_eq_false (by omega))),.v,.v,.n,.n,.n,.v,.v] H7 kr fun gs11 w11 H11=>wX [] ?_;clear H7;refine zc<|zm kr<|wV ?_;refine ⟨[.bool false],(.tmp (.bool false) kr .nil),?_,H11.below⟩;exact congrArg Value.bool (by unfold yI;rw [ko s hs];simp [hb1,hb2,hb3]<;>omega)
   ·refine zP 14 (v:=.bool (xj s)) (v':=.bool true) (za hb3) kr<|rp [.v,.v,.v,.n,.n,.n,.v,.v,.n,.n,.n,.v,.v] H6 kr fun gs12 w12 H12=>wX [] ?_;clear H6;refine zc<|zm kr<|wV ?_;refine ⟨[.bool false],(.tmp (.bool false) kr .nil),?_,H12.below⟩;exact congrArg Value.bool (by unfold yI;rw [ko s hs];simp [hb1,hb2,hb3]<;>omega)
end Go.Proofs.YtbpmjppmpgeejaaGreatDoor
namespace Go.Proofs.Kec
set_option linter.unusedVariables false
set_option maxRecDepth 10000
abbrev B64:=BitVec 64
def nth (s:List B64)(k:Nat):B64:=s.getD k 0
def rl (x:B64)(n:Nat):B64:=x.rotateLeft n
def xK (v w x:B64):B64:=v ^^^ (x &&& ~~~ w)
def cC (s:List B64)(x:Nat):B64:=nth s x ^^^ nth s (x+5) ^^^ nth s (x+10) ^^^ nth s (x+15) ^^^ nth s (x+20)
def dD (c:Nat→B64)(x:Nat):B64:=c ((x+4)%5) ^^^ rl (c ((x+1)%5)) 1
def zdP:List Nat:=[0,6,12,18,24,3,9,10,16,22,1,7,13,19,20,4,5,11,17,23,2,8,14,15,21]
def zdQ:List Nat:=[0,44,43,21,14,28,20,3,45,61,1,6,25,8,18,27,36,10,15,56,62,55,39,41,2]
def th (s:List B64)(i:Nat):B64:=nth s i ^^^ dD (cC s) (i%5)
def pI (s:List B64)(k:Nat):B64:=rl (th s (zdP.getD k 0)) (zdQ.getD k 0)
def xI (b:Nat→B64)(k:Nat):B64:=xK (b k) (b (k / 5*5+(k%5+1)%5)) (b (k / 5*5+(k%5+2)%5))
def rnd (s:List B64):List B64:=(List.range 25).map (xI (pI s))
theorem ziu (a:B64)(n i:Nat)(hi:i<64):(rl a n).getLsbD i=a.getLsbD ((i+64-n%64)%64):=by
 unfold rl;rw [BitVec.getLsbD_rotateLeft];by_cases h:i<n%64
 ·rw [decide_eq_true h,cond_true];congr 1;omega
 ·rw [decide_eq_false h,cond_false,decide_eq_true hi,Bool.true_and];congr 1;omega
theorem ziv (s:List B64):(rnd s).length=25:=by unfold rnd;simp
def uB (m:B64)(s:List B64):List B64:=(nth s 0 ^^^ m)::s.drop 1
def rm (s:List B64)(m:B64):List B64:=uB m (rnd s)
def marks:List B64:=[0x0000000000000001,0x0000000000008082,0x800000000000808A,0x8000000080008000,
 0x000000000000808B,0x0000000080000001,0x8000000080008081,0x8000000000008009,
 0x000000000000008A,0x0000000000000088,0x0000000080008009,0x000000008000000A,
 0x000000008000808B,0x800000000000008B,0x8000000000008089,0x8000000000008003,
 0x8000000000008002,0x8000000000000080,0x000000000000800A,0x800000008000000A,
 0x8000000080008081,0x8000000000008080,0x0000000080000001,0x8000000080008008]
def mix (s:List B64):List B64:=marks.foldl rm s
theorem ziw (m:B64){s:List B64}(h:s.length=25):(uB m s).length=25:=by unfold uB;simp [h]
theorem zix (s:List B64)(m:B64):(rm s m).length=25:=ziw m (ziv s)
theorem zdR: ∀(ms:List B64) {s:List B64},s.length=25→(ms.foldl rm s).length=25
 | [],_,h=>h
 | m::ms,s,_=>zdR ms (zix s m)
theorem zaY {s:List B64}(h:s.length=25):(mix s).length=25:=zdR _ h
def xo (b:UInt8):B64:=BitVec.ofNat 64 b.toNat
def yJ (b:B64)(i:Nat):B64:=b <<< (i%8*8)
def lay (s:List B64)(n:Nat)(b:B64):List B64:=s.set (n / 8) (nth s (n / 8) ^^^ yJ b n)
def yQ (st:List B64×Nat)(b:UInt8):List B64×Nat:=
 if st.2+1=136 then (mix (lay st.1 st.2 (xo b)),0) else (lay st.1 st.2 (xo b),st.2+1)
def zO (st:List B64×Nat)(l:List UInt8):List B64×Nat:=l.foldl yQ st
def jq (st:List B64×Nat):List B64:=lay (lay st.1 st.2 1) 135 0x80
def qJ (s:List B64):List UInt8:=(List.range 32).map fun i=>UInt8.ofNat ((nth s (i / 8)).toNat / 2^(i%8*8))
def yy:List B64:=List.replicate 25 0
def sumB (l:List UInt8):List UInt8:=qJ (mix (jq (zO (yy,0) l)))
theorem qK {s:List B64}(n:Nat)(b:B64)(h:s.length=25):(lay s n b).length=25:=by unfold lay;simp [h]
structure xL (st:List B64×Nat):Prop where
 len:st.1.length=25
 lt:st.2<136
theorem ziy {st:List B64×Nat}(b:UInt8)(h:xL st):xL (yQ st b):=by
 unfold yQ;split
 ·exact ⟨zaY (qK _ _ h.len),(by decide:0<136)⟩
 ·exact ⟨qK _ _ h.len,by have:=h.lt;simp only;omega⟩
theorem zaZ: ∀(l:List UInt8) {st:List B64×Nat},xL st→xL (zO st l)
 | [],_,h=>h
 | b::l,st,h=>zaZ l (ziy b h)
theorem uC (st:List B64×Nat)(l m:List UInt8):zO st (l++m)=zO (zO st l) m:=by unfold zO;exact List.foldl_append
theorem uD (st:List B64×Nat)(l:List UInt8)(b:UInt8):zO st (l++ [b])=yQ (zO st l) b:=by rw [uC];rfl
theorem zero_ok:xL (yy,0):=⟨by decide,by decide⟩
theorem ziz (s:List B64):(qJ s).length=32:=by unfold qJ;simp
theorem sumB_len (l:List UInt8):(sumB l).length=32:=ziz _
end Go.Proofs.Kec
namespace Go.Proofs.YtbpmjppmpgeejaaGreatDoor.Ke
open Go Go.RowKit Go.Proofs.Kec
set_option linter.unusedVariables false
theorem zdS (x:BitVec 64)(n:Nat)(h:n<64):x <<< n ||| x >>> (64-n)=rl x n:=by
 unfold rl BitVec.rotateLeft BitVec.rotateLeftAux;rw [Nat.mod_eq_of_lt h]
theorem ziA (n:Nat)(h:n<64):Value.int .u64 (Go.bits .and .u64 (n:Int) 63)=.int .u64 (n:Int):=by
 rw [show (63:Int)=((63:Nat):Int) from rfl,u64_and_nat n 63 (by omega) (by omega),show (63:Nat)=2^6-1 from rfl,Nat.and_two_pow_sub_one_eq_mod,Nat.mod_eq_of_lt (by omega)]
theorem ziB (x:BitVec 64)(n:Nat)(hn:n<64):Fn Tryz.prog 146 #[.int .u64 (BitVec.toNat x:Int),.int .i64 (n:Int)] (.int .u64 (BitVec.toNat (rl x n):Int)):=by
 refine Fn.intro (c:=zk Tryz.f146) [.tmp 4] 17 Tryz.func146 kr kr kr fun w=>?_;have H0:=St.start w;refine rS [.v] H0 kr fun gs1 w1 H1=>?_;clear H0;refine rS [.v,.E (.int .u64 (IntKind.u64.wrap ((n:Int)))) (.int .u64 (n:Int)) (zd (jT (a:=n) (by omega))),.E (.int .u64 (Go.bits .and .u64 (n:Int) 63)) (.int .u64 (n:Int)) (ziA n hn),.v] H1 kr fun gs2 w2 H2=>?_;clear H1;refine rS [.v,.v,.E (.int .u64 (IntKind.u64.wrap (((BitVec.toNat x:Int))*2^(min n 64)))) (.int .u64 (BitVec.toNat (x <<< n):Int)) (vT x n),.v,.v,.E (.int .u64 (IntKind.u64.wrap (64-(n:Int)))) (.int .u64 ((64-n:Nat):Int)) (zd (zb6 (a:=64) (b:=n) (by omega))),.E (.int .u64 (Int.fdiv ((BitVec.toNat x:Int)) (2^(min (64-n) 64)))) (.int .u64 (BitVec.toNat (x >>> (64-n)):Int)) (vU x (64-n)),.E (.int .u64 (Go.bits .or .u64 ((BitVec.toNat (x <<< n):Int)) ((BitVec.toNat (x >>> (64-n)):Int)))) (.int .u64 (BitVec.toNat ((x <<< n) ||| (x >>> (64-n))):Int)) (zal (x <<< n) (x >>> (64-n))),.v] H2 kr fun gs3 w3 H3=>?_;clear H2;refine zm kr<|wV ?_;refine ⟨[.int .u64 (BitVec.toNat ((x <<< n) ||| (x >>> (64-n))):Int)],(.tmp (.int .u64 (BitVec.toNat ((x <<< n) ||| (x >>> (64-n))):Int)) kr .nil),?_,H3.below⟩;rw [←zdS x n hn];rfl
theorem yb (x:BitVec 64)(n:Nat)(hn:n<64):Fn Tryz.prog 133 #[.int .u64 (BitVec.toNat x:Int),.int .i64 (n:Int)] (.int .u64 (BitVec.toNat (rl x n):Int)):=by
 refine Fn.intro (c:=zk Tryz.f133) [.tmp 4] 8 Tryz.func133 kr kr kr fun w=>?_;have H0:=St.start w;refine rS [.v] H0 kr fun gs1 w1 H1=>?_;clear H0;refine rS [.v,.v,.c (ziB x n (by omega)),.v] H1 kr fun gs2 w2 H2=>?_;clear H1;refine zm kr<|wV ?_;refine ⟨[.int .u64 (BitVec.toNat (rl x n):Int)],(.tmp (.int .u64 (BitVec.toNat (rl x n):Int)) kr .nil),?_,H2.below⟩;rfl
theorem vp (xa xb xc xd xe:BitVec 64):Fn Tryz.prog 134 #[.int .u64 (BitVec.toNat xa:Int),.int .u64 (BitVec.toNat xb:Int),.int .u64 (BitVec.toNat xc:Int),.int .u64 (BitVec.toNat xd:Int),.int .u64 (BitVec.toNat xe:Int)] (.tuple #[.int .u64 (BitVec.toNat (xK xa xb xc):Int),.int .u64 (BitVec.toNat (xK xb xc xd):Int),.int .u64 (BitVec.toNat (xK xc xd xe):Int),.int .u64 (BitVec.toNat (xK xd xe xa):Int),.int .u64 (BitVec.toNat (xK xe xa xb):Int)]):=by
 refine Fn.intro (c:=zk Tryz.f134) [.tmp 10,.tmp 11,.tmp 12,.tmp 13,.tmp 14] 40 Tryz.func134 kr kr kr fun w=>?_;have H0:=St.start w;refine rS [.v,.v,.v,.v,.v] H0 kr fun gs1 w1 H1=>?_;clear H0;refine rS [.v,.v,.v,.E (.int .u64 (Go.bits .andNot .u64 ((BitVec.toNat xc:Int)) ((BitVec.toNat xb:Int)))) (.int .u64 (BitVec.toNat (xc &&& ~~~xb):Int)) (kQ xc xb),.E (.int .u64 (Go.bits .xor .u64 ((BitVec.toNat xa:Int)) ((BitVec.toNat (xc &&& ~~~xb):Int)))) (.int .u64 (BitVec.toNat (xa ^^^ (xc &&& ~~~xb)):Int)) (zw xa (xc &&& ~~~xb)),.v,.v,.v,.E (.int .u64 (Go.bits .andNot .u64 ((BitVec.toNat xd:Int)) ((BitVec.toNat xc:Int)))) (.int .u64 (BitVec.toNat (xd &&& ~~~xc):Int)) (kQ xd xc),.E (.int .u64 (Go.bits .xor .u64 ((BitVec.toNat xb:Int)) ((BitVec.toNat (xd &&& ~~~xc):Int)))) (.int .u64 (BitVec.toNat (xb ^^^ (xd &&& ~~~xc)):Int)) (zw xb (xd &&& ~~~xc)),.v,.v,.v,.E (.int .u64 (Go.bits .andNot .u64 ((BitVec.toNat xe:Int)) ((BitVec.toNat xd:Int)))) (.int .u64 (BitVec.toNat (xe &&& ~~~xd):Int)) (kQ xe xd),.E (.int .u64 (Go.bits .xor .u64 ((BitVec.toNat xc:Int)) ((BitVec.toNat (xe &&& ~~~xd):Int)))) (.int .u64 (BitVec.toNat (xc ^^^ (xe &&& ~~~xd)):Int)) (zw xc (xe &&& ~~~xd)),.v,.v,.v,.E (.int .u64 (Go.bits .andNot .u64 ((BitVec.toNat xa:Int)) ((BitVec.toNat xe:Int)))) (.int .u64 (BitVec.toNat (xa &&& ~~~xe):Int)) (kQ xa xe),.E (.int .u64 (Go.bits .xor .u64 ((BitVec.toNat xd:Int)) ((BitVec.toNat (xa &&& ~~~xe):Int)))) (.int .u64 (BitVec.toNat (xd ^^^ (xa &&& ~~~xe)):Int)) (zw xd (xa &&& ~~~xe)),.v,.v,.v,.E (.int .u64 (Go.bits .andNot .u64 ((BitVec.toNat xb:Int)) ((BitVec.toNat xa:Int)))) (.int .u64 (BitVec.toNat (xb &&& ~~~xa):Int)) (kQ xb xa),.E (.int .u64 (Go.bits .xor .u64 ((BitVec.toNat xe:Int)) ((BitVec.toNat (xb &&& ~~~xa):Int)))) (.int .u64 (BitVec.toNat (xe ^^^ (xb &&& ~~~xa)):Int)) (zw xe (xb &&& ~~~xa)),.v,.v,.v,.v,.v] H1 kr fun gs2 w2 H2=>?_;clear H1;refine zm kr<|wV ?_;refine ⟨[.int .u64 (BitVec.toNat (xa ^^^ (xc &&& ~~~xb)):Int),.int .u64 (BitVec.toNat (xb ^^^ (xd &&& ~~~xc)):Int),.int .u64 (BitVec.toNat (xc ^^^ (xe &&& ~~~xd)):Int),.int .u64 (BitVec.toNat (xd ^^^ (xa &&& ~~~xe)):Int),.int .u64 (BitVec.toNat (xe ^^^ (xb &&& ~~~xa)):Int)],(.tmp (.int .u64 (BitVec.toNat (xa ^^^ (xc &&& ~~~xb)):Int)) kr (.tmp (.int .u64 (BitVec.toNat (xb ^^^ (xd &&& ~~~xc)):Int)) kr (.tmp (.int .u64 (BitVec.toNat (xc ^^^ (xe &&& ~~~xd)):Int)) kr (.tmp (.int .u64 (BitVec.toNat (xd ^^^ (xa &&& ~~~xe)):Int)) kr (.tmp (.int .u64 (BitVec.toNat (xe ^^^ (xb &&& ~~~xa)):Int)) kr .nil))))),?_,H2.below⟩;rfl
def svn (s:List (BitVec 64)):Value:=.agg #[.int .u64 (BitVec.toNat (nth s 0):Int),.int .u64 (BitVec.toNat (nth s 1):Int),.int .u64 (BitVec.toNat (nth s 2):Int),.int .u64 (BitVec.toNat (nth s 3):Int),.int .u64 (BitVec.toNat (nth s 4):Int),.int .u64 (BitVec.toNat (nth s 5):Int),.int .u64 (BitVec.toNat (nth s 6):Int),.int .u64 (BitVec.toNat (nth s 7):Int),.int .u64 (BitVec.toNat (nth s 8):Int),.int .u64 (BitVec.toNat (nth s 9):Int),.int .u64 (BitVec.toNat (nth s 10):Int),.int .u64 (BitVec.toNat (nth s 11):Int),.int .u64 (BitVec.toNat (nth s 12):Int),.int .u64 (BitVec.toNat (nth s 13):Int),.int .u64 (BitVec.toNat (nth s 14):Int),.int .u64 (BitVec.toNat (nth s 15):Int),.int .u64 (BitVec.toNat (nth s 16):Int),.int .u64 (BitVec.toNat (nth s 17):Int),.int .u64 (BitVec.toNat (nth s 18):Int),.int .u64 (BitVec.toNat (nth s 19):Int),.int .u64 (BitVec.toNat (nth s 20):Int),.int .u64 (BitVec.toNat (nth s 21):Int),.int .u64 (BitVec.toNat (nth s 22):Int),.int .u64 (BitVec.toNat (nth s 23):Int),.int .u64 (BitVec.toNat (nth s 24):Int)]
theorem rl0 (x:BitVec 64):rl x 0=x:=by
 apply BitVec.eq_of_getLsbD_eq;intro i hi;rw [ziu _ _ _ hi];congr 1;omega
theorem pI0 (s:List (BitVec 64)):pI s 0=th s 0:=rl0 _
theorem ziC (s:List (BitVec 64)):Fn Tryz.prog 134 #[.int .u64 (BitVec.toNat (th s 0):Int),.int .u64 (BitVec.toNat (pI s 1):Int),.int .u64 (BitVec.toNat (pI s 2):Int),.int .u64 (BitVec.toNat (pI s 3):Int),.int .u64 (BitVec.toNat (pI s 4):Int)] (.tuple #[.int .u64 (BitVec.toNat (xI (pI s) 0):Int),.int .u64 (BitVec.toNat (xI (pI s) 1):Int),.int .u64 (BitVec.toNat (xI (pI s) 2):Int),.int .u64 (BitVec.toNat (xI (pI s) 3):Int),.int .u64 (BitVec.toNat (xI (pI s) 4):Int)]):=by
 rw [←pI0 s];exact vp (pI s 0) (pI s 1) (pI s 2) (pI s 3) (pI s 4)
theorem ziD (s:List (BitVec 64)):Fn Tryz.prog 108 #[svn s] (svn (rnd s)):=by
 refine Fn.intro (c:=zk Tryz.f108) [.cell 2 86] 288 Tryz.func108 kr kr kr fun w=>?_;have H0:=St.start w;refine rS [.b,.a] H0 kr fun gs1 w1 H1=>?_;clear H0;refine rS [.v,.l 0,.v,.l 0,.E (.int .u64 (Go.bits .xor .u64 ((BitVec.toNat (nth s 0):Int)) ((BitVec.toNat (nth s 5):Int)))) (.int .u64 (BitVec.toNat ((nth s 0) ^^^ (nth s 5)):Int)) (zw (nth s 0) (nth s 5)),.v,.l 0,.E (.int .u64 (Go.bits .xor .u64 ((BitVec.toNat ((nth s 0) ^^^ (nth s 5)):Int)) ((BitVec.toNat (nth s 10):Int)))) (.int .u64 (BitVec.toNat (((nth s 0) ^^^ (nth s 5)) ^^^ (nth s 10)):Int)) (zw ((nth s 0) ^^^ (nth s 5)) (nth s 10)),.v,.l 0,.E (.int .u64 (Go.bits .xor .u64 ((BitVec.toNat (((nth s 0) ^^^ (nth s 5)) ^^^ (nth s 10)):Int)) ((BitVec.toNat (nth s 15):Int)))) (.int .u64 (BitVec.toNat ((((nth s 0) ^^^ (nth s 5)) ^^^ (nth s 10)) ^^^ (nth s 15)):Int)) (zw (((nth s 0) ^^^ (nth s 5)) ^^^ (nth s 10)) (nth s 15)),.v,.l 0,.E (.int .u64 (Go.bits .xor .u64 ((BitVec.toNat ((((nth s 0) ^^^ (nth s 5)) ^^^ (nth s 10)) ^^^ (nth s 15)):Int)) ((BitVec.toNat (nth s 20):Int)))) (.int .u64 (BitVec.toNat (cC s 0):Int)) (zw ((((nth s 0) ^^^ (nth s 5)) ^^^ (nth s 10)) ^^^ (nth s 15)) (nth s 20)),.v] H1 kr fun gs2 w2 H2=>?_;clear H1;refine zx [0,1,2,3] fun ρ1=>?_;have HK1:=H2.keep;clear H2;refine rS [.v,.l 0,.v,.l 0,.E (.int .u64 (Go.bits .xor .u64 ((BitVec.toNat (nth s 1):Int)) ((BitVec.toNat (nth s 6):Int)))) (.int .u64 (BitVec.toNat ((nth s 1) ^^^ (nth s 6)):Int)) (zw (nth s 1) (nth s 6)),.v,.l 0,.E (.int .u64 (Go.bits .xor .u64 ((BitVec.toNat ((nth s 1) ^^^ (nth s 6)):Int)) ((BitVec.toNat (nth s 11):Int)))) (.int .u64 (BitVec.toNat (((nth s 1) ^^^ (nth s 6)) ^^^ (nth s 11)):Int)) (zw ((nth s 1) ^^^ (nth s 6)) (nth s 11)),.v,.l 0,.E (.int .u64 (Go.bits .xor .u64 ((BitVec.toNat (((nth s 1) ^^^ (nth s 6)) ^^^ (nth s 11)):Int)) ((BitVec.toNat (nth s 16):Int)))) (.int .u64 (BitVec.toNat ((((nth s 1) ^^^ (nth s 6)) ^^^ (nth s 11)) ^^^ (nth s 16)):Int)) (zw (((nth s 1) ^^^ (nth s 6)) ^^^ (nth s 11)) (nth s 16)),.v,.l 0,.E (.int .u64 (Go.bits .xor .u64 ((BitVec.toNat ((((nth s 1) ^^^ (nth s 6)) ^^^ (nth s 11)) ^^^ (nth s 16)):Int)) ((BitVec.toNat (nth s 21):Int)))) (.int .u64 (BitVec.toNat (cC s 1):Int)) (zw ((((nth s 1) ^^^ (nth s 6)) ^^^ (nth s 11)) ^^^ (nth s 16)) (nth s 21)),.v] HK1 kr fun gs3 w3 H3=>?_;clear HK1;refine rS [.v,.l 0,.v,.l 0,.E (.int .u64 (Go.bits .xor .u64 ((BitVec.toNat (nth s 2):Int)) ((BitVec.toNat (nth s 7):Int)))) (.int .u64 (BitVec.toNat ((nth s 2) ^^^ (nth s 7)):Int)) (zw (nth s 2) (nth s 7)),.v,.l 0,.E (.int .u64 (Go.bits .xor .u64 ((BitVec.toNat ((nth s 2) ^^^ (nth s 7)):Int)) ((BitVec.toNat (nth s 12):Int)))) (.int .u64 (BitVec.toNat (((nth s 2) ^^^ (nth s 7)) ^^^ (nth s 12)):Int)) (zw ((nth s 2) ^^^ (nth s 7)) (nth s 12)),.v,.l 0,.E (.int .u64 (Go.bits .xor .u64 ((BitVec.toNat (((nth s 2) ^^^ (nth s 7)) ^^^ (nth s 12)):Int)) ((BitVec.toNat (nth s 17):Int)))) (.int .u64 (BitVec.toNat ((((nth s 2) ^^^ (nth s 7)) ^^^ (nth s 12)) ^^^ (nth s 17)):Int)) (zw (((nth s 2) ^^^ (nth s 7)) ^^^ (nth s 12)) (nth s 17)),.v,.l 0,.E (.int .u64 (Go.bits .xor .u64 ((BitVec.toNat ((((nth s 2) ^^^ (nth s 7)) ^^^ (nth s 12)) ^^^ (nth s 17)):Int)) ((BitVec.toNat (nth s 22):Int)))) (.int .u64 (BitVec.toNat (cC s 2):Int)) (zw ((((nth s 2) ^^^ (nth s 7)) ^^^ (nth s 12)) ^^^ (nth s 17)) (nth s 22)),.v] H3 kr fun gs4 w4 H4=>?_;clear H3;refine zx [0,1,2,3,4,5] fun ρ2=>?_;have HK2:=H4.keep;clear H4;refine rS [.v,.l 0,.v,.l 0,.E (.int .u64 (Go.bits .xor .u64 ((BitVec.toNat (nth s 3):Int)) ((BitVec.toNat (nth s 8):Int)))) (.int .u64 (BitVec.toNat ((nth s 3) ^^^ (nth s 8)):Int)) (zw (nth s 3) (nth s 8)),.v,.l 0,.E (.int .u64 (Go.bits .xor .u64 ((BitVec.toNat ((nth s 3) ^^^ (nth s 8)):Int)) ((BitVec.toNat (nth s 13):Int)))) (.int .u64 (BitVec.toNat (((nth s 3) ^^^ (nth s 8)) ^^^ (nth s 13)):Int)) (zw ((nth s 3) ^^^ (nth s 8)) (nth s 13)),.v,.l 0,.E (.int .u64 (Go.bits .xor .u64 ((BitVec.toNat (((nth s 3) ^^^ (nth s 8)) ^^^ (nth s 13)):Int)) ((BitVec.toNat (nth s 18):Int)))) (.int .u64 (BitVec.toNat ((((nth s 3) ^^^ (nth s 8)) ^^^ (nth s 13)) ^^^ (nth s 18)):Int)) (zw (((nth s 3) ^^^ (nth s 8)) ^^^ (nth s 13)) (nth s 18)),.v,.l 0,.E (.int .u64 (Go.bits .xor .u64 ((BitVec.toNat ((((nth s 3) ^^^ (nth s 8)) ^^^ (nth s 13)) ^^^ (nth s 18)):Int)) ((BitVec.toNat (nth s 23):Int)))) (.int .u64 (BitVec.toNat (cC s 3):Int)) (zw ((((nth s 3) ^^^ (nth s 8)) ^^^ (nth s 13)) ^^^ (nth s 18)) (nth s 23)),.v] HK2 kr fun gs5 w5 H5=>?_;clear HK2;refine rS [.v,.l 0,.v,.l 0,.E (.int .u64 (Go.bits .xor .u64 ((BitVec.toNat (nth s 4):Int)) ((BitVec.toNat (nth s 9):Int)))) (.int .u64 (BitVec.toNat ((nth s 4) ^^^ (nth s 9)):Int)) (zw (nth s 4) (nth s 9)),.v,.l 0,.E (.int .u64 (Go.bits .xor .u64 ((BitVec.toNat ((nth s 4) ^^^ (nth s 9)):Int)) ((BitVec.toNat (nth s 14):Int)))) (.int .u64 (BitVec.toNat (((nth s 4) ^^^ (nth s 9)) ^^^ (nth s 14)):Int)) (zw ((nth s 4) ^^^ (nth s 9)) (nth s 14)),.v,.l 0,.E (.int .u64 (Go.bits .xor .u64 ((BitVec.toNat (((nth s 4) ^^^ (nth s 9)) ^^^ (nth s 14)):Int)) ((BitVec.toNat (nth s 19):Int)))) (.int .u64 (BitVec.toNat ((((nth s 4) ^^^ (nth s 9)) ^^^ (nth s 14)) ^^^ (nth s 19)):Int)) (zw (((nth s 4) ^^^ (nth s 9)) ^^^ (nth s 14)) (nth s 19)),.v,.l 0,.E (.int .u64 (Go.bits .xor .u64 ((BitVec.toNat ((((nth s 4) ^^^ (nth s 9)) ^^^ (nth s 14)) ^^^ (nth s 19)):Int)) ((BitVec.toNat (nth s 24):Int)))) (.int .u64 (BitVec.toNat (cC s 4):Int)) (zw ((((nth s 4) ^^^ (nth s 9)) ^^^ (nth s 14)) ^^^ (nth s 19)) (nth s 24)),.v] H5 kr fun gs6 w6 H6=>?_;clear H5;refine zx [0,1,2,3,4,5,6,7] fun ρ3=>?_;have HK3:=H6.keep;clear H6;refine rS [.v,.v,.c (yb (cC s 1) 1 (by omega)),.E (.int .u64 (Go.bits .xor .u64 ((BitVec.toNat (cC s 4):Int)) ((BitVec.toNat (rl (cC s 1) 1):Int)))) (.int .u64 (BitVec.toNat (dD (cC s) 0):Int)) (zw (cC s 4) (rl (cC s 1) 1)),.v] HK3 kr fun gs7 w7 H7=>?_;clear HK3;refine rS [.v,.v,.c (yb (cC s 2) 1 (by omega)),.E (.int .u64 (Go.bits .xor .u64 ((BitVec.toNat (cC s 0):Int)) ((BitVec.toNat (rl (cC s 2) 1):Int)))) (.int .u64 (BitVec.toNat (dD (cC s) 1):Int)) (zw (cC s 0) (rl (cC s 2) 1)),.v] H7 kr fun gs8 w8 H8=>?_;clear H7;refine rS [.v,.v,.c (yb (cC s 3) 1 (by omega)),.E (.int .u64 (Go.bits .xor .u64 ((BitVec.toNat (cC s 1):Int)) ((BitVec.toNat (rl (cC s 3) 1):Int)))) (.int .u64 (BitVec.toNat (dD (cC s) 2):Int)) (zw (cC s 1) (rl (cC s 3) 1)),.v] H8 kr fun gs9 w9 H9=>?_;clear H8;refine rS [.v,.v,.c (yb (cC s 4) 1 (by omega)),.E (.int .u64 (Go.bits .xor .u64 ((BitVec.toNat (cC s 2):Int)) ((BitVec.toNat (rl (cC s 4) 1):Int)))) (.int .u64 (BitVec.toNat (dD (cC s) 3):Int)) (zw (cC s 2) (rl (cC s 4) 1)),.v] H9 kr fun gs10 w10 H10=>?_;clear H9;refine zx [0,1,2,3,4,5,6,7,8,9,10,11] fun ρ4=>?_;have HK4:=H10.keep;clear H10;refine rS [.v,.v,.c (yb (cC s 0) 1 (by omega)),.E (.int .u64 (Go.bits .xor .u64 ((BitVec.toNat (cC s 3):Int)) ((BitVec.toNat (rl (cC s 0) 1):Int)))) (.int .u64 (BitVec.toNat (dD (cC s) 4):Int)) (zw (cC s 3) (rl (cC s 0) 1)),.v] HK4 kr fun gs11 w11 H11=>?_;clear HK4;refine dS [.v,.l 0,.v,.E (.int .u64 (Go.bits .xor .u64 ((BitVec.toNat (nth s 0):Int)) ((BitVec.toNat (dD (cC s) 0):Int)))) (.int .u64 (BitVec.toNat (th s 0):Int)) (zw (nth s 0) (dD (cC s) 0)),.v,.l 0,.v,.E (.int .u64 (Go.bits .xor .u64 ((BitVec.toNat (nth s 6):Int)) ((BitVec.toNat (dD (cC s) 1):Int)))) (.int .u64 (BitVec.toNat (th s 6):Int)) (zw (nth s 6) (dD (cC s) 1)),.c (yb (th s 6) 44 (by omega)),.v,.l 0,.v,.E (.int .u64 (Go.bits .xor .u64 ((BitVec.toNat (nth s 12):Int)) ((BitVec.toNat (dD (cC s) 2):Int)))) (.int .u64 (BitVec.toNat (th s 12):Int)) (zw (nth s 12) (dD (cC s) 2)),.c (yb (th s 12) 43 (by omega)),.v,.l 0,.v,.E (.int .u64 (Go.bits .xor .u64 ((BitVec.toNat (nth s 18):Int)) ((BitVec.toNat (dD (cC s) 3):Int)))) (.int .u64 (BitVec.toNat (th s 18):Int)) (zw (nth s 18) (dD (cC s) 3)),.c (yb (th s 18) 21 (by omega)),.v,.l 0,.v,.E (.int .u64 (Go.bits .xor .u64 ((BitVec.toNat (nth s 24):Int)) ((BitVec.toNat (dD (cC s) 4):Int)))) (.int .u64 (BitVec.toNat (th s 24):Int)) (zw (nth s 24) (dD (cC s) 4)),.c (yb (th s 24) 14 (by omega)),.c (ziC s),.v,.v,.v,.v,.v,.v,.v,.s 1,.v,.s 1,.v,.s 1,.v,.s 1,.v,.s 1] H11 kr fun w12 H12=>?_;clear H11;refine zx [0,1,2,3,4,5,6,7,8,9,10,11,12] fun ρ5=>?_;have HK5:=H12.keep;clear H12;refine dS [.v,.l 0,.v,.E (.int .u64 (Go.bits .xor .u64 ((BitVec.toNat (nth s 3):Int)) ((BitVec.toNat (dD (cC s) 3):Int)))) (.int .u64 (BitVec.toNat (th s 3):Int)) (zw (nth s 3) (dD (cC s) 3)),.c (yb (th s 3) 28 (by omega)),.v,.l 0,.v,.E (.int .u64 (Go.bits .xor .u64 ((BitVec.toNat (nth s 9):Int)) ((BitVec.toNat (dD (cC s) 4):Int)))) (.int .u64 (BitVec.toNat (th s 9):Int)) (zw (nth s 9) (dD (cC s) 4)),.c (yb (th s 9) 20 (by omega)),.v,.l 0,.v,.E (.int .u64 (Go.bits .xor .u64 ((BitVec.toNat (nth s 10):Int)) ((BitVec.toNat (dD (cC s) 0):Int)))) (.int .u64 (BitVec.toNat (th s 10):Int)) (zw (nth s 10) (dD (cC s) 0)),.c (yb (th s 10) 3 (by omega)),.v,.l 0,.v,.E (.int .u64 (Go.bits .xor .u64 ((BitVec.toNat (nth s 16):Int)) ((BitVec.toNat (dD (cC s) 1):Int)))) (.int .u64 (BitVec.toNat (th s 16):Int)) (zw (nth s 16) (dD (cC s) 1)),.c (yb (th s 16) 45 (by omega)),.v,.l 0,.v,.E (.int .u64 (Go.bits .xor .u64 ((BitVec.toNat (nth s 22):Int)) ((BitVec.toNat (dD (cC s) 2):Int)))) (.int .u64 (BitVec.toNat (th s 22):Int)) (zw (nth s 22) (dD (cC s) 2)),.c (yb (th s 22) 61 (by omega)),.c (vp (pI s 5) (pI s 6) (pI s 7) (pI s 8) (pI s 9)),.v,.v,.v,.v,.v,.v,.v,.s 1,.v,.s 1,.v,.s 1,.v,.s 1,.v,.s 1] HK5 kr fun w13 H13=>?_;clear HK5;refine zx [0,1,2,3,4,5,6,7,8,9,10,11,12] fun ρ6=>?_;have HK6:=H13.keep;clear H13;refine dS [.v,.l 0,.v,.E (.int .u64 (Go.bits .xor .u64 ((BitVec.toNat (nth s 1):Int)) ((BitVec.toNat (dD (cC s) 1):Int)))) (.int .u64 (BitVec.toNat (th s 1):Int)) (zw (nth s 1) (dD (cC s) 1)),.c (yb (th s 1) 1 (by omega)),.v,.l 0,.v,.E (.int .u64 (Go.bits .xor .u64 ((BitVec.toNat (nth s 7):Int)) ((BitVec.toNat (dD (cC s) 2):Int)))) (.int .u64 (BitVec.toNat (th s 7):Int)) (zw (nth s 7) (dD (cC s) 2)),.c (yb (th s 7) 6 (by omega)),.v,.l 0,.v,.E (.int .u64 (Go.bits .xor .u64 ((BitVec.toNat (nth s 13):Int)) ((BitVec.toNat (dD (cC s) 3):Int)))) (.int .u64 (BitVec.toNat (th s 13):Int)) (zw (nth s 13) (dD (cC s) 3)),.c (yb (th s 13) 25 (by omega)),.v,.l 0,.v,.E (.int .u64 (Go.bits .xor .u64 ((BitVec.toNat (nth s 19):Int)) ((BitVec.toNat (dD (cC s) 4):Int)))) (.int .u64 (BitVec.toNat (th s 19):Int)) (zw (nth s 19) (dD (cC s) 4)),.c (yb (th s 19) 8 (by omega)),.v,.l 0,.v,.E (.int .u64 (Go.bits .xor .u64 ((BitVec.toNat (nth s 20):Int)) ((BitVec.toNat (dD (cC s) 0):Int)))) (.int .u64 (BitVec.toNat (th s 20):Int)) (zw (nth s 20) (dD (cC s) 0)),.c (yb (th s 20) 18 (by omega)),.c (vp (pI s 10) (pI s 11) (pI s 12) (pI s 13) (pI s 14)),.v,.v,.v,.v,.v,.v,.v,.s 1,.v,.s 1,.v,.s 1,.v,.s 1,.v,.s 1] HK6 kr fun w14 H14=>?_;clear HK6;refine zx [0,1,2,3,4,5,6,7,8,9,10,11,12] fun ρ7=>?_;have HK7:=H14.keep;clear H14;refine dS [.v,.l 0,.v,.E (.int .u64 (Go.bits .xor .u64 ((BitVec.toNat (nth s 4):Int)) ((BitVec.toNat (dD (cC s) 4):Int)))) (.int .u64 (BitVec.toNat (th s 4):Int)) (zw (nth s 4) (dD (cC s) 4)),.c (yb (th s 4) 27 (by omega)),.v,.l 0,.v,.E (.int .u64 (Go.bits .xor .u64 ((BitVec.toNat (nth s 5):Int)) ((BitVec.toNat (dD (cC s) 0):Int)))) (.int .u64 (BitVec.toNat (th s 5):Int)) (zw (nth s 5) (dD (cC s) 0)),.c (yb (th s 5) 36 (by omega)),.v,.l 0,.v,.E (.int .u64 (Go.bits .xor .u64 ((BitVec.toNat (nth s 11):Int)) ((BitVec.toNat (dD (cC s) 1):Int)))) (.int .u64 (BitVec.toNat (th s 11):Int)) (zw (nth s 11) (dD (cC s) 1)),.c (yb (th s 11) 10 (by omega)),.v,.l 0,.v,.E (.int .u64 (Go.bits .xor .u64 ((BitVec.toNat (nth s 17):Int)) ((BitVec.toNat (dD (cC s) 2):Int)))) (.int .u64 (BitVec.toNat (th s 17):Int)) (zw (nth s 17) (dD (cC s) 2)),.c (yb (th s 17) 15 (by omega)),.v,.l 0,.v,.E (.int .u64 (Go.bits .xor .u64 ((BitVec.toNat (nth s 23):Int)) ((BitVec.toNat (dD (cC s) 3):Int)))) (.int .u64 (BitVec.toNat (th s 23):Int)) (zw (nth s 23) (dD (cC s) 3)),.c (yb (th s 23) 56 (by omega)),.c (vp (pI s 15) (pI s 16) (pI s 17) (pI s 18) (pI s 19)),.v,.v,.v,.v,.v,.v,.v,.s 1,.v,.s 1,.v,.s 1,.v,.s 1,.v,.s 1] HK7 kr fun w15 H15=>?_;clear HK7;refine zx [0,1,2,3,4,5,6,7,8,9,10,11,12] fun ρ8=>?_;have HK8:=H15.keep;clear H15;refine dS [.v,.l 0,.v,.E (.int .u64 (Go.bits .xor .u64 ((BitVec.toNat (nth s 2):Int)) ((BitVec.toNat (dD (cC s) 2):Int)))) (.int .u64 (BitVec.toNat (th s 2):Int)) (zw (nth s 2) (dD (cC s) 2)),.c (yb (th s 2) 62 (by omega)),.v,.l 0,.v,.E (.int .u64 (Go.bits .xor .u64 ((BitVec.toNat (nth s 8):Int)) ((BitVec.toNat (dD (cC s) 3):Int)))) (.int .u64 (BitVec.toNat (th s 8):Int)) (zw (nth s 8) (dD (cC s) 3)),.c (yb (th s 8) 55 (by omega)),.v,.l 0,.v,.E (.int .u64 (Go.bits .xor .u64 ((BitVec.toNat (nth s 14):Int)) ((BitVec.toNat (dD (cC s) 4):Int)))) (.int .u64 (BitVec.toNat (th s 14):Int)) (zw (nth s 14) (dD (cC s) 4)),.c (yb (th s 14) 39 (by omega)),.v,.l 0,.v,.E (.int .u64 (Go.bits .xor .u64 ((BitVec.toNat (nth s 15):Int)) ((BitVec.toNat (dD (cC s) 0):Int)))) (.int .u64 (BitVec.toNat (th s 15):Int)) (zw (nth s 15) (dD (cC s) 0)),.c (yb (th s 15) 41 (by omega)),.v,.l 0,.v,.E (.int .u64 (Go.bits .xor .u64 ((BitVec.toNat (nth s 21):Int)) ((BitVec.toNat (dD (cC s) 1):Int)))) (.int .u64 (BitVec.toNat (th s 21):Int)) (zw (nth s 21) (dD (cC s) 1)),.c (yb (th s 21) 2 (by omega)),.c (vp (pI s 20) (pI s 21) (pI s 22) (pI s 23) (pI s 24)),.v,.v,.v,.v,.v,.v,.v,.s 1,.v,.s 1,.v,.s 1,.v,.s 1,.v,.s 1] HK8 kr fun w16 H16=>?_;clear HK8;refine zx [0,1,2,3,4,5,6,7,8,9,10,11,12] fun ρ9=>?_;have HK9:=H16.keep;clear H16;refine rS [.l 1,.s 1] HK9 kr fun gs17 w17 H17=>?_;clear HK9;refine zm kr<|wV ?_;refine ⟨[.agg #[.int .u64 (BitVec.toNat (xI (pI s) 0):Int),.int .u64 (BitVec.toNat (xI (pI s) 1):Int),.int .u64 (BitVec.toNat (xI (pI s) 2):Int),.int .u64 (BitVec.toNat (xI (pI s) 3):Int),.int .u64 (BitVec.toNat (xI (pI s) 4):Int),.int .u64 (BitVec.toNat (xI (pI s) 5):Int),.int .u64 (BitVec.toNat (xI (pI s) 6):Int),.int .u64 (BitVec.toNat (xI (pI s) 7):Int),.int .u64 (BitVec.toNat (xI (pI s) 8):Int),.int .u64 (BitVec.toNat (xI (pI s) 9):Int),.int .u64 (BitVec.toNat (xI (pI s) 10):Int),.int .u64 (BitVec.toNat (xI (pI s) 11):Int),.int .u64 (BitVec.toNat (xI (pI s) 12):Int),.int .u64 (BitVec.toNat (xI (pI s) 13):Int),.int .u64 (BitVec.toNat (xI (pI s) 14):Int),.int .u64 (BitVec.toNat (xI (pI s) 15):Int),.int .u64 (BitVec.toNat (xI (pI s) 16):Int),.int .u64 (BitVec.toNat (xI (pI s) 17):Int),.int .u64 (BitVec.toNat (xI (pI s) 18):Int),.int .u64 (BitVec.toNat (xI (pI s) 19):Int),.int .u64 (BitVec.toNat (xI (pI s) 20):Int),.int .u64 (BitVec.toNat (xI (pI s) 21):Int),.int .u64 (BitVec.toNat (xI (pI s) 22):Int),.int .u64 (BitVec.toNat (xI (pI s) 23):Int),.int .u64 (BitVec.toNat (xI (pI s) 24):Int)]],(.agg (b:=(gs1 1).b) #[.int .u64 (BitVec.toNat (xI (pI s) 0):Int),.int .u64 (BitVec.toNat (xI (pI s) 1):Int),.int .u64 (BitVec.toNat (xI (pI s) 2):Int),.int .u64 (BitVec.toNat (xI (pI s) 3):Int),.int .u64 (BitVec.toNat (xI (pI s) 4):Int),.int .u64 (BitVec.toNat (xI (pI s) 5):Int),.int .u64 (BitVec.toNat (xI (pI s) 6):Int),.int .u64 (BitVec.toNat (xI (pI s) 7):Int),.int .u64 (BitVec.toNat (xI (pI s) 8):Int),.int .u64 (BitVec.toNat (xI (pI s) 9):Int),.int .u64 (BitVec.toNat (xI (pI s) 10):Int),.int .u64 (BitVec.toNat (xI (pI s) 11):Int),.int .u64 (BitVec.toNat (xI (pI s) 12):Int),.int .u64 (BitVec.toNat (xI (pI s) 13):Int),.int .u64 (BitVec.toNat (xI (pI s) 14):Int),.int .u64 (BitVec.toNat (xI (pI s) 15):Int),.int .u64 (BitVec.toNat (xI (pI s) 16):Int),.int .u64 (BitVec.toNat (xI (pI s) 17):Int),.int .u64 (BitVec.toNat (xI (pI s) 18):Int),.int .u64 (BitVec.toNat (xI (pI s) 19):Int),.int .u64 (BitVec.toNat (xI (pI s) 20):Int),.int .u64 (BitVec.toNat (xI (pI s) 21):Int),.int .u64 (BitVec.toNat (xI (pI s) 22):Int),.int .u64 (BitVec.toNat (xI (pI s) 23):Int),.int .u64 (BitVec.toNat (xI (pI s) 24):Int)] 86 (0,0) kr (H17.get 1 kr) kr .nil),?_,H17.below⟩;rfl
def marksC:Array Value:=(Kec.marks.map fun m=>Value.int .u64 (BitVec.toNat m:Int)).toArray
def Marks (w:World):Prop:=∃T fz,w.heap[0]? =some (.cells marksC T fz)
theorem ziE (k q:Nat)(hq:q=k)(h:k<24):marksC[q]? =some (Value.int .u64 (BitVec.toNat (Kec.marks.getD k 0):Int)):=by
 subst hq;have hl:Kec.marks.length=24:=rfl;unfold marksC;simp [hl,h]
def yf (s:List (BitVec 64))(j:Nat):List (BitVec 64):=(Kec.marks.take j).foldl rm s
theorem zdT (s:List (BitVec 64))(j:Nat)(h:j<24):yf s (j+1)=rm (yf s j) (Kec.marks.getD j 0):=by
 have hl:Kec.marks.length=24:=rfl;unfold yf;rw [List.take_add_one,List.foldl_append,List.getElem?_eq_getElem (by omega)];simp [hl,h]
theorem zdU (s:List (BitVec 64)):yf s 24=mix s:=by
 unfold yf mix;rw [List.take_of_length_le (by decide)]
theorem ys (s:List (BitVec 64))(m:BitVec 64)(k:Nat):nth (rm s m) (k+1)=nth (rnd s) (k+1):=by
 unfold rm uB nth;simp
theorem zdV (s:List (BitVec 64))(m:BitVec 64):((Value.cells (svn (rnd s))).toList.take 0++(Value.cells (.int .u64 (BitVec.toNat (nth (rnd s) 0 ^^^ m):Int))).toList++(Value.cells (svn (rnd s))).toList.drop (0+1)).toArray=Value.cells (svn (rm s m)):=by
 have e1:nth (rm s m) 1=nth (rnd s) 1:=ys s m 0;have e2:nth (rm s m) 2=nth (rnd s) 2:=ys s m 1;have e3:nth (rm s m) 3=nth (rnd s) 3:=ys s m 2;have e4:nth (rm s m) 4=nth (rnd s) 4:=ys s m 3;have e5:nth (rm s m) 5=nth (rnd s) 5:=ys s m 4;have e6:nth (rm s m) 6=nth (rnd s) 6:=ys s m 5;have e7:nth (rm s m) 7=nth (rnd s) 7:=ys s m 6;have e8:nth (rm s m) 8=nth (rnd s) 8:=ys s m 7;have e9:nth (rm s m) 9=nth (rnd s) 9:=ys s m 8;have e10:nth (rm s m) 10=nth (rnd s) 10:=ys s m 9;have e11:nth (rm s m) 11=nth (rnd s) 11:=ys s m 10;have e12:nth (rm s m) 12=nth (rnd s) 12:=ys s m 11;have e13:nth (rm s m) 13=nth (rnd s) 13:=ys s m 12;have e14:nth (rm s m) 14=nth (rnd s) 14:=ys s m 13;have e15:nth (rm s m) 15=nth (rnd s) 15:=ys s m 14;have e16:nth (rm s m) 16=nth (rnd s) 16:=ys s m 15;have e17:nth (rm s m) 17=nth (rnd s) 17:=ys s m 16;have e18:nth (rm s m) 18=nth (rnd s) 18:=ys s m 17;have e19:nth (rm s m) 19=nth (rnd s) 19:=ys s m 18;have e20:nth (rm s m) 20=nth (rnd s) 20:=ys s m 19;have e21:nth (rm s m) 21=nth (rnd s) 21:=ys s m 20;have e22:nth (rm s m) 22=nth (rnd s) 22:=ys s m 21;have e23:nth (rm s m) 23=nth (rnd s) 23:=ys s m 22;have e24:nth (rm s m) 24=nth (rnd s) 24:=ys s m 23;have e0:nth (rm s m) 0=nth (rnd s) 0 ^^^ m:=rfl;unfold svn;rw [e0,e1,e2,e3,e4,e5,e6,e7,e8,e9,e10,e11,e12,e13,e14,e15,e16,e17,e18,e19,e20,e21,e22,e23,e24];rfl
theorem ziF (s:List (BitVec 64))(T:TypeId)(fz:Nat×Nat):FnP Tryz.prog 73 #[svn s] (fun w=>w.heap[0]? =some (.cells marksC T fz)) (svn (mix s)):=by
 refine FnP.intro (c:=zk Tryz.f73) [.cell 2 86] 18 Tryz.func73 kr kr kr fun w hpre=>?_;have H0:=St.start w;refine rS [.b,.a] H0 kr fun gs1 w1 H1=>?_;clear H0;refine zb kr<|rS [.f hpre (zz hpre),.v] H1 kr fun gs2 w2 H2=>?_;clear H1;refine zn 0 kr ?_;have HL1:St w.heap.size w w2 [((gs1 0).b,Obj.cells (Value.cells (svn s)) 86 (0,0)),((gs1 1).b,Obj.cells #[wZ,wZ,wZ,wZ,wZ,wZ,wZ,wZ,wZ,wZ,wZ,wZ,wZ,wZ,wZ,wZ,wZ,wZ,wZ,wZ,wZ,wZ,wZ,wZ,wZ] 86 (0,0))]:=H2.as kr;clear H2;have HM2:St w.heap.size w w2 [((gs1 0).b,Obj.cells (Value.cells (svn (yf s 0))) 86 (0,0)),((gs1 1).b,Obj.cells #[wZ,wZ,wZ,wZ,wZ,wZ,wZ,wZ,wZ,wZ,wZ,wZ,wZ,wZ,wZ,wZ,wZ,wZ,wZ,wZ,wZ,wZ,wZ,wZ,wZ] 86 (0,0))]:=HL1;refine zG kr (fun mz ρ ww=> ∃(j:Nat),24-j=mz∧(j≤24)∧St w.heap.size w ww [((gs1 0).b,Obj.cells (Value.cells (svn (yf s j))) 86 (0,0)),((gs1 1).b,Obj.cells #[wZ,wZ,wZ,wZ,wZ,wZ,wZ,wZ,wZ,wZ,wZ,wZ,wZ,wZ,wZ,wZ,wZ,wZ,wZ,wZ,wZ,wZ,wZ,wZ,wZ] 86 (0,0))]∧Is [(0,svn s),(1,.pointer (some ⟨(gs1 0).b,0,none⟩)),(2,.pointer (some ⟨(gs1 1).b,0,none⟩)),(5,.agg marksC),(6,.int .i64 (j:Int))] ρ) (24-0) ⟨0,rfl,(by omega),HM2,(Is.of ⟨kr,kr,kr,kr,kr,trivial⟩)⟩ ?_;clear HM2;rintro _ _ w3 ⟨j,rfl,hj,H3,_,rfl⟩;by_cases hc3:(j:Nat)<24
 ·refine rS [.E (.bool (decide ((j:Int)<24))) (.bool true) (za (decide_eq_true (by omega)))] H3 kr fun gs4 w4 H4=>?_;clear H3;refine zb kr<|zi kr kr<|zj kr<|wW<|zb kr<|zn 1 kr<|rS [.o (ins:=[((.tmp 5),.agg marksC),((.tmp 6),.int .i64 (j:Int))]) (v:=.int .u64 (BitVec.toNat (List.getD Kec.marks j 0):Int)) (fun ρ o w ho hi=>zfM (t:=139) (e:=22) (kd:=.i64) (n:=24) kr kr kr (x:=(.tmp 5)) (y:=(.tmp 6)) (Value.cells (.agg marksC)) j (.int .u64 (BitVec.toNat (List.getD Kec.marks j 0):Int)) ho hi.1 hi.2.1 (by omega) (ziE j _ (by omega) (by omega)) w),.v] H4 kr fun gs5 w5 H5=>?_;clear H4;refine rS [.l 0,.c (ziD (yf s j)),.s 0] H5 kr fun gs6 w6 H6=>?_;clear H5;refine rL [.v,.l 0,.v,.E (.int .u64 (Go.bits .xor .u64 ((BitVec.toNat (nth (rnd (yf s j)) 0):Int)) ((BitVec.toNat (List.getD Kec.marks j 0):Int)))) (.int .u64 (BitVec.toNat ((nth (rnd (yf s j)) 0) ^^^ (List.getD Kec.marks j 0)):Int)) (zw (nth (rnd (yf s j)) 0) (List.getD Kec.marks j 0)),.v,.se (C:=(Value.cells (svn (rnd (yf s j))))) (C':=(Value.cells (svn (rm (yf s j) (List.getD Kec.marks j 0))))) (off:=0) (v:=.int .u64 (BitVec.toNat ((nth (rnd (yf s j)) 0) ^^^ (List.getD Kec.marks j 0)):Int)) 0 (of_decide_eq_true kr) (zdV (yf s j) (List.getD Kec.marks j 0))] H6 kr fun gs7 w7 H7=>?_;clear H6;refine wW<|rL [.E (.int .i64 (IntKind.i64.wrap ((j:Int)+1))) (.int .i64 ((j+1:Nat):Int)) (zd (zq (a:=j) (b:=1) (by omega))),.v] H7 kr fun gs8 w8 H8=>?_;clear H7;have HL4:St w.heap.size w w8 [((gs1 0).b,Obj.cells (Value.cells (svn (rm (yf s j) (List.getD Kec.marks j 0)))) 86 (0,0)),((gs1 1).b,Obj.cells #[wZ,wZ,wZ,wZ,wZ,wZ,wZ,wZ,wZ,wZ,wZ,wZ,wZ,wZ,wZ,wZ,wZ,wZ,wZ,wZ,wZ,wZ,wZ,wZ,wZ] 86 (0,0))]:=H8.as kr;clear H8;have HM5:St w.heap.size w w8 [((gs1 0).b,Obj.cells (Value.cells (svn (yf s (j+1)))) 86 (0,0)),((gs1 1).b,Obj.cells #[wZ,wZ,wZ,wZ,wZ,wZ,wZ,wZ,wZ,wZ,wZ,wZ,wZ,wZ,wZ,wZ,wZ,wZ,wZ,wZ,wZ,wZ,wZ,wZ,wZ] 86 (0,0))]:=by rw [zdT s j (by omega)];exact HL4
  show ∃m,_∧_;exact ⟨_,(by omega),(j+1),rfl,(by omega),HM5,(Is.of ⟨kr,kr,kr,kr,kr,trivial⟩)⟩
 ·refine rS [.E (.bool (decide ((j:Int)<24))) (.bool false) (za (decide_eq_false (by omega)))] H3 kr fun gs9 w9 H9=>?_;clear H3;refine zb kr<|zh kr kr<|zy 0 kr<|wW<|rS [.l 0,.s 1] H9 kr fun gs10 w10 H10=>?_;clear H9;refine zm kr<|wV ?_;refine ⟨[svn (yf s j)],(.agg (b:=(gs1 1).b) (Value.cells (svn (yf s j))) 86 (0,0) kr (H10.get 1 kr) kr .nil),?_,H10.below⟩;obtain rfl:j=24:=by omega
  exact congrArg svn (zdU s)
theorem zdW (s:List (BitVec 64)):FnP Tryz.prog 73 #[svn s] Marks (svn (mix s)):=fun w ⟨T,fz,h⟩=>ziF s T fz w h
theorem tcd {α:Type}(L:List α)(q:Nat)(x:α)(h:q<L.length):L.take q++ [x]++L.drop (q+1)=L.set q x:=by
 rw [List.set_eq_take_append_cons_drop,if_pos h,List.append_assoc];rfl
theorem za0 (s:List (BitVec 64)):Value.cells (svn s)=((List.range 25).map fun k=>Value.int .u64 (BitVec.toNat (nth s k):Int)).toArray:=rfl
theorem xM (s:List (BitVec 64))(k q:Nat)(hq:q=k)(hk:k<25):(Value.cells (svn s))[q]? =some (Value.int .u64 (BitVec.toNat (nth s k):Int)):=by
 subst hq;rw [za0];simp [hk]
theorem uE (s:List (BitVec 64))(k j:Nat)(x:BitVec 64)(hk:k<s.length):nth (s.set k x) j=if j=k then x else nth s j:=by
 unfold nth;rw [List.getD_eq_getElem?_getD,List.getD_eq_getElem?_getD,List.getElem?_set];by_cases h:k=j
 ·subst h;simp [hk]
 ·rw [if_neg h,if_neg (fun e=>h e.symm)]
theorem uF (s:List (BitVec 64))(k q:Nat)(x:BitVec 64)(hs:s.length=25)(hq:q=k)(hk:k<25):
 ((Value.cells (svn s)).toList.take q++(Value.cells (.int .u64 (BitVec.toNat x:Int))).toList++(Value.cells (svn s)).toList.drop (q+(Value.cells (.int .u64 (BitVec.toNat x:Int))).size)).toArray=Value.cells (svn (s.set k x)):=by
 subst hq;rw [za0,za0];congr 1;show List.take q _++ [Value.int .u64 (BitVec.toNat x:Int)]++List.drop (q+1) _=_;rw [tcd _ q _ (by simpa using hk)];apply List.ext_getElem?;intro j;rw [List.toList_toArray];rw [List.getElem?_set];by_cases h:q=j
 ·subst h;simp [hk,uE s q q x (by omega)]
 ·by_cases hj:j<25
  ·simp [h,hj,uE s q j x (by omega),show ¬j=q from fun e=>h e.symm]
  ·simp [h,hj]
theorem Marks.oldB {B:Nat}{w0 w:World}(HS:Below B w0 w)(hB:B=w0.heap.size)(h:Marks w0):Marks w:=by
 obtain ⟨T,fz,h⟩:=h;exact ⟨T,fz,by rw [HS.block 0 (by rw [hB];exact zz h)];exact h⟩
theorem zdX {s s1:List (BitVec 64)}{n n1 k:Nat}{t:ByteArray}(h:zO (s,n) ((tl t).take k)=(s1,n1))(hk:k<ByteArray.size t):
 zO (s,n) ((tl t).take (k+1))=(if n1+1=136 then (mix (lay s1 n1 (BitVec.ofNat 64 (by_ t k))),0) else (lay s1 n1 (BitVec.ofNat 64 (by_ t k)),n1+1)):=by
 have hk':k<(tl t).length:=hk;rw [List.take_add_one,List.getElem?_eq_getElem hk',Option.toList_some,uD,h];unfold yQ xo by_;rw [List.getD_eq_getElem?_getD,List.getElem?_eq_getElem hk',Option.getD_some]
theorem za1 (b i:Nat)(hi:i<1000):Fn Tryz.prog 107 #[.int .u8 (b:Int),.int .i64 (i:Int)] (.int .u64 (BitVec.toNat (yJ (BitVec.ofNat 64 b) i):Int)):=by
 refine Fn.intro (c:=zk Tryz.f107) [.tmp 4] 11 Tryz.func107 kr kr kr fun w=>?_;have H0:=St.start w;refine rS [.v] H0 kr fun gs1 w1 H1=>?_;clear H0;refine rS [.v,.E (.int .u64 (IntKind.u64.wrap (b:Int))) (.int .u64 (BitVec.toNat (BitVec.ofNat 64 b):Int)) (zb9 b),.v,.E (.int .i64 (Int.tmod (i:Int) 8)) (.int .i64 ((i%8:Nat):Int)) (zd (yL i 8)),.E (.int .i64 (IntKind.i64.wrap (((i%8:Nat):Int)*8))) (.int .i64 (((i%8)*8:Nat):Int)) (zd (qe (a:=i%8) (b:=8) (by omega))),.E (.int .u64 (IntKind.u64.wrap (((BitVec.toNat (BitVec.ofNat 64 b):Int))*2^(min ((i%8)*8) 64)))) (.int .u64 (BitVec.toNat ((BitVec.ofNat 64 b) <<< ((i%8)*8)):Int)) (vT (BitVec.ofNat 64 b) ((i%8)*8)),.v] H1 kr fun gs2 w2 H2=>?_;clear H1;refine zm kr<|wV ?_;refine ⟨[.int .u64 (BitVec.toNat ((BitVec.ofNat 64 b) <<< ((i%8)*8)):Int)],(.tmp (.int .u64 (BitVec.toNat ((BitVec.ofNat 64 b) <<< ((i%8)*8)):Int)) kr .nil),?_,H2.below⟩;rfl
theorem ziG (s:List (BitVec 64))(n:Nat)(t:ByteArray)(hs:s.length=25)(hn:n<136)(ht:ByteArray.size t<0x4000000000000000):FnP Tryz.prog 71 #[svn s,.int .i64 (n:Int),.string t] (Marks) (.tuple #[svn (zO (s,n) (tl t)).1,.int .i64 (((zO (s,n) (tl t)).2:Nat):Int)]):=by
 refine FnP.intro (c:=zk Tryz.f71) [.cell 6 86,.tmp 7] 34 Tryz.func71 kr kr kr fun w hpre=>?_;have H0:=St.start w;refine rS [.b,.a,.v] H0 kr fun gs1 w1 H1=>?_;clear H0;refine zb kr<|rS [.v,.v,.v] H1 kr fun gs2 w2 H2=>?_;clear H1;refine zn 0 kr ?_;have HL1:St w.heap.size w w2 [((gs1 0).b,Obj.cells (Value.cells (svn s)) 86 (0,0)),((gs1 1).b,Obj.cells #[wZ,wZ,wZ,wZ,wZ,wZ,wZ,wZ,wZ,wZ,wZ,wZ,wZ,wZ,wZ,wZ,wZ,wZ,wZ,wZ,wZ,wZ,wZ,wZ,wZ] 86 (0,0))]:=H2.as kr;clear H2;refine zG kr (fun mz ρ ww=> ∃(s1:List (BitVec 64)) (n1:Nat) (k:Nat),ByteArray.size t-k=mz∧(s1.length=25)∧(n1<136)∧(k≤ByteArray.size t)∧(zO (s,n) ((tl t).take k)=(s1,n1))∧St w.heap.size w ww [((gs1 0).b,Obj.cells (Value.cells (svn s1)) 86 (0,0)),((gs1 1).b,Obj.cells #[wZ,wZ,wZ,wZ,wZ,wZ,wZ,wZ,wZ,wZ,wZ,wZ,wZ,wZ,wZ,wZ,wZ,wZ,wZ,wZ,wZ,wZ,wZ,wZ,wZ] 86 (0,0))]∧Is [(0,svn s),(1,.int .i64 (n1:Int)),(2,.string t),(3,.pointer (some ⟨(gs1 0).b,0,none⟩)),(6,.pointer (some ⟨(gs1 1).b,0,none⟩)),(7,.int .i64 0),(10,.int .i64 (ByteArray.size t:Int)),(11,.int .i64 (k:Int))] ρ) (ByteArray.size t-0) ⟨s,n,0,rfl,hs,hn,(by omega),rfl,HL1,(Is.of ⟨kr,kr,kr,kr,kr,kr,kr,kr,trivial⟩)⟩ ?_;clear HL1;rintro _ _ w3 ⟨s1,n1,k,rfl,hs1,hn1,hk,htk,H3,_,rfl⟩;have hbl:=zan t k;by_cases hc2:(k:Nat)<ByteArray.size t
 ·refine rS [.E (.bool (decide ((k:Int)<(ByteArray.size t:Int)))) (.bool true) (za (decide_eq_true (by omega)))] H3 kr fun gs4 w4 H4=>?_;clear H3;refine zb kr<|zi kr kr<|zj kr<|wW<|zb kr<|zn 1 kr<|rS [.v,.v] H4 kr fun gs5 w5 H5=>?_;clear H4;refine dS [.v,.E (.int .i64 (IntKind.i64.wrap ((n1:Int).tdiv 8))) (.int .i64 ((n1 / 8:Nat):Int)) (zd (jj (a:=n1) (b:=8) (by omega))),.o (ins:=[((.tmp 3),.pointer (some ⟨(gs1 0).b,0,none⟩)),((.tmp 15),.int .i64 ((n1 / 8:Nat):Int))]) (v:=.pointer (some ⟨(gs1 0).b,0+(n1 / 8)*1,none⟩)) (fun ρ o w ho hi=>yD (kd:=.i64) (t:=86) (n:=25) (size:=1) kr (x:=(.tmp 3)) (y:=(.tmp 15)) (gs1 0).b 0 (n1 / 8) ho hi.1 hi.2.1 (by omega) w),.ls (C:=(Value.cells (svn s1))) (off:=0+(n1 / 8)*1) (v:=.int .u64 (BitVec.toNat (nth s1 (n1 / 8)):Int)) 0 (xM s1 (n1 / 8) _ (by omega) (by omega)),.v,.v,.o (ins:=[((.tmp 18),.string t),((.tmp 19),.int .i64 (k:Int))]) (v:=.int .u8 ((by_ t k:Nat):Int)) (fun ρ o w ho hi=>yc (t:=9) (kd:=.i64) kr (x:=(.tmp 18)) (y:=(.tmp 19)) t k ho hi.1 hi.2.1 (by omega) w),.v,.c (za1 (by_ t k) n1 (by omega)),.E (.int .u64 (Go.bits .xor .u64 ((BitVec.toNat (nth s1 (n1 / 8)):Int)) ((BitVec.toNat (yJ (BitVec.ofNat 64 (by_ t k)) n1):Int)))) (.int .u64 (BitVec.toNat ((nth s1 (n1 / 8)) ^^^ (yJ (BitVec.ofNat 64 (by_ t k)) n1)):Int)) (zw (nth s1 (n1 / 8)) (yJ (BitVec.ofNat 64 (by_ t k)) n1)),.o (ins:=[((.tmp 3),.pointer (some ⟨(gs1 0).b,0,none⟩)),((.tmp 15),.int .i64 ((n1 / 8:Nat):Int))]) (v:=.pointer (some ⟨(gs1 0).b,0+(n1 / 8)*1,none⟩)) (fun ρ o w ho hi=>yD (kd:=.i64) (t:=86) (n:=25) (size:=1) kr (x:=(.tmp 3)) (y:=(.tmp 15)) (gs1 0).b 0 (n1 / 8) ho hi.1 hi.2.1 (by omega) w),.se (C:=(Value.cells (svn s1))) (C':=(Value.cells (svn (lay s1 n1 (BitVec.ofNat 64 (by_ t k)))))) (off:=0+(n1 / 8)*1) (v:=.int .u64 (BitVec.toNat ((nth s1 (n1 / 8)) ^^^ (yJ (BitVec.ofNat 64 (by_ t k)) n1)):Int)) 0 (by show _+1≤25;omega) (uF s1 (n1 / 8) _ ((nth s1 (n1 / 8)) ^^^ (yJ (BitVec.ofNat 64 (by_ t k)) n1)) hs1 (by omega) (by omega))] H5 kr fun w6 H6=>?_;clear H5;refine zx [0,1,2,3,6,7,8,10,11,12] fun ρ1=>?_;have HK3:=H6.keep;clear H6;refine rS [.v,.E (.int .i64 (IntKind.i64.wrap ((n1:Int)+1))) (.int .i64 ((n1+1:Nat):Int)) (zd (zq (a:=n1) (b:=1) (by omega))),.v] HK3 kr fun gs7 w7 H7=>?_;clear HK3;refine zg [0,1] kr kr<|rp [.v] H7 kr fun gs8 w8 H8=>wX [1] ?_;clear H7;by_cases hc4:(n1+1:Nat)=136
  ·refine rp [.E (.bool (((n1+1:Nat):Int)==136)) (.bool true) (za (beq_iff_eq.2 (by omega)))] H8 kr fun gs9 w9 H9=>wX [] ?_;clear H8;refine zc<|zi kr kr<|rL [.l 0,.cp (pre:=Marks) (zdW (lay s1 n1 (BitVec.ofNat 64 (by_ t k)))) [] (fun w hb hd=>(Marks.oldB hb rfl hpre)),.s 0,.v] H9 kr fun gs10 w10 H10=>?_;clear H9;refine wW<|rL [.E (.int .i64 (IntKind.i64.wrap ((k:Int)+1))) (.int .i64 ((k+1:Nat):Int)) (zd (zq (a:=k) (b:=1) (by omega))),.v] H10 kr fun gs11 w11 H11=>?_;clear H10;have HL5:St w.heap.size w w11 [((gs1 0).b,Obj.cells (Value.cells (svn (mix (lay s1 n1 (BitVec.ofNat 64 (by_ t k)))))) 86 (0,0)),((gs1 1).b,Obj.cells #[wZ,wZ,wZ,wZ,wZ,wZ,wZ,wZ,wZ,wZ,wZ,wZ,wZ,wZ,wZ,wZ,wZ,wZ,wZ,wZ,wZ,wZ,wZ,wZ,wZ] 86 (0,0))]:=H11.as kr;clear H11;show ∃m,_∧_;exact ⟨_,(by omega),(mix (lay s1 n1 (BitVec.ofNat 64 (by_ t k)))),0,(k+1),rfl,(zaY (qK _ _ hs1)),(by omega),(by omega),((zdX htk (by omega)).trans (if_pos (by omega))),HL5,(Is.of ⟨kr,kr,kr,kr,kr,kr,kr,kr,trivial⟩)⟩
  ·refine rp [.E (.bool (((n1+1:Nat):Int)==136)) (.bool false) (za (beq_eq_false_iff_ne.2 (by omega)))] H8 kr fun gs12 w12 H12=>wX [] ?_;clear H8;refine zc<|zh kr kr<|zj kr<|wW<|rL [.E (.int .i64 (IntKind.i64.wrap ((k:Int)+1))) (.int .i64 ((k+1:Nat):Int)) (zd (zq (a:=k) (b:=1) (by omega))),.v] H12 kr fun gs13 w13 H13=>?_;clear H12;have HL6:St w.heap.size w w13 [((gs1 0).b,Obj.cells (Value.cells (svn (lay s1 n1 (BitVec.ofNat 64 (by_ t k))))) 86 (0,0)),((gs1 1).b,Obj.cells #[wZ,wZ,wZ,wZ,wZ,wZ,wZ,wZ,wZ,wZ,wZ,wZ,wZ,wZ,wZ,wZ,wZ,wZ,wZ,wZ,wZ,wZ,wZ,wZ,wZ] 86 (0,0))]:=H13.as kr;clear H13;show ∃m,_∧_;exact ⟨_,(by omega),(lay s1 n1 (BitVec.ofNat 64 (by_ t k))),(n1+1),(k+1),rfl,(qK _ _ hs1),(by omega),(by omega),((zdX htk (by omega)).trans (if_neg (by omega))),HL6,(Is.of ⟨kr,kr,kr,kr,kr,kr,kr,kr,trivial⟩)⟩
 ·refine rS [.E (.bool (decide ((k:Int)<(ByteArray.size t:Int)))) (.bool false) (za (decide_eq_false (by omega)))] H3 kr fun gs14 w14 H14=>?_;clear H3;refine zb kr<|zh kr kr<|zy 0 kr<|wW<|rS [.l 0,.v,.s 1,.v] H14 kr fun gs15 w15 H15=>?_;clear H14;refine zm kr<|wV ?_;refine ⟨[svn s1,.int .i64 (n1:Int)],(.agg (b:=(gs1 1).b) (Value.cells (svn s1)) 86 (0,0) kr (H15.get 1 kr) kr (.tmp (.int .i64 (n1:Int)) kr .nil)),?_,H15.below⟩;rw [List.take_of_length_le (show (tl t).length≤k by rw [yn];omega)] at htk;rw [htk];rfl
theorem ziH (s:List (BitVec 64))(n:Nat)(hs:s.length=25)(hn:n<136):Fn Tryz.prog 74 #[svn s,.int .i64 (n:Int)] (svn (jq (s,n))):=by
 refine Fn.intro (c:=zk Tryz.f74) [.cell 4 86] 19 Tryz.func74 kr kr kr fun w=>?_;have H0:=St.start w;refine rS [.b,.a] H0 kr fun gs1 w1 H1=>?_;clear H0;refine dS [.v,.E (.int .i64 (IntKind.i64.wrap ((n:Int).tdiv 8))) (.int .i64 ((n / 8:Nat):Int)) (zd (jj (a:=n) (b:=8) (by omega))),.o (ins:=[((.tmp 2),.pointer (some ⟨(gs1 0).b,0,none⟩)),((.tmp 6),.int .i64 ((n / 8:Nat):Int))]) (v:=.pointer (some ⟨(gs1 0).b,0+(n / 8)*1,none⟩)) (fun ρ o w ho hi=>yD (kd:=.i64) (t:=86) (n:=25) (size:=1) kr (x:=(.tmp 2)) (y:=(.tmp 6)) (gs1 0).b 0 (n / 8) ho hi.1 hi.2.1 (by omega) w),.ls (C:=(Value.cells (svn s))) (off:=0+(n / 8)*1) (v:=.int .u64 (BitVec.toNat (nth s (n / 8)):Int)) 0 (xM s (n / 8) _ (by omega) (by omega)),.v,.c (za1 1 n (by omega)),.E (.int .u64 (Go.bits .xor .u64 ((BitVec.toNat (nth s (n / 8)):Int)) ((BitVec.toNat (yJ (BitVec.ofNat 64 1) n):Int)))) (.int .u64 (BitVec.toNat ((nth s (n / 8)) ^^^ (yJ (BitVec.ofNat 64 1) n)):Int)) (zw (nth s (n / 8)) (yJ (BitVec.ofNat 64 1) n)),.o (ins:=[((.tmp 2),.pointer (some ⟨(gs1 0).b,0,none⟩)),((.tmp 6),.int .i64 ((n / 8:Nat):Int))]) (v:=.pointer (some ⟨(gs1 0).b,0+(n / 8)*1,none⟩)) (fun ρ o w ho hi=>yD (kd:=.i64) (t:=86) (n:=25) (size:=1) kr (x:=(.tmp 2)) (y:=(.tmp 6)) (gs1 0).b 0 (n / 8) ho hi.1 hi.2.1 (by omega) w),.se (C:=(Value.cells (svn s))) (C':=(Value.cells (svn (lay s n 1)))) (off:=0+(n / 8)*1) (v:=.int .u64 (BitVec.toNat ((nth s (n / 8)) ^^^ (yJ (BitVec.ofNat 64 1) n)):Int)) 0 (by show _+1≤25;omega) (uF s (n / 8) _ ((nth s (n / 8)) ^^^ (yJ (BitVec.ofNat 64 1) n)) hs (by omega) (by omega))] H1 kr fun w2 H2=>?_;clear H1;refine dS [.v,.l 0,.c (za1 128 135 (by omega)),.E (.int .u64 (Go.bits .xor .u64 ((BitVec.toNat (nth (lay s n 1) 16):Int)) ((BitVec.toNat (yJ (BitVec.ofNat 64 128) 135):Int)))) (.int .u64 (BitVec.toNat ((nth (lay s n 1) 16) ^^^ (yJ (BitVec.ofNat 64 128) 135)):Int)) (zw (nth (lay s n 1) 16) (yJ (BitVec.ofNat 64 128) 135)),.v,.se (C:=(Value.cells (svn (lay s n 1)))) (C':=(Value.cells (svn (lay (lay s n 1) 135 128)))) (off:=16) (v:=.int .u64 (BitVec.toNat ((nth (lay s n 1) 16) ^^^ (yJ (BitVec.ofNat 64 128) 135)):Int)) 0 (of_decide_eq_true kr) (uF (lay s n 1) 16 16 _ (qK _ _ hs) rfl (by omega))] H2 kr fun w3 H3=>?_;clear H2;refine zx [0,1,2,4] fun ρ1=>?_;have HK1:=H3.keep;clear H3;refine rS [.l 0,.s 1] HK1 kr fun gs4 w4 H4=>?_;clear HK1;refine zm kr<|wV ?_;refine ⟨[svn (lay (lay s n 1) 135 128)],(.agg (b:=(gs1 1).b) (Value.cells (svn (lay (lay s n 1) 135 128))) 86 (0,0) kr (H4.get 1 kr) kr .nil),?_,H4.below⟩;rfl
theorem b8 (x:BitVec 64)(sh:Nat):UInt8.ofNat (Int.toNat ((BitVec.toNat (BitVec.setWidth 8 (x >>> sh)):Int)))=UInt8.ofNat (BitVec.toNat x / 2^sh):=by
 apply UInt8.toNat_inj.1;rw [Int.toNat_natCast,BitVec.toNat_setWidth,BitVec.toNat_ushiftRight,Nat.shiftRight_eq_div_pow];simp
theorem ziI (q:List (BitVec 64)×Nat)(hq:xL q)(t:ByteArray)(ht:ByteArray.size t<0x4000000000000000):
 FnP Tryz.prog 71 #[svn q.1,.int .i64 ((q.2:Nat):Int),.string t] Marks (.tuple #[svn (zO q (tl t)).1,.int .i64 (((zO q (tl t)).2:Nat):Int)]):=ziG q.1 q.2 t hq.len hq.lt ht
theorem ziJ (q:List (BitVec 64)×Nat)(hq:xL q):Fn Tryz.prog 74 #[svn q.1,.int .i64 ((q.2:Nat):Int)] (svn (jq q)):=ziH q.1 q.2 hq.len hq.lt
def kF (s:List (BitVec 64))(i j:Nat):BitVec 8:=if j<i then BitVec.setWidth 8 (nth s (j / 8) >>> (j%8*8)) else 0
theorem ziK (s:List (BitVec 64))(i j:Nat):kF s (i+1) j=if j=i then BitVec.setWidth 8 (nth s (i / 8) >>> (i%8*8)) else kF s i j:=by
 unfold kF;by_cases h:j=i
 ·subst h;rw [if_pos (by omega),if_pos rfl]
 ·rw [if_neg h];by_cases h2:j<i
  ·rw [if_pos (by omega),if_pos h2]
  ·rw [if_neg (by omega),if_neg h2]
theorem ziL (s:List (BitVec 64)):((List.range 32).map fun i=>UInt8.ofBitVec (kF s 32 i))=qJ s:=by
 unfold qJ;refine List.map_congr_left fun i hi=>?_;unfold kF;rw [if_pos (by simpa using hi)];have h:=b8 (nth s (i / 8)) (i%8*8);rw [Int.toNat_natCast] at h;rw [←h];apply UInt8.toNat_inj.1;have:=(BitVec.setWidth 8 (nth s (i / 8) >>> (i%8*8))).isLt;rw [UInt8.toNat_ofNat_of_lt' (by simpa using this)];rfl
theorem ziM (s:List (BitVec 64)):Fn Tryz.prog 72 #[svn s] (.string (zf (qJ s))):=by
 refine Fn.intro (c:=zk Tryz.f72) [.tmp 2] 22 Tryz.func72 kr kr kr fun w=>?_;have H0:=St.start w;refine rS [.b,.v] H0 kr fun gs1 w1 H1=>?_;clear H0;refine rS [.a] H1 kr fun gs2 w2 H2=>?_;clear H1;refine zb kr<|rS [.v] H2 kr fun gs3 w3 H3=>?_;clear H2;refine zn 0 kr ?_;have HL1:St w.heap.size w w3 [((gs1 0).b,Obj.cells (Value.cells (svn s)) 86 (0,0)),((gs2 0).b,Obj.cells (Value.cells (zfO .u8 32)) 138 (0,0))]:=H3.as kr;clear H3;have HM2:St w.heap.size w w3 [((gs1 0).b,Obj.cells (Value.cells (svn s)) 86 (0,0)),((gs2 0).b,Obj.cells (Value.cells (qP 32 (kF s 0))) 138 (0,0))]:=HL1;refine zG kr (fun mz ρ ww=> ∃(i:Nat),32-i=mz∧(i≤32)∧St w.heap.size w ww [((gs1 0).b,Obj.cells (Value.cells (svn s)) 86 (0,0)),((gs2 0).b,Obj.cells (Value.cells (qP 32 (kF s i))) 138 (0,0))]∧Is [(0,svn s),(1,.pointer (some ⟨(gs1 0).b,0,none⟩)),(2,.string (⟨#[]⟩)),(3,.pointer (some ⟨(gs2 0).b,0,none⟩)),(5,.int .i64 (i:Int))] ρ) (32-0) ⟨0,rfl,(by omega),HM2,(Is.of ⟨kr,kr,kr,kr,kr,trivial⟩)⟩ ?_;clear HM2;rintro _ _ w4 ⟨i,rfl,hi,H4,_,rfl⟩;by_cases hc3:(i:Nat)<32
 ·refine rS [.E (.bool (decide ((i:Int)<32))) (.bool true) (za (decide_eq_true (by omega)))] H4 kr fun gs5 w5 H5=>?_;clear H4;refine zb kr<|zi kr kr<|zj kr<|wW<|zb kr<|zn 1 kr<|rS [.v,.v] H5 kr fun gs6 w6 H6=>?_;clear H5;refine rL [.v,.v,.E (.int .i64 (IntKind.i64.wrap ((i:Int).tdiv 8))) (.int .i64 ((i / 8:Nat):Int)) (zd (jj (a:=i) (b:=8) (by omega))),.o (ins:=[((.tmp 1),.pointer (some ⟨(gs1 0).b,0,none⟩)),((.tmp 10),.int .i64 ((i / 8:Nat):Int))]) (v:=.pointer (some ⟨(gs1 0).b,0+(i / 8)*1,none⟩)) (fun ρ o w ho hi=>yD (kd:=.i64) (t:=86) (n:=25) (size:=1) kr (x:=(.tmp 1)) (y:=(.tmp 10)) (gs1 0).b 0 (i / 8) ho hi.1 hi.2.1 (by omega) w),.ls (C:=(Value.cells (svn s))) (off:=0+(i / 8)*1) (v:=.int .u64 (BitVec.toNat (nth s (i / 8)):Int)) 0 (xM s (i / 8) _ (by omega) (by omega)),.v,.E (.int .i64 (Int.tmod (i:Int) 8)) (.int .i64 ((i%8:Nat):Int)) (zd (yL i 8)),.E (.int .i64 (IntKind.i64.wrap (((i%8:Nat):Int)*8))) (.int .i64 (((i%8)*8:Nat):Int)) (zd (qe (a:=i%8) (b:=8) (by omega))),.E (.int .u64 (Int.fdiv ((BitVec.toNat (nth s (i / 8)):Int)) (2^(min ((i%8)*8) 64)))) (.int .u64 (BitVec.toNat ((nth s (i / 8)) >>> ((i%8)*8)):Int)) (vU (nth s (i / 8)) ((i%8)*8)),.E (.int .u8 (IntKind.u8.wrap ((BitVec.toNat ((nth s (i / 8)) >>> ((i%8)*8)):Int)))) (.int .u8 (BitVec.toNat (BitVec.setWidth 8 ((nth s (i / 8)) >>> ((i%8)*8))):Int)) (zca ((nth s (i / 8)) >>> ((i%8)*8))),.o (ins:=[((.tmp 3),.pointer (some ⟨(gs2 0).b,0,none⟩)),((.tmp 8),.int .i64 (i:Int))]) (v:=.pointer (some ⟨(gs2 0).b,0+i*1,none⟩)) (fun ρ o w ho hi=>yD (kd:=.i64) (t:=138) (n:=32) (size:=1) kr (x:=(.tmp 3)) (y:=(.tmp 8)) (gs2 0).b 0 i ho hi.1 hi.2.1 (by omega) w),.se (C:=(Value.cells (qP 32 (kF s i)))) (C':=(Value.cells (qP 32 (kF s (i+1))))) (off:=0+i*1) (v:=.int .u8 (BitVec.toNat (BitVec.setWidth 8 ((nth s (i / 8)) >>> ((i%8)*8))):Int)) 1 (by show _+1≤32;omega) (zfP (k:=i) (x:=BitVec.setWidth 8 ((nth s (i / 8)) >>> ((i%8)*8))) (by omega) (by omega) (fun j _=>ziK s i j))] H6 kr fun gs7 w7 H7=>?_;clear H6;refine wW<|zx [0,1,2,3,4,5,6] fun ρ1=>?_;have HK4:=H7.keep;clear H7;refine rL [.E (.int .i64 (IntKind.i64.wrap ((i:Int)+1))) (.int .i64 ((i+1:Nat):Int)) (zd (zq (a:=i) (b:=1) (by omega))),.v] HK4 kr fun gs8 w8 H8=>?_;clear HK4;have HL5:St w.heap.size w w8 [((gs1 0).b,Obj.cells (Value.cells (svn s)) 86 (0,0)),((gs2 0).b,Obj.cells (Value.cells (qP 32 (kF s (i+1)))) 138 (0,0))]:=H8.as kr;clear H8;show ∃m,_∧_;exact ⟨_,(by omega),(i+1),rfl,(by omega),HL5,(Is.of ⟨kr,kr,kr,kr,kr,trivial⟩)⟩
 ·refine rS [.E (.bool (decide ((i:Int)<32))) (.bool false) (za (decide_eq_false (by omega)))] H4 kr fun gs9 w9 H9=>?_;clear H4;refine zb kr<|zh kr kr<|zy 0 kr<|wW<|zg [0,1,2] kr kr<|rp [.o (ins:=[((.tmp 3),.pointer (some ⟨(gs2 0).b,0,none⟩))]) (v:=.slice (some ⟨(gs2 0).b,0,none⟩) 32 32) (fun ρ o w ho hi=>zcf (t:=138) (n:=32) (e:=5) (z:=1) kr kr (x:=(.tmp 3)) ((gs2 0).b) ho hi.1 w)] H9 kr fun gs10 w10 H10=>wX [1,2] ?_;clear H9;have hi32:i=32:=by omega
  have hrow:=zfQ 32 (kF s i) (by unfold maxLen;omega);rw [show ((List.range 32).map fun j=>UInt8.ofBitVec (kF s i j))=qJ s by rw [hi32];exact ziL _] at hrow;refine zaq H10 (some 21) 76 9 5 (.tmp 20) 1 ((gs2 0).b) 32 32 (Value.cells (qP 32 (kF s i))) 138 (0,0) (qJ s) kr kr kr kr kr kr kr hrow<|rp [.v] H10 kr fun gs11 w11 H11=>wX [] ?_;clear H10;refine zc<|zm kr<|wV ?_;refine ⟨[.string (zf (qJ s))],(.tmp (.string (zf (qJ s))) kr .nil),?_,H11.below⟩;rfl
theorem of_fn1 (b:Nat)(s1:ByteArray)(h1:ByteArray.size s1<0x4000000000000000):FnP Tryz.prog 47 #[.slice (some ⟨b,0,none⟩) 1 1] (fun w=>Marks w∧w.heap[b]? =some (.cells #[.string s1] 9 (0,0))) (.string (zf (sumB (tl s1)))):=by
 refine FnP.intro (c:=zk Tryz.f47) [.tmp 2] 26 Tryz.func47 kr kr kr fun w hpre=>?_;have H0:=St.start w;refine rS [.v] H0 kr fun gs1 w1 H1=>?_;clear H0;refine rS [.a] H1 kr fun gs2 w2 H2=>?_;clear H1;refine rS [.v] H2 kr fun gs3 w3 H3=>?_;clear H2;refine zb kr<|rS [.v,.v,.v] H3 kr fun gs4 w4 H4=>?_;clear H3;refine zn 0 kr ?_;have HL1:St w.heap.size w w4 [((gs2 0).b,Obj.cells #[wZ,wZ,wZ,wZ,wZ,wZ,wZ,wZ,wZ,wZ,wZ,wZ,wZ,wZ,wZ,wZ,wZ,wZ,wZ,wZ,wZ,wZ,wZ,wZ,wZ] 86 (0,0))]:=H4.as kr;clear H4;refine zbE kr<|rS [.v] HL1 kr fun gs5 w5 H5=>?_;clear HL1;refine zb kr<|zi kr kr<|zj kr<|wW<|zb kr<|zn 1 kr<|rS [.o (ins:=[((.tmp 7),.slice (some ⟨b,0,none⟩) 1 1),((.tmp 9),.int .i64 0)]) (v:=.pointer (some ⟨b,0+0*1,none⟩)) (fun ρ o w ho hi=>jc (kd:=.i64) (t:=23) (e:=9) (size:=1) (bytes:=16) kr (x:=(.tmp 7)) (y:=(.tmp 9)) b 0 1 1 0 ho hi.1 hi.2.1 (by omega) w),.fs (off:=0+0*1) (v:=.string s1) hpre.2 (zz hpre.2) (by rfl),.v] H5 kr fun gs6 w6 H6=>?_;clear H5;refine rL [.l 0,.v,.v,.cp (pre:=Marks) (ziI (yy,0) zero_ok s1 (by assumption)) [] (fun w hb hd=>(Marks.oldB hb rfl hpre.1)),.v,.v,.v,.s 0,.v] H6 kr fun gs7 w7 H7=>?_;clear H6;refine wW<|zx [0,2,3,4,6,7,8,9,10] fun ρ1=>?_;have HK2:=H7.keep;clear H7;refine rL [.v,.v] HK2 kr fun gs8 w8 H8=>?_;clear HK2;show WPL _ _ _ _ _ _;refine jy<|rS [.v] H8 kr fun gs9 w9 H9=>?_;clear H8;refine zb kr<|zh kr kr<|zy 0 kr<|wW<|rS [.l 0,.v,.c (ziJ (zO (yy,0) (tl s1)) (zaZ _ zero_ok)),.cp (pre:=Marks) (zdW (jq (zO (yy,0) (tl s1)))) [] (fun w hb hd=>(Marks.oldB hb rfl hpre.1)),.c (ziM (mix (jq (zO (yy,0) (tl s1))))),.v] H9 kr fun gs10 w10 H10=>?_;clear H9;refine zm kr<|wV ?_;refine ⟨[.string (zf (qJ (mix (jq (zO (yy,0) (tl s1))))))],(.tmp (.string (zf (qJ (mix (jq (zO (yy,0) (tl s1))))))) kr .nil),?_,H10.below⟩;rfl
end Go.Proofs.YtbpmjppmpgeejaaGreatDoor.Ke
namespace Go.Proofs.YtbpmjppmpgeejaaGreatDoor
open Go.Proofs.Kec
set_option maxRecDepth 100000
end Go.Proofs.YtbpmjppmpgeejaaGreatDoor
namespace Go.Proofs.YtbpmjppmpgeejaaGreatDoor
open Go Go.RowKit
set_option linter.unusedVariables false
open Go.Proofs.Kec Ke
theorem zdY (A:Nat)(hA:A<big):Fn Tryz.prog 76 #[uv A] (.string (bs A)):=zij A hA
end Go.Proofs.YtbpmjppmpgeejaaGreatDoor
namespace Go.Proofs.YtbpmjppmpgeejaaGreatDoor
open Go.RowKit
end Go.Proofs.YtbpmjppmpgeejaaGreatDoor
namespace Go.Proofs.YtbpmjppmpgeejaaGreatDoor
open Go.ChangeShapes Go.WideShapes Go.ChangeAt Go.RowKit
set_option linter.unusedVariables false
end Go.Proofs.YtbpmjppmpgeejaaGreatDoor
namespace Go.Proofs.YtbpmjppmpgeejaaGreatDoor
open Go Go.RowKit
set_option linter.unusedVariables false
theorem zY (A q:Nat)(h:q<16):(dgs A 16).getD q 0=dgt A q:=by
 unfold dgs;simp [List.getD,List.getElem?_map,List.getElem?_range h]
theorem ziN (A:Nat):IntKind.u8.wrap (((dgt A 15 / 256:Nat)):Int)=Go.Proofs.YtbpmjppmpgeejaaGreatDoor.w3 A / 72057594037927936%256:=by
 unfold dgt w3;rw [zQ];simp only [Nat.reducePow];omega
theorem ziO (A:Nat):IntKind.u8.wrap (((dgt A 15%256:Nat)):Int)=Go.Proofs.YtbpmjppmpgeejaaGreatDoor.w3 A / 281474976710656%256:=by
 unfold dgt w3;rw [zQ];simp only [Nat.reducePow];omega
theorem ziP (A:Nat):IntKind.u8.wrap (((dgt A 14 / 256:Nat)):Int)=Go.Proofs.YtbpmjppmpgeejaaGreatDoor.w3 A / 1099511627776%256:=by
 unfold dgt w3;rw [zQ];simp only [Nat.reducePow];omega
theorem ziQ (A:Nat):IntKind.u8.wrap (((dgt A 14%256:Nat)):Int)=Go.Proofs.YtbpmjppmpgeejaaGreatDoor.w3 A / 4294967296%256:=by
 unfold dgt w3;rw [zQ];simp only [Nat.reducePow];omega
theorem ziR (A:Nat):IntKind.u8.wrap (((dgt A 13 / 256:Nat)):Int)=Go.Proofs.YtbpmjppmpgeejaaGreatDoor.w3 A / 16777216%256:=by
 unfold dgt w3;rw [zQ];simp only [Nat.reducePow];omega
theorem ziS (A:Nat):IntKind.u8.wrap (((dgt A 13%256:Nat)):Int)=Go.Proofs.YtbpmjppmpgeejaaGreatDoor.w3 A / 65536%256:=by
 unfold dgt w3;rw [zQ];simp only [Nat.reducePow];omega
theorem ziT (A:Nat):IntKind.u8.wrap (((dgt A 12 / 256:Nat)):Int)=Go.Proofs.YtbpmjppmpgeejaaGreatDoor.w3 A / 256%256:=by
 unfold dgt w3;rw [zQ];simp only [Nat.reducePow];omega
theorem ziU (A:Nat):IntKind.u8.wrap (((dgt A 12%256:Nat)):Int)=Go.Proofs.YtbpmjppmpgeejaaGreatDoor.w3 A%256:=by
 unfold dgt w3;rw [zQ];simp only [Nat.reducePow];omega
theorem ziV (A:Nat):IntKind.u8.wrap (((dgt A 11 / 256:Nat)):Int)=Go.Proofs.YtbpmjppmpgeejaaGreatDoor.w2 A / 72057594037927936%256:=by
 unfold dgt w2;rw [zQ];simp only [Nat.reducePow];omega
theorem ziW (A:Nat):IntKind.u8.wrap (((dgt A 11%256:Nat)):Int)=Go.Proofs.YtbpmjppmpgeejaaGreatDoor.w2 A / 281474976710656%256:=by
 unfold dgt w2;rw [zQ];simp only [Nat.reducePow];omega
theorem ziX (A:Nat):IntKind.u8.wrap (((dgt A 10 / 256:Nat)):Int)=Go.Proofs.YtbpmjppmpgeejaaGreatDoor.w2 A / 1099511627776%256:=by
 unfold dgt w2;rw [zQ];simp only [Nat.reducePow];omega
theorem ziY (A:Nat):IntKind.u8.wrap (((dgt A 10%256:Nat)):Int)=Go.Proofs.YtbpmjppmpgeejaaGreatDoor.w2 A / 4294967296%256:=by
 unfold dgt w2;rw [zQ];simp only [Nat.reducePow];omega
theorem ziZ (A:Nat):IntKind.u8.wrap (((dgt A 9 / 256:Nat)):Int)=Go.Proofs.YtbpmjppmpgeejaaGreatDoor.w2 A / 16777216%256:=by
 unfold dgt w2;rw [zQ];simp only [Nat.reducePow];omega
theorem zi0 (A:Nat):IntKind.u8.wrap (((dgt A 9%256:Nat)):Int)=Go.Proofs.YtbpmjppmpgeejaaGreatDoor.w2 A / 65536%256:=by
 unfold dgt w2;rw [zQ];simp only [Nat.reducePow];omega
theorem zi1 (A:Nat):IntKind.u8.wrap (((dgt A 8 / 256:Nat)):Int)=Go.Proofs.YtbpmjppmpgeejaaGreatDoor.w2 A / 256%256:=by
 unfold dgt w2;rw [zQ];simp only [Nat.reducePow];omega
theorem zi2 (A:Nat):IntKind.u8.wrap (((dgt A 8%256:Nat)):Int)=Go.Proofs.YtbpmjppmpgeejaaGreatDoor.w2 A%256:=by
 unfold dgt w2;rw [zQ];simp only [Nat.reducePow];omega
theorem zi3 (A:Nat):IntKind.u8.wrap (((dgt A 7 / 256:Nat)):Int)=Go.Proofs.YtbpmjppmpgeejaaGreatDoor.w1 A / 72057594037927936%256:=by
 unfold dgt w1;rw [zQ];simp only [Nat.reducePow];omega
theorem zi4 (A:Nat):IntKind.u8.wrap (((dgt A 7%256:Nat)):Int)=Go.Proofs.YtbpmjppmpgeejaaGreatDoor.w1 A / 281474976710656%256:=by
 unfold dgt w1;rw [zQ];simp only [Nat.reducePow];omega
theorem zi5 (A:Nat):IntKind.u8.wrap (((dgt A 6 / 256:Nat)):Int)=Go.Proofs.YtbpmjppmpgeejaaGreatDoor.w1 A / 1099511627776%256:=by
 unfold dgt w1;rw [zQ];simp only [Nat.reducePow];omega
theorem zi6 (A:Nat):IntKind.u8.wrap (((dgt A 6%256:Nat)):Int)=Go.Proofs.YtbpmjppmpgeejaaGreatDoor.w1 A / 4294967296%256:=by
 unfold dgt w1;rw [zQ];simp only [Nat.reducePow];omega
theorem zi7 (A:Nat):IntKind.u8.wrap (((dgt A 5 / 256:Nat)):Int)=Go.Proofs.YtbpmjppmpgeejaaGreatDoor.w1 A / 16777216%256:=by
 unfold dgt w1;rw [zQ];simp only [Nat.reducePow];omega
theorem zi8 (A:Nat):IntKind.u8.wrap (((dgt A 5%256:Nat)):Int)=Go.Proofs.YtbpmjppmpgeejaaGreatDoor.w1 A / 65536%256:=by
 unfold dgt w1;rw [zQ];simp only [Nat.reducePow];omega
theorem zi9 (A:Nat):IntKind.u8.wrap (((dgt A 4 / 256:Nat)):Int)=Go.Proofs.YtbpmjppmpgeejaaGreatDoor.w1 A / 256%256:=by
 unfold dgt w1;rw [zQ];simp only [Nat.reducePow];omega
theorem zja (A:Nat):IntKind.u8.wrap (((dgt A 4%256:Nat)):Int)=Go.Proofs.YtbpmjppmpgeejaaGreatDoor.w1 A%256:=by
 unfold dgt w1;rw [zQ];simp only [Nat.reducePow];omega
theorem zjb (A:Nat):IntKind.u8.wrap (((dgt A 3 / 256:Nat)):Int)=Go.Proofs.YtbpmjppmpgeejaaGreatDoor.w0 A / 72057594037927936%256:=by
 unfold dgt w0;rw [zQ];simp only [Nat.reducePow];omega
theorem zjc (A:Nat):IntKind.u8.wrap (((dgt A 3%256:Nat)):Int)=Go.Proofs.YtbpmjppmpgeejaaGreatDoor.w0 A / 281474976710656%256:=by
 unfold dgt w0;rw [zQ];simp only [Nat.reducePow];omega
theorem zjd (A:Nat):IntKind.u8.wrap (((dgt A 2 / 256:Nat)):Int)=Go.Proofs.YtbpmjppmpgeejaaGreatDoor.w0 A / 1099511627776%256:=by
 unfold dgt w0;rw [zQ];simp only [Nat.reducePow];omega
theorem zje (A:Nat):IntKind.u8.wrap (((dgt A 2%256:Nat)):Int)=Go.Proofs.YtbpmjppmpgeejaaGreatDoor.w0 A / 4294967296%256:=by
 unfold dgt w0;rw [zQ];simp only [Nat.reducePow];omega
theorem zjf (A:Nat):IntKind.u8.wrap (((dgt A 1 / 256:Nat)):Int)=Go.Proofs.YtbpmjppmpgeejaaGreatDoor.w0 A / 16777216%256:=by
 unfold dgt w0;rw [zQ];simp only [Nat.reducePow];omega
theorem zjg (A:Nat):IntKind.u8.wrap (((dgt A 1%256:Nat)):Int)=Go.Proofs.YtbpmjppmpgeejaaGreatDoor.w0 A / 65536%256:=by
 unfold dgt w0;rw [zQ];simp only [Nat.reducePow];omega
theorem zjh (A:Nat):IntKind.u8.wrap (((dgt A 0 / 256:Nat)):Int)=Go.Proofs.YtbpmjppmpgeejaaGreatDoor.w0 A / 256%256:=by
 unfold dgt w0;rw [zQ];simp only [Nat.reducePow];omega
theorem zji (A:Nat):IntKind.u8.wrap (((dgt A 0%256:Nat)):Int)=Go.Proofs.YtbpmjppmpgeejaaGreatDoor.w0 A%256:=by
 unfold dgt w0;rw [zQ];simp only [Nat.reducePow];omega
def bnI (A q:Nat):Int:=(bn A).getD q 0
theorem zjj (A j:Nat)(h1:1≤j)(h2:j≤16):IntKind.u8.wrap ((((dgs A 16).getD (j-1) 0 / 256:Nat)):Int)=bnI A (32-2*j):=by
 have h:j=1∨j=2∨j=3∨j=4∨j=5∨j=6∨j=7∨j=8∨j=9∨j=10∨j=11∨j=12∨j=13∨j=14∨j=15∨j=16:=by omega
 rcases h with rfl|rfl|rfl|rfl|rfl|rfl|rfl|rfl|rfl|rfl|rfl|rfl|rfl|rfl|rfl|rfl
 ·rw [zY A 0 (by omega)];exact zjh A
 ·rw [zY A 1 (by omega)];exact zjf A
 ·rw [zY A 2 (by omega)];exact zjd A
 ·rw [zY A 3 (by omega)];exact zjb A
 ·rw [zY A 4 (by omega)];exact zi9 A
 ·rw [zY A 5 (by omega)];exact zi7 A
 ·rw [zY A 6 (by omega)];exact zi5 A
 ·rw [zY A 7 (by omega)];exact zi3 A
 ·rw [zY A 8 (by omega)];exact zi1 A
 ·rw [zY A 9 (by omega)];exact ziZ A
 ·rw [zY A 10 (by omega)];exact ziX A
 ·rw [zY A 11 (by omega)];exact ziV A
 ·rw [zY A 12 (by omega)];exact ziT A
 ·rw [zY A 13 (by omega)];exact ziR A
 ·rw [zY A 14 (by omega)];exact ziP A
 ·rw [zY A 15 (by omega)];exact ziN A
theorem zjk (A j:Nat)(h1:1≤j)(h2:j≤16):IntKind.u8.wrap ((((dgs A 16).getD (j-1) 0%256:Nat)):Int)=bnI A (32-2*j+1):=by
 have h:j=1∨j=2∨j=3∨j=4∨j=5∨j=6∨j=7∨j=8∨j=9∨j=10∨j=11∨j=12∨j=13∨j=14∨j=15∨j=16:=by omega
 rcases h with rfl|rfl|rfl|rfl|rfl|rfl|rfl|rfl|rfl|rfl|rfl|rfl|rfl|rfl|rfl|rfl
 ·rw [zY A 0 (by omega)];exact zji A
 ·rw [zY A 1 (by omega)];exact zjg A
 ·rw [zY A 2 (by omega)];exact zje A
 ·rw [zY A 3 (by omega)];exact zjc A
 ·rw [zY A 4 (by omega)];exact zja A
 ·rw [zY A 5 (by omega)];exact zi8 A
 ·rw [zY A 6 (by omega)];exact zi6 A
 ·rw [zY A 7 (by omega)];exact zi4 A
 ·rw [zY A 8 (by omega)];exact zi2 A
 ·rw [zY A 9 (by omega)];exact zi0 A
 ·rw [zY A 10 (by omega)];exact ziY A
 ·rw [zY A 11 (by omega)];exact ziW A
 ·rw [zY A 12 (by omega)];exact ziU A
 ·rw [zY A 13 (by omega)];exact ziS A
 ·rw [zY A 14 (by omega)];exact ziQ A
 ·rw [zY A 15 (by omega)];exact ziO A
theorem zjl (A k:Nat)(h:k+2≤32):List.take (k+2) (bn A)=List.take k (bn A)++ [bnI A k,bnI A (k+1)]:=by
 have hl:(bn A).length=32:=rfl;rw [List.take_succ_eq_append_getElem (show k+1<(bn A).length by omega),List.take_succ_eq_append_getElem (show k<(bn A).length by omega),List.append_assoc];simp [bnI,List.getD_eq_getElem?_getD,List.getElem?_eq_getElem (show k<(bn A).length by omega),List.getElem?_eq_getElem (show k+1<(bn A).length by omega)]
theorem zjm (A k:Nat)(h:k+2≤32):List.map (Value.int .u8) (List.take (k+2) (bn A))=List.map (Value.int .u8) (List.take k (bn A))++ [.int .u8 (bnI A k),.int .u8 (bnI A (k+1))]:=by rw [zjl A k h,List.map_append];rfl
theorem zdZ (A:Nat)(hA:A<big):Fn Tryz.prog 51 #[uv A] (.string (bs A)):=by
 refine Fn.intro (c:=zk Tryz.f51) [.tmp 2] 30 Tryz.func51 kr kr kr fun w=>?_;have H0:=St.start w;refine rS [.b,.v] H0 kr fun gs1 w1 H1=>?_;clear H0;refine zg [0,1,2] kr kr<|rp [.l 0] H1 kr fun gs2 w2 H2=>wX [1,2] ?_;clear H1;refine xA H2 (some 7) 77 #[uv A] (fun _=>True) 3 1 (fun curZ capZ nZ lZ=>(nZ=List.length lZ∧Rw 1 curZ capZ nZ (zW lZ)∧Ok lZ∧(lZ=dgs A 16∧vl lZ=A∧List.length lZ=16))) (vc A hA) trivial kr kr ?_;intro b_1 cap_2 n_3 cur_4 l_5 w3 H3 hs_6;clear H2;obtain ⟨hs_6n,hs_6r,hs_6o,hs_6s⟩:=hs_6;obtain ⟨hs_6a,hs_6b,hs_6c⟩:=hs_6s;refine rp [.v] H3 kr fun gs4 w4 H4=>wX [] ?_;clear H3;refine zc<|rS [.nw (fun b=>.slice (some ⟨b,0,none⟩) 0 0) #[] 5,.v] H4 kr fun gs5 w5 H5=>?_;clear H4;refine zb kr<|rS [.v] H5 kr fun gs6 w6 H6=>?_;clear H5;refine zn 0 kr ?_;have HL1:St w.heap.size w w6 [(b_1,Obj.cells cur_4 3 (0,0)),((gs1 0).b,Obj.cells (Value.cells (uv A)) 48 (0,0)),((gs5 0).b,Obj.cells #[] 5 (0,0))]:=H6.as kr;clear H6;have HD2:St w.heap.size w w6 [(b_1,Obj.cells cur_4 3 (0,0)),((gs5 0).b,Obj.cells #[] 5 (0,0))]:=HL1.sub (List.Sublist.cons_cons _ (List.Sublist.cons _ (List.Sublist.cons_cons _ List.Sublist.slnil)));have HF3:St w.heap.size w w6 [(b_1,Obj.cells cur_4 3 (0,0)),((gs5 0).b,Obj.cells #[] 5 (0,0))]:=HD2.front 0 kr kr;have HF4:St w.heap.size w w6 [((gs5 0).b,Obj.cells #[] 5 (0,0)),(b_1,Obj.cells cur_4 3 (0,0))]:=HF3.front 1 kr kr;refine zG kr (fun mz ρ ww=> ∃(b:Nat) (cap:Nat) (n:Nat) (cur:Array Value) (j:Nat),j=mz∧(n=32-2*j)∧(Rw 1 cur cap n (List.map (Value.int .u8) (List.take (32-2*j) (bn A))))∧(j≤16)∧St w.heap.size w ww [(b,Obj.cells cur 5 (0,0)),(b_1,Obj.cells cur_4 3 (0,0))]∧Is [(0,uv A),(1,.pointer (some ⟨(gs1 0).b,0,none⟩)),(2,.string (⟨#[]⟩)),(3,.slice (some ⟨b_1,0,none⟩) n_3 cap_2),(4,.slice (some ⟨b,0,none⟩) n cap),(5,.int .i64 ((j:Int)-1))] ρ) 16 ⟨(gs5 0).b,0,0,#[],16,rfl,rfl,(Rw.lit #[] 0 rfl (by unfold maxLen;omega)),(by omega),HF4,(Is.of ⟨kr,kr,kr,kr,kr,kr,trivial⟩)⟩ ?_;clear HF4;rintro _ _ w7 ⟨b,cap,n,cur,j,rfl,hn,hr,hj,H7,_,rfl⟩;refine zb kr<|zg [0,1] kr kr<|rp [.v] H7 kr fun gs8 w8 H8=>wX [1] ?_;clear H7;by_cases hc5:((j:Int)-1:Int)≥0
 ·refine rp [.E (.bool (decide (0≤(j:Int)-1))) (.bool true) (za (decide_eq_true (by omega)))] H8 kr fun gs9 w9 H9=>wX [] ?_;clear H8;refine zc<|zi kr kr<|zj kr<|wW<|zb kr<|zn 1 kr<|yr 5 (v:=.int .i64 ((j:Int)-1)) (v':=.int .i64 ((j-1:Nat):Int)) (zd (show ((j:Int)-1)=((j-1:Nat):Int) from by omega)) kr<|yr 9 (v:=.int .i64 ((j:Int)-1)) (v':=.int .i64 ((j-1:Nat):Int)) (zd (show ((j:Int)-1)=((j-1:Nat):Int) from by omega)) kr ?_;have hdd:=uf hs_6o (j-1);have HL6:St w.heap.size w w9 [(b,Obj.cells cur 5 (0,0)),(b_1,Obj.cells cur_4 3 (0,0))]:=H9.as kr;clear H9;refine D2.g_draw0 [0,1,2,3,4,5,6,7,8,9,10,11,12,13,14,15] [((some 13),fun _=>.slice (some ⟨b,0,none⟩) n cap),((some 14),fun _=>.slice (some ⟨b_1,0,none⟩) n_3 cap_2),((some 15),fun _=>.int .i64 ((j-1:Nat):Int)),((some 16),fun _=>.pointer (some ⟨b_1,0+(j-1)*1,none⟩)),((some 17),fun _=>.int .i64 ((List.getD l_5 (j-1) 0:Nat):Int)),((some 18),fun _=>.int .i64 (((List.getD l_5 (j-1) 0) / 256:Nat):Int)),((some 19),fun _=>.int .u8 (bnI A (32-2*j))),((some 20),fun _=>.slice (some ⟨b_1,0,none⟩) n_3 cap_2),((some 21),fun _=>.int .i64 ((j-1:Nat):Int)),((some 22),fun _=>.pointer (some ⟨b_1,0+(j-1)*1,none⟩)),((some 23),fun _=>.int .i64 ((List.getD l_5 (j-1) 0:Nat):Int)),((some 24),fun _=>.int .i64 (((List.getD l_5 (j-1) 0)%256:Nat):Int)),((some 25),fun _=>.int .u8 (bnI A (32-2*j+1))),((some 26),fun b=>.slice (some ⟨b.b,0,none⟩) 2 2),((some 27),fun y=>.slice (some ⟨y.b,0,none⟩) y.n y.cap),((some 4),fun y=>.slice (some ⟨y.b,0,none⟩) (y.n) (y.cap))] (D2.Pre w.heap.size w (fun L g=>[(true,(bif L 14 then ((g 14).b,Obj.cells ((g 14).cur) 5 (0,0)) else (b,Obj.cells cur 5 (0,0)))),(true,(b_1,Obj.cells cur_4 3 (0,0))),(L 13,((g 13).b,Obj.cells #[.int .u8 (bnI A (32-2*j)),.int .u8 (bnI A (32-2*j+1))] 5 (0,0)))]) (fun L g=>(L 14=true→((g 14).n=n+2∧Rw 1 (g 14).cur (g 14).cap (n+2) (List.map (Value.int .u8) (List.take (32-2*j+2) (bn A)))))∧(L 15=true→g 15=g 14)∧True)) kr kr kr ⟨D2.StE.of HL6.drew _ kr,⟨(fun h=>nomatch h),(fun h=>nomatch h),trivial⟩⟩ ⟨?_,?_,?_,?_,?_,?_,?_,?_,?_,?_,?_,?_,?_,?_,?_,?_,trivial⟩ ?_
  ·exact D2.gv_val (fun _ _ _ h=>h) (fun g w=>by kernel_rfl)
  ·exact D2.gv_val (fun _ _ _ h=>h) (fun g w=>by kernel_rfl)
  ·exact D2.gv_val (fun _ _ _ h=>h) (fun g w=>by kernel_rfl)
  ·exact D2.gv_op (fun _ _ _ h=>h) _ (fun g=>by kernel_rfl) (fun g=>(fun o w ho=>jc (kd:=.i64) (t:=107) (e:=3) (size:=1) (bytes:=8) kr (x:=(.tmp 14)) (y:=(.tmp 15)) b_1 0 n_3 cap_2 (j-1) ho kr kr (by omega) w))
  ·exact D2.gv_load1 3 (.tmp 16) 1 (fun g=>b_1) (fun g=>0+(j-1)*1) (fun g=>cur_4) 3 (0,0) (fun _ _ _ h=>h) (fun g=>by kernel_rfl) (fun g=>by kernel_rfl) (fun L g hN=>kr) kr (fun L g hN hF=>by exact (hs_6r.atD (by omega) hs_6n))
  ·exact D2.gv_valE (fun _ _ _ h=>h) (V':=.int .i64 (IntKind.i64.wrap (((List.getD l_5 (j-1) 0:Nat):Int).tdiv 256))) (fun g w=>by kernel_rfl) (zd (jj (a:=List.getD l_5 (j-1) 0) (b:=256) (by omega)))
  ·exact D2.gv_valE (fun _ _ _ h=>h) (V':=.int .u8 (IntKind.u8.wrap ((((List.getD l_5 (j-1) 0) / 256:Nat):Int)))) (fun g w=>by kernel_rfl) (zd (by rw [hs_6a];exact zjj A j (by omega) (by omega)))
  ·exact D2.gv_val (fun _ _ _ h=>h) (fun g w=>by kernel_rfl)
  ·exact D2.gv_val (fun _ _ _ h=>h) (fun g w=>by kernel_rfl)
  ·exact D2.gv_op (fun _ _ _ h=>h) _ (fun g=>by kernel_rfl) (fun g=>(fun o w ho=>jc (kd:=.i64) (t:=107) (e:=3) (size:=1) (bytes:=8) kr (x:=(.tmp 20)) (y:=(.tmp 21)) b_1 0 n_3 cap_2 (j-1) ho kr kr (by omega) w))
  ·exact D2.gv_load1 3 (.tmp 22) 1 (fun g=>b_1) (fun g=>0+(j-1)*1) (fun g=>cur_4) 3 (0,0) (fun _ _ _ h=>h) (fun g=>by kernel_rfl) (fun g=>by kernel_rfl) (fun L g hN=>kr) kr (fun L g hN hF=>by exact (hs_6r.atD (by omega) hs_6n))
  ·exact D2.gv_valE (fun _ _ _ h=>h) (V':=.int .i64 (Int.tmod ((List.getD l_5 (j-1) 0:Nat):Int) 256)) (fun g w=>by kernel_rfl) (zd (yL (List.getD l_5 (j-1) 0) 256))
  ·exact D2.gv_valE (fun _ _ _ h=>h) (V':=.int .u8 (IntKind.u8.wrap ((((List.getD l_5 (j-1) 0)%256:Nat):Int)))) (fun g w=>by kernel_rfl) (zd (by rw [hs_6a];exact zjk A j (by omega) (by omega)))
  ·exact D2.gv_new (fun b=>.slice (some ⟨b,0,none⟩) 2 2) #[.int .u8 (bnI A (32-2*j)),.int .u8 (bnI A (32-2*j+1))] 5 2 (fun g w=>by kernel_rfl) (fun L g b hN=>kr) (fun L g b hN hF=>hF)
  ·exact D2.gv_append 76 5 1 1 (.tmp 13) (.tmp 26) 0 2 (fun g=>b) (fun g=>(g 13).b) (fun g=>n) (fun g=>2) (fun g=>cap) (fun g=>2) (fun g=>cur) (fun g=>#[.int .u8 (bnI A (32-2*j)),.int .u8 (bnI A (32-2*j+1))]) 5 (0,0) (fun g=>(List.map (Value.int .u8) (List.take (32-2*j) (bn A)))) (fun g=>[.int .u8 (bnI A (32-2*j)),.int .u8 (bnI A (32-2*j+1))]) (fun g=>by kernel_rfl) kr (fun g=>by kernel_rfl) (fun L g hN=>(by have hL14:L 14=false:=hN.1;exact D2.ent_get' (p:=true) (e:=(bif L 14 then ((g 14).b,Obj.cells ((g 14).cur) 5 (0,0)) else (b,Obj.cells cur 5 (0,0)))) kr (by rfl) (by simp only [hL14,cond_true,cond_false]<;>rfl))) (fun L g hN hF=>by exact hr) (fun g=>by kernel_rfl) (fun L g hN=>(by have hL13:L 13=true:=(hN.bef 13 kr);exact D2.ent_get' (p:=L 13) (e:=((g 13).b,Obj.cells #[.int .u8 (bnI A (32-2*j)),.int .u8 (bnI A (32-2*j+1))] 5 (0,0))) kr (by exact hL13) (by simp only [hL13,cond_true,cond_false]<;>rfl))) (fun L g hN hF=>by exact ⟨(by rfl),(by rfl),(by intro u hu;simp at hu;first | exact hu.elim | (rcases hu with rfl | rfl | rfl | rfl<;>rfl) | (rcases hu with rfl | rfl<;>rfl) | (subst hu;rfl)),(by omega),(by unfold maxLen;omega)⟩) (fun L g y hN=>kr) (fun L g y hN hF hyn hyr=>by have hnew:=(show (y.n=n+2∧Rw 1 y.cur y.cap (n+2) (List.map (Value.int .u8) (List.take (32-2*j+2) (bn A)))) from ⟨hyn,by rw [zjm A _ (by omega)];exact hyr⟩);exact ⟨fun _=>hnew,(fun hx=>nomatch (Eq.trans (Eq.symm (show L 15=true from hx)) (hN.post 15 kr))),trivial⟩)
  ·exact D2.gv_valG (fun g=>g 14) (fun L g w hN hp=>⟨hp.1,hp.2.1,fun _=>rfl,trivial⟩) (fun g w=>by kernel_rfl)
  intro L0 G10 w10 hall HL;clear HL6;have H10:St w.heap.size w w10 [((G10 14).b,Obj.cells ((G10 14).cur) 5 (0,0)),(b_1,Obj.cells cur_4 3 (0,0)),((G10 13).b,Obj.cells #[.int .u8 (bnI A (32-2*j)),.int .u8 (bnI A (32-2*j+1))] 5 (0,0))]:=by have e13:=hall 13 (Nat.le_of_ble_eq_true kr);have e14:=hall 14 (Nat.le_of_ble_eq_true kr);have e15:=hall 15 (Nat.le_of_ble_eq_true kr);have hS:=D2.StE.st HL.1;simp only [e13,e14,e15,cond_true,D2.pres] at hS;exact hS
  have hf14_10:((G10 14).n=n+2∧Rw 1 (G10 14).cur (G10 14).cap (n+2) (List.map (Value.int .u8) (List.take (32-2*j+2) (bn A)))):=HL.2.1 (hall 14 (Nat.le_of_ble_eq_true kr));have hf15_10:G10 15=G10 14:=HL.2.2.1 (hall 15 (Nat.le_of_ble_eq_true kr));clear HL hall;rw [←hf15_10] at H10 hf14_10;refine wW<|zx [0,1,2,3,4,5,10] fun ρ1=>rL [.v,.E (.int .i64 (IntKind.i64.wrap (((j-1:Nat):Int)-1))) (.int .i64 (((j-1:Nat):Int)-1)) (zd (wrap_i64 (by omega) (by omega))),.v] H10 kr fun gs11 w11 H11=>?_;clear H10;have HL7:St w.heap.size w w11 [((G10 15).b,Obj.cells ((G10 15).cur) 5 (0,0)),(b_1,Obj.cells cur_4 3 (0,0)),((G10 13).b,Obj.cells #[.int .u8 (bnI A (32-2*j)),.int .u8 (bnI A (32-2*j+1))] 5 (0,0))]:=H11.as kr;clear H11;have HD8:St w.heap.size w w11 [((G10 15).b,Obj.cells ((G10 15).cur) 5 (0,0)),(b_1,Obj.cells cur_4 3 (0,0))]:=HL7.sub (List.Sublist.cons_cons _ (List.Sublist.cons_cons _ (List.Sublist.cons _ List.Sublist.slnil)));show ∃m,_∧_;exact ⟨_,(by omega),(G10 15).b,(G10 15).cap,(G10 15).n,(G10 15).cur,(j-1),rfl,(by have h9:=hf14_10.1;omega),(by have h9:=hf14_10;rw [show 32-2*(j-1)=32-2*j+2 by omega,h9.1];exact h9.2),(by omega),HD8,(Is.of ⟨kr,kr,kr,kr,kr,kr,trivial⟩)⟩
 ·refine rp [.E (.bool (decide (0≤(j:Int)-1))) (.bool false) (za (decide_eq_false (by omega)))] H8 kr fun gs12 w12 H12=>wX [] ?_;clear H8;refine zc<|zh kr kr<|zy 0 kr<|wW ?_;obtain rfl:j=0:=by omega
  refine zg [0,1,2] kr kr<|rp [.v] H12 kr fun gs13 w13 H13=>wX [1,2] ?_;clear H12;refine zcc H13 (some 29) 76 9 5 (.tmp 28) 0 b n cap cur 5 (0,0) (bn A) kr kr kr kr kr kr kr hr<|rp [.v] H13 kr fun gs14 w14 H14=>wX [] ?_;clear H13;refine zc<|zm kr<|wV ?_;refine ⟨[.string (strOfNums (bn A))],(.tmp (.string (strOfNums (bn A))) kr .nil),?_,H14.below⟩;rfl
theorem zjn (r s:Nat)(hr:r<big)(hs:s<big)(v:Int)(hm:yI r s v=false):Fn Tryz.prog 48 #[sgv r s (v)] (.tuple #[.string ⟨#[]⟩,.int .i64 1]):=by
 refine Fn.intro (c:=zk Tryz.f48) [.tmp 2,.tmp 3] 20 Tryz.func48 kr kr kr fun w=>?_;have H0:=St.start w;refine rS [.b,.v,.v] H0 kr fun gs1 w1 H1=>?_;clear H0;refine zb kr<|zg [0,1,2] kr kr<|rp [.l 0,.c (zdN r s hr hs (v))] H1 kr fun gs2 w2 H2=>wX [2] ?_;clear H1;refine zP 5 (v:=.bool (yI r s (v))) (v':=.bool false) (za hm) kr<|rp [.v] H2 kr fun gs3 w3 H3=>wX [] ?_;clear H2;refine zc<|zi kr kr<|rS [.v,.v] H3 kr fun gs4 w4 H4=>?_;clear H3;refine zm kr<|wV ?_;refine ⟨[.string (⟨#[]⟩),.int .i64 1],(.tmp (.string (⟨#[]⟩)) kr (.tmp (.int .i64 1) kr .nil)),?_,H4.below⟩;rfl
theorem zd0 (r s:Nat)(hr:r<big)(hs:s<big)(v:Int)(hm:yI r s v=true):Fn Tryz.prog 48 #[sgv r s (v)] (.tuple #[.string (sbs r s v),.int .i64 0]):=by
 refine Fn.intro (c:=zk Tryz.f48) [.tmp 2,.tmp 3] 20 Tryz.func48 kr kr kr fun w=>?_;have H0:=St.start w;refine rS [.b,.v,.v] H0 kr fun gs1 w1 H1=>?_;clear H0;refine zb kr<|zg [0,1,2] kr kr<|rp [.l 0,.c (zdN r s hr hs (v))] H1 kr fun gs2 w2 H2=>wX [2] ?_;clear H1;refine zP 5 (v:=.bool (yI r s (v))) (v':=.bool true) (za hm) kr<|rp [.v] H2 kr fun gs3 w3 H3=>wX [] ?_;clear H2;refine zc<|zh kr kr<|zj kr<|wW<|dSg (fun gs4=>[.v,.l 0,.c (f:=76) (args:=#[uv r]) (v:=.string (bs r)) (zdY r hr),.v,.l 0,.c (f:=76) (args:=#[uv s]) (v:=.string (bs s)) (zdY s hs),.o (ins:=[((.tmp 9),.string (bs r)),((.tmp 12),.string (bs s))]) (v:=.string ((bs r)++(bs s))) (fun ρ o w ho hi=>qN (t:=9) (t':=9) (x:=(.tmp 9)) (y:=(.tmp 12)) (bs r) (bs s) w ho hi.1 hi.2.1 (by rw [jp,jp];omega)),.v,.l 0,.v,.nw (fun b=>.slice (some ⟨b,0,none⟩) 1 1) #[.int .u8 (IntKind.u8.wrap v)] 5,.x (ins:=[((.tmp 17),.slice (some ⟨(gs4 10).b,0,none⟩) 1 1)]) [(1,((gs4 10).b,Obj.cells #[.int .u8 (IntKind.u8.wrap v)] 5 (0,0)))] (jk (t:=76) (t':=9) (e:=5) [(IntKind.u8.wrap v)] kr kr kr (Rw.lit #[.int .u8 (IntKind.u8.wrap v)] 1 (by rfl) (by unfold maxLen;omega))),.o (ins:=[((.tmp 13),.string ((bs r)++(bs s))),((.tmp 18),.string (strOfNums ([(IntKind.u8.wrap v)])))]) (v:=.string (((bs r)++(bs s))++(strOfNums ([(IntKind.u8.wrap v)])))) (fun ρ o w ho hi=>qN (t:=9) (t':=9) (x:=(.tmp 13)) (y:=(.tmp 18)) ((bs r)++(bs s)) (strOfNums ([(IntKind.u8.wrap v)])) w ho hi.1 hi.2.1 (by rw [uA,jp,jp];show 32+32+1≤_;omega)),.v,.v]) H3 kr fun gs4 w4 H4=>?_;clear H3;refine zm kr<|wV ?_;refine ⟨[.string (((bs r)++(bs s))++(strOfNums ([(IntKind.u8.wrap v)]))),.int .i64 0],(.tmp (.string (((bs r)++(bs s))++(strOfNums ([(IntKind.u8.wrap v)])))) kr (.tmp (.int .i64 0) kr .nil)),?_,H4.below⟩;rfl
theorem zjo (r s:Nat)(hr:r<big)(hs:s<big)(v:Int):Fn Tryz.prog 32 #[sgv r s (v)] (.string (sbs r s v)):=by
 refine Fn.intro (c:=zk Tryz.f32) [.tmp 2] 16 Tryz.func32 kr kr kr fun w=>?_;have H0:=St.start w;refine rS [.b,.v] H0 kr fun gs1 w1 H1=>?_;clear H0;refine dSg (fun gs2=>[.v,.l 0,.c (zdZ r hr),.v,.l 0,.c (zdZ s hs),.o (ins:=[((.tmp 5),.string (bs r)),((.tmp 8),.string (bs s))]) (v:=.string ((bs r)++(bs s))) (fun ρ o w ho hi=>qN (t:=9) (t':=9) (x:=(.tmp 5)) (y:=(.tmp 8)) (bs r) (bs s) w ho hi.1 hi.2.1 (by rw [jp,jp];omega)),.v,.l 0,.v,.nw (fun b=>.slice (some ⟨b,0,none⟩) 1 1) #[.int .u8 (IntKind.u8.wrap v)] 5,.x (ins:=[((.tmp 13),.slice (some ⟨(gs2 10).b,0,none⟩) 1 1)]) [(1,((gs2 10).b,Obj.cells #[.int .u8 (IntKind.u8.wrap v)] 5 (0,0)))] (jk (t:=76) (t':=9) (e:=5) [(IntKind.u8.wrap v)] kr kr kr (Rw.lit #[.int .u8 (IntKind.u8.wrap v)] 1 (by rfl) (by unfold maxLen;omega))),.o (ins:=[((.tmp 9),.string ((bs r)++(bs s))),((.tmp 14),.string (strOfNums ([(IntKind.u8.wrap v)])))]) (v:=.string (((bs r)++(bs s))++(strOfNums ([(IntKind.u8.wrap v)])))) (fun ρ o w ho hi=>qN (t:=9) (t':=9) (x:=(.tmp 9)) (y:=(.tmp 14)) ((bs r)++(bs s)) (strOfNums ([(IntKind.u8.wrap v)])) w ho hi.1 hi.2.1 (by rw [uA,jp,jp];show 32+32+1≤_;omega)),.v]) H1 kr fun gs2 w2 H2=>?_;clear H1;refine zm kr<|wV ?_;refine ⟨[.string (((bs r)++(bs s))++(strOfNums ([(IntKind.u8.wrap v)])))],(.tmp (.string (((bs r)++(bs s))++(strOfNums ([(IntKind.u8.wrap v)])))) kr .nil),?_,H2.below⟩;rfl
end Go.Proofs.YtbpmjppmpgeejaaGreatDoor
namespace Go.Proofs.YtbpmjppmpgeejaaGreatDoor
open Go.RowKit
end Go.Proofs.YtbpmjppmpgeejaaGreatDoor
namespace Go.Proofs.YtbpmjppmpgeejaaGreatDoor
open Go Go.RowKit
set_option linter.unusedVariables false
theorem uG (r s:Nat)(v:Int):(sbs r s v).size=65:=by
 unfold sbs;rw [uA,uA,jp,jp];rfl
theorem uH (m sz ln:Nat):zv 97 0 m sz ln=(decide (m=0)&&(decide (sz=20)&&decide (ln=0))):=by
 unfold zv yx zT ya;rw [Bool.eq_iff_iff];simp<;>omega
theorem zd1 (m sz ln:Nat):zv 115 0 m sz ln=(decide (m=0)&&(decide (sz=65)&&decide (ln=0))):=by
 unfold zv yx zT ya;rw [Bool.eq_iff_iff];simp<;>omega
theorem za2 (m sz ln:Nat):zv 110 0 m sz ln=(decide (sz=0)&&decide (ln=0)):=by
 unfold zv yx zT ya;rw [Bool.eq_iff_iff];simp<;>omega
theorem za3 (m sz ln:Nat):zv 98 0 m sz ln=(decide (m=0)&&(decide (sz≤64)&&decide (ln=0))):=by
 unfold zv yx zT ya;rw [Bool.eq_iff_iff];simp<;>omega
theorem xN (g:Nat)(q:ByteArray)(x:Nat×ByteArray)(l:Fe)(hg:by_ q 0=g)(h:g≠42):yG q x l=zv g 0 x.1 x.2.size l.len:=by
 have e:kdB q=.nil:=by unfold kdB;rw [hg,if_neg h]
 unfold yG;rw [e,hg,beq_eq_false_iff_ne.2 h];simp [Fr.len]
def hv:List UInt8→List UInt8
 | []=>[]
 | b::t=>(b >>> 4)::(b &&& 15)::hv t
def isP (l:List UInt8):Bool:=l.all fun b=>decide (b.toNat≤15)
def jn:List UInt8→List UInt8
 | a::b::t=>(a <<< 4 ||| b)::jn t
 | _=>[]
def lexB:List UInt8→List UInt8→Bool
 | [],[]=>false
 | [],_::_=>true
 | _::_,[]=>false
 | a::l,b::m=>if a.toNat<b.toNat then true else if a=b then lexB l m else false
theorem zjp (l:List UInt8):lexB l []=false:=by cases l<;>rfl
theorem za4: ∀l:List UInt8,lexB l l=false
 | []=>rfl
 | a::l=>by simp only [lexB,Nat.lt_irrefl,if_false,if_true];exact za4 l
theorem zd2 {a b:UInt8}{l m:List UInt8}(h:lexB (a::l) (b::m)=true):a.toNat<b.toNat∨(a=b∧lexB l m=true):=by
 unfold lexB at h;split at h
 ·rename_i q;exact .inl q
 ·split at h
  ·rename_i q;exact .inr ⟨q,h⟩
  ·cases h
theorem zjq {x y z:List UInt8} :lexB x y=true→lexB y z=true→lexB x z=true:=by
 induction x generalizing y z with
 | nil=>
  intro h1 h2;cases z with
  | nil=>rw [zjp] at h2;cases h2
  | cons c z=>rfl
 | cons a x ih=>
  intro h1 h2;cases y with
  | nil=>cases h1
  | cons b y=>
   cases z with
   | nil=>cases h2
   | cons c z=>
    unfold lexB;rcases zd2 h1 with q1 | ⟨rfl,q1⟩<;>rcases zd2 h2 with q2 | ⟨rfl,q2⟩
    ·rw [if_pos (by omega)]
    ·rw [if_pos q1]
    ·rw [if_pos q2]
    ·rw [if_neg (Nat.lt_irrefl _),if_pos rfl];exact ih q1 q2
structure Nd where
 kind:Int
 part:ByteArray
 value:ByteArray
 kids:List Int
def kyB (l:List UInt8):Bool:=isP l&& !decide (l.length%2=1)
def kyS (l:List UInt8):ByteArray:=bif kyB l then zf (jn l) else ⟨#[]⟩
section
variable {P:Program}{N:Nat}{ops:Array Oper}{i:Nat}{r:List Nat}{K:Env→World→Prop}{ρ:Env}{w:World}
end
abbrev Pr:=ByteArray×ByteArray
def mayM (k v:ByteArray):Bool:=(decide (1≤k.size)&&decide (k.size≤32))&&(decide (1≤v.size)&&decide (v.size≤500))
def zjr (part:List UInt8)(v:ByteArray)(ps:List Pr):List Pr:=if mayM (kyS part) v=true then ps++ [(kyS part,v)] else ps
def zjs (kind:Int)(i:Nat):List UInt8:=if kind=3 then [UInt8.ofNat i] else []
def za5 (go:Int→List UInt8→Nat×List Pr→Nat×List Pr)(x:Nd)(part:List UInt8):Nat→Nat×List Pr→Nat×List Pr
 | 0,s=>s
 | i+1,s=>if x.kids.getD i (-1)= -1 then za5 go x part i s else go (x.kids.getD i (-1)) (part++zjs x.kind i) (za5 go x part i s)
def zd3 (A:List Nd):Nat→Int→List UInt8→Nat×List Pr→Nat×List Pr
 | 0,_,_,s=>s
 | f+1,at_,ahead,s=>
  if s.1=0∨at_<0∨(A.length:Int)≤at_ then s
  else match A[at_.toNat]? with
   | none=>s
   | some x=>if 64<ahead.length+x.part.size then (s.1-1,s.2)
    else za5 (zd3 A f) x (ahead++tl x.part) 16 (s.1-1,zjr (ahead++tl x.part) x.value s.2)
section
variable {P:Program}{N:Nat}{ops:Array Oper}{i:Nat}{r:List Nat}{K:Env→World→Prop}{ρ:Env}{w:World}
end
theorem zd4: ∀x y:List UInt8,Op.bytesLess x y=lexB x y
 | [],[]=>rfl
 | [],_::_=>rfl
 | _::_,[]=>rfl
 | a::x,b::y=>by
  unfold Op.bytesLess lexB;rw [zd4 x y];by_cases h:a.toNat<b.toNat
  ·rw [if_pos h,decide_eq_true (show a<b from h)];rfl
  ·rw [if_neg h,decide_eq_false (show ¬a<b from h)];by_cases e:a=b
   ·rw [if_pos e,e];simp
   ·rw [if_neg e];simp [e]
theorem za6 (a b:ByteArray):Op.bytesLess a.toList b.toList=lexB (tl a) (tl b):=by
 rw [ByteArray.toList_eq,ByteArray.toList_eq];exact zd4 _ _
def zl5 (A:List Nd)(root:Int):List Pr:=(zd3 A 192 root [] (192,[])).2
structure OkP (L:List Pr):Prop where
 len:L.length≤64
 may: ∀x∈L,mayM x.1 x.2=true
 rise:L.Pairwise fun a b=>lexB (tl a.1) (tl b.1)=true
theorem xO {α:Type}{L:List α}{i:Nat}{a:α}(ha:L[i]? =some a):L.take (i+1)=L.take i++ [a]:=by
 rw [List.take_add_one,ha];rfl
theorem zd5: ∀ {x y:List UInt8},lexB x y=false→x≠y→lexB y x=true
 | [],[],_,h=>absurd rfl h
 | [],_::_,h,_=>by simp [lexB] at h
 | _::_,[],_,_=>rfl
 | a::x,b::y,h,hne=>by
  unfold lexB at h ⊢;by_cases e:a=b
  ·subst e;have hlt: ¬a.toNat<a.toNat:=Nat.lt_irrefl _;simp only [Nat.lt_irrefl,if_false,if_true] at h ⊢;exact zd5 h fun e=>hne (by rw [e])
  ·have hn:a.toNat≠b.toNat:=fun q=>e (UInt8.toNat_inj.1 q);by_cases c:b.toNat<a.toNat
   ·rw [if_pos c]
   ·have:a.toNat<b.toNat:=by omega
    rw [if_pos this] at h;cases h
def upB:Option ByteArray→ByteArray→Bool
 | none,_=>true
 | some p,a=>lexB (tl p) (tl a)
theorem uI {α:Type}{L:List α}{i:Nat}{x:α}(h:L[i]? =some x):L.drop i=x::L.drop (i+1):=by
 obtain ⟨hi,rfl⟩:=List.getElem?_eq_some_iff.1 h;exact (List.getElem_cons_drop (h:=hi)).symm
theorem zjt (form:ByteArray)(i:Nat)(op:Int)(hi:i<form.size)(hz:form.size≤1000)(hc:by_ form i=110):Fn Tryz.prog 81 #[.string form,iN i,.int .i64 op] (iN (i+1)):=by
 refine Fn.intro (c:=zk Tryz.f81) [.tmp 6] 72 Tryz.func81 kr kr kr fun w=>rS [.v] (St.start w) kr fun gs1 w1 H1=>zb kr<|rS [.v,.v,.v,.E (.bool (decide ((form.size:Int)≤(i:Int)))) (.bool false) (za (decide_eq_false (by omega)))] H1 kr fun gs2 w2 H2=>zh kr kr<|zj kr<|wW<|rS [.v,.v,.oe (ins:=[((.tmp 12),.string form),((.tmp 13),iN i)]) (v:=.int .u8 ((by_ form i:Nat):Int)) (v':=.int .u8 110) (fun ρ o w ho hi2=>yc (t:=9) (kd:=.i64) kr (x:=(.tmp 12)) (y:=(.tmp 13)) form i ho hi2.1 hi2.2.1 hi w) (by rw [hc];rfl),.v] H2 kr fun gs3 w3 H3=>zb kr<|rS [.v,.v,.v,.n,.n,.v,.v,.n,.n,.v,.v,.n,.n,.v,.v,.n,.n,.v] H3 kr fun gs4 w4 H4=>zi kr kr<|rS [.v,.E (.int .i64 (IntKind.i64.wrap ((i:Int)+1))) (iN (i+1)) (zd (zq (a:=i) (b:=1) (by omega))),.v] H4 kr fun gs5 w5 H5=>?_;exact rR [.tmp 6] [] (iN (i+1)) H5 kr
theorem zju (form:ByteArray)(i:Nat)(op:Int)(hi:i<form.size)(hz:form.size≤1000)(hc:by_ form i=104):Fn Tryz.prog 81 #[.string form,iN i,.int .i64 op] (iN (i+1)):=by
 refine Fn.intro (c:=zk Tryz.f81) [.tmp 6] 72 Tryz.func81 kr kr kr fun w=>rS [.v] (St.start w) kr fun gs1 w1 H1=>zb kr<|rS [.v,.v,.v,.E (.bool (decide ((form.size:Int)≤(i:Int)))) (.bool false) (za (decide_eq_false (by omega)))] H1 kr fun gs2 w2 H2=>zh kr kr<|zj kr<|wW<|rS [.v,.v,.oe (ins:=[((.tmp 12),.string form),((.tmp 13),iN i)]) (v:=.int .u8 ((by_ form i:Nat):Int)) (v':=.int .u8 104) (fun ρ o w ho hi2=>yc (t:=9) (kd:=.i64) kr (x:=(.tmp 12)) (y:=(.tmp 13)) form i ho hi2.1 hi2.2.1 hi w) (by rw [hc];rfl),.v] H2 kr fun gs3 w3 H3=>zb kr<|rS [.v,.v,.v,.v,.v,.v,.v,.n,.n,.v,.v,.n,.n,.v,.v,.n,.n,.v] H3 kr fun gs4 w4 H4=>zi kr kr<|rS [.v,.E (.int .i64 (IntKind.i64.wrap ((i:Int)+1))) (iN (i+1)) (zd (zq (a:=i) (b:=1) (by omega))),.v] H4 kr fun gs5 w5 H5=>?_;exact rR [.tmp 6] [] (iN (i+1)) H5 kr
theorem zjv (form:ByteArray)(i:Nat)(op:Int)(hi:i<form.size)(hz:form.size≤1000)(hc:by_ form i=97):Fn Tryz.prog 81 #[.string form,iN i,.int .i64 op] (iN (i+1)):=by
 refine Fn.intro (c:=zk Tryz.f81) [.tmp 6] 72 Tryz.func81 kr kr kr fun w=>rS [.v] (St.start w) kr fun gs1 w1 H1=>zb kr<|rS [.v,.v,.v,.E (.bool (decide ((form.size:Int)≤(i:Int)))) (.bool false) (za (decide_eq_false (by omega)))] H1 kr fun gs2 w2 H2=>zh kr kr<|zj kr<|wW<|rS [.v,.v,.oe (ins:=[((.tmp 12),.string form),((.tmp 13),iN i)]) (v:=.int .u8 ((by_ form i:Nat):Int)) (v':=.int .u8 97) (fun ρ o w ho hi2=>yc (t:=9) (kd:=.i64) kr (x:=(.tmp 12)) (y:=(.tmp 13)) form i ho hi2.1 hi2.2.1 hi w) (by rw [hc];rfl),.v] H2 kr fun gs3 w3 H3=>zb kr<|rS [.v,.v,.v,.v,.v,.v,.v,.v,.v,.v,.v,.n,.n,.v,.v,.n,.n,.v] H3 kr fun gs4 w4 H4=>zi kr kr<|rS [.v,.E (.int .i64 (IntKind.i64.wrap ((i:Int)+1))) (iN (i+1)) (zd (zq (a:=i) (b:=1) (by omega))),.v] H4 kr fun gs5 w5 H5=>?_;exact rR [.tmp 6] [] (iN (i+1)) H5 kr
theorem zjw (form:ByteArray)(i:Nat)(op:Int)(hi:i<form.size)(hz:form.size≤1000)(hc:by_ form i=115):Fn Tryz.prog 81 #[.string form,iN i,.int .i64 op] (iN (i+1)):=by
 refine Fn.intro (c:=zk Tryz.f81) [.tmp 6] 72 Tryz.func81 kr kr kr fun w=>rS [.v] (St.start w) kr fun gs1 w1 H1=>zb kr<|rS [.v,.v,.v,.E (.bool (decide ((form.size:Int)≤(i:Int)))) (.bool false) (za (decide_eq_false (by omega)))] H1 kr fun gs2 w2 H2=>zh kr kr<|zj kr<|wW<|rS [.v,.v,.oe (ins:=[((.tmp 12),.string form),((.tmp 13),iN i)]) (v:=.int .u8 ((by_ form i:Nat):Int)) (v':=.int .u8 115) (fun ρ o w ho hi2=>yc (t:=9) (kd:=.i64) kr (x:=(.tmp 12)) (y:=(.tmp 13)) form i ho hi2.1 hi2.2.1 hi w) (by rw [hc];rfl),.v] H2 kr fun gs3 w3 H3=>zb kr<|rS [.v,.v,.v,.v,.v,.v,.v,.v,.v,.v,.v,.v,.v,.v,.v,.n,.n,.v] H3 kr fun gs4 w4 H4=>zi kr kr<|rS [.v,.E (.int .i64 (IntKind.i64.wrap ((i:Int)+1))) (iN (i+1)) (zd (zq (a:=i) (b:=1) (by omega))),.v] H4 kr fun gs5 w5 H5=>?_;exact rR [.tmp 6] [] (iN (i+1)) H5 kr
theorem zjx (form:ByteArray)(i:Nat)(op:Int)(hi:i<form.size)(hz:form.size≤1000)(hc:by_ form i=98):Fn Tryz.prog 81 #[.string form,iN i,.int .i64 op] (iN (i+1)):=by
 refine Fn.intro (c:=zk Tryz.f81) [.tmp 6] 72 Tryz.func81 kr kr kr fun w=>rS [.v] (St.start w) kr fun gs1 w1 H1=>zb kr<|rS [.v,.v,.v,.E (.bool (decide ((form.size:Int)≤(i:Int)))) (.bool false) (za (decide_eq_false (by omega)))] H1 kr fun gs2 w2 H2=>zh kr kr<|zj kr<|wW<|rS [.v,.v,.oe (ins:=[((.tmp 12),.string form),((.tmp 13),iN i)]) (v:=.int .u8 ((by_ form i:Nat):Int)) (v':=.int .u8 98) (fun ρ o w ho hi2=>yc (t:=9) (kd:=.i64) kr (x:=(.tmp 12)) (y:=(.tmp 13)) form i ho hi2.1 hi2.2.1 hi w) (by rw [hc];rfl),.v] H2 kr fun gs3 w3 H3=>zb kr<|rS [.v,.v,.v,.v,.v,.v,.v,.v,.v,.v,.v,.v,.v,.v,.v,.v,.v,.v] H3 kr fun gs4 w4 H4=>zi kr kr<|rS [.v,.E (.int .i64 (IntKind.i64.wrap ((i:Int)+1))) (iN (i+1)) (zd (zq (a:=i) (b:=1) (by omega))),.v] H4 kr fun gs5 w5 H5=>?_;exact rR [.tmp 6] [] (iN (i+1)) H5 kr
theorem zd6 (form:ByteArray)(i:Nat)(op:Int)(hi:i<form.size)(hz:form.size≤1000)(hc:yk (by_ form i)=true):Fn Tryz.prog 81 #[.string form,iN i,.int .i64 op] (iN (i+1)):=by
 rcases jg.1 hc with h|h|h|h|h
 ·exact zjt form i op hi hz h
 ·exact zju form i op hi hz h
 ·exact zjv form i op hi hz h
 ·exact zjw form i op hi hz h
 ·exact zjx form i op hi hz h
theorem zjy (form:ByteArray)(i:Nat)(hi:i+1<form.size)(hz:form.size≤1000)(hc:by_ form i=42)(hn:yk (by_ form (i+1))=true):Fn Tryz.prog 81 #[.string form,iN i,.int .i64 0] (iN (i+2)):=by
 have hi1:i<form.size:=by omega
 refine Fn.intro (c:=zk Tryz.f81) [.tmp 6] 72 Tryz.func81 kr kr kr fun w=>rS [.v] (St.start w) kr fun gs1 w1 H1=>zb kr<|rS [.v,.v,.v,.E (.bool (decide ((form.size:Int)≤(i:Int)))) (.bool false) (za (decide_eq_false (by omega)))] H1 kr fun gs2 w2 H2=>zh kr kr<|zj kr<|wW<|rS [.v,.v,.oe (ins:=[((.tmp 12),.string form),((.tmp 13),iN i)]) (v:=.int .u8 ((by_ form i:Nat):Int)) (v':=.int .u8 42) (fun ρ o w ho hi2=>yc (t:=9) (kd:=.i64) kr (x:=(.tmp 12)) (y:=(.tmp 13)) form i ho hi2.1 hi2.2.1 hi1 w) (by rw [hc];rfl),.v] H2 kr fun gs3 w3 H3=>zb kr<|rS [.v,.v,.v,.v,.v,.v,.v,.v,.v,.v,.v,.v,.v,.v,.v,.v,.v,.v] H3 kr fun gs4 w4 H4=>zh kr kr<|zj kr<|wW<|zb kr<|rS [.v,.v] H4 kr fun gs5 w5 H5=>zh kr kr<|zj kr<|wW<|zb kr<|rS [.v,.v] H5 kr fun gs6 w6 H6=>zi kr kr<|rS [.v,.v,.E (.int .i64 (IntKind.i64.wrap ((i:Int)+1))) (iN (i+1)) (zd (zq (a:=i) (b:=1) (by omega))),.v,.v,.c (zd6 form (i+1) 1 (by omega) hz hn),.v] H6 kr fun gs7 w7 H7=>?_;exact rR [.tmp 6] [] (iN (i+2)) H7 kr
theorem zjz (form:ByteArray)(i:Nat)(hi:i<form.size)(hz:form.size≤1000)(h:yk (by_ form i)=true∨(by_ form i=42∧i+1<form.size∧yk (by_ form (i+1))=true)):Fn Tryz.prog 81 #[.string form,iN i,.int .i64 0] (iN (nxK form i)):=by
 rcases h with h|⟨h1,h2,h3⟩
 ·have:nxK form i=i+1:=by unfold nxK;rw [if_neg];rw [jg] at h;omega
  rw [this];exact zd6 form i 0 hi hz h
 ·have:nxK form i=i+2:=by unfold nxK;rw [if_pos h1]
  rw [this];exact zjy form i h2 hz h1 h3
theorem zjA {form:ByteArray}{i:Nat}(hi:i<form.size)(h:yk (by_ form i)=true∨(by_ form i=42∧i+1<form.size∧yk (by_ form (i+1))=true)):i<nxK form i∧nxK form i≤form.size:=by
 unfold nxK;rcases h with h | ⟨h1,h2,h3⟩
 ·rw [if_neg (by rw [jg] at h;omega)];omega
 ·rw [if_pos h1];omega
def zd7 (ks:List ByteArray)(v:Value)(T:List (Nat×Obj)):Prop:=∃(p:Option Addr) (n c:Nat),v=.tuple #[.slice p n c,.bool true]∧yN sS 9 p n c T ks
theorem zd8 (form:ByteArray)(ks:List ByteArray)(hF:xh form ks):FnT Tryz.prog 52 #[.string form] (fun _=>True) (zd7 ks):=by
 have hz:=hF.size;refine FnT.intro (c:=zk Tryz.f52) [.tmp 2,.tmp 3] 31 Tryz.func52 kr kr kr fun w _=>?_;have H0:=St.start w;refine rS [.v,.v] H0 kr fun gs1 w1 H1=>rS [.nw (fun b=>.slice (some ⟨b,0,none⟩) 0 0) #[] 9,.v] H1 kr fun gs2 w2 H2=>zb kr<|rS [.v,.v,.E (.bool (decide (40<(form.size:Int)))) (.bool false) (za (decide_eq_false (by omega)))] H2 kr fun gs3 w3 H3=>zh kr kr<|zj kr<|wW<|rS [.v] H3 kr fun gs4 w4 H4=>zb kr<|zn 0 kr ?_;have H5:St w.heap.size w w4 [((gs2 0).b,.cells #[] 9 (0,0))]:=H4.as kr;refine zG kr (fun mz ρ ww=> ∃(i f:Nat) (M:List ByteArray) (bo N cap:Nat) (cur:Array Value),form.size-i=mz∧i≤form.size∧N=M.length∧N≤i∧form.size<i+f∧okK form f i=true∧M++ksM form f i=ks∧Rw 1 cur cap N (cellsF sS M)∧St w.heap.size w ww [(bo,.cells cur 9 (0,0))]∧Is [(0,.string form),(4,.slice (some ⟨bo,0,none⟩) N cap),(5,iN i)] ρ) (form.size-0) ⟨0,41,[],(gs2 0).b,0,0,#[],rfl,Nat.zero_le _,rfl,Nat.zero_le _,by omega,hF.ok,hF.cut,⟨rfl,Nat.le_refl _,by unfold maxLen;omega,rfl,rfl⟩,H5,(Is.of ⟨kr,kr,kr,trivial⟩)⟩ ?_;clear H0 H1 H2 H3 H4 H5;rintro _ _ w5 ⟨i,f,M,bo,N,cap,cur,rfl,hi0,hNM,hNi,hf,hok,hks,hRw,H6,_,rfl⟩;refine zb kr<|zb kr ?_;by_cases hi:i<form.size
 ·obtain ⟨f',rfl⟩:=zhU hok hi;obtain ⟨h1,h2⟩:=zhS hok hi;have hnx:=zjA hi h1;have hk1:ksM form (f'+1) i=form.extract i (nxK form i)::ksM form f' (nxK form i):=by rw [ksM,if_pos hi]
  refine rL [.v,.v,.v,.E (.bool (decide ((i:Int)<(form.size:Int)))) (.bool true) (za (decide_eq_true (by omega)))] H6 kr fun gs6 w6 H7=>wW<|zi kr kr<|zj kr<|wW<|zn 1 kr<|rS [.v,.v,.c (zjz form i hi (by omega) h1),.v] H7 kr fun gs7 w7 H8=>zb kr<|zb kr<|rL [.v,.E (.bool (decide (((nxK form i:Nat):Int)<0))) (.bool false) (za (decide_eq_false (by omega)))] H8 kr fun gs8 w8 H9=>wW<|zh kr kr<|zj kr<|wW<|zg [0,1,2,3,4,5,6,7] kr kr<|rp [.v,.v,.v,.v,.o (ins:=[((.tmp 23),.string form),((.tmp 24),iN i),((.tmp 25),iN (nxK form i))]) (v:=.string (form.extract i (nxK form i))) (fun ρ o w ho hi2=>zfI (t:=9) (kd:=.i64) (kz:=.i64) kr (x:=(.tmp 23)) (y:=(.tmp 25)) (z:=(.tmp 24)) form i (nxK form i) ho hi2.1 hi2.2.2.1 hi2.2.1 (by omega) (by omega) w)] H9 kr fun gs9 w9 H10=>wX [5,6,7] ?_;have H11:St w.heap.size w w9 [(bo,.cells cur 9 (0,0))]:=H10.as kr;refine zaz H11 (some 27) (fun b=>.slice (some ⟨b,0,none⟩) 1 1) (sS.cs (form.extract i (nxK form i))).toArray 9 kr kr ?_;intro nb w10 H12;refine zcr (S:=sS) (M:=M) (y:=form.extract i (nxK form i)) (row:=[(bo,.cells cur 9 (0,0))]) (Z:=[]) (some 28) 23 9 16 (.tmp 22) (.tmp 27) H12 (.inr ⟨bo,cur,rfl,rfl,hRw⟩) kr kr kr kr kr (by omega) (by unfold maxLen;omega) ?_;intro b' cap' cur' w11 H13 hRw';refine rp [.v] H13 kr fun gs10 w12 H14=>wX []<|zc<|wW<|rL [.v,.v] H14 kr fun gs11 w13 H15=>?_;show ∃m,_∧_;refine ⟨_,(by omega:form.size-nxK form i<form.size-i),nxK form i,f',M++ [form.extract i (nxK form i)],b',N+1,cap',cur',rfl,hnx.2,by rw [List.length_append,←hNM];rfl,by omega,by omega,h2,?_,hRw',H15.as kr,(Is.of ⟨kr,kr,kr,trivial⟩)⟩;rw [List.append_assoc,List.singleton_append,←hk1];exact hks
 ·have hk1:ksM form f i=[]:=zhT hok (by omega) hi;rw [hk1,List.append_nil] at hks;refine rL [.v,.v,.v,.E (.bool (decide ((i:Int)<(form.size:Int)))) (.bool false) (za (decide_eq_false (by omega)))] H6 kr fun gs6 w6 H7=>wW<|zh kr kr<|zy 0 kr<|wW<|rS [.v,.v,.v] H7 kr fun gs7 w7 H8=>rRr [.tmp 2,.tmp 3] [] (.tuple #[.slice (some ⟨bo,0,none⟩) N cap,.bool true]) (qD w.heap.size w (zd7 ks)) H8 kr ?_;have H9:St w.heap.size w w7 [(bo,.cells cur 9 (0,0))]:=H8.as kr;subst hks;exact ⟨_,⟨_,_,_,rfl,.inr ⟨bo,cur,rfl,rfl,hRw⟩⟩,H9⟩
theorem jr {c m sz ln:Nat}(hc:yk c=true):zv c 0 m sz ln=if c=110 then decide (sz=0)&&decide (ln=0) else (decide (m=0)&&decide (ln=0))&&(if c=104 then decide (sz=32) else if c=97 then decide (sz=20) else if c=115 then decide (sz=65) else decide (sz≤64)):=by
 rcases jg.1 hc with rfl|rfl|rfl|rfl|rfl<;>(unfold zv yx zT ya;rw [Bool.eq_iff_iff];simp<;>omega)
theorem kq (a b:Nat):((a:Int)==(b:Int))=decide (a=b):=by
 rw [Bool.eq_iff_iff,beq_iff_eq,decide_eq_true_iff];omega
theorem zd9 (s:ByteArray):(s.toList==(⟨#[]⟩:ByteArray).toList)=decide (s.size=0):=by
 rw [Bool.eq_iff_iff,decide_eq_true_iff];by_cases h:s.size=0
 ·obtain rfl:=jo h;exact ⟨fun _=>rfl,fun _=>jd _⟩
 ·rw [jB s ⟨#[]⟩ (fun e=>h (by rw [e];rfl))];exact ⟨fun h2=>(nomatch h2),fun h2=>absurd h2 h⟩
theorem zjB (q:ByteArray)(m:Nat)(s:ByteArray)(p:Option Addr)(n c:Nat)(hz:0<q.size)(hc:by_ q 0=110):Fn Tryz.prog 112 #[.string q,fld m s p n c] (.bool (zv 110 0 m s.size n)):=by
 refine Fn.intro (c:=zk Tryz.f112) [.tmp 4] 99 Tryz.func112 kr kr kr fun w=>rS [.b,.v] (St.start w) kr fun gs1 w1 H1=>?_;have H2:St w.heap.size w w1 [((gs1 0).b,fdO m s p n c)]:=H1.as kr;refine zb kr<|qL (Q:=fun e ρ ww=>e=.normal∧St w.heap.size w ww [((gs1 0).b,fdO m s p n c)]∧Is [(0,.string q),(3,.pointer (some ⟨(gs1 0).b,0,none⟩)),(5,.bool (decide (m=0)&&decide (n=0)))] ρ) ?_ ?_
 ·by_cases hm:m=0
  ·subst hm;by_cases hn:n=0
   ·subst hn;refine rL [.v,.l 0,.v,.v,.v,.l 0,.v,.v,.v,.v] H2 kr fun gs2 w2 H3=>?_;exact ⟨rfl,H3.as kr,Is.of ⟨kr,kr,kr,trivial⟩⟩
   ·have e5:(decide ((0:Nat)=0)&&decide (n=0))=false:=by simp [hn]
    rw [e5];refine rL [.v,.l 0,.v,.v,.v,.l 0,.v,.E (.bool ((n:Int)==0)) (.bool false) (za (beq_eq_false_iff_ne.2 (by omega))),.v,.v] H2 kr fun gs2 w2 H3=>?_;exact ⟨rfl,H3.as kr,Is.of ⟨kr,kr,kr,trivial⟩⟩
  ·have e5:(decide (m=0)&&decide (n=0))=false:=by simp [hm]
   rw [e5];refine rL [.v,.l 0,.E (.bool ((m:Int)==0)) (.bool false) (za (beq_eq_false_iff_ne.2 (by omega))),.v,.n,.n,.n,.n,.v,.v] H2 kr fun gs2 w2 H3=>?_;exact ⟨rfl,H3.as kr,Is.of ⟨kr,kr,kr,trivial⟩⟩
 rintro _ _ w3 ⟨rfl,H4,_,rfl⟩;refine wW<|zb kr<|rS [.v,.oe (ins:=[((.tmp 17),.string q)]) (v:=.int .u8 ((by_ q 0:Nat):Int)) (v':=.int .u8 110) (fun ρ o w ho hi2=>yc (t:=9) (kd:=.i64) kr (x:=(.tmp 17)) (y:=.const (.int .i64 0)) q 0 ho hi2.1 rfl hz w) (by rw [hc];rfl)] H4 kr fun gs3 w4 H5=>zn 0 kr<|rS [.v,.v] H5 kr fun gs5 w5 H6=>zi kr kr ?_;by_cases hs:s.size=0
 ·obtain rfl:=jo hs;refine rS [.v,.l 0,.v,.v,.v,.l 0,.v,.E (.bool ((n:Int)==0)) (.bool (decide (n=0))) (za (kq n 0)),.v,.v] H6 kr fun gs20 w20 H20=>?_;exact rRe [.tmp 4] [] (v:=.bool (decide (n=0))) (v':=.bool (zv 110 0 m (ByteArray.size ⟨#[]⟩) n)) H20 (za (by rw [jr (by decide)];rfl)) kr
 ·refine rS [.v,.l 0,.E (.bool (s.toList==(⟨#[]⟩:ByteArray).toList)) (.bool false) (za (by rw [zd9];exact decide_eq_false hs)),.v,.n,.n,.n,.n,.v,.v] H6 kr fun gs20 w20 H20=>?_;exact rRe [.tmp 4] [] (v:=.bool false) (v':=.bool (zv 110 0 m s.size n)) H20 (za (by rw [jr (by decide)];simp [hs])) kr
theorem zjC (q:ByteArray)(m:Nat)(s:ByteArray)(p:Option Addr)(n c:Nat)(hz:0<q.size)(hc:by_ q 0=104):Fn Tryz.prog 112 #[.string q,fld m s p n c] (.bool (zv 104 0 m s.size n)):=by
 refine Fn.intro (c:=zk Tryz.f112) [.tmp 4] 99 Tryz.func112 kr kr kr fun w=>rS [.b,.v] (St.start w) kr fun gs1 w1 H1=>?_;have H2:St w.heap.size w w1 [((gs1 0).b,fdO m s p n c)]:=H1.as kr;refine zb kr<|qL (Q:=fun e ρ ww=>e=.normal∧St w.heap.size w ww [((gs1 0).b,fdO m s p n c)]∧Is [(0,.string q),(3,.pointer (some ⟨(gs1 0).b,0,none⟩)),(5,.bool (decide (m=0)&&decide (n=0)))] ρ) ?_ ?_
 ·by_cases hm:m=0
  ·subst hm;by_cases hn:n=0
   ·subst hn;refine rL [.v,.l 0,.v,.v,.v,.l 0,.v,.v,.v,.v] H2 kr fun gs2 w2 H3=>?_;exact ⟨rfl,H3.as kr,Is.of ⟨kr,kr,kr,trivial⟩⟩
   ·have e5:(decide ((0:Nat)=0)&&decide (n=0))=false:=by simp [hn]
    rw [e5];refine rL [.v,.l 0,.v,.v,.v,.l 0,.v,.E (.bool ((n:Int)==0)) (.bool false) (za (beq_eq_false_iff_ne.2 (by omega))),.v,.v] H2 kr fun gs2 w2 H3=>?_;exact ⟨rfl,H3.as kr,Is.of ⟨kr,kr,kr,trivial⟩⟩
  ·have e5:(decide (m=0)&&decide (n=0))=false:=by simp [hm]
   rw [e5];refine rL [.v,.l 0,.E (.bool ((m:Int)==0)) (.bool false) (za (beq_eq_false_iff_ne.2 (by omega))),.v,.n,.n,.n,.n,.v,.v] H2 kr fun gs2 w2 H3=>?_;exact ⟨rfl,H3.as kr,Is.of ⟨kr,kr,kr,trivial⟩⟩
 rintro _ _ w3 ⟨rfl,H4,_,rfl⟩;refine wW<|zb kr<|rS [.v,.oe (ins:=[((.tmp 17),.string q)]) (v:=.int .u8 ((by_ q 0:Nat):Int)) (v':=.int .u8 104) (fun ρ o w ho hi2=>yc (t:=9) (kd:=.i64) kr (x:=(.tmp 17)) (y:=.const (.int .i64 0)) q 0 ho hi2.1 rfl hz w) (by rw [hc];rfl)] H4 kr fun gs3 w4 H5=>zn 0 kr<|rS [.v,.v] H5 kr fun gs5 w5 H6=>zh kr kr<|rS [.v,.v] H6 kr fun gs6 w6 H7=>zi kr kr ?_;obtain ⟨pl,hpl⟩:∃pl,(decide (m=0)&&decide (n=0))=pl:=⟨_,rfl⟩
 refine yr 5 (v:=.bool (decide (m=0)&&decide (n=0))) (v':=.bool pl) (by rw [hpl]) kr ?_;cases pl with
 | true=>
  refine rS [.v,.v,.v,.l 0,.v,.E (.bool ((s.size:Int)==32)) (.bool (decide (s.size=32))) (za (kq s.size 32)),.v,.v] H7 kr fun gs20 w20 H20=>?_;exact rRe [.tmp 4] [] (v:=.bool (decide (s.size=32))) (v':=.bool (zv 104 0 m s.size n)) H20 (za (by rw [jr (by decide),hpl];simp)) kr
 | false=>
  refine rS [.v,.v,.n,.n,.n,.n,.v,.v] H7 kr fun gs20 w20 H20=>?_;exact rRe [.tmp 4] [] (v:=.bool false) (v':=.bool (zv 104 0 m s.size n)) H20 (za (by rw [jr (by decide),hpl];rfl)) kr
theorem zjD (q:ByteArray)(m:Nat)(s:ByteArray)(p:Option Addr)(n c:Nat)(hz:0<q.size)(hc:by_ q 0=97):Fn Tryz.prog 112 #[.string q,fld m s p n c] (.bool (zv 97 0 m s.size n)):=by
 refine Fn.intro (c:=zk Tryz.f112) [.tmp 4] 99 Tryz.func112 kr kr kr fun w=>rS [.b,.v] (St.start w) kr fun gs1 w1 H1=>?_;have H2:St w.heap.size w w1 [((gs1 0).b,fdO m s p n c)]:=H1.as kr;refine zb kr<|qL (Q:=fun e ρ ww=>e=.normal∧St w.heap.size w ww [((gs1 0).b,fdO m s p n c)]∧Is [(0,.string q),(3,.pointer (some ⟨(gs1 0).b,0,none⟩)),(5,.bool (decide (m=0)&&decide (n=0)))] ρ) ?_ ?_
 ·by_cases hm:m=0
  ·subst hm;by_cases hn:n=0
   ·subst hn;refine rL [.v,.l 0,.v,.v,.v,.l 0,.v,.v,.v,.v] H2 kr fun gs2 w2 H3=>?_;exact ⟨rfl,H3.as kr,Is.of ⟨kr,kr,kr,trivial⟩⟩
   ·have e5:(decide ((0:Nat)=0)&&decide (n=0))=false:=by simp [hn]
    rw [e5];refine rL [.v,.l 0,.v,.v,.v,.l 0,.v,.E (.bool ((n:Int)==0)) (.bool false) (za (beq_eq_false_iff_ne.2 (by omega))),.v,.v] H2 kr fun gs2 w2 H3=>?_;exact ⟨rfl,H3.as kr,Is.of ⟨kr,kr,kr,trivial⟩⟩
  ·have e5:(decide (m=0)&&decide (n=0))=false:=by simp [hm]
   rw [e5];refine rL [.v,.l 0,.E (.bool ((m:Int)==0)) (.bool false) (za (beq_eq_false_iff_ne.2 (by omega))),.v,.n,.n,.n,.n,.v,.v] H2 kr fun gs2 w2 H3=>?_;exact ⟨rfl,H3.as kr,Is.of ⟨kr,kr,kr,trivial⟩⟩
 rintro _ _ w3 ⟨rfl,H4,_,rfl⟩;refine wW<|zb kr<|rS [.v,.oe (ins:=[((.tmp 17),.string q)]) (v:=.int .u8 ((by_ q 0:Nat):Int)) (v':=.int .u8 97) (fun ρ o w ho hi2=>yc (t:=9) (kd:=.i64) kr (x:=(.tmp 17)) (y:=.const (.int .i64 0)) q 0 ho hi2.1 rfl hz w) (by rw [hc];rfl)] H4 kr fun gs3 w4 H5=>zn 0 kr<|rS [.v,.v] H5 kr fun gs5 w5 H6=>zh kr kr<|rS [.v,.v] H6 kr fun gs6 w6 H7=>zh kr kr<|rS [.v,.v] H7 kr fun gs7 w7 H8=>zi kr kr ?_;obtain ⟨pl,hpl⟩:∃pl,(decide (m=0)&&decide (n=0))=pl:=⟨_,rfl⟩
 refine yr 5 (v:=.bool (decide (m=0)&&decide (n=0))) (v':=.bool pl) (by rw [hpl]) kr ?_;cases pl with
 | true=>
  refine rS [.v,.v,.v,.l 0,.v,.E (.bool ((s.size:Int)==20)) (.bool (decide (s.size=20))) (za (kq s.size 20)),.v,.v] H8 kr fun gs20 w20 H20=>?_;exact rRe [.tmp 4] [] (v:=.bool (decide (s.size=20))) (v':=.bool (zv 97 0 m s.size n)) H20 (za (by rw [jr (by decide),hpl];simp)) kr
 | false=>
  refine rS [.v,.v,.n,.n,.n,.n,.v,.v] H8 kr fun gs20 w20 H20=>?_;exact rRe [.tmp 4] [] (v:=.bool false) (v':=.bool (zv 97 0 m s.size n)) H20 (za (by rw [jr (by decide),hpl];rfl)) kr
theorem zjE (q:ByteArray)(m:Nat)(s:ByteArray)(p:Option Addr)(n c:Nat)(hz:0<q.size)(hc:by_ q 0=115):Fn Tryz.prog 112 #[.string q,fld m s p n c] (.bool (zv 115 0 m s.size n)):=by
 refine Fn.intro (c:=zk Tryz.f112) [.tmp 4] 99 Tryz.func112 kr kr kr fun w=>rS [.b,.v] (St.start w) kr fun gs1 w1 H1=>?_;have H2:St w.heap.size w w1 [((gs1 0).b,fdO m s p n c)]:=H1.as kr;refine zb kr<|qL (Q:=fun e ρ ww=>e=.normal∧St w.heap.size w ww [((gs1 0).b,fdO m s p n c)]∧Is [(0,.string q),(3,.pointer (some ⟨(gs1 0).b,0,none⟩)),(5,.bool (decide (m=0)&&decide (n=0)))] ρ) ?_ ?_
 ·by_cases hm:m=0
  ·subst hm;by_cases hn:n=0
   ·subst hn;refine rL [.v,.l 0,.v,.v,.v,.l 0,.v,.v,.v,.v] H2 kr fun gs2 w2 H3=>?_;exact ⟨rfl,H3.as kr,Is.of ⟨kr,kr,kr,trivial⟩⟩
   ·have e5:(decide ((0:Nat)=0)&&decide (n=0))=false:=by simp [hn]
    rw [e5];refine rL [.v,.l 0,.v,.v,.v,.l 0,.v,.E (.bool ((n:Int)==0)) (.bool false) (za (beq_eq_false_iff_ne.2 (by omega))),.v,.v] H2 kr fun gs2 w2 H3=>?_;exact ⟨rfl,H3.as kr,Is.of ⟨kr,kr,kr,trivial⟩⟩
  ·have e5:(decide (m=0)&&decide (n=0))=false:=by simp [hm]
   rw [e5];refine rL [.v,.l 0,.E (.bool ((m:Int)==0)) (.bool false) (za (beq_eq_false_iff_ne.2 (by omega))),.v,.n,.n,.n,.n,.v,.v] H2 kr fun gs2 w2 H3=>?_;exact ⟨rfl,H3.as kr,Is.of ⟨kr,kr,kr,trivial⟩⟩
 rintro _ _ w3 ⟨rfl,H4,_,rfl⟩;refine wW<|zb kr<|rS [.v,.oe (ins:=[((.tmp 17),.string q)]) (v:=.int .u8 ((by_ q 0:Nat):Int)) (v':=.int .u8 115) (fun ρ o w ho hi2=>yc (t:=9) (kd:=.i64) kr (x:=(.tmp 17)) (y:=.const (.int .i64 0)) q 0 ho hi2.1 rfl hz w) (by rw [hc];rfl)] H4 kr fun gs3 w4 H5=>zn 0 kr<|rS [.v,.v] H5 kr fun gs5 w5 H6=>zh kr kr<|rS [.v,.v] H6 kr fun gs6 w6 H7=>zh kr kr<|rS [.v,.v] H7 kr fun gs7 w7 H8=>zh kr kr<|rS [.v,.v] H8 kr fun gs8 w8 H9=>zi kr kr ?_;obtain ⟨pl,hpl⟩:∃pl,(decide (m=0)&&decide (n=0))=pl:=⟨_,rfl⟩
 refine yr 5 (v:=.bool (decide (m=0)&&decide (n=0))) (v':=.bool pl) (by rw [hpl]) kr ?_;cases pl with
 | true=>
  refine rS [.v,.v,.v,.l 0,.v,.E (.bool ((s.size:Int)==65)) (.bool (decide (s.size=65))) (za (kq s.size 65)),.v,.v] H9 kr fun gs20 w20 H20=>?_;exact rRe [.tmp 4] [] (v:=.bool (decide (s.size=65))) (v':=.bool (zv 115 0 m s.size n)) H20 (za (by rw [jr (by decide),hpl];simp)) kr
 | false=>
  refine rS [.v,.v,.n,.n,.n,.n,.v,.v] H9 kr fun gs20 w20 H20=>?_;exact rRe [.tmp 4] [] (v:=.bool false) (v':=.bool (zv 115 0 m s.size n)) H20 (za (by rw [jr (by decide),hpl];rfl)) kr
theorem zjF (q:ByteArray)(m:Nat)(s:ByteArray)(p:Option Addr)(n c:Nat)(hz:0<q.size)(hc:by_ q 0=98):Fn Tryz.prog 112 #[.string q,fld m s p n c] (.bool (zv 98 0 m s.size n)):=by
 refine Fn.intro (c:=zk Tryz.f112) [.tmp 4] 99 Tryz.func112 kr kr kr fun w=>rS [.b,.v] (St.start w) kr fun gs1 w1 H1=>?_;have H2:St w.heap.size w w1 [((gs1 0).b,fdO m s p n c)]:=H1.as kr;refine zb kr<|qL (Q:=fun e ρ ww=>e=.normal∧St w.heap.size w ww [((gs1 0).b,fdO m s p n c)]∧Is [(0,.string q),(3,.pointer (some ⟨(gs1 0).b,0,none⟩)),(5,.bool (decide (m=0)&&decide (n=0)))] ρ) ?_ ?_
 ·by_cases hm:m=0
  ·subst hm;by_cases hn:n=0
   ·subst hn;refine rL [.v,.l 0,.v,.v,.v,.l 0,.v,.v,.v,.v] H2 kr fun gs2 w2 H3=>?_;exact ⟨rfl,H3.as kr,Is.of ⟨kr,kr,kr,trivial⟩⟩
   ·have e5:(decide ((0:Nat)=0)&&decide (n=0))=false:=by simp [hn]
    rw [e5];refine rL [.v,.l 0,.v,.v,.v,.l 0,.v,.E (.bool ((n:Int)==0)) (.bool false) (za (beq_eq_false_iff_ne.2 (by omega))),.v,.v] H2 kr fun gs2 w2 H3=>?_;exact ⟨rfl,H3.as kr,Is.of ⟨kr,kr,kr,trivial⟩⟩
  ·have e5:(decide (m=0)&&decide (n=0))=false:=by simp [hm]
   rw [e5];refine rL [.v,.l 0,.E (.bool ((m:Int)==0)) (.bool false) (za (beq_eq_false_iff_ne.2 (by omega))),.v,.n,.n,.n,.n,.v,.v] H2 kr fun gs2 w2 H3=>?_;exact ⟨rfl,H3.as kr,Is.of ⟨kr,kr,kr,trivial⟩⟩
 rintro _ _ w3 ⟨rfl,H4,_,rfl⟩;refine wW<|zb kr<|rS [.v,.oe (ins:=[((.tmp 17),.string q)]) (v:=.int .u8 ((by_ q 0:Nat):Int)) (v':=.int .u8 98) (fun ρ o w ho hi2=>yc (t:=9) (kd:=.i64) kr (x:=(.tmp 17)) (y:=.const (.int .i64 0)) q 0 ho hi2.1 rfl hz w) (by rw [hc];rfl)] H4 kr fun gs3 w4 H5=>zn 0 kr<|rS [.v,.v] H5 kr fun gs5 w5 H6=>zh kr kr<|rS [.v,.v] H6 kr fun gs6 w6 H7=>zh kr kr<|rS [.v,.v] H7 kr fun gs7 w7 H8=>zh kr kr<|rS [.v,.v] H8 kr fun gs8 w8 H9=>zh kr kr<|rS [.v,.v] H9 kr fun gs9 w9 H10=>zi kr kr ?_;obtain ⟨pl,hpl⟩:∃pl,(decide (m=0)&&decide (n=0))=pl:=⟨_,rfl⟩
 refine yr 5 (v:=.bool (decide (m=0)&&decide (n=0))) (v':=.bool pl) (by rw [hpl]) kr ?_;cases pl with
 | true=>
  refine rS [.v,.v,.v,.l 0,.v,.E (.bool (decide ((s.size:Int)≤64))) (.bool (decide (s.size≤64))) (za (by rw [decide_eq_decide];omega)),.v,.v] H10 kr fun gs20 w20 H20=>?_;exact rRe [.tmp 4] [] (v:=.bool (decide (s.size≤64))) (v':=.bool (zv 98 0 m s.size n)) H20 (za (by rw [jr (by decide),hpl];simp)) kr
 | false=>
  refine rS [.v,.v,.n,.n,.n,.n,.v,.v] H10 kr fun gs20 w20 H20=>?_;exact rRe [.tmp 4] [] (v:=.bool false) (v':=.bool (zv 98 0 m s.size n)) H20 (za (by rw [jr (by decide),hpl];rfl)) kr
theorem zea (q:ByteArray)(m:Nat)(s:ByteArray)(p:Option Addr)(n c:Nat)(hz:0<q.size)(hc:yk (by_ q 0)=true):Fn Tryz.prog 112 #[.string q,fld m s p n c] (.bool (zv (by_ q 0) 0 m s.size n)):=by
 rcases jg.1 hc with h|h|h|h|h
 ·rw [h];exact zjB q m s p n c hz h
 ·rw [h];exact zjC q m s p n c hz h
 ·rw [h];exact zjD q m s p n c hz h
 ·rw [h];exact zjE q m s p n c hz h
 ·rw [h];exact zjF q m s p n c hz h
theorem zjG (q:ByteArray)(m:Nat)(s:ByteArray)(p:Option Addr)(n c:Nat)(l:Fe)(hq:q.size=2)(hc:by_ q 0=42)(hl:yk (by_ q 1)=true):FnP Tryz.prog 112 #[.string q,fld m s p n c] (fun w=>SlR fS w.heap.size w p n l) (.bool (zv 42 1 m s.size n&&yF (by_ q 1) l)):=by
 have hz:0<q.size:=by omega
 have hq1:(q.extract 1 q.size).size=1:=by rw [ByteArray.size_extract];omega
 have hq2:by_ (q.extract 1 q.size) 0=by_ q 1:=by
  unfold by_;rw [zam,List.take_of_length_le (by rw [yn];omega)];simp [List.getD_eq_getElem?_getD]
 have hfs:zv 42 1 m s.size n=((decide (m=0)&&decide (s.size=0))&&decide (n≤40)):=by
  unfold zv yx zT ya;rw [Bool.eq_iff_iff];simp [and_assoc]
 rw [hfs];refine FnP.intro (c:=zk Tryz.f112) [.tmp 4] 99 Tryz.func112 kr kr kr fun w hF=>rS [.b,.v] (St.start w) kr fun gs1 w1 H1=>?_;have H2:St w.heap.size w w1 [((gs1 0).b,fdO m s p n c)]:=H1.as kr;refine zb kr<|qL (Q:=fun e ρ ww=>e=.normal∧St w.heap.size w ww [((gs1 0).b,fdO m s p n c)]∧Is [(0,.string q),(3,.pointer (some ⟨(gs1 0).b,0,none⟩)),(5,.bool (decide (m=0)&&decide (n=0)))] ρ) ?_ ?_
 ·by_cases hm:m=0
  ·subst hm;by_cases hn:n=0
   ·subst hn;refine rL [.v,.l 0,.v,.v,.v,.l 0,.v,.v,.v,.v] H2 kr fun gs2 w2 H3=>?_;exact ⟨rfl,H3.as kr,Is.of ⟨kr,kr,kr,trivial⟩⟩
   ·have e5:(decide ((0:Nat)=0)&&decide (n=0))=false:=by simp [hn]
    rw [e5];refine rL [.v,.l 0,.v,.v,.v,.l 0,.v,.E (.bool ((n:Int)==0)) (.bool false) (za (beq_eq_false_iff_ne.2 (by omega))),.v,.v] H2 kr fun gs2 w2 H3=>?_;exact ⟨rfl,H3.as kr,Is.of ⟨kr,kr,kr,trivial⟩⟩
  ·have e5:(decide (m=0)&&decide (n=0))=false:=by simp [hm]
   rw [e5];refine rL [.v,.l 0,.E (.bool ((m:Int)==0)) (.bool false) (za (beq_eq_false_iff_ne.2 (by omega))),.v,.n,.n,.n,.n,.v,.v] H2 kr fun gs2 w2 H3=>?_;exact ⟨rfl,H3.as kr,Is.of ⟨kr,kr,kr,trivial⟩⟩
 rintro _ _ w3 ⟨rfl,H4,_,rfl⟩;refine wW<|zb kr<|rS [.v,.oe (ins:=[((.tmp 17),.string q)]) (v:=.int .u8 ((by_ q 0:Nat):Int)) (v':=.int .u8 42) (fun ρ o w ho hi2=>yc (t:=9) (kd:=.i64) kr (x:=(.tmp 17)) (y:=.const (.int .i64 0)) q 0 ho hi2.1 rfl hz w) (by rw [hc];rfl)] H4 kr fun gs3 w4 H5=>zn 0 kr<|rS [.v,.v] H5 kr fun gs5 w5 H6=>zh kr kr<|rS [.v,.v] H6 kr fun gs6 w6 H7=>zh kr kr<|rS [.v,.v] H7 kr fun gs7 w7 H8=>zh kr kr<|rS [.v,.v] H8 kr fun gs8 w8 H9=>zh kr kr<|rS [.v,.v] H9 kr fun gs9 w9 H10=>zh kr kr<|zj kr<|wW<|zb kr ?_;have hn:=hF.1;have hnm:n≤0x800000000000:=hF.2.1;by_cases hm:m=0
 ·subst hm;by_cases hs:s.size=0
  ·obtain rfl:=jo hs;refine rS [.v,.l 0,.v,.v,.v,.l 0,.v,.v] H10 kr fun gs11 w11 H11=>zh kr kr<|zj kr<|wW<|zb kr<|rS [.v,.oe (ins:=[((.tmp 74),.string q)]) (v:=.int .u8 ((by_ q 0:Nat):Int)) (v':=.int .u8 42) (fun ρ o w ho hi2=>yc (t:=9) (kd:=.i64) kr (x:=(.tmp 74)) (y:=.const (.int .i64 0)) q 0 ho hi2.1 rfl hz w) (by rw [hc];rfl),.v] H11 kr fun gs12 w12 H12=>zh kr kr<|zj kr<|wW<|zb kr<|rS [.v,.l 0,.v,.v] H12 kr fun gs13 w13 H13=>zn 1 kr ?_;have H14:St w.heap.size w w13 [((gs1 0).b,fdO 0 ⟨#[]⟩ p n c)]:=H13.as kr;refine zG kr (fun mz ρ ww=> ∃(i:Nat) (r:Fe),n-i=mz∧FrR fS w.heap.size w p i r∧i+r.len=n∧yF (by_ q 1) l=yF (by_ q 1) r∧St w.heap.size w ww [((gs1 0).b,fdO 0 ⟨#[]⟩ p n c)]∧Is [(0,.string q),(3,.pointer (some ⟨(gs1 0).b,0,none⟩)),(83,.slice p n c),(84,iN n),(85,iN i)] ρ) (n-0) ⟨0,l,rfl,hF.start,by omega,rfl,H14,(Is.of ⟨kr,kr,kr,kr,kr,trivial⟩)⟩ ?_;clear H4 H5 H6 H7 H8 H9 H10 H11 H12 H13 H14;rintro _ _ w14 ⟨i,r,rfl,hR,hN,hst,H15,_,rfl⟩;by_cases hi:i<n
   ·refine rS [.E (.bool (decide ((i:Int)<(n:Int)))) (.bool true) (za (decide_eq_true (by omega)))] H15 kr fun gs16 w16 H16=>zb kr<|zi kr kr<|zj kr<|wW<|zb kr<|zn 2 kr ?_;obtain ⟨⟨m1,s1⟩,k1,r1,b1,off1,C1,T1,fz1,p1,n1,c1,rfl,hp1,hb1,hh1,hs1,hx1,hz1,hk1,hR1,hN1⟩:=FrR.open hR hN hi;refine rS [.o (ins:=[((.tmp 83),.slice p n c),((.tmp 85),iN i)]) (v:=.pointer (some ⟨b1,off1+i*3,none⟩)) (fun ρ o w ho hi2=>yo (kd:=.i64) (t:=41) (e:=44) (K:=3) (bytes:=48) kr (x:=(.tmp 83)) (y:=(.tmp 85)) b1 off1 n c i hp1 ho hi2.1 hi2.2.1 (by omega) w),.fp (off:=off1+i*3) (n:=3) (W:=#[.int .u64 (m1:Int),.string s1,.slice p1 n1 c1]) hh1 hb1 hs1 hx1,.a,.s 1] H16 kr fun gs17 w17 H17=>?_;have hcall:=zea (q.extract 1 q.size) m1 s1 p1 n1 c1 (by omega) (by rw [hq2];exact hl);rw [hq2] at hcall;have hk1n:n1=k1.len:=hk1.1;cases hf:zv (by_ q 1) 0 m1 s1.size n1 with
    | true=>
     rw [hf] at hcall;refine dS [.v,.o (ins:=[((.tmp 89),.string q)]) (v:=.string (q.extract 1 q.size)) (fun ρ o w ho hi2=>vV (t:=9) (kz:=.i64) kr (x:=(.tmp 89)) (z:=.const (.int .i64 1)) q 1 ho hi2.1 rfl (by omega) w),.l 1,.c hcall,.v] H17 kr fun w18 H18=>zh kr kr<|zj kr<|wW<|rL [.E (.int .i64 (IntKind.i64.wrap ((i:Int)+1))) (iN (i+1)) (zd (zq (a:=i) (b:=1) (by omega))),.v] H18 kr fun gs19 w19 H19=>?_;have H20:St w.heap.size w w19 [((gs1 0).b,fdO 0 ⟨#[]⟩ p n c)]:=(show St w.heap.size w w19 [((gs1 0).b,fdO 0 ⟨#[]⟩ p n c),((gs17 2).b,fdO m1 s1 p1 n1 c1)] from H19).sub (List.Sublist.cons_cons _ (List.nil_sublist _));show ∃m,_∧_;refine ⟨_,(by omega),i+1,r1,rfl,hR1,hN1,?_,H20,(Is.of ⟨kr,kr,kr,kr,kr,trivial⟩)⟩;rw [hst];simp only [yF];rw [←hk1n,hf,Bool.true_and]
    | false=>
     rw [hf] at hcall;refine dS [.v,.o (ins:=[((.tmp 89),.string q)]) (v:=.string (q.extract 1 q.size)) (fun ρ o w ho hi2=>vV (t:=9) (kz:=.i64) kr (x:=(.tmp 89)) (z:=.const (.int .i64 1)) q 1 ho hi2.1 rfl (by omega) w),.l 1,.c hcall,.v] H17 kr fun w18 H18=>zi kr kr<|rS [.v] H18 kr fun gs19 w19 H19=>?_;exact rRe [.tmp 4] [] (v:=.bool false) (v':=.bool (((decide ((0:Nat)=0)&&decide (ByteArray.size ⟨#[]⟩=0))&&decide (n≤40))&&yF (by_ q 1) l)) H19 (za (by rw [hst];simp only [yF];rw [←hk1n,hf];simp)) kr
   ·refine rS [.E (.bool (decide ((i:Int)<(n:Int)))) (.bool false) (za (decide_eq_false (by omega)))] H15 kr fun gs16 w16 H16=>zb kr<|zh kr kr<|zy 1 kr<|wW ?_;obtain rfl:=FrR.done hN hi;refine rS [.v,.l 0,.v,.E (.bool (decide ((n:Int)≤40))) (.bool (decide (n≤40))) (za (by rw [decide_eq_decide];omega)),.v] H16 kr fun gs17 w17 H17=>?_;exact rRe [.tmp 4] [] (v:=.bool (decide (n≤40))) (v':=.bool (((decide ((0:Nat)=0)&&decide (ByteArray.size ⟨#[]⟩=0))&&decide (n≤40))&&yF (by_ q 1) l)) H17 (za (by rw [hst];show decide (n≤40)=((true&&decide (n≤40))&&true);simp)) kr
  ·refine rS [.v,.l 0,.v,.v,.v,.l 0,.E (.bool (!(s.toList==(⟨#[]⟩:ByteArray).toList))) (.bool true) (za (by rw [zd9,decide_eq_false hs];rfl)),.v] H10 kr fun gs11 w11 H11=>zi kr kr<|rS [.v] H11 kr fun gs12 w12 H12=>?_;exact rRe [.tmp 4] [] (v:=.bool false) (v':=.bool (((decide ((0:Nat)=0)&&decide (s.size=0))&&decide (n≤40))&&yF (by_ q 1) l)) H12 (za (by simp [hs])) kr
 ·refine rS [.v,.l 0,.E (.bool (!((m:Int)==0))) (.bool true) (za (by rw [beq_eq_false_iff_ne.2 (show (m:Int)≠0 by omega)];rfl)),.v,.n,.n,.n,.v] H10 kr fun gs11 w11 H11=>zi kr kr<|rS [.v] H11 kr fun gs12 w12 H12=>?_;exact rRe [.tmp 4] [] (v:=.bool false) (v':=.bool (((decide (m=0)&&decide (s.size=0))&&decide (n≤40))&&yF (by_ q 1) l)) H12 (za (by simp [hm])) kr
theorem zjH (q:ByteArray)(m:Nat)(s:ByteArray)(p:Option Addr)(n c:Nat)(l:Fe)(hk:kdOk q=true):FnP Tryz.prog 112 #[.string q,fld m s p n c] (fun w=>SlR fS w.heap.size w p n l) (.bool (yG q (m,s) l)):=fun w hF=>by
 have hn:=hF.1;rcases zaT.1 hk with ⟨h1,h2⟩ | ⟨h1,h2,h3⟩
 ·have hne: ¬by_ q 0=42:=by rw [jg] at h2;omega
  have eb:kdB q=.nil:=by unfold kdB;rw [if_neg hne]
  have e:yG q (m,s) l=zv (by_ q 0) 0 m s.size n:=by
   unfold yG;rw [eb,beq_eq_false_iff_ne.2 hne,hn];simp [Fr.len]
  rw [e];exact zea q m s p n c (by omega) h2 w
 ·have eb:kdB q=.cons (by_ q 1) .nil .nil:=by unfold kdB;rw [if_pos h2]
  have e:yG q (m,s) l=(zv 42 1 m s.size n&&yF (by_ q 1) l):=by
   unfold yG;rw [eb,h2,hn];simp [Fr.len]
  rw [e];exact zjG q m s p n c l h1 h2 h3 w hF
theorem zjI (ks:List ByteArray)(hk: ∀q∈ks,kdOk q=true)(kp:Option Addr)(kn kc:Nat)(p:Option Addr)(n c:Nat)(l:Fe)(hkn:kn≤1000):FnP Tryz.prog 83 #[.slice kp kn kc,.slice p n c] (fun w=>AtF sS w kp kn ks∧SlR fS w.heap.size w p n l) (.bool (zX ks l)):=by
 refine FnP.intro (c:=zk Tryz.f83) [.tmp 4] 27 Tryz.func83 kr kr kr fun w hP=>?_;obtain ⟨⟨hA,hA2⟩,hF⟩:=hP;have hn:=hF.1;have hnm:n≤0x800000000000:=hF.2.1;have H0:=St.start w;refine rS [.v] H0 kr fun gs1 w1 H1=>zb kr ?_;by_cases hl:kn=n
 ·refine rS [.v,.v,.v,.v,.E (.bool (!((kn:Int)==(n:Int)))) (.bool false) (za (by rw [kq,decide_eq_true hl];rfl))] H1 kr fun gs2 w2 H2=>zh kr kr<|zj kr<|wW<|zb kr<|rS [.v,.v,.v] H2 kr fun gs3 w3 H3=>zn 0 kr ?_;have H4:St w.heap.size w w3 []:=H3.as kr;refine zG kr (fun mz ρ ww=> ∃(i:Nat) (r:Fe),n-i=mz∧FrR fS w.heap.size w p i r∧i+r.len=n∧zX ks l=zX (ks.drop i) r∧St w.heap.size w ww []∧Is [(0,.slice kp kn kc),(1,.slice p n c),(12,iN n),(13,iN i)] ρ) (n-0) ⟨0,l,rfl,hF.start,by omega,rfl,H4,(Is.of ⟨kr,kr,kr,kr,trivial⟩)⟩ ?_;clear H0 H1 H2 H3 H4;rintro _ _ w4 ⟨i,r,rfl,hR,hN,hst,H5,_,rfl⟩;by_cases hi:i<n
  ·have hiA:i<ks.length:=by omega
   rcases hA2 with rfl|⟨ba,oa,CA,TA,fa,rfl,hha,hRa⟩
   ·exact absurd hiA (Nat.not_lt_zero _)
   have ca:CA[oa+i*1]? =some (.string ks[i]):=hRa.cell (List.getElem?_eq_getElem hiA) 0 (by decide);refine rS [.E (.bool (decide ((i:Int)<(n:Int)))) (.bool true) (za (decide_eq_true (by omega)))] H5 kr fun gs4 w5 H6=>zb kr<|zi kr kr<|zj kr<|wW<|zb kr<|zn 1 kr<|rS [.v,.v] H6 kr fun gs5 w6 H7=>?_;obtain ⟨⟨m1,s1⟩,k1,r1,b1,off1,C1,T1,fz1,p1,n1,c1,rfl,hp1,hb1,hh1,hs1,hx1,hz1,hk1,hR1,hN1⟩:=FrR.open hR hN hi;have hcall:=zjH ks[i] m1 s1 p1 n1 c1 k1 (hk _ (List.getElem_mem hiA));have hal:zX (ks.drop i) (.cons (m1,s1) k1 r1)=(yG ks[i] (m1,s1) k1&&zX (ks.drop (i+1)) r1):=by
    rw [List.drop_eq_getElem_cons hiA];rfl
   cases hf:yG ks[i] (m1,s1) k1 with
   | true=>
    rw [hf] at hcall hal;refine dS [.v,.v,.o (ins:=[((.tmp 16),.slice (some ⟨ba,oa,none⟩) kn kc),((.tmp 17),iN i)]) (v:=.pointer (some ⟨ba,oa+i*1,none⟩)) (fun ρ o w ho hi2=>yX (kd:=.i64) (t:=23) (e:=9) (K:=1) (bytes:=16) kr (x:=(.tmp 16)) (y:=(.tmp 17)) ba oa kn kc i rfl ho hi2.1 hi2.2.1 (by omega) w),.fs (off:=oa+i*1) (v:=.string ks[i]) hha (zz hha) ca,.v,.v,.o (ins:=[((.tmp 20),.slice p n c),((.tmp 21),iN i)]) (v:=.pointer (some ⟨b1,off1+i*3,none⟩)) (fun ρ o w ho hi2=>yo (kd:=.i64) (t:=41) (e:=44) (K:=3) (bytes:=48) kr (x:=(.tmp 20)) (y:=(.tmp 21)) b1 off1 n c i hp1 ho hi2.1 hi2.2.1 (by omega) w),.fp (off:=off1+i*3) (n:=3) (W:=#[.int .u64 (m1:Int),.string s1,.slice p1 n1 c1]) hh1 hb1 hs1 hx1,.cp (pre:=fun w=>SlR fS w.heap.size w p1 n1 k1) hcall [] (fun w hb hd=>hk1.call hb),.v] H7 kr fun w7 H8=>zh kr kr<|zj kr<|wW<|rL [.E (.int .i64 (IntKind.i64.wrap ((i:Int)+1))) (iN (i+1)) (zd (zq (a:=i) (b:=1) (by omega))),.v] H8 kr fun gs7 w8 H9=>?_;show ∃m,_∧_;exact ⟨_,(by omega),i+1,r1,rfl,hR1,hN1,by rw [hst,hal,Bool.true_and],H9.as kr,(Is.of ⟨kr,kr,kr,kr,trivial⟩)⟩
   | false=>
    rw [hf] at hcall hal;refine dS [.v,.v,.o (ins:=[((.tmp 16),.slice (some ⟨ba,oa,none⟩) kn kc),((.tmp 17),iN i)]) (v:=.pointer (some ⟨ba,oa+i*1,none⟩)) (fun ρ o w ho hi2=>yX (kd:=.i64) (t:=23) (e:=9) (K:=1) (bytes:=16) kr (x:=(.tmp 16)) (y:=(.tmp 17)) ba oa kn kc i rfl ho hi2.1 hi2.2.1 (by omega) w),.fs (off:=oa+i*1) (v:=.string ks[i]) hha (zz hha) ca,.v,.v,.o (ins:=[((.tmp 20),.slice p n c),((.tmp 21),iN i)]) (v:=.pointer (some ⟨b1,off1+i*3,none⟩)) (fun ρ o w ho hi2=>yo (kd:=.i64) (t:=41) (e:=44) (K:=3) (bytes:=48) kr (x:=(.tmp 20)) (y:=(.tmp 21)) b1 off1 n c i hp1 ho hi2.1 hi2.2.1 (by omega) w),.fp (off:=off1+i*3) (n:=3) (W:=#[.int .u64 (m1:Int),.string s1,.slice p1 n1 c1]) hh1 hb1 hs1 hx1,.cp (pre:=fun w=>SlR fS w.heap.size w p1 n1 k1) hcall [] (fun w hb hd=>hk1.call hb),.v] H7 kr fun w7 H8=>zi kr kr<|rS [.v] H8 kr fun gs7 w8 H9=>?_;exact rRe [.tmp 4] [] (v:=.bool false) (v':=.bool (zX ks l)) H9 (za (by rw [hst,hal];rfl)) kr
  ·obtain rfl:=FrR.done hN hi;refine rS [.E (.bool (decide ((i:Int)<(n:Int)))) (.bool false) (za (decide_eq_false (by omega)))] H5 kr fun gs4 w5 H6=>zb kr<|zh kr kr<|zy 0 kr<|wW<|rS [.v] H6 kr fun gs5 w6 H7=>?_;have e0:ks.drop i=[]:=List.drop_eq_nil_of_le (by simp only [Fr.len] at hN;omega);exact rRe [.tmp 4] [] (v:=.bool true) (v':=.bool (zX ks l)) H7 (za (by rw [hst,e0];rfl)) kr
 ·refine rS [.v,.v,.v,.v,.E (.bool (!((kn:Int)==(n:Int)))) (.bool true) (za (by rw [kq,decide_eq_false hl];rfl))] H1 kr fun gs2 w2 H2=>zi kr kr<|rS [.v] H2 kr fun gs3 w3 H3=>?_;have hno:zX ks l=false:=Bool.eq_false_iff.2 fun h=>hl (by rw [hA,hn,vm h]);exact rRe [.tmp 4] [] (v:=.bool false) (v':=.bool (zX ks l)) H3 (za hno.symm) kr
def kt (B:Nat)(w:World)(A:List (El (Nat×ByteArray))):Prop:= ∀x∈A,SlR fS B w x.p x.n x.k
theorem kt.snoc {B:Nat}{w:World}{A:List (El (Nat×ByteArray))}{x:El (Nat×ByteArray)}(h:kt B w A)(hx:SlR fS B w x.p x.n x.k):kt B w (A++ [x]):=fun y hy=>by
 rcases List.mem_append.1 hy with q|q
 ·exact h y q
 ·obtain rfl:=List.mem_singleton.1 q;exact hx
abbrev Fel:=El (Nat×ByteArray)
def yR:List Fel→Nat
 | []=>0
 | x::r=>x.k.cnt+yR r
theorem za7: ∀L M,yR (L++M)=yR L+yR M
 | [],M=>by simp [yR]
 | x::r,M=>by simp only [List.cons_append,yR,za7 r M];omega
theorem zeb: ∀(L:List Fel) (i:Nat) (x:Fel),L[i]? =some x→yR (L.drop i)=x.k.cnt+yR (L.drop (i+1))
 | [],_,_,h=>by simp at h
 | y::r,0,x,h=>by simp at h;subst h;simp [yR]
 | y::r,i+1,x,h=>by
  have:=zeb r i x (by simpa using h)
  simpa using this
theorem Cnt.begin (t:Nat):Cnt t 1000 0 (yR []+t):=⟨by omega,fun _=>by simp [yR],fun h=>absurd h (by omega)⟩
theorem Cnt.pushE {t N:Nat}{A:List Fel}{r k1 r1:Fe}{m1:Nat×ByteArray}{p1:Option Addr}{n1 c1:Nat}(h:Cnt t 1000 N (yR A+r.cnt))(hr:r=.cons m1 k1 r1)(hn:N≤1000):Cnt t 1000 (N+1) (yR (A++ [(⟨m1,p1,n1,c1,k1⟩:Fel)])+r1.cnt):=by
 subst hr;refine Cnt.push (kc:=k1.cnt) (rc:=r1.cnt) h hn ?_;rw [za7];rfl
theorem Cnt.pushD {t N q:Nat}{A:List Fel}{r k1 r1:Fe}{m1:Nat×ByteArray}{p1:Option Addr}{n1 c1:Nat}(h:Cnt t 1000 N (yR (A.drop q)+r.cnt))(hr:r=.cons m1 k1 r1)(hn:N≤1000)(hq:q≤A.length):Cnt t 1000 (N+1) (yR ((A++ [(⟨m1,p1,n1,c1,k1⟩:Fel)]).drop q)+r1.cnt):=by
 subst hr;refine Cnt.push (kc:=k1.cnt) (rc:=r1.cnt) h hn ?_;rw [List.drop_append_of_le_length hq,za7];rfl
theorem zec (p:Option Addr)(n c:Nat)(l:Fe):FnP Tryz.prog 82 #[.slice p n c,.int .i64 1000] (fun w=>SlR fS w.heap.size w p n l) (iN (yY l.cnt 1000)):=by
 refine FnP.intro (c:=zk Tryz.f82) [.tmp 4] 60 Tryz.func82 kr kr kr fun w hF=>?_;have H0:=St.start w;have hn:=hF.1;have hnm:n≤0x800000000000:=hF.2.1;refine rS [.v] H0 kr fun gs1 w1 H1=>rS [.nw (fun b=>.slice (some ⟨b,0,none⟩) 0 0) #[] 44,.v] H1 kr fun gs2 w2 H2=>zb kr<|zb kr<|rL [.v,.v,.v] H2 kr fun gs3 w3 H3=>wW<|zn 0 kr ?_;have H4:St w.heap.size w w3 [((gs2 0).b,frO #[])]:=H3.as kr;clear H0 H1 H2 H3;refine zG kr (fun mz ρ ww=> ∃(i:Nat) (r:Fe) (A:List (El (Nat×ByteArray))) (N bo cap:Nat) (cur:Array Value),n-i=mz∧N=A.length∧FrR fS w.heap.size w p i r∧i+r.len=n∧kt w.heap.size w A∧N≤1001∧Cnt l.cnt 1000 N (yR A+r.cnt)∧Rw 3 cur cap N (zC fS A)∧St w.heap.size w ww [(bo,frO cur)]∧Is [(1,.int .i64 1000),(5,.slice (some ⟨bo,0,none⟩) N cap),(12,.slice p n c),(13,.int .i64 (n:Int)),(14,.int .i64 (i:Int))] ρ) (n-0) ⟨0,l,[],0,(gs2 0).b,0,#[],rfl,rfl,hF.start,by omega,(fun _ h=>nomatch h),by omega,Cnt.begin _,⟨rfl,Nat.le_refl _,by unfold maxLen;omega,rfl,rfl⟩,H4,(Is.of ⟨kr,kr,kr,kr,kr,trivial⟩)⟩ ?_;clear H4;rintro _ _ w4 ⟨i,r,A,N,bo,cap,cur,rfl,hNA,hR,hN,hA,hN5,hC,hRw,H5,_,rfl⟩;by_cases hi:i<n
 ·refine rS [.E (.bool (decide ((i:Int)<(n:Int)))) (.bool true) (za (decide_eq_true (by omega)))] H5 kr fun gs4 w5 H6=>zb kr<|zi kr kr<|zj kr<|wW<|zb kr<|zn 1 kr ?_;obtain ⟨⟨m1,s1⟩,k1,r1,b1,off1,C1,T1,fz1,p1,n1,c1,hr1,hp1,hb1,hh1,hs1,hx1,hz1,hk1,hR1,hN1⟩:=FrR.open hR hN hi;refine rS [.o (ins:=[((.tmp 12),.slice p n c),((.tmp 14),.int .i64 (i:Int))]) (v:=.pointer (some ⟨b1,off1+i*3,none⟩)) (fun ρ o w ho hi2=>yo (kd:=.i64) (t:=41) (e:=44) (K:=3) (bytes:=48) kr (x:=(.tmp 12)) (y:=(.tmp 14)) b1 off1 n c i hp1 ho hi2.1 hi2.2.1 (by omega) w),.fp (off:=off1+i*3) (n:=3) (W:=#[.int .u64 (m1:Int),.string s1,.slice p1 n1 c1]) hh1 hb1 hs1 hx1,.a,.s 1] H6 kr fun gs5 w6 H7=>?_;by_cases h1000:N≤1000
  ·refine rS [.v,.v,.v,.E (.bool (decide ((N:Int)≤1000))) (.bool true) (za (decide_eq_true (by omega)))] H7 kr fun gs6 w7 H8=>zi kr kr<|yq [0,1,2,3,4] kr<|rp [.v,.l 1] H8 kr fun gs7 w8 H9=>wX [2,3,4] ?_;have H10:St w.heap.size w w8 [(bo,frO cur),((gs5 2).b,fdO m1 s1 p1 n1 c1)]:=H9.as kr;refine uY H10 (some 24) (fun b=>.slice (some ⟨b,0,none⟩) 1 1) #[.int .u64 (m1:Int),.string s1,.slice p1 n1 c1] 44 (fun w=>by kernel_rfl) kr ?_;intro bn w9 H11;refine zax (K':=3) H11 (some 25) 41 44 48 (.tmp 22) (.tmp 24) 1 0 bo bn N cap 1 cur #[.int .u64 (m1:Int),.string s1,.slice p1 n1 c1] (zC fS A) kr kr kr kr kr hRw kr kr rfl (jD rfl) (by omega) (by unfold maxLen;omega) ?_;intro b' cap' cur' w10 H12 hr';have H13:St w.heap.size w w10 [(b',frO cur')]:=(show St w.heap.size w w10 [(bn,frO #[.int .u64 (m1:Int),.string s1,.slice p1 n1 c1]),(b',frO cur'),((gs5 2).b,fdO m1 s1 p1 n1 c1)] from H12).sub (List.Sublist.cons _ (List.Sublist.cons_cons _ (List.nil_sublist _)));refine rp [.v] H13 kr fun gs8 w11 H14=>wX []<|zc<|wW<|rL [.E (.int .i64 (IntKind.i64.wrap ((i:Int)+1))) (.int .i64 ((i+1:Nat):Int)) (zd (zq (a:=i) (b:=1) (by omega))),.v] H14 kr fun gs9 w12 H15=>?_;show ∃m,_∧_;refine ⟨_,(by omega),i+1,r1,A++ [(⟨(m1,s1),p1,n1,c1,k1⟩:El (Nat×ByteArray))],N+1,b',cap',cur',rfl,by rw [List.length_append,←hNA];rfl,hR1,hN1,hA.snoc hk1,by omega,Cnt.pushE hC hr1 h1000,?_,H15.as kr,(Is.of ⟨kr,kr,kr,kr,kr,trivial⟩)⟩;rw [kf];exact hr'
  ·refine rS [.v,.v,.v,.E (.bool (decide ((N:Int)≤1000))) (.bool false) (za (decide_eq_false (by omega)))] H7 kr fun gs6 w7 H8=>zh kr kr<|zj kr<|wW ?_;have H13:St w.heap.size w w7 [(bo,frO cur)]:=(show St w.heap.size w w7 [(bo,frO cur),((gs5 2).b,fdO m1 s1 p1 n1 c1)] from H8).sub (List.Sublist.cons_cons _ (List.nil_sublist _));refine rL [.E (.int .i64 (IntKind.i64.wrap ((i:Int)+1))) (.int .i64 ((i+1:Nat):Int)) (zd (zq (a:=i) (b:=1) (by omega))),.v] H13 kr fun gs9 w12 H15=>?_;show ∃m,_∧_;exact ⟨_,(by omega),i+1,r1,A,N,bo,cap,cur,rfl,hNA,hR1,hN1,hA,hN5,Cnt.full hC h1000,hRw,H15.as kr,(Is.of ⟨kr,kr,kr,kr,kr,trivial⟩)⟩
 ·refine rS [.E (.bool (decide ((i:Int)<(n:Int)))) (.bool false) (za (decide_eq_false (by omega)))] H5 kr fun gs4 w5 H6=>zb kr<|zh kr kr<|zy 0 kr<|wW<|zb kr<|rS [.v] H6 kr fun gs5 w6 H7=>zn 2 kr ?_;have H8:St w.heap.size w w6 [(bo,frO cur)]:=H7.as kr;have hC0:Cnt l.cnt 1000 N (yR (A.drop 0)):=by rw [FrR.done hN hi] at hC;exact hC
  refine zG kr (fun mz ρ ww=> ∃(q:Nat) (A:List (El (Nat×ByteArray))) (N bo cap:Nat) (cur:Array Value),1002-q=mz∧N=A.length∧kt w.heap.size w A∧N≤1001∧q≤N∧Cnt l.cnt 1000 N (yR (A.drop q))∧Rw 3 cur cap N (zC fS A)∧St w.heap.size w ww [(bo,frO cur)]∧Is [(1,.int .i64 1000),(5,.slice (some ⟨bo,0,none⟩) N cap),(8,.int .i64 (q:Int))] ρ) (1002-0) ⟨0,A,N,bo,cap,cur,rfl,hNA,hA,hN5,Nat.zero_le _,hC0,hRw,H8,(Is.of ⟨kr,kr,kr,trivial⟩)⟩ ?_;clear H5 H6 H7 H8 hC0 hC hR hN hi hRw hA hNA hN5;clear bo cap cur N A i r;rintro _ _ w4 ⟨q,A,N,bo,cap,cur,rfl,hNA,hA,hN5,hq,hC,hRw,H5,_,rfl⟩;by_cases hqN:q<N
  ·by_cases h1000:N≤1000
   ·refine zb kr<|zb kr<|rL [.v,.v,.v,.E (.bool (decide ((q:Int)<(N:Int)))) (.bool true) (za (decide_eq_true (by omega))),.v,.v,.v,.v,.E (.bool (decide ((N:Int)≤1000))) (.bool true) (za (decide_eq_true (by omega))),.v] H5 kr fun gs4 w5 H6=>wW<|zi kr kr<|zj kr<|wW ?_;obtain ⟨x,hx⟩:∃x,A[q]? =some x:=⟨_,List.getElem?_eq_getElem (by omega)⟩
    have hxA:=hA x (List.mem_of_getElem? hx);have hxn:=hxA.1;have hxm:x.n≤0x800000000000:=hxA.2.1;have hcell:cur[0+q*3+2]? =some (.slice x.p x.n x.c):=by
     rw [Nat.zero_add,hRw.get _ (by omega)];exact zat (S:=fS) A q x hx 2 (by decide)
    refine zb kr<|zn 3 kr<|rS [.v,.v,.o (ins:=[((.tmp 39),.slice (some ⟨bo,0,none⟩) N cap),((.tmp 40),.int .i64 (q:Int))]) (v:=.pointer (some ⟨bo,0+q*3,none⟩)) (fun ρ o w ho hi2=>yo (kd:=.i64) (t:=41) (e:=44) (K:=3) (bytes:=48) kr (x:=(.tmp 39)) (y:=(.tmp 40)) bo 0 N cap q rfl ho hi2.1 hi2.2.1 (by omega) w),.v,.ls 0 (C:=cur) (off:=0+q*3+2) (v:=.slice x.p x.n x.c) hcell,.v,.v] H6 kr fun gs5 w6 H7=>zn 4 kr ?_;have H8:St w.heap.size w w6 [(bo,frO cur)]:=H7.as kr;clear H5 H6 H7;refine zG kr (fun mz ρ ww=> ∃(i:Nat) (r:Fe) (A:List (El (Nat×ByteArray))) (N bo cap:Nat) (cur:Array Value),x.n-i=mz∧N=A.length∧FrR fS w.heap.size w x.p i r∧i+r.len=x.n∧kt w.heap.size w A∧N≤1001∧q<N∧Cnt l.cnt 1000 N (yR (A.drop (q+1))+r.cnt)∧Rw 3 cur cap N (zC fS A)∧St w.heap.size w ww [(bo,frO cur)]∧Is [(1,.int .i64 1000),(5,.slice (some ⟨bo,0,none⟩) N cap),(8,.int .i64 (q:Int)),(43,.slice x.p x.n x.c),(44,.int .i64 ((x.n:Nat):Int)),(45,.int .i64 (i:Int))] ρ) (x.n-0) ⟨0,x.k,A,N,bo,cap,cur,rfl,hNA,hxA.start,by omega,hA,hN5,hqN,(by rw [zeb A q x hx,Nat.add_comm] at hC;exact hC),hRw,H8,(Is.of ⟨kr,kr,kr,kr,kr,kr,trivial⟩)⟩ ?_;clear H8 hC hRw hA hNA hN5 hcell hx h1000 hqN hq;clear bo cap cur N A;rintro _ _ w4 ⟨i,r,A,N,bo,cap,cur,rfl,hNA,hR,hN,hA,hN5,hqN,hC,hRw,H5,_,rfl⟩;by_cases hi:i<x.n
    ·refine rS [.E (.bool (decide ((i:Int)<((x.n:Nat):Int)))) (.bool true) (za (decide_eq_true (by omega)))] H5 kr fun gs4 w5 H6=>zb kr<|zi kr kr<|zj kr<|wW<|zb kr<|zn 5 kr ?_;obtain ⟨⟨m1,s1⟩,k1,r1,b1,off1,C1,T1,fz1,p1,n1,c1,hr1,hp1,hb1,hh1,hs1,hx1,hz1,hk1,hR1,hN1⟩:=FrR.open hR hN hi;refine rS [.o (ins:=[((.tmp 43),.slice x.p x.n x.c),((.tmp 45),.int .i64 (i:Int))]) (v:=.pointer (some ⟨b1,off1+i*3,none⟩)) (fun ρ o w ho hi2=>yo (kd:=.i64) (t:=41) (e:=44) (K:=3) (bytes:=48) kr (x:=(.tmp 43)) (y:=(.tmp 45)) b1 off1 x.n x.c i hp1 ho hi2.1 hi2.2.1 (by omega) w),.fp (off:=off1+i*3) (n:=3) (W:=#[.int .u64 (m1:Int),.string s1,.slice p1 n1 c1]) hh1 hb1 hs1 hx1,.a,.s 1] H6 kr fun gs5 w6 H7=>?_;by_cases h1000:N≤1000
     ·refine rS [.v,.v,.v,.E (.bool (decide ((N:Int)≤1000))) (.bool true) (za (decide_eq_true (by omega)))] H7 kr fun gs6 w7 H8=>zi kr kr<|yq [0,1,2,3,4] kr<|rp [.v,.l 1] H8 kr fun gs7 w8 H9=>wX [2,3,4] ?_;have H10:St w.heap.size w w8 [(bo,frO cur),((gs5 2).b,fdO m1 s1 p1 n1 c1)]:=H9.as kr;refine uY H10 (some 55) (fun b=>.slice (some ⟨b,0,none⟩) 1 1) #[.int .u64 (m1:Int),.string s1,.slice p1 n1 c1] 44 (fun w=>by kernel_rfl) kr ?_;intro bn w9 H11;refine zax (K':=3) H11 (some 56) 41 44 48 (.tmp 53) (.tmp 55) 1 0 bo bn N cap 1 cur #[.int .u64 (m1:Int),.string s1,.slice p1 n1 c1] (zC fS A) kr kr kr kr kr hRw kr kr rfl (jD rfl) (by omega) (by unfold maxLen;omega) ?_;intro b' cap' cur' w10 H12 hr';have H13:St w.heap.size w w10 [(b',frO cur')]:=(show St w.heap.size w w10 [(bn,frO #[.int .u64 (m1:Int),.string s1,.slice p1 n1 c1]),(b',frO cur'),((gs5 2).b,fdO m1 s1 p1 n1 c1)] from H12).sub (List.Sublist.cons _ (List.Sublist.cons_cons _ (List.nil_sublist _)));refine rp [.v] H13 kr fun gs8 w11 H14=>wX []<|zc<|wW<|rL [.E (.int .i64 (IntKind.i64.wrap ((i:Int)+1))) (.int .i64 ((i+1:Nat):Int)) (zd (zq (a:=i) (b:=1) (by omega))),.v] H14 kr fun gs9 w12 H15=>?_;show ∃m,_∧_;refine ⟨_,(by omega),i+1,r1,A++ [(⟨(m1,s1),p1,n1,c1,k1⟩:El (Nat×ByteArray))],N+1,b',cap',cur',rfl,by rw [List.length_append,←hNA];rfl,hR1,hN1,hA.snoc hk1,by omega,by omega,Cnt.pushD hC hr1 h1000 (by omega),?_,H15.as kr,(Is.of ⟨kr,kr,kr,kr,kr,kr,trivial⟩)⟩;rw [kf];exact hr'
     ·refine rS [.v,.v,.v,.E (.bool (decide ((N:Int)≤1000))) (.bool false) (za (decide_eq_false (by omega)))] H7 kr fun gs6 w7 H8=>zh kr kr<|zj kr<|wW ?_;have H13:St w.heap.size w w7 [(bo,frO cur)]:=(show St w.heap.size w w7 [(bo,frO cur),((gs5 2).b,fdO m1 s1 p1 n1 c1)] from H8).sub (List.Sublist.cons_cons _ (List.nil_sublist _));refine rL [.E (.int .i64 (IntKind.i64.wrap ((i:Int)+1))) (.int .i64 ((i+1:Nat):Int)) (zd (zq (a:=i) (b:=1) (by omega))),.v] H13 kr fun gs9 w12 H15=>?_;show ∃m,_∧_;exact ⟨_,(by omega),i+1,r1,A,N,bo,cap,cur,rfl,hNA,hR1,hN1,hA,hN5,hqN,Cnt.full hC h1000,hRw,H15.as kr,(Is.of ⟨kr,kr,kr,kr,kr,kr,trivial⟩)⟩
    ·refine rS [.E (.bool (decide ((i:Int)<((x.n:Nat):Int)))) (.bool false) (za (decide_eq_false (by omega)))] H5 kr fun gs4 w5 H6=>zb kr<|zh kr kr<|zy 4 kr<|wW<|rL [.v,.E (.int .i64 (IntKind.i64.wrap ((q:Int)+1))) (.int .i64 ((q+1:Nat):Int)) (zd (zq (a:=q) (b:=1) (by omega))),.v] H6 kr fun gs5 w6 H7=>?_;show ∃m,_∧_;exact ⟨_,(by omega),q+1,A,N,bo,cap,cur,rfl,hNA,hA,hN5,hqN,(by rw [FrR.done hN hi] at hC;exact hC),hRw,H7.as kr,(Is.of ⟨kr,kr,kr,trivial⟩)⟩
   ·refine zb kr<|zb kr<|rL [.v,.v,.v,.E (.bool (decide ((q:Int)<(N:Int)))) (.bool true) (za (decide_eq_true (by omega))),.v,.v,.v,.v,.E (.bool (decide ((N:Int)≤1000))) (.bool false) (za (decide_eq_false (by omega))),.v] H5 kr fun gs4 w5 H6=>wW<|zh kr kr<|zy 2 kr<|wW<|rS [.v,.v,.v] H6 kr fun gs5 w6 H7=>?_;exact rRe [.tmp 4] [] (v:=iN N) (v':=iN (yY l.cnt 1000)) H7 (by rw [Cnt.done (.inr ⟨_,hC,by omega⟩)]) kr
  ·refine zb kr<|zb kr<|rL [.v,.v,.v,.E (.bool (decide ((q:Int)<(N:Int)))) (.bool false) (za (decide_eq_false (by omega))),.v,.n,.n,.n,.n,.v] H5 kr fun gs4 w5 H6=>wW<|zh kr kr<|zy 2 kr<|wW<|rS [.v,.v,.v] H6 kr fun gs5 w6 H7=>?_;exact rRe [.tmp 4] [] (v:=iN N) (v':=iN (yY l.cnt 1000)) H7 (by rw [Cnt.done (.inl (by rw [List.drop_eq_nil_of_le (by omega)] at hC;exact hC))]) kr
theorem zjJ (form:ByteArray)(ks:List ByteArray)(hK:xh form ks)(p:Option Addr)(n c:Nat)(l:Fe):FnP Tryz.prog 53 #[.string form,.slice p n c] (fun w=>SlR fS w.heap.size w p n l) (.bool (decide (l.cnt≤1000)&&zX ks l)):=by
 refine FnP.intro (c:=zk Tryz.f53) [.tmp 4] 20 Tryz.func53 kr kr kr fun w hF=>rS [.v] (St.start w) kr fun gs1 w1 H1=>zg [0,1,2,3,4,5,6] kr kr<|rp [.v] H1 kr fun gs2 w2 H2=>wX [1,2,3,4,5,6] ?_;have H3:St w.heap.size w w2 []:=H2.as kr;refine jV H3 (some 9) 52 #[.string form] (zd8 form ks hK) trivial kr kr ?_;rintro _ T w3 ⟨kp,kn,kc,rfl,hrow⟩ H4;refine rp [.v,.v,.v,.v,.v] H4 kr fun gs3 w4 H5=>wX []<|zc<|wW ?_;have hAt:=hrow.atF H5 fun e he=>List.mem_append_left _ he;have hkn:kn≤1000:=by rw [hAt.1];exact hK.few
 have hm:(yY l.cnt 1000≤1000)↔l.cnt≤1000:=by unfold yY;split<;>omega
 by_cases hc:l.cnt≤1000
 ·rw [decide_eq_true hc,Bool.true_and];refine zg [0,1,2,3,4,5,6,7,8] kr kr<|rp [.v,.cp (pre:=fun w=>SlR fS w.heap.size w p n l) (zec p n c l) [] (fun w hb hd=>hF.call hb),.E (.bool (decide (((yY l.cnt 1000:Nat):Int)≤1000))) (.bool true) (za (decide_eq_true (by have:=hm.2 hc;omega))),.v,.v,.v] H5 kr fun gs4 w5 H6=>wX [6,7,8] ?_;have H7:St w.heap.size w w5 (T++ []):=H6.as kr;refine qC H7 (some 18) 83 #[.slice kp kn kc,.slice p n c] _ _ (zjI ks hK.kd kp kn kc p n c l hkn) ⟨hrow.atF H7 fun e he=>List.mem_append_left _ he,hF.call H7.below⟩ (fun w=>by kernel_rfl) kr ?_;intro w6 H8;refine rp [.v,.v] H8 kr fun gs5 w7 H9=>wX []<|zc ?_;exact rR [.tmp 4] [] (.bool (zX ks l)) H9 kr
 ·rw [decide_eq_false hc,Bool.false_and];refine rS [.v,.cp (pre:=fun w=>SlR fS w.heap.size w p n l) (zec p n c l) [] (fun w hb hd=>hF.call hb),.E (.bool (decide (((yY l.cnt 1000:Nat):Int)≤1000))) (.bool false) (za (decide_eq_false (by intro h;exact hc (hm.1 (by omega))))),.v,.n,.n,.n,.v,.v] H5 kr fun gs4 w5 H6=>?_;exact rR [.tmp 4] [] (.bool false) H6 kr
abbrev Sg:=Nat×Nat×Int
def sgF:Fl Sg where
 K:=9
 cs x:=[.int .u64 (w0 x.1),.int .u64 (w1 x.1),.int .u64 (w2 x.1),.int .u64 (w3 x.1),.int .u64 (w0 x.2.1),.int .u64 (w1 x.2.1),.int .u64 (w2 x.2.1),.int .u64 (w3 x.2.1),.int .i64 x.2.2]
 pos:=by decide
 len _:=rfl
 one a:=fun u hu=>by simp at hu;rcases hu with h | h | h | h | h | h | h | h | h<;>rw [h]<;>rfl
abbrev sgB (x:Sg):ByteArray:=sbs x.1 x.2.1 x.2.2
def sgOk (x:Sg):Prop:=x.1<big∧x.2.1<big
abbrev sgMay (x:Sg):Bool:=yI x.1 x.2.1 x.2.2
structure Hdr where
 pa:ByteArray
 hh:Nat
 ro:ByteArray
 tx:ByteArray
 pr:ByteArray
 va:ByteArray
 vs:List ByteArray
 vo:ByteArray
 ad:Bool
 rd:Nat
 ss:List Sg
structure yK (h:Hdr):Prop where
 hh:h.hh<0x10000000000000000
 rd:h.rd<0x10000000000000000
 pa:h.pa.size≤1000000
 ro:h.ro.size≤1000000
 tx:h.tx.size≤1000000
 pr:h.pr.size≤1000000
 va:h.va.size≤1000000
 vo:h.vo.size≤1000000
 vs: ∀x∈h.vs,ByteArray.size x≤1000000
 vl:h.vs.length≤1000
 ss: ∀x∈h.ss,sgOk x
 sl:h.ss.length≤1000
def qV:Option ByteArray→List ByteArray→Bool
 | _,[]=>true
 | p,a::r=>decide (a.size=20)&&(upB p a&&qV (some a) r)
def setM (L:List ByteArray):Bool:=qV none L&&(decide (0<L.length)&&decide (L.length≤16))
def voteB (vo:ByteArray)(ad:Bool):Bool:=if vo.size=0 then !ad else decide (vo.size=20)
def zS (h:Hdr):Bool:=
 (decide (h.pa.size=32)&&(decide (h.ro.size=32)&&(decide (h.tx.size=32)&&(decide (h.pr.size=20)&&(decide (h.va.size≤8)&&setM h.vs)))))&&((voteB h.vo h.ad&&decide (h.ss.length≤16))&&h.ss.all sgMay)
def lsF:List ByteArray→Fe
 | []=>.nil
 | a::r=>.cons (0,a) .nil (lsF r)
theorem za8: ∀L,(lsF L).len=L.length
 | []=>rfl
 | a::r=>by simp only [lsF,Fr.len,List.length_cons,za8 r]
theorem zed: ∀L,(lsF L).cnt=L.length
 | []=>rfl
 | a::r=>by simp only [lsF,Fr.cnt,List.length_cons,zed r];omega
def hdL (pa:ByteArray)(hh:Nat)(ro tx pr va:ByteArray)(L:List ByteArray)(vo:ByteArray)(a rd:Nat)(M:List ByteArray):Fe:=
 .cons (0,pa) .nil (.cons (hh,em) .nil (.cons (0,ro) .nil (.cons (0,tx) .nil (.cons (0,pr) .nil (.cons (0,va) .nil (.cons (0,em) (lsF L) (.cons (0,vo) .nil (.cons (a,em) .nil (.cons (rd,em) .nil (.cons (0,em) (lsF M) .nil))))))))))
def adN (b:Bool):Nat:=if b then 1 else 0
def hdF (h:Hdr):Fe:=hdL h.pa h.hh h.ro h.tx h.pr h.va h.vs h.vo (adN h.ad) h.rd (h.ss.map sgB)
abbrev jI:ByteArray:=⟨#[104,110,104,104,97,98,42,97,98,110,110,42,115]⟩
def hK:List ByteArray:=[⟨#[104]⟩,⟨#[110]⟩,⟨#[104]⟩,⟨#[104]⟩,⟨#[97]⟩,⟨#[98]⟩,⟨#[42,97]⟩,⟨#[98]⟩,⟨#[110]⟩,⟨#[110]⟩,⟨#[42,115]⟩]
theorem zee:xh jI hK:=⟨by decide,by kernel_rfl,by kernel_rfl,by kernel_rfl,List.all_eq_true.1 (show hK.all kdOk=true by kernel_rfl)⟩
def yZ (h:Hdr):ByteArray:=(wrV jI (hdF h)).1
structure RtH (h:Hdr):Prop where
 pa:h.pa.size=32
 ro:h.ro.size=32
 tx:h.tx.size=32
 pr:h.pr.size=20
 va:h.va.size≤8
 st:setM h.vs=true
 vo:voteB h.vo h.ad=true
 sl:h.ss.length≤16
 ss:h.ss.all sgMay=true
theorem qz {h:Hdr} :zS h=true↔RtH h:=by
 unfold zS;simp only [Bool.and_eq_true,decide_eq_true_eq];exact ⟨fun ⟨⟨h1,h2,h3,h4,h5,h6⟩,⟨h7,h8⟩,h9⟩=>⟨h1,h2,h3,h4,h5,h6,h7,h8,h9⟩,fun ⟨h1,h2,h3,h4,h5,h6,h7,h8,h9⟩=>⟨⟨h1,h2,h3,h4,h5,h6⟩,⟨h7,h8⟩,h9⟩⟩
theorem zef {p:Option ByteArray} : ∀ {L:List ByteArray},qV p L=true→ ∀x∈L,ByteArray.size x=20:=by
 intro L
 induction L generalizing p with
 | nil=>intro _ x hx;exact nomatch hx
 | cons a r ih=>
  intro h x hx;simp only [qV,Bool.and_eq_true,decide_eq_true_eq] at h;rcases List.mem_cons.1 hx with rfl | hx
  ·exact h.1
  ·exact ih h.2.2 x hx
theorem za9 (m sz ln:Nat):zv 104 0 m sz ln=(decide (m=0)&&(decide (sz=32)&&decide (ln=0))):=by
 unfold zv yx zT ya;rw [Bool.eq_iff_iff];simp<;>omega
theorem zeg (m sz ln:Nat):zv 42 1 m sz ln=(decide (m=0)&&(decide (sz=0)&&decide (ln≤40))):=by
 unfold zv yx zT ya;rw [Bool.eq_iff_iff];simp<;>omega
theorem zeh (c:Nat)(q:ByteArray)(x:Nat×ByteArray)(l:Fe)(h0:by_ q 0=42)(h1:by_ q 1=c):yG q x l=(zv 42 1 x.1 x.2.size l.len&&yF c l):=by
 have e:kdB q=.cons c .nil .nil:=by unfold kdB;rw [if_pos h0,h1]
 unfold yG;rw [e,h0,h1];rfl
theorem ku {c z:Nat}(hf: ∀m sz ln,zv c 0 m sz ln=(decide (m=0)&&(decide (sz=z)&&decide (ln=0)))): ∀ {l:Fe},yF c l=true↔ ∃L:List ByteArray,l=lsF L∧ ∀x∈L,ByteArray.size x=z
 | .nil=>⟨fun _=>⟨[],rfl,fun _ h=>nomatch h⟩,fun _=>rfl⟩
 | .cons x l r=>by
  simp only [yF,hf,Bool.and_eq_true,decide_eq_true_eq];constructor
  ·rintro ⟨⟨h1,h2,h3⟩,h4⟩;obtain ⟨L,rfl,hL⟩:=(ku hf).1 h4;obtain rfl:=Fr.len_zero h3;obtain ⟨m,s⟩:=x;simp only at h1 h2;subst h1;exact ⟨s::L,rfl,fun y hy=>by rcases List.mem_cons.1 hy with rfl | hy;exact h2;exact hL y hy⟩
  ·rintro ⟨L,h1,h2⟩;cases L with
   | nil=>unfold lsF at h1;cases h1
   | cons a t=>
    unfold lsF at h1;injection h1 with e1 e2 e3
    subst e1 e2 e3;exact ⟨⟨rfl,h2 a (List.mem_cons_self ..),rfl⟩,(ku hf).2 ⟨t,rfl,fun y hy=>h2 y (List.mem_cons_of_mem _ hy)⟩⟩
theorem zjK (l:Fe):zX hK l=true↔ ∃(pa:ByteArray) (hh:Nat) (ro tx pr va:ByteArray) (L:List ByteArray) (vo:ByteArray) (a rd:Nat) (M:List ByteArray),l=hdL pa hh ro tx pr va L vo a rd M∧
 pa.size=32∧ro.size=32∧tx.size=32∧pr.size=20∧va.size≤64∧(∀x∈L,ByteArray.size x=20)∧L.length≤40∧vo.size≤64∧(∀x∈M,ByteArray.size x=65)∧M.length≤40:=by
 have s1:=fun x l=>xN 104 ⟨#[104]⟩ x l rfl (by decide);have s2:=fun x l=>xN 110 ⟨#[110]⟩ x l rfl (by decide);have s3:=fun x l=>xN 97 ⟨#[97]⟩ x l rfl (by decide);have s4:=fun x l=>xN 98 ⟨#[98]⟩ x l rfl (by decide);have s5:=fun x l=>zeh 97 ⟨#[42,97]⟩ x l rfl rfl;have s6:=fun x l=>zeh 115 ⟨#[42,115]⟩ x l rfl rfl;constructor
 ·intro h;have hl:=vm h;unfold hK at h
  match l,h,hl with
  | .cons x1 l1 (.cons x2 l2 (.cons x3 l3 (.cons x4 l4 (.cons x5 l5 (.cons x6 l6 (.cons x7 l7 (.cons x8 l8 (.cons x9 l9 (.cons x10 l10 (.cons x11 l11 .nil)))))))))),h,_=>
   simp only [zX,s1,s2,s3,s4,s5,s6,uH,za2,za3,za9,zeg,Bool.and_eq_true,decide_eq_true_eq] at h;obtain ⟨⟨a1,a2,a3⟩,⟨b1,b2⟩,⟨c1,c2,c3⟩,⟨d1,d2,d3⟩,⟨e1,e2,e3⟩,⟨f1,f2,f3⟩,⟨⟨g1,g2,g3⟩,g4⟩,⟨h1,h2,h3⟩,⟨i1,i2⟩,⟨j1,j2⟩,⟨⟨k1,k2,k3⟩,k4⟩,_⟩:=h;obtain ⟨L,rfl,hL⟩:=(ku uH).1 g4;obtain ⟨M,rfl,hM⟩:=(ku zd1).1 k4;rw [za8] at g3 k3;obtain ⟨m1,t1⟩:=x1;obtain ⟨m2,t2⟩:=x2;obtain ⟨m3,t3⟩:=x3;obtain ⟨m4,t4⟩:=x4;obtain ⟨m5,t5⟩:=x5;obtain ⟨m6,t6⟩:=x6;obtain ⟨m7,t7⟩:=x7;obtain ⟨m8,t8⟩:=x8;obtain ⟨m9,t9⟩:=x9;obtain ⟨m10,t10⟩:=x10;obtain ⟨m11,t11⟩:=x11;obtain rfl:=Fr.len_zero a3;obtain rfl:=Fr.len_zero b2;obtain rfl:=Fr.len_zero c3;obtain rfl:=Fr.len_zero d3;obtain rfl:=Fr.len_zero e3;obtain rfl:=Fr.len_zero f3;obtain rfl:=Fr.len_zero h3;obtain rfl:=Fr.len_zero i2;obtain rfl:=Fr.len_zero j2;obtain rfl:=jo b1;obtain rfl:=jo i1;obtain rfl:=jo j1;obtain rfl:=jo g2;obtain rfl:=jo k2;simp only at a1 c1 d1 e1 f1 g1 h1 k1;subst a1 c1 d1 e1 f1 g1 h1 k1;exact ⟨t1,m2,t3,t4,t5,t6,L,t8,m9,m10,M,rfl,a2,c2,d2,e2,f2,hL,g3,h2,hM,k3⟩
 ·rintro ⟨pa,hh,ro,tx,pr,va,L,vo,a,rd,M,rfl,h1,h2,h3,h4,h5,h6,h7,h8,h9,h10⟩;unfold hK hdL;simp only [zX,s1,s2,s3,s4,s5,s6,uH,za2,za3,za9,zeg,(ku uH).2 ⟨L,rfl,h6⟩,(ku zd1).2 ⟨M,rfl,h9⟩,za8,h1,h2,h3,h4,h5,h7,h8,h10,Fr.len];rfl
def lsI:List ByteArray→Fo
 | []=>.nil
 | a::r=>.cons false a .nil (lsI r)
theorem zba {c:Nat}(h1:c≠110)(h2:zR c=false): ∀(L:List ByteArray) (i:Nat),yd (lsF L) 42 (.cons c .nil .nil) i=lsI L
 | [],_=>rfl
 | a::r,i=>by
  unfold lsF lsI;rw [uo,uq,zba h1 h2 r];unfold zJ zH;rw [if_neg h1,h2];rfl
theorem zei: ∀L,(lsI L).cnt=L.length
 | []=>rfl
 | a::r=>by simp only [lsI,Fo.cnt,List.length_cons,zei r];omega
theorem zbb: ∀L,pureF (lsI L)=true
 | []=>rfl
 | a::r=>by
  show ((!zD false a 0&&true)&&pureF (lsI r))=true;rw [zbb r];rfl
theorem zej: ∀L,dpF (lsI L)=0
 | []=>rfl
 | a::r=>by
  show max 0 (dpF (lsI r))=0;rw [zej r];rfl
theorem zbc {z:Nat} : ∀ {L:List ByteArray},(∀x∈L,ByteArray.size x≤z)→wtF (lsI L)≤L.length*(9+z)
 | [],_=>Nat.zero_le _
 | a::r,h=>by
  have h1:=h a (List.mem_cons_self ..);have h2:=zbc (L:=r) fun x hx=>h x (List.mem_cons_of_mem _ hx);simp only [lsI,wtF,List.length_cons,Nat.succ_mul];omega
def hdI (h:Hdr):Fo:=
 .cons false h.pa .nil (.cons false (zf (dg h.hh)) .nil (.cons false h.ro .nil (.cons false h.tx .nil (.cons false h.pr .nil (.cons false h.va .nil (.cons true emB (lsI h.vs) (.cons false h.vo .nil (.cons false (zf (dg (adN h.ad))) .nil (.cons false (zf (dg h.rd)) .nil (.cons true emB (lsI (h.ss.map sgB)) .nil))))))))))
theorem zjL (h:Hdr):yd (hdF h) 40 (kfL hK) 0=hdI h:=by
 unfold hdF hdL hdI;rw [qq _ _ _ 0 (by decide),qq _ _ _ 1 (by decide),qq _ _ _ 2 (by decide),qq _ _ _ 3 (by decide),qq _ _ _ 4 (by decide),qq _ _ _ 5 (by decide),qq _ _ _ 6 (by decide),qq _ _ _ 7 (by decide),qq _ _ _ 8 (by decide),qq _ _ _ 9 (by decide),qq _ _ _ 10 (by decide)];have e1:zH 42 (.cons 97 .nil .nil) (lsF h.vs)=lsI h.vs:=by
  unfold zH;rw [if_pos (show zR 42=true from rfl)];exact zba (by decide) rfl _ _
 have e2:zH 42 (.cons 115 .nil .nil) (lsF (h.ss.map sgB))=lsI (h.ss.map sgB):=by
  unfold zH;rw [if_pos (show zR 42=true from rfl)];exact zba (by decide) rfl _ _
 rw [←e1,←e2];rfl
theorem zek {vo:ByteArray}{ad:Bool}(h:voteB vo ad=true):vo.size≤20:=by
 unfold voteB at h;split at h
 ·omega
 ·have:=of_decide_eq_true h;omega
theorem zjM {h:Hdr}(r:zS h=true):zX hK (hdF h)=true:=by
 have q:=qz.1 r;have hs:=q.st;unfold setM at hs;simp only [Bool.and_eq_true,decide_eq_true_eq] at hs;have h1:=q.va;have h2:=zek q.vo;have h3:=q.sl;exact (zjK _).2 ⟨_,_,_,_,_,_,_,_,_,_,_,rfl,q.pa,q.ro,q.tx,q.pr,by omega,zef hs.1,by omega,by omega,fun x hx=>by obtain ⟨y,_,rfl⟩:=List.mem_map.1 hx;exact uG _ _ _,by rw [List.length_map];omega⟩
theorem zjN {h:Hdr}(r:zS h=true):wtF (hdI h)≤2500:=by
 have q:=qz.1 r;have hs:=q.st;unfold setM at hs;simp only [Bool.and_eq_true,decide_eq_true_eq] at hs;have w1:=zbc (L:=h.vs) (z:=20) fun x hx=>Nat.le_of_eq (zef hs.1 x hx);have w2:=zbc (L:=h.ss.map sgB) (z:=65) fun x hx=>by obtain ⟨y,_,rfl⟩:=List.mem_map.1 hx;exact Nat.le_of_eq (uG _ _ _)
 rw [List.length_map] at w2;have a1:=q.pa;have a2:=q.ro;have a3:=q.tx;have a4:=q.pr;have a5:=q.va;have a6:=zek q.vo;have a7:=q.sl;have d1:=qF h.hh;have d2:=qF (adN h.ad);have d3:=qF h.rd;have ez:emB.size=0:=rfl;simp only [hdI,wtF,qf];omega
theorem zjO {h:Hdr}(r:zS h=true):(wrV jI (hdF h)).2=0:=by
 have q:=qz.1 r;have hs:=q.st;unfold setM at hs;simp only [Bool.and_eq_true,decide_eq_true_eq] at hs;have a7:=q.sl;have hc:(hdF h).cnt≤1000:=by
  simp only [hdF,hdL,Fr.cnt,zed,List.length_map];omega
 have hw:=zjN r;have hci:(hdI h).cnt≤3999:=by
  simp only [hdI,Fo.cnt,zei,List.length_map];omega
 have hp:pureF (hdI h)=true:=by
  have p1:=zbb h.vs;have p2:=zbb (h.ss.map sgB);simp only [hdI,pureF,p1,p2,zD];rfl
 have hd:dpF (hdI h)=1:=by
  simp only [hdI,dpF,zej,dp1];rfl
 have h1:=xG (hdI h);have h2:=uj true emB (szF (hdI h));have ez:emB.size=0:=rfl;have hl:lf1 true emB (hdI h).len (lfF (hdI h)) 4000=some (3999-(hdI h).cnt):=by
  unfold lf1;rw [if_neg (by simp [zD];rfl),jX,if_pos ⟨hp,hci⟩]
 rw [zaW zee,if_pos ⟨zjM r,hc⟩,zjL];unfold zM;rw [hl];simp only [];rw [if_neg (by rw [hd];decide),if_neg (by omega)]
theorem isK {l:List (Nat×Value)}{ρ:Env}(h:l.map (fun p=>ρ p.1)=l.map (·.2):=by kernel_rfl):Is l ρ:=by
 refine Is.of ?_
 induction l with
 | nil=>trivial
 | cons p r ih=>
  simp only [List.map_cons,List.cons.injEq] at h;exact ⟨h.1,ih h.2⟩
section
variable {P:Program}{N:Nat}{c:Code}{Q:Exit→Env→World→Prop}{ρ:Env}{w:World}
theorem yW (k:Q .normal ρ w)(h:(xW c&&vE (vB c))=true:=by kernel_rfl)(hx:ev ρ (xx c)=.bool false:=by kernel_rfl):WP P N c Q ρ w:=by
 rw [Bool.and_eq_true] at h;exact zh h.1 hx (zj h.2 k)
theorem yp (k:WP P N (vA c) Q ρ w)(h:xW c=true:=by kernel_rfl)(hx:ev ρ (xx c)=.bool true:=by kernel_rfl):WP P N c Q ρ w:=zi h hx k
def zbd (c:Code):Code:=qb (qb c)
def uJ (c:Code):Code:=zN (zbd c)
def qW (c:Code):Code:=ym (zbd c)
def zbe (c:Code):Code:=qb (zN (ym (qW c)))
def vq (c:Code):Code:=ym (ym (qW c))
def vr (n:Nat):Code→Bool
 | .region _ ops d=>Nat.beq ops.size n&& !d
 | _=>false
theorem zel {n:Nat}{c:Code}(h:vr n c=true):∃id,c=.region id (zo c) false∧List.range (zo c).size=List.range n:=by
 cases c with
 | region id ops d=>
  cases d with
  | true=>simp [vr] at h
  | false=>
   simp only [vr,Bool.not_false,Bool.and_true] at h;exact ⟨id,rfl,congrArg List.range (Nat.eq_of_beq_eq_true h)⟩
 | _=>cases h
def uK (a:Option Nat)(b:Nat):Bool:=match a with
 | some x=>Nat.beq x b
 | none=>false
theorem zbf {a:Option Nat}{b:Nat}(h:uK a b=true):a=some b:=by
 cases a with
 | none=>cases h
 | some x=>exact congrArg some (Nat.eq_of_beq_eq_true h)
def zbg (nt ni b0 b1 tc:Nat)(c:Code):Bool:=
 uK (vC c) b0&&(vD (qb c)&&(ql (zbd c)&&(vr nt (uJ c)&&(ql (qW c)&&(xW (zN (qW c))&&(vE (vA (zN (qW c)))&&(uK (uU (vB (zN (qW c)))) b0&&(ql (ym (qW c))&&(uK (vC (zN (ym (qW c)))) b1&&vr ni (vq c))))))))))
abbrev zem (ti b0 b1:Nat)(inc:Env→Env)(I:Nat→Env→World→Prop)(Q:Exit→Env→World→Prop)(i:Nat):Exit→Env→World→Prop
 | .normal,ρ,w=>ρ ti=iN i∧I (i+1) (inc ρ) w
 | .exit k,ρ,w=>bif Nat.beq k b1 then ρ ti=iN i∧I (i+1) (inc ρ) w else bif Nat.beq k b0 then Q .normal ρ w else Q (.exit k) ρ w
 | e,ρ,w=>Q e ρ w
theorem zjP {ti b0 b1 tc nt ni n:Nat}{tst:Nat→Env→Env}{inc:Nat→Env→Env}(I:Nat→Env→World→Prop)
 (hs:zbg nt ni b0 b1 tc c=true) (hx:xx (zN (qW c))=.tmp tc)
 (hT: ∀i ρ w K,I i ρ w→K (tst i ρ) w→WPs P N (zo (uJ c)) K (List.range nt) ρ w) (hv: ∀i ρ w,I i ρ w→tst i ρ tc=.bool (decide ((i:Int)<(n:Int))))
 (hJ: ∀i ρ w K,i<n→ρ ti=iN i→K (inc i ρ) w→WPs P N (zo (vq c)) K (List.range ni) ρ w)
 (h0:I 0 ρ w) (hb: ∀i ρ w,i<n→I i ρ w→WP P N (zbe c) (zem ti b0 b1 (inc i) I Q i) (tst i ρ) w) (he: ∀ρ w,I n ρ w→Q .normal (tst n ρ) w):WP P N c Q ρ w:=by
 unfold zbg at hs;simp only [Bool.and_eq_true] at hs;obtain ⟨s1,s2,s3,s4,s5,s6,s7,s8,s9,s10,s11⟩:=hs;obtain ⟨id1,e1,l1⟩:=zel s4;obtain ⟨id2,e2,l2⟩:=zel s11;refine zn b0 (zbf s1)<|zG s2 (fun m ρ w=> ∃i,n-i=m∧i≤n∧I i ρ w) n ⟨0,rfl,Nat.zero_le _,h0⟩ ?_;rintro m ρ w ⟨i,rfl,hin,hI⟩;refine zb s3 ?_;show WP P N (uJ c) _ ρ w;rw [e1];refine WP.region _ l1<|hT i ρ w _ hI ?_;show WP P N (qW c) _ (tst i ρ) w;refine zb s5 ?_;have hval:=hv i ρ w hI;by_cases hi:i<n
 ·refine zi s6 (by rw [hx];show tst i ρ tc=_;rw [hval,decide_eq_true (by omega)])<|zj s7 ?_;show WP P N (ym (qW c)) _ (tst i ρ) w;refine zb s9<|zn b1 (zbf s10) ?_;have hfin: ∀(Q3:Exit→Env→World→Prop) ρ' w',(ρ' ti=iN i∧I (i+1) (inc i ρ') w')→(∀e ρ w,Q3 e ρ w=Q3 e ρ w)→WP P N (vq c) (nx (fun ρ' w'=> ∃m,m<n-i∧∃i,n-i=m∧i≤n∧I i ρ' w') Q3) ρ' w':=fun Q3 ρ' w' h _=>by
   rw [e2];refine WP.region _ l2 ?_;exact hJ i ρ' w' _ hi h.1 ⟨n-(i+1),by omega,i+1,rfl,by omega,h.2⟩
  refine qL (hb i ρ w hi hI) fun e ρ' w' h=>?_;cases e with
  | normal=>exact hfin _ ρ' w' h fun _ _ _=>rfl
  | exit k=>
   show bif Nat.beq k b1 then _ else _;change (bif Nat.beq k b1 then _ else _) at h;cases hk:Nat.beq k b1 with
   | true=>rw [hk] at h;exact hfin _ ρ' w' h fun _ _ _=>rfl
   | false=>rw [hk] at h;exact h
  | _=>exact h
 ·obtain rfl:i=n:=by omega
  refine zh s6 (by rw [hx];show tst i ρ tc=_;rw [hval,decide_eq_false (by omega)])<|zy b0 (zbf s8) ?_;show bif Nat.beq b0 b0 then _ else _;rw [Nat.beq_refl];exact he ρ w hI
theorem jJ (ti tn tc tj b0 b1 n:Nat)(hn:n≤0x4000000000000000)(I:Nat→Env→World→Prop)(hI: ∀i ρ w,I i ρ w→ρ ti=iN i∧ρ tn=iN n)
 (h0:I 0 ρ w) (hb: ∀i ρ w,i<n→I i ρ w→WP P N (zbe c) (zem ti b0 b1 (fun ρ=>upd (upd ρ tj (iN (i+1))) ti (iN (i+1))) I Q i) (upd ρ tc (.bool true)) w)
 (he: ∀ρ w,I n ρ w→Q .normal (upd ρ tc (.bool false)) w)
 (hs:zbg 1 2 b0 b1 tc c=true:=by kernel_rfl) (hx:xx (zN (qW c))=.tmp tc:=by kernel_rfl)
 (ht: ∀(ρ0:Env) (i:Nat) w,opv P (zo (uJ c)) 0 (upd (upd ρ0 tn (iN n)) ti (iN i)) w=some (some tc,true,.ok (.value (.bool (decide ((i:Int)<(n:Int))))) w):=by exact fun ρ0 i w=>by kernel_rfl)
 (hj: ∀(ρ0:Env) (i:Nat) w,opv P (zo (vq c)) 0 (upd ρ0 ti (iN i)) w=some (some tj,true,.ok (.value (.int .i64 (IntKind.i64.wrap ((i:Int)+1)))) w):=by exact fun ρ0 i w=>by kernel_rfl)
 (hk: ∀(ρ0:Env) (v:Value) w,opv P (zo (vq c)) 1 (upd ρ0 tj v) w=some (some ti,true,.ok (.value v) w):=by exact fun ρ0 v w=>by kernel_rfl)
 (hd:(dOK (some tc) N&&(dOK (some tj) N&&dOK (some ti) N))=true:=by kernel_rfl):WP P N c Q ρ w:=by
 simp only [Bool.and_eq_true] at hd;refine zjP (ti:=ti) (tst:=fun i ρ=>upd ρ tc (.bool (decide ((i:Int)<(n:Int))))) (inc:=fun i ρ=>upd (upd ρ tj (iN (i+1))) ti (iN (i+1))) (n:=n) I hs hx (fun i ρ w K h k=>?_) (fun i ρ w h=>?_) (fun i ρ w K hi h k=>?_) h0 (fun i ρ w hi h=>?_) (fun ρ w h=>?_)
 ·have e:upd (upd ρ tn (iN n)) ti (iN i)=ρ:=by rw [xX (hI i ρ w h).2,xX (hI i ρ w h).1]
  refine zl (some tc) _ (fun w=>e▸ht ρ i w) hd.1 ?_;exact zc k
 ·show upd ρ tc _ tc=_;unfold upd;rw [Nat.beq_refl];rfl
 ·have e:upd ρ ti (iN i)=ρ:=xX h;refine qu (some tj) _ (iN (i+1)) (fun w=>e▸hj ρ i w) (zd (zq (a:=i) (b:=1) (by omega))) hd.2.1<|zl (some ti) (iN (i+1)) (fun w=>hk ρ (iN (i+1)) w) hd.2.2 ?_;exact zc k
 ·show WP P N (zbe c) _ (upd ρ tc (.bool (decide ((i:Int)<(n:Int))))) w;rw [decide_eq_true (show (i:Int)<(n:Int) by omega)];exact hb i ρ w hi h
 ·show Q .normal (upd ρ tc (.bool (decide ((n:Int)<(n:Int))))) w;rw [decide_eq_false (show ¬(n:Int)<(n:Int) by omega)];exact he ρ w h
end
end Go.Proofs.YtbpmjppmpgeejaaGreatDoor
