/-
  Texts of the proof,part 5.
-/
import Derived.Test.YtbbdbdndedeokaaGreatDoorProg
import Derived.Below
import Derived.Test.YtbbdbdndedeokaaGreatDoorRows
import Derived.Lib.LaidTab
import Derived.MakeChecks
import Derived.LaidLaws
import Derived.LaidHandle
import Derived.ProofKit
import Derived.WalkKit
import Derived.ChangeKeysEq
import Derived.Laws.StructEq
import Derived.Laws.Externs
import Derived.Test.YtbbdbdndedeokaaGreatDoorSR1
import Derived.Test.YtbbdbdndedeokaaGreatDoorSR2
import Derived.Test.YtbbdbdndedeokaaGreatDoorSR3
import Derived.Test.YtbbdbdndedeokaaGreatDoorSR4
set_option maxRecDepth 100000
set_option maxHeartbeats 4000000
namespace Go.Proofs.YtbbdbdndedeokaaGreatDoor
open Go Go.RowKit
set_option linter.unusedVariables false
theorem zcn (x:List UInt8)(e:Ent): ∀(l:List Ent) (n:Nat),cmL x (l++ [e]) n=min (shr e.1 x) (cmL x l n)
 | [],n=>rfl
 | p::l,n=>by show cmL x (l++ [e]) _=_;rw [zcn x e l];rfl
theorem zco (p:Option Addr)(n c:Nat)(e0:Ent)(l0:List Ent)(hL:(e0::l0).length≤1000000)(hk: ∀e∈e0::l0,e.1.length≤1000000):
 FnP Tryz.prog 80 #[.slice p n c] (fun w=>yH w p n ((e0::l0).map pE)) (iN (zr (e0::l0))):=by
 refine FnP.intro (c:=zl Tryz.f80) [.tmp 2] 31 Tryz.func80 kr kr kr fun w hP=>?_;have H0:=St.start w;have hn:=hP.1;rw [List.length_map] at hn;obtain ⟨bl,off,C,T,fz,hp,hh,hR⟩:=hP.row (by rw [hn,List.length_cons];omega);obtain ⟨x0,v0⟩:=e0;have c0:C[off+0*2+0]? =some (.string (zb x0)):=hR.cell (i:=0) (x:=(zb x0,v0)) rfl 0 (by decide);have hx00:x0.length≤1000000:=hk (x0,v0) (List.mem_cons_self ..);have hn0:0<n:=by rw [hn,List.length_cons];omega
 generalize hl:((x0,v0)::l0:List Ent)=l at*;have hc0:zr l=cmL x0 l x0.length:=by rw [←hl];rfl
 refine rS [.v] H0 kr fun gs1 w1 H1=>rS [.v,.o (ins:=[((.tmp 7),.slice p n c)]) (v:=.pointer (some ⟨bl,off+0*2,none⟩)) (fun ρ o w ho hi2=>yb (kd:=.i64) (t:=50) (e:=64) (K:=2) (bytes:=32) kr (x:=(.tmp 7)) (y:=.const (.int .i64 0)) bl off n c 0 hp ho hi2.1 rfl (by omega) w),.v,.fs (off:=off+0*2+0) (v:=.string (zb x0)) hh (zC hh) c0,.E (iN (zb x0).size) (iN x0.length) rfl,.v] H1 kr fun gs2 w2 H2=>zc kr<|rS [.v,.v,.v] H2 kr fun gs3 w3 H3=>zj 0 kr ?_;have H4:St w.heap.size w w3 []:=H3.as kr;refine zz kr (fun mz ρ ww=> ∃(i:Nat),n-i=mz∧i≤n∧St w.heap.size w ww []∧Is [(0,.slice p n c),(3,iN (cmL x0 (l.take i) x0.length)),(12,.slice p n c),(13,iN n),(14,iN i)] ρ) (n-0) ⟨0,rfl,Nat.zero_le _,H4,(Is.of ⟨kr,kr,kr,kr,kr,trivial⟩)⟩ ?_;clear H0 H1 H2 H3 H4;rintro _ _ w4 ⟨i,rfl,hin,H5,_,rfl⟩;by_cases hi:i<n
 ·obtain ⟨⟨kk,vv⟩,hx1⟩:∃x,l[i]? =some x:=⟨_,List.getElem?_eq_getElem (by omega)⟩
  have hx:=zcm hx1;have hks:kk.length≤1000000:=hk _ (List.mem_of_getElem? hx1);have htk:=xf hx1;have hsh:=zkx (zb kk) (zb x0) (by rw [zO];omega) (by rw [zO];omega);rw [yx,yx] at hsh;refine rS [.E (.bool (decide ((i:Int)<(n:Int)))) (.bool true) (za (decide_eq_true (by omega)))] H5 kr fun gs4 w5 H6=>zc kr<|zg kr kr<|zh kr<|wW<|zc kr<|zj 1 kr<|rS [.o (ins:=[((.tmp 12),.slice p n c),((.tmp 14),iN i)]) (v:=.pointer (some ⟨bl,off+i*2,none⟩)) (fun ρ o w ho hi2=>yb (kd:=.i64) (t:=50) (e:=64) (K:=2) (bytes:=32) kr (x:=(.tmp 12)) (y:=(.tmp 14)) bl off n c i hp ho hi2.1 hi2.2.1 hi w),.fp (off:=off+i*2) (n:=2) (W:=#[.string (zb kk),.string vv]) hh (zC hh) (hR _ _ hx).1 (hR _ _ hx).2,.a,.s 0] H6 kr fun gs5 w6 H7=>dS [.v,.l 0,.v,.o (ins:=[((.tmp 20),.slice p n c)]) (v:=.pointer (some ⟨bl,off+0*2,none⟩)) (fun ρ o w ho hi2=>yb (kd:=.i64) (t:=50) (e:=64) (K:=2) (bytes:=32) kr (x:=(.tmp 20)) (y:=.const (.int .i64 0)) bl off n c 0 hp ho hi2.1 rfl (by omega) w),.v,.fs (off:=off+0*2+0) (v:=.string (zb x0)) hh (zC hh) c0,.c hsh,.v] H7 kr fun w7 H8=>?_;by_cases hlt:shr kk x0<cmL x0 (l.take i) x0.length
  ·refine rS [.v,.v,.E (.bool (decide (((shr kk x0:Nat):Int)<((cmL x0 (l.take i) x0.length:Nat):Int)))) (.bool true) (za (decide_eq_true (by omega)))] H8 kr fun gs6 w8 H9=>zg kr kr<|rL [.v,.v] H9 kr fun gs7 w9 H10=>wW<|rL [.E (.int .i64 (IntKind.i64.wrap ((i:Int)+1))) (.int .i64 ((i+1:Nat):Int)) (ze (zm (a:=i) (b:=1) (by omega))),.v] H10 kr fun gs8 w10 H11=>?_;show ∃m,_∧_;refine ⟨_,(by omega),i+1,rfl,hi,H11.sub (List.nil_sublist _),(Is.of ⟨kr,?_,kr,kr,kr,trivial⟩)⟩;rw [htk,zcn,Nat.min_eq_left (by show shr kk x0≤_;omega)];kernel_rfl
  ·refine rS [.v,.v,.E (.bool (decide (((shr kk x0:Nat):Int)<((cmL x0 (l.take i) x0.length:Nat):Int)))) (.bool false) (za (decide_eq_false (by omega)))] H8 kr fun gs6 w8 H9=>zf kr kr<|zh kr<|wW<|rL [.E (.int .i64 (IntKind.i64.wrap ((i:Int)+1))) (.int .i64 ((i+1:Nat):Int)) (ze (zm (a:=i) (b:=1) (by omega))),.v] H9 kr fun gs8 w10 H11=>?_;show ∃m,_∧_;refine ⟨_,(by omega),i+1,rfl,hi,H11.sub (List.nil_sublist _),(Is.of ⟨kr,?_,kr,kr,kr,trivial⟩)⟩;rw [htk,zcn,Nat.min_eq_right (by show _≤shr kk x0;omega)];kernel_rfl
 ·refine rS [.E (.bool (decide ((i:Int)<(n:Int)))) (.bool false) (za (decide_eq_false (by omega)))] H5 kr fun gs4 w5 H6=>zc kr<|zf kr kr<|zw 0 kr<|wW<|rS [.v,.v] H6 kr fun gs5 w6 H7=>?_;exact rRe [.tmp 2] [] (v:=iN (cmL x0 (l.take i) x0.length)) (v':=iN (zr l)) H7 (by rw [hc0,List.take_of_length_le (by omega)]) kr
def jD (l:List Ent):Bool:=l.any fun e=>e.1.isEmpty
theorem zlh {l:List Ent}{i:Nat}{e:Ent}(h:l[i]? =some e)(hd:zW (l.drop i)=zW l∧jD (l.drop i)=jD l):(e.1=[]→zW l=e.2∧jD l=true)∧(e.1≠[]→zW (l.drop (i+1))=zW l∧jD (l.drop (i+1))=jD l):=by
 rw [zb5 h] at hd;refine ⟨fun he=>⟨?_,?_⟩,fun he=>⟨?_,?_⟩⟩
 ·rw [←hd.1,zW,if_pos he]
 ·rw [←hd.2];simp [jD,he]
 ·rw [←hd.1,zW,if_neg he]
 ·rw [←hd.2];simp [jD,he]
theorem zli (p:Option Addr)(n c:Nat)(l:List Ent)(hL:l.length≤1000000):
 FnP Tryz.prog 84 #[.slice p n c,.string ⟨#[]⟩] (fun w=>yH w p n (l.map pE)) (.tuple #[.string (zW l),.bool (jD l)]):=by
 refine FnP.intro (c:=zl Tryz.f84) [.tmp 4,.tmp 5] 21 Tryz.func84 kr kr kr fun w hP=>?_;have H0:=St.start w;have hn:=hP.1;rw [List.length_map] at hn;refine rS [.v,.v] H0 kr fun gs1 w1 H1=>zc kr<|rS [.v,.v,.v] H1 kr fun gs3 w3 H3=>zj 0 kr ?_;have H4:St w.heap.size w w3 []:=H3.as kr;refine zz kr (fun mz ρ ww=> ∃(i:Nat),n-i=mz∧i≤n∧(zW (l.drop i)=zW l∧jD (l.drop i)=jD l)∧St w.heap.size w ww []∧Is [(1,.string ⟨#[]⟩),(8,.slice p n c),(9,iN n),(10,iN i)] ρ) (n-0) ⟨0,rfl,Nat.zero_le _,⟨rfl,rfl⟩,H4,(Is.of ⟨kr,kr,kr,kr,trivial⟩)⟩ ?_;clear H0 H1 H3 H4;rintro _ _ w4 ⟨i,rfl,hin,hdr,H5,_,rfl⟩;by_cases hi:i<n
 ·obtain ⟨⟨kk,vv⟩,hx1⟩:∃x,l[i]? =some x:=⟨_,List.getElem?_eq_getElem (by omega)⟩
  have hx:=zcm hx1;have hvd:=zlh hx1 hdr;obtain ⟨bl,off,C,T,fz,hp,hh,hR⟩:=hP.row (by omega);refine rS [.E (.bool (decide ((i:Int)<(n:Int)))) (.bool true) (za (decide_eq_true (by omega)))] H5 kr fun gs4 w5 H6=>zc kr<|zg kr kr<|zh kr<|wW<|zc kr<|zj 1 kr<|rS [.o (ins:=[((.tmp 8),.slice p n c),((.tmp 10),iN i)]) (v:=.pointer (some ⟨bl,off+i*2,none⟩)) (fun ρ o w ho hi2=>yb (kd:=.i64) (t:=50) (e:=64) (K:=2) (bytes:=32) kr (x:=(.tmp 8)) (y:=(.tmp 10)) bl off n c i hp ho hi2.1 hi2.2.1 hi w),.fp (off:=off+i*2) (n:=2) (W:=#[.string (zb kk),.string vv]) hh (zC hh) (hR _ _ hx).1 (hR _ _ hx).2,.a,.s 0] H6 kr fun gs5 w6 H7=>?_;cases kk with
  | nil=>
   refine rS [.v,.l 0,.v,.E (.bool ((zb []).toList==(⟨#[]⟩:ByteArray).toList)) (.bool true) (za (kx _ _ rfl))] H7 kr fun gs6 w8 H9=>zg kr kr<|rS [.v,.l 0,.v,.v] H9 kr fun gs7 w9 H10=>?_;exact rRe [.tmp 4,.tmp 5] [] (v:=.tuple #[.string vv,.bool true]) (v':=.tuple #[.string (zW l),.bool (jD l)]) H10 (by rw [(hvd.1 rfl).1,(hvd.1 rfl).2]) kr
  | cons c0 t0=>
   refine rS [.v,.l 0,.v,.E (.bool ((zb (c0::t0)).toList==(⟨#[]⟩:ByteArray).toList)) (.bool false) (za (jV _ _ (fun h=>by have:=congrArg tl h;rw [yx] at this;cases this)))] H7 kr fun gs6 w8 H9=>zf kr kr<|zh kr<|wW<|rL [.E (.int .i64 (IntKind.i64.wrap ((i:Int)+1))) (.int .i64 ((i+1:Nat):Int)) (ze (zm (a:=i) (b:=1) (by omega))),.v] H9 kr fun gs8 w10 H11=>?_;show ∃m,_∧_;exact ⟨_,(by omega),i+1,rfl,hi,hvd.2 (by simp),H11.sub (List.nil_sublist _),(Is.of ⟨kr,kr,kr,kr,trivial⟩)⟩
 ·refine rS [.E (.bool (decide ((i:Int)<(n:Int)))) (.bool false) (za (decide_eq_false (by omega)))] H5 kr fun gs4 w5 H6=>zc kr<|zf kr kr<|zw 0 kr<|wW<|rS [.v,.v] H6 kr fun gs5 w6 H7=>?_;rw [List.drop_of_length_le (by omega)] at hdr;exact rRe [.tmp 4,.tmp 5] [] (v:=.tuple #[.string ⟨#[]⟩,.bool false]) (v':=.tuple #[.string (zW l),.bool (jD l)]) H7 (by rw [←hdr.1,←hdr.2];rfl) kr
theorem zlj (x:List UInt8)(k:Nat):(zb x).extract 0 k=zb (x.take k):=zfj [] x 0 k k rfl (Nat.zero_add _).symm
theorem zlk (L:List Pr):L.map uB=(zF L).map pE:=by
 unfold zF;rw [List.map_map];rfl
def qe (k v:ByteArray)(s:List Pr×Bool)(x:Pr):List Pr×Bool:=if (!s.2&& !lexB (tl x.1) (tl k))=true then (s.1++ [(k,v)],true) else s
def qN (k:ByteArray)(s:List Pr×Bool)(x:Pr):List Pr×Bool:=(if x.1=k then s.1 else s.1++ [x],s.2)
def jE (k v:ByteArray)(L:List Pr):List Pr×Bool:=L.foldl (fun s x=>qN k (qe k v s x) x) ([],false)
def ke (k v:ByteArray)(L:List Pr):List Pr:=if (jE k v L).2=true then (jE k v L).1 else (jE k v L).1++ [(k,v)]
theorem zf9 (k v:ByteArray)(L:List Pr)(x:Pr):jE k v (L++ [x])=qN k (qe k v (jE k v L) x) x:=by
 unfold jE;rw [List.foldl_append];rfl
theorem zll (p:Option Addr)(n c:Nat)(L:List Pr)(key val:ByteArray)(hL:L.length≤1000000):
 FnT Tryz.prog 24 #[.slice p n c,.string key,.string val] (fun w=>yH w p n L) (kL (ke key val L)):=by
 refine FnT.intro (c:=zl Tryz.f24) [.tmp 6] 50 Tryz.func24 kr kr kr fun w hP=>?_;have H0:=St.start w;have hn:=hP.1;refine rS [.v] H0 kr fun gs1 w1 H1=>rS [.nw (fun b=>.slice (some ⟨b,0,none⟩) 0 0) #[] 64,.v] H1 kr fun gs2 w2 H2=>rS [.v] H2 kr fun gs2' w2' H2=>zc kr<|rS [.v,.v,.v] H2 kr fun gs3 w3 H3=>zj 0 kr ?_;have H4:St w.heap.size w w3 [((gs2 0).b,.cells #[] 64 (0,0))]:=H3.as kr;refine zz kr (fun mz ρ ww=> ∃(i b k r:Nat) (cur:Array Value),n-i=mz∧i≤n∧r≤2*i∧Rw 2 cur k r (cellsF pS (jE key val (L.take i)).1)∧St w.heap.size w ww [(b,.cells cur 64 (0,0))]∧Is [(1,.string key),(2,.string val),(7,.slice (some ⟨b,0,none⟩) r k),(8,.bool (jE key val (L.take i)).2),(12,.slice p n c),(13,iN n),(14,iN i)] ρ) (n-0) ⟨0,(gs2 0).b,0,0,#[],rfl,Nat.zero_le _,Nat.le_refl _,⟨rfl,Nat.le_refl _,Nat.zero_le _,rfl,rfl⟩,H4,(Is.of ⟨kr,kr,kr,kr,kr,kr,kr,trivial⟩)⟩ ?_;clear H0 H1 H2 H3 H4;rintro _ _ w4 ⟨i,b,k,r,cur,rfl,hin,hri,hrw,H5,_,rfl⟩;by_cases hi:i<n
 ·obtain ⟨⟨kk,vv⟩,hx⟩:∃x,L[i]? =some x:=⟨_,List.getElem?_eq_getElem (by omega)⟩
  have htk:=xf hx;obtain ⟨bl,off,C,T,fz,hp,hh,hR⟩:=hP.row (by omega);refine rS [.E (.bool (decide ((i:Int)<(n:Int)))) (.bool true) (za (decide_eq_true (by omega)))] H5 kr fun gs4 w5 H6=>zc kr<|zg kr kr<|zh kr<|wW<|zc kr<|zj 1 kr<|rS [.o (ins:=[((.tmp 12),.slice p n c),((.tmp 14),iN i)]) (v:=.pointer (some ⟨bl,off+i*2,none⟩)) (fun ρ o w ho hi2=>yb (kd:=.i64) (t:=50) (e:=64) (K:=2) (bytes:=32) kr (x:=(.tmp 12)) (y:=(.tmp 14)) bl off n c i hp ho hi2.1 hi2.2.1 hi w),.fp (off:=off+i*2) (n:=2) (W:=#[.string kk,.string vv]) hh (zC hh) (hR _ _ hx).1 (hR _ _ hx).2,.a,.s 1] H6 kr fun gs5 w6 H7=>?_;have H8:St w.heap.size w w6 [(b,.cells cur 64 (0,0)),((gs5 2).b,pwO (kk,vv))]:=H7.as kr;generalize hs:jE key val (L.take i)=s at*;obtain ⟨out,put⟩:=s;refine zc kr<|jc (Q:=fun e ρ ww=>e=.normal∧∃(b k r':Nat) (cur:Array Value),r'≤r+1∧Rw 2 cur k r' (cellsF pS (qe key val (out,put) (kk,vv)).1)∧St w.heap.size w ww [(b,.cells cur 64 (0,0)),((gs5 2).b,pwO (kk,vv))]∧Is [(1,.string key),(2,.string val),(7,.slice (some ⟨b,0,none⟩) r' k),(8,.bool (qe key val (out,put) (kk,vv)).2),(10,.pointer (some ⟨(gs5 2).b,0,none⟩)),(12,.slice p n c),(13,iN n),(14,iN i)] ρ) ?_ ?_
  ·cases put with
   | true=>
    refine rS [.v,.v,.v,.n,.n,.n,.n,.v] H8 kr fun gs6 w7 H9=>zf kr kr<|zh kr ?_;exact ⟨rfl,b,k,r,cur,by omega,hrw,H9.as kr,Is.of ⟨kr,kr,kr,kr,kr,kr,kr,kr,trivial⟩⟩
   | false=>
    cases hlt:lexB (tl kk) (tl key) with
    | true=>
     have hT:qe key val (out,false) (kk,vv)=(out,false):=by unfold qe;simp [hlt]
     rw [hT];refine rS [.v,.v,.v,.v,.l 1,.v,.E (.bool (!(Op.bytesLess kk.toList key.toList))) (.bool false) (za (by rw [kI,hlt];rfl)),.v] H8 kr fun gs6 w7 H9=>zf kr kr<|zh kr ?_;exact ⟨rfl,b,k,r,cur,by omega,hrw,H9.as kr,Is.of ⟨kr,kr,kr,kr,kr,kr,kr,kr,trivial⟩⟩
    | false=>
     have hT:qe key val (out,false) (kk,vv)=(out++ [(key,val)],true):=by unfold qe;simp [hlt]
     rw [hT];refine rS [.v,.v,.v,.v,.l 1,.v,.E (.bool (!(Op.bytesLess kk.toList key.toList))) (.bool true) (za (by rw [kI,hlt];rfl)),.v] H8 kr fun gs6 w7 H9=>zg kr kr<|zi [0,1,2,3,4,5,6] kr kr<|rp [.v,.v,.v,.v,.nw (fun b=>.slice (some ⟨b,0,none⟩) 1 1) #[.string key,.string val] 64] H9 kr fun gs7 w8 H10=>wX [5,6] ?_;have H11:St w.heap.size w w8 [(b,.cells cur 64 (0,0)),((gs5 2).b,pwO (kk,vv)),((gs7 4).b,pwO (key,val))]:=H10.as kr;refine xv (K':=2) H11 (some 31) 50 64 32 (.tmp 26) (.tmp 30) 0 2 b (gs7 4).b r k 1 cur #[.string key,.string val] (cellsF pS out) kr kr kr kr kr hrw kr kr rfl (qX rfl) (by omega) (by unfold maxLen;omega) ?_;intro b' cap' cur' w9 H12 hrw';refine rp [.v] H12 kr fun gs8 w10 H13=>wX []<|zd<|rL [.v] H13 kr fun gs9 w11 H14=>?_;have H15:St w.heap.size w w11 [(b',.cells cur' 64 (0,0)),((gs5 2).b,pwO (kk,vv)),((gs7 4).b,pwO (key,val))]:=H14.as kr;exact ⟨rfl,b',cap',r+1,cur',by omega,by rw [qF];exact hrw',H15.sub (List.sublist_append_left [_,_] [_]),Is.of ⟨kr,kr,kr,kr,kr,kr,kr,kr,trivial⟩⟩
  ·clear hrw H5 H6 H7 H8;rintro _ _ w7 ⟨rfl,b,k,r',cur,hr',hrw,H8,_,rfl⟩;refine wW ?_;generalize hs2:qe key val (out,put) (kk,vv)=s2 at*;obtain ⟨out2,put2⟩:=s2;by_cases hk:kk=key
   ·refine rS [.v,.l 1,.v,.E (.bool (!(kk.toList==key.toList))) (.bool false) (za (by rw [kx _ _ hk];rfl))] H8 kr fun gs6 w8 H9=>zf kr kr<|zh kr<|wW<|rL [.E (.int .i64 (IntKind.i64.wrap ((i:Int)+1))) (.int .i64 ((i+1:Nat):Int)) (ze (zm (a:=i) (b:=1) (by omega))),.v] H9 kr fun gs8 w10 H11=>?_;show ∃m,_∧_;have H12:St w.heap.size w w10 [(b,.cells cur 64 (0,0)),((gs5 2).b,pwO (kk,vv))]:=H11.as kr;have hS:jE key val (L.take (i+1))=(out2,put2):=by rw [htk,zf9,hs,hs2];unfold qN;simp only [hk,if_true]
    refine ⟨_,(by omega),i+1,b,k,r',cur,rfl,hi,by omega,?_,H12.sub (List.Sublist.cons_cons _ (List.sublist_cons_self ..)),(Is.of ⟨kr,kr,kr,?_,kr,kr,kr,trivial⟩)⟩
    ·rw [hS];exact hrw
    ·rw [hS];kernel_rfl
   ·refine rS [.v,.l 1,.v,.E (.bool (!(kk.toList==key.toList))) (.bool true) (za (by rw [jV _ _ hk];rfl))] H8 kr fun gs6 w8 H9=>zg kr kr<|qm [0,1,2,3,4] kr<|rp [.v,.l 1,.nw (fun b=>.slice (some ⟨b,0,none⟩) 1 1) #[.string kk,.string vv] 64] H9 kr fun gs7 w9 H10=>wX [3,4] ?_;have H11:St w.heap.size w w9 [(b,.cells cur 64 (0,0)),((gs5 2).b,pwO (kk,vv)),((gs7 2).b,pwO (kk,vv))]:=H10.as kr;refine xv (K':=2) H11 (some 39) 50 64 32 (.tmp 36) (.tmp 38) 0 2 b (gs7 2).b r' k 1 cur #[.string kk,.string vv] (cellsF pS out2) kr kr kr kr kr hrw kr kr rfl (qX rfl) (by omega) (by unfold maxLen;omega) ?_;intro b' cap' cur' w10 H12 hrw';refine rp [.v] H12 kr fun gs8 w11 H13=>wX []<|zd<|wW<|rL [.E (.int .i64 (IntKind.i64.wrap ((i:Int)+1))) (.int .i64 ((i+1:Nat):Int)) (ze (zm (a:=i) (b:=1) (by omega))),.v] H13 kr fun gs9 w12 H14=>?_;show ∃m,_∧_;have H15:St w.heap.size w w12 [(b',.cells cur' 64 (0,0)),((gs5 2).b,pwO (kk,vv)),((gs7 2).b,pwO (kk,vv))]:=H14.as kr;have hS:jE key val (L.take (i+1))=(out2++ [(kk,vv)],put2):=by rw [htk,zf9,hs,hs2];unfold qN;simp only [hk,if_false]
    refine ⟨_,(by omega),i+1,b',cap',r'+1,cur',rfl,hi,by omega,?_,H15.sub (List.Sublist.cons_cons _ (List.nil_sublist _)),(Is.of ⟨kr,kr,kr,?_,kr,kr,kr,trivial⟩)⟩
    ·rw [hS,qF];exact hrw'
    ·rw [hS];kernel_rfl
 ·generalize hs:jE key val (L.take i)=s at*;rw [List.take_of_length_le (by omega)] at hs;obtain ⟨out,put⟩:=s;refine rS [.E (.bool (decide ((i:Int)<(n:Int)))) (.bool false) (za (decide_eq_false (by omega)))] H5 kr fun gs4 w5 H6=>zc kr<|zf kr kr<|zw 0 kr<|wW<|zc kr ?_;cases put with
  | true=>
   refine rS [.v,.v] H6 kr fun gs5 w6 H7=>zf kr kr<|zh kr<|wW<|rS [.v,.v] H7 kr fun gs6 w7 H8=>rRr [.tmp 6] [] (.slice (some ⟨b,0,none⟩) r k) (yf w.heap.size w (kL (ke key val L))) H8 kr ?_;have hP2:ke key val L=out:=by unfold ke;rw [hs];rfl
   exact ⟨_,⟨some ⟨b,0,none⟩,r,k,rfl,.inr ⟨b,cur,rfl,rfl,by rw [hP2];exact hrw⟩⟩,H8.as kr⟩
  | false=>
   refine rS [.v,.v] H6 kr fun gs5 w6 H7=>zg kr kr<|qm [0,1,2,3,4,5,6] kr<|rp [.v,.v,.v,.v,.nw (fun b=>.slice (some ⟨b,0,none⟩) 1 1) #[.string key,.string val] 64] H7 kr fun gs7 w8 H10=>wX [5,6] ?_;have H11:St w.heap.size w w8 [(b,.cells cur 64 (0,0)),((gs7 4).b,pwO (key,val))]:=H10.as kr;refine xv (K':=2) H11 (some 48) 50 64 32 (.tmp 43) (.tmp 47) 0 1 b (gs7 4).b r k 1 cur #[.string key,.string val] (cellsF pS out) kr kr kr kr kr hrw kr kr rfl (qX rfl) (by omega) (by unfold maxLen;omega) ?_;intro b' cap' cur' w9 H12 hrw';refine rp [.v] H12 kr fun gs8 w10 H13=>wX []<|zd<|wW<|rS [.v,.v] H13 kr fun gs9 w11 H14=>rRr [.tmp 6] [] (.slice (some ⟨b',0,none⟩) (r+1) cap') (yf w.heap.size w (kL (ke key val L))) H14 kr ?_;have H15:St w.heap.size w w11 [(b',.cells cur' 64 (0,0)),((gs7 4).b,pwO (key,val))]:=H14.as kr;have hP2:ke key val L=out++ [(key,val)]:=by unfold ke;rw [hs];rfl
   exact ⟨_,⟨some ⟨b',0,none⟩,r+1,cap',rfl,.inr ⟨b',cur',rfl,rfl,by rw [hP2,qF];exact hrw'⟩⟩,H15.sub (List.sublist_append_left [_] [_])⟩
abbrev uC (L:List Pr):Prop:=L.Pairwise fun a b=>lexB (tl a.1) (tl b.1)=true
theorem zcp: ∀ {x y:List UInt8},lexB x y=false→x≠y→lexB y x=true
 | [],[],_,h=>absurd rfl h
 | [],_::_,h,_=>by simp [lexB] at h
 | _::_,[],_,_=>rfl
 | a::x,b::y,h,hne=>by
  unfold lexB at h ⊢;by_cases e:a=b
  ·subst e;have hlt: ¬a.toNat<a.toNat:=Nat.lt_irrefl _;simp only [Nat.lt_irrefl,if_false,if_true] at h ⊢;exact zcp h fun e=>hne (by rw [e])
  ·have hn:a.toNat≠b.toNat:=fun q=>e (UInt8.toNat_inj.1 q);by_cases c:b.toNat<a.toNat
   ·rw [if_pos c]
   ·have:a.toNat<b.toNat:=by omega
    rw [if_pos this] at h;cases h
theorem zlm {k l:ByteArray}(h:lexB (tl k) (tl l)=true):k≠l:=fun e=>by rw [e,ur] at h;cases h
theorem zaG (k:ByteArray)(x:Pr)(L:List Pr):zN k (x::L)=if lexB (tl x.1) (tl k)=true then zN k L+1 else 0:=by
 unfold zN;rw [List.takeWhile_cons];split<;>rfl
theorem zcq (k:ByteArray)(x:Pr)(L:List Pr):yw k (x::L)=if lexB (tl x.1) (tl k)=true then yw k L else decide (x.1=k):=by
 unfold yw;rw [zaG];by_cases c:lexB (tl x.1) (tl k)=true
 ·rw [if_pos c,if_pos c,List.getElem?_cons_succ]
 ·rw [if_neg c,if_neg c];show decide (tl x.1=tl k)=decide (x.1=k);exact decide_eq_decide.2 ⟨jv,fun h=>by rw [h]⟩
theorem zga (k:ByteArray): ∀L:List Pr,zN k L≤L.length
 | []=>Nat.le_refl _
 | x::L=>by rw [zaG];split;exact Nat.succ_le_succ (zga k L);exact Nat.zero_le _
theorem zln {k:ByteArray}{L:List Pr}(h:yw k L=true):zN k L<L.length:=by
 unfold yw at h;split at h
 ·rename_i x hx;exact (List.getElem?_eq_some_iff.1 hx).1
 ·cases h
theorem zlo {k:ByteArray}{L:List Pr}(h:yw k L=true):∃v,L[zN k L]? =some (k,v):=by
 unfold yw at h;split at h
 ·rename_i x hx
  have:=jv (of_decide_eq_true h);exact ⟨x.2,by rw [hx,←this]⟩
 ·cases h
def yi (k v:ByteArray):List Pr→List Pr
 | []=>[(k,v)]
 | x::L=>if lexB (tl x.1) (tl k)=true then x::yi k v L else if x.1=k then (k,v)::L else (k,v)::x::L
theorem zgb {k v:ByteArray} : ∀ {L:List Pr},yw k L=true→L.set (zN k L) (k,v)=yi k v L
 | [],h=>by cases h
 | x::L,h=>by
  rw [zcq] at h;rw [zaG];unfold yi;by_cases c:lexB (tl x.1) (tl k)=true
  ·rw [if_pos c] at h ⊢;rw [if_pos c,List.set_cons_succ,zgb h]
  ·rw [if_neg c] at h ⊢;rw [if_neg c,if_pos (of_decide_eq_true h),List.set_cons_zero]
theorem zcr {k v:ByteArray} : ∀ {L:List Pr},yw k L=false→L.take (zN k L)++(k,v)::L.drop (zN k L)=yi k v L
 | [],_=>rfl
 | x::L,h=>by
  rw [zcq] at h;rw [zaG];unfold yi;by_cases c:lexB (tl x.1) (tl k)=true
  ·rw [if_pos c] at h ⊢;rw [if_pos c,List.take_succ_cons,List.drop_succ_cons,List.cons_append,zcr h]
  ·rw [if_neg c] at h ⊢;rw [if_neg c,if_neg (of_decide_eq_false h)];rfl
theorem zlp {k:ByteArray}{x:Pr}{L:List Pr}(hr:uC (x::L))(hx:lexB (tl x.1) (tl k)=false): ∀y∈L,y.1≠k:=fun y hy e=>by
 have h:=(List.pairwise_cons.1 hr).1 y hy;rw [e] at h;rw [h] at hx;cases hx
theorem zcs {k v:ByteArray}{y:Pr} : ∀ {L:List Pr},y∈yi k v L→y=(k,v)∨y∈L
 | [],h=>.inl (List.mem_singleton.1 h)
 | x::L,h=>by
  unfold yi at h;split at h
  ·rcases List.mem_cons.1 h with rfl|h
   ·exact .inr (List.mem_cons_self ..)
   ·exact (zcs h).imp id fun q=>List.mem_cons_of_mem _ q
  ·split at h
   ·rcases List.mem_cons.1 h with rfl|h
    ·exact .inl rfl
    ·exact .inr (List.mem_cons_of_mem _ h)
   ·rcases List.mem_cons.1 h with rfl|h
    ·exact .inl rfl
    ·exact .inr h
theorem zgc {k v:ByteArray} : ∀ {L:List Pr},uC L→uC (yi k v L)
 | [],_=>by unfold yi;exact List.pairwise_singleton ..
 | x::L,h=>by
  have h2:=List.pairwise_cons.1 h;unfold yi;by_cases c:lexB (tl x.1) (tl k)=true
  ·rw [if_pos c];refine List.pairwise_cons.2 ⟨fun y hy=>?_,zgc h2.2⟩;rcases zcs hy with rfl | hy
   ·exact c
   ·exact h2.1 y hy
  ·rw [if_neg c];by_cases e:x.1=k
   ·rw [if_pos e];exact List.pairwise_cons.2 ⟨fun y hy=>by show lexB (tl k) (tl y.1)=true;rw [←e];exact h2.1 y hy,h2.2⟩
   ·rw [if_neg e];have hk:lexB (tl k) (tl x.1)=true:=zcp (by simpa using c) fun q=>e (jv q);refine List.pairwise_cons.2 ⟨fun y hy=>?_,h⟩;rcases List.mem_cons.1 hy with rfl | hy
    ·exact hk
    ·exact zav hk (h2.1 y hy)
theorem zct {k v:ByteArray} : ∀L:List Pr,(yi k v L).length=if yw k L=true then L.length else L.length+1
 | []=>rfl
 | x::L=>by
  rw [zcq];unfold yi;by_cases c:lexB (tl x.1) (tl k)=true
  ·rw [if_pos c,if_pos c,List.length_cons,zct L];split<;>simp
  ·rw [if_neg c,if_neg c];by_cases e:x.1=k
   ·rw [if_pos e,decide_eq_true e];simp
   ·rw [if_neg e,decide_eq_false e];simp
theorem OkP.ins {k v:ByteArray}{L:List Pr}(h:OkP L)(hm:mayM k v=true)(hn:yw k L=true∨L.length<64):OkP (yi k v L):=by
 refine ⟨?_,fun x hx=>?_,zgc h.rise⟩
 ·have:=h.len;rw [zct];split
  ·exact this
  ·rename_i q
   rcases hn with hn|hn
   ·exact absurd hn q
   ·omega
 ·rcases zcs hx with rfl|hx
  ·exact hm
  ·exact h.may x hx
theorem zlq:OkP []:=⟨Nat.zero_le _,(fun _ h=>nomatch h),List.Pairwise.nil⟩
theorem zcu (k v:ByteArray): ∀(L:List Pr) (out:List Pr),(∀y∈L,y.1≠k)→L.foldl (fun s x=>qN k (qe k v s x) x) (out,true)=(out++L,true)
 | [],out,_=>by simp
 | x::L,out,h=>by
  rw [List.foldl_cons];have e:qN k (qe k v (out,true) x) x=(out++ [x],true):=by
   unfold qN qe;rw [if_neg (h x (List.mem_cons_self ..))];simp
  rw [e,zcu k v L (out++ [x]) fun y hy=>h y (List.mem_cons_of_mem _ hy),List.append_assoc];rfl
theorem zgd (k v:ByteArray): ∀(L:List Pr) (out:List Pr),uC L→
 (if (L.foldl (fun s x=>qN k (qe k v s x) x) (out,false)).2=true then (L.foldl (fun s x=>qN k (qe k v s x) x) (out,false)).1 else (L.foldl (fun s x=>qN k (qe k v s x) x) (out,false)).1++ [(k,v)])=out++yi k v L
 | [],out,_=>by simp [yi]
 | x::L,out,hr=>by
  rw [List.foldl_cons];unfold yi;by_cases c:lexB (tl x.1) (tl k)=true
  ·have e:qN k (qe k v (out,false) x) x=(out++ [x],false):=by
    unfold qN qe;rw [if_neg (zlm c),c];simp
   rw [e,zgd k v L (out++ [x]) (List.pairwise_cons.1 hr).2,if_pos c,List.append_assoc];rfl
  ·have hf:lexB (tl x.1) (tl k)=false:=by simpa using c
   have hn:=zlp hr hf;rw [if_neg c];by_cases q:x.1=k
   ·have e:qN k (qe k v (out,false) x) x=(out++ [(k,v)],true):=by
     unfold qN qe;rw [if_pos q,hf];simp
    rw [e,zcu k v L _ hn,if_pos rfl,if_pos q,List.append_assoc];rfl
   ·have e:qN k (qe k v (out,false) x) x=(out++ [(k,v)]++ [x],true):=by
     unfold qN qe;rw [if_neg q,hf];simp
    rw [e,zcu k v L _ hn,if_pos rfl,if_neg q];simp
theorem zlr {k v:ByteArray}{L:List Pr}(hr:uC L):ke k v L=yi k v L:=by
 have:=zgd k v L [] hr;rw [List.nil_append] at this;exact this
end Go.Proofs.YtbbdbdndedeokaaGreatDoor
namespace Go.Proofs.Kec
set_option linter.unusedVariables false
set_option maxRecDepth 10000
abbrev B64:=BitVec 64
def nth (s:List B64)(k:Nat):B64:=s.getD k 0
def rl (x:B64)(n:Nat):B64:=x.rotateLeft n
def kM (v w x:B64):B64:=v ^^^ (x &&& ~~~ w)
def cC (s:List B64)(x:Nat):B64:=nth s x ^^^ nth s (x+5) ^^^ nth s (x+10) ^^^ nth s (x+15) ^^^ nth s (x+20)
def dD (c:Nat→B64)(x:Nat):B64:=c ((x+4)%5) ^^^ rl (c ((x+1)%5)) 1
def zge:List Nat:=[0,6,12,18,24,3,9,10,16,22,1,7,13,19,20,4,5,11,17,23,2,8,14,15,21]
def zgf:List Nat:=[0,44,43,21,14,28,20,3,45,61,1,6,25,8,18,27,36,10,15,56,62,55,39,41,2]
def th (s:List B64)(i:Nat):B64:=nth s i ^^^ dD (cC s) (i%5)
def pI (s:List B64)(k:Nat):B64:=rl (th s (zge.getD k 0)) (zgf.getD k 0)
def xI (b:Nat→B64)(k:Nat):B64:=kM (b k) (b (k / 5*5+(k%5+1)%5)) (b (k / 5*5+(k%5+2)%5))
def rnd (s:List B64):List B64:=(List.range 25).map (xI (pI s))
theorem zls (a:B64)(n i:Nat)(hi:i<64):(rl a n).getLsbD i=a.getLsbD ((i+64-n%64)%64):=by
 unfold rl;rw [BitVec.getLsbD_rotateLeft];by_cases h:i<n%64
 ·rw [decide_eq_true h,cond_true];congr 1;omega
 ·rw [decide_eq_false h,cond_false,decide_eq_true hi,Bool.true_and];congr 1;omega
theorem zlt (s:List B64):(rnd s).length=25:=by unfold rnd;simp
def zaH (m:B64)(s:List B64):List B64:=(nth s 0 ^^^ m)::s.drop 1
def rm (s:List B64)(m:B64):List B64:=zaH m (rnd s)
def marks:List B64:=[0x0000000000000001,0x0000000000008082,0x800000000000808A,0x8000000080008000,
 0x000000000000808B,0x0000000080000001,0x8000000080008081,0x8000000000008009,
 0x000000000000008A,0x0000000000000088,0x0000000080008009,0x000000008000000A,
 0x000000008000808B,0x800000000000008B,0x8000000000008089,0x8000000000008003,
 0x8000000000008002,0x8000000000000080,0x000000000000800A,0x800000008000000A,
 0x8000000080008081,0x8000000000008080,0x0000000080000001,0x8000000080008008]
def mix (s:List B64):List B64:=marks.foldl rm s
theorem zlu (m:B64){s:List B64}(h:s.length=25):(zaH m s).length=25:=by unfold zaH;simp [h]
theorem zlv (s:List B64)(m:B64):(rm s m).length=25:=zlu m (zlt s)
theorem zgg: ∀(ms:List B64) {s:List B64},s.length=25→(ms.foldl rm s).length=25
 | [],_,h=>h
 | m::ms,s,_=>zgg ms (zlv s m)
theorem zcv {s:List B64}(h:s.length=25):(mix s).length=25:=zgg _ h
def kf (b:UInt8):B64:=BitVec.ofNat 64 b.toNat
def qj (b:B64)(i:Nat):B64:=b <<< (i%8*8)
def lay (s:List B64)(n:Nat)(b:B64):List B64:=s.set (n / 8) (nth s (n / 8) ^^^ qj b n)
def qx (st:List B64×Nat)(b:UInt8):List B64×Nat:=
 if st.2+1=136 then (mix (lay st.1 st.2 (kf b)),0) else (lay st.1 st.2 (kf b),st.2+1)
def yj (st:List B64×Nat)(l:List UInt8):List B64×Nat:=l.foldl qx st
def xg (st:List B64×Nat):List B64:=lay (lay st.1 st.2 1) 135 0x80
def jm (s:List B64):List UInt8:=(List.range 32).map fun i=>UInt8.ofNat ((nth s (i / 8)).toNat / 2^(i%8*8))
def yW:List B64:=List.replicate 25 0
def sumB (l:List UInt8):List UInt8:=jm (mix (xg (yj (yW,0) l)))
theorem jo {s:List B64}(n:Nat)(b:B64)(h:s.length=25):(lay s n b).length=25:=by unfold lay;simp [h]
structure kN (st:List B64×Nat):Prop where
 len:st.1.length=25
 lt:st.2<136
theorem zlw {st:List B64×Nat}(b:UInt8)(h:kN st):kN (qx st b):=by
 unfold qx;split
 ·exact ⟨zcv (jo _ _ h.len),(by decide:0<136)⟩
 ·exact ⟨jo _ _ h.len,by have:=h.lt;simp only;omega⟩
theorem zcw: ∀(l:List UInt8) {st:List B64×Nat},kN st→kN (yj st l)
 | [],_,h=>h
 | b::l,st,h=>zcw l (zlw b h)
theorem zaI (st:List B64×Nat)(l m:List UInt8):yj st (l++m)=yj (yj st l) m:=by unfold yj;exact List.foldl_append
theorem zaJ (st:List B64×Nat)(l:List UInt8)(b:UInt8):yj st (l++ [b])=qx (yj st l) b:=by rw [zaI];rfl
theorem zcx:kN (yW,0):=⟨by decide,by decide⟩
theorem zlx (s:List B64):(jm s).length=32:=by unfold jm;simp
theorem sumB_len (l:List UInt8):(sumB l).length=32:=zlx _
end Go.Proofs.Kec
namespace Go.Proofs.YtbbdbdndedeokaaGreatDoor
open Go Go.RowKit
set_option linter.unusedVariables false
abbrev Ac:=ByteArray×Nat×Nat
def acS:Fl Ac where
 K:=3
 cs x:=[.string x.1,.int .u64 ((x.2.1:Nat):Int),.int .u64 ((x.2.2:Nat):Int)]
 pos:=by decide
 len _:=rfl
 one a:=fun u hu=>by
  rcases List.mem_cons.1 hu with rfl|hu
  ·rfl
  rcases List.mem_cons.1 hu with rfl|hu
  ·rfl
  obtain rfl:=List.mem_singleton.1 hu;rfl
abbrev acV (a:ByteArray)(b n:Nat):Value:=.agg #[.string a,.int .u64 (b:Int),.int .u64 (n:Int)]
abbrev acC (a:ByteArray)(b n:Nat):Array Value:=#[.string a,.int .u64 (b:Int),.int .u64 (n:Int)]
def kP (x:Ac):Prop:=x.2.1<0x10000000000000000∧x.2.2<0x10000000000000000
def upB:Option ByteArray→ByteArray→Bool
 | none,_=>true
 | some p,a=>lexB (tl p) (tl a)
def xh:Option ByteArray→Nat→List Ac→Bool
 | _,_,[]=>true
 | p,left,x::r=>decide (x.1.size=20)&&(!(decide (x.2.1=0)&&decide (x.2.2=0))&&(decide (x.2.1≤left)&&(upB p x.1&&xh (some x.1) (left-x.2.1) r)))
def yu (L:List Ac):Bool:=decide (L.length≤24)&&xh none 0x4000000000000000 L
def qZ (L:List Ac)(i:Nat):Option ByteArray:=if i=0 then none else (L[i-1]?).map (·.1)
theorem zcy {L:List Ac}{i:Nat}{x:Ac}(h:L[i]? =some x):qZ L (i+1)=some x.1:=by
 unfold qZ;rw [if_neg (by omega),Nat.add_sub_cancel,h];rfl
theorem vA {α:Type}{L:List α}{i:Nat}{x:α}(h:L[i]? =some x):L.drop i=x::L.drop (i+1):=by
 obtain ⟨hi,rfl⟩:=List.getElem?_eq_some_iff.1 h;exact (List.getElem_cons_drop (h:=hi)).symm
def qk (L:List Ac):Nat:=L.foldl (fun s x=>(s+x.2.1)%0x10000000000000000) 0
theorem zgh (L:List Ac)(x:Ac):qk (L++ [x])=(qk L+x.2.1)%0x10000000000000000:=by
 unfold qk;rw [List.foldl_append];rfl
def ofA (addr:ByteArray):List Ac→Ac
 | []=>(addr,0,0)
 | x::r=>if x.1=addr then x else ofA addr r
def atA (addr:ByteArray):Nat→List Ac→Int
 | _,[]=> -1
 | i,x::r=>if x.1=addr then (i:Int) else atA addr (i+1) r
theorem zgi (addr:ByteArray): ∀(L:List Ac) (i:Nat),(atA addr i L= -1∧ofA addr L=(addr,0,0))∨∃(k:Nat) (x:Ac),atA addr i L=((i+k:Nat):Int)∧L[k]? =some x∧x.1=addr∧ofA addr L=x
 | [],i=>.inl ⟨rfl,rfl⟩
 | x::r,i=>by
  by_cases h:x.1=addr
  ·refine .inr ⟨0,x,?_,rfl,h,?_⟩
   ·unfold atA;rw [if_pos h];rfl
   ·unfold ofA;rw [if_pos h]
  ·have e1:atA addr i (x::r)=atA addr (i+1) r:=by show (if x.1=addr then _ else _)=_;rw [if_neg h]
   have e2:ofA addr (x::r)=ofA addr r:=by show (if x.1=addr then _ else _)=_;rw [if_neg h]
   rw [e1,e2];rcases zgi addr r (i+1) with ⟨h1,h2⟩ | ⟨k,y,h1,h2,h3,h4⟩
   ·exact .inl ⟨h1,h2⟩
   ·exact .inr ⟨k+1,y,by rw [h1];congr 1;omega,by rw [List.getElem?_cons_succ];exact h2,h3,h4⟩
def xH (x:Ac):Ac:=(x.1.extract 0 (min x.1.size 40),x.2)
def kg (L:List Ac):List Ac:=(L.take 30).map xH
theorem zly {L:List Ac}(h: ∀x∈L,kP x): ∀x∈kg L,kP x:=fun x hx=>by
 obtain ⟨y,hy,rfl⟩:=List.mem_map.1 hx;exact h y (List.mem_of_mem_take hy)
theorem zlz (L:List Ac):(kg L).length≤30:=by unfold kg;rw [List.length_map,List.length_take];omega
abbrev nnB:ByteArray:=⟨#[110,110]⟩
def nnK:List ByteArray:=[⟨#[110]⟩,⟨#[110]⟩]
theorem zgj:kB nnB nnK:=⟨by decide,by kernel_rfl,by kernel_rfl,by kernel_rfl,List.all_eq_true.1 (show nnK.all kdOk=true by kernel_rfl)⟩
def nnF (b n:Nat):Fe:=.cons (b,em) .nil (.cons (n,em) .nil .nil)
theorem zlA (b n:Nat):yB nnK (nnF b n)=true:=by
 have f: ∀m:Nat,qt (⟨#[110]⟩:ByteArray) (m,em) .nil=true:=fun m=>by
  have e:by_ (⟨#[110]⟩:ByteArray) 0=110:=by decide
  unfold qt;have h1:zE 110 0 m (ByteArray.size em) 0=true:=by
   unfold zE qC yA yJ;simp;rfl
  have ek:kdB (⟨#[110]⟩:ByteArray)=.nil:=by unfold kdB;rw [e,if_neg (by decide)]
  rw [e,ek];show (zE 110 0 m (ByteArray.size em) 0&&(!(110==42)||qs (by_ ⟨#[110]⟩ 1) .nil))=true;rw [h1];rfl
 unfold nnK nnF;simp only [yB,f,Bool.and_true]
def nnI (b n:Nat):Fo:=.cons false (zb (dg b)) .nil (.cons false (zb (dg n)) .nil .nil)
theorem zlB (b n:Nat):yK (nnF b n) 40 (kfL nnK) 0=nnI b n:=by
 unfold nnF nnI;rw [zbS _ _ _ 0 (by decide),zbS _ _ _ 1 (by decide)];rfl
def jp (b n:Nat):ByteArray:=(wrV nnB (nnF b n)).1
theorem zlC (b n:Nat):1≤(jp b n).size∧(jp b n).size≤500:=by
 unfold jp;rw [zeW zgj,if_pos ⟨zlA b n,by show 2≤1000;decide⟩,zlB];have hb:=jx b;have hn:=jx n;have hw:wtF (nnI b n)≤34:=by
  unfold nnI;simp only [wtF,zO];omega
 have h1:=vm (nnI b n);have h2:=zbx true emB (szF (nnI b n));have hm:zS true emB (nnI b n).len=false:=rfl;have hp:pureF (nnI b n)=true:=rfl;have hl:lf1 true emB (nnI b n).len (lfF (nnI b n)) 4000=some 3997:=by
  unfold lf1;rw [if_neg (by rw [hm];decide),xS,if_pos ⟨hp,by show 2≤3999;decide⟩];rfl
 have hz:emB.size=0:=rfl;have hd:dpF (nnI b n)=0:=rfl;have h3:=zai hm hp rfl;unfold yo;rw [hl];simp only [];rw [if_neg (by rw [hd];decide),if_neg (by omega),zO];omega
def jF (a:ByteArray):ByteArray:=zb (Kec.sumB (tl a))
theorem zlD (a:ByteArray):(jF a).size=32:=by unfold jF;rw [zO];exact Kec.sumB_len _
def zT (L:List Ac):List Pr:=L.foldl (fun s x=>yi (jF x.1) (jp x.2.1 x.2.2) s) []
theorem zcz (L:List Ac)(x:Ac):zT (L++ [x])=yi (jF x.1) (jp x.2.1 x.2.2) (zT L):=by
 unfold zT;rw [List.foldl_append];rfl
theorem zgk (a:ByteArray)(b n:Nat):mayM (jF a) (jp b n)=true:=by
 have h:=zlC b n;unfold mayM;rw [zlD];simp [h.1,h.2]
theorem zgl: ∀(k:Nat) (L:List Ac),L.length=k→k≤64→OkP (zT L)∧(zT L).length≤k:=by
 intro k
 induction k with
 | zero=>intro L hL _;obtain rfl:=List.length_eq_zero_iff.1 hL;exact ⟨zlq,Nat.le_refl _⟩
 | succ k ih=>
  intro L hL hk;rcases List.eq_nil_or_concat L with rfl | ⟨l,x,rfl⟩
  ·cases hL
  ·rw [List.concat_eq_append] at*;rw [List.length_append] at hL;obtain ⟨h1,h2⟩:=ih l (by simpa using hL) (by omega);rw [zcz];refine ⟨h1.ins (zgk _ _ _) (.inr (by omega)),?_⟩;rw [zct];split<;>omega
end Go.Proofs.YtbbdbdndedeokaaGreatDoor
namespace Go.Proofs.YtbbdbdndedeokaaGreatDoor
open Go Go.ChangeShapes Go.WideShapes Go.ChangeAt Go.RowKit
set_option linter.unusedVariables false
set_option maxRecDepth 100000
theorem zgm:Tryz.prog.cellsOf 31=3:=kr
theorem zlE:Tryz.prog.cellsOf 28=1:=kr
theorem zlF:Tryz.prog.cellsOf 9=1:=kr
section
variable {H:Type}{enc:TypeId×Value→H}{W:World}{sp:Nat→Bool}{held:Bool}
theorem zlG (fuel:Nat)(cs:List Value)(x:DataW H×List MemPlace)(h:DataW.trod enc Tryz.prog W 0 sp held fuel 31 cs=some x):∃a:Ac,cs=acS.cs a∧kP a:=by
 obtain ⟨xs,m,rfl,rfl,hl,hlen,hf⟩:=DataW.trod_struct Tryz.underlying31 h;rw [zgm] at hl;obtain ⟨c0,c1,c2,rfl⟩:∃c0 c1 c2,cs=[c0,c1,c2]:=by
  match cs,hl with
  | [c0,c1,c2],_=>exact ⟨c0,c1,c2,rfl⟩
 obtain ⟨y0,y1,y2,rfl⟩:∃y0 y1 y2,xs=[y0,y1,y2]:=by
  match xs,hlen with
  | [y0,y1,y2],_=>exact ⟨y0,y1,y2,rfl⟩
 have g0:=hf 0 _ rfl;have g1:=hf 1 _ rfl;have g2:=hf 2 _ rfl;change DataW.trod enc Tryz.prog W 0 sp held m 9 (([c0,c1,c2].drop 0).take (Tryz.prog.cellsOf 9))=some y0 at g0;change DataW.trod enc Tryz.prog W 0 sp held m 28 (([c0,c1,c2].drop 1).take (Tryz.prog.cellsOf 28))=some y1 at g1;change DataW.trod enc Tryz.prog W 0 sp held m 28 (([c0,c1,c2].drop 2).take (Tryz.prog.cellsOf 28))=some y2 at g2;rw [zlF] at g0;rw [zlE] at g1 g2;obtain ⟨s,e0,rfl,_⟩:=DataW.trod_string Tryz.underlying9 (show DataW.trod enc Tryz.prog W 0 sp held m 9 [c0]=some y0 from g0);obtain ⟨z1,e1,_,w1⟩:=DataW.trod_int Tryz.underlying28 (show DataW.trod enc Tryz.prog W 0 sp held m 28 [c1]=some y1 from g1);obtain ⟨z2,e2,_,w2⟩:=DataW.trod_int Tryz.underlying28 (show DataW.trod enc Tryz.prog W 0 sp held m 28 [c2]=some y2 from g2);obtain ⟨n1,h1,rfl⟩:=zd6 w1;obtain ⟨n2,h2,rfl⟩:=zd6 w2;obtain rfl:c0=.string s:=by simpa using e0
 obtain rfl:c1=.int .u64 (n1:Int):=by simpa using e1
 obtain rfl:c2=.int .u64 (n2:Int):=by simpa using e2
 exact ⟨(s,n1,n2),rfl,h1,h2⟩
theorem zlH {v:Value}{d:DataW H}{p:List MemPlace}{base:Nat}(hv:Value.okWide Tryz.prog W .any base 22 v)(h:DataW.Trod enc Tryz.prog W 0 sp held 22 v d p):
 ∃(q:Option Addr) (n c:Nat) (L:List Ac),v=.slice q n c∧jW q n c∧(∀x∈L,kP x)∧AtF acS W q n L:=
 ziW Tryz.underlying22 zgm zlG hv h
end
end Go.Proofs.YtbbdbdndedeokaaGreatDoor
namespace Go.Proofs.YtbbdbdndedeokaaGreatDoor.Ke
open Go Go.RowKit Go.Proofs.Kec
set_option linter.unusedVariables false
theorem zgn (x:BitVec 64)(n:Nat)(h:n<64):x <<< n ||| x >>> (64-n)=rl x n:=by
 unfold rl BitVec.rotateLeft BitVec.rotateLeftAux;rw [Nat.mod_eq_of_lt h]
theorem zlI (n:Nat)(h:n<64):Value.int .u64 (Go.bits .and .u64 (n:Int) 63)=.int .u64 (n:Int):=by
 rw [show (63:Int)=((63:Nat):Int) from rfl,u64_and_nat n 63 (by omega) (by omega),show (63:Nat)=2^6-1 from rfl,Nat.and_two_pow_sub_one_eq_mod,Nat.mod_eq_of_lt (by omega)]
theorem zlJ (x:BitVec 64)(n:Nat)(hn:n<64):Fn Tryz.prog 137 #[.int .u64 (BitVec.toNat x:Int),.int .i64 (n:Int)] (.int .u64 (BitVec.toNat (rl x n):Int)):=by
 refine Fn.intro (c:=zl Tryz.f137) [.tmp 4] 17 Tryz.func137 kr kr kr fun w=>?_;have H0:=St.start w;refine rS [.v] H0 kr fun gs1 w1 H1=>?_;clear H0;refine rS [.v,.E (.int .u64 (IntKind.u64.wrap ((n:Int)))) (.int .u64 (n:Int)) (ze (ko (a:=n) (by omega))),.E (.int .u64 (Go.bits .and .u64 (n:Int) 63)) (.int .u64 (n:Int)) (zlI n hn),.v] H1 kr fun gs2 w2 H2=>?_;clear H1;refine rS [.v,.v,.E (.int .u64 (IntKind.u64.wrap (((BitVec.toNat x:Int))*2^(min n 64)))) (.int .u64 (BitVec.toNat (x <<< n):Int)) (uZ x n),.v,.v,.E (.int .u64 (IntKind.u64.wrap (64-(n:Int)))) (.int .u64 ((64-n:Nat):Int)) (ze (zdK (a:=64) (b:=n) (by omega))),.E (.int .u64 (Int.fdiv ((BitVec.toNat x:Int)) (2^(min (64-n) 64)))) (.int .u64 (BitVec.toNat (x >>> (64-n)):Int)) (zaa x (64-n)),.E (.int .u64 (Go.bits .or .u64 ((BitVec.toNat (x <<< n):Int)) ((BitVec.toNat (x >>> (64-n)):Int)))) (.int .u64 (BitVec.toNat ((x <<< n) ||| (x >>> (64-n))):Int)) (zbl (x <<< n) (x >>> (64-n))),.v] H2 kr fun gs3 w3 H3=>?_;clear H2;refine zn kr<|wV ?_;refine ⟨[.int .u64 (BitVec.toNat ((x <<< n) ||| (x >>> (64-n))):Int)],(.tmp (.int .u64 (BitVec.toNat ((x <<< n) ||| (x >>> (64-n))):Int)) kr .nil),?_,H3.below⟩;rw [←zgn x n hn];rfl
theorem yz (x:BitVec 64)(n:Nat)(hn:n<64):Fn Tryz.prog 130 #[.int .u64 (BitVec.toNat x:Int),.int .i64 (n:Int)] (.int .u64 (BitVec.toNat (rl x n):Int)):=by
 refine Fn.intro (c:=zl Tryz.f130) [.tmp 4] 8 Tryz.func130 kr kr kr fun w=>?_;have H0:=St.start w;refine rS [.v] H0 kr fun gs1 w1 H1=>?_;clear H0;refine rS [.v,.v,.c (zlJ x n (by omega)),.v] H1 kr fun gs2 w2 H2=>?_;clear H1;refine zn kr<|wV ?_;refine ⟨[.int .u64 (BitVec.toNat (rl x n):Int)],(.tmp (.int .u64 (BitVec.toNat (rl x n):Int)) kr .nil),?_,H2.below⟩;rfl
theorem uD (xa xb xc xd xe:BitVec 64):Fn Tryz.prog 131 #[.int .u64 (BitVec.toNat xa:Int),.int .u64 (BitVec.toNat xb:Int),.int .u64 (BitVec.toNat xc:Int),.int .u64 (BitVec.toNat xd:Int),.int .u64 (BitVec.toNat xe:Int)] (.tuple #[.int .u64 (BitVec.toNat (kM xa xb xc):Int),.int .u64 (BitVec.toNat (kM xb xc xd):Int),.int .u64 (BitVec.toNat (kM xc xd xe):Int),.int .u64 (BitVec.toNat (kM xd xe xa):Int),.int .u64 (BitVec.toNat (kM xe xa xb):Int)]):=by
 refine Fn.intro (c:=zl Tryz.f131) [.tmp 10,.tmp 11,.tmp 12,.tmp 13,.tmp 14] 40 Tryz.func131 kr kr kr fun w=>?_;have H0:=St.start w;refine rS [.v,.v,.v,.v,.v] H0 kr fun gs1 w1 H1=>?_;clear H0;refine rS [.v,.v,.v,.E (.int .u64 (Go.bits .andNot .u64 ((BitVec.toNat xc:Int)) ((BitVec.toNat xb:Int)))) (.int .u64 (BitVec.toNat (xc &&& ~~~xb):Int)) (vW xc xb),.E (.int .u64 (Go.bits .xor .u64 ((BitVec.toNat xa:Int)) ((BitVec.toNat (xc &&& ~~~xb):Int)))) (.int .u64 (BitVec.toNat (xa ^^^ (xc &&& ~~~xb)):Int)) (zD xa (xc &&& ~~~xb)),.v,.v,.v,.E (.int .u64 (Go.bits .andNot .u64 ((BitVec.toNat xd:Int)) ((BitVec.toNat xc:Int)))) (.int .u64 (BitVec.toNat (xd &&& ~~~xc):Int)) (vW xd xc),.E (.int .u64 (Go.bits .xor .u64 ((BitVec.toNat xb:Int)) ((BitVec.toNat (xd &&& ~~~xc):Int)))) (.int .u64 (BitVec.toNat (xb ^^^ (xd &&& ~~~xc)):Int)) (zD xb (xd &&& ~~~xc)),.v,.v,.v,.E (.int .u64 (Go.bits .andNot .u64 ((BitVec.toNat xe:Int)) ((BitVec.toNat xd:Int)))) (.int .u64 (BitVec.toNat (xe &&& ~~~xd):Int)) (vW xe xd),.E (.int .u64 (Go.bits .xor .u64 ((BitVec.toNat xc:Int)) ((BitVec.toNat (xe &&& ~~~xd):Int)))) (.int .u64 (BitVec.toNat (xc ^^^ (xe &&& ~~~xd)):Int)) (zD xc (xe &&& ~~~xd)),.v,.v,.v,.E (.int .u64 (Go.bits .andNot .u64 ((BitVec.toNat xa:Int)) ((BitVec.toNat xe:Int)))) (.int .u64 (BitVec.toNat (xa &&& ~~~xe):Int)) (vW xa xe),.E (.int .u64 (Go.bits .xor .u64 ((BitVec.toNat xd:Int)) ((BitVec.toNat (xa &&& ~~~xe):Int)))) (.int .u64 (BitVec.toNat (xd ^^^ (xa &&& ~~~xe)):Int)) (zD xd (xa &&& ~~~xe)),.v,.v,.v,.E (.int .u64 (Go.bits .andNot .u64 ((BitVec.toNat xb:Int)) ((BitVec.toNat xa:Int)))) (.int .u64 (BitVec.toNat (xb &&& ~~~xa):Int)) (vW xb xa),.E (.int .u64 (Go.bits .xor .u64 ((BitVec.toNat xe:Int)) ((BitVec.toNat (xb &&& ~~~xa):Int)))) (.int .u64 (BitVec.toNat (xe ^^^ (xb &&& ~~~xa)):Int)) (zD xe (xb &&& ~~~xa)),.v,.v,.v,.v,.v] H1 kr fun gs2 w2 H2=>?_;clear H1;refine zn kr<|wV ?_;refine ⟨[.int .u64 (BitVec.toNat (xa ^^^ (xc &&& ~~~xb)):Int),.int .u64 (BitVec.toNat (xb ^^^ (xd &&& ~~~xc)):Int),.int .u64 (BitVec.toNat (xc ^^^ (xe &&& ~~~xd)):Int),.int .u64 (BitVec.toNat (xd ^^^ (xa &&& ~~~xe)):Int),.int .u64 (BitVec.toNat (xe ^^^ (xb &&& ~~~xa)):Int)],(.tmp (.int .u64 (BitVec.toNat (xa ^^^ (xc &&& ~~~xb)):Int)) kr (.tmp (.int .u64 (BitVec.toNat (xb ^^^ (xd &&& ~~~xc)):Int)) kr (.tmp (.int .u64 (BitVec.toNat (xc ^^^ (xe &&& ~~~xd)):Int)) kr (.tmp (.int .u64 (BitVec.toNat (xd ^^^ (xa &&& ~~~xe)):Int)) kr (.tmp (.int .u64 (BitVec.toNat (xe ^^^ (xb &&& ~~~xa)):Int)) kr .nil))))),?_,H2.below⟩;rfl
def svn (s:List (BitVec 64)):Value:=.agg #[.int .u64 (BitVec.toNat (nth s 0):Int),.int .u64 (BitVec.toNat (nth s 1):Int),.int .u64 (BitVec.toNat (nth s 2):Int),.int .u64 (BitVec.toNat (nth s 3):Int),.int .u64 (BitVec.toNat (nth s 4):Int),.int .u64 (BitVec.toNat (nth s 5):Int),.int .u64 (BitVec.toNat (nth s 6):Int),.int .u64 (BitVec.toNat (nth s 7):Int),.int .u64 (BitVec.toNat (nth s 8):Int),.int .u64 (BitVec.toNat (nth s 9):Int),.int .u64 (BitVec.toNat (nth s 10):Int),.int .u64 (BitVec.toNat (nth s 11):Int),.int .u64 (BitVec.toNat (nth s 12):Int),.int .u64 (BitVec.toNat (nth s 13):Int),.int .u64 (BitVec.toNat (nth s 14):Int),.int .u64 (BitVec.toNat (nth s 15):Int),.int .u64 (BitVec.toNat (nth s 16):Int),.int .u64 (BitVec.toNat (nth s 17):Int),.int .u64 (BitVec.toNat (nth s 18):Int),.int .u64 (BitVec.toNat (nth s 19):Int),.int .u64 (BitVec.toNat (nth s 20):Int),.int .u64 (BitVec.toNat (nth s 21):Int),.int .u64 (BitVec.toNat (nth s 22):Int),.int .u64 (BitVec.toNat (nth s 23):Int),.int .u64 (BitVec.toNat (nth s 24):Int)]
theorem rl0 (x:BitVec 64):rl x 0=x:=by
 apply BitVec.eq_of_getLsbD_eq;intro i hi;rw [zls _ _ _ hi];congr 1;omega
theorem pI0 (s:List (BitVec 64)):pI s 0=th s 0:=rl0 _
theorem zlK (s:List (BitVec 64)):Fn Tryz.prog 131 #[.int .u64 (BitVec.toNat (th s 0):Int),.int .u64 (BitVec.toNat (pI s 1):Int),.int .u64 (BitVec.toNat (pI s 2):Int),.int .u64 (BitVec.toNat (pI s 3):Int),.int .u64 (BitVec.toNat (pI s 4):Int)] (.tuple #[.int .u64 (BitVec.toNat (xI (pI s) 0):Int),.int .u64 (BitVec.toNat (xI (pI s) 1):Int),.int .u64 (BitVec.toNat (xI (pI s) 2):Int),.int .u64 (BitVec.toNat (xI (pI s) 3):Int),.int .u64 (BitVec.toNat (xI (pI s) 4):Int)]):=by
 rw [←pI0 s];exact uD (pI s 0) (pI s 1) (pI s 2) (pI s 3) (pI s 4)
theorem zlL (s:List (BitVec 64)):Fn Tryz.prog 100 #[svn s] (svn (rnd s)):=by
 refine Fn.intro (c:=zl Tryz.f100) [.cell 2 81] 288 Tryz.func100 kr kr kr fun w=>?_;have H0:=St.start w;refine rS [.b,.a] H0 kr fun gs1 w1 H1=>?_;clear H0;refine rS [.v,.l 0,.v,.l 0,.E (.int .u64 (Go.bits .xor .u64 ((BitVec.toNat (nth s 0):Int)) ((BitVec.toNat (nth s 5):Int)))) (.int .u64 (BitVec.toNat ((nth s 0) ^^^ (nth s 5)):Int)) (zD (nth s 0) (nth s 5)),.v,.l 0,.E (.int .u64 (Go.bits .xor .u64 ((BitVec.toNat ((nth s 0) ^^^ (nth s 5)):Int)) ((BitVec.toNat (nth s 10):Int)))) (.int .u64 (BitVec.toNat (((nth s 0) ^^^ (nth s 5)) ^^^ (nth s 10)):Int)) (zD ((nth s 0) ^^^ (nth s 5)) (nth s 10)),.v,.l 0,.E (.int .u64 (Go.bits .xor .u64 ((BitVec.toNat (((nth s 0) ^^^ (nth s 5)) ^^^ (nth s 10)):Int)) ((BitVec.toNat (nth s 15):Int)))) (.int .u64 (BitVec.toNat ((((nth s 0) ^^^ (nth s 5)) ^^^ (nth s 10)) ^^^ (nth s 15)):Int)) (zD (((nth s 0) ^^^ (nth s 5)) ^^^ (nth s 10)) (nth s 15)),.v,.l 0,.E (.int .u64 (Go.bits .xor .u64 ((BitVec.toNat ((((nth s 0) ^^^ (nth s 5)) ^^^ (nth s 10)) ^^^ (nth s 15)):Int)) ((BitVec.toNat (nth s 20):Int)))) (.int .u64 (BitVec.toNat (cC s 0):Int)) (zD ((((nth s 0) ^^^ (nth s 5)) ^^^ (nth s 10)) ^^^ (nth s 15)) (nth s 20)),.v] H1 kr fun gs2 w2 H2=>?_;clear H1;refine zJ [0,1,2,3] fun ρ1=>?_;have HK1:=H2.keep;clear H2;refine rS [.v,.l 0,.v,.l 0,.E (.int .u64 (Go.bits .xor .u64 ((BitVec.toNat (nth s 1):Int)) ((BitVec.toNat (nth s 6):Int)))) (.int .u64 (BitVec.toNat ((nth s 1) ^^^ (nth s 6)):Int)) (zD (nth s 1) (nth s 6)),.v,.l 0,.E (.int .u64 (Go.bits .xor .u64 ((BitVec.toNat ((nth s 1) ^^^ (nth s 6)):Int)) ((BitVec.toNat (nth s 11):Int)))) (.int .u64 (BitVec.toNat (((nth s 1) ^^^ (nth s 6)) ^^^ (nth s 11)):Int)) (zD ((nth s 1) ^^^ (nth s 6)) (nth s 11)),.v,.l 0,.E (.int .u64 (Go.bits .xor .u64 ((BitVec.toNat (((nth s 1) ^^^ (nth s 6)) ^^^ (nth s 11)):Int)) ((BitVec.toNat (nth s 16):Int)))) (.int .u64 (BitVec.toNat ((((nth s 1) ^^^ (nth s 6)) ^^^ (nth s 11)) ^^^ (nth s 16)):Int)) (zD (((nth s 1) ^^^ (nth s 6)) ^^^ (nth s 11)) (nth s 16)),.v,.l 0,.E (.int .u64 (Go.bits .xor .u64 ((BitVec.toNat ((((nth s 1) ^^^ (nth s 6)) ^^^ (nth s 11)) ^^^ (nth s 16)):Int)) ((BitVec.toNat (nth s 21):Int)))) (.int .u64 (BitVec.toNat (cC s 1):Int)) (zD ((((nth s 1) ^^^ (nth s 6)) ^^^ (nth s 11)) ^^^ (nth s 16)) (nth s 21)),.v] HK1 kr fun gs3 w3 H3=>?_;clear HK1;refine rS [.v,.l 0,.v,.l 0,.E (.int .u64 (Go.bits .xor .u64 ((BitVec.toNat (nth s 2):Int)) ((BitVec.toNat (nth s 7):Int)))) (.int .u64 (BitVec.toNat ((nth s 2) ^^^ (nth s 7)):Int)) (zD (nth s 2) (nth s 7)),.v,.l 0,.E (.int .u64 (Go.bits .xor .u64 ((BitVec.toNat ((nth s 2) ^^^ (nth s 7)):Int)) ((BitVec.toNat (nth s 12):Int)))) (.int .u64 (BitVec.toNat (((nth s 2) ^^^ (nth s 7)) ^^^ (nth s 12)):Int)) (zD ((nth s 2) ^^^ (nth s 7)) (nth s 12)),.v,.l 0,.E (.int .u64 (Go.bits .xor .u64 ((BitVec.toNat (((nth s 2) ^^^ (nth s 7)) ^^^ (nth s 12)):Int)) ((BitVec.toNat (nth s 17):Int)))) (.int .u64 (BitVec.toNat ((((nth s 2) ^^^ (nth s 7)) ^^^ (nth s 12)) ^^^ (nth s 17)):Int)) (zD (((nth s 2) ^^^ (nth s 7)) ^^^ (nth s 12)) (nth s 17)),.v,.l 0,.E (.int .u64 (Go.bits .xor .u64 ((BitVec.toNat ((((nth s 2) ^^^ (nth s 7)) ^^^ (nth s 12)) ^^^ (nth s 17)):Int)) ((BitVec.toNat (nth s 22):Int)))) (.int .u64 (BitVec.toNat (cC s 2):Int)) (zD ((((nth s 2) ^^^ (nth s 7)) ^^^ (nth s 12)) ^^^ (nth s 17)) (nth s 22)),.v] H3 kr fun gs4 w4 H4=>?_;clear H3;refine zJ [0,1,2,3,4,5] fun ρ2=>?_;have HK2:=H4.keep;clear H4;refine rS [.v,.l 0,.v,.l 0,.E (.int .u64 (Go.bits .xor .u64 ((BitVec.toNat (nth s 3):Int)) ((BitVec.toNat (nth s 8):Int)))) (.int .u64 (BitVec.toNat ((nth s 3) ^^^ (nth s 8)):Int)) (zD (nth s 3) (nth s 8)),.v,.l 0,.E (.int .u64 (Go.bits .xor .u64 ((BitVec.toNat ((nth s 3) ^^^ (nth s 8)):Int)) ((BitVec.toNat (nth s 13):Int)))) (.int .u64 (BitVec.toNat (((nth s 3) ^^^ (nth s 8)) ^^^ (nth s 13)):Int)) (zD ((nth s 3) ^^^ (nth s 8)) (nth s 13)),.v,.l 0,.E (.int .u64 (Go.bits .xor .u64 ((BitVec.toNat (((nth s 3) ^^^ (nth s 8)) ^^^ (nth s 13)):Int)) ((BitVec.toNat (nth s 18):Int)))) (.int .u64 (BitVec.toNat ((((nth s 3) ^^^ (nth s 8)) ^^^ (nth s 13)) ^^^ (nth s 18)):Int)) (zD (((nth s 3) ^^^ (nth s 8)) ^^^ (nth s 13)) (nth s 18)),.v,.l 0,.E (.int .u64 (Go.bits .xor .u64 ((BitVec.toNat ((((nth s 3) ^^^ (nth s 8)) ^^^ (nth s 13)) ^^^ (nth s 18)):Int)) ((BitVec.toNat (nth s 23):Int)))) (.int .u64 (BitVec.toNat (cC s 3):Int)) (zD ((((nth s 3) ^^^ (nth s 8)) ^^^ (nth s 13)) ^^^ (nth s 18)) (nth s 23)),.v] HK2 kr fun gs5 w5 H5=>?_;clear HK2;refine rS [.v,.l 0,.v,.l 0,.E (.int .u64 (Go.bits .xor .u64 ((BitVec.toNat (nth s 4):Int)) ((BitVec.toNat (nth s 9):Int)))) (.int .u64 (BitVec.toNat ((nth s 4) ^^^ (nth s 9)):Int)) (zD (nth s 4) (nth s 9)),.v,.l 0,.E (.int .u64 (Go.bits .xor .u64 ((BitVec.toNat ((nth s 4) ^^^ (nth s 9)):Int)) ((BitVec.toNat (nth s 14):Int)))) (.int .u64 (BitVec.toNat (((nth s 4) ^^^ (nth s 9)) ^^^ (nth s 14)):Int)) (zD ((nth s 4) ^^^ (nth s 9)) (nth s 14)),.v,.l 0,.E (.int .u64 (Go.bits .xor .u64 ((BitVec.toNat (((nth s 4) ^^^ (nth s 9)) ^^^ (nth s 14)):Int)) ((BitVec.toNat (nth s 19):Int)))) (.int .u64 (BitVec.toNat ((((nth s 4) ^^^ (nth s 9)) ^^^ (nth s 14)) ^^^ (nth s 19)):Int)) (zD (((nth s 4) ^^^ (nth s 9)) ^^^ (nth s 14)) (nth s 19)),.v,.l 0,.E (.int .u64 (Go.bits .xor .u64 ((BitVec.toNat ((((nth s 4) ^^^ (nth s 9)) ^^^ (nth s 14)) ^^^ (nth s 19)):Int)) ((BitVec.toNat (nth s 24):Int)))) (.int .u64 (BitVec.toNat (cC s 4):Int)) (zD ((((nth s 4) ^^^ (nth s 9)) ^^^ (nth s 14)) ^^^ (nth s 19)) (nth s 24)),.v] H5 kr fun gs6 w6 H6=>?_;clear H5;refine zJ [0,1,2,3,4,5,6,7] fun ρ3=>?_;have HK3:=H6.keep;clear H6;refine rS [.v,.v,.c (yz (cC s 1) 1 (by omega)),.E (.int .u64 (Go.bits .xor .u64 ((BitVec.toNat (cC s 4):Int)) ((BitVec.toNat (rl (cC s 1) 1):Int)))) (.int .u64 (BitVec.toNat (dD (cC s) 0):Int)) (zD (cC s 4) (rl (cC s 1) 1)),.v] HK3 kr fun gs7 w7 H7=>?_;clear HK3;refine rS [.v,.v,.c (yz (cC s 2) 1 (by omega)),.E (.int .u64 (Go.bits .xor .u64 ((BitVec.toNat (cC s 0):Int)) ((BitVec.toNat (rl (cC s 2) 1):Int)))) (.int .u64 (BitVec.toNat (dD (cC s) 1):Int)) (zD (cC s 0) (rl (cC s 2) 1)),.v] H7 kr fun gs8 w8 H8=>?_;clear H7;refine rS [.v,.v,.c (yz (cC s 3) 1 (by omega)),.E (.int .u64 (Go.bits .xor .u64 ((BitVec.toNat (cC s 1):Int)) ((BitVec.toNat (rl (cC s 3) 1):Int)))) (.int .u64 (BitVec.toNat (dD (cC s) 2):Int)) (zD (cC s 1) (rl (cC s 3) 1)),.v] H8 kr fun gs9 w9 H9=>?_;clear H8;refine rS [.v,.v,.c (yz (cC s 4) 1 (by omega)),.E (.int .u64 (Go.bits .xor .u64 ((BitVec.toNat (cC s 2):Int)) ((BitVec.toNat (rl (cC s 4) 1):Int)))) (.int .u64 (BitVec.toNat (dD (cC s) 3):Int)) (zD (cC s 2) (rl (cC s 4) 1)),.v] H9 kr fun gs10 w10 H10=>?_;clear H9;refine zJ [0,1,2,3,4,5,6,7,8,9,10,11] fun ρ4=>?_;have HK4:=H10.keep;clear H10;refine rS [.v,.v,.c (yz (cC s 0) 1 (by omega)),.E (.int .u64 (Go.bits .xor .u64 ((BitVec.toNat (cC s 3):Int)) ((BitVec.toNat (rl (cC s 0) 1):Int)))) (.int .u64 (BitVec.toNat (dD (cC s) 4):Int)) (zD (cC s 3) (rl (cC s 0) 1)),.v] HK4 kr fun gs11 w11 H11=>?_;clear HK4;refine dS [.v,.l 0,.v,.E (.int .u64 (Go.bits .xor .u64 ((BitVec.toNat (nth s 0):Int)) ((BitVec.toNat (dD (cC s) 0):Int)))) (.int .u64 (BitVec.toNat (th s 0):Int)) (zD (nth s 0) (dD (cC s) 0)),.v,.l 0,.v,.E (.int .u64 (Go.bits .xor .u64 ((BitVec.toNat (nth s 6):Int)) ((BitVec.toNat (dD (cC s) 1):Int)))) (.int .u64 (BitVec.toNat (th s 6):Int)) (zD (nth s 6) (dD (cC s) 1)),.c (yz (th s 6) 44 (by omega)),.v,.l 0,.v,.E (.int .u64 (Go.bits .xor .u64 ((BitVec.toNat (nth s 12):Int)) ((BitVec.toNat (dD (cC s) 2):Int)))) (.int .u64 (BitVec.toNat (th s 12):Int)) (zD (nth s 12) (dD (cC s) 2)),.c (yz (th s 12) 43 (by omega)),.v,.l 0,.v,.E (.int .u64 (Go.bits .xor .u64 ((BitVec.toNat (nth s 18):Int)) ((BitVec.toNat (dD (cC s) 3):Int)))) (.int .u64 (BitVec.toNat (th s 18):Int)) (zD (nth s 18) (dD (cC s) 3)),.c (yz (th s 18) 21 (by omega)),.v,.l 0,.v,.E (.int .u64 (Go.bits .xor .u64 ((BitVec.toNat (nth s 24):Int)) ((BitVec.toNat (dD (cC s) 4):Int)))) (.int .u64 (BitVec.toNat (th s 24):Int)) (zD (nth s 24) (dD (cC s) 4)),.c (yz (th s 24) 14 (by omega)),.c (zlK s),.v,.v,.v,.v,.v,.v,.v,.s 1,.v,.s 1,.v,.s 1,.v,.s 1,.v,.s 1] H11 kr fun w12 H12=>?_;clear H11;refine zJ [0,1,2,3,4,5,6,7,8,9,10,11,12] fun ρ5=>?_;have HK5:=H12.keep;clear H12;refine dS [.v,.l 0,.v,.E (.int .u64 (Go.bits .xor .u64 ((BitVec.toNat (nth s 3):Int)) ((BitVec.toNat (dD (cC s) 3):Int)))) (.int .u64 (BitVec.toNat (th s 3):Int)) (zD (nth s 3) (dD (cC s) 3)),.c (yz (th s 3) 28 (by omega)),.v,.l 0,.v,.E (.int .u64 (Go.bits .xor .u64 ((BitVec.toNat (nth s 9):Int)) ((BitVec.toNat (dD (cC s) 4):Int)))) (.int .u64 (BitVec.toNat (th s 9):Int)) (zD (nth s 9) (dD (cC s) 4)),.c (yz (th s 9) 20 (by omega)),.v,.l 0,.v,.E (.int .u64 (Go.bits .xor .u64 ((BitVec.toNat (nth s 10):Int)) ((BitVec.toNat (dD (cC s) 0):Int)))) (.int .u64 (BitVec.toNat (th s 10):Int)) (zD (nth s 10) (dD (cC s) 0)),.c (yz (th s 10) 3 (by omega)),.v,.l 0,.v,.E (.int .u64 (Go.bits .xor .u64 ((BitVec.toNat (nth s 16):Int)) ((BitVec.toNat (dD (cC s) 1):Int)))) (.int .u64 (BitVec.toNat (th s 16):Int)) (zD (nth s 16) (dD (cC s) 1)),.c (yz (th s 16) 45 (by omega)),.v,.l 0,.v,.E (.int .u64 (Go.bits .xor .u64 ((BitVec.toNat (nth s 22):Int)) ((BitVec.toNat (dD (cC s) 2):Int)))) (.int .u64 (BitVec.toNat (th s 22):Int)) (zD (nth s 22) (dD (cC s) 2)),.c (yz (th s 22) 61 (by omega)),.c (uD (pI s 5) (pI s 6) (pI s 7) (pI s 8) (pI s 9)),.v,.v,.v,.v,.v,.v,.v,.s 1,.v,.s 1,.v,.s 1,.v,.s 1,.v,.s 1] HK5 kr fun w13 H13=>?_;clear HK5;refine zJ [0,1,2,3,4,5,6,7,8,9,10,11,12] fun ρ6=>?_;have HK6:=H13.keep;clear H13;refine dS [.v,.l 0,.v,.E (.int .u64 (Go.bits .xor .u64 ((BitVec.toNat (nth s 1):Int)) ((BitVec.toNat (dD (cC s) 1):Int)))) (.int .u64 (BitVec.toNat (th s 1):Int)) (zD (nth s 1) (dD (cC s) 1)),.c (yz (th s 1) 1 (by omega)),.v,.l 0,.v,.E (.int .u64 (Go.bits .xor .u64 ((BitVec.toNat (nth s 7):Int)) ((BitVec.toNat (dD (cC s) 2):Int)))) (.int .u64 (BitVec.toNat (th s 7):Int)) (zD (nth s 7) (dD (cC s) 2)),.c (yz (th s 7) 6 (by omega)),.v,.l 0,.v,.E (.int .u64 (Go.bits .xor .u64 ((BitVec.toNat (nth s 13):Int)) ((BitVec.toNat (dD (cC s) 3):Int)))) (.int .u64 (BitVec.toNat (th s 13):Int)) (zD (nth s 13) (dD (cC s) 3)),.c (yz (th s 13) 25 (by omega)),.v,.l 0,.v,.E (.int .u64 (Go.bits .xor .u64 ((BitVec.toNat (nth s 19):Int)) ((BitVec.toNat (dD (cC s) 4):Int)))) (.int .u64 (BitVec.toNat (th s 19):Int)) (zD (nth s 19) (dD (cC s) 4)),.c (yz (th s 19) 8 (by omega)),.v,.l 0,.v,.E (.int .u64 (Go.bits .xor .u64 ((BitVec.toNat (nth s 20):Int)) ((BitVec.toNat (dD (cC s) 0):Int)))) (.int .u64 (BitVec.toNat (th s 20):Int)) (zD (nth s 20) (dD (cC s) 0)),.c (yz (th s 20) 18 (by omega)),.c (uD (pI s 10) (pI s 11) (pI s 12) (pI s 13) (pI s 14)),.v,.v,.v,.v,.v,.v,.v,.s 1,.v,.s 1,.v,.s 1,.v,.s 1,.v,.s 1] HK6 kr fun w14 H14=>?_;clear HK6;refine zJ [0,1,2,3,4,5,6,7,8,9,10,11,12] fun ρ7=>?_;have HK7:=H14.keep;clear H14;refine dS [.v,.l 0,.v,.E (.int .u64 (Go.bits .xor .u64 ((BitVec.toNat (nth s 4):Int)) ((BitVec.toNat (dD (cC s) 4):Int)))) (.int .u64 (BitVec.toNat (th s 4):Int)) (zD (nth s 4) (dD (cC s) 4)),.c (yz (th s 4) 27 (by omega)),.v,.l 0,.v,.E (.int .u64 (Go.bits .xor .u64 ((BitVec.toNat (nth s 5):Int)) ((BitVec.toNat (dD (cC s) 0):Int)))) (.int .u64 (BitVec.toNat (th s 5):Int)) (zD (nth s 5) (dD (cC s) 0)),.c (yz (th s 5) 36 (by omega)),.v,.l 0,.v,.E (.int .u64 (Go.bits .xor .u64 ((BitVec.toNat (nth s 11):Int)) ((BitVec.toNat (dD (cC s) 1):Int)))) (.int .u64 (BitVec.toNat (th s 11):Int)) (zD (nth s 11) (dD (cC s) 1)),.c (yz (th s 11) 10 (by omega)),.v,.l 0,.v,.E (.int .u64 (Go.bits .xor .u64 ((BitVec.toNat (nth s 17):Int)) ((BitVec.toNat (dD (cC s) 2):Int)))) (.int .u64 (BitVec.toNat (th s 17):Int)) (zD (nth s 17) (dD (cC s) 2)),.c (yz (th s 17) 15 (by omega)),.v,.l 0,.v,.E (.int .u64 (Go.bits .xor .u64 ((BitVec.toNat (nth s 23):Int)) ((BitVec.toNat (dD (cC s) 3):Int)))) (.int .u64 (BitVec.toNat (th s 23):Int)) (zD (nth s 23) (dD (cC s) 3)),.c (yz (th s 23) 56 (by omega)),.c (uD (pI s 15) (pI s 16) (pI s 17) (pI s 18) (pI s 19)),.v,.v,.v,.v,.v,.v,.v,.s 1,.v,.s 1,.v,.s 1,.v,.s 1,.v,.s 1] HK7 kr fun w15 H15=>?_;clear HK7;refine zJ [0,1,2,3,4,5,6,7,8,9,10,11,12] fun ρ8=>?_;have HK8:=H15.keep;clear H15;refine dS [.v,.l 0,.v,.E (.int .u64 (Go.bits .xor .u64 ((BitVec.toNat (nth s 2):Int)) ((BitVec.toNat (dD (cC s) 2):Int)))) (.int .u64 (BitVec.toNat (th s 2):Int)) (zD (nth s 2) (dD (cC s) 2)),.c (yz (th s 2) 62 (by omega)),.v,.l 0,.v,.E (.int .u64 (Go.bits .xor .u64 ((BitVec.toNat (nth s 8):Int)) ((BitVec.toNat (dD (cC s) 3):Int)))) (.int .u64 (BitVec.toNat (th s 8):Int)) (zD (nth s 8) (dD (cC s) 3)),.c (yz (th s 8) 55 (by omega)),.v,.l 0,.v,.E (.int .u64 (Go.bits .xor .u64 ((BitVec.toNat (nth s 14):Int)) ((BitVec.toNat (dD (cC s) 4):Int)))) (.int .u64 (BitVec.toNat (th s 14):Int)) (zD (nth s 14) (dD (cC s) 4)),.c (yz (th s 14) 39 (by omega)),.v,.l 0,.v,.E (.int .u64 (Go.bits .xor .u64 ((BitVec.toNat (nth s 15):Int)) ((BitVec.toNat (dD (cC s) 0):Int)))) (.int .u64 (BitVec.toNat (th s 15):Int)) (zD (nth s 15) (dD (cC s) 0)),.c (yz (th s 15) 41 (by omega)),.v,.l 0,.v,.E (.int .u64 (Go.bits .xor .u64 ((BitVec.toNat (nth s 21):Int)) ((BitVec.toNat (dD (cC s) 1):Int)))) (.int .u64 (BitVec.toNat (th s 21):Int)) (zD (nth s 21) (dD (cC s) 1)),.c (yz (th s 21) 2 (by omega)),.c (uD (pI s 20) (pI s 21) (pI s 22) (pI s 23) (pI s 24)),.v,.v,.v,.v,.v,.v,.v,.s 1,.v,.s 1,.v,.s 1,.v,.s 1,.v,.s 1] HK8 kr fun w16 H16=>?_;clear HK8;refine zJ [0,1,2,3,4,5,6,7,8,9,10,11,12] fun ρ9=>?_;have HK9:=H16.keep;clear H16;refine rS [.l 1,.s 1] HK9 kr fun gs17 w17 H17=>?_;clear HK9;refine zn kr<|wV ?_;refine ⟨[.agg #[.int .u64 (BitVec.toNat (xI (pI s) 0):Int),.int .u64 (BitVec.toNat (xI (pI s) 1):Int),.int .u64 (BitVec.toNat (xI (pI s) 2):Int),.int .u64 (BitVec.toNat (xI (pI s) 3):Int),.int .u64 (BitVec.toNat (xI (pI s) 4):Int),.int .u64 (BitVec.toNat (xI (pI s) 5):Int),.int .u64 (BitVec.toNat (xI (pI s) 6):Int),.int .u64 (BitVec.toNat (xI (pI s) 7):Int),.int .u64 (BitVec.toNat (xI (pI s) 8):Int),.int .u64 (BitVec.toNat (xI (pI s) 9):Int),.int .u64 (BitVec.toNat (xI (pI s) 10):Int),.int .u64 (BitVec.toNat (xI (pI s) 11):Int),.int .u64 (BitVec.toNat (xI (pI s) 12):Int),.int .u64 (BitVec.toNat (xI (pI s) 13):Int),.int .u64 (BitVec.toNat (xI (pI s) 14):Int),.int .u64 (BitVec.toNat (xI (pI s) 15):Int),.int .u64 (BitVec.toNat (xI (pI s) 16):Int),.int .u64 (BitVec.toNat (xI (pI s) 17):Int),.int .u64 (BitVec.toNat (xI (pI s) 18):Int),.int .u64 (BitVec.toNat (xI (pI s) 19):Int),.int .u64 (BitVec.toNat (xI (pI s) 20):Int),.int .u64 (BitVec.toNat (xI (pI s) 21):Int),.int .u64 (BitVec.toNat (xI (pI s) 22):Int),.int .u64 (BitVec.toNat (xI (pI s) 23):Int),.int .u64 (BitVec.toNat (xI (pI s) 24):Int)]],(.agg (b:=(gs1 1).b) #[.int .u64 (BitVec.toNat (xI (pI s) 0):Int),.int .u64 (BitVec.toNat (xI (pI s) 1):Int),.int .u64 (BitVec.toNat (xI (pI s) 2):Int),.int .u64 (BitVec.toNat (xI (pI s) 3):Int),.int .u64 (BitVec.toNat (xI (pI s) 4):Int),.int .u64 (BitVec.toNat (xI (pI s) 5):Int),.int .u64 (BitVec.toNat (xI (pI s) 6):Int),.int .u64 (BitVec.toNat (xI (pI s) 7):Int),.int .u64 (BitVec.toNat (xI (pI s) 8):Int),.int .u64 (BitVec.toNat (xI (pI s) 9):Int),.int .u64 (BitVec.toNat (xI (pI s) 10):Int),.int .u64 (BitVec.toNat (xI (pI s) 11):Int),.int .u64 (BitVec.toNat (xI (pI s) 12):Int),.int .u64 (BitVec.toNat (xI (pI s) 13):Int),.int .u64 (BitVec.toNat (xI (pI s) 14):Int),.int .u64 (BitVec.toNat (xI (pI s) 15):Int),.int .u64 (BitVec.toNat (xI (pI s) 16):Int),.int .u64 (BitVec.toNat (xI (pI s) 17):Int),.int .u64 (BitVec.toNat (xI (pI s) 18):Int),.int .u64 (BitVec.toNat (xI (pI s) 19):Int),.int .u64 (BitVec.toNat (xI (pI s) 20):Int),.int .u64 (BitVec.toNat (xI (pI s) 21):Int),.int .u64 (BitVec.toNat (xI (pI s) 22):Int),.int .u64 (BitVec.toNat (xI (pI s) 23):Int),.int .u64 (BitVec.toNat (xI (pI s) 24):Int)] 81 (0,0) kr (H17.get 1 kr) kr .nil),?_,H17.below⟩;rfl
def marksC:Array Value:=(Kec.marks.map fun m=>Value.int .u64 (BitVec.toNat m:Int)).toArray
def Marks (w:World):Prop:=∃T fz,w.heap[0]? =some (.cells marksC T fz)
theorem zlM (k q:Nat)(hq:q=k)(h:k<24):marksC[q]? =some (Value.int .u64 (BitVec.toNat (Kec.marks.getD k 0):Int)):=by
 subst hq;have hl:Kec.marks.length=24:=rfl;unfold marksC;simp [hl,h]
def yE (s:List (BitVec 64))(j:Nat):List (BitVec 64):=(Kec.marks.take j).foldl rm s
theorem zgo (s:List (BitVec 64))(j:Nat)(h:j<24):yE s (j+1)=rm (yE s j) (Kec.marks.getD j 0):=by
 have hl:Kec.marks.length=24:=rfl;unfold yE;rw [List.take_add_one,List.foldl_append,List.getElem?_eq_getElem (by omega)];simp [hl,h]
theorem zgp (s:List (BitVec 64)):yE s 24=mix s:=by
 unfold yE mix;rw [List.take_of_length_le (by decide)]
theorem yQ (s:List (BitVec 64))(m:BitVec 64)(k:Nat):nth (rm s m) (k+1)=nth (rnd s) (k+1):=by
 unfold rm zaH nth;simp
theorem zgq (s:List (BitVec 64))(m:BitVec 64):((Value.cells (svn (rnd s))).toList.take 0++(Value.cells (.int .u64 (BitVec.toNat (nth (rnd s) 0 ^^^ m):Int))).toList++(Value.cells (svn (rnd s))).toList.drop (0+1)).toArray=Value.cells (svn (rm s m)):=by
 have e1:nth (rm s m) 1=nth (rnd s) 1:=yQ s m 0;have e2:nth (rm s m) 2=nth (rnd s) 2:=yQ s m 1;have e3:nth (rm s m) 3=nth (rnd s) 3:=yQ s m 2;have e4:nth (rm s m) 4=nth (rnd s) 4:=yQ s m 3;have e5:nth (rm s m) 5=nth (rnd s) 5:=yQ s m 4;have e6:nth (rm s m) 6=nth (rnd s) 6:=yQ s m 5;have e7:nth (rm s m) 7=nth (rnd s) 7:=yQ s m 6;have e8:nth (rm s m) 8=nth (rnd s) 8:=yQ s m 7;have e9:nth (rm s m) 9=nth (rnd s) 9:=yQ s m 8;have e10:nth (rm s m) 10=nth (rnd s) 10:=yQ s m 9;have e11:nth (rm s m) 11=nth (rnd s) 11:=yQ s m 10;have e12:nth (rm s m) 12=nth (rnd s) 12:=yQ s m 11;have e13:nth (rm s m) 13=nth (rnd s) 13:=yQ s m 12;have e14:nth (rm s m) 14=nth (rnd s) 14:=yQ s m 13;have e15:nth (rm s m) 15=nth (rnd s) 15:=yQ s m 14;have e16:nth (rm s m) 16=nth (rnd s) 16:=yQ s m 15;have e17:nth (rm s m) 17=nth (rnd s) 17:=yQ s m 16;have e18:nth (rm s m) 18=nth (rnd s) 18:=yQ s m 17;have e19:nth (rm s m) 19=nth (rnd s) 19:=yQ s m 18;have e20:nth (rm s m) 20=nth (rnd s) 20:=yQ s m 19;have e21:nth (rm s m) 21=nth (rnd s) 21:=yQ s m 20;have e22:nth (rm s m) 22=nth (rnd s) 22:=yQ s m 21;have e23:nth (rm s m) 23=nth (rnd s) 23:=yQ s m 22;have e24:nth (rm s m) 24=nth (rnd s) 24:=yQ s m 23;have e0:nth (rm s m) 0=nth (rnd s) 0 ^^^ m:=rfl;unfold svn;rw [e0,e1,e2,e3,e4,e5,e6,e7,e8,e9,e10,e11,e12,e13,e14,e15,e16,e17,e18,e19,e20,e21,e22,e23,e24];rfl
theorem zlN (s:List (BitVec 64))(T:TypeId)(fz:Nat×Nat):FnP Tryz.prog 61 #[svn s] (fun w=>w.heap[0]? =some (.cells marksC T fz)) (svn (mix s)):=by
 refine FnP.intro (c:=zl Tryz.f61) [.cell 2 81] 18 Tryz.func61 kr kr kr fun w hpre=>?_;have H0:=St.start w;refine rS [.b,.a] H0 kr fun gs1 w1 H1=>?_;clear H0;refine zc kr<|rS [.f hpre (zC hpre),.v] H1 kr fun gs2 w2 H2=>?_;clear H1;refine zj 0 kr ?_;have HL1:St w.heap.size w w2 [((gs1 0).b,Obj.cells (Value.cells (svn s)) 81 (0,0)),((gs1 1).b,Obj.cells #[wZ,wZ,wZ,wZ,wZ,wZ,wZ,wZ,wZ,wZ,wZ,wZ,wZ,wZ,wZ,wZ,wZ,wZ,wZ,wZ,wZ,wZ,wZ,wZ,wZ] 81 (0,0))]:=H2.as kr;clear H2;have HM2:St w.heap.size w w2 [((gs1 0).b,Obj.cells (Value.cells (svn (yE s 0))) 81 (0,0)),((gs1 1).b,Obj.cells #[wZ,wZ,wZ,wZ,wZ,wZ,wZ,wZ,wZ,wZ,wZ,wZ,wZ,wZ,wZ,wZ,wZ,wZ,wZ,wZ,wZ,wZ,wZ,wZ,wZ] 81 (0,0))]:=HL1;refine zz kr (fun mz ρ ww=> ∃(j:Nat),24-j=mz∧(j≤24)∧St w.heap.size w ww [((gs1 0).b,Obj.cells (Value.cells (svn (yE s j))) 81 (0,0)),((gs1 1).b,Obj.cells #[wZ,wZ,wZ,wZ,wZ,wZ,wZ,wZ,wZ,wZ,wZ,wZ,wZ,wZ,wZ,wZ,wZ,wZ,wZ,wZ,wZ,wZ,wZ,wZ,wZ] 81 (0,0))]∧Is [(0,svn s),(1,.pointer (some ⟨(gs1 0).b,0,none⟩)),(2,.pointer (some ⟨(gs1 1).b,0,none⟩)),(5,.agg marksC),(6,.int .i64 (j:Int))] ρ) (24-0) ⟨0,rfl,(by omega),HM2,(Is.of ⟨kr,kr,kr,kr,kr,trivial⟩)⟩ ?_;clear HM2;rintro _ _ w3 ⟨j,rfl,hj,H3,_,rfl⟩;by_cases hc3:(j:Nat)<24
 ·refine rS [.E (.bool (decide ((j:Int)<24))) (.bool true) (za (decide_eq_true (by omega)))] H3 kr fun gs4 w4 H4=>?_;clear H3;refine zc kr<|zg kr kr<|zh kr<|wW<|zc kr<|zj 1 kr<|rS [.o (ins:=[((.tmp 5),.agg marksC),((.tmp 6),.int .i64 (j:Int))]) (v:=.int .u64 (BitVec.toNat (List.getD Kec.marks j 0):Int)) (fun ρ o w ho hi=>zbp (t:=146) (e:=28) (kd:=.i64) (n:=24) kr kr kr (x:=(.tmp 5)) (y:=(.tmp 6)) (Value.cells (.agg marksC)) j (.int .u64 (BitVec.toNat (List.getD Kec.marks j 0):Int)) ho hi.1 hi.2.1 (by omega) (zlM j _ (by omega) (by omega)) w),.v] H4 kr fun gs5 w5 H5=>?_;clear H4;refine rS [.l 0,.c (zlL (yE s j)),.s 0] H5 kr fun gs6 w6 H6=>?_;clear H5;refine rL [.v,.l 0,.v,.E (.int .u64 (Go.bits .xor .u64 ((BitVec.toNat (nth (rnd (yE s j)) 0):Int)) ((BitVec.toNat (List.getD Kec.marks j 0):Int)))) (.int .u64 (BitVec.toNat ((nth (rnd (yE s j)) 0) ^^^ (List.getD Kec.marks j 0)):Int)) (zD (nth (rnd (yE s j)) 0) (List.getD Kec.marks j 0)),.v,.se (C:=(Value.cells (svn (rnd (yE s j))))) (C':=(Value.cells (svn (rm (yE s j) (List.getD Kec.marks j 0))))) (off:=0) (v:=.int .u64 (BitVec.toNat ((nth (rnd (yE s j)) 0) ^^^ (List.getD Kec.marks j 0)):Int)) 0 (of_decide_eq_true kr) (zgq (yE s j) (List.getD Kec.marks j 0))] H6 kr fun gs7 w7 H7=>?_;clear H6;refine wW<|rL [.E (.int .i64 (IntKind.i64.wrap ((j:Int)+1))) (.int .i64 ((j+1:Nat):Int)) (ze (zm (a:=j) (b:=1) (by omega))),.v] H7 kr fun gs8 w8 H8=>?_;clear H7;have HL4:St w.heap.size w w8 [((gs1 0).b,Obj.cells (Value.cells (svn (rm (yE s j) (List.getD Kec.marks j 0)))) 81 (0,0)),((gs1 1).b,Obj.cells #[wZ,wZ,wZ,wZ,wZ,wZ,wZ,wZ,wZ,wZ,wZ,wZ,wZ,wZ,wZ,wZ,wZ,wZ,wZ,wZ,wZ,wZ,wZ,wZ,wZ] 81 (0,0))]:=H8.as kr;clear H8;have HM5:St w.heap.size w w8 [((gs1 0).b,Obj.cells (Value.cells (svn (yE s (j+1)))) 81 (0,0)),((gs1 1).b,Obj.cells #[wZ,wZ,wZ,wZ,wZ,wZ,wZ,wZ,wZ,wZ,wZ,wZ,wZ,wZ,wZ,wZ,wZ,wZ,wZ,wZ,wZ,wZ,wZ,wZ,wZ] 81 (0,0))]:=by rw [zgo s j (by omega)];exact HL4
  show ∃m,_∧_;exact ⟨_,(by omega),(j+1),rfl,(by omega),HM5,(Is.of ⟨kr,kr,kr,kr,kr,trivial⟩)⟩
 ·refine rS [.E (.bool (decide ((j:Int)<24))) (.bool false) (za (decide_eq_false (by omega)))] H3 kr fun gs9 w9 H9=>?_;clear H3;refine zc kr<|zf kr kr<|zw 0 kr<|wW<|rS [.l 0,.s 1] H9 kr fun gs10 w10 H10=>?_;clear H9;refine zn kr<|wV ?_;refine ⟨[svn (yE s j)],(.agg (b:=(gs1 1).b) (Value.cells (svn (yE s j))) 81 (0,0) kr (H10.get 1 kr) kr .nil),?_,H10.below⟩;obtain rfl:j=24:=by omega
  exact congrArg svn (zgp s)
theorem zgr (s:List (BitVec 64)):FnP Tryz.prog 61 #[svn s] Marks (svn (mix s)):=fun w ⟨T,fz,h⟩=>zlN s T fz w h
end Go.Proofs.YtbbdbdndedeokaaGreatDoor.Ke
namespace Go.Proofs.YtbbdbdndedeokaaGreatDoor
open Go Go.RowKit
set_option linter.unusedVariables false
set_option maxRecDepth 100000
def zcA:List Int:=[1,32898,0x800000000000808a,0x8000000080008000,32907,2147483649,0x8000000080008081,0x8000000000008009,138,136,2147516425,2147483658,2147516555,0x800000000000008b,0x8000000000008089,0x8000000000008003,0x8000000000008002,0x8000000000000080,32778,0x800000008000000a,0x8000000080008081,0x8000000000008080,2147483649,0x8000000080008008]
theorem zlO:Ke.marksC=(zcA.map (Value.int .u64)).toArray:=kr
theorem zgs:Tryz.prog.globalNamed "ecclesia/keccak.marks" =some 0:=kr
theorem zlP {W:World} (h:laidMetH Tryz.prog [("ecclesia/keccak.marks",Rows.laid_ecclesia_keccak_marks),("unicode/utf8.acceptRanges",Rows.laid_unicode_utf8_acceptRanges),("unicode/utf8.first",Rows.laid_unicode_utf8_first)] W):Ke.Marks W:=by
 rw [MakeChecks.laidMetH_plain _ _ _ kr] at h;have t:=Lib.tabIs_of_head (k:=.u64) (zs:=zcA) zgs (show (Tryz.prog.globals[0]?).map (·.type)=some 146 by kernel_rfl) Tryz.underlying146 Tryz.underlying28 kr kr h;unfold Lib.TabIs World.var? at t;rw [zgs] at t;simp only [Option.bind_some] at t;split at t
 ·rename_i cs T fz hh
  exact ⟨T,fz,by rw [hh,zlO];exact congrArg (fun c=>some (Obj.cells c T fz)) (Option.some.inj t)⟩
 ·cases t
def zlQ:Array Value:=(Go.Pinned.utf8FirstZ.map fun n=>Value.int .u8 ((n:Nat):Int)).toArray
def zlR:Array Value:=#[.int .u8 128,.int .u8 191,.int .u8 160,.int .u8 191,.int .u8 128,.int .u8 159,.int .u8 144,.int .u8 191,.int .u8 128,.int .u8 143,.int .u8 0,.int .u8 0,.int .u8 0,.int .u8 0,.int .u8 0,.int .u8 0,.int .u8 0,.int .u8 0,.int .u8 0,.int .u8 0,.int .u8 0,.int .u8 0,.int .u8 0,.int .u8 0,.int .u8 0,.int .u8 0,.int .u8 0,.int .u8 0,.int .u8 0,.int .u8 0,.int .u8 0,.int .u8 0]
noncomputable def zgt (os:Os):World:=
 let w0:=World.holding Tryz.prog os ⟨#[],#[],[]⟩
 { w0 with heap:=((w0.heap.modify 0 fun
  | .cells _ t frozen=>.cells (zcA.map (Value.int .u64)).toArray t frozen
  | o=>o).modify 2 fun
  | .cells _ t frozen=>.cells zlQ t frozen
  | o=>o).modify 3 fun
  | .cells _ t frozen=>.cells zlR t frozen
  | o=>o }
theorem zlS (os:Os) (args:Array Value):laidMetH Tryz.prog [("ecclesia/keccak.marks",Rows.laid_ecclesia_keccak_marks),("unicode/utf8.acceptRanges",Rows.laid_unicode_utf8_acceptRanges),("unicode/utf8.first",Rows.laid_unicode_utf8_first)] ((zgt os).forCall (fun _ _=>0) ⟨#[],args,[]⟩).memory:=by
 rw [MakeChecks.laidMetH_plain _ _ _ kr];exact laidMet_of_run' 8 kr kr
abbrev qb (x:Ac):Obj:=.cells (acC x.1 x.2.1 x.2.2) 31 (0,0)
theorem AtF.row {α:Type}{S:Fl α}{w:World}{p:Option Addr}{n:Nat}{L:List α}(h:AtF S w p n L)(hn:0<n):∃b off C T fz,p=some ⟨b,off,none⟩∧w.heap[b]? =some (.cells C T fz)∧yq S C off L:=by
 rcases h.2 with rfl|h2
 ·have:=h.1;simp at this;omega
 ·exact h2
theorem zlT (x:Ac):Fn Tryz.prog 19 #[acV x.1 x.2.1 x.2.2] (.bool (decide (x.2.1=0)&&decide (x.2.2=0))):=by
 refine Fn.intro (c:=zl Tryz.f19) [.tmp 2] 11 Tryz.func19 kr kr kr fun w=>rS [.b,.v] (St.start w) kr fun gs1 w1 H1=>?_;by_cases h:x.2.1=0
 ·refine rS [.v,.l 0,.E (.bool (((x.2.1:Nat):Int)==0)) (.bool true) (za (beq_iff_eq.2 (by omega))),.v,.v,.l 0,.E (.bool (((x.2.2:Nat):Int)==0)) (.bool (decide (x.2.2=0))) (za (by rw [Bool.eq_iff_iff];simp<;>omega)),.v,.v] H1 kr fun gs2 w2 H2=>?_;exact rRe [.tmp 2] [] (v:=.bool (decide (x.2.2=0))) (v':=.bool (decide (x.2.1=0)&&decide (x.2.2=0))) H2 (za (by rw [decide_eq_true h];rfl)) kr
 ·refine rS [.v,.l 0,.E (.bool (((x.2.1:Nat):Int)==0)) (.bool false) (za (beq_eq_false_iff_ne.2 (by omega))),.v,.n,.n,.n,.v,.v] H1 kr fun gs2 w2 H2=>?_;exact rRe [.tmp 2] [] (v:=.bool false) (v':=.bool (decide (x.2.1=0)&&decide (x.2.2=0))) H2 (za (by rw [decide_eq_false h];rfl)) kr
theorem uE (p:Option Addr)(n c:Nat)(L:List Ac)(hL:L.length≤1000000):FnP Tryz.prog 6 #[.slice p n c] (fun w=>AtF acS w p n L) (.bool (yu L)):=by
 refine FnP.intro (c:=zl Tryz.f6) [.tmp 2] 48 Tryz.func6 kr kr kr fun w hP=>?_;have hn:=hP.1;have H0:=St.start w;refine rS [.v] H0 kr fun gs1 w1 H1=>zc kr ?_;by_cases hl:24<n
 ·refine rS [.v,.v,.E (.bool (decide ((n:Int)>24))) (.bool true) (za (decide_eq_true (by omega)))] H1 kr fun gs2 w2 H2=>zg kr kr<|rS [.v] H2 kr fun gs3 w3 H3=>?_;exact rRe [.tmp 2] [] (v:=.bool false) (v':=.bool (yu L)) H3 (za (by unfold yu;rw [decide_eq_false (by omega)];rfl)) kr
 have hr0:yu L=xh none 0x4000000000000000 L:=by unfold yu;rw [decide_eq_true (by omega)];rfl
 refine rS [.v,.v,.E (.bool (decide ((n:Int)>24))) (.bool false) (za (decide_eq_false (by omega)))] H1 kr fun gs2 w2 H2=>zf kr kr<|zh kr<|wW<|rS [.v] H2 kr fun gs3 w3 H3=>zc kr<|rS [.v,.v,.v] H3 kr fun gs4 w4 H4=>zj 0 kr ?_;have H5:St w.heap.size w w4 []:=H4.as kr;clear H0 H1 H2 H3 H4;refine zz kr (fun mz ρ ww=> ∃(i left:Nat),n-i=mz∧i≤n∧left≤0x4000000000000000∧yu L=xh (qZ L i) left (L.drop i)∧St w.heap.size w ww []∧Is [(0,.slice p n c),(3,.int .u64 (left:Int)),(9,.slice p n c),(10,iN n),(11,iN i)] ρ) (n-0) ⟨0,0x4000000000000000,rfl,Nat.zero_le _,Nat.le_refl _,hr0,H5,(Is.of ⟨kr,kr,kr,kr,kr,trivial⟩)⟩ ?_;clear H5;rintro _ _ w4 ⟨i,left,rfl,hin,hlf,hst,H5,_,rfl⟩;by_cases hi:i<n
 ·obtain ⟨x,hx⟩:∃x,L[i]? =some x:=⟨_,List.getElem?_eq_getElem (by omega)⟩
  obtain ⟨bl,off,C,T,fz,hp,hh,hR⟩:=hP.row (by omega);rw [vA hx] at hst;change yu L=(decide (x.1.size=20)&&(!(decide (x.2.1=0)&&decide (x.2.2=0))&&(decide (x.2.1≤left)&&(upB (qZ L i) x.1&&xh (some x.1) (left-x.2.1) (L.drop (i+1)))))) at hst;refine rS [.E (.bool (decide ((i:Int)<(n:Int)))) (.bool true) (za (decide_eq_true (by omega)))] H5 kr fun gs4 w5 H6=>zc kr<|zg kr kr<|zh kr<|wW<|zc kr<|zj 1 kr<|rS [.v,.o (ins:=[((.tmp 9),.slice p n c),((.tmp 11),iN i)]) (v:=.pointer (some ⟨bl,off+i*3,none⟩)) (fun ρ o w ho hi2=>yV (kd:=.i64) (t:=22) (e:=31) (K:=3) (bytes:=32) kr (x:=(.tmp 9)) (y:=(.tmp 11)) bl off n c i hp ho hi2.1 hi2.2.1 (by omega) w),.fp (off:=off+i*3) (n:=3) (W:=acC x.1 x.2.1 x.2.2) hh (zC hh) (hR _ _ hx).1 (hR _ _ hx).2,.a,.v,.s 0] H6 kr fun gs5 w6 H7=>zc kr ?_;have hem:=zlT x;by_cases h1:x.1.size=20
  case neg=>
   refine rS [.v,.l 0,.v,.E (.bool (!(((x.1.size:Nat):Int)==20))) (.bool true) (za (by rw [beq_eq_false_iff_ne.2 (by omega)];rfl)),.v,.n,.n,.v,.v,.n,.n,.n,.n,.v] H7 kr fun gs6 w7 H8=>zg kr kr<|rS [.v] H8 kr fun gs7 w8 H9=>?_;exact rRe [.tmp 2] [] (v:=.bool false) (v':=.bool (yu L)) H9 (za (by rw [hst,decide_eq_false h1];rfl)) kr
  rw [decide_eq_true h1] at hst;by_cases he:x.2.1=0∧x.2.2=0
  ·rw [decide_eq_true he.1,decide_eq_true he.2] at hem hst;refine rS [.v,.l 0,.v,.E (.bool (!(((x.1.size:Nat):Int)==20))) (.bool false) (za (by rw [beq_iff_eq.2 (show ((x.1.size:Nat):Int)=20 by omega)];rfl)),.v,.l 0,.c hem,.v,.v,.n,.n,.n,.n,.v] H7 kr fun gs6 w7 H8=>zg kr kr<|rS [.v] H8 kr fun gs7 w8 H9=>?_;exact rRe [.tmp 2] [] (v:=.bool false) (v':=.bool (yu L)) H9 (za (by rw [hst];rfl)) kr
  have he2:(decide (x.2.1=0)&&decide (x.2.2=0))=false:=by simpa using he
  rw [he2] at hem hst;by_cases h2:x.2.1≤left
  case neg=>
   refine rS [.v,.l 0,.v,.E (.bool (!(((x.1.size:Nat):Int)==20))) (.bool false) (za (by rw [beq_iff_eq.2 (show ((x.1.size:Nat):Int)=20 by omega)];rfl)),.v,.l 0,.c hem,.v,.v,.v,.l 0,.v,.E (.bool (decide (((x.2.1:Nat):Int)>(left:Int)))) (.bool true) (za (decide_eq_true (by omega))),.v] H7 kr fun gs6 w7 H8=>zg kr kr<|rS [.v] H8 kr fun gs7 w8 H9=>?_;exact rRe [.tmp 2] [] (v:=.bool false) (v':=.bool (yu L)) H9 (za (by rw [hst,decide_eq_false h2];rfl)) kr
  rw [decide_eq_true h2] at hst;refine rS [.v,.l 0,.v,.E (.bool (!(((x.1.size:Nat):Int)==20))) (.bool false) (za (by rw [beq_iff_eq.2 (show ((x.1.size:Nat):Int)=20 by omega)];rfl)),.v,.l 0,.c hem,.v,.v,.v,.l 0,.v,.E (.bool (decide (((x.2.1:Nat):Int)>(left:Int)))) (.bool false) (za (decide_eq_false (by omega))),.v] H7 kr fun gs6 w7 H8=>zf kr kr<|zh kr<|wW<|zc kr ?_;by_cases h0:i=0
  ·have hup:upB (qZ L i) x.1=true:=by subst h0;rfl
   refine dS [.v,.E (.bool (decide ((i:Int)>0))) (.bool false) (za (decide_eq_false (by omega))),.v,.n,.n,.n,.n,.n,.n,.n,.n,.n,.v] H8 kr fun w8 H9=>zf kr kr<|zh kr<|wW<|rL [.v,.v,.l 0,.E (.int .u64 (IntKind.u64.wrap ((left:Int)-((x.2.1:Nat):Int)))) (.int .u64 ((left-x.2.1:Nat):Int)) (ze (by rw [IntKind.wrap_u64];omega)),.v] H9 kr fun gs8 w9 H10=>wW<|rL [.E (.int .i64 (IntKind.i64.wrap ((i:Int)+1))) (iN (i+1)) (ze (zm (a:=i) (b:=1) (by omega))),.v] H10 kr fun gs9 w10 H11=>?_;show ∃m,_∧_;exact ⟨_,(by omega),i+1,left-x.2.1,rfl,hi,(by omega),(by rw [zcy hx,hst,hup];rfl),H11.sub (List.nil_sublist _),(Is.of ⟨kr,kr,kr,kr,kr,trivial⟩)⟩
  ·obtain ⟨y,hy⟩:∃y,L[i-1]? =some y:=⟨_,List.getElem?_eq_getElem (by omega)⟩
   have hpv:qZ L i=some y.1:=by unfold qZ;rw [if_neg h0,hy];rfl
   have hcell:C[off+(i-1)*3+0]? =some (.string y.1):=hR.cell hy 0 (by decide);rw [hpv] at hst;cases hup:lexB (tl y.1) (tl x.1) with
   | false=>
    refine dS [.v,.E (.bool (decide ((i:Int)>0))) (.bool true) (za (decide_eq_true (by omega))),.v,.v,.v,.E (.int .i64 (IntKind.i64.wrap ((i:Int)-1))) (iN (i-1)) (ze (jh (a:=i) (b:=1) (by omega))),.o (ins:=[((.tmp 33),.slice p n c),((.tmp 35),iN (i-1))]) (v:=.pointer (some ⟨bl,off+(i-1)*3,none⟩)) (fun ρ o w ho hi2=>yV (kd:=.i64) (t:=22) (e:=31) (K:=3) (bytes:=32) kr (x:=(.tmp 33)) (y:=(.tmp 35)) bl off n c (i-1) hp ho hi2.1 hi2.2.1 (by omega) w),.v,.fs (off:=off+(i-1)*3+0) (v:=.string y.1) hh (zC hh) hcell,.v,.l 0,.E (.bool (!(Op.bytesLess y.1.toList x.1.toList))) (.bool true) (za (by rw [kI,hup];rfl)),.v] H8 kr fun w8 H9=>zg kr kr<|rS [.v] H9 kr fun gs8 w9 H10=>?_;exact rRe [.tmp 2] [] (v:=.bool false) (v':=.bool (yu L)) H10 (za (by rw [hst];show false=(true&&(!false&&(true&&(lexB (tl y.1) (tl x.1)&&_))));rw [hup];rfl)) kr
   | true=>
    refine dS [.v,.E (.bool (decide ((i:Int)>0))) (.bool true) (za (decide_eq_true (by omega))),.v,.v,.v,.E (.int .i64 (IntKind.i64.wrap ((i:Int)-1))) (iN (i-1)) (ze (jh (a:=i) (b:=1) (by omega))),.o (ins:=[((.tmp 33),.slice p n c),((.tmp 35),iN (i-1))]) (v:=.pointer (some ⟨bl,off+(i-1)*3,none⟩)) (fun ρ o w ho hi2=>yV (kd:=.i64) (t:=22) (e:=31) (K:=3) (bytes:=32) kr (x:=(.tmp 33)) (y:=(.tmp 35)) bl off n c (i-1) hp ho hi2.1 hi2.2.1 (by omega) w),.v,.fs (off:=off+(i-1)*3+0) (v:=.string y.1) hh (zC hh) hcell,.v,.l 0,.E (.bool (!(Op.bytesLess y.1.toList x.1.toList))) (.bool false) (za (by rw [kI,hup];rfl)),.v] H8 kr fun w8 H9=>zf kr kr<|zh kr<|wW<|rL [.v,.v,.l 0,.E (.int .u64 (IntKind.u64.wrap ((left:Int)-((x.2.1:Nat):Int)))) (.int .u64 ((left-x.2.1:Nat):Int)) (ze (by rw [IntKind.wrap_u64];omega)),.v] H9 kr fun gs8 w9 H10=>wW<|rL [.E (.int .i64 (IntKind.i64.wrap ((i:Int)+1))) (iN (i+1)) (ze (zm (a:=i) (b:=1) (by omega))),.v] H10 kr fun gs9 w10 H11=>?_;show ∃m,_∧_;exact ⟨_,(by omega),i+1,left-x.2.1,rfl,hi,(by omega),(by rw [zcy hx,hst];show (true&&(!false&&(true&&(lexB (tl y.1) (tl x.1)&&_))))=_;rw [hup];rfl),H11.sub (List.nil_sublist _),(Is.of ⟨kr,kr,kr,kr,kr,trivial⟩)⟩
 ·obtain rfl:i=n:=by omega
  refine rS [.E (.bool (decide ((i:Int)<(i:Int)))) (.bool false) (za (decide_eq_false (by omega)))] H5 kr fun gs4 w5 H6=>zc kr<|zf kr kr<|zw 0 kr<|wW<|rS [.v] H6 kr fun gs5 w6 H7=>?_;exact rRe [.tmp 2] [] (v:=.bool true) (v':=.bool (yu L)) H7 (za (by rw [hst,List.drop_of_length_le (by omega)];rfl)) kr
theorem zcB (p:Option Addr)(n c:Nat)(L:List Ac)(hL:L.length≤1000000):FnP Tryz.prog 8 #[.slice p n c] (fun w=>AtF acS w p n L) (.int .u64 ((qk L:Nat):Int)):=by
 refine FnP.intro (c:=zl Tryz.f8) [.tmp 2] 18 Tryz.func8 kr kr kr fun w hP=>?_;have hn:=hP.1;have H0:=St.start w;refine rS [.v] H0 kr fun gs1 w1 H1=>rS [.v] H1 kr fun gs2 w2 H2=>zc kr<|rS [.v,.v,.v] H2 kr fun gs3 w3 H3=>zj 0 kr ?_;have H4:St w.heap.size w w3 []:=H3.as kr;clear H0 H1 H2 H3;refine zz kr (fun mz ρ ww=> ∃(i:Nat),n-i=mz∧i≤n∧St w.heap.size w ww []∧Is [(3,.int .u64 ((qk (L.take i):Nat):Int)),(6,.slice p n c),(7,iN n),(8,iN i)] ρ) (n-0) ⟨0,rfl,Nat.zero_le _,H4,(Is.of ⟨kr,kr,kr,kr,trivial⟩)⟩ ?_;clear H4;rintro _ _ w4 ⟨i,rfl,hin,H5,_,rfl⟩;by_cases hi:i<n
 ·obtain ⟨x,hx⟩:∃x,L[i]? =some x:=⟨_,List.getElem?_eq_getElem (by omega)⟩
  obtain ⟨bl,off,C,T,fz,hp,hh,hR⟩:=hP.row (by omega);refine rS [.E (.bool (decide ((i:Int)<(n:Int)))) (.bool true) (za (decide_eq_true (by omega)))] H5 kr fun gs4 w5 H6=>zc kr<|zg kr kr<|zh kr<|wW<|zc kr<|zj 1 kr<|rS [.o (ins:=[((.tmp 6),.slice p n c),((.tmp 8),iN i)]) (v:=.pointer (some ⟨bl,off+i*3,none⟩)) (fun ρ o w ho hi2=>yV (kd:=.i64) (t:=22) (e:=31) (K:=3) (bytes:=32) kr (x:=(.tmp 6)) (y:=(.tmp 8)) bl off n c i hp ho hi2.1 hi2.2.1 (by omega) w),.fp (off:=off+i*3) (n:=3) (W:=acC x.1 x.2.1 x.2.2) hh (zC hh) (hR _ _ hx).1 (hR _ _ hx).2,.a,.s 0] H6 kr fun gs5 w6 H7=>rL [.v,.v,.l 0,.E (.int .u64 (IntKind.u64.wrap (((qk (L.take i):Nat):Int)+((x.2.1:Nat):Int)))) (.int .u64 ((qk (L.take (i+1)):Nat):Int)) (ze (by rw [xf hx,zgh,IntKind.wrap_u64];omega)),.v] H7 kr fun gs6 w7 H8=>wW<|rL [.E (.int .i64 (IntKind.i64.wrap ((i:Int)+1))) (iN (i+1)) (ze (zm (a:=i) (b:=1) (by omega))),.v] H8 kr fun gs7 w8 H9=>?_;show ∃m,_∧_;exact ⟨_,(by omega),i+1,rfl,hi,H9.sub (List.nil_sublist _),(Is.of ⟨kr,kr,kr,kr,trivial⟩)⟩
 ·obtain rfl:i=n:=by omega
  refine rS [.E (.bool (decide ((i:Int)<(i:Int)))) (.bool false) (za (decide_eq_false (by omega)))] H5 kr fun gs4 w5 H6=>zc kr<|zf kr kr<|zw 0 kr<|wW<|rS [.v,.v] H6 kr fun gs5 w6 H7=>?_;exact rRe [.tmp 2] [] (v:=.int .u64 ((qk (L.take i):Nat):Int)) (v':=.int .u64 ((qk L:Nat):Int)) H7 (by rw [List.take_of_length_le (by omega)]) kr
theorem zgu (p:Option Addr)(n c:Nat)(L:List Ac)(hL:L.length≤1000000):FnP Tryz.prog 9 #[.slice p n c] (fun w=>AtF acS w p n L) (.int .u64 ((qk L:Nat):Int)):=by
 refine FnP.intro (c:=zl Tryz.f9) [.tmp 2] 18 Tryz.func9 kr kr kr fun w hP=>?_;have hn:=hP.1;have H0:=St.start w;refine rS [.v] H0 kr fun gs1 w1 H1=>rS [.v] H1 kr fun gs2 w2 H2=>zc kr<|rS [.v,.v,.v] H2 kr fun gs3 w3 H3=>zj 0 kr ?_;have H4:St w.heap.size w w3 []:=H3.as kr;clear H0 H1 H2 H3;refine zz kr (fun mz ρ ww=> ∃(i:Nat),n-i=mz∧i≤n∧St w.heap.size w ww []∧Is [(3,.int .u64 ((qk (L.take i):Nat):Int)),(6,.slice p n c),(7,iN n),(8,iN i)] ρ) (n-0) ⟨0,rfl,Nat.zero_le _,H4,(Is.of ⟨kr,kr,kr,kr,trivial⟩)⟩ ?_;clear H4;rintro _ _ w4 ⟨i,rfl,hin,H5,_,rfl⟩;by_cases hi:i<n
 ·obtain ⟨x,hx⟩:∃x,L[i]? =some x:=⟨_,List.getElem?_eq_getElem (by omega)⟩
  obtain ⟨bl,off,C,T,fz,hp,hh,hR⟩:=hP.row (by omega);refine rS [.E (.bool (decide ((i:Int)<(n:Int)))) (.bool true) (za (decide_eq_true (by omega)))] H5 kr fun gs4 w5 H6=>zc kr<|zg kr kr<|zh kr<|wW<|zc kr<|zj 1 kr<|rS [.o (ins:=[((.tmp 6),.slice p n c),((.tmp 8),iN i)]) (v:=.pointer (some ⟨bl,off+i*3,none⟩)) (fun ρ o w ho hi2=>yV (kd:=.i64) (t:=22) (e:=31) (K:=3) (bytes:=32) kr (x:=(.tmp 6)) (y:=(.tmp 8)) bl off n c i hp ho hi2.1 hi2.2.1 (by omega) w),.fp (off:=off+i*3) (n:=3) (W:=acC x.1 x.2.1 x.2.2) hh (zC hh) (hR _ _ hx).1 (hR _ _ hx).2,.a,.s 0] H6 kr fun gs5 w6 H7=>rL [.v,.v,.l 0,.E (.int .u64 (IntKind.u64.wrap (((qk (L.take i):Nat):Int)+((x.2.1:Nat):Int)))) (.int .u64 ((qk (L.take (i+1)):Nat):Int)) (ze (by rw [xf hx,zgh,IntKind.wrap_u64];omega)),.v] H7 kr fun gs6 w7 H8=>wW<|rL [.E (.int .i64 (IntKind.i64.wrap ((i:Int)+1))) (iN (i+1)) (ze (zm (a:=i) (b:=1) (by omega))),.v] H8 kr fun gs7 w8 H9=>?_;show ∃m,_∧_;exact ⟨_,(by omega),i+1,rfl,hi,H9.sub (List.nil_sublist _),(Is.of ⟨kr,kr,kr,kr,trivial⟩)⟩
 ·obtain rfl:i=n:=by omega
  refine rS [.E (.bool (decide ((i:Int)<(i:Int)))) (.bool false) (za (decide_eq_false (by omega)))] H5 kr fun gs4 w5 H6=>zc kr<|zf kr kr<|zw 0 kr<|wW<|rS [.v,.v] H6 kr fun gs5 w6 H7=>?_;exact rRe [.tmp 2] [] (v:=.int .u64 ((qk (L.take i):Nat):Int)) (v':=.int .u64 ((qk L:Nat):Int)) H7 (by rw [List.take_of_length_le (by omega)]) kr
theorem zlU (x y:ByteArray):(x.toList==y.toList)=decide (x=y):=by
 by_cases h:x=y
 ·rw [kx x y h,decide_eq_true h]
 ·rw [jV x y h,decide_eq_false h]
abbrev adO (a:ByteArray):Obj:=.cells #[.string a] 9 (0,0)
theorem zlV (x:Ac)(b3:Nat)(addr:ByteArray):FnP Tryz.prog 21 #[acV x.1 x.2.1 x.2.2,.pointer (some ⟨b3,0,none⟩)] (fun w=>w.heap[b3]? =some (adO addr)) (.bool (decide (x.1=addr))):=by
 refine FnP.intro (c:=zl Tryz.f21) [.tmp 3] 8 Tryz.func21 kr kr kr fun w hh=>rS [.b,.v] (St.start w) kr fun gs1 w1 H1=>rS [.v,.l 0,.fs (off:=0) (v:=.string addr) hh (zC hh) rfl,.E (.bool (x.1.toList==addr.toList)) (.bool (decide (x.1=addr))) (za (zlU _ _)),.v] H1 kr fun gs2 w2 H2=>?_;exact rR [.tmp 3] [] (.bool (decide (x.1=addr))) H2 kr
theorem zlW (p:Option Addr)(n c:Nat)(L:List Ac)(hL:L.length≤1000000)(b3:Nat)(addr:ByteArray):FnP Tryz.prog 20 #[.slice p n c,.func (.func 21) #[] #[.pointer (some ⟨b3,0,none⟩)]] (fun w=>AtF acS w p n L∧w.heap[b3]? =some (adO addr)) (.int .i64 (atA addr 0 L)):=by
 refine FnP.intro (c:=zl Tryz.f20) [.tmp 4] 19 Tryz.func20 kr kr kr fun w hP=>?_;obtain ⟨hP,hh3⟩:=hP;have hn:=hP.1;have H0:=St.start w;refine rS [.v] H0 kr fun gs1 w1 H1=>zc kr<|rS [.v,.v,.v] H1 kr fun gs3 w3 H3=>zj 0 kr ?_;have H4:St w.heap.size w w3 []:=H3.as kr;clear H0 H1 H3;refine zz kr (fun mz ρ ww=> ∃(i:Nat),n-i=mz∧i≤n∧atA addr 0 L=atA addr i (L.drop i)∧St w.heap.size w ww []∧Is [(0,.slice p n c),(1,.func (.func 21) #[] #[.pointer (some ⟨b3,0,none⟩)]),(6,.slice p n c),(7,iN n),(8,iN i)] ρ) (n-0) ⟨0,rfl,Nat.zero_le _,rfl,H4,(Is.of ⟨kr,kr,kr,kr,kr,trivial⟩)⟩ ?_;clear H4;rintro _ _ w4 ⟨i,rfl,hin,hst,H5,_,rfl⟩;by_cases hi:i<n
 ·obtain ⟨x,hx⟩:∃x,L[i]? =some x:=⟨_,List.getElem?_eq_getElem (by omega)⟩
  obtain ⟨bl,off,C,T,fz,hp,hh,hR⟩:=hP.row (by omega);rw [vA hx] at hst;change atA addr 0 L=(if x.1=addr then (i:Int) else atA addr (i+1) (L.drop (i+1))) at hst;refine rS [.E (.bool (decide ((i:Int)<(n:Int)))) (.bool true) (za (decide_eq_true (by omega)))] H5 kr fun gs4 w5 H6=>zc kr<|zg kr kr<|zh kr<|wW<|zc kr<|zj 1 kr<|rS [.v,.v] H6 kr fun gs5 w6 H7=>?_;have hof:=zlV x b3 addr;by_cases he:x.1=addr
  ·rw [decide_eq_true he] at hof;refine rS [.v,.v,.v,.o (ins:=[((.tmp 12),.slice p n c),((.tmp 13),iN i)]) (v:=.pointer (some ⟨bl,off+i*3,none⟩)) (fun ρ o w ho hi2=>yV (kd:=.i64) (t:=22) (e:=31) (K:=3) (bytes:=32) kr (x:=(.tmp 12)) (y:=(.tmp 13)) bl off n c i hp ho hi2.1 hi2.2.1 (by omega) w),.fp (off:=off+i*3) (n:=3) (W:=acC x.1 x.2.1 x.2.2) hh (zC hh) (hR _ _ hx).1 (hR _ _ hx).2,.cp (pre:=fun w=>w.heap[b3]? =some (adO addr)) hof [] (fun w hb hd=>vr hh3 hb)] H7 kr fun gs6 w7 H8=>zg kr kr<|rS [.v,.v] H8 kr fun gs7 w8 H9=>?_;exact rRe [.tmp 4] [] (v:=iN i) (v':=.int .i64 (atA addr 0 L)) H9 (ze (by rw [hst,if_pos he])) kr
  ·rw [decide_eq_false he] at hof;refine rS [.v,.v,.v,.o (ins:=[((.tmp 12),.slice p n c),((.tmp 13),iN i)]) (v:=.pointer (some ⟨bl,off+i*3,none⟩)) (fun ρ o w ho hi2=>yV (kd:=.i64) (t:=22) (e:=31) (K:=3) (bytes:=32) kr (x:=(.tmp 12)) (y:=(.tmp 13)) bl off n c i hp ho hi2.1 hi2.2.1 (by omega) w),.fp (off:=off+i*3) (n:=3) (W:=acC x.1 x.2.1 x.2.2) hh (zC hh) (hR _ _ hx).1 (hR _ _ hx).2,.cp (pre:=fun w=>w.heap[b3]? =some (adO addr)) hof [] (fun w hb hd=>vr hh3 hb)] H7 kr fun gs6 w7 H8=>zf kr kr<|zh kr<|wW<|rL [.E (.int .i64 (IntKind.i64.wrap ((i:Int)+1))) (iN (i+1)) (ze (zm (a:=i) (b:=1) (by omega))),.v] H8 kr fun gs7 w8 H9=>?_;show ∃m,_∧_;exact ⟨_,(by omega),i+1,rfl,hi,(by rw [hst,if_neg he]),H9.as kr,(Is.of ⟨kr,kr,kr,kr,kr,trivial⟩)⟩
 ·obtain rfl:i=n:=by omega
  refine rS [.E (.bool (decide ((i:Int)<(i:Int)))) (.bool false) (za (decide_eq_false (by omega)))] H5 kr fun gs4 w5 H6=>zc kr<|zf kr kr<|zw 0 kr<|wW<|rS [.v] H6 kr fun gs5 w6 H7=>?_;exact rRe [.tmp 4] [] (v:=.int .i64 (-1)) (v':=.int .i64 (atA addr 0 L)) H7 (ze (by rw [hst,List.drop_of_length_le (by omega)];rfl)) kr
abbrev ofV (addr:ByteArray)(L:List Ac):Value:=acV (ofA addr L).1 (ofA addr L).2.1 (ofA addr L).2.2
theorem zcC (p:Option Addr)(n c:Nat)(L:List Ac)(hL:L.length≤1000000)(addr:ByteArray)(ha:addr.size≤1000000):FnP Tryz.prog 10 #[.slice p n c,.string addr] (fun w=>AtF acS w p n L) (ofV addr L):=by
 refine FnP.intro (c:=zl Tryz.f10) [.cell 4 31] 20 Tryz.func10 kr kr kr fun w hP=>?_;have hn:=hP.1;refine rS [.b,.a] (St.start w) kr fun gs1 w1 H1=>rS [.a] H1 kr fun gs2 w2 H2=>zc kr<|rS [.v,.v,.cp (zlW p n c L hL (gs1 0).b addr) [(0,((gs1 0).b,adO addr))] (fun w hb hd=>⟨hP.call hb,hd.1⟩),.v] H2 kr fun gs3 w3 H3=>?_;rcases zgi addr L 0 with ⟨h1,h2⟩ | ⟨k,x,h1,h2,h3,h4⟩
 ·refine zZ 6 (v:=.int .i64 (atA addr 0 L)) (v':=.int .i64 (-1)) (ze h1) kr<|rS [.v,.v] H3 kr fun gs4 w4 H4=>zf kr kr<|zh kr<|wW<|rS [.l 0,.c (vp addr ha),.v,.s 2] H4 kr fun gs5 w5 H5=>rS [.l 2,.s 1] H5 kr fun gs6 w6 H6=>?_;exact rRe [.cell 4 31] [1] (v:=acV addr 0 0) (v':=ofV addr L) H6 (by show _=acV (ofA addr L).1 (ofA addr L).2.1 (ofA addr L).2.2;rw [h2]) kr
 ·have hk:k<n:=by have:=(List.getElem?_eq_some_iff.1 h2).1;omega
  obtain ⟨bl,off,C,T,fz,hp,hh,hR⟩:=hP.row (by omega);refine zZ 6 (v:=.int .i64 (atA addr 0 L)) (v':=iN k) (ze (by rw [h1,Nat.zero_add])) kr<|rS [.v,.E (.bool (decide ((k:Int)≥0))) (.bool true) (za (decide_eq_true (by omega)))] H3 kr fun gs4 w4 H4=>zg kr kr<|rL [.v,.v,.o (ins:=[((.tmp 12),.slice p n c),((.tmp 13),iN k)]) (v:=.pointer (some ⟨bl,off+k*3,none⟩)) (fun ρ o w ho hi2=>yV (kd:=.i64) (t:=22) (e:=31) (K:=3) (bytes:=32) kr (x:=(.tmp 12)) (y:=(.tmp 13)) bl off n c k hp ho hi2.1 hi2.2.1 (by omega) w),.fp (off:=off+k*3) (n:=3) (W:=acC x.1 x.2.1 x.2.2) hh (zC hh) (hR _ _ h2).1 (hR _ _ h2).2,.s 2] H4 kr fun gs5 w5 H5=>wW<|rS [.l 0,.c (vp addr ha),.v,.s 2] H5 kr fun gs6 w6 H6=>rS [.l 2,.s 1] H6 kr fun gs7 w7 H7=>?_;exact rRe [.cell 4 31] [1] (v:=acV addr x.2.1 x.2.2) (v':=ofV addr L) H7 (by show _=acV (ofA addr L).1 (ofA addr L).2.1 (ofA addr L).2.2;rw [h4,h3]) kr
theorem zgv (p:Option Addr)(n c:Nat)(L:List Ac)(hL:L.length≤1000000)(addr:ByteArray):FnP Tryz.prog 11 #[.slice p n c,.string addr] (fun w=>AtF acS w p n L) (ofV addr L):=by
 refine FnP.intro (c:=zl Tryz.f11) [.cell 4 31] 21 Tryz.func11 kr kr kr fun w hP=>?_;have hn:=hP.1;have H0:=St.start w;refine rS [.a] H0 kr fun gs1 w1 H1=>zc kr<|rS [.v,.v,.v] H1 kr fun gs3 w3 H3=>zj 0 kr ?_;have H4:St w.heap.size w w3 [((gs1 0).b,qb (em,0,0))]:=H3.as kr;clear H0 H1 H3;refine zz kr (fun mz ρ ww=> ∃(i:Nat),n-i=mz∧i≤n∧ofA addr L=ofA addr (L.drop i)∧St w.heap.size w ww [((gs1 0).b,qb (em,0,0))]∧Is [(1,.string addr),(4,.pointer (some ⟨(gs1 0).b,0,none⟩)),(7,.slice p n c),(8,iN n),(9,iN i)] ρ) (n-0) ⟨0,rfl,Nat.zero_le _,rfl,H4,(Is.of ⟨kr,kr,kr,kr,kr,trivial⟩)⟩ ?_;clear H4;rintro _ _ w4 ⟨i,rfl,hin,hst,H5,_,rfl⟩;by_cases hi:i<n
 ·obtain ⟨x,hx⟩:∃x,L[i]? =some x:=⟨_,List.getElem?_eq_getElem (by omega)⟩
  obtain ⟨bl,off,C,T,fz,hp,hh,hR⟩:=hP.row (by omega);rw [vA hx] at hst;change ofA addr L=(if x.1=addr then x else ofA addr (L.drop (i+1))) at hst;refine rS [.E (.bool (decide ((i:Int)<(n:Int)))) (.bool true) (za (decide_eq_true (by omega)))] H5 kr fun gs4 w5 H6=>zc kr<|zg kr kr<|zh kr<|wW<|zc kr<|zj 1 kr<|rS [.o (ins:=[((.tmp 7),.slice p n c),((.tmp 9),iN i)]) (v:=.pointer (some ⟨bl,off+i*3,none⟩)) (fun ρ o w ho hi2=>yV (kd:=.i64) (t:=22) (e:=31) (K:=3) (bytes:=32) kr (x:=(.tmp 7)) (y:=(.tmp 9)) bl off n c i hp ho hi2.1 hi2.2.1 (by omega) w),.fp (off:=off+i*3) (n:=3) (W:=acC x.1 x.2.1 x.2.2) hh (zC hh) (hR _ _ hx).1 (hR _ _ hx).2,.a,.s 1] H6 kr fun gs5 w6 H7=>?_;by_cases he:x.1=addr
  ·refine rS [.v,.l 1,.v,.E (.bool (x.1.toList==addr.toList)) (.bool true) (za (by rw [kx _ _ he]))] H7 kr fun gs6 w7 H8=>zg kr kr<|rS [.l 1,.s 0] H8 kr fun gs7 w8 H9=>?_;exact rRe [.cell 4 31] [0] (v:=acV x.1 x.2.1 x.2.2) (v':=ofV addr L) H9 (by show _=acV (ofA addr L).1 (ofA addr L).2.1 (ofA addr L).2.2;rw [hst,if_pos he]) kr
  ·refine rS [.v,.l 1,.v,.E (.bool (x.1.toList==addr.toList)) (.bool false) (za (by rw [jV _ _ he]))] H7 kr fun gs6 w7 H8=>zf kr kr<|zh kr<|wW<|rL [.E (.int .i64 (IntKind.i64.wrap ((i:Int)+1))) (iN (i+1)) (ze (zm (a:=i) (b:=1) (by omega))),.v] H8 kr fun gs7 w8 H9=>?_;show ∃m,_∧_;exact ⟨_,(by omega),i+1,rfl,hi,(by rw [hst,if_neg he]),(H9.as (l:=[((gs1 0).b,qb (em,0,0)),((gs5 2).b,qb x)]) kr).sub (List.sublist_append_left [_] [_]),(Is.of ⟨kr,kr,kr,kr,kr,trivial⟩)⟩
 ·obtain rfl:i=n:=by omega
  refine rS [.E (.bool (decide ((i:Int)<(i:Int)))) (.bool false) (za (decide_eq_false (by omega)))] H5 kr fun gs4 w5 H6=>zc kr<|zf kr kr<|zw 0 kr<|wW<|rS [.v,.v,.s 0] H6 kr fun gs5 w6 H7=>?_;exact rRe [.cell 4 31] [0] (v:=acV addr 0 0) (v':=ofV addr L) H7 (by show _=acV (ofA addr L).1 (ofA addr L).2.1 (ofA addr L).2.2;rw [hst,List.drop_of_length_le (by omega)];rfl) kr
theorem zaK (x y:ByteArray):(Op.bytesLess x.toList y.toList||(x.toList==y.toList))= !(lexB (tl y) (tl x)):=by
 rw [kI];by_cases h:x=y
 ·subst h;rw [vg,ur];rfl
 ·rw [jV x y h,Bool.or_false];have hne:tl x≠tl y:=fun e=>h (jv e);cases h1:lexB (tl x) (tl y) with
  | true=>
   cases h2:lexB (tl y) (tl x) with
   | false=>rfl
   | true=>have:=zav h1 h2;rw [ur] at this;cases this
  | false=>rw [zcp h1 hne];rfl
theorem zgw (p:Option Addr)(n c:Nat)(L:List Ac)(hL:L.length≤1000000):FnP Tryz.prog 7 #[.slice p n c] (fun w=>AtF acS w p n L) (.bool (yu L)):=by
 refine FnP.intro (c:=zl Tryz.f7) [.tmp 2] 55 Tryz.func7 kr kr kr fun w hP=>?_;have hn:=hP.1;have H0:=St.start w;refine rS [.v] H0 kr fun gs1 w1 H1=>zc kr ?_;by_cases hl:24<n
 ·refine rS [.v,.v,.E (.bool (decide ((n:Int)>24))) (.bool true) (za (decide_eq_true (by omega)))] H1 kr fun gs2 w2 H2=>zg kr kr<|rS [.v] H2 kr fun gs3 w3 H3=>?_;exact rRe [.tmp 2] [] (v:=.bool false) (v':=.bool (yu L)) H3 (za (by unfold yu;rw [decide_eq_false (by omega)];rfl)) kr
 have hr0:yu L=xh none 0x4000000000000000 L:=by unfold yu;rw [decide_eq_true (by omega)];rfl
 refine rS [.v,.v,.E (.bool (decide ((n:Int)>24))) (.bool false) (za (decide_eq_false (by omega)))] H1 kr fun gs2 w2 H2=>zf kr kr<|zh kr<|wW<|rS [.v] H2 kr fun gs3 w3 H3=>zc kr<|rS [.v,.v,.v] H3 kr fun gs4 w4 H4=>zj 0 kr ?_;have H5:St w.heap.size w w4 []:=H4.as kr;clear H0 H1 H2 H3 H4;refine zz kr (fun mz ρ ww=> ∃(i sum:Nat),n-i=mz∧i≤n∧sum≤0x4000000000000000∧yu L=xh (qZ L i) (0x4000000000000000-sum) (L.drop i)∧St w.heap.size w ww []∧Is [(0,.slice p n c),(3,.int .u64 (sum:Int)),(9,.slice p n c),(10,iN n),(11,iN i)] ρ) (n-0) ⟨0,0,rfl,Nat.zero_le _,Nat.zero_le _,hr0,H5,(Is.of ⟨kr,kr,kr,kr,kr,trivial⟩)⟩ ?_;clear H5;rintro _ _ w4 ⟨i,sum,rfl,hin,hlf,hst,H5,_,rfl⟩;by_cases hi:i<n
 ·obtain ⟨x,hx⟩:∃x,L[i]? =some x:=⟨_,List.getElem?_eq_getElem (by omega)⟩
  obtain ⟨bl,off,C,T,fz,hp,hh,hR⟩:=hP.row (by omega);rw [vA hx] at hst;change yu L=(decide (x.1.size=20)&&(!(decide (x.2.1=0)&&decide (x.2.2=0))&&(decide (x.2.1≤0x4000000000000000-sum)&&(upB (qZ L i) x.1&&xh (some x.1) (0x4000000000000000-sum-x.2.1) (L.drop (i+1)))))) at hst;refine rS [.E (.bool (decide ((i:Int)<(n:Int)))) (.bool true) (za (decide_eq_true (by omega)))] H5 kr fun gs4 w5 H6=>zc kr<|zg kr kr<|zh kr<|wW<|zc kr<|zj 1 kr<|rS [.v,.o (ins:=[((.tmp 9),.slice p n c),((.tmp 11),iN i)]) (v:=.pointer (some ⟨bl,off+i*3,none⟩)) (fun ρ o w ho hi2=>yV (kd:=.i64) (t:=22) (e:=31) (K:=3) (bytes:=32) kr (x:=(.tmp 9)) (y:=(.tmp 11)) bl off n c i hp ho hi2.1 hi2.2.1 (by omega) w),.fp (off:=off+i*3) (n:=3) (W:=acC x.1 x.2.1 x.2.2) hh (zC hh) (hR _ _ hx).1 (hR _ _ hx).2,.a,.v,.s 0] H6 kr fun gs5 w6 H7=>zc kr<|zc kr<|jc (Q:=fun e ρ ww=>e=.normal∧St w.heap.size w ww [((gs5 3).b,qb x)]∧Is [(0,.slice p n c),(3,.int .u64 (sum:Int)),(5,.pointer (some ⟨(gs5 3).b,0,none⟩)),(9,.slice p n c),(10,iN n),(11,iN i),(44,.bool (!(decide (x.1.size=20)&&(!(decide (x.2.1=0)&&decide (x.2.2=0))&&upB (qZ L i) x.1))))] ρ) ?_ ?_
  ·by_cases h1:x.1.size=20
   case neg=>
    rw [decide_eq_false h1];refine dL [.v,.l 0,.v,.E (.bool (!(((x.1.size:Nat):Int)==20))) (.bool true) (za (by rw [beq_eq_false_iff_ne.2 (by omega)];rfl)),.v,.n,.n,.n,.n,.n,.n,.n,.n,.n,.n,.n,.n,.n,.v,.v,.n,.n,.n,.n,.n,.n,.n,.n,.v] H7 kr fun w8 H8=>?_;exact ⟨rfl,H8.as kr,Is.of ⟨kr,kr,kr,kr,kr,kr,kr,trivial⟩⟩
   rw [decide_eq_true h1];by_cases h0:i=0
   ·rw [show upB (qZ L i) x.1=true by subst h0;rfl];by_cases hb:x.2.1=0
    ·rw [decide_eq_true hb];by_cases hn0:x.2.2=0
     ·rw [decide_eq_true hn0];refine dL [.v,.l 0,.v,.E (.bool (!(((x.1.size:Nat):Int)==20))) (.bool false) (za (by rw [beq_iff_eq.2 (show ((x.1.size:Nat):Int)=20 by omega)];rfl)),.v,.v,.E (.bool (decide ((i:Int)>0))) (.bool false) (za (decide_eq_false (by omega))),.v,.n,.n,.n,.n,.n,.n,.n,.n,.n,.v,.v,.v,.v,.l 0,.E (.bool (((x.2.1:Nat):Int)==0)) (.bool true) (za (beq_iff_eq.2 (by omega))),.v,.v,.l 0,.E (.bool (((x.2.2:Nat):Int)==0)) (.bool true) (za (beq_iff_eq.2 (by omega))),.v,.v] H7 kr fun w8 H8=>?_;exact ⟨rfl,H8.as kr,Is.of ⟨kr,kr,kr,kr,kr,kr,kr,trivial⟩⟩
     ·rw [decide_eq_false hn0];refine dL [.v,.l 0,.v,.E (.bool (!(((x.1.size:Nat):Int)==20))) (.bool false) (za (by rw [beq_iff_eq.2 (show ((x.1.size:Nat):Int)=20 by omega)];rfl)),.v,.v,.E (.bool (decide ((i:Int)>0))) (.bool false) (za (decide_eq_false (by omega))),.v,.n,.n,.n,.n,.n,.n,.n,.n,.n,.v,.v,.v,.v,.l 0,.E (.bool (((x.2.1:Nat):Int)==0)) (.bool true) (za (beq_iff_eq.2 (by omega))),.v,.v,.l 0,.E (.bool (((x.2.2:Nat):Int)==0)) (.bool false) (za (beq_eq_false_iff_ne.2 (by omega))),.v,.v] H7 kr fun w8 H8=>?_;exact ⟨rfl,H8.as kr,Is.of ⟨kr,kr,kr,kr,kr,kr,kr,trivial⟩⟩
    ·rw [decide_eq_false hb];refine dL [.v,.l 0,.v,.E (.bool (!(((x.1.size:Nat):Int)==20))) (.bool false) (za (by rw [beq_iff_eq.2 (show ((x.1.size:Nat):Int)=20 by omega)];rfl)),.v,.v,.E (.bool (decide ((i:Int)>0))) (.bool false) (za (decide_eq_false (by omega))),.v,.n,.n,.n,.n,.n,.n,.n,.n,.n,.v,.v,.v,.v,.l 0,.E (.bool (((x.2.1:Nat):Int)==0)) (.bool false) (za (beq_eq_false_iff_ne.2 (by omega))),.v,.n,.n,.n,.v,.v] H7 kr fun w8 H8=>?_;exact ⟨rfl,H8.as kr,Is.of ⟨kr,kr,kr,kr,kr,kr,kr,trivial⟩⟩
   ·obtain ⟨y,hy⟩:∃y,L[i-1]? =some y:=⟨_,List.getElem?_eq_getElem (by omega)⟩
    have hcell:C[off+(i-1)*3+0]? =some (.string y.1):=hR.cell hy 0 (by decide);have hpv:upB (qZ L i) x.1=lexB (tl y.1) (tl x.1):=by unfold qZ;rw [if_neg h0,hy];rfl
    rw [hpv];cases hup:lexB (tl y.1) (tl x.1) with
    | false=>
     rw [Bool.and_false,Bool.and_false];refine dL [.v,.l 0,.v,.E (.bool (!(((x.1.size:Nat):Int)==20))) (.bool false) (za (by rw [beq_iff_eq.2 (show ((x.1.size:Nat):Int)=20 by omega)];rfl)),.v,.v,.E (.bool (decide ((i:Int)>0))) (.bool true) (za (decide_eq_true (by omega))),.v,.v,.l 0,.v,.v,.E (.int .i64 (IntKind.i64.wrap ((i:Int)-1))) (iN (i-1)) (ze (jh (a:=i) (b:=1) (by omega))),.o (ins:=[((.tmp 26),.slice p n c),((.tmp 28),iN (i-1))]) (v:=.pointer (some ⟨bl,off+(i-1)*3,none⟩)) (fun ρ o w ho hi2=>yV (kd:=.i64) (t:=22) (e:=31) (K:=3) (bytes:=32) kr (x:=(.tmp 26)) (y:=(.tmp 28)) bl off n c (i-1) hp ho hi2.1 hi2.2.1 (by omega) w),.v,.fs (off:=off+(i-1)*3+0) (v:=.string y.1) hh (zC hh) hcell,.E (.bool (Op.bytesLess x.1.toList y.1.toList||(x.1.toList==y.1.toList))) (.bool true) (za (by rw [zaK,hup];rfl)),.v,.v,.v,.n,.n,.n,.n,.n,.n,.n,.n,.v] H7 kr fun w8 H8=>?_;exact ⟨rfl,H8.as kr,Is.of ⟨kr,kr,kr,kr,kr,kr,kr,trivial⟩⟩
    | true=>
     by_cases hb:x.2.1=0
     ·rw [decide_eq_true hb];by_cases hn0:x.2.2=0
      ·rw [decide_eq_true hn0];refine dL [.v,.l 0,.v,.E (.bool (!(((x.1.size:Nat):Int)==20))) (.bool false) (za (by rw [beq_iff_eq.2 (show ((x.1.size:Nat):Int)=20 by omega)];rfl)),.v,.v,.E (.bool (decide ((i:Int)>0))) (.bool true) (za (decide_eq_true (by omega))),.v,.v,.l 0,.v,.v,.E (.int .i64 (IntKind.i64.wrap ((i:Int)-1))) (iN (i-1)) (ze (jh (a:=i) (b:=1) (by omega))),.o (ins:=[((.tmp 26),.slice p n c),((.tmp 28),iN (i-1))]) (v:=.pointer (some ⟨bl,off+(i-1)*3,none⟩)) (fun ρ o w ho hi2=>yV (kd:=.i64) (t:=22) (e:=31) (K:=3) (bytes:=32) kr (x:=(.tmp 26)) (y:=(.tmp 28)) bl off n c (i-1) hp ho hi2.1 hi2.2.1 (by omega) w),.v,.fs (off:=off+(i-1)*3+0) (v:=.string y.1) hh (zC hh) hcell,.E (.bool (Op.bytesLess x.1.toList y.1.toList||(x.1.toList==y.1.toList))) (.bool false) (za (by rw [zaK,hup];rfl)),.v,.v,.v,.v,.l 0,.E (.bool (((x.2.1:Nat):Int)==0)) (.bool true) (za (beq_iff_eq.2 (by omega))),.v,.v,.l 0,.E (.bool (((x.2.2:Nat):Int)==0)) (.bool true) (za (beq_iff_eq.2 (by omega))),.v,.v] H7 kr fun w8 H8=>?_;exact ⟨rfl,H8.as kr,Is.of ⟨kr,kr,kr,kr,kr,kr,kr,trivial⟩⟩
      ·rw [decide_eq_false hn0];refine dL [.v,.l 0,.v,.E (.bool (!(((x.1.size:Nat):Int)==20))) (.bool false) (za (by rw [beq_iff_eq.2 (show ((x.1.size:Nat):Int)=20 by omega)];rfl)),.v,.v,.E (.bool (decide ((i:Int)>0))) (.bool true) (za (decide_eq_true (by omega))),.v,.v,.l 0,.v,.v,.E (.int .i64 (IntKind.i64.wrap ((i:Int)-1))) (iN (i-1)) (ze (jh (a:=i) (b:=1) (by omega))),.o (ins:=[((.tmp 26),.slice p n c),((.tmp 28),iN (i-1))]) (v:=.pointer (some ⟨bl,off+(i-1)*3,none⟩)) (fun ρ o w ho hi2=>yV (kd:=.i64) (t:=22) (e:=31) (K:=3) (bytes:=32) kr (x:=(.tmp 26)) (y:=(.tmp 28)) bl off n c (i-1) hp ho hi2.1 hi2.2.1 (by omega) w),.v,.fs (off:=off+(i-1)*3+0) (v:=.string y.1) hh (zC hh) hcell,.E (.bool (Op.bytesLess x.1.toList y.1.toList||(x.1.toList==y.1.toList))) (.bool false) (za (by rw [zaK,hup];rfl)),.v,.v,.v,.v,.l 0,.E (.bool (((x.2.1:Nat):Int)==0)) (.bool true) (za (beq_iff_eq.2 (by omega))),.v,.v,.l 0,.E (.bool (((x.2.2:Nat):Int)==0)) (.bool false) (za (beq_eq_false_iff_ne.2 (by omega))),.v,.v] H7 kr fun w8 H8=>?_;exact ⟨rfl,H8.as kr,Is.of ⟨kr,kr,kr,kr,kr,kr,kr,trivial⟩⟩
     ·rw [decide_eq_false hb];refine dL [.v,.l 0,.v,.E (.bool (!(((x.1.size:Nat):Int)==20))) (.bool false) (za (by rw [beq_iff_eq.2 (show ((x.1.size:Nat):Int)=20 by omega)];rfl)),.v,.v,.E (.bool (decide ((i:Int)>0))) (.bool true) (za (decide_eq_true (by omega))),.v,.v,.l 0,.v,.v,.E (.int .i64 (IntKind.i64.wrap ((i:Int)-1))) (iN (i-1)) (ze (jh (a:=i) (b:=1) (by omega))),.o (ins:=[((.tmp 26),.slice p n c),((.tmp 28),iN (i-1))]) (v:=.pointer (some ⟨bl,off+(i-1)*3,none⟩)) (fun ρ o w ho hi2=>yV (kd:=.i64) (t:=22) (e:=31) (K:=3) (bytes:=32) kr (x:=(.tmp 26)) (y:=(.tmp 28)) bl off n c (i-1) hp ho hi2.1 hi2.2.1 (by omega) w),.v,.fs (off:=off+(i-1)*3+0) (v:=.string y.1) hh (zC hh) hcell,.E (.bool (Op.bytesLess x.1.toList y.1.toList||(x.1.toList==y.1.toList))) (.bool false) (za (by rw [zaK,hup];rfl)),.v,.v,.v,.v,.l 0,.E (.bool (((x.2.1:Nat):Int)==0)) (.bool false) (za (beq_eq_false_iff_ne.2 (by omega))),.v,.n,.n,.n,.v,.v] H7 kr fun w8 H8=>?_;exact ⟨rfl,H8.as kr,Is.of ⟨kr,kr,kr,kr,kr,kr,kr,trivial⟩⟩
  clear H5 H6 H7;rintro _ _ w7 ⟨rfl,H8,_,rfl⟩;refine wW ?_;generalize hg1:decide (x.1.size=20)=g1 at*;generalize hg2:(!(decide (x.2.1=0)&&decide (x.2.2=0)))=g2 at*;generalize hg3:upB (qZ L i) x.1=g3 at*;by_cases hbad:(g1&&(g2&&g3))=true
  case neg=>
   have hb2:(!(g1&&(g2&&g3)))=true:=by exact Bool.not_eq_true' _▸(Bool.eq_false_iff.2 hbad)
   refine zZ 44 (v':=.bool true) (za hb2) kr<|zg kr kr<|rS [.v] H8 kr fun gs7 w8 H9=>?_;exact rRe [.tmp 2] [] (v:=.bool false) (v':=.bool (yu L)) H9 (za (by rw [hst];revert hb2;cases g1<;>cases g2<;>cases g3<;>simp)) kr
  obtain ⟨rfl,rfl,rfl⟩:g1=true∧g2=true∧g3=true:=by simpa using hbad
  refine zf kr kr<|zh kr<|wW<|zc kr ?_;by_cases h2:x.2.1≤0x4000000000000000
  case neg=>
   refine rS [.v,.l 0,.E (.bool (decide (((x.2.1:Nat):Int)>0x4000000000000000))) (.bool true) (za (decide_eq_true (by omega)))] H8 kr fun gs6 w8 H9=>zg kr kr<|rS [.v] H9 kr fun gs7 w9 H10=>?_;exact rRe [.tmp 2] [] (v:=.bool false) (v':=.bool (yu L)) H10 (za (by rw [hst,decide_eq_false (by omega)];rfl)) kr
  refine rS [.v,.l 0,.E (.bool (decide (((x.2.1:Nat):Int)>0x4000000000000000))) (.bool false) (za (decide_eq_false (by omega)))] H8 kr fun gs6 w8 H9=>zf kr kr<|zh kr<|wW<|rS [.v,.v,.l 0,.E (.int .u64 (IntKind.u64.wrap ((sum:Int)+((x.2.1:Nat):Int)))) (.int .u64 ((sum+x.2.1:Nat):Int)) (ze (by rw [IntKind.wrap_u64];omega)),.v] H9 kr fun gs8 w9 H10=>?_;by_cases h3:sum+x.2.1≤0x4000000000000000
  case neg=>
   refine rS [.v,.E (.bool (decide (((sum+x.2.1:Nat):Int)>0x4000000000000000))) (.bool true) (za (decide_eq_true (by omega)))] H10 kr fun gs9 w10 H11=>zg kr kr<|rS [.v] H11 kr fun gs7 w11 H12=>?_;exact rRe [.tmp 2] [] (v:=.bool false) (v':=.bool (yu L)) H12 (za (by rw [hst,decide_eq_false (by omega)];rfl)) kr
  refine rS [.v,.E (.bool (decide (((sum+x.2.1:Nat):Int)>0x4000000000000000))) (.bool false) (za (decide_eq_false (by omega)))] H10 kr fun gs9 w10 H11=>zf kr kr<|zh kr<|wW<|rL [.E (.int .i64 (IntKind.i64.wrap ((i:Int)+1))) (iN (i+1)) (ze (zm (a:=i) (b:=1) (by omega))),.v] H11 kr fun gs9 w10 H12=>?_;show ∃m,_∧_;exact ⟨_,(by omega),i+1,sum+x.2.1,rfl,hi,h3,(by rw [zcy hx,hst,decide_eq_true (show x.2.1≤0x4000000000000000-sum by omega),Nat.sub_sub];rfl),H12.sub (List.nil_sublist _),(Is.of ⟨kr,kr,kr,kr,kr,trivial⟩)⟩
 ·obtain rfl:i=n:=by omega
  refine rS [.E (.bool (decide ((i:Int)<(i:Int)))) (.bool false) (za (decide_eq_false (by omega)))] H5 kr fun gs4 w5 H6=>zc kr<|zf kr kr<|zw 0 kr<|wW<|rS [.v] H6 kr fun gs5 w6 H7=>?_;exact rRe [.tmp 2] [] (v:=.bool true) (v':=.bool (yu L)) H7 (za (by rw [hst,List.drop_of_length_le (by omega)];rfl)) kr
theorem zlX {α:Type}{S:Fl α}{P:Program}{ρ:Env}{w w0:World}{B:Nat}{l:List (Nat×Obj)}(HS:St B w0 w l){t e bytes:Nat}{s x:Operand}{o:Oper}{j b n cap m c:Nat}{p:Option Addr}{cur:Array Value}{xs:List Value}{M:List α}(ht:ye P t=some (e,S.K,bytes))(ho:o.op=yn t s x)
 (hs:ev ρ s=.slice (some ⟨b,0,none⟩) n cap) (hj:l[j]? =some (b,.cells cur e (0,0))) (hr:Rw S.K cur cap n xs) (hx:ev ρ x=.slice p m c) (hA:AtF S w p m M) (hp:jW p m c)
 (hb:(n+m)*bytes≤0x800000000000) (hm:n+m≤maxLen):∃b' cap' cur' w',(execOp (ev ρ) o).run P w=.ok (.value (.slice (some ⟨b',0,none⟩) (n+m) cap')) w'∧St B w0 w' (l.set j (b',.cells cur' e (0,0)))∧Rw S.K cur' cap' (n+m) (xs++cellsF S M):=by
 rcases hp with ⟨rfl,rfl,rfl⟩|⟨⟨a,rfl⟩,_⟩
 ·obtain ⟨it,z,hu,hi,hz,hsz,hby,hzs,hz0⟩:=yY ht;obtain rfl:M=[]:=List.length_eq_zero_iff.1 hA.1.symm;have hrun:=run_append_nothing (P:=P) w t t o.type e it hu hi (some ⟨b,0,none⟩) n cap hr.le (.slice none 0 0) ⟨.inl ⟨e,hu⟩,fun w'=>by simp [Builtin.lenOf],by simp [Builtin.firstCells],by simp [Builtin.firstCells],by simp,(fun _ h=>by cases h)⟩;refine ⟨b,cap,cur,w,?_,?_,?_⟩
  ·unfold execOp;simp only [ho,yn,resolve,invoke,builtin,Sem.run_bind,Sem.run_pure,Result.andThen_ok,List.map_toArray,List.map_cons,List.map_nil,hs,hx,hrun,Nat.add_zero]
  ·obtain ⟨hlt,he⟩:=List.getElem?_eq_some_iff.1 hj;rw [←he,List.set_getElem_self];exact HS
  ·simpa [cellsF] using hr
 ·refine zbu (S:=S) HS ht ho hs hj hr hx hA.1 ?_ hb hm;rcases hA.2 with h | ⟨bx,off,C,T,fz,e1,h2,h3⟩
  ·exact .inl h
  ·exact .inr ⟨bx,off,C,T,fz,Option.some.inj e1,h2,h3⟩
theorem zlY {α:Type}{S:Fl α}{P:Program}{N:Nat}{ops:Array Oper}{K:Env→World→Prop}{ρ:Env}{w w0:World}{i B:Nat}{r:List Nat}{l:List (Nat×Obj)}(HS:St B w0 w l)(d:Option Nat)(t e bytes:Nat)(s x:Operand)(j b n cap m c:Nat)(p:Option Addr)(cur:Array Value)(xs:List Value)(M:List α)(h:opk ops i ρ=some (d,true,yn t s x))(hd:dOK d N=true)(ht:ye P t=some (e,S.K,bytes))
 (hs:ev ρ s=.slice (some ⟨b,0,none⟩) n cap) (hj:l[j]? =some (b,.cells cur e (0,0))) (hr:Rw S.K cur cap n xs) (hx:ev ρ x=.slice p m c) (hA:AtF S w p m M) (hp:jW p m c)
 (hb:(n+m)*bytes≤0x800000000000) (hm:n+m≤maxLen)
 (kk: ∀b' cap' cur' w',St B w0 w' (l.set j (b',.cells cur' e (0,0)))→Rw S.K cur' cap' (n+m) (xs++cellsF S M)→WPs P N ops K r (zt ρ d (.slice (some ⟨b',0,none⟩) (n+m) cap')) w'):WPs P N ops K (i::r) ρ w:=by
 obtain ⟨o,ho,rfl,hw,hop⟩:=zI h;obtain ⟨b',cap',cur',w',hrun,HS',hr'⟩:=zlX (S:=S) HS ht hop hs hj hr hx hA hp hb hm;refine WPo.run ho hw fun a ha=>?_;rw [hrun,Oper.upon_value];exact ⟨_,ha.put _ (zX hd) _,kk b' cap' cur' w' HS' hr'⟩
theorem zlZ {α:Type}{M:List α}{i:Nat}{x:α}(h:M[i]? =some x):M=M.take i++x::M.drop (i+1)∧(M.take i).length=i:=by
 obtain ⟨hi,rfl⟩:=List.getElem?_eq_some_iff.1 h;exact ⟨by rw [List.getElem_cons_drop,List.take_append_drop],by rw [List.length_take];omega⟩
theorem Rw.setF {α:Type}{S:Fl α}{cur:Array Value}{cap n i:Nat}{M:List α}{x y:α}(h:Rw S.K cur cap n (cellsF S M))(hM:M[i]? =some x)(j:Nat)(v:Value)(hj:j+v.cells.size≤S.K)(hx:(S.cs x).take j++v.cells.toList++(S.cs x).drop (j+v.cells.size)=S.cs y):
 0+i*S.K+j+v.cells.size≤cur.size∧Rw S.K (Go.Proofs.YtbbdbdndedeokaaGreatDoor.putA cur (0+i*S.K+j) v) cap n (cellsF S (M.set i y)):=by
 have hl:M.length=n:=h.lenF;have hi:=(List.getElem?_eq_some_iff.1 hM).1;obtain ⟨e1,e2⟩:=zlZ hM;have hlt:(i+1)*S.K≤n*S.K:=Nat.mul_le_mul_right _ (by omega);rw [Nat.succ_mul] at hlt;have hp:=h.putA (0+i*S.K+j) v (by omega);refine ⟨hp.1,?_⟩;have hc:(cellsF S (M.take i)).length=i*S.K:=by rw [yI,e2]
 have hxl:=S.len x;have eM:cellsF S M=cellsF S (M.take i)++(S.cs x++cellsF S (M.drop (i+1))):=by
  conv=>lhs;rw [e1]
  rw [jM];rfl
 have eS:cellsF S (M.set i y)=cellsF S (M.take i)++(S.cs y++cellsF S (M.drop (i+1))):=by
  rw [List.set_eq_take_append_cons_drop,if_pos hi,jM];rfl
 have q:=hp.2;rw [eM] at q;rw [eS,←hx];have t1:(cellsF S (M.take i)++(S.cs x++cellsF S (M.drop (i+1)))).take (0+i*S.K+j)=cellsF S (M.take i)++(S.cs x).take j:=by
  rw [List.take_append,hc,show 0+i*S.K+j-i*S.K=j by omega,List.take_of_length_le (by rw [hc];omega),List.take_append_of_le_length (by omega)]
 have t2:(cellsF S (M.take i)++(S.cs x++cellsF S (M.drop (i+1)))).drop (0+i*S.K+j+v.cells.size)=(S.cs x).drop (j+v.cells.size)++cellsF S (M.drop (i+1)):=by
  rw [List.drop_append,hc,show 0+i*S.K+j+v.cells.size-i*S.K=j+v.cells.size by omega,List.drop_of_length_le (by rw [hc];omega),List.nil_append,List.drop_append_of_le_length (by omega)]
 rw [t1,t2] at q;rw [show cellsF S (M.take i)++((S.cs x).take j++v.cells.toList++(S.cs x).drop (j+v.cells.size)++cellsF S (M.drop (i+1)))=cellsF S (M.take i)++(S.cs x).take j++v.cells.toList++((S.cs x).drop (j+v.cells.size)++cellsF S (M.drop (i+1))) by simp only [List.append_assoc]];exact q
def zgx (M:List Ac)(v:Value)(T:List (Nat×Obj)):Prop:=∃(b m k:Nat) (cur:Array Value),v=.slice (some ⟨b,0,none⟩) m k∧T=[(b,.cells cur 31 (0,0))]∧Rw 3 cur k m (cellsF acS M)
theorem zl0 {L:List Ac}{n:Nat}(h:n=L.length):L.take (min n 30)=L.take 30:=by
 subst h;by_cases hl:L.length≤30
 ·rw [Nat.min_eq_left hl,List.take_of_length_le (Nat.le_refl _),List.take_of_length_le hl]
 ·rw [Nat.min_eq_right (by omega)]
theorem zl1 {M:List Ac}{i:Nat}{x:Ac}(h:M[i]? =some x):((M.take i).map xH++M.drop i)[i]? =some x∧((M.take i).map xH++M.drop i).set i (xH x)=(M.take (i+1)).map xH++M.drop (i+1):=by
 have hi:=(List.getElem?_eq_some_iff.1 h).1;have hl:((M.take i).map xH).length=i:=by rw [List.length_map,List.length_take];omega
 constructor
 ·rw [List.getElem?_append_right (by omega),hl,Nat.sub_self,vA h];rfl
 ·rw [List.set_append_right (h:=by omega),hl,Nat.sub_self,vA h,xf h,List.map_append,List.append_assoc];rfl
theorem zl2 (p:Option Addr)(n c:Nat)(L:List Ac)(hp:jW p n c):FnT Tryz.prog 4 #[.slice p n c] (fun w=>AtF acS w p n L) (zgx (kg L)):=by
 refine FnT.intro (c:=zl Tryz.f4) [.tmp 2] 32 Tryz.func4 kr kr kr fun w hP=>?_;have hn:=hP.1;have hP2:=hP.take (min n 30) (Nat.min_le_left _ _);rw [zl0 hn] at hP2;have hml:min n 30=(L.take 30).length:=hP2.1;unfold kg;generalize hM:L.take 30=M at*;obtain ⟨m,hm⟩:∃m,min n 30=m:=⟨_,rfl⟩
 have H0:=St.start w;refine rS [.v] H0 kr fun gs1 w1 H1=>zi [0,1,2,3,4,5,6,7] kr kr<|rp [.nw (fun b=>.slice (some ⟨b,0,none⟩) 0 0) #[] 31,.v,.v,.v,.E (.int .i64 (if (30:Int)<(n:Int) then (30:Int) else (n:Int))) (iN m) (ze (by rw [←hm];split<;>omega)),.o (ins:=[((.tmp 6),.slice p n c),((.tmp 9),iN m)]) (v:=.slice p m c) (fun ρ o w ho hi=>ziQ (t:=22) (e:=31) (size:=3) (bytes:=32) (kd:=.i64) kr (x:=(.tmp 6)) (y:=(.tmp 9)) hp (by omega) ho hi.1 hi.2.1 w)] H1 kr fun gs2 w2 H2=>wX [6,7] ?_;have H3:St w.heap.size w w2 [((gs2 0).b,.cells #[] 31 (0,0))]:=H2.as kr;rw [hm] at hP2;refine zlY (S:=acS) H3 (some 11) 22 31 32 (.tmp 5) (.tmp 10) 0 (gs2 0).b 0 0 m c p #[] [] M kr kr kr kr kr ⟨rfl,Nat.le_refl _,Nat.zero_le _,rfl,rfl⟩ kr (hP2.call H3.below) (hp.cut (by omega)) (by omega) (by unfold maxLen;omega) ?_;intro b k cur w3 H4 hrw;rw [Nat.zero_add,List.nil_append] at hrw;rw [Nat.zero_add];refine rp [.v] H4 kr fun gs3 w4 H5=>wX []<|zd<|wW<|zc kr<|rS [.v,.v,.v] H5 kr fun gs4 w5 H6=>zj 0 kr ?_;have H7:St w.heap.size w w5 [(b,.cells cur 31 (0,0))]:=H6.as kr;clear H0 H1 H2 H3 H4 H5 H6;refine zz kr (fun mz ρ ww=> ∃(i:Nat) (cur:Array Value),m-i=mz∧i≤m∧Rw 3 cur k m (cellsF acS ((M.take i).map xH++M.drop i))∧St w.heap.size w ww [(b,.cells cur 31 (0,0))]∧Is [(0,.slice (some ⟨b,0,none⟩) m k),(12,.slice (some ⟨b,0,none⟩) m k),(13,iN m),(14,iN i)] ρ) (m-0) ⟨0,cur,rfl,Nat.zero_le _,hrw,H7,(Is.of ⟨kr,kr,kr,kr,trivial⟩)⟩ ?_;clear H7 hrw;rintro _ _ w4 ⟨i,cur,rfl,hin,hrw,H5,_,rfl⟩;by_cases hi:i<m
 ·obtain ⟨x,hx⟩:∃x,M[i]? =some x:=⟨_,List.getElem?_eq_getElem (by omega)⟩
  obtain ⟨hx2,hset⟩:=zl1 hx;have hput:=Rw.setF (S:=acS) (y:=xH x) hrw hx2 0 (.string (x.1.extract 0 (min x.1.size 40))) (show 0+1≤3 by decide) rfl;rw [hset] at hput;have hat:=hrw.rowAt (S:=acS) i x hx2;refine rS [.E (.bool (decide ((i:Int)<((m:Nat):Int)))) (.bool true) (za (decide_eq_true (by omega)))] H5 kr fun gs4 w5 H6=>zc kr<|zg kr kr<|zh kr<|wW<|zc kr<|zj 1 kr<|rS [.v,.o (ins:=[((.tmp 12),.slice (some ⟨b,0,none⟩) m k),((.tmp 14),iN i)]) (v:=.pointer (some ⟨b,0+i*3,none⟩)) (fun ρ o w ho hi2=>yV (kd:=.i64) (t:=22) (e:=31) (K:=3) (bytes:=32) kr (x:=(.tmp 12)) (y:=(.tmp 14)) b 0 m k i rfl ho hi2.1 hi2.2.1 (by omega) w),.lp 0 (C:=cur) (off:=0+i*3) (n:=3) (W:=acC x.1 x.2.1 x.2.2) hat.1 hat.2,.a,.v,.s 1] H6 kr fun gs5 w6 H7=>rL [.v,.v,.v,.l 1,.v,.l 1,.v,.E (.int .i64 (if (40:Int)<((x.1.size:Nat):Int) then (40:Int) else ((x.1.size:Nat):Int))) (iN (min x.1.size 40)) (ze (by split<;>omega)),.o (ins:=[((.tmp 22),.string x.1),((.tmp 26),iN (min x.1.size 40))]) (v:=.string (x.1.extract 0 (min x.1.size 40))) (fun ρ o w ho hi=>zbo (t:=9) (kd:=.i64) kr (x:=(.tmp 22)) (y:=(.tmp 26)) x.1 (min x.1.size 40) ho hi.1 hi.2.1 (Nat.min_le_left _ _) w),.o (ins:=[((.tmp 19),.slice (some ⟨b,0,none⟩) m k),((.tmp 20),iN i)]) (v:=.pointer (some ⟨b,0+i*3,none⟩)) (fun ρ o w ho hi2=>yV (kd:=.i64) (t:=22) (e:=31) (K:=3) (bytes:=32) kr (x:=(.tmp 19)) (y:=(.tmp 20)) b 0 m k i rfl ho hi2.1 hi2.2.1 (by omega) w),.v,.se 0 (C:=cur) (C':=putA cur (0+i*3+0) (.string (x.1.extract 0 (min x.1.size 40)))) (off:=0+i*3+0) (v:=.string (x.1.extract 0 (min x.1.size 40))) hput.1 rfl] H7 kr fun gs6 w7 H8=>wW<|rL [.E (.int .i64 (IntKind.i64.wrap ((i:Int)+1))) (iN (i+1)) (ze (zm (a:=i) (b:=1) (by omega))),.v] H8 kr fun gs7 w8 H9=>?_;show ∃m,_∧_;exact ⟨_,(by omega),i+1,_,rfl,hi,hput.2,(H9.as (l:=[(b,.cells (putA cur (0+i*3+0) (.string (x.1.extract 0 (min x.1.size 40)))) 31 (0,0)),((gs5 3).b,qb x)]) kr).sub (List.sublist_append_left [_] [_]),(Is.of ⟨kr,kr,kr,kr,trivial⟩)⟩
 ·obtain rfl:i=m:=by omega
  refine rS [.E (.bool (decide ((i:Int)<(i:Int)))) (.bool false) (za (decide_eq_false (by omega)))] H5 kr fun gs4 w5 H6=>zc kr<|zf kr kr<|zw 0 kr<|wW<|rS [.v,.v] H6 kr fun gs5 w6 H7=>rRr [.tmp 2] [] (.slice (some ⟨b,0,none⟩) i k) (yf w.heap.size w (zgx (M.map xH))) H7 kr ?_;rw [List.take_of_length_le (by omega),List.drop_of_length_le (by omega),List.append_nil] at hrw;exact ⟨_,⟨b,i,k,cur,rfl,rfl,hrw⟩,H7.as kr⟩
def fA:Field:= { name:= "Addr",type:=9,offset:=0,embedded:=false,tag:= "",pkgPath:= "",byteOffset:=0 }
def fB:Field:= { name:= "Balance",type:=28,offset:=1,embedded:=false,tag:= "",pkgPath:= "",byteOffset:=16 }
def fN:Field:= { name:= "Nonce",type:=28,offset:=2,embedded:=false,tag:= "",pkgPath:= "",byteOffset:=24 }
theorem zcD {P:Program} {w:World} {d:Nat} {xs:Array Value} {f:Field} {fs:List Field} {a:Value} (hn:f.name≠ "_") (ha:(part f.type xs f.offset).run P w= .ok a w) (hr:(Op.equalIn d f.type a a).run P w= .ok true w) (hq:(Op.eqFields d xs xs fs).run P w= .ok true w):
 (Op.eqFields d xs xs (f::fs)).run P w=.ok true w:=by
 unfold Op.eqFields;rw [if_pos hn];simp only [Sem.run_bind,ha,hr,Result.andThen_ok]
 simpa using hq
theorem zgy (s:ByteArray)(a b:Nat)(w:World):(Op.equalIn 10000 31 (acV s a b) (acV s a b)).run Tryz.prog w=.ok true w:=by
 rw [run_equalIn_agg w 9999 31 _ _ kr kr];rw [show (Tryz.prog.fieldsOf 31).toList=[fA,fB,fN] by kernel_rfl];have e0:(Op.eqFields 9999 (acC s a b) (acC s a b) []).run Tryz.prog w=.ok true w:=by simp [Op.eqFields]
 have h1:=zcD (P:=Tryz.prog) (w:=w) (d:=9999) (xs:=acC s a b) (f:=fN) (a:=.int .u64 (b:Int)) (by decide) (run_part_plain w kr rfl) ((run_equalIn_int w 9998 28 .u64 .u64 _ _ Tryz.underlying28).trans (by rw [beq_self_eq_true])) e0;have h2:=zcD (P:=Tryz.prog) (w:=w) (d:=9999) (xs:=acC s a b) (f:=fB) (a:=.int .u64 (a:Int)) (by decide) (run_part_plain w kr rfl) ((run_equalIn_int w 9998 28 .u64 .u64 _ _ Tryz.underlying28).trans (by rw [beq_self_eq_true])) h1;exact zcD (P:=Tryz.prog) (w:=w) (d:=9999) (xs:=acC s a b) (f:=fA) (a:=.string s) (by decide) (run_part_plain w kr rfl) ((run_equalIn_string w 9998 _ _ _ Tryz.underlying9).trans (by rw [vg])) h2
theorem zl3 {ρ:Env}(s:ByteArray)(a b:Nat){x y:Operand}{o:Oper}(w:World)(ho:o.op=.binOp .eql 31 x y 31)(hx:ev ρ x=acV s a b)(hy:ev ρ y=acV s a b):
 (execOp (ev ρ) o).run Tryz.prog w=.ok (.value (.bool true)) w:=by
 have q:=zgy s a b w;have hg:=fun X Y=>run_eqGuard_agg (P:=Tryz.prog) w .eql 31 x y X Y kr;have hn:=fun X Y=>run_eql_struct (P:=Tryz.prog) w 31 X Y;generalize (#[.string s,.int .u64 (a:Int),.int .u64 (b:Int)]:Array Value)=X at q hx hy;unfold execOp;simp only [ho,hx,hy,Sem.run_bind,hg,hn,q,Result.andThen_ok,Sem.run_pure]
theorem zgz {ρ:Env}(s:ByteArray)(a b:Nat){x y:Operand}{o:Oper}(w:World)(ho:o.op=.binOp .neq 31 x y 31)(hx:ev ρ x=acV s a b)(hy:ev ρ y=acV s a b):
 (execOp (ev ρ) o).run Tryz.prog w=.ok (.value (.bool false)) w:=by
 have q:=zgy s a b w;have hg:=fun X Y=>run_eqGuard_agg (P:=Tryz.prog) w .neq 31 x y X Y kr;have hn:=fun X Y=>run_neq_struct (P:=Tryz.prog) w 31 X Y;generalize (#[.string s,.int .u64 (a:Int),.int .u64 (b:Int)]:Array Value)=X at q hx hy;unfold execOp;simp only [ho,hx,hy,Sem.run_bind,hg,hn,q,Result.andThen_ok,Sem.run_pure,Bool.not_true]
abbrev a20:ByteArray:=⟨#[49,50,51,52,53,54,55,56,57,48,49,50,51,52,53,54,55,56,57,48]⟩
abbrev xA:Ac:=(a20,7,0)
theorem zcE {w:World}{b:Nat}(h:w.heap[b]? =some (qb xA)):AtF acS w (some ⟨b,0,none⟩) 1 [xA]:=⟨rfl,.inr ⟨b,0,_,_,_,rfl,h,Rw.rowAt (S:=acS) (cap:=1) (n:=1) ⟨rfl,Nat.le_refl _,by decide,rfl,rfl⟩⟩⟩
theorem zgA:Fn Tryz.prog 12 #[] (.bool true):=by
 refine Fn.intro (c:=zl Tryz.f12) [.tmp 0] 23 Tryz.func12 kr kr kr fun w=>?_;have hR:=fun b=>uE (some ⟨b,0,none⟩) 1 1 [xA] (by decide);have hT:=fun b=>zcB (some ⟨b,0,none⟩) 1 1 [xA] (by decide);have hO:=fun b=>zcC (some ⟨b,0,none⟩) 1 1 [xA] (by decide) a20 (by decide);rw [show yu [xA]=true by decide] at hR;rw [show qk [xA]=7 by decide] at hT;rw [show ofV a20 [xA]=acV a20 7 0 by unfold ofV;rw [show ofA a20 [xA]=xA from if_pos rfl]] at hO;refine rS [.v] (St.start w) kr fun gs1 w1 H1=>rS [.v,.nw (fun b=>.slice (some ⟨b,0,none⟩) 1 1) (acC a20 7 0) 31,.v] H1 kr fun gs2 w2 H2=>dS [.v,.cp (hR (gs2 1).b) [(0,((gs2 1).b,qb xA))] (fun w hb hd=>zcE hd.1),.v,.v,.cp (hT (gs2 1).b) [(0,((gs2 1).b,qb xA))] (fun w hb hd=>zcE hd.1),.v,.v,.v,.v,.v,.o (ins:=[((.tmp 13),.slice (some ⟨(gs2 1).b,0,none⟩) 1 1),((.const (.int .i64 0)),.int .i64 0)]) (v:=.pointer (some ⟨(gs2 1).b,0+0*3,none⟩)) (fun ρ o w ho hi2=>yV (kd:=.i64) (t:=22) (e:=31) (K:=3) (bytes:=32) kr (x:=(.tmp 13)) (y:=(.const (.int .i64 0))) (gs2 1).b 0 1 1 0 rfl ho hi2.1 hi2.2.1 (by decide) w),.v,.l 0,.cp (hO (gs2 1).b) [(0,((gs2 1).b,qb xA))] (fun w hb hd=>zcE hd.1),.v,.o (ins:=[((.tmp 18),.slice (some ⟨(gs2 1).b,0,none⟩) 1 1),((.const (.int .i64 0)),.int .i64 0)]) (v:=.pointer (some ⟨(gs2 1).b,0+0*3,none⟩)) (fun ρ o w ho hi2=>yV (kd:=.i64) (t:=22) (e:=31) (K:=3) (bytes:=32) kr (x:=(.tmp 18)) (y:=(.const (.int .i64 0))) (gs2 1).b 0 1 1 0 rfl ho hi2.1 hi2.2.1 (by decide) w),.l 0,.o (ins:=[((.tmp 17),acV a20 7 0),((.tmp 20),acV a20 7 0)]) (v:=.bool true) (fun ρ o w ho hi=>zl3 a20 7 0 w ho hi.1 hi.2.1),.v,.v] H2 kr fun w3 H3=>?_;exact rR [.tmp 0] [] (.bool true) H3 kr
end Go.Proofs.YtbbdbdndedeokaaGreatDoor
namespace Go.Proofs.YtbbdbdndedeokaaGreatDoor
open Go Go.RowKit
open D2 (Gh Runs)
set_option linter.unusedVariables false
section
variable {P:Program}{B:Nat}{w0:World}
theorem zl4 {w:World}(g:Nat)(C:Array Value):w.grownBy (w.setRow g C) (some g):=⟨rfl,rfl,rfl,by simp,fun k _ hk=>setRow_other w g k _ (fun e=>hk (by simp [e]))⟩
theorem zaL {dT sT e size:Nat}(hu:P.underlying dT=some (.slice e))(hs:(P.info? e).map (·.size)=some size){x y:Operand}{j b off dLen dCap sLen sCap:Nat}{a:Addr}{cur:Array Value}{T:TypeId}{cs:List Value}{rd:List (Nat×(Nat×Obj))}
 (hn:cs.length=Nat.min sLen dLen*size) (hsrc: ∀w,Hd ((j,(b,.cells cur T (0,0)))::rd) w→ ∀q v,cs[q]? =some v→w.cell? (a.add q)=some v) (hfit:off+cs.length≤cur.size) (h1: ∀v∈cs,v.oneCell'=true):
 ∀(ρ:Env) (o:Oper) (w:World),o.op=.call { callee:=.builtin .copy,args:=#[x,y],argTypes:=#[dT,sT] } →Ins (ev ρ) [(x,.slice (some ⟨b,off,none⟩) dLen dCap),(y,.slice (some a) sLen sCap)]→Hd ((j,(b,.cells cur T (0,0)))::rd) w→Below B w0 w→
  Runs P (fun v w'=> ∃g:Gh,v=.int .i64 ((Nat.min sLen dLen:Nat):Int)∧∃q,(List.lookup j ((j,(b,Obj.cells cur T (0,0)))::rd))=some q∧w.grownBy w' (some q.1)∧w'.heap[q.1]? =some (.cells (yd cur off cs) T (0,0))) ((execOp (ev ρ) o).run P w):=fun ρ o w ho hi hd hb=>by
 have hg:w.heap[b]? =some (.cells cur T (0,0)):=hd.1;have hrun:=ziI (P:=P) (w:=w) dT sT o.type e size hu hs b off dLen dCap a sLen sCap cur T cs hg hn (hsrc w hd) hfit h1;have hex:(execOp (ev ρ) o).run P w=.ok (.value (.int .i64 ((Nat.min sLen dLen:Nat):Int))) (w.setRow b (yd cur off cs)):=by
  unfold execOp;simp only [ho,resolve,invoke,builtin,Sem.run_bind,Sem.run_pure,Result.andThen_ok,List.map_toArray,List.map_cons,List.map_nil,hi.1,hi.2.1,hrun]
 rw [hex];exact ⟨default,rfl,(b,.cells cur T (0,0)),by simp [List.lookup],zl4 b _,setRow_heap w b cur _ T (0,0) hg⟩
theorem zaM {w:World}{b off:Nat}{cur:Array Value}{T:TypeId}{fz:Nat×Nat}{cs:List Value}(hg:w.heap[b]? =some (.cells cur T fz))(h: ∀q v,cs[q]? =some v→cur[off+q]? =some v): ∀q v,cs[q]? =some v→w.cell? ((⟨b,off,none⟩:Addr).add q)=some v:=fun q v hq=>by
 rw [yX];simp [World.cell?,hg,h q v hq]
end
section
variable {α:Type}{S:Fl α}
theorem zl5 (L:List α)(i:Nat)(h:i≤L.length):cellsF S (L.take i)=(cellsF S L).take (i*S.K):=by
 have e:cellsF S L=cellsF S (L.take i)++cellsF S (L.drop i):=by rw [←jM,List.take_append_drop]
 rw [e,List.take_left'];rw [yI,List.length_take,Nat.min_eq_left h]
theorem zl6 (L:List α)(i:Nat)(h:i≤L.length):cellsF S (L.drop i)=(cellsF S L).drop (i*S.K):=by
 have e:cellsF S L=cellsF S (L.take i)++cellsF S (L.drop i):=by rw [←jM,List.take_append_drop]
 rw [e,List.drop_left'];rw [yI,List.length_take,Nat.min_eq_left h]
end
theorem zl7 {cur:Array Value}{xs X D:List Value}{i n c:Nat}(hsz:cur.size=c*2)(htk:cur.toList.take (n*2)=xs)(hD:D=xs.drop (i*2))(hxs:xs.length=n*2)(hX:X.length=2)(hi:i<n)(hc:n+1≤c):
 (yd (yd cur ((i+1)*2) D) (i*2) X).toList.take ((n+1)*2)=xs.take (i*2)++(X++D):=by
 have hDl:D.length=(n-i)*2:=by rw [hD,List.length_drop,hxs];omega
 have s1:(yd cur ((i+1)*2) D).size=c*2:=by rw [vk (by omega),hsz]
 have hcl:cur.toList.length=c*2:=by rw [Array.length_toList,hsz]
 rw [zae (C:=yd cur ((i+1)*2) D) (o:=i*2) (vs:=X) (m:=(n+1)*2) (by omega) (by omega),
  ziH (C:=cur) (o:=(i+1)*2) (vs:=D) (m:=i*2) (by omega) (by omega),
  zae (C:=cur) (o:=(i+1)*2) (vs:=D) (m:=(n+1)*2) (by omega) (by omega)]
 have e1:(cur.toList.take ((n+1)*2)).drop ((i+1)*2+D.length)=[]:=List.drop_of_length_le (by rw [List.length_take];omega);have e2:cur.toList.take (i*2)=xs.take (i*2):=by rw [←htk,List.take_take,Nat.min_eq_left (by omega)]
 have e3:(cur.toList.take ((i+1)*2)++D).drop (i*2+X.length)=D:=List.drop_left' (by rw [List.length_take];omega);rw [e1,List.append_nil,e3,e2,List.append_assoc]
theorem zl8 {cur:Array Value}{xs X D:List Value}{i n c:Nat}(hsz:cur.size=c*2)(htk:cur.toList.take (i*2)=xs.take (i*2))(hxs:xs.length=n*2)(hX:X.length=2)(hDl:D.length=(n-i)*2)(hi:i<n)(hc:n+1≤c):
 (yd (yd cur (i*2) X) ((i+1)*2) D).toList.take ((n+1)*2)=xs.take (i*2)++(X++D):=by
 have s1:(yd cur (i*2) X).size=c*2:=by rw [vk (by omega),hsz]
 have hcl:cur.toList.length=c*2:=by rw [Array.length_toList,hsz]
 have hcl1:(yd cur (i*2) X).toList.length=c*2:=by rw [Array.length_toList,s1]
 rw [zae (C:=yd cur (i*2) X) (o:=(i+1)*2) (vs:=D) (m:=(n+1)*2) (by omega) (by omega),
  zae (C:=cur) (o:=i*2) (vs:=X) (m:=(i+1)*2) (by omega) (by omega)]
 have e1:((yd cur (i*2) X).toList.take ((n+1)*2)).drop ((i+1)*2+D.length)=[]:=List.drop_of_length_le (by rw [List.length_take];omega);have e2:(cur.toList.take ((i+1)*2)).drop (i*2+X.length)=[]:=List.drop_of_length_le (by rw [List.length_take];omega);rw [e1,e2,List.append_nil,List.append_nil,htk,List.append_assoc]
theorem zl9 (bv bw:Nat)(cur:Array Value)(x:Pr)(la lb cb i:Nat)(hne:bw≠bv)(hc:cur.size≠0){ρ:Env}{o:Oper}{w:World}(ho:o.op=.call { callee:=.value (.func 57),args:=#[.tmp 61,.tmp 66],argTypes:=#[50,50] })
 (hx:ev ρ (.tmp 61)=.slice (some ⟨bv,0,none⟩) la 1) (hy:ev ρ (.tmp 66)=.slice (some ⟨bw,i*2,none⟩) lb cb) (hv:w.heap[bv]? =some (pwO x)) (hw:w.heap[bw]? =some (.cells cur 64 (0,0))):
 (execOp (ev ρ) o).run Tryz.prog w=.ok (.value (.bool false)) w:=by
 rw [zhX (f:=57) (args:=#[.slice (some ⟨bv,0,none⟩) la 1,.slice (some ⟨bw,i*2,none⟩) lb cb]) ho rfl rfl (by simp [hx,hy])]
 rw [run_callFunc_extern Tryz.func57 kr kr kr (e:=Extern.SlicesOverlaps.overlaps #[50,50] #[4]) kr,
  Lib.run_overlaps_apart w 50 4 64 Tryz.underlying50 2 (fun w=>by
   obtain ⟨it,hi,hsz⟩:=Option.map_eq_some_iff.1 (show (Tryz.prog.info? 64).map (·.size)=some 2 by kernel_rfl)
   simp [sizeOf,typeInfo,hi,hsz]) ⟨bv,0,none⟩ ⟨bw,i*2,none⟩ la 1 lb cb (Ne.symm hne) 64 64 2 cur.size (by simp [World.shape?,hv]) (by simp [World.shape?,hw]) hc (by simp [World.frozen?,hv]) (by simp [World.frozen?,hv])]
 rfl
theorem zma (bw n c:Nat)(cur:Array Value)(L:List Pr)(x:Pr)(i bv:Nat)(Lr:List (Nat×Obj)){B:Nat}{w0 w:World}(hrw:Rw 2 cur c n (cellsF pS L))(h:St B w0 w ((bw,.cells cur 64 (0,0))::(bv,pwO x)::Lr))(hi:i<n)(hL:n≤1000000):
 Calls Tryz.prog 33 #[.slice (some ⟨bw,0,none⟩) n c,iN i,.slice (some ⟨bv,0,none⟩) 1 1] w fun e w'=> ∃v,e=.returned v∧vz B w0 Lr (L.take i++x::L.drop i) v w':=by
 refine ql (c:=zl Tryz.f33) (rs:=[.tmp 6]) (N:=95) Tryz.func33 kr kr kr ?_;have hlenL:L.length=n:=hrw.lenF (S:=pS);have hcl:(cellsF pS L).length=n*2:=by rw [yI,hlenL];rfl
 have hle:=hrw.le;have hmx:=hrw.max;have hnd:bw≠bv:=by
  have q:=(List.nodup_cons.1 h.nd).1;intro e;exact q (by rw [e];exact List.mem_cons_self ..)
 have etk:cellsF pS (L.take i)=(cellsF pS L).take (i*2):=zl5 L i (by omega);have edr:cellsF pS (L.drop i)=(cellsF pS L).drop (i*2):=zl6 L i (by omega);have hxs:([.string x.1,.string x.2]:List Value).length=2:=rfl;have ex:pS.cs x=[.string x.1,.string x.2]:=rfl;have hdl:((cellsF pS L).drop (i*2)).length=(n-i)*2:=by rw [List.length_drop,hcl];omega
 have ecell:cellsF pS (L.take i++x::L.drop i)=(cellsF pS L).take (i*2)++([.string x.1,.string x.2]++(cellsF pS L).drop (i*2)):=by
  rw [jM,etk];show _++(pS.cs x++cellsF pS (L.drop i))=_;rw [edr,ex]
 have hlen2:(L.take i++x::L.drop i).length=n+1:=by simp;omega
 have h1d: ∀v∈(cellsF pS L).drop (i*2),v.oneCell'=true:=fun v hv=>zac L v (List.mem_of_mem_drop hv);have h1x: ∀v∈([.string x.1,.string x.2]:List Value),v.oneCell'=true:=qX rfl;have hsrcD: ∀q v,((cellsF pS L).drop (i*2))[q]? =some v→cur[i*2+q]? =some v:=fun q v hq=>by
  rw [List.getElem?_drop] at hq;have hlt:=(List.getElem?_eq_some_iff.1 hq).1;rw [hrw.get (i*2+q) (by omega)];exact hq
 refine rS [.v] h kr fun gs1 w1 H1=>rS [.v,.v,.oe (ins:=[((.tmp 10),.slice (some ⟨bw,0,none⟩) n c),((.tmp 11),iN i)]) (v:=.slice (some ⟨bw,if c=i then 0 else 0+i*2,none⟩) (n-i) (c-i)) (v':=.slice (some ⟨bw,i*2,none⟩) (n-i) (c-i)) (fun ρ o w ho hi2=>jP (kz:=.i64) (t:=50) (e:=64) (size:=2) (bytes:=32) kr (x:=(.tmp 10)) (z:=(.tmp 11)) bw 0 n c i ho hi2.1 hi2.2.1 (by omega) (hle) w) (by rw [if_neg (by omega),Nat.zero_add])] H1 kr fun gs2 w2 H2=>rS [.v,.v,.v] H2 kr fun gs3 w3 H3=>zc kr<|rS [.v,.v] H3 kr fun gs4 w4 H4=>zf kr kr<|zh kr<|wW<|rS [.v,.v,.v] H4 kr fun gs5 w5 H5=>zc kr<|rS [.v,.v,.E (.bool ((i:Int)==(n:Int))) (.bool false) (za (beq_eq_false_iff_ne.2 (by omega)))] H5 kr fun gs6 w6 H6=>zf kr kr<|zh kr<|wW<|zc kr ?_;by_cases hroom:n+1≤c
 ·refine rS [.v,.v,.E (.int .i64 (IntKind.i64.wrap ((n:Int)+1))) (iN (n+1)) (ze (zm (a:=n) (b:=1) (by omega))),.v,.v,.E (.bool (decide (((n+1:Nat):Int)>(c:Int)))) (.bool false) (za (decide_eq_false (by omega)))] H6 kr fun gs7 w7 H7=>zf kr kr<|zh kr<|wW<|rS [.v,.v,.v,.E (.int .i64 (IntKind.i64.wrap ((n:Int)+1))) (iN (n+1)) (ze (zm (a:=n) (b:=1) (by omega))),.o (ins:=[((.tmp 56),.slice (some ⟨bw,0,none⟩) n c),((.tmp 59),iN (n+1))]) (v:=.slice (some ⟨bw,0,none⟩) (n+1) c) (fun ρ o w ho hi2=>zab (kd:=.i64) (t:=50) (e:=64) (size:=2) (bytes:=32) kr (x:=(.tmp 56)) (y:=(.tmp 59)) bw n c (n+1) ho hi2.1 hi2.2.1 (hroom) w),.v] H7 kr fun gs8 w8 H8=>zc kr ?_
  refine rS [.v,.v,.v,.v,.E (.int .i64 (IntKind.i64.wrap ((i:Int)+1))) (iN (i+1)) (ze (zm (a:=i) (b:=1) (by omega))),.oe (ins:=[((.tmp 62),.slice (some ⟨bw,0,none⟩) (n+1) c),((.tmp 65),iN (i+1))]) (v:=.slice (some ⟨bw,if c=(i+1) then 0 else 0+(i+1)*2,none⟩) ((n+1)-(i+1)) (c-(i+1))) (v':=.slice (some ⟨bw,(i+1)*2,none⟩) ((n+1)-(i+1)) (c-(i+1))) (fun ρ o w ho hi2=>jP (kz:=.i64) (t:=50) (e:=64) (size:=2) (bytes:=32) kr (x:=(.tmp 62)) (z:=(.tmp 65)) bw 0 (n+1) c (i+1) ho hi2.1 hi2.2.1 (by omega) (hroom) w) (by rw [if_neg (by omega),Nat.zero_add]),
   .x (ins:=[((.tmp 61),.slice (some ⟨bv,0,none⟩) 1 1),((.tmp 66),.slice (some ⟨bw,(i+1)*2,none⟩) ((n+1)-(i+1)) (c-(i+1)))]) (op:=.call { callee:=.value (.func 57),args:=#[.tmp 61,.tmp 66],argTypes:=#[50,50] }) (v:=.bool false) [(1,(bv,pwO x)),(0,(bw,.cells cur 64 (0,0)))] (fun ρ o w ho hi2 hd=>zl9 bv bw cur x _ _ _ (i+1) hnd (by rw [hrw.sz];omega) ho hi2.1 hi2.2.1 hd.1 hd.2.1),.v] H8 kr fun gs9 w9 H9=>?_
  refine zg kr kr ?_
  refine dS [.v,.v,.v,.E (.int .i64 (IntKind.i64.wrap ((i:Int)+1))) (iN (i+1)) (ze (zm (a:=i) (b:=1) (by omega))),.oe (ins:=[((.tmp 69),.slice (some ⟨bw,0,none⟩) (n+1) c),((.tmp 72),iN (i+1))]) (v:=.slice (some ⟨bw,if c=(i+1) then 0 else 0+(i+1)*2,none⟩) ((n+1)-(i+1)) (c-(i+1))) (v':=.slice (some ⟨bw,(i+1)*2,none⟩) ((n+1)-(i+1)) (c-(i+1))) (fun ρ o w ho hi2=>jP (kz:=.i64) (t:=50) (e:=64) (size:=2) (bytes:=32) kr (x:=(.tmp 69)) (z:=(.tmp 72)) bw 0 (n+1) c (i+1) ho hi2.1 hi2.2.1 (by omega) (hroom) w) (by rw [if_neg (by omega),Nat.zero_add]),.v,.v,.oe (ins:=[((.tmp 74),.slice (some ⟨bw,0,none⟩) (n+1) c),((.tmp 75),iN i)]) (v:=.slice (some ⟨bw,if c=i then 0 else 0+i*2,none⟩) ((n+1)-i) (c-i)) (v':=.slice (some ⟨bw,i*2,none⟩) ((n+1)-i) (c-i)) (fun ρ o w ho hi2=>jP (kz:=.i64) (t:=50) (e:=64) (size:=2) (bytes:=32) kr (x:=(.tmp 74)) (z:=(.tmp 75)) bw 0 (n+1) c i ho hi2.1 hi2.2.1 (by omega) (hroom) w) (by rw [if_neg (by omega),Nat.zero_add]),
   .g [((.tmp 73),.slice (some ⟨bw,(i+1)*2,none⟩) ((n+1)-(i+1)) (c-(i+1))),((.tmp 76),.slice (some ⟨bw,i*2,none⟩) ((n+1)-i) (c-i))] (.call { callee:=.builtin .copy,args:=#[.tmp 73,.tmp 76],argTypes:=#[50,50] }) ((0,(bw,Obj.cells (cur) 64 (0,0)))::[]) (fun _=>.int .i64 ((Nat.min ((n+1)-i) ((n+1)-(i+1)):Nat):Int)) (.turn 0 (.cells (yd (cur) ((i+1)*2) ((cellsF pS L).drop (i*2))) 64 (0,0))) (zaL (dT:=50) (sT:=50) (e:=64) (size:=2) kr kr (x:=(.tmp 73)) (y:=(.tmp 76)) (j:=0) (b:=bw) (off:=(i+1)*2) (dLen:=(n+1)-(i+1)) (dCap:=c-(i+1)) (sLen:=(n+1)-i) (sCap:=c-i) (a:=⟨bw,i*2,none⟩) (cur:=cur) (T:=64) (cs:=(cellsF pS L).drop (i*2)) (rd:=[]) (by rw [hdl];show _=min _ _*2;omega) (fun w hd=>zaM hd.1 hsrcD) (by rw [hdl,hrw.sz];omega) (h1d))] H9 kr fun w10 H10=>?_
  have hsz1:(yd cur ((i+1)*2) ((cellsF pS L).drop (i*2))).size=c*2:=by rw [vk (by rw [hdl,hrw.sz];omega),hrw.sz]
  refine rS [.v,.v,.oe (ins:=[((.tmp 78),.slice (some ⟨bw,0,none⟩) (n+1) c),((.tmp 79),iN i)]) (v:=.slice (some ⟨bw,if c=i then 0 else 0+i*2,none⟩) ((n+1)-i) (c-i)) (v':=.slice (some ⟨bw,i*2,none⟩) ((n+1)-i) (c-i)) (fun ρ o w ho hi2=>jP (kz:=.i64) (t:=50) (e:=64) (size:=2) (bytes:=32) kr (x:=(.tmp 78)) (z:=(.tmp 79)) bw 0 (n+1) c i ho hi2.1 hi2.2.1 (by omega) (hroom) w) (by rw [if_neg (by omega),Nat.zero_add]),.v,
   .g [((.tmp 80),.slice (some ⟨bw,i*2,none⟩) ((n+1)-i) (c-i)),((.tmp 81),.slice (some ⟨bv,0,none⟩) (1) (1))] (.call { callee:=.builtin .copy,args:=#[.tmp 80,.tmp 81],argTypes:=#[50,50] }) ((0,(bw,Obj.cells (yd cur ((i+1)*2) ((cellsF pS L).drop (i*2))) 64 (0,0)))::[(1,(bv,pwO x))]) (fun _=>.int .i64 ((Nat.min (1) ((n+1)-i):Nat):Int)) (.turn 0 (.cells (yd (yd cur ((i+1)*2) ((cellsF pS L).drop (i*2))) (i*2) ([.string x.1,.string x.2])) 64 (0,0))) (zaL (dT:=50) (sT:=50) (e:=64) (size:=2) kr kr (x:=(.tmp 80)) (y:=(.tmp 81)) (j:=0) (b:=bw) (off:=i*2) (dLen:=(n+1)-i) (dCap:=c-i) (sLen:=1) (sCap:=1) (a:=⟨bv,0,none⟩) (cur:=yd cur ((i+1)*2) ((cellsF pS L).drop (i*2))) (T:=64) (cs:=[.string x.1,.string x.2]) (rd:=[(1,(bv,pwO x))]) (by show 2=min _ _*2;omega) (fun w hd=>zaM hd.2.1 (fun q v hq=>by rw [Nat.zero_add,←Array.getElem?_toList];exact hq)) (by rw [hsz1,hxs];omega) (h1x))] H10 kr fun gs11 w11 H11=>?_
  refine rS [.v,.v] H11 kr fun gs12 w12 H12=>rRr [.tmp 6] [] (.slice (some ⟨bw,0,none⟩) (n+1) c) (vz B w0 Lr (L.take i++x::L.drop i)) H12 kr ?_;have hfin:Rw 2 (yd (yd cur ((i+1)*2) ((cellsF pS L).drop (i*2))) (i*2) [.string x.1,.string x.2]) c (n+1) (cellsF pS (L.take i++x::L.drop i)):=by
   refine ⟨by rw [yI,hlen2];rfl,hroom,hmx,?_,by rw [vk (by rw [hsz1,hxs];omega),hsz1]⟩;rw [ecell];exact zl7 hrw.sz hrw.take rfl hcl hxs hi hroom
  exact ⟨some ⟨bw,0,none⟩,n+1,c,_,rfl,.inr ⟨bw,_,rfl,rfl,hfin⟩,(H12.as (l:=(bw,.cells (yd (yd cur ((i+1)*2) ((cellsF pS L).drop (i*2))) (i*2) [.string x.1,.string x.2]) 64 (0,0))::(bv,pwO x)::Lr) kr).sub (List.Sublist.cons_cons _ (List.sublist_cons_self ..))⟩
 ·refine rS [.v,.v,.E (.int .i64 (IntKind.i64.wrap ((n:Int)+1))) (iN (n+1)) (ze (zm (a:=n) (b:=1) (by omega))),.v,.v,.E (.bool (decide (((n+1:Nat):Int)>(c:Int)))) (.bool true) (za (decide_eq_true (by omega)))] H6 kr fun gs7 w7 H7=>zg kr kr ?_;have hm1:i+(n+1-i)=n+1:=by omega
  refine zi [0,1,2,3,4,5,6,7,8,9] kr kr<|rp [.v,.v,.o (ins:=[((.tmp 32),.slice (some ⟨bw,0,none⟩) n c),((.tmp 33),iN i)]) (v:=.slice (some ⟨bw,0,none⟩) i c) (fun ρ o w ho hi2=>zab (kd:=.i64) (t:=50) (e:=64) (size:=2) (bytes:=32) kr (x:=(.tmp 32)) (y:=(.tmp 33)) bw n c i ho hi2.1 hi2.2.1 (by omega) w),.v,.v,.E (.int .i64 (IntKind.i64.wrap ((n:Int)+1))) (iN (n+1)) (ze (zm (a:=n) (b:=1) (by omega))),.v,.E (.int .i64 (IntKind.i64.wrap (((n+1:Nat):Int)-(i:Int)))) (iN (n+1-i)) (ze (jh (by omega)))] H7 kr fun gs8 w8 H8=>wX [8,9] ?_;have H9:St B w0 w8 ((bw,.cells cur 64 (0,0))::(bv,pwO x)::Lr):=H8.as kr;refine ziL H9 (some 40) 50 3 64 2 32 .i64 (.tmp 34) (.tmp 39) 0 bw i c (n+1-i) cur ((cellsF pS L).take (i*2)) kr kr kr kr kr kr rfl (hrw.cut i (by omega)) (by omega) (by omega) (by omega) (by unfold maxLen;omega) ?_;intro b' cap' cur' w9 H10 hcp hcx hcs htk;rw [hm1] at hcp ⊢;refine rp [.v] H10 kr fun gs9 w10 H11=>wX []<|zd ?_;have H12:St B w0 w10 ((b',.cells cur' 64 (0,0))::(bw,.cells cur 64 (0,0))::(bv,pwO x)::Lr):=H11.as kr;have hs1:(yd cur' (i*2) [.string x.1,.string x.2]).size=cap'*2:=by rw [vk (by rw [hcs,hxs];omega),hcs]
  refine rS [.v,.v,.oe (ins:=[((.tmp 41),.slice (some ⟨b',0,none⟩) (n+1) cap'),((.tmp 42),iN i)]) (v:=.slice (some ⟨b',if cap'=i then 0 else 0+i*2,none⟩) ((n+1)-i) (cap'-i)) (v':=.slice (some ⟨b',i*2,none⟩) ((n+1)-i) (cap'-i)) (fun ρ o w ho hi2=>jP (kz:=.i64) (t:=50) (e:=64) (size:=2) (bytes:=32) kr (x:=(.tmp 41)) (z:=(.tmp 42)) b' 0 (n+1) cap' i ho hi2.1 hi2.2.1 (by omega) (hcp) w) (by rw [if_neg (by omega),Nat.zero_add]),.v,
   .g [((.tmp 43),.slice (some ⟨b',i*2,none⟩) ((n+1)-i) (cap'-i)),((.tmp 44),.slice (some ⟨bv,0,none⟩) (1) (1))] (.call { callee:=.builtin .copy,args:=#[.tmp 43,.tmp 44],argTypes:=#[50,50] }) ((0,(b',Obj.cells (cur') 64 (0,0)))::[(2,(bv,pwO x))]) (fun _=>.int .i64 ((Nat.min (1) ((n+1)-i):Nat):Int)) (.turn 0 (.cells (yd (cur') (i*2) ([.string x.1,.string x.2])) 64 (0,0))) (zaL (dT:=50) (sT:=50) (e:=64) (size:=2) kr kr (x:=(.tmp 43)) (y:=(.tmp 44)) (j:=0) (b:=b') (off:=i*2) (dLen:=(n+1)-i) (dCap:=cap'-i) (sLen:=1) (sCap:=1) (a:=⟨bv,0,none⟩) (cur:=cur') (T:=64) (cs:=[.string x.1,.string x.2]) (rd:=[(2,(bv,pwO x))]) (by show 2=min _ _*2;omega) (fun w hd=>zaM hd.2.1 (fun q v hq=>by rw [Nat.zero_add,←Array.getElem?_toList];exact hq)) (by rw [hcs,hxs];omega) (h1x))] H12 kr fun gs11 w11 H13=>?_
  refine dS [.v,.v,.v,.E (.int .i64 (IntKind.i64.wrap ((i:Int)+1))) (iN (i+1)) (ze (zm (a:=i) (b:=1) (by omega))),.oe (ins:=[((.tmp 46),.slice (some ⟨b',0,none⟩) (n+1) cap'),((.tmp 49),iN (i+1))]) (v:=.slice (some ⟨b',if cap'=(i+1) then 0 else 0+(i+1)*2,none⟩) ((n+1)-(i+1)) (cap'-(i+1))) (v':=.slice (some ⟨b',(i+1)*2,none⟩) ((n+1)-(i+1)) (cap'-(i+1))) (fun ρ o w ho hi2=>jP (kz:=.i64) (t:=50) (e:=64) (size:=2) (bytes:=32) kr (x:=(.tmp 46)) (z:=(.tmp 49)) b' 0 (n+1) cap' (i+1) ho hi2.1 hi2.2.1 (by omega) (hcp) w) (by rw [if_neg (by omega),Nat.zero_add]),.v,.v,.oe (ins:=[((.tmp 51),.slice (some ⟨bw,0,none⟩) n c),((.tmp 52),iN i)]) (v:=.slice (some ⟨bw,if c=i then 0 else 0+i*2,none⟩) (n-i) (c-i)) (v':=.slice (some ⟨bw,i*2,none⟩) (n-i) (c-i)) (fun ρ o w ho hi2=>jP (kz:=.i64) (t:=50) (e:=64) (size:=2) (bytes:=32) kr (x:=(.tmp 51)) (z:=(.tmp 52)) bw 0 n c i ho hi2.1 hi2.2.1 (by omega) (hle) w) (by rw [if_neg (by omega),Nat.zero_add]),
   .g [((.tmp 50),.slice (some ⟨b',(i+1)*2,none⟩) ((n+1)-(i+1)) (cap'-(i+1))),((.tmp 53),.slice (some ⟨bw,i*2,none⟩) (n-i) (c-i))] (.call { callee:=.builtin .copy,args:=#[.tmp 50,.tmp 53],argTypes:=#[50,50] }) ((0,(b',Obj.cells (yd cur' (i*2) [.string x.1,.string x.2]) 64 (0,0)))::[(1,(bw,.cells cur 64 (0,0)))]) (fun _=>.int .i64 ((Nat.min (n-i) ((n+1)-(i+1)):Nat):Int)) (.turn 0 (.cells (yd (yd cur' (i*2) [.string x.1,.string x.2]) ((i+1)*2) ((cellsF pS L).drop (i*2))) 64 (0,0))) (zaL (dT:=50) (sT:=50) (e:=64) (size:=2) kr kr (x:=(.tmp 50)) (y:=(.tmp 53)) (j:=0) (b:=b') (off:=(i+1)*2) (dLen:=(n+1)-(i+1)) (dCap:=cap'-(i+1)) (sLen:=n-i) (sCap:=c-i) (a:=⟨bw,i*2,none⟩) (cur:=yd cur' (i*2) [.string x.1,.string x.2]) (T:=64) (cs:=(cellsF pS L).drop (i*2)) (rd:=[(1,(bw,.cells cur 64 (0,0)))]) (by rw [hdl];show _=min _ _*2;omega) (fun w hd=>zaM hd.2.1 hsrcD) (by rw [hdl,hs1];omega) (h1d))] H13 kr fun w12 H14=>?_
  refine rS [.v,.v] H14 kr fun gs12 w13 H15=>rRr [.tmp 6] [] (.slice (some ⟨b',0,none⟩) (n+1) cap') (vz B w0 Lr (L.take i++x::L.drop i)) H15 kr ?_;have hfin:Rw 2 (yd (yd cur' (i*2) [.string x.1,.string x.2]) ((i+1)*2) ((cellsF pS L).drop (i*2))) cap' (n+1) (cellsF pS (L.take i++x::L.drop i)):=by
   refine ⟨by rw [yI,hlen2];rfl,hcp,hcx,?_,by rw [vk (by rw [hs1,hdl];omega),hs1]⟩;rw [ecell];exact zl8 hcs htk hcl hxs hdl hi hcp
  exact ⟨some ⟨b',0,none⟩,n+1,cap',_,rfl,.inr ⟨b',_,rfl,rfl,hfin⟩,(H15.as (l:=(b',.cells (yd (yd cur' (i*2) [.string x.1,.string x.2]) ((i+1)*2) ((cellsF pS L).drop (i*2))) 64 (0,0))::(bw,.cells cur 64 (0,0))::(bv,pwO x)::Lr) kr).sub (List.Sublist.cons_cons _ ((List.sublist_cons_self ..).trans (List.sublist_cons_self ..)))⟩
end Go.Proofs.YtbbdbdndedeokaaGreatDoor
namespace Go.Proofs.YtbbdbdndedeokaaGreatDoor
open Go Go.RowKit
open D2 (Gh Runs)
set_option linter.unusedVariables false
theorem zgB {A:List Nd}{root:Int}{L:List Pr}(h:qi A root=some L):OkP L:=⟨zf3 h,zck h,zf4 h⟩
theorem zmb {α:Type}{M:List α}{i:Nat}{x:α}(h:M[i]? =some x):M=M.take i++x::M.drop (i+1)∧(M.take i).length=i:=by
 obtain ⟨hi,rfl⟩:=List.getElem?_eq_some_iff.1 h;exact ⟨by rw [List.getElem_cons_drop,List.take_append_drop],by rw [List.length_take];omega⟩
theorem zgC {cur:Array Value}{cap n i:Nat}{M:List Pr}{k u v:ByteArray}(h:Rw 2 cur cap n (cellsF pS M))(hM:M[i]? =some (k,u)):0+i*2+1+1≤cur.size∧Rw 2 (Go.Proofs.YtbbdbdndedeokaaGreatDoor.putA cur (0+i*2+1) (.string v)) cap n (cellsF pS (M.set i (k,v))):=by
 have hl:M.length=n:=h.lenF (S:=pS);have hi:=(List.getElem?_eq_some_iff.1 hM).1;obtain ⟨e1,e2⟩:=zmb hM;have hp:=h.putA (0+i*2+1) (.string v) (by show 0+i*2+1+1≤n*2;omega);refine ⟨hp.1,?_⟩;have hc:(cellsF pS (M.take i)).length=i*2:=by rw [yI,e2];rfl
 have eM:cellsF pS M=cellsF pS (M.take i)++(([.string k,.string u]:List Value)++cellsF pS (M.drop (i+1))):=by
  conv=>lhs;rw [e1]
  rw [jM];rfl
 have eS:cellsF pS (M.set i (k,v))=cellsF pS (M.take i)++(([.string k,.string v]:List Value)++cellsF pS (M.drop (i+1))):=by
  rw [List.set_eq_take_append_cons_drop,if_pos hi,jM];rfl
 have q:=hp.2;rw [eM] at q;rw [eS];have t1:(cellsF pS (M.take i)++(([.string k,.string u]:List Value)++cellsF pS (M.drop (i+1)))).take (0+i*2+1)=cellsF pS (M.take i)++([.string k]:List Value):=by
  rw [List.take_append,hc,show 0+i*2+1-i*2=1 by omega,List.take_of_length_le (by rw [hc];omega)];rfl
 have t2:(cellsF pS (M.take i)++(([.string k,.string u]:List Value)++cellsF pS (M.drop (i+1)))).drop (0+i*2+1+(Value.string v).cells.size)=cellsF pS (M.drop (i+1)):=by
  rw [List.drop_append,hc,show 0+i*2+1+(Value.string v).cells.size-i*2=2 by show 0+i*2+1+1-i*2=2;omega,List.drop_of_length_le (by rw [hc];show i*2≤0+i*2+1+1;omega)];rfl
 rw [t1,t2] at q;rw [show cellsF pS (M.take i)++(([.string k,.string v]:List Value)++cellsF pS (M.drop (i+1)))=cellsF pS (M.take i)++([.string k]:List Value)++(Value.string v).cells.toList++cellsF pS (M.drop (i+1)) by simp [Value.cells]];exact q
theorem zmc (p:Option Addr)(n c:Nat)(root:Int)(A:List Nd)(hA: ∀x∈A,x.part.size≤0x800000000000)(hAl:A.length≤0xe8d4a51000)(key value:ByteArray){L:List Pr}(hr:qi A root=some L)(hm:mayM key value=true)(hh:yw key L=true):FnT Tryz.prog 16 #[.agg #[.slice p n c,.int .i64 root],.string key,.string value] (fun w=>yO w p n A) (kK (yi key value L)):=by
 have hn:yw key L=true∨L.length<64:=.inl hh;have hsz:=qY hm;refine FnT.intro (c:=zl Tryz.f16) [.cell 6 38,.tmp 7] 53 Tryz.func16 kr kr kr fun w hN=>?_;have hok0:=zgB hr;have h64:=hok0.len;refine rS [.b,.a,.v] (St.start w) kr fun gs1 w1 H1=>zi [0,1,2,3,4,5,6] kr kr<|rp [.l 0] H1 kr fun gs2 w2 H2=>wX [1,2,3,4,5,6] ?_;have H2:St w.heap.size w w2 [((gs1 0).b,boT p n c root),((gs1 1).b,boT none 0 0 0)]:=H2.as kr;refine yZ H2 (some 14) 30 #[.agg #[.slice p n c,.int .i64 root]] (zcl p n c root A hA hAl) (hN.call H2.below) kr kr ?_;intro v T w3 hok H3;rw [hr] at hok;obtain ⟨q,m,k,rfl,hrow⟩:=hok;have hlen:=hrow.len;have H4:St w.heap.size w w3 (T++ [((gs1 1).b,boT none 0 0 0)]):=H3.sub (List.Sublist.append_left (List.sublist_cons_self ..) T);refine rp [.v,.v,.v,.v,.v] H4 kr fun gs3 w4 H5=>wX []<|zd<|zc kr ?_;have hmf:=zaA key value;rw [hm] at hmf;refine rS [.v,.v,.v,.v,.v,.v,.c hmf,.v,.v] H5 kr fun gs4 w5 H6=>zf kr kr<|zh kr<|wW<|zi [0,1,2,3,4,5,6,7] kr kr<|rp [.v,.v] H6 kr fun gs5 w6 H7=>wX [2,3,4,5,6,7] ?_;have H8:St w.heap.size w w6 (T++ [((gs1 1).b,boT none 0 0 0)]):=H7.as kr;refine qd H8 (some 30) 32 #[.slice q m k,.string key] _ _ (zci q m k L key (by omega) hok0.rise) (hrow.prAt H8 fun e he=>List.mem_append_left _ he) (fun w=>by kernel_rfl) kr ?_;intro w7 H9;rw [hh];refine rp [.v,.v,.v,.v,.v] H9 kr fun gs6 w8 H10=>wX []<|zd<|zc kr<|rS [.v,.v] H10 kr fun gs7 w9 H11=>zf kr kr<|zh kr<|wW ?_;have hlt:=zln hh;obtain ⟨u,hu⟩:=zlo hh;rcases hrow with ⟨_,_,_,_,h0⟩ | ⟨bw,cur,rfl,rfl,hrw⟩
 ·rw [h0] at hlt;exact absurd hlt (Nat.not_lt_zero _)
 obtain ⟨m2,hm2⟩:∃m2,m=m2:=⟨m,rfl⟩
 obtain ⟨k2,hk2⟩:∃k2,k=k2:=⟨k,rfl⟩
 subst hm2 hk2;have hput:=zgC (v:=value) hrw hu;refine rS [.v,.v,.v,.c (vp value (by omega)),.o (ins:=[((.tmp 45),.slice (some ⟨bw,0,none⟩) m k),((.tmp 46),iN (zN key L))]) (v:=.pointer (some ⟨bw,0+(zN key L)*2,none⟩)) (fun ρ o w ho hi2=>yb (kd:=.i64) (t:=50) (e:=64) (K:=2) (bytes:=32) kr (x:=(.tmp 45)) (y:=(.tmp 46)) bw 0 m k (zN key L) rfl ho hi2.1 hi2.2.1 (by omega) w),.v,.se 0 (C:=cur) (C':=putA cur (0+(zN key L)*2+1) (.string value)) (off:=0+(zN key L)*2+1) (v:=.string value) hput.1 rfl] H11 kr fun gs11 w14 H18=>?_;rw [zgb hh] at hput;have hrow3:zR pS 64 (some ⟨bw,0,none⟩) m k [(bw,.cells (putA cur (0+(zN key L)*2+1) (.string value)) 64 (0,0))] (yi key value L):=.inr ⟨bw,_,rfl,rfl,hput.2⟩;have hokI:=hok0.ins (k:=key) (v:=value) hm hn;have hlI:=hokI.len;refine zi [0,1,2,3] kr kr<|rp [.v] H18 kr fun gs12 w15 H20=>wX [1,2,3] ?_;have H21:St w.heap.size w w15 [(bw,.cells (putA cur (0+(zN key L)*2+1) (.string value)) 64 (0,0)),((gs1 1).b,boT none 0 0 0)]:=H20.as kr;refine yZ H21 (some 52) 27 #[.slice (some ⟨bw,0,none⟩) m k] (uw (some ⟨bw,0,none⟩) m k (yi key value L) (by omega) (fun x hx=>(qY (hokI.may x hx)).1.2) (ux.2 hokI.rise)) (hrow3.prAt H21 fun e he=>List.mem_of_mem_head? (by rw [List.mem_singleton.1 he];rfl)) kr kr ?_;rintro v T2 w16 ⟨p3,n3,c3,hrow4,rfl⟩ H22;have H23:St w.heap.size w w16 (((gs1 1).b,boT none 0 0 0)::T2):=(H22.sub (List.Sublist.append_left (List.sublist_cons_self ..) T2)).perm (List.perm_append_comm (l₁:=[((gs1 1).b,boT none 0 0 0)]) (l₂:=T2));refine rp [.s 0,.v] H23 kr fun gs13 w17 H24=>wX []<|zd ?_;have H25:St w.heap.size w w17 (((gs1 1).b,boT p3 n3 c3 (zk 65 (zF (yi key value L)) []).2)::T2):=H24.as kr;refine rRr [.cell 6 38,.tmp 7] [0] (.tuple #[.agg #[.slice p3 n3 c3,.int .i64 (zk 65 (zF (yi key value L)) []).2],.int .i64 0]) (yf w.heap.size w (kK (yi key value L))) H25 kr ?_;exact ⟨T2,⟨p3,n3,c3,hrow4,rfl⟩,H25.sub (List.sublist_cons_self ..)⟩
theorem zmd (p:Option Addr)(n c:Nat)(root:Int)(A:List Nd)(hA: ∀x∈A,x.part.size≤0x800000000000)(hAl:A.length≤0xe8d4a51000)(key value:ByteArray){L:List Pr}(hr:qi A root=some L)(hm:mayM key value=true)(hh:yw key L=false)(hp:zN key L<L.length)(hf:L.length<64):FnT Tryz.prog 16 #[.agg #[.slice p n c,.int .i64 root],.string key,.string value] (fun w=>yO w p n A) (kK (yi key value L)):=by
 have hn:yw key L=true∨L.length<64:=.inr hf;have hsz:=qY hm;refine FnT.intro (c:=zl Tryz.f16) [.cell 6 38,.tmp 7] 53 Tryz.func16 kr kr kr fun w hN=>?_;have hok0:=zgB hr;have h64:=hok0.len;refine rS [.b,.a,.v] (St.start w) kr fun gs1 w1 H1=>zi [0,1,2,3,4,5,6] kr kr<|rp [.l 0] H1 kr fun gs2 w2 H2=>wX [1,2,3,4,5,6] ?_;have H2:St w.heap.size w w2 [((gs1 0).b,boT p n c root),((gs1 1).b,boT none 0 0 0)]:=H2.as kr;refine yZ H2 (some 14) 30 #[.agg #[.slice p n c,.int .i64 root]] (zcl p n c root A hA hAl) (hN.call H2.below) kr kr ?_;intro v T w3 hok H3;rw [hr] at hok;obtain ⟨q,m,k,rfl,hrow⟩:=hok;have hlen:=hrow.len;have H4:St w.heap.size w w3 (T++ [((gs1 1).b,boT none 0 0 0)]):=H3.sub (List.Sublist.append_left (List.sublist_cons_self ..) T);refine rp [.v,.v,.v,.v,.v] H4 kr fun gs3 w4 H5=>wX []<|zd<|zc kr ?_;have hmf:=zaA key value;rw [hm] at hmf;refine rS [.v,.v,.v,.v,.v,.v,.c hmf,.v,.v] H5 kr fun gs4 w5 H6=>zf kr kr<|zh kr<|wW<|zi [0,1,2,3,4,5,6,7] kr kr<|rp [.v,.v] H6 kr fun gs5 w6 H7=>wX [2,3,4,5,6,7] ?_;have H8:St w.heap.size w w6 (T++ [((gs1 1).b,boT none 0 0 0)]):=H7.as kr;refine qd H8 (some 30) 32 #[.slice q m k,.string key] _ _ (zci q m k L key (by omega) hok0.rise) (hrow.prAt H8 fun e he=>List.mem_append_left _ he) (fun w=>by kernel_rfl) kr ?_;intro w7 H9;rw [hh];refine rp [.v,.v,.v,.v,.v] H9 kr fun gs6 w8 H10=>wX []<|zd<|zc kr<|rS [.v,.v] H10 kr fun gs7 w9 H11=>zg kr kr<|zc kr<|rS [.v,.v,.E (.bool ((m:Int)==64)) (.bool false) (za (beq_eq_false_iff_ne.2 (by omega)))] H11 kr fun gs8 w10 H12=>zf kr kr<|zh kr<|wW<|qm [0,1,2,3,4,5,6] kr<|rp [.v,.v,.v,.v,.nw (fun b=>.slice (some ⟨b,0,none⟩) 1 1) #[.string key,.string ⟨#[]⟩] 64] H12 kr fun gs9 w11 H13=>wX [5,6] ?_;have H14:St w.heap.size w w11 ((T++ [((gs1 1).b,boT none 0 0 0)])++ [((gs9 4).b,pwO (key,⟨#[]⟩))]):=H13.as kr;have H15:St w.heap.size w w11 (T++(((gs9 4).b,pwO (key,⟨#[]⟩))::[((gs1 1).b,boT none 0 0 0)])):=H14.perm (by rw [List.append_assoc];exact List.Perm.append_left T (List.Perm.swap ..));rcases hrow with ⟨_,_,_,_,h0⟩ | ⟨b0,cur0,rfl,rfl,hrw0⟩
 ·rw [h0] at hp;exact absurd hp (Nat.not_lt_zero _)
 refine jw (some 44) 33 #[.slice (some ⟨b0,0,none⟩) m k,iN (zN key L),.slice (some ⟨(gs9 4).b,0,none⟩) 1 1] (zma b0 m k cur0 L (key,⟨#[]⟩) (zN key L) (gs9 4).b [((gs1 1).b,boT none 0 0 0)] hrw0 H15 (by omega) (by omega)) kr kr ?_;rintro v w12 ⟨q2,m2,k2,row2,rfl,hrow2,H16⟩;refine rp [.v] H16 kr fun gs10 w13 H17=>wX []<|zd<|wW ?_;have hlen2:=hrow2.len;rw [List.length_append,List.length_cons,List.length_take,List.length_drop] at hlen2;have hu:(L.take (zN key L)++(key,(⟨#[]⟩:ByteArray))::L.drop (zN key L))[zN key L]? =some (key,⟨#[]⟩):=by
  rw [List.getElem?_append_right (by rw [List.length_take];omega),List.length_take,show zN key L-min (zN key L) L.length=0 by omega];rfl
 have hset:(L.take (zN key L)++(key,(⟨#[]⟩:ByteArray))::L.drop (zN key L)).set (zN key L) (key,value)=yi key value L:=by
  rw [←zcr hh,List.set_append_right _ _ (by rw [List.length_take];omega),List.length_take,show zN key L-min (zN key L) L.length=0 by omega,List.set_cons_zero]
 rcases hrow2 with ⟨_,_,_,_,h0⟩|⟨bw,cur,rfl,rfl,hrw⟩
 ·simp at h0
 have hput:=zgC (v:=value) hrw hu;refine rS [.v,.v,.v,.c (vp value (by omega)),.o (ins:=[((.tmp 45),.slice (some ⟨bw,0,none⟩) m2 k2),((.tmp 46),iN (zN key L))]) (v:=.pointer (some ⟨bw,0+(zN key L)*2,none⟩)) (fun ρ o w ho hi2=>yb (kd:=.i64) (t:=50) (e:=64) (K:=2) (bytes:=32) kr (x:=(.tmp 45)) (y:=(.tmp 46)) bw 0 m2 k2 (zN key L) rfl ho hi2.1 hi2.2.1 (by omega) w),.v,.se 0 (C:=cur) (C':=putA cur (0+(zN key L)*2+1) (.string value)) (off:=0+(zN key L)*2+1) (v:=.string value) hput.1 rfl] H17 kr fun gs11 w14 H18=>?_;rw [hset] at hput;have hrow3:zR pS 64 (some ⟨bw,0,none⟩) m2 k2 [(bw,.cells (putA cur (0+(zN key L)*2+1) (.string value)) 64 (0,0))] (yi key value L):=.inr ⟨bw,_,rfl,rfl,hput.2⟩;have hokI:=hok0.ins (k:=key) (v:=value) hm hn;have hlI:=hokI.len;refine zi [0,1,2,3] kr kr<|rp [.v] H18 kr fun gs12 w15 H20=>wX [1,2,3] ?_;have H21:St w.heap.size w w15 [(bw,.cells (putA cur (0+(zN key L)*2+1) (.string value)) 64 (0,0)),((gs1 1).b,boT none 0 0 0)]:=H20.as kr;refine yZ H21 (some 52) 27 #[.slice (some ⟨bw,0,none⟩) m2 k2] (uw (some ⟨bw,0,none⟩) m2 k2 (yi key value L) (by omega) (fun x hx=>(qY (hokI.may x hx)).1.2) (ux.2 hokI.rise)) (hrow3.prAt H21 fun e he=>List.mem_of_mem_head? (by rw [List.mem_singleton.1 he];rfl)) kr kr ?_;rintro v T2 w16 ⟨p3,n3,c3,hrow4,rfl⟩ H22;have H23:St w.heap.size w w16 (((gs1 1).b,boT none 0 0 0)::T2):=(H22.sub (List.Sublist.append_left (List.sublist_cons_self ..) T2)).perm (List.perm_append_comm (l₁:=[((gs1 1).b,boT none 0 0 0)]) (l₂:=T2));refine rp [.s 0,.v] H23 kr fun gs13 w17 H24=>wX []<|zd ?_;have H25:St w.heap.size w w17 (((gs1 1).b,boT p3 n3 c3 (zk 65 (zF (yi key value L)) []).2)::T2):=H24.as kr;refine rRr [.cell 6 38,.tmp 7] [0] (.tuple #[.agg #[.slice p3 n3 c3,.int .i64 (zk 65 (zF (yi key value L)) []).2],.int .i64 0]) (yf w.heap.size w (kK (yi key value L))) H25 kr ?_;exact ⟨T2,⟨p3,n3,c3,hrow4,rfl⟩,H25.sub (List.sublist_cons_self ..)⟩
theorem zme (p:Option Addr)(n c:Nat)(root:Int)(A:List Nd)(hA: ∀x∈A,x.part.size≤0x800000000000)(hAl:A.length≤0xe8d4a51000)(key value:ByteArray){L:List Pr}(hr:qi A root=some L)(hm:mayM key value=true)(hn:yw key L=true∨L.length<64):FnT Tryz.prog 16 #[.agg #[.slice p n c,.int .i64 root],.string key,.string value] (fun w=>yO w p n A) (kK (yi key value L)):=by
 cases hh:yw key L with
 | true=>exact zmc p n c root A hA hAl key value hr hm hh
 | false=>
  have hf:L.length<64:=hn.resolve_left (by rw [hh];decide);have hle:=zga key L;by_cases hp:zN key L=L.length
  ·have h:=zle p n c root A hA hAl key value hr hm hp hf
   rwa [show L++ [(key,value)]=yi key value L by rw [←zcr hh,hp,List.take_length,List.drop_length]] at h
  ·exact zmd p n c root A hA hAl key value hr hm hh (by omega) hf
end Go.Proofs.YtbbdbdndedeokaaGreatDoor
namespace Go.Proofs.YtbbdbdndedeokaaGreatDoor
open Go Go.RowKit
set_option linter.unusedVariables false
namespace D2
section
variable {P:Program}{ops:Array Oper}{R:(Nat→Gh)→Env}{d:Option Nat}{P0:World→Prop}{P1 P2:Gh→World→Prop}
end
end D2
end Go.Proofs.YtbbdbdndedeokaaGreatDoor
namespace Go.Proofs.YtbbdbdndedeokaaGreatDoor.Ke
open Go Go.RowKit Go.Proofs.Kec
set_option linter.unusedVariables false
theorem tcd {α:Type}(L:List α)(q:Nat)(x:α)(h:q<L.length):L.take q++ [x]++L.drop (q+1)=L.set q x:=by
 rw [List.set_eq_take_append_cons_drop,if_pos h,List.append_assoc];rfl
theorem zcF (s:List (BitVec 64)):Value.cells (svn s)=((List.range 25).map fun k=>Value.int .u64 (BitVec.toNat (nth s k):Int)).toArray:=rfl
theorem kQ (s:List (BitVec 64))(k q:Nat)(hq:q=k)(hk:k<25):(Value.cells (svn s))[q]? =some (Value.int .u64 (BitVec.toNat (nth s k):Int)):=by
 subst hq;rw [zcF];simp [hk]
theorem zaN (s:List (BitVec 64))(k j:Nat)(x:BitVec 64)(hk:k<s.length):nth (s.set k x) j=if j=k then x else nth s j:=by
 unfold nth;rw [List.getD_eq_getElem?_getD,List.getD_eq_getElem?_getD,List.getElem?_set];by_cases h:k=j
 ·subst h;simp [hk]
 ·rw [if_neg h,if_neg (fun e=>h e.symm)]
theorem zaO (s:List (BitVec 64))(k q:Nat)(x:BitVec 64)(hs:s.length=25)(hq:q=k)(hk:k<25):
 ((Value.cells (svn s)).toList.take q++(Value.cells (.int .u64 (BitVec.toNat x:Int))).toList++(Value.cells (svn s)).toList.drop (q+(Value.cells (.int .u64 (BitVec.toNat x:Int))).size)).toArray=Value.cells (svn (s.set k x)):=by
 subst hq;rw [zcF,zcF];congr 1;show List.take q _++ [Value.int .u64 (BitVec.toNat x:Int)]++List.drop (q+1) _=_;rw [tcd _ q _ (by simpa using hk)];apply List.ext_getElem?;intro j;rw [List.toList_toArray];rw [List.getElem?_set];by_cases h:q=j
 ·subst h;simp [hk,zaN s q q x (by omega)]
 ·by_cases hj:j<25
  ·simp [h,hj,zaN s q j x (by omega),show ¬j=q from fun e=>h e.symm]
  ·simp [h,hj]
theorem Marks.oldB {B:Nat}{w0 w:World}(HS:Below B w0 w)(hB:B=w0.heap.size)(h:Marks w0):Marks w:=by
 obtain ⟨T,fz,h⟩:=h;exact ⟨T,fz,by rw [HS.block 0 (by rw [hB];exact zC h)];exact h⟩
theorem zgD {s s1:List (BitVec 64)}{n n1 k:Nat}{t:ByteArray}(h:yj (s,n) ((tl t).take k)=(s1,n1))(hk:k<ByteArray.size t):
 yj (s,n) ((tl t).take (k+1))=(if n1+1=136 then (mix (lay s1 n1 (BitVec.ofNat 64 (by_ t k))),0) else (lay s1 n1 (BitVec.ofNat 64 (by_ t k)),n1+1)):=by
 have hk':k<(tl t).length:=hk;rw [List.take_add_one,List.getElem?_eq_getElem hk',Option.toList_some,zaJ,h];unfold qx kf by_;rw [List.getD_eq_getElem?_getD,List.getElem?_eq_getElem hk',Option.getD_some]
theorem zcG (b i:Nat)(hi:i<1000):Fn Tryz.prog 99 #[.int .u8 (b:Int),.int .i64 (i:Int)] (.int .u64 (BitVec.toNat (qj (BitVec.ofNat 64 b) i):Int)):=by
 refine Fn.intro (c:=zl Tryz.f99) [.tmp 4] 11 Tryz.func99 kr kr kr fun w=>?_;have H0:=St.start w;refine rS [.v] H0 kr fun gs1 w1 H1=>?_;clear H0;refine rS [.v,.E (.int .u64 (IntKind.u64.wrap (b:Int))) (.int .u64 (BitVec.toNat (BitVec.ofNat 64 b):Int)) (zdO b),.v,.E (.int .i64 (Int.tmod (i:Int) 8)) (.int .i64 ((i%8:Nat):Int)) (ze (qL i 8)),.E (.int .i64 (IntKind.i64.wrap (((i%8:Nat):Int)*8))) (.int .i64 (((i%8)*8:Nat):Int)) (ze (qB (a:=i%8) (b:=8) (by omega))),.E (.int .u64 (IntKind.u64.wrap (((BitVec.toNat (BitVec.ofNat 64 b):Int))*2^(min ((i%8)*8) 64)))) (.int .u64 (BitVec.toNat ((BitVec.ofNat 64 b) <<< ((i%8)*8)):Int)) (uZ (BitVec.ofNat 64 b) ((i%8)*8)),.v] H1 kr fun gs2 w2 H2=>?_;clear H1;refine zn kr<|wV ?_;refine ⟨[.int .u64 (BitVec.toNat ((BitVec.ofNat 64 b) <<< ((i%8)*8)):Int)],(.tmp (.int .u64 (BitVec.toNat ((BitVec.ofNat 64 b) <<< ((i%8)*8)):Int)) kr .nil),?_,H2.below⟩;rfl
theorem zmf (s:List (BitVec 64))(n:Nat)(t:ByteArray)(hs:s.length=25)(hn:n<136)(ht:ByteArray.size t<0x4000000000000000):FnP Tryz.prog 59 #[svn s,.int .i64 (n:Int),.string t] (Marks) (.tuple #[svn (yj (s,n) (tl t)).1,.int .i64 (((yj (s,n) (tl t)).2:Nat):Int)]):=by
 refine FnP.intro (c:=zl Tryz.f59) [.cell 6 81,.tmp 7] 34 Tryz.func59 kr kr kr fun w hpre=>?_;have H0:=St.start w;refine rS [.b,.a,.v] H0 kr fun gs1 w1 H1=>?_;clear H0;refine zc kr<|rS [.v,.v,.v] H1 kr fun gs2 w2 H2=>?_;clear H1;refine zj 0 kr ?_;have HL1:St w.heap.size w w2 [((gs1 0).b,Obj.cells (Value.cells (svn s)) 81 (0,0)),((gs1 1).b,Obj.cells #[wZ,wZ,wZ,wZ,wZ,wZ,wZ,wZ,wZ,wZ,wZ,wZ,wZ,wZ,wZ,wZ,wZ,wZ,wZ,wZ,wZ,wZ,wZ,wZ,wZ] 81 (0,0))]:=H2.as kr;clear H2;refine zz kr (fun mz ρ ww=> ∃(s1:List (BitVec 64)) (n1:Nat) (k:Nat),ByteArray.size t-k=mz∧(s1.length=25)∧(n1<136)∧(k≤ByteArray.size t)∧(yj (s,n) ((tl t).take k)=(s1,n1))∧St w.heap.size w ww [((gs1 0).b,Obj.cells (Value.cells (svn s1)) 81 (0,0)),((gs1 1).b,Obj.cells #[wZ,wZ,wZ,wZ,wZ,wZ,wZ,wZ,wZ,wZ,wZ,wZ,wZ,wZ,wZ,wZ,wZ,wZ,wZ,wZ,wZ,wZ,wZ,wZ,wZ] 81 (0,0))]∧Is [(0,svn s),(1,.int .i64 (n1:Int)),(2,.string t),(3,.pointer (some ⟨(gs1 0).b,0,none⟩)),(6,.pointer (some ⟨(gs1 1).b,0,none⟩)),(7,.int .i64 0),(10,.int .i64 (ByteArray.size t:Int)),(11,.int .i64 (k:Int))] ρ) (ByteArray.size t-0) ⟨s,n,0,rfl,hs,hn,(by omega),rfl,HL1,(Is.of ⟨kr,kr,kr,kr,kr,kr,kr,kr,trivial⟩)⟩ ?_;clear HL1;rintro _ _ w3 ⟨s1,n1,k,rfl,hs1,hn1,hk,htk,H3,_,rfl⟩;have hbl:=zbn t k;by_cases hc2:(k:Nat)<ByteArray.size t
 ·refine rS [.E (.bool (decide ((k:Int)<(ByteArray.size t:Int)))) (.bool true) (za (decide_eq_true (by omega)))] H3 kr fun gs4 w4 H4=>?_;clear H3;refine zc kr<|zg kr kr<|zh kr<|wW<|zc kr<|zj 1 kr<|rS [.v,.v] H4 kr fun gs5 w5 H5=>?_;clear H4;refine dS [.v,.E (.int .i64 (IntKind.i64.wrap ((n1:Int).tdiv 8))) (.int .i64 ((n1 / 8:Nat):Int)) (ze (vd (a:=n1) (b:=8) (by omega))),.o (ins:=[((.tmp 3),.pointer (some ⟨(gs1 0).b,0,none⟩)),((.tmp 15),.int .i64 ((n1 / 8:Nat):Int))]) (v:=.pointer (some ⟨(gs1 0).b,0+(n1 / 8)*1,none⟩)) (fun ρ o w ho hi=>yS (kd:=.i64) (t:=81) (n:=25) (size:=1) kr (x:=(.tmp 3)) (y:=(.tmp 15)) (gs1 0).b 0 (n1 / 8) ho hi.1 hi.2.1 (by omega) w),.ls (C:=(Value.cells (svn s1))) (off:=0+(n1 / 8)*1) (v:=.int .u64 (BitVec.toNat (nth s1 (n1 / 8)):Int)) 0 (kQ s1 (n1 / 8) _ (by omega) (by omega)),.v,.v,.o (ins:=[((.tmp 18),.string t),((.tmp 19),.int .i64 (k:Int))]) (v:=.int .u8 ((by_ t k:Nat):Int)) (fun ρ o w ho hi=>zQ (t:=9) (kd:=.i64) kr (x:=(.tmp 18)) (y:=(.tmp 19)) t k ho hi.1 hi.2.1 (by omega) w),.v,.c (zcG (by_ t k) n1 (by omega)),.E (.int .u64 (Go.bits .xor .u64 ((BitVec.toNat (nth s1 (n1 / 8)):Int)) ((BitVec.toNat (qj (BitVec.ofNat 64 (by_ t k)) n1):Int)))) (.int .u64 (BitVec.toNat ((nth s1 (n1 / 8)) ^^^ (qj (BitVec.ofNat 64 (by_ t k)) n1)):Int)) (zD (nth s1 (n1 / 8)) (qj (BitVec.ofNat 64 (by_ t k)) n1)),.o (ins:=[((.tmp 3),.pointer (some ⟨(gs1 0).b,0,none⟩)),((.tmp 15),.int .i64 ((n1 / 8:Nat):Int))]) (v:=.pointer (some ⟨(gs1 0).b,0+(n1 / 8)*1,none⟩)) (fun ρ o w ho hi=>yS (kd:=.i64) (t:=81) (n:=25) (size:=1) kr (x:=(.tmp 3)) (y:=(.tmp 15)) (gs1 0).b 0 (n1 / 8) ho hi.1 hi.2.1 (by omega) w),.se (C:=(Value.cells (svn s1))) (C':=(Value.cells (svn (lay s1 n1 (BitVec.ofNat 64 (by_ t k)))))) (off:=0+(n1 / 8)*1) (v:=.int .u64 (BitVec.toNat ((nth s1 (n1 / 8)) ^^^ (qj (BitVec.ofNat 64 (by_ t k)) n1)):Int)) 0 (by show _+1≤25;omega) (zaO s1 (n1 / 8) _ ((nth s1 (n1 / 8)) ^^^ (qj (BitVec.ofNat 64 (by_ t k)) n1)) hs1 (by omega) (by omega))] H5 kr fun w6 H6=>?_;clear H5;refine zJ [0,1,2,3,6,7,8,10,11,12] fun ρ1=>?_;have HK3:=H6.keep;clear H6;refine rS [.v,.E (.int .i64 (IntKind.i64.wrap ((n1:Int)+1))) (.int .i64 ((n1+1:Nat):Int)) (ze (zm (a:=n1) (b:=1) (by omega))),.v] HK3 kr fun gs7 w7 H7=>?_;clear HK3;refine zi [0,1] kr kr<|rp [.v] H7 kr fun gs8 w8 H8=>wX [1] ?_;clear H7;by_cases hc4:(n1+1:Nat)=136
  ·refine rp [.E (.bool (((n1+1:Nat):Int)==136)) (.bool true) (za (beq_iff_eq.2 (by omega)))] H8 kr fun gs9 w9 H9=>wX [] ?_;clear H8;refine zd<|zg kr kr<|rL [.l 0,.cp (pre:=Marks) (zgr (lay s1 n1 (BitVec.ofNat 64 (by_ t k)))) [] (fun w hb hd=>(Marks.oldB hb rfl hpre)),.s 0,.v] H9 kr fun gs10 w10 H10=>?_;clear H9;refine wW<|rL [.E (.int .i64 (IntKind.i64.wrap ((k:Int)+1))) (.int .i64 ((k+1:Nat):Int)) (ze (zm (a:=k) (b:=1) (by omega))),.v] H10 kr fun gs11 w11 H11=>?_;clear H10;have HL5:St w.heap.size w w11 [((gs1 0).b,Obj.cells (Value.cells (svn (mix (lay s1 n1 (BitVec.ofNat 64 (by_ t k)))))) 81 (0,0)),((gs1 1).b,Obj.cells #[wZ,wZ,wZ,wZ,wZ,wZ,wZ,wZ,wZ,wZ,wZ,wZ,wZ,wZ,wZ,wZ,wZ,wZ,wZ,wZ,wZ,wZ,wZ,wZ,wZ] 81 (0,0))]:=H11.as kr;clear H11;show ∃m,_∧_;exact ⟨_,(by omega),(mix (lay s1 n1 (BitVec.ofNat 64 (by_ t k)))),0,(k+1),rfl,(zcv (jo _ _ hs1)),(by omega),(by omega),((zgD htk (by omega)).trans (if_pos (by omega))),HL5,(Is.of ⟨kr,kr,kr,kr,kr,kr,kr,kr,trivial⟩)⟩
  ·refine rp [.E (.bool (((n1+1:Nat):Int)==136)) (.bool false) (za (beq_eq_false_iff_ne.2 (by omega)))] H8 kr fun gs12 w12 H12=>wX [] ?_;clear H8;refine zd<|zf kr kr<|zh kr<|wW<|rL [.E (.int .i64 (IntKind.i64.wrap ((k:Int)+1))) (.int .i64 ((k+1:Nat):Int)) (ze (zm (a:=k) (b:=1) (by omega))),.v] H12 kr fun gs13 w13 H13=>?_;clear H12;have HL6:St w.heap.size w w13 [((gs1 0).b,Obj.cells (Value.cells (svn (lay s1 n1 (BitVec.ofNat 64 (by_ t k))))) 81 (0,0)),((gs1 1).b,Obj.cells #[wZ,wZ,wZ,wZ,wZ,wZ,wZ,wZ,wZ,wZ,wZ,wZ,wZ,wZ,wZ,wZ,wZ,wZ,wZ,wZ,wZ,wZ,wZ,wZ,wZ] 81 (0,0))]:=H13.as kr;clear H13;show ∃m,_∧_;exact ⟨_,(by omega),(lay s1 n1 (BitVec.ofNat 64 (by_ t k))),(n1+1),(k+1),rfl,(jo _ _ hs1),(by omega),(by omega),((zgD htk (by omega)).trans (if_neg (by omega))),HL6,(Is.of ⟨kr,kr,kr,kr,kr,kr,kr,kr,trivial⟩)⟩
 ·refine rS [.E (.bool (decide ((k:Int)<(ByteArray.size t:Int)))) (.bool false) (za (decide_eq_false (by omega)))] H3 kr fun gs14 w14 H14=>?_;clear H3;refine zc kr<|zf kr kr<|zw 0 kr<|wW<|rS [.l 0,.v,.s 1,.v] H14 kr fun gs15 w15 H15=>?_;clear H14;refine zn kr<|wV ?_;refine ⟨[svn s1,.int .i64 (n1:Int)],(.agg (b:=(gs1 1).b) (Value.cells (svn s1)) 81 (0,0) kr (H15.get 1 kr) kr (.tmp (.int .i64 (n1:Int)) kr .nil)),?_,H15.below⟩;rw [List.take_of_length_le (show (tl t).length≤k by rw [zy];omega)] at htk;rw [htk];rfl
theorem zmg (s:List (BitVec 64))(n:Nat)(hs:s.length=25)(hn:n<136):Fn Tryz.prog 62 #[svn s,.int .i64 (n:Int)] (svn (xg (s,n))):=by
 refine Fn.intro (c:=zl Tryz.f62) [.cell 4 81] 19 Tryz.func62 kr kr kr fun w=>?_;have H0:=St.start w;refine rS [.b,.a] H0 kr fun gs1 w1 H1=>?_;clear H0;refine dS [.v,.E (.int .i64 (IntKind.i64.wrap ((n:Int).tdiv 8))) (.int .i64 ((n / 8:Nat):Int)) (ze (vd (a:=n) (b:=8) (by omega))),.o (ins:=[((.tmp 2),.pointer (some ⟨(gs1 0).b,0,none⟩)),((.tmp 6),.int .i64 ((n / 8:Nat):Int))]) (v:=.pointer (some ⟨(gs1 0).b,0+(n / 8)*1,none⟩)) (fun ρ o w ho hi=>yS (kd:=.i64) (t:=81) (n:=25) (size:=1) kr (x:=(.tmp 2)) (y:=(.tmp 6)) (gs1 0).b 0 (n / 8) ho hi.1 hi.2.1 (by omega) w),.ls (C:=(Value.cells (svn s))) (off:=0+(n / 8)*1) (v:=.int .u64 (BitVec.toNat (nth s (n / 8)):Int)) 0 (kQ s (n / 8) _ (by omega) (by omega)),.v,.c (zcG 1 n (by omega)),.E (.int .u64 (Go.bits .xor .u64 ((BitVec.toNat (nth s (n / 8)):Int)) ((BitVec.toNat (qj (BitVec.ofNat 64 1) n):Int)))) (.int .u64 (BitVec.toNat ((nth s (n / 8)) ^^^ (qj (BitVec.ofNat 64 1) n)):Int)) (zD (nth s (n / 8)) (qj (BitVec.ofNat 64 1) n)),.o (ins:=[((.tmp 2),.pointer (some ⟨(gs1 0).b,0,none⟩)),((.tmp 6),.int .i64 ((n / 8:Nat):Int))]) (v:=.pointer (some ⟨(gs1 0).b,0+(n / 8)*1,none⟩)) (fun ρ o w ho hi=>yS (kd:=.i64) (t:=81) (n:=25) (size:=1) kr (x:=(.tmp 2)) (y:=(.tmp 6)) (gs1 0).b 0 (n / 8) ho hi.1 hi.2.1 (by omega) w),.se (C:=(Value.cells (svn s))) (C':=(Value.cells (svn (lay s n 1)))) (off:=0+(n / 8)*1) (v:=.int .u64 (BitVec.toNat ((nth s (n / 8)) ^^^ (qj (BitVec.ofNat 64 1) n)):Int)) 0 (by show _+1≤25;omega) (zaO s (n / 8) _ ((nth s (n / 8)) ^^^ (qj (BitVec.ofNat 64 1) n)) hs (by omega) (by omega))] H1 kr fun w2 H2=>?_;clear H1;refine dS [.v,.l 0,.c (zcG 128 135 (by omega)),.E (.int .u64 (Go.bits .xor .u64 ((BitVec.toNat (nth (lay s n 1) 16):Int)) ((BitVec.toNat (qj (BitVec.ofNat 64 128) 135):Int)))) (.int .u64 (BitVec.toNat ((nth (lay s n 1) 16) ^^^ (qj (BitVec.ofNat 64 128) 135)):Int)) (zD (nth (lay s n 1) 16) (qj (BitVec.ofNat 64 128) 135)),.v,.se (C:=(Value.cells (svn (lay s n 1)))) (C':=(Value.cells (svn (lay (lay s n 1) 135 128)))) (off:=16) (v:=.int .u64 (BitVec.toNat ((nth (lay s n 1) 16) ^^^ (qj (BitVec.ofNat 64 128) 135)):Int)) 0 (of_decide_eq_true kr) (zaO (lay s n 1) 16 16 _ (jo _ _ hs) rfl (by omega))] H2 kr fun w3 H3=>?_;clear H2;refine zJ [0,1,2,4] fun ρ1=>?_;have HK1:=H3.keep;clear H3;refine rS [.l 0,.s 1] HK1 kr fun gs4 w4 H4=>?_;clear HK1;refine zn kr<|wV ?_;refine ⟨[svn (lay (lay s n 1) 135 128)],(.agg (b:=(gs1 1).b) (Value.cells (svn (lay (lay s n 1) 135 128))) 81 (0,0) kr (H4.get 1 kr) kr .nil),?_,H4.below⟩;rfl
theorem b8 (x:BitVec 64)(sh:Nat):UInt8.ofNat (Int.toNat ((BitVec.toNat (BitVec.setWidth 8 (x >>> sh)):Int)))=UInt8.ofNat (BitVec.toNat x / 2^sh):=by
 apply UInt8.toNat_inj.1;rw [Int.toNat_natCast,BitVec.toNat_setWidth,BitVec.toNat_ushiftRight,Nat.shiftRight_eq_div_pow];simp
theorem zmh (q:List (BitVec 64)×Nat)(hq:kN q)(t:ByteArray)(ht:ByteArray.size t<0x4000000000000000):
 FnP Tryz.prog 59 #[svn q.1,.int .i64 ((q.2:Nat):Int),.string t] Marks (.tuple #[svn (yj q (tl t)).1,.int .i64 (((yj q (tl t)).2:Nat):Int)]):=zmf q.1 q.2 t hq.len hq.lt ht
theorem zmi (q:List (BitVec 64)×Nat)(hq:kN q):Fn Tryz.prog 62 #[svn q.1,.int .i64 ((q.2:Nat):Int)] (svn (xg q)):=zmg q.1 q.2 hq.len hq.lt
def kF (s:List (BitVec 64))(i j:Nat):BitVec 8:=if j<i then BitVec.setWidth 8 (nth s (j / 8) >>> (j%8*8)) else 0
theorem zmj (s:List (BitVec 64))(i j:Nat):kF s (i+1) j=if j=i then BitVec.setWidth 8 (nth s (i / 8) >>> (i%8*8)) else kF s i j:=by
 unfold kF;by_cases h:j=i
 ·subst h;rw [if_pos (by omega),if_pos rfl]
 ·rw [if_neg h];by_cases h2:j<i
  ·rw [if_pos (by omega),if_pos h2]
  ·rw [if_neg (by omega),if_neg h2]
theorem zmk (s:List (BitVec 64)):((List.range 32).map fun i=>UInt8.ofBitVec (kF s 32 i))=jm s:=by
 unfold jm;refine List.map_congr_left fun i hi=>?_;unfold kF;rw [if_pos (by simpa using hi)];have h:=b8 (nth s (i / 8)) (i%8*8);rw [Int.toNat_natCast] at h;rw [←h];apply UInt8.toNat_inj.1;have:=(BitVec.setWidth 8 (nth s (i / 8) >>> (i%8*8))).isLt;rw [UInt8.toNat_ofNat_of_lt' (by simpa using this)];rfl
theorem zml (s:List (BitVec 64)):Fn Tryz.prog 60 #[svn s] (.string (zb (jm s))):=by
 refine Fn.intro (c:=zl Tryz.f60) [.tmp 2] 22 Tryz.func60 kr kr kr fun w=>?_;have H0:=St.start w;refine rS [.b,.v] H0 kr fun gs1 w1 H1=>?_;clear H0;refine rS [.a] H1 kr fun gs2 w2 H2=>?_;clear H1;refine zc kr<|rS [.v] H2 kr fun gs3 w3 H3=>?_;clear H2;refine zj 0 kr ?_;have HL1:St w.heap.size w w3 [((gs1 0).b,Obj.cells (Value.cells (svn s)) 81 (0,0)),((gs2 0).b,Obj.cells (Value.cells (ziv .u8 32)) 145 (0,0))]:=H3.as kr;clear H3;have HM2:St w.heap.size w w3 [((gs1 0).b,Obj.cells (Value.cells (svn s)) 81 (0,0)),((gs2 0).b,Obj.cells (Value.cells (ju 32 (kF s 0))) 145 (0,0))]:=HL1;refine zz kr (fun mz ρ ww=> ∃(i:Nat),32-i=mz∧(i≤32)∧St w.heap.size w ww [((gs1 0).b,Obj.cells (Value.cells (svn s)) 81 (0,0)),((gs2 0).b,Obj.cells (Value.cells (ju 32 (kF s i))) 145 (0,0))]∧Is [(0,svn s),(1,.pointer (some ⟨(gs1 0).b,0,none⟩)),(2,.string (⟨#[]⟩)),(3,.pointer (some ⟨(gs2 0).b,0,none⟩)),(5,.int .i64 (i:Int))] ρ) (32-0) ⟨0,rfl,(by omega),HM2,(Is.of ⟨kr,kr,kr,kr,kr,trivial⟩)⟩ ?_;clear HM2;rintro _ _ w4 ⟨i,rfl,hi,H4,_,rfl⟩;by_cases hc3:(i:Nat)<32
 ·refine rS [.E (.bool (decide ((i:Int)<32))) (.bool true) (za (decide_eq_true (by omega)))] H4 kr fun gs5 w5 H5=>?_;clear H4;refine zc kr<|zg kr kr<|zh kr<|wW<|zc kr<|zj 1 kr<|rS [.v,.v] H5 kr fun gs6 w6 H6=>?_;clear H5;refine rL [.v,.v,.E (.int .i64 (IntKind.i64.wrap ((i:Int).tdiv 8))) (.int .i64 ((i / 8:Nat):Int)) (ze (vd (a:=i) (b:=8) (by omega))),.o (ins:=[((.tmp 1),.pointer (some ⟨(gs1 0).b,0,none⟩)),((.tmp 10),.int .i64 ((i / 8:Nat):Int))]) (v:=.pointer (some ⟨(gs1 0).b,0+(i / 8)*1,none⟩)) (fun ρ o w ho hi=>yS (kd:=.i64) (t:=81) (n:=25) (size:=1) kr (x:=(.tmp 1)) (y:=(.tmp 10)) (gs1 0).b 0 (i / 8) ho hi.1 hi.2.1 (by omega) w),.ls (C:=(Value.cells (svn s))) (off:=0+(i / 8)*1) (v:=.int .u64 (BitVec.toNat (nth s (i / 8)):Int)) 0 (kQ s (i / 8) _ (by omega) (by omega)),.v,.E (.int .i64 (Int.tmod (i:Int) 8)) (.int .i64 ((i%8:Nat):Int)) (ze (qL i 8)),.E (.int .i64 (IntKind.i64.wrap (((i%8:Nat):Int)*8))) (.int .i64 (((i%8)*8:Nat):Int)) (ze (qB (a:=i%8) (b:=8) (by omega))),.E (.int .u64 (Int.fdiv ((BitVec.toNat (nth s (i / 8)):Int)) (2^(min ((i%8)*8) 64)))) (.int .u64 (BitVec.toNat ((nth s (i / 8)) >>> ((i%8)*8)):Int)) (zaa (nth s (i / 8)) ((i%8)*8)),.E (.int .u8 (IntKind.u8.wrap ((BitVec.toNat ((nth s (i / 8)) >>> ((i%8)*8)):Int)))) (.int .u8 (BitVec.toNat (BitVec.setWidth 8 ((nth s (i / 8)) >>> ((i%8)*8))):Int)) (zdP ((nth s (i / 8)) >>> ((i%8)*8))),.o (ins:=[((.tmp 3),.pointer (some ⟨(gs2 0).b,0,none⟩)),((.tmp 8),.int .i64 (i:Int))]) (v:=.pointer (some ⟨(gs2 0).b,0+i*1,none⟩)) (fun ρ o w ho hi=>yS (kd:=.i64) (t:=145) (n:=32) (size:=1) kr (x:=(.tmp 3)) (y:=(.tmp 8)) (gs2 0).b 0 i ho hi.1 hi.2.1 (by omega) w),.se (C:=(Value.cells (ju 32 (kF s i)))) (C':=(Value.cells (ju 32 (kF s (i+1))))) (off:=0+i*1) (v:=.int .u8 (BitVec.toNat (BitVec.setWidth 8 ((nth s (i / 8)) >>> ((i%8)*8))):Int)) 1 (by show _+1≤32;omega) (ziw (k:=i) (x:=BitVec.setWidth 8 ((nth s (i / 8)) >>> ((i%8)*8))) (by omega) (by omega) (fun j _=>zmj s i j))] H6 kr fun gs7 w7 H7=>?_;clear H6;refine wW<|zJ [0,1,2,3,4,5,6] fun ρ1=>?_;have HK4:=H7.keep;clear H7;refine rL [.E (.int .i64 (IntKind.i64.wrap ((i:Int)+1))) (.int .i64 ((i+1:Nat):Int)) (ze (zm (a:=i) (b:=1) (by omega))),.v] HK4 kr fun gs8 w8 H8=>?_;clear HK4;have HL5:St w.heap.size w w8 [((gs1 0).b,Obj.cells (Value.cells (svn s)) 81 (0,0)),((gs2 0).b,Obj.cells (Value.cells (ju 32 (kF s (i+1)))) 145 (0,0))]:=H8.as kr;clear H8;show ∃m,_∧_;exact ⟨_,(by omega),(i+1),rfl,(by omega),HL5,(Is.of ⟨kr,kr,kr,kr,kr,trivial⟩)⟩
 ·refine rS [.E (.bool (decide ((i:Int)<32))) (.bool false) (za (decide_eq_false (by omega)))] H4 kr fun gs9 w9 H9=>?_;clear H4;refine zc kr<|zf kr kr<|zw 0 kr<|wW<|zi [0,1,2] kr kr<|rp [.o (ins:=[((.tmp 3),.pointer (some ⟨(gs2 0).b,0,none⟩))]) (v:=.slice (some ⟨(gs2 0).b,0,none⟩) 32 32) (fun ρ o w ho hi=>zdT (t:=145) (n:=32) (e:=5) (z:=1) kr kr (x:=(.tmp 3)) ((gs2 0).b) ho hi.1 w)] H9 kr fun gs10 w10 H10=>wX [1,2] ?_;clear H9;have hi32:i=32:=by omega
  have hrow:=zix 32 (kF s i) (by unfold maxLen;omega);rw [show ((List.range 32).map fun j=>UInt8.ofBitVec (kF s i j))=jm s by rw [hi32];exact zmk _] at hrow;refine kw H10 (some 21) 80 9 5 (.tmp 20) 1 ((gs2 0).b) 32 32 (Value.cells (ju 32 (kF s i))) 145 (0,0) (jm s) kr kr kr kr kr kr kr hrow<|rp [.v] H10 kr fun gs11 w11 H11=>wX [] ?_;clear H10;refine zd<|zn kr<|wV ?_;refine ⟨[.string (zb (jm s))],(.tmp (.string (zb (jm s))) kr .nil),?_,H11.below⟩;rfl
theorem of_fn1 (b:Nat)(s1:ByteArray)(h1:ByteArray.size s1<0x4000000000000000):FnP Tryz.prog 34 #[.slice (some ⟨b,0,none⟩) 1 1] (fun w=>Marks w∧w.heap[b]? =some (.cells #[.string s1] 9 (0,0))) (.string (zb (sumB (tl s1)))):=by
 refine FnP.intro (c:=zl Tryz.f34) [.tmp 2] 26 Tryz.func34 kr kr kr fun w hpre=>?_;have H0:=St.start w;refine rS [.v] H0 kr fun gs1 w1 H1=>?_;clear H0;refine rS [.a] H1 kr fun gs2 w2 H2=>?_;clear H1;refine rS [.v] H2 kr fun gs3 w3 H3=>?_;clear H2;refine zc kr<|rS [.v,.v,.v] H3 kr fun gs4 w4 H4=>?_;clear H3;refine zj 0 kr ?_;have HL1:St w.heap.size w w4 [((gs2 0).b,Obj.cells #[wZ,wZ,wZ,wZ,wZ,wZ,wZ,wZ,wZ,wZ,wZ,wZ,wZ,wZ,wZ,wZ,wZ,wZ,wZ,wZ,wZ,wZ,wZ,wZ,wZ] 81 (0,0))]:=H4.as kr;clear H4;refine zdj kr<|rS [.v] HL1 kr fun gs5 w5 H5=>?_;clear HL1;refine zc kr<|zg kr kr<|zh kr<|wW<|zc kr<|zj 1 kr<|rS [.o (ins:=[((.tmp 7),.slice (some ⟨b,0,none⟩) 1 1),((.tmp 9),.int .i64 0)]) (v:=.pointer (some ⟨b,0+0*1,none⟩)) (fun ρ o w ho hi=>jL (kd:=.i64) (t:=75) (e:=9) (size:=1) (bytes:=16) kr (x:=(.tmp 7)) (y:=(.tmp 9)) b 0 1 1 0 ho hi.1 hi.2.1 (by omega) w),.fs (off:=0+0*1) (v:=.string s1) hpre.2 (zC hpre.2) (by rfl),.v] H5 kr fun gs6 w6 H6=>?_;clear H5;refine rL [.l 0,.v,.v,.cp (pre:=Marks) (zmh (yW,0) zcx s1 (by assumption)) [] (fun w hb hd=>(Marks.oldB hb rfl hpre.1)),.v,.v,.v,.s 0,.v] H6 kr fun gs7 w7 H7=>?_;clear H6;refine wW<|zJ [0,2,3,4,6,7,8,9,10] fun ρ1=>?_;have HK2:=H7.keep;clear H7;refine rL [.v,.v] HK2 kr fun gs8 w8 H8=>?_;clear HK2;show WPL _ _ _ _ _ _;refine xo<|rS [.v] H8 kr fun gs9 w9 H9=>?_;clear H8;refine zc kr<|zf kr kr<|zw 0 kr<|wW<|rS [.l 0,.v,.c (zmi (yj (yW,0) (tl s1)) (zcw _ zcx)),.cp (pre:=Marks) (zgr (xg (yj (yW,0) (tl s1)))) [] (fun w hb hd=>(Marks.oldB hb rfl hpre.1)),.c (zml (mix (xg (yj (yW,0) (tl s1))))),.v] H9 kr fun gs10 w10 H10=>?_;clear H9;refine zn kr<|wV ?_;refine ⟨[.string (zb (jm (mix (xg (yj (yW,0) (tl s1))))))],(.tmp (.string (zb (jm (mix (xg (yj (yW,0) (tl s1))))))) kr .nil),?_,H10.below⟩;rfl
end Go.Proofs.YtbbdbdndedeokaaGreatDoor.Ke
namespace Go.Proofs.YtbbdbdndedeokaaGreatDoor
open Go Go.RowKit
set_option linter.unusedVariables false
theorem kh {w w':World}(h:Ke.Marks w)(hb:Below w.heap.size w w'):Ke.Marks w':=by
 obtain ⟨T,fz,h⟩:=h;exact ⟨T,fz,by rw [hb.block 0 (zC h)];exact h⟩
theorem zcH (s:ByteArray)(hs:s.size<0x4000000000000000):FnP Tryz.prog 17 #[.string s] Ke.Marks (.string (zb (Kec.sumB (tl s)))):=by
 refine FnP.intro (c:=zl Tryz.f17) [.tmp 2] 6 Tryz.func17 kr kr kr fun w hM=>rS [.v] (St.start w) kr fun gs1 w1 H1=>zi [0,1,2,3] kr kr<|rp [.v,.nw (fun b=>.slice (some ⟨b,0,none⟩) 1 1) #[.string s] 9] H1 kr fun gs2 w2 H2=>wX [2,3] ?_;have H3:St w.heap.size w w2 [((gs2 1).b,.cells #[.string s] 9 (0,0))]:=H2.as kr;refine qd H3 (some 5) 34 #[.slice (some ⟨(gs2 1).b,0,none⟩) 1 1] _ _ (Ke.of_fn1 (gs2 1).b s hs) ⟨kh hM H3.below,H3.get 0 rfl⟩ (fun w=>by kernel_rfl) kr ?_;intro w3 H4;refine rp [.v] H4 kr fun gs3 w4 H5=>wX []<|zd ?_;exact rR [.tmp 2] [] (.string (zb (Kec.sumB (tl s)))) H5 kr
theorem zR.ndAt {ty:TypeId}{p:Option Addr}{n c:Nat}{row:List (Nat×Obj)}{A:List Nd}(h:zR nS ty p n c row A){B:Nat}{w0 w:World}{l:List (Nat×Obj)}(hS:St B w0 w l)(hl: ∀e∈row,e∈l):yO w p n A:=NdS.own h w l hS hl
theorem zcI (B:Nat): ∀(f:Nat) (l:List Ent) (A:List Nd),(∀x∈A,x.part.size≤B)→(∀e∈l,e.1.length≤B)→ ∀x∈(zk f l A).1,x.part.size≤B
 | 0,_,A,hA,_=>hA
 | f+1,[],A,hA,_=>hA
 | f+1,[e],A,hA,hl=>fun x hx=>by
  unfold zk at hx;rcases List.mem_append.1 hx with hx | hx
  ·exact hA x hx
  ·rw [List.mem_singleton.1 hx];exact hl e (by simp)
 | f+1,e::e'::r,A,hA,hl=>fun x hx=>by
  unfold zk at hx;split at hx
  ·rcases List.mem_append.1 hx with hx|hx
   ·refine zcI B f _ A hA (fun y hy=>?_) x hx;obtain ⟨z,hz,rfl⟩:=List.mem_map.1 hy;have:=hl z hz;simp only [List.length_drop];omega
   ·rw [List.mem_singleton.1 hx];have:=hl e (by simp);show (e.1.take _).length≤B;rw [List.length_take];omega
  ·rcases List.mem_append.1 hx with hx|hx
   ·have key: ∀n,∀x∈(zu (zk f) (e::e'::r) n A).1,x.part.size≤B:=by
     intro n
     induction n with
     | zero=>exact hA
     | succ n ih=>
      exact zcI B f (zo n (e::e'::r)) _ ih fun y hy=>by
       obtain ⟨b,hb,_⟩:=kH hy;have:=hl _ hb;simp only [List.length_cons] at this;omega
    exact key 16 x hx
   ·rw [List.mem_singleton.1 hx];exact Nat.zero_le _
theorem zgE {L:List Pr}(h:OkP L): ∀x∈(zG L).1,x.part.size≤0x800000000000:=fun x hx=>by
 have:=zcI 64 65 (zF L) [] (fun _ h=>nomatch h) (fun e he=>by
  obtain ⟨y,hy,rfl⟩:=List.mem_map.1 he;have:=(qY (h.may y hy)).1.2;show (hv (tl y.1)).length≤64
  rw [xY,zy];omega) x hx
 omega
theorem zgF {L:List Pr}(h:OkP L):(zG L).1.length≤0xe8d4a51000:=by
 have h1:=vx 65 (zF L) [];have h2:(zF L).length=L.length:=List.length_map ..;have h3:=h.len;rw [h2] at h1;show (zk 65 (zF L) []).1.length≤_;simp only [List.length_nil] at h1;omega
structure I3 where
 l:Bool
 s:ByteArray
 k:Fo
def foI:List I3→Fo
 | []=>.nil
 | x::r=>.cons x.l x.s x.k (foI r)
def bI (s:ByteArray):I3:=⟨false,s,.nil⟩
def lI (xs:List I3):I3:=⟨true,⟨#[]⟩,foI xs⟩
def encI (x:I3):List UInt8:=wr1 x.l x.s (szF x.k) (wrF x.k)
def yp (x:I3):I3:=if (encI x).length<32 then x else bI (zb (Kec.sumB (encI x)))
def yM:Nat→List Ent→I3
 | 0,_=>bI ⟨#[]⟩
 | f+1,[]=>bI ⟨#[]⟩
 | f+1,[e]=>lI [bI (zb (pk e.1 true)),bI e.2]
 | f+1,e::e'::r=>
  if 0<zr (e::e'::r) then lI [bI (zb (pk (e.1.take (zr (e::e'::r))) false)),if zM (zr (e::e'::r)) (e::e'::r)=[] then bI ⟨#[]⟩ else yp (yM f (zM (zr (e::e'::r)) (e::e'::r)))]
  else lI ((List.range 16).map (fun c=>if zo c (e::e'::r)=[] then bI ⟨#[]⟩ else yp (yM f (zo c (e::e'::r))))++ [bI (zW (e::e'::r))])
def qy (f:Nat)(l:List Ent):I3:=if l=[] then bI ⟨#[]⟩ else yp (yM f l)
def itemN (x:Nd)(B:List I3):I3:=
 if x.kind=1 then lI [bI (zb (pk (tl x.part) true)),bI x.value]
 else if x.kind=2 then lI [bI (zb (pk (tl x.part) false)),B.getD (x.kids.getD 0 (-1)).toNat (bI ⟨#[]⟩)]
 else lI ((List.range 16).map (fun c=>if x.kids.getD c (-1)= -1 then bI ⟨#[]⟩ else B.getD (x.kids.getD c (-1)).toNat (bI ⟨#[]⟩))++ [bI x.value])
def qc (A:List Nd):List I3:=A.foldl (fun B x=>B++ [yp (itemN x B)]) []
theorem zgG (A:List Nd)(x:Nd):qc (A++ [x])=qc A++ [yp (itemN x (qc A))]:=by
 unfold qc;rw [List.foldl_append];rfl
theorem zcJ: ∀(Z:List Nd) (B:List I3),∃Y,Z.foldl (fun B x=>B++ [yp (itemN x B)]) B=B++Y∧Y.length=Z.length
 | [],B=>⟨[],by simp,rfl⟩
 | x::Z,B=>by
  obtain ⟨Y,h,hl⟩:=zcJ Z (B++ [yp (itemN x B)]);exact ⟨yp (itemN x B)::Y,by rw [List.foldl_cons,h,List.append_assoc];rfl,by rw [List.length_cons,List.length_cons,hl]⟩
theorem zcK (A:List Nd):(qc A).length=A.length:=by
 obtain ⟨Y,h,hl⟩:=zcJ A [];unfold qc;rw [h,List.nil_append,hl]
theorem zmm (A Z:List Nd):∃Y,qc (A++Z)=qc A++Y:=by
 obtain ⟨Y,h,_⟩:=zcJ Z (qc A);exact ⟨Y,by unfold qc at h ⊢;rw [List.foldl_append];exact h⟩
theorem zmn {A Z:List Nd}{m:Nat}(h:m<A.length):(qc (A++Z)).getD m (bI ⟨#[]⟩)=(qc A).getD m (bI ⟨#[]⟩):=by
 obtain ⟨Y,hY⟩:=zmm A Z;rw [hY,List.getD_eq_getElem?_getD,List.getD_eq_getElem?_getD,List.getElem?_append_left (by rw [zcK];exact h)]
theorem zgH (A:List Nd)(x:Nd):(qc (A++ [x])).getD A.length (bI ⟨#[]⟩)=yp (itemN x (qc A)):=by
 rw [zgG,List.getD_eq_getElem?_getD,List.getElem?_append_right (by rw [zcK];exact Nat.le_refl _),zcK,Nat.sub_self];rfl
theorem zgI (p v:ByteArray)(ks:List Int)(B:List I3):itemN ⟨1,p,v,ks⟩ B=lI [bI (zb (pk (tl p) true)),bI v]:=by unfold itemN;rw [if_pos rfl]
theorem zgJ (p v:ByteArray)(ks:List Int)(B:List I3):itemN ⟨2,p,v,ks⟩ B=lI [bI (zb (pk (tl p) false)),B.getD (ks.getD 0 (-1)).toNat (bI ⟨#[]⟩)]:=by unfold itemN;rw [if_neg (show ¬(2:Int)=1 by decide),if_pos rfl]
theorem zgK (p v:ByteArray)(ks:List Int)(B:List I3):itemN ⟨3,p,v,ks⟩ B=lI ((List.range 16).map (fun c=>if ks.getD c (-1)= -1 then bI ⟨#[]⟩ else B.getD (ks.getD c (-1)).toNat (bI ⟨#[]⟩))++ [bI v]):=by unfold itemN;rw [if_neg (show ¬(3:Int)=1 by decide),if_neg (show ¬(3:Int)=2 by decide)]
theorem zgL {f:Nat}{e e':Ent}{r:List Ent}(A:List Nd)(hc:0<zr (e::e'::r)):zk (f+1) (e::e'::r) A=
 ((zk f (zM (zr (e::e'::r)) (e::e'::r)) A).1++ [⟨2,zb (e.1.take (zr (e::e'::r))),⟨#[]⟩,(zk f (zM (zr (e::e'::r)) (e::e'::r)) A).2::List.replicate 15 (-1)⟩],((zk f (zM (zr (e::e'::r)) (e::e'::r)) A).1.length:Int)):=by
 rw [zk,if_pos hc]
theorem zgM {f:Nat}{e e':Ent}{r:List Ent}(A:List Nd)(hc: ¬0<zr (e::e'::r)):zk (f+1) (e::e'::r) A=
 ((zu (zk f) (e::e'::r) 16 A).1++ [⟨3,⟨#[]⟩,zW (e::e'::r),(zu (zk f) (e::e'::r) 16 A).2⟩],((zu (zk f) (e::e'::r) 16 A).1.length:Int)):=by
 rw [zk,if_neg hc]
theorem zcL {f:Nat}{e e':Ent}{r:List Ent}(hc:0<zr (e::e'::r)):yM (f+1) (e::e'::r)=lI [bI (zb (pk (e.1.take (zr (e::e'::r))) false)),yp (yM f (zM (zr (e::e'::r)) (e::e'::r)))]:=by
 rw [yM,if_pos hc,if_neg (by simp [zM])]
theorem zcM {f:Nat}{e e':Ent}{r:List Ent}(hc: ¬0<zr (e::e'::r)):yM (f+1) (e::e'::r)=lI ((List.range 16).map (fun c=>qy f (zo c (e::e'::r)))++ [bI (zW (e::e'::r))]):=by
 rw [yM,if_neg hc];rfl
theorem uF: ∀(f:Nat) (l:List Ent) (A:List Nd),l≠[]→Okl f l→∃(A':List Nd) (x:Nd),(zk f l A).1=A'++ [x]∧(zk f l A).2=(A'.length:Int)∧itemN x (qc A')=yM f l
 | 0,[],_,h,_=>absurd rfl h
 | 0,e::l,_,_,h=>absurd (h e (List.mem_cons_self ..)).1 (Nat.not_lt_zero _)
 | f+1,[],_,h,_=>absurd rfl h
 | f+1,[e],A,_,_=>⟨A,⟨1,zb e.1,e.2,qu⟩,rfl,rfl,zgI ..⟩
 | f+1,e::e'::r,A,_,ho=>by
  by_cases hc:0<zr (e::e'::r)
  ·have hd:zM (zr (e::e'::r)) (e::e'::r)≠[]:=by simp [zM]
   obtain ⟨A1,x1,h1,h2,h3⟩:=uF f _ A hd (kG (e:=e) rfl hc ho);rw [zgL A hc,zcL hc];refine ⟨_,_,rfl,rfl,?_⟩;rw [zgJ,List.getD_cons_zero,h2,Int.toNat_natCast,h1,zgH,h3];rfl
  ·rw [zgM A hc,zcM hc];refine ⟨_,_,rfl,rfl,?_⟩;rw [zgK];have key: ∀c∈List.range 16,(if ((zu (zk f) (e::e'::r) 16 A).2).getD c (-1)= -1 then bI ⟨#[]⟩ else (qc (zu (zk f) (e::e'::r) 16 A).1).getD (((zu (zk f) (e::e'::r) 16 A).2).getD c (-1)).toNat (bI ⟨#[]⟩))=qy f (zo c (e::e'::r)):=fun c hc16=>by
    have hc16:=List.mem_range.1 hc16;rw [uv (zk f) (e::e'::r) A 16 c hc16];unfold qy;by_cases hn:zo c (e::e'::r)=[]
    ·rw [if_pos hn,hn];have e0:(zk f ([]:List Ent) (zu (zk f) (e::e'::r) c A).1).2= -1:=by cases f<;>simp [zk]
     rw [e0,if_pos rfl]
    ·rw [if_neg hn];obtain ⟨A1,x1,h1,h2,h3⟩:=uF f (zo c (e::e'::r)) (zu (zk f) (e::e'::r) c A).1 hn (jZ c ho);rw [h2,if_neg (by omega),Int.toNat_natCast];obtain ⟨Z,hZ⟩:=zb9 f (e::e'::r) A (c+1) 16 (by omega);rw [hZ];have hs:(zu (zk f) (e::e'::r) (c+1) A).1=A1++ [x1]:=h1;rw [hs,zmn (by simp),zgH,h3]
   rw [List.map_congr_left key]
def okI (x:I3):Prop:=zS x.l x.s x.k.len=false∧pureF x.k=true
theorem kT (s:ByteArray):okI (bI s):=⟨rfl,rfl⟩
theorem zgN: ∀L:List I3,(∀x∈L,okI x)→pureF (foI L)=true
 | [],_=>rfl
 | x::r,h=>by
  have hx:=h x (List.mem_cons_self ..);unfold foI pureF;rw [hx.1,hx.2,zgN r fun y hy=>h y (List.mem_cons_of_mem _ hy)];rfl
theorem zgO {L:List I3}(h: ∀x∈L,okI x):okI (lI L):=⟨rfl,zgN L h⟩
theorem zgP {x:I3}(h:okI x):okI (yp x):=by unfold yp;split;exact h;exact kT _
theorem zgQ: ∀L:List I3,wrF (foI L)=L.flatMap encI
 | []=>rfl
 | x::r=>by
  show wr1 x.l x.s (szF x.k) (wrF x.k)++wrF (foI r)=_;rw [zgQ r,List.flatMap_cons];rfl
theorem zmo {x:I3}(h:okI x):0<(encI x).length:=(zai h.1 h.2 rfl).1
theorem zcN (f n:Nat):1≤(hd f n).length∧(hd f n).length≤9:=by
 unfold hd;split
 ·simp
 ·have:=jx n;simp only [List.length_cons];omega
theorem vB (s:ByteArray):(encI (bI s)).length≤s.size+9∧s.size≤(encI (bI s)).length:=by
 have hh:=(zcN (frm false) (s.size+szF Fo.nil)).2;unfold encI bI wr1;simp only [wrF,List.append_nil,List.length_append,zy];split
 ·simp
 ·omega
theorem zgR {L:List I3}(h: ∀x∈L,okI x):(L.flatMap encI).length+1≤(encI (lI L)).length∧(encI (lI L)).length≤(L.flatMap encI).length+9:=by
 have hh:=zcN (frm true) ((⟨#[]⟩:ByteArray).size+szF (foI L));have e0:qp ⟨#[]⟩=false:=by decide
 have e2:encI (lI L)=(if qp ⟨#[]⟩=true then [] else hd (frm true) ((⟨#[]⟩:ByteArray).size+szF (foI L)))++(tl ⟨#[]⟩++wrF (foI L)):=rfl;rw [e2,if_neg (by rw [e0];decide),zgQ,List.length_append,List.length_append,show (tl (⟨#[]⟩:ByteArray)).length=0 from rfl];omega
theorem zmp {x:I3}(h:okI x):(encI (yp x)).length≤41:=by
 unfold yp;split
 ·omega
 ·have:=(vB (zb (Kec.sumB (encI x)))).1;rw [zO,Kec.sumB_len] at this;exact this
def dpI (x:I3):Nat:=dp1 x.l (dpF x.k)
theorem zmq (s:ByteArray):dpI (bI s)=0:=rfl
theorem zgS (m:Nat): ∀L:List I3,(∀x∈L,dpI x≤m)→dpF (foI L)≤m
 | [],_=>Nat.zero_le _
 | x::r,h=>by
  have h1:=h x (List.mem_cons_self ..);have h2:=zgS m r fun y hy=>h y (List.mem_cons_of_mem _ hy);show max (dp1 x.l (dpF x.k)) (dpF (foI r))≤m;exact Nat.max_le.2 ⟨h1,h2⟩
theorem zcO (m:Nat){L:List I3}(h: ∀x∈L,dpI x≤m):dpI (lI L)≤m+1:=by
 have:=zgS m L h;show dp1 true (dpF (foI L))≤m+1;unfold dp1;simp;omega
theorem zgT {x:I3}{m:Nat}(h:(encI x).length<32→dpI x≤m):dpI (yp x)≤m:=by
 unfold yp;split
 ·rename_i q;exact h q
 ·rw [zmq];exact Nat.zero_le _
theorem zgU {α:Type}(g:α→List UInt8): ∀(L:List α),(∀x∈L,1≤(g x).length)→L.length≤(L.flatMap g).length∧ ∀x∈L,L.length+(g x).length≤(L.flatMap g).length+1
 | [],_=>⟨Nat.le_refl _,fun _ h=>nomatch h⟩
 | y::L,h=>by
  obtain ⟨h1,h2⟩:=zgU g L fun x hx=>h x (List.mem_cons_of_mem _ hx);have hy:=h y (List.mem_cons_self ..);rw [List.flatMap_cons,List.length_append,List.length_cons];refine ⟨by omega,fun x hx=>?_⟩;rcases List.mem_cons.1 hx with rfl|hx
  ·omega
  ·have:=h2 x hx;omega
structure Okm (x:I3):Prop where
 ok:okI x
 d4:dpI x≤4
 d3:(encI x).length<32→dpI x≤3
 d1:(encI x).length<18→dpI x≤1
 sz:(encI x).length≤1800
theorem Okm.told {x:I3}(h:Okm x):okI (yp x)∧dpI (yp x)≤3∧(encI (yp x)).length≤41:=⟨zgP h.ok,zgT h.d3,zmp h.ok⟩
theorem zgV {α:Type}(g:α→List UInt8)(m:Nat): ∀(L:List α),(∀x∈L,(g x).length≤m)→(L.flatMap g).length≤m*L.length
 | [],_=>by simp
 | y::L,h=>by
  have h1:=zgV g m L fun x hx=>h x (List.mem_cons_of_mem _ hx);have hy:=h y (List.mem_cons_self ..);rw [List.flatMap_cons,List.length_append,List.length_cons,Nat.mul_succ];omega
theorem vC (l:List UInt8)(e:Bool):(zb (pk l e)).size=l.length / 2+1:=by rw [zO,zkf]
theorem zmr {K:List I3}{v:ByteArray}(h16:K.length=16)(hv:v.size≤500)(hK: ∀x∈K,x=bI ⟨#[]⟩∨∃y,Okm y∧x=yp y):
 Okm (lI (K++ [bI v]))∧18≤(encI (lI (K++ [bI v]))).length∧((encI (lI (K++ [bI v]))).length<32→dpI (lI (K++ [bI v]))≤2):=by
 have e0:(encI (bI ⟨#[]⟩)).length=1:=by decide
 have hok: ∀x∈K++ [bI v],okI x:=fun x hx=>by
  rcases List.mem_append.1 hx with hx|hx
  ·rcases hK x hx with rfl|⟨y,hy,rfl⟩
   ·exact kT _
   ·exact zgP hy.ok
  ·rw [List.mem_singleton.1 hx];exact kT _
 have h1:=zgR hok;have h2:=zgU encI (K++ [bI v]) fun x hx=>zmo (hok x hx);have hlen:(K++ [bI v]).length=17:=by simp [h16]
 rw [hlen] at h2;have hd4: ∀x∈K++ [bI v],dpI x≤3:=fun x hx=>by
  rcases List.mem_append.1 hx with hx|hx
  ·rcases hK x hx with rfl|⟨y,hy,rfl⟩
   ·exact Nat.zero_le _
   ·exact hy.told.2.1
  ·rw [List.mem_singleton.1 hx];exact Nat.zero_le _
 have hs:(encI (lI (K++ [bI v]))).length<32→dpI (lI (K++ [bI v]))≤2:=fun q=>zcO 1 fun x hx=>by
  rcases List.mem_append.1 hx with hx' | hx'
  ·rcases hK x hx' with rfl|⟨y,hy,rfl⟩
   ·exact Nat.zero_le _
   ·have h3:=h2.2 _ hx;unfold yp at h3 ⊢;split
    ·rename_i q2;rw [if_pos q2] at h3;exact hy.d1 (by omega)
    ·exact Nat.zero_le _
  ·rw [List.mem_singleton.1 hx'];exact Nat.zero_le _
 have hsz:((K++ [bI v]).flatMap encI).length≤41*16+509:=by
  have hk:=zgV encI 41 K fun x hx=>by
   rcases hK x hx with rfl|⟨y,hy,rfl⟩
   ·rw [e0];omega
   ·exact hy.told.2.2
  rw [h16] at hk;have:=(vB v).1;rw [List.flatMap_append,List.length_append,List.flatMap_cons,List.flatMap_nil,List.append_nil];omega
 refine ⟨⟨zgO hok,zcO 3 hd4,fun q=>Nat.le_succ_of_le (hs q),fun q=>by omega,by omega⟩,by omega,hs⟩
theorem zgW {a b:I3}(m:Nat)(ha:okI a)(hb:okI b)(da:dpI a=0)(db:dpI b≤m)(sa:(encI a).length≤42)(sb:(encI b).length≤509):
 okI (lI [a,b])∧dpI (lI [a,b])≤m+1∧(encI (lI [a,b])).length≤560∧(encI a).length+(encI b).length+1≤(encI (lI [a,b])).length:=by
 have hok: ∀x∈[a,b],okI x:=fun x hx=>by
  rcases List.mem_cons.1 hx with rfl|hx
  ·exact ha
  ·rw [List.mem_singleton.1 hx];exact hb
 have h1:=zgR hok;have e:([a,b].flatMap encI).length=(encI a).length+(encI b).length:=by simp
 rw [e] at h1;refine ⟨zgO hok,zcO m fun x hx=>?_,by omega,by omega⟩;rcases List.mem_cons.1 hx with rfl | hx
 ·omega
 ·rw [List.mem_singleton.1 hx];exact db
theorem zcP {l:List Ent}(h: ∀e∈l,e.2.size≤500):(zW l).size≤500:=by
 induction l with
 | nil=>show (0:Nat)≤500;omega
 | cons e r ih=>
  unfold zW;split
  ·exact h e (List.mem_cons_self ..)
  ·exact ih fun x hx=>h x (List.mem_cons_of_mem _ hx)
theorem ki: ∀(f:Nat) (l:List Ent),l≠[]→Okl f l→(∀e∈l,e.1.length≤64∧e.2.size≤500)→Okm (yM f l)∧(2≤l.length→zr l=0→18≤(encI (yM f l)).length∧((encI (yM f l)).length<32→dpI (yM f l)≤2))
 | 0,[],h,_,_=>absurd rfl h
 | 0,e::l,_,h,_=>absurd (h e (List.mem_cons_self ..)).1 (Nat.not_lt_zero _)
 | f+1,[],h,_,_=>absurd rfl h
 | f+1,[e],_,_,hs=>by
  have h1:=hs e (by simp);have ha:=vB (zb (pk e.1 true));rw [vC] at ha;have hb:=vB e.2;obtain ⟨q1,q2,q3,q4⟩:=zgW 0 (kT (zb (pk e.1 true))) (kT e.2) rfl (Nat.le_refl _) (by omega) (by omega);refine ⟨⟨q1,?_,fun _=>?_,fun _=>q2,?_⟩,fun h=>absurd h (by simp)⟩
  ·exact Nat.le_trans q2 (by omega)
  ·exact Nat.le_trans q2 (by omega)
  ·exact Nat.le_trans q3 (by omega)
 | f+1,e::e'::r,_,ho,hs=>by
  by_cases hc:0<zr (e::e'::r)
  ·have hd:zM (zr (e::e'::r)) (e::e'::r)≠[]:=by simp [zM]
   obtain ⟨i1,i2⟩:=ki f _ hd (kG (e:=e) rfl hc ho) fun x hx=>by
    obtain ⟨y,hy,rfl⟩:=List.mem_map.1 hx;have:=hs y hy;exact ⟨by simp only [List.length_drop];omega,this.2⟩
   have i2:=i2 (by rw [xF];simp) (zfT rfl);rw [zcL hc];generalize yM f (zM (zr (e::e'::r)) (e::e'::r))=y at*;have h1:=hs e (by simp);have ha:=vB (zb (pk (e.1.take (zr (e::e'::r))) false));rw [vC,List.length_take] at ha;have ht:=i1.told;have hge:18≤(encI (yp y)).length:=by
    unfold yp;split
    ·exact i2.1
    ·have:=(vB (zb (Kec.sumB (encI y)))).2;rw [zO,Kec.sumB_len] at this;omega
   have hd2:dpI (yp y)≤2:=zgT i2.2;obtain ⟨q1,q2,q3,q4⟩:=zgW 2 (kT (zb (pk (e.1.take (zr (e::e'::r))) false))) ht.1 rfl hd2 (by omega) (by omega);exact ⟨⟨q1,by omega,fun _=>q2,fun q=>by omega,by omega⟩,fun _ h=>absurd h (by omega)⟩
  ·rw [zcM hc];have hb:=zmr (K:=(List.range 16).map (fun c=>qy f (zo c (e::e'::r)))) (v:=zW (e::e'::r)) (by simp) (zcP fun x hx=>(hs x hx).2) fun x hx=>by
    obtain ⟨c,_,rfl⟩:=List.mem_map.1 hx;unfold qy;by_cases hn:zo c (e::e'::r)=[]
    ·left;rw [if_pos hn]
    ·right;rw [if_neg hn];refine ⟨_,(ki f _ hn (jZ c ho) fun x hx=>?_).1,rfl⟩;obtain ⟨b,hb,_⟩:=kH hx;have:=hs _ hb;simp only [List.length_cons] at this;exact ⟨by omega,this.2⟩
   exact ⟨hb.1,fun _ _=>hb.2⟩
theorem zaP: ∀ {k:Fo},pureF k=true→k.cnt≤szF k
 | .nil,_=>Nat.le_refl _
 | .cons l s k r,h=>by
  unfold pureF at h;simp only [Bool.and_eq_true,Bool.not_eq_true'] at h;have h1:=zaP h.1.2;have h2:=zaP h.2;have h3:=vo h.1.1 (jY h.1.2);have h4:=jY h.1.2;have h5:k.cnt+1≤sz1 l s (szF k):=by
   rw [←h3];unfold wr1;rw [List.length_append,List.length_append,zy,h4];split
   ·rename_i hs
    unfold qp at hs;simp only [Bool.and_eq_true,decide_eq_true_eq] at hs;simp only [List.length_nil];omega
   ·have:=(zcN (frm l) (s.size+szF k)).1;omega
  show 1+k.cnt+r.cnt≤sz1 l s (szF k)+szF r;omega
theorem zgX {x:I3}(h:Okm x):yo x.l x.s x.k.len x.k=(zb (encI x),0):=by
 have h1:=jY h.ok.2;have h2:=vo h.ok.1 h1;have h3:=h.sz;have h4:=zaP h.ok.2;have h5:szF x.k≤(encI x).length:=by
  unfold encI wr1;rw [List.length_append,List.length_append,h1];omega
 have h6:lf1 x.l x.s x.k.len (lfF x.k) 4000=some (3999-x.k.cnt):=by
  unfold lf1;rw [if_neg (by rw [h.ok.1];simp),xS,if_pos ⟨h.ok.2,by omega⟩]
 unfold yo;rw [h6];simp only;have hd: ¬8<dp1 x.l (dpF x.k):=by
  have:=h.d4;unfold dpI at this;omega
 rw [if_neg hd,if_neg (by rw [←h2];show ¬4000<(encI x).length;omega)];rfl
end Go.Proofs.YtbbdbdndedeokaaGreatDoor
namespace Go.Proofs.YtbbdbdndedeokaaGreatDoor
open Go Go.RowKit
open D2 (Gh)
set_option linter.unusedVariables false
def X3.i (x:X3):I3:=⟨x.l,x.s,x.k⟩
theorem zcQ: ∀L:List X3,toFo L=foI (L.map X3.i)
 | []=>rfl
 | x::r=>by
  show Fo.cons x.l x.s x.k (toFo r)=_;rw [zcQ r];rfl
def jG (x:X3):X3:=if (encI x.i).length<32 then x else b3 (zb (Kec.sumB (encI x.i)))
theorem zms (x:X3):(jG x).i=yp x.i:=by unfold jG yp;split<;>rfl
theorem zaQ (s:ByteArray):Fn Tryz.prog 107 #[.string s] (itV (b3 s)):=by
 refine Fn.intro (c:=zl Tryz.f107) [.cell 2 73] 5 Tryz.func107 kr kr kr fun w=>rS [.a] (St.start w) kr fun gs1 w1 H1=>rS [.v,.v,.s 0] H1 kr fun gs2 w2 H2=>?_;exact rRe [.cell 2 73] [0] (v:=itV (b3 s)) (v':=itV (b3 s)) H2 rfl kr
theorem zgY (s:ByteArray)(e:Bool)(hs:s.size≤100000)(hp:isP (tl s)=true):Fn Tryz.prog 106 #[.string s,.bool e] (itV (b3 (zb (pk (tl s) e)))):=by
 refine Fn.intro (c:=zl Tryz.f106) [.cell 4 73] 15 Tryz.func106 kr kr kr fun w=>rS [.a] (St.start w) kr fun gs1 w1 H1=>rS [.v,.v,.c (zkv s (by omega) e hp),.v,.v,.v,.v,.v] H1 kr fun gs2 w2 H2=>rS [.v,.c (zaQ (zb (pk (tl s) e))),.s 0] H2 kr fun gs3 w3 H3=>?_;exact rRe [.cell 4 73] [0] (v:=itV (b3 (zb (pk (tl s) e)))) (v':=itV (b3 (zb (pk (tl s) e)))) H3 rfl kr
theorem zmt (x:X3)(hx:Okm x.i)(hs:x.s.size≤0x800000000000):FnP Tryz.prog 69 #[itV x] (fun w=>zq w.heap.size w x.p x.n x.k∧Ke.Marks w) (itV (jG x)):=by
 refine FnP.intro (c:=zl Tryz.f69) [.cell 2 73] 17 Tryz.func69 kr kr kr fun w hP=>?_;obtain ⟨hP,hM⟩:=hP;have henc:=zbG x.l x.s x.p x.n x.c x.k hs;rw [show yo x.l x.s x.n x.k=(zb (encI x.i),0) by rw [hP.1];exact zgX hx] at henc;refine rS [.b,.a] (St.start w) kr fun gs1 w1 H1=>rS [.l 0,.cp (pre:=fun w=>zq w.heap.size w x.p x.n x.k) henc [] (fun w hb hd=>hP.call hb),.v,.v,.v,.v,.v] H1 kr fun gs2 w2 H2=>zc kr ?_;by_cases hl:(encI x.i).length<32
 ·refine rS [.v,.v,.E (.bool (decide ((((zb (encI x.i)).size:Nat):Int)<32))) (.bool true) (za (decide_eq_true (by rw [zO];omega)))] H2 kr fun gs3 w3 H3=>zg kr kr<|rS [.l 0,.s 1] H3 kr fun gs4 w4 H4=>?_;exact rRe [.cell 2 73] [1] (v:=itV x) (v':=itV (jG x)) H4 (by unfold jG;rw [if_pos hl]) kr
 ·refine rS [.v,.v,.E (.bool (decide ((((zb (encI x.i)).size:Nat):Int)<32))) (.bool false) (za (decide_eq_false (by rw [zO];omega)))] H2 kr fun gs3 w3 H3=>zf kr kr<|zh kr<|wW ?_;have hsz:=hx.sz;refine rS [.v,.cp (zcH (zb (encI x.i)) (by rw [zO];omega)) [] (fun w hb hd=>kh hM hb),.c (zaQ (zb (Kec.sumB (encI x.i)))),.s 1] H3 kr fun gs4 w4 H4=>?_;exact rRe [.cell 2 73] [1] (v:=itV (b3 (zb (Kec.sumB (encI x.i))))) (v':=itV (jG x)) H4 (by unfold jG;rw [if_neg hl]) kr
def jR (w:World)(b:Nat)(L:List X3):Prop:=∃C T fz,w.heap[b]? =some (.cells C T fz)∧yq iS C 0 L
theorem jR.call {w w':World}{b:Nat}{L:List X3}(h:jR w b L)(hb:Below w.heap.size w w'):jR w' b L:=by
 obtain ⟨C,T,fz,hh,hR⟩:=h;exact ⟨C,T,fz,by rw [hb.block b (zC hh)];exact hh,hR⟩
def zgZ (L:List X3)(v:Value)(T:List (Nat×Obj)):Prop:=∃(b c:Nat) (cur:Array Value),v=.slice (some ⟨b,0,none⟩) L.length c∧T=[(b,.cells cur 73 (0,0))]∧Rw 3 cur c L.length (cellsF iS L)
def xJ (L:List X3)(v:Value)(T:List (Nat×Obj)):Prop:=∃(b c:Nat) (cur:Array Value),v=.agg #[.bool true,.string emB,.slice (some ⟨b,0,none⟩) L.length c]∧T=[(b,.cells cur 73 (0,0))]∧Rw 3 cur c L.length (cellsF iS L)
theorem zmu (b c:Nat)(L:List X3)(hL:L.length≤1000):FnT Tryz.prog 124 #[.slice (some ⟨b,0,none⟩) L.length c] (fun w=>jR w b L) (zgZ L):=by
 refine FnT.intro (c:=zl Tryz.f124) [.tmp 2] 8 Tryz.func124 kr kr kr fun w hP=>rS [.v] (St.start w) kr fun gs1 w1 H1=>zc kr<|rS [.v,.v] H1 kr fun gs2 w2 H2=>zf kr kr<|zh kr<|wW<|zi [0,1,2,3] kr kr<|rp [.nw (fun b=>.slice (some ⟨b,0,none⟩) 0 0) #[] 73,.v] H2 kr fun gs3 w3 H3=>wX [2,3] ?_;have H4:St w.heap.size w w3 [((gs3 0).b,.cells #[] 73 (0,0))]:=H3.as kr;obtain ⟨C,T,fz,hh,hR⟩:=hP.call H4.below;refine ziG (S:=iS) H4 (some 7) 71 73 48 (.tmp 5) (.tmp 6) 0 (gs3 0).b 0 0 L.length c ⟨b,0,none⟩ #[] [] L kr kr kr kr kr (Rw.lit #[] 0 rfl (by unfold maxLen;omega)) kr rfl (.inr ⟨b,0,C,T,fz,rfl,hh,hR⟩) (by omega) (by unfold maxLen;omega) ?_;intro b' cap' cur' w4 H5 hr;rw [Nat.zero_add,List.nil_append] at hr;rw [Nat.zero_add];refine rp [.v] H5 kr fun gs4 w5 H6=>wX []<|zd ?_;have H7:St w.heap.size w w5 [(b',.cells cur' 73 (0,0))]:=H6.as kr;refine rRr [.tmp 2] [] (.slice (some ⟨b',0,none⟩) L.length cap') (yf w.heap.size w (zgZ L)) H6 kr ?_;exact ⟨_,⟨b',cap',cur',rfl,rfl,hr⟩,H7⟩
theorem zcR (b c:Nat)(L:List X3)(hL:L.length≤1000):FnT Tryz.prog 93 #[.slice (some ⟨b,0,none⟩) L.length c] (fun w=>jR w b L) (xJ L):=by
 refine FnT.intro (c:=zl Tryz.f93) [.cell 2 73] 6 Tryz.func93 kr kr kr fun w hP=>rS [.a] (St.start w) kr fun gs1 w1 H1=>zi [0,1,2,3] kr kr<|rp [.v] H1 kr fun gs2 w2 H2=>wX [1,2,3] ?_;have H3:St w.heap.size w w2 [((gs1 0).b,itO (b3 emB))]:=H2.as kr;refine yZ H3 (some 4) 124 #[.slice (some ⟨b,0,none⟩) L.length c] (zmu b c L hL) (hP.call H3.below) kr kr ?_;rintro _ _ w3 ⟨b',c',cur,rfl,rfl,hr⟩ H4;refine rp [.v,.s 1] H4 kr fun gs3 w4 H5=>wX []<|zd ?_;have H6:St w.heap.size w w4 [(b',.cells cur 73 (0,0)),((gs1 0).b,.cells #[.bool true,.string emB,.slice (some ⟨b',0,none⟩) L.length c'] 73 (0,0))]:=H5.as kr;refine rRr [.cell 2 73] [1] (.agg #[.bool true,.string emB,.slice (some ⟨b',0,none⟩) L.length c']) (yf w.heap.size w (xJ L)) H5 kr ?_;exact ⟨_,⟨b',c',cur,rfl,rfl,hr⟩,H6.sub (List.Sublist.cons_cons _ (List.nil_sublist _))⟩
theorem zg0 {α:Type}{S:Fl α} : ∀(M:List α) (i:Nat) (x:α),i<M.length→cellsF S (M.set i x)=(cellsF S M).take (i*S.K)++S.cs x++(cellsF S M).drop (i*S.K+S.K)
 | [],_,_,h=>absurd h (Nat.not_lt_zero _)
 | y::M,0,x,_=>by
  show S.cs x++cellsF S M=_;rw [Nat.zero_mul,List.take_zero,List.nil_append,Nat.zero_add];show _=S.cs x++(S.cs y++cellsF S M).drop S.K;rw [List.drop_left' (S.len y)]
 | y::M,i+1,x,h=>by
  show S.cs y++cellsF S (M.set i x)=(S.cs y++cellsF S M).take _++_++(S.cs y++cellsF S M).drop _;have e1:(i+1)*S.K=S.K+i*S.K:=by rw [Nat.succ_mul];omega
  rw [zg0 M i x (by simpa using h),e1,List.take_append,S.len,List.take_of_length_le (l:=S.cs y) (by rw [S.len];omega),show S.K+i*S.K-S.K=i*S.K by omega,
   List.drop_append,S.len,List.drop_of_length_le (l:=S.cs y) (by rw [S.len];omega),List.nil_append,show S.K+i*S.K+S.K-S.K=i*S.K+S.K by omega]
  simp only [List.append_assoc]
theorem zg1 {w w0:World}{B b:Nat}{l:List (Nat×Obj)}{L:List X3}(h:St B w0 w l)(hm:(b,yl L)∈l)(hL:L.length≤1000):jR w b L:=by
 refine ⟨_,_,_,(h.own _ hm).2,?_⟩;have hr:Rw 3 (cellsF iS L).toArray L.length L.length (cellsF iS L):=⟨yI L,Nat.le_refl _,by unfold maxLen;omega,by rw [List.toList_toArray,List.take_of_length_le (by rw [yI];exact Nat.le_refl _)],by rw [List.size_toArray,yI];rfl⟩
 exact hr.rowAt (S:=iS)
theorem zmv (p v:ByteArray)(kids:List Int)(bv:Value)(hp:p.size≤100000)(hi:isP (tl p)=true):FnT Tryz.prog 68 #[.agg (nS.cs ⟨1,p,v,kids⟩).toArray,bv] (fun _=>True) (xJ [b3 (zb (pk (tl p) true)),b3 v]):=by
 refine FnT.intro (c:=zl Tryz.f68) [.cell 4 73] 57 Tryz.func68 kr kr kr fun w _=>rS [.b,.a] (St.start w) kr fun gs1 w1 H1=>rS [.v,.l 0] H1 kr fun gs2 w2 H2=>zj 0 kr<|rS [.v,.v] H2 kr fun gs3 w3 H3=>zg kr kr ?_;generalize hb2:(gs1 0).b=b2 at*;generalize hb4:(gs1 1).b=b4 at*;have H4:St w.heap.size w w3 [(b2,ndO ⟨1,p,v,kids⟩),(b4,itO (b3 emB))]:=H3.as (by rw [←hb2,←hb4];kernel_rfl);subst hb2 hb4;refine zc kr<|D2.g_draw0 [0,1,2,3,4,5,6,7,8] [(some 36,fun _=>.pointer (some ⟨(gs1 0).b,1,none⟩)),(some 37,fun _=>.string p),(some 38,fun _=>itV (b3 (zb (pk (tl p) true)))),(some 39,fun _=>.pointer (some ⟨(gs1 0).b,2,none⟩)),(some 40,fun _=>.string v),(some 41,fun _=>itV (b3 v)),(some 42,fun y=>.slice (some ⟨y.b,0,none⟩) 2 2),(some 43,fun y=>.agg #[.bool true,.string emB,.slice (some ⟨y.b,0,none⟩) 2 y.cap]),(none,fun _=>undef)]
  (D2.chn [6,7,8] fun j g ww=>match j with
   | 0=>St w.heap.size w ww [((gs1 0).b,ndO ⟨1,p,v,kids⟩),((gs1 1).b,itO (b3 emB))]
   | 1=>St w.heap.size w ww [((gs1 0).b,ndO ⟨1,p,v,kids⟩),((gs1 1).b,itO (b3 emB)),((g 6).b,yl [b3 (zb (pk (tl p) true)),b3 v])]
   | 2=>St w.heap.size w ww [((gs1 0).b,ndO ⟨1,p,v,kids⟩),((gs1 1).b,itO (b3 emB)),((g 7).b,.cells (g 7).cur 73 (0,0))]∧Rw 3 (g 7).cur (g 7).cap 2 (cellsF iS [b3 (zb (pk (tl p) true)),b3 v])
   | _=>St w.heap.size w ww [((gs1 0).b,ndO ⟨1,p,v,kids⟩),((gs1 1).b,.cells #[.bool true,.string emB,.slice (some ⟨(g 7).b,0,none⟩) 2 (g 7).cap] 73 (0,0)),((g 7).b,.cells (g 7).cur 73 (0,0))]∧Rw 3 (g 7).cur (g 7).cap 2 (cellsF iS [b3 (zb (pk (tl p) true)),b3 v]))
  kr kr kr H4.drew ⟨?_,?_,?_,?_,?_,?_,?_,?_,?_,trivial⟩ ?_
 ·exact D2.gv_val (fun _ _ _ h=>h) (fun g w=>by kernel_rfl)
 ·exact D2.gv_ld (fun _ _ _ h=>h) 9 (.tmp 36) (fun _=>(gs1 0).b) 1 (nS.cs ⟨1,p,v,kids⟩).toArray 118 (0,0) (fun g=>by kernel_rfl) (fun g=>by kernel_rfl) (fun L g w hN hp=>hp.get fun j hj h=>by
   match j,h with
   | 0,h=>exact St.get h 0 kr
   | 1,h=>exact St.get h 0 kr
   | 2,h=>exact St.get h.1 0 kr
   | _+3,h=>exact St.get h.1 0 kr) kr kr
 ·exact D2.gv_cW (fun _ _ _ h=>h) 106 #[.string p,.bool true] (zgY p true hp hi) (fun L g w w' hN hp hb=>by
   revert hp;unfold D2.chn
   generalize D2.stg [6,7,8] L=j;intro hp
   match j,hp with
   | 0,h=>exact h.call hb
   | 1,h=>exact h.call hb
   | 2,h=>exact ⟨h.1.call hb,h.2⟩
   | _+3,h=>exact ⟨h.1.call hb,h.2⟩) (fun g w=>by kernel_rfl)
 ·exact D2.gv_val (fun _ _ _ h=>h) (fun g w=>by kernel_rfl)
 ·exact D2.gv_ld (fun _ _ _ h=>h) 9 (.tmp 39) (fun _=>(gs1 0).b) 2 (nS.cs ⟨1,p,v,kids⟩).toArray 118 (0,0) (fun g=>by kernel_rfl) (fun g=>by kernel_rfl) (fun L g w hN hp=>hp.get fun j hj h=>by
   match j,h with
   | 0,h=>exact St.get h 0 kr
   | 1,h=>exact St.get h 0 kr
   | 2,h=>exact St.get h.1 0 kr
   | _+3,h=>exact St.get h.1 0 kr) kr kr
 ·exact D2.gv_cW (fun _ _ _ h=>h) 107 #[.string v] (zaQ v) (fun L g w w' hN hp hb=>by
   revert hp;unfold D2.chn
   generalize D2.stg [6,7,8] L=j;intro hp
   match j,hp with
   | 0,h=>exact h.call hb
   | 1,h=>exact h.call hb
   | 2,h=>exact ⟨h.1.call hb,h.2⟩
   | _+3,h=>exact ⟨h.1.call hb,h.2⟩) (fun g w=>by kernel_rfl)
 ·refine D2.gv_chn 6 0 (fun L hN=>by
   have e6:=hN.1;have e7:=hN.post 7 kr;have e8:=hN.fwd e7 (show D2.edge _ 7 8=true by kernel_rfl)
   exact ⟨by (simp [D2.stg,e6,e7,e8])<;>rfl,by (simp [D2.stg,D2.put1,e6,e7,e8])<;>rfl⟩) fun g ww hq=>?_
  exact D2.run_new (F:=fun b=>.slice (some ⟨b,0,none⟩) 2 2) (ob:=yl [b3 (zb (pk (tl p) true)),b3 v]) kr ⟨{ b:=ww.heap.size },rfl,(St.alloc hq (yl [b3 (zb (pk (tl p) true)),b3 v])).perm (List.perm_append_comm (l₁:=[((gs1 0).b,ndO ⟨1,p,v,kids⟩),((gs1 1).b,itO (b3 emB))]) (l₂:=[(ww.heap.size,yl [b3 (zb (pk (tl p) true)),b3 v])]))⟩
 ·refine D2.gv_chn 7 1 (fun L hN=>by
   have e7:=hN.1;have e6:=hN.bef 6 kr;have e8:=hN.post 8 kr
   exact ⟨by (simp [D2.stg,e6,e7,e8])<;>rfl,by (simp [D2.stg,D2.put1,e6,e7,e8])<;>rfl⟩) fun g ww hq=>?_
  exact D2.run_ft (zcR (g 6).b 2 [b3 (zb (pk (tl p) true)),b3 v] (by simp)) (zg1 hq (by simp) (by simp)) kr fun v T w' hok hT=>by
   obtain ⟨b',c',cur,rfl,rfl,hr⟩:=hok;have h9:=(St.addAll hq hT).perm (List.perm_append_comm (l₁:=[((gs1 0).b,ndO ⟨1,p,v,kids⟩),((gs1 1).b,itO (b3 emB)),((g 6).b,yl [b3 (zb (pk (tl p) true)),b3 v])]) (l₂:=[(b',.cells cur 73 (0,0))]));exact ⟨{ b:=b',cap:=c',cur:=cur },rfl,h9.sub (List.Sublist.cons_cons _ (List.Sublist.cons_cons _ (List.sublist_cons_self ..))),hr⟩
 ·refine D2.gv_chn 8 2 (fun L hN=>by
   have e8:=hN.1;have e7:=hN.bef 7 kr;have e6:=hN.back e7 (show D2.edge _ 6 7=true by kernel_rfl)
   exact ⟨by (simp [D2.stg,e6,e7,e8])<;>rfl,by (simp [D2.stg,D2.put1,e6,e7,e8])<;>rfl⟩) fun g ww hq=>?_
  exact D2.run_sto (t:=73) (x:=.tmp 4) (y:=.tmp 43) (C:=#[.bool false,.string emB,.slice none 0 0]) (C':=#[.bool true,.string emB,.slice (some ⟨(g 7).b,0,none⟩) 2 (g 7).cap]) (T:=73) (off:=0) (b:=(gs1 1).b) (v:=.agg #[.bool true,.string emB,.slice (some ⟨(g 7).b,0,none⟩) 2 (g 7).cap]) kr kr kr kr kr (St.get hq.1 1 kr) (Nat.le_of_ble_eq_true kr) kr ⟨g 8,rfl,St.store (C:=#[.bool false,.string emB,.slice none 0 0]) (T:=73) hq.1 1 kr,hq.2⟩
 ·intro L1 g w9 hall hp;have hq:=hp.fin (fun k hk=>hall k (by simp at hk;rcases hk with rfl | rfl | rfl<;>exact Nat.le_of_ble_eq_true kr));refine wW<|rRr [.cell 4 73] [1] (.agg #[.bool true,.string emB,.slice (some ⟨(g 7).b,0,none⟩) 2 (g 7).cap]) (yf w.heap.size w (xJ [b3 (zb (pk (tl p) true)),b3 v])) hq.1 kr ?_;exact ⟨_,⟨(g 7).b,(g 7).cap,(g 7).cur,rfl,rfl,hq.2⟩,hq.1.sub ((List.sublist_cons_self ..).trans (List.sublist_cons_self ..))⟩
end Go.Proofs.YtbbdbdndedeokaaGreatDoor
