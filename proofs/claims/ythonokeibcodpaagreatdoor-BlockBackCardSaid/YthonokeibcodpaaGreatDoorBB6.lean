/-
  Texts of the proof,part 6.
-/
import Derived.Test.YthonokeibcodpaaGreatDoorProg
import Derived.Test.YthonokeibcodpaaGreatDoorBB1
import Derived.Test.YthonokeibcodpaaGreatDoorBB2
import Derived.Test.YthonokeibcodpaaGreatDoorBB5
set_option maxRecDepth 100000
set_option maxHeartbeats 4000000
namespace Go.Proofs.YthonokeibcodpaaGreatDoor
open Go Go.RowKit
set_option linter.unusedVariables false
def sI:Fo→List ByteArray
 | .nil=>[]
 | .cons _ s _ r=>s::sI r
theorem zfX: ∀L,sI (lsI L)=L
 | []=>rfl
 | a::r=>by
  show a::sI (lsI r)=_;rw [zfX r]
theorem zfY: ∀ {k:Fo},pureF k=true→(∀x∈sI k,x≠emB)→k=lsI (sI k)
 | .nil,_,_=>rfl
 | .cons l s k r,hp,hn=>by
  simp only [pureF,Bool.and_eq_true,Bool.not_eq_true'] at hp;have h2:=zfY hp.2 fun x hx=>hn x (List.mem_cons_of_mem _ hx);rcases xw hp.1.1 with ⟨_,rfl⟩ | ⟨rfl,rfl⟩
  ·exact absurd rfl (hn _ (List.mem_cons_self ..))
  ·show Fo.cons false s .nil r=.cons false s .nil (lsI (sI r));rw [←h2]
theorem zfZ: ∀ {k:Fo} {x:ByteArray},x∈sI k→x.size≤szF k
 | .cons l s k r,x,hx=>by
  have h:s.size≤sz1 l s (szF k):=by
   unfold sz1;split
   ·rename_i q
    rw [qY q];exact Nat.le_refl _
   ·omega
  simp only [szF];rcases List.mem_cons.1 hx with rfl | hx
  ·omega
  ·have:=zfZ hx;omega
theorem zlD {h:Hdr}(r:rightH h=true):yg h≠emB:=by
 have h0:wrV qa (hdF h)=(yg h,0):=Prod.ext rfl (xF r);unfold wrV at h0;rw [jZ.parse] at h0;exact zch h0
theorem zlE {x:Txn}(r:rtX x=true):zM x≠emB:=by
 have h0:jC x=(zM x,0):=Prod.ext rfl (xW r);unfold jC at h0;rw [kG (show qH x.1 x.2.2.2.1 x.2.2.2.2.1 x.2.2.2.2.2=true from r)] at h0;unfold wrV at h0;rw [jY.parse] at h0;exact zch h0
def jE (R:Hdr→List Txn→Int→Prop)(v:Value)(T:List (Nat×Obj)):Prop:=∃(h:Hdr) (L:List Txn) (p:Option Addr) (n c:Nat) (q:Option Addr) (m k:Nat) (t:Option Addr) (z d:Nat) (T1 T2 T3:List (Nat×Obj)) (e:Int),v=.tuple #[bkV h p n c q m k t z d,.int .i64 e]∧zZ h∧(∀x∈L,qJ x)∧yP sS 9 p n c T1 h.vs∧yP sgF 57 q m k T2 h.ss∧yP tnS 59 t z d T3 L∧T=(T1++T2)++T3∧R h L e
theorem vR {R:Hdr→List Txn→Int→Prop}(h:R hd0 [] 4):jE R (.tuple #[bkV hd0 none 0 0 none 0 0 none 0 0,.int .i64 4]) []:=
 ⟨hd0,[],none,0,0,none,0,0,none,0,0,[],[],[],4,rfl,zaG,(fun _ h=>nomatch h),.inl ⟨rfl,rfl,rfl,rfl,rfl⟩,.inl ⟨rfl,rfl,rfl,rfl,rfl⟩,.inl ⟨rfl,rfl,rfl,rfl,rfl⟩,rfl,h⟩
def xY (I:Fo)(h:Hdr)(L:List Txn)(e:Int):Prop:=(e=0∧yB h L=true∧sI I=yg h::L.map zM)∨(e=4∧h=hd0∧L=[]∧ ∀(k:Hdr) (M:List Txn),yB k M=true→zZ k→(∀x∈M,yt x)→sI I≠yg k::M.map zM)
def kK (S:ByteArray)(h:Hdr)(L:List Txn)(e:Int):Prop:=(e=0∧yB h L=true∧qB h L=(S,0))∨(e=4∧h=hd0∧L=[]∧ ∀(k:Hdr) (M:List Txn),yB k M=true→zZ k→(∀x∈M,yt x)→qB k M≠(S,0))
theorem zlF {S:ByteArray}{l:Bool}{s:ByteArray}{I:Fo}(h4:S.size≤4000)(hi:yj S l s I ⟨#[]⟩)(hd:dp1 l (dpF I)≤8){h:Hdr}{L:List Txn}{e:Int}(r:xY I h L e):kK S h L e:=by
 rcases r with ⟨e0,hr,hs⟩|⟨e4,hh,hL,hno⟩
 ·have q:=jh.1 hr;have hk:I=bkI (yg h) (L.map zM):=by
   have h9:=zfY hi.2.1 fun x hx=>by
    rw [hs] at hx;rcases List.mem_cons.1 hx with rfl | hx
    ·exact zlD q.hd
    ·obtain ⟨y,hy,rfl⟩:=List.mem_map.1 hx;exact zlE (List.all_eq_true.1 q.al y hy)
   rw [h9,hs];rfl
  subst hk;have he:=zjv h4 hi hd;rcases xw hi.1 with ⟨rfl,rfl⟩ | ⟨_,h0⟩
  ·exact .inl ⟨e0,hr,he⟩
  ·cases h0
 ·refine .inr ⟨e4,hh,hL,fun k M rk ok om hb=>?_⟩;have h9:=zad hb;have e9:=(yj.inj h4 hi h9).2.2;refine hno k M rk ok om ?_;rw [e9];show yg k::sI (lsI (M.map zM))=_;rw [zfX]
theorem kI.one {S:ByteArray}{v:Value}{T:List (Nat×Obj)}(h:kI S v T):∃(x:Txn) (e:Int),v=.tuple #[tnV x,.int .i64 e]∧((e=0∧rtX x=true∧qJ x∧zM x=S)∨(e=4∧ ∀y:Txn,rtX y=true→yt y→zM y≠S)):=by
 rcases h with ⟨to,a,n,r,s,vv,hv,hr,ha,hn,h1,h2,hw⟩|⟨hv,hno⟩
 ·have q:=vP.1 (show rtX (to,a,n,r,s,vv)=true from hr);exact ⟨(to,a,n,r,s,vv),0,hv,.inl ⟨rfl,hr,⟨⟨ha,hn,h1,h2⟩,by rw [q.1];decide⟩,congrArg Prod.fst hw⟩⟩
 ·refine ⟨tn0,4,hv,.inr ⟨rfl,fun y ry oy hy=>?_⟩⟩;exact hno y.1 y.2.1 y.2.2.1 y.2.2.2.1 y.2.2.2.2.1 y.2.2.2.2.2 ry oy.1 oy.2.1 oy.2.2.1 oy.2.2.2 (Prod.ext hy (xW ry))
theorem zlG (I:Fo)(hz: ∀x∈sI I,x.size≤4000)(hl:I.len≤1000000)(p:Option Addr)(n c:Nat)(hc:n≤c):FnT Tryz.prog 15 #[.slice p n c] (fun w=>zr w.heap.size w p n I∧Ke.Marks w) (jE (xY I)):=by
 refine FnT.intro (c:=zf Tryz.f15) [.cell 2 29,.tmp 3] 58 Tryz.func15 kr kr kr fun w hP=>?_;obtain ⟨hS,hM⟩:=hP;have hn:=hS.1;have H0:=St.start w;refine rS [.a,.v] H0 kr fun gs1 w1 H1=>zc kr ?_;by_cases h0:n=0
 ·refine rS [.v,.v,.E (.bool ((n:Int)==0)) (.bool true) (za (beq_iff_eq.2 (by omega)))] H1 kr fun gs2 w2 H2=>zU<|rS [.v,.s 0,.v] H2 kr fun gs3 w3 H3=>?_;have hI:I=.nil:=hS.zero h0;refine rRr [.cell 2 29,.tmp 3] [0] (.tuple #[bkV hd0 none 0 0 none 0 0 none 0 0,.int .i64 4]) (zX w.heap.size w (jE (xY I))) H3 kr ?_;exact ⟨[],vR (.inr ⟨rfl,rfl,rfl,fun k M _ _ _ h9=>by rw [hI] at h9;cases h9⟩),H3.sub (List.nil_sublist _)⟩
 refine rS [.v,.v,.E (.bool ((n:Int)==0)) (.bool false) (za (beq_eq_false_iff_ne.2 (by omega)))] H1 kr fun gs2 w2 H2=>yk<|wW ?_;obtain ⟨l0,s0,kk0,I',b,off,C,T,fz,p',n',c',rfl,rfl,_,hh,hsz0,hex,_,_,hR,hlen⟩:=hS.start.open (by omega) (show 0<n by omega);have hs0:s0.size≤4000:=hz s0 (List.mem_cons_self ..);obtain ⟨f0,f1,f2⟩:=vO hsz0 hex;have HB:St w.heap.size w w2 [((gs1 0).b,bkO hd0 none 0 0 none 0 0 none 0 0)]:=H2.as kr;refine zg [0,1,2,3,4,5,6,7,8,9,10] kr kr<|rp [.v,.o (ins:=[((.tmp 16),.slice (some ⟨b,off,none⟩) n c)]) (v:=.pointer (some ⟨b,off+0*3,none⟩)) (fun ρ o w ho hi2=>zL (kd:=.i64) (t:=43) (e:=46) (K:=3) (bytes:=48) kr (x:=(.tmp 16)) (y:=.const (.int .i64 0)) b off n c 0 rfl ho hi2.1 rfl (by omega) w),.v,.fs (off:=off+0*3+1) (v:=.string s0) hh (zv hh) f1] HB kr fun gs3 w3 H3=>wX [4,5,6,7,8,9,10] ?_;have H4:St w.heap.size w w3 [((gs1 0).b,bkO hd0 none 0 0 none 0 0 none 0 0)]:=H3.as kr;refine qD H4 (some 20) 26 #[.string s0] (zlC s0 (by omega)) trivial kr kr ?_;intro v Tz w4 hrd H5;obtain ⟨h1,p1,n1,c1,q1,m1,k1,T1,T2,e1,rfl,o1,ra,rb,rfl,rd1⟩:=hrd.one;refine rp [.v,.v,.v] H5 kr fun gs4 w5 H6=>wX [8,9,10] ?_;have H7:St w.heap.size w w5 ((T1++T2)++ [((gs1 0).b,bkO hd0 none 0 0 none 0 0 none 0 0)]):=H6.as kr;refine zE H7 (some 4) 26 (hdV hd0 none 0 0 none 0 0) kr kr kr ?_;intro b4 w6 H8;refine rp [.s 0,.v] H8 kr fun gs5 w7 H9=>wX []<|zb<|wW ?_;have H10:St w.heap.size w w7 ((b4,hdO h1 p1 n1 c1 q1 m1 k1)::((T1++T2)++ [((gs1 0).b,bkO hd0 none 0 0 none 0 0 none 0 0)])):=H9.as kr;have H11:St w.heap.size w w7 ((b4,hdO h1 p1 n1 c1 q1 m1 k1)::((gs1 0).b,bkO hd0 none 0 0 none 0 0 none 0 0)::(T1++T2)):=H10.perm (List.Perm.cons _ (List.perm_append_comm (l₁:=[((gs1 0).b,bkO hd0 none 0 0 none 0 0 none 0 0)]) (l₂:=T1++T2)));clear H0 H1 H2 H3 H4 H5 H6 H7 H8 H9 H10 HB;obtain ⟨Tb,hTb⟩:∃Tb,T1++T2=Tb:=⟨_,rfl⟩
 rw [hTb] at H11;have hA: ∀e∈T1,e∈Tb:=fun e he=>hTb▸List.mem_append_left _ he;have hB: ∀e∈T2,e∈Tb:=fun e he=>hTb▸List.mem_append_right _ he;refine zc kr ?_;rcases rd1 with ⟨rfl,hr1,hw1⟩ | ⟨rfl,rfl,hno⟩
 case inr=>
  refine rS [.v,.v] H11 kr fun gs6 w8 H12=>zU<|rS [.v,.v,.s 1,.v] H12 kr fun gs7 w9 H13=>rRr [.cell 2 29,.tmp 3] [1] (.tuple #[bkV hd0 none 0 0 none 0 0 none 0 0,.int .i64 4]) (zX w.heap.size w (jE (xY (.cons l0 s0 kk0 I')))) H13 kr ?_;exact ⟨[],vR (.inr ⟨rfl,rfl,rfl,fun k M rk ok om h9=>hno k (jh.1 rk).hd ok (by rw [show sI (Fo.cons l0 s0 kk0 I')=s0::sI I' from rfl] at h9;injection h9 with h9;rw [h9];exact Prod.ext rfl (xF (jh.1 rk).hd))⟩),H13.sub (List.nil_sublist _)⟩
 refine rS [.v,.v] H11 kr fun gs6 w8 H12=>yk<|wW<|zg [0,1,2,3] kr kr<|rp [.l 0,.v] H12 kr fun gs7 w9 H13=>wX [2,3] ?_;have H14:St w.heap.size w w9 ((b4,hdO h1 p1 n1 c1 q1 m1 k1)::((gs1 0).b,bkO hd0 none 0 0 none 0 0 none 0 0)::Tb):=H13.as kr;refine zE H14 (some 6) 29 (bkV hd0 none 0 0 none 0 0 none 0 0) kr kr kr ?_;intro b6 w10 H15;refine rp [.s 0] H15 kr fun gs8 w11 H16=>wX []<|zb<|wW ?_;have H17:St w.heap.size w w11 ((b6,bkO h1 p1 n1 c1 q1 m1 k1 none 0 0)::(b4,hdO h1 p1 n1 c1 q1 m1 k1)::((gs1 0).b,bkO hd0 none 0 0 none 0 0 none 0 0)::Tb):=H16.as kr;have H18:St w.heap.size w w11 (((gs1 0).b,bkO hd0 none 0 0 none 0 0 none 0 0)::(b6,bkO h1 p1 n1 c1 q1 m1 k1 none 0 0)::Tb):=(H17.sub (List.Sublist.cons_cons _ (List.sublist_cons_self ..))).perm (List.Perm.swap _ _ _);obtain ⟨pt,hpt⟩:∃pt,some (⟨b,if c=1 then off else off+1*3,none⟩:Addr)=pt:=⟨_,rfl⟩
 obtain ⟨m,hm⟩:∃m,n-1=m:=⟨_,rfl⟩
 have hR1:FoR w.heap.size w pt 0 I':=by
  rcases hR with h|⟨b9,o9,e9,h⟩
  ·exact .inl h
  ·injection e9 with e9
   injection e9 with e9 e10
   subst e9 e10;by_cases hc1:c=1
   ·left;cases I' with
    | nil=>rfl
    | cons _ _ _ r=>simp only [Fo.len] at hlen;omega
   ·exact .inr ⟨b,off+1*3,by rw [←hpt,if_neg hc1],h⟩
 have hlm:I'.len=m:=by omega
 refine zc kr<|rS [.v,.o (ins:=[((.tmp 29),.slice (some ⟨b,off,none⟩) n c)]) (v:=.slice pt m (c-1)) (fun ρ o w ho hi2=>by rw [←hpt,←hm];exact zkr (t:=43) (e:=46) (size:=3) (bytes:=48) kr (x:=(.tmp 29)) (z:=.const (.int .i64 1)) b off n c 1 ho hi2.1 rfl (by omega) hc w),.v,.v] H18 kr fun gs9 w12 H19=>?_;clear H11 H12 H13 H14 H15 H16 H17 H18;refine qw 32 31 33 52 0 1 m (by simp only [Fo.len] at hl;omega) (fun i ρ ww=> ∃L r t e T3,sI I'=L.map zM++sI r∧L.all rtX=true∧(∀x∈L,qJ x)∧FoR w.heap.size w pt i r∧i+r.len=m∧yP tnS 59 t i e T3 L∧St w.heap.size w ww (((gs1 0).b,bkO hd0 none 0 0 none 0 0 none 0 0)::(b6,bkO h1 p1 n1 c1 q1 m1 k1 t i e)::(Tb++T3))∧Is [(2,.pointer (some ⟨(gs1 0).b,0,none⟩)),(6,.pointer (some ⟨b6,0,none⟩)),(30,.slice pt m (c-1)),(31,iN m),(32,iN i)] ρ) (by rintro i _ ww ⟨_,_,_,_,_,_,_,_,_,_,_,_,_,rfl⟩;exact ⟨kr,kr⟩) ⟨[],I',none,0,[],rfl,rfl,(fun _ h=>nomatch h),hR1,by omega,.inl ⟨rfl,rfl,rfl,rfl,rfl⟩,by rw [List.append_nil];exact H19.as kr,isK⟩ ?_ ?_
 ·clear H19;rintro i _ w5 hi ⟨L,r,t,e,T3,hsI,hal,hsm,hFr,hlr,hrow,H5,_,rfl⟩;obtain ⟨l2,s2,k2,r',bb,o2,C2,Ty2,fz2,p2,n2,c2,rfl,hp2,_,hh2,hsz2,hex2,_,_,hFr',hlr'⟩:=hFr.open hlr hi;have hs2:s2.size≤4000:=hz s2 (List.mem_cons_of_mem _ (by rw [hsI];exact List.mem_append_right _ (List.mem_cons_self ..)));have hLl:=hrow.len;refine zg [0,1,2,3] kr kr<|rp [.o (ins:=[((.tmp 30),.slice pt m (c-1)),((.tmp 32),iN i)]) (v:=.pointer (some ⟨bb,o2+i*3,none⟩)) (fun ρ o w ho hi2=>zL (kd:=.i64) (t:=43) (e:=46) (K:=3) (bytes:=48) kr (x:=(.tmp 30)) (y:=(.tmp 32)) bb o2 m (c-1) i hp2 ho hi2.1 hi2.2.1 (by omega) w),.fp (off:=o2+i*3) (n:=3) (W:=#[.bool l2,.string s2,.slice p2 n2 c2]) hh2 (zv hh2) hsz2 hex2] H5 kr fun gs5 w6 H6=>wX [2,3] ?_;have H7:St w.heap.size w w6 (((gs1 0).b,bkO hd0 none 0 0 none 0 0 none 0 0)::(b6,bkO h1 p1 n1 c1 q1 m1 k1 t i e)::(Tb++T3)):=H6.as kr;refine zE H7 (some 8) 46 (.agg #[.bool false,.string ⟨#[]⟩,.slice none 0 0]) kr kr kr ?_;intro b8 w7 H8;refine rp [.s 0] H8 kr fun gs6 w8 H9=>wX []<|zb<|zg [0,1,2,3,4,5,6,7,8] kr kr<|rp [.v,.l 0] H9 kr fun gs7 w9 H10=>wX [2,3,4,5,6,7,8] ?_;have H11:St w.heap.size w w9 ((b8,.cells #[.bool l2,.string s2,.slice p2 n2 c2] 46 (0,0))::((gs1 0).b,bkO hd0 none 0 0 none 0 0 none 0 0)::(b6,bkO h1 p1 n1 c1 q1 m1 k1 t i e)::(Tb++T3)):=H10.as kr;refine qD H11 (some 39) 27 #[.string s2] (zk9 s2 (by omega)) trivial kr kr ?_;intro v Tx w10 hrt H12;obtain ⟨x,ex,rfl,hx⟩:=hrt.one;refine rp [.v,.v,.v] H12 kr fun gs8 w11 H13=>wX [6,7,8] ?_;have H14:St w.heap.size w w11 (Tx++((b8,.cells #[.bool l2,.string s2,.slice p2 n2 c2] 46 (0,0))::((gs1 0).b,bkO hd0 none 0 0 none 0 0 none 0 0)::(b6,bkO h1 p1 n1 c1 q1 m1 k1 t i e)::(Tb++T3))):=H13.as kr;have H15:St w.heap.size w w11 (((gs1 0).b,bkO hd0 none 0 0 none 0 0 none 0 0)::(b6,bkO h1 p1 n1 c1 q1 m1 k1 t i e)::(Tb++T3)):=H14.sub ((List.sublist_cons_self ..).trans (List.sublist_append_right ..));refine zE H15 (some 9) 59 (tnV tn0) kr kr kr ?_;intro b9 w12 H16;refine rp [.s 0,.v] H16 kr fun gs9 w13 H17=>wX []<|zb ?_;have H18:St w.heap.size w w13 ((b9,tnO x)::((gs1 0).b,bkO hd0 none 0 0 none 0 0 none 0 0)::(b6,bkO h1 p1 n1 c1 q1 m1 k1 t i e)::(Tb++T3)):=H17.as kr;clear H5 H6 H7 H8 H9 H10 H11 H12 H13 H14 H15 H16 H17;refine zc kr ?_;rcases hx with ⟨rfl,rx,ox,ex9⟩ | ⟨rfl,hno⟩
  case inr=>
   refine rS [.v,.v] H18 kr fun gs10 w14 H19=>zU<|rS [.v,.v,.s 1,.v] H19 kr fun gs11 w15 H20=>rRr [.cell 2 29,.tmp 3] [1] (.tuple #[bkV hd0 none 0 0 none 0 0 none 0 0,.int .i64 4]) (zX w.heap.size w (jE (xY (.cons l0 s0 kk0 I')))) H20 kr ?_
   exact ⟨[],vR (.inr ⟨rfl,rfl,rfl,fun k M rk ok om h9=>by
    rw [show sI (Fo.cons l0 s0 kk0 I')=s0::sI I' from rfl] at h9;injection h9 with _ h9
    rw [hsI] at h9;have h8:s2∈M.map zM:=by rw [←h9];exact List.mem_append_right _ (List.mem_cons_self ..)
    obtain ⟨y,hy,e9⟩:=List.mem_map.1 h8
    exact hno y (List.all_eq_true.1 (jh.1 rk).al y hy) (om y hy) e9⟩),H20.sub (List.nil_sublist _)⟩
  refine rS [.v,.v] H18 kr fun gs10 w14 H19=>yk<|wW<|yo [0,1,2,3,4,5,6] kr<|rp [.v,.l 2,.l 0] H19 kr fun gs11 w15 H20=>wX [3,4,5,6] ?_;have H21:St w.heap.size w w15 ((b9,tnO x)::((gs1 0).b,bkO hd0 none 0 0 none 0 0 none 0 0)::(b6,bkO h1 p1 n1 c1 q1 m1 k1 t i e)::(Tb++T3)):=H20.as kr;refine vn H21 (some 49) (fun b=>.slice (some ⟨b,0,none⟩) 1 1) (tnS.cs x).toArray 59 kr kr ?_;intro bn w16 H22;refine vp (S:=tnS) (some 50) 27 59 104 (.tmp 47) (.tmp 49) (H22.perm (List.Perm.cons _ (zaA [(b9,tnO x),((gs1 0).b,bkO hd0 none 0 0 none 0 0 none 0 0),(b6,bkO h1 p1 n1 c1 q1 m1 k1 t i e)] Tb T3))) hrow kr kr kr kr kr (by simp only [Fo.len] at hl hlr;omega) (by unfold maxLen;simp only [Fo.len] at hl hlr;omega) ?_;intro b' cap' cur' w17 H23 hr';refine rp [.v,.s 3] H23 kr fun gs12 w18 H24=>wX []<|zb ?_;have H25:St w.heap.size w w18 ((b',.cells cur' 59 (0,0))::(b9,tnO x)::((gs1 0).b,bkO hd0 none 0 0 none 0 0 none 0 0)::(b6,bkO h1 p1 n1 c1 q1 m1 k1 (some ⟨b',0,none⟩) (i+1) cap')::Tb):=H24.as kr;refine ⟨kr,L++ [x],r',some ⟨b',0,none⟩,cap',[(b',.cells cur' 59 (0,0))],?_,?_,?_,hFr',hlr',.inr ⟨b',cur',rfl,rfl,hr'⟩,(H25.sub (List.Sublist.cons_cons _ (List.sublist_cons_self ..))).perm (zaA [((gs1 0).b,bkO hd0 none 0 0 none 0 0 none 0 0),(b6,bkO h1 p1 n1 c1 q1 m1 k1 (some ⟨b',0,none⟩) (i+1) cap')] Tb [(b',.cells cur' 59 (0,0))]).symm,isK⟩
  ·rw [hsI,List.map_append,List.append_assoc,List.map_singleton,ex9];rfl
  ·rw [List.all_append,hal,Bool.true_and];simpa using rx
  ·intro y hy;rcases List.mem_append.1 hy with hy | hy
   ·exact hsm y hy
   ·obtain rfl:=List.mem_singleton.1 hy;exact ox
 ·clear H19;rintro _ w5 ⟨L,r,t,e,T3,hsI,hal,hsm,hFr,hlr,hrow,H5,_,rfl⟩;obtain rfl:r=.nil:=FoR.done hlr (by omega);rw [show sI Fo.nil=[] from rfl,List.append_nil] at hsI;have hLl:=hrow.len;have hR:=zaH h1 L o1.sm (by simp only [Fo.len] at hl;omega) hsm p1 n1 c1 q1 m1 k1 t m e;refine wW<|zc kr<|zg [0,1,2] kr kr<|rp [.l 1] H5 kr fun gs5 w6 H6=>wX [1,2] ?_;have H7:St w.heap.size w w6 (((gs1 0).b,bkO hd0 none 0 0 none 0 0 none 0 0)::(b6,bkO h1 p1 n1 c1 q1 m1 k1 t m e)::(Tb++T3)):=H6.as kr;refine yC H7 (some 54) 9 #[bkV h1 p1 n1 c1 q1 m1 k1 t m e] _ _ hR ⟨⟨⟨ra.atF H7 fun e he=>by simp [hA e he],rb.atF H7 fun e he=>by simp [hB e he]⟩,hrow.atF H7 fun e he=>by simp [he]⟩,yA hM H7.below⟩ (fun w=>by kernel_rfl) kr ?_;intro w7 H8;refine rp [.v] H8 kr fun gs6 w8 H9=>wX []<|zb<|wW ?_;have H10:St w.heap.size w w8 (((gs1 0).b,bkO hd0 none 0 0 none 0 0 none 0 0)::(b6,bkO h1 p1 n1 c1 q1 m1 k1 t m e)::(Tb++T3)):=H9.as kr;cases hrb:yB h1 L with
  | false=>
   refine zU<|rS [.v,.s 0,.v] H10 kr fun gs7 w9 H11=>rRr [.cell 2 29,.tmp 3] [0] (.tuple #[bkV hd0 none 0 0 none 0 0 none 0 0,.int .i64 4]) (zX w.heap.size w (jE (xY (.cons l0 s0 kk0 I')))) H11 kr ?_
   exact ⟨[],vR (.inr ⟨rfl,rfl,rfl,fun k M rk ok om h9=>by
    have q:=jh.1 rk;rw [show sI (Fo.cons l0 s0 kk0 I')=s0::sI I' from rfl,hsI] at h9;injection h9 with h9 h8
    have e1:h1=k:=zfG o1 ok hr1 q.hd hw1 (by rw [h9];exact Prod.ext rfl (xF q.hd));have e2:L=M:=zcg (fun x hx=>(hsm x hx).1) om hal q.al h8;rw [e1,e2,rk] at hrb
    cases hrb⟩),H11.sub (List.nil_sublist _)⟩
  | true=>
   refine yk<|wW<|rS [.l 1,.s 0,.v] H10 kr fun gs7 w9 H11=>rRr [.cell 2 29,.tmp 3] [0] (.tuple #[bkV h1 p1 n1 c1 q1 m1 k1 t m e,.int .i64 0]) (zX w.heap.size w (jE (xY (.cons l0 s0 kk0 I')))) H11 kr ?_;have H12:St w.heap.size w w9 (((gs1 0).b,bkO h1 p1 n1 c1 q1 m1 k1 t m e)::(b6,bkO h1 p1 n1 c1 q1 m1 k1 t m e)::(Tb++T3)):=H11.as kr;refine ⟨Tb++T3,⟨h1,L,p1,n1,c1,q1,m1,k1,t,m,e,T1,T2,T3,0,rfl,o1,hsm,ra,rb,hrow,by rw [hTb],.inl ⟨rfl,hrb,?_⟩⟩,H12.sub (List.Sublist.cons _ (List.sublist_cons_self ..))⟩;show s0::sI I'=_;rw [hsI,show yg h1=s0 from congrArg Prod.fst hw1]
theorem zf0 (s:ByteArray)(hs:s.size≤1000000):FnT Tryz.prog 6 #[.string s] Ke.Marks (jE (kK s)):=by
 refine FnT.intro (c:=zf Tryz.f6) [.cell 2 29,.tmp 3] 19 Tryz.func6 kr kr kr fun w hM=>rS [.a,.v] (St.start w) kr fun gs1 w1 H1=>zg [0,1,2,3,4,5,6,7] kr kr<|rp [.v] H1 kr fun gs2 w2 H2=>wX [1,2,3,4,5,6,7] ?_;have H3:St w.heap.size w w2 [((gs1 0).b,bkO hd0 none 0 0 none 0 0 none 0 0)]:=H2.as kr;refine zbA H3 (some 8) 14 #[.string s] (zea s (by omega)) kr kr ?_;intro vd Td w3 hdec H4;have hdc:=hdec;rcases hdec.casesC with ⟨l1,s1,p1,n1,c1,k1,rfl,hit,hsl,hs1,hdp,h4⟩ | ⟨er,her,rfl,rfl⟩
 ·refine rp [.v,.v,.v] H4 kr fun gs3 w4 H5=>wX [5,6,7] ?_;have H6:St w.heap.size w w4 (Td++ [((gs1 0).b,bkO hd0 none 0 0 none 0 0 none 0 0)]):=H5.as kr;refine zE H6 (some 4) 46 (.agg #[.bool false,.string ⟨#[]⟩,.slice none 0 0]) kr kr kr ?_;intro b4 w5 H7;refine rp [.s 0,.v] H7 kr fun gs4 w6 H8=>wX []<|zb<|wW ?_;have H9:St w.heap.size w w6 ((b4,.cells #[.bool l1,.string s1,.slice p1 n1 c1] 46 (0,0))::(Td++ [((gs1 0).b,bkO hd0 none 0 0 none 0 0 none 0 0)])):=H8.as kr;have H10:St w.heap.size w w6 ((b4,.cells #[.bool l1,.string s1,.slice p1 n1 c1] 46 (0,0))::((gs1 0).b,bkO hd0 none 0 0 none 0 0 none 0 0)::Td):=H9.perm (List.Perm.cons _ (List.perm_append_comm (l₁:=[((gs1 0).b,bkO hd0 none 0 0 none 0 0 none 0 0)]) (l₂:=Td)));refine zc kr<|rS [.v,.v] H10 kr fun gs5 w7 H11=>yk<|wW<|zg [0,1,2,3,4,5,6] kr kr<|rp [.v,.l 0] H11 kr fun gs6 w8 H12=>wX [2,3,4,5,6] ?_;have H13:St w.heap.size w w8 ((b4,.cells #[.bool l1,.string s1,.slice p1 n1 c1] 46 (0,0))::((gs1 0).b,bkO hd0 none 0 0 none 0 0 none 0 0)::Td):=H12.as kr;have hsz:=hit.sz;have hlen:=Fo.len_le k1;refine qD H13 (some 16) 15 #[.slice p1 n1 c1] (zlG k1 (fun x hx=>by have:=zfZ hx;omega) (by omega) p1 n1 c1 hsl.2) ⟨hsl.1.at H13 fun e he=>by simp [he],yA hM H13.below⟩ kr kr ?_;rintro _ T w9 ⟨h,L,p,n,c,q,m,k,t,z,d,T1,T2,T3,e,rfl,oh,oL,ra,rb,rc,rfl,rd⟩ H14;have H15:St w.heap.size w w9 ((b4,.cells #[.bool l1,.string s1,.slice p1 n1 c1] 46 (0,0))::((gs1 0).b,bkO hd0 none 0 0 none 0 0 none 0 0)::(Td++((T1++T2)++T3))):=H14.perm (List.perm_append_comm (l₁:=(b4,Obj.cells #[.bool l1,.string s1,.slice p1 n1 c1] 46 (0,0))::((gs1 0).b,bkO hd0 none 0 0 none 0 0 none 0 0)::Td) (l₂:=(T1++T2)++T3));refine rp [.v,.v,.s 1,.v] H15 kr fun gs7 w10 H16=>wX []<|zb<|wW<|rRr [.cell 2 29,.tmp 3] [1] (.tuple #[bkV h p n c q m k t z d,.int .i64 e]) (zX w.heap.size w (jE (kK s))) H16 kr ?_;have H17:St w.heap.size w w10 ((b4,.cells #[.bool l1,.string s1,.slice p1 n1 c1] 46 (0,0))::((gs1 0).b,bkO h p n c q m k t z d)::(Td++((T1++T2)++T3))):=H16.as kr;exact ⟨(T1++T2)++T3,⟨h,L,p,n,c,q,m,k,t,z,d,T1,T2,T3,e,rfl,oh,oL,ra,rb,rc,rfl,zlF h4 hit hdp rd⟩,H17.sub (List.Sublist.cons _ (List.Sublist.cons _ (List.sublist_append_right ..)))⟩
 ·refine rp [.v,.v,.v] H4 kr fun gs3 w4 H5=>wX [5,6,7] ?_;have H6:St w.heap.size w w4 [((gs1 0).b,bkO hd0 none 0 0 none 0 0 none 0 0)]:=H5.as kr;refine zE H6 (some 4) 46 (.agg #[.bool false,.string ⟨#[]⟩,.slice none 0 0]) kr kr kr ?_;intro b4 w5 H7;refine rp [.s 0,.v] H7 kr fun gs4 w6 H8=>wX []<|zb<|wW<|zc kr<|rS [.v,.E (.bool (er !=0)) (.bool true) (za (bne_iff_ne.2 her))] H8 kr fun gs5 w7 H9=>zU<|rS [.v,.s 1,.v] H9 kr fun gs6 w8 H10=>rRr [.cell 2 29,.tmp 3] [1] (.tuple #[bkV hd0 none 0 0 none 0 0 none 0 0,.int .i64 4]) (zX w.heap.size w (jE (kK s))) H10 kr ?_
  exact ⟨[],vR (.inr ⟨rfl,rfl,rfl,fun k M rk ok om h9=>by
   have hd9:jS (zG true emB (bkI (yg k) (M.map zM)).len (bkI (yg k) (M.map zM))).1 (erV er) []:=by
    rw [show (zG true emB (bkI (yg k) (M.map zM)).len (bkI (yg k) (M.map zM))).1=s from congrArg Prod.fst h9];exact hdc
   obtain ⟨p9,n9,c9,hv,_⟩:=zeB (kJ rk) hd9;unfold erV at hv;injection hv with hv;have h9:=congrArg (fun a:Array Value=>a[1]?) hv;simp at h9
   exact her h9⟩),H10.sub (List.nil_sublist _)⟩
end Go.Proofs.YthonokeibcodpaaGreatDoor
namespace Go.Proofs.YthonokeibcodpaaGreatDoor
open Go Go.RowKit
open D2 (Gh)
set_option linter.unusedVariables false
def zf1 (h:Hdr)(l:List Txn)(q:Option Addr)(k:Nat)(v:Value)(T:List (Nat×Obj)):Prop:=∃(b n c:Nat) (cur:Array Value) (bt nt ct:Nat) (curt:Array Value),v=bkV (jt h) (some ⟨b,0,none⟩) n c q (h.ss.take 20).length k (some ⟨bt,0,none⟩) nt ct∧T=[(bt,.cells curt 59 (0,0)),(b,.cells cur 9 (0,0))]∧Rw 1 cur c n (cellsF sS (jt h).vs)∧Rw 12 curt ct nt (cellsF tnS (qT l))
theorem xZ (s:ByteArray):Fn Tryz.prog 10 #[.string s] (.string (yi s)):=by
 refine Fn.intro (c:=zf Tryz.f10) [.tmp 2] 8 Tryz.func10 kr kr kr fun w=>rS [.v] (St.start w) kr fun gs1 w1 H1=>rS [.v,.v,.v,.E (.int .i64 (if (50:Int)<(s.size:Int) then (50:Int) else (s.size:Int))) (iN (min s.size 50)) (zo (by split<;>omega)),.o (ins:=[((.tmp 3),.string s),((.tmp 6),iN (min s.size 50))]) (v:=.string (yi s)) (fun ρ o w ho hi=>xm (t:=9) (kd:=.i64) kr (x:=(.tmp 3)) (y:=(.tmp 6)) s (min s.size 50) ho hi.1 hi.2.1 (Nat.min_le_left _ _) w),.v] H1 kr fun gs2 w2 H2=>?_;exact rR [.tmp 2] [] (.string (yi s)) H2 kr
theorem zlH (h:Hdr)(l:List Txn)(p:Option Addr)(n c:Nat)(q:Option Addr)(m k:Nat)(t:Option Addr)(z d:Nat)(hp:yQ p n c)(hq:yQ q m k)(ht:yQ t z d):FnT Tryz.prog 4 #[bkV h p n c q m k t z d] (fun w=>ju w h l p n q m t z) (zf1 h l q k):=by
 refine FnT.intro (c:=zf Tryz.f4) [.cell 2 29] 78 Tryz.func4 kr kr kr fun w hP=>?_;obtain ⟨hP,hPT⟩:=hP;have hn:=hP.1.1;have hm:=hP.2.1;have hT:=hP.1.take (min n 20) (Nat.min_le_left _ _);rw [zcb hn] at hT;have hnv:min n 20=(h.vs.take 20).length:=hT.1;have hms:(h.ss.take 20).length=min m 20:=by rw [List.length_take,←hm];omega
 obtain ⟨nv,env⟩:∃nv,min n 20=nv:=⟨_,rfl⟩
 rw [env] at hT hnv;obtain ⟨ms,ems⟩:∃ms,(h.ss.take 20).length=ms:=⟨_,rfl⟩
 rw [ems] at hms;have H0:=St.start w;refine rS [.b,.a] H0 kr fun gs1 w1 H1=>rS [.v,.l 0,.a,.s 2] H1 kr fun gs2 w2 H2=>rS [.v] H2 kr fun gs3 w2' H2'=>dS [.v,.v,.l 2,.c (xZ h.pa),.v,.v,.l 2,.c (xZ h.ro),.v,.v,.l 2,.c (xZ h.tx),.v,.v,.l 2,.c (xZ h.pr),.v,.v,.l 2,.c (xZ h.va),.v,.v,.l 2,.c (xZ h.vo),.v,.s 2,.v,.s 2,.v,.s 2,.v,.s 2,.v,.s 2,.v,.s 2] H2' kr fun w3 H3=>?_;obtain ⟨hc,ehc⟩:∃hc,zkJ h=hc:=⟨_,rfl⟩
 have H4:St w.heap.size w w3 [((gs2 2).b,Obj.cells (hdC hc p n c q m k) 26 (0,0)),((gs1 0).b,bkO h p n c q m k t z d),((gs1 1).b,bkO hd0 none 0 0 none 0 0 none 0 0)]:=(H3.as (l:=[((gs1 0).b,bkO h p n c q m k t z d),((gs1 1).b,bkO hd0 none 0 0 none 0 0 none 0 0),((gs2 2).b,Obj.cells (hdC hc p n c q m k) 26 (0,0))]) (by rw [←ehc];kernel_rfl)).perm (List.perm_append_comm (l₁:=[((gs2 2).b,Obj.cells (hdC hc p n c q m k) 26 (0,0))]) (l₂:=[((gs1 0).b,bkO h p n c q m k t z d),((gs1 1).b,bkO hd0 none 0 0 none 0 0 none 0 0)]));refine uh [(1,.pointer (some ⟨(gs1 0).b,0,none⟩)),(2,.pointer (some ⟨(gs1 1).b,0,none⟩)),(3,.pointer (some ⟨(gs2 2).b,0,none⟩)),(4,.func (.func 10) #[] #[])] kr fun ρ1=>?_;clear H0 H1 H2 H2' H3;refine zc kr<|D2.g_draw0 [0,1,2,3,4,5,6,7,8,9,10,11,12,13,14,15,16,17,18,19] [(some 39,fun y=>.slice (some ⟨y.b,0,none⟩) 0 0),(some 40,fun _=>.pointer (some ⟨(gs2 2).b,6,none⟩)),(some 41,fun _=>.slice p n c),(some 42,fun _=>.pointer (some ⟨(gs2 2).b,6,none⟩)),(some 43,fun _=>.slice p n c),(some 44,fun _=>iN n),(some 45,fun _=>iN nv),(some 46,fun _=>.slice p nv c),(some 47,fun y=>.slice (some ⟨y.b,0,none⟩) nv y.cap),(some 48,fun _=>.pointer (some ⟨(gs2 2).b,10,none⟩)),(some 49,fun _=>.slice q m k),(some 50,fun _=>.pointer (some ⟨(gs2 2).b,10,none⟩)),(some 51,fun _=>.slice q m k),(some 52,fun _=>iN m),(some 53,fun _=>iN ms),(some 54,fun _=>.slice q ms k),(some 55,fun _=>.pointer (some ⟨(gs2 2).b,6,none⟩)),(none,fun _=>undef),(some 56,fun _=>.pointer (some ⟨(gs2 2).b,10,none⟩)),(none,fun _=>undef)]
  (D2.chn [0,8,17,19] (fun j g ww=>match j with
   | 0=>St w.heap.size w ww [((gs2 2).b,Obj.cells (hdC hc p n c q m k) 26 (0,0)),((gs1 0).b,bkO h p n c q m k t z d),((gs1 1).b,bkO hd0 none 0 0 none 0 0 none 0 0)]
   | 1=>St w.heap.size w ww [((g 0).b,.cells #[] 9 (0,0)),((gs2 2).b,Obj.cells (hdC hc p n c q m k) 26 (0,0)),((gs1 0).b,bkO h p n c q m k t z d),((gs1 1).b,bkO hd0 none 0 0 none 0 0 none 0 0)]
   | 2=>Rw 1 (g 8).cur (g 8).cap nv (cellsF sS (h.vs.take 20))∧St w.heap.size w ww [((g 8).b,.cells (g 8).cur 9 (0,0)),((gs2 2).b,Obj.cells (hdC hc p n c q m k) 26 (0,0)),((gs1 0).b,bkO h p n c q m k t z d),((gs1 1).b,bkO hd0 none 0 0 none 0 0 none 0 0)]
   | 3=>Rw 1 (g 8).cur (g 8).cap nv (cellsF sS (h.vs.take 20))∧St w.heap.size w ww [((g 8).b,.cells (g 8).cur 9 (0,0)),((gs2 2).b,Obj.cells (hdC hc (some ⟨(g 8).b,0,none⟩) nv (g 8).cap q m k) 26 (0,0)),((gs1 0).b,bkO h p n c q m k t z d),((gs1 1).b,bkO hd0 none 0 0 none 0 0 none 0 0)]
   | _=>Rw 1 (g 8).cur (g 8).cap nv (cellsF sS (h.vs.take 20))∧St w.heap.size w ww [((g 8).b,.cells (g 8).cur 9 (0,0)),((gs2 2).b,Obj.cells (hdC hc (some ⟨(g 8).b,0,none⟩) nv (g 8).cap q ms k) 26 (0,0)),((gs1 0).b,bkO h p n c q m k t z d),((gs1 1).b,bkO hd0 none 0 0 none 0 0 none 0 0)])) kr kr kr H4.drew ⟨?_,?_,?_,?_,?_,?_,?_,?_,?_,?_,?_,?_,?_,?_,?_,?_,?_,?_,?_,?_,trivial⟩ ?_
 ·refine D2.gv_chn 0 0 (fun L hN=>by
   have e0:=hN.1;have e8:=hN.post 8 kr;have e17:=hN.fwd e8 (show D2.edge _ 8 17=true by kernel_rfl);have e19:=hN.fwd e17 (show D2.edge _ 17 19=true by kernel_rfl)
   exact ⟨by (simp [D2.stg,e0,e8,e17,e19])<;>rfl,by (simp [D2.stg,D2.put1,e0,e8,e17,e19])<;>rfl⟩) fun g ww hq=>?_
  exact D2.run_new (F:=fun b=>.slice (some ⟨b,0,none⟩) 0 0) (ob:=.cells #[] 9 (0,0)) kr ⟨{ b:=ww.heap.size },rfl,St.alloc hq _⟩
 ·exact D2.gv_val (fun _ _ _ h=>h) (fun g w=>by kernel_rfl)
 ·exact D2.gv_ld (fun _ _ _ h=>h) 23 (.tmp 40) (fun _=>(gs2 2).b) 6 (hdC hc p n c q m k) 26 (0,0) (fun g=>by kernel_rfl) (fun g=>by kernel_rfl) (fun L1 g ww hN hp=>D2.chn.getN hp 2 17 rfl (hN.post 17 kr) fun j hj h=>by
   match j,h with
   | 0,h=>exact St.get h 0 kr
   | 1,h=>exact St.get h 1 kr
   | 2,h=>exact St.get h.2 1 kr) kr kr
 ·exact D2.gv_val (fun _ _ _ h=>h) (fun g w=>by kernel_rfl)
 ·exact D2.gv_ld (fun _ _ _ h=>h) 23 (.tmp 42) (fun _=>(gs2 2).b) 6 (hdC hc p n c q m k) 26 (0,0) (fun g=>by kernel_rfl) (fun g=>by kernel_rfl) (fun L1 g ww hN hp=>D2.chn.getN hp 2 17 rfl (hN.post 17 kr) fun j hj h=>by
   match j,h with
   | 0,h=>exact St.get h 0 kr
   | 1,h=>exact St.get h 1 kr
   | 2,h=>exact St.get h.2 1 kr) kr kr
 ·exact D2.gv_val (fun _ _ _ h=>h) (fun g w=>by kernel_rfl)
 ·exact D2.gv_valE (V':=.int .i64 (if (20:Int)<(n:Int) then (20:Int) else (n:Int))) (fun _ _ _ h=>h) (fun g w=>by kernel_rfl) (zo (by rw [←env];split<;>omega))
 ·exact D2.gv_op (fun _ _ _ h=>h) (.slice 23 (.tmp 41) none (some (.tmp 45)) none) (fun g=>by kernel_rfl) (fun g o w ho=>za3 (t:=23) (e:=9) (size:=1) (bytes:=16) (kd:=.i64) kr (x:=(.tmp 41)) (y:=(.tmp 45)) hp (by omega) ho kr kr w)
 ·refine D2.gv_chn 8 1 (fun L hN=>by
   have e8:=hN.1;have e0:=hN.bef 0 kr;have e17:=hN.post 17 kr;have e19:=hN.fwd e17 (show D2.edge _ 17 19=true by kernel_rfl)
   exact ⟨by (simp [D2.stg,e0,e8,e17,e19])<;>rfl,by (simp [D2.stg,D2.put1,e0,e8,e17,e19])<;>rfl⟩) fun g ww hq=>?_
  refine D2.run_of (op:=yp 23 (.tmp 39) (.tmp 46)) kr fun o ho=>?_;obtain ⟨b',cap',cur',w',hrun,HS',hr'⟩:=zfn (S:=sS) (j:=0) (cur:=#[]) (cap:=0) (b:=(g 0).b) hq (t:=23) (bytes:=16) (n:=0) (xs:=[]) kr ho kr kr ⟨rfl,Nat.le_refl _,Nat.zero_le _,rfl,rfl⟩ kr (hT.call (St.below hq)) (hp.cut (by omega)) (by omega) (by unfold maxLen;omega);rw [Nat.zero_add] at hrun hr';rw [List.nil_append] at hr';exact ⟨_,w',hrun,{ b:=b',cap:=cap',cur:=cur' },rfl,hr',HS'⟩
 ·exact D2.gv_val (fun _ _ _ h=>h) (fun g w=>by kernel_rfl)
 ·exact D2.gv_ld (fun _ _ _ h=>h) 24 (.tmp 48) (fun _=>(gs2 2).b) 10 (hdC hc p n c q m k) 26 (0,0) (fun g=>by kernel_rfl) (fun g=>by kernel_rfl) (fun L1 g ww hN hp=>D2.chn.getN hp 2 17 rfl (hN.post 17 kr) fun j hj h=>by
   match j,h with
   | 0,h=>exact St.get h 0 kr
   | 1,h=>exact St.get h 1 kr
   | 2,h=>exact St.get h.2 1 kr) kr kr
 ·exact D2.gv_val (fun _ _ _ h=>h) (fun g w=>by kernel_rfl)
 ·exact D2.gv_ld (fun _ _ _ h=>h) 24 (.tmp 50) (fun _=>(gs2 2).b) 10 (hdC hc p n c q m k) 26 (0,0) (fun g=>by kernel_rfl) (fun g=>by kernel_rfl) (fun L1 g ww hN hp=>D2.chn.getN hp 2 17 rfl (hN.post 17 kr) fun j hj h=>by
   match j,h with
   | 0,h=>exact St.get h 0 kr
   | 1,h=>exact St.get h 1 kr
   | 2,h=>exact St.get h.2 1 kr) kr kr
 ·exact D2.gv_val (fun _ _ _ h=>h) (fun g w=>by kernel_rfl)
 ·exact D2.gv_valE (V':=.int .i64 (if (20:Int)<(m:Int) then (20:Int) else (m:Int))) (fun _ _ _ h=>h) (fun g w=>by kernel_rfl) (zo (by rw [hms];split<;>omega))
 ·exact D2.gv_op (fun _ _ _ h=>h) (.slice 24 (.tmp 49) none (some (.tmp 53)) none) (fun g=>by kernel_rfl) (fun g o w ho=>za3 (t:=24) (e:=57) (size:=9) (bytes:=72) (kd:=.i64) kr (x:=(.tmp 49)) (y:=(.tmp 53)) hq (by omega) ho kr kr w)
 ·exact D2.gv_val (fun _ _ _ h=>h) (fun g w=>by kernel_rfl)
 ·refine D2.gv_chn 17 2 (fun L hN=>by
   have e17:=hN.1;have e8:=hN.bef 8 kr;have e0:=hN.back e8 (show D2.edge _ 0 8=true by kernel_rfl);have e19:=hN.post 19 kr
   exact ⟨by (simp [D2.stg,e0,e8,e17,e19])<;>rfl,by (simp [D2.stg,D2.put1,e0,e8,e17,e19])<;>rfl⟩) fun g ww hq=>?_
  exact D2.run_sto (t:=23) (x:=.tmp 55) (y:=.tmp 47) (b:=(gs2 2).b) (off:=6) (C:=hdC hc p n c q m k) (C':=hdC hc (some ⟨(g 8).b,0,none⟩) nv (g 8).cap q m k) (T:=26) (v:=.slice (some ⟨(g 8).b,0,none⟩) nv (g 8).cap) kr kr kr kr kr (St.get hq.2 1 kr) (Nat.le_of_ble_eq_true kr) kr ⟨g 17,rfl,hq.1,St.store (C:=hdC hc p n c q m k) (T:=26) hq.2 1 kr⟩
 ·exact D2.gv_val (fun _ _ _ h=>h) (fun g w=>by kernel_rfl)
 ·refine D2.gv_chn 19 3 (fun L hN=>by
   have e19:=hN.1;have e17:=hN.bef 17 kr;have e8:=hN.back e17 (show D2.edge _ 8 17=true by kernel_rfl);have e0:=hN.back e8 (show D2.edge _ 0 8=true by kernel_rfl)
   exact ⟨by (simp [D2.stg,e0,e8,e17,e19])<;>rfl,by (simp [D2.stg,D2.put1,e0,e8,e17,e19])<;>rfl⟩) fun g ww hq=>?_
  exact D2.run_sto (t:=24) (x:=.tmp 56) (y:=.tmp 54) (b:=(gs2 2).b) (off:=10) (C:=hdC hc (some ⟨(g 8).b,0,none⟩) nv (g 8).cap q m k) (C':=hdC hc (some ⟨(g 8).b,0,none⟩) nv (g 8).cap q ms k) (T:=26) (v:=.slice q ms k) kr kr kr kr kr (St.get hq.2 1 kr) (Nat.le_of_ble_eq_true kr) kr ⟨g 19,rfl,hq.1,St.store (C:=hdC hc (some ⟨(g 8).b,0,none⟩) nv (g 8).cap q m k) (T:=26) hq.2 1 kr⟩
 intro L1 g w5 hall hp9;obtain ⟨hrw,H5⟩:=hp9.fin (fun k hk=>hall k (by simp at hk;rcases hk with rfl | rfl | rfl | rfl<;>exact Nat.le_of_ble_eq_true kr));refine wW ?_;generalize (g 8).b=b at*;generalize (g 8).cap=cv at*;generalize (g 8).cur=cur at*;have H6:St w.heap.size w w5 [(b,.cells cur 9 (0,0)),((gs2 2).b,Obj.cells (hdC hc (some ⟨b,0,none⟩) nv cv q ms k) 26 (0,0)),((gs1 0).b,bkO h p n c q m k t z d),((gs1 1).b,bkO hd0 none 0 0 none 0 0 none 0 0)]:=H5;refine zc kr<|rS [.v,.l 1,.v,.v] H6 kr fun gs4 w6 H7=>?_;generalize hMV:h.vs.take 20=M at*;refine qw 60 59 61 72 0 1 nv (by omega) (fun i ρ ww=> ∃cur,Rw 1 cur cv nv (cellsF sS ((M.take i).map yi++M.drop i))∧St w.heap.size w ww [(b,.cells cur 9 (0,0)),((gs2 2).b,Obj.cells (hdC hc (some ⟨b,0,none⟩) nv cv q ms k) 26 (0,0)),((gs1 0).b,bkO h p n c q m k t z d),((gs1 1).b,bkO hd0 none 0 0 none 0 0 none 0 0)]∧Is [(1,.pointer (some ⟨(gs1 0).b,0,none⟩)),(2,.pointer (some ⟨(gs1 1).b,0,none⟩)),(3,.pointer (some ⟨(gs2 2).b,0,none⟩)),(4,.func (.func 10) #[] #[]),(58,.slice (some ⟨b,0,none⟩) nv cv),(59,iN nv),(60,iN i)] ρ) (by rintro i _ ww ⟨_,_,_,_,rfl⟩;exact ⟨kr,kr⟩) ⟨cur,hrw,H7.as kr,isK⟩ ?_ ?_
 ·clear H4 H5 H6 H7 hrw;rintro i _ w7 hi ⟨cur,hrw,H8,_,rfl⟩;obtain ⟨x,hx⟩:∃x,M[i]? =some x:=⟨_,List.getElem?_eq_getElem (by omega)⟩
  obtain ⟨hx2,hset⟩:=zfo (g:=yi) hx;have hput:=Rw.setF (S:=sS) (y:=yi x) hrw hx2 0 (.string (yi x)) (show 0+1≤1 by decide) rfl;rw [hset] at hput;have hcell:cur[0+i*1]? =some (.string x):=(hrw.rowAt (S:=sS)).cell hx2 0 (by decide);refine rS [.v,.o (ins:=[((.tmp 58),.slice (some ⟨b,0,none⟩) nv cv),((.tmp 60),iN i)]) (v:=.pointer (some ⟨b,0+i*1,none⟩)) (fun ρ o w ho hi2=>zL (kd:=.i64) (t:=23) (e:=9) (K:=1) (bytes:=16) kr (x:=(.tmp 58)) (y:=(.tmp 60)) b 0 nv cv i rfl ho hi2.1 hi2.2.1 (by omega) w),.ls 0 (C:=cur) (off:=0+i*1) (v:=.string x) hcell,.v,.v] H8 kr fun gs5 w8 H9=>dL [.v,.l 1,.v,.v,.v,.c (xZ x),.o (ins:=[((.tmp 66),.slice (some ⟨b,0,none⟩) nv cv),((.tmp 67),iN i)]) (v:=.pointer (some ⟨b,0+i*1,none⟩)) (fun ρ o w ho hi2=>zL (kd:=.i64) (t:=23) (e:=9) (K:=1) (bytes:=16) kr (x:=(.tmp 66)) (y:=(.tmp 67)) b 0 nv cv i rfl ho hi2.1 hi2.2.1 (by omega) w),.se 0 (C:=cur) (C':=putA cur (0+i*1+0) (.string (yi x))) (off:=0+i*1) (v:=.string (yi x)) hput.1 rfl] H9 kr fun w9 H10=>?_;exact ⟨kr,_,hput.2,H10.as kr,isK⟩
 ·clear H4 H5 H6 H7 hrw;rintro _ w7 ⟨cur,hrw,H8,_,rfl⟩;rw [List.take_of_length_le (by omega),List.drop_of_length_le (by omega),List.append_nil] at hrw;refine wW<|zc kr<|D2.g_draw0 [0,1,2,3,4,5] [(some 73,fun _=>hdV hc (some ⟨b,0,none⟩) nv cv q ms k),(some 74,fun _=>.pointer (some ⟨(gs1 0).b,11,none⟩)),(some 75,fun _=>.slice t z d),(some 76,fun y=>.slice (some ⟨(y).b,0,none⟩) (y).n (y).cap),(some 77,fun y=>bkV hc (some ⟨b,0,none⟩) nv cv q ms k (some ⟨(y).b,0,none⟩) (y).n (y).cap),(none,fun _=>undef)]
   (D2.chn [3,4,5] (fun j g ww=>match j with
   | 0=>St w.heap.size w ww [(b,.cells cur 9 (0,0)),((gs2 2).b,.cells (hdC hc (some ⟨b,0,none⟩) nv cv q ms k) 26 (0,0)),((gs1 0).b,bkO h p n c q m k t z d),((gs1 1).b,bkO hd0 none 0 0 none 0 0 none 0 0)]
   | 1=>Rw 12 (g 3).cur (g 3).cap (g 3).n (cellsF tnS (qT l))∧St w.heap.size w ww [((g 3).b,.cells (g 3).cur 59 (0,0)),(b,.cells cur 9 (0,0)),((gs2 2).b,.cells (hdC hc (some ⟨b,0,none⟩) nv cv q ms k) 26 (0,0)),((gs1 0).b,bkO h p n c q m k t z d),((gs1 1).b,bkO hd0 none 0 0 none 0 0 none 0 0)]
   | 2=>Rw 12 (g 4).cur (g 4).cap (g 4).n (cellsF tnS (qT l))∧St w.heap.size w ww [((g 4).b,.cells (g 4).cur 59 (0,0)),(b,.cells cur 9 (0,0)),((gs2 2).b,.cells (hdC hc (some ⟨b,0,none⟩) nv cv q ms k) 26 (0,0)),((gs1 0).b,bkO h p n c q m k t z d),((gs1 1).b,bkO hd0 none 0 0 none 0 0 none 0 0)]
   | _=>Rw 12 (g 4).cur (g 4).cap (g 4).n (cellsF tnS (qT l))∧St w.heap.size w ww [((g 4).b,.cells (g 4).cur 59 (0,0)),(b,.cells cur 9 (0,0)),((gs2 2).b,.cells (hdC hc (some ⟨b,0,none⟩) nv cv q ms k) 26 (0,0)),((gs1 0).b,bkO h p n c q m k t z d),((gs1 1).b,.cells (bkC hc (some ⟨b,0,none⟩) nv cv q ms k (some ⟨(g 4).b,0,none⟩) (g 4).n (g 4).cap) 29 (0,0))])) kr kr kr H8.drew ⟨?_,?_,?_,?_,?_,?_,trivial⟩ ?_
  ·exact D2.gv_ld (fun _ _ _ h=>h) 26 (.tmp 3) (fun _=>(gs2 2).b) 0 (hdC hc (some ⟨b,0,none⟩) nv cv q ms k) 26 (0,0) (fun g=>by kernel_rfl) (fun g=>by kernel_rfl) (fun L1 g ww hN hp=>D2.chn.getN hp 1 4 rfl (hN.post 4 kr) fun j hj h=>by
   match j,h with
   | 0,h=>exact St.get h 1 kr
   | 1,h=>exact St.get h.2 2 kr) kr kr
  ·exact D2.gv_val (fun _ _ _ h=>h) (fun g w=>by kernel_rfl)
  ·exact D2.gv_ld (fun _ _ _ h=>h) 27 (.tmp 74) (fun _=>(gs1 0).b) 11 (bkC h p n c q m k t z d) 29 (0,0) (fun g=>by kernel_rfl) (fun g=>by kernel_rfl) (fun L1 g ww hN hp=>D2.chn.getN hp 0 3 rfl (hN.post 3 kr) fun j hj h=>by
   match j,h with
   | 0,h=>exact St.get h 2 kr) kr kr
  ·refine D2.gv_chn 3 0 (fun L hN=>by
   have e3:=hN.1;have e4:=hN.post 4 kr;have e5:=hN.fwd e4 (show D2.edge _ 4 5=true by kernel_rfl)
   exact ⟨by (simp [D2.stg,e3,e4,e5])<;>rfl,by (simp [D2.stg,D2.put1,e3,e4,e5])<;>rfl⟩) fun g ww hq1=>?_
   refine D2.run_ft (zls t z d l ht) (hPT.call (St.below hq1)) kr ?_;rintro _ _ w' ⟨b3,m',k',cur3,rfl,rfl,hrw3⟩ hT3;exact ⟨{ b:=b3,n:=m',cap:=k',cur:=cur3 },rfl,hrw3,(St.addAll hq1 hT3).as kr⟩
  ·refine D2.gv_chn 4 1 (fun L hN=>by
   have e4:=hN.1;have e3:=hN.bef 3 kr;have e5:=hN.post 5 kr
   exact ⟨by (simp [D2.stg,e3,e4,e5])<;>rfl,by (simp [D2.stg,D2.put1,e3,e4,e5])<;>rfl⟩) fun g ww hq1=>?_
   exact D2.run_val (v:=(fun (y:Gh)=>bkV hc (some ⟨b,0,none⟩) nv cv q ms k (some ⟨(y).b,0,none⟩) (y).n (y).cap) (g 3)) kr ⟨g 3,rfl,hq1⟩
  ·refine D2.gv_chn 5 2 (fun L hN=>by
   have e5:=hN.1;have e4:=hN.bef 4 kr;have e3:=hN.back e4 (show D2.edge _ 3 4=true by kernel_rfl)
   exact ⟨by (simp [D2.stg,e3,e4,e5])<;>rfl,by (simp [D2.stg,D2.put1,e3,e4,e5])<;>rfl⟩) fun g ww hq1=>?_
   exact D2.run_sto (t:=29) (x:=.tmp 2) (y:=.tmp 77) (b:=(gs1 1).b) (off:=0) (C:=bkC hd0 none 0 0 none 0 0 none 0 0) (C':=bkC hc (some ⟨b,0,none⟩) nv cv q ms k (some ⟨(g 4).b,0,none⟩) (g 4).n (g 4).cap) (T:=29) (v:=bkV hc (some ⟨b,0,none⟩) nv cv q ms k (some ⟨(g 4).b,0,none⟩) (g 4).n (g 4).cap) kr kr kr kr kr (St.get hq1.2 4 kr) (Nat.le_of_ble_eq_true kr) kr ⟨g 5,rfl,hq1.1,St.store (C:=bkC hd0 none 0 0 none 0 0 none 0 0) (T:=29) hq1.2 4 kr⟩
  intro L1 g w8 hall hp9;obtain ⟨hrw3,H9⟩:=hp9.fin (fun k hk=>hall k (by simp at hk;rcases hk with rfl | rfl | rfl<;>exact Nat.le_of_ble_eq_true kr));refine wW<|rRr [.cell 2 29] [4] (bkV hc (some ⟨b,0,none⟩) nv cv q ms k (some ⟨(g 4).b,0,none⟩) (g 4).n (g 4).cap) (zX w.heap.size w (zf1 h l q k)) H9 kr ?_;refine ⟨_,⟨b,nv,cv,cur,(g 4).b,(g 4).n,(g 4).cap,(g 4).cur,by rw [ems,←ehc];rfl,rfl,?_,hrw3⟩,H9.sub (List.Sublist.cons_cons _ (List.Sublist.cons_cons _ (List.nil_sublist _)))⟩;show Rw 1 cur cv nv (cellsF sS ((h.vs.take 20).map yi));rw [hMV];exact hrw
theorem zlI:(sumTs []).extract 0 4=⟨#[197,210,70,1]⟩:=by decide+kernel
theorem zf2:FnP Tryz.prog 8 #[] Ke.Marks (.bool true):=by
 have hs:=zfS none 0 0 [] (Nat.zero_le _) (fun _ h=>nomatch h);have hz:(sumTs []).size=32:=zfD _;refine FnP.intro (c:=zf Tryz.f8) [.tmp 0] 19 Tryz.func8 kr kr kr fun w hM=>rS [.v] (St.start w) kr fun gs1 w1 H1=>rS [.cp (show FnP Tryz.prog 18 #[.slice none 0 0] (fun w=>AtF tnS w none 0 []∧Ke.Marks w) (.tuple #[.string (sumTs []),.int .i64 0]) from hs) [] (fun w hb hd=>⟨⟨rfl,.inl rfl⟩,yA hM hb⟩),.v,.v,.v,.v,.v] H1 kr fun gs2 w2 H2=>rS [.v,.v,.v,.v,.v,.E (.bool ((((sumTs []).size:Nat):Int)==32)) (.bool true) (za (by rw [hz];rfl)),.v,.v,.v,.o (ins:=[((.tmp 15),.string (sumTs []))]) (v:=.string ((sumTs []).extract 0 4)) (fun ρ o w ho hi=>xm (t:=9) (kd:=.i64) kr (x:=(.tmp 15)) (y:=.const (.int .i64 4)) (sumTs []) 4 ho hi.1 rfl (by omega) w),.E (.bool (((sumTs []).extract 0 4).toList==(⟨#[197,210,70,1]⟩:ByteArray).toList)) (.bool true) (za (by rw [zlI];exact zaZ _)),.v,.v] H2 kr fun gs3 w3 H3=>?_;exact rR [.tmp 0] [] (.bool true) H3 kr
end Go.Proofs.YthonokeibcodpaaGreatDoor
namespace Go.Proofs.YthonokeibcodpaaGreatDoor
open Go Go.RowKit
open D2 (Gh)
set_option linter.unusedVariables false
end Go.Proofs.YthonokeibcodpaaGreatDoor
namespace Go.Proofs.YthonokeibcodpaaGreatDoor
open Go Go.RowKit
open D2 (Gh)
set_option linter.unusedVariables false
theorem zf3 {α:Type}{S:Fl α}{w:World}{b m k:Nat}{cur:Array Value}{T:TypeId}{M:List α}(h:Rw S.K cur k m (cellsF S M))(hh:w.heap[b]? =some (.cells cur T (0,0))):AtF S w (some ⟨b,0,none⟩) m M:=⟨h.lenF.symm,.inr ⟨b,0,cur,T,(0,0),rfl,hh,h.rowAt⟩⟩
end Go.Proofs.YthonokeibcodpaaGreatDoor
namespace Go.Proofs.YthonokeibcodpaaGreatDoor
open Go Go.RowKit
open D2 (Gh)
set_option linter.unusedVariables false
theorem kK.eq {S:ByteArray}{h k:Hdr}{L M:List Txn}{e:Int}(r:kK S h L e)(oh:zZ h)(ok:zZ k)(oL: ∀x∈L,qJ x)(oM: ∀x∈M,qJ x)(hr:yB k M=true)(hw:(qB k M).1=S):e=0∧h=k∧L=M:=by
 have hb:qB k M=(S,0):=Prod.ext hw (kJ hr);rcases r with ⟨e0,r1,w1⟩ | ⟨_,_,_,hno⟩
 ·obtain ⟨h1,h2⟩:=zlr oh ok (fun x hx=>(oL x hx).1) (fun x hx=>(oM x hx).1) r1 hr (by rw [w1,hb]);exact ⟨e0,h1,h2⟩
 ·exact absurd hb (hno k M hr ok fun x hx=>(oM x hx).1)
theorem zlJ {h:Hdr}{L:List Txn}(r:yB h L=true):(qB h L).1.size≤4000:=by
 have h0:=kJ r;unfold qB at h0 ⊢;obtain ⟨e,hm,hp,_,_,hz,hl⟩:=jm h0;rw [e,qd,hl];exact hz
theorem zlK (hd:Hdr)(l:List Txn)(p:Option Addr)(n c:Nat)(q:Option Addr)(m k:Nat)(t:Option Addr)(z d:Nat)(hp:yQ p n c)(hq:yQ q m k)(ht:yQ t z d)(hnum:zca hd)(hl: ∀x∈l,yt x)(s:ByteArray):FnP Tryz.prog 3 #[bkV hd p n c q m k t z d,.string s] (fun w=>ju w hd l p n q m t z∧Ke.Marks w) (.bool true):=by
 refine FnP.intro (c:=zf Tryz.f3) [.tmp 4] 72 Tryz.func3 kr kr kr fun w hP=>?_;obtain ⟨hP,hM⟩:=hP;have hm:=hP.1.2.1;have H0:=St.start w;obtain ⟨S,hS⟩:∃S,s.extract 0 (min s.size 4100)=S:=⟨_,rfl⟩
 have hSz:S.size≤4100:=by rw [←hS,ByteArray.size_extract];omega
 refine rS [.b,.v] H0 kr fun gs1 w1 H1=>?_;have H1':St w.heap.size w w1 [((gs1 0).b,bkO hd p n c q m k t z d)]:=H1.as kr;refine zc kr<|D2.g_draw0 [0,1,2,3,4,5,6,7,8] [(some 13,fun _=>bkV hd p n c q m k t z d),(some 14,fun y=>bkV (jt hd) (some ⟨(y).b,0,none⟩) (y).n (y).cap q (hd.ss.take 20).length k (some ⟨(y).l.getD 0 0,0,none⟩) ((y).l.getD 1 0) ((y).l.getD 2 0)),(some 15,fun _=>.string s),(some 16,fun _=>.string s),(some 17,fun _=>iN s.size),(some 18,fun _=>iN (min s.size 4100)),(some 19,fun _=>.string (s.extract 0 (min s.size 4100))),(none,fun _=>undef),(some 1,fun _=>.string (s.extract 0 (min s.size 4100)))]
  (D2.chn [1,7] (fun j g ww=>match j with
   | 0=>St w.heap.size w ww [((gs1 0).b,bkO hd p n c q m k t z d)]
   | 1=> ∃ct,(Rw 1 (g 1).cur (g 1).cap (g 1).n (cellsF sS (jt hd).vs)∧Rw 12 ct ((g 1).l.getD 2 0) ((g 1).l.getD 1 0) (cellsF tnS (qT l)))∧St w.heap.size w ww [((g 1).l.getD 0 0,Obj.cells ct 59 (0,0)),((g 1).b,Obj.cells (g 1).cur 9 (0,0)),((gs1 0).b,bkO hd p n c q m k t z d)]
   | _=> ∃ct,(Rw 1 (g 1).cur (g 1).cap (g 1).n (cellsF sS (jt hd).vs)∧Rw 12 ct ((g 1).l.getD 2 0) ((g 1).l.getD 1 0) (cellsF tnS (qT l)))∧St w.heap.size w ww [((g 1).l.getD 0 0,Obj.cells ct 59 (0,0)),((g 1).b,Obj.cells (g 1).cur 9 (0,0)),((gs1 0).b,bkO (jt hd) (some ⟨(g 1).b,0,none⟩) (g 1).n (g 1).cap q (hd.ss.take 20).length k (some ⟨(g 1).l.getD 0 0,0,none⟩) ((g 1).l.getD 1 0) ((g 1).l.getD 2 0))])) kr kr kr H1'.drew ⟨?_,?_,?_,?_,?_,?_,?_,?_,?_,trivial⟩ ?_
 ·exact D2.gv_ld (fun _ _ _ h=>h) 29 (.tmp 2) (fun _=>(gs1 0).b) 0 (bkC hd p n c q m k t z d) 29 (0,0) (fun g=>by kernel_rfl) (fun g=>by kernel_rfl) (fun L1 g ww hN hp=>D2.chn.getN hp 0 1 rfl (hN.post 1 kr) fun j hj h=>by
   match j,h with
   | 0,h=>exact St.get h 0 kr) kr kr
 ·refine D2.gv_chn 1 0 (fun L hN=>by
   have e1:=hN.1;have e7:=hN.post 7 kr
   exact ⟨by (simp [D2.stg,e1,e7])<;>rfl,by (simp [D2.stg,D2.put1,e1,e7])<;>rfl⟩) fun g ww hq1=>?_
  refine D2.run_ft (zlH hd l p n c q m k t z d hp hq ht) ⟨⟨hP.1.1.call (St.below hq1),hP.1.2.call (St.below hq1)⟩,hP.2.call (St.below hq1)⟩ kr ?_;rintro _ _ w' ⟨b,m',k',cur,bt,nt,ct,curt,rfl,rfl,hrw,hrt⟩ hT;exact ⟨{ b:=b,n:=m',cap:=k',cur:=cur,l:=[bt,nt,ct] },rfl,curt,⟨hrw,hrt⟩,(St.addAll hq1 hT).as kr⟩
 ·exact D2.gv_val (fun _ _ _ h=>h) (fun g w=>by kernel_rfl)
 ·exact D2.gv_val (fun _ _ _ h=>h) (fun g w=>by kernel_rfl)
 ·exact D2.gv_val (fun _ _ _ h=>h) (fun g w=>by kernel_rfl)
 ·exact D2.gv_valE (V':=.int .i64 (if (4100:Int)<(s.size:Int) then (4100:Int) else (s.size:Int))) (fun _ _ _ h=>h) (fun g w=>by kernel_rfl) (zo (by split<;>omega))
 ·exact D2.gv_op (fun _ _ _ h=>h) (.slice 9 (.tmp 15) none (some (.tmp 18)) none) (fun g=>by kernel_rfl) (fun g o w ho=>xm (t:=9) (kd:=.i64) kr (x:=(.tmp 15)) (y:=(.tmp 18)) s (min s.size 4100) ho kr kr (Nat.min_le_left _ _) w)
 ·refine D2.gv_chn 7 1 (fun L hN=>by
   have e7:=hN.1;have e1:=hN.bef 1 kr
   exact ⟨by (simp [D2.stg,e1,e7])<;>rfl,by (simp [D2.stg,D2.put1,e1,e7])<;>rfl⟩) fun g ww hq1=>?_
  obtain ⟨ct,hr9,hq1⟩:=hq1;exact D2.run_sto (t:=29) (x:=.tmp 2) (y:=.tmp 14) (b:=(gs1 0).b) (off:=0) (C:=bkC hd p n c q m k t z d) (C':=bkC (jt hd) (some ⟨(g 1).b,0,none⟩) (g 1).n (g 1).cap q (hd.ss.take 20).length k (some ⟨(g 1).l.getD 0 0,0,none⟩) ((g 1).l.getD 1 0) ((g 1).l.getD 2 0)) (T:=29) (v:=bkV (jt hd) (some ⟨(g 1).b,0,none⟩) (g 1).n (g 1).cap q (hd.ss.take 20).length k (some ⟨(g 1).l.getD 0 0,0,none⟩) ((g 1).l.getD 1 0) ((g 1).l.getD 2 0)) kr kr kr kr kr (St.get hq1 2 kr) (Nat.le_of_ble_eq_true kr) kr ⟨g 7,rfl,ct,hr9,St.store (C:=bkC hd p n c q m k t z d) (T:=29) hq1 2 kr⟩
 ·exact D2.gv_val (fun _ _ _ h=>h) (fun g w=>by kernel_rfl)
 intro Lz g w3 hall hp9;obtain ⟨ct,⟨hrw,hrt⟩,H3⟩:=hp9.fin (fun k hk=>hall k (by simp at hk;rcases hk with rfl | rfl<;>exact Nat.le_of_ble_eq_true kr));refine wW<|uh [(1,.string (s.extract 0 (min s.size 4100))),(2,.pointer (some ⟨(gs1 0).b,0,none⟩))] kr fun ρ1=>?_;rw [hS];generalize (g 1).b=b at*;generalize (g 1).n=n1 at*;generalize (g 1).cap=c1 at*;generalize (g 1).cur=cur at*;generalize (g 1).l.getD 0 0=bt at*;generalize (g 1).l.getD 1 0=nt at*;generalize (g 1).l.getD 2 0=c2 at*;have hq2:=hP.1.2.take (min m 20) (Nat.min_le_left _ _);rw [zcb hm] at hq2;have hms:(hd.ss.take 20).length=min m 20:=by rw [List.length_take,←hm];omega
 rw [←hms] at hq2;have o:=zkK hnum.1 hnum.2.1 hnum.2.2;have oL: ∀x∈qT l,qJ x:=fun x hx=>⟨(zfP hl x hx).1,by have:=(zfP hl x hx).2;omega⟩
 have lL:(qT l).length≤1000000:=by unfold qT;rw [List.length_map,List.length_take];omega
 change AtF sgF w q (hd.ss.take 20).length (jt hd).ss at hq2;generalize (hd.ss.take 20).length=ms at*;generalize jt hd=h at*;generalize qT l=L at*;have hat: ∀ {ww:World},ww.heap[bt]? =some (.cells ct 59 (0,0))→ww.heap[b]? =some (.cells cur 9 (0,0))→Below w.heap.size w ww→ju ww h L (some ⟨b,0,none⟩) n1 q ms (some ⟨bt,0,none⟩) nt:=fun h1 h2 hb=>⟨⟨zf3 (S:=sS) hrw h2,hq2.call hb⟩,zf3 (S:=tnS) hrt h1⟩
 clear H0 H1 H1';refine zc kr<|xL (Q:=fun e ρ ww=>e=.normal∧St w.heap.size w ww []∧Is [(1,.string S)] ρ) ?_ ?_
 ·cases hr:yB h L with
  | false=>
   refine rS [.l 2,.cp (zlA h L o.sm lL oL hr (some ⟨b,0,none⟩) n1 c1 q ms k (some ⟨bt,0,none⟩) nt c2) [(0,(bt,Obj.cells ct 59 (0,0))),(1,(b,Obj.cells cur 9 (0,0)))] (fun w hb hd=>⟨hat hd.1 hd.2.1 hb,yA hM hb⟩),.v,.v,.v,.v,.v] H3 kr fun gs4 w4 H4=>rS [.v,.v] H4 kr fun gs5 w5 H5=>yk ?_;exact ⟨rfl,(H5.as (l:=[(bt,Obj.cells ct 59 (0,0)),(b,Obj.cells cur 9 (0,0)),((gs1 0).b,bkO h (some ⟨b,0,none⟩) n1 c1 q ms k (some ⟨bt,0,none⟩) nt c2)]) kr).sub (List.nil_sublist _),isK⟩
  | true=>
   refine rS [.l 2,.cp (zfV h L o oL hr (some ⟨b,0,none⟩) n1 c1 q ms k (some ⟨bt,0,none⟩) nt c2) [(0,(bt,Obj.cells ct 59 (0,0))),(1,(b,Obj.cells cur 9 (0,0)))] (fun w hb hd=>⟨hat hd.1 hd.2.1 hb,yA hM hb⟩),.v,.v,.v,.v,.v] H3 kr fun gs4 w4 H4=>rS [.v,.v] H4 kr fun gs5 w5 H5=>zU ?_;have hz:=zlJ hr;refine zg [0,1,2,3,4,5,6,7] kr kr<|rp [.v] H5 kr fun gsr1 wr1 Hr1=>wX [1,2,3,4,5,6,7] ?_;have Hs1:St w.heap.size w wr1 [(bt,Obj.cells ct 59 (0,0)),(b,Obj.cells cur 9 (0,0)),((gs1 0).b,bkO h (some ⟨b,0,none⟩) n1 c1 q ms k (some ⟨bt,0,none⟩) nt c2)]:=Hr1.as kr;refine qD Hs1 (some 29) 6 #[.string (qB h L).1] (zf0 (qB h L).1 (by omega)) (yA hM Hs1.below) kr kr ?_;rintro _ T1 wt1 ⟨h1,L1,p1,n1_,c1_,q1,m1,k1,t1,z1,d1,Ta1,Tb1,Tc1,e1,rfl,o1,oL1,ra1,rb1,rc1,hT1,rd1⟩ Ht1;refine rp [.v,.v,.v] Ht1 kr fun gsu1 wu1 Hu1=>wX [5,6,7] ?_;have Hv1:St w.heap.size w wu1 (T1++ [(bt,Obj.cells ct 59 (0,0)),(b,Obj.cells cur 9 (0,0)),((gs1 0).b,bkO h (some ⟨b,0,none⟩) n1 c1 q ms k (some ⟨bt,0,none⟩) nt c2)]):=Hu1.as kr;refine zE Hv1 (some 7) 29 (bkV hd0 none 0 0 none 0 0 none 0 0) kr kr kr ?_;intro b1 ww1 Hw1;refine rp [.s 0,.v] Hw1 kr fun gsx1 wx1 Hx1=>wX []<|zb<|wW ?_;have hA1: ∀e∈Ta1,e∈T1:=fun e he=>by rw [hT1];simp [he]
   have hB1: ∀e∈Tb1,e∈T1:=fun e he=>by rw [hT1];simp [he]
   have hC1: ∀e∈Tc1,e∈T1:=fun e he=>by rw [hT1];simp [he]
   have Hy1:St w.heap.size w wx1 ((b1,bkO h1 p1 n1_ c1_ q1 m1 k1 t1 z1 d1)::(T1++ [(bt,Obj.cells ct 59 (0,0)),(b,Obj.cells cur 9 (0,0)),((gs1 0).b,bkO h (some ⟨b,0,none⟩) n1 c1 q ms k (some ⟨bt,0,none⟩) nt c2)])):=Hx1.as kr;obtain ⟨rfl,eh,eL⟩:=rd1.eq o1 o oL1 oL hr rfl;have G:St w.heap.size w wx1 ((bt,Obj.cells ct 59 (0,0))::(b,Obj.cells cur 9 (0,0))::((gs1 0).b,bkO h (some ⟨b,0,none⟩) n1 c1 q ms k (some ⟨bt,0,none⟩) nt c2)::(b1,bkO h1 p1 n1_ c1_ q1 m1 k1 t1 z1 d1)::T1):=Hy1.perm (List.perm_append_comm (l₁:=[(bt,Obj.cells ct 59 (0,0)),(b,Obj.cells cur 9 (0,0)),((gs1 0).b,bkO h (some ⟨b,0,none⟩) n1 c1 q ms k (some ⟨bt,0,none⟩) nt c2)]) (l₂:=(b1,bkO h1 p1 n1_ c1_ q1 m1 k1 t1 z1 d1)::T1));have hlk:=zfp h1 L1 h L o1 o (by rw [eL];exact lL) (fun x hx=>(oL1 x hx).1) (fun x hx=>(oL x hx).1) p1 n1_ c1_ q1 m1 k1 t1 z1 d1 (some ⟨b,0,none⟩) n1 c1 q ms k (some ⟨bt,0,none⟩) nt c2 true (by simp [eh,eL]);clear H4 H5 Hr1 Hs1 Ht1 Hu1 Hv1 Hw1 Hx1 Hy1;refine zg [0,1,2,3,4,5,6,7] kr kr<|rp [.v,.v,.v,.l 3,.l 2] G kr fun gs6 w6 G1=>wX [5,6,7] ?_;have G2:St w.heap.size w w6 ((bt,Obj.cells ct 59 (0,0))::(b,Obj.cells cur 9 (0,0))::((gs1 0).b,bkO h (some ⟨b,0,none⟩) n1 c1 q ms k (some ⟨bt,0,none⟩) nt c2)::(b1,bkO h1 p1 n1_ c1_ q1 m1 k1 t1 z1 d1)::T1):=G1.as kr;refine yC G2 (some 37) 7 #[bkV h1 p1 n1_ c1_ q1 m1 k1 t1 z1 d1,bkV h (some ⟨b,0,none⟩) n1 c1 q ms k (some ⟨bt,0,none⟩) nt c2] _ _ hlk ⟨⟨⟨ra1.atF G2 fun e he=>by simp [hA1 e he],rb1.atF G2 fun e he=>by simp [hB1 e he]⟩,rc1.atF G2 fun e he=>by simp [hC1 e he]⟩,hat (G2.get 0 kr) (G2.get 1 kr) G2.below⟩ (fun w=>by kernel_rfl) kr ?_;intro w7 G3;refine rp [.v,.v] G3 kr fun gs7 w8 G4=>wX []<|zb<|wW<|yk ?_;exact ⟨rfl,G4.sub (List.nil_sublist _),isK⟩
 ·rintro _ _ w4 ⟨rfl,J0,_,rfl⟩;clear H3 hat hq2 hrw hrt;refine wW<|zg [0,1,2,3,4,5,6,7] kr kr<|rp [.v] J0 kr fun gsr2 wr2 Hr2=>wX [1,2,3,4,5,6,7] ?_;have Hs2:St w.heap.size w wr2 []:=Hr2.as kr;refine qD Hs2 (some 42) 6 #[.string S] (zf0 S (by omega)) (yA hM Hs2.below) kr kr ?_;rintro _ T2 wt2 ⟨h2,L2,p2,n2_,c2_,q2,m2,k2,t2,z2,d2,Ta2,Tb2,Tc2,e2,rfl,o2,oL2,ra2,rb2,rc2,hT2,rd2⟩ Ht2;refine rp [.v,.v,.v] Ht2 kr fun gsu2 wu2 Hu2=>wX [5,6,7] ?_;have Hv2:St w.heap.size w wu2 (T2++ []):=Hu2.as kr;refine zE Hv2 (some 9) 29 (bkV hd0 none 0 0 none 0 0 none 0 0) kr kr kr ?_;intro b2 ww2 Hw2;refine rp [.s 0,.v] Hw2 kr fun gsx2 wx2 Hx2=>wX []<|zb<|wW ?_;have hA2: ∀e∈Ta2,e∈T2:=fun e he=>by rw [hT2];simp [he]
  have hB2: ∀e∈Tb2,e∈T2:=fun e he=>by rw [hT2];simp [he]
  have hC2: ∀e∈Tc2,e∈T2:=fun e he=>by rw [hT2];simp [he]
  have Hy2:St w.heap.size w wx2 ((b2,bkO h2 p2 n2_ c2_ q2 m2 k2 t2 z2 d2)::(T2++ [])):=Hx2.as kr;have G:St w.heap.size w wx2 ((b2,bkO h2 p2 n2_ c2_ q2 m2 k2 t2 z2 d2)::T2):=by rw [List.append_nil] at Hy2;exact Hy2
  clear J0 Hr2 Hs2 Ht2 Hu2 Hv2 Hw2 Hx2 Hy2;have hat2: ∀ {ww:World},St w.heap.size w ww ((b2,bkO h2 p2 n2_ c2_ q2 m2 k2 t2 z2 d2)::T2)→ju ww h2 L2 p2 n2_ q2 m2 t2 z2:=fun Hq=>⟨⟨ra2.atF Hq fun e he=>by simp [hA2 e he],rb2.atF Hq fun e he=>by simp [hB2 e he]⟩,rc2.atF Hq fun e he=>by simp [hC2 e he]⟩
  rcases rd2 with ⟨rfl,hr2,hw2⟩|⟨rfl,rfl,rfl,hno⟩
  case inr=>
   have hlk:=zfp hd0 [] hd0 [] zaG zaG (Nat.zero_le _) (fun _ h=>nomatch h) (fun _ h=>nomatch h) p2 n2_ c2_ q2 m2 k2 t2 z2 d2 none 0 0 none 0 0 none 0 0 true (by simp);refine zc kr<|rS [.v,.v] G kr fun gs3 w5 G1=>zU<|zg [0,1,2,3,4,5,6] kr kr<|rp [.cp zf2 [] (fun w hb hd=>yA hM hb),.v,.l 0,.v] G1 kr fun gs4 w6 G2=>wX [4,5,6] ?_;have G3:St w.heap.size w w6 ((b2,bkO hd0 p2 n2_ c2_ q2 m2 k2 t2 z2 d2)::T2):=G2.as kr;refine yC G3 (some 51) 7 #[bkV hd0 p2 n2_ c2_ q2 m2 k2 t2 z2 d2,bkV hd0 none 0 0 none 0 0 none 0 0] _ _ hlk ⟨hat2 G3,⟨⟨rfl,.inl rfl⟩,rfl,.inl rfl⟩,rfl,.inl rfl⟩ (fun w=>by kernel_rfl) kr ?_;intro w7 G4;refine rp [.v,.v] G4 kr fun gs5 w8 G5=>wX []<|zb<|wW ?_;exact rR [.tmp 4] [] (.bool true) G5 kr
  have hB:=zfV h2 L2 o2 oL2 hr2 p2 n2_ c2_ q2 m2 k2 t2 z2 d2;rw [hw2] at hB;have hR:=zaH h2 L2 o2.sm (by have:=(jh.1 hr2).ln;omega) oL2 p2 n2_ c2_ q2 m2 k2 t2 z2 d2;rw [hr2] at hR;refine zc kr<|rS [.v,.v] G kr fun gs3 w5 G1=>yk<|wW<|zg [0,1,2,3,4,5,6] kr kr<|rp [.l 0] G1 kr fun gs4 w6 G2=>wX [1,2,3,4,5,6] ?_;have G3:St w.heap.size w w6 ((b2,bkO h2 p2 n2_ c2_ q2 m2 k2 t2 z2 d2)::T2):=G2.as kr;refine yC G3 (some 55) 5 #[bkV h2 p2 n2_ c2_ q2 m2 k2 t2 z2 d2] _ _ hB ⟨hat2 G3,yA hM G3.below⟩ (fun w=>by kernel_rfl) kr ?_;intro w7 G4;refine rp [.v,.v,.v,.v,.v] G4 kr fun gs5 w8 G5=>wX []<|zb<|wW<|zg [0,1,2,3,4,5,6,7,8,9,10,11,12,13,14] kr kr<|rp [.cp zf2 [] (fun w hb hd=>yA hM hb),.v,.v,.v,.v,.v,.v,.v,.E (.bool (S.toList==S.toList)) (.bool true) (za (zaZ S)),.v,.v,.l 0] G5 kr fun gs6 w9 G6=>wX [12,13,14] ?_;have G7:St w.heap.size w w9 ((b2,bkO h2 p2 n2_ c2_ q2 m2 k2 t2 z2 d2)::T2):=G6.as kr;refine yC G7 (some 70) 9 #[bkV h2 p2 n2_ c2_ q2 m2 k2 t2 z2 d2] _ _ hR ⟨hat2 G7,yA hM G7.below⟩ (fun w=>by kernel_rfl) kr ?_;intro w10 G8;refine rp [.v,.v] G8 kr fun gs7 w11 G9=>wX []<|zb<|wW ?_;exact rR [.tmp 4] [] (.bool true) G9 kr
end Go.Proofs.YthonokeibcodpaaGreatDoor
