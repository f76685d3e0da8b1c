/-
  Texts of the proof,part 9.
-/
import Derived.Test.YtcjejfklpegobaaGreatDoorProg
import Derived.Test.YtcjejfklpegobaaGreatDoorBZ1
import Derived.Test.YtcjejfklpegobaaGreatDoorBZ2
import Derived.Test.YtcjejfklpegobaaGreatDoorBZ6
import Derived.Test.YtcjejfklpegobaaGreatDoorBZ7
import Derived.Test.YtcjejfklpegobaaGreatDoorBZ8
set_option maxRecDepth 100000
set_option maxHeartbeats 4000000
open Go Go.RowKit
open List renaming sublist_cons_self->Qt,nil_sublist->QE,append_nil->QI,sublist_append_right->QK,mem_cons_of_mem->QR,perm_append_comm->QV,mem_cons_self->QX,mem_append_right->QZ,length_take->Rb
open List.Sublist renaming cons_cons->Qq,cons->Qs,refl->Rn,append->Vh
open Nat renaming le_of_ble_eq_true->Qp,zero_le->QU,min_le_left->Vu
open Obj renaming cells->Qk
namespace Go.Proofs.YtcjejfklpegobaaGreatDoor
theorem zsl {t:Qa}{e:Nat}(h:(e=2/\4000<t.size)\/(e=4/\t.size<=4000/\kK t)\/(e=5/\t.size<=4000/\∃(l1:Bool) (s1:Qa) (k1:Fo),yd t l1 s1 k1 ⟨#[]⟩/\8<dp1 l1 (dpF k1))){l:Bool}{s:Qa}{k:Fo} :zC l s k.len k≠(t,0):=fun he=>by
 obtain⟨e1,e2,e3,_,e5,e6,e7⟩:=jW (show (zC l s k.len k).2=0 by rw[he]);have e8:t=zg (wr1 l s (szF k) (wrF k)):=by rw[<-e1,he]
 rcases h with⟨_,h⟩|⟨_,_,h⟩|⟨_,h4,l1,s1,k1,hi,h⟩
 ·rw[e8,yU]at h;omega
 ·exact h l s k e2 e3 (by rw[e8,qq])
 ·obtain⟨rfl,rfl,rfl⟩:=yd.inj h4 hi (vV he);omega
def GdR (h1:Hdr)(s0:Qa)(I I':Fo)(f:Int)(L:List Txn)(r:Fo):Prop:=(f=0/\rightH h1=true/\wrV qa (hdF h1)=(s0,0)/\sI I'=L.map zD++sI r/\L.all rtX=true)\/(f=4/\ ∀(k:Hdr) (M:List Txn),yA k M=true->yj k->(∀x∈M,yS x)->sI I≠zY k::M.map zD)
theorem zsm (s:Qa)(hs:s.size<=4100):FnT Tryz.prog 8 #[.string s] (fun _=>True) (ju (jP s)):=by
 refine qz [.cell 2 29,.tmp 3] 77 Tryz.func8 fun w _=>?_;have H0:=St.start w;refine rS [.a,.v] H0 kr fun gs1 w1 H1=>zd [0,1,2,3,4,5,6,7] kr kr<|rp [.v] H1 kr fun gs2 w2 H2=>wX [1,2,3,4,5,6,7] ?_;have H3:St w.heap.size w w2 [((gs1 0).b,bkO hd0 none 0 0 none 0 0 none 0 0)]:=H2.as kr;refine vU H3 (some 15) 24 #[.string s] (zi6 s hs) kr kr ?_;rintro _ Td w3 ⟨l,sz,p,n,c,I,e,rfl,hc,hsl,hs1,hd⟩ H4;refine rp [.v,.v,.v] H4 kr fun gs3 w4 H5=>wX [5,6,7] ?_;have H6:St w.heap.size w w4 (Td++ [((gs1 0).b,bkO hd0 none 0 0 none 0 0 none 0 0)]):=H5.as kr;refine zA H6 (some 4) 58 (.agg #[.bool false,.string ⟨#[]⟩,.slice none 0 0]) kr kr kr ?_;intro b4 w5 H7;refine rp [.s 0,.v] H7 kr fun gs4 w6 H8=>wX []<|zb<|wW ?_;have H9:St w.heap.size w w6 ((b4,Qk #[.bool l,.string sz,.slice p n c] 58 (0,0))::(Td++ [((gs1 0).b,bkO hd0 none 0 0 none 0 0 none 0 0)])):=H8.as kr;have H10:St w.heap.size w w6 ((b4,Qk #[.bool l,.string sz,.slice p n c] 58 (0,0))::((gs1 0).b,bkO hd0 none 0 0 none 0 0 none 0 0)::Td):=H9.perm (List.Perm.cons _ (QV (l₁:=[((gs1 0).b,bkO hd0 none 0 0 none 0 0 none 0 0)]) (l₂:=Td)));clear H0 H1 H2 H3 H4 H5 H6 H7 H8 H9;refine za kr ?_;rcases hd with⟨rfl,h4,hit,hdp⟩ | ⟨rfl,rfl,rfl,hbad⟩
 case inr=>
  have he0:e≠0:=by omega
  refine rS [.v,.E (.bool ((e:Int)!=0)) (.bool true) (zc (bne_iff_ne.2 (by omega))),.v,.n,.n,.n,.n,.v] H10 kr fun gs5 w7 H11=>zJ ?_;have H12:St w.heap.size w w7 [((gs1 0).b,bkO hd0 none 0 0 none 0 0 none 0 0)]:=H11.sub (Qs _ (Qq _ (QE _)));refine rS [.v,.s 0,.v] H12 kr fun gs6 w8 H13=>rRr [.cell 2 29,.tmp 3] [0] (.tuple #[bkV hd0 none 0 0 none 0 0 none 0 0,.int .i64 4]) (zV w.heap.size w (ju (jP s))) H13 kr ?_;exact⟨[],kV (.inr ⟨rfl,rfl,rfl,fun k M rk ok om h9=>zsl hbad h9⟩),H13.sub (QE _)⟩
 have hn:=hsl.1;by_cases h0:n=0
 ·refine rS [.v,.v,.v,.v,.l 0,.v,itQ (n:Int) 0,.v] H10 kr fun gs5 w7 H11=>zJ ?_;have H12:St w.heap.size w w7 [((gs1 0).b,bkO hd0 none 0 0 none 0 0 none 0 0)]:=H11.sub (Qs _ (Qq _ (QE _)));refine rS [.v,.s 0,.v] H12 kr fun gs6 w8 H13=>?_;have hI:I=.nil:=(hsl.at H10 fun e he=>by simp[he]).zero h0;refine rRr [.cell 2 29,.tmp 3] [0] (.tuple #[bkV hd0 none 0 0 none 0 0 none 0 0,.int .i64 4]) (zV w.heap.size w (ju (jP s))) H13 kr ?_;exact⟨[],kV (za5 h4 hit hdp (.inr ⟨rfl,rfl,rfl,fun k M _ _ _ h9=>by rw[hI]at h9;cases h9⟩)),H13.sub (QE _)⟩
 refine rS [.v,.v,.v,.v,.l 0,.v,itD (n:Int) 0,.v] H10 kr fun gs5 w7 H11=>yh<|wW ?_;have HB:St w.heap.size w w7 ((b4,Qk #[.bool l,.string sz,.slice p n c] 58 (0,0))::((gs1 0).b,bkO hd0 none 0 0 none 0 0 none 0 0)::Td):=H11.as kr;have hS:=hsl.at HB fun e he=>by simp[he]
 have hb4:w7.heap[b4]? =some (.cells #[.bool l,.string sz,.slice p n c] 58 (0,0)):=HB.get 0 rfl;have hsz:=hit.sz;obtain⟨l0,s0,kk0,I',b,off,C,T,fz,p',n',c',rfl,rfl,_,hh,hsz0,hex,_,_,hR,hlen⟩:=hS.start.open (by omega) (show 0<n by omega);have hz: ∀x∈sI (Fo.cons l0 s0 kk0 I'),x.size<=4000:=fun x hx=>by have:=ze3 hx;omega
 have hl:(Fo.cons l0 s0 kk0 I').len<=4000:=by have:=Fo.len_le (Fo.cons l0 s0 kk0 I');omega
 have hs0:s0.size<=4000:=hz s0 (QX ..);obtain⟨f0,f1,f2⟩:=uR hsz0 hex;have J0:=St.start w7;refine xV [(0,.string s),(2,Qe (gs1 0).b),(4,Qe b4)] kr fun ρ1=>zd [0,1,2,3,4,5,6,7,8,9,10,11] kr kr<|rp [.v,.fs (off:=2) (v:=.slice (some ⟨b,off,none⟩) n c) hb4 (zo hb4) rfl,.o (ins:=[((.tmp 29),.slice (some ⟨b,off,none⟩) n c)]) (v:=.pointer (some ⟨b,off+0*3,none⟩)) (fun ρ o w ho hi2=>yV (kd:=.i64) (t:=47) (e:=58) (K:=3) (bytes:=48) kr (x:=(.tmp 29)) (y:=.const (.int .i64 0)) b off n c 0 rfl ho hi2.1 rfl (by omega) w),.v,.fs (off:=off+0*3+1) (v:=.string s0) hh (zo hh) f1] J0 kr fun gs7 w8 J1=>wX [5,6,7,8,9,10,11] ?_;have J2:St w7.heap.size w7 w8 []:=J1.as kr;refine qk J2 (some 33) 25 #[.string s0] (zqu s0 (by omega)) trivial kr kr ?_;intro v Tz w9 hrd J3;obtain⟨h1,p1,n1,c1,q1,m1,k1,T1,T2,e1,rfl,o1,ra,rb,rfl,rd1⟩:=hrd.one;refine rp [.v,.v,.v] J3 kr fun gs8 w10 J4=>wX [9,10,11] ?_;have J5:St w7.heap.size w7 w10 ((T1++T2)++ []):=J4.as kr;refine zA J5 (some 6) 26 (hdV hd0 none 0 0 none 0 0) kr kr kr ?_;intro b6 w11 J6;refine rp [.s 0,.v] J6 kr fun gs9 w12 J7=>wX []<|zb<|wW ?_;have J8:St w7.heap.size w7 w12 ((b6,hdO h1 p1 n1 c1 q1 m1 k1)::(T1++T2)):=by
  have h:=J7.as (l:=(b6,hdO h1 p1 n1 c1 q1 m1 k1)::((T1++T2)++ [])) kr
  rwa [QI]at h
 obtain⟨Tb,hTb⟩:∃Tb,T1++T2=Tb:=⟨_,rfl⟩
 rw[hTb]at J8;have hA: ∀e∈T1,e∈Tb:=fun e he=>hTb▸List.mem_append_left _ he;have hB: ∀e∈T2,e∈Tb:=fun e he=>hTb▸QZ _ he;clear J0 J1 J2 J3 J4 J5 J6 J7 H10 H11;refine zd [0,1,2,3] kr kr<|rp [.l 0,.v] J8 kr fun gs10 w13 J9=>wX [2,3] ?_;have J10:St w7.heap.size w7 w13 ((b6,hdO h1 p1 n1 c1 q1 m1 k1)::Tb):=J9.as kr;refine zA J10 (some 8) 29 (bkV hd0 none 0 0 none 0 0 none 0 0) kr kr kr ?_;intro b8 w14 J11;refine rp [.s 0] J11 kr fun gs11 w15 J12=>wX []<|zb<|wW ?_;have J13:St w7.heap.size w7 w15 ((b8,bkO h1 p1 n1 c1 q1 m1 k1 none 0 0)::(b6,hdO h1 p1 n1 c1 q1 m1 k1)::Tb):=J12.as kr;have J14:St w7.heap.size w7 w15 ((b8,bkO h1 p1 n1 c1 q1 m1 k1 none 0 0)::Tb):=J13.sub (Qq _ (Qt ..));obtain⟨pt,hpt⟩:∃pt,some (⟨b,if c=1 then off else off+1*3,none⟩:Addr)=pt:=⟨_,rfl⟩
 obtain⟨m,hm⟩:∃m,n-1=m:=⟨_,rfl⟩
 have hR1:FoR w7.heap.size w7 pt 0 I':=by
  rcases hR with h|⟨b9,o9,e9,h⟩
  ·exact .inl h
  ·injection e9 with e9
   injection e9 with e9 e10
   subst e9 e10;by_cases hc1:c=1
   ·left;cases I' with
    | nil=>rfl
    | cons _ _ _ r=>simp only[Fo.len]at hlen;omega
   ·exact .inr ⟨b,off+1*3,by rw[<-hpt,if_neg hc1],h⟩
 have hlm:I'.len=m:=by omega
 have hg0:GdR h1 s0 (.cons l0 s0 kk0 I') I' e1 [] I':=by
  rcases rd1 with⟨e0,hr1,hw1⟩|⟨e0,hh0,hno⟩
  ·exact .inl ⟨e0,hr1,hw1,rfl,rfl⟩
  ·exact .inr ⟨e0,fun k M rk ok om h9=>hno k (qJ.1 rk).hd ok (by rw[show sI (Fo.cons l0 s0 kk0 I')=s0::sI I' from rfl]at h9;injection h9 with h9;rw[h9];exact Prod.ext rfl (xR (qJ.1 rk).hd))⟩
 refine za kr<|rS [.v,.fs (off:=2) (v:=.slice (some ⟨b,off,none⟩) n c) hb4 (zo hb4) rfl,.o (ins:=[((.tmp 39),.slice (some ⟨b,off,none⟩) n c)]) (v:=.slice pt m (c-1)) (fun ρ o w ho hi2=>by rw[<-hpt,<-hm];exact zih (t:=47) (e:=58) (size:=3) (bytes:=48) kr (x:=(.tmp 39)) (z:=.const (.int .i64 1)) b off n c 1 ho hi2.1 rfl (by omega) hc w),.v,.v] J14 kr fun gs12 w16 J15=>?_;clear J8 J9 J10 J11 J12 J13 J14;refine yR 42 41 43 61 0 1 m (by simp only[Fo.len]at hl;omega) (fun i ρ ww=> ∃L r t e T3 f,GdR h1 s0 (.cons l0 s0 kk0 I') I' f L r/\(∀x∈L,qn x)/\FoR w7.heap.size w7 pt i r/\(∀x∈sI r,ByteArray.size x<=4000)/\i+r.len=m/\yl tnS 54 t i e T3 L/\St w7.heap.size w7 ww ((b8,bkO h1 p1 n1 c1 q1 m1 k1 t i e)::(Tb++T3))/\Is [(0,.string s),(2,Qe (gs1 0).b),(7,.int .i64 f),(8,Qe b8),(40,.slice pt m (c-1)),(41,iN m),(42,iN i)] ρ) (by rintro i _ ww ⟨_,_,_,_,_,_,_,_,_,_,_,_,_,_,rfl⟩;exact⟨kr,kr⟩) ⟨[],I',none,0,[],e1,hg0,(fun _ h=>nomatch h),hR1,(fun x hx=>hz x (QR _ hx)),by omega,.inl ⟨rfl,rfl,rfl,rfl,rfl⟩,by rw[QI];exact J15.as kr,isK⟩ ?_ ?_
 ·clear J15;rintro i _ w5 hi ⟨L,r,t,e,T3,f,hg,hsm,hFr,hzr,hlr,hrow,J1,_,rfl⟩;obtain⟨l2,s2,k2,r',bb,o2,C2,Ty2,fz2,p2,n2,c2,rfl,hp2,_,hh2,hsz2,hex2,_,_,hFr',hlr'⟩:=hFr.open hlr hi;have hs2:s2.size<=4000:=hzr s2 (QX ..);refine zd [0,1,2,3] kr kr<|rp [itX 40 42 47 58 3 48 bb o2 m (c-1) i hp2,.fp (off:=o2+i*3) (n:=3) (W:=#[.bool l2,.string s2,.slice p2 n2 c2]) hh2 (zo hh2) hsz2 hex2] J1 kr fun gs5 w6 J2=>wX [2,3] ?_;have J3:St w7.heap.size w7 w6 ((b8,bkO h1 p1 n1 c1 q1 m1 k1 t i e)::(Tb++T3)):=J2.as kr;refine zA J3 (some 10) 58 (.agg #[.bool false,.string ⟨#[]⟩,.slice none 0 0]) kr kr kr ?_;intro b10 w8 J4;refine rp [.s 0] J4 kr fun gs6 w9 J5=>wX []<|zb<|zd [0,1,2,3,4,5,6,7,8] kr kr<|rp [.v,.l 0] J5 kr fun gs7 w10 J6=>wX [2,3,4,5,6,7,8] ?_;have J7:St w7.heap.size w7 w10 ((b10,.cells #[.bool l2,.string s2,.slice p2 n2 c2] 58 (0,0))::(b8,bkO h1 p1 n1 c1 q1 m1 k1 t i e)::(Tb++T3)):=J6.as kr;refine qk J7 (some 49) 26 #[.string s2] (zsj s2 (by omega)) trivial kr kr ?_;intro v Tx w11 hrt J8;obtain⟨x,ex,rfl,hx⟩:=hrt.one;refine rp [.v,.v,.v] J8 kr fun gs8 w12 J9=>wX [6,7,8] ?_;have J10:St w7.heap.size w7 w12 (Tx++((b10,.cells #[.bool l2,.string s2,.slice p2 n2 c2] 58 (0,0))::(b8,bkO h1 p1 n1 c1 q1 m1 k1 t i e)::(Tb++T3))):=J9.as kr;have J11:St w7.heap.size w7 w12 ((b8,bkO h1 p1 n1 c1 q1 m1 k1 t i e)::(Tb++T3)):=J10.sub ((Qt ..).trans (QK ..));refine zA J11 (some 11) 54 (tnV tn0) kr kr kr ?_;intro b11 w13 J12;refine rp [.s 0,.v] J12 kr fun gs9 w14 J13=>wX []<|zb ?_;have J14:St w7.heap.size w7 w14 ((b11,tnO x)::(b8,bkO h1 p1 n1 c1 q1 m1 k1 t i e)::(Tb++T3)):=J13.as kr;clear J1 J2 J3 J4 J5 J6 J7 J8 J9 J10 J11 J12 J13;refine za kr<|qS (Q:=fun e9 ρ ww=>e9=.normal/\∃f2,GdR h1 s0 (.cons l0 s0 kk0 I') I' f2 (L++ [x]) r'/\qn x/\St w7.heap.size w7 ww ((b11,tnO x)::(b8,bkO h1 p1 n1 c1 q1 m1 k1 t i e)::(Tb++T3))/\Is [(0,.string s),(2,Qe (gs1 0).b),(7,.int .i64 f2),(8,Qe b8),(11,Qe b11),(40,.slice pt m (c-1)),(41,iN m),(42,iN i)] ρ) ?_ ?_
  ·rcases hx with⟨rfl,rx,ox,ex9⟩|⟨rfl,ox,hno⟩
   ·refine rS [.v,.v] J14 kr fun gs10 w15 J15=>yh ?_;refine⟨rfl,f,?_,ox,J15.as kr,isK⟩;rcases hg with⟨f0,hr1,hw1,hsI,hal⟩ | ⟨f4,hno⟩
    ·refine .inl ⟨f0,hr1,hw1,?_,?_⟩
     ·rw[hsI,List.map_append,List.append_assoc,List.map_singleton,ex9];rfl
     ·rw[List.all_append,hal,Bool.true_and];simpa using rx
    ·exact .inr ⟨f4,hno⟩
   ·refine rS [.v,.v] J14 kr fun gs10 w15 J15=>zJ<|rL [.v,.v] J15 kr fun gs11 w16 J16=>?_;refine⟨rfl,4,.inr ⟨rfl,?_⟩,ox,J16.as kr,isK⟩;rcases hg with⟨f0,hr1,hw1,hsI,hal⟩ | ⟨f4,hno2⟩
    ·exact fun k M rk ok om h9=>by
      rw[show sI (Fo.cons l0 s0 kk0 I')=s0::sI I' from rfl]at h9;injection h9 with _ h9
      rw[hsI]at h9;have h8:s2∈M.map zD:=by rw[<-h9];exact QZ _ (QX ..)
      obtain⟨y,hy,e9⟩:=List.mem_map.1 h8;exact hno y (List.all_eq_true.1 (qJ.1 rk).al y hy) (om y hy) e9
    ·exact hno2
  ·rintro _ _ w15 ⟨rfl,f2,hg2,ox,J15,_,rfl⟩;clear J14;refine wW<|yu [0,1,2,3,4,5,6] kr<|rp [.v,.l 1,.l 0] J15 kr fun gs11 w16 J16=>wX [3,4,5,6] ?_;have J17:St w7.heap.size w7 w16 ((b11,tnO x)::(b8,bkO h1 p1 n1 c1 q1 m1 k1 t i e)::(Tb++T3)):=J16.as kr;refine jT J17 (some 58) (fun b=>Qf b 1 1) (tnS.cs x).toArray 54 kr kr ?_;intro bn w17 J18;refine xL (S:=tnS) (some 59) 27 54 104 (.tmp 56) (.tmp 58) (J18.perm (List.Perm.cons _ (kg [(b11,tnO x),(b8,bkO h1 p1 n1 c1 q1 m1 k1 t i e)] Tb T3))) hrow kr kr kr kr kr (by simp only[Fo.len]at hl hlr;omega) (by unfold maxLen;simp only[Fo.len]at hl hlr;omega) ?_;intro b' cap' cur' w18 J19 hr';refine rp [.v,.s 2] J19 kr fun gs12 w19 J20=>wX []<|zb ?_;have J21:St w7.heap.size w7 w19 ((b',.cells cur' 54)::(b11,tnO x)::(b8,bkO h1 p1 n1 c1 q1 m1 k1 (Qg b') (i+1) cap')::Tb):=J20.as kr;refine⟨kr,L++ [x],r',Qg b',cap',[(b',.cells cur' 54)],f2,hg2,?_,hFr',(fun y hy=>hzr y (QR _ hy)),hlr',.inr ⟨b',cur',rfl,rfl,hr'⟩,(J21.sub (Qq _ (Qt ..))).perm (kg [(b8,bkO h1 p1 n1 c1 q1 m1 k1 (Qg b') (i+1) cap')] Tb [(b',.cells cur' 54)]).symm,isK⟩;intro y hy;rcases List.mem_append.1 hy with hy|hy
   ·exact hsm y hy
   ·obtain rfl:=List.mem_singleton.1 hy;exact ox
 ·clear J15;rintro _ w5 ⟨L,r,t,e,T3,f,hg,hsm,hFr,_,hlr,hrow,J1,_,rfl⟩;obtain rfl:r=.nil:=FoR.done hlr (by omega);have hLl:=hrow.len;refine wW<|za kr ?_;rcases hg with⟨rfl,hr1,hw1,hsI,hal⟩ | ⟨rfl,hno⟩
  case inr=>
   refine rS [.v,.v,.v,.n,.n,.n,.v,.v,.n,.n,.n,.n,.v] J1 kr fun gs5 w6 J2=>zJ<|rS [.v,.s 0,.v] ((HB.addAll J2).sub ((Qs _ (Qq _ (QE _))).trans (QK _ _)):St w.heap.size w _ [((gs1 0).b,bkO hd0 none 0 0 none 0 0 none 0 0)]) kr fun gs6 w8 H13=>rRr [.cell 2 29,.tmp 3] [0] (.tuple #[bkV hd0 none 0 0 none 0 0 none 0 0,.int .i64 4]) (zV w.heap.size w (ju (jP s))) H13 kr ?_;exact⟨[],kV (za5 h4 hit hdp (.inr ⟨rfl,rfl,rfl,hno⟩)),H13.sub (QE _)⟩
  rw[show sI Fo.nil=[] from rfl,QI]at hsI;have hLn:L.length<=1000000:=by simp only[Fo.len]at hl;omega
  have hRt:=zjK h1 L o1.sm hLn hsm p1 n1 c1 q1 m1 k1 t m e;have hat: ∀ {ww:World},St w7.heap.size w7 ww ((b8,bkO h1 p1 n1 c1 q1 m1 k1 t m e)::(Tb++T3))->qH ww h1 L p1 n1 q1 m1 t m:=fun Hq=>⟨⟨ra.atF Hq fun e he=>by simp[hA e he],rb.atF Hq fun e he=>by simp[hB e he]⟩,hrow.atF Hq fun e he=>by simp[he]⟩
  refine zd [0,1,2,3,4,5,6,7,8,9,10,11,12] kr kr<|rp [.v,.v,.v,.l 0] J1 kr fun gs5 w6 J2=>wX [4,5,6,7,8,9,10,11,12] ?_;have J3:St w7.heap.size w7 w6 ((b8,bkO h1 p1 n1 c1 q1 m1 k1 t m e)::(Tb++T3)):=J2.as kr;refine yP J3 (some 66) 11 #[bkV h1 p1 n1 c1 q1 m1 k1 t m e] _ _ hRt (hat J3) ?_;intro w8 J4;cases hrb:yA h1 L with
  | false=>
   refine rp [.v,.v,.v,.n,.n,.n,.n,.v] J4 kr fun gs6 w9 J5=>wX []<|zb<|wW<|zJ<|rS [.v,.s 0,.v] ((HB.addAll J5).sub ((Qs _ (Qq _ (QE _))).trans (QK _ _)):St w.heap.size w _ [((gs1 0).b,bkO hd0 none 0 0 none 0 0 none 0 0)]) kr fun gs7 w10 H13=>rRr [.cell 2 29,.tmp 3] [0] (.tuple #[bkV hd0 none 0 0 none 0 0 none 0 0,.int .i64 4]) (zV w.heap.size w (ju (jP s))) H13 kr ?_
   exact⟨[],kV (za5 h4 hit hdp (.inr ⟨rfl,rfl,rfl,fun k M rk ok om h9=>by
    have q:=qJ.1 rk;rw[show sI (Fo.cons l0 s0 kk0 I')=s0::sI I' from rfl,hsI]at h9;injection h9 with h9 h8
    have e1:h1=k:=zeV o1 ok hr1 q.hd hw1 (by rw[h9];exact Prod.ext rfl (xR q.hd));have e2:L=M:=zcU (fun x hx=>(hsm x hx).1) om hal q.al h8;rw[e1,e2,rk]at hrb
    cases hrb⟩)),H13.sub (QE _)⟩
  | true=>
   have hgood:vD (.cons l0 s0 kk0 I') h1 L 0:=.inl ⟨rfl,hrb,by
    show s0::sI I'=_
    rw[hsI,show zY h1=s0 from congrArg Prod.fst hw1]⟩
   have hrd:jP s h1 L 0:=za5 h4 hit hdp hgood;have hby:(jf h1 L).1=s:=by
    rcases hrd with⟨_,_,hw⟩|⟨h,_⟩
    ·rw[hw]
    ·cases h
   refine rp [.v,.v,.v,.l 0] J4 kr fun gs6 w9 J5=>wX [9,10,11,12] ?_;have J6:St w7.heap.size w7 w9 ((b8,bkO h1 p1 n1 c1 q1 m1 k1 t m e)::(Tb++T3)):=J5.as kr;refine yP J6 (some 71) 15 #[bkV h1 p1 n1 c1 q1 m1 k1 t m e] _ _ (zjL h1 L o1 hsm hrb p1 n1 c1 q1 m1 k1 t m e) (hat J6) ?_;intro w10 J7;refine rp [.v,itE (jf h1 L).1 s hby,.v] J7 kr fun gs7 w11 J8=>wX []<|zb<|wW<|yh<|wW ?_;have G1:St w.heap.size w w11 (((b8,bkO h1 p1 n1 c1 q1 m1 k1 t m e)::(Tb++T3))++((b4,Qk #[.bool l,.string sz,.slice (some ⟨b,off,none⟩) n c] 58 (0,0))::((gs1 0).b,bkO hd0 none 0 0 none 0 0 none 0 0)::Td)):=HB.addAll (J8.as kr);have G2:St w.heap.size w w11 ((b8,bkO h1 p1 n1 c1 q1 m1 k1 t m e)::((Tb++T3)++ [((gs1 0).b,bkO hd0 none 0 0 none 0 0 none 0 0)])):=G1.sub (Qq _ (Vh (Rn _) (Qs _ (Qq _ (QE _)))));have G3:St w.heap.size w w11 ((b8,bkO h1 p1 n1 c1 q1 m1 k1 t m e)::((gs1 0).b,bkO hd0 none 0 0 none 0 0 none 0 0)::(Tb++T3)):=G2.perm (List.Perm.cons _ (QV (l₁:=[((gs1 0).b,bkO hd0 none 0 0 none 0 0 none 0 0)]) (l₂:=Tb++T3)));refine rS [.l 0,.s 1,.v] G3 kr fun gs8 w12 H11=>rRr [.cell 2 29,.tmp 3] [1] (.tuple #[bkV h1 p1 n1 c1 q1 m1 k1 t m e,.int .i64 0]) (zV w.heap.size w (ju (jP s))) H11 kr ?_;have H12:St w.heap.size w w12 ((b8,bkO h1 p1 n1 c1 q1 m1 k1 t m e)::((gs1 0).b,bkO h1 p1 n1 c1 q1 m1 k1 t m e)::(Tb++T3)):=H11.as kr;exact⟨Tb++T3,⟨h1,L,p1,n1,c1,q1,m1,k1,t,m,e,T1,T2,T3,0,rfl,o1,hsm,ra,rb,hrow,by rw[hTb],hrd⟩,H12.sub (Qs _ (Qt ..))⟩
section
open D2 (Gh)
def zjM (h:Hdr)(l:List Txn)(q:Qc)(k:Nat)(v:Value)(T:Qb):Prop:=∃(b n c:Nat) (cur:Qd) (bt nt ct:Nat) (curt:Qd),v=bkV (xS h) (Qg b) n c q (h.ss.take 20).length k (Qg bt) nt ct/\T=[(bt,.cells curt 54),(b,.cells cur 9)]/\Rw 1 cur c n (cellsF sS (xS h).vs)/\Rw 12 curt ct nt (cellsF tnS (xg l))
theorem ui (s:Qa):Fn Tryz.prog 16 #[.string s] (.string (yM s)):=by
 refine zv [.tmp 2] 8 Tryz.func16 fun w=>rS [.v] (St.start w) kr fun gs1 w1 H1=>rS [.v,.v,.v,.E (.int .i64 (if (50:Int)<(s.size:Int) then (50:Int) else (s.size:Int))) (iN (min s.size 50)) (zf (by split<;>omega)),.o (ins:=[((.tmp 3),.string s),((.tmp 6),iN (min s.size 50))]) (v:=.string (yM s)) (fun ρ o w ho hi=>xW (t:=9) (kd:=.i64) kr (x:=(.tmp 3)) (y:=(.tmp 6)) s (min s.size 50) ho hi.1 hi.2.1 (Vu _ _) w),.v] H1 kr fun gs2 w2 H2=>?_;exact rR [.tmp 2] [] (.string (yM s)) H2 kr
theorem zsn (h:Hdr)(l:List Txn)(p:Qc)(n c:Nat)(q:Qc)(m k:Nat)(t:Qc)(z d:Nat)(hp:qL p n c)(hq:qL q m k)(ht:qL t z d):FnT Tryz.prog 4 #[bkV h p n c q m k t z d] (fun w=>qH w h l p n q m t z) (zjM h l q k):=by
 refine qz [.cell 2 29] 78 Tryz.func4 fun w hP=>?_;obtain⟨hP,hPT⟩:=hP;have hn:=hP.1.1;have hm:=hP.2.1;have hT:=hP.1.take (min n 20) (Vu _ _);rw[zeC hn]at hT;have hnv:min n 20=(h.vs.take 20).length:=hT.1;have hms:(h.ss.take 20).length=min m 20:=by rw[Rb,<-hm];omega
 obtain⟨nv,env⟩:∃nv,min n 20=nv:=⟨_,rfl⟩
 rw[env]at hT hnv;obtain⟨ms,ems⟩:∃ms,(h.ss.take 20).length=ms:=⟨_,rfl⟩
 rw[ems]at hms;have H0:=St.start w;refine rS [.b,.a] H0 kr fun gs1 w1 H1=>rS [.v,.l 0,.a,.s 2] H1 kr fun gs2 w2 H2=>rS [.v] H2 kr fun gs3 w2' H2'=>dS [.v,.v,.l 2,.c (ui h.pa),.v,.v,.l 2,.c (ui h.ro),.v,.v,.l 2,.c (ui h.tx),.v,.v,.l 2,.c (ui h.pr),.v,.v,.l 2,.c (ui h.va),.v,.v,.l 2,.c (ui h.vo),.v,.s 2,.v,.s 2,.v,.s 2,.v,.s 2,.v,.s 2,.v,.s 2] H2' kr fun w3 H3=>?_;obtain⟨hc,ehc⟩:∃hc,zpE h=hc:=⟨_,rfl⟩
 have H4:St w.heap.size w w3 [((gs2 2).b,Qk (hdC hc p n c q m k) 26),((gs1 0).b,bkO h p n c q m k t z d),((gs1 1).b,bkO hd0 none 0 0 none 0 0 none 0 0)]:=(H3.as (l:=[((gs1 0).b,bkO h p n c q m k t z d),((gs1 1).b,bkO hd0 none 0 0 none 0 0 none 0 0),((gs2 2).b,Qk (hdC hc p n c q m k) 26)]) (by rw[<-ehc];kernel_rfl)).perm (QV (l₁:=[((gs2 2).b,Qk (hdC hc p n c q m k) 26)]) (l₂:=[((gs1 0).b,bkO h p n c q m k t z d),((gs1 1).b,bkO hd0 none 0 0 none 0 0 none 0 0)]));refine xV [(1,Qe (gs1 0).b),(2,Qe (gs1 1).b),(3,Qe (gs2 2).b),(4,.func (.func 16) #[] #[])] kr fun ρ1=>?_;clear H0 H1 H2 H2' H3;refine za kr<|D2.g_draw0 [0,1,2,3,4,5,6,7,8,9,10,11,12,13,14,15,16,17,18,19] [(some 39,fun y=>Qf y.b 0 0),(some 40,fun _=>.pointer (some ⟨(gs2 2).b,6,none⟩)),(some 41,fun _=>.slice p n c),(some 42,fun _=>.pointer (some ⟨(gs2 2).b,6,none⟩)),(some 43,fun _=>.slice p n c),(some 44,fun _=>iN n),(some 45,fun _=>iN nv),(some 46,fun _=>.slice p nv c),(some 47,fun y=>Qf y.b nv y.cap),(some 48,fun _=>.pointer (some ⟨(gs2 2).b,10,none⟩)),(some 49,fun _=>.slice q m k),(some 50,fun _=>.pointer (some ⟨(gs2 2).b,10,none⟩)),(some 51,fun _=>.slice q m k),(some 52,fun _=>iN m),(some 53,fun _=>iN ms),(some 54,fun _=>.slice q ms k),(some 55,fun _=>.pointer (some ⟨(gs2 2).b,6,none⟩)),(none,fun _=>undef),(some 56,fun _=>.pointer (some ⟨(gs2 2).b,10,none⟩)),(none,fun _=>undef)]
  (D2.chn [0,8,17,19] (fun j g ww=>match j with
   | 0=>St w.heap.size w ww [((gs2 2).b,Qk (hdC hc p n c q m k) 26),((gs1 0).b,bkO h p n c q m k t z d),((gs1 1).b,bkO hd0 none 0 0 none 0 0 none 0 0)]
   | 1=>St w.heap.size w ww [((g 0).b,.cells #[] 9 (0,0)),((gs2 2).b,Qk (hdC hc p n c q m k) 26),((gs1 0).b,bkO h p n c q m k t z d),((gs1 1).b,bkO hd0 none 0 0 none 0 0 none 0 0)]
   | 2=>Rw 1 (g 8).cur (g 8).cap nv (cellsF sS (h.vs.take 20))/\St w.heap.size w ww [((g 8).b,.cells (g 8).cur 9),((gs2 2).b,Qk (hdC hc p n c q m k) 26),((gs1 0).b,bkO h p n c q m k t z d),((gs1 1).b,bkO hd0 none 0 0 none 0 0 none 0 0)]
   | 3=>Rw 1 (g 8).cur (g 8).cap nv (cellsF sS (h.vs.take 20))/\St w.heap.size w ww [((g 8).b,.cells (g 8).cur 9),((gs2 2).b,Qk (hdC hc (some ⟨(g 8).b,0,none⟩) nv (g 8).cap q m k) 26),((gs1 0).b,bkO h p n c q m k t z d),((gs1 1).b,bkO hd0 none 0 0 none 0 0 none 0 0)]
   | _=>Rw 1 (g 8).cur (g 8).cap nv (cellsF sS (h.vs.take 20))/\St w.heap.size w ww [((g 8).b,.cells (g 8).cur 9),((gs2 2).b,Qk (hdC hc (some ⟨(g 8).b,0,none⟩) nv (g 8).cap q ms k) 26),((gs1 0).b,bkO h p n c q m k t z d),((gs1 1).b,bkO hd0 none 0 0 none 0 0 none 0 0)])) kr kr kr H4.drew ⟨?_,?_,?_,?_,?_,?_,?_,?_,?_,?_,?_,?_,?_,?_,?_,?_,?_,?_,?_,?_,trivial⟩ ?_
 ·refine D2.gv_chn 0 0 (fun L hN=>by
   have e0:=hN.1;have e8:=hN.post 8 kr;have e17:=hN.fwd e8 (show D2.edge _ 8 17=true by kernel_rfl);have e19:=hN.fwd e17 (show D2.edge _ 17 19=true by kernel_rfl)
   exact⟨by (simp[D2.stg,e0,e8,e17,e19])<;>rfl,by (simp[D2.stg,D2.put1,e0,e8,e17,e19])<;>rfl⟩) fun g ww hq=>?_
  exact D2.run_new (F:=fun b=>Qf b 0 0) (ob:=.cells #[] 9 (0,0)) kr ⟨{ b:=ww.heap.size },rfl,St.alloc hq _⟩
 ·exact D2.gv_vala
 ·exact D2.gv_ld (fun _ _ _ h=>h) 23 (.tmp 40) (fun _=>(gs2 2).b) 6 (hdC hc p n c q m k) 26 (0,0) (fun g=>by kernel_rfl) (fun g=>by kernel_rfl) (fun L1 g ww hN hp=>D2.chn.getN hp 2 17 rfl (hN.post 17 kr) fun j hj h=>by
   match j,h with
   | 0,h=>exact St.get h 0 kr
   | 1,h=>exact St.get h 1 kr
   | 2,h=>exact St.get h.2 1 kr) kr kr
 ·exact D2.gv_vala
 ·exact D2.gv_ld (fun _ _ _ h=>h) 23 (.tmp 42) (fun _=>(gs2 2).b) 6 (hdC hc p n c q m k) 26 (0,0) (fun g=>by kernel_rfl) (fun g=>by kernel_rfl) (fun L1 g ww hN hp=>D2.chn.getN hp 2 17 rfl (hN.post 17 kr) fun j hj h=>by
   match j,h with
   | 0,h=>exact St.get h 0 kr
   | 1,h=>exact St.get h 1 kr
   | 2,h=>exact St.get h.2 1 kr) kr kr
 ·exact D2.gv_vala
 ·exact D2.gv_valE (V':=.int .i64 (if (20:Int)<(n:Int) then (20:Int) else (n:Int))) (fun _ _ _ h=>h) (fun g w=>by kernel_rfl) (zf (by rw[<-env];split<;>omega))
 ·exact D2.gv_op (fun _ _ _ h=>h) (.slice 23 (.tmp 41) none (some (.tmp 45)) none) (fun g=>by kernel_rfl) (fun g o w ho=>zdl (t:=23) (e:=9) (size:=1) (bytes:=16) (kd:=.i64) kr (x:=(.tmp 41)) (y:=(.tmp 45)) hp (by omega) ho kr kr w)
 ·refine D2.gv_chn 8 1 (fun L hN=>by
   have e8:=hN.1;have e0:=hN.bef 0 kr;have e17:=hN.post 17 kr;have e19:=hN.fwd e17 (show D2.edge _ 17 19=true by kernel_rfl)
   exact⟨by (simp[D2.stg,e0,e8,e17,e19])<;>rfl,by (simp[D2.stg,D2.put1,e0,e8,e17,e19])<;>rfl⟩) fun g ww hq=>?_
  refine D2.run_of (op:=ym 23 (.tmp 39) (.tmp 46)) kr fun o ho=>?_;obtain⟨b',cap',cur',w',hrun,HS',hr'⟩:=ziI (S:=sS) (j:=0) (cur:=#[]) (cap:=0) (b:=(g 0).b) hq (t:=23) (bytes:=16) (n:=0) (xs:=[]) kr ho kr kr ⟨rfl,Nat.le_refl _,QU _,rfl,rfl⟩ kr (hT.call (St.below hq)) (hp.cut (by omega)) (by omega) (by unfold maxLen;omega);rw[Nat.zero_add]at hrun hr';rw[List.nil_append]at hr';exact⟨_,w',hrun,{ b:=b',cap:=cap',cur:=cur' },rfl,hr',HS'⟩
 ·exact D2.gv_vala
 ·exact D2.gv_ld (fun _ _ _ h=>h) 24 (.tmp 48) (fun _=>(gs2 2).b) 10 (hdC hc p n c q m k) 26 (0,0) (fun g=>by kernel_rfl) (fun g=>by kernel_rfl) (fun L1 g ww hN hp=>D2.chn.getN hp 2 17 rfl (hN.post 17 kr) fun j hj h=>by
   match j,h with
   | 0,h=>exact St.get h 0 kr
   | 1,h=>exact St.get h 1 kr
   | 2,h=>exact St.get h.2 1 kr) kr kr
 ·exact D2.gv_vala
 ·exact D2.gv_ld (fun _ _ _ h=>h) 24 (.tmp 50) (fun _=>(gs2 2).b) 10 (hdC hc p n c q m k) 26 (0,0) (fun g=>by kernel_rfl) (fun g=>by kernel_rfl) (fun L1 g ww hN hp=>D2.chn.getN hp 2 17 rfl (hN.post 17 kr) fun j hj h=>by
   match j,h with
   | 0,h=>exact St.get h 0 kr
   | 1,h=>exact St.get h 1 kr
   | 2,h=>exact St.get h.2 1 kr) kr kr
 ·exact D2.gv_vala
 ·exact D2.gv_valE (V':=.int .i64 (if (20:Int)<(m:Int) then (20:Int) else (m:Int))) (fun _ _ _ h=>h) (fun g w=>by kernel_rfl) (zf (by rw[hms];split<;>omega))
 ·exact D2.gv_op (fun _ _ _ h=>h) (.slice 24 (.tmp 49) none (some (.tmp 53)) none) (fun g=>by kernel_rfl) (fun g o w ho=>zdl (t:=24) (e:=52) (size:=9) (bytes:=72) (kd:=.i64) kr (x:=(.tmp 49)) (y:=(.tmp 53)) hq (by omega) ho kr kr w)
 ·exact D2.gv_vala
 ·refine D2.gv_chn 17 2 (fun L hN=>by
   have e17:=hN.1;have e8:=hN.bef 8 kr;have e0:=hN.back e8 (show D2.edge _ 0 8=true by kernel_rfl);have e19:=hN.post 19 kr
   exact⟨by (simp[D2.stg,e0,e8,e17,e19])<;>rfl,by (simp[D2.stg,D2.put1,e0,e8,e17,e19])<;>rfl⟩) fun g ww hq=>?_
  exact D2.run_sto (t:=23) (x:=.tmp 55) (y:=.tmp 47) (b:=(gs2 2).b) (off:=6) (C:=hdC hc p n c q m k) (C':=hdC hc (Qg (g 8).b) nv (g 8).cap q m k) (T:=26) (v:=Qf (g 8).b nv (g 8).cap) kr kr kr kr kr (St.get hq.2 1 kr) (Qp kr) kr ⟨g 17,rfl,hq.1,St.store (C:=hdC hc p n c q m k) (T:=26) hq.2 1 kr⟩
 ·exact D2.gv_vala
 ·refine D2.gv_chn 19 3 (fun L hN=>by
   have e19:=hN.1;have e17:=hN.bef 17 kr;have e8:=hN.back e17 (show D2.edge _ 8 17=true by kernel_rfl);have e0:=hN.back e8 (show D2.edge _ 0 8=true by kernel_rfl)
   exact⟨by (simp[D2.stg,e0,e8,e17,e19])<;>rfl,by (simp[D2.stg,D2.put1,e0,e8,e17,e19])<;>rfl⟩) fun g ww hq=>?_
  exact D2.run_sto (t:=24) (x:=.tmp 56) (y:=.tmp 54) (b:=(gs2 2).b) (off:=10) (C:=hdC hc (Qg (g 8).b) nv (g 8).cap q m k) (C':=hdC hc (Qg (g 8).b) nv (g 8).cap q ms k) (T:=26) (v:=.slice q ms k) kr kr kr kr kr (St.get hq.2 1 kr) (Qp kr) kr ⟨g 19,rfl,hq.1,St.store (C:=hdC hc (Qg (g 8).b) nv (g 8).cap q m k) (T:=26) hq.2 1 kr⟩
 intro L1 g w5 hall hp9;obtain⟨hrw,H5⟩:=hp9.fin (fun k hk=>hall k (by simp at hk;rcases hk with rfl | rfl | rfl | rfl<;>exact Qp kr));refine wW ?_;generalize (g 8).b=b at*;generalize (g 8).cap=cv at*;generalize (g 8).cur=cur at*;have H6:St w.heap.size w w5 [(b,.cells cur 9),((gs2 2).b,Qk (hdC hc (Qg b) nv cv q ms k) 26),((gs1 0).b,bkO h p n c q m k t z d),((gs1 1).b,bkO hd0 none 0 0 none 0 0 none 0 0)]:=H5;refine za kr<|rS [.v,.l 1,.v,.v] H6 kr fun gs4 w6 H7=>?_;generalize hMV:h.vs.take 20=M at*;refine yR 60 59 61 72 0 1 nv (by omega) (fun i ρ ww=> ∃cur,Rw 1 cur cv nv (cellsF sS ((M.take i).map yM++M.drop i))/\St w.heap.size w ww [(b,.cells cur 9),((gs2 2).b,Qk (hdC hc (Qg b) nv cv q ms k) 26),((gs1 0).b,bkO h p n c q m k t z d),((gs1 1).b,bkO hd0 none 0 0 none 0 0 none 0 0)]/\Is [(1,Qe (gs1 0).b),(2,Qe (gs1 1).b),(3,Qe (gs2 2).b),(4,.func (.func 16) #[] #[]),(58,Qf b nv cv),(59,iN nv),(60,iN i)] ρ) (by rintro i _ ww ⟨_,_,_,_,rfl⟩;exact⟨kr,kr⟩) ⟨cur,hrw,H7.as kr,isK⟩ ?_ ?_
 ·clear H4 H5 H6 H7 hrw;rintro i _ w7 hi ⟨cur,hrw,H8,_,rfl⟩;obtain⟨x,hx⟩:∃x,M[i]? =some x:=⟨_,List.getElem?_eq_getElem (by omega)⟩
  obtain⟨hx2,hset⟩:=ziJ (g:=yM) hx;have hput:=Rw.setF (S:=sS) (y:=yM x) hrw hx2 0 (.string (yM x)) (show 0+1<=1 by decide) rfl;rw[hset]at hput;have hcell:cur[0+i*1]? =some (.string x):=(hrw.rowAt (S:=sS)).cell hx2 0 (by decide);refine rS [.v,itX 58 60 23 9 1 16 b 0 nv cv i rfl,.ls 0 (C:=cur) (off:=0+i*1) (v:=.string x) hcell,.v,.v] H8 kr fun gs5 w8 H9=>dL [.v,.l 1,.v,.v,.v,.c (ui x),itX 66 67 23 9 1 16 b 0 nv cv i rfl,.se 0 (C:=cur) (C':=putA cur (0+i*1+0) (.string (yM x))) (off:=0+i*1) (v:=.string (yM x)) hput.1 rfl] H9 kr fun w9 H10=>?_;exact⟨kr,_,hput.2,H10.as kr,isK⟩
 ·clear H4 H5 H6 H7 hrw;rintro _ w7 ⟨cur,hrw,H8,_,rfl⟩;rw[List.take_of_length_le (by omega),List.drop_of_length_le (by omega),QI]at hrw;refine wW<|za kr<|D2.g_draw0 [0,1,2,3,4,5] [(some 73,fun _=>hdV hc (Qg b) nv cv q ms k),(some 74,fun _=>.pointer (some ⟨(gs1 0).b,11,none⟩)),(some 75,fun _=>.slice t z d),(some 76,fun y=>Qf (y).b (y).n (y).cap),(some 77,fun y=>bkV hc (Qg b) nv cv q ms k (Qg (y).b) (y).n (y).cap),(none,fun _=>undef)]
   (D2.chn [3,4,5] (fun j g ww=>match j with
   | 0=>St w.heap.size w ww [(b,.cells cur 9),((gs2 2).b,.cells (hdC hc (some ⟨b,0,none⟩) nv cv q ms k) 26),((gs1 0).b,bkO h p n c q m k t z d),((gs1 1).b,bkO hd0 none 0 0 none 0 0 none 0 0)]
   | 1=>Rw 12 (g 3).cur (g 3).cap (g 3).n (cellsF tnS (xg l))/\St w.heap.size w ww [((g 3).b,.cells (g 3).cur 54),(b,.cells cur 9),((gs2 2).b,.cells (hdC hc (some ⟨b,0,none⟩) nv cv q ms k) 26),((gs1 0).b,bkO h p n c q m k t z d),((gs1 1).b,bkO hd0 none 0 0 none 0 0 none 0 0)]
   | 2=>Rw 12 (g 4).cur (g 4).cap (g 4).n (cellsF tnS (xg l))/\St w.heap.size w ww [((g 4).b,.cells (g 4).cur 54),(b,.cells cur 9),((gs2 2).b,.cells (hdC hc (some ⟨b,0,none⟩) nv cv q ms k) 26),((gs1 0).b,bkO h p n c q m k t z d),((gs1 1).b,bkO hd0 none 0 0 none 0 0 none 0 0)]
   | _=>Rw 12 (g 4).cur (g 4).cap (g 4).n (cellsF tnS (xg l))/\St w.heap.size w ww [((g 4).b,.cells (g 4).cur 54),(b,.cells cur 9),((gs2 2).b,.cells (hdC hc (some ⟨b,0,none⟩) nv cv q ms k) 26),((gs1 0).b,bkO h p n c q m k t z d),((gs1 1).b,.cells (bkC hc (some ⟨b,0,none⟩) nv cv q ms k (some ⟨(g 4).b,0,none⟩) (g 4).n (g 4).cap) 29)])) kr kr kr H8.drew ⟨?_,?_,?_,?_,?_,?_,trivial⟩ ?_
  ·exact D2.gv_ld (fun _ _ _ h=>h) 26 (.tmp 3) (fun _=>(gs2 2).b) 0 (hdC hc (Qg b) nv cv q ms k) 26 (0,0) (fun g=>by kernel_rfl) (fun g=>by kernel_rfl) (fun L1 g ww hN hp=>D2.chn.getN hp 1 4 rfl (hN.post 4 kr) fun j hj h=>by
   match j,h with
   | 0,h=>exact St.get h 1 kr
   | 1,h=>exact St.get h.2 2 kr) kr kr
  ·exact D2.gv_vala
  ·exact D2.gv_ld (fun _ _ _ h=>h) 27 (.tmp 74) (fun _=>(gs1 0).b) 11 (bkC h p n c q m k t z d) 29 (0,0) (fun g=>by kernel_rfl) (fun g=>by kernel_rfl) (fun L1 g ww hN hp=>D2.chn.getN hp 0 3 rfl (hN.post 3 kr) fun j hj h=>by
   match j,h with
   | 0,h=>exact St.get h 2 kr) kr kr
  ·refine D2.gv_chn 3 0 (fun L hN=>by
   have e3:=hN.1;have e4:=hN.post 4 kr;have e5:=hN.fwd e4 (show D2.edge _ 4 5=true by kernel_rfl)
   exact⟨by (simp[D2.stg,e3,e4,e5])<;>rfl,by (simp[D2.stg,D2.put1,e3,e4,e5])<;>rfl⟩) fun g ww hq1=>?_
   refine D2.run_ft (zr0 t z d l ht) (hPT.call (St.below hq1)) kr ?_;rintro _ _ w' ⟨b3,m',k',cur3,rfl,rfl,hrw3⟩ hT3;exact⟨{ b:=b3,n:=m',cap:=k',cur:=cur3 },rfl,hrw3,(St.addAll hq1 hT3).as kr⟩
  ·refine D2.gv_chn 4 1 (fun L hN=>by
   have e4:=hN.1;have e3:=hN.bef 3 kr;have e5:=hN.post 5 kr
   exact⟨by (simp[D2.stg,e3,e4,e5])<;>rfl,by (simp[D2.stg,D2.put1,e3,e4,e5])<;>rfl⟩) fun g ww hq1=>?_
   exact D2.run_val (v:=(fun (y:Gh)=>bkV hc (Qg b) nv cv q ms k (Qg (y).b) (y).n (y).cap) (g 3)) kr ⟨g 3,rfl,hq1⟩
  ·refine D2.gv_chn 5 2 (fun L hN=>by
   have e5:=hN.1;have e4:=hN.bef 4 kr;have e3:=hN.back e4 (show D2.edge _ 3 4=true by kernel_rfl)
   exact⟨by (simp[D2.stg,e3,e4,e5])<;>rfl,by (simp[D2.stg,D2.put1,e3,e4,e5])<;>rfl⟩) fun g ww hq1=>?_
   exact D2.run_sto (t:=29) (x:=.tmp 2) (y:=.tmp 77) (b:=(gs1 1).b) (off:=0) (C:=bkC hd0 none 0 0 none 0 0 none 0 0) (C':=bkC hc (Qg b) nv cv q ms k (Qg (g 4).b) (g 4).n (g 4).cap) (T:=29) (v:=bkV hc (Qg b) nv cv q ms k (Qg (g 4).b) (g 4).n (g 4).cap) kr kr kr kr kr (St.get hq1.2 4 kr) (Qp kr) kr ⟨g 5,rfl,hq1.1,St.store (C:=bkC hd0 none 0 0 none 0 0 none 0 0) (T:=29) hq1.2 4 kr⟩
  intro L1 g w8 hall hp9;obtain⟨hrw3,H9⟩:=hp9.fin (fun k hk=>hall k (by simp at hk;rcases hk with rfl | rfl | rfl<;>exact Qp kr));refine wW<|rRr [.cell 2 29] [4] (bkV hc (Qg b) nv cv q ms k (Qg (g 4).b) (g 4).n (g 4).cap) (zV w.heap.size w (zjM h l q k)) H9 kr ?_;refine⟨_,⟨b,nv,cv,cur,(g 4).b,(g 4).n,(g 4).cap,(g 4).cur,by rw[ems,<-ehc];rfl,rfl,?_,hrw3⟩,H9.sub (Qq _ (Qq _ (QE _)))⟩;show Rw 1 cur cv nv (cellsF sS ((h.vs.take 20).map yM));rw[hMV];exact hrw
theorem zso:(sumTs []).extract 0 4=⟨#[197,210,70,1]⟩:=by decide+kernel
theorem zjN:FnP Tryz.prog 12 #[] Ke.Marks (.bool true):=by
 have hs:=ze0 none 0 0 [] (QU _) (fun _ h=>nomatch h);have hz:(sumTs []).size=32:=zcT _;refine zR [.tmp 0] 19 Tryz.func12 fun w hM=>rS [.v] (St.start w) kr fun gs1 w1 H1=>rS [.cp (show FnP Tryz.prog 6 #[.slice none 0 0] (fun w=>AtF tnS w none 0 []/\Ke.Marks w) (.tuple #[.string (sumTs []),.int .i64 0]) from hs) [] (fun w hb hd=>⟨⟨rfl,.inl rfl⟩,qm hM hb⟩),.v,.v,.v,.v,.v] H1 kr fun gs2 w2 H2=>rS [.v,.v,.v,.v,.v,.E (.bool ((((sumTs []).size:Nat):Int)==32)) (.bool true) (zc (by rw[hz];rfl)),.v,.v,.v,.o (ins:=[((.tmp 15),.string (sumTs []))]) (v:=.string ((sumTs []).extract 0 4)) (fun ρ o w ho hi=>xW (t:=9) (kd:=.i64) kr (x:=(.tmp 15)) (y:=.const (.int .i64 4)) (sumTs []) 4 ho hi.1 rfl (by omega) w),.E (.bool (((sumTs []).extract 0 4).toList==(⟨#[197,210,70,1]⟩:Qa).toList)) (.bool true) (zc (by rw[zso];exact vc _)),.v,.v] H2 kr fun gs3 w3 H3=>?_;exact rR [.tmp 0] [] (.bool true) H3 kr
theorem zjO {α:Type}{S:Fl α}{w:World}{b m k:Nat}{cur:Qd}{T:TypeId}{M:List α}(h:Rw S.K cur k m (cellsF S M))(hh:w.heap[b]? =some (.cells cur T)):AtF S w (Qg b) m M:=⟨h.lenF.symm,.inr ⟨b,0,cur,T,(0,0),rfl,hh,h.rowAt⟩⟩
theorem zsp {P:Program}{N:Nat}{c:Code}{ρ:Env}{rs:List ResultVar}{w W:World}{V:Value}(hb:Below w.heap.size w W)(h:WP P N c (yx P rs fun v w'=>v=V/\Below W.heap.size W w') ρ W):WP P N c (yx P rs fun v w'=>v=V/\Below w.heap.size w w') ρ W:=
 qS h fun e ρ ww q=>by
  have key: ∀ {v:Value},v=V/\Below W.heap.size W ww->v=V/\Below w.heap.size w ww:=fun q=>⟨q.1,hb.trans (q.2.mono hb.size)⟩
  cases e with
  | normal=>obtain⟨vs,h1,h2⟩:=q;exact⟨vs,h1,key h2⟩
  | ret=>obtain⟨vs,h1,h2⟩:=q;exact⟨vs,h1,key h2⟩
  | _=>exact q
theorem jP.one {S:Qa}{h k:Hdr}{L M:List Txn}{e f:Int}(a:jP S h L e)(b:jP S k M f)(oh:yj h)(ok:yj k)(oL: ∀x∈L,qn x)(oM: ∀x∈M,qn x):h=k/\L=M/\e=f:=by
 rcases a with⟨e1,r1,w1⟩|⟨e1,h1,l1,n1⟩<;>rcases b with⟨e2,r2,w2⟩ | ⟨e2,h2,l2,n2⟩
 ·obtain⟨q1,q2⟩:=zrZ oh ok (fun x hx=>(oL x hx).1) (fun x hx=>(oM x hx).1) r1 r2 (by rw[w1,w2]);exact⟨q1,q2,by omega⟩
 ·exact absurd w1 (n2 h L r1 oh fun x hx=>(oL x hx).1)
 ·exact absurd w2 (n1 k M r2 ok fun x hx=>(oM x hx).1)
 ·exact⟨by rw[h1,h2],by rw[l1,l2],by omega⟩
theorem qH.call {w w':World}{h:Hdr}{l:List Txn}{p:Qc}{n:Nat}{q:Qc}{m:Nat}{t:Qc}{z:Nat}(a:qH w h l p n q m t z)(hb:Below w.heap.size w w'):qH w' h l p n q m t z:=⟨a.1.call hb,a.2.call hb⟩
theorem zsq (h:Hdr)(L:List Txn)(o:yj h)(hL:L.length<=1000000)(hO: ∀x∈L,qn x)(p:Qc)(n c:Nat)(q:Qc)(m k:Nat)(t:Qc)(z e:Nat):∃(a:Qa) (f:Int),FnP Tryz.prog 5 #[bkV h p n c q m k t z e] (fun w=>qH w h L p n q m t z/\Ke.Marks w) (.tuple #[.string a,.int .i64 f])/\((yA h L=true/\a=(jf h L).1/\f=0)\/(yA h L=false/\a=em/\f=1)):=by
 cases r:yA h L with
 | false=>exact⟨_,_,zr8 h L o.sm hL hO r p n c q m k t z e,.inr ⟨rfl,rfl,rfl⟩⟩
 | true=>exact⟨_,_,zr9 h L o hO r p n c q m k t z e,.inl ⟨rfl,rfl,rfl⟩⟩
theorem zsr (p:Qc)(n c:Nat)(L:List Txn)(hL:L.length<=1000000)(hO: ∀x∈L,qn x):∃(a:Qa) (f:Int),FnP Tryz.prog 6 #[.slice p n c] (fun w=>AtF tnS w p n L/\Ke.Marks w) (.tuple #[.string a,.int .i64 f])/\((L.all rtX=true/\a=sumTs L/\f=0)\/(L.all rtX=false/\a=em/\f=1)):=by
 have h:=ze0 p n c L hL hO;unfold vC at h;cases r:L.all rtX with
 | false=>rw[r,if_neg (by decide),if_neg (by decide)]at h;exact⟨_,_,h,.inr ⟨rfl,rfl,rfl⟩⟩
 | true=>rw[r,if_pos rfl,if_pos rfl]at h;exact⟨_,_,h,.inl ⟨rfl,rfl,rfl⟩⟩
theorem zss (hd:Hdr)(l:List Txn)(p:Qc)(n c:Nat)(q:Qc)(m k:Nat)(t:Qc)(z d:Nat)(hp:qL p n c)(hq:qL q m k)(ht:qL t z d)(hnum:zeB hd)(hl: ∀x∈l,yS x)(s:Qa):FnP Tryz.prog 3 #[bkV hd p n c q m k t z d,.string s] (fun w=>qH w hd l p n q m t z/\Ke.Marks w) (.bool true):=by
 refine zR [.tmp 4] 97 Tryz.func3 fun w hP=>?_;obtain⟨hP,hM⟩:=hP;have hm:=hP.1.2.1;have H0:=St.start w;obtain⟨S,hS⟩:∃S,s.extract 0 (min s.size 4100)=S:=⟨_,rfl⟩
 have hSz:S.size<=4100:=by rw[<-hS,ByteArray.size_extract];omega
 refine rS [.b,.v] H0 kr fun gs1 w1 H1=>?_;have H1':St w.heap.size w w1 [((gs1 0).b,bkO hd p n c q m k t z d)]:=H1.as kr;refine za kr<|D2.g_draw0 [0,1,2,3,4,5,6,7,8] [(some 13,fun _=>bkV hd p n c q m k t z d),(some 14,fun y=>bkV (xS hd) (Qg (y).b) (y).n (y).cap q (hd.ss.take 20).length k (some ⟨(y).l.getD 0 0,0,none⟩) ((y).l.getD 1 0) ((y).l.getD 2 0)),(some 15,fun _=>.string s),(some 16,fun _=>.string s),(some 17,fun _=>iN s.size),(some 18,fun _=>iN (min s.size 4100)),(some 19,fun _=>.string (s.extract 0 (min s.size 4100))),(none,fun _=>undef),(some 1,fun _=>.string (s.extract 0 (min s.size 4100)))]
  (D2.chn [1,7] (fun j g ww=>match j with
   | 0=>St w.heap.size w ww [((gs1 0).b,bkO hd p n c q m k t z d)]
   | 1=> ∃ct,(Rw 1 (g 1).cur (g 1).cap (g 1).n (cellsF sS (xS hd).vs)/\Rw 12 ct ((g 1).l.getD 2 0) ((g 1).l.getD 1 0) (cellsF tnS (xg l)))/\St w.heap.size w ww [((g 1).l.getD 0 0,Qk ct 54),((g 1).b,Qk (g 1).cur 9),((gs1 0).b,bkO hd p n c q m k t z d)]
   | _=> ∃ct,(Rw 1 (g 1).cur (g 1).cap (g 1).n (cellsF sS (xS hd).vs)/\Rw 12 ct ((g 1).l.getD 2 0) ((g 1).l.getD 1 0) (cellsF tnS (xg l)))/\St w.heap.size w ww [((g 1).l.getD 0 0,Qk ct 54),((g 1).b,Qk (g 1).cur 9),((gs1 0).b,bkO (xS hd) (some ⟨(g 1).b,0,none⟩) (g 1).n (g 1).cap q (hd.ss.take 20).length k (some ⟨(g 1).l.getD 0 0,0,none⟩) ((g 1).l.getD 1 0) ((g 1).l.getD 2 0))])) kr kr kr H1'.drew ⟨?_,?_,?_,?_,?_,?_,?_,?_,?_,trivial⟩ ?_
 ·exact D2.gv_ld (fun _ _ _ h=>h) 29 (.tmp 2) (fun _=>(gs1 0).b) 0 (bkC hd p n c q m k t z d) 29 (0,0) (fun g=>by kernel_rfl) (fun g=>by kernel_rfl) (fun L1 g ww hN hp=>D2.chn.getN hp 0 1 rfl (hN.post 1 kr) fun j hj h=>by
   match j,h with
   | 0,h=>exact St.get h 0 kr) kr kr
 ·refine D2.gv_chn 1 0 (fun L hN=>by
   have e1:=hN.1;have e7:=hN.post 7 kr
   exact⟨by (simp[D2.stg,e1,e7])<;>rfl,by (simp[D2.stg,D2.put1,e1,e7])<;>rfl⟩) fun g ww hq1=>?_
  refine D2.run_ft (zsn hd l p n c q m k t z d hp hq ht) ⟨⟨hP.1.1.call (St.below hq1),hP.1.2.call (St.below hq1)⟩,hP.2.call (St.below hq1)⟩ kr ?_;rintro _ _ w' ⟨b,m',k',cur,bt,nt,ct,curt,rfl,rfl,hrw,hrt⟩ hT;exact⟨{ b:=b,n:=m',cap:=k',cur:=cur,l:=[bt,nt,ct] },rfl,curt,⟨hrw,hrt⟩,(St.addAll hq1 hT).as kr⟩
 ·exact D2.gv_vala
 ·exact D2.gv_vala
 ·exact D2.gv_vala
 ·exact D2.gv_valE (V':=.int .i64 (if (4100:Int)<(s.size:Int) then (4100:Int) else (s.size:Int))) (fun _ _ _ h=>h) (fun g w=>by kernel_rfl) (zf (by split<;>omega))
 ·exact D2.gv_op (fun _ _ _ h=>h) (.slice 9 (.tmp 15) none (some (.tmp 18)) none) (fun g=>by kernel_rfl) (fun g o w ho=>xW (t:=9) (kd:=.i64) kr (x:=(.tmp 15)) (y:=(.tmp 18)) s (min s.size 4100) ho kr kr (Vu _ _) w)
 ·refine D2.gv_chn 7 1 (fun L hN=>by
   have e7:=hN.1;have e1:=hN.bef 1 kr
   exact⟨by (simp[D2.stg,e1,e7])<;>rfl,by (simp[D2.stg,D2.put1,e1,e7])<;>rfl⟩) fun g ww hq1=>?_
  obtain⟨ct,hr9,hq1⟩:=hq1;exact D2.run_sto (t:=29) (x:=.tmp 2) (y:=.tmp 14) (b:=(gs1 0).b) (off:=0) (C:=bkC hd p n c q m k t z d) (C':=bkC (xS hd) (Qg (g 1).b) (g 1).n (g 1).cap q (hd.ss.take 20).length k (some ⟨(g 1).l.getD 0 0,0,none⟩) ((g 1).l.getD 1 0) ((g 1).l.getD 2 0)) (T:=29) (v:=bkV (xS hd) (Qg (g 1).b) (g 1).n (g 1).cap q (hd.ss.take 20).length k (some ⟨(g 1).l.getD 0 0,0,none⟩) ((g 1).l.getD 1 0) ((g 1).l.getD 2 0)) kr kr kr kr kr (St.get hq1 2 kr) (Qp kr) kr ⟨g 7,rfl,ct,hr9,St.store (C:=bkC hd p n c q m k t z d) (T:=29) hq1 2 kr⟩
 ·exact D2.gv_vala
 intro Lz g w3 hall hp9;obtain⟨ct,⟨hrw,hrt⟩,H3⟩:=hp9.fin (fun k hk=>hall k (by simp at hk;rcases hk with rfl | rfl<;>exact Qp kr));refine wW<|xV [(1,.string (s.extract 0 (min s.size 4100))),(2,Qe (gs1 0).b)] kr fun ρ1=>?_;rw[hS];generalize (g 1).b=b at*;generalize (g 1).n=n1 at*;generalize (g 1).cap=c1 at*;generalize (g 1).cur=cur at*;generalize (g 1).l.getD 0 0=bt at*;generalize (g 1).l.getD 1 0=nt at*;generalize (g 1).l.getD 2 0=c2 at*;have hq2:=hP.1.2.take (min m 20) (Vu _ _);rw[zeC hm]at hq2;have hms:(hd.ss.take 20).length=min m 20:=by rw[Rb,<-hm];omega
 rw[<-hms]at hq2;have o:=zpF hnum.1 hnum.2.1 hnum.2.2;have oL: ∀x∈xg l,qn x:=fun x hx=>⟨(zjB hl x hx).1,by have:=(zjB hl x hx).2;omega⟩
 have lL:(xg l).length<=1000000:=by unfold xg;rw[List.length_map,Rb];omega
 change AtF sgF w q (hd.ss.take 20).length (xS hd).ss at hq2;generalize (hd.ss.take 20).length=ms at*;generalize xS hd=h at*;generalize xg l=L at*;have hat: ∀ {ww:World},ww.heap[bt]? =some (.cells ct 54)->ww.heap[b]? =some (.cells cur 9)->Below w.heap.size w ww->qH ww h L (Qg b) n1 q ms (Qg bt) nt:=fun h1 h2 hb=>⟨⟨zjO (S:=sS) hrw h2,hq2.call hb⟩,zjO (S:=tnS) hrt h1⟩
 clear H0 H1 H1';obtain⟨aB,eB,hBy,cB⟩:=zsq h L o lL oL (Qg b) n1 c1 q ms k (Qg bt) nt c2;obtain⟨aS,eS,hSu,cS⟩:=zsr (Qg bt) nt c2 L lL oL;refine rS [.l 2,.cp hBy [(0,(bt,Qk ct 54)),(1,(b,Qk cur 9))] (fun w hb hd=>⟨hat hd.1 hd.2.1 hb,qm hM hb⟩),.v,.v,.v,.v,.v] H3 kr fun gs4 w4 H4=>rS [.v,.l 2,.cp hSu [(0,(bt,Qk ct 54)),(1,(b,Qk cur 9))] (fun w hb hd=>⟨(hat hd.1 hd.2.1 hb).2,qm hM hb⟩),.v,.v,.v,.v,.v] H4 kr fun gs5 w5 H5=>zd [0,1,2,3,4,5,6,7] kr kr<|rp [.v] H5 kr fun gsr1 wr1 Hr1=>wX [1,2,3,4,5,6,7] ?_;have Hs1:St w.heap.size w wr1 [(bt,Qk ct 54),(b,Qk cur 9),((gs1 0).b,bkO h (Qg b) n1 c1 q ms k (Qg bt) nt c2)]:=Hr1.as kr;refine qk Hs1 (some 33) 7 #[.string S] (zsf S (by omega)) (qm hM Hs1.below) kr kr ?_;rintro _ T1 wt1 ⟨h1,L1,p1,n1_,c1_,q1,m1,k1,t1,z1,d1,Ta1,Tb1,Tc1,e1,rfl,o1,oL1,ra1,rb1,rc1,hT1,rd1⟩ Ht1;refine rp [.v,.v,.v] Ht1 kr fun gsu1 wu1 Hu1=>wX [5,6,7] ?_;have Hv1:St w.heap.size w wu1 (T1++ [(bt,Qk ct 54),(b,Qk cur 9),((gs1 0).b,bkO h (Qg b) n1 c1 q ms k (Qg bt) nt c2)]):=Hu1.as kr;refine zA Hv1 (some 9) 29 (bkV hd0 none 0 0 none 0 0 none 0 0) kr kr kr ?_;intro b1 ww1 Hw1;refine rp [.s 0,.v] Hw1 kr fun gsx1 wx1 Hx1=>wX []<|zb<|wW ?_;have hA1: ∀e∈Ta1,e∈T1:=fun e he=>by rw[hT1];simp[he]
 have hB1: ∀e∈Tb1,e∈T1:=fun e he=>by rw[hT1];simp[he]
 have hC1: ∀e∈Tc1,e∈T1:=fun e he=>by rw[hT1];simp[he]
 have Hy1:St w.heap.size w wx1 ((b1,bkO h1 p1 n1_ c1_ q1 m1 k1 t1 z1 d1)::(T1++ [(bt,Qk ct 54),(b,Qk cur 9),((gs1 0).b,bkO h (Qg b) n1 c1 q ms k (Qg bt) nt c2)])):=Hx1.as kr;refine zd [0,1,2,3,4,5,6,7] kr kr<|rp [.v] Hy1 kr fun gsr2 wr2 Hr2=>wX [1,2,3,4,5,6,7] ?_;have Hs2:St w.heap.size w wr2 ((b1,bkO h1 p1 n1_ c1_ q1 m1 k1 t1 z1 d1)::(T1++ [(bt,Qk ct 54),(b,Qk cur 9),((gs1 0).b,bkO h (Qg b) n1 c1 q ms k (Qg bt) nt c2)])):=Hr2.as kr;refine qk Hs2 (some 38) 8 #[.string S] (zsm S hSz) trivial kr kr ?_;rintro _ T2 wt2 ⟨h2,L2,p2,n2_,c2_,q2,m2,k2,t2,z2,d2,Ta2,Tb2,Tc2,e2,rfl,o2,oL2,ra2,rb2,rc2,hT2,rd2⟩ Ht2;refine rp [.v,.v,.v] Ht2 kr fun gsu2 wu2 Hu2=>wX [5,6,7] ?_;have Hv2:St w.heap.size w wu2 (T2++((b1,bkO h1 p1 n1_ c1_ q1 m1 k1 t1 z1 d1)::(T1++ [(bt,Qk ct 54),(b,Qk cur 9),((gs1 0).b,bkO h (Qg b) n1 c1 q ms k (Qg bt) nt c2)]))):=Hu2.as kr;refine zA Hv2 (some 11) 29 (bkV hd0 none 0 0 none 0 0 none 0 0) kr kr kr ?_;intro b2 ww2 Hw2;refine rp [.s 0,.v] Hw2 kr fun gsx2 wx2 Hx2=>wX []<|zb<|wW ?_;have hA2: ∀e∈Ta2,e∈T2:=fun e he=>by rw[hT2];simp[he]
 have hB2: ∀e∈Tb2,e∈T2:=fun e he=>by rw[hT2];simp[he]
 have hC2: ∀e∈Tc2,e∈T2:=fun e he=>by rw[hT2];simp[he]
 obtain⟨rfl,rfl,rfl⟩:=rd1.one rd2 o1 o2 oL1 oL2;have HW:St w.heap.size w wx2 ((b2,bkO h1 p2 n2_ c2_ q2 m2 k2 t2 z2 d2)::(T2++((b1,bkO h1 p1 n1_ c1_ q1 m1 k1 t1 z1 d1)::(T1++ [(bt,Qk ct 54),(b,Qk cur 9),((gs1 0).b,bkO h (Qg b) n1 c1 q ms k (Qg bt) nt c2)])))):=Hx2.as kr;have at1:qH wx2 h1 L1 p1 n1_ q1 m1 t1 z1:=⟨⟨ra1.atF HW fun e he=>by simp[hA1 e he],rb1.atF HW fun e he=>by simp[hB1 e he]⟩,rc1.atF HW fun e he=>by simp[hC1 e he]⟩
 have at2:qH wx2 h1 L1 p2 n2_ q2 m2 t2 z2:=⟨⟨ra2.atF HW fun e he=>by simp[hA2 e he],rb2.atF HW fun e he=>by simp[hB2 e he]⟩,rc2.atF HW fun e he=>by simp[hC2 e he]⟩
 have at0:qH wx2 h L (Qg b) n1 q ms (Qg bt) nt:=hat (HW.own (bt,Qk ct 54) (by simp)).2 (HW.own (b,Qk cur 9) (by simp)).2 HW.below;have hbx:wx2.heap[(gs1 0).b]? =some (bkO h (Qg b) n1 c1 q ms k (Qg bt) nt c2):=(HW.own ((gs1 0).b,bkO h (Qg b) n1 c1 q ms k (Qg bt) nt c2) (by simp)).2;have hb1:wx2.heap[b1]? =some (bkO h1 p1 n1_ c1_ q1 m1 k1 t1 z1 d1):=(HW.own (b1,bkO h1 p1 n1_ c1_ q1 m1 k1 t1 z1 d1) (by simp)).2;have hb2:wx2.heap[b2]? =some (bkO h1 p2 n2_ c2_ q2 m2 k2 t2 z2 d2):=HW.get 0 rfl;have hM2:=qm hM HW.below;refine zsp HW.below<|xV [(1,.string S),(2,Qe (gs1 0).b),(5,.string aB),(6,.int .i64 eB),(7,.string aS),(8,.int .i64 eS),(9,Qe b1),(10,.int .i64 e1),(11,Qe b2),(12,.int .i64 e1)] kr fun ρ2=>?_;have G0:=St.start wx2;have hlk:=zpH h1 L1 h1 L1 o1 o1 (by rcases rd1 with⟨_,r,_⟩ | ⟨_,_,r,_⟩;have:=(qJ.1 r).ln;omega;rw[r];exact QU _) (fun x hx=>(oL1 x hx).1) (fun x hx=>(oL1 x hx).1) p1 n1_ c1_ q1 m1 k1 t1 z1 d1 p2 n2_ c2_ q2 m2 k2 t2 z2 d2 true (by simp);have hR:=zcV h L o.sm lL oL (Qg b) n1 c1 q ms k (Qg bt) nt c2;have hR2:=zjK h L o.sm lL oL (Qg b) n1 c1 q ms k (Qg bt) nt c2;have hA:=zjJ (Qg bt) nt c2 L lL fun x hx=>(oL x hx).1;clear H3 H4 H5 Hr1 Hs1 Ht1 Hu1 Hv1 Hw1 Hx1 Hy1 Hr2 Hs2 Ht2 Hu2 Hv2 Hw2 Hx2 HW;refine za kr ?_;cases hr:yA h L with
 | false=>
  rw[hr]at hR hR2;refine dS [.fp (off:=0) (n:=12) (W:=bkC h1 p1 n1_ c1_ q1 m1 k1 t1 z1 d1) hb1 (zo hb1) (Qp kr) kr,.fp (off:=0) (n:=12) (W:=bkC h1 p2 n2_ c2_ q2 m2 k2 t2 z2 d2) hb2 (zo hb2) (Qp kr) kr,.cp hlk [] (fun w hb hd=>⟨at1.call hb,at2.call hb⟩),.v,.v,.v,.v,.E (.bool (e1 !=e1)) (.bool false) (zc (bne_self_eq_false' _)),.v,.v,.fp (off:=0) (n:=12) (W:=bkC h (Qg b) n1 c1 q ms k (Qg bt) nt c2) hbx (zo hbx) (Qp kr) kr,.cp hR [] (fun w hb hd=>⟨at0.call hb,qm hM2 hb⟩),.fp (off:=0) (n:=12) (W:=bkC h (Qg b) n1 c1 q ms k (Qg bt) nt c2) hbx (zo hbx) (Qp kr) kr,.cp hR2 [] (fun w hb hd=>at0.call hb),.v,.v,.v,.cp zjN [] (fun w hb hd=>qm hM2 hb),.v,.v] G0 kr fun w6 G1=>yh<|wW ?_;cases hal:L.all rtX with
  | false=>
   rw[hal]at hA;rcases cS with⟨q,_⟩ | ⟨_,rfl,rfl⟩
   ·rw[hal]at q;cases q
   refine za kr<|rS [.v,.fs (off:=11) (v:=Qf bt nt c2) hbx (zo hbx) rfl,.cp hA [] (fun w hb hd=>(at0.call hb).2),.v] G1 kr fun gs7 w7 G2=>zJ<|rS [.v,.v,.v,.v,.v,.v] G2 kr fun gs8 w8 G3=>yh<|wW ?_;rcases cB with⟨q,_⟩ | ⟨_,rfl,rfl⟩
   ·rw[hr]at q;cases q
   refine za kr<|rS [.fp (off:=0) (n:=12) (W:=bkC h (Qg b) n1 c1 q ms k (Qg bt) nt c2) hbx (zo hbx) (Qp kr) kr,.cp hR2 [] (fun w hb hd=>at0.call hb),.v] G3 kr fun gs9 w9 G4=>zJ<|rS [.v,.v,.v,.v,.v,.v,.v] G4 kr fun gs10 w10 G5=>?_;exact rR [.tmp 4] [] (.bool true) G5 kr
  | true=>
   rw[hal]at hA;rcases cS with⟨_,rfl,rfl⟩ | ⟨q,_⟩
   case inr=>rw[hal]at q;cases q
   refine za kr<|rS [.v,.fs (off:=11) (v:=Qf bt nt c2) hbx (zo hbx) rfl,.cp hA [] (fun w hb hd=>(at0.call hb).2),.v] G1 kr fun gs7 w7 G2=>zi kr kr<|rS [.v,.v,.v,.v,.v,.fs (off:=11) (v:=Qf bt nt c2) hbx (zo hbx) rfl,.cp (ze4 (Qg bt) nt c2 L lL oL hal) [] (fun w hb hd=>(at0.call hb).2),.E (.bool (!((sumTs L).toList==(sumTs L).toList))) (.bool false) (zc (by rw[vc];rfl)),.v] G2 kr fun gs8 w8 G3=>yh<|wW ?_;rcases cB with⟨q,_⟩ | ⟨_,rfl,rfl⟩
   ·rw[hr]at q;cases q
   refine za kr<|rS [.fp (off:=0) (n:=12) (W:=bkC h (Qg b) n1 c1 q ms k (Qg bt) nt c2) hbx (zo hbx) (Qp kr) kr,.cp hR2 [] (fun w hb hd=>at0.call hb),.v] G3 kr fun gs9 w9 G4=>zJ<|rS [.v,.v,.v,.v,.v,.v,.v] G4 kr fun gs10 w10 G5=>?_;exact rR [.tmp 4] [] (.bool true) G5 kr
 | true=>
  rw[hr]at hR hR2;have hal:=(qJ.1 hr).al;refine dS [.fp (off:=0) (n:=12) (W:=bkC h1 p1 n1_ c1_ q1 m1 k1 t1 z1 d1) hb1 (zo hb1) (Qp kr) kr,.fp (off:=0) (n:=12) (W:=bkC h1 p2 n2_ c2_ q2 m2 k2 t2 z2 d2) hb2 (zo hb2) (Qp kr) kr,.cp hlk [] (fun w hb hd=>⟨at1.call hb,at2.call hb⟩),.v,.v,.v,.v,.E (.bool (e1 !=e1)) (.bool false) (zc (bne_self_eq_false' _)),.v,.v,.fp (off:=0) (n:=12) (W:=bkC h (Qg b) n1 c1 q ms k (Qg bt) nt c2) hbx (zo hbx) (Qp kr) kr,.cp hR [] (fun w hb hd=>⟨at0.call hb,qm hM2 hb⟩),.fp (off:=0) (n:=12) (W:=bkC h (Qg b) n1 c1 q ms k (Qg bt) nt c2) hbx (zo hbx) (Qp kr) kr,.cp hR2 [] (fun w hb hd=>at0.call hb),.v,.v,.v,.cp zjN [] (fun w hb hd=>qm hM2 hb),.v,.v] G0 kr fun w6 G1=>yh<|wW ?_;rw[hal]at hA;rcases cS with⟨_,rfl,rfl⟩ | ⟨q,_⟩
  case inr=>rw[hal]at q;cases q
  refine za kr<|rS [.v,.fs (off:=11) (v:=Qf bt nt c2) hbx (zo hbx) rfl,.cp hA [] (fun w hb hd=>(at0.call hb).2),.v] G1 kr fun gs7 w7 G2=>zi kr kr<|rS [.v,.v,.v,.v,.v,.fs (off:=11) (v:=Qf bt nt c2) hbx (zo hbx) rfl,.cp (ze4 (Qg bt) nt c2 L lL oL hal) [] (fun w hb hd=>(at0.call hb).2),.E (.bool (!((sumTs L).toList==(sumTs L).toList))) (.bool false) (zc (by rw[vc];rfl)),.v] G2 kr fun gs8 w8 G3=>yh<|wW ?_;rcases cB with⟨_,rfl,rfl⟩ | ⟨q,_⟩
  case inr=>rw[hr]at q;cases q
  refine za kr<|rS [.fp (off:=0) (n:=12) (W:=bkC h (Qg b) n1 c1 q ms k (Qg bt) nt c2) hbx (zo hbx) (Qp kr) kr,.cp hR2 [] (fun w hb hd=>at0.call hb),.v] G3 kr fun gs9 w9 G4=>yh<|wW<|rS [.v,.v,.v,.v,.fp (off:=0) (n:=12) (W:=bkC h (Qg b) n1 c1 q ms k (Qg bt) nt c2) hbx (zo hbx) (Qp kr) kr,.cp (zjL h L o oL hr (Qg b) n1 c1 q ms k (Qg bt) nt c2) [] (fun w hb hd=>at0.call hb),.E (.bool ((jf h L).1.toList==(jf h L).1.toList)) (.bool true) (zc (vc (jf h L).1)),.v,.v] G4 kr fun gs10 w10 G5=>?_;exact rR [.tmp 4] [] (.bool true) G5 kr
end
end Go.Proofs.YtcjejfklpegobaaGreatDoor
