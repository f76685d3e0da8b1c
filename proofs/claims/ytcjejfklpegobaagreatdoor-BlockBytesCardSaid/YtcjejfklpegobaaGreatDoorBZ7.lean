/-
  Texts of the proof,part 7.
-/
import Derived.Test.YtcjejfklpegobaaGreatDoorProg
import Derived.Test.YtcjejfklpegobaaGreatDoorRows
import Derived.Lib.LaidTab
import Derived.MakeChecks
import Derived.LaidLaws
import Derived.LaidHandle
import Derived.ProofKit
import Derived.WalkKit
import Derived.Test.YtcjejfklpegobaaGreatDoorBZ1
import Derived.Test.YtcjejfklpegobaaGreatDoorBZ2
import Derived.Test.YtcjejfklpegobaaGreatDoorBZ4
import Derived.Test.YtcjejfklpegobaaGreatDoorBZ5
import Derived.Test.YtcjejfklpegobaaGreatDoorBZ6
set_option maxRecDepth 100000
set_option maxHeartbeats 4000000
open Go Go.RowKit
open Bool renaming and_eq_true->Qu,not_eq_true'->Rf
open DataW renaming trod->Rg,trod_int->Vb
open IntKind renaming i64->Qz
open List renaming length->Qo,getElem?_eq_getElem->Qr,sublist_cons_self->Qt,length_append->Qx,take_of_length_le->Qy,append_assoc->QD,nil_sublist->QE,mem_of_getElem?->QF,append_nil->QI,sublist_append_right->QK,getD_eq_getElem?_getD->QO,mem_cons_of_mem->QR,perm_append_comm->QV,mem_cons_self->QX,mem_append_right->QZ,map_cons->Q8,length_map->Ra,length_take->Rb,mem_append_left->Rd,mem_map->Rk,perm_middle->Rl,cons_append->Rm,perm_append_comm_assoc->Ro,map_append->RD,nil_append->RS,length_nil->Ui
open List.Perm renaming cons->QM,swap->Uz
open List.Sublist renaming cons_cons->Qq,cons->Qs,refl->Rn,append->Vh
open Nat renaming le_of_ble_eq_true->Qp,le_refl->QH,zero_le->QU,le_trans->RZ,pow_le_pow_right->Uh,lt_of_lt_of_le->UX
open Obj renaming cells->Qk
open Oper renaming upon_value->Rx
open Option renaming some->Rr
open Value renaming cells->Qn,int->Q0,slice->U5
open _root_.ByteArray renaming size->Ql,extract->Qv,toList->Rs,size_extract->Uq
namespace Go.Proofs.YtcjejfklpegobaaGreatDoor
section
open D2 (Gh)
abbrev Yg (l:Bool)(s:Qa)(k:Fo)(y:Gh):X3:=⟨l,s,pG y,k.len,y.cap,k⟩
def zcH (l:Bool)(s:Qa)(k:Fo)(v:Value)(T:Qb):Prop:=∃y:Gh,v=itV (Yg l s k y)/\SlIn T (pG y) k.len k
theorem zp2 (s:Qa):zcH false s .nil (itV (b3 s)) []:=⟨{ cap:=0 },rfl,rfl,QU _,.inl rfl⟩
theorem yl.gh {p:Qc}{n c:Nat}{T Tk:Qb}{M:List X3}(h:yl iS 58 p n c T M)(hA:AllIn Tk M)(hn:n<=100000):∃y:Gh,U5 p n c=.slice (pG y) (toFo M).len y.cap/\SlIn (T++Tk) (pG y) (toFo M).len (toFo M):=by
 have hl:=h.len;obtain⟨y,hy,hr⟩:=zfV h;obtain⟨q1,q2,q3⟩:p=pG y/\n=y.n/\c=y.cap:=by injection hy with a b c;exact⟨a,b,c⟩
 refine⟨y,?_,?_⟩
 ·rw[hy,zbC,<-q2,hl]
 ·rcases hr with⟨e1,e2,e3,e4,e5⟩|⟨b,cur,e1,e2,e3⟩
  ·rw[e1,e4,e5];exact⟨rfl,QU _,.inl rfl⟩
  ·rw[e1,e2];have hn2:y.n=(toFo M).len:=by rw[zbC,<-q2,hl]
   rw[<-hn2];exact(show Rw 3 cur y.cap y.n (cells3 M) by rw[<-zb1];exact e3).slIn (ty:=58) (fz:=(0,0)) (by simp) (zhv hA fun e he=>QZ _ he) (by omega)
theorem zp3 {g:Nat}(hg:yD g=true)(m:Nat)(s:Qa):zX g (m,s)=if g=110 then zg (dg m) else s:=by
 unfold zX yb;rcases xy.1 hg with rfl | rfl | rfl | rfl | rfl<;>rfl
theorem uO {g:Nat}(hg:yD g=true):yb g=false:=by
 unfold yb;rcases xy.1 hg with rfl | rfl | rfl | rfl | rfl<;>rfl
theorem ziT (u:Qa)(m:Nat)(s:Qa)(p:Qc)(n c:Nat)(hz:0<u.size)(hl:yD (by_ u 0)=true)(hm:m<0x10000000000000000):Fn Tryz.prog 90 #[.string u,fld m s p n c] (itV (b3 (zX (by_ u 0) (m,s)))):=by
 rw[zp3 hl];refine zv [.cell 4 58] 66 Tryz.func90 fun w=>rS [.b,.a] (St.start w) kr fun gs1 w1 H1=>za kr ?_;by_cases hc:by_ u 0=110
 ·rw[if_pos hc];refine rS [.v,.oe (ins:=[((.tmp 10),.string u)]) (v:=.int .u8 ((by_ u 0:Nat):Int)) (v':=.int .u8 110) (fun ρ o w ho hi2=>yy (t:=9) (kd:=.i64) kr (x:=(.tmp 10)) (y:=.const (.int .i64 0)) u 0 ho hi2.1 rfl hz w) (by rw[hc];rfl),.v] H1 kr fun gs2 w2 H2=>zh kr kr<|rS [.v,.l 0,.c (zpW m hm),.s 1] H2 kr fun gs3 w3 H3=>?_;exact rR [.cell 4 58] [1] (itV (b3 (zg (dg m)))) H3 kr
 ·rw[if_neg hc];have h40:by_ u 0≠40/\by_ u 0≠42:=by rw[xy]at hl;omega
  refine rS [.v,.o (ins:=[((.tmp 10),.string u)]) (v:=.int .u8 ((by_ u 0:Nat):Int)) (fun ρ o w ho hi2=>yy (t:=9) (kd:=.i64) kr (x:=(.tmp 10)) (y:=.const (.int .i64 0)) u 0 ho hi2.1 rfl hz w),itD ((by_ u 0:Nat):Int) 110] H1 kr fun gs2 w2 H2=>zi kr kr<|zj kr<|wW<|rS [.v,.a,.s 2] H2 kr fun gs3 w3 H3=>za kr<|rS [.v,.o (ins:=[((.tmp 17),.string u)]) (v:=.int .u8 ((by_ u 0:Nat):Int)) (fun ρ o w ho hi2=>yy (t:=9) (kd:=.i64) kr (x:=(.tmp 17)) (y:=.const (.int .i64 0)) u 0 ho hi2.1 rfl hz w),itD ((by_ u 0:Nat):Int) 40] H3 kr fun gs4 w4 H4=>zi kr kr<|zj kr<|wW<|za kr<|rS [.v,.o (ins:=[((.tmp 42),.string u)]) (v:=.int .u8 ((by_ u 0:Nat):Int)) (fun ρ o w ho hi2=>yy (t:=9) (kd:=.i64) kr (x:=(.tmp 42)) (y:=.const (.int .i64 0)) u 0 ho hi2.1 rfl hz w),itD ((by_ u 0:Nat):Int) 42] H4 kr fun gs5 w5 H5=>zi kr kr<|zj kr<|wW<|rS [.v,.l 0,.v,.s 1] H5 kr fun gs6 w6 H6=>?_;exact rR [.cell 4 58] [1] (itV (b3 s)) H6 kr
theorem zp4 {c:Nat}(hc:yD c=true)(x:Nat×Qa)(l r:Fe)(i:Nat):yF (.cons x l r) 42 (.cons c .nil .nil) i=.cons false (zX c x) .nil (yF r 42 (.cons c .nil .nil) (i+1)):=by
 rw[zaH,zaJ];show Fo.cons (yb c) _ (zI c .nil l) _=_;unfold zI;rw[uO hc];rfl
theorem zp5 (u:Qa)(m:Nat)(s:Qa)(p:Qc)(n c:Nat)(l:Fe)(hu:u.size=2)(hc:by_ u 0=42)(hl:yD (by_ u 1)=true)(h40:n<=40):FnT Tryz.prog 90 #[.string u,fld m s p n c] (fun w=>SlR fS w.heap.size w p n l) (zcH true emB (yF l 42 (.cons (by_ u 1) .nil .nil) 0)):=by
 have hz:0<u.size:=by omega
 have hq1:(u.extract 1 u.size).size=1:=by rw[Uq];omega
 have hq2:by_ (u.extract 1 u.size) 0=by_ u 1:=by
  unfold by_;rw[yT,Qy (by rw[zu];omega)];simp[QO]
 refine qz [.cell 4 58] 66 Tryz.func90 fun w hF=>?_;have hok:=hF.ok;have H0:=St.start w;refine rS [.b,.a] H0 kr fun gs1 w1 H1=>za kr<|rS [.v,.oe (ins:=[((.tmp 10),.string u)]) (v:=.int .u8 ((by_ u 0:Nat):Int)) (v':=.int .u8 42) (fun ρ o w ho hi2=>yy (t:=9) (kd:=.i64) kr (x:=(.tmp 10)) (y:=.const (.int .i64 0)) u 0 ho hi2.1 rfl hz w) (by rw[hc];rfl),.v] H1 kr fun gs2 w2 H2=>zi kr kr<|zj kr<|wW<|rS [.v,.a,.s 2] H2 kr fun gs3 w3 H3=>za kr<|rS [.v,.oe (ins:=[((.tmp 17),.string u)]) (v:=.int .u8 ((by_ u 0:Nat):Int)) (v':=.int .u8 42) (fun ρ o w ho hi2=>yy (t:=9) (kd:=.i64) kr (x:=(.tmp 17)) (y:=.const (.int .i64 0)) u 0 ho hi2.1 rfl hz w) (by rw[hc];rfl),.v] H3 kr fun gs4 w4 H4=>zi kr kr<|zj kr<|wW<|za kr<|rS [.v,.oe (ins:=[((.tmp 42),.string u)]) (v:=.int .u8 ((by_ u 0:Nat):Int)) (v':=.int .u8 42) (fun ρ o w ho hi2=>yy (t:=9) (kd:=.i64) kr (x:=(.tmp 42)) (y:=.const (.int .i64 0)) u 0 ho hi2.1 rfl hz w) (by rw[hc];rfl),.v] H4 kr fun gs5 w5 H5=>zh kr kr<|za kr<|rS [.v,.l 0,.v,.v] H5 kr fun gs6 w6 H6a=>zm 2 kr ?_;have H6:St w.heap.size w w6 ([((gs1 0).b,fdO m s p n c),((gs1 1).b,iTO (b3 emB)),((gs3 1).b,xlO none 0 0)]++ []):=H6a.as kr;refine zO kr (fun mz ρ ww=> ∃(i:Nat) (r:Fe) (q:Qc) (cb:Nat) (M:List X3) (Tb:Qb),n-i=mz/\FrR fS w.heap.size w p i r/\i+r.len=n/\r.all fS.ok/\yl iS 58 q i cb Tb M/\AllIn [] M/\(toFo M).app (yF r 42 (.cons (by_ u 1) .nil .nil) i)=yF l 42 (.cons (by_ u 1) .nil .nil) 0/\St w.heap.size w ww ([((gs1 0).b,fdO m s p n c),((gs1 1).b,iTO (b3 emB)),((gs3 1).b,xlO q i cb)]++Tb)/\Is [(0,.string u),(3,Qe (gs1 0).b),(4,Qe (gs1 1).b),(5,Qe (gs3 1).b),(46,.slice p n c),(47,iN n),(48,iN i)] ρ) (n-0) ⟨0,l,none,0,[],[],rfl,hF.start,by have:=hF.1;omega,hok,.inl ⟨rfl,rfl,rfl,rfl,rfl⟩,(fun _ h=>nomatch h),rfl,H6,zl⟩ ?_;clear H0 H1 H2 H3 H4 H5 H6 H6a;rintro _ _ w7 ⟨i,r,q,cb,M,Tb,rfl,hR,hN,hro,hrow,hAll,hM,H7,_,rfl⟩;by_cases hi:i<n
 ·refine rS [itT ((i:Int)<(n:Int))] H7 kr fun gs8 w8 H8=>za kr<|zh kr kr<|zj kr<|wW<|za kr<|zm 3 kr ?_;obtain⟨⟨m1,s1⟩,k1,r1,b1,off1,C1,T1,fz1,p1,n1,c1,rfl,hp1,hb1,hh1,hs1,hx1,hz1,hk1,hR1,hN1⟩:=FrR.open hR hN hi;refine zd [0,1,2,3] kr kr<|rp [itX 46 48 85 89 3 48 b1 off1 n c i hp1,.fp (off:=off1+i*3) (n:=3) (W:=#[.int .u64 (m1:Int),.string s1,.slice p1 n1 c1]) hh1 hb1 hs1 hx1] H8 kr fun gs9 w9 H9=>wX [2,3] ?_;have H10:St w.heap.size w w9 ([((gs1 0).b,fdO m s p n c),((gs1 1).b,iTO (b3 emB)),((gs3 1).b,xlO q i cb)]++Tb):=H9.as kr;refine zA H10 (some 9) 89 (.agg #[wZ,.string emB,.slice none 0 0]) kr kr kr ?_;intro b9 w10 H11;refine rp [.s 0] H11 kr fun gs10 w11 H12=>wX []<|zb<|wW ?_;have H13:St w.heap.size w w11 ([(b9,fdO m1 s1 p1 n1 c1),((gs1 0).b,fdO m s p n c),((gs1 1).b,iTO (b3 emB)),((gs3 1).b,xlO q i cb)]++Tb):=H12.as kr;have hcall:=ziT (u.extract 1 u.size) m1 s1 p1 n1 c1 (by omega) (by rw[hq2];exact hl) hz1.1;rw[hq2]at hcall;refine D2.g_draw0 [0,1,2,3,4,5,6,7,8,9] [(some 52,fun _=>.pointer (some ⟨(gs3 1).b,2,none⟩)),(some 53,fun _=>.slice q i cb),(some 54,fun _=>.string u),(some 55,fun _=>.string (u.extract 1 u.size)),(some 56,fun _=>.agg #[.int .u64 (m1:Int),.string s1,.slice p1 n1 c1]),(some 57,fun _=>itV (b3 (zX (by_ u 1) (m1,s1)))),(some 58,fun y=>Qf y.b 1 1),(some 59,fun y=>Qf y.b (i+1) y.cap),(some 60,fun _=>.pointer (some ⟨(gs3 1).b,2,none⟩)),(none,fun _=>undef)]
   (D2.chn [6,7,9] fun j g ww=>match j with
    | 0=>St w.heap.size w ww ([(b9,fdO m1 s1 p1 n1 c1),((gs1 0).b,fdO m s p n c),((gs1 1).b,iTO (b3 emB)),((gs3 1).b,xlO q i cb)]++Tb)
    | 1=>St w.heap.size w ww ([(b9,fdO m1 s1 p1 n1 c1),((gs1 0).b,fdO m s p n c),((gs1 1).b,iTO (b3 emB)),((gs3 1).b,xlO q i cb)]++(((g 6).b,kP [(b3 (zX (by_ u 1) (m1,s1)))])::Tb))
    | 2=>St w.heap.size w ww ([(b9,fdO m1 s1 p1 n1 c1),((gs1 0).b,fdO m s p n c),((gs1 1).b,iTO (b3 emB)),((gs3 1).b,xlO q i cb)]++ [((g 7).b,.cells (g 7).cur 58)])/\Rw 3 (g 7).cur (g 7).cap (i+1) (cellsF iS (M++ [(b3 (zX (by_ u 1) (m1,s1)))]))
    | _=>St w.heap.size w ww ([(b9,fdO m1 s1 p1 n1 c1),((gs1 0).b,fdO m s p n c),((gs1 1).b,iTO (b3 emB)),((gs3 1).b,xlO (some ⟨(g 7).b,0,none⟩) (i+1) (g 7).cap)]++ [((g 7).b,.cells (g 7).cur 58)])/\Rw 3 (g 7).cur (g 7).cap (i+1) (cellsF iS (M++ [(b3 (zX (by_ u 1) (m1,s1)))])))
   kr kr kr H13.drew ⟨?_,?_,?_,?_,?_,?_,?_,?_,?_,?_,trivial⟩ ?_
  ·exact D2.gv_vala
  ·exact D2.gv_ld (fun _ _ _ h=>h) 47 (.tmp 52) (fun _=>(gs3 1).b) 2 #[.bool true,.string emB,.slice q i cb] 58 (0,0) (fun g=>by kernel_rfl) (fun g=>by kernel_rfl) (fun L g w hN hp=>hp.getN 1 7 rfl (hN.post 7 kr) fun j hj h=>by
    match j,hj,h with
    | 0,_,h=>exact St.get h 3 kr
    | 1,_,h=>exact St.get h 3 kr
    | j+2,hj,_=>exact absurd hj (by omega)) kr kr
  ·exact D2.gv_vala
  ·exact D2.gv_op (fun _ _ _ h=>h) (.slice 9 (.tmp 54) (some (.const (.int .i64 1))) none none) (fun g=>by kernel_rfl) (fun g o w ho=>uq (t:=9) (kz:=.i64) kr (x:=(.tmp 54)) (z:=.const (.int .i64 1)) u 1 ho kr rfl (by omega) w)
  ·exact D2.gv_ld (fun _ _ _ h=>h) 89 (.tmp 9) (fun _=>b9) 0 #[.int .u64 (m1:Int),.string s1,.slice p1 n1 c1] 89 (0,0) (fun g=>by kernel_rfl) (fun g=>by kernel_rfl) (fun L g w hN hp=>hp.get fun j hj h=>by
   match j,h with
   | 0,h=>exact St.get h 0 kr
   | 1,h=>exact St.get h 0 kr
   | 2,h=>exact St.get h.1 0 kr
   | _+3,h=>exact St.get h.1 0 kr) kr kr
  ·exact D2.gv_cW (fun _ _ _ h=>h) 90 #[.string (u.extract 1 u.size),fld m1 s1 p1 n1 c1] hcall (fun L g w w' hN hp hb=>by
   revert hp;unfold D2.chn
   generalize D2.stg [6,7,9] L=j;intro hp
   match j,hp with
   | 0,h=>exact h.call hb
   | 1,h=>exact h.call hb
   | 2,h=>exact⟨h.1.call hb,h.2⟩
   | _+3,h=>exact⟨h.1.call hb,h.2⟩) (fun g w=>by kernel_rfl)
  ·refine D2.gv_chn 6 0 (fun L hN=>by
   have e6:=hN.1;have e7:=hN.post 7 kr;have e9:=hN.fwd e7 (show D2.edge _ 7 9=true by kernel_rfl)
   exact⟨by (simp[D2.stg,e6,e7,e9])<;>rfl,by (simp[D2.stg,D2.put1,e6,e7,e9])<;>rfl⟩) fun g ww hq=>?_
   exact D2.run_new (F:=fun b=>Qf b 1 1) (ob:=kP [(b3 (zX (by_ u 1) (m1,s1)))]) kr ⟨{ b:=ww.heap.size },rfl,(St.alloc hq (kP [(b3 (zX (by_ u 1) (m1,s1)))])).perm (Rl (l₁:=[(b9,fdO m1 s1 p1 n1 c1),((gs1 0).b,fdO m s p n c),((gs1 1).b,iTO (b3 emB)),((gs3 1).b,xlO q i cb)]))⟩
  ·refine D2.gv_chn 7 1 (fun L hN=>by
   have e7:=hN.1;have e6:=hN.bef 6 kr;have e9:=hN.post 9 kr
   exact⟨by (simp[D2.stg,e6,e7,e9])<;>rfl,by (simp[D2.stg,D2.put1,e6,e7,e9])<;>rfl⟩) fun g ww hq=>?_
   refine D2.run_of (op:=ym 47 (.tmp 53) (.tmp 58)) kr fun o ho=>?_;have hq2:St w.heap.size w ww ([(b9,fdO m1 s1 p1 n1 c1),((gs1 0).b,fdO m s p n c),((gs1 1).b,iTO (b3 emB)),((gs3 1).b,xlO q i cb)]++(((g 6).b,kP [(b3 (zX (by_ u 1) (m1,s1)))])::(Tb++ []))):=by rw[QI];exact hq
   obtain⟨b',cap',cur',w',hrun,HS',hr'⟩:=zd3 (S:=iS) (bx:=(g 6).b) (M0:=M) (M:=[(b3 (zX (by_ u 1) (m1,s1)))]) (row:=Tb) (Z:=[(b9,fdO m1 s1 p1 n1 c1),((gs1 0).b,fdO m s p n c),((gs1 1).b,iTO (b3 emB)),((gs3 1).b,xlO q i cb)]++ []) (n:=i) (c:=cb) (p:=q) (m:=1) (mc:=1) (hq2.perm (zd5 ((g 6).b,kP [(b3 (zX (by_ u 1) (m1,s1)))]) Tb [(b9,fdO m1 s1 p1 n1 c1),((gs1 0).b,fdO m s p n c),((gs1 1).b,iTO (b3 emB)),((gs3 1).b,xlO q i cb)] [])) hrow (t:=47) (bytes:=48) kr ho kr kr rfl (by decide) (by omega) (by unfold maxLen;omega);exact⟨_,w',hrun,{ b:=b',cap:=cap',cur:=cur' },rfl,HS'.perm (Rl (l₁:=[(b9,fdO m1 s1 p1 n1 c1),((gs1 0).b,fdO m s p n c),((gs1 1).b,iTO (b3 emB)),((gs3 1).b,xlO q i cb)])),hr'⟩
  ·exact D2.gv_vala
  ·refine D2.gv_chn 9 2 (fun L hN=>by
   have e9:=hN.1;have e7:=hN.bef 7 kr;have e6:=hN.back e7 (show D2.edge _ 6 7=true by kernel_rfl)
   exact⟨by (simp[D2.stg,e6,e7,e9])<;>rfl,by (simp[D2.stg,D2.put1,e6,e7,e9])<;>rfl⟩) fun g ww hq=>?_
   obtain⟨hS,hr⟩:=hq;exact zd4 (t:=47) (x:=.tmp 60) (y:=.tmp 59) (T:=58) (b:=(gs3 1).b) (q:=q) (n:=i) (c:=cb) (q':=Qg (g 7).b) (n':=i+1) (c':=(g 7).cap) kr kr kr kr (St.get hS 3 kr) ⟨g 9,rfl,St.store (C:=#[.bool true,.string emB,.slice q i cb]) (T:=58) hS 3 kr,hr⟩
  ·intro L1 g w12 hall hp;have hq:=hp.fin (fun k hk=>hall k (by simp at hk;rcases hk with rfl | rfl | rfl<;>exact Qp kr));obtain⟨hS,hr⟩:=hq;refine wW<|rL [itI i 1,.v] hS kr fun gs13 w13 H14=>?_;have H15:St w.heap.size w w13 ([(b9,fdO m1 s1 p1 n1 c1),((gs1 0).b,fdO m s p n c),((gs1 1).b,iTO (b3 emB)),((gs3 1).b,xlO (Qg (g 7).b) (i+1) (g 7).cap)]++ [((g 7).b,.cells (g 7).cur 58)]):=H14.as kr;show ∃m,_/\_;refine⟨_,(by omega),i+1,r1,Qg (g 7).b,(g 7).cap,(M++ [(b3 (zX (by_ u 1) (m1,s1)))]),[((g 7).b,.cells (g 7).cur 58)],rfl,hR1,hN1,hro.2.2,.inr ⟨_,_,rfl,rfl,hr⟩,?_,?_,H15.sub (Qt ..),zl⟩
   ·refine zhw hAll (zd2 _ _) ?_;show Ql (zX (by_ u 1) (m1,s1))<=_;exact zb6 hz1.2
   ·rw[zb5,<-hM,zp4 hl]
 ·refine rS [itF ((i:Int)<(n:Int))] H7 kr fun gs8 w8 H8=>za kr<|zi kr kr<|zE 2 kr<|wW ?_;obtain rfl:=FrR.done hN hi;have hin:i=n:=by simp only[Fr.len]at hN;omega
  rw[show yF .nil 42 (.cons (by_ u 1) .nil .nil) i=.nil from rfl,Fo.app_nil]at hM;obtain⟨y,hy,hsl⟩:=hrow.gh hAll (by omega);rw[hM]at hy hsl;refine rS [.l 2,.s 1] H8 kr fun gs9 w9 H9=>?_;have H10:St w.heap.size w w9 ([((gs1 0).b,fdO m s p n c),((gs1 1).b,xlO q i cb),((gs3 1).b,xlO q i cb)]++Tb):=H9.as kr;refine rRr [.cell 4 58] [1] (.agg #[.bool true,.string emB,.slice q i cb]) (zV w.heap.size w (zcH true emB (yF l 42 (.cons (by_ u 1) .nil .nil) 0))) H10 kr ?_;rw[QI]at hsl;exact⟨Tb,⟨y,by rw[hy],hsl⟩,H10.sub (QK ..)⟩
theorem zp6 (u:Qa)(m:Nat)(s:Qa)(p:Qc)(n c:Nat)(l:Fe)(hk:kdOk u=true)(hm:m<0x10000000000000000)(hf:qv u (m,s) l=true):FnT Tryz.prog 90 #[.string u,fld m s p n c] (fun w=>SlR fS w.heap.size w p n l) (zcH (yb (by_ u 0)) (zX (by_ u 0) (m,s)) (zI (by_ u 0) (kdB u) l)):=fun w hF=>by
 have hn:=hF.1;rcases zbZ.1 hk with⟨h1,h2⟩ | ⟨h1,h2,h3⟩
 ·have e:zI (by_ u 0) (kdB u) l=.nil:=by unfold zI;rw[uO h2];rfl
  rw[e,uO h2];refine(ziT u m s p n c (by omega) h2 hm w).mono ?_;rintro e w' ⟨rfl,hb⟩;exact⟨_,[],rfl,zp2 _,(St.start w).call hb⟩
 ·have eb:kdB u=.cons (by_ u 1) .nil .nil:=by unfold kdB;rw[if_pos h2]
  have h40:n<=40:=by
   unfold qv at hf;rw[Qu]at hf;have:=(zbY hf.1).2.2.2;rw[h2]at this;have e4:(yz 42 (kdB u).len).2=40:=rfl;omega
  rw[eb,h2];exact zp5 u m s p n c l h1 h2 h3 h40 w hF
theorem zeH (form:Qa)(ks:Qi)(hK:kN form ks)(hne:ks≠[])(p:Qc)(n c:Nat)(l:Fe):FnP Tryz.prog 63 #[.string form,.slice p n c] (fun w=>SlR fS w.heap.size w p n l) (jl (wrV form l)):=by
 rw[zaM hK];have h41:ks.length<=41:=by rw[<-hK.cut];exact zb0 form 41 0
 refine zR [.tmp 4,.tmp 5] 48 Tryz.func63 fun w hF=>?_;have hok:=hF.ok;have H0:=St.start w;refine rS [.v,.v] H0 kr fun gs1 w1 H1=>zd [0,1,2,3,4,5,6] kr kr<|rp [.v] H1 kr fun gs2 w2 H2=>wX [1,2,3,4,5,6] ?_;have H3:St w.heap.size w w2 []:=H2.as kr;refine qk H3 (some 13) 82 #[.string form] (zel form ks hK) trivial kr kr ?_;rintro _ T w3 ⟨kp,kn,kc,rfl,hrow⟩ H4;rcases hrow with⟨_,_,_,_,e⟩ | ⟨bk,curk,rfl,rfl,hrk⟩
 ·exact absurd e hne
 have hkn:ks.length=kn:=hrk.lenF;refine rp [.v,.v,.v,.v,.v] H4 kr fun gs3 w4 H5=>wX []<|zb<|wW<|za kr ?_;have hfits:=zpm form ks hK p n c l;by_cases hfit:yo ks l=true/\l.cnt<=1000
 ·rw[if_pos hfit];rw[decide_eq_true hfit.2,hfit.1]at hfits;have hlen:=zaK hfit.1;have hF1:=hF.1;refine rS [.v,.v,.v,.v,.v,.cp (pre:=fun w=>SlR fS w.heap.size w p n l) hfits [] (fun w hb hd=>hF.call hb),.v,.v] H5 kr fun gs4 w5 H6=>zi kr kr<|zj kr<|wW<|rS [.v,.a,.s 1] H6 kr fun gs5 w6 H7=>za kr<|rS [.v,.v,.v] H7 kr fun gs6 w7 H8a=>zm 0 kr ?_;obtain⟨b8,hb8⟩:∃b8,b8=(gs5 1).b:=⟨_,rfl⟩
  have H8:St w.heap.size w w7 ([(bk,.cells curk 9),((gs5 1).b,xlO none 0 0)]++([]++ [])):=H8a.as kr;refine zO kr (fun mz ρ ww=> ∃(i:Nat) (r:Fe) (q:Qc) (cb:Nat) (M:List X3) (Tb Tk:Qb),kn-i=mz/\FrR fS w.heap.size w p i r/\i+r.len=n/\r.all fS.ok/\yo (ks.drop i) r=true/\yl iS 58 q i cb Tb M/\AllIn Tk M/\(toFo M).app (yF r 40 (kfL ks) i)=yF l 40 (kfL ks) 0/\St w.heap.size w ww ([(bk,.cells curk 9),((gs5 1).b,xlO q i cb)]++(Tb++Tk))/\Is [(1,.slice p n c),(8,Qe (gs5 1).b),(25,Qf bk kn kc),(26,iN kn),(27,iN i)] ρ) (kn-0) ⟨0,l,none,0,[],[],[],rfl,hF.start,by omega,hok,hfit.1,.inl ⟨rfl,rfl,rfl,rfl,rfl⟩,(fun _ h=>nomatch h),rfl,H8,zl⟩ ?_;rw[<-hb8];clear H0 H1 H2 H3 H4 H5 H6 H7 H8 H8a hb8;rintro _ _ w8 ⟨i,r,q,cb,M,Tb,Tk,rfl,hR,hN,hro,hfi,hrow,hAll,hM,H9,_,rfl⟩;by_cases hi:i<kn
  ·have hik:i<ks.length:=by omega
   have hin:i<n:=by omega
   have hcell:curk[0+i*1]? =some (.string ks[i]):=hrk.rowAt.cell (Qr hik) 0 (by decide);refine rS [itT ((i:Int)<(kn:Int))] H9 kr fun gs9 w9 H10=>za kr<|zh kr kr<|zj kr<|wW<|za kr<|zm 1 kr<|rS [.v,itX 25 27 23 9 1 16 bk 0 kn kc i rfl,.ls 0 (C:=curk) (off:=0+i*1) (v:=.string ks[i]) hcell,.v,.v] H10 kr fun gs10 w10 H11a=>?_;have H11:St w.heap.size w w10 ([(bk,.cells curk 9),(b8,xlO q i cb)]++(Tb++Tk)):=H11a.as kr;obtain⟨⟨m1,s1⟩,k1,r1,b1,off1,C1,T1,fz1,p1,n1,c1,rfl,hp1,hb1,hh1,hs1,hx1,hz1,hk1,hR1,hN1⟩:=FrR.open hR hN hin;have hdr:ks.drop i=ks[i]::ks.drop (i+1):=List.drop_eq_getElem_cons hik;rw[hdr]at hfi;simp only[yo,Qu]at hfi;have hkd:=hK.kd _ (List.getElem_mem hik);have hcall:=zp6 ks[i] m1 s1 p1 n1 c1 k1 hkd hz1.1 hfi.1;refine D2.g_draw0 [0,1,2,3,4,5,6,7,8,9,10,11] [(some 32,fun _=>.pointer (some ⟨b8,2,none⟩)),(some 33,fun _=>.slice q i cb),(some 34,fun _=>.string ks[i]),(some 35,fun _=>.slice p n c),(some 36,fun _=>iN i),(some 37,fun _=>.pointer (some ⟨b1,off1+i*3,none⟩)),(some 38,fun _=>.agg #[.int .u64 (m1:Int),.string s1,.slice p1 n1 c1]),(some 39,fun y=>itV (Yg (yb (by_ ks[i] 0)) (zX (by_ ks[i] 0) (m1,s1)) (zI (by_ ks[i] 0) (kdB ks[i]) k1) y)),(some 40,fun y=>Qf y.b 1 1),(some 41,fun y=>Qf y.b (i+1) y.cap),(some 42,fun _=>.pointer (some ⟨b8,2,none⟩)),(none,fun _=>undef)]
    (D2.chn [7,8,9,11] fun j g ww=>match j with
     | 0=>St w.heap.size w ww ([(bk,.cells curk 9),(b8,xlO q i cb)]++(Tb++Tk))
     | 1=> ∃T2,SlIn T2 (pG (g 7)) (zI (by_ ks[i] 0) (kdB ks[i]) k1).len (zI (by_ ks[i] 0) (kdB ks[i]) k1)/\St w.heap.size w ww ([(bk,.cells curk 9),(b8,xlO q i cb)]++(Tb++(Tk++T2)))
     | 2=> ∃T2,SlIn T2 (pG (g 7)) (zI (by_ ks[i] 0) (kdB ks[i]) k1).len (zI (by_ ks[i] 0) (kdB ks[i]) k1)/\St w.heap.size w ww ([(bk,.cells curk 9),(b8,xlO q i cb)]++(((g 8).b,kP [(Yg (yb (by_ ks[i] 0)) (zX (by_ ks[i] 0) (m1,s1)) (zI (by_ ks[i] 0) (kdB ks[i]) k1) (g 7))])::(Tb++(Tk++T2))))
     | 3=> ∃T2,SlIn T2 (pG (g 7)) (zI (by_ ks[i] 0) (kdB ks[i]) k1).len (zI (by_ ks[i] 0) (kdB ks[i]) k1)/\St w.heap.size w ww ([(bk,.cells curk 9),(b8,xlO q i cb)]++(((g 9).b,.cells (g 9).cur 58)::(Tk++T2)))/\Rw 3 (g 9).cur (g 9).cap (i+1) (cellsF iS (M++ [(Yg (yb (by_ ks[i] 0)) (zX (by_ ks[i] 0) (m1,s1)) (zI (by_ ks[i] 0) (kdB ks[i]) k1) (g 7))]))
     | _=> ∃T2,SlIn T2 (pG (g 7)) (zI (by_ ks[i] 0) (kdB ks[i]) k1).len (zI (by_ ks[i] 0) (kdB ks[i]) k1)/\St w.heap.size w ww ([(bk,.cells curk 9),(b8,xlO (some ⟨(g 9).b,0,none⟩) (i+1) (g 9).cap)]++(((g 9).b,.cells (g 9).cur 58)::(Tk++T2)))/\Rw 3 (g 9).cur (g 9).cap (i+1) (cellsF iS (M++ [(Yg (yb (by_ ks[i] 0)) (zX (by_ ks[i] 0) (m1,s1)) (zI (by_ ks[i] 0) (kdB ks[i]) k1) (g 7))])))
    kr kr kr H11.drew ⟨?_,?_,?_,?_,?_,?_,?_,?_,?_,?_,?_,?_,trivial⟩ ?_
   ·exact D2.gv_vala
   ·exact D2.gv_ld (fun _ _ _ h=>h) 47 (.tmp 32) (fun _=>b8) 2 #[.bool true,.string emB,.slice q i cb] 58 (0,0) (fun g=>by kernel_rfl) (fun g=>by kernel_rfl) (fun L g w hN hp=>hp.getN 2 9 rfl (hN.post 9 kr) fun j hj h=>by
     match j,hj,h with
     | 0,_,h=>exact St.get h 1 kr
     | 1,_,h=>exact h.elim fun T h=>St.get h.2 1 kr
     | 2,_,h=>exact h.elim fun T h=>St.get h.2 1 kr
     | j+3,hj,_=>exact absurd hj (by omega)) kr kr
   ·exact D2.gv_vala
   ·exact D2.gv_vala
   ·exact D2.gv_vala
   ·exact D2.gv_op (fun _ _ _ h=>h) (.indexAddr 85 (.tmp 35) (.tmp 36)) (fun g=>by kernel_rfl) (fun g o w ho=>qX (kd:=.i64) (t:=85) (e:=89) (K:=3) (bytes:=48) kr (x:=(.tmp 35)) (y:=(.tmp 36)) b1 off1 n c i hp1 ho kr kr hin w)
   ·exact D2.gv_opW (fun _ _ _ h=>h) (.load 89 (.tmp 37)) (fun g=>by kernel_rfl) (fun L g o ww hN hp ho=>zhx (n:=3) kr (zhu hh1 ((fun hp=>hp.get fun j hj h=>by
   match j,h with
   | 0,h=>exact h.below
   | 1,h=>exact h.elim fun T h=>h.2.below
   | 2,h=>exact h.elim fun T h=>h.2.below
   | 3,h=>exact h.elim fun T h=>h.2.1.below
   | _+4,h=>exact h.elim fun T h=>h.2.1.below) hp)) hs1 hx1 ho kr)
   ·refine D2.gv_chn 7 0 (fun L hN=>by
   have e7:=hN.1;have e8:=hN.post 8 kr;have e9:=hN.fwd e8 (show D2.edge _ 8 9=true by kernel_rfl);have e11:=hN.fwd e9 (show D2.edge _ 9 11=true by kernel_rfl)
   exact⟨by (simp[D2.stg,e7,e8,e9,e11])<;>rfl,by (simp[D2.stg,D2.put1,e7,e8,e9,e11])<;>rfl⟩) fun g ww hq=>?_
    exact D2.run_ft hcall (hk1.call hq.below) kr fun v T2 w' hok hT2=>by
     obtain⟨y,rfl,hsl⟩:=hok;exact⟨y,rfl,T2,hsl,(St.addAll hq hT2).perm (znl [(bk,.cells curk 9),(b8,xlO q i cb)] Tb Tk T2)⟩
   ·refine D2.gv_chn 8 1 (fun L hN=>by
   have e8:=hN.1;have e7:=hN.bef 7 kr;have e9:=hN.post 9 kr;have e11:=hN.fwd e9 (show D2.edge _ 9 11=true by kernel_rfl)
   exact⟨by (simp[D2.stg,e7,e8,e9,e11])<;>rfl,by (simp[D2.stg,D2.put1,e7,e8,e9,e11])<;>rfl⟩) fun g ww hq=>?_
    obtain⟨T2,hsl,hS⟩:=hq;exact D2.run_new (F:=fun b=>Qf b 1 1) (ob:=kP [(Yg (yb (by_ ks[i] 0)) (zX (by_ ks[i] 0) (m1,s1)) (zI (by_ ks[i] 0) (kdB ks[i]) k1) (g 7))]) kr ⟨{ b:=ww.heap.size },rfl,T2,hsl,(St.alloc hS (kP [(Yg (yb (by_ ks[i] 0)) (zX (by_ ks[i] 0) (m1,s1)) (zI (by_ ks[i] 0) (kdB ks[i]) k1) (g 7))])).perm (Rl (l₁:=[(bk,.cells curk 9),(b8,xlO q i cb)]))⟩
   ·refine D2.gv_chn 9 2 (fun L hN=>by
   have e9:=hN.1;have e8:=hN.bef 8 kr;have e7:=hN.back e8 (show D2.edge _ 7 8=true by kernel_rfl);have e11:=hN.post 11 kr
   exact⟨by (simp[D2.stg,e7,e8,e9,e11])<;>rfl,by (simp[D2.stg,D2.put1,e7,e8,e9,e11])<;>rfl⟩) fun g ww hq=>?_
    obtain⟨T2,hsl,hS⟩:=hq;refine D2.run_of (op:=ym 47 (.tmp 33) (.tmp 40)) kr fun o ho=>?_;obtain⟨b',cap',cur',w',hrun,HS',hr'⟩:=zd3 (S:=iS) (bx:=(g 8).b) (M0:=M) (M:=[(Yg (yb (by_ ks[i] 0)) (zX (by_ ks[i] 0) (m1,s1)) (zI (by_ ks[i] 0) (kdB ks[i]) k1) (g 7))]) (row:=Tb) (Z:=[(bk,.cells curk 9),(b8,xlO q i cb)]++(Tk++T2)) (n:=i) (c:=cb) (p:=q) (m:=1) (mc:=1) (hS.perm (zd5 ((g 8).b,kP [(Yg (yb (by_ ks[i] 0)) (zX (by_ ks[i] 0) (m1,s1)) (zI (by_ ks[i] 0) (kdB ks[i]) k1) (g 7))]) Tb [(bk,.cells curk 9),(b8,xlO q i cb)] (Tk++T2))) hrow (t:=47) (bytes:=48) kr ho kr kr rfl (by decide) (by omega) (by unfold maxLen;omega);exact⟨_,w',hrun,{ b:=b',cap:=cap',cur:=cur' },rfl,T2,hsl,HS'.perm (Rl (l₁:=[(bk,.cells curk 9),(b8,xlO q i cb)])),hr'⟩
   ·exact D2.gv_vala
   ·refine D2.gv_chn 11 3 (fun L hN=>by
   have e11:=hN.1;have e9:=hN.bef 9 kr;have e8:=hN.back e9 (show D2.edge _ 8 9=true by kernel_rfl);have e7:=hN.back e8 (show D2.edge _ 7 8=true by kernel_rfl)
   exact⟨by (simp[D2.stg,e7,e8,e9,e11])<;>rfl,by (simp[D2.stg,D2.put1,e7,e8,e9,e11])<;>rfl⟩) fun g ww hq=>?_
    obtain⟨T2,hsl,hS,hr⟩:=hq;exact zd4 (t:=47) (x:=.tmp 42) (y:=.tmp 41) (T:=58) (b:=b8) (q:=q) (n:=i) (c:=cb) (q':=Qg (g 9).b) (n':=i+1) (c':=(g 9).cap) kr kr kr kr (St.get hS 1 kr) ⟨g 11,rfl,T2,hsl,St.store (C:=#[.bool true,.string emB,.slice q i cb]) (T:=58) hS 1 kr,hr⟩
   ·intro L1 g w12 hall hp;have hq:=hp.fin (fun k hk=>hall k (by simp at hk;rcases hk with rfl | rfl | rfl | rfl<;>exact Qp kr));obtain⟨T2,hsl,hS,hr⟩:=hq;refine wW<|rL [itI i 1,.v] hS kr fun gs13 w13 H14=>?_;have H15:St w.heap.size w w13 ([(bk,.cells curk 9),(b8,xlO (Qg (g 9).b) (i+1) (g 9).cap)]++([((g 9).b,.cells (g 9).cur 58)]++(Tk++T2))):=H14.as kr;show ∃m,_/\_;refine⟨_,(by omega),i+1,r1,Qg (g 9).b,(g 9).cap,(M++ [(Yg (yb (by_ ks[i] 0)) (zX (by_ ks[i] 0) (m1,s1)) (zI (by_ ks[i] 0) (kdB ks[i]) k1) (g 7))]),[((g 9).b,.cells (g 9).cur 58)],Tk++T2,rfl,hR1,hN1,hro.2.2,hfi.2,.inr ⟨_,_,rfl,rfl,hr⟩,?_,?_,H15,zl⟩
    ·refine zhw (zhv hAll fun e he=>Rd _ he) (hsl.mono fun e he=>QZ _ he) ?_;exact zb6 hz1.2
    ·rw[zb5,<-hM,jm _ _ _ _ hik]
  ·refine rS [itF ((i:Int)<(kn:Int))] H9 kr fun gs9 w9 H10a=>za kr<|zi kr kr<|zE 0 kr<|wW ?_;have h0:r=.nil:=Fr.len_zero (by omega);subst h0;have hMl:=hrow.len;rw[show yF .nil 40 (kfL ks) i=.nil from rfl,Fo.app_nil]at hM;obtain⟨y,hy,hsl⟩:=hrow.gh hAll (by omega);rw[hM]at hy hsl;have H10:St w.heap.size w w9 ([(bk,.cells curk 9),(b8,xlO q i cb)]++(Tb++Tk)):=H10a.as kr;refine zd [0,1,2,3,4,5] kr kr<|rp [.l 1] H10 kr fun gs10 w10 H11a=>wX [1,2,3,4,5] ?_;have H11:St w.heap.size w w10 ([(bk,.cells curk 9),(b8,xlO q i cb)]++(Tb++Tk)):=H11a.as kr;obtain⟨e1,e2,e3⟩:q=pG y/\i=(yF l 40 (kfL ks) 0).len/\cb=y.cap:=by injection hy with a b c;exact⟨a,b,c⟩
   refine yP H11 (some 45) 91 #[.agg #[.bool true,.string emB,.slice q i cb]] _ _ (zp1 true emB q i cb (yF l 40 (kfL ks) 0) (QU _)) (by rw[e1,e2];exact hsl.at H11 fun e he=>QZ _ he) ?_;intro w11 H12;refine rp [.v,.v,.v,.v] H12 kr fun gs11 w12 H13=>wX []<|zb ?_;exact rR [.tmp 4,.tmp 5] [] (jl (zC true emB (yF l 40 (kfL ks) 0).len (yF l 40 (kfL ks) 0))) H13 kr
 ·rw[if_neg hfit];have hno:(decide (l.cnt<=1000)&&yo ks l)=false:=by
   rw[Bool.eq_false_iff];intro h;rw[Qu,decide_eq_true_iff]at h;exact hfit ⟨h.2,h.1⟩
  rw[hno]at hfits;refine rS [.v,.v,.v,.v,.v,.cp (pre:=fun w=>SlR fS w.heap.size w p n l) hfits [] (fun w hb hd=>hF.call hb),.v,.v] H5 kr fun gs4 w5 H6=>zh kr kr<|rS [.v,.v] H6 kr fun gs5 w6 H7=>?_;exact rR [.tmp 4,.tmp 5] [] (jl (emB,1)) H7 kr
def eS:Fl Fel where
 K:=3
 cs x:=x.cs fS
 pos:=by decide
 len x:=x.cs_len
 one x:=x.cs_one
theorem ziU: ∀L:List Fel,cellsF eS L=zU fS L
 | []=>rfl
 | x::r=>by
  show x.cs fS++cellsF eS r=_;rw[ziU r];rfl
abbrev zaT (L:List Fel):Obj:=.cells (cellsF eS L).toArray 89
theorem yl.toE {p:Qc}{n c:Nat}{T:Qb}{M:List Fel}(h:yl eS 89 p n c T M):RowE fS 89 p n c T M:=by
 rcases h with h|⟨b,cur,e1,e2,e3⟩
 ·exact .inl h
 ·exact .inr ⟨b,cur,e1,e2,by rw[<-ziU];exact e3⟩
def zcI (x:Nat×Qa)(k:Fe)(v:Value)(T:Qb):Prop:=∃y:Gh,v=fld x.1 x.2 (pG y) k.len y.cap/\RIn fS T (pG y) k.len k
theorem zp7 (m:Nat)(s:Qa):zcI (m,s) .nil (fld m s none 0 0) []:=⟨{ cap:=0 },rfl,rfl,QU _,.inl rfl⟩
theorem yl.ghE {p:Qc}{n c:Nat}{T Tk:Qb}{M:List Fel}(h:yl eS 89 p n c T M)(hA:AllE fS Tk M)(hn:n<=1000000):∃y:Gh,U5 p n c=.slice (pG y) (yE M).len y.cap/\RIn fS (T++Tk) (pG y) (yE M).len (yE M):=by
 have hl:=h.len;obtain⟨y,hy,hr⟩:=zfV h;obtain⟨q1,q2,q3⟩:p=pG y/\n=y.n/\c=y.cap:=by injection hy with a b c;exact⟨a,b,c⟩
 have hn2:y.n=(yE M).len:=by rw[zdf,<-q2,hl]
 have h9:=hr.toE.rIn (by decide) hA (show y.n<=fS.mx from RZ (RZ (Nat.le_of_eq q2.symm) hn) (by decide));rw[hn2]at h9;exact⟨y,by rw[hy,hn2],h9⟩
theorem zp8 {P:Program}{ops:Array Oper}{k:Nat}{ρ:Env}{w:World}{S:Value->World->Prop}{t:TypeId}{x y:Operand}{b:Nat}{q:Qc}{n c:Nat}{q':Qc}{n' c':Nat}{T:TypeId}(h:opk ops k ρ=some (none,true,.store t x y))(hx:ev ρ x=.pointer (some ⟨b,2,none⟩))(hy:ev ρ y=.slice q' n' c')(hi:(P.info? t).map (·.size)=some 1)
 (hh:w.heap[b]? =some (.cells #[wZ,.string emB,.slice q n c] T (0,0))) (hS:S undef (w.setRow b #[wZ,.string emB,.slice q' n' c'])):∃o,ops[k]? =some o/\o.dst=none/\Region.wanted o (zS ops ρ)=true/\D2.Runs P S ((execOp (ev ρ) o).run P w):=
 D2.run_sto (v:=.slice q' n' c') (C':=#[wZ,.string emB,.slice q' n' c']) h hx hy hi kr hh (Qp kr) kr hS
theorem zp9 {g:Nat}(hg:yD g=true)(hn:g≠110)(l:Bool)(s:Qa)(n:Nat):yg g l s n=0/\ye g s=s:=by
 have:=uO hg;unfold yg ye;rw[if_neg hn,if_neg (by rw[this];simp[hn])];exact⟨rfl,rfl⟩
theorem ziV (u:Qa)(l:Bool)(s:Qa)(p:Qc)(n c:Nat)(k:Fo)(hz:0<u.size)(hu:yD (by_ u 0)=true)(hs:s.size<=0x800000000000):FnP Tryz.prog 83 #[.string u,itm l s p n c] (fun w=>zq w.heap.size w p n k) (fld (yg (by_ u 0) l s n) (ye (by_ u 0) s) none 0 0):=by
 refine zR [.cell 4 89] 67 Tryz.func83 fun w hP=>rS [.b,.a] (St.start w) kr fun gs1 w1 H1=>rS [.l 0,.cp (pre:=fun w=>zq w.heap.size w p n k) (ziR l s p n c k hs) [] (fun w hb hd=>hP.call hb),.v,.v,.v,.v,.v] H1 kr fun gs2 w2 H2=>za kr ?_;by_cases hc:by_ u 0=110
 ·have e:yg (by_ u 0) l s n=(jj l s n).1/\ye (by_ u 0) s=emB:=by rw[hc];exact⟨rfl,rfl⟩
  rw[e.1,e.2];refine rS [.v,.oe (ins:=[((.tmp 17),.string u)]) (v:=.int .u8 ((by_ u 0:Nat):Int)) (v':=.int .u8 110) (fun ρ o w ho hi2=>yy (t:=9) (kd:=.i64) kr (x:=(.tmp 17)) (y:=.const (.int .i64 0)) u 0 ho hi2.1 rfl hz w) (by rw[hc];rfl),.v] H2 kr fun gs3 w3 H3=>zh kr kr<|rS [.v,.v,.s 1] H3 kr fun gs4 w4 H4=>?_;exact rR [.cell 4 89] [1] (fld (jj l s n).1 emB none 0 0) H4 kr
 ·have h40:by_ u 0≠40/\by_ u 0≠42:=by rw[xy]at hu;omega
  obtain⟨e1,e2⟩:=zp9 hu hc l s n;rw[e1,e2];refine rS [.v,.o (ins:=[((.tmp 17),.string u)]) (v:=.int .u8 ((by_ u 0:Nat):Int)) (fun ρ o w ho hi2=>yy (t:=9) (kd:=.i64) kr (x:=(.tmp 17)) (y:=.const (.int .i64 0)) u 0 ho hi2.1 rfl hz w),itD ((by_ u 0:Nat):Int) 110] H2 kr fun gs3 w3 H3=>zi kr kr<|zj kr<|wW<|rS [.v,.l 0,.v,.a,.s 2] H3 kr fun gs4 w4 H4=>za kr<|rS [.v,.o (ins:=[((.tmp 25),.string u)]) (v:=.int .u8 ((by_ u 0:Nat):Int)) (fun ρ o w ho hi2=>yy (t:=9) (kd:=.i64) kr (x:=(.tmp 25)) (y:=.const (.int .i64 0)) u 0 ho hi2.1 rfl hz w),itD ((by_ u 0:Nat):Int) 40,.v,.v,.o (ins:=[((.tmp 29),.string u)]) (v:=.int .u8 ((by_ u 0:Nat):Int)) (fun ρ o w ho hi2=>yy (t:=9) (kd:=.i64) kr (x:=(.tmp 29)) (y:=.const (.int .i64 0)) u 0 ho hi2.1 rfl hz w),itD ((by_ u 0:Nat):Int) 42,.v] H4 kr fun gs5 w5 H5=>zi kr kr<|zj kr<|wW<|rS [.l 2,.s 1] H5 kr fun gs6 w6 H6=>?_;exact rR [.cell 4 89] [1] (fld 0 s none 0 0) H6 kr
theorem zqa {c:Nat}(hc:yD c=true)(l:Bool)(s:Qa)(k r:Fo)(i:Nat):yN (.cons l s k r) 42 (.cons c .nil .nil) i=.cons (yg c l s k.len,ye c s) .nil (yN r 42 (.cons c .nil .nil) (i+1)):=by
 rw[zbX,zaJ];show Fr.cons _ (ys c .nil k) _=_;unfold ys;rw[uO hc];rfl
theorem zqb (u:Qa)(l:Bool)(s:Qa)(p:Qc)(n c:Nat)(k:Fo)(hu:u.size=2)(hc:by_ u 0=42)(hl:yD (by_ u 1)=true)(hs:s.size<=0x800000000000)(hcn:n<=1000000):FnT Tryz.prog 83 #[.string u,itm l s p n c] (fun w=>zq w.heap.size w p n k) (zcI (0,emB) (yN k 42 (.cons (by_ u 1) .nil .nil) 0)):=by
 have hz:0<u.size:=by omega
 have hq1:(u.extract 1 u.size).size=1:=by rw[Uq];omega
 have hq2:by_ (u.extract 1 u.size) 0=by_ u 1:=by
  unfold by_;rw[yT,Qy (by rw[zu];omega)];simp[QO]
 refine qz [.cell 4 89] 67 Tryz.func83 fun w hP=>?_;have H0:=St.start w;refine rS [.b,.a] H0 kr fun gs1 w1 H1=>rS [.l 0,.cp (pre:=fun w=>zq w.heap.size w p n k) (ziR l s p n c k hs) [] (fun w hb hd=>hP.call hb),.v,.v,.v,.v,.v] H1 kr fun gs2 w2 H2=>za kr<|rS [.v,.oe (ins:=[((.tmp 17),.string u)]) (v:=.int .u8 ((by_ u 0:Nat):Int)) (v':=.int .u8 42) (fun ρ o w ho hi2=>yy (t:=9) (kd:=.i64) kr (x:=(.tmp 17)) (y:=.const (.int .i64 0)) u 0 ho hi2.1 rfl hz w) (by rw[hc];rfl),.v] H2 kr fun gs3 w3 H3=>zi kr kr<|zj kr<|wW<|rS [.v,.l 0,.v,.a,.s 2] H3 kr fun gs4 w4 H4=>za kr<|rS [.v,.oe (ins:=[((.tmp 25),.string u)]) (v:=.int .u8 ((by_ u 0:Nat):Int)) (v':=.int .u8 42) (fun ρ o w ho hi2=>yy (t:=9) (kd:=.i64) kr (x:=(.tmp 25)) (y:=.const (.int .i64 0)) u 0 ho hi2.1 rfl hz w) (by rw[hc];rfl),.v,.v,.v,.oe (ins:=[((.tmp 29),.string u)]) (v:=.int .u8 ((by_ u 0:Nat):Int)) (v':=.int .u8 42) (fun ρ o w ho hi2=>yy (t:=9) (kd:=.i64) kr (x:=(.tmp 29)) (y:=.const (.int .i64 0)) u 0 ho hi2.1 rfl hz w) (by rw[hc];rfl),.v,.v] H4 kr fun gs5 w5 H5=>zh kr kr<|rS [.v,.s 2] H5 kr fun gs6 w6 H6=>rS [.v,.l 0,.v,.v] H6 kr fun gs7 w7 H7a=>zm 0 kr ?_;have H7:St w.heap.size w w7 ([((gs1 0).b,ixO l s p n c),((gs1 1).b,fZ (.slice none 0 0)),((gs4 3).b,fZ (.slice none 0 0))]++ []):=H7a.as kr;refine zO kr (fun mz ρ ww=> ∃(i:Nat) (r:Fo) (q:Qc) (cb:Nat) (M:List Fel) (Tb:Qb),n-i=mz/\FoR w.heap.size w p i r/\i+r.len=n/\yl eS 89 q i cb Tb M/\AllE fS [] M/\(yE M).app (yN r 42 (.cons (by_ u 1) .nil .nil) i)=yN k 42 (.cons (by_ u 1) .nil .nil) 0/\St w.heap.size w ww ([((gs1 0).b,ixO l s p n c),((gs1 1).b,fZ (.slice none 0 0)),((gs4 3).b,fZ (.slice q i cb))]++Tb)/\Is [(0,.string u),(4,Qe (gs1 1).b),(7,Qe (gs4 3).b),(35,.slice p n c),(36,iN n),(37,iN i)] ρ) (n-0) ⟨0,k,none,0,[],[],rfl,hP.start,by have:=hP.1;omega,.inl ⟨rfl,rfl,rfl,rfl,rfl⟩,(fun _ h=>nomatch h),rfl,H7,zl⟩ ?_;clear H0 H1 H2 H3 H4 H5 H6 H7 H7a;rintro _ _ w8 ⟨i,r,q,cb,M,Tb,rfl,hR,hN,hrow,hAll,hM,H8,_,rfl⟩;by_cases hi:i<n
 ·refine rS [itT ((i:Int)<(n:Int))] H8 kr fun gs9 w9 H9=>za kr<|zh kr kr<|zj kr<|wW<|za kr<|zm 1 kr ?_;obtain⟨l1,s1,k1,r1,b1,off1,C1,T1,fz1,p1,n1,c1,rfl,hp1,hb1,hh1,hs1,hx1,hz1,hk1,hR1,hN1⟩:=FoR.open hR hN hi;have hk1n:=hk1.1;refine zd [0,1,2,3,4,5] kr kr<|rp [.v,itX 35 37 47 58 3 48 b1 off1 n c i hp1,.fp (off:=off1+i*3) (n:=3) (W:=#[.bool l1,.string s1,.slice p1 n1 c1]) hh1 hb1 hs1 hx1] H9 kr fun gs10 w10 H10a=>wX [3,4,5] ?_;have H10:St w.heap.size w w10 ([((gs1 0).b,ixO l s p n c),((gs1 1).b,fZ (.slice none 0 0)),((gs4 3).b,fZ (.slice q i cb))]++Tb):=H10a.as kr;refine zA H10 (some 9) 58 (.agg #[.bool false,.string emB,.slice none 0 0]) kr kr kr ?_;intro b9 w11 H11;refine rp [.v,.s 0] H11 kr fun gs11 w12 H12=>wX []<|zb<|wW<|rS [.v,.o (ins:=[((.tmp 42),.string u)]) (v:=.string (u.extract 1 u.size)) (fun ρ o w ho hi2=>uq (t:=9) (kz:=.i64) kr (x:=(.tmp 42)) (z:=.const (.int .i64 1)) u 1 ho hi2.1 rfl (by omega) w),.v] H12 kr fun gs12 w13 H13=>za kr<|rS [.v,.oe (ins:=[((.tmp 44),.string u)]) (v:=.int .u8 ((by_ u 0:Nat):Int)) (v':=.int .u8 42) (fun ρ o w ho hi2=>yy (t:=9) (kd:=.i64) kr (x:=(.tmp 44)) (y:=.const (.int .i64 0)) u 0 ho hi2.1 rfl hz w) (by rw[hc];rfl),.v] H13 kr fun gs13 w14 H14=>zi kr kr<|zj kr<|wW ?_;have H15:St w.heap.size w w14 ([(b9,ixO l1 s1 p1 n1 c1),((gs1 0).b,ixO l s p n c),((gs1 1).b,fZ (.slice none 0 0)),((gs4 3).b,fZ (.slice q i cb))]++Tb):=H14.as kr;have hcall:=ziV (u.extract 1 u.size) l1 s1 p1 n1 c1 k1 (by omega) (by rw[hq2];exact hl) hz1;rw[hq2]at hcall;refine D2.g_draw0 [0,1,2,3,4,5,6,7,8] [(some 57,fun _=>.pointer (some ⟨(gs4 3).b,2,none⟩)),(some 58,fun _=>.slice q i cb),(some 59,fun _=>.string (u.extract 1 u.size)),(some 60,fun _=>itm l1 s1 p1 n1 c1),(some 61,fun _=>fld (yg (by_ u 1) l1 s1 n1) (ye (by_ u 1) s1) none 0 0),(some 62,fun y=>Qf y.b 1 1),(some 63,fun y=>Qf y.b (i+1) y.cap),(some 64,fun _=>.pointer (some ⟨(gs4 3).b,2,none⟩)),(none,fun _=>undef)]
   (D2.chn [5,6,8] fun j g ww=>match j with
    | 0=>St w.heap.size w ww ([(b9,ixO l1 s1 p1 n1 c1),((gs1 0).b,ixO l s p n c),((gs1 1).b,fZ (.slice none 0 0)),((gs4 3).b,fZ (.slice q i cb))]++Tb)
    | 1=>St w.heap.size w ww ([(b9,ixO l1 s1 p1 n1 c1),((gs1 0).b,ixO l s p n c),((gs1 1).b,fZ (.slice none 0 0)),((gs4 3).b,fZ (.slice q i cb))]++(((g 5).b,zaT [(⟨(yg (by_ u 1) l1 s1 n1,ye (by_ u 1) s1),none,0,0,.nil⟩:Fel)])::Tb))
    | 2=>St w.heap.size w ww ([(b9,ixO l1 s1 p1 n1 c1),((gs1 0).b,ixO l s p n c),((gs1 1).b,fZ (.slice none 0 0)),((gs4 3).b,fZ (.slice q i cb))]++ [((g 6).b,.cells (g 6).cur 89)])/\Rw 3 (g 6).cur (g 6).cap (i+1) (cellsF eS (M++ [(⟨(yg (by_ u 1) l1 s1 n1,ye (by_ u 1) s1),none,0,0,.nil⟩:Fel)]))
    | _=>St w.heap.size w ww ([(b9,ixO l1 s1 p1 n1 c1),((gs1 0).b,ixO l s p n c),((gs1 1).b,fZ (.slice none 0 0)),((gs4 3).b,fZ (.slice (some ⟨(g 6).b,0,none⟩) (i+1) (g 6).cap))]++ [((g 6).b,.cells (g 6).cur 89)])/\Rw 3 (g 6).cur (g 6).cap (i+1) (cellsF eS (M++ [(⟨(yg (by_ u 1) l1 s1 n1,ye (by_ u 1) s1),none,0,0,.nil⟩:Fel)])))
   kr kr kr H15.drew ⟨?_,?_,?_,?_,?_,?_,?_,?_,?_,trivial⟩ ?_
  ·exact D2.gv_vala
  ·exact D2.gv_ld (fun _ _ _ h=>h) 85 (.tmp 57) (fun _=>(gs4 3).b) 2 #[wZ,.string emB,.slice q i cb] 89 (0,0) (fun g=>by kernel_rfl) (fun g=>by kernel_rfl) (fun L g w hN hp=>hp.getN 1 6 rfl (hN.post 6 kr) fun j hj h=>by
    match j,hj,h with
    | 0,_,h=>exact St.get h 3 kr
    | 1,_,h=>exact St.get h 3 kr
    | j+2,hj,_=>exact absurd hj (by omega)) kr kr
  ·exact D2.gv_vala
  ·exact D2.gv_ld (fun _ _ _ h=>h) 58 (.tmp 9) (fun _=>b9) 0 #[.bool l1,.string s1,.slice p1 n1 c1] 58 (0,0) (fun g=>by kernel_rfl) (fun g=>by kernel_rfl) (fun L g w hN hp=>hp.get fun j hj h=>by
   match j,h with
   | 0,h=>exact St.get h 0 kr
   | 1,h=>exact St.get h 0 kr
   | 2,h=>exact St.get h.1 0 kr
   | _+3,h=>exact St.get h.1 0 kr) kr kr
  ·exact D2.gv_cpW (fun _ _ _ h=>h) 83 #[.string (u.extract 1 u.size),itm l1 s1 p1 n1 c1] hcall (fun L g ww hN hp=>hk1.call ((fun hp=>hp.get fun j hj h=>by
   match j,h with
   | 0,h=>exact h.below
   | 1,h=>exact h.below
   | 2,h=>exact h.1.below
   | _+3,h=>exact h.1.below) hp)) (fun L g w w' hN hp hb=>by
   revert hp;unfold D2.chn
   generalize D2.stg [5,6,8] L=j;intro hp
   match j,hp with
   | 0,h=>exact h.call hb
   | 1,h=>exact h.call hb
   | 2,h=>exact⟨h.1.call hb,h.2⟩
   | _+3,h=>exact⟨h.1.call hb,h.2⟩) (fun g w=>by kernel_rfl)
  ·refine D2.gv_chn 5 0 (fun L hN=>by
   have e5:=hN.1;have e6:=hN.post 6 kr;have e8:=hN.fwd e6 (show D2.edge _ 6 8=true by kernel_rfl)
   exact⟨by (simp[D2.stg,e5,e6,e8])<;>rfl,by (simp[D2.stg,D2.put1,e5,e6,e8])<;>rfl⟩) fun g ww hq=>?_
   exact D2.run_new (F:=fun b=>Qf b 1 1) (ob:=zaT [(⟨(yg (by_ u 1) l1 s1 n1,ye (by_ u 1) s1),none,0,0,.nil⟩:Fel)]) kr ⟨{ b:=ww.heap.size },rfl,(St.alloc hq (zaT [(⟨(yg (by_ u 1) l1 s1 n1,ye (by_ u 1) s1),none,0,0,.nil⟩:Fel)])).perm (Rl (l₁:=[(b9,ixO l1 s1 p1 n1 c1),((gs1 0).b,ixO l s p n c),((gs1 1).b,fZ (.slice none 0 0)),((gs4 3).b,fZ (.slice q i cb))]))⟩
  ·refine D2.gv_chn 6 1 (fun L hN=>by
   have e6:=hN.1;have e5:=hN.bef 5 kr;have e8:=hN.post 8 kr
   exact⟨by (simp[D2.stg,e5,e6,e8])<;>rfl,by (simp[D2.stg,D2.put1,e5,e6,e8])<;>rfl⟩) fun g ww hq=>?_
   refine D2.run_of (op:=ym 85 (.tmp 58) (.tmp 62)) kr fun o ho=>?_;have hq2:St w.heap.size w ww ([(b9,ixO l1 s1 p1 n1 c1),((gs1 0).b,ixO l s p n c),((gs1 1).b,fZ (.slice none 0 0)),((gs4 3).b,fZ (.slice q i cb))]++(((g 5).b,zaT [(⟨(yg (by_ u 1) l1 s1 n1,ye (by_ u 1) s1),none,0,0,.nil⟩:Fel)])::(Tb++ []))):=by rw[QI];exact hq
   obtain⟨b',cap',cur',w',hrun,HS',hr'⟩:=zd3 (S:=eS) (bx:=(g 5).b) (M0:=M) (M:=[(⟨(yg (by_ u 1) l1 s1 n1,ye (by_ u 1) s1),none,0,0,.nil⟩:Fel)]) (row:=Tb) (Z:=[(b9,ixO l1 s1 p1 n1 c1),((gs1 0).b,ixO l s p n c),((gs1 1).b,fZ (.slice none 0 0)),((gs4 3).b,fZ (.slice q i cb))]++ []) (n:=i) (c:=cb) (p:=q) (m:=1) (mc:=1) (hq2.perm (zd5 ((g 5).b,zaT [(⟨(yg (by_ u 1) l1 s1 n1,ye (by_ u 1) s1),none,0,0,.nil⟩:Fel)]) Tb [(b9,ixO l1 s1 p1 n1 c1),((gs1 0).b,ixO l s p n c),((gs1 1).b,fZ (.slice none 0 0)),((gs4 3).b,fZ (.slice q i cb))] [])) hrow (t:=85) (bytes:=48) kr ho kr kr rfl (by decide) (by omega) (by unfold maxLen;omega);exact⟨_,w',hrun,{ b:=b',cap:=cap',cur:=cur' },rfl,HS'.perm (Rl (l₁:=[(b9,ixO l1 s1 p1 n1 c1),((gs1 0).b,ixO l s p n c),((gs1 1).b,fZ (.slice none 0 0)),((gs4 3).b,fZ (.slice q i cb))])),hr'⟩
  ·exact D2.gv_vala
  ·refine D2.gv_chn 8 2 (fun L hN=>by
   have e8:=hN.1;have e6:=hN.bef 6 kr;have e5:=hN.back e6 (show D2.edge _ 5 6=true by kernel_rfl)
   exact⟨by (simp[D2.stg,e5,e6,e8])<;>rfl,by (simp[D2.stg,D2.put1,e5,e6,e8])<;>rfl⟩) fun g ww hq=>?_
   obtain⟨hS,hr⟩:=hq;exact zp8 (t:=85) (x:=.tmp 64) (y:=.tmp 63) (T:=89) (b:=(gs4 3).b) (q:=q) (n:=i) (c:=cb) (q':=Qg (g 6).b) (n':=i+1) (c':=(g 6).cap) kr kr kr kr (St.get hS 3 kr) ⟨g 8,rfl,St.store (C:=#[wZ,.string emB,.slice q i cb]) (T:=89) hS 3 kr,hr⟩
  ·intro L1 g w15 hall hp;have hq:=hp.fin (fun k hk=>hall k (by simp at hk;rcases hk with rfl | rfl | rfl<;>exact Qp kr));obtain⟨hS,hr⟩:=hq;refine wW<|rL [itI i 1,.v] hS kr fun gs16 w16 H16=>?_;have H17:St w.heap.size w w16 ([(b9,ixO l1 s1 p1 n1 c1),((gs1 0).b,ixO l s p n c),((gs1 1).b,fZ (.slice none 0 0)),((gs4 3).b,fZ (Qf (g 6).b (i+1) (g 6).cap))]++ [((g 6).b,.cells (g 6).cur 89)]):=H16.as kr;show ∃m,_/\_;refine⟨_,(by omega),i+1,r1,Qg (g 6).b,(g 6).cap,(M++ [(⟨(yg (by_ u 1) l1 s1 n1,ye (by_ u 1) s1),none,0,0,.nil⟩:Fel)]),[((g 6).b,.cells (g 6).cur 89)],rfl,hR1,hN1,.inr ⟨_,_,rfl,rfl,hr⟩,?_,?_,H17.sub (Qt ..),zl⟩
   ·exact hAll.snoc (x:=(⟨(yg (by_ u 1) l1 s1 n1,ye (by_ u 1) s1),none,0,0,.nil⟩:Fel)) (RIn.none _ _) ⟨zd7 _ _ _ _,zd8 hz1⟩
   ·rw[zb9,<-hM,zqa hl,<-hk1n]
 ·refine rS [itF ((i:Int)<(n:Int))] H8 kr fun gs9 w9 H9=>za kr<|zi kr kr<|zE 0 kr<|wW ?_;obtain rfl:=FoR.done hN hi;have hin:i=n:=by simp only[Fo.len]at hN;omega
  rw[show yN .nil 42 (.cons (by_ u 1) .nil .nil) i=.nil from rfl,Fr.app_nil]at hM;obtain⟨y,hy,hsl⟩:=hrow.ghE hAll (by omega);rw[hM]at hy hsl;refine rS [.l 2,.s 1] H9 kr fun gs10 w10 H10=>?_;have H11:St w.heap.size w w10 ([((gs1 0).b,ixO l s p n c),((gs1 1).b,fZ (.slice q i cb)),((gs4 3).b,fZ (.slice q i cb))]++Tb):=H10.as kr;refine rRr [.cell 4 89] [1] (fld 0 emB q i cb) (zV w.heap.size w (zcI (0,emB) (yN k 42 (.cons (by_ u 1) .nil .nil) 0))) H11 kr ?_;rw[QI]at hsl;refine⟨Tb,⟨y,?_,hsl⟩,H11.sub (QK ..)⟩;unfold fld;rw[hy]
theorem zqc (u:Qa)(l:Bool)(s:Qa)(p:Qc)(n c:Nat)(k:Fo)(hk:kdOk u=true)(hs:s.size<=0x800000000000)(hcn:n<=1000000):FnT Tryz.prog 83 #[.string u,itm l s p n c] (fun w=>zq w.heap.size w p n k) (zcI (yg (by_ u 0) l s k.len,ye (by_ u 0) s) (ys (by_ u 0) (kdB u) k)):=fun w hP=>by
 have hn:=hP.1;rcases zbZ.1 hk with⟨h1,h2⟩ | ⟨h1,h2,h3⟩
 ·have e:ys (by_ u 0) (kdB u) k=.nil:=by unfold ys;rw[uO h2];rfl
  rw[e,<-hn];refine(ziV u l s p n c k (by omega) h2 hs w hP).mono ?_;rintro e w' ⟨rfl,hb⟩;exact⟨_,[],rfl,zp7 _ _,(St.start w).call hb⟩
 ·have eb:kdB u=(.cons (by_ u 1) .nil .nil):=by unfold kdB;rw[if_pos h2]
  rw[eb,h2];exact zqb u l s p n c k h1 h2 h3 hs hcn w hP
def fe0 (a:Qa):Fel:=⟨(0,a),none,0,0,.nil⟩
theorem zeI: ∀L:Qi,yE (L.map fe0)=lsF L
 | []=>rfl
 | a::r=>by
  show Fr.cons (0,a) .nil (yE (r.map fe0))=_;rw[zeI r];rfl
theorem zeJ {L:Qi}(h: ∀x∈L,Ql x<=0x800000000000)(T:Qb):AllE fS T (L.map fe0):=fun x hx=>by
 obtain⟨a,ha,rfl⟩:=Rk.1 hx;exact⟨RIn.none _ _,(by decide:0<0x10000000000000000),h a ha⟩
theorem ziW {p:Qc}{n c:Nat}{row T:Qb}{L:Qi}(h:yl eS 89 p n c row (L.map fe0))(hL: ∀x∈L,Ql x<=0x800000000000)(hn:n<=1000000)(hT: ∀e∈row,e∈T):RIn fS T p n (lsF L):=by
 have:=(h.toE.rIn (T:=[]) (by decide) (zeJ hL []) (by show n<=0x800000000000;omega)).mono (T':=T) (by simpa using hT)
 rwa [zeI]at this
abbrev fzO (p:Qc)(n c:Nat):Obj:=.cells #[wZ,.string em,.slice p n c] 89 (0,0)
abbrev fnO (a:Nat):Obj:=.cells #[.int .u64 (a:Int),.string em,.slice none 0 0] 89 (0,0)
theorem kg {α:Type}(A B C:List α):(C++(A++B)).Perm (A++(B++C)):=by
 rw[<-QD A B C];exact QV
def hdE (h:Hdr)(q1:Qc)(n c1:Nat)(q2:Qc)(m c2:Nat):List Fel:=
 [fe0 h.pa,⟨(h.hh,em),none,0,0,.nil⟩,fe0 h.ro,fe0 h.tx,fe0 h.pr,fe0 h.va,⟨(0,em),q1,n,c1,lsF h.vs⟩,fe0 h.vo,⟨(adN h.ad,em),none,0,0,.nil⟩,⟨(h.rd,em),none,0,0,.nil⟩,⟨(0,em),q2,m,c2,lsF (h.ss.map sgB)⟩]
theorem ziX {T:Qb}{h:Hdr}{q1:Qc}{n c1:Nat}{q2:Qc}{m c2:Nat}(o:yj h)(h1:RIn fS T q1 n (lsF h.vs))(h2:RIn fS T q2 m (lsF (h.ss.map sgB))):AllE fS T (hdE h q1 n c1 q2 m c2):=fun x hx=>by
 have z:(0:Nat)<0x10000000000000000:=by decide
 have ze:em.size<=0x800000000000:=QU _;have ha:adN h.ad<0x10000000000000000:=by unfold adN;split<;>decide
 have k1:=o.pa;have k2:=o.ro;have k3:=o.tx;have k4:=o.pr;have k5:=o.va;have k6:=o.vo;unfold hdE at hx;simp only[List.mem_cons,List.not_mem_nil,or_false]at hx;rcases hx with rfl | rfl | rfl | rfl | rfl | rfl | rfl | rfl | rfl | rfl | rfl
 ·exact⟨RIn.none _ _,z,by show h.pa.size<=_;omega⟩
 ·exact⟨RIn.none _ _,o.hh,ze⟩
 ·exact⟨RIn.none _ _,z,by show h.ro.size<=_;omega⟩
 ·exact⟨RIn.none _ _,z,by show h.tx.size<=_;omega⟩
 ·exact⟨RIn.none _ _,z,by show h.pr.size<=_;omega⟩
 ·exact⟨RIn.none _ _,z,by show h.va.size<=_;omega⟩
 ·exact⟨h1,z,ze⟩
 ·exact⟨RIn.none _ _,z,by show h.vo.size<=_;omega⟩
 ·exact⟨RIn.none _ _,ha,ze⟩
 ·exact⟨RIn.none _ _,o.rd,ze⟩
 ·exact⟨h2,z,ze⟩
theorem zqd {T:Qb}{b:Nat}{h:Hdr}{q1:Qc}{n c1:Nat}{q2:Qc}{m c2:Nat}(o:yj h)(hm:(b,Qk (zU fS (hdE h q1 n c1 q2 m c2)).toArray 89)∈T)(h1:RIn fS T q1 n (lsF h.vs))(h2:RIn fS T q2 m (lsF (h.ss.map sgB))):RIn fS T (Qg b) 11 (hdF h):=by
 have hA:=ziX (c1:=c1) (c2:=c2) o h1 h2;have hr:Rw 3 (zU fS (hdE h q1 n c1 q2 m c2)).toArray 11 11 (zU fS (hdE h q1 n c1 q2 m c2)):=⟨xY _,QH _,by decide,by rw[List.toList_toArray,Qy (by rw[xY];exact QH _)],by rw[List.size_toArray,xY];rfl⟩
 exact hr.rIn (S:=fS) (by decide) hm hA (by decide)
theorem ziY (h:Hdr)(o:yj h)(p:Qc)(n c:Nat)(q:Qc)(m k:Nat):FnP Tryz.prog 34 #[hdV h p n c q m k] (fun w=>qG w h p n q m) (.string (zY h)):=by
 refine zR [.tmp 2] 84 Tryz.func34 fun w hP=>?_;have hn:=hP.1.1;have hm:=hP.2.1;have hvl:=o.vl;have hsl:=o.sl;have H0:=St.start w;refine rS [.b,.v] H0 kr fun gs1 w1 H1=>rS [.v,.a,.s 1] H1 kr fun gs2 w2 H2=>za kr<|rS [.v,.l 0,.v,.v] H2 kr fun gs3 w3 H3=>yR 17 16 18 28 0 1 n (by omega) (fun i ρ ww=> ∃q1 cb1 Tb,yl eS 89 q1 i cb1 Tb ((h.vs.take i).map fe0)/\St w.heap.size w ww (((gs1 0).b,hdO h p n c q m k)::((gs2 1).b,fzO q1 i cb1)::Tb)/\Is [(1,Qe (gs1 0).b),(3,Qe (gs2 1).b),(15,.slice p n c),(16,iN n),(17,iN i)] ρ) (by rintro i _ ww ⟨_,_,_,_,_,_,rfl⟩;exact⟨kr,kr⟩) ⟨none,0,[],.inl ⟨rfl,rfl,rfl,rfl,rfl⟩,H3.as kr,isK⟩ ?_ ?_
 ·clear H0 H1 H2 H3;rintro i _ w4 hi ⟨q1,cb1,Tb,hrow,H4,_,rfl⟩;obtain⟨x,hx⟩:∃x,h.vs[i]? =some x:=⟨_,Qr (by omega)⟩
  obtain⟨bl,off,C,T,fz,hp,hh,hR⟩:=hP.1.row2 (by omega);have hcx:C[off+i*1]? =some (.string x):=hR.cell hx 0 (by decide);refine rS [itX 15 17 23 9 1 16 bl off n c i hp,.fs (off:=off+i*1) (v:=.string x) hh (zo hh) hcx,.v] H4 kr fun gs4 w5 H5=>yu [0,1,2,3,4,5,6,7] kr<|rp [.v,.l 1,.v,.v] H5 kr fun gs5 w6 H6=>wX [4,5,6,7] ?_;have H7:St w.heap.size w w6 (((gs1 0).b,hdO h p n c q m k)::((gs2 1).b,fzO q1 i cb1)::Tb):=H6.as kr;refine jT H7 (some 25) (fun b=>Qf b 1 1) (eS.cs (fe0 x)).toArray 89 kr kr ?_;intro bn w7 H8;have H9:=H8.perm (QM _ (QV (l₁:=Tb) (l₂:=[((gs1 0).b,hdO h p n c q m k),((gs2 1).b,fzO q1 i cb1)])));refine xL (S:=eS) (some 26) 85 89 48 (.tmp 22) (.tmp 25) H9 hrow kr kr kr kr kr (by omega) (by unfold maxLen;omega) ?_;intro b' cap' cur' w8 H10 hr';refine rp [.v,.s 2] H10 kr fun gs6 w9 H11=>wX []<|zb ?_;have H12:St w.heap.size w w9 [(b',.cells cur' 89),((gs1 0).b,hdO h p n c q m k),((gs2 1).b,fzO (Qg b') (i+1) cap')]:=H11.as kr;refine⟨kr,Qg b',cap',[(b',.cells cur' 89)],.inr ⟨b',cur',rfl,rfl,?_⟩,H12.perm (QV (l₁:=[((gs1 0).b,hdO h p n c q m k),((gs2 1).b,fzO (Qg b') (i+1) cap')]) (l₂:=[(b',.cells cur' 89)])),isK⟩;rw[yZ hx,RD];exact hr'
 ·rintro _ w4 ⟨q1,cb1,Tb,hrow,H4,_,rfl⟩;clear H0 H1 H2 H3;rw[Qy (by omega)]at hrow;refine wW<|zd [0,1,2] kr kr<|rp [.v] H4 kr fun gs4 w5 H5=>wX [1,2] ?_;have H6:St w.heap.size w w5 (((gs1 0).b,hdO h p n c q m k)::((gs2 1).b,fzO q1 n cb1)::Tb):=H5.as kr;refine zA H6 (some 6) 89 (.agg #[wZ,.string em,.slice none 0 0]) kr kr kr ?_;intro b6 w6 H7;refine rp [.s 0] H7 kr fun gs5 w7 H8=>wX []<|zb<|za kr<|rS [.v,.l 1,.v,.v] H8 kr fun gs6 w8 H9=>yR 33 32 34 45 2 3 m (by omega) (fun i ρ ww=> ∃q2 cb2 T2,yl eS 89 q2 i cb2 T2 (((h.ss.take i).map sgB).map fe0)/\St w.heap.size w ww ((b6,fzO q2 i cb2)::((gs1 0).b,hdO h p n c q m k)::((gs2 1).b,fzO q1 n cb1)::(Tb++T2))/\Is [(1,Qe (gs1 0).b),(3,Qe (gs2 1).b),(6,Qe b6),(31,.slice q m k),(32,iN m),(33,iN i)] ρ) (by rintro i _ ww ⟨_,_,_,_,_,_,rfl⟩;exact⟨kr,kr⟩) ⟨none,0,[],.inl ⟨rfl,rfl,rfl,rfl,rfl⟩,by rw[QI];exact H9.as kr,isK⟩ ?_ ?_
  ·clear H4 H5 H6 H7 H8 H9;rintro i _ w9 hi ⟨q2,cb2,T2,hrow2,H10,_,rfl⟩;obtain⟨x,hx⟩:∃x,h.ss[i]? =some x:=⟨_,Qr (by omega)⟩
   obtain⟨bl,off,C,T,fz,hp,hh,hR⟩:=hP.2.row2 (by omega);have hxo:=o.ss x (QF hx);refine zd [0,1,2,3] kr kr<|rp [itX 31 33 24 52 9 72 bl off m k i hp,.fp (off:=off+i*9) (n:=9) (W:=sgC x) hh (zo hh) (hR _ _ hx).1 (hR _ _ hx).2] H10 kr fun gs7 w10 H11=>wX [2,3] ?_;have H12:St w.heap.size w w10 ((b6,fzO q2 i cb2)::((gs1 0).b,hdO h p n c q m k)::((gs2 1).b,fzO q1 n cb1)::(Tb++T2)):=H11.as kr;refine zA H12 (some 8) 52 (.agg (sgC (0,0,0))) kr kr kr ?_;intro b8 w11 H13;refine rp [.s 0] H13 kr fun gs8 w12 H14=>wX []<|zb ?_;have H15:St w.heap.size w w12 ((b8,sgO x)::(b6,fzO q2 i cb2)::((gs1 0).b,hdO h p n c q m k)::((gs2 1).b,fzO q1 n cb1)::(Tb++T2)):=H14.as kr;have hbs:=zh8 x.1 x.2.1 hxo.1 hxo.2 x.2.2;refine xV [(1,Qe (gs1 0).b),(3,Qe (gs2 1).b),(6,Qe b6),(8,Qe b8),(31,.slice q m k),(32,iN m),(33,iN i)] kr fun ρ1=>?_;clear H10 H11 H12 H13 H14;refine D2.g_draw0 [0,1,2,3,4,5,6,7,8] [(some 37,fun _=>.pointer (some ⟨b6,2,none⟩)),(some 38,fun _=>.slice q2 i cb2),(some 39,fun _=>.agg (sgC x)),(some 40,fun _=>.string (sgB x)),(some 41,fun _=>.agg #[wZ,.string (sgB x),.slice none 0 0]),(some 42,fun y=>Qf y.b 1 1),(some 43,fun y=>Qf y.b (i+1) y.cap),(some 44,fun _=>.pointer (some ⟨b6,2,none⟩)),(none,fun _=>undef)]
    (D2.chn [5,6,8] (fun j g ww=>match j with
   | 0=>St w.heap.size w ww ((b8,sgO x)::(b6,fzO q2 i cb2)::((gs1 0).b,hdO h p n c q m k)::((gs2 1).b,fzO q1 n cb1)::(Tb++T2))
   | 1=>St w.heap.size w ww (((g 5).b,.cells (eS.cs (fe0 (sgB x))).toArray 89)::(b8,sgO x)::(b6,fzO q2 i cb2)::((gs1 0).b,hdO h p n c q m k)::((gs2 1).b,fzO q1 n cb1)::(Tb++T2))
   | 2=>Rw 3 (g 6).cur (g 6).cap (i+1) (cellsF eS (((h.ss.take i).map sgB).map fe0++ [fe0 (sgB x)]))/\St w.heap.size w ww (((g 6).b,.cells (g 6).cur 89)::(b8,sgO x)::(b6,fzO q2 i cb2)::((gs1 0).b,hdO h p n c q m k)::((gs2 1).b,fzO q1 n cb1)::Tb)
   | _=>Rw 3 (g 6).cur (g 6).cap (i+1) (cellsF eS (((h.ss.take i).map sgB).map fe0++ [fe0 (sgB x)]))/\St w.heap.size w ww (((g 6).b,.cells (g 6).cur 89)::(b8,sgO x)::(b6,fzO (some ⟨(g 6).b,0,none⟩) (i+1) (g 6).cap)::((gs1 0).b,hdO h p n c q m k)::((gs2 1).b,fzO q1 n cb1)::Tb))) kr kr kr H15.drew ⟨?_,?_,?_,?_,?_,?_,?_,?_,?_,trivial⟩ ?_
   ·exact D2.gv_vala
   ·exact D2.gv_ld (fun _ _ _ h=>h) 85 (.tmp 37) (fun _=>b6) 2 #[wZ,.string em,.slice q2 i cb2] 89 (0,0) (fun g=>by kernel_rfl) (fun g=>by kernel_rfl) (fun L1 g ww hN hp=>D2.chn.getN hp 1 6 rfl (hN.post 6 kr) fun j hj h=>by
     match j,h with
     | 0,h=>exact St.get h 1 kr
     | 1,h=>exact St.get h 2 kr) kr kr
   ·exact D2.gv_ld (fun _ _ _ h=>h) 52 (.tmp 8) (fun _=>b8) 0 (sgC x) 52 (0,0) (fun g=>by kernel_rfl) (fun g=>by kernel_rfl) (fun L1 g ww hN hp=>hp.get fun j hj h=>by
   match j,h with
   | 0,h=>exact St.get h 0 kr
   | 1,h=>exact St.get h 1 kr
   | 2,h=>exact St.get h.2 1 kr
   | _+3,h=>exact St.get h.2 1 kr) kr kr
   ·exact D2.gv_cW (fun _ _ _ h=>h) 62 #[.agg (sgC x)] hbs (fun L g w w' hN hp hb=>by
   revert hp;unfold D2.chn
   generalize D2.stg [5,6,8] L=j;intro hp
   match j,hp with
   | 0,h=>exact h.call hb
   | 1,h=>exact h.call hb
   | 2,h=>exact⟨h.1,h.2.call hb⟩
   | _+3,h=>exact⟨h.1,h.2.call hb⟩) (fun g w=>by kernel_rfl)
   ·exact D2.gv_vala
   ·refine D2.gv_chn 5 0 (fun L hN=>by
   have e5:=hN.1;have e6:=hN.post 6 kr;have e8:=hN.fwd e6 (show D2.edge _ 6 8=true by kernel_rfl)
   exact⟨by (simp[D2.stg,e5,e6,e8])<;>rfl,by (simp[D2.stg,D2.put1,e5,e6,e8])<;>rfl⟩) fun g ww hq=>?_
    exact D2.run_new (F:=fun b=>Qf b 1 1) (ob:=.cells (eS.cs (fe0 (sgB x))).toArray 89) kr ⟨{ b:=ww.heap.size },rfl,St.alloc hq _⟩
   ·refine D2.gv_chn 6 1 (fun L hN=>by
   have e6:=hN.1;have e5:=hN.bef 5 kr;have e8:=hN.post 8 kr
   exact⟨by (simp[D2.stg,e5,e6,e8])<;>rfl,by (simp[D2.stg,D2.put1,e5,e6,e8])<;>rfl⟩) fun g ww hq=>?_
    refine D2.run_of (op:=ym 85 (.tmp 38) (.tmp 42)) kr fun o ho=>?_;obtain⟨b',cap',cur',w',hrun,HS',hr'⟩:=zdm (S:=eS) (mc:=1) (bx:=(g 5).b) (y:=fe0 (sgB x)) (hq.perm (QM _ (kg [(b8,sgO x),(b6,fzO q2 i cb2),((gs1 0).b,hdO h p n c q m k),((gs2 1).b,fzO q1 n cb1)] Tb T2))) hrow2 (t:=85) (bytes:=48) kr ho kr kr (by omega) (by unfold maxLen;omega);exact⟨_,w',hrun,{ b:=b',cap:=cap',cur:=cur' },rfl,hr',HS'⟩
   ·exact D2.gv_vala
   ·refine D2.gv_chn 8 2 (fun L hN=>by
   have e8:=hN.1;have e6:=hN.bef 6 kr;have e5:=hN.back e6 (show D2.edge _ 5 6=true by kernel_rfl)
   exact⟨by (simp[D2.stg,e5,e6,e8])<;>rfl,by (simp[D2.stg,D2.put1,e5,e6,e8])<;>rfl⟩) fun g ww hq=>?_
    exact D2.run_sto (t:=85) (x:=.tmp 44) (y:=.tmp 43) (b:=b6) (off:=2) (C:=#[wZ,.string em,.slice q2 i cb2]) (C':=#[wZ,.string em,Qf (g 6).b (i+1) (g 6).cap]) (T:=89) (v:=Qf (g 6).b (i+1) (g 6).cap) kr kr kr kr kr (St.get hq.2 2 kr) (Qp kr) kr ⟨g 8,rfl,hq.1,St.store (C:=#[wZ,.string em,.slice q2 i cb2]) (T:=89) hq.2 2 kr⟩
   ·intro L1 g w13 hall hp;obtain⟨hr',hS⟩:=hp.fin (fun k hk=>hall k (by simp at hk;rcases hk with rfl | rfl | rfl<;>exact Qp kr));refine⟨kr,Qg (g 6).b,(g 6).cap,[((g 6).b,.cells (g 6).cur 89)],.inr ⟨(g 6).b,(g 6).cur,rfl,rfl,?_⟩,(St.sub (l':=((g 6).b,.cells (g 6).cur 89)::([(b6,fzO (Qg (g 6).b) (i+1) (g 6).cap),((gs1 0).b,hdO h p n c q m k),((gs2 1).b,fzO q1 n cb1)]++Tb)) hS (Qq _ (Qt ..))).perm ?_,isK⟩
    ·rw[yZ hx,RD,RD];exact hr'
    ·exact(kg [(b6,fzO (Qg (g 6).b) (i+1) (g 6).cap),((gs1 0).b,hdO h p n c q m k),((gs2 1).b,fzO q1 n cb1)] Tb [((g 6).b,.cells (g 6).cur 89)]).symm
  ·rintro _ w9 ⟨q2,cb2,T2,hrow2,H10,_,rfl⟩;clear H4 H5 H6 H7 H8 H9;rw[Qy (by omega)]at hrow2;refine wW<|zd [0,1,2] kr kr<|rp [.v] H10 kr fun gs7 w10 H11=>wX [1,2] ?_;have H12:St w.heap.size w w10 ((b6,fzO q2 m cb2)::((gs1 0).b,hdO h p n c q m k)::((gs2 1).b,fzO q1 n cb1)::(Tb++T2)):=H11.as kr;refine zA H12 (some 9) 89 (.agg #[wZ,.string em,.slice none 0 0]) kr kr kr ?_;intro b9 w11 H13;refine rp [.s 0] H13 kr fun gs8 w12 H14=>wX []<|zb ?_;have H15:St w.heap.size w w12 ((b9,fnO 0)::(b6,fzO q2 m cb2)::((gs1 0).b,hdO h p n c q m k)::((gs2 1).b,fzO q1 n cb1)::(Tb++T2)):=H14.as kr;refine za kr<|qS (Q:=fun e ρ ww=>e=.normal/\St w.heap.size w ww ((b9,fnO (adN h.ad))::(b6,fzO q2 m cb2)::((gs1 0).b,hdO h p n c q m k)::((gs2 1).b,fzO q1 n cb1)::(Tb++T2))/\Is [(1,Qe (gs1 0).b),(3,Qe (gs2 1).b),(6,Qe b6),(9,Qe b9)] ρ) ?_ ?_
   ·refine rS [.v,.l 2] H15 kr fun gs9 w13 H16=>?_;cases had:h.ad with
    | true=>
     refine yv 48 (v:=.bool h.ad) (v':=.bool true) (by rw[had]) kr<|zJ<|rL [.v,.s 0] H16 kr fun gs10 w14 H17=>?_;exact⟨rfl,H17.as kr,isK⟩
    | false=>
     refine yv 48 (v:=.bool h.ad) (v':=.bool false) (by rw[had]) kr<|yh ?_;exact⟨rfl,H16.as kr,isK⟩
   ·rintro _ _ w13 ⟨rfl,H16,_,rfl⟩;clear H10 H11 H12 H13 H14 H15;refine wW ?_;have ve: ∀x∈h.vs,Ql x<=0x800000000000:=fun x hx=>by have:=o.vs x hx;omega
    have se: ∀x∈h.ss.map sgB,Ql x<=0x800000000000:=fun x hx=>by obtain⟨y,_,rfl⟩:=Rk.1 hx;rw[jZ];omega
    refine zd [0,1,2,3,4,5,6,7,8,9,10,11,12,13,14,15,16,17,18,19,20,21,22,23,24,25,26,27,28] kr kr<|rp [.v,.l 2,.v,.v,.l 2,.v,.v,.l 2,.v,.v,.l 2,.v,.v,.l 2,.v,.v,.l 2,.v,.l 3,.v,.l 2,.v,.l 0,.v,.l 2,.v,.l 1] H16 kr fun gs9 w14 H17=>wX [27,28] ?_;have H18:St w.heap.size w w14 ((b9,fnO (adN h.ad))::(b6,fzO q2 m cb2)::((gs1 0).b,hdO h p n c q m k)::((gs2 1).b,fzO q1 n cb1)::(Tb++T2)):=H17.as kr;refine jT H18 (some 77) (fun b=>Qf b 11 11) (zU fS (hdE h q1 n cb1 q2 m cb2)).toArray 89 kr kr ?_;intro bf w15 H19;refine rp [.v] H19 kr fun gs10 w16 H20=>wX []<|zb ?_;have H21:St w.heap.size w w16 ((bf,.cells (zU fS (hdE h q1 n cb1 q2 m cb2)).toArray 89)::(b9,fnO (adN h.ad))::(b6,fzO q2 m cb2)::((gs1 0).b,hdO h p n c q m k)::((gs2 1).b,fzO q1 n cb1)::(Tb++T2)):=H20.as kr;have hin:=zqd (h:=h) (T:=(bf,.cells (zU fS (hdE h q1 n cb1 q2 m cb2)).toArray 89)::(b9,fnO (adN h.ad))::(b6,fzO q2 m cb2)::((gs1 0).b,hdO h p n c q m k)::((gs2 1).b,fzO q1 n cb1)::(Tb++T2)) o (QX ..) (ziW hrow ve (by omega) fun e he=>by simp[he]) (ziW hrow2 se (by omega) fun e he=>by simp[he]);refine zd [0,1,2,3,4,5,6] kr kr<|rp [.v] H21 kr fun gs11 w17 H22=>wX [1,2,3,4,5,6]<|yP H22 (some 80) 63 #[.string qa,Qf bf 11 11] _ _ (zeH qa hK jq (by decide) (Qg bf) 11 11 (hdF h)) (hin.at (H22.as kr) fun e he=>he) ?_;intro w18 H23;refine rp [.v,.v,.v,.v,.v] H23 kr fun gs12 w19 H24=>wX []<|zb<|wW<|rS [.v,.v] H24 kr fun gs13 w20 H25=>?_;exact rR [.tmp 2] [] (.string (zY h)) H25 kr
end
def rc (b:Nat):Nat:=if 192<=b then b-64 else b
def rsz (t:Qa):Option (Nat×Nat):=
 if rc (by_ t 0)<128 then some (0,1) else if rc (by_ t 0)<=183 then some (1,rc (by_ t 0)-128)
 else if 3<rc (by_ t 0)-183\/t.size<1+(rc (by_ t 0)-183) then none
 else some (1+(rc (by_ t 0)-183),val ((tl (t.extract 1 t.size)).take (rc (by_ t 0)-183)))
def zcJ:Option (Nat×Nat)->Value
 | none=>.tuple #[.int .i64 (-1),.int .i64 0]
 | some (a,b)=>.tuple #[.int .i64 (a:Int),.int .i64 (b:Int)]
theorem zeK (t:Qa):rc (by_ t 0)<192:=by have:=qp t 0;unfold rc;split<;>omega
theorem zqe: ∀(m:Nat) {n:Nat},n<65536->(dgI (m+2) n).length<=2:=fun m n h=>by
 unfold dgI;split
 ·simp
 ·rw[Qx];have:(dgI (m+1) (n / 256)).length<=1:=by
   unfold dgI;split
   ·simp
   ·rw[Qx];have h0:n / 256 / 256=0:=by omega
    rw[h0];have:dgI m 0=[]:=by cases m with
     | zero=>rfl
     | succ m=>unfold dgI;rw[if_pos rfl]
    rw[this];simp
  simp only[List.length_singleton];omega
theorem zqf {n:Nat}(h:n<65536):(dg n).length<=2:=zqe 6 h
theorem zcK {t:Qa}{l:Bool}{s:Qa}{k:Fo}{X:List UInt8}(ht:t.size<=4100)(hm:mixed l s k.len=false)(hp:pureF k=true)(h:tl t=wr1 l s (szF k) (wrF k)++X):
 t.size≠0/\((yf s=true/\by_ t 0<128/\rsz t=some (0,1))\/(yf s=false/\128<=by_ t 0/\(l=true↔192<=by_ t 0)/\rsz t=some ((hd (frm l) (s.size+szF k)).length,s.size+szF k))):=by
 obtain⟨h0,hi⟩:=zgU (by omega) hm hp h;have hlt:=qp t 0;refine⟨h0,?_⟩;rcases hi with⟨h1,h2⟩|⟨h1,h2,h3,u,hc,hu⟩
 ·left;refine⟨h2,h1,?_⟩;unfold rsz rc;rw[if_neg (show ¬192<=by_ t 0 by omega),if_pos h1]
 ·right;refine⟨h1,h2,h3,?_⟩;have hrc:rc (by_ t 0)=128+(by_ t 0-frm l)/\by_ t 0-frm l<64:=by
   unfold rc;rcases jK l with⟨q,e⟩ | ⟨q,e⟩
   ·have:=h3.1 q;rw[if_pos this,e];omega
   ·have: ¬192<=by_ t 0:=fun hh=>by have:=h3.2 hh;rw[q]at this;cases this
    rw[if_neg this,e];omega
  have hN:s.size+szF k<=4100:=by
   have hlen:=congrArg Qo h;rw[zu,Qx,qV hm (yi hp)]at hlen;unfold sz1 at hlen;rw[if_neg (by rw[h1];decide)]at hlen;omega
  have hz1:(t.extract 1 t.size).size=t.size-1:=by rw[jc t 1 _ (QH _) (by omega)]
  generalize hf:by_ t 0-frm l=f at*;unfold qt at hc;unfold rsz hd;rw[hrc.1];split at hc
  ·rename_i h5
   injection hc with hc;injection hc with e1 e2
   rw[if_neg (by omega),if_pos (by omega),if_pos (by omega),<-e1];rw[show 128+f-128=f by omega];rfl
  ·rename_i h5
   split at hc
   ·cases hc
   ·rename_i h6
    split at hc
    ·cases hc
    ·rename_i h7
     injection hc with hc;injection hc with e1 e2
     have hz:((t.extract 1 t.size).extract 0 (f-55)).size=f-55:=by rw[jc _ 0 _ (by omega) (by omega)];omega
     have hts:tl ((t.extract 1 t.size).extract 0 (f-55))=(tl (t.extract 1 t.size)).take (f-55):=by rw[yT,List.drop_zero]
     generalize (t.extract 1 t.size).extract 0 (f-55)=s1 at*;have hp1:yW s1=false:=by
      cases hp:yW s1 with
      | false=>rfl
      | true=>exfalso;apply h7;unfold zQ;rw[if_pos (Or.inr hp)];exact QU _
     have hv:(zQ s1).1=val (tl s1):=by unfold zQ;rw[if_neg (by rw[hp1];simp;omega)]
     have hd1:dg (s.size+szF k)=tl s1:=by rw[<-e1,hv,<-qq (dg (val (tl s1))),(zaA (by omega)).2 hp1]
     have hlen:(dg (s.size+szF k)).length=f-55:=by rw[hd1,zu,hz]
     have hsm:=zqf (show s.size+szF k<65536 by omega);rw[if_neg (by omega),if_neg (by omega),if_neg (by omega),if_neg (by omega),List.length_cons,hlen,show 128+f-183=f-55 by omega,<-hts,<-hv,e1,Nat.add_comm]
theorem ziZ (t:Qa)(ht:t.size<=100000)(h0:t.size≠0)(c:Nat)(hc:c=rc (by_ t 0)){B:Nat}{w0 w:World}(ρ0:Env)(H0:St B w0 w []):WP Tryz.prog 48 (zy (zy (zy (zz Tryz.f81)))) (yx Tryz.prog [.tmp 2,.tmp 3] fun v' w'=>v'=zcJ (rsz t)/\Below B w0 w') (qg [(0,.string t),(4,.int .i64 (c:Int))] ρ0) w:=by
 have hlt:=zeK t;refine za kr ?_;by_cases h1:c<128
 ·refine rS [.v,itT ((c:Int)<128)] H0 kr fun gs1 w1 H1=>zh kr kr<|rS [.v,.v] H1 kr fun gs2 w2 H2=>zk kr<|wV ?_;refine⟨[.int .i64 0,.int .i64 1],(.tmp (.int .i64 0) kr (.tmp (.int .i64 1) kr .nil)),?_,H2.below⟩;unfold rsz;rw[if_pos (by omega)];rfl
 ·refine rS [.v,itF ((c:Int)<128)] H0 kr fun gs1 w1 H1=>zi kr kr<|zj kr<|wW<|za kr ?_;by_cases h2:c<=183
  ·refine rS [.v,itT ((c:Int)<=183)] H1 kr fun gs2 w2 H2=>zh kr kr<|rS [.v,.E (.int .i64 (Qz.wrap ((c:Int)-128))) (.int .i64 ((c-128:Nat):Int)) (zf (by rw[show (c:Int)-128=((c-128:Nat):Int) by omega];exact jy (by omega))),.v,.v] H2 kr fun gs3 w3 H3=>zk kr<|wV ?_;refine⟨[.int .i64 1,.int .i64 ((c-128:Nat):Int)],(.tmp (.int .i64 1) kr (.tmp (.int .i64 ((c-128:Nat):Int)) kr .nil)),?_,H3.below⟩;unfold rsz;rw[if_neg (by omega),if_pos (by omega),<-hc];rfl
  ·refine rS [.v,itF ((c:Int)<=183)] H1 kr fun gs2 w2 H2=>zi kr kr<|zj kr<|wW ?_;obtain⟨k,hk⟩:∃k,k=c-183:=⟨_,rfl⟩
   refine rS [.v] H2 kr fun gs3 w3 H3=>rS [.v,.E (.int .i64 (Qz.wrap ((c:Int)-183))) (.int .i64 (k:Int)) (zf (by rw[show (c:Int)-183=(k:Int) by omega];exact jy (by omega))),.v] H3 kr fun gs4 w4 H4=>za kr ?_;by_cases h3:3<k
   ·refine rS [.v,itT ((3:Int)<(k:Int)),.v,.n,.n,.n,.n,.n,.v] H4 kr fun gs5 w5 H5=>zh kr kr<|rS [.v,.v] H5 kr fun gs6 w6 H6=>zk kr<|wV ?_;refine⟨[.int .i64 (-1),.int .i64 0],(.tmp (.int .i64 (-1)) kr (.tmp (.int .i64 0) kr .nil)),?_,H6.below⟩;unfold rsz;rw[if_neg (by omega),if_neg (by omega),if_pos (by omega)];rfl
   ·by_cases h4:t.size<1+k
    ·refine rS [.v,itF ((3:Int)<(k:Int)),.v,.v,.v,.v,.E (.int .i64 (Qz.wrap (1+(k:Int)))) (.int .i64 ((1+k:Nat):Int)) (zf (ya (a:=1) (b:=k) (by omega))),itT ((Ql t:Int)<((1+k:Nat):Int)),.v] H4 kr fun gs5 w5 H5=>zh kr kr<|rS [.v,.v] H5 kr fun gs6 w6 H6=>zk kr<|wV ?_;refine⟨[.int .i64 (-1),.int .i64 0],(.tmp (.int .i64 (-1)) kr (.tmp (.int .i64 0) kr .nil)),?_,H6.below⟩;unfold rsz;rw[if_neg (by omega),if_neg (by omega),if_pos (by omega)];rfl
    ·refine rS [.v,itF ((3:Int)<(k:Int)),.v,.v,.v,.v,.E (.int .i64 (Qz.wrap (1+(k:Int)))) (.int .i64 ((1+k:Nat):Int)) (zf (ya (a:=1) (b:=k) (by omega))),itF ((Ql t:Int)<((1+k:Nat):Int)),.v] H4 kr fun gs5 w5 H5=>zi kr kr<|zj kr<|wW<|za kr<|rS [.v] H5 kr fun gs6 w6 H6=>zm 0 kr ?_;have hvl: ∀i,i<=3->val ((tl (t.extract 1 t.size)).take i)<16777216:=fun i hi=>by
      have h9:=zbG ((tl (t.extract 1 t.size)).take i);have h8:((tl (t.extract 1 t.size)).take i).length<=3:=by rw[Rb];omega
      exact UX h9 (RZ (Uh (by decide) h8) (by decide))
     refine zO kr (fun mz ρ ww=> ∃(i:Nat),k-i=mz/\i<=k/\St B w0 ww []/\Is [(0,.string t),(5,.int .i64 ((val ((tl (t.extract 1 t.size)).take i):Nat):Int)),(6,.int .i64 (k:Int)),(7,.int .i64 (i:Int))] ρ) (k-0) ⟨0,rfl,by omega,H6,zl⟩ ?_;rintro _ _ w7 ⟨i,rfl,hik,H7,_,rfl⟩;refine za kr ?_;by_cases hi:i<k
     ·refine rS [.v,.v,itT ((i:Int)<(k:Int))] H7 kr fun gs7 w8 H8=>zh kr kr<|zj kr<|wW<|za kr<|zm 1 kr ?_;have hv1:=hvl i (by omega);have hv2:=hvl (i+1) (by omega);have hz1:(t.extract 1 t.size).size=t.size-1:=by rw[jc t 1 _ (QH _) (by omega)]
      have hnx:=zdO (t.extract 1 t.size) i (by omega);have hby:by_ (t.extract 1 t.size) i=by_ t (1+i):=by
       unfold by_;rw[zdC,QO,QO,List.getElem?_drop]
      have hbl:=qp t (1+i);rw[hby]at hnx;generalize val ((tl (t.extract 1 t.size)).take i)=n at*;refine rL [.v,.E (.int .i64 (Qz.wrap (256*(n:Int)))) (.int .i64 ((256*n:Nat):Int)) (zf (by rw[show (256:Int)*(n:Int)=((256*n:Nat):Int) by omega];exact jy (by omega))),.v,.v,.E (.int .i64 (Qz.wrap (1+(i:Int)))) (.int .i64 ((1+i:Nat):Int)) (zf (ya (a:=1) (b:=i) (by omega))),itC 39 (.tmp 41) 9 t (1+i),.E (.int .i64 (Qz.wrap ((by_ t (1+i):Nat):Int))) (.int .i64 ((by_ t (1+i):Nat):Int)) (zf (jy (by omega))),.E (.int .i64 (Qz.wrap (((256*n:Nat):Int)+((by_ t (1+i):Nat):Int)))) (.int .i64 ((val ((tl (t.extract 1 t.size)).take (i+1)):Nat):Int)) (zf (by rw[show ((256*n:Nat):Int)+((by_ t (1+i):Nat):Int)=((val ((tl (t.extract 1 t.size)).take (i+1)):Nat):Int) by rw[hnx];omega];exact jy (by omega))),.v] H8 kr fun gs8 w9 H9=>wW<|rL [.v,itI i 1,.v] H9 kr fun gs9 w10 H10=>?_;show ∃m,_/\_;exact⟨_,(by omega),i+1,rfl,by omega,H10,zl⟩
     ·obtain rfl:i=k:=by omega
      refine rS [.v,.v,itF ((i:Int)<(i:Int))] H7 kr fun gs7 w8 H8=>zi kr kr<|zE 0 kr<|wW<|rS [.v,.E (.int .i64 (Qz.wrap (1+(i:Int)))) (.int .i64 ((1+i:Nat):Int)) (zf (ya (a:=1) (b:=i) (by omega))),.v,.v,.v] H8 kr fun gs8 w9 H9=>zk kr<|wV ?_;refine⟨[.int .i64 ((1+i:Nat):Int),.int .i64 ((val ((tl (t.extract 1 t.size)).take i):Nat):Int)],(.tmp _ kr (.tmp _ kr .nil)),?_,H9.below⟩;unfold rsz;rw[if_neg (by omega),if_neg (by omega),if_neg (by omega),<-hc,<-hk];rfl
theorem zqg (t:Qa)(ht:t.size<=100000)(h0:t.size≠0):Fn Tryz.prog 81 #[.string t] (zcJ (rsz t)):=by
 refine zv [.tmp 2,.tmp 3] 48 Tryz.func81 fun w=>?_;have hlt:=qp t 0;refine rS [.v,.v] (St.start w) kr fun gs1 w1 H1=>rS [.v,itC 8 (.const (.int .i64 0)) 9 t 0,.E (.int .i64 (Qz.wrap ((by_ t 0:Nat):Int))) (.int .i64 ((by_ t 0:Nat):Int)) (zf (jy (by omega))),.v] H1 kr fun gs2 w2 H2=>za kr ?_;by_cases hb:192<=by_ t 0
 ·refine rS [.v,itT (((192:Int))<=((by_ t 0:Nat):Int))] H2 kr fun gs3 w3 H3=>zh kr kr<|rL [.v,.E (.int .i64 (Qz.wrap (((by_ t 0:Nat):Int)-64))) (.int .i64 ((rc (by_ t 0):Nat):Int)) (zf (by rw[show ((by_ t 0:Nat):Int)-64=((rc (by_ t 0):Nat):Int) by unfold rc;rw[if_pos hb];omega];exact jy (by have:=zeK t;omega))),.v] H3 kr fun gs4 w4 H4=>wW<|zt [0,4] fun ρ1=>?_;exact ziZ t ht h0 (rc (by_ t 0)) rfl ρ1 H4
 ·refine rS [.v,itF (((192:Int))<=((by_ t 0:Nat):Int))] H2 kr fun gs3 w3 H3=>zi kr kr<|zj kr<|wW<|zt [0,4] fun ρ1=>?_;exact ziZ t ht h0 (by_ t 0) (by unfold rc;rw[if_neg hb]) ρ1 H3
def zi0:Value:=.agg #[.bool false,.string ⟨#[]⟩,.slice none 0 0]
def isIt (t:Qa)(l:Bool)(s:Qa)(k:Fo)(m:Nat):Prop:= ∀(l':Bool) (s':Qa) (k':Fo) (X:List UInt8),mixed l' s' k'.len=false->pureF k'=true->tl t=wr1 l' s' (szF k') (wrF k')++X->l'=l/\s'=s/\k'=k/\m=(wr1 l' s' (szF k') (wrF k')).length
structure RdI (t:Qa)(l:Bool)(s:Qa)(p:Qc)(n:Nat)(k:Fo)(m:Nat)(T:Qb):Prop where
 mix:mixed l s k.len=false
 pur:pureF k=true
 inn:SlIn T p n k
 ssz:s.size<=m
 one:1<=m
 le:m<=t.size
 cnt:1+k.cnt<=m
 wt:9+s.size+wtF k<=10*m
 is:isIt t l s k m
def okR (t:Qa)(v:Value)(T:Qb):Prop:=
 (v=.tuple #[zi0,.int .i64 0,.bool false]/\T=[]/\jA t)\/
 (∃(l:Bool) (s:Qa) (p:Qc) (n c:Nat) (k:Fo) (m:Nat),v=.tuple #[.agg #[.bool l,.string s,.slice p n c],.int .i64 (m:Int),.bool true]/\n<=c/\RdI t l s p n k m T)
theorem zcL {t:Qa}{a b:Nat}(h:rsz t=some (a,b)):1<=a+b/\(192<=by_ t 0->1<=a)/\a<=4/\b<=100000000:=by
 have hlt:=qp t 0;have hrl:=zeK t;unfold rsz at h;have hrc:192<=by_ t 0->128<=rc (by_ t 0):=fun q=>by unfold rc;rw[if_pos q];omega
 split at h
 ·injection h with h;injection h with e1 e2
  exact⟨by omega,fun q=>by have:=hrc q;omega,by omega,by omega⟩
 ·split at h
  ·injection h with h;injection h with e1 e2
   exact⟨by omega,fun q=>by omega,by omega,by omega⟩
  ·split at h
   ·cases h
   ·rename_i h3
    injection h with h;injection h with e1 e2
    have h9:=zbG ((tl (t.extract 1 t.size)).take (rc (by_ t 0)-183));have h8:((tl (t.extract 1 t.size)).take (rc (by_ t 0)-183)).length<=3:=by rw[Rb];omega
    have h7:=UX h9 (RZ (Uh (by decide) h8) (by decide:256^3<=16777216));exact⟨by omega,fun q=>by omega,by omega,by omega⟩
theorem zeL {t:Qa}{l:Bool}{s:Qa}{k:Fo}{X:List UInt8}(ht:t.size<=4100)(hm:mixed l s k.len=false)(hp:pureF k=true)(h:tl t=wr1 l s (szF k) (wrF k)++X){a b:Nat}(hr:rsz t=some (a,b)):a+b=(wr1 l s (szF k) (wrF k)).length/\a+b<=t.size:=by
 obtain⟨h0,h1⟩:=zcK ht hm hp h;have hlen:=congrArg Qo h;rw[zu,Qx]at hlen;have hw:=qV hm (yi hp);rcases h1 with⟨q1,q2,q3⟩|⟨q1,q2,_,q3⟩
 ·rw[hr]at q3;injection q3 with q3;injection q3 with e1 e2
  unfold sz1 at hw;rw[if_pos q1]at hw;omega
 ·rw[hr]at q3;injection q3 with q3;injection q3 with e1 e2
  unfold sz1 at hw;rw[if_neg (by rw[q1];decide)]at hw;omega
theorem zqh {t:Qa}(ht:t.size<=4100)(h:rsz t=none):jA t:=fun l s k X hm hp he=>by
 obtain⟨_,⟨_,_,q⟩|⟨_,_,_,q⟩⟩:=zcK ht hm hp he<;>rw[h]at q<;>cases q
theorem zqi {t:Qa}{a b:Nat}(ht:t.size<=4100)(h:rsz t=some (a,b))(hl:t.size<a+b):jA t:=fun l s k X hm hp he=>by
 have:=(zeL ht hm hp he h).2;omega
theorem zeM {t:Qa}{A M Y:List UInt8}{a b:Nat}(h:tl t=A++(M++Y))(ha:a=A.length)(hb:b=M.length):tl (t.extract a (a+b))=M:=by
 subst ha;subst hb;rw[yT,List.drop_take,h,List.drop_left,Nat.add_sub_cancel_left,List.take_left]
theorem zqj {t:Qa}{a b:Nat}(ht:t.size<=4100)(h0:t.size≠0)(h:rsz t=some (a,b))(hl:a+b<=t.size)(hb:by_ t 0<192):RdI t false (t.extract a (a+b)) none 0 .nil (a+b) []:=by
 have hp:=zcL h;have hz:(t.extract a (a+b)).size=b:=by rw[jc t a _ hl (by omega)];omega
 refine⟨by simp[mixed,Fo.len],rfl,SlIn.none _,by omega,hp.1,hl,by simp only[Fo.cnt];omega,by simp only[wtF];omega,?_⟩;intro l' s' k' X hm hp' he;have hlen:=(zeL ht hm hp' he h).1;obtain⟨_,⟨q1,q2,q3⟩ | ⟨q1,q2,q4,q3⟩⟩:=zcK ht hm hp' he
 ·have hk:=len_zero (jJ hm q1);have hl0:l'=false:=by
   rcases jk hm with⟨_,q⟩|⟨q,_⟩
   ·rw[q]at q1;exact absurd q1 (by decide)
   ·exact q
  rw[h]at q3;injection q3 with q3;injection q3 with e1 e2
  have hs1:=jV q1;subst hk;refine⟨hl0,?_,rfl,hlen⟩;unfold wr1 at he;rw[if_pos q1]at he;simp only[wrF,RS,QI]at he;have h9:=zeM (t:=t) (A:=[]) (M:=tl s') (Y:=X) (a:=a) (b:=b) (by rw[he];rfl) (by rw[e1];rfl) (by rw[zu,e2,hs1]);exact(qj h9).symm
 ·obtain⟨hl0,_⟩:=zmK l' q4 hb;subst hl0;rcases jk hm with⟨q,_⟩|⟨_,q⟩
  ·cases q
  ·subst q;rw[h]at q3;injection q3 with q3;injection q3 with e1 e2
   refine⟨rfl,?_,rfl,hlen⟩;unfold wr1 at he;rw[if_neg (by rw[q1];decide)]at he;simp only[wrF,QI,QD]at he;have h9:=zeM (t:=t) (a:=a) (b:=b) he e1 (by rw[zu,e2];simp[szF]);exact(qj h9).symm
theorem zi1 {t:Qa}{a b:Nat}{l':Bool}{s':Qa}{k':Fo}{X:List UInt8}(ht:t.size<=4100)(h:rsz t=some (a,b))(hb:192<=by_ t 0)(hm:mixed l' s' k'.len=false)(hp:pureF k'=true)(he:tl t=wr1 l' s' (szF k') (wrF k')++X):
 l'=true/\s'=⟨#[]⟩/\tl (t.extract a (a+b))=wrF k'/\a+b=(wr1 l' s' (szF k') (wrF k')).length:=by
 have hlen:=(zeL ht hm hp he h).1;obtain⟨_,⟨q1,q2,q3⟩ | ⟨q1,q2,q4,q3⟩⟩:=zcK ht hm hp he
 ·omega
 ·obtain⟨hl0,_⟩:=zmL l' q4 hb;subst hl0;rcases jk hm with⟨_,q⟩|⟨q,_⟩
  ·subst q;rw[h]at q3;injection q3 with q3;injection q3 with e1 e2
   refine⟨rfl,rfl,?_,hlen⟩;unfold wr1 at he;rw[if_neg (by rw[q1];decide)]at he;have he2:tl t=hd (frm true) (Ql ⟨#[]⟩+szF k')++(wrF k'++X):=by
    rw[he];show _++([]++wrF k')++X=_;simp only[RS,QD]
   have h0:Ql ⟨#[]⟩=0:=rfl;exact zeM (t:=t) (a:=a) (b:=b) he2 e1 (by rw[e2,yi hp];omega)
  ·cases q
def appF:List X3->Fo->Fo
 | [],r=>r
 | x::M,r=>.cons x.l x.s x.k (appF M r)
theorem zi2 (x:X3)(r:Fo): ∀M:List X3,appF (M++ [x]) r=appF M (.cons x.l x.s x.k r)
 | []=>rfl
 | m::M=>by simp only[Rm,appF,zi2 x r M]
theorem zi3: ∀M:List X3,appF M .nil=toFo M
 | []=>rfl
 | m::M=>by simp only[appF,toFo,zi3 M]
theorem zeN (x:X3): ∀M:List X3,(toFo (M++ [x])).cnt=(toFo M).cnt+(1+x.k.cnt)
 | []=>by simp[toFo,Fo.cnt]
 | m::M=>by simp only[Rm,toFo,Fo.cnt,zeN x M];omega
theorem zi4 (x:X3): ∀M:List X3,wtF (toFo (M++ [x]))=wtF (toFo M)+(9+x.s.size+wtF x.k)
 | []=>by simp[toFo,wtF]
 | m::M=>by simp only[Rm,toFo,wtF,zi4 x M];omega
structure RdL (t:Qa)(a b j:Nat)(p:Qc)(n c:Nat)(row:Qb)(M:List X3)(T:Qb):Prop where
 row:RowSt p n c row M
 lo:a<=j
 hi:j<=a+b
 num:n<=(toFo M).cnt
 cnt:(toFo M).cnt<=j-a
 wt:wtF (toFo M)<=10*(j-a)
 pur:pureF (toFo M)=true
 inn:AllIn T M
 rest: ∀k',pureF k'=true->tl (t.extract a (a+b))=wrF k'->∃r,pureF r=true/\tl (t.extract j (a+b))=wrF r/\k'=appF M r
section
variable {t:Qa}{a b j:Nat}{p:Qc}{n c:Nat}{row:Qb}{M:List X3}{T:Qb}
theorem RdL.start:RdL t a b a none 0 0 [] [] []:=⟨.inl ⟨rfl,rfl,rfl,rfl,rfl⟩,QH _,Nat.le_add_right ..,QU _,QU _,QU _,rfl,(fun _ h=>nomatch h),fun k' hp he=>⟨k',hp,he,rfl⟩⟩
theorem RdL.room (h:RdL t a b j p n c row M T):n<=c:=by
 rcases h.row with⟨_,rfl,rfl,_,_⟩|⟨_,cur,_,_,hrw⟩
 ·exact QH _
 ·exact hrw.le
theorem RdL.bad (h:RdL t a b j p n c row M T)(ht:t.size<=4100)(hr:rsz t=some (a,b))(hl:a+b<=t.size)(hb:192<=by_ t 0)(hj:j<a+b)(hbad:jA (t.extract j (a+b))):jA t:=fun l' s' k' X hm hp he=>by
 obtain⟨_,_,q,_⟩:=zi1 ht hr hb hm hp he;obtain⟨r,hpr,hr',_⟩:=h.rest k' hp q;cases r with
 | nil=>
  have:=congrArg Qo hr';rw[zu,jc t j _ hl (by omega)]at this;simp only[wrF,Ui]at this;omega
 | cons l s k r=>
  simp only[pureF,Qu,Rf]at hpr;exact hbad l s k (wrF r) hpr.1.1 hpr.1.2 hr'
theorem RdL.next (h:RdL t a b j p n c row M T)(hl:a+b<=t.size)(ht:t.size<=4100)(hj:j<a+b){x:X3}{m:Nat}{T2:Qb}(hx:RdI (t.extract j (a+b)) x.l x.s x.p x.n x.k m T2){b' cap:Nat}{cur:Qd}(hrw:Rw 3 cur cap (n+1) (cells3 (M++ [x]))):
 RdL t a b (j+m) (Qg b') (n+1) cap [(b',.cells cur 58)] (M++ [x]) (T2++T):=by
 have hz:(t.extract j (a+b)).size=a+b-j:=jc t j _ hl (by omega);have hle:=hx.le;have h1:=hx.one;have h2:=hx.cnt;have h3:=hx.wt;have h4:=h.lo;have h5:=h.num;have h6:=h.cnt;have h7:=h.wt;have h8:=hx.ssz;refine⟨.inr ⟨b',cur,rfl,rfl,hrw⟩,by omega,by omega,by rw[zeN];omega,by rw[zeN];omega,by rw[zi4];omega,zdY x hx.mix hx.pur M h.pur,(h.inn.mono fun e he=>QZ _ he).snoc (hx.inn.mono fun e he=>Rd _ he) (by omega),?_⟩;intro k' hp he;obtain⟨r,hpr,hr',hk⟩:=h.rest k' hp he;cases r with
 | nil=>
  have:=congrArg Qo hr';rw[zu,hz]at this;simp only[wrF,Ui]at this;omega
 | cons l s k r=>
  simp only[pureF,Qu,Rf]at hpr;obtain⟨e1,e2,e3,e4⟩:=hx.is l s k (wrF r) hpr.1.1 hpr.1.2 hr';subst e1;subst e2;subst e3;refine⟨r,hpr.2,?_,by rw[hk,zi2]⟩;have e5:t.extract (j+m) (a+b)=(t.extract j (a+b)).extract m (t.extract j (a+b)).size:=by
   apply qj;rw[yT,yT,yT,Qy (l:=((tl t).take (a+b)).drop j) (by rw[hz,List.length_drop,Rb,zu];omega),List.drop_drop]
  rw[e5];exact(zbL (t:=t.extract j (a+b)) (by simpa only[wrF] using hr') e4).2.1
theorem RdL.done (h:RdL t a b j p n c row M T)(ht:t.size<=4100)(hr:rsz t=some (a,b))(hl:a+b<=t.size)(hb:192<=by_ t 0)(hj: ¬j<a+b):RdI t true ⟨#[]⟩ p n (toFo M) (a+b) (row++T):=by
 have hp:=zcL hr;have h4:=h.lo;have h5:=h.hi;have h6:=h.cnt;have h7:=h.wt;have h1:=hp.2.1 hb;have h8:=h.num;have hz0:Ql ⟨#[]⟩=0:=rfl;refine⟨rfl,h.pur,?_,by omega,by omega,hl,by omega,by omega,?_⟩
 ·rcases h.row with⟨rfl,rfl,rfl,rfl,rfl⟩|⟨b',cur,rfl,rfl,hrw⟩
  ·exact SlIn.none _
  ·exact hrw.slIn (b:=b') (ty:=58) (fz:=(0,0)) (by simp) (h.inn.mono fun e he=>QZ _ he) (by omega)
 ·intro l' s' k' X hm hp' he;obtain⟨e1,e2,q,e3⟩:=zi1 ht hr hb hm hp' he;obtain⟨r,hpr,hr',hk⟩:=h.rest k' hp' q;have hrn:r=.nil:=by
   cases r with
   | nil=>rfl
   | cons l s k r=>
    simp only[pureF,Qu,Rf]at hpr;have h9:=(xO hpr.1.1 hpr.1.2 rfl).1;have:=congrArg Qo hr';rw[zu,jc t j _ hl (by omega)]at this;simp only[wrF,Qx]at this;omega
  subst hrn;exact⟨e1,e2,by rw[hk,zi3],e3⟩
end
section
variable {P:Program}{N:Nat}{ops:Array Oper}{K:Env->World->Prop}{ρ:Env}{w w0:World}{i B:Nat}{r:List Nat}{l:Qb}
theorem zqk (HS:St B w0 w l)(d:Option Nat)(V:Nat->Value)(C:Qd)(T:TypeId)(h:opv P ops i ρ w=some (d,true,.ok (.value (V w.heap.size)) (w.alloc (.cells C T))))(hd:dOK d N=true)
 (kk: ∀b w',St B w0 w' ((b,.cells C T)::l)->WPs P N ops K r (zr ρ d (V b)) w'):WPs P N ops K (i::r) ρ w:=by
 obtain⟨o,ho,rfl,hw,hr⟩:=yc h;refine WPo.run ho hw fun a ha=>?_;rw[hr,Rx];exact⟨_,ha.put _ (zZ hd) _,kk w.heap.size _ (HS.alloc _)⟩
theorem zql {nb n c:Nat}{p:Qc}{row Z:Qb}{M:List X3}{y:X3}{A B' C':Nat×Obj}(HS:St B w0 w ((nb,.cells (xc y) 58)::A::B'::C'::(row++Z)))(hrow:RowSt p n c row M)(d:Option Nat)(s x:Operand)(bytes:Nat)(ht:yp P 47=some (58,3,bytes))
 (h:opk ops i ρ=some (d,true,ym 47 s x)) (hd:dOK d N=true) (hs:ev ρ s=.slice p n c) (hx:ev ρ x=Qf nb 1 1) (hb:(n+1)*bytes<=0x800000000000) (hm:n+1<=maxLen)
 (kk: ∀b' cap' cur' w',St B w0 w' (A::B'::C'::(b',.cells cur' 58)::Z)->Rw 3 cur' cap' (n+1) (cells3 (M++ [y]))->WPs P N ops K r (zr ρ d (Qf b' (n+1) cap')) w'):WPs P N ops K (i::r) ρ w:=by
 obtain⟨o,ho,rfl,hw,hop⟩:=zM h;rcases hrow with⟨rfl,rfl,rfl,rfl,rfl⟩|⟨b,cur,rfl,rfl,hrw⟩
 ·obtain⟨b',cap',cur',w',hrun,HS',hr'⟩:=zha HS (t:=47) (e:=58) (bytes:=bytes) (k:=0) (bx:=nb) (c:=1) (y:=y) ht hop hs hx rfl hb;refine WPo.run ho hw fun a ha=>?_;rw[hrun,Rx];exact⟨_,ha.put _ (zZ hd) _,kk b' cap' cur' w' ((HS'.sub (Qq _ (Qt ..))).perm (Rl (l₁:=[A,B',C']))) hr'⟩
 ·obtain⟨b',cap',cur',w',hrun,HS',hr'⟩:=zg9 HS (t:=47) (e:=58) (bytes:=bytes) (j:=4) (k:=0) (bx:=nb) (c:=1) (y:=y) ht hop hs rfl hrw hx rfl hb hm;refine WPo.run ho hw fun a ha=>?_;rw[hrun,Rx];exact⟨_,ha.put _ (zZ hd) _,kk b' cap' cur' w' (HS'.sub (Qt ..)) hr'⟩
end
theorem zcM {B:Nat}{w0 w:World}{L Z:Qb}{b2:Nat}{ρ:Env}{t:Qa}(H:St B w0 w ((b2,r0)::Z))(hZ:L.Sublist Z)(hb:jA t)(h2:ρ 2=Qe b2)(h3:ρ 3=.int .i64 0)(h4:ρ 4=.bool false):
 ∃vs,Res Tryz.prog w ρ [.cell 2 58,.tmp 3,.tmp 4] vs/\∃T,okR t (xi vs) T/\St B w0 w (T++L):=
 ⟨[zi0,.int .i64 0,.bool false],.agg (b:=b2) (#[.bool false,.string ⟨#[]⟩,.slice none 0 0]) 58 (0,0) h2 (H.get 0 rfl) kr (.tmp _ h3 (.tmp _ h4 .nil)),[],.inl ⟨rfl,rfl,hb⟩,H.sub (Qs _ hZ)⟩
theorem zqm (t:Qa)(ht:t.size<=4100)(ih: ∀u:Qa,u.size<t.size->FnZ Tryz.prog 50 #[.string u] (okR u))(a b:Nat)(hr:rsz t=some (a,b))(hl:a+b<=t.size)(hb:192<=by_ t 0){B:Nat}{w0 w:World}{L:Qb}(b2:Nat)(ρ0:Env)(H0:St B w0 w ((b2,r0)::L)):
 WP Tryz.prog 78 (zy (zy (zy (zy (zy (zz Tryz.f50)))))) (yx Tryz.prog [.cell 2 58,.tmp 3,.tmp 4] fun v w'=> ∃T,okR t v T/\St B w0 w' (T++L)) (qg [(0,.string t),(2,Qe b2),(3,.int .i64 0),(4,.bool false),(5,.int .i64 (a:Int)),(6,.int .i64 (b:Int))] ρ0) w:=by
 have hps:=zcL hr;refine zd [0,1,2] kr kr<|zn (some 44) (.agg #[.bool true,.string ⟨#[]⟩,.slice none 0 0])<|zA H0 (some 7) 58 (.agg #[.bool false,.string ⟨#[]⟩,.slice none 0 0]) kr kr kr ?_;intro b7 w1 H1;refine rp [.s 0] H1 kr fun gs1 w2 H2=>wX []<|zb<|wW<|rS [.v,.v] H2 kr fun gs2 w3 H3=>?_;have H4:St B w0 w3 ((b7,xo (.slice none 0 0))::(b2,r0)::([]++([]++L))):=H3.as kr;refine za kr<|zm 0 kr<|zO kr (fun mz ρ ww=> ∃(j:Nat) (p:Qc) (n c:Nat) (row:Qb) (M:List X3) (T:Qb),a+b-j=mz/\RdL t a b j p n c row M T/\St B w0 ww ((b7,xo (.slice p n c))::(b2,r0)::(row++(T++L)))/\Is [(0,.string t),(2,Qe b2),(3,.int .i64 0),(4,.bool false),(5,.int .i64 (a:Int)),(6,.int .i64 (b:Int)),(7,Qe b7),(8,.int .i64 (j:Int))] ρ) (a+b-a) ⟨a,none,0,0,[],[],[],rfl,RdL.start,H4,zl⟩ ?_;rintro _ _ w5 ⟨j,p,n,c,row,M,T,rfl,hI,H6,_,rfl⟩;have hlo:=hI.lo;have hhi:=hI.hi;have hnum:=hI.num;have hcnt:=hI.cnt;refine za kr ?_;by_cases hj:j<a+b
 ·refine rS [.v,.v,.v,.E (.int .i64 (Qz.wrap ((a:Int)+(b:Int)))) (.int .i64 ((a+b:Nat):Int)) (zf (ya (a:=a) (b:=b) (by omega))),itT ((j:Int)<((a+b:Nat):Int))] H6 kr fun gs5 w6 H7=>zh kr kr<|zj kr<|wW<|zm 1 kr ?_;have hz:(t.extract j (a+b)).size=a+b-j:=jc t j _ hl (by omega);refine zd [0,1,2,3,4,5,6,7,8,9,10,11,12,13,14] kr kr<|rp [.v,.v,.v,.v,.E (.int .i64 (Qz.wrap ((a:Int)+(b:Int)))) (.int .i64 ((a+b:Nat):Int)) (zf (ya (a:=a) (b:=b) (by omega))),.o (ins:=[((.tmp 52),.string t),((.tmp 53),.int .i64 (j:Int)),((.tmp 56),.int .i64 ((a+b:Nat):Int))]) (v:=.string (Qv t j (a+b))) (fun ρ o w ho hi=>vN (t:=9) (kd:=.i64) (kz:=.i64) kr (x:=(.tmp 52)) (y:=(.tmp 56)) (z:=(.tmp 53)) t j (a+b) ho hi.1 hi.2.2.1 hi.2.1 (by omega) (by omega) w)] H7 kr fun gs6 w7 H8=>wX [6,7,8,9,10,11,12,13,14] ?_;have H9:St B w0 w7 ((b7,xo (.slice p n c))::(b2,r0)::(row++(T++L))):=H8.as kr;refine vU H9 (some 58) 50 #[.string (t.extract j (a+b))] (ih (t.extract j (a+b)) (by have:=hps.2.1 hb;omega)) kr kr ?_;rintro _ T2 w8 (⟨rfl,rfl,hbad⟩ | ⟨l,s,q,n1,c1,k,m,rfl,_,hx⟩) H10
  ·refine rp [.v,.v,.v,.v] H10 kr fun gs7 w9 H11=>wX [11,12,13,14]<|zA H11 (some 9) 58 (.agg #[.bool false,.string ⟨#[]⟩,.slice none 0 0]) kr kr kr ?_;intro b9 w10 H12;refine rp [.s 0,.v,.v] H12 kr fun gs8 w11 H13=>wX []<|zb<|wW<|za kr<|rS [.v,.v] H13 kr fun gs9 w12 H14=>zh kr kr ?_;have H15:St B w0 w12 ((b9,r0)::(b7,xo (.slice p n c))::(b2,r0)::(row++(T++L))):=H14.as kr;refine rS [.v,.s 2,.v,.v] H15 kr fun gs10 w13 H16=>?_;have H17:St B w0 w13 ((b9,r0)::(b7,xo (.slice p n c))::(b2,r0)::(row++(T++L))):=H16.as kr;refine zk kr<|wV ?_;exact zcM (H17.sub (Qs _ (Qt ..))) ((QK _ _).trans (QK _ _)) (hI.bad ht hr hl hb hj hbad) kr kr kr
  ·have hm:=hx.le;refine rp [.v,.v,.v,.v] H10 kr fun gs7 w9 H11=>wX [11,12,13,14]<|zA H11 (some 9) 58 (.agg #[.bool false,.string ⟨#[]⟩,.slice none 0 0]) kr kr kr ?_;intro b9 w10 H12;refine rp [.s 0,.v,.v] H12 kr fun gs8 w11 H13=>wX []<|zb<|wW<|za kr<|rS [.v,.v] H13 kr fun gs9 w12 H14=>zi kr kr<|zj kr<|wW ?_;have H15:St B w0 w12 ((b9,.cells #[.bool l,.string s,.slice q n1 c1] 58 (0,0))::(T2++((b7,xo (.slice p n c))::(b2,r0)::(row++(T++L))))):=H14.as kr;have H16:St B w0 w12 ((b9,.cells #[.bool l,.string s,.slice q n1 c1] 58 (0,0))::(b7,xo (.slice p n c))::(b2,r0)::(row++(T2++(T++L)))):=H15.perm (QM _ (Ro ((b7,xo (.slice p n c))::(b2,r0)::row) T2 (T++L)));refine zd [0,1,2,3,4,5,6] kr kr<|rp [.v,.l 1,.l 0] H16 kr fun gs10 w13 H17=>wX [3,4,5,6]<|zqk H17 (some 68) (fun b=>Qf b 1 1) (xc ⟨l,s,q,n1,c1,k⟩) 58 kr kr ?_;intro nb w14 H18;refine zql (y:=⟨l,s,q,n1,c1,k⟩) (p:=p) (n:=n) (c:=c) (row:=row) (Z:=T2++(T++L)) H18 hI.row (some 69) (.tmp 66) (.tmp 68) 48 kr kr kr kr kr (by omega) (by unfold maxLen;omega) ?_;intro b' cap' cur' w15 H19 hrw;refine rp [.v,.s 1] H19 kr fun gs11 w16 H20=>wX []<|zb<|wW<|rL [.v,.v,.E (.int .i64 (Qz.wrap ((j:Int)+(m:Int)))) (.int .i64 ((j+m:Nat):Int)) (zf (ya (a:=j) (b:=m) (by omega))),.v] H20 kr fun gs12 w17 H21=>?_;have hN:=hI.next hl ht hj (x:=⟨l,s,q,n1,c1,k⟩) hx (b':=b') hrw
   have H22:St B w0 w17 ((b9,.cells #[.bool l,.string s,.slice q n1 c1] 58 (0,0))::(b7,xo (Qf b' (n+1) cap'))::(b2,r0)::([(b',.cells cur' 58)]++(T2++(T++L)))):=H21.as kr;have h1:=hx.one;show ∃m,_/\_;refine⟨a+b-(j+m),(by omega),j+m,_,_,_,_,_,_,rfl,hN,?_,zl⟩;rw[QD];exact H22.sub (Qt ..)
 ·refine rS [.v,.v,.v,.E (.int .i64 (Qz.wrap ((a:Int)+(b:Int)))) (.int .i64 ((a+b:Nat):Int)) (zf (ya (a:=a) (b:=b) (by omega))),itF ((j:Int)<((a+b:Nat):Int))] H6 kr fun gs5 w6 H7=>zi kr kr<|zE 0 kr<|wW<|rS [.l 0,.v,.v,.E (.int .i64 (Qz.wrap ((a:Int)+(b:Int)))) (.int .i64 ((a+b:Nat):Int)) (zf (ya (a:=a) (b:=b) (by omega))),.s 1,.v,.v] H7 kr fun gs6 w7 H8=>?_;have H9:St B w0 w7 ((b7,xo (.slice p n c))::(b2,xo (.slice p n c))::(row++(T++L))):=H8.as kr;refine zk kr<|wV ?_;refine⟨[.agg #[.bool true,.string ⟨#[]⟩,.slice p n c],.int .i64 ((a+b:Nat):Int),.bool true],(.agg (b:=b2) (#[.bool true,.string ⟨#[]⟩,.slice p n c]) 58 (0,0) kr (H9.get 1 kr) kr (.tmp _ kr (.tmp _ kr .nil))),row++T,.inr ⟨_,_,_,_,_,_,_,rfl,hI.room,hI.done ht hr hl hb hj⟩,?_⟩;rw[QD];exact H9.sub (Qs _ (Qt ..))
theorem zqn (t:Qa)(ht:t.size<=4100)(ih: ∀u:Qa,u.size<t.size->FnZ Tryz.prog 50 #[.string u] (okR u)):FnZ Tryz.prog 50 #[.string t] (okR t):=by
 refine zhj [.cell 2 58,.tmp 3,.tmp 4] 78 Tryz.func50 fun B w0 w L H0=>zd [0,1,2] kr kr<|zA H0 (some 2) 58 (.agg #[.bool false,.string ⟨#[]⟩,.slice none 0 0]) kr kr kr ?_;intro b2 w1 H1;refine rp [.v,.v] H1 kr fun gs1 w2 H2=>wX []<|zb<|wW<|za kr ?_;by_cases h0:t=⟨#[]⟩
 ·refine rS [.v,.E (.bool (Rs t==Rs (⟨#[]⟩))) (.bool true) (zc (xu t (⟨#[]⟩) h0))] H2 kr fun gs2 w3 H3=>zh kr kr<|rS [.v,.s 0,.v,.v] H3 kr fun gs3 w4 H4=>?_;have H5:St B w0 w4 ((b2,r0)::L):=H4.as kr;refine zk kr<|wV ?_;exact zcM H5 (Rn _) (zgV (by rw[h0];decide)) kr kr kr
 ·have hz:=ux h0;refine rS [.v,.E (.bool (Rs t==Rs (⟨#[]⟩))) (.bool false) (zc (jG t (⟨#[]⟩) h0))] H2 kr fun gs2 w3 H3=>zi kr kr<|zj kr<|wW<|zd [0,1,2,3,4,5,6] kr kr<|rp [.v,.c (zqg t (by omega) hz)] H3 kr fun gs3 w4 H4=>wX [2,3,4,5,6] ?_;rcases zdB (rsz t) with hr | ⟨⟨a,b⟩,hr⟩
  ·refine zL 17 (v:=zcJ (rsz t)) (v':=.tuple #[.int .i64 (-1),.int .i64 0]) (by rw[hr];rfl) kr<|rp [.v,.v,.v,.v,.v] H4 kr fun gs4 w5 H5=>wX []<|zb<|wW<|za kr<|rS [.v,.v,.v,.n,.n,.n,.n,.n,.n,.v] H5 kr fun gs5 w6 H6=>zh kr kr<|rS [.v,.s 0,.v,.v] H6 kr fun gs6 w7 H7=>?_;have H8:St B w0 w7 ((b2,r0)::L):=H7.as kr;refine zk kr<|wV ?_;exact zcM H8 (Rn _) (zqh ht hr) kr kr kr
  ·have hps:=zcL hr;refine zL 17 (v:=zcJ (rsz t)) (v':=.tuple #[.int .i64 (a:Int),.int .i64 (b:Int)]) (by rw[hr];rfl) kr<|rp [.v,.v,.v,.v,.v] H4 kr fun gs4 w5 H5=>wX []<|zb<|wW<|za kr ?_;by_cases hl:a+b<=t.size
   ·refine rS [.v,itF ((a:Int)<0),.v,.v,.v,.E (.int .i64 (Qz.wrap ((a:Int)+(b:Int)))) (.int .i64 ((a+b:Nat):Int)) (zf (ya (a:=a) (b:=b) (by omega))),.v,.v,itF ((Ql t:Int)<((a+b:Nat):Int)),.v] H5 kr fun gs5 w6 H6=>zi kr kr<|zj kr<|wW<|za kr ?_;by_cases hb:by_ t 0<192
    ·refine rS [.v,itC 31 (.const (.int .i64 0)) 9 t 0,itT (((by_ t 0:Nat):Int)<192)] H6 kr fun gs6 w7 H7=>zh kr kr<|rS [.v,.v,.v,.v,.E (.int .i64 (Qz.wrap ((a:Int)+(b:Int)))) (.int .i64 ((a+b:Nat):Int)) (zf (ya (a:=a) (b:=b) (by omega))),.o (ins:=[((.tmp 34),.string t),((.tmp 35),.int .i64 (a:Int)),((.tmp 38),.int .i64 ((a+b:Nat):Int))]) (v:=.string (Qv t a (a+b))) (fun ρ o w ho hi=>vN (t:=9) (kd:=.i64) (kz:=.i64) kr (x:=(.tmp 34)) (y:=(.tmp 38)) (z:=(.tmp 35)) t a (a+b) ho hi.1 hi.2.2.1 hi.2.1 (by omega) (by omega) w),.v,.v,.v,.E (.int .i64 (Qz.wrap ((a:Int)+(b:Int)))) (.int .i64 ((a+b:Nat):Int)) (zf (ya (a:=a) (b:=b) (by omega))),.s 0,.v,.v] H7 kr fun gs7 w8 H8=>?_;have H9:St B w0 w8 ((b2,.cells #[.bool false,.string (t.extract a (a+b)),.slice none 0 0] 58 (0,0))::L):=H8.as kr;refine zk kr<|wV ?_;exact⟨[.agg #[.bool false,.string (t.extract a (a+b)),.slice none 0 0],.int .i64 ((a+b:Nat):Int),.bool true],(.agg (b:=b2) (#[.bool false,.string (t.extract a (a+b)),.slice none 0 0]) 58 (0,0) kr (H9.get 0 kr) kr (.tmp _ kr (.tmp _ kr .nil))),[],.inr ⟨_,_,_,_,_,_,_,rfl,QH _,zqj ht hz hr hl hb⟩,H9.sub (Qt ..)⟩
    ·refine rS [.v,itC 31 (.const (.int .i64 0)) 9 t 0,itF (((by_ t 0:Nat):Int)<192)] H6 kr fun gs6 w7 H7=>zi kr kr<|zj kr<|wW<|zt [0,2,3,4,5,6] fun ρ1=>?_;exact zqm t ht ih a b hr hl (by omega) b2 ρ1 H7
   ·refine rS [.v,itF ((a:Int)<0),.v,.v,.v,.E (.int .i64 (Qz.wrap ((a:Int)+(b:Int)))) (.int .i64 ((a+b:Nat):Int)) (zf (ya (a:=a) (b:=b) (by omega))),.v,.v,itT ((Ql t:Int)<((a+b:Nat):Int)),.v] H5 kr fun gs5 w6 H6=>zh kr kr<|rS [.v,.s 0,.v,.v] H6 kr fun gs6 w7 H7=>?_;have H8:St B w0 w7 ((b2,r0)::L):=H7.as kr;refine zk kr<|wV ?_;exact zcM H8 (Rn _) (zqi ht hr (by omega)) kr kr kr
theorem zi5: ∀(m:Nat) (t:Qa),t.size<m->t.size<=4100->FnZ Tryz.prog 50 #[.string t] (okR t)
 | 0,t,h,_=>by omega
 | m+1,t,h,ht=>zqn t ht fun u hu=>zi5 m u (by omega) (by omega)
def zcN (t:Qa)(v:Value)(T:Qb):Prop:=∃(l:Bool) (s:Qa) (p:Qc) (n c:Nat) (k:Fo) (e:Nat),v=.tuple #[.agg #[.bool l,.string s,.slice p n c],.int .i64 (e:Int)]/\SlIn T p n k/\s.size<=100000/\
 ((e=0/\t.size<=4000/\yd t l s k ⟨#[]⟩/\dp1 l (dpF k)<=8)\/
  (l=false/\s=⟨#[]⟩/\k=.nil/\((e=2/\4000<t.size)\/(e=4/\t.size<=4000/\kK t)\/(e=5/\t.size<=4000/\∃(l1:Bool) (s1:Qa) (k1:Fo),yd t l1 s1 k1 ⟨#[]⟩/\8<dp1 l1 (dpF k1)))))
def uc (t:Qa)(v:Value)(T:Qb):Prop:=∃(l:Bool) (s:Qa) (p:Qc) (n c:Nat) (k:Fo) (e:Nat),v=.tuple #[.agg #[.bool l,.string s,.slice p n c],.int .i64 (e:Int)]/\n<=c/\SlIn T p n k/\s.size<=100000/\
 ((e=0/\t.size<=4000/\yd t l s k ⟨#[]⟩/\dp1 l (dpF k)<=8)\/
  (l=false/\s=⟨#[]⟩/\k=.nil/\((e=2/\4000<t.size)\/(e=4/\t.size<=4000/\kK t)\/(e=5/\t.size<=4000/\∃(l1:Bool) (s1:Qa) (k1:Fo),yd t l1 s1 k1 ⟨#[]⟩/\8<dp1 l1 (dpF k1)))))
theorem uc.dec {t:Qa}{v:Value}{T:Qb}(h:uc t v T):zcN t v T:=by
 obtain⟨l,s,p,n,c,k,e,h1,_,h2⟩:=h;exact⟨l,s,p,n,c,k,e,h1,h2⟩
theorem uc.zero {t:Qa}{e:Nat}(h:(e=2/\4000<t.size)\/(e=4/\t.size<=4000/\kK t)\/(e=5/\t.size<=4000/\∃(l1:Bool) (s1:Qa) (k1:Fo),yd t l1 s1 k1 ⟨#[]⟩/\8<dp1 l1 (dpF k1))):uc t (.tuple #[.agg #[.bool false,.string ⟨#[]⟩,.slice none 0 0],.int .i64 (e:Int)]) []:=
 ⟨false,⟨#[]⟩,none,0,0,.nil,e,rfl,QH _,SlIn.none _,QU _,.inr ⟨rfl,rfl,rfl,h⟩⟩
theorem zcN.same {t:Qa}{l l':Bool}{s s':Qa}{k k':Fo}{e e':Nat}
 (h:(e=0/\t.size<=4000/\yd t l s k ⟨#[]⟩/\dp1 l (dpF k)<=8)\/(l=false/\s=⟨#[]⟩/\k=.nil/\((e=2/\4000<t.size)\/(e=4/\t.size<=4000/\kK t)\/(e=5/\t.size<=4000/\∃(l1:Bool) (s1:Qa) (k1:Fo),yd t l1 s1 k1 ⟨#[]⟩/\8<dp1 l1 (dpF k1)))))
 (h':(e'=0/\t.size<=4000/\yd t l' s' k' ⟨#[]⟩/\dp1 l' (dpF k')<=8)\/(l'=false/\s'=⟨#[]⟩/\k'=.nil/\((e'=2/\4000<t.size)\/(e'=4/\t.size<=4000/\kK t)\/(e'=5/\t.size<=4000/\∃(l1:Bool) (s1:Qa) (k1:Fo),yd t l1 s1 k1 ⟨#[]⟩/\8<dp1 l1 (dpF k1))))):
 e=e'/\l=l'/\s=s'/\k=k':=by
 have hno:kK t-> ∀(l:Bool) (s:Qa) (k:Fo),yd t l s k ⟨#[]⟩->False:=fun hb l s k ⟨hm,hp,hi⟩=>hb l s k hm hp (hi.trans (QI _));rcases h with⟨rfl,h4,h1,h2⟩ | ⟨rfl,rfl,rfl,⟨rfl,h4⟩ | ⟨rfl,h4,hb⟩ | ⟨rfl,h4,l1,s1,k1,h1,h2⟩⟩<;>rcases h' with⟨rfl,h4',h1',h2'⟩ | ⟨rfl,rfl,rfl,⟨rfl,h4'⟩ | ⟨rfl,h4',hb'⟩ | ⟨rfl,h4',l1',s1',k1',h1',h2'⟩⟩
 ·exact⟨rfl,yd.inj h4 h1 h1'⟩
 ·omega
 ·exact(hno hb' _ _ _ h1).elim
 ·obtain⟨rfl,rfl,rfl⟩:=yd.inj h4 h1 h1';omega
 ·omega
 ·exact⟨rfl,rfl,rfl,rfl⟩
 ·omega
 ·omega
 ·exact(hno hb _ _ _ h1').elim
 ·omega
 ·exact⟨rfl,rfl,rfl,rfl⟩
 ·exact(hno hb _ _ _ h1').elim
 ·obtain⟨rfl,rfl,rfl⟩:=yd.inj h4 h1 h1';omega
 ·omega
 ·exact(hno hb' _ _ _ h1).elim
 ·exact⟨rfl,rfl,rfl,rfl⟩
theorem zaU {B:Nat}{w0 w:World}{L Z:Qb}{b1:Nat}{ρ:Env}{t:Qa}{e:Nat}(H:St B w0 w ((b1,r0)::Z))(hZ:L.Sublist Z)(h:(e=2/\4000<t.size)\/(e=4/\t.size<=4000/\kK t)\/(e=5/\t.size<=4000/\∃(l1:Bool) (s1:Qa) (k1:Fo),yd t l1 s1 k1 ⟨#[]⟩/\8<dp1 l1 (dpF k1)))(h2:ρ 2=Qe b1)(h3:ρ 3=.int .i64 (e:Int)):
 ∃vs,Res Tryz.prog w ρ [.cell 2 58,.tmp 3] vs/\∃T,uc t (xi vs) T/\St B w0 w (T++L):=
 ⟨[.agg #[.bool false,.string ⟨#[]⟩,.slice none 0 0],.int .i64 (e:Int)],.agg (b:=b1) (#[.bool false,.string ⟨#[]⟩,.slice none 0 0]) 58 (0,0) h2 (H.get 0 rfl) kr (.tmp _ h3 .nil),[],uc.zero h,H.sub (Qs _ hZ)⟩
theorem zi6 (t:Qa)(ht:t.size<=4100):FnZ Tryz.prog 24 #[.string t] (uc t):=by
 refine zhj [.cell 2 58,.tmp 3] 37 Tryz.func24 fun B w0 w L H0=>zd [0,1] kr kr<|zA H0 (some 2) 58 (.agg #[.bool false,.string ⟨#[]⟩,.slice none 0 0]) kr kr kr ?_;intro b1 w1 H1;refine zn (some 3) (.int .i64 0)<|zb<|za kr ?_;by_cases h4:t.size<=4000
 ·refine rS [.v,.v,itF ((4000:Int)<(Ql t:Int))] H1 kr fun gs1 w2 H2=>zi kr kr<|zj kr<|wW<|zd [0,1,2,3,4,5,6,7,8,9] kr kr<|rp [.v] H2 kr fun gs2 w3 H3=>wX [1,2,3,4,5,6,7,8,9] ?_;have H4:St B w0 w3 ((b1,r0)::L):=H3.as kr;refine vU H4 (some 13) 50 #[.string t] (zi5 _ t (Nat.lt_succ_self _) (by omega)) kr kr ?_;rintro _ T w4 (⟨rfl,rfl,hbad⟩ | ⟨l,s,p,n,c,k,m,rfl,hcap,hx⟩) H5
  ·refine rp [.v,.v,.v,.v] H5 kr fun gs3 w5 H6=>wX [6,7,8,9]<|zA H6 (some 4) 58 (.agg #[.bool false,.string ⟨#[]⟩,.slice none 0 0]) kr kr kr ?_;intro b4 w6 H7;refine rp [.s 0,.v,.v] H7 kr fun gs4 w7 H8=>wX []<|zb<|wW<|za kr<|rS [.v,.v,.v,.n,.n,.n,.n,.v,.v,.n,.n,.n,.n,.v] H8 kr fun gs5 w8 H9=>zh kr kr<|rS [.v,.s 1,.v] H9 kr fun gs6 w9 H10=>?_;have H11:St B w0 w9 ((b4,r0)::(b1,r0)::L):=H10.as kr;refine zk kr<|wV ?_;exact zaU (e:=4) (H11.sub (Qt ..)) (Rn _) (.inr (.inl ⟨rfl,h4,zhi hbad⟩)) kr kr
  ·have H6:St B w0 w4 ((b1,r0)::(T++L)):=H5.perm Rl.symm;have hcnt:=hx.cnt;have hwt:=hx.wt;have hle:=hx.le;have hssz:=hx.ssz;refine rp [.v,.v,.v,.v] H6 kr fun gs3 w5 H7=>wX [6,7,8,9]<|zA H7 (some 4) 58 (.agg #[.bool false,.string ⟨#[]⟩,.slice none 0 0]) kr kr kr ?_;intro b4 w6 H8;refine rp [.s 0,.v,.v] H8 kr fun gs4 w7 H9=>wX []<|zb<|wW ?_;have H10:St B w0 w7 ((b4,.cells #[.bool l,.string s,.slice p n c] 58 (0,0))::(b1,r0)::(T++L)):=H9.as kr;refine za kr ?_;by_cases hm:m=t.size
   ·refine zd [0,1,2,3,4,5,6,7,8,9,10,11,12,13] kr kr<|rp [.v,.v,.v,.v,.v,.v,.E (.bool (!((m:Int)==(Ql t:Int)))) (.bool false) (zc (by rw[hm];simp)),.v,.v,.l 0] H10 kr fun gs5 w8 H11=>wX [10,11,12,13] ?_;have H12:St B w0 w8 ((b4,.cells #[.bool l,.string s,.slice p n c] 58 (0,0))::(b1,r0)::(T++L)):=H11.as kr;have hS:=hx.inn.at H12 (fun e he=>by simp[he]);refine yP H12 (some 27) 36 #[.agg #[.bool l,.string s,.slice p n c]] (fun w=>zq w.heap.size w p n k) (.string (zg (wr1 l s (szF k) (wrF k)))) (zeG l s p n c k (by omega) hx.mix hx.pur (by omega)) hS ?_;intro w9 H13;by_cases he:zg (wr1 l s (szF k) (wrF k))=t
    ·refine rp [.v,itE (zg (wr1 l s (szF k) (wrF k))) t he,.v] H13 kr fun gs6 w10 H14=>wX []<|zb ?_;have hii:yd t l s k ⟨#[]⟩:=⟨hx.mix,hx.pur,by rw[<-he,qq];exact(QI _).symm⟩
     have hdq:=zcD hx.mix hx.pur;refine zi kr kr<|zj kr<|wW<|za kr<|zd [0,1,2] kr kr<|rp [.l 0] H14 kr fun gs7 w11 H15=>wX [1,2] ?_;have H16:St B w0 w11 ((b4,.cells #[.bool l,.string s,.slice p n c] 58 (0,0))::(b1,r0)::(T++L)):=H15.as kr;have hS2:=hx.inn.at H16 (fun e he=>by simp[he]);refine yP H16 (some 33) 51 #[.agg #[.bool l,.string s,.slice p n c]] (fun w=>zq w.heap.size w p n k) (.int .i64 ((dq1 l (dqF k):Nat):Int)) (ziS l s p n c k (by omega) (by omega)) hS2 ?_;intro w12 H17;by_cases h8:dq1 l (dqF k)<=8
     ·refine rp [.E (.bool (decide (8<((dq1 l (dqF k):Nat):Int)))) (.bool false) (zc (decide_eq_false (by omega)))] H17 kr fun gs8 w13 H18=>wX []<|zb<|zi kr kr<|zj kr<|wW<|rS [.l 0,.s 1,.v] H18 kr fun gs9 w14 H19=>?_;have H20:St B w0 w14 ((b4,.cells #[.bool l,.string s,.slice p n c] 58 (0,0))::(b1,.cells #[.bool l,.string s,.slice p n c] 58 (0,0))::(T++L)):=H19.as kr;refine zk kr<|wV ?_;exact⟨[.agg #[.bool l,.string s,.slice p n c],.int .i64 ((0:Nat):Int)],(.agg (b:=b1) (#[.bool l,.string s,.slice p n c]) 58 (0,0) kr (H20.get 1 kr) kr (.tmp _ kr .nil)),T,⟨l,s,p,n,c,k,0,rfl,hcap,hx.inn,by omega,.inl ⟨rfl,h4,hii,by omega⟩⟩,H20.sub (Qs _ (Qt ..))⟩
     ·refine rp [.E (.bool (decide (8<((dq1 l (dqF k):Nat):Int)))) (.bool true) (zc (decide_eq_true (by omega)))] H17 kr fun gs8 w13 H18=>wX []<|zb<|zh kr kr<|rS [.v,.s 1,.v] H18 kr fun gs9 w14 H19=>?_;have H20:St B w0 w14 ((b4,.cells #[.bool l,.string s,.slice p n c] 58 (0,0))::(b1,r0)::(T++L)):=H19.as kr;refine zk kr<|wV ?_;exact zaU (e:=5) (H20.sub (Qt ..)) (QK _ _) (.inr (.inr ⟨rfl,h4,l,s,k,hii,by omega⟩)) kr kr
    ·refine rp [.v,itO (zg (wr1 l s (szF k) (wrF k))) t he,.v] H13 kr fun gs6 w10 H14=>wX []<|zb<|zh kr kr<|rS [.v,.s 1,.v] H14 kr fun gs9 w14 H19=>?_;have H20:St B w0 w14 ((b4,.cells #[.bool l,.string s,.slice p n c] 58 (0,0))::(b1,r0)::(T++L)):=H19.as kr;refine zk kr<|wV<|zaU (e:=4) (H20.sub (Qt ..)) (QK _ _) (.inr (.inl ⟨rfl,h4,?_⟩)) kr kr;intro l' s' k' hm2 hp2 he2;obtain⟨rfl,rfl,rfl,_⟩:=hx.is l' s' k' [] hm2 hp2 (by rw[he2,QI]);exact he (qj (by rw[qq,he2]))
   ·refine rS [.v,.v,.v,.v,.v,.v,.E (.bool (!((m:Int)==(Ql t:Int)))) (.bool true) (zc (by simp;omega)),.v,.v,.n,.n,.n,.n,.v] H10 kr fun gs5 w8 H11=>zh kr kr<|rS [.v,.s 1,.v] H11 kr fun gs9 w14 H19=>?_;have H20:St B w0 w14 ((b4,.cells #[.bool l,.string s,.slice p n c] 58 (0,0))::(b1,r0)::(T++L)):=H19.as kr;refine zk kr<|wV<|zaU (e:=4) (H20.sub (Qt ..)) (QK _ _) (.inr (.inl ⟨rfl,h4,?_⟩)) kr kr;intro l' s' k' hm2 hp2 he2;obtain⟨_,_,_,h9⟩:=hx.is l' s' k' [] hm2 hp2 (by rw[he2,QI]);have:=congrArg Qo he2;rw[zu]at this;exact hm (h9.trans this.symm)
 ·refine rS [.v,.v,itT ((4000:Int)<(Ql t:Int))] H1 kr fun gs1 w2 H2=>zh kr kr<|rS [.v,.s 0,.v] H2 kr fun gs2 w3 H3=>?_;have H4:St B w0 w3 ((b1,r0)::L):=H3.as kr;refine zk kr<|wV ?_;exact zaU (e:=2) H4 (Rn _) (.inl ⟨rfl,by omega⟩) kr kr
theorem zqo (t:Qa)(ht:t.size<=4100):FnZ Tryz.prog 24 #[.string t] (zcN t):=fun B w0 w L H=>
 (zi6 t ht B w0 w L H).mono fun _ _ ⟨v,T,e,hv,h⟩=>⟨v,T,e,hv.dec,h⟩
section
open D2 (Gh)
def zaV (T:Qb)(p:Qc)(i:Nat)(r:Fo):Prop:=r=.nil\/∃b off,p=some ⟨b,off,none⟩/\jM T r b (off+i*3)
theorem SlIn.start3 {T:Qb}{p:Qc}{n:Nat}{k:Fo}(h:SlIn T p n k):zaV T p 0 k:=
 h.2.2.imp id fun⟨b,o,e,h⟩=>⟨b,o,e,by rw[Nat.zero_mul,Nat.add_zero];exact h⟩
theorem zaV.open {T:Qb}{p:Qc}{i n:Nat}{r:Fo}(h:zaV T p i r)(hn:i+r.len=n)(hi:i<n):
 ∃l s k r' b off C ty fz p' n' c',r=.cons l s k r'/\p=some ⟨b,off,none⟩/\(b,Qk C ty fz)∈T/\off+i*3+3<=C.size/\
  C.extract (off+i*3) (off+i*3+3)=#[.bool l,.string s,.slice p' n' c']/\s.size<=0x800000000000/\SlIn T p' n' k/\zaV T p (i+1) r'/\i+1+r'.len=n:=by
 cases r with
 | nil=>simp only[Fo.len]at hn;omega
 | cons l s k r'=>
  rcases h with h|⟨b,off,e,⟨C,ty,fz,p',n',c',h1,h2,h3,h4,h5,h6,h7⟩,h8⟩
  ·cases h
  ·refine⟨l,s,k,r',b,off,C,ty,fz,p',n',c',rfl,e,h1,h2,h3,h4,⟨h5,h6,h7⟩,.inr ⟨b,off,e,?_⟩,?_⟩
   ·rw[show off+(i+1)*3=off+i*3+3 by omega];exact h8
   ·simp only[Fo.len]at hn;omega
section
variable {P:Program}{N:Nat}{ops:Array Oper}{i:Nat}{r:List Nat}{K:Env->World->Prop}{ρ:Env}{w w0:World}{B:Nat}{l:Qb}
theorem zqp (d:Option Nat)(t:TypeId)(x:Operand){n b off:Nat}{C W:Qd}{T:TypeId}{fz:Nat×Nat}(h:opk ops i ρ=some (d,true,.load t x))(hd:dOK d N=true)(ht:aggSize P t=some n)(hx:ev ρ x=.pointer (some ⟨b,off,none⟩))(hh:w.heap[b]? =some (.cells C T fz))(hs:off+n<=C.size)(hW:C.extract off (off+n)=W)
 (kk:WPs P N ops K r (zr ρ d (.agg W)) w):WPs P N ops K (i::r) ρ w:=by
 obtain⟨o,ho,rfl,hw,hop⟩:=zM h;refine WPo.run ho hw fun a ha=>?_;rw[zhx ht hh hs hW hop hx,Rx];exact⟨_,ha.put _ (zZ hd) _,kk⟩
end
theorem zqq {α:Type}(t a b z:List α):(a++(b++(t++z))).Perm (t++(a++(b++z))):=(List.Perm.append_left a (zb2 b t z)).trans (zb2 a t (b++z))
theorem zqr {α:Type}(x y z:α)(t:List α):(x::y::(t++ [z])).Perm (z::y::x::t):=by
 have h1:(z::y::x::t).Perm (x::y::z::t):=List.Perm.append_right t (List.reverse_perm [x,y,z]);exact(h1.trans (QM x (QM y ((QV (l₁:=[z]) (l₂:=t)))))).symm
theorem zqs {ks:Qi}(l:Bool)(s:Qa)(k r:Fo)(i:Nat)(kk:Qa)(hk:kk=(ks[i]?).getD ⟨#[98]⟩):yN (.cons l s k r) 40 (kfL ks) i=.cons (yg (by_ kk 0) l s k.len,ye (by_ kk 0) s) (ys (by_ kk 0) (kdB kk) k) (yN r 40 (kfL ks) (i+1)):=by
 subst hk;rw[zbX,zd1];cases ks[i]? with
 | some q=>rfl
 | none=>rfl
theorem zi7 (form s:Qa)(ks:Qi)(hK:kN form ks)(hne:ks≠[])(hs:s.size<=4100):FnT Tryz.prog 52 #[.string form,.string s] (fun _=>True) (kb form s):=by
 have h41:ks.length<=41:=by rw[<-hK.cut];exact zb0 form 41 0
 refine qz [.tmp 4,.tmp 5] 69 Tryz.func52 fun w _=>?_;have H0:=St.start w;refine rS [.v,.v] H0 kr fun gs1 w1 H1=>zd [0,1,2,3,4,5,6] kr kr<|rp [.v] H1 kr fun gs2 w2 H2=>wX [1,2,3,4,5,6] ?_;have H3:St w.heap.size w w2 []:=H2.as kr;refine qk H3 (some 18) 82 #[.string form] (zel form ks hK) trivial kr kr ?_;rintro _ T w3 ⟨kp,kn,kc,rfl,hrow⟩ H4;rcases hrow with⟨_,_,_,_,e⟩ | ⟨bk,curk,rfl,rfl,hrk⟩
 ·exact absurd e hne
 have hkn:ks.length=kn:=hrk.lenF;refine rp [.v,.v,.v,.v,.v] H4 kr fun gs3 w4 H5=>wX []<|zb<|wW<|za kr<|rS [.v,.v] H5 kr fun gs4 w5 H6=>zi kr kr<|zj kr<|wW<|zd [0,1,2,3,4,5,6,7] kr kr<|rp [.v] H6 kr fun gs5 w6 H7a=>wX [1,2,3,4,5,6,7] ?_;have H7:St w.heap.size w w6 [(bk,.cells curk 9)]:=H7a.as kr;refine vU H7 (some 25) 24 #[.string s] (zqo s hs) kr kr ?_;intro vd Td w7 hdec H8;obtain⟨l1,s1,p1,n1,c1,k1,er,rfl,hsl,hs1,hcase⟩:=hdec;have hno:er≠0-> ∀(k':Kf) (l':Fe),parseM form=some k'->l'.all fS.ok->yL 40 k' (0,⟨#[]⟩) l'≠(s,0):=fun her k' l' _ ho' hw'=>by
  obtain⟨hl9,he9⟩:=xA hw';have h0:=jW (show (zC true ⟨#[]⟩ (zI 40 k' l').len (zI 40 k' l')).2=0 by rw[he9]);have hz:s.size<=4000:=by
   have h9:=congrArg Ql h0.1;rw[he9,yU,h0.2.2.2.2.2.2]at h9;simp only at h9;omega
  exact her (zcN.same hcase (.inl ⟨rfl,hz,vV he9,h0.2.2.2.2.1⟩)).1
 have hit:er=0->s.size<=4000/\yd s l1 s1 k1 ⟨#[]⟩:=fun e0=>by
  rcases hcase with⟨_,h4,h5,_⟩|⟨_,_,_,⟨h,_⟩|⟨h,_⟩|⟨h,_⟩⟩
  ·exact⟨h4,h5⟩
  all_goals omega
 refine rp [.v,.v,.v] H8 kr fun gs6 w8 H9a=>wX [5,6,7] ?_;have H9:St w.heap.size w w8 (Td++ [(bk,.cells curk 9)]):=H9a.as kr;refine zA H9 (some 8) 58 (.agg #[.bool false,.string emB,.slice none 0 0]) kr kr kr ?_;intro b8 w9 H10;refine rp [.s 0,.v] H10 kr fun gs7 w10 H11=>wX []<|zb<|wW<|za kr ?_;by_cases her:er=0
 ·subst her;obtain⟨h4,hit⟩:=hit rfl;have hcnt:=hit.sz.2;have hn1:=hsl.1;have hkl:k1.len<=k1.cnt:=Fo.len_le k1;refine rS [.v,.v] H11 kr fun gs8 w11 H12a=>zi kr kr<|zj kr<|wW ?_;have H12:St w.heap.size w w11 ((b8,ixO l1 s1 p1 n1 c1)::(Td++ [(bk,.cells curk 9)])):=H12a.as kr;refine zd [0,1] kr kr<|jT H12 (some 31) (fun b=>Qf b 0 0) #[] 89 kr kr ?_;intro b10 w12 H13;refine rp [.v] H13 kr fun gs9 w13 H14=>wX []<|zb<|wW ?_;have H15:St w.heap.size w w13 ([(bk,.cells curk 9),(b8,ixO l1 s1 p1 n1 c1)]++([(b10,.cells #[] 89 (0,0))]++([]++Td))):=
   (show St w.heap.size w w13 ((b10,.cells #[] 89 (0,0))::(b8,ixO l1 s1 p1 n1 c1)::(Td++ [(bk,.cells curk 9)])) from H14.as kr).perm (zqr (b10,Qk #[] 89 (0,0)) (b8,ixO l1 s1 p1 n1 c1) (bk,Qk curk 9) Td).symm
  refine za kr<|rS [.v,.l 1,.v,.v] H15 kr fun gs10 w14 H16a=>zm 0 kr ?_;have H16:St w.heap.size w w14 ([(bk,.cells curk 9),(b8,ixO l1 s1 p1 n1 c1)]++([(b10,.cells #[] 89 (0,0))]++([]++Td))):=H16a.as kr;refine zO kr (fun mz ρ ww=> ∃(i:Nat) (r:Fo) (q:Qc) (cb:Nat) (M:List Fel) (Tb Tk:Qb),n1-i=mz/\zaV Td p1 i r/\i+r.len=n1/\r.cnt<=k1.cnt/\yl eS 89 q i cb Tb M/\AllE fS Tk M/\(yE M).app (yN r 40 (kfL ks) i)=yN k1 40 (kfL ks) 0/\St w.heap.size w ww ([(bk,.cells curk 9),(b8,ixO l1 s1 p1 n1 c1)]++(Tb++(Tk++Td)))/\Is [(0,.string form),(1,.string s),(6,Qf bk kn kc),(8,Qe b8),(10,.slice q i cb),(33,.slice p1 n1 c1),(34,iN n1),(35,iN i)] ρ) (n1-0) ⟨0,k1,Qg b10,0,[],[(b10,.cells #[] 89 (0,0))],[],rfl,hsl.start3,by omega,QH _,.inr ⟨b10,#[],rfl,rfl,⟨rfl,QH _,by unfold maxLen;omega,rfl,rfl⟩⟩,(fun _ h=>nomatch h),rfl,H16,zl⟩ ?_;clear H0 H1 H2 H3 H4 H5 H6 H7 H7a H8 H9 H9a H10 H11 H12 H12a H13 H14 H15 H16 H16a;rintro _ _ w15 ⟨i,r,q,cb,M,Tb,Tk,rfl,hR,hN,hcn,hrow,hAll,hM,H17,_,rfl⟩;by_cases hi:i<n1
  ·obtain⟨l2,s2,k2,r2,b1,off1,C1,T1,fz1,p2,n2,c2,rfl,hp2,hmem,hs2,hx2,hz2,hk2,hR2,hN2⟩:=hR.open hN hi;have hn2:n2<=1000000:=by
    have h9:=hk2.1;have h8:k2.cnt<=4000:=by simp only[Fo.cnt]at hcn;omega
    have h7:=Fo.len_le k2;omega
   refine rS [itT ((i:Int)<(n1:Int))] H17 kr fun gs11 w16 H18=>za kr<|zh kr kr<|zj kr<|wW<|za kr<|zm 1 kr<|zd [0,1,2,3,4,5] kr kr<|rp [.v,itX 33 35 47 58 3 48 b1 off1 n1 c1 i hp2] H18 kr fun gs12 w17 H19a=>wX [2,3,4,5] ?_;have H19:St w.heap.size w w17 ([(bk,.cells curk 9),(b8,ixO l1 s1 p1 n1 c1)]++(Tb++(Tk++Td))):=H19a.as kr;have hmT: ∀e∈Td,e∈[(bk,.cells curk 9),(b8,ixO l1 s1 p1 n1 c1)]++(Tb++(Tk++Td)):=fun e he=>QZ _ (QZ _ (QZ _ he));refine zqp (some 39) 58 (.tmp 38) (n:=3) kr kr kr kr (H19.own _ (hmT _ hmem)).2 hs2 hx2<|zA H19 (some 12) 58 (.agg #[.bool false,.string emB,.slice none 0 0]) kr kr kr ?_;intro b12 w18 H20;refine rp [.v,.s 0] H20 kr fun gs13 w19 H21a=>wX []<|zb<|wW ?_;have H21:St w.heap.size w w19 ((b12,ixO l2 s2 p2 n2 c2)::([(bk,.cells curk 9),(b8,ixO l1 s1 p1 n1 c1)]++(Tb++(Tk++Td)))):=H21a.as kr;refine rS [.v] H21 kr fun gs14 w20 H22=>za kr ?_;obtain⟨kk,hkk⟩:∃kk,kk=(ks[i]?).getD ⟨#[98]⟩:=⟨_,rfl⟩
   have hkd:kdOk kk=true:=by
    rw[hkk];cases hq:ks[i]? with
    | none=>rfl
    | some u=>exact hK.kd u (QF hq)
   refine qS (Q:=fun e ρ ww=>e=.normal/\St w.heap.size w ww ((b12,ixO l2 s2 p2 n2 c2)::([(bk,.cells curk 9),(b8,ixO l1 s1 p1 n1 c1)]++(Tb++(Tk++Td))))/\Is [(0,.string form),(1,.string s),(6,Qf bk kn kc),(8,Qe b8),(10,.slice q i cb),(12,Qe b12),(13,.string kk),(33,.slice p1 n1 c1),(34,iN n1),(35,iN i)] ρ) ?_ ?_
   ·refine za kr ?_;by_cases hik:i<kn
    ·have hcell:curk[0+i*1]? =some (.string kk):=by
      rw[hkk,Qr (by omega:i<ks.length)];exact hrk.rowAt.cell (Qr (by omega:i<ks.length)) 0 (by decide)
     refine rL [.v,.v,.v,itT ((i:Int)<(kn:Int))] H22 kr fun gs15 w21 H23=>wW<|zh kr kr<|rL [.v,.v,itX 44 45 23 9 1 16 bk 0 kn kc i rfl hik,.ls 1 (C:=curk) (off:=0+i*1) (v:=.string kk) hcell,.v] H23 kr fun gs16 w22 H24=>?_;exact⟨rfl,H24.as kr,zl⟩
    ·have ekk:kk=⟨#[98]⟩:=by rw[hkk,List.getElem?_eq_none (by omega)];rfl
     rw[ekk];refine rL [.v,.v,.v,itF ((i:Int)<(kn:Int))] H22 kr fun gs15 w21 H23=>wW<|zi kr kr<|zj kr ?_;exact⟨rfl,H23.as kr,zl⟩
   rintro _ _ w23 ⟨rfl,H25,_,rfl⟩;refine wW ?_;have hSl2:=hk2.at H25 fun e he=>QR _ (hmT e he);refine yu [0,1,2,3,4,5,6] kr<|rp [.v,.v,.l 0] H25 kr fun gs17 w24 H26a=>wX [3,4,5,6] ?_;have H26:St w.heap.size w w24 ([(b12,ixO l2 s2 p2 n2 c2),(bk,.cells curk 9),(b8,ixO l1 s1 p1 n1 c1)]++(Tb++(Tk++Td))):=H26a.as kr;refine qk H26 (some 51) 83 #[.string kk,itm l2 s2 p2 n2 c2] (zqc kk l2 s2 p2 n2 c2 k2 hkd hz2 hn2) (hk2.at H26 fun e he=>QZ _ (QZ _ (QZ _ he))) kr kr ?_;rintro _ T2 w25 ⟨y,rfl,hsl2⟩ H27;have H28:St w.heap.size w w25 ([(b12,ixO l2 s2 p2 n2 c2),(bk,.cells curk 9),(b8,ixO l1 s1 p1 n1 c1)]++(Tb++(T2++(Tk++Td)))):=H27.perm (zqq T2 [(b12,ixO l2 s2 p2 n2 c2),(bk,.cells curk 9),(b8,ixO l1 s1 p1 n1 c1)] Tb (Tk++Td));refine jT H28 (some 52) (fun b=>Qf b 1 1) (eS.cs (⟨(yg (by_ kk 0) l2 s2 k2.len,ye (by_ kk 0) s2),pG y,(ys (by_ kk 0) (kdB kk) k2).len,y.cap,ys (by_ kk 0) (kdB kk) k2⟩:Fel)).toArray 89 kr kr ?_;intro nb w26 H29;have hiM:=hrow.len;refine xL (S:=eS) (M:=M) (y:=(⟨(yg (by_ kk 0) l2 s2 k2.len,ye (by_ kk 0) s2),pG y,(ys (by_ kk 0) (kdB kk) k2).len,y.cap,ys (by_ kk 0) (kdB kk) k2⟩:Fel)) (row:=Tb) (Z:=[(b12,ixO l2 s2 p2 n2 c2),(bk,.cells curk 9),(b8,ixO l1 s1 p1 n1 c1)]++(T2++(Tk++Td))) (some 53) 85 89 48 (.tmp 48) (.tmp 52) (H29.perm (QM _ (zb2 Tb [(b12,ixO l2 s2 p2 n2 c2),(bk,.cells curk 9),(b8,ixO l1 s1 p1 n1 c1)] (T2++(Tk++Td))))) hrow kr kr kr kr kr (by omega) (by unfold maxLen;omega) ?_;intro b' cap' cur' w27 H30 hRw;refine rp [.v] H30 kr fun gs18 w28 H31=>wX []<|zb<|wW<|rL [itI i 1,.v] H31 kr fun gs19 w29 H32a=>?_;have H32:St w.heap.size w w29 ((b',.cells cur' 89)::(b12,ixO l2 s2 p2 n2 c2)::([(bk,.cells curk 9),(b8,ixO l1 s1 p1 n1 c1)]++(T2++(Tk++Td)))):=H32a.as kr;have H33:St w.heap.size w w29 ((b',.cells cur' 89)::([(bk,.cells curk 9),(b8,ixO l1 s1 p1 n1 c1)]++(T2++(Tk++Td)))):=H32.sub (Qq _ (Qt ..));have H34:St w.heap.size w w29 ([(bk,.cells curk 9),(b8,ixO l1 s1 p1 n1 c1)]++([(b',.cells cur' 89)]++((T2++Tk)++Td))):=by
    rw[QD T2 Tk Td];exact H33.perm (Rl (l₁:=[(bk,.cells curk 9),(b8,ixO l1 s1 p1 n1 c1)]))
   show ∃m,_/\_;refine⟨_,(by omega),i+1,r2,Qg b',cap',M++ [(⟨(yg (by_ kk 0) l2 s2 k2.len,ye (by_ kk 0) s2),pG y,(ys (by_ kk 0) (kdB kk) k2).len,y.cap,ys (by_ kk 0) (kdB kk) k2⟩:Fel)],[(b',.cells cur' 89)],T2++Tk,rfl,hR2,hN2,by simp only[Fo.cnt]at hcn;omega,.inr ⟨_,_,rfl,rfl,hRw⟩,?_,?_,H34,zl⟩
   ·exact(hAll.mono fun e he=>QZ _ he).snoc (x:=(⟨(yg (by_ kk 0) l2 s2 k2.len,ye (by_ kk 0) s2),pG y,(ys (by_ kk 0) (kdB kk) k2).len,y.cap,ys (by_ kk 0) (kdB kk) k2⟩:Fel)) (hsl2.mono fun e he=>Rd _ he) ⟨zd7 _ _ _ _,zd8 hz2⟩
   ·rw[zb9,<-hM,zqs l2 s2 k2 r2 i kk hkk]
  ·have h0:r=.nil:=by
    cases r with
    | nil=>rfl
    | cons l s k r=>simp only[Fo.len]at hN;omega
   subst h0;have hin:i=n1:=by simp only[Fo.len]at hN;omega
   rw[show yN .nil 40 (kfL ks) i=.nil from rfl,Fr.app_nil]at hM;have hiM:=hrow.len;have hRI:=hrow.toE.rIn (by decide) hAll (show i<=fS.mx from RZ (show i<=1000000 by omega) (by decide));rw[hM]at hRI;refine rS [itF ((i:Int)<(n1:Int))] H17 kr fun gs11 w16 H18=>za kr<|zi kr kr<|zE 0 kr<|wW<|zd [0,1,2,3,4,5,6,7] kr kr<|rp [.v,.v] H18 kr fun gs12 w17 H19a=>wX [2,3,4,5,6,7] ?_;have H19:St w.heap.size w w17 ([(bk,.cells curk 9),(b8,ixO l1 s1 p1 n1 c1)]++(Tb++(Tk++Td))):=H19a.as kr;have hmB: ∀e∈Tb++Tk,e∈[(bk,.cells curk 9),(b8,ixO l1 s1 p1 n1 c1)]++(Tb++(Tk++Td)):=fun e he=>QZ _ (by rw[<-QD];exact Rd _ he);have hwr:=zeH form ks hK hne q i cb (yN k1 40 (kfL ks) 0);have hfok:(yN k1 40 (kfL ks) 0).all fS.ok:=(hRI.at H19 hmB).ok;generalize hlv:yN k1 40 (kfL ks) 0=lv at*;refine yP H19 (some 58) 63 #[.string form,.slice q i cb] _ _ hwr (hRI.at H19 hmB) ?_;intro w18 H20;obtain⟨rb,re,hre⟩:∃rb re,wrV form lv=(rb,re):=⟨_,_,rfl⟩
   rw[hre];refine rp [.v,.v,.v,.v,.v] H20 kr fun gs13 w19 H21=>wX []<|zb<|wW<|za kr ?_;have hww:yL 40 (kfL ks) (0,⟨#[]⟩) lv=(rb,re):=by
    rw[<-hre];unfold wrV;rw[hK.parse]
   have hbad: ¬(rb=s/\re=0)-> ∀(k':Kf) (l':Fe),parseM form=some k'->l'.all fS.ok->yL 40 k' (0,⟨#[]⟩) l'≠(s,0):=fun hb k' l' hp' ho' hw'=>by
    obtain rfl:kfL ks=k':=Rr.inj (hK.parse.symm.trans hp');obtain⟨hl9,he9⟩:=xA hw';have hf:=(zaI (by decide) ho' hl9).2.2;have hk9:=(yd.inj h4 hit (vV he9)).2.2;have e9:lv=l':=by rw[<-hlv,hk9];exact hf
    rw[e9,hw']at hww;injection hww with e1 e2
    exact hb ⟨e1.symm,e2.symm⟩
   by_cases h0:re=0
   ·subst h0;by_cases hrs:rb=s
    ·subst hrs;refine rS [.v,.v,.v,.v,.v,.E (.bool (!(rb.toList==rb.toList))) (.bool false) (zc (by rw[vc];rfl)),.v] H21 kr fun gs14 w20 H22=>zi kr kr<|zj kr<|wW<|rS [.v,.v,.v] H22 kr fun gs15 w21 H23a=>?_;have H23:St w.heap.size w w21 ([(bk,.cells curk 9),(b8,ixO l1 s1 p1 n1 c1)]++(Tb++(Tk++Td))):=H23a.as kr;refine rRr [.tmp 4,.tmp 5] [] (.tuple #[.slice q i cb,.int .i64 0]) (zV w.heap.size w (kb form rb)) H23a kr ?_;refine⟨Tb++Tk,.inl ⟨q,i,cb,lv,kfL ks,hK.parse,rfl,hRI,hww⟩,H23.sub ?_⟩;rw[<-QD Tb Tk Td];exact(List.sublist_append_left ..).trans (QK ..)
    ·refine rS [.v,.v,.v,.v,.v,itO rb s hrs,.v] H21 kr fun gs14 w20 H22=>zh kr kr<|rS [.v,.v] H22 kr fun gs15 w21 H23=>rRr [.tmp 4,.tmp 5] [] (.tuple #[.slice none 0 0,.int .i64 4]) (zV w.heap.size w (kb form s)) H23 kr ?_;exact⟨[],.inr ⟨4,by decide,rfl,hbad fun h=>hrs h.1⟩,H23.sub (QE _)⟩
   ·refine rS [.v,.E (.bool (!((re:Int)==0))) (.bool true) (zc (by rw[beq_eq_false_iff_ne.2 (show (re:Int)≠0 by omega)];rfl)),.v,.n,.n,.n,.v] H21 kr fun gs14 w20 H22=>zh kr kr<|rS [.v,.v] H22 kr fun gs15 w21 H23=>rRr [.tmp 4,.tmp 5] [] (.tuple #[.slice none 0 0,.int .i64 4]) (zV w.heap.size w (kb form s)) H23 kr ?_;exact⟨[],.inr ⟨4,by decide,rfl,hbad fun h=>h0 h.2⟩,H23.sub (QE _)⟩
 ·refine rS [.v,.E (.bool (!((er:Int)==0))) (.bool true) (zc (by rw[beq_eq_false_iff_ne.2 (show (er:Int)≠0 by omega)];rfl))] H11 kr fun gs8 w11 H12=>zh kr kr<|rS [.v,.v,.v] H12 kr fun gs9 w12 H13=>rRr [.tmp 4,.tmp 5] [] (.tuple #[.slice none 0 0,.int .i64 (er:Int)]) (zV w.heap.size w (kb form s)) H13 kr ?_;exact⟨[],.inr ⟨(er:Int),by omega,rfl,hno her⟩,H13.sub (QE _)⟩
def hd0:Hdr:=⟨em,0,em,em,em,em,[],em,false,0,[]⟩
def xH (S:Qa)(v:Value)(T:Qb):Prop:=
 (∃(h:Hdr) (p:Qc) (n c:Nat) (q:Qc) (m k:Nat) (T1 T2:Qb),v=.tuple #[hdV h p n c q m k,.int .i64 0]/\rightH h=true/\yj h/\yl sS 9 p n c T1 h.vs/\yl sgF 52 q m k T2 h.ss/\T=T1++T2/\wrV qa (hdF h)=(S,0))\/
 (v=.tuple #[hdV hd0 none 0 0 none 0 0,.int .i64 4]/\T=[]/\ ∀h:Hdr,rightH h=true->yj h->wrV qa (hdF h)≠(S,0))
def qI (t:Qa):Sg:=if zP (sgR t) (sgS t) (sgV t)=true then (sgR t,sgS t,sgV t) else (0,0,0)
theorem zi8 {t:Qa}(h:t.size=65):∃e:Int,vX t=.tuple #[.agg (sgC (qI t)),.int .i64 e]:=by
 rw[zef];unfold qI;by_cases hm:zP (sgR t) (sgS t) (sgV t)=true
 ·rw[if_pos ⟨h,hm⟩,if_pos hm];exact⟨0,rfl⟩
 ·rw[if_neg (fun h9=>hm h9.2),if_neg hm];exact⟨4,rfl⟩
theorem zi9 {t:Qa}(h:t.size=65):sgOk (qI t):=by
 unfold qI;split
 ·exact⟨zcr h,zcs h⟩
 ·exact⟨by decide,by decide⟩
theorem zqt {x:Sg}(o:sgOk x)(m:sgMay x=true):qI (sgB x)=x:=by
 obtain⟨r,s,v⟩:=x;unfold qI;rw[zaO o.1,zaP o.2,zaQ m,if_pos m]
theorem zja: ∀ {L:List Sg},(∀x∈L,sgOk x)->L.all sgMay=true->(L.map sgB).map qI=L
 | [],_,_=>rfl
 | x::r,o,m=>by
  simp only[List.all_cons,Qu]at m;rw[Q8,Q8,zqt (o x (QX ..)) m.1,zja (fun y hy=>o y (QR _ hy)) m.2]
def hdX (pa:Qa)(hn:Nat)(ro tx pr va vo:Qa)(a rd:Nat)(L M:Qi):Hdr:=⟨pa,hn,ro,tx,pr,va,L,vo,decide (0<a),rd,M.map qI⟩
theorem zjb {h:Hdr}(o:yj h)(r:rightH h=true):hdX h.pa h.hh h.ro h.tx h.pr h.va h.vo (adN h.ad) h.rd h.vs (h.ss.map sgB)=h:=by
 refine zen rfl rfl rfl rfl rfl rfl rfl rfl ?_ rfl (zja o.ss (jC.1 r).ss);show decide (0<adN h.ad)=h.ad;cases h.ad<;>rfl
theorem uP {B:Nat}{w:World}{p:Qc}{n:Nat}{l:Fe}(h:SlR fS B w p n l)(h0:l≠.nil):∃b off C T fz,p=some ⟨b,off,none⟩/\w.heap[b]? =some (.cells C T fz)/\
 ∀(i:Nat) (a:Nat×Qa) (k:Fe),l.at i=some (a,k)->C[off+i*3+0]? =some (.int .u64 ((a.1:Nat):Int))/\C[off+i*3+1]? =some (.string a.2)/\∃p' n' c',C[off+i*3+2]? =some (.slice p' n' c')/\SlR fS B w p' n' k/\off+i*3+3<=C.size/\C.extract (off+i*3) (off+i*3+3)=#[.int .u64 ((a.1:Nat):Int),.string a.2,.slice p' n' c']:=by
 obtain⟨h1,h2,rfl|⟨b,off,e,hF⟩⟩:=h
 ·exact absurd rfl h0
 ·cases l with
  | nil=>exact absurd rfl h0
  | cons a0 k0 r0=>
   obtain⟨⟨C,T,fz,_,_,_,_,hh,_⟩,_⟩:=id hF;refine⟨b,off,C,T,fz,e,hh,fun i a k hk=>?_⟩;obtain⟨C',T',fz',p',n',c',hb,hh',hs,hx,hok,hn',hm',hs'⟩:=jh.at hF hk;rw[hh]at hh';injection hh' with hh';injection hh' with hC _ _;subst hC;have hs:off+i*3+3<=C.size:=hs;have key: ∀j,j<3->C[off+i*3+j]? =([Q0 .u64 ((a.1:Nat):Int),.string a.2,.slice p' n' c']:List Value)[j]? :=fun j hj=>by
    have:(C.extract (off+i*3) (off+i*3+3))[j]? =C[off+i*3+j]? :=by rw[Array.getElem?_extract,if_pos (by omega)]
    rw[<-this];have hx2:C.extract (off+i*3) (off+i*3+3)=([Q0 .u64 ((a.1:Nat):Int),.string a.2,.slice p' n' c']:List Value).toArray:=hx;rw[hx2];simp
   exact⟨key 0 (by decide),key 1 (by decide),p',n',c',key 2 (by decide),⟨hn',hm',hs'⟩,hs,hx⟩
theorem zaW: ∀ {L:Qi} {i:Nat} {x:Qa},L[i]? =some x->(lsF L).at i=some ((0,x),.nil)
 | a::r,0,x,h=>by simp at h;subst h;rfl
 | a::r,i+1,x,h=>zaW (L:=r) (by simpa using h)
theorem zcO {L:Qi}(h:0<L.length):lsF L≠.nil:=by cases L with | nil=>simp at h | cons a r=>intro e;unfold lsF at e;cases e
theorem zqu (S:Qa)(hS:S.size<=4100):FnT Tryz.prog 25 #[.string S] (fun _=>True) (xH S):=by
 refine qz [.cell 2 26,.tmp 3] 109 Tryz.func25 fun w _=>rS [.a,.v] (St.start w) kr fun gs1 w1 H1=>zd [0,1,2,3,4,5,6] kr kr<|rp [.v] H1 kr fun gs2 w2 H2=>wX [1,2,3,4,5,6] ?_;have H3:St w.heap.size w w2 [((gs1 0).b,hdO hd0 none 0 0 none 0 0)]:=H2.as kr;refine qk H3 (some 15) 52 #[.string qa,.string S] (zi7 qa S hK jq (by decide) hS) trivial kr kr ?_;intro v T w3 hrd H4;rcases hrd with⟨p4,n4,c4,l4,k4,hp4,rfl,hR4,hw4⟩ | ⟨e,he,rfl,hbad⟩
 case inr=>
  refine rp [.v,.v,.v,.v,.v] H4 kr fun gs3 w4 H5=>wX []<|zb<|wW<|za kr<|rS [.v,.E (.bool (e !=0)) (.bool true) (zc (bne_iff_ne.2 he))] H5 kr fun gs4 w5 H6=>zJ ?_;have H7:St w.heap.size w w5 [((gs1 0).b,hdO hd0 none 0 0 none 0 0)]:=H6.sub (QK T _);refine rS [.v,.s 0,.v] H7 kr fun gs20 w20 H20=>rRr [.cell 2 26,.tmp 3] [0] (.tuple #[hdV hd0 none 0 0 none 0 0,.int .i64 4]) (zV w.heap.size w (xH S)) H20 kr ?_;exact⟨[],.inr ⟨rfl,rfl,fun h hr ho e9=>hbad _ _ jq.parse (uK ho) (by unfold wrV at e9;rw[jq.parse]at e9;exact e9)⟩,H20.sub (QE _)⟩
 obtain rfl:kfL hK=k4:=Rr.inj (jq.parse.symm.trans hp4);refine rp [.v,.v,.v,.v,.v] H4 kr fun gs3 w4 H5=>wX []<|zb<|wW<|za kr<|rS [.v,.v] H5 kr fun gs4 w6 H6=>yh<|wW ?_;have hfit:=(uC jq.kd l4).1 (xA hw4).1;obtain⟨pa,hn,ro,tx,pr,va,L,vo,a,rd,M,rfl,z1,z2,z3,z4,z5,z6,z7,z8,z9,z10⟩:=(zes l4).1 hfit.1;have hsl:=hR4.at H6 fun e he=>Rd _ he;have hok4:=hsl.ok;have eqH: ∀h:Hdr,rightH h=true->yj h->wrV qa (hdF h)=(S,0)->(hdX pa hn ro tx pr va vo a rd L M)=h:=fun h hr ho e=>by
  unfold wrV at e;rw[jq.parse]at e;have e2:=uE hw4 e hok4 (uK ho);obtain⟨rfl,rfl,rfl,rfl,rfl,rfl,rfl,rfl,rfl,rfl,rfl⟩:=zer e2;exact zjb ho hr
 have hox:yj (hdX pa hn ro tx pr va vo a rd L M):=⟨hok4.2.2.1.1,hok4.2.2.2.2.2.2.2.2.2.2.2.2.2.2.2.2.2.2.1.1,by show pa.size<=_;omega,by show ro.size<=_;omega,by show tx.size<=_;omega,by show pr.size<=_;omega,by show va.size<=_;omega,by show vo.size<=_;omega,(fun x hx=>by have:=z6 x hx;omega),by show L.length<=_;omega,(fun x hx=>by obtain⟨y,hy,rfl⟩:=Rk.1 hx;exact zi9 (z9 y hy)),by show (M.map qI).length<=_;rw[Ra];omega⟩
 obtain⟨b,off,C,Tt,fz,hp,hh,hcell⟩:=uP hsl (by unfold hdL;exact fun e=>nomatch e);obtain rfl:n4=11:=hsl.1;have f0:=(hcell 0 _ _ rfl).2.1;have f1:=(hcell 1 _ _ rfl).1;have f2:=(hcell 2 _ _ rfl).2.1;have f3:=(hcell 3 _ _ rfl).2.1;have f4:=(hcell 4 _ _ rfl).2.1;have f5:=(hcell 5 _ _ rfl).2.1;obtain⟨p6,n6,c6,f6,s6,_⟩:=(hcell 6 _ _ rfl).2.2;have f7:=(hcell 7 _ _ rfl).2.1;have f8:=(hcell 8 _ _ rfl).1;have f9:=(hcell 9 _ _ rfl).1;obtain⟨p10,n10,c10,f10,s10,_⟩:=(hcell 10 _ _ rfl).2.2;have hn6:n6=L.length:=s6.1.trans (vY L);have hn10:n10=M.length:=s10.1.trans (vY M);have J0:=St.start w6;refine xV [(0,.string S),(2,Qe (gs1 0).b),(4,.slice p4 11 c4)] kr fun ρ1=>dSg (fun gsd=>[.v,.o (ins:=[((.tmp 21),.slice p4 11 c4)]) (v:=.pointer (some ⟨b,off+0*3,none⟩)) (fun ρ o w ho hi2=>yV (kd:=.i64) (t:=85) (e:=89) (K:=3) (bytes:=48) kr (x:=(.tmp 21)) (y:=.const (.int .i64 0)) b off 11 c4 0 hp ho hi2.1 rfl (by decide) w),.v,.fs (off:=off+0*3+1) (v:=.string pa) hh (zo hh) f0,.v,.o (ins:=[((.tmp 25),.slice p4 11 c4)]) (v:=.pointer (some ⟨b,off+1*3,none⟩)) (fun ρ o w ho hi2=>yV (kd:=.i64) (t:=85) (e:=89) (K:=3) (bytes:=48) kr (x:=(.tmp 25)) (y:=.const (.int .i64 1)) b off 11 c4 1 hp ho hi2.1 rfl (by decide) w),.v,.fs (off:=off+1*3+0) (v:=.int .u64 (hn:Int)) hh (zo hh) f1,.v,.o (ins:=[((.tmp 29),.slice p4 11 c4)]) (v:=.pointer (some ⟨b,off+2*3,none⟩)) (fun ρ o w ho hi2=>yV (kd:=.i64) (t:=85) (e:=89) (K:=3) (bytes:=48) kr (x:=(.tmp 29)) (y:=.const (.int .i64 2)) b off 11 c4 2 hp ho hi2.1 rfl (by decide) w),.v,.fs (off:=off+2*3+1) (v:=.string ro) hh (zo hh) f2,.v,.o (ins:=[((.tmp 33),.slice p4 11 c4)]) (v:=.pointer (some ⟨b,off+3*3,none⟩)) (fun ρ o w ho hi2=>yV (kd:=.i64) (t:=85) (e:=89) (K:=3) (bytes:=48) kr (x:=(.tmp 33)) (y:=.const (.int .i64 3)) b off 11 c4 3 hp ho hi2.1 rfl (by decide) w),.v,.fs (off:=off+3*3+1) (v:=.string tx) hh (zo hh) f3,.v,.o (ins:=[((.tmp 37),.slice p4 11 c4)]) (v:=.pointer (some ⟨b,off+4*3,none⟩)) (fun ρ o w ho hi2=>yV (kd:=.i64) (t:=85) (e:=89) (K:=3) (bytes:=48) kr (x:=(.tmp 37)) (y:=.const (.int .i64 4)) b off 11 c4 4 hp ho hi2.1 rfl (by decide) w),.v,.fs (off:=off+4*3+1) (v:=.string pr) hh (zo hh) f4,.v,.o (ins:=[((.tmp 41),.slice p4 11 c4)]) (v:=.pointer (some ⟨b,off+5*3,none⟩)) (fun ρ o w ho hi2=>yV (kd:=.i64) (t:=85) (e:=89) (K:=3) (bytes:=48) kr (x:=(.tmp 41)) (y:=.const (.int .i64 5)) b off 11 c4 5 hp ho hi2.1 rfl (by decide) w),.v,.fs (off:=off+5*3+1) (v:=.string va) hh (zo hh) f5,.v,.o (ins:=[((.tmp 45),.slice p4 11 c4)]) (v:=.pointer (some ⟨b,off+7*3,none⟩)) (fun ρ o w ho hi2=>yV (kd:=.i64) (t:=85) (e:=89) (K:=3) (bytes:=48) kr (x:=(.tmp 45)) (y:=.const (.int .i64 7)) b off 11 c4 7 hp ho hi2.1 rfl (by decide) w),.v,.fs (off:=off+7*3+1) (v:=.string vo) hh (zo hh) f7,.v,.o (ins:=[((.tmp 49),.slice p4 11 c4)]) (v:=.pointer (some ⟨b,off+8*3,none⟩)) (fun ρ o w ho hi2=>yV (kd:=.i64) (t:=85) (e:=89) (K:=3) (bytes:=48) kr (x:=(.tmp 49)) (y:=.const (.int .i64 8)) b off 11 c4 8 hp ho hi2.1 rfl (by decide) w),.v,.fs (off:=off+8*3+0) (v:=.int .u64 (a:Int)) hh (zo hh) f8,.E (.bool (decide ((a:Int)>0))) (.bool (decide (0<a))) (zc (by rw[Bool.eq_iff_iff];simp<;>omega)),.v,.o (ins:=[((.tmp 54),.slice p4 11 c4)]) (v:=.pointer (some ⟨b,off+9*3,none⟩)) (fun ρ o w ho hi2=>yV (kd:=.i64) (t:=85) (e:=89) (K:=3) (bytes:=48) kr (x:=(.tmp 54)) (y:=.const (.int .i64 9)) b off 11 c4 9 hp ho hi2.1 rfl (by decide) w),.v,.fs (off:=off+9*3+0) (v:=.int .u64 (rd:Int)) hh (zo hh) f9,.v,.a,.s 0]) J0 kr fun gsd w7 J1=>?_;obtain⟨b6,hb6⟩:∃b6,(gsd 38).b=b6:=⟨_,rfl⟩
 have J2:St w6.heap.size w6 w7 [(b6,Qk (hdC (hdX pa hn ro tx pr va vo a rd L M) none 0 0 none 0 0) 26)]:=J1.as (by rw[<-hb6];kernel_rfl);refine xV [(0,.string S),(2,Qe (gs1 0).b),(4,.slice p4 11 c4),(6,Qe b6)] (by rw[<-hb6];kernel_rfl) fun ρ2=>?_;clear J0 J1 hb6;refine za kr<|rS [.v,.o (ins:=[((.tmp 59),.slice p4 11 c4)]) (v:=.pointer (some ⟨b,off+6*3,none⟩)) (fun ρ o w ho hi2=>yV (kd:=.i64) (t:=85) (e:=89) (K:=3) (bytes:=48) kr (x:=(.tmp 59)) (y:=.const (.int .i64 6)) b off 11 c4 6 hp ho hi2.1 rfl (by decide) w),.v,.fs (off:=off+6*3+2) (v:=.slice p6 n6 c6) hh (zo hh) f6,.v,.v] J2 kr fun gs5 w8 J3=>yR 64 63 65 75 0 1 n6 (by omega) (fun i ρ ww=> ∃q1 cb1 Tb,yl sS 9 q1 i cb1 Tb (L.take i)/\St w6.heap.size w6 ww ((b6,Qk (hdC (hdX pa hn ro tx pr va vo a rd L M) q1 i cb1 none 0 0) 26)::Tb)/\Is [(0,.string S),(2,Qe (gs1 0).b),(4,.slice p4 11 c4),(6,Qe b6),(62,.slice p6 n6 c6),(63,iN n6),(64,iN i)] ρ) (by rintro i _ ww ⟨_,_,_,_,_,_,rfl⟩;exact⟨kr,kr⟩) ⟨none,0,[],.inl ⟨rfl,rfl,rfl,rfl,rfl⟩,J3.as kr,isK⟩ ?_ ?_
 ·clear J2 J3;rintro i _ w9 hi ⟨q1,cb1,Tb,hrow,J4,_,rfl⟩;obtain⟨x,hx⟩:∃x,L[i]? =some x:=⟨_,Qr (by omega)⟩
  obtain⟨bx,ox,CX,TX,fx,hpx,hhx,hcx⟩:=uP s6 (zcO (by omega));obtain⟨_,_,px,nx,cx,_,_,e1,e2⟩:=hcx i _ _ (zaW hx);refine zd [0,1,2,3] kr kr<|rp [itX 62 64 85 89 3 48 bx ox n6 c6 i hpx,.fp (off:=ox+i*3) (n:=3) (W:=#[wZ,.string x,.slice px nx cx]) hhx (zo hhx) e1 e2] J4 kr fun gs6 w10 J5=>wX [2,3] ?_;have J6:St w6.heap.size w6 w10 ((b6,Qk (hdC (hdX pa hn ro tx pr va vo a rd L M) q1 i cb1 none 0 0) 26)::Tb):=J5.as kr;refine zA J6 (some 8) 89 (.agg #[wZ,.string em,.slice none 0 0]) kr kr kr ?_;intro b8 w11 J7;refine rp [.s 0] J7 kr fun gs7 w12 J8=>wX []<|zb<|yu [0,1,2,3,4,5,6,7] kr<|rp [.v,.l 1,.v,.l 0] J8 kr fun gs8 w13 J9=>wX [4,5,6,7] ?_;have J10:St w6.heap.size w6 w13 ((b8,.cells #[wZ,.string x,.slice px nx cx] 89 (0,0))::(b6,Qk (hdC (hdX pa hn ro tx pr va vo a rd L M) q1 i cb1 none 0 0) 26)::Tb):=J9.as kr;refine jT J10 (some 72) (fun b=>Qf b 1 1) (sS.cs x).toArray 9 kr kr ?_;intro bn w14 J11;refine xL (S:=sS) (some 73) 23 9 16 (.tmp 69) (.tmp 72) (J11.perm (QM _ (QV (l₁:=Tb) (l₂:=[(b8,.cells #[wZ,.string x,.slice px nx cx] 89 (0,0)),(b6,Qk (hdC (hdX pa hn ro tx pr va vo a rd L M) q1 i cb1 none 0 0) 26)])))) hrow kr kr kr kr kr (by omega) (by unfold maxLen;omega) ?_;intro b' cap' cur' w15 J12 hr';refine rp [.v,.s 2] J12 kr fun gs9 w16 J13=>wX []<|zb ?_;have J14:St w6.heap.size w6 w16 [(b',.cells cur' 9),(b8,.cells #[wZ,.string x,.slice px nx cx] 89 (0,0)),(b6,Qk (hdC (hdX pa hn ro tx pr va vo a rd L M) (Qg b') (i+1) cap' none 0 0) 26)]:=J13.as kr;refine⟨kr,Qg b',cap',[(b',.cells cur' 9)],.inr ⟨b',cur',rfl,rfl,?_⟩,(J14.sub (Qq _ (Qt ..))).perm (QV (l₁:=[(b6,Qk (hdC (hdX pa hn ro tx pr va vo a rd L M) (Qg b') (i+1) cap' none 0 0) 26)]) (l₂:=[(b',Qk cur' 9)])),isK⟩;rw[yZ hx];exact hr'
 ·rintro _ w9 ⟨q1,cb1,Tb,hrow,J4,_,rfl⟩;clear J2 J3;rw[Qy (by omega)]at hrow;refine wW<|za kr<|rS [.v,.o (ins:=[((.tmp 76),.slice p4 11 c4)]) (v:=.pointer (some ⟨b,off+10*3,none⟩)) (fun ρ o w ho hi2=>yV (kd:=.i64) (t:=85) (e:=89) (K:=3) (bytes:=48) kr (x:=(.tmp 76)) (y:=.const (.int .i64 10)) b off 11 c4 10 hp ho hi2.1 rfl (by decide) w),.v,.fs (off:=off+10*3+2) (v:=.slice p10 n10 c10) hh (zo hh) f10,.v,.v] J4 kr fun gs6 w10 J5=>yR 81 80 82 97 2 3 n10 (by omega) (fun i ρ ww=> ∃q2 cb2 T2,yl sgF 52 q2 i cb2 T2 ((M.take i).map qI)/\St w6.heap.size w6 ww ((b6,Qk (hdC (hdX pa hn ro tx pr va vo a rd L M) q1 n6 cb1 q2 i cb2) 26)::(Tb++T2))/\Is [(0,.string S),(2,Qe (gs1 0).b),(4,.slice p4 11 c4),(6,Qe b6),(79,.slice p10 n10 c10),(80,iN n10),(81,iN i)] ρ) (by rintro i _ ww ⟨_,_,_,_,_,_,rfl⟩;exact⟨kr,kr⟩) ⟨none,0,[],.inl ⟨rfl,rfl,rfl,rfl,rfl⟩,by rw[QI];exact J5.as kr,isK⟩ ?_ ?_
  ·clear J4 J5;rintro i _ w11 hi ⟨q2,cb2,T2,hrow2,J6,_,rfl⟩;obtain⟨x,hx⟩:∃x,M[i]? =some x:=⟨_,Qr (by omega)⟩
   have hx65:=z9 x (QF hx);obtain⟨bx,ox,CX,TX,fx,hpx,hhx,hcx⟩:=uP s10 (zcO (by omega));obtain⟨_,_,px,nx,cx,_,_,e1,e2⟩:=hcx i _ _ (zaW hx);obtain⟨ee,hfr9⟩:=zi8 hx65;have hfr:=zia x (by omega);rw[hfr9]at hfr;refine zd [0,1,2,3] kr kr<|rp [itX 79 81 85 89 3 48 bx ox n10 c10 i hpx,.fp (off:=ox+i*3) (n:=3) (W:=#[wZ,.string x,.slice px nx cx]) hhx (zo hhx) e1 e2] J6 kr fun gs7 w12 J7=>wX [2,3] ?_;have J8:St w6.heap.size w6 w12 ((b6,Qk (hdC (hdX pa hn ro tx pr va vo a rd L M) q1 n6 cb1 q2 i cb2) 26)::(Tb++T2)):=J7.as kr;refine zA J8 (some 10) 89 (.agg #[wZ,.string em,.slice none 0 0]) kr kr kr ?_;intro b10 w13 J9;refine rp [.s 0] J9 kr fun gs8 w14 J10=>wX []<|zb<|zd [0,1,2,3,4,5,6,7,8] kr kr<|rp [.v,.l 0,.c hfr,.v,.v,.v] J10 kr fun gs9 w15 J11=>wX [6,7,8] ?_;have J12:St w6.heap.size w6 w15 ((b10,.cells #[wZ,.string x,.slice px nx cx] 89 (0,0))::(b6,Qk (hdC (hdX pa hn ro tx pr va vo a rd L M) q1 n6 cb1 q2 i cb2) 26)::(Tb++T2)):=J11.as kr;refine zA J12 (some 11) 52 (.agg (sgC (0,0,0))) kr kr kr ?_;intro b11 w16 J13;refine rp [.s 0,.v] J13 kr fun gs10 w17 J14=>wX []<|zb<|yu [0,1,2,3,4,5,6] kr<|rp [.v,.l 2,.l 0] J14 kr fun gs11 w18 J15=>wX [3,4,5,6] ?_;have J16:St w6.heap.size w6 w18 ((b11,sgO (qI x))::(b10,.cells #[wZ,.string x,.slice px nx cx] 89 (0,0))::(b6,Qk (hdC (hdX pa hn ro tx pr va vo a rd L M) q1 n6 cb1 q2 i cb2) 26)::(Tb++T2)):=J15.as kr;refine jT J16 (some 94) (fun b=>Qf b 1 1) (sgF.cs (qI x)).toArray 52 kr kr ?_;intro bn w19 J17;refine xL (S:=sgF) (some 95) 24 52 72 (.tmp 92) (.tmp 94) (J17.perm (QM _ (kg [(b11,sgO (qI x)),(b10,.cells #[wZ,.string x,.slice px nx cx] 89 (0,0)),(b6,Qk (hdC (hdX pa hn ro tx pr va vo a rd L M) q1 n6 cb1 q2 i cb2) 26)] Tb T2))) hrow2 kr kr kr kr kr (by omega) (by unfold maxLen;omega) ?_;intro b' cap' cur' w20 J18 hr';refine rp [.v,.s 3] J18 kr fun gs12 w21 J19=>wX []<|zb ?_;have J20:St w6.heap.size w6 w21 ((b',.cells cur' 52)::(b11,sgO (qI x))::(b10,.cells #[wZ,.string x,.slice px nx cx] 89 (0,0))::(b6,Qk (hdC (hdX pa hn ro tx pr va vo a rd L M) q1 n6 cb1 (Qg b') (i+1) cap') 26)::Tb):=J19.as kr;refine⟨kr,Qg b',cap',[(b',.cells cur' 52)],.inr ⟨b',cur',rfl,rfl,?_⟩,(J20.sub (Qq _ (Qs _ (Qt ..)))).perm (kg [(b6,Qk (hdC (hdX pa hn ro tx pr va vo a rd L M) q1 n6 cb1 (Qg b') (i+1) cap') 26)] Tb [(b',Qk cur' 52)]).symm,isK⟩;rw[yZ hx,RD];exact hr'
  ·rintro _ w11 ⟨q2,cb2,T2,hrow2,J6,_,rfl⟩;clear J4 J5;rw[Qy (by omega)]at hrow2;refine wW ?_;have hat: ∀ {ww:World},St w6.heap.size w6 ww ((b6,Qk (hdC (hdX pa hn ro tx pr va vo a rd L M) q1 n6 cb1 q2 n10 cb2) 26)::(Tb++T2))->qG ww (hdX pa hn ro tx pr va vo a rd L M) q1 n6 q2 n10:=fun H=>⟨hrow.atF H fun e he=>by simp[he],hrow2.atF H fun e he=>by simp[he]⟩
   refine za kr<|zd [0,1,2,3,4,5,6,7,8] kr kr<|rp [.l 0] J6 kr fun gs7 w12 J7=>wX [1,2,3,4,5,6,7,8] ?_;have J8:St w6.heap.size w6 w12 ((b6,Qk (hdC (hdX pa hn ro tx pr va vo a rd L M) q1 n6 cb1 q2 n10 cb2) 26)::(Tb++T2)):=J7.as kr;refine yP J8 (some 99) 30 #[hdV (hdX pa hn ro tx pr va vo a rd L M) q1 n6 cb1 q2 n10 cb2] _ _ (zpr (hdX pa hn ro tx pr va vo a rd L M) hox q1 n6 cb1 q2 n10 cb2) (hat J8) ?_;intro w13 J9;cases hr:rightH (hdX pa hn ro tx pr va vo a rd L M) with
   | false=>
    refine rp [.v,.v,.n,.n,.n,.n,.v] J9 kr fun gs8 w14 J10=>wX []<|zb<|wW<|zJ ?_;have H9:St w.heap.size w w14 [((gs1 0).b,hdO hd0 none 0 0 none 0 0)]:=(H6.addAll J10).sub (List.Sublist.trans (QK T _) (QK _ _));refine rS [.v,.s 0,.v] H9 kr fun gs20 w20 H20=>rRr [.cell 2 26,.tmp 3] [0] (.tuple #[hdV hd0 none 0 0 none 0 0,.int .i64 4]) (zV w.heap.size w (xH S)) H20 kr ?_;exact⟨[],.inr ⟨rfl,rfl,fun h hr2 ho e9=>by rw[eqH h hr2 ho e9,hr2]at hr;cases hr⟩,H20.sub (QE _)⟩
   | true=>
    refine rp [.v,.v,.l 0] J9 kr fun gs8 w14 J10=>wX [5,6,7,8] ?_;have J11:St w6.heap.size w6 w14 ((b6,Qk (hdC (hdX pa hn ro tx pr va vo a rd L M) q1 n6 cb1 q2 n10 cb2) 26)::(Tb++T2)):=J10.as kr;refine yP J11 (some 103) 34 #[hdV (hdX pa hn ro tx pr va vo a rd L M) q1 n6 cb1 q2 n10 cb2] _ _ (ziY (hdX pa hn ro tx pr va vo a rd L M) hox q1 n6 cb1 q2 n10 cb2) (hat J11) ?_;intro w15 J12;by_cases hrec:zY (hdX pa hn ro tx pr va vo a rd L M)=S
    ·refine rp [.v,itE (zY (hdX pa hn ro tx pr va vo a rd L M)) S hrec,.v] J12 kr fun gs9 w16 J13=>wX []<|zb<|wW<|yh<|wW ?_;have H9:St w.heap.size w w16 ((b6,Qk (hdC (hdX pa hn ro tx pr va vo a rd L M) q1 n6 cb1 q2 n10 cb2) 26)::((gs1 0).b,hdO hd0 none 0 0 none 0 0)::(Tb++T2)):=((H6.addAll J13).sub (l':=((b6,Qk (hdC (hdX pa hn ro tx pr va vo a rd L M) q1 n6 cb1 q2 n10 cb2) 26)::(Tb++T2))++ [((gs1 0).b,hdO hd0 none 0 0 none 0 0)]) (Vh (Rn _) (QK T _))).perm (QM _ (QV (l₁:=[((gs1 0).b,hdO hd0 none 0 0 none 0 0)]) (l₂:=Tb++T2)));refine rS [.l 0,.s 1,.v] H9 kr fun gs10 w17 H10=>rRr [.cell 2 26,.tmp 3] [1] (.tuple #[hdV (hdX pa hn ro tx pr va vo a rd L M) q1 n6 cb1 q2 n10 cb2,.int .i64 0]) (zV w.heap.size w (xH S)) H10 kr ?_;exact⟨Tb++T2,.inl ⟨(hdX pa hn ro tx pr va vo a rd L M),q1,n6,cb1,q2,n10,cb2,Tb,T2,rfl,hr,hox,hrow,hrow2,rfl,Prod.ext hrec (xR hr)⟩,(H10.as (l:=(b6,Qk (hdC (hdX pa hn ro tx pr va vo a rd L M) q1 n6 cb1 q2 n10 cb2) 26)::((gs1 0).b,hdO (hdX pa hn ro tx pr va vo a rd L M) q1 n6 cb1 q2 n10 cb2)::(Tb++T2)) kr).sub (Qs _ (Qt ..))⟩
    ·refine rp [.v,itO (zY (hdX pa hn ro tx pr va vo a rd L M)) S hrec,.v] J12 kr fun gs9 w16 J13=>wX []<|zb<|wW<|zJ ?_;have H9:St w.heap.size w w16 [((gs1 0).b,hdO hd0 none 0 0 none 0 0)]:=(H6.addAll J13).sub (List.Sublist.trans (QK T _) (QK _ _));refine rS [.v,.s 0,.v] H9 kr fun gs20 w20 H20=>rRr [.cell 2 26,.tmp 3] [0] (.tuple #[hdV hd0 none 0 0 none 0 0,.int .i64 4]) (zV w.heap.size w (xH S)) H20 kr ?_;exact⟨[],.inr ⟨rfl,rfl,fun h hr2 ho e9=>hrec (by rw[eqH h hr2 ho e9];exact congrArg Prod.fst e9)⟩,H20.sub (QE _)⟩
end
abbrev Hed:=Hdr×(Qc×Nat×Nat)×(Qc×Nat×Nat)
abbrev heC (x:Hed):Qd:=hdC x.1 x.2.1.1 x.2.1.2.1 x.2.1.2.2 x.2.2.1 x.2.2.2.1 x.2.2.2.2
def heS:Fl Hed where
 K:=11
 cs x:=(heC x).toList
 pos:=by decide
 len _:=rfl
 one a:=fun u hu=>by simp[hdC]at hu;rcases hu with h | h | h | h | h | h | h | h | h | h | h<;>rw[h]<;>rfl
section
open Go.ChangeShapes Go.WideShapes Go.ChangeAt
theorem zqv {α:Type}(l:List α)(h:l.length=2):∃a0 a1,l=[a0,a1]:=by
 match l,h with
 | [a0,a1],_=>exact⟨_,_,rfl⟩
section
variable {H:Type}{enc:TypeId×Value->H}{W:World}{sp:Nat->Bool}{held:Bool}
theorem zqw (fuel:Nat)(cs:List Value)(x:DataW H×List MemPlace)(h:Rg enc Tryz.prog W 0 sp held fuel 26 cs=some x):∃a:Hed,cs=heS.cs a/\(zeB a.1/\qL a.2.1.1 a.2.1.2.1 a.2.1.2.2/\qL a.2.2.1 a.2.2.2.1 a.2.2.2.2/\qG W a.1 a.2.1.1 a.2.1.2.1 a.2.2.1 a.2.2.2.1):=by
 obtain⟨xs,m,rfl,hxx,hl,hlen,hff⟩:=DataW.trod_struct Tryz.underlying26 h;rw[ziE]at hl;obtain⟨c0,c1,c2,c3,c4,c5,c6,c7,c8,c9,c10,rfl⟩:=ziG cs hl;obtain⟨y0,y1,y2,y3,y4,y5,y6,y7,y8,y9,y10,rfl⟩:=ziG xs hlen;have g0:=hff 0 _ rfl;have g1:=hff 1 _ rfl;have g2:=hff 2 _ rfl;have g3:=hff 3 _ rfl;have g4:=hff 4 _ rfl;have g5:=hff 5 _ rfl;have g6:=hff 6 _ rfl;have g7:=hff 7 _ rfl;have g8:=hff 8 _ rfl;have g9:=hff 9 _ rfl;have g10:=hff 10 _ rfl;change Rg enc Tryz.prog W 0 sp held m 9 (([c0,c1,c2,c3,c4,c5,c6,c7,c8,c9,c10].drop 0).take (Tryz.prog.cellsOf 9))=some y0 at g0;change Rg enc Tryz.prog W 0 sp held m 22 (([c0,c1,c2,c3,c4,c5,c6,c7,c8,c9,c10].drop 1).take (Tryz.prog.cellsOf 22))=some y1 at g1;change Rg enc Tryz.prog W 0 sp held m 9 (([c0,c1,c2,c3,c4,c5,c6,c7,c8,c9,c10].drop 2).take (Tryz.prog.cellsOf 9))=some y2 at g2;change Rg enc Tryz.prog W 0 sp held m 9 (([c0,c1,c2,c3,c4,c5,c6,c7,c8,c9,c10].drop 3).take (Tryz.prog.cellsOf 9))=some y3 at g3;change Rg enc Tryz.prog W 0 sp held m 9 (([c0,c1,c2,c3,c4,c5,c6,c7,c8,c9,c10].drop 4).take (Tryz.prog.cellsOf 9))=some y4 at g4;change Rg enc Tryz.prog W 0 sp held m 9 (([c0,c1,c2,c3,c4,c5,c6,c7,c8,c9,c10].drop 5).take (Tryz.prog.cellsOf 9))=some y5 at g5;change Rg enc Tryz.prog W 0 sp held m 23 (([c0,c1,c2,c3,c4,c5,c6,c7,c8,c9,c10].drop 6).take (Tryz.prog.cellsOf 23))=some y6 at g6;change Rg enc Tryz.prog W 0 sp held m 9 (([c0,c1,c2,c3,c4,c5,c6,c7,c8,c9,c10].drop 7).take (Tryz.prog.cellsOf 9))=some y7 at g7;change Rg enc Tryz.prog W 0 sp held m 4 (([c0,c1,c2,c3,c4,c5,c6,c7,c8,c9,c10].drop 8).take (Tryz.prog.cellsOf 4))=some y8 at g8;change Rg enc Tryz.prog W 0 sp held m 22 (([c0,c1,c2,c3,c4,c5,c6,c7,c8,c9,c10].drop 9).take (Tryz.prog.cellsOf 22))=some y9 at g9;change Rg enc Tryz.prog W 0 sp held m 24 (([c0,c1,c2,c3,c4,c5,c6,c7,c8,c9,c10].drop 10).take (Tryz.prog.cellsOf 24))=some y10 at g10;rw[zeA]at g0 g2 g3 g4 g5 g7;rw[ziF]at g1 g9;rw[zpt]at g8;rw[zpu]at g6;rw[zpv]at g10;have str: ∀ {c:Value} {y:DataW H×List MemPlace},Rg enc Tryz.prog W 0 sp held m 9 [c]=some y->∃s,c=.string s:=fun {c y} g=>by
  obtain⟨s,e,_,_⟩:=DataW.trod_string Tryz.underlying9 g;exact⟨s,by simpa using e⟩
 have num: ∀ {c:Value} {y:DataW H×List MemPlace},Rg enc Tryz.prog W 0 sp held m 22 [c]=some y->∃n:Nat,n<0x10000000000000000/\c=.int .u64 ((n:Nat):Int):=fun {c y} g=>by
  obtain⟨z,e,_,hw⟩:=Vb Tryz.underlying22 g;obtain⟨n,hn,rfl⟩:=zdn hw;exact⟨n,hn,by simpa using e⟩
 obtain⟨s0,rfl⟩:=str g0;obtain⟨n1,h1,rfl⟩:=num g1;obtain⟨s2,rfl⟩:=str g2;obtain⟨s3,rfl⟩:=str g3;obtain⟨s4,rfl⟩:=str g4;obtain⟨s5,rfl⟩:=str g5;obtain⟨s7,rfl⟩:=str g7;obtain⟨n9,h9,rfl⟩:=num g9;obtain⟨b,e8,_⟩:=DataW.trod_bool Tryz.underlying4 (show Rg enc Tryz.prog W 0 sp held m 4 [c8]=some y8 from g8);obtain rfl:c8=.bool b:=by simpa using e8
 obtain⟨p,n,c,L,rfl,sl,_,at6⟩:=zdo (S:=sS) Tryz.underlying23 zeA zpw (show Rg enc Tryz.prog W 0 sp held m 23 [c6]=some y6 from g6);obtain⟨q,mm,k,M,rfl,sl2,ok2,at10⟩:=zdo (S:=sgF) Tryz.underlying24 zez ziH (show Rg enc Tryz.prog W 0 sp held m 24 [c10]=some y10 from g10);exact⟨(⟨s0,n1,s2,s3,s4,s5,L,s7,b,n9,M⟩,(p,n,c),(q,mm,k)),rfl,⟨h1,h9,ok2⟩,sl,sl2,at6,at10⟩
end
theorem zjc:Tryz.prog.cellsOf 54=12:=kr
theorem zqx:Tryz.prog.cellsOf 27=1:=kr
theorem zqy:Tryz.prog.cellsOf 29=12:=kr
theorem zjd {α:Type}(l:List α)(h:l.length=12):∃a0 a1 a2 a3 a4 a5 a6 a7 a8 a9 a10 a11,l=[a0,a1,a2,a3,a4,a5,a6,a7,a8,a9,a10,a11]:=by
 match l,h with
 | [a0,a1,a2,a3,a4,a5,a6,a7,a8,a9,a10,a11],_=>exact⟨_,_,_,_,_,_,_,_,_,_,_,_,rfl⟩
theorem zqz {α:Type}(l:List α)(h:l.length=4):∃a0 a1 a2 a3,l=[a0,a1,a2,a3]:=by
 match l,h with
 | [a0,a1,a2,a3],_=>exact⟨_,_,_,_,rfl⟩
section
variable {H:Type}{enc:TypeId×Value->H}{W:World}{sp:Nat->Bool}{held:Bool}
theorem zqA (fuel:Nat)(cs:List Value)(x:DataW H×List MemPlace)(h:Rg enc Tryz.prog W 0 sp held fuel 54 cs=some x):∃a:Txn,cs=tnS.cs a/\yS a:=by
 obtain⟨xs,m,rfl,hxx,hl,hlen,hff⟩:=DataW.trod_struct Tryz.underlying54 h;rw[zjc]at hl;obtain⟨c0,c1,c2,c3,c4,c5,c6,c7,c8,c9,c10,c11,rfl⟩:=zjd cs hl;obtain⟨y0,y1,y2,y3,rfl⟩:=zqz xs hlen;have g0:=hff 0 _ rfl;have g1:=hff 1 _ rfl;have g2:=hff 2 _ rfl;have g3:=hff 3 _ rfl;change Rg enc Tryz.prog W 0 sp held m 9 (([c0,c1,c2,c3,c4,c5,c6,c7,c8,c9,c10,c11].drop 0).take (Tryz.prog.cellsOf 9))=some y0 at g0;change Rg enc Tryz.prog W 0 sp held m 22 (([c0,c1,c2,c3,c4,c5,c6,c7,c8,c9,c10,c11].drop 1).take (Tryz.prog.cellsOf 22))=some y1 at g1;change Rg enc Tryz.prog W 0 sp held m 22 (([c0,c1,c2,c3,c4,c5,c6,c7,c8,c9,c10,c11].drop 2).take (Tryz.prog.cellsOf 22))=some y2 at g2;change Rg enc Tryz.prog W 0 sp held m 52 (([c0,c1,c2,c3,c4,c5,c6,c7,c8,c9,c10,c11].drop 3).take (Tryz.prog.cellsOf 52))=some y3 at g3;rw[zeA]at g0;rw[ziF]at g1 g2;rw[zez]at g3;obtain⟨s0,e0,_,_⟩:=DataW.trod_string Tryz.underlying9 (show Rg enc Tryz.prog W 0 sp held m 9 [c0]=some y0 from g0);obtain⟨z1,e1,_,w1⟩:=Vb Tryz.underlying22 (show Rg enc Tryz.prog W 0 sp held m 22 [c1]=some y1 from g1);obtain⟨z2,e2,_,w2⟩:=Vb Tryz.underlying22 (show Rg enc Tryz.prog W 0 sp held m 22 [c2]=some y2 from g2);obtain⟨sg,e3,hsg⟩:=ziH m _ _ (show Rg enc Tryz.prog W 0 sp held m 52 [c3,c4,c5,c6,c7,c8,c9,c10,c11]=some y3 from g3);obtain⟨n1,h1,rfl⟩:=zdn w1;obtain⟨n2,h2,rfl⟩:=zdn w2;obtain rfl:c0=.string s0:=by simpa using e0
 obtain rfl:c1=.int .u64 (n1:Int):=by simpa using e1
 obtain rfl:c2=.int .u64 (n2:Int):=by simpa using e2
 exact⟨(s0,n1,n2,sg),by rw[e3];rfl,h1,h2,hsg⟩
theorem zqB {v:Value}{d:DataW H}{p:List MemPlace}{base:Nat}(hv:Value.okWide Tryz.prog W .any base 29 v)(h:DataW.Trod enc Tryz.prog W 0 sp held 29 v d p):
 ∃(hd:Hdr) (l:List Txn) (p:Qc) (n c:Nat) (q:Qc) (m k:Nat) (t:Qc) (z e:Nat),v=bkV hd p n c q m k t z e/\qL p n c/\qL q m k/\qL t z e/\zeB hd/\(∀x∈l,yS x)/\qH W hd l p n q m t z:=by
 obtain⟨cs,rfl,hsz,_⟩:∃cs,v=.agg cs/\cs.size=Tryz.prog.cellsOf 29/\Row.okWide Tryz.prog W .any base 29 cs:=by
  simpa [Value.okWide,Tryz.underlying29] using hv
 rw[zqy]at hsz;obtain⟨l⟩:=cs;obtain⟨c0,c1,c2,c3,c4,c5,c6,c7,c8,c9,c10,c11,rfl⟩:=zjd l hsz;obtain⟨fuel,hf⟩:=h;obtain⟨xs,m,rfl,hxx,hl,hlen,hff⟩:=DataW.trod_struct Tryz.underlying29 hf;obtain⟨y0,y1,rfl⟩:=zqv xs hlen;have g0:=hff 0 _ rfl;have g1:=hff 1 _ rfl;change Rg enc Tryz.prog W 0 sp held m 26 (([c0,c1,c2,c3,c4,c5,c6,c7,c8,c9,c10,c11].drop 0).take (Tryz.prog.cellsOf 26))=some y0 at g0;change Rg enc Tryz.prog W 0 sp held m 27 (([c0,c1,c2,c3,c4,c5,c6,c7,c8,c9,c10,c11].drop 11).take (Tryz.prog.cellsOf 27))=some y1 at g1;rw[ziE]at g0;rw[zqx]at g1;obtain⟨⟨hd,⟨p,n,c⟩,q,mm,k⟩,e0,hnum,sl,sl2,hat⟩:=zqw m _ _ (show Rg enc Tryz.prog W 0 sp held m 26 [c0,c1,c2,c3,c4,c5,c6,c7,c8,c9,c10]=some y0 from g0);obtain⟨t,z,e,L,rfl,sl3,okL,atL⟩:=zdo (S:=tnS) Tryz.underlying27 zjc zqA (show Rg enc Tryz.prog W 0 sp held m 27 [c11]=some y1 from g1);refine⟨hd,L,p,n,c,q,mm,k,t,z,e,?_,sl,sl2,sl3,hnum,okL,hat,atL⟩;have e9:[c0,c1,c2,c3,c4,c5,c6,c7,c8,c9,c10,.slice t z e]=[c0,c1,c2,c3,c4,c5,c6,c7,c8,c9,c10]++ [U5 t z e]:=rfl;rw[e9,e0];rfl
end
end
def zeO:List Int:=[1,32898,0x800000000000808a,0x8000000080008000,32907,2147483649,0x8000000080008081,0x8000000000008009,138,136,2147516425,2147483658,2147516555,0x800000000000008b,0x8000000000008089,0x8000000000008003,0x8000000000008002,0x8000000000000080,32778,0x800000008000000a,0x8000000080008081,0x8000000000008080,2147483649,0x8000000080008008]
theorem zqC:Ke.marksC=(zeO.map (Q0 .u64)).toArray:=kr
theorem zje:Tryz.prog.globalNamed "ecclesia/keccak.marks" =some 0:=kr
theorem zqD {W:World} (h:laidMetH Tryz.prog [("ecclesia/keccak.marks",Rows.laid_ecclesia_keccak_marks),("unicode/utf8.acceptRanges",Rows.laid_unicode_utf8_acceptRanges),("unicode/utf8.first",Rows.laid_unicode_utf8_first)] W):Ke.Marks W:=by
 rw[MakeChecks.laidMetH_plain _ _ _ kr]at h;have t:=Lib.tabIs_of_head (k:=.u64) (zs:=zeO) zje (show (Tryz.prog.globals[0]?).map (·.type)=some 113 by kernel_rfl) Tryz.underlying113 Tryz.underlying22 kr kr h;unfold Lib.TabIs World.var? at t;rw[zje]at t;simp only[Option.bind_some]at t;split at t
 ·rename_i cs T fz hh
  exact⟨T,fz,by rw[hh,zqC];exact congrArg (fun c=>some (Qk c T fz)) (Rr.inj t)⟩
 ·cases t
def zqE:Qd:=(Go.Pinned.utf8FirstZ.map fun n=>Q0 .u8 ((n:Nat):Int)).toArray
def zqF:Qd:=#[.int .u8 128,.int .u8 191,.int .u8 160,.int .u8 191,.int .u8 128,.int .u8 159,.int .u8 144,.int .u8 191,.int .u8 128,.int .u8 143,.int .u8 0,.int .u8 0,.int .u8 0,.int .u8 0,.int .u8 0,.int .u8 0,.int .u8 0,.int .u8 0,.int .u8 0,.int .u8 0,.int .u8 0,.int .u8 0,.int .u8 0,.int .u8 0,.int .u8 0,.int .u8 0,.int .u8 0,.int .u8 0,.int .u8 0,.int .u8 0,.int .u8 0,.int .u8 0]
noncomputable def zjf (os:Os):World:=
 let w0:=World.holding Tryz.prog os ⟨#[],#[],[]⟩
 { w0 with heap:=((w0.heap.modify 0 fun
  | .cells _ t frozen=>.cells (zeO.map (Q0 .u64)).toArray t frozen
  | o=>o).modify 1 fun
  | .cells _ t frozen=>.cells zqE t frozen
  | o=>o).modify 2 fun
  | .cells _ t frozen=>.cells zqF t frozen
  | o=>o }
theorem zqG (os:Os) (args:Array Value):laidMetH Tryz.prog [("ecclesia/keccak.marks",Rows.laid_ecclesia_keccak_marks),("unicode/utf8.acceptRanges",Rows.laid_unicode_utf8_acceptRanges),("unicode/utf8.first",Rows.laid_unicode_utf8_first)] ((zjf os).forCall (fun _ _=>0) ⟨#[],args,[]⟩).memory:=by
 rw[MakeChecks.laidMetH_plain _ _ _ kr];exact laidMet_of_run' 8 kr kr
section
open D2 (Gh)
abbrev wrO (q:Qc)(n c:Nat):Obj:=.cells #[.slice q n c] 144 (0,0)
abbrev flO (C:Qd):Obj:=.cells C 89
abbrev jD (x:Fel):Value:=.agg #[.int .u64 ((x.a.1:Nat):Int),.string x.a.2,.slice x.p x.n x.c]
def zF:Qd:=#[wZ,.string em,.slice none 0 0]
def FnW (f:Nat)(args:Qd)(p bd:Nat)(pre:World->Prop)(ok:List Fel->Qb->Prop):Prop:=
 ∀(w0 w:World) (q:Qc) (n c:Nat) (row L:Qb) (M:List Fel),M.length<=bd->RowE fS 89 q n c row M->pre w0->St w0.heap.size w0 w ((p,wrO q n c)::(row++L))->
  Calls Tryz.prog f args w fun e w'=> ∃v,e=.returned v/\v=.tuple #[]/\∃q' n' c' row' X T,ok X T/\RowE fS 89 q' n' c' row' (M++X)/\St w0.heap.size w0 w' ((p,wrO q' n' c')::(row'++(T++L)))
abbrev wrQ (w0:World)(p:Nat)(M:List Fel)(L:Qb)(ok:List Fel->Qb->Prop):Value->World->Prop:=fun v w'=>
 v=.tuple #[]/\∃q' n' c' row' X T,ok X T/\RowE fS 89 q' n' c' row' (M++X)/\St w0.heap.size w0 w' ((p,wrO q' n' c')::(row'++(T++L)))
theorem FnW.intro {f:Nat}{fn:Func}{c:Code}(rs:List ResultVar)(N:Nat){args:Qd}{p bd:Nat}{pre:World->Prop}{ok:List Fel->Qb->Prop}(hf:Tryz.prog.funcs[f]? =some fn)(hb:fn.body=some c)(hr:fn.results.toList=rs)(hn:args.size+(fn.ntmps-args.size)=N)
 (h: ∀(w0 w:World) (q:Qc) (n c':Nat) (row L:Qb) (M:List Fel),M.length<=bd->RowE fS 89 q n c' row M->pre w0->St w0.heap.size w0 w ((p,wrO q n c')::(row++L))->WP Tryz.prog N c (yx Tryz.prog rs (wrQ w0 p M L ok)) (ini args) w):FnW f args p bd pre ok:=
 fun w0 w q n c' row L M h1 h2 h3 h4=>(kt hf hb hr hn (h w0 w q n c' row L M h1 h2 h3 h4)).mono fun e w' ⟨v',he,hv⟩=>⟨v',he,hv⟩
theorem vz {f:Nat}{fn:Func}(rs:List ResultVar)(N:Nat){args:Qd}{p bd:Nat}{pre:World->Prop}{ok:List Fel->Qb->Prop}(hf:Tryz.prog.funcs[f]? =some fn)(h: ∀(w0 w:World) (q:Qc) (n c':Nat) (row L:Qb) (M:List Fel),M.length<=bd->RowE fS 89 q n c' row M->pre w0->St w0.heap.size w0 w ((p,wrO q n c')::(row++L))->WP Tryz.prog N (zz fn) (yx Tryz.prog rs (wrQ w0 p M L ok)) (ini args) w)(hb:fn.body=some (zz fn):=by kernel_rfl)(hr:fn.results.toList=rs:=by kernel_rfl)(hn:args.size+(fn.ntmps-args.size)=N:=by kernel_rfl):FnW f args p bd pre ok:=FnW.intro rs N hf hb hr hn h
theorem zcP {α:Type}(E A:List α)(x:α)(L:List α):(x::(A++(E++L))).Perm (E++x::(A++L)):=by
 refine List.Perm.trans ?_ (Rl.symm);refine QM _ ?_;rw[<-QD,<-QD];exact(QV).append_right _
section
variable {N:Nat}{ops:Array Oper}{i:Nat}{r:List Nat}{K:Env->World->Prop}{ρ:Env}{w:World}{w0:World}{L row:Qb}
theorem ql (E:Qb){p:Nat}{q:Qc}{n c:Nat}{M:List Fel}(HS:St w0.heap.size w0 w (E++(p,wrO q n c)::(row++L)))(hR:RowE fS 89 q n c row M)(d:Option Nat)(f:Nat)(args:Qd){bd:Nat}{pre:World->Prop}{ok:List Fel->Qb->Prop}(hc:FnW f args p bd pre ok)(hM:M.length<=bd)(hp:pre w0)
 (h:opv Tryz.prog ops i ρ w=some (d,true,.ok (.enter f args) w)) (hd:dOK d N=true)
 (kk: ∀q' n' c' row' X T w',ok X T->RowE fS 89 q' n' c' row' (M++X)->St w0.heap.size w0 w' (E++(p,wrO q' n' c')::(row'++(T++L)))->WPs Tryz.prog N ops K r (zr ρ d (.tuple #[])) w'):WPs Tryz.prog N ops K (i::r) ρ w:=by
 obtain⟨o,ho,rfl,hw,hr⟩:=yc h;refine WPo.run ho hw fun a ha=>?_;rw[hr,Oper.upon_enter];refine(hc w0 w q n c row (E++L) M hM hR hp (HS.perm (zcP E row _ L))).mono ?_;rintro _ w' ⟨_,rfl,rfl,q',n',c',row',X,T,hok,hR',HS'⟩;refine⟨_,ha.put _ (zZ hd) _,kk q' n' c' row' X T w' hok hR' (HS'.perm ?_)⟩;refine(zcP E row' (p,wrO q' n' c') (T++L)).symm.trans (QM _ ?_);refine List.Perm.append_left _ ?_;exact Ro _ _ _
end
theorem kh {w0 w:World}{p:Nat}{q:Qc}{n c:Nat}{row L T:Qb}{X M:List Fel}{ok:List Fel->Qb->Prop}(E:Qb)(hok:ok X T)(hR:RowE fS 89 q n c row (M++X))(HS:St w0.heap.size w0 w (E++(p,wrO q n c)::(row++(T++L)))):wrQ w0 p M L ok (.tuple #[]) w:=
 ⟨rfl,q,n,c,row,X,T,hok,hR,HS.sub (QK ..)⟩
def jE (B:Nat)(w0:World)(p bx:Nat)(fO:Obj)(q:Qc)(n c:Nat)(fv:Value)(row:Qb)(xs:List Value)(T:Qb):(Nat->Bool)->(Nat->Gh)->World->Prop:=fun L g w=>
 bif L 7 then (L 8=true->(g 8).b=(g 7).b)/\Rw 3 (g 7).cur (g 7).cap (n+1) (xs++zF.toList)/\St B w0 w ((bx,fO)::(p,.cells #[bif L 12 then Qf (g 7).b (n+1) (g 7).cap else .slice q n c] 144 (0,0))::((g 7).b,flO (bif L 9 then putA (g 7).cur (0+n*3) fv else (g 7).cur))::T)
 else bif L 6 then St B w0 w (((g 6).b,flO zF)::(bx,fO)::(p,wrO q n c)::(row++T))
 else St B w0 w ((bx,fO)::(p,wrO q n c)::(row++T))
section
variable {B:Nat}{w0:World}{p bx:Nat}{fO:Obj}{q:Qc}{n c:Nat}{fv:Value}{row:Qb}{xs:List Value}{T:Qb}{L:Nat->Bool}{g:Nat->Gh}{w:World}
theorem jE.st (h7:L 7=false)(h:jE B w0 p bx fO q n c fv row xs T L g w):∃l,St B w0 w l/\(bx,fO)∈l/\(p,wrO q n c)∈l:=by
 unfold jE at h;rw[h7]at h;cases h6:L 6 with
 | true=>rw[h6]at h;exact⟨_,h,by simp,by simp⟩
 | false=>rw[h6]at h;exact⟨_,h,by simp,by simp⟩
end
abbrev zaX (x:Fel):List Fel->Qb->Prop:=fun X T=>X=[x]/\T=[]
theorem zcQ (p:Nat)(x:Fel):FnW 137 #[Qe p,jD x] p 100000 (fun _=>True) (zaX x):=by
 refine FnW.intro (c:=zz Tryz.f137) [] 15 Tryz.func137 kr kr kr fun w0 w q n c row Lz M hM hRE _ HS=>?_;have hn:n=M.length:=hRE.len (by decide);refine zd [0] kr kr<|xU HS (some 3) 89 (.tmp 1) (jD x) kr kr kr ?_;intro bx w1 H1;refine zb<|wW ?_;have H2:St w0.heap.size w0 w1 ((bx,flO #[.int .u64 ((x.a.1:Nat):Int),.string x.a.2,.slice x.p x.n x.c])::(p,wrO q n c)::(row++Lz)):=H1;refine D2.g_draw0 [0,1,2,3,4,5,6,7,8,9,10,11,12] [(some 4,fun _=>Qe p),(some 5,fun _=>Qe p),(some 6,fun _=>Qe p),(some 7,fun _=>.slice q n c),(some 8,fun _=>jD x),(some 9,fun _=>iN n),(some 10,fun y=>Qf y.b 1 1),(some 11,fun y=>Qf y.b (n+1) y.cap),(some 12,fun y=>.pointer (some ⟨y.b,0+n*3,none⟩)),(none,fun _=>undef),(some 13,fun _=>Qe p),(some 14,fun _=>Qe p),(none,fun _=>undef)]
  (jE w0.heap.size w0 p bx (flO #[.int .u64 ((x.a.1:Nat):Int),.string x.a.2,.slice x.p x.n x.c]) q n c (jD x) row (zU fS M) Lz) kr kr kr H2.drew ⟨?_,?_,?_,?_,?_,?_,?_,?_,?_,?_,?_,?_,?_,trivial⟩ ?_
 ·exact D2.gv_vala
 ·exact D2.gv_vala
 ·exact D2.gv_vala
 ·refine D2.gv_ld (fun _ _ _ h=>h) 85 (.tmp 6) (fun _=>p) 0 #[.slice q n c] 144 (0,0) (fun g=>by kernel_rfl) (fun g=>by kernel_rfl) (fun L g w hN hp=>?_) kr kr;obtain⟨l,h,_,hm⟩:=hp.st (hN.post 7 kr);exact(h.own _ hm).2
 ·refine D2.gv_ld (fun _ _ _ h=>h) 89 (.tmp 3) (fun _=>bx) 0 #[.int .u64 ((x.a.1:Nat):Int),.string x.a.2,.slice x.p x.n x.c] 89 (0,0) (fun g=>by kernel_rfl) (fun g=>by kernel_rfl) (fun L g w hN hp=>?_) kr kr;obtain⟨l,h,hm,_⟩:=hp.st (hN.post 7 kr);exact(h.own _ hm).2
 ·exact D2.gv_vala
 ·refine D2.gives_of fun L1 gg ww hp hN=>?_;have h7:=hN.post 7 kr;unfold jE at hp;rw[h7,hN.1]at hp;obtain⟨o,ho,hd,hw,hrun⟩:=yc (show opv _ _ 6 _ ww=some (some 10,true,.ok (.value (Qf ww.heap.size 1 1)) (ww.alloc (.cells zF 89))) by kernel_rfl);refine⟨o,ho,hd,.inr ⟨hw,?_⟩⟩;refine(congrArg (D2.Runs _ _) hrun).mpr ?_;refine⟨{ b:=ww.heap.size },rfl,?_⟩;unfold jE;rw[show D2.put1 L1 6 7=false from h7,show D2.put1 L1 6 6=true from rfl];exact St.alloc hp _
 ·refine D2.gives_of fun L1 gg ww hp hN=>?_;have h6:=hN.bef 6 kr;have h8:=hN.post 8 kr;have h9:=hN.post 9 kr;have h12:=hN.post 12 kr;unfold jE at hp;rw[hN.1,h6]at hp;obtain⟨o,ho,hd,hw,hop⟩:=zM (show opk _ 7 _=some (some 11,true,ym 85 (.tmp 7) (.tmp 10)) by kernel_rfl);refine⟨o,ho,hd,.inr ⟨hw,?_⟩⟩;rcases hRE with⟨rfl,rfl,rfl,rfl,rfl⟩ | ⟨br,curr,rfl,rfl,hrw⟩
  ·obtain⟨b',cap',cur',w',hrun,HS',hr'⟩:=zbk (K:=3) hp (t:=85) (e:=89) (bytes:=48) (k:=0) (bx:=(gg 6).b) (c:=1) (Y:=zF) kr hop kr kr rfl rfl (xP rfl) (by omega);rw[hrun];refine⟨{ b:=b',cap:=cap',cur:=cur' },rfl,?_⟩;unfold jE;rw[show D2.put1 L1 7 7=true from rfl,show D2.put1 L1 7 9=false from h9,show D2.put1 L1 7 12=false from h12];refine⟨fun hh=>absurd (h8.symm.trans hh) (by decide),hr',?_⟩;exact(HS'.sub (Qq _ (Qt ..))).perm (Rl (l₁:=[(bx,flO #[.int .u64 ((x.a.1:Nat):Int),.string x.a.2,.slice x.p x.n x.c]),(p,wrO none 0 0)]))
  ·obtain⟨b',cap',cur',w',hrun,HS',hr'⟩:=zap (K:=3) hp (t:=85) (e:=89) (bytes:=48) (j:=3) (k:=0) (bx:=(gg 6).b) (c:=1) (Y:=zF) kr hop kr rfl hrw kr rfl rfl (xP rfl) (by omega) (by unfold maxLen;omega);rw[hrun];refine⟨{ b:=b',cap:=cap',cur:=cur' },rfl,?_⟩;unfold jE;rw[show D2.put1 L1 7 7=true from rfl,show D2.put1 L1 7 9=false from h9,show D2.put1 L1 7 12=false from h12];exact⟨fun hh=>absurd (h8.symm.trans hh) (by decide),hr',HS'.sub (Qt ..)⟩
 ·refine D2.gives_of fun L1 gg ww hp hN=>?_;have h7:=hN.bef 7 kr;obtain⟨o,ho,hd,hw,hop⟩:=zM (show opk _ 8 _=some (some 12,true,.indexAddr 85 (.tmp 11) (.tmp 9)) by kernel_rfl);refine⟨o,ho,hd,.inr ⟨hw,?_⟩⟩;rw[qX (kd:=.i64) (t:=85) (e:=89) (K:=3) (bytes:=48) kr (x:=(.tmp 11)) (y:=(.tmp 9)) (gg 7).b 0 (n+1) (gg 7).cap n rfl hop kr kr (by omega) ww];refine⟨{ b:=(gg 7).b },rfl,?_⟩;unfold jE at hp⊢;rw[h7]at hp;rw[show D2.put1 L1 8 7=true from h7];exact⟨fun _=>rfl,hp.2.1,hp.2.2⟩
 ·refine D2.gives_of fun L1 gg ww hp hN=>?_;have h7:=hN.bef 7 kr;have h8:=hN.bef 8 kr;unfold jE at hp;rw[h7,hN.1]at hp;obtain⟨hg8,hr',HS⟩:=hp;have hg:=hg8 h8;have hle:=hr'.putA (0+n*3) (jD x) (by show 0+n*3+3<=(n+1)*3;omega);obtain⟨o,ho,hd,hw,hop⟩:=zM (show opk _ 9 _=some (none,true,.store 89 (.tmp 12) (.tmp 8)) by kernel_rfl);refine⟨o,ho,hd,.inr ⟨hw,?_⟩⟩;rw[vQ (t:=89) (off:=0+n*3) (b:=(gg 7).b) (C:=(gg 7).cur) (T:=89) (v:=jD x) (C':=putA (gg 7).cur (0+n*3) (jD x)) (HS.get 2 kr) kr kr hle.1 rfl (by rw[<-hg];kernel_rfl) kr o hop];refine⟨default,rfl,?_⟩;unfold jE;rw[show D2.put1 L1 9 7=true from h7,show D2.put1 L1 9 9=true from rfl];exact⟨fun h=>hg8 h,hr',HS.store 2 (C:=(gg 7).cur) kr⟩
 ·exact D2.gv_vala
 ·exact D2.gv_vala
 ·refine D2.gives_of fun L1 gg ww hp hN=>?_;have h7:=hN.bef 7 kr;unfold jE at hp;rw[h7,hN.1]at hp;obtain⟨hg8,hr',HS⟩:=hp;obtain⟨o,ho,hd,hw,hop⟩:=zM (show opk _ 12 _=some (none,true,.store 85 (.tmp 14) (.tmp 11)) by kernel_rfl);refine⟨o,ho,hd,.inr ⟨hw,?_⟩⟩;rw[vQ (t:=85) (off:=0) (b:=p) (C:=#[.slice q n c]) (T:=144) (v:=Qf (gg 7).b (n+1) (gg 7).cap) (C':=#[Qf (gg 7).b (n+1) (gg 7).cap]) (HS.get 1 kr) kr kr (Qp kr) rfl kr kr o hop];refine⟨default,rfl,?_⟩;unfold jE;rw[show D2.put1 L1 12 7=true from h7,show D2.put1 L1 12 12=true from rfl];exact⟨fun h=>hg8 h,hr',HS.store 1 (C:=#[.slice q n c]) kr⟩
 ·intro L1 gg w14 hall hp;unfold jE at hp;rw[hall 7 (Qp kr),hall 9 (Qp kr),hall 12 (Qp kr)]at hp;obtain⟨_,hr',H4⟩:=hp;have hMl:(zU fS M).length=0+n*3:=by rw[xY,hn,Nat.zero_add];rfl
  have hnew:Rw 3 (putA (gg 7).cur (0+n*3) (jD x)) (gg 7).cap (n+1) (zU fS (M++ [x])):=by
   have h1:=(hr'.putA (0+n*3) (jD x) (by show 0+n*3+3<=(n+1)*3;omega)).2;have h2:=zdk (X:=zU fS M) (Z:=zF.toList) (V:=(jD x).cells.toList) hMl rfl;rw[vP];exact h2▸h1
  refine⟨[],.nil,?_⟩;exact kh (X:=[x]) (T:=[]) (row:=[((gg 7).b,flO (putA (gg 7).cur (0+n*3) (jD x)))]) [(bx,flO #[.int .u64 ((x.a.1:Nat):Int),.string x.a.2,.slice x.p x.n x.c])] ⟨rfl,rfl⟩ (.inr ⟨_,_,rfl,rfl,hnew⟩) H4
end
theorem qm {w w':World}(h:Ke.Marks w)(hb:Below w.heap.size w w'):Ke.Marks w':=by
 obtain⟨T,fz,h⟩:=h;exact⟨T,fz,by rw[hb.block 0 (zo h)];exact h⟩
theorem zqH (s:Qa)(hs:s.size<0x4000000000000000):FnP Tryz.prog 41 #[.string s] Ke.Marks (.string (zg (Kec.sumB (tl s)))):=by
 refine zR [.tmp 2] 6 Tryz.func41 fun w hM=>rS [.v] (St.start w) kr fun gs1 w1 H1=>zd [0,1,2,3] kr kr<|rp [.v,.nw (fun b=>Qf b 1 1) #[.string s] 9] H1 kr fun gs2 w2 H2=>wX [2,3] ?_;have H3:St w.heap.size w w2 [((gs2 1).b,.cells #[.string s] 9 (0,0))]:=H2.as kr;refine zaa H3 (some 5) 21 #[Qf (gs2 1).b 1 1] _ _ (Ke.of_fn1 (gs2 1).b s hs) ⟨qm hM H3.below,H3.get 0 rfl⟩ (fun w=>by kernel_rfl) kr ?_;intro w3 H4;refine rp [.v] H4 kr fun gs3 w4 H5=>wX []<|zb ?_;exact rR [.tmp 2] [] (.string (zg (Kec.sumB (tl s)))) H5 kr
def txV (to:Qa)(a n r s:Nat)(v:Int):Value:=.agg #[.string to,.int .u64 (a:Int),.int .u64 (n:Int),.int .u64 (w0 r),.int .u64 (w1 r),.int .u64 (w2 r),.int .u64 (w3 r),.int .u64 (w0 s),.int .u64 (w1 s),.int .u64 (w2 s),.int .u64 (w3 s),.int .i64 v]
abbrev txO (to:Qa)(a n r s:Nat)(v:Int):Obj:=.cells #[.string to,.int .u64 (a:Int),.int .u64 (n:Int),.int .u64 (w0 r),.int .u64 (w1 r),.int .u64 (w2 r),.int .u64 (w3 r),.int .u64 (w0 s),.int .u64 (w1 s),.int .u64 (w2 s),.int .u64 (w3 s),.int .i64 v] 54 (0,0)
def ud (x1 x2 x3 x4:Nat×Qa):Qd:=#[.int .u64 ((x1.1:Nat):Int),.string x1.2,.slice none 0 0,.int .u64 ((x2.1:Nat):Int),.string x2.2,.slice none 0 0,.int .u64 ((x3.1:Nat):Int),.string x3.2,.slice none 0 0,.int .u64 ((x4.1:Nat):Int),.string x4.2,.slice none 0 0]
theorem zqI {T:Qb}{b:Nat}(x1 x2 x3 x4:Nat×Qa)(hm:(b,Qk (ud x1 x2 x3 x4) 89)∈T)(h1:fS.ok x1)(h2:fS.ok x2)(h3:fS.ok x3)(h4:fS.ok x4):RIn fS T (Qg b) 4 (.cons x1 .nil (.cons x2 .nil (.cons x3 .nil (.cons x4 .nil .nil)))):=
 ⟨rfl,by decide,.inr ⟨b,0,rfl,⟨_,_,_,none,0,0,hm,of_decide_eq_true kr,by kernel_rfl,h1,rfl,by decide,.inl rfl⟩,⟨_,_,_,none,0,0,hm,of_decide_eq_true kr,by kernel_rfl,h2,rfl,by decide,.inl rfl⟩,⟨_,_,_,none,0,0,hm,of_decide_eq_true kr,by kernel_rfl,h3,rfl,by decide,.inl rfl⟩,⟨_,_,_,none,0,0,hm,of_decide_eq_true kr,by kernel_rfl,h4,rfl,by decide,.inl rfl⟩,trivial⟩⟩
def zjg (r s:Nat)(v:Int):Value:=.tuple #[.string (if zP r s v=true then sbs r s v else em),.int .i64 (if zP r s v=true then 0 else 1)]
theorem zqJ (r s:Nat)(hr:r<big)(hs:s<big)(v:Int):Fn Tryz.prog 72 #[sgv r s v] (zjg r s v):=by
 unfold zjg;cases hm:zP r s v with
 | true=>exact zed r s hr hs v hm
 | false=>exact zh7 r s hr hs v hm
theorem zqK (to:Qa)(a n r s:Nat)(v:Int)(hr:r<big)(hs:s<big)(h:zP r s v=true):Fn Tryz.prog 80 #[txV to a n r s v] (.bool true):=by
 have hb:(!(decide (r=0)&&(decide (s=0)&&(v==0))))=true:=by rw[decide_eq_false (zoY h)];rfl
 refine zv [.tmp 2] 7 Tryz.func80 fun w=>rS [.b,.v] (St.start w) kr fun gs1 w1 H1=>rS [.v,.l 0,.v,.oe (ins:=[((.tmp 4),.agg (Qn (sgv r s v))),((.tmp 5),.agg (Qn (sgv 0 0 0)))]) (v:=.bool (!(decide (r=0)&&(decide (s=0)&&(v==0))))) (v':=.bool true) (fun ρ o w ho hi=>zeg r s v 0 0 0 hr hs (by decide) (by decide) (x:=(.tmp 4)) (y:=(.tmp 5)) w ho hi.1 hi.2.1) (zc hb),.v] H1 kr fun gs2 w2 H2=>?_;exact rR [.tmp 2] [] (.bool true) H2 kr
theorem zqL (to:Qa)(a n:Nat):Fn Tryz.prog 80 #[txV to a n 0 0 0] (.bool false):=by
 refine zv [.tmp 2] 7 Tryz.func80 fun w=>rS [.b,.v] (St.start w) kr fun gs1 w1 H1=>rS [.v,.l 0,.v,.oe (ins:=[((.tmp 4),.agg (Qn (sgv 0 0 0))),((.tmp 5),.agg (Qn (sgv 0 0 0)))]) (v:=.bool (!(decide (0=0)&&(decide (0=0)&&((0:Int)==0))))) (v':=.bool false) (fun ρ o w ho hi=>zeg 0 0 0 0 0 0 (by decide) (by decide) (by decide) (by decide) (x:=(.tmp 4)) (y:=(.tmp 5)) w ho hi.1 hi.2.1) (zc rfl),.v] H1 kr fun gs2 w2 H2=>?_;exact rR [.tmp 2] [] (.bool false) H2 kr
theorem zjh (to:Qa)(a n r s:Nat)(v:Int)(hz:to.size<=1000000)(ha:a<0x10000000000000000)(hn:n<0x10000000000000000)(hr:r<big)(hs:s<big):Fn Tryz.prog 40 #[txV to a n r s v] (jl (txW to a n r s v)):=by
 refine zv [.tmp 2,.tmp 3] 27 Tryz.func40 fun w=>rS [.b,.v,.v] (St.start w) kr fun gs1 w1 H1=>rS [.v,.l 0,.c (zqJ r s hr hs v),.v,.v,.v,.v,.v] H1 kr fun gs2 w2 H2=>?_;have hsg:(if zP r s v=true then sbs r s v else em).size<=0x800000000000:=by
  split
  ·rw[jZ];omega
  ·exact QU _
 unfold txW;generalize (if zP r s v=true then sbs r s v else em)=sg at*;refine zd [0,1,2,3,4,5,6,7,8,9,10,11,12,13,14,15,16] kr kr<|rp [.v,.l 0,.v,.v,.l 0,.v,.v,.l 0,.v,.v,.v,.nw (fun b=>Qf b 4 4) (ud (0,to) (a,em) (n,em) (0,sg)) 89] H2 kr fun gs3 w3 H3=>wX [12,13,14,15,16] ?_;have H4:St w.heap.size w w3 [((gs1 0).b,txO to a n r s v),((gs3 11).b,.cells (ud (0,to) (a,em) (n,em) (0,sg)) 89)]:=H3.as kr;have hin:RIn fS [((gs1 0).b,txO to a n r s v),((gs3 11).b,.cells (ud (0,to) (a,em) (n,em) (0,sg)) 89)] (Qg (gs3 11).b) 4 (txF to a n sg):=
  zqI (0,to) (a,em) (n,em) (0,sg) (QR _ (QX ..)) ⟨(by decide:0<0x10000000000000000),by show to.size<=_;omega⟩ ⟨ha,QU _⟩ ⟨hn,QU _⟩ ⟨(by decide:0<0x10000000000000000),hsg⟩
 refine yP H4 (some 24) 70 #[.string je,Qf (gs3 11).b 4 4] _ _ (zhL je (Qg (gs3 11).b) 4 4 (txF to a n sg)) (hin.at H4 fun e he=>he) ?_;intro w4 H5;refine rp [.v,.v,.v,.v] H5 kr fun gs4 w5 H6=>wX []<|zb ?_;exact rR [.tmp 2,.tmp 3] [] (jl (wrV je (txF to a n sg))) H6 kr
def ki (S:Qa)(v:Value)(T:Qb):Prop:=
 (∃(to:Qa) (a n r s:Nat) (vv:Int),v=.tuple #[txV to a n r s vv,.int .i64 0]/\yQ to r s vv=true/\a<0x10000000000000000/\n<0x10000000000000000/\r<big/\s<big/\txW to a n r s vv=(S,0))\/
 (v=.tuple #[txV em 0 0 0 0 0,.int .i64 4]/\ ∀(to:Qa) (a n r s:Nat) (vv:Int),yQ to r s vv=true->a<0x10000000000000000->n<0x10000000000000000->r<big->s<big->txW to a n r s vv≠(S,0))
theorem uQ {to:Qa}{a n:Nat}{sg:Qa}(h1:to.size<=1000000)(ha:a<0x10000000000000000)(hn:n<0x10000000000000000)(h2:sg.size<=1000000):(txF to a n sg).all fS.ok:=
 ⟨⟨(by decide:0<0x10000000000000000),by show to.size<=_;omega⟩,trivial,⟨ha,QU _⟩,trivial,⟨hn,QU _⟩,trivial,⟨(by decide:0<0x10000000000000000),by show sg.size<=_;omega⟩,trivial,trivial⟩
theorem uR {C:Qd}{o:Nat}{a b c:Value}(hs:o+3<=C.size)(h:C.extract o (o+3)=([a,b]++ [c]).toArray):C[o]? =some a/\C[o+1]? =some b/\C[o+2]? =some c:=by
 have key: ∀j,j<3->C[o+j]? =(([a,b]++ [c]).toArray)[j]? :=fun j hj=>by
  rw[<-h,Array.getElem?_extract,if_pos (by omega)]
 exact⟨key 0 (by decide),key 1 (by decide),key 2 (by decide)⟩
theorem zji {B:Nat}{w0 w:World}{l T:Qb}{p:Qc}{n4:Nat}{to:Qa}{a n:Nat}{sg:Qa}(h:RIn fS T p n4 (txF to a n sg))(hS:St B w0 w l)(hl: ∀e∈T,e∈l):
 n4=4/\∃b off C ty fz,p=some ⟨b,off,none⟩/\(b,Qk C ty fz)∈T/\C[off+0*3+1]? =some (.string to)/\C[off+1*3+0]? =some (.int .u64 (a:Int))/\C[off+2*3+0]? =some (.int .u64 (n:Int))/\C[off+3*3+1]? =some (.string sg):=by
 obtain⟨h1,h2,h|⟨b,off,e,⟨⟨C,ty,fz,p1,n1,c1,m1,s1,x1,_⟩,⟨⟨C2,ty2,fz2,p2,n2,c2,m2,s2,x2,_⟩,⟨⟨C3,ty3,fz3,p3,n3,c3,m3,s3,x3,_⟩,⟨⟨C4,ty4,fz4,p4,n4,c4,m4,s4,x4,_⟩,_⟩⟩⟩⟩⟩⟩:=h
 ·cases h
 ·have hh:=(hS.own _ (hl _ m1)).2;have q2:=(hS.own _ (hl _ m2)).2;have q3:=(hS.own _ (hl _ m3)).2;have q4:=(hS.own _ (hl _ m4)).2;rw[hh]at q2 q3 q4;injection q2 with q2;injection q2 with q2 _ _;injection q3 with q3;injection q3 with q3 _ _;injection q4 with q4;injection q4 with q4 _ _
  subst q2 q3 q4;have k1:=uR s1 x1;have k2:=uR s2 x2;have k3:=uR s3 x3;have k4:=uR s4 x4;refine⟨h1,b,off,C,ty,fz,e,m1,?_,?_,?_,?_⟩
  ·rw[show off+0*3+1=off+1 by omega];exact k1.2.1
  ·rw[show off+1*3+0=off+3 by omega];exact k2.1
  ·rw[show off+2*3+0=off+3+3 by omega];exact k3.1
  ·rw[show off+3*3+1=off+3+3+3+1 by omega];exact k4.2.1
theorem zqM (S:Qa)(hS:S.size<=1000000):FnT Tryz.prog 49 #[.string S] (fun _=>True) (ki S):=by
 have hno:(∀(to:Qa) (a n:Nat) (sg:Qa),sg.size=65->zP (sgR sg) (sgS sg) (sgV sg)=true->to.size=20->a<0x10000000000000000->n<0x10000000000000000->yL 40 (kfL xC) (0,⟨#[]⟩) (txF to a n sg)≠(S,0))-> ∀(to:Qa) (a n r s:Nat) (vv:Int),yQ to r s vv=true->a<0x10000000000000000->n<0x10000000000000000->r<big->s<big->txW to a n r s vv≠(S,0):=fun h to a n r s vv hR ha hn hr hs e=>by
  rw[ke hR]at e;unfold yQ at hR;rw[Qu,decide_eq_true_iff]at hR;refine h to a n (sbs r s vv) (jZ r s vv) (by rw[zaO hr,zaP hs,zaQ hR.2];exact hR.2) hR.1 ha hn ?_;unfold wrV at e;rw[jp.parse]at e;exact e
 refine qz [.cell 2 54,.tmp 3] 42 Tryz.func49 fun w _=>rS [.a,.v] (St.start w) kr fun gs1 w1 H1=>zd [0,1,2,3,4,5,6] kr kr<|rp [.v] H1 kr fun gs2 w2 H2=>wX [1,2,3,4,5,6] ?_;have H3:St w.heap.size w w2 [((gs1 0).b,txO em 0 0 0 0 0)]:=H2.as kr;refine qk H3 (some 9) 77 #[.string je,.string S] (zhN je S (by omega)) trivial kr kr ?_;intro v T w3 hrd H4;rcases hrd with⟨p4,n4,c4,l4,k4,hp4,rfl,hR4,hw4⟩ | ⟨e,he,rfl,hbad⟩
 ·obtain rfl:kfL xC=k4:=Rr.inj (jp.parse.symm.trans hp4);refine rp [.v,.v,.v,.v,.v] H4 kr fun gs3 w4 H5=>wX []<|zb<|wW<|za kr<|rS [.v,.v] H5 kr fun gs4 w5 H6=>zi kr kr<|zj kr<|wW ?_;have hfit:=(uC jp.kd l4).1 (xA hw4).1;obtain⟨to,a,n,sg,rfl,hto,hsg⟩:=(zcv l4).1 hfit.1;have hok4:=(hR4.at H6 fun e he=>Rd _ he).ok;have ha:a<0x10000000000000000:=hok4.2.2.1.1;have hn:n<0x10000000000000000:=hok4.2.2.2.2.1.1;obtain⟨rfl,b,off,C,ty,fz,rfl,hmem,e1,e2,e3,e4⟩:=zji hR4 H6 fun e he=>Rd _ he;have H7:St w.heap.size w w5 [(b,.cells C ty fz),((gs1 0).b,txO em 0 0 0 0 0)]:=H6.sub (Vh (List.singleton_sublist.2 hmem) (Rn _));refine dSg (fun gsd=>[.v,.o (ins:=[((.tmp 15),.slice (some ⟨b,off,none⟩) 4 c4)]) (v:=.pointer (some ⟨b,off+0*3,none⟩)) (fun ρ o w ho hi2=>qX (kd:=.i64) (t:=85) (e:=89) (K:=3) (bytes:=48) kr (x:=(.tmp 15)) (y:=.const (.int .i64 0)) b off 4 c4 0 rfl ho hi2.1 rfl (by decide) w),.v,.ls 0 (C:=C) (off:=off+0*3+1) (v:=.string to) e1,.v,.o (ins:=[((.tmp 19),.slice (some ⟨b,off,none⟩) 4 c4)]) (v:=.pointer (some ⟨b,off+1*3,none⟩)) (fun ρ o w ho hi2=>qX (kd:=.i64) (t:=85) (e:=89) (K:=3) (bytes:=48) kr (x:=(.tmp 19)) (y:=.const (.int .i64 1)) b off 4 c4 1 rfl ho hi2.1 rfl (by decide) w),.v,.ls 0 (C:=C) (off:=off+1*3+0) (v:=.int .u64 (a:Int)) e2,.v,.o (ins:=[((.tmp 23),.slice (some ⟨b,off,none⟩) 4 c4)]) (v:=.pointer (some ⟨b,off+2*3,none⟩)) (fun ρ o w ho hi2=>qX (kd:=.i64) (t:=85) (e:=89) (K:=3) (bytes:=48) kr (x:=(.tmp 23)) (y:=.const (.int .i64 2)) b off 4 c4 2 rfl ho hi2.1 rfl (by decide) w),.v,.ls 0 (C:=C) (off:=off+2*3+0) (v:=.int .u64 (n:Int)) e3,.v,.a,.s 2]) H7 kr fun gsd w6 H8=>?_;have hfr:=zh9 sg (by omega);rw[zef]at hfr;by_cases hm:zP (sgR sg) (sgS sg) (sgV sg)=true
  ·rw[if_pos ⟨hsg,hm⟩]at hfr;refine rS [.v,.o (ins:=[((.tmp 29),.slice (some ⟨b,off,none⟩) 4 c4)]) (v:=.pointer (some ⟨b,off+3*3,none⟩)) (fun ρ o w ho hi2=>qX (kd:=.i64) (t:=85) (e:=89) (K:=3) (bytes:=48) kr (x:=(.tmp 29)) (y:=.const (.int .i64 3)) b off 4 c4 3 rfl ho hi2.1 rfl (by decide) w),.v,.ls 0 (C:=C) (off:=off+3*3+1) (v:=.string sg) e4,.c hfr,.v,.v,.v,.v,.s 2] H8 kr fun gs5 w7 H9=>za kr<|rS [.l 2,.c (zqK to a n (sgR sg) (sgS sg) (sgV sg) (zcr hsg) (zcs hsg) hm),.v] H9 kr fun gs6 w8 H10=>zi kr kr<|zj kr<|wW<|rS [.l 2,.s 1,.v] H10 kr fun gs7 w9 H11=>rRr [.cell 2 54,.tmp 3] [1] (.tuple #[txV to a n (sgR sg) (sgS sg) (sgV sg),.int .i64 0]) (zV w.heap.size w (ki S)) H11 kr ?_;have hR:yQ to (sgR sg) (sgS sg) (sgV sg)=true:=by unfold yQ;rw[decide_eq_true hto,hm];rfl
   refine⟨[],.inl ⟨to,a,n,_,_,_,rfl,hR,ha,hn,zcr hsg,zcs hsg,?_⟩,H11.sub (QE _)⟩;rw[ke hR,zie hsg];unfold wrV;rw[jp.parse];exact hw4
  ·rw[if_neg (fun h9=>hm h9.2)]at hfr;refine rS [.v,.o (ins:=[((.tmp 29),.slice (some ⟨b,off,none⟩) 4 c4)]) (v:=.pointer (some ⟨b,off+3*3,none⟩)) (fun ρ o w ho hi2=>qX (kd:=.i64) (t:=85) (e:=89) (K:=3) (bytes:=48) kr (x:=(.tmp 29)) (y:=.const (.int .i64 3)) b off 4 c4 3 rfl ho hi2.1 rfl (by decide) w),.v,.ls 0 (C:=C) (off:=off+3*3+1) (v:=.string sg) e4,.c hfr,.v,.v,.v,.v,.s 2] H8 kr fun gs5 w7 H9=>za kr<|rS [.l 2,.c (zqL to a n),.v] H9 kr fun gs6 w8 H10=>zh kr kr<|rS [.v,.s 1,.v] H10 kr fun gs7 w9 H11=>rRr [.cell 2 54,.tmp 3] [1] (.tuple #[txV em 0 0 0 0 0,.int .i64 4]) (zV w.heap.size w (ki S)) H11 kr ?_;refine⟨[],.inr ⟨rfl,hno fun to' a' n' sg' h1 h2 h3 ha' hn' e=>?_⟩,H11.sub (QE _)⟩;have:=uE e hw4 (uQ (by omega) ha' hn' (by omega)) hok4;obtain⟨_,_,_,rfl⟩:=zeh this;exact hm h2
 ·refine rp [.v,.v,.v,.v,.v] H4 kr fun gs3 w4 H5=>wX []<|zb<|wW<|za kr<|rS [.v,.E (.bool (!(e==0))) (.bool true) (zc (by rw[beq_eq_false_iff_ne.2 he];rfl))] H5 kr fun gs4 w5 H6=>zh kr kr ?_;have H7:St w.heap.size w w5 [((gs1 0).b,txO em 0 0 0 0 0)]:=H6.sub (QK T _);refine rS [.v,.s 0,.v] H7 kr fun gs5 w6 H8=>rRr [.cell 2 54,.tmp 3] [0] (.tuple #[txV em 0 0 0 0 0,.int .i64 4]) (zV w.heap.size w (ki S)) H8 kr ?_;refine⟨[],.inr ⟨rfl,hno fun to' a' n' sg' h1 h2 h3 ha' hn' e=>?_⟩,H8.sub (QE _)⟩;exact hbad _ _ jp.parse (uQ (by omega) ha' hn' (by omega)) e
theorem zjj (to:Qa)(a n r s:Nat)(v:Int)(hz:to.size<=1000000)(ha:a<0x10000000000000000)(hn:n<0x10000000000000000)(hr:r<big)(hs:s<big):FnP Tryz.prog 20 #[txV to a n r s v] Ke.Marks (if (txW to a n r s v).2=0 then .tuple #[.string (zg (Kec.sumB (tl (txW to a n r s v).1))),.int .i64 0] else .tuple #[.string em,.int .i64 (((txW to a n r s v).2:Nat):Int)]):=by
 have hw:=zhO je (txF to a n (if zP r s v=true then sbs r s v else em));have hbytes:=zjh to a n r s v hz ha hn hr hs;have hwz:(txW to a n r s v).1.size<=4000:=hw;generalize txW to a n r s v=x at*;obtain⟨xb,xe⟩:=x;refine zR [.tmp 2,.tmp 3] 16 Tryz.func20 fun w hM=>rS [.b,.v,.v] (St.start w) kr fun gs1 w1 H1=>rS [.l 0,.c hbytes,.v,.v,.v,.v,.v] H1 kr fun gs2 w2 H2=>za kr ?_;by_cases h0:xe=0
 ·subst h0;rw[if_pos rfl];refine rS [.v,.v] H2 kr fun gs3 w3 H3=>zi kr kr<|zj kr<|wW<|rS [.v,.cp (pre:=Ke.Marks) (zqH xb (by simp only at hwz;omega)) [] (fun w hb hd=>qm hM hb),.v,.v] H3 kr fun gs4 w4 H4=>?_;exact rR [.tmp 2,.tmp 3] [] (.tuple #[.string (zg (Kec.sumB (tl xb))),.int .i64 0]) H4 kr
 ·rw[if_neg h0];refine rS [.v,.E (.bool (!((xe:Int)==0))) (.bool true) (zc (by rw[beq_eq_false_iff_ne.2 (show (xe:Int)≠0 by omega)];rfl))] H2 kr fun gs3 w3 H3=>zh kr kr<|rS [.v,.v,.v] H3 kr fun gs4 w4 H4=>?_;exact rR [.tmp 2,.tmp 3] [] (.tuple #[.string em,.int .i64 (xe:Int)]) H4 kr
section
open D2 (Gh)
def fn0 (m:Nat):Fel:=⟨(m,em),none,0,0,.nil⟩
theorem vA (p:Nat)(s:Qa):FnW 100 #[Qe p,.string s] p 100000 (fun _=>True) (zaX (fe0 s)):=by
 refine vz [] 8 Tryz.func100 fun w0 w q n c row L M hM hRE _ HS=>yu [0,1,2,3] kr<|rp [.v,.v,.v] HS kr fun gs1 w1 H1=>wX [3]<|ql (row:=row) (L:=L) [] (q:=q) (n:=n) (c:=c) (p:=p) (M:=M) (H1.as kr) hRE (some 7) 137 #[Qe p,jD (fe0 s)] (zcQ p (fe0 s)) hM trivial kr kr ?_;intro q' n' c' row' X T w2 hok hR' H2;refine zb ?_;exact⟨[],.nil,kh [] hok hR' H2⟩
theorem zcR (p:Nat)(m:Nat):FnW 101 #[Qe p,.int .u64 (m:Int)] p 100000 (fun _=>True) (zaX (fn0 m)):=by
 refine vz [] 8 Tryz.func101 fun w0 w q n c row L M hM hRE _ HS=>yu [0,1,2,3] kr<|rp [.v,.v,.v] HS kr fun gs1 w1 H1=>wX [3]<|ql (row:=row) (L:=L) [] (q:=q) (n:=n) (c:=c) (p:=p) (M:=M) (H1.as kr) hRE (some 7) 137 #[Qe p,jD (fn0 m)] (zcQ p (fn0 m)) hM trivial kr kr ?_;intro q' n' c' row' X T w2 hok hR' H2;refine zb ?_;exact⟨[],.nil,kh [] hok hR' H2⟩
theorem zqN (p:Nat)(b:Bool):FnW 103 #[Qe p,.bool b] p 100000 (fun _=>True) (zaX (fn0 (adN b))):=by
 refine vz [] 9 Tryz.func103 fun w0 w q n c row L M hM hRE _ HS=>?_;cases b with
 | true=>
  refine rS [.v] HS kr fun gs1 w1 H1=>zJ<|yu [0,1] kr<|rp [.v] H1 kr fun gs2 w2 H2=>wX [1]<|ql (row:=row) (L:=L) [] (q:=q) (n:=n) (c:=c) (p:=p) (M:=M) (H2.as kr) hRE (some 6) 101 #[Qe p,.int .u64 ((1:Nat):Int)] (zcR p 1) hM trivial kr kr ?_;intro q' n' c' row' X T w3 hok hR' H3;refine zb ?_;exact⟨[],.nil,kh [] hok hR' H3⟩
 | false=>
  refine rS [.v] HS kr fun gs1 w1 H1=>zi kr kr<|yu [0,1] kr<|rp [.v] H1 kr fun gs2 w2 H2=>wX [1]<|ql (row:=row) (L:=L) [] (q:=q) (n:=n) (c:=c) (p:=p) (M:=M) (H2.as kr) hRE (some 8) 101 #[Qe p,.int .u64 ((0:Nat):Int)] (zcR p 0) hM trivial kr kr ?_;intro q' n' c' row' X T w3 hok hR' H3;refine zb ?_;exact⟨[],.nil,kh [] hok hR' H3⟩
theorem zqO (p:Nat)(x:Sg)(ho:sgOk x)(hm:sgMay x=true):FnW 140 #[Qe p,.agg (sgC x)] p 100000 (fun _=>True) (zaX (fe0 (sgB x))):=by
 have hb:=zed x.1 x.2.1 ho.1 ho.2 x.2.2 hm;refine vz [] 14 Tryz.func140 fun w0 w q n c row L M hM hRE _ HS=>zd [0] kr kr<|xU HS (some 3) 52 (.tmp 1) (.agg (sgC x)) kr kr kr ?_;intro bx w1 H1;refine zb ?_;have H2:St w0.heap.size w0 w1 ((bx,sgO x)::(p,wrO q n c)::(row++L)):=H1;refine rS [.l 0,.c hb,.v,.v,.v,.v,.v] H2 kr fun gs2 w2 H3=>yu [0,1,2] kr<|rp [.v,.v] H3 kr fun gs3 w3 H4=>wX [2]<|ql (row:=row) (L:=L) [(bx,sgO x)] (q:=q) (n:=n) (c:=c) (p:=p) (M:=M) (H4.as kr) hRE (some 13) 100 #[Qe p,.string (sgB x)] (vA p (sgB x)) hM trivial kr kr ?_;intro q' n' c' row' X T w4 hok hR' H5;refine zb ?_;exact⟨[],.nil,kh [(bx,sgO x)] hok hR' H5⟩
theorem zqP (p:Nat)(qs:Qc)(ns cs:Nat)(A:Qi)(hA:A.length<=1000):FnW 138 #[.slice qs ns cs,.func (.func 100) #[Qe p] #[]] p 1000 (fun w=>AtF sS w qs ns A) (fun X T=>X=A.map fe0/\T=[]):=by
 refine vz [] 16 Tryz.func138 fun w0 w q n c row L M hM hRE hP HS=>?_;have hn:=hP.1;refine rS [.v,.v,.v] HS kr fun gs1 w1 H1=>yR 8 7 9 15 0 1 ns (by omega) (fun i ρ ww=> ∃q' n' c' row',RowE fS 89 q' n' c' row' (M++(A.take i).map fe0)/\St w0.heap.size w0 ww ((p,wrO q' n' c')::(row'++L))/\Is [(1,.func (.func 100) #[Qe p] #[]),(6,.slice qs ns cs),(7,iN ns),(8,iN i)] ρ) (by rintro i _ ww ⟨_,_,_,_,_,_,_,rfl⟩;exact⟨kr,kr⟩) ⟨q,n,c,row,by simpa using hRE,H1.as kr,isK⟩ ?_ ?_
 ·rintro i _ w4 hi ⟨q',n',c',row',hR,H4,_,rfl⟩;obtain⟨x,hx⟩:∃x,A[i]? =some x:=⟨_,Qr (by omega)⟩
  obtain⟨bl,off,C,T,fz,hp,hh,hRA⟩:=hP.row2 (by omega);have hcx:C[off+i*1]? =some (.string x):=hRA.cell hx 0 (by decide);refine rS [itX 6 8 23 9 1 16 bl off ns cs i hp,.fs (off:=off+i*1) (v:=.string x) hh (zo hh) hcx,.v] H4 kr fun gs5 w5 H5=>yu [0,1,2] kr<|rp [.v,.v] H5 kr fun gs6 w6 H6=>wX [2] ?_;have hl:(M++(A.take i).map fe0).length<=100000:=by rw[Qx,Ra,Rb];omega
  refine ql (row:=row') (L:=L) [] (q:=q') (n:=n') (c:=c') (p:=p) (M:=M++(A.take i).map fe0) (H6.as kr) hR (some 14) 100 #[Qe p,.string x] (vA p x) hl trivial kr kr ?_;rintro q2 n2 c2 row2 X T w7 ⟨rfl,rfl⟩ hR2 H7;refine zb ?_;exact⟨kr,q2,n2,c2,row2,by rw[yZ hx,RD,<-QD];exact hR2,H7,isK⟩
 ·rintro _ w4 ⟨q',n',c',row',hR,H4,_,rfl⟩;rw[Qy (by omega)]at hR;exact⟨[],.nil,kh (T:=[]) [] ⟨rfl,rfl⟩ hR H4⟩
theorem zqQ (p:Nat)(qs:Qc)(ns cs:Nat)(A:List Sg)(hA:A.length<=1000)(ho: ∀x∈A,sgOk x)(hy:A.all sgMay=true):FnW 139 #[.slice qs ns cs,.func (.func 140) #[Qe p] #[]] p 1000 (fun w=>AtF sgF w qs ns A) (fun X T=>X=(A.map sgB).map fe0/\T=[]):=by
 refine vz [] 16 Tryz.func139 fun w0 w q n c row L M hM hRE hP HS=>?_;have hn:=hP.1;refine rS [.v,.v,.v] HS kr fun gs1 w1 H1=>yR 8 7 9 15 0 1 ns (by omega) (fun i ρ ww=> ∃q' n' c' row',RowE fS 89 q' n' c' row' (M++((A.take i).map sgB).map fe0)/\St w0.heap.size w0 ww ((p,wrO q' n' c')::(row'++L))/\Is [(1,.func (.func 140) #[Qe p] #[]),(6,.slice qs ns cs),(7,iN ns),(8,iN i)] ρ) (by rintro i _ ww ⟨_,_,_,_,_,_,_,rfl⟩;exact⟨kr,kr⟩) ⟨q,n,c,row,by simpa using hRE,H1.as kr,isK⟩ ?_ ?_
 ·rintro i _ w4 hi ⟨q',n',c',row',hR,H4,_,rfl⟩;obtain⟨x,hx⟩:∃x,A[i]? =some x:=⟨_,Qr (by omega)⟩
  obtain⟨bl,off,C,T,fz,hp,hh,hRA⟩:=hP.row2 (by omega);have hxm:=QF hx;refine zd [0,1,2,3] kr kr<|rp [itX 6 8 24 52 9 72 bl off ns cs i hp,.fp (off:=off+i*9) (n:=9) (W:=sgC x) hh (zo hh) (hRA _ _ hx).1 (hRA _ _ hx).2] H4 kr fun gs5 w5 H5=>wX [2,3] ?_;have H6:St w0.heap.size w0 w5 ((p,wrO q' n' c')::(row'++L)):=H5.as kr;refine zA H6 (some 5) 52 (.agg (sgC (0,0,0))) kr kr kr ?_;intro b5 w6 H7;refine rp [.s 0] H7 kr fun gs6 w7 H8=>wX []<|zb ?_;have H9:St w0.heap.size w0 w7 ((b5,sgO x)::(p,wrO q' n' c')::(row'++L)):=H8.as kr;refine yu [0,1,2] kr<|rp [.v,.l 0] H9 kr fun gs7 w8 H10=>wX [2] ?_;have hl:(M++((A.take i).map sgB).map fe0).length<=100000:=by rw[Qx,Ra,Ra,Rb];omega
  refine ql (row:=row') (L:=L) [(b5,sgO x)] (q:=q') (n:=n') (c:=c') (p:=p) (M:=M++((A.take i).map sgB).map fe0) (H10.as kr) hR (some 14) 140 #[Qe p,.agg (sgC x)] (zqO p x (ho x hxm) (List.all_eq_true.1 hy x hxm)) hl trivial kr kr ?_;rintro q2 n2 c2 row2 X T w9 ⟨rfl,rfl⟩ hR2 H11;refine zb ?_;exact⟨kr,q2,n2,c2,row2,by rw[yZ hx,RD,RD,<-QD];exact hR2,H11.sub (Qt ..),isK⟩
 ·rintro _ w4 ⟨q',n',c',row',hR,H4,_,rfl⟩;rw[Qy (by omega)]at hR;exact⟨[],.nil,kh (T:=[]) [] ⟨rfl,rfl⟩ hR H4⟩
theorem zqR (p:Nat)(qs:Qc)(ns cs:Nat)(A:Qi)(hA:A.length<=1000):FnW 102 #[Qe p,.slice qs ns cs] p 100000 (fun w=>AtF sS w qs ns A) (fun X T=> ∃q2 n2 c2,X=[⟨(0,em),q2,n2,c2,lsF (A)⟩]/\RowE fS 89 q2 n2 c2 T ((A).map fe0)):=by
 refine vz [] 13 Tryz.func102 fun w0 w q n c row L M hM hRE hP HS=>zd [0] kr kr<|zA HS (some 4) 144 (.agg #[.slice none 0 0]) kr kr kr ?_;intro b4 w1 H1;refine zb ?_;have H2:St w0.heap.size w0 w1 ((b4,wrO none 0 0)::(p,wrO q n c)::(row++L)):=H1;refine zd [0,1,2] kr kr<|rp [.v,.v] H2 kr fun gs2 w2 H3=>wX [2]<|ql (row:=[]) (L:=(p,wrO q n c)::(row++L)) [] (q:=none) (n:=0) (c:=0) (p:=b4) (M:=[]) (H3.as kr) (.inl ⟨rfl,rfl,rfl,rfl,rfl⟩) (some 7) 138 #[.slice qs ns cs,.func (.func 100) #[Qe b4] #[]] (zqP b4 qs ns cs A hA) (QU _) hP kr kr ?_;rintro q2 n2 c2 row2 X T w3 ⟨rfl,rfl⟩ hR2 H4;refine zb ?_;have H5:St w0.heap.size w0 w3 ((b4,wrO q2 n2 c2)::(row2++(p,wrO q n c)::(row++L))):=H4;refine yu [0,1,2,3,4] kr<|rp [.v,.v,.l 0,.v] H5 kr fun gs3 w4 H6=>wX [4] ?_;have H7:St w0.heap.size w0 w4 ((b4,wrO q2 n2 c2)::(row2++(p,wrO q n c)::(row++L))):=H6.as kr;refine ql (row:=row) (L:=row2++L) [(b4,wrO q2 n2 c2)] (q:=q) (n:=n) (c:=c) (p:=p) (M:=M) (H7.perm (QM _ (zcP row2 row _ L))) hRE (some 12) 137 #[Qe p,jD ⟨(0,em),q2,n2,c2,lsF (A)⟩] (zcQ p ⟨(0,em),q2,n2,c2,lsF (A)⟩) hM trivial kr kr ?_;rintro q3 n3 c3 row3 X T w5 ⟨rfl,rfl⟩ hR3 H8;refine zb ?_;exact⟨[],.nil,kh (T:=row2) [(b4,wrO q2 n2 c2)] ⟨q2,n2,c2,rfl,hR2⟩ hR3 H8⟩
theorem zqS (p:Nat)(qs:Qc)(ns cs:Nat)(A:List Sg)(hA:A.length<=1000)(ho: ∀x∈A,sgOk x)(hy:A.all sgMay=true):FnW 104 #[Qe p,.slice qs ns cs] p 100000 (fun w=>AtF sgF w qs ns A) (fun X T=> ∃q2 n2 c2,X=[⟨(0,em),q2,n2,c2,lsF (A.map sgB)⟩]/\RowE fS 89 q2 n2 c2 T ((A.map sgB).map fe0)):=by
 refine vz [] 13 Tryz.func104 fun w0 w q n c row L M hM hRE hP HS=>zd [0] kr kr<|zA HS (some 4) 144 (.agg #[.slice none 0 0]) kr kr kr ?_;intro b4 w1 H1;refine zb ?_;have H2:St w0.heap.size w0 w1 ((b4,wrO none 0 0)::(p,wrO q n c)::(row++L)):=H1;refine zd [0,1,2] kr kr<|rp [.v,.v] H2 kr fun gs2 w2 H3=>wX [2]<|ql (row:=[]) (L:=(p,wrO q n c)::(row++L)) [] (q:=none) (n:=0) (c:=0) (p:=b4) (M:=[]) (H3.as kr) (.inl ⟨rfl,rfl,rfl,rfl,rfl⟩) (some 7) 139 #[.slice qs ns cs,.func (.func 140) #[Qe b4] #[]] (zqQ b4 qs ns cs A hA ho hy) (QU _) hP kr kr ?_;rintro q2 n2 c2 row2 X T w3 ⟨rfl,rfl⟩ hR2 H4;refine zb ?_;have H5:St w0.heap.size w0 w3 ((b4,wrO q2 n2 c2)::(row2++(p,wrO q n c)::(row++L))):=H4;refine yu [0,1,2,3,4] kr<|rp [.v,.v,.l 0,.v] H5 kr fun gs3 w4 H6=>wX [4] ?_;have H7:St w0.heap.size w0 w4 ((b4,wrO q2 n2 c2)::(row2++(p,wrO q n c)::(row++L))):=H6.as kr;refine ql (row:=row) (L:=row2++L) [(b4,wrO q2 n2 c2)] (q:=q) (n:=n) (c:=c) (p:=p) (M:=M) (H7.perm (QM _ (zcP row2 row _ L))) hRE (some 12) 137 #[Qe p,jD ⟨(0,em),q2,n2,c2,lsF (A.map sgB)⟩] (zcQ p ⟨(0,em),q2,n2,c2,lsF (A.map sgB)⟩) hM trivial kr kr ?_;rintro q3 n3 c3 row3 X T w5 ⟨rfl,rfl⟩ hR3 H8;refine zb ?_;exact⟨[],.nil,kh (T:=row2) [(b4,wrO q2 n2 c2)] ⟨q2,n2,c2,rfl,hR2⟩ hR3 H8⟩
def zjk (h:Hdr)(v:Value)(T:Qb):Prop:=∃p n c,v=.slice p n c/\RIn fS T p n (hdF h)
theorem zqT (h:Hdr)(o:yj h)(hr:rightH h=true)(p:Qc)(n c:Nat)(q:Qc)(m k:Nat):FnT Tryz.prog 71 #[hdV h p n c q m k] (fun w=>qG w h p n q m) (zjk h):=by
 refine qz [.tmp 2] 39 Tryz.func71 fun w hP=>?_;have hvl:=o.vl;have hsl:=o.sl;have hss:=(jC.1 hr).ss;have H0:=St.start w;refine zd [0,1] kr kr<|xU H0 (some 1) 26 (.tmp 0) (hdV h p n c q m k) kr kr kr ?_;intro bh w1 H1;refine rp [.v] H1 kr fun gs1 w2 H2=>wX []<|zb ?_;have H3:St w.heap.size w w2 [(bh,hdO h p n c q m k)]:=H2.as kr;refine zd [0] kr kr<|zA H3 (some 3) 144 (.agg #[.slice none 0 0]) kr kr kr ?_;intro bw w3 H4;refine zb ?_;have G0:St w.heap.size w w3 ([(bh,hdO h p n c q m k)]++(bw,wrO none 0 0)::([]++ [])):=H4.perm (Uz _ _ _);have R0:RowE fS 89 none 0 0 [] ([]:List Fel):=.inl ⟨rfl,rfl,rfl,rfl,rfl⟩;refine zd [0,1,2] kr kr<|rp [.v,.l 0] G0 kr fun ga1 wa1 Ga1=>wX [2]<|ql (row:=[]) (L:=[]) [(bh,hdO h p n c q m k)] (q:=none) (n:=0) (c:=0) (p:=bw) (Ga1.as kr) R0 (some 6) 100 #[Qe bw,.string h.pa] (vA bw h.pa) (Qp kr) trivial kr kr ?_;rintro q1 n1 c1 row1 _ _ wb1 ⟨rfl,rfl⟩ R1 G1;refine zb<|wW<|zd [0,1,2] kr kr<|rp [.v,.l 0] G1 kr fun ga2 wa2 Ga2=>wX [2]<|ql (row:=row1) (L:=[]) [(bh,hdO h p n c q m k)] (q:=q1) (n:=n1) (c:=c1) (p:=bw) (Ga2.as kr) R1 (some 9) 101 #[Qe bw,.int .u64 ((h.hh:Nat):Int)] (zcR bw h.hh) (Qp kr) trivial kr kr ?_;rintro q2 n2 c2 row2 _ _ wb2 ⟨rfl,rfl⟩ R2 G2;refine zb<|wW ?_;clear G1 Ga2 R1;refine zd [0,1,2] kr kr<|rp [.v,.l 0] G2 kr fun ga3 wa3 Ga3=>wX [2]<|ql (row:=row2) (L:=[]) [(bh,hdO h p n c q m k)] (q:=q2) (n:=n2) (c:=c2) (p:=bw) (Ga3.as kr) R2 (some 12) 100 #[Qe bw,.string h.ro] (vA bw h.ro) (Qp kr) trivial kr kr ?_;rintro q3 n3 c3 row3 _ _ wb3 ⟨rfl,rfl⟩ R3 G3;refine zb<|wW ?_;clear G2 Ga3 R2;refine zd [0,1,2] kr kr<|rp [.v,.l 0] G3 kr fun ga4 wa4 Ga4=>wX [2]<|ql (row:=row3) (L:=[]) [(bh,hdO h p n c q m k)] (q:=q3) (n:=n3) (c:=c3) (p:=bw) (Ga4.as kr) R3 (some 15) 100 #[Qe bw,.string h.tx] (vA bw h.tx) (Qp kr) trivial kr kr ?_;rintro q4 n4 c4 row4 _ _ wb4 ⟨rfl,rfl⟩ R4 G4;refine zb<|wW ?_;clear G3 Ga4 R3;refine zd [0,1,2] kr kr<|rp [.v,.l 0] G4 kr fun ga5 wa5 Ga5=>wX [2]<|ql (row:=row4) (L:=[]) [(bh,hdO h p n c q m k)] (q:=q4) (n:=n4) (c:=c4) (p:=bw) (Ga5.as kr) R4 (some 18) 100 #[Qe bw,.string h.pr] (vA bw h.pr) (Qp kr) trivial kr kr ?_;rintro q5 n5 c5 row5 _ _ wb5 ⟨rfl,rfl⟩ R5 G5;refine zb<|wW ?_;clear G4 Ga5 R4;refine zd [0,1,2] kr kr<|rp [.v,.l 0] G5 kr fun ga6 wa6 Ga6=>wX [2]<|ql (row:=row5) (L:=[]) [(bh,hdO h p n c q m k)] (q:=q5) (n:=n5) (c:=c5) (p:=bw) (Ga6.as kr) R5 (some 21) 100 #[Qe bw,.string h.va] (vA bw h.va) (Qp kr) trivial kr kr ?_;rintro q6 n6 c6 row6 _ _ wb6 ⟨rfl,rfl⟩ R6 G6;refine zb<|wW ?_;clear G5 Ga6 R5;refine zd [0,1,2] kr kr<|rp [.v,.l 0] G6 kr fun ga7 wa7 Ga7=>wX [2]<|ql (row:=row6) (L:=[]) [(bh,hdO h p n c q m k)] (q:=q6) (n:=n6) (c:=c6) (p:=bw) (Ga7.as kr) R6 (some 24) 102 #[Qe bw,.slice p n c] (zqR bw p n c h.vs (by omega)) (Qp kr) hP.1 kr kr ?_;rintro q7 n7 c7 row7 _ T1 wb7 ⟨qa1,na1,ca1,rfl,hT1⟩ R7 G7;refine zb<|wW ?_;clear G6 Ga7 R6;refine zd [0,1,2] kr kr<|rp [.v,.l 0] G7 kr fun ga8 wa8 Ga8=>wX [2]<|ql (row:=row7) (L:=T1++ []) [(bh,hdO h p n c q m k)] (q:=q7) (n:=n7) (c:=c7) (p:=bw) (Ga8.as kr) R7 (some 27) 100 #[Qe bw,.string h.vo] (vA bw h.vo) (Qp kr) trivial kr kr ?_;rintro q8 n8 c8 row8 _ _ wb8 ⟨rfl,rfl⟩ R8 G8;refine zb<|wW ?_;clear G7 Ga8 R7;refine zd [0,1,2] kr kr<|rp [.v,.l 0] G8 kr fun ga9 wa9 Ga9=>wX [2]<|ql (row:=row8) (L:=T1++ []) [(bh,hdO h p n c q m k)] (q:=q8) (n:=n8) (c:=c8) (p:=bw) (Ga9.as kr) R8 (some 30) 103 #[Qe bw,.bool h.ad] (zqN bw h.ad) (Qp kr) trivial kr kr ?_;rintro q9 n9 c9 row9 _ _ wb9 ⟨rfl,rfl⟩ R9 G9;refine zb<|wW ?_;clear G8 Ga9 R8;refine zd [0,1,2] kr kr<|rp [.v,.l 0] G9 kr fun ga10 wa10 Ga10=>wX [2]<|ql (row:=row9) (L:=T1++ []) [(bh,hdO h p n c q m k)] (q:=q9) (n:=n9) (c:=c9) (p:=bw) (Ga10.as kr) R9 (some 33) 101 #[Qe bw,.int .u64 ((h.rd:Nat):Int)] (zcR bw h.rd) (Qp kr) trivial kr kr ?_;rintro q10 n10 c10 row10 _ _ wb10 ⟨rfl,rfl⟩ R10 G10;refine zb<|wW ?_;clear G9 Ga10 R9;refine zd [0,1,2] kr kr<|rp [.v,.l 0] G10 kr fun ga11 wa11 Ga11=>wX [2]<|ql (row:=row10) (L:=T1++ []) [(bh,hdO h p n c q m k)] (q:=q10) (n:=n10) (c:=c10) (p:=bw) (Ga11.as kr) R10 (some 36) 104 #[Qe bw,.slice q m k] (zqS bw q m k h.ss (by omega) o.ss hss) (Qp kr) hP.2 kr kr ?_;rintro q11 n11 c11 row11 _ T2 wb11 ⟨qa2,na2,ca2,rfl,hT2⟩ R11 G11;refine zb<|wW ?_;clear G10 Ga11 R10;have nL:=R11.len (by decide);have hve: ∀x∈h.vs,Ql x<=0x800000000000:=fun x hx=>by have:=o.vs x hx;omega
 have hse: ∀x∈h.ss.map sgB,Ql x<=0x800000000000:=fun x hx=>by obtain⟨y,_,rfl⟩:=Rk.1 hx;rw[jZ];omega
 refine rS [.v,.l 1,.v] G11 kr fun gs9 w9 H9=>rRr [.tmp 2] [] (.slice q11 n11 c11) (zV w.heap.size w (zjk h)) H9 kr ?_;have H10:St w.heap.size w w9 ((bh,hdO h p n c q m k)::(bw,wrO q11 n11 c11)::(row11++(T2++(T1++ [])))):=H9.as kr;refine⟨row11++(T2++(T1++ [])),⟨q11,n11,c11,rfl,?_⟩,(H10.sub (Qt ..)).sub (Qt ..)⟩;have i1:=hT1.rIn (T:=[]) (by decide) (zeJ hve []) (by show na1<=0x800000000000;have:=hT1.len (by decide);rw[Ra]at this;omega);have i2:=hT2.rIn (T:=[]) (by decide) (zeJ hse []) (by show na2<=0x800000000000;have:=hT2.len (by decide);rw[Ra,Ra]at this;omega);rw[zeI]at i1 i2;exact RowE.rIn (S:=fS) (L:=hdE h qa1 na1 ca1 qa2 na2 ca2) R11 (by decide) (ziX o (i1.mono fun e he=>by simp at he⊢;exact .inr he) (i2.mono fun e he=>by simp at he⊢;exact .inl he)) (by show n11<=0x800000000000;rw[nL];exact Qp kr)
end
end Go.Proofs.YtcjejfklpegobaaGreatDoor
