/-
  Texts of the proof,part 4.
-/
import Derived.Test.YtcjejfklpegobaaGreatDoorProg
import Derived.Recover
import Derived.Test.YtcjejfklpegobaaGreatDoorBZ1
import Derived.Test.YtcjejfklpegobaaGreatDoorBZ2
import Derived.Test.YtcjejfklpegobaaGreatDoorBZ3
set_option maxRecDepth 100000
set_option maxHeartbeats 4000000
open Go Go.RowKit
open Bool renaming and_eq_true->Qu,not_eq_true'->Rf,or_eq_true->RU,false_eq_true->Uk,not_true->Uy,not_eq_true->UY,false_or->Vk
open IntKind renaming i64->Qz,u64->QA,u8->QG
open List renaming length->Qo,getElem?_eq_getElem->Qr,sublist_cons_self->Qt,length_append->Qx,take_of_length_le->Qy,append_assoc->QD,nil_sublist->QE,mem_of_getElem?->QF,append_nil->QI,sublist_append_right->QK,all_eq_true->QN,mem_cons_of_mem->QR,perm_append_comm->QV,range->QW,mem_cons_self->QX,mem_append_right->QZ,map_cons->Q8,length_map->Ra,length_take->Rb,mem_append_left->Rd,length_cons->Rh,mem_iff_getElem?->Ri,perm_middle->Rl,cons_append->Rm,perm_append_comm_assoc->Ro,getElem?_zipIdx->Rt,any_eq_true->RA,getElem?_map->RC,map_toArray->RI,mem_singleton->RY,map_nil->Ug,length_nil->Ui,mem_cons->Uj,getElem?_append_right->Uo,getElem?_take->Ut,size_toArray->Ux,mem_append->UI,take_append->VK,toList_toArray->V5,map_take->Wq
open List.Perm renaming cons->QM,swap->Uz,refl->U1
open List.Sublist renaming cons_cons->Qq,cons->Qs,refl->Rn,append->Vh
open Nat renaming le_of_ble_eq_true->Qp,eq_of_beq_eq_true->QB,le_refl->QH,beq->QL,zero_le->QU,zero_add->Q9,beq_refl->RG,le_trans->RZ,sub_self->V7
open Option renaming some->Rr
open Region renaming wanted->QP,binds->Rp,ready->Rq
open Result renaming andThen_ok->QJ
open Sem renaming run_bind->Q7,run_pure->Up
open Value renaming ownBlock->Vs,agg->VO
open _root_.Array renaming getElem?_eq_some_iff->Q1,replicate->Ru,length_toList->Rv,getElem?_eq_getElem->RF,getElem?_toList->RN
open _root_.ByteArray renaming size->Ql,extract->Qv
namespace Go.Proofs.YtcjejfklpegobaaGreatDoor
theorem zdV {a:Nat}(h:a<=255):QG.wrap (a:Int)=(a:Int):=by rw[IntKind.wrap_u8];omega
abbrev dc (t:Qa):Obj:=.cells #[.string t] 115 (0,0)
def chF:List PanicEntry:=[{ v:=.iface 31 (.int .i64 4),recovered:=false }]
def FnX (P:Program)(f:Nat)(args:Qd)(bd:Nat)(t:Qa)(ok:Qa->Value->Qb->Prop)(bad:Prop):Prop:=
 ∀(B:Nat) (w0 w:World) (L:Qb),St B w0 w ((bd,dc t)::L)->Calls P f args w fun e w'=>
  (∃v u T,e=.returned v/\ok u v T/\St B w0 w' ((bd,dc u)::(T++L)))\/(e=.panicked chF/\bad/\St B w0 w' L)
abbrev zg3 (P:Program)(rs:List ResultVar)(B:Nat)(w0:World)(bd:Nat)(L:Qb)(ok:Qa->Value->Qb->Prop)(bad:Prop):Exit->Env->World->Prop:=
 zdU P rs (fun v w'=> ∃u T,ok u v T/\St B w0 w' ((bd,dc u)::(T++L))) (fun ch w'=>ch=chF/\bad/\St B w0 w' L)
theorem FnX.intro {P:Program}{f:Nat}{fn:Func}{c:Code}(rs:List ResultVar)(N:Nat){args:Qd}{bd:Nat}{t:Qa}{ok:Qa->Value->Qb->Prop}{bad:Prop}(hf:P.funcs[f]? =some fn)(hb:fn.body=some c)(hr:fn.results.toList=rs)(hn:args.size+(fn.ntmps-args.size)=N)
 (h: ∀B w0 w L,St B w0 w ((bd,dc t)::L)->WP P N c (zg3 P rs B w0 bd L ok bad) (ini args) w):FnX P f args bd t ok bad:=fun B w0 w L HS=>
 (zg1 hf hb hr hn (h B w0 w L HS)).mono fun e w' q=>by
  rcases q with⟨v,he,u,T,h1,h2⟩|⟨ch,he,h0,h1,h2⟩
  ·exact .inl ⟨v,u,T,he,h1,h2⟩
  ·exact .inr ⟨by rw[he,h0],h1,h2⟩
theorem zdW {P:Program}{f:Nat}{fn:Func}(rs:List ResultVar)(N:Nat){args:Qd}{bd:Nat}{t:Qa}{ok:Qa->Value->Qb->Prop}{bad:Prop}(hf:P.funcs[f]? =some fn)(h: ∀B w0 w L,St B w0 w ((bd,dc t)::L)->WP P N (zz fn) (zg3 P rs B w0 bd L ok bad) (ini args) w)(hb:fn.body=some (zz fn):=by kernel_rfl)(hr:fn.results.toList=rs:=by kernel_rfl)(hn:args.size+(fn.ntmps-args.size)=N:=by kernel_rfl):FnX P f args bd t ok bad:=FnX.intro rs N hf hb hr hn h
section
variable {P:Program}{N:Nat}{ops:Array Oper}{Q:Exit->Env->World->Prop}{K:Env->World->Prop}{ρ:Env}{w w0:World}{i B:Nat}{r:List Nat}{l:Qb}
theorem vT {bd:Nat}{t:Qa}{L:Qb}(HS:St B w0 w l)(hp:((bd,dc t)::L).Perm l)(d:Option Nat)(f:Nat)(args:Qd){ok:Qa->Value->Qb->Prop}{bad:Prop}(hc:FnX P f args bd t ok bad)
 (h:opv P ops i ρ w=some (d,true,.ok (.enter f args) w)) (hd:dOK d N=true)
 (kp: ∀w',bad->St B w0 w' L->Q (.panic chF) ρ w')
 (kk: ∀v u T w',ok u v T->St B w0 w' ((bd,dc u)::(T++L))->yX P N ops Q K r (zr ρ d v) w'):yX P N ops Q K (i::r) ρ w:=
 zg0 d f args _ (hc B w0 w L (HS.perm hp)) h hd fun e w' q=>by
  rcases q with⟨v,u,T,he,h1,h2⟩|⟨he,h1,h2⟩
  ·exact .inl ⟨v,he,kk v u T w' h1 h2⟩
  ·exact .inr ⟨chF,he,kp w' h1 h2⟩
theorem kJ (l1:List Nat)(h:WPs P N ops K l1 ρ w):yX P N ops Q K l1 ρ w:=kI l1 (l2:=[]) (by simp) h
end
theorem zbR (bd m:Nat)(t:Qa)(ht:t.size<=100000):FnX Tryz.prog 109 #[Qe bd,.int .u64 (m:Int)] bd t (fun u v T=>m<=t.size/\v=.string (t.extract 0 m)/\u=t.extract m t.size/\T=[]) (t.size<m):=by
 refine zdW [.tmp 4] 31 Tryz.func109 fun B w0 w L H0=>rS [.v] H0 kr fun gs1 w1 H1=>za kr ?_;by_cases hm:m<=t.size
 ·refine rS [.v,.v,.v,.v,.l 0,.v,.E (.int .u64 (QA.wrap ((Ql t:Int)))) (.int .u64 (Ql t:Int)) (zf (yw (a:=Ql t) (by omega))),itF ((Ql t:Int)<(m:Int))] H1 kr fun gs2 w2 H2=>zi kr kr<|zj kr<|wW<|rS [.v,.v,.v,.l 0,.v,.o (ins:=[((.tmp 18),.string t),((.tmp 19),.int .u64 (m:Int))]) (v:=.string (Qv t 0 m)) (fun ρ o w ho hi=>xW (t:=9) (kd:=.u64) kr (x:=(.tmp 18)) (y:=(.tmp 19)) t m ho hi.1 hi.2.1 (by omega) w),.v] H2 kr fun gs3 w3 H3=>rS [.v,.v,.v,.v,.l 0,.v,.o (ins:=[((.tmp 25),.string t),((.tmp 26),.int .u64 (m:Int))]) (v:=.string (Qv t m (Ql t))) (fun ρ o w ho hi=>uq (t:=9) (kz:=.u64) kr (x:=(.tmp 25)) (z:=(.tmp 26)) t m ho hi.1 hi.2.1 (by omega) w),.v,.v,.s 0] H3 kr fun gs4 w4 H4=>rS [.v,.v] H4 kr fun gs5 w5 H5=>zk kr<|wV ?_;exact⟨[.string (t.extract 0 m)],(.tmp (.string (t.extract 0 m)) kr .nil),_,[],⟨hm,rfl,rfl,rfl⟩,H5.as kr⟩
 ·refine rS [.v,.v,.v,.v,.l 0,.v,.E (.int .u64 (QA.wrap ((Ql t:Int)))) (.int .u64 (Ql t:Int)) (zf (yw (a:=Ql t) (by omega))),itT ((Ql t:Int)<(m:Int))] H1 kr fun gs2 w2 H2=>zh kr kr<|zbP [0,1] kr<|kI [0] (l2:=[1]) rfl<|rp [.v] H2 kr fun gs3 w3 H3=>wX []<|zb<|zbO none (.iface 31 (.int .i64 4)) kr ?_;have H4:St B w0 w3 ((bd,dc t)::L):=H3.as kr;exact⟨rfl,by omega,H4.sub (Qt ..)⟩
theorem zg4 (bd f:Nat)(t:Qa)(hf:f<64)(ht:t.size<=100000):FnX Tryz.prog 111 #[Qe bd,.int .u8 (f:Int)] bd t (fun u v T=> ∃n,qt f t=some (n,u)/\v=.int .u64 ((n:Nat):Int)/\T=[]) (qt f t=none):=by
 refine zdW [.tmp 4] 24 Tryz.func111 fun B w0 w L H0=>rS [.v] H0 kr fun gs1 w1 H1=>za kr ?_;by_cases hm:f<=55
 ·refine rS [.v,itT ((f:Int)<=55)] H1 kr fun gs2 w2 H2=>zh kr kr<|rS [.v,.E (.int .u64 (QA.wrap ((f:Int)))) (.int .u64 (f:Int)) (zf (yw (a:=f) (by omega))),.v] H2 kr fun gs3 w3 H3=>zk kr<|wV ?_;exact⟨[.int .u64 (f:Int)],(.tmp (.int .u64 (f:Int)) kr .nil),t,[],⟨f,by unfold qt;rw[if_pos hm],rfl,rfl⟩,H3.as kr⟩
 ·refine rS [.v,itF ((f:Int)<=55)] H1 kr fun gs2 w2 H2=>zi kr kr<|zj kr<|wW<|zbQ [0,1,2,3,4,5,6,7,8,9,10] kr kr<|kI [0,1,2,3] (l2:=[4,5,6,7,8,9,10]) rfl<|rp [.v,.v,.E (.int .u8 (QG.wrap ((f:Int)-55))) (.int .u8 (((f-55:Nat):Nat):Int)) (zf (by rw[show (f:Int)-55=((f-55:Nat):Int) by omega];exact zdV (by omega))),.E (.int .u64 (QA.wrap (((f-55:Nat):Int)))) (.int .u64 ((f-55:Nat):Int)) (zf (yw (a:=f-55) (by omega)))] H2 kr fun gs3 w3 H3=>wX []<|zb ?_;have H4:St B w0 w3 ((bd,dc t)::L):=H3.as kr;refine vT H4 (U1 _) (some 16) 109 #[Qe bd,.int .u64 ((f-55:Nat):Int)] (zbR bd (f-55) t ht) kr kr (fun w' hb HS=>?_) ?_
  ·exact⟨rfl,by unfold qt;rw[if_neg hm,if_pos hb],HS⟩
  rintro _ _ _ w4 ⟨hle,rfl,rfl,rfl⟩ H5;refine kJ _<|rp [.c (zgQ (t.extract 0 (f-55)))] H5 kr fun gs4 w5 H6=>wX [6,7,8,9,10]<|zL 17 (v:=zbI (zQ (t.extract 0 (f-55)))) (v':=.tuple #[.int .u64 (((zQ (t.extract 0 (f-55))).1:Nat):Int),.bool (zQ (t.extract 0 (f-55))).2]) rfl kr<|rp [.v,.v,.v,.v,.v] H6 kr fun gs5 w6 H7=>wX []<|zb<|wW<|za kr ?_;by_cases hn:(zQ (t.extract 0 (f-55))).1<=55
  ·refine rS [.v,.E (.bool (decide ((((zQ (t.extract 0 (f-55))).1:Nat):Int)<=55))) (.bool true) (zc (decide_eq_true (by omega)))] H7 kr fun gs6 w7 H8=>zh kr kr<|zbP [0,1] kr<|kI [0] (l2:=[1]) rfl<|rp [.v] H8 kr fun gs7 w8 H9=>wX []<|zb<|zbO none (.iface 31 (.int .i64 4)) kr ?_;have H10:St B w0 w8 ((bd,dc (t.extract (f-55) t.size))::L):=H9.as kr;exact⟨rfl,by unfold qt;rw[if_neg hm,if_neg (by omega),if_pos hn],H10.sub (Qt ..)⟩
  ·refine rS [.v,.E (.bool (decide ((((zQ (t.extract 0 (f-55))).1:Nat):Int)<=55))) (.bool false) (zc (decide_eq_false (by omega)))] H7 kr fun gs6 w7 H8=>zi kr kr<|zj kr<|wW<|rS [.v,.v] H8 kr fun gs7 w8 H9=>zk kr<|wV ?_;exact⟨[.int .u64 (((zQ (t.extract 0 (f-55))).1:Nat):Int)],(.tmp _ kr .nil),t.extract (f-55) t.size,[],⟨_,by unfold qt;rw[if_neg hm,if_neg (by omega),if_neg hn],rfl,rfl⟩,H9.as kr⟩
def FnY (P:Program)(f:Nat)(args:Qd)(ok:Value->Qb->Prop)(bad:Prop):Prop:=
 ∀(B:Nat) (w0 w:World) (L:Qb),St B w0 w L->Calls P f args w fun e w'=>
  (∃v T,e=.returned v/\ok v T/\St B w0 w' (T++L))\/(e=.panicked chF/\bad/\St B w0 w' L)
abbrev zg5 (P:Program)(rs:List ResultVar)(B:Nat)(w0:World)(L:Qb)(ok:Value->Qb->Prop)(bad:Prop):Exit->Env->World->Prop:=
 zdU P rs (fun v w'=> ∃T,ok v T/\St B w0 w' (T++L)) (fun ch w'=>ch=chF/\bad/\St B w0 w' L)
theorem FnY.intro {P:Program}{f:Nat}{fn:Func}{c:Code}(rs:List ResultVar)(N:Nat){args:Qd}{ok:Value->Qb->Prop}{bad:Prop}(hf:P.funcs[f]? =some fn)(hb:fn.body=some c)(hr:fn.results.toList=rs)(hn:args.size+(fn.ntmps-args.size)=N)
 (h: ∀B w0 w L,St B w0 w L->WP P N c (zg5 P rs B w0 L ok bad) (ini args) w):FnY P f args ok bad:=fun B w0 w L HS=>
 (zg1 hf hb hr hn (h B w0 w L HS)).mono fun e w' q=>by
  rcases q with⟨v,he,T,h1,h2⟩|⟨ch,he,h0,h1,h2⟩
  ·exact .inl ⟨v,T,he,h1,h2⟩
  ·exact .inr ⟨by rw[he,h0],h1,h2⟩
theorem zmS {P:Program}{f:Nat}{fn:Func}(rs:List ResultVar)(N:Nat){args:Qd}{ok:Value->Qb->Prop}{bad:Prop}(hf:P.funcs[f]? =some fn)(h: ∀B w0 w L,St B w0 w L->WP P N (zz fn) (zg5 P rs B w0 L ok bad) (ini args) w)(hb:fn.body=some (zz fn):=by kernel_rfl)(hr:fn.results.toList=rs:=by kernel_rfl)(hn:args.size+(fn.ntmps-args.size)=N:=by kernel_rfl):FnY P f args ok bad:=FnY.intro rs N hf hb hr hn h
theorem zmT {P:Program}{N:Nat}{ops:Array Oper}{Q:Exit->Env->World->Prop}{K:Env->World->Prop}{ρ:Env}{w w0:World}{i B:Nat}{r:List Nat}{l:Qb}(HS:St B w0 w l)(d:Option Nat)(f:Nat)(args:Qd){ok:Value->Qb->Prop}{bad:Prop}(hc:FnY P f args ok bad)
 (h:opv P ops i ρ w=some (d,true,.ok (.enter f args) w)) (hd:dOK d N=true)
 (kp: ∀w',bad->St B w0 w' l->Q (.panic chF) ρ w')
 (kk: ∀v T w',ok v T->St B w0 w' (T++l)->yX P N ops Q K r (zr ρ d v) w'):yX P N ops Q K (i::r) ρ w:=
 zg0 d f args _ (hc B w0 w l HS) h hd fun e w' q=>by
  rcases q with⟨v,T,he,h1,h2⟩|⟨he,h1,h2⟩
  ·exact .inl ⟨v,he,kk v T w' h1 h2⟩
  ·exact .inr ⟨chF,he,kp w' h1 h2⟩
def SlC (T:Qb)(p:Qc)(n c:Nat)(k:Fo):Prop:=SlIn T p n k/\n<=c
def zmU (t:Qa)(u:Qa)(v:Value)(T:Qb):Prop:=∃(l:Bool) (s:Qa) (p:Qc) (n c:Nat) (k:Fo),v=.agg #[.bool l,.string s,.slice p n c]/\yd t l s k u/\SlC T p n c k/\s.size<=t.size
def uA (bd:Nat)(t:Qa):Prop:=FnX Tryz.prog 76 #[Qe bd] bd t (zmU t) (jA t)
def zg6 (t:Qa)(v:Value)(T:Qb):Prop:=∃(p:Qc) (n c:Nat) (k:Fo),v=.agg #[.bool true,.string ⟨#[]⟩,.slice p n c]/\tl t=wrF k/\pureF k=true/\SlC T p n c k
def zdX (t:Qa):Prop:=FnY Tryz.prog 112 #[.string t] (zg6 t) (zbM t)
theorem SlIn.none (T:Qb):SlIn T none 0 .nil:=⟨rfl,by omega,.inl rfl⟩
theorem SlC.none (T:Qb):SlC T none 0 0 .nil:=⟨SlIn.none T,QH _⟩
theorem zmV {t:Qa}(h:t.size≠0):by_ (t.extract 0 1) 0=by_ t 0:=by
 obtain⟨l,e⟩:=vh h;unfold by_;rw[yT,e];rfl
theorem zg7 (bd:Nat)(t:Qa)(ht:t.size<=100000)(hl: ∀s:Qa,s.size<t.size->zdX s):uA bd t:=by
 refine zdW [.cell 2 58] 36 Tryz.func76 fun B w0 w L H0=>zd [0] kr kr<|zA H0 (some 2) 58 (.agg #[.bool false,.string ⟨#[]⟩,.slice none 0 0]) kr kr kr ?_;intro b1 w1 H1;refine zb<|zbQ [0,1,2] kr kr<|kI [0] (l2:=[1,2]) rfl<|rp [.v] H1 kr fun gs2 w2 H2=>wX []<|zb ?_;have H3:St B w0 w2 ((b1,.cells #[.bool false,.string ⟨#[]⟩,.slice none 0 0] 58 (0,0))::(bd,dc t)::L):=H2.as kr;refine vT H3 (Uz _ _ _) (some 6) 109 #[Qe bd,.int .u64 ((1:Nat):Int)] (zbR bd 1 t ht) kr kr (fun w' hb HS=>?_) ?_
 ·exact⟨rfl,zgV hb,HS.sub (Qt ..)⟩
 rintro _ _ _ w3 ⟨hle,rfl,rfl,rfl⟩ H4;have h0:t.size≠0:=by omega
 have hb:=zmV h0;have hlt:=qp t 0;have hz1:(t.extract 0 1).size=1:=by rw[jc t 0 1 (by omega) (by omega)]
 have hzt:(t.extract 1 t.size).size=t.size-1:=by rw[jc t 1 _ (QH _) (by omega)]
 have hfs:=zgT h0;refine kJ _<|rp [.v] H4 kr fun gs3 w4 H5=>wX []<|zb<|wW<|zm 0 kr<|rS [.v,.c (zbB (t.extract 0 1)),.v] H5 kr fun gs4 w5 H6=>?_;by_cases h128:by_ t 0<128
 ·have hs1:yf (t.extract 0 1)=true:=by rw[hfs];exact decide_eq_true h128
  refine yv 15 (v:=.bool (yf (t.extract 0 1))) (v':=.bool true) (zc hs1) kr<|zh kr kr<|rS [.v,.c (zgR (t.extract 0 1) (by omega)),.s 1] H6 kr fun gs5 w6 H7=>?_;have H8:St B w0 w6 ((bd,dc (t.extract 1 t.size))::(b1,.cells #[.bool false,.string (t.extract 0 1),.slice none 0 0] 58 (0,0))::L):=H7.as kr;refine zk kr<|wV ?_;exact⟨[.agg #[.bool false,.string (t.extract 0 1),.slice none 0 0]],(.agg (b:=b1) (#[.bool false,.string (t.extract 0 1),.slice none 0 0]) 58 (0,0) kr (H8.get 1 kr) kr .nil),_,[],⟨_,_,_,_,_,_,rfl,zmM h0 h128,SlC.none _,by omega⟩,H8.sub (Qq _ (Qs _ (Rn _)))⟩
 ·have hs1:yf (t.extract 0 1)=false:=by rw[hfs];exact decide_eq_false h128
  refine yv 15 (v:=.bool (yf (t.extract 0 1))) (v':=.bool false) (zc hs1) kr<|zi kr kr ?_;by_cases h192:by_ t 0<192
  ·refine rS [.v,itC 21 (.const (.int .i64 0)) 9 (t.extract 0 1) 0,.E (.bool (decide (((by_ (t.extract 0 1) 0:Nat):Int)<192))) (.bool true) (zc (decide_eq_true (by omega))),.v] H6 kr fun gs5 w6 H7=>zh kr kr<|zbQ [0,1,2,3,4,5,6,7] kr kr<|kI [0,1,2,3,4] (l2:=[5,6,7]) rfl<|rp [.v,.v,.v,itC 26 (.const (.int .i64 0)) 9 (t.extract 0 1) 0,.E (.int .u8 (QG.wrap (((by_ (t.extract 0 1) 0:Nat):Int)-128))) (.int .u8 ((by_ t 0-128:Nat):Int)) (zf (by rw[show ((by_ (t.extract 0 1) 0:Nat):Int)-128=((by_ t 0-128:Nat):Int) by omega];exact zdV (by omega)))] H7 kr fun gs6 w7 H8=>wX []<|zb ?_;have H9:St B w0 w7 ((bd,dc (t.extract 1 t.size))::(b1,.cells #[.bool false,.string ⟨#[]⟩,.slice none 0 0] 58 (0,0))::L):=H8.as kr;refine vT H9 (U1 _) (some 29) 111 #[Qe bd,.int .u8 ((by_ t 0-128:Nat):Int)] (zg4 bd (by_ t 0-128) (t.extract 1 t.size) (by omega) (by omega)) kr kr (fun w' hb HS=>?_) ?_
   ·exact⟨rfl,zgX false ht h0 (by omega) (by simp;omega) hb,HS.sub (Qt ..)⟩
   rintro _ u _ w8 ⟨n,hc,rfl,rfl⟩ H10;have hu:=(zdS hc (by omega) 0).2.2;refine vT (L:=(b1,.cells #[.bool false,.string ⟨#[]⟩,.slice none 0 0] 58 (0,0))::L) H10 (U1 _) (some 30) 109 #[Qe bd,.int .u64 (n:Int)] (zbR bd n u (by omega)) kr kr (fun w' hb HS=>?_) ?_
   ·exact⟨rfl,zgY false ht h0 (by omega) (by simp;omega) hc hb,HS.sub (Qt ..)⟩
   rintro _ _ _ w9 ⟨hnu,rfl,rfl,rfl⟩ H11;have hzn:(u.extract 0 n).size=n:=by rw[jc u 0 n hnu (by omega)];omega
   refine kJ _<|rp [.v] H11 kr fun gs7 w10 H12=>wX []<|zb<|wW<|za kr<|rS [.v,.c (zbB (u.extract 0 n))] H12 kr fun gs8 w11 H13=>?_;rcases Bool.eq_false_or_eq_true (yf (u.extract 0 n)) with hs2 | hs2
   ·refine yv 32 (v:=.bool (yf (u.extract 0 n))) (v':=.bool true) (zc hs2) kr<|zh kr kr<|zbP [0,1] kr<|kI [0] (l2:=[1]) rfl<|rp [.v] H13 kr fun gs9 w12 H14=>wX []<|zb<|zbO none (.iface 31 (.int .i64 4)) kr ?_;have H15:St B w0 w12 ((bd,dc (u.extract n u.size))::(b1,.cells #[.bool false,.string ⟨#[]⟩,.slice none 0 0] 58 (0,0))::L):=H14.as kr;exact⟨rfl,zmP ht h0 (by omega) h192 hc hs2,H15.sub (Qs _ (Qt ..))⟩
   ·refine yv 32 (v:=.bool (yf (u.extract 0 n))) (v':=.bool false) (zc hs2) kr<|zi kr kr<|zj kr<|wW<|rS [.v,.c (zgR (u.extract 0 n) (by omega)),.s 1] H13 kr fun gs9 w12 H14=>?_;have H15:St B w0 w12 ((bd,dc (u.extract n u.size))::(b1,.cells #[.bool false,.string (u.extract 0 n),.slice none 0 0] 58 (0,0))::L):=H14.as kr;refine zk kr<|wV ?_;exact⟨[.agg #[.bool false,.string (u.extract 0 n),.slice none 0 0]],(.agg (b:=b1) (#[.bool false,.string (u.extract 0 n),.slice none 0 0]) 58 (0,0) kr (H15.get 1 kr) kr .nil),_,[],⟨_,_,_,_,_,_,rfl,zmN h0 (by omega) h192 hc hnu hs2,SlC.none _,by omega⟩,H15.sub (Qq _ (Qs _ (Rn _)))⟩
  ·refine rS [.v,itC 21 (.const (.int .i64 0)) 9 (t.extract 0 1) 0,.E (.bool (decide (((by_ (t.extract 0 1) 0:Nat):Int)<192))) (.bool false) (zc (decide_eq_false (by omega))),.v] H6 kr fun gs5 w6 H7=>zi kr kr<|zbQ [0,1,2,3,4,5,6,7,8] kr kr<|kI [0,1,2,3,4] (l2:=[5,6,7,8]) rfl<|rp [.v,.v,.v,itC 9 (.const (.int .i64 0)) 9 (t.extract 0 1) 0,.E (.int .u8 (QG.wrap (((by_ (t.extract 0 1) 0:Nat):Int)-192))) (.int .u8 ((by_ t 0-192:Nat):Int)) (zf (by rw[show ((by_ (t.extract 0 1) 0:Nat):Int)-192=((by_ t 0-192:Nat):Int) by omega];exact zdV (by omega)))] H7 kr fun gs6 w7 H8=>wX []<|zb ?_;have H9:St B w0 w7 ((bd,dc (t.extract 1 t.size))::(b1,.cells #[.bool false,.string ⟨#[]⟩,.slice none 0 0] 58 (0,0))::L):=H8.as kr;refine vT H9 (U1 _) (some 12) 111 #[Qe bd,.int .u8 ((by_ t 0-192:Nat):Int)] (zg4 bd (by_ t 0-192) (t.extract 1 t.size) (by omega) (by omega)) kr kr (fun w' hb HS=>?_) ?_
   ·exact⟨rfl,zgX true ht h0 (by omega) (by simp;omega) hb,HS.sub (Qt ..)⟩
   rintro _ u _ w8 ⟨n,hc,rfl,rfl⟩ H10;have hu:=(zdS hc (by omega) 0).2.2;refine vT (L:=(b1,.cells #[.bool false,.string ⟨#[]⟩,.slice none 0 0] 58 (0,0))::L) H10 (U1 _) (some 13) 109 #[Qe bd,.int .u64 (n:Int)] (zbR bd n u (by omega)) kr kr (fun w' hb HS=>?_) ?_
   ·exact⟨rfl,zgY true ht h0 (by omega) (by simp;omega) hc hb,HS.sub (Qt ..)⟩
   rintro _ _ _ w9 ⟨hnu,rfl,rfl,rfl⟩ H11;have hzn:(u.extract 0 n).size=n:=by rw[jc u 0 n hnu (by omega)];omega
   have H12:St B w0 w9 ((bd,dc (u.extract n u.size))::(b1,.cells #[.bool false,.string ⟨#[]⟩,.slice none 0 0] 58 (0,0))::L):=H11.as kr;refine zmT H12 (some 14) 112 #[.string (u.extract 0 n)] (hl (u.extract 0 n) (by omega)) kr kr (fun w' hb HS=>?_) ?_
   ·exact⟨rfl,zmQ ht h0 (by omega) hc hb,HS.sub (Qs _ (Qt ..))⟩
   rintro _ T w10 ⟨p,n3,c3,k,rfl,hk,hpk,hsl⟩ H13
   have H14:St B w0 w10 ((b1,.cells #[.bool false,.string ⟨#[]⟩,.slice none 0 0] 58 (0,0))::(bd,dc (u.extract n u.size))::(T++L)):=H13.perm (by
    refine(Uz _ _ _).trans<|List.Perm.symm<|(Rl).trans (QM _ ?_)
    exact Rl)
   refine kJ _<|rp [.s 0] H14 kr fun gs7 w11 H15=>wX []<|zb<|wW ?_;have H16:St B w0 w11 ((b1,.cells #[.bool true,.string ⟨#[]⟩,.slice p n3 c3] 58 (0,0))::(bd,dc (u.extract n u.size))::(T++L)):=H15.as kr;refine zk kr<|wV ?_;exact⟨[.agg #[.bool true,.string ⟨#[]⟩,.slice p n3 c3]],(.agg (b:=b1) (#[.bool true,.string ⟨#[]⟩,.slice p n3 c3]) 58 (0,0) kr (H16.get 0 kr) kr .nil),_,T,⟨_,_,_,_,_,_,rfl,zmO h0 (by omega) hc hnu hpk hk,hsl,QU _⟩,H16.sub (Qt ..)⟩
namespace D2
def zbS (P:Program)(Bad:List PanicEntry->World->Prop)(S:Value->World->Prop):Result Next->Prop
 | .ok (.value v) w'=>S v w'
 | .ok .skip w'=>S undef w'
 | .ok (.enter f args) w'=>Calls P f args w' fun e w''=>(∃v,e=.returned v/\S v w'')\/(∃ch,e=.panicked ch/\Bad ch w'')
 | _=>False
theorem zbS.of {P:Program}{Bad:List PanicEntry->World->Prop}{S:Value->World->Prop}{r:Result Next}(h:Runs P S r):zbS P Bad S r:=by
 cases r with
 | halt a w=>exact h
 | ok n w=>
  cases n with
  | enter f args=>exact Calls.mono (h:Calls P f args w _) fun e w'' q=>.inl q
  | _=>exact h
def zbT (P:Program)(Bad:List PanicEntry->World->Prop)(ops:Array Oper)(R:(Nat->Gh)->Env)(pre:(Nat->Bool)->(Nat->Gh)->World->Prop)(i:Nat)(d:Option Nat)(f:Gh->Value):Prop:=
 ∀L g w,pre L g w->L i=false->(∀o,ops[i]? =some o-> ∀e∈o.after,Rp .any e=true->L e.on=true)->Closed ops L->∃o,ops[i]? =some o/\o.dst=d/\
  ((QP o (zS ops (R g))=false/\f (g i)=undef/\pre (put1 L i) g w)\/(QP o (zS ops (R g))=true/\zbS P Bad (fun v w'=> ∃b,v=f b/\pre (put1 L i) (setN g i b) w') ((execOp (ev (R g)) o).run P w)))
def vn (P:Program)(Bad:List PanicEntry->World->Prop)(ops:Array Oper)(R:Nat->(Nat->Gh)->Env)(pre:(Nat->Bool)->(Nat->Gh)->World->Prop):List (Option Nat×(Gh->Value))->Nat->Prop
 | [],_=>True
 | (d,f)::r,i=>zbT P Bad ops (R i) pre i d f/\vn P Bad ops R pre r (i+1)
theorem vn.get {P:Program}{Bad:List PanicEntry->World->Prop}{ops:Array Oper}{R:Nat->(Nat->Gh)->Env}{pre:(Nat->Bool)->(Nat->Gh)->World->Prop} : ∀ {l:List (Option Nat×(Gh->Value))} {k:Nat},vn P Bad ops R pre l k-> ∀ {i:Nat} {d:Option Nat} {f:Gh->Value},l[i]? =some (d,f)->zbT P Bad ops (R (k+i)) pre (k+i) d f
 | [],_,_,_,_,_,h=>by simp at h
 | (d,V)::r,k,⟨h,hr⟩,0,_,_,hi=>by simp at hi;obtain⟨rfl,rfl⟩:=hi;exact h
 | (d,V)::r,k,⟨h,hr⟩,i+1,_,_,hi=>by
  have:=hr.get (i:=i) (by simpa using hi)
  rwa [show k+1+i=k+(i+1) by omega]at this
section
variable {P:Program}{N:Nat}{ops:Array Oper}{Q:Exit->Env->World->Prop}{K:Env->World->Prop}{ρ:Env}{w:World}{vs:List (Option Nat×(Gh->Value))}{pre:(Nat->Bool)->(Nat->Gh)->World->Prop}{Bad:List PanicEntry->World->Prop}
theorem zmW (hok:drawOK ops (vs.map (·.1)) N=true)(hg:vn P Bad ops (fun i=>fin_ (vs.take i) ρ) pre vs 0){i:Nat}{L:Array Bool}(hi:i∈Rq .any ops L)
 {a:Act} {ρ':Env} {g:Nat->Gh} (ha:Rep a ρ' N) (hm:Mid ρ vs g (ran L) ρ') (hL:L.size=ops.size) (hcl:Closed ops (ran L)) (hp:pre (ran L) g w)
 {QQ:Exit->Act->World->Prop} {KK:Act->World->Prop} (hQ: ∀ch a' ρ'' w',Rep a' ρ'' N->Bad ch w'->QQ (.panic ch) a' w') (hK: ∀a' ρ'' g' w',Rep a' ρ'' N->Mid ρ vs g' (put1 (ran L) i) ρ''->Closed ops (put1 (ran L) i)->pre (put1 (ran L) i) g' w'->KK a' w'):
 wpOp P ops QQ i KK a w:=by
 simp only[drawOK,Qu,QN,beq_iff_eq]at hok;obtain⟨⟨⟨hsz,hnd⟩,hN⟩,hops⟩:=hok;obtain⟨hun,o,ho,hready⟩:=mem_ready.1 hi;have hilt:i<ops.size:=(Q1.1 ho).1
 have hoi:opOK ops (vs.map (·.1)) i o=true:=hops (o,i) (by
  rw[Ri];refine⟨i,?_⟩;rw[Rt]
  simp[ho])
 simp only[opOK,Qu]at hoi;obtain⟨⟨⟨⟨hdst,hsel⟩,hback⟩,hreads⟩,hguard⟩:=hoi;have hivs:i<vs.length:=by rw[Ra]at hsz;omega
 obtain⟨⟨d,f⟩,hv⟩:∃p,vs[i]? =some p:=⟨_,Qr hivs⟩
 have hd:o.dst=d:=by
  have:=eq_of_beq hdst
  simpa [hv] using this
 have hdN: ∀k,d=some k->k<N:=zZ (hN d (List.mem_map.2 ⟨(d,f),QF hv,rfl⟩));have hunL:ran L i=false:=by
  have hlt:i<L.size:=by omega
  unfold ran;simpa [hlt] using hun
 have hcl':Closed ops (put1 (ran L) i):=by
  intro j oj hj hoj e he hb;rcases put1_or hj with rfl | hj
  ·rw[ho]at hoj;obtain rfl:=Rr.inj hoj;exact put1_of (hready e he hb)
  ·exact put1_of (hcl j oj hj hoj e he hb)
 have hnd':nodupO ((vs.take i).map (·.1))=true:=by rw[Wq];exact za8 hnd i
 have lookB: ∀t j,j<i->ran L j=true->(vs.map (·.1))[j]? =some (some t)->ρ' t=fin_ (vs.take i) ρ g t:=by
  intro t j hji hLj hdt;rw[RC]at hdt;cases hve:vs[j]? with
  | none=>rw[hve]at hdt;cases hdt
  | some p=>
   obtain⟨d1,f1⟩:=p;rw[hve]at hdt;simp at hdt;subst hdt;have hvt:(vs.take i)[j]? =some (some t,f1):=by rw[Ut,if_pos hji,hve]
   rw[fin_in hnd' hvt];exact(hm t).1 j f1 hLj hve
 have lookA: ∀t,(∀j:Nat,(vs.map (·.1))[j]? =some (some t)->ran L j=false)->(∀j:Nat,j<i->(vs.map (·.1))[j]? ≠some (some t))->ρ' t=fin_ (vs.take i) ρ g t:=by
  intro t hno hnb;have hnot:some t∉(vs.take i).map (·.1):=fun hmem=>by
   obtain⟨j,hj⟩:=Ri.1 hmem;rw[Wq,Ut]at hj;split at hj
   ·rename_i hji;exact hnb j hji hj
   ·cases hj
  rw[fin_out hnot];exact(hm t).2 fun j hj heq=>by rw[hno j heq]at hj;cases hj
 have hbk: ∀e∈o.after.toList,Rp .any e=true->e.on<i:=fun e he hb=>by
  have:=QN.1 hback e he;rw[hb]at this;simp only[Uy,Vk]at this;exact Qp this
 have hops': ∀x∈o.op.operands,ev ρ' x=ev (fin_ (vs.take i) ρ g) x:=by
  intro x hx;cases x with
  | tmp t=>
   have hmem:t∈opTmps o:=List.mem_filterMap.2 ⟨.tmp t,by simpa using hx,rfl⟩;have:=QN.1 hreads t hmem;simp only[RU,Rf]at this;rcases this with (hc | hb) | hlater
   ·have hnot: ∀j:Nat,(vs.map (·.1))[j]? ≠some (some t):=fun j hj=>by
     have h1:some t∈vs.map (·.1):=QF hj;rw[<-UY,List.contains_iff_mem]at hc;exact hc h1
    exact lookA t (fun j hj=>absurd hj (hnot j)) (fun j _=>hnot j)
   ·simp only[RA,Qu,beq_iff_eq]at hb;obtain⟨e,he,hbi,hdt⟩:=hb;exact lookB t e.on (hbk e he hbi) (hready e (by simpa using he) hbi) hdt
   ·have hl: ∀(j:Nat) oj,ops[j]? =some oj->(vs.map (·.1))[j]? =some (some t)-> ¬j<i/\∃e∈oj.after.toList,Rp .any e=true/\e.on=i:=fun j oj hoj hdj=>by
     have h1:=QN.1 hlater (oj,j) (by
      rw[Ri];refine⟨j,?_⟩;rw[Rt]
      simp[hoj])
     simp only[hdj,beq_self_eq_true,Uy,Vk,Qu,RA,Rf]at h1;obtain⟨h2,e,he,hb,hon⟩:=h1;refine⟨fun hlt=>?_,e,he,hb,QB hon⟩;have h3:Nat.blt j i=true:=Nat.ble_eq_true_of_le hlt;rw[h3]at h2;cases h2
    have hsome: ∀j:Nat,(vs.map (·.1))[j]? =some (some t)->∃oj,ops[j]? =some oj:=fun j hj=>by
     have h1:j<(vs.map (·.1)).length:=(List.getElem?_eq_some_iff.1 hj).1;exact⟨_,RF (by omega)⟩
    refine lookA t (fun j hj=>?_) (fun j hji hj=>?_)
    ·obtain⟨oj,hoj⟩:=hsome j hj;obtain⟨_,e,he,hb,hon⟩:=hl j oj hoj hj;cases hLj:ran L j with
     | false=>rfl
     | true=>
      have:=hcl j oj hLj hoj e (by simpa using he) hb;rw[hon,hunL]at this;cases this
    ·obtain⟨oj,hoj⟩:=hsome j hj;exact(hl j oj hoj hj).1 hji
  | _=>rfl
 have hexec:execOp (ev ρ') o=execOp (ev (fin_ (vs.take i) ρ g)) o:=execOp_congr o (fun cs b he=>by simp[notSelect,he]at hsel) hops';have hwant:QP o (zS ops ρ')=QP o (zS ops (fin_ (vs.take i) ρ g)):=by
  unfold QP;cases hgd:o.guard with
  | none=>rfl
  | some gd=>
   obtain⟨j,b⟩:=gd;have:zS ops ρ' j=zS ops (fin_ (vs.take i) ρ g) j:=by
    unfold zS;cases hj:(ops[j]?).bind (·.dst) with
    | none=>rfl
    | some t=>
     simp only[hgd,RA,Qu,beq_iff_eq]at hguard;obtain⟨e,he,hb,hon⟩:=hguard;have hjds:(vs.map (·.1))[j]? =some (some t):=by
      cases hoj:ops[j]? with
      | none=>simp[hoj]at hj
      | some oj=>
       have hjj:opOK ops (vs.map (·.1)) j oj=true:=hops (oj,j) (by
        rw[Ri];refine⟨j,?_⟩;rw[Rt]
        simp[hoj])
       simp only[opOK,Qu,beq_iff_eq]at hjj;have:=hjj.1.1.1.1;simp[hoj]at hj;rw[<-this,hj]
     have hlk:=lookB t j (hon▸hbk e he hb) (hon▸hready e (by simpa using he) hb) hjds;simp only[hlk]
   simp only[this]
 have hmid: ∀b,Mid ρ vs (setN g i b) (put1 (ran L) i) (zr ρ' d (f b)):=by
  intro b t;have hds:(vs.map (·.1))[i]? =some d:=by simp[hv]
  by_cases htd:d=some t
  ·subst htd;have e:zr ρ' (some t) (f b) t=f b:=by
    show (bif QL t t then f b else _)=f b;rw[RG];rfl
   refine⟨fun j f1 hj hvj=>?_,fun hn=>absurd hds (hn i (put1_self _ _))⟩;have hji:j=i:=nodupO_inj hnd (by rw[RC,hvj];rfl) hds;subst hji;rw[hv]at hvj;obtain rfl:f1=f:=by simpa using hvj.symm
   rw[e];unfold setN;rw[RG];rfl
  ·have e:zr ρ' d (f b) t=ρ' t:=by
    cases d with
    | none=>rfl
    | some k=>
     have hne:QL t k=false:=by
      cases hb:QL t k with
      | false=>rfl
      | true=>exact absurd (by rw[QB hb]) htd
     show (bif QL t k then f b else ρ' t)=ρ' t;rw[hne];rfl
   rw[e];refine⟨fun j f1 hj hvj=>?_,fun hn=>(hm t).2 fun j hj=>hn j (put1_of hj)⟩;have hji:j≠i:=by
    rintro rfl;rw[hv]at hvj;have:d=some t:=by simpa using congrArg (Option.map (·.1)) hvj
    exact htd this
   have hLj:ran L j=true:=(put1_or hj).resolve_left hji;have hN':setN g i b j=g j:=by
    unfold setN;cases hb:QL j i with
    | false=>rfl
    | true=>exact absurd (QB hb) hji
   rw[hN'];exact(hm t).1 j f1 hLj hvj
 have hgi:=vn.get hg hv;rw[Q9]at hgi
 obtain⟨o',ho',hd',hrun⟩:=hgi (ran L) g w hp hunL (fun o1 ho1 e he hb=>by
  rw[ho]at ho1;obtain rfl:=Rr.inj ho1;exact hready e he hb) hcl
 have:o'=o:=by rw[ho]at ho';exact(Rr.inj ho').symm
 subst this;have hput: ∀v,Rep (a.put o'.dst v) (zr ρ' d v) N:=fun v=>by
  have:=ha.put o'.dst (fun k hk=>hdN k (by rw[<-hd,hk])) v
  rwa [hd]at this⊢
 unfold wpOp;simp only[ho,xh ha,hwant];rcases hrun with⟨hwf,hV,hp'⟩ | ⟨hwt,hR⟩
 ·simp only[hwf,Uk,if_false];refine hK _ _ g _ (hput undef) ?_ hcl' hp';have:=hmid (g i)
  rwa [setN_self,hV]at this
 ·simp only[hwt,if_true];refine .inl ?_;unfold Oper.wp;rw[ha.eval,hexec];generalize (execOp (ev (fin_ (vs.take i) ρ g)) o').run P w=r at hR;cases r with
  | halt h w'=>exact hR.elim
  | ok n w'=>
   cases n with
   | value v=>obtain⟨b,rfl,hb⟩:=hR;exact hK _ _ _ _ (hput _) (hmid b) hcl' hb
   | skip=>obtain⟨b,hu,hb⟩:=hR;exact hK _ _ _ _ (by have:=hput undef;rwa [hu]at this⊢) (hmid b) hcl' hb
   | enter f' args=>
    refine Calls.mono hR fun e w'' he=>?_;rcases he with⟨v,rfl,b,rfl,hb⟩ | ⟨ch,rfl,hb⟩
    ·exact hK _ _ _ _ (hput _) (hmid b) hcl' hb
    ·exact hQ ch _ _ _ ha hb
   | _=>exact hR.elim
theorem zmX (hB: ∀ch ρ w,Bad ch w->Q (.panic ch) ρ w)(hok:drawOK ops (vs.map (·.1)) N=true)(hg:vn P Bad ops (fun i=>fin_ (vs.take i) ρ) pre vs 0)
 (hfin: ∀L g w',(∀i,i<ops.size->L i=true)->pre L g w'->Q .normal (fin_ vs ρ g) w'):
 ∀(fuel:Nat) (L:Array Bool),L.size=ops.size->(L.toList.countP (! ·))<=fuel-> ∀(a:Act) (ρ':Env) (g:Nat->Gh) (w:World),Rep a ρ' N->Mid ρ vs g (ran L) ρ'->Closed ops (ran L)->pre (ran L) g w->
  wpAny P .any ops (qQ N Q) fuel L a w:=by
 have hdone: ∀(L:Array Bool),L.size=ops.size->Rq .any ops L=[]-> ∀(a:Act) (ρ':Env) (g:Nat->Gh) (w:World),Rep a ρ' N->Mid ρ vs g (ran L) ρ'->pre (ran L) g w->qQ N Q .normal a w:=by
  intro L hL hr a ρ' g w ha hm hp;have hok':=hok;simp only[drawOK,Qu,QN,beq_iff_eq]at hok';obtain⟨⟨⟨hsz,hnd⟩,hN⟩,hops⟩:=hok';have hall: ∀i,i<ops.size->ran L i=true:=by
   intro i
   induction i using Nat.strongRecOn with
   | _ i ih=>
    intro hi;cases hb:ran L i with
    | true=>rfl
    | false=>
     have hmem:i∈Rq .any ops L:=by
      refine mem_ready.2 ⟨?_,ops[i],RF hi,fun e he hbd=>?_⟩
      ·have hlt:i<L.size:=by omega
       unfold ran at hb;simp[hlt]at hb⊢;exact hb
      ·have hoi:opOK ops (vs.map (·.1)) i ops[i]=true:=hops (ops[i],i) (by
        rw[Ri];refine⟨i,?_⟩;rw[Rt]
        simp[hi])
       simp only[opOK,Qu]at hoi;have:=QN.1 hoi.1.1.2 e (by simpa using he);rw[hbd]at this;have hlt:e.on<i:=Qp this;exact ih e.on hlt (by omega)
     rw[hr]at hmem;cases hmem
  have heq:ρ'=fin_ vs ρ g:=by
   funext t;by_cases ht:some t∈vs.map (·.1)
   ·obtain⟨i,hi,hit⟩:=List.getElem_of_mem ht;have hi':i<vs.length:=by simpa using hi
    obtain⟨⟨d,f⟩,hv⟩:∃p,vs[i]? =some p:=⟨_,Qr hi'⟩
    have hd:d=some t:=by
     rw[List.getElem_map]at hit;rw[Qr hi']at hv;rw[Rr.inj hv]at hit;exact hit
    subst hd;rw[fin_in hnd hv];exact(hm t).1 i f (hall i (by rw[hsz];exact hi)) hv
   ·rw[fin_out ht];exact(hm t).2 fun j hj heq=>ht (QF heq)
  exact⟨_,ha,heq▸hfin (ran L) g w hall hp⟩
 intro fuel
 induction fuel with
 | zero=>
  intro L hL hc a ρ' g w ha hm hcl hp;have hr:Rq .any ops L=[]:=by
   cases hr:Rq .any ops L with
   | nil=>rfl
   | cons i r=>
    have hi:i∈Rq .any ops L:=by rw[hr];exact QX
    obtain⟨hun,o,ho,_⟩:=mem_ready.1 hi;have hlt:i<L.size:=by rw[hL];exact(Q1.1 ho).1
    have:L.toList.countP (! ·)=0:=by omega
    rw[List.countP_eq_zero]at this;have h1:=this L[i] (by simp);simp[hlt]at hun h1;rw[hun]at h1;cases h1
  exact⟨hr,hdone L hL hr a ρ' g w ha hm hp⟩
 | succ fuel ih=>
  intro L hL hc a ρ' g w ha hm hcl hp;refine⟨fun hr=>hdone L hL hr a ρ' g w ha hm hp,fun i hi=>?_⟩;obtain⟨hun,o,ho,_⟩:=mem_ready.1 hi;have hlt:i<L.size:=by rw[hL];exact(Q1.1 ho).1
  refine zmW hok hg hi ha hm hL hcl hp (fun ch a' ρ'' w' ha' hb=>⟨ρ'',ha',hB ch ρ'' w' hb⟩) fun a' ρ'' g' w' ha' hm' hcl' hp'=>ih (L.setIfInBounds i true) (by simpa using hL) ?_ a' ρ'' g' w' ha' (by rw[ran_set hlt];exact hm') (by rw[ran_set hlt];exact hcl') (by rw[ran_set hlt];exact hp');have hf:L[i]=false:=by simpa [hlt] using hun
  have hc2:(L.setIfInBounds i true).toList.countP (! ·)+1=L.toList.countP (! ·):=by
   rw[Array.toList_setIfInBounds];have hl:i<L.toList.length:=by simpa using hlt
   have hfl:L.toList[i]=false:=by simpa using hf
   have hpos:0<L.toList.countP (! ·):=List.countP_pos_iff.2 ⟨_,List.getElem_mem hl,by rw[hfl];rfl⟩;have hset:=List.countP_set (p:=fun b:Bool=> !b) (l:=L.toList) (i:=i) (a:=true) hl;rw[hfl]at hset;simp only[Uy,Uk,if_false,Bool.not_false,if_true]at hset;omega
  omega
theorem WP.drawX {id:Nat}(hB: ∀ch ρ w,Bad ch w->Q (.panic ch) ρ w)(hm:P.follows .mixedOrders=true)(hok:drawOK ops (vs.map (·.1)) N=true)(hp:pre (fun _=>false) (fun _=>default) w.drew)(hg:vn P Bad ops (fun i=>fin_ (vs.take i) ρ) pre vs 0)
 (hfin: ∀L g w',(∀i,i<ops.size->L i=true)->pre L g w'->Q .normal (fin_ vs ρ g) w'):WP P N (.region id ops true) Q ρ w:=fun a ha=>
 have hno:ran (Ru ops.size false)=fun _=>false:=funext fun i=>by
  show (Ru ops.size false).getD i false=false;simp only[Array.getD_eq_getD_getElem?,Array.getElem?_replicate];split<;>rfl
 wp_region_any hm (zmX hB hok hg hfin ops.size _ (by simp) (by have:= @List.countP_le_length Bool (! ·) (List.replicate ops.size false);simpa using this) a ρ (fun _=>default) _ ha
  (fun t=>⟨fun i f hi _=>(by rw[hno]at hi;cases hi),fun _=>rfl⟩) (fun j o hj=>(by rw[hno]at hj;cases hj)) (by rw[hno];exact hp))
theorem g_draw0X {c:Code}(hB: ∀ch ρ w,Bad ch w->Q (.panic ch) ρ w)(l:List Nat)(vs:List (Option Nat×(Gh->Value)))(pre:(Nat->Bool)->(Nat->Gh)->World->Prop)(hc:jF c=some (l,true))(hm:P.follows .mixedOrders=true)(hok:drawOK (zp c) (vs.map (·.1)) N=true)(hp:pre (fun _=>false) (fun _=>default) w.drew)
 (hg:vn P Bad (zp c) (fun i=>fin_ (vs.take i) ρ) pre vs 0) (hfin: ∀L g w',(∀i,i<(zp c).size->L i=true)->pre L g w'->Q .normal (fin_ vs ρ g) w'):WP P N c Q ρ w:=by
 obtain⟨id,he,hl⟩:=vG hc;rw[he];exact WP.drawX hB hm hok hp hg hfin
end
theorem zbT.of {P:Program}{Bad:List PanicEntry->World->Prop}{ops:Array Oper}{R:(Nat->Gh)->Env}{pre:(Nat->Bool)->(Nat->Gh)->World->Prop}{i:Nat}{d:Option Nat}{f:Gh->Value}(h:Gives P ops R pre i d f):zbT P Bad ops R pre i d f:=fun L g w h1 h2 h3 h4=>by
 obtain⟨o,ho,hd,q⟩:=h L g w h1 h2 h3 h4;exact⟨o,ho,hd,q.imp id fun⟨a,b⟩=>⟨a,zbS.of b⟩⟩
end D2
abbrev xc (x:X3):Qd:=#[.bool x.l,.string x.s,.slice x.p x.n x.c]
theorem zg8 (x:X3):(xc x).toList=cells3 [x]:=rfl
section
variable {P:Program}{ρ:Env}{w w0:World}{B:Nat}{l:Qb}
theorem zg9 (HS:St B w0 w l){t e bytes:Nat}{s x:Operand}{o:Oper}{j k b bx n cap c:Nat}{cur:Qd}{L:List X3}{y:X3}(ht:yp P t=some (e,3,bytes))(ho:o.op=ym t s x)
 (hs:ev ρ s=Qf b n cap) (hj:l[j]? =some (b,.cells cur e)) (hr:Rw 3 cur cap n (cells3 L)) (hx:ev ρ x=Qf bx 1 c) (hk:l[k]? =some (bx,.cells (xc y) e))
 (hb:(n+1)*bytes<=0x800000000000) (hm:n+1<=maxLen):∃b' cap' cur' w',(execOp (ev ρ) o).run P w=.ok (.value (Qf b' (n+1) cap')) w'/\St B w0 w' (l.set j (b',.cells cur' e))/\Rw 3 cur' cap' (n+1) (cells3 (L++ [y])):=by
 obtain⟨it,z,hu,hi,hz,hsz,hby,hzs,h0⟩:=qi ht;have hnews: ∀q u,(cells3 [y])[q]? =some u->w.cell? ((⟨bx,0,none⟩:Addr).add q)=some u:=fun q u hq=>by
  rw[<-zg8,RN]at hq;rw[qh,Q9];simp[World.cell?,HS.get k hk,hq]
 obtain⟨v',w',hrun,hown,hgr,hnil,hblk⟩:=run_append_own_at (P:=P) w B t o.type e it z 3 bytes hu hi hz hsz hby hzs h0 _ n (cells3 L) (hr.owns (HS.ge j hj) (HS.get j hj)) ⟨bx,0,none⟩ 1 c (cells3 [y]) (ka [y]) hnews (zbE [y]) hm hb HS.le;have hown':=hown;rcases hown'.2 with⟨hv,_⟩|⟨g,cap',cur',rfl,hbg,hg,hnc,hcm,hcs,htk⟩
 ·exact absurd (hnil.1 hv).1 (by simp)
 ·have hgb:g=b\/g=w.heap.size:=by
   rcases hblk with hq|hq
   ·left;injection hq
   ·right;injection hq
  refine⟨g,cap',cur',w',?_,HS.grown j hj hgr hgb hg,?_⟩
  ·unfold execOp;simp only[ho,ym,resolve,invoke,builtin,Q7,Up,QJ,RI,Q8,Ug,hs,hx,hrun]
  ·rw[zbD];exact⟨hown.1,hnc,hcm,htk,hcs⟩
theorem zha (HS:St B w0 w l){t e bytes:Nat}{s x:Operand}{o:Oper}{k bx c:Nat}{y:X3}(ht:yp P t=some (e,3,bytes))(ho:o.op=ym t s x)
 (hs:ev ρ s=.slice none 0 0) (hx:ev ρ x=Qf bx 1 c) (hk:l[k]? =some (bx,.cells (xc y) e))
 (hb:(0+1)*bytes<=0x800000000000):∃b' cap' cur' w',(execOp (ev ρ) o).run P w=.ok (.value (Qf b' 1 cap')) w'/\St B w0 w' ((b',.cells cur' e)::l)/\Rw 3 cur' cap' 1 (cells3 [y]):=by
 obtain⟨it,z,hu,hi,hz,hsz,hby,hzs,h0⟩:=qi ht;have hnews: ∀q u,(cells3 [y])[q]? =some u->w.cell? ((⟨bx,0,none⟩:Addr).add q)=some u:=fun q u hq=>by
  rw[<-zg8,RN]at hq;rw[qh,Q9];simp[World.cell?,HS.get k hk,hq]
 obtain⟨v',w',hrun,hown,hgr,hnil,hblk⟩:=run_append_own_at (P:=P) w B t o.type e it z 3 bytes hu hi hz hsz hby hzs h0 (.slice none 0 0) 0 [] (World.ownsRow_nil w B e 3) ⟨bx,0,none⟩ 1 c (cells3 [y]) (ka [y]) hnews (zbE [y]) (by unfold maxLen;omega) hb HS.le;have hown':=hown;rcases hown'.2 with⟨hv,_⟩|⟨g,cap',cur',rfl,hbg,hg,hnc,hcm,hcs,htk⟩
 ·exact absurd (hnil.1 hv).2 (by simp)
 ·have hgb:g=w.heap.size:=by
   rcases hblk with hq|hq
   ·simp[Vs]at hq
   ·injection hq
  have hbel:Below w.heap.size w w':=(Below.refl _ w).grown hgr (QH _) (fun k hk=>by simp[Vs]at hk);have HS':=HS.add hbel (by omega) hg;rw[Q9]at hnc htk;refine⟨g,cap',cur',w',?_,HS',⟨by rw[ka];rfl,hnc,hcm,htk,hcs⟩⟩;unfold execOp;simp only[ho,ym,resolve,invoke,builtin,Q7,Up,QJ,RI,Q8,Ug,hs,hx,hrun]
end
abbrev xo (v:Value):Obj:=.cells #[.bool true,.string ⟨#[]⟩,v] 58 (0,0)
abbrev r0:Obj:=.cells #[.bool false,.string ⟨#[]⟩,.slice none 0 0] 58 (0,0)
def okX (t u:Qa)(x:X3)(T:Qb):Prop:=yd t x.l x.s x.k u/\SlC T x.p x.n x.c x.k/\x.s.size<=t.size
def RowSt (p:Qc)(n c:Nat)(row:Qb)(L:List X3):Prop:=(p=none/\n=0/\c=0/\row=[]/\L=[])\/∃b cur,p=Qg b/\row=[(b,.cells cur 58)]/\Rw 3 cur c n (cells3 L)
def qW (B:Nat)(w0:World)(t:Qa)(b2 b3 b4:Nat)(p:Qc)(n c:Nat)(row:Qb)(M:List X3)(L0:Qb):(Nat->Bool)->(Nat->D2.Gh)->World->Prop:=fun L g w=>
 bif L 4 then ∃u T x,okX t u x T/\Rw 3 (g 4).cur (g 4).cap (n+1) (cells3 (M++ [x]))/\St B w0 w ((b4,dc u)::(b3,xo (bif L 6 then Qf (g 4).b (n+1) (g 4).cap else .slice p n c))::(b2,r0)::((g 4).b,.cells (g 4).cur 58)::(T++L0))
 else bif L 3 then ∃u T x,okX t u x T/\St B w0 w (((g 3).b,.cells (xc x) 58)::(b4,dc u)::(b3,xo (.slice p n c))::(b2,r0)::(row++(T++L0)))
 else bif L 2 then ∃u T x,okX t u x T/\(g 2).cur=xc x/\St B w0 w ((b4,dc u)::(b3,xo (.slice p n c))::(b2,r0)::(row++(T++L0)))
 else St B w0 w ((b4,dc t)::(b3,xo (.slice p n c))::(b2,r0)::(row++L0))
section
variable {B:Nat}{w0:World}{t:Qa}{b2 b3 b4:Nat}{p:Qc}{n c:Nat}{row:Qb}{M:List X3}{L0:Qb}{L:Nat->Bool}{g:Nat->D2.Gh}{w:World}
theorem qW.keep {i:Nat}{y:D2.Gh}(hi:QL 2 i=false)(h3:QL 3 i=false)(h4:QL 4 i=false)(h6:QL 6 i=false)(h:qW B w0 t b2 b3 b4 p n c row M L0 L g w):qW B w0 t b2 b3 b4 p n c row M L0 (D2.put1 L i) (D2.setN g i y) w:=by
 have e2:D2.put1 L i 2=L 2:=by unfold D2.put1;rw[hi];rfl
 have e3:D2.put1 L i 3=L 3:=by unfold D2.put1;rw[h3];rfl
 have e4:D2.put1 L i 4=L 4:=by unfold D2.put1;rw[h4];rfl
 have e6:D2.put1 L i 6=L 6:=by unfold D2.put1;rw[h6];rfl
 have g2:D2.setN g i y 2=g 2:=by unfold D2.setN;rw[hi];rfl
 have g3:D2.setN g i y 3=g 3:=by unfold D2.setN;rw[h3];rfl
 have g4:D2.setN g i y 4=g 4:=by unfold D2.setN;rw[h4];rfl
 unfold qW at h⊢;rw[e2,e3,e4,e6,g2,g3,g4];exact h
theorem qW.x (h4:L 4=false)(h:qW B w0 t b2 b3 b4 p n c row M L0 L g w):∃l,St B w0 w l/\(b3,xo (.slice p n c))∈l:=by
 unfold qW at h;rw[h4]at h;cases h3:L 3 with
 | true=>rw[h3]at h;obtain⟨u,T,x,_,h⟩:=h;exact⟨_,h,by simp⟩
 | false=>
  rw[h3]at h;cases h2:L 2 with
  | true=>rw[h2]at h;obtain⟨u,T,x,_,_,h⟩:=h;exact⟨_,h,by simp⟩
  | false=>rw[h2]at h;exact⟨_,h,by simp⟩
end
theorem zhb (x:X3): ∀M:List X3,wrF (toFo (M++ [x]))=wrF (toFo M)++wr1 x.l x.s (szF x.k) (wrF x.k)
 | []=>by simp[toFo,wrF]
 | m::M=>by simp only[Rm,toFo,wrF,zhb x M,QD]
theorem zdY (x:X3)(hm:mixed x.l x.s x.k.len=false)(hp:pureF x.k=true): ∀M:List X3,pureF (toFo M)=true->pureF (toFo (M++ [x]))=true
 | [],_=>by simp[toFo,pureF,hm,hp]
 | m::M,h=>by
  simp only[toFo,pureF,Qu]at h;simp only[Rm,toFo,pureF,Qu];exact⟨h.1,zdY x hm hp M h.2⟩
theorem AllIn.mono {T T':Qb}{M:List X3}(h:AllIn T M)(hs: ∀e∈T,e∈T'):AllIn T' M:=fun x hx=>⟨(h x hx).1.mono hs,(h x hx).2⟩
theorem AllIn.snoc {T:Qb}{M:List X3}{x:X3}(h:AllIn T M)(hx:SlIn T x.p x.n x.k)(hz:x.s.size<=0x800000000000):AllIn T (M++ [x]):=fun y hy=>by
 rcases UI.1 hy with q|q
 ·exact h y q
 ·obtain rfl:=RY.1 q;exact⟨hx,hz⟩
structure vp (t t':Qa)(p:Qc)(n c:Nat)(row:Qb)(M:List X3)(T:Qb):Prop where
 row:RowSt p n c row M
 size:n+t'.size<=t.size
 all:tl t=wrF (toFo M)++tl t'
 pur:pureF (toFo M)=true
 inn:AllIn T M
 rest: ∀k,pureF k=true->tl t=wrF k->∃k',pureF k'=true/\tl t'=wrF k'
theorem vp.bad {t t':Qa}{p:Qc}{n c:Nat}{row:Qb}{M:List X3}{T:Qb}(h:vp t t' p n c row M T)(h0:t'.size≠0)(hb:jA t'):zbM t:=fun k hp he=>by
 obtain⟨k',hp',he'⟩:=h.rest k hp he;cases k' with
 | nil=>have:=congrArg Qo he';rw[zu]at this;simp[wrF]at this;exact h0 (by rw[this];rfl)
 | cons l s k r=>
  simp only[pureF,Qu,Rf]at hp';exact hb l s k (wrF r) hp'.1.1 hp'.1.2 he'
theorem vp.next {t t' u:Qa}{p:Qc}{n c:Nat}{row:Qb}{M:List X3}{T T2:Qb}{x:X3}{b cap:Nat}{cur:Qd}(ht:t.size<=100000)(h:vp t t' p n c row M T)(hx:okX t' u x T2)(hr:Rw 3 cur cap (n+1) (cells3 (M++ [x]))):
 u.size<t'.size/\vp t u (Qg b) (n+1) cap [(b,.cells cur 58)] (M++ [x]) (T2++T):=by
 obtain⟨⟨hm,hp,hi⟩,hs,hz⟩:=hx;have hlen:=congrArg Qo hi;have h1:=(xO hm hp rfl).1;rw[zu,Qx,zu]at hlen;have hsz:=h.size;refine⟨by omega,.inr ⟨b,cur,rfl,rfl,hr⟩,by omega,?_,zdY x hm hp M h.pur,?_,?_⟩
 ·rw[h.all,hi,zhb,QD]
 ·exact(h.inn.mono fun e he=>QZ _ he).snoc (hs.1.mono fun e he=>Rd _ he) (by omega)
 ·intro k hpk hk;obtain⟨k',hp',he'⟩:=h.rest k hpk hk;exact zgZ (by omega) ⟨hm,hp,hi⟩ hp' he'
theorem vp.done {t t':Qa}{p:Qc}{n c:Nat}{row:Qb}{M:List X3}{T:Qb}(ht:t.size<=100000)(h:vp t t' p n c row M T)(h0:t'=⟨#[]⟩):zg6 t (.agg #[.bool true,.string ⟨#[]⟩,.slice p n c]) (row++T):=by
 have hsz:=h.size;refine⟨p,n,c,toFo M,rfl,?_,h.pur,?_⟩
 ·rw[h.all,h0];exact QI _
 ·rcases h.row with⟨rfl,rfl,rfl,rfl,rfl⟩|⟨b,cur,rfl,rfl,hr⟩
  ·exact SlC.none _
  ·exact⟨hr.slIn (b:=b) (ty:=58) (fz:=(0,0)) (by simp) (h.inn.mono fun e he=>QZ _ he) (by omega),hr.le⟩
theorem zhc (t:Qa)(ht:t.size<=100000)(hi: ∀(bd:Nat) (u:Qa),u.size<=t.size->uA bd u):zdX t:=by
 refine zmS [.cell 2 58] 18 Tryz.func112 fun B w0 w L H0=>zd [0] kr kr<|zA H0 (some 2) 58 (.agg #[.bool false,.string ⟨#[]⟩,.slice none 0 0]) kr kr kr ?_;intro b2 w1 H1;refine zb<|zd [0,1,2,3,4,5,6] kr kr<|zn (some 5) (.agg #[.bool true,.string ⟨#[]⟩,.slice none 0 0])<|zn (some 6) (.string t)<|zn (some 7) (.agg #[.string t])<|zA H1 (some 3) 58 (.agg #[.bool false,.string ⟨#[]⟩,.slice none 0 0]) kr kr kr ?_;intro b3 w2 H2;refine zA H2 (some 4) 115 (.agg #[.string ⟨#[]⟩]) kr kr kr ?_;intro b4 w3 H3;refine rp [.s 1,.s 0] H3 kr fun gs4 w4 H4=>wX []<|zb ?_;have H5:St B w0 w4 ((b4,dc t)::(b3,xo (.slice none 0 0))::(b2,r0)::([]++([]++L))):=H4.as kr;refine za kr<|zm 0 kr<|zO kr (fun mz ρ ww=> ∃(t':Qa) (p:Qc) (n c:Nat) (row:Qb) (M:List X3) (T:Qb),t'.size=mz/\vp t t' p n c row M T/\St B w0 ww ((b4,dc t')::(b3,xo (.slice p n c))::(b2,r0)::(row++(T++L)))/\Is [(0,.string t),(2,Qe b2),(3,Qe b3),(4,Qe b4)] ρ) t.size ⟨t,none,0,0,[],[],[],rfl,⟨.inl ⟨rfl,rfl,rfl,rfl,rfl⟩,by omega,rfl,rfl,(fun _ h=>nomatch h),fun k hp he=>⟨k,hp,he⟩⟩,H5,zl⟩ ?_;rintro _ _ w5 ⟨t',p,n,c,row,M,T,rfl,hI,H6,_,rfl⟩;have hsz:=hI.size;by_cases h0:t'=⟨#[]⟩
 ·refine za kr<|rS [.v,.l 0,itE t' (⟨#[]⟩) h0] H6 kr fun gs5 w6 H7=>zi kr kr<|zE 0 kr<|wW<|rS [.l 1,.s 2] H7 kr fun gs6 w7 H8=>?_;have H9:St B w0 w7 ((b4,dc t')::(b3,xo (.slice p n c))::(b2,xo (.slice p n c))::(row++(T++L))):=H8.as kr;refine zk kr<|wV ?_;refine⟨[.agg #[.bool true,.string ⟨#[]⟩,.slice p n c]],(.agg (b:=b2) (#[.bool true,.string ⟨#[]⟩,.slice p n c]) 58 (0,0) kr (H9.get 2 kr) kr .nil),row++T,hI.done ht h0,?_⟩;rw[QD];exact H9.sub (Qs _ (Qs _ (Qt ..)))
 ·have hz:=ux h0;refine za kr<|rS [.v,.l 0,itO t' (⟨#[]⟩) h0] H6 kr fun gs5 w6 H7=>zh kr kr<|zj kr<|wW<|zm 1 kr ?_;have H8:St B w0 w6 ((b4,dc t')::(b3,xo (.slice p n c))::(b2,r0)::(row++(T++L))):=H7.as kr;refine D2.g_draw0X (Bad:=fun ch w'=>ch=chF/\zbM t/\St B w0 w' L) (fun ch ρ w h=>h) [0,1,2,3,4,5,6] [(some 11,fun _=>.pointer (some ⟨b3,2,none⟩)),(some 12,fun _=>.slice p n c),(some 13,fun y=>.agg y.cur),(some 14,fun y=>Qf y.b 1 1),(some 15,fun y=>Qf y.b (n+1) y.cap),(some 16,fun _=>.pointer (some ⟨b3,2,none⟩)),(none,fun _=>undef)] (qW B w0 t' b2 b3 b4 p n c row M (T++L)) kr kr kr H8.drew ⟨?_,?_,?_,?_,?_,?_,?_,trivial⟩ ?_
  ·exact .of (D2.gv_val (fun L g w h=>by have:=h.keep (i:=0) (y:=g 0) rfl rfl rfl rfl;rwa [D2.setN_self]at this) (fun g w=>by kernel_rfl))
  ·refine .of (D2.gives_of fun L g w hp hN=>?_);obtain⟨o,ho,hd,hw,hop⟩:=zM (show opk _ 1 _=some (some 12,true,.load 47 (.tmp 11)) by kernel_rfl);obtain⟨l,HS,hm⟩:=hp.x (hN.post 4 kr);refine⟨o,ho,hd,.inr ⟨hw,?_⟩⟩;rw[zfS (off:=2) (v:=.slice p n c) (HS.own _ hm).2 kr kr kr o hop];exact⟨g 1,rfl,hp.keep rfl rfl rfl rfl⟩
  ·intro L1 g w hp hn hr hc;have hN:D2.Now _ 2 L1:=⟨hn,hr,hc⟩
   have h3:=hN.post 3 kr;have h4:=hc.no 3 4 kr h3;obtain⟨o,ho,hd,hw,hrun⟩:=yc (show opv _ _ 2 _ w=some (some 13,true,.ok (.enter 76 #[Qe b4]) w) by kernel_rfl);refine⟨o,ho,hd,.inr ⟨hw,?_⟩⟩;rw[hrun];unfold qW at hp;rw[h4,h3,hn]at hp;refine(hi b4 t' (by omega) B w0 w _ hp).mono fun e w' q=>?_;rcases q with⟨v,u,T2,rfl,⟨l,s,p1,n1,c1,k,rfl,q1,q2,q3⟩,HS⟩ | ⟨rfl,hb,HS⟩
   ·refine .inl ⟨_,rfl,{ cur:=#[.bool l,.string s,.slice p1 n1 c1] },rfl,?_⟩;unfold qW;rw[show D2.put1 L1 2 4=false from h4,show D2.put1 L1 2 3=false from h3,show D2.put1 L1 2 2=true from rfl];exact⟨u,T2,⟨l,s,p1,n1,c1,k⟩,⟨q1,q2,q3⟩,rfl,HS.perm (QM _ (Ro ((b3,xo (.slice p n c))::(b2,r0)::row) T2 (T++L)))⟩
   ·exact .inr ⟨chF,rfl,rfl,hI.bad hz hb,HS.sub (Qs _ (Qs _ ((QK _ _).trans (QK _ _))))⟩
  ·refine .of (D2.gives_of fun L1 g w hp hN=>?_);have h2:=hN.bef 2 kr;have h4:=hN.post 4 kr;unfold qW at hp;rw[h4,hN.1,h2]at hp;obtain⟨u,T2,x,hx,hcur,HS⟩:=hp;obtain⟨o,ho,hd,hw,hrun⟩:=yc (show opv _ _ 3 (qg [(11,.pointer (some ⟨b3,2,none⟩)),(12,.slice p n c),(13,.agg (g 2).cur)] _) w=some (some 14,true,.ok (.value (Qf w.heap.size 1 1)) (w.alloc (.cells (xc x) 58))) by rw[hcur];kernel_rfl);refine⟨o,ho,hd,.inr ⟨hw,?_⟩⟩;refine(congrArg (D2.Runs _ _) hrun).mpr ?_;refine⟨{ b:=w.heap.size },rfl,?_⟩;unfold qW;rw[show D2.put1 L1 3 4=false from h4,show D2.put1 L1 3 3=true from rfl];exact⟨u,T2,x,hx,HS.alloc _⟩
  ·refine .of (D2.gives_of fun L1 g w hp hN=>?_);have h3:=hN.bef 3 kr;have h6:=hN.post 6 kr;unfold qW at hp;rw[hN.1,h3]at hp;obtain⟨u,T2,x,hx,HS⟩:=hp;obtain⟨o,ho,hd,hw,hop⟩:=zM (show opk _ 4 _=some (some 15,true,ym 47 (.tmp 12) (.tmp 14)) by kernel_rfl);refine⟨o,ho,hd,.inr ⟨hw,?_⟩⟩;rcases hI.row with⟨rfl,rfl,rfl,rfl,rfl⟩ | ⟨b,cur,rfl,rfl,hrw⟩
   ·obtain⟨b',cap',cur',w',hrun,HS',hr'⟩:=zha HS (t:=47) (e:=58) (bytes:=48) (k:=0) (bx:=(g 3).b) (c:=1) (y:=x) kr hop kr kr rfl (by omega);rw[hrun];refine⟨{ b:=b',cap:=cap',cur:=cur' },rfl,?_⟩;unfold qW;rw[show D2.put1 L1 4 4=true from rfl,show D2.put1 L1 4 6=false from h6];refine⟨u,T2,x,hx,hr',?_⟩;exact(HS'.sub (Qq _ (Qt ..))).perm (Rl (l₁:=[(b4,dc u),(b3,xo (.slice none 0 0)),(b2,r0)]))
   ·obtain⟨b',cap',cur',w',hrun,HS',hr'⟩:=zg9 HS (t:=47) (e:=58) (bytes:=48) (j:=4) (k:=0) (bx:=(g 3).b) (c:=1) (y:=x) kr hop kr rfl hrw kr rfl (by omega) (by unfold maxLen;omega);rw[hrun];refine⟨{ b:=b',cap:=cap',cur:=cur' },rfl,?_⟩;unfold qW;rw[show D2.put1 L1 4 4=true from rfl,show D2.put1 L1 4 6=false from h6];exact⟨u,T2,x,hx,hr',HS'.sub (Qt ..)⟩
  ·exact .of (D2.gv_val (fun L g w h=>by have:=h.keep (i:=5) (y:=g 5) rfl rfl rfl rfl;rwa [D2.setN_self]at this) (fun g w=>by kernel_rfl))
  ·refine .of (D2.gives_of fun L1 g w hp hN=>?_);have h4:=hN.bef 4 kr;unfold qW at hp;rw[h4,hN.1]at hp;obtain⟨u,T2,x,hx,hr',HS⟩:=hp;obtain⟨o,ho,hd,hw,hop⟩:=zM (show opk _ 6 _=some (none,true,.store 47 (.tmp 16) (.tmp 15)) by kernel_rfl);refine⟨o,ho,hd,.inr ⟨hw,?_⟩⟩;rw[vQ (t:=47) (off:=2) (b:=b3) (C:=#[.bool true,.string ⟨#[]⟩,.slice p n c]) (T:=58) (v:=Qf (g 4).b (n+1) (g 4).cap) (C':=#[.bool true,.string ⟨#[]⟩,Qf (g 4).b (n+1) (g 4).cap]) (HS.get 1 kr) kr kr (of_decide_eq_true kr) kr kr kr o hop];refine⟨default,rfl,?_⟩;unfold qW;rw[show D2.put1 L1 6 4=true from h4,show D2.put1 L1 6 6=true from rfl];exact⟨u,T2,x,hx,hr',HS.store 1 (C:=#[.bool true,.string ⟨#[]⟩,.slice p n c]) kr⟩
  ·intro L1 g w' hall hp;unfold qW at hp;rw[hall 4 (Qp kr),hall 6 (Qp kr)]at hp;obtain⟨u,T2,x,hx,hr',HS⟩:=hp;obtain⟨hlt,hI'⟩:=hI.next (b:=(g 4).b) ht hx hr'
   show ∃m,_/\_;refine⟨_,hlt,u,_,_,_,_,_,_,rfl,hI',?_,zl⟩;rw[QD];exact HS
theorem zmY (m:Nat):(∀(t:Qa),t.size<=m->m<=100000->(∀bd,uA bd t)/\zdX t):=by
 induction m with
 | zero=>
  intro t h hm;have hi: ∀(bd:Nat) (u:Qa),u.size<=t.size->uA bd u:=fun bd u hu=>zg7 bd u (by omega) fun s hs=>by omega
  exact⟨fun bd=>hi bd t (QH _),zhc t (by omega) hi⟩
 | succ m ih=>
  intro t h hm;have hi: ∀(bd:Nat) (u:Qa),u.size<=t.size->uA bd u:=fun bd u hu=>zg7 bd u (by omega) fun s hs=>(ih s (by omega) (by omega)).2;exact⟨fun bd=>hi bd t (QH _),zhc t (by omega) hi⟩
theorem zmZ (bd:Nat)(t:Qa)(ht:t.size<=100000):uA bd t:=(zmY 100000 t ht (QH _)).1 bd
structure uB (ds:List Deferred)(a:Act)(ρ:Env)(N:Nat):Prop where
 defers:a.defers=ds
 rep:Rep { a with defers:=[] } ρ N
def zbU (ds:List Deferred)(N:Nat)(Q:Exit->Env->World->Prop):Exit->Act->World->Prop:=fun e a w=> ∃ρ,uB ds a ρ N/\Q e ρ w
theorem zhd (a:Act)(d:Option Nat)(v:Value):(a.put d v).defers=a.defers:=by cases d<;>rfl
theorem zm0 (a:Act)(d:Option Nat)(v:Value): { a.put d v with defers:=[] } =({ a with defers:=[] } :Act).put d v:=by cases d<;>rfl
theorem zbV (a:Act):({ a with defers:=[] } :Act).eval=a.eval:=by funext x;cases x<;>rfl
section
variable {P:Program}{N:Nat}{ops:Array Oper}{Q:Exit->Env->World->Prop}{K:Env->World->Prop}{ρ:Env}{w:World}{i:Nat}{ds:List Deferred}
theorem zhe (h:LetsOut (qQ N Q)):LetsOut (zbU ds N Q):=by
 obtain⟨a,w,ρ,hr,hq⟩:=h;exact⟨{ a with defers:=ds },w,ρ,⟨rfl,⟨rfl,hr.size,hr.at_⟩⟩,hq⟩
theorem zm1 {a:Act}(ha:a.defers=ds)(h:wpOp P ops (qQ N Q) i (fun a' w'=> ∃ρ',Rep a' ρ' N/\K ρ' w') { a with defers:=[] } w):wpOp P ops (zbU ds N Q) i (fun a' w'=> ∃ρ',uB ds a' ρ' N/\K ρ' w') a w:=by
 unfold wpOp at h⊢;have hnext: ∀(d:Option Nat) (v:Value) (w':World),(∃ρ',Rep (({ a with defers:=[] } :Act).put d v) ρ' N/\K ρ' w')->∃ρ',uB ds (a.put d v) ρ' N/\K ρ' w':=fun d v w' ⟨ρ',hr,hk⟩=>⟨ρ',⟨by rw[zhd,ha],by rw[zm0];exact hr⟩,hk⟩
 cases ho:ops[i]? with
 | none=>
  simp only[ho]at h⊢;obtain⟨ρ',hr,hk⟩:=h;exact⟨ρ',⟨ha,hr⟩,hk⟩
 | some o=>
  simp only[ho]at h⊢;split
  ·rename_i hw
   rw[if_pos hw]at h;rcases h with h | ⟨h1,h2⟩
   ·left;unfold Oper.wp at h⊢;rw[zbV]at h;generalize (execOp a.eval o).run P w=r at h;cases r with
    | ok n w'=>
     cases n with
     | value v=>exact hnext _ _ _ h
     | skip=>exact hnext _ _ _ h
     | defer d=>
      obtain⟨ρ',hr,_⟩:=h;have:=hr.defers;rw[zhd]at this;cases this
     | enter f args=>
      refine Calls.mono h fun e w'' q=>?_;cases e with
      | returned v=>exact hnext _ _ _ q
      | panicked ch=>
       obtain⟨ρ',hr,hq⟩:=q;exact⟨ρ',⟨ha,hr⟩,hq⟩
      | outgrown=>exact zhe q
     | row row args=>exact Rows.mono h fun v w'' q=>hnext _ _ _ q
     | _=>exact(h:False).elim
    | halt hh w'=>
     cases hh with
     | panic v=>
      obtain⟨ρ',hr,hq⟩:=h;exact⟨ρ',⟨ha,hr⟩,hq⟩
     | _=>exact(h:False).elim
   ·right;refine⟨?_,zhe h2⟩;unfold Oper.asks at h1⊢;rw[zbV]at h1;exact h1
  ·rename_i hw
   rw[if_neg hw]at h;exact hnext _ _ _ h
theorem yX.soundD: ∀(l:List Nat) (ρ:Env) (w:World),yX P N ops Q (Q .normal) l ρ w-> ∀a,uB ds a ρ N->wpOps P ops (zbU ds N Q) l a w
 | [],ρ,w,h,a,ha=>⟨ρ,ha,h⟩
 | i::r,ρ,w,h,a,ha=>by
  rw[wpOps_cons];exact wpOp_mono (fun a' w' ⟨ρ',hr,h'⟩=>yX.soundD r ρ' w' h' a' hr) (zm1 ha.defers (h _ ha.rep))
def WPD (ds:List Deferred)(P:Program)(N:Nat)(c:Code)(Q:Exit->Env->World->Prop)(ρ:Env)(w:World):Prop:= ∀a,uB ds a ρ N->c.wp P (zbU ds N Q) a w
variable {c:Code}
theorem zhf (hc:qo c=true)(h:WPD ds P N (zH c) (nx (WPD ds P N (zy c) Q) Q) ρ w):WPD ds P N c Q ρ w:=fun a ha=>by
 rw[zfa hc]
 exact wp_seq (Go.wp_mono (h a ha) fun e a' w' ⟨r,hr,q⟩=>by
  cases e<;>first | exact q a' hr | exact⟨r,hr,q⟩)
theorem zhg (l:List Nat)(hc:jF c=some (l,false))(h:yX P N (zp c) Q (Q .normal) l ρ w):WPD ds P N c Q ρ w:=fun a ha=>by
 obtain⟨id,he,hl⟩:=vG hc;rw[he];exact wp_region (by rw[hl];exact yX.soundD l ρ w h a ha)
theorem zaF (l:List Nat)(hc:qo c=true)(hr:jF (zH c)=some (l,false))(h:yX P N (zp (zH c)) (nx (WPD ds P N (zy c) Q) Q) (WPD ds P N (zy c) Q) l ρ w):WPD ds P N c Q ρ w:=
 zhf hc (zhg l hr h)
theorem zm2 (hc:uk c=true)(h:Q .normal ρ w):WPD ds P N c Q ρ w:=fun a ha=>by rw[zfd hc];exact wp_skip ⟨ρ,ha,h⟩
end
section
variable {P:Program}{N:Nat}{ops:Array Oper}{ρ:Env}{w w':World}{i:Nat}{ds:List Deferred}{c:Code}{rest:List Nat}{a:Act}{cs:List Frame}
theorem zm3 {Q:Exit->Env->World->Prop}(hc:kx c=true)(hx:ev ρ (jQ c)=.bool true)(ht:WPD ds P N (ku c) Q ρ w):WPD ds P N c Q ρ w:=fun a ha=>by
 rw[za7 hc];exact wp_cond_true (by rw[<-zbV,ha.rep.eval];exact hx) (ht a ha)
theorem zm4 {Q:Exit->Env->World->Prop}(hc:kx c=true)(hx:ev ρ (jQ c)=.bool false)(ht:WPD ds P N (kw c) Q ρ w):WPD ds P N c Q ρ w:=fun a ha=>by
 rw[za7 hc];exact wp_cond_false (by rw[<-zbV,ha.rep.eval];exact hx) (ht a ha)
theorem zm5 {Q:Exit->Env->World->Prop}(hc:ky c=true)(h:Q .ret ρ w):WPD ds P N c Q ρ w:=fun a ha=>by rw[zfc hc];exact wp_ret ⟨ρ,ha,h⟩
variable {Q:Exit->Act->List Frame->World->Prop}
theorem zm6 {d:Option Nat}(ha:Rep a ρ N)(hn:recoverD cs=none)(h:opv P ops i ρ w=some (d,true,.ok .recover w'))(k:wpOpsS P ops Q rest (a.put d .nilIface) cs w'):wpOpsS P ops Q (i::rest) a cs w:=by
 obtain⟨o,ho,rfl,hw,hr⟩:=yc h;have h1:QP o (yielded ops a.tmps)=true:=by rw[xh ha];exact hw
 rw[<-ha.eval]at hr;simp only[wpOpsS,ho,h1,if_true,hr,hn];exact k
theorem zm7 {d:Option Nat}{v:Value}{cs':List Frame}(ha:Rep a ρ N)(hn:recoverD cs=some (v,cs'))(h:opv P ops i ρ w=some (d,true,.ok .recover w'))(k:wpOpsS P ops Q rest (a.put d v) cs' w'):wpOpsS P ops Q (i::rest) a cs w:=by
 obtain⟨o,ho,rfl,hw,hr⟩:=yc h;have h1:QP o (yielded ops a.tmps)=true:=by rw[xh ha];exact hw
 rw[<-ha.eval]at hr;simp only[wpOpsS,ho,h1,if_true,hr,hn];exact k
theorem zhh {d:Option Nat}{v:Value}(ha:Rep a ρ N)(h:opv P ops i ρ w=some (d,true,.ok (.value v) w'))(k:wpOpsS P ops Q rest (a.put d v) cs w'):wpOpsS P ops Q (i::rest) a cs w:=by
 obtain⟨o,ho,rfl,hw,hr⟩:=yc h;have h1:QP o (yielded ops a.tmps)=true:=by rw[xh ha];exact hw
 rw[<-ha.eval]at hr;simp only[wpOpsS,ho,h1,if_true,hr,Oper.upon];exact k
end
def chR:FrameMode:=.panicking [{ v:=.iface 31 (.int .i64 4),recovered:=true }]
theorem zdZ (args:Qd)(n N:Nat)(hn:args.size+n=N):Rep { tmps:=args++Ru n undef,defers:=[] } (ini args) N:=by
 refine⟨rfl,by simp[hn],fun t=>?_⟩;unfold ini;rw[km,km,Array.getElem?_append];split
 ·rfl
 ·rename_i hge
  rw[Array.getElem?_eq_none (Nat.le_of_not_lt hge)];cases he:(Ru n undef)[t-args.size]? with
  | none=>rfl
  | some v=>
   have:=Array.mem_of_getElem? he;simp at this;simp[this]
abbrev qC (b2 b3:Nat):Qd:=#[Qe b2,Qe b3]
theorem zm8 (b2 b3:Nat)(w:World):CallsD Tryz.prog 75 (qC b2 b3) .returning w fun e u' w'=>e=.returned (.tuple #[])/\u'=.returning/\w'=w:=by
 refine callsD_of_wpS (f:=75) (c:=zz Tryz.f75) (P:=Tryz.prog) Tryz.func75 kr fun c0 cs hm=>?_;have ha:=zdZ (qC b2 b3) 3 5 rfl;have hc:zz Tryz.f75=.seq (zH (zz Tryz.f75)) (zy (zz Tryz.f75)):=kr;have hr:recoverD (c0::cs)=none:=by simp[recoverD,hm]
 rw[hc];refine wpS_seq ?_;have hreg:zH (zz Tryz.f75)=.region 0 (zp (zH (zz Tryz.f75))) false:=kr;rw[hreg];refine wpS_region ?_;rw[show QW (zp (zH (zz Tryz.f75))).size=[0,1] by kernel_rfl];show wpOpsS _ _ _ [0,1] { tmps:=qC b2 b3++Ru 3 undef,defers:=[] } _ _;refine zm6 (ρ:=ini (qC b2 b3)) (d:=some 2) (w':=w) ha hr kr ?_;have ha2:=ha.put (some 2) (zZ (by rfl)) .nilIface;refine zhh (d:=some 3) (v:=.bool false) (w':=w) ha2 kr ?_;have ha3:=ha2.put (some 3) (zZ (by rfl)) (.bool false);show (zy (zz Tryz.f75)).wpS _ _ _ _ _;have hcond:zy (zz Tryz.f75)=.cond (jQ (zy (zz Tryz.f75))) (ku (zy (zz Tryz.f75))) (kw (zy (zz Tryz.f75))):=kr;rw[hcond];refine wpS_cond (t:=false) (by rw[ha3.eval];kernel_rfl)<|wpS_of_wp ?_;have hsk:kw (zy (zz Tryz.f75))=.skip:=kr;rw[if_neg (by decide),hsk];refine wp_skip ?_;exact⟨ha3.defers,c0.mode,rfl,.tuple #[],by kernel_rfl,rfl,hm,rfl⟩
theorem zm9 (b2 b3:Nat)(x1 x2 x3 y:Value){B:Nat}{w0 w:World}{L:Qb}(H:St B w0 w ((b2,.cells #[x1,x2,x3] 58 (0,0))::(b3,.cells #[y] 31 (0,0))::L)):
 CallsD Tryz.prog 75 (qC b2 b3) (.panicking chF) w fun e u' w'=>e=.returned (.tuple #[])/\u'=chR/\St B w0 w' ((b2,.cells #[.bool false,.string ⟨#[]⟩,.slice none 0 0] 58 (0,0))::(b3,.cells #[.int .i64 4] 31 (0,0))::L):=by
 refine callsD_of_wpS (f:=75) (c:=zz Tryz.f75) (P:=Tryz.prog) Tryz.func75 kr fun c0 cs hm=>?_;have ha:=zdZ (qC b2 b3) 3 5 rfl;have hc:zz Tryz.f75=.seq (zH (zz Tryz.f75)) (zy (zz Tryz.f75)):=kr;have hr:recoverD (c0::cs)=some (.iface 31 (.int .i64 4),{ c0 with mode:=chR } :: cs):=by simp[recoverD,hm,chF,chR]
 rw[hc];refine wpS_seq ?_;have hreg:zH (zz Tryz.f75)=.region 0 (zp (zH (zz Tryz.f75))) false:=kr;rw[hreg];refine wpS_region ?_;rw[show QW (zp (zH (zz Tryz.f75))).size=[0,1] by kernel_rfl];show wpOpsS _ _ _ [0,1] { tmps:=qC b2 b3++Ru 3 undef,defers:=[] } _ _;refine zm7 (ρ:=ini (qC b2 b3)) (d:=some 2) (w':=w) ha hr kr ?_;have ha2:=ha.put (some 2) (zZ (by rfl)) (.iface 31 (.int .i64 4));refine zhh (d:=some 3) (v:=.bool true) (w':=w) ha2 kr ?_;have ha3:=ha2.put (some 3) (zZ (by rfl)) (.bool true);show (zy (zz Tryz.f75)).wpS _ _ _ _ _;have hcond:zy (zz Tryz.f75)=.cond (jQ (zy (zz Tryz.f75))) (ku (zy (zz Tryz.f75))) (kw (zy (zz Tryz.f75))):=kr;rw[hcond];refine wpS_cond (t:=true) (by rw[ha3.eval];kernel_rfl)<|wpS_of_wp ?_;rw[if_pos rfl];have hw:WP Tryz.prog 5 (ku (zy (zz Tryz.f75))) (fun e ρ w'=>match e with | .normal=>St B w0 w' ((b2,.cells #[.bool false,.string ⟨#[]⟩,.slice none 0 0] 58 (0,0))::(b3,.cells #[.int .i64 4] 31 (0,0))::L) | _=>False) _ w:=rL (ρ:=zr (zr (ini (qC b2 b3)) (some 2) (.iface 31 (.int .i64 4))) (some 3) (.bool true)) [.v,.s 0,.s 1] H kr fun gs w' H'=>H'.as kr;refine Go.wp_mono (hw _ ha3) ?_;rintro e a' w' ⟨ρ',hrep,hq⟩;cases e with
 | normal=>exact⟨hrep.defers,chR,rfl,.tuple #[],by kernel_rfl,rfl,rfl,hq⟩
 | _=>exact(hq:False).elim
def zna (t:Qa)(v:Value)(T:Qb):Prop:=
 (∃(l:Bool) (s:Qa) (p:Qc) (n c:Nat) (k:Fo),v=.tuple #[.agg #[.bool l,.string s,.slice p n c],.int .i64 0]/\yd t l s k ⟨#[]⟩/\SlC T p n c k/\s.size<=t.size)\/
 (v=.tuple #[.agg #[.bool false,.string ⟨#[]⟩,.slice none 0 0],.int .i64 4]/\T=[]/\ ∀(l:Bool) (s:Qa) (k:Fo),mixed l s k.len=false->pureF k=true->tl t≠wr1 l s (szF k) (wrF k))
def FnZ (P:Program)(f:Nat)(args:Qd)(ok:Value->Qb->Prop):Prop:=
 ∀(B:Nat) (w0 w:World) (L:Qb),St B w0 w L->Calls P f args w fun e w'=> ∃v T,e=.returned v/\ok v T/\St B w0 w' (T++L)
def znb (t:Qa)(B:Nat)(w0:World)(b2 b3:Nat)(L:Qb):Exit->Env->World->Prop
 | .ret,ρ,w=>ρ 2=.pointer (some ⟨b2,0,none⟩)/\ρ 3=.pointer (some ⟨b3,0,none⟩)/\∃(l:Bool) (s:Qa) (p:Qc) (n c:Nat) (k:Fo) (T:Qb),yd t l s k ⟨#[]⟩/\SlC T p n c k/\s.size<=t.size/\St B w0 w ((b2,.cells #[.bool l,.string s,.slice p n c] 58 (0,0))::(b3,.cells #[.int .i64 0] 31 (0,0))::(T++L))
 | .panic ch,ρ,w=>ρ 2=.pointer (some ⟨b2,0,none⟩)/\ρ 3=.pointer (some ⟨b3,0,none⟩)/\ch=chF/\(∀(l:Bool) (s:Qa) (k:Fo),mixed l s k.len=false->pureF k=true->tl t≠wr1 l s (szF k) (wrF k))/\∃x1 x2 x3 y,St B w0 w ((b2,.cells #[x1,x2,x3] 58 (0,0))::(b3,.cells #[y] 31 (0,0))::L)
 | _,_,_=>False
theorem zhi {t:Qa}(h:jA t)(l:Bool)(s:Qa)(k:Fo)(hm:mixed l s k.len=false)(hp:pureF k=true):tl t≠wr1 l s (szF k) (wrF k):=fun e=>h l s k [] hm hp (by rw[e,QI])
theorem znc {t u:Qa}{l l':Bool}{s s':Qa}{k k':Fo}(ht:t.size<=100000)(h:yd t l s k u)(hu: ¬u=⟨#[]⟩)(hm:mixed l' s' k'.len=false)(hp:pureF k'=true):tl t≠wr1 l' s' (szF k') (wrF k'):=fun e=>by
 obtain⟨r,hr,he⟩:=zgZ (k':=.cons l' s' k' .nil) ht h (by simp only[pureF,hm,hp];rfl) (by rw[e];simp only[wrF,QI]);obtain⟨hm1,hp1,hi⟩:=h;have hlen:=congrArg Qo hi;have hlen2:=congrArg Qo e;rw[zu,Qx,qV hm1 (yi hp1)]at hlen;rw[zu,qV hm (yi hp)]at hlen2;have hpay: ∀(l:Bool) (s:Qa) (k:Fo),sz1 l s (szF k)<=100000->mixed l s k.len=false->s.size+szF k<=100000:=fun l s k h hm=>by
  unfold sz1 at h;split at h
  ·rename_i q
   have h1:=jV q;have h2:=len_zero (jJ hm q);rw[h2];simp only[szF];omega
  ·omega
 have hx:=hpay l s k (by omega) hm1;have hy:=hpay l' s' k' (by omega) hm;have e2:wr1 l s (szF k) (wrF k)++tl u=wr1 l' s' (szF k') (wrF k')++ []:=by rw[QI,<-e,hi]
 obtain⟨_,_,_,hX⟩:=uy hm1 hm (yi hp1).symm (yi hp).symm (by omega) (by omega) (fun q=>vS k k' hp1 hp (by rw[yi hp1];omega) q) e2;exact hu (qj hX)
theorem znd (t:Qa)(ht:t.size<=100000)(ds:List Deferred){B:Nat}{w0 w:World}{L:Qb}(b2 b3:Nat)(ρ0:Env)(H0:St B w0 w ((b2,.cells #[.bool false,.string ⟨#[]⟩,.slice none 0 0] 58 (0,0))::(b3,.cells #[.int .i64 0] 31 (0,0))::L)):
 WPD ds Tryz.prog 14 (zy (zy (zz Tryz.f46))) (znb t B w0 b2 b3 L) (qg [(0,.string t),(2,Qe b2),(3,Qe b3)] ρ0) w:=by
 refine zaF [0,1,2,3] kr kr<|kJ _<|zn (some 6) (.string t)<|zn (some 7) (.agg #[.string t])<|zA H0 (some 4) 115 (.agg #[.string ⟨#[]⟩]) kr kr kr ?_;intro b4 w1 H1;refine rp [.s 0] H1 kr fun gs1 w2 H2=>wX []<|zb ?_;have H3:St B w0 w2 ((b4,dc t)::(b2,.cells #[.bool false,.string ⟨#[]⟩,.slice none 0 0] 58 (0,0))::(b3,.cells #[.int .i64 0] 31 (0,0))::L):=H2.as kr;show WPD _ _ _ _ _ _ _;refine zaF [0,1] kr kr<|vT H3 (U1 _) (some 8) 76 #[Qe b4] (zmZ b4 t ht) kr kr (fun w' hb HS=>?_) ?_
 ·exact⟨by kernel_rfl,by kernel_rfl,rfl,zhi hb,_,_,_,_,HS⟩
 rintro _ u T w3 ⟨l,s,p,n,c,k,rfl,hi,hs,hz⟩ H4;have H5:St B w0 w3 ((b4,dc u)::(b2,.cells #[.bool false,.string ⟨#[]⟩,.slice none 0 0] 58 (0,0))::(b3,.cells #[.int .i64 0] 31 (0,0))::(T++L)):=H4.perm (QM _ (Ro [(b2,_),(b3,_)] T L));refine kJ _<|rp [.s 1] H5 kr fun gs2 w4 H6=>wX []<|zb ?_;show WPD _ _ _ _ _ _ _;refine zhf kr ?_;by_cases hu:u=⟨#[]⟩
 ·refine zaF [0,1,2] kr kr<|kJ _<|rp [.v,.l 0,itE u (⟨#[]⟩) hu] H6 kr fun gs3 w5 H7=>wX []<|zb ?_;show WPD _ _ _ _ _ _ _;refine zm4 kr kr<|zm2 kr ?_;show WPD _ _ _ _ _ _ _;refine zaF [0,1,2] kr kr<|kJ _<|rp [.l 1,.s 1,.s 2] H7 kr fun gs4 w6 H8=>wX []<|zb ?_;show WPD _ _ _ _ _ _ _;refine zm5 kr ?_;have H9:St B w0 w6 ((b4,dc u)::(b2,.cells #[.bool l,.string s,.slice p n c] 58 (0,0))::(b3,.cells #[.int .i64 0] 31 (0,0))::(T++L)):=H8.as kr;subst hu;exact⟨by kernel_rfl,by kernel_rfl,l,s,p,n,c,k,T,hi,hs,hz,H9.sub (Qt ..)⟩
 ·refine zaF [0,1,2] kr kr<|kJ _<|rp [.v,.l 0,itO u (⟨#[]⟩) hu] H6 kr fun gs3 w5 H7=>wX []<|zb ?_;show WPD _ _ _ _ _ _ _;refine zm3 kr kr<|zhg [0,1] kr<|kI [0] (l2:=[1]) rfl<|rp [.v] H7 kr fun gs4 w6 H8=>wX []<|zb<|zbO none (.iface 31 (.int .i64 4)) kr ?_;have H9:St B w0 w6 ((b4,dc u)::(b2,.cells #[.bool l,.string s,.slice p n c] 58 (0,0))::(b3,.cells #[.int .i64 0] 31 (0,0))::(T++L)):=H8.as kr;exact⟨by kernel_rfl,by kernel_rfl,rfl,fun l' s' k' hm hp=>znc ht hi hu hm hp,_,_,_,_,H9.sub (Qs _ (Qq _ (Qq _ (QK _ _))))⟩
section
variable {P:Program}{N:Nat}{ops:Array Oper}{ρ:Env}{w w':World}{i:Nat}{rest:List Nat}{a:Act}{Q:Exit->Act->World->Prop}
theorem zne {d:Option Nat}{v:Value}(ha:Rep a ρ N)(h:opv P ops i ρ w=some (d,true,.ok (.value v) w'))(k:wpOps P ops Q rest (a.put d v) w'):wpOps P ops Q (i::rest) a w:=by
 obtain⟨o,ho,rfl,hw,hr⟩:=yc h;have h1:QP o (yielded ops a.tmps)=true:=by rw[xh ha];exact hw
 rw[<-ha.eval]at hr;rw[wpOps_cons];unfold wpOp;simp only[ho,h1,if_true];left;unfold Oper.wp;rw[hr];exact k
theorem znf {d:Option Nat}{dd:Deferred}(ha:Rep a ρ N)(h:opv P ops i ρ w=some (d,true,.ok (.defer dd) w'))(k:wpOps P ops Q rest ({ a with defers:=dd::a.defers }.put d undef) w'):wpOps P ops Q (i::rest) a w:=by
 obtain⟨o,ho,rfl,hw,hr⟩:=yc h;have h1:QP o (yielded ops a.tmps)=true:=by rw[xh ha];exact hw
 rw[<-ha.eval]at hr;rw[wpOps_cons];unfold wpOp;simp only[ho,h1,if_true];left;unfold Oper.wp;rw[hr];exact k
end
def ddv (b2 b3:Nat):Deferred:= { target:=.fn (.func 75) (qC b2 b3),args:=#[] }
theorem zng (t:Qa)(ht:t.size<=100000):FnZ Tryz.prog 46 #[.string t] (zna t):=fun B w0 w L HS=>by
 refine calls_of_wp_defers (f:=46) (fn:=Tryz.f46) (c:=zz Tryz.f46) Tryz.func46 kr ?_;have ha:=zdZ #[.string t] 13 14 rfl;show (zz Tryz.f46).wp _ _ { tmps:=#[.string t]++Ru 13 undef,defers:=[] } w;rw[show zz Tryz.f46=.seq (zH (zz Tryz.f46)) (zy (zz Tryz.f46)) by kernel_rfl];refine wp_seq ?_;have h0:WP Tryz.prog 14 (zH (zz Tryz.f46)) (fun e ρ w'=>match e with | .normal=> ∃b2 b3,ρ=zr (zr (ini #[.string t]) (some 2) (Qe b2)) (some 3) (Qe b3)/\St B w0 w' ((b3,.cells #[.int .i64 0] 31 (0,0))::(b2,.cells #[.bool false,.string ⟨#[]⟩,.slice none 0 0] 58 (0,0))::L) | _=>False) (ini #[.string t]) w:=by
  refine yu [0,1] kr<|zA HS (some 2) 58 (.agg #[.bool false,.string ⟨#[]⟩,.slice none 0 0]) kr kr kr ?_;intro b2 w1 H1;refine zA H1 (some 3) 31 (.int .i64 0) kr kr kr ?_;intro b3 w2 H2;refine zb ?_;exact⟨b2,b3,rfl,H2⟩
 refine Go.wp_mono (h0 _ ha) ?_;rintro e a1 w1 ⟨ρ1,hr1,hq⟩;cases e with
 | normal=>
  obtain⟨b2,b3,rfl,H1⟩:=hq;show (zy (zz Tryz.f46)).wp _ _ a1 w1;rw[show zy (zz Tryz.f46)=.seq (zH (zy (zz Tryz.f46))) (zy (zy (zz Tryz.f46))) by kernel_rfl];refine wp_seq ?_;rw[show zH (zy (zz Tryz.f46))=.region 1 (zp (zH (zy (zz Tryz.f46)))) false by kernel_rfl];refine wp_region ?_;rw[show QW (zp (zH (zy (zz Tryz.f46)))).size=[0,1] by kernel_rfl];refine zne (d:=some 5) (v:=.func (.func 75) #[] (qC b2 b3)) (w':=w1) hr1 kr ?_;have hr2:=hr1.put (some 5) (zZ (by rfl)) (.func (.func 75) #[] (qC b2 b3));refine znf (d:=none) (dd:=ddv b2 b3) (w':=w1) hr2 kr ?_;show (zy (zy (zz Tryz.f46))).wp _ _ { a1.put (some 5) (.func (.func 75) #[] (qC b2 b3)) with defers:=ddv b2 b3::(a1.put (some 5) (.func (.func 75) #[] (qC b2 b3))).defers } w1;have hds:(a1.put (some 5) (.func (.func 75) #[] (qC b2 b3))).defers=[]:=hr2.defers;rw[hds];have hD:uB [ddv b2 b3] { a1.put (some 5) (.func (.func 75) #[] (qC b2 b3)) with defers:=[ddv b2 b3] } (qg [(0,.string t),(2,Qe b2),(3,Qe b3)] (zr (zr (zr (ini #[.string t]) (some 2) (Qe b2)) (some 3) (Qe b3)) (some 5) (.func (.func 75) #[] (qC b2 b3)))) 14:=by
   refine⟨rfl,?_⟩;have hS:ul (zr (zr (zr (ini #[.string t]) (some 2) (Qe b2)) (some 3) (Qe b3)) (some 5) (.func (.func 75) #[] (qC b2 b3))) [(0,.string t),(2,Qe b2),(3,Qe b3)]:=⟨kr,kr,kr,trivial⟩
   rw[uZ hS];exact⟨rfl,hr2.size,hr2.at_⟩
  have H2:=H1.perm (Uz _ _ _);refine Go.wp_mono (znd t ht [ddv b2 b3] b2 b3 _ H2 _ hD) ?_;rintro e a2 w2 ⟨ρ2,hr3,hq⟩;cases e with
  | ret=>
   obtain⟨h2,h3,l,s,p,n,c,k,T,hi,hs,hz,H3⟩:=hq;show Leaves _ _ a2.tmps _ a2.defers _ _;rw[hr3.defers];refine leaves_cons (f:=75) (args:=qC b2 b3) (by simp) kr<|(zm8 b2 b3 w2).mono ?_;rintro e u' w' ⟨rfl,rfl,rfl⟩;have hR:Res Tryz.prog w' ρ2 [.cell 2 58,.cell 3 31] [.agg #[.bool l,.string s,.slice p n c],.int .i64 0]:=
    .agg (b:=b2) (#[.bool l,.string s,.slice p n c]) 58 (0,0) h2 (H3.get 0 rfl) kr (.one (b:=b3) (.int .i64 0) (#[.int .i64 0]) 31 (0,0) h3 (H3.get 1 rfl) kr rfl .nil)
   have hres:=Res.run (fn:=Tryz.f46) hr3.rep (show Res Tryz.prog w' ρ2 Tryz.f46.results.toList _ from hR);refine⟨_,hres,_,T,rfl,.inl ⟨l,s,p,n,c,k,rfl,hi,hs,hz⟩,H3.sub (Qs _ (Qt ..))⟩
  | panic ch=>
   obtain⟨h2,h3,rfl,hb,x1,x2,x3,y,H3⟩:=hq;show Leaves _ _ a2.tmps _ a2.defers _ _;rw[hr3.defers];refine leaves_cons (f:=75) (args:=qC b2 b3) (by simp) kr<|(zm9 b2 b3 x1 x2 x3 y H3).mono ?_;rintro e u' w' ⟨rfl,rfl,H4⟩;have hR:Res Tryz.prog w' ρ2 [.cell 2 58,.cell 3 31] [.agg #[.bool false,.string ⟨#[]⟩,.slice none 0 0],.int .i64 4]:=
    .agg (b:=b2) (#[.bool false,.string ⟨#[]⟩,.slice none 0 0]) 58 (0,0) h2 (H4.get 0 rfl) kr (.one (b:=b3) (.int .i64 4) (#[.int .i64 4]) 31 (0,0) h3 (H4.get 1 rfl) kr rfl .nil)
   have hres:=Res.run (fn:=Tryz.f46) hr3.rep (show Res Tryz.prog w' ρ2 Tryz.f46.results.toList _ from hR);refine⟨_,hres,_,[],rfl,.inr ⟨rfl,rfl,hb⟩,H4.sub (Qs _ (Qt ..))⟩
  | _=>exact(hq:False).elim
 | _=>exact(hq:False).elim
theorem zbW: ∀ {k:Fo},pureF k=true->k.cnt<=szF k
 | .nil,_=>QH _
 | .cons l s k r,h=>by
  simp only[pureF,Qu,Rf]at h;have h1:=zbW h.1.2;have h2:=zbW h.2;have h3:=zgl l s (szF k);simp only[Fo.cnt,szF];unfold sz1 at*;split
  ·rename_i q
   have h4:=len_zero (jJ h.1.1 q);rw[h4];simp only[Fo.cnt];omega
  ·have:=xN (frm l) (s.size+szF k);omega
theorem yd.sz {t u:Qa}{l:Bool}{s:Qa}{k:Fo}(h:yd t l s k u):szF k<=t.size/\k.cnt<=t.size:=by
 obtain⟨hm,hp,hi⟩:=h;have hlen:=congrArg Qo hi;rw[zu,Qx,qV hm (yi hp)]at hlen;have hc:=zbW hp;have:szF k<=sz1 l s (szF k):=by
  unfold sz1;split
  ·rename_i q
   have h4:=len_zero (jJ hm q);rw[h4];simp only[szF];omega
  ·omega
 omega
section
variable {P:Program}{N:Nat}{ops:Array Oper}{K:Env->World->Prop}{ρ:Env}{w w0:World}{i B:Nat}{r:List Nat}{l:Qb}
theorem vU (HS:St B w0 w l)(d:Option Nat)(f:Nat)(args:Qd){ok:Value->Qb->Prop}(hc:FnZ P f args ok)
 (h:opv P ops i ρ w=some (d,true,.ok (.enter f args) w)) (hd:dOK d N=true)
 (kk: ∀v T w',ok v T->St B w0 w' (T++l)->WPs P N ops K r (zr ρ d v) w'):WPs P N ops K (i::r) ρ w:=by
 obtain⟨o,ho,rfl,hw,hr⟩:=yc h;refine WPo.run ho hw fun a ha=>?_;rw[hr,Oper.upon_enter];refine(hc B w0 w l HS).mono ?_;rintro _ w' ⟨v,T,rfl,h1,h2⟩;exact⟨_,ha.put _ (zZ hd) v,kk v T w' h1 h2⟩
end
theorem FnZ.intro {P:Program}{f:Nat}{fn:Func}{c:Code}(rs:List ResultVar)(N:Nat){args:Qd}{ok:Value->Qb->Prop}(hf:P.funcs[f]? =some fn)(hb:fn.body=some c)(hr:fn.results.toList=rs)(hn:args.size+(fn.ntmps-args.size)=N)
 (h: ∀B w0 w L,St B w0 w L->WP P N c (yx P rs fun v w'=> ∃T,ok v T/\St B w0 w' (T++L)) (ini args) w):FnZ P f args ok:=fun B w0 w L HS=>
 (kt hf hb hr hn (h B w0 w L HS)).mono fun e w' ⟨v,he,T,h1,h2⟩=>⟨v,T,he,h1,h2⟩
theorem zhj {P:Program}{f:Nat}{fn:Func}(rs:List ResultVar)(N:Nat){args:Qd}{ok:Value->Qb->Prop}(hf:P.funcs[f]? =some fn)(h: ∀B w0 w L,St B w0 w L->WP P N (zz fn) (yx P rs fun v w'=> ∃T,ok v T/\St B w0 w' (T++L)) (ini args) w)(hb:fn.body=some (zz fn):=by kernel_rfl)(hr:fn.results.toList=rs:=by kernel_rfl)(hn:args.size+(fn.ntmps-args.size)=N:=by kernel_rfl):FnZ P f args ok:=FnZ.intro rs N hf hb hr hn h
def erV (n:Int):Value:=.tuple #[.agg #[.bool false,.string ⟨#[]⟩,.slice none 0 0],.int .i64 n]
def kK (t:Qa):Prop:= ∀(l:Bool) (s:Qa) (k:Fo),mixed l s k.len=false->pureF k=true->tl t≠wr1 l s (szF k) (wrF k)
def kL (t:Qa)(v:Value)(T:Qb):Prop:=
 (4000<t.size/\v=erV 2/\T=[])\/(t.size<=4000/\(
  (∃(l:Bool) (s:Qa) (p:Qc) (n c:Nat) (k:Fo),v=.tuple #[.agg #[.bool l,.string s,.slice p n c],.int .i64 0]/\yd t l s k ⟨#[]⟩/\SlC T p n c k/\s.size<=t.size/\dp1 l (dpF k)<=8)\/
  (∃(l:Bool) (s:Qa) (k:Fo),yd t l s k ⟨#[]⟩/\8<dp1 l (dpF k)/\v=erV 5/\T=[])\/
  (kK t/\v=erV 4/\T=[])))
theorem zhk (t:Qa)(ht:t.size<=0x800000000000):FnZ Tryz.prog 22 #[.string t] (kL t):=by
 refine FnZ.intro (c:=zz Tryz.f22) [.cell 2 58,.tmp 3] 21 Tryz.func22 kr kr kr fun B w0 w L H0=>zd [0,1] kr kr<|zA H0 (some 2) 58 (.agg #[.bool false,.string ⟨#[]⟩,.slice none 0 0]) kr kr kr ?_;intro b1 w1 H1;refine zn (some 3) (.int .i64 0)<|zb<|za kr ?_;by_cases h4:t.size<=4000
 ·refine rS [.v,.v,itF ((4000:Int)<(Ql t:Int))] H1 kr fun gs1 w2 H2=>zi kr kr<|zj kr<|wW<|zd [0,1,2,3,4,5,6,7] kr kr<|rp [.v] H2 kr fun gs2 w3 H3=>wX [1,2,3,4,5,6,7] ?_;have H4:St B w0 w3 ((b1,r0)::L):=H3.as kr;refine vU H4 (some 12) 46 #[.string t] (zng t (by omega)) kr kr ?_;rintro _ T w4 (⟨l,s,p,n,c,k,rfl,hi,hs,hz⟩ | ⟨rfl,rfl,hb⟩) H5
  ·have H6:St B w0 w4 ((b1,r0)::(T++L)):=H5.perm Rl.symm;have hsz:=hi.sz;refine rp [.v,.v,.v] H6 kr fun gs3 w5 H7=>wX [5,6,7]<|zA H7 (some 4) 58 (.agg #[.bool false,.string ⟨#[]⟩,.slice none 0 0]) kr kr kr ?_;intro b2 w6 H8;refine rp [.s 0,.v] H8 kr fun gs4 w7 H9=>wX []<|zb ?_;have H10:St B w0 w7 ((b2,.cells #[.bool l,.string s,.slice p n c] 58 (0,0))::(b1,r0)::(T++L)):=H9.as kr;refine wW<|za kr<|zd [0,1,2] kr kr<|rp [.l 0] H10 kr fun gs5 w8 H11=>wX [1,2] ?_;have H12:St B w0 w8 ((b2,.cells #[.bool l,.string s,.slice p n c] 58 (0,0))::(b1,r0)::(T++L)):=H11.as kr;have hS:=hs.1.at H12 (fun e he=>by simp[he]);refine yP H12 (some 16) 47 #[.agg #[.bool l,.string s,.slice p n c]] (fun w=>zq w.heap.size w p n k) (.int .i64 ((dp1 l (dpF k):Nat):Int)) (zdG l s p n c k (by omega) (by omega)) hS ?_;intro w9 H13;by_cases h8:dp1 l (dpF k)<=8
   ·refine rp [.E (.bool (decide (8<((dp1 l (dpF k):Nat):Int)))) (.bool false) (zc (decide_eq_false (by omega)))] H13 kr fun gs6 w10 H14=>wX []<|zb<|zi kr kr<|zj kr<|wW<|rS [.l 0,.v,.s 1,.v] H14 kr fun gs7 w11 H15=>?_;have H16:St B w0 w11 ((b2,.cells #[.bool l,.string s,.slice p n c] 58 (0,0))::(b1,.cells #[.bool l,.string s,.slice p n c] 58 (0,0))::(T++L)):=H15.as kr;refine zk kr<|wV ?_;exact⟨[.agg #[.bool l,.string s,.slice p n c],.int .i64 0],(.agg (b:=b1) (#[.bool l,.string s,.slice p n c]) 58 (0,0) kr (H16.get 1 kr) kr (.tmp (.int .i64 0) kr .nil)),T,.inr ⟨h4,.inl ⟨l,s,p,n,c,k,rfl,hi,hs,hz,h8⟩⟩,H16.sub (Qs _ (Qt ..))⟩
   ·refine rp [.E (.bool (decide (8<((dp1 l (dpF k):Nat):Int)))) (.bool true) (zc (decide_eq_true (by omega)))] H13 kr fun gs6 w10 H14=>wX []<|zb<|zh kr kr<|rS [.v,.s 1,.v] H14 kr fun gs7 w11 H15=>?_;have H16:St B w0 w11 ((b2,.cells #[.bool l,.string s,.slice p n c] 58 (0,0))::(b1,r0)::(T++L)):=H15.as kr;refine zk kr<|wV ?_;exact⟨[.agg #[.bool false,.string ⟨#[]⟩,.slice none 0 0],.int .i64 5],(.agg (b:=b1) (#[.bool false,.string ⟨#[]⟩,.slice none 0 0]) 58 (0,0) kr (H16.get 1 kr) kr (.tmp (.int .i64 5) kr .nil)),[],.inr ⟨h4,.inr (.inl ⟨l,s,k,hi,by omega,rfl,rfl⟩)⟩,H16.sub (Qs _ (Qs _ (QK _ _)))⟩
  ·have H6:St B w0 w4 ((b1,r0)::L):=H5.as kr;refine rp [.v,.v,.v] H6 kr fun gs3 w5 H7=>wX [5,6,7]<|zA H7 (some 4) 58 (.agg #[.bool false,.string ⟨#[]⟩,.slice none 0 0]) kr kr kr ?_;intro b2 w6 H8;refine rp [.s 0,.v] H8 kr fun gs4 w7 H9=>wX []<|zb ?_;have H10:St B w0 w7 ((b2,r0)::(b1,r0)::L):=H9.as kr;refine wW<|za kr<|zd [0,1,2] kr kr<|rp [.l 0] H10 kr fun gs5 w8 H11=>wX [1,2]<|yP H11 (some 16) 47 #[.agg #[.bool false,.string ⟨#[]⟩,.slice none 0 0]] (fun w=>zq w.heap.size w none 0 .nil) (.int .i64 ((dp1 false (dpF .nil):Nat):Int)) (zdG false ⟨#[]⟩ none 0 0 .nil (by decide) (by decide)) (zq.nil ..) ?_;intro w9 H13;refine rp [.E (.bool (decide (8<((dp1 false (dpF .nil):Nat):Int)))) (.bool false) (zc (by decide))] H13 kr fun gs6 w10 H14=>wX []<|zb<|zi kr kr<|zj kr<|wW<|rS [.l 0,.v,.s 1,.v] H14 kr fun gs7 w11 H15=>?_;have H16:St B w0 w11 ((b2,r0)::(b1,r0)::L):=H15.as kr;refine zk kr<|wV ?_;exact⟨[.agg #[.bool false,.string ⟨#[]⟩,.slice none 0 0],.int .i64 4],(.agg (b:=b1) (#[.bool false,.string ⟨#[]⟩,.slice none 0 0]) 58 (0,0) kr (H16.get 1 kr) kr (.tmp (.int .i64 4) kr .nil)),[],.inr ⟨h4,.inr (.inr ⟨hb,rfl,rfl⟩)⟩,H16.sub (Qs _ (Qt ..))⟩
 ·refine rS [.v,.v,itT ((4000:Int)<(Ql t:Int))] H1 kr fun gs1 w2 H2=>zh kr kr<|rS [.v,.s 0,.v] H2 kr fun gs2 w3 H3=>?_;have H4:St B w0 w3 ((b1,r0)::L):=H3.as kr;refine zk kr<|wV ?_;exact⟨[.agg #[.bool false,.string ⟨#[]⟩,.slice none 0 0],.int .i64 2],(.agg (b:=b1) (#[.bool false,.string ⟨#[]⟩,.slice none 0 0]) 58 (0,0) kr (H4.get 0 kr) kr (.tmp (.int .i64 2) kr .nil)),[],.inl ⟨by omega,rfl,rfl⟩,H4.sub (Qt ..)⟩
theorem xP {l:List Value}(h:l.all (·.oneCell')=true): ∀u∈l,u.oneCell'=true:=fun u hu=>QN.1 h u hu
abbrev Kf:=Fr Nat
def kS:Sh Nat where
 K:=2
 hd g:=[.int .u8 (g:Int)]
 ok _:=True
 mx:=1000
 len _:=rfl
 one _:=xP rfl
abbrev Fe:=Fr (Nat×Qa)
def fS:Sh (Nat×Qa) where
 K:=3
 hd x:=[.int .u64 ((x.1:Nat):Int),.string x.2]
 ok x:=x.1<0x10000000000000000/\x.2.size<=0x800000000000
 mx:=0x800000000000
 len _:=rfl
 one _:=xP rfl
def Fr.all {α:Type}(p:α->Prop):Fr α->Prop
 | .nil=>True
 | .cons a k r=>p a/\k.all p/\r.all p
theorem jh.ok {α:Type}{S:Sh α}{B:Nat}{w:World} : ∀ {k:Fr α} {b off:Nat},jh S B w k b off->k.all S.ok
 | .nil,_,_,_=>trivial
 | .cons a k r,b,off,⟨⟨C,T,fz,p,n,c,h1,h2,h3,h4,h5,h6,h7,h8⟩,h9⟩=>⟨h5,by
  rcases h8 with rfl|⟨b',o',e,h⟩
  ·trivial
  ·exact h.ok,h9.ok⟩
theorem SlR.ok {α:Type}{S:Sh α}{B:Nat}{w:World}{p:Qc}{n:Nat}{k:Fr α}(h:SlR S B w p n k):k.all S.ok:=by
 rcases h.2.2 with rfl|⟨b,o,e,h⟩
 ·trivial
 ·exact h.ok
def zB (g:Nat)(b:Kf)(i:Nat):Nat×Kf:=match b.at (if g=42 then 0 else i) with
 | some x=>x
 | none=>(0,.nil)
def yr (g:Nat):Nat×Nat:=if g=104 then (32,32) else if g=97 then (20,20) else if g=115 then (65,65) else if g=98 then (0,64) else (0,0)
def yz (g n:Nat):Nat×Nat:=if g=40 then (n,n) else if g=42 then (0,40) else (0,0)
def qe (x:Nat×Nat)(n:Nat):Bool:=decide (x.1<=n)&&decide (n<=x.2)
def zw (g bl n sz ln:Nat):Bool:=(decide (n=0)||decide (g=110))&&(qe (yr g) sz&&qe (yz g bl) ln)
def w64 (x:Int):Int:=Qz.wrap x
def qD:Fe->Nat->Kf->Nat->Int->Int
 | .nil,_,_,_,room=>room
 | .cons x l r,g,b,i,room=>
  if (if zw (zB g b i).1 (zB g b i).2.len x.1 x.2.size l.len=true then qD l (zB g b i).1 (zB g b i).2 0 (w64 (room-1)) else-1)<0
  then (if zw (zB g b i).1 (zB g b i).2.len x.1 x.2.size l.len=true then qD l (zB g b i).1 (zB g b i).2 0 (w64 (room-1)) else-1)
  else qD r g b (i+1) (if zw (zB g b i).1 (zB g b i).2.len x.1 x.2.size l.len=true then qD l (zB g b i).1 (zB g b i).2 0 (w64 (room-1)) else-1)
def yn (g:Nat)(b:Kf)(x:Nat×Qa)(l:Fe)(room:Int):Int:=
 if zw g b.len x.1 x.2.size l.len=true then qD l g b 0 (w64 (room-1)) else-1
theorem zaG (x:Nat×Qa)(l r:Fe)(g:Nat)(b:Kf)(i:Nat)(room:Int):qD (.cons x l r) g b i room=
 if yn (zB g b i).1 (zB g b i).2 x l room<0 then yn (zB g b i).1 (zB g b i).2 x l room else qD r g b (i+1) (yn (zB g b i).1 (zB g b i).2 x l room):=rfl
def yb (g:Nat):Bool:=decide (g=40)||decide (g=42)
def zX (g:Nat)(x:Nat×Qa):Qa:=if g=110 then zg (dg x.1) else if yb g=true then ⟨#[]⟩ else x.2
def yF:Fe->Nat->Kf->Nat->Fo
 | .nil,_,_,_=>.nil
 | .cons x l r,g,b,i=>.cons (yb (zB g b i).1) (zX (zB g b i).1 x) (if yb (zB g b i).1=true then yF l (zB g b i).1 (zB g b i).2 0 else .nil) (yF r g b (i+1))
def zI (g:Nat)(b:Kf)(l:Fe):Fo:=if yb g=true then yF l g b 0 else .nil
theorem zaH (x:Nat×Qa)(l r:Fe)(g:Nat)(b:Kf)(i:Nat):yF (.cons x l r) g b i=.cons (yb (zB g b i).1) (zX (zB g b i).1 x) (zI (zB g b i).1 (zB g b i).2 l) (yF r g b (i+1)):=rfl
def yg (g:Nat)(l:Bool)(s:Qa)(n:Nat):Nat:=if g=110 then (jj l s n).1 else 0
def ye (g:Nat)(s:Qa):Qa:=if g=110\/yb g=true then ⟨#[]⟩ else s
def yN:Fo->Nat->Kf->Nat->Fe
 | .nil,_,_,_=>.nil
 | .cons l s k r,g,b,i=>.cons (yg (zB g b i).1 l s k.len,ye (zB g b i).1 s) (if yb (zB g b i).1=true then yN k (zB g b i).1 (zB g b i).2 0 else .nil) (yN r g b (i+1))
def ys (g:Nat)(b:Kf)(k:Fo):Fe:=if yb g=true then yN k g b 0 else .nil
theorem zbX (l:Bool)(s:Qa)(k r:Fo)(g:Nat)(b:Kf)(i:Nat):yN (.cons l s k r) g b i=.cons (yg (zB g b i).1 l s k.len,ye (zB g b i).1 s) (ys (zB g b i).1 (zB g b i).2 k) (yN r g b (i+1)):=rfl
theorem Fr.len_zero {α:Type}{k:Fr α}(h:k.len=0):k=.nil:=by
 cases k with
 | nil=>rfl
 | cons a k r=>simp only[Fr.len]at h;omega
theorem jN {s:Qa}(h:s.size=0):s=⟨#[]⟩:=by
 obtain⟨d⟩:=s;have:d=#[]:=Array.eq_empty_of_size_eq_zero h;rw[this]
theorem zbY {g bl n sz ln:Nat}(h:zw g bl n sz ln=true):(n=0\/g=110)/\((yr g).1<=sz/\sz<=(yr g).2)/\(yz g bl).1<=ln/\ln<=(yz g bl).2:=by
 unfold zw qe at h;simp only[Qu,RU,decide_eq_true_eq]at h;exact h
theorem zhl (g:Nat)(b:Kf)(x:Nat×Qa)(l:Fe)(hx:x.1<0x10000000000000000)(hf:zw g b.len x.1 x.2.size l.len=true)
 (hr:yb g=true->yN (yF l g b 0) g b 0=l):yg g (yb g) (zX g x) (zI g b l).len=x.1/\ye g (zX g x)=x.2/\ys g b (zI g b l)=l:=by
 obtain⟨h1,h2,h3⟩:=zbY hf;obtain⟨n,s⟩:=x;unfold yg ye zX ys zI yb at*;by_cases e1:g=110
 ·subst e1;have hs:s.size=0:=by have:=h2.2;simp only[yr]at this;simp at this;rw[this];rfl
  have hl:l.len=0:=by have:=h3.2;simp only[yz]at this;simp at this;exact this
  obtain rfl:=Fr.len_zero hl;obtain rfl:=jN hs;refine⟨?_,rfl,rfl⟩;show (jj false (zg (dg n)) 0).1=n;rw[zmu hx]
 ·have hn:n=0:=by rcases h1 with h | h;exact h;exact absurd h e1
  subst hn;by_cases e2:(decide (g=40)||decide (g=42))=true
  ·have hs:s.size=0:=by
    have:=h2.2;simp only[RU,decide_eq_true_eq]at e2;rcases e2 with rfl | rfl<;>(simp only[yr]at this;simp at this;rw[this];rfl)
   obtain rfl:=jN hs;simp only[e1,e2,if_false,if_true,or_true];exact⟨trivial,trivial,hr e2⟩
  ·have hl:l.len=0:=by
    have:=h3.2;simp only[RU,decide_eq_true_eq,not_or]at e2;simp only[yz,e2.1,e2.2,if_false]at this;omega
   obtain rfl:=Fr.len_zero hl;have e3:=UY _▸e2;refine⟨?_,?_,?_⟩<;>simp[e1,e3]
theorem zd0: ∀(l:Fe) (g:Nat) (b:Kf) (i:Nat) (room:Int),l.all fS.ok->0<=qD l g b i room->yN (yF l g b i) g b i=l
 | .nil,_,_,_,_,_,_=>rfl
 | .cons x l r,g,b,i,room,ho,h=>by
  rw[zaG]at h;by_cases hv:yn (zB g b i).1 (zB g b i).2 x l room<0
  ·rw[if_pos hv]at h;omega
  ·rw[if_neg hv]at h;have hv':=hv;unfold yn at hv;by_cases hf:zw (zB g b i).1 (zB g b i).2.len x.1 x.2.size l.len=true
   ·rw[if_pos hf]at hv;obtain⟨q1,q2,q3⟩:=zhl _ _ x l ho.1.1 hf fun _=>zd0 l _ _ 0 _ ho.2.1 (Int.not_lt.1 hv);rw[zaH,zbX,q1,q2,q3,zd0 r g b (i+1) _ ho.2.2 h]
   ·rw[if_neg hf]at hv;omega
def yL (g:Nat)(b:Kf)(x:Nat×Qa)(l:Fe):Qa×Nat:=
 if yn g b x l 1001<0 then (⟨#[]⟩,1) else zC (yb g) (zX g x) (zI g b l).len (zI g b l)
theorem zaI {g:Nat}{b:Kf}{x:Nat×Qa}{l:Fe}(hx:x.1<0x10000000000000000)(ho:l.all fS.ok)(h: ¬yn g b x l 1001<0):
 yg g (yb g) (zX g x) (zI g b l).len=x.1/\ye g (zX g x)=x.2/\ys g b (zI g b l)=l:=by
 unfold yn at h;by_cases hf:zw g b.len x.1 x.2.size l.len=true
 ·rw[if_pos hf]at h;exact zhl g b x l hx hf fun _=>zd0 l g b 0 _ ho (Int.not_lt.1 h)
 ·rw[if_neg hf]at h;omega
def Fr.snoc {α:Type} :Fr α->α->Fr α->Fr α
 | .nil,a,k=>.cons a k .nil
 | .cons a' k' r,a,k=>.cons a' k' (r.snoc a k)
theorem zhm {α:Type}(x:El α): ∀L:List (El α),yE (L++ [x])=(yE L).snoc x.a x.k
 | []=>rfl
 | y::r=>by simp only[Rm,yE,Fr.snoc,zhm x r]
def kM:Nat->Kf->List (Nat×Kf)->List (Nat×Kf)
 | _,_,[]=>[]
 | g,k,(h,m)::r=>if h=42 then kM h (m.snoc g k) r else (h,m.snoc g k)::r
def jX (c:Nat)(st:List (Nat×Kf)):Option (List (Nat×Kf)):=
 if c=110\/c=104\/c=97\/c=115\/c=98 then some (kM c .nil st)
 else if c=40\/c=42 then if st.length=5 then none else some ((c,.nil)::st)
 else if c=41 then match st with
  | []=>none
  | (h,m)::r=>if r.length=0\/h≠40 then none else some (kM h m r)
 else none
def vq:List UInt8->List (Nat×Kf)->Option (List (Nat×Kf))
 | [],st=>some st
 | c::r,st=>match jX c.toNat st with
  | none=>none
  | some st'=>vq r st'
def parseM (form:Qa):Option Kf:=
 if 40<form.size then none else match vq (tl form) [(40,.nil)] with
  | some [(_,m)]=>some m
  | _=>none
def yD (c:Nat):Bool:=c==110||(c==104||(c==97||(c==115||c==98)))
theorem xy {c:Nat} :yD c=true↔c=110\/c=104\/c=97\/c=115\/c=98:=by unfold yD;simp
def kdOk (s:Qa):Bool:=(s.size==1&&yD (by_ s 0))||(s.size==2&&(by_ s 0==42&&yD (by_ s 1)))
theorem zbZ {s:Qa} :kdOk s=true↔(s.size=1/\yD (by_ s 0)=true)\/(s.size=2/\by_ s 0=42/\yD (by_ s 1)=true):=by
 unfold kdOk;simp
def kdB (s:Qa):Kf:=if by_ s 0=42 then .cons (by_ s 1) .nil .nil else .nil
def kfL:Qi->Kf
 | []=>.nil
 | s::r=>.cons (by_ s 0) (kdB s) (kfL r)
theorem zhn: ∀ks:Qi,(kfL ks).len=ks.length
 | []=>rfl
 | s::r=>by simp only[kfL,Fr.len,zhn r,Rh]
theorem zho: ∀(ks:Qi) (i:Nat),(kfL ks).at i=(ks[i]?).map fun s=>(by_ s 0,kdB s)
 | [],i=>by cases i<;>rfl
 | s::r,0=>rfl
 | s::r,i+1=>by simp only[kfL,Fr.at,zho r i,List.getElem?_cons_succ]
theorem zd1 (ks:Qi)(i:Nat):zB 40 (kfL ks) i=match ks[i]? with
 | some s=>(by_ s 0,kdB s)
 | none=>(0,.nil):=by
 unfold zB;rw[if_neg (by decide),zho];cases ks[i]?<;>rfl
theorem zaJ (c i:Nat):zB 42 (.cons c .nil .nil) i=(c,.nil):=by
 unfold zB;rw[if_pos rfl];rfl
def Fr.cnt {α:Type} :Fr α->Nat
 | .nil=>0
 | .cons _ k r=>1+k.cnt+r.cnt
def qu (c:Nat):Fe->Bool
 | .nil=>true
 | .cons x l r=>zw c 0 x.1 x.2.size l.len&&qu c r
def qv (s:Qa)(x:Nat×Qa)(l:Fe):Bool:=zw (by_ s 0) (kdB s).len x.1 x.2.size l.len&&(!(by_ s 0==42)||qu (by_ s 1) l)
def yo:Qi->Fe->Bool
 | [],.nil=>true
 | s::ks,.cons x l r=>qv s x l&&yo ks r
 | [],.cons _ _ _=>false
 | _::_,.nil=>false
theorem zaK: ∀ {ks:Qi} {l:Fe},yo ks l=true->l.len=ks.length
 | [],.nil,_=>rfl
 | s::ks,.cons x l r,h=>by
  simp only[yo,Qu]at h;simp only[Fr.len,Rh,zaK h.2]
 | [],.cons _ _ _,h=>nomatch h
 | _::_,.nil,h=>nomatch h
theorem zhp {c:Nat}(hc:yD c=true){n sz ln:Nat}(h:zw c 0 n sz ln=true):ln=0:=by
 have h3:=(zbY h).2.2.2;have:(yz c 0).2=0:=by
  rw[xy]at hc;unfold yz;rw[if_neg (by omega),if_neg (by omega)]
 omega
theorem zhq {r:Nat}(h:r<=2000):w64 ((r:Int)-1)=(r:Int)-1:=by
 unfold w64;exact wrap_i64 (by omega) (by omega)
def LeR (v:Int)(P:Prop)(n room:Nat):Prop:=(P/\n<=room->v=((room-n:Nat):Int))/\(¬(P/\n<=room)->v<0)
theorem LeR.pos {v:Int}{P:Prop}{n room:Nat}(h:LeR v P n room): ¬v<0↔P/\n<=room:=by
 constructor
 ·intro h1;by_cases h2:P/\n<=room
  ·exact h2
  ·exact absurd (h.2 h2) h1
 ·intro h1 h2;rw[h.1 h1]at h2;omega
theorem LeR.two {x:Nat×Qa}{l r:Fe}{g:Nat}{b:Kf}{i:Nat}{room:Nat}{P Q:Prop}(h1:LeR (yn (zB g b i).1 (zB g b i).2 x l room) P (1+l.cnt) room)
 (h2:P-> ∀q:Nat,q<=room->LeR (qD r g b (i+1) q) Q r.cnt q):LeR (qD (.cons x l r) g b i room) (P/\Q) (Fr.cnt (.cons x l r)) room:=by
 rw[zaG];have ec:Fr.cnt (Fr.cons x l r)=1+l.cnt+r.cnt:=rfl;rw[ec];by_cases hv:yn (zB g b i).1 (zB g b i).2 x l room<0
 ·rw[if_pos hv];refine⟨fun h=>?_,fun _=>hv⟩;exact absurd hv (h1.pos.2 ⟨h.1.1,by omega⟩)
 ·rw[if_neg hv];obtain⟨hP,hn⟩:=h1.pos.1 hv;rw[h1.1 ⟨hP,hn⟩];have h3:=h2 hP (room-(1+l.cnt)) (by omega);refine⟨fun h=>?_,fun h=>?_⟩
  ·rw[h3.1 ⟨h.1.2,by omega⟩];congr 1;omega
  ·exact h3.2 fun h9=>h ⟨⟨hP,h9.1⟩,by omega⟩
theorem zhr {c:Nat}(hc:yD c=true)(x:Nat×Qa)(l:Fe)(room:Nat)(hr:room<=2000):LeR (yn c .nil x l room) (zw c 0 x.1 x.2.size l.len=true) (1+l.cnt) room:=by
 unfold yn;by_cases hf:zw c 0 x.1 x.2.size l.len=true
 ·rw[if_pos (show zw c (Fr.len .nil) x.1 x.2.size l.len=true from hf),zhq hr];obtain rfl:=Fr.len_zero (zhp hc hf);show LeR ((room:Int)-1) _ (1+0) room;exact⟨fun h=>by omega,fun h=>by have: ¬1+0<=room:=fun h9=>h ⟨hf,h9⟩;omega⟩
 ·rw[if_neg (show ¬zw c (Fr.len .nil) x.1 x.2.size l.len=true from hf)];exact⟨fun h=>absurd h.1 hf,fun _=>by decide⟩
theorem zhs {c:Nat}(hc:yD c=true): ∀(l:Fe) (i room:Nat),room<=2000->LeR (qD l 42 (.cons c .nil .nil) i room) (qu c l=true) l.cnt room
 | .nil,i,room,_=>⟨fun _=>rfl,fun h=>absurd ⟨rfl,QU _⟩ h⟩
 | .cons x l r,i,room,hr=>by
  have h1:=zhr hc x l room hr;have h2:LeR (yn (zB 42 (.cons c .nil .nil) i).1 (zB 42 (.cons c .nil .nil) i).2 x l room) (zw c 0 x.1 x.2.size l.len=true) (1+l.cnt) room:=by rw[zaJ];exact h1
  have h3:=LeR.two (r:=r) (Q:=qu c r=true) h2 fun _ q hq=>zhs hc r (i+1) q (by omega);have e:(qu c (.cons x l r)=true)=(zw c 0 x.1 x.2.size l.len=true/\qu c r=true):=by simp only[qu,Qu]
  rw[e];exact h3
theorem znh {s:Qa}(hs:kdOk s=true)(x:Nat×Qa)(l:Fe)(room:Nat)(hr:room<=2000):LeR (yn (by_ s 0) (kdB s) x l room) (qv s x l=true) (1+l.cnt) room:=by
 rcases zbZ.1 hs with⟨h1,h2⟩|⟨h1,h2,h3⟩
 ·have hn: ¬by_ s 0=42:=by rw[xy]at h2;omega
  have eb:kdB s=.nil:=by unfold kdB;rw[if_neg hn]
  have e:(qv s x l=true)=(zw (by_ s 0) 0 x.1 x.2.size l.len=true):=by
   unfold qv;rw[eb,beq_eq_false_iff_ne.2 hn];simp[Fr.len]
  rw[e,eb];exact zhr h2 x l room hr
 ·have eb:kdB s=.cons (by_ s 1) .nil .nil:=by unfold kdB;rw[if_pos h2]
  have e:(qv s x l=true)=(zw 42 1 x.1 x.2.size l.len=true/\qu (by_ s 1) l=true):=by
   unfold qv;rw[eb,h2];simp[Fr.len]
  rw[e,eb,h2];unfold yn;by_cases hf:zw 42 1 x.1 x.2.size l.len=true
  ·rw[if_pos (show zw 42 (Fr.len (.cons (by_ s 1) .nil .nil)) x.1 x.2.size l.len=true from hf),zhq hr];by_cases h0:room=0
   ·subst h0;refine⟨fun h=>by omega,fun _=>?_⟩;cases l with
    | nil=>exact(by decide:w64 (-1)<0)
    | cons y k r=>
     have hk:yn (by_ s 1) .nil y k (-1)<0:=by
      unfold yn;by_cases hf2:zw (by_ s 1) 0 y.1 y.2.size k.len=true
      ·rw[if_pos (show zw (by_ s 1) (Fr.len .nil) y.1 y.2.size k.len=true from hf2)];obtain rfl:=Fr.len_zero (zhp h3 hf2);exact(by decide:w64 (-1-1)<0)
      ·rw[if_neg (show ¬zw (by_ s 1) (Fr.len .nil) y.1 y.2.size k.len=true from hf2)];decide
     show qD _ _ _ _ (-1)<0;rw[zaG,zaJ,if_pos hk];exact hk
   ·have h4:=zhs h3 l 0 (room-1) (by omega);rw[show (room:Int)-1=((room-1:Nat):Int) by omega];refine⟨fun h=>?_,fun h=>h4.2 fun h9=>h ⟨⟨hf,h9.1⟩,by omega⟩⟩;rw[h4.1 ⟨h.1.2,by omega⟩];congr 1;omega
  ·rw[if_neg (show ¬zw 42 (Fr.len (.cons (by_ s 1) .nil .nil)) x.1 x.2.size l.len=true from hf)];exact⟨fun h=>absurd h.1.1 hf,fun _=>by decide⟩
theorem zht {ks0:Qi}(h0: ∀s∈ks0,kdOk s=true): ∀(ks:Qi) (l:Fe) (i room:Nat),ks0.drop i=ks->l.len=ks.length->room<=2000->LeR (qD l 40 (kfL ks0) i room) (yo ks l=true) l.cnt room
 | [],.nil,i,room,_,_,_=>⟨fun _=>rfl,fun h=>absurd ⟨rfl,QU _⟩ h⟩
 | [],.cons _ _ _,_,_,_,h,_=>by simp[Fr.len]at h
 | _::_,.nil,_,_,_,h,_=>by simp[Fr.len]at h
 | s::ks,.cons x l r,i,room,hd,hl,hr=>by
  have hi:ks0[i]? =some s:=by
   have:=congrArg (fun L=>L[0]?) hd
   simpa using this
  have h1:LeR (yn (zB 40 (kfL ks0) i).1 (zB 40 (kfL ks0) i).2 x l room) (qv s x l=true) (1+l.cnt) room:=by
   rw[zd1,hi];exact znh (h0 s (QF hi)) x l room hr
  have h3:=LeR.two (r:=r) (Q:=yo ks r=true) h1 fun _ q hq=>zht h0 ks r (i+1) q (by rw[<-List.drop_drop,hd];rfl) (by simp only[Fr.len,Rh]at hl;omega) (by omega);have e:(yo (s::ks) (.cons x l r)=true)=(qv s x l=true/\yo ks r=true):=by simp only[yo,Qu]
  rw[e];exact h3
theorem uC {ks:Qi}(h0: ∀s∈ks,kdOk s=true)(l:Fe): ¬yn 40 (kfL ks) (0,⟨#[]⟩) l 1001<0↔yo ks l=true/\l.cnt<=1000:=by
 unfold yn;have ef:zw 40 (kfL ks).len 0 (Ql ⟨#[]⟩) l.len=decide (l.len=ks.length):=by
  rw[zhn];unfold zw qe yr yz;simp only[decide_eq_decide];rw[Bool.eq_iff_iff];simp only[Qu,RU,decide_eq_true_eq];simp;constructor
  ·rintro⟨_,h⟩;omega
  ·intro h;exact⟨rfl,by omega⟩
 by_cases hl:l.len=ks.length
 ·rw[if_pos (show zw 40 (kfL ks).len (0,(⟨#[]⟩:Qa)).1 (Ql (0,(⟨#[]⟩:Qa)).2) l.len=true by exact ef.trans (decide_eq_true hl))];rw[show w64 (1001-1)=((1000:Nat):Int) by decide];exact(zht h0 ks l 0 1000 rfl hl (by decide)).pos
 ·rw[if_neg (show ¬zw 40 (kfL ks).len (0,(⟨#[]⟩:Qa)).1 (Ql (0,(⟨#[]⟩:Qa)).2) l.len=true by
   intro h;exact hl (of_decide_eq_true (ef.symm.trans h)))]
  exact⟨fun h=>absurd (by decide) h,fun h=>absurd (zaK h.1) hl⟩
def nxK (form:Qa)(i:Nat):Nat:=if by_ form i=42 then i+2 else i+1
def ksM (form:Qa):Nat->Nat->Qi
 | 0,_=>[]
 | f+1,i=>if i<form.size then form.extract i (nxK form i)::ksM form f (nxK form i) else []
def okK (form:Qa):Nat->Nat->Bool
 | 0,i=>decide (form.size<=i)
 | f+1,i=>decide (form.size<=i)||((yD (by_ form i)||(by_ form i==42&&(decide (i+1<form.size)&&yD (by_ form (i+1)))))&&okK form f (nxK form i))
structure kN (form:Qa)(ks:Qi):Prop where
 size:form.size<=40
 ok:okK form 41 0=true
 cut:ksM form 41 0=ks
 parse:parseM form=some (kfL ks)
 kd: ∀s∈ks,kdOk s=true
theorem zb0 (form:Qa): ∀f i:Nat,(ksM form f i).length<=f
 | 0,_=>QH _
 | f+1,i=>by
  unfold ksM;split
  ·rw[Rh];have:=zb0 form f (nxK form i);omega
  ·exact QU _
theorem kN.few {form:Qa}{ks:Qi}(h:kN form ks):ks.length<=1000:=by
 rw[<-h.cut];exact RZ (zb0 form 41 0) (by decide)
theorem zni {form:Qa}{f i:Nat}(h:okK form (f+1) i=true)(hi:i<form.size):(yD (by_ form i)=true\/(by_ form i=42/\i+1<form.size/\yD (by_ form (i+1))=true))/\okK form f (nxK form i)=true:=by
 unfold okK at h;rw[RU,decide_eq_true_iff,Qu,RU,Qu,Qu,decide_eq_true_iff,beq_iff_eq]at h;rcases h with h | h
 ·omega
 ·exact h
theorem znj {form:Qa}{f i:Nat}(h:okK form f i=true)(hf:form.size<i+f+1)(hi: ¬i<form.size):ksM form f i=[]:=by
 cases f with
 | zero=>rfl
 | succ f=>unfold ksM;rw[if_neg hi]
theorem znk {form:Qa}{f i:Nat}(h:okK form f i=true)(hi:i<form.size):∃g,f=g+1:=by
 cases f with
 | zero=>unfold okK at h;rw[decide_eq_true_iff]at h;omega
 | succ g=>exact⟨g,rfl⟩
section
open D2 (Gh)
def iS:Fl X3 where
 K:=3
 cs:=X3.cs
 pos:=by decide
 len _:=rfl
 one a:=fun u hu=>QN.1 (show (X3.cs a).all (·.oneCell')=true from rfl) u hu
theorem zb1: ∀L:List X3,cellsF iS L=cells3 L
 | []=>rfl
 | x::r=>by
  show X3.cs x++cellsF iS r=_;rw[zb1 r];rfl
abbrev emB:Qa:=⟨#[]⟩
abbrev b3 (s:Qa):X3:=⟨false,s,none,0,0,.nil⟩
abbrev itV (x:X3):Value:=.agg #[.bool x.l,.string x.s,.slice x.p x.n x.c]
abbrev iTO (x:X3):Obj:=.cells #[.bool x.l,.string x.s,.slice x.p x.n x.c] 58 (0,0)
abbrev kP (L:List X3):Obj:=.cells (cellsF iS L).toArray 58
theorem zd2 (T:Qb)(s:Qa):SlIn T (b3 s).p (b3 s).n (b3 s).k:=⟨rfl,QU _,.inl rfl⟩
theorem zd3 {α:Type}{S:Fl α}{P:Program}{ρ:Env}{w w0:World}{B:Nat}{bx n c m mc e:Nat}{p:Qc}{row Z:Qb}{M0 M:List α}(HS:St B w0 w ((bx,.cells (cellsF S M).toArray e)::(row++Z)))(hrow:yl S e p n c row M0)
 {t bytes:Nat} {s x:Operand} {o:Oper} (ht:yp P t=some (e,S.K,bytes)) (ho:o.op=ym t s x) (hs:ev ρ s=.slice p n c) (hx:ev ρ x=Qf bx m mc) (hM:m=M.length) (h0:0<m) (hb:(n+m)*bytes<=0x800000000000) (hm:n+m<=maxLen):
 ∃b' cap' cur' w',(execOp (ev ρ) o).run P w=.ok (.value (Qf b' (n+m) cap')) w'/\St B w0 w' ((b',.cells cur' e)::Z)/\Rw S.K cur' cap' (n+m) (cellsF S (M0++M)):=by
 have hx0:=HS.get 0 rfl;have hrw:Rw S.K (cellsF S M).toArray M.length M.length (cellsF S M):=⟨xv M,QH _,by omega,by rw[V5,Qy (by rw[xv];exact QH _)],by rw[Ux,xv]⟩
 rw[zaq];rcases hrow with⟨rfl,rfl,rfl,rfl,rfl⟩ | ⟨b,cur,rfl,rfl,hr⟩
 ·obtain⟨it,z,hu,hi,hz,hsz,hby,hzs,hz0⟩:=qi ht;have hnews: ∀q u,(cellsF S M)[q]? =some u->w.cell? ((⟨bx,0,none⟩:Addr).add q)=some u:=fun q u hq=>by
   rw[qh,Q9];simp[World.cell?,hx0,hq]
  obtain⟨v',w',hrun,hown,hgr,hnil,hblk⟩:=run_append_own_at (P:=P) w B t o.type e it z S.K bytes hu hi hz hsz hby hzs hz0 (.slice none 0 0) 0 [] (World.ownsRow_nil w B e S.K) ⟨bx,0,none⟩ m mc (cellsF S M) (by rw[xv,hM]) hnews (zdh M) hm hb HS.le;have hown':=hown;rcases hown'.2 with⟨hv,_⟩|⟨g,cap',cur',rfl,hbg,hg,hnc,hcm,hcs,htk⟩
  ·exact absurd (hnil.1 hv).2 (by omega)
  ·have hgb:g=w.heap.size:=by
    rcases hblk with hq|hq
    ·simp[Vs]at hq
    ·injection hq
   have hbel:Below w.heap.size w w':=(Below.refl _ w).grown hgr (QH _) (fun k hk=>by simp[Vs]at hk);have HS':=HS.add hbel (by omega) hg;refine⟨g,cap',cur',w',?_,HS'.sub (Qq _ (Qt ..)),⟨?_,hnc,hcm,htk,hcs⟩⟩
   ·unfold execOp;simp only[ho,ym,resolve,invoke,builtin,Q7,Up,QJ,RI,Q8,Ug,hs,hx,hrun]
   ·rw[Q9,Qx,xv,xv,hM];simp
 ·obtain⟨b',cap',cur',w',hrun,HS',hr'⟩:=zfU (S:=S) (M:=M) (j:=1) HS ht ho hs rfl hr hx hM (.inr ⟨bx,0,_,_,_,rfl,hx0,hrw.rowAt⟩) hb hm;exact⟨b',cap',cur',w',hrun,HS'.sub (Qt ..),hr'⟩
abbrev xlO (q:Qc)(n c:Nat):Obj:=.cells #[.bool true,.string emB,.slice q n c] 58 (0,0)
theorem zhu {w w':World}{b:Nat}{C:Qd}{T:TypeId}{fz:Nat×Nat}(hh:w.heap[b]? =some (.cells C T fz))(hb:Below w.heap.size w w'):w'.heap[b]? =some (.cells C T fz):=by rw[hb.block b (zo hh)];exact hh
theorem zd4 {P:Program}{ops:Array Oper}{k:Nat}{ρ:Env}{w:World}{S:Value->World->Prop}{t:TypeId}{x y:Operand}{b:Nat}{q:Qc}{n c:Nat}{q':Qc}{n' c':Nat}{T:TypeId}(h:opk ops k ρ=some (none,true,.store t x y))(hx:ev ρ x=.pointer (some ⟨b,2,none⟩))(hy:ev ρ y=.slice q' n' c')(hi:(P.info? t).map (·.size)=some 1)
 (hh:w.heap[b]? =some (.cells #[.bool true,.string emB,.slice q n c] T (0,0))) (hS:S undef (w.setRow b #[.bool true,.string emB,.slice q' n' c'])):∃o,ops[k]? =some o/\o.dst=none/\QP o (zS ops ρ)=true/\Runs P S ((execOp (ev ρ) o).run P w):=
 D2.run_sto (v:=.slice q' n' c') (C':=#[.bool true,.string emB,.slice q' n' c']) h hx hy hi kr hh (Qp kr) kr hS
theorem znl {α:Type}(a b c d:List α):(a++(b++(c++d))).Perm (d++(a++(b++c))):=by
 rw[<-QD b c d,<-QD a (b++c) d];exact QV
theorem zb2 {α:Type}(a b z:List α):(a++(b++z)).Perm (b++(a++z)):=by
 rw[<-QD,<-QD];exact QV.append_right z
theorem zd5 {α:Type}(x:α)(tb bs z:List α):(x::(tb++(bs++z))).Perm (bs++x::(tb++z)):=(QM x (zb2 tb bs z)).trans Rl.symm
theorem zhv {T T':Qb}{M:List X3}(h:AllIn T M)(hs: ∀e∈T,e∈T'):AllIn T' M:=fun x hx=>⟨(h x hx).1.mono hs,(h x hx).2⟩
theorem zhw {T:Qb}{M:List X3}{x:X3}(h:AllIn T M)(hx:SlIn T x.p x.n x.k)(hz:x.s.size<=0x800000000000):AllIn T (M++ [x]):=fun y hy=>by
 rcases UI.1 hy with hy|hy
 ·exact h y hy
 ·rw[RY.1 hy];exact⟨hx,hz⟩
theorem zhx {P:Program}{ρ:Env}{x:Operand}{o:Oper}{w:World}{b off n:Nat}{C W:Qd}{T:TypeId}{fz:Nat×Nat}{t:TypeId}(ht:aggSize P t=some n)(hh:w.heap[b]? =some (.cells C T fz))(hs:off+n<=C.size)(hW:C.extract off (off+n)=W)(ho:o.op=.load t x)(hx:ev ρ x=.pointer (some ⟨b,off,none⟩)):
 (execOp (ev ρ) o).run P w=.ok (.value (.agg W)) w:=by
 have:=ko (P:=P) (w:=w) ht hh hs;rw[hW]at this;simp[execOp,ho,Instr.loadAt,Instr.sureAddr,hx,this]
end
abbrev knd (g:Nat)(p:Qc)(n c:Nat):Value:=.agg #[.int .u8 (g:Int),.slice p n c]
abbrev fld (m:Nat)(s:Qa)(p:Qc)(n c:Nat):Value:=.agg #[.int .u64 (m:Int),.string s,.slice p n c]
theorem qX {P:Program}{ρ:Env}{t e:TypeId}{K bytes:Nat}(ht:yp P t=some (e,K,bytes)){x y:Operand}{o:Oper}{kd:IntKind}{p:Qc}(b q n c k:Nat)(hp:p=some ⟨b,q,none⟩)(ho:o.op=.indexAddr t x y)(hx:ev ρ x=.slice p n c)(hy:ev ρ y=.int kd (k:Int))(hk:k<n):
 ∀w,(execOp (ev ρ) o).run P w=.ok (.value (.pointer (some ⟨b,q+k*K,none⟩))) w:=by
 subst hp;exact vJ ht b q n c k ho hx hy hk
def vr (B:Nat)(w:World)(g:Nat)(p:Qc)(n i g':Nat)(p':Qc)(n' c':Nat):Prop:=
 (n<=(if g=42 then 0 else i)/\g'=0/\p'=none/\n'=0/\c'=0)\/
 ((if g=42 then 0 else i)<n/\∃b off C T fz,p=some ⟨b,off,none⟩/\b<B/\w.heap[b]? =some (.cells C T fz)/\off+(if g=42 then 0 else i)*2+2<=C.size/\C.extract (off+(if g=42 then 0 else i)*2) (off+(if g=42 then 0 else i)*2+2)=#[.int .u8 (g':Int),.slice p' n' c'])
theorem vr.up {B B':Nat}{w w':World}{g:Nat}{p:Qc}{n i g':Nat}{p':Qc}{n' c':Nat}(h:vr B w g p n i g' p' n' c')(hb:Below B w w')(hB:B<=B'):vr B' w' g p n i g' p' n' c':=by
 rcases h with h|⟨h0,b,off,C,T,fz,h1,h2,h3,h4⟩
 ·exact .inl h
 ·exact .inr ⟨h0,b,off,C,T,fz,h1,Nat.lt_of_lt_of_le h2 hB,by rw[hb.block b h2];exact h3,h4⟩
theorem SlR.kid {B:Nat}{w:World}{p:Qc}{n:Nat}{k:Kf}(h:SlR kS B w p n k)(g i:Nat):∃g' p' n' c',vr B w g p n i g' p' n' c'/\SlR kS B w p' n' (zB g k i).2/\g'=(zB g k i).1:=by
 unfold zB vr;generalize (if g=42 then 0 else i)=j;rcases Nat.lt_or_ge j n with hj | hj
 ·obtain⟨a,q,ha⟩:=Fr.at_some (k:=k) (i:=j) (by rw[<-h.1];exact hj);rcases h.2.2 with rfl|⟨b,off,rfl,hA⟩
  ·simp[Fr.at]at ha
  ·obtain⟨C,T,fz,p',n',c',h1,h2,h3,h4,h5,h6⟩:=hA.at ha;rw[ha];exact⟨a,p',n',c',.inr ⟨hj,b,off,C,T,fz,rfl,h1,h2,h3,h4⟩,h6,rfl⟩
 ·rw[Fr.at_none (by rw[<-h.1];exact hj)];exact⟨0,none,0,0,.inl ⟨hj,rfl,rfl,rfl,rfl⟩,SlR.nil _ _ _,rfl⟩
theorem zd6 (g:Nat)(p:Qc)(n c i g':Nat)(p':Qc)(n' c':Nat):FnP Tryz.prog 147 #[knd g p n c,.int .i64 (i:Int)] (fun w=>vr w.heap.size w g p n i g' p' n' c') (knd g' p' n' c'):=by
 refine zR [.cell 4 139] 19 Tryz.func147 fun w hpre=>?_;have H0:=St.start w;refine rS [.b,.a] H0 kr fun gs1 w1 H1=>?_;clear H0;unfold vr at hpre;by_cases hg:g=42
 ·rw[if_pos hg]at hpre;refine za kr<|rS [.v,.l 0,itQ (g:Int) 42] H1 kr fun gs2 w2 H2=>?_;clear H1;refine zh kr kr<|rL [.v] H2 kr fun gs3 w3 H3=>wW ?_;rcases hpre with⟨hj,rfl,rfl,rfl,rfl⟩ | ⟨hj,b,off,C,T,fz,hp,hb,hh,hz,hx⟩
  ·refine za kr<|rS [.v,.v,.l 0,.v,itT ((n:Int)<=((0:Nat):Int))] H3 kr fun gs4 w4 H4=>zh kr kr<|rS [.v,.s 1] H4 kr fun gs5 w5 H5=>?_;exact rR [.cell 4 139] [1] (knd 0 none 0 0) H5 kr
  ·refine za kr<|rS [.v,.v,.l 0,.v,itF ((n:Int)<=((0:Nat):Int))] H3 kr fun gs4 w4 H4=>zi kr kr<|zj kr<|wW<|rS [.v,.l 0,.v,itX 15 16 137 139 2 32 b off n c 0 hp,.fp (off:=off+0*2) (n:=2) (W:=#[.int .u8 (g':Int),.slice p' n' c']) hh hb hz hx,.s 1] H4 kr fun gs5 w5 H5=>?_;exact rR [.cell 4 139] [1] (knd g' p' n' c') H5 kr
 ·rw[if_neg hg]at hpre;refine za kr<|rS [.v,.l 0,itD (g:Int) 42] H1 kr fun gs2 w2 H2=>?_;clear H1;refine zi kr kr<|zj kr ?_;have H3:=H2;refine wW ?_;rcases hpre with⟨hj,rfl,rfl,rfl,rfl⟩ | ⟨hj,b,off,C,T,fz,hp,hb,hh,hz,hx⟩
  ·refine za kr<|rS [.v,.v,.l 0,.v,itT ((n:Int)<=(i:Int))] H3 kr fun gs4 w4 H4=>zh kr kr<|rS [.v,.s 1] H4 kr fun gs5 w5 H5=>?_;exact rR [.cell 4 139] [1] (knd 0 none 0 0) H5 kr
  ·refine za kr<|rS [.v,.v,.l 0,.v,itF ((n:Int)<=(i:Int))] H3 kr fun gs4 w4 H4=>zi kr kr<|zj kr<|wW<|rS [.v,.l 0,.v,itX 15 16 137 139 2 32 b off n c i hp,.fp (off:=off+i*2) (n:=2) (W:=#[.int .u8 (g':Int),.slice p' n' c']) hh hb hz hx,.s 1] H4 kr fun gs5 w5 H5=>?_;exact rR [.cell 4 139] [1] (knd g' p' n' c') H5 kr
theorem zhy (a b n:Nat):Fn Tryz.prog 165 #[.agg #[.int .i64 (a:Int),.int .i64 (b:Int)],.int .i64 (n:Int)] (.bool (qe (a,b) n)):=by
 refine zv [.tmp 4] 15 Tryz.func165 fun w=>?_;have H0:=St.start w;refine rS [.b,.v] H0 kr fun gs1 w1 H1=>?_;clear H0;by_cases h1:a<=n
 ·by_cases h2:n<=b
  ·refine rS [.v,.l 0,.v,itT ((a:Int)<=(n:Int)),.v,.v,.v,.l 0,itT ((n:Int)<=(b:Int)),.v,.v] H1 kr fun gs2 w2 H2=>?_;exact rRe [.tmp 4] [] (v:=.bool true) (v':=.bool (qe (a,b) n)) H2 (zc (by unfold qe;simp[h1,h2])) kr
  ·refine rS [.v,.l 0,.v,itT ((a:Int)<=(n:Int)),.v,.v,.v,.l 0,itF ((n:Int)<=(b:Int)),.v,.v] H1 kr fun gs2 w2 H2=>?_;exact rRe [.tmp 4] [] (v:=.bool false) (v':=.bool (qe (a,b) n)) H2 (zc (by unfold qe;simp[h1,h2])) kr
 ·refine rS [.v,.l 0,.v,itF ((a:Int)<=(n:Int)),.v,.n,.n,.n,.n,.v,.v] H1 kr fun gs2 w2 H2=>?_;exact rRe [.tmp 4] [] (v:=.bool false) (v':=.bool (qe (a,b) n)) H2 (zc (by unfold qe;simp[h1])) kr
theorem zb3 (g:Nat)(p:Qc)(n c:Nat):Fn Tryz.prog 164 #[knd g p n c] (.agg #[.int .i64 (((yr g).1:Nat):Int),.int .i64 (((yr g).2:Nat):Int)]):=by
 refine zv [.cell 2 206] 18 Tryz.func164 fun w=>?_;have H0:=St.start w;refine rS [.b,.a] H0 kr fun gs1 w1 H1=>?_;clear H0;refine rS [.v,.l 0] H1 kr fun gs2 w2 H2=>?_;clear H1;refine zm 0 kr ?_;by_cases h104:g=104
 ·refine rS [itQ (g:Int) 104,.v] H2 kr fun gsa104 wa104 Ha104=>zh kr kr<|rS [.v,.s 1] Ha104 kr fun gsb104 wb104 Hb104=>?_;exact rRe [.cell 2 206] [1] (v:=.agg #[.int .i64 32,.int .i64 32]) (v':=.agg #[.int .i64 (((yr g).1:Nat):Int),.int .i64 (((yr g).2:Nat):Int)]) Hb104 (by unfold yr;simp[h104]) kr
 ·refine rS [itD (g:Int) 104,.v] H2 kr fun gsc104 wc104 Hc104=>zi kr kr ?_;by_cases h97:g=97
  ·refine rS [itQ (g:Int) 97,.v] Hc104 kr fun gsa97 wa97 Ha97=>zh kr kr<|rS [.v,.s 1] Ha97 kr fun gsb97 wb97 Hb97=>?_;exact rRe [.cell 2 206] [1] (v:=.agg #[.int .i64 20,.int .i64 20]) (v':=.agg #[.int .i64 (((yr g).1:Nat):Int),.int .i64 (((yr g).2:Nat):Int)]) Hb97 (by unfold yr;simp[h97]) kr
  ·refine rS [itD (g:Int) 97,.v] Hc104 kr fun gsc97 wc97 Hc97=>zi kr kr ?_;by_cases h115:g=115
   ·refine rS [itQ (g:Int) 115,.v] Hc97 kr fun gsa115 wa115 Ha115=>zh kr kr<|rS [.v,.s 1] Ha115 kr fun gsb115 wb115 Hb115=>?_;exact rRe [.cell 2 206] [1] (v:=.agg #[.int .i64 65,.int .i64 65]) (v':=.agg #[.int .i64 (((yr g).1:Nat):Int),.int .i64 (((yr g).2:Nat):Int)]) Hb115 (by unfold yr;simp[h115]) kr
   ·refine rS [itD (g:Int) 115,.v] Hc97 kr fun gsc115 wc115 Hc115=>zi kr kr ?_;by_cases h98:g=98
    ·refine rS [itQ (g:Int) 98,.v] Hc115 kr fun gsa98 wa98 Ha98=>zh kr kr<|rS [.v,.s 1] Ha98 kr fun gsb98 wb98 Hb98=>?_;exact rRe [.cell 2 206] [1] (v:=.agg #[.int .i64 0,.int .i64 64]) (v':=.agg #[.int .i64 (((yr g).1:Nat):Int),.int .i64 (((yr g).2:Nat):Int)]) Hb98 (by unfold yr;simp[h98]) kr
    ·refine rS [itD (g:Int) 98,.v] Hc115 kr fun gsc98 wc98 Hc98=>zi kr kr<|rS [.v,.s 1] Hc98 kr fun gsz wz Hz=>?_;exact rRe [.cell 2 206] [1] (v:=.agg #[.int .i64 0,.int .i64 0]) (v':=.agg #[.int .i64 (((yr g).1:Nat):Int),.int .i64 (((yr g).2:Nat):Int)]) Hz (by unfold yr;simp[h104,h97,h115,h98]) kr
theorem zhz (g:Nat)(p:Qc)(n c:Nat):Fn Tryz.prog 166 #[knd g p n c] (.agg #[.int .i64 (((yz g n).1:Nat):Int),.int .i64 (((yz g n).2:Nat):Int)]):=by
 refine zv [.cell 2 206] 18 Tryz.func166 fun w=>?_;have H0:=St.start w;refine rS [.b,.a] H0 kr fun gs1 w1 H1=>?_;clear H0;refine rS [.v,.l 0] H1 kr fun gs2 w2 H2=>?_;clear H1;refine zm 0 kr ?_;by_cases h40:g=40
 ·refine rS [itQ (g:Int) 40,.v] H2 kr fun gsa40 wa40 Ha40=>zh kr kr<|rS [.v,.l 0,.v,.v,.l 0,.v,.v,.s 1] Ha40 kr fun gsb40 wb40 Hb40=>?_;exact rRe [.cell 2 206] [1] (v:=.agg #[.int .i64 (n:Int),.int .i64 (n:Int)]) (v':=.agg #[.int .i64 (((yz g n).1:Nat):Int),.int .i64 (((yz g n).2:Nat):Int)]) Hb40 (by unfold yz;simp[h40]) kr
 ·refine rS [itD (g:Int) 40,.v] H2 kr fun gsc40 wc40 Hc40=>zi kr kr ?_;by_cases h42:g=42
  ·refine rS [itQ (g:Int) 42,.v] Hc40 kr fun gsa42 wa42 Ha42=>zh kr kr<|rS [.v,.s 1] Ha42 kr fun gsb42 wb42 Hb42=>?_;exact rRe [.cell 2 206] [1] (v:=.agg #[.int .i64 0,.int .i64 40]) (v':=.agg #[.int .i64 (((yz g n).1:Nat):Int),.int .i64 (((yz g n).2:Nat):Int)]) Hb42 (by unfold yz;simp[h42]) kr
  ·refine rS [itD (g:Int) 42,.v] Hc40 kr fun gsc42 wc42 Hc42=>zi kr kr<|rS [.v,.s 1] Hc42 kr fun gsz wz Hz=>?_;exact rRe [.cell 2 206] [1] (v:=.agg #[.int .i64 0,.int .i64 0]) (v':=.agg #[.int .i64 (((yz g n).1:Nat):Int),.int .i64 (((yz g n).2:Nat):Int)]) Hz (by unfold yz;simp[h40,h42]) kr
theorem zhA (g:Nat)(p:Qc)(n c m:Nat)(s:Qa)(p2:Qc)(n2 c2:Nat):Fn Tryz.prog 153 #[knd g p n c,fld m s p2 n2 c2] (.bool (zw g n m s.size n2)):=by
 refine zv [.tmp 4] 29 Tryz.func153 fun w=>?_;have H0:=St.start w;refine rS [.b,.b,.v] H0 kr fun gs1 w1 H1=>?_;clear H0;have hv:zw g n m s.size n2=((decide (m=0)||decide (g=110))&&(qe (yr g) s.size&&qe (yz g n) n2)):=rfl;obtain⟨x1,hx1⟩:∃x,qe (yr g) s.size=x:=⟨_,rfl⟩
 obtain⟨x2,hx2⟩:∃x,qe (yz g n) n2=x:=⟨_,rfl⟩
 have c1:Fn Tryz.prog 165 #[.agg #[.int .i64 (((yr g).1:Nat):Int),.int .i64 (((yr g).2:Nat):Int)],.int .i64 (s.size:Int)] (.bool x1):=hx1▸zhy _ _ _;have c2:Fn Tryz.prog 165 #[.agg #[.int .i64 (((yz g n).1:Nat):Int),.int .i64 (((yz g n).2:Nat):Int)],.int .i64 (n2:Int)] (.bool x2):=hx2▸zhy _ _ _;rw[hx1,hx2]at hv;rw[hv];clear hv hx1 hx2;by_cases hm:m=0
 ·skip;cases x1 with
  | true=>
   refine dS [.v,.l 1,itQ (m:Int) 0,.v,.n,.n,.n,.v,.v,.l 0,.c (zb3 g p n c),.v,.l 1,.v,.c c1,.v,.v,.l 0,.c (zhz g p n c),.v,.l 1,.v,.c c2,.v,.v] H1 kr fun w2 H2=>?_;exact rRe [.tmp 4] [] (v:=.bool x2) (v':=.bool ((decide (m=0)||decide (g=110))&&(true&&x2))) H2 (zc (by simp[hm])) kr
  | false=>
   refine dS [.v,.l 1,itQ (m:Int) 0,.v,.n,.n,.n,.v,.v,.l 0,.c (zb3 g p n c),.v,.l 1,.v,.c c1,.v,.v,.n,.n,.n,.n,.n,.n,.v,.v] H1 kr fun w2 H2=>?_;exact rRe [.tmp 4] [] (v:=.bool false) (v':=.bool ((decide (m=0)||decide (g=110))&&(false&&x2))) H2 (zc (by simp[hm])) kr
 ·by_cases hg:g=110
  ·skip;cases x1 with
   | true=>
    refine dS [.v,.l 1,itD (m:Int) 0,.v,.v,.l 0,itQ (g:Int) 110,.v,.v,.l 0,.c (zb3 g p n c),.v,.l 1,.v,.c c1,.v,.v,.l 0,.c (zhz g p n c),.v,.l 1,.v,.c c2,.v,.v] H1 kr fun w2 H2=>?_;exact rRe [.tmp 4] [] (v:=.bool x2) (v':=.bool ((decide (m=0)||decide (g=110))&&(true&&x2))) H2 (zc (by simp[hm,hg])) kr
   | false=>
    refine dS [.v,.l 1,itD (m:Int) 0,.v,.v,.l 0,itQ (g:Int) 110,.v,.v,.l 0,.c (zb3 g p n c),.v,.l 1,.v,.c c1,.v,.v,.n,.n,.n,.n,.n,.n,.v,.v] H1 kr fun w2 H2=>?_;exact rRe [.tmp 4] [] (v:=.bool false) (v':=.bool ((decide (m=0)||decide (g=110))&&(false&&x2))) H2 (zc (by simp[hm,hg])) kr
  ·refine dS [.v,.l 1,itD (m:Int) 0,.v,.v,.l 0,itD (g:Int) 110,.v,.v,.n,.n,.n,.n,.n,.n,.v,.v,.n,.n,.n,.n,.n,.n,.v,.v] H1 kr fun w2 H2=>?_;exact rRe [.tmp 4] [] (v:=.bool false) (v':=.bool ((decide (m=0)||decide (g=110))&&(x1&&x2))) H2 (zc (by simp[hm,hg])) kr
def Fr.sub {α:Type}(p:Fr α->Prop):Fr α->Prop
 | .nil=>True
 | .cons a k r=>p k/\r.sub p
theorem Fr.induct {α:Type}{p:Fr α->Prop}(h: ∀l:Fr α,l.sub p->p l): ∀l:Fr α,p l/\l.sub p
 | .nil=>⟨h .nil trivial,trivial⟩
 | .cons a k r=>⟨h _ ⟨(Fr.induct h k).1,(Fr.induct h r).2⟩,(Fr.induct h k).1,(Fr.induct h r).2⟩
def zb4 (l:Fe):Prop:= ∀(g:Nat) (p:Qc) (n c:Nat) (b:Kf) (m:Nat) (s:Qa) (p2:Qc) (n2 c2:Nat) (room:Int),
 FnP Tryz.prog 135 #[knd g p n c,fld m s p2 n2 c2,.int .i64 room] (fun w=>SlR kS w.heap.size w p n b/\SlR fS w.heap.size w p2 n2 l) (.int .i64 (yn g b (m,s) l room))
theorem znm (l:Fe)(hs:l.sub zb4):zb4 l:=by
 intro g p n c b m s p2 n2 c2 room;refine zR [.tmp 6] 34 Tryz.func135 fun w hpre=>?_;have H0:=St.start w;obtain⟨hK,hF⟩:=hpre;have hn2:=hF.1;have hnm:n2<=0x800000000000:=hF.2.1;unfold yn;rw[<-hK.1,<-hF.1];refine rS [.b,.b,.v] H0 kr fun gs1 w1 H1=>?_;clear H0;refine za kr ?_;cases hf:zw g n m s.size n2 with
 | false=>
  rw[if_neg (by decide)];refine rS [.l 0,.l 1,.c (zhA g p n c m s p2 n2 c2),.E (.bool (!(zw g n m s.size n2))) (.bool true) (zc (by rw[hf];rfl))] H1 kr fun gs2 w2 H2=>zh kr kr<|rS [.v] H2 kr fun gs3 w3 H3=>?_;exact rR [.tmp 6] [] (.int .i64 (-1)) H3 kr
 | true=>
  rw[if_pos rfl];refine rS [.l 0,.l 1,.c (zhA g p n c m s p2 n2 c2),.E (.bool (!(zw g n m s.size n2))) (.bool false) (zc (by rw[hf];rfl))] H1 kr fun gs2 w2 H2=>zi kr kr<|zj kr<|wW<|rS [.v,.E (.int .i64 (Qz.wrap (room-1))) (.int .i64 (w64 (room-1))) rfl,.v] H2 kr fun gs3 w3 H3=>za kr<|rS [.v,.l 1,.v,.v] H3 kr fun gs4 w4 H4=>zm 0 kr ?_;have H5:St w.heap.size w w4 [((gs1 0).b,.cells #[.int .u8 (g:Int),.slice p n c] 139 (0,0)),((gs1 1).b,.cells #[.int .u64 (m:Int),.string s,.slice p2 n2 c2] 89 (0,0))]:=H4.as kr;clear H1 H2 H3 H4;refine zO kr (fun mz ρ ww=> ∃(i:Nat) (r:Fe) (v:Int),n2-i=mz/\FrR fS w.heap.size w p2 i r/\i+r.len=n2/\r.sub zb4/\qD l g b 0 (w64 (room-1))=qD r g b i v/\St w.heap.size w ww [((gs1 0).b,.cells #[.int .u8 (g:Int),.slice p n c] 139 (0,0)),((gs1 1).b,.cells #[.int .u64 (m:Int),.string s,.slice p2 n2 c2] 89 (0,0))]/\Is [(2,.int .i64 v),(3,Qe (gs1 0).b),(16,.slice p2 n2 c2),(17,.int .i64 (n2:Int)),(18,.int .i64 (i:Int))] ρ) (n2-0) ⟨0,l,_,rfl,hF.start,by omega,hs,rfl,H5,zl⟩ ?_;clear H5;rintro _ _ w5 ⟨i,r,v,rfl,hR,hN,hsub,hv,H6,_,rfl⟩;by_cases hi:i<n2
  ·refine rS [itT ((i:Int)<(n2:Int))] H6 kr fun gs5 w6 H7=>?_;clear H6;refine za kr<|zh kr kr<|zj kr<|wW<|za kr<|zm 1 kr ?_;obtain⟨⟨m1,s1⟩,k1,r1,b1,off1,C1,T1,fz1,p1,n1,c1,hr1,hp1,hb1,hh1,hs1,hx1,hz1,hk1,hR1,hN1⟩:=FrR.open hR hN hi;obtain⟨g',p',n',c',hK1,hK2,hg'⟩:=hK.kid g i;subst hr1;refine rS [.v,itX 16 18 85 89 3 48 b1 off1 n2 c2 i hp1,.fp (off:=off1+i*3) (n:=3) (W:=#[.int .u64 (m1:Int),.string s1,.slice p1 n1 c1]) hh1 hb1 hs1 hx1,.a,.v,.s 2] H7 kr fun gs6 w7 H8=>?_;clear H7;refine dS [.l 0,.v,.cp (pre:=fun w=>vr w.heap.size w g p n i g' p' n' c') (zd6 g p n c i g' p' n' c') [] (fun w hb hd=>hK1.up hb hb.size),.l 2,.v,.cp (pre:=fun w=>SlR kS w.heap.size w p' n' (zB g b i).2/\SlR fS w.heap.size w p1 n1 k1) (hsub.1 g' p' n' c' (zB g b i).2 m1 s1 p1 n1 c1 v) [] (fun w hb hd=>⟨hK2.call hb,hk1.call hb⟩),.v] H8 kr fun w8 H9=>?_;clear H8;rw[zaG,<-hg']at hv;by_cases hv0:yn g' (zB g b i).2 (m1,s1) k1 v<0
   ·rw[if_pos hv0]at hv;refine rS [.v,itT (yn g' (zB g b i).2 (m1,s1) k1 v<0) hv0] H9 kr fun gs7 w9 H10=>zh kr kr<|rS [.v,.v] H10 kr fun gs8 w10 H11=>?_;exact rRe [.tmp 6] [] (v:=.int .i64 (yn g' (zB g b i).2 (m1,s1) k1 v)) (v':=.int .i64 (qD l g b 0 (w64 (room-1)))) H11 (zf hv.symm) kr
   ·rw[if_neg hv0]at hv;refine rS [.v,itF (yn g' (zB g b i).2 (m1,s1) k1 v<0) hv0] H9 kr fun gs7 w9 H10=>zi kr kr<|zj kr<|wW<|rL [itI i 1,.v] H10 kr fun gs8 w10 H11=>?_;have H12:St w.heap.size w w10 [((gs1 0).b,.cells #[.int .u8 (g:Int),.slice p n c] 139 (0,0)),((gs1 1).b,.cells #[.int .u64 ((m:Nat):Int),.string s,.slice p2 n2 c2] 89 (0,0)),((gs6 3).b,.cells #[.int .u64 (m1:Int),.string s1,.slice p1 n1 c1] 89 (0,0))]:=H11.as kr;show ∃m,_/\_;exact⟨_,(by omega),i+1,r1,_,rfl,hR1,hN1,hsub.2,hv,H12.sub (Qq _ (Qq _ (QE _))),zl⟩
  ·obtain rfl:=FrR.done hN hi;refine rS [itF ((i:Int)<(n2:Int))] H6 kr fun gs5 w6 H7=>za kr<|zi kr kr<|zE 0 kr<|wW<|rS [.v,.v] H7 kr fun gs6 w7 H8=>?_;exact rRe [.tmp 6] [] (v:=.int .i64 v) (v':=.int .i64 (qD l g b 0 (w64 (room-1)))) H8 (zf hv.symm) kr
theorem zhB (l:Fe):zb4 l:=(Fr.induct znm l).1
structure kQ (C:Qd)(n i:Nat)(M:List X3):Prop where
 sz:C.size=n*3
 len:M.length=i
 take:C.toList.take (i*3)=cells3 M
theorem kQ.start {C:Qd}{n:Nat}(h:C.size=n*3):kQ C n 0 []:=⟨h,rfl,by simp[cells3]⟩
theorem kQ.put {C:Qd}{n i:Nat}{M:List X3}(h:kQ C n i M)(x:X3)(hi:i<n):
 0+i*3+(VO (xc x)).cells.size<=C.size/\kQ (C.toList.take (0+i*3)++(VO (xc x)).cells.toList++C.toList.drop (0+i*3+(VO (xc x)).cells.size)).toArray n (i+1) (M++ [x]):=by
 have hc:(VO (xc x)).cells=xc x:=rfl;have h3:(xc x).size=3:=rfl;have hl3:(xc x).toList.length=3:=rfl;have hsz:=h.sz;rw[hc,h3,Q9];have hle:i*3+3<=C.size:=by omega
 refine⟨hle,?_,by rw[Qx,h.len];rfl,?_⟩
 ·simp only[Ux,Qx,Rb,List.length_drop,Rv,hl3];omega
 ·have e1:(C.toList.take (i*3)).length=i*3:=by rw[Rb,Rv];omega
  have e2:(C.toList.take (i*3)).take (i*3+3)=C.toList.take (i*3):=Qy (by omega);have e3:(xc x).toList.take 3=(xc x).toList:=rfl;rw[show (i+1)*3=i*3+3 by omega,V5,QD,VK,e1,e2,Nat.add_sub_cancel_left,VK,hl3,V7,List.take_zero,QI,e3,zbD,h.take];rfl
theorem kQ.done {C:Qd}{n:Nat}{M:List X3}(h:kQ C n n M)(hm:n<=maxLen):Rw 3 C n n (cells3 M):=⟨by rw[ka,h.len],QH _,hm,h.take,h.sz⟩
theorem znn (n c:Nat)(L:List X3)(h0:n=0):FnR Tryz.prog 69 #[.slice none n c] (fun w=>n=Qo L/\jL w none L) (zaD 58 (fun v=>v) n L):=by
 refine vF [.tmp 2] 8 Tryz.func69 fun w hpre=>?_;have H0:=St.start w;refine rS [.v] H0 kr fun gs1 w1 H1=>?_;clear H0;refine za kr<|rS [.v,.v] H1 kr fun gs2 w2 H2=>?_;clear H1;refine zh kr kr<|rS [.v] H2 kr fun gs3 w3 H3=>?_;clear H2;refine zk kr<|wV ?_;refine⟨[.slice none 0 0],(.tmp (.slice none 0 0) kr .nil),H3.below,?_⟩;exact Or.inl ⟨h0,rfl⟩
theorem zno (a:Addr)(n c:Nat)(L:List X3)(hn8:n<=2000000000000):FnR Tryz.prog 69 #[.slice (some a) n c] (fun w=>n=Qo L/\jL w (some a) L) (zaD 58 (fun v=>v) n L):=by
 refine vF [.tmp 2] 8 Tryz.func69 fun w hpre=>?_;have H0:=St.start w;refine rS [.v] H0 kr fun gs1 w1 H1=>?_;clear H0;refine za kr<|rS [.v,.v] H1 kr fun gs2 w2 H2=>?_;clear H1;refine zi kr kr<|zj kr<|wW<|zd [0,1,2,3] kr kr<|rp [.nw (fun b=>Qf b 0 0) #[] 58,.v] H2 kr fun gs3 w3 H3=>wX [2,3] ?_;clear H2;have HL1:St w.heap.size w w3 [((gs3 0).b,Obj.cells #[] 58 (0,0))]:=H3.as kr;clear H3;refine zmR HL1 (some 7) 47 58 48 (.tmp 5) (.tmp 6) 0 ((gs3 0).b) 0 n 0 c (some a) #[] [] L (fun b_1 cur_3=>[(b_1,Obj.cells cur_3 58)]) kr kr kr kr kr (Rw.lit #[] 0 (by rfl) (by unfold maxLen;omega)) kr hpre.1 (fun h=>nomatch h) (jL.up hpre.2 HL1.below) (by omega) (by unfold maxLen;omega) (fun _ _=>by kernel_rfl) ?_;intro b_1 cap_2 cur_3 w4 H4 hr_4;clear HL1;rw[Q9]at hr_4;refine zL 7 (v:=Qf b_1 (0+n) cap_2) (v':=Qf b_1 n cap_2) (by rw[Q9]) kr<|rp [.v] H4 kr fun gs5 w5 H5=>wX [] ?_;clear H4;refine zb<|zk kr<|wV ?_;refine⟨[Qf b_1 n cap_2],(.tmp (Qf b_1 n cap_2) kr .nil),H5.below,?_⟩;exact Or.inr ⟨b_1,cap_2,_,rfl,H5.ge 0 (o:=.cells cur_3 58) kr,H5.get 0 kr,hr_4⟩
theorem znp (p:Qc)(n c:Nat)(L:List X3)(hn8:n<=2000000000000):FnR Tryz.prog 69 #[.slice p n c] (fun w=>n=Qo L/\jL w p L) (zaD 58 (fun v=>v) n L):=fun w hp=>by
 cases p with
 | none=>
  have h0:n=0:=by
   rcases hp.2 with h|⟨b,off,e,_⟩
   ·rw[hp.1,h];rfl
   ·cases e
  exact znn n c L h0 w hp
 | some a=>exact zno a n c L hn8 w hp
theorem zhC (p:Qc)(n c:Nat)(L:List X3)(hn8:n<=2000000000000):FnR Tryz.prog 38 #[.slice p n c] (fun w=>n=Qo L/\jL w p L) (zaD 58 (fun v=>.agg #[.bool true,.string ⟨#[]⟩,v]) n L):=by
 refine vF [.cell 2 58] 6 Tryz.func38 fun w hpre=>?_;have H0:=St.start w;refine rS [.a] H0 kr fun gs1 w1 H1=>?_;clear H0;refine zd [0,1,2,3] kr kr<|rp [.v] H1 kr fun gs2 w2 H2=>wX [1,2,3] ?_;clear H1;refine zdT H2 (some 4) 69 #[.slice p n c] (fun w=>n=Qo L/\jL w p L) 58 (fun v=>v) n L (znp p n c L (by omega)) ⟨hpre.1,jL.up hpre.2 H2.below⟩ kr kr ?_ ?_
 ·skip;intro w3 h0 H3;clear H2;refine rp [.v,.s 0] H3 kr fun gs5 w5 H5=>wX [] ?_;clear H3;refine zb<|zk kr<|wV ?_;refine⟨[.agg #[.bool true,.string (⟨#[]⟩),.slice none 0 0]],(.agg (b:=(gs1 0).b) (#[.bool true,.string (⟨#[]⟩),.slice none 0 0]) 58 (0,0) kr (H5.get 0 kr) kr .nil),H5.below,?_⟩;exact Or.inl ⟨h0,rfl⟩
 ·skip;intro b_1 cap_2 cur_3 w4 H4 hr_4;clear H2;refine rp [.v,.s 1] H4 kr fun gs6 w6 H6=>wX [] ?_;clear H4;refine zb<|zk kr<|wV ?_;refine⟨[.agg #[.bool true,.string (⟨#[]⟩),Qf b_1 n cap_2]],(.agg (b:=(gs1 0).b) (#[.bool true,.string (⟨#[]⟩),Qf b_1 n cap_2]) 58 (0,0) kr (H6.get 1 kr) kr .nil),H6.below,?_⟩;exact Or.inr ⟨b_1,cap_2,_,rfl,H6.ge 0 (o:=.cells cur_3 58) kr,H6.get 0 kr,hr_4⟩
def Fo.app:Fo->Fo->Fo
 | .nil,R=>R
 | .cons l s k r,R=>.cons l s k (r.app R)
theorem zb5 (x:X3)(R:Fo): ∀M:List X3,(toFo (M++ [x])).app R=(toFo M).app (.cons x.l x.s x.k R)
 | []=>rfl
 | y::r=>by simp only[Rm,toFo,Fo.app,zb5 x R r]
theorem Fo.app_nil: ∀k:Fo,k.app .nil=k
 | .nil=>rfl
 | .cons l s k r=>by simp only[Fo.app,Fo.app_nil r]
theorem zb6 {g:Nat}{x:Nat×Qa}(h:x.2.size<=0x800000000000):(zX g x).size<=0x800000000000:=by
 unfold zX;split
 ·rw[yU];have:=qB x.1;omega
 ·split
  ·exact QU _
  ·exact h
def zaL (g:Nat)(b:Kf)(x:Nat×Qa)(l:Fe)(v:Value)(T:Qb):Prop:=
 ∃(p:Qc) (n c:Nat),v=.agg #[.bool (yb g),.string (zX g x),.slice p n c]/\SlIn T p n (zI g b l)
def zb7 (l:Fe):Prop:= ∀(g:Nat) (p:Qc) (n c:Nat) (b:Kf) (m:Nat) (s:Qa) (p2:Qc) (n2 c2:Nat) (room:Int),m<0x10000000000000000->0<=yn g b (m,s) l room->
 FnT Tryz.prog 136 #[knd g p n c,fld m s p2 n2 c2] (fun w=>SlR kS w.heap.size w p n b/\SlR fS w.heap.size w p2 n2 l) (zaL g b (m,s) l)
abbrev znq (v:Value):Obj:=.cells #[.bool true,.string ⟨#[]⟩,v] 58 (0,0)
abbrev itZ:Obj:=.cells #[.bool false,.string ⟨#[]⟩,.slice none 0 0] 58 (0,0)
abbrev kdO (g:Nat)(p:Qc)(n c:Nat):Obj:=.cells #[.int .u8 (g:Int),.slice p n c] 139 (0,0)
abbrev fdO (m:Nat)(s:Qa)(p:Qc)(n c:Nat):Obj:=.cells #[.int .u64 (m:Int),.string s,.slice p n c] 89 (0,0)
abbrev rwO (C:Qd):Obj:=.cells C 58
def zb8 (C:Qd)(i:Nat)(x:X3):Qd:=(C.toList.take (0+i*3)++(VO (xc x)).cells.toList++C.toList.drop (0+i*3+(VO (xc x)).cells.size)).toArray
def xz (B:Nat)(w0:World)(bq br:Nat)(C:Qd)(i:Nat)(ok:X3->Qb->Prop)(bk:Nat)(kO fO:Obj)(T:Qb):(Nat->Bool)->(Nat->D2.Gh)->World->Prop:=fun L g w=>
 bif L 8 then ∃x T2,ok x T2/\St B w0 w ((bq,fO)::(bk,kO)::(br,rwO (zb8 C i x))::(T2++T))
 else bif L 6 then ∃x T2,ok x T2/\(g 6).cur=xc x/\St B w0 w ((bq,fO)::(bk,kO)::(br,rwO C)::(T2++T))
 else St B w0 w ((bq,fO)::(bk,kO)::(br,rwO C)::T)
theorem xz.st {B:Nat}{w0:World}{bq br:Nat}{C:Qd}{i:Nat}{ok:X3->Qb->Prop}{bk:Nat}{kO fO:Obj}{T:Qb}{L:Nat->Bool}{g:Nat->D2.Gh}{w:World}(h8:L 8=false)(h:xz B w0 bq br C i ok bk kO fO T L g w):∃T',St B w0 w ((bq,fO)::(bk,kO)::(br,rwO C)::T'):=by
 unfold xz at h;rw[h8]at h;cases h6:L 6 with
 | true=>rw[h6]at h;obtain⟨x,T2,_,_,h⟩:=h;exact⟨_,h⟩
 | false=>rw[h6]at h;exact⟨_,h⟩
theorem xz.call {B:Nat}{w0:World}{bq br:Nat}{C:Qd}{i:Nat}{ok:X3->Qb->Prop}{bk:Nat}{kO fO:Obj}{T:Qb}{L:Nat->Bool}{g:Nat->D2.Gh}{w w':World}(hb:Below w.heap.size w w')(h:xz B w0 bq br C i ok bk kO fO T L g w):xz B w0 bq br C i ok bk kO fO T L g w':=by
 unfold xz at h⊢;cases h8:L 8 with
 | true=>rw[h8]at h;obtain⟨x,T2,h1,h⟩:=h;exact⟨x,T2,h1,h.call hb⟩
 | false=>
  rw[h8]at h;cases h6:L 6 with
  | true=>rw[h6]at h;obtain⟨x,T2,h1,h2,h⟩:=h;exact⟨x,T2,h1,h2,h.call hb⟩
  | false=>rw[h6]at h;exact St.call h hb
theorem znr (l:Fe)(hs:l.sub zb7):zb7 l:=by
 intro g p n c b m s p2 n2 c2 room hm hleft;refine qz [.cell 4 58] 44 Tryz.func136 fun w hpre=>?_;have H0:=St.start w;obtain⟨hK,hF⟩:=hpre;have hfit:zw g b.len m s.size l.len=true/\0<=qD l g b 0 (w64 (room-1)):=by
  unfold yn at hleft;by_cases hf:zw g b.len m s.size l.len=true
  ·rw[if_pos hf]at hleft;exact⟨hf,hleft⟩
  ·rw[if_neg hf]at hleft;omega
 obtain⟨hf1,hf2,hf3⟩:=zbY hfit.1;have hn2:=hF.1;have hnb:n2<=1000:=by
  have hk1:=hK.1;have hk2:n<=1000:=hK.2.1;have:=hf3.2;unfold yz at this;split at this
  ·simp only at this;omega
  ·split at this
   ·simp only at this;omega
   ·simp only at this;omega
 refine rS [.b,.b,.a] H0 kr fun gs1 w1 H1=>?_;clear H0;refine rS [.v,.l 0] H1 kr fun gs2 w2 H2=>?_;clear H1;refine zm 0 kr ?_;by_cases h110:g=110
 ·refine rS [itQ (g:Int) 110,.v] H2 kr fun gs3 w3 H3=>zh kr kr<|rS [.v,.l 1,.c (zmD m hm),.s 2] H3 kr fun gs4 w4 H4=>rRr [.cell 4 58] [2] (.agg #[.bool false,.string (zg (dg m)),.slice none 0 0]) (zV w.heap.size w (zaL g b (m,s) l)) H4 kr ?_;refine⟨[],⟨none,0,0,?_,?_⟩,H4.sub (QE _)⟩
  ·subst h110;rfl
  ·subst h110;exact SlIn.none _
 ·refine rS [itD (g:Int) 110,.v] H2 kr fun gs3 w3 H3=>zi kr kr<|za kr<|qS (Q:=fun e ρ ww=>e=.normal/\St w.heap.size w ww [((gs1 0).b,kdO g p n c),((gs1 1).b,fdO m s p2 n2 c2),((gs1 2).b,itZ)]/\Is [(2,Qe (gs1 0).b),(3,Qe (gs1 1).b),(4,Qe (gs1 2).b),(18,.bool (yb g))] ρ) ?_ ?_
  ·by_cases h40:g=40
   ·refine rS [itQ (g:Int) 40,.v] H3 kr fun gs4 w4 H4=>zh kr kr<|zj kr ?_;refine⟨rfl,H4.as kr,?_⟩;subst h40;exact zl
   ·refine rS [itD (g:Int) 40,.v] H3 kr fun gs4 w4 H4=>zi kr kr ?_;have hl:yb g=decide (g=42):=by unfold yb;rw[decide_eq_false h40];rfl
    rw[hl];by_cases h42:g=42
    ·refine rL [itQ (g:Int) 42,.v] H4 kr fun gs5 w5 H5=>?_;refine⟨rfl,H5.as kr,?_⟩;rw[decide_eq_true h42];exact zl
    ·refine rL [itD (g:Int) 42,.v] H4 kr fun gs5 w5 H5=>?_;refine⟨rfl,H5.as kr,?_⟩;rw[decide_eq_false h42];exact zl
  rintro _ _ w4 ⟨rfl,H4,_,rfl⟩;refine wW ?_;clear H3 H2;cases hl:yb g with
  | false=>
   refine zi kr kr<|rS [.v,.l 1,.v,.s 2] H4 kr fun gs5 w5 H5=>rRr [.cell 4 58] [2] (.agg #[.bool false,.string s,.slice none 0 0]) (zV w.heap.size w (zaL g b (m,s) l)) H5 kr ?_;refine⟨[],⟨none,0,0,?_,?_⟩,H5.sub (QE _)⟩
   ·unfold zX;rw[if_neg h110,if_neg (by rw[hl];decide),hl]
   ·unfold zI;rw[if_neg (by rw[hl];decide)];exact SlIn.none _
  | true=>
   refine zh kr kr<|zd [0,1,2,3,4] kr kr<|rp [.v,.l 1,.v] H4 kr fun gs5 w5 H5=>wX [3,4] ?_;have H6:St w.heap.size w w5 [((gs1 0).b,kdO g p n c),((gs1 1).b,fdO m s p2 n2 c2),((gs1 2).b,itZ)]:=H5.as kr;refine zkD H6 (some 24) 47 58 3 48 (.tmp 23) (.tmp 23) .i64 .i64 n2 kr kr kr kr kr (by omega) (by unfold maxLen;omega) ?_;intro br C0 w6 H7 hC0;clear H4 H5 H6;have H8:St w.heap.size w w6 (((gs1 0).b,kdO g p n c)::(br,rwO C0)::((gs1 1).b,fdO m s p2 n2 c2)::((gs1 2).b,itZ)::[]):=H7.perm (Uz _ _ _);clear H7;refine rp [.v] H8 kr fun gs6 w7 H9=>wX []<|zb<|za kr<|rS [.v,.l 2,.v,.v] H9 kr fun gs7 w8 H10=>zm 1 kr ?_;have H11:St w.heap.size w w8 (((gs1 0).b,kdO g p n c)::(br,rwO C0)::((gs1 1).b,fdO m s p2 n2 c2)::((gs1 2).b,itZ)::[]):=H10.as kr;clear H8 H9 H10;refine zO kr (fun mz ρ ww=> ∃(i:Nat) (r:Fe) (v:Int) (C:Qd) (M:List X3) (T:Qb),n2-i=mz/\FrR fS w.heap.size w p2 i r/\i+r.len=n2/\r.sub zb7/\0<=qD r g b i v/\(toFo M).app (yF r g b i)=yF l g b 0/\kQ C n2 i M/\AllIn T M/\St w.heap.size w ww (((gs1 0).b,kdO g p n c)::(br,rwO C)::((gs1 1).b,fdO m s p2 n2 c2)::((gs1 2).b,itZ)::T)/\Is [(2,Qe (gs1 0).b),(3,Qe (gs1 1).b),(4,Qe (gs1 2).b),(5,Qf br n2 n2),(26,.slice p2 n2 c2),(27,.int .i64 (n2:Int)),(28,.int .i64 (i:Int))] ρ) (n2-0) ⟨0,l,_,C0,[],[],rfl,hF.start,by omega,hs,hfit.2,rfl,kQ.start hC0,(fun _ h=>nomatch h),H11,zl⟩ ?_;clear H11;rintro _ _ w9 ⟨i,r,v,C,M,T,rfl,hR,hN,hsub,hlf,happ,hFill,hAll,H12,_,rfl⟩;by_cases hi:i<n2
   ·refine rS [itT ((i:Int)<(n2:Int))] H12 kr fun gs8 w10 H13=>?_;clear H12;refine za kr<|zh kr kr<|zj kr<|wW<|za kr<|zm 2 kr ?_;obtain⟨⟨m1,s1⟩,k1,r1,b1,off1,C1,T1,fz1,p1,n1,c1,hr1,hp1,hb1,hh1,hs1,hx1,hz1,hk1,hR1,hN1⟩:=FrR.open hR hN hi;obtain⟨g',p',n',c',hK1,hK2,hg'⟩:=hK.kid g i;subst hr1;rw[zaG,<-hg']at hlf;have hkid:0<=yn g' (zB g b i).2 (m1,s1) k1 v/\0<=qD r1 g b (i+1) (yn g' (zB g b i).2 (m1,s1) k1 v):=by
     by_cases hv:yn g' (zB g b i).2 (m1,s1) k1 v<0
     ·rw[if_pos hv]at hlf;omega
     ·rw[if_neg hv]at hlf;exact⟨Int.not_lt.1 hv,hlf⟩
    refine zd [0,1,2,3,4,5] kr kr<|rp [.v,itX 26 28 85 89 3 48 b1 off1 n2 c2 i hp1,.fp (off:=off1+i*3) (n:=3) (W:=#[.int .u64 (m1:Int),.string s1,.slice p1 n1 c1]) hh1 hb1 hs1 hx1] H13 kr fun gs9 w11 H14=>wX [3,4,5] ?_;have H15:St w.heap.size w w11 (((gs1 0).b,kdO g p n c)::(br,rwO C)::((gs1 1).b,fdO m s p2 n2 c2)::((gs1 2).b,itZ)::T):=H14.as kr;refine zA H15 (some 7) 89 (.agg #[wZ,.string ⟨#[]⟩,.slice none 0 0]) kr kr kr ?_;intro bq w12 H16;refine rp [.v,.s 0] H16 kr fun gs10 w13 H17=>wX []<|zb ?_;have H18:St w.heap.size w w13 ((bq,fdO m1 s1 p1 n1 c1)::((gs1 0).b,kdO g p n c)::(br,rwO C)::((gs1 1).b,fdO m s p2 n2 c2)::((gs1 2).b,itZ)::T):=H17.as kr;clear H13 H14 H15 H16 H17;have hc:=hsub.1 g' p' n' c' (zB g b i).2 m1 s1 p1 n1 c1 v hz1.1 hkid.1;refine D2.g_draw0 [0,1,2,3,4,5,6,7,8] [(some 33,fun _=>Qf br n2 n2),(some 34,fun _=>.int .i64 (i:Int)),(some 35,fun _=>knd g p n c),(some 36,fun _=>.int .i64 (i:Int)),(some 37,fun _=>knd g' p' n' c'),(some 38,fun _=>fld m1 s1 p1 n1 c1),(some 39,fun y=>.agg y.cur),(some 40,fun _=>.pointer (some ⟨br,0+i*3,none⟩)),(none,fun _=>undef)]
     (xz w.heap.size w bq br C i (fun x T2=>x.l=yb g'/\x.s=zX g' (m1,s1)/\x.k=zI g' (zB g b i).2 k1/\SlIn T2 x.p x.n x.k) (gs1 0).b (kdO g p n c) (fdO m1 s1 p1 n1 c1) (((gs1 1).b,fdO m s p2 n2 c2)::((gs1 2).b,itZ)::T)) kr kr kr H18.drew ⟨?_,?_,?_,?_,?_,?_,?_,?_,?_,trivial⟩ ?_
    ·exact D2.gv_vala
    ·exact D2.gv_vala
    ·refine D2.gv_ld (fun _ _ _ h=>h) 139 (.tmp 2) (fun _=>(gs1 0).b) 0 #[.int .u8 ((g:Nat):Int),.slice p n c] 139 (0,0) (fun g=>by kernel_rfl) (fun g=>by kernel_rfl) (fun L g w hN hp=>?_) kr kr;obtain⟨T',h⟩:=hp.st (hN.post 8 kr);exact h.get 1 kr
    ·exact D2.gv_vala
    ·refine D2.gv_cpW (fun _ _ _ h=>h) 147 #[knd g p n c,.int .i64 (i:Int)] (zd6 g p n c i g' p' n' c') (fun L g w hN hp=>?_) (fun L g w w' hN hp hb=>hp.call hb) (fun g w=>by kernel_rfl);obtain⟨T',h⟩:=hp.st (hN.post 8 kr);exact hK1.up h.below h.below.size
    ·refine D2.gv_ld (fun _ _ _ h=>h) 89 (.tmp 7) (fun _=>bq) 0 #[.int .u64 (m1:Int),.string s1,.slice p1 n1 c1] 89 (0,0) (fun g=>by kernel_rfl) (fun g=>by kernel_rfl) (fun L g w hN hp=>?_) kr kr;obtain⟨T',h⟩:=hp.st (hN.post 8 kr);exact h.get 0 kr
    ·refine D2.gv_ft 136 #[knd g' p' n' c',fld m1 s1 p1 n1 c1] hc (fun L g w hN hp=>?_) (fun L gg ww v' T2 w' hN hp hok hT=>?_) (fun g w=>by kernel_rfl)
     ·obtain⟨T',h⟩:=hp.st (hN.post 8 kr);exact⟨hK2.call h.below,hk1.call h.below⟩
     ·obtain⟨q1,q2,q3,rfl,hsl⟩:=hok;refine⟨{ cur:=#[.bool (yb g'),.string (zX g' (m1,s1)),.slice q1 q2 q3] },rfl,?_⟩;unfold xz at hp⊢;rw[hN.post 8 kr,hN.1]at hp;rw[show D2.put1 L 6 8=false from hN.post 8 kr,show D2.put1 L 6 6=true from rfl];exact⟨⟨yb g',zX g' (m1,s1),q1,q2,q3,zI g' (zB g b i).2 k1⟩,T2,⟨rfl,rfl,rfl,hsl⟩,rfl,(St.addAll hp hT).perm (Ro T2 [(bq,fdO m1 s1 p1 n1 c1),((gs1 0).b,kdO g p n c),(br,rwO C)] (((gs1 1).b,fdO m s p2 n2 c2)::((gs1 2).b,itZ)::T)).symm⟩
    ·exact D2.gv_op (fun _ _ _ h=>h) _ (fun g=>by kernel_rfl) (fun g o w ho=>qX (kd:=.i64) (t:=47) (e:=58) (K:=3) (bytes:=48) kr (x:=(.tmp 33)) (y:=(.tmp 34)) br 0 n2 n2 i rfl ho kr kr hi w)
    ·refine D2.gives_of fun L1 gg ww hp hN=>?_;have h6:=hN.bef 6 kr;unfold xz at hp;rw[hN.1,h6]at hp;obtain⟨x,T2,hx,hcur,HS⟩:=hp;obtain⟨o,ho,hd,hw,hop⟩:=zM (show opk _ 8 _=some (none,true,.store 58 (.tmp 40) (.tmp 39)) by kernel_rfl);refine⟨o,ho,hd,.inr ⟨hw,?_⟩⟩;rw[vQ (t:=58) (off:=0+i*3) (b:=br) (C:=C) (T:=58) (v:=.agg (xc x)) (C':=zb8 C i x) (HS.get 2 kr) kr kr (hFill.put x hi).1 rfl kr (by rw[<-hcur];kernel_rfl) o hop];refine⟨default,rfl,?_⟩;unfold xz;rw[show D2.put1 L1 8 8=true from rfl];exact⟨x,T2,hx,HS.store 2 (C:=C) kr⟩
    ·intro L1 gg w14 hall hp;unfold xz at hp;rw[hall 8 (Qp kr)]at hp;obtain⟨x,T2,⟨hx1,hx2,hx3,hx4⟩,HS⟩:=hp;have H19:St w.heap.size w w14 (((gs1 0).b,kdO g p n c)::(br,rwO (zb8 C i x))::((gs1 1).b,fdO m s p2 n2 c2)::((gs1 2).b,itZ)::(T2++T)):=(HS.sub (Qt ..)).perm (QM _ (QM _ (Ro T2 [((gs1 1).b,fdO m s p2 n2 c2),((gs1 2).b,itZ)] T).symm));refine wW<|rL [itI i 1,.v] H19 kr fun gs11 w15 H20=>?_;show ∃m,_/\_;refine⟨_,(by omega),i+1,r1,_,zb8 C i x,M++ [x],T2++T,rfl,hR1,hN1,hsub.2,hkid.2,?_,(hFill.put x hi).2,?_,H20.as kr,zl⟩
     ·rw[zb5,hx1,hx2,hx3,<-happ,zaH,<-hg']
     ·exact(hAll.mono fun e he=>QZ _ he).snoc (hx4.mono fun e he=>Rd _ he) (by rw[hx2];exact zb6 hz1.2)
   ·obtain rfl:=FrR.done hN hi;obtain rfl:i=n2:=by simp only[Fr.len]at hN;omega
    refine rS [itF ((i:Int)<(i:Int))] H12 kr fun gs8 w10 H13=>za kr<|zi kr kr<|zE 1 kr<|wW ?_;have hM:toFo M=zI g b l:=by
     unfold zI;rw[if_pos hl,<-happ];exact(Fo.app_nil _).symm
    have hrw:=hFill.done (by unfold maxLen;omega);refine zd [0,1,2] kr kr<|rp [.v] H13 kr fun gs9 w11 H14=>wX [1,2] ?_;have H15:St w.heap.size w w11 (((gs1 0).b,kdO g p n c)::(br,rwO C)::((gs1 1).b,fdO m s p2 i c2)::((gs1 2).b,itZ)::T):=H14.as kr;refine zdT H15 (some 43) 38 #[Qf br i i] (fun w=>i=Qo M/\jL w (Qg br) M) 58 (fun v=>.agg #[.bool true,.string ⟨#[]⟩,v]) i M (zhC _ _ _ M (by omega)) (hrw.cellsAt (T:=58) (fz:=(0,0)) (H15.get 1 kr)) kr kr ?_ ?_
    ·intro w12 h0 H16;subst h0;refine rp [.s 3] H16 kr fun gs10 w13 H17=>wX []<|zb<|rRr [.cell 4 58] [3] (.agg #[.bool true,.string ⟨#[]⟩,.slice none 0 0]) (zV w.heap.size w (zaL g b (m,s) l)) H17 kr ?_;refine⟨[],⟨none,0,0,?_,?_⟩,H17.sub (QE _)⟩
     ·unfold zX;rw[if_neg h110,if_pos hl,hl]
     ·rw[<-hM,List.eq_nil_of_length_eq_zero hFill.len];exact SlIn.none _
    ·intro bl cap cur w12 H16 hr;refine rp [.s 4] H16 kr fun gs10 w13 H17=>wX []<|zb<|rRr [.cell 4 58] [4] (.agg #[.bool true,.string ⟨#[]⟩,Qf bl i cap]) (zV w.heap.size w (zaL g b (m,s) l)) H17 kr ?_;have H18:St w.heap.size w w13 ((bl,rwO cur)::((gs1 0).b,kdO g p n c)::(br,rwO C)::((gs1 1).b,fdO m s p2 i c2)::((gs1 2).b,znq (Qf bl i cap))::T):=H17.as kr;refine⟨(bl,rwO cur)::T,⟨Qg bl,i,cap,?_,?_⟩,H18.sub (Qq _ (Qs _ (Qs _ (Qs _ (Qt ..)))))⟩
     ·unfold zX;rw[if_neg h110,if_pos hl,hl]
     ·rw[<-hM];exact hr.slIn (ty:=58) (fz:=(0,0)) (QX ..) (hAll.mono fun e he=>QR _ he) (by omega)
theorem zns (l:Fe):zb7 l:=(Fr.induct znr l).1
def Fr.app {α:Type} :Fr α->Fr α->Fr α
 | .nil,R=>R
 | .cons a k r,R=>.cons a k (r.app R)
theorem zb9 {α:Type}(x:El α)(R:Fr α): ∀M:List (El α),(yE (M++ [x])).app R=(yE M).app (.cons x.a x.k R)
 | []=>rfl
 | y::r=>by simp only[Rm,yE,Fr.app,zb9 x R r]
theorem Fr.app_nil {α:Type} : ∀k:Fr α,k.app .nil=k
 | .nil=>rfl
 | .cons a k r=>by simp only[Fr.app,Fr.app_nil r]
def Fo.sub (p:Fo->Prop):Fo->Prop
 | .nil=>True
 | .cons l s k r=>p k/\r.sub p
theorem Fo.induct {p:Fo->Prop}(h: ∀l:Fo,l.sub p->p l): ∀l:Fo,p l/\l.sub p
 | .nil=>⟨h .nil trivial,trivial⟩
 | .cons l s k r=>⟨h _ ⟨(Fo.induct h k).1,(Fo.induct h r).2⟩,(Fo.induct h k).1,(Fo.induct h r).2⟩
theorem znt (s:Qa):(zQ s).1<0x10000000000000000:=by
 unfold zQ;split
 ·decide
 ·rename_i h
  exact zaz (by rw[zu];omega)
theorem zd7 (g:Nat)(l:Bool)(s:Qa)(n:Nat):yg g l s n<0x10000000000000000:=by
 unfold yg jj;split
 ·split
  ·decide
  ·exact znt s
 ·decide
theorem zd8 {g:Nat}{s:Qa}(h:s.size<=0x800000000000):(ye g s).size<=0x800000000000:=by
 unfold ye;split
 ·exact QU _
 ·exact h
def zhD (g:Nat)(b:Kf)(l:Bool)(s:Qa)(k:Fo)(v:Value)(T:Qb):Prop:=
 ∃(p:Qc) (n c:Nat),v=fld (yg g l s k.len) (ye g s) p n c/\RIn fS T p n (ys g b k)
abbrev itm (l:Bool)(s:Qa)(p:Qc)(n c:Nat):Value:=.agg #[.bool l,.string s,.slice p n c]
def zca (k:Fo):Prop:= ∀(g:Nat) (p:Qc) (n c:Nat) (b:Kf) (l:Bool) (s:Qa) (p2:Qc) (n2 c2:Nat),s.size<=0x800000000000->k.cnt<=1000000->
 FnT Tryz.prog 113 #[knd g p n c,itm l s p2 n2 c2] (fun w=>SlR kS w.heap.size w p n b/\zq w.heap.size w p2 n2 k) (zhD g b l s k)
abbrev ixO (l:Bool)(s:Qa)(p:Qc)(n c:Nat):Obj:=.cells #[.bool l,.string s,.slice p n c] 58 (0,0)
abbrev frO (C:Qd):Obj:=.cells C 89
abbrev fZ (v:Value):Obj:=.cells #[wZ,.string ⟨#[]⟩,v] 89 (0,0)
abbrev ec (x:El (Nat×Qa)):Qd:=#[.int .u64 ((x.a.1:Nat):Int),.string x.a.2,.slice x.p x.n x.c]
def qE (B:Nat)(w0:World)(bq bf bk:Nat)(qO kO:Obj)(p:Qc)(i c:Nat)(row:Qb)(M:List (El (Nat×Qa)))(ok:El (Nat×Qa)->Qb->Prop)(T:Qb):(Nat->Bool)->(Nat->D2.Gh)->World->Prop:=fun L g w=>
 bif L 8 then ∃x T2,ok x T2/\Rw 3 (g 8).cur (g 8).cap (i+1) (zU fS (M++ [x]))/\St B w0 w ((bq,qO)::(bf,fZ (bif L 10 then Qf (g 8).b (i+1) (g 8).cap else .slice p i c))::(bk,kO)::((g 8).b,frO (g 8).cur)::(T2++T))
 else bif L 7 then ∃x T2,ok x T2/\St B w0 w (((g 7).b,frO (ec x))::(bq,qO)::(bf,fZ (.slice p i c))::(bk,kO)::(row++(T2++T)))
 else bif L 6 then ∃x T2,ok x T2/\(g 6).cur=ec x/\St B w0 w ((bq,qO)::(bf,fZ (.slice p i c))::(bk,kO)::(row++(T2++T)))
 else St B w0 w ((bq,qO)::(bf,fZ (.slice p i c))::(bk,kO)::(row++T))
section
variable {B:Nat}{w0:World}{bq bf bk:Nat}{qO kO:Obj}{p:Qc}{i c:Nat}{row:Qb}{M:List (El (Nat×Qa))}{ok:El (Nat×Qa)->Qb->Prop}{T:Qb}{L:Nat->Bool}{g:Nat->D2.Gh}{w w':World}
theorem qE.f (h8:L 8=false)(h:qE B w0 bq bf bk qO kO p i c row M ok T L g w):∃l,St B w0 w l/\(bf,fZ (.slice p i c))∈l:=by
 unfold qE at h;rw[h8]at h;cases h7:L 7 with
 | true=>rw[h7]at h;obtain⟨x,T2,_,h⟩:=h;exact⟨_,h,by simp⟩
 | false=>
  rw[h7]at h;cases h6:L 6 with
  | true=>rw[h6]at h;obtain⟨x,T2,_,_,h⟩:=h;exact⟨_,h,by simp⟩
  | false=>rw[h6]at h;exact⟨_,h,by simp⟩
theorem qE.st (h8:L 8=false)(h7:L 7=false)(h6:L 6=false)(h:qE B w0 bq bf bk qO kO p i c row M ok T L g w):St B w0 w ((bq,qO)::(bf,fZ (.slice p i c))::(bk,kO)::(row++T)):=by
 unfold qE at h;rw[h8,h7,h6]at h;exact h
theorem qE.call (hb:Below w.heap.size w w')(h:qE B w0 bq bf bk qO kO p i c row M ok T L g w):qE B w0 bq bf bk qO kO p i c row M ok T L g w':=by
 unfold qE at h⊢;cases h8:L 8 with
 | true=>rw[h8]at h;obtain⟨x,T2,h1,h2,h⟩:=h;exact⟨x,T2,h1,h2,h.call hb⟩
 | false=>
  rw[h8]at h;cases h7:L 7 with
  | true=>rw[h7]at h;obtain⟨x,T2,h1,h⟩:=h;exact⟨x,T2,h1,h.call hb⟩
  | false=>
   rw[h7]at h;cases h6:L 6 with
   | true=>rw[h6]at h;obtain⟨x,T2,h1,h2,h⟩:=h;exact⟨x,T2,h1,h2,h.call hb⟩
   | false=>rw[h6]at h;exact St.call h hb
end
theorem znu (k:Fo)(hs:k.sub zca):zca k:=by
 intro g p n c b l s p2 n2 c2 hsz hcnt;refine qz [.cell 4 89] 44 Tryz.func113 fun w hpre=>?_;have H0:=St.start w;obtain⟨hK,hF⟩:=hpre;have hn2:=hF.1;have hn3:=hF.2.1;have hlen:=k.len_le;refine rS [.b,.b,.a] H0 kr fun gs1 w1 H1=>?_;clear H0;refine rS [.a] H1 kr fun gs2 w2 H2=>?_;clear H1;refine za kr<|qS (Q:=fun e ρ ww=>e=.normal/\∃(p3:Qc) (n3 c3:Nat) (T:Qb),RIn fS T p3 n3 (ys g b k)/\St w.heap.size w ww (((gs2 0).b,fdO (yg g l s k.len) (ye g s) p3 n3 c3)::((gs1 2).b,fZ (.slice none 0 0))::T)/\Is [(4,Qe (gs1 2).b),(5,Qe (gs2 0).b)] ρ) ?_ ?_
 ·refine rS [.v,.l 0] H2 kr fun gs3 w3 H3=>?_;clear H2;refine zm 0 kr ?_;by_cases h110:g=110
  ·refine rS [itQ (g:Int) 110,.v] H3 kr fun gs4 w4 H4=>zh kr kr ?_;have hv:yg g l s k.len=(jj l s n2).1:=by unfold yg;rw[if_pos h110,hn2]
   have hb:ye g s=⟨#[]⟩:=by unfold ye;rw[if_pos (.inl h110)]
   have hk:ys g b k=.nil:=by unfold ys;rw[h110];rfl
   rw[hv,hb,hk];refine rL [.l 1,.cp (pre:=fun w=>zq w.heap.size w p2 n2 k) (zmC l s p2 n2 c2 k hsz) [] (fun w hb hd=>hF.call hb),.v,.v,.v,.v,.s 3] H4 kr fun gs5 w5 H5=>?_;have H6:St w.heap.size w w5 [((gs1 0).b,kdO g p n c),((gs1 1).b,ixO l s p2 n2 c2),((gs1 2).b,fZ (.slice none 0 0)),((gs2 0).b,fdO (jj l s n2).1 ⟨#[]⟩ none 0 0)]:=H5.as kr;refine⟨rfl,none,0,0,[],RIn.none _ _,?_,zl⟩;exact(H6.sub (Qs _ (Qs _ (Rn _)))).perm (Uz _ _ _)
  ·refine rS [itD (g:Int) 110,.v] H3 kr fun gs4 w4 H4=>zi kr kr ?_;have hv:yg g l s k.len=0:=by unfold yg;rw[if_neg h110]
   rw[hv];clear H3;refine za kr<|qS (Q:=fun e ρ ww=>e=.normal/\St w.heap.size w ww [((gs1 0).b,kdO g p n c),((gs1 1).b,ixO l s p2 n2 c2),((gs1 2).b,fZ (.slice none 0 0)),((gs2 0).b,fZ (.slice none 0 0))]/\Is [(2,Qe (gs1 0).b),(3,Qe (gs1 1).b),(4,Qe (gs1 2).b),(5,Qe (gs2 0).b),(21,.bool (yb g))] ρ) ?_ ?_
   ·by_cases h40:g=40
    ·refine rS [itQ (g:Int) 40,.v] H4 kr fun gs5 w5 H5=>zh kr kr<|zj kr ?_;refine⟨rfl,H5.as kr,?_⟩;subst h40;exact zl
    ·refine rS [itD (g:Int) 40,.v] H4 kr fun gs5 w5 H5=>zi kr kr ?_;have hl:yb g=decide (g=42):=by unfold yb;rw[decide_eq_false h40];rfl
     rw[hl];by_cases h42:g=42
     ·refine rL [itQ (g:Int) 42,.v] H5 kr fun gs6 w6 H6=>?_;refine⟨rfl,H6.as kr,?_⟩;rw[decide_eq_true h42];exact zl
     ·refine rL [itD (g:Int) 42,.v] H5 kr fun gs6 w6 H6=>?_;refine⟨rfl,H6.as kr,?_⟩;rw[decide_eq_false h42];exact zl
   rintro _ _ w5 ⟨rfl,H5,_,rfl⟩;refine wW ?_;clear H4;cases hl:yb g with
   | false=>
    refine zi kr kr ?_;have hb:ye g s=s:=by unfold ye;rw[if_neg (by rw[hl];simp[h110])]
    have hk:ys g b k=.nil:=by unfold ys;rw[hl];rfl
    rw[hb,hk];refine rL [.v,.l 1,.v,.s 3] H5 kr fun gs6 w6 H6=>?_;have H7:St w.heap.size w w6 [((gs1 0).b,kdO g p n c),((gs1 1).b,ixO l s p2 n2 c2),((gs1 2).b,fZ (.slice none 0 0)),((gs2 0).b,fdO 0 s none 0 0)]:=H6.as kr;refine⟨rfl,none,0,0,[],RIn.none _ _,?_,zl⟩;exact(H7.sub (Qs _ (Qs _ (Rn _)))).perm (Uz _ _ _)
   | true=>
    refine zh kr kr ?_;have hb:ye g s=⟨#[]⟩:=by unfold ye;rw[if_pos (.inr hl)]
    have hk:ys g b k=yN k g b 0:=by unfold ys;rw[if_pos hl]
    rw[hb,hk];refine rS [.v,.l 1,.v,.v] H5 kr fun gs6 w6 H6=>zm 1 kr ?_;have H7:St w.heap.size w w6 [((gs1 0).b,kdO g p n c),((gs1 1).b,ixO l s p2 n2 c2),((gs1 2).b,fZ (.slice none 0 0)),((gs2 0).b,fZ (.slice none 0 0))]:=H6.as kr;have H8:St w.heap.size w w6 (((gs2 0).b,fZ (.slice none 0 0))::((gs1 0).b,kdO g p n c)::([]++(((gs1 1).b,ixO l s p2 n2 c2)::((gs1 2).b,fZ (.slice none 0 0))::[]))):=H7.perm (QV (l₁:=[((gs2 0).b,fZ (.slice none 0 0))]) (l₂:=[((gs1 0).b,kdO g p n c),((gs1 1).b,ixO l s p2 n2 c2),((gs1 2).b,fZ (.slice none 0 0))]));clear H5 H6 H7;refine zO kr (fun mz ρ ww=> ∃(i:Nat) (r:Fo) (p3:Qc) (c3:Nat) (row:Qb) (M:List (El (Nat×Qa))) (T:Qb),n2-i=mz/\FoR w.heap.size w p2 i r/\i+r.len=n2/\r.sub zca/\r.cnt<=k.cnt/\(yE M).app (yN r g b i)=yN k g b 0/\RowE fS 89 p3 i c3 row M/\AllE fS T M/\St w.heap.size w ww (((gs2 0).b,fZ (.slice p3 i c3))::((gs1 0).b,kdO g p n c)::(row++(((gs1 1).b,ixO l s p2 n2 c2)::((gs1 2).b,fZ (.slice none 0 0))::T)))/\Is [(2,Qe (gs1 0).b),(3,Qe (gs1 1).b),(4,Qe (gs1 2).b),(5,Qe (gs2 0).b),(25,.slice p2 n2 c2),(26,.int .i64 (n2:Int)),(27,.int .i64 (i:Int))] ρ) (n2-0) ⟨0,k,none,0,[],[],[],rfl,hF.start,by omega,hs,QH _,rfl,.inl ⟨rfl,rfl,rfl,rfl,rfl⟩,(fun _ h=>nomatch h),H8,zl⟩ ?_;clear H8;rintro _ _ w9 ⟨i,r,p3,c3,row,M,T,rfl,hR,hN,hsub,hcn,happ,hRow,hAll,H12,_,rfl⟩;by_cases hi:i<n2
    ·refine rS [itT ((i:Int)<(n2:Int))] H12 kr fun gs8 w10 H13=>?_;clear H12;refine za kr<|zh kr kr<|zj kr<|wW<|za kr<|zm 2 kr ?_;obtain⟨l1,s1,k1,r1,b1,off1,C1,T1,fz1,p1,n1,c1,hr1,hp1,hb1,hh1,hs1,hx1,hz1,hk1,hR1,hN1⟩:=FoR.open hR hN hi;obtain⟨g',p',n',c',hK1,hK2,hg'⟩:=hK.kid g i;subst hr1;simp only[Fo.cnt]at hcn;refine zd [0,1,2,3,4,5] kr kr<|rp [.v,itX 25 27 47 58 3 48 b1 off1 n2 c2 i hp1,.fp (off:=off1+i*3) (n:=3) (W:=#[.bool l1,.string s1,.slice p1 n1 c1]) hh1 hb1 hs1 hx1] H13 kr fun gs9 w11 H14=>wX [3,4,5] ?_;have H15:St w.heap.size w w11 (((gs2 0).b,fZ (.slice p3 i c3))::((gs1 0).b,kdO g p n c)::(row++(((gs1 1).b,ixO l s p2 n2 c2)::((gs1 2).b,fZ (.slice none 0 0))::T))):=H14.as kr;refine zA H15 (some 7) 58 (.agg #[.bool false,.string ⟨#[]⟩,.slice none 0 0]) kr kr kr ?_;intro bq w12 H16;refine rp [.v,.s 0] H16 kr fun gs10 w13 H17=>wX []<|zb ?_;have H18:St w.heap.size w w13 ((bq,ixO l1 s1 p1 n1 c1)::((gs2 0).b,fZ (.slice p3 i c3))::((gs1 0).b,kdO g p n c)::(row++(((gs1 1).b,ixO l s p2 n2 c2)::((gs1 2).b,fZ (.slice none 0 0))::T))):=H17.as kr;clear H13 H14 H15 H16 H17;have hc:=hsub.1 g' p' n' c' (zB g b i).2 l1 s1 p1 n1 c1 hz1 (by omega);refine D2.g_draw0 [0,1,2,3,4,5,6,7,8,9,10] [(some 32,fun _=>.pointer (some ⟨(gs2 0).b,2,none⟩)),(some 33,fun _=>.slice p3 i c3),(some 34,fun _=>knd g p n c),(some 35,fun _=>.int .i64 (i:Int)),(some 36,fun _=>knd g' p' n' c'),(some 37,fun _=>itm l1 s1 p1 n1 c1),(some 38,fun y=>.agg y.cur),(some 39,fun y=>Qf y.b 1 1),(some 40,fun y=>Qf y.b (i+1) y.cap),(some 41,fun _=>.pointer (some ⟨(gs2 0).b,2,none⟩)),(none,fun _=>undef)]
      (qE w.heap.size w bq (gs2 0).b (gs1 0).b (ixO l1 s1 p1 n1 c1) (kdO g p n c) p3 i c3 row M (fun x T2=>x.a=(yg g' l1 s1 k1.len,ye g' s1)/\x.k=ys g' (zB g b i).2 k1/\RIn fS T2 x.p x.n x.k) (((gs1 1).b,ixO l s p2 n2 c2)::((gs1 2).b,fZ (.slice none 0 0))::T)) kr kr kr H18.drew ⟨?_,?_,?_,?_,?_,?_,?_,?_,?_,?_,?_,trivial⟩ ?_
     ·exact D2.gv_vala
     ·refine D2.gv_ld (fun _ _ _ h=>h) 85 (.tmp 32) (fun _=>(gs2 0).b) 2 #[wZ,.string ⟨#[]⟩,.slice p3 i c3] 89 (0,0) (fun g=>by kernel_rfl) (fun g=>by kernel_rfl) (fun L g w hN hp=>?_) kr kr;obtain⟨l',h,hm⟩:=hp.f (hN.post 8 kr);exact(h.own _ hm).2
     ·refine D2.gv_ld (fun _ _ _ h=>h) 139 (.tmp 2) (fun _=>(gs1 0).b) 0 #[.int .u8 ((g:Nat):Int),.slice p n c] 139 (0,0) (fun g=>by kernel_rfl) (fun g=>by kernel_rfl) (fun L g w hN hp=>?_) kr kr;have h4:=hN.post 4 kr;have h6:=hN.2.2.no 4 6 kr h4;have h7:=hN.2.2.no 6 7 kr h6;exact(hp.st (hN.2.2.no 7 8 kr h7) h7 h6).get 2 kr
     ·exact D2.gv_vala
     ·refine D2.gv_cpW (fun _ _ _ h=>h) 147 #[knd g p n c,.int .i64 (i:Int)] (zd6 g p n c i g' p' n' c') (fun L g w hN hp=>?_) (fun L g w w' hN hp hb=>hp.call hb) (fun g w=>by kernel_rfl);have h6:=hN.post 6 kr;have h7:=hN.2.2.no 6 7 kr h6;have h:=hp.st (hN.2.2.no 7 8 kr h7) h7 h6;exact hK1.up h.below h.below.size
     ·refine D2.gv_ld (fun _ _ _ h=>h) 58 (.tmp 7) (fun _=>bq) 0 #[.bool l1,.string s1,.slice p1 n1 c1] 58 (0,0) (fun g=>by kernel_rfl) (fun g=>by kernel_rfl) (fun L g w hN hp=>?_) kr kr;have h6:=hN.post 6 kr;have h7:=hN.2.2.no 6 7 kr h6;exact(hp.st (hN.2.2.no 7 8 kr h7) h7 h6).get 0 kr
     ·refine D2.gv_ft 113 #[knd g' p' n' c',itm l1 s1 p1 n1 c1] hc (fun L g w hN hp=>?_) (fun L gg ww v' T2 w' hN hp hok hT=>?_) (fun g w=>by kernel_rfl)
      ·have h7:=hN.post 7 kr;have h:=hp.st (hN.2.2.no 7 8 kr h7) h7 hN.1;exact⟨hK2.call h.below,hk1.call h.below⟩
      ·obtain⟨q1,q2,q3,rfl,hsl⟩:=hok;have h7:=hN.post 7 kr;have h8:=hN.2.2.no 7 8 kr h7;refine⟨{ cur:=#[.int .u64 ((yg g' l1 s1 k1.len:Nat):Int),.string (ye g' s1),.slice q1 q2 q3] },rfl,?_⟩;have hp:=hp.st h8 h7 hN.1;unfold qE;rw[show D2.put1 L 6 8=false from h8,show D2.put1 L 6 7=false from h7,show D2.put1 L 6 6=true from rfl];exact⟨⟨(yg g' l1 s1 k1.len,ye g' s1),q1,q2,q3,ys g' (zB g b i).2 k1⟩,T2,⟨rfl,rfl,hsl⟩,rfl,(St.addAll hp hT).perm ((QM _ (QM _ (QM _ (Ro row T2 _)))).trans (Ro T2 [(bq,ixO l1 s1 p1 n1 c1),((gs2 0).b,fZ (.slice p3 i c3)),((gs1 0).b,kdO g p n c)] (row++_)).symm)⟩
     ·refine D2.gives_of fun L1 gg ww hp hN=>?_;have h6:=hN.bef 6 kr;have h8:=hN.post 8 kr;unfold qE at hp;rw[h8,hN.1,h6]at hp;obtain⟨x,T2,hx,hcur,HS⟩:=hp;obtain⟨o,ho,hd,hw,hrun⟩:=yc (show opv _ _ 7 (qg [(32,.pointer (some ⟨(gs2 0).b,2,none⟩)),(33,.slice p3 i c3),(34,knd g p n c),(35,.int .i64 (i:Int)),(36,knd g' p' n' c'),(37,itm l1 s1 p1 n1 c1),(38,.agg (gg 6).cur)] _) ww=some (some 39,true,.ok (.value (Qf ww.heap.size 1 1)) (ww.alloc (.cells (ec x) 89))) by rw[hcur];kernel_rfl);refine⟨o,ho,hd,.inr ⟨hw,?_⟩⟩;refine(congrArg (D2.Runs _ _) hrun).mpr ?_;refine⟨{ b:=ww.heap.size },rfl,?_⟩;unfold qE;rw[show D2.put1 L1 7 8=false from h8,show D2.put1 L1 7 7=true from rfl];exact⟨x,T2,hx,HS.alloc _⟩
     ·refine D2.gives_of fun L1 gg ww hp hN=>?_;have h7:=hN.bef 7 kr;have h10:=hN.post 10 kr;unfold qE at hp;rw[hN.1,h7]at hp;obtain⟨x,T2,hx,HS⟩:=hp;obtain⟨o,ho,hd,hw,hop⟩:=zM (show opk _ 8 _=some (some 40,true,ym 85 (.tmp 33) (.tmp 39)) by kernel_rfl);refine⟨o,ho,hd,.inr ⟨hw,?_⟩⟩;rcases hRow with⟨rfl,rfl,rfl,rfl,rfl⟩ | ⟨br,cur,rfl,rfl,hrw⟩
      ·obtain⟨b',cap',cur',w',hrun,HS',hr'⟩:=zbk (K:=3) HS (t:=85) (e:=89) (bytes:=48) (k:=0) (bx:=(gg 7).b) (c:=1) (Y:=ec x) kr hop kr kr rfl rfl (xP rfl) (by omega);rw[hrun];refine⟨{ b:=b',cap:=cap',cur:=cur' },rfl,?_⟩;unfold qE;rw[show D2.put1 L1 8 8=true from rfl,show D2.put1 L1 8 10=false from h10];refine⟨x,T2,hx,hr',?_⟩;exact(HS'.sub (Qq _ (Qt ..))).perm (Rl (l₁:=[(bq,ixO l1 s1 p1 n1 c1),((gs2 0).b,fZ (.slice none 0 0)),((gs1 0).b,kdO g p n c)]))
      ·obtain⟨b',cap',cur',w',hrun,HS',hr'⟩:=zap (K:=3) HS (t:=85) (e:=89) (bytes:=48) (j:=4) (k:=0) (bx:=(gg 7).b) (c:=1) (Y:=ec x) kr hop kr rfl hrw kr rfl rfl (xP rfl) (by omega) (by unfold maxLen;omega);rw[hrun];refine⟨{ b:=b',cap:=cap',cur:=cur' },rfl,?_⟩;unfold qE;rw[show D2.put1 L1 8 8=true from rfl,show D2.put1 L1 8 10=false from h10];refine⟨x,T2,hx,?_,HS'.sub (Qt ..)⟩;rw[vP];exact hr'
     ·exact D2.gv_vala
     ·refine D2.gives_of fun L1 gg ww hp hN=>?_;have h8:=hN.bef 8 kr;unfold qE at hp;rw[h8,hN.1]at hp;obtain⟨x,T2,hx,hr',HS⟩:=hp;obtain⟨o,ho,hd,hw,hop⟩:=zM (show opk _ 10 _=some (none,true,.store 85 (.tmp 41) (.tmp 40)) by kernel_rfl);refine⟨o,ho,hd,.inr ⟨hw,?_⟩⟩;rw[vQ (t:=85) (off:=2) (b:=(gs2 0).b) (C:=#[wZ,.string ⟨#[]⟩,.slice p3 i c3]) (T:=89) (v:=Qf (gg 8).b (i+1) (gg 8).cap) (C':=#[wZ,.string ⟨#[]⟩,Qf (gg 8).b (i+1) (gg 8).cap]) (HS.get 1 kr) kr kr (of_decide_eq_true kr) kr kr kr o hop];refine⟨default,rfl,?_⟩;unfold qE;rw[show D2.put1 L1 10 8=true from h8,show D2.put1 L1 10 10=true from rfl];exact⟨x,T2,hx,hr',HS.store 1 (C:=#[wZ,.string ⟨#[]⟩,.slice p3 i c3]) kr⟩
     ·intro L1 gg w14 hall hp;unfold qE at hp;rw[hall 8 (Qp kr),hall 10 (Qp kr)]at hp;obtain⟨x,T2,⟨hx1,hx2,hx3⟩,hr',HS⟩:=hp;have H19:St w.heap.size w w14 (((gs2 0).b,fZ (Qf (gg 8).b (i+1) (gg 8).cap))::((gs1 0).b,kdO g p n c)::([((gg 8).b,frO (gg 8).cur)]++(((gs1 1).b,ixO l s p2 n2 c2)::((gs1 2).b,fZ (.slice none 0 0))::(T2++T)))):=(HS.sub (Qt ..)).perm (QM _ (QM _ (QM _ (Ro T2 [((gs1 1).b,ixO l s p2 n2 c2),((gs1 2).b,fZ (.slice none 0 0))] T).symm)));refine wW<|rL [itI i 1,.v] H19 kr fun gs11 w15 H20=>?_;show ∃m,_/\_;refine⟨_,(by omega),i+1,r1,_,_,[((gg 8).b,frO (gg 8).cur)],M++ [x],T2++T,rfl,hR1,hN1,hsub.2,(by omega),?_,.inr ⟨_,_,rfl,rfl,hr'⟩,?_,H20.as kr,zl⟩
      ·rw[zb9,hx1,hx2,<-happ,zbX,<-hg']
      ·exact(hAll.mono fun e he=>QZ _ he).snoc (hx3.mono fun e he=>Rd _ he) (by rw[hx1];exact⟨zd7 ..,zd8 hz1⟩)
    ·obtain rfl:=FoR.done hN hi;obtain rfl:i=n2:=by simp only[Fo.len]at hN;omega
     refine rS [itF ((i:Int)<(i:Int))] H12 kr fun gs8 w10 H13=>za kr<|zi kr kr<|zE 1 kr ?_;have hM:yE M=yN k g b 0:=by
      rw[<-happ];exact(Fr.app_nil _).symm
     have H14:St w.heap.size w w10 (((gs2 0).b,fZ (.slice p3 i c3))::((gs1 0).b,kdO g p n c)::(row++(((gs1 1).b,ixO l s p2 i c2)::((gs1 2).b,fZ (.slice none 0 0))::T))):=H13.as kr;refine⟨rfl,p3,i,c3,row++T,?_,?_,zl⟩
     ·rw[<-hM];exact hRow.rIn (by decide) hAll hn3
     ·refine(H14.sub (l':=((gs2 0).b,fZ (.slice p3 i c3))::(row++(((gs1 2).b,fZ (.slice none 0 0))::T))) (Qq _ (Qs _ (Vh (Rn _) (Qt ..))))).perm ?_;exact QM _ (Rl).symm
 rintro _ _ w5 ⟨rfl,p3,n3,c3,T,hT,H5,_,rfl⟩;refine wW<|rS [.l 0,.s 1] H5 kr fun gs6 w6 H6=>rRr [.cell 4 89] [1] (fld (yg g l s k.len) (ye g s) p3 n3 c3) (zV w.heap.size w (zhD g b l s k)) H6 kr ?_;have H7:St w.heap.size w w6 (((gs2 0).b,fdO (yg g l s k.len) (ye g s) p3 n3 c3)::((gs1 2).b,fdO (yg g l s k.len) (ye g s) p3 n3 c3)::T):=H6.as kr;exact⟨T,⟨p3,n3,c3,rfl,hT⟩,H7.sub (Qs _ (Qt ..))⟩
theorem znv (k:Fo):zca k:=(Fo.induct znu k).1
abbrev kR (C:Qd):Obj:=.cells C 139
structure Sk where
 g:Nat
 p:Qc
 n:Nat
 c:Nat
 row:Qb
 M:List (El Nat)
def Sk.el (e:Sk):El Nat:=⟨e.g,e.p,e.n,e.c,yE e.M⟩
def opE:List Sk->List (El Nat)
 | []=>[]
 | e::r=>opE r++ [e.el]
def yH:List Sk->Qb
 | []=>[]
 | e::r=>e.row++yH r
def stM (S:List Sk):List (Nat×Kf):=S.map fun e=>(e.g,yE e.M)
def Bot:List Sk->Prop
 | []=>False
 | e::r=>(r=[]/\e.g=40)\/Bot r
structure kT (T:Qb)(m:Nat)(e:Sk):Prop where
 row:RowE kS 139 e.p e.n e.c e.row e.M
 all:AllE kS T e.M
 le:e.n<=m
theorem kT.mono {T T':Qb}{m m':Nat}{e:Sk}(h:kT T m e)(hT: ∀x∈T,x∈T')(hm:m<=m'):kT T' m' e:=⟨h.row,h.all.mono hT,RZ h.le hm⟩
theorem zd9: ∀S:List Sk,(opE S).length=S.length
 | []=>rfl
 | e::r=>by simp only[opE,Qx,zd9 r,Rh,Ui]
theorem uD (e:Sk)(r:List Sk):zU kS (opE (e::r))=zU kS (opE r)++ [.int .u8 ((e.g:Nat):Int),.slice e.p e.n e.c]:=by
 show zU kS (opE r++ [e.el])=_;rw[vP];rfl
theorem zcb (r:List Sk):(zU kS (opE r)).length=r.length*2:=by rw[xY,zd9];rfl
theorem Rw.pop {K:Nat}{cur:Qd}{cap n:Nat}{X Z:List Value}(h:Rw K cur cap (n+1) (X++Z))(hX:X.length=n*K):Rw K cur cap n X:=by
 have ht:=h.take;refine⟨hX,by have:=h.le;omega,h.max,?_,h.sz⟩;have e:(cur.toList.take ((n+1)*K)).take (n*K)=X:=by rw[ht,VK,hX,V7,List.take_zero,QI,Qy (by omega)]
 rw[List.take_take,Nat.min_eq_left (by rw[Nat.succ_mul];omega)]at e;exact e
theorem Rw.top {cur:Qd}{cap:Nat}{e:Sk}{r:List Sk}(h:Rw 2 cur cap (r.length+1) (zU kS (opE (e::r)))):
 0+r.length*2+2<=cur.size/\cur.extract (0+r.length*2) (0+r.length*2+2)=#[.int .u8 ((e.g:Nat):Int),.slice e.p e.n e.c]/\cur[0+r.length*2]? =some (.int .u8 ((e.g:Nat):Int))/\cur[0+r.length*2+1]? =some (.slice e.p e.n e.c):=by
 rw[uD]at h;have hl:=zcb r;rw[Q9];have h0:cur[r.length*2]? =some (.int .u8 ((e.g:Nat):Int)):=by
  rw[h.get _ (by omega),Uo (by omega),hl,V7];rfl
 have h1:cur[r.length*2+1]? =some (.slice e.p e.n e.c):=by
  rw[h.get _ (by omega),Uo (by omega),hl,Nat.add_sub_cancel_left];rfl
 have h2:=exE (C:=cur) (o:=r.length*2) (x:=[.int .u8 ((e.g:Nat):Int),.slice e.p e.n e.c]) (K:=2) rfl (fun j hj=>by
  rcases j with _|_|j
  ·exact h0
  ·exact h1
  ·omega) (by decide)
 exact⟨h2.1,h2.2,h0,h1⟩
def zK:Qd:=#[.int .u8 0,.slice none 0 0]
def jB (B:Nat)(w0:World)(bd b2 bo:Nat)(dO bO:Obj)(kv:Value)(cur:Qd)(N:Nat)(en:Nat)(row:Qb)(xs:List Value)(T:Qb):(Nat->Bool)->(Nat->D2.Gh)->World->Prop:=fun L g w=>
 bif L 8 then (L 9=true->(g 9).b=(g 8).b)/\Rw 2 (g 8).cur (g 8).cap (en+1) (xs++zK.toList)/\St B w0 w ((bd,dO)::(b2,bO)::(bo,kR (bif L 13 then putA cur (0+N*2+1) (Qf (g 8).b (en+1) (g 8).cap) else cur))::((g 8).b,kR (bif L 10 then putA (g 8).cur (0+en*2) kv else (g 8).cur))::T)
 else bif L 7 then St B w0 w (((g 7).b,kR zK)::(bd,dO)::(b2,bO)::(bo,kR cur)::(row++T))
 else St B w0 w ((bd,dO)::(b2,bO)::(bo,kR cur)::(row++T))
section
variable {B:Nat}{w0:World}{bd b2 bo:Nat}{dO bO:Obj}{kv:Value}{cur:Qd}{N en:Nat}{row:Qb}{xs:List Value}{T:Qb}{L:Nat->Bool}{g:Nat->D2.Gh}{w:World}
theorem jB.st (h8:L 8=false)(h:jB B w0 bd b2 bo dO bO kv cur N en row xs T L g w):∃l,St B w0 w l/\(bd,dO)∈l/\(bo,kR cur)∈l:=by
 unfold jB at h;rw[h8]at h;cases h7:L 7 with
 | true=>rw[h7]at h;exact⟨_,h,by simp,by simp⟩
 | false=>rw[h7]at h;exact⟨_,h,by simp,by simp⟩
end
noncomputable abbrev znw:Code:=zy (zH (zy (zy (zy (qR (zy (zz Tryz.f98)))))))
noncomputable abbrev zhE:Code:=qR (zH (zy (zy (qR (qR znw)))))
def zhF (B:Nat)(w0:World)(form:Qa)(b2 bd i:Nat)(target:List (Nat×Kf))(mz:Nat)(ρ:Env)(ww:World):Prop:=
 ∃(S:List Sk) (N g:Nat) (p:Qc) (n c:Nat) (k:Kf) (T:Qb) (bo cap:Nat) (cur:Qd),S.length=mz/\N=S.length/\Bot S/\N<=5/\(∀e∈S,kT T i e)/\RIn kS T p n k/\kM g k (stM S)=target/\Rw 2 cur cap N (zU kS (opE S))/\
  St B w0 ww ((bd,kdO g p n c)::(b2,kdO 0 none 0 0)::(bo,kR cur)::(yH S++T))/\
  Is [(0,.string form),(2,Qe b2),(3,.bool false),(4,Qf bo N cap),(6,Qe bd),(16,.int .i64 (form.size:Int)),(17,.int .i64 (i:Int))] ρ
def znx (B:Nat)(w0:World)(form:Qa)(b2 i:Nat)(target:List (Nat×Kf))(ρ:Env)(ww:World):Prop:=
 ∃(S:List Sk) (N:Nat) (T:Qb) (bo cap:Nat) (cur:Qd),N=S.length/\Bot S/\N<=5/\(∀e∈S,kT T i e)/\stM S=target/\Rw 2 cur cap N (zU kS (opE S))/\
  St B w0 ww ((b2,kdO 0 none 0 0)::(bo,kR cur)::(yH S++T))/\
  Is [(0,.string form),(2,Qe b2),(3,.bool false),(4,Qf bo N cap),(16,.int .i64 (form.size:Int)),(17,.int .i64 (i:Int))] ρ
theorem zhG {Q:Exit->Env->World->Prop}{B:Nat}{w0:World}(form:Qa)(b2 bd i:Nat)(target:List (Nat×Kf))(hi:i<=40)(m0:Nat)(ρ0:Env)(ww0:World)(h0:zhF B w0 form b2 bd i target m0 ρ0 ww0)
 (hQ: ∀(S:List Sk) (N:Nat) (T:Qb) (bo cap:Nat) (cur:Qd) (ρ:Env) (ww:World),N=S.length->Bot S->N<=5->(∀e∈S,kT T (i+1) e)->stM S=target->Rw 2 cur cap N (zU kS (opE S))->
  St B w0 ww ((b2,kdO 0 none 0 0)::(bo,kR cur)::(yH S++T))->Is [(0,.string form),(2,Qe b2),(3,.bool false),(4,Qf bo N cap),(16,.int .i64 (form.size:Int)),(17,.int .i64 (i:Int))] ρ->Q (.exit 1) ρ ww):
 WP Tryz.prog 101 (zy (zy (zy zhE))) Q ρ0 ww0:=by
 refine zm 3 kr<|zO kr (zhF B w0 form b2 bd i target) m0 h0 ?_;clear h0;rintro _ _ w1 ⟨S,N,g,p,n,c,k,T,bo,cap,cur,rfl,rfl,hBot,hN5,hS,hRI,hpush,hRw,H1,_,rfl⟩;rcases S with _ | ⟨e,r⟩
 ·exact hBot.elim
 have he:=hS e (QX ..);refine zm 4 kr ?_;have hN5':r.length+1<=5:=hN5;refine rS [.v,.v,.E (.int .i64 (Qz.wrap (((r.length+1:Nat):Int)-1))) (.int .i64 (r.length:Int)) (zf (by rw[show (((r.length+1:Nat):Int)-1)=(r.length:Int) by omega];exact jy (by omega))),.v] H1 kr fun gs2 w2 H2=>?_;clear H1;refine za kr ?_;have H3:St B w0 w2 ((bd,kdO g p n c)::(b2,kdO 0 none 0 0)::(bo,kR cur)::(e.row++(yH r++T))):=by
  rw[<-QD];exact H2
 have htop:=hRw.top;refine D2.g_draw0 [0,1,2,3,4,5,6,7,8,9,10,11,12,13] [(some 69,fun _=>Qf bo (r.length+1) cap),(some 70,fun _=>.int .i64 (r.length:Int)),(some 71,fun _=>.pointer (some ⟨bo,0+r.length*2,none⟩)),(some 72,fun _=>.pointer (some ⟨bo,0+r.length*2+1,none⟩)),(some 73,fun _=>.slice e.p e.n e.c),(some 74,fun _=>knd g p n c),(some 75,fun _=>.int .i64 ((e.n:Nat):Int)),(some 76,fun y=>Qf y.b 1 1),(some 77,fun y=>Qf y.b (e.n+1) y.cap),(some 78,fun y=>.pointer (some ⟨y.b,0+e.n*2,none⟩)),(none,fun _=>undef),(some 79,fun _=>.pointer (some ⟨bo,0+r.length*2,none⟩)),(some 80,fun _=>.pointer (some ⟨bo,0+r.length*2+1,none⟩)),(none,fun _=>undef)]
  (jB B w0 bd b2 bo (kdO g p n c) (kdO 0 none 0 0) (knd g p n c) cur r.length e.n e.row (zU kS e.M) (yH r++T)) kr kr kr H3.drew ⟨?_,?_,?_,?_,?_,?_,?_,?_,?_,?_,?_,?_,?_,?_,trivial⟩ ?_
 ·exact D2.gv_vala
 ·exact D2.gv_vala
 ·exact D2.gv_op (fun _ _ _ h=>h) _ (fun g=>by kernel_rfl) (fun g o w ho=>qX (kd:=.i64) (t:=137) (e:=139) (K:=2) (bytes:=32) kr (x:=(.tmp 69)) (y:=(.tmp 70)) bo 0 (r.length+1) cap r.length rfl ho kr kr (by omega) w)
 ·exact D2.gv_vala
 ·refine D2.gv_opW (fun _ _ _ h=>h) (.load 137 (.tmp 72)) (fun g=>by kernel_rfl) (fun L g o w hN hp ho=>?_);obtain⟨l,h,_,hm⟩:=hp.st (hN.post 8 kr);exact zfS (h.own _ hm).2 kr kr htop.2.2.2 o ho
 ·refine D2.gv_ld (fun _ _ _ h=>h) 139 (.tmp 6) (fun _=>bd) 0 #[.int .u8 ((g:Nat):Int),.slice p n c] 139 (0,0) (fun g=>by kernel_rfl) (fun g=>by kernel_rfl) (fun L g w hN hp=>?_) kr kr;obtain⟨l,h,hm,_⟩:=hp.st (hN.post 8 kr);exact(h.own _ hm).2
 ·exact D2.gv_vala
 ·refine D2.gives_of fun L1 gg ww hp hN=>?_;have h8:=hN.post 8 kr;unfold jB at hp;rw[h8,hN.1]at hp;obtain⟨o,ho,hd,hw,hrun⟩:=yc (show opv _ _ 7 _ ww=some (some 76,true,.ok (.value (Qf ww.heap.size 1 1)) (ww.alloc (.cells zK 139))) by kernel_rfl);refine⟨o,ho,hd,.inr ⟨hw,?_⟩⟩;refine(congrArg (D2.Runs _ _) hrun).mpr ?_;refine⟨{ b:=ww.heap.size },rfl,?_⟩;unfold jB;rw[show D2.put1 L1 7 8=false from h8,show D2.put1 L1 7 7=true from rfl];exact St.alloc hp _
 ·refine D2.gives_of fun L1 gg ww hp hN=>?_;have h7:=hN.bef 7 kr;have h9:=hN.post 9 kr;have h10:=hN.post 10 kr;have h13:=hN.post 13 kr;unfold jB at hp;rw[hN.1,h7]at hp;obtain⟨o,ho,hd,hw,hop⟩:=zM (show opk _ 8 _=some (some 77,true,ym 137 (.tmp 73) (.tmp 76)) by kernel_rfl);refine⟨o,ho,hd,.inr ⟨hw,?_⟩⟩;have hen:=he.le;obtain⟨eg,ep,en,ec,erow,eM⟩:=e;rcases he.row with⟨rfl,rfl,rfl,rfl,rfl⟩ | ⟨br,curr,rfl,rfl,hrw⟩
  ·obtain⟨b',cap',cur',w',hrun,HS',hr'⟩:=zbk (K:=2) hp (t:=137) (e:=139) (bytes:=32) (k:=0) (bx:=(gg 7).b) (c:=1) (Y:=zK) kr hop kr kr rfl rfl (xP rfl) (by omega);rw[hrun];refine⟨{ b:=b',cap:=cap',cur:=cur' },rfl,?_⟩;unfold jB;rw[show D2.put1 L1 8 8=true from rfl,show D2.put1 L1 8 10=false from h10,show D2.put1 L1 8 13=false from h13];refine⟨fun hh=>absurd (h9.symm.trans hh) (by decide),hr',?_⟩;exact(HS'.sub (Qq _ (Qt ..))).perm (Rl (l₁:=[(bd,kdO g p n c),(b2,kdO 0 none 0 0),(bo,kR cur)]))
  ·obtain⟨b',cap',cur',w',hrun,HS',hr'⟩:=zap (K:=2) hp (t:=137) (e:=139) (bytes:=32) (j:=4) (k:=0) (bx:=(gg 7).b) (c:=1) (Y:=zK) kr hop kr rfl hrw kr rfl rfl (xP rfl) (by omega) (by unfold maxLen;omega);rw[hrun];refine⟨{ b:=b',cap:=cap',cur:=cur' },rfl,?_⟩;unfold jB;rw[show D2.put1 L1 8 8=true from rfl,show D2.put1 L1 8 10=false from h10,show D2.put1 L1 8 13=false from h13];exact⟨fun hh=>absurd (h9.symm.trans hh) (by decide),hr',HS'.sub (Qt ..)⟩
 ·refine D2.gives_of fun L1 gg ww hp hN=>?_;have h8:=hN.bef 8 kr;obtain⟨o,ho,hd,hw,hop⟩:=zM (show opk _ 9 _=some (some 78,true,.indexAddr 137 (.tmp 77) (.tmp 75)) by kernel_rfl);refine⟨o,ho,hd,.inr ⟨hw,?_⟩⟩;rw[qX (kd:=.i64) (t:=137) (e:=139) (K:=2) (bytes:=32) kr (x:=(.tmp 77)) (y:=(.tmp 75)) (gg 8).b 0 (e.n+1) (gg 8).cap e.n rfl hop kr kr (by omega) ww];refine⟨{ b:=(gg 8).b },rfl,?_⟩;unfold jB at hp⊢;rw[h8]at hp;rw[show D2.put1 L1 9 8=true from h8];exact⟨fun _=>rfl,hp.2.1,hp.2.2⟩
 ·refine D2.gives_of fun L1 gg ww hp hN=>?_;have h8:=hN.bef 8 kr;have h9:=hN.bef 9 kr;unfold jB at hp;rw[h8,hN.1]at hp;obtain⟨hg9,hr',HS⟩:=hp;have hg:=hg9 h9;have hle:=hr'.putA (0+e.n*2) (knd g p n c) (by show 0+e.n*2+2<=(e.n+1)*2;omega);obtain⟨o,ho,hd,hw,hop⟩:=zM (show opk _ 10 _=some (none,true,.store 139 (.tmp 78) (.tmp 74)) by kernel_rfl);refine⟨o,ho,hd,.inr ⟨hw,?_⟩⟩;rw[vQ (t:=139) (off:=0+e.n*2) (b:=(gg 8).b) (C:=(gg 8).cur) (T:=139) (v:=knd g p n c) (C':=putA (gg 8).cur (0+e.n*2) (knd g p n c)) (HS.get 3 kr) kr kr hle.1 rfl (by rw[<-hg];kernel_rfl) kr o hop];refine⟨default,rfl,?_⟩;unfold jB;rw[show D2.put1 L1 10 8=true from h8,show D2.put1 L1 10 10=true from rfl];exact⟨fun h=>hg9 h,hr',HS.store 3 (C:=(gg 8).cur) kr⟩
 ·exact D2.gv_op (fun _ _ _ h=>h) _ (fun g=>by kernel_rfl) (fun g o w ho=>qX (kd:=.i64) (t:=137) (e:=139) (K:=2) (bytes:=32) kr (x:=(.tmp 69)) (y:=(.tmp 70)) bo 0 (r.length+1) cap r.length rfl ho kr kr (by omega) w)
 ·exact D2.gv_vala
 ·refine D2.gives_of fun L1 gg ww hp hN=>?_;have h8:=hN.bef 8 kr;unfold jB at hp;rw[h8,hN.1]at hp;obtain⟨hg9,hr',HS⟩:=hp;have hle:=hRw.putA (0+r.length*2+1) (Qf (gg 8).b (e.n+1) (gg 8).cap) (by show 0+r.length*2+1+1<=(r.length+1)*2;omega);obtain⟨o,ho,hd,hw,hop⟩:=zM (show opk _ 13 _=some (none,true,.store 137 (.tmp 80) (.tmp 77)) by kernel_rfl);refine⟨o,ho,hd,.inr ⟨hw,?_⟩⟩;rw[vQ (t:=137) (off:=0+r.length*2+1) (b:=bo) (C:=cur) (T:=139) (v:=Qf (gg 8).b (e.n+1) (gg 8).cap) (C':=putA cur (0+r.length*2+1) (Qf (gg 8).b (e.n+1) (gg 8).cap)) (HS.get 2 kr) kr kr hle.1 rfl kr kr o hop];refine⟨default,rfl,?_⟩;unfold jB;rw[show D2.put1 L1 13 8=true from h8,show D2.put1 L1 13 13=true from rfl];exact⟨fun h=>hg9 h,hr',HS.store 2 (C:=cur) kr⟩
 ·intro L1 gg w14 hall hp;unfold jB at hp;rw[hall 8 (Qp kr),hall 10 (Qp kr),hall 13 (Qp kr)]at hp;obtain⟨_,hr',H4⟩:=hp;generalize hb':(gg 8).b=b';generalize hcap':(gg 8).cap=cap';generalize hcur':(gg 8).cur=cur';rw[hb',hcur',hcap']at H4;rw[hcur',hcap']at hr';have hn:=he.row.len (by decide);have hMl:(zU kS e.M).length=0+e.n*2:=by rw[xY,hn,Q9];rfl
  have hnew:Rw 2 (putA cur' (0+e.n*2) (knd g p n c)) cap' (e.n+1) (zU kS (e.M++ [⟨g,p,n,c,k⟩])):=by
   have h1:=(hr'.putA (0+e.n*2) (knd g p n c) (by show 0+e.n*2+2<=(e.n+1)*2;omega)).2;have h2:=zdk (X:=zU kS e.M) (Z:=zK.toList) (V:=(knd g p n c).cells.toList) hMl rfl;rw[vP];exact h2▸h1
  obtain⟨eg,ep,en,ec,erow,eM⟩:=e;have hop:Rw 2 (putA cur (0+r.length*2+1) (Qf b' (en+1) cap')) cap (r.length+1) (zU kS (opE (⟨eg,Qg b',en+1,cap',[(b',kR (putA cur' (0+en*2) (knd g p n c)))],eM++ [⟨g,p,n,c,k⟩]⟩::r))):=by
   have h1:=(hRw.putA (0+r.length*2+1) (Qf b' (en+1) cap') (by show 0+r.length*2+1+1<=(r.length+1)*2;omega)).2;have hl:=zcb r;have h2:=zdk (X:=zU kS (opE r)++ [.int .u8 (eg:Int)]) (Z:=[.slice ep en ec]) (V:=(Qf b' (en+1) cap').cells.toList) (off:=0+r.length*2+1) (by rw[Qx,hl];simp) rfl;rw[uD];rw[uD,show zU kS (opE r)++ [.int .u8 (eg:Int),.slice ep en ec]=(zU kS (opE r)++ [.int .u8 (eg:Int)])++ [.slice ep en ec] by simp]at h1;have h3:(zU kS (opE r)++ [.int .u8 (eg:Int)])++(Qf b' (en+1) cap').cells.toList=zU kS (opE r)++ [.int .u8 (eg:Int),Qf b' (en+1) cap']:=by
    rw[QD];rfl
   exact h3▸(h2▸h1)
  have hok:kT T (i+1) ⟨eg,Qg b',en+1,cap',[(b',kR (putA cur' (0+en*2) (knd g p n c)))],eM++ [⟨g,p,n,c,k⟩]⟩:=
   ⟨.inr ⟨_,_,rfl,rfl,hnew⟩,he.all.snoc hRI trivial,Nat.succ_le_succ he.le⟩
  have htop':=hop.top;have hpush':kM g k ((eg,yE eM)::stM r)=target:=hpush;unfold kM at hpush';rw[<-zhm ⟨g,p,n,c,k⟩]at hpush';have hrc:=hop.le;have hBr:eg=42->Bot r:=fun h42=>by
   rcases hBot with⟨_,h⟩|h
   ·exact absurd (h.symm.trans h42) (by decide)
   ·exact h
  have hin: ∀x∈T,x∈(b',kR (putA cur' (0+en*2) (knd g p n c)))::T:=fun x hx=>QR _ hx;refine wW<|za kr ?_;by_cases h42:eg=42
  ·rw[if_pos h42]at hpush';refine rS [.v,.v,itX 81 82 137 139 2 32 bo 0 (r.length+1) cap r.length rfl,.v,.ls 2 (C:=putA cur (0+r.length*2+1) (Qf b' (en+1) cap')) (off:=0+r.length*2) (v:=.int .u8 (eg:Int)) htop'.2.2.1,.E (.bool (!((eg:Int)==42))) (.bool false) (zc (by rw[h42];rfl))] H4 kr fun gs5 w15 H5=>zi kr kr<|zj kr<|wW<|dL [.v,.v,itX 87 88 137 139 2 32 bo 0 (r.length+1) cap r.length rfl,.lp 2 (C:=putA cur (0+r.length*2+1) (Qf b' (en+1) cap')) (off:=0+r.length*2) (n:=2) (W:=#[.int .u8 (eg:Int),Qf b' (en+1) cap']) htop'.1 htop'.2.1,.v,.v,.o (ins:=[((.tmp 91),Qf bo (r.length+1) cap),((.tmp 92),.int .i64 (r.length:Int))]) (v:=Qf bo r.length cap) (fun ρ o w ho hi2=>zfI (kd:=.i64) (t:=137) (e:=139) (size:=2) (bytes:=32) kr (x:=(.tmp 91)) (y:=(.tmp 92)) bo (r.length+1) cap r.length ho hi2.1 hi2.2.1 (by omega) w),.s 0,.v] H5 kr fun w16 H6=>?_;have H7:St B w0 w16 ((bd,kdO eg (Qg b') (en+1) cap')::(b2,kdO 0 none 0 0)::(bo,kR (putA cur (0+r.length*2+1) (Qf b' (en+1) cap')))::([(b',kR (putA cur' (0+en*2) (knd g p n c)))]++(yH r++T))):=H6.as kr;show ∃m,_/\_;refine⟨r.length,Nat.lt_succ_self _,r,r.length,eg,_,_,_,yE (eM++ [⟨g,p,n,c,k⟩]),(b',kR (putA cur' (0+en*2) (knd g p n c)))::T,bo,cap,_,rfl,rfl,hBr h42,by omega,fun x hx=>(hS x (QR _ hx)).mono hin (QH _),?_,hpush',Rw.pop (uD _ _▸hop) (zcb r),H7.perm (QM _ (QM _ (QM _ (Ro (yH r) [(b',kR (putA cur' (0+en*2) (knd g p n c)))] T)))),zl⟩;have:=hok.row.rIn (T:=T) (by decide) hok.all (by have:=hok.le;show en+1<=1000;simp only at this;omega);exact this
  ·rw[if_neg h42]at hpush';refine rS [.v,.v,itX 81 82 137 139 2 32 bo 0 (r.length+1) cap r.length rfl,.v,.ls 2 (C:=putA cur (0+r.length*2+1) (Qf b' (en+1) cap')) (off:=0+r.length*2) (v:=.int .u8 (eg:Int)) htop'.2.2.1,.E (.bool (!((eg:Int)==42))) (.bool true) (zc (by rw[beq_eq_false_iff_ne.2 (by omega)];rfl))] H4 kr fun gs5 w15 H5=>zh kr kr<|zE 1 kr ?_;show Q (.exit 1) _ _;refine hQ (⟨eg,Qg b',en+1,cap',[(b',kR (putA cur' (0+en*2) (knd g p n c)))],eM++ [(⟨g,p,n,c,k⟩:El Nat)]⟩::r) (r.length+1) T bo cap _ _ _ rfl ?_ hN5' ?_ hpush' hop ?_ zl
   ·rcases hBot with⟨h1,h2⟩|h
    ·exact .inl ⟨h1,h2⟩
    ·exact .inr h
   ·intro x hx;rcases Uj.1 hx with rfl | hx
    ·exact hok
    ·exact(hS x (QR _ hx)).mono (fun _ h=>h) (Nat.le_succ _)
   ·have H7:St B w0 w15 ((bd,kdO g p n c)::(b2,kdO 0 none 0 0)::(bo,kR (putA cur (0+r.length*2+1) (Qf b' (en+1) cap')))::([(b',kR (putA cur' (0+en*2) (knd g p n c)))]++(yH r++T))):=H5.as kr;exact H7.sub (Qt ..)
abbrev zhH (form:Qa)(i:Nat)(b2 bo N cap:Nat):List (Nat×Value):=[(0,.string form),(2,Qe b2),(3,.bool false),(4,Qf bo N cap),(16,.int .i64 (form.size:Int)),(17,.int .i64 (i:Int))]
theorem zny {Q:Exit->Env->World->Prop}{B:Nat}{w0:World}(form:Qa)(b2 i:Nat)(hi40:i<=40)(hi:i<form.size)(hz:form.size<=40)(S:List Sk)(N:Nat)(T:Qb)(bo cap:Nat)(cur:Qd)(hN:N=S.length)(hBot:Bot S)(hN5:N<=5)(hS: ∀e∈S,kT T i e)(hRw:Rw 2 cur cap N (zU kS (opE S)))
 (ρ0:Env) (ww0:World) (H0:St B w0 ww0 ((b2,kdO 0 none 0 0)::(bo,kR cur)::(yH S++T))) (hIs:Is (zhH form i b2 bo N cap) ρ0)
 (hbad:jX (by_ form i) (stM S)=none-> ∀(ρ:Env) (ww:World) (bd:Nat) (o:Obj) (l:Qb),St B w0 ww ((bd,o)::(b2,kdO 0 none 0 0)::l)->ρ 3=.bool false->ρ 2=Qe b2->Q .ret ρ ww)
 (hQ: ∀(S':List Sk) (N:Nat) (T:Qb) (bo cap:Nat) (cur:Qd) (ρ:Env) (ww:World),N=S'.length->Bot S'->N<=5->(∀e∈S',kT T (i+1) e)->jX (by_ form i) (stM S)=some (stM S')->Rw 2 cur cap N (zU kS (opE S'))->
  St B w0 ww ((b2,kdO 0 none 0 0)::(bo,kR cur)::(yH S'++T))->Is (zhH form i b2 bo N cap) ρ->Q (.exit 1) ρ ww):
 WP Tryz.prog 101 zhE Q ρ0 ww0:=by
 obtain⟨_,rfl⟩:=hIs;rcases S with _|⟨e,r⟩
 ·exact hBot.elim
 obtain rfl:N=r.length+1:=hN;have he:=hS e (QX ..);have htop:=hRw.top;obtain⟨c,hc⟩:∃c,by_ form i=c:=⟨_,rfl⟩
 have hrc:=hRw.le;refine rS [.v,.v] H0 kr fun gs1 w1 H1=>zd [0,1,2,3,4,5] kr kr<|rp [.v,.v,.oe (ins:=[((.tmp 20),.string form),((.tmp 21),.int .i64 (i:Int))]) (v:=.int .u8 ((by_ form i:Nat):Int)) (v':=.int .u8 (c:Int)) (fun ρ o w ho hi2=>yy (t:=9) (kd:=.i64) kr (x:=(.tmp 20)) (y:=(.tmp 21)) form i ho hi2.1 hi2.2.1 hi w) (by rw[hc]),.v] H1 kr fun gs2 w2 H2=>wX [4,5] ?_;have H3:St B w0 w2 ((b2,kdO 0 none 0 0)::(bo,kR cur)::(yH (e::r)++T)):=H2.as kr;refine zA H3 (some 6) 139 (.agg #[.int .u8 0,.slice none 0 0]) kr kr kr ?_;intro bd w3 H4;refine rp [.s 0] H4 kr fun gs3 w4 H5=>wX []<|zb<|za kr<|rS [.v,.v,.E (.int .i64 (Qz.wrap (((r.length+1:Nat):Int)-1))) (.int .i64 (r.length:Int)) (zf (by rw[show (((r.length+1:Nat):Int)-1)=(r.length:Int) by omega];exact jy (by omega))),.v] H5 kr fun gs4 w5 H6=>rS [.v,.l 0] H6 kr fun gs5 w6 H7=>zm 2 kr ?_;have H8:St B w0 w6 ((bd,kdO c none 0 0)::(b2,kdO 0 none 0 0)::(bo,kR cur)::(yH (e::r)++T)):=H7.as kr;clear H0 H1 H2 H3 H4 H5 H6 H7;refine zt [0,2,3,4,5,6,7,16,17,28] fun ρ1=>za kr ?_;obtain⟨lb,hlb⟩:∃lb,decide (c=110\/c=104\/c=97\/c=115\/c=98)=lb:=⟨_,rfl⟩
 refine qS (Q:=fun ex ρ ww=>ex=.normal/\St B w0 ww ((bd,kdO c none 0 0)::(b2,kdO 0 none 0 0)::(bo,kR cur)::(yH (e::r)++T))/\Is [(0,.string form),(2,Qe b2),(3,.bool false),(4,Qf bo (r.length+1) cap),(6,Qe bd),(7,.int .i64 (r.length:Int)),(16,.int .i64 (form.size:Int)),(17,.int .i64 (i:Int)),(28,.int .u8 (c:Int)),(30,.bool lb)] ρ) ?_ ?_
 ·by_cases h110:c=110
  ·refine rS [itQ (c:Int) 110,.v] H8 kr fun gsa110 wa110 Ha110=>zh kr kr<|zj kr ?_;obtain rfl:lb=true:=by rw[<-hlb];exact decide_eq_true (by omega)
   exact⟨rfl,Ha110.as kr,zl⟩
  ·refine rS [itD (c:Int) 110,.v] H8 kr fun gsb110 wb110 Hb110=>zi kr kr ?_;by_cases h104:c=104
   ·refine rS [itQ (c:Int) 104,.v] Hb110 kr fun gsa104 wa104 Ha104=>zh kr kr<|zj kr ?_;obtain rfl:lb=true:=by rw[<-hlb];exact decide_eq_true (by omega)
    exact⟨rfl,Ha104.as kr,zl⟩
   ·refine rS [itD (c:Int) 104,.v] Hb110 kr fun gsb104 wb104 Hb104=>zi kr kr ?_;by_cases h97:c=97
    ·refine rS [itQ (c:Int) 97,.v] Hb104 kr fun gsa97 wa97 Ha97=>zh kr kr<|zj kr ?_;obtain rfl:lb=true:=by rw[<-hlb];exact decide_eq_true (by omega)
     exact⟨rfl,Ha97.as kr,zl⟩
    ·refine rS [itD (c:Int) 97,.v] Hb104 kr fun gsb97 wb97 Hb97=>zi kr kr ?_;by_cases h115:c=115
     ·refine rS [itQ (c:Int) 115,.v] Hb97 kr fun gsa115 wa115 Ha115=>zh kr kr<|zj kr ?_;obtain rfl:lb=true:=by rw[<-hlb];exact decide_eq_true (by omega)
      exact⟨rfl,Ha115.as kr,zl⟩
     ·refine rS [itD (c:Int) 115,.v] Hb97 kr fun gsb115 wb115 Hb115=>zi kr kr ?_;by_cases h98:c=98
      ·refine rL [itQ (c:Int) 98,.v] Hb115 kr fun gsa98 wa98 Ha98=>?_;obtain rfl:lb=true:=by rw[<-hlb];exact decide_eq_true (by omega)
       exact⟨rfl,Ha98.as kr,zl⟩
      ·refine rL [itD (c:Int) 98,.v] Hb115 kr fun gsb98 wb98 Hb98=>?_;obtain rfl:lb=false:=by rw[<-hlb];exact decide_eq_false (by omega)
       exact⟨rfl,Hb98.as kr,zl⟩
 rintro _ _ w7 ⟨rfl,H9,_,rfl⟩;refine wW ?_;cases lb with
 | true=>
  have hst:jX (by_ form i) (stM (e::r))=some (kM c .nil (stM (e::r))):=by
   rw[hc];unfold jX;rw[if_pos (of_decide_eq_true hlb)]
  refine zh kr kr<|zj kr<|wW<|zhG form b2 bd i _ hi40 (r.length+1) _ _ ⟨e::r,r.length+1,c,none,0,0,.nil,T,bo,cap,cur,rfl,rfl,hBot,hN5,hS,RIn.none _ _,rfl,hRw,H9,zl⟩ ?_;intro S' N' T' bo' cap' cur' ρ' ww' h1 h2 h3 h4 h5 h6 h7 h8;exact hQ S' N' T' bo' cap' cur' ρ' ww' h1 h2 h3 h4 (by rw[hst,h5]) h6 h7 h8
 | false=>
  have hnl:=of_decide_eq_false hlb;refine zi kr kr<|za kr ?_;obtain⟨gb,hgb⟩:∃gb,decide (c=40\/c=42)=gb:=⟨_,rfl⟩
  refine qS (Q:=fun ex ρ ww=>ex=.normal/\St B w0 ww ((bd,kdO c none 0 0)::(b2,kdO 0 none 0 0)::(bo,kR cur)::(yH (e::r)++T))/\Is [(0,.string form),(2,Qe b2),(3,.bool false),(4,Qf bo (r.length+1) cap),(6,Qe bd),(7,.int .i64 (r.length:Int)),(16,.int .i64 (form.size:Int)),(17,.int .i64 (i:Int)),(28,.int .u8 (c:Int)),(36,.bool gb)] ρ) ?_ ?_
  ·by_cases h40:c=40
   ·refine rS [itQ (c:Int) 40,.v] H9 kr fun gsa40 wa40 Ha40=>zh kr kr<|zj kr ?_;obtain rfl:gb=true:=by rw[<-hgb];exact decide_eq_true (by omega)
    exact⟨rfl,Ha40.as kr,zl⟩
   ·refine rS [itD (c:Int) 40,.v] H9 kr fun gsb40 wb40 Hb40=>zi kr kr ?_;by_cases h42:c=42
    ·refine rL [itQ (c:Int) 42,.v] Hb40 kr fun gsa42 wa42 Ha42=>?_;obtain rfl:gb=true:=by rw[<-hgb];exact decide_eq_true (by omega)
     exact⟨rfl,Ha42.as kr,zl⟩
    ·refine rL [itD (c:Int) 42,.v] Hb40 kr fun gsb42 wb42 Hb42=>?_;obtain rfl:gb=false:=by rw[<-hgb];exact decide_eq_false (by omega)
     exact⟨rfl,Hb42.as kr,zl⟩
  rintro _ _ w8 ⟨rfl,H10,_,rfl⟩;refine wW ?_;cases gb with
  | true=>
   have hyes:=of_decide_eq_true hgb;refine zh kr kr<|za kr ?_;by_cases h4:r.length=4
   ·refine za kr<|rL [.v,itQ (r.length:Int) 4] H10 kr fun gs6 w9 H11=>wW<|zh kr kr<|rS [.v,.s 1,.v] H11 kr fun gs7 w10 H12=>zk kr ?_;have H13:St B w0 w10 ((bd,kdO c none 0 0)::(b2,kdO 0 none 0 0)::(bo,kR cur)::(yH (e::r)++T)):=H12.as kr;refine hbad ?_ _ w10 bd _ _ H13 kr kr;rw[hc];unfold jX;rw[if_neg hnl,if_pos hyes,if_pos];show ((e::r).map _).length=5;rw[Ra,Rh,h4]
   ·refine za kr<|rL [.v,itD (r.length:Int) 4] H10 kr fun gs6 w9 H11=>wW<|zi kr kr<|zj kr<|wW<|zd [0,1,2,3,4] kr kr<|rp [.v,.l 0] H11 kr fun gs7 w10 H12=>wX [2,3,4] ?_;have H13:St B w0 w10 ((bd,kdO c none 0 0)::(b2,kdO 0 none 0 0)::(bo,kR cur)::(yH (e::r)++T)):=H12.as kr;refine zc0 H13 (some 44) (fun b=>Qf b 1 1) #[.int .u8 (c:Int),.slice none 0 0] 139 (fun w=>by kernel_rfl) kr ?_;intro bn w11 H14;refine zdj (K':=2) H14 (some 45) 137 139 32 (.tmp 42) (.tmp 44) 3 0 bo bn (r.length+1) cap 1 cur #[.int .u8 (c:Int),.slice none 0 0] (zU kS (opE (e::r))) kr kr kr kr kr hRw kr kr rfl (xP rfl) (by omega) (by unfold maxLen;omega) ?_;intro b' cap' cur' w12 H15 hr';have H16:St B w0 w12 ((bn,kR #[.int .u8 (c:Int),.slice none 0 0])::(bd,kdO c none 0 0)::(b2,kdO 0 none 0 0)::(b',kR cur')::(yH (e::r)++T)):=H15;refine rp [.v] H16 kr fun gs8 w13 H17=>wX []<|zb<|zE 1 kr ?_;show Q (.exit 1) _ _;have H18:St B w0 w13 ((bn,kR #[.int .u8 (c:Int),.slice none 0 0])::(bd,kdO c none 0 0)::(b2,kdO 0 none 0 0)::(b',kR cur')::(yH (e::r)++T)):=H17.as kr;refine hQ (⟨c,none,0,0,[],[]⟩::e::r) (r.length+2) T b' cap' cur' _ _ rfl (.inr hBot) (by omega) ?_ ?_ ?_ (H18.sub (Qs _ (Qt ..))) zl
    ·intro x hx;rcases Uj.1 hx with rfl | hx
     ·exact⟨.inl ⟨rfl,rfl,rfl,rfl,rfl⟩,(fun _ h=>nomatch h),QU _⟩
     ·exact(hS x hx).mono (fun _ h=>h) (Nat.le_succ _)
    ·rw[hc];unfold jX;rw[if_neg hnl,if_pos hyes,if_neg]
     ·rfl
     ·show ¬((e::r).map _).length=5;rw[Ra,Rh];omega
    ·rw[uD];exact hr'
  | false=>
   have hno:=of_decide_eq_false hgb;refine zi kr kr ?_;by_cases h41:c=41
   ·refine rS [itQ (c:Int) 41,.v] H10 kr fun gs6 w9 H11=>zh kr kr<|za kr<|za kr ?_;by_cases hr0:r.length=0
    ·refine rL [.v,itQ (r.length:Int) 0,.v,.n,.n,.n,.n,.n,.n,.v] H11 kr fun gs7 w10 H12=>wW<|zh kr kr<|rS [.v,.s 1,.v] H12 kr fun gs8 w11 H13=>zk kr ?_;have H14:St B w0 w11 ((bd,kdO c none 0 0)::(b2,kdO 0 none 0 0)::(bo,kR cur)::(yH (e::r)++T)):=H13.as kr;refine hbad ?_ _ w11 bd _ _ H14 kr kr;rw[hc];unfold jX;rw[if_neg hnl,if_neg hno,if_pos h41];show (if (r.map _).length=0\/e.g≠40 then none else some _)=none;rw[if_pos (.inl (by rw[Ra];exact hr0))]
    ·by_cases h40:e.g=40
     ·refine rL [.v,itD (r.length:Int) 0,.v,.v,.v,itX 51 52 137 139 2 32 bo 0 (r.length+1) cap r.length rfl,.v,.ls 2 (C:=cur) (off:=0+r.length*2) (v:=.int .u8 ((e.g:Nat):Int)) htop.2.2.1,.E (.bool (!(((e.g:Nat):Int)==40))) (.bool false) (zc (by rw[h40];rfl)),.v] H11 kr fun gs7 w10 H12=>wW<|zi kr kr<|zj kr<|wW<|dL [.v,.v,itX 59 60 137 139 2 32 bo 0 (r.length+1) cap r.length rfl,.lp 2 (C:=cur) (off:=0+r.length*2) (n:=2) (W:=#[.int .u8 ((e.g:Nat):Int),.slice e.p e.n e.c]) htop.1 htop.2.1,.v,.v,.o (ins:=[((.tmp 63),Qf bo (r.length+1) cap),((.tmp 64),.int .i64 (r.length:Int))]) (v:=Qf bo r.length cap) (fun ρ o w ho hi2=>zfI (kd:=.i64) (t:=137) (e:=139) (size:=2) (bytes:=32) kr (x:=(.tmp 63)) (y:=(.tmp 64)) bo (r.length+1) cap r.length ho hi2.1 hi2.2.1 (by omega) w),.s 0,.v] H12 kr fun w11 H13=>wW ?_;have H14:St B w0 w11 ((bd,kdO e.g e.p e.n e.c)::(b2,kdO 0 none 0 0)::(bo,kR cur)::(e.row++(yH r++T))):=by
       rw[<-QD];exact H13.as kr
      have hBr:Bot r:=by
       rcases hBot with⟨h,_⟩|h
       ·rw[h]at hr0;exact absurd rfl hr0
       ·exact h
      have hst:jX (by_ form i) (stM (e::r))=some (kM e.g (yE e.M) (stM r)):=by
       rw[hc];unfold jX;rw[if_neg hnl,if_neg hno,if_pos h41];show (if (r.map _).length=0\/e.g≠40 then none else some (kM e.g (yE e.M) (stM r)))=_;rw[if_neg (by rw[Ra];exact fun h=>h.elim hr0 (fun h=>h h40))]
      refine zhG form b2 bd i _ hi40 r.length _ _ ⟨r,r.length,e.g,e.p,e.n,e.c,yE e.M,e.row++T,bo,cap,cur,rfl,rfl,hBr,by omega,fun x hx=>(hS x (QR _ hx)).mono (fun y hy=>QZ _ hy) (QH _),he.row.rIn (by decide) he.all (by have:=he.le;show e.n<=1000;omega),rfl,Rw.pop (uD _ _▸hRw) (zcb r),H14.perm (QM _ (QM _ (QM _ (Ro (yH r) e.row T)))),zl⟩ ?_;intro S' N' T' bo' cap' cur' ρ' ww' h1 h2 h3 h4 h5 h6 h7 h8;exact hQ S' N' T' bo' cap' cur' ρ' ww' h1 h2 h3 h4 (by rw[hst,h5]) h6 h7 h8
     ·refine rL [.v,itD (r.length:Int) 0,.v,.v,.v,itX 51 52 137 139 2 32 bo 0 (r.length+1) cap r.length rfl,.v,.ls 2 (C:=cur) (off:=0+r.length*2) (v:=.int .u8 ((e.g:Nat):Int)) htop.2.2.1,.E (.bool (!(((e.g:Nat):Int)==40))) (.bool true) (zc (by rw[beq_eq_false_iff_ne.2 (by omega)];rfl)),.v] H11 kr fun gs7 w10 H12=>wW<|zh kr kr<|rS [.v,.s 1,.v] H12 kr fun gs8 w11 H13=>zk kr ?_;have H14:St B w0 w11 ((bd,kdO c none 0 0)::(b2,kdO 0 none 0 0)::(bo,kR cur)::(yH (e::r)++T)):=H13.as kr;refine hbad ?_ _ w11 bd _ _ H14 kr kr;rw[hc];unfold jX;rw[if_neg hnl,if_neg hno,if_pos h41];show (if (r.map _).length=0\/e.g≠40 then none else some _)=none;rw[if_pos (.inr h40)]
   ·refine rS [itD (c:Int) 41,.v] H10 kr fun gs6 w9 H11=>zi kr kr<|rS [.v,.s 1,.v] H11 kr fun gs7 w10 H12=>zk kr ?_;have H13:St B w0 w10 ((bd,kdO c none 0 0)::(b2,kdO 0 none 0 0)::(bo,kR cur)::(yH (e::r)++T)):=H12.as kr;refine hbad ?_ _ w10 bd _ _ H13 kr kr;rw[hc];unfold jX;rw[if_neg hnl,if_neg hno,if_neg h41]
theorem znz {t:Qa}{l:Bool}{s:Qa}{k:Fo}(ht:t.size<=4000)(h:yd t l s k ⟨#[]⟩)(hd:dp1 l (dpF k)<=8):zC l s k.len k=(t,0):=by
 have hsz:=h.sz;obtain⟨hm,hp,hi⟩:=h;have hlen:=congrArg Qo hi;rw[zu,Qx,qV hm (yi hp)]at hlen;have h0:(tl ⟨#[]⟩).length=0:=rfl;have hz:sz1 l s (szF k)=t.size:=by omega
 have hc:=zbW hp;have hc9:k.cnt<4000:=by
  unfold sz1 at hz;split at hz
  ·rename_i q
   have h4:=len_zero (jJ hm q);rw[h4];decide
  ·have:=xN (frm l) (s.size+szF k);omega
 have hlf:lf1 l s k.len (lfF k) 4000=some (3999-k.cnt):=by
  unfold lf1;rw[if_neg (by rw[hm];simp),kG,if_pos ⟨hp,by omega⟩]
 have ht2:t=zg (wr1 l s (szF k) (wrF k)):=qj (by rw[hi,qq];exact QI _);unfold zC;rw[hlf];simp only[];rw[if_neg (by omega),if_neg (by omega),<-ht2]
theorem kL.casesC {t:Qa}{v:Value}{T:Qb}(h:kL t v T):(∃(l:Bool) (s:Qa) (p:Qc) (n c:Nat) (k:Fo),v=.tuple #[.agg #[.bool l,.string s,.slice p n c],.int .i64 0]/\yd t l s k ⟨#[]⟩/\SlC T p n c k/\s.size<=t.size/\dp1 l (dpF k)<=8/\t.size<=4000)\/(∃e:Int,e≠0/\v=erV e/\T=[]):=by
 rcases h with⟨_,rfl,rfl⟩|⟨h4,⟨l,s,p,n,c,k,rfl,h1,h2,h3,h5⟩|⟨_,_,_,_,_,rfl,rfl⟩|⟨_,rfl,rfl⟩⟩
 ·exact .inr ⟨2,by decide,rfl,rfl⟩
 ·exact .inl ⟨l,s,p,n,c,k,rfl,h1,h2,h3,h5,h4⟩
 ·exact .inr ⟨5,by decide,rfl,rfl⟩
 ·exact .inr ⟨4,by decide,rfl,rfl⟩
theorem kL.cases {t:Qa}{v:Value}{T:Qb}(h:kL t v T):(∃(l:Bool) (s:Qa) (p:Qc) (n c:Nat) (k:Fo),v=.tuple #[.agg #[.bool l,.string s,.slice p n c],.int .i64 0]/\yd t l s k ⟨#[]⟩/\SlIn T p n k/\s.size<=t.size/\dp1 l (dpF k)<=8/\t.size<=4000)\/(∃e:Int,e≠0/\v=erV e/\T=[]):=by
 rcases h.casesC with⟨l,s,p,n,c,k,e,h1,h2,h3⟩|h
 ·exact .inl ⟨l,s,p,n,c,k,e,h1,h2.1,h3⟩
 ·exact .inr h
theorem zhI {l:Bool}{s:Qa}{k:Fo}{v:Value}{T:Qb}(h0:(zC l s k.len k).2=0)(h:kL (zC l s k.len k).1 v T):∃(p:Qc) (n c:Nat),v=.tuple #[.agg #[.bool l,.string s,.slice p n c],.int .i64 0]/\SlIn T p n k:=by
 obtain⟨he,hm,hp,hc,hd,hz,hl⟩:=jW h0;have hsz:(zC l s k.len k).1.size=(wr1 l s (szF k) (wrF k)).length:=by rw[he,yU]
 have htl:tl (zC l s k.len k).1=wr1 l s (szF k) (wrF k):=by rw[he,qq]
 have hpay:=uz hm hz;have key: ∀(l2:Bool) (s2:Qa) (k2:Fo),yd (zC l s k.len k).1 l2 s2 k2 ⟨#[]⟩->l=l2/\s=s2/\k=k2:=fun l2 s2 k2 ⟨hm2,hp2,hi2⟩=>by
  have hi3:wr1 l s (szF k) (wrF k)++ []=wr1 l2 s2 (szF k2) (wrF k2)++ []:=by rw[QI,<-htl,hi2];rfl
  have hlen:=congrArg Qo hi3;rw[Qx,Qx,hl,qV hm2 (yi hp2)]at hlen;have hpay2:=uz hm2 (show sz1 l2 s2 (szF k2)<=4000 by simp only[Ui]at hlen;omega);obtain⟨a,b,c,_⟩:=uy hm hm2 (yi hp).symm (yi hp2).symm (by omega) (by omega) (fun q=>vS k k2 hp hp2 (by rw[yi hp];omega) q) hi3;exact⟨a,b,c⟩
 rcases h with⟨h4,_⟩|⟨_,⟨l2,s2,p,n,c,k2,rfl,h1,h2,_⟩|⟨l2,s2,k2,h1,h2,_⟩|⟨hb,_⟩⟩
 ·omega
 ·obtain⟨rfl,rfl,rfl⟩:=key l2 s2 k2 h1;exact⟨p,n,c,rfl,h2.1⟩
 ·obtain⟨rfl,rfl,rfl⟩:=key l2 s2 k2 h1;omega
 ·exact absurd htl (hb l s k hm hp)
theorem yd.inj {t:Qa}{l l':Bool}{s s':Qa}{k k':Fo}(ht:t.size<=4000)(h:yd t l s k ⟨#[]⟩)(h':yd t l' s' k' ⟨#[]⟩):l=l'/\s=s'/\k=k':=by
 obtain⟨hm,hp,hi⟩:=h;obtain⟨hm2,hp2,hi2⟩:=h';have hlen:=congrArg Qo hi;have hlen2:=congrArg Qo hi2;rw[zu,Qx,qV hm (yi hp)]at hlen;rw[zu,Qx,qV hm2 (yi hp2)]at hlen2;have h1:=uz hm (show sz1 l s (szF k)<=4000 by omega);have h2:=uz hm2 (show sz1 l' s' (szF k')<=4000 by omega);obtain⟨a,b,c,_⟩:=uy hm hm2 (yi hp).symm (yi hp2).symm (by omega) (by omega) (fun q=>vS k k' hp hp2 (by rw[yi hp];omega) q) (hi.symm.trans hi2);exact⟨a,b,c⟩
theorem vV {l:Bool}{s t:Qa}{k:Fo}(h:zC l s k.len k=(t,0)):yd t l s k ⟨#[]⟩:=by
 obtain⟨he,hm,hp,_⟩:=jW (show (zC l s k.len k).2=0 by rw[h]);refine⟨hm,hp,?_⟩;have e:t=zg (wr1 l s (szF k) (wrF k)):=by rw[<-he,h]
 rw[e,qq];exact(QI _).symm
def zcc (form:Qa)(v:Value)(T:Qb):Prop:=
 (∃(p:Qc) (n c:Nat) (k:Kf),parseM form=some k/\v=.tuple #[knd 40 p n c,.bool true]/\RIn kS T p n k)\/
 (parseM form=none/\∃(g:Nat) (p:Qc) (n c:Nat),v=.tuple #[knd g p n c,.bool false])
theorem znA (s:Qa)(i:Nat)(h:i<s.size):(tl s).drop i=(tl s).getD i 0::(tl s).drop (i+1):=by
 have h1:i<(tl s).length:=h;rw[List.drop_eq_getElem_cons h1,List.getD_eq_getElem?_getD,Qr h1];rfl
theorem znB: ∀ {S:List Sk},Bot S->1<=S.length
 | [],h=>h.elim
 | e::r,_=>by simp
theorem zhJ (form:Qa):FnT Tryz.prog 98 #[.string form] (fun _=>True) (zcc form):=by
 refine qz [.cell 2 139,.tmp 3] 101 Tryz.func98 fun w _=>?_;have H0:=St.start w;refine rS [.a,.v] H0 kr fun gs1 w1 H1=>?_;clear H0;refine zkG kr<|za kr ?_;by_cases h40:40<form.size
 ·refine rS [.v,.v,itT ((40:Int)<(Ql form:Int))] H1 kr fun gs2 w2 H2=>zh kr kr<|rS [.v,.s 0,.v] H2 kr fun gs3 w3 H3=>rRr [.cell 2 139,.tmp 3] [0] (.tuple #[knd 0 none 0 0,.bool false]) (zV w.heap.size w (zcc form)) H3 kr ?_;exact⟨[],.inr ⟨by unfold parseM;rw[if_pos h40],_,_,_,_,rfl⟩,H3.sub (QE _)⟩
 ·refine rS [.v,.v,itF ((40:Int)<(Ql form:Int))] H1 kr fun gs2 w2 H2=>zi kr kr<|zj kr<|wW<|rS [.v,.nw (fun b=>Qf b 1 1) #[.int .u8 40,.slice none 0 0] 139,.v] H2 kr fun gs3 w3 H3=>za kr<|zkH 0 kr<|wW<|za kr<|rS [.v,.v,.v] H3 kr fun gs4 w4 H4=>zm 0 kr ?_;have H5:St w.heap.size w w4 (((gs1 0).b,kdO 0 none 0 0)::((gs3 1).b,kR #[.int .u8 40,.slice none 0 0])::(yH [⟨40,none,0,0,[],[]⟩]++ [])):=H4.as kr;have hpm:parseM form=match vq (tl form) [(40,.nil)] with | some [(_,m)]=>some m | _=>none:=by unfold parseM;rw[if_neg h40]<;>rfl
  clear H1 H2 H3 H4;refine zO kr (fun mz ρ ww=> ∃(i:Nat) (st:List (Nat×Kf)),form.size-i=mz/\i<=form.size/\vq ((tl form).drop i) st=vq (tl form) [(40,.nil)]/\znx w.heap.size w form (gs1 0).b i st ρ ww) (form.size-0)
   ⟨0,[(40,.nil)],rfl,QU _,rfl,[⟨40,none,0,0,[],[]⟩],1,[],(gs3 1).b,1,#[.int .u8 40,.slice none 0 0],rfl,.inl ⟨rfl,rfl⟩,by decide,(fun x hx=>by
    obtain rfl:=RY.1 hx
    exact⟨.inl ⟨rfl,rfl,rfl,rfl,rfl⟩,(fun _ h=>nomatch h),QU _⟩),rfl,⟨rfl,QH _,by unfold maxLen;omega,rfl,rfl⟩,H5,zl⟩ ?_
  clear H5;rintro _ _ w5 ⟨i,_,rfl,hi,hst,S,N,T,bo,cap,cur,hN,hBot,hN5,hS,rfl,hRw,H6,_,rfl⟩;by_cases hlt:i<form.size
  ·refine rS [itT ((i:Int)<(form.size:Int))] H6 kr fun gs5 w6 H7=>za kr<|zh kr kr<|zj kr<|wW<|za kr<|zm 1 kr ?_;have H8:St w.heap.size w w6 (((gs1 0).b,kdO 0 none 0 0)::(bo,kR cur)::(yH S++T)):=H7.as kr;have hstep: ∀x,jX (by_ form i) (stM S)=x->vq (tl form) [(40,.nil)]=match x with | none=>none | some st'=>vq ((tl form).drop (i+1)) st':=fun x hx=>by
    rw[<-hst,znA form i hlt,<-hx];rfl
   refine zny form (gs1 0).b i (by omega) hlt (by omega) S N T bo cap cur hN hBot hN5 hS hRw _ w6 H8 zl ?_ ?_
   ·intro hn ρ ww bd o l HS h3 h2;refine wV ?_;refine⟨[.agg #[.int .u8 0,.slice none 0 0],.bool false],(.agg (b:=(gs1 0).b) #[.int .u8 0,.slice none 0 0] 139 (0,0) h2 (HS.get 1 kr) kr (.tmp (.bool false) h3 .nil)),[],.inr ⟨?_,0,none,0,0,rfl⟩,HS.sub (QE _)⟩;rw[hpm,hstep _ hn]
   ·intro S' N' T' bo' cap' cur' ρ ww h1 h2 h3 h4 h5 h6 h7 ⟨_,h8⟩;subst h8;refine wW<|rL [itI i 1,.v] h7 kr fun gs6 w7 H9=>?_;show ∃m,_/\_;exact⟨_,(by omega),i+1,stM S',rfl,hlt,(hstep _ h5).symm,S',N',T',bo',cap',cur',h1,h2,h3,h4,rfl,h6,H9.as kr,zl⟩
  ·obtain rfl:i=form.size:=by omega
   refine rS [itF ((form.size:Int)<(form.size:Int))] H6 kr fun gs5 w6 H7=>za kr<|zi kr kr<|zE 0 kr<|wW ?_;have hb1:=znB hBot;have hend:vq (tl form) [(40,.nil)]=some (stM S):=by
    rw[<-hst,List.drop_of_length_le (by rw[zu];exact QH _)];rfl
   rw[hend]at hpm;obtain⟨x,hx⟩:∃x,(opE S)[0]? =some x:=⟨_,Qr (by rw[zd9];omega)⟩
   have hat:=hRw.atE (S:=kS) hx;by_cases h1:N=1
   ·refine rS [.v,.o (ins:=[((.tmp 95),Qf bo N cap),((.const (.int .i64 0)),.int .i64 0)]) (v:=.pointer (some ⟨bo,0+0*2,none⟩)) (fun ρ o w ho hi2=>qX (kd:=.i64) (t:=137) (e:=139) (K:=2) (bytes:=32) kr (x:=(.tmp 95)) (y:=(.const (.int .i64 0))) bo 0 N cap 0 rfl ho hi2.1 hi2.2.1 (by omega) w),.lp 1 (C:=cur) (off:=0*2) (n:=2) (W:=#[.int .u8 ((x.a:Nat):Int),.slice x.p x.n x.c]) hat.1 hat.2,.v,.v,itQ (N:Int) 1,.s 0,.v] H7 kr fun gs6 w7 H8=>rRr [.cell 2 139,.tmp 3] [0] (.tuple #[knd x.a x.p x.n x.c,.bool true]) (zV w.heap.size w (zcc form)) H8 kr ?_;have H9:St w.heap.size w w7 (((gs1 0).b,kdO x.a x.p x.n x.c)::(bo,kR cur)::(yH S++T)):=H8.as kr;rcases S with _ | ⟨e,_ | ⟨e',r⟩⟩
    ·exact hBot.elim
    ·obtain rfl:e.el=x:=by simpa [opE] using hx
     have he:=hS e (QX ..);have hg:e.g=40:=by
      rcases hBot with⟨_,h⟩|h
      ·exact h
      ·exact h.elim
     refine⟨e.row++T,.inl ⟨e.p,e.n,e.c,yE e.M,?_,?_,he.row.rIn (by decide) he.all (by have:=he.le;show e.n<=1000;omega)⟩,?_⟩
     ·rw[hpm];rfl
     ·show Value.tuple #[knd e.g e.p e.n e.c,.bool true]=_;rw[hg]
     ·have H10:=H9.sub (Qs _ (Qt ..));have e2:yH [e]++T=e.row++T:=by show (e.row++ [])++T=_;rw[QI]
      rw[e2]at H10;exact H10
    ·exact absurd (hN.symm.trans h1) (by simp)
   ·refine rS [.v,.o (ins:=[((.tmp 95),Qf bo N cap),((.const (.int .i64 0)),.int .i64 0)]) (v:=.pointer (some ⟨bo,0+0*2,none⟩)) (fun ρ o w ho hi2=>qX (kd:=.i64) (t:=137) (e:=139) (K:=2) (bytes:=32) kr (x:=(.tmp 95)) (y:=(.const (.int .i64 0))) bo 0 N cap 0 rfl ho hi2.1 hi2.2.1 (by omega) w),.lp 1 (C:=cur) (off:=0*2) (n:=2) (W:=#[.int .u8 ((x.a:Nat):Int),.slice x.p x.n x.c]) hat.1 hat.2,.v,.v,itD (N:Int) 1,.s 0,.v] H7 kr fun gs6 w7 H8=>rRr [.cell 2 139,.tmp 3] [0] (.tuple #[knd x.a x.p x.n x.c,.bool false]) (zV w.heap.size w (zcc form)) H8 kr ?_;refine⟨[],.inr ⟨?_,_,_,_,_,rfl⟩,H8.sub (QE _)⟩;rw[hpm];rcases S with _ | ⟨e,_ | ⟨e',r⟩⟩
    ·exact hBot.elim
    ·exact absurd hN h1
    ·rfl
end Go.Proofs.YtcjejfklpegobaaGreatDoor
