/-
  Texts of the proof,part 3.
-/
import Derived.Laws.StructEq
import Derived.ChangeKeysEq
import Derived.Test.YtcjejfklpegobaaGreatDoorChecked
import Derived.Laws.IdiomArrays
import Derived.Deep.Strs
import Derived.Test.YtcjejfklpegobaaGreatDoorProg
import Derived.Lib.AppendStr
import Derived.Lib.Builder
import Derived.Test.YtcjejfklpegobaaGreatDoorBZ1
import Derived.Test.YtcjejfklpegobaaGreatDoorBZ2
set_option maxRecDepth 100000
set_option maxHeartbeats 4000000
open Go Go.RowKit
open BitVec renaming toNat->Qj,ofNat->Qw,toNat_ofNat->UM,toNat_add->Wa
open Bool renaming and_eq_true->Qu,eq_false_or_eq_true->Q4,not_eq_true'->Rf
open DataW renaming trod_int->Vb
open Int renaming toNat_natCast->UL,fdiv->Vc,zero_add->V9,toNat->Wl
open IntKind renaming i64->Qz,u64->QA,u8->QG
open Lib renaming strCells->VG
open List renaming getD->Qm,length->Qo,getElem?_eq_getElem->Qr,length_append->Qx,take_of_length_le->Qy,append_assoc->QD,append_nil->QI,mem_cons_of_mem->QR,getElem?_eq_some_iff->QT,perm_append_comm->QV,mem_cons_self->QX,map_cons->Q8,length_take->Rb,take->Re,length_cons->Rh,cons_append->Rm,replicate->RB,map_toArray->RI,nil_append->RS,mem_singleton->RY,cons->Uf,map_nil->Ug,length_nil->Ui,dropWhile_cons->Us,length_drop->Uv,size_toArray->Ux,mem_append->UI,eq_nil_of_length_eq_zero->Vg,take_left->VZ,drop_zero->Wo
open List.Sublist renaming cons_cons->Qq,cons->Qs,slnil->QS,refl->Rn
open Nat renaming le_of_ble_eq_true->Qp,le_refl->QH,beq->QL,zero_le->QU,zero_add->Q9,add_zero->RL,pow_succ->RW,le_trans->RZ,pow_le_pow_right->Uh,mul_one->UV,lt_of_lt_of_le->UX,zero_mul->Vf,div_one->Wx
open Obj renaming cells->Qk
open Oper renaming upon_value->Rx,upon_enter->UF
open Or renaming inr->UP,elim->Vq,inl->Vy
open Result renaming andThen_ok->QJ
open Sem renaming run_bind->Q7,run_pure->Up
open UInt8 renaming ofNat->QY,toNat_ofNat_of_lt'->RX,toNat_ofNat'->Ua,toNat_inj->U4,toNat->Vt
open Value renaming int->Q0,string->RQ
open World renaming cell?->RH,shape?->Wm
open _root_.Array renaming getElem?_eq_some_iff->Q1,replicate->Ru,length_toList->Rv,getElem?_eq_none->U8
open _root_.ByteArray renaming size->Ql,extract->Qv,toList->Rs
namespace Go.Proofs.YtcjejfklpegobaaGreatDoor
theorem zlD (x:List Nat)(ba nx ca:Nat)(curA:Qd)(hnx:nx=Qo x)(hA:Rw 1 curA ca nx (zW x))(lx:Qo x<=100000)(hx:Ok x):FnP Tryz.prog 120 #[Qf ba nx ca] (fun w=>w.heap[ba]? =some (.cells curA 3)) (uv (vl x%big)):=by
 subst hnx;have hd0:=yK hx 0;have hd1:=yK hx 1;have hd2:=yK hx 2;have hd3:=yK hx 3;have hd4:=yK hx 4;have hd5:=yK hx 5;have hd6:=yK hx 6;have hd7:=yK hx 7;have hd8:=yK hx 8;have hd9:=yK hx 9;have hd10:=yK hx 10;have hd11:=yK hx 11;have hd12:=yK hx 12;have hd13:=yK hx 13;have hd14:=yK hx 14;have hd15:=yK hx 15;refine zR [.cell 2 50] 24 Tryz.func120 fun w hpre=>?_;have H0:=St.start w;refine rS [.a] H0 kr fun gs1 w1 H1=>?_;clear H0;refine rS [.v,.a,.s 1] H1 kr fun gs2 w2 H2=>?_;clear H1;refine za kr<|rS [.v] H2 kr fun gs3 w3 H3=>?_;clear H2;refine zm 0 kr ?_;have HL1:St w.heap.size w w3 [((gs1 0).b,Qk #[wZ,wZ,wZ,wZ] 50 (0,0)),((gs2 1).b,Qk #[wZ,wZ,wZ,wZ] 50 (0,0))]:=H3.as kr;clear H3;refine zcX kr<|za kr<|rS [.v,.v] HL1 kr fun gs4 w4 H4=>?_;clear HL1;refine zh kr kr<|zj kr<|wW<|za kr<|zm 1 kr<|dL [.v,.v,.v,.v,.v,.l 1,.v,.v,.v,.cp (pre:=fun w=>w.heap[ba]? =some (.cells curA 3)) (yB x ba (Qo x) ca curA rfl hA (by omega) 15 (by omega)) [] (fun w hb hd=>((hb.block _ (zo hpre)).trans hpre)),.E (.int .u64 (QA.wrap (((Qm x 15 0:Nat):Int)))) (.int .u64 ((Qm x 15 0:Nat):Int)) (zf (yw (a:=Qm x 15 0) (by omega))),.E (.int .u64 (QA.wrap (0+((Qm x 15 0:Nat):Int)))) (.int .u64 ((Qm x 15 0:Nat):Int)) (zf (show QA.wrap ((0:Int)+((Qm x 15 0:Nat):Int))=_ by rw[V9];exact yw (by omega))),.v,.s 1] H4 kr fun w5 H5=>?_;clear H4;refine wW<|zt [0,2,3,4,7] fun ρ1=>?_;have HK2:=H5.keep;clear H5;refine rL [.v,.v,.v] HK2 kr fun gs6 w6 H6=>?_;clear HK2;show WPL _ _ _ _ _ _;refine yO<|za kr<|rS [.v,.v] H6 kr fun gs7 w7 H7=>?_;clear H6;refine zh kr kr<|zj kr<|wW<|za kr<|zm 1 kr<|dL [.v,.v,.v,.v,.v,.l 1,.E (.int .u64 (QA.wrap (((Qm x 15 0:Nat):Int)*65536))) (.int .u64 (((Qm x 15 0)*65536:Nat):Int)) (zf (jx (a:=Qm x 15 0) (b:=65536) (by omega))),.v,.v,.cp (pre:=fun w=>w.heap[ba]? =some (.cells curA 3)) (yB x ba (Qo x) ca curA rfl hA (by omega) 14 (by omega)) [] (fun w hb hd=>((hb.block _ (zo hpre)).trans hpre)),.E (.int .u64 (QA.wrap (((Qm x 14 0:Nat):Int)))) (.int .u64 ((Qm x 14 0:Nat):Int)) (zf (yw (a:=Qm x 14 0) (by omega))),.E (.int .u64 (QA.wrap ((((Qm x 15 0)*65536:Nat):Int)+((Qm x 14 0:Nat):Int)))) (.int .u64 ((((Qm x 15 0)*65536)+(Qm x 14 0):Nat):Int)) (zf (jw (a:=(Qm x 15 0)*65536) (b:=Qm x 14 0) (by omega))),.v,.s 1] H7 kr fun w8 H8=>?_;clear H7;refine wW<|zt [0,2,3,4,7] fun ρ2=>?_;have HK3:=H8.keep;clear H8;refine rL [.v,.v,.v] HK3 kr fun gs9 w9 H9=>?_;clear HK3;show WPL _ _ _ _ _ _;refine yO<|za kr<|rS [.v,.v] H9 kr fun gs10 w10 H10=>?_;clear H9;refine zh kr kr<|zj kr<|wW<|za kr<|zm 1 kr<|dL [.v,.v,.v,.v,.v,.l 1,.E (.int .u64 (QA.wrap (((((Qm x 15 0)*65536)+(Qm x 14 0):Nat):Int)*65536))) (.int .u64 (((((Qm x 15 0)*65536)+(Qm x 14 0))*65536:Nat):Int)) (zf (jx (a:=((Qm x 15 0)*65536)+(Qm x 14 0)) (b:=65536) (by omega))),.v,.v,.cp (pre:=fun w=>w.heap[ba]? =some (.cells curA 3)) (yB x ba (Qo x) ca curA rfl hA (by omega) 13 (by omega)) [] (fun w hb hd=>((hb.block _ (zo hpre)).trans hpre)),.E (.int .u64 (QA.wrap (((Qm x 13 0:Nat):Int)))) (.int .u64 ((Qm x 13 0:Nat):Int)) (zf (yw (a:=Qm x 13 0) (by omega))),.E (.int .u64 (QA.wrap ((((((Qm x 15 0)*65536)+(Qm x 14 0))*65536:Nat):Int)+((Qm x 13 0:Nat):Int)))) (.int .u64 ((((((Qm x 15 0)*65536)+(Qm x 14 0))*65536)+(Qm x 13 0):Nat):Int)) (zf (jw (a:=(((Qm x 15 0)*65536)+(Qm x 14 0))*65536) (b:=Qm x 13 0) (by omega))),.v,.s 1] H10 kr fun w11 H11=>?_;clear H10;refine wW<|zt [0,2,3,4,7] fun ρ3=>?_;have HK4:=H11.keep;clear H11;refine rL [.v,.v,.v] HK4 kr fun gs12 w12 H12=>?_;clear HK4;show WPL _ _ _ _ _ _;refine yO<|za kr<|rS [.v,.v] H12 kr fun gs13 w13 H13=>?_;clear H12;refine zh kr kr<|zj kr<|wW<|za kr<|zm 1 kr<|dL [.v,.v,.v,.v,.v,.l 1,.E (.int .u64 (QA.wrap (((((((Qm x 15 0)*65536)+(Qm x 14 0))*65536)+(Qm x 13 0):Nat):Int)*65536))) (.int .u64 (((((((Qm x 15 0)*65536)+(Qm x 14 0))*65536)+(Qm x 13 0))*65536:Nat):Int)) (zf (jx (a:=((((Qm x 15 0)*65536)+(Qm x 14 0))*65536)+(Qm x 13 0)) (b:=65536) (by omega))),.v,.v,.cp (pre:=fun w=>w.heap[ba]? =some (.cells curA 3)) (yB x ba (Qo x) ca curA rfl hA (by omega) 12 (by omega)) [] (fun w hb hd=>((hb.block _ (zo hpre)).trans hpre)),.E (.int .u64 (QA.wrap (((Qm x 12 0:Nat):Int)))) (.int .u64 ((Qm x 12 0:Nat):Int)) (zf (yw (a:=Qm x 12 0) (by omega))),.E (.int .u64 (QA.wrap ((((((((Qm x 15 0)*65536)+(Qm x 14 0))*65536)+(Qm x 13 0))*65536:Nat):Int)+((Qm x 12 0:Nat):Int)))) (.int .u64 ((((((((Qm x 15 0)*65536)+(Qm x 14 0))*65536)+(Qm x 13 0))*65536)+(Qm x 12 0):Nat):Int)) (zf (jw (a:=(((((Qm x 15 0)*65536)+(Qm x 14 0))*65536)+(Qm x 13 0))*65536) (b:=Qm x 12 0) (by omega))),.v,.s 1] H13 kr fun w14 H14=>?_;clear H13;refine wW<|zt [0,2,3,4,7] fun ρ4=>?_;have HK5:=H14.keep;clear H14;refine rL [.v,.v,.v] HK5 kr fun gs15 w15 H15=>?_;clear HK5;show WPL _ _ _ _ _ _;refine yO<|za kr<|rS [.v,.v] H15 kr fun gs16 w16 H16=>?_;clear H15;refine zh kr kr<|zj kr<|wW<|za kr<|zm 1 kr<|dL [.v,.v,.v,.v,.v,.l 1,.v,.v,.v,.cp (pre:=fun w=>w.heap[ba]? =some (.cells curA 3)) (yB x ba (Qo x) ca curA rfl hA (by omega) 11 (by omega)) [] (fun w hb hd=>((hb.block _ (zo hpre)).trans hpre)),.E (.int .u64 (QA.wrap (((Qm x 11 0:Nat):Int)))) (.int .u64 ((Qm x 11 0:Nat):Int)) (zf (yw (a:=Qm x 11 0) (by omega))),.E (.int .u64 (QA.wrap (0+((Qm x 11 0:Nat):Int)))) (.int .u64 ((Qm x 11 0:Nat):Int)) (zf (show QA.wrap ((0:Int)+((Qm x 11 0:Nat):Int))=_ by rw[V9];exact yw (by omega))),.v,.s 1] H16 kr fun w17 H17=>?_;clear H16;refine wW<|zt [0,2,3,4,7] fun ρ5=>?_;have HK6:=H17.keep;clear H17;refine rL [.v,.v,.v] HK6 kr fun gs18 w18 H18=>?_;clear HK6;show WPL _ _ _ _ _ _;refine yO<|za kr<|rS [.v,.v] H18 kr fun gs19 w19 H19=>?_;clear H18;refine zh kr kr<|zj kr<|wW<|za kr<|zm 1 kr<|dL [.v,.v,.v,.v,.v,.l 1,.E (.int .u64 (QA.wrap (((Qm x 11 0:Nat):Int)*65536))) (.int .u64 (((Qm x 11 0)*65536:Nat):Int)) (zf (jx (a:=Qm x 11 0) (b:=65536) (by omega))),.v,.v,.cp (pre:=fun w=>w.heap[ba]? =some (.cells curA 3)) (yB x ba (Qo x) ca curA rfl hA (by omega) 10 (by omega)) [] (fun w hb hd=>((hb.block _ (zo hpre)).trans hpre)),.E (.int .u64 (QA.wrap (((Qm x 10 0:Nat):Int)))) (.int .u64 ((Qm x 10 0:Nat):Int)) (zf (yw (a:=Qm x 10 0) (by omega))),.E (.int .u64 (QA.wrap ((((Qm x 11 0)*65536:Nat):Int)+((Qm x 10 0:Nat):Int)))) (.int .u64 ((((Qm x 11 0)*65536)+(Qm x 10 0):Nat):Int)) (zf (jw (a:=(Qm x 11 0)*65536) (b:=Qm x 10 0) (by omega))),.v,.s 1] H19 kr fun w20 H20=>?_;clear H19;refine wW<|zt [0,2,3,4,7] fun ρ6=>?_;have HK7:=H20.keep;clear H20;refine rL [.v,.v,.v] HK7 kr fun gs21 w21 H21=>?_;clear HK7;show WPL _ _ _ _ _ _;refine yO<|za kr<|rS [.v,.v] H21 kr fun gs22 w22 H22=>?_;clear H21;refine zh kr kr<|zj kr<|wW<|za kr<|zm 1 kr<|dL [.v,.v,.v,.v,.v,.l 1,.E (.int .u64 (QA.wrap (((((Qm x 11 0)*65536)+(Qm x 10 0):Nat):Int)*65536))) (.int .u64 (((((Qm x 11 0)*65536)+(Qm x 10 0))*65536:Nat):Int)) (zf (jx (a:=((Qm x 11 0)*65536)+(Qm x 10 0)) (b:=65536) (by omega))),.v,.v,.cp (pre:=fun w=>w.heap[ba]? =some (.cells curA 3)) (yB x ba (Qo x) ca curA rfl hA (by omega) 9 (by omega)) [] (fun w hb hd=>((hb.block _ (zo hpre)).trans hpre)),.E (.int .u64 (QA.wrap (((Qm x 9 0:Nat):Int)))) (.int .u64 ((Qm x 9 0:Nat):Int)) (zf (yw (a:=Qm x 9 0) (by omega))),.E (.int .u64 (QA.wrap ((((((Qm x 11 0)*65536)+(Qm x 10 0))*65536:Nat):Int)+((Qm x 9 0:Nat):Int)))) (.int .u64 ((((((Qm x 11 0)*65536)+(Qm x 10 0))*65536)+(Qm x 9 0):Nat):Int)) (zf (jw (a:=(((Qm x 11 0)*65536)+(Qm x 10 0))*65536) (b:=Qm x 9 0) (by omega))),.v,.s 1] H22 kr fun w23 H23=>?_;clear H22;refine wW<|zt [0,2,3,4,7] fun ρ7=>?_;have HK8:=H23.keep;clear H23;refine rL [.v,.v,.v] HK8 kr fun gs24 w24 H24=>?_;clear HK8;show WPL _ _ _ _ _ _;refine yO<|za kr<|rS [.v,.v] H24 kr fun gs25 w25 H25=>?_;clear H24;refine zh kr kr<|zj kr<|wW<|za kr<|zm 1 kr<|dL [.v,.v,.v,.v,.v,.l 1,.E (.int .u64 (QA.wrap (((((((Qm x 11 0)*65536)+(Qm x 10 0))*65536)+(Qm x 9 0):Nat):Int)*65536))) (.int .u64 (((((((Qm x 11 0)*65536)+(Qm x 10 0))*65536)+(Qm x 9 0))*65536:Nat):Int)) (zf (jx (a:=((((Qm x 11 0)*65536)+(Qm x 10 0))*65536)+(Qm x 9 0)) (b:=65536) (by omega))),.v,.v,.cp (pre:=fun w=>w.heap[ba]? =some (.cells curA 3)) (yB x ba (Qo x) ca curA rfl hA (by omega) 8 (by omega)) [] (fun w hb hd=>((hb.block _ (zo hpre)).trans hpre)),.E (.int .u64 (QA.wrap (((Qm x 8 0:Nat):Int)))) (.int .u64 ((Qm x 8 0:Nat):Int)) (zf (yw (a:=Qm x 8 0) (by omega))),.E (.int .u64 (QA.wrap ((((((((Qm x 11 0)*65536)+(Qm x 10 0))*65536)+(Qm x 9 0))*65536:Nat):Int)+((Qm x 8 0:Nat):Int)))) (.int .u64 ((((((((Qm x 11 0)*65536)+(Qm x 10 0))*65536)+(Qm x 9 0))*65536)+(Qm x 8 0):Nat):Int)) (zf (jw (a:=(((((Qm x 11 0)*65536)+(Qm x 10 0))*65536)+(Qm x 9 0))*65536) (b:=Qm x 8 0) (by omega))),.v,.s 1] H25 kr fun w26 H26=>?_;clear H25;refine wW<|zt [0,2,3,4,7] fun ρ8=>?_;have HK9:=H26.keep;clear H26;refine rL [.v,.v,.v] HK9 kr fun gs27 w27 H27=>?_;clear HK9;show WPL _ _ _ _ _ _;refine yO<|za kr<|rS [.v,.v] H27 kr fun gs28 w28 H28=>?_;clear H27;refine zh kr kr<|zj kr<|wW<|za kr<|zm 1 kr<|dL [.v,.v,.v,.v,.v,.l 1,.v,.v,.v,.cp (pre:=fun w=>w.heap[ba]? =some (.cells curA 3)) (yB x ba (Qo x) ca curA rfl hA (by omega) 7 (by omega)) [] (fun w hb hd=>((hb.block _ (zo hpre)).trans hpre)),.E (.int .u64 (QA.wrap (((Qm x 7 0:Nat):Int)))) (.int .u64 ((Qm x 7 0:Nat):Int)) (zf (yw (a:=Qm x 7 0) (by omega))),.E (.int .u64 (QA.wrap (0+((Qm x 7 0:Nat):Int)))) (.int .u64 ((Qm x 7 0:Nat):Int)) (zf (show QA.wrap ((0:Int)+((Qm x 7 0:Nat):Int))=_ by rw[V9];exact yw (by omega))),.v,.s 1] H28 kr fun w29 H29=>?_;clear H28;refine wW<|zt [0,2,3,4,7] fun ρ9=>?_;have HK10:=H29.keep;clear H29;refine rL [.v,.v,.v] HK10 kr fun gs30 w30 H30=>?_;clear HK10;show WPL _ _ _ _ _ _;refine yO<|za kr<|rS [.v,.v] H30 kr fun gs31 w31 H31=>?_;clear H30;refine zh kr kr<|zj kr<|wW<|za kr<|zm 1 kr<|dL [.v,.v,.v,.v,.v,.l 1,.E (.int .u64 (QA.wrap (((Qm x 7 0:Nat):Int)*65536))) (.int .u64 (((Qm x 7 0)*65536:Nat):Int)) (zf (jx (a:=Qm x 7 0) (b:=65536) (by omega))),.v,.v,.cp (pre:=fun w=>w.heap[ba]? =some (.cells curA 3)) (yB x ba (Qo x) ca curA rfl hA (by omega) 6 (by omega)) [] (fun w hb hd=>((hb.block _ (zo hpre)).trans hpre)),.E (.int .u64 (QA.wrap (((Qm x 6 0:Nat):Int)))) (.int .u64 ((Qm x 6 0:Nat):Int)) (zf (yw (a:=Qm x 6 0) (by omega))),.E (.int .u64 (QA.wrap ((((Qm x 7 0)*65536:Nat):Int)+((Qm x 6 0:Nat):Int)))) (.int .u64 ((((Qm x 7 0)*65536)+(Qm x 6 0):Nat):Int)) (zf (jw (a:=(Qm x 7 0)*65536) (b:=Qm x 6 0) (by omega))),.v,.s 1] H31 kr fun w32 H32=>?_;clear H31;refine wW<|zt [0,2,3,4,7] fun ρ10=>?_;have HK11:=H32.keep;clear H32;refine rL [.v,.v,.v] HK11 kr fun gs33 w33 H33=>?_;clear HK11;show WPL _ _ _ _ _ _;refine yO<|za kr<|rS [.v,.v] H33 kr fun gs34 w34 H34=>?_;clear H33;refine zh kr kr<|zj kr<|wW<|za kr<|zm 1 kr<|dL [.v,.v,.v,.v,.v,.l 1,.E (.int .u64 (QA.wrap (((((Qm x 7 0)*65536)+(Qm x 6 0):Nat):Int)*65536))) (.int .u64 (((((Qm x 7 0)*65536)+(Qm x 6 0))*65536:Nat):Int)) (zf (jx (a:=((Qm x 7 0)*65536)+(Qm x 6 0)) (b:=65536) (by omega))),.v,.v,.cp (pre:=fun w=>w.heap[ba]? =some (.cells curA 3)) (yB x ba (Qo x) ca curA rfl hA (by omega) 5 (by omega)) [] (fun w hb hd=>((hb.block _ (zo hpre)).trans hpre)),.E (.int .u64 (QA.wrap (((Qm x 5 0:Nat):Int)))) (.int .u64 ((Qm x 5 0:Nat):Int)) (zf (yw (a:=Qm x 5 0) (by omega))),.E (.int .u64 (QA.wrap ((((((Qm x 7 0)*65536)+(Qm x 6 0))*65536:Nat):Int)+((Qm x 5 0:Nat):Int)))) (.int .u64 ((((((Qm x 7 0)*65536)+(Qm x 6 0))*65536)+(Qm x 5 0):Nat):Int)) (zf (jw (a:=(((Qm x 7 0)*65536)+(Qm x 6 0))*65536) (b:=Qm x 5 0) (by omega))),.v,.s 1] H34 kr fun w35 H35=>?_;clear H34;refine wW<|zt [0,2,3,4,7] fun ρ11=>?_;have HK12:=H35.keep;clear H35;refine rL [.v,.v,.v] HK12 kr fun gs36 w36 H36=>?_;clear HK12;show WPL _ _ _ _ _ _;refine yO<|za kr<|rS [.v,.v] H36 kr fun gs37 w37 H37=>?_;clear H36;refine zh kr kr<|zj kr<|wW<|za kr<|zm 1 kr<|dL [.v,.v,.v,.v,.v,.l 1,.E (.int .u64 (QA.wrap (((((((Qm x 7 0)*65536)+(Qm x 6 0))*65536)+(Qm x 5 0):Nat):Int)*65536))) (.int .u64 (((((((Qm x 7 0)*65536)+(Qm x 6 0))*65536)+(Qm x 5 0))*65536:Nat):Int)) (zf (jx (a:=((((Qm x 7 0)*65536)+(Qm x 6 0))*65536)+(Qm x 5 0)) (b:=65536) (by omega))),.v,.v,.cp (pre:=fun w=>w.heap[ba]? =some (.cells curA 3)) (yB x ba (Qo x) ca curA rfl hA (by omega) 4 (by omega)) [] (fun w hb hd=>((hb.block _ (zo hpre)).trans hpre)),.E (.int .u64 (QA.wrap (((Qm x 4 0:Nat):Int)))) (.int .u64 ((Qm x 4 0:Nat):Int)) (zf (yw (a:=Qm x 4 0) (by omega))),.E (.int .u64 (QA.wrap ((((((((Qm x 7 0)*65536)+(Qm x 6 0))*65536)+(Qm x 5 0))*65536:Nat):Int)+((Qm x 4 0:Nat):Int)))) (.int .u64 ((((((((Qm x 7 0)*65536)+(Qm x 6 0))*65536)+(Qm x 5 0))*65536)+(Qm x 4 0):Nat):Int)) (zf (jw (a:=(((((Qm x 7 0)*65536)+(Qm x 6 0))*65536)+(Qm x 5 0))*65536) (b:=Qm x 4 0) (by omega))),.v,.s 1] H37 kr fun w38 H38=>?_;clear H37;refine wW<|zt [0,2,3,4,7] fun ρ12=>?_;have HK13:=H38.keep;clear H38;refine rL [.v,.v,.v] HK13 kr fun gs39 w39 H39=>?_;clear HK13;show WPL _ _ _ _ _ _;refine yO<|za kr<|rS [.v,.v] H39 kr fun gs40 w40 H40=>?_;clear H39;refine zh kr kr<|zj kr<|wW<|za kr<|zm 1 kr<|dL [.v,.v,.v,.v,.v,.l 1,.v,.v,.v,.cp (pre:=fun w=>w.heap[ba]? =some (.cells curA 3)) (yB x ba (Qo x) ca curA rfl hA (by omega) 3 (by omega)) [] (fun w hb hd=>((hb.block _ (zo hpre)).trans hpre)),.E (.int .u64 (QA.wrap (((Qm x 3 0:Nat):Int)))) (.int .u64 ((Qm x 3 0:Nat):Int)) (zf (yw (a:=Qm x 3 0) (by omega))),.E (.int .u64 (QA.wrap (0+((Qm x 3 0:Nat):Int)))) (.int .u64 ((Qm x 3 0:Nat):Int)) (zf (show QA.wrap ((0:Int)+((Qm x 3 0:Nat):Int))=_ by rw[V9];exact yw (by omega))),.v,.s 1] H40 kr fun w41 H41=>?_;clear H40;refine wW<|zt [0,2,3,4,7] fun ρ13=>?_;have HK14:=H41.keep;clear H41;refine rL [.v,.v,.v] HK14 kr fun gs42 w42 H42=>?_;clear HK14;show WPL _ _ _ _ _ _;refine yO<|za kr<|rS [.v,.v] H42 kr fun gs43 w43 H43=>?_;clear H42;refine zh kr kr<|zj kr<|wW<|za kr<|zm 1 kr<|dL [.v,.v,.v,.v,.v,.l 1,.E (.int .u64 (QA.wrap (((Qm x 3 0:Nat):Int)*65536))) (.int .u64 (((Qm x 3 0)*65536:Nat):Int)) (zf (jx (a:=Qm x 3 0) (b:=65536) (by omega))),.v,.v,.cp (pre:=fun w=>w.heap[ba]? =some (.cells curA 3)) (yB x ba (Qo x) ca curA rfl hA (by omega) 2 (by omega)) [] (fun w hb hd=>((hb.block _ (zo hpre)).trans hpre)),.E (.int .u64 (QA.wrap (((Qm x 2 0:Nat):Int)))) (.int .u64 ((Qm x 2 0:Nat):Int)) (zf (yw (a:=Qm x 2 0) (by omega))),.E (.int .u64 (QA.wrap ((((Qm x 3 0)*65536:Nat):Int)+((Qm x 2 0:Nat):Int)))) (.int .u64 ((((Qm x 3 0)*65536)+(Qm x 2 0):Nat):Int)) (zf (jw (a:=(Qm x 3 0)*65536) (b:=Qm x 2 0) (by omega))),.v,.s 1] H43 kr fun w44 H44=>?_;clear H43;refine wW<|zt [0,2,3,4,7] fun ρ14=>?_;have HK15:=H44.keep;clear H44;refine rL [.v,.v,.v] HK15 kr fun gs45 w45 H45=>?_;clear HK15;show WPL _ _ _ _ _ _;refine yO<|za kr<|rS [.v,.v] H45 kr fun gs46 w46 H46=>?_;clear H45;refine zh kr kr<|zj kr<|wW<|za kr<|zm 1 kr<|dL [.v,.v,.v,.v,.v,.l 1,.E (.int .u64 (QA.wrap (((((Qm x 3 0)*65536)+(Qm x 2 0):Nat):Int)*65536))) (.int .u64 (((((Qm x 3 0)*65536)+(Qm x 2 0))*65536:Nat):Int)) (zf (jx (a:=((Qm x 3 0)*65536)+(Qm x 2 0)) (b:=65536) (by omega))),.v,.v,.cp (pre:=fun w=>w.heap[ba]? =some (.cells curA 3)) (yB x ba (Qo x) ca curA rfl hA (by omega) 1 (by omega)) [] (fun w hb hd=>((hb.block _ (zo hpre)).trans hpre)),.E (.int .u64 (QA.wrap (((Qm x 1 0:Nat):Int)))) (.int .u64 ((Qm x 1 0:Nat):Int)) (zf (yw (a:=Qm x 1 0) (by omega))),.E (.int .u64 (QA.wrap ((((((Qm x 3 0)*65536)+(Qm x 2 0))*65536:Nat):Int)+((Qm x 1 0:Nat):Int)))) (.int .u64 ((((((Qm x 3 0)*65536)+(Qm x 2 0))*65536)+(Qm x 1 0):Nat):Int)) (zf (jw (a:=(((Qm x 3 0)*65536)+(Qm x 2 0))*65536) (b:=Qm x 1 0) (by omega))),.v,.s 1] H46 kr fun w47 H47=>?_;clear H46;refine wW<|zt [0,2,3,4,7] fun ρ15=>?_;have HK16:=H47.keep;clear H47;refine rL [.v,.v,.v] HK16 kr fun gs48 w48 H48=>?_;clear HK16;show WPL _ _ _ _ _ _;refine yO<|za kr<|rS [.v,.v] H48 kr fun gs49 w49 H49=>?_;clear H48;refine zh kr kr<|zj kr<|wW<|za kr<|zm 1 kr<|dL [.v,.v,.v,.v,.v,.l 1,.E (.int .u64 (QA.wrap (((((((Qm x 3 0)*65536)+(Qm x 2 0))*65536)+(Qm x 1 0):Nat):Int)*65536))) (.int .u64 (((((((Qm x 3 0)*65536)+(Qm x 2 0))*65536)+(Qm x 1 0))*65536:Nat):Int)) (zf (jx (a:=((((Qm x 3 0)*65536)+(Qm x 2 0))*65536)+(Qm x 1 0)) (b:=65536) (by omega))),.v,.v,.cp (pre:=fun w=>w.heap[ba]? =some (.cells curA 3)) (yB x ba (Qo x) ca curA rfl hA (by omega) 0 (by omega)) [] (fun w hb hd=>((hb.block _ (zo hpre)).trans hpre)),.E (.int .u64 (QA.wrap (((Qm x 0 0:Nat):Int)))) (.int .u64 ((Qm x 0 0:Nat):Int)) (zf (yw (a:=Qm x 0 0) (by omega))),.E (.int .u64 (QA.wrap ((((((((Qm x 3 0)*65536)+(Qm x 2 0))*65536)+(Qm x 1 0))*65536:Nat):Int)+((Qm x 0 0:Nat):Int)))) (.int .u64 ((((((((Qm x 3 0)*65536)+(Qm x 2 0))*65536)+(Qm x 1 0))*65536)+(Qm x 0 0):Nat):Int)) (zf (jw (a:=(((((Qm x 3 0)*65536)+(Qm x 2 0))*65536)+(Qm x 1 0))*65536) (b:=Qm x 0 0) (by omega))),.v,.s 1] H49 kr fun w50 H50=>?_;clear H49;refine wW<|zt [0,2,3,4,7] fun ρ16=>?_;have HK17:=H50.keep;clear H50;refine rL [.v,.v,.v] HK17 kr fun gs51 w51 H51=>?_;clear HK17;show WPL _ _ _ _ _ _;refine yO<|za kr<|rS [.v,.v] H51 kr fun gs52 w52 H52=>?_;clear H51;refine zi kr kr<|zE 0 kr<|wW<|rS [.l 1,.s 0] H52 kr fun gs53 w53 H53=>?_;clear H52;refine zk kr<|wV ?_;refine⟨[.agg #[.int .u64 ((((((((Qm x 3 0)*65536)+(Qm x 2 0))*65536)+(Qm x 1 0))*65536)+(Qm x 0 0):Nat):Int),.int .u64 ((((((((Qm x 7 0)*65536)+(Qm x 6 0))*65536)+(Qm x 5 0))*65536)+(Qm x 4 0):Nat):Int),.int .u64 ((((((((Qm x 11 0)*65536)+(Qm x 10 0))*65536)+(Qm x 9 0))*65536)+(Qm x 8 0):Nat):Int),.int .u64 ((((((((Qm x 15 0)*65536)+(Qm x 14 0))*65536)+(Qm x 13 0))*65536)+(Qm x 12 0):Nat):Int)]],(.agg (b:=(gs1 0).b) #[.int .u64 ((((((((Qm x 3 0)*65536)+(Qm x 2 0))*65536)+(Qm x 1 0))*65536)+(Qm x 0 0):Nat):Int),.int .u64 ((((((((Qm x 7 0)*65536)+(Qm x 6 0))*65536)+(Qm x 5 0))*65536)+(Qm x 4 0):Nat):Int),.int .u64 ((((((((Qm x 11 0)*65536)+(Qm x 10 0))*65536)+(Qm x 9 0))*65536)+(Qm x 8 0):Nat):Int),.int .u64 ((((((((Qm x 15 0)*65536)+(Qm x 14 0))*65536)+(Qm x 13 0))*65536)+(Qm x 12 0):Nat):Int)] 50 (0,0) kr (H53.get 0 kr) kr .nil),?_,H53.below⟩;have e:=zlu hx (fun i=>Qm x i 0) (fun _=>rfl);exact e
theorem zgh:Fn Tryz.prog 122 #[.int .i64 1] (uv NR):=by
 refine zv [.cell 2 50] 7 Tryz.func122 fun w=>?_;have H0:=St.start w;refine rS [.a] H0 kr fun gs1 w1 H1=>?_;clear H0;refine za kr<|rS [.v,.v] H1 kr fun gs2 w2 H2=>?_;clear H1;refine zi kr kr<|zj kr<|wW<|rS [.v,.s 0] H2 kr fun gs3 w3 H3=>?_;clear H2;refine zk kr<|wV ?_;refine⟨[.agg #[.int .u64 0xbfd25e8cd0364141,.int .u64 0xbaaedce6af48a03b,.int .u64 0xfffffffffffffffe,.int .u64 0xffffffffffffffff]],(.agg (b:=(gs1 0).b) #[.int .u64 0xbfd25e8cd0364141,.int .u64 0xbaaedce6af48a03b,.int .u64 0xfffffffffffffffe,.int .u64 0xffffffffffffffff] 50 (0,0) kr (H3.get 0 kr) kr .nil),?_,H3.below⟩
 kernel_rfl
@[reducible] def wu0 (n:Nat):Int:=w0 n
@[reducible] def wu1 (n:Nat):Int:=w1 n
@[reducible] def wu2 (n:Nat):Int:=w2 n
@[reducible] def wu3 (n:Nat):Int:=w3 n
def pv (p:Ec.Pd):Value:=.agg #[.int .u64 (w0 p.X),.int .u64 (w1 p.X),.int .u64 (w2 p.X),.int .u64 (w3 p.X),.int .u64 (w0 p.Y),.int .u64 (w1 p.Y),.int .u64 (w2 p.Y),.int .u64 (w3 p.Y),.bool p.b]
section
variable {P:Program}{N:Nat}{ops:Array Oper}{i:Nat}{r:List Nat}{K:Env->World->Prop}{ρ:Env}{w:World}{B:Nat}{w0:World}{l:Qb}
end
namespace D2
section
variable {P:Program}{ops:Array Oper}{R:(Nat->Gh)->Env}{i:Nat}{d:Option Nat}
variable {E:(Nat->Bool)->(Nat->Gh)->List Ent}{F:(Nat->Bool)->(Nat->Gh)->Prop}{B:Nat}{w0:World}
end
end D2
section
open Go.ChangeShapes Go.WideShapes Go.ChangeAt
theorem zlE:Tryz.prog.cellsOf 22=1:=kr
theorem zlF:Tryz.prog.cellsOf 50=4:=kr
theorem zby {x:Int}(h:(Lit.int .u64 x).wf=true):Wd x:=by
 have hmin:QA.min=0:=rfl;have hmax:QA.max=0xffffffffffffffff:=rfl;simp only[Lit.wf,Qu,decide_eq_true_eq]at h;unfold Wd;omega
theorem zlG {α:Type}(l:List α)(h:(⟨l⟩:Array α).size=9):∃a b c d e f g i j,l=[a,b,c,d,e,f,g,i,j]:=by
 match l,h with
 | [a,b,c,d,e,f,g,i,j],_=>exact⟨a,b,c,d,e,f,g,i,j,rfl⟩
theorem zgi {H:Type}{enc:TypeId×Value->H}{W:World}{b0:Nat}{sp:Nat->Bool}{held:Bool}{x:DataW H×List MemPlace}{fuel:Nat}{c0 c1 c2 c3:Value}
 (hf:DataW.trod enc Tryz.prog W b0 sp held fuel 50 [c0,c1,c2,c3]=some x):∃n:Nat,n<big/\c0=.int .u64 (w0 n)/\c1=.int .u64 (w1 n)/\c2=.int .u64 (w2 n)/\c3=.int .u64 (w3 n):=by
 obtain⟨y0,y1,y2,y3,m,hx,hy0,hy1,hy2,hy3⟩:=trod_array4 Tryz.underlying50 zlE hf;obtain⟨x0,e0,rfl,w0⟩:=Vb Tryz.underlying22 hy0;obtain⟨x1,e1,rfl,w1⟩:=Vb Tryz.underlying22 hy1;obtain⟨x2,e2,rfl,w2⟩:=Vb Tryz.underlying22 hy2;obtain⟨x3,e3,rfl,w3⟩:=Vb Tryz.underlying22 hy3;simp at e0 e1 e2 e3;subst e0 e1 e2 e3;obtain⟨n,hn,g0,g1,g2,g3⟩:=zkL (zby w0) (zby w1) (zby w2) (zby w3);exact⟨n,hn,by rw[g0],by rw[g1],by rw[g2],by rw[g3]⟩
end
inductive Fo
 | nil
 | cons (l:Bool) (s:Qa) (k r:Fo)
def Fo.len:Fo->Nat
 | .nil=>0
 | .cons _ _ _ r=>r.len+1
def Fo.cnt:Fo->Nat
 | .nil=>0
 | .cons _ _ k r=>1+k.cnt+r.cnt
def jI (B:Nat)(w:World):Fo->Nat->Nat->Prop
 | .nil,_,_=>True
 | .cons l s k r,b,off=>(∃(C:Qd) (T:TypeId) (fz:Nat×Nat) (p:Qc) (n c:Nat),b<B/\w.heap[b]? =some (.cells C T fz)/\off+3<=C.size/\
  C.extract off (off+3)=#[.bool l,.string s,.slice p n c]/\s.size<=0x800000000000/\n=k.len/\n<=0x800000000000/\(k=.nil\/∃b' off',p=some ⟨b',off',none⟩/\jI B w k b' off'))/\jI B w r b (off+3)
def zq (B:Nat)(w:World)(p:Qc)(n:Nat)(k:Fo):Prop:=n=k.len/\n<=0x800000000000/\(k=.nil\/∃b off,p=some ⟨b,off,none⟩/\jI B w k b off)
def FoR (B:Nat)(w:World)(p:Qc)(i:Nat)(r:Fo):Prop:=r=.nil\/∃b off,p=some ⟨b,off,none⟩/\jI B w r b (off+i*3)
theorem jI.up {B B':Nat}{w w':World}(hb:Below B w w')(hB:B<=B'): ∀ {k:Fo} {b off:Nat},jI B w k b off->jI B' w' k b off
 | .nil,_,_,_=>trivial
 | .cons l s k r,b,off,⟨⟨C,T,fz,p,n,c,h1,h2,h3,h4,h5,h6,h7,h8⟩,h9⟩=>
  ⟨⟨C,T,fz,p,n,c,UX h1 hB,by rw[hb.block b h1];exact h2,h3,h4,h5,h6,h7,h8.imp id fun⟨b',o',e,h⟩=>⟨b',o',e,jI.up hb hB h⟩⟩,jI.up hb hB h9⟩
theorem zq.up {B B':Nat}{w w':World}{p:Qc}{n:Nat}{k:Fo}(h:zq B w p n k)(hb:Below B w w')(hB:B<=B'):zq B' w' p n k:=
 ⟨h.1,h.2.1,h.2.2.imp id fun⟨b,o,e,h⟩=>⟨b,o,e,h.up hb hB⟩⟩
theorem zq.call {w0 w:World}{p:Qc}{n:Nat}{k:Fo}(h:zq w0.heap.size w0 p n k)(hb:Below w0.heap.size w0 w):zq w.heap.size w p n k:=h.up hb hb.size
theorem zq.nil (B:Nat)(w:World)(p:Qc):zq B w p 0 .nil:=⟨rfl,by omega,.inl rfl⟩
theorem zq.zero {B:Nat}{w:World}{p:Qc}{n:Nat}{k:Fo}(h:zq B w p n k)(h0:n=0):k=.nil:=by
 cases k with
 | nil=>rfl
 | cons l s k r=>have:=h.1;simp only[Fo.len]at this;omega
theorem zq.start {B:Nat}{w:World}{p:Qc}{n:Nat}{k:Fo}(h:zq B w p n k):FoR B w p 0 k:=
 h.2.2.imp id fun⟨b,o,e,h⟩=>⟨b,o,e,by rw[Vf,RL];exact h⟩
theorem FoR.open {B:Nat}{w:World}{p:Qc}{i n:Nat}{r:Fo}(h:FoR B w p i r)(hn:i+r.len=n)(hi:i<n):
 ∃l s k r' b off C T fz p' n' c',r=.cons l s k r'/\p=some ⟨b,off,none⟩/\b<B/\w.heap[b]? =some (.cells C T fz)/\off+i*3+3<=C.size/\
  C.extract (off+i*3) (off+i*3+3)=#[.bool l,.string s,.slice p' n' c']/\s.size<=0x800000000000/\zq B w p' n' k/\FoR B w p (i+1) r'/\i+1+r'.len=n:=by
 cases r with
 | nil=>simp only[Fo.len]at hn;omega
 | cons l s k r'=>
  rcases h with h|⟨b,off,e,⟨C,T,fz,p',n',c',h1,h2,h3,h4,h5,h6,h7,h8⟩,h9⟩
  ·cases h
  ·refine⟨l,s,k,r',b,off,C,T,fz,p',n',c',rfl,e,h1,h2,h3,h4,h5,⟨h6,h7,h8⟩,.inr ⟨b,off,e,?_⟩,?_⟩
   ·rw[show off+(i+1)*3=off+i*3+3 by omega];exact h9
   ·simp only[Fo.len]at hn;omega
theorem FoR.done {i n:Nat}{r:Fo}(hn:i+r.len=n)(hi: ¬i<n):r=.nil:=by
 cases r with
 | nil=>rfl
 | cons l s k r'=>simp only[Fo.len]at hn;omega
theorem zgj {P:Program}{ρ:Env}{t e:TypeId}{bytes:Nat}(ht:yp P t=some (e,3,bytes)){x y:Operand}{o:Oper}{kd:IntKind}{p:Qc}(b q n c k:Nat)(hp:p=some ⟨b,q,none⟩)(ho:o.op=.indexAddr t x y)(hx:ev ρ x=.slice p n c)(hy:ev ρ y=.int kd (k:Int))(hk:k<n):
 ∀w,(execOp (ev ρ) o).run P w=.ok (.value (.pointer (some ⟨b,q+k*3,none⟩))) w:=by
 subst hp;exact vJ ht b q n c k ho hx hy hk
theorem Fo.len_le: ∀k:Fo,k.len<=k.cnt
 | .nil=>QH _
 | .cons _ _ k r=>by have:=Fo.len_le r;simp only[Fo.len,Fo.cnt];omega
def dgI:Nat->Nat->List UInt8
 | 0,_=>[]
 | m+1,n=>if n=0 then [] else dgI m (n / 256)++ [QY n]
def dg (n:Nat):List UInt8:=dgI 8 n
def hd (f n:Nat):List UInt8:=if n<=55 then [QY (f+n)] else QY (f+55+(dg n).length)::dg n
def frm (l:Bool):Nat:=if l then 192 else 128
def yf (s:Qa):Bool:=decide (s.size=1)&&decide (by_ s 0<128)
def mixed (l:Bool)(s:Qa)(n:Nat):Bool:=if l then decide (s.size≠0) else decide (n≠0)
def wr1 (l:Bool)(s:Qa)(m:Nat)(ks:List UInt8):List UInt8:=(if yf s then [] else hd (frm l) (s.size+m))++(tl s++ks)
def sz1 (l:Bool)(s:Qa)(m:Nat):Nat:=if yf s then 1 else (hd (frm l) (s.size+m)).length+(s.size+m)
def szF:Fo->Nat
 | .nil=>0
 | .cons l s k r=>sz1 l s (szF k)+szF r
def wrF:Fo->List UInt8
 | .nil=>[]
 | .cons l s k r=>wr1 l s (szF k) (wrF k)++wrF r
def dp1 (l:Bool)(d:Nat):Nat:=if l then 1+d else 0
def dpF:Fo->Nat
 | .nil=>0
 | .cons l s k r=>max (dp1 l (dpF k)) (dpF r)
def pureF:Fo->Bool
 | .nil=>true
 | .cons l s k r=>(!mixed l s k.len&&pureF k)&&pureF r
def lf1 (l:Bool)(s:Qa)(k:Nat)(f:Nat->Option Nat)(room:Nat):Option Nat:=if room=0\/mixed l s k=true then none else f (room-1)
def lfF:Fo->Nat->Option Nat
 | .nil,room=>some room
 | .cons l s k r,room=>(lf1 l s k.len (lfF k) room).bind (lfF r)
def lfV:Option Nat->Int
 | none=> -1
 | some q=>(q:Int)
theorem kG: ∀(k:Fo) (room:Nat),lfF k room=if pureF k=true/\k.cnt<=room then some (room-k.cnt) else none
 | .nil,room=>by simp[lfF,pureF,Fo.cnt]
 | .cons l s k r,room=>by
  have h1:=kG k (room-1);have e1:pureF (.cons l s k r)=((!mixed l s k.len&&pureF k)&&pureF r):=rfl;have e2:(Fo.cons l s k r).cnt=1+k.cnt+r.cnt:=rfl;rw[show lfF (.cons l s k r) room=(lf1 l s k.len (lfF k) room).bind (lfF r) from rfl];unfold lf1;by_cases hr:room=0
  ·subst hr;rw[if_pos (Vy rfl),if_neg (by rw[e2];omega)];rfl
  ·cases hm:mixed l s k.len with
   | true=>rw[if_pos (UP rfl),if_neg (by rw[e1,hm];simp)];rfl
   | false=>
    rw[if_neg (by simp[hr]),h1];cases hp:pureF k with
    | false=>rw[if_neg (by simp),if_neg (by rw[e1,hp];simp)];rfl
    | true=>
     by_cases hc:k.cnt<=room-1
     ·rw[if_pos ⟨rfl,hc⟩,Option.bind_some,kG r];cases hq:pureF r with
      | false=>rw[if_neg (by simp),if_neg (by rw[e1,hq];simp)]
      | true=>
       by_cases hd:r.cnt<=room-1-k.cnt
       ·rw[if_pos ⟨rfl,hd⟩,if_pos ⟨by rw[e1,hm,hp,hq];rfl,by rw[e2];omega⟩,e2];congr 1;omega
       ·rw[if_neg (by simp[hd]),if_neg (by rw[e2];rintro⟨_,h⟩;omega)]
     ·rw[if_neg (by simp[hc]),if_neg (by rw[e2];rintro⟨_,h⟩;omega)];rfl
theorem zlH {k:Fo}{room q:Nat}(h:lfF k room=some q):q<=room:=by
 rw[kG]at h;split at h
 ·injection h with h;omega
 ·cases h
theorem zgk: ∀m n,(dgI m n).length<=m
 | 0,_=>QH _
 | m+1,n=>by unfold dgI;split;·simp
             ·simp;exact zgk m _
theorem qB (n:Nat):(dg n).length<=8:=zgk 8 n
theorem xN (f n:Nat):1<=(hd f n).length/\(hd f n).length<=9:=by
 unfold hd;have:=qB n;split<;>simp<;>omega
theorem zav (l:Bool)(s:Qa)(m:Nat):sz1 l s m<=9+(s.size+m):=by
 unfold sz1;have:=xN (frm l) (s.size+m);split<;>omega
theorem jV {s:Qa}(h:yf s=true):s.size=1:=by
 unfold yf at h;simp only[Qu,decide_eq_true_eq]at h;exact h.1
theorem zgl (l:Bool)(s:Qa)(m:Nat):1<=sz1 l s m:=by
 unfold sz1;have:=xN (frm l) (s.size+m);split<;>omega
theorem ux {s:Qa}(h: ¬s=⟨#[]⟩):s.size≠0:=fun e=>h (by
 obtain⟨d⟩:=s;have:d.size=0:=e
 rw[Array.eq_empty_of_size_eq_zero this])
theorem zlI {l:Bool}{s:Qa}{n:Nat}{k:Fo}{room q:Nat}(h:lf1 l s n (lfF k) room=some q):q<=room:=by
 unfold lf1 at h;split at h
 ·cases h
 ·have:=zlH h;omega
theorem zlJ {l:Bool}{s:Qa}{n:Nat}{f:Nat->Option Nat}{room:Nat}(h:room=0):lfV (lf1 l s n f room)= -1:=by unfold lf1;rw[if_pos (Vy h)];rfl
theorem zlK {l:Bool}{s:Qa}{n:Nat}{f:Nat->Option Nat}{room:Nat}(h:mixed l s n=true):lfV (lf1 l s n f room)= -1:=by unfold lf1;rw[if_pos (UP h)];rfl
theorem zgm {l:Bool}{s:Qa}{n:Nat}{f:Nat->Option Nat}{room:Nat}(h0:room≠0)(h:mixed l s n=false):lf1 l s n f room=f (room-1):=by unfold lf1;rw[if_neg (by simp[h0,h])]
theorem zlL {l:Bool}{s:Qa}{n:Nat}{k r:Fo}{q y:Nat}(hn:n=k.len)(h:lf1 l s n (lfF k) q=some y):lfF (.cons l s k r) q=lfF r y:=by
 subst hn;show (lf1 l s k.len (lfF k) q).bind (lfF r)=_;rw[h];rfl
theorem zlM {l:Bool}{s:Qa}{n:Nat}{k r:Fo}{q:Nat}(hn:n=k.len)(h:lf1 l s n (lfF k) q=none):lfV (lfF (.cons l s k r) q)= -1:=by
 subst hn;show lfV ((lf1 l s k.len (lfF k) q).bind (lfF r))=_;rw[h];rfl
theorem zlN {a:Nat}(h:a<0x10000000000000000):Vc (a:Int) (2^0)=(a:Int):=by rw[Int.pow_zero,Int.fdiv_one]
def wtF:Fo->Nat
 | .nil=>0
 | .cons l s k r=>9+s.size+wtF k+wtF r
theorem vg: ∀k:Fo,szF k<=wtF k
 | .nil=>QH _
 | .cons l s k r=>by
  have h1:=vg k;have h2:=vg r;have h3:=zav l s (szF k);simp only[szF,wtF];omega
theorem jI.wt {B:Nat}{w:World} : ∀ {k:Fo} {b off:Nat},jI B w k b off->wtF k<=k.cnt*0x800000000009
 | .nil,_,_,_=>QU _
 | .cons l s k r,b,off,⟨⟨C,T,fz,p,n,c,h1,h2,h3,h4,h5,h6,h7,h8⟩,h9⟩=>by
  have hr:=jI.wt h9;have hk:wtF k<=k.cnt*0x800000000009:=by
   rcases h8 with rfl|⟨b',o',e,h⟩
   ·exact QU _
   ·exact jI.wt h
  simp only[wtF,Fo.cnt];omega
theorem zq.wt {B:Nat}{w:World}{p:Qc}{n:Nat}{k:Fo}(h:zq B w p n k):wtF k<=k.cnt*0x800000000009:=by
 rcases h.2.2 with rfl|⟨b,o,e,h⟩
 ·exact QU _
 ·exact h.wt
theorem zgn {f:Nat}(b:BitVec 8)(hb:b.toNat=f)(n:Nat)(h:n<=55)(hf:f<=192):strOfNums [(Qj (b+Qw 8 n):Int)]=zg (hd f n):=by
 unfold hd;rw[if_pos h];show (⟨#[QY (Wl _)]⟩:Qa)=⟨#[QY (f+n)]⟩
 rw[UL,Wa,UM,hb];rw[show (f+n%2^8)%2^8=f+n by omega]
theorem zgo {f:Nat}(b:BitVec 8)(hb:b.toNat=f+55)(n:Nat)(h: ¬n<=55)(hf:f<=192):strOfNums [(Qj (b+Qw 8 (Ql (zg (dg n)))):Int)]++zg (dg n)=zg (hd f n):=by
 have hl:=qB n;have e:QY (Wl (Qj (b+Qw 8 (Ql (zg (dg n)))):Int))=QY (f+55+(dg n).length):=by
  rw[UL,Wa,UM,hb,yU];rw[show (f+55+(dg n).length%2^8)%2^8=f+55+(dg n).length by omega]
 apply qj;rw[xr];show [QY _]++dg n=hd f n;unfold hd;rw[if_neg h,e];rfl
theorem zaw: ∀k:Fo,(wrF k).length<=wtF k
 | .nil=>QH _
 | .cons l s k r=>by
  have h1:=zaw k;have h2:=zaw r;simp only[wrF,wtF,wr1,Qx,zu];split
  ·simp only[Ui];omega
  ·have:=xN (frm l) (s.size+szF k);omega
theorem zdA: ∀ {k:Fo},pureF k=true->wtF k<=szF k+9*k.cnt
 | .nil,_=>QU _
 | .cons l s k r,h=>by
  simp only[pureF,Qu,Rf]at h;have h1:=zdA h.1.2;have h2:=zdA h.2;simp only[wtF,szF,Fo.cnt,sz1];split
  ·rename_i hs
   have hz:=jV hs;have hk:k=.nil:=by
    have hm:=h.1.1;unfold mixed at hm;cases l with
    | true=>simp[hz]at hm
    | false=>
     cases k with
     | nil=>rfl
     | cons=>simp[Fo.len]at hm
   subst hk;simp only[wtF,Fo.cnt];omega
  ·have:=xN (frm l) (s.size+szF k);omega
theorem zdB {α:Type}(x:Option α):x=none\/∃y,x=some y:=by cases x with
 | none=>exact .inl rfl
 | some y=>exact .inr ⟨y,rfl⟩
theorem zbz: ∀k:Fo,dpF k<=k.cnt
 | .nil=>QH _
 | .cons l s k r=>by
  have h1:=zbz k;have h2:=zbz r;simp only[dpF,Fo.cnt,dp1];split<;>omega
theorem zgp (t:Qa)(h:t.size≠0):(t.extract 1 t.size).size=t.size-1:=by simp
theorem zdC (t:Qa):tl (t.extract 1 t.size)=(tl t).drop 1:=by
 rw[yT,Qy (by rw[zu];exact QH _)]
theorem vh {t:Qa}(h:t.size≠0):∃l,tl t=QY (by_ t 0)::l:=by
 have hl:(tl t).length≠0:=by rw[zu];exact h
 unfold by_;cases e:tl t with
 | nil=>rw[e]at hl;simp at hl
 | cons x l=>exact⟨l,by simp⟩
theorem zlO (t:Qa)(h:t.size≠0)(h0:by_ t 0=0):(tl (t.extract 1 t.size)).dropWhile (·==0)=(tl t).dropWhile (·==0):=by
 obtain⟨l,e⟩:=vh h;rw[zdC,e,h0];rfl
theorem zdD {t:Qa}(h:t=⟨#[]⟩):zg ((tl t).dropWhile (·==0))=t:=by subst h;rfl
theorem zbA (t:Qa)(h:t.size=0\/by_ t 0≠0):zg ((tl t).dropWhile (·==0))=t:=by
 rcases h with h|h
 ·exact zdD (Decidable.not_not.1 fun q=>ux q h)
 ·by_cases h2:t.size=0
  ·exact zdD (Decidable.not_not.1 fun q=>ux q h2)
  ·obtain⟨l,e⟩:=vh h2;have hb:=qp t 0;have hne:(QY (by_ t 0)==0)=false:=by
    rw[beq_eq_false_iff_ne];intro q;have:=congrArg Vt q;rw[RX (by simpa using hb)]at this;exact h this
   rw[e,Us,hne];show zg (QY (by_ t 0)::l)=t;rw[<-e];exact vO t
theorem zgq: ∀ {l:List UInt8},(∀x∈l,(x==0)=true)->l.dropWhile (·==0)=[]
 | [],_=>rfl
 | x::l,h=>by rw[Us,if_pos (h x (QX ..))];exact zgq fun y hy=>h y (QR _ hy)
def beI:Nat->Nat->List UInt8
 | 0,_=>[]
 | m+1,n=>beI m (n / 256)++ [QY n]
theorem zdE: ∀m,(beI m 0).dropWhile (·==0)=[]/\ ∀x∈beI m 0,(x==0)=true
 | 0=>⟨rfl,fun _ h=>nomatch h⟩
 | m+1=>by
  have h:=(zdE m).2;have h2: ∀x∈beI (m+1) 0,(x==0)=true:=by
   intro x hx;simp only[beI,Nat.zero_div,UI,RY]at hx;rcases hx with hx | rfl
   ·exact h x hx
   ·rfl
  exact⟨zgq h2,h2⟩
theorem zlP (m:Nat):dgI m 0=[]:=by cases m<;>rfl
theorem drop_append {l r:List UInt8}(h:l.dropWhile (·==0)≠[]):(l++r).dropWhile (·==0)=l.dropWhile (·==0)++r:=by
 induction l with
 | nil=>exact absurd rfl h
 | cons x l ih=>
  rw[Rm,Us,Us];split
  ·rename_i hx;rw[Us,if_pos hx]at h;exact ih h
  ·rfl
theorem zdF: ∀m n,n<256^m->(beI m n).dropWhile (·==0)=dgI m n
 | 0,n,h=>rfl
 | m+1,n,h=>by
  have hlt:n / 256<256^m:=by rw[RW]at h;omega
  have ih:=zdF m (n / 256) hlt;unfold dgI;split
  ·rename_i h0;subst h0;exact(zdE (m+1)).1
  ·rename_i h0
   show (beI m (n / 256)++ [QY n]).dropWhile (·==0)=_;by_cases hq:n / 256=0
   ·rw[hq,zlP,List.dropWhile_append,(zdE m).1];have hx:(QY n==0)=false:=by
     rw[beq_eq_false_iff_ne];intro q;have:=congrArg Vt q;rw[RX (by simp only[UInt8.size];omega)]at this;exact h0 this
    simp[hx]
   ·rw[drop_append,ih];rw[ih];intro q;cases m with
    | zero=>simp at hlt;omega
    | succ m=>unfold dgI at q;rw[if_neg hq]at q;simp at q
def dgB (n d:Nat):BitVec 8:=Qw 8 (n / d)
theorem vi (n d:Nat):Q0 .u8 (QG.wrap (((n / d:Nat):Int)))=.int .u8 (Qj (dgB n d):Int):=vb (n / d)
theorem zlQ (n:Nat):Q0 .u8 (QG.wrap ((n:Int)))=.int .u8 (Qj (dgB n 1):Int):=by
 have h:=vi n 1;rw[Wx]at h;exact h
theorem zlR (n d:Nat):QY (Wl (Qj (dgB n d):Int))=QY (n / d):=by
 rw[UL];apply U4.1;rw[Ua,Ua];unfold dgB;rw[UM];omega
theorem zlS (n:Nat):tl (strOfNums [(Qj (dgB n 72057594037927936):Int),(Qj (dgB n 281474976710656):Int),(Qj (dgB n 1099511627776):Int),(Qj (dgB n 4294967296):Int),(Qj (dgB n 16777216):Int),(Qj (dgB n 65536):Int),(Qj (dgB n 256):Int),(Qj (dgB n 1):Int)])=beI 8 n:=by
 unfold tl;rw[strOfNums_data];simp only[Q8,Ug,zlR,beI,RS,QD,Rm,Nat.div_div_eq_div_mul,Wx]
theorem zlT (n:Nat)(h:n<0x10000000000000000):(tl (strOfNums [(Qj (dgB n 72057594037927936):Int),(Qj (dgB n 281474976710656):Int),(Qj (dgB n 1099511627776):Int),(Qj (dgB n 4294967296):Int),(Qj (dgB n 16777216):Int),(Qj (dgB n 65536):Int),(Qj (dgB n 256):Int),(Qj (dgB n 1):Int)])).dropWhile (·==0)=dg n:=by
 rw[zlS];exact zdF 8 n h
def zC (l:Bool)(s:Qa)(n:Nat)(k:Fo):Qa×Nat:=
 match lf1 l s n (lfF k) 4000 with
 | none=>(⟨#[]⟩,1)
 | some _=>if 8<dp1 l (dpF k) then (⟨#[]⟩,5) else if 4000<sz1 l s (szF k) then (⟨#[]⟩,2) else (zg (wr1 l s (szF k) (wrF k)),0)
def xZ (x:Qa×Nat):Value:=.tuple #[.string x.1,.int .i64 ((x.2:Nat):Int)]
section
variable {l:Bool}{s:Qa}{n y:Nat}{k:Fo}
theorem zlU (h:lf1 l s n (lfF k) 4000=none):xZ (zC l s n k)=.tuple #[.string ⟨#[]⟩,.int .i64 1]:=by unfold zC;rw[h];rfl
theorem zlV (h:lf1 l s n (lfF k) 4000=some y)(hd:8<dp1 l (dpF k)):xZ (zC l s n k)=.tuple #[.string ⟨#[]⟩,.int .i64 5]:=by unfold zC;rw[h];simp only[];rw[if_pos hd];rfl
theorem zlW (h:lf1 l s n (lfF k) 4000=some y)(hd: ¬8<dp1 l (dpF k))(hz:4000<sz1 l s (szF k)):xZ (zC l s n k)=.tuple #[.string ⟨#[]⟩,.int .i64 2]:=by unfold zC;rw[h];simp only[];rw[if_neg hd,if_pos hz];rfl
theorem zlX (h:lf1 l s n (lfF k) 4000=some y)(hd: ¬8<dp1 l (dpF k))(hz: ¬4000<sz1 l s (szF k)):xZ (zC l s n k)=.tuple #[.string (zg (wr1 l s (szF k) (wrF k))),.int .i64 0]:=by unfold zC;rw[h];simp only[];rw[if_neg hd,if_neg hz];rfl
theorem zgr {room:Nat}(h:lf1 l s n (lfF k) room=some y):mixed l s n=false/\pureF k=true/\k.cnt<room:=by
 unfold lf1 at h;split at h
 ·cases h
 ·rename_i h0
  rw[kG]at h;split at h
  ·rename_i h1
   refine⟨?_,h1.1,by omega⟩;cases hm:mixed l s n with
   | true=>exact absurd (.inr hm) h0
   | false=>rfl
  ·cases h
theorem jJ (hm:mixed l s n=false)(h:yf s=true):n=0:=by
 have hz:=jV h;unfold mixed at hm;cases l with
 | true=>simp[hz]at hm
 | false=>simpa using hm
theorem len_zero {k:Fo}(h:k.len=0):k=.nil:=by cases k with
 | nil=>rfl
 | cons=>simp[Fo.len]at h
theorem qV (hm:mixed l s k.len=false)(hk:(wrF k).length=szF k):(wr1 l s (szF k) (wrF k)).length=sz1 l s (szF k):=by
 unfold wr1 sz1;rw[Qx,Qx,zu,hk];split
 ·rename_i h
  have:=len_zero (jJ hm h);subst this;have hz:=jV h;simp only[szF,Ui];omega
 ·omega
theorem yi: ∀ {k:Fo},pureF k=true->(wrF k).length=szF k
 | .nil,_=>rfl
 | .cons l s k r,h=>by
  simp only[pureF,Qu,Rf]at h;simp only[wrF,szF,Qx];rw[qV h.1.1 (yi h.1.2),yi h.2]
theorem xO (hm:mixed l s n=false)(hp:pureF k=true)(hn:n=k.len):0<(wr1 l s (szF k) (wrF k)).length/\(wr1 l s (szF k) (wrF k)).length<=sz1 l s (szF k):=by
 subst hn;rw[qV hm (yi hp)];exact⟨zgl l s (szF k),QH _⟩
theorem zgs (hm:mixed l s n=false)(hp:pureF k=true)(hz:sz1 l s (szF k)<=4000)(hn:n=k.len):s.size+wtF k<=4000+9*k.cnt:=by
 have h1:=zdA hp;unfold sz1 at hz;split at hz
 ·rename_i h
  have h2:=jJ hm h;have:=len_zero (hn▸h2);subst this;have:=jV h;simp only[wtF];omega
 ·omega
end
theorem zgt {s:Qa}{n:Nat}{b:Bool}(h:decide (s.size≠0)=b):b=mixed true s n:=h.symm
theorem zgu {s:Qa}{n:Nat}{b:Bool}(h:decide (n≠0)=b):b=mixed false s n:=h.symm
theorem zlY (l:Bool)(s:Qa)(p:Qc)(n c:Nat)(k:Fo)(hs:s.size<=0x800000000000):FnP Tryz.prog 93 #[.agg #[.bool l,.string s,.slice p n c]] (fun w=>zq w.heap.size w p n k) (.bool (mixed l s n)):=by
 refine zR [.tmp 2] 12 Tryz.func93 fun w hpre=>?_;have H0:=St.start w;have hn:=hpre.1;have hnm:=hpre.2.1;refine rS [.b,.v] H0 kr fun gs1 w1 H1=>?_;clear H0;refine za kr<|rS [.v,.l 0] H1 kr fun gs2 w2 H2=>?_;clear H1;refine Vq (Q4 (l)).symm (fun hq1=>?_) (fun hq1=>?_)
 ·refine yv 4 (v:=.bool l) (v':=.bool false) (zc hq1) kr<|zi kr kr<|zj kr<|wW<|zd [0,1,2,3,4] kr kr<|rp [.v,.l 0,.v] H2 kr fun gs3 w3 H3=>wX [3,4] ?_;clear H2;by_cases hc1:(n:Nat)>0
  ·refine rp [itT (0<(n:Int)),.v] H3 kr fun gs4 w4 H4=>wX [] ?_;clear H3;refine zb<|zk kr<|wV ?_;refine⟨[.bool true],(.tmp (.bool true) kr .nil),?_,H4.below⟩;rw[hq1];exact zc (zgu (decide_eq_true (by omega)))
  ·refine rp [itF (0<(n:Int)),.v] H3 kr fun gs5 w5 H5=>wX [] ?_;clear H3;refine zb<|zk kr<|wV ?_;refine⟨[.bool false],(.tmp (.bool false) kr .nil),?_,H5.below⟩;rw[hq1];exact zc (zgu (decide_eq_false (by omega)))
 ·refine yv 4 (v:=.bool l) (v':=.bool true) (zc hq1) kr<|zh kr kr<|zd [0,1,2,3] kr kr<|rp [.v,.l 0] H2 kr fun gs6 w6 H6=>wX [2,3] ?_;clear H2;by_cases hx2:s=⟨#[]⟩
  ·refine rp [itE s (⟨#[]⟩) hx2,.v] H6 kr fun gs7 w7 H7=>wX [] ?_;clear H6;refine zb<|zk kr<|wV ?_;refine⟨[.bool false],(.tmp (.bool false) kr .nil),?_,H7.below⟩;rw[hq1];exact zc (zgt (decide_eq_false (by rw[hx2];decide)))
  ·refine rp [itO s (⟨#[]⟩) hx2,.v] H6 kr fun gs8 w8 H8=>wX [] ?_;clear H6;refine zb<|zk kr<|wV ?_;refine⟨[.bool true],(.tmp (.bool true) kr .nil),?_,H8.below⟩;rw[hq1];exact zc (zgt (decide_eq_true (ux hx2)))
theorem zlZ (m:Nat)(ih: ∀(l:Bool) (s:Qa) (p:Qc) (n c:Nat) (k:Fo) (room:Nat),s.size<=0x800000000000->room<=4000->k.cnt<m->FnP Tryz.prog 65 #[.agg #[.bool l,.string s,.slice p n c],.int .i64 (room:Int)] (fun w=>zq w.heap.size w p n k) (.int .i64 (lfV (lf1 l s n (lfF k) room))))(l:Bool)(s:Qa)(p:Qc)(n c:Nat)(k:Fo)(hs:s.size<=0x800000000000)(room:Nat)(hro:room<=4000)(hkm:k.cnt<m+1):FnP Tryz.prog 65 #[.agg #[.bool l,.string s,.slice p n c],.int .i64 (room:Int)] (fun w=>zq w.heap.size w p n k) (.int .i64 (lfV (lf1 l s n (lfF k) room))):=by
 refine zR [.tmp 4] 30 Tryz.func65 fun w hpre=>?_;have H0:=St.start w;have hn:=hpre.1;have hnm:=hpre.2.1;refine rS [.b,.v] H0 kr fun gs1 w1 H1=>?_;clear H0;refine za kr<|zd [0,1,2,3,4,5] kr kr<|rp [.v] H1 kr fun gs2 w2 H2=>wX [1,2,3,4,5] ?_;clear H1;by_cases hc1:(room:Nat)=0
 ·refine rp [itQ (room:Int) 0,.v,.n,.n,.v] H2 kr fun gs3 w3 H3=>wX [] ?_;clear H2;refine zb<|zh kr kr<|rS [.v] H3 kr fun gs4 w4 H4=>?_;clear H3;refine zk kr<|wV ?_;refine⟨[.int .i64 (-1)],(.tmp (.int .i64 (-1)) kr .nil),?_,H4.below⟩;exact zf (zlJ (by omega)).symm
 ·refine rp [itD (room:Int) 0,.v,.l 0,.cp (pre:=fun w=>zq w.heap.size w p n k) (zlY l s p n c k (by omega)) [] (fun w hb hd=>(zq.call hpre hb)),.v] H2 kr fun gs5 w5 H5=>wX [] ?_;clear H2;refine zb<|Vq (Q4 (mixed l s n)).symm (fun hq1=>?_) (fun hq1=>?_)
  ·refine yv 11 (v:=.bool (mixed l s n)) (v':=.bool false) (zc hq1) kr<|yv 12 (v:=.bool (mixed l s n)) (v':=.bool false) (zc hq1) kr<|zi kr kr<|zj kr<|wW<|rS [.v,.E (.int .i64 (Qz.wrap ((room:Int)-1))) (.int .i64 ((room-1:Nat):Int)) (zf (kZ (a:=room) (b:=1) (by omega))),.v] H5 kr fun gs6 w6 H6=>?_;clear H5;refine za kr<|rS [.v,.l 0,.v,.v] H6 kr fun gs7 w7 H7=>?_;clear H6;refine zm 0 kr ?_;have HL2:St w.heap.size w w7 [((gs1 0).b,Qk #[.bool l,.string s,.slice p n c] 58 (0,0))]:=H7.as kr;clear H7;have HD3:St w.heap.size w w7 []:=HL2.sub (Qs _ QS);refine zO kr (fun mz ρ ww=> ∃(i:Nat) (r:Fo) (q:Nat),n-i=mz/\(FoR w.heap.size w p i r)/\(i+Fo.len r=n)/\(q<=4000)/\(Fo.cnt r<=Fo.cnt k)/\(lfF k (room-1)=lfF r q)/\St w.heap.size w ww []/\Is [(0,.agg #[.bool l,.string s,.slice p n c]),(1,.int .i64 (q:Int)),(2,Qe (gs1 0).b),(12,.bool false),(16,.slice p n c),(17,.int .i64 (n:Int)),(18,.int .i64 (i:Int))] ρ) (n-0) ⟨0,k,(room-1),rfl,(zq.start hpre),(by have hn0:=(hpre).1;omega),(by omega),(QH _),rfl,HD3,zl⟩ ?_;clear HD3;rintro _ _ w8 ⟨i,r,q,rfl,hR,hN,hq0,hcn,hlf,H8,_,rfl⟩;by_cases hc4:(i:Nat)<n
   ·refine rS [itT ((i:Int)<(n:Int))] H8 kr fun gs9 w9 H9=>?_;clear H8;refine za kr<|zh kr kr<|zj kr<|wW<|za kr<|zm 1 kr ?_;obtain⟨l1,s1,k1,r1,b1,off1,C1,T1,fz1,p1,n1,c1,hr1,hp1,hb1,hh1,hs1,hx1,hz1,hk1,hR1,hN1⟩:=FoR.open hR hN (by omega);refine rS [itX 16 18 47 58 3 48 b1 off1 n c i hp1,.fp (off:=off1+i*3) (n:=3) (W:=#[.bool l1,.string s1,.slice p1 n1 c1]) hh1 hb1 hs1 hx1,.a,.s 0] H9 kr fun gs10 w10 H10=>?_;clear H9;refine zt [0,1,2,6,12,16,17,18,19] fun ρ1=>?_;have HK5:=H10.keep;clear H10;have hcn1:=hcn;rw[hr1]at hcn1;simp only[Fo.cnt]at hcn1;refine zd [0,1,2,3] kr kr<|rp [.l 0,.v,.cp (pre:=fun w=>zq w.heap.size w p1 n1 k1) (ih l1 s1 p1 n1 c1 k1 q hz1 (by omega) (by omega)) [] (fun w hb hd=>(zq.call hk1 hb))] HK5 kr fun gs11 w11 H11=>wX [3] ?_;clear HK5;rcases zdB (lf1 l1 s1 n1 (lfF k1) q) with hv1 | ⟨y,hv1⟩
    ·refine zL 24 (v:=.int .i64 (lfV (lf1 l1 s1 n1 (lfF k1) q))) (v':=.int .i64 (-1)) (zf (show (lfV (lf1 l1 s1 n1 (lfF k1) q))= -1 from by rw[hv1];rfl)) kr<|rp [.v] H11 kr fun gs12 w12 H12=>wX [] ?_;clear H11;refine zb<|rS [.v,.v] H12 kr fun gs13 w13 H13=>?_;clear H12;refine zh kr kr<|rS [.v,.v] H13 kr fun gs14 w14 H14=>?_;clear H13;refine zk kr<|wV ?_;refine⟨[.int .i64 (-1)],(.tmp (.int .i64 (-1)) kr .nil),?_,H14.below⟩;refine zf ?_;rw[zgm (by omega) hq1,hlf,hr1];exact(zlM hk1.1 hv1).symm
    ·refine zL 24 (v:=.int .i64 (lfV (lf1 l1 s1 n1 (lfF k1) q))) (v':=.int .i64 (y:Int)) (zf (show (lfV (lf1 l1 s1 n1 (lfF k1) q))=(y:Int) from by rw[hv1];rfl)) kr ?_;have hy4:=zlI hv1;refine rp [.v] H11 kr fun gs15 w15 H15=>wX [] ?_;clear H11;refine zb<|rS [.v,itF ((y:Int)<0)] H15 kr fun gs16 w16 H16=>?_;clear H15;refine zi kr kr<|zj kr<|wW<|rL [itI i 1,.v] H16 kr fun gs17 w17 H17=>?_;clear H16;have HL6:St w.heap.size w w17 [((gs10 2).b,Qk #[.bool l1,.string s1,.slice p1 n1 c1] 58 (0,0))]:=H17.as kr;clear H17;have HD7:St w.heap.size w w17 []:=HL6.sub (Qs _ QS);show ∃m,_/\_;exact⟨_,(by omega),(i+1),r1,y,rfl,hR1,hN1,(by omega),(by omega),(by rw[hlf,hr1];exact zlL hk1.1 hv1),HD7,zl⟩
   ·refine rS [itF ((i:Int)<(n:Int))] H8 kr fun gs18 w18 H18=>?_;clear H8;refine za kr<|zi kr kr<|zE 0 kr<|wW<|rS [.v,.v] H18 kr fun gs19 w19 H19=>?_;clear H18;refine zk kr<|wV ?_;refine⟨[.int .i64 (q:Int)],(.tmp (.int .i64 (q:Int)) kr .nil),?_,H19.below⟩;refine zf ?_;rw[zgm (by omega) hq1,hlf,FoR.done hN (by omega)];rfl
  ·refine yv 11 (v:=.bool (mixed l s n)) (v':=.bool true) (zc hq1) kr<|yv 12 (v:=.bool (mixed l s n)) (v':=.bool true) (zc hq1) kr<|zh kr kr<|rS [.v] H5 kr fun gs20 w20 H20=>?_;clear H5;refine zk kr<|wV ?_;refine⟨[.int .i64 (-1)],(.tmp (.int .i64 (-1)) kr .nil),?_,H20.below⟩;exact zf (zlK hq1).symm
theorem left_fn (l:Bool)(s:Qa)(p:Qc)(n c:Nat)(k:Fo)(hs:s.size<=0x800000000000)(room:Nat)(hro:room<=4000):FnP Tryz.prog 65 #[.agg #[.bool l,.string s,.slice p n c],.int .i64 (room:Int)] (fun w=>zq w.heap.size w p n k) (.int .i64 (lfV (lf1 l s n (lfF k) room))):=by
 have key: ∀(m:Nat) (l:Bool) (s:Qa) (p:Qc) (n c:Nat) (k:Fo) (room:Nat),s.size<=0x800000000000->room<=4000->k.cnt<m->FnP Tryz.prog 65 #[.agg #[.bool l,.string s,.slice p n c],.int .i64 (room:Int)] (fun w=>zq w.heap.size w p n k) (.int .i64 (lfV (lf1 l s n (lfF k) room))):=by
  intro m
  induction m with
  | zero=>intros;omega
  | succ m ih=>intro l s p n c k room hs hro hkm;exact zlZ m ih l s p n c k hs room hro hkm
 exact key (k.cnt+1) l s p n c k room hs hro (by omega)
theorem zl0 (m:Nat)(ih: ∀(l:Bool) (s:Qa) (p:Qc) (n c:Nat) (k:Fo),s.size<=0x800000000000->k.cnt<=1000000->k.cnt<m->FnP Tryz.prog 47 #[.agg #[.bool l,.string s,.slice p n c]] (fun w=>zq w.heap.size w p n k) (.int .i64 ((dp1 l (dpF k):Nat):Int)))(l:Bool)(s:Qa)(p:Qc)(n c:Nat)(k:Fo)(hs:s.size<=0x800000000000)(hk6:k.cnt<=1000000)(hkm:k.cnt<m+1):FnP Tryz.prog 47 #[.agg #[.bool l,.string s,.slice p n c]] (fun w=>zq w.heap.size w p n k) (.int .i64 ((dp1 l (dpF k):Nat):Int)):=by
 refine zR [.tmp 2] 23 Tryz.func47 fun w hpre=>?_;have H0:=St.start w;have hn:=hpre.1;have hnm:=hpre.2.1;have hdk:=zbz k;refine rS [.b,.v] H0 kr fun gs1 w1 H1=>?_;clear H0;refine za kr<|zd [0,1,2] kr kr<|rp [.v,.l 0] H1 kr fun gs2 w2 H2=>wX [2] ?_;clear H1;refine Vq (Q4 (l)).symm (fun hq1=>?_) (fun hq1=>?_)
 ·refine zL 7 (v:=.bool l) (v':=.bool false) (zc hq1) kr<|rp [.v] H2 kr fun gs3 w3 H3=>wX [] ?_;clear H2;refine zb<|zh kr kr<|rS [.v] H3 kr fun gs4 w4 H4=>?_;clear H3;refine zk kr<|wV ?_;refine⟨[.int .i64 0],(.tmp (.int .i64 0) kr .nil),?_,H4.below⟩;rw[hq1];rfl
 ·refine zL 7 (v:=.bool l) (v':=.bool true) (zc hq1) kr<|rp [.v] H2 kr fun gs5 w5 H5=>wX [] ?_;clear H2;refine zb<|zi kr kr<|zj kr<|wW<|rS [.v] H5 kr fun gs6 w6 H6=>?_;clear H5;refine za kr<|rS [.v,.l 0,.v,.v] H6 kr fun gs7 w7 H7=>?_;clear H6;refine zm 0 kr ?_;have HL1:St w.heap.size w w7 [((gs1 0).b,Qk #[.bool l,.string s,.slice p n c] 58 (0,0))]:=H7.as kr;clear H7;have HD2:St w.heap.size w w7 []:=HL1.sub (Qs _ QS);refine zO kr (fun mz ρ ww=> ∃(i:Nat) (r:Fo) (d:Nat),n-i=mz/\(FoR w.heap.size w p i r)/\(i+Fo.len r=n)/\(Fo.cnt r<=Fo.cnt k)/\(dpF k=max d (dpF r))/\St w.heap.size w ww []/\Is [(0,.agg #[.bool l,.string s,.slice p n c]),(1,Qe (gs1 0).b),(2,.int .i64 0),(3,.int .i64 (d:Int)),(8,.bool false),(10,.slice p n c),(11,.int .i64 (n:Int)),(12,.int .i64 (i:Int))] ρ) (n-0) ⟨0,k,0,rfl,(zq.start hpre),(by have hn0:=(hpre).1;omega),(QH _),(by omega),HD2,zl⟩ ?_;clear HD2;rintro _ _ w8 ⟨i,r,d,rfl,hR,hN,hcn,hd,H8,_,rfl⟩;by_cases hc3:(i:Nat)<n
  ·refine rS [itT ((i:Int)<(n:Int))] H8 kr fun gs9 w9 H9=>?_;clear H8;refine za kr<|zh kr kr<|zj kr<|wW<|za kr<|zm 1 kr ?_;obtain⟨l1,s1,k1,r1,b1,off1,C1,T1,fz1,p1,n1,c1,hr1,hp1,hb1,hh1,hs1,hx1,hz1,hk1,hR1,hN1⟩:=FoR.open hR hN (by omega);refine rS [itX 10 12 47 58 3 48 b1 off1 n c i hp1,.fp (off:=off1+i*3) (n:=3) (W:=#[.bool l1,.string s1,.slice p1 n1 c1]) hh1 hb1 hs1 hx1,.a,.s 0] H9 kr fun gs10 w10 H10=>?_;clear H9;have hcn1:=hcn;rw[hr1]at hcn1;simp only[Fo.cnt]at hcn1;refine rL [.v,.l 0,.cp (pre:=fun w=>zq w.heap.size w p1 n1 k1) (ih l1 s1 p1 n1 c1 k1 hz1 (by omega) (by omega)) [] (fun w hb hd=>(zq.call hk1 hb)),.E (.int .i64 (if (((dp1 l1 (dpF k1):Nat):Int):Int)>((d:Int):Int) then (((dp1 l1 (dpF k1):Nat):Int):Int) else ((d:Int):Int))) (.int .i64 ((max d (dp1 l1 (dpF k1)):Nat):Int)) (zf (zkm d (dp1 l1 (dpF k1)))),.v] H10 kr fun gs11 w11 H11=>?_;clear H10;refine wW<|zt [0,1,2,3,5,8,10,11,12,13] fun ρ1=>?_;have HK4:=H11.keep;clear H11;refine rL [itI i 1,.v] HK4 kr fun gs12 w12 H12=>?_;clear HK4;have HL5:St w.heap.size w w12 [((gs10 2).b,Qk #[.bool l1,.string s1,.slice p1 n1 c1] 58 (0,0))]:=H12.as kr;clear H12;have HD6:St w.heap.size w w12 []:=HL5.sub (Qs _ QS);show ∃m,_/\_;exact⟨_,(by omega),(i+1),r1,(max d (dp1 l1 (dpF k1))),rfl,hR1,hN1,(by omega),(by rw[hd,hr1];simp only[dpF];omega),HD6,zl⟩
  ·refine rS [itF ((i:Int)<(n:Int))] H8 kr fun gs13 w13 H13=>?_;clear H8;refine za kr<|zi kr kr<|zE 0 kr<|wW<|rS [.v,.E (.int .i64 (Qz.wrap (1+(d:Int)))) (.int .i64 ((1+d:Nat):Int)) (zf (ya (a:=1) (b:=d) (by omega))),.v] H13 kr fun gs14 w14 H14=>?_;clear H13;refine zk kr<|wV ?_;refine⟨[.int .i64 ((1+d:Nat):Int)],(.tmp (.int .i64 ((1+d:Nat):Int)) kr .nil),?_,H14.below⟩;refine zf ?_;rw[hq1,hd,FoR.done hN (by omega)];show ((1+d:Nat):Int)=((1+max d 0:Nat):Int);omega
theorem zdG (l:Bool)(s:Qa)(p:Qc)(n c:Nat)(k:Fo)(hs:s.size<=0x800000000000)(hk6:k.cnt<=1000000):FnP Tryz.prog 47 #[.agg #[.bool l,.string s,.slice p n c]] (fun w=>zq w.heap.size w p n k) (.int .i64 ((dp1 l (dpF k):Nat):Int)):=by
 have key: ∀(m:Nat) (l:Bool) (s:Qa) (p:Qc) (n c:Nat) (k:Fo),s.size<=0x800000000000->k.cnt<=1000000->k.cnt<m->FnP Tryz.prog 47 #[.agg #[.bool l,.string s,.slice p n c]] (fun w=>zq w.heap.size w p n k) (.int .i64 ((dp1 l (dpF k):Nat):Int)):=by
  intro m
  induction m with
  | zero=>intros;omega
  | succ m ih=>intro l s p n c k hs hk6 hkm;exact zl0 m ih l s p n c k hs hk6 hkm
 exact key (k.cnt+1) l s p n c k hs hk6 (by omega)
theorem zbB (s:Qa):Fn Tryz.prog 94 #[.string s] (.bool (yf s)):=by
 refine zv [.tmp 2] 11 Tryz.func94 fun w=>?_;have H0:=St.start w;refine rS [.v] H0 kr fun gs1 w1 H1=>?_;clear H0;refine zd [0,1,2,3,4,5,6,7,8] kr kr<|rp [.v,.v] H1 kr fun gs2 w2 H2=>wX [2,3,4,5,6,7,8] ?_;clear H1;by_cases hc1:(Ql s:Nat)=1
 ·refine rp [itQ (Ql s:Int) 1,.v,.v,itC 7 (.const (.int .i64 0)) 9 s 0] H2 kr fun gs3 w3 H3=>wX [6,7,8] ?_;clear H2;by_cases hc2:(by_ s 0:Nat)<128
  ·refine rp [itT (((by_ s 0:Nat):Int)<128),.v,.v] H3 kr fun gs4 w4 H4=>wX [] ?_;clear H3;refine zb<|zk kr<|wV ?_;refine⟨[.bool true],(.tmp (.bool true) kr .nil),?_,H4.below⟩;exact zc (by unfold yf;simp[*])
  ·refine rp [itF (((by_ s 0:Nat):Int)<128),.v,.v] H3 kr fun gs5 w5 H5=>wX [] ?_;clear H3;refine zb<|zk kr<|wV ?_;refine⟨[.bool false],(.tmp (.bool false) kr .nil),?_,H5.below⟩;exact zc (by unfold yf;simp[*])
 ·refine rp [itD (Ql s:Int) 1,.v,.n,.n,.n,.v,.v] H2 kr fun gs6 w6 H6=>wX [] ?_;clear H2;refine zb<|zk kr<|wV ?_;refine⟨[.bool false],(.tmp (.bool false) kr .nil),?_,H6.below⟩;exact zc (by unfold yf;simp[*])
theorem zl1 (s:Qa)(hs:Ql s<=0x800000000000):Fn Tryz.prog 160 #[.string s,.int .u8 0] (.string (zg ((tl s).dropWhile (·==0)))):=by
 refine zv [.tmp 4] 17 Tryz.func160 fun w=>?_;have H0:=St.start w;refine rS [.v] H0 kr fun gs1 w1 H1=>?_;clear H0;refine za kr<|zm 0 kr ?_;have HL1:St w.heap.size w w1 []:=H1.as kr;clear H1;refine zO kr (fun mz ρ ww=> ∃(t:Qa),Ql t=mz/\((tl t).dropWhile (·==0)=(tl s).dropWhile (·==0))/\(Ql t<=Ql s)/\St w.heap.size w ww []/\Is [(0,.string t),(1,.int .u8 0),(4,.string (⟨#[]⟩))] ρ) (Ql s) ⟨s,rfl,rfl,(QH _),HL1,zl⟩ ?_;clear HL1;rintro _ _ w2 ⟨t,rfl,ht,htz,H2,_,rfl⟩;refine za kr<|zd [0,1,2,3,4,5,6,7,8] kr kr<|rp [.v,.v] H2 kr fun gs3 w3 H3=>wX [2,3,4,5,6,7,8] ?_;clear H2;by_cases hc2:(Ql t:Nat)>0
 ·refine rp [itT (0<(Ql t:Int)),.v,.v,itC 9 (.const (.int .i64 0)) 9 t 0,.v] H3 kr fun gs4 w4 H4=>wX [7,8] ?_;clear H3;by_cases hc3:(by_ t 0:Nat)=0
  ·refine rp [itQ ((by_ t 0:Nat):Int) 0,.v] H4 kr fun gs5 w5 H5=>wX [] ?_;clear H4;refine zb<|zh kr kr<|zj kr<|wW<|zm 1 kr<|rL [.v,.o (ins:=[((.tmp 14),.string t),((.const (.int .i64 1)),.int .i64 1)]) (v:=.string (Qv t 1 (Ql t))) (fun ρ o w ho hi=>uq (t:=9) (kz:=.i64) kr (x:=(.tmp 14)) (z:=(.const (.int .i64 1))) t 1 ho hi.1 hi.2.1 (by omega) w),.v] H5 kr fun gs6 w6 H6=>?_;clear H5;have HL4:St w.heap.size w w6 []:=H6.as kr;clear H6;show ∃m,_/\_;exact⟨_,(by rw[zgp t (by omega)];omega),(Qv t 1 (Ql t)),rfl,(by rw[zlO t (by omega) (by omega)];exact ht),(by rw[zgp t (by omega)];omega),HL4,zl⟩
  ·refine rp [itD ((by_ t 0:Nat):Int) 0,.v] H4 kr fun gs7 w7 H7=>wX [] ?_;clear H4;refine zb<|zi kr kr<|zE 0 kr<|wW<|rS [.v,.v] H7 kr fun gs8 w8 H8=>?_;clear H7;refine zk kr<|wV ?_;refine⟨[.string t],(.tmp (.string t) kr .nil),?_,H8.below⟩;have hdone:zg ((tl s).dropWhile (·==0))=t:=by rw[<-ht];exact zbA t (by omega)
   exact congrArg RQ hdone.symm
 ·refine rp [itF (0<(Ql t:Int)),.v,.n,.n,.n,.n,.v] H3 kr fun gs9 w9 H9=>wX [] ?_;clear H3;refine zb<|zi kr kr<|zE 0 kr<|wW<|rS [.v,.v] H9 kr fun gs10 w10 H10=>?_;clear H9;refine zk kr<|wV ?_;refine⟨[.string t],(.tmp (.string t) kr .nil),?_,H10.below⟩;have hdone:zg ((tl s).dropWhile (·==0))=t:=by rw[<-ht];exact zbA t (by omega)
  exact congrArg RQ hdone.symm
theorem zl2 (s:Qa)(hs:Ql s<=0x800000000000):Fn Tryz.prog 151 #[.string s,.string (⟨#[0]⟩)] (.string (zg ((tl s).dropWhile (·==0)))):=by
 refine zv [.tmp 4] 37 Tryz.func151 fun w=>?_;have H0:=St.start w;refine rS [.v] H0 kr fun gs1 w1 H1=>?_;clear H0;refine za kr<|zd [0,1,2,3,4,5] kr kr<|rp [.v] H1 kr fun gs2 w2 H2=>wX [1,2,3,4,5] ?_;clear H1;by_cases hx1:s=⟨#[]⟩
 ·refine rp [.E (.bool (Rs s==Rs (⟨#[]⟩))) (.bool true) (zc (xu s (⟨#[]⟩) hx1)),.v,.n,.n,.v] H2 kr fun gs3 w3 H3=>wX [] ?_;clear H2;refine zb<|zh kr kr<|rS [.v,.v] H3 kr fun gs4 w4 H4=>?_;clear H3;refine zk kr<|wV ?_;refine⟨[.string s],(.tmp (.string s) kr .nil),?_,H4.below⟩;exact congrArg RQ (zdD (by assumption)).symm
 ·refine rp [.E (.bool (Rs s==Rs (⟨#[]⟩))) (.bool false) (zc (jG s (⟨#[]⟩) hx1)),.v,.v,.E (.bool (Rs (⟨#[0]⟩)==Rs (⟨#[]⟩))) (.bool false) (zc (jG (⟨#[0]⟩) (⟨#[]⟩) (fun h=>absurd (congrArg Ql h) (by decide)))),.v] H2 kr fun gs5 w5 H5=>wX [] ?_;clear H2;refine zb<|zi kr kr<|zj kr<|wW<|za kr<|rS [.v,.v,.v,.v,.v,.oe (ins:=[((.tmp 18),.string (⟨#[0]⟩)),((.const (.int .i64 0)),.int .i64 0)]) (v:=.int .u8 ((by_ (⟨#[0]⟩) 0:Nat):Int)) (v':=.int .u8 0) (fun ρ o w ho hi=>yy (t:=9) (kd:=.i64) kr (x:=(.tmp 18)) (y:=(.const (.int .i64 0))) (⟨#[0]⟩) 0 ho hi.1 hi.2.1 (by decide) w) (zf (by decide)),.v,.v] H5 kr fun gs6 w6 H6=>?_;clear H5;refine zh kr kr<|rS [.v,.v,.oe (ins:=[((.tmp 23),.string (⟨#[0]⟩)),((.const (.int .i64 0)),.int .i64 0)]) (v:=.int .u8 ((by_ (⟨#[0]⟩) 0:Nat):Int)) (v':=.int .u8 0) (fun ρ o w ho hi=>yy (t:=9) (kd:=.i64) kr (x:=(.tmp 23)) (y:=(.const (.int .i64 0))) (⟨#[0]⟩) 0 ho hi.1 hi.2.1 (by decide) w) (zf (by decide)),.c (zl1 s (by omega)),.v] H6 kr fun gs7 w7 H7=>?_;clear H6;refine zk kr<|wV ?_;refine⟨[.string (zg ((tl s).dropWhile (·==0)))],(.tmp (.string (zg ((tl s).dropWhile (·==0)))) kr .nil),?_,H7.below⟩;rfl
theorem zdH (n:Nat)(hn:n<0x10000000000000000):Fn Tryz.prog 133 #[.int .u64 (n:Int)] (.string (zg (dg n))):=by
 refine zv [.tmp 2] 20 Tryz.func133 fun w=>?_;have H0:=St.start w;refine rS [.v] H0 kr fun gs1 w1 H1=>?_;clear H0;refine rS [.a] H1 kr fun gs2 w2 H2=>?_;clear H1;refine za kr<|rS [.v] H2 kr fun gs3 w3 H3=>?_;clear H2;refine zm 0 kr ?_;have HL1:St w.heap.size w w3 [((gs2 0).b,Qk #[.int .u8 0,.int .u8 0,.int .u8 0,.int .u8 0,.int .u8 0,.int .u8 0,.int .u8 0,.int .u8 0] 189 (0,0))]:=H3.as kr;clear H3;refine zcX kr<|rS [.v] HL1 kr fun gs4 w4 H4=>?_;clear HL1;refine za kr<|zh kr kr<|zj kr<|wW<|za kr<|zm 1 kr<|rS [.v,.v] H4 kr fun gs5 w5 H5=>?_;clear H4;refine rL [.v,.v,.v,.v,.v,.E (.int .u64 (Vc ((n:Int)) (2^0))) (.int .u64 (n:Int)) (zf (zlN (a:=n) (by omega))),.E (.int .u8 (QG.wrap ((n:Int)))) (.int .u8 (Qj (dgB n 1):Int)) (zlQ n),.v,.s 0] H5 kr fun gs6 w6 H6=>?_;clear H5;refine wW ?_;have HL2:St w.heap.size w w6 [((gs2 0).b,Qk #[.int .u8 0,.int .u8 0,.int .u8 0,.int .u8 0,.int .u8 0,.int .u8 0,.int .u8 0,.int .u8 (Qj (dgB n 1):Int)] 189 (0,0))]:=H6.as kr;clear H6;refine rL [.v,.v] HL2 kr fun gs7 w7 H7=>?_;clear HL2;show WPL _ _ _ _ _ _;refine yO<|zt [0,2,3,4,5,6] fun ρ1=>?_;have HK3:=H7.keep;clear H7;refine rS [.v] HK3 kr fun gs8 w8 H8=>?_;clear HK3;refine za kr<|zh kr kr<|zj kr<|wW<|za kr<|zm 1 kr<|rS [.v,.v] H8 kr fun gs9 w9 H9=>?_;clear H8;refine rL [.v,.v,.v,.v,.v,.E (.int .u64 (Vc (n:Int) (2^8))) (.int .u64 ((n / 256:Nat):Int)) (zf (vM (k:=8) n 256 rfl)),.E (.int .u8 (QG.wrap (((n / 256:Nat):Int)))) (.int .u8 (Qj (dgB n 256):Int)) (vi n 256),.v,.s 0] H9 kr fun gs10 w10 H10=>?_;clear H9;refine wW ?_;have HL4:St w.heap.size w w10 [((gs2 0).b,Qk #[.int .u8 0,.int .u8 0,.int .u8 0,.int .u8 0,.int .u8 0,.int .u8 0,.int .u8 (Qj (dgB n 256):Int),.int .u8 (Qj (dgB n 1):Int)] 189 (0,0))]:=H10.as kr;clear H10;refine rL [.v,.v] HL4 kr fun gs11 w11 H11=>?_;clear HL4;show WPL _ _ _ _ _ _;refine yO<|rS [.v] H11 kr fun gs12 w12 H12=>?_;clear H11;refine za kr<|zh kr kr<|zj kr<|wW<|za kr<|zm 1 kr<|rS [.v,.v] H12 kr fun gs13 w13 H13=>?_;clear H12;refine zt [0,2,3,4,5,6] fun ρ2=>?_;have HK5:=H13.keep;clear H13;refine rL [.v,.v,.v,.v,.v,.E (.int .u64 (Vc (n:Int) (2^16))) (.int .u64 ((n / 65536:Nat):Int)) (zf (vM (k:=16) n 65536 rfl)),.E (.int .u8 (QG.wrap (((n / 65536:Nat):Int)))) (.int .u8 (Qj (dgB n 65536):Int)) (vi n 65536),.v,.s 0] HK5 kr fun gs14 w14 H14=>?_;clear HK5;refine wW ?_;have HL6:St w.heap.size w w14 [((gs2 0).b,Qk #[.int .u8 0,.int .u8 0,.int .u8 0,.int .u8 0,.int .u8 0,.int .u8 (Qj (dgB n 65536):Int),.int .u8 (Qj (dgB n 256):Int),.int .u8 (Qj (dgB n 1):Int)] 189 (0,0))]:=H14.as kr;clear H14;refine rL [.v,.v] HL6 kr fun gs15 w15 H15=>?_;clear HL6;show WPL _ _ _ _ _ _;refine yO<|rS [.v] H15 kr fun gs16 w16 H16=>?_;clear H15;refine za kr<|zh kr kr<|zj kr<|wW<|za kr<|zm 1 kr<|rS [.v,.v] H16 kr fun gs17 w17 H17=>?_;clear H16;refine rL [.v,.v,.v,.v,.v,.E (.int .u64 (Vc (n:Int) (2^24))) (.int .u64 ((n / 16777216:Nat):Int)) (zf (vM (k:=24) n 16777216 rfl)),.E (.int .u8 (QG.wrap (((n / 16777216:Nat):Int)))) (.int .u8 (Qj (dgB n 16777216):Int)) (vi n 16777216),.v,.s 0] H17 kr fun gs18 w18 H18=>?_;clear H17;refine wW<|zt [0,2,3,4,5,6] fun ρ3=>?_;have HK7:=H18.keep;clear H18;have HL8:St w.heap.size w w18 [((gs2 0).b,Qk #[.int .u8 0,.int .u8 0,.int .u8 0,.int .u8 0,.int .u8 (Qj (dgB n 16777216):Int),.int .u8 (Qj (dgB n 65536):Int),.int .u8 (Qj (dgB n 256):Int),.int .u8 (Qj (dgB n 1):Int)] 189 (0,0))]:=HK7.as kr;clear HK7;refine rL [.v,.v] HL8 kr fun gs19 w19 H19=>?_;clear HL8;show WPL _ _ _ _ _ _;refine yO<|rS [.v] H19 kr fun gs20 w20 H20=>?_;clear H19;refine za kr<|zh kr kr<|zj kr<|wW<|za kr<|zm 1 kr<|rS [.v,.v] H20 kr fun gs21 w21 H21=>?_;clear H20;refine rL [.v,.v,.v,.v,.v,.E (.int .u64 (Vc (n:Int) (2^32))) (.int .u64 ((n / 4294967296:Nat):Int)) (zf (vM (k:=32) n 4294967296 rfl)),.E (.int .u8 (QG.wrap (((n / 4294967296:Nat):Int)))) (.int .u8 (Qj (dgB n 4294967296):Int)) (vi n 4294967296),.v,.s 0] H21 kr fun gs22 w22 H22=>?_;clear H21;refine wW ?_;have HL9:St w.heap.size w w22 [((gs2 0).b,Qk #[.int .u8 0,.int .u8 0,.int .u8 0,.int .u8 (Qj (dgB n 4294967296):Int),.int .u8 (Qj (dgB n 16777216):Int),.int .u8 (Qj (dgB n 65536):Int),.int .u8 (Qj (dgB n 256):Int),.int .u8 (Qj (dgB n 1):Int)] 189 (0,0))]:=H22.as kr;clear H22;refine rL [.v,.v] HL9 kr fun gs23 w23 H23=>?_;clear HL9;show WPL _ _ _ _ _ _;refine yO<|rS [.v] H23 kr fun gs24 w24 H24=>?_;clear H23;refine zt [0,2,3,4,5,6] fun ρ4=>?_;have HK10:=H24.keep;clear H24;refine za kr<|zh kr kr<|zj kr<|wW<|za kr<|zm 1 kr<|rS [.v,.v] HK10 kr fun gs25 w25 H25=>?_;clear HK10;refine rL [.v,.v,.v,.v,.v,.E (.int .u64 (Vc (n:Int) (2^40))) (.int .u64 ((n / 1099511627776:Nat):Int)) (zf (vM (k:=40) n 1099511627776 rfl)),.E (.int .u8 (QG.wrap (((n / 1099511627776:Nat):Int)))) (.int .u8 (Qj (dgB n 1099511627776):Int)) (vi n 1099511627776),.v,.s 0] H25 kr fun gs26 w26 H26=>?_;clear H25;refine wW ?_;have HL11:St w.heap.size w w26 [((gs2 0).b,Qk #[.int .u8 0,.int .u8 0,.int .u8 (Qj (dgB n 1099511627776):Int),.int .u8 (Qj (dgB n 4294967296):Int),.int .u8 (Qj (dgB n 16777216):Int),.int .u8 (Qj (dgB n 65536):Int),.int .u8 (Qj (dgB n 256):Int),.int .u8 (Qj (dgB n 1):Int)] 189 (0,0))]:=H26.as kr;clear H26;refine rL [.v,.v] HL11 kr fun gs27 w27 H27=>?_;clear HL11;show WPL _ _ _ _ _ _;refine yO<|rS [.v] H27 kr fun gs28 w28 H28=>?_;clear H27;refine za kr<|zh kr kr<|zj kr<|wW<|za kr<|zm 1 kr<|rS [.v,.v] H28 kr fun gs29 w29 H29=>?_;clear H28;refine rL [.v,.v,.v,.v,.v,.E (.int .u64 (Vc (n:Int) (2^48))) (.int .u64 ((n / 281474976710656:Nat):Int)) (zf (vM (k:=48) n 281474976710656 rfl)),.E (.int .u8 (QG.wrap (((n / 281474976710656:Nat):Int)))) (.int .u8 (Qj (dgB n 281474976710656):Int)) (vi n 281474976710656),.v,.s 0] H29 kr fun gs30 w30 H30=>?_;clear H29;refine wW<|zt [0,2,3,4,5,6] fun ρ5=>?_;have HK12:=H30.keep;clear H30;have HL13:St w.heap.size w w30 [((gs2 0).b,Qk #[.int .u8 0,.int .u8 (Qj (dgB n 281474976710656):Int),.int .u8 (Qj (dgB n 1099511627776):Int),.int .u8 (Qj (dgB n 4294967296):Int),.int .u8 (Qj (dgB n 16777216):Int),.int .u8 (Qj (dgB n 65536):Int),.int .u8 (Qj (dgB n 256):Int),.int .u8 (Qj (dgB n 1):Int)] 189 (0,0))]:=HK12.as kr;clear HK12;refine rL [.v,.v] HL13 kr fun gs31 w31 H31=>?_;clear HL13;show WPL _ _ _ _ _ _;refine yO<|rS [.v] H31 kr fun gs32 w32 H32=>?_;clear H31;refine za kr<|zh kr kr<|zj kr<|wW<|za kr<|zm 1 kr<|rS [.v,.v] H32 kr fun gs33 w33 H33=>?_;clear H32;refine rL [.v,.v,.v,.v,.v,.E (.int .u64 (Vc (n:Int) (2^56))) (.int .u64 ((n / 72057594037927936:Nat):Int)) (zf (vM (k:=56) n 72057594037927936 rfl)),.E (.int .u8 (QG.wrap (((n / 72057594037927936:Nat):Int)))) (.int .u8 (Qj (dgB n 72057594037927936):Int)) (vi n 72057594037927936),.v,.s 0] H33 kr fun gs34 w34 H34=>?_;clear H33;refine wW ?_;have HL14:St w.heap.size w w34 [((gs2 0).b,Qk #[.int .u8 (Qj (dgB n 72057594037927936):Int),.int .u8 (Qj (dgB n 281474976710656):Int),.int .u8 (Qj (dgB n 1099511627776):Int),.int .u8 (Qj (dgB n 4294967296):Int),.int .u8 (Qj (dgB n 16777216):Int),.int .u8 (Qj (dgB n 65536):Int),.int .u8 (Qj (dgB n 256):Int),.int .u8 (Qj (dgB n 1):Int)] 189 (0,0))]:=H34.as kr;clear H34;refine rL [.v,.v] HL14 kr fun gs35 w35 H35=>?_;clear HL14;show WPL _ _ _ _ _ _;refine yO<|rS [.v] H35 kr fun gs36 w36 H36=>?_;clear H35;refine zt [0,2,3,4,5,6] fun ρ6=>?_;have HK15:=H36.keep;clear H36;refine za kr<|zi kr kr<|zE 0 kr<|wW ?_;have HL16:St w.heap.size w w36 [((gs2 0).b,Qk #[.int .u8 (Qj (dgB n 72057594037927936):Int),.int .u8 (Qj (dgB n 281474976710656):Int),.int .u8 (Qj (dgB n 1099511627776):Int),.int .u8 (Qj (dgB n 4294967296):Int),.int .u8 (Qj (dgB n 16777216):Int),.int .u8 (Qj (dgB n 65536):Int),.int .u8 (Qj (dgB n 256):Int),.int .u8 (Qj (dgB n 1):Int)] 189 (0,0))]:=HK15.as kr;clear HK15;have hz_1: ∀(ρ:Env) (o:Oper) (w:World),o.op=.slice 189 (.tmp 3) none none none->Ins (ev ρ) [((.tmp 3),Qe (gs2 0).b)]->(execOp (ev ρ) o).run Tryz.prog w=.ok (.value (Qf (gs2 0).b 8 8)) w:=(fun ρ o w ho hi=>zfN (t:=189) (n:=8) (e:=5) (z:=1) kr kr (x:=(.tmp 3)) ((gs2 0).b) ho hi.1 w)
 refine rS [.o hz_1,.x (op:=.convert 95 9 (.tmp 17)) (ins:=[((.tmp 17),Qf (gs2 0).b 8 8)]) [(0,((gs2 0).b,Qk #[.int .u8 (Qj (dgB n 72057594037927936):Int),.int .u8 (Qj (dgB n 281474976710656):Int),.int .u8 (Qj (dgB n 1099511627776):Int),.int .u8 (Qj (dgB n 4294967296):Int),.int .u8 (Qj (dgB n 16777216):Int),.int .u8 (Qj (dgB n 65536):Int),.int .u8 (Qj (dgB n 256):Int),.int .u8 (Qj (dgB n 1):Int)] 189 (0,0)))] (xX (t:=95) (t':=9) (e:=5) [(Qj (dgB n 72057594037927936):Int),(Qj (dgB n 281474976710656):Int),(Qj (dgB n 1099511627776):Int),(Qj (dgB n 4294967296):Int),(Qj (dgB n 16777216):Int),(Qj (dgB n 65536):Int),(Qj (dgB n 256):Int),(Qj (dgB n 1):Int)] kr kr kr (Rw.lit #[.int .u8 (Qj (dgB n 72057594037927936):Int),.int .u8 (Qj (dgB n 281474976710656):Int),.int .u8 (Qj (dgB n 1099511627776):Int),.int .u8 (Qj (dgB n 4294967296):Int),.int .u8 (Qj (dgB n 16777216):Int),.int .u8 (Qj (dgB n 65536):Int),.int .u8 (Qj (dgB n 256):Int),.int .u8 (Qj (dgB n 1):Int)] 8 (by rfl) (by unfold maxLen;omega))),.c (zl2 (strOfNums ([(Qj (dgB n 72057594037927936):Int),(Qj (dgB n 281474976710656):Int),(Qj (dgB n 1099511627776):Int),(Qj (dgB n 4294967296):Int),(Qj (dgB n 16777216):Int),(Qj (dgB n 65536):Int),(Qj (dgB n 256):Int),(Qj (dgB n 1):Int)])) (by rw[strOfNums_size];show 8<=0x800000000000;omega)),.v] HL16 kr fun gs37 w37 H37=>?_;clear HL16;refine zk kr<|wV ?_;refine⟨[.string (zg ((tl (strOfNums ([(Qj (dgB n 72057594037927936):Int),(Qj (dgB n 281474976710656):Int),(Qj (dgB n 1099511627776):Int),(Qj (dgB n 4294967296):Int),(Qj (dgB n 16777216):Int),(Qj (dgB n 65536):Int),(Qj (dgB n 256):Int),(Qj (dgB n 1):Int)]))).dropWhile (·==0)))],(.tmp (.string (zg ((tl (strOfNums ([(Qj (dgB n 72057594037927936):Int),(Qj (dgB n 281474976710656):Int),(Qj (dgB n 1099511627776):Int),(Qj (dgB n 4294967296):Int),(Qj (dgB n 16777216):Int),(Qj (dgB n 65536):Int),(Qj (dgB n 256):Int),(Qj (dgB n 1):Int)]))).dropWhile (·==0)))) kr .nil),?_,H37.below⟩;exact congrArg RQ (congrArg zg (zlT n hn))
theorem zgv (l:Bool)(s:Qa)(p:Qc)(n c m:Nat)(hm:m<0x10000000000000000):Fn Tryz.prog 96 #[.agg #[.bool l,.string s,.slice p n c],.int .u64 (m:Int)] (.string (zg (hd (frm l) m))):=by
 refine zv [.tmp 4] 29 Tryz.func96 fun w=>?_;have H0:=St.start w;refine rS [.b,.v] H0 kr fun gs1 w1 H1=>?_;clear H0;refine rS [.v] H1 kr fun gs2 w2 H2=>?_;clear H1;refine za kr<|rS [.v,.l 0] H2 kr fun gs3 w3 H3=>?_;clear H2;refine Vq (Q4 (l)).symm (fun hq1=>?_) (fun hq1=>?_)
 ·refine yv 8 (v:=.bool l) (v':=.bool false) (zc hq1) kr<|zi kr kr<|zj kr<|wW<|za kr<|zd [0,1] kr kr<|rp [.v] H3 kr fun gs4 w4 H4=>wX [1] ?_;clear H3;by_cases hc1:(m:Nat)<=55
  ·refine rp [itT ((m:Int)<=55)] H4 kr fun gs5 w5 H5=>wX [] ?_;clear H4;refine zb<|zh kr kr<|rS [.v,.v,.E (.int .u8 (QG.wrap ((m:Int)))) (.int .u8 (Qj (Qw 8 m):Int)) (vb m),.E (.int .u8 (QG.wrap ((128)+((Qj (Qw 8 m):Int))))) (.int .u8 (Qj ((128:BitVec 8)+(Qw 8 m)):Int)) (zam (128:BitVec 8) (Qw 8 m)),.nw (fun b=>Qf b 1 1) #[.int .u8 (Qj ((128:BitVec 8)+(Qw 8 m)):Int)] 5,.w fun nn=>.x (op:=.convert 95 9 (.tmp 15)) (ins:=[((.tmp 15),Qf (nn 1) 1 1)]) [(1,((nn 1),Qk #[.int .u8 (Qj ((128:BitVec 8)+(Qw 8 m)):Int)] 5 (0,0)))] (xX (t:=95) (t':=9) (e:=5) [(Qj ((128:BitVec 8)+(Qw 8 m)):Int)] kr kr kr (Rw.lit #[.int .u8 (Qj ((128:BitVec 8)+(Qw 8 m)):Int)] 1 (by rfl) (by unfold maxLen;omega))),.v] H5 kr fun gs6 w6 H6=>?_;clear H5;refine zk kr<|wV ?_;refine⟨[.string (strOfNums ([(Qj ((128:BitVec 8)+(Qw 8 m)):Int)]))],(.tmp (.string (strOfNums ([(Qj ((128:BitVec 8)+(Qw 8 m)):Int)]))) kr .nil),?_,H6.below⟩;exact congrArg RQ (zgn (f:=frm l) _ (by rw[hq1];rfl) m (by omega) (by rw[hq1];decide))
  ·refine rp [itF ((m:Int)<=55)] H4 kr fun gs7 w7 H7=>wX [] ?_;clear H4;refine zb<|zi kr kr<|zj kr<|wW<|rS [.v,.c (zdH m (by omega)),.v] H7 kr fun gs8 w8 H8=>?_;clear H7;refine rS [.v,.v,.v,.v,.E (.int .u8 (QG.wrap ((Ql (zg (dg m)):Int)))) (.int .u8 (Qj (Qw 8 (Ql (zg (dg m)))):Int)) (vb (Ql (zg (dg m)))),.E (.int .u8 (QG.wrap ((183)+((Qj (Qw 8 (Ql (zg (dg m)))):Int))))) (.int .u8 (Qj ((183:BitVec 8)+(Qw 8 (Ql (zg (dg m))))):Int)) (zam (183:BitVec 8) (Qw 8 (Ql (zg (dg m))))),.nw (fun b=>Qf b 1 1) #[.int .u8 (Qj ((183:BitVec 8)+(Qw 8 (Ql (zg (dg m))))):Int)] 5,.w fun nn=>.x (op:=.convert 95 9 (.tmp 25)) (ins:=[((.tmp 25),Qf (nn 1) 1 1)]) [(1,((nn 1),Qk #[.int .u8 (Qj ((183:BitVec 8)+(Qw 8 (Ql (zg (dg m))))):Int)] 5 (0,0)))] (xX (t:=95) (t':=9) (e:=5) [(Qj ((183:BitVec 8)+(Qw 8 (Ql (zg (dg m))))):Int)] kr kr kr (Rw.lit #[.int .u8 (Qj ((183:BitVec 8)+(Qw 8 (Ql (zg (dg m))))):Int)] 1 (by rfl) (by unfold maxLen;omega))),.v,.o (ins:=[((.tmp 26),.string (strOfNums ([(Qj ((183:BitVec 8)+(Qw 8 (Ql (zg (dg m))))):Int)]))),((.tmp 27),.string (zg (dg m)))]) (v:=.string ((strOfNums ([(Qj ((183:BitVec 8)+(Qw 8 (Ql (zg (dg m))))):Int)]))++(zg (dg m)))) (fun ρ o w ho hi=>jS (t:=9) (t':=9) (x:=(.tmp 26)) (y:=(.tmp 27)) (strOfNums ([(Qj ((183:BitVec 8)+(Qw 8 (Ql (zg (dg m))))):Int)])) (zg (dg m)) w ho hi.1 hi.2.1 (by rw[strOfNums_size,yU];have:=qB m;show 1+_<=_;omega)),.v] H8 kr fun gs9 w9 H9=>?_;clear H8;refine zk kr<|wV ?_;refine⟨[.string ((strOfNums ([(Qj ((183:BitVec 8)+(Qw 8 (Ql (zg (dg m))))):Int)]))++(zg (dg m)))],(.tmp (.string ((strOfNums ([(Qj ((183:BitVec 8)+(Qw 8 (Ql (zg (dg m))))):Int)]))++(zg (dg m)))) kr .nil),?_,H9.below⟩;exact congrArg RQ (zgo (f:=frm l) _ (by rw[hq1];rfl) m (by omega) (by rw[hq1];decide))
 ·refine yv 8 (v:=.bool l) (v':=.bool true) (zc hq1) kr<|zh kr kr<|rL [.v] H3 kr fun gs10 w10 H10=>?_;clear H3;refine wW<|za kr<|zd [0,1] kr kr<|rp [.v] H10 kr fun gs11 w11 H11=>wX [1] ?_;clear H10;by_cases hc2:(m:Nat)<=55
  ·refine rp [itT ((m:Int)<=55)] H11 kr fun gs12 w12 H12=>wX [] ?_;clear H11;refine zb<|zh kr kr<|rS [.v,.v,.E (.int .u8 (QG.wrap ((m:Int)))) (.int .u8 (Qj (Qw 8 m):Int)) (vb m),.E (.int .u8 (QG.wrap ((192)+((Qj (Qw 8 m):Int))))) (.int .u8 (Qj ((192:BitVec 8)+(Qw 8 m)):Int)) (zam (192:BitVec 8) (Qw 8 m)),.nw (fun b=>Qf b 1 1) #[.int .u8 (Qj ((192:BitVec 8)+(Qw 8 m)):Int)] 5,.w fun nn=>.x (op:=.convert 95 9 (.tmp 15)) (ins:=[((.tmp 15),Qf (nn 1) 1 1)]) [(1,((nn 1),Qk #[.int .u8 (Qj ((192:BitVec 8)+(Qw 8 m)):Int)] 5 (0,0)))] (xX (t:=95) (t':=9) (e:=5) [(Qj ((192:BitVec 8)+(Qw 8 m)):Int)] kr kr kr (Rw.lit #[.int .u8 (Qj ((192:BitVec 8)+(Qw 8 m)):Int)] 1 (by rfl) (by unfold maxLen;omega))),.v] H12 kr fun gs13 w13 H13=>?_;clear H12;refine zk kr<|wV ?_;refine⟨[.string (strOfNums ([(Qj ((192:BitVec 8)+(Qw 8 m)):Int)]))],(.tmp (.string (strOfNums ([(Qj ((192:BitVec 8)+(Qw 8 m)):Int)]))) kr .nil),?_,H13.below⟩;exact congrArg RQ (zgn (f:=frm l) _ (by rw[hq1];rfl) m (by omega) (by rw[hq1];decide))
  ·refine rp [itF ((m:Int)<=55)] H11 kr fun gs14 w14 H14=>wX [] ?_;clear H11;refine zb<|zi kr kr<|zj kr<|wW<|rS [.v,.c (zdH m (by omega)),.v] H14 kr fun gs15 w15 H15=>?_;clear H14;refine rS [.v,.v,.v,.v,.E (.int .u8 (QG.wrap ((Ql (zg (dg m)):Int)))) (.int .u8 (Qj (Qw 8 (Ql (zg (dg m)))):Int)) (vb (Ql (zg (dg m)))),.E (.int .u8 (QG.wrap ((247)+((Qj (Qw 8 (Ql (zg (dg m)))):Int))))) (.int .u8 (Qj ((247:BitVec 8)+(Qw 8 (Ql (zg (dg m))))):Int)) (zam (247:BitVec 8) (Qw 8 (Ql (zg (dg m))))),.nw (fun b=>Qf b 1 1) #[.int .u8 (Qj ((247:BitVec 8)+(Qw 8 (Ql (zg (dg m))))):Int)] 5,.w fun nn=>.x (op:=.convert 95 9 (.tmp 25)) (ins:=[((.tmp 25),Qf (nn 1) 1 1)]) [(1,((nn 1),Qk #[.int .u8 (Qj ((247:BitVec 8)+(Qw 8 (Ql (zg (dg m))))):Int)] 5 (0,0)))] (xX (t:=95) (t':=9) (e:=5) [(Qj ((247:BitVec 8)+(Qw 8 (Ql (zg (dg m))))):Int)] kr kr kr (Rw.lit #[.int .u8 (Qj ((247:BitVec 8)+(Qw 8 (Ql (zg (dg m))))):Int)] 1 (by rfl) (by unfold maxLen;omega))),.v,.o (ins:=[((.tmp 26),.string (strOfNums ([(Qj ((247:BitVec 8)+(Qw 8 (Ql (zg (dg m))))):Int)]))),((.tmp 27),.string (zg (dg m)))]) (v:=.string ((strOfNums ([(Qj ((247:BitVec 8)+(Qw 8 (Ql (zg (dg m))))):Int)]))++(zg (dg m)))) (fun ρ o w ho hi=>jS (t:=9) (t':=9) (x:=(.tmp 26)) (y:=(.tmp 27)) (strOfNums ([(Qj ((247:BitVec 8)+(Qw 8 (Ql (zg (dg m))))):Int)])) (zg (dg m)) w ho hi.1 hi.2.1 (by rw[strOfNums_size,yU];have:=qB m;show 1+_<=_;omega)),.v] H15 kr fun gs16 w16 H16=>?_;clear H15;refine zk kr<|wV ?_;refine⟨[.string ((strOfNums ([(Qj ((247:BitVec 8)+(Qw 8 (Ql (zg (dg m))))):Int)]))++(zg (dg m)))],(.tmp (.string ((strOfNums ([(Qj ((247:BitVec 8)+(Qw 8 (Ql (zg (dg m))))):Int)]))++(zg (dg m)))) kr .nil),?_,H16.below⟩;exact congrArg RQ (zgo (f:=frm l) _ (by rw[hq1];rfl) m (by omega) (by rw[hq1];decide))
theorem zgw (m:Nat)(ih: ∀(l:Bool) (s:Qa) (p:Qc) (n c:Nat) (k:Fo),s.size<=0x800000000000->s.size+wtF k<=0x4000000000000000->k.cnt<m->FnP Tryz.prog 66 #[.agg #[.bool l,.string s,.slice p n c]] (fun w=>zq w.heap.size w p n k) (.int .u64 ((sz1 l s (szF k):Nat):Int)))(l:Bool)(s:Qa)(p:Qc)(n c:Nat)(k:Fo)(hs:s.size<=0x800000000000)(hw:s.size+wtF k<=0x4000000000000000)(hkm:k.cnt<m+1):FnP Tryz.prog 95 #[.agg #[.bool l,.string s,.slice p n c]] (fun w=>zq w.heap.size w p n k) (.int .u64 ((Ql s+szF k:Nat):Int)):=by
 refine zR [.tmp 2] 23 Tryz.func95 fun w hpre=>?_;have H0:=St.start w;have hn:=hpre.1;have hnm:=hpre.2.1;refine rS [.b,.v] H0 kr fun gs1 w1 H1=>?_;clear H0;refine rS [.v,.l 0,.v,.E (.int .u64 (QA.wrap ((Ql s:Int)))) (.int .u64 (Ql s:Int)) (zf (yw (a:=Ql s) (by omega))),.v] H1 kr fun gs2 w2 H2=>?_;clear H1;refine za kr<|rS [.v,.l 0,.v,.v] H2 kr fun gs3 w3 H3=>?_;clear H2;refine zm 0 kr ?_;have HL1:St w.heap.size w w3 [((gs1 0).b,Qk #[.bool l,.string s,.slice p n c] 58 (0,0))]:=H3.as kr;clear H3;have HD2:St w.heap.size w w3 []:=HL1.sub (Qs _ QS);refine zO kr (fun mz ρ ww=> ∃(i:Nat) (r:Fo) (a:Nat),n-i=mz/\(FoR w.heap.size w p i r)/\(i+Fo.len r=n)/\(Fo.cnt r<=Fo.cnt k)/\(a+wtF r<=0x4000000000000000)/\(s.size+szF k=a+szF r)/\St w.heap.size w ww []/\Is [(0,.agg #[.bool l,.string s,.slice p n c]),(1,Qe (gs1 0).b),(2,wZ),(3,.int .u64 (a:Int)),(11,.slice p n c),(12,.int .i64 (n:Int)),(13,.int .i64 (i:Int))] ρ) (n-0) ⟨0,k,(Ql s),rfl,(zq.start hpre),(by have hn0:=(hpre).1;omega),(QH _),hw,rfl,HD2,zl⟩ ?_;clear HD2;rintro _ _ w4 ⟨i,r,a,rfl,hR,hN,hcn,hwt,hd,H4,_,rfl⟩;by_cases hc3:(i:Nat)<n
 ·refine rS [itT ((i:Int)<(n:Int))] H4 kr fun gs5 w5 H5=>?_;clear H4;refine za kr<|zh kr kr<|zj kr<|wW<|za kr<|zm 1 kr ?_;obtain⟨l1,s1,k1,r1,b1,off1,C1,T1,fz1,p1,n1,c1,hr1,hp1,hb1,hh1,hs1,hx1,hz1,hk1,hR1,hN1⟩:=FoR.open hR hN (by omega);refine rS [itX 11 13 47 58 3 48 b1 off1 n c i hp1,.fp (off:=off1+i*3) (n:=3) (W:=#[.bool l1,.string s1,.slice p1 n1 c1]) hh1 hb1 hs1 hx1,.a,.s 0] H5 kr fun gs6 w6 H6=>?_;clear H5;have hcn1:=hcn;rw[hr1]at hcn1;simp only[Fo.cnt]at hcn1;have hwt1:=hwt;rw[hr1]at hwt1;simp only[wtF]at hwt1;have hsl1:=vg k1;have hsm1:=zav l1 s1 (szF k1);refine rL [.v,.l 0,.cp (pre:=fun w=>zq w.heap.size w p1 n1 k1) (ih l1 s1 p1 n1 c1 k1 hz1 (by omega) (by omega)) [] (fun w hb hd=>(zq.call hk1 hb)),.E (.int .u64 (QA.wrap ((a:Int)+((sz1 l1 s1 (szF k1):Nat):Int)))) (.int .u64 ((a+(sz1 l1 s1 (szF k1)):Nat):Int)) (zf (jw (a:=a) (b:=sz1 l1 s1 (szF k1)) (by omega))),.v] H6 kr fun gs7 w7 H7=>?_;clear H6;refine wW<|zt [0,1,2,3,5,11,12,13,14] fun ρ1=>?_;have HK4:=H7.keep;clear H7;refine rL [itI i 1,.v] HK4 kr fun gs8 w8 H8=>?_;clear HK4;have HL5:St w.heap.size w w8 [((gs6 2).b,Qk #[.bool l1,.string s1,.slice p1 n1 c1] 58 (0,0))]:=H8.as kr;clear H8;have HD6:St w.heap.size w w8 []:=HL5.sub (Qs _ QS);show ∃m,_/\_;exact⟨_,(by omega),(i+1),r1,(a+sz1 l1 s1 (szF k1)),rfl,hR1,hN1,(by omega),(by omega),(by rw[hd,hr1];simp only[szF];omega),HD6,zl⟩
 ·refine rS [itF ((i:Int)<(n:Int))] H4 kr fun gs9 w9 H9=>?_;clear H4;refine za kr<|zi kr kr<|zE 0 kr<|wW<|rS [.v,.v] H9 kr fun gs10 w10 H10=>?_;clear H9;refine zk kr<|wV ?_;refine⟨[.int .u64 (a:Int)],(.tmp (.int .u64 (a:Int)) kr .nil),?_,H10.below⟩;refine zf ?_;rw[hd,FoR.done hN (by omega)];rfl
theorem zl3 (m:Nat)(ih: ∀(l:Bool) (s:Qa) (p:Qc) (n c:Nat) (k:Fo),s.size<=0x800000000000->s.size+wtF k<=0x4000000000000000->k.cnt<m->FnP Tryz.prog 66 #[.agg #[.bool l,.string s,.slice p n c]] (fun w=>zq w.heap.size w p n k) (.int .u64 ((sz1 l s (szF k):Nat):Int)))(l:Bool)(s:Qa)(p:Qc)(n c:Nat)(k:Fo)(hs:s.size<=0x800000000000)(hw:s.size+wtF k<=0x4000000000000000)(hkm:k.cnt<m+1):FnP Tryz.prog 66 #[.agg #[.bool l,.string s,.slice p n c]] (fun w=>zq w.heap.size w p n k) (.int .u64 ((sz1 l s (szF k):Nat):Int)):=by
 refine zR [.tmp 2] 16 Tryz.func66 fun w hpre=>?_;have H0:=St.start w;have hn:=hpre.1;have hnm:=hpre.2.1;refine rS [.b,.v] H0 kr fun gs1 w1 H1=>?_;clear H0;refine za kr<|rS [.v,.l 0,.c (zbB s)] H1 kr fun gs2 w2 H2=>?_;clear H1;refine Vq (Q4 (yf s)).symm (fun hq1=>?_) (fun hq1=>?_)
 ·refine yv 6 (v:=.bool (yf s)) (v':=.bool false) (zc hq1) kr<|zi kr kr<|zj kr<|wW<|rS [.l 0,.cp (pre:=fun w=>zq w.heap.size w p n k) (zgw m ih l s p n c k (by omega) (by omega) (by omega)) [] (fun w hb hd=>(zq.call hpre hb)),.v] H2 kr fun gs3 w3 H3=>?_;clear H2;have hhl:=xN (frm l) (Ql s+szF k);have hsz:=vg k;have hhs:Ql (zg (hd (frm l) (Ql s+szF k)))<=9:=hhl.2;refine rS [.l 0,.v,.c (zgv l s p n c (Ql s+szF k) (by omega)),.v,.E (.int .u64 (QA.wrap ((Ql (zg (hd (frm l) (Ql s+szF k))):Int)))) (.int .u64 (Ql (zg (hd (frm l) (Ql s+szF k))):Int)) (zf (yw (a:=Ql (zg (hd (frm l) (Ql s+szF k)))) (by omega))),.v,.E (.int .u64 (QA.wrap ((Ql (zg (hd (frm l) (Ql s+szF k))):Int)+((Ql s+szF k:Nat):Int)))) (.int .u64 (((Ql (zg (hd (frm l) (Ql s+szF k))))+(Ql s+szF k):Nat):Int)) (zf (jw (a:=Ql (zg (hd (frm l) (Ql s+szF k)))) (b:=Ql s+szF k) (by omega))),.v] H3 kr fun gs4 w4 H4=>?_;clear H3;refine zk kr<|wV ?_;refine⟨[.int .u64 (((Ql (zg (hd (frm l) (Ql s+szF k))))+(Ql s+szF k):Nat):Int)],(.tmp (.int .u64 (((Ql (zg (hd (frm l) (Ql s+szF k))))+(Ql s+szF k):Nat):Int)) kr .nil),?_,H4.below⟩;refine zf ?_;unfold sz1;rw[if_neg (by rw[hq1];decide)];rfl
 ·refine yv 6 (v:=.bool (yf s)) (v':=.bool true) (zc hq1) kr<|zh kr kr<|rS [.v] H2 kr fun gs5 w5 H5=>?_;clear H2;refine zk kr<|wV ?_;refine⟨[.int .u64 1],(.tmp (.int .u64 1) kr .nil),?_,H5.below⟩;refine zf ?_;unfold sz1;rw[if_pos hq1];rfl
theorem zgx (l:Bool)(s:Qa)(p:Qc)(n c:Nat)(k:Fo)(hs:s.size<=0x800000000000)(hw:s.size+wtF k<=0x4000000000000000):FnP Tryz.prog 66 #[.agg #[.bool l,.string s,.slice p n c]] (fun w=>zq w.heap.size w p n k) (.int .u64 ((sz1 l s (szF k):Nat):Int)):=by
 have key: ∀(m:Nat) (l:Bool) (s:Qa) (p:Qc) (n c:Nat) (k:Fo),s.size<=0x800000000000->s.size+wtF k<=0x4000000000000000->k.cnt<m->FnP Tryz.prog 66 #[.agg #[.bool l,.string s,.slice p n c]] (fun w=>zq w.heap.size w p n k) (.int .u64 ((sz1 l s (szF k):Nat):Int)):=by
  intro m
  induction m with
  | zero=>intros;omega
  | succ m ih=>intro l s p n c k hs hw hkm;exact zl3 m ih l s p n c k hs hw hkm
 exact key (k.cnt+1) l s p n c k hs hw (by omega)
theorem zl4 (l:Bool)(s:Qa)(p:Qc)(n c:Nat)(k:Fo)(hs:s.size<=0x800000000000)(hw:s.size+wtF k<=0x4000000000000000):FnP Tryz.prog 95 #[.agg #[.bool l,.string s,.slice p n c]] (fun w=>zq w.heap.size w p n k) (.int .u64 ((Ql s+szF k:Nat):Int)):=zgw k.cnt (fun l s p n c k hs hw _=>zgx l s p n c k hs hw) l s p n c k hs hw (by omega)
inductive BE (p:Nat)(T e:TypeId):List UInt8->Qb->Prop
 | nil (a:Qc):a=none\/a=some ⟨p,0,none⟩->BE p T e [] [(p,.cells #[.pointer a,.slice none 0 0] T (0,0))]
 | row (a:Qc) (b n cap:Nat) (cur:Qd) (out:List UInt8):a=none\/a=some ⟨p,0,none⟩->n=out.length->Rw 1 cur cap n (cellsB out)->
  BE p T e out [(b,.cells cur e),(p,.cells #[.pointer a,Qf b n cap] T (0,0))]
def FnB (P:Program)(f:Nat)(args:Qd)(v:Value)(p:Nat)(T e:TypeId)(out out':List UInt8)(pre:World->Prop):Prop:=
 ∀(w0 w:World) (L E:Qb),BE p T e out E->pre w0->St w0.heap.size w0 w (E++L)->Calls P f args w fun r w'=> ∃E',r=.returned v/\BE p T e out' E'/\St w0.heap.size w0 w' (E'++L)
def vj (P:Program)(f:Nat)(args:Qd)(v:Value)(p:Nat)(T e:TypeId)(out out':List UInt8)(pre:World->Prop):Prop:=
 ∀(w0 w:World) (E:Qb),BE p T e out E->pre w0->St w0.heap.size w0 w E->Calls P f args w fun r w'=> ∃E',r=.returned v/\BE p T e out' E'/\St w0.heap.size w0 w' E'
section
variable {P:Program}{N:Nat}{ops:Array Oper}{i:Nat}{r:List Nat}{K:Env->World->Prop}{ρ:Env}{w:World}{w0:World}{l E:Qb}
theorem zdI (HS:St w0.heap.size w0 w (l++E)){p:Nat}{T e:TypeId}{out:List UInt8}(hE:BE p T e out E)(d:Option Nat)(f:Nat)(args:Qd)(v:Value)(out':List UInt8)(pre:World->Prop)(hc:FnB P f args v p T e out out' pre)(hp:pre w0)
 (h:opv P ops i ρ w=some (d,true,.ok (.enter f args) w)) (hd:dOK d N=true)
 (kk: ∀E' w',BE p T e out' E'->St w0.heap.size w0 w' (l++E')->WPs P N ops K r (zr ρ d v) w'):WPs P N ops K (i::r) ρ w:=by
 obtain⟨o,ho,rfl,hw,hr⟩:=yc h;refine WPo.run ho hw fun a ha=>?_;rw[hr,UF];refine(hc w0 w l E hE hp (HS.perm QV)).mono ?_;rintro _ w' ⟨E',rfl,hE',HS'⟩;exact⟨_,ha.put _ (zZ hd) v,kk E' w' hE' (HS'.perm QV)⟩
theorem zdJ (HS:St w0.heap.size w0 w E){p:Nat}{T e:TypeId}{out:List UInt8}(hE:BE p T e out E)(d:Option Nat)(f:Nat)(args:Qd)(v:Value)(out':List UInt8)(pre:World->Prop)(hc:vj P f args v p T e out out' pre)(hp:pre w0)
 (h:opv P ops i ρ w=some (d,true,.ok (.enter f args) w)) (hd:dOK d N=true)
 (kk: ∀E' w',BE p T e out' E'->St w0.heap.size w0 w' E'->WPs P N ops K r (zr ρ d v) w'):WPs P N ops K (i::r) ρ w:=by
 obtain⟨o,ho,rfl,hw,hr⟩:=yc h;refine WPo.run ho hw fun a ha=>?_;rw[hr,UF];refine(hc w0 w E hE hp HS).mono ?_;rintro _ w' ⟨E',rfl,hE',HS'⟩;exact⟨_,ha.put _ (zZ hd) v,kk E' w' hE' HS'⟩
theorem FnB.intro {f:Nat}{fn:Func}{c:Code}(rs:List ResultVar)(N:Nat){args:Qd}{v:Value}{p:Nat}{T e:TypeId}{out out':List UInt8}{pre:World->Prop}(hf:P.funcs[f]? =some fn)(hb:fn.body=some c)(hr:fn.results.toList=rs)(hn:args.size+(fn.ntmps-args.size)=N)
 (h: ∀w0 w L E,BE p T e out E->pre w0->St w0.heap.size w0 w (E++L)->WP P N c (yx P rs fun v' w'=>v'=v/\∃E',BE p T e out' E'/\St w0.heap.size w0 w' (E'++L)) (ini args) w):FnB P f args v p T e out out' pre:=fun w0 w L E hE hp HS=>
 (kt hf hb hr hn (h w0 w L E hE hp HS)).mono fun _ w' ⟨v',he,hv,E',h1,h2⟩=>⟨E',by rw[he,hv],h1,h2⟩
theorem zgy {f:Nat}{fn:Func}(rs:List ResultVar)(N:Nat){args:Qd}{v:Value}{p:Nat}{T e:TypeId}{out out':List UInt8}{pre:World->Prop}(hf:P.funcs[f]? =some fn)(h: ∀w0 w L E,BE p T e out E->pre w0->St w0.heap.size w0 w (E++L)->WP P N (zz fn) (yx P rs fun v' w'=>v'=v/\∃E',BE p T e out' E'/\St w0.heap.size w0 w' (E'++L)) (ini args) w)(hb:fn.body=some (zz fn):=by kernel_rfl)(hr:fn.results.toList=rs:=by kernel_rfl)(hn:args.size+(fn.ntmps-args.size)=N:=by kernel_rfl):FnB P f args v p T e out out' pre:=FnB.intro rs N hf hb hr hn h
theorem vj.intro {f:Nat}{fn:Func}{c:Code}(rs:List ResultVar)(N:Nat){args:Qd}{v:Value}{p:Nat}{T e:TypeId}{out out':List UInt8}{pre:World->Prop}(hf:P.funcs[f]? =some fn)(hb:fn.body=some c)(hr:fn.results.toList=rs)(hn:args.size+(fn.ntmps-args.size)=N)
 (h: ∀w0 w E,BE p T e out E->pre w0->St w0.heap.size w0 w E->WP P N c (yx P rs fun v' w'=>v'=v/\∃E',BE p T e out' E'/\St w0.heap.size w0 w' E') (ini args) w):vj P f args v p T e out out' pre:=fun w0 w E hE hp HS=>
 (kt hf hb hr hn (h w0 w E hE hp HS)).mono fun _ w' ⟨v',he,hv,E',h1,h2⟩=>⟨E',by rw[he,hv],h1,h2⟩
def zax (t u:TypeId)(s x:Operand):Op:=.call { callee:=.builtin .append,args:=#[s,x],argTypes:=#[t,u] }
theorem zgz {P:Program}{ρ:Env}{w w':World}{o:Oper}{t u:TypeId}{s x:Operand}{vs v':Value}{tx:Qa}(hop:o.op=zax t u s x)(hs:ev ρ s=vs)(hx:ev ρ x=.string tx)
 (hrun:(Builtin.append_ #[t,u] o.type #[vs,.string tx]).run P w=.ok v' w'):(execOp (ev ρ) o).run P w=.ok (.value v') w':=by
 unfold execOp;simp only[hop,zax,resolve,invoke,builtin,Q7,Up,QJ,RI,Q8,Ug,hs,hx,hrun]
theorem zl5 (HS:St w0.heap.size w0 w l)(d:Option Nat)(t u e:TypeId)(s x:Operand)(j b n cap:Nat)(cur:Qd)(xs:List UInt8)(tx:Qa)(l':Nat->Qd->Qb)
 (h:opk ops i ρ=some (d,true,zax t u s x)) (hd:dOK d N=true) (ht:yp P t=some (e,1,1)) (hu':P.underlying u=some .string)
 (hs:ev ρ s=Qf b n cap) (hj:l[j]? =some (b,.cells cur e)) (hr:Rw 1 cur cap n (cellsB xs)) (hx:ev ρ x=.string tx) (hm:n+tx.size<=0x800000000000)
 (hl': ∀b' cur',l.set j (b',.cells cur' e)=l' b' cur')
 (kk: ∀b' cap' cur' w',St w0.heap.size w0 w' (l' b' cur')->Rw 1 cur' cap' (n+tx.size) (cellsB (xs++tl tx))->WPs P N ops K r (zr ρ d (Qf b' (n+tx.size) cap')) w'):WPs P N ops K (i::r) ρ w:=by
 obtain⟨o,ho,rfl,hw,hop⟩:=zM h;obtain⟨it,z,hu,hi,hz,hsz,hby,hzs,h0⟩:=qi ht;have hg:=HS.get j hj;have hcx:VG tx=cellsB (tl tx):=rfl;have hxn:xs.length=n:=by have:=hr.len;rw[qK]at this;omega
 have hlen:(cellsB (xs++tl tx)).length=(n+tx.size)*1:=by rw[qK,Qx,zu];omega
 have hcsz:=hr.sz;by_cases hroom:n+tx.size<=cap
 ·have hrun:=Lib.run_append_room_string (P:=P) w t u o.type e it hu hu' hi hsz b n cap cur hg tx hroom (by omega);refine WPo.run ho hw fun a ha=>?_;have hex:(execOp (ev ρ) o).run P w=.ok (.value (Qf b (n+tx.size) cap)) (w.setRow b (cur.toList.take n++VG tx++cur.toList.drop (n+tx.size)).toArray):=by
   unfold execOp;simp only[hop,zax,resolve,invoke,builtin,Q7,Up,QJ,RI,Q8,Ug,hs,hx,hrun]
  rw[hex,Rx];have HS':=HS.store j (C':=(cur.toList.take n++VG tx++cur.toList.drop (n+tx.size)).toArray) hj;rw[hl']at HS';refine⟨_,ha.put _ (zZ hd) _,kk b cap _ _ HS' ⟨hlen,hroom,hr.max,?_,?_⟩⟩
  ·have h1:cur.toList.take n=cellsB xs:=by have:=hr.take;rwa [UV]at this
   rw[h1,hcx,<-zan,<-hlen];exact VZ
  ·simp only[Ux,Qx,Rb,Uv,Rv,Lib.strCells_length];omega
 ·have holds: ∀q v,(cellsB xs)[q]? =some v->w.cell? ((⟨b,0,none⟩:Addr).add q)=some v:=fun q v hq=>by
   have hql:q<n:=by rw[<-hxn,<-qK];exact(QT.1 hq).1
   rw[qh,Q9];simp[RH,hg,hr.get q (by omega),hq]
  have hrun:=Lib.run_append_grow_string (P:=P) w t u o.type e it z hu hu' hi hz ⟨b,0,none⟩ n cap (cellsB xs) (by rw[qK,hsz];omega) holds tx (by omega) (by omega) (by rw[hby];exact growslice_fits (by omega) (by omega));refine WPo.run ho hw fun a ha=>?_;rw[zgz hop hs hx hrun,Rx];have hgr:w.grownBy (w.drew.alloc (.cells ((cellsB xs).toArray++(VG tx).toArray++Builtin.zeroCells z.cells (grownCap w (n+tx.size) cap e-(n+tx.size))) e)) (some b):=
   ⟨rfl,rfl,rfl,by simp,fun k hk _=>Go.heap_alloc_old w.drew _ hk⟩
  have HS':=HS.grown j hj hgr (.inr rfl) (heap_alloc_new w.drew _);rw[hl']at HS';have hge:=grownCap_ge w (n+tx.size) cap e;refine⟨_,ha.put _ (zZ hd) _,kk _ (grownCap w (n+tx.size) cap e) _ _ HS' ⟨hlen,hge,grownCap_le_maxLen w (n+tx.size) cap e (by unfold maxLen;omega),?_,?_⟩⟩
  ·simp only[Array.toList_append];rw[hcx];show Re _ (cellsB xs++cellsB (tl tx)++_)=_;rw[<-zan,<-hlen];exact VZ
  ·simp only[Array.size_append,Ux,size_zeroCells,hzs,qK,Lib.strCells_length];omega
theorem zl6 (HS:St w0.heap.size w0 w l)(d:Option Nat)(t u e:TypeId)(s x:Operand)(tx:Qa)
 (h:opk ops i ρ=some (d,true,zax t u s x)) (hd:dOK d N=true) (ht:yp P t=some (e,1,1)) (hu':P.underlying u=some .string)
 (hs:ev ρ s=.slice none 0 0) (hx:ev ρ x=.string tx) (h0:0<tx.size) (hm:tx.size<=0x800000000000)
 (kk: ∀b' cap' cur' w',St w0.heap.size w0 w' ((b',.cells cur' e)::l)->Rw 1 cur' cap' tx.size (cellsB (tl tx))->WPs P N ops K r (zr ρ d (Qf b' tx.size cap')) w'):WPs P N ops K (i::r) ρ w:=by
 obtain⟨o,ho,rfl,hw,hop⟩:=zM h;obtain⟨it,z,hu,hi,hz,hsz,hby,hzs,h0'⟩:=qi ht;have hcx:VG tx=cellsB (tl tx):=rfl;have hrun:=Go.run_append_nil_string (P:=P) w t u o.type e it z hu hu' hi hz tx h0 (by omega) (by rw[hby];omega);refine WPo.run ho hw fun a ha=>?_;rw[zgz hop hs hx hrun,Rx];have hge:=grownCap_ge w tx.size 0 e;have e1:(tx.data.map (fun b=>Q0 .u8 b.toNat)++Builtin.zeroCells z.cells (grownCap w tx.size 0 e-tx.size)).toList=cellsB (tl tx)++(Builtin.zeroCells z.cells (grownCap w tx.size 0 e-tx.size)).toList:=by
  unfold cellsB tl;simp
 refine⟨_,ha.put _ (zZ hd) _,kk _ (grownCap w tx.size 0 e) _ _ (HS.drew.alloc _) ⟨by rw[qK,zu,UV],hge,grownCap_le_maxLen w tx.size 0 e (by unfold maxLen;omega),?_,?_⟩⟩
 ·rw[e1,UV,List.take_append_of_le_length (by rw[qK,zu];exact QH _),Qy (by rw[qK,zu];exact QH _)]
 ·rw[<-Rv,e1,Qx,qK,zu,Rv,size_zeroCells,hzs];omega
theorem zgA {B:Nat}(HS:St B w0 w l)(d:Option Nat)(t t' tp:TypeId)(x:Operand)(j b:Nat)(C:Qd)(T:TypeId)(h:opk ops i ρ=some (d,true,.convert t t' x))(hd:dOK d N=true)(hx:ev ρ x=Qe b)(hj:l[j]? =some (b,.cells C T))
 (ht:P.underlying t=some (.pointer tp)) (ht':P.underlying t'=some .unsafePointer) (hz:((P.info? tp).map fun i=>Nat.blt 0 i.size)=some true) (hC:0<C.size) (kk:WPs P N ops K r (zr ρ d (Qe b)) w):WPs P N ops K (i::r) ρ w:=
 zab d _ _ w h hd (fun o ho=>by
  obtain⟨it,hi,hs⟩:=Option.map_eq_some_iff.1 hz;have hsh:w.shape? b=some (T,C.size):=by unfold Wm;rw[HS.get j hj]
  have:=Lib.run_to_unsafe (P:=P) w (src:=t) (dst:=t') ⟨b,0,none⟩ ht ht' hi (by have:=Qp hs;omega) hsh hC;unfold execOp
  simp only[ho,hx,Q7,this,QJ];rfl) kk
theorem zgB {B:Nat}(HS:St B w0 w l)(d:Option Nat)(t t' tp:TypeId)(x:Operand)(j b:Nat)(C:Qd)(T:TypeId)(h:opk ops i ρ=some (d,true,.convert t t' x))(hd:dOK d N=true)(hx:ev ρ x=Qe b)(hj:l[j]? =some (b,.cells C T))
 (ht:P.underlying t=some .unsafePointer) (ht':P.underlying t'=some (.pointer tp)) (hz:(P.info? tp).isSome=true) (hl:liesAt P P.depth T (C.size / P.cellsOf T) 0 tp 1=true) (kk:WPs P N ops K r (zr ρ d (Qe b)) w):WPs P N ops K (i::r) ρ w:=
 zab d _ _ w h hd (fun o ho=>by
  obtain⟨it,hi⟩:=Option.isSome_iff_exists.1 hz;have hsh:w.shape? b=some (T,C.size):=by unfold Wm;rw[HS.get j hj]
  have:=Lib.run_from_unsafe (P:=P) w (src:=t) (dst:=t') ⟨b,0,none⟩ ht ht' hi hsh hl;unfold execOp
  simp only[ho,hx,Q7,this,QJ];rfl) kk
theorem zgC {t tp t':TypeId}(ht:P.underlying t=some (.pointer tp))(hz:(P.info? tp).isSome=true){x y:Operand}{o:Oper}(a:Addr)(ho:o.op=.binOp .neq t x y t')(hx:ev ρ x=.pointer (some a))(hy:ev ρ y=.pointer (some a)):
 ∀w,(execOp (ev ρ) o).run P w=.ok (.value (.bool false)) w:=fun w=>by
 obtain⟨it,hi⟩:=Option.isSome_iff_exists.1 hz;have:=Lib.run_neq_ptr_same (P:=P) w a ht hi;unfold execOp;simp[ho,hx,hy,eqGuard,this]
end
def qM (w0:World)(p:Nat)(T e:TypeId)(out':List UInt8)(bx:Nat×Obj)(E:Qb)(q:Nat):(Nat->Bool)->(Nat->D2.Gh)->World->Prop:=fun L _ w=>
 bif L q then (∃E',BE p T e out' E'/\St w0.heap.size w0 w ([bx]++E')) else St w0.heap.size w0 w ([bx]++E)
section
variable {P:Program}{ops:Array Oper}{R:(Nat->D2.Gh)->Env}{i:Nat}{d:Option Nat}{w0:World}{p:Nat}{T e:TypeId}{out':List UInt8}{bx:Nat×Obj}{E:Qb}{q:Nat}
theorem zgD {L:Nat->Bool}(h:QL q i=false):D2.put1 L i q=L q:=by unfold D2.put1;rw[h];rfl
theorem qM.keep (h:QL q i=false){L:Nat->Bool}{g g':Nat->D2.Gh}{w:World}(hp:qM w0 p T e out' bx E q L g w):qM w0 p T e out' bx E q (D2.put1 L i) g' w:=by
 unfold qM at hp⊢;rw[zgD h];exact hp
theorem qM.cases {L:Nat->Bool}{g:Nat->D2.Gh}{w:World}(hp:qM w0 p T e out' bx E q L g w):∃E',St w0.heap.size w0 w ([bx]++E')/\((∀w',St w0.heap.size w0 w' ([bx]++E')->qM w0 p T e out' bx E q L g w')):=by
 unfold qM at hp⊢;cases hl:L q with
 | false=>rw[hl]at hp;exact⟨E,hp,fun w' h=>h⟩
 | true=>rw[hl]at hp;obtain⟨E',h1,h2⟩:=hp;exact⟨E',h2,fun w' h=>⟨E',h1,h⟩⟩
theorem zl7 {V:Value}(hq:QL q i=false)(h: ∀g w,opv P ops i (R g) w=some (d,true,.ok (.value V) w)):D2.Gives P ops R (qM w0 p T e out' bx E q) i d (fun _=>V):=D2.gv_val (fun _ _ _ hp=>hp.keep hq) h
theorem zgE {C:Qd}{T':TypeId}{t:TypeId}{x:Operand}(hq:QL q i=false)(h: ∀g,opk ops i (R g)=some (d,true,.load t x))(hx: ∀g,ev (R g) x=Qe bx.1)(hb:bx.2=.cells C T')(ht:aggSize P t=some C.size):D2.Gives P ops R (qM w0 p T e out' bx E q) i d (fun _=>.agg C):=D2.gives_of fun L g w hp hN=>by
 obtain⟨o,ho,hd,hw,hop⟩:=zM (h g);obtain⟨E',hS,_⟩:=hp.cases;have hh:w.heap[bx.1]? =some (.cells C T'):=by rw[<-hb];exact hS.get 0 rfl
 have:=ko (P:=P) (w:=w) (off:=0) ht hh (by omega);have e1:C.extract 0 (0+C.size)=C:=by simp
 rw[e1]at this;have e2:(execOp (ev (R g)) o).run P w=.ok (.value (.agg C)) w:=by simp[execOp,hop,Instr.loadAt,Instr.sureAddr,hx g,this]
 exact⟨o,ho,hd,.inr ⟨hw,by rw[e2];exact⟨g i,rfl,by rw[D2.setN_self];exact hp.keep hq⟩⟩⟩
theorem zgF {V:Value}{f:Nat}{args:Qd}{pr:World->Prop}(hq:QL q i=false)(hc:FnP P f args pr V)(hpr: ∀w,Below w0.heap.size w0 w->pr w)(h: ∀g w,opv P ops i (R g) w=some (d,true,.ok (.enter f args) w)):D2.Gives P ops R (qM w0 p T e out' bx E q) i d (fun _=>V):=D2.gives_of fun L g w hp hN=>by
 obtain⟨o,ho,hd,hw,hr⟩:=yc (h g w);obtain⟨E',hS,hk⟩:=hp.cases;exact⟨o,ho,hd,.inr ⟨hw,by rw[hr];exact(hc w (hpr w hS.below)).mono fun e w' ⟨he,hb⟩=>⟨V,he,g i,rfl,by rw[D2.setN_self];exact(hk w' (hS.call hb)).keep hq⟩⟩⟩
theorem zl8 {V:Value}{f:Nat}{args:Qd}(hq:QL q i=false)(hc:Fn P f args V)(h: ∀g w,opv P ops i (R g) w=some (d,true,.ok (.enter f args) w)):D2.Gives P ops R (qM w0 p T e out' bx E q) i d (fun _=>V):=
 zgF (pr:=fun _=>True) hq (fun w _=>hc w) (fun _ _=>trivial) h
theorem zl9 {V:Value}{f:Nat}{args:Qd}{out:List UInt8}(hq:q=i)(hE:BE p T e out E)(hc:FnB P f args V p T e out out' (fun _=>True))(h: ∀g w,opv P ops i (R g) w=some (d,true,.ok (.enter f args) w)):D2.Gives P ops R (qM w0 p T e out' bx E q) i d (fun _=>V):=D2.gives_of fun L g w hp hN=>by
 subst hq;obtain⟨o,ho,hd,hw,hr⟩:=yc (h g w);have hS:St w0.heap.size w0 w ([bx]++E):=by unfold qM at hp;rw[hN.1]at hp;exact hp
 refine⟨o,ho,hd,.inr ⟨hw,?_⟩⟩;rw[hr];refine(hc w0 w [bx] E hE trivial (hS.perm QV)).mono ?_;rintro _ w' ⟨E',rfl,hE',hS'⟩;refine⟨V,rfl,g q,rfl,?_⟩;unfold qM;rw[show D2.put1 L q q=true from D2.put1_self L q];exact⟨E',hE',hS'.perm QV⟩
theorem qM.done {L:Nat->Bool}{g:Nat->D2.Gh}{w:World}(hp:qM w0 p T e out' bx E q L g w)(h:L q=true):∃E',BE p T e out' E'/\St w0.heap.size w0 w ([bx]++E'):=by
 unfold qM at hp;rw[h]at hp;exact hp
end
def xx (w0:World)(l:Qb)(q:Nat):(Nat->Bool)->(Nat->D2.Gh)->World->Prop:=fun L _ w=>bif L q then St w0.heap.size w0 w [] else St w0.heap.size w0 w l
section
variable {P:Program}{ops:Array Oper}{R:(Nat->D2.Gh)->Env}{i:Nat}{d:Option Nat}{w0:World}{l:Qb}{q:Nat}
theorem xx.keep (h:QL q i=false){L:Nat->Bool}{g g':Nat->D2.Gh}{w:World}(hp:xx w0 l q L g w):xx w0 l q (D2.put1 L i) g' w:=by
 unfold xx at hp⊢;rw[zgD h];exact hp
theorem vk {V:Value}(hq:QL q i=false)(h: ∀g w,opv P ops i (R g) w=some (d,true,.ok (.value V) w)):D2.Gives P ops R (xx w0 l q) i d (fun _=>V):=D2.gv_val (fun _ _ _ hp=>hp.keep hq) h
theorem zdK {V:Value}(hq:QL q i=false)(hb: ∀L,D2.Now ops i L->L q=false)(op:Op)(h: ∀g,opk ops i (R g)=some (d,true,op))(hr: ∀g w (o:Oper),St w0.heap.size w0 w l->o.op=op->(execOp (ev (R g)) o).run P w=.ok (.value V) w):D2.Gives P ops R (xx w0 l q) i d (fun _=>V):=D2.gives_of fun L g w hp hN=>by
 obtain⟨o,ho,hd,hw,hop⟩:=zM (h g);have hS:St w0.heap.size w0 w l:=by have h9:=hp;unfold xx at h9;rw[hb L hN]at h9;exact h9
 exact⟨o,ho,hd,.inr ⟨hw,by rw[hr g w o hS hop];exact⟨g i,rfl,by rw[D2.setN_self];exact hp.keep hq⟩⟩⟩
theorem zma {V:Value}(hq:q=i)(op:Op)(h: ∀g,opk ops i (R g)=some (d,true,op))(hr: ∀g w (o:Oper),St w0.heap.size w0 w l->o.op=op->∃w',(execOp (ev (R g)) o).run P w=.ok (.value V) w'/\St w0.heap.size w0 w' []):D2.Gives P ops R (xx w0 l q) i d (fun _=>V):=D2.gives_of fun L g w hp hN=>by
 subst hq;obtain⟨o,ho,hd,hw,hop⟩:=zM (h g);have hS:St w0.heap.size w0 w l:=by have h9:=hp;unfold xx at h9;rw[hN.1]at h9;exact h9
 obtain⟨w',h1,h2⟩:=hr g w o hS hop;exact⟨o,ho,hd,.inr ⟨hw,by rw[h1];exact⟨g q,rfl,by unfold xx;rw[show D2.put1 L q q=true from D2.put1_self L q];exact h2⟩⟩⟩
end
def zdL (t:TypeId)(x:Operand):Op:=.call { callee:=.builtin .unsafeSliceData,args:=#[x],argTypes:=#[t] }
theorem zmb {P:Program}{ρ:Env}{w:World}{t:TypeId}{x:Operand}{a:Addr}{n c:Nat}(hx:ev ρ x=.slice (some a) n c)(hc:c≠0)(o:Oper)(ho:o.op=zdL t x):(execOp (ev ρ) o).run P w=.ok (.value (.pointer (some a))) w:=by
 have:=Lib.run_unsafeSliceData_row (P:=P) (w:=w) #[t] o.type a n c hc;unfold execOp;simp only[ho,zdL,resolve,invoke,builtin,Q7,Up,QJ,RI,Q8,Ug,hx,this]
theorem zmc {P:Program}{ρ:Env}{w w0:World}{l:Qb}{j b n cap:Nat}{C:Qd}{t t' e:TypeId}{x y:Operand}{xs:List UInt8}(HS:St w0.heap.size w0 w l)(hj:l[j]? =some (b,.cells C e))(ht:P.underlying t=some (.pointer e))(hc:P.cellsOf e=1)
 (hx:ev ρ x=Qe b) (hy:ev ρ y=.int .i64 (n:Int)) (hr:Rw 1 C cap n (cellsB xs)) (h0:0<n) (hm:n<=0x7fffffffffffffff) (o:Oper) (hop:o.op=zao t t' x y):
 ∃w',(execOp (ev ρ) o).run P w=.ok (.value (.string (zg xs))) w'/\St w0.heap.size w0 w' []:=by
 have hb:=HS.get j hj;have hB:=HS.ge j hj;have hlen:xs.length=n:=by have:=hr.len;rw[qK]at this;omega
 have hsz:=hr.sz;have hle:=hr.le
 have hrun:=Lib.run_unsafeString_row (P:=P) w t t' o.type e ht hc b C.size (by unfold Wm;rw[hb]) xs (by intro e;subst e;simp at hlen;omega) (by omega) (by omega) (fun j u hj=>by
  have hjl:j<xs.length:=(QT.1 hj).1;have h2:=hr.get j (by omega);rw[qh,Q9];have h3:(cellsB xs)[j]? =some (.int .u8 (u.toNat:Int)):=by unfold cellsB;rw[List.getElem?_map,hj];rfl
  simp[RH,hb,h2,h3])
 rw[hlen]at hrun;refine⟨w.freeze ⟨b,0,none⟩ n,?_,?_⟩
 ·unfold execOp;simp only[hop,zao,resolve,invoke,builtin,Q7,Up,QJ,RI,Q8,Ug,hx,hy,hrun];rfl
 ·have hbel:=Lib.below_freeze HS.below (p:=⟨b,0,none⟩) hB n;refine⟨hbel,RZ HS.le ?_,(fun e he=>nomatch he),List.nodup_nil⟩;unfold World.freeze;split<;>simp
theorem St.load1_run {P:Program}{ρ:Env}{w w0:World}{l:Qb}{j b off:Nat}{C:Qd}{T t:TypeId}{x:Operand}{v:Value}(HS:St w0.heap.size w0 w l)(hj:l[j]? =some (b,.cells C T))(ht:oneCell P t=true)(hx:ev ρ x=.pointer (some ⟨b,off,none⟩))(hv:C[off]? =some v)(o:Oper)(ho:o.op=.load t x):
 (execOp (ev ρ) o).run P w=.ok (.value v) w:=by
 have:=kq (P:=P) (w:=w) ht (HS.get j hj) hv;simp[execOp,ho,Instr.loadAt,Instr.sureAddr,hx,this]
theorem zmd (p:Nat)(w0 w:World)(L:Qb)(H0:St w0.heap.size w0 w ([(p,Qk #[.pointer none,.slice none 0 0] 105 (0,0))]++L)):WP Tryz.prog 20 (zz Tryz.f134) (yx Tryz.prog [] fun v' w'=>v'=.tuple #[]/\∃E',BE p 105 5 ([]) E'/\St w0.heap.size w0 w' (E'++L)) (ini #[Qe p]) w:=by
 refine zd [0,1,2,3,4] kr kr<|zn (some 2) (Qe p)<|zn (some 3) (Qe p)<|zn (some 4) (Qe p)<|jR H0 (some 5) 103 (.tmp 4) 0 p 0 #[.pointer none,.slice none 0 0] 105 (0,0) (.pointer none) kr kr kr kr kr kr<|zn (some 6) (.bool true)<|zb<|zh kr kr<|yu [0,1,2,3,4,5,6,7] kr<|zn (some 7) (Qe p)<|zn (some 8) (Qe p)<|zgA H0 (some 9) 103 191 105 (.tmp 8) 0 p #[.pointer none,.slice none 0 0] 105 kr kr kr kr kr kr kr (by show 0<2;omega)<|zn (some 10) (Qe p)<|zgB H0 (some 11) 191 103 105 (.tmp 10) 0 p #[.pointer none,.slice none 0 0] 105 kr kr kr kr kr kr kr kr<|zn (some 12) (Qe p)<|zn (some 13) (Qe p)<|qT H0 0 ([(p,Qk #[Qe p,.slice none 0 0] 105 (0,0))]++L) 103 (.tmp 13) (.tmp 11) p (0) #[.pointer none,.slice none 0 0] #[Qe p,.slice none 0 0] 105 (Qe p) kr kr kr kr kr kr (of_decide_eq_true kr) kr kr ?_;intro w1 H1;clear H0;refine zb<|wV ?_;exact⟨[],.nil,rfl,_,(BE.nil (Qg p) (UP rfl)),H1⟩
theorem zme (p:Nat)(w0 w:World)(L:Qb)(H0:St w0.heap.size w0 w ([(p,Qk #[Qe p,.slice none 0 0] 105 (0,0))]++L)):WP Tryz.prog 20 (zz Tryz.f134) (yx Tryz.prog [] fun v' w'=>v'=.tuple #[]/\∃E',BE p 105 5 ([]) E'/\St w0.heap.size w0 w' (E'++L)) (ini #[Qe p]) w:=by
 refine zd [0,1,2,3,4] kr kr<|zn (some 2) (Qe p)<|zn (some 3) (Qe p)<|zn (some 4) (Qe p)<|jR H0 (some 5) 103 (.tmp 4) 0 p 0 #[Qe p,.slice none 0 0] 105 (0,0) (Qe p) kr kr kr kr kr kr<|zn (some 6) (.bool false)<|zb<|zi kr kr<|zd [0,1,2,3,4,5] kr kr<|zn (some 14) (Qe p)<|zn (some 15) (Qe p)<|zn (some 16) (Qe p)<|jR H0 (some 17) 103 (.tmp 16) 0 p 0 #[Qe p,.slice none 0 0] 105 (0,0) (Qe p) kr kr kr kr kr kr<|zn (some 18) (Qe p)<|uY (some 19) _ (.bool false) kr kr (fun o w ho=>zgC (t:=103) (tp:=105) (t':=103) kr kr (x:=(.tmp 17)) (y:=(.tmp 18)) ⟨p,0,none⟩ ho kr kr w)<|zb<|zi kr kr<|zj kr<|wV ?_;exact⟨[],.nil,rfl,_,(BE.nil (Qg p) (UP rfl)),H0⟩
theorem zmf (p:Nat)(b n cap:Nat)(cur:Qd)(out:List UInt8)(hn:n=out.length)(hr:Rw 1 cur cap n (cellsB out))(w0 w:World)(L:Qb)(H0:St w0.heap.size w0 w ([(b,Qk cur 5),(p,Qk #[.pointer none,Qf b n cap] 105 (0,0))]++L)):WP Tryz.prog 20 (zz Tryz.f134) (yx Tryz.prog [] fun v' w'=>v'=.tuple #[]/\∃E',BE p 105 5 out E'/\St w0.heap.size w0 w' (E'++L)) (ini #[Qe p]) w:=by
 refine zd [0,1,2,3,4] kr kr<|zn (some 2) (Qe p)<|zn (some 3) (Qe p)<|zn (some 4) (Qe p)<|jR H0 (some 5) 103 (.tmp 4) 1 p 0 #[.pointer none,Qf b n cap] 105 (0,0) (.pointer none) kr kr kr kr kr kr<|zn (some 6) (.bool true)<|zb<|zh kr kr<|yu [0,1,2,3,4,5,6,7] kr<|zn (some 7) (Qe p)<|zn (some 8) (Qe p)<|zgA H0 (some 9) 103 191 105 (.tmp 8) 1 p #[.pointer none,Qf b n cap] 105 kr kr kr kr kr kr kr (by show 0<2;omega)<|zn (some 10) (Qe p)<|zgB H0 (some 11) 191 103 105 (.tmp 10) 1 p #[.pointer none,Qf b n cap] 105 kr kr kr kr kr kr kr kr<|zn (some 12) (Qe p)<|zn (some 13) (Qe p)<|qT H0 1 ([(b,Qk cur 5),(p,Qk #[Qe p,Qf b n cap] 105 (0,0))]++L) 103 (.tmp 13) (.tmp 11) p (0) #[.pointer none,Qf b n cap] #[Qe p,Qf b n cap] 105 (Qe p) kr kr kr kr kr kr (of_decide_eq_true kr) kr kr ?_;intro w1 H1;clear H0;refine zb<|wV ?_;exact⟨[],.nil,rfl,_,(BE.row (Qg p) b n cap cur out (UP rfl) hn hr),H1⟩
theorem zmg (p:Nat)(b n cap:Nat)(cur:Qd)(out:List UInt8)(hn:n=out.length)(hr:Rw 1 cur cap n (cellsB out))(w0 w:World)(L:Qb)(H0:St w0.heap.size w0 w ([(b,Qk cur 5),(p,Qk #[Qe p,Qf b n cap] 105 (0,0))]++L)):WP Tryz.prog 20 (zz Tryz.f134) (yx Tryz.prog [] fun v' w'=>v'=.tuple #[]/\∃E',BE p 105 5 out E'/\St w0.heap.size w0 w' (E'++L)) (ini #[Qe p]) w:=by
 refine zd [0,1,2,3,4] kr kr<|zn (some 2) (Qe p)<|zn (some 3) (Qe p)<|zn (some 4) (Qe p)<|jR H0 (some 5) 103 (.tmp 4) 1 p 0 #[Qe p,Qf b n cap] 105 (0,0) (Qe p) kr kr kr kr kr kr<|zn (some 6) (.bool false)<|zb<|zi kr kr<|zd [0,1,2,3,4,5] kr kr<|zn (some 14) (Qe p)<|zn (some 15) (Qe p)<|zn (some 16) (Qe p)<|jR H0 (some 17) 103 (.tmp 16) 1 p 0 #[Qe p,Qf b n cap] 105 (0,0) (Qe p) kr kr kr kr kr kr<|zn (some 18) (Qe p)<|uY (some 19) _ (.bool false) kr kr (fun o w ho=>zgC (t:=103) (tp:=105) (t':=103) kr kr (x:=(.tmp 17)) (y:=(.tmp 18)) ⟨p,0,none⟩ ho kr kr w)<|zb<|zi kr kr<|zj kr<|wV ?_;exact⟨[],.nil,rfl,_,(BE.row (Qg p) b n cap cur out (UP rfl) hn hr),H0⟩
theorem zmh (p:Nat)(out:List UInt8):FnB Tryz.prog 134 #[Qe p] (.tuple #[]) p 105 5 out out (fun _=>True):=
 zgy [] 20 Tryz.func134 fun w0 w L E hE _ HS=>by
  rcases hE with⟨a,rfl|rfl⟩|⟨a,b,n,cap,cur,_,rfl|rfl,hn,hr⟩
  ·exact zmd p w0 w L HS
  ·exact zme p w0 w L HS
  ·exact zmf p b n cap cur out hn hr w0 w L HS
  ·exact zmg p b n cap cur out hn hr w0 w L HS
theorem zdM (p:Nat)(out:List UInt8)(s:Qa)(h0:0<s.size\/out≠[])(hm:out.length+s.size<=0x800000000000):FnB Tryz.prog 97 #[Qe p,.string s] (.tuple #[.int .i64 (Ql s:Int),.nilIface]) p 105 5 out (out++tl s) (fun _=>True):=by
 refine zgy [.tmp 4,.tmp 5] 19 Tryz.func97 fun w0 w L E hE _ HS=>?_;have H0:St w0.heap.size w0 w (L++E):=HS.perm QV;refine zd [0,1] kr kr<|zn (some 4) (.int .i64 0)<|zn (some 5) (.nilIface)<|zb<|zd [0,1] kr kr<|zn (some 6) (Qe p)<|zdI (l:=L) H0 hE (some 7) 134 #[Qe p] (.tuple #[]) out (fun _=>True) (zmh p out) trivial kr kr ?_;intro E1 w1 hE1 H1;clear H0;rcases hE1 with⟨a,ha⟩ | ⟨a,b,n,cap,cur,_,ha,hn,hr⟩
 ·have h0':0<Ql s:=h0.resolve_right (fun h=>h rfl);simp only[Ui]at hm;have HP:St w0.heap.size w0 w1 ([(p,Qk #[.pointer a,.slice none 0 0] 105 (0,0))]++L):=H1.perm QV;refine zb<|zd [0,1,2,3,4,5,6,7,8,9] kr kr<|zn (some 8) (Qe p)<|zn (some 9) (Qe p)<|zn (some 10) (Qe p)<|zn (some 11) (.pointer (some ⟨p,1,none⟩))<|jR HP (some 12) 95 (.tmp 11) 0 p 1 #[.pointer a,.slice none 0 0] 105 (0,0) (.slice none 0 0) kr kr kr kr kr kr<|zn (some 13) (.string s)<|zl6 HP (some 14) 95 9 5 (.tmp 12) (.tmp 13) s kr kr kr kr kr kr (by omega) (by omega) ?_;intro b_1 cap_2 cur_3 w2 H2 hr_4;clear HP;refine zn (some 15) (Qe p)<|zn (some 16) (.pointer (some ⟨p,1,none⟩))<|qT H2 1 ([(b_1,Qk cur_3 5),(p,Qk #[.pointer a,Qf b_1 (Ql s) cap_2] 105 (0,0))]++L) 95 (.tmp 16) (.tmp 14) p (1) #[.pointer a,.slice none 0 0] #[.pointer a,Qf b_1 (Ql s) cap_2] 105 (Qf b_1 (Ql s) cap_2) kr kr kr kr kr kr (of_decide_eq_true kr) kr kr ?_;intro w3 H3;clear H2;refine zb<|zd [0,1,2,3] kr kr<|zn (some 17) (.string s)<|zn (some 18) (.int .i64 (Ql s:Int))<|zn (some 4) (.int .i64 (Ql s:Int))<|zn (some 5) (.nilIface)<|zb<|zk kr<|wV ?_;exact⟨[.int .i64 (Ql s:Int),.nilIface],(.tmp (.int .i64 (Ql s:Int)) kr (.tmp (.nilIface) kr .nil)),rfl,_,(BE.row a b_1 (Ql s) cap_2 cur_3 (tl s) ha rfl hr_4),H3⟩
 ·have HP:St w0.heap.size w0 w1 ([(b,Qk cur 5),(p,Qk #[.pointer a,Qf b n cap] 105 (0,0))]++L):=H1.perm QV;refine zb<|zd [0,1,2,3,4,5,6,7,8,9] kr kr<|zn (some 8) (Qe p)<|zn (some 9) (Qe p)<|zn (some 10) (Qe p)<|zn (some 11) (.pointer (some ⟨p,1,none⟩))<|jR HP (some 12) 95 (.tmp 11) 1 p 1 #[.pointer a,Qf b n cap] 105 (0,0) (Qf b n cap) kr kr kr kr kr kr<|zn (some 13) (.string s)<|zl5 HP (some 14) 95 9 5 (.tmp 12) (.tmp 13) 0 b n cap cur out s (fun b_5 cur_7=>([(b_5,Qk cur_7 5),(p,Qk #[.pointer a,Qf b n cap] 105 (0,0))]++L)) kr kr kr kr kr kr hr kr (by omega) (fun _ _=>by kernel_rfl) ?_;intro b_5 cap_6 cur_7 w4 H4 hr_8;clear HP;refine zn (some 15) (Qe p)<|zn (some 16) (.pointer (some ⟨p,1,none⟩))<|qT H4 1 ([(b_5,Qk cur_7 5),(p,Qk #[.pointer a,Qf b_5 (n+Ql s) cap_6] 105 (0,0))]++L) 95 (.tmp 16) (.tmp 14) p (1) #[.pointer a,Qf b n cap] #[.pointer a,Qf b_5 (n+Ql s) cap_6] 105 (Qf b_5 (n+Ql s) cap_6) kr kr kr kr kr kr (of_decide_eq_true kr) kr kr ?_;intro w5 H5;clear H4;refine zb<|zd [0,1,2,3] kr kr<|zn (some 17) (.string s)<|zn (some 18) (.int .i64 (Ql s:Int))<|zn (some 4) (.int .i64 (Ql s:Int))<|zn (some 5) (.nilIface)<|zb<|zk kr<|wV ?_;exact⟨[.int .i64 (Ql s:Int),.nilIface],(.tmp (.int .i64 (Ql s:Int)) kr (.tmp (.nilIface) kr .nil)),rfl,_,(BE.row a b_5 (n+Ql s) cap_6 cur_7 (out++tl s) ha (by rw[Qx,zu,hn]) hr_8),H5⟩
theorem zmi (pb m:Nat)(ih: ∀(out:List UInt8) (l:Bool) (s:Qa) (p:Qc) (n c:Nat) (k:Fo),s.size<=0x800000000000->Qo out+9+Ql s+wtF k<=0x800000000000->k.cnt<m->vj Tryz.prog 67 #[Qe pb,.agg #[.bool l,.string s,.slice p n c]] (.tuple #[]) pb 105 5 out (out++wr1 l s (szF k) (wrF k)) (fun w=>zq w.heap.size w p n k))(out:List UInt8)(l:Bool)(s:Qa)(p:Qc)(n c:Nat)(k:Fo)(hs:s.size<=0x800000000000)(hw:Qo out+9+Ql s+wtF k<=0x800000000000)(hkm:k.cnt<m+1):vj Tryz.prog 67 #[Qe pb,.agg #[.bool l,.string s,.slice p n c]] (.tuple #[]) pb 105 5 out (out++wr1 l s (szF k) (wrF k)) (fun w=>zq w.heap.size w p n k):=by
 refine vj.intro (c:=zz Tryz.f67) [] 31 Tryz.func67 kr kr kr fun w0 w E0 hE0 hpre H0=>?_;have hn:=hpre.1;have hnm:=hpre.2.1;refine zd [0] kr kr<|xU H0 (some 3) 58 (.tmp 1) (.agg #[.bool l,.string s,.slice p n c]) kr kr kr ?_;intro b1 w1 H1;clear H0;refine zb<|za kr<|zd [0,1,2,3] kr kr<|zn (some 6) (.pointer (some ⟨b1,1,none⟩))<|jR H1 (some 7) 9 (.tmp 6) 0 b1 1 #[.bool l,.string s,.slice p n c] 58 (0,0) (.string s) kr kr kr kr kr kr<|kA H1 (some 8) 94 #[.string s] (.bool (yf s)) (zbB s) (fun w=>by kernel_rfl) kr ?_;intro w2 H2;clear H1;cases hq1:yf s
 ·refine zn (some 9) (.bool true)<|zb<|zh kr kr ?_;have hsl:=vg k;have hhl:=xN (frm l) (Ql s+szF k);refine D2.g_draw0 [0,1,2,3,4,5] [(some 10,fun _=>Qe pb),(some 11,fun _=>.agg #[.bool l,.string s,.slice p n c]),(some 12,fun _=>.agg #[.bool l,.string s,.slice p n c]),(some 13,fun _=>.int .u64 ((Ql s+szF k:Nat):Int)),(some 14,fun _=>.string (zg (hd (frm l) (Ql s+szF k)))),(some 15,fun _=>.tuple #[.int .i64 (Ql (zg (hd (frm l) (Ql s+szF k))):Int),.nilIface])] (qM w0 pb 105 5 (out++tl (zg (hd (frm l) (Ql s+szF k)))) (b1,Qk #[.bool l,.string s,.slice p n c] 58 (0,0)) E0 5) kr kr kr H2.drew ⟨?_,?_,?_,?_,?_,?_,trivial⟩ ?_
  ·exact zl7 rfl (fun g w=>by kernel_rfl)
  ·exact zgE (C:=#[.bool l,.string s,.slice p n c]) (T':=58) (t:=58) (x:=(.tmp 3)) rfl (fun g=>by kernel_rfl) (fun g=>by kernel_rfl) rfl kr
  ·exact zgE (C:=#[.bool l,.string s,.slice p n c]) (T':=58) (t:=58) (x:=(.tmp 3)) rfl (fun g=>by kernel_rfl) (fun g=>by kernel_rfl) rfl kr
  ·exact zgF (f:=95) (args:=#[.agg #[.bool l,.string s,.slice p n c]]) rfl (zl4 l s p n c k hs (by omega)) (fun w hb=>zq.call hpre hb) (fun g w=>by kernel_rfl)
  ·exact zl8 (f:=96) (args:=#[.agg #[.bool l,.string s,.slice p n c],.int .u64 ((Ql s+szF k:Nat):Int)]) rfl (zgv l s p n c (Ql s+szF k) (by omega)) (fun g w=>by kernel_rfl)
  ·exact zl9 (f:=97) (args:=#[Qe pb,.string (zg (hd (frm l) (Ql s+szF k)))]) rfl hE0 (zdM pb out (zg (hd (frm l) (Ql s+szF k))) (Vy (by rw[yU];exact hhl.1)) (by rw[yU];omega)) (fun g w=>by kernel_rfl)
  intro L0 G0 w3 hall HL;clear H2;obtain⟨E1,hE1,H3⟩:=HL.done (hall 5 (Qp kr));refine wW<|zd [0,1,2,3] kr kr ?_;have hl0:(out++tl (zg (hd (frm l) (Ql s+szF k)))).length=out.length+(hd (frm l) (Ql s+szF k)).length:=by rw[Qx,qq]
  have hw1:out++wr1 l s (szF k) (wrF k)=(out++tl (zg (hd (frm l) (Ql s+szF k)))++tl s)++wrF k:=by unfold wr1;rw[if_neg (by rw[hq1];decide),qq];simp only[QD]
  have hl1:(out++tl (zg (hd (frm l) (Ql s+szF k)))++tl s).length=out.length+(hd (frm l) (Ql s+szF k)).length+Ql s:=by rw[Qx,hl0,zu]
  refine zn (some 16) (Qe pb)<|zn (some 17) (.pointer (some ⟨b1,1,none⟩))<|jR H3 (some 18) 9 (.tmp 17) 0 b1 1 #[.bool l,.string s,.slice p n c] 58 (0,0) (.string s) kr kr kr kr kr kr<|zdI (l:=[(b1,Qk #[.bool l,.string s,.slice p n c] 58 (0,0))]) H3 hE1 (some 19) 97 #[Qe pb,.string s] (.tuple #[.int .i64 (Ql s:Int),.nilIface]) ((out++tl (zg (hd (frm l) (Ql s+szF k))))++tl s) (fun _=>True) (zdM pb (out++tl (zg (hd (frm l) (Ql s+szF k)))) s (UP (by intro q;have h9:=congrArg Qo q;rw[hl0]at h9;simp only[Ui]at h9;omega)) (by rw[hl0];omega)) trivial kr kr ?_;intro E2 w4 hE2 H4;clear H3;refine zb<|zd [0,1,2,3] kr kr<|zn (some 20) (.pointer (some ⟨b1,2,none⟩))<|jR H4 (some 21) 47 (.tmp 20) 0 b1 2 #[.bool l,.string s,.slice p n c] 58 (0,0) (.slice p n c) kr kr kr kr kr kr<|zn (some 22) (.int .i64 (n:Int))<|zn (some 23) (.int .i64 0)<|zb<|zm 0 kr ?_;have HD1:St w0.heap.size w0 w4 ([]++E2):=H4.sub (Qs _ (Rn E2));refine zO kr (fun mz ρ ww=> ∃(i:Nat) (r:Fo) (o:List UInt8) (Ez:Qb),n-i=mz/\(FoR w0.heap.size w0 p i r)/\(i+Fo.len r=n)/\(Fo.cnt r<=Fo.cnt k)/\(Qo o+wtF r<=0x800000000000)/\(out++wr1 l s (szF k) (wrF k)=o++wrF r)/\(BE pb 105 5 o Ez)/\St w0.heap.size w0 ww ([]++Ez)/\Is [(0,Qe pb),(1,.agg #[.bool l,.string s,.slice p n c]),(3,Qe b1),(9,.bool true),(21,.slice p n c),(22,.int .i64 (n:Int)),(23,.int .i64 (i:Int))] ρ) (n-0) ⟨0,k,((out++tl (zg (hd (frm l) (Ql s+szF k))))++tl s),E2,rfl,(zq.start hpre),(by have hn0:=(hpre).1;omega),(QH _),(by rw[hl1];omega),hw1,hE2,HD1,zl⟩ ?_;clear HD1;rintro _ _ w5 ⟨i,r,o,Ez,rfl,hR,hN,hcn,hwt,hout,hEz,H5,_,rfl⟩;refine zd [0] kr kr ?_;by_cases hc2:(i:Nat)<n
  ·refine qZ (some 24) (.bool (decide ((i:Int)<(n:Int)))) (.bool true) (fun w=>by kernel_rfl) (zc (decide_eq_true (by omega))) kr<|zb<|za kr<|zh kr kr<|zj kr<|wW<|za kr<|zm 1 kr<|zd [0,1,2,3] kr kr ?_;obtain⟨l1,s1,k1,r1,b1,off1,C1,T1,fz1,p1,n1,c1,hr1,hp1,hb1,hh1,hs1,hx1,hz1,hk1,hR1,hN1⟩:=FoR.open hR hN (by omega);refine uY (some 25) _ (.pointer (some ⟨b1,off1+i*3,none⟩)) kr kr (fun o w ho=>zgj (kd:=.i64) (t:=47) (e:=58) (bytes:=48) kr (x:=(.tmp 21)) (y:=(.tmp 23)) b1 off1 n c i hp1 ho kr kr (by omega) w)<|zff H5 (some 26) 58 (.tmp 25) b1 (off1+i*3) 3 C1 #[.bool l1,.string s1,.slice p1 n1 c1] T1 fz1 kr kr kr hh1 hb1 kr hs1 hx1<|zA H5 (some 5) 58 (.agg #[.bool false,.string (⟨#[]⟩),.slice none 0 0]) kr kr kr ?_;intro b2 w6 H6;clear H5;refine qT H6 0 ([(b2,Qk #[.bool l1,.string s1,.slice p1 n1 c1] 58 (0,0))]++Ez) 58 (.tmp 5) (.tmp 26) b2 (0) (#[.bool false,.string (⟨#[]⟩),.slice none 0 0]) #[.bool l1,.string s1,.slice p1 n1 c1] 58 (.agg #[.bool l1,.string s1,.slice p1 n1 c1]) kr kr kr kr kr kr (of_decide_eq_true kr) kr kr ?_;intro w7 H7;clear H6;refine zb<|yu [0,1,2] kr ?_;have hcn1:=hcn;rw[hr1]at hcn1;simp only[Fo.cnt]at hcn1;have hwt1:=hwt;rw[hr1]at hwt1;simp only[wtF]at hwt1;have hwl1:(wr1 l1 s1 (szF k1) (wrF k1)).length<=9+Ql s1+wtF k1:=by have h9:=zaw (.cons l1 s1 k1 .nil);simp only[wrF,wtF,QI,RL]at h9;exact h9
   refine zn (some 27) (Qe pb)<|qf H7 (some 28) 58 (.tmp 5) 0 b2 #[.bool l1,.string s1,.slice p1 n1 c1] 58 (0,0) kr kr kr kr kr ?_;have HD3:St w0.heap.size w0 w7 ([]++Ez):=H7.sub (Qs _ (Rn Ez));refine zdJ HD3 hEz (some 29) 67 #[Qe pb,.agg #[.bool l1,.string s1,.slice p1 n1 c1]] (.tuple #[]) (o++wr1 l1 s1 (szF k1) (wrF k1)) (fun w=>zq w.heap.size w p1 n1 k1) (ih o l1 s1 p1 n1 c1 k1 hz1 (by omega) (by omega)) hk1 kr kr ?_;intro E3 w8 hE3 H8;clear HD3;refine zb<|wW<|yu [0,1] kr<|qZ (some 30) (.int .i64 (Qz.wrap ((i:Int)+1))) (.int .i64 ((i+1:Nat):Int)) (fun w=>by kernel_rfl) (zf (ya (a:=i) (b:=1) (by omega))) kr<|zn (some 23) (.int .i64 ((i+1:Nat):Int))<|zb ?_;show ∃m,_/\_;exact⟨_,(by omega),(i+1),r1,(o++wr1 l1 s1 (szF k1) (wrF k1)),E3,rfl,hR1,hN1,(by omega),(by rw[Qx];omega),(by rw[hout,hr1];simp only[wrF,QD]),hE3,H8,zl⟩
  ·refine qZ (some 24) (.bool (decide ((i:Int)<(n:Int)))) (.bool false) (fun w=>by kernel_rfl) (zc (decide_eq_false (by omega))) kr<|zb<|za kr<|zi kr kr<|zE 0 kr<|wV ?_;have hdn:=FoR.done hN (by omega);rw[hdn]at hout;exact⟨[],.nil,rfl,_,(by rw[hout,show wrF Fo.nil=[] from rfl,QI];exact hEz),H5⟩
 ·refine zn (some 9) (.bool false)<|zb<|zi kr kr<|zj kr<|wW<|zd [0,1,2,3] kr kr ?_;have hsz1:=jV hq1;have hw1:out++wr1 l s (szF k) (wrF k)=(out++tl s)++wrF k:=by unfold wr1;rw[if_pos hq1,RS,QD]
  have hl1:(out++tl s).length=out.length+Ql s:=by rw[Qx,zu]
  refine zn (some 16) (Qe pb)<|zn (some 17) (.pointer (some ⟨b1,1,none⟩))<|jR H2 (some 18) 9 (.tmp 17) 0 b1 1 #[.bool l,.string s,.slice p n c] 58 (0,0) (.string s) kr kr kr kr kr kr<|zdI (l:=[(b1,Qk #[.bool l,.string s,.slice p n c] 58 (0,0))]) H2 hE0 (some 19) 97 #[Qe pb,.string s] (.tuple #[.int .i64 (Ql s:Int),.nilIface]) (out++tl s) (fun _=>True) (zdM pb out s (Vy (by omega)) (by omega)) trivial kr kr ?_;intro E4 w9 hE4 H9;clear H2;refine zb<|zd [0,1,2,3] kr kr<|zn (some 20) (.pointer (some ⟨b1,2,none⟩))<|jR H9 (some 21) 47 (.tmp 20) 0 b1 2 #[.bool l,.string s,.slice p n c] 58 (0,0) (.slice p n c) kr kr kr kr kr kr<|zn (some 22) (.int .i64 (n:Int))<|zn (some 23) (.int .i64 0)<|zb<|zm 0 kr ?_;have HD4:St w0.heap.size w0 w9 ([]++E4):=H9.sub (Qs _ (Rn E4));refine zO kr (fun mz ρ ww=> ∃(i:Nat) (r:Fo) (o:List UInt8) (Ez:Qb),n-i=mz/\(FoR w0.heap.size w0 p i r)/\(i+Fo.len r=n)/\(Fo.cnt r<=Fo.cnt k)/\(Qo o+wtF r<=0x800000000000)/\(out++wr1 l s (szF k) (wrF k)=o++wrF r)/\(BE pb 105 5 o Ez)/\St w0.heap.size w0 ww ([]++Ez)/\Is [(0,Qe pb),(1,.agg #[.bool l,.string s,.slice p n c]),(3,Qe b1),(9,.bool false),(21,.slice p n c),(22,.int .i64 (n:Int)),(23,.int .i64 (i:Int))] ρ) (n-0) ⟨0,k,(out++tl s),E4,rfl,(zq.start hpre),(by have hn0:=(hpre).1;omega),(QH _),(by rw[hl1];omega),hw1,hE4,HD4,zl⟩ ?_;clear HD4;rintro _ _ w10 ⟨i,r,o,Ez,rfl,hR,hN,hcn,hwt,hout,hEz,H10,_,rfl⟩;refine zd [0] kr kr ?_;by_cases hc5:(i:Nat)<n
  ·refine qZ (some 24) (.bool (decide ((i:Int)<(n:Int)))) (.bool true) (fun w=>by kernel_rfl) (zc (decide_eq_true (by omega))) kr<|zb<|za kr<|zh kr kr<|zj kr<|wW<|za kr<|zm 1 kr<|zd [0,1,2,3] kr kr ?_;obtain⟨l2,s2,k2,r2,b2,off2,C2,T2,fz2,p2,n2,c2,hr2,hp2,hb2,hh2,hs2,hx2,hz2,hk2,hR2,hN2⟩:=FoR.open hR hN (by omega);refine uY (some 25) _ (.pointer (some ⟨b2,off2+i*3,none⟩)) kr kr (fun o w ho=>zgj (kd:=.i64) (t:=47) (e:=58) (bytes:=48) kr (x:=(.tmp 21)) (y:=(.tmp 23)) b2 off2 n c i hp2 ho kr kr (by omega) w)<|zff H10 (some 26) 58 (.tmp 25) b2 (off2+i*3) 3 C2 #[.bool l2,.string s2,.slice p2 n2 c2] T2 fz2 kr kr kr hh2 hb2 kr hs2 hx2<|zA H10 (some 5) 58 (.agg #[.bool false,.string (⟨#[]⟩),.slice none 0 0]) kr kr kr ?_;intro b3 w11 H11;clear H10;refine qT H11 0 ([(b3,Qk #[.bool l2,.string s2,.slice p2 n2 c2] 58 (0,0))]++Ez) 58 (.tmp 5) (.tmp 26) b3 (0) (#[.bool false,.string (⟨#[]⟩),.slice none 0 0]) #[.bool l2,.string s2,.slice p2 n2 c2] 58 (.agg #[.bool l2,.string s2,.slice p2 n2 c2]) kr kr kr kr kr kr (of_decide_eq_true kr) kr kr ?_;intro w12 H12;clear H11;refine zb<|yu [0,1,2] kr ?_;have hcn2:=hcn;rw[hr2]at hcn2;simp only[Fo.cnt]at hcn2;have hwt2:=hwt;rw[hr2]at hwt2;simp only[wtF]at hwt2;have hwl2:(wr1 l2 s2 (szF k2) (wrF k2)).length<=9+Ql s2+wtF k2:=by have h9:=zaw (.cons l2 s2 k2 .nil);simp only[wrF,wtF,QI,RL]at h9;exact h9
   refine zn (some 27) (Qe pb)<|qf H12 (some 28) 58 (.tmp 5) 0 b3 #[.bool l2,.string s2,.slice p2 n2 c2] 58 (0,0) kr kr kr kr kr ?_;have HD6:St w0.heap.size w0 w12 ([]++Ez):=H12.sub (Qs _ (Rn Ez));refine zdJ HD6 hEz (some 29) 67 #[Qe pb,.agg #[.bool l2,.string s2,.slice p2 n2 c2]] (.tuple #[]) (o++wr1 l2 s2 (szF k2) (wrF k2)) (fun w=>zq w.heap.size w p2 n2 k2) (ih o l2 s2 p2 n2 c2 k2 hz2 (by omega) (by omega)) hk2 kr kr ?_;intro E5 w13 hE5 H13;clear HD6;refine zb<|wW<|yu [0,1] kr<|qZ (some 30) (.int .i64 (Qz.wrap ((i:Int)+1))) (.int .i64 ((i+1:Nat):Int)) (fun w=>by kernel_rfl) (zf (ya (a:=i) (b:=1) (by omega))) kr<|zn (some 23) (.int .i64 ((i+1:Nat):Int))<|zb ?_;show ∃m,_/\_;exact⟨_,(by omega),(i+1),r2,(o++wr1 l2 s2 (szF k2) (wrF k2)),E5,rfl,hR2,hN2,(by omega),(by rw[Qx];omega),(by rw[hout,hr2];simp only[wrF,QD]),hE5,H13,zl⟩
  ·refine qZ (some 24) (.bool (decide ((i:Int)<(n:Int)))) (.bool false) (fun w=>by kernel_rfl) (zc (decide_eq_false (by omega))) kr<|zb<|za kr<|zi kr kr<|zE 0 kr<|wV ?_;have hdn:=FoR.done hN (by omega);rw[hdn]at hout;exact⟨[],.nil,rfl,_,(by rw[hout,show wrF Fo.nil=[] from rfl,QI];exact hEz),H10⟩
theorem zmj (pb:Nat)(out:List UInt8)(l:Bool)(s:Qa)(p:Qc)(n c:Nat)(k:Fo)(hs:s.size<=0x800000000000)(hw:Qo out+9+Ql s+wtF k<=0x800000000000):vj Tryz.prog 67 #[Qe pb,.agg #[.bool l,.string s,.slice p n c]] (.tuple #[]) pb 105 5 out (out++wr1 l s (szF k) (wrF k)) (fun w=>zq w.heap.size w p n k):=by
 have key: ∀(m:Nat) (out:List UInt8) (l:Bool) (s:Qa) (p:Qc) (n c:Nat) (k:Fo),s.size<=0x800000000000->Qo out+9+Ql s+wtF k<=0x800000000000->k.cnt<m->vj Tryz.prog 67 #[Qe pb,.agg #[.bool l,.string s,.slice p n c]] (.tuple #[]) pb 105 5 out (out++wr1 l s (szF k) (wrF k)) (fun w=>zq w.heap.size w p n k):=by
  intro m
  induction m with
  | zero=>intros;omega
  | succ m ih=>intro out l s p n c k hs hw hkm;exact zmi pb m ih out l s p n c k hs hw hkm
 exact key (k.cnt+1) out l s p n c k hs hw (by omega)
def FnO (P:Program)(f:Nat)(args:Qd)(v:Value)(p:Nat)(T e:TypeId)(out:List UInt8):Prop:=
 ∀(w0 w:World) (E:Qb),BE p T e out E->St w0.heap.size w0 w E->Calls P f args w fun r w'=>r=.returned v/\St w0.heap.size w0 w' []
theorem zmk {P:Program}{N:Nat}{ops:Array Oper}{i:Nat}{r:List Nat}{K:Env->World->Prop}{ρ:Env}{w:World}{w0:World}{E:Qb}(HS:St w0.heap.size w0 w E){p:Nat}{T e:TypeId}{out:List UInt8}(hE:BE p T e out E)(d:Option Nat)(f:Nat)(args:Qd)(v:Value)(hc:FnO P f args v p T e out)
 (h:opv P ops i ρ w=some (d,true,.ok (.enter f args) w)) (hd:dOK d N=true) (kk: ∀w',St w0.heap.size w0 w' []->WPs P N ops K r (zr ρ d v) w'):WPs P N ops K (i::r) ρ w:=by
 obtain⟨o,ho,rfl,hw,hr⟩:=yc h;refine WPo.run ho hw fun a ha=>?_;rw[hr,UF];refine(hc w0 w E hE HS).mono ?_;rintro _ w' ⟨rfl,hS⟩;exact⟨_,ha.put _ (zZ hd) v,kk w' hS⟩
theorem zml (pb b n cap:Nat)(cur:Qd)(out:List UInt8)(a:Qc)(hn:n=out.length)(hr:Rw 1 cur cap n (cellsB out))(h0:0<n)(hm:n<=0x800000000000)(hcap:cap≠0)(w0 w:World)(H0:St w0.heap.size w0 w [(b,Qk cur 5),(pb,Qk #[.pointer a,Qf b n cap] 105 (0,0))]):WP Tryz.prog 14 (zz Tryz.f68) (yx Tryz.prog [.tmp 2] fun v' w'=>v'=.string (zg out)/\St w0.heap.size w0 w' []) (ini #[Qe pb]) w:=by
 refine zd [0] kr kr<|zn (some 2) (.string (⟨#[]⟩))<|zb<|D2.g_sdraw [0,1,2,3,4,5,6,7,8,9,10,11] [(some 3,fun _=>Qe pb),(some 4,fun _=>Qe pb),(some 5,fun _=>.pointer (some ⟨pb,1,none⟩)),(some 6,fun _=>Qf b n cap),(some 7,fun _=>Qe b),(some 8,fun _=>Qe pb),(some 9,fun _=>Qe pb),(some 10,fun _=>.pointer (some ⟨pb,1,none⟩)),(some 11,fun _=>Qf b n cap),(some 12,fun _=>.int .i64 (n:Int)),(some 13,fun _=>.string (zg out)),(some 2,fun _=>.string (zg out))] (xx w0 [(b,Qk cur 5),(pb,Qk #[.pointer a,Qf b n cap] 105 (0,0))] 10) kr kr kr kr H0.drew ⟨?_,?_,?_,?_,?_,?_,?_,?_,?_,?_,?_,?_,trivial⟩ ?_
 ·exact vk rfl (fun g w=>by kernel_rfl)
 ·exact vk rfl (fun g w=>by kernel_rfl)
 ·exact vk rfl (fun g w=>by kernel_rfl)
 ·exact zdK rfl (fun L hN=>(hN.2.2.no 4 10 kr (hN.post 4 kr))) (.load 95 (.tmp 5)) (fun g=>by kernel_rfl) (fun g w o hS ho=>hS.load1_run (j:=1) (b:=pb) (off:=1) (C:=#[.pointer a,Qf b n cap]) (T:=105) kr kr kr kr o ho)
 ·exact zdK rfl (fun L hN=>(hN.post 10 kr)) (zdL 95 (.tmp 6)) (fun g=>by kernel_rfl) (fun g w o hS ho=>zmb (a:=⟨b,0,none⟩) (n:=n) (c:=cap) kr (by omega) o ho)
 ·exact vk rfl (fun g w=>by kernel_rfl)
 ·exact vk rfl (fun g w=>by kernel_rfl)
 ·exact vk rfl (fun g w=>by kernel_rfl)
 ·exact zdK rfl (fun L hN=>(hN.2.2.no 9 10 kr (hN.post 9 kr))) (.load 95 (.tmp 10)) (fun g=>by kernel_rfl) (fun g w o hS ho=>hS.load1_run (j:=1) (b:=pb) (off:=1) (C:=#[.pointer a,Qf b n cap]) (T:=105) kr kr kr kr o ho)
 ·exact vk rfl (fun g w=>by kernel_rfl)
 ·exact zma rfl (zao 136 3 (.tmp 7) (.tmp 12)) (fun g=>by kernel_rfl) (fun g w o hS ho=>zmc (j:=0) (b:=b) (n:=n) (cap:=cap) (C:=cur) (e:=5) hS kr kr kr kr kr hr (by omega) (by omega) o ho)
 ·exact vk rfl (fun g w=>by kernel_rfl)
 intro L0 G0 w1 hall HL;clear H0;have H1:St w0.heap.size w0 w1 []:=by unfold xx at HL;rw[hall 10 (Qp kr)]at HL;exact HL
 refine zk kr<|wV ?_;exact⟨[.string (zg out)],.tmp _ kr .nil,rfl,H1⟩
theorem zmm (pb:Nat)(out:List UInt8)(h0:0<out.length)(hm:out.length<=0x800000000000):FnO Tryz.prog 68 #[Qe pb] (.string (zg out)) pb 105 5 out:=fun w0 w E hE HS=>by
 rcases hE with⟨a,ha⟩|⟨a,b,n,cap,cur,_,ha,hn,hr⟩
 ·simp at h0
 ·have h9:Calls Tryz.prog 68 #[Qe pb] w fun r w'=> ∃v',r=.returned v'/\(v'=.string (zg out)/\St w0.heap.size w0 w' []):=
   kt (c:=zz Tryz.f68) (rs:=[.tmp 2]) (N:=14) Tryz.func68 kr kr kr (zml pb b n cap cur out a hn hr (by omega) (by omega) (by have:=hr.le;omega) w0 w HS)
  refine h9.mono ?_;rintro _ w' ⟨v',he,hv,hS⟩;exact⟨by rw[he,hv],hS⟩
theorem zgG (l:Bool)(s:Qa)(p:Qc)(n c:Nat)(k:Fo)(hs:s.size<=0x800000000000):FnP Tryz.prog 37 #[.agg #[.bool l,.string s,.slice p n c]] (fun w=>zq w.heap.size w p n k) (xZ (zC l s n k)):=by
 refine zR [.tmp 2,.tmp 3] 20 Tryz.func37 fun w hpre=>?_;have H0:=St.start w;have hn:=hpre.1;have hnm:=hpre.2.1;have hdl:=zbz k;refine zd [0,1,2] kr kr<|xU H0 (some 1) 58 (.tmp 0) (.agg #[.bool l,.string s,.slice p n c]) kr kr kr ?_;intro b1 w1 H1;clear H0;refine zn (some 2) (.string (⟨#[]⟩))<|zn (some 3) (.int .i64 0)<|zb<|za kr<|zm 0 kr<|zd [0,1,2,3] kr kr<|qf H1 (some 6) 58 (.tmp 1) 0 b1 #[.bool l,.string s,.slice p n c] 58 (0,0) kr kr kr kr kr<|yP H1 (some 7) 65 #[.agg #[.bool l,.string s,.slice p n c],.int .i64 4000] (fun w=>zq w.heap.size w p n k) (.int .i64 (lfV (lf1 l s n (lfF k) 4000))) (left_fn l s p n c k (by omega) 4000 (by omega)) (zq.call hpre H1.below) ?_;intro w2 H2;clear H1;rcases zdB (lf1 l s n (lfF k) 4000) with hv1 | ⟨y,hv1⟩
 ·refine zL 7 (v:=.int .i64 (lfV (lf1 l s n (lfF k) 4000))) (v':=.int .i64 (-1)) (zf (by rw[hv1];rfl)) kr<|zn (some 8) (.bool true)<|zn (some 5) (.bool true)<|zb<|zh kr kr<|zd [0,1] kr kr<|zn (some 2) (.string (⟨#[]⟩))<|zn (some 3) (.int .i64 1)<|zb<|zk kr<|wV ?_;exact⟨[.string (⟨#[]⟩),.int .i64 1],(.tmp (.string (⟨#[]⟩)) kr (.tmp (.int .i64 1) kr .nil)),(zlU hv1).symm,H2.below⟩
 ·refine zL 7 (v:=.int .i64 (lfV (lf1 l s n (lfF k) 4000))) (v':=.int .i64 (y:Int)) (zf (by rw[hv1];rfl)) kr ?_;have hok:=zgr hv1;have hcn:k.cnt<4000:=hok.2.2;have hwt:=hpre.wt;refine qZ (some 8) (.bool (decide ((y:Int)<0))) (.bool false) (fun w=>by kernel_rfl) (zc (decide_eq_false (by omega))) kr<|zn (some 5) (.bool false)<|zb<|zi kr kr<|zd [0,1,2,3] kr kr<|qf H2 (some 10) 58 (.tmp 1) 0 b1 #[.bool l,.string s,.slice p n c] 58 (0,0) kr kr kr kr kr<|yP H2 (some 11) 47 #[.agg #[.bool l,.string s,.slice p n c]] (fun w=>zq w.heap.size w p n k) (.int .i64 ((dp1 l (dpF k):Nat):Int)) (zdG l s p n c k (by omega) (by omega)) (zq.call hpre H2.below) ?_;intro w3 H3;clear H2;by_cases hc1:(dp1 l (dpF k):Nat)>8
  ·refine qZ (some 12) (.bool (decide (8<((dp1 l (dpF k):Nat):Int)))) (.bool true) (fun w=>by kernel_rfl) (zc (decide_eq_true (by omega))) kr<|zn (some 9) (.bool true)<|zb<|zh kr kr<|zd [0,1] kr kr<|zn (some 2) (.string (⟨#[]⟩))<|zn (some 3) (.int .i64 5)<|zb<|zk kr<|wV ?_;exact⟨[.string (⟨#[]⟩),.int .i64 5],(.tmp (.string (⟨#[]⟩)) kr (.tmp (.int .i64 5) kr .nil)),(zlV hv1 (by omega)).symm,H3.below⟩
  ·refine qZ (some 12) (.bool (decide (8<((dp1 l (dpF k):Nat):Int)))) (.bool false) (fun w=>by kernel_rfl) (zc (decide_eq_false (by omega))) kr<|zn (some 9) (.bool false)<|zb<|zi kr kr<|zd [0,1,2,3] kr kr<|qf H3 (some 14) 58 (.tmp 1) 0 b1 #[.bool l,.string s,.slice p n c] 58 (0,0) kr kr kr kr kr<|yP H3 (some 15) 66 #[.agg #[.bool l,.string s,.slice p n c]] (fun w=>zq w.heap.size w p n k) (.int .u64 ((sz1 l s (szF k):Nat):Int)) (zgx l s p n c k (by omega) (by omega)) (zq.call hpre H3.below) ?_;intro w4 H4;clear H3;by_cases hc2:(sz1 l s (szF k):Nat)>4000
   ·refine qZ (some 16) (.bool (decide (4000<((sz1 l s (szF k):Nat):Int)))) (.bool true) (fun w=>by kernel_rfl) (zc (decide_eq_true (by omega))) kr<|zn (some 13) (.bool true)<|zb<|zh kr kr<|zd [0,1] kr kr<|zn (some 2) (.string (⟨#[]⟩))<|zn (some 3) (.int .i64 2)<|zb<|zk kr<|wV ?_;exact⟨[.string (⟨#[]⟩),.int .i64 2],(.tmp (.string (⟨#[]⟩)) kr (.tmp (.int .i64 2) kr .nil)),(zlW hv1 (by omega) (by omega)).symm,H4.below⟩
   ·refine qZ (some 16) (.bool (decide (4000<((sz1 l s (szF k):Nat):Int)))) (.bool false) (fun w=>by kernel_rfl) (zc (decide_eq_false (by omega))) kr<|zn (some 13) (.bool false)<|zb<|zi kr kr<|zj kr<|wW<|zd [0] kr kr ?_;have hpw:=zgs hok.1 hok.2.1 (show sz1 l s (szF k)<=4000 by omega) (by omega);refine zA H4 (some 4) 105 (.agg #[.pointer none,.slice none 0 0]) kr kr kr ?_;intro b2 w5 H5;clear H4;refine zb<|zd [0,1] kr kr<|qf H5 (some 17) 58 (.tmp 1) 1 b1 #[.bool l,.string s,.slice p n c] 58 (0,0) kr kr kr kr kr ?_;have HD3:St w.heap.size w w5 [(b2,Qk #[.pointer none,.slice none 0 0] 105 (0,0))]:=H5.sub (Qq _ (Qs _ QS));have hE0:BE b2 105 5 [] [(b2,Qk #[.pointer none,.slice none 0 0] 105 (0,0))]:=BE.nil none (Vy rfl);refine zdJ HD3 hE0 (some 18) 67 #[Qe b2,.agg #[.bool l,.string s,.slice p n c]] (.tuple #[]) ([]++wr1 l s (szF k) (wrF k)) (fun w=>zq w.heap.size w p n k) (zmj b2 [] l s p n c k hs (by simp only[Ui];omega)) hpre kr kr ?_;intro E1 w6 hE1 H6;clear HD3;refine zb<|zd [0,1,2] kr kr ?_;rw[RS]at hE1;refine zmk H6 hE1 (some 19) 68 #[Qe b2] (.string (zg (wr1 l s (szF k) (wrF k)))) (zmm b2 (wr1 l s (szF k) (wrF k)) (xO hok.1 hok.2.1 (by omega)).1 (by have h9:=(xO hok.1 hok.2.1 (by omega)).2;omega)) kr kr ?_;intro w7 H7;clear H6;refine jv (some 2) (.string (zg (wr1 l s (szF k) (wrF k)))) (fun w=>by kernel_rfl) kr<|zn (some 3) (.int .i64 0)<|zb<|zk kr<|wV ?_;exact⟨[.string (zg (wr1 l s (szF k) (wrF k))),.int .i64 0],(.tmp (.string (zg (wr1 l s (szF k) (wrF k)))) kr (.tmp (.int .i64 0) kr .nil)),(zlX hv1 (by omega) (by omega)).symm,H7.below⟩
structure X3 where
 l:Bool
 s:Qa
 p:Qc
 n:Nat
 c:Nat
 k:Fo
def X3.cs (x:X3):List Value:=[.bool x.l,.string x.s,.slice x.p x.n x.c]
def cells3:List X3->List Value
 | []=>[]
 | x::r=>.bool x.l ::.string x.s ::.slice x.p x.n x.c::cells3 r
def toFo:List X3->Fo
 | []=>.nil
 | x::r=>.cons x.l x.s x.k (toFo r)
def jz:List X3->Nat
 | []=>0
 | x::r=>x.k.cnt+jz r
theorem zbC: ∀L,(toFo L).len=L.length
 | []=>rfl
 | x::r=>by simp only[toFo,Fo.len,Rh,zbC r]
theorem ka: ∀L,(cells3 L).length=L.length*3
 | []=>rfl
 | x::r=>by simp only[cells3,Rh,ka r];omega
theorem zbD: ∀L M,cells3 (L++M)=cells3 L++cells3 M
 | [],M=>rfl
 | x::r,M=>by simp only[Rm,cells3,zbD r M]
theorem zbE: ∀L,∀u∈cells3 L,u.oneCell'=true
 | [],u,h=>nomatch h
 | x::r,u,h=>by
  simp only[cells3,List.mem_cons]at h;rcases h with rfl | rfl | rfl | h
  ·rfl
  ·rfl
  ·rfl
  ·exact zbE r u h
theorem zgH: ∀L M,jz (L++M)=jz L+jz M
 | [],M=>by simp[jz]
 | x::r,M=>by simp only[Rm,jz,zgH r M];omega
theorem zgI: ∀(L:List X3) (i:Nat) (x:X3),L[i]? =some x->jz (L.drop i)=x.k.cnt+jz (L.drop (i+1))
 | [],_,_,h=>by simp at h
 | y::r,0,x,h=>by simp at h;subst h;simp[jz]
 | y::r,i+1,x,h=>by
  have:=zgI r i x (by simpa using h)
  simpa using this
theorem zgJ: ∀(L:List X3) (i:Nat) (x:X3),L[i]? =some x->(cells3 L)[i*3]? =some (.bool x.l)/\(cells3 L)[i*3+1]? =some (.string x.s)/\(cells3 L)[i*3+2]? =some (.slice x.p x.n x.c)
 | [],_,_,h=>by simp at h
 | y::r,0,x,h=>by simp at h;subst h;exact⟨rfl,rfl,rfl⟩
 | y::r,i+1,x,h=>by
  obtain⟨h1,h2,h3⟩:=zgJ r i x (by simpa using h);rw[show (i+1)*3=i*3+3 by omega];exact⟨h1,h2,h3⟩
theorem ex3 {C:Qd}{o:Nat}{a b c:Value}(h1:C[o]? =some a)(h2:C[o+1]? =some b)(h3:C[o+2]? =some c):o+3<=C.size/\C.extract o (o+3)=#[a,b,c]:=by
 have hl:=(Q1.1 h3).1;refine⟨by omega,?_⟩;apply Array.ext
 ·simp;omega
 ·intro j hj1 hj2;simp at hj1 hj2;rcases (show j=0\/j=1\/j=2 by omega) with rfl | rfl | rfl
  ·have:=(Q1.1 h1).2;simpa using this
  ·have:=(Q1.1 h2).2;simpa using this
  ·have:=(Q1.1 h3).2;simpa using this
theorem Rw.at3 {cur:Qd}{cap n:Nat}{L:List X3}(h:Rw 3 cur cap n (cells3 L)){i:Nat}{x:X3}(hx:L[i]? =some x):cur[i*3]? =some (.bool x.l)/\cur[i*3+1]? =some (.string x.s)/\cur[i*3+2]? =some (.slice x.p x.n x.c):=by
 have hl:=h.len;rw[ka]at hl;have hi:i<L.length:=(QT.1 hx).1;obtain⟨h1,h2,h3⟩:=zgJ L i x hx;refine⟨?_,?_,?_⟩
 ·rw[h.get _ (by omega)];exact h1
 ·rw[h.get _ (by omega)];exact h2
 ·rw[h.get _ (by omega)];exact h3
def zay (B:Nat)(w:World)(L:List X3):Prop:= ∀x∈L,zq B w x.p x.n x.k/\x.s.size<=0x800000000000
def jb (t limit:Nat):Nat:=if t<=limit then t else limit+1
def Cnt (t limit len u:Nat):Prop:=len<=limit+1/\(len<=limit->len+u=t)/\(limit<len->limit<t)
theorem Cnt.done {t limit len:Nat}(h:Cnt t limit len 0\/∃u,Cnt t limit len u/\limit<len):jb t limit=len:=by
 unfold jb;rcases h with⟨h1,h2,h3⟩ | ⟨u,⟨h1,h2,h3⟩,h4⟩
 ·by_cases hl:len<=limit
  ·have:=h2 hl;rw[if_pos (by omega)];omega
  ·have:=h3 (by omega);rw[if_neg (by omega)];omega
 ·have:=h3 h4;rw[if_neg (by omega)];omega
theorem Cnt.push {t limit n u kc rc u':Nat}(h:Cnt t limit n (u+(1+kc+rc)))(hn:n<=limit)(hu:u'=u+kc):Cnt t limit (n+1) (u'+rc):=by
 obtain⟨h1,h2,h3⟩:=h;have:=h2 hn;exact⟨by omega,fun _=>by omega,fun _=>by omega⟩
theorem Cnt.full {t limit n u v:Nat}(h:Cnt t limit n u)(hn: ¬n<=limit):Cnt t limit n v:=⟨h.1,fun h=>absurd h hn,h.2.2⟩
theorem zmn {M:List X3}{x:X3}{i:Nat}(hi:i+1<=M.length):jz ((M++ [x]).drop (i+1))=jz (M.drop (i+1))+x.k.cnt:=by
 rw[List.drop_append_of_le_length hi,zgH];simp[jz]
theorem zay.push {B:Nat}{w:World}{M:List X3}{x:X3}(h:zay B w M)(hx:zq B w x.p x.n x.k)(hs:x.s.size<=0x800000000000):zay B w (M++ [x]):=fun y hy=>by
 rcases UI.1 hy with hy|hy
 ·exact h y hy
 ·rw[RY.1 hy];exact⟨hx,hs⟩
def val (l:List UInt8):Nat:=l.foldl (fun n b=>n*256+b.toNat) 0
theorem zbF (l:List UInt8)(b:UInt8):val (l++ [b])=val l*256+b.toNat:=by unfold val;rw[List.foldl_append];rfl
def yW (s:Qa):Bool:=decide (1<=s.size)&&decide (s.extract 0 1=⟨#[0]⟩)
def zQ (s:Qa):Nat×Bool:=if 8<s.size\/yW s=true then (0,false) else (val (tl s),true)
def jj (l:Bool)(s:Qa)(n:Nat):Nat×Nat:=if l=true\/n≠0\/(zQ s).2=false then (0,4) else ((zQ s).1,0)
theorem zmo (l:List UInt8)(i:Nat)(h:i<l.length):l.take (i+1)=l.take i++ [l.getD i 0]:=by
 rw[List.take_add_one,Qr h,List.getD_eq_getElem?_getD,Qr h];rfl
theorem zgK: ∀l:List UInt8,val l.reverse<256^l.length
 | []=>by decide
 | b::l=>by
  rw[List.reverse_cons,zbF,Rh,RW];have:=zgK l;have:=b.toNat_lt;omega
theorem zbG (l:List UInt8):val l<256^l.length:=by have:=zgK l.reverse;rwa [List.reverse_reverse,List.length_reverse]at this
theorem zdN (l:List UInt8)(i:Nat)(h:i<=7):val (l.take i)<72057594037927936:=by
 have h1:=zbG (l.take i);have h2:(l.take i).length<=7:=by rw[Rb];omega
 exact UX h1 (RZ (Uh (by decide) h2) (by decide))
theorem zaz {l:List UInt8}(h:l.length<=8):val l<0x10000000000000000:=
 UX (zbG l) (RZ (Uh (by decide) h) (by decide))
theorem zdO (s:Qa)(i:Nat)(h:i<s.size):val ((tl s).take (i+1))=val ((tl s).take i)*256+by_ s i:=by
 rw[zmo _ _ (by rw[zu];exact h),zbF];rfl
theorem zmp {n:Nat}(h:n<72057594037927936):QA.wrap ((n:Int)*2^(min 8 64))=((n*256:Nat):Int):=by
 rw[wrap_u64]<;>simp only[show (2:Int)^(min 8 64)=256 by decide]<;>omega
theorem or8 {n b:Nat}(hn:n<72057594037927936)(hb:b<256):Go.bits .or .u64 ((n*256:Nat):Int) (b:Int)=((n*256+b:Nat):Int):=by
 rw[u64_or_nat _ _ (by omega) (by omega)];congr 1;have:=Nat.two_pow_add_eq_or_of_lt (i:=8) (b:=b) (by omega) n;rw[show n*256=2^8*n by omega];exact this.symm
theorem zdP: ∀(m:Nat) (l:List UInt8),l.length<=m->beI m (val l.reverse)=RB (m-l.length) 0++l.reverse
 | 0,l,h=>by
  have:l=[]:=Vg (by omega);subst this;rfl
 | m+1,[],_=>by
  have:=zdP m [] (QU _);simp only[List.reverse_nil,QI,Ui,Nat.sub_zero]at this⊢;show beI m (val [] / 256)++ [QY (val [])]=_;rw[show val [] / 256=val [] from rfl,this,List.replicate_succ'];rfl
 | m+1,b::l,h=>by
  have hl:l.length<=m:=by simpa using h
  have hb:=b.toNat_lt;rw[List.reverse_cons,zbF];show beI m ((val l.reverse*256+b.toNat) / 256)++ [QY (val l.reverse*256+b.toNat)]=_;rw[show (val l.reverse*256+b.toNat) / 256=val l.reverse by omega,zdP m l hl];have e:QY (val l.reverse*256+b.toNat)=b:=by
   apply U4.1;rw[Ua];omega
  rw[e,Rh,Nat.add_sub_add_right,QD]
theorem zgL (l:List UInt8): ∀m,(RB m 0++l).dropWhile (·==0)=l.dropWhile (·==0)
 | 0=>rfl
 | m+1=>by rw[List.replicate_succ,Rm,Us,if_pos (by decide)];exact zgL l m
theorem zmq {l:List UInt8}(h:l.length<=8):dg (val l)=l.dropWhile (·==0):=by
 have h1:=zdP 8 l.reverse (by rw[List.length_reverse];exact h);rw[List.reverse_reverse]at h1;have h2:=zdF 8 (val l) (zaz h);show dgI 8 (val l)=_;rw[<-h2,h1,zgL]
theorem zmr {s:Qa}(h:1<=s.size):s.extract 0 1=⟨#[0]⟩↔by_ s 0=0:=by
 obtain⟨l,e⟩:=vh (t:=s) (by omega);have hb:=qp s 0;constructor
 ·intro q;have:=congrArg tl q;rw[yT,e]at this;have h3:QY (by_ s 0)=0:=by
   have h4:(List.drop 0 (Re 1 (QY (by_ s 0)::l)))=[QY (by_ s 0)]:=rfl;rw[h4]at this;exact(Uf.inj this).1
  have h5:=congrArg Vt h3;rw[RX (by simpa using hb)]at h5;exact h5
 ·intro q;apply qj;rw[yT,e,q];rfl
theorem zaA {s:Qa}(h:s.size<=8):(zg (dg (val (tl s)))=s)↔yW s=false:=by
 rw[zmq (by rw[zu];exact h)];unfold yW;by_cases h1:1<=s.size
 ·rw[decide_eq_true h1,Bool.true_and,decide_eq_false_iff_not,zmr h1];constructor
  ·intro q h0;obtain⟨l,e⟩:=vh (t:=s) (by omega);have:=congrArg (fun t=>(tl t).length) q;simp only[qq]at this;rw[e,h0,Us,if_pos (by decide)]at this;have h6:=(List.dropWhile_suffix (p:=fun x:UInt8=>x==0) (l:=l)).length_le;simp only[Rh]at this;omega
  ·intro h0;exact zbA s (.inr h0)
 ·have:s.size=0:=by omega
  constructor
  ·intro _;rw[decide_eq_false h1];rfl
  ·intro _;exact zbA s (.inl this)
theorem zgM: ∀m n,n<256^m->dgI (m+1) n=dgI m n
 | 0,n,h=>by
  have:n=0:=by simp at h;exact h
  subst this;rfl
 | m+1,n,h=>by
  unfold dgI;split
  ·rfl
  ·rw[zgM m (n / 256) (by rw[RW]at h;omega)]
theorem zms {n:Nat}(h0:n≠0)(h:n<0x10000000000000000):dg n=dg (n / 256)++ [QY n]:=by
 show dgI 8 n=dgI 8 (n / 256)++_;rw[zgM 7 (n / 256) (by show _<72057594037927936;omega)];show (if n=0 then [] else _)=_;rw[if_neg h0]
theorem zmt (m:Nat): ∀n,n<256^m->val (dgI m n)=n:=by
 induction m with
 | zero=>intro n h;have:n=0:=by simpa using h
         subst this;rfl
 | succ m ih=>
  intro n h;unfold dgI;split
  ·rename_i h0;subst h0;rfl
  ·rw[zbF,ih (n / 256) (by rw[RW]at h;omega),Ua];omega
theorem zbH {n:Nat}(h:n<0x10000000000000000):val (dg n)=n:=zmt 8 n h
theorem zgN {n:Nat}(h:n<0x10000000000000000):zQ (zg (dg n))=(n,true):=by
 have hl:=qB n;have hp:yW (zg (dg n))=false:=(zaA (by rw[yU];exact hl)).1 (by rw[qq,zbH h]);unfold zQ;rw[if_neg (by rw[hp,yU];simp;omega),qq,zbH h]
theorem zmu {n:Nat}(h:n<0x10000000000000000):jj false (zg (dg n)) 0=(n,0):=by
 unfold jj;rw[zgN h];simp
def zbI (x:Nat×Bool):Value:=.tuple #[.int .u64 ((x.1:Nat):Int),.bool x.2]
def zaB (x:Nat×Nat):Value:=.tuple #[.int .u64 ((x.1:Nat):Int),.int .i64 ((x.2:Nat):Int)]
theorem zgO {s:Qa}(h:8<s.size\/yW s=true):zbI (zQ s)=.tuple #[wZ,.bool false]:=by unfold zQ;rw[if_pos h];rfl
theorem zdQ {s:Qa}(h:8<s.size\/yW s=true):(zQ s).2=false:=by unfold zQ;rw[if_pos h]
theorem zmv {s:Qa}{v:Nat}(h: ¬8<s.size)(hp:yW s=false)(hv:v=val (tl s)):zbI (zQ s)=.tuple #[.int .u64 (v:Int),.bool true]:=by
 unfold zQ;rw[if_neg (by simp[h,hp])];rw[hv];rfl
theorem zmw {s:Qa}(h:s.size<=8)(hs: ¬zg (dg (val (tl s)))=s):(zQ s).2=false:=by
 apply zdQ;cases hp:yW s with
 | true=>exact .inr rfl
 | false=>exact absurd ((zaA h).2 hp) hs
theorem kH {l:Bool}{s:Qa}{n:Nat}(h:l=true\/n≠0\/(zQ s).2=false):zaB (jj l s n)=.tuple #[wZ,.int .i64 4]:=by unfold jj;rw[if_pos h];rfl
theorem zgP {l:Bool}{s:Qa}{n:Nat}(h:l=false)(hn:n=0)(h2:(zQ s).2=true):zaB (jj l s n)=.tuple #[.int .u64 (((zQ s).1:Nat):Int),.int .i64 0]:=by unfold jj;rw[if_neg (by simp[h,hn,h2])];rfl
theorem zmx {l:Bool}{s:Qa}{n:Nat}(h:l=false)(hn:n=0)(h8:s.size<=8)(hs:zg (dg (val (tl s)))=s):zaB (jj l s n)=.tuple #[.int .u64 ((val (tl s):Nat):Int),.int .i64 0]:=by
 have hp:=(zaA h8).1 hs;have e:zQ s=(val (tl s),true):=by unfold zQ;rw[if_neg (by simp[hp];omega)]
 rw[zgP h hn (by rw[e]),e]
theorem zmy {n q:Nat}{o:Qa}(h0:q≠0)(h:q<0x10000000000000000)(ho:dg n=dg q++tl o):dg n=dg (q / 256)++tl (strOfNums [(Qj (Qw 8 (q%256)):Int)]++o):=by
 rw[ho,zms h0 h,xr,QD];congr 1;show [QY q]++tl o=[QY (Wl _)]++tl o;rw[UL,UM];congr 2;apply U4.1;rw[Ua,Ua];omega
theorem zmz {n:Nat}{o:Qa}(ho:dg n=dg 0++tl o):zg (dg n)=o:=by rw[ho];exact vO o
theorem zmA (s:Qa):Fn Tryz.prog 168 #[.string s,.string (⟨#[0]⟩)] (.bool (yW s)):=by
 refine zv [.tmp 4] 18 Tryz.func168 fun w=>?_;have H0:=St.start w;refine rS [.v] H0 kr fun gs1 w1 H1=>?_;clear H0;refine zd [0,1,2,3,4,5,6,7,8,9,10,11,12,13] kr kr<|rp [.v,.v,.v,.v] H1 kr fun gs2 w2 H2=>wX [4,5,6,7,8,9,10,11,12,13] ?_;clear H1;by_cases hc1:(Ql s:Nat)≥1
 ·refine rp [itT (1<=(Ql s:Int)),.v,.v,.v,.v,.o (ins:=[((.tmp 11),.string s),((.tmp 13),.int .i64 1)]) (v:=.string (Qv s 0 1)) (fun ρ o w ho hi=>xW (t:=9) (kd:=.i64) kr (x:=(.tmp 11)) (y:=(.tmp 13)) s 1 ho hi.1 hi.2.1 (by omega) w),.v] H2 kr fun gs3 w3 H3=>wX [11,12,13] ?_;clear H2;by_cases hx2:(Qv s 0 1)=⟨#[0]⟩
  ·refine rp [.E (.bool (Rs (Qv s 0 1)==Rs (⟨#[0]⟩))) (.bool true) (zc (xu (Qv s 0 1) (⟨#[0]⟩) hx2)),.v,.v] H3 kr fun gs4 w4 H4=>wX [] ?_;clear H3;refine zb<|zk kr<|wV ?_;refine⟨[.bool true],(.tmp (.bool true) kr .nil),?_,H4.below⟩;exact zc (by unfold yW;rw[decide_eq_true (show 1<=Ql s by omega),decide_eq_true hx2];rfl)
  ·refine rp [.E (.bool (Rs (Qv s 0 1)==Rs (⟨#[0]⟩))) (.bool false) (zc (jG (Qv s 0 1) (⟨#[0]⟩) hx2)),.v,.v] H3 kr fun gs5 w5 H5=>wX [] ?_;clear H3;refine zb<|zk kr<|wV ?_;refine⟨[.bool false],(.tmp (.bool false) kr .nil),?_,H5.below⟩;exact zc (by unfold yW;rw[decide_eq_true (show 1<=Ql s by omega),decide_eq_false hx2];rfl)
 ·refine rp [itF (1<=(Ql s:Int)),.v,.n,.n,.n,.n,.n,.n,.v,.v] H2 kr fun gs6 w6 H6=>wX [] ?_;clear H2;refine zb<|zk kr<|wV ?_;refine⟨[.bool false],(.tmp (.bool false) kr .nil),?_,H6.below⟩;exact zc (by unfold yW;rw[decide_eq_false (show ¬1<=Ql s by omega)];rfl)
theorem zmB (s:Qa):Fn Tryz.prog 159 #[.string s,.string (⟨#[0]⟩)] (.bool (yW s)):=by
 refine zv [.tmp 4] 8 Tryz.func159 fun w=>?_;have H0:=St.start w;refine rS [.v] H0 kr fun gs1 w1 H1=>?_;clear H0;refine rS [.v,.v,.c (zmA s),.v] H1 kr fun gs2 w2 H2=>?_;clear H1;refine zk kr<|wV ?_;refine⟨[.bool (yW s)],(.tmp (.bool (yW s)) kr .nil),?_,H2.below⟩;rfl
theorem zgQ (s:Qa):Fn Tryz.prog 145 #[.string s] (zbI (zQ s)):=by
 refine zv [.tmp 2,.tmp 3] 27 Tryz.func145 fun w=>?_;have H0:=St.start w;refine rS [.v,.v] H0 kr fun gs1 w1 H1=>?_;clear H0;refine za kr<|zd [0,1,2,3,4,5,6] kr kr<|rp [.v,.v] H1 kr fun gs2 w2 H2=>wX [2,3,4,5,6] ?_;clear H1;by_cases hc1:(Ql s:Nat)>8
 ·refine rp [itT (8<(Ql s:Int)),.v,.n,.n,.v] H2 kr fun gs3 w3 H3=>wX [] ?_;clear H2;refine zb<|zh kr kr<|rS [.v,.v] H3 kr fun gs4 w4 H4=>?_;clear H3;refine zk kr<|wV ?_;refine⟨[wZ,.bool false],(.tmp (wZ) kr (.tmp (.bool false) kr .nil)),?_,H4.below⟩;exact(zgO (Vy (by omega))).symm
 ·refine rp [itF (8<(Ql s:Int)),.v,.v,.c (zmB s),.v] H2 kr fun gs5 w5 H5=>wX [] ?_;clear H2;refine zb<|Vq (Q4 (yW s)).symm (fun hq1=>?_) (fun hq1=>?_)
  ·refine yv 11 (v:=.bool (yW s)) (v':=.bool false) (zc hq1) kr<|yv 12 (v:=.bool (yW s)) (v':=.bool false) (zc hq1) kr<|zi kr kr<|zj kr<|wW<|rS [.v] H5 kr fun gs6 w6 H6=>?_;clear H5;refine za kr<|rS [.v,.v,.v] H6 kr fun gs7 w7 H7=>?_;clear H6;refine zm 0 kr ?_;have HL2:St w.heap.size w w7 []:=H7.as kr;clear H7;refine zO kr (fun mz ρ ww=> ∃(i:Nat),Ql s-i=mz/\(i<=Ql s)/\St w.heap.size w ww []/\Is [(0,.string s),(2,wZ),(3,.bool false),(4,.int .u64 ((val (Re i (tl s)):Nat):Int)),(12,.bool false),(14,.int .i64 (Ql s:Int)),(15,.int .i64 (i:Int))] ρ) (Ql s-0) ⟨0,rfl,(by omega),HL2,zl⟩ ?_;clear HL2;rintro _ _ w8 ⟨i,rfl,hi,H8,_,rfl⟩;by_cases hc3:(i:Nat)<Ql s
   ·refine rS [itT ((i:Int)<(Ql s:Int))] H8 kr fun gs9 w9 H9=>?_;clear H8;refine za kr<|zh kr kr<|zj kr<|wW<|za kr<|zm 1 kr<|rS [.v,.v] H9 kr fun gs10 w10 H10=>?_;clear H9;refine rL [.v,.E (.int .u64 (QA.wrap (((val (Re i (tl s)):Nat):Int)*2^(min 8 64)))) (.int .u64 (((val (Re i (tl s)))*256:Nat):Int)) (zf (zmp (n:=val (Re i (tl s))) (zdN (tl s) i (by omega)))),.v,.v,itC 20 (.tmp 21) 9 s i,.E (.int .u64 (QA.wrap (((by_ s i:Nat):Int)))) (.int .u64 ((by_ s i:Nat):Int)) (zf (yw (a:=by_ s i) (by have:=qp s i;omega))),.E (.int .u64 (Go.bits .or .u64 (((val (Re i (tl s))*256:Nat):Int)) (((by_ s i:Nat):Int)))) (.int .u64 ((val (Re (i+1) (tl s)):Nat):Int)) (zf (by rw[zdO s i (by omega)];exact or8 (zdN (tl s) i (by omega)) (qp s i))),.v] H10 kr fun gs11 w11 H11=>?_;clear H10;refine wW<|zt [0,2,3,4,5,12,14,15,16] fun ρ1=>?_;have HK4:=H11.keep;clear H11;refine rL [itI i 1,.v] HK4 kr fun gs12 w12 H12=>?_;clear HK4;have HL5:St w.heap.size w w12 []:=H12.as kr;clear H12;show ∃m,_/\_;exact⟨_,(by omega),(i+1),rfl,(by omega),HL5,zl⟩
   ·refine rS [itF ((i:Int)<(Ql s:Int))] H8 kr fun gs13 w13 H13=>?_;clear H8;refine za kr<|zi kr kr<|zE 0 kr<|wW<|rS [.v,.v,.v] H13 kr fun gs14 w14 H14=>?_;clear H13;refine zk kr<|wV ?_;refine⟨[.int .u64 ((val (Re i (tl s)):Nat):Int),.bool true],(.tmp (.int .u64 ((val (Re i (tl s)):Nat):Int)) kr (.tmp (.bool true) kr .nil)),?_,H14.below⟩;refine(zmv (by omega) (by assumption) ?_).symm;rw[Qy (by rw[zu];omega)]
  ·refine yv 11 (v:=.bool (yW s)) (v':=.bool true) (zc hq1) kr<|yv 12 (v:=.bool (yW s)) (v':=.bool true) (zc hq1) kr<|zh kr kr<|rS [.v,.v] H5 kr fun gs15 w15 H15=>?_;clear H5;refine zk kr<|wV ?_;refine⟨[wZ,.bool false],(.tmp (wZ) kr (.tmp (.bool false) kr .nil)),?_,H15.below⟩;exact(zgO (UP hq1)).symm
theorem zmC (l:Bool)(s:Qa)(p:Qc)(n c:Nat)(k:Fo)(hs:s.size<=0x800000000000):FnP Tryz.prog 146 #[.agg #[.bool l,.string s,.slice p n c]] (fun w=>zq w.heap.size w p n k) (zaB (jj l s n)):=by
 refine zR [.tmp 2,.tmp 3] 25 Tryz.func146 fun w hpre=>?_;have H0:=St.start w;have hn:=hpre.1;have hnm:=hpre.2.1;refine rS [.b,.v,.v] H0 kr fun gs1 w1 H1=>?_;clear H0;refine rS [.v,.l 0,.c (zgQ s),.v,.v,.v,.v,.v] H1 kr fun gs2 w2 H2=>?_;clear H1;refine za kr<|zd [0,1,2,3,4,5,6,7,8,9,10,11] kr kr<|rp [.v,.l 0,.v] H2 kr fun gs3 w3 H3=>wX [3,4,5,6,7,8,9,10,11] ?_;clear H2;refine Vq (Q4 (l)).symm (fun hq1=>?_) (fun hq1=>?_)
 ·refine zL 13 (v:=.bool l) (v':=.bool false) (zc hq1) kr<|zL 14 (v:=.bool l) (v':=.bool false) (zc hq1) kr<|rp [.v,.l 0,.v] H3 kr fun gs4 w4 H4=>wX [6,7,8,9,10,11] ?_;clear H3;by_cases hc1:(n:Nat)>0
  ·refine rp [itT (0<(n:Int)),.v,.v,.n,.n,.v] H4 kr fun gs5 w5 H5=>wX [] ?_;clear H4;refine zb<|zt [0,1,2,3,4,5,23] fun ρ1=>?_;have HK2:=H5.keep;clear H5;refine zh kr kr<|rS [.v,.v] HK2 kr fun gs6 w6 H6=>?_;clear HK2;refine zk kr<|wV ?_;refine⟨[wZ,.int .i64 4],(.tmp (wZ) kr (.tmp (.int .i64 4) kr .nil)),?_,H6.below⟩;exact(kH (UP (Vy (by omega)))).symm
  ·refine rp [itF (0<(n:Int)),.v,.v,.v] H4 kr fun gs7 w7 H7=>wX [10,11] ?_;clear H4;refine Vq (Q4 ((zQ s).2)).symm (fun hq2=>?_) (fun hq2=>?_)
   ·refine zL 9 (v:=.tuple #[.int .u64 (((zQ s).1:Nat):Int),.bool ((zQ s).2)]) (v':=.tuple #[.int .u64 (((zQ s).1:Nat):Int),.bool false]) (by rw[hq2]) kr<|zL 6 (v:=.tuple #[.int .u64 (((zQ s).1:Nat):Int),.bool ((zQ s).2)]) (v':=.tuple #[.int .u64 (((zQ s).1:Nat):Int),.bool false]) (by rw[hq2]) kr<|zL 11 (v:=.bool ((zQ s).2)) (v':=.bool false) (zc hq2) kr<|zL 5 (v:=.bool ((zQ s).2)) (v':=.bool false) (zc hq2) kr<|zL 21 (v:=.bool ((zQ s).2)) (v':=.bool false) (zc hq2) kr<|rp [.v,.v] H7 kr fun gs8 w8 H8=>wX [] ?_;clear H7;refine zb<|zt [0,1,2,3,4,5,23] fun ρ2=>?_;have HK3:=H8.keep;clear H8;refine zh kr kr<|rS [.v,.v] HK3 kr fun gs9 w9 H9=>?_;clear HK3;refine zk kr<|wV ?_;refine⟨[wZ,.int .i64 4],(.tmp (wZ) kr (.tmp (.int .i64 4) kr .nil)),?_,H9.below⟩;exact(kH (UP (UP hq2))).symm
   ·refine zL 9 (v:=.tuple #[.int .u64 (((zQ s).1:Nat):Int),.bool ((zQ s).2)]) (v':=.tuple #[.int .u64 (((zQ s).1:Nat):Int),.bool true]) (by rw[hq2]) kr<|zL 6 (v:=.tuple #[.int .u64 (((zQ s).1:Nat):Int),.bool ((zQ s).2)]) (v':=.tuple #[.int .u64 (((zQ s).1:Nat):Int),.bool true]) (by rw[hq2]) kr<|zL 11 (v:=.bool ((zQ s).2)) (v':=.bool true) (zc hq2) kr<|zL 5 (v:=.bool ((zQ s).2)) (v':=.bool true) (zc hq2) kr<|zL 21 (v:=.bool ((zQ s).2)) (v':=.bool true) (zc hq2) kr<|rp [.v,.v] H7 kr fun gs10 w10 H10=>wX [] ?_;clear H7;refine zb<|zt [0,1,2,3,4,5,23] fun ρ3=>?_;have HK4:=H10.keep;clear H10;refine zi kr kr<|zj kr<|wW<|rS [.v,.v,.v] HK4 kr fun gs11 w11 H11=>?_;clear HK4;refine zk kr<|wV ?_;refine⟨[.int .u64 (((zQ s).1:Nat):Int),.int .i64 0],(.tmp (.int .u64 (((zQ s).1:Nat):Int)) kr (.tmp (.int .i64 0) kr .nil)),?_,H11.below⟩;exact(zgP hq1 (by omega) hq2).symm
 ·refine zL 13 (v:=.bool l) (v':=.bool true) (zc hq1) kr<|zL 14 (v:=.bool l) (v':=.bool true) (zc hq1) kr<|rp [.n,.n,.n,.n,.v,.v,.n,.n,.v] H3 kr fun gs12 w12 H12=>wX [] ?_;clear H3;refine zb<|zt [0,1,2,3,4,5,23] fun ρ4=>?_;have HK5:=H12.keep;clear H12;refine zh kr kr<|rS [.v,.v] HK5 kr fun gs13 w13 H13=>?_;clear HK5;refine zk kr<|wV ?_;refine⟨[wZ,.int .i64 4],(.tmp (wZ) kr (.tmp (.int .i64 4) kr .nil)),?_,H13.below⟩;exact(kH (Vy hq1)).symm
theorem zmD (n:Nat)(hn:n<0x10000000000000000):Fn Tryz.prog 154 #[.int .u64 (n:Int)] (.agg #[.bool false,.string (zg (dg n)),.slice none 0 0]):=by
 refine zv [.cell 2 58] 6 Tryz.func154 fun w=>?_;have H0:=St.start w;refine rS [.a] H0 kr fun gs1 w1 H1=>?_;clear H0;refine rS [.v,.c (zdH n (by omega)),.v,.s 0] H1 kr fun gs2 w2 H2=>?_;clear H1;refine zk kr<|wV ?_;refine⟨[.agg #[.bool false,.string (zg (dg n)),.slice none 0 0]],(.agg (b:=(gs1 0).b) #[.bool false,.string (zg (dg n)),.slice none 0 0] 58 (0,0) kr (H2.get 0 kr) kr .nil),?_,H2.below⟩;rfl
theorem rwB (s:Qa)(h:Ql s<=maxLen):Rw 1 (cellsB (tl s)).toArray (Ql s) (Ql s) (cellsB (tl s)):=
 ⟨by rw[qK,zu];omega,QH _,h,by rw[Qy (by simp[qK,zu])],by simp[qK,zu]⟩
theorem zmE {P:Program}{ρ:Env}{t e:TypeId}{bytes:Nat}(ht:yp P t=some (e,1,bytes)){x y:Operand}{o:Oper}{kd:IntKind}(b n c:Nat)(ho:o.op=.indexAddr t x y)(hx:ev ρ x=Qf b n c)(hy:ev ρ y=.int kd 0)(hk:0<n):
 ∀w,(execOp (ev ρ) o).run P w=.ok (.value (Qe b)) w:=fun w=>
 vJ (P:=P) (kd:=kd) ht b 0 n c 0 ho hx hy hk w
theorem zmF (s:Qa)(hs:Ql s<=1000000):Fn Tryz.prog 158 #[.string s] (.string s):=by
 refine zv [.tmp 2] 18 Tryz.func158 fun w=>?_;have H0:=St.start w;refine zd [0] kr kr<|zn (some 2) (.string (⟨#[]⟩))<|zb<|za kr<|zd [0,1,2] kr kr<|zn (some 4) (.string s)<|zn (some 5) (.int .i64 (Ql s:Int)) ?_;by_cases hc1:(Ql s:Nat)=0
 ·refine qZ (some 6) (.bool ((Ql s:Int)==0)) (.bool true) (fun w=>by kernel_rfl) (zc (beq_iff_eq.2 (by omega))) kr<|zb<|zh kr kr<|zd [0] kr kr<|zn (some 2) (.string (⟨#[]⟩))<|zb<|zk kr<|wV ?_;refine⟨[.string (⟨#[]⟩)],(.tmp (.string (⟨#[]⟩)) kr .nil),?_,H0.below⟩;exact congrArg RQ (qj (Vg (by rw[zu];omega):tl s=[]).symm)
 ·refine qZ (some 6) (.bool ((Ql s:Int)==0)) (.bool false) (fun w=>by kernel_rfl) (zc (beq_eq_false_iff_ne.2 (by omega))) kr<|zb<|zi kr kr<|zj kr<|wW<|zd [0,1,2,3] kr kr<|zn (some 7) (.string s)<|zn (some 8) (.int .i64 (Ql s:Int))<|zfJ H0 (some 9) 95 5 1 (.int .u8 0) (.tmp 8) (.tmp 8) .i64 .i64 (Ql s) kr kr kr kr rfl kr kr (by omega) (by unfold maxLen;omega) ?_;intro b_1 cur_2 w1 H1 hr_3;clear H0;have hr_3z:Rw 1 cur_2 (Ql s) (Ql s) (cellsB (RB (Ql s) 0)):=by rw[zkr];exact hr_3
  refine zn (some 3) (Qf b_1 (Ql s) (Ql s))<|zb<|zd [0,1,2] kr kr<|zn (some 10) (Qf b_1 (Ql s) (Ql s))<|zn (some 11) (.string s)<|zkv H1 (some 12) 95 9 5 1 (.tmp 10) (.tmp 11) 0 b_1 (Ql s) (Ql s) s cur_2 ((cellsB (tl s)).toArray) 5 [(b_1,Qk ((cellsB (tl s)).toArray) 5)] kr kr kr kr kr kr (by omega) (Nat.le_of_eq (by have h:=hr_3z.sz;rw[h];omega)) (by rw[List.drop_of_length_le (by have h:=hr_3z.sz;rw[Rv,h];omega),QI]) kr ?_;intro w2 H2;clear H1;refine zb<|zd [0,1,2,3,4,5] kr kr<|zn (some 13) (Qf b_1 (Ql s) (Ql s))<|uY (some 14) _ (Qe b_1) kr kr (fun o w ho=>zmE (kd:=.i64) (t:=95) (e:=5) (bytes:=1) kr (x:=(.tmp 13)) (y:=(.const (.int .i64 0))) b_1 (Ql s) (Ql s) ho kr kr (by omega) w)<|zn (some 15) (Qf b_1 (Ql s) (Ql s))<|zn (some 16) (.int .i64 (Ql s:Int))<|zkB H2 (some 17) 136 3 5 (.tmp 14) (.tmp 16) (Ql s) (Ql s) (tl s) kr kr kr kr rfl kr kr (rwB s (by unfold maxLen;omega)) (by omega) (by omega) ?_;intro w3 H3;clear H2;refine zn (some 2) (.string (zg (tl s)))<|zb<|zk kr<|wV ?_;refine⟨[.string (zg (tl s))],(.tmp (.string (zg (tl s))) kr .nil),?_,H3.below⟩;rfl
theorem zmG (s:Qa)(hs:Ql s<=1000000):Fn Tryz.prog 144 #[.string s] (.string s):=by
 refine zv [.tmp 2] 5 Tryz.func144 fun w=>?_;have H0:=St.start w;refine zd [0] kr kr<|zn (some 2) (.string (⟨#[]⟩))<|zb<|zd [0,1,2] kr kr<|zn (some 3) (.string s)<|kA H0 (some 4) 158 #[.string s] (.string s) (zmF s (by omega)) (fun w=>by kernel_rfl) kr ?_;intro w1 H1;clear H0;refine zn (some 2) (.string s)<|zb<|zk kr<|wV ?_;refine⟨[.string s],(.tmp (.string s) kr .nil),?_,H1.below⟩;rfl
theorem zgR (s:Qa)(hs:Ql s<=100000):Fn Tryz.prog 110 #[.string s] (.agg #[.bool false,.string s,.slice none 0 0]):=by
 refine zv [.cell 2 58] 6 Tryz.func110 fun w=>?_;have H0:=St.start w;refine rS [.a] H0 kr fun gs1 w1 H1=>?_;clear H0;refine zd [0,1,2,3] kr kr<|rp [.v,.c (zmG s (by omega)),.v,.s 0] H1 kr fun gs2 w2 H2=>wX []<|zb<|zk kr<|wV ?_;refine⟨[.agg #[.bool false,.string s,.slice none 0 0]],(.agg (b:=(gs1 0).b) (#[.bool false,.string s,.slice none 0 0]) 58 (0,0) kr (H2.get 0 kr) kr .nil),?_,H2.below⟩;rfl
theorem vm {a b:Nat}(ha:a<256)(hb:b<256)(h:QY a=QY b):a=b:=by
 have:=congrArg Vt h
 rwa [RX (by simpa using ha),RX (by simpa using hb)]at this
theorem jK (l:Bool):(l=true/\frm l=192)\/(l=false/\frm l=128):=by cases l<;>simp[frm]
theorem zaC {n:Nat}(h:n≠0):1<=(dg n).length:=by unfold dg dgI;rw[if_neg h];simp
theorem zmH {l l':Bool}{n n':Nat}{X Y:List UInt8}(hn:n<0x10000000000000000)(hn':n'<0x10000000000000000)(h:hd (frm l) n++X=hd (frm l') n'++Y):l=l'/\n=n'/\X=Y:=by
 have a1:=qB n;have a2:=qB n';unfold hd at h;by_cases h1:n<=55<;>by_cases h2:n'<=55
 ·rw[if_pos h1,if_pos h2]at h;obtain⟨e1,e2⟩:=Uf.inj h;rcases jK l with⟨hl,f1⟩ | ⟨hl,f1⟩<;>rcases jK l' with⟨hl',f2⟩ | ⟨hl',f2⟩<;>rw[f1,f2]at e1<;>have e3:=vm (by omega) (by omega) e1
  ·exact⟨by rw[hl,hl'],by omega,e2⟩
  ·omega
  ·omega
  ·exact⟨by rw[hl,hl'],by omega,e2⟩
 ·rw[if_pos h1,if_neg h2]at h;have a3:=zaC (show n'≠0 by omega);obtain⟨e1,e2⟩:=Uf.inj h;rcases jK l with⟨hl,f1⟩ | ⟨hl,f1⟩<;>rcases jK l' with⟨hl',f2⟩ | ⟨hl',f2⟩<;>rw[f1,f2]at e1<;>have e3:=vm (by omega) (by omega) e1<;>omega
 ·rw[if_neg h1,if_pos h2]at h;have a3:=zaC (show n≠0 by omega);obtain⟨e1,e2⟩:=Uf.inj h;rcases jK l with⟨hl,f1⟩ | ⟨hl,f1⟩<;>rcases jK l' with⟨hl',f2⟩ | ⟨hl',f2⟩<;>rw[f1,f2]at e1<;>have e3:=vm (by omega) (by omega) e1<;>omega
 ·rw[if_neg h1,if_neg h2]at h;have a3:=zaC (show n≠0 by omega);have a4:=zaC (show n'≠0 by omega);obtain⟨e1,e2⟩:=Uf.inj h;have key:(dg n).length=(dg n').length->n=n'/\X=Y:=fun hl=>by
   obtain⟨q1,q2⟩:=List.append_inj e2 hl;exact⟨by rw[<-zbH hn,q1,zbH hn'],q2⟩
  rcases jK l with⟨hl,f1⟩|⟨hl,f1⟩<;>rcases jK l' with⟨hl',f2⟩ | ⟨hl',f2⟩<;>rw[f1,f2]at e1<;>have e3:=vm (by omega) (by omega) e1
  ·exact⟨by rw[hl,hl'],key (by omega)⟩
  ·omega
  ·omega
  ·exact⟨by rw[hl,hl'],key (by omega)⟩
theorem zdR (l:Bool)(n:Nat):∃b t,hd (frm l) n=b::t/\128<=b.toNat:=by
 have a1:=qB n;unfold hd;by_cases h1:n<=55
 ·rw[if_pos h1];refine⟨_,_,rfl,?_⟩;rw[Ua];rcases jK l with⟨_,f1⟩ | ⟨_,f1⟩<;>rw[f1]<;>omega
 ·rw[if_neg h1];refine⟨_,_,rfl,?_⟩;rw[Ua];rcases jK l with⟨_,f1⟩ | ⟨_,f1⟩<;>rw[f1]<;>omega
theorem zbJ {s:Qa}(h:yf s=true):∃b:UInt8,tl s=[b]/\b.toNat<128:=by
 have hz:=jV h;obtain⟨l,e⟩:=vh (t:=s) (by omega);have hl:l=[]:=by
  have:=zu s;rw[e]at this;simp at this;exact Vg (by omega)
 refine⟨_,by rw[e,hl],?_⟩;unfold yf at h;simp only[Qu,decide_eq_true_eq]at h;rw[Ua];have:=h.2;omega
theorem jk {l:Bool}{s:Qa}{k:Fo}(h:mixed l s k.len=false):(l=true/\s=⟨#[]⟩)\/(l=false/\k=.nil):=by
 unfold mixed at h;cases l with
 | true=>
  left;simp at h;exact⟨rfl,h⟩
 | false=>
  right;simp at h;exact⟨rfl,len_zero h⟩
theorem uy {l l':Bool}{s s':Qa}{k k':Fo}{A B:List UInt8}(hm:mixed l s k.len=false)(hm':mixed l' s' k'.len=false)(hk:szF k=(wrF k).length)(hk':szF k'=(wrF k').length)
 (hb:s.size+szF k<0x10000000000000000) (hb':s'.size+szF k'<0x10000000000000000) (ih:wrF k=wrF k'->k=k') (h:wr1 l s (szF k) (wrF k)++A=wr1 l' s' (szF k') (wrF k')++B):l=l'/\s=s'/\k=k'/\A=B:=by
 unfold wr1 at h;cases hs:yf s with
 | true=>
  obtain⟨b,e,hb1⟩:=zbJ hs;have hl:=jJ hm hs;have hkn:=len_zero hl;have hl0:l=false:=by
   rcases jk hm with⟨_,q⟩|⟨q,_⟩
   ·rw[q]at hs;exact absurd hs (by decide)
   ·exact q
  rw[if_pos hs,hkn,e]at h;cases hs':yf s' with
  | true=>
   obtain⟨b',e',_⟩:=zbJ hs';have hkn':=len_zero (jJ hm' hs');have hl0':l'=false:=by
    rcases jk hm' with⟨_,q⟩|⟨q,_⟩
    ·rw[q]at hs';exact absurd hs' (by decide)
    ·exact q
   rw[if_pos hs',hkn',e']at h;simp only[wrF,RS,QI,Rm,Uf.injEq]at h;exact⟨by rw[hl0,hl0'],qj (by rw[e,e',h.1]),by rw[hkn,hkn'],h.2⟩
  | false=>
   obtain⟨c,t,e2,hc⟩:=zdR l' (s'.size+szF k');rw[if_neg (by rw[hs'];decide),e2]at h;simp only[wrF,RS,QI,Rm,Uf.injEq]at h;rw[h.1]at hb1;omega
 | false=>
  rw[if_neg (by rw[hs];decide)]at h;cases hs':yf s' with
  | true=>
   obtain⟨b',e',hb1⟩:=zbJ hs';have hkn':=len_zero (jJ hm' hs');obtain⟨c,t,e2,hc⟩:=zdR l (s.size+szF k);rw[if_pos hs',hkn',e',e2]at h;simp only[wrF,RS,QI,Rm,Uf.injEq]at h;rw[<-h.1]at hb1;omega
  | false=>
   rw[if_neg (by rw[hs'];decide)]at h;simp only[QD]at h;obtain⟨hl,hn,hx⟩:=zmH hb hb' h;rw[<-QD,<-QD]at hx;have hlen:(tl s++wrF k).length=(tl s'++wrF k').length:=by rw[Qx,Qx,zu,zu,<-hk,<-hk',hn]
   obtain⟨q1,q2⟩:=List.append_inj hx hlen;subst hl;rcases jk hm with⟨hl,e1⟩|⟨hl,e1⟩<;>rcases jk hm' with⟨hl',e2⟩ | ⟨hl',e2⟩
   ·rw[e1,e2]at q1;exact⟨rfl,by rw[e1,e2],ih (List.append_cancel_left q1),q2⟩
   ·rw[hl]at hl';cases hl'
   ·rw[hl]at hl';cases hl'
   ·rw[e1,e2]at q1;simp only[wrF,QI]at q1;exact⟨rfl,qj q1,by rw[e1,e2],q2⟩
theorem vS: ∀(k k':Fo),pureF k=true->pureF k'=true->(wrF k).length<0x10000000000000000->wrF k=wrF k'->k=k'
 | .nil,.nil,_,_,_,_=>rfl
 | .nil,.cons l s k r,_,hp,_,h=>by
  simp only[pureF,Qu,Rf]at hp;have:=congrArg Qo h;simp only[wrF,Ui,Qx]at this;have h2:=(xO hp.1.1 hp.1.2 rfl).1;omega
 | .cons l s k r,.nil,hp,_,_,h=>by
  simp only[pureF,Qu,Rf]at hp;have:=congrArg Qo h;simp only[wrF,Ui,Qx]at this;have h2:=(xO hp.1.1 hp.1.2 rfl).1;omega
 | .cons l s k r,.cons l' s' k' r',hp,hp',hb,h=>by
  have hlen:=congrArg Qo h;simp only[pureF,Qu,Rf]at hp hp';simp only[wrF,Qx]at hb h hlen;have z1:=qV hp.1.1 (yi hp.1.2);have z2:=qV hp'.1.1 (yi hp'.1.2);have bd: ∀ {l:Bool} {s:Qa} {k:Fo},s.size+szF k<=sz1 l s (szF k)\/yf s=true:=fun {l s k} =>by
   unfold sz1;cases yf s with
   | true=>exact .inr rfl
   | false=>left;simp
  have b1:s.size+szF k<0x10000000000000000:=by
   rcases bd (l:=l) (s:=s) (k:=k) with q|q
   ·omega
   ·have:=len_zero (jJ hp.1.1 q);subst this;have:=jV q;simp only[szF];omega
  have b2:s'.size+szF k'<0x10000000000000000:=by
   rcases bd (l:=l') (s:=s') (k:=k') with q|q
   ·omega
   ·have:=len_zero (jJ hp'.1.1 q);subst this;have:=jV q;simp only[szF];omega
  have hk:=yi hp.1.2;obtain⟨e1,e2,e3,e4⟩:=uy hp.1.1 hp'.1.1 hk.symm (yi hp'.1.2).symm b1 b2 (fun q=>vS k k' hp.1.2 hp'.1.2 (by omega) q) h;rw[e1,e2,e3,vS r r' hp.2 hp'.2 (by omega) e4]
theorem jW {l:Bool}{s:Qa}{k:Fo}(h:(zC l s k.len k).2=0):(zC l s k.len k).1=zg (wr1 l s (szF k) (wrF k))/\mixed l s k.len=false/\pureF k=true/\k.cnt<4000/\dp1 l (dpF k)<=8/\sz1 l s (szF k)<=4000/\(wr1 l s (szF k) (wrF k)).length=sz1 l s (szF k):=by
 unfold zC at h⊢;cases hv:lf1 l s k.len (lfF k) 4000 with
 | none=>rw[hv]at h;simp at h
 | some y=>
  rw[hv]at h;obtain⟨h1,h2,h3⟩:=zgr hv;simp only[]at h⊢;by_cases hd:8<dp1 l (dpF k)
  ·rw[if_pos hd]at h;simp at h
  ·rw[if_neg hd]at h⊢;by_cases hz:4000<sz1 l s (szF k)
   ·rw[if_pos hz]at h;simp at h
   ·rw[if_neg hz];exact⟨rfl,h1,h2,h3,by omega,by omega,qV h1 (yi h2)⟩
theorem uz {l:Bool}{s:Qa}{k:Fo}(hm:mixed l s k.len=false)(hz:sz1 l s (szF k)<=4000):s.size+szF k<=4000:=by
 unfold sz1 at hz;split at hz
 ·rename_i q
  have:=len_zero (jJ hm q);subst this;have:=jV q;simp only[szF];omega
 ·omega
theorem zmI {l l':Bool}{s s':Qa}{k k':Fo}{A B:List UInt8}(h:(zC l s k.len k).2=0)(h':(zC l' s' k'.len k').2=0)(he:wr1 l s (szF k) (wrF k)++A=wr1 l' s' (szF k') (wrF k')++B):l=l'/\s=s'/\k=k'/\A=B:=by
 obtain⟨_,m1,p1,_,_,z1,e1⟩:=jW h;obtain⟨_,m2,p2,_,_,z2,e2⟩:=jW h';have q1:=uz m1 z1;have q2:=uz m2 z2;have hk:=yi p1;exact uy m1 m2 hk.symm (yi p2).symm (by omega) (by omega) (fun q=>vS k k' p1 p2 (by omega) q) he
def qt (f:Nat)(t:Qa):Option (Nat×Qa):=
 if f<=55 then some (f,t) else if t.size<f-55 then none else if (zQ (t.extract 0 (f-55))).1<=55 then none else some ((zQ (t.extract 0 (f-55))).1,t.extract (f-55) t.size)
theorem zbK (t:Qa)(m:Nat)(h:m<=t.size):tl t=tl (t.extract 0 m)++tl (t.extract m t.size):=by
 rw[yT,yT,Wo,Qy (l:=tl t) (i:=t.size) (by rw[zu];exact QH _),List.take_append_drop]
theorem jc (t:Qa)(a b:Nat)(h:b<=t.size)(hab:a<=b):(t.extract a b).size=b-a:=by
 rw[<-zu,yT,Uv,Rb,zu,Nat.min_eq_left h]
theorem zbL {t:Qa}{A Y:List UInt8}{m:Nat}(h:tl t=A++Y)(hm:m=A.length):tl (t.extract 0 m)=A/\tl (t.extract m t.size)=Y/\m<=t.size:=by
 have hl:t.size=A.length+Y.length:=by rw[<-zu,h,Qx]
 subst hm;refine⟨?_,?_,by omega⟩
 ·rw[yT,Wo,h,VZ]
 ·rw[yT,Qy (by rw[zu];exact QH _),h,List.drop_left]
theorem zdS {f n:Nat}{t u:Qa}(h:qt f t=some (n,u))(hf:f<64)(base:Nat):QY (base+f)::tl t=hd base n++tl u/\n<0x10000000000000000/\u.size<=t.size:=by
 unfold qt at h;split at h
 ·rename_i h1
  injection h with h;injection h with e1 e2;subst e1;subst e2
  unfold hd;rw[if_pos h1];exact⟨rfl,by omega,QH _⟩
 ·rename_i h1
  split at h
  ·cases h
  ·rename_i h2
   split at h
   ·cases h
   ·rename_i h3
    injection h with h;injection h with e1 e2
    have hz:(t.extract 0 (f-55)).size=f-55:=by rw[jc t 0 _ (by omega) (by omega)];omega
    have hs:=zbK t (f-55) (by omega);have hu:u.size<=t.size:=by rw[<-e2,jc t _ _ (QH _) (by omega)];omega
    generalize t.extract 0 (f-55)=s at*;rw[<-e2];have hp:yW s=false:=by
     cases hp:yW s with
     | false=>rfl
     | true=>exfalso;apply h3;unfold zQ;rw[if_pos (UP hp)];exact QU _
    have hv:(zQ s).1=val (tl s):=by unfold zQ;rw[if_neg (by rw[hp];simp;omega)]
    have hd1:dg n=tl s:=by rw[<-e1,hv,<-qq (dg (val (tl s))),(zaA (by omega)).2 hp]
    have hlen:(dg n).length=f-55:=by rw[hd1,zu,hz]
    refine⟨?_,by rw[<-e1,hv];exact zaz (by rw[zu];omega),by rw[e2];exact hu⟩;unfold hd;rw[if_neg (by omega),hlen,show base+55+(f-55)=base+f by omega,hs,hd1];rfl
theorem zmJ {f n:Nat}{t:Qa}{Y:List UInt8}(l:Bool)(hf:f<64)(hn:n<0x10000000000000000)(h:QY (frm l+f)::tl t=hd (frm l) n++Y):∃u,qt f t=some (n,u)/\tl u=Y:=by
 have hb:frm l=192\/frm l=128:=by rcases jK l with⟨_,e⟩ | ⟨_,e⟩<;>omega
 have hdl:=qB n;unfold hd at h;by_cases h1:n<=55
 ·rw[if_pos h1]at h;obtain⟨e1,e2⟩:=Uf.inj h;have e3:=vm (by omega) (by omega) e1;have e4:f=n:=by omega
  subst e4;exact⟨t,by unfold qt;rw[if_pos h1],e2⟩
 ·rw[if_neg h1]at h;obtain⟨e1,e2⟩:=Uf.inj h;have e3:=vm (by omega) (by omega) e1;have hp:=zaC (show n≠0 by omega);have hfe:f-55=(dg n).length:=by omega
  obtain⟨c1,c2,c3⟩:=zbL e2 hfe;have hs:t.extract 0 (f-55)=zg (dg n):=qj (by rw[c1,qq]);refine⟨t.extract (f-55) t.size,?_,c2⟩;unfold qt;rw[if_neg (by omega),if_neg (by omega),hs,zgN hn,if_neg h1]
def jA (t:Qa):Prop:= ∀(l:Bool) (s:Qa) (k:Fo) (X:List UInt8),mixed l s k.len=false->pureF k=true->tl t≠wr1 l s (szF k) (wrF k)++X
def zbM (t:Qa):Prop:= ∀k:Fo,pureF k=true->tl t≠wrF k
def yd (t:Qa)(l:Bool)(s:Qa)(k:Fo)(u:Qa):Prop:=mixed l s k.len=false/\pureF k=true/\tl t=wr1 l s (szF k) (wrF k)++tl u
theorem zgS {t:Qa}(h:t.size≠0):tl t=QY (by_ t 0)::tl (t.extract 1 t.size):=by
 obtain⟨l,e⟩:=vh h;rw[zdC,e];rfl
theorem zgT {t:Qa}(h:t.size≠0):yf (t.extract 0 1)=decide (by_ t 0<128):=by
 have hz:(t.extract 0 1).size=1:=by rw[jc t 0 1 (by omega) (by omega)]
 have hb:by_ (t.extract 0 1) 0=by_ t 0:=by
  obtain⟨l,e⟩:=vh h;unfold by_;rw[yT,e];rfl
 unfold yf;rw[hz,hb];simp
theorem zgU {t:Qa}{l:Bool}{s:Qa}{k:Fo}{X:List UInt8}(ht:t.size<=100000)(hm:mixed l s k.len=false)(hp:pureF k=true)(h:tl t=wr1 l s (szF k) (wrF k)++X):
 t.size≠0/\((by_ t 0<128/\yf s=true)\/(yf s=false/\128<=by_ t 0/\(l=true↔192<=by_ t 0)/\∃u,qt (by_ t 0-frm l) (t.extract 1 t.size)=some (s.size+szF k,u)/\tl u=(tl s++wrF k)++X)):=by
 have h1:=(xO hm hp rfl).1;have hl:t.size=(wr1 l s (szF k) (wrF k)).length+X.length:=by rw[<-zu,h,Qx]
 have h0:t.size≠0:=by omega
 refine⟨h0,?_⟩;have hb:=zgS h0;have hlt:=qp t 0;have hpl:=yi hp;unfold wr1 at h hl;cases hs:yf s with
 | true=>
  left;obtain⟨b,e,hb1⟩:=zbJ hs;rw[if_pos hs,hb,e]at h;simp only[RS,Rm]at h;obtain⟨e1,_⟩:=Uf.inj h;have:=congrArg Vt e1;rw[RX (by simpa using hlt)]at this;exact⟨by omega,rfl⟩
 | false=>
  right;rw[if_neg (by rw[hs];decide)]at h hl;rw[Qx,Qx,zu]at hl;obtain⟨b,r,e,hb1⟩:=zdR l (s.size+szF k);have h9:=h;rw[hb,e]at h9;simp only[Rm]at h9;obtain⟨e1,_⟩:=Uf.inj h9;have h128:128<=by_ t 0:=by
   have:=congrArg Vt e1;rw[RX (by simpa using hlt)]at this;omega
  have hrange:frm l<=by_ t 0/\by_ t 0<frm l+64:=by
   have hdl:=qB (s.size+szF k);have hfb:frm l=192\/frm l=128:=by rcases jK l with⟨_,e⟩ | ⟨_,e⟩<;>omega
   unfold hd at e;split at e
   ·obtain⟨q,_⟩:=Uf.inj e;rw[<-q]at e1;have:=vm hlt (by omega) e1;omega
   ·obtain⟨q,_⟩:=Uf.inj e;rw[<-q]at e1;have:=vm hlt (by omega) e1;omega
  refine⟨rfl,h128,?_,?_⟩
  ·rcases jK l with⟨q,e2⟩|⟨q,e2⟩
   ·rw[q];simp;omega
   ·rw[q];simp;omega
  ·refine zmJ l (by omega) (by omega) ?_;rw[show frm l+(by_ t 0-frm l)=by_ t 0 by omega,<-hb,h,QD]
theorem zgV {t:Qa}(h:t.size<1):jA t:=fun l s k X hm hp he=>by
 have h1:=(xO hm hp rfl).1;have hl:=congrArg Qo he;rw[zu,Qx]at hl;omega
theorem zmK {b:Nat}(l:Bool)(h:l=true↔192<=b)(hb:b<192):l=false/\frm l=128:=by
 cases l with
 | false=>exact⟨rfl,rfl⟩
 | true=>have:=h.1 rfl;omega
theorem zmL {b:Nat}(l:Bool)(h:l=true↔192<=b)(hb:192<=b):l=true/\frm l=192:=by
 have:=h.2 hb;subst this;exact⟨rfl,rfl⟩
theorem zmM {t:Qa}(h0:t.size≠0)(hb:by_ t 0<128):yd t false (t.extract 0 1) .nil (t.extract 1 t.size):=by
 have hs:yf (t.extract 0 1)=true:=by rw[zgT h0];exact decide_eq_true hb
 refine⟨by simp[mixed,Fo.len],rfl,?_⟩;unfold wr1;rw[if_pos hs];simp only[wrF,QI,RS];exact zbK t 1 (by omega)
theorem zgW {t u:Qa}{b n:Nat}(l:Bool)(h0:t.size≠0)(hb:by_ t 0=b)(hl:frm l<=b)(hf:b-frm l<64)(hc:qt (b-frm l) (t.extract 1 t.size)=some (n,u)):tl t=hd (frm l) n++tl u:=by
 have:=(zdS hc hf (frm l)).1;rw[show frm l+(b-frm l)=b by omega]at this;rw[zgS h0,hb];exact this
theorem zmN {t u:Qa}{n:Nat}(h0:t.size≠0)(h1:128<=by_ t 0)(h2:by_ t 0<192)(hc:qt (by_ t 0-128) (t.extract 1 t.size)=some (n,u))(hn:n<=u.size)(hs:yf (u.extract 0 n)=false):yd t false (u.extract 0 n) .nil (u.extract n u.size):=by
 have hz:(u.extract 0 n).size=n:=by rw[jc u 0 n hn (by omega)];omega
 refine⟨by simp[mixed,Fo.len],rfl,?_⟩;unfold wr1;rw[if_neg (by rw[hs];decide),hz];have:=zgW (b:=by_ t 0) false h0 rfl h1 (show _-128<64 by omega) hc;rw[this,zbK u n hn];simp only[szF,wrF,RL,QI,QD]
theorem zmO {t u:Qa}{n:Nat}{k:Fo}(h0:t.size≠0)(h2:192<=by_ t 0)(hc:qt (by_ t 0-192) (t.extract 1 t.size)=some (n,u))(hn:n<=u.size)(hp:pureF k=true)(hk:tl (u.extract 0 n)=wrF k):yd t true ⟨#[]⟩ k (u.extract n u.size):=by
 have hlt:=qp t 0;have hz:(u.extract 0 n).size=n:=by rw[jc u 0 n hn (by omega)];omega
 have hpl:=yi hp;have hn2:n=szF k:=by rw[<-hz,<-zu,hk,hpl]
 refine⟨rfl,hp,?_⟩;have hs:yf ⟨#[]⟩=false:=by decide
 unfold wr1;rw[if_neg (by rw[hs];decide)];have:=zgW (b:=by_ t 0) true h0 rfl h2 (show _-192<64 by omega) hc;have h9:(Ql ⟨#[]⟩)+szF k=n:=by rw[hn2];exact Q9 _
 rw[h9,this,zbK u n hn,hk];show _=hd (frm true) n++([]++wrF k)++_;simp only[RS,QD]
theorem zbN {t:Qa}(l:Bool)(ht:t.size<=100000)(h0:t.size≠0)(h1:128<=by_ t 0)(hl:l=true↔192<=by_ t 0)
 (hb: ∀n u,qt (by_ t 0-frm l) (t.extract 1 t.size)=some (n,u)-> ∀(s:Qa) (k:Fo) (X:List UInt8),mixed l s k.len=false->pureF k=true->yf s=false->n=s.size+szF k->n=(tl s++wrF k).length->tl u=(tl s++wrF k)++X->False):jA t:=fun l' s k X hm hp he=>by
 obtain⟨_,h|⟨hs,_,hl',u,hc,hu⟩⟩:=zgU ht hm hp he
 ·omega
 ·have e:l'=l:=by
   have h8:(l'=true)=(l=true):=propext (hl'.trans hl.symm);cases l<;>cases l'<;>first | rfl | (simp only[Bool.false_eq_true,eq_iff_iff,false_iff,iff_false,true_iff,iff_true,not_true_eq_false]at h8)
  subst e;exact hb _ _ hc s k X hm hp hs rfl (by rw[Qx,zu,yi hp]) hu
theorem zgX {t:Qa}(l:Bool)(ht:t.size<=100000)(h0:t.size≠0)(h1:128<=by_ t 0)(hl:l=true↔192<=by_ t 0)(hc:qt (by_ t 0-frm l) (t.extract 1 t.size)=none):jA t:=
 zbN l ht h0 h1 hl fun n u h=>by rw[hc]at h;cases h
theorem zgY {t u:Qa}{n:Nat}(l:Bool)(ht:t.size<=100000)(h0:t.size≠0)(h1:128<=by_ t 0)(hl:l=true↔192<=by_ t 0)(hc:qt (by_ t 0-frm l) (t.extract 1 t.size)=some (n,u))(hn:u.size<n):jA t:=
 zbN l ht h0 h1 hl fun n' u' h s k X _ _ _ _ hlen hu=>by
  rw[hc]at h;injection h with h;injection h with e1 e2;subst e1;subst e2
  have:=congrArg Qo hu;rw[Qx,<-hlen,zu]at this;omega
theorem zmP {t u:Qa}{n:Nat}(ht:t.size<=100000)(h0:t.size≠0)(h1:128<=by_ t 0)(h2:by_ t 0<192)(hc:qt (by_ t 0-128) (t.extract 1 t.size)=some (n,u))(hs:yf (u.extract 0 n)=true):jA t:=
 zbN false ht h0 h1 (by simp;omega) fun n' u' h s k X hm hp hs' _ hlen hu=>by
  rw[show by_ t 0-frm false=by_ t 0-128 from rfl,hc]at h;injection h with h;injection h with e1 e2;subst e1;subst e2
  rcases jk hm with⟨q,_⟩|⟨_,q⟩
  ·cases q
  ·subst q;have h9:=(zbL hu hlen).1;simp only[wrF,QI]at h9;rw[qj h9]at hs;rw[hs]at hs';cases hs'
theorem zmQ {t u:Qa}{n:Nat}(ht:t.size<=100000)(h0:t.size≠0)(h2:192<=by_ t 0)(hc:qt (by_ t 0-192) (t.extract 1 t.size)=some (n,u))(hs:zbM (u.extract 0 n)):jA t:=
 zbN true ht h0 (by omega) (by simp;omega) fun n' u' h s k X hm hp hs' _ hlen hu=>by
  rw[show by_ t 0-frm true=by_ t 0-192 from rfl,hc]at h;injection h with h;injection h with e1 e2;subst e1;subst e2
  rcases jk hm with⟨_,q⟩|⟨q,_⟩
  ·subst q;exact hs k hp (zbL hu hlen).1
  ·cases q
theorem zgZ {t u:Qa}{l:Bool}{s:Qa}{k k':Fo}(ht:t.size<=100000)(h:yd t l s k u)(hp:pureF k'=true)(he:tl t=wrF k'):∃r,pureF r=true/\tl u=wrF r:=by
 obtain⟨hm,hpk,hi⟩:=h;have hlen:=congrArg Qo hi;rw[zu,Qx,qV hm (yi hpk)]at hlen;have hsz:sz1 l s (szF k)<=100000:=by omega
 cases k' with
 | nil=>
  exfalso;have h1:=(xO hm hpk rfl).1;rw[hi]at he;have:=congrArg Qo he;simp only[wrF,Qx,Ui]at this;omega
 | cons l' s' kk r=>
  simp only[pureF,Qu,Rf]at hp;have h9:=he;have hlen2:=congrArg Qo he;simp only[wrF]at hlen2;rw[zu,Qx,qV hp.1.1 (yi hp.1.2)]at hlen2;have hsz2:sz1 l' s' (szF kk)<=100000:=by omega
  have hpay: ∀(l:Bool) (s:Qa) (k:Fo),sz1 l s (szF k)<=100000->mixed l s k.len=false->s.size+szF k<=100000:=fun l s k h hm=>by
   unfold sz1 at h;split at h
   ·rename_i q
    have h1:=jV q;have h2:=len_zero (jJ hm q);rw[h2];simp only[szF];omega
   ·omega
  have hx:=hpay l s k hsz hm;have hy:=hpay l' s' kk hsz2 hp.1.1;rw[hi]at h9;simp only[wrF]at h9;obtain⟨_,_,_,hX⟩:=uy hm hp.1.1 (yi hpk).symm (yi hp.1.2).symm (by omega) (by omega) (fun q=>vS k kk hpk hp.1.2 (by rw[yi hpk];omega) q) h9;exact⟨r,hp.2,hX⟩
def jL (w:World)(p:Qc)(L:List X3):Prop:=L=[]\/∃b off,p=some ⟨b,off,none⟩/\ ∀(j:Nat) (u:Value),(cells3 L)[j]? =some u->w.cell? ⟨b,off+j,none⟩=some u
theorem jL.up {w w':World}{p:Qc}{L:List X3}(h:jL w p L)(hb:Below w.heap.size w w'):jL w' p L:=by
 rcases h with h|⟨b,off,e,h⟩
 ·exact .inl h
 ·refine .inr ⟨b,off,e,fun j u hj=>?_⟩;have h1:=h j u hj;have hlt:b<w.heap.size:=by
   rcases Nat.lt_or_ge b w.heap.size with q|q
   ·exact q
   ·simp[RH,U8 q]at h1
  rw[<-h1];unfold RH;rw[hb.block b hlt]
theorem Rw.cellsAt {cur:Qd}{cap n:Nat}{L:List X3}(h:Rw 3 cur cap n (cells3 L)){w:World}{b:Nat}{T:TypeId}{fz:Nat×Nat}(hh:w.heap[b]? =some (.cells cur T fz)):n=L.length/\jL w (Qg b) L:=by
 have hl:=h.len;rw[ka]at hl;refine⟨by omega,.inr ⟨b,0,rfl,fun j u hj=>?_⟩⟩;have hlt:j<n*3:=by have:=(QT.1 hj).1;rw[ka]at this;omega
 rw[Q9];simp[RH,hh,h.get j hlt,hj]
def zaD (T:TypeId)(mk:Value->Value)(n:Nat)(L:List X3):Nat->Value->World->Prop:=fun B v w'=>
 (n=0/\v=mk (.slice none 0 0))\/∃b cap cur,v=mk (Qf b n cap)/\B<=b/\w'.heap[b]? =some (.cells cur T)/\Rw 3 cur cap n (cells3 L)
section
variable {P:Program}{N:Nat}{ops:Array Oper}{i:Nat}{r:List Nat}{K:Env->World->Prop}{ρ:Env}{w:World}{B:Nat}{w0:World}{l:Qb}
theorem zdT (HS:St B w0 w l)(d:Option Nat)(f:Nat)(args:Qd)(pre:World->Prop)(T:TypeId)(mk:Value->Value)(n:Nat)(L:List X3)(hc:FnR P f args pre (zaD T mk n L))(hp:pre w)
 (h:opv P ops i ρ w=some (d,true,.ok (.enter f args) w)) (hd:dOK d N=true)
 (k0: ∀w',n=0->St B w0 w' l->WPs P N ops K r (zr ρ d (mk (.slice none 0 0))) w')
 (kk: ∀b cap cur w',St B w0 w' ((b,.cells cur T)::l)->Rw 3 cur cap n (cells3 L)->WPs P N ops K r (zr ρ d (mk (Qf b n cap))) w'):WPs P N ops K (i::r) ρ w:=by
 obtain⟨o,ho,rfl,hw,hr⟩:=yc h;refine WPo.run ho hw fun a ha=>?_;rw[hr,UF];refine(hc w hp).mono ?_;rintro e w' ⟨v,rfl,hb,⟨h0,rfl⟩|⟨b,cap,cur,rfl,hle,hh,hr⟩⟩
 ·exact⟨_,ha.put _ (zZ hd) _,k0 w' h0 (HS.call hb)⟩
 ·exact⟨_,ha.put _ (zZ hd) _,kk b cap cur w' (HS.add hb hle hh) hr⟩
theorem zmR (HS:St B w0 w l)(d:Option Nat)(t e:TypeId)(bytes:Nat)(s x:Operand)(j b n m cap c:Nat)(p:Qc)(cur:Qd)(xs:List Value)(L:List X3)(l':Nat->Qd->Qb)
 (h:opk ops i ρ=some (d,true,ym t s x)) (hd:dOK d N=true) (ht:yp P t=some (e,3,bytes))
 (hs:ev ρ s=Qf b n cap) (hj:l[j]? =some (b,.cells cur e)) (hr:Rw 3 cur cap n xs)
 (hx:ev ρ x=.slice p m c) (hm:m=L.length) (hp:p≠none) (hc:jL w p L)
 (hb:(n+m)*bytes<=0x800000000000) (hmx:n+m<=maxLen)
 (hl': ∀b' cur',l.set j (b',.cells cur' e)=l' b' cur')
 (kk: ∀b' cap' cur' w',St B w0 w' (l' b' cur')->Rw 3 cur' cap' (n+m) (xs++cells3 L)->WPs P N ops K r (zr ρ d (Qf b' (n+m) cap')) w'):WPs P N ops K (i::r) ρ w:=by
 obtain⟨o,ho,rfl,hw,hop⟩:=zM h;obtain⟨it,z,hu,hi,hz,hsz,hby,hzs,h0⟩:=qi ht;obtain⟨a,rfl⟩:∃a,p=some a:=by cases p with
  | none=>exact absurd rfl hp
  | some a=>exact⟨a,rfl⟩
 have hnews: ∀q u,(cells3 L)[q]? =some u->w.cell? (a.add q)=some u:=fun q u hq=>by
  rcases hc with rfl|⟨b',off,e',h9⟩
  ·simp[cells3]at hq
  ·obtain rfl:a=⟨b',off,none⟩:=Option.some.inj e';rw[qh];exact h9 q u hq
 obtain⟨v',w',hrun,hown,hgr,hnil,hblk⟩:=run_append_own_at (P:=P) w B t o.type e it z 3 bytes hu hi hz hsz hby hzs h0 _ n xs (hr.owns (HS.ge j hj) (HS.get j hj)) a m c (cells3 L) (by rw[ka,hm]) hnews (zbE L) hmx hb HS.le;have hown':=hown;rcases hown'.2 with⟨hv,_⟩|⟨g,cap',cur',rfl,hbg,hg,hnc,hcm,hcs,htk⟩
 ·exact absurd (hnil.1 hv).1 (by simp)
 ·have hgb:g=b\/g=w.heap.size:=by
   rcases hblk with hq|hq
   ·left;injection hq
   ·right;injection hq
  have HS':=HS.grown j hj hgr hgb hg;rw[hl']at HS';refine WPo.run ho hw fun a' ha=>?_;have hex:(execOp (ev ρ) o).run P w=.ok (.value (Qf g (n+m) cap')) w':=by
   unfold execOp;simp only[hop,ym,resolve,invoke,builtin,Q7,Up,QJ,RI,Q8,Ug,hs,hx,hrun]
  rw[hex,Rx];exact⟨_,ha.put _ (zZ hd) _,kk g cap' cur' w' HS' ⟨hown.1,hnc,hcm,htk,hcs⟩⟩
end
def zaE (P:Program)(N:Nat)(ops:Array Oper)(Q:Exit->Env->World->Prop)(i:Nat)(K:Env->World->Prop)(ρ:Env)(w:World):Prop:=
 ∀a,Rep a ρ N->wpOp P ops (qQ N Q) i (fun a' w'=> ∃ρ',Rep a' ρ' N/\K ρ' w') a w
def yX (P:Program)(N:Nat)(ops:Array Oper)(Q:Exit->Env->World->Prop)(K:Env->World->Prop):List Nat->Env->World->Prop
 | [],ρ,w=>K ρ w
 | i::r,ρ,w=>zaE P N ops Q i (yX P N ops Q K r) ρ w
section
variable {P:Program}{N:Nat}{ops:Array Oper}{Q:Exit->Env->World->Prop}{K:Env->World->Prop}{ρ:Env}{w:World}{i:Nat}{r:List Nat}{c:Code}
theorem yX.sound: ∀(l:List Nat) (ρ:Env) (w:World),yX P N ops Q (Q .normal) l ρ w-> ∀a,Rep a ρ N->wpOps P ops (qQ N Q) l a w
 | [],ρ,w,h,a,ha=>⟨ρ,ha,h⟩
 | i::r,ρ,w,h,a,ha=>by
  rw[wpOps_cons];exact wpOp_mono (fun a' w' ⟨ρ',hr,h'⟩=>yX.sound r ρ' w' h' a' hr) (h a ha)
theorem WP.regionX {id:Nat}(l:List Nat)(hl:List.range ops.size=l)(h:yX P N ops Q (Q .normal) l ρ w):WP P N (.region id ops false) Q ρ w:=fun a ha=>
 wp_region (by rw[hl];exact yX.sound l ρ w h a ha)
theorem kI (l1:List Nat){l l2:List Nat}(hl:l=l1++l2)(h:WPs P N ops (fun ρ w=>yX P N ops Q K l2 ρ w) l1 ρ w):yX P N ops Q K l ρ w:=by
 subst hl
 induction l1 generalizing ρ w with
 | nil=>exact h
 | cons i r ih=>
  intro a ha;exact wpOp_mono (fun a' w' ⟨ρ',hr,h'⟩=>⟨ρ',hr,ih h'⟩) (ze5 (h a ha))
theorem zaE.run {o:Oper}(ho:ops[i]? =some o)(hw:Region.wanted o (zS ops ρ)=true)
 (h: ∀a,Rep a ρ N->Oper.upon P o a (fun a' w'=> ∃ρ',Rep a' ρ' N/\K ρ' w') (qQ N Q) ((execOp (ev ρ) o).run P w)):zaE P N ops Q i K ρ w:=fun a ha=>by
 unfold wpOp;simp only[ho,xh ha,hw,if_true];refine .inl ?_;unfold Oper.wp;rw[ha.eval];exact h a ha
theorem zg0 (d:Option Nat)(f:Nat)(args:Qd)(R:Ending->World->Prop)(hc:Calls P f args w R)(h:opv P ops i ρ w=some (d,true,.ok (.enter f args) w))(hd:dOK d N=true)
 (kk: ∀e w',R e w'->(∃v,e=.returned v/\yX P N ops Q K r (zr ρ d v) w')\/(∃ch,e=.panicked ch/\Q (.panic ch) ρ w')):yX P N ops Q K (i::r) ρ w:=by
 obtain⟨o,ho,rfl,hw,hr⟩:=yc h;refine zaE.run ho hw fun a ha=>?_;rw[hr,UF];refine hc.mono ?_;intro e w' hR;rcases kk e w' hR with⟨v,rfl,hk⟩|⟨ch,rfl,hq⟩
 ·exact⟨_,ha.put _ (zZ hd) v,hk⟩
 ·exact⟨ρ,ha,hq⟩
theorem zbO (d:Option Nat)(v:Value)(h:opv P ops i ρ w=some (d,true,.halt (.panic v) w))(hq:Q (.panic [{ v,recovered:=false }]) ρ w):yX P N ops Q K (i::r) ρ w:=by
 obtain⟨o,ho,rfl,hw,hr⟩:=yc h;refine zaE.run ho hw fun a ha=>?_;rw[hr,Oper.upon_panic];exact⟨ρ,ha,hq⟩
theorem zbP (l:List Nat)(hc:jF c=some (l,false))(h:yX P N (zp c) Q (Q .normal) l ρ w):WP P N c Q ρ w:=by
 obtain⟨id,he,hl⟩:=vG hc;rw[he];exact WP.regionX l hl h
theorem zbQ (l:List Nat)(hc:qo c=true)(hr:jF (zH c)=some (l,false))(h:yX P N (zp (zH c)) (nx (WP P N (zy c) Q) Q) (WP P N (zy c) Q) l ρ w):WP P N c Q ρ w:=
 za hc (zbP l hr h)
end
def zdU (P:Program)(rs:List ResultVar)(R:Value->World->Prop)(RP:List PanicEntry->World->Prop):Exit->Env->World->Prop
 | .normal,ρ,w | .ret,ρ,w=> ∃vs,Res P w ρ rs vs/\R (xi vs) w
 | .panic ch,_,w=>RP ch w
 | _,_,_=>False
theorem zg1 {P:Program}{f:Nat}{fn:Func}{c:Code}{rs:List ResultVar}{N:Nat}{args:Qd}{w:World}{R:Value->World->Prop}{RP:List PanicEntry->World->Prop}(hf:P.funcs[f]? =some fn)(hb:fn.body=some c)(hr:fn.results.toList=rs)(hn:args.size+(fn.ntmps-args.size)=N)
 (h:WP P N c (zdU P rs R RP) (ini args) w):Calls P f args w fun e w'=>(∃v,e=.returned v/\R v w')\/(∃ch,e=.panicked ch/\RP ch w'):=by
 subst hr;refine calls_of_wp hf hb (Go.wp_mono (h { tmps:=args++Ru (fn.ntmps-args.size) undef,defers:=[] } ⟨rfl,by simp[hn],fun t=>?_⟩) ?_)
 ·unfold ini;rw[km,km,Array.getElem?_append];split
  ·rfl
  ·rename_i hge
   rw[U8 (Nat.le_of_not_lt hge)];cases he:(Ru (fn.ntmps-args.size) undef)[t-args.size]? with
   | none=>rfl
   | some v=>
    have:=Array.mem_of_getElem? he;simp at this;simp[this]
 ·rintro e a w' ⟨ρ,ha,hq⟩;cases e with
  | normal=>obtain⟨vs,hR,hv⟩:=hq;exact⟨ha.defers,_,hR.run ha,.inl ⟨_,rfl,hv⟩⟩
  | ret=>obtain⟨vs,hR,hv⟩:=hq;exact⟨ha.defers,_,hR.run ha,.inl ⟨_,rfl,hv⟩⟩
  | panic ch=>exact⟨ha.defers,.inr ⟨_,rfl,hq⟩⟩
  | _=>exact(hq:False).elim
def jM (T:Qb):Fo->Nat->Nat->Prop
 | .nil,_,_=>True
 | .cons l s k r,b,off=>(∃(C:Qd) (ty:TypeId) (fz:Nat×Nat) (p:Qc) (n c:Nat),(b,Qk C ty fz)∈T/\off+3<=C.size/\
  C.extract off (off+3)=#[.bool l,.string s,.slice p n c]/\s.size<=0x800000000000/\n=k.len/\n<=0x800000000000/\(k=.nil\/∃b' off',p=some ⟨b',off',none⟩/\jM T k b' off'))/\jM T r b (off+3)
def SlIn (T:Qb)(p:Qc)(n:Nat)(k:Fo):Prop:=n=k.len/\n<=0x800000000000/\(k=.nil\/∃b off,p=some ⟨b,off,none⟩/\jM T k b off)
theorem jM.mono {T T':Qb}(h: ∀e∈T,e∈T'): ∀ {k:Fo} {b off:Nat},jM T k b off->jM T' k b off
 | .nil,_,_,_=>trivial
 | .cons l s k r,b,off,⟨⟨C,ty,fz,p,n,c,h1,h2,h3,h4,h5,h6,h7⟩,h8⟩=>⟨⟨C,ty,fz,p,n,c,h _ h1,h2,h3,h4,h5,h6,h7.imp id fun⟨b',o',e,q⟩=>⟨b',o',e,jM.mono h q⟩⟩,jM.mono h h8⟩
theorem SlIn.mono {T T':Qb}{p:Qc}{n:Nat}{k:Fo}(hs:SlIn T p n k)(h: ∀e∈T,e∈T'):SlIn T' p n k:=
 ⟨hs.1,hs.2.1,hs.2.2.imp id fun⟨b,o,e,q⟩=>⟨b,o,e,q.mono h⟩⟩
theorem jM.at {B:Nat}{w0 w:World}{l T:Qb}(hS:St B w0 w l)(h: ∀e∈T,e∈l): ∀ {k:Fo} {b off:Nat},jM T k b off->jI w.heap.size w k b off
 | .nil,_,_,_=>trivial
 | .cons l s k r,b,off,⟨⟨C,ty,fz,p,n,c,h1,h2,h3,h4,h5,h6,h7⟩,h8⟩=>
  have hh:=(hS.own _ (h _ h1)).2
  ⟨⟨C,ty,fz,p,n,c,zo hh,hh,h2,h3,h4,h5,h6,h7.imp id fun⟨b',o',e,q⟩=>⟨b',o',e,jM.at hS h q⟩⟩,jM.at hS h h8⟩
theorem SlIn.at {B:Nat}{w0 w:World}{l T:Qb}{p:Qc}{n:Nat}{k:Fo}(hs:SlIn T p n k)(hS:St B w0 w l)(h: ∀e∈T,e∈l):zq w.heap.size w p n k:=
 ⟨hs.1,hs.2.1,hs.2.2.imp id fun⟨b,o,e,q⟩=>⟨b,o,e,q.at hS h⟩⟩
def AllIn (T:Qb)(L:List X3):Prop:= ∀x∈L,SlIn T x.p x.n x.k/\x.s.size<=0x800000000000
theorem zg2 {T:Qb}{b:Nat}{C:Qd}{ty:TypeId}{fz:Nat×Nat}(hm:(b,Qk C ty fz)∈T): ∀(L:List X3) (o:Nat),
 (∀(i:Nat) (x:X3),L[i]? =some x->C[o+i*3]? =some (.bool x.l)/\C[o+i*3+1]? =some (.string x.s)/\C[o+i*3+2]? =some (.slice x.p x.n x.c))->AllIn T L->jM T (toFo L) b o
 | [],_,_,_=>trivial
 | x::r,o,h,hA=>by
  obtain⟨h1,h2,h3⟩:=h 0 x rfl;simp only[Vf,RL]at h1 h2 h3;have ha:=hA x (QX ..);refine⟨⟨C,ty,fz,x.p,x.n,x.c,hm,(ex3 h1 h2 h3).1,(ex3 h1 h2 h3).2,ha.2,ha.1.1,ha.1.2.1,ha.1.2.2⟩,?_⟩;refine zg2 hm r (o+3) (fun i y hy=>?_) fun y hy=>hA y (QR _ hy);have:=h (i+1) y (by simpa using hy);rw[show o+(i+1)*3=o+3+i*3 by omega]at this;exact this
theorem Rw.slIn {cur:Qd}{cap n:Nat}{L:List X3}(h:Rw 3 cur cap n (cells3 L)){T:Qb}{b:Nat}{ty:TypeId}{fz:Nat×Nat}(hm:(b,Qk cur ty fz)∈T)(hA:AllIn T L)(hn:n<=0x800000000000):SlIn T (Qg b) n (toFo L):=by
 have hl:=h.len;rw[ka]at hl;refine⟨by rw[zbC];omega,hn,.inr ⟨b,0,rfl,zg2 hm L 0 (fun i x hx=>?_) hA⟩⟩;have:=h.at3 hx;rw[Q9];exact this
end Go.Proofs.YtcjejfklpegobaaGreatDoor
