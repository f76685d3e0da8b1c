/-
  Texts of the proof,part 3.
-/
import Derived.Test.YtbpmjppmpgeejaaGreatDoorProg
import Derived.Recover
import Derived.Lib.AppendZeros
import Derived.Lib.Overlaps
import Derived.Scope
import Derived.Test.YtbpmjppmpgeejaaGreatDoorHR1
import Derived.Test.YtbpmjppmpgeejaaGreatDoorHR2
set_option maxRecDepth 100000
set_option maxHeartbeats 4000000
namespace Go.Proofs.YtbpmjppmpgeejaaGreatDoor
open Go Go.RowKit
set_option linter.unusedVariables false
theorem zby {a:Nat}(h:a≤255):IntKind.u8.wrap (a:Int)=(a:Int):=by rw [IntKind.wrap_u8];omega
abbrev dc (t:ByteArray):Obj:=.cells #[.string t] 149 (0,0)
def chF:List PanicEntry:=[{ v:=.iface 28 (.int .i64 4),recovered:=false }]
def FnX (P:Program)(f:Nat)(args:Array Value)(bd:Nat)(t:ByteArray)(ok:ByteArray→Value→List (Nat×Obj)→Prop)(bad:Prop):Prop:=
 ∀(B:Nat) (w0 w:World) (L:List (Nat×Obj)),St B w0 w ((bd,dc t)::L)→Calls P f args w fun e w'=>
  (∃v u T,e=.returned v∧ok u v T∧St B w0 w' ((bd,dc u)::(T++L)))∨(e=.panicked chF∧bad∧St B w0 w' L)
abbrev zh9 (P:Program)(rs:List ResultVar)(B:Nat)(w0:World)(bd:Nat)(L:List (Nat×Obj))(ok:ByteArray→Value→List (Nat×Obj)→Prop)(bad:Prop):Exit→Env→World→Prop:=
 zbx P rs (fun v w'=> ∃u T,ok u v T∧St B w0 w' ((bd,dc u)::(T++L))) (fun ch w'=>ch=chF∧bad∧St B w0 w' L)
theorem FnX.intro {P:Program}{f:Nat}{fn:Func}{c:Code}(rs:List ResultVar)(N:Nat){args:Array Value}{bd:Nat}{t:ByteArray}{ok:ByteArray→Value→List (Nat×Obj)→Prop}{bad:Prop}(hf:P.funcs[f]? =some fn)(hb:fn.body=some c)(hr:fn.results.toList=rs)(hn:args.size+(fn.ntmps-args.size)=N)
 (h: ∀B w0 w L,St B w0 w ((bd,dc t)::L)→WP P N c (zh9 P rs B w0 bd L ok bad) (ini args) w):FnX P f args bd t ok bad:=fun B w0 w L HS=>
 (zdW hf hb hr hn (h B w0 w L HS)).mono fun e w' q=>by
  rcases q with ⟨v,he,u,T,h1,h2⟩|⟨ch,he,h0,h1,h2⟩
  ·exact .inl ⟨v,u,T,he,h1,h2⟩
  ·exact .inr ⟨by rw [he,h0],h1,h2⟩
section
variable {P:Program}{N:Nat}{ops:Array Oper}{Q:Exit→Env→World→Prop}{K:Env→World→Prop}{ρ:Env}{w w0:World}{i B:Nat}{r:List Nat}{l:List (Nat×Obj)}
theorem xX {bd:Nat}{t:ByteArray}{L:List (Nat×Obj)}(HS:St B w0 w l)(hp:((bd,dc t)::L).Perm l)(d:Option Nat)(f:Nat)(args:Array Value){ok:ByteArray→Value→List (Nat×Obj)→Prop}{bad:Prop}(hc:FnX P f args bd t ok bad)
 (h:opv P ops i ρ w=some (d,true,.ok (.enter f args) w)) (hd:dOK d N=true)
 (kp: ∀w',bad→St B w0 w' L→Q (.panic chF) ρ w')
 (kk: ∀v u T w',ok u v T→St B w0 w' ((bd,dc u)::(T++L))→yH P N ops Q K r (zr ρ d v) w'):yH P N ops Q K (i::r) ρ w:=
 zdV d f args _ (hc B w0 w L (HS.perm hp)) h hd fun e w' q=>by
  rcases q with ⟨v,u,T,he,h1,h2⟩|⟨he,h1,h2⟩
  ·exact .inl ⟨v,he,kk v u T w' h1 h2⟩
  ·exact .inr ⟨chF,he,kp w' h1 h2⟩
theorem jZ (l1:List Nat)(h:WPs P N ops K l1 ρ w):yH P N ops Q K l1 ρ w:=jY l1 (l2:=[]) (by simp) h
end
theorem uM (bd m:Nat)(t:ByteArray)(ht:t.size≤100000):FnX Tryz.prog 139 #[.pointer (some ⟨bd,0,none⟩),.int .u64 (m:Int)] bd t (fun u v T=>m≤t.size∧v=.string (t.extract 0 m)∧u=t.extract m t.size∧T=[]) (t.size<m):=by
 refine FnX.intro (c:=zk Tryz.f139) [.tmp 4] 31 Tryz.func139 kr kr kr fun B w0 w L H0=>rS [.v] H0 kr fun gs1 w1 H1=>zb kr ?_;by_cases hm:m≤t.size
 ·refine rS [.v,.v,.v,.v,.l 0,.v,.E (.int .u64 (IntKind.u64.wrap ((ByteArray.size t:Int)))) (.int .u64 (ByteArray.size t:Int)) (zd (yr (a:=ByteArray.size t) (by omega))),.E (.bool (decide ((ByteArray.size t:Int)<(m:Int)))) (.bool false) (za (decide_eq_false (by omega)))] H1 kr fun gs2 w2 H2=>zi kr kr<|zj kr<|wW<|rS [.v,.v,.v,.l 0,.v,.o (ins:=[((.tmp 18),.string t),((.tmp 19),.int .u64 (m:Int))]) (v:=.string (ByteArray.extract t 0 m)) (fun ρ o w ho hi=>jW (t:=9) (kd:=.u64) kr (x:=(.tmp 18)) (y:=(.tmp 19)) t m ho hi.1 hi.2.1 (by omega) w),.v] H2 kr fun gs3 w3 H3=>rS [.v,.v,.v,.v,.l 0,.v,.o (ins:=[((.tmp 25),.string t),((.tmp 26),.int .u64 (m:Int))]) (v:=.string (ByteArray.extract t m (ByteArray.size t))) (fun ρ o w ho hi=>kq (t:=9) (kz:=.u64) kr (x:=(.tmp 25)) (z:=(.tmp 26)) t m ho hi.1 hi.2.1 (by omega) w),.v,.v,.s 0] H3 kr fun gs4 w4 H4=>rS [.v,.v] H4 kr fun gs5 w5 H5=>zl kr<|wV ?_;exact ⟨[.string (t.extract 0 m)],(.tmp (.string (t.extract 0 m)) kr .nil),_,[],⟨hm,rfl,rfl,rfl⟩,H5.as kr⟩
 ·refine rS [.v,.v,.v,.v,.l 0,.v,.E (.int .u64 (IntKind.u64.wrap ((ByteArray.size t:Int)))) (.int .u64 (ByteArray.size t:Int)) (zd (yr (a:=ByteArray.size t) (by omega))),.E (.bool (decide ((ByteArray.size t:Int)<(m:Int)))) (.bool true) (za (decide_eq_true (by omega)))] H1 kr fun gs2 w2 H2=>zf kr kr<|uK [0,1] kr<|jY [0] (l2:=[1]) rfl<|rp [.v] H2 kr fun gs3 w3 H3=>wX []<|zc<|uJ none (.iface 28 (.int .i64 4)) kr ?_;have H4:St B w0 w3 ((bd,dc t)::L):=H3.as kr;exact ⟨rfl,by omega,H4.sub (List.sublist_cons_self ..)⟩
theorem zdY (bd f:Nat)(t:ByteArray)(hf:f<64)(ht:t.size≤100000):FnX Tryz.prog 141 #[.pointer (some ⟨bd,0,none⟩),.int .u8 (f:Int)] bd t (fun u v T=> ∃n,yQ f t=some (n,u)∧v=.int .u64 ((n:Nat):Int)∧T=[]) (yQ f t=none):=by
 refine FnX.intro (c:=zk Tryz.f141) [.tmp 4] 24 Tryz.func141 kr kr kr fun B w0 w L H0=>rS [.v] H0 kr fun gs1 w1 H1=>zb kr ?_;by_cases hm:f≤55
 ·refine rS [.v,.E (.bool (decide ((f:Int)≤55))) (.bool true) (za (decide_eq_true (by omega)))] H1 kr fun gs2 w2 H2=>zf kr kr<|rS [.v,.E (.int .u64 (IntKind.u64.wrap ((f:Int)))) (.int .u64 (f:Int)) (zd (yr (a:=f) (by omega))),.v] H2 kr fun gs3 w3 H3=>zl kr<|wV ?_;exact ⟨[.int .u64 (f:Int)],(.tmp (.int .u64 (f:Int)) kr .nil),t,[],⟨f,by unfold yQ;rw [if_pos hm],rfl,rfl⟩,H3.as kr⟩
 ·refine rS [.v,.E (.bool (decide ((f:Int)≤55))) (.bool false) (za (decide_eq_false (by omega)))] H1 kr fun gs2 w2 H2=>zi kr kr<|zj kr<|wW<|uL [0,1,2,3,4,5,6,7,8,9,10] kr kr<|jY [0,1,2,3] (l2:=[4,5,6,7,8,9,10]) rfl<|rp [.v,.v,.E (.int .u8 (IntKind.u8.wrap ((f:Int)-55))) (.int .u8 (((f-55:Nat):Nat):Int)) (zd (by rw [show (f:Int)-55=((f-55:Nat):Int) by omega];exact zby (by omega))),.E (.int .u64 (IntKind.u64.wrap (((f-55:Nat):Int)))) (.int .u64 ((f-55:Nat):Int)) (zd (yr (a:=f-55) (by omega)))] H2 kr fun gs3 w3 H3=>wX []<|zc ?_;have H4:St B w0 w3 ((bd,dc t)::L):=H3.as kr;refine xX H4 (List.Perm.refl _) (some 16) 139 #[.pointer (some ⟨bd,0,none⟩),.int .u64 ((f-55:Nat):Int)] (uM bd (f-55) t ht) kr kr (fun w' hb HS=>?_) ?_
  ·exact ⟨rfl,by unfold yQ;rw [if_neg hm,if_pos hb],HS⟩
  rintro _ _ _ w4 ⟨hle,rfl,rfl,rfl⟩ H5;refine jZ _<|rp [.c (zdK (t.extract 0 (f-55)))] H5 kr fun gs4 w5 H6=>wX [6,7,8,9,10]<|zz 17 (v:=uC (zG (t.extract 0 (f-55)))) (v':=.tuple #[.int .u64 (((zG (t.extract 0 (f-55))).1:Nat):Int),.bool (zG (t.extract 0 (f-55))).2]) rfl kr<|rp [.v,.v,.v,.v,.v] H6 kr fun gs5 w6 H7=>wX []<|zc<|wW<|zb kr ?_;by_cases hn:(zG (t.extract 0 (f-55))).1≤55
  ·refine rS [.v,.E (.bool (decide ((((zG (t.extract 0 (f-55))).1:Nat):Int)≤55))) (.bool true) (za (decide_eq_true (by omega)))] H7 kr fun gs6 w7 H8=>zf kr kr<|uK [0,1] kr<|jY [0] (l2:=[1]) rfl<|rp [.v] H8 kr fun gs7 w8 H9=>wX []<|zc<|uJ none (.iface 28 (.int .i64 4)) kr ?_;have H10:St B w0 w8 ((bd,dc (t.extract (f-55) t.size))::L):=H9.as kr;exact ⟨rfl,by unfold yQ;rw [if_neg hm,if_neg (by omega),if_pos hn],H10.sub (List.sublist_cons_self ..)⟩
  ·refine rS [.v,.E (.bool (decide ((((zG (t.extract 0 (f-55))).1:Nat):Int)≤55))) (.bool false) (za (decide_eq_false (by omega)))] H7 kr fun gs6 w7 H8=>zi kr kr<|zj kr<|wW<|rS [.v,.v] H8 kr fun gs7 w8 H9=>zl kr<|wV ?_;exact ⟨[.int .u64 (((zG (t.extract 0 (f-55))).1:Nat):Int)],(.tmp _ kr .nil),t.extract (f-55) t.size,[],⟨_,by unfold yQ;rw [if_neg hm,if_neg (by omega),if_neg hn],rfl,rfl⟩,H9.as kr⟩
def FnY (P:Program)(f:Nat)(args:Array Value)(ok:Value→List (Nat×Obj)→Prop)(bad:Prop):Prop:=
 ∀(B:Nat) (w0 w:World) (L:List (Nat×Obj)),St B w0 w L→Calls P f args w fun e w'=>
  (∃v T,e=.returned v∧ok v T∧St B w0 w' (T++L))∨(e=.panicked chF∧bad∧St B w0 w' L)
abbrev zia (P:Program)(rs:List ResultVar)(B:Nat)(w0:World)(L:List (Nat×Obj))(ok:Value→List (Nat×Obj)→Prop)(bad:Prop):Exit→Env→World→Prop:=
 zbx P rs (fun v w'=> ∃T,ok v T∧St B w0 w' (T++L)) (fun ch w'=>ch=chF∧bad∧St B w0 w' L)
theorem FnY.intro {P:Program}{f:Nat}{fn:Func}{c:Code}(rs:List ResultVar)(N:Nat){args:Array Value}{ok:Value→List (Nat×Obj)→Prop}{bad:Prop}(hf:P.funcs[f]? =some fn)(hb:fn.body=some c)(hr:fn.results.toList=rs)(hn:args.size+(fn.ntmps-args.size)=N)
 (h: ∀B w0 w L,St B w0 w L→WP P N c (zia P rs B w0 L ok bad) (ini args) w):FnY P f args ok bad:=fun B w0 w L HS=>
 (zdW hf hb hr hn (h B w0 w L HS)).mono fun e w' q=>by
  rcases q with ⟨v,he,T,h1,h2⟩|⟨ch,he,h0,h1,h2⟩
  ·exact .inl ⟨v,T,he,h1,h2⟩
  ·exact .inr ⟨by rw [he,h0],h1,h2⟩
theorem zib {P:Program}{N:Nat}{ops:Array Oper}{Q:Exit→Env→World→Prop}{K:Env→World→Prop}{ρ:Env}{w w0:World}{i B:Nat}{r:List Nat}{l:List (Nat×Obj)}(HS:St B w0 w l)(d:Option Nat)(f:Nat)(args:Array Value){ok:Value→List (Nat×Obj)→Prop}{bad:Prop}(hc:FnY P f args ok bad)
 (h:opv P ops i ρ w=some (d,true,.ok (.enter f args) w)) (hd:dOK d N=true)
 (kp: ∀w',bad→St B w0 w' l→Q (.panic chF) ρ w')
 (kk: ∀v T w',ok v T→St B w0 w' (T++l)→yH P N ops Q K r (zr ρ d v) w'):yH P N ops Q K (i::r) ρ w:=
 zdV d f args _ (hc B w0 w l HS) h hd fun e w' q=>by
  rcases q with ⟨v,T,he,h1,h2⟩|⟨he,h1,h2⟩
  ·exact .inl ⟨v,he,kk v T w' h1 h2⟩
  ·exact .inr ⟨chF,he,kp w' h1 h2⟩
def zic (t:ByteArray)(u:ByteArray)(v:Value)(T:List (Nat×Obj)):Prop:=∃(l:Bool) (s:ByteArray) (p:Option Addr) (n c:Nat) (k:Fo),v=.agg #[.bool l,.string s,.slice p n c]∧yc t l s k u∧SlIn T p n k∧s.size≤t.size
def ky (bd:Nat)(t:ByteArray):Prop:=FnX Tryz.prog 120 #[.pointer (some ⟨bd,0,none⟩)] bd t (zic t) (qE t)
def zdZ (t:ByteArray)(v:Value)(T:List (Nat×Obj)):Prop:=∃(p:Option Addr) (n c:Nat) (k:Fo),v=.agg #[.bool true,.string ⟨#[]⟩,.slice p n c]∧tl t=wrF k∧pureF k=true∧SlIn T p n k
def zbz (t:ByteArray):Prop:=FnY Tryz.prog 142 #[.string t] (zdZ t) (uH t)
theorem SlIn.none (T:List (Nat×Obj)):SlIn T none 0 .nil:=⟨rfl,by omega,.inl rfl⟩
theorem zid {t:ByteArray}(h:t.size≠0):by_ (t.extract 0 1) 0=by_ t 0:=by
 obtain ⟨l,e⟩:=xw h;unfold by_;rw [yO,e];rfl
theorem zd0 (bd:Nat)(t:ByteArray)(ht:t.size≤100000)(hl: ∀s:ByteArray,s.size<t.size→zbz s):ky bd t:=by
 refine FnX.intro (c:=zk Tryz.f120) [.cell 2 83] 36 Tryz.func120 kr kr kr fun B w0 w L H0=>zg [0] kr kr<|zB H0 (some 2) 83 (.agg #[.bool false,.string ⟨#[]⟩,.slice none 0 0]) kr kr kr ?_;intro b1 w1 H1;refine zc<|uL [0,1,2] kr kr<|jY [0] (l2:=[1,2]) rfl<|rp [.v] H1 kr fun gs2 w2 H2=>wX []<|zc ?_;have H3:St B w0 w2 ((b1,.cells #[.bool false,.string ⟨#[]⟩,.slice none 0 0] 83 (0,0))::(bd,dc t)::L):=H2.as kr;refine xX H3 (List.Perm.swap _ _ _) (some 6) 139 #[.pointer (some ⟨bd,0,none⟩),.int .u64 ((1:Nat):Int)] (uM bd 1 t ht) kr kr (fun w' hb HS=>?_) ?_
 ·exact ⟨rfl,zdP hb,HS.sub (List.sublist_cons_self ..)⟩
 rintro _ _ _ w3 ⟨hle,rfl,rfl,rfl⟩ H4;have h0:t.size≠0:=by omega
 have hb:=zid h0;have hlt:=qg t 0;have hz1:(t.extract 0 1).size=1:=by rw [qp t 0 1 (by omega) (by omega)]
 have hzt:(t.extract 1 t.size).size=t.size-1:=by rw [qp t 1 _ (Nat.le_refl _) (by omega)]
 have hfs:=zdN h0;refine jZ _<|rp [.v] H4 kr fun gs3 w4 H5=>wX []<|zc<|wW<|zn 0 kr<|rS [.v,.c (uu (t.extract 0 1)),.v] H5 kr fun gs4 w5 H6=>?_;by_cases h128:by_ t 0<128
 ·have hs1:zX (t.extract 0 1)=true:=by rw [hfs];exact decide_eq_true h128
  refine yl 15 (v:=.bool (zX (t.extract 0 1))) (v':=.bool true) (za hs1) kr<|zf kr kr<|rS [.v,.c (zdL (t.extract 0 1) (by omega)),.s 1] H6 kr fun gs5 w6 H7=>?_;have H8:St B w0 w6 ((bd,dc (t.extract 1 t.size))::(b1,.cells #[.bool false,.string (t.extract 0 1),.slice none 0 0] 83 (0,0))::L):=H7.as kr;refine zl kr<|wV ?_;exact ⟨[.agg #[.bool false,.string (t.extract 0 1),.slice none 0 0]],(.agg (b:=b1) (#[.bool false,.string (t.extract 0 1),.slice none 0 0]) 83 (0,0) kr (H8.get 1 kr) kr .nil),_,[],⟨_,_,_,_,_,_,rfl,zh3 h0 h128,SlIn.none _,by omega⟩,H8.sub (List.Sublist.cons_cons _ (List.Sublist.cons _ (List.Sublist.refl _)))⟩
 ·have hs1:zX (t.extract 0 1)=false:=by rw [hfs];exact decide_eq_false h128
  refine yl 15 (v:=.bool (zX (t.extract 0 1))) (v':=.bool false) (za hs1) kr<|zi kr kr ?_;by_cases h192:by_ t 0<192
  ·refine rS [.v,.o (ins:=[((.tmp 21),.string (t.extract 0 1)),((.const (.int .i64 0)),.int .i64 0)]) (v:=.int .u8 ((by_ (t.extract 0 1) 0:Nat):Int)) (fun ρ o w ho hi=>zO (t:=9) (kd:=.i64) kr (x:=(.tmp 21)) (y:=(.const (.int .i64 0))) (t.extract 0 1) 0 ho hi.1 hi.2.1 (by omega) w),.E (.bool (decide (((by_ (t.extract 0 1) 0:Nat):Int)<192))) (.bool true) (za (decide_eq_true (by omega))),.v] H6 kr fun gs5 w6 H7=>zf kr kr<|uL [0,1,2,3,4,5,6,7] kr kr<|jY [0,1,2,3,4] (l2:=[5,6,7]) rfl<|rp [.v,.v,.v,.o (ins:=[((.tmp 26),.string (t.extract 0 1)),((.const (.int .i64 0)),.int .i64 0)]) (v:=.int .u8 ((by_ (t.extract 0 1) 0:Nat):Int)) (fun ρ o w ho hi=>zO (t:=9) (kd:=.i64) kr (x:=(.tmp 26)) (y:=(.const (.int .i64 0))) (t.extract 0 1) 0 ho hi.1 hi.2.1 (by omega) w),.E (.int .u8 (IntKind.u8.wrap (((by_ (t.extract 0 1) 0:Nat):Int)-128))) (.int .u8 ((by_ t 0-128:Nat):Int)) (zd (by rw [show ((by_ (t.extract 0 1) 0:Nat):Int)-128=((by_ t 0-128:Nat):Int) by omega];exact zby (by omega)))] H7 kr fun gs6 w7 H8=>wX []<|zc ?_;have H9:St B w0 w7 ((bd,dc (t.extract 1 t.size))::(b1,.cells #[.bool false,.string ⟨#[]⟩,.slice none 0 0] 83 (0,0))::L):=H8.as kr;refine xX H9 (List.Perm.refl _) (some 29) 141 #[.pointer (some ⟨bd,0,none⟩),.int .u8 ((by_ t 0-128:Nat):Int)] (zdY bd (by_ t 0-128) (t.extract 1 t.size) (by omega) (by omega)) kr kr (fun w' hb HS=>?_) ?_
   ·exact ⟨rfl,zdR false ht h0 (by omega) (by simp;omega) hb,HS.sub (List.sublist_cons_self ..)⟩
   rintro _ u _ w8 ⟨n,hc,rfl,rfl⟩ H10;have hu:=(zbw hc (by omega) 0).2.2;refine xX (L:=(b1,.cells #[.bool false,.string ⟨#[]⟩,.slice none 0 0] 83 (0,0))::L) H10 (List.Perm.refl _) (some 30) 139 #[.pointer (some ⟨bd,0,none⟩),.int .u64 (n:Int)] (uM bd n u (by omega)) kr kr (fun w' hb HS=>?_) ?_
   ·exact ⟨rfl,zdS false ht h0 (by omega) (by simp;omega) hc hb,HS.sub (List.sublist_cons_self ..)⟩
   rintro _ _ _ w9 ⟨hnu,rfl,rfl,rfl⟩ H11;have hzn:(u.extract 0 n).size=n:=by rw [qp u 0 n hnu (by omega)];omega
   refine jZ _<|rp [.v] H11 kr fun gs7 w10 H12=>wX []<|zc<|wW<|zb kr<|rS [.v,.c (uu (u.extract 0 n))] H12 kr fun gs8 w11 H13=>?_;rcases Bool.eq_false_or_eq_true (zX (u.extract 0 n)) with hs2 | hs2
   ·refine yl 32 (v:=.bool (zX (u.extract 0 n))) (v':=.bool true) (za hs2) kr<|zf kr kr<|uK [0,1] kr<|jY [0] (l2:=[1]) rfl<|rp [.v] H13 kr fun gs9 w12 H14=>wX []<|zc<|uJ none (.iface 28 (.int .i64 4)) kr ?_;have H15:St B w0 w12 ((bd,dc (u.extract n u.size))::(b1,.cells #[.bool false,.string ⟨#[]⟩,.slice none 0 0] 83 (0,0))::L):=H14.as kr;exact ⟨rfl,zh6 ht h0 (by omega) h192 hc hs2,H15.sub (List.Sublist.cons _ (List.sublist_cons_self ..))⟩
   ·refine yl 32 (v:=.bool (zX (u.extract 0 n))) (v':=.bool false) (za hs2) kr<|zi kr kr<|zj kr<|wW<|rS [.v,.c (zdL (u.extract 0 n) (by omega)),.s 1] H13 kr fun gs9 w12 H14=>?_;have H15:St B w0 w12 ((bd,dc (u.extract n u.size))::(b1,.cells #[.bool false,.string (u.extract 0 n),.slice none 0 0] 83 (0,0))::L):=H14.as kr;refine zl kr<|wV ?_;exact ⟨[.agg #[.bool false,.string (u.extract 0 n),.slice none 0 0]],(.agg (b:=b1) (#[.bool false,.string (u.extract 0 n),.slice none 0 0]) 83 (0,0) kr (H15.get 1 kr) kr .nil),_,[],⟨_,_,_,_,_,_,rfl,zh4 h0 (by omega) h192 hc hnu hs2,SlIn.none _,by omega⟩,H15.sub (List.Sublist.cons_cons _ (List.Sublist.cons _ (List.Sublist.refl _)))⟩
  ·refine rS [.v,.o (ins:=[((.tmp 21),.string (t.extract 0 1)),((.const (.int .i64 0)),.int .i64 0)]) (v:=.int .u8 ((by_ (t.extract 0 1) 0:Nat):Int)) (fun ρ o w ho hi=>zO (t:=9) (kd:=.i64) kr (x:=(.tmp 21)) (y:=(.const (.int .i64 0))) (t.extract 0 1) 0 ho hi.1 hi.2.1 (by omega) w),.E (.bool (decide (((by_ (t.extract 0 1) 0:Nat):Int)<192))) (.bool false) (za (decide_eq_false (by omega))),.v] H6 kr fun gs5 w6 H7=>zi kr kr<|uL [0,1,2,3,4,5,6,7,8] kr kr<|jY [0,1,2,3,4] (l2:=[5,6,7,8]) rfl<|rp [.v,.v,.v,.o (ins:=[((.tmp 9),.string (t.extract 0 1)),((.const (.int .i64 0)),.int .i64 0)]) (v:=.int .u8 ((by_ (t.extract 0 1) 0:Nat):Int)) (fun ρ o w ho hi=>zO (t:=9) (kd:=.i64) kr (x:=(.tmp 9)) (y:=(.const (.int .i64 0))) (t.extract 0 1) 0 ho hi.1 hi.2.1 (by omega) w),.E (.int .u8 (IntKind.u8.wrap (((by_ (t.extract 0 1) 0:Nat):Int)-192))) (.int .u8 ((by_ t 0-192:Nat):Int)) (zd (by rw [show ((by_ (t.extract 0 1) 0:Nat):Int)-192=((by_ t 0-192:Nat):Int) by omega];exact zby (by omega)))] H7 kr fun gs6 w7 H8=>wX []<|zc ?_;have H9:St B w0 w7 ((bd,dc (t.extract 1 t.size))::(b1,.cells #[.bool false,.string ⟨#[]⟩,.slice none 0 0] 83 (0,0))::L):=H8.as kr;refine xX H9 (List.Perm.refl _) (some 12) 141 #[.pointer (some ⟨bd,0,none⟩),.int .u8 ((by_ t 0-192:Nat):Int)] (zdY bd (by_ t 0-192) (t.extract 1 t.size) (by omega) (by omega)) kr kr (fun w' hb HS=>?_) ?_
   ·exact ⟨rfl,zdR true ht h0 (by omega) (by simp;omega) hb,HS.sub (List.sublist_cons_self ..)⟩
   rintro _ u _ w8 ⟨n,hc,rfl,rfl⟩ H10;have hu:=(zbw hc (by omega) 0).2.2;refine xX (L:=(b1,.cells #[.bool false,.string ⟨#[]⟩,.slice none 0 0] 83 (0,0))::L) H10 (List.Perm.refl _) (some 13) 139 #[.pointer (some ⟨bd,0,none⟩),.int .u64 (n:Int)] (uM bd n u (by omega)) kr kr (fun w' hb HS=>?_) ?_
   ·exact ⟨rfl,zdS true ht h0 (by omega) (by simp;omega) hc hb,HS.sub (List.sublist_cons_self ..)⟩
   rintro _ _ _ w9 ⟨hnu,rfl,rfl,rfl⟩ H11;have hzn:(u.extract 0 n).size=n:=by rw [qp u 0 n hnu (by omega)];omega
   have H12:St B w0 w9 ((bd,dc (u.extract n u.size))::(b1,.cells #[.bool false,.string ⟨#[]⟩,.slice none 0 0] 83 (0,0))::L):=H11.as kr;refine zib H12 (some 14) 142 #[.string (u.extract 0 n)] (hl (u.extract 0 n) (by omega)) kr kr (fun w' hb HS=>?_) ?_
   ·exact ⟨rfl,zh7 ht h0 (by omega) hc hb,HS.sub (List.Sublist.cons _ (List.sublist_cons_self ..))⟩
   rintro _ T w10 ⟨p,n3,c3,k,rfl,hk,hpk,hsl⟩ H13
   have H14:St B w0 w10 ((b1,.cells #[.bool false,.string ⟨#[]⟩,.slice none 0 0] 83 (0,0))::(bd,dc (u.extract n u.size))::(T++L)):=H13.perm (by
    refine (List.Perm.swap _ _ _).trans<|List.Perm.symm<|(List.perm_middle).trans (List.Perm.cons _ ?_)
    exact List.perm_middle)
   refine jZ _<|rp [.s 0] H14 kr fun gs7 w11 H15=>wX []<|zc<|wW ?_;have H16:St B w0 w11 ((b1,.cells #[.bool true,.string ⟨#[]⟩,.slice p n3 c3] 83 (0,0))::(bd,dc (u.extract n u.size))::(T++L)):=H15.as kr;refine zl kr<|wV ?_;exact ⟨[.agg #[.bool true,.string ⟨#[]⟩,.slice p n3 c3]],(.agg (b:=b1) (#[.bool true,.string ⟨#[]⟩,.slice p n3 c3]) 83 (0,0) kr (H16.get 0 kr) kr .nil),_,T,⟨_,_,_,_,_,_,rfl,zh5 h0 (by omega) hc hnu hpk hk,hsl,Nat.zero_le _⟩,H16.sub (List.sublist_cons_self ..)⟩
end Go.Proofs.YtbpmjppmpgeejaaGreatDoor
namespace Go.Proofs.YtbpmjppmpgeejaaGreatDoor.D2
open Go Go.RowKit
set_option linter.unusedVariables false
def uN (P:Program)(Bad:List PanicEntry→World→Prop)(S:Value→World→Prop):Result Next→Prop
 | .ok (.value v) w'=>S v w'
 | .ok .skip w'=>S undef w'
 | .ok (.enter f args) w'=>Calls P f args w' fun e w''=>(∃v,e=.returned v∧S v w'')∨(∃ch,e=.panicked ch∧Bad ch w'')
 | _=>False
theorem uN.of {P:Program}{Bad:List PanicEntry→World→Prop}{S:Value→World→Prop}{r:Result Next}(h:Runs P S r):uN P Bad S r:=by
 cases r with
 | halt a w=>exact h
 | ok n w=>
  cases n with
  | enter f args=>exact Calls.mono (h:Calls P f args w _) fun e w'' q=>.inl q
  | _=>exact h
def uO (P:Program)(Bad:List PanicEntry→World→Prop)(ops:Array Oper)(R:(Nat→Gh)→Env)(pre:(Nat→Bool)→(Nat→Gh)→World→Prop)(i:Nat)(d:Option Nat)(f:Gh→Value):Prop:=
 ∀L g w,pre L g w→L i=false→(∀o,ops[i]? =some o→ ∀e∈o.after,Region.binds .any e=true→L e.on=true)→Closed ops L→∃o,ops[i]? =some o∧o.dst=d∧
  ((Region.wanted o (zJ ops (R g))=false∧f (g i)=undef∧pre (put1 L i) g w)∨(Region.wanted o (zJ ops (R g))=true∧uN P Bad (fun v w'=> ∃b,v=f b∧pre (put1 L i) (setN g i b) w') ((execOp (ev (R g)) o).run P w)))
def xB (P:Program)(Bad:List PanicEntry→World→Prop)(ops:Array Oper)(R:Nat→(Nat→Gh)→Env)(pre:(Nat→Bool)→(Nat→Gh)→World→Prop):List (Option Nat×(Gh→Value))→Nat→Prop
 | [],_=>True
 | (d,f)::r,i=>uO P Bad ops (R i) pre i d f∧xB P Bad ops R pre r (i+1)
theorem xB.get {P:Program}{Bad:List PanicEntry→World→Prop}{ops:Array Oper}{R:Nat→(Nat→Gh)→Env}{pre:(Nat→Bool)→(Nat→Gh)→World→Prop} : ∀ {l:List (Option Nat×(Gh→Value))} {k:Nat},xB P Bad ops R pre l k→ ∀ {i:Nat} {d:Option Nat} {f:Gh→Value},l[i]? =some (d,f)→uO P Bad ops (R (k+i)) pre (k+i) d f
 | [],_,_,_,_,_,h=>by simp at h
 | (d,V)::r,k,⟨h,hr⟩,0,_,_,hi=>by simp at hi;obtain ⟨rfl,rfl⟩:=hi;exact h
 | (d,V)::r,k,⟨h,hr⟩,i+1,_,_,hi=>by
  have:=hr.get (i:=i) (by simpa using hi)
  rwa [show k+1+i=k+(i+1) by omega] at this
section
variable {P:Program}{N:Nat}{ops:Array Oper}{Q:Exit→Env→World→Prop}{K:Env→World→Prop}{ρ:Env}{w:World}{vs:List (Option Nat×(Gh→Value))}{pre:(Nat→Bool)→(Nat→Gh)→World→Prop}{Bad:List PanicEntry→World→Prop}
theorem zie (hok:drawOK ops (vs.map (·.1)) N=true)(hg:xB P Bad ops (fun i=>fin_ (vs.take i) ρ) pre vs 0){i:Nat}{L:Array Bool}(hi:i∈Region.ready .any ops L)
 {a:Act} {ρ':Env} {g:Nat→Gh} (ha:Rep a ρ' N) (hm:Mid ρ vs g (ran L) ρ') (hL:L.size=ops.size) (hcl:Closed ops (ran L)) (hp:pre (ran L) g w)
 {QQ:Exit→Act→World→Prop} {KK:Act→World→Prop} (hQ: ∀ch a' ρ'' w',Rep a' ρ'' N→Bad ch w'→QQ (.panic ch) a' w') (hK: ∀a' ρ'' g' w',Rep a' ρ'' N→Mid ρ vs g' (put1 (ran L) i) ρ''→Closed ops (put1 (ran L) i)→pre (put1 (ran L) i) g' w'→KK a' w'):
 wpOp P ops QQ i KK a w:=by
 simp only [drawOK,Bool.and_eq_true,List.all_eq_true,beq_iff_eq] at hok;obtain ⟨⟨⟨hsz,hnd⟩,hN⟩,hops⟩:=hok;obtain ⟨hun,o,ho,hready⟩:=mem_ready.1 hi;have hilt:i<ops.size:=(Array.getElem?_eq_some_iff.1 ho).1
 have hoi:opOK ops (vs.map (·.1)) i o=true:=hops (o,i) (by
  rw [List.mem_iff_getElem?];refine ⟨i,?_⟩;rw [List.getElem?_zipIdx]
  simp [ho])
 simp only [opOK,Bool.and_eq_true] at hoi;obtain ⟨⟨⟨⟨hdst,hsel⟩,hback⟩,hreads⟩,hguard⟩:=hoi;have hivs:i<vs.length:=by rw [List.length_map] at hsz;omega
 obtain ⟨⟨d,f⟩,hv⟩:∃p,vs[i]? =some p:=⟨_,List.getElem?_eq_getElem hivs⟩
 have hd:o.dst=d:=by
  have:=eq_of_beq hdst
  simpa [hv] using this
 have hdN: ∀k,d=some k→k<N:=zT (hN d (List.mem_map.2 ⟨(d,f),List.mem_of_getElem? hv,rfl⟩));have hunL:ran L i=false:=by
  have hlt:i<L.size:=by omega
  unfold ran;simpa [hlt] using hun
 have hcl':Closed ops (put1 (ran L) i):=by
  intro j oj hj hoj e he hb;rcases put1_or hj with rfl | hj
  ·rw [ho] at hoj;obtain rfl:=Option.some.inj hoj;exact put1_of (hready e he hb)
  ·exact put1_of (hcl j oj hj hoj e he hb)
 have hnd':nodupO ((vs.take i).map (·.1))=true:=by rw [List.map_take];exact ud hnd i
 have lookB: ∀t j,j<i→ran L j=true→(vs.map (·.1))[j]? =some (some t)→ρ' t=fin_ (vs.take i) ρ g t:=by
  intro t j hji hLj hdt;rw [List.getElem?_map] at hdt;cases hve:vs[j]? with
  | none=>rw [hve] at hdt;cases hdt
  | some p=>
   obtain ⟨d1,f1⟩:=p;rw [hve] at hdt;simp at hdt;subst hdt;have hvt:(vs.take i)[j]? =some (some t,f1):=by rw [List.getElem?_take,if_pos hji,hve]
   rw [fin_in hnd' hvt];exact (hm t).1 j f1 hLj hve
 have lookA: ∀t,(∀j:Nat,(vs.map (·.1))[j]? =some (some t)→ran L j=false)→(∀j:Nat,j<i→(vs.map (·.1))[j]? ≠some (some t))→ρ' t=fin_ (vs.take i) ρ g t:=by
  intro t hno hnb;have hnot:some t∉(vs.take i).map (·.1):=fun hmem=>by
   obtain ⟨j,hj⟩:=List.mem_iff_getElem?.1 hmem;rw [List.map_take,List.getElem?_take] at hj;split at hj
   ·rename_i hji;exact hnb j hji hj
   ·cases hj
  rw [fin_out hnot];exact (hm t).2 fun j hj heq=>by rw [hno j heq] at hj;cases hj
 have hbk: ∀e∈o.after.toList,Region.binds .any e=true→e.on<i:=fun e he hb=>by
  have:=List.all_eq_true.1 hback e he;rw [hb] at this;simp only [Bool.not_true,Bool.false_or] at this;exact Nat.le_of_ble_eq_true this
 have hops': ∀x∈o.op.operands,ev ρ' x=ev (fin_ (vs.take i) ρ g) x:=by
  intro x hx;cases x with
  | tmp t=>
   have hmem:t∈opTmps o:=List.mem_filterMap.2 ⟨.tmp t,by simpa using hx,rfl⟩;have:=List.all_eq_true.1 hreads t hmem;simp only [Bool.or_eq_true,Bool.not_eq_true'] at this;rcases this with (hc | hb) | hlater
   ·have hnot: ∀j:Nat,(vs.map (·.1))[j]? ≠some (some t):=fun j hj=>by
     have h1:some t∈vs.map (·.1):=List.mem_of_getElem? hj;rw [←Bool.not_eq_true,List.contains_iff_mem] at hc;exact hc h1
    exact lookA t (fun j hj=>absurd hj (hnot j)) (fun j _=>hnot j)
   ·simp only [List.any_eq_true,Bool.and_eq_true,beq_iff_eq] at hb;obtain ⟨e,he,hbi,hdt⟩:=hb;exact lookB t e.on (hbk e he hbi) (hready e (by simpa using he) hbi) hdt
   ·have hl: ∀(j:Nat) oj,ops[j]? =some oj→(vs.map (·.1))[j]? =some (some t)→ ¬j<i∧∃e∈oj.after.toList,Region.binds .any e=true∧e.on=i:=fun j oj hoj hdj=>by
     have h1:=List.all_eq_true.1 hlater (oj,j) (by
      rw [List.mem_iff_getElem?];refine ⟨j,?_⟩;rw [List.getElem?_zipIdx]
      simp [hoj])
     simp only [hdj,beq_self_eq_true,Bool.not_true,Bool.false_or,Bool.and_eq_true,List.any_eq_true,Bool.not_eq_true'] at h1;obtain ⟨h2,e,he,hb,hon⟩:=h1;refine ⟨fun hlt=>?_,e,he,hb,Nat.eq_of_beq_eq_true hon⟩;have h3:Nat.blt j i=true:=Nat.ble_eq_true_of_le hlt;rw [h3] at h2;cases h2
    have hsome: ∀j:Nat,(vs.map (·.1))[j]? =some (some t)→∃oj,ops[j]? =some oj:=fun j hj=>by
     have h1:j<(vs.map (·.1)).length:=(List.getElem?_eq_some_iff.1 hj).1;exact ⟨_,Array.getElem?_eq_getElem (by omega)⟩
    refine lookA t (fun j hj=>?_) (fun j hji hj=>?_)
    ·obtain ⟨oj,hoj⟩:=hsome j hj;obtain ⟨_,e,he,hb,hon⟩:=hl j oj hoj hj;cases hLj:ran L j with
     | false=>rfl
     | true=>
      have:=hcl j oj hLj hoj e (by simpa using he) hb;rw [hon,hunL] at this;cases this
    ·obtain ⟨oj,hoj⟩:=hsome j hj;exact (hl j oj hoj hj).1 hji
  | _=>rfl
 have hexec:execOp (ev ρ') o=execOp (ev (fin_ (vs.take i) ρ g)) o:=execOp_congr o (fun cs b he=>by simp [notSelect,he] at hsel) hops';have hwant:Region.wanted o (zJ ops ρ')=Region.wanted o (zJ ops (fin_ (vs.take i) ρ g)):=by
  unfold Region.wanted;cases hgd:o.guard with
  | none=>rfl
  | some gd=>
   obtain ⟨j,b⟩:=gd;have:zJ ops ρ' j=zJ ops (fin_ (vs.take i) ρ g) j:=by
    unfold zJ;cases hj:(ops[j]?).bind (·.dst) with
    | none=>rfl
    | some t=>
     simp only [hgd,List.any_eq_true,Bool.and_eq_true,beq_iff_eq] at hguard;obtain ⟨e,he,hb,hon⟩:=hguard;have hjds:(vs.map (·.1))[j]? =some (some t):=by
      cases hoj:ops[j]? with
      | none=>simp [hoj] at hj
      | some oj=>
       have hjj:opOK ops (vs.map (·.1)) j oj=true:=hops (oj,j) (by
        rw [List.mem_iff_getElem?];refine ⟨j,?_⟩;rw [List.getElem?_zipIdx]
        simp [hoj])
       simp only [opOK,Bool.and_eq_true,beq_iff_eq] at hjj;have:=hjj.1.1.1.1;simp [hoj] at hj;rw [←this,hj]
     have hlk:=lookB t j (hon▸hbk e he hb) (hon▸hready e (by simpa using he) hb) hjds;simp only [hlk]
   simp only [this]
 have hmid: ∀b,Mid ρ vs (setN g i b) (put1 (ran L) i) (zr ρ' d (f b)):=by
  intro b t;have hds:(vs.map (·.1))[i]? =some d:=by simp [hv]
  by_cases htd:d=some t
  ·subst htd;have e:zr ρ' (some t) (f b) t=f b:=by
    show (bif Nat.beq t t then f b else _)=f b;rw [Nat.beq_refl];rfl
   refine ⟨fun j f1 hj hvj=>?_,fun hn=>absurd hds (hn i (put1_self _ _))⟩;have hji:j=i:=nodupO_inj hnd (by rw [List.getElem?_map,hvj];rfl) hds;subst hji;rw [hv] at hvj;obtain rfl:f1=f:=by simpa using hvj.symm
   rw [e];unfold setN;rw [Nat.beq_refl];rfl
  ·have e:zr ρ' d (f b) t=ρ' t:=by
    cases d with
    | none=>rfl
    | some k=>
     have hne:Nat.beq t k=false:=by
      cases hb:Nat.beq t k with
      | false=>rfl
      | true=>exact absurd (by rw [Nat.eq_of_beq_eq_true hb]) htd
     show (bif Nat.beq t k then f b else ρ' t)=ρ' t;rw [hne];rfl
   rw [e];refine ⟨fun j f1 hj hvj=>?_,fun hn=>(hm t).2 fun j hj=>hn j (put1_of hj)⟩;have hji:j≠i:=by
    rintro rfl;rw [hv] at hvj;have:d=some t:=by simpa using congrArg (Option.map (·.1)) hvj
    exact htd this
   have hLj:ran L j=true:=(put1_or hj).resolve_left hji;have hN':setN g i b j=g j:=by
    unfold setN;cases hb:Nat.beq j i with
    | false=>rfl
    | true=>exact absurd (Nat.eq_of_beq_eq_true hb) hji
   rw [hN'];exact (hm t).1 j f1 hLj hvj
 have hgi:=xB.get hg hv;rw [Nat.zero_add] at hgi
 obtain ⟨o',ho',hd',hrun⟩:=hgi (ran L) g w hp hunL (fun o1 ho1 e he hb=>by
  rw [ho] at ho1;obtain rfl:=Option.some.inj ho1;exact hready e he hb) hcl
 have:o'=o:=by rw [ho] at ho';exact (Option.some.inj ho').symm
 subst this;have hput: ∀v,Rep (a.put o'.dst v) (zr ρ' d v) N:=fun v=>by
  have:=ha.put o'.dst (fun k hk=>hdN k (by rw [←hd,hk])) v
  rwa [hd] at this ⊢
 unfold wpOp;simp only [ho,jf ha,hwant];rcases hrun with ⟨hwf,hV,hp'⟩ | ⟨hwt,hR⟩
 ·simp only [hwf,Bool.false_eq_true,if_false];refine hK _ _ g _ (hput undef) ?_ hcl' hp';have:=hmid (g i)
  rwa [setN_self,hV] at this
 ·simp only [hwt,if_true];refine .inl ?_;unfold Oper.wp;rw [ha.eval,hexec];generalize (execOp (ev (fin_ (vs.take i) ρ g)) o').run P w=r at hR;cases r with
  | halt h w'=>exact hR.elim
  | ok n w'=>
   cases n with
   | value v=>obtain ⟨b,rfl,hb⟩:=hR;exact hK _ _ _ _ (hput _) (hmid b) hcl' hb
   | skip=>obtain ⟨b,hu,hb⟩:=hR;exact hK _ _ _ _ (by have:=hput undef;rwa [hu] at this ⊢) (hmid b) hcl' hb
   | enter f' args=>
    refine Calls.mono hR fun e w'' he=>?_;rcases he with ⟨v,rfl,b,rfl,hb⟩ | ⟨ch,rfl,hb⟩
    ·exact hK _ _ _ _ (hput _) (hmid b) hcl' hb
    ·exact hQ ch _ _ _ ha hb
   | _=>exact hR.elim
theorem zif (hB: ∀ch ρ w,Bad ch w→Q (.panic ch) ρ w)(hok:drawOK ops (vs.map (·.1)) N=true)(hg:xB P Bad ops (fun i=>fin_ (vs.take i) ρ) pre vs 0)
 (hfin: ∀L g w',(∀i,i<ops.size→L i=true)→pre L g w'→Q .normal (fin_ vs ρ g) w'):
 ∀(fuel:Nat) (L:Array Bool),L.size=ops.size→(L.toList.countP (! ·))≤fuel→ ∀(a:Act) (ρ':Env) (g:Nat→Gh) (w:World),Rep a ρ' N→Mid ρ vs g (ran L) ρ'→Closed ops (ran L)→pre (ran L) g w→
  wpAny P .any ops (qd N Q) fuel L a w:=by
 have hdone: ∀(L:Array Bool),L.size=ops.size→Region.ready .any ops L=[]→ ∀(a:Act) (ρ':Env) (g:Nat→Gh) (w:World),Rep a ρ' N→Mid ρ vs g (ran L) ρ'→pre (ran L) g w→qd N Q .normal a w:=by
  intro L hL hr a ρ' g w ha hm hp;have hok':=hok;simp only [drawOK,Bool.and_eq_true,List.all_eq_true,beq_iff_eq] at hok';obtain ⟨⟨⟨hsz,hnd⟩,hN⟩,hops⟩:=hok';have hall: ∀i,i<ops.size→ran L i=true:=by
   intro i
   induction i using Nat.strongRecOn with
   | _ i ih=>
    intro hi;cases hb:ran L i with
    | true=>rfl
    | false=>
     have hmem:i∈Region.ready .any ops L:=by
      refine mem_ready.2 ⟨?_,ops[i],Array.getElem?_eq_getElem hi,fun e he hbd=>?_⟩
      ·have hlt:i<L.size:=by omega
       unfold ran at hb;simp [hlt] at hb ⊢;exact hb
      ·have hoi:opOK ops (vs.map (·.1)) i ops[i]=true:=hops (ops[i],i) (by
        rw [List.mem_iff_getElem?];refine ⟨i,?_⟩;rw [List.getElem?_zipIdx]
        simp [hi])
       simp only [opOK,Bool.and_eq_true] at hoi;have:=List.all_eq_true.1 hoi.1.1.2 e (by simpa using he);rw [hbd] at this;have hlt:e.on<i:=Nat.le_of_ble_eq_true this;exact ih e.on hlt (by omega)
     rw [hr] at hmem;cases hmem
  have heq:ρ'=fin_ vs ρ g:=by
   funext t;by_cases ht:some t∈vs.map (·.1)
   ·obtain ⟨i,hi,hit⟩:=List.getElem_of_mem ht;have hi':i<vs.length:=by simpa using hi
    obtain ⟨⟨d,f⟩,hv⟩:∃p,vs[i]? =some p:=⟨_,List.getElem?_eq_getElem hi'⟩
    have hd:d=some t:=by
     rw [List.getElem_map] at hit;rw [List.getElem?_eq_getElem hi'] at hv;rw [Option.some.inj hv] at hit;exact hit
    subst hd;rw [fin_in hnd hv];exact (hm t).1 i f (hall i (by rw [hsz];exact hi)) hv
   ·rw [fin_out ht];exact (hm t).2 fun j hj heq=>ht (List.mem_of_getElem? heq)
  exact ⟨_,ha,heq▸hfin (ran L) g w hall hp⟩
 intro fuel
 induction fuel with
 | zero=>
  intro L hL hc a ρ' g w ha hm hcl hp;have hr:Region.ready .any ops L=[]:=by
   cases hr:Region.ready .any ops L with
   | nil=>rfl
   | cons i r=>
    have hi:i∈Region.ready .any ops L:=by rw [hr];exact List.mem_cons_self
    obtain ⟨hun,o,ho,_⟩:=mem_ready.1 hi;have hlt:i<L.size:=by rw [hL];exact (Array.getElem?_eq_some_iff.1 ho).1
    have:L.toList.countP (! ·)=0:=by omega
    rw [List.countP_eq_zero] at this;have h1:=this L[i] (by simp);simp [hlt] at hun h1;rw [hun] at h1;cases h1
  exact ⟨hr,hdone L hL hr a ρ' g w ha hm hp⟩
 | succ fuel ih=>
  intro L hL hc a ρ' g w ha hm hcl hp;refine ⟨fun hr=>hdone L hL hr a ρ' g w ha hm hp,fun i hi=>?_⟩;obtain ⟨hun,o,ho,_⟩:=mem_ready.1 hi;have hlt:i<L.size:=by rw [hL];exact (Array.getElem?_eq_some_iff.1 ho).1
  refine zie hok hg hi ha hm hL hcl hp (fun ch a' ρ'' w' ha' hb=>⟨ρ'',ha',hB ch ρ'' w' hb⟩) fun a' ρ'' g' w' ha' hm' hcl' hp'=>ih (L.setIfInBounds i true) (by simpa using hL) ?_ a' ρ'' g' w' ha' (by rw [ran_set hlt];exact hm') (by rw [ran_set hlt];exact hcl') (by rw [ran_set hlt];exact hp');have hf:L[i]=false:=by simpa [hlt] using hun
  have hc2:(L.setIfInBounds i true).toList.countP (! ·)+1=L.toList.countP (! ·):=by
   rw [Array.toList_setIfInBounds];have hl:i<L.toList.length:=by simpa using hlt
   have hfl:L.toList[i]=false:=by simpa using hf
   have hpos:0<L.toList.countP (! ·):=List.countP_pos_iff.2 ⟨_,List.getElem_mem hl,by rw [hfl];rfl⟩;have hset:=List.countP_set (p:=fun b:Bool=> !b) (l:=L.toList) (i:=i) (a:=true) hl;rw [hfl] at hset;simp only [Bool.not_true,Bool.false_eq_true,if_false,Bool.not_false,if_true] at hset;omega
  omega
theorem WP.drawX {id:Nat}(hB: ∀ch ρ w,Bad ch w→Q (.panic ch) ρ w)(hm:P.follows .mixedOrders=true)(hok:drawOK ops (vs.map (·.1)) N=true)(hp:pre (fun _=>false) (fun _=>default) w.drew)(hg:xB P Bad ops (fun i=>fin_ (vs.take i) ρ) pre vs 0)
 (hfin: ∀L g w',(∀i,i<ops.size→L i=true)→pre L g w'→Q .normal (fin_ vs ρ g) w'):WP P N (.region id ops true) Q ρ w:=fun a ha=>
 have hno:ran (Array.replicate ops.size false)=fun _=>false:=funext fun i=>by
  show (Array.replicate ops.size false).getD i false=false;simp only [Array.getD_eq_getD_getElem?,Array.getElem?_replicate];split<;>rfl
 wp_region_any hm (zif hB hok hg hfin ops.size _ (by simp) (by have:= @List.countP_le_length Bool (! ·) (List.replicate ops.size false);simpa using this) a ρ (fun _=>default) _ ha
  (fun t=>⟨fun i f hi _=>(by rw [hno] at hi;cases hi),fun _=>rfl⟩) (fun j o hj=>(by rw [hno] at hj;cases hj)) (by rw [hno];exact hp))
theorem g_draw0X {c:Code}(hB: ∀ch ρ w,Bad ch w→Q (.panic ch) ρ w)(l:List Nat)(vs:List (Option Nat×(Gh→Value)))(pre:(Nat→Bool)→(Nat→Gh)→World→Prop)(hc:qL c=some (l,true))(hm:P.follows .mixedOrders=true)(hok:drawOK (zo c) (vs.map (·.1)) N=true)(hp:pre (fun _=>false) (fun _=>default) w.drew)
 (hg:xB P Bad (zo c) (fun i=>fin_ (vs.take i) ρ) pre vs 0) (hfin: ∀L g w',(∀i,i<(zo c).size→L i=true)→pre L g w'→Q .normal (fin_ vs ρ g) w'):WP P N c Q ρ w:=by
 obtain ⟨id,he,hl⟩:=xN hc;rw [he];exact WP.drawX hB hm hok hp hg hfin
end
theorem uO.of {P:Program}{Bad:List PanicEntry→World→Prop}{ops:Array Oper}{R:(Nat→Gh)→Env}{pre:(Nat→Bool)→(Nat→Gh)→World→Prop}{i:Nat}{d:Option Nat}{f:Gh→Value}(h:Gives P ops R pre i d f):uO P Bad ops R pre i d f:=fun L g w h1 h2 h3 h4=>by
 obtain ⟨o,ho,hd,q⟩:=h L g w h1 h2 h3 h4;exact ⟨o,ho,hd,q.imp id fun ⟨a,b⟩=>⟨a,uN.of b⟩⟩
end Go.Proofs.YtbpmjppmpgeejaaGreatDoor.D2
namespace Go.Proofs.YtbpmjppmpgeejaaGreatDoor
open Go Go.RowKit
set_option linter.unusedVariables false
abbrev xc (x:X3):Array Value:=#[.bool x.l,.string x.s,.slice x.p x.n x.c]
theorem zd1 (x:X3):(xc x).toList=cells3 [x]:=rfl
section
variable {P:Program}{ρ:Env}{w w0:World}{B:Nat}{l:List (Nat×Obj)}
theorem zd2 (HS:St B w0 w l){t e bytes:Nat}{s x:Operand}{o:Oper}{j k b bx n cap c:Nat}{cur:Array Value}{L:List X3}{y:X3}(ht:yy P t=some (e,3,bytes))(ho:o.op=yq t s x)
 (hs:ev ρ s=.slice (some ⟨b,0,none⟩) n cap) (hj:l[j]? =some (b,.cells cur e (0,0))) (hr:Rw 3 cur cap n (cells3 L)) (hx:ev ρ x=.slice (some ⟨bx,0,none⟩) 1 c) (hk:l[k]? =some (bx,.cells (xc y) e (0,0)))
 (hb:(n+1)*bytes≤0x800000000000) (hm:n+1≤maxLen):∃b' cap' cur' w',(execOp (ev ρ) o).run P w=.ok (.value (.slice (some ⟨b',0,none⟩) (n+1) cap')) w'∧St B w0 w' (l.set j (b',.cells cur' e (0,0)))∧Rw 3 cur' cap' (n+1) (cells3 (L++ [y])):=by
 obtain ⟨it,z,hu,hi,hz,hsz,hby,hzs,h0⟩:=qu ht;have hnews: ∀q u,(cells3 [y])[q]? =some u→w.cell? ((⟨bx,0,none⟩:Addr).add q)=some u:=fun q u hq=>by
  rw [←zd1,Array.getElem?_toList] at hq;rw [qt,Nat.zero_add];simp [World.cell?,HS.get k hk,hq]
 obtain ⟨v',w',hrun,hown,hgr,hnil,hblk⟩:=run_append_own_at (P:=P) w B t o.type e it z 3 bytes hu hi hz hsz hby hzs h0 _ n (cells3 L) (hr.owns (HS.ge j hj) (HS.get j hj)) ⟨bx,0,none⟩ 1 c (cells3 [y]) (jJ [y]) hnews (uy [y]) hm hb HS.le;have hown':=hown;rcases hown'.2 with ⟨hv,_⟩|⟨g,cap',cur',rfl,hbg,hg,hnc,hcm,hcs,htk⟩
 ·exact absurd (hnil.1 hv).1 (by simp)
 ·have hgb:g=b∨g=w.heap.size:=by
   rcases hblk with hq|hq
   ·left;injection hq
   ·right;injection hq
  refine ⟨g,cap',cur',w',?_,HS.grown j hj hgr hgb hg,?_⟩
  ·unfold execOp;simp only [ho,yq,resolve,invoke,builtin,Sem.run_bind,Sem.run_pure,Result.andThen_ok,List.map_toArray,List.map_cons,List.map_nil,hs,hx,hrun]
  ·rw [ux];exact ⟨hown.1,hnc,hcm,htk,hcs⟩
theorem zd3 (HS:St B w0 w l){t e bytes:Nat}{s x:Operand}{o:Oper}{k bx c:Nat}{y:X3}(ht:yy P t=some (e,3,bytes))(ho:o.op=yq t s x)
 (hs:ev ρ s=.slice none 0 0) (hx:ev ρ x=.slice (some ⟨bx,0,none⟩) 1 c) (hk:l[k]? =some (bx,.cells (xc y) e (0,0)))
 (hb:(0+1)*bytes≤0x800000000000):∃b' cap' cur' w',(execOp (ev ρ) o).run P w=.ok (.value (.slice (some ⟨b',0,none⟩) 1 cap')) w'∧St B w0 w' ((b',.cells cur' e (0,0))::l)∧Rw 3 cur' cap' 1 (cells3 [y]):=by
 obtain ⟨it,z,hu,hi,hz,hsz,hby,hzs,h0⟩:=qu ht;have hnews: ∀q u,(cells3 [y])[q]? =some u→w.cell? ((⟨bx,0,none⟩:Addr).add q)=some u:=fun q u hq=>by
  rw [←zd1,Array.getElem?_toList] at hq;rw [qt,Nat.zero_add];simp [World.cell?,HS.get k hk,hq]
 obtain ⟨v',w',hrun,hown,hgr,hnil,hblk⟩:=run_append_own_at (P:=P) w B t o.type e it z 3 bytes hu hi hz hsz hby hzs h0 (.slice none 0 0) 0 [] (World.ownsRow_nil w B e 3) ⟨bx,0,none⟩ 1 c (cells3 [y]) (jJ [y]) hnews (uy [y]) (by unfold maxLen;omega) hb HS.le;have hown':=hown;rcases hown'.2 with ⟨hv,_⟩|⟨g,cap',cur',rfl,hbg,hg,hnc,hcm,hcs,htk⟩
 ·exact absurd (hnil.1 hv).2 (by simp)
 ·have hgb:g=w.heap.size:=by
   rcases hblk with hq|hq
   ·simp [Value.ownBlock] at hq
   ·injection hq
  have hbel:Below w.heap.size w w':=(Below.refl _ w).grown hgr (Nat.le_refl _) (fun k hk=>by simp [Value.ownBlock] at hk);have HS':=HS.add hbel (by omega) hg;rw [Nat.zero_add] at hnc htk;refine ⟨g,cap',cur',w',?_,HS',⟨by rw [jJ];rfl,hnc,hcm,htk,hcs⟩⟩;unfold execOp;simp only [ho,yq,resolve,invoke,builtin,Sem.run_bind,Sem.run_pure,Result.andThen_ok,List.map_toArray,List.map_cons,List.map_nil,hs,hx,hrun]
end
abbrev xo (v:Value):Obj:=.cells #[.bool true,.string ⟨#[]⟩,v] 83 (0,0)
abbrev r0:Obj:=.cells #[.bool false,.string ⟨#[]⟩,.slice none 0 0] 83 (0,0)
def okX (t u:ByteArray)(x:X3)(T:List (Nat×Obj)):Prop:=yc t x.l x.s x.k u∧SlIn T x.p x.n x.k∧x.s.size≤t.size
def RowSt (p:Option Addr)(n c:Nat)(row:List (Nat×Obj))(L:List X3):Prop:=(p=none∧n=0∧c=0∧row=[]∧L=[])∨∃b cur,p=some ⟨b,0,none⟩∧row=[(b,.cells cur 83 (0,0))]∧Rw 3 cur c n (cells3 L)
def qk (B:Nat)(w0:World)(t:ByteArray)(b2 b3 b4:Nat)(p:Option Addr)(n c:Nat)(row:List (Nat×Obj))(M:List X3)(L0:List (Nat×Obj)):(Nat→Bool)→(Nat→D2.Gh)→World→Prop:=fun L g w=>
 bif L 4 then ∃u T x,okX t u x T∧Rw 3 (g 4).cur (g 4).cap (n+1) (cells3 (M++ [x]))∧St B w0 w ((b4,dc u)::(b3,xo (bif L 6 then .slice (some ⟨(g 4).b,0,none⟩) (n+1) (g 4).cap else .slice p n c))::(b2,r0)::((g 4).b,.cells (g 4).cur 83 (0,0))::(T++L0))
 else bif L 3 then ∃u T x,okX t u x T∧St B w0 w (((g 3).b,.cells (xc x) 83 (0,0))::(b4,dc u)::(b3,xo (.slice p n c))::(b2,r0)::(row++(T++L0)))
 else bif L 2 then ∃u T x,okX t u x T∧(g 2).cur=xc x∧St B w0 w ((b4,dc u)::(b3,xo (.slice p n c))::(b2,r0)::(row++(T++L0)))
 else St B w0 w ((b4,dc t)::(b3,xo (.slice p n c))::(b2,r0)::(row++L0))
section
variable {B:Nat}{w0:World}{t:ByteArray}{b2 b3 b4:Nat}{p:Option Addr}{n c:Nat}{row:List (Nat×Obj)}{M:List X3}{L0:List (Nat×Obj)}{L:Nat→Bool}{g:Nat→D2.Gh}{w:World}
theorem qk.keep {i:Nat}{y:D2.Gh}(hi:Nat.beq 2 i=false)(h3:Nat.beq 3 i=false)(h4:Nat.beq 4 i=false)(h6:Nat.beq 6 i=false)(h:qk B w0 t b2 b3 b4 p n c row M L0 L g w):qk B w0 t b2 b3 b4 p n c row M L0 (D2.put1 L i) (D2.setN g i y) w:=by
 have e2:D2.put1 L i 2=L 2:=by unfold D2.put1;rw [hi];rfl
 have e3:D2.put1 L i 3=L 3:=by unfold D2.put1;rw [h3];rfl
 have e4:D2.put1 L i 4=L 4:=by unfold D2.put1;rw [h4];rfl
 have e6:D2.put1 L i 6=L 6:=by unfold D2.put1;rw [h6];rfl
 have g2:D2.setN g i y 2=g 2:=by unfold D2.setN;rw [hi];rfl
 have g3:D2.setN g i y 3=g 3:=by unfold D2.setN;rw [h3];rfl
 have g4:D2.setN g i y 4=g 4:=by unfold D2.setN;rw [h4];rfl
 unfold qk at h ⊢;rw [e2,e3,e4,e6,g2,g3,g4];exact h
theorem qk.x (h4:L 4=false)(h:qk B w0 t b2 b3 b4 p n c row M L0 L g w):∃l,St B w0 w l∧(b3,xo (.slice p n c))∈l:=by
 unfold qk at h;rw [h4] at h;cases h3:L 3 with
 | true=>rw [h3] at h;obtain ⟨u,T,x,_,h⟩:=h;exact ⟨_,h,by simp⟩
 | false=>
  rw [h3] at h;cases h2:L 2 with
  | true=>rw [h2] at h;obtain ⟨u,T,x,_,_,h⟩:=h;exact ⟨_,h,by simp⟩
  | false=>rw [h2] at h;exact ⟨_,h,by simp⟩
end
theorem zd4 (x:X3): ∀M:List X3,wrF (toFo (M++ [x]))=wrF (toFo M)++wr1 x.l x.s (szF x.k) (wrF x.k)
 | []=>by simp [toFo,wrF]
 | m::M=>by simp only [List.cons_append,toFo,wrF,zd4 x M,List.append_assoc]
theorem zbA (x:X3)(hm:mixed x.l x.s x.k.len=false)(hp:pureF x.k=true): ∀M:List X3,pureF (toFo M)=true→pureF (toFo (M++ [x]))=true
 | [],_=>by simp [toFo,pureF,hm,hp]
 | m::M,h=>by
  simp only [toFo,pureF,Bool.and_eq_true] at h;simp only [List.cons_append,toFo,pureF,Bool.and_eq_true];exact ⟨h.1,zbA x hm hp M h.2⟩
theorem AllIn.mono {T T':List (Nat×Obj)}{M:List X3}(h:AllIn T M)(hs: ∀e∈T,e∈T'):AllIn T' M:=fun x hx=>⟨(h x hx).1.mono hs,(h x hx).2⟩
theorem AllIn.snoc {T:List (Nat×Obj)}{M:List X3}{x:X3}(h:AllIn T M)(hx:SlIn T x.p x.n x.k)(hz:x.s.size≤0x800000000000):AllIn T (M++ [x]):=fun y hy=>by
 rcases List.mem_append.1 hy with q|q
 ·exact h y q
 ·obtain rfl:=List.mem_singleton.1 q;exact ⟨hx,hz⟩
structure xC (t t':ByteArray)(p:Option Addr)(n c:Nat)(row:List (Nat×Obj))(M:List X3)(T:List (Nat×Obj)):Prop where
 row:RowSt p n c row M
 size:n+t'.size≤t.size
 all:tl t=wrF (toFo M)++tl t'
 pur:pureF (toFo M)=true
 inn:AllIn T M
 rest: ∀k,pureF k=true→tl t=wrF k→∃k',pureF k'=true∧tl t'=wrF k'
theorem xC.bad {t t':ByteArray}{p:Option Addr}{n c:Nat}{row:List (Nat×Obj)}{M:List X3}{T:List (Nat×Obj)}(h:xC t t' p n c row M T)(h0:t'.size≠0)(hb:qE t'):uH t:=fun k hp he=>by
 obtain ⟨k',hp',he'⟩:=h.rest k hp he;cases k' with
 | nil=>have:=congrArg List.length he';rw [zt] at this;simp [wrF] at this;exact h0 (by rw [this];rfl)
 | cons l s k r=>
  simp only [pureF,Bool.and_eq_true,Bool.not_eq_true'] at hp';exact hb l s k (wrF r) hp'.1.1 hp'.1.2 he'
theorem xC.next {t t' u:ByteArray}{p:Option Addr}{n c:Nat}{row:List (Nat×Obj)}{M:List X3}{T T2:List (Nat×Obj)}{x:X3}{b cap:Nat}{cur:Array Value}(ht:t.size≤100000)(h:xC t t' p n c row M T)(hx:okX t' u x T2)(hr:Rw 3 cur cap (n+1) (cells3 (M++ [x]))):
 u.size<t'.size∧xC t u (some ⟨b,0,none⟩) (n+1) cap [(b,.cells cur 83 (0,0))] (M++ [x]) (T2++T):=by
 obtain ⟨⟨hm,hp,hi⟩,hs,hz⟩:=hx;have hlen:=congrArg List.length hi;have h1:=(jz hm hp rfl).1;rw [zt,List.length_append,zt] at hlen;have hsz:=h.size;refine ⟨by omega,.inr ⟨b,cur,rfl,rfl,hr⟩,by omega,?_,zbA x hm hp M h.pur,?_,?_⟩
 ·rw [h.all,hi,zd4,List.append_assoc]
 ·exact (h.inn.mono fun e he=>List.mem_append_right _ he).snoc (hs.mono fun e he=>List.mem_append_left _ he) (by omega)
 ·intro k hpk hk;obtain ⟨k',hp',he'⟩:=h.rest k hpk hk;exact zdT (by omega) ⟨hm,hp,hi⟩ hp' he'
theorem xC.done {t t':ByteArray}{p:Option Addr}{n c:Nat}{row:List (Nat×Obj)}{M:List X3}{T:List (Nat×Obj)}(ht:t.size≤100000)(h:xC t t' p n c row M T)(h0:t'=⟨#[]⟩):zdZ t (.agg #[.bool true,.string ⟨#[]⟩,.slice p n c]) (row++T):=by
 have hsz:=h.size;refine ⟨p,n,c,toFo M,rfl,?_,h.pur,?_⟩
 ·rw [h.all,h0];exact List.append_nil _
 ·rcases h.row with ⟨rfl,rfl,rfl,rfl,rfl⟩|⟨b,cur,rfl,rfl,hr⟩
  ·exact SlIn.none _
  ·exact hr.slIn (b:=b) (ty:=83) (fz:=(0,0)) (by simp) (h.inn.mono fun e he=>List.mem_append_right _ he) (by omega)
theorem zd5 (t:ByteArray)(ht:t.size≤100000)(hi: ∀(bd:Nat) (u:ByteArray),u.size≤t.size→ky bd u):zbz t:=by
 refine FnY.intro (c:=zk Tryz.f142) [.cell 2 83] 18 Tryz.func142 kr kr kr fun B w0 w L H0=>zg [0] kr kr<|zB H0 (some 2) 83 (.agg #[.bool false,.string ⟨#[]⟩,.slice none 0 0]) kr kr kr ?_;intro b2 w1 H1;refine zc<|zg [0,1,2,3,4,5,6] kr kr<|zm (some 5) (.agg #[.bool true,.string ⟨#[]⟩,.slice none 0 0]) (fun w=>by kernel_rfl) kr<|zm (some 6) (.string t) (fun w=>by kernel_rfl) kr<|zm (some 7) (.agg #[.string t]) (fun w=>by kernel_rfl) kr<|zB H1 (some 3) 83 (.agg #[.bool false,.string ⟨#[]⟩,.slice none 0 0]) kr kr kr ?_;intro b3 w2 H2;refine zB H2 (some 4) 149 (.agg #[.string ⟨#[]⟩]) kr kr kr ?_;intro b4 w3 H3;refine rp [.s 1,.s 0] H3 kr fun gs4 w4 H4=>wX []<|zc ?_;have H5:St B w0 w4 ((b4,dc t)::(b3,xo (.slice none 0 0))::(b2,r0)::([]++([]++L))):=H4.as kr;refine zb kr<|zn 0 kr<|zV kr (fun mz ρ ww=> ∃(t':ByteArray) (p:Option Addr) (n c:Nat) (row:List (Nat×Obj)) (M:List X3) (T:List (Nat×Obj)),t'.size=mz∧xC t t' p n c row M T∧St B w0 ww ((b4,dc t')::(b3,xo (.slice p n c))::(b2,r0)::(row++(T++L)))∧Is [(0,.string t),(2,.pointer (some ⟨b2,0,none⟩)),(3,.pointer (some ⟨b3,0,none⟩)),(4,.pointer (some ⟨b4,0,none⟩))] ρ) t.size ⟨t,none,0,0,[],[],[],rfl,⟨.inl ⟨rfl,rfl,rfl,rfl,rfl⟩,by omega,rfl,rfl,(fun _ h=>nomatch h),fun k hp he=>⟨k,hp,he⟩⟩,H5,(Is.of ⟨kr,kr,kr,kr,trivial⟩)⟩ ?_;rintro _ _ w5 ⟨t',p,n,c,row,M,T,rfl,hI,H6,_,rfl⟩;have hsz:=hI.size;by_cases h0:t'=⟨#[]⟩
 ·refine zb kr<|rS [.v,.l 0,.E (.bool (!(ByteArray.toList t'==ByteArray.toList (⟨#[]⟩)))) (.bool false) (za (by rw [zL t' (⟨#[]⟩) h0];rfl))] H6 kr fun gs5 w6 H7=>zi kr kr<|zN 0 kr<|wW<|rS [.l 1,.s 2] H7 kr fun gs6 w7 H8=>?_;have H9:St B w0 w7 ((b4,dc t')::(b3,xo (.slice p n c))::(b2,xo (.slice p n c))::(row++(T++L))):=H8.as kr;refine zl kr<|wV ?_;refine ⟨[.agg #[.bool true,.string ⟨#[]⟩,.slice p n c]],(.agg (b:=b2) (#[.bool true,.string ⟨#[]⟩,.slice p n c]) 83 (0,0) kr (H9.get 2 kr) kr .nil),row++T,hI.done ht h0,?_⟩;rw [List.append_assoc];exact H9.sub (List.Sublist.cons _ (List.Sublist.cons _ (List.sublist_cons_self ..)))
 ·have hz:=kt h0;refine zb kr<|rS [.v,.l 0,.E (.bool (!(ByteArray.toList t'==ByteArray.toList (⟨#[]⟩)))) (.bool true) (za (by rw [yA t' (⟨#[]⟩) h0];rfl))] H6 kr fun gs5 w6 H7=>zf kr kr<|zj kr<|wW<|zn 1 kr ?_;have H8:St B w0 w6 ((b4,dc t')::(b3,xo (.slice p n c))::(b2,r0)::(row++(T++L))):=H7.as kr;refine D2.g_draw0X (Bad:=fun ch w'=>ch=chF∧uH t∧St B w0 w' L) (fun ch ρ w h=>h) [0,1,2,3,4,5,6] [(some 11,fun _=>.pointer (some ⟨b3,2,none⟩)),(some 12,fun _=>.slice p n c),(some 13,fun y=>.agg y.cur),(some 14,fun y=>.slice (some ⟨y.b,0,none⟩) 1 1),(some 15,fun y=>.slice (some ⟨y.b,0,none⟩) (n+1) y.cap),(some 16,fun _=>.pointer (some ⟨b3,2,none⟩)),(none,fun _=>undef)] (qk B w0 t' b2 b3 b4 p n c row M (T++L)) kr kr kr H8.drew ⟨?_,?_,?_,?_,?_,?_,?_,trivial⟩ ?_
  ·exact .of (D2.gv_val (fun L g w h=>by have:=h.keep (i:=0) (y:=g 0) rfl rfl rfl rfl;rwa [D2.setN_self] at this) (fun g w=>by kernel_rfl))
  ·refine .of (D2.gives_of fun L g w hp hN=>?_);obtain ⟨o,ho,hd,hw,hop⟩:=zE (show opk _ 1 _=some (some 12,true,.load 81 (.tmp 11)) by kernel_rfl);obtain ⟨l,HS,hm⟩:=hp.x (hN.post 4 kr);refine ⟨o,ho,hd,.inr ⟨hw,?_⟩⟩;rw [zdg (off:=2) (v:=.slice p n c) (HS.own _ hm).2 kr kr kr o hop];exact ⟨g 1,rfl,hp.keep rfl rfl rfl rfl⟩
  ·intro L1 g w hp hn hr hc;have hN:D2.Now _ 2 L1:=⟨hn,hr,hc⟩
   have h3:=hN.post 3 kr;have h4:=hc.no 3 4 kr h3;obtain ⟨o,ho,hd,hw,hrun⟩:=zU (show opv _ _ 2 _ w=some (some 13,true,.ok (.enter 120 #[.pointer (some ⟨b4,0,none⟩)]) w) by kernel_rfl);refine ⟨o,ho,hd,.inr ⟨hw,?_⟩⟩;rw [hrun];unfold qk at hp;rw [h4,h3,hn] at hp;refine (hi b4 t' (by omega) B w0 w _ hp).mono fun e w' q=>?_;rcases q with ⟨v,u,T2,rfl,⟨l,s,p1,n1,c1,k,rfl,q1,q2,q3⟩,HS⟩ | ⟨rfl,hb,HS⟩
   ·refine .inl ⟨_,rfl,{ cur:=#[.bool l,.string s,.slice p1 n1 c1] },rfl,?_⟩;unfold qk;rw [show D2.put1 L1 2 4=false from h4,show D2.put1 L1 2 3=false from h3,show D2.put1 L1 2 2=true from rfl];exact ⟨u,T2,⟨l,s,p1,n1,c1,k⟩,⟨q1,q2,q3⟩,rfl,HS.perm (List.Perm.cons _ (List.perm_append_comm_assoc ((b3,xo (.slice p n c))::(b2,r0)::row) T2 (T++L)))⟩
   ·exact .inr ⟨chF,rfl,rfl,hI.bad hz hb,HS.sub (List.Sublist.cons _ (List.Sublist.cons _ ((List.sublist_append_right _ _).trans (List.sublist_append_right _ _))))⟩
  ·refine .of (D2.gives_of fun L1 g w hp hN=>?_);have h2:=hN.bef 2 kr;have h4:=hN.post 4 kr;unfold qk at hp;rw [h4,hN.1,h2] at hp;obtain ⟨u,T2,x,hx,hcur,HS⟩:=hp;obtain ⟨o,ho,hd,hw,hrun⟩:=zU (show opv _ _ 3 (yN [(11,.pointer (some ⟨b3,2,none⟩)),(12,.slice p n c),(13,.agg (g 2).cur)] _) w=some (some 14,true,.ok (.value (.slice (some ⟨w.heap.size,0,none⟩) 1 1)) (w.alloc (.cells (xc x) 83))) by rw [hcur];kernel_rfl);refine ⟨o,ho,hd,.inr ⟨hw,?_⟩⟩;refine (congrArg (D2.Runs _ _) hrun).mpr ?_;refine ⟨{ b:=w.heap.size },rfl,?_⟩;unfold qk;rw [show D2.put1 L1 3 4=false from h4,show D2.put1 L1 3 3=true from rfl];exact ⟨u,T2,x,hx,HS.alloc _⟩
  ·refine .of (D2.gives_of fun L1 g w hp hN=>?_);have h3:=hN.bef 3 kr;have h6:=hN.post 6 kr;unfold qk at hp;rw [hN.1,h3] at hp;obtain ⟨u,T2,x,hx,HS⟩:=hp;obtain ⟨o,ho,hd,hw,hop⟩:=zE (show opk _ 4 _=some (some 15,true,yq 81 (.tmp 12) (.tmp 14)) by kernel_rfl);refine ⟨o,ho,hd,.inr ⟨hw,?_⟩⟩;rcases hI.row with ⟨rfl,rfl,rfl,rfl,rfl⟩ | ⟨b,cur,rfl,rfl,hrw⟩
   ·obtain ⟨b',cap',cur',w',hrun,HS',hr'⟩:=zd3 HS (t:=81) (e:=83) (bytes:=48) (k:=0) (bx:=(g 3).b) (c:=1) (y:=x) kr hop kr kr rfl (by omega);rw [hrun];refine ⟨{ b:=b',cap:=cap',cur:=cur' },rfl,?_⟩;unfold qk;rw [show D2.put1 L1 4 4=true from rfl,show D2.put1 L1 4 6=false from h6];refine ⟨u,T2,x,hx,hr',?_⟩;exact (HS'.sub (List.Sublist.cons_cons _ (List.sublist_cons_self ..))).perm (List.perm_middle (l₁:=[(b4,dc u),(b3,xo (.slice none 0 0)),(b2,r0)]))
   ·obtain ⟨b',cap',cur',w',hrun,HS',hr'⟩:=zd2 HS (t:=81) (e:=83) (bytes:=48) (j:=4) (k:=0) (bx:=(g 3).b) (c:=1) (y:=x) kr hop kr rfl hrw kr rfl (by omega) (by unfold maxLen;omega);rw [hrun];refine ⟨{ b:=b',cap:=cap',cur:=cur' },rfl,?_⟩;unfold qk;rw [show D2.put1 L1 4 4=true from rfl,show D2.put1 L1 4 6=false from h6];exact ⟨u,T2,x,hx,hr',HS'.sub (List.sublist_cons_self ..)⟩
  ·exact .of (D2.gv_val (fun L g w h=>by have:=h.keep (i:=5) (y:=g 5) rfl rfl rfl rfl;rwa [D2.setN_self] at this) (fun g w=>by kernel_rfl))
  ·refine .of (D2.gives_of fun L1 g w hp hN=>?_);have h4:=hN.bef 4 kr;unfold qk at hp;rw [h4,hN.1] at hp;obtain ⟨u,T2,x,hx,hr',HS⟩:=hp;obtain ⟨o,ho,hd,hw,hop⟩:=zE (show opk _ 6 _=some (none,true,.store 81 (.tmp 16) (.tmp 15)) by kernel_rfl);refine ⟨o,ho,hd,.inr ⟨hw,?_⟩⟩;rw [xV (t:=81) (off:=2) (b:=b3) (C:=#[.bool true,.string ⟨#[]⟩,.slice p n c]) (T:=83) (v:=.slice (some ⟨(g 4).b,0,none⟩) (n+1) (g 4).cap) (C':=#[.bool true,.string ⟨#[]⟩,.slice (some ⟨(g 4).b,0,none⟩) (n+1) (g 4).cap]) (HS.get 1 kr) kr kr (of_decide_eq_true kr) kr kr kr o hop];refine ⟨default,rfl,?_⟩;unfold qk;rw [show D2.put1 L1 6 4=true from h4,show D2.put1 L1 6 6=true from rfl];exact ⟨u,T2,x,hx,hr',HS.store 1 (C:=#[.bool true,.string ⟨#[]⟩,.slice p n c]) kr⟩
  ·intro L1 g w' hall hp;unfold qk at hp;rw [hall 4 (Nat.le_of_ble_eq_true kr),hall 6 (Nat.le_of_ble_eq_true kr)] at hp;obtain ⟨u,T2,x,hx,hr',HS⟩:=hp;obtain ⟨hlt,hI'⟩:=hI.next (b:=(g 4).b) ht hx hr'
   show ∃m,_∧_;refine ⟨_,hlt,u,_,_,_,_,_,_,rfl,hI',?_,(Is.of ⟨kr,kr,kr,kr,trivial⟩)⟩;rw [List.append_assoc];exact HS
theorem zig (m:Nat):(∀(t:ByteArray),t.size≤m→m≤100000→(∀bd,ky bd t)∧zbz t):=by
 induction m with
 | zero=>
  intro t h hm;have hi: ∀(bd:Nat) (u:ByteArray),u.size≤t.size→ky bd u:=fun bd u hu=>zd0 bd u (by omega) fun s hs=>by omega
  exact ⟨fun bd=>hi bd t (Nat.le_refl _),zd5 t (by omega) hi⟩
 | succ m ih=>
  intro t h hm;have hi: ∀(bd:Nat) (u:ByteArray),u.size≤t.size→ky bd u:=fun bd u hu=>zd0 bd u (by omega) fun s hs=>(ih s (by omega) (by omega)).2;exact ⟨fun bd=>hi bd t (Nat.le_refl _),zd5 t (by omega) hi⟩
theorem zih (bd:Nat)(t:ByteArray)(ht:t.size≤100000):ky bd t:=(zig 100000 t ht (Nat.le_refl _)).1 bd
structure kA (ds:List Deferred)(a:Act)(ρ:Env)(N:Nat):Prop where
 defers:a.defers=ds
 rep:Rep { a with defers:=[] } ρ N
def uP (ds:List Deferred)(N:Nat)(Q:Exit→Env→World→Prop):Exit→Act→World→Prop:=fun e a w=> ∃ρ,kA ds a ρ N∧Q e ρ w
theorem zd6 (a:Act)(d:Option Nat)(v:Value):(a.put d v).defers=a.defers:=by cases d<;>rfl
theorem zii (a:Act)(d:Option Nat)(v:Value): { a.put d v with defers:=[] } =({ a with defers:=[] } :Act).put d v:=by cases d<;>rfl
theorem uQ (a:Act):({ a with defers:=[] } :Act).eval=a.eval:=by funext x;cases x<;>rfl
section
variable {P:Program}{N:Nat}{ops:Array Oper}{Q:Exit→Env→World→Prop}{K:Env→World→Prop}{ρ:Env}{w:World}{i:Nat}{ds:List Deferred}
theorem zd7 (h:LetsOut (qd N Q)):LetsOut (uP ds N Q):=by
 obtain ⟨a,w,ρ,hr,hq⟩:=h;exact ⟨{ a with defers:=ds },w,ρ,⟨rfl,⟨rfl,hr.size,hr.at_⟩⟩,hq⟩
theorem zij {a:Act}(ha:a.defers=ds)(h:wpOp P ops (qd N Q) i (fun a' w'=> ∃ρ',Rep a' ρ' N∧K ρ' w') { a with defers:=[] } w):wpOp P ops (uP ds N Q) i (fun a' w'=> ∃ρ',kA ds a' ρ' N∧K ρ' w') a w:=by
 unfold wpOp at h ⊢;have hnext: ∀(d:Option Nat) (v:Value) (w':World),(∃ρ',Rep (({ a with defers:=[] } :Act).put d v) ρ' N∧K ρ' w')→∃ρ',kA ds (a.put d v) ρ' N∧K ρ' w':=fun d v w' ⟨ρ',hr,hk⟩=>⟨ρ',⟨by rw [zd6,ha],by rw [zii];exact hr⟩,hk⟩
 cases ho:ops[i]? with
 | none=>
  simp only [ho] at h ⊢;obtain ⟨ρ',hr,hk⟩:=h;exact ⟨ρ',⟨ha,hr⟩,hk⟩
 | some o=>
  simp only [ho] at h ⊢;split
  ·rename_i hw
   rw [if_pos hw] at h;rcases h with h | ⟨h1,h2⟩
   ·left;unfold Oper.wp at h ⊢;rw [uQ] at h;generalize (execOp a.eval o).run P w=r at h;cases r with
    | ok n w'=>
     cases n with
     | value v=>exact hnext _ _ _ h
     | skip=>exact hnext _ _ _ h
     | defer d=>
      obtain ⟨ρ',hr,_⟩:=h;have:=hr.defers;rw [zd6] at this;cases this
     | enter f args=>
      refine Calls.mono h fun e w'' q=>?_;cases e with
      | returned v=>exact hnext _ _ _ q
      | panicked ch=>
       obtain ⟨ρ',hr,hq⟩:=q;exact ⟨ρ',⟨ha,hr⟩,hq⟩
      | outgrown=>exact zd7 q
     | row row args=>exact Rows.mono h fun v w'' q=>hnext _ _ _ q
     | _=>exact (h:False).elim
    | halt hh w'=>
     cases hh with
     | panic v=>
      obtain ⟨ρ',hr,hq⟩:=h;exact ⟨ρ',⟨ha,hr⟩,hq⟩
     | _=>exact (h:False).elim
   ·right;refine ⟨?_,zd7 h2⟩;unfold Oper.asks at h1 ⊢;rw [uQ] at h1;exact h1
  ·rename_i hw
   rw [if_neg hw] at h;exact hnext _ _ _ h
theorem yH.soundD: ∀(l:List Nat) (ρ:Env) (w:World),yH P N ops Q (Q .normal) l ρ w→ ∀a,kA ds a ρ N→wpOps P ops (uP ds N Q) l a w
 | [],ρ,w,h,a,ha=>⟨ρ,ha,h⟩
 | i::r,ρ,w,h,a,ha=>by
  rw [wpOps_cons];exact wpOp_mono (fun a' w' ⟨ρ',hr,h'⟩=>yH.soundD r ρ' w' h' a' hr) (zij ha.defers (h _ ha.rep))
def WPD (ds:List Deferred)(P:Program)(N:Nat)(c:Code)(Q:Exit→Env→World→Prop)(ρ:Env)(w:World):Prop:= ∀a,kA ds a ρ N→c.wp P (uP ds N Q) a w
variable {c:Code}
theorem zd8 (hc:qe c=true)(h:WPD ds P N (zD c) (nx (WPD ds P N (zy c) Q) Q) ρ w):WPD ds P N c Q ρ w:=fun a ha=>by
 rw [zcG hc]
 exact wp_seq (Go.wp_mono (h a ha) fun e a' w' ⟨r,hr,q⟩=>by
  cases e<;>first | exact q a' hr | exact ⟨r,hr,q⟩)
theorem zd9 (l:List Nat)(hc:qL c=some (l,false))(h:yH P N (zo c) Q (Q .normal) l ρ w):WPD ds P N c Q ρ w:=fun a ha=>by
 obtain ⟨id,he,hl⟩:=xN hc;rw [he];exact wp_region (by rw [hl];exact yH.soundD l ρ w h a ha)
theorem vC (l:List Nat)(hc:qe c=true)(hr:qL (zD c)=some (l,false))(h:yH P N (zo (zD c)) (nx (WPD ds P N (zy c) Q) Q) (WPD ds P N (zy c) Q) l ρ w):WPD ds P N c Q ρ w:=
 zd8 hc (zd9 l hr h)
theorem zik (hc:kU c=true)(h:Q .normal ρ w):WPD ds P N c Q ρ w:=fun a ha=>by rw [zcJ hc];exact wp_skip ⟨ρ,ha,h⟩
end
section
variable {P:Program}{N:Nat}{ops:Array Oper}{ρ:Env}{w w':World}{i:Nat}{ds:List Deferred}{c:Code}{rest:List Nat}{a:Act}{cs:List Frame}
theorem zil {Q:Exit→Env→World→Prop}(hc:xr c=true)(hx:ev ρ (jy c)=.bool true)(ht:WPD ds P N (xm c) Q ρ w):WPD ds P N c Q ρ w:=fun a ha=>by
 rw [ua hc];exact wp_cond_true (by rw [←uQ,ha.rep.eval];exact hx) (ht a ha)
theorem zim {Q:Exit→Env→World→Prop}(hc:xr c=true)(hx:ev ρ (jy c)=.bool false)(ht:WPD ds P N (xq c) Q ρ w):WPD ds P N c Q ρ w:=fun a ha=>by
 rw [ua hc];exact wp_cond_false (by rw [←uQ,ha.rep.eval];exact hx) (ht a ha)
theorem zin {Q:Exit→Env→World→Prop}(hc:jR c=true)(h:Q .ret ρ w):WPD ds P N c Q ρ w:=fun a ha=>by rw [zcI hc];exact wp_ret ⟨ρ,ha,h⟩
variable {Q:Exit→Act→List Frame→World→Prop}
theorem zio {d:Option Nat}(ha:Rep a ρ N)(hn:recoverD cs=none)(h:opv P ops i ρ w=some (d,true,.ok .recover w'))(k:wpOpsS P ops Q rest (a.put d .nilIface) cs w'):wpOpsS P ops Q (i::rest) a cs w:=by
 obtain ⟨o,ho,rfl,hw,hr⟩:=zU h;have h1:Region.wanted o (yielded ops a.tmps)=true:=by rw [jf ha];exact hw
 rw [←ha.eval] at hr;simp only [wpOpsS,ho,h1,if_true,hr,hn];exact k
theorem zip {d:Option Nat}{v:Value}{cs':List Frame}(ha:Rep a ρ N)(hn:recoverD cs=some (v,cs'))(h:opv P ops i ρ w=some (d,true,.ok .recover w'))(k:wpOpsS P ops Q rest (a.put d v) cs' w'):wpOpsS P ops Q (i::rest) a cs w:=by
 obtain ⟨o,ho,rfl,hw,hr⟩:=zU h;have h1:Region.wanted o (yielded ops a.tmps)=true:=by rw [jf ha];exact hw
 rw [←ha.eval] at hr;simp only [wpOpsS,ho,h1,if_true,hr,hn];exact k
theorem zea {d:Option Nat}{v:Value}(ha:Rep a ρ N)(h:opv P ops i ρ w=some (d,true,.ok (.value v) w'))(k:wpOpsS P ops Q rest (a.put d v) cs w'):wpOpsS P ops Q (i::rest) a cs w:=by
 obtain ⟨o,ho,rfl,hw,hr⟩:=zU h;have h1:Region.wanted o (yielded ops a.tmps)=true:=by rw [jf ha];exact hw
 rw [←ha.eval] at hr;simp only [wpOpsS,ho,h1,if_true,hr,Oper.upon];exact k
end
def chR:FrameMode:=.panicking [{ v:=.iface 28 (.int .i64 4),recovered:=true }]
theorem zbB (args:Array Value)(n N:Nat)(hn:args.size+n=N):Rep { tmps:=args++Array.replicate n undef,defers:=[] } (ini args) N:=by
 refine ⟨rfl,by simp [hn],fun t=>?_⟩;unfold ini;rw [jN,jN,Array.getElem?_append];split
 ·rfl
 ·rename_i hge
  rw [Array.getElem?_eq_none (Nat.le_of_not_lt hge)];cases he:(Array.replicate n undef)[t-args.size]? with
  | none=>rfl
  | some v=>
   have:=Array.mem_of_getElem? he;simp at this;simp [this]
abbrev yW (b2 b3:Nat):Array Value:=#[.pointer (some ⟨b2,0,none⟩),.pointer (some ⟨b3,0,none⟩)]
theorem ziq (b2 b3:Nat)(w:World):CallsD Tryz.prog 119 (yW b2 b3) .returning w fun e u' w'=>e=.returned (.tuple #[])∧u'=.returning∧w'=w:=by
 refine callsD_of_wpS (f:=119) (c:=zk Tryz.f119) (P:=Tryz.prog) Tryz.func119 kr fun c0 cs hm=>?_;have ha:=zbB (yW b2 b3) 3 5 rfl;have hc:zk Tryz.f119=.seq (zD (zk Tryz.f119)) (zy (zk Tryz.f119)):=kr;have hr:recoverD (c0::cs)=none:=by simp [recoverD,hm]
 rw [hc];refine wpS_seq ?_;have hreg:zD (zk Tryz.f119)=.region 0 (zo (zD (zk Tryz.f119))) false:=kr;rw [hreg];refine wpS_region ?_;rw [show List.range (zo (zD (zk Tryz.f119))).size=[0,1] by kernel_rfl];show wpOpsS _ _ _ [0,1] { tmps:=yW b2 b3++Array.replicate 3 undef,defers:=[] } _ _;refine zio (ρ:=ini (yW b2 b3)) (d:=some 2) (w':=w) ha hr kr ?_;have ha2:=ha.put (some 2) (zT (by rfl)) .nilIface;refine zea (d:=some 3) (v:=.bool false) (w':=w) ha2 kr ?_;have ha3:=ha2.put (some 3) (zT (by rfl)) (.bool false);show (zy (zk Tryz.f119)).wpS _ _ _ _ _;have hcond:zy (zk Tryz.f119)=.cond (jy (zy (zk Tryz.f119))) (xm (zy (zk Tryz.f119))) (xq (zy (zk Tryz.f119))):=kr;rw [hcond];refine wpS_cond (t:=false) (by rw [ha3.eval];kernel_rfl)<|wpS_of_wp ?_;have hsk:xq (zy (zk Tryz.f119))=.skip:=kr;rw [if_neg (by decide),hsk];refine wp_skip ?_;exact ⟨ha3.defers,c0.mode,rfl,.tuple #[],by kernel_rfl,rfl,hm,rfl⟩
theorem zir (b2 b3:Nat)(x1 x2 x3 y:Value){B:Nat}{w0 w:World}{L:List (Nat×Obj)}(H:St B w0 w ((b2,.cells #[x1,x2,x3] 83 (0,0))::(b3,.cells #[y] 28 (0,0))::L)):
 CallsD Tryz.prog 119 (yW b2 b3) (.panicking chF) w fun e u' w'=>e=.returned (.tuple #[])∧u'=chR∧St B w0 w' ((b2,.cells #[.bool false,.string ⟨#[]⟩,.slice none 0 0] 83 (0,0))::(b3,.cells #[.int .i64 4] 28 (0,0))::L):=by
 refine callsD_of_wpS (f:=119) (c:=zk Tryz.f119) (P:=Tryz.prog) Tryz.func119 kr fun c0 cs hm=>?_;have ha:=zbB (yW b2 b3) 3 5 rfl;have hc:zk Tryz.f119=.seq (zD (zk Tryz.f119)) (zy (zk Tryz.f119)):=kr;have hr:recoverD (c0::cs)=some (.iface 28 (.int .i64 4),{ c0 with mode:=chR } :: cs):=by simp [recoverD,hm,chF,chR]
 rw [hc];refine wpS_seq ?_;have hreg:zD (zk Tryz.f119)=.region 0 (zo (zD (zk Tryz.f119))) false:=kr;rw [hreg];refine wpS_region ?_;rw [show List.range (zo (zD (zk Tryz.f119))).size=[0,1] by kernel_rfl];show wpOpsS _ _ _ [0,1] { tmps:=yW b2 b3++Array.replicate 3 undef,defers:=[] } _ _;refine zip (ρ:=ini (yW b2 b3)) (d:=some 2) (w':=w) ha hr kr ?_;have ha2:=ha.put (some 2) (zT (by rfl)) (.iface 28 (.int .i64 4));refine zea (d:=some 3) (v:=.bool true) (w':=w) ha2 kr ?_;have ha3:=ha2.put (some 3) (zT (by rfl)) (.bool true);show (zy (zk Tryz.f119)).wpS _ _ _ _ _;have hcond:zy (zk Tryz.f119)=.cond (jy (zy (zk Tryz.f119))) (xm (zy (zk Tryz.f119))) (xq (zy (zk Tryz.f119))):=kr;rw [hcond];refine wpS_cond (t:=true) (by rw [ha3.eval];kernel_rfl)<|wpS_of_wp ?_;rw [if_pos rfl];have hw:WP Tryz.prog 5 (xm (zy (zk Tryz.f119))) (fun e ρ w'=>match e with | .normal=>St B w0 w' ((b2,.cells #[.bool false,.string ⟨#[]⟩,.slice none 0 0] 83 (0,0))::(b3,.cells #[.int .i64 4] 28 (0,0))::L) | _=>False) _ w:=rL (ρ:=zr (zr (ini (yW b2 b3)) (some 2) (.iface 28 (.int .i64 4))) (some 3) (.bool true)) [.v,.s 0,.s 1] H kr fun gs w' H'=>H'.as kr;refine Go.wp_mono (hw _ ha3) ?_;rintro e a' w' ⟨ρ',hrep,hq⟩;cases e with
 | normal=>exact ⟨hrep.defers,chR,rfl,.tuple #[],by kernel_rfl,rfl,rfl,hq⟩
 | _=>exact (hq:False).elim
def zis (t:ByteArray)(v:Value)(T:List (Nat×Obj)):Prop:=
 (∃(l:Bool) (s:ByteArray) (p:Option Addr) (n c:Nat) (k:Fo),v=.tuple #[.agg #[.bool l,.string s,.slice p n c],.int .i64 0]∧yc t l s k ⟨#[]⟩∧SlIn T p n k∧s.size≤t.size)∨
 (v=.tuple #[.agg #[.bool false,.string ⟨#[]⟩,.slice none 0 0],.int .i64 4]∧T=[]∧ ∀(l:Bool) (s:ByteArray) (k:Fo),mixed l s k.len=false→pureF k=true→tl t≠wr1 l s (szF k) (wrF k))
def FnZ (P:Program)(f:Nat)(args:Array Value)(ok:Value→List (Nat×Obj)→Prop):Prop:=
 ∀(B:Nat) (w0 w:World) (L:List (Nat×Obj)),St B w0 w L→Calls P f args w fun e w'=> ∃v T,e=.returned v∧ok v T∧St B w0 w' (T++L)
def zit (t:ByteArray)(B:Nat)(w0:World)(b2 b3:Nat)(L:List (Nat×Obj)):Exit→Env→World→Prop
 | .ret,ρ,w=>ρ 2=.pointer (some ⟨b2,0,none⟩)∧ρ 3=.pointer (some ⟨b3,0,none⟩)∧∃(l:Bool) (s:ByteArray) (p:Option Addr) (n c:Nat) (k:Fo) (T:List (Nat×Obj)),yc t l s k ⟨#[]⟩∧SlIn T p n k∧s.size≤t.size∧St B w0 w ((b2,.cells #[.bool l,.string s,.slice p n c] 83 (0,0))::(b3,.cells #[.int .i64 0] 28 (0,0))::(T++L))
 | .panic ch,ρ,w=>ρ 2=.pointer (some ⟨b2,0,none⟩)∧ρ 3=.pointer (some ⟨b3,0,none⟩)∧ch=chF∧(∀(l:Bool) (s:ByteArray) (k:Fo),mixed l s k.len=false→pureF k=true→tl t≠wr1 l s (szF k) (wrF k))∧∃x1 x2 x3 y,St B w0 w ((b2,.cells #[x1,x2,x3] 83 (0,0))::(b3,.cells #[y] 28 (0,0))::L)
 | _,_,_=>False
theorem zeb {t:ByteArray}(h:qE t)(l:Bool)(s:ByteArray)(k:Fo)(hm:mixed l s k.len=false)(hp:pureF k=true):tl t≠wr1 l s (szF k) (wrF k):=fun e=>h l s k [] hm hp (by rw [e,List.append_nil])
theorem ziu {t u:ByteArray}{l l':Bool}{s s':ByteArray}{k k':Fo}(ht:t.size≤100000)(h:yc t l s k u)(hu: ¬u=⟨#[]⟩)(hm:mixed l' s' k'.len=false)(hp:pureF k'=true):tl t≠wr1 l' s' (szF k') (wrF k'):=fun e=>by
 obtain ⟨r,hr,he⟩:=zdT (k':=.cons l' s' k' .nil) ht h (by simp only [pureF,hm,hp];rfl) (by rw [e];simp only [wrF,List.append_nil]);obtain ⟨hm1,hp1,hi⟩:=h;have hlen:=congrArg List.length hi;have hlen2:=congrArg List.length e;rw [zt,List.length_append,qn hm1 (ye hp1)] at hlen;rw [zt,qn hm (ye hp)] at hlen2;have hpay: ∀(l:Bool) (s:ByteArray) (k:Fo),sz1 l s (szF k)≤100000→mixed l s k.len=false→s.size+szF k≤100000:=fun l s k h hm=>by
  unfold sz1 at h;split at h
  ·rename_i q
   have h1:=jk q;have h2:=len_zero (ja hm q);rw [h2];simp only [szF];omega
  ·omega
 have hx:=hpay l s k (by omega) hm1;have hy:=hpay l' s' k' (by omega) hm;have e2:wr1 l s (szF k) (wrF k)++tl u=wr1 l' s' (szF k') (wrF k')++ []:=by rw [List.append_nil,←e,hi]
 obtain ⟨_,_,_,hX⟩:=vy hm1 hm (ye hp1).symm (ye hp).symm (by omega) (by omega) (fun q=>kx k k' hp1 hp (by rw [ye hp1];omega) q) e2;exact hu (qi hX)
theorem ziv (t:ByteArray)(ht:t.size≤100000)(ds:List Deferred){B:Nat}{w0 w:World}{L:List (Nat×Obj)}(b2 b3:Nat)(ρ0:Env)(H0:St B w0 w ((b2,.cells #[.bool false,.string ⟨#[]⟩,.slice none 0 0] 83 (0,0))::(b3,.cells #[.int .i64 0] 28 (0,0))::L)):
 WPD ds Tryz.prog 14 (zy (zy (zk Tryz.f91))) (zit t B w0 b2 b3 L) (yN [(0,.string t),(2,.pointer (some ⟨b2,0,none⟩)),(3,.pointer (some ⟨b3,0,none⟩))] ρ0) w:=by
 refine vC [0,1,2,3] kr kr<|jZ _<|zm (some 6) (.string t) (fun w=>by kernel_rfl) kr<|zm (some 7) (.agg #[.string t]) (fun w=>by kernel_rfl) kr<|zB H0 (some 4) 149 (.agg #[.string ⟨#[]⟩]) kr kr kr ?_;intro b4 w1 H1;refine rp [.s 0] H1 kr fun gs1 w2 H2=>wX []<|zc ?_;have H3:St B w0 w2 ((b4,dc t)::(b2,.cells #[.bool false,.string ⟨#[]⟩,.slice none 0 0] 83 (0,0))::(b3,.cells #[.int .i64 0] 28 (0,0))::L):=H2.as kr;show WPD _ _ _ _ _ _ _;refine vC [0,1] kr kr<|xX H3 (List.Perm.refl _) (some 8) 120 #[.pointer (some ⟨b4,0,none⟩)] (zih b4 t ht) kr kr (fun w' hb HS=>?_) ?_
 ·exact ⟨by kernel_rfl,by kernel_rfl,rfl,zeb hb,_,_,_,_,HS⟩
 rintro _ u T w3 ⟨l,s,p,n,c,k,rfl,hi,hs,hz⟩ H4;have H5:St B w0 w3 ((b4,dc u)::(b2,.cells #[.bool false,.string ⟨#[]⟩,.slice none 0 0] 83 (0,0))::(b3,.cells #[.int .i64 0] 28 (0,0))::(T++L)):=H4.perm (List.Perm.cons _ (List.perm_append_comm_assoc [(b2,_),(b3,_)] T L));refine jZ _<|rp [.s 1] H5 kr fun gs2 w4 H6=>wX []<|zc ?_;show WPD _ _ _ _ _ _ _;refine zd8 kr ?_;by_cases hu:u=⟨#[]⟩
 ·refine vC [0,1,2] kr kr<|jZ _<|rp [.v,.l 0,.E (.bool (!(ByteArray.toList u==ByteArray.toList (⟨#[]⟩)))) (.bool false) (za (by rw [zL u (⟨#[]⟩) hu];rfl))] H6 kr fun gs3 w5 H7=>wX []<|zc ?_;show WPD _ _ _ _ _ _ _;refine zim kr kr<|zik kr ?_;show WPD _ _ _ _ _ _ _;refine vC [0,1,2] kr kr<|jZ _<|rp [.l 1,.s 1,.s 2] H7 kr fun gs4 w6 H8=>wX []<|zc ?_;show WPD _ _ _ _ _ _ _;refine zin kr ?_;have H9:St B w0 w6 ((b4,dc u)::(b2,.cells #[.bool l,.string s,.slice p n c] 83 (0,0))::(b3,.cells #[.int .i64 0] 28 (0,0))::(T++L)):=H8.as kr;subst hu;exact ⟨by kernel_rfl,by kernel_rfl,l,s,p,n,c,k,T,hi,hs,hz,H9.sub (List.sublist_cons_self ..)⟩
 ·refine vC [0,1,2] kr kr<|jZ _<|rp [.v,.l 0,.E (.bool (!(ByteArray.toList u==ByteArray.toList (⟨#[]⟩)))) (.bool true) (za (by rw [yA u (⟨#[]⟩) hu];rfl))] H6 kr fun gs3 w5 H7=>wX []<|zc ?_;show WPD _ _ _ _ _ _ _;refine zil kr kr<|zd9 [0,1] kr<|jY [0] (l2:=[1]) rfl<|rp [.v] H7 kr fun gs4 w6 H8=>wX []<|zc<|uJ none (.iface 28 (.int .i64 4)) kr ?_;have H9:St B w0 w6 ((b4,dc u)::(b2,.cells #[.bool l,.string s,.slice p n c] 83 (0,0))::(b3,.cells #[.int .i64 0] 28 (0,0))::(T++L)):=H8.as kr;exact ⟨by kernel_rfl,by kernel_rfl,rfl,fun l' s' k' hm hp=>ziu ht hi hu hm hp,_,_,_,_,H9.sub (List.Sublist.cons _ (List.Sublist.cons_cons _ (List.Sublist.cons_cons _ (List.sublist_append_right _ _))))⟩
section
variable {P:Program}{N:Nat}{ops:Array Oper}{ρ:Env}{w w':World}{i:Nat}{rest:List Nat}{a:Act}{Q:Exit→Act→World→Prop}
theorem ziw {d:Option Nat}{v:Value}(ha:Rep a ρ N)(h:opv P ops i ρ w=some (d,true,.ok (.value v) w'))(k:wpOps P ops Q rest (a.put d v) w'):wpOps P ops Q (i::rest) a w:=by
 obtain ⟨o,ho,rfl,hw,hr⟩:=zU h;have h1:Region.wanted o (yielded ops a.tmps)=true:=by rw [jf ha];exact hw
 rw [←ha.eval] at hr;rw [wpOps_cons];unfold wpOp;simp only [ho,h1,if_true];left;unfold Oper.wp;rw [hr];exact k
theorem zix {d:Option Nat}{dd:Deferred}(ha:Rep a ρ N)(h:opv P ops i ρ w=some (d,true,.ok (.defer dd) w'))(k:wpOps P ops Q rest ({ a with defers:=dd::a.defers }.put d undef) w'):wpOps P ops Q (i::rest) a w:=by
 obtain ⟨o,ho,rfl,hw,hr⟩:=zU h;have h1:Region.wanted o (yielded ops a.tmps)=true:=by rw [jf ha];exact hw
 rw [←ha.eval] at hr;rw [wpOps_cons];unfold wpOp;simp only [ho,h1,if_true];left;unfold Oper.wp;rw [hr];exact k
end
def ddv (b2 b3:Nat):Deferred:= { target:=.fn (.func 119) (yW b2 b3),args:=#[] }
theorem ziy (t:ByteArray)(ht:t.size≤100000):FnZ Tryz.prog 91 #[.string t] (zis t):=fun B w0 w L HS=>by
 refine calls_of_wp_defers (f:=91) (fn:=Tryz.f91) (c:=zk Tryz.f91) Tryz.func91 kr ?_;have ha:=zbB #[.string t] 13 14 rfl;show (zk Tryz.f91).wp _ _ { tmps:=#[.string t]++Array.replicate 13 undef,defers:=[] } w;rw [show zk Tryz.f91=.seq (zD (zk Tryz.f91)) (zy (zk Tryz.f91)) by kernel_rfl];refine wp_seq ?_;have h0:WP Tryz.prog 14 (zD (zk Tryz.f91)) (fun e ρ w'=>match e with | .normal=> ∃b2 b3,ρ=zr (zr (ini #[.string t]) (some 2) (.pointer (some ⟨b2,0,none⟩))) (some 3) (.pointer (some ⟨b3,0,none⟩))∧St B w0 w' ((b3,.cells #[.int .i64 0] 28 (0,0))::(b2,.cells #[.bool false,.string ⟨#[]⟩,.slice none 0 0] 83 (0,0))::L) | _=>False) (ini #[.string t]) w:=by
  refine yv [0,1] kr<|zB HS (some 2) 83 (.agg #[.bool false,.string ⟨#[]⟩,.slice none 0 0]) kr kr kr ?_;intro b2 w1 H1;refine zB H1 (some 3) 28 (.int .i64 0) kr kr kr ?_;intro b3 w2 H2;refine zc ?_;exact ⟨b2,b3,rfl,H2⟩
 refine Go.wp_mono (h0 _ ha) ?_;rintro e a1 w1 ⟨ρ1,hr1,hq⟩;cases e with
 | normal=>
  obtain ⟨b2,b3,rfl,H1⟩:=hq;show (zy (zk Tryz.f91)).wp _ _ a1 w1;rw [show zy (zk Tryz.f91)=.seq (zD (zy (zk Tryz.f91))) (zy (zy (zk Tryz.f91))) by kernel_rfl];refine wp_seq ?_;rw [show zD (zy (zk Tryz.f91))=.region 1 (zo (zD (zy (zk Tryz.f91)))) false by kernel_rfl];refine wp_region ?_;rw [show List.range (zo (zD (zy (zk Tryz.f91)))).size=[0,1] by kernel_rfl];refine ziw (d:=some 5) (v:=.func (.func 119) #[] (yW b2 b3)) (w':=w1) hr1 kr ?_;have hr2:=hr1.put (some 5) (zT (by rfl)) (.func (.func 119) #[] (yW b2 b3));refine zix (d:=none) (dd:=ddv b2 b3) (w':=w1) hr2 kr ?_;show (zy (zy (zk Tryz.f91))).wp _ _ { a1.put (some 5) (.func (.func 119) #[] (yW b2 b3)) with defers:=ddv b2 b3::(a1.put (some 5) (.func (.func 119) #[] (yW b2 b3))).defers } w1;have hds:(a1.put (some 5) (.func (.func 119) #[] (yW b2 b3))).defers=[]:=hr2.defers;rw [hds];have hD:kA [ddv b2 b3] { a1.put (some 5) (.func (.func 119) #[] (yW b2 b3)) with defers:=[ddv b2 b3] } (yN [(0,.string t),(2,.pointer (some ⟨b2,0,none⟩)),(3,.pointer (some ⟨b3,0,none⟩))] (zr (zr (zr (ini #[.string t]) (some 2) (.pointer (some ⟨b2,0,none⟩))) (some 3) (.pointer (some ⟨b3,0,none⟩))) (some 5) (.func (.func 119) #[] (yW b2 b3)))) 14:=by
   refine ⟨rfl,?_⟩;have hS:kg (zr (zr (zr (ini #[.string t]) (some 2) (.pointer (some ⟨b2,0,none⟩))) (some 3) (.pointer (some ⟨b3,0,none⟩))) (some 5) (.func (.func 119) #[] (yW b2 b3))) [(0,.string t),(2,.pointer (some ⟨b2,0,none⟩)),(3,.pointer (some ⟨b3,0,none⟩))]:=⟨kr,kr,kr,trivial⟩
   rw [kW hS];exact ⟨rfl,hr2.size,hr2.at_⟩
  have H2:=H1.perm (List.Perm.swap _ _ _);refine Go.wp_mono (ziv t ht [ddv b2 b3] b2 b3 _ H2 _ hD) ?_;rintro e a2 w2 ⟨ρ2,hr3,hq⟩;cases e with
  | ret=>
   obtain ⟨h2,h3,l,s,p,n,c,k,T,hi,hs,hz,H3⟩:=hq;show Leaves _ _ a2.tmps _ a2.defers _ _;rw [hr3.defers];refine leaves_cons (f:=119) (args:=yW b2 b3) (by simp) kr<|(ziq b2 b3 w2).mono ?_;rintro e u' w' ⟨rfl,rfl,rfl⟩;have hR:Res Tryz.prog w' ρ2 [.cell 2 83,.cell 3 28] [.agg #[.bool l,.string s,.slice p n c],.int .i64 0]:=
    .agg (b:=b2) (#[.bool l,.string s,.slice p n c]) 83 (0,0) h2 (H3.get 0 rfl) kr (.one (b:=b3) (.int .i64 0) (#[.int .i64 0]) 28 (0,0) h3 (H3.get 1 rfl) kr rfl .nil)
   have hres:=Res.run (fn:=Tryz.f91) hr3.rep (show Res Tryz.prog w' ρ2 Tryz.f91.results.toList _ from hR);refine ⟨_,hres,_,T,rfl,.inl ⟨l,s,p,n,c,k,rfl,hi,hs,hz⟩,H3.sub (List.Sublist.cons _ (List.sublist_cons_self ..))⟩
  | panic ch=>
   obtain ⟨h2,h3,rfl,hb,x1,x2,x3,y,H3⟩:=hq;show Leaves _ _ a2.tmps _ a2.defers _ _;rw [hr3.defers];refine leaves_cons (f:=119) (args:=yW b2 b3) (by simp) kr<|(zir b2 b3 x1 x2 x3 y H3).mono ?_;rintro e u' w' ⟨rfl,rfl,H4⟩;have hR:Res Tryz.prog w' ρ2 [.cell 2 83,.cell 3 28] [.agg #[.bool false,.string ⟨#[]⟩,.slice none 0 0],.int .i64 4]:=
    .agg (b:=b2) (#[.bool false,.string ⟨#[]⟩,.slice none 0 0]) 83 (0,0) h2 (H4.get 0 rfl) kr (.one (b:=b3) (.int .i64 4) (#[.int .i64 4]) 28 (0,0) h3 (H4.get 1 rfl) kr rfl .nil)
   have hres:=Res.run (fn:=Tryz.f91) hr3.rep (show Res Tryz.prog w' ρ2 Tryz.f91.results.toList _ from hR);refine ⟨_,hres,_,[],rfl,.inr ⟨rfl,rfl,hb⟩,H4.sub (List.Sublist.cons _ (List.sublist_cons_self ..))⟩
  | _=>exact (hq:False).elim
 | _=>exact (hq:False).elim
theorem zbC: ∀ {k:Fo},pureF k=true→k.cnt≤szF k
 | .nil,_=>Nat.le_refl _
 | .cons l s k r,h=>by
  simp only [pureF,Bool.and_eq_true,Bool.not_eq_true'] at h;have h1:=zbC h.1.2;have h2:=zbC h.2;have h3:=zdi l s (szF k);simp only [Fo.cnt,szF];unfold sz1 at*;split
  ·rename_i q
   have h4:=len_zero (ja h.1.1 q);rw [h4];simp only [Fo.cnt];omega
  ·have:=jI (frm l) (s.size+szF k);omega
theorem yc.sz {t u:ByteArray}{l:Bool}{s:ByteArray}{k:Fo}(h:yc t l s k u):szF k≤t.size∧k.cnt≤t.size:=by
 obtain ⟨hm,hp,hi⟩:=h;have hlen:=congrArg List.length hi;rw [zt,List.length_append,qn hm (ye hp)] at hlen;have hc:=zbC hp;have:szF k≤sz1 l s (szF k):=by
  unfold sz1;split
  ·rename_i q
   have h4:=len_zero (ja hm q);rw [h4];simp only [szF];omega
  ·omega
 omega
section
variable {P:Program}{N:Nat}{ops:Array Oper}{K:Env→World→Prop}{ρ:Env}{w w0:World}{i B:Nat}{r:List Nat}{l:List (Nat×Obj)}
theorem vD (HS:St B w0 w l)(d:Option Nat)(f:Nat)(args:Array Value){ok:Value→List (Nat×Obj)→Prop}(hc:FnZ P f args ok)
 (h:opv P ops i ρ w=some (d,true,.ok (.enter f args) w)) (hd:dOK d N=true)
 (kk: ∀v T w',ok v T→St B w0 w' (T++l)→WPs P N ops K r (zr ρ d v) w'):WPs P N ops K (i::r) ρ w:=by
 obtain ⟨o,ho,rfl,hw,hr⟩:=zU h;refine WPo.run ho hw fun a ha=>?_;rw [hr,Oper.upon_enter];refine (hc B w0 w l HS).mono ?_;rintro _ w' ⟨v,T,rfl,h1,h2⟩;exact ⟨_,ha.put _ (zT hd) v,kk v T w' h1 h2⟩
end
theorem FnZ.intro {P:Program}{f:Nat}{fn:Func}{c:Code}(rs:List ResultVar)(N:Nat){args:Array Value}{ok:Value→List (Nat×Obj)→Prop}(hf:P.funcs[f]? =some fn)(hb:fn.body=some c)(hr:fn.results.toList=rs)(hn:args.size+(fn.ntmps-args.size)=N)
 (h: ∀B w0 w L,St B w0 w L→WP P N c (yE P rs fun v w'=> ∃T,ok v T∧St B w0 w' (T++L)) (ini args) w):FnZ P f args ok:=fun B w0 w L HS=>
 (jQ hf hb hr hn (h B w0 w L HS)).mono fun e w' ⟨v,he,T,h1,h2⟩=>⟨v,T,he,h1,h2⟩
def erV (n:Int):Value:=.tuple #[.agg #[.bool false,.string ⟨#[]⟩,.slice none 0 0],.int .i64 n]
def xD (t:ByteArray):Prop:= ∀(l:Bool) (s:ByteArray) (k:Fo),mixed l s k.len=false→pureF k=true→tl t≠wr1 l s (szF k) (wrF k)
def kB (t:ByteArray)(v:Value)(T:List (Nat×Obj)):Prop:=
 (4000<t.size∧v=erV 2∧T=[])∨(t.size≤4000∧(
  (∃(l:Bool) (s:ByteArray) (p:Option Addr) (n c:Nat) (k:Fo),v=.tuple #[.agg #[.bool l,.string s,.slice p n c],.int .i64 0]∧yc t l s k ⟨#[]⟩∧SlIn T p n k∧s.size≤t.size∧dp1 l (dpF k)≤8)∨
  (∃(l:Bool) (s:ByteArray) (k:Fo),yc t l s k ⟨#[]⟩∧8<dp1 l (dpF k)∧v=erV 5∧T=[])∨
  (xD t∧v=erV 4∧T=[])))
theorem ziz (t:ByteArray)(ht:t.size≤0x800000000000):FnZ Tryz.prog 58 #[.string t] (kB t):=by
 refine FnZ.intro (c:=zk Tryz.f58) [.cell 2 83,.tmp 3] 21 Tryz.func58 kr kr kr fun B w0 w L H0=>zg [0,1] kr kr<|zB H0 (some 2) 83 (.agg #[.bool false,.string ⟨#[]⟩,.slice none 0 0]) kr kr kr ?_;intro b1 w1 H1;refine zm (some 3) (.int .i64 0) (fun w=>by kernel_rfl) kr<|zc<|zb kr ?_;by_cases h4:t.size≤4000
 ·refine rS [.v,.v,.E (.bool (decide ((4000:Int)<(ByteArray.size t:Int)))) (.bool false) (za (decide_eq_false (by omega)))] H1 kr fun gs1 w2 H2=>zi kr kr<|zj kr<|wW<|zg [0,1,2,3,4,5,6,7] kr kr<|rp [.v] H2 kr fun gs2 w3 H3=>wX [1,2,3,4,5,6,7] ?_;have H4:St B w0 w3 ((b1,r0)::L):=H3.as kr;refine vD H4 (some 12) 91 #[.string t] (ziy t (by omega)) kr kr ?_;rintro _ T w4 (⟨l,s,p,n,c,k,rfl,hi,hs,hz⟩ | ⟨rfl,rfl,hb⟩) H5
  ·have H6:St B w0 w4 ((b1,r0)::(T++L)):=H5.perm List.perm_middle.symm;have hsz:=hi.sz;refine rp [.v,.v,.v] H6 kr fun gs3 w5 H7=>wX [5,6,7]<|zB H7 (some 4) 83 (.agg #[.bool false,.string ⟨#[]⟩,.slice none 0 0]) kr kr kr ?_;intro b2 w6 H8;refine rp [.s 0,.v] H8 kr fun gs4 w7 H9=>wX []<|zc ?_;have H10:St B w0 w7 ((b2,.cells #[.bool l,.string s,.slice p n c] 83 (0,0))::(b1,r0)::(T++L)):=H9.as kr;refine wW<|zb kr<|zg [0,1,2] kr kr<|rp [.l 0] H10 kr fun gs5 w8 H11=>wX [1,2] ?_;have H12:St B w0 w8 ((b2,.cells #[.bool l,.string s,.slice p n c] 83 (0,0))::(b1,r0)::(T++L)):=H11.as kr;have hS:=hs.at H12 (fun e he=>by simp [he]);refine yJ H12 (some 16) 92 #[.agg #[.bool l,.string s,.slice p n c]] (fun w=>zp w.heap.size w p n k) (.int .i64 ((dp1 l (dpF k):Nat):Int)) (zbk l s p n c k (by omega) (by omega)) hS (fun w=>by kernel_rfl) kr ?_;intro w9 H13;by_cases h8:dp1 l (dpF k)≤8
   ·refine rp [.E (.bool (decide (8<((dp1 l (dpF k):Nat):Int)))) (.bool false) (za (decide_eq_false (by omega)))] H13 kr fun gs6 w10 H14=>wX []<|zc<|zi kr kr<|zj kr<|wW<|rS [.l 0,.v,.s 1,.v] H14 kr fun gs7 w11 H15=>?_;have H16:St B w0 w11 ((b2,.cells #[.bool l,.string s,.slice p n c] 83 (0,0))::(b1,.cells #[.bool l,.string s,.slice p n c] 83 (0,0))::(T++L)):=H15.as kr;refine zl kr<|wV ?_;exact ⟨[.agg #[.bool l,.string s,.slice p n c],.int .i64 0],(.agg (b:=b1) (#[.bool l,.string s,.slice p n c]) 83 (0,0) kr (H16.get 1 kr) kr (.tmp (.int .i64 0) kr .nil)),T,.inr ⟨h4,.inl ⟨l,s,p,n,c,k,rfl,hi,hs,hz,h8⟩⟩,H16.sub (List.Sublist.cons _ (List.sublist_cons_self ..))⟩
   ·refine rp [.E (.bool (decide (8<((dp1 l (dpF k):Nat):Int)))) (.bool true) (za (decide_eq_true (by omega)))] H13 kr fun gs6 w10 H14=>wX []<|zc<|zf kr kr<|rS [.v,.s 1,.v] H14 kr fun gs7 w11 H15=>?_;have H16:St B w0 w11 ((b2,.cells #[.bool l,.string s,.slice p n c] 83 (0,0))::(b1,r0)::(T++L)):=H15.as kr;refine zl kr<|wV ?_;exact ⟨[.agg #[.bool false,.string ⟨#[]⟩,.slice none 0 0],.int .i64 5],(.agg (b:=b1) (#[.bool false,.string ⟨#[]⟩,.slice none 0 0]) 83 (0,0) kr (H16.get 1 kr) kr (.tmp (.int .i64 5) kr .nil)),[],.inr ⟨h4,.inr (.inl ⟨l,s,k,hi,by omega,rfl,rfl⟩)⟩,H16.sub (List.Sublist.cons _ (List.Sublist.cons _ (List.sublist_append_right _ _)))⟩
  ·have H6:St B w0 w4 ((b1,r0)::L):=H5.as kr;refine rp [.v,.v,.v] H6 kr fun gs3 w5 H7=>wX [5,6,7]<|zB H7 (some 4) 83 (.agg #[.bool false,.string ⟨#[]⟩,.slice none 0 0]) kr kr kr ?_;intro b2 w6 H8;refine rp [.s 0,.v] H8 kr fun gs4 w7 H9=>wX []<|zc ?_;have H10:St B w0 w7 ((b2,r0)::(b1,r0)::L):=H9.as kr;refine wW<|zb kr<|zg [0,1,2] kr kr<|rp [.l 0] H10 kr fun gs5 w8 H11=>wX [1,2]<|yJ H11 (some 16) 92 #[.agg #[.bool false,.string ⟨#[]⟩,.slice none 0 0]] (fun w=>zp w.heap.size w none 0 .nil) (.int .i64 ((dp1 false (dpF .nil):Nat):Int)) (zbk false ⟨#[]⟩ none 0 0 .nil (by decide) (by decide)) (zp.nil ..) (fun w=>by kernel_rfl) kr ?_;intro w9 H13;refine rp [.E (.bool (decide (8<((dp1 false (dpF .nil):Nat):Int)))) (.bool false) (za (by decide))] H13 kr fun gs6 w10 H14=>wX []<|zc<|zi kr kr<|zj kr<|wW<|rS [.l 0,.v,.s 1,.v] H14 kr fun gs7 w11 H15=>?_;have H16:St B w0 w11 ((b2,r0)::(b1,r0)::L):=H15.as kr;refine zl kr<|wV ?_;exact ⟨[.agg #[.bool false,.string ⟨#[]⟩,.slice none 0 0],.int .i64 4],(.agg (b:=b1) (#[.bool false,.string ⟨#[]⟩,.slice none 0 0]) 83 (0,0) kr (H16.get 1 kr) kr (.tmp (.int .i64 4) kr .nil)),[],.inr ⟨h4,.inr (.inr ⟨hb,rfl,rfl⟩)⟩,H16.sub (List.Sublist.cons _ (List.sublist_cons_self ..))⟩
 ·refine rS [.v,.v,.E (.bool (decide ((4000:Int)<(ByteArray.size t:Int)))) (.bool true) (za (decide_eq_true (by omega)))] H1 kr fun gs1 w2 H2=>zf kr kr<|rS [.v,.s 0,.v] H2 kr fun gs2 w3 H3=>?_;have H4:St B w0 w3 ((b1,r0)::L):=H3.as kr;refine zl kr<|wV ?_;exact ⟨[.agg #[.bool false,.string ⟨#[]⟩,.slice none 0 0],.int .i64 2],(.agg (b:=b1) (#[.bool false,.string ⟨#[]⟩,.slice none 0 0]) 83 (0,0) kr (H4.get 0 kr) kr (.tmp (.int .i64 2) kr .nil)),[],.inl ⟨by omega,rfl,rfl⟩,H4.sub (List.sublist_cons_self ..)⟩
theorem jA {l:List Value}(h:l.all (·.oneCell')=true): ∀u∈l,u.oneCell'=true:=fun u hu=>List.all_eq_true.1 h u hu
abbrev Kf:=Fr Nat
def kS:Sh Nat where
 K:=2
 hd g:=[.int .u8 (g:Int)]
 ok _:=True
 mx:=1000
 len _:=rfl
 one _:=jA rfl
abbrev Fe:=Fr (Nat×ByteArray)
def fS:Sh (Nat×ByteArray) where
 K:=3
 hd x:=[.int .u64 ((x.1:Nat):Int),.string x.2]
 ok x:=x.1<0x10000000000000000∧x.2.size≤0x800000000000
 mx:=0x800000000000
 len _:=rfl
 one _:=jA rfl
def Fr.all {α:Type}(p:α→Prop):Fr α→Prop
 | .nil=>True
 | .cons a k r=>p a∧k.all p∧r.all p
theorem qw.ok {α:Type}{S:Sh α}{B:Nat}{w:World} : ∀ {k:Fr α} {b off:Nat},qw S B w k b off→k.all S.ok
 | .nil,_,_,_=>trivial
 | .cons a k r,b,off,⟨⟨C,T,fz,p,n,c,h1,h2,h3,h4,h5,h6,h7,h8⟩,h9⟩=>⟨h5,by
  rcases h8 with rfl|⟨b',o',e,h⟩
  ·trivial
  ·exact h.ok,h9.ok⟩
theorem SlR.ok {α:Type}{S:Sh α}{B:Nat}{w:World}{p:Option Addr}{n:Nat}{k:Fr α}(h:SlR S B w p n k):k.all S.ok:=by
 rcases h.2.2 with rfl|⟨b,o,e,h⟩
 ·trivial
 ·exact h.ok
def zw (g:Nat)(b:Kf)(i:Nat):Nat×Kf:=match b.at (if g=42 then 0 else i) with
 | some x=>x
 | none=>(0,.nil)
def yg (g:Nat):Nat×Nat:=if g=104 then (32,32) else if g=97 then (20,20) else if g=115 then (65,65) else if g=98 then (0,64) else (0,0)
def yj (g n:Nat):Nat×Nat:=if g=40 then (n,n) else if g=42 then (0,40) else (0,0)
def yL (x:Nat×Nat)(n:Nat):Bool:=decide (x.1≤n)&&decide (n≤x.2)
def zu (g bl n sz ln:Nat):Bool:=(decide (n=0)||decide (g=110))&&(yL (yg g) sz&&yL (yj g bl) ln)
def w64 (x:Int):Int:=IntKind.i64.wrap x
def yX:Fe→Nat→Kf→Nat→Int→Int
 | .nil,_,_,_,room=>room
 | .cons x l r,g,b,i,room=>
  if (if zu (zw g b i).1 (zw g b i).2.len x.1 x.2.size l.len=true then yX l (zw g b i).1 (zw g b i).2 0 (w64 (room-1)) else-1)<0
  then (if zu (zw g b i).1 (zw g b i).2.len x.1 x.2.size l.len=true then yX l (zw g b i).1 (zw g b i).2 0 (w64 (room-1)) else-1)
  else yX r g b (i+1) (if zu (zw g b i).1 (zw g b i).2.len x.1 x.2.size l.len=true then yX l (zw g b i).1 (zw g b i).2 0 (w64 (room-1)) else-1)
def yf (g:Nat)(b:Kf)(x:Nat×ByteArray)(l:Fe)(room:Int):Int:=
 if zu g b.len x.1 x.2.size l.len=true then yX l g b 0 (w64 (room-1)) else-1
theorem vE (x:Nat×ByteArray)(l r:Fe)(g:Nat)(b:Kf)(i:Nat)(room:Int):yX (.cons x l r) g b i room=
 if yf (zw g b i).1 (zw g b i).2 x l room<0 then yf (zw g b i).1 (zw g b i).2 x l room else yX r g b (i+1) (yf (zw g b i).1 (zw g b i).2 x l room):=rfl
def zR (g:Nat):Bool:=decide (g=40)||decide (g=42)
def zQ (g:Nat)(x:Nat×ByteArray):ByteArray:=if g=110 then zh (dg x.1) else if zR g=true then ⟨#[]⟩ else x.2
def yu:Fe→Nat→Kf→Nat→Fo
 | .nil,_,_,_=>.nil
 | .cons x l r,g,b,i=>.cons (zR (zw g b i).1) (zQ (zw g b i).1 x) (if zR (zw g b i).1=true then yu l (zw g b i).1 (zw g b i).2 0 else .nil) (yu r g b (i+1))
def zA (g:Nat)(b:Kf)(l:Fe):Fo:=if zR g=true then yu l g b 0 else .nil
theorem vF (x:Nat×ByteArray)(l r:Fe)(g:Nat)(b:Kf)(i:Nat):yu (.cons x l r) g b i=.cons (zR (zw g b i).1) (zQ (zw g b i).1 x) (zA (zw g b i).1 (zw g b i).2 l) (yu r g b (i+1)):=rfl
def zY (g:Nat)(l:Bool)(s:ByteArray)(n:Nat):Nat:=if g=110 then (qx l s n).1 else 0
def zW (g:Nat)(s:ByteArray):ByteArray:=if g=110∨zR g=true then ⟨#[]⟩ else s
def yC:Fo→Nat→Kf→Nat→Fe
 | .nil,_,_,_=>.nil
 | .cons l s k r,g,b,i=>.cons (zY (zw g b i).1 l s k.len,zW (zw g b i).1 s) (if zR (zw g b i).1=true then yC k (zw g b i).1 (zw g b i).2 0 else .nil) (yC r g b (i+1))
def yh (g:Nat)(b:Kf)(k:Fo):Fe:=if zR g=true then yC k g b 0 else .nil
theorem uR (l:Bool)(s:ByteArray)(k r:Fo)(g:Nat)(b:Kf)(i:Nat):yC (.cons l s k r) g b i=.cons (zY (zw g b i).1 l s k.len,zW (zw g b i).1 s) (yh (zw g b i).1 (zw g b i).2 k) (yC r g b (i+1)):=rfl
theorem Fr.len_zero {α:Type}{k:Fr α}(h:k.len=0):k=.nil:=by
 cases k with
 | nil=>rfl
 | cons a k r=>simp only [Fr.len] at h;omega
theorem jm {s:ByteArray}(h:s.size=0):s=⟨#[]⟩:=by
 obtain ⟨d⟩:=s;have:d=#[]:=Array.eq_empty_of_size_eq_zero h;rw [this]
theorem uS {g bl n sz ln:Nat}(h:zu g bl n sz ln=true):(n=0∨g=110)∧((yg g).1≤sz∧sz≤(yg g).2)∧(yj g bl).1≤ln∧ln≤(yj g bl).2:=by
 unfold zu yL at h;simp only [Bool.and_eq_true,Bool.or_eq_true,decide_eq_true_eq] at h;exact h
theorem zec (g:Nat)(b:Kf)(x:Nat×ByteArray)(l:Fe)(hx:x.1<0x10000000000000000)(hf:zu g b.len x.1 x.2.size l.len=true)
 (hr:zR g=true→yC (yu l g b 0) g b 0=l):zY g (zR g) (zQ g x) (zA g b l).len=x.1∧zW g (zQ g x)=x.2∧yh g b (zA g b l)=l:=by
 obtain ⟨h1,h2,h3⟩:=uS hf;obtain ⟨n,s⟩:=x;unfold zY zW zQ yh zA zR at*;by_cases e1:g=110
 ·subst e1;have hs:s.size=0:=by have:=h2.2;simp only [yg] at this;simp at this;rw [this];rfl
  have hl:l.len=0:=by have:=h3.2;simp only [yj] at this;simp at this;exact this
  obtain rfl:=Fr.len_zero hl;obtain rfl:=jm hs;refine ⟨?_,rfl,rfl⟩;show (qx false (zh (dg n)) 0).1=n;rw [zhM hx]
 ·have hn:n=0:=by rcases h1 with h | h;exact h;exact absurd h e1
  subst hn;by_cases e2:(decide (g=40)||decide (g=42))=true
  ·have hs:s.size=0:=by
    have:=h2.2;simp only [Bool.or_eq_true,decide_eq_true_eq] at e2;rcases e2 with rfl | rfl<;>(simp only [yg] at this;simp at this;rw [this];rfl)
   obtain rfl:=jm hs;simp only [e1,e2,if_false,if_true,or_true];exact ⟨trivial,trivial,hr e2⟩
  ·have hl:l.len=0:=by
    have:=h3.2;simp only [Bool.or_eq_true,decide_eq_true_eq,not_or] at e2;simp only [yj,e2.1,e2.2,if_false] at this;omega
   obtain rfl:=Fr.len_zero hl;have e3:=Bool.not_eq_true _▸e2;refine ⟨?_,?_,?_⟩<;>simp [e1,e3]
theorem zbD: ∀(l:Fe) (g:Nat) (b:Kf) (i:Nat) (room:Int),l.all fS.ok→0≤yX l g b i room→yC (yu l g b i) g b i=l
 | .nil,_,_,_,_,_,_=>rfl
 | .cons x l r,g,b,i,room,ho,h=>by
  rw [vE] at h;by_cases hv:yf (zw g b i).1 (zw g b i).2 x l room<0
  ·rw [if_pos hv] at h;omega
  ·rw [if_neg hv] at h;have hv':=hv;unfold yf at hv;by_cases hf:zu (zw g b i).1 (zw g b i).2.len x.1 x.2.size l.len=true
   ·rw [if_pos hf] at hv;obtain ⟨q1,q2,q3⟩:=zec _ _ x l ho.1.1 hf fun _=>zbD l _ _ 0 _ ho.2.1 (Int.not_lt.1 hv);rw [vF,uR,q1,q2,q3,zbD r g b (i+1) _ ho.2.2 h]
   ·rw [if_neg hf] at hv;omega
def yI (g:Nat)(b:Kf)(x:Nat×ByteArray)(l:Fe):ByteArray×Nat:=
 if yf g b x l 1001<0 then (⟨#[]⟩,1) else zP (zR g) (zQ g x) (zA g b l).len (zA g b l)
theorem vG {g:Nat}{b:Kf}{x:Nat×ByteArray}{l:Fe}(hx:x.1<0x10000000000000000)(ho:l.all fS.ok)(h: ¬yf g b x l 1001<0):
 zY g (zR g) (zQ g x) (zA g b l).len=x.1∧zW g (zQ g x)=x.2∧yh g b (zA g b l)=l:=by
 unfold yf at h;by_cases hf:zu g b.len x.1 x.2.size l.len=true
 ·rw [if_pos hf] at h;exact zec g b x l hx hf fun _=>zbD l g b 0 _ ho (Int.not_lt.1 h)
 ·rw [if_neg hf] at h;omega
def Fr.snoc {α:Type} :Fr α→α→Fr α→Fr α
 | .nil,a,k=>.cons a k .nil
 | .cons a' k' r,a,k=>.cons a' k' (r.snoc a k)
theorem zed {α:Type}(x:El α): ∀L:List (El α),ys (L++ [x])=(ys L).snoc x.a x.k
 | []=>rfl
 | y::r=>by simp only [List.cons_append,ys,Fr.snoc,zed x r]
def xa:Nat→Kf→List (Nat×Kf)→List (Nat×Kf)
 | _,_,[]=>[]
 | g,k,(h,m)::r=>if h=42 then xa h (m.snoc g k) r else (h,m.snoc g k)::r
def jc (c:Nat)(st:List (Nat×Kf)):Option (List (Nat×Kf)):=
 if c=110∨c=104∨c=97∨c=115∨c=98 then some (xa c .nil st)
 else if c=40∨c=42 then if st.length=5 then none else some ((c,.nil)::st)
 else if c=41 then match st with
  | []=>none
  | (h,m)::r=>if r.length=0∨h≠40 then none else some (xa h m r)
 else none
def xE:List UInt8→List (Nat×Kf)→Option (List (Nat×Kf))
 | [],st=>some st
 | c::r,st=>match jc c.toNat st with
  | none=>none
  | some st'=>xE r st'
def parseM (form:ByteArray):Option Kf:=
 if 40<form.size then none else match xE (tl form) [(40,.nil)] with
  | some [(_,m)]=>some m
  | _=>none
def yo (c:Nat):Bool:=c==110||(c==104||(c==97||(c==115||c==98)))
theorem jo {c:Nat} :yo c=true↔c=110∨c=104∨c=97∨c=115∨c=98:=by unfold yo;simp
def kdOk (s:ByteArray):Bool:=(s.size==1&&yo (by_ s 0))||(s.size==2&&(by_ s 0==42&&yo (by_ s 1)))
theorem uT {s:ByteArray} :kdOk s=true↔(s.size=1∧yo (by_ s 0)=true)∨(s.size=2∧by_ s 0=42∧yo (by_ s 1)=true):=by
 unfold kdOk;simp
def kdB (s:ByteArray):Kf:=if by_ s 0=42 then .cons (by_ s 1) .nil .nil else .nil
def kfL:List ByteArray→Kf
 | []=>.nil
 | s::r=>.cons (by_ s 0) (kdB s) (kfL r)
theorem zee: ∀ks:List ByteArray,(kfL ks).len=ks.length
 | []=>rfl
 | s::r=>by simp only [kfL,Fr.len,zee r,List.length_cons]
theorem zef: ∀(ks:List ByteArray) (i:Nat),(kfL ks).at i=(ks[i]?).map fun s=>(by_ s 0,kdB s)
 | [],i=>by cases i<;>rfl
 | s::r,0=>rfl
 | s::r,i+1=>by simp only [kfL,Fr.at,zef r i,List.getElem?_cons_succ]
theorem zbE (ks:List ByteArray)(i:Nat):zw 40 (kfL ks) i=match ks[i]? with
 | some s=>(by_ s 0,kdB s)
 | none=>(0,.nil):=by
 unfold zw;rw [if_neg (by decide),zef];cases ks[i]?<;>rfl
theorem vH (c i:Nat):zw 42 (.cons c .nil .nil) i=(c,.nil):=by
 unfold zw;rw [if_pos rfl];rfl
def Fr.cnt {α:Type} :Fr α→Nat
 | .nil=>0
 | .cons _ k r=>1+k.cnt+r.cnt
def yR (c:Nat):Fe→Bool
 | .nil=>true
 | .cons x l r=>zu c 0 x.1 x.2.size l.len&&yR c r
def yS (s:ByteArray)(x:Nat×ByteArray)(l:Fe):Bool:=zu (by_ s 0) (kdB s).len x.1 x.2.size l.len&&(!(by_ s 0==42)||yR (by_ s 1) l)
def yt:List ByteArray→Fe→Bool
 | [],.nil=>true
 | s::ks,.cons x l r=>yS s x l&&yt ks r
 | [],.cons _ _ _=>false
 | _::_,.nil=>false
theorem vI: ∀ {ks:List ByteArray} {l:Fe},yt ks l=true→l.len=ks.length
 | [],.nil,_=>rfl
 | s::ks,.cons x l r,h=>by
  simp only [yt,Bool.and_eq_true] at h;simp only [Fr.len,List.length_cons,vI h.2]
 | [],.cons _ _ _,h=>nomatch h
 | _::_,.nil,h=>nomatch h
theorem zeg {c:Nat}(hc:yo c=true){n sz ln:Nat}(h:zu c 0 n sz ln=true):ln=0:=by
 have h3:=(uS h).2.2.2;have:(yj c 0).2=0:=by
  rw [jo] at hc;unfold yj;rw [if_neg (by omega),if_neg (by omega)]
 omega
theorem zeh {r:Nat}(h:r≤2000):w64 ((r:Int)-1)=(r:Int)-1:=by
 unfold w64;exact wrap_i64 (by omega) (by omega)
def LeR (v:Int)(P:Prop)(n room:Nat):Prop:=(P∧n≤room→v=((room-n:Nat):Int))∧(¬(P∧n≤room)→v<0)
theorem LeR.pos {v:Int}{P:Prop}{n room:Nat}(h:LeR v P n room): ¬v<0↔P∧n≤room:=by
 constructor
 ·intro h1;by_cases h2:P∧n≤room
  ·exact h2
  ·exact absurd (h.2 h2) h1
 ·intro h1 h2;rw [h.1 h1] at h2;omega
theorem LeR.two {x:Nat×ByteArray}{l r:Fe}{g:Nat}{b:Kf}{i:Nat}{room:Nat}{P Q:Prop}(h1:LeR (yf (zw g b i).1 (zw g b i).2 x l room) P (1+l.cnt) room)
 (h2:P→ ∀q:Nat,q≤room→LeR (yX r g b (i+1) q) Q r.cnt q):LeR (yX (.cons x l r) g b i room) (P∧Q) (Fr.cnt (.cons x l r)) room:=by
 rw [vE];have ec:Fr.cnt (Fr.cons x l r)=1+l.cnt+r.cnt:=rfl;rw [ec];by_cases hv:yf (zw g b i).1 (zw g b i).2 x l room<0
 ·rw [if_pos hv];refine ⟨fun h=>?_,fun _=>hv⟩;exact absurd hv (h1.pos.2 ⟨h.1.1,by omega⟩)
 ·rw [if_neg hv];obtain ⟨hP,hn⟩:=h1.pos.1 hv;rw [h1.1 ⟨hP,hn⟩];have h3:=h2 hP (room-(1+l.cnt)) (by omega);refine ⟨fun h=>?_,fun h=>?_⟩
  ·rw [h3.1 ⟨h.1.2,by omega⟩];congr 1;omega
  ·exact h3.2 fun h9=>h ⟨⟨hP,h9.1⟩,by omega⟩
theorem zei {c:Nat}(hc:yo c=true)(x:Nat×ByteArray)(l:Fe)(room:Nat)(hr:room≤2000):LeR (yf c .nil x l room) (zu c 0 x.1 x.2.size l.len=true) (1+l.cnt) room:=by
 unfold yf;by_cases hf:zu c 0 x.1 x.2.size l.len=true
 ·rw [if_pos (show zu c (Fr.len .nil) x.1 x.2.size l.len=true from hf),zeh hr];obtain rfl:=Fr.len_zero (zeg hc hf);show LeR ((room:Int)-1) _ (1+0) room;exact ⟨fun h=>by omega,fun h=>by have: ¬1+0≤room:=fun h9=>h ⟨hf,h9⟩;omega⟩
 ·rw [if_neg (show ¬zu c (Fr.len .nil) x.1 x.2.size l.len=true from hf)];exact ⟨fun h=>absurd h.1 hf,fun _=>by decide⟩
theorem zej {c:Nat}(hc:yo c=true): ∀(l:Fe) (i room:Nat),room≤2000→LeR (yX l 42 (.cons c .nil .nil) i room) (yR c l=true) l.cnt room
 | .nil,i,room,_=>⟨fun _=>rfl,fun h=>absurd ⟨rfl,Nat.zero_le _⟩ h⟩
 | .cons x l r,i,room,hr=>by
  have h1:=zei hc x l room hr;have h2:LeR (yf (zw 42 (.cons c .nil .nil) i).1 (zw 42 (.cons c .nil .nil) i).2 x l room) (zu c 0 x.1 x.2.size l.len=true) (1+l.cnt) room:=by rw [vH];exact h1
  have h3:=LeR.two (r:=r) (Q:=yR c r=true) h2 fun _ q hq=>zej hc r (i+1) q (by omega);have e:(yR c (.cons x l r)=true)=(zu c 0 x.1 x.2.size l.len=true∧yR c r=true):=by simp only [yR,Bool.and_eq_true]
  rw [e];exact h3
theorem ziA {s:ByteArray}(hs:kdOk s=true)(x:Nat×ByteArray)(l:Fe)(room:Nat)(hr:room≤2000):LeR (yf (by_ s 0) (kdB s) x l room) (yS s x l=true) (1+l.cnt) room:=by
 rcases uT.1 hs with ⟨h1,h2⟩|⟨h1,h2,h3⟩
 ·have hn: ¬by_ s 0=42:=by rw [jo] at h2;omega
  have eb:kdB s=.nil:=by unfold kdB;rw [if_neg hn]
  have e:(yS s x l=true)=(zu (by_ s 0) 0 x.1 x.2.size l.len=true):=by
   unfold yS;rw [eb,beq_eq_false_iff_ne.2 hn];simp [Fr.len]
  rw [e,eb];exact zei h2 x l room hr
 ·have eb:kdB s=.cons (by_ s 1) .nil .nil:=by unfold kdB;rw [if_pos h2]
  have e:(yS s x l=true)=(zu 42 1 x.1 x.2.size l.len=true∧yR (by_ s 1) l=true):=by
   unfold yS;rw [eb,h2];simp [Fr.len]
  rw [e,eb,h2];unfold yf;by_cases hf:zu 42 1 x.1 x.2.size l.len=true
  ·rw [if_pos (show zu 42 (Fr.len (.cons (by_ s 1) .nil .nil)) x.1 x.2.size l.len=true from hf),zeh hr];by_cases h0:room=0
   ·subst h0;refine ⟨fun h=>by omega,fun _=>?_⟩;cases l with
    | nil=>exact (by decide:w64 (-1)<0)
    | cons y k r=>
     have hk:yf (by_ s 1) .nil y k (-1)<0:=by
      unfold yf;by_cases hf2:zu (by_ s 1) 0 y.1 y.2.size k.len=true
      ·rw [if_pos (show zu (by_ s 1) (Fr.len .nil) y.1 y.2.size k.len=true from hf2)];obtain rfl:=Fr.len_zero (zeg h3 hf2);exact (by decide:w64 (-1-1)<0)
      ·rw [if_neg (show ¬zu (by_ s 1) (Fr.len .nil) y.1 y.2.size k.len=true from hf2)];decide
     show yX _ _ _ _ (-1)<0;rw [vE,vH,if_pos hk];exact hk
   ·have h4:=zej h3 l 0 (room-1) (by omega);rw [show (room:Int)-1=((room-1:Nat):Int) by omega];refine ⟨fun h=>?_,fun h=>h4.2 fun h9=>h ⟨⟨hf,h9.1⟩,by omega⟩⟩;rw [h4.1 ⟨h.1.2,by omega⟩];congr 1;omega
  ·rw [if_neg (show ¬zu 42 (Fr.len (.cons (by_ s 1) .nil .nil)) x.1 x.2.size l.len=true from hf)];exact ⟨fun h=>absurd h.1.1 hf,fun _=>by decide⟩
theorem zek {ks0:List ByteArray}(h0: ∀s∈ks0,kdOk s=true): ∀(ks:List ByteArray) (l:Fe) (i room:Nat),ks0.drop i=ks→l.len=ks.length→room≤2000→LeR (yX l 40 (kfL ks0) i room) (yt ks l=true) l.cnt room
 | [],.nil,i,room,_,_,_=>⟨fun _=>rfl,fun h=>absurd ⟨rfl,Nat.zero_le _⟩ h⟩
 | [],.cons _ _ _,_,_,_,h,_=>by simp [Fr.len] at h
 | _::_,.nil,_,_,_,h,_=>by simp [Fr.len] at h
 | s::ks,.cons x l r,i,room,hd,hl,hr=>by
  have hi:ks0[i]? =some s:=by
   have:=congrArg (fun L=>L[0]?) hd
   simpa using this
  have h1:LeR (yf (zw 40 (kfL ks0) i).1 (zw 40 (kfL ks0) i).2 x l room) (yS s x l=true) (1+l.cnt) room:=by
   rw [zbE,hi];exact ziA (h0 s (List.mem_of_getElem? hi)) x l room hr
  have h3:=LeR.two (r:=r) (Q:=yt ks r=true) h1 fun _ q hq=>zek h0 ks r (i+1) q (by rw [←List.drop_drop,hd];rfl) (by simp only [Fr.len,List.length_cons] at hl;omega) (by omega);have e:(yt (s::ks) (.cons x l r)=true)=(yS s x l=true∧yt ks r=true):=by simp only [yt,Bool.and_eq_true]
  rw [e];exact h3
theorem uU {ks:List ByteArray}(h0: ∀s∈ks,kdOk s=true)(l:Fe): ¬yf 40 (kfL ks) (0,⟨#[]⟩) l 1001<0↔yt ks l=true∧l.cnt≤1000:=by
 unfold yf;have ef:zu 40 (kfL ks).len 0 (ByteArray.size ⟨#[]⟩) l.len=decide (l.len=ks.length):=by
  rw [zee];unfold zu yL yg yj;simp only [decide_eq_decide];rw [Bool.eq_iff_iff];simp only [Bool.and_eq_true,Bool.or_eq_true,decide_eq_true_eq];simp;constructor
  ·rintro ⟨_,h⟩;omega
  ·intro h;exact ⟨rfl,by omega⟩
 by_cases hl:l.len=ks.length
 ·rw [if_pos (show zu 40 (kfL ks).len (0,(⟨#[]⟩:ByteArray)).1 (ByteArray.size (0,(⟨#[]⟩:ByteArray)).2) l.len=true by exact ef.trans (decide_eq_true hl))];rw [show w64 (1001-1)=((1000:Nat):Int) by decide];exact (zek h0 ks l 0 1000 rfl hl (by decide)).pos
 ·rw [if_neg (show ¬zu 40 (kfL ks).len (0,(⟨#[]⟩:ByteArray)).1 (ByteArray.size (0,(⟨#[]⟩:ByteArray)).2) l.len=true by
   intro h;exact hl (of_decide_eq_true (ef.symm.trans h)))]
  exact ⟨fun h=>absurd (by decide) h,fun h=>absurd (vI h.1) hl⟩
def nxK (form:ByteArray)(i:Nat):Nat:=if by_ form i=42 then i+2 else i+1
def ksM (form:ByteArray):Nat→Nat→List ByteArray
 | 0,_=>[]
 | f+1,i=>if i<form.size then form.extract i (nxK form i)::ksM form f (nxK form i) else []
def okK (form:ByteArray):Nat→Nat→Bool
 | 0,i=>decide (form.size≤i)
 | f+1,i=>decide (form.size≤i)||((yo (by_ form i)||(by_ form i==42&&(decide (i+1<form.size)&&yo (by_ form (i+1)))))&&okK form f (nxK form i))
structure xF (form:ByteArray)(ks:List ByteArray):Prop where
 size:form.size≤40
 ok:okK form 41 0=true
 cut:ksM form 41 0=ks
 parse:parseM form=some (kfL ks)
 kd: ∀s∈ks,kdOk s=true
theorem uV (form:ByteArray): ∀f i:Nat,(ksM form f i).length≤f
 | 0,_=>Nat.le_refl _
 | f+1,i=>by
  unfold ksM;split
  ·rw [List.length_cons];have:=uV form f (nxK form i);omega
  ·exact Nat.zero_le _
theorem xF.few {form:ByteArray}{ks:List ByteArray}(h:xF form ks):ks.length≤1000:=by
 rw [←h.cut];exact Nat.le_trans (uV form 41 0) (by decide)
theorem ziB {form:ByteArray}{f i:Nat}(h:okK form (f+1) i=true)(hi:i<form.size):(yo (by_ form i)=true∨(by_ form i=42∧i+1<form.size∧yo (by_ form (i+1))=true))∧okK form f (nxK form i)=true:=by
 unfold okK at h;rw [Bool.or_eq_true,decide_eq_true_iff,Bool.and_eq_true,Bool.or_eq_true,Bool.and_eq_true,Bool.and_eq_true,decide_eq_true_iff,beq_iff_eq] at h;rcases h with h | h
 ·omega
 ·exact h
theorem ziC {form:ByteArray}{f i:Nat}(h:okK form f i=true)(hf:form.size<i+f+1)(hi: ¬i<form.size):ksM form f i=[]:=by
 cases f with
 | zero=>rfl
 | succ f=>unfold ksM;rw [if_neg hi]
theorem ziD {form:ByteArray}{f i:Nat}(h:okK form f i=true)(hi:i<form.size):∃g,f=g+1:=by
 cases f with
 | zero=>unfold okK at h;rw [decide_eq_true_iff] at h;omega
 | succ g=>exact ⟨g,rfl⟩
namespace D2
section
variable {P:Program}{ops:Array Oper}{R:(Nat→Gh)→Env}{i:Nat}{d:Option Nat}{pre:(Nat→Bool)→(Nat→Gh)→World→Prop}
theorem gv_opW {V:Value}(hs: ∀L g w,pre L g w→pre (put1 L i) g w)(op:Op)(h: ∀g,opk ops i (R g)=some (d,true,op))(hr: ∀L g (o:Oper) w,Now ops i L→pre L g w→o.op=op→(execOp (ev (R g)) o).run P w=.ok (.value V) w):Gives P ops R pre i d (fun _=>V):=
 gives_of fun L g w hp hN=>by
  obtain ⟨o,ho,hd,hw,hop⟩:=zE (h g);exact ⟨o,ho,hd,.inr ⟨hw,by rw [hr L g o w hN hp hop];exact ⟨g i,rfl,by rw [setN_self];exact hs _ _ _ hp⟩⟩⟩
theorem gv_ld {V:Value}(hs: ∀L g w,pre L g w→pre (put1 L i) g w)(t:TypeId)(x:Operand)(b:(Nat→Gh)→Nat)(off:Nat)(C:Array Value)(T:TypeId)(fz:Nat×Nat)(h: ∀g,opk ops i (R g)=some (d,true,.load t x))
 (hx: ∀g,ev (R g) x=.pointer (some ⟨b g,off,none⟩)) (hh: ∀L g w,Now ops i L→pre L g w→w.heap[b g]? =some (.cells C T fz)) (hok:vc P t off C=true) (hV:ldv P t off C=V):Gives P ops R pre i d (fun _=>V):=
 gv_opW hs _ h fun L g o w hN hp ho=>by
  have:=zaZ (P:=P) hok (hh L g w hN hp);rw [hV] at this;simp [execOp,ho,Instr.loadAt,Instr.sureAddr,hx,this]
theorem gv_cpW {V:Value}(hs: ∀L g w,pre L g w→pre (put1 L i) g w)(f:Nat)(args:Array Value){pr:World→Prop}(hc:FnP P f args pr V)(hpr: ∀L g w,Now ops i L→pre L g w→pr w)(hb: ∀L g w w',Now ops i L→pre L g w→Below w.heap.size w w'→pre L g w')(h: ∀g w,opv P ops i (R g) w=some (d,true,.ok (.enter f args) w)):Gives P ops R pre i d (fun _=>V):=
 gives_of fun L g w hp hN=>by
  obtain ⟨o,ho,hd,hw,hr⟩:=zU (h g w);refine ⟨o,ho,hd,.inr ⟨hw,?_⟩⟩;rw [hr];refine Calls.mono (hc w (hpr L g w hN hp)) ?_;rintro e w' ⟨rfl,hbl⟩;exact ⟨V,rfl,g i,rfl,by rw [setN_self];exact hs _ _ _ (hb L g w w' hN hp hbl)⟩
theorem gv_ft {V:Gh→Value}(f:Nat)(args:Array Value){pr:World→Prop}{ok:Value→List (Nat×Obj)→Prop}(hc:FnT P f args pr ok)(hpr: ∀L g w,Now ops i L→pre L g w→pr w)
 (hk: ∀L g w v T w',Now ops i L→pre L g w→ok v T→St w.heap.size w w' T→∃x:Gh,v=V x∧pre (put1 L i) (setN g i x) w') (h: ∀g w,opv P ops i (R g) w=some (d,true,.ok (.enter f args) w)):Gives P ops R pre i d V:=
 gives_of fun L g w hp hN=>by
  obtain ⟨o,ho,hd,hw,hr⟩:=zU (h g w);refine ⟨o,ho,hd,.inr ⟨hw,?_⟩⟩;rw [hr];refine Calls.mono (hc w (hpr L g w hN hp)) ?_;rintro e w' ⟨v,T,rfl,hok,hT⟩;obtain ⟨x,hv,hq⟩:=hk L g w v T w' hN hp hok hT;exact ⟨v,rfl,x,hv,hq⟩
end
end D2
abbrev yp (B:Nat)(w0:World)(ok:Value→List (Nat×Obj)→Prop):Value→World→Prop:=fun v' w'=> ∃T,ok v' T∧St B w0 w' T
theorem FnT.intro {P:Program}{f:Nat}{fn:Func}{c:Code}(rs:List ResultVar)(N:Nat){args:Array Value}{pre:World→Prop}{ok:Value→List (Nat×Obj)→Prop}(hf:P.funcs[f]? =some fn)(hb:fn.body=some c)(hr:fn.results.toList=rs)(hn:args.size+(fn.ntmps-args.size)=N)
 (h: ∀w,pre w→WP P N c (yE P rs (yp w.heap.size w ok)) (ini args) w):FnT P f args pre ok:=fun w hp=>
 (jQ hf hb hr hn (h w hp)).mono fun e w' ⟨v',he,T,hv⟩=>⟨v',T,he,hv⟩
section
variable {P:Program}{N:Nat}{ops:Array Oper}{i:Nat}{r:List Nat}{K:Env→World→Prop}{ρ:Env}{w:World}{B:Nat}{w0:World}{l:List (Nat×Obj)}
theorem qy (HS:St B w0 w l)(d:Option Nat)(f:Nat)(args:Array Value){pre:World→Prop}{ok:Value→List (Nat×Obj)→Prop}(hc:FnT P f args pre ok)(hp:pre w)
 (h:opv P ops i ρ w=some (d,true,.ok (.enter f args) w)) (hd:dOK d N=true)
 (kk: ∀v T w',ok v T→St B w0 w' (T++l)→WPs P N ops K r (zr ρ d v) w'):WPs P N ops K (i::r) ρ w:=by
 obtain ⟨o,ho,rfl,hw,hr⟩:=zU h;refine WPo.run ho hw fun a ha=>?_;rw [hr,Oper.upon_enter];refine (hc w hp).mono ?_;rintro e w' ⟨v,T,rfl,hok,hT⟩;exact ⟨_,ha.put _ (zT hd) _,kk v T w' hok (HS.addAll hT)⟩
theorem ziE (HS:St B w0 w l)(d:Option Nat)(t e:TypeId)(K' bytes:Nat)(x y:Operand)(kl kc:IntKind)(n:Nat)(h:opk ops i ρ=some (d,true,.makeSlice t x y))(hd:dOK d N=true)(ht:yy P t=some (e,K',bytes))
 (hx:ev ρ x=.int kl (n:Int)) (hy:ev ρ y=.int kc (n:Int)) (hb:bytes*n≤281474976710656) (hm:n≤maxLen)
 (kk: ∀b cur w',St B w0 w' ((b,.cells cur e (0,0))::l)→cur.size=n*K'→WPs P N ops K r (zr ρ d (.slice (some ⟨b,0,none⟩) n n)) w'):WPs P N ops K (i::r) ρ w:=by
 obtain ⟨o,ho,rfl,hw,hop⟩:=zE h;obtain ⟨it,z',hu,hi,hz',hsz,hby,hzs,h0⟩:=qu ht;have hml:n≤0x7fffffffffffffff:=by have:=hm;simp only [maxLen] at this;omega
 have hbi:(it.bytes:Int)*(n:Int)≤281474976710656:=by
  rw [hby,←Int.natCast_mul];omega
 have hr:=run_make (P:=P) w t e it z' hu hi hz' kl kc (n:Int) (n:Int) (by omega) (by omega) hbi (by omega);simp only [Int.toNat_natCast,hsz] at hr;refine WPo.run ho hw fun a ha=>?_;have hex:(execOp (ev ρ) o).run P w=.ok (.value (.slice (some ⟨w.heap.size,0,none⟩) n n)) (w.alloc (.cells (madeCells z'.cells (n*K')) e)):=by
  unfold execOp;simp only [hop,hx,hy,Sem.run_bind,hr,Result.andThen_ok];rfl
 rw [hex,Oper.upon_value];refine ⟨_,ha.put _ (zT hd) _,kk _ _ _ (HS.alloc _) ?_⟩;unfold madeCells;simp
end
end Go.Proofs.YtbpmjppmpgeejaaGreatDoor
namespace Go.Proofs.YtbpmjppmpgeejaaGreatDoor
open Go Go.RowKit
set_option linter.unusedVariables false
structure Fl (α:Type) where
 K:Nat
 cs:α→List Value
 pos:0<K
 len: ∀a,(cs a).length=K
 one: ∀a,∀u∈cs a,u.oneCell'=true
section
variable {α:Type}{S:Fl α}
def cellsF (S:Fl α):List α→List Value
 | []=>[]
 | x::r=>S.cs x++cellsF S r
theorem jB: ∀L:List α,(cellsF S L).length=L.length*S.K
 | []=>by simp [cellsF]
 | x::r=>by simp only [cellsF,List.length_append,jB r,S.len,List.length_cons,Nat.succ_mul];omega
theorem zbF: ∀L M:List α,cellsF S (L++M)=cellsF S L++cellsF S M
 | [],M=>by simp [cellsF]
 | y::r,M=>by simp only [List.cons_append,cellsF,zbF r M,List.append_assoc]
theorem zel (x:α)(L:List α):cellsF S (L++ [x])=cellsF S L++S.cs x:=by
 rw [zbF];simp [cellsF]
theorem zbG: ∀L:List α,∀u∈cellsF S L,u.oneCell'=true
 | [],u,h=>by simp [cellsF] at h
 | x::r,u,h=>by
  rcases List.mem_append.1 h with q|q
  ·exact S.one x u q
  ·exact zbG r u q
theorem zbH: ∀(L:List α) (i:Nat) (x:α),L[i]? =some x→ ∀j,j<S.K→(cellsF S L)[i*S.K+j]? =(S.cs x)[j]?
 | y::r,0,x,h,j,hj=>by
  obtain rfl:y=x:=by simpa using h
  rw [Nat.zero_mul,Nat.zero_add];unfold cellsF;rw [List.getElem?_append_left (by rw [S.len];exact hj)]
 | y::r,i+1,x,h,j,hj=>by
  unfold cellsF;rw [List.getElem?_append_right (by rw [S.len,Nat.succ_mul];omega),S.len,show (i+1)*S.K+j-S.K=i*S.K+j by rw [Nat.succ_mul];omega];exact zbH r i x (by simpa using h) j hj
def xG (S:Fl α)(C:Array Value)(off:Nat)(L:List α):Prop:= ∀(i:Nat) (x:α),L[i]? =some x→off+i*S.K+S.K≤C.size∧C.extract (off+i*S.K) (off+i*S.K+S.K)=(S.cs x).toArray
theorem xG.cell {C:Array Value}{off:Nat}{L:List α}(h:xG S C off L){i:Nat}{x:α}(hx:L[i]? =some x)(j:Nat)(hj:j<S.K):C[off+i*S.K+j]? =(S.cs x)[j]? :=by
 obtain ⟨h1,h2⟩:=h i x hx;have e:(C.extract (off+i*S.K) (off+i*S.K+S.K))[j]? =C[off+i*S.K+j]? :=by
  rw [Array.getElem?_extract,if_pos (by omega)]
 rw [←e,h2];simp
theorem Rw.rowAt {cur:Array Value}{cap n:Nat}{L:List α}(h:Rw S.K cur cap n (cellsF S L)):xG S cur 0 L:=fun i x hx=>by
 have hl:=h.len;rw [jB] at hl;have hi:i<L.length:=(List.getElem?_eq_some_iff.1 hx).1;rw [Nat.zero_add];refine exE (S.len x) (fun j hj=>?_) S.pos
 rw [h.get _ (by
  rw [←hl];have:i*S.K+S.K≤L.length*S.K:=by rw [←Nat.succ_mul];exact Nat.mul_le_mul_right _ hi
  omega),zbH L i x hx j hj]
theorem Rw.lenF {cur:Array Value}{cap n:Nat}{L:List α}(h:Rw S.K cur cap n (cellsF S L)):L.length=n:=by
 have hl:=h.len;rw [jB] at hl;exact Nat.eq_of_mul_eq_mul_right S.pos hl
def yk (S:Fl α)(ty:TypeId)(p:Option Addr)(n c:Nat)(row:List (Nat×Obj))(L:List α):Prop:=(p=none∧n=0∧c=0∧row=[]∧L=[])∨∃b cur,p=some ⟨b,0,none⟩∧row=[(b,.cells cur ty (0,0))]∧Rw S.K cur c n (cellsF S L)
theorem yk.len {ty:TypeId}{p:Option Addr}{n c:Nat}{row:List (Nat×Obj)}{L:List α}(h:yk S ty p n c row L):L.length=n:=by
 rcases h with ⟨_,rfl,_,_,rfl⟩|⟨b,cur,_,_,hr⟩
 ·rfl
 ·exact hr.lenF
structure zmZ (S:Fl α)(C:Array Value)(n i:Nat)(M:List α):Prop where
 sz:C.size=n*S.K
 len:M.length=i
 take:C.toList.take (i*S.K)=cellsF S M
end
namespace D2
section
variable {P:Program}{ops:Array Oper}{R:(Nat→Gh)→Env}{d:Option Nat}
theorem gv_cW {pre:(Nat→Bool)→(Nat→Gh)→World→Prop}{i:Nat}{V:Value}(hs: ∀L g w,pre L g w→pre (put1 L i) g w)(f:Nat)(args:Array Value)(hc:Fn P f args V)(hb: ∀L g w w',Now ops i L→pre L g w→Below w.heap.size w w'→pre L g w')(h: ∀g w,opv P ops i (R g) w=some (d,true,.ok (.enter f args) w)):Gives P ops R pre i d (fun _=>V):=
 gv_cpW hs f args (pr:=fun _=>True) (fun w _=>hc w) (fun _ _ _ _ _=>trivial) hb h
variable {B:Nat}{w0:World}{E row:List (Nat×Obj)}{Y:Array Value}{ty:TypeId}{n:Nat}{K:Nat}{xs:List Value}
end
end D2
section
variable {α:Type}{S:Fl α}
theorem xG.at {C:Array Value}{off:Nat}{L:List α}(h:xG S C off L){q:Nat}{u:Value}(hq:(cellsF S L)[q]? =some u):C[off+q]? =some u:=by
 have hlt:=(List.getElem?_eq_some_iff.1 hq).1;rw [jB] at hlt;have hK:=S.pos;have hi:q / S.K<L.length:=(Nat.div_lt_iff_lt_mul hK).2 hlt;obtain ⟨x,hx⟩:∃x,L[q / S.K]? =some x:=⟨_,List.getElem?_eq_getElem hi⟩
 have hj:=Nat.mod_lt q hK;have e:q / S.K*S.K+q%S.K=q:=Nat.div_add_mod' q S.K;have h1:=zbH L _ x hx (q%S.K) hj;have h2:=h.cell hx (q%S.K) hj;rw [e] at h1;rw [Nat.add_assoc,e] at h2;rw [h2,←h1,hq]
variable {P:Program}{ρ:Env}{w w0:World}{B:Nat}{l:List (Nat×Obj)}
theorem ziF (HS:St B w0 w l){t e bytes:Nat}{s x:Operand}{o:Oper}{j b n cap m c:Nat}{a:Addr}{cur:Array Value}{xs:List Value}{M:List α}(ht:yy P t=some (e,S.K,bytes))(ho:o.op=yq t s x)
 (hs:ev ρ s=.slice (some ⟨b,0,none⟩) n cap) (hj:l[j]? =some (b,.cells cur e (0,0))) (hr:Rw S.K cur cap n xs) (hx:ev ρ x=.slice (some a) m c) (hM:m=M.length)
 (hk:M=[]∨∃bx off C T fz,a=⟨bx,off,none⟩∧w.heap[bx]? =some (.cells C T fz)∧xG S C off M)
 (hb:(n+m)*bytes≤0x800000000000) (hm:n+m≤maxLen):∃b' cap' cur' w',(execOp (ev ρ) o).run P w=.ok (.value (.slice (some ⟨b',0,none⟩) (n+m) cap')) w'∧St B w0 w' (l.set j (b',.cells cur' e (0,0)))∧Rw S.K cur' cap' (n+m) (xs++cellsF S M):=by
 obtain ⟨it,z,hu,hi,hz,hsz,hby,hzs,h0⟩:=qu ht;have hnews: ∀q u,(cellsF S M)[q]? =some u→w.cell? (a.add q)=some u:=fun q u hq=>by
  rcases hk with rfl|⟨bx,off,C,T,fz,rfl,hh,hR⟩
  ·simp [cellsF] at hq
  ·rw [qt];simp [World.cell?,hh,hR.at hq]
 obtain ⟨v',w',hrun,hown,hgr,hnil,hblk⟩:=run_append_own_at (P:=P) w B t o.type e it z S.K bytes hu hi hz hsz hby hzs h0 _ n xs (hr.owns (HS.ge j hj) (HS.get j hj)) a m c (cellsF S M) (by rw [jB,hM]) hnews (zbG M) hm hb HS.le;have hown':=hown;rcases hown'.2 with ⟨hv,_⟩|⟨g,cap',cur',rfl,hbg,hg,hnc,hcm,hcs,htk⟩
 ·exact absurd (hnil.1 hv).1 (by simp)
 ·have hgb:g=b∨g=w.heap.size:=by
   rcases hblk with hq|hq
   ·left;injection hq
   ·right;injection hq
  refine ⟨g,cap',cur',w',?_,HS.grown j hj hgr hgb hg,?_⟩
  ·unfold execOp;simp only [ho,yq,resolve,invoke,builtin,Sem.run_bind,Sem.run_pure,Result.andThen_ok,List.map_toArray,List.map_cons,List.map_nil,hs,hx,hrun]
  ·exact ⟨hown.1,hnc,hcm,htk,hcs⟩
variable {N:Nat}{ops:Array Oper}{i:Nat}{r:List Nat}{K:Env→World→Prop}
end
def pG (y:D2.Gh):Option Addr:=match y.l with
 | []=>none
 | _=>some ⟨y.b,0,none⟩
theorem zem {α:Type}{S:Fl α}{ty:TypeId}{p:Option Addr}{n c:Nat}{T:List (Nat×Obj)}{L:List α}(h:yk S ty p n c T L):∃x:D2.Gh,Value.slice p n c=.slice (pG x) x.n x.cap∧yk S ty (pG x) x.n x.cap T L:=by
 rcases h with ⟨rfl,rfl,rfl,rfl,rfl⟩|⟨b,cur,rfl,rfl,hr⟩
 ·exact ⟨{ n:=0,cap:=0 },rfl,.inl ⟨rfl,rfl,rfl,rfl,rfl⟩⟩
 ·exact ⟨{ b:=b,n:=n,cap:=c,l:=[1] },rfl,.inr ⟨b,cur,rfl,rfl,hr⟩⟩
end Go.Proofs.YtbpmjppmpgeejaaGreatDoor
namespace Go.Proofs.YtbpmjppmpgeejaaGreatDoor
open Go Go.RowKit
set_option linter.unusedVariables false
section
variable {P:Program}{w w0:World}
end
section
variable {P:Program}{N:Nat}{ops:Array Oper}{i:Nat}{r:List Nat}{K:Env→World→Prop}{ρ:Env}{w:World}{B:Nat}{w0:World}{l:List (Nat×Obj)}
end
namespace D2
def stg:List Nat→(Nat→Bool)→Nat
 | [],_=>0
 | k::r,L=>bif L k then stg r L+1 else 0
def chn (ks:List Nat)(Q:Nat→(Nat→Gh)→World→Prop):(Nat→Bool)→(Nat→Gh)→World→Prop:=fun L g w=>Q (stg ks L) g w
theorem zen: ∀(ks:List Nat) (L:Nat→Bool),stg ks L≤ks.length
 | [],_=>Nat.le_refl _
 | k::r,L=>by
  unfold stg;cases L k with
  | true=>exact Nat.succ_le_succ (zen r L)
  | false=>exact Nat.zero_le _
theorem chn.get {ks:List Nat}{Q:Nat→(Nat→Gh)→World→Prop}{L:Nat→Bool}{g:Nat→Gh}{w:World}{Φ:Prop}(h:chn ks Q L g w)(hQ: ∀j,j≤ks.length→Q j g w→Φ):Φ:=hQ _ (zen ks L) h
theorem chn.fin {Q:Nat→(Nat→Gh)→World→Prop}{g:Nat→Gh}{w:World} : ∀ {ks:List Nat} {L:Nat→Bool},chn ks Q L g w→(∀k∈ks,L k=true)→Q ks.length g w:=by
 intro ks L h hk;have:stg ks L=ks.length:=by
  clear h
  induction ks with
  | nil=>rfl
  | cons k r ih=>
   unfold stg;rw [hk k (List.mem_cons_self ..),ih fun x hx=>hk x (List.mem_cons_of_mem _ hx)];rfl
 unfold chn at h
 rwa [this] at h
section
variable {P:Program}{ops:Array Oper}{R:(Nat→Gh)→Env}{d:Option Nat}
theorem gv_chn {V:Gh→Value}{ks:List Nat}{Q:Nat→(Nat→Gh)→World→Prop}(k j:Nat)(hN: ∀L,Now ops k L→stg ks L=j∧stg ks (put1 L k)=j+1)
 (hr: ∀g w,Q j g w→∃o,ops[k]? =some o∧o.dst=d∧Region.wanted o (zJ ops (R g))=true∧Runs P (fun v w'=> ∃x,v=V x∧Q (j+1) (setN g k x) w') ((execOp (ev (R g)) o).run P w)):Gives P ops R (chn ks Q) k d V:=by
 refine gives_of fun L g w hp hNw=>?_;obtain ⟨e1,e2⟩:=hN L hNw;unfold chn at hp;rw [e1] at hp;obtain ⟨o,ho,hd,hw,hq⟩:=hr g w hp;refine ⟨o,ho,hd,.inr ⟨hw,?_⟩⟩;unfold chn;rw [e2];exact hq
variable {ρ:Env}{k:Nat}{w:World}{S:Value→World→Prop}
theorem run_new {F:Nat→Value}{ob:Obj}(h:opv P ops k ρ w=some (d,true,.ok (.value (F w.heap.size)) (w.alloc ob)))(hS:S (F w.heap.size) (w.alloc ob)):
 ∃o,ops[k]? =some o∧o.dst=d∧Region.wanted o (zJ ops ρ)=true∧Runs P S ((execOp (ev ρ) o).run P w):=by
 obtain ⟨o,ho,hd,hw,hr⟩:=zU h;exact ⟨o,ho,hd,hw,by rw [hr];exact hS⟩
theorem run_ft {f:Nat}{args:Array Value}{pr:World→Prop}{ok:Value→List (Nat×Obj)→Prop}(hc:FnT P f args pr ok)(hp:pr w)(h:opv P ops k ρ w=some (d,true,.ok (.enter f args) w))(hS: ∀v T w',ok v T→St w.heap.size w w' T→S v w'):
 ∃o,ops[k]? =some o∧o.dst=d∧Region.wanted o (zJ ops ρ)=true∧Runs P S ((execOp (ev ρ) o).run P w):=by
 obtain ⟨o,ho,hd,hw,hr⟩:=zU h;refine ⟨o,ho,hd,hw,?_⟩;rw [hr];refine Calls.mono (hc w hp) ?_;rintro e w' ⟨v,T,rfl,hok,hT⟩;exact ⟨v,rfl,hS v T w' hok hT⟩
theorem run_sto {t:TypeId}{x y:Operand}{b off:Nat}{C C':Array Value}{T:TypeId}{v:Value}(h:opk ops k ρ=some (none,true,.store t x y))(hx:ev ρ x=.pointer (some ⟨b,off,none⟩))(hy:ev ρ y=v)(hi:(P.info? t).map (·.size)=some v.cells.size)(h1:v.cells.all (·.oneCell')=true)
 (hh:w.heap[b]? =some (.cells C T (0,0))) (hs:off+v.cells.size≤C.size) (hC:(C.toList.take off++v.cells.toList++C.toList.drop (off+v.cells.size)).toArray=C') (hS:S undef (w.setRow b C')):
 ∃o,ops[k]? =some o∧o.dst=none∧Region.wanted o (zJ ops ρ)=true∧Runs P S ((execOp (ev ρ) o).run P w):=by
 obtain ⟨o,ho,hd,hw,hop⟩:=zE h;refine ⟨o,ho,hd,hw,?_⟩;have hst:=kf (P:=P) (w:=w) hi h1 hh hs;rw [hC] at hst;have e2:(execOp (ev ρ) o).run P w=.ok .skip (w.setRow b C'):=by simp [execOp,hop,Instr.storeAt,Instr.sureAddr,hx,hy,hst]
 rw [e2];exact hS
theorem run_of {op:Op}(h:opk ops k ρ=some (d,true,op))(hr: ∀o:Oper,o.op=op→∃v w',(execOp (ev ρ) o).run P w=.ok (.value v) w'∧S v w'):
 ∃o,ops[k]? =some o∧o.dst=d∧Region.wanted o (zJ ops ρ)=true∧Runs P S ((execOp (ev ρ) o).run P w):=by
 obtain ⟨o,ho,hd,hw,hop⟩:=zE h;obtain ⟨v,w',e,hS⟩:=hr o hop;exact ⟨o,ho,hd,hw,by rw [e];exact hS⟩
end
end D2
section
open D2 (Gh)
theorem D2.Now.back {ops:Array Oper}{i:Nat}{L:Nat→Bool}(h:D2.Now ops i L){a b:Nat}(hb:L b=true)(he:D2.edge ops a b=true):L a=true:=by
 cases ha:L a with
 | true=>rfl
 | false=>have:=h.2.2.no a b he ha;rw [hb] at this;cases this
theorem D2.Now.fwd {ops:Array Oper}{i:Nat}{L:Nat→Bool}(h:D2.Now ops i L){a b:Nat}(ha:L a=false)(he:D2.edge ops a b=true):L b=false:=h.2.2.no a b he ha
theorem D2.stg_no: ∀(ks:List Nat) (L:Nat→Bool) (i k:Nat),ks[i]? =some k→L k=false→D2.stg ks L≤i
 | [],_,_,_,h,_=>by simp at h
 | k::r,L,0,k',h,hk=>by
  obtain rfl:k=k':=by simpa using h
  unfold D2.stg;rw [hk];exact Nat.le_refl _
 | k::r,L,i+1,k',h,hk=>by
  have ih:=D2.stg_no r L i k' (by simpa using h) hk;unfold D2.stg;cases L k with
  | true=>exact Nat.succ_le_succ ih
  | false=>exact Nat.zero_le _
theorem D2.chn.getN {ks:List Nat}{Q:Nat→(Nat→Gh)→World→Prop}{L:Nat→Bool}{g:Nat→Gh}{w:World}{Φ:Prop}(h:D2.chn ks Q L g w)(i k:Nat)(hi:ks[i]? =some k)(hk:L k=false)(hQ: ∀j,j≤i→Q j g w→Φ):Φ:=hQ _ (D2.stg_no ks L i k hi hk) h
end
end Go.Proofs.YtbpmjppmpgeejaaGreatDoor
namespace Go.Proofs.YtbpmjppmpgeejaaGreatDoor
open Go Go.RowKit
open D2 (Gh)
set_option linter.unusedVariables false
def iS:Fl X3 where
 K:=3
 cs:=X3.cs
 pos:=by decide
 len _:=rfl
 one a:=fun u hu=>List.all_eq_true.1 (show (X3.cs a).all (·.oneCell')=true from rfl) u hu
theorem zeo: ∀L:List X3,cellsF iS L=cells3 L
 | []=>rfl
 | x::r=>by
  show X3.cs x++cellsF iS r=_;rw [zeo r];rfl
abbrev emB:ByteArray:=⟨#[]⟩
abbrev b3 (s:ByteArray):X3:=⟨false,s,none,0,0,.nil⟩
abbrev itV (x:X3):Value:=.agg #[.bool x.l,.string x.s,.slice x.p x.n x.c]
abbrev itO (x:X3):Obj:=.cells #[.bool x.l,.string x.s,.slice x.p x.n x.c] 83 (0,0)
abbrev xb (L:List X3):Obj:=.cells (cellsF iS L).toArray 83 (0,0)
theorem ziG (T:List (Nat×Obj))(s:ByteArray):SlIn T (b3 s).p (b3 s).n (b3 s).k:=⟨rfl,Nat.zero_le _,.inl rfl⟩
theorem zbI {α:Type}{S:Fl α}{P:Program}{ρ:Env}{w w0:World}{B:Nat}{bx n c m mc e:Nat}{p:Option Addr}{row Z:List (Nat×Obj)}{M0 M:List α}(HS:St B w0 w ((bx,.cells (cellsF S M).toArray e (0,0))::(row++Z)))(hrow:yk S e p n c row M0)
 {t bytes:Nat} {s x:Operand} {o:Oper} (ht:yy P t=some (e,S.K,bytes)) (ho:o.op=yq t s x) (hs:ev ρ s=.slice p n c) (hx:ev ρ x=.slice (some ⟨bx,0,none⟩) m mc) (hM:m=M.length) (h0:0<m) (hb:(n+m)*bytes≤0x800000000000) (hm:n+m≤maxLen):
 ∃b' cap' cur' w',(execOp (ev ρ) o).run P w=.ok (.value (.slice (some ⟨b',0,none⟩) (n+m) cap')) w'∧St B w0 w' ((b',.cells cur' e (0,0))::Z)∧Rw S.K cur' cap' (n+m) (cellsF S (M0++M)):=by
 have hx0:=HS.get 0 rfl;have hrw:Rw S.K (cellsF S M).toArray M.length M.length (cellsF S M):=⟨jB M,Nat.le_refl _,by omega,by rw [List.toList_toArray,List.take_of_length_le (by rw [jB];exact Nat.le_refl _)],by rw [List.size_toArray,jB]⟩
 rw [zbF];rcases hrow with ⟨rfl,rfl,rfl,rfl,rfl⟩ | ⟨b,cur,rfl,rfl,hr⟩
 ·obtain ⟨it,z,hu,hi,hz,hsz,hby,hzs,hz0⟩:=qu ht;have hnews: ∀q u,(cellsF S M)[q]? =some u→w.cell? ((⟨bx,0,none⟩:Addr).add q)=some u:=fun q u hq=>by
   rw [qt,Nat.zero_add];simp [World.cell?,hx0,hq]
  obtain ⟨v',w',hrun,hown,hgr,hnil,hblk⟩:=run_append_own_at (P:=P) w B t o.type e it z S.K bytes hu hi hz hsz hby hzs hz0 (.slice none 0 0) 0 [] (World.ownsRow_nil w B e S.K) ⟨bx,0,none⟩ m mc (cellsF S M) (by rw [jB,hM]) hnews (zbG M) hm hb HS.le;have hown':=hown;rcases hown'.2 with ⟨hv,_⟩|⟨g,cap',cur',rfl,hbg,hg,hnc,hcm,hcs,htk⟩
  ·exact absurd (hnil.1 hv).2 (by omega)
  ·have hgb:g=w.heap.size:=by
    rcases hblk with hq|hq
    ·simp [Value.ownBlock] at hq
    ·injection hq
   have hbel:Below w.heap.size w w':=(Below.refl _ w).grown hgr (Nat.le_refl _) (fun k hk=>by simp [Value.ownBlock] at hk);have HS':=HS.add hbel (by omega) hg;refine ⟨g,cap',cur',w',?_,HS'.sub (List.Sublist.cons_cons _ (List.sublist_cons_self ..)),⟨?_,hnc,hcm,htk,hcs⟩⟩
   ·unfold execOp;simp only [ho,yq,resolve,invoke,builtin,Sem.run_bind,Sem.run_pure,Result.andThen_ok,List.map_toArray,List.map_cons,List.map_nil,hs,hx,hrun]
   ·rw [Nat.zero_add,List.length_append,jB,jB,hM];simp
 ·obtain ⟨b',cap',cur',w',hrun,HS',hr'⟩:=ziF (S:=S) (M:=M) (j:=1) HS ht ho hs rfl hr hx hM (.inr ⟨bx,0,_,_,_,rfl,hx0,hrw.rowAt⟩) hb hm;exact ⟨b',cap',cur',w',hrun,HS'.sub (List.sublist_cons_self ..),hr'⟩
abbrev xlO (q:Option Addr)(n c:Nat):Obj:=.cells #[.bool true,.string emB,.slice q n c] 83 (0,0)
theorem ziH {w w':World}{b:Nat}{C:Array Value}{T:TypeId}{fz:Nat×Nat}(hh:w.heap[b]? =some (.cells C T fz))(hb:Below w.heap.size w w'):w'.heap[b]? =some (.cells C T fz):=by rw [hb.block b (zq hh)];exact hh
theorem zep {P:Program}{ops:Array Oper}{k:Nat}{ρ:Env}{w:World}{S:Value→World→Prop}{t:TypeId}{x y:Operand}{b:Nat}{q:Option Addr}{n c:Nat}{q':Option Addr}{n' c':Nat}{T:TypeId}(h:opk ops k ρ=some (none,true,.store t x y))(hx:ev ρ x=.pointer (some ⟨b,2,none⟩))(hy:ev ρ y=.slice q' n' c')(hi:(P.info? t).map (·.size)=some 1)
 (hh:w.heap[b]? =some (.cells #[.bool true,.string emB,.slice q n c] T (0,0))) (hS:S undef (w.setRow b #[.bool true,.string emB,.slice q' n' c'])):∃o,ops[k]? =some o∧o.dst=none∧Region.wanted o (zJ ops ρ)=true∧Runs P S ((execOp (ev ρ) o).run P w):=
 D2.run_sto (v:=.slice q' n' c') (C':=#[.bool true,.string emB,.slice q' n' c']) h hx hy hi kr hh (Nat.le_of_ble_eq_true kr) kr hS
theorem ziI {α:Type}(a b c d:List α):(a++(b++(c++d))).Perm (d++(a++(b++c))):=by
 rw [←List.append_assoc b c d,←List.append_assoc a (b++c) d];exact List.perm_append_comm
theorem uW {α:Type}(a b z:List α):(a++(b++z)).Perm (b++(a++z)):=by
 rw [←List.append_assoc,←List.append_assoc];exact List.perm_append_comm.append_right z
theorem zbJ {α:Type}(x:α)(tb bs z:List α):(x::(tb++(bs++z))).Perm (bs++x::(tb++z)):=(List.Perm.cons x (uW tb bs z)).trans List.perm_middle.symm
theorem zeq {T T':List (Nat×Obj)}{M:List X3}(h:AllIn T M)(hs: ∀e∈T,e∈T'):AllIn T' M:=fun x hx=>⟨(h x hx).1.mono hs,(h x hx).2⟩
theorem zer {T:List (Nat×Obj)}{M:List X3}{x:X3}(h:AllIn T M)(hx:SlIn T x.p x.n x.k)(hz:x.s.size≤0x800000000000):AllIn T (M++ [x]):=fun y hy=>by
 rcases List.mem_append.1 hy with hy|hy
 ·exact h y hy
 ·rw [List.mem_singleton.1 hy];exact ⟨hx,hz⟩
theorem zes {P:Program}{ρ:Env}{x:Operand}{o:Oper}{w:World}{b off n:Nat}{C W:Array Value}{T:TypeId}{fz:Nat×Nat}{t:TypeId}(ht:aggSize P t=some n)(hh:w.heap[b]? =some (.cells C T fz))(hs:off+n≤C.size)(hW:C.extract off (off+n)=W)(ho:o.op=.load t x)(hx:ev ρ x=.pointer (some ⟨b,off,none⟩)):
 (execOp (ev ρ) o).run P w=.ok (.value (.agg W)) w:=by
 have:=jO (P:=P) (w:=w) ht hh hs;rw [hW] at this;simp [execOp,ho,Instr.loadAt,Instr.sureAddr,hx,this]
end Go.Proofs.YtbpmjppmpgeejaaGreatDoor
namespace Go.Proofs.YtbpmjppmpgeejaaGreatDoor
open Go Go.RowKit
set_option linter.unusedVariables false
abbrev knd (g:Nat)(p:Option Addr)(n c:Nat):Value:=.agg #[.int .u8 (g:Int),.slice p n c]
abbrev fld (m:Nat)(s:ByteArray)(p:Option Addr)(n c:Nat):Value:=.agg #[.int .u64 (m:Int),.string s,.slice p n c]
theorem yD {P:Program}{ρ:Env}{t e:TypeId}{K bytes:Nat}(ht:yy P t=some (e,K,bytes)){x y:Operand}{o:Oper}{kd:IntKind}{p:Option Addr}(b q n c k:Nat)(hp:p=some ⟨b,q,none⟩)(ho:o.op=.indexAddr t x y)(hx:ev ρ x=.slice p n c)(hy:ev ρ y=.int kd (k:Int))(hk:k<n):
 ∀w,(execOp (ev ρ) o).run P w=.ok (.value (.pointer (some ⟨b,q+k*K,none⟩))) w:=by
 subst hp;exact qM ht b q n c k ho hx hy hk
def xH (B:Nat)(w:World)(g:Nat)(p:Option Addr)(n i g':Nat)(p':Option Addr)(n' c':Nat):Prop:=
 (n≤(if g=42 then 0 else i)∧g'=0∧p'=none∧n'=0∧c'=0)∨
 ((if g=42 then 0 else i)<n∧∃b off C T fz,p=some ⟨b,off,none⟩∧b<B∧w.heap[b]? =some (.cells C T fz)∧off+(if g=42 then 0 else i)*2+2≤C.size∧C.extract (off+(if g=42 then 0 else i)*2) (off+(if g=42 then 0 else i)*2+2)=#[.int .u8 (g':Int),.slice p' n' c'])
theorem xH.up {B B':Nat}{w w':World}{g:Nat}{p:Option Addr}{n i g':Nat}{p':Option Addr}{n' c':Nat}(h:xH B w g p n i g' p' n' c')(hb:Below B w w')(hB:B≤B'):xH B' w' g p n i g' p' n' c':=by
 rcases h with h|⟨h0,b,off,C,T,fz,h1,h2,h3,h4⟩
 ·exact .inl h
 ·exact .inr ⟨h0,b,off,C,T,fz,h1,Nat.lt_of_lt_of_le h2 hB,by rw [hb.block b h2];exact h3,h4⟩
theorem SlR.kid {B:Nat}{w:World}{p:Option Addr}{n:Nat}{k:Kf}(h:SlR kS B w p n k)(g i:Nat):∃g' p' n' c',xH B w g p n i g' p' n' c'∧SlR kS B w p' n' (zw g k i).2∧g'=(zw g k i).1:=by
 unfold zw xH;generalize (if g=42 then 0 else i)=j;rcases Nat.lt_or_ge j n with hj | hj
 ·obtain ⟨a,q,ha⟩:=Fr.at_some (k:=k) (i:=j) (by rw [←h.1];exact hj);rcases h.2.2 with rfl|⟨b,off,rfl,hA⟩
  ·simp [Fr.at] at ha
  ·obtain ⟨C,T,fz,p',n',c',h1,h2,h3,h4,h5,h6⟩:=hA.at ha;rw [ha];exact ⟨a,p',n',c',.inr ⟨hj,b,off,C,T,fz,rfl,h1,h2,h3,h4⟩,h6,rfl⟩
 ·rw [Fr.at_none (by rw [←h.1];exact hj)];exact ⟨0,none,0,0,.inl ⟨hj,rfl,rfl,rfl,rfl⟩,SlR.nil _ _ _,rfl⟩
theorem zbK (g:Nat)(p:Option Addr)(n c i g':Nat)(p':Option Addr)(n' c':Nat):FnP Tryz.prog 94 #[knd g p n c,.int .i64 (i:Int)] (fun w=>xH w.heap.size w g p n i g' p' n' c') (knd g' p' n' c'):=by
 refine FnP.intro (c:=zk Tryz.f94) [.cell 4 62] 19 Tryz.func94 kr kr kr fun w hpre=>?_;have H0:=St.start w;refine rS [.b,.a] H0 kr fun gs1 w1 H1=>?_;clear H0;unfold xH at hpre;by_cases hg:g=42
 ·rw [if_pos hg] at hpre;refine zb kr<|rS [.v,.l 0,.E (.bool ((g:Int)==42)) (.bool true) (za (beq_iff_eq.2 (by omega)))] H1 kr fun gs2 w2 H2=>?_;clear H1;refine zf kr kr<|rL [.v] H2 kr fun gs3 w3 H3=>wW ?_;rcases hpre with ⟨hj,rfl,rfl,rfl,rfl⟩ | ⟨hj,b,off,C,T,fz,hp,hb,hh,hz,hx⟩
  ·refine zb kr<|rS [.v,.v,.l 0,.v,.E (.bool (decide ((n:Int)≤((0:Nat):Int)))) (.bool true) (za (decide_eq_true (by omega)))] H3 kr fun gs4 w4 H4=>zf kr kr<|rS [.v,.s 1] H4 kr fun gs5 w5 H5=>?_;exact rR [.cell 4 62] [1] (knd 0 none 0 0) H5 kr
  ·refine zb kr<|rS [.v,.v,.l 0,.v,.E (.bool (decide ((n:Int)≤((0:Nat):Int)))) (.bool false) (za (decide_eq_false (by omega)))] H3 kr fun gs4 w4 H4=>zi kr kr<|zj kr<|wW<|rS [.v,.l 0,.v,.o (ins:=[((.tmp 15),.slice p n c),((.tmp 16),.int .i64 ((0:Nat):Int))]) (v:=.pointer (some ⟨b,off+0*2,none⟩)) (fun ρ o w ho hi=>yD (kd:=.i64) (t:=60) (e:=62) (K:=2) (bytes:=32) kr (x:=(.tmp 15)) (y:=(.tmp 16)) b off n c 0 hp ho hi.1 hi.2.1 (by omega) w),.fp (off:=off+0*2) (n:=2) (W:=#[.int .u8 (g':Int),.slice p' n' c']) hh hb hz hx,.s 1] H4 kr fun gs5 w5 H5=>?_;exact rR [.cell 4 62] [1] (knd g' p' n' c') H5 kr
 ·rw [if_neg hg] at hpre;refine zb kr<|rS [.v,.l 0,.E (.bool ((g:Int)==42)) (.bool false) (za (beq_eq_false_iff_ne.2 (by omega)))] H1 kr fun gs2 w2 H2=>?_;clear H1;refine zi kr kr<|zj kr ?_;have H3:=H2;refine wW ?_;rcases hpre with ⟨hj,rfl,rfl,rfl,rfl⟩ | ⟨hj,b,off,C,T,fz,hp,hb,hh,hz,hx⟩
  ·refine zb kr<|rS [.v,.v,.l 0,.v,.E (.bool (decide ((n:Int)≤(i:Int)))) (.bool true) (za (decide_eq_true (by omega)))] H3 kr fun gs4 w4 H4=>zf kr kr<|rS [.v,.s 1] H4 kr fun gs5 w5 H5=>?_;exact rR [.cell 4 62] [1] (knd 0 none 0 0) H5 kr
  ·refine zb kr<|rS [.v,.v,.l 0,.v,.E (.bool (decide ((n:Int)≤(i:Int)))) (.bool false) (za (decide_eq_false (by omega)))] H3 kr fun gs4 w4 H4=>zi kr kr<|zj kr<|wW<|rS [.v,.l 0,.v,.o (ins:=[((.tmp 15),.slice p n c),((.tmp 16),.int .i64 (i:Int))]) (v:=.pointer (some ⟨b,off+i*2,none⟩)) (fun ρ o w ho hi=>yD (kd:=.i64) (t:=60) (e:=62) (K:=2) (bytes:=32) kr (x:=(.tmp 15)) (y:=(.tmp 16)) b off n c i hp ho hi.1 hi.2.1 (by omega) w),.fp (off:=off+i*2) (n:=2) (W:=#[.int .u8 (g':Int),.slice p' n' c']) hh hb hz hx,.s 1] H4 kr fun gs5 w5 H5=>?_;exact rR [.cell 4 62] [1] (knd g' p' n' c') H5 kr
theorem zet (a b n:Nat):Fn Tryz.prog 124 #[.agg #[.int .i64 (a:Int),.int .i64 (b:Int)],.int .i64 (n:Int)] (.bool (yL (a,b) n)):=by
 refine Fn.intro (c:=zk Tryz.f124) [.tmp 4] 15 Tryz.func124 kr kr kr fun w=>?_;have H0:=St.start w;refine rS [.b,.v] H0 kr fun gs1 w1 H1=>?_;clear H0;by_cases h1:a≤n
 ·by_cases h2:n≤b
  ·refine rS [.v,.l 0,.v,.E (.bool (decide ((a:Int)≤(n:Int)))) (.bool true) (za (decide_eq_true (by omega))),.v,.v,.v,.l 0,.E (.bool (decide ((n:Int)≤(b:Int)))) (.bool true) (za (decide_eq_true (by omega))),.v,.v] H1 kr fun gs2 w2 H2=>?_;exact rRe [.tmp 4] [] (v:=.bool true) (v':=.bool (yL (a,b) n)) H2 (za (by unfold yL;simp [h1,h2])) kr
  ·refine rS [.v,.l 0,.v,.E (.bool (decide ((a:Int)≤(n:Int)))) (.bool true) (za (decide_eq_true (by omega))),.v,.v,.v,.l 0,.E (.bool (decide ((n:Int)≤(b:Int)))) (.bool false) (za (decide_eq_false (by omega))),.v,.v] H1 kr fun gs2 w2 H2=>?_;exact rRe [.tmp 4] [] (v:=.bool false) (v':=.bool (yL (a,b) n)) H2 (za (by unfold yL;simp [h1,h2])) kr
 ·refine rS [.v,.l 0,.v,.E (.bool (decide ((a:Int)≤(n:Int)))) (.bool false) (za (decide_eq_false (by omega))),.v,.n,.n,.n,.n,.v,.v] H1 kr fun gs2 w2 H2=>?_;exact rRe [.tmp 4] [] (v:=.bool false) (v':=.bool (yL (a,b) n)) H2 (za (by unfold yL;simp [h1])) kr
theorem uX (g:Nat)(p:Option Addr)(n c:Nat):Fn Tryz.prog 123 #[knd g p n c] (.agg #[.int .i64 (((yg g).1:Nat):Int),.int .i64 (((yg g).2:Nat):Int)]):=by
 refine Fn.intro (c:=zk Tryz.f123) [.cell 2 156] 18 Tryz.func123 kr kr kr fun w=>?_;have H0:=St.start w;refine rS [.b,.a] H0 kr fun gs1 w1 H1=>?_;clear H0;refine rS [.v,.l 0] H1 kr fun gs2 w2 H2=>?_;clear H1;refine zn 0 kr ?_;by_cases h104:g=104
 ·refine rS [.E (.bool ((g:Int)==104)) (.bool true) (za (beq_iff_eq.2 (by omega))),.v] H2 kr fun gsa104 wa104 Ha104=>zf kr kr<|rS [.v,.s 1] Ha104 kr fun gsb104 wb104 Hb104=>?_;exact rRe [.cell 2 156] [1] (v:=.agg #[.int .i64 32,.int .i64 32]) (v':=.agg #[.int .i64 (((yg g).1:Nat):Int),.int .i64 (((yg g).2:Nat):Int)]) Hb104 (by unfold yg;simp [h104]) kr
 ·refine rS [.E (.bool ((g:Int)==104)) (.bool false) (za (beq_eq_false_iff_ne.2 (by omega))),.v] H2 kr fun gsc104 wc104 Hc104=>zi kr kr ?_;by_cases h97:g=97
  ·refine rS [.E (.bool ((g:Int)==97)) (.bool true) (za (beq_iff_eq.2 (by omega))),.v] Hc104 kr fun gsa97 wa97 Ha97=>zf kr kr<|rS [.v,.s 1] Ha97 kr fun gsb97 wb97 Hb97=>?_;exact rRe [.cell 2 156] [1] (v:=.agg #[.int .i64 20,.int .i64 20]) (v':=.agg #[.int .i64 (((yg g).1:Nat):Int),.int .i64 (((yg g).2:Nat):Int)]) Hb97 (by unfold yg;simp [h97]) kr
  ·refine rS [.E (.bool ((g:Int)==97)) (.bool false) (za (beq_eq_false_iff_ne.2 (by omega))),.v] Hc104 kr fun gsc97 wc97 Hc97=>zi kr kr ?_;by_cases h115:g=115
   ·refine rS [.E (.bool ((g:Int)==115)) (.bool true) (za (beq_iff_eq.2 (by omega))),.v] Hc97 kr fun gsa115 wa115 Ha115=>zf kr kr<|rS [.v,.s 1] Ha115 kr fun gsb115 wb115 Hb115=>?_;exact rRe [.cell 2 156] [1] (v:=.agg #[.int .i64 65,.int .i64 65]) (v':=.agg #[.int .i64 (((yg g).1:Nat):Int),.int .i64 (((yg g).2:Nat):Int)]) Hb115 (by unfold yg;simp [h115]) kr
   ·refine rS [.E (.bool ((g:Int)==115)) (.bool false) (za (beq_eq_false_iff_ne.2 (by omega))),.v] Hc97 kr fun gsc115 wc115 Hc115=>zi kr kr ?_;by_cases h98:g=98
    ·refine rS [.E (.bool ((g:Int)==98)) (.bool true) (za (beq_iff_eq.2 (by omega))),.v] Hc115 kr fun gsa98 wa98 Ha98=>zf kr kr<|rS [.v,.s 1] Ha98 kr fun gsb98 wb98 Hb98=>?_;exact rRe [.cell 2 156] [1] (v:=.agg #[.int .i64 0,.int .i64 64]) (v':=.agg #[.int .i64 (((yg g).1:Nat):Int),.int .i64 (((yg g).2:Nat):Int)]) Hb98 (by unfold yg;simp [h98]) kr
    ·refine rS [.E (.bool ((g:Int)==98)) (.bool false) (za (beq_eq_false_iff_ne.2 (by omega))),.v] Hc115 kr fun gsc98 wc98 Hc98=>zi kr kr<|rS [.v,.s 1] Hc98 kr fun gsz wz Hz=>?_;exact rRe [.cell 2 156] [1] (v:=.agg #[.int .i64 0,.int .i64 0]) (v':=.agg #[.int .i64 (((yg g).1:Nat):Int),.int .i64 (((yg g).2:Nat):Int)]) Hz (by unfold yg;simp [h104,h97,h115,h98]) kr
theorem zeu (g:Nat)(p:Option Addr)(n c:Nat):Fn Tryz.prog 125 #[knd g p n c] (.agg #[.int .i64 (((yj g n).1:Nat):Int),.int .i64 (((yj g n).2:Nat):Int)]):=by
 refine Fn.intro (c:=zk Tryz.f125) [.cell 2 156] 18 Tryz.func125 kr kr kr fun w=>?_;have H0:=St.start w;refine rS [.b,.a] H0 kr fun gs1 w1 H1=>?_;clear H0;refine rS [.v,.l 0] H1 kr fun gs2 w2 H2=>?_;clear H1;refine zn 0 kr ?_;by_cases h40:g=40
 ·refine rS [.E (.bool ((g:Int)==40)) (.bool true) (za (beq_iff_eq.2 (by omega))),.v] H2 kr fun gsa40 wa40 Ha40=>zf kr kr<|rS [.v,.l 0,.v,.v,.l 0,.v,.v,.s 1] Ha40 kr fun gsb40 wb40 Hb40=>?_;exact rRe [.cell 2 156] [1] (v:=.agg #[.int .i64 (n:Int),.int .i64 (n:Int)]) (v':=.agg #[.int .i64 (((yj g n).1:Nat):Int),.int .i64 (((yj g n).2:Nat):Int)]) Hb40 (by unfold yj;simp [h40]) kr
 ·refine rS [.E (.bool ((g:Int)==40)) (.bool false) (za (beq_eq_false_iff_ne.2 (by omega))),.v] H2 kr fun gsc40 wc40 Hc40=>zi kr kr ?_;by_cases h42:g=42
  ·refine rS [.E (.bool ((g:Int)==42)) (.bool true) (za (beq_iff_eq.2 (by omega))),.v] Hc40 kr fun gsa42 wa42 Ha42=>zf kr kr<|rS [.v,.s 1] Ha42 kr fun gsb42 wb42 Hb42=>?_;exact rRe [.cell 2 156] [1] (v:=.agg #[.int .i64 0,.int .i64 40]) (v':=.agg #[.int .i64 (((yj g n).1:Nat):Int),.int .i64 (((yj g n).2:Nat):Int)]) Hb42 (by unfold yj;simp [h42]) kr
  ·refine rS [.E (.bool ((g:Int)==42)) (.bool false) (za (beq_eq_false_iff_ne.2 (by omega))),.v] Hc40 kr fun gsc42 wc42 Hc42=>zi kr kr<|rS [.v,.s 1] Hc42 kr fun gsz wz Hz=>?_;exact rRe [.cell 2 156] [1] (v:=.agg #[.int .i64 0,.int .i64 0]) (v':=.agg #[.int .i64 (((yj g n).1:Nat):Int),.int .i64 (((yj g n).2:Nat):Int)]) Hz (by unfold yj;simp [h40,h42]) kr
theorem zev (g:Nat)(p:Option Addr)(n c m:Nat)(s:ByteArray)(p2:Option Addr)(n2 c2:Nat):Fn Tryz.prog 100 #[knd g p n c,fld m s p2 n2 c2] (.bool (zu g n m s.size n2)):=by
 refine Fn.intro (c:=zk Tryz.f100) [.tmp 4] 29 Tryz.func100 kr kr kr fun w=>?_;have H0:=St.start w;refine rS [.b,.b,.v] H0 kr fun gs1 w1 H1=>?_;clear H0;have hv:zu g n m s.size n2=((decide (m=0)||decide (g=110))&&(yL (yg g) s.size&&yL (yj g n) n2)):=rfl;obtain ⟨x1,hx1⟩:∃x,yL (yg g) s.size=x:=⟨_,rfl⟩
 obtain ⟨x2,hx2⟩:∃x,yL (yj g n) n2=x:=⟨_,rfl⟩
 have c1:Fn Tryz.prog 124 #[.agg #[.int .i64 (((yg g).1:Nat):Int),.int .i64 (((yg g).2:Nat):Int)],.int .i64 (s.size:Int)] (.bool x1):=hx1▸zet _ _ _;have c2:Fn Tryz.prog 124 #[.agg #[.int .i64 (((yj g n).1:Nat):Int),.int .i64 (((yj g n).2:Nat):Int)],.int .i64 (n2:Int)] (.bool x2):=hx2▸zet _ _ _;rw [hx1,hx2] at hv;rw [hv];clear hv hx1 hx2;by_cases hm:m=0
 ·skip;cases x1 with
  | true=>
   refine dS [.v,.l 1,.E (.bool ((m:Int)==0)) (.bool true) (za (beq_iff_eq.2 (by omega))),.v,.n,.n,.n,.v,.v,.l 0,.c (uX g p n c),.v,.l 1,.v,.c c1,.v,.v,.l 0,.c (zeu g p n c),.v,.l 1,.v,.c c2,.v,.v] H1 kr fun w2 H2=>?_;exact rRe [.tmp 4] [] (v:=.bool x2) (v':=.bool ((decide (m=0)||decide (g=110))&&(true&&x2))) H2 (za (by simp [hm])) kr
  | false=>
   refine dS [.v,.l 1,.E (.bool ((m:Int)==0)) (.bool true) (za (beq_iff_eq.2 (by omega))),.v,.n,.n,.n,.v,.v,.l 0,.c (uX g p n c),.v,.l 1,.v,.c c1,.v,.v,.n,.n,.n,.n,.n,.n,.v,.v] H1 kr fun w2 H2=>?_;exact rRe [.tmp 4] [] (v:=.bool false) (v':=.bool ((decide (m=0)||decide (g=110))&&(false&&x2))) H2 (za (by simp [hm])) kr
 ·by_cases hg:g=110
  ·skip;cases x1 with
   | true=>
    refine dS [.v,.l 1,.E (.bool ((m:Int)==0)) (.bool false) (za (beq_eq_false_iff_ne.2 (by omega))),.v,.v,.l 0,.E (.bool ((g:Int)==110)) (.bool true) (za (beq_iff_eq.2 (by omega))),.v,.v,.l 0,.c (uX g p n c),.v,.l 1,.v,.c c1,.v,.v,.l 0,.c (zeu g p n c),.v,.l 1,.v,.c c2,.v,.v] H1 kr fun w2 H2=>?_;exact rRe [.tmp 4] [] (v:=.bool x2) (v':=.bool ((decide (m=0)||decide (g=110))&&(true&&x2))) H2 (za (by simp [hm,hg])) kr
   | false=>
    refine dS [.v,.l 1,.E (.bool ((m:Int)==0)) (.bool false) (za (beq_eq_false_iff_ne.2 (by omega))),.v,.v,.l 0,.E (.bool ((g:Int)==110)) (.bool true) (za (beq_iff_eq.2 (by omega))),.v,.v,.l 0,.c (uX g p n c),.v,.l 1,.v,.c c1,.v,.v,.n,.n,.n,.n,.n,.n,.v,.v] H1 kr fun w2 H2=>?_;exact rRe [.tmp 4] [] (v:=.bool false) (v':=.bool ((decide (m=0)||decide (g=110))&&(false&&x2))) H2 (za (by simp [hm,hg])) kr
  ·refine dS [.v,.l 1,.E (.bool ((m:Int)==0)) (.bool false) (za (beq_eq_false_iff_ne.2 (by omega))),.v,.v,.l 0,.E (.bool ((g:Int)==110)) (.bool false) (za (beq_eq_false_iff_ne.2 (by omega))),.v,.v,.n,.n,.n,.n,.n,.n,.v,.v,.n,.n,.n,.n,.n,.n,.v,.v] H1 kr fun w2 H2=>?_;exact rRe [.tmp 4] [] (v:=.bool false) (v':=.bool ((decide (m=0)||decide (g=110))&&(x1&&x2))) H2 (za (by simp [hm,hg])) kr
def Fr.sub {α:Type}(p:Fr α→Prop):Fr α→Prop
 | .nil=>True
 | .cons a k r=>p k∧r.sub p
theorem Fr.induct {α:Type}{p:Fr α→Prop}(h: ∀l:Fr α,l.sub p→p l): ∀l:Fr α,p l∧l.sub p
 | .nil=>⟨h .nil trivial,trivial⟩
 | .cons a k r=>⟨h _ ⟨(Fr.induct h k).1,(Fr.induct h r).2⟩,(Fr.induct h k).1,(Fr.induct h r).2⟩
def uY (l:Fe):Prop:= ∀(g:Nat) (p:Option Addr) (n c:Nat) (b:Kf) (m:Nat) (s:ByteArray) (p2:Option Addr) (n2 c2:Nat) (room:Int),
 FnP Tryz.prog 64 #[knd g p n c,fld m s p2 n2 c2,.int .i64 room] (fun w=>SlR kS w.heap.size w p n b∧SlR fS w.heap.size w p2 n2 l) (.int .i64 (yf g b (m,s) l room))
theorem ziJ (l:Fe)(hs:l.sub uY):uY l:=by
 intro g p n c b m s p2 n2 c2 room;refine FnP.intro (c:=zk Tryz.f64) [.tmp 6] 34 Tryz.func64 kr kr kr fun w hpre=>?_;have H0:=St.start w;obtain ⟨hK,hF⟩:=hpre;have hn2:=hF.1;have hnm:n2≤0x800000000000:=hF.2.1;unfold yf;rw [←hK.1,←hF.1];refine rS [.b,.b,.v] H0 kr fun gs1 w1 H1=>?_;clear H0;refine zb kr ?_;cases hf:zu g n m s.size n2 with
 | false=>
  rw [if_neg (by decide)];refine rS [.l 0,.l 1,.c (zev g p n c m s p2 n2 c2),.E (.bool (!(zu g n m s.size n2))) (.bool true) (za (by rw [hf];rfl))] H1 kr fun gs2 w2 H2=>zf kr kr<|rS [.v] H2 kr fun gs3 w3 H3=>?_;exact rR [.tmp 6] [] (.int .i64 (-1)) H3 kr
 | true=>
  rw [if_pos rfl];refine rS [.l 0,.l 1,.c (zev g p n c m s p2 n2 c2),.E (.bool (!(zu g n m s.size n2))) (.bool false) (za (by rw [hf];rfl))] H1 kr fun gs2 w2 H2=>zi kr kr<|zj kr<|wW<|rS [.v,.E (.int .i64 (IntKind.i64.wrap (room-1))) (.int .i64 (w64 (room-1))) rfl,.v] H2 kr fun gs3 w3 H3=>zb kr<|rS [.v,.l 1,.v,.v] H3 kr fun gs4 w4 H4=>zn 0 kr ?_;have H5:St w.heap.size w w4 [((gs1 0).b,.cells #[.int .u8 (g:Int),.slice p n c] 62 (0,0)),((gs1 1).b,.cells #[.int .u64 (m:Int),.string s,.slice p2 n2 c2] 44 (0,0))]:=H4.as kr;clear H1 H2 H3 H4;refine zV kr (fun mz ρ ww=> ∃(i:Nat) (r:Fe) (v:Int),n2-i=mz∧FrR fS w.heap.size w p2 i r∧i+r.len=n2∧r.sub uY∧yX l g b 0 (w64 (room-1))=yX r g b i v∧St w.heap.size w ww [((gs1 0).b,.cells #[.int .u8 (g:Int),.slice p n c] 62 (0,0)),((gs1 1).b,.cells #[.int .u64 (m:Int),.string s,.slice p2 n2 c2] 44 (0,0))]∧Is [(2,.int .i64 v),(3,.pointer (some ⟨(gs1 0).b,0,none⟩)),(16,.slice p2 n2 c2),(17,.int .i64 (n2:Int)),(18,.int .i64 (i:Int))] ρ) (n2-0) ⟨0,l,_,rfl,hF.start,by omega,hs,rfl,H5,(Is.of ⟨kr,kr,kr,kr,kr,trivial⟩)⟩ ?_;clear H5;rintro _ _ w5 ⟨i,r,v,rfl,hR,hN,hsub,hv,H6,_,rfl⟩;by_cases hi:i<n2
  ·refine rS [.E (.bool (decide ((i:Int)<(n2:Int)))) (.bool true) (za (decide_eq_true (by omega)))] H6 kr fun gs5 w6 H7=>?_;clear H6;refine zb kr<|zf kr kr<|zj kr<|wW<|zb kr<|zn 1 kr ?_;obtain ⟨⟨m1,s1⟩,k1,r1,b1,off1,C1,T1,fz1,p1,n1,c1,hr1,hp1,hb1,hh1,hs1,hx1,hz1,hk1,hR1,hN1⟩:=FrR.open hR hN hi;obtain ⟨g',p',n',c',hK1,hK2,hg'⟩:=hK.kid g i;subst hr1;refine rS [.v,.o (ins:=[((.tmp 16),.slice p2 n2 c2),((.tmp 18),.int .i64 (i:Int))]) (v:=.pointer (some ⟨b1,off1+i*3,none⟩)) (fun ρ o w ho hi2=>yD (kd:=.i64) (t:=41) (e:=44) (K:=3) (bytes:=48) kr (x:=(.tmp 16)) (y:=(.tmp 18)) b1 off1 n2 c2 i hp1 ho hi2.1 hi2.2.1 (by omega) w),.fp (off:=off1+i*3) (n:=3) (W:=#[.int .u64 (m1:Int),.string s1,.slice p1 n1 c1]) hh1 hb1 hs1 hx1,.a,.v,.s 2] H7 kr fun gs6 w7 H8=>?_;clear H7;refine dS [.l 0,.v,.cp (pre:=fun w=>xH w.heap.size w g p n i g' p' n' c') (zbK g p n c i g' p' n' c') [] (fun w hb hd=>hK1.up hb hb.size),.l 2,.v,.cp (pre:=fun w=>SlR kS w.heap.size w p' n' (zw g b i).2∧SlR fS w.heap.size w p1 n1 k1) (hsub.1 g' p' n' c' (zw g b i).2 m1 s1 p1 n1 c1 v) [] (fun w hb hd=>⟨hK2.call hb,hk1.call hb⟩),.v] H8 kr fun w8 H9=>?_;clear H8;rw [vE,←hg'] at hv;by_cases hv0:yf g' (zw g b i).2 (m1,s1) k1 v<0
   ·rw [if_pos hv0] at hv;refine rS [.v,.E (.bool (decide (yf g' (zw g b i).2 (m1,s1) k1 v<0))) (.bool true) (za (decide_eq_true hv0))] H9 kr fun gs7 w9 H10=>zf kr kr<|rS [.v,.v] H10 kr fun gs8 w10 H11=>?_;exact rRe [.tmp 6] [] (v:=.int .i64 (yf g' (zw g b i).2 (m1,s1) k1 v)) (v':=.int .i64 (yX l g b 0 (w64 (room-1)))) H11 (zd hv.symm) kr
   ·rw [if_neg hv0] at hv;refine rS [.v,.E (.bool (decide (yf g' (zw g b i).2 (m1,s1) k1 v<0))) (.bool false) (za (decide_eq_false hv0))] H9 kr fun gs7 w9 H10=>zi kr kr<|zj kr<|wW<|rL [.E (.int .i64 (IntKind.i64.wrap ((i:Int)+1))) (.int .i64 ((i+1:Nat):Int)) (zd (zs (a:=i) (b:=1) (by omega))),.v] H10 kr fun gs8 w10 H11=>?_;have H12:St w.heap.size w w10 [((gs1 0).b,.cells #[.int .u8 (g:Int),.slice p n c] 62 (0,0)),((gs1 1).b,.cells #[.int .u64 ((m:Nat):Int),.string s,.slice p2 n2 c2] 44 (0,0)),((gs6 3).b,.cells #[.int .u64 (m1:Int),.string s1,.slice p1 n1 c1] 44 (0,0))]:=H11.as kr;show ∃m,_∧_;exact ⟨_,(by omega),i+1,r1,_,rfl,hR1,hN1,hsub.2,hv,H12.sub (List.Sublist.cons_cons _ (List.Sublist.cons_cons _ (List.nil_sublist _))),(Is.of ⟨kr,kr,kr,kr,kr,trivial⟩)⟩
  ·obtain rfl:=FrR.done hN hi;refine rS [.E (.bool (decide ((i:Int)<(n2:Int)))) (.bool false) (za (decide_eq_false (by omega)))] H6 kr fun gs5 w6 H7=>zb kr<|zi kr kr<|zN 0 kr<|wW<|rS [.v,.v] H7 kr fun gs6 w7 H8=>?_;exact rRe [.tmp 6] [] (v:=.int .i64 v) (v':=.int .i64 (yX l g b 0 (w64 (room-1)))) H8 (zd hv.symm) kr
theorem zew (l:Fe):uY l:=(Fr.induct ziJ l).1
structure xd (C:Array Value)(n i:Nat)(M:List X3):Prop where
 sz:C.size=n*3
 len:M.length=i
 take:C.toList.take (i*3)=cells3 M
theorem xd.start {C:Array Value}{n:Nat}(h:C.size=n*3):xd C n 0 []:=⟨h,rfl,by simp [cells3]⟩
theorem xd.put {C:Array Value}{n i:Nat}{M:List X3}(h:xd C n i M)(x:X3)(hi:i<n):
 0+i*3+(Value.agg (xc x)).cells.size≤C.size∧xd (C.toList.take (0+i*3)++(Value.agg (xc x)).cells.toList++C.toList.drop (0+i*3+(Value.agg (xc x)).cells.size)).toArray n (i+1) (M++ [x]):=by
 have hc:(Value.agg (xc x)).cells=xc x:=rfl;have h3:(xc x).size=3:=rfl;have hl3:(xc x).toList.length=3:=rfl;have hsz:=h.sz;rw [hc,h3,Nat.zero_add];have hle:i*3+3≤C.size:=by omega
 refine ⟨hle,?_,by rw [List.length_append,h.len];rfl,?_⟩
 ·simp only [List.size_toArray,List.length_append,List.length_take,List.length_drop,Array.length_toList,hl3];omega
 ·have e1:(C.toList.take (i*3)).length=i*3:=by rw [List.length_take,Array.length_toList];omega
  have e2:(C.toList.take (i*3)).take (i*3+3)=C.toList.take (i*3):=List.take_of_length_le (by omega);have e3:(xc x).toList.take 3=(xc x).toList:=rfl;rw [show (i+1)*3=i*3+3 by omega,List.toList_toArray,List.append_assoc,List.take_append,e1,e2,Nat.add_sub_cancel_left,List.take_append,hl3,Nat.sub_self,List.take_zero,List.append_nil,e3,ux,h.take];rfl
theorem xd.done {C:Array Value}{n:Nat}{M:List X3}(h:xd C n n M)(hm:n≤maxLen):Rw 3 C n n (cells3 M):=⟨by rw [jJ,h.len],Nat.le_refl _,hm,h.take,h.sz⟩
theorem ziK (n c:Nat)(L:List X3)(h0:n=0):FnR Tryz.prog 132 #[.slice none n c] (fun w=>n=List.length L∧jb w none L) (vA 83 (fun v=>v) n L):=by
 refine FnR.intro (c:=zk Tryz.f132) [.tmp 2] 8 Tryz.func132 kr kr kr fun w hpre=>?_;have H0:=St.start w;refine rS [.v] H0 kr fun gs1 w1 H1=>?_;clear H0;refine zb kr<|rS [.v,.v] H1 kr fun gs2 w2 H2=>?_;clear H1;refine zf kr kr<|rS [.v] H2 kr fun gs3 w3 H3=>?_;clear H2;refine zl kr<|wV ?_;refine ⟨[.slice none 0 0],(.tmp (.slice none 0 0) kr .nil),H3.below,?_⟩;exact Or.inl ⟨h0,rfl⟩
theorem ziL (a:Addr)(n c:Nat)(L:List X3)(hn8:n≤2000000000000):FnR Tryz.prog 132 #[.slice (some a) n c] (fun w=>n=List.length L∧jb w (some a) L) (vA 83 (fun v=>v) n L):=by
 refine FnR.intro (c:=zk Tryz.f132) [.tmp 2] 8 Tryz.func132 kr kr kr fun w hpre=>?_;have H0:=St.start w;refine rS [.v] H0 kr fun gs1 w1 H1=>?_;clear H0;refine zb kr<|rS [.v,.v] H1 kr fun gs2 w2 H2=>?_;clear H1;refine zi kr kr<|zj kr<|wW<|zg [0,1,2,3] kr kr<|rp [.nw (fun b=>.slice (some ⟨b,0,none⟩) 0 0) #[] 83,.v] H2 kr fun gs3 w3 H3=>wX [2,3] ?_;clear H2;have HL1:St w.heap.size w w3 [((gs3 0).b,Obj.cells #[] 83 (0,0))]:=H3.as kr;clear H3;refine zh8 HL1 (some 7) 81 83 48 (.tmp 5) (.tmp 6) 0 ((gs3 0).b) 0 n 0 c (some a) #[] [] L (fun b_1 cur_3=>[(b_1,Obj.cells cur_3 83 (0,0))]) kr kr kr kr kr (Rw.lit #[] 0 (by rfl) (by unfold maxLen;omega)) kr hpre.1 (fun h=>nomatch h) (jb.up hpre.2 HL1.below) (by omega) (by unfold maxLen;omega) (fun _ _=>by kernel_rfl) ?_;intro b_1 cap_2 cur_3 w4 H4 hr_4;clear HL1;rw [Nat.zero_add] at hr_4;refine zz 7 (v:=.slice (some ⟨b_1,0,none⟩) (0+n) cap_2) (v':=.slice (some ⟨b_1,0,none⟩) n cap_2) (by rw [Nat.zero_add]) kr<|rp [.v] H4 kr fun gs5 w5 H5=>wX [] ?_;clear H4;refine zc<|zl kr<|wV ?_;refine ⟨[.slice (some ⟨b_1,0,none⟩) n cap_2],(.tmp (.slice (some ⟨b_1,0,none⟩) n cap_2) kr .nil),H5.below,?_⟩;exact Or.inr ⟨b_1,cap_2,_,rfl,H5.ge 0 (o:=.cells cur_3 83 (0,0)) kr,H5.get 0 kr,hr_4⟩
theorem ziM (p:Option Addr)(n c:Nat)(L:List X3)(hn8:n≤2000000000000):FnR Tryz.prog 132 #[.slice p n c] (fun w=>n=List.length L∧jb w p L) (vA 83 (fun v=>v) n L):=fun w hp=>by
 cases p with
 | none=>
  have h0:n=0:=by
   rcases hp.2 with h|⟨b,off,e,_⟩
   ·rw [hp.1,h];rfl
   ·cases e
  exact ziK n c L h0 w hp
 | some a=>exact ziL a n c L hn8 w hp
theorem ziN (p:Option Addr)(n c:Nat)(L:List X3)(hn8:n≤2000000000000):FnR Tryz.prog 106 #[.slice p n c] (fun w=>n=List.length L∧jb w p L) (vA 83 (fun v=>.agg #[.bool true,.string ⟨#[]⟩,v]) n L):=by
 refine FnR.intro (c:=zk Tryz.f106) [.cell 2 83] 6 Tryz.func106 kr kr kr fun w hpre=>?_;have H0:=St.start w;refine rS [.a] H0 kr fun gs1 w1 H1=>?_;clear H0;refine zg [0,1,2,3] kr kr<|rp [.v] H1 kr fun gs2 w2 H2=>wX [1,2,3] ?_;clear H1;refine zdU H2 (some 4) 132 #[.slice p n c] (fun w=>n=List.length L∧jb w p L) 83 (fun v=>v) n L (ziM p n c L (by omega)) ⟨hpre.1,jb.up hpre.2 H2.below⟩ kr kr ?_ ?_
 ·skip;intro w3 h0 H3;clear H2;refine rp [.v,.s 0] H3 kr fun gs5 w5 H5=>wX [] ?_;clear H3;refine zc<|zl kr<|wV ?_;refine ⟨[.agg #[.bool true,.string (⟨#[]⟩),.slice none 0 0]],(.agg (b:=(gs1 0).b) (#[.bool true,.string (⟨#[]⟩),.slice none 0 0]) 83 (0,0) kr (H5.get 0 kr) kr .nil),H5.below,?_⟩;exact Or.inl ⟨h0,rfl⟩
 ·skip;intro b_1 cap_2 cur_3 w4 H4 hr_4;clear H2;refine rp [.v,.s 1] H4 kr fun gs6 w6 H6=>wX [] ?_;clear H4;refine zc<|zl kr<|wV ?_;refine ⟨[.agg #[.bool true,.string (⟨#[]⟩),.slice (some ⟨b_1,0,none⟩) n cap_2]],(.agg (b:=(gs1 0).b) (#[.bool true,.string (⟨#[]⟩),.slice (some ⟨b_1,0,none⟩) n cap_2]) 83 (0,0) kr (H6.get 1 kr) kr .nil),H6.below,?_⟩;exact Or.inr ⟨b_1,cap_2,_,rfl,H6.ge 0 (o:=.cells cur_3 83 (0,0)) kr,H6.get 0 kr,hr_4⟩
def Fo.app:Fo→Fo→Fo
 | .nil,R=>R
 | .cons l s k r,R=>.cons l s k (r.app R)
theorem uZ (x:X3)(R:Fo): ∀M:List X3,(toFo (M++ [x])).app R=(toFo M).app (.cons x.l x.s x.k R)
 | []=>rfl
 | y::r=>by simp only [List.cons_append,toFo,Fo.app,uZ x R r]
theorem Fo.app_nil: ∀k:Fo,k.app .nil=k
 | .nil=>rfl
 | .cons l s k r=>by simp only [Fo.app,Fo.app_nil r]
theorem zaa {g:Nat}{x:Nat×ByteArray}(h:x.2.size≤0x800000000000):(zQ g x).size≤0x800000000000:=by
 unfold zQ;split
 ·rw [qh];have:=qj x.1;omega
 ·split
  ·exact Nat.zero_le _
  ·exact h
def vJ (g:Nat)(b:Kf)(x:Nat×ByteArray)(l:Fe)(v:Value)(T:List (Nat×Obj)):Prop:=
 ∃(p:Option Addr) (n c:Nat),v=.agg #[.bool (zR g),.string (zQ g x),.slice p n c]∧SlIn T p n (zA g b l)
def zab (l:Fe):Prop:= ∀(g:Nat) (p:Option Addr) (n c:Nat) (b:Kf) (m:Nat) (s:ByteArray) (p2:Option Addr) (n2 c2:Nat) (room:Int),m<0x10000000000000000→0≤yf g b (m,s) l room→
 FnT Tryz.prog 66 #[knd g p n c,fld m s p2 n2 c2] (fun w=>SlR kS w.heap.size w p n b∧SlR fS w.heap.size w p2 n2 l) (vJ g b (m,s) l)
abbrev ziO (v:Value):Obj:=.cells #[.bool true,.string ⟨#[]⟩,v] 83 (0,0)
abbrev itZ:Obj:=.cells #[.bool false,.string ⟨#[]⟩,.slice none 0 0] 83 (0,0)
abbrev kdO (g:Nat)(p:Option Addr)(n c:Nat):Obj:=.cells #[.int .u8 (g:Int),.slice p n c] 62 (0,0)
abbrev fdO (m:Nat)(s:ByteArray)(p:Option Addr)(n c:Nat):Obj:=.cells #[.int .u64 (m:Int),.string s,.slice p n c] 44 (0,0)
abbrev rwO (C:Array Value):Obj:=.cells C 83 (0,0)
def zac (C:Array Value)(i:Nat)(x:X3):Array Value:=(C.toList.take (0+i*3)++(Value.agg (xc x)).cells.toList++C.toList.drop (0+i*3+(Value.agg (xc x)).cells.size)).toArray
def jp (B:Nat)(w0:World)(bq br:Nat)(C:Array Value)(i:Nat)(ok:X3→List (Nat×Obj)→Prop)(bk:Nat)(kO fO:Obj)(T:List (Nat×Obj)):(Nat→Bool)→(Nat→D2.Gh)→World→Prop:=fun L g w=>
 bif L 8 then ∃x T2,ok x T2∧St B w0 w ((bq,fO)::(bk,kO)::(br,rwO (zac C i x))::(T2++T))
 else bif L 6 then ∃x T2,ok x T2∧(g 6).cur=xc x∧St B w0 w ((bq,fO)::(bk,kO)::(br,rwO C)::(T2++T))
 else St B w0 w ((bq,fO)::(bk,kO)::(br,rwO C)::T)
theorem jp.st {B:Nat}{w0:World}{bq br:Nat}{C:Array Value}{i:Nat}{ok:X3→List (Nat×Obj)→Prop}{bk:Nat}{kO fO:Obj}{T:List (Nat×Obj)}{L:Nat→Bool}{g:Nat→D2.Gh}{w:World}(h8:L 8=false)(h:jp B w0 bq br C i ok bk kO fO T L g w):∃T',St B w0 w ((bq,fO)::(bk,kO)::(br,rwO C)::T'):=by
 unfold jp at h;rw [h8] at h;cases h6:L 6 with
 | true=>rw [h6] at h;obtain ⟨x,T2,_,_,h⟩:=h;exact ⟨_,h⟩
 | false=>rw [h6] at h;exact ⟨_,h⟩
theorem jp.call {B:Nat}{w0:World}{bq br:Nat}{C:Array Value}{i:Nat}{ok:X3→List (Nat×Obj)→Prop}{bk:Nat}{kO fO:Obj}{T:List (Nat×Obj)}{L:Nat→Bool}{g:Nat→D2.Gh}{w w':World}(hb:Below w.heap.size w w')(h:jp B w0 bq br C i ok bk kO fO T L g w):jp B w0 bq br C i ok bk kO fO T L g w':=by
 unfold jp at h ⊢;cases h8:L 8 with
 | true=>rw [h8] at h;obtain ⟨x,T2,h1,h⟩:=h;exact ⟨x,T2,h1,h.call hb⟩
 | false=>
  rw [h8] at h;cases h6:L 6 with
  | true=>rw [h6] at h;obtain ⟨x,T2,h1,h2,h⟩:=h;exact ⟨x,T2,h1,h2,h.call hb⟩
  | false=>rw [h6] at h;exact St.call h hb
theorem ziP (l:Fe)(hs:l.sub zab):zab l:=by
 intro g p n c b m s p2 n2 c2 room hm hleft;refine FnT.intro (c:=zk Tryz.f66) [.cell 4 83] 44 Tryz.func66 kr kr kr fun w hpre=>?_;have H0:=St.start w;obtain ⟨hK,hF⟩:=hpre;have hfit:zu g b.len m s.size l.len=true∧0≤yX l g b 0 (w64 (room-1)):=by
  unfold yf at hleft;by_cases hf:zu g b.len m s.size l.len=true
  ·rw [if_pos hf] at hleft;exact ⟨hf,hleft⟩
  ·rw [if_neg hf] at hleft;omega
 obtain ⟨hf1,hf2,hf3⟩:=uS hfit.1;have hn2:=hF.1;have hnb:n2≤1000:=by
  have hk1:=hK.1;have hk2:n≤1000:=hK.2.1;have:=hf3.2;unfold yj at this;split at this
  ·simp only at this;omega
  ·split at this
   ·simp only at this;omega
   ·simp only at this;omega
 refine rS [.b,.b,.a] H0 kr fun gs1 w1 H1=>?_;clear H0;refine rS [.v,.l 0] H1 kr fun gs2 w2 H2=>?_;clear H1;refine zn 0 kr ?_;by_cases h110:g=110
 ·refine rS [.E (.bool ((g:Int)==110)) (.bool true) (za (beq_iff_eq.2 (by omega))),.v] H2 kr fun gs3 w3 H3=>zf kr kr<|rS [.v,.l 1,.c (zhV m hm),.s 2] H3 kr fun gs4 w4 H4=>rRr [.cell 4 83] [2] (.agg #[.bool false,.string (zh (dg m)),.slice none 0 0]) (yp w.heap.size w (vJ g b (m,s) l)) H4 kr ?_;refine ⟨[],⟨none,0,0,?_,?_⟩,H4.sub (List.nil_sublist _)⟩
  ·subst h110;rfl
  ·subst h110;exact SlIn.none _
 ·refine rS [.E (.bool ((g:Int)==110)) (.bool false) (za (beq_eq_false_iff_ne.2 (by omega))),.v] H2 kr fun gs3 w3 H3=>zi kr kr<|zb kr<|qA (Q:=fun e ρ ww=>e=.normal∧St w.heap.size w ww [((gs1 0).b,kdO g p n c),((gs1 1).b,fdO m s p2 n2 c2),((gs1 2).b,itZ)]∧Is [(2,.pointer (some ⟨(gs1 0).b,0,none⟩)),(3,.pointer (some ⟨(gs1 1).b,0,none⟩)),(4,.pointer (some ⟨(gs1 2).b,0,none⟩)),(18,.bool (zR g))] ρ) ?_ ?_
  ·by_cases h40:g=40
   ·refine rS [.E (.bool ((g:Int)==40)) (.bool true) (za (beq_iff_eq.2 (by omega))),.v] H3 kr fun gs4 w4 H4=>zf kr kr<|zj kr ?_;refine ⟨rfl,H4.as kr,?_⟩;subst h40;exact Is.of ⟨kr,kr,kr,kr,trivial⟩
   ·refine rS [.E (.bool ((g:Int)==40)) (.bool false) (za (beq_eq_false_iff_ne.2 (by omega))),.v] H3 kr fun gs4 w4 H4=>zi kr kr ?_;have hl:zR g=decide (g=42):=by unfold zR;rw [decide_eq_false h40];rfl
    rw [hl];by_cases h42:g=42
    ·refine rL [.E (.bool ((g:Int)==42)) (.bool true) (za (beq_iff_eq.2 (by omega))),.v] H4 kr fun gs5 w5 H5=>?_;refine ⟨rfl,H5.as kr,?_⟩;rw [decide_eq_true h42];exact Is.of ⟨kr,kr,kr,kr,trivial⟩
    ·refine rL [.E (.bool ((g:Int)==42)) (.bool false) (za (beq_eq_false_iff_ne.2 (by omega))),.v] H4 kr fun gs5 w5 H5=>?_;refine ⟨rfl,H5.as kr,?_⟩;rw [decide_eq_false h42];exact Is.of ⟨kr,kr,kr,kr,trivial⟩
  rintro _ _ w4 ⟨rfl,H4,_,rfl⟩;refine wW ?_;clear H3 H2;cases hl:zR g with
  | false=>
   refine zi kr kr<|rS [.v,.l 1,.v,.s 2] H4 kr fun gs5 w5 H5=>rRr [.cell 4 83] [2] (.agg #[.bool false,.string s,.slice none 0 0]) (yp w.heap.size w (vJ g b (m,s) l)) H5 kr ?_;refine ⟨[],⟨none,0,0,?_,?_⟩,H5.sub (List.nil_sublist _)⟩
   ·unfold zQ;rw [if_neg h110,if_neg (by rw [hl];decide),hl]
   ·unfold zA;rw [if_neg (by rw [hl];decide)];exact SlIn.none _
  | true=>
   refine zf kr kr<|zg [0,1,2,3,4] kr kr<|rp [.v,.l 1,.v] H4 kr fun gs5 w5 H5=>wX [3,4] ?_;have H6:St w.heap.size w w5 [((gs1 0).b,kdO g p n c),((gs1 1).b,fdO m s p2 n2 c2),((gs1 2).b,itZ)]:=H5.as kr;refine ziE H6 (some 24) 81 83 3 48 (.tmp 23) (.tmp 23) .i64 .i64 n2 kr kr kr kr kr (by omega) (by unfold maxLen;omega) ?_;intro br C0 w6 H7 hC0;clear H4 H5 H6;have H8:St w.heap.size w w6 (((gs1 0).b,kdO g p n c)::(br,rwO C0)::((gs1 1).b,fdO m s p2 n2 c2)::((gs1 2).b,itZ)::[]):=H7.perm (List.Perm.swap _ _ _);clear H7;refine rp [.v] H8 kr fun gs6 w7 H9=>wX []<|zc<|zb kr<|rS [.v,.l 2,.v,.v] H9 kr fun gs7 w8 H10=>zn 1 kr ?_;have H11:St w.heap.size w w8 (((gs1 0).b,kdO g p n c)::(br,rwO C0)::((gs1 1).b,fdO m s p2 n2 c2)::((gs1 2).b,itZ)::[]):=H10.as kr;clear H8 H9 H10;refine zV kr (fun mz ρ ww=> ∃(i:Nat) (r:Fe) (v:Int) (C:Array Value) (M:List X3) (T:List (Nat×Obj)),n2-i=mz∧FrR fS w.heap.size w p2 i r∧i+r.len=n2∧r.sub zab∧0≤yX r g b i v∧(toFo M).app (yu r g b i)=yu l g b 0∧xd C n2 i M∧AllIn T M∧St w.heap.size w ww (((gs1 0).b,kdO g p n c)::(br,rwO C)::((gs1 1).b,fdO m s p2 n2 c2)::((gs1 2).b,itZ)::T)∧Is [(2,.pointer (some ⟨(gs1 0).b,0,none⟩)),(3,.pointer (some ⟨(gs1 1).b,0,none⟩)),(4,.pointer (some ⟨(gs1 2).b,0,none⟩)),(5,.slice (some ⟨br,0,none⟩) n2 n2),(26,.slice p2 n2 c2),(27,.int .i64 (n2:Int)),(28,.int .i64 (i:Int))] ρ) (n2-0) ⟨0,l,_,C0,[],[],rfl,hF.start,by omega,hs,hfit.2,rfl,xd.start hC0,(fun _ h=>nomatch h),H11,(Is.of ⟨kr,kr,kr,kr,kr,kr,kr,trivial⟩)⟩ ?_;clear H11;rintro _ _ w9 ⟨i,r,v,C,M,T,rfl,hR,hN,hsub,hlf,happ,hFill,hAll,H12,_,rfl⟩;by_cases hi:i<n2
   ·refine rS [.E (.bool (decide ((i:Int)<(n2:Int)))) (.bool true) (za (decide_eq_true (by omega)))] H12 kr fun gs8 w10 H13=>?_;clear H12;refine zb kr<|zf kr kr<|zj kr<|wW<|zb kr<|zn 2 kr ?_;obtain ⟨⟨m1,s1⟩,k1,r1,b1,off1,C1,T1,fz1,p1,n1,c1,hr1,hp1,hb1,hh1,hs1,hx1,hz1,hk1,hR1,hN1⟩:=FrR.open hR hN hi;obtain ⟨g',p',n',c',hK1,hK2,hg'⟩:=hK.kid g i;subst hr1;rw [vE,←hg'] at hlf;have hkid:0≤yf g' (zw g b i).2 (m1,s1) k1 v∧0≤yX r1 g b (i+1) (yf g' (zw g b i).2 (m1,s1) k1 v):=by
     by_cases hv:yf g' (zw g b i).2 (m1,s1) k1 v<0
     ·rw [if_pos hv] at hlf;omega
     ·rw [if_neg hv] at hlf;exact ⟨Int.not_lt.1 hv,hlf⟩
    refine zg [0,1,2,3,4,5] kr kr<|rp [.v,.o (ins:=[((.tmp 26),.slice p2 n2 c2),((.tmp 28),.int .i64 (i:Int))]) (v:=.pointer (some ⟨b1,off1+i*3,none⟩)) (fun ρ o w ho hi2=>yD (kd:=.i64) (t:=41) (e:=44) (K:=3) (bytes:=48) kr (x:=(.tmp 26)) (y:=(.tmp 28)) b1 off1 n2 c2 i hp1 ho hi2.1 hi2.2.1 (by omega) w),.fp (off:=off1+i*3) (n:=3) (W:=#[.int .u64 (m1:Int),.string s1,.slice p1 n1 c1]) hh1 hb1 hs1 hx1] H13 kr fun gs9 w11 H14=>wX [3,4,5] ?_;have H15:St w.heap.size w w11 (((gs1 0).b,kdO g p n c)::(br,rwO C)::((gs1 1).b,fdO m s p2 n2 c2)::((gs1 2).b,itZ)::T):=H14.as kr;refine zB H15 (some 7) 44 (.agg #[wZ,.string ⟨#[]⟩,.slice none 0 0]) kr kr kr ?_;intro bq w12 H16;refine rp [.v,.s 0] H16 kr fun gs10 w13 H17=>wX []<|zc ?_;have H18:St w.heap.size w w13 ((bq,fdO m1 s1 p1 n1 c1)::((gs1 0).b,kdO g p n c)::(br,rwO C)::((gs1 1).b,fdO m s p2 n2 c2)::((gs1 2).b,itZ)::T):=H17.as kr;clear H13 H14 H15 H16 H17;have hc:=hsub.1 g' p' n' c' (zw g b i).2 m1 s1 p1 n1 c1 v hz1.1 hkid.1;refine D2.g_draw0 [0,1,2,3,4,5,6,7,8] [(some 33,fun _=>.slice (some ⟨br,0,none⟩) n2 n2),(some 34,fun _=>.int .i64 (i:Int)),(some 35,fun _=>knd g p n c),(some 36,fun _=>.int .i64 (i:Int)),(some 37,fun _=>knd g' p' n' c'),(some 38,fun _=>fld m1 s1 p1 n1 c1),(some 39,fun y=>.agg y.cur),(some 40,fun _=>.pointer (some ⟨br,0+i*3,none⟩)),(none,fun _=>undef)]
     (jp w.heap.size w bq br C i (fun x T2=>x.l=zR g'∧x.s=zQ g' (m1,s1)∧x.k=zA g' (zw g b i).2 k1∧SlIn T2 x.p x.n x.k) (gs1 0).b (kdO g p n c) (fdO m1 s1 p1 n1 c1) (((gs1 1).b,fdO m s p2 n2 c2)::((gs1 2).b,itZ)::T)) kr kr kr H18.drew ⟨?_,?_,?_,?_,?_,?_,?_,?_,?_,trivial⟩ ?_
    ·exact D2.gv_val (fun _ _ _ h=>h) (fun g w=>by kernel_rfl)
    ·exact D2.gv_val (fun _ _ _ h=>h) (fun g w=>by kernel_rfl)
    ·refine D2.gv_ld (fun _ _ _ h=>h) 62 (.tmp 2) (fun _=>(gs1 0).b) 0 #[.int .u8 ((g:Nat):Int),.slice p n c] 62 (0,0) (fun g=>by kernel_rfl) (fun g=>by kernel_rfl) (fun L g w hN hp=>?_) kr kr;obtain ⟨T',h⟩:=hp.st (hN.post 8 kr);exact h.get 1 kr
    ·exact D2.gv_val (fun _ _ _ h=>h) (fun g w=>by kernel_rfl)
    ·refine D2.gv_cpW (fun _ _ _ h=>h) 94 #[knd g p n c,.int .i64 (i:Int)] (zbK g p n c i g' p' n' c') (fun L g w hN hp=>?_) (fun L g w w' hN hp hb=>hp.call hb) (fun g w=>by kernel_rfl);obtain ⟨T',h⟩:=hp.st (hN.post 8 kr);exact hK1.up h.below h.below.size
    ·refine D2.gv_ld (fun _ _ _ h=>h) 44 (.tmp 7) (fun _=>bq) 0 #[.int .u64 (m1:Int),.string s1,.slice p1 n1 c1] 44 (0,0) (fun g=>by kernel_rfl) (fun g=>by kernel_rfl) (fun L g w hN hp=>?_) kr kr;obtain ⟨T',h⟩:=hp.st (hN.post 8 kr);exact h.get 0 kr
    ·refine D2.gv_ft 66 #[knd g' p' n' c',fld m1 s1 p1 n1 c1] hc (fun L g w hN hp=>?_) (fun L gg ww v' T2 w' hN hp hok hT=>?_) (fun g w=>by kernel_rfl)
     ·obtain ⟨T',h⟩:=hp.st (hN.post 8 kr);exact ⟨hK2.call h.below,hk1.call h.below⟩
     ·obtain ⟨q1,q2,q3,rfl,hsl⟩:=hok;refine ⟨{ cur:=#[.bool (zR g'),.string (zQ g' (m1,s1)),.slice q1 q2 q3] },rfl,?_⟩;unfold jp at hp ⊢;rw [hN.post 8 kr,hN.1] at hp;rw [show D2.put1 L 6 8=false from hN.post 8 kr,show D2.put1 L 6 6=true from rfl];exact ⟨⟨zR g',zQ g' (m1,s1),q1,q2,q3,zA g' (zw g b i).2 k1⟩,T2,⟨rfl,rfl,rfl,hsl⟩,rfl,(St.addAll hp hT).perm (List.perm_append_comm_assoc T2 [(bq,fdO m1 s1 p1 n1 c1),((gs1 0).b,kdO g p n c),(br,rwO C)] (((gs1 1).b,fdO m s p2 n2 c2)::((gs1 2).b,itZ)::T)).symm⟩
    ·exact D2.gv_op (fun _ _ _ h=>h) _ (fun g=>by kernel_rfl) (fun g o w ho=>yD (kd:=.i64) (t:=81) (e:=83) (K:=3) (bytes:=48) kr (x:=(.tmp 33)) (y:=(.tmp 34)) br 0 n2 n2 i rfl ho kr kr hi w)
    ·refine D2.gives_of fun L1 gg ww hp hN=>?_;have h6:=hN.bef 6 kr;unfold jp at hp;rw [hN.1,h6] at hp;obtain ⟨x,T2,hx,hcur,HS⟩:=hp;obtain ⟨o,ho,hd,hw,hop⟩:=zE (show opk _ 8 _=some (none,true,.store 83 (.tmp 40) (.tmp 39)) by kernel_rfl);refine ⟨o,ho,hd,.inr ⟨hw,?_⟩⟩;rw [xV (t:=83) (off:=0+i*3) (b:=br) (C:=C) (T:=83) (v:=.agg (xc x)) (C':=zac C i x) (HS.get 2 kr) kr kr (hFill.put x hi).1 rfl kr (by rw [←hcur];kernel_rfl) o hop];refine ⟨default,rfl,?_⟩;unfold jp;rw [show D2.put1 L1 8 8=true from rfl];exact ⟨x,T2,hx,HS.store 2 (C:=C) kr⟩
    ·intro L1 gg w14 hall hp;unfold jp at hp;rw [hall 8 (Nat.le_of_ble_eq_true kr)] at hp;obtain ⟨x,T2,⟨hx1,hx2,hx3,hx4⟩,HS⟩:=hp;have H19:St w.heap.size w w14 (((gs1 0).b,kdO g p n c)::(br,rwO (zac C i x))::((gs1 1).b,fdO m s p2 n2 c2)::((gs1 2).b,itZ)::(T2++T)):=(HS.sub (List.sublist_cons_self ..)).perm (List.Perm.cons _ (List.Perm.cons _ (List.perm_append_comm_assoc T2 [((gs1 1).b,fdO m s p2 n2 c2),((gs1 2).b,itZ)] T).symm));refine wW<|rL [.E (.int .i64 (IntKind.i64.wrap ((i:Int)+1))) (.int .i64 ((i+1:Nat):Int)) (zd (zs (a:=i) (b:=1) (by omega))),.v] H19 kr fun gs11 w15 H20=>?_;show ∃m,_∧_;refine ⟨_,(by omega),i+1,r1,_,zac C i x,M++ [x],T2++T,rfl,hR1,hN1,hsub.2,hkid.2,?_,(hFill.put x hi).2,?_,H20.as kr,(Is.of ⟨kr,kr,kr,kr,kr,kr,kr,trivial⟩)⟩
     ·rw [uZ,hx1,hx2,hx3,←happ,vF,←hg']
     ·exact (hAll.mono fun e he=>List.mem_append_right _ he).snoc (hx4.mono fun e he=>List.mem_append_left _ he) (by rw [hx2];exact zaa hz1.2)
   ·obtain rfl:=FrR.done hN hi;obtain rfl:i=n2:=by simp only [Fr.len] at hN;omega
    refine rS [.E (.bool (decide ((i:Int)<(i:Int)))) (.bool false) (za (decide_eq_false (by omega)))] H12 kr fun gs8 w10 H13=>zb kr<|zi kr kr<|zN 1 kr<|wW ?_;have hM:toFo M=zA g b l:=by
     unfold zA;rw [if_pos hl,←happ];exact (Fo.app_nil _).symm
    have hrw:=hFill.done (by unfold maxLen;omega);refine zg [0,1,2] kr kr<|rp [.v] H13 kr fun gs9 w11 H14=>wX [1,2] ?_;have H15:St w.heap.size w w11 (((gs1 0).b,kdO g p n c)::(br,rwO C)::((gs1 1).b,fdO m s p2 i c2)::((gs1 2).b,itZ)::T):=H14.as kr;refine zdU H15 (some 43) 106 #[.slice (some ⟨br,0,none⟩) i i] (fun w=>i=List.length M∧jb w (some ⟨br,0,none⟩) M) 83 (fun v=>.agg #[.bool true,.string ⟨#[]⟩,v]) i M (ziN _ _ _ M (by omega)) (hrw.cellsAt (T:=83) (fz:=(0,0)) (H15.get 1 kr)) kr kr ?_ ?_
    ·intro w12 h0 H16;subst h0;refine rp [.s 3] H16 kr fun gs10 w13 H17=>wX []<|zc<|rRr [.cell 4 83] [3] (.agg #[.bool true,.string ⟨#[]⟩,.slice none 0 0]) (yp w.heap.size w (vJ g b (m,s) l)) H17 kr ?_;refine ⟨[],⟨none,0,0,?_,?_⟩,H17.sub (List.nil_sublist _)⟩
     ·unfold zQ;rw [if_neg h110,if_pos hl,hl]
     ·rw [←hM,List.eq_nil_of_length_eq_zero hFill.len];exact SlIn.none _
    ·intro bl cap cur w12 H16 hr;refine rp [.s 4] H16 kr fun gs10 w13 H17=>wX []<|zc<|rRr [.cell 4 83] [4] (.agg #[.bool true,.string ⟨#[]⟩,.slice (some ⟨bl,0,none⟩) i cap]) (yp w.heap.size w (vJ g b (m,s) l)) H17 kr ?_;have H18:St w.heap.size w w13 ((bl,rwO cur)::((gs1 0).b,kdO g p n c)::(br,rwO C)::((gs1 1).b,fdO m s p2 i c2)::((gs1 2).b,ziO (.slice (some ⟨bl,0,none⟩) i cap))::T):=H17.as kr;refine ⟨(bl,rwO cur)::T,⟨some ⟨bl,0,none⟩,i,cap,?_,?_⟩,H18.sub (List.Sublist.cons_cons _ (List.Sublist.cons _ (List.Sublist.cons _ (List.Sublist.cons _ (List.sublist_cons_self ..)))))⟩
     ·unfold zQ;rw [if_neg h110,if_pos hl,hl]
     ·rw [←hM];exact hr.slIn (ty:=83) (fz:=(0,0)) (List.mem_cons_self ..) (hAll.mono fun e he=>List.mem_cons_of_mem _ he) (by omega)
theorem ziQ (l:Fe):zab l:=(Fr.induct ziP l).1
def Fr.app {α:Type} :Fr α→Fr α→Fr α
 | .nil,R=>R
 | .cons a k r,R=>.cons a k (r.app R)
theorem zad {α:Type}(x:El α)(R:Fr α): ∀M:List (El α),(ys (M++ [x])).app R=(ys M).app (.cons x.a x.k R)
 | []=>rfl
 | y::r=>by simp only [List.cons_append,ys,Fr.app,zad x R r]
theorem Fr.app_nil {α:Type} : ∀k:Fr α,k.app .nil=k
 | .nil=>rfl
 | .cons a k r=>by simp only [Fr.app,Fr.app_nil r]
def Fo.sub (p:Fo→Prop):Fo→Prop
 | .nil=>True
 | .cons l s k r=>p k∧r.sub p
theorem Fo.induct {p:Fo→Prop}(h: ∀l:Fo,l.sub p→p l): ∀l:Fo,p l∧l.sub p
 | .nil=>⟨h .nil trivial,trivial⟩
 | .cons l s k r=>⟨h _ ⟨(Fo.induct h k).1,(Fo.induct h r).2⟩,(Fo.induct h k).1,(Fo.induct h r).2⟩
theorem ziR (s:ByteArray):(zG s).1<0x10000000000000000:=by
 unfold zG;split
 ·decide
 ·rename_i h
  exact vu (by rw [zt];omega)
theorem zbL (g:Nat)(l:Bool)(s:ByteArray)(n:Nat):zY g l s n<0x10000000000000000:=by
 unfold zY qx;split
 ·split
  ·decide
  ·exact ziR s
 ·decide
theorem zbM {g:Nat}{s:ByteArray}(h:s.size≤0x800000000000):(zW g s).size≤0x800000000000:=by
 unfold zW;split
 ·exact Nat.zero_le _
 ·exact h
def zex (g:Nat)(b:Kf)(l:Bool)(s:ByteArray)(k:Fo)(v:Value)(T:List (Nat×Obj)):Prop:=
 ∃(p:Option Addr) (n c:Nat),v=fld (zY g l s k.len) (zW g s) p n c∧RIn fS T p n (yh g b k)
abbrev itm (l:Bool)(s:ByteArray)(p:Option Addr)(n c:Nat):Value:=.agg #[.bool l,.string s,.slice p n c]
def zae (k:Fo):Prop:= ∀(g:Nat) (p:Option Addr) (n c:Nat) (b:Kf) (l:Bool) (s:ByteArray) (p2:Option Addr) (n2 c2:Nat),s.size≤0x800000000000→k.cnt≤1000000→
 FnT Tryz.prog 59 #[knd g p n c,itm l s p2 n2 c2] (fun w=>SlR kS w.heap.size w p n b∧zp w.heap.size w p2 n2 k) (zex g b l s k)
abbrev ixO (l:Bool)(s:ByteArray)(p:Option Addr)(n c:Nat):Obj:=.cells #[.bool l,.string s,.slice p n c] 83 (0,0)
abbrev frO (C:Array Value):Obj:=.cells C 44 (0,0)
abbrev fZ (v:Value):Obj:=.cells #[wZ,.string ⟨#[]⟩,v] 44 (0,0)
abbrev ec (x:El (Nat×ByteArray)):Array Value:=#[.int .u64 ((x.a.1:Nat):Int),.string x.a.2,.slice x.p x.n x.c]
def yY (B:Nat)(w0:World)(bq bf bk:Nat)(qO kO:Obj)(p:Option Addr)(i c:Nat)(row:List (Nat×Obj))(M:List (El (Nat×ByteArray)))(ok:El (Nat×ByteArray)→List (Nat×Obj)→Prop)(T:List (Nat×Obj)):(Nat→Bool)→(Nat→D2.Gh)→World→Prop:=fun L g w=>
 bif L 8 then ∃x T2,ok x T2∧Rw 3 (g 8).cur (g 8).cap (i+1) (zI fS (M++ [x]))∧St B w0 w ((bq,qO)::(bf,fZ (bif L 10 then .slice (some ⟨(g 8).b,0,none⟩) (i+1) (g 8).cap else .slice p i c))::(bk,kO)::((g 8).b,frO (g 8).cur)::(T2++T))
 else bif L 7 then ∃x T2,ok x T2∧St B w0 w (((g 7).b,frO (ec x))::(bq,qO)::(bf,fZ (.slice p i c))::(bk,kO)::(row++(T2++T)))
 else bif L 6 then ∃x T2,ok x T2∧(g 6).cur=ec x∧St B w0 w ((bq,qO)::(bf,fZ (.slice p i c))::(bk,kO)::(row++(T2++T)))
 else St B w0 w ((bq,qO)::(bf,fZ (.slice p i c))::(bk,kO)::(row++T))
section
variable {B:Nat}{w0:World}{bq bf bk:Nat}{qO kO:Obj}{p:Option Addr}{i c:Nat}{row:List (Nat×Obj)}{M:List (El (Nat×ByteArray))}{ok:El (Nat×ByteArray)→List (Nat×Obj)→Prop}{T:List (Nat×Obj)}{L:Nat→Bool}{g:Nat→D2.Gh}{w w':World}
theorem yY.f (h8:L 8=false)(h:yY B w0 bq bf bk qO kO p i c row M ok T L g w):∃l,St B w0 w l∧(bf,fZ (.slice p i c))∈l:=by
 unfold yY at h;rw [h8] at h;cases h7:L 7 with
 | true=>rw [h7] at h;obtain ⟨x,T2,_,h⟩:=h;exact ⟨_,h,by simp⟩
 | false=>
  rw [h7] at h;cases h6:L 6 with
  | true=>rw [h6] at h;obtain ⟨x,T2,_,_,h⟩:=h;exact ⟨_,h,by simp⟩
  | false=>rw [h6] at h;exact ⟨_,h,by simp⟩
theorem yY.st (h8:L 8=false)(h7:L 7=false)(h6:L 6=false)(h:yY B w0 bq bf bk qO kO p i c row M ok T L g w):St B w0 w ((bq,qO)::(bf,fZ (.slice p i c))::(bk,kO)::(row++T)):=by
 unfold yY at h;rw [h8,h7,h6] at h;exact h
theorem yY.call (hb:Below w.heap.size w w')(h:yY B w0 bq bf bk qO kO p i c row M ok T L g w):yY B w0 bq bf bk qO kO p i c row M ok T L g w':=by
 unfold yY at h ⊢;cases h8:L 8 with
 | true=>rw [h8] at h;obtain ⟨x,T2,h1,h2,h⟩:=h;exact ⟨x,T2,h1,h2,h.call hb⟩
 | false=>
  rw [h8] at h;cases h7:L 7 with
  | true=>rw [h7] at h;obtain ⟨x,T2,h1,h⟩:=h;exact ⟨x,T2,h1,h.call hb⟩
  | false=>
   rw [h7] at h;cases h6:L 6 with
   | true=>rw [h6] at h;obtain ⟨x,T2,h1,h2,h⟩:=h;exact ⟨x,T2,h1,h2,h.call hb⟩
   | false=>rw [h6] at h;exact St.call h hb
end
theorem ziS (k:Fo)(hs:k.sub zae):zae k:=by
 intro g p n c b l s p2 n2 c2 hsz hcnt;refine FnT.intro (c:=zk Tryz.f59) [.cell 4 44] 44 Tryz.func59 kr kr kr fun w hpre=>?_;have H0:=St.start w;obtain ⟨hK,hF⟩:=hpre;have hn2:=hF.1;have hn3:=hF.2.1;have hlen:=k.len_le;refine rS [.b,.b,.a] H0 kr fun gs1 w1 H1=>?_;clear H0;refine rS [.a] H1 kr fun gs2 w2 H2=>?_;clear H1;refine zb kr<|qA (Q:=fun e ρ ww=>e=.normal∧∃(p3:Option Addr) (n3 c3:Nat) (T:List (Nat×Obj)),RIn fS T p3 n3 (yh g b k)∧St w.heap.size w ww (((gs2 0).b,fdO (zY g l s k.len) (zW g s) p3 n3 c3)::((gs1 2).b,fZ (.slice none 0 0))::T)∧Is [(4,.pointer (some ⟨(gs1 2).b,0,none⟩)),(5,.pointer (some ⟨(gs2 0).b,0,none⟩))] ρ) ?_ ?_
 ·refine rS [.v,.l 0] H2 kr fun gs3 w3 H3=>?_;clear H2;refine zn 0 kr ?_;by_cases h110:g=110
  ·refine rS [.E (.bool ((g:Int)==110)) (.bool true) (za (beq_iff_eq.2 (by omega))),.v] H3 kr fun gs4 w4 H4=>zf kr kr ?_;have hv:zY g l s k.len=(qx l s n2).1:=by unfold zY;rw [if_pos h110,hn2]
   have hb:zW g s=⟨#[]⟩:=by unfold zW;rw [if_pos (.inl h110)]
   have hk:yh g b k=.nil:=by unfold yh;rw [h110];rfl
   rw [hv,hb,hk];refine rL [.l 1,.cp (pre:=fun w=>zp w.heap.size w p2 n2 k) (zhU l s p2 n2 c2 k hsz) [] (fun w hb hd=>hF.call hb),.v,.v,.v,.v,.s 3] H4 kr fun gs5 w5 H5=>?_;have H6:St w.heap.size w w5 [((gs1 0).b,kdO g p n c),((gs1 1).b,ixO l s p2 n2 c2),((gs1 2).b,fZ (.slice none 0 0)),((gs2 0).b,fdO (qx l s n2).1 ⟨#[]⟩ none 0 0)]:=H5.as kr;refine ⟨rfl,none,0,0,[],RIn.none _ _,?_,(Is.of ⟨kr,kr,trivial⟩)⟩;exact (H6.sub (List.Sublist.cons _ (List.Sublist.cons _ (List.Sublist.refl _)))).perm (List.Perm.swap _ _ _)
  ·refine rS [.E (.bool ((g:Int)==110)) (.bool false) (za (beq_eq_false_iff_ne.2 (by omega))),.v] H3 kr fun gs4 w4 H4=>zi kr kr ?_;have hv:zY g l s k.len=0:=by unfold zY;rw [if_neg h110]
   rw [hv];clear H3;refine zb kr<|qA (Q:=fun e ρ ww=>e=.normal∧St w.heap.size w ww [((gs1 0).b,kdO g p n c),((gs1 1).b,ixO l s p2 n2 c2),((gs1 2).b,fZ (.slice none 0 0)),((gs2 0).b,fZ (.slice none 0 0))]∧Is [(2,.pointer (some ⟨(gs1 0).b,0,none⟩)),(3,.pointer (some ⟨(gs1 1).b,0,none⟩)),(4,.pointer (some ⟨(gs1 2).b,0,none⟩)),(5,.pointer (some ⟨(gs2 0).b,0,none⟩)),(21,.bool (zR g))] ρ) ?_ ?_
   ·by_cases h40:g=40
    ·refine rS [.E (.bool ((g:Int)==40)) (.bool true) (za (beq_iff_eq.2 (by omega))),.v] H4 kr fun gs5 w5 H5=>zf kr kr<|zj kr ?_;refine ⟨rfl,H5.as kr,?_⟩;subst h40;exact Is.of ⟨kr,kr,kr,kr,kr,trivial⟩
    ·refine rS [.E (.bool ((g:Int)==40)) (.bool false) (za (beq_eq_false_iff_ne.2 (by omega))),.v] H4 kr fun gs5 w5 H5=>zi kr kr ?_;have hl:zR g=decide (g=42):=by unfold zR;rw [decide_eq_false h40];rfl
     rw [hl];by_cases h42:g=42
     ·refine rL [.E (.bool ((g:Int)==42)) (.bool true) (za (beq_iff_eq.2 (by omega))),.v] H5 kr fun gs6 w6 H6=>?_;refine ⟨rfl,H6.as kr,?_⟩;rw [decide_eq_true h42];exact Is.of ⟨kr,kr,kr,kr,kr,trivial⟩
     ·refine rL [.E (.bool ((g:Int)==42)) (.bool false) (za (beq_eq_false_iff_ne.2 (by omega))),.v] H5 kr fun gs6 w6 H6=>?_;refine ⟨rfl,H6.as kr,?_⟩;rw [decide_eq_false h42];exact Is.of ⟨kr,kr,kr,kr,kr,trivial⟩
   rintro _ _ w5 ⟨rfl,H5,_,rfl⟩;refine wW ?_;clear H4;cases hl:zR g with
   | false=>
    refine zi kr kr ?_;have hb:zW g s=s:=by unfold zW;rw [if_neg (by rw [hl];simp [h110])]
    have hk:yh g b k=.nil:=by unfold yh;rw [hl];rfl
    rw [hb,hk];refine rL [.v,.l 1,.v,.s 3] H5 kr fun gs6 w6 H6=>?_;have H7:St w.heap.size w w6 [((gs1 0).b,kdO g p n c),((gs1 1).b,ixO l s p2 n2 c2),((gs1 2).b,fZ (.slice none 0 0)),((gs2 0).b,fdO 0 s none 0 0)]:=H6.as kr;refine ⟨rfl,none,0,0,[],RIn.none _ _,?_,(Is.of ⟨kr,kr,trivial⟩)⟩;exact (H7.sub (List.Sublist.cons _ (List.Sublist.cons _ (List.Sublist.refl _)))).perm (List.Perm.swap _ _ _)
   | true=>
    refine zf kr kr ?_;have hb:zW g s=⟨#[]⟩:=by unfold zW;rw [if_pos (.inr hl)]
    have hk:yh g b k=yC k g b 0:=by unfold yh;rw [if_pos hl]
    rw [hb,hk];refine rS [.v,.l 1,.v,.v] H5 kr fun gs6 w6 H6=>zn 1 kr ?_;have H7:St w.heap.size w w6 [((gs1 0).b,kdO g p n c),((gs1 1).b,ixO l s p2 n2 c2),((gs1 2).b,fZ (.slice none 0 0)),((gs2 0).b,fZ (.slice none 0 0))]:=H6.as kr;have H8:St w.heap.size w w6 (((gs2 0).b,fZ (.slice none 0 0))::((gs1 0).b,kdO g p n c)::([]++(((gs1 1).b,ixO l s p2 n2 c2)::((gs1 2).b,fZ (.slice none 0 0))::[]))):=H7.perm (List.perm_append_comm (l₁:=[((gs2 0).b,fZ (.slice none 0 0))]) (l₂:=[((gs1 0).b,kdO g p n c),((gs1 1).b,ixO l s p2 n2 c2),((gs1 2).b,fZ (.slice none 0 0))]));clear H5 H6 H7;refine zV kr (fun mz ρ ww=> ∃(i:Nat) (r:Fo) (p3:Option Addr) (c3:Nat) (row:List (Nat×Obj)) (M:List (El (Nat×ByteArray))) (T:List (Nat×Obj)),n2-i=mz∧FoR w.heap.size w p2 i r∧i+r.len=n2∧r.sub zae∧r.cnt≤k.cnt∧(ys M).app (yC r g b i)=yC k g b 0∧RowE fS 44 p3 i c3 row M∧AllE fS T M∧St w.heap.size w ww (((gs2 0).b,fZ (.slice p3 i c3))::((gs1 0).b,kdO g p n c)::(row++(((gs1 1).b,ixO l s p2 n2 c2)::((gs1 2).b,fZ (.slice none 0 0))::T)))∧Is [(2,.pointer (some ⟨(gs1 0).b,0,none⟩)),(3,.pointer (some ⟨(gs1 1).b,0,none⟩)),(4,.pointer (some ⟨(gs1 2).b,0,none⟩)),(5,.pointer (some ⟨(gs2 0).b,0,none⟩)),(25,.slice p2 n2 c2),(26,.int .i64 (n2:Int)),(27,.int .i64 (i:Int))] ρ) (n2-0) ⟨0,k,none,0,[],[],[],rfl,hF.start,by omega,hs,Nat.le_refl _,rfl,.inl ⟨rfl,rfl,rfl,rfl,rfl⟩,(fun _ h=>nomatch h),H8,(Is.of ⟨kr,kr,kr,kr,kr,kr,kr,trivial⟩)⟩ ?_;clear H8;rintro _ _ w9 ⟨i,r,p3,c3,row,M,T,rfl,hR,hN,hsub,hcn,happ,hRow,hAll,H12,_,rfl⟩;by_cases hi:i<n2
    ·refine rS [.E (.bool (decide ((i:Int)<(n2:Int)))) (.bool true) (za (decide_eq_true (by omega)))] H12 kr fun gs8 w10 H13=>?_;clear H12;refine zb kr<|zf kr kr<|zj kr<|wW<|zb kr<|zn 2 kr ?_;obtain ⟨l1,s1,k1,r1,b1,off1,C1,T1,fz1,p1,n1,c1,hr1,hp1,hb1,hh1,hs1,hx1,hz1,hk1,hR1,hN1⟩:=FoR.open hR hN hi;obtain ⟨g',p',n',c',hK1,hK2,hg'⟩:=hK.kid g i;subst hr1;simp only [Fo.cnt] at hcn;refine zg [0,1,2,3,4,5] kr kr<|rp [.v,.o (ins:=[((.tmp 25),.slice p2 n2 c2),((.tmp 27),.int .i64 (i:Int))]) (v:=.pointer (some ⟨b1,off1+i*3,none⟩)) (fun ρ o w ho hi2=>yD (kd:=.i64) (t:=81) (e:=83) (K:=3) (bytes:=48) kr (x:=(.tmp 25)) (y:=(.tmp 27)) b1 off1 n2 c2 i hp1 ho hi2.1 hi2.2.1 (by omega) w),.fp (off:=off1+i*3) (n:=3) (W:=#[.bool l1,.string s1,.slice p1 n1 c1]) hh1 hb1 hs1 hx1] H13 kr fun gs9 w11 H14=>wX [3,4,5] ?_;have H15:St w.heap.size w w11 (((gs2 0).b,fZ (.slice p3 i c3))::((gs1 0).b,kdO g p n c)::(row++(((gs1 1).b,ixO l s p2 n2 c2)::((gs1 2).b,fZ (.slice none 0 0))::T))):=H14.as kr;refine zB H15 (some 7) 83 (.agg #[.bool false,.string ⟨#[]⟩,.slice none 0 0]) kr kr kr ?_;intro bq w12 H16;refine rp [.v,.s 0] H16 kr fun gs10 w13 H17=>wX []<|zc ?_;have H18:St w.heap.size w w13 ((bq,ixO l1 s1 p1 n1 c1)::((gs2 0).b,fZ (.slice p3 i c3))::((gs1 0).b,kdO g p n c)::(row++(((gs1 1).b,ixO l s p2 n2 c2)::((gs1 2).b,fZ (.slice none 0 0))::T))):=H17.as kr;clear H13 H14 H15 H16 H17;have hc:=hsub.1 g' p' n' c' (zw g b i).2 l1 s1 p1 n1 c1 hz1 (by omega);refine D2.g_draw0 [0,1,2,3,4,5,6,7,8,9,10] [(some 32,fun _=>.pointer (some ⟨(gs2 0).b,2,none⟩)),(some 33,fun _=>.slice p3 i c3),(some 34,fun _=>knd g p n c),(some 35,fun _=>.int .i64 (i:Int)),(some 36,fun _=>knd g' p' n' c'),(some 37,fun _=>itm l1 s1 p1 n1 c1),(some 38,fun y=>.agg y.cur),(some 39,fun y=>.slice (some ⟨y.b,0,none⟩) 1 1),(some 40,fun y=>.slice (some ⟨y.b,0,none⟩) (i+1) y.cap),(some 41,fun _=>.pointer (some ⟨(gs2 0).b,2,none⟩)),(none,fun _=>undef)]
      (yY w.heap.size w bq (gs2 0).b (gs1 0).b (ixO l1 s1 p1 n1 c1) (kdO g p n c) p3 i c3 row M (fun x T2=>x.a=(zY g' l1 s1 k1.len,zW g' s1)∧x.k=yh g' (zw g b i).2 k1∧RIn fS T2 x.p x.n x.k) (((gs1 1).b,ixO l s p2 n2 c2)::((gs1 2).b,fZ (.slice none 0 0))::T)) kr kr kr H18.drew ⟨?_,?_,?_,?_,?_,?_,?_,?_,?_,?_,?_,trivial⟩ ?_
     ·exact D2.gv_val (fun _ _ _ h=>h) (fun g w=>by kernel_rfl)
     ·refine D2.gv_ld (fun _ _ _ h=>h) 41 (.tmp 32) (fun _=>(gs2 0).b) 2 #[wZ,.string ⟨#[]⟩,.slice p3 i c3] 44 (0,0) (fun g=>by kernel_rfl) (fun g=>by kernel_rfl) (fun L g w hN hp=>?_) kr kr;obtain ⟨l',h,hm⟩:=hp.f (hN.post 8 kr);exact (h.own _ hm).2
     ·refine D2.gv_ld (fun _ _ _ h=>h) 62 (.tmp 2) (fun _=>(gs1 0).b) 0 #[.int .u8 ((g:Nat):Int),.slice p n c] 62 (0,0) (fun g=>by kernel_rfl) (fun g=>by kernel_rfl) (fun L g w hN hp=>?_) kr kr;have h4:=hN.post 4 kr;have h6:=hN.2.2.no 4 6 kr h4;have h7:=hN.2.2.no 6 7 kr h6;exact (hp.st (hN.2.2.no 7 8 kr h7) h7 h6).get 2 kr
     ·exact D2.gv_val (fun _ _ _ h=>h) (fun g w=>by kernel_rfl)
     ·refine D2.gv_cpW (fun _ _ _ h=>h) 94 #[knd g p n c,.int .i64 (i:Int)] (zbK g p n c i g' p' n' c') (fun L g w hN hp=>?_) (fun L g w w' hN hp hb=>hp.call hb) (fun g w=>by kernel_rfl);have h6:=hN.post 6 kr;have h7:=hN.2.2.no 6 7 kr h6;have h:=hp.st (hN.2.2.no 7 8 kr h7) h7 h6;exact hK1.up h.below h.below.size
     ·refine D2.gv_ld (fun _ _ _ h=>h) 83 (.tmp 7) (fun _=>bq) 0 #[.bool l1,.string s1,.slice p1 n1 c1] 83 (0,0) (fun g=>by kernel_rfl) (fun g=>by kernel_rfl) (fun L g w hN hp=>?_) kr kr;have h6:=hN.post 6 kr;have h7:=hN.2.2.no 6 7 kr h6;exact (hp.st (hN.2.2.no 7 8 kr h7) h7 h6).get 0 kr
     ·refine D2.gv_ft 59 #[knd g' p' n' c',itm l1 s1 p1 n1 c1] hc (fun L g w hN hp=>?_) (fun L gg ww v' T2 w' hN hp hok hT=>?_) (fun g w=>by kernel_rfl)
      ·have h7:=hN.post 7 kr;have h:=hp.st (hN.2.2.no 7 8 kr h7) h7 hN.1;exact ⟨hK2.call h.below,hk1.call h.below⟩
      ·obtain ⟨q1,q2,q3,rfl,hsl⟩:=hok;have h7:=hN.post 7 kr;have h8:=hN.2.2.no 7 8 kr h7;refine ⟨{ cur:=#[.int .u64 ((zY g' l1 s1 k1.len:Nat):Int),.string (zW g' s1),.slice q1 q2 q3] },rfl,?_⟩;have hp:=hp.st h8 h7 hN.1;unfold yY;rw [show D2.put1 L 6 8=false from h8,show D2.put1 L 6 7=false from h7,show D2.put1 L 6 6=true from rfl];exact ⟨⟨(zY g' l1 s1 k1.len,zW g' s1),q1,q2,q3,yh g' (zw g b i).2 k1⟩,T2,⟨rfl,rfl,hsl⟩,rfl,(St.addAll hp hT).perm ((List.Perm.cons _ (List.Perm.cons _ (List.Perm.cons _ (List.perm_append_comm_assoc row T2 _)))).trans (List.perm_append_comm_assoc T2 [(bq,ixO l1 s1 p1 n1 c1),((gs2 0).b,fZ (.slice p3 i c3)),((gs1 0).b,kdO g p n c)] (row++_)).symm)⟩
     ·refine D2.gives_of fun L1 gg ww hp hN=>?_;have h6:=hN.bef 6 kr;have h8:=hN.post 8 kr;unfold yY at hp;rw [h8,hN.1,h6] at hp;obtain ⟨x,T2,hx,hcur,HS⟩:=hp;obtain ⟨o,ho,hd,hw,hrun⟩:=zU (show opv _ _ 7 (yN [(32,.pointer (some ⟨(gs2 0).b,2,none⟩)),(33,.slice p3 i c3),(34,knd g p n c),(35,.int .i64 (i:Int)),(36,knd g' p' n' c'),(37,itm l1 s1 p1 n1 c1),(38,.agg (gg 6).cur)] _) ww=some (some 39,true,.ok (.value (.slice (some ⟨ww.heap.size,0,none⟩) 1 1)) (ww.alloc (.cells (ec x) 44))) by rw [hcur];kernel_rfl);refine ⟨o,ho,hd,.inr ⟨hw,?_⟩⟩;refine (congrArg (D2.Runs _ _) hrun).mpr ?_;refine ⟨{ b:=ww.heap.size },rfl,?_⟩;unfold yY;rw [show D2.put1 L1 7 8=false from h8,show D2.put1 L1 7 7=true from rfl];exact ⟨x,T2,hx,HS.alloc _⟩
     ·refine D2.gives_of fun L1 gg ww hp hN=>?_;have h7:=hN.bef 7 kr;have h10:=hN.post 10 kr;unfold yY at hp;rw [hN.1,h7] at hp;obtain ⟨x,T2,hx,HS⟩:=hp;obtain ⟨o,ho,hd,hw,hop⟩:=zE (show opk _ 8 _=some (some 40,true,yq 41 (.tmp 33) (.tmp 39)) by kernel_rfl);refine ⟨o,ho,hd,.inr ⟨hw,?_⟩⟩;rcases hRow with ⟨rfl,rfl,rfl,rfl,rfl⟩ | ⟨br,cur,rfl,rfl,hrw⟩
      ·obtain ⟨b',cap',cur',w',hrun,HS',hr'⟩:=ur (K:=3) HS (t:=41) (e:=44) (bytes:=48) (k:=0) (bx:=(gg 7).b) (c:=1) (Y:=ec x) kr hop kr kr rfl rfl (jA rfl) (by omega);rw [hrun];refine ⟨{ b:=b',cap:=cap',cur:=cur' },rfl,?_⟩;unfold yY;rw [show D2.put1 L1 8 8=true from rfl,show D2.put1 L1 8 10=false from h10];refine ⟨x,T2,hx,hr',?_⟩;exact (HS'.sub (List.Sublist.cons_cons _ (List.sublist_cons_self ..))).perm (List.perm_middle (l₁:=[(bq,ixO l1 s1 p1 n1 c1),((gs2 0).b,fZ (.slice none 0 0)),((gs1 0).b,kdO g p n c)]))
      ·obtain ⟨b',cap',cur',w',hrun,HS',hr'⟩:=vp (K:=3) HS (t:=41) (e:=44) (bytes:=48) (j:=4) (k:=0) (bx:=(gg 7).b) (c:=1) (Y:=ec x) kr hop kr rfl hrw kr rfl rfl (jA rfl) (by omega) (by unfold maxLen;omega);rw [hrun];refine ⟨{ b:=b',cap:=cap',cur:=cur' },rfl,?_⟩;unfold yY;rw [show D2.put1 L1 8 8=true from rfl,show D2.put1 L1 8 10=false from h10];refine ⟨x,T2,hx,?_,HS'.sub (List.sublist_cons_self ..)⟩;rw [xU];exact hr'
     ·exact D2.gv_val (fun _ _ _ h=>h) (fun g w=>by kernel_rfl)
     ·refine D2.gives_of fun L1 gg ww hp hN=>?_;have h8:=hN.bef 8 kr;unfold yY at hp;rw [h8,hN.1] at hp;obtain ⟨x,T2,hx,hr',HS⟩:=hp;obtain ⟨o,ho,hd,hw,hop⟩:=zE (show opk _ 10 _=some (none,true,.store 41 (.tmp 41) (.tmp 40)) by kernel_rfl);refine ⟨o,ho,hd,.inr ⟨hw,?_⟩⟩;rw [xV (t:=41) (off:=2) (b:=(gs2 0).b) (C:=#[wZ,.string ⟨#[]⟩,.slice p3 i c3]) (T:=44) (v:=.slice (some ⟨(gg 8).b,0,none⟩) (i+1) (gg 8).cap) (C':=#[wZ,.string ⟨#[]⟩,.slice (some ⟨(gg 8).b,0,none⟩) (i+1) (gg 8).cap]) (HS.get 1 kr) kr kr (of_decide_eq_true kr) kr kr kr o hop];refine ⟨default,rfl,?_⟩;unfold yY;rw [show D2.put1 L1 10 8=true from h8,show D2.put1 L1 10 10=true from rfl];exact ⟨x,T2,hx,hr',HS.store 1 (C:=#[wZ,.string ⟨#[]⟩,.slice p3 i c3]) kr⟩
     ·intro L1 gg w14 hall hp;unfold yY at hp;rw [hall 8 (Nat.le_of_ble_eq_true kr),hall 10 (Nat.le_of_ble_eq_true kr)] at hp;obtain ⟨x,T2,⟨hx1,hx2,hx3⟩,hr',HS⟩:=hp;have H19:St w.heap.size w w14 (((gs2 0).b,fZ (.slice (some ⟨(gg 8).b,0,none⟩) (i+1) (gg 8).cap))::((gs1 0).b,kdO g p n c)::([((gg 8).b,frO (gg 8).cur)]++(((gs1 1).b,ixO l s p2 n2 c2)::((gs1 2).b,fZ (.slice none 0 0))::(T2++T)))):=(HS.sub (List.sublist_cons_self ..)).perm (List.Perm.cons _ (List.Perm.cons _ (List.Perm.cons _ (List.perm_append_comm_assoc T2 [((gs1 1).b,ixO l s p2 n2 c2),((gs1 2).b,fZ (.slice none 0 0))] T).symm)));refine wW<|rL [.E (.int .i64 (IntKind.i64.wrap ((i:Int)+1))) (.int .i64 ((i+1:Nat):Int)) (zd (zs (a:=i) (b:=1) (by omega))),.v] H19 kr fun gs11 w15 H20=>?_;show ∃m,_∧_;refine ⟨_,(by omega),i+1,r1,_,_,[((gg 8).b,frO (gg 8).cur)],M++ [x],T2++T,rfl,hR1,hN1,hsub.2,(by omega),?_,.inr ⟨_,_,rfl,rfl,hr'⟩,?_,H20.as kr,(Is.of ⟨kr,kr,kr,kr,kr,kr,kr,trivial⟩)⟩
      ·rw [zad,hx1,hx2,←happ,uR,←hg']
      ·exact (hAll.mono fun e he=>List.mem_append_right _ he).snoc (hx3.mono fun e he=>List.mem_append_left _ he) (by rw [hx1];exact ⟨zbL ..,zbM hz1⟩)
    ·obtain rfl:=FoR.done hN hi;obtain rfl:i=n2:=by simp only [Fo.len] at hN;omega
     refine rS [.E (.bool (decide ((i:Int)<(i:Int)))) (.bool false) (za (decide_eq_false (by omega)))] H12 kr fun gs8 w10 H13=>zb kr<|zi kr kr<|zN 1 kr ?_;have hM:ys M=yC k g b 0:=by
      rw [←happ];exact (Fr.app_nil _).symm
     have H14:St w.heap.size w w10 (((gs2 0).b,fZ (.slice p3 i c3))::((gs1 0).b,kdO g p n c)::(row++(((gs1 1).b,ixO l s p2 i c2)::((gs1 2).b,fZ (.slice none 0 0))::T))):=H13.as kr;refine ⟨rfl,p3,i,c3,row++T,?_,?_,(Is.of ⟨kr,kr,trivial⟩)⟩
     ·rw [←hM];exact hRow.rIn (by decide) hAll hn3
     ·refine (H14.sub (l':=((gs2 0).b,fZ (.slice p3 i c3))::(row++(((gs1 2).b,fZ (.slice none 0 0))::T))) (List.Sublist.cons_cons _ (List.Sublist.cons _ (List.Sublist.append (List.Sublist.refl _) (List.sublist_cons_self ..))))).perm ?_;exact List.Perm.cons _ (List.perm_middle).symm
 rintro _ _ w5 ⟨rfl,p3,n3,c3,T,hT,H5,_,rfl⟩;refine wW<|rS [.l 0,.s 1] H5 kr fun gs6 w6 H6=>rRr [.cell 4 44] [1] (fld (zY g l s k.len) (zW g s) p3 n3 c3) (yp w.heap.size w (zex g b l s k)) H6 kr ?_;have H7:St w.heap.size w w6 (((gs2 0).b,fdO (zY g l s k.len) (zW g s) p3 n3 c3)::((gs1 2).b,fdO (zY g l s k.len) (zW g s) p3 n3 c3)::T):=H6.as kr;exact ⟨T,⟨p3,n3,c3,rfl,hT⟩,H7.sub (List.Sublist.cons _ (List.sublist_cons_self ..))⟩
theorem ziT (k:Fo):zae k:=(Fo.induct ziS k).1
section
variable {P:Program}{N:Nat}{Q:Exit→Env→World→Prop}{ρ:Env}{w:World}{c:Code}
def zey:Code→Bool | .scope _=>true | _=>false
def zez:Code→Option Nat | .label i=>some i | _=>none
theorem ziU (h:zey c=true):c=.scope (qq c):=by cases c<;>first | rfl | cases h
theorem ziV {i:Nat}(h:zez c=some i):c=.label i:=by
 cases c<;>first | (cases h;done) | (cases h;rfl)
def ng (Q:Exit→Env→World→Prop):Exit→Env→World→Prop
 | .goto _,_,_=>False
 | e,ρ,w=>Q e ρ w
theorem ziW (hc:zey c=true)(h:WP P N (qq c) (ng Q) ρ w):WP P N c Q ρ w:=by
 rw [ziU hc];intro a ha;refine wp_scope_straight (Go.wp_mono (h a ha) ?_);rintro e a' w' ⟨r,hr,q⟩;cases e<;>first | exact ⟨r,hr,q⟩ | exact q.elim
theorem ziX (i:Nat)(hc:zez c=some i)(h:Q .normal ρ w):WP P N c Q ρ w:=by rw [ziV hc];exact WP.label h
end
section
variable {P:Program}{N:Nat}{ops:Array Oper}{i:Nat}{r:List Nat}{K:Env→World→Prop}{ρ:Env}{w:World}{B:Nat}{w0:World}{l:List (Nat×Obj)}
theorem zbN {K':Nat}(HS:St B w0 w l)(d:Option Nat)(t e bytes:Nat)(s x:Operand)(j k b bx n cap c:Nat)(cur Y:Array Value)(xs:List Value)(h:opk ops i ρ=some (d,true,yq t s x))(hd:dOK d N=true)(ht:yy P t=some (e,K',bytes))
 (hs:ev ρ s=.slice (some ⟨b,0,none⟩) n cap) (hj:l[j]? =some (b,.cells cur e (0,0))) (hr:Rw K' cur cap n xs) (hx:ev ρ x=.slice (some ⟨bx,0,none⟩) 1 c) (hk:l[k]? =some (bx,.cells Y e (0,0)))
 (hY:Y.size=K') (hone: ∀u∈Y.toList,u.oneCell'=true) (hb:(n+1)*bytes≤0x800000000000) (hm:n+1≤maxLen)
 (kk: ∀b' cap' cur' w',St B w0 w' (l.set j (b',.cells cur' e (0,0)))→Rw K' cur' cap' (n+1) (xs++Y.toList)→WPs P N ops K r (zr ρ d (.slice (some ⟨b',0,none⟩) (n+1) cap')) w'):WPs P N ops K (i::r) ρ w:=by
 obtain ⟨o,ho,rfl,hw,hop⟩:=zE h;obtain ⟨b',cap',cur',w',hrun,HS',hr'⟩:=vp HS ht hop hs hj hr hx hk hY hone hb hm;refine WPo.run ho hw fun a ha=>?_;rw [hrun,Oper.upon_value];exact ⟨_,ha.put _ (zT hd) _,kk b' cap' cur' w' HS' hr'⟩
end
def putA (cur:Array Value)(off:Nat)(v:Value):Array Value:=(cur.toList.take off++v.cells.toList++cur.toList.drop (off+v.cells.size)).toArray
theorem Rw.putA {K:Nat}{cur:Array Value}{cap n:Nat}{xs:List Value}(h:Rw K cur cap n xs)(off:Nat)(v:Value)(hle:off+v.cells.size≤n*K):
 off+v.cells.size≤cur.size∧Rw K (putA cur off v) cap n (xs.take off++v.cells.toList++xs.drop (off+v.cells.size)):=by
 have hcap:n*K≤cap*K:=Nat.mul_le_mul_right _ h.le;have hsz:=h.sz;have hA:cur.toList.length=cap*K:=by rw [Array.length_toList,hsz]
 have hx:xs=cur.toList.take (n*K):=h.take.symm;have hv:v.cells.toList.length=v.cells.size:=Array.length_toList;have e1:(cur.toList.take off).length=off:=by rw [List.length_take];omega
 refine ⟨by omega,?_,h.le,h.max,?_,?_⟩
 ·rw [List.length_append,List.length_append,List.length_take,List.length_drop,h.len,hv];omega
 ·unfold Go.Proofs.YtbpmjppmpgeejaaGreatDoor.putA;rw [List.toList_toArray,List.take_append,List.length_append,e1,hv,List.take_of_length_le (l:=cur.toList.take off++v.cells.toList) (by rw [List.length_append,e1,hv];exact hle),hx,List.take_take,Nat.min_eq_left (by omega),List.drop_take]
 ·unfold Go.Proofs.YtbpmjppmpgeejaaGreatDoor.putA;rw [List.size_toArray,List.length_append,List.length_append,e1,List.length_drop,hv,hA];omega
theorem zbO {X Z V:List Value}{off:Nat}(hX:X.length=off)(hZ:Z.length=V.length):(X++Z).take off++V++(X++Z).drop (off+V.length)=X++V:=by
 rw [List.take_append,hX,Nat.sub_self,List.take_zero,List.append_nil,List.take_of_length_le (by omega),List.drop_append,hX,List.drop_of_length_le (by omega),List.nil_append,List.drop_of_length_le (by omega),List.append_nil]
abbrev kR (C:Array Value):Obj:=.cells C 62 (0,0)
structure Sk where
 g:Nat
 p:Option Addr
 n:Nat
 c:Nat
 row:List (Nat×Obj)
 M:List (El Nat)
def Sk.el (e:Sk):El Nat:=⟨e.g,e.p,e.n,e.c,ys e.M⟩
def opE:List Sk→List (El Nat)
 | []=>[]
 | e::r=>opE r++ [e.el]
def yw:List Sk→List (Nat×Obj)
 | []=>[]
 | e::r=>e.row++yw r
def stM (S:List Sk):List (Nat×Kf):=S.map fun e=>(e.g,ys e.M)
def Bot:List Sk→Prop
 | []=>False
 | e::r=>(r=[]∧e.g=40)∨Bot r
structure xe (T:List (Nat×Obj))(m:Nat)(e:Sk):Prop where
 row:RowE kS 62 e.p e.n e.c e.row e.M
 all:AllE kS T e.M
 le:e.n≤m
theorem xe.mono {T T':List (Nat×Obj)}{m m':Nat}{e:Sk}(h:xe T m e)(hT: ∀x∈T,x∈T')(hm:m≤m'):xe T' m' e:=⟨h.row,h.all.mono hT,Nat.le_trans h.le hm⟩
theorem zbP: ∀S:List Sk,(opE S).length=S.length
 | []=>rfl
 | e::r=>by simp only [opE,List.length_append,zbP r,List.length_cons,List.length_nil]
theorem kC (e:Sk)(r:List Sk):zI kS (opE (e::r))=zI kS (opE r)++ [.int .u8 ((e.g:Nat):Int),.slice e.p e.n e.c]:=by
 show zI kS (opE r++ [e.el])=_;rw [xU];rfl
theorem zaf (r:List Sk):(zI kS (opE r)).length=r.length*2:=by rw [jH,zbP];rfl
theorem Rw.pop {K:Nat}{cur:Array Value}{cap n:Nat}{X Z:List Value}(h:Rw K cur cap (n+1) (X++Z))(hX:X.length=n*K):Rw K cur cap n X:=by
 have ht:=h.take;refine ⟨hX,by have:=h.le;omega,h.max,?_,h.sz⟩;have e:(cur.toList.take ((n+1)*K)).take (n*K)=X:=by rw [ht,List.take_append,hX,Nat.sub_self,List.take_zero,List.append_nil,List.take_of_length_le (by omega)]
 rw [List.take_take,Nat.min_eq_left (by rw [Nat.succ_mul];omega)] at e;exact e
theorem Rw.top {cur:Array Value}{cap:Nat}{e:Sk}{r:List Sk}(h:Rw 2 cur cap (r.length+1) (zI kS (opE (e::r)))):
 0+r.length*2+2≤cur.size∧cur.extract (0+r.length*2) (0+r.length*2+2)=#[.int .u8 ((e.g:Nat):Int),.slice e.p e.n e.c]∧cur[0+r.length*2]? =some (.int .u8 ((e.g:Nat):Int))∧cur[0+r.length*2+1]? =some (.slice e.p e.n e.c):=by
 rw [kC] at h;have hl:=zaf r;rw [Nat.zero_add];have h0:cur[r.length*2]? =some (.int .u8 ((e.g:Nat):Int)):=by
  rw [h.get _ (by omega),List.getElem?_append_right (by omega),hl,Nat.sub_self];rfl
 have h1:cur[r.length*2+1]? =some (.slice e.p e.n e.c):=by
  rw [h.get _ (by omega),List.getElem?_append_right (by omega),hl,Nat.add_sub_cancel_left];rfl
 have h2:=exE (C:=cur) (o:=r.length*2) (x:=[.int .u8 ((e.g:Nat):Int),.slice e.p e.n e.c]) (K:=2) rfl (fun j hj=>by
  rcases j with _|_|j
  ·exact h0
  ·exact h1
  ·omega) (by decide)
 exact ⟨h2.1,h2.2,h0,h1⟩
def zK:Array Value:=#[.int .u8 0,.slice none 0 0]
def qF (B:Nat)(w0:World)(bd b2 bo:Nat)(dO bO:Obj)(kv:Value)(cur:Array Value)(N:Nat)(en:Nat)(row:List (Nat×Obj))(xs:List Value)(T:List (Nat×Obj)):(Nat→Bool)→(Nat→D2.Gh)→World→Prop:=fun L g w=>
 bif L 8 then (L 9=true→(g 9).b=(g 8).b)∧Rw 2 (g 8).cur (g 8).cap (en+1) (xs++zK.toList)∧St B w0 w ((bd,dO)::(b2,bO)::(bo,kR (bif L 13 then putA cur (0+N*2+1) (.slice (some ⟨(g 8).b,0,none⟩) (en+1) (g 8).cap) else cur))::((g 8).b,kR (bif L 10 then putA (g 8).cur (0+en*2) kv else (g 8).cur))::T)
 else bif L 7 then St B w0 w (((g 7).b,kR zK)::(bd,dO)::(b2,bO)::(bo,kR cur)::(row++T))
 else St B w0 w ((bd,dO)::(b2,bO)::(bo,kR cur)::(row++T))
section
variable {B:Nat}{w0:World}{bd b2 bo:Nat}{dO bO:Obj}{kv:Value}{cur:Array Value}{N en:Nat}{row:List (Nat×Obj)}{xs:List Value}{T:List (Nat×Obj)}{L:Nat→Bool}{g:Nat→D2.Gh}{w:World}
theorem qF.st (h8:L 8=false)(h:qF B w0 bd b2 bo dO bO kv cur N en row xs T L g w):∃l,St B w0 w l∧(bd,dO)∈l∧(bo,kR cur)∈l:=by
 unfold qF at h;rw [h8] at h;cases h7:L 7 with
 | true=>rw [h7] at h;exact ⟨_,h,by simp,by simp⟩
 | false=>rw [h7] at h;exact ⟨_,h,by simp,by simp⟩
end
noncomputable abbrev ziY:Code:=zy (zD (zy (zy (zy (qq (zy (zk Tryz.f40)))))))
noncomputable abbrev zeA:Code:=qq (zD (zy (zy (qq (qq ziY)))))
def zeB (B:Nat)(w0:World)(form:ByteArray)(b2 bd i:Nat)(target:List (Nat×Kf))(mz:Nat)(ρ:Env)(ww:World):Prop:=
 ∃(S:List Sk) (N g:Nat) (p:Option Addr) (n c:Nat) (k:Kf) (T:List (Nat×Obj)) (bo cap:Nat) (cur:Array Value),S.length=mz∧N=S.length∧Bot S∧N≤5∧(∀e∈S,xe T i e)∧RIn kS T p n k∧xa g k (stM S)=target∧Rw 2 cur cap N (zI kS (opE S))∧
  St B w0 ww ((bd,kdO g p n c)::(b2,kdO 0 none 0 0)::(bo,kR cur)::(yw S++T))∧
  Is [(0,.string form),(2,.pointer (some ⟨b2,0,none⟩)),(3,.bool false),(4,.slice (some ⟨bo,0,none⟩) N cap),(6,.pointer (some ⟨bd,0,none⟩)),(16,.int .i64 (form.size:Int)),(17,.int .i64 (i:Int))] ρ
def ziZ (B:Nat)(w0:World)(form:ByteArray)(b2 i:Nat)(target:List (Nat×Kf))(ρ:Env)(ww:World):Prop:=
 ∃(S:List Sk) (N:Nat) (T:List (Nat×Obj)) (bo cap:Nat) (cur:Array Value),N=S.length∧Bot S∧N≤5∧(∀e∈S,xe T i e)∧stM S=target∧Rw 2 cur cap N (zI kS (opE S))∧
  St B w0 ww ((b2,kdO 0 none 0 0)::(bo,kR cur)::(yw S++T))∧
  Is [(0,.string form),(2,.pointer (some ⟨b2,0,none⟩)),(3,.bool false),(4,.slice (some ⟨bo,0,none⟩) N cap),(16,.int .i64 (form.size:Int)),(17,.int .i64 (i:Int))] ρ
theorem zeC {Q:Exit→Env→World→Prop}{B:Nat}{w0:World}(form:ByteArray)(b2 bd i:Nat)(target:List (Nat×Kf))(hi:i≤40)(m0:Nat)(ρ0:Env)(ww0:World)(h0:zeB B w0 form b2 bd i target m0 ρ0 ww0)
 (hQ: ∀(S:List Sk) (N:Nat) (T:List (Nat×Obj)) (bo cap:Nat) (cur:Array Value) (ρ:Env) (ww:World),N=S.length→Bot S→N≤5→(∀e∈S,xe T (i+1) e)→stM S=target→Rw 2 cur cap N (zI kS (opE S))→
  St B w0 ww ((b2,kdO 0 none 0 0)::(bo,kR cur)::(yw S++T))→Is [(0,.string form),(2,.pointer (some ⟨b2,0,none⟩)),(3,.bool false),(4,.slice (some ⟨bo,0,none⟩) N cap),(16,.int .i64 (form.size:Int)),(17,.int .i64 (i:Int))] ρ→Q (.exit 1) ρ ww):
 WP Tryz.prog 101 (zy (zy (zy zeA))) Q ρ0 ww0:=by
 refine zn 3 kr<|zV kr (zeB B w0 form b2 bd i target) m0 h0 ?_;clear h0;rintro _ _ w1 ⟨S,N,g,p,n,c,k,T,bo,cap,cur,rfl,rfl,hBot,hN5,hS,hRI,hpush,hRw,H1,_,rfl⟩;rcases S with _ | ⟨e,r⟩
 ·exact hBot.elim
 have he:=hS e (List.mem_cons_self ..);refine zn 4 kr ?_;have hN5':r.length+1≤5:=hN5;refine rS [.v,.v,.E (.int .i64 (IntKind.i64.wrap (((r.length+1:Nat):Int)-1))) (.int .i64 (r.length:Int)) (zd (by rw [show (((r.length+1:Nat):Int)-1)=(r.length:Int) by omega];exact qC (by omega))),.v] H1 kr fun gs2 w2 H2=>?_;clear H1;refine zb kr ?_;have H3:St B w0 w2 ((bd,kdO g p n c)::(b2,kdO 0 none 0 0)::(bo,kR cur)::(e.row++(yw r++T))):=by
  rw [←List.append_assoc];exact H2
 have htop:=hRw.top;refine D2.g_draw0 [0,1,2,3,4,5,6,7,8,9,10,11,12,13] [(some 69,fun _=>.slice (some ⟨bo,0,none⟩) (r.length+1) cap),(some 70,fun _=>.int .i64 (r.length:Int)),(some 71,fun _=>.pointer (some ⟨bo,0+r.length*2,none⟩)),(some 72,fun _=>.pointer (some ⟨bo,0+r.length*2+1,none⟩)),(some 73,fun _=>.slice e.p e.n e.c),(some 74,fun _=>knd g p n c),(some 75,fun _=>.int .i64 ((e.n:Nat):Int)),(some 76,fun y=>.slice (some ⟨y.b,0,none⟩) 1 1),(some 77,fun y=>.slice (some ⟨y.b,0,none⟩) (e.n+1) y.cap),(some 78,fun y=>.pointer (some ⟨y.b,0+e.n*2,none⟩)),(none,fun _=>undef),(some 79,fun _=>.pointer (some ⟨bo,0+r.length*2,none⟩)),(some 80,fun _=>.pointer (some ⟨bo,0+r.length*2+1,none⟩)),(none,fun _=>undef)]
  (qF B w0 bd b2 bo (kdO g p n c) (kdO 0 none 0 0) (knd g p n c) cur r.length e.n e.row (zI kS e.M) (yw r++T)) kr kr kr H3.drew ⟨?_,?_,?_,?_,?_,?_,?_,?_,?_,?_,?_,?_,?_,?_,trivial⟩ ?_
 ·exact D2.gv_val (fun _ _ _ h=>h) (fun g w=>by kernel_rfl)
 ·exact D2.gv_val (fun _ _ _ h=>h) (fun g w=>by kernel_rfl)
 ·exact D2.gv_op (fun _ _ _ h=>h) _ (fun g=>by kernel_rfl) (fun g o w ho=>yD (kd:=.i64) (t:=60) (e:=62) (K:=2) (bytes:=32) kr (x:=(.tmp 69)) (y:=(.tmp 70)) bo 0 (r.length+1) cap r.length rfl ho kr kr (by omega) w)
 ·exact D2.gv_val (fun _ _ _ h=>h) (fun g w=>by kernel_rfl)
 ·refine D2.gv_opW (fun _ _ _ h=>h) (.load 60 (.tmp 72)) (fun g=>by kernel_rfl) (fun L g o w hN hp ho=>?_);obtain ⟨l,h,_,hm⟩:=hp.st (hN.post 8 kr);exact zdg (h.own _ hm).2 kr kr htop.2.2.2 o ho
 ·refine D2.gv_ld (fun _ _ _ h=>h) 62 (.tmp 6) (fun _=>bd) 0 #[.int .u8 ((g:Nat):Int),.slice p n c] 62 (0,0) (fun g=>by kernel_rfl) (fun g=>by kernel_rfl) (fun L g w hN hp=>?_) kr kr;obtain ⟨l,h,hm,_⟩:=hp.st (hN.post 8 kr);exact (h.own _ hm).2
 ·exact D2.gv_val (fun _ _ _ h=>h) (fun g w=>by kernel_rfl)
 ·refine D2.gives_of fun L1 gg ww hp hN=>?_;have h8:=hN.post 8 kr;unfold qF at hp;rw [h8,hN.1] at hp;obtain ⟨o,ho,hd,hw,hrun⟩:=zU (show opv _ _ 7 _ ww=some (some 76,true,.ok (.value (.slice (some ⟨ww.heap.size,0,none⟩) 1 1)) (ww.alloc (.cells zK 62))) by kernel_rfl);refine ⟨o,ho,hd,.inr ⟨hw,?_⟩⟩;refine (congrArg (D2.Runs _ _) hrun).mpr ?_;refine ⟨{ b:=ww.heap.size },rfl,?_⟩;unfold qF;rw [show D2.put1 L1 7 8=false from h8,show D2.put1 L1 7 7=true from rfl];exact St.alloc hp _
 ·refine D2.gives_of fun L1 gg ww hp hN=>?_;have h7:=hN.bef 7 kr;have h9:=hN.post 9 kr;have h10:=hN.post 10 kr;have h13:=hN.post 13 kr;unfold qF at hp;rw [hN.1,h7] at hp;obtain ⟨o,ho,hd,hw,hop⟩:=zE (show opk _ 8 _=some (some 77,true,yq 60 (.tmp 73) (.tmp 76)) by kernel_rfl);refine ⟨o,ho,hd,.inr ⟨hw,?_⟩⟩;have hen:=he.le;obtain ⟨eg,ep,en,ec,erow,eM⟩:=e;rcases he.row with ⟨rfl,rfl,rfl,rfl,rfl⟩ | ⟨br,curr,rfl,rfl,hrw⟩
  ·obtain ⟨b',cap',cur',w',hrun,HS',hr'⟩:=ur (K:=2) hp (t:=60) (e:=62) (bytes:=32) (k:=0) (bx:=(gg 7).b) (c:=1) (Y:=zK) kr hop kr kr rfl rfl (jA rfl) (by omega);rw [hrun];refine ⟨{ b:=b',cap:=cap',cur:=cur' },rfl,?_⟩;unfold qF;rw [show D2.put1 L1 8 8=true from rfl,show D2.put1 L1 8 10=false from h10,show D2.put1 L1 8 13=false from h13];refine ⟨fun hh=>absurd (h9.symm.trans hh) (by decide),hr',?_⟩;exact (HS'.sub (List.Sublist.cons_cons _ (List.sublist_cons_self ..))).perm (List.perm_middle (l₁:=[(bd,kdO g p n c),(b2,kdO 0 none 0 0),(bo,kR cur)]))
  ·obtain ⟨b',cap',cur',w',hrun,HS',hr'⟩:=vp (K:=2) hp (t:=60) (e:=62) (bytes:=32) (j:=4) (k:=0) (bx:=(gg 7).b) (c:=1) (Y:=zK) kr hop kr rfl hrw kr rfl rfl (jA rfl) (by omega) (by unfold maxLen;omega);rw [hrun];refine ⟨{ b:=b',cap:=cap',cur:=cur' },rfl,?_⟩;unfold qF;rw [show D2.put1 L1 8 8=true from rfl,show D2.put1 L1 8 10=false from h10,show D2.put1 L1 8 13=false from h13];exact ⟨fun hh=>absurd (h9.symm.trans hh) (by decide),hr',HS'.sub (List.sublist_cons_self ..)⟩
 ·refine D2.gives_of fun L1 gg ww hp hN=>?_;have h8:=hN.bef 8 kr;obtain ⟨o,ho,hd,hw,hop⟩:=zE (show opk _ 9 _=some (some 78,true,.indexAddr 60 (.tmp 77) (.tmp 75)) by kernel_rfl);refine ⟨o,ho,hd,.inr ⟨hw,?_⟩⟩;rw [yD (kd:=.i64) (t:=60) (e:=62) (K:=2) (bytes:=32) kr (x:=(.tmp 77)) (y:=(.tmp 75)) (gg 8).b 0 (e.n+1) (gg 8).cap e.n rfl hop kr kr (by omega) ww];refine ⟨{ b:=(gg 8).b },rfl,?_⟩;unfold qF at hp ⊢;rw [h8] at hp;rw [show D2.put1 L1 9 8=true from h8];exact ⟨fun _=>rfl,hp.2.1,hp.2.2⟩
 ·refine D2.gives_of fun L1 gg ww hp hN=>?_;have h8:=hN.bef 8 kr;have h9:=hN.bef 9 kr;unfold qF at hp;rw [h8,hN.1] at hp;obtain ⟨hg9,hr',HS⟩:=hp;have hg:=hg9 h9;have hle:=hr'.putA (0+e.n*2) (knd g p n c) (by show 0+e.n*2+2≤(e.n+1)*2;omega);obtain ⟨o,ho,hd,hw,hop⟩:=zE (show opk _ 10 _=some (none,true,.store 62 (.tmp 78) (.tmp 74)) by kernel_rfl);refine ⟨o,ho,hd,.inr ⟨hw,?_⟩⟩;rw [xV (t:=62) (off:=0+e.n*2) (b:=(gg 8).b) (C:=(gg 8).cur) (T:=62) (v:=knd g p n c) (C':=putA (gg 8).cur (0+e.n*2) (knd g p n c)) (HS.get 3 kr) kr kr hle.1 rfl (by rw [←hg];kernel_rfl) kr o hop];refine ⟨default,rfl,?_⟩;unfold qF;rw [show D2.put1 L1 10 8=true from h8,show D2.put1 L1 10 10=true from rfl];exact ⟨fun h=>hg9 h,hr',HS.store 3 (C:=(gg 8).cur) kr⟩
 ·exact D2.gv_op (fun _ _ _ h=>h) _ (fun g=>by kernel_rfl) (fun g o w ho=>yD (kd:=.i64) (t:=60) (e:=62) (K:=2) (bytes:=32) kr (x:=(.tmp 69)) (y:=(.tmp 70)) bo 0 (r.length+1) cap r.length rfl ho kr kr (by omega) w)
 ·exact D2.gv_val (fun _ _ _ h=>h) (fun g w=>by kernel_rfl)
 ·refine D2.gives_of fun L1 gg ww hp hN=>?_;have h8:=hN.bef 8 kr;unfold qF at hp;rw [h8,hN.1] at hp;obtain ⟨hg9,hr',HS⟩:=hp;have hle:=hRw.putA (0+r.length*2+1) (.slice (some ⟨(gg 8).b,0,none⟩) (e.n+1) (gg 8).cap) (by show 0+r.length*2+1+1≤(r.length+1)*2;omega);obtain ⟨o,ho,hd,hw,hop⟩:=zE (show opk _ 13 _=some (none,true,.store 60 (.tmp 80) (.tmp 77)) by kernel_rfl);refine ⟨o,ho,hd,.inr ⟨hw,?_⟩⟩;rw [xV (t:=60) (off:=0+r.length*2+1) (b:=bo) (C:=cur) (T:=62) (v:=.slice (some ⟨(gg 8).b,0,none⟩) (e.n+1) (gg 8).cap) (C':=putA cur (0+r.length*2+1) (.slice (some ⟨(gg 8).b,0,none⟩) (e.n+1) (gg 8).cap)) (HS.get 2 kr) kr kr hle.1 rfl kr kr o hop];refine ⟨default,rfl,?_⟩;unfold qF;rw [show D2.put1 L1 13 8=true from h8,show D2.put1 L1 13 13=true from rfl];exact ⟨fun h=>hg9 h,hr',HS.store 2 (C:=cur) kr⟩
 ·intro L1 gg w14 hall hp;unfold qF at hp;rw [hall 8 (Nat.le_of_ble_eq_true kr),hall 10 (Nat.le_of_ble_eq_true kr),hall 13 (Nat.le_of_ble_eq_true kr)] at hp;obtain ⟨_,hr',H4⟩:=hp;generalize hb':(gg 8).b=b';generalize hcap':(gg 8).cap=cap';generalize hcur':(gg 8).cur=cur';rw [hb',hcur',hcap'] at H4;rw [hcur',hcap'] at hr';have hn:=he.row.len (by decide);have hMl:(zI kS e.M).length=0+e.n*2:=by rw [jH,hn,Nat.zero_add];rfl
  have hnew:Rw 2 (putA cur' (0+e.n*2) (knd g p n c)) cap' (e.n+1) (zI kS (e.M++ [⟨g,p,n,c,k⟩])):=by
   have h1:=(hr'.putA (0+e.n*2) (knd g p n c) (by show 0+e.n*2+2≤(e.n+1)*2;omega)).2;have h2:=zbO (X:=zI kS e.M) (Z:=zK.toList) (V:=(knd g p n c).cells.toList) hMl rfl;rw [xU];exact h2▸h1
  obtain ⟨eg,ep,en,ec,erow,eM⟩:=e;have hop:Rw 2 (putA cur (0+r.length*2+1) (.slice (some ⟨b',0,none⟩) (en+1) cap')) cap (r.length+1) (zI kS (opE (⟨eg,some ⟨b',0,none⟩,en+1,cap',[(b',kR (putA cur' (0+en*2) (knd g p n c)))],eM++ [⟨g,p,n,c,k⟩]⟩::r))):=by
   have h1:=(hRw.putA (0+r.length*2+1) (.slice (some ⟨b',0,none⟩) (en+1) cap') (by show 0+r.length*2+1+1≤(r.length+1)*2;omega)).2;have hl:=zaf r;have h2:=zbO (X:=zI kS (opE r)++ [.int .u8 (eg:Int)]) (Z:=[.slice ep en ec]) (V:=(Value.slice (some ⟨b',0,none⟩) (en+1) cap').cells.toList) (off:=0+r.length*2+1) (by rw [List.length_append,hl];simp) rfl;rw [kC];rw [kC,show zI kS (opE r)++ [.int .u8 (eg:Int),.slice ep en ec]=(zI kS (opE r)++ [.int .u8 (eg:Int)])++ [.slice ep en ec] by simp] at h1;have h3:(zI kS (opE r)++ [.int .u8 (eg:Int)])++(Value.slice (some ⟨b',0,none⟩) (en+1) cap').cells.toList=zI kS (opE r)++ [.int .u8 (eg:Int),.slice (some ⟨b',0,none⟩) (en+1) cap']:=by
    rw [List.append_assoc];rfl
   exact h3▸(h2▸h1)
  have hok:xe T (i+1) ⟨eg,some ⟨b',0,none⟩,en+1,cap',[(b',kR (putA cur' (0+en*2) (knd g p n c)))],eM++ [⟨g,p,n,c,k⟩]⟩:=
   ⟨.inr ⟨_,_,rfl,rfl,hnew⟩,he.all.snoc hRI trivial,Nat.succ_le_succ he.le⟩
  have htop':=hop.top;have hpush':xa g k ((eg,ys eM)::stM r)=target:=hpush;unfold xa at hpush';rw [←zed ⟨g,p,n,c,k⟩] at hpush';have hrc:=hop.le;have hBr:eg=42→Bot r:=fun h42=>by
   rcases hBot with ⟨_,h⟩|h
   ·exact absurd (h.symm.trans h42) (by decide)
   ·exact h
  have hin: ∀x∈T,x∈(b',kR (putA cur' (0+en*2) (knd g p n c)))::T:=fun x hx=>List.mem_cons_of_mem _ hx;refine wW<|zb kr ?_;by_cases h42:eg=42
  ·rw [if_pos h42] at hpush';refine rS [.v,.v,.o (ins:=[((.tmp 81),.slice (some ⟨bo,0,none⟩) (r.length+1) cap),((.tmp 82),.int .i64 (r.length:Int))]) (v:=.pointer (some ⟨bo,0+r.length*2,none⟩)) (fun ρ o w ho hi2=>yD (kd:=.i64) (t:=60) (e:=62) (K:=2) (bytes:=32) kr (x:=(.tmp 81)) (y:=(.tmp 82)) bo 0 (r.length+1) cap r.length rfl ho hi2.1 hi2.2.1 (by omega) w),.v,.ls 2 (C:=putA cur (0+r.length*2+1) (.slice (some ⟨b',0,none⟩) (en+1) cap')) (off:=0+r.length*2) (v:=.int .u8 (eg:Int)) htop'.2.2.1,.E (.bool (!((eg:Int)==42))) (.bool false) (za (by rw [h42];rfl))] H4 kr fun gs5 w15 H5=>zi kr kr<|zj kr<|wW<|dL [.v,.v,.o (ins:=[((.tmp 87),.slice (some ⟨bo,0,none⟩) (r.length+1) cap),((.tmp 88),.int .i64 (r.length:Int))]) (v:=.pointer (some ⟨bo,0+r.length*2,none⟩)) (fun ρ o w ho hi2=>yD (kd:=.i64) (t:=60) (e:=62) (K:=2) (bytes:=32) kr (x:=(.tmp 87)) (y:=(.tmp 88)) bo 0 (r.length+1) cap r.length rfl ho hi2.1 hi2.2.1 (by omega) w),.lp 2 (C:=putA cur (0+r.length*2+1) (.slice (some ⟨b',0,none⟩) (en+1) cap')) (off:=0+r.length*2) (n:=2) (W:=#[.int .u8 (eg:Int),.slice (some ⟨b',0,none⟩) (en+1) cap']) htop'.1 htop'.2.1,.v,.v,.o (ins:=[((.tmp 91),.slice (some ⟨bo,0,none⟩) (r.length+1) cap),((.tmp 92),.int .i64 (r.length:Int))]) (v:=.slice (some ⟨bo,0,none⟩) r.length cap) (fun ρ o w ho hi2=>zda (kd:=.i64) (t:=60) (e:=62) (size:=2) (bytes:=32) kr (x:=(.tmp 91)) (y:=(.tmp 92)) bo (r.length+1) cap r.length ho hi2.1 hi2.2.1 (by omega) w),.s 0,.v] H5 kr fun w16 H6=>?_;have H7:St B w0 w16 ((bd,kdO eg (some ⟨b',0,none⟩) (en+1) cap')::(b2,kdO 0 none 0 0)::(bo,kR (putA cur (0+r.length*2+1) (.slice (some ⟨b',0,none⟩) (en+1) cap')))::([(b',kR (putA cur' (0+en*2) (knd g p n c)))]++(yw r++T))):=H6.as kr;show ∃m,_∧_;refine ⟨r.length,Nat.lt_succ_self _,r,r.length,eg,_,_,_,ys (eM++ [⟨g,p,n,c,k⟩]),(b',kR (putA cur' (0+en*2) (knd g p n c)))::T,bo,cap,_,rfl,rfl,hBr h42,by omega,fun x hx=>(hS x (List.mem_cons_of_mem _ hx)).mono hin (Nat.le_refl _),?_,hpush',Rw.pop (kC _ _▸hop) (zaf r),H7.perm (List.Perm.cons _ (List.Perm.cons _ (List.Perm.cons _ (List.perm_append_comm_assoc (yw r) [(b',kR (putA cur' (0+en*2) (knd g p n c)))] T)))),(Is.of ⟨kr,kr,kr,kr,kr,kr,kr,trivial⟩)⟩;have:=hok.row.rIn (T:=T) (by decide) hok.all (by have:=hok.le;show en+1≤1000;simp only at this;omega);exact this
  ·rw [if_neg h42] at hpush';refine rS [.v,.v,.o (ins:=[((.tmp 81),.slice (some ⟨bo,0,none⟩) (r.length+1) cap),((.tmp 82),.int .i64 (r.length:Int))]) (v:=.pointer (some ⟨bo,0+r.length*2,none⟩)) (fun ρ o w ho hi2=>yD (kd:=.i64) (t:=60) (e:=62) (K:=2) (bytes:=32) kr (x:=(.tmp 81)) (y:=(.tmp 82)) bo 0 (r.length+1) cap r.length rfl ho hi2.1 hi2.2.1 (by omega) w),.v,.ls 2 (C:=putA cur (0+r.length*2+1) (.slice (some ⟨b',0,none⟩) (en+1) cap')) (off:=0+r.length*2) (v:=.int .u8 (eg:Int)) htop'.2.2.1,.E (.bool (!((eg:Int)==42))) (.bool true) (za (by rw [beq_eq_false_iff_ne.2 (by omega)];rfl))] H4 kr fun gs5 w15 H5=>zf kr kr<|zN 1 kr ?_;show Q (.exit 1) _ _;refine hQ (⟨eg,some ⟨b',0,none⟩,en+1,cap',[(b',kR (putA cur' (0+en*2) (knd g p n c)))],eM++ [(⟨g,p,n,c,k⟩:El Nat)]⟩::r) (r.length+1) T bo cap _ _ _ rfl ?_ hN5' ?_ hpush' hop ?_ (Is.of ⟨kr,kr,kr,kr,kr,kr,trivial⟩)
   ·rcases hBot with ⟨h1,h2⟩|h
    ·exact .inl ⟨h1,h2⟩
    ·exact .inr h
   ·intro x hx;rcases List.mem_cons.1 hx with rfl | hx
    ·exact hok
    ·exact (hS x (List.mem_cons_of_mem _ hx)).mono (fun _ h=>h) (Nat.le_succ _)
   ·have H7:St B w0 w15 ((bd,kdO g p n c)::(b2,kdO 0 none 0 0)::(bo,kR (putA cur (0+r.length*2+1) (.slice (some ⟨b',0,none⟩) (en+1) cap')))::([(b',kR (putA cur' (0+en*2) (knd g p n c)))]++(yw r++T))):=H5.as kr;exact H7.sub (List.sublist_cons_self ..)
end Go.Proofs.YtbpmjppmpgeejaaGreatDoor
