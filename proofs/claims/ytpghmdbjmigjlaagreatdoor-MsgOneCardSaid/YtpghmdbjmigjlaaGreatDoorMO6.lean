/-
  Texts of the proof,part 6.
-/
import Derived.Test.YtpghmdbjmigjlaaGreatDoorProg
import Derived.RangeFuncLeaves
import Derived.RangeFuncIn
import Derived.RangeFuncSeq
import Derived.OrdersIn
import Derived.RangeFuncFrom
import Derived.Shelf.Strings.Repeat
import Derived.Test.YtpghmdbjmigjlaaGreatDoorRows
import Derived.Lib.LaidTab
import Derived.MakeChecks
import Derived.LaidLaws
import Derived.LaidHandle
import Derived.ProofKit
import Derived.WalkKit
import Derived.Test.YtpghmdbjmigjlaaGreatDoorMO1
import Derived.Test.YtpghmdbjmigjlaaGreatDoorMO2
import Derived.Test.YtpghmdbjmigjlaaGreatDoorMO3
import Derived.Test.YtpghmdbjmigjlaaGreatDoorMO4
import Derived.Test.YtpghmdbjmigjlaaGreatDoorMO5
set_option maxRecDepth 100000
set_option maxHeartbeats 4000000
namespace Go.Proofs.YtpghmdbjmigjlaaGreatDoor
open Go Go.RowKit
open D2 (Gh)
set_option linter.unusedVariables false
def ue (w:World)(b:Nat)(L:List X3):Prop:=∃C T fz,w.heap[b]? =some (.cells C T fz)∧jk iS C 0 L
theorem ue.call {w w':World}{b:Nat}{L:List X3}(h:ue w b L)(hb:Below w.heap.size w w'):ue w' b L:=by
 obtain ⟨C,T,fz,hh,hR⟩:=h;exact ⟨C,T,fz,by rw [hb.block b (zr hh)];exact hh,hR⟩
def ziD (L:List X3)(v:Value)(T:List (Nat×Obj)):Prop:=∃(b c:Nat) (cur:Array Value),v=.slice (some ⟨b,0,none⟩) L.length c∧T=[(b,.cells cur 44 (0,0))]∧Rw 3 cur c L.length (zo iS L)
def ziE (L:List X3)(v:Value)(T:List (Nat×Obj)):Prop:=∃(b c:Nat) (cur:Array Value),v=.agg #[.bool true,.string emB,.slice (some ⟨b,0,none⟩) L.length c]∧T=[(b,.cells cur 44 (0,0))]∧Rw 3 cur c L.length (zo iS L)
theorem zpl (b c:Nat)(L:List X3)(hL:L.length≤1000):FnT Tryz.prog 41 #[.slice (some ⟨b,0,none⟩) L.length c] (fun w=>ue w b L) (ziD L):=by
 refine FnT.intro (c:=zd Tryz.f41) [.tmp 2] 8 Tryz.func41 kr kr kr fun w hP=>rS [.v] (St.start w) kr fun gs1 w1 H1=>zb kr<|rS [.v,.v] H1 kr fun gs2 w2 H2=>zl kr kr<|zp kr<|wW<|zh [0,1,2,3] kr kr<|rp [.nw (fun b=>.slice (some ⟨b,0,none⟩) 0 0) #[] 44,.v] H2 kr fun gs3 w3 H3=>wX [2,3] ?_;have H4:St w.heap.size w w3 [((gs3 0).b,.cells #[] 44 (0,0))]:=H3.as kr;obtain ⟨C,T,fz,hh,hR⟩:=hP.call H4.below;refine zfM (S:=iS) H4 (some 7) 42 44 48 (.tmp 5) (.tmp 6) 0 (gs3 0).b 0 0 L.length c ⟨b,0,none⟩ #[] [] L kr kr kr kr kr (Rw.lit #[] 0 rfl (by unfold maxLen;omega)) kr rfl (.inr ⟨b,0,C,T,fz,rfl,hh,hR⟩) (by omega) (by unfold maxLen;omega) ?_;intro b' cap' cur' w4 H5 hr;rw [Nat.zero_add,List.nil_append] at hr;rw [Nat.zero_add];refine rp [.v] H5 kr fun gs4 w5 H6=>wX []<|zc ?_;have H7:St w.heap.size w w5 [(b',.cells cur' 44 (0,0))]:=H6.as kr;refine rRr [.tmp 2] [] (.slice (some ⟨b',0,none⟩) L.length cap') (zU w.heap.size w (ziD L)) H6 kr ?_;exact ⟨_,⟨b',cap',cur',rfl,rfl,hr⟩,H7⟩
theorem zpm (b c:Nat)(L:List X3)(hL:L.length≤1000):FnT Tryz.prog 24 #[.slice (some ⟨b,0,none⟩) L.length c] (fun w=>ue w b L) (ziE L):=by
 refine FnT.intro (c:=zd Tryz.f24) [.cell 2 44] 6 Tryz.func24 kr kr kr fun w hP=>rS [.a] (St.start w) kr fun gs1 w1 H1=>zh [0,1,2,3] kr kr<|rp [.v] H1 kr fun gs2 w2 H2=>wX [1,2,3] ?_;have H3:St w.heap.size w w2 [((gs1 0).b,itO (b3 emB))]:=H2.as kr;refine qo H3 (some 4) 41 #[.slice (some ⟨b,0,none⟩) L.length c] (zpl b c L hL) (hP.call H3.below) kr kr ?_;rintro _ _ w3 ⟨b',c',cur,rfl,rfl,hr⟩ H4;refine rp [.v,.s 1] H4 kr fun gs3 w4 H5=>wX []<|zc ?_;have H6:St w.heap.size w w4 [(b',.cells cur 44 (0,0)),((gs1 0).b,.cells #[.bool true,.string emB,.slice (some ⟨b',0,none⟩) L.length c'] 44 (0,0))]:=H5.as kr;refine rRr [.cell 2 44] [1] (.agg #[.bool true,.string emB,.slice (some ⟨b',0,none⟩) L.length c']) (zU w.heap.size w (ziE L)) H5 kr ?_;exact ⟨_,⟨b',c',cur,rfl,rfl,hr⟩,H6.sub (List.Sublist.cons_cons _ (List.nil_sublist _))⟩
theorem zpn {w w0:World}{B b:Nat}{l:List (Nat×Obj)}{L:List X3}(h:St B w0 w l)(hm:(b,zdV L)∈l)(hL:L.length≤1000):ue w b L:=by
 refine ⟨_,_,_,(h.own _ hm).2,?_⟩;have hr:Rw 3 (zo iS L).toArray L.length L.length (zo iS L):=⟨xw L,Nat.le_refl _,by unfold maxLen;omega,by rw [List.toList_toArray,List.take_of_length_le (by rw [xw];exact Nat.le_refl _)],by rw [List.size_toArray,xw];rfl⟩
 exact hr.rowAt (S:=iS)
end Go.Proofs.YtpghmdbjmigjlaaGreatDoor
namespace Go.Proofs.YtpghmdbjmigjlaaGreatDoor
open Go Go.RowKit
open D2 (Gh)
set_option linter.unusedVariables false
def rf (l:Nat):Fence:=Fence.wide.inRound l
def jc (ops:Array Oper):Bool:=ops.all fun o=>match o.op with | .defer _=>false | _=>true
theorem zey {ops:Array Oper}(h:jc ops=true){i:Nat}{o:Oper}(ho:ops[i]? =some o): ∀c,o.op≠.defer c:=by
 intro c hc;have h1:=Array.all_eq_true.1 h i (Array.getElem?_eq_some_iff.1 ho).1;rw [(Array.getElem?_eq_some_iff.1 ho).2,hc] at h1;cases h1
section
variable {P:Program}{N:Nat}{c:Code}{Q:Exit→Env→World→Prop}{ρ:Env}{w:World}{l:Nat}{ops:Array Oper}
theorem ziF {QA:Exit→Act→World→Prop}{K:Act→World→Prop}{a:Act}{i:Nat}(hq: ¬LetsOut QA)(hd:jc ops=true)(h:wpOp P ops QA i K a w):wpOpIn (rf l) 0 P ops QA i K a w:=by
 unfold wpOp at h;unfold wpOpIn;cases ho:ops[i]? with
 | none=>simp only [ho] at h ⊢;exact h
 | some o=>
  simp only [ho] at h ⊢;split
  ·rename_i hw
   rw [if_pos hw] at h;have h:=h.resolve_right fun x=>hq x.2;refine ⟨fun _ _=>trivial,?_⟩;rw [Oper.semAt_eq _ _ _ (zey hd ho)];unfold Oper.wp at h;generalize (execOp a.eval o).run P w=r at h;cases r with
   | ok n w'=>
    cases n with
    | value v=>exact h
    | skip=>exact h
    | defer d=>exact h
    | enter f args=>
     exact ⟨fun h=>(by cases h),callsIn_wide.2 h⟩
    | row row args=>
     refine ⟨fun h=>(by cases h),fun c cs _=>?_⟩;obtain ⟨v,w2,h1,h2⟩:=h c cs;exact ⟨v,w2,h1,stepsIn_wide.2 h2⟩
    | _=>exact (h:False).elim
   | halt hh w'=>
    cases hh with
    | panic v=>exact h
    | _=>exact (h:False).elim
  ·rename_i hw
   rw [if_neg hw] at h;exact ⟨fun _ _=>trivial,h⟩
theorem ziG {QA:Exit→Act→World→Prop}(hq: ¬LetsOut QA)(hd:jc ops=true): ∀(L:List Nat) (a:Act) (w:World),wpOps P ops QA L a w→wpOpsIn (rf l) 0 P ops QA L a w
 | [],a,w,h=>h
 | i::r,a,w,h=>by
  rw [wpOps_cons] at h;rw [wpOpsIn_cons];exact ziF hq hd (wpOp_mono (fun a w=>ziG hq hd r a w) h)
theorem ziH {QA:Exit→Act→World→Prop}(hq: ¬LetsOut QA)(hd:jc ops=true): ∀(n:Nat) (L:Array Bool) (a:Act) (w:World),wpAny P .any ops QA n L a w→wpAnyIn (rf l) 0 P .any ops QA n L a w
 | 0,_,_,_,h=>h
 | n+1,L,a,w,h=>⟨h.1,fun i hi=>ziF hq hd (wpOp_mono (fun a w=>ziH hq hd n _ a w) (h.2 i hi))⟩
def WR (l:Nat)(P:Program)(N:Nat)(c:Code)(Q:Exit→Env→World→Prop)(ρ:Env)(w:World):Prop:=
 ∀a,Rep a ρ N→c.wpIn (rf l) 0 P (lift N Q) a w
abbrev zaF (Q:Exit→Env→World→Prop):Prop:= ∀ρ w,¬Q .outgrown ρ w
theorem zaF.lift (h:zaF Q): ¬LetsOut (lift N Q):=fun ⟨_,_,_,_,q⟩=>h _ _ q
theorem zez (hc:yx c=true)(h:WR l P N (zq c) (nx (WR l P N (zw c) Q) Q) ρ w):WR l P N c Q ρ w:=fun a ha=>by
 rw [uu hc]
 exact wpIn_seq (wpIn_mono (h a ha) fun e a' w' ⟨r,hr,q⟩=>by
  cases e<;>first | exact q a' hr | exact ⟨r,hr,q⟩)
theorem zpo {id:Nat}(hc:vt c=some id)(h:WR l P N (qf c) (inb id Q) ρ w):WR l P N c Q ρ w:=fun a ha=>by
 rw [zcM hc]
 exact wpIn_block (wpIn_mono (h a ha) fun e a' w' ⟨r,hr,q⟩=>by
  cases e with
  | exit i=>
   simp only [inb] at q;simp only [Exit.inBlock];split
   ·rename_i hi;subst hi
    rw [Nat.beq_refl] at q;exact ⟨r,hr,q⟩
   ·rename_i hi
    have:Nat.beq i id=false:=by
     cases hb:Nat.beq i id with
     | false=>rfl
     | true=>exact absurd (Nat.eq_of_beq_eq_true hb) hi
    rw [this] at q;exact ⟨r,hr,q⟩
  | _=>exact ⟨r,hr,q⟩)
theorem zpp (hc:jT c=true)(hx:ev ρ (qU c)=.bool true)(h:WR l P N (xq c) Q ρ w):WR l P N c Q ρ w:=fun a ha=>by
 rw [vw hc];exact wpIn_cond_true (by rw [ha.eval];exact hx) (h a ha)
theorem zpq (hc:jT c=true)(hx:ev ρ (qU c)=.bool false)(h:WR l P N (xr c) Q ρ w):WR l P N c Q ρ w:=fun a ha=>by
 rw [vw hc];exact wpIn_cond_false (by rw [ha.eval];exact hx) (h a ha)
theorem zpr (hc:vu c=true)(h:Q .normal ρ w):WR l P N c Q ρ w:=fun a ha=>by rw [zcO hc];exact wpIn_skip ⟨ρ,ha,h⟩
theorem zps (id:Nat)(hc:zaN c=some id)(h:Q (.exit id) ρ w):WR l P N c Q ρ w:=fun a ha=>by rw [ze3 hc];exact wpIn_exit ⟨ρ,ha,h⟩
variable {B:Nat}{w0:World}{bl:List (Nat×Obj)}
theorem r_L (its:List (It P B w0))(H:St B w0 w bl)(hq:zaF Q)
 (h:(fun g=>(⟨srK c its.length&&jc (zg c),true⟩::qB N (zg c) its (List.range its.length) ρ bl g).map Eqn.lf)=fun g=>(⟨srK c its.length&&jc (zg c),true⟩::qB N (zg c) its (List.range its.length) ρ bl g).map Eqn.rt)
 (k: ∀g w',St B w0 w' (qr (zg c) its (List.range its.length) ρ bl g).2→Q .normal (qr (zg c) its (List.range its.length) ρ bl g).1 w'):WR l P N c Q ρ w:=fun a ha=>by
 have h0:(srK c its.length&&jc (zg c))=true:=Eqs.head (congrFun h fun _=>default);rw [Bool.and_eq_true] at h0;obtain ⟨id,he,hl⟩:=zaU h0.1;rw [he];refine wpIn_region (ziG hq.lift h0.2 _ a w ?_);rw [hl];have hd:(List.range its.length).drop its.length=[]:=by simp
 exact WPs.sound _ ρ w (vE its _ ρ bl w H (fun g=>Eqs.tail (congrFun h g)) fun g w' H'=>by rw [hd];exact k g w' H') a ha
theorem r_S (its:List (It P B w0))(H:St B w0 w bl)(hq:zaF Q)(hs:yx c=true)
 (h:(fun g=>(⟨srK (zq c) its.length&&jc (zg (zq c)),true⟩::qB N (zg (zq c)) its (List.range its.length) ρ bl g).map Eqn.lf)=fun g=>(⟨srK (zq c) its.length&&jc (zg (zq c)),true⟩::qB N (zg (zq c)) its (List.range its.length) ρ bl g).map Eqn.rt)
 (k: ∀g w',St B w0 w' (qr (zg (zq c)) its (List.range its.length) ρ bl g).2→WR l P N (zw c) Q (qr (zg (zq c)) its (List.range its.length) ρ bl g).1 w'):WR l P N c Q ρ w:=
 zez hs (r_L its H (fun _ _ h=>hq _ _ h) h k)
theorem zpt (its:(Nat→Gh)→List (It P B w0))(H:St B w0 w bl)(hq:zaF Q)(hs:yx c=true)(hd:jc (zg (zq c))=true)(h:(fun g=>(eqB P N (zq c) its ρ bl g).map Eqn.lf)=fun g=>(eqB P N (zq c) its ρ bl g).map Eqn.rt)
 (k: ∀g w',St B w0 w' (yg (zg (zq c)) (its g) 0 ρ bl g).2→WR l P N (zw c) Q (yg (zg (zq c)) (its g) 0 ρ bl g).1 w'):WR l P N c Q ρ w:=by
 refine zez hs fun a ha=>?_;obtain ⟨id,he,hm,hA⟩:=zfs (Q:=nx (WR l P N (zw c) Q) Q) its H h k;rw [he];exact wpIn_region_any hm (ziH (QA:=lift N (nx (WR l P N (zw c) Q) Q)) (fun ⟨_,_,_,_,q⟩=>hq _ _ q) hd _ _ a _ (hA a ha))
end
end Go.Proofs.YtpghmdbjmigjlaaGreatDoor
namespace Go.Proofs.YtpghmdbjmigjlaaGreatDoor
open Go Go.RowKit
open D2 (Gh)
set_option linter.unusedVariables false
theorem St.putObj {B:Nat}{w0 w:World}{bl:List (Nat×Obj)}{l:Nat}{o:Obj}(h:St B w0 w ((l,o)::bl))(o':Obj):St B w0 (w.putObj l o') ((l,o')::bl):=
 h.grown 0 rfl (grownBy_putObj' w l o') (.inl rfl) (World.putObj_heap_same (zr (h.get 0 rfl)))
section
variable {P:Program}{N:Nat}{ops:Array Oper}{i:Nat}{ρ:Env}{w:World}
theorem zpu {QB:Exit→Act→World→Prop}{K:Act→World→Prop}{a:Act}(hd:jc ops=true)(h:wpOp P ops NoQ i K a w):wpOpIn Fence.wide 0 P ops QB i K a w:=by
 unfold wpOp at h;unfold wpOpIn;cases ho:ops[i]? with
 | none=>simp only [ho] at h ⊢;exact h
 | some o=>
  simp only [ho] at h ⊢;split
  ·rename_i hw
   rw [if_pos hw] at h;have h:=h.resolve_right fun x=>(by obtain ⟨_,_,q⟩:=x.2;exact q)
   refine ⟨fun _ _=>trivial,?_⟩;rw [Oper.semAt_eq _ _ _ (zey hd ho)];unfold Oper.wp at h;generalize (execOp a.eval o).run P w=r at h;cases r with
   | ok n w'=>
    cases n with
    | value v=>exact h
    | skip=>exact h
    | defer d=>exact h
    | enter f args=>
     refine ⟨fun h=>(by cases h),callsIn_wide.2 (Calls.mono h fun e w'' q=>?_)⟩;cases e with
     | returned v=>exact q
     | panicked ch=>exact q.elim
     | outgrown=>obtain ⟨_,_,q⟩:=q;exact q.elim
    | row row args=>
     refine ⟨fun h=>(by cases h),fun c cs _=>?_⟩;obtain ⟨v,w2,h1,h2⟩:=h c cs;exact ⟨v,w2,h1,stepsIn_wide.2 h2⟩
    | _=>exact (h:False).elim
   | halt hh w'=>
    cases hh with
    | panic v=>exact (h:False).elim
    | _=>exact (h:False).elim
  ·rename_i hw
   rw [if_neg hw] at h;exact ⟨fun _ _=>trivial,h⟩
theorem WPs.inw {QB:Exit→Act→World→Prop}{K:Env→World→Prop}(hd:jc ops=true){L2:List Nat}(k: ∀a ρ w,Rep a ρ N→K ρ w→wpOpsIn Fence.wide 0 P ops QB L2 a w):
 ∀(L1:List Nat) (ρ:Env) (w:World),WPs P N ops K L1 ρ w→ ∀a,Rep a ρ N→wpOpsIn Fence.wide 0 P ops QB (L1++L2) a w
 | [],ρ,w,h,a,ha=>k a ρ w ha h
 | i::r,ρ,w,h,a,ha=>by
  rw [List.cons_append,wpOpsIn_cons];exact zpu hd (wpOp_mono (fun a' w' ⟨ρ',hr,h'⟩=>WPs.inw hd k r ρ' w' h' a' hr) (h a ha))
theorem zpv {QB:Exit→Act→World→Prop}{a:Act}{rest:List Nat}{l:Nat}{x v:Value}{o:Oper}{J:World→Prop}(hd:jc ops=true)(ha:Rep a ρ N)(ho:ops[i]? =some o)(hw:Region.wanted o (zC ops ρ)=true)
 (he:(execOp (ev ρ) o).run P w=(Instr.yield l #[x]).run P w) (hy:YieldAt Fence.wide 0 P l #[x] w fun e w2=>e=.returned v∧J w2) (hdst:dOK o.dst N=true)
 (k: ∀a' w2,Rep a' (zm ρ o.dst v) N→J w2→wpOpsIn Fence.wide 0 P ops QB rest a' w2):wpOpsIn Fence.wide 0 P ops QB (i::rest) a w:=by
 rw [wpOpsIn_cons];unfold wpOpIn;simp only [ho,jg ha,hw,if_true];refine ⟨fun _ _=>trivial,?_⟩;rw [Oper.semAt_eq _ _ _ (zey hd ho),ha.eval,he];obtain ⟨fn,tmps,asg,body,hr,hR⟩:=hy;rw [hr,Oper.uponIn_round];refine ⟨fun h=>(by cases h),hR.mono ?_⟩;rintro e w2 ⟨rfl,hj⟩;exact k _ w2 (ha.put _ (zM hdst) v) hj
end
theorem zpw {P:Program}{ρ:Env}{w:World}{o:Oper}{f y:Operand}{at_:Array TypeId}{l:Nat}{x:Value}(ho:o.op=.call { callee:=.value f,args:=#[y],argTypes:=at_ })(hf:ev ρ f=.func (.yield l) #[] #[])(hy:ev ρ y=x):
 (execOp (ev ρ) o).run P w=(Instr.yield l #[x]).run P w:=by
 have ha:(#[y]:Array Operand).map (ev ρ)=#[x]:=by simp [hy]
 unfold execOp;rw [ho];simp only [resolve,ha,hf];simp [go_sem,invoke]
def Yld (P:Program)(N:Nat)(ops:Array Oper)(Q:Exit→Env→World→Prop)(k:Nat)(L2:List Nat)(ρ:Env)(w:World):Prop:=
 ∃(d:Option Nat) (f y:Operand) (at_:Array TypeId) (l:Nat) (x v:Value) (J:World→Prop),opk ops k ρ=some (d,true,.call { callee:=.value f,args:=#[y],argTypes:=at_ })∧ev ρ f=.func (.yield l) #[] #[]∧ev ρ y=x∧
  YieldAt Fence.wide 0 P l #[x] w (fun e w2=>e=.returned v∧J w2)∧dOK d N=true∧ ∀w2,J w2→WPs P N ops (Q .normal) L2 (zm ρ d v) w2
theorem zpx {P:Program}{N:Nat}{c:Code}{Q:Exit→Env→World→Prop}{ρ:Env}{w:World}(L1:List Nat)(k:Nat)(L2:List Nat)(hc:qM c=some (L1++k::L2,false))(hd:jc (zg c)=true)
 (h:WPs P N (zg c) (Yld P N (zg c) Q k L2) L1 ρ w):WP P N c Q ρ w:=fun a ha=>by
 obtain ⟨id,he,hl⟩:=xR hc;rw [he];refine wpIn_wide.1 (wpIn_region (n:=0) ?_);rw [hl];refine WPs.inw (K:=Yld P N (zg c) Q k L2) hd ?_ L1 ρ w h a ha;rintro a ρ w ha ⟨d,f,y,at_,l,x,v,J,ho,hf,hy,hY,hdO,hk⟩;obtain ⟨o,ho1,hdst,hw,hop⟩:=zH ho;subst hdst;refine zpv hd ha ho1 hw (zpw hop hf hy) hY hdO fun a' w2 hr hj=>?_;have h3:=WPs.inw (P:=P) (N:=N) (QB:=lift N Q) (L2:=[]) hd (fun a ρ w hr hq=>⟨ρ,hr,hq⟩) L2 _ w2 (hk w2 hj) a' hr
 rwa [List.append_nil] at h3
def ziI (P:Program)(gf:Nat)(lb:Array Value)(x:Value)(pre:World→Prop):Prop:= ∀(l:Nat) (J:World→Prop) (w:World),pre w→
 (∀w1,Below w.heap.size w w1→YieldAt Fence.wide 0 P l #[x] w1 fun e w2=>e=.returned (.bool false)∧J w2)→Calls P gf (#[.func (.yield l) #[] #[]]++lb) w fun e w'=> ∃v,e=.returned v∧J w'
def ziJ:Code→Bool | .rangeFunc .. =>true | _=>false
def raG:Code→Operand | .rangeFunc g _ _ _=>g | _=>.tmp 0
def raP:Code→Array Tmp | .rangeFunc _ p _ _=>p | _=>#[]
def raA:Code→Code | .rangeFunc _ _ a _=>a | _=>.skip
def raB:Code→Code | .rangeFunc _ _ _ b=>b | _=>.skip
theorem zpy {c:Code}(h:ziJ c=true):c=.rangeFunc (raG c) (raP c) (raA c) (raB c):=by cases c<;>first | rfl | cases h
abbrev dfO:Obj:=.deferred (some [])
abbrev mkD (D:Nat):Deferred:= { target:=.collected D,args:=#[] }
section
variable {P:Program}{N:Nat}{ρ:Env}{w w0:World}{B:Nat}{bl:List (Nat×Obj)}{c:Code}
theorem zpz {id p gf:Nat}{x:Value}{lb:Array Value}{pre:World→Prop}(hc:ziJ c=true)(hp:raP c=#[p])(hpN:p<N)(hg:ev ρ (raG c)=.func (.func gf) #[] lb)
 (eg: ∀args w,(callFunc gf args).run P w=.ok (.enter gf args) w) (hG:ziI P gf lb x pre) (hpre: ∀w',Below w.heap.size w w'→pre w') (H:St B w0 w bl) (uX:List (Nat×Obj)→Prop)
 (hr: ∀(l D:Nat) (oR oB:Obj) (w1:World),St B w0 w1 ((l,oR)::(D,dfO)::bl)→WR l P N (raA c) (fun e ρ1 w2=>e=.normal∧∃b1,St B w0 w2 ((l,oR)::b1)∧
  ∀w3,St B w0 w3 ((l,oB)::b1)→WR l P N (raB c) (fun e _ w4=>e=.exit id∧∃b2,uX b2∧St B w0 w4 ((l,oB)::(D,dfO)::b2)) ρ1 w3) (upd ρ p x) w1)
 {a:Act} (ha:Rep a ρ N) {Q:Exit→Act→World→Prop}
 (k: ∀l D oE b2 w',uX b2→St B w0 w' ((l,oE)::(D,dfO)::b2)→Q (.exit id) { a with defers:=[mkD D] } w'):c.wpIn Fence.wide 0 P Q a w:=by
 have hev:a.eval (raG c)=.func (.func gf) #[] lb:=by rw [ha.eval];exact hg
 rw [zpy hc,hp];refine wpIn_rangeFunc fun fn _=>?_;obtain ⟨rec,hrec⟩:∃rec:LoopState→Option Code→Loop,rec=fun st pe=> { state:=st,pending:=pe,fn,tmps:=a.tmps,params:=#[p],assign:=raA c,body:=raB c,defers:=w.heap.size } :=⟨_,rfl⟩
 obtain ⟨W1,hW1⟩:∃W1,(w.alloc dfO).alloc (.loop (rec .ready none))=W1:=⟨_,rfl⟩
 have H1:St B w0 W1 ((w.heap.size+1,.loop (rec .ready none))::(w.heap.size,dfO)::bl):=by
  have h:=(H.alloc dfO).alloc (.loop (rec .ready none));rw [World.size_alloc,hW1] at h;exact h
 have hb1:Below w.heap.size w W1:=by
  rw [←hW1];exact (((Below.refl _ w).alloc (Nat.le_refl _) _).alloc (by simp) _)
 refine ⟨w.heap.size+1,[mkD w.heap.size],W1,{ target:=.fn (.func gf) lb,args:=#[.func (.yield (w.heap.size+1)) #[] #[]] },W1,gf,#[.func (.yield (w.heap.size+1)) #[] #[]]++lb,W1,?_,?_,fun _ _=>trivial,?_,fun h=>(by cases h),?_⟩
 ·rw [←hW1,hrec];exact run_enterLoop_outer _ _ _ _ _
 ·simp only [resolve,hev];simp [go_sem]
 ·simp [invoke,go_sem,eg]
 ·refine callsIn_wide.2 (Calls.mono (hG (w.heap.size+1) (fun W2=> ∃b2,uX b2∧St B w0 W2 ((w.heap.size+1,.loop (rec .done (some (.exit id))))::(w.heap.size,dfO)::b2)) W1 (hpre W1 hb1) ?_) ?_)
  ·intro W hW;have H2:=H1.call hW;have hl:=H2.get 0 rfl;have hy:=run_yield (P:=P) (args:=#[x]) hl (by rw [hrec];rfl);rw [hrec] at hy;refine ⟨fn,_,raA c,raB c,hy,roundIn_of_wpIn trivial (wpIn_mono (hr _ _ _ (.loop { rec .ready none with state:=.busy }) W H2 _ ?_) ?_)⟩
   ·have h:=ha.put (some p) (fun k e=>by cases e;exact hpN) x;have e:(#[p].zip #[x]).foldl (fun t (y:Nat×Value)=>match y with | (t',v)=>t.setIfInBounds t' v) a.tmps=a.tmps.setIfInBounds p x:=by simp [Array.zip,Array.zipWith,Array.zipWithMAux]
    refine ⟨rfl,?_,fun t=>?_⟩
    ·exact (congrArg Array.size e).trans h.size
    ·exact (congrArg (fun z:Array Value=>z.getD t undef) e).trans (h.at_ t)
   ·rintro e a1 w2 ⟨ρ1,hr1,rfl,b1,H3,hk⟩;have hl3:=H3.get 0 rfl;refine ⟨_,run_beginRound hl3 (by rw [hrec]),wpIn_mono (hk _ (H3.putObj _) a1 hr1) ?_⟩;rintro e a2 w4 ⟨ρ2,hr2,rfl,b2,hg2,H4⟩;have hl4:=H4.get 0 rfl;have he:=run_endRound (P:=P) (some (.exit id)) hl4;refine ⟨_,_,he,rfl,b2,hg2,?_⟩;have h5:=H4.putObj (.loop (rec .done (some (.exit id))));rw [hrec] at h5 ⊢;exact h5
  ·rintro e W2 ⟨v,rfl,b2,hg2,H2⟩;have hl:=H2.get 0 rfl;have he:=run_endLoop (P:=P) hl (by rw [hrec];simp);rw [hrec] at he;refine ⟨_,_,he,wpIn_exit ?_⟩;show Q (.exit id) { tmps:=a.tmps,defers:=[mkD w.heap.size]++a.defers } _;rw [ha.defers];exact k _ _ _ b2 _ hg2 (H2.putObj _)
def WA (P:Program)(N:Nat)(c:Code)(Q:Exit→Act→World→Prop)(ρ:Env)(w:World):Prop:= ∀a,Rep a ρ N→c.wp P Q a w
theorem a_S {Q:Exit→Act→World→Prop}(its:List (It P B w0))(H:St B w0 w bl)(hs:yx c=true)
 (h:(fun g=>(⟨srK (zq c) its.length,true⟩::qB N (zg (zq c)) its (List.range its.length) ρ bl g).map Eqn.lf)=fun g=>(⟨srK (zq c) its.length,true⟩::qB N (zg (zq c)) its (List.range its.length) ρ bl g).map Eqn.rt)
 (k: ∀g w',St B w0 w' (qr (zg (zq c)) its (List.range its.length) ρ bl g).2→WA P N (zw c) Q (qr (zg (zq c)) its (List.range its.length) ρ bl g).1 w'):WA P N c Q ρ w:=fun a ha=>by
 rw [uu hs];refine wp_seq (Go.wp_mono (rL (Q:=fun e ρ w=>e=.normal∧WA P N (zw c) Q ρ w) its H h (fun g w' H'=>⟨rfl,k g w' H'⟩) a ha) ?_);rintro e a' w' ⟨r,hr,rfl,q⟩;exact q a' hr
theorem zpA {Q:Exit→Act→World→Prop}(hs:yx c=true)(h:WA P N (zq c) (Exit.then ((zw c).wp P Q) Q) ρ w):WA P N c Q ρ w:=fun a ha=>by rw [uu hs];exact wp_seq (h a ha)
theorem zpB (id:Nat){Q:Exit→Act→World→Prop}(hc:vt c=some id)(h:WA P N (qf c) (Exit.inBlock id Q) ρ w):WA P N c Q ρ w:=fun a ha=>by rw [zcM hc];exact wp_block (h a ha)
theorem zpC {ds:List Deferred}{Q:Exit→Env→World→Prop}(its:List (It P B w0))(H:St B w0 w bl)(hs:yx c=true)
 (h:(fun g=>(⟨srK (zq c) its.length,true⟩::qB N (zg (zq c)) its (List.range its.length) ρ bl g).map Eqn.lf)=fun g=>(⟨srK (zq c) its.length,true⟩::qB N (zg (zq c)) its (List.range its.length) ρ bl g).map Eqn.rt)
 (k: ∀g w',St B w0 w' (qr (zg (zq c)) its (List.range its.length) ρ bl g).2→WPD ds P N (zw c) Q (qr (zg (zq c)) its (List.range its.length) ρ bl g).1 w'):WPD ds P N c Q ρ w:=by
 obtain ⟨id,he,hl⟩:=zaU (Eqs.head (congrFun h fun _=>default));refine zdN hs fun a ha=>?_;rw [he];refine wp_region ?_;rw [hl];have hd:(List.range its.length).drop its.length=[]:=by simp
 exact yu.soundD _ ρ w (xf (List.range its.length) (List.append_nil _).symm (vE its _ ρ bl w H (fun g=>Eqs.tail (congrFun h g)) fun g w' H'=>by rw [hd];exact k g w' H')) a ha
theorem zpD {ds:List Deferred}{Q:Exit→Env→World→Prop}(hc:jU c=true)(h:Q .ret ρ w):WPD ds P N c Q ρ w:=fun a ha=>by rw [zcN hc];exact wp_ret ⟨ρ,ha,h⟩
end
theorem zpE {P:Program}{f:Nat}{fn:Func}{c:Code}{N:Nat}{args:Array Value}{w:World}{R:Ending→World→Prop}(hf:P.funcs[f]? =some fn)(hb:fn.body=some c)(hn:args.size+(fn.ntmps-args.size)=N)
 (h:WA P N c (bodyPostM Fence.wide 0 P fn R) (ini args) w):Calls P f args w R:=by
 refine callsIn_wide.1 (callsIn_of_wp_marks (n:=0) hf hb trivial (wpIn_wide.2 (h _ ⟨rfl,by simp [hn],fun t=>?_⟩)));unfold ini;rw [jH,jH,Array.getElem?_append];split
 ·rfl
 ·rename_i hge
  rw [Array.getElem?_eq_none (Nat.le_of_not_lt hge)];cases he:(Array.replicate (fn.ntmps-args.size) undef)[t-args.size]? with
  | none=>rfl
  | some v=>
   have:=Array.mem_of_getElem? he;simp at this;simp [this]
theorem zpF {P:Program}{N:Nat}{fn:Func}{rs:List ResultVar}{R:Ending→World→Prop}{D:Nat}{vs:List Value}{B:Nat}{w0 w:World}{bl:List (Nat×Obj)}{a:Act}{ρ:Env}(ha:vc [mkD D] a ρ N)(hrs:fn.results.toList=rs)
 (H:St B w0 w ((D,dfO)::bl)) (k: ∀w',St B w0 w' ((D,.deferred none)::bl)→Res P w' ρ rs vs∧R (.returned (jI vs)) w'):bodyPostM Fence.wide 0 P fn R .ret a w:=by
 subst hrs;show LeavesInM Fence.wide 0 P fn a.tmps R a.defers .returning w;rw [ha.defers];obtain ⟨h1,h2⟩:=k _ (H.putObj (.deferred none));exact ⟨(nofun:FrameMode.returning≠.run),.inl ⟨D,_,rfl,run_takeDeferred (H.get 0 rfl),_,h1.run (a:= { a with defers:=[] }) ha.rep,h2⟩⟩
theorem D2.run_cp {P:Program}{ops:Array Oper}{d:Option Nat}{ρ:Env}{k:Nat}{w:World}{S:Value→World→Prop}{f:Nat}{args:Array Value}{pr:World→Prop}{v:Value}(hc:FnP P f args pr v)(hp:pr w)(h:opv P ops k ρ w=some (d,true,.ok (.enter f args) w))(hS: ∀w',Below w.heap.size w w'→S v w'):
 ∃o,ops[k]? =some o∧o.dst=d∧Region.wanted o (zC ops ρ)=true∧D2.Runs P S ((execOp (ev ρ) o).run P w):=by
 obtain ⟨o,ho,hd,hw,hr⟩:=zQ h;refine ⟨o,ho,hd,hw,?_⟩;rw [hr];refine Calls.mono (hc w hp) ?_;rintro e w' ⟨rfl,hb⟩;exact ⟨_,rfl,hS w' hb⟩
end Go.Proofs.YtpghmdbjmigjlaaGreatDoor
namespace Go.Proofs.YtpghmdbjmigjlaaGreatDoor
open Go Go.RowKit
open D2 (Gh)
set_option linter.unusedVariables false
set_option maxRecDepth 100000
set_option maxHeartbeats 4000000
def ftN (x:Nat):Fel:=⟨(x,em),none,0,0,.nil⟩
def kC (n:Nte):List Fel:=[ftN n.kd,ftN n.ht,ftN n.rd,fe0 n.id,ftN n.pr]
abbrev xl (n:Nte):Array Value:=#[.int .u64 ((n.kd:Nat):Int),.string em,.slice none 0 0,.int .u64 ((n.ht:Nat):Int),.string em,.slice none 0 0,.int .u64 ((n.rd:Nat):Int),.string em,.slice none 0 0,wZ,.string n.id,.slice none 0 0,.int .u64 ((n.pr:Nat):Int),.string em,.slice none 0 0]
def ziK (n:Nte)(v:Value)(T:List (Nat×Obj)):Prop:=∃b,v=.slice (some ⟨b,0,none⟩) 5 5∧T=[(b,.cells (xl n) 91 (0,0))]
theorem ziL (n:Nte):Rw 3 (xl n) 5 5 (zo eS (kC n)):=⟨rfl,Nat.le_refl _,by decide,rfl,rfl⟩
theorem ziM (n:Nte):FnT Tryz.prog 43 #[ntV n] (fun _=>True) (ziK n):=by
 refine FnT.intro (c:=zd Tryz.f43) [.tmp 2] 19 Tryz.func43 kr kr kr fun w _=>rS [.b,.v] (St.start w) kr fun gs1 w1 H1=>zh [0,1,2,3,4,5,6,7,8,9,10,11,12,13,14,15,16] kr kr<|rp [.v,.l 0,.v,.v,.l 0,.v,.v,.l 0,.v,.v,.l 0,.v,.v,.l 0,.v,.nw (fun b=>.slice (some ⟨b,0,none⟩) 5 5) (xl n) 91,.v] H1 kr fun gs2 w2 H2=>wX []<|zc ?_;have H3:St w.heap.size w w2 ([((gs1 0).b,ntO n)]++ [((gs2 15).b,.cells (xl n) 91 (0,0))]):=H2.as kr;refine rRr [.tmp 2] [] (.slice (some ⟨(gs2 15).b,0,none⟩) 5 5) (zU w.heap.size w (ziK n)) H2 kr ?_;exact ⟨_,⟨_,rfl,rfl⟩,H3.sub (List.sublist_append_right _ _)⟩
theorem zpG {n:Nte}(o:NtOk n){sg:ByteArray}(h:sg.size≤1000000)(T:List (Nat×Obj)):AllE fS T (kC n++ [fe0 sg]):=fun x hx=>by
 have z:(0:Nat)<0x10000000000000000:=by decide
 have ze:em.size≤0x800000000000:=Nat.zero_le _;have hz:=o.id;unfold kC at hx;simp only [List.cons_append,List.nil_append,List.mem_cons,List.not_mem_nil,or_false] at hx;rcases hx with rfl | rfl | rfl | rfl | rfl | rfl
 ·exact ⟨RIn.none _ _,o.kd,ze⟩
 ·exact ⟨RIn.none _ _,o.ht,ze⟩
 ·exact ⟨RIn.none _ _,o.rd,ze⟩
 ·exact ⟨RIn.none _ _,z,by show n.id.size≤_;omega⟩
 ·exact ⟨RIn.none _ _,o.pr,ze⟩
 ·exact ⟨RIn.none _ _,z,by show sg.size≤_;omega⟩
theorem ziN (n:Nte)(o:NtOk n):Fn Tryz.prog 25 #[ntV n] (.string (zG n)):=by
 have hsb:Fn Tryz.prog 23 #[.agg (Value.cells (sgv n.sg.1 n.sg.2.1 n.sg.2.2))] (.tuple #[.string (slB n.sg),.int .i64 (if zO n.sg.1 n.sg.2.1 n.sg.2.2=true then 0 else 1)]):=zcr n.sg.1 n.sg.2.1 o.sg.1 o.sg.2 n.sg.2.2;have hz:=zcv n.sg;unfold zG kA;generalize slB n.sg=sg at hsb hz;refine Fn.intro (c:=zd Tryz.f25) [.tmp 2] 24 Tryz.func25 kr kr kr fun w=>rS [.b,.v] (St.start w) kr fun gs1 w1 H1=>rS [.v,.l 0,.c hsb,.v,.v,.v,.v,.v] H1 kr fun gs2 w2 H2=>zh [0,1,2,3,4,5,6,7,8,9,10,11] kr kr<|rp [.l 0] H2 kr fun gs3 w3 H3=>wX [1,2,3,4,5,6,7,8,9,10,11] ?_;have H4:St w.heap.size w w3 [((gs1 0).b,ntO n)]:=H3.as kr;refine qo H4 (some 15) 43 #[ntV n] (ziM n) trivial kr kr ?_;rintro _ _ w4 ⟨b,rfl,rfl⟩ H5;refine rp [.v,.v] H5 kr fun gs5 w5 H6=>wX [4,5,6,7,8,9,10,11] ?_;have H7:St w.heap.size w w5 [(b,.cells (xl n) 91 (0,0)),((gs1 0).b,ntO n)]:=H6.as kr;refine vJ H7 (some 18) (fun b=>.slice (some ⟨b,0,none⟩) 1 1) (eS.cs (fe0 sg)).toArray 91 kr kr ?_;intro nb w6 H8;refine uR (S:=eS) (row:=[(b,.cells (xl n) 91 (0,0))]) (Z:=[((gs1 0).b,ntO n)]) (some 19) 88 91 48 (.tmp 15) (.tmp 18) H8 (.inr ⟨b,xl n,rfl,rfl,ziL n⟩) kr kr kr kr kr (by decide) (by decide) ?_;intro b' cap' cur' w7 H9 hrn;have hrow:yk eS 91 (some ⟨b',0,none⟩) 6 cap' [(b',.cells cur' 91 (0,0))] (kC n++ [fe0 sg]):=.inr ⟨b',cur',rfl,rfl,hrn⟩;have hin:RIn fS ([(b',.cells cur' 91 (0,0))]++ [((gs1 0).b,ntO n)]) (some ⟨b',0,none⟩) 6 (ntF n sg):=hrow.toE.rIn (T:=[((gs1 0).b,ntO n)]) (by decide) (zpG o (Nat.le_trans hz (by decide)) _) (by decide);refine qm H9 (some 20) 42 #[.string zaz,.slice (some ⟨b',0,none⟩) 6 cap'] _ _ (zb7 zaz (some ⟨b',0,none⟩) 6 cap' (ntF n sg)) (hin.at H9 fun e he=>he) (fun w=>by kernel_rfl) kr ?_;intro w8 H10;refine rp [.v,.v,.v,.v,.v] H10 kr fun gs10 w9 H11=>wX []<|zc<|rS [.v,.v] H11 kr fun gs12 w10 H12=>?_;exact rR [.tmp 2] [] (.string (wrV zaz (ntF n sg)).1) H12 kr
theorem zpH:FnT Tryz.prog 24 #[.slice none 0 0] (fun _=>True) (fun v T=> ∃q k,v=.agg #[.bool true,.string emB,.slice q 0 k]∧yk iS 44 q 0 k T []):=fun w _=>by
 refine (zhj none 0 0 [] (by decide) w ⟨rfl,.inl rfl⟩).mono ?_;rintro e w' ⟨v,rfl,hb,⟨h0,rfl⟩ | ⟨b,cap,cur,rfl,hle,hh,hr⟩⟩
 ·exact ⟨_,[],rfl,⟨none,0,rfl,.inl ⟨rfl,rfl,rfl,rfl,rfl⟩⟩,(St.start w).call hb⟩
 ·exact ⟨_,[(b,_)],rfl,⟨some ⟨b,0,none⟩,cap,rfl,.inr ⟨b,cur,rfl,rfl,hr⟩⟩,(St.start w).add hb hle hh⟩
abbrev ls3 (q:Option Addr)(n k:Nat)(i:Fo):X3:=⟨true,emB,q,n,k,i⟩
def zeA (L:List Nte)(v:Value)(T:List (Nat×Obj)):Prop:=∃q k,v=.agg #[.bool true,.string emB,.slice q L.length k]∧yk iS 44 q L.length k T ((L.map zG).map b3)
theorem ziO (p:Option Addr)(n c:Nat)(L:List Nte)(hL:L.length≤1000000)(hO: ∀x∈L,NtOk x):FnT Tryz.prog 26 #[.slice p n c] (fun w=>AtF ntS w p n L) (zeA L):=by
 refine FnT.intro (c:=zd Tryz.f26) [.cell 2 44] 23 Tryz.func26 kr kr kr fun w hP=>?_;have H0:=St.start w;have hn:=hP.1;refine rS [.a] H0 kr fun gs1 w1 H1=>zh [0,1,2] kr kr ?_;have H2:St w.heap.size w w1 [((gs1 0).b,itO (b3 emB))]:=H1.as kr;refine qo H2 (some 6) 24 #[.slice none 0 0] zpH trivial kr kr ?_;rintro _ row0 w2 ⟨q0,k0,rfl,hr0⟩ H3;refine zP H3 (some 3) 44 (.agg #[.bool false,.string ⟨#[]⟩,.slice none 0 0]) kr kr kr ?_;intro b4 w3 H4;refine rp [.s 0] H4 kr fun gs4 w4 H5=>wX []<|zc<|wW ?_;have H6:St w.heap.size w w4 ((b4,itO (ls3 q0 0 k0 .nil))::(row0++ [((gs1 0).b,itO (b3 emB))])):=H5.as kr;have H7:St w.heap.size w w4 ((b4,itO (ls3 q0 0 k0 .nil))::((gs1 0).b,itO (b3 emB))::row0):=H6.perm (List.Perm.cons _ (List.perm_append_comm (l₁:=[((gs1 0).b,itO (b3 emB))]) (l₂:=row0)));clear H0 H1 H2 H3 H4 H5 H6;refine zb kr<|rS [.v,.v,.v] H7 kr fun gs5 w5 H8=>qQ 9 8 10 21 0 1 n (by omega) (fun i ρ ww=> ∃q k row,yk iS 44 q i k row (((L.take i).map zG).map b3)∧St w.heap.size w ww ((b4,itO (ls3 q i k .nil))::((gs1 0).b,itO (b3 emB))::row)∧Is [(2,.pointer (some ⟨(gs1 0).b,0,none⟩)),(3,.pointer (some ⟨b4,0,none⟩)),(7,.slice p n c),(8,iN n),(9,iN i)] ρ) (by rintro i _ ww ⟨_,_,_,_,_,_,rfl⟩;exact ⟨kr,kr⟩) ⟨q0,k0,row0,hr0,H8.as kr,isK⟩ ?_ ?_
 ·clear H7 H8;rintro i _ w6 hi ⟨q,k,row,hrow,H9,_,rfl⟩;obtain ⟨x,hx⟩:∃x,L[i]? =some x:=⟨_,List.getElem?_eq_getElem (by omega)⟩
  obtain ⟨bl,off,C,T,fz,hp,hh,hR⟩:=hP.row2 (by omega);have ox:=hO x (List.mem_of_getElem? hx);have hrec:=ziN x ox;generalize hM:((L.take i).map zG).map b3=M at hrow;refine zh [0,1,2,3] kr kr<|rp [.o (ins:=[((.tmp 7),.slice p n c),((.tmp 9),iN i)]) (v:=.pointer (some ⟨bl,off+i*14,none⟩)) (fun ρ o w ho hi2=>yh (kd:=.i64) (t:=29) (e:=28) (K:=14) (bytes:=120) kr (x:=(.tmp 7)) (y:=(.tmp 9)) bl off n c i hp ho hi2.1 hi2.2.1 (by omega) w),.fp (off:=off+i*14) (n:=14) (W:=ntC x) hh (zr hh) (hR _ _ hx).1 (hR _ _ hx).2] H9 kr fun gs7 w7 H10=>wX [2,3] ?_;have H11:St w.heap.size w w7 ((b4,itO (ls3 q i k .nil))::((gs1 0).b,itO (b3 emB))::row):=H10.as kr;refine zP H11 (some 5) 28 (ntV ⟨0,0,0,em,0,0,0,0⟩) kr kr kr ?_;intro b5 w8 H12;refine rp [.s 0] H12 kr fun gs8 w9 H13=>wX []<|zc<|wW ?_;have H14:St w.heap.size w w9 ((b5,ntO x)::(b4,itO (ls3 q i k .nil))::((gs1 0).b,itO (b3 emB))::row):=H13.as kr;refine D2.g_draw0 [0,1,2,3,4,5,6,7,8] [(some 13,fun _=>.pointer (some ⟨b4,2,none⟩)),(some 14,fun _=>.slice q i k),(some 15,fun _=>ntV x),(some 16,fun _=>.string (zG x)),(some 17,fun _=>.agg (iS.cs (b3 (zG x))).toArray),(some 18,fun y=>.slice (some ⟨y.b,0,none⟩) 1 1),(some 19,fun y=>.slice (some ⟨y.b,0,none⟩) (i+1) y.cap),(some 20,fun _=>.pointer (some ⟨b4,2,none⟩)),(none,fun _=>undef)]
   (D2.chn [3,5,6,8] (fun j g ww=>match j with
   | 0=>St w.heap.size w ww ((b5,ntO x)::(b4,itO (ls3 q i k .nil))::((gs1 0).b,itO (b3 emB))::row)
   | 1=>St w.heap.size w ww ((b5,ntO x)::(b4,itO (ls3 q i k .nil))::((gs1 0).b,itO (b3 emB))::row)
   | 2=>St w.heap.size w ww (((g 5).b,.cells (iS.cs (b3 (zG x))).toArray 44 (0,0))::(b5,ntO x)::(b4,itO (ls3 q i k .nil))::((gs1 0).b,itO (b3 emB))::row)
   | 3=>Rw 3 (g 6).cur (g 6).cap (i+1) (zo iS (M++ [b3 (zG x)]))∧St w.heap.size w ww [((g 6).b,.cells (g 6).cur 44 (0,0)),(b5,ntO x),(b4,itO (ls3 q i k .nil)),((gs1 0).b,itO (b3 emB))]
   | _=>Rw 3 (g 6).cur (g 6).cap (i+1) (zo iS (M++ [b3 (zG x)]))∧St w.heap.size w ww [((g 6).b,.cells (g 6).cur 44 (0,0)),(b5,ntO x),(b4,itO (ls3 (some ⟨(g 6).b,0,none⟩) (i+1) (g 6).cap .nil)),((gs1 0).b,itO (b3 emB))])) kr kr kr H14.drew ⟨?_,?_,?_,?_,?_,?_,?_,?_,?_,trivial⟩ ?_
  ·exact D2.gv_val (fun _ _ _ h=>h) (fun g w=>by kernel_rfl)
  ·exact D2.gv_ld (fun _ _ _ h=>h) 42 (.tmp 13) (fun _=>b4) 2 (#[.bool true,.string emB,.slice q i k]) 44 (0,0) (fun g=>by kernel_rfl) (fun g=>by kernel_rfl) (fun L1 g ww hN hp=>D2.chn.getN hp 2 6 rfl (hN.post 6 kr) fun j hj h=>by
   match j,h with
   | 0,h=>exact St.get h 1 kr
   | 1,h=>exact St.get h 1 kr
   | 2,h=>exact St.get h 2 kr) kr kr
  ·exact D2.gv_ld (fun _ _ _ h=>h) 28 (.tmp 5) (fun _=>b5) 0 (ntC x) 28 (0,0) (fun g=>by kernel_rfl) (fun g=>by kernel_rfl) (fun L1 g ww hN hp=>D2.chn.getN hp 0 3 rfl (hN.post 3 kr) fun j hj h=>by
   match j,h with
   | 0,h=>exact St.get h 0 kr) kr kr
  ·refine D2.gv_chn 3 0 (fun L hN=>by
   have e3:=hN.1;have e4:=hN.post 4 kr;have e5:=hN.fwd e4 (show D2.edge _ 4 5=true by kernel_rfl);have e6:=hN.fwd e5 (show D2.edge _ 5 6=true by kernel_rfl);have e8:=hN.fwd e6 (show D2.edge _ 6 8=true by kernel_rfl)
   exact ⟨by (simp [D2.stg,e3,e5,e6,e8])<;>rfl,by (simp [D2.stg,D2.put1,e3,e5,e6,e8])<;>rfl⟩) fun g ww hq=>?_
   exact D2.run_cp (pr:=fun _=>True) (fun w _=>hrec w) trivial kr fun w' hb=>⟨default,rfl,hq.call hb⟩
  ·exact D2.gv_val (fun _ _ _ h=>h) (fun g w=>by kernel_rfl)
  ·refine D2.gv_chn 5 1 (fun L hN=>by
   have e5:=hN.1;have e4:=hN.bef 4 kr;have e3:=hN.back e4 (show D2.edge _ 3 4=true by kernel_rfl);have e6:=hN.post 6 kr;have e8:=hN.fwd e6 (show D2.edge _ 6 8=true by kernel_rfl)
   exact ⟨by (simp [D2.stg,e3,e5,e6,e8])<;>rfl,by (simp [D2.stg,D2.put1,e3,e5,e6,e8])<;>rfl⟩) fun g ww hq=>?_
   exact D2.run_new (F:=fun b=>.slice (some ⟨b,0,none⟩) 1 1) (ob:=.cells (iS.cs (b3 (zG x))).toArray 44 (0,0)) kr ⟨{ b:=ww.heap.size },rfl,hq.alloc _⟩
  ·refine D2.gv_chn 6 2 (fun L hN=>by
   have e6:=hN.1;have e5:=hN.bef 5 kr;have e4:=hN.back e5 (show D2.edge _ 4 5=true by kernel_rfl);have e3:=hN.back e4 (show D2.edge _ 3 4=true by kernel_rfl);have e8:=hN.post 8 kr
   exact ⟨by (simp [D2.stg,e3,e5,e6,e8])<;>rfl,by (simp [D2.stg,D2.put1,e3,e5,e6,e8])<;>rfl⟩) fun g ww hq=>?_
   refine D2.run_of (op:=yq 42 (.tmp 14) (.tmp 18)) kr fun o ho=>?_;have hq2:St w.heap.size w ww (((g 5).b,.cells (iS.cs (b3 (zG x))).toArray 44 (0,0))::(row++ [(b5,ntO x),(b4,itO (ls3 q i k .nil)),((gs1 0).b,itO (b3 emB))])):=hq.perm (List.Perm.cons _ (List.perm_append_comm (l₁:=row) (l₂:=[(b5,ntO x),(b4,itO (ls3 q i k .nil)),((gs1 0).b,itO (b3 emB))])));obtain ⟨b',cap',cur',w',hrun,HS',hr'⟩:=zfP (S:=iS) (mc:=1) hq2 hrow (t:=42) (bytes:=48) kr ho kr kr (by omega) (by unfold maxLen;omega);exact ⟨_,_,hrun,{ b:=b',cap:=cap',cur:=cur' },rfl,hr',HS'⟩
  ·exact D2.gv_val (fun _ _ _ h=>h) (fun g w=>by kernel_rfl)
  ·refine D2.gv_chn 8 3 (fun L hN=>by
   have e8:=hN.1;have e6:=hN.bef 6 kr;have e5:=hN.back e6 (show D2.edge _ 5 6=true by kernel_rfl);have e4:=hN.back e5 (show D2.edge _ 4 5=true by kernel_rfl);have e3:=hN.back e4 (show D2.edge _ 3 4=true by kernel_rfl)
   exact ⟨by (simp [D2.stg,e3,e5,e6,e8])<;>rfl,by (simp [D2.stg,D2.put1,e3,e5,e6,e8])<;>rfl⟩) fun g ww hq=>?_
   exact D2.run_sto (t:=42) (x:=.tmp 20) (y:=.tmp 19) (b:=b4) (off:=2) (C:=#[.bool true,.string emB,.slice q i k]) (C':=#[.bool true,.string emB,.slice (some ⟨(g 6).b,0,none⟩) (i+1) (g 6).cap]) (T:=44) (v:=.slice (some ⟨(g 6).b,0,none⟩) (i+1) (g 6).cap) kr kr kr kr kr (St.get hq.2 2 kr) (Nat.le_of_ble_eq_true kr) kr ⟨default,rfl,hq.1,St.store (C:=#[.bool true,.string emB,.slice q i k]) (T:=44) hq.2 2 kr⟩
  intro L1 g w10 hall hp9;obtain ⟨hrw,H15⟩:=hp9.fin (fun k hk=>hall k (by simp at hk;rcases hk with rfl | rfl | rfl | rfl<;>exact Nat.le_of_ble_eq_true kr));have H16:St w.heap.size w w10 [((g 6).b,.cells (g 6).cur 44 (0,0)),(b5,ntO x),(b4,itO (ls3 (some ⟨(g 6).b,0,none⟩) (i+1) (g 6).cap .nil)),((gs1 0).b,itO (b3 emB))]:=H15;refine ⟨kr,some ⟨(g 6).b,0,none⟩,(g 6).cap,[((g 6).b,.cells (g 6).cur 44 (0,0))],.inr ⟨_,_,rfl,rfl,?_⟩,?_,isK⟩
  ·rw [ju hx,List.map_append,List.map_append,hM];exact hrw
  ·exact (H16.sub (List.Sublist.cons_cons _ (List.sublist_cons_self ..))).perm (List.perm_append_comm (l₁:=[(b4,itO (ls3 (some ⟨(g 6).b,0,none⟩) (i+1) (g 6).cap .nil)),((gs1 0).b,itO (b3 emB))]) (l₂:=[((g 6).b,.cells (g 6).cur 44 (0,0))]))
 ·clear H7 H8;rintro _ w6 ⟨q,k,row,hrow,H9,_,rfl⟩;rw [List.take_of_length_le (by omega)] at hrow;refine wW<|rS [.l 0,.s 1] H9 kr fun gs7 w7 H10=>?_;have H11:St w.heap.size w w7 ([(b4,itO (ls3 q n k .nil)),((gs1 0).b,itO (ls3 q n k .nil))]++row):=H10.as kr;refine rRr [.cell 2 44] [1] (.agg #[.bool true,.string emB,.slice q n k]) (zU w.heap.size w (zeA L)) H10 kr ?_;exact ⟨_,⟨q,k,by rw [hn],by rw [←hn];exact hrow⟩,H11.sub (List.sublist_append_right _ _)⟩
end Go.Proofs.YtpghmdbjmigjlaaGreatDoor
namespace Go.Proofs.YtpghmdbjmigjlaaGreatDoor
open Go Go.RowKit
open D2 (Gh)
set_option linter.unusedVariables false
set_option maxRecDepth 100000
set_option maxHeartbeats 4000000
theorem ziP {L:List Nte}{v:Value}{T:List (Nat×Obj)}(h:zeA L v T)(hal:L.all yo=true)(hL:L.length≤100000):zoa true emB (lsI (L.map zG)) v T:=by
 obtain ⟨q,k,rfl,hr⟩:=h;have hA:AllIn [] ((L.map zG).map b3):=fun x hx=>by
  obtain ⟨s,hs,rfl⟩:=List.mem_map.1 hx;obtain ⟨y,hy,rfl⟩:=List.mem_map.1 hs;exact ⟨zbY _ _,by have:=ziq (List.all_eq_true.1 hal y hy);show (zG y).size≤_;omega⟩
 obtain ⟨y,hy,hs⟩:=hr.gh hA hL;rw [zev,List.append_nil] at hs;rw [zev] at hy;exact ⟨y,by rw [hy],hs⟩
def uf (m:Mg)(y z:Gh):List X3:=[b3 (zG m.n),b3 (slB m.sl),b3 m.bk,Yg true emB (lsI (m.cs.map zG)) y,Yg true emB (lsI (m.ps.map zG)) z]
def ziQ (m:Mg)(v:Value)(T:List (Nat×Obj)):Prop:=∃b c,v=.agg #[.bool true,.string emB,.slice (some ⟨b,0,none⟩) 5 c]∧ya T (some ⟨b,0,none⟩) 5 (mgI m)
theorem zpI (m:Mg)(o:jP m)(r:yo m.n=true)(r1:m.cs.all yo=true)(r2:m.ps.all yo=true)(l1:m.cs.length≤1000)(l2:m.ps.length≤1000)(p:Option Addr)(n c:Nat)(q:Option Addr)(k d:Nat):FnT Tryz.prog 12 #[mgV m p n c q k d] (fun w=>qw w m p n q k) (ziQ m):=by
 have hsb:Fn Tryz.prog 23 #[.agg (Value.cells (sgv m.sl.1 m.sl.2.1 m.sl.2.2))] (.tuple #[.string (slB m.sl),.int .i64 (if zO m.sl.1 m.sl.2.1 m.sl.2.2=true then 0 else 1)]):=zcr m.sl.1 m.sl.2.1 o.sl.1 o.sl.2 m.sl.2.2;have hrec:=ziN m.n o.n;refine FnT.intro (c:=zd Tryz.f12) [.cell 2 44] 28 Tryz.func12 kr kr kr fun w hP=>rS [.b,.a] (St.start w) kr fun gs1 w1 H1=>rS [.v,.l 0,.c hsb,.v,.v,.v,.v,.v] H1 kr fun gs2 w2 H2=>?_;have H3:St w.heap.size w w2 [((gs1 0).b,mgO m p n c q k d),((gs1 1).b,itO (b3 emB))]:=H2.as kr;refine zb kr<|D2.g_draw0 [0,1,2,3,4,5,6,7,8,9,10,11,12,13,14,15,16,17] [(some 11,fun _=>.pointer (some ⟨(gs1 0).b,0,none⟩)),(some 12,fun _=>ntV m.n),(some 13,fun _=>.string (zG m.n)),(some 14,fun _=>itV (b3 (zG m.n))),(some 15,fun _=>.string (slB m.sl)),(some 16,fun _=>itV (b3 (slB m.sl))),(some 17,fun _=>.pointer (some ⟨(gs1 0).b,23,none⟩)),(some 18,fun _=>.string m.bk),(some 19,fun _=>itV (b3 m.bk)),(some 20,fun _=>.pointer (some ⟨(gs1 0).b,24,none⟩)),(some 21,fun _=>.slice p n c),(some 22,fun y=>itV (Yg true emB (lsI (m.cs.map zG)) y)),(some 23,fun _=>.pointer (some ⟨(gs1 0).b,25,none⟩)),(some 24,fun _=>.slice q k d),(some 25,fun y=>itV (Yg true emB (lsI (m.ps.map zG)) y)),(some 26,fun y=>.slice (some ⟨y.b,0,none⟩) 5 5),(some 27,fun y=>.agg #[.bool true,.string emB,.slice (some ⟨y.b,0,none⟩) 5 y.cap]),(none,fun _=>undef)]
  (D2.chn [2,11,14,15,16,17] (fun j g ww=>match j with
  | 0=>St w.heap.size w ww [((gs1 0).b,mgO m p n c q k d),((gs1 1).b,itO (b3 emB))]
  | 1=>St w.heap.size w ww [((gs1 0).b,mgO m p n c q k d),((gs1 1).b,itO (b3 emB))]
  | 2=> ∃T1,ya T1 (pG (g 11)) (lsI (m.cs.map zG)).len (lsI (m.cs.map zG))∧St w.heap.size w ww (((gs1 0).b,mgO m p n c q k d)::((gs1 1).b,itO (b3 emB))::T1)
  | 3=> ∃T1 T2,ya T1 (pG (g 11)) (lsI (m.cs.map zG)).len (lsI (m.cs.map zG))∧ya T2 (pG (g 14)) (lsI (m.ps.map zG)).len (lsI (m.ps.map zG))∧St w.heap.size w ww (((gs1 0).b,mgO m p n c q k d)::((gs1 1).b,itO (b3 emB))::(T1++T2))
  | 4=> ∃T1 T2,ya T1 (pG (g 11)) (lsI (m.cs.map zG)).len (lsI (m.cs.map zG))∧ya T2 (pG (g 14)) (lsI (m.ps.map zG)).len (lsI (m.ps.map zG))∧St w.heap.size w ww (((g 15).b,zdV (uf m (g 11) (g 14)))::((gs1 0).b,mgO m p n c q k d)::((gs1 1).b,itO (b3 emB))::(T1++T2))
  | 5=> ∃T1 T2,ya T1 (pG (g 11)) (lsI (m.cs.map zG)).len (lsI (m.cs.map zG))∧ya T2 (pG (g 14)) (lsI (m.ps.map zG)).len (lsI (m.ps.map zG))∧Rw 3 (g 16).cur (g 16).cap 5 (zo iS (uf m (g 11) (g 14)))∧St w.heap.size w ww (((g 16).b,.cells (g 16).cur 44 (0,0))::((gs1 0).b,mgO m p n c q k d)::((gs1 1).b,itO (b3 emB))::(T1++T2))
  | _=> ∃T1 T2,ya T1 (pG (g 11)) (lsI (m.cs.map zG)).len (lsI (m.cs.map zG))∧ya T2 (pG (g 14)) (lsI (m.ps.map zG)).len (lsI (m.ps.map zG))∧Rw 3 (g 16).cur (g 16).cap 5 (zo iS (uf m (g 11) (g 14)))∧St w.heap.size w ww (((g 16).b,.cells (g 16).cur 44 (0,0))::((gs1 0).b,mgO m p n c q k d)::((gs1 1).b,.cells #[.bool true,.string emB,.slice (some ⟨(g 16).b,0,none⟩) 5 (g 16).cap] 44 (0,0))::(T1++T2)))) kr kr kr H3.drew ⟨?_,?_,?_,?_,?_,?_,?_,?_,?_,?_,?_,?_,?_,?_,?_,?_,?_,?_,trivial⟩ ?_
 ·exact D2.gv_val (fun _ _ _ h=>h) (fun g w=>by kernel_rfl)
 ·exact D2.gv_ld (fun _ _ _ h=>h) 28 (.tmp 11) (fun _=>(gs1 0).b) 0 (mgC m p n c q k d) 31 (0,0) (fun g=>by kernel_rfl) (fun g=>by kernel_rfl) (fun L1 g ww hN hp=>D2.chn.getN hp 0 2 rfl (hN.post 2 kr) fun j hj h=>by
   match j,h with
   | 0,h=>exact St.get h 0 kr) kr kr
 ·refine D2.gv_chn 2 0 (fun L hN=>by
   have e2:=hN.1;have e11:=hN.post 11 kr;have e14:=hN.fwd e11 (show D2.edge _ 11 14=true by kernel_rfl);have e15:=hN.fwd e14 (show D2.edge _ 14 15=true by kernel_rfl);have e16:=hN.fwd e15 (show D2.edge _ 15 16=true by kernel_rfl);have e17:=hN.fwd e16 (show D2.edge _ 16 17=true by kernel_rfl)
   exact ⟨by (simp [D2.stg,e2,e11,e14,e15,e16,e17])<;>rfl,by (simp [D2.stg,D2.put1,e2,e11,e14,e15,e16,e17])<;>rfl⟩) fun g ww hq=>?_
  exact D2.run_cp (pr:=fun _=>True) (fun w _=>hrec w) trivial kr fun w' hb=>⟨default,rfl,hq.call hb⟩
 ·exact D2.gv_val (fun _ _ _ h=>h) (fun g w=>by kernel_rfl)
 ·exact D2.gv_val (fun _ _ _ h=>h) (fun g w=>by kernel_rfl)
 ·exact D2.gv_val (fun _ _ _ h=>h) (fun g w=>by kernel_rfl)
 ·exact D2.gv_val (fun _ _ _ h=>h) (fun g w=>by kernel_rfl)
 ·exact D2.gv_ld (fun _ _ _ h=>h) 9 (.tmp 17) (fun _=>(gs1 0).b) 23 (mgC m p n c q k d) 31 (0,0) (fun g=>by kernel_rfl) (fun g=>by kernel_rfl) (fun L1 g ww hN hp=>D2.chn.getN hp 3 15 rfl (hN.fwd (hN.post 8 kr) (show D2.edge _ 8 15=true by kernel_rfl)) fun j hj h=>by
   match j,h with
   | 0,h=>exact St.get h 0 kr
   | 1,h=>exact St.get h 0 kr
   | 2,h=>exact h.elim fun T1 h=>St.get h.2 0 kr
   | 3,h=>exact h.elim fun T1 h=>h.elim fun T2 h=>St.get h.2.2 0 kr) kr kr
 ·exact D2.gv_val (fun _ _ _ h=>h) (fun g w=>by kernel_rfl)
 ·exact D2.gv_val (fun _ _ _ h=>h) (fun g w=>by kernel_rfl)
 ·exact D2.gv_ld (fun _ _ _ h=>h) 29 (.tmp 20) (fun _=>(gs1 0).b) 24 (mgC m p n c q k d) 31 (0,0) (fun g=>by kernel_rfl) (fun g=>by kernel_rfl) (fun L1 g ww hN hp=>D2.chn.getN hp 1 11 rfl (hN.post 11 kr) fun j hj h=>by
   match j,h with
   | 0,h=>exact St.get h 0 kr
   | 1,h=>exact St.get h 0 kr) kr kr
 ·refine D2.gv_chn 11 1 (fun L hN=>by
   have e11:=hN.1;have e2:=hN.bef 2 kr;have e14:=hN.post 14 kr;have e15:=hN.fwd e14 (show D2.edge _ 14 15=true by kernel_rfl);have e16:=hN.fwd e15 (show D2.edge _ 15 16=true by kernel_rfl);have e17:=hN.fwd e16 (show D2.edge _ 16 17=true by kernel_rfl)
   exact ⟨by (simp [D2.stg,e2,e11,e14,e15,e16,e17])<;>rfl,by (simp [D2.stg,D2.put1,e2,e11,e14,e15,e16,e17])<;>rfl⟩) fun g ww hq=>?_
  refine D2.run_ft (ziO p n c m.cs (by omega) o.cs) (hP.1.call (St.below hq)) kr ?_;intro v T w' hok hT;obtain ⟨y,rfl,hs⟩:=ziP hok r1 (by omega);exact ⟨y,rfl,T,hs,(St.addAll hq hT).perm (List.perm_append_comm (l₁:=[((gs1 0).b,mgO m p n c q k d),((gs1 1).b,itO (b3 emB))]) (l₂:=T))⟩
 ·exact D2.gv_val (fun _ _ _ h=>h) (fun g w=>by kernel_rfl)
 ·exact D2.gv_ld (fun _ _ _ h=>h) 29 (.tmp 23) (fun _=>(gs1 0).b) 25 (mgC m p n c q k d) 31 (0,0) (fun g=>by kernel_rfl) (fun g=>by kernel_rfl) (fun L1 g ww hN hp=>D2.chn.getN hp 2 14 rfl (hN.post 14 kr) fun j hj h=>by
   match j,h with
   | 0,h=>exact St.get h 0 kr
   | 1,h=>exact St.get h 0 kr
   | 2,h=>exact h.elim fun T1 h=>St.get h.2 0 kr) kr kr
 ·refine D2.gv_chn 14 2 (fun L hN=>by
   have e14:=hN.1;have e11:=hN.bef 11 kr;have e2:=hN.back e11 (show D2.edge _ 2 11=true by kernel_rfl);have e15:=hN.post 15 kr;have e16:=hN.fwd e15 (show D2.edge _ 15 16=true by kernel_rfl);have e17:=hN.fwd e16 (show D2.edge _ 16 17=true by kernel_rfl)
   exact ⟨by (simp [D2.stg,e2,e11,e14,e15,e16,e17])<;>rfl,by (simp [D2.stg,D2.put1,e2,e11,e14,e15,e16,e17])<;>rfl⟩) fun g ww hq=>?_
  obtain ⟨T1,hs1,hq⟩:=hq;refine D2.run_ft (ziO q k d m.ps (by omega) o.ps) (hP.2.call (St.below hq)) kr ?_;intro v T w' hok hT;obtain ⟨y,rfl,hs⟩:=ziP hok r2 (by omega);exact ⟨y,rfl,T1,T,hs1,hs,(St.addAll hq hT).perm (zau [((gs1 0).b,mgO m p n c q k d),((gs1 1).b,itO (b3 emB))] T1 T).symm⟩
 ·refine D2.gv_chn 15 3 (fun L hN=>by
   have e15:=hN.1;have e14:=hN.bef 14 kr;have e11:=hN.back e14 (show D2.edge _ 11 14=true by kernel_rfl);have e2:=hN.back e11 (show D2.edge _ 2 11=true by kernel_rfl);have e16:=hN.post 16 kr;have e17:=hN.fwd e16 (show D2.edge _ 16 17=true by kernel_rfl)
   exact ⟨by (simp [D2.stg,e2,e11,e14,e15,e16,e17])<;>rfl,by (simp [D2.stg,D2.put1,e2,e11,e14,e15,e16,e17])<;>rfl⟩) fun g ww hq=>?_
  obtain ⟨T1,T2,hs1,hs2,hq⟩:=hq;exact D2.run_new (F:=fun b=>.slice (some ⟨b,0,none⟩) 5 5) (ob:=zdV (uf m (g 11) (g 14))) kr ⟨{ b:=ww.heap.size },rfl,T1,T2,hs1,hs2,hq.alloc _⟩
 ·refine D2.gv_chn 16 4 (fun L hN=>by
   have e16:=hN.1;have e15:=hN.bef 15 kr;have e14:=hN.back e15 (show D2.edge _ 14 15=true by kernel_rfl);have e11:=hN.back e14 (show D2.edge _ 11 14=true by kernel_rfl);have e2:=hN.back e11 (show D2.edge _ 2 11=true by kernel_rfl);have e17:=hN.post 17 kr
   exact ⟨by (simp [D2.stg,e2,e11,e14,e15,e16,e17])<;>rfl,by (simp [D2.stg,D2.put1,e2,e11,e14,e15,e16,e17])<;>rfl⟩) fun g ww hq=>?_
  obtain ⟨T1,T2,hs1,hs2,hq⟩:=hq;refine D2.run_ft (zpm (g 15).b 5 (uf m (g 11) (g 14)) (show 5≤1000 by decide)) (zpn hq (List.mem_cons_self ..) (show 5≤1000 by decide)) kr ?_;rintro _ _ w' ⟨b',c',cur,rfl,rfl,hr⟩ hT;exact ⟨{ b:=b',cap:=c',cur:=cur },rfl,T1,T2,hs1,hs2,hr,(St.addAll hq hT).sub (List.Sublist.cons_cons _ (List.sublist_cons_self ..))⟩
 ·refine D2.gv_chn 17 5 (fun L hN=>by
   have e17:=hN.1;have e16:=hN.bef 16 kr;have e15:=hN.back e16 (show D2.edge _ 15 16=true by kernel_rfl);have e14:=hN.back e15 (show D2.edge _ 14 15=true by kernel_rfl);have e11:=hN.back e14 (show D2.edge _ 11 14=true by kernel_rfl);have e2:=hN.back e11 (show D2.edge _ 2 11=true by kernel_rfl)
   exact ⟨by (simp [D2.stg,e2,e11,e14,e15,e16,e17])<;>rfl,by (simp [D2.stg,D2.put1,e2,e11,e14,e15,e16,e17])<;>rfl⟩) fun g ww hq=>?_
  obtain ⟨T1,T2,hs1,hs2,hr,hq⟩:=hq;exact D2.run_sto (t:=44) (x:=.tmp 2) (y:=.tmp 27) (b:=(gs1 1).b) (off:=0) (C:=#[.bool false,.string emB,.slice none 0 0]) (C':=#[.bool true,.string emB,.slice (some ⟨(g 16).b,0,none⟩) 5 (g 16).cap]) (T:=44) (v:=.agg #[.bool true,.string emB,.slice (some ⟨(g 16).b,0,none⟩) 5 (g 16).cap]) kr kr kr kr kr (St.get hq 2 kr) (Nat.le_of_ble_eq_true kr) kr ⟨default,rfl,T1,T2,hs1,hs2,hr,St.store (C:=#[.bool false,.string emB,.slice none 0 0]) (T:=44) hq 2 kr⟩
 intro L1 g w5 hall hp9;obtain ⟨T1,T2,hs1,hs2,hr,H9⟩:=hp9.fin (fun k hk=>hall k (by simp at hk;rcases hk with rfl | rfl | rfl | rfl | rfl | rfl<;>exact Nat.le_of_ble_eq_true kr));refine wW<|rRr [.cell 2 44] [2] (.agg #[.bool true,.string emB,.slice (some ⟨(g 16).b,0,none⟩) 5 (g 16).cap]) (zU w.heap.size w (ziQ m)) H9 kr ?_;refine ⟨((g 16).b,.cells (g 16).cur 44 (0,0))::(T1++T2),⟨(g 16).b,(g 16).cap,rfl,?_⟩,H9.sub (List.Sublist.cons_cons _ ((List.sublist_cons_self ..).trans (List.sublist_cons_self ..)))⟩;rw [zdU] at hr;refine hr.slIn (ty:=44) (fz:=(0,0)) (List.mem_cons_self ..) (fun x hx=>?_) (by decide);have z0:emB.size≤0x800000000000:=Nat.zero_le _;have z1:=ziq r;have z2:=zcv m.sl;have z3:=o.bk;unfold uf at hx;simp only [List.mem_cons,List.not_mem_nil,or_false] at hx;rcases hx with rfl | rfl | rfl | rfl | rfl
 ·exact ⟨zbY _ _,by show (zG m.n).size≤_;omega⟩
 ·exact ⟨zbY _ _,by show (slB m.sl).size≤_;omega⟩
 ·exact ⟨zbY _ _,by show m.bk.size≤_;omega⟩
 ·exact ⟨hs1.mono fun e he=>by simp [he],z0⟩
 ·exact ⟨hs2.mono fun e he=>by simp [he],z0⟩
noncomputable def je (m:Mg):ByteArray×Nat:=if xk m=true then mgW m else (em,1)
theorem ziR {m:Mg}(h:(je m).2≠0):(je m).1=em:=by
 unfold je at h ⊢;split
 ·rename_i e;rw [if_pos e] at h;exact zoX h
 ·rfl
theorem ziS (m:Mg)(o:jP m)(p:Option Addr)(n c:Nat)(q:Option Addr)(k d:Nat)(l1:m.cs.length≤1000)(l2:m.ps.length≤1000):FnP Tryz.prog 5 #[mgV m p n c q k d] (fun w=>qw w m p n q k∧Ke.Marks w) (xA (je m)):=by
 have hW:=zpk m o p n c q k d (by omega) (by omega);unfold je;refine FnP.intro (c:=zd Tryz.f5) [.tmp 2,.tmp 3] 12 Tryz.func5 kr kr kr fun w hP=>rS [.b,.v,.v] (St.start w) kr fun gs1 w1 H1=>zb kr ?_;by_cases e:xk m=true
 ·rw [if_pos e];rw [e] at hW;have hr:=e;unfold xk at hr;simp only [Bool.and_eq_true] at hr;have hc:=zaC hr.2.2;refine rS [.l 0,.cp hW [] (fun w hb _=>⟨hP.1.call hb,yv hP.2 hb⟩),.v] H1 kr fun gs2 w2 H2=>zI<|wW<|zh [0,1,2,3,4,5,6] kr kr<|rp [.l 0] H2 kr fun gs3 w3 H3=>wX [1,2,3,4,5,6] ?_;have H4:St w.heap.size w w3 [((gs1 0).b,mgO m p n c q k d)]:=H3.as kr;refine qo H4 (some 8) 12 #[mgV m p n c q k d] (zpI m o hr.1 hc.1 hc.2 l1 l2 p n c q k d) (hP.1.call H4.below) kr kr ?_;rintro _ T w4 ⟨b,cb,rfl,hsl⟩ H5;refine qm H5 (some 9) 11 #[.agg #[.bool true,.string emB,.slice (some ⟨b,0,none⟩) 5 cb]] _ _ (zgv true emB (some ⟨b,0,none⟩) 5 cb (mgI m) (Nat.zero_le _)) (hsl.at H5 fun e he=>List.mem_append_left _ he) (fun w=>by kernel_rfl) kr ?_;intro w5 H6;have H7:St w.heap.size w w5 [((gs1 0).b,mgO m p n c q k d)]:=H6.sub (List.sublist_append_right _ _);refine rp [.v,.v,.v,.v] H7 kr fun gs8 w6 H8=>wX []<|zc<|wW ?_;exact rR [.tmp 2,.tmp 3] [] (xA (mgW m)) H8 kr
 ·rw [if_neg e];rw [Bool.not_eq_true] at e;rw [e] at hW;refine rS [.l 0,.cp hW [] (fun w hb _=>⟨hP.1.call hb,yv hP.2 hb⟩),.v] H1 kr fun gs2 w2 H2=>zV<|rS [.v,.v] H2 kr fun gs3 w3 H3=>?_;exact rR [.tmp 2,.tmp 3] [] (xA (em,1)) H3 kr
end Go.Proofs.YtpghmdbjmigjlaaGreatDoor
namespace Go.Proofs.Sha
open Go Go.Proofs.YtpghmdbjmigjlaaGreatDoor
set_option linter.unusedVariables false
abbrev W:=BitVec 32
def nth (s:List W)(i:Nat):W:=s.getD i 0
def rr (x:W)(n:Nat):W:=x <<< (32-n) ||| x >>> n
def tri (x:W)(i j k:Nat):W:=rr x i ^^^ rr x j ^^^ rr x k
def mov (x:W)(i j k:Nat):W:=rr x i ^^^ rr x j ^^^ x >>> k
def nxt (l:List W)(t:Nat):W:=nth l (t-16)+mov (nth l (t-15)) 7 18 3+nth l (t-7)+mov (nth l (t-2)) 17 19 10
def fix (n:Nat)(f:Nat→W):List W:=(List.range n).map f
theorem zpJ (n:Nat)(f:Nat→W):(fix n f).length=n:=by unfold fix;simp
theorem kD {n:Nat}{f:Nat→W}(j:Nat):nth (fix n f) j=if j<n then f j else 0:=by
 unfold nth fix;rw [List.getD_eq_getElem?_getD,List.getElem?_map];by_cases h:j<n
 ·simp [h]
 ·simp [h,List.getElem?_eq_none (show (List.range n).length≤j by simp;omega)]
def zB (b:List W):Nat→List W
 | 0=>fix 16 (nth b)
 | k+1=>zB b k++ [nxt (zB b k) (16+k)]
theorem ziT (b:List W): ∀k,(zB b k).length=16+k
 | 0=>zpJ _ _
 | k+1=>by unfold zB;rw [List.length_append,ziT b k];rfl
theorem zpK (l:List W)(x:W)(j:Nat):nth (l++ [x]) j=if j=l.length then x else nth l j:=by
 unfold nth;rw [List.getD_eq_getElem?_getD,List.getD_eq_getElem?_getD];rcases Nat.lt_trichotomy j l.length with h | h | h
 ·rw [List.getElem?_append_left h,if_neg (by omega)]
 ·subst h;simp
 ·rw [if_neg (by omega),List.getElem?_eq_none (by simp;omega),List.getElem?_eq_none (by omega)]
theorem zpL (b:List W)(k j:Nat):nth (zB b (k+1)) j=if j=16+k then nxt (zB b k) (16+k) else nth (zB b k) j:=by
 show nth (zB b k++ [_]) j=_;rw [zpK,ziT]
structure S8 where
 (a b c d e f g h:W)
def t1 (q:S8)(k w:W):W:=q.h+tri q.e 6 11 25+(q.e &&& q.f ||| ~~~q.e &&& q.g)+k+w
def t2 (q:S8):W:=tri q.a 2 13 22+(q.a &&& q.b ||| q.a &&& q.c ||| q.b &&& q.c)
def stp (q:S8)(k w:W):S8:=⟨t1 q k w+t2 q,q.a,q.b,q.c,q.d+t1 q k w,q.e,q.f,q.g⟩
def yt:List W:=[0x428A2F98,0x71374491,0xB5C0FBCF,0xE9B5DBA5,0x3956C25B,0x59F111F1,0x923F82A4,0xAB1C5ED5,0xD807AA98,0x12835B01,0x243185BE,0x550C7DC3,0x72BE5D74,0x80DEB1FE,0x9BDC06A7,0xC19BF174,0xE49B69C1,0xEFBE4786,0x0FC19DC6,0x240CA1CC,0x2DE92C6F,0x4A7484AA,0x5CB0A9DC,0x76F988DA,0x983E5152,0xA831C66D,0xB00327C8,0xBF597FC7,0xC6E00BF3,0xD5A79147,0x06CA6351,0x14292967,0x27B70A85,0x2E1B2138,0x4D2C6DFC,0x53380D13,0x650A7354,0x766A0ABB,0x81C2C92E,0x92722C85,0xA2BFE8A1,0xA81A664B,0xC24B8B70,0xC76C51A3,0xD192E819,0xD6990624,0xF40E3585,0x106AA070,0x19A4C116,0x1E376C08,0x2748774C,0x34B0BCB5,0x391C0CB3,0x4ED8AA4A,0x5B9CCA4F,0x682E6FF3,0x748F82EE,0x78A5636F,0x84C87814,0x8CC70208,0x90BEFFFA,0xA4506CEB,0xBEF9A3F7,0xC67178F2]
def run (ks ws:List W)(q:S8):Nat→S8
 | 0=>q
 | t+1=>stp (run ks ws q t) (nth ks t) (nth ws t)
def of8 (s:List W):S8:=⟨nth s 0,nth s 1,nth s 2,nth s 3,nth s 4,nth s 5,nth s 6,nth s 7⟩
def ql (q:S8):List W:=[q.a,q.b,q.c,q.d,q.e,q.f,q.g,q.h]
def ug (s b:List W):List W:=fix 8 fun i=>nth s i+nth (ql (run yt (zB b 48) (of8 s) 64)) i
def put (b:List W)(k:Nat)(x:W):List W:=fix 16 fun j=>if j=k then x else nth b j
theorem zpM (b:List W)(k:Nat)(x:W)(j:Nat)(hj:j<16):nth (put b k x) j=if j=k then x else nth b j:=by
 unfold put;rw [kD,if_pos hj]
def zpN (b:List W)(a:Nat)(v:Nat):W:=nth b (a / 4) ||| BitVec.ofNat 32 v <<< (8*(3-a%4))
def lay (b:List W)(a:Nat)(v:Nat):List W:=put b (a / 4) (zpN b a v)
structure Pd where
 s:List W
 b:List W
 n:Nat
def step1 (p:Pd)(v:UInt8):Pd:=
 if (p.n+1)%64=0 then ⟨ug p.s (lay p.b (p.n%64) v.toNat),[],p.n+1⟩ else ⟨p.s,lay p.b (p.n%64) v.toNat,p.n+1⟩
def takeB (p:Pd)(l:List UInt8):Pd:=l.foldl step1 p
theorem takeB_append (p:Pd)(a b:List UInt8):takeB p (a++b)=takeB (takeB p a) b:=List.foldl_append
theorem zpO (p:Pd)(v:UInt8):(step1 p v).n=p.n+1:=by unfold step1;split<;>rfl
theorem zcy: ∀(l:List UInt8) (p:Pd),(takeB p l).n=p.n+l.length
 | [],p=>rfl
 | v::l,p=>by
  show (takeB (step1 p v) l).n=_;rw [zcy l,zpO,List.length_cons];omega
def beg:Pd:=⟨[0x6A09E667,0xBB67AE85,0x3C6EF372,0xA54FF53A,0x510E527F,0x9B05688C,0x1F83D9AB,0x5BE0CD19],[],0⟩
def kE (n:Nat):List UInt8:=128::(List.replicate (63-(n+8)%64) 0++(List.range 8).map fun i=>UInt8.ofNat (8*n / 2^(8*(7-i))))
theorem zpP (n:Nat):(kE n).length≤72:=by unfold kE;simp<;>omega
def zcz (s:List W)(i:Nat):BitVec 8:=BitVec.setWidth 8 (nth s (i / 4) >>> (8*(3-i%4)))
def uh (s:List W):List UInt8:=(List.range 32).map fun i=>UInt8.ofBitVec (zcz s i)
theorem zpQ (s:List W):(uh s).length=32:=by unfold uh;simp
def endB (p:Pd):List UInt8:=uh (takeB p (kE p.n)).s
theorem ziU (p:Pd):(endB p).length=32:=zpQ _
def yI (key:List UInt8)(m:BitVec 8):List UInt8:=(List.range 64).map fun i=>UInt8.ofBitVec ((key.getD i 0).toBitVec ^^^ m)
theorem ziV (key:List UInt8)(m:BitVec 8):(yI key m).length=64:=by unfold yI;simp
def zeB (k l:List UInt8):List UInt8:=endB (takeB (takeB beg (yI k 92)) (endB (takeB (takeB beg (yI k 54)) l)))
end Go.Proofs.Sha
namespace Go.Proofs.YtpghmdbjmigjlaaGreatDoor.Sh
open Go Go.RowKit Go.Proofs.Sha
set_option linter.unusedVariables false
set_option maxRecDepth 100000
set_option maxHeartbeats 4000000
section
variable {P:Program}{N:Nat}{c:Code}{Q:Exit→Env→World→Prop}{ρ:Env}{w:World}
theorem zaG (ti tc tj b0 b1 n:Nat)(I:Nat→Env→World→Prop)
 (h0:I 0 ρ w) (hb: ∀i ρ w,i<n→I i ρ w→WP P N (uZ c) (zdo ti b0 b1 (fun ρ=>upd (upd ρ tj (iN (i+1))) ti (iN (i+1))) I Q i) (upd ρ tc (.bool true)) w)
 (he: ∀ρ w,I n ρ w→Q .normal (upd ρ tc (.bool false)) w) (hI: ∀i ρ w,I i ρ w→ρ ti=iN i:=by rintro i _ ww ⟨_,_,rfl⟩;exact kr) (hn:n≤0x4000000000000000:=by decide)
 (hs:zbt 1 2 b0 b1 tc c=true:=by kernel_rfl) (hx:qU (zq (jl c))=.tmp tc:=by kernel_rfl)
 (ht: ∀(ρ0:Env) (i:Nat) w,opv P (zg (uY c)) 0 (upd ρ0 ti (iN i)) w=some (some tc,true,.ok (.value (.bool (decide ((i:Int)<(n:Int))))) w):=by exact fun ρ0 i w=>by kernel_rfl)
 (hj: ∀(ρ0:Env) (i:Nat) w,opv P (zg (kX c)) 0 (upd ρ0 ti (iN i)) w=some (some tj,true,.ok (.value (.int .i64 (IntKind.i64.wrap ((i:Int)+1)))) w):=by exact fun ρ0 i w=>by kernel_rfl)
 (hk: ∀(ρ0:Env) (v:Value) w,opv P (zg (kX c)) 1 (upd ρ0 tj v) w=some (some ti,true,.ok (.value v) w):=by exact fun ρ0 v w=>by kernel_rfl)
 (hd:(dOK (some tc) N&&(dOK (some tj) N&&dOK (some ti) N))=true:=by kernel_rfl):WP P N c Q ρ w:=by
 simp only [Bool.and_eq_true] at hd;refine zf1 (ti:=ti) (tst:=fun i ρ=>upd ρ tc (.bool (decide ((i:Int)<(n:Int))))) (inc:=fun i ρ=>upd (upd ρ tj (iN (i+1))) ti (iN (i+1))) (n:=n) I hs hx (fun i ρ w K h k=>?_) (fun i ρ w h=>?_) (fun i ρ w K hi h k=>?_) h0 (fun i ρ w hi h=>?_) (fun ρ w h=>?_)
 ·have e:upd ρ ti (iN i)=ρ:=xS (hI i ρ w h);refine zj (some tc) _ (fun w=>e▸ht ρ i w) hd.1 ?_;exact zc k
 ·show upd ρ tc _ tc=_;unfold upd;rw [Nat.beq_refl];rfl
 ·have e:upd ρ ti (iN i)=ρ:=xS h;refine qN (some tj) _ (iN (i+1)) (fun w=>e▸hj ρ i w) (zk (yF (a:=i) (b:=1) (by omega))) hd.2.1<|zj (some ti) (iN (i+1)) (fun w=>hk ρ (iN (i+1)) w) hd.2.2 ?_;exact zc k
 ·show WP P N (uZ c) _ (upd ρ tc (.bool (decide ((i:Int)<(n:Int))))) w;rw [decide_eq_true (show (i:Int)<(n:Int) by omega)];exact hb i ρ w hi h
 ·show Q .normal (upd ρ tc (.bool (decide ((n:Int)<(n:Int))))) w;rw [decide_eq_false (show ¬(n:Int)<(n:Int) by omega)];exact he ρ w h
end
abbrev uW (x:W):Value:=.int .u32 (BitVec.toNat x:Int)
def arr (n:Nat)(s:List W):Value:=.agg (zZ n fun i=>.int .u32 (BitVec.toNat (nth s i):Int)).toArray
theorem ui {n:Nat}(s:List W){k off:Nat}(ho:off=0+k*1)(hk:k<n):(Value.cells (arr n s))[off]? =some (.int .u32 (BitVec.toNat (nth s k):Int)):=
 zc5 (pre:=[]) (post:=[]) (n:=n) (f:=fun j=>.int .u32 (BitVec.toNat (nth s j):Int)) (by show zZ n _=[]++zZ n _++ [];simp) (by simpa using ho) hk
theorem ziW {n:Nat}{s t:List W}{k off:Nat}{x:W}(ho:off=0+k*1)(hk:k<n)(hg: ∀j,j<n→nth t j=if j=k then x else nth s j):
 ((Value.cells (arr n s)).toList.take off++(Value.int .u32 (BitVec.toNat x:Int)).cells.toList++(Value.cells (arr n s)).toList.drop (off+(Value.int .u32 (BitVec.toNat x:Int)).cells.size)).toArray=Value.cells (arr n t):=by
 rw [zc6 (pre:=[]) (post:=[]) (n:=n) (f:=fun j=>.int .u32 (BitVec.toNat (nth s j):Int)) (g:=fun j=>.int .u32 (BitVec.toNat (nth t j):Int)) (by show zZ n _=[]++zZ n _++ [];simp) rfl (by simpa using ho) hk (fun j hj=>by rw [hg j hj];split<;>rfl)];simp;rfl
theorem ziX {n:Nat}{s t:List W}(h: ∀j,j<n→nth s j=nth t j):arr n s=arr n t:=by
 unfold arr;rw [zj7 (fun j hj=>by rw [h j hj])]
theorem zpR (n:Nat)(s:List W)(q:Nat): ∀u∈List.take q (Array.toList (Value.cells (arr n s))),u.oneCell'=true:=fun u hu=>
 zj9 (n:=n) (f:=fun i=>.int .u32 (BitVec.toNat (nth s i):Int)) (fun _ _=>rfl) u (List.mem_of_mem_take hu)
def pdV (p:Pd):Value:=.agg ((zZ 8 fun i=>.int .u32 (BitVec.toNat (nth p.s i):Int))++(zZ 16 fun i=>.int .u32 (BitVec.toNat (nth p.b i):Int))++ [Value.int .u64 ((p.n:Nat):Int)]).toArray
theorem zpS (p:Pd){k off:Nat}(ho:off=8+k*1)(hk:k<16):(Value.cells (pdV p))[off]? =some (.int .u32 (BitVec.toNat (nth p.b k):Int)):=
 zc5 (C:=Value.cells (pdV p)) (off:=off) (pre:=zZ 8 fun i=>.int .u32 (BitVec.toNat (nth p.s i):Int)) (post:=[Value.int .u64 ((p.n:Nat):Int)]) (n:=16) (f:=fun j=>.int .u32 (BitVec.toNat (nth p.b j):Int)) rfl (by rw [xv];exact ho) hk
theorem zpT (p:Pd){k off:Nat}{x:W}(ho:off=8+k*1)(hk:k<16):
 ((Value.cells (pdV p)).toList.take off++(Value.int .u32 (BitVec.toNat x:Int)).cells.toList++(Value.cells (pdV p)).toList.drop (off+(Value.int .u32 (BitVec.toNat x:Int)).cells.size)).toArray=Value.cells (pdV ⟨p.s,put p.b k x,p.n⟩):=
 zc6 (C:=Value.cells (pdV p)) (off:=off) (v:=Value.int .u32 (BitVec.toNat x:Int)) (pre:=zZ 8 fun i=>.int .u32 (BitVec.toNat (nth p.s i):Int)) (post:=[Value.int .u64 ((p.n:Nat):Int)]) (n:=16) (f:=fun j=>.int .u32 (BitVec.toNat (nth p.b j):Int)) (g:=fun j=>.int .u32 (BitVec.toNat (nth (put p.b k x) j):Int)) rfl rfl (by rw [xv];exact ho) hk
  (fun j hj=>by rw [zpM _ _ _ _ hj];split<;>rfl)
def rootsC:Array Value:=#[.int .u32 1116352408,.int .u32 1899447441,.int .u32 3049323471,.int .u32 3921009573,.int .u32 961987163,.int .u32 1508970993,.int .u32 2453635748,.int .u32 2870763221,.int .u32 3624381080,.int .u32 310598401,.int .u32 607225278,.int .u32 1426881987,.int .u32 1925078388,.int .u32 2162078206,.int .u32 2614888103,.int .u32 3248222580,.int .u32 3835390401,.int .u32 4022224774,.int .u32 264347078,.int .u32 604807628,.int .u32 770255983,.int .u32 1249150122,.int .u32 1555081692,.int .u32 1996064986,.int .u32 2554220882,.int .u32 2821834349,.int .u32 2952996808,.int .u32 3210313671,.int .u32 3336571891,.int .u32 3584528711,.int .u32 113926993,.int .u32 338241895,.int .u32 666307205,.int .u32 773529912,.int .u32 1294757372,.int .u32 1396182291,.int .u32 1695183700,.int .u32 1986661051,.int .u32 2177026350,.int .u32 2456956037,.int .u32 2730485921,.int .u32 2820302411,.int .u32 3259730800,.int .u32 3345764771,.int .u32 3516065817,.int .u32 3600352804,.int .u32 4094571909,.int .u32 275423344,.int .u32 430227734,.int .u32 506948616,.int .u32 659060556,.int .u32 883997877,.int .u32 958139571,.int .u32 1322822218,.int .u32 1537002063,.int .u32 1747873779,.int .u32 1955562222,.int .u32 2024104815,.int .u32 2227730452,.int .u32 2361852424,.int .u32 2428436474,.int .u32 2756734187,.int .u32 3204031479,.int .u32 3329325298]
theorem zpU:rootsC=(Value.cells (arr 64 yt)):=kr
theorem zpV {k off:Nat}(ho:off=0+k*1)(hk:k<64):rootsC[off]? =some (.int .u32 (BitVec.toNat (nth yt k):Int)):=by rw [zpU];exact ui yt ho hk
def Roots (w:World):Prop:=∃T fz,w.heap[1]? =some (.cells rootsC T fz)
theorem zpW (n:Nat)(h0:0<n)(hn:n<32):IntKind.u64.wrap (-(n:Int))=((0x10000000000000000-n:Nat):Int):=by rw [zc1];omega
theorem zpX (n:Nat)(h0:0<n)(hn:n<32):Go.bits .and .u64 ((0x10000000000000000-n:Nat):Int) 31=((32-n:Nat):Int):=by
 rw [show (31:Int)=((31:Nat):Int) from rfl,u64_and_nat _ 31 (by omega) (by omega),show (31:Nat)=2^5-1 from rfl,Nat.and_two_pow_sub_one_eq_mod];congr 1;omega
theorem rotl_fn (x:W)(n:Nat)(h0:0<n)(hn:n<32):Fn Tryz.prog 191 #[uW x,.int .i64 (-(n:Int))] (uW (rr x n)):=by
 refine Fn.intro (c:=zd Tryz.f191) [.tmp 4] 17 Tryz.func191 kr kr kr fun w=>rS [.v] (St.start w) kr fun gs1 w1 H1=>rS [.v,.E (.int .u64 (IntKind.u64.wrap (-(n:Int)))) (.int .u64 ((0x10000000000000000-n:Nat):Int)) (zk (zpW n h0 hn)),.E (.int .u64 (Go.bits .and .u64 ((0x10000000000000000-n:Nat):Int) 31)) (.int .u64 ((32-n:Nat):Int)) (zk (zpX n h0 hn)),.v] H1 kr fun gs2 w2 H2=>rS [.v,.v,.e (zfy x (32-n)),.v,.v,.E (.int .u64 (IntKind.u64.wrap (32-((32-n:Nat):Int)))) (.int .u64 ((32-(32-n):Nat):Int)) (zk (za1 (a:=32) (b:=32-n) (by omega))),.e (zc3 x (32-(32-n))),.e (uM (x <<< (32-n)) (x >>> (32-(32-n)))),.v] H2 kr fun gs3 w3 H3=>?_;exact rRe [.tmp 4] [] H3 (show uW (x <<< (32-n) ||| x >>> (32-(32-n)))=uW (rr x n) from by rw [show 32-(32-n)=n by omega];rfl) kr
theorem zaH (x:W)(n:Nat)(h0:0<n)(hn:n<32):Fn Tryz.prog 181 #[uW x,iN n] (uW (rr x n)):=by
 refine Fn.intro (c:=zd Tryz.f181) [.tmp 4] 9 Tryz.func181 kr kr kr fun w=>rS [.v] (St.start w) kr fun gs1 w1 H1=>rS [.v,.v,.E (.int .i64 (IntKind.i64.wrap (0-(n:Int)))) (.int .i64 (-(n:Int))) (zk (zke (by omega) (by omega))),.c (rotl_fn x n h0 hn),.v] H1 kr fun gs2 w2 H2=>?_;exact rR [.tmp 4] [] (uW (rr x n)) H2 kr
abbrev inW (i:Nat):Prop:=0<i∧i<32
theorem ziY (x:W)(i j k:Nat)(hi:inW i)(hj:inW j)(hk:inW k):Fn Tryz.prog 166 #[uW x,iN i,iN j,iN k] (uW (tri x i j k)):=by
 refine Fn.intro (c:=zd Tryz.f166) [.tmp 8] 20 Tryz.func166 kr kr kr fun w=>rS [.v] (St.start w) kr fun gs1 w1 H1=>rS [.v,.v,.c (zaH x i hi.1 hi.2),.v,.v,.c (zaH x j hj.1 hj.2),.e (uK (rr x i) (rr x j)),.v,.v,.c (zaH x k hk.1 hk.2),.e (uK (rr x i ^^^ rr x j) (rr x k)),.v] H1 kr fun gs2 w2 H2=>?_;exact rR [.tmp 8] [] (uW (tri x i j k)) H2 kr
theorem ziZ (x:W)(i j k:Nat)(hi:inW i)(hj:inW j)(hk:inW k):Fn Tryz.prog 180 #[uW x,iN i,iN j,iN k] (uW (mov x i j k)):=by
 refine Fn.intro (c:=zd Tryz.f180) [.tmp 8] 20 Tryz.func180 kr kr kr fun w=>rS [.v] (St.start w) kr fun gs1 w1 H1=>dS [.v,.v,.c (zaH x i hi.1 hi.2),.v,.v,.c (zaH x j hj.1 hj.2),.e (uK (rr x i) (rr x j)),.v,.v,.e (zc3 x k),.e (uK (rr x i ^^^ rr x j) (x >>> k)),.v] H1 kr fun w2 H2=>?_;exact rR [.tmp 8] [] (uW (mov x i j k)) H2 kr
theorem zpY (b:List W):Fn Tryz.prog 165 #[arr 16 b] (arr 64 (zB b 48)):=by
 refine Fn.intro (c:=zd Tryz.f165) [.cell 2 232] 39 Tryz.func165 kr kr kr fun w=>?_;have H0:=St.start w;refine rS [.b,.a] H0 kr fun gs1 w1 H1=>?_
 refine dS [.o (ins:=[(.tmp 2,pB (gs1 1).b)]) (v:=.slice (some ⟨(gs1 1).b,0,none⟩) 64 64) (fun ρ o w ho hi=>kQ (t:=232) (n:=64) (e:=156) (z:=1) kr kr (x:=.tmp 2) (gs1 1).b ho hi.1 w),.o (ins:=[(.tmp 1,pB (gs1 0).b)]) (v:=.slice (some ⟨(gs1 0).b,0,none⟩) 16 16) (fun ρ o w ho hi=>kQ (t:=158) (n:=16) (e:=156) (z:=1) kr kr (x:=.tmp 1) (gs1 0).b ho hi.1 w),
  .g [(.tmp 6,.slice (some ⟨(gs1 1).b,0,none⟩) 64 64),(.tmp 7,.slice (some ⟨(gs1 0).b,0,none⟩) 16 16)] (kP 251 251 (.tmp 6) (.tmp 7)) [(1,((gs1 1).b,.cells (Value.cells (kT .u32 64)) 232 (0,0))),(0,((gs1 0).b,.cells (Value.cells (arr 16 b)) 158 (0,0)))] (fun _=>iN 16) (.turn 1 (.cells (Value.cells (arr 64 (zB b 0))) 232 (0,0)))
   (fun ρ o w ho hi hd hb=>by
    rw [zkb (e:=156) (bytes:=4) (cs:=List.take 16 (Value.cells (arr 16 b)).toList) (q:=16) (C':=Value.cells (arr 64 (zB b 0))) kr hi.1 hi.2.1 hd.1 hd.2.1 kr rfl kr (zpR 16 b 16) (of_decide_eq_true kr) kr o ho]
    exact ⟨default,rfl,_,rfl,D2.grownBy_setRow w _ _,setRow_heap w _ _ _ _ _ hd.1⟩)] H1 kr fun w2 H2=>?_
 refine zb kr<|rS [.v] H2 kr fun gs3 w3 H3=>zu 0 kr<|yD kr (fun m ρ x=> ∃(k:Nat),48-k=m∧k≤48∧St w.heap.size w x [((gs1 0).b,.cells (Value.cells (arr 16 b)) 158 (0,0)),((gs1 1).b,.cells (Value.cells (arr 64 (zB b k))) 232 (0,0))]∧Is [(2,pB (gs1 1).b),(3,iN (16+k))] ρ) 48 ⟨0,rfl,by omega,H3.as kr,isK⟩ ?_;clear H0 H1 H2 H3;rintro _ _ w4 ⟨k,rfl,hk,H4,_,rfl⟩;refine zb kr ?_;by_cases hc:k<48
 ·refine rS [.v,.E (.bool (decide (((16+k:Nat):Int)<64))) (.bool true) (za (decide_eq_true (by omega)))] H4 kr fun gs5 w5 H5=>zi kr kr<|zp kr<|wW<|zb kr<|zu 1 kr ?_;have LD: ∀d,(h:16+k-d<64)→(Value.cells (arr 64 (zB b k)))[0+(16+k-d)*1]? =some (uW (nth (zB b k) (16+k-d))):=fun d h=>ui _ rfl h;refine dS [.v,.E (.int .i64 (IntKind.i64.wrap (((16+k:Nat):Int)-15))) (iN (16+k-15)) (zk (xu (a:=16+k) (b:=15) (by omega))),.o (ins:=[(.tmp 2,.pointer (some ⟨(gs1 1).b,0,none⟩)),(.tmp 14,.int .i64 ((16+k-15:Nat):Int))]) (v:=.pointer (some ⟨(gs1 1).b,0+(16+k-15)*1,none⟩)) (fun ρ o w ho hi=>yy (kd:=.i64) (t:=232) (n:=64) (size:=1) kr (x:=.tmp 2) (y:=.tmp 14) ((gs1 1).b) 0 (16+k-15) ho hi.1 hi.2.1 (by omega) w),.ls 1 (LD 15 (by omega)),.v,.E (.int .i64 (IntKind.i64.wrap (((16+k:Nat):Int)-2))) (iN (16+k-2)) (zk (xu (a:=16+k) (b:=2) (by omega))),.o (ins:=[(.tmp 2,.pointer (some ⟨(gs1 1).b,0,none⟩)),(.tmp 18,.int .i64 ((16+k-2:Nat):Int))]) (v:=.pointer (some ⟨(gs1 1).b,0+(16+k-2)*1,none⟩)) (fun ρ o w ho hi=>yy (kd:=.i64) (t:=232) (n:=64) (size:=1) kr (x:=.tmp 2) (y:=.tmp 18) ((gs1 1).b) 0 (16+k-2) ho hi.1 hi.2.1 (by omega) w),.ls 1 (LD 2 (by omega)),.v,.v] H5 kr fun w6 H6=>?_
  refine dL [.v,.v,.E (.int .i64 (IntKind.i64.wrap (((16+k:Nat):Int)-16))) (iN (16+k-16)) (zk (xu (a:=16+k) (b:=16) (by omega))),.o (ins:=[(.tmp 2,.pointer (some ⟨(gs1 1).b,0,none⟩)),(.tmp 23,.int .i64 ((16+k-16:Nat):Int))]) (v:=.pointer (some ⟨(gs1 1).b,0+(16+k-16)*1,none⟩)) (fun ρ o w ho hi=>yy (kd:=.i64) (t:=232) (n:=64) (size:=1) kr (x:=.tmp 2) (y:=.tmp 23) ((gs1 1).b) 0 (16+k-16) ho hi.1 hi.2.1 (by omega) w),.ls 1 (LD 16 (by omega)),.v,.c (ziZ (nth (zB b k) (16+k-15)) 7 18 3 (by decide) (by decide) (by decide)),.e (jJ (nth (zB b k) (16+k-16)) (mov (nth (zB b k) (16+k-15)) 7 18 3)),.v,.E (.int .i64 (IntKind.i64.wrap (((16+k:Nat):Int)-7))) (iN (16+k-7)) (zk (xu (a:=16+k) (b:=7) (by omega))),.o (ins:=[(.tmp 2,.pointer (some ⟨(gs1 1).b,0,none⟩)),(.tmp 30,.int .i64 ((16+k-7:Nat):Int))]) (v:=.pointer (some ⟨(gs1 1).b,0+(16+k-7)*1,none⟩)) (fun ρ o w ho hi=>yy (kd:=.i64) (t:=232) (n:=64) (size:=1) kr (x:=.tmp 2) (y:=.tmp 30) ((gs1 1).b) 0 (16+k-7) ho hi.1 hi.2.1 (by omega) w),.ls 1 (LD 7 (by omega)),.e (jJ (nth (zB b k) (16+k-16)+mov (nth (zB b k) (16+k-15)) 7 18 3) (nth (zB b k) (16+k-7))),.v,.c (ziZ (nth (zB b k) (16+k-2)) 17 19 10 (by decide) (by decide) (by decide)),.e (jJ (nth (zB b k) (16+k-16)+mov (nth (zB b k) (16+k-15)) 7 18 3+nth (zB b k) (16+k-7)) (mov (nth (zB b k) (16+k-2)) 17 19 10)),.o (ins:=[(.tmp 2,.pointer (some ⟨(gs1 1).b,0,none⟩)),(.tmp 21,.int .i64 ((16+k:Nat):Int))]) (v:=.pointer (some ⟨(gs1 1).b,0+(16+k)*1,none⟩)) (fun ρ o w ho hi=>yy (kd:=.i64) (t:=232) (n:=64) (size:=1) kr (x:=.tmp 2) (y:=.tmp 21) ((gs1 1).b) 0 (16+k) ho hi.1 hi.2.1 (by omega) w),
   .se 1 (C:=Value.cells (arr 64 (zB b k))) (C':=Value.cells (arr 64 (zB b (k+1)))) (off:=0+(16+k)*1) (v:=uW (nxt (zB b k) (16+k))) (by show _+1≤64;omega) (ziW (k:=16+k) rfl (by omega) (fun j _=>zpL b k j))] H6 kr fun w7 H7=>?_
  refine wW<|rL [.v,.E (.int .i64 (IntKind.i64.wrap (((16+k:Nat):Int)+1))) (iN (16+k+1)) (zk (yF (a:=16+k) (b:=1) (by omega))),.v] H7 kr fun gs8 w8 H8=>?_;exact ⟨_,show 48-(k+1)<48-k by omega,k+1,rfl,by omega,H8.as kr,isK⟩
 ·obtain rfl:k=48:=by omega
  refine rS [.v,.v] H4 kr fun gs5 w5 H5=>zl kr kr<|ym 0 kr<|wW<|rS [.l 1,.s 1] H5 kr fun gs6 w6 H6=>?_;exact rR [.cell 2 232] [1] (arr 64 (zB b 48)) H6 kr
set_option maxRecDepth 100000
set_option maxHeartbeats 4000000
def acc (s l:List W)(i:Nat):List W:=fix 8 fun j=>if j<i then nth s j+nth l j else nth s j
theorem zpZ (s l:List W)(i j:Nat)(hj:j<8):nth (acc s l (i+1)) j=if j=i then nth (acc s l i) i+nth l i else nth (acc s l i) j:=by
 unfold acc;by_cases h:j=i
 ·subst h;rw [if_pos rfl,kD,kD,if_pos hj,if_pos hj,if_pos (by omega),if_neg (by omega)]
 ·rw [if_neg h,kD,kD,if_pos hj,if_pos hj];by_cases h2:j<i
  ·rw [if_pos (by omega),if_pos h2]
  ·rw [if_neg (by omega),if_neg h2]
theorem zp0 (s b:List W):FnP Tryz.prog 136 #[arr 8 s,arr 16 b] Roots (arr 8 (ug s b)):=by
 refine FnP.intro (c:=zd Tryz.f136) [.cell 4 157] 108 Tryz.func136 kr kr kr fun w hP=>?_;have H0:=St.start w;obtain ⟨T,fz,hP⟩:=hP;refine rS [.b,.b,.a] H0 kr fun gs1 w1 H1=>dS [.v,.l 0,.v,.l 0,.v,.l 0,.v,.l 0,.v,.v,.v,.v] H1 kr fun w2 H2=>dS [.v,.l 0,.v,.l 0,.v,.l 0,.v,.l 0,.v,.v,.v,.v] H2 kr fun w3 H3=>zb kr<|rS [.l 1,.c (zpY b),.v] H3 kr fun gs4 w4 H4=>zaG 37 38 86 0 1 64 (fun i ρ x=>St w.heap.size w x [((gs1 0).b,.cells (Value.cells (arr 8 s)) 157 (0,0)),((gs1 1).b,.cells (Value.cells (arr 16 b)) 158 (0,0)),((gs1 2).b,.cells (Value.cells (kT .u32 8)) 157 (0,0))]∧Is [(2,pB (gs1 0).b),(4,pB (gs1 2).b),(5,uW (run yt (zB b 48) (of8 s) i).a),(6,uW (run yt (zB b 48) (of8 s) i).b),(7,uW (run yt (zB b 48) (of8 s) i).c),(8,uW (run yt (zB b 48) (of8 s) i).d),(9,uW (run yt (zB b 48) (of8 s) i).e),(10,uW (run yt (zB b 48) (of8 s) i).f),(11,uW (run yt (zB b 48) (of8 s) i).g),(12,uW (run yt (zB b 48) (of8 s) i).h),(36,arr 64 (zB b 48)),(37,iN i)] ρ) ⟨H4.as kr,isK⟩ ?_ ?_
 ·clear H0 H1 H2 H3 H4;rintro i _ w5 hlt ⟨H5,_,rfl⟩;have hn:run yt (zB b 48) (of8 s) (i+1)=stp (run yt (zB b 48) (of8 s) i) (nth yt i) (nth (zB b 48) i):=rfl;generalize run yt (zB b 48) (of8 s) i=q at hn;refine rS [.v,.o (ins:=[(.tmp 36,arr 64 (zB b 48)),(.tmp 37,iN i)]) (v:=uW (nth (zB b 48) i)) (fun ρ o w ho hi=>zc7 (kd:=.i64) (t:=232) (n:=64) (e:=156) (x:=.tmp 36) (y:=.tmp 37) kr kr kr (Value.cells (arr 64 (zB b 48))) i _ ho hi.1 hi.2.1 (by omega) (ui _ rfl hlt) w),.v,.v] H5 kr fun gs6 w6 H6=>dS [.v,.v,.c (ziY q.e 6 11 25 (by decide) (by decide) (by decide)),.e (jJ (q.h) (tri q.e 6 11 25)),.v,.v,.e (uL (q.e) (q.f)),.v,.e (zka (q.e)),.v,.e (uL (~~~q.e) (q.g)),.e (uM (q.e &&& q.f) (~~~q.e &&& q.g)),.e (jJ (q.h+tri q.e 6 11 25) ((q.e &&& q.f ||| ~~~q.e &&& q.g))),.v,.o (ins:=[(.global 1,.pointer (some ⟨1,0,none⟩)),(.tmp 54,.int .i64 (i:Int))]) (v:=.pointer (some ⟨1,0+(i)*1,none⟩)) (fun ρ o w ho hi=>yy (kd:=.i64) (t:=232) (n:=64) (size:=1) kr (x:=.global 1) (y:=.tmp 54) (1) 0 (i) ho hi.1 hi.2.1 (by omega) w),.fs (off:=0+i*1) (v:=uW (nth yt i)) hP (zr hP) (zpV rfl hlt),.e (jJ (q.h+tri q.e 6 11 25+(q.e &&& q.f ||| ~~~q.e &&& q.g)) (nth yt i)),.v,.e (jJ (q.h+tri q.e 6 11 25+(q.e &&& q.f ||| ~~~q.e &&& q.g)+nth yt i) (nth (zB b 48) i)),.v] H6 kr fun w7 H7=>rS [.v,.c (ziY q.a 2 13 22 (by decide) (by decide) (by decide)),.v,.v,.e (uL (q.a) (q.b)),.v,.v,.e (uL (q.a) (q.c)),.e (uM (q.a &&& q.b) (q.a &&& q.c)),.v,.v,.e (uL (q.b) (q.c)),.e (uM (q.a &&& q.b ||| q.a &&& q.c) (q.b &&& q.c)),.e (jJ (tri q.a 2 13 22) (q.a &&& q.b ||| q.a &&& q.c ||| q.b &&& q.c)),.v] H7 kr fun gs8 w8 H8=>za0 [(2,pB (gs1 0).b),(4,pB (gs1 2).b),(5,uW (q).a),(6,uW (q).b),(7,uW (q).c),(8,uW (q).d),(9,uW (q).e),(10,uW (q).f),(11,uW (q).g),(12,uW (q).h),(15,uW (t1 q (nth yt i) (nth (zB b 48) i))),(16,uW (t2 q)),(36,arr 64 (zB b 48)),(37,iN i)] kr fun ρ9=>rS [.v,.v,.v,.v,.v,.e (jJ (q.d) (t1 q (nth yt i) (nth (zB b 48) i))),.v,.v,.v,.v] (H8.as (l:=[((gs1 0).b,.cells (Value.cells (arr 8 s)) 157 (0,0)),((gs1 1).b,.cells (Value.cells (arr 16 b)) 158 (0,0)),((gs1 2).b,.cells (Value.cells (kT .u32 8)) 157 (0,0))]) kr) kr fun gs9 w9 H9=>rL [.v,.v,.v,.v,.v,.e (jJ (t1 q (nth yt i) (nth (zB b 48) i)) (t2 q)),.v,.v,.v,.v] H9 kr fun gs10 w10 H10=>?_;refine ⟨kr,H10.as kr,?_⟩;rw [hn];exact isK
 ·clear H0 H1 H2 H3 H4;rintro _ w5 ⟨H5,_,rfl⟩;refine wW ?_;have hl: ∀i,nth (ql (run yt (zB b 48) (of8 s) 64)) i=nth (ql (run yt (zB b 48) (of8 s) 64)) i:=fun _=>rfl;have hb: ∀j,j<8→nth (acc s (ql (run yt (zB b 48) (of8 s) 64)) 8) j=nth (ug s b) j:=fun j hj=>by unfold acc ug;rw [kD,if_pos hj,if_pos hj,kD,if_pos hj]
  generalize run yt (zB b 48) (of8 s) 64=q at hb;refine zb kr<|rS [.v,.v,.v,.v,.v,.v,.v,.v,.v,.v] H5 kr fun gs6 w6 H6=>?_;have H7:St w.heap.size w w6 [((gs1 0).b,.cells (Value.cells (arr 8 (acc s (ql q) 0))) 157 (0,0)),((gs1 1).b,.cells (Value.cells (arr 16 b)) 158 (0,0)),((gs1 2).b,.cells (Value.cells (kT .u32 8)) 157 (0,0))]:=by
   have e:arr 8 (acc s (ql q) 0)=arr 8 s:=ziX fun j hj=>by unfold acc;rw [kD,if_pos hj,if_neg (by omega)]
   rw [e];exact H6.as kr
  refine zaG 96 97 106 2 3 8 (fun i ρ x=>St w.heap.size w x [((gs1 0).b,.cells (Value.cells (arr 8 (acc s (ql q) i))) 157 (0,0)),((gs1 1).b,.cells (Value.cells (arr 16 b)) 158 (0,0)),((gs1 2).b,.cells (Value.cells (kT .u32 8)) 157 (0,0))]∧Is [(2,pB (gs1 0).b),(4,pB (gs1 2).b),(95,arr 8 (ql q)),(96,iN i)] ρ) ⟨H7,isK⟩ ?_ ?_
  ·clear H5 H6 H7;rintro i _ w8 hlt ⟨H8,_,rfl⟩;refine rS [.v,.o (ins:=[(.tmp 95,arr 8 (ql q)),(.tmp 96,iN i)]) (v:=uW (nth (ql q) i)) (fun ρ o w ho hi=>zc7 (kd:=.i64) (t:=157) (n:=8) (e:=156) (x:=.tmp 95) (y:=.tmp 96) kr kr kr (Value.cells (arr 8 (ql q))) i _ ho hi.1 hi.2.1 (by omega) (ui _ rfl hlt) w),.v,.v] H8 kr fun gs9 w9 H9=>rL [.v,.o (ins:=[(.tmp 2,.pointer (some ⟨(gs1 0).b,0,none⟩)),(.tmp 100,.int .i64 (i:Int))]) (v:=.pointer (some ⟨(gs1 0).b,0+(i)*1,none⟩)) (fun ρ o w ho hi=>yy (kd:=.i64) (t:=157) (n:=8) (size:=1) kr (x:=.tmp 2) (y:=.tmp 100) ((gs1 0).b) 0 (i) ho hi.1 hi.2.1 (by omega) w),.ls 0 (ui (acc s (ql q) i) rfl hlt),.v,.e (jJ (nth (acc s (ql q) i) i) (nth (ql q) i)),.o (ins:=[(.tmp 2,.pointer (some ⟨(gs1 0).b,0,none⟩)),(.tmp 100,.int .i64 (i:Int))]) (v:=.pointer (some ⟨(gs1 0).b,0+(i)*1,none⟩)) (fun ρ o w ho hi=>yy (kd:=.i64) (t:=157) (n:=8) (size:=1) kr (x:=.tmp 2) (y:=.tmp 100) ((gs1 0).b) 0 (i) ho hi.1 hi.2.1 (by omega) w),.se 0 (C:=Value.cells (arr 8 (acc s (ql q) i))) (C':=Value.cells (arr 8 (acc s (ql q) (i+1)))) (off:=0+i*1) (v:=uW (nth (acc s (ql q) i) i+nth (ql q) i)) (by show _+1≤8;omega) (ziW rfl hlt fun j hj=>zpZ s (ql q) i j hj)] H9 kr fun gs10 w10 H10=>?_;exact ⟨kr,H10.as kr,isK⟩
  ·clear H5 H6 H7;rintro _ w8 ⟨H8,_,rfl⟩;refine wW<|rS [.l 0,.s 2] H8 kr fun gs9 w9 H9=>?_;exact rRe [.cell 4 157] [2] H9 (ziX hb) kr
set_option maxRecDepth 100000
set_option maxHeartbeats 4000000
theorem zp1 (q:Pd)(v:Nat)(u:UInt8)(hv:u.toNat=v)(h:(q.n+1)%64=0):step1 q u=Pd.mk (ug q.s (lay q.b (q.n%64) v)) [] (q.n+1):=by subst hv;exact if_pos h
theorem zp2 (q:Pd)(v:Nat)(u:UInt8)(hv:u.toNat=v)(h: ¬(q.n+1)%64=0):step1 q u=Pd.mk q.s (lay q.b (q.n%64) v) (q.n+1):=by subst hv;exact if_neg h
theorem zp3 {p q:Pd}{t:ByteArray}{k:Nat}(h:takeB p ((tl t).take k)=q)(hk:k<ByteArray.size t):takeB p ((tl t).take (k+1))=step1 q ((tl t).getD k 0):=by
 have hk':k<(tl t).length:=hk;rw [List.take_add_one,List.getElem?_eq_getElem hk',Option.toList_some,takeB_append,h,List.getD_eq_getElem?_getD,List.getElem?_eq_getElem hk'];rfl
def jG (n i:Nat):List UInt8:=128::(List.replicate (63-(n+8)%64) 0++(List.range i).map fun i=>UInt8.ofNat (8*n / 2^(8*(7-i))))
theorem zp4 (n i:Nat):jG n (i+1)=jG n i++ [UInt8.ofNat (8*n / 2^(8*(7-i)))]:=by
 unfold jG;rw [List.range_succ,List.map_append];simp
theorem zp5 (n i:Nat):(jG n i).length=1+(63-(n+8)%64)+i:=by unfold jG;simp;omega
theorem zp6 (n z:Nat)(h:1+(63-(n+8)%64)=z):List.set (List.replicate z 0) 0 (UInt8.ofBitVec (128:BitVec 8))=jG n 0:=by
 subst h;rw [Nat.add_comm 1,List.replicate_succ];unfold jG;simp
theorem zp7 (z:Nat):cellsB (List.replicate z 0)=List.replicate z (.int .u8 0):=by unfold cellsB;rw [List.map_replicate];rfl
theorem zp8 (K:List UInt8)(m:BitVec 8)(i j:Nat):(if j<i+1 then (K.getD j 0).toBitVec ^^^ m else (K.getD j 0).toBitVec)=if j=i then (if i<i then (K.getD i 0).toBitVec ^^^ m else (K.getD i 0).toBitVec) ^^^ m else if j<i then (K.getD j 0).toBitVec ^^^ m else (K.getD j 0).toBitVec:=by
 by_cases h:j=i
 ·subst h;rw [if_pos (by omega),if_pos rfl,if_neg (by omega)]
 ·rw [if_neg h];by_cases h2:j<i
  ·rw [if_pos (by omega),if_pos h2]
  ·rw [if_neg (by omega),if_neg h2]
def jw (K:List UInt8)(m:BitVec 8)(i j:Nat):BitVec 8:=if j<i then (K.getD j 0).toBitVec ^^^ m else (K.getD j 0).toBitVec
theorem zp9 (s:ByteArray)(m:BitVec 8)(h:s.size≤64):(cellsB (tl s)++List.drop s.size (List.replicate 64 (Value.int .u8 0))).toArray=Value.cells (yz 64 (jw (tl s) m 0)):=by
 show _=(zZ 64 _).toArray;congr 1;apply List.ext_getElem?;intro j;have hl:(tl s).length=s.size:=rfl;by_cases hj:j<64
 ·rw [za5 hj];show _=some (Value.int .u8 ((((tl s).getD j 0).toBitVec.toNat:Nat):Int));by_cases h1:j<s.size
  ·rw [List.getElem?_append_left (by rw [qh];exact h1),zkc (tl s) j h1];rfl
  ·rw [List.getElem?_append_right (by rw [qh];omega),List.getElem?_drop,qh,hl,show s.size+(j-s.size)=j by omega,List.getElem?_replicate,if_pos hj,
    List.getD_eq_getElem?_getD,List.getElem?_eq_none (by omega)];rfl
 ·rw [List.getElem?_eq_none (by simp [qh,hl];omega),List.getElem?_eq_none (by rw [xv];omega)]
theorem zqa (K:List UInt8)(m:BitVec 8):((List.range 64).map fun i=>UInt8.ofBitVec (jw K m 64 i))=yI K m:=by
 unfold yI;refine List.map_congr_left fun i hi=>?_;unfold jw;rw [if_pos (by simpa using hi)]
def xm (s:List W)(i j:Nat):BitVec 8:=if j<i then zcz s j else 0
theorem zqb (s:List W)(i j:Nat):xm s (i+1) j=if j=i then zcz s i else xm s i j:=by
 unfold xm;by_cases h:j=i
 ·subst h;rw [if_pos (by omega),if_pos rfl]
 ·rw [if_neg h];by_cases h2:j<i
  ·rw [if_pos (by omega),if_pos h2]
  ·rw [if_neg (by omega),if_neg h2]
theorem zqc (s:List W):((List.range 32).map fun i=>UInt8.ofBitVec (xm s 32 i))=uh s:=by
 unfold uh;refine List.map_congr_left fun i hi=>?_;unfold xm;rw [if_pos (by simpa using hi)]
theorem zeC {P:Program}{t t' e:TypeId}{x:Operand}{j b n cap:Nat}{cur:Array Value}{T:TypeId}{fz:Nat×Nat}(xs:List UInt8)(ht:P.underlying t=some (.slice e))(he:P.underlying e=some (.int .u8))(ht':P.underlying t'=some .string)
 (hr:Rw 1 cur cap n (cellsB xs)): ∀(ρ:Env) (o:Oper) (w:World),o.op=.convert t t' x→Ins (ev ρ) [(x,.slice (some ⟨b,0,none⟩) n cap)]→Hd [(j,(b,.cells cur T fz))] w→(execOp (ev ρ) o).run P w=.ok (.value (.string (zf xs))) w:=fun ρ o w ho hi hd=>by
 have:=xV (P:=P) (j:=j) _ ht he ht' hr.ints ρ o w ho hi hd
 rwa [zfE] at this
theorem take_fn (p:Pd)(t:ByteArray)(hp:p.n≤0x1bc16d674ec80000)(ht:ByteArray.size t≤0x1bc16d674ec80000):FnP Tryz.prog 93 #[pdV p,.string t] Roots (pdV (takeB p (tl t))):=by
 refine FnP.intro (c:=zd Tryz.f93) [.cell 4 160] 50 Tryz.func93 kr kr kr fun w hP=>?_;have H0:=St.start w;obtain ⟨T,fz,hP⟩:=hP;refine rS [.b,.a] H0 kr fun gs1 w1 H1=>zb kr<|rS [.v,.v,.v] H1 kr fun gs2 w2 H2=>qQ 9 8 10 48 0 1 t.size (by omega) (fun i ρ x=> ∃(q:Pd),q.n=p.n+i∧takeB p ((tl t).take i)=q∧St w.heap.size w x [((gs1 0).b,.cells (Value.cells (pdV q)) 160 (0,0)),((gs1 1).b,.cells #[.int .u32 0,.int .u32 0,.int .u32 0,.int .u32 0,.int .u32 0,.int .u32 0,.int .u32 0,.int .u32 0,.int .u32 0,.int .u32 0,.int .u32 0,.int .u32 0,.int .u32 0,.int .u32 0,.int .u32 0,.int .u32 0,.int .u32 0,.int .u32 0,.int .u32 0,.int .u32 0,.int .u32 0,.int .u32 0,.int .u32 0,.int .u32 0,wZ] 160 (0,0))]∧Is [(1,.string t),(2,pB (gs1 0).b),(4,pB (gs1 1).b),(8,iN t.size),(9,iN i)] ρ) (by rintro i _ ww ⟨q,_,_,_,_,rfl⟩;exact ⟨kr,kr⟩) ⟨p,rfl,rfl,H2.as kr,isK⟩ ?_ ?_
 ·clear H0 H1 H2;rintro k _ w3 hk ⟨q,hq,hqt,H3,_,rfl⟩;have hs:=zp3 hqt hk;refine rS [.v,.v] H3 kr fun gs4 w4 H4=>rS [.v,.l 0,.E (.int .u64 (Int.tmod ((q.n:Nat):Int) 64)) (.int .u64 (((q.n)%64:Nat):Int)) (zk (jW (q.n) 64)),.v] H4 kr fun gs5 w5 H5=>?_
  refine dS [.v,.E (.int .u64 (IntKind.u64.wrap (((q.n%64:Nat):Int).tdiv 4))) (.int .u64 (((q.n%64) / 4:Nat):Int)) (zk (zjY (a:=q.n%64) (b:=4) (by omega))),.v,.o (ins:=[(.tmp 17,.pointer (some ⟨(gs1 0).b,8,none⟩)),(.tmp 16,.int .u64 ((q.n%64 / 4:Nat):Int))]) (v:=.pointer (some ⟨(gs1 0).b,8+(q.n%64 / 4)*1,none⟩)) (fun ρ o w ho hi=>yy (kd:=.u64) (t:=158) (n:=16) (size:=1) kr (x:=.tmp 17) (y:=.tmp 16) ((gs1 0).b) 8 (q.n%64 / 4) ho hi.1 hi.2.1 (by omega) w),.ls 0 (zpS q (k:=q.n%64 / 4) rfl (by omega)),.v,.v,.o (ins:=[(.tmp 20,.string t),(.tmp 21,iN k)]) (v:=.int .u8 ((by_ t k:Nat):Int)) (fun ρ o w ho hi=>qV (t:=9) (kd:=.i64) kr (x:=.tmp 20) (y:=.tmp 21) t k ho hi.1 hi.2.1 hk w),.e (zj1 (by_ t k)),.v,.E (.int .u64 (Int.tmod ((q.n%64:Nat):Int) 4)) (.int .u64 (((q.n%64)%4:Nat):Int)) (zk (jW (q.n%64) 4)),.E (.int .u64 (IntKind.u64.wrap (3-((q.n%64%4:Nat):Int)))) (.int .u64 ((3-(q.n%64%4):Nat):Int)) (zk (za1 (a:=3) (b:=q.n%64%4) (by omega))),.E (.int .u64 (IntKind.u64.wrap (8*((3-q.n%64%4:Nat):Int)))) (.int .u64 ((8*(3-q.n%64%4):Nat):Int)) (zk (zfu (a:=8) (b:=3-q.n%64%4) (by omega))),.e (zfy (BitVec.ofNat 32 (by_ t k)) (8*(3-q.n%64%4))),.e (uM (nth q.b (q.n%64 / 4)) (BitVec.ofNat 32 (by_ t k) <<< (8*(3-q.n%64%4)))),.v,.o (ins:=[(.tmp 30,.pointer (some ⟨(gs1 0).b,8,none⟩)),(.tmp 16,.int .u64 ((q.n%64 / 4:Nat):Int))]) (v:=.pointer (some ⟨(gs1 0).b,8+(q.n%64 / 4)*1,none⟩)) (fun ρ o w ho hi=>yy (kd:=.u64) (t:=158) (n:=16) (size:=1) kr (x:=.tmp 30) (y:=.tmp 16) ((gs1 0).b) 8 (q.n%64 / 4) ho hi.1 hi.2.1 (by omega) w),
   .se 0 (C:=Value.cells (pdV q)) (C':=Value.cells (pdV ⟨q.s,lay q.b (q.n%64) (by_ t k),q.n⟩)) (off:=8+(q.n%64 / 4)*1) (v:=uW (nth q.b (q.n%64 / 4) ||| BitVec.ofNat 32 (by_ t k) <<< (8*(3-q.n%64%4)))) (by show _+1≤25;omega) (zpT q (k:=q.n%64 / 4) rfl (by omega))] H5 kr fun w6 H6=>?_
  have H6:=H6.as (l:=[((gs1 0).b,.cells (Value.cells (pdV ⟨q.s,lay q.b (q.n%64) (by_ t k),q.n⟩)) 160 (0,0)),((gs1 1).b,.cells #[.int .u32 0,.int .u32 0,.int .u32 0,.int .u32 0,.int .u32 0,.int .u32 0,.int .u32 0,.int .u32 0,.int .u32 0,.int .u32 0,.int .u32 0,.int .u32 0,.int .u32 0,.int .u32 0,.int .u32 0,.int .u32 0,.int .u32 0,.int .u32 0,.int .u32 0,.int .u32 0,.int .u32 0,.int .u32 0,.int .u32 0,.int .u32 0,wZ] 160 (0,0))]) kr;refine rS [.v,.l 0,.E (.int .u64 (IntKind.u64.wrap (((q.n:Nat):Int)+1))) (.int .u64 ((q.n+1:Nat):Int)) (zk (kK (a:=q.n) (b:=1) (by omega))),.v,.s 0] H6 kr fun gs7 w7 H7=>?_;by_cases hc:(q.n+1)%64=0
  ·refine rS [.v,.l 0,.E (.int .u64 (Int.tmod ((q.n+1:Nat):Int) 64)) (.int .u64 (((q.n+1)%64:Nat):Int)) (zk (jW (q.n+1) 64)),.E (.bool ((((q.n+1)%64:Nat):Int)==0)) (.bool true) (za (beq_iff_eq.2 (by omega)))] H7 kr fun gs8 w8 H8=>zi kr kr<|rL [.v,.lp 0 (C:=Value.cells (pdV ⟨q.s,lay q.b (q.n%64) (by_ t k),q.n+1⟩)) (W:=Value.cells (arr 8 q.s)) (off:=0) (n:=8) (of_decide_eq_true kr) kr,.v,.lp 0 (C:=Value.cells (pdV ⟨q.s,lay q.b (q.n%64) (by_ t k),q.n+1⟩)) (W:=Value.cells (arr 16 (lay q.b (q.n%64) (by_ t k)))) (off:=8) (n:=16) (of_decide_eq_true kr) kr,.cp (pre:=Roots) (zp0 q.s (lay q.b (q.n%64) (by_ t k))) [] (fun w hb _=>⟨T,fz,(hb.block _ (zr hP)).trans hP⟩),.v,.v,.s 0,.v,.s 0] H8 kr fun gs9 w9 H9=>?_;exact ⟨kr,⟨ug q.s (lay q.b (q.n%64) (by_ t k)),[],q.n+1⟩,by show q.n+1=_;omega,hs.trans (zp1 q (by_ t k) _ rfl hc),H9.as kr,isK⟩
  ·refine rS [.v,.l 0,.E (.int .u64 (Int.tmod ((q.n+1:Nat):Int) 64)) (.int .u64 (((q.n+1)%64:Nat):Int)) (zk (jW (q.n+1) 64)),.E (.bool ((((q.n+1)%64:Nat):Int)==0)) (.bool false) (za (beq_eq_false_iff_ne.2 (by omega)))] H7 kr fun gs8 w8 H8=>zI ?_;exact ⟨kr,⟨q.s,lay q.b (q.n%64) (by_ t k),q.n+1⟩,by show q.n+1=_;omega,hs.trans (zp2 q (by_ t k) _ rfl hc),H8.as kr,isK⟩
 ·clear H0 H1 H2;rintro _ w3 ⟨q,hq,hqt,H3,_,rfl⟩;refine wW ?_;rw [List.take_of_length_le (by rw [zy];omega)] at hqt;refine rS [.l 0,.s 1] H3 kr fun gs4 w4 H4=>?_;exact rRe [.cell 4 160] [1] H4 (congrArg pdV hqt.symm) kr
theorem zqd (n:Nat)(hn:n≤0x1bc16d674ec80000):Fn Tryz.prog 137 #[.int .u64 (n:Int)] (.string (zf (kE n))):=by
 refine Fn.intro (c:=zd Tryz.f137) [.tmp 2] 36 Tryz.func137 kr kr kr fun w=>?_;have H0:=St.start w;refine rS [.v] H0 kr fun gs1 w1 H1=>?_;obtain ⟨z,ez⟩:∃z,z=63-(n+8)%64:=⟨_,rfl⟩
 have hz:z≤63:=by omega
 have hI:=zp6 n (1+z) (by rw [ez]);have hL: ∀i,(jG n i).length=1+z+i:=fun i=>by rw [ez];exact zp5 n i
 refine rS [.v,.E (.int .u64 (IntKind.u64.wrap ((n:Int)+8))) (.int .u64 ((n+8:Nat):Int)) (zk (kK (a:=n) (b:=8) (by omega))),.E (.int .u64 (Int.tmod ((n+8:Nat):Int) 64)) (.int .u64 (((n+8)%64:Nat):Int)) (zk (jW (n+8) 64)),.E (.int .u64 (IntKind.u64.wrap (63-(((n+8)%64:Nat):Int)))) (.int .u64 (z:Int)) (zk (by rw [ez];exact za1 (a:=63) (b:=(n+8)%64) (by omega))),.v] H1 kr fun gs2 w2 H2=>zh [0,1,2,3,4,5,6] kr kr<|rp [.v,.E (.int .u64 (IntKind.u64.wrap (1+(z:Int)))) (.int .u64 ((1+(z):Nat):Int)) (zk (kK (a:=1) (b:=z) (by omega))),.v,.E (.int .u64 (IntKind.u64.wrap (1+(z:Int)))) (.int .u64 ((1+(z):Nat):Int)) (zk (kK (a:=1) (b:=z) (by omega))),.E (.int .u64 (IntKind.u64.wrap ((((1+z):Nat):Int)+8))) (.int .u64 (((1+z)+8:Nat):Int)) (zk (kK (a:=(1+z)) (b:=8) (by omega)))] (H2.as (l:=[]) kr) kr fun gs3 w3 H3=>wX [5,6]<|zkh H3 (some 16) 48 5 1 (.int .u8 0) (.tmp 12) (.tmp 15) .u64 .u64 (1+z) (1+z+8) kr kr kr kr rfl kr kr (by omega) (by omega) (by unfold maxLen;omega) ?_;intro b cur w4 H4 hr;have hr:Rw 1 cur (1+z+8) (1+z) (cellsB (List.replicate (1+z) 0)):=by rw [zp7];exact hr
 refine zj (some 4) (.slice (some ⟨b,0,none⟩) (1+z) (1+z+8)) (fun w=>kr) kr<|zc ?_;obtain ⟨cur1,hc1,hs1,hr1⟩:=hr.putB 0 (UInt8.ofBitVec (128:BitVec 8)) (by omega);rw [hI] at hr1;refine rS [.v,.o (ins:=[(.tmp 17,.slice (some ⟨b,0,none⟩) (1+z) (1+z+8)),(.const (.int .i64 0),iN 0)]) (v:=.pointer (some ⟨b,0+0*1,none⟩)) (fun ρ o w ho hi=>xT (kd:=.i64) (t:=48) (e:=5) (size:=1) (bytes:=1) kr (x:=.tmp 17) (y:=.const (.int .i64 0)) b 0 (1+z) (1+z+8) 0 ho hi.1 hi.2.1 (by omega) w),.se 0 (C:=cur) (C':=cur1) (off:=0+0*1) (v:=.int .u8 128) hs1 hc1] H4 kr fun gs5 w5 H5=>rS [.v,.E (.int .u64 (IntKind.u64.wrap (8*(n:Int)))) (.int .u64 ((8*(n):Nat):Int)) (zk (zfu (a:=8) (b:=n) (by omega))),.v] H5 kr fun gs6 w6 H6=>zb kr<|rS [.v] H6 kr fun gs7 w7 H7=>zaG 21 22 33 0 1 8 (fun i ρ x=> ∃(b cap:Nat) (cur:Array Value),Rw 1 cur cap (1+z+i) (cellsB (jG n i))∧St w.heap.size w x [(b,.cells cur 5 (0,0))]∧Is [(4,.slice (some ⟨b,0,none⟩) (1+z+i) cap),(5,.int .u64 ((8*n:Nat):Int)),(21,iN i)] ρ) ⟨b,_,_,hr1,H7.as kr,isK⟩ ?_ ?_ (by rintro i _ ww ⟨_,_,_,_,_,_,rfl⟩;exact kr)
 ·clear H0 H1 H2 H3 H4 H5 H6 H7;rintro i _ w8 hlt ⟨b,cap,cur,hr,H8,_,rfl⟩;refine rS [.v,.v] H8 kr fun gs9 w9 H9=>yP [0,1,2,3,4,5,6,7,8,9] kr<|rp [.v,.v,.v,.E (.int .i64 (IntKind.i64.wrap (7-(i:Int)))) (iN (7-(i))) (zk (xu (a:=7) (b:=i) (by omega))),.E (.int .i64 (IntKind.i64.wrap (8*((7-i:Nat):Int)))) (iN (8*(7-i))) (zk (uH (a:=8) (b:=7-i) (by omega))),.E (.int .u64 (Int.fdiv ((8*n:Nat):Int) (2^(min (8*(7-i)) 64)))) (.int .u64 (((8*n) / 2^(8*(7-i)):Nat):Int)) (zk (za3 (8*n) (8*(7-i)) 64 (by omega))),.e (vG ((8*n) / 2^(8*(7-i))))] (H9.as (l:=[(b,.cells cur 5 (0,0))]) kr) kr fun gs10 w10 H10=>wX [7,8,9]<|ze7 H10 (some 31) (fun b=>.slice (some ⟨b,0,none⟩) 1 1) #[.int .u8 (BitVec.toNat (BitVec.ofNat 8 ((8*n) / 2^(8*(7-i)))):Int)] 5 (fun w=>kr) kr ?_;intro b1 w11 H11;refine zjN H11 (some 32) 48 5 1 1 (.tmp 24) (.tmp 31) 1 0 b b1 (1+z+i) 1 cap 1 cur #[.int .u8 (BitVec.toNat (BitVec.ofNat 8 ((8*n) / 2^(8*(7-i)))):Int)] 5 (0,0) (cellsB (jG n i)) [.int .u8 (BitVec.toNat (BitVec.ofNat 8 ((8*n) / 2^(8*(7-i)))):Int)] (fun b8 cur10=>[(b1,.cells #[.int .u8 (BitVec.toNat (BitVec.ofNat 8 ((8*n) / 2^(8*(7-i)))):Int)] 5 (0,0)),(b8,.cells cur10 5 (0,0))]) kr kr kr kr kr hr kr kr rfl rfl (by intro u hu;rcases List.mem_singleton.1 hu with rfl;rfl) (by omega) (by unfold maxLen;omega) (fun _ _=>kr) ?_;intro b8 cap9 cur10 w12 H12 hr12;refine zj (some 4) (.slice (some ⟨b8,0,none⟩) (1+z+i+1) cap9) (fun w=>kr) kr<|zc ?_;refine ⟨kr,b8,cap9,cur10,?_,H12.sub (List.Sublist.cons _ (List.Sublist.refl _)),isK⟩;rw [zp4,zc8];exact hr12
 ·clear H0 H1 H2 H3 H4 H5 H6 H7;rintro _ w8 ⟨b,cap,cur,hr,H8,_,rfl⟩;refine wW<|rS [.v,.x (ins:=[(.tmp 34,.slice (some ⟨b,0,none⟩) (1+z+8) cap)]) [(0,(b,.cells cur 5 (0,0)))] (zeC (t:=48) (t':=9) (e:=5) (jG n 8) kr kr kr hr),.v] H8 kr fun gs9 w9 H9=>?_;exact rR [.tmp 2] [] (.string (zf (jG n 8))) H9 kr
theorem zi0 (s:ByteArray)(hs:s.size≤64)(m:BitVec 8):Fn Tryz.prog 94 #[.string s,.int .u8 (BitVec.toNat m:Int)] (.string (zf (yI (tl s) m))):=by
 refine Fn.intro (c:=zd Tryz.f94) [.tmp 4] 22 Tryz.func94 kr kr kr fun w=>?_;have H0:=St.start w;refine rS [.v] H0 kr fun gs1 w1 H1=>rS [.a] H1 kr fun gs2 w2 H2=>?_
 refine rS [.o (ins:=[(.tmp 5,pB (gs2 0).b)]) (v:=.slice (some ⟨(gs2 0).b,0,none⟩) 64 64) (fun ρ o w ho hi=>kQ (t:=208) (n:=64) (e:=5) (z:=1) kr kr (x:=.tmp 5) (gs2 0).b ho hi.1 w),.v,
  .g [(.tmp 7,.slice (some ⟨(gs2 0).b,0,none⟩) 64 64),(.tmp 8,.string s)] (kP 48 9 (.tmp 7) (.tmp 8)) [(0,((gs2 0).b,.cells (Value.cells (kT .u8 64)) 208 (0,0)))] (fun _=>iN s.size) (.turn 0 (.cells (Value.cells (yz 64 (jw (tl s) m 0))) 208 (0,0)))
   (fun ρ o w ho hi hd hb=>by
    rw [zfD (e:=5) (bytes:=1) (C':=Value.cells (yz 64 (jw (tl s) m 0))) kr hi.1 hi.2.1 hd.1 (by omega) (by show _≤64;omega) (zp9 s m hs) o ho]
    exact ⟨default,rfl,_,rfl,D2.grownBy_setRow w _ _,setRow_heap w _ _ _ _ _ hd.1⟩)] H2 kr fun gs3 w3 H3=>?_
 refine zb kr<|rS [.v] H3 kr fun gs4 w4 H4=>zaG 10 11 19 0 1 64 (fun i ρ x=>St w.heap.size w x [((gs2 0).b,.cells (Value.cells (yz 64 (jw (tl s) m i))) 208 (0,0))]∧Is [(1,.int .u8 (BitVec.toNat m:Int)),(5,pB (gs2 0).b),(10,iN i)] ρ) ⟨H4.as kr,isK⟩ ?_ ?_
 ·clear H0 H1 H2 H3 H4;rintro i _ w5 hlt ⟨H5,_,rfl⟩;refine rS [.v,.v] H5 kr fun gs6 w6 H6=>rL [.v,.o (ins:=[(.tmp 5,.pointer (some ⟨(gs2 0).b,0,none⟩)),(.tmp 13,.int .i64 (i:Int))]) (v:=.pointer (some ⟨(gs2 0).b,0+(i)*1,none⟩)) (fun ρ o w ho hi=>yy (kd:=.i64) (t:=208) (n:=64) (size:=1) kr (x:=.tmp 5) (y:=.tmp 13) ((gs2 0).b) 0 (i) ho hi.1 hi.2.1 (by omega) w),.ls 0 (zkf (jw (tl s) m i) rfl hlt),.v,.e (zj2 (jw (tl s) m i i) m),.o (ins:=[(.tmp 5,.pointer (some ⟨(gs2 0).b,0,none⟩)),(.tmp 13,.int .i64 (i:Int))]) (v:=.pointer (some ⟨(gs2 0).b,0+(i)*1,none⟩)) (fun ρ o w ho hi=>yy (kd:=.i64) (t:=208) (n:=64) (size:=1) kr (x:=.tmp 5) (y:=.tmp 13) ((gs2 0).b) 0 (i) ho hi.1 hi.2.1 (by omega) w),.se 0 (C:=Value.cells (yz 64 (jw (tl s) m i))) (C':=Value.cells (yz 64 (jw (tl s) m (i+1)))) (off:=0+i*1) (v:=.int .u8 (BitVec.toNat (jw (tl s) m i i ^^^ m):Int)) (by show _+1≤64;omega) (zc9 rfl hlt fun j hj=>zp8 (tl s) m i j)] H6 kr fun gs7 w7 H7=>?_;exact ⟨kr,H7.as kr,isK⟩
 ·clear H0 H1 H2 H3 H4;rintro _ w5 ⟨H5,_,rfl⟩;refine wW<|rS [.o (ins:=[(.tmp 5,pB (gs2 0).b)]) (v:=.slice (some ⟨(gs2 0).b,0,none⟩) 64 64) (fun ρ o w ho hi=>kQ (t:=208) (n:=64) (e:=5) (z:=1) kr kr (x:=.tmp 5) (gs2 0).b ho hi.1 w),.x (ins:=[(.tmp 20,.slice (some ⟨(gs2 0).b,0,none⟩) 64 64)]) [(0,((gs2 0).b,.cells (Value.cells (yz 64 (jw (tl s) m 64))) 208 (0,0)))] (zeC (t:=48) (t':=9) (e:=5) _ kr kr kr (zda 64 (jw (tl s) m 64) (by unfold maxLen;omega))),.v] H5 kr fun gs6 w6 H6=>?_;exact rRe [.tmp 4] [] H6 (congrArg (fun l=>Value.string (zf l)) (zqa (tl s) m)) kr
theorem end_fn (p:Pd)(hp:p.n≤0xde0b6b3a7640000):FnP Tryz.prog 95 #[pdV p] Roots (.string (zf (endB p))):=by
 refine FnP.intro (c:=zd Tryz.f95) [.tmp 2] 30 Tryz.func95 kr kr kr fun w hP=>?_;have H0:=St.start w;obtain ⟨T,fz,hP⟩:=hP;have hsz:(zf (kE p.n)).size≤72:=zpP p.n;have he:(zf (endB p))=zf (uh (takeB p (tl (zf (kE p.n)))).s):=rfl;rw [he];have ht:=take_fn p (zf (kE p.n)) (by omega) (by omega);generalize takeB p (tl (zf (kE p.n)))=q at ht;refine rS [.b,.v] H0 kr fun gs1 w1 H1=>dSg (fun gs2=>[.l 0,.v,.l 0,.c (zqd p.n (by omega)),.cp (pre:=Roots) ht [] (fun w hb _=>⟨T,fz,(hb.block _ (zr hP)).trans hP⟩),.v,.a,.s 1]) H1 kr fun gs2 w2 H2=>rS [.a] H2 kr fun gs3 w3 H3=>zb kr<|rS [.v] H3 kr fun gs4 w4 H4=>zaG 12 13 27 0 1 32 (fun i ρ x=>St w.heap.size w x [((gs1 0).b,.cells (Value.cells (pdV p)) 160 (0,0)),((gs2 6).b,.cells (Value.cells (arr 8 q.s)) 157 (0,0)),((gs3 0).b,.cells (Value.cells (yz 32 (xm q.s i))) 103 (0,0))]∧Is [(3,pB (gs2 6).b),(4,pB (gs3 0).b),(12,iN i)] ρ) ⟨H4.as kr,isK⟩ ?_ ?_
 ·clear H0 H1 H2 H3 H4;rintro i _ w5 hlt ⟨H5,_,rfl⟩;refine rS [.v,.v] H5 kr fun gs6 w6 H6=>rL [.v,.v,.E (.int .i64 (IntKind.i64.wrap ((i:Int).tdiv 4))) (iN ((i) / 4)) (zk (uI (a:=i) (b:=4) (by omega))),.o (ins:=[(.tmp 3,.pointer (some ⟨(gs2 6).b,0,none⟩)),(.tmp 17,.int .i64 ((i / 4:Nat):Int))]) (v:=.pointer (some ⟨(gs2 6).b,0+(i / 4)*1,none⟩)) (fun ρ o w ho hi=>yy (kd:=.i64) (t:=157) (n:=8) (size:=1) kr (x:=.tmp 3) (y:=.tmp 17) ((gs2 6).b) 0 (i / 4) ho hi.1 hi.2.1 (by omega) w),.ls 1 (ui (n:=8) q.s (k:=i / 4) rfl (by omega)),.v,.E (.int .i64 (Int.tmod (i:Int) 4)) (iN ((i)%4)) (zk (jW (i) 4)),.E (.int .i64 (IntKind.i64.wrap (3-((i%4:Nat):Int)))) (iN (3-(i%4))) (zk (xu (a:=3) (b:=i%4) (by omega))),.E (.int .i64 (IntKind.i64.wrap (8*((3-i%4:Nat):Int)))) (iN (8*(3-i%4))) (zk (uH (a:=8) (b:=3-i%4) (by omega))),.e (zc3 (nth q.s (i / 4)) (8*(3-i%4))),.e (zfz (nth q.s (i / 4) >>> (8*(3-i%4)))),.o (ins:=[(.tmp 4,.pointer (some ⟨(gs3 0).b,0,none⟩)),(.tmp 15,.int .i64 (i:Int))]) (v:=.pointer (some ⟨(gs3 0).b,0+(i)*1,none⟩)) (fun ρ o w ho hi=>yy (kd:=.i64) (t:=103) (n:=32) (size:=1) kr (x:=.tmp 4) (y:=.tmp 15) ((gs3 0).b) 0 (i) ho hi.1 hi.2.1 (by omega) w),.se 2 (C:=Value.cells (yz 32 (xm q.s i))) (C':=Value.cells (yz 32 (xm q.s (i+1)))) (off:=0+i*1) (v:=.int .u8 (BitVec.toNat (zcz q.s i):Int)) (by show _+1≤32;omega) (zc9 rfl hlt fun j hj=>zqb q.s i j)] H6 kr fun gs7 w7 H7=>?_;exact ⟨kr,H7.as kr,isK⟩
 ·clear H0 H1 H2 H3 H4;rintro _ w5 ⟨H5,_,rfl⟩;refine wW<|rS [.o (ins:=[(.tmp 4,pB (gs3 0).b)]) (v:=.slice (some ⟨(gs3 0).b,0,none⟩) 32 32) (fun ρ o w ho hi=>kQ (t:=103) (n:=32) (e:=5) (z:=1) kr kr (x:=.tmp 4) (gs3 0).b ho hi.1 w),.x (ins:=[(.tmp 28,.slice (some ⟨(gs3 0).b,0,none⟩) 32 32)]) [(2,((gs3 0).b,.cells (Value.cells (yz 32 (xm q.s 32))) 103 (0,0)))] (zeC (t:=48) (t':=9) (e:=5) _ kr kr kr (zda 32 (xm q.s 32) (by unfold maxLen;omega))),.v] H5 kr fun gs6 w6 H6=>?_;exact rRe [.tmp 2] [] H6 (congrArg (fun l=>Value.string (zf l)) (zqc q.s)) kr
set_option maxRecDepth 100000
set_option maxHeartbeats 4000000
theorem zi1:Fn Tryz.prog 92 #[] (pdV beg):=by
 refine Fn.intro (c:=zd Tryz.f92) [.cell 0 160] 3 Tryz.func92 kr kr kr fun w=>rS [.a] (St.start w) kr fun gs1 w1 H1=>rS [.v,.v,.s 0] H1 kr fun gs2 w2 H2=>?_;exact rR [.cell 0 160] [0] (pdV beg) H2 kr
def tls (l:List ByteArray):List UInt8:=l.flatMap tl
theorem zi2 (l:List ByteArray)(i:Nat)(hi:i<l.length):tls (l.take (i+1))=tls (l.take i)++tl (l.getD i .empty):=by
 unfold tls;rw [List.take_add_one,List.getElem?_eq_getElem hi,Option.toList_some,List.flatMap_append,List.getD_eq_getElem?_getD,List.getElem?_eq_getElem hi];simp
theorem zi3 (l:List ByteArray)(i:Nat):(tls (l.take i)).length≤(tls l).length:=by
 have e:tls l=tls (l.take i)++tls (l.drop i):=by unfold tls;rw [←List.flatMap_append,List.take_append_drop]
 rw [e,List.length_append];omega
theorem zeD (key:ByteArray)(hk:key.size≤64)(b:Nat)(l:List ByteArray)(hl:l.length≤1000)(hs:(tls l).length≤1000000):FnP Tryz.prog 67 #[.string key,.slice (some ⟨b,0,none⟩) l.length l.length] (fun w=>Roots w∧w.heap[b]? =some (.cells (zdb l).toArray 9 (0,0))) (.string (zf (zeB (tl key) (tls l)))):=by
 refine FnP.intro (c:=zd Tryz.f67) [.tmp 4] 35 Tryz.func67 kr kr kr fun w hP2=>?_;have H0:=St.start w;obtain ⟨⟨T,fz,hP⟩,hR⟩:=hP2;have hc: ∀m,(zf (yI (tl key) m)).size=64:=fun m=>ziV _ m;have hb0:beg.n=0:=rfl;have hn: ∀m x,(takeB (takeB beg (yI (tl key) m)) x).n=64+x.length:=fun m x=>by rw [zcy,zcy,ziV,hb0,Nat.zero_add]
 refine rS [.v] H0 kr fun gs1 w1 H1=>zb kr<|rS [.v,.v,.E (.bool (decide ((key.size:Int)>64))) (.bool false) (za (decide_eq_false (by omega)))] H1 kr fun gs2 w2 H2=>zI<|wW<|rS [.c zi1,.v,.c (zi0 key hk 54),.cp (pre:=Roots) (take_fn beg (zf (yI (tl key) 54)) (by rw [hb0];omega) (by rw [hc];omega)) [] (fun w hb _=>⟨T,fz,(hb.block _ (zr hP)).trans hP⟩),.a,.s 0] H2 kr fun gs3 w3 H3=>zb kr<|rS [.v,.v,.v] H3 kr fun gs4 w4 H4=>qQ 19 18 20 26 0 1 l.length (by omega) (fun i ρ x=>St w.heap.size w x [((gs3 4).b,.cells (Value.cells (pdV (takeB (takeB beg (yI (tl key) 54)) (tls (l.take i))))) 160 (0,0))]∧Is [(0,.string key),(5,pB (gs3 4).b),(17,.slice (some ⟨b,0,none⟩) l.length l.length),(18,iN l.length),(19,iN i)] ρ) (by rintro i _ ww ⟨_,_,rfl⟩;exact ⟨kr,kr⟩) ⟨H4.as kr,isK⟩ ?_ ?_
 ·clear H0 H1 H2 H3 H4;rintro i _ w5 hlt ⟨H5,_,rfl⟩;have e1:takeB (takeB beg (yI (tl key) 54)) (tls (l.take (i+1)))=takeB (takeB (takeB beg (yI (tl key) 54)) (tls (l.take i))) (tl (l.getD i .empty)):=by rw [zi2 l i hlt,takeB_append]
  have e2:=zi3 l i;have e3:=zi3 l (i+1);rw [zi2 l i hlt,List.length_append,zy] at e3;have hq:(takeB (takeB beg (yI (tl key) 54)) (tls (l.take i))).n≤2000000:=by rw [hn];omega
  generalize takeB (takeB beg (yI (tl key) 54)) (tls (l.take i))=q at H5 e1 hq;refine rS [.o (ins:=[(.tmp 17,.slice (some ⟨b,0,none⟩) l.length l.length),(.tmp 19,iN i)]) (v:=.pointer (some ⟨b,0+i*1,none⟩)) (fun ρ o w ho hi=>xT (kd:=.i64) (t:=68) (e:=9) (size:=1) (bytes:=16) kr (x:=.tmp 17) (y:=.tmp 19) b 0 l.length l.length i ho hi.1 hi.2.1 hlt w),.fs (off:=0+i*1) (v:=.string (l.getD i .empty)) hR (zr hR) (by rw [show 0+i*1=i by omega,List.getElem?_toArray];exact zkj l i hlt),.v] H5 kr fun gs6 w6 H6=>?_;refine rL [.l 0,.v,.cp (pre:=Roots) (take_fn q (l.getD i .empty) (by omega) (by omega)) [] (fun w hb _=>⟨T,fz,(hb.block _ (zr hP)).trans hP⟩),.s 0] H6 kr fun gs7 w7 H7=>?_;refine ⟨kr,?_,isK⟩;rw [e1];exact H7.as kr
 ·clear H0 H1 H2 H3 H4;rintro _ w5 ⟨H5,_,rfl⟩;refine wW ?_;rw [List.take_of_length_le (Nat.le_refl _)] at H5;have hq:=hn 54 (tls l);have he:(zf (endB (takeB (takeB beg (yI (tl key) 54)) (tls l)))).size=32:=ziU _;have hf:=hn 92 (tl (zf (endB (takeB (takeB beg (yI (tl key) 54)) (tls l)))));refine dS [.c zi1,.v,.c (zi0 key hk 92),.cp (pre:=Roots) (take_fn beg (zf (yI (tl key) 92)) (by rw [hb0];omega) (by rw [hc];omega)) [] (fun w hb _=>⟨T,fz,(hb.block _ (zr hP)).trans hP⟩),.l 0,.cp (pre:=Roots) (end_fn (takeB (takeB beg (yI (tl key) 54)) (tls l)) (by omega)) [] (fun w hb _=>⟨T,fz,(hb.block _ (zr hP)).trans hP⟩),.cp (pre:=Roots) (take_fn (takeB beg (tl (zf (yI (tl key) 92)))) (zf (endB (takeB (takeB beg (yI (tl key) 54)) (tls l)))) (by rw [zcy,zy,hc,hb0];omega) (by omega)) [] (fun w hb _=>⟨T,fz,(hb.block _ (zr hP)).trans hP⟩),.cp (pre:=Roots) (end_fn (takeB (takeB beg (tl (zf (yI (tl key) 92)))) (tl (zf (endB (takeB (takeB beg (yI (tl key) 54)) (tls l)))))) (by rw [ji,hf,zy,he];omega)) [] (fun w hb _=>⟨T,fz,(hb.block _ (zr hP)).trans hP⟩),.v] H5 kr fun w6 H6=>?_;exact rR [.tmp 4] [] (.string (zf (zeB (tl key) (tls l)))) H6 kr
end Go.Proofs.YtpghmdbjmigjlaaGreatDoor.Sh
namespace Go.Proofs.YtpghmdbjmigjlaaGreatDoor
open Go Go.RowKit
set_option linter.unusedVariables false
set_option maxRecDepth 100000
set_option maxHeartbeats 4000000
structure Wq where
 X:Nat
 Y:Nat
 b:Bool
 Z:Nat
structure Wq.Ok (p:Wq):Prop where
 X:p.X<big
 Y:p.Y<big
 Z:p.Z<big
def pq (X Y:Nat)(b:Bool):Value:=.agg #[.int .u64 (w0 X),.int .u64 (w1 X),.int .u64 (w2 X),.int .u64 (w3 X),.int .u64 (w0 Y),.int .u64 (w1 Y),.int .u64 (w2 Y),.int .u64 (w3 Y),.bool b]
def wpq (p:Wq):Value:=.agg #[.int .u64 (w0 p.X),.int .u64 (w1 p.X),.int .u64 (w2 p.X),.int .u64 (w3 p.X),.int .u64 (w0 p.Y),.int .u64 (w1 p.Y),.int .u64 (w2 p.Y),.int .u64 (w3 p.Y),.bool p.b,.int .u64 (w0 p.Z),.int .u64 (w1 p.Z),.int .u64 (w2 p.Z),.int .u64 (w3 p.Z)]
abbrev oW (p:Wq):Obj:=.cells (Value.cells (wpq p)) 143 (0,0)
def vn:Wq:=⟨0,0,true,0⟩
def mQ (a b:Nat):Nat:=fMul a b PR
def aQ (a b:Nat):Nat:=fAdd a b PR
def sQ (a b:Nat):Nat:=fSub a b PR
def vp (r x o y z:Nat):Wq:=⟨sQ (sQ (mQ r r) x) o,sQ (mQ r (sQ x (sQ (sQ (mQ r r) x) o))) y,false,z⟩
def zqe (x y z b c d:Nat):Wq:=vp (aQ (aQ d d) d) (mQ x c) (mQ x c) (mQ c b) z
def jR (p:Wq):Wq:=bif p.b then p else zqe p.X p.Y (mQ (aQ p.Y p.Y) p.Z) (mQ (aQ p.Y p.Y) p.Y) (aQ (mQ (aQ p.Y p.Y) p.Y) (mQ (aQ p.Y p.Y) p.Y)) (mQ p.X p.X)
def zi4 (c f i j k z:Nat):Wq:=vp j (mQ c k) (aQ (mQ c k) (mQ k i)) (mQ f (mQ k i)) (mQ z i)
def zaI (p q:Wq)(c f i j:Nat):Wq:=if i=0 then (if j=0 then jR p else vn) else zi4 c f i j (mQ i i) (mQ p.Z q.Z)
def kG (p q:Wq):Wq:=bif p.b then q else bif q.b then p else
 zaI p q (mQ p.X (mQ q.Z q.Z)) (mQ p.Y (mQ (mQ q.Z q.Z) q.Z)) (sQ (mQ q.X (mQ p.Z p.Z)) (mQ p.X (mQ q.Z q.Z))) (sQ (mQ q.Y (mQ (mQ p.Z p.Z) p.Z)) (mQ p.Y (mQ (mQ q.Z q.Z) q.Z)))
theorem zcA (a b:Nat):mQ a b<big:=zbi qP
theorem zi5 (a b:Nat):aQ a b<big:=zfW qP
theorem zeE (a b:Nat):sQ a b<big:=zbj qP
theorem zeF:vn.Ok:=⟨qG,qG,qG⟩
theorem zi6 {r x o y z:Nat}(hz:z<big):(vp r x o y z).Ok:=⟨zeE _ _,zeE _ _,hz⟩
theorem uj {p:Wq}(h:p.Ok):(jR p).Ok:=by
 unfold jR;cases p.b
 ·exact zi6 (zcA _ _)
 ·exact h
theorem zi7 {p q:Wq}(h:p.Ok)(h2:q.Ok):(kG p q).Ok:=by
 unfold kG;cases p.b
 ·cases q.b
  ·show (zaI _ _ _ _ _ _).Ok;unfold zaI;split
   ·split
    ·exact uj h
    ·exact zeF
   ·exact zi6 (zcA _ _)
  ·exact h
 ·exact h2
theorem zi8 (A B:Nat)(hA:A<big)(hB:B<big):Fn Tryz.prog 123 #[uv A,uv B] (uv (mQ A B)):=by
 refine Fn.intro (c:=zd Tryz.f123) [.cell 4 24] 14 Tryz.func123 kr kr kr fun w=>rS [.b,.b,.a] (St.start w) kr fun gs1 w1 H1=>rS [.l 0,.l 1,.c (zlf A B hA hB),.v,.v,.v,.a,.s 3,.v] H1 kr fun gs2 w2 H2=>rS [.l 3,.s 2] H2 kr fun gs3 w3 H3=>?_;exact rR [.cell 4 24] [2] (uv (mQ A B)) H3 kr
theorem yp (A B:Nat)(hA:A<big)(hB:B<big):∃a,a=mQ A B∧a<big∧Fn Tryz.prog 123 #[uv A,uv B] (uv a):=⟨_,rfl,zcA _ _,zi8 A B hA hB⟩
theorem zqf (A B:Nat)(hA:A<big)(hB:B<big):Fn Tryz.prog 159 #[uv A,uv B] (uv (aQ A B)):=by
 refine Fn.intro (c:=zd Tryz.f159) [.cell 4 24] 14 Tryz.func159 kr kr kr fun w=>rS [.b,.b,.a] (St.start w) kr fun gs1 w1 H1=>rS [.l 0,.l 1,.c (zle A B hA hB),.v,.v,.v,.a,.s 3,.v] H1 kr fun gs2 w2 H2=>rS [.l 3,.s 2] H2 kr fun gs3 w3 H3=>?_;exact rR [.cell 4 24] [2] (uv (aQ A B)) H3 kr
theorem uk (A B:Nat)(hA:A<big)(hB:B<big):∃a,a=aQ A B∧a<big∧Fn Tryz.prog 159 #[uv A,uv B] (uv a):=⟨_,rfl,zi5 _ _,zqf A B hA hB⟩
theorem zqg (A B:Nat)(hA:A<big)(hB:B<big):Fn Tryz.prog 161 #[uv A,uv B] (uv (sQ A B)):=by
 refine Fn.intro (c:=zd Tryz.f161) [.cell 4 24] 14 Tryz.func161 kr kr kr fun w=>rS [.b,.b,.a] (St.start w) kr fun gs1 w1 H1=>rS [.l 0,.l 1,.c (zlg A B hA hB),.v,.v,.v,.a,.s 3,.v] H1 kr fun gs2 w2 H2=>rS [.l 3,.s 2] H2 kr fun gs3 w3 H3=>?_;exact rR [.cell 4 24] [2] (uv (sQ A B)) H3 kr
theorem ul (A B:Nat)(hA:A<big)(hB:B<big):∃a,a=sQ A B∧a<big∧Fn Tryz.prog 161 #[uv A,uv B] (uv a):=⟨_,rfl,zeE _ _,zqg A B hA hB⟩
theorem zi9 (A:Nat)(hA:A<big)(h:A<PR):Fn Tryz.prog 122 #[uv A] (.bool true):=by
 refine Fn.intro (c:=zd Tryz.f122) [.tmp 2] 13 Tryz.func122 kr kr kr fun w=>?_;have hc:cm A PR<0:=by unfold cm;split<;>(try split)<;>omega
 refine rS [.b,.v] (St.start w) kr fun gs1 w1 H1=>rS [.c zac,.v,.v,.v,.a,.s 1,.v] H1 kr fun gs2 w2 H2=>rS [.l 0,.l 1,.c (xy A PR hA qP.1),.E (.bool (decide (cm A PR<0))) (.bool true) (za (decide_eq_true hc)),.v] H2 kr fun gs3 w3 H3=>?_;exact rR [.tmp 2] [] (.bool true) H3 kr
def sqQ (x:Nat):Nat:=aQ (mQ (mQ x x) x) 7
theorem zqh (A:Nat)(hA:A<big):Fn Tryz.prog 124 #[uv A] (uv (sqQ A)):=by
 obtain ⟨a,ea,ha,Ha⟩:=yp A A hA hA;obtain ⟨b,eb,hb,Hb⟩:=yp a A ha hA;obtain ⟨c,ec,hc,Hc⟩:=uk b 7 hb (by unfold big;omega);refine Fn.intro (c:=zd Tryz.f124) [.cell 2 24] 10 Tryz.func124 kr kr kr fun w=>rS [.b,.a] (St.start w) kr fun gs1 w1 H1=>dS [.l 0,.l 0,.c Ha,.l 0,.c Hb,.c (vN 7 (by omega)),.c Hc,.s 1] H1 kr fun w2 H2=>?_;exact rRe [.cell 2 24] [1] H2 (show uv c=uv (sqQ A) from by subst ec eb ea;rfl) kr
theorem zqi (X Y:Nat)(hX:X<PR)(hY:Y<PR)(h:mQ Y Y=sqQ X):Fn Tryz.prog 79 #[pq X Y false] (.bool true):=by
 have bX:=Nat.lt_trans hX qP.1;have bY:=Nat.lt_trans hY qP.1;refine Fn.intro (c:=zd Tryz.f79) [.tmp 2] 28 Tryz.func79 kr kr kr fun w=>rS [.b,.v] (St.start w) kr fun gs1 w1 H1=>zb kr<|rS [.v,.l 0] H1 kr fun gs2 w2 H2=>zI<|wW<|dS [.v,.l 0,.c (zi9 X bX hX),.v,.v,.l 0,.c (zi9 Y bY hY),.v,.v,.v,.l 0,.v,.l 0,.c (zi8 Y Y bY bY),.v,.l 0,.c (zqh X bX),.oe (ins:=[(.tmp 22,uv (mQ Y Y)),(.tmp 25,uv (sqQ X))]) (v:=.bool (decide (mQ Y Y=sqQ X))) (v':=.bool true) (fun ρ o w ho hi=>zdl (mQ Y Y) (sqQ X) (zcA _ _) (zi5 _ _) w ho hi.1 hi.2.1) (by rw [decide_eq_true h]),.v,.v] H2 kr fun w3 H3=>?_;exact rR [.tmp 2] [] (.bool true) H3 kr
theorem zeG:Fn Tryz.prog 121 #[] (wpq vn):=by
 refine Fn.intro (c:=zd Tryz.f121) [.cell 0 143] 3 Tryz.func121 kr kr kr fun w=>rS [.a] (St.start w) kr fun gs1 w1 H1=>rS [.v,.v,.s 0] H1 kr fun gs2 w2 H2=>?_;exact rR [.cell 0 143] [0] (wpq vn) H2 kr
def yw (X Y:Nat):Wq:=⟨X,Y,false,1⟩
theorem zqj (X Y:Nat):Fn Tryz.prog 128 #[pq X Y false] (wpq (yw X Y)):=by
 refine Fn.intro (c:=zd Tryz.f128) [.cell 2 143] 6 Tryz.func128 kr kr kr fun w=>rS [.b,.a] (St.start w) kr fun gs1 w1 H1=>dS [.l 0,.c (vN 1 (by omega)),.v,.s 1] H1 kr fun w2 H2=>?_;exact rR [.cell 2 143] [1] (wpq (yw X Y)) H2 kr
theorem zja (r x o y z:Nat)(hr:r<big)(hx:x<big)(ho:o<big)(hy:y<big)(hz:z<big):Fn Tryz.prog 160 #[uv r,uv x,uv o,uv y,uv z] (wpq (vp r x o y z)):=by
 obtain ⟨a,ea,ha,Ha⟩:=yp r r hr hr;obtain ⟨b,eb,hb,Hb⟩:=ul a x ha hx;obtain ⟨c,ec,hc,Hc⟩:=ul b o hb ho;obtain ⟨d,ed,hd,Hd⟩:=ul x c hx hc;obtain ⟨e,ee,he,He⟩:=yp r d hr hd;obtain ⟨f,ef,hf,Hf⟩:=ul e y he hy;refine Fn.intro (c:=zd Tryz.f160) [.cell 10 143] 30 Tryz.func160 kr kr kr fun w=>rS [.b,.b,.b,.b,.b,.a] (St.start w) kr fun gs1 w1 H1=>dSg (fun gs2=>[.l 0,.l 0,.c Ha,.l 1,.c Hb,.l 2,.c Hc,.a,.s 6]) H1 kr fun gs2 w2 H2=>dS [.l 6,.l 0,.l 1,.l 6,.c Hd,.c He,.l 3,.c Hf,.v,.l 4,.v,.s 5] H2 kr fun w3 H3=>?_;exact rRe [.cell 10 143] [5] H3 (show wpq ⟨c,f,false,z⟩=wpq (vp r x o y z) from by subst ef ee ed ec eb ea;rfl) kr
theorem zjb (p:Wq)(hp:p.Ok):Fn Tryz.prog 125 #[wpq p] (wpq (jR p)):=by
 obtain ⟨x,y,bb,z⟩:=p;obtain ⟨hx,hy,hz⟩:=hp;simp only at hx hy hz;refine Fn.intro (c:=zd Tryz.f125) [.cell 2 143] 57 Tryz.func125 kr kr kr fun w=>rS [.b,.a] (St.start w) kr fun gs1 w1 H1=>zb kr ?_;cases bb with
 | true=>
  refine rS [.v,.v,.l 0] H1 kr fun gs2 w2 H2=>zi kr kr<|rS [.l 0,.s 1] H2 kr fun gs3 w3 H3=>?_;exact rR [.cell 2 143] [1] (wpq ⟨x,y,true,z⟩) H3 kr
 | false=>
  obtain ⟨a,ea,ha,Ha⟩:=uk y y hy hy;obtain ⟨b,eb,hb,Hb⟩:=yp a y ha hy;obtain ⟨c,ec,hc,Hc⟩:=uk b b hb hb;obtain ⟨d,ed,hd,Hd⟩:=yp x x hx hx;obtain ⟨e,ee,he,He⟩:=uk d d hd hd;obtain ⟨f,ef,hf,Hf⟩:=uk e d he hd;obtain ⟨g,eg,hg,Hg⟩:=yp x c hx hc;obtain ⟨h,eh,hh,Hh⟩:=yp c b hc hb;obtain ⟨i,ei,hi,Hi⟩:=yp a z ha hz;refine rS [.v,.v,.l 0] H1 kr fun gs2 w2 H2=>zI<|wW<|rS [.v,.v,.l 0,.v,.v,.l 0,.c Ha,.a,.s 2] H2 kr fun gs3 w3 H3=>rS [.l 2,.v,.v,.l 0,.c Hb,.a,.s 3] H3 kr fun gs4 w4 H4=>rS [.l 3,.l 3,.c Hc,.a,.s 4] H4 kr fun gs5 w5 H5=>rS [.v,.v,.l 0,.v,.v,.l 0,.c Hd,.a,.s 5] H5 kr fun gs6 w6 H6=>dS [.l 5,.l 5,.c He,.l 5,.c Hf,.s 5] H6 kr fun w7 H7=>dSg (fun gs8=>[.v,.v,.l 0,.l 4,.c Hg,.l 4,.l 3,.c Hh,.a,.a,.s 6,.s 7]) H7 kr fun gs8 w8 H8=>dS [.l 5,.l 6,.l 6,.l 7,.l 2,.v,.l 0,.c Hi,.c (zja f g g h i hf hg hg hh hi),.s 1] H8 kr fun w9 H9=>?_;exact rRe [.cell 2 143] [1] H9 (show wpq (vp f g g h i)=wpq (jR ⟨x,y,false,z⟩) from by subst ei eh eg ef ee ed ec eb ea;rfl) kr
theorem neE {a:Nat}{x y:Nat}(ha:a<big): ∀(ρ:Env) (o:Oper) (w:World),o.op=.binOp .neq 24 (.tmp x) (.tmp y) 24→Ins (ev ρ) [(.tmp x,uv a),(.tmp y,uv 0)]→(execOp (ev ρ) o).run Tryz.prog w=.ok (.value (.bool (!decide (a=0)))) w:=fun ρ o w ho hi=>kW a 0 ha qG w ho hi.1 hi.2.1
theorem zjc (p q:Wq)(hp:p.Ok)(hq:q.Ok):Fn Tryz.prog 126 #[wpq p,wpq q] (wpq (kG p q)):=by
 obtain ⟨x,y,bb,z⟩:=p;obtain ⟨hx,hy,hz⟩:=hp;simp only at hx hy hz;obtain ⟨x',y',bb',z'⟩:=q;obtain ⟨hx',hy',hz'⟩:=hq;simp only at hx' hy' hz';refine Fn.intro (c:=zd Tryz.f126) [.cell 4 143] 99 Tryz.func126 kr kr kr fun w=>rS [.b,.b,.a] (St.start w) kr fun gs1 w1 H1=>zb kr ?_;cases bb with
 | true=>
  refine rS [.v,.v,.l 0] H1 kr fun gs2 w2 H2=>zi kr kr<|rS [.l 1,.s 2] H2 kr fun gs3 w3 H3=>?_;exact rR [.cell 4 143] [2] (wpq ⟨x',y',bb',z'⟩) H3 kr
 | false=>
  refine rS [.v,.v,.l 0] H1 kr fun gs2 w2 H2=>zI<|wW<|zb kr ?_;cases bb' with
  | true=>
   refine rS [.v,.v,.l 1] H2 kr fun gs3 w3 H3=>zi kr kr<|rS [.l 0,.s 2] H3 kr fun gs4 w4 H4=>?_;exact rR [.cell 4 143] [2] (wpq ⟨x,y,false,z⟩) H4 kr
  | false=>
   obtain ⟨a,ea,ha,Ha⟩:=yp z z hz hz;obtain ⟨b,eb,hb,Hb⟩:=yp z' z' hz' hz';obtain ⟨c,ec,hc,Hc⟩:=yp x b hx hb;obtain ⟨d,ed,hd,Hd⟩:=yp x' a hx' ha;obtain ⟨e,ee,he,He⟩:=yp b z' hb hz';obtain ⟨f,ef,hf,Hf⟩:=yp y e hy he;obtain ⟨g,eg,hg,Hg⟩:=yp a z ha hz;obtain ⟨h,eh,hh,Hh⟩:=yp y' g hy' hg;obtain ⟨i,ei,hi,Hi⟩:=ul d c hd hc;obtain ⟨j,ej,hj,Hj⟩:=ul h f hh hf;have e0:kG ⟨x,y,false,z⟩ ⟨x',y',false,z'⟩=zaI ⟨x,y,false,z⟩ ⟨x',y',false,z'⟩ c f i j:=by subst ej ei eh eg ef ee ed ec eb ea;rfl
   rw [e0];unfold zaI;refine rS [.v,.v,.l 1] H2 kr fun gs3 w3 H3=>zI<|wW<|dSg (fun gs4=>[.v,.l 0,.v,.l 0,.c Ha,.v,.l 1,.v,.l 1,.c Hb,.a,.a,.s 3,.s 4]) H3 kr fun gs4 w4 H4=>ye [2,3,4,5,6] fun ρ1=>dSg (fun gs5=>[.v,.v,.l 0,.l 4,.c Hc,.v,.v,.l 1,.l 3,.c Hd,.a,.a,.s 5,.s 6]) H4.keep kr fun gs5 w5 H5=>dSg (fun gs6=>[.v,.v,.l 0,.l 4,.v,.l 1,.c He,.c Hf,.v,.v,.l 1,.l 3,.v,.l 0,.c Hg,.c Hh,.a,.a,.s 7,.s 8]) H5 kr fun gs6 w6 H6=>ye [2,3,4,5,6,7,8,9,10] fun ρ2=>dSg (fun gs7=>[.l 6,.l 5,.c Hi,.l 8,.l 7,.c Hj,.a,.a,.s 9,.s 10]) H6.keep kr fun gs7 w7 H7=>zb kr ?_;by_cases hi0:i=0
   ·refine rS [.l 9,.v,.oe (neE (x:=65) (y:=66) hi) (by rw [decide_eq_true hi0];rfl:_=Value.bool false)] H7 kr fun gs8 w8 H8=>zI<|wW<|zb kr ?_;rw [if_pos hi0];by_cases hj0:j=0
    ·refine rS [.l 10,.v,.oe (neE (x:=93) (y:=94) hj) (by rw [decide_eq_true hj0];rfl:_=Value.bool false)] H8 kr fun gs9 w9 H9=>zI<|wW ?_;rw [if_pos hj0];refine rS [.l 0,.c (zjb ⟨x,y,false,z⟩ ⟨hx,hy,hz⟩),.s 2] H9 kr fun gs10 w10 H10=>?_;exact rR [.cell 4 143] [2] (wpq (jR ⟨x,y,false,z⟩)) H10 kr
    ·refine rS [.l 10,.v,.oe (neE (x:=93) (y:=94) hj) (by rw [decide_eq_false hj0];rfl:_=Value.bool true)] H8 kr fun gs9 w9 H9=>zi kr kr ?_;rw [if_neg hj0];refine rS [.c zeG,.s 2] H9 kr fun gs10 w10 H10=>?_;exact rR [.cell 4 143] [2] (wpq vn) H10 kr
   ·obtain ⟨k,ek,hk,Hk⟩:=yp i i hi hi;obtain ⟨l,el,hl,Hl⟩:=yp k i hk hi;obtain ⟨m,em',hm,Hm⟩:=yp c k hc hk;obtain ⟨n,en,hn,Hn⟩:=uk m l hm hl;obtain ⟨r,er,hr,Hr⟩:=yp f l hf hl;obtain ⟨s,es,hs,Hs⟩:=yp z z' hz hz';obtain ⟨t,et,ht,Ht⟩:=yp s i hs hi;refine rS [.l 9,.v,.oe (neE (x:=65) (y:=66) hi) (by rw [decide_eq_false hi0];rfl:_=Value.bool true)] H7 kr fun gs8 w8 H8=>zi kr kr ?_;rw [if_neg hi0];refine rS [.l 9,.l 9,.c Hk,.a,.s 11] H8 kr fun gs9 w9 H9=>rS [.l 11,.l 9,.c Hl,.a,.s 12] H9 kr fun gs10 w10 H10=>rS [.l 5,.l 11,.c Hm,.s 5] H10 kr fun gs11 w11 H11=>dS [.l 10,.l 5,.l 5,.l 12,.c Hn,.l 7,.l 12,.c Hr,.v,.l 0,.v,.l 1,.c Hs,.l 9,.c Ht,.c (zja j m n r t hj hm hn hr ht),.s 2] H11 kr fun w12 H12=>?_;exact rRe [.cell 4 143] [2] H12 (show wpq (vp j m n r t)=wpq (zi4 c f i j (mQ i i) (mQ z z')) from by subst et es er en em' el ek;rfl) kr
def ivQ (a M:Nat):Nat:=pm a M 256 (M-2)
theorem zeH {M:Nat}(h:MOK M)(a:Nat):finv a M=ivQ a M:=by
 obtain ⟨h1,h2⟩:=h;have e:df M 2=M-2:=by
  have hb:big=0x10000000000000000000000000000000000000000000000000000000000000000:=rfl;unfold df;rw [show M+big-2=M-2+big by omega,Nat.add_mod_right,Nat.mod_eq_of_lt (by omega)]
 unfold finv ivQ;rw [uV,e,zfS a M 256 (M-2) (Nat.lt_of_lt_of_le (show M-2<big by omega) (by unfold big;decide))]
def zaJ (x y v:Nat):Value:=pq (mQ x (mQ v v)) (mQ y (mQ (mQ v v) v)) false
theorem zqk (p:Wq)(hp:p.Ok)(hb:p.b=false)(hz0:rs p.Z 0 PR≠0):Fn Tryz.prog 82 #[wpq p] (zaJ p.X p.Y (ivQ p.Z PR)):=by
 obtain ⟨x,y,bb,z⟩:=p;obtain ⟨hx,hy,hz⟩:=hp;simp only at hx hy hz hb hz0;subst hb;obtain ⟨v,e0,hv,Hv⟩:∃v,v=ivQ z PR∧v<big∧Fn Tryz.prog 83 #[uv z,.int .i64 0] (.tuple #[uv v,.int .i64 0]):=⟨_,rfl,by rw [←zeH qP];exact zdh qP,by rw [←zeH qP];exact zlm z hz hz0⟩
 obtain ⟨a,ea,ha,Ha⟩:=yp v v hv hv;obtain ⟨b,eb,hb,Hb⟩:=yp x a hx ha;obtain ⟨c,ec,hc,Hc⟩:=yp a v ha hv;obtain ⟨d,ed,hd,Hd⟩:=yp y c hy hc;refine Fn.intro (c:=zd Tryz.f82) [.cell 2 114] 33 Tryz.func82 kr kr kr fun w=>rS [.b,.a] (St.start w) kr fun gs1 w1 H1=>zb kr<|rS [.v,.v,.l 0] H1 kr fun gs2 w2 H2=>zI<|wW<|rS [.v,.l 0,.c Hv,.v,.v,.v,.a,.s 2,.v] H2 kr fun gs3 w3 H3=>rS [.l 2,.l 2,.c Ha,.a,.s 3] H3 kr fun gs4 w4 H4=>dS [.v,.v,.l 0,.l 3,.c Hb,.v,.v,.l 0,.l 3,.l 2,.c Hc,.c Hd,.v,.s 1] H4 kr fun w5 H5=>?_;exact rRe [.cell 2 114] [1] H5 (show pq b d false=zaJ x y (ivQ z PR) from by subst ed ec eb ea e0;rfl) kr
set_option maxRecDepth 100000
set_option maxHeartbeats 4000000
def qK (p:Wq):Nat→Wq
 | 0=>vn
 | k+1=>kG (qK p k) p
theorem zcB {p:Wq}(h:p.Ok): ∀k,(qK p k).Ok
 | 0=>zeF
 | k+1=>zi7 (zcB h k) h
def zjd (t:Wq):Wq:=jR (jR (jR (jR t)))
theorem zql {t:Wq}(h:t.Ok):(zjd t).Ok:=uj (uj (uj (uj h)))
def xn (n:Nat)(p:Wq):Nat→Wq
 | 0=>vn
 | k+1=>kG (zjd (xn n p k)) (qK p (n / 16^(63-k)%16))
theorem zeI {n:Nat}{p:Wq}(h:p.Ok): ∀k,(xn n p k).Ok
 | 0=>zeF
 | k+1=>zi7 (zql (zeI h k)) (zcB h _)
theorem zcC {X Y:Nat}(hX:X<big)(hY:Y<big):(yw X Y).Ok:=⟨hX,hY,zbu⟩
def qL (X Y k i:Nat):List Value:=bif Nat.ble i k then (Value.cells (wpq (qK (yw X Y) i))).toList else [wZ,wZ,wZ,wZ,wZ,wZ,wZ,wZ,.bool false,wZ,wZ,wZ,wZ]
def shQ (n X Y k:Nat):Value:=.agg ([Value.int .u64 (w0 n),.int .u64 (w1 n),.int .u64 (w2 n),.int .u64 (w3 n)]++(qL X Y k 0++(qL X Y k 1++(qL X Y k 2++(qL X Y k 3++(qL X Y k 4++(qL X Y k 5++(qL X Y k 6++(qL X Y k 7++(qL X Y k 8++(qL X Y k 9++(qL X Y k 10++(qL X Y k 11++(qL X Y k 12++(qL X Y k 13++(qL X Y k 14++(qL X Y k 15))))))))))))))))).toArray
abbrev oS (n X Y k:Nat):Obj:=.cells (Value.cells (shQ n X Y k)) 201 (0,0)
theorem zqm (n X Y k:Nat)(hk:k<15):((Value.cells (shQ n X Y k)).toList.take (4+(k+1)*13)++(Value.cells (wpq (qK (yw X Y) (k+1)))).toList++(Value.cells (shQ n X Y k)).toList.drop (4+(k+1)*13+(Value.cells (wpq (qK (yw X Y) (k+1)))).size)).toArray=Value.cells (shQ n X Y (k+1)):=by
 have h:k=0∨k=1∨k=2∨k=3∨k=4∨k=5∨k=6∨k=7∨k=8∨k=9∨k=10∨k=11∨k=12∨k=13∨k=14:=by omega
 rcases h with rfl|rfl|rfl|rfl|rfl|rfl|rfl|rfl|rfl|rfl|rfl|rfl|rfl|rfl|rfl<;>(show _=_;kernel_rfl)
theorem zje (n X Y:Nat){k q off:Nat}(ho:off=4+q*13)(hq:q<16)(hk:k=q∨k=15):(Value.cells (shQ n X Y k)).extract off (off+13)=Value.cells (wpq (qK (yw X Y) q)):=by
 subst ho;have h:q=0∨q=1∨q=2∨q=3∨q=4∨q=5∨q=6∨q=7∨q=8∨q=9∨q=10∨q=11∨q=12∨q=13∨q=14∨q=15:=by omega
 rcases hk with rfl|rfl<;>rcases h with rfl | rfl | rfl | rfl | rfl | rfl | rfl | rfl | rfl | rfl | rfl | rfl | rfl | rfl | rfl | rfl<;>(show _=_;kernel_rfl)
theorem zeJ (n X Y k:Nat)(hk:k<16):(Value.cells (shQ n X Y k)).size=212:=by
 have h:k=0∨k=1∨k=2∨k=3∨k=4∨k=5∨k=6∨k=7∨k=8∨k=9∨k=10∨k=11∨k=12∨k=13∨k=14∨k=15:=by omega
 rcases h with rfl|rfl|rfl|rfl|rfl|rfl|rfl|rfl|rfl|rfl|rfl|rfl|rfl|rfl|rfl|rfl<;>(show _=_;kernel_rfl)
def xp (n q:Nat):Nat:=n / 2^(64*q)%0x10000000000000000
theorem zqn (n X Y:Nat){q off:Nat}(ho:off=0+q*1)(hq:q<4):(Value.cells (shQ n X Y 15))[off]? =some (.int .u64 ((xp n q:Nat):Int)):=by
 subst ho;unfold xp;have h:q=0∨q=1∨q=2∨q=3:=by omega
 rcases h with rfl|rfl|rfl|rfl
 ·show some (Value.int .u64 (w0 n))=_;unfold w0;rw [show 2^(64*0)=1 from rfl,Nat.div_one]
 ·show some (Value.int .u64 (w1 n))=_;unfold w1;rfl
 ·show some (Value.int .u64 (w2 n))=_;unfold w2;rfl
 ·show some (Value.int .u64 (w3 n))=_;unfold w3;rfl
theorem zqo (n d:Nat):xp n (d*4 / 64) / 2^(d*4%64)%16=n / 16^d%16:=by
 unfold xp;have h16:(16:Nat)^d=2^(64*(d*4 / 64))*2^(d*4%64):=by
  rw [←Nat.pow_add,show (16:Nat)=2^4 from rfl,←Nat.pow_mul];congr 1;omega
 rw [h16,←Nat.div_div_eq_div_mul];generalize n / 2^(64*(d*4 / 64))=X;have hm:d*4%64≤60:=by omega
 generalize d*4%64=m at hm;have e:0x10000000000000000=2^m*2^(64-m):=by rw [←Nat.pow_add,show m+(64-m)=64 by omega]
 rw [e,Nat.mod_mul_right_div_self,Nat.mod_mod_of_dvd];exact ⟨2^(60-m),by rw [show (16:Nat)=2^4 from rfl,←Nat.pow_add];congr 1;omega⟩
def zjf (n X Y:Nat):Nat→Value→World→Prop:=fun B v w'=> ∃b,v=pB b∧B≤b∧w'.heap[b]? =some (oS n X Y 15)
theorem zqp (X Y n:Nat)(hX:X<big)(hY:Y<big)(hn:n<big):FnR Tryz.prog 81 #[pq X Y false,uv n] (fun _=>True) (zjf n X Y):=by
 refine FnR.intro (c:=zd Tryz.f81) [.tmp 4] 35 Tryz.func81 kr kr kr fun w hpre=>?_;have H0:=St.start w;refine rS [.b,.b,.v] H0 kr fun gs1 w1 H1=>rS [.l 1,.v,.b,.v] H1 kr fun gs2 w2 H2=>dS [.v,.c zeG,.v,.v,.v,.s 2] H2 kr fun w3 H3=>zb kr<|rS [.v] H3 kr fun gs4 w4 H4=>zu 0 kr<|yD kr (fun m ρ x=> ∃(k:Nat),15-k=m∧k≤15∧St w.heap.size w x [((gs1 0).b,.cells (Value.cells (pq X Y false)) 114 (0,0)),((gs1 1).b,oU n),((gs2 2).b,oS n X Y k)]∧Is [(2,pB (gs1 0).b),(5,pB (gs2 2).b),(6,iN (k+1))] ρ) 15 ⟨0,rfl,by omega,H4.as kr,isK⟩ ?_;clear H0 H1 H2 H3 H4;rintro _ _ w5 ⟨k,rfl,hk,H5,_,rfl⟩;refine zb kr ?_;by_cases hc:k<15
 ·refine rS [.v,.E (.bool (decide (((k+1:Nat):Int)<16))) (.bool true) (za (decide_eq_true (by omega)))] H5 kr fun gs6 w6 H6=>zi kr kr<|zp kr<|wW<|zb kr<|zu 1 kr ?_
  refine dL [.v,.v,.v,.v,.E (.int .i64 (IntKind.i64.wrap (((k+1:Nat):Int)-1))) (iN k) (zk (by rw [wrap_i64]<;>omega)),.v,.v,.o (ins:=[((.tmp 25),.pointer (some ⟨(gs2 2).b,4,none⟩)),((.tmp 23),iN k)]) (v:=.pointer (some ⟨(gs2 2).b,4+k*13,none⟩)) (fun ρ o w ho hi=>yy (kd:=.i64) (t:=199) (n:=16) (size:=13) kr (x:=(.tmp 25)) (y:=(.tmp 23)) (gs2 2).b 4 k ho hi.1 hi.2.1 (by omega) w),
   .lp 2 (C:=Value.cells (shQ n X Y k)) (W:=Value.cells (wpq (qK (yw X Y) k))) (off:=4+k*13) (n:=13) (by rw [zeJ n X Y k (by omega)];omega) (zje n X Y rfl (by omega) (.inl rfl)),.l 0,.c (zqj X Y),.c (zjc (qK (yw X Y) k) (yw X Y) (zcB (zcC hX hY) k) (zcC hX hY)),.v,.v,
   .o (ins:=[((.tmp 32),.pointer (some ⟨(gs2 2).b,4,none⟩)),((.tmp 20),iN (k+1))]) (v:=.pointer (some ⟨(gs2 2).b,4+(k+1)*13,none⟩)) (fun ρ o w ho hi=>yy (kd:=.i64) (t:=199) (n:=16) (size:=13) kr (x:=(.tmp 32)) (y:=(.tmp 20)) (gs2 2).b 4 (k+1) ho hi.1 hi.2.1 (by omega) w),
   .se 2 (C:=Value.cells (shQ n X Y k)) (C':=Value.cells (shQ n X Y (k+1))) (off:=4+(k+1)*13) (v:=wpq (qK (yw X Y) (k+1))) (by rw [zeJ n X Y k (by omega)];show _+13≤212;omega) (zqm n X Y k hc)] H6 kr fun w7 H7=>?_
  refine wW<|rL [.v,.E (.int .i64 (IntKind.i64.wrap (((k+1:Nat):Int)+1))) (iN (k+1+1)) (zk (yF (a:=k+1) (b:=1) (by omega))),.v] H7 kr fun gs8 w8 H8=>?_;exact ⟨_,show 15-(k+1)<15-k by omega,k+1,rfl,by omega,H8.as kr,isK⟩
 ·obtain rfl:k=15:=by omega
  refine rS [.v,.v] H5 kr fun gs6 w6 H6=>zl kr kr<|ym 0 kr<|wW<|rS [.v,.v] H6 kr fun gs7 w7 H7=>zn kr<|wV ?_;exact ⟨[pB (gs2 2).b],.tmp _ kr .nil,H7.below,(gs2 2).b,rfl,H7.ge 2 (o:=oS n X Y 15) kr,H7.get 2 kr⟩
theorem zqq (n X Y bs d:Nat)(hd:d<64):FnP Tryz.prog 127 #[pB bs,iN d] (fun w=>w.heap[bs]? =some (oS n X Y 15)) (wpq (qK (yw X Y) (n / 16^d%16))):=by
 have hl:xp n (d*4 / 64)<0x10000000000000000:=Nat.mod_lt _ (by decide);have hb:=zqo n d;refine FnP.intro (c:=zd Tryz.f127) [.cell 4 143] 26 Tryz.func127 kr kr kr fun w hP=>rS [.a] (St.start w) kr fun gs1 w1 H1=>rS [.v,.E (.int .i64 (IntKind.i64.wrap ((d:Int)*4))) (iN (d*4)) (zk (uH (a:=d) (b:=4) (by omega))),.v] H1 kr fun gs2 w2 H2=>?_
 refine rS [.v,.v,.E (.int .i64 (IntKind.i64.wrap (((d*4:Nat):Int).tdiv 64))) (iN (d*4 / 64)) (zk (uI (a:=d*4) (b:=64) (by omega))),.v,.v,.o (ins:=[((.tmp 13),pB bs),((.tmp 11),iN (d*4 / 64))]) (v:=.pointer (some ⟨bs,0+(d*4 / 64)*1,none⟩)) (fun ρ o w ho hi=>yy (kd:=.i64) (t:=24) (n:=4) (size:=1) kr (x:=(.tmp 13)) (y:=(.tmp 11)) bs 0 (d*4 / 64) ho hi.1 hi.2.1 (by omega) w),.fs (off:=0+(d*4 / 64)*1) (v:=.int .u64 ((xp n (d*4 / 64):Nat):Int)) hP (zr hP) (zqn n X Y (q:=d*4 / 64) rfl (by omega)),.v,.E (.int .i64 (Int.tmod ((d*4:Nat):Int) 64)) (iN (d*4%64)) (zk (jW (d*4) 64)),
  .E (.int .u64 (Int.fdiv ((xp n (d*4 / 64):Nat):Int) (2^(min (d*4%64) 64)))) (.int .u64 ((xp n (d*4 / 64) / 2^(d*4%64):Nat):Int)) (zk (za3 (xp n (d*4 / 64)) (d*4%64) 64 (by omega))),.v] H2 kr fun gs3 w3 H3=>?_
 refine rS [.v,.v,.E (.int .u64 (Int.tmod (((xp n (d*4 / 64)) / 2^(d*4%64):Nat):Int) 16)) (.int .u64 ((n / 16^d%16:Nat):Int)) (zk ((jW _ 16).trans (by rw [hb]))),.v,.v,.o (ins:=[((.tmp 23),.pointer (some ⟨bs,4,none⟩)),((.tmp 21),.int .u64 ((n / 16^d%16:Nat):Int))]) (v:=.pointer (some ⟨bs,4+(n / 16^d%16)*13,none⟩)) (fun ρ o w ho hi=>yy (kd:=.u64) (t:=199) (n:=16) (size:=13) kr (x:=(.tmp 23)) (y:=(.tmp 21)) bs 4 (n / 16^d%16) ho hi.1 hi.2.1 (Nat.mod_lt _ (by decide)) w),.fp (off:=4+(n / 16^d%16)*13) (n:=13) (W:=Value.cells (wpq (qK (yw X Y) (n / 16^d%16)))) hP (zr hP) (by rw [zeJ n X Y 15 (by omega)];have:=Nat.mod_lt (n / 16^d) (show 0<16 by decide);omega) (zje n X Y rfl (Nat.mod_lt _ (by decide)) (.inr rfl)),.s 0] H3 kr fun gs4 w4 H4=>?_;exact rR [.cell 4 143] [0] (wpq (qK (yw X Y) (n / 16^d%16))) H4 kr
def um (t:Wq):Nat→Wq
 | 0=>t
 | i+1=>jR (um t i)
theorem zeK {t:Wq}(h:t.Ok): ∀i,(um t i).Ok
 | 0=>h
 | i+1=>uj (zeK h i)
abbrev oW0:Obj:=.cells #[wZ,wZ,wZ,wZ,wZ,wZ,wZ,wZ,.bool false,wZ,wZ,wZ,wZ] 143 (0,0)
theorem zqr (n X Y:Nat)(hX:X<big)(hY:Y<big)(ba sa:Nat):FnP Tryz.prog 80 #[.slice (some ⟨ba,0,none⟩) 1 1] (fun w=>w.heap[ba]? =some (.cells #[pB sa] 145 (0,0))∧w.heap[sa]? =some (oS n X Y 15)) (wpq (xn n (yw X Y) 64)):=by
 refine FnP.intro (c:=zd Tryz.f80) [.cell 2 143] 30 Tryz.func80 kr kr kr fun w hP=>?_;have H0:=St.start w;have hw:(yw X Y).Ok:=zcC hX hY;refine rS [.a] H0 kr fun gs1 w1 H1=>rS [.c zeG,.a,.s 1] H1 kr fun gs2 w2 H2=>zb kr<|rS [.v] H2 kr fun gs3 w3 H3=>zu 0 kr<|yD kr (fun m ρ x=> ∃(j:Nat),j=m∧j≤64∧St w.heap.size w x [((gs1 0).b,oW0),((gs2 1).b,oW (xn n (yw X Y) (64-j)))]∧Is [(0,.slice (some ⟨ba,0,none⟩) 1 1),(2,pB (gs1 0).b),(3,pB (gs2 1).b),(4,.int .i64 ((j:Int)-1))] ρ) 64 ⟨64,rfl,by omega,H3.as kr,isK⟩ ?_;clear H0 H1 H2 H3;rintro _ _ w4 ⟨j,rfl,hj,H4,_,rfl⟩;refine zb kr ?_;by_cases hc:1≤j
 ·have ht:=zeI (n:=n) hw (64-j);have hn:xn n (yw X Y) (64-(j-1))=kG (um (xn n (yw X Y) (64-j)) 4) (qK (yw X Y) (n / 16^(j-1)%16)):=by
   rw [show 64-(j-1)=(64-j)+1 by omega];show kG _ (qK _ (n / 16^(63-(64-j))%16))=_;rw [show 63-(64-j)=j-1 by omega];rfl
  generalize xn n (yw X Y) (64-j)=T at H4 ht hn;refine rS [.v,.E (.bool (decide (0≤(j:Int)-1))) (.bool true) (za (decide_eq_true (by omega)))] H4 kr fun gs5 w5 H5=>zi kr kr<|zp kr<|wW<|zb kr<|zu 1 kr<|zb kr<|qg 4 (v:=.int .i64 ((j:Int)-1)) (v':=iN (j-1)) (zk (by omega)) kr<|rS [.v] H5 kr fun gs6 w6 H6=>zu 2 kr<|yD kr (fun m ρ x=> ∃(i:Nat),4-i=m∧i≤4∧St w.heap.size w x [((gs1 0).b,oW0),((gs2 1).b,oW (um T i))]∧Is [(0,.slice (some ⟨ba,0,none⟩) 1 1),(2,pB (gs1 0).b),(3,pB (gs2 1).b),(4,iN (j-1)),(12,iN i)] ρ) 4 ⟨0,rfl,by omega,H6.as kr,isK⟩ ?_;clear H4 H5 H6;rintro _ _ w7 ⟨i,rfl,hi,H7,_,rfl⟩;by_cases hi4:i<4
  ·refine rS [.E (.bool (decide ((i:Int)<4))) (.bool true) (za (decide_eq_true (by omega)))] H7 kr fun gs8 w8 H8=>zb kr<|zi kr kr<|zp kr<|wW<|zb kr<|zu 3 kr<|rL [.l 1,.c (zjb (um T i) (zeK ht i)),.s 1] H8 kr fun gs9 w9 H9=>wW<|rL [.E (.int .i64 (IntKind.i64.wrap ((i:Int)+1))) (iN (i+1)) (zk (yF (a:=i) (b:=1) (by omega))),.v] H9 kr fun gs10 w10 H10=>?_;exact ⟨_,show 4-(i+1)<4-i by omega,i+1,rfl,by omega,H10.as kr,isK⟩
  ·obtain rfl:i=4:=by omega
   refine rS [.v] H7 kr fun gs8 w8 H8=>zb kr<|zl kr kr<|ym 2 kr<|wW<|rS [.v,.v,.v] H8 kr fun gs9 w9 H9=>zu 4 kr<|zaO kr<|rS [.v] H9 kr fun gs10 w10 H10=>zb kr<|zi kr kr<|zp kr<|wW<|zb kr<|zu 5 kr<|rS [.o (ins:=[((.tmp 17),.slice (some ⟨ba,0,none⟩) 1 1),((.tmp 19),iN 0)]) (v:=.pointer (some ⟨ba,0+0*1,none⟩)) (fun ρ o w ho hi=>xT (kd:=.i64) (t:=196) (e:=145) (size:=1) (bytes:=8) kr (x:=(.tmp 17)) (y:=(.tmp 19)) ba 0 1 1 0 ho hi.1 hi.2.1 (by omega) w),.fs (off:=0+0*1) (v:=pB sa) hP.1 (zr hP.1) rfl,.v] H10 kr fun gs11 w11 H11=>dL [.l 1,.v,.v,.cp (pre:=fun w=>w.heap[sa]? =some (oS n X Y 15)) (zqq n X Y sa (j-1) (by omega)) [] (fun w hb _=>(hb.block _ (zr hP.2)).trans hP.2),.c (zjc (um T 4) (qK (yw X Y) (n / 16^(j-1)%16)) (zeK ht 4) (zcB hw _)),.s 1] H11 kr fun w12 H12=>wW<|rL [.v,.v] H12 kr fun gs13 w13 H13=>?_;show WPL _ _ _ _ _ _;refine jV<|rS [.v] H13 kr fun gs14 w14 H14=>zb kr<|zl kr kr<|ym 4 kr<|wW<|rL [.v,.E (.int .i64 (IntKind.i64.wrap (((j-1:Nat):Int)-1))) (.int .i64 (((j-1:Nat):Int)-1)) (zk (wrap_i64 (by omega) (by omega))),.v] H14 kr fun gs15 w15 H15=>?_;refine ⟨_,show j-1<j by omega,j-1,rfl,by omega,?_,isK⟩;rw [hn];exact H15.as kr
 ·obtain rfl:j=0:=by omega
  refine rS [.v,.E (.bool (decide (0≤((0:Nat):Int)-1))) (.bool false) (za (decide_eq_false (by omega)))] H4 kr fun gs5 w5 H5=>zl kr kr<|ym 0 kr<|wW<|rS [.l 1,.s 0] H5 kr fun gs6 w6 H6=>?_;exact rR [.cell 2 143] [0] (wpq (xn n (yw X Y) 64)) H6 kr
theorem zqs (X Y n x y z:Nat)(hX:X<PR)(hY:Y<PR)(ho:mQ Y Y=sqQ X)(hn:n<big)(hT:xn n (yw X Y) 64=⟨x,y,false,z⟩)(hz:rs z 0 PR≠0):Fn Tryz.prog 61 #[pq X Y false,uv n] (.tuple #[zaJ x y (ivQ z PR),.int .i64 0]):=by
 have bX:=Nat.lt_trans hX qP.1;have bY:=Nat.lt_trans hY qP.1;have hok:=zeI (n:=n) (zcC bX bY) 64;have hto:=fun ba sa=>zqr n X Y bX bY ba sa;rw [hT] at hok hto;refine Fn.intro (c:=zd Tryz.f61) [.cell 4 114,.tmp 5] 16 Tryz.func61 kr kr kr fun w=>rS [.b,.b,.a,.v] (St.start w) kr fun gs1 w1 H1=>zb kr<|rS [.l 0,.c (zqi X Y hX hY ho),.v] H1 kr fun gs2 w2 H2=>zI<|wW<|zh [0,1,2,3,4,5,6,7] kr kr<|rp [.l 0,.l 1] H2 kr fun gs3 w3 H3=>wX [2,3,4,5,6,7]<|zjM H3 (some 12) 81 #[pq X Y false,uv n] (fun _=>True) (zjf n X Y) (zqp X Y n bX bY hn) trivial kr kr ?_;rintro _ w4 hB _ ⟨sa,rfl,hle,hh⟩;have H4:=H3.add hB hle hh;refine rp [.nw (fun b=>.slice (some ⟨b,0,none⟩) 1 1) #[pB sa] 145,.w fun nn=>.cp (pre:=fun w=>w.heap[nn 4]? =some (.cells #[pB sa] 145 (0,0))∧w.heap[sa]? =some (oS n X Y 15)) (hto (nn 4) sa) [(4,(nn 4,.cells #[pB sa] 145 (0,0))),(0,(sa,oS n X Y 15))] (fun w _ hd=>⟨hd.1,hd.2.1⟩),.c (zqk ⟨x,y,false,z⟩ hok rfl hz),.s 3,.v] H4 kr fun gs5 w5 H5=>wX []<|zc ?_;exact rR [.cell 4 114,.tmp 5] [3] (.tuple #[zaJ x y (ivQ z PR),.int .i64 0]) H5 kr
def gX:Nat:=0x79be667ef9dcbbac55a06295ce870b07029bfcdb2dce28d959f2815b16f81798
def gY:Nat:=0x483ada7726a3c4655da4fbfc0e1108a8fd17b448a68554199c47d08ffb10d4b8
theorem zqt:Fn Tryz.prog 62 #[] (pq gX gY false):=by
 refine Fn.intro (c:=zd Tryz.f62) [.cell 0 114] 4 Tryz.func62 kr kr kr fun w=>rS [.a] (St.start w) kr fun gs1 w1 H1=>rS [.v,.v,.v,.s 0] H1 kr fun gs2 w2 H2=>?_;exact rR [.cell 0 114] [0] (pq gX gY false) H2 kr
end Go.Proofs.YtpghmdbjmigjlaaGreatDoor
namespace Go.Proofs.YtpghmdbjmigjlaaGreatDoor
open Go Go.RowKit Go.Shelf
set_option linter.unusedVariables false
def zjg:Go.Shelf.Ren:=⟨fun | 99=>88 | 105=>65 | 165=>89 | 166=>38 | 169=>22 | 170=>90 | 206=>134 | 212=>87 | 240=>53 | 241=>135 | 263=>132 | 264=>133 | 276=>74 | 277=>164 | n=>n,fun | 0=>0 | 3=>3 | 4=>4 | 5=>5 | 9=>9 | 20=>20 | 37=>48 | 46=>150 | 51=>156 | 53=>22 | 70=>54 | 72=>56 | 75=>81 | 76=>82 | 80=>58 | 109=>151 | 127=>84 | 146=>203 | 148=>205 | 164=>135 | n=>n,fun n=>n⟩
theorem zqu:Go.Proofs.Lays.n105 Tryz.prog zjg:= {
 mixed:=kr
 f99:=Tryz.func88.trans (congrArg some kr)
 f105:=Tryz.func65.trans (congrArg some kr)
 f165:=Tryz.func89.trans (congrArg some kr)
 f166:=Tryz.func38.trans (congrArg some kr)
 f169:=Tryz.func22.trans (congrArg some kr)
 f170:=Tryz.func90.trans (congrArg some kr)
 f206:=Tryz.func134.trans (congrArg some kr)
 f212:=Tryz.func87.trans (congrArg some kr)
 f240:=Tryz.func53.trans (congrArg some kr)
 f241:=Tryz.func135.trans (congrArg some kr)
 f263:=Tryz.func132.trans (congrArg some kr)
 f264:=Tryz.func133.trans (congrArg some kr)
 f276:=Tryz.func74.trans (congrArg some kr)
 f277:=Tryz.func164.trans (congrArg some kr)
 t0:=Tryz.underlying0
 a0:=Tryz.isAgg0
 z0:=Tryz.sizeOf0
 v0:=Tryz.zeroValue0
 t3:=Tryz.underlying3
 a3:=Tryz.isAgg3
 z3:=Tryz.sizeOf3
 v3:=Tryz.zeroValue3
 t4:=Tryz.underlying4
 a4:=Tryz.isAgg4
 z4:=Tryz.sizeOf4
 v4:=Tryz.zeroValue4
 t5:=Tryz.underlying5
 a5:=Tryz.isAgg5
 z5:=Tryz.sizeOf5
 v5:=Tryz.zeroValue5
 t9:=Tryz.underlying9
 a9:=Tryz.isAgg9
 z9:=Tryz.sizeOf9
 v9:=Tryz.zeroValue9
 t20:=Tryz.underlying20
 a20:=Tryz.isAgg20
 z20:=Tryz.sizeOf20
 v20:=Tryz.zeroValue20
 t37:=Tryz.underlying48
 a37:=Tryz.isAgg48
 z37:=Tryz.sizeOf48
 v37:=Tryz.zeroValue48
 t46:=Tryz.underlying150
 a46:=Tryz.isAgg150
 z46:=Tryz.sizeOf150
 v46:=Tryz.zeroValue150
 t51:=Tryz.underlying156
 a51:=Tryz.isAgg156
 z51:=Tryz.sizeOf156
 v51:=Tryz.zeroValue156
 t53:=Tryz.underlying22
 a53:=Tryz.isAgg22
 z53:=Tryz.sizeOf22
 v53:=Tryz.zeroValue22
 t70:=Tryz.underlying54
 a70:=Tryz.isAgg54
 z70:=Tryz.sizeOf54
 v70:=Tryz.zeroValue54
 t72:=Tryz.underlying56
 a72:=Tryz.isAgg56
 z72:=Tryz.sizeOf56
 v72:=Tryz.zeroValue56
 t75:=Tryz.underlying81
 a75:=Tryz.isAgg81
 z75:=Tryz.sizeOf81
 v75:=Tryz.zeroValue81
 t76:=Tryz.underlying82
 a76:=Tryz.isAgg82
 z76:=Tryz.sizeOf82
 v76:=Tryz.zeroValue82
 t109:=Tryz.underlying151
 a109:=Tryz.isAgg151
 z109:=Tryz.sizeOf151
 v109:=Tryz.zeroValue151
 t127:=Tryz.underlying84
 a127:=Tryz.isAgg84
 z127:=Tryz.sizeOf84
 v127:=Tryz.zeroValue84
 t146:=Tryz.underlying203
 a146:=Tryz.isAgg203
 z146:=Tryz.sizeOf203
 v146:=Tryz.zeroValue203
 t148:=Tryz.underlying205
 a148:=Tryz.isAgg205
 z148:=Tryz.sizeOf205
 v148:=Tryz.zeroValue205
 t164:=Tryz.underlying135
 a164:=Tryz.isAgg135
 z164:=Tryz.sizeOf135
 v164:=Tryz.zeroValue135 }
theorem zqv:Builder.Extra Tryz.prog zjg:= {
 sizeBuilder:=kr
 liesBuilder:=kr
 t5:=Tryz.underlying5
 a5:=Tryz.isAgg5
 z5:=Tryz.sizeOf5
 v5:=Tryz.zeroValue5
 infoByte:=kr
 cellsByte:=kr
 sizeByte:=kr
 neB5:=by decide }
theorem zjh (s:ByteArray)(c:Nat)(hc:c≤1000)(hs:s.size≤1000):Fn Tryz.prog 65 #[.string s,.int .i64 c] (.string ⟨(Lib.repeatL s.data.toList c).toArray⟩):=fun w=>
 (Any.strings_Repeat zqu zqv s c w (by omega) (Nat.le_trans (Nat.mul_le_mul hs hc) (by decide))).mono fun e w' h=>h
end Go.Proofs.YtpghmdbjmigjlaaGreatDoor
namespace Go.Proofs.YtpghmdbjmigjlaaGreatDoor
open Go Go.RowKit Go.Proofs.Sha Go.Proofs.YtpghmdbjmigjlaaGreatDoor.Sh
set_option linter.unusedVariables false
set_option maxRecDepth 100000
set_option maxHeartbeats 4000000
theorem zji (s:ByteArray)(h:s.size≤32):sv (tl s)<big:=by
 have h1:=zd1 (tl s);have h2:256^(tl s).length≤256^32:=Nat.pow_le_pow_right (by omega) h;have h3:(256:Nat)^32=big:=rfl;omega
theorem zeL (a:Nat)(ha:a<big)(h: ¬a=0)(h2:a<NR):Fn Tryz.prog 45 #[uv a] (.bool true):=by
 refine Fn.intro (c:=zd Tryz.f45) [.tmp 2] 18 Tryz.func45 kr kr kr fun w=>rS [.b,.v] (St.start w) kr fun gs1 w1 H1=>rS [.c xz,.v,.v,.v,.a,.s 1,.v] H1 kr fun gs2 w2 H2=>rS [.l 0,.v,.oe (ins:=[((.tmp 9),uv a),((.tmp 10),uv 0)]) (v:=.bool (!decide (a=0))) (v':=.bool true) (fun ρ o w ho hi=>kW a 0 ha qG w ho hi.1 hi.2.1) (by rw [decide_eq_false h]<;>rfl),.v,.l 0,.l 1,.c (xy a NR ha qu.1),.E (.bool (decide (cm a NR<0))) (.bool true) (za (decide_eq_true (zdp h2))),.v,.v] H2 kr fun gs3 w3 H3=>?_;exact rR [.tmp 2] [] (.bool true) H3 kr
theorem zjj (a:Nat)(ha:a<big):Fn Tryz.prog 75 #[uv a] (uv (fSub 0 a NR)):=by
 refine Fn.intro (c:=zd Tryz.f75) [.cell 2 24] 12 Tryz.func75 kr kr kr fun w=>rS [.b,.a] (St.start w) kr fun gs1 w1 H1=>rS [.v,.l 0,.c (zf5 0 a qG ha),.v,.v,.v,.a,.s 2,.v] H1 kr fun gs2 w2 H2=>rS [.l 2,.s 1] H2 kr fun gs3 w3 H3=>?_;exact rR [.cell 2 24] [1] (uv (fSub 0 a NR)) H3 kr
theorem zqw (a:Nat)(ha:a<big)(h: ¬a<fSub 0 a NR):Fn Tryz.prog 54 #[uv a] (.bool false):=by
 refine Fn.intro (c:=zd Tryz.f54) [.tmp 2] 8 Tryz.func54 kr kr kr fun w=>rS [.b,.v] (St.start w) kr fun gs1 w1 H1=>dS [.l 0,.l 0,.c (zjj a ha),.c (xy a (fSub 0 a NR) ha (zbj qu)),.E (.bool (decide (cm a (fSub 0 a NR)<0))) (.bool false) (za (decide_eq_false (zdq h))),.v] H1 kr fun w2 H2=>?_;exact rR [.tmp 2] [] (.bool false) H2 kr
theorem zqx (x y:Nat)(hx:x<big)(hy:y<big):Fn Tryz.prog 85 #[uv x,uv y] (uv (fAdd x y NR)):=by
 refine Fn.intro (c:=zd Tryz.f85) [.cell 4 24] 14 Tryz.func85 kr kr kr fun w=>rS [.b,.b,.a] (St.start w) kr fun gs1 w1 H1=>rS [.l 0,.l 1,.c (zli x y hx hy),.v,.v,.v,.a,.s 3,.v] H1 kr fun gs2 w2 H2=>rS [.l 3,.s 2] H2 kr fun gs3 w3 H3=>?_;exact rR [.cell 4 24] [2] (uv (fAdd x y NR)) H3 kr
theorem zjk (x y:Nat)(hx:x<big)(hy:y<big):Fn Tryz.prog 84 #[uv x,uv y] (uv (fMul x y NR)):=by
 refine Fn.intro (c:=zd Tryz.f84) [.cell 4 24] 14 Tryz.func84 kr kr kr fun w=>rS [.b,.b,.a] (St.start w) kr fun gs1 w1 H1=>rS [.l 0,.l 1,.c (zlj x y hx hy),.v,.v,.v,.a,.s 3,.v] H1 kr fun gs2 w2 H2=>rS [.l 3,.s 2] H2 kr fun gs3 w3 H3=>?_;exact rR [.cell 4 24] [2] (uv (fMul x y NR)) H3 kr
theorem zqy (t:ByteArray)(ht:ByteArray.size t=32):Fn Tryz.prog 44 #[.string t] (.tuple #[uv (rs (sv (tl t)) 0 NR),.int .i64 0]):=by
 refine Fn.intro (c:=zd Tryz.f44) [.cell 2 24,.tmp 3] 20 Tryz.func44 kr kr kr fun w=>rS [.a,.v] (St.start w) kr fun gs1 w1 H1=>zb kr<|rS [.v,.v,.E (.bool (!((ByteArray.size t:Int)==32))) (.bool false) (za (by rw [beq_iff_eq.2 (by omega)];rfl))] H1 kr fun gs2 w2 H2=>zI<|wW<|rS [.v,.c (vT t (by omega)),.v,.v,.v,.a,.s 1,.v] H2 kr fun gs3 w3 H3=>rS [.l 1,.v,.c (zlh (sv (tl t)) 0 (zji t (by omega)) qG),.v,.v,.s 0,.v] H3 kr fun gs4 w4 H4=>?_;exact rR [.cell 2 24,.tmp 3] [0] (.tuple #[uv (rs (sv (tl t)) 0 NR),.int .i64 0]) H4 kr
theorem zqz (X Y n x h i s:Nat)(hX:X<NR)(hX0: ¬X=0)(hn:n<big)(hx:x<big)(hh:h<big)(hz:rs n 0 NR≠0)(hi:finv n NR=i)
 (hs:fMul (fAdd h (fMul X x NR) NR) i NR=s) (hs0: ¬s=0) (hl: ¬s<fSub 0 s NR) (hY:bt Y 0=false):Fn Tryz.prog 63 #[pq X Y false,uv n,uv x,uv h] (.tuple #[sgv X (fSub 0 s NR) 1,.bool true]):=by
 have bX:=Nat.lt_trans hX qu.1;have bi:i<big:=hi▸zdh qu;have bs:s<big:=hs▸zbi qu;have bm:=zbi (A:=X) (B:=x) qu;have ba:=zfW (A:=h) (B:=fMul X x NR) qu;have Hi:=zln n hn hz;rw [hi] at Hi;have Hs:=zjk (fAdd h (fMul X x NR) NR) i ba bi;rw [hs] at Hs;refine Fn.intro (c:=zd Tryz.f63) [.cell 8 26,.tmp 9] 54 Tryz.func63 kr kr kr fun w=>rS [.b,.b,.b,.b,.a,.v] (St.start w) kr fun gs1 w1 H1=>zb kr<|rS [.v,.l 0,.c (zeL X bX hX0 hX),.v] H1 kr fun gs2 w2 H2=>zI<|wW<|rS [.l 1,.c Hi,.v,.v,.v,.a,.s 5,.v] H2 kr fun gs3 w3 H3=>dSg (fun gs4=>[.l 3,.v,.l 0,.l 2,.c (zjk X x bX hx),.c (zqx h (fMul X x NR) hh bm),.l 5,.c Hs,.v,.l 0,.c (zfZ Y 0),.a,.s 6,.v]) H3 kr fun gs4 w4 H4=>zb kr<|rS [.l 6,.v,.oe (ins:=[(.tmp 36,uv s),(.tmp 37,uv 0)]) (v:=.bool (decide (s=0))) (v':=.bool false) (fun ρ o w ho hi=>zdl s 0 bs qG w ho hi.1 hi.2.1) (by rw [decide_eq_false hs0])] H4 kr fun gs5 w5 H5=>zI<|wW<|zb kr<|rS [.l 6,.c (zqw s bs hl),.v] H5 kr fun gs6 w6 H6=>zi kr kr<|rL [.l 6,.c (zjj s bs),.v,.E (.bool (!(bt Y 0))) (.bool true) (za (by rw [hY];rfl)),.s 6,.v] H6 kr fun gs7 w7 H7=>wW<|rS [.v,.l 0,.l 6,.v,.a,.s 7] H7 kr fun gs8 w8 H8=>zb kr<|rS [.v] H8 kr fun gs9 w9 H9=>zi kr kr<|rL [.v,.s 7] H9 kr fun gs10 w10 H10=>wW<|rS [.l 7,.s 4,.v] H10 kr fun gs11 w11 H11=>?_;exact rR [.cell 8 26,.tmp 9] [4] (.tuple #[sgv X (fSub 0 s NR) 1,.bool true]) H11 kr
def zeM (k v:ByteArray):Value:=.agg #[.string k,.string v]
def zcD (k:ByteArray)(t:List UInt8):ByteArray:=zf (zeB (tl k) t)
theorem vq (k:ByteArray)(t:List UInt8):(zcD k t).size=32:=ziU _
def stK (k v t:ByteArray):ByteArray:=zcD k (tls [v,t])
def stV (k v t:ByteArray):ByteArray:=zcD (stK k v t) (tls [v])
theorem zjl (k v t:ByteArray)(hk:k.size≤64)(hv:v.size≤64)(ht:t.size≤100):FnP Tryz.prog 66 #[zeM k v,.string t] Roots (zeM (stK k v t) (stV k v t)):=by
 have hs2:(tls [v,t]).length≤1000000:=by show (tl v++(tl t++ [])).length≤_;rw [List.length_append,List.length_append,zy,zy];show _+(_+0)≤_;omega
 have hs1:(tls [v]).length≤1000000:=by show (tl v++ []).length≤_;rw [List.length_append,zy];show _+0≤_;omega
 have h2:=fun b=>zeD k hk b [v,t] (show 2≤1000 by decide) hs2;have h1:=fun b=>zeD (stK k v t) (by rw [stK,vq];decide) b [v] (show 1≤1000 by decide) hs1;refine FnP.intro (c:=zd Tryz.f66) [.cell 4 122] 21 Tryz.func66 kr kr kr fun w hP=>?_;obtain ⟨T,fz,hP⟩:=hP;refine rS [.b,.a] (St.start w) kr fun gs1 w1 H1=>rS [.v,.l 0,.v,.l 0,.v,.nw (fun b=>.slice (some ⟨b,0,none⟩) 2 2) #[.string v,.string t] 9,.w fun nn=>.cp (pre:=fun w=>Roots w∧w.heap[nn 2]? =some (.cells #[.string v,.string t] 9 (0,0))) (h2 (nn 2)) [(2,(nn 2,.cells #[.string v,.string t] 9 (0,0)))] (fun w hb hd=>⟨⟨T,fz,(hb.block _ (zr hP)).trans hP⟩,hd.1⟩),.v,.s 0] H1 kr fun gs2 w2 H2=>rS [.v,.l 0,.v,.l 0,.nw (fun b=>.slice (some ⟨b,0,none⟩) 1 1) #[.string v] 9,.w fun nn=>.cp (pre:=fun w=>Roots w∧w.heap[nn 3]? =some (.cells #[.string v] 9 (0,0))) (h1 (nn 3)) [(3,(nn 3,.cells #[.string v] 9 (0,0)))] (fun w hb hd=>⟨⟨T,fz,(hb.block _ (zr hP)).trans hP⟩,hd.1⟩),.v,.s 0] H2 kr fun gs3 w3 H3=>rS [.l 0,.s 1] H3 kr fun gs4 w4 H4=>?_;exact rR [.cell 4 122] [1] (zeM (stK k v t) (stV k v t)) H4 kr
end Go.Proofs.YtpghmdbjmigjlaaGreatDoor
namespace Go.Proofs.YtpghmdbjmigjlaaGreatDoor
open Go Go.RowKit Go.Proofs.Sha Go.Proofs.YtpghmdbjmigjlaaGreatDoor.Sh
open D2 (Gh)
set_option linter.unusedVariables false
set_option maxRecDepth 100000
set_option maxHeartbeats 4000000
def z32:ByteArray:=⟨(Lib.repeatL [0] 32).toArray⟩
def o32:ByteArray:=⟨(Lib.repeatL [1] 32).toArray⟩
def t0:ByteArray:=⟨#[0]⟩
def t1:ByteArray:=⟨#[1]⟩
def qz (x h:Nat):ByteArray:=bs x++bs h
def k1S (x h:Nat):ByteArray:=stK z32 o32 (t0++qz x h)
def v1S (x h:Nat):ByteArray:=stV z32 o32 (t0++qz x h)
def k2S (x h:Nat):ByteArray:=stK (k1S x h) (v1S x h) (t1++qz x h)
def v2S (x h:Nat):ByteArray:=stV (k1S x h) (v1S x h) (t1++qz x h)
def zcE (x h:Nat):ByteArray:=zcD (k2S x h) (tls [v2S x h])
def nonceN (x h:Nat):Nat:=sv (tl (zcE x h))
theorem zqA:z32.size=32:=by decide+kernel
theorem zqB:o32.size=32:=by decide+kernel
theorem zeN (x h:Nat):(qz x h).size=64:=by unfold qz;rw [ByteArray.size_append,qH,qH]
theorem zqC (x h:Nat):(t0++qz x h).size=65:=by rw [ByteArray.size_append,zeN];rfl
theorem zqD (x h:Nat):(t1++qz x h).size=65:=by rw [ByteArray.size_append,zeN];rfl
theorem zqE (x h:Nat):nonceN x h<big:=zji _ (by rw [zcE,vq];exact Nat.le_refl _)
abbrev zaK (i j:Nat):Value:=.func (.func 64) #[] #[pB i,pB j]
theorem zqF (x h:Nat):FnT Tryz.prog 47 #[uv x,uv h] (fun _=>True) (fun v l=> ∃i j,v=zaK i j∧l=[(i,oU x),(j,oU h)]):=by
 refine FnT.intro (c:=zd Tryz.f47) [.tmp 4] 6 Tryz.func47 kr kr kr fun w _=>rS [.b,.b,.v] (St.start w) kr fun gs1 w1 H1=>rS [.v,.v] H1 kr fun gs2 w2 H2=>rRr [.tmp 4] [] (zaK (gs1 0).b (gs1 1).b) (zU w.heap.size w (fun v l=> ∃i j,v=zaK i j∧l=[(i,oU x),(j,oU h)])) H2 kr ?_;exact ⟨_,⟨_,_,rfl,rfl⟩,H2.as kr⟩
abbrev zaL (x h i j:Nat)(w:World):Prop:=Roots w∧w.heap[i]? =some (oU x)∧w.heap[j]? =some (oU h)
theorem zaL.call {x h i j:Nat}{w w':World}(hp:zaL x h i j w)(hb:Below w.heap.size w w'):zaL x h i j w':=by
 obtain ⟨⟨T,fz,hP⟩,h1,h2⟩:=hp;exact ⟨⟨T,fz,(hb.block _ (zr hP)).trans hP⟩,(hb.block _ (zr h1)).trans h1,(hb.block _ (zr h2)).trans h2⟩
theorem zqG (x h i j:Nat)(hx:x<big)(hh:h<big):ziI Tryz.prog 64 #[pB i,pB j] (uv (nonceN x h)) (zaL x h i j):=by
 intro l J w hp hy;obtain ⟨⟨T,fz,hP⟩,h1,h2⟩:=hp;have sb:=zeN x h;have s0:=zjl z32 o32 (t0++qz x h) (by rw [zqA];decide) (by rw [zqB];decide) (by rw [zqC];decide);have s1:=zjl (k1S x h) (v1S x h) (t1++qz x h) (by unfold k1S stK;rw [vq];decide) (by unfold v1S stV;rw [vq];decide) (by rw [zqD];decide);have kz:(k2S x h).size=32:=by unfold k2S stK;exact vq _ _
 have vz:(v2S x h).size=32:=by unfold v2S stV;exact vq _ _
 have hm:=fun b=>zeD (k2S x h) (by rw [kz];decide) b [v2S x h] (show 1≤1000 by decide) (show (tl (v2S x h)++ []).length≤1000000 by rw [List.append_nil,zy,vz];decide);have nz:(zcE x h).size=32:=vq _ _;refine jS (c:=zd Tryz.f64) (rs:=[]) (N:=42) (args:=#[.func (.yield l) #[] #[],pB i,pB j]) (R:=fun v w'=>J w') Tryz.func64 kr kr kr<|dS [.f h1 (zr h1),.c (v:=.string (bs x)) (zdY x hx),.f h2 (zr h2),.c (v:=.string (bs h)) (zdY h hh),.o (ins:=[(.tmp 9,.string (bs x)),(.tmp 11,.string (bs h))]) (v:=.string (qz x h)) (fun ρ o w ho hi=>kM (t:=9) (t':=9) (x:=.tmp 9) (y:=.tmp 11) (bs x) (bs h) w ho hi.1 hi.2.1 (by rw [qH,qH];decide)),.v] (St.start w) kr fun w1 H1=>rS [.c (v:=.string z32) (zjh t0 32 (by decide) (by decide)),.c (v:=.string o32) (zjh t1 32 (by decide) (by decide)),.v,.a,.s 0] H1 kr fun gs2 w2 H2=>rS [.l 0,.v,.o (ins:=[(.const (.string t0),.string t0),(.tmp 17,.string (qz x h))]) (v:=.string (t0++qz x h)) (fun ρ o w ho hi=>kM (t:=9) (t':=9) (x:=.const (.string t0)) (y:=.tmp 17) t0 (qz x h) w ho hi.1 hi.2.1 (by rw [sb];decide)),.cp (pre:=Roots) s0 [] (fun w hb _=>⟨T,fz,(hb.block _ (zr hP)).trans hP⟩),.v,.o (ins:=[(.const (.string t1),.string t1),(.tmp 20,.string (qz x h))]) (v:=.string (t1++qz x h)) (fun ρ o w ho hi=>kM (t:=9) (t':=9) (x:=.const (.string t1)) (y:=.tmp 20) t1 (qz x h) w ho hi.1 hi.2.1 (by rw [sb];decide)),.cp (pre:=Roots) s1 [] (fun w hb _=>⟨T,fz,(hb.block _ (zr hP)).trans hP⟩),.s 0] H2 kr fun gs3 w3 H3=>zu 0 kr<|zaO kr<|zu 1 kr<|rS [.v,.l 0,.v,.l 0,.nw (fun b=>.slice (some ⟨b,0,none⟩) 1 1) #[.string (v2S x h)] 9,.w fun nn=>.cp (pre:=fun w=>Roots w∧w.heap[nn 1]? =some (.cells #[.string (v2S x h)] 9 (0,0))) (hm (nn 1)) [(1,(nn 1,.cells #[.string (v2S x h)] 9 (0,0)))] (fun w hb hd=>⟨⟨T,fz,(hb.block _ (zr hP)).trans hP⟩,hd.1⟩),.v,.s 0] H3 kr fun gs4 w4 H4=>rS [.v,.l 0,.c (vT (zcE x h) (by omega)),.v,.v,.v,.a,.s 2,.v] H4 kr fun gs5 w5 H5=>zb kr<|zb kr<|zpx [0,1] 2 [3] kr kr<|rp [.v,.l 2] H5 kr fun gs6 w6 H6=>?_;show Yld _ _ _ _ _ _ _ _;refine ⟨some 38,.tmp 36,.tmp 37,#[24],l,uv (nonceN x h),.bool false,J,kr,kr,kr,hy w6 H6.below,kr,fun w7 hj=>?_⟩;refine zj (some 39) (.bool true) (fun w=>by kernel_rfl) kr<|zc<|wW<|zi kr kr ?_;exact zn kr ⟨[],.nil,hj⟩
abbrev oSg (r s:Nat)(v:Int):Obj:=.cells (Value.cells (sgv r s v)) 26 (0,0)
structure zeO (x h r s:Nat):Prop where
 hh:h<big
 hx:x<big
 k0: ¬nonceN x h=0
 kN:nonceN x h<NR
 kz:rs (nonceN x h) 0 NR≠0
 hq:∃y,Fn Tryz.prog 61 #[pq gX gY false,uv (nonceN x h)] (.tuple #[pq r y false,.int .i64 0])∧bt y 0=false
 r0: ¬r=0
 rN:r<NR
 hs:fMul (fAdd h (fMul r x NR) NR) (finv (nonceN x h) NR) NR=s
 s0: ¬s=0
 sl: ¬s<fSub 0 s NR
theorem first_fn (x h r s i j:Nat)(hF:zeO x h r s):FnP Tryz.prog 46 #[zaK i j,uv x,uv h] (zaL x h i j) (sgv r (fSub 0 s NR) 1):=by
 intro w hp;have kb:=zqE x h;obtain ⟨y,hT,hy⟩:=hF.hq;have hB:=zqz r y (nonceN x h) x h _ s hF.rN hF.r0 kb hF.hx hF.hh hF.kz rfl hF.hs hF.s0 hF.sl hy;have hW:=zeL (nonceN x h) kb hF.k0 hF.kN;have hG:=zqG x h i j hF.hx hF.hh;generalize nonceN x h=k at hT hB kb hW hG;have eF:∃z,fSub 0 s NR=z:=⟨_,rfl⟩
 obtain ⟨z,eF⟩:=eF;rw [eF] at hB ⊢;refine zpE (c:=zd Tryz.f46) (N:=33) Tryz.func46 kr kr<|a_S [.b,.b,.a] (St.start w) kr kr fun gs1 w1 H1=>a_S [.a] H1 kr kr fun gs2 w2 H2=>zpA kr<|a_S [.v] H2 kr kr fun gs3 w3 H3=>zpB 0 kr fun a ha=>(wpIn_wide (n:=0)).1 ?_;have H3':St w.heap.size w w3 [((gs1 0).b,oU x),((gs1 1).b,oU h),((gs1 2).b,oSg 0 0 0),((gs2 0).b,oSg 0 0 0)]:=H3.as kr;refine zpz (id:=0) (p:=13) (c:=qf (zw (zq (zw (zw (zd Tryz.f46)))))) kr kr (by decide) kr (fun args w=>rfl) hG (fun w' hb=>(hp.call H3.below).call hb) H3' (fun b2=>b2=[((gs1 0).b,oU x),((gs1 1).b,oU h),((gs1 2).b,oSg 0 0 0),((gs2 0).b,oSg r z 1)]) ?_ ha ?_
 ·intro l D oR oB w4 H4;refine r_L [.a,.s 6] H4 (fun _ _ h=>nomatch h.1) kr fun gs5 w5 H5=>⟨rfl,[(D,dfO),((gs1 0).b,oU x),((gs1 1).b,oU h),((gs1 2).b,oSg 0 0 0),((gs2 0).b,oSg 0 0 0),((gs5 0).b,oU k)],H5.as kr,fun w6 H6=>?_⟩
  refine zpo (id:=1) kr<|zez kr<|r_S [.l 6,.c hW,.v] H6 (fun _ _ h=>nomatch (And.left (h:Exit.outgrown=Exit.exit 0∧_))) kr kr fun gs7 w7 H7=>zpq kr kr<|zpr kr ?_;show WR _ _ _ _ _ _ _;refine zpt (fun gs8=>[.c zqt,.l 6,.c hT,.v,.v,.v,.a,.s 7,.v]) H7 (fun _ _ h=>nomatch (And.left (h:Exit.outgrown=Exit.exit 0∧_))) kr kr kr fun gs8 w8 H8=>r_S [.v] H8 (fun _ _ h=>nomatch (And.left (h:Exit.outgrown=Exit.exit 0∧_))) kr kr fun gs9 w9 H9=>r_S [.l 7,.l 6,.l 2,.l 3,.c hB,.v,.v,.v,.s 5,.v] H9 (fun _ _ h=>nomatch (And.left (h:Exit.outgrown=Exit.exit 0∧_))) kr kr fun gs10 w10 H10=>r_S [.v] H10 (fun _ _ h=>nomatch (And.left (h:Exit.outgrown=Exit.exit 0∧_))) kr kr fun gs11 w11 H11=>zpp kr kr<|zps 0 kr ?_;show Exit.exit 0=Exit.exit 0∧_;have H12:St w.heap.size w w11 ([(l,oB),(D,dfO),((gs1 0).b,oU x),((gs1 1).b,oU h),((gs1 2).b,oSg 0 0 0),((gs2 0).b,oSg r z 1)]++ [((gs5 0).b,oU k),((gs8 6).b,.cells (Value.cells (pq r y false)) 114 (0,0))]):=H11.as kr;exact ⟨rfl,_,rfl,H12.sub (List.sublist_append_left _ _)⟩
 ·rintro l D oE b2 w4 rfl H4;show Code.wp _ _ _ _ _;refine Go.wp_mono (zpC (N:=33) (ds:=[mkD D]) (Q:=fun e ρ w'=>e=.ret∧ρ 6=pB (gs1 2).b∧St w.heap.size w w' [(l,oE),(D,dfO),((gs1 0).b,oU x),((gs1 1).b,oU h),((gs1 2).b,oSg r z 1),((gs2 0).b,oSg r z 1)]) [.l 5,.s 4] H4 kr kr (fun gs5 w5 H5=>zpD kr ⟨rfl,kr,H5.as kr⟩) _ ⟨rfl,⟨rfl,ha.size,ha.at_⟩⟩) ?_;rintro e a' w5 ⟨ρ,hr,rfl,hres,H5⟩;have H6:St w.heap.size w w5 ((D,dfO)::[(l,oE),((gs1 0).b,oU x),((gs1 1).b,oU h),((gs1 2).b,oSg r z 1),((gs2 0).b,oSg r z 1)]):=H5.perm (List.Perm.swap _ _ _);refine zpF (rs:=[.cell 6 26]) (vs:=[sgv r z 1]) hr kr H6 fun w6 H7=>⟨.agg (b:=(gs1 2).b) (Value.cells (sgv r z 1)) 26 (0,0) hres (H7.get 4 kr) kr .nil,rfl,H7.below⟩
theorem zqH (x r s z:Nat)(t:ByteArray)(ht:t.size=32)(x0: ¬x=0)(xN:x<NR)(hF:zeO x (rs (sv (tl t)) 0 NR) r s)(hz:fSub 0 s NR=z):FnP Tryz.prog 28 #[uv x,.string t] Roots (.tuple #[sgv r z 1,.int .i64 0]):=by
 have hn:=zqy t ht;have hW:=zeL x hF.hx x0 xN;generalize rs (sv (tl t)) 0 NR=h at hn hF;have hf:=fun i j=>first_fn x h r s i j hF;rw [hz] at hf;refine FnP.intro (c:=zd Tryz.f28) [.cell 4 26,.tmp 5] 27 Tryz.func28 kr kr kr fun w hP=>?_;obtain ⟨T,fz,hP⟩:=hP;refine rS [.b,.a,.v] (St.start w) kr fun gs1 w1 H1=>rS [.v,.c hn,.v,.v,.v,.a,.s 2,.v] H1 kr fun gs2 w2 H2=>zb kr<|rS [.v,.v,.v,.l 0,.c hW,.v,.v] H2 kr fun gs3 w3 H3=>zI<|wW ?_;have H4:St w.heap.size w w3 [((gs1 0).b,oU x),((gs1 1).b,oSg 0 0 0),((gs2 5).b,oU h)]:=H3.as kr;refine zb kr<|D2.g_draw0 [0,1,2,3,4,5,6,7] [(some 21,fun _=>uv x),(some 22,fun _=>uv h),(some 23,fun y=>zaK y.b y.n),(some 24,fun _=>uv x),(some 25,fun _=>uv h),(some 26,fun _=>sgv r z 1),(none,fun _=>undef),(some 5,fun _=>.int .i64 0)]
  (D2.chn [2,5,6] (fun j g ww=>match j with
   | 0=>St w.heap.size w ww [((gs1 0).b,oU x),((gs1 1).b,oSg 0 0 0),((gs2 5).b,oU h)]
   | 1=>St w.heap.size w ww [((g 2).b,oU x),((g 2).n,oU h),((gs1 0).b,oU x),((gs1 1).b,oSg 0 0 0),((gs2 5).b,oU h)]
   | 2=>St w.heap.size w ww [((g 2).b,oU x),((g 2).n,oU h),((gs1 0).b,oU x),((gs1 1).b,oSg 0 0 0),((gs2 5).b,oU h)]
   | _=>St w.heap.size w ww [((g 2).b,oU x),((g 2).n,oU h),((gs1 0).b,oU x),((gs1 1).b,oSg r z 1),((gs2 5).b,oU h)])) kr kr kr H4.drew ⟨?_,?_,?_,?_,?_,?_,?_,?_,trivial⟩ ?_
 ·exact D2.gv_ld (fun _ _ _ h=>h) 24 (.tmp 2) (fun _=>(gs1 0).b) 0 (Value.cells (uv x)) 24 (0,0) (fun g=>by kernel_rfl) (fun g=>by kernel_rfl) (fun L1 g ww hN hp=>D2.chn.getN hp 0 2 rfl (hN.post 2 kr) fun j hj h=>by
   match j,h with
   | 0,h=>exact St.get h 0 kr) kr kr
 ·exact D2.gv_ld (fun _ _ _ h=>h) 24 (.tmp 6) (fun _=>(gs2 5).b) 0 (Value.cells (uv h)) 24 (0,0) (fun g=>by kernel_rfl) (fun g=>by kernel_rfl) (fun L1 g ww hN hp=>D2.chn.getN hp 0 2 rfl (hN.post 2 kr) fun j hj h=>by
   match j,h with
   | 0,h=>exact St.get h 2 kr) kr kr
 ·refine D2.gv_chn 2 0 (fun L hN=>by
   have e2:=hN.1;have e5:=hN.post 5 kr;have e6:=hN.fwd e5 (show D2.edge _ 5 6=true by kernel_rfl)
   exact ⟨by (simp [D2.stg,e2,e5,e6])<;>rfl,by (simp [D2.stg,D2.put1,e2,e5,e6])<;>rfl⟩) fun g ww hq=>?_
  refine D2.run_ft (zqF x h) trivial kr ?_;rintro _ _ w' ⟨i,j,rfl,rfl⟩ hT;exact ⟨{ b:=i,n:=j },rfl,(St.addAll hq hT).as kr⟩
 ·exact D2.gv_ld (fun _ _ _ h=>h) 24 (.tmp 2) (fun _=>(gs1 0).b) 0 (Value.cells (uv x)) 24 (0,0) (fun g=>by kernel_rfl) (fun g=>by kernel_rfl) (fun L1 g ww hN hp=>D2.chn.getN hp 1 5 rfl (hN.post 5 kr) fun j hj h=>by
   match j,h with
   | 0,h=>exact St.get h 0 kr
   | 1,h=>exact St.get h 2 kr) kr kr
 ·exact D2.gv_ld (fun _ _ _ h=>h) 24 (.tmp 6) (fun _=>(gs2 5).b) 0 (Value.cells (uv h)) 24 (0,0) (fun g=>by kernel_rfl) (fun g=>by kernel_rfl) (fun L1 g ww hN hp=>D2.chn.getN hp 1 5 rfl (hN.post 5 kr) fun j hj h=>by
   match j,h with
   | 0,h=>exact St.get h 2 kr
   | 1,h=>exact St.get h 4 kr) kr kr
 ·refine D2.gv_chn 5 1 (fun L hN=>by
   have e5:=hN.1;have e2:=hN.bef 2 kr;have e6:=hN.post 6 kr
   exact ⟨by (simp [D2.stg,e2,e5,e6])<;>rfl,by (simp [D2.stg,D2.put1,e2,e5,e6])<;>rfl⟩) fun g ww hq=>?_
  exact D2.run_cp (hf (g 2).b (g 2).n) ⟨⟨T,fz,(hq.below.block _ (zr hP)).trans hP⟩,St.get hq 0 kr,St.get hq 1 kr⟩ kr fun w' hb=>⟨default,rfl,hq.call hb⟩
 ·refine D2.gv_chn 6 2 (fun L hN=>by
   have e6:=hN.1;have e5:=hN.bef 5 kr;have e2:=hN.back e5 (show D2.edge _ 2 5=true by kernel_rfl)
   exact ⟨by (simp [D2.stg,e2,e5,e6])<;>rfl,by (simp [D2.stg,D2.put1,e2,e5,e6])<;>rfl⟩) fun g ww hq=>?_
  exact D2.run_sto (t:=26) (x:=.tmp 4) (y:=.tmp 26) (b:=(gs1 1).b) (off:=0) (C:=Value.cells (sgv 0 0 0)) (C':=Value.cells (sgv r z 1)) (T:=26) (v:=sgv r z 1) kr kr kr kr kr (St.get hq 3 kr) (Nat.le_of_ble_eq_true kr) kr ⟨default,rfl,St.store (C:=Value.cells (sgv 0 0 0)) (T:=26) hq 3 kr⟩
 ·exact D2.gv_val (fun _ _ _ h=>h) (fun g w=>by kernel_rfl)
 intro L1 g w5 hall hp9;have H9:=hp9.fin (fun k hk=>hall k (by simp at hk;rcases hk with rfl | rfl | rfl<;>exact Nat.le_of_ble_eq_true kr));refine wW ?_;exact rR [.cell 4 26,.tmp 5] [3] (.tuple #[sgv r z 1,.int .i64 0]) H9 kr
end Go.Proofs.YtpghmdbjmigjlaaGreatDoor
namespace Go.Proofs.YtpghmdbjmigjlaaGreatDoor
open Go Go.RowKit Go.Proofs.Sha Go.Proofs.YtpghmdbjmigjlaaGreatDoor.Sh
set_option linter.unusedVariables false
set_option maxRecDepth 100000
def un:ByteArray:=⟨#[203,189,191,85,196,80,190,163,254,67,206,225,152,32,42,36,114,219,63,13,77,213,7,242,136,29,122,238,194,201,82,92]⟩
def uo:Nat:=0x502f0783e4010199e94d16367f7a6f46913299b7fd6180bc9e30f350afb77084
def zeP:Nat:=0x15fda1a3042ee31d2be9c6fe99e971a430676599514b09fb4716264ec817f4d5
def zcF:Nat:=0xcbbdbf55c450bea3fe43cee198202a2472db3f0d4dd507f2881d7aeec2c9525c
def zcG:Nat:=0xa73a247ba408ce5f8eded389d2c124640afe5004275b89cbc3d3a38ff650e360
def zeQ:Nat:=0xea025e5cfbd11ce2d416390166168e5a8a47774d5dfd964078bc383e081e4c6c
def yL:Nat:=0xe1bc887cdd5c0848dbb01f1b997b3d88bb5adc9f02627cd5e829902c4aa4635a
theorem zqI:rs (sv (tl un)) 0 NR=zcF:=kr
theorem zqJ:nonceN 1 zcF=zcG:=kr
theorem zqK:xn zcG (yw gX gY) 64=⟨0x82c7baab0a2a1e8da1660bffc886405a3d5ea8016d4125cc2b22daa9ab753b42,0x758def3c7467dce6869ecaac2e8d8c0386f3e2fa22d586eda93dc49037d23201,false,0x2c2ebda5a9a382b62512dc29926cbbbb6d95646490bcb87192f5ad50d7f70bae⟩:=kr
theorem zqL:zaJ 0x82c7baab0a2a1e8da1660bffc886405a3d5ea8016d4125cc2b22daa9ab753b42 0x758def3c7467dce6869ecaac2e8d8c0386f3e2fa22d586eda93dc49037d23201 (ivQ 0x2c2ebda5a9a382b62512dc29926cbbbb6d95646490bcb87192f5ad50d7f70bae PR)=pq uo yL false:=kr
theorem zqM:fMul (fAdd zcF (fMul uo 1 NR) NR) (ivQ zcG NR) NR=zeQ:=kr
theorem zqN:zeO 1 zcF uo zeQ:=by
 have hT:=zqs gX gY zcG _ _ _ (by decide+kernel) (by decide+kernel) (by decide+kernel) (by decide+kernel) zqK (by decide+kernel);rw [zqL] at hT;refine ⟨by decide+kernel,zbu,?_,?_,?_,⟨yL,?_,by decide+kernel⟩,by decide+kernel,by decide+kernel,?_,by decide+kernel,by decide+kernel⟩<;>rw [zqJ]
 ·decide+kernel
 ·decide+kernel
 ·decide+kernel
 ·exact hT
 ·rw [zeH qu];exact zqM
theorem zqO:FnP Tryz.prog 28 #[uv 1,.string un] Roots (.tuple #[sgv uo zeP 1,.int .i64 0]):=by
 have h:=zqN;rw [←zqI] at h;exact zqH 1 uo zeQ zeP un rfl (by decide) (by decide+kernel) h kr
end Go.Proofs.YtpghmdbjmigjlaaGreatDoor
namespace Go.Proofs.YtpghmdbjmigjlaaGreatDoor
open Go Go.RowKit
open D2 (Gh)
set_option linter.unusedVariables false
set_option maxRecDepth 100000
set_option maxHeartbeats 4000000
def idL:ByteArray:=strOfNums (List.replicate 32 0)
abbrev ntL:Nte:=⟨2,0,0,idL,0,0,0,0⟩
abbrev ntM:Nte:=⟨2,0,0,idL,0,uo,zeP,1⟩
abbrev zeR:ByteArray:=⟨#[98,110,110,110,98,110]⟩
def vr:ByteArray:=⟨#[110,111,116,101]⟩
def zeS:Fe:=.cons (0,vr) .nil (.cons (2,em) .nil (.cons (0,em) .nil (.cons (0,em) .nil (.cons (0,idL) .nil (.cons (0,em) .nil .nil)))))
def zeT:ByteArray:=⟨#[234,132,110,111,116,101,2,128,128,160,0,0,0,0,0,0,0,0,0,0,0,0,0,0,0,0,0,0,0,0,0,0,0,0,0,0,0,0,0,0,0,0,128]⟩
theorem zqP:wrV zeR zeS=(zeT,0):=kr
theorem zqQ:zf (Kec.sumB (tl zeT))=un:=kr
theorem okL:NtOk ntL:=⟨by decide,by decide,by decide,by decide,by decide+kernel,by decide+kernel,by decide+kernel⟩
theorem okM:NtOk ntM:=⟨by decide,by decide,by decide,by decide,by decide+kernel,by decide+kernel,by decide+kernel⟩
theorem zqR:yo ntM=true:=kr
theorem zqS:ys ntL=true:=kr
theorem zqT (T:List (Nat×Obj)):AllE fS T ([fe0 vr]++kC ntL):=fun x hx=>by
 have z:(0:Nat)<0x10000000000000000:=by decide
 have z2:(2:Nat)<0x10000000000000000:=by decide
 have ze:em.size≤0x800000000000:=Nat.zero_le _;unfold kC at hx;simp only [List.cons_append,List.nil_append,List.mem_cons,List.not_mem_nil,or_false] at hx;rcases hx with rfl | rfl | rfl | rfl | rfl | rfl
 ·exact ⟨RIn.none _ _,z,(by decide:(4:Nat)≤0x800000000000)⟩
 ·exact ⟨RIn.none _ _,z2,ze⟩
 ·exact ⟨RIn.none _ _,z,ze⟩
 ·exact ⟨RIn.none _ _,z,ze⟩
 ·exact ⟨RIn.none _ _,z,by show idL.size≤_;exact Nat.le_trans okL.id (by decide)⟩
 ·exact ⟨RIn.none _ _,z,ze⟩
theorem zqU:FnP Tryz.prog 29 #[ntV ntL] Ke.Marks (.string un):=by
 refine FnP.intro (c:=zd Tryz.f29) [.tmp 2] 16 Tryz.func29 kr kr kr fun w hP=>rS [.b,.v] (St.start w) kr fun gs1 w1 H1=>zh [0,1,2,3,4,5,6,7,8,9,10] kr kr<|rp [.v] H1 kr fun gs2 w2 H2=>wX [1,2,3,4,5,6,7,8,9,10] ?_;have H3:St w.heap.size w w2 [((gs1 0).b,ntO ntL)]:=H2.as kr;refine vJ H3 (some 7) (fun b=>.slice (some ⟨b,0,none⟩) 1 1) (eS.cs (fe0 vr)).toArray 91 kr kr ?_;intro nb w3 H4;refine rp [.l 1] H4 kr fun gs5 w5 H6=>wX [3,4,5,6,7,8,9,10] ?_;have H7:St w.heap.size w w5 [(nb,.cells (eS.cs (fe0 vr)).toArray 91 (0,0)),((gs1 0).b,ntO ntL)]:=H6.as kr;refine qo H7 (some 9) 43 #[ntV ntL] (ziM ntL) trivial kr kr ?_;rintro _ _ w6 ⟨b,rfl,rfl⟩ H8;have hf:=ziL ntL;refine zfM (S:=eS) H8 (some 10) 88 91 48 (.tmp 7) (.tmp 9) 1 nb 1 1 5 5 ⟨b,0,none⟩ (eS.cs (fe0 vr)).toArray (zo eS [fe0 vr]) (kC ntL) kr kr kr kr kr ⟨rfl,Nat.le_refl _,by decide,rfl,rfl⟩ kr rfl (.inr ⟨b,0,xl ntL,91,(0,0),rfl,H8.get 0 rfl,hf.rowAt (S:=eS)⟩) (by decide) (by decide) ?_;intro b' cap' cur' w7 H9 hrn;have H10:St w.heap.size w w7 [(b,.cells (xl ntL) 91 (0,0)),(b',.cells cur' 91 (0,0)),((gs1 0).b,ntO ntL)]:=H9;have hrn2:Rw 3 cur' cap' 6 (zo eS ([fe0 vr]++kC ntL)):=hrn;rw [zei] at hrn2;have hin:RIn fS [(b,.cells (xl ntL) 91 (0,0)),(b',.cells cur' 91 (0,0)),((gs1 0).b,ntO ntL)] (some ⟨b',0,none⟩) 6 zeS:=hrn2.rIn (S:=fS) (ty:=91) (fz:=(0,0)) (by decide) (List.mem_cons_of_mem _ (List.mem_cons_self ..)) (zqT _) (by decide);have hW:=zb7 zeR (some ⟨b',0,none⟩) 6 cap' zeS;rw [zqP] at hW;refine qm H10 (some 11) 42 #[.string zeR,.slice (some ⟨b',0,none⟩) 6 cap'] _ _ hW (hin.at H10 fun e he=>he) (fun w=>by kernel_rfl) kr ?_;intro w8 H11;refine rp [.v,.v,.v,.v,.v] H11 kr fun gs12 w9 H12=>wX []<|zc ?_;have hs:=zib zeT (by decide);rw [zqQ] at hs;refine rS [.v,.cp hs [] (fun w hb _=>yv hP hb),.v] H12 kr fun gs13 w10 H13=>?_;exact rR [.tmp 2] [] (.string un) H13 kr
theorem zqV:FnP Tryz.prog 13 #[uv 1,ntV ntL] (fun w=>Ke.Marks w∧Sh.Roots w) (.tuple #[ntV ntM,.int .i64 0]):=by
 have hW:=ziB ntL;rw [zqS] at hW;have hC:=zgF idL okL.id;refine FnP.intro (c:=zd Tryz.f13) [.cell 4 28,.tmp 5] 30 Tryz.func13 kr kr kr fun w hP=>?_;obtain ⟨hM,T,fz,hR⟩:=hP;refine rS [.b,.b,.a,.v] (St.start w) kr fun gs1 w1 H1=>zb kr<|rS [.l 1,.c hW,.v] H1 kr fun gs2 w2 H2=>zI<|wW<|dSg (fun gs3=>[.l 0,.l 1,.cp (pre:=Ke.Marks) zqU [] (fun w hb _=>yv hM hb),.cp (pre:=Sh.Roots) zqO [] (fun w hb _=>⟨T,fz,(hb.block _ (zr hR)).trans hR⟩),.v,.v,.v,.a,.s 3,.v]) H2 kr fun gs3 w3 H3=>zb kr<|rS [.v,.v] H3 kr fun gs4 w4 H4=>zI<|wW<|dS [.v,.l 1,.c hC,.l 3,.v,.s 1,.v,.s 1] H4 kr fun w5 H5=>rS [.l 1,.s 2,.v] H5 kr fun gs6 w6 H6=>?_;exact rR [.cell 4 28,.tmp 5] [2] (.tuple #[ntV ntM,.int .i64 0]) H6 kr
theorem zcH:FnP Tryz.prog 6 #[] (fun w=>Ke.Marks w∧Sh.Roots w) (.bool true):=by
 have hr:=zex ntM okM;rw [zqR] at hr;refine FnP.intro (c:=zd Tryz.f6) [.tmp 0] 22 Tryz.func6 kr kr kr fun w hP=>?_;obtain ⟨hM,T,fz,hR⟩:=hP;refine rS [.v] (St.start w) kr fun gs1 w1 H1=>rS [.v,.nw (fun b=>.slice (some ⟨b,0,none⟩) 32 32) #[.int .u8 0,.int .u8 0,.int .u8 0,.int .u8 0,.int .u8 0,.int .u8 0,.int .u8 0,.int .u8 0,.int .u8 0,.int .u8 0,.int .u8 0,.int .u8 0,.int .u8 0,.int .u8 0,.int .u8 0,.int .u8 0,.int .u8 0,.int .u8 0,.int .u8 0,.int .u8 0,.int .u8 0,.int .u8 0,.int .u8 0,.int .u8 0,.int .u8 0,.int .u8 0,.int .u8 0,.int .u8 0,.int .u8 0,.int .u8 0,.int .u8 0,.int .u8 0] 5,.w fun nn=>.x (ins:=[((.tmp 5),.slice (some ⟨nn 0,0,none⟩) 32 32)]) [(0,(nn 0,Obj.cells #[.int .u8 0,.int .u8 0,.int .u8 0,.int .u8 0,.int .u8 0,.int .u8 0,.int .u8 0,.int .u8 0,.int .u8 0,.int .u8 0,.int .u8 0,.int .u8 0,.int .u8 0,.int .u8 0,.int .u8 0,.int .u8 0,.int .u8 0,.int .u8 0,.int .u8 0,.int .u8 0,.int .u8 0,.int .u8 0,.int .u8 0,.int .u8 0,.int .u8 0,.int .u8 0,.int .u8 0,.int .u8 0,.int .u8 0,.int .u8 0,.int .u8 0,.int .u8 0] 5 (0,0)))] (xV (t:=48) (t':=9) (e:=5) (List.replicate 32 0) kr kr kr (Rw.lit #[.int .u8 0,.int .u8 0,.int .u8 0,.int .u8 0,.int .u8 0,.int .u8 0,.int .u8 0,.int .u8 0,.int .u8 0,.int .u8 0,.int .u8 0,.int .u8 0,.int .u8 0,.int .u8 0,.int .u8 0,.int .u8 0,.int .u8 0,.int .u8 0,.int .u8 0,.int .u8 0,.int .u8 0,.int .u8 0,.int .u8 0,.int .u8 0,.int .u8 0,.int .u8 0,.int .u8 0,.int .u8 0,.int .u8 0,.int .u8 0,.int .u8 0,.int .u8 0] 32 (by rfl) (by unfold maxLen;omega))),.v,.cp zqV [] (fun w hb _=>⟨yv hM hb,T,fz,(hb.block _ (zr hR)).trans hR⟩),.v,.v,.v,.a,.s 1,.v] H1 kr fun gs2 w2 H2=>rS [.v,.v,.v,.l 1,.c hr,.v,.v,.v,.l 1,.v,.v,.v] H2 kr fun gs3 w3 H3=>?_;exact rR [.tmp 0] [] (.bool true) H3 kr
end Go.Proofs.YtpghmdbjmigjlaaGreatDoor
namespace Go.Proofs.YtpghmdbjmigjlaaGreatDoor
open Go Go.RowKit
open D2 (Gh)
set_option linter.unusedVariables false
set_option maxRecDepth 100000
set_option maxHeartbeats 4000000
structure NtNum (n:Nte):Prop where
 kd:n.kd<0x10000000000000000
 ht:n.ht<0x10000000000000000
 rd:n.rd<0x10000000000000000
 pr:n.pr<0x10000000000000000
 sg:sgOk n.sg
theorem zjm (x y:Nte)(hx:sgOk x.sg)(hy:sgOk y.sg)(w:World):(Op.equalIn 10000 28 (ntV x) (ntV y)).run Tryz.prog w=.ok (decide (x=y)) w:=by
 rw [run_equalIn_struct w 9999 28 _ _ kr kr,
  show (Tryz.prog.fieldsOf 28).toList= [{ name:= "Kind",type:=22,offset:=0,embedded:=false,tag:= "",pkgPath:= "",byteOffset:=0 },{ name:= "Height",type:=22,offset:=1,embedded:=false,tag:= "",pkgPath:= "",byteOffset:=8 },{ name:= "Round",type:=22,offset:=2,embedded:=false,tag:= "",pkgPath:= "",byteOffset:=16 },{ name:= "Id",type:=9,offset:=3,embedded:=false,tag:= "",pkgPath:= "",byteOffset:=24 },{ name:= "Prepared",type:=22,offset:=4,embedded:=false,tag:= "",pkgPath:= "",byteOffset:=40 },{ name:= "Sig",type:=26,offset:=5,embedded:=false,tag:= "",pkgPath:= "",byteOffset:=48 }] by kernel_rfl]
 have p0: ∀x:Nte,(part 22 (ntC x) 0).run Tryz.prog w=.ok (.int .u64 ((x.kd:Nat):Int)) w:=fun x=>by kernel_rfl
 have p1: ∀x:Nte,(part 22 (ntC x) 1).run Tryz.prog w=.ok (.int .u64 ((x.ht:Nat):Int)) w:=fun x=>by kernel_rfl
 have p2: ∀x:Nte,(part 22 (ntC x) 2).run Tryz.prog w=.ok (.int .u64 ((x.rd:Nat):Int)) w:=fun x=>by kernel_rfl
 have p3: ∀x:Nte,(part 9 (ntC x) 3).run Tryz.prog w=.ok (.string x.id) w:=fun x=>by kernel_rfl
 have p4: ∀x:Nte,(part 22 (ntC x) 4).run Tryz.prog w=.ok (.int .u64 ((x.pr:Nat):Int)) w:=fun x=>by kernel_rfl
 have p5: ∀x:Nte,(part 26 (ntC x) 5).run Tryz.prog w=.ok (.agg (Value.cells (sgv x.sg.1 x.sg.2.1 x.sg.2.2))) w:=fun x=>by kernel_rfl
 have ex:(Op.equalIn 9999 9 (.string x.id) (.string y.id)).run Tryz.prog w=.ok (decide (x.id=y.id)) w:=by
  rw [run_equalIn_string w 9998 9 _ _ Tryz.underlying9,vm]
 have en: ∀a b:Nat,(Op.equalIn 9999 22 (.int .u64 ((a:Nat):Int)) (.int .u64 ((b:Nat):Int))).run Tryz.prog w=.ok (decide (a=b)) w:=fun a b=>by
  rw [run_equalIn_int w 9998 22 .u64 .u64 _ _ Tryz.underlying22];by_cases e:a=b
  ·rw [decide_eq_true e,e];simp
  ·rw [decide_eq_false e,beq_eq_false_iff_ne.2 (by omega)]
 have es:=zoh x.sg y.sg hx hy w;have n1:("Kind" :String)≠ "_" :=by decide
 have n2:("Height" :String)≠ "_" :=by decide
 have n3:("Round" :String)≠ "_" :=by decide
 have n4:("Id" :String)≠ "_" :=by decide
 have n5:("Prepared" :String)≠ "_" :=by decide
 have n6:("Sig" :String)≠ "_" :=by decide
 simp only [Op.eqFields,if_pos n1,if_pos n2,if_pos n3,if_pos n4,if_pos n5,if_pos n6,Sem.run_bind,p0,p1,p2,p3,p4,p5,Result.andThen_ok,ex,en,es,Sem.run_ite];obtain ⟨a,b,c,d,e,f⟩:=x;obtain ⟨a',b',c',d',e',f'⟩:=y;by_cases h1:a=a'
 ·by_cases h2:b=b'
  ·by_cases h3:c=c'
   ·by_cases h4:d=d'
    ·by_cases h5:e=e'
     ·by_cases h6:f=f'<;>simp [h1,h2,h3,h4,h5,h6]
     ·simp [h1,h2,h3,h4,h5]
    ·simp [h1,h2,h3,h4]
   ·simp [h1,h2,h3]
  ·simp [h1,h2]
 ·simp [h1]
theorem zqW {ρ:Env}(x y:Nte)(hx:sgOk x.sg)(hy:sgOk y.sg){s t:Operand}{o:Oper}(w:World)(ho:o.op=.binOp .neq 28 s t 28)(h1:ev ρ s=ntV x)(h2:ev ρ t=ntV y):
 (execOp (ev ρ) o).run Tryz.prog w=.ok (.value (.bool (!decide (x=y)))) w:=by
 have h:=zjm x y hx hy w;change ev ρ s=.agg (ntC x) at h1;change ev ρ t=.agg (ntC y) at h2;change (Op.equalIn 10000 28 (.agg (ntC x)) (.agg (ntC y))).run Tryz.prog w=_ at h;generalize ntC x=X at h h1;generalize ntC y=Y at h h2;unfold execOp;simp only [ho,h1,h2,resolve,Sem.run_bind,Sem.run_pure,Result.andThen_ok,run_eqGuard_agg w _ _ _ _ _ _ (show Tryz.prog.eqGuardType Tryz.prog.depth 28=false by kernel_rfl),run_eql_struct,run_neq_struct,h]
theorem uq {ρ:Env}(x y:Nte)(hx:sgOk x.sg)(hy:sgOk y.sg){s t:Operand}{o:Oper}(w:World)(ho:o.op=.binOp .eql 28 s t 28)(h1:ev ρ s=ntV x)(h2:ev ρ t=ntV y):
 (execOp (ev ρ) o).run Tryz.prog w=.ok (.value (.bool (decide (x=y)))) w:=by
 have h:=zjm x y hx hy w;change ev ρ s=.agg (ntC x) at h1;change ev ρ t=.agg (ntC y) at h2;change (Op.equalIn 10000 28 (.agg (ntC x)) (.agg (ntC y))).run Tryz.prog w=_ at h;generalize ntC x=X at h h1;generalize ntC y=Y at h h2;unfold execOp;simp only [ho,h1,h2,resolve,Sem.run_bind,Sem.run_pure,Result.andThen_ok,run_eqGuard_agg w _ _ _ _ _ _ (show Tryz.prog.eqGuardType Tryz.prog.depth 28=false by kernel_rfl),run_eql_struct,h]
theorem zjn (p:Option Addr)(n c:Nat)(A:List Nte)(p':Option Addr)(n' c':Nat)(B:List Nte)(b:Bool)(hb:b=true↔A=B)(hA:A.length≤1000000)(oA: ∀x∈A,sgOk x.sg)(oB: ∀x∈B,sgOk x.sg):FnP Tryz.prog 15 #[.slice p n c,.slice p' n' c'] (fun w=>AtF ntS w p n A∧AtF ntS w p' n' B) (.bool b):=by
 have no:A≠B→b=false:=fun hne=>Bool.eq_false_iff.2 fun e=>hne (hb.1 e);refine FnP.intro (c:=zd Tryz.f15) [.tmp 4] 26 Tryz.func15 kr kr kr fun w hP=>?_;obtain ⟨hP,hP'⟩:=hP;have hn:=hP.1;have hn':=hP'.1;refine rS [.v] (St.start w) kr fun gs1 w1 H1=>zb kr ?_;by_cases en:n=n'
 case neg=>
  refine rS [.v,.v,.v,.v,.E (.bool (!((n:Int)==(n':Int)))) (.bool true) (za (by rw [beq_eq_false_iff_ne.2 (by omega)];rfl))] H1 kr fun gs3 w3 H3=>zV<|rS [.v] H3 kr fun gsr wr Hr=>?_;exact rRe [.tmp 4] [] (v:=.bool false) (v':=.bool b) Hr (za (no fun e=>en (by rw [hn,hn',e])).symm) kr
 subst en;refine rS [.v,.v,.v,.v,.E (.bool (!((n:Int)==(n:Int)))) (.bool false) (za (by rw [beq_iff_eq.2 (by omega)];rfl))] H1 kr fun gs3 w3 H3=>zI<|wW<|zb kr<|rS [.v,.v,.v] H3 kr fun gs4 w4 H4=>qQ 13 12 14 25 0 1 n (by omega) (fun i ρ ww=>A.take i=B.take i∧St w.heap.size w ww []∧Is [(0,.slice p n c),(1,.slice p' n c'),(12,iN n),(13,iN i)] ρ) (by rintro i _ ww ⟨_,_,_,rfl⟩;exact ⟨kr,kr⟩) ⟨rfl,H4.as kr,isK⟩ ?_ ?_
 ·clear H4;rintro i _ w5 hi ⟨htk,H5,_,rfl⟩;obtain ⟨x,hx⟩:∃x,A[i]? =some x:=⟨_,List.getElem?_eq_getElem (by omega)⟩
  obtain ⟨y,hy⟩:∃y,B[i]? =some y:=⟨_,List.getElem?_eq_getElem (by omega)⟩
  obtain ⟨bl,off,C,T,fz,hp,hh,hR⟩:=hP.row2 (by omega);obtain ⟨bl2,off2,C2,T2,fz2,hp2,hh2,hR2⟩:=hP'.row2 (by omega);refine rS [.v,.v] H5 kr fun gs5 w6 H6=>?_;have hit:=fun (v:Bool) (hv:(!decide (x=y))=v) (ρ:Env) (o:Oper) (w:World) (ho:o.op=.binOp .neq 28 (.tmp 19) (.tmp 23) 28) (hi:Ins (ev ρ) [((.tmp 19),ntV x),((.tmp 23),ntV y)])=>(zqW x y (oA x (List.mem_of_getElem? hx)) (oB y (List.mem_of_getElem? hy)) w ho hi.1 hi.2.1).trans (by rw [hv]);by_cases exy:x=y
  ·refine dS [.v,.v,.o (ins:=[((.tmp 16),.slice p n c),((.tmp 17),iN i)]) (v:=.pointer (some ⟨bl,off+i*14,none⟩)) (fun ρ o w ho hi2=>yh (kd:=.i64) (t:=29) (e:=28) (K:=14) (bytes:=120) kr (x:=(.tmp 16)) (y:=(.tmp 17)) bl off n c i hp ho hi2.1 hi2.2.1 (by omega) w),.fp (off:=off+i*14) (n:=14) (W:=ntC x) hh (zr hh) (hR _ _ hx).1 (hR _ _ hx).2,.v,.v,.o (ins:=[((.tmp 20),.slice p' n c'),((.tmp 21),iN i)]) (v:=.pointer (some ⟨bl2,off2+i*14,none⟩)) (fun ρ o w ho hi2=>yh (kd:=.i64) (t:=29) (e:=28) (K:=14) (bytes:=120) kr (x:=(.tmp 20)) (y:=(.tmp 21)) bl2 off2 n c' i hp2 ho hi2.1 hi2.2.1 (by omega) w),.fp (off:=off2+i*14) (n:=14) (W:=ntC y) hh2 (zr hh2) (hR2 _ _ hy).1 (hR2 _ _ hy).2,.o (hit false (by rw [decide_eq_true exy];rfl))] H6 kr fun w7 H7=>zI ?_;exact ⟨kr,by rw [ju hx,ju hy,htk,exy],H7.as kr,isK⟩
  ·refine dS [.v,.v,.o (ins:=[((.tmp 16),.slice p n c),((.tmp 17),iN i)]) (v:=.pointer (some ⟨bl,off+i*14,none⟩)) (fun ρ o w ho hi2=>yh (kd:=.i64) (t:=29) (e:=28) (K:=14) (bytes:=120) kr (x:=(.tmp 16)) (y:=(.tmp 17)) bl off n c i hp ho hi2.1 hi2.2.1 (by omega) w),.fp (off:=off+i*14) (n:=14) (W:=ntC x) hh (zr hh) (hR _ _ hx).1 (hR _ _ hx).2,.v,.v,.o (ins:=[((.tmp 20),.slice p' n c'),((.tmp 21),iN i)]) (v:=.pointer (some ⟨bl2,off2+i*14,none⟩)) (fun ρ o w ho hi2=>yh (kd:=.i64) (t:=29) (e:=28) (K:=14) (bytes:=120) kr (x:=(.tmp 20)) (y:=(.tmp 21)) bl2 off2 n c' i hp2 ho hi2.1 hi2.2.1 (by omega) w),.fp (off:=off2+i*14) (n:=14) (W:=ntC y) hh2 (zr hh2) (hR2 _ _ hy).1 (hR2 _ _ hy).2,.o (hit true (by rw [decide_eq_false exy];rfl))] H6 kr fun w7 H7=>zV<|rS [.v] H7 kr fun gsr wr Hr=>?_;exact rRe [.tmp 4] [] (v:=.bool false) (v':=.bool b) Hr (za (no fun e=>exy (by rw [e,hy] at hx;exact (Option.some.inj hx).symm)).symm) kr
 ·clear H4;rintro _ w5 ⟨htk,H5,_,rfl⟩;rw [List.take_of_length_le (by omega),List.take_of_length_le (by omega)] at htk;refine wW<|rS [.v] H5 kr fun gs8 w8 H8=>?_;exact rRe [.tmp 4] [] (v:=.bool true) (v':=.bool b) H8 (za (hb.2 htk).symm) kr
def jx (n:Nte):Nte:= { n with id:=n.id.extract 0 (min n.id.size 40) }
def jf (l:List Nte):List Nte:=(l.take 20).map jx
theorem zjo {n:Nte}(h:NtNum n):NtOk (jx n):=⟨h.kd,h.ht,h.rd,h.pr,by show (n.id.extract 0 (min n.id.size 40)).size≤_;rw [ByteArray.size_extract];omega,h.sg⟩
theorem zjp {l:List Nte}(h: ∀x∈l,NtNum x): ∀x∈jf l,NtOk x:=fun x hx=>by
 obtain ⟨y,hy,rfl⟩:=List.mem_map.1 hx;exact zjo (h y (List.mem_of_mem_take hy))
theorem zcI (l:List Nte):(jf l).length≤20:=by unfold jf;rw [List.length_map,List.length_take];omega
theorem zjq (x:Nte):Fn Tryz.prog 8 #[ntV x] (ntV (jx x)):=by
 refine Fn.intro (c:=zd Tryz.f8) [.cell 2 28] 12 Tryz.func8 kr kr kr fun w=>rS [.b,.a] (St.start w) kr fun gs1 w1 H1=>rS [.v,.l 0,.v,.l 0,.v,.E (.int .i64 (if (40:Int)<((x.id.size:Nat):Int) then (40:Int) else ((x.id.size:Nat):Int))) (iN (min x.id.size 40)) (zk (by split<;>omega)),.o (ins:=[((.tmp 4),.string x.id),((.tmp 8),iN (min x.id.size 40))]) (v:=.string (x.id.extract 0 (min x.id.size 40))) (fun ρ o w ho hi=>vH (t:=9) (kd:=.i64) kr (x:=(.tmp 4)) (y:=(.tmp 8)) x.id (min x.id.size 40) ho hi.1 hi.2.1 (Nat.min_le_left _ _) w),.v,.s 0] H1 kr fun gs2 w2 H2=>rS [.l 0,.s 1] H2 kr fun gs3 w3 H3=>?_;exact rR [.cell 2 28] [1] (ntV (jx x)) H3 kr
theorem zjr (p:Option Addr)(n c:Nat)(L:List Nte)(hp:yX p n c):FnT Tryz.prog 9 #[.slice p n c] (fun w=>AtF ntS w p n L) (zh4 ntS 28 (jf L)):=by
 refine FnT.intro (c:=zd Tryz.f9) [.tmp 2] 26 Tryz.func9 kr kr kr fun w hP=>?_;have H0:=St.start w;have hn:=hP.1;have hP2:=hP.take (min n 20) (Nat.min_le_left _ _);rw [zo3 hn] at hP2;have hml:min n 20=(L.take 20).length:=hP2.1;unfold jf;generalize hM:L.take 20=M at*;obtain ⟨m,hm⟩:∃m,min n 20=m:=⟨_,rfl⟩
 refine rS [.v] H0 kr fun gs1 w1 H1=>zh [0,1,2,3,4,5,6,7] kr kr<|rp [.nw (fun b=>.slice (some ⟨b,0,none⟩) 0 0) #[] 28,.v,.v,.v,.E (.int .i64 (if (20:Int)<(n:Int) then (20:Int) else (n:Int))) (iN m) (zk (by rw [←hm];split<;>omega)),.o (ins:=[((.tmp 5),.slice p n c),((.tmp 8),iN m)]) (v:=.slice p m c) (fun ρ o w ho hi=>zkt (t:=29) (e:=28) (size:=14) (bytes:=120) (kd:=.i64) kr (x:=(.tmp 5)) (y:=(.tmp 8)) hp (by omega) ho hi.1 hi.2.1 w)] H1 kr fun gs2 w2 H2=>wX [6,7] ?_;have H3:St w.heap.size w w2 [((gs2 0).b,.cells #[] 28 (0,0))]:=H2.as kr;rw [hm] at hP2;refine zo1 (S:=ntS) H3 (some 10) 29 28 120 (.tmp 4) (.tmp 9) 0 (gs2 0).b 0 0 m c p #[] [] M kr kr kr kr kr ⟨rfl,Nat.le_refl _,Nat.zero_le _,rfl,rfl⟩ kr (hP2.call H3.below) (hp.cut (by omega)) (by omega) (by unfold maxLen;omega) ?_;intro b k cur w3 H4 hrw;rw [Nat.zero_add,List.nil_append] at hrw;rw [Nat.zero_add];refine rp [.v] H4 kr fun gs3 w4 H5=>wX []<|zc<|wW<|zb kr<|rS [.v,.v,.v] H5 kr fun gs4 w5 H6=>?_;have H7:St w.heap.size w w5 [(b,.cells cur 28 (0,0))]:=H6.as kr;refine qQ 13 12 14 24 0 1 m (by omega) (fun i ρ ww=> ∃cur,Rw 14 cur k m (zo ntS ((M.take i).map jx++M.drop i))∧St w.heap.size w ww [(b,.cells cur 28 (0,0))]∧Is [(0,.slice (some ⟨b,0,none⟩) m k),(11,.slice (some ⟨b,0,none⟩) m k),(12,iN m),(13,iN i)] ρ) (by rintro i _ ww ⟨_,_,_,_,rfl⟩;exact ⟨kr,kr⟩) ⟨cur,hrw,H7,isK⟩ ?_ ?_
 ·clear H0 H1 H2 H3 H4 H5 H6 H7 hrw;rintro i _ w4 hi ⟨cur,hrw,H5,_,rfl⟩;obtain ⟨x,hx⟩:∃x,M[i]? =some x:=⟨_,List.getElem?_eq_getElem (by omega)⟩
  obtain ⟨hx2,hset⟩:=zo4 (g:=jx) hx;have hput:=Rw.setF (S:=ntS) (y:=jx x) hrw hx2 0 (ntV (jx x)) (show 0+14≤14 by decide) rfl;rw [hset] at hput;have hat:=hrw.rowAt (S:=ntS) i x hx2;refine rS [.v,.v] H5 kr fun gs5 w6 H7=>rL [.v,.v,.v,.v,.o (ins:=[((.tmp 18),.slice (some ⟨b,0,none⟩) m k),((.tmp 19),iN i)]) (v:=.pointer (some ⟨b,0+i*14,none⟩)) (fun ρ o w ho hi2=>yh (kd:=.i64) (t:=29) (e:=28) (K:=14) (bytes:=120) kr (x:=(.tmp 18)) (y:=(.tmp 19)) b 0 m k i rfl ho hi2.1 hi2.2.1 (by omega) w),.lp 0 (C:=cur) (off:=0+i*14) (n:=14) (W:=ntC x) hat.1 hat.2,.c (zjq x),.o (ins:=[((.tmp 16),.slice (some ⟨b,0,none⟩) m k),((.tmp 17),iN i)]) (v:=.pointer (some ⟨b,0+i*14,none⟩)) (fun ρ o w ho hi2=>yh (kd:=.i64) (t:=29) (e:=28) (K:=14) (bytes:=120) kr (x:=(.tmp 16)) (y:=(.tmp 17)) b 0 m k i rfl ho hi2.1 hi2.2.1 (by omega) w),.se 0 (C:=cur) (C':=putA cur (0+i*14+0) (ntV (jx x))) (off:=0+i*14) (v:=ntV (jx x)) hput.1 rfl] H7 kr fun gs6 w7 H8=>?_;exact ⟨kr,_,hput.2,H8.as kr,isK⟩
 ·clear H0 H1 H2 H3 H4 H5 H6 H7 hrw;rintro _ w4 ⟨cur,hrw,H5,_,rfl⟩;rw [List.take_of_length_le (by omega),List.drop_of_length_le (by omega),List.append_nil] at hrw;refine wW<|rS [.v,.v] H5 kr fun gs5 w6 H7=>rRr [.tmp 2] [] (.slice (some ⟨b,0,none⟩) m k) (zU w.heap.size w (zh4 ntS 28 (M.map jx))) H7 kr ?_;exact ⟨_,⟨b,m,k,cur,rfl,rfl,hrw⟩,H7.as kr⟩
theorem zqX (m m':Mg)(o:jP m)(o':jP m')(l1:m.cs.length≤1000)(l2:m.ps.length≤1000)(p:Option Addr)(n c:Nat)(q:Option Addr)(k d:Nat)(p':Option Addr)(n' c':Nat)(q':Option Addr)(k' d':Nat):FnP Tryz.prog 7 #[mgV m p n c q k d,mgV m' p' n' c' q' k' d'] (fun w=>qw w m p n q k∧qw w m' p' n' q' k') (.bool (decide (m=m'))):=by
 have s4:=fun b hb=>zjn p n c m.cs p' n' c' m'.cs b hb (by omega) (fun x hx=>(o.cs x hx).sg) (fun x hx=>(o'.cs x hx).sg);have s5:=fun b hb=>zjn q k d m.ps q' k' d' m'.ps b hb (by omega) (fun x hx=>(o.ps x hx).sg) (fun x hx=>(o'.ps x hx).sg);refine FnP.intro (c:=zd Tryz.f7) [.tmp 4] 38 Tryz.func7 kr kr kr fun w hP=>?_;obtain ⟨hP,hP'⟩:=hP;refine rS [.b,.b,.v] (St.start w) kr fun gs1 w1 H1=>?_;by_cases e1:m.n=m'.n
 case neg=>
  refine rS [.v,.l 0,.v,.l 1,.oe (ins:=[(.tmp 6,ntV m.n),(.tmp 8,ntV m'.n)]) (v:=.bool (decide (m.n=m'.n))) (v':=.bool false) (fun ρ o9 w ho hi=>uq m.n m'.n o.n.sg o'.n.sg w ho hi.1 hi.2.1) (za (decide_eq_false e1)),.v,.n,.n,.n,.n,.n,.v,.v,.n,.n,.n,.n,.n,.v,.v,.n,.n,.n,.n,.n,.v,.v,.n,.n,.n,.n,.n,.v,.v] H1 kr fun gs2 w2 H2=>?_;exact rRe [.tmp 4] [] (v:=.bool false) (v':=.bool (decide (m=m'))) H2 (za (decide_eq_false fun e=>e1 (congrArg Mg.n e)).symm) kr
 by_cases e2:m.sl=m'.sl
 case neg=>
  refine rS [.v,.l 0,.v,.l 1,.oe (ins:=[(.tmp 6,ntV m.n),(.tmp 8,ntV m'.n)]) (v:=.bool (decide (m.n=m'.n))) (v':=.bool true) (fun ρ o9 w ho hi=>uq m.n m'.n o.n.sg o'.n.sg w ho hi.1 hi.2.1) (za (decide_eq_true e1)),.v,.v,.l 0,.v,.l 1,.oe (ins:=[(.tmp 12,.agg (Value.cells (sgv m.sl.1 m.sl.2.1 m.sl.2.2))),(.tmp 14,.agg (Value.cells (sgv m'.sl.1 m'.sl.2.1 m'.sl.2.2)))]) (v:=.bool (decide (m.sl.1=m'.sl.1)&&(decide (m.sl.2.1=m'.sl.2.1)&&(m.sl.2.2==m'.sl.2.2)))) (v':=.bool false) (fun ρ o9 w ho hi=>uc m.sl m'.sl o.sl o'.sl w ho hi.1 hi.2.1) (za ((ud _ _).trans (decide_eq_false e2))),.v,.v,.n,.n,.n,.n,.n,.v,.v,.n,.n,.n,.n,.n,.v,.v,.n,.n,.n,.n,.n,.v,.v] H1 kr fun gs2 w2 H2=>?_;exact rRe [.tmp 4] [] (v:=.bool false) (v':=.bool (decide (m=m'))) H2 (za (decide_eq_false fun e=>e2 (congrArg Mg.sl e)).symm) kr
 by_cases e3:m.bk=m'.bk
 case neg=>
  refine rS [.v,.l 0,.v,.l 1,.oe (ins:=[(.tmp 6,ntV m.n),(.tmp 8,ntV m'.n)]) (v:=.bool (decide (m.n=m'.n))) (v':=.bool true) (fun ρ o9 w ho hi=>uq m.n m'.n o.n.sg o'.n.sg w ho hi.1 hi.2.1) (za (decide_eq_true e1)),.v,.v,.l 0,.v,.l 1,.oe (ins:=[(.tmp 12,.agg (Value.cells (sgv m.sl.1 m.sl.2.1 m.sl.2.2))),(.tmp 14,.agg (Value.cells (sgv m'.sl.1 m'.sl.2.1 m'.sl.2.2)))]) (v:=.bool (decide (m.sl.1=m'.sl.1)&&(decide (m.sl.2.1=m'.sl.2.1)&&(m.sl.2.2==m'.sl.2.2)))) (v':=.bool true) (fun ρ o9 w ho hi=>uc m.sl m'.sl o.sl o'.sl w ho hi.1 hi.2.1) (za ((ud _ _).trans (decide_eq_true e2))),.v,.v,.v,.l 0,.v,.l 1,.E (.bool (m.bk.toList==m'.bk.toList)) (.bool false) (za ((vm _ _).trans (decide_eq_false e3))),.v,.v,.n,.n,.n,.n,.n,.v,.v,.n,.n,.n,.n,.n,.v,.v] H1 kr fun gs2 w2 H2=>?_;exact rRe [.tmp 4] [] (v:=.bool false) (v':=.bool (decide (m=m'))) H2 (za (decide_eq_false fun e=>e3 (congrArg Mg.bk e)).symm) kr
 by_cases e4:m.cs=m'.cs
 case neg=>
  refine rS [.v,.l 0,.v,.l 1,.oe (ins:=[(.tmp 6,ntV m.n),(.tmp 8,ntV m'.n)]) (v:=.bool (decide (m.n=m'.n))) (v':=.bool true) (fun ρ o9 w ho hi=>uq m.n m'.n o.n.sg o'.n.sg w ho hi.1 hi.2.1) (za (decide_eq_true e1)),.v,.v,.l 0,.v,.l 1,.oe (ins:=[(.tmp 12,.agg (Value.cells (sgv m.sl.1 m.sl.2.1 m.sl.2.2))),(.tmp 14,.agg (Value.cells (sgv m'.sl.1 m'.sl.2.1 m'.sl.2.2)))]) (v:=.bool (decide (m.sl.1=m'.sl.1)&&(decide (m.sl.2.1=m'.sl.2.1)&&(m.sl.2.2==m'.sl.2.2)))) (v':=.bool true) (fun ρ o9 w ho hi=>uc m.sl m'.sl o.sl o'.sl w ho hi.1 hi.2.1) (za ((ud _ _).trans (decide_eq_true e2))),.v,.v,.v,.l 0,.v,.l 1,.E (.bool (m.bk.toList==m'.bk.toList)) (.bool true) (za ((vm _ _).trans (decide_eq_true e3))),.v,.v,.v,.l 0,.v,.l 1,.cp (pre:=fun w=>AtF ntS w p n m.cs∧AtF ntS w p' n' m'.cs) (s4 false ⟨fun q=>absurd q Bool.false_ne_true,fun q=>absurd q e4⟩) [] (fun w hb hd=>⟨hP.1.call hb,hP'.1.call hb⟩),.v,.v,.n,.n,.n,.n,.n,.v,.v] H1 kr fun gs2 w2 H2=>?_;exact rRe [.tmp 4] [] (v:=.bool false) (v':=.bool (decide (m=m'))) H2 (za (decide_eq_false fun e=>e4 (congrArg Mg.cs e)).symm) kr
 by_cases e5:m.ps=m'.ps
 case neg=>
  refine rS [.v,.l 0,.v,.l 1,.oe (ins:=[(.tmp 6,ntV m.n),(.tmp 8,ntV m'.n)]) (v:=.bool (decide (m.n=m'.n))) (v':=.bool true) (fun ρ o9 w ho hi=>uq m.n m'.n o.n.sg o'.n.sg w ho hi.1 hi.2.1) (za (decide_eq_true e1)),.v,.v,.l 0,.v,.l 1,.oe (ins:=[(.tmp 12,.agg (Value.cells (sgv m.sl.1 m.sl.2.1 m.sl.2.2))),(.tmp 14,.agg (Value.cells (sgv m'.sl.1 m'.sl.2.1 m'.sl.2.2)))]) (v:=.bool (decide (m.sl.1=m'.sl.1)&&(decide (m.sl.2.1=m'.sl.2.1)&&(m.sl.2.2==m'.sl.2.2)))) (v':=.bool true) (fun ρ o9 w ho hi=>uc m.sl m'.sl o.sl o'.sl w ho hi.1 hi.2.1) (za ((ud _ _).trans (decide_eq_true e2))),.v,.v,.v,.l 0,.v,.l 1,.E (.bool (m.bk.toList==m'.bk.toList)) (.bool true) (za ((vm _ _).trans (decide_eq_true e3))),.v,.v,.v,.l 0,.v,.l 1,.cp (pre:=fun w=>AtF ntS w p n m.cs∧AtF ntS w p' n' m'.cs) (s4 true ⟨fun _=>e4,fun _=>rfl⟩) [] (fun w hb hd=>⟨hP.1.call hb,hP'.1.call hb⟩),.v,.v,.v,.l 0,.v,.l 1,.cp (pre:=fun w=>AtF ntS w q k m.ps∧AtF ntS w q' k' m'.ps) (s5 false ⟨fun q=>absurd q Bool.false_ne_true,fun q=>absurd q e5⟩) [] (fun w hb hd=>⟨hP.2.call hb,hP'.2.call hb⟩),.v,.v] H1 kr fun gs2 w2 H2=>?_;exact rRe [.tmp 4] [] (v:=.bool false) (v':=.bool (decide (m=m'))) H2 (za (decide_eq_false fun e=>e5 (congrArg Mg.ps e)).symm) kr
 refine rS [.v,.l 0,.v,.l 1,.oe (ins:=[(.tmp 6,ntV m.n),(.tmp 8,ntV m'.n)]) (v:=.bool (decide (m.n=m'.n))) (v':=.bool true) (fun ρ o9 w ho hi=>uq m.n m'.n o.n.sg o'.n.sg w ho hi.1 hi.2.1) (za (decide_eq_true e1)),.v,.v,.l 0,.v,.l 1,.oe (ins:=[(.tmp 12,.agg (Value.cells (sgv m.sl.1 m.sl.2.1 m.sl.2.2))),(.tmp 14,.agg (Value.cells (sgv m'.sl.1 m'.sl.2.1 m'.sl.2.2)))]) (v:=.bool (decide (m.sl.1=m'.sl.1)&&(decide (m.sl.2.1=m'.sl.2.1)&&(m.sl.2.2==m'.sl.2.2)))) (v':=.bool true) (fun ρ o9 w ho hi=>uc m.sl m'.sl o.sl o'.sl w ho hi.1 hi.2.1) (za ((ud _ _).trans (decide_eq_true e2))),.v,.v,.v,.l 0,.v,.l 1,.E (.bool (m.bk.toList==m'.bk.toList)) (.bool true) (za ((vm _ _).trans (decide_eq_true e3))),.v,.v,.v,.l 0,.v,.l 1,.cp (pre:=fun w=>AtF ntS w p n m.cs∧AtF ntS w p' n' m'.cs) (s4 true ⟨fun _=>e4,fun _=>rfl⟩) [] (fun w hb hd=>⟨hP.1.call hb,hP'.1.call hb⟩),.v,.v,.v,.l 0,.v,.l 1,.cp (pre:=fun w=>AtF ntS w q k m.ps∧AtF ntS w q' k' m'.ps) (s5 true ⟨fun _=>e5,fun _=>rfl⟩) [] (fun w hb hd=>⟨hP.2.call hb,hP'.2.call hb⟩),.v,.v] H1 kr fun gs2 w2 H2=>?_;exact rRe [.tmp 4] [] (v:=.bool true) (v':=.bool (decide (m=m'))) H2 (za (decide_eq_true (by cases m;cases m';simp only at e1 e2 e3 e4 e5;subst e1 e2 e3 e4 e5;rfl)).symm) kr
end Go.Proofs.YtpghmdbjmigjlaaGreatDoor
namespace Go.Proofs.YtpghmdbjmigjlaaGreatDoor
open Go Go.RowKit
open D2 (Gh)
set_option linter.unusedVariables false
set_option maxRecDepth 100000
set_option maxHeartbeats 8000000
structure ur (m:Mg):Prop where
 n:NtNum m.n
 sl:sgOk m.sl
 cs: ∀x∈m.cs,NtNum x
 ps: ∀x∈m.ps,NtNum x
def zS (m:Mg):Mg:=⟨jx m.n,m.sl,m.bk.extract 0 (min m.bk.size 4100),jf m.cs,jf m.ps⟩
theorem zjs {m:Mg}(h:ur m):jP (zS m):=⟨zjo h.n,h.sl,by show (m.bk.extract 0 (min m.bk.size 4100)).size≤_;rw [ByteArray.size_extract];omega,zjp h.cs,zjp h.ps⟩
def zjt (m:Mg)(v:Value)(T:List (Nat×Obj)):Prop:=∃(b n c:Nat) (cur:Array Value) (b2 n2 c2:Nat) (cur2:Array Value),v=mgV (zS m) (some ⟨b,0,none⟩) n c (some ⟨b2,0,none⟩) n2 c2∧T=[(b2,.cells cur2 28 (0,0)),(b,.cells cur 28 (0,0))]∧Rw 14 cur c n (zo ntS (zS m).cs)∧Rw 14 cur2 c2 n2 (zo ntS (zS m).ps)
theorem zju (m:Mg)(p:Option Addr)(n c:Nat)(q:Option Addr)(k d:Nat)(hp:yX p n c)(hq:yX q k d):FnT Tryz.prog 4 #[mgV m p n c q k d] (fun w=>qw w m p n q k) (zjt m):=by
 refine FnT.intro (c:=zd Tryz.f4) [.cell 2 31] 22 Tryz.func4 kr kr kr fun w hP=>?_;have hcut:=zjq m.n;refine rS [.b,.a] (St.start w) kr fun gs1 w1 H1=>?_;have H2:St w.heap.size w w1 [((gs1 0).b,mgO m p n c q k d),((gs1 1).b,mgO ⟨⟨0,0,0,em,0,0,0,0⟩,(0,0,0),em,[],[]⟩ none 0 0 none 0 0)]:=H1.as kr;refine zb kr<|D2.g_draw0 [0,1,2,3,4,5,6,7,8,9,10,11,12,13,14,15,16,17,18,19] [(some 3,fun _=>.pointer (some ⟨(gs1 0).b,0,none⟩)),(some 4,fun _=>ntV m.n),(some 5,fun _=>ntV (jx m.n)),(some 6,fun _=>.pointer (some ⟨(gs1 0).b,14,none⟩)),(some 7,fun _=>.agg (Value.cells (sgv m.sl.1 m.sl.2.1 m.sl.2.2))),(some 8,fun _=>.pointer (some ⟨(gs1 0).b,23,none⟩)),(some 9,fun _=>.string m.bk),(some 10,fun _=>.pointer (some ⟨(gs1 0).b,23,none⟩)),(some 11,fun _=>.string m.bk),(some 12,fun _=>iN m.bk.size),(some 13,fun _=>iN (min m.bk.size 4100)),(some 14,fun _=>.string (m.bk.extract 0 (min m.bk.size 4100))),(some 15,fun _=>.pointer (some ⟨(gs1 0).b,24,none⟩)),(some 16,fun _=>.slice p n c),(some 17,fun y=>.slice (some ⟨y.b,0,none⟩) y.n y.cap),(some 18,fun _=>.pointer (some ⟨(gs1 0).b,25,none⟩)),(some 19,fun _=>.slice q k d),(some 20,fun y=>.slice (some ⟨y.b,0,none⟩) y.n y.cap),(some 21,fun y=>mgV (zS m) (some ⟨(y).b,0,none⟩) (y).n (y).cap (some ⟨(y).l.getD 0 0,0,none⟩) ((y).l.getD 1 0) ((y).l.getD 2 0)),(none,fun _=>undef)]
  (D2.chn [2,14,17,18,19] (fun j g ww=>match j with
  | 0=>St w.heap.size w ww [((gs1 0).b,mgO m p n c q k d),((gs1 1).b,mgO ⟨⟨0,0,0,em,0,0,0,0⟩,(0,0,0),em,[],[]⟩ none 0 0 none 0 0)]
  | 1=>St w.heap.size w ww [((gs1 0).b,mgO m p n c q k d),((gs1 1).b,mgO ⟨⟨0,0,0,em,0,0,0,0⟩,(0,0,0),em,[],[]⟩ none 0 0 none 0 0)]
  | 2=>Rw 14 (g 14).cur (g 14).cap (g 14).n (zo ntS (jf m.cs))∧St w.heap.size w ww [((g 14).b,.cells (g 14).cur 28 (0,0)),((gs1 0).b,mgO m p n c q k d),((gs1 1).b,mgO ⟨⟨0,0,0,em,0,0,0,0⟩,(0,0,0),em,[],[]⟩ none 0 0 none 0 0)]
  | 3=>(Rw 14 (g 14).cur (g 14).cap (g 14).n (zo ntS (jf m.cs))∧Rw 14 (g 17).cur (g 17).cap (g 17).n (zo ntS (jf m.ps)))∧St w.heap.size w ww [((g 17).b,.cells (g 17).cur 28 (0,0)),((g 14).b,.cells (g 14).cur 28 (0,0)),((gs1 0).b,mgO m p n c q k d),((gs1 1).b,mgO ⟨⟨0,0,0,em,0,0,0,0⟩,(0,0,0),em,[],[]⟩ none 0 0 none 0 0)]
  | 4=>((Rw 14 (g 14).cur (g 14).cap (g 14).n (zo ntS (jf m.cs))∧Rw 14 (g 17).cur (g 17).cap (g 17).n (zo ntS (jf m.ps)))∧g 18= { b:=(g 14).b,n:=(g 14).n,cap:=(g 14).cap,l:=[(g 17).b,(g 17).n,(g 17).cap] })∧St w.heap.size w ww [((g 17).b,.cells (g 17).cur 28 (0,0)),((g 14).b,.cells (g 14).cur 28 (0,0)),((gs1 0).b,mgO m p n c q k d),((gs1 1).b,mgO ⟨⟨0,0,0,em,0,0,0,0⟩,(0,0,0),em,[],[]⟩ none 0 0 none 0 0)]
  | _=>((Rw 14 (g 14).cur (g 14).cap (g 14).n (zo ntS (jf m.cs))∧Rw 14 (g 17).cur (g 17).cap (g 17).n (zo ntS (jf m.ps)))∧g 18= { b:=(g 14).b,n:=(g 14).n,cap:=(g 14).cap,l:=[(g 17).b,(g 17).n,(g 17).cap] })∧St w.heap.size w ww [((g 17).b,.cells (g 17).cur 28 (0,0)),((g 14).b,.cells (g 14).cur 28 (0,0)),((gs1 0).b,mgO m p n c q k d),((gs1 1).b,.cells (mgC (zS m) (some ⟨(g 18).b,0,none⟩) (g 18).n (g 18).cap (some ⟨(g 18).l.getD 0 0,0,none⟩) ((g 18).l.getD 1 0) ((g 18).l.getD 2 0)) 31 (0,0))])) kr kr kr H2.drew ⟨?_,?_,?_,?_,?_,?_,?_,?_,?_,?_,?_,?_,?_,?_,?_,?_,?_,?_,?_,?_,trivial⟩ ?_
 ·exact D2.gv_val (fun _ _ _ h=>h) (fun g w=>by kernel_rfl)
 ·exact D2.gv_ld (fun _ _ _ h=>h) 28 (.tmp 3) (fun _=>(gs1 0).b) 0 (mgC m p n c q k d) 31 (0,0) (fun g=>by kernel_rfl) (fun g=>by kernel_rfl) (fun L1 g ww hN hp=>D2.chn.getN hp 0 2 rfl (hN.post 2 kr) fun j hj h=>by
   match j,h with
   | 0,h=>exact St.get h 0 kr) kr kr
 ·refine D2.gv_chn 2 0 (fun L hN=>by
   have e2:=hN.1;have e14:=hN.post 14 kr;have e17:=hN.fwd e14 (show D2.edge _ 14 17=true by kernel_rfl);have e18:=hN.fwd e17 (show D2.edge _ 17 18=true by kernel_rfl);have e19:=hN.fwd e18 (show D2.edge _ 18 19=true by kernel_rfl)
   exact ⟨by (simp [D2.stg,e2,e14,e17,e18,e19])<;>rfl,by (simp [D2.stg,D2.put1,e2,e14,e17,e18,e19])<;>rfl⟩) fun g ww hq1=>?_
  exact D2.run_cp (pr:=fun _=>True) (fun w _=>hcut w) trivial kr fun w' hb=>⟨default,rfl,hq1.call hb⟩
 ·exact D2.gv_val (fun _ _ _ h=>h) (fun g w=>by kernel_rfl)
 ·exact D2.gv_ld (fun _ _ _ h=>h) 26 (.tmp 6) (fun _=>(gs1 0).b) 14 (mgC m p n c q k d) 31 (0,0) (fun g=>by kernel_rfl) (fun g=>by kernel_rfl) (fun L1 g ww hN hp=>D2.chn.getN hp 3 18 rfl (hN.post 18 kr) fun j hj h=>by
   match j,h with
   | 0,h=>exact St.get h 0 kr
   | 1,h=>exact St.get h 0 kr
   | 2,h=>exact St.get h.2 1 kr
   | 3,h=>exact St.get h.2 2 kr) kr kr
 ·exact D2.gv_val (fun _ _ _ h=>h) (fun g w=>by kernel_rfl)
 ·exact D2.gv_ld (fun _ _ _ h=>h) 9 (.tmp 8) (fun _=>(gs1 0).b) 23 (mgC m p n c q k d) 31 (0,0) (fun g=>by kernel_rfl) (fun g=>by kernel_rfl) (fun L1 g ww hN hp=>D2.chn.getN hp 3 18 rfl (hN.fwd (hN.post 11 kr) (show D2.edge _ 11 18=true by kernel_rfl)) fun j hj h=>by
   match j,h with
   | 0,h=>exact St.get h 0 kr
   | 1,h=>exact St.get h 0 kr
   | 2,h=>exact St.get h.2 1 kr
   | 3,h=>exact St.get h.2 2 kr) kr kr
 ·exact D2.gv_val (fun _ _ _ h=>h) (fun g w=>by kernel_rfl)
 ·exact D2.gv_ld (fun _ _ _ h=>h) 9 (.tmp 10) (fun _=>(gs1 0).b) 23 (mgC m p n c q k d) 31 (0,0) (fun g=>by kernel_rfl) (fun g=>by kernel_rfl) (fun L1 g ww hN hp=>D2.chn.getN hp 3 18 rfl (hN.fwd (hN.fwd (hN.fwd (hN.post 9 kr) (show D2.edge _ 9 10=true by kernel_rfl)) (show D2.edge _ 10 11=true by kernel_rfl)) (show D2.edge _ 11 18=true by kernel_rfl)) fun j hj h=>by
   match j,h with
   | 0,h=>exact St.get h 0 kr
   | 1,h=>exact St.get h 0 kr
   | 2,h=>exact St.get h.2 1 kr
   | 3,h=>exact St.get h.2 2 kr) kr kr
 ·exact D2.gv_val (fun _ _ _ h=>h) (fun g w=>by kernel_rfl)
 ·exact D2.gv_valE (V':=.int .i64 (if (4100:Int)<((m.bk.size:Nat):Int) then (4100:Int) else ((m.bk.size:Nat):Int))) (fun _ _ _ h=>h) (fun g w=>by kernel_rfl) (zk (by split<;>omega))
 ·exact D2.gv_op (fun _ _ _ h=>h) (.slice 9 (.tmp 9) none (some (.tmp 13)) none) (fun g=>by kernel_rfl) (fun g o w ho=>vH (t:=9) (kd:=.i64) kr (x:=(.tmp 9)) (y:=(.tmp 13)) m.bk (min m.bk.size 4100) ho kr kr (Nat.min_le_left _ _) w)
 ·exact D2.gv_val (fun _ _ _ h=>h) (fun g w=>by kernel_rfl)
 ·exact D2.gv_ld (fun _ _ _ h=>h) 29 (.tmp 15) (fun _=>(gs1 0).b) 24 (mgC m p n c q k d) 31 (0,0) (fun g=>by kernel_rfl) (fun g=>by kernel_rfl) (fun L1 g ww hN hp=>D2.chn.getN hp 1 14 rfl (hN.post 14 kr) fun j hj h=>by
   match j,h with
   | 0,h=>exact St.get h 0 kr
   | 1,h=>exact St.get h 0 kr) kr kr
 ·refine D2.gv_chn 14 1 (fun L hN=>by
   have e14:=hN.1;have e2:=hN.bef 2 kr;have e17:=hN.post 17 kr;have e18:=hN.fwd e17 (show D2.edge _ 17 18=true by kernel_rfl);have e19:=hN.fwd e18 (show D2.edge _ 18 19=true by kernel_rfl)
   exact ⟨by (simp [D2.stg,e2,e14,e17,e18,e19])<;>rfl,by (simp [D2.stg,D2.put1,e2,e14,e17,e18,e19])<;>rfl⟩) fun g ww hq1=>?_
  refine D2.run_ft (zjr p n c m.cs hp) (hP.1.call (St.below hq1)) kr ?_;rintro _ _ w' ⟨b,m',k',cur,rfl,rfl,hrw⟩ hT;exact ⟨{ b:=b,n:=m',cap:=k',cur:=cur },rfl,hrw,(St.addAll hq1 hT).as kr⟩
 ·exact D2.gv_val (fun _ _ _ h=>h) (fun g w=>by kernel_rfl)
 ·exact D2.gv_ld (fun _ _ _ h=>h) 29 (.tmp 18) (fun _=>(gs1 0).b) 25 (mgC m p n c q k d) 31 (0,0) (fun g=>by kernel_rfl) (fun g=>by kernel_rfl) (fun L1 g ww hN hp=>D2.chn.getN hp 2 17 rfl (hN.post 17 kr) fun j hj h=>by
   match j,h with
   | 0,h=>exact St.get h 0 kr
   | 1,h=>exact St.get h 0 kr
   | 2,h=>exact St.get h.2 1 kr) kr kr
 ·refine D2.gv_chn 17 2 (fun L hN=>by
   have e17:=hN.1;have e14:=hN.bef 14 kr;have e2:=hN.back e14 (show D2.edge _ 2 14=true by kernel_rfl);have e18:=hN.post 18 kr;have e19:=hN.fwd e18 (show D2.edge _ 18 19=true by kernel_rfl)
   exact ⟨by (simp [D2.stg,e2,e14,e17,e18,e19])<;>rfl,by (simp [D2.stg,D2.put1,e2,e14,e17,e18,e19])<;>rfl⟩) fun g ww hq1=>?_
  refine D2.run_ft (zjr q k d m.ps hq) (hP.2.call (St.below hq1.2)) kr ?_;rintro _ _ w' ⟨b,m',k',cur,rfl,rfl,hrw⟩ hT;exact ⟨{ b:=b,n:=m',cap:=k',cur:=cur },rfl,⟨hq1.1,hrw⟩,(St.addAll hq1.2 hT).as kr⟩
 ·refine D2.gv_chn 18 3 (fun L hN=>by
   have e18:=hN.1;have e17:=hN.bef 17 kr;have e14:=hN.back e17 (show D2.edge _ 14 17=true by kernel_rfl);have e2:=hN.back e14 (show D2.edge _ 2 14=true by kernel_rfl);have e19:=hN.post 19 kr
   exact ⟨by (simp [D2.stg,e2,e14,e17,e18,e19])<;>rfl,by (simp [D2.stg,D2.put1,e2,e14,e17,e18,e19])<;>rfl⟩) fun g ww hq1=>?_
  exact D2.run_val (v:=(fun (y:Gh)=>mgV (zS m) (some ⟨(y).b,0,none⟩) (y).n (y).cap (some ⟨(y).l.getD 0 0,0,none⟩) ((y).l.getD 1 0) ((y).l.getD 2 0)) { b:=(g 14).b,n:=(g 14).n,cap:=(g 14).cap,l:=[(g 17).b,(g 17).n,(g 17).cap] }) kr ⟨{ b:=(g 14).b,n:=(g 14).n,cap:=(g 14).cap,l:=[(g 17).b,(g 17).n,(g 17).cap] },rfl,⟨hq1.1,rfl⟩,hq1.2⟩
 ·refine D2.gv_chn 19 4 (fun L hN=>by
   have e19:=hN.1;have e18:=hN.bef 18 kr;have e17:=hN.back e18 (show D2.edge _ 17 18=true by kernel_rfl);have e14:=hN.back e17 (show D2.edge _ 14 17=true by kernel_rfl);have e2:=hN.back e14 (show D2.edge _ 2 14=true by kernel_rfl)
   exact ⟨by (simp [D2.stg,e2,e14,e17,e18,e19])<;>rfl,by (simp [D2.stg,D2.put1,e2,e14,e17,e18,e19])<;>rfl⟩) fun g ww hq1=>?_
  exact D2.run_sto (t:=31) (x:=.tmp 2) (y:=.tmp 21) (b:=(gs1 1).b) (off:=0) (C:=mgC ⟨⟨0,0,0,em,0,0,0,0⟩,(0,0,0),em,[],[]⟩ none 0 0 none 0 0) (C':=mgC (zS m) (some ⟨(g 18).b,0,none⟩) (g 18).n (g 18).cap (some ⟨(g 18).l.getD 0 0,0,none⟩) ((g 18).l.getD 1 0) ((g 18).l.getD 2 0)) (T:=31) (v:=mgV (zS m) (some ⟨(g 18).b,0,none⟩) (g 18).n (g 18).cap (some ⟨(g 18).l.getD 0 0,0,none⟩) ((g 18).l.getD 1 0) ((g 18).l.getD 2 0)) kr kr kr kr kr (St.get hq1.2 3 kr) (Nat.le_of_ble_eq_true kr) kr ⟨g 19,rfl,hq1.1,St.store (C:=mgC ⟨⟨0,0,0,em,0,0,0,0⟩,(0,0,0),em,[],[]⟩ none 0 0 none 0 0) (T:=31) hq1.2 3 kr⟩
 intro L1 g w5 hall hp9;obtain ⟨⟨⟨hr1,hr2⟩,e18⟩,H9⟩:=hp9.fin (fun k hk=>hall k (by simp at hk;rcases hk with rfl | rfl | rfl | rfl | rfl<;>exact Nat.le_of_ble_eq_true kr));refine wW<|rRr [.cell 2 31] [3] (mgV (zS m) (some ⟨(g 18).b,0,none⟩) (g 18).n (g 18).cap (some ⟨(g 18).l.getD 0 0,0,none⟩) ((g 18).l.getD 1 0) ((g 18).l.getD 2 0)) (zU w.heap.size w (zjt m)) H9 kr ?_;refine ⟨[((g 17).b,.cells (g 17).cur 28 (0,0)),((g 14).b,.cells (g 14).cur 28 (0,0))],⟨(g 14).b,(g 14).n,(g 14).cap,(g 14).cur,(g 17).b,(g 17).n,(g 17).cap,(g 17).cur,by rw [e18];rfl,rfl,hr1,hr2⟩,?_⟩;exact St.sub H9 (List.Sublist.cons_cons _ (List.Sublist.cons_cons _ (List.nil_sublist _)))
end Go.Proofs.YtpghmdbjmigjlaaGreatDoor
namespace Go.Proofs.YtpghmdbjmigjlaaGreatDoor
open Go Go.RowKit
open D2 (Gh)
set_option linter.unusedVariables false
set_option maxRecDepth 100000
set_option maxHeartbeats 8000000
theorem zcJ {α:Type}{S:Fl α}{w:World}{b m k:Nat}{cur:Array Value}{T:TypeId}{M:List α}(h:Rw S.K cur k m (zo S M))(hh:w.heap[b]? =some (.cells cur T (0,0))):AtF S w (some ⟨b,0,none⟩) m M:=⟨h.lenF.symm,.inr ⟨b,0,cur,T,(0,0),rfl,hh,h.rowAt⟩⟩
theorem zjv {M:Mg}(h:(je M).2=0):xk M=true∧je M=mgW M:=by
 unfold je at h ⊢;by_cases e:xk M=true
 ·rw [if_pos e];exact ⟨e,rfl⟩
 ·rw [if_neg e] at h;exact absurd h (by decide)
theorem zqY {M N:Mg}(o:jP M)(o':jP N)(h:(je M).2=0)(h':(je N).2=0):(je M).1=(je N).1↔M=N:=by
 obtain ⟨w1,e1⟩:=zjv h;obtain ⟨w2,e2⟩:=zjv h';rw [e1] at h ⊢;rw [e2] at h' ⊢;exact ⟨zoZ o o' w1 w2 h h',fun e=>by rw [e]⟩
theorem zqZ (m m':Mg)(o:ur m)(o':ur m')(p:Option Addr)(n c:Nat)(q:Option Addr)(k d:Nat)(p':Option Addr)(n' c':Nat)(q':Option Addr)(k' d':Nat)(hp:yX p n c)(hq:yX q k d)(hp':yX p' n' c')(hq':yX q' k' d'):FnP Tryz.prog 3 #[mgV m p n c q k d,mgV m' p' n' c' q' k' d'] (fun w=>(qw w m p n q k∧qw w m' p' n' q' k')∧Ke.Marks w∧Sh.Roots w) (.bool true):=by
 refine FnP.intro (c:=zd Tryz.f3) [.tmp 4] 56 Tryz.func3 kr kr kr fun w hP=>?_;obtain ⟨⟨hA,hB⟩,hM,T,fz,hR⟩:=hP;refine rS [.b,.b,.v] (St.start w) kr fun gs1 w1 H1=>?_;have H2:St w.heap.size w w1 [((gs1 0).b,mgO m p n c q k d),((gs1 1).b,mgO m' p' n' c' q' k' d')]:=H1.as kr;refine zb kr<|D2.g_draw0 [0,1,2,3,4,5] [(some 9,fun _=>mgV m p n c q k d),(some 10,fun y=>mgV (zS m) (some ⟨(y).b,0,none⟩) (y).n (y).cap (some ⟨(y).l.getD 0 0,0,none⟩) ((y).l.getD 1 0) ((y).l.getD 2 0)),(some 11,fun _=>mgV m' p' n' c' q' k' d'),(some 12,fun y=>mgV (zS m') (some ⟨(y).b,0,none⟩) (y).n (y).cap (some ⟨(y).l.getD 0 0,0,none⟩) ((y).l.getD 1 0) ((y).l.getD 2 0)),(none,fun _=>undef),(none,fun _=>undef)]
  (D2.chn [1,3,4,5] (fun j g ww=>match j with
  | 0=>St w.heap.size w ww [((gs1 0).b,mgO m p n c q k d),((gs1 1).b,mgO m' p' n' c' q' k' d')]
  | 1=> ∃cu,(Rw 14 (g 1).cur (g 1).cap (g 1).n (zo ntS (zS m).cs)∧Rw 14 cu ((g 1).l.getD 2 0) ((g 1).l.getD 1 0) (zo ntS (zS m).ps))∧St w.heap.size w ww [((g 1).l.getD 0 0,.cells cu 28 (0,0)),((g 1).b,.cells (g 1).cur 28 (0,0)),((gs1 0).b,mgO m p n c q k d),((gs1 1).b,mgO m' p' n' c' q' k' d')]
  | 2=> ∃cu cv,((Rw 14 (g 1).cur (g 1).cap (g 1).n (zo ntS (zS m).cs)∧Rw 14 cu ((g 1).l.getD 2 0) ((g 1).l.getD 1 0) (zo ntS (zS m).ps))∧(Rw 14 (g 3).cur (g 3).cap (g 3).n (zo ntS (zS m').cs)∧Rw 14 cv ((g 3).l.getD 2 0) ((g 3).l.getD 1 0) (zo ntS (zS m').ps)))∧St w.heap.size w ww [((g 3).l.getD 0 0,.cells cv 28 (0,0)),((g 3).b,.cells (g 3).cur 28 (0,0)),((g 1).l.getD 0 0,.cells cu 28 (0,0)),((g 1).b,.cells (g 1).cur 28 (0,0)),((gs1 0).b,mgO m p n c q k d),((gs1 1).b,mgO m' p' n' c' q' k' d')]
  | 3=> ∃cu cv,((Rw 14 (g 1).cur (g 1).cap (g 1).n (zo ntS (zS m).cs)∧Rw 14 cu ((g 1).l.getD 2 0) ((g 1).l.getD 1 0) (zo ntS (zS m).ps))∧(Rw 14 (g 3).cur (g 3).cap (g 3).n (zo ntS (zS m').cs)∧Rw 14 cv ((g 3).l.getD 2 0) ((g 3).l.getD 1 0) (zo ntS (zS m').ps)))∧St w.heap.size w ww [((g 3).l.getD 0 0,.cells cv 28 (0,0)),((g 3).b,.cells (g 3).cur 28 (0,0)),((g 1).l.getD 0 0,.cells cu 28 (0,0)),((g 1).b,.cells (g 1).cur 28 (0,0)),((gs1 0).b,.cells (mgC (zS m) (some ⟨(g 1).b,0,none⟩) (g 1).n (g 1).cap (some ⟨(g 1).l.getD 0 0,0,none⟩) ((g 1).l.getD 1 0) ((g 1).l.getD 2 0)) 31 (0,0)),((gs1 1).b,mgO m' p' n' c' q' k' d')]
  | _=> ∃cu cv,((Rw 14 (g 1).cur (g 1).cap (g 1).n (zo ntS (zS m).cs)∧Rw 14 cu ((g 1).l.getD 2 0) ((g 1).l.getD 1 0) (zo ntS (zS m).ps))∧(Rw 14 (g 3).cur (g 3).cap (g 3).n (zo ntS (zS m').cs)∧Rw 14 cv ((g 3).l.getD 2 0) ((g 3).l.getD 1 0) (zo ntS (zS m').ps)))∧St w.heap.size w ww [((g 3).l.getD 0 0,.cells cv 28 (0,0)),((g 3).b,.cells (g 3).cur 28 (0,0)),((g 1).l.getD 0 0,.cells cu 28 (0,0)),((g 1).b,.cells (g 1).cur 28 (0,0)),((gs1 0).b,.cells (mgC (zS m) (some ⟨(g 1).b,0,none⟩) (g 1).n (g 1).cap (some ⟨(g 1).l.getD 0 0,0,none⟩) ((g 1).l.getD 1 0) ((g 1).l.getD 2 0)) 31 (0,0)),((gs1 1).b,.cells (mgC (zS m') (some ⟨(g 3).b,0,none⟩) (g 3).n (g 3).cap (some ⟨(g 3).l.getD 0 0,0,none⟩) ((g 3).l.getD 1 0) ((g 3).l.getD 2 0)) 31 (0,0))])) kr kr kr H2.drew ⟨?_,?_,?_,?_,?_,?_,trivial⟩ ?_
 ·exact D2.gv_ld (fun _ _ _ h=>h) 31 (.tmp 2) (fun _=>(gs1 0).b) 0 (mgC m p n c q k d) 31 (0,0) (fun g=>by kernel_rfl) (fun g=>by kernel_rfl) (fun L1 g ww hN hp=>D2.chn.getN hp 0 1 rfl (hN.post 1 kr) fun j hj h=>by
   match j,h with
   | 0,h=>exact St.get h 0 kr) kr kr
 ·refine D2.gv_chn 1 0 (fun L hN=>by
   have e1:=hN.1;have e3:=hN.post 3 kr;have e4:=hN.fwd e3 (show D2.edge _ 3 4=true by kernel_rfl);have e5:=hN.fwd e4 (show D2.edge _ 4 5=true by kernel_rfl)
   exact ⟨by (simp [D2.stg,e1,e3,e4,e5])<;>rfl,by (simp [D2.stg,D2.put1,e1,e3,e4,e5])<;>rfl⟩) fun g ww hq1=>?_
  refine D2.run_ft (zju m p n c q k d hp hq) (hA.call (St.below hq1)) kr ?_;rintro _ _ w' ⟨b,n1,c1,cur,b2,n2,c2,cur2,rfl,rfl,hw1,hw2⟩ hT;exact ⟨{ b:=b,n:=n1,cap:=c1,cur:=cur,l:=[b2,n2,c2] },rfl,cur2,⟨hw1,hw2⟩,(St.addAll hq1 hT).as kr⟩
 ·exact D2.gv_ld (fun _ _ _ h=>h) 31 (.tmp 3) (fun _=>(gs1 1).b) 0 (mgC m' p' n' c' q' k' d') 31 (0,0) (fun g=>by kernel_rfl) (fun g=>by kernel_rfl) (fun L1 g ww hN hp=>D2.chn.getN hp 1 3 rfl (hN.post 3 kr) fun j hj h=>by
   match j,h with
   | 0,h=>exact St.get h 1 kr
   | 1,h=>exact h.elim fun cu h=>St.get h.2 3 kr) kr kr
 ·refine D2.gv_chn 3 1 (fun L hN=>by
   have e3:=hN.1;have e1:=hN.bef 1 kr;have e4:=hN.post 4 kr;have e5:=hN.fwd e4 (show D2.edge _ 4 5=true by kernel_rfl)
   exact ⟨by (simp [D2.stg,e1,e3,e4,e5])<;>rfl,by (simp [D2.stg,D2.put1,e1,e3,e4,e5])<;>rfl⟩) fun g ww hq1=>?_
  obtain ⟨cu,hr1,hq1⟩:=hq1;refine D2.run_ft (zju m' p' n' c' q' k' d' hp' hq') (hB.call (St.below hq1)) kr ?_;rintro _ _ w' ⟨b,n1,c1,cur,b2,n2,c2,cur2,rfl,rfl,hw1,hw2⟩ hT;exact ⟨{ b:=b,n:=n1,cap:=c1,cur:=cur,l:=[b2,n2,c2] },rfl,cu,cur2,⟨hr1,hw1,hw2⟩,(St.addAll hq1 hT).as kr⟩
 ·refine D2.gv_chn 4 2 (fun L hN=>by
   have e4:=hN.1;have e3:=hN.bef 3 kr;have e1:=hN.back e3 (show D2.edge _ 1 3=true by kernel_rfl);have e5:=hN.post 5 kr
   exact ⟨by (simp [D2.stg,e1,e3,e4,e5])<;>rfl,by (simp [D2.stg,D2.put1,e1,e3,e4,e5])<;>rfl⟩) fun g ww hq1=>?_
  obtain ⟨cu,cv,hr9,hq1⟩:=hq1;exact D2.run_sto (t:=31) (x:=.tmp 2) (y:=.tmp 10) (b:=(gs1 0).b) (off:=0) (C:=mgC m p n c q k d) (C':=mgC (zS m) (some ⟨(g 1).b,0,none⟩) (g 1).n (g 1).cap (some ⟨(g 1).l.getD 0 0,0,none⟩) ((g 1).l.getD 1 0) ((g 1).l.getD 2 0)) (T:=31) (v:=mgV (zS m) (some ⟨(g 1).b,0,none⟩) (g 1).n (g 1).cap (some ⟨(g 1).l.getD 0 0,0,none⟩) ((g 1).l.getD 1 0) ((g 1).l.getD 2 0)) kr kr kr kr kr (St.get hq1 4 kr) (Nat.le_of_ble_eq_true kr) kr ⟨g 4,rfl,cu,cv,hr9,St.store (C:=mgC m p n c q k d) (T:=31) hq1 4 kr⟩
 ·refine D2.gv_chn 5 3 (fun L hN=>by
   have e5:=hN.1;have e4:=hN.bef 4 kr;have e3:=hN.back e4 (show D2.edge _ 3 4=true by kernel_rfl);have e1:=hN.back e3 (show D2.edge _ 1 3=true by kernel_rfl)
   exact ⟨by (simp [D2.stg,e1,e3,e4,e5])<;>rfl,by (simp [D2.stg,D2.put1,e1,e3,e4,e5])<;>rfl⟩) fun g ww hq1=>?_
  obtain ⟨cu,cv,hr9,hq1⟩:=hq1;exact D2.run_sto (t:=31) (x:=.tmp 3) (y:=.tmp 12) (b:=(gs1 1).b) (off:=0) (C:=mgC m' p' n' c' q' k' d') (C':=mgC (zS m') (some ⟨(g 3).b,0,none⟩) (g 3).n (g 3).cap (some ⟨(g 3).l.getD 0 0,0,none⟩) ((g 3).l.getD 1 0) ((g 3).l.getD 2 0)) (T:=31) (v:=mgV (zS m') (some ⟨(g 3).b,0,none⟩) (g 3).n (g 3).cap (some ⟨(g 3).l.getD 0 0,0,none⟩) ((g 3).l.getD 1 0) ((g 3).l.getD 2 0)) kr kr kr kr kr (St.get hq1 5 kr) (Nat.le_of_ble_eq_true kr) kr ⟨g 5,rfl,cu,cv,hr9,St.store (C:=mgC m' p' n' c' q' k' d') (T:=31) hq1 5 kr⟩
 intro Lz g w3 hall hp9;obtain ⟨cu,cv,⟨⟨hu1,hu2⟩,hv1,hv2⟩,H3⟩:=hp9.fin (fun k hk=>hall k (by simp at hk;rcases hk with rfl | rfl | rfl | rfl<;>exact Nat.le_of_ble_eq_true kr));refine wW<|za0 [(2,pB (gs1 0).b),(3,pB (gs1 1).b)] kr fun ρ1=>?_;generalize (g 1).b=b1 at*;generalize (g 1).n=n1 at*;generalize (g 1).cap=c1 at*;generalize (g 1).cur=cb at*;generalize (g 1).l.getD 0 0=b2 at*;generalize (g 1).l.getD 1 0=n2 at*;generalize (g 1).l.getD 2 0=c2 at*;generalize (g 3).b=d1 at*;generalize (g 3).n=n3 at*;generalize (g 3).cap=c3 at*;generalize (g 3).cur=cd at*;generalize (g 3).l.getD 0 0=d2 at*;generalize (g 3).l.getD 1 0=n4 at*;generalize (g 3).l.getD 2 0=c4 at*;have oM:=zjs o;have oN:=zjs o';have l1:(zS m).cs.length≤1000:=Nat.le_trans (zcI _) (by decide);have l2:(zS m).ps.length≤1000:=Nat.le_trans (zcI _) (by decide);have l3:(zS m').cs.length≤1000:=Nat.le_trans (zcI _) (by decide);have l4:(zS m').ps.length≤1000:=Nat.le_trans (zcI _) (by decide);generalize zS m=M at*;generalize zS m'=N at*;have at1: ∀ {ww:World},ww.heap[b2]? =some (.cells cu 28 (0,0))→ww.heap[b1]? =some (.cells cb 28 (0,0))→qw ww M (some ⟨b1,0,none⟩) n1 (some ⟨b2,0,none⟩) n2:=fun h1 h2=>⟨zcJ (S:=ntS) hu1 h2,zcJ (S:=ntS) hu2 h1⟩
 have at2: ∀ {ww:World},ww.heap[d2]? =some (.cells cv 28 (0,0))→ww.heap[d1]? =some (.cells cd 28 (0,0))→qw ww N (some ⟨d1,0,none⟩) n3 (some ⟨d2,0,none⟩) n4:=fun h1 h2=>⟨zcJ (S:=ntS) hv1 h2,zcJ (S:=ntS) hv2 h1⟩
 have hB1:=ziS M oM (some ⟨b1,0,none⟩) n1 c1 (some ⟨b2,0,none⟩) n2 c2 l1 l2;have hB2:=ziS N oN (some ⟨d1,0,none⟩) n3 c3 (some ⟨d2,0,none⟩) n4 c4 l3 l4;have hLk:=zqX M N oM oN l1 l2 (some ⟨b1,0,none⟩) n1 c1 (some ⟨b2,0,none⟩) n2 c2 (some ⟨d1,0,none⟩) n3 c3 (some ⟨d2,0,none⟩) n4 c4;have hW0:=fun h=>ziR (m:=M) h;have hX0:=fun h=>ziR (m:=N) h;have hone:=fun h h'=>zqY oM oN h h';generalize je M=W at hB1 hW0 hone;generalize je N=X at hB2 hX0 hone;unfold xA at hB1 hB2;refine rS [.l 4,.cp hB1 [(2,(b2,Obj.cells cu 28 (0,0))),(3,(b1,Obj.cells cb 28 (0,0)))] (fun w hb hd=>⟨at1 hd.1 hd.2.1,yv hM hb⟩),.v,.v,.v,.v,.v] H3 kr fun gs4 w4 H4=>rS [.l 5,.cp hB2 [(0,(d2,Obj.cells cv 28 (0,0))),(1,(d1,Obj.cells cd 28 (0,0)))] (fun w hb hd=>⟨at2 hd.1 hd.2.1,yv hM hb⟩),.v,.v,.v,.v,.v] H4 kr fun gs5 w5 H5=>zb kr ?_;by_cases ha:W.2=0
 ·by_cases hb:X.2=0
  ·refine rS [.v,.E (.bool (!(((W.2:Nat):Int)==0))) (.bool false) (za (by rw [beq_iff_eq.2 (by omega)];rfl)),.v,.v,.E (.bool (!(((X.2:Nat):Int)==0))) (.bool false) (za (by rw [beq_iff_eq.2 (by omega)];rfl)),.v] H5 kr fun gs6 w6 H6=>zI<|wW<|rS [.cp zcH [] (fun w hb _=>⟨yv hM hb,T,fz,(hb.block _ (zr hR)).trans hR⟩),.v,.v,.v,.E (.bool (W.1.toList==X.1.toList)) (.bool (decide (M=N))) (za ((vm _ _).trans (decide_eq_decide.2 (hone ha hb)))),.l 4,.l 5,.cp hLk [(0,(d2,Obj.cells cv 28 (0,0))),(1,(d1,Obj.cells cd 28 (0,0))),(2,(b2,Obj.cells cu 28 (0,0))),(3,(b1,Obj.cells cb 28 (0,0)))] (fun w hb hd=>⟨at1 hd.2.2.1 hd.2.2.2.1,at2 hd.1 hd.2.1⟩),.E (.bool (decide (M=N)==decide (M=N))) (.bool true) (za (beq_self_eq_true _)),.v,.v] H6 kr fun gs7 w7 H7=>?_;exact rR [.tmp 4] [] (.bool true) H7 kr
  ·refine rS [.v,.E (.bool (!(((W.2:Nat):Int)==0))) (.bool false) (za (by rw [beq_iff_eq.2 (by omega)];rfl)),.v,.v,.E (.bool (!(((X.2:Nat):Int)==0))) (.bool true) (za (by rw [beq_eq_false_iff_ne.2 (by omega)];rfl)),.v] H5 kr fun gs6 w6 H6=>zV<|rS [.cp zcH [] (fun w hb _=>⟨yv hM hb,T,fz,(hb.block _ (zr hR)).trans hR⟩),.v,.v,.E (.bool (((W.2:Nat):Int)==0)) (.bool true) (za (beq_iff_eq.2 (by omega))),.v,.n,.n,.v,.v,.v,.v,.E (.bool (((X.2:Nat):Int)==0)) (.bool false) (za (beq_eq_false_iff_ne.2 (by omega))),.v,.v,.E (.bool (X.1.toList==(⟨#[]⟩:ByteArray).toList)) (.bool true) (za (qD _ _ (hX0 hb))),.v,.v,.v] H6 kr fun gs7 w7 H7=>?_;exact rR [.tmp 4] [] (.bool true) H7 kr
 ·refine rS [.v,.E (.bool (!(((W.2:Nat):Int)==0))) (.bool true) (za (by rw [beq_eq_false_iff_ne.2 (by omega)];rfl)),.v,.n,.n,.v] H5 kr fun gs6 w6 H6=>zV ?_;by_cases hb:X.2=0
  ·refine rS [.cp zcH [] (fun w hb _=>⟨yv hM hb,T,fz,(hb.block _ (zr hR)).trans hR⟩),.v,.v,.E (.bool (((W.2:Nat):Int)==0)) (.bool false) (za (beq_eq_false_iff_ne.2 (by omega))),.v,.v,.E (.bool (W.1.toList==(⟨#[]⟩:ByteArray).toList)) (.bool true) (za (qD _ _ (hW0 ha))),.v,.v,.v,.v,.E (.bool (((X.2:Nat):Int)==0)) (.bool true) (za (beq_iff_eq.2 (by omega))),.v,.n,.n,.v,.v,.v] H6 kr fun gs7 w7 H7=>?_;exact rR [.tmp 4] [] (.bool true) H7 kr
  ·refine rS [.cp zcH [] (fun w hb _=>⟨yv hM hb,T,fz,(hb.block _ (zr hR)).trans hR⟩),.v,.v,.E (.bool (((W.2:Nat):Int)==0)) (.bool false) (za (beq_eq_false_iff_ne.2 (by omega))),.v,.v,.E (.bool (W.1.toList==(⟨#[]⟩:ByteArray).toList)) (.bool true) (za (qD _ _ (hW0 ha))),.v,.v,.v,.v,.E (.bool (((X.2:Nat):Int)==0)) (.bool false) (za (beq_eq_false_iff_ne.2 (by omega))),.v,.v,.E (.bool (X.1.toList==(⟨#[]⟩:ByteArray).toList)) (.bool true) (za (qD _ _ (hX0 hb))),.v,.v,.v] H6 kr fun gs7 w7 H7=>?_;exact rR [.tmp 4] [] (.bool true) H7 kr
theorem zq0 (m:Mg)(p:Option Addr)(n c:Nat)(q:Option Addr)(k d:Nat)(hp:yX p n c)(hq:yX q k d)(o:ur m)(m':Mg)(p':Option Addr)(n' c':Nat)(q':Option Addr)(k' d':Nat)(hp':yX p' n' c')(hq':yX q' k' d')(o':ur m'):FnP Tryz.prog 3 #[mgV m p n c q k d,mgV m' p' n' c' q' k' d'] (fun w=>qw w m p n q k∧qw w m' p' n' q' k'∧Ke.Marks w∧Sh.Roots w) (.bool true):=fun w h=>zqZ m m' o o' p n c q k d p' n' c' q' k' d' hp hq hp' hq' w ⟨⟨h.1,h.2.1⟩,h.2.2⟩
end Go.Proofs.YtpghmdbjmigjlaaGreatDoor
namespace Go.Proofs.YtpghmdbjmigjlaaGreatDoor
open Go Go.ChangeShapes Go.WideShapes Go.ChangeAt Go.RowKit
set_option linter.unusedVariables false
set_option maxRecDepth 100000
theorem zcK:Tryz.prog.cellsOf 28=14:=kr
theorem zq1:Tryz.prog.cellsOf 29=1:=kr
theorem zq2:Tryz.prog.cellsOf 31=26:=kr
theorem zq3 {α:Type}(l:List α)(h:l.length=14):∃a0 a1 a2 a3 a4 a5 a6 a7 a8 a9 a10 a11 a12 a13,l=[a0,a1,a2,a3,a4,a5,a6,a7,a8,a9,a10,a11,a12,a13]:=by
 match l,h with
 | [a0,a1,a2,a3,a4,a5,a6,a7,a8,a9,a10,a11,a12,a13],_=>exact ⟨_,_,_,_,_,_,_,_,_,_,_,_,_,_,rfl⟩
theorem zq4 {α:Type}(l:List α)(h:l.length=6):∃a0 a1 a2 a3 a4 a5,l=[a0,a1,a2,a3,a4,a5]:=by
 match l,h with
 | [a0,a1,a2,a3,a4,a5],_=>exact ⟨_,_,_,_,_,_,rfl⟩
theorem zq5 {α:Type}(l:List α)(h:l.length=26):∃a0 a1 a2 a3 a4 a5 a6 a7 a8 a9 a10 a11 a12 a13 a14 a15 a16 a17 a18 a19 a20 a21 a22 a23 a24 a25,l=[a0,a1,a2,a3,a4,a5,a6,a7,a8,a9,a10,a11,a12,a13,a14,a15,a16,a17,a18,a19,a20,a21,a22,a23,a24,a25]:=by
 match l,h with
 | [a0,a1,a2,a3,a4,a5,a6,a7,a8,a9,a10,a11,a12,a13,a14,a15,a16,a17,a18,a19,a20,a21,a22,a23,a24,a25],_=>exact ⟨_,_,_,_,_,_,_,_,_,_,_,_,_,_,_,_,_,_,_,_,_,_,_,_,_,_,rfl⟩
theorem zq6 {α:Type}(l:List α)(h:l.length=5):∃a0 a1 a2 a3 a4,l=[a0,a1,a2,a3,a4]:=by
 match l,h with
 | [a0,a1,a2,a3,a4],_=>exact ⟨_,_,_,_,_,rfl⟩
section
variable {H:Type}{enc:TypeId×Value→H}{W:World}{sp:Nat→Bool}{held:Bool}
theorem zeU (fuel:Nat)(cs:List Value)(x:DataW H×List MemPlace)(h:DataW.trod enc Tryz.prog W 0 sp held fuel 28 cs=some x):∃a:Nte,cs=ntS.cs a∧NtNum a:=by
 obtain ⟨xs,m,rfl,hxx,hl,hlen,hff⟩:=DataW.trod_struct Tryz.underlying28 h;rw [zcK] at hl;obtain ⟨c0,c1,c2,c3,c4,c5,c6,c7,c8,c9,c10,c11,c12,c13,rfl⟩:=zq3 cs hl;obtain ⟨y0,y1,y2,y3,y4,y5,rfl⟩:=zq4 xs hlen;have g0:=hff 0 _ rfl;have g1:=hff 1 _ rfl;have g2:=hff 2 _ rfl;have g3:=hff 3 _ rfl;have g4:=hff 4 _ rfl;have g5:=hff 5 _ rfl;change DataW.trod enc Tryz.prog W 0 sp held m 22 (([c0,c1,c2,c3,c4,c5,c6,c7,c8,c9,c10,c11,c12,c13].drop 0).take (Tryz.prog.cellsOf 22))=some y0 at g0;change DataW.trod enc Tryz.prog W 0 sp held m 22 (([c0,c1,c2,c3,c4,c5,c6,c7,c8,c9,c10,c11,c12,c13].drop 1).take (Tryz.prog.cellsOf 22))=some y1 at g1;change DataW.trod enc Tryz.prog W 0 sp held m 22 (([c0,c1,c2,c3,c4,c5,c6,c7,c8,c9,c10,c11,c12,c13].drop 2).take (Tryz.prog.cellsOf 22))=some y2 at g2;change DataW.trod enc Tryz.prog W 0 sp held m 9 (([c0,c1,c2,c3,c4,c5,c6,c7,c8,c9,c10,c11,c12,c13].drop 3).take (Tryz.prog.cellsOf 9))=some y3 at g3;change DataW.trod enc Tryz.prog W 0 sp held m 22 (([c0,c1,c2,c3,c4,c5,c6,c7,c8,c9,c10,c11,c12,c13].drop 4).take (Tryz.prog.cellsOf 22))=some y4 at g4;change DataW.trod enc Tryz.prog W 0 sp held m 26 (([c0,c1,c2,c3,c4,c5,c6,c7,c8,c9,c10,c11,c12,c13].drop 5).take (Tryz.prog.cellsOf 26))=some y5 at g5;rw [zn9] at g0 g1 g2 g4;rw [zh2] at g3;rw [zeh] at g5;obtain ⟨z0,e0,_,w0⟩:=DataW.trod_int Tryz.underlying22 (show DataW.trod enc Tryz.prog W 0 sp held m 22 [c0]=some y0 from g0);obtain ⟨z1,e1,_,w1⟩:=DataW.trod_int Tryz.underlying22 (show DataW.trod enc Tryz.prog W 0 sp held m 22 [c1]=some y1 from g1);obtain ⟨z2,e2,_,w2⟩:=DataW.trod_int Tryz.underlying22 (show DataW.trod enc Tryz.prog W 0 sp held m 22 [c2]=some y2 from g2);obtain ⟨z4,e4,_,w4⟩:=DataW.trod_int Tryz.underlying22 (show DataW.trod enc Tryz.prog W 0 sp held m 22 [c4]=some y4 from g4);obtain ⟨s3,e3,_,_⟩:=DataW.trod_string Tryz.underlying9 (show DataW.trod enc Tryz.prog W 0 sp held m 9 [c3]=some y3 from g3);obtain ⟨sg,e5,hsg⟩:=zh3 m _ _ (show DataW.trod enc Tryz.prog W 0 sp held m 26 [c5,c6,c7,c8,c9,c10,c11,c12,c13]=some y5 from g5);obtain ⟨n0,h0,rfl⟩:=za8 w0;obtain ⟨n1,h1,rfl⟩:=za8 w1;obtain ⟨n2,h2,rfl⟩:=za8 w2;obtain ⟨n4,h4,rfl⟩:=za8 w4;obtain rfl:c0=.int .u64 (n0:Int):=by simpa using e0
 obtain rfl:c1=.int .u64 (n1:Int):=by simpa using e1
 obtain rfl:c2=.int .u64 (n2:Int):=by simpa using e2
 obtain rfl:c4=.int .u64 (n4:Int):=by simpa using e4
 obtain rfl:c3=.string s3:=by simpa using e3
 exact ⟨⟨n0,n1,n2,s3,n4,sg⟩,by rw [e5];rfl,h0,h1,h2,h4,hsg⟩
theorem zjw {v:Value}{d:DataW H}{p:List MemPlace}{base:Nat}(hv:Value.okWide Tryz.prog W .any base 31 v)(h:DataW.Trod enc Tryz.prog W 0 sp held 31 v d p):
 ∃(m:Mg) (p:Option Addr) (n c:Nat) (q:Option Addr) (k e:Nat),v=mgV m p n c q k e∧yX p n c∧yX q k e∧ur m∧qw W m p n q k:=by
 obtain ⟨cs,rfl,hsz,_⟩:∃cs,v=.agg cs∧cs.size=Tryz.prog.cellsOf 31∧Row.okWide Tryz.prog W .any base 31 cs:=by
  simpa [Value.okWide,Tryz.underlying31] using hv
 rw [zq2] at hsz;obtain ⟨l⟩:=cs;obtain ⟨c0,c1,c2,c3,c4,c5,c6,c7,c8,c9,c10,c11,c12,c13,c14,c15,c16,c17,c18,c19,c20,c21,c22,c23,c24,c25,rfl⟩:=zq5 l hsz;obtain ⟨fuel,hf⟩:=h;obtain ⟨xs,m,rfl,hxx,hl,hlen,hff⟩:=DataW.trod_struct Tryz.underlying31 hf;obtain ⟨y0,y1,y2,y3,y4,rfl⟩:=zq6 xs hlen;have g0:=hff 0 _ rfl;have g1:=hff 1 _ rfl;have g2:=hff 2 _ rfl;have g3:=hff 3 _ rfl;have g4:=hff 4 _ rfl;change DataW.trod enc Tryz.prog W 0 sp held m 28 (([c0,c1,c2,c3,c4,c5,c6,c7,c8,c9,c10,c11,c12,c13,c14,c15,c16,c17,c18,c19,c20,c21,c22,c23,c24,c25].drop 0).take (Tryz.prog.cellsOf 28))=some y0 at g0;change DataW.trod enc Tryz.prog W 0 sp held m 26 (([c0,c1,c2,c3,c4,c5,c6,c7,c8,c9,c10,c11,c12,c13,c14,c15,c16,c17,c18,c19,c20,c21,c22,c23,c24,c25].drop 14).take (Tryz.prog.cellsOf 26))=some y1 at g1;change DataW.trod enc Tryz.prog W 0 sp held m 9 (([c0,c1,c2,c3,c4,c5,c6,c7,c8,c9,c10,c11,c12,c13,c14,c15,c16,c17,c18,c19,c20,c21,c22,c23,c24,c25].drop 23).take (Tryz.prog.cellsOf 9))=some y2 at g2;change DataW.trod enc Tryz.prog W 0 sp held m 29 (([c0,c1,c2,c3,c4,c5,c6,c7,c8,c9,c10,c11,c12,c13,c14,c15,c16,c17,c18,c19,c20,c21,c22,c23,c24,c25].drop 24).take (Tryz.prog.cellsOf 29))=some y3 at g3;change DataW.trod enc Tryz.prog W 0 sp held m 29 (([c0,c1,c2,c3,c4,c5,c6,c7,c8,c9,c10,c11,c12,c13,c14,c15,c16,c17,c18,c19,c20,c21,c22,c23,c24,c25].drop 25).take (Tryz.prog.cellsOf 29))=some y4 at g4;rw [zcK] at g0;rw [zeh] at g1;rw [zh2] at g2;rw [zq1] at g3 g4;obtain ⟨a,e0,ha⟩:=zeU m _ _ (show DataW.trod enc Tryz.prog W 0 sp held m 28 [c0,c1,c2,c3,c4,c5,c6,c7,c8,c9,c10,c11,c12,c13]=some y0 from g0);obtain ⟨sg,e1,hsg⟩:=zh3 m _ _ (show DataW.trod enc Tryz.prog W 0 sp held m 26 [c14,c15,c16,c17,c18,c19,c20,c21,c22]=some y1 from g1);obtain ⟨s2,e2,_,_⟩:=DataW.trod_string Tryz.underlying9 (show DataW.trod enc Tryz.prog W 0 sp held m 9 [c23]=some y2 from g2);obtain ⟨p,n,c,L,rfl,sl3,okL,atL⟩:=zfQ (S:=ntS) Tryz.underlying29 zcK zeU (show DataW.trod enc Tryz.prog W 0 sp held m 29 [c24]=some y3 from g3);obtain ⟨q,k,e,M,rfl,sl4,okM,atM⟩:=zfQ (S:=ntS) Tryz.underlying29 zcK zeU (show DataW.trod enc Tryz.prog W 0 sp held m 29 [c25]=some y4 from g4);obtain rfl:c23=.string s2:=by simpa using e2
 refine ⟨⟨a,sg,s2,L,M⟩,p,n,c,q,k,e,?_,sl3,sl4,⟨ha,hsg,okL,okM⟩,atL,atM⟩;have e9:[c0,c1,c2,c3,c4,c5,c6,c7,c8,c9,c10,c11,c12,c13,c14,c15,c16,c17,c18,c19,c20,c21,c22,.string s2,.slice p n c,.slice q k e]=[c0,c1,c2,c3,c4,c5,c6,c7,c8,c9,c10,c11,c12,c13]++([c14,c15,c16,c17,c18,c19,c20,c21,c22]++ [.string s2,.slice p n c,.slice q k e]):=rfl;rw [e9,e0,e1];rfl
end
end Go.Proofs.YtpghmdbjmigjlaaGreatDoor
namespace Go.Proofs.YtpghmdbjmigjlaaGreatDoor
open Go Go.RowKit
set_option linter.unusedVariables false
set_option maxRecDepth 100000
def zeV:List Int:=[1,32898,0x800000000000808a,0x8000000080008000,32907,2147483649,0x8000000080008081,0x8000000000008009,138,136,2147516425,2147483658,2147516555,0x800000000000008b,0x8000000000008089,0x8000000000008003,0x8000000000008002,0x8000000000000080,32778,0x800000008000000a,0x8000000080008081,0x8000000000008080,2147483649,0x8000000080008008]
theorem zq7:Ke.marksC=(zeV.map (Value.int .u64)).toArray:=kr
theorem zjx:Tryz.prog.globalNamed "ecclesia/keccak.marks" =some 0:=kr
theorem zq8 {W:World} (h:laidMetH Tryz.prog [("ecclesia/keccak.marks",Rows.laid_ecclesia_keccak_marks),("ecclesia/sha.roots",Rows.laid_ecclesia_sha_roots),("unicode/utf8.acceptRanges",Rows.laid_unicode_utf8_acceptRanges),("unicode/utf8.first",Rows.laid_unicode_utf8_first)] W):Ke.Marks W:=by
 rw [MakeChecks.laidMetH_plain _ _ _ kr] at h;have t:=Lib.tabIs_of_head (k:=.u64) (zs:=zeV) zjx (show (Tryz.prog.globals[0]?).map (·.type)=some 210 by kernel_rfl) Tryz.underlying210 Tryz.underlying22 kr kr h;unfold Lib.TabIs World.var? at t;rw [zjx] at t;simp only [Option.bind_some] at t;split at t
 ·rename_i cs T fz hh
  exact ⟨T,fz,by rw [hh,zq7];exact congrArg (fun c=>some (Obj.cells c T fz)) (Option.some.inj t)⟩
 ·cases t
def zeW:List Int:=[1116352408,1899447441,3049323471,3921009573,961987163,1508970993,2453635748,2870763221,3624381080,310598401,607225278,1426881987,1925078388,2162078206,2614888103,3248222580,3835390401,4022224774,264347078,604807628,770255983,1249150122,1555081692,1996064986,2554220882,2821834349,2952996808,3210313671,3336571891,3584528711,113926993,338241895,666307205,773529912,1294757372,1396182291,1695183700,1986661051,2177026350,2456956037,2730485921,2820302411,3259730800,3345764771,3516065817,3600352804,4094571909,275423344,430227734,506948616,659060556,883997877,958139571,1322822218,1537002063,1747873779,1955562222,2024104815,2227730452,2361852424,2428436474,2756734187,3204031479,3329325298]
theorem zq9:Sh.rootsC=(zeW.map (Value.int .u32)).toArray:=kr
theorem zjy:Tryz.prog.globalNamed "ecclesia/sha.roots" =some 1:=kr
theorem zra {P:Program}{w:World}{x:String×DataW Unit}{l:List (String×DataW Unit)}(h:laidMet P (x::l) w):laidMet P l w:=by
 obtain ⟨ps,⟨g,t,cs,fuel,p,q,_,_,_,_,hr,rfl⟩,hn,hc⟩:=h;exact ⟨q,hr,(List.nodup_append.1 hn).2.1,fun b off hm=>hc b off (List.mem_append_right _ hm)⟩
theorem zrb {W:World} (h:laidMetH Tryz.prog [("ecclesia/keccak.marks",Rows.laid_ecclesia_keccak_marks),("ecclesia/sha.roots",Rows.laid_ecclesia_sha_roots),("unicode/utf8.acceptRanges",Rows.laid_unicode_utf8_acceptRanges),("unicode/utf8.first",Rows.laid_unicode_utf8_first)] W):Ke.Marks W∧Sh.Roots W:=by
 refine ⟨zq8 h,?_⟩;rw [MakeChecks.laidMetH_plain _ _ _ kr] at h;have ht:=zra h;have t:=Lib.tabIs_of_head (k:=.u32) (zs:=zeW) zjy (show (Tryz.prog.globals[1]?).map (·.type)=some 232 by kernel_rfl) Tryz.underlying232 Tryz.underlying156 kr kr ht;unfold Lib.TabIs World.var? at t;rw [zjy] at t;simp only [Option.bind_some] at t;split at t
 ·rename_i cs T fz hh
  exact ⟨T,fz,by rw [hh,zq9];exact congrArg (fun c=>some (Obj.cells c T fz)) (Option.some.inj t)⟩
 ·cases t
def zrc:Array Value:=(Go.Pinned.utf8FirstZ.map fun n=>Value.int .u8 ((n:Nat):Int)).toArray
def zrd:Array Value:=#[.int .u8 128,.int .u8 191,.int .u8 160,.int .u8 191,.int .u8 128,.int .u8 159,.int .u8 144,.int .u8 191,.int .u8 128,.int .u8 143,.int .u8 0,.int .u8 0,.int .u8 0,.int .u8 0,.int .u8 0,.int .u8 0,.int .u8 0,.int .u8 0,.int .u8 0,.int .u8 0,.int .u8 0,.int .u8 0,.int .u8 0,.int .u8 0,.int .u8 0,.int .u8 0,.int .u8 0,.int .u8 0,.int .u8 0,.int .u8 0,.int .u8 0,.int .u8 0]
noncomputable def zjz (os:Os):World:=
 let w0:=World.holding Tryz.prog os ⟨#[],#[],[]⟩
 { w0 with heap:=(((w0.heap.modify 0 fun
  | .cells _ t frozen=>.cells (zeV.map (Value.int .u64)).toArray t frozen
  | o=>o).modify 1 fun
  | .cells _ t frozen=>.cells (zeW.map (Value.int .u32)).toArray t frozen
  | o=>o).modify 3 fun
  | .cells _ t frozen=>.cells zrc t frozen
  | o=>o).modify 4 fun
  | .cells _ t frozen=>.cells zrd t frozen
  | o=>o }
theorem zre (os:Os) (args:Array Value):laidMetH Tryz.prog [("ecclesia/keccak.marks",Rows.laid_ecclesia_keccak_marks),("ecclesia/sha.roots",Rows.laid_ecclesia_sha_roots),("unicode/utf8.acceptRanges",Rows.laid_unicode_utf8_acceptRanges),("unicode/utf8.first",Rows.laid_unicode_utf8_first)] ((zjz os).forCall (fun _ _=>0) ⟨#[],args,[]⟩).memory:=by
 rw [MakeChecks.laidMetH_plain _ _ _ kr];exact laidMet_of_run' 8 kr kr
end Go.Proofs.YtpghmdbjmigjlaaGreatDoor
