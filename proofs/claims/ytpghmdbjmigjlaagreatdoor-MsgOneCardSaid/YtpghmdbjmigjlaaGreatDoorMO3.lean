/-
  Texts of the proof,part 3.
-/
import Derived.Lib.AppendStr
import Derived.Lib.Builder
import Derived.Test.YtpghmdbjmigjlaaGreatDoorProg
import Derived.Recover
import Derived.Test.YtpghmdbjmigjlaaGreatDoorMO1
import Derived.Test.YtpghmdbjmigjlaaGreatDoorMO2
set_option maxRecDepth 100000
set_option maxHeartbeats 4000000
namespace Go.Proofs.YtpghmdbjmigjlaaGreatDoor
open Go Go.RowKit
set_option linter.unusedVariables false
inductive BE (p:Nat)(T e:TypeId):List UInt8→List (Nat×Obj)→Prop
 | nil (a:Option Addr):a=none∨a=some ⟨p,0,none⟩→BE p T e [] [(p,.cells #[.pointer a,.slice none 0 0] T (0,0))]
 | row (a:Option Addr) (b n cap:Nat) (cur:Array Value) (out:List UInt8):a=none∨a=some ⟨p,0,none⟩→n=out.length→Rw 1 cur cap n (cellsB out)→
  BE p T e out [(b,.cells cur e (0,0)),(p,.cells #[.pointer a,.slice (some ⟨b,0,none⟩) n cap] T (0,0))]
def FnB (P:Program)(f:Nat)(args:Array Value)(v:Value)(p:Nat)(T e:TypeId)(out out':List UInt8)(pre:World→Prop):Prop:=
 ∀(w0 w:World) (L E:List (Nat×Obj)),BE p T e out E→pre w0→St w0.heap.size w0 w (E++L)→Calls P f args w fun r w'=> ∃E',r=.returned v∧BE p T e out' E'∧St w0.heap.size w0 w' (E'++L)
def ka (P:Program)(f:Nat)(args:Array Value)(v:Value)(p:Nat)(T e:TypeId)(out out':List UInt8)(pre:World→Prop):Prop:=
 ∀(w0 w:World) (E:List (Nat×Obj)),BE p T e out E→pre w0→St w0.heap.size w0 w E→Calls P f args w fun r w'=> ∃E',r=.returned v∧BE p T e out' E'∧St w0.heap.size w0 w' E'
section
variable {P:Program}{N:Nat}{ops:Array Oper}{i:Nat}{r:List Nat}{K:Env→World→Prop}{ρ:Env}{w:World}{w0:World}{l E:List (Nat×Obj)}
theorem zdx (HS:St w0.heap.size w0 w (l++E)){p:Nat}{T e:TypeId}{out:List UInt8}(hE:BE p T e out E)(d:Option Nat)(f:Nat)(args:Array Value)(v:Value)(out':List UInt8)(pre:World→Prop)(hc:FnB P f args v p T e out out' pre)(hp:pre w0)
 (h:opv P ops i ρ w=some (d,true,.ok (.enter f args) w)) (hd:dOK d N=true)
 (kk: ∀E' w',BE p T e out' E'→St w0.heap.size w0 w' (l++E')→WPs P N ops K r (zm ρ d v) w'):WPs P N ops K (i::r) ρ w:=by
 obtain ⟨o,ho,rfl,hw,hr⟩:=zQ h;refine WPo.run ho hw fun a ha=>?_;rw [hr,Oper.upon_enter];refine (hc w0 w l E hE hp (HS.perm List.perm_append_comm)).mono ?_;rintro _ w' ⟨E',rfl,hE',HS'⟩;exact ⟨_,ha.put _ (zM hd) v,kk E' w' hE' (HS'.perm List.perm_append_comm)⟩
theorem zdy (HS:St w0.heap.size w0 w E){p:Nat}{T e:TypeId}{out:List UInt8}(hE:BE p T e out E)(d:Option Nat)(f:Nat)(args:Array Value)(v:Value)(out':List UInt8)(pre:World→Prop)(hc:ka P f args v p T e out out' pre)(hp:pre w0)
 (h:opv P ops i ρ w=some (d,true,.ok (.enter f args) w)) (hd:dOK d N=true)
 (kk: ∀E' w',BE p T e out' E'→St w0.heap.size w0 w' E'→WPs P N ops K r (zm ρ d v) w'):WPs P N ops K (i::r) ρ w:=by
 obtain ⟨o,ho,rfl,hw,hr⟩:=zQ h;refine WPo.run ho hw fun a ha=>?_;rw [hr,Oper.upon_enter];refine (hc w0 w E hE hp HS).mono ?_;rintro _ w' ⟨E',rfl,hE',HS'⟩;exact ⟨_,ha.put _ (zM hd) v,kk E' w' hE' HS'⟩
theorem FnB.intro {f:Nat}{fn:Func}{c:Code}(rs:List ResultVar)(N:Nat){args:Array Value}{v:Value}{p:Nat}{T e:TypeId}{out out':List UInt8}{pre:World→Prop}(hf:P.funcs[f]? =some fn)(hb:fn.body=some c)(hr:fn.results.toList=rs)(hn:args.size+(fn.ntmps-args.size)=N)
 (h: ∀w0 w L E,BE p T e out E→pre w0→St w0.heap.size w0 w (E++L)→WP P N c (yJ P rs fun v' w'=>v'=v∧∃E',BE p T e out' E'∧St w0.heap.size w0 w' (E'++L)) (ini args) w):FnB P f args v p T e out out' pre:=fun w0 w L E hE hp HS=>
 (jS hf hb hr hn (h w0 w L E hE hp HS)).mono fun _ w' ⟨v',he,hv,E',h1,h2⟩=>⟨E',by rw [he,hv],h1,h2⟩
theorem ka.intro {f:Nat}{fn:Func}{c:Code}(rs:List ResultVar)(N:Nat){args:Array Value}{v:Value}{p:Nat}{T e:TypeId}{out out':List UInt8}{pre:World→Prop}(hf:P.funcs[f]? =some fn)(hb:fn.body=some c)(hr:fn.results.toList=rs)(hn:args.size+(fn.ntmps-args.size)=N)
 (h: ∀w0 w E,BE p T e out E→pre w0→St w0.heap.size w0 w E→WP P N c (yJ P rs fun v' w'=>v'=v∧∃E',BE p T e out' E'∧St w0.heap.size w0 w' E') (ini args) w):ka P f args v p T e out out' pre:=fun w0 w E hE hp HS=>
 (jS hf hb hr hn (h w0 w E hE hp HS)).mono fun _ w' ⟨v',he,hv,E',h1,h2⟩=>⟨E',by rw [he,hv],h1,h2⟩
def zaf (t u:TypeId)(s x:Operand):Op:=.call { callee:=.builtin .append,args:=#[s,x],argTypes:=#[t,u] }
theorem zgo {P:Program}{ρ:Env}{w w':World}{o:Oper}{t u:TypeId}{s x:Operand}{vs v':Value}{tx:ByteArray}(hop:o.op=zaf t u s x)(hs:ev ρ s=vs)(hx:ev ρ x=.string tx)
 (hrun:(Builtin.append_ #[t,u] o.type #[vs,.string tx]).run P w=.ok v' w'):(execOp (ev ρ) o).run P w=.ok (.value v') w':=by
 unfold execOp;simp only [hop,zaf,resolve,invoke,builtin,Sem.run_bind,Sem.run_pure,Result.andThen_ok,List.map_toArray,List.map_cons,List.map_nil,hs,hx,hrun]
theorem zlR (HS:St w0.heap.size w0 w l)(d:Option Nat)(t u e:TypeId)(s x:Operand)(j b n cap:Nat)(cur:Array Value)(xs:List UInt8)(tx:ByteArray)(l':Nat→Array Value→List (Nat×Obj))
 (h:opk ops i ρ=some (d,true,zaf t u s x)) (hd:dOK d N=true) (ht:yd P t=some (e,1,1)) (hu':P.underlying u=some .string)
 (hs:ev ρ s=.slice (some ⟨b,0,none⟩) n cap) (hj:l[j]? =some (b,.cells cur e (0,0))) (hr:Rw 1 cur cap n (cellsB xs)) (hx:ev ρ x=.string tx) (hm:n+tx.size≤0x800000000000)
 (hl': ∀b' cur',l.set j (b',.cells cur' e (0,0))=l' b' cur')
 (kk: ∀b' cap' cur' w',St w0.heap.size w0 w' (l' b' cur')→Rw 1 cur' cap' (n+tx.size) (cellsB (xs++tl tx))→WPs P N ops K r (zm ρ d (.slice (some ⟨b',0,none⟩) (n+tx.size) cap')) w'):WPs P N ops K (i::r) ρ w:=by
 obtain ⟨o,ho,rfl,hw,hop⟩:=zH h;obtain ⟨it,z,hu,hi,hz,hsz,hby,hzs,h0⟩:=yW ht;have hg:=HS.get j hj;have hcx:Lib.strCells tx=cellsB (tl tx):=rfl;have hxn:xs.length=n:=by have:=hr.len;rw [qh] at this;omega
 have hlen:(cellsB (xs++tl tx)).length=(n+tx.size)*1:=by rw [qh,List.length_append,zy];omega
 have hcsz:=hr.sz;by_cases hroom:n+tx.size≤cap
 ·have hrun:=Lib.run_append_room_string (P:=P) w t u o.type e it hu hu' hi hsz b n cap cur hg tx hroom (by omega);refine WPo.run ho hw fun a ha=>?_;have hex:(execOp (ev ρ) o).run P w=.ok (.value (.slice (some ⟨b,0,none⟩) (n+tx.size) cap)) (w.setRow b (cur.toList.take n++Lib.strCells tx++cur.toList.drop (n+tx.size)).toArray):=by
   unfold execOp;simp only [hop,zaf,resolve,invoke,builtin,Sem.run_bind,Sem.run_pure,Result.andThen_ok,List.map_toArray,List.map_cons,List.map_nil,hs,hx,hrun]
  rw [hex,Oper.upon_value];have HS':=HS.store j (C':=(cur.toList.take n++Lib.strCells tx++cur.toList.drop (n+tx.size)).toArray) hj;rw [hl'] at HS';refine ⟨_,ha.put _ (zM hd) _,kk b cap _ _ HS' ⟨hlen,hroom,hr.max,?_,?_⟩⟩
  ·have h1:cur.toList.take n=cellsB xs:=by have:=hr.take;rwa [Nat.mul_one] at this
   rw [h1,hcx,←zc8,←hlen];exact List.take_left
  ·simp only [List.size_toArray,List.length_append,List.length_take,List.length_drop,Array.length_toList,Lib.strCells_length];omega
 ·have holds: ∀q v,(cellsB xs)[q]? =some v→w.cell? ((⟨b,0,none⟩:Addr).add q)=some v:=fun q v hq=>by
   have hql:q<n:=by rw [←hxn,←qh];exact (List.getElem?_eq_some_iff.1 hq).1
   rw [qn,Nat.zero_add];simp [World.cell?,hg,hr.get q (by omega),hq]
  have hrun:=Lib.run_append_grow_string (P:=P) w t u o.type e it z hu hu' hi hz ⟨b,0,none⟩ n cap (cellsB xs) (by rw [qh,hsz];omega) holds tx (by omega) (by omega) (by rw [hby];exact growslice_fits (by omega) (by omega));refine WPo.run ho hw fun a ha=>?_;rw [zgo hop hs hx hrun,Oper.upon_value];have hgr:w.grownBy (w.drew.alloc (.cells ((cellsB xs).toArray++(Lib.strCells tx).toArray++Builtin.zeroCells z.cells (grownCap w (n+tx.size) cap e-(n+tx.size))) e)) (some b):=
   ⟨rfl,rfl,rfl,by simp,fun k hk _=>Go.heap_alloc_old w.drew _ hk⟩
  have HS':=HS.grown j hj hgr (.inr rfl) (heap_alloc_new w.drew _);rw [hl'] at HS';have hge:=grownCap_ge w (n+tx.size) cap e;refine ⟨_,ha.put _ (zM hd) _,kk _ (grownCap w (n+tx.size) cap e) _ _ HS' ⟨hlen,hge,grownCap_le_maxLen w (n+tx.size) cap e (by unfold maxLen;omega),?_,?_⟩⟩
  ·simp only [Array.toList_append];rw [hcx];show List.take _ (cellsB xs++cellsB (tl tx)++_)=_;rw [←zc8,←hlen];exact List.take_left
  ·simp only [Array.size_append,List.size_toArray,size_zeroCells,hzs,qh,Lib.strCells_length];omega
theorem zlS (HS:St w0.heap.size w0 w l)(d:Option Nat)(t u e:TypeId)(s x:Operand)(tx:ByteArray)
 (h:opk ops i ρ=some (d,true,zaf t u s x)) (hd:dOK d N=true) (ht:yd P t=some (e,1,1)) (hu':P.underlying u=some .string)
 (hs:ev ρ s=.slice none 0 0) (hx:ev ρ x=.string tx) (h0:0<tx.size) (hm:tx.size≤0x800000000000)
 (kk: ∀b' cap' cur' w',St w0.heap.size w0 w' ((b',.cells cur' e (0,0))::l)→Rw 1 cur' cap' tx.size (cellsB (tl tx))→WPs P N ops K r (zm ρ d (.slice (some ⟨b',0,none⟩) tx.size cap')) w'):WPs P N ops K (i::r) ρ w:=by
 obtain ⟨o,ho,rfl,hw,hop⟩:=zH h;obtain ⟨it,z,hu,hi,hz,hsz,hby,hzs,h0'⟩:=yW ht;have hcx:Lib.strCells tx=cellsB (tl tx):=rfl;have hrun:=Go.run_append_nil_string (P:=P) w t u o.type e it z hu hu' hi hz tx h0 (by omega) (by rw [hby];omega);refine WPo.run ho hw fun a ha=>?_;rw [zgo hop hs hx hrun,Oper.upon_value];have hge:=grownCap_ge w tx.size 0 e;have e1:(tx.data.map (fun b=>Value.int .u8 b.toNat)++Builtin.zeroCells z.cells (grownCap w tx.size 0 e-tx.size)).toList=cellsB (tl tx)++(Builtin.zeroCells z.cells (grownCap w tx.size 0 e-tx.size)).toList:=by
  unfold cellsB tl;simp
 refine ⟨_,ha.put _ (zM hd) _,kk _ (grownCap w tx.size 0 e) _ _ (HS.drew.alloc _) ⟨by rw [qh,zy,Nat.mul_one],hge,grownCap_le_maxLen w tx.size 0 e (by unfold maxLen;omega),?_,?_⟩⟩
 ·rw [e1,Nat.mul_one,List.take_append_of_le_length (by rw [qh,zy];exact Nat.le_refl _),List.take_of_length_le (by rw [qh,zy];exact Nat.le_refl _)]
 ·rw [←Array.length_toList,e1,List.length_append,qh,zy,Array.length_toList,size_zeroCells,hzs];omega
theorem zgp {B:Nat}(HS:St B w0 w l)(d:Option Nat)(t t' tp:TypeId)(x:Operand)(j b:Nat)(C:Array Value)(T:TypeId)(h:opk ops i ρ=some (d,true,.convert t t' x))(hd:dOK d N=true)(hx:ev ρ x=.pointer (some ⟨b,0,none⟩))(hj:l[j]? =some (b,.cells C T (0,0)))
 (ht:P.underlying t=some (.pointer tp)) (ht':P.underlying t'=some .unsafePointer) (hz:((P.info? tp).map fun i=>Nat.blt 0 i.size)=some true) (hC:0<C.size) (kk:WPs P N ops K r (zm ρ d (.pointer (some ⟨b,0,none⟩))) w):WPs P N ops K (i::r) ρ w:=
 zaP d _ _ w h hd (fun o ho=>by
  obtain ⟨it,hi,hs⟩:=Option.map_eq_some_iff.1 hz;have hsh:w.shape? b=some (T,C.size):=by unfold World.shape?;rw [HS.get j hj]
  have:=Lib.run_to_unsafe (P:=P) w (src:=t) (dst:=t') ⟨b,0,none⟩ ht ht' hi (by have:=Nat.le_of_ble_eq_true hs;omega) hsh hC;unfold execOp
  simp only [ho,hx,Sem.run_bind,this,Result.andThen_ok];rfl) kk
theorem zgq {B:Nat}(HS:St B w0 w l)(d:Option Nat)(t t' tp:TypeId)(x:Operand)(j b:Nat)(C:Array Value)(T:TypeId)(h:opk ops i ρ=some (d,true,.convert t t' x))(hd:dOK d N=true)(hx:ev ρ x=.pointer (some ⟨b,0,none⟩))(hj:l[j]? =some (b,.cells C T (0,0)))
 (ht:P.underlying t=some .unsafePointer) (ht':P.underlying t'=some (.pointer tp)) (hz:(P.info? tp).isSome=true) (hl:liesAt P P.depth T (C.size / P.cellsOf T) 0 tp 1=true) (kk:WPs P N ops K r (zm ρ d (.pointer (some ⟨b,0,none⟩))) w):WPs P N ops K (i::r) ρ w:=
 zaP d _ _ w h hd (fun o ho=>by
  obtain ⟨it,hi⟩:=Option.isSome_iff_exists.1 hz;have hsh:w.shape? b=some (T,C.size):=by unfold World.shape?;rw [HS.get j hj]
  have:=Lib.run_from_unsafe (P:=P) w (src:=t) (dst:=t') ⟨b,0,none⟩ ht ht' hi hsh hl;unfold execOp
  simp only [ho,hx,Sem.run_bind,this,Result.andThen_ok];rfl) kk
theorem zgr {t tp t':TypeId}(ht:P.underlying t=some (.pointer tp))(hz:(P.info? tp).isSome=true){x y:Operand}{o:Oper}(a:Addr)(ho:o.op=.binOp .neq t x y t')(hx:ev ρ x=.pointer (some a))(hy:ev ρ y=.pointer (some a)):
 ∀w,(execOp (ev ρ) o).run P w=.ok (.value (.bool false)) w:=fun w=>by
 obtain ⟨it,hi⟩:=Option.isSome_iff_exists.1 hz;have:=Lib.run_neq_ptr_same (P:=P) w a ht hi;unfold execOp;simp [ho,hx,hy,eqGuard,this]
end
def qi (w0:World)(p:Nat)(T e:TypeId)(out':List UInt8)(bx:Nat×Obj)(E:List (Nat×Obj))(q:Nat):(Nat→Bool)→(Nat→D2.Gh)→World→Prop:=fun L _ w=>
 bif L q then (∃E',BE p T e out' E'∧St w0.heap.size w0 w ([bx]++E')) else St w0.heap.size w0 w ([bx]++E)
section
variable {P:Program}{ops:Array Oper}{R:(Nat→D2.Gh)→Env}{i:Nat}{d:Option Nat}{w0:World}{p:Nat}{T e:TypeId}{out':List UInt8}{bx:Nat×Obj}{E:List (Nat×Obj)}{q:Nat}
theorem zgs {L:Nat→Bool}(h:Nat.beq q i=false):D2.put1 L i q=L q:=by unfold D2.put1;rw [h];rfl
theorem qi.keep (h:Nat.beq q i=false){L:Nat→Bool}{g g':Nat→D2.Gh}{w:World}(hp:qi w0 p T e out' bx E q L g w):qi w0 p T e out' bx E q (D2.put1 L i) g' w:=by
 unfold qi at hp ⊢;rw [zgs h];exact hp
theorem qi.cases {L:Nat→Bool}{g:Nat→D2.Gh}{w:World}(hp:qi w0 p T e out' bx E q L g w):∃E',St w0.heap.size w0 w ([bx]++E')∧((∀w',St w0.heap.size w0 w' ([bx]++E')→qi w0 p T e out' bx E q L g w')):=by
 unfold qi at hp ⊢;cases hl:L q with
 | false=>rw [hl] at hp;exact ⟨E,hp,fun w' h=>h⟩
 | true=>rw [hl] at hp;obtain ⟨E',h1,h2⟩:=hp;exact ⟨E',h2,fun w' h=>⟨E',h1,h⟩⟩
theorem zlT {V:Value}(hq:Nat.beq q i=false)(h: ∀g w,opv P ops i (R g) w=some (d,true,.ok (.value V) w)):D2.Gives P ops R (qi w0 p T e out' bx E q) i d (fun _=>V):=D2.gv_val (fun _ _ _ hp=>hp.keep hq) h
theorem zgt {C:Array Value}{T':TypeId}{t:TypeId}{x:Operand}(hq:Nat.beq q i=false)(h: ∀g,opk ops i (R g)=some (d,true,.load t x))(hx: ∀g,ev (R g) x=.pointer (some ⟨bx.1,0,none⟩))(hb:bx.2=.cells C T' (0,0))(ht:aggSize P t=some C.size):D2.Gives P ops R (qi w0 p T e out' bx E q) i d (fun _=>.agg C):=D2.gives_of fun L g w hp hN=>by
 obtain ⟨o,ho,hd,hw,hop⟩:=zH (h g);obtain ⟨E',hS,_⟩:=hp.cases;have hh:w.heap[bx.1]? =some (.cells C T' (0,0)):=by rw [←hb];exact hS.get 0 rfl
 have:=kI (P:=P) (w:=w) (off:=0) ht hh (by omega);have e1:C.extract 0 (0+C.size)=C:=by simp
 rw [e1] at this;have e2:(execOp (ev (R g)) o).run P w=.ok (.value (.agg C)) w:=by simp [execOp,hop,Instr.loadAt,Instr.sureAddr,hx g,this]
 exact ⟨o,ho,hd,.inr ⟨hw,by rw [e2];exact ⟨g i,rfl,by rw [D2.setN_self];exact hp.keep hq⟩⟩⟩
theorem zgu {V:Value}{f:Nat}{args:Array Value}{pr:World→Prop}(hq:Nat.beq q i=false)(hc:FnP P f args pr V)(hpr: ∀w,Below w0.heap.size w0 w→pr w)(h: ∀g w,opv P ops i (R g) w=some (d,true,.ok (.enter f args) w)):D2.Gives P ops R (qi w0 p T e out' bx E q) i d (fun _=>V):=D2.gives_of fun L g w hp hN=>by
 obtain ⟨o,ho,hd,hw,hr⟩:=zQ (h g w);obtain ⟨E',hS,hk⟩:=hp.cases;exact ⟨o,ho,hd,.inr ⟨hw,by rw [hr];exact (hc w (hpr w hS.below)).mono fun e w' ⟨he,hb⟩=>⟨V,he,g i,rfl,by rw [D2.setN_self];exact (hk w' (hS.call hb)).keep hq⟩⟩⟩
theorem zlU {V:Value}{f:Nat}{args:Array Value}(hq:Nat.beq q i=false)(hc:Fn P f args V)(h: ∀g w,opv P ops i (R g) w=some (d,true,.ok (.enter f args) w)):D2.Gives P ops R (qi w0 p T e out' bx E q) i d (fun _=>V):=
 zgu (pr:=fun _=>True) hq (fun w _=>hc w) (fun _ _=>trivial) h
theorem zlV {V:Value}{f:Nat}{args:Array Value}{out:List UInt8}(hq:q=i)(hE:BE p T e out E)(hc:FnB P f args V p T e out out' (fun _=>True))(h: ∀g w,opv P ops i (R g) w=some (d,true,.ok (.enter f args) w)):D2.Gives P ops R (qi w0 p T e out' bx E q) i d (fun _=>V):=D2.gives_of fun L g w hp hN=>by
 subst hq;obtain ⟨o,ho,hd,hw,hr⟩:=zQ (h g w);have hS:St w0.heap.size w0 w ([bx]++E):=by unfold qi at hp;rw [hN.1] at hp;exact hp
 refine ⟨o,ho,hd,.inr ⟨hw,?_⟩⟩;rw [hr];refine (hc w0 w [bx] E hE trivial (hS.perm List.perm_append_comm)).mono ?_;rintro _ w' ⟨E',rfl,hE',hS'⟩;refine ⟨V,rfl,g q,rfl,?_⟩;unfold qi;rw [show D2.put1 L q q=true from D2.put1_self L q];exact ⟨E',hE',hS'.perm List.perm_append_comm⟩
theorem qi.done {L:Nat→Bool}{g:Nat→D2.Gh}{w:World}(hp:qi w0 p T e out' bx E q L g w)(h:L q=true):∃E',BE p T e out' E'∧St w0.heap.size w0 w ([bx]++E'):=by
 unfold qi at hp;rw [h] at hp;exact hp
end
def jB (w0:World)(l:List (Nat×Obj))(q:Nat):(Nat→Bool)→(Nat→D2.Gh)→World→Prop:=fun L _ w=>bif L q then St w0.heap.size w0 w [] else St w0.heap.size w0 w l
section
variable {P:Program}{ops:Array Oper}{R:(Nat→D2.Gh)→Env}{i:Nat}{d:Option Nat}{w0:World}{l:List (Nat×Obj)}{q:Nat}
theorem jB.keep (h:Nat.beq q i=false){L:Nat→Bool}{g g':Nat→D2.Gh}{w:World}(hp:jB w0 l q L g w):jB w0 l q (D2.put1 L i) g' w:=by
 unfold jB at hp ⊢;rw [zgs h];exact hp
theorem ke {V:Value}(hq:Nat.beq q i=false)(h: ∀g w,opv P ops i (R g) w=some (d,true,.ok (.value V) w)):D2.Gives P ops R (jB w0 l q) i d (fun _=>V):=D2.gv_val (fun _ _ _ hp=>hp.keep hq) h
theorem zdz {V:Value}(hq:Nat.beq q i=false)(hb: ∀L,D2.Now ops i L→L q=false)(op:Op)(h: ∀g,opk ops i (R g)=some (d,true,op))(hr: ∀g w (o:Oper),St w0.heap.size w0 w l→o.op=op→(execOp (ev (R g)) o).run P w=.ok (.value V) w):D2.Gives P ops R (jB w0 l q) i d (fun _=>V):=D2.gives_of fun L g w hp hN=>by
 obtain ⟨o,ho,hd,hw,hop⟩:=zH (h g);have hS:St w0.heap.size w0 w l:=by have h9:=hp;unfold jB at h9;rw [hb L hN] at h9;exact h9
 exact ⟨o,ho,hd,.inr ⟨hw,by rw [hr g w o hS hop];exact ⟨g i,rfl,by rw [D2.setN_self];exact hp.keep hq⟩⟩⟩
theorem zlW {V:Value}(hq:q=i)(op:Op)(h: ∀g,opk ops i (R g)=some (d,true,op))(hr: ∀g w (o:Oper),St w0.heap.size w0 w l→o.op=op→∃w',(execOp (ev (R g)) o).run P w=.ok (.value V) w'∧St w0.heap.size w0 w' []):D2.Gives P ops R (jB w0 l q) i d (fun _=>V):=D2.gives_of fun L g w hp hN=>by
 subst hq;obtain ⟨o,ho,hd,hw,hop⟩:=zH (h g);have hS:St w0.heap.size w0 w l:=by have h9:=hp;unfold jB at h9;rw [hN.1] at h9;exact h9
 obtain ⟨w',h1,h2⟩:=hr g w o hS hop;exact ⟨o,ho,hd,.inr ⟨hw,by rw [h1];exact ⟨g q,rfl,by unfold jB;rw [show D2.put1 L q q=true from D2.put1_self L q];exact h2⟩⟩⟩
end
def zdA (t:TypeId)(x:Operand):Op:=.call { callee:=.builtin .unsafeSliceData,args:=#[x],argTypes:=#[t] }
theorem zlX {P:Program}{ρ:Env}{w:World}{t:TypeId}{x:Operand}{a:Addr}{n c:Nat}(hx:ev ρ x=.slice (some a) n c)(hc:c≠0)(o:Oper)(ho:o.op=zdA t x):(execOp (ev ρ) o).run P w=.ok (.value (.pointer (some a))) w:=by
 have:=Lib.run_unsafeSliceData_row (P:=P) (w:=w) #[t] o.type a n c hc;unfold execOp;simp only [ho,zdA,resolve,invoke,builtin,Sem.run_bind,Sem.run_pure,Result.andThen_ok,List.map_toArray,List.map_cons,List.map_nil,hx,this]
theorem zlY {P:Program}{ρ:Env}{w w0:World}{l:List (Nat×Obj)}{j b n cap:Nat}{C:Array Value}{t t' e:TypeId}{x y:Operand}{xs:List UInt8}(HS:St w0.heap.size w0 w l)(hj:l[j]? =some (b,.cells C e (0,0)))(ht:P.underlying t=some (.pointer e))(hc:P.cellsOf e=1)
 (hx:ev ρ x=.pointer (some ⟨b,0,none⟩)) (hy:ev ρ y=.int .i64 (n:Int)) (hr:Rw 1 C cap n (cellsB xs)) (h0:0<n) (hm:n≤0x7fffffffffffffff) (o:Oper) (hop:o.op=uO t t' x y):
 ∃w',(execOp (ev ρ) o).run P w=.ok (.value (.string (zf xs))) w'∧St w0.heap.size w0 w' []:=by
 have hb:=HS.get j hj;have hB:=HS.ge j hj;have hlen:xs.length=n:=by have:=hr.len;rw [qh] at this;omega
 have hsz:=hr.sz;have hle:=hr.le
 have hrun:=Lib.run_unsafeString_row (P:=P) w t t' o.type e ht hc b C.size (by unfold World.shape?;rw [hb]) xs (by intro e;subst e;simp at hlen;omega) (by omega) (by omega) (fun j u hj=>by
  have hjl:j<xs.length:=(List.getElem?_eq_some_iff.1 hj).1;have h2:=hr.get j (by omega);rw [qn,Nat.zero_add];have h3:(cellsB xs)[j]? =some (.int .u8 (u.toNat:Int)):=by unfold cellsB;rw [List.getElem?_map,hj];rfl
  simp [World.cell?,hb,h2,h3])
 rw [hlen] at hrun;refine ⟨w.freeze ⟨b,0,none⟩ n,?_,?_⟩
 ·unfold execOp;simp only [hop,uO,resolve,invoke,builtin,Sem.run_bind,Sem.run_pure,Result.andThen_ok,List.map_toArray,List.map_cons,List.map_nil,hx,hy,hrun];rfl
 ·have hbel:=Lib.below_freeze HS.below (p:=⟨b,0,none⟩) hB n;refine ⟨hbel,Nat.le_trans HS.le ?_,(fun e he=>nomatch he),List.nodup_nil⟩;unfold World.freeze;split<;>simp
theorem St.load1_run {P:Program}{ρ:Env}{w w0:World}{l:List (Nat×Obj)}{j b off:Nat}{C:Array Value}{T t:TypeId}{x:Operand}{v:Value}(HS:St w0.heap.size w0 w l)(hj:l[j]? =some (b,.cells C T (0,0)))(ht:oneCell P t=true)(hx:ev ρ x=.pointer (some ⟨b,off,none⟩))(hv:C[off]? =some v)(o:Oper)(ho:o.op=.load t x):
 (execOp (ev ρ) o).run P w=.ok (.value v) w:=by
 have:=kJ (P:=P) (w:=w) ht (HS.get j hj) hv;simp [execOp,ho,Instr.loadAt,Instr.sureAddr,hx,this]
theorem zlZ (p:Nat)(w0 w:World)(L:List (Nat×Obj))(H0:St w0.heap.size w0 w ([(p,Obj.cells #[.pointer none,.slice none 0 0] 56 (0,0))]++L)):WP Tryz.prog 20 (zd Tryz.f53) (yJ Tryz.prog [] fun v' w'=>v'=.tuple #[]∧∃E',BE p 56 5 ([]) E'∧St w0.heap.size w0 w' (E'++L)) (ini #[.pointer (some ⟨p,0,none⟩)]) w:=by
 refine zh [0,1,2,3,4] kr kr<|zj (some 2) (.pointer (some ⟨p,0,none⟩)) (fun w=>by kernel_rfl) kr<|zj (some 3) (.pointer (some ⟨p,0,none⟩)) (fun w=>by kernel_rfl) kr<|zj (some 4) (.pointer (some ⟨p,0,none⟩)) (fun w=>by kernel_rfl) kr<|jh H0 (some 5) 54 (.tmp 4) 0 p 0 #[.pointer none,.slice none 0 0] 56 (0,0) (.pointer none) kr kr kr kr kr kr<|zj (some 6) (.bool true) (fun w=>by kernel_rfl) kr<|zc<|zi kr kr<|yP [0,1,2,3,4,5,6,7] kr<|zj (some 7) (.pointer (some ⟨p,0,none⟩)) (fun w=>by kernel_rfl) kr<|zj (some 8) (.pointer (some ⟨p,0,none⟩)) (fun w=>by kernel_rfl) kr<|zgp H0 (some 9) 54 135 56 (.tmp 8) 0 p #[.pointer none,.slice none 0 0] 56 kr kr kr kr kr kr kr (by show 0<2;omega)<|zj (some 10) (.pointer (some ⟨p,0,none⟩)) (fun w=>by kernel_rfl) kr<|zgq H0 (some 11) 135 54 56 (.tmp 10) 0 p #[.pointer none,.slice none 0 0] 56 kr kr kr kr kr kr kr kr<|zj (some 12) (.pointer (some ⟨p,0,none⟩)) (fun w=>by kernel_rfl) kr<|zj (some 13) (.pointer (some ⟨p,0,none⟩)) (fun w=>by kernel_rfl) kr<|vB H0 0 ([(p,Obj.cells #[.pointer (some ⟨p,0,none⟩),.slice none 0 0] 56 (0,0))]++L) 54 (.tmp 13) (.tmp 11) p (0) #[.pointer none,.slice none 0 0] #[.pointer (some ⟨p,0,none⟩),.slice none 0 0] 56 (.pointer (some ⟨p,0,none⟩)) kr kr kr kr kr kr (of_decide_eq_true kr) kr kr ?_;intro w1 H1;clear H0;refine zc<|wV ?_;exact ⟨[],.nil,rfl,_,(BE.nil (some ⟨p,0,none⟩) (Or.inr rfl)),H1⟩
theorem zl0 (p:Nat)(w0 w:World)(L:List (Nat×Obj))(H0:St w0.heap.size w0 w ([(p,Obj.cells #[.pointer (some ⟨p,0,none⟩),.slice none 0 0] 56 (0,0))]++L)):WP Tryz.prog 20 (zd Tryz.f53) (yJ Tryz.prog [] fun v' w'=>v'=.tuple #[]∧∃E',BE p 56 5 ([]) E'∧St w0.heap.size w0 w' (E'++L)) (ini #[.pointer (some ⟨p,0,none⟩)]) w:=by
 refine zh [0,1,2,3,4] kr kr<|zj (some 2) (.pointer (some ⟨p,0,none⟩)) (fun w=>by kernel_rfl) kr<|zj (some 3) (.pointer (some ⟨p,0,none⟩)) (fun w=>by kernel_rfl) kr<|zj (some 4) (.pointer (some ⟨p,0,none⟩)) (fun w=>by kernel_rfl) kr<|jh H0 (some 5) 54 (.tmp 4) 0 p 0 #[.pointer (some ⟨p,0,none⟩),.slice none 0 0] 56 (0,0) (.pointer (some ⟨p,0,none⟩)) kr kr kr kr kr kr<|zj (some 6) (.bool false) (fun w=>by kernel_rfl) kr<|zc<|zl kr kr<|zh [0,1,2,3,4,5] kr kr<|zj (some 14) (.pointer (some ⟨p,0,none⟩)) (fun w=>by kernel_rfl) kr<|zj (some 15) (.pointer (some ⟨p,0,none⟩)) (fun w=>by kernel_rfl) kr<|zj (some 16) (.pointer (some ⟨p,0,none⟩)) (fun w=>by kernel_rfl) kr<|jh H0 (some 17) 54 (.tmp 16) 0 p 0 #[.pointer (some ⟨p,0,none⟩),.slice none 0 0] 56 (0,0) (.pointer (some ⟨p,0,none⟩)) kr kr kr kr kr kr<|zj (some 18) (.pointer (some ⟨p,0,none⟩)) (fun w=>by kernel_rfl) kr<|uw (some 19) _ (.bool false) kr kr (fun o w ho=>zgr (t:=54) (tp:=56) (t':=54) kr kr (x:=(.tmp 17)) (y:=(.tmp 18)) ⟨p,0,none⟩ ho kr kr w)<|zc<|zl kr kr<|zp kr<|wV ?_;exact ⟨[],.nil,rfl,_,(BE.nil (some ⟨p,0,none⟩) (Or.inr rfl)),H0⟩
theorem zl1 (p:Nat)(b n cap:Nat)(cur:Array Value)(out:List UInt8)(hn:n=out.length)(hr:Rw 1 cur cap n (cellsB out))(w0 w:World)(L:List (Nat×Obj))(H0:St w0.heap.size w0 w ([(b,Obj.cells cur 5 (0,0)),(p,Obj.cells #[.pointer none,.slice (some ⟨b,0,none⟩) n cap] 56 (0,0))]++L)):WP Tryz.prog 20 (zd Tryz.f53) (yJ Tryz.prog [] fun v' w'=>v'=.tuple #[]∧∃E',BE p 56 5 out E'∧St w0.heap.size w0 w' (E'++L)) (ini #[.pointer (some ⟨p,0,none⟩)]) w:=by
 refine zh [0,1,2,3,4] kr kr<|zj (some 2) (.pointer (some ⟨p,0,none⟩)) (fun w=>by kernel_rfl) kr<|zj (some 3) (.pointer (some ⟨p,0,none⟩)) (fun w=>by kernel_rfl) kr<|zj (some 4) (.pointer (some ⟨p,0,none⟩)) (fun w=>by kernel_rfl) kr<|jh H0 (some 5) 54 (.tmp 4) 1 p 0 #[.pointer none,.slice (some ⟨b,0,none⟩) n cap] 56 (0,0) (.pointer none) kr kr kr kr kr kr<|zj (some 6) (.bool true) (fun w=>by kernel_rfl) kr<|zc<|zi kr kr<|yP [0,1,2,3,4,5,6,7] kr<|zj (some 7) (.pointer (some ⟨p,0,none⟩)) (fun w=>by kernel_rfl) kr<|zj (some 8) (.pointer (some ⟨p,0,none⟩)) (fun w=>by kernel_rfl) kr<|zgp H0 (some 9) 54 135 56 (.tmp 8) 1 p #[.pointer none,.slice (some ⟨b,0,none⟩) n cap] 56 kr kr kr kr kr kr kr (by show 0<2;omega)<|zj (some 10) (.pointer (some ⟨p,0,none⟩)) (fun w=>by kernel_rfl) kr<|zgq H0 (some 11) 135 54 56 (.tmp 10) 1 p #[.pointer none,.slice (some ⟨b,0,none⟩) n cap] 56 kr kr kr kr kr kr kr kr<|zj (some 12) (.pointer (some ⟨p,0,none⟩)) (fun w=>by kernel_rfl) kr<|zj (some 13) (.pointer (some ⟨p,0,none⟩)) (fun w=>by kernel_rfl) kr<|vB H0 1 ([(b,Obj.cells cur 5 (0,0)),(p,Obj.cells #[.pointer (some ⟨p,0,none⟩),.slice (some ⟨b,0,none⟩) n cap] 56 (0,0))]++L) 54 (.tmp 13) (.tmp 11) p (0) #[.pointer none,.slice (some ⟨b,0,none⟩) n cap] #[.pointer (some ⟨p,0,none⟩),.slice (some ⟨b,0,none⟩) n cap] 56 (.pointer (some ⟨p,0,none⟩)) kr kr kr kr kr kr (of_decide_eq_true kr) kr kr ?_;intro w1 H1;clear H0;refine zc<|wV ?_;exact ⟨[],.nil,rfl,_,(BE.row (some ⟨p,0,none⟩) b n cap cur out (Or.inr rfl) hn hr),H1⟩
theorem zl2 (p:Nat)(b n cap:Nat)(cur:Array Value)(out:List UInt8)(hn:n=out.length)(hr:Rw 1 cur cap n (cellsB out))(w0 w:World)(L:List (Nat×Obj))(H0:St w0.heap.size w0 w ([(b,Obj.cells cur 5 (0,0)),(p,Obj.cells #[.pointer (some ⟨p,0,none⟩),.slice (some ⟨b,0,none⟩) n cap] 56 (0,0))]++L)):WP Tryz.prog 20 (zd Tryz.f53) (yJ Tryz.prog [] fun v' w'=>v'=.tuple #[]∧∃E',BE p 56 5 out E'∧St w0.heap.size w0 w' (E'++L)) (ini #[.pointer (some ⟨p,0,none⟩)]) w:=by
 refine zh [0,1,2,3,4] kr kr<|zj (some 2) (.pointer (some ⟨p,0,none⟩)) (fun w=>by kernel_rfl) kr<|zj (some 3) (.pointer (some ⟨p,0,none⟩)) (fun w=>by kernel_rfl) kr<|zj (some 4) (.pointer (some ⟨p,0,none⟩)) (fun w=>by kernel_rfl) kr<|jh H0 (some 5) 54 (.tmp 4) 1 p 0 #[.pointer (some ⟨p,0,none⟩),.slice (some ⟨b,0,none⟩) n cap] 56 (0,0) (.pointer (some ⟨p,0,none⟩)) kr kr kr kr kr kr<|zj (some 6) (.bool false) (fun w=>by kernel_rfl) kr<|zc<|zl kr kr<|zh [0,1,2,3,4,5] kr kr<|zj (some 14) (.pointer (some ⟨p,0,none⟩)) (fun w=>by kernel_rfl) kr<|zj (some 15) (.pointer (some ⟨p,0,none⟩)) (fun w=>by kernel_rfl) kr<|zj (some 16) (.pointer (some ⟨p,0,none⟩)) (fun w=>by kernel_rfl) kr<|jh H0 (some 17) 54 (.tmp 16) 1 p 0 #[.pointer (some ⟨p,0,none⟩),.slice (some ⟨b,0,none⟩) n cap] 56 (0,0) (.pointer (some ⟨p,0,none⟩)) kr kr kr kr kr kr<|zj (some 18) (.pointer (some ⟨p,0,none⟩)) (fun w=>by kernel_rfl) kr<|uw (some 19) _ (.bool false) kr kr (fun o w ho=>zgr (t:=54) (tp:=56) (t':=54) kr kr (x:=(.tmp 17)) (y:=(.tmp 18)) ⟨p,0,none⟩ ho kr kr w)<|zc<|zl kr kr<|zp kr<|wV ?_;exact ⟨[],.nil,rfl,_,(BE.row (some ⟨p,0,none⟩) b n cap cur out (Or.inr rfl) hn hr),H0⟩
theorem zl3 (p:Nat)(out:List UInt8):FnB Tryz.prog 53 #[.pointer (some ⟨p,0,none⟩)] (.tuple #[]) p 56 5 out out (fun _=>True):=
 FnB.intro (c:=zd Tryz.f53) [] 20 Tryz.func53 kr kr kr fun w0 w L E hE _ HS=>by
  rcases hE with ⟨a,rfl|rfl⟩|⟨a,b,n,cap,cur,_,rfl|rfl,hn,hr⟩
  ·exact zlZ p w0 w L HS
  ·exact zl0 p w0 w L HS
  ·exact zl1 p b n cap cur out hn hr w0 w L HS
  ·exact zl2 p b n cap cur out hn hr w0 w L HS
theorem zdB (p:Nat)(out:List UInt8)(s:ByteArray)(h0:0<s.size∨out≠[])(hm:out.length+s.size≤0x800000000000):FnB Tryz.prog 38 #[.pointer (some ⟨p,0,none⟩),.string s] (.tuple #[.int .i64 (ByteArray.size s:Int),.nilIface]) p 56 5 out (out++tl s) (fun _=>True):=by
 refine FnB.intro (c:=zd Tryz.f38) [.tmp 4,.tmp 5] 19 Tryz.func38 kr kr kr fun w0 w L E hE _ HS=>?_;have H0:St w0.heap.size w0 w (L++E):=HS.perm List.perm_append_comm;refine zh [0,1] kr kr<|zj (some 4) (.int .i64 0) (fun w=>by kernel_rfl) kr<|zj (some 5) (.nilIface) (fun w=>by kernel_rfl) kr<|zc<|zh [0,1] kr kr<|zj (some 6) (.pointer (some ⟨p,0,none⟩)) (fun w=>by kernel_rfl) kr<|zdx (l:=L) H0 hE (some 7) 53 #[.pointer (some ⟨p,0,none⟩)] (.tuple #[]) out (fun _=>True) (zl3 p out) trivial kr kr ?_;intro E1 w1 hE1 H1;clear H0;rcases hE1 with ⟨a,ha⟩ | ⟨a,b,n,cap,cur,_,ha,hn,hr⟩
 ·have h0':0<ByteArray.size s:=h0.resolve_right (fun h=>h rfl);simp only [List.length_nil] at hm;have HP:St w0.heap.size w0 w1 ([(p,Obj.cells #[.pointer a,.slice none 0 0] 56 (0,0))]++L):=H1.perm List.perm_append_comm;refine zc<|zh [0,1,2,3,4,5,6,7,8,9] kr kr<|zj (some 8) (.pointer (some ⟨p,0,none⟩)) (fun w=>by kernel_rfl) kr<|zj (some 9) (.pointer (some ⟨p,0,none⟩)) (fun w=>by kernel_rfl) kr<|zj (some 10) (.pointer (some ⟨p,0,none⟩)) (fun w=>by kernel_rfl) kr<|zj (some 11) (.pointer (some ⟨p,1,none⟩)) (fun w=>by kernel_rfl) kr<|jh HP (some 12) 48 (.tmp 11) 0 p 1 #[.pointer a,.slice none 0 0] 56 (0,0) (.slice none 0 0) kr kr kr kr kr kr<|zj (some 13) (.string s) (fun w=>by kernel_rfl) kr<|zlS HP (some 14) 48 9 5 (.tmp 12) (.tmp 13) s kr kr kr kr kr kr (by omega) (by omega) ?_;intro b_1 cap_2 cur_3 w2 H2 hr_4;clear HP;refine zj (some 15) (.pointer (some ⟨p,0,none⟩)) (fun w=>by kernel_rfl) kr<|zj (some 16) (.pointer (some ⟨p,1,none⟩)) (fun w=>by kernel_rfl) kr<|vB H2 1 ([(b_1,Obj.cells cur_3 5 (0,0)),(p,Obj.cells #[.pointer a,.slice (some ⟨b_1,0,none⟩) (ByteArray.size s) cap_2] 56 (0,0))]++L) 48 (.tmp 16) (.tmp 14) p (1) #[.pointer a,.slice none 0 0] #[.pointer a,.slice (some ⟨b_1,0,none⟩) (ByteArray.size s) cap_2] 56 (.slice (some ⟨b_1,0,none⟩) (ByteArray.size s) cap_2) kr kr kr kr kr kr (of_decide_eq_true kr) kr kr ?_;intro w3 H3;clear H2;refine zc<|zh [0,1,2,3] kr kr<|zj (some 17) (.string s) (fun w=>by kernel_rfl) kr<|zj (some 18) (.int .i64 (ByteArray.size s:Int)) (fun w=>by kernel_rfl) kr<|zj (some 4) (.int .i64 (ByteArray.size s:Int)) (fun w=>by kernel_rfl) kr<|zj (some 5) (.nilIface) (fun w=>by kernel_rfl) kr<|zc<|zn kr<|wV ?_;exact ⟨[.int .i64 (ByteArray.size s:Int),.nilIface],(.tmp (.int .i64 (ByteArray.size s:Int)) kr (.tmp (.nilIface) kr .nil)),rfl,_,(BE.row a b_1 (ByteArray.size s) cap_2 cur_3 (tl s) ha rfl hr_4),H3⟩
 ·have HP:St w0.heap.size w0 w1 ([(b,Obj.cells cur 5 (0,0)),(p,Obj.cells #[.pointer a,.slice (some ⟨b,0,none⟩) n cap] 56 (0,0))]++L):=H1.perm List.perm_append_comm;refine zc<|zh [0,1,2,3,4,5,6,7,8,9] kr kr<|zj (some 8) (.pointer (some ⟨p,0,none⟩)) (fun w=>by kernel_rfl) kr<|zj (some 9) (.pointer (some ⟨p,0,none⟩)) (fun w=>by kernel_rfl) kr<|zj (some 10) (.pointer (some ⟨p,0,none⟩)) (fun w=>by kernel_rfl) kr<|zj (some 11) (.pointer (some ⟨p,1,none⟩)) (fun w=>by kernel_rfl) kr<|jh HP (some 12) 48 (.tmp 11) 1 p 1 #[.pointer a,.slice (some ⟨b,0,none⟩) n cap] 56 (0,0) (.slice (some ⟨b,0,none⟩) n cap) kr kr kr kr kr kr<|zj (some 13) (.string s) (fun w=>by kernel_rfl) kr<|zlR HP (some 14) 48 9 5 (.tmp 12) (.tmp 13) 0 b n cap cur out s (fun b_5 cur_7=>([(b_5,Obj.cells cur_7 5 (0,0)),(p,Obj.cells #[.pointer a,.slice (some ⟨b,0,none⟩) n cap] 56 (0,0))]++L)) kr kr kr kr kr kr hr kr (by omega) (fun _ _=>by kernel_rfl) ?_;intro b_5 cap_6 cur_7 w4 H4 hr_8;clear HP;refine zj (some 15) (.pointer (some ⟨p,0,none⟩)) (fun w=>by kernel_rfl) kr<|zj (some 16) (.pointer (some ⟨p,1,none⟩)) (fun w=>by kernel_rfl) kr<|vB H4 1 ([(b_5,Obj.cells cur_7 5 (0,0)),(p,Obj.cells #[.pointer a,.slice (some ⟨b_5,0,none⟩) (n+ByteArray.size s) cap_6] 56 (0,0))]++L) 48 (.tmp 16) (.tmp 14) p (1) #[.pointer a,.slice (some ⟨b,0,none⟩) n cap] #[.pointer a,.slice (some ⟨b_5,0,none⟩) (n+ByteArray.size s) cap_6] 56 (.slice (some ⟨b_5,0,none⟩) (n+ByteArray.size s) cap_6) kr kr kr kr kr kr (of_decide_eq_true kr) kr kr ?_;intro w5 H5;clear H4;refine zc<|zh [0,1,2,3] kr kr<|zj (some 17) (.string s) (fun w=>by kernel_rfl) kr<|zj (some 18) (.int .i64 (ByteArray.size s:Int)) (fun w=>by kernel_rfl) kr<|zj (some 4) (.int .i64 (ByteArray.size s:Int)) (fun w=>by kernel_rfl) kr<|zj (some 5) (.nilIface) (fun w=>by kernel_rfl) kr<|zc<|zn kr<|wV ?_;exact ⟨[.int .i64 (ByteArray.size s:Int),.nilIface],(.tmp (.int .i64 (ByteArray.size s:Int)) kr (.tmp (.nilIface) kr .nil)),rfl,_,(BE.row a b_5 (n+ByteArray.size s) cap_6 cur_7 (out++tl s) ha (by rw [List.length_append,zy,hn]) hr_8),H5⟩
theorem zl4 (pb m:Nat)(ih: ∀(out:List UInt8) (l:Bool) (s:ByteArray) (p:Option Addr) (n c:Nat) (k:Fo),s.size≤0x800000000000→List.length out+9+ByteArray.size s+wtF k≤0x800000000000→k.cnt<m→ka Tryz.prog 21 #[.pointer (some ⟨pb,0,none⟩),.agg #[.bool l,.string s,.slice p n c]] (.tuple #[]) pb 56 5 out (out++wr1 l s (szF k) (wrF k)) (fun w=>zx w.heap.size w p n k))(out:List UInt8)(l:Bool)(s:ByteArray)(p:Option Addr)(n c:Nat)(k:Fo)(hs:s.size≤0x800000000000)(hw:List.length out+9+ByteArray.size s+wtF k≤0x800000000000)(hkm:k.cnt<m+1):ka Tryz.prog 21 #[.pointer (some ⟨pb,0,none⟩),.agg #[.bool l,.string s,.slice p n c]] (.tuple #[]) pb 56 5 out (out++wr1 l s (szF k) (wrF k)) (fun w=>zx w.heap.size w p n k):=by
 refine ka.intro (c:=zd Tryz.f21) [] 31 Tryz.func21 kr kr kr fun w0 w E0 hE0 hpre H0=>?_;have hn:=hpre.1;have hnm:=hpre.2.1;refine zh [0] kr kr<|ux H0 (some 3) 44 (.tmp 1) (.agg #[.bool l,.string s,.slice p n c]) kr kr kr ?_;intro b1 w1 H1;clear H0;refine zc<|zb kr<|zh [0,1,2,3] kr kr<|zj (some 6) (.pointer (some ⟨b1,1,none⟩)) (fun w=>by kernel_rfl) kr<|jh H1 (some 7) 9 (.tmp 6) 0 b1 1 #[.bool l,.string s,.slice p n c] 44 (0,0) (.string s) kr kr kr kr kr kr<|ze4 H1 (some 8) 35 #[.string s] (.bool (zT s)) (zbB s) (fun w=>by kernel_rfl) kr ?_;intro w2 H2;clear H1;cases hq1:zT s
 ·refine zj (some 9) (.bool true) (fun w=>by kernel_rfl) kr<|zc<|zi kr kr ?_;have hsl:=xX k;have hhl:=xW (frm l) (ByteArray.size s+szF k);refine D2.g_draw0 [0,1,2,3,4,5] [(some 10,fun _=>.pointer (some ⟨pb,0,none⟩)),(some 11,fun _=>.agg #[.bool l,.string s,.slice p n c]),(some 12,fun _=>.agg #[.bool l,.string s,.slice p n c]),(some 13,fun _=>.int .u64 ((ByteArray.size s+szF k:Nat):Int)),(some 14,fun _=>.string (zf (hd (frm l) (ByteArray.size s+szF k)))),(some 15,fun _=>.tuple #[.int .i64 (ByteArray.size (zf (hd (frm l) (ByteArray.size s+szF k))):Int),.nilIface])] (qi w0 pb 56 5 (out++tl (zf (hd (frm l) (ByteArray.size s+szF k)))) (b1,Obj.cells #[.bool l,.string s,.slice p n c] 44 (0,0)) E0 5) kr kr kr H2.drew ⟨?_,?_,?_,?_,?_,?_,trivial⟩ ?_
  ·exact zlT rfl (fun g w=>by kernel_rfl)
  ·exact zgt (C:=#[.bool l,.string s,.slice p n c]) (T':=44) (t:=44) (x:=(.tmp 3)) rfl (fun g=>by kernel_rfl) (fun g=>by kernel_rfl) rfl kr
  ·exact zgt (C:=#[.bool l,.string s,.slice p n c]) (T':=44) (t:=44) (x:=(.tmp 3)) rfl (fun g=>by kernel_rfl) (fun g=>by kernel_rfl) rfl kr
  ·exact zgu (f:=36) (args:=#[.agg #[.bool l,.string s,.slice p n c]]) rfl (zlQ l s p n c k hs (by omega)) (fun w hb=>zx.call hpre hb) (fun g w=>by kernel_rfl)
  ·exact zlU (f:=37) (args:=#[.agg #[.bool l,.string s,.slice p n c],.int .u64 ((ByteArray.size s+szF k:Nat):Int)]) rfl (zgl l s p n c (ByteArray.size s+szF k) (by omega)) (fun g w=>by kernel_rfl)
  ·exact zlV (f:=38) (args:=#[.pointer (some ⟨pb,0,none⟩),.string (zf (hd (frm l) (ByteArray.size s+szF k)))]) rfl hE0 (zdB pb out (zf (hd (frm l) (ByteArray.size s+szF k))) (Or.inl (by rw [qt];exact hhl.1)) (by rw [qt];omega)) (fun g w=>by kernel_rfl)
  intro L0 G0 w3 hall HL;clear H2;obtain ⟨E1,hE1,H3⟩:=HL.done (hall 5 (Nat.le_of_ble_eq_true kr));refine wW<|zh [0,1,2,3] kr kr ?_;have hl0:(out++tl (zf (hd (frm l) (ByteArray.size s+szF k)))).length=out.length+(hd (frm l) (ByteArray.size s+szF k)).length:=by rw [List.length_append,ji]
  have hw1:out++wr1 l s (szF k) (wrF k)=(out++tl (zf (hd (frm l) (ByteArray.size s+szF k)))++tl s)++wrF k:=by unfold wr1;rw [if_neg (by rw [hq1];decide),ji];simp only [List.append_assoc]
  have hl1:(out++tl (zf (hd (frm l) (ByteArray.size s+szF k)))++tl s).length=out.length+(hd (frm l) (ByteArray.size s+szF k)).length+ByteArray.size s:=by rw [List.length_append,hl0,zy]
  refine zj (some 16) (.pointer (some ⟨pb,0,none⟩)) (fun w=>by kernel_rfl) kr<|zj (some 17) (.pointer (some ⟨b1,1,none⟩)) (fun w=>by kernel_rfl) kr<|jh H3 (some 18) 9 (.tmp 17) 0 b1 1 #[.bool l,.string s,.slice p n c] 44 (0,0) (.string s) kr kr kr kr kr kr<|zdx (l:=[(b1,Obj.cells #[.bool l,.string s,.slice p n c] 44 (0,0))]) H3 hE1 (some 19) 38 #[.pointer (some ⟨pb,0,none⟩),.string s] (.tuple #[.int .i64 (ByteArray.size s:Int),.nilIface]) ((out++tl (zf (hd (frm l) (ByteArray.size s+szF k))))++tl s) (fun _=>True) (zdB pb (out++tl (zf (hd (frm l) (ByteArray.size s+szF k)))) s (Or.inr (by intro q;have h9:=congrArg List.length q;rw [hl0] at h9;simp only [List.length_nil] at h9;omega)) (by rw [hl0];omega)) trivial kr kr ?_;intro E2 w4 hE2 H4;clear H3;refine zc<|zh [0,1,2,3] kr kr<|zj (some 20) (.pointer (some ⟨b1,2,none⟩)) (fun w=>by kernel_rfl) kr<|jh H4 (some 21) 42 (.tmp 20) 0 b1 2 #[.bool l,.string s,.slice p n c] 44 (0,0) (.slice p n c) kr kr kr kr kr kr<|zj (some 22) (.int .i64 (n:Int)) (fun w=>by kernel_rfl) kr<|zj (some 23) (.int .i64 0) (fun w=>by kernel_rfl) kr<|zc<|zu 0 kr ?_;have HD1:St w0.heap.size w0 w4 ([]++E2):=H4.sub (List.Sublist.cons _ (List.Sublist.refl E2));refine yD kr (fun mz ρ ww=> ∃(i:Nat) (r:Fo) (o:List UInt8) (Ez:List (Nat×Obj)),n-i=mz∧(FoR w0.heap.size w0 p i r)∧(i+Fo.len r=n)∧(Fo.cnt r≤Fo.cnt k)∧(List.length o+wtF r≤0x800000000000)∧(out++wr1 l s (szF k) (wrF k)=o++wrF r)∧(BE pb 56 5 o Ez)∧St w0.heap.size w0 ww ([]++Ez)∧Is [(0,.pointer (some ⟨pb,0,none⟩)),(1,.agg #[.bool l,.string s,.slice p n c]),(3,.pointer (some ⟨b1,0,none⟩)),(9,.bool true),(21,.slice p n c),(22,.int .i64 (n:Int)),(23,.int .i64 (i:Int))] ρ) (n-0) ⟨0,k,((out++tl (zf (hd (frm l) (ByteArray.size s+szF k))))++tl s),E2,rfl,(zx.start hpre),(by have hn0:=(hpre).1;omega),(Nat.le_refl _),(by rw [hl1];omega),hw1,hE2,HD1,(Is.of ⟨kr,kr,kr,kr,kr,kr,kr,trivial⟩)⟩ ?_;clear HD1;rintro _ _ w5 ⟨i,r,o,Ez,rfl,hR,hN,hcn,hwt,hout,hEz,H5,_,rfl⟩;refine zh [0] kr kr ?_;by_cases hc2:(i:Nat)<n
  ·refine qN (some 24) (.bool (decide ((i:Int)<(n:Int)))) (.bool true) (fun w=>by kernel_rfl) (za (decide_eq_true (by omega))) kr<|zc<|zb kr<|zi kr kr<|zp kr<|wW<|zb kr<|zu 1 kr<|zh [0,1,2,3] kr kr ?_;obtain ⟨l1,s1,k1,r1,b1,off1,C1,T1,fz1,p1,n1,c1,hr1,hp1,hb1,hh1,hs1,hx1,hz1,hk1,hR1,hN1⟩:=FoR.open hR hN (by omega);refine uw (some 25) _ (.pointer (some ⟨b1,off1+i*3,none⟩)) kr kr (fun o w ho=>zad (kd:=.i64) (t:=42) (e:=44) (bytes:=48) kr (x:=(.tmp 21)) (y:=(.tmp 23)) b1 off1 n c i hp1 ho kr kr (by omega) w)<|ze5 H5 (some 26) 44 (.tmp 25) b1 (off1+i*3) 3 C1 #[.bool l1,.string s1,.slice p1 n1 c1] T1 fz1 kr kr kr hh1 hb1 kr hs1 hx1<|zP H5 (some 5) 44 (.agg #[.bool false,.string (⟨#[]⟩),.slice none 0 0]) kr kr kr ?_;intro b2 w6 H6;clear H5;refine vB H6 0 ([(b2,Obj.cells #[.bool l1,.string s1,.slice p1 n1 c1] 44 (0,0))]++Ez) 44 (.tmp 5) (.tmp 26) b2 (0) (#[.bool false,.string (⟨#[]⟩),.slice none 0 0]) #[.bool l1,.string s1,.slice p1 n1 c1] 44 (.agg #[.bool l1,.string s1,.slice p1 n1 c1]) kr kr kr kr kr kr (of_decide_eq_true kr) kr kr ?_;intro w7 H7;clear H6;refine zc<|yP [0,1,2] kr ?_;have hcn1:=hcn;rw [hr1] at hcn1;simp only [Fo.cnt] at hcn1;have hwt1:=hwt;rw [hr1] at hwt1;simp only [wtF] at hwt1;have hwl1:(wr1 l1 s1 (szF k1) (wrF k1)).length≤9+ByteArray.size s1+wtF k1:=by have h9:=zby (.cons l1 s1 k1 .nil);simp only [wrF,wtF,List.append_nil,Nat.add_zero] at h9;exact h9
   refine zj (some 27) (.pointer (some ⟨pb,0,none⟩)) (fun w=>by kernel_rfl) kr<|vA H7 (some 28) 44 (.tmp 5) 0 b2 #[.bool l1,.string s1,.slice p1 n1 c1] 44 (0,0) kr kr kr kr kr ?_;have HD3:St w0.heap.size w0 w7 ([]++Ez):=H7.sub (List.Sublist.cons _ (List.Sublist.refl Ez));refine zdy HD3 hEz (some 29) 21 #[.pointer (some ⟨pb,0,none⟩),.agg #[.bool l1,.string s1,.slice p1 n1 c1]] (.tuple #[]) (o++wr1 l1 s1 (szF k1) (wrF k1)) (fun w=>zx w.heap.size w p1 n1 k1) (ih o l1 s1 p1 n1 c1 k1 hz1 (by omega) (by omega)) hk1 kr kr ?_;intro E3 w8 hE3 H8;clear HD3;refine zc<|wW<|yP [0,1] kr<|qN (some 30) (.int .i64 (IntKind.i64.wrap ((i:Int)+1))) (.int .i64 ((i+1:Nat):Int)) (fun w=>by kernel_rfl) (zk (yF (a:=i) (b:=1) (by omega))) kr<|zj (some 23) (.int .i64 ((i+1:Nat):Int)) (fun w=>by kernel_rfl) kr<|zc ?_;show ∃m,_∧_;exact ⟨_,(by omega),(i+1),r1,(o++wr1 l1 s1 (szF k1) (wrF k1)),E3,rfl,hR1,hN1,(by omega),(by rw [List.length_append];omega),(by rw [hout,hr1];simp only [wrF,List.append_assoc]),hE3,H8,(Is.of ⟨kr,kr,kr,kr,kr,kr,kr,trivial⟩)⟩
  ·refine qN (some 24) (.bool (decide ((i:Int)<(n:Int)))) (.bool false) (fun w=>by kernel_rfl) (za (decide_eq_false (by omega))) kr<|zc<|zb kr<|zl kr kr<|ym 0 kr<|wV ?_;have hdn:=FoR.done hN (by omega);rw [hdn] at hout;exact ⟨[],.nil,rfl,_,(by rw [hout,show wrF Fo.nil=[] from rfl,List.append_nil];exact hEz),H5⟩
 ·refine zj (some 9) (.bool false) (fun w=>by kernel_rfl) kr<|zc<|zl kr kr<|zp kr<|wW<|zh [0,1,2,3] kr kr ?_;have hsz1:=jA hq1;have hw1:out++wr1 l s (szF k) (wrF k)=(out++tl s)++wrF k:=by unfold wr1;rw [if_pos hq1,List.nil_append,List.append_assoc]
  have hl1:(out++tl s).length=out.length+ByteArray.size s:=by rw [List.length_append,zy]
  refine zj (some 16) (.pointer (some ⟨pb,0,none⟩)) (fun w=>by kernel_rfl) kr<|zj (some 17) (.pointer (some ⟨b1,1,none⟩)) (fun w=>by kernel_rfl) kr<|jh H2 (some 18) 9 (.tmp 17) 0 b1 1 #[.bool l,.string s,.slice p n c] 44 (0,0) (.string s) kr kr kr kr kr kr<|zdx (l:=[(b1,Obj.cells #[.bool l,.string s,.slice p n c] 44 (0,0))]) H2 hE0 (some 19) 38 #[.pointer (some ⟨pb,0,none⟩),.string s] (.tuple #[.int .i64 (ByteArray.size s:Int),.nilIface]) (out++tl s) (fun _=>True) (zdB pb out s (Or.inl (by omega)) (by omega)) trivial kr kr ?_;intro E4 w9 hE4 H9;clear H2;refine zc<|zh [0,1,2,3] kr kr<|zj (some 20) (.pointer (some ⟨b1,2,none⟩)) (fun w=>by kernel_rfl) kr<|jh H9 (some 21) 42 (.tmp 20) 0 b1 2 #[.bool l,.string s,.slice p n c] 44 (0,0) (.slice p n c) kr kr kr kr kr kr<|zj (some 22) (.int .i64 (n:Int)) (fun w=>by kernel_rfl) kr<|zj (some 23) (.int .i64 0) (fun w=>by kernel_rfl) kr<|zc<|zu 0 kr ?_;have HD4:St w0.heap.size w0 w9 ([]++E4):=H9.sub (List.Sublist.cons _ (List.Sublist.refl E4));refine yD kr (fun mz ρ ww=> ∃(i:Nat) (r:Fo) (o:List UInt8) (Ez:List (Nat×Obj)),n-i=mz∧(FoR w0.heap.size w0 p i r)∧(i+Fo.len r=n)∧(Fo.cnt r≤Fo.cnt k)∧(List.length o+wtF r≤0x800000000000)∧(out++wr1 l s (szF k) (wrF k)=o++wrF r)∧(BE pb 56 5 o Ez)∧St w0.heap.size w0 ww ([]++Ez)∧Is [(0,.pointer (some ⟨pb,0,none⟩)),(1,.agg #[.bool l,.string s,.slice p n c]),(3,.pointer (some ⟨b1,0,none⟩)),(9,.bool false),(21,.slice p n c),(22,.int .i64 (n:Int)),(23,.int .i64 (i:Int))] ρ) (n-0) ⟨0,k,(out++tl s),E4,rfl,(zx.start hpre),(by have hn0:=(hpre).1;omega),(Nat.le_refl _),(by rw [hl1];omega),hw1,hE4,HD4,(Is.of ⟨kr,kr,kr,kr,kr,kr,kr,trivial⟩)⟩ ?_;clear HD4;rintro _ _ w10 ⟨i,r,o,Ez,rfl,hR,hN,hcn,hwt,hout,hEz,H10,_,rfl⟩;refine zh [0] kr kr ?_;by_cases hc5:(i:Nat)<n
  ·refine qN (some 24) (.bool (decide ((i:Int)<(n:Int)))) (.bool true) (fun w=>by kernel_rfl) (za (decide_eq_true (by omega))) kr<|zc<|zb kr<|zi kr kr<|zp kr<|wW<|zb kr<|zu 1 kr<|zh [0,1,2,3] kr kr ?_;obtain ⟨l2,s2,k2,r2,b2,off2,C2,T2,fz2,p2,n2,c2,hr2,hp2,hb2,hh2,hs2,hx2,hz2,hk2,hR2,hN2⟩:=FoR.open hR hN (by omega);refine uw (some 25) _ (.pointer (some ⟨b2,off2+i*3,none⟩)) kr kr (fun o w ho=>zad (kd:=.i64) (t:=42) (e:=44) (bytes:=48) kr (x:=(.tmp 21)) (y:=(.tmp 23)) b2 off2 n c i hp2 ho kr kr (by omega) w)<|ze5 H10 (some 26) 44 (.tmp 25) b2 (off2+i*3) 3 C2 #[.bool l2,.string s2,.slice p2 n2 c2] T2 fz2 kr kr kr hh2 hb2 kr hs2 hx2<|zP H10 (some 5) 44 (.agg #[.bool false,.string (⟨#[]⟩),.slice none 0 0]) kr kr kr ?_;intro b3 w11 H11;clear H10;refine vB H11 0 ([(b3,Obj.cells #[.bool l2,.string s2,.slice p2 n2 c2] 44 (0,0))]++Ez) 44 (.tmp 5) (.tmp 26) b3 (0) (#[.bool false,.string (⟨#[]⟩),.slice none 0 0]) #[.bool l2,.string s2,.slice p2 n2 c2] 44 (.agg #[.bool l2,.string s2,.slice p2 n2 c2]) kr kr kr kr kr kr (of_decide_eq_true kr) kr kr ?_;intro w12 H12;clear H11;refine zc<|yP [0,1,2] kr ?_;have hcn2:=hcn;rw [hr2] at hcn2;simp only [Fo.cnt] at hcn2;have hwt2:=hwt;rw [hr2] at hwt2;simp only [wtF] at hwt2;have hwl2:(wr1 l2 s2 (szF k2) (wrF k2)).length≤9+ByteArray.size s2+wtF k2:=by have h9:=zby (.cons l2 s2 k2 .nil);simp only [wrF,wtF,List.append_nil,Nat.add_zero] at h9;exact h9
   refine zj (some 27) (.pointer (some ⟨pb,0,none⟩)) (fun w=>by kernel_rfl) kr<|vA H12 (some 28) 44 (.tmp 5) 0 b3 #[.bool l2,.string s2,.slice p2 n2 c2] 44 (0,0) kr kr kr kr kr ?_;have HD6:St w0.heap.size w0 w12 ([]++Ez):=H12.sub (List.Sublist.cons _ (List.Sublist.refl Ez));refine zdy HD6 hEz (some 29) 21 #[.pointer (some ⟨pb,0,none⟩),.agg #[.bool l2,.string s2,.slice p2 n2 c2]] (.tuple #[]) (o++wr1 l2 s2 (szF k2) (wrF k2)) (fun w=>zx w.heap.size w p2 n2 k2) (ih o l2 s2 p2 n2 c2 k2 hz2 (by omega) (by omega)) hk2 kr kr ?_;intro E5 w13 hE5 H13;clear HD6;refine zc<|wW<|yP [0,1] kr<|qN (some 30) (.int .i64 (IntKind.i64.wrap ((i:Int)+1))) (.int .i64 ((i+1:Nat):Int)) (fun w=>by kernel_rfl) (zk (yF (a:=i) (b:=1) (by omega))) kr<|zj (some 23) (.int .i64 ((i+1:Nat):Int)) (fun w=>by kernel_rfl) kr<|zc ?_;show ∃m,_∧_;exact ⟨_,(by omega),(i+1),r2,(o++wr1 l2 s2 (szF k2) (wrF k2)),E5,rfl,hR2,hN2,(by omega),(by rw [List.length_append];omega),(by rw [hout,hr2];simp only [wrF,List.append_assoc]),hE5,H13,(Is.of ⟨kr,kr,kr,kr,kr,kr,kr,trivial⟩)⟩
  ·refine qN (some 24) (.bool (decide ((i:Int)<(n:Int)))) (.bool false) (fun w=>by kernel_rfl) (za (decide_eq_false (by omega))) kr<|zc<|zb kr<|zl kr kr<|ym 0 kr<|wV ?_;have hdn:=FoR.done hN (by omega);rw [hdn] at hout;exact ⟨[],.nil,rfl,_,(by rw [hout,show wrF Fo.nil=[] from rfl,List.append_nil];exact hEz),H10⟩
theorem zl5 (pb:Nat)(out:List UInt8)(l:Bool)(s:ByteArray)(p:Option Addr)(n c:Nat)(k:Fo)(hs:s.size≤0x800000000000)(hw:List.length out+9+ByteArray.size s+wtF k≤0x800000000000):ka Tryz.prog 21 #[.pointer (some ⟨pb,0,none⟩),.agg #[.bool l,.string s,.slice p n c]] (.tuple #[]) pb 56 5 out (out++wr1 l s (szF k) (wrF k)) (fun w=>zx w.heap.size w p n k):=by
 have key: ∀(m:Nat) (out:List UInt8) (l:Bool) (s:ByteArray) (p:Option Addr) (n c:Nat) (k:Fo),s.size≤0x800000000000→List.length out+9+ByteArray.size s+wtF k≤0x800000000000→k.cnt<m→ka Tryz.prog 21 #[.pointer (some ⟨pb,0,none⟩),.agg #[.bool l,.string s,.slice p n c]] (.tuple #[]) pb 56 5 out (out++wr1 l s (szF k) (wrF k)) (fun w=>zx w.heap.size w p n k):=by
  intro m
  induction m with
  | zero=>intros;omega
  | succ m ih=>intro out l s p n c k hs hw hkm;exact zl4 pb m ih out l s p n c k hs hw hkm
 exact key (k.cnt+1) out l s p n c k hs hw (by omega)
def FnO (P:Program)(f:Nat)(args:Array Value)(v:Value)(p:Nat)(T e:TypeId)(out:List UInt8):Prop:=
 ∀(w0 w:World) (E:List (Nat×Obj)),BE p T e out E→St w0.heap.size w0 w E→Calls P f args w fun r w'=>r=.returned v∧St w0.heap.size w0 w' []
theorem zl6 {P:Program}{N:Nat}{ops:Array Oper}{i:Nat}{r:List Nat}{K:Env→World→Prop}{ρ:Env}{w:World}{w0:World}{E:List (Nat×Obj)}(HS:St w0.heap.size w0 w E){p:Nat}{T e:TypeId}{out:List UInt8}(hE:BE p T e out E)(d:Option Nat)(f:Nat)(args:Array Value)(v:Value)(hc:FnO P f args v p T e out)
 (h:opv P ops i ρ w=some (d,true,.ok (.enter f args) w)) (hd:dOK d N=true) (kk: ∀w',St w0.heap.size w0 w' []→WPs P N ops K r (zm ρ d v) w'):WPs P N ops K (i::r) ρ w:=by
 obtain ⟨o,ho,rfl,hw,hr⟩:=zQ h;refine WPo.run ho hw fun a ha=>?_;rw [hr,Oper.upon_enter];refine (hc w0 w E hE HS).mono ?_;rintro _ w' ⟨rfl,hS⟩;exact ⟨_,ha.put _ (zM hd) v,kk w' hS⟩
theorem zl7 (pb b n cap:Nat)(cur:Array Value)(out:List UInt8)(a:Option Addr)(hn:n=out.length)(hr:Rw 1 cur cap n (cellsB out))(h0:0<n)(hm:n≤0x800000000000)(hcap:cap≠0)(w0 w:World)(H0:St w0.heap.size w0 w [(b,Obj.cells cur 5 (0,0)),(pb,Obj.cells #[.pointer a,.slice (some ⟨b,0,none⟩) n cap] 56 (0,0))]):WP Tryz.prog 14 (zd Tryz.f22) (yJ Tryz.prog [.tmp 2] fun v' w'=>v'=.string (zf out)∧St w0.heap.size w0 w' []) (ini #[.pointer (some ⟨pb,0,none⟩)]) w:=by
 refine zh [0] kr kr<|zj (some 2) (.string (⟨#[]⟩)) (fun w=>by kernel_rfl) kr<|zc<|D2.g_sdraw [0,1,2,3,4,5,6,7,8,9,10,11] [(some 3,fun _=>.pointer (some ⟨pb,0,none⟩)),(some 4,fun _=>.pointer (some ⟨pb,0,none⟩)),(some 5,fun _=>.pointer (some ⟨pb,1,none⟩)),(some 6,fun _=>.slice (some ⟨b,0,none⟩) n cap),(some 7,fun _=>.pointer (some ⟨b,0,none⟩)),(some 8,fun _=>.pointer (some ⟨pb,0,none⟩)),(some 9,fun _=>.pointer (some ⟨pb,0,none⟩)),(some 10,fun _=>.pointer (some ⟨pb,1,none⟩)),(some 11,fun _=>.slice (some ⟨b,0,none⟩) n cap),(some 12,fun _=>.int .i64 (n:Int)),(some 13,fun _=>.string (zf out)),(some 2,fun _=>.string (zf out))] (jB w0 [(b,Obj.cells cur 5 (0,0)),(pb,Obj.cells #[.pointer a,.slice (some ⟨b,0,none⟩) n cap] 56 (0,0))] 10) kr kr kr kr H0.drew ⟨?_,?_,?_,?_,?_,?_,?_,?_,?_,?_,?_,?_,trivial⟩ ?_
 ·exact ke rfl (fun g w=>by kernel_rfl)
 ·exact ke rfl (fun g w=>by kernel_rfl)
 ·exact ke rfl (fun g w=>by kernel_rfl)
 ·exact zdz rfl (fun L hN=>(hN.2.2.no 4 10 kr (hN.post 4 kr))) (.load 48 (.tmp 5)) (fun g=>by kernel_rfl) (fun g w o hS ho=>hS.load1_run (j:=1) (b:=pb) (off:=1) (C:=#[.pointer a,.slice (some ⟨b,0,none⟩) n cap]) (T:=56) kr kr kr kr o ho)
 ·exact zdz rfl (fun L hN=>(hN.post 10 kr)) (zdA 48 (.tmp 6)) (fun g=>by kernel_rfl) (fun g w o hS ho=>zlX (a:=⟨b,0,none⟩) (n:=n) (c:=cap) kr (by omega) o ho)
 ·exact ke rfl (fun g w=>by kernel_rfl)
 ·exact ke rfl (fun g w=>by kernel_rfl)
 ·exact ke rfl (fun g w=>by kernel_rfl)
 ·exact zdz rfl (fun L hN=>(hN.2.2.no 9 10 kr (hN.post 9 kr))) (.load 48 (.tmp 10)) (fun g=>by kernel_rfl) (fun g w o hS ho=>hS.load1_run (j:=1) (b:=pb) (off:=1) (C:=#[.pointer a,.slice (some ⟨b,0,none⟩) n cap]) (T:=56) kr kr kr kr o ho)
 ·exact ke rfl (fun g w=>by kernel_rfl)
 ·exact zlW rfl (uO 84 3 (.tmp 7) (.tmp 12)) (fun g=>by kernel_rfl) (fun g w o hS ho=>zlY (j:=0) (b:=b) (n:=n) (cap:=cap) (C:=cur) (e:=5) hS kr kr kr kr kr hr (by omega) (by omega) o ho)
 ·exact ke rfl (fun g w=>by kernel_rfl)
 intro L0 G0 w1 hall HL;clear H0;have H1:St w0.heap.size w0 w1 []:=by unfold jB at HL;rw [hall 10 (Nat.le_of_ble_eq_true kr)] at HL;exact HL
 refine zn kr<|wV ?_;exact ⟨[.string (zf out)],.tmp _ kr .nil,rfl,H1⟩
theorem zl8 (pb:Nat)(out:List UInt8)(h0:0<out.length)(hm:out.length≤0x800000000000):FnO Tryz.prog 22 #[.pointer (some ⟨pb,0,none⟩)] (.string (zf out)) pb 56 5 out:=fun w0 w E hE HS=>by
 rcases hE with ⟨a,ha⟩|⟨a,b,n,cap,cur,_,ha,hn,hr⟩
 ·simp at h0
 ·have h9:Calls Tryz.prog 22 #[.pointer (some ⟨pb,0,none⟩)] w fun r w'=> ∃v',r=.returned v'∧(v'=.string (zf out)∧St w0.heap.size w0 w' []):=
   jS (c:=zd Tryz.f22) (rs:=[.tmp 2]) (N:=14) Tryz.func22 kr kr kr (zl7 pb b n cap cur out a hn hr (by omega) (by omega) (by have:=hr.le;omega) w0 w HS)
  refine h9.mono ?_;rintro _ w' ⟨v',he,hv,hS⟩;exact ⟨by rw [he,hv],hS⟩
theorem zgv (l:Bool)(s:ByteArray)(p:Option Addr)(n c:Nat)(k:Fo)(hs:s.size≤0x800000000000):FnP Tryz.prog 11 #[.agg #[.bool l,.string s,.slice p n c]] (fun w=>zx w.heap.size w p n k) (xA (zJ l s n k)):=by
 refine FnP.intro (c:=zd Tryz.f11) [.tmp 2,.tmp 3] 20 Tryz.func11 kr kr kr fun w hpre=>?_;have H0:=St.start w;have hn:=hpre.1;have hnm:=hpre.2.1;have hdl:=zbz k;refine zh [0,1,2] kr kr<|ux H0 (some 1) 44 (.tmp 0) (.agg #[.bool l,.string s,.slice p n c]) kr kr kr ?_;intro b1 w1 H1;clear H0;refine zj (some 2) (.string (⟨#[]⟩)) (fun w=>by kernel_rfl) kr<|zj (some 3) (.int .i64 0) (fun w=>by kernel_rfl) kr<|zc<|zb kr<|zu 0 kr<|zh [0,1,2,3] kr kr<|vA H1 (some 6) 44 (.tmp 1) 0 b1 #[.bool l,.string s,.slice p n c] 44 (0,0) kr kr kr kr kr<|qm H1 (some 7) 18 #[.agg #[.bool l,.string s,.slice p n c],.int .i64 4000] (fun w=>zx w.heap.size w p n k) (.int .i64 (lfV (lf1 l s n (lfF k) 4000))) (zlL l s p n c k (by omega) 4000 (by omega)) (zx.call hpre H1.below) (fun w=>by kernel_rfl) kr ?_;intro w2 H2;clear H1;rcases zge (lf1 l s n (lfF k) 4000) with hv1 | ⟨y,hv1⟩
 ·refine yi 7 (v:=.int .i64 (lfV (lf1 l s n (lfF k) 4000))) (v':=.int .i64 (-1)) (zk (by rw [hv1];rfl)) kr<|zj (some 8) (.bool true) (fun w=>by kernel_rfl) kr<|zj (some 5) (.bool true) (fun w=>by kernel_rfl) kr<|zc<|zi kr kr<|zh [0,1] kr kr<|zj (some 2) (.string (⟨#[]⟩)) (fun w=>by kernel_rfl) kr<|zj (some 3) (.int .i64 1) (fun w=>by kernel_rfl) kr<|zc<|zn kr<|wV ?_;exact ⟨[.string (⟨#[]⟩),.int .i64 1],(.tmp (.string (⟨#[]⟩)) kr (.tmp (.int .i64 1) kr .nil)),(zlE hv1).symm,H2.below⟩
 ·refine yi 7 (v:=.int .i64 (lfV (lf1 l s n (lfF k) 4000))) (v':=.int .i64 (y:Int)) (zk (by rw [hv1];rfl)) kr ?_;have hok:=zgi hv1;have hcn:k.cnt<4000:=hok.2.2;have hwt:=hpre.wt;refine qN (some 8) (.bool (decide ((y:Int)<0))) (.bool false) (fun w=>by kernel_rfl) (za (decide_eq_false (by omega))) kr<|zj (some 5) (.bool false) (fun w=>by kernel_rfl) kr<|zc<|zl kr kr<|zh [0,1,2,3] kr kr<|vA H2 (some 10) 44 (.tmp 1) 0 b1 #[.bool l,.string s,.slice p n c] 44 (0,0) kr kr kr kr kr<|qm H2 (some 11) 19 #[.agg #[.bool l,.string s,.slice p n c]] (fun w=>zx w.heap.size w p n k) (.int .i64 ((dp1 l (dpF k):Nat):Int)) (zdv l s p n c k (by omega) (by omega)) (zx.call hpre H2.below) (fun w=>by kernel_rfl) kr ?_;intro w3 H3;clear H2;by_cases hc1:(dp1 l (dpF k):Nat)>8
  ·refine qN (some 12) (.bool (decide (8<((dp1 l (dpF k):Nat):Int)))) (.bool true) (fun w=>by kernel_rfl) (za (decide_eq_true (by omega))) kr<|zj (some 9) (.bool true) (fun w=>by kernel_rfl) kr<|zc<|zi kr kr<|zh [0,1] kr kr<|zj (some 2) (.string (⟨#[]⟩)) (fun w=>by kernel_rfl) kr<|zj (some 3) (.int .i64 5) (fun w=>by kernel_rfl) kr<|zc<|zn kr<|wV ?_;exact ⟨[.string (⟨#[]⟩),.int .i64 5],(.tmp (.string (⟨#[]⟩)) kr (.tmp (.int .i64 5) kr .nil)),(zlF hv1 (by omega)).symm,H3.below⟩
  ·refine qN (some 12) (.bool (decide (8<((dp1 l (dpF k):Nat):Int)))) (.bool false) (fun w=>by kernel_rfl) (za (decide_eq_false (by omega))) kr<|zj (some 9) (.bool false) (fun w=>by kernel_rfl) kr<|zc<|zl kr kr<|zh [0,1,2,3] kr kr<|vA H3 (some 14) 44 (.tmp 1) 0 b1 #[.bool l,.string s,.slice p n c] 44 (0,0) kr kr kr kr kr<|qm H3 (some 15) 20 #[.agg #[.bool l,.string s,.slice p n c]] (fun w=>zx w.heap.size w p n k) (.int .u64 ((sz1 l s (szF k):Nat):Int)) (zgn l s p n c k (by omega) (by omega)) (zx.call hpre H3.below) (fun w=>by kernel_rfl) kr ?_;intro w4 H4;clear H3;by_cases hc2:(sz1 l s (szF k):Nat)>4000
   ·refine qN (some 16) (.bool (decide (4000<((sz1 l s (szF k):Nat):Int)))) (.bool true) (fun w=>by kernel_rfl) (za (decide_eq_true (by omega))) kr<|zj (some 13) (.bool true) (fun w=>by kernel_rfl) kr<|zc<|zi kr kr<|zh [0,1] kr kr<|zj (some 2) (.string (⟨#[]⟩)) (fun w=>by kernel_rfl) kr<|zj (some 3) (.int .i64 2) (fun w=>by kernel_rfl) kr<|zc<|zn kr<|wV ?_;exact ⟨[.string (⟨#[]⟩),.int .i64 2],(.tmp (.string (⟨#[]⟩)) kr (.tmp (.int .i64 2) kr .nil)),(zlG hv1 (by omega) (by omega)).symm,H4.below⟩
   ·refine qN (some 16) (.bool (decide (4000<((sz1 l s (szF k):Nat):Int)))) (.bool false) (fun w=>by kernel_rfl) (za (decide_eq_false (by omega))) kr<|zj (some 13) (.bool false) (fun w=>by kernel_rfl) kr<|zc<|zl kr kr<|zp kr<|wW<|zh [0] kr kr ?_;have hpw:=zlI hok.1 hok.2.1 (show sz1 l s (szF k)≤4000 by omega) (by omega);refine zP H4 (some 4) 56 (.agg #[.pointer none,.slice none 0 0]) kr kr kr ?_;intro b2 w5 H5;clear H4;refine zc<|zh [0,1] kr kr<|vA H5 (some 17) 44 (.tmp 1) 1 b1 #[.bool l,.string s,.slice p n c] 44 (0,0) kr kr kr kr kr ?_;have HD3:St w.heap.size w w5 [(b2,Obj.cells #[.pointer none,.slice none 0 0] 56 (0,0))]:=H5.sub (List.Sublist.cons_cons _ (List.Sublist.cons _ List.Sublist.slnil));have hE0:BE b2 56 5 [] [(b2,Obj.cells #[.pointer none,.slice none 0 0] 56 (0,0))]:=BE.nil none (Or.inl rfl);refine zdy HD3 hE0 (some 18) 21 #[.pointer (some ⟨b2,0,none⟩),.agg #[.bool l,.string s,.slice p n c]] (.tuple #[]) ([]++wr1 l s (szF k) (wrF k)) (fun w=>zx w.heap.size w p n k) (zl5 b2 [] l s p n c k hs (by simp only [List.length_nil];omega)) hpre kr kr ?_;intro E1 w6 hE1 H6;clear HD3;refine zc<|zh [0,1,2] kr kr ?_;rw [List.nil_append] at hE1;refine zl6 H6 hE1 (some 19) 22 #[.pointer (some ⟨b2,0,none⟩)] (.string (zf (wr1 l s (szF k) (wrF k)))) (zl8 b2 (wr1 l s (szF k) (wrF k)) (jX hok.1 hok.2.1 (by omega)).1 (by have h9:=(jX hok.1 hok.2.1 (by omega)).2;omega)) kr kr ?_;intro w7 H7;clear H6;refine zj (some 2) (.string (zf (wr1 l s (szF k) (wrF k)))) (fun w=>by kernel_rfl) kr<|zj (some 3) (.int .i64 0) (fun w=>by kernel_rfl) kr<|zc<|zn kr<|wV ?_;exact ⟨[.string (zf (wr1 l s (szF k) (wrF k))),.int .i64 0],(.tmp (.string (zf (wr1 l s (szF k) (wrF k)))) kr (.tmp (.int .i64 0) kr .nil)),(zlH hv1 (by omega) (by omega)).symm,H7.below⟩
structure X3 where
 l:Bool
 s:ByteArray
 p:Option Addr
 n:Nat
 c:Nat
 k:Fo
def X3.cs (x:X3):List Value:=[.bool x.l,.string x.s,.slice x.p x.n x.c]
def cells3:List X3→List Value
 | []=>[]
 | x::r=>.bool x.l ::.string x.s ::.slice x.p x.n x.c::cells3 r
def toFo:List X3→Fo
 | []=>.nil
 | x::r=>.cons x.l x.s x.k (toFo r)
theorem zbC: ∀L,(toFo L).len=L.length
 | []=>rfl
 | x::r=>by simp only [toFo,Fo.len,List.length_cons,zbC r]
theorem jY: ∀L,(cells3 L).length=L.length*3
 | []=>rfl
 | x::r=>by simp only [cells3,List.length_cons,jY r];omega
theorem zdC: ∀L M,cells3 (L++M)=cells3 L++cells3 M
 | [],M=>rfl
 | x::r,M=>by simp only [List.cons_append,cells3,zdC r M]
theorem zbD: ∀L,∀u∈cells3 L,u.oneCell'=true
 | [],u,h=>nomatch h
 | x::r,u,h=>by
  simp only [cells3,List.mem_cons] at h;rcases h with rfl | rfl | rfl | h
  ·rfl
  ·rfl
  ·rfl
  ·exact zbD r u h
theorem zgw: ∀(L:List X3) (i:Nat) (x:X3),L[i]? =some x→(cells3 L)[i*3]? =some (.bool x.l)∧(cells3 L)[i*3+1]? =some (.string x.s)∧(cells3 L)[i*3+2]? =some (.slice x.p x.n x.c)
 | [],_,_,h=>by simp at h
 | y::r,0,x,h=>by simp at h;subst h;exact ⟨rfl,rfl,rfl⟩
 | y::r,i+1,x,h=>by
  obtain ⟨h1,h2,h3⟩:=zgw r i x (by simpa using h);rw [show (i+1)*3=i*3+3 by omega];exact ⟨h1,h2,h3⟩
theorem ex3 {C:Array Value}{o:Nat}{a b c:Value}(h1:C[o]? =some a)(h2:C[o+1]? =some b)(h3:C[o+2]? =some c):o+3≤C.size∧C.extract o (o+3)=#[a,b,c]:=by
 have hl:=(Array.getElem?_eq_some_iff.1 h3).1;refine ⟨by omega,?_⟩;apply Array.ext
 ·simp;omega
 ·intro j hj1 hj2;simp at hj1 hj2;rcases (show j=0∨j=1∨j=2 by omega) with rfl | rfl | rfl
  ·have:=(Array.getElem?_eq_some_iff.1 h1).2;simpa using this
  ·have:=(Array.getElem?_eq_some_iff.1 h2).2;simpa using this
  ·have:=(Array.getElem?_eq_some_iff.1 h3).2;simpa using this
theorem Rw.at3 {cur:Array Value}{cap n:Nat}{L:List X3}(h:Rw 3 cur cap n (cells3 L)){i:Nat}{x:X3}(hx:L[i]? =some x):cur[i*3]? =some (.bool x.l)∧cur[i*3+1]? =some (.string x.s)∧cur[i*3+2]? =some (.slice x.p x.n x.c):=by
 have hl:=h.len;rw [jY] at hl;have hi:i<L.length:=(List.getElem?_eq_some_iff.1 hx).1;obtain ⟨h1,h2,h3⟩:=zgw L i x hx;refine ⟨?_,?_,?_⟩
 ·rw [h.get _ (by omega)];exact h1
 ·rw [h.get _ (by omega)];exact h2
 ·rw [h.get _ (by omega)];exact h3
def val (l:List UInt8):Nat:=l.foldl (fun n b=>n*256+b.toNat) 0
theorem zbE (l:List UInt8)(b:UInt8):val (l++ [b])=val l*256+b.toNat:=by unfold val;rw [List.foldl_append];rfl
def qa (s:ByteArray):Bool:=decide (1≤s.size)&&decide (s.extract 0 1=⟨#[0]⟩)
def zL (s:ByteArray):Nat×Bool:=if 8<s.size∨qa s=true then (0,false) else (val (tl s),true)
def jC (l:Bool)(s:ByteArray)(n:Nat):Nat×Nat:=if l=true∨n≠0∨(zL s).2=false then (0,4) else ((zL s).1,0)
theorem zl9 (l:List UInt8)(i:Nat)(h:i<l.length):l.take (i+1)=l.take i++ [l.getD i 0]:=by
 rw [List.take_add_one,List.getElem?_eq_getElem h,List.getD_eq_getElem?_getD,List.getElem?_eq_getElem h];rfl
theorem zgx: ∀l:List UInt8,val l.reverse<256^l.length
 | []=>by decide
 | b::l=>by
  rw [List.reverse_cons,zbE,List.length_cons,Nat.pow_succ];have:=zgx l;have:=b.toNat_lt;omega
theorem zgy (l:List UInt8):val l<256^l.length:=by have:=zgx l.reverse;rwa [List.reverse_reverse,List.length_reverse] at this
theorem zgz (l:List UInt8)(i:Nat)(h:i≤7):val (l.take i)<72057594037927936:=by
 have h1:=zgy (l.take i);have h2:(l.take i).length≤7:=by rw [List.length_take];omega
 exact Nat.lt_of_lt_of_le h1 (Nat.le_trans (Nat.pow_le_pow_right (by decide) h2) (by decide))
theorem zdD {l:List UInt8}(h:l.length≤8):val l<0x10000000000000000:=
 Nat.lt_of_lt_of_le (zgy l) (Nat.le_trans (Nat.pow_le_pow_right (by decide) h) (by decide))
theorem zma (s:ByteArray)(i:Nat)(h:i<s.size):val ((tl s).take (i+1))=val ((tl s).take i)*256+by_ s i:=by
 rw [zl9 _ _ (by rw [zy];exact h),zbE];rfl
theorem zmb {n:Nat}(h:n<72057594037927936):IntKind.u64.wrap ((n:Int)*2^(min 8 64))=((n*256:Nat):Int):=by
 rw [wrap_u64]<;>simp only [show (2:Int)^(min 8 64)=256 by decide]<;>omega
theorem or8 {n b:Nat}(hn:n<72057594037927936)(hb:b<256):Go.bits .or .u64 ((n*256:Nat):Int) (b:Int)=((n*256+b:Nat):Int):=by
 rw [u64_or_nat _ _ (by omega) (by omega)];congr 1;have:=Nat.two_pow_add_eq_or_of_lt (i:=8) (b:=b) (by omega) n;rw [show n*256=2^8*n by omega];exact this.symm
theorem zdE: ∀(m:Nat) (l:List UInt8),l.length≤m→beI m (val l.reverse)=List.replicate (m-l.length) 0++l.reverse
 | 0,l,h=>by
  have:l=[]:=List.eq_nil_of_length_eq_zero (by omega);subst this;rfl
 | m+1,[],_=>by
  have:=zdE m [] (Nat.zero_le _);simp only [List.reverse_nil,List.append_nil,List.length_nil,Nat.sub_zero] at this ⊢;show beI m (val [] / 256)++ [UInt8.ofNat (val [])]=_;rw [show val [] / 256=val [] from rfl,this,List.replicate_succ'];rfl
 | m+1,b::l,h=>by
  have hl:l.length≤m:=by simpa using h
  have hb:=b.toNat_lt;rw [List.reverse_cons,zbE];show beI m ((val l.reverse*256+b.toNat) / 256)++ [UInt8.ofNat (val l.reverse*256+b.toNat)]=_;rw [show (val l.reverse*256+b.toNat) / 256=val l.reverse by omega,zdE m l hl];have e:UInt8.ofNat (val l.reverse*256+b.toNat)=b:=by
   apply UInt8.toNat_inj.1;rw [UInt8.toNat_ofNat'];omega
  rw [e,List.length_cons,Nat.add_sub_add_right,List.append_assoc]
theorem zgA (l:List UInt8): ∀m,(List.replicate m 0++l).dropWhile (·==0)=l.dropWhile (·==0)
 | 0=>rfl
 | m+1=>by rw [List.replicate_succ,List.cons_append,List.dropWhile_cons,if_pos (by decide)];exact zgA l m
theorem zmc {l:List UInt8}(h:l.length≤8):dg (val l)=l.dropWhile (·==0):=by
 have h1:=zdE 8 l.reverse (by rw [List.length_reverse];exact h);rw [List.reverse_reverse] at h1;have h2:=zdu 8 (val l) (zdD h);show dgI 8 (val l)=_;rw [←h2,h1,zgA]
theorem zmd {s:ByteArray}(h:1≤s.size):s.extract 0 1=⟨#[0]⟩↔by_ s 0=0:=by
 obtain ⟨l,e⟩:=xY (t:=s) (by omega);have hb:=jK s 0;constructor
 ·intro q;have:=congrArg tl q;rw [qC,e] at this;have h3:UInt8.ofNat (by_ s 0)=0:=by
   have h4:(List.drop 0 (List.take 1 (UInt8.ofNat (by_ s 0)::l)))=[UInt8.ofNat (by_ s 0)]:=rfl;rw [h4] at this;exact (List.cons.inj this).1
  have h5:=congrArg UInt8.toNat h3;rw [UInt8.toNat_ofNat_of_lt' (by simpa using hb)] at h5;exact h5
 ·intro q;apply jj;rw [qC,e,q];rfl
theorem zgB {s:ByteArray}(h:s.size≤8):(zf (dg (val (tl s)))=s)↔qa s=false:=by
 rw [zmc (by rw [zy];exact h)];unfold qa;by_cases h1:1≤s.size
 ·rw [decide_eq_true h1,Bool.true_and,decide_eq_false_iff_not,zmd h1];constructor
  ·intro q h0;obtain ⟨l,e⟩:=xY (t:=s) (by omega);have:=congrArg (fun t=>(tl t).length) q;simp only [ji] at this;rw [e,h0,List.dropWhile_cons,if_pos (by decide)] at this;have h6:=(List.dropWhile_suffix (p:=fun x:UInt8=>x==0) (l:=l)).length_le;simp only [List.length_cons] at this;omega
  ·intro h0;exact zbA s (.inr h0)
 ·have:s.size=0:=by omega
  constructor
  ·intro _;rw [decide_eq_false h1];rfl
  ·intro _;exact zbA s (.inl this)
theorem zme (m:Nat): ∀n,n<256^m→val (dgI m n)=n:=by
 induction m with
 | zero=>intro n h;have:n=0:=by simpa using h
         subst this;rfl
 | succ m ih=>
  intro n h;unfold dgI;split
  ·rename_i h0;subst h0;rfl
  ·rw [zbE,ih (n / 256) (by rw [Nat.pow_succ] at h;omega),UInt8.toNat_ofNat'];omega
theorem zbF {n:Nat}(h:n<0x10000000000000000):val (dg n)=n:=zme 8 n h
theorem zgC {n:Nat}(h:n<0x10000000000000000):zL (zf (dg n))=(n,true):=by
 have hl:=yZ n;have hp:qa (zf (dg n))=false:=(zgB (by rw [qt];exact hl)).1 (by rw [ji,zbF h]);unfold zL;rw [if_neg (by rw [hp,qt];simp;omega),ji,zbF h]
theorem zmf {n:Nat}(h:n<0x10000000000000000):jC false (zf (dg n)) 0=(n,0):=by
 unfold jC;rw [zgC h];simp
def zbG (x:Nat×Bool):Value:=.tuple #[.int .u64 ((x.1:Nat):Int),.bool x.2]
def zdF (x:Nat×Nat):Value:=.tuple #[.int .u64 ((x.1:Nat):Int),.int .i64 ((x.2:Nat):Int)]
theorem zgD {s:ByteArray}(h:8<s.size∨qa s=true):zbG (zL s)=.tuple #[wZ,.bool false]:=by unfold zL;rw [if_pos h];rfl
theorem zmg {s:ByteArray}{v:Nat}(h: ¬8<s.size)(hp:qa s=false)(hv:v=val (tl s)):zbG (zL s)=.tuple #[.int .u64 (v:Int),.bool true]:=by
 unfold zL;rw [if_neg (by simp [h,hp])];rw [hv];rfl
theorem zdG {l:Bool}{s:ByteArray}{n:Nat}(h:l=true∨n≠0∨(zL s).2=false):zdF (jC l s n)=.tuple #[wZ,.int .i64 4]:=by unfold jC;rw [if_pos h];rfl
theorem zmh {l:Bool}{s:ByteArray}{n:Nat}(h:l=false)(hn:n=0)(h2:(zL s).2=true):zdF (jC l s n)=.tuple #[.int .u64 (((zL s).1:Nat):Int),.int .i64 0]:=by unfold jC;rw [if_neg (by simp [h,hn,h2])];rfl
theorem zmi (s:ByteArray):Fn Tryz.prog 134 #[.string s,.string (⟨#[0]⟩)] (.bool (qa s)):=by
 refine Fn.intro (c:=zd Tryz.f134) [.tmp 4] 18 Tryz.func134 kr kr kr fun w=>?_;have H0:=St.start w;refine rS [.v] H0 kr fun gs1 w1 H1=>?_;clear H0;refine zh [0,1,2,3,4,5,6,7,8,9,10,11,12,13] kr kr<|rp [.v,.v,.v,.v] H1 kr fun gs2 w2 H2=>wX [4,5,6,7,8,9,10,11,12,13] ?_;clear H1;by_cases hc1:(ByteArray.size s:Nat)≥1
 ·refine rp [.E (.bool (decide (1≤(ByteArray.size s:Int)))) (.bool true) (za (decide_eq_true (by omega))),.v,.v,.v,.v,.o (ins:=[((.tmp 11),.string s),((.tmp 13),.int .i64 1)]) (v:=.string (ByteArray.extract s 0 1)) (fun ρ o w ho hi=>vH (t:=9) (kd:=.i64) kr (x:=(.tmp 11)) (y:=(.tmp 13)) s 1 ho hi.1 hi.2.1 (by omega) w),.v] H2 kr fun gs3 w3 H3=>wX [11,12,13] ?_;clear H2;by_cases hx2:(ByteArray.extract s 0 1)=⟨#[0]⟩
  ·refine rp [.E (.bool (ByteArray.toList (ByteArray.extract s 0 1)==ByteArray.toList (⟨#[0]⟩))) (.bool true) (za (qD (ByteArray.extract s 0 1) (⟨#[0]⟩) hx2)),.v,.v] H3 kr fun gs4 w4 H4=>wX [] ?_;clear H3;refine zc<|zn kr<|wV ?_;refine ⟨[.bool true],(.tmp (.bool true) kr .nil),?_,H4.below⟩;exact za (by unfold qa;rw [decide_eq_true (show 1≤ByteArray.size s by omega),decide_eq_true hx2];rfl)
  ·refine rp [.E (.bool (ByteArray.toList (ByteArray.extract s 0 1)==ByteArray.toList (⟨#[0]⟩))) (.bool false) (za (qW (ByteArray.extract s 0 1) (⟨#[0]⟩) hx2)),.v,.v] H3 kr fun gs5 w5 H5=>wX [] ?_;clear H3;refine zc<|zn kr<|wV ?_;refine ⟨[.bool false],(.tmp (.bool false) kr .nil),?_,H5.below⟩;exact za (by unfold qa;rw [decide_eq_true (show 1≤ByteArray.size s by omega),decide_eq_false hx2];rfl)
 ·refine rp [.E (.bool (decide (1≤(ByteArray.size s:Int)))) (.bool false) (za (decide_eq_false (by omega))),.v,.n,.n,.n,.n,.n,.n,.v,.v] H2 kr fun gs6 w6 H6=>wX [] ?_;clear H2;refine zc<|zn kr<|wV ?_;refine ⟨[.bool false],(.tmp (.bool false) kr .nil),?_,H6.below⟩;exact za (by unfold qa;rw [decide_eq_false (show ¬1≤ByteArray.size s by omega)];rfl)
theorem zmj (s:ByteArray):Fn Tryz.prog 88 #[.string s,.string (⟨#[0]⟩)] (.bool (qa s)):=by
 refine Fn.intro (c:=zd Tryz.f88) [.tmp 4] 8 Tryz.func88 kr kr kr fun w=>?_;have H0:=St.start w;refine rS [.v] H0 kr fun gs1 w1 H1=>?_;clear H0;refine rS [.v,.v,.c (zmi s),.v] H1 kr fun gs2 w2 H2=>?_;clear H1;refine zn kr<|wV ?_;refine ⟨[.bool (qa s)],(.tmp (.bool (qa s)) kr .nil),?_,H2.below⟩;rfl
theorem zgE (s:ByteArray):Fn Tryz.prog 169 #[.string s] (zbG (zL s)):=by
 refine Fn.intro (c:=zd Tryz.f169) [.tmp 2,.tmp 3] 27 Tryz.func169 kr kr kr fun w=>?_;have H0:=St.start w;refine rS [.v,.v] H0 kr fun gs1 w1 H1=>?_;clear H0;refine zb kr<|zh [0,1,2,3,4,5,6] kr kr<|rp [.v,.v] H1 kr fun gs2 w2 H2=>wX [2,3,4,5,6] ?_;clear H1;by_cases hc1:(ByteArray.size s:Nat)>8
 ·refine rp [.E (.bool (decide (8<(ByteArray.size s:Int)))) (.bool true) (za (decide_eq_true (by omega))),.v,.n,.n,.v] H2 kr fun gs3 w3 H3=>wX [] ?_;clear H2;refine zc<|zi kr kr<|rS [.v,.v] H3 kr fun gs4 w4 H4=>?_;clear H3;refine zn kr<|wV ?_;refine ⟨[wZ,.bool false],(.tmp (wZ) kr (.tmp (.bool false) kr .nil)),?_,H4.below⟩;exact (zgD (Or.inl (by omega))).symm
 ·refine rp [.E (.bool (decide (8<(ByteArray.size s:Int)))) (.bool false) (za (decide_eq_false (by omega))),.v,.v,.c (zmj s),.v] H2 kr fun gs5 w5 H5=>wX [] ?_;clear H2;refine zc<|Or.elim (Bool.eq_false_or_eq_true (qa s)).symm (fun hq1=>?_) (fun hq1=>?_)
  ·refine qg 11 (v:=.bool (qa s)) (v':=.bool false) (za hq1) kr<|qg 12 (v:=.bool (qa s)) (v':=.bool false) (za hq1) kr<|zl kr kr<|zp kr<|wW<|rS [.v] H5 kr fun gs6 w6 H6=>?_;clear H5;refine zb kr<|rS [.v,.v,.v] H6 kr fun gs7 w7 H7=>?_;clear H6;refine zu 0 kr ?_;have HL2:St w.heap.size w w7 []:=H7.as kr;clear H7;refine yD kr (fun mz ρ ww=> ∃(i:Nat),ByteArray.size s-i=mz∧(i≤ByteArray.size s)∧St w.heap.size w ww []∧Is [(0,.string s),(2,wZ),(3,.bool false),(4,.int .u64 ((val (List.take i (tl s)):Nat):Int)),(12,.bool false),(14,.int .i64 (ByteArray.size s:Int)),(15,.int .i64 (i:Int))] ρ) (ByteArray.size s-0) ⟨0,rfl,(by omega),HL2,(Is.of ⟨kr,kr,kr,kr,kr,kr,kr,trivial⟩)⟩ ?_;clear HL2;rintro _ _ w8 ⟨i,rfl,hi,H8,_,rfl⟩;by_cases hc3:(i:Nat)<ByteArray.size s
   ·refine rS [.E (.bool (decide ((i:Int)<(ByteArray.size s:Int)))) (.bool true) (za (decide_eq_true (by omega)))] H8 kr fun gs9 w9 H9=>?_;clear H8;refine zb kr<|zi kr kr<|zp kr<|wW<|zb kr<|zu 1 kr<|rS [.v,.v] H9 kr fun gs10 w10 H10=>?_;clear H9;refine rL [.v,.E (.int .u64 (IntKind.u64.wrap (((val (List.take i (tl s)):Nat):Int)*2^(min 8 64)))) (.int .u64 (((val (List.take i (tl s)))*256:Nat):Int)) (zk (zmb (n:=val (List.take i (tl s))) (zgz (tl s) i (by omega)))),.v,.v,.o (ins:=[((.tmp 20),.string s),((.tmp 21),.int .i64 (i:Int))]) (v:=.int .u8 ((by_ s i:Nat):Int)) (fun ρ o w ho hi=>qV (t:=9) (kd:=.i64) kr (x:=(.tmp 20)) (y:=(.tmp 21)) s i ho hi.1 hi.2.1 (by omega) w),.E (.int .u64 (IntKind.u64.wrap (((by_ s i:Nat):Int)))) (.int .u64 ((by_ s i:Nat):Int)) (zk (xU (a:=by_ s i) (by have:=jK s i;omega))),.E (.int .u64 (Go.bits .or .u64 (((val (List.take i (tl s))*256:Nat):Int)) (((by_ s i:Nat):Int)))) (.int .u64 ((val (List.take (i+1) (tl s)):Nat):Int)) (zk (by rw [zma s i (by omega)];exact or8 (zgz (tl s) i (by omega)) (jK s i))),.v] H10 kr fun gs11 w11 H11=>?_;clear H10;refine wW<|ye [0,2,3,4,5,12,14,15,16] fun ρ1=>?_;have HK4:=H11.keep;clear H11;refine rL [.E (.int .i64 (IntKind.i64.wrap ((i:Int)+1))) (.int .i64 ((i+1:Nat):Int)) (zk (yF (a:=i) (b:=1) (by omega))),.v] HK4 kr fun gs12 w12 H12=>?_;clear HK4;have HL5:St w.heap.size w w12 []:=H12.as kr;clear H12;show ∃m,_∧_;exact ⟨_,(by omega),(i+1),rfl,(by omega),HL5,(Is.of ⟨kr,kr,kr,kr,kr,kr,kr,trivial⟩)⟩
   ·refine rS [.E (.bool (decide ((i:Int)<(ByteArray.size s:Int)))) (.bool false) (za (decide_eq_false (by omega)))] H8 kr fun gs13 w13 H13=>?_;clear H8;refine zb kr<|zl kr kr<|ym 0 kr<|wW<|rS [.v,.v,.v] H13 kr fun gs14 w14 H14=>?_;clear H13;refine zn kr<|wV ?_;refine ⟨[.int .u64 ((val (List.take i (tl s)):Nat):Int),.bool true],(.tmp (.int .u64 ((val (List.take i (tl s)):Nat):Int)) kr (.tmp (.bool true) kr .nil)),?_,H14.below⟩;refine (zmg (by omega) (by assumption) ?_).symm;rw [List.take_of_length_le (by rw [zy];omega)]
  ·refine qg 11 (v:=.bool (qa s)) (v':=.bool true) (za hq1) kr<|qg 12 (v:=.bool (qa s)) (v':=.bool true) (za hq1) kr<|zi kr kr<|rS [.v,.v] H5 kr fun gs15 w15 H15=>?_;clear H5;refine zn kr<|wV ?_;refine ⟨[wZ,.bool false],(.tmp (wZ) kr (.tmp (.bool false) kr .nil)),?_,H15.below⟩;exact (zgD (Or.inr hq1)).symm
theorem zmk (l:Bool)(s:ByteArray)(p:Option Addr)(n c:Nat)(k:Fo)(hs:s.size≤0x800000000000):FnP Tryz.prog 170 #[.agg #[.bool l,.string s,.slice p n c]] (fun w=>zx w.heap.size w p n k) (zdF (jC l s n)):=by
 refine FnP.intro (c:=zd Tryz.f170) [.tmp 2,.tmp 3] 25 Tryz.func170 kr kr kr fun w hpre=>?_;have H0:=St.start w;have hn:=hpre.1;have hnm:=hpre.2.1;refine rS [.b,.v,.v] H0 kr fun gs1 w1 H1=>?_;clear H0;refine rS [.v,.l 0,.c (zgE s),.v,.v,.v,.v,.v] H1 kr fun gs2 w2 H2=>?_;clear H1;refine zb kr<|zh [0,1,2,3,4,5,6,7,8,9,10,11] kr kr<|rp [.v,.l 0,.v] H2 kr fun gs3 w3 H3=>wX [3,4,5,6,7,8,9,10,11] ?_;clear H2;refine Or.elim (Bool.eq_false_or_eq_true (l)).symm (fun hq1=>?_) (fun hq1=>?_)
 ·refine yi 13 (v:=.bool l) (v':=.bool false) (za hq1) kr<|yi 14 (v:=.bool l) (v':=.bool false) (za hq1) kr<|rp [.v,.l 0,.v] H3 kr fun gs4 w4 H4=>wX [6,7,8,9,10,11] ?_;clear H3;by_cases hc1:(n:Nat)>0
  ·refine rp [.E (.bool (decide (0<(n:Int)))) (.bool true) (za (decide_eq_true (by omega))),.v,.v,.n,.n,.v] H4 kr fun gs5 w5 H5=>wX [] ?_;clear H4;refine zc<|ye [0,1,2,3,4,5,23] fun ρ1=>?_;have HK2:=H5.keep;clear H5;refine zi kr kr<|rS [.v,.v] HK2 kr fun gs6 w6 H6=>?_;clear HK2;refine zn kr<|wV ?_;refine ⟨[wZ,.int .i64 4],(.tmp (wZ) kr (.tmp (.int .i64 4) kr .nil)),?_,H6.below⟩;exact (zdG (Or.inr (Or.inl (by omega)))).symm
  ·refine rp [.E (.bool (decide (0<(n:Int)))) (.bool false) (za (decide_eq_false (by omega))),.v,.v,.v] H4 kr fun gs7 w7 H7=>wX [10,11] ?_;clear H4;refine Or.elim (Bool.eq_false_or_eq_true ((zL s).2)).symm (fun hq2=>?_) (fun hq2=>?_)
   ·refine yi 9 (v:=.tuple #[.int .u64 (((zL s).1:Nat):Int),.bool ((zL s).2)]) (v':=.tuple #[.int .u64 (((zL s).1:Nat):Int),.bool false]) (by rw [hq2]) kr<|yi 6 (v:=.tuple #[.int .u64 (((zL s).1:Nat):Int),.bool ((zL s).2)]) (v':=.tuple #[.int .u64 (((zL s).1:Nat):Int),.bool false]) (by rw [hq2]) kr<|yi 11 (v:=.bool ((zL s).2)) (v':=.bool false) (za hq2) kr<|yi 5 (v:=.bool ((zL s).2)) (v':=.bool false) (za hq2) kr<|yi 21 (v:=.bool ((zL s).2)) (v':=.bool false) (za hq2) kr<|rp [.v,.v] H7 kr fun gs8 w8 H8=>wX [] ?_;clear H7;refine zc<|ye [0,1,2,3,4,5,23] fun ρ2=>?_;have HK3:=H8.keep;clear H8;refine zi kr kr<|rS [.v,.v] HK3 kr fun gs9 w9 H9=>?_;clear HK3;refine zn kr<|wV ?_;refine ⟨[wZ,.int .i64 4],(.tmp (wZ) kr (.tmp (.int .i64 4) kr .nil)),?_,H9.below⟩;exact (zdG (Or.inr (Or.inr hq2))).symm
   ·refine yi 9 (v:=.tuple #[.int .u64 (((zL s).1:Nat):Int),.bool ((zL s).2)]) (v':=.tuple #[.int .u64 (((zL s).1:Nat):Int),.bool true]) (by rw [hq2]) kr<|yi 6 (v:=.tuple #[.int .u64 (((zL s).1:Nat):Int),.bool ((zL s).2)]) (v':=.tuple #[.int .u64 (((zL s).1:Nat):Int),.bool true]) (by rw [hq2]) kr<|yi 11 (v:=.bool ((zL s).2)) (v':=.bool true) (za hq2) kr<|yi 5 (v:=.bool ((zL s).2)) (v':=.bool true) (za hq2) kr<|yi 21 (v:=.bool ((zL s).2)) (v':=.bool true) (za hq2) kr<|rp [.v,.v] H7 kr fun gs10 w10 H10=>wX [] ?_;clear H7;refine zc<|ye [0,1,2,3,4,5,23] fun ρ3=>?_;have HK4:=H10.keep;clear H10;refine zl kr kr<|zp kr<|wW<|rS [.v,.v,.v] HK4 kr fun gs11 w11 H11=>?_;clear HK4;refine zn kr<|wV ?_;refine ⟨[.int .u64 (((zL s).1:Nat):Int),.int .i64 0],(.tmp (.int .u64 (((zL s).1:Nat):Int)) kr (.tmp (.int .i64 0) kr .nil)),?_,H11.below⟩;exact (zmh hq1 (by omega) hq2).symm
 ·refine yi 13 (v:=.bool l) (v':=.bool true) (za hq1) kr<|yi 14 (v:=.bool l) (v':=.bool true) (za hq1) kr<|rp [.n,.n,.n,.n,.v,.v,.n,.n,.v] H3 kr fun gs12 w12 H12=>wX [] ?_;clear H3;refine zc<|ye [0,1,2,3,4,5,23] fun ρ4=>?_;have HK5:=H12.keep;clear H12;refine zi kr kr<|rS [.v,.v] HK5 kr fun gs13 w13 H13=>?_;clear HK5;refine zn kr<|wV ?_;refine ⟨[wZ,.int .i64 4],(.tmp (wZ) kr (.tmp (.int .i64 4) kr .nil)),?_,H13.below⟩;exact (zdG (Or.inl hq1)).symm
theorem zml (n:Nat)(hn:n<0x10000000000000000):Fn Tryz.prog 116 #[.int .u64 (n:Int)] (.agg #[.bool false,.string (zf (dg n)),.slice none 0 0]):=by
 refine Fn.intro (c:=zd Tryz.f116) [.cell 2 44] 6 Tryz.func116 kr kr kr fun w=>?_;have H0:=St.start w;refine rS [.a] H0 kr fun gs1 w1 H1=>?_;clear H0;refine rS [.v,.c (zdw n (by omega)),.v,.s 0] H1 kr fun gs2 w2 H2=>?_;clear H1;refine zn kr<|wV ?_;refine ⟨[.agg #[.bool false,.string (zf (dg n)),.slice none 0 0]],(.agg (b:=(gs1 0).b) #[.bool false,.string (zf (dg n)),.slice none 0 0] 44 (0,0) kr (H2.get 0 kr) kr .nil),?_,H2.below⟩;rfl
theorem rwB (s:ByteArray)(h:ByteArray.size s≤maxLen):Rw 1 (cellsB (tl s)).toArray (ByteArray.size s) (ByteArray.size s) (cellsB (tl s)):=
 ⟨by rw [qh,zy];omega,Nat.le_refl _,h,by rw [List.take_of_length_le (by simp [qh,zy])],by simp [qh,zy]⟩
theorem zmm {P:Program}{ρ:Env}{t e:TypeId}{bytes:Nat}(ht:yd P t=some (e,1,bytes)){x y:Operand}{o:Oper}{kd:IntKind}(b n c:Nat)(ho:o.op=.indexAddr t x y)(hx:ev ρ x=.slice (some ⟨b,0,none⟩) n c)(hy:ev ρ y=.int kd 0)(hk:0<n):
 ∀w,(execOp (ev ρ) o).run P w=.ok (.value (.pointer (some ⟨b,0,none⟩))) w:=fun w=>
 xT (P:=P) (kd:=kd) ht b 0 n c 0 ho hx hy hk w
theorem zmn (s:ByteArray)(hs:ByteArray.size s≤0x800000000000):Fn Tryz.prog 49 #[.string s] (.string s):=by
 refine Fn.intro (c:=zd Tryz.f49) [.tmp 2] 18 Tryz.func49 kr kr kr fun w=>?_;have H0:=St.start w;refine zh [0] kr kr<|zj (some 2) (.string (⟨#[]⟩)) (fun w=>by kernel_rfl) kr<|zc<|zb kr<|zh [0,1,2] kr kr<|zj (some 4) (.string s) (fun w=>by kernel_rfl) kr<|zj (some 5) (.int .i64 (ByteArray.size s:Int)) (fun w=>by kernel_rfl) kr ?_;by_cases hc1:(ByteArray.size s:Nat)=0
 ·refine qN (some 6) (.bool ((ByteArray.size s:Int)==0)) (.bool true) (fun w=>by kernel_rfl) (za (beq_iff_eq.2 (by omega))) kr<|zc<|zi kr kr<|zh [0] kr kr<|zj (some 2) (.string (⟨#[]⟩)) (fun w=>by kernel_rfl) kr<|zc<|zn kr<|wV ?_;refine ⟨[.string (⟨#[]⟩)],(.tmp (.string (⟨#[]⟩)) kr .nil),?_,H0.below⟩;exact congrArg Value.string (jj (List.eq_nil_of_length_eq_zero (by rw [zy];omega):tl s=[]).symm)
 ·refine qN (some 6) (.bool ((ByteArray.size s:Int)==0)) (.bool false) (fun w=>by kernel_rfl) (za (beq_eq_false_iff_ne.2 (by omega))) kr<|zc<|zl kr kr<|zp kr<|wW<|zh [0,1,2,3] kr kr<|zj (some 7) (.string s) (fun w=>by kernel_rfl) kr<|zj (some 8) (.int .i64 (ByteArray.size s:Int)) (fun w=>by kernel_rfl) kr<|zj3 H0 (some 9) 48 5 1 (.int .u8 0) (.tmp 8) (.tmp 8) .i64 .i64 (ByteArray.size s) kr kr kr kr rfl kr kr (by omega) (by unfold maxLen;omega) ?_;intro b_1 cur_2 w1 H1 hr_3;clear H0;have hr_3z:Rw 1 cur_2 (ByteArray.size s) (ByteArray.size s) (cellsB (List.replicate (ByteArray.size s) 0)):=by rw [zkd];exact hr_3
  refine zj (some 3) (.slice (some ⟨b_1,0,none⟩) (ByteArray.size s) (ByteArray.size s)) (fun w=>by kernel_rfl) kr<|zc<|zh [0,1,2] kr kr<|zj (some 10) (.slice (some ⟨b_1,0,none⟩) (ByteArray.size s) (ByteArray.size s)) (fun w=>by kernel_rfl) kr<|zj (some 11) (.string s) (fun w=>by kernel_rfl) kr<|zkg H1 (some 12) 48 9 5 1 (.tmp 10) (.tmp 11) 0 b_1 (ByteArray.size s) (ByteArray.size s) s cur_2 ((cellsB (tl s)).toArray) 5 [(b_1,Obj.cells ((cellsB (tl s)).toArray) 5 (0,0))] kr kr kr kr kr kr (by omega) (Nat.le_of_eq (by have h:=hr_3z.sz;rw [h];omega)) (by rw [List.drop_of_length_le (by have h:=hr_3z.sz;rw [Array.length_toList,h];omega),List.append_nil]) kr ?_;intro w2 H2;clear H1;refine zc<|zh [0,1,2,3,4,5] kr kr<|zj (some 13) (.slice (some ⟨b_1,0,none⟩) (ByteArray.size s) (ByteArray.size s)) (fun w=>by kernel_rfl) kr<|uw (some 14) _ (.pointer (some ⟨b_1,0,none⟩)) kr kr (fun o w ho=>zmm (kd:=.i64) (t:=48) (e:=5) (bytes:=1) kr (x:=(.tmp 13)) (y:=(.const (.int .i64 0))) b_1 (ByteArray.size s) (ByteArray.size s) ho kr kr (by omega) w)<|zj (some 15) (.slice (some ⟨b_1,0,none⟩) (ByteArray.size s) (ByteArray.size s)) (fun w=>by kernel_rfl) kr<|zj (some 16) (.int .i64 (ByteArray.size s:Int)) (fun w=>by kernel_rfl) kr<|zkk H2 (some 17) 84 3 5 (.tmp 14) (.tmp 16) (ByteArray.size s) (ByteArray.size s) (tl s) kr kr kr kr rfl kr kr (rwB s (by unfold maxLen;omega)) (by omega) (by omega) ?_;intro w3 H3;clear H2;refine zj (some 2) (.string (zf (tl s))) (fun w=>by kernel_rfl) kr<|zc<|zn kr<|wV ?_;refine ⟨[.string (zf (tl s))],(.tmp (.string (zf (tl s))) kr .nil),?_,H3.below⟩;rfl
theorem zmo (s:ByteArray)(hs:ByteArray.size s≤0x800000000000):Fn Tryz.prog 30 #[.string s] (.string s):=by
 refine Fn.intro (c:=zd Tryz.f30) [.tmp 2] 5 Tryz.func30 kr kr kr fun w=>?_;have H0:=St.start w;refine zh [0] kr kr<|zj (some 2) (.string (⟨#[]⟩)) (fun w=>by kernel_rfl) kr<|zc<|zh [0,1,2] kr kr<|zj (some 3) (.string s) (fun w=>by kernel_rfl) kr<|ze4 H0 (some 4) 49 #[.string s] (.string s) (zmn s (by omega)) (fun w=>by kernel_rfl) kr ?_;intro w1 H1;clear H0;refine zj (some 2) (.string s) (fun w=>by kernel_rfl) kr<|zc<|zn kr<|wV ?_;refine ⟨[.string s],(.tmp (.string s) kr .nil),?_,H1.below⟩;rfl
theorem zgF (s:ByteArray)(hs:ByteArray.size s≤1000000):Fn Tryz.prog 30 #[.string s] (.string s):=zmo s (by omega)
theorem zgG (s:ByteArray)(hs:ByteArray.size s≤100000):Fn Tryz.prog 141 #[.string s] (.agg #[.bool false,.string s,.slice none 0 0]):=by
 refine Fn.intro (c:=zd Tryz.f141) [.cell 2 44] 6 Tryz.func141 kr kr kr fun w=>?_;have H0:=St.start w;refine rS [.a] H0 kr fun gs1 w1 H1=>?_;clear H0;refine zh [0,1,2,3] kr kr<|rp [.v,.c (zgF s (by omega)),.v,.s 0] H1 kr fun gs2 w2 H2=>wX []<|zc<|zn kr<|wV ?_;refine ⟨[.agg #[.bool false,.string s,.slice none 0 0]],(.agg (b:=(gs1 0).b) (#[.bool false,.string s,.slice none 0 0]) 44 (0,0) kr (H2.get 0 kr) kr .nil),?_,H2.below⟩;rfl
theorem kf {a b:Nat}(ha:a<256)(hb:b<256)(h:UInt8.ofNat a=UInt8.ofNat b):a=b:=by
 have:=congrArg UInt8.toNat h
 rwa [UInt8.toNat_ofNat_of_lt' (by simpa using ha),UInt8.toNat_ofNat_of_lt' (by simpa using hb)] at this
theorem jo (l:Bool):(l=true∧frm l=192)∨(l=false∧frm l=128):=by cases l<;>simp [frm]
theorem zag {n:Nat}(h:n≠0):1≤(dg n).length:=by unfold dg dgI;rw [if_neg h];simp
theorem zmp {l l':Bool}{n n':Nat}{X Y:List UInt8}(hn:n<0x10000000000000000)(hn':n'<0x10000000000000000)(h:hd (frm l) n++X=hd (frm l') n'++Y):l=l'∧n=n'∧X=Y:=by
 have a1:=yZ n;have a2:=yZ n';unfold hd at h;by_cases h1:n≤55<;>by_cases h2:n'≤55
 ·rw [if_pos h1,if_pos h2] at h;obtain ⟨e1,e2⟩:=List.cons.inj h;rcases jo l with ⟨hl,f1⟩ | ⟨hl,f1⟩<;>rcases jo l' with ⟨hl',f2⟩ | ⟨hl',f2⟩<;>rw [f1,f2] at e1<;>have e3:=kf (by omega) (by omega) e1
  ·exact ⟨by rw [hl,hl'],by omega,e2⟩
  ·omega
  ·omega
  ·exact ⟨by rw [hl,hl'],by omega,e2⟩
 ·rw [if_pos h1,if_neg h2] at h;have a3:=zag (show n'≠0 by omega);obtain ⟨e1,e2⟩:=List.cons.inj h;rcases jo l with ⟨hl,f1⟩ | ⟨hl,f1⟩<;>rcases jo l' with ⟨hl',f2⟩ | ⟨hl',f2⟩<;>rw [f1,f2] at e1<;>have e3:=kf (by omega) (by omega) e1<;>omega
 ·rw [if_neg h1,if_pos h2] at h;have a3:=zag (show n≠0 by omega);obtain ⟨e1,e2⟩:=List.cons.inj h;rcases jo l with ⟨hl,f1⟩ | ⟨hl,f1⟩<;>rcases jo l' with ⟨hl',f2⟩ | ⟨hl',f2⟩<;>rw [f1,f2] at e1<;>have e3:=kf (by omega) (by omega) e1<;>omega
 ·rw [if_neg h1,if_neg h2] at h;have a3:=zag (show n≠0 by omega);have a4:=zag (show n'≠0 by omega);obtain ⟨e1,e2⟩:=List.cons.inj h;have key:(dg n).length=(dg n').length→n=n'∧X=Y:=fun hl=>by
   obtain ⟨q1,q2⟩:=List.append_inj e2 hl;exact ⟨by rw [←zbF hn,q1,zbF hn'],q2⟩
  rcases jo l with ⟨hl,f1⟩|⟨hl,f1⟩<;>rcases jo l' with ⟨hl',f2⟩ | ⟨hl',f2⟩<;>rw [f1,f2] at e1<;>have e3:=kf (by omega) (by omega) e1
  ·exact ⟨by rw [hl,hl'],key (by omega)⟩
  ·omega
  ·omega
  ·exact ⟨by rw [hl,hl'],key (by omega)⟩
theorem zdH (l:Bool)(n:Nat):∃b t,hd (frm l) n=b::t∧128≤b.toNat:=by
 have a1:=yZ n;unfold hd;by_cases h1:n≤55
 ·rw [if_pos h1];refine ⟨_,_,rfl,?_⟩;rw [UInt8.toNat_ofNat'];rcases jo l with ⟨_,f1⟩ | ⟨_,f1⟩<;>rw [f1]<;>omega
 ·rw [if_neg h1];refine ⟨_,_,rfl,?_⟩;rw [UInt8.toNat_ofNat'];rcases jo l with ⟨_,f1⟩ | ⟨_,f1⟩<;>rw [f1]<;>omega
theorem zbH {s:ByteArray}(h:zT s=true):∃b:UInt8,tl s=[b]∧b.toNat<128:=by
 have hz:=jA h;obtain ⟨l,e⟩:=xY (t:=s) (by omega);have hl:l=[]:=by
  have:=zy s;rw [e] at this;simp at this;exact List.eq_nil_of_length_eq_zero (by omega)
 refine ⟨_,by rw [e,hl],?_⟩;unfold zT at h;simp only [Bool.and_eq_true,decide_eq_true_eq] at h;rw [UInt8.toNat_ofNat'];have:=h.2;omega
theorem kg {l:Bool}{s:ByteArray}{k:Fo}(h:mixed l s k.len=false):(l=true∧s=⟨#[]⟩)∨(l=false∧k=.nil):=by
 unfold mixed at h;cases l with
 | true=>
  left;simp at h;exact ⟨rfl,h⟩
 | false=>
  right;simp at h;exact ⟨rfl,len_zero h⟩
theorem vO {l l':Bool}{s s':ByteArray}{k k':Fo}{A B:List UInt8}(hm:mixed l s k.len=false)(hm':mixed l' s' k'.len=false)(hk:szF k=(wrF k).length)(hk':szF k'=(wrF k').length)
 (hb:s.size+szF k<0x10000000000000000) (hb':s'.size+szF k'<0x10000000000000000) (ih:wrF k=wrF k'→k=k') (h:wr1 l s (szF k) (wrF k)++A=wr1 l' s' (szF k') (wrF k')++B):l=l'∧s=s'∧k=k'∧A=B:=by
 unfold wr1 at h;cases hs:zT s with
 | true=>
  obtain ⟨b,e,hb1⟩:=zbH hs;have hl:=jm hm hs;have hkn:=len_zero hl;have hl0:l=false:=by
   rcases kg hm with ⟨_,q⟩|⟨q,_⟩
   ·rw [q] at hs;exact absurd hs (by decide)
   ·exact q
  rw [if_pos hs,hkn,e] at h;cases hs':zT s' with
  | true=>
   obtain ⟨b',e',_⟩:=zbH hs';have hkn':=len_zero (jm hm' hs');have hl0':l'=false:=by
    rcases kg hm' with ⟨_,q⟩|⟨q,_⟩
    ·rw [q] at hs';exact absurd hs' (by decide)
    ·exact q
   rw [if_pos hs',hkn',e'] at h;simp only [wrF,List.nil_append,List.append_nil,List.cons_append,List.cons.injEq] at h;exact ⟨by rw [hl0,hl0'],jj (by rw [e,e',h.1]),by rw [hkn,hkn'],h.2⟩
  | false=>
   obtain ⟨c,t,e2,hc⟩:=zdH l' (s'.size+szF k');rw [if_neg (by rw [hs'];decide),e2] at h;simp only [wrF,List.nil_append,List.append_nil,List.cons_append,List.cons.injEq] at h;rw [h.1] at hb1;omega
 | false=>
  rw [if_neg (by rw [hs];decide)] at h;cases hs':zT s' with
  | true=>
   obtain ⟨b',e',hb1⟩:=zbH hs';have hkn':=len_zero (jm hm' hs');obtain ⟨c,t,e2,hc⟩:=zdH l (s.size+szF k);rw [if_pos hs',hkn',e',e2] at h;simp only [wrF,List.nil_append,List.append_nil,List.cons_append,List.cons.injEq] at h;rw [←h.1] at hb1;omega
  | false=>
   rw [if_neg (by rw [hs'];decide)] at h;simp only [List.append_assoc] at h;obtain ⟨hl,hn,hx⟩:=zmp hb hb' h;rw [←List.append_assoc,←List.append_assoc] at hx;have hlen:(tl s++wrF k).length=(tl s'++wrF k').length:=by rw [List.length_append,List.length_append,zy,zy,←hk,←hk',hn]
   obtain ⟨q1,q2⟩:=List.append_inj hx hlen;subst hl;rcases kg hm with ⟨hl,e1⟩|⟨hl,e1⟩<;>rcases kg hm' with ⟨hl',e2⟩ | ⟨hl',e2⟩
   ·rw [e1,e2] at q1;exact ⟨rfl,by rw [e1,e2],ih (List.append_cancel_left q1),q2⟩
   ·rw [hl] at hl';cases hl'
   ·rw [hl] at hl';cases hl'
   ·rw [e1,e2] at q1;simp only [wrF,List.append_nil] at q1;exact ⟨rfl,jj q1,by rw [e1,e2],q2⟩
theorem kZ: ∀(k k':Fo),pureF k=true→pureF k'=true→(wrF k).length<0x10000000000000000→wrF k=wrF k'→k=k'
 | .nil,.nil,_,_,_,_=>rfl
 | .nil,.cons l s k r,_,hp,_,h=>by
  simp only [pureF,Bool.and_eq_true,Bool.not_eq_true'] at hp;have:=congrArg List.length h;simp only [wrF,List.length_nil,List.length_append] at this;have h2:=(jX hp.1.1 hp.1.2 rfl).1;omega
 | .cons l s k r,.nil,hp,_,_,h=>by
  simp only [pureF,Bool.and_eq_true,Bool.not_eq_true'] at hp;have:=congrArg List.length h;simp only [wrF,List.length_nil,List.length_append] at this;have h2:=(jX hp.1.1 hp.1.2 rfl).1;omega
 | .cons l s k r,.cons l' s' k' r',hp,hp',hb,h=>by
  have hlen:=congrArg List.length h;simp only [pureF,Bool.and_eq_true,Bool.not_eq_true'] at hp hp';simp only [wrF,List.length_append] at hb h hlen;have z1:=qY hp.1.1 (zY hp.1.2);have z2:=qY hp'.1.1 (zY hp'.1.2);have bd: ∀ {l:Bool} {s:ByteArray} {k:Fo},s.size+szF k≤sz1 l s (szF k)∨zT s=true:=fun {l s k} =>by
   unfold sz1;cases zT s with
   | true=>exact .inr rfl
   | false=>left;simp
  have b1:s.size+szF k<0x10000000000000000:=by
   rcases bd (l:=l) (s:=s) (k:=k) with q|q
   ·omega
   ·have:=len_zero (jm hp.1.1 q);subst this;have:=jA q;simp only [szF];omega
  have b2:s'.size+szF k'<0x10000000000000000:=by
   rcases bd (l:=l') (s:=s') (k:=k') with q|q
   ·omega
   ·have:=len_zero (jm hp'.1.1 q);subst this;have:=jA q;simp only [szF];omega
  have hk:=zY hp.1.2;obtain ⟨e1,e2,e3,e4⟩:=vO hp.1.1 hp'.1.1 hk.symm (zY hp'.1.2).symm b1 b2 (fun q=>kZ k k' hp.1.2 hp'.1.2 (by omega) q) h;rw [e1,e2,e3,kZ r r' hp.2 hp'.2 (by omega) e4]
theorem jZ {l:Bool}{s:ByteArray}{k:Fo}(h:(zJ l s k.len k).2=0):(zJ l s k.len k).1=zf (wr1 l s (szF k) (wrF k))∧mixed l s k.len=false∧pureF k=true∧k.cnt<4000∧dp1 l (dpF k)≤8∧sz1 l s (szF k)≤4000∧(wr1 l s (szF k) (wrF k)).length=sz1 l s (szF k):=by
 unfold zJ at h ⊢;cases hv:lf1 l s k.len (lfF k) 4000 with
 | none=>rw [hv] at h;simp at h
 | some y=>
  rw [hv] at h;obtain ⟨h1,h2,h3⟩:=zgi hv;simp only [] at h ⊢;by_cases hd:8<dp1 l (dpF k)
  ·rw [if_pos hd] at h;simp at h
  ·rw [if_neg hd] at h ⊢;by_cases hz:4000<sz1 l s (szF k)
   ·rw [if_pos hz] at h;simp at h
   ·rw [if_neg hz];exact ⟨rfl,h1,h2,h3,by omega,by omega,qY h1 (zY h2)⟩
theorem vP {l:Bool}{s:ByteArray}{k:Fo}(hm:mixed l s k.len=false)(hz:sz1 l s (szF k)≤4000):s.size+szF k≤4000:=by
 unfold sz1 at hz;split at hz
 ·rename_i q
  have:=len_zero (jm hm q);subst this;have:=jA q;simp only [szF];omega
 ·omega
theorem zmq {l l':Bool}{s s':ByteArray}{k k':Fo}{A B:List UInt8}(h:(zJ l s k.len k).2=0)(h':(zJ l' s' k'.len k').2=0)(he:wr1 l s (szF k) (wrF k)++A=wr1 l' s' (szF k') (wrF k')++B):l=l'∧s=s'∧k=k'∧A=B:=by
 obtain ⟨_,m1,p1,_,_,z1,e1⟩:=jZ h;obtain ⟨_,m2,p2,_,_,z2,e2⟩:=jZ h';have q1:=vP m1 z1;have q2:=vP m2 z2;have hk:=zY p1;exact vO m1 m2 hk.symm (zY p2).symm (by omega) (by omega) (fun q=>kZ k k' p1 p2 (by omega) q) he
def qb (f:Nat)(t:ByteArray):Option (Nat×ByteArray):=
 if f≤55 then some (f,t) else if t.size<f-55 then none else if (zL (t.extract 0 (f-55))).1≤55 then none else some ((zL (t.extract 0 (f-55))).1,t.extract (f-55) t.size)
theorem zbI (t:ByteArray)(m:Nat)(h:m≤t.size):tl t=tl (t.extract 0 m)++tl (t.extract m t.size):=by
 rw [qC,qC,List.drop_zero,List.take_of_length_le (l:=tl t) (i:=t.size) (by rw [zy];exact Nat.le_refl _),List.take_append_drop]
theorem xB (t:ByteArray)(a b:Nat)(h:b≤t.size)(hab:a≤b):(t.extract a b).size=b-a:=by
 rw [←zy,qC,List.length_drop,List.length_take,zy,Nat.min_eq_left h]
theorem zdI {t:ByteArray}{A Y:List UInt8}{m:Nat}(h:tl t=A++Y)(hm:m=A.length):tl (t.extract 0 m)=A∧tl (t.extract m t.size)=Y∧m≤t.size:=by
 have hl:t.size=A.length+Y.length:=by rw [←zy,h,List.length_append]
 subst hm;refine ⟨?_,?_,by omega⟩
 ·rw [qC,List.drop_zero,h,List.take_left]
 ·rw [qC,List.take_of_length_le (by rw [zy];exact Nat.le_refl _),h,List.drop_left]
theorem zdJ {f n:Nat}{t u:ByteArray}(h:qb f t=some (n,u))(hf:f<64)(base:Nat):UInt8.ofNat (base+f)::tl t=hd base n++tl u∧n<0x10000000000000000∧u.size≤t.size:=by
 unfold qb at h;split at h
 ·rename_i h1
  injection h with h;injection h with e1 e2;subst e1;subst e2
  unfold hd;rw [if_pos h1];exact ⟨rfl,by omega,Nat.le_refl _⟩
 ·rename_i h1
  split at h
  ·cases h
  ·rename_i h2
   split at h
   ·cases h
   ·rename_i h3
    injection h with h;injection h with e1 e2
    have hz:(t.extract 0 (f-55)).size=f-55:=by rw [xB t 0 _ (by omega) (by omega)];omega
    have hs:=zbI t (f-55) (by omega);have hu:u.size≤t.size:=by rw [←e2,xB t _ _ (Nat.le_refl _) (by omega)];omega
    generalize t.extract 0 (f-55)=s at*;rw [←e2];have hp:qa s=false:=by
     cases hp:qa s with
     | false=>rfl
     | true=>exfalso;apply h3;unfold zL;rw [if_pos (Or.inr hp)];exact Nat.zero_le _
    have hv:(zL s).1=val (tl s):=by unfold zL;rw [if_neg (by rw [hp];simp;omega)]
    have hd1:dg n=tl s:=by rw [←e1,hv,←ji (dg (val (tl s))),(zgB (by omega)).2 hp]
    have hlen:(dg n).length=f-55:=by rw [hd1,zy,hz]
    refine ⟨?_,by rw [←e1,hv];exact zdD (by rw [zy];omega),by rw [e2];exact hu⟩;unfold hd;rw [if_neg (by omega),hlen,show base+55+(f-55)=base+f by omega,hs,hd1];rfl
theorem zmr {f n:Nat}{t:ByteArray}{Y:List UInt8}(l:Bool)(hf:f<64)(hn:n<0x10000000000000000)(h:UInt8.ofNat (frm l+f)::tl t=hd (frm l) n++Y):∃u,qb f t=some (n,u)∧tl u=Y:=by
 have hb:frm l=192∨frm l=128:=by rcases jo l with ⟨_,e⟩ | ⟨_,e⟩<;>omega
 have hdl:=yZ n;unfold hd at h;by_cases h1:n≤55
 ·rw [if_pos h1] at h;obtain ⟨e1,e2⟩:=List.cons.inj h;have e3:=kf (by omega) (by omega) e1;have e4:f=n:=by omega
  subst e4;exact ⟨t,by unfold qb;rw [if_pos h1],e2⟩
 ·rw [if_neg h1] at h;obtain ⟨e1,e2⟩:=List.cons.inj h;have e3:=kf (by omega) (by omega) e1;have hp:=zag (show n≠0 by omega);have hfe:f-55=(dg n).length:=by omega
  obtain ⟨c1,c2,c3⟩:=zdI e2 hfe;have hs:t.extract 0 (f-55)=zf (dg n):=jj (by rw [c1,ji]);refine ⟨t.extract (f-55) t.size,?_,c2⟩;unfold qb;rw [if_neg (by omega),if_neg (by omega),hs,zgC hn,if_neg h1]
def xC (t:ByteArray):Prop:= ∀(l:Bool) (s:ByteArray) (k:Fo) (X:List UInt8),mixed l s k.len=false→pureF k=true→tl t≠wr1 l s (szF k) (wrF k)++X
def zbJ (t:ByteArray):Prop:= ∀k:Fo,pureF k=true→tl t≠wrF k
def yr (t:ByteArray)(l:Bool)(s:ByteArray)(k:Fo)(u:ByteArray):Prop:=mixed l s k.len=false∧pureF k=true∧tl t=wr1 l s (szF k) (wrF k)++tl u
theorem zgH {t:ByteArray}(h:t.size≠0):tl t=UInt8.ofNat (by_ t 0)::tl (t.extract 1 t.size):=by
 obtain ⟨l,e⟩:=xY h;rw [zgg,e];rfl
theorem zgI {t:ByteArray}(h:t.size≠0):zT (t.extract 0 1)=decide (by_ t 0<128):=by
 have hz:(t.extract 0 1).size=1:=by rw [xB t 0 1 (by omega) (by omega)]
 have hb:by_ (t.extract 0 1) 0=by_ t 0:=by
  obtain ⟨l,e⟩:=xY h;unfold by_;rw [qC,e];rfl
 unfold zT;rw [hz,hb];simp
theorem zms {t:ByteArray}{l:Bool}{s:ByteArray}{k:Fo}{X:List UInt8}(ht:t.size≤100000)(hm:mixed l s k.len=false)(hp:pureF k=true)(h:tl t=wr1 l s (szF k) (wrF k)++X):
 t.size≠0∧((by_ t 0<128∧zT s=true)∨(zT s=false∧128≤by_ t 0∧(l=true↔192≤by_ t 0)∧∃u,qb (by_ t 0-frm l) (t.extract 1 t.size)=some (s.size+szF k,u)∧tl u=(tl s++wrF k)++X)):=by
 have h1:=(jX hm hp rfl).1;have hl:t.size=(wr1 l s (szF k) (wrF k)).length+X.length:=by rw [←zy,h,List.length_append]
 have h0:t.size≠0:=by omega
 refine ⟨h0,?_⟩;have hb:=zgH h0;have hlt:=jK t 0;have hpl:=zY hp;unfold wr1 at h hl;cases hs:zT s with
 | true=>
  left;obtain ⟨b,e,hb1⟩:=zbH hs;rw [if_pos hs,hb,e] at h;simp only [List.nil_append,List.cons_append] at h;obtain ⟨e1,_⟩:=List.cons.inj h;have:=congrArg UInt8.toNat e1;rw [UInt8.toNat_ofNat_of_lt' (by simpa using hlt)] at this;exact ⟨by omega,rfl⟩
 | false=>
  right;rw [if_neg (by rw [hs];decide)] at h hl;rw [List.length_append,List.length_append,zy] at hl;obtain ⟨b,r,e,hb1⟩:=zdH l (s.size+szF k);have h9:=h;rw [hb,e] at h9;simp only [List.cons_append] at h9;obtain ⟨e1,_⟩:=List.cons.inj h9;have h128:128≤by_ t 0:=by
   have:=congrArg UInt8.toNat e1;rw [UInt8.toNat_ofNat_of_lt' (by simpa using hlt)] at this;omega
  have hrange:frm l≤by_ t 0∧by_ t 0<frm l+64:=by
   have hdl:=yZ (s.size+szF k);have hfb:frm l=192∨frm l=128:=by rcases jo l with ⟨_,e⟩ | ⟨_,e⟩<;>omega
   unfold hd at e;split at e
   ·obtain ⟨q,_⟩:=List.cons.inj e;rw [←q] at e1;have:=kf hlt (by omega) e1;omega
   ·obtain ⟨q,_⟩:=List.cons.inj e;rw [←q] at e1;have:=kf hlt (by omega) e1;omega
  refine ⟨rfl,h128,?_,?_⟩
  ·rcases jo l with ⟨q,e2⟩|⟨q,e2⟩
   ·rw [q];simp;omega
   ·rw [q];simp;omega
  ·refine zmr l (by omega) (by omega) ?_;rw [show frm l+(by_ t 0-frm l)=by_ t 0 by omega,←hb,h,List.append_assoc]
theorem zmt {t:ByteArray}(h:t.size<1):xC t:=fun l s k X hm hp he=>by
 have h1:=(jX hm hp rfl).1;have hl:=congrArg List.length he;rw [zy,List.length_append] at hl;omega
theorem zmu {t:ByteArray}(h0:t.size≠0)(hb:by_ t 0<128):yr t false (t.extract 0 1) .nil (t.extract 1 t.size):=by
 have hs:zT (t.extract 0 1)=true:=by rw [zgI h0];exact decide_eq_true hb
 refine ⟨by simp [mixed,Fo.len],rfl,?_⟩;unfold wr1;rw [if_pos hs];simp only [wrF,List.append_nil,List.nil_append];exact zbI t 1 (by omega)
theorem zgJ {t u:ByteArray}{b n:Nat}(l:Bool)(h0:t.size≠0)(hb:by_ t 0=b)(hl:frm l≤b)(hf:b-frm l<64)(hc:qb (b-frm l) (t.extract 1 t.size)=some (n,u)):tl t=hd (frm l) n++tl u:=by
 have:=(zdJ hc hf (frm l)).1;rw [show frm l+(b-frm l)=b by omega] at this;rw [zgH h0,hb];exact this
theorem zmv {t u:ByteArray}{n:Nat}(h0:t.size≠0)(h1:128≤by_ t 0)(h2:by_ t 0<192)(hc:qb (by_ t 0-128) (t.extract 1 t.size)=some (n,u))(hn:n≤u.size)(hs:zT (u.extract 0 n)=false):yr t false (u.extract 0 n) .nil (u.extract n u.size):=by
 have hz:(u.extract 0 n).size=n:=by rw [xB u 0 n hn (by omega)];omega
 refine ⟨by simp [mixed,Fo.len],rfl,?_⟩;unfold wr1;rw [if_neg (by rw [hs];decide),hz];have:=zgJ (b:=by_ t 0) false h0 rfl h1 (show _-128<64 by omega) hc;rw [this,zbI u n hn];simp only [szF,wrF,Nat.add_zero,List.append_nil,List.append_assoc]
theorem zmw {t u:ByteArray}{n:Nat}{k:Fo}(h0:t.size≠0)(h2:192≤by_ t 0)(hc:qb (by_ t 0-192) (t.extract 1 t.size)=some (n,u))(hn:n≤u.size)(hp:pureF k=true)(hk:tl (u.extract 0 n)=wrF k):yr t true ⟨#[]⟩ k (u.extract n u.size):=by
 have hlt:=jK t 0;have hz:(u.extract 0 n).size=n:=by rw [xB u 0 n hn (by omega)];omega
 have hpl:=zY hp;have hn2:n=szF k:=by rw [←hz,←zy,hk,hpl]
 refine ⟨rfl,hp,?_⟩;have hs:zT ⟨#[]⟩=false:=by decide
 unfold wr1;rw [if_neg (by rw [hs];decide)];have:=zgJ (b:=by_ t 0) true h0 rfl h2 (show _-192<64 by omega) hc;have h9:(ByteArray.size ⟨#[]⟩)+szF k=n:=by rw [hn2];exact Nat.zero_add _
 rw [h9,this,zbI u n hn,hk];show _=hd (frm true) n++([]++wrF k)++_;simp only [List.nil_append,List.append_assoc]
theorem zbK {t:ByteArray}(l:Bool)(ht:t.size≤100000)(h0:t.size≠0)(h1:128≤by_ t 0)(hl:l=true↔192≤by_ t 0)
 (hb: ∀n u,qb (by_ t 0-frm l) (t.extract 1 t.size)=some (n,u)→ ∀(s:ByteArray) (k:Fo) (X:List UInt8),mixed l s k.len=false→pureF k=true→zT s=false→n=s.size+szF k→n=(tl s++wrF k).length→tl u=(tl s++wrF k)++X→False):xC t:=fun l' s k X hm hp he=>by
 obtain ⟨_,h|⟨hs,_,hl',u,hc,hu⟩⟩:=zms ht hm hp he
 ·omega
 ·have e:l'=l:=by
   have h8:(l'=true)=(l=true):=propext (hl'.trans hl.symm);cases l<;>cases l'<;>first | rfl | (simp only [Bool.false_eq_true,eq_iff_iff,false_iff,iff_false,true_iff,iff_true,not_true_eq_false] at h8)
  subst e;exact hb _ _ hc s k X hm hp hs rfl (by rw [List.length_append,zy,zY hp]) hu
theorem zgK {t:ByteArray}(l:Bool)(ht:t.size≤100000)(h0:t.size≠0)(h1:128≤by_ t 0)(hl:l=true↔192≤by_ t 0)(hc:qb (by_ t 0-frm l) (t.extract 1 t.size)=none):xC t:=
 zbK l ht h0 h1 hl fun n u h=>by rw [hc] at h;cases h
theorem zgL {t u:ByteArray}{n:Nat}(l:Bool)(ht:t.size≤100000)(h0:t.size≠0)(h1:128≤by_ t 0)(hl:l=true↔192≤by_ t 0)(hc:qb (by_ t 0-frm l) (t.extract 1 t.size)=some (n,u))(hn:u.size<n):xC t:=
 zbK l ht h0 h1 hl fun n' u' h s k X _ _ _ _ hlen hu=>by
  rw [hc] at h;injection h with h;injection h with e1 e2;subst e1;subst e2
  have:=congrArg List.length hu;rw [List.length_append,←hlen,zy] at this;omega
theorem zmx {t u:ByteArray}{n:Nat}(ht:t.size≤100000)(h0:t.size≠0)(h1:128≤by_ t 0)(h2:by_ t 0<192)(hc:qb (by_ t 0-128) (t.extract 1 t.size)=some (n,u))(hs:zT (u.extract 0 n)=true):xC t:=
 zbK false ht h0 h1 (by simp;omega) fun n' u' h s k X hm hp hs' _ hlen hu=>by
  rw [show by_ t 0-frm false=by_ t 0-128 from rfl,hc] at h;injection h with h;injection h with e1 e2;subst e1;subst e2
  rcases kg hm with ⟨q,_⟩|⟨_,q⟩
  ·cases q
  ·subst q;have h9:=(zdI hu hlen).1;simp only [wrF,List.append_nil] at h9;rw [jj h9] at hs;rw [hs] at hs';cases hs'
theorem zmy {t u:ByteArray}{n:Nat}(ht:t.size≤100000)(h0:t.size≠0)(h2:192≤by_ t 0)(hc:qb (by_ t 0-192) (t.extract 1 t.size)=some (n,u))(hs:zbJ (u.extract 0 n)):xC t:=
 zbK true ht h0 (by omega) (by simp;omega) fun n' u' h s k X hm hp hs' _ hlen hu=>by
  rw [show by_ t 0-frm true=by_ t 0-192 from rfl,hc] at h;injection h with h;injection h with e1 e2;subst e1;subst e2
  rcases kg hm with ⟨_,q⟩|⟨q,_⟩
  ·subst q;exact hs k hp (zdI hu hlen).1
  ·cases q
theorem zgM {t u:ByteArray}{l:Bool}{s:ByteArray}{k k':Fo}(ht:t.size≤100000)(h:yr t l s k u)(hp:pureF k'=true)(he:tl t=wrF k'):∃r,pureF r=true∧tl u=wrF r:=by
 obtain ⟨hm,hpk,hi⟩:=h;have hlen:=congrArg List.length hi;rw [zy,List.length_append,qY hm (zY hpk)] at hlen;have hsz:sz1 l s (szF k)≤100000:=by omega
 cases k' with
 | nil=>
  exfalso;have h1:=(jX hm hpk rfl).1;rw [hi] at he;have:=congrArg List.length he;simp only [wrF,List.length_append,List.length_nil] at this;omega
 | cons l' s' kk r=>
  simp only [pureF,Bool.and_eq_true,Bool.not_eq_true'] at hp;have h9:=he;have hlen2:=congrArg List.length he;simp only [wrF] at hlen2;rw [zy,List.length_append,qY hp.1.1 (zY hp.1.2)] at hlen2;have hsz2:sz1 l' s' (szF kk)≤100000:=by omega
  have hpay: ∀(l:Bool) (s:ByteArray) (k:Fo),sz1 l s (szF k)≤100000→mixed l s k.len=false→s.size+szF k≤100000:=fun l s k h hm=>by
   unfold sz1 at h;split at h
   ·rename_i q
    have h1:=jA q;have h2:=len_zero (jm hm q);rw [h2];simp only [szF];omega
   ·omega
  have hx:=hpay l s k hsz hm;have hy:=hpay l' s' kk hsz2 hp.1.1;rw [hi] at h9;simp only [wrF] at h9;obtain ⟨_,_,_,hX⟩:=vO hm hp.1.1 (zY hpk).symm (zY hp.1.2).symm (by omega) (by omega) (fun q=>kZ k kk hpk hp.1.2 (by rw [zY hpk];omega) q) h9;exact ⟨r,hp.2,hX⟩
def jp (w:World)(p:Option Addr)(L:List X3):Prop:=L=[]∨∃b off,p=some ⟨b,off,none⟩∧ ∀(j:Nat) (u:Value),(cells3 L)[j]? =some u→w.cell? ⟨b,off+j,none⟩=some u
theorem jp.up {w w':World}{p:Option Addr}{L:List X3}(h:jp w p L)(hb:Below w.heap.size w w'):jp w' p L:=by
 rcases h with h|⟨b,off,e,h⟩
 ·exact .inl h
 ·refine .inr ⟨b,off,e,fun j u hj=>?_⟩;have h1:=h j u hj;have hlt:b<w.heap.size:=by
   rcases Nat.lt_or_ge b w.heap.size with q|q
   ·exact q
   ·simp [World.cell?,Array.getElem?_eq_none q] at h1
  rw [←h1];unfold World.cell?;rw [hb.block b hlt]
theorem Rw.cellsAt {cur:Array Value}{cap n:Nat}{L:List X3}(h:Rw 3 cur cap n (cells3 L)){w:World}{b:Nat}{T:TypeId}{fz:Nat×Nat}(hh:w.heap[b]? =some (.cells cur T fz)):n=L.length∧jp w (some ⟨b,0,none⟩) L:=by
 have hl:=h.len;rw [jY] at hl;refine ⟨by omega,.inr ⟨b,0,rfl,fun j u hj=>?_⟩⟩;have hlt:j<n*3:=by have:=(List.getElem?_eq_some_iff.1 hj).1;rw [jY] at this;omega
 rw [Nat.zero_add];simp [World.cell?,hh,h.get j hlt,hj]
def zah (T:TypeId)(mk:Value→Value)(n:Nat)(L:List X3):Nat→Value→World→Prop:=fun B v w'=>
 (n=0∧v=mk (.slice none 0 0))∨∃b cap cur,v=mk (.slice (some ⟨b,0,none⟩) n cap)∧B≤b∧w'.heap[b]? =some (.cells cur T (0,0))∧Rw 3 cur cap n (cells3 L)
section
variable {P:Program}{N:Nat}{ops:Array Oper}{i:Nat}{r:List Nat}{K:Env→World→Prop}{ρ:Env}{w:World}{B:Nat}{w0:World}{l:List (Nat×Obj)}
theorem zgN (HS:St B w0 w l)(d:Option Nat)(f:Nat)(args:Array Value)(pre:World→Prop)(T:TypeId)(mk:Value→Value)(n:Nat)(L:List X3)(hc:FnR P f args pre (zah T mk n L))(hp:pre w)
 (h:opv P ops i ρ w=some (d,true,.ok (.enter f args) w)) (hd:dOK d N=true)
 (k0: ∀w',n=0→St B w0 w' l→WPs P N ops K r (zm ρ d (mk (.slice none 0 0))) w')
 (kk: ∀b cap cur w',St B w0 w' ((b,.cells cur T (0,0))::l)→Rw 3 cur cap n (cells3 L)→WPs P N ops K r (zm ρ d (mk (.slice (some ⟨b,0,none⟩) n cap))) w'):WPs P N ops K (i::r) ρ w:=by
 obtain ⟨o,ho,rfl,hw,hr⟩:=zQ h;refine WPo.run ho hw fun a ha=>?_;rw [hr,Oper.upon_enter];refine (hc w hp).mono ?_;rintro e w' ⟨v,rfl,hb,⟨h0,rfl⟩|⟨b,cap,cur,rfl,hle,hh,hr⟩⟩
 ·exact ⟨_,ha.put _ (zM hd) _,k0 w' h0 (HS.call hb)⟩
 ·exact ⟨_,ha.put _ (zM hd) _,kk b cap cur w' (HS.add hb hle hh) hr⟩
theorem zmz (HS:St B w0 w l)(d:Option Nat)(t e:TypeId)(bytes:Nat)(s x:Operand)(j b n m cap c:Nat)(p:Option Addr)(cur:Array Value)(xs:List Value)(L:List X3)(l':Nat→Array Value→List (Nat×Obj))
 (h:opk ops i ρ=some (d,true,yq t s x)) (hd:dOK d N=true) (ht:yd P t=some (e,3,bytes))
 (hs:ev ρ s=.slice (some ⟨b,0,none⟩) n cap) (hj:l[j]? =some (b,.cells cur e (0,0))) (hr:Rw 3 cur cap n xs)
 (hx:ev ρ x=.slice p m c) (hm:m=L.length) (hp:p≠none) (hc:jp w p L)
 (hb:(n+m)*bytes≤0x800000000000) (hmx:n+m≤maxLen)
 (hl': ∀b' cur',l.set j (b',.cells cur' e (0,0))=l' b' cur')
 (kk: ∀b' cap' cur' w',St B w0 w' (l' b' cur')→Rw 3 cur' cap' (n+m) (xs++cells3 L)→WPs P N ops K r (zm ρ d (.slice (some ⟨b',0,none⟩) (n+m) cap')) w'):WPs P N ops K (i::r) ρ w:=by
 obtain ⟨o,ho,rfl,hw,hop⟩:=zH h;obtain ⟨it,z,hu,hi,hz,hsz,hby,hzs,h0⟩:=yW ht;obtain ⟨a,rfl⟩:∃a,p=some a:=by cases p with
  | none=>exact absurd rfl hp
  | some a=>exact ⟨a,rfl⟩
 have hnews: ∀q u,(cells3 L)[q]? =some u→w.cell? (a.add q)=some u:=fun q u hq=>by
  rcases hc with rfl|⟨b',off,e',h9⟩
  ·simp [cells3] at hq
  ·obtain rfl:a=⟨b',off,none⟩:=Option.some.inj e';rw [qn];exact h9 q u hq
 obtain ⟨v',w',hrun,hown,hgr,hnil,hblk⟩:=run_append_own_at (P:=P) w B t o.type e it z 3 bytes hu hi hz hsz hby hzs h0 _ n xs (hr.owns (HS.ge j hj) (HS.get j hj)) a m c (cells3 L) (by rw [jY,hm]) hnews (zbD L) hmx hb HS.le;have hown':=hown;rcases hown'.2 with ⟨hv,_⟩|⟨g,cap',cur',rfl,hbg,hg,hnc,hcm,hcs,htk⟩
 ·exact absurd (hnil.1 hv).1 (by simp)
 ·have hgb:g=b∨g=w.heap.size:=by
   rcases hblk with hq|hq
   ·left;injection hq
   ·right;injection hq
  have HS':=HS.grown j hj hgr hgb hg;rw [hl'] at HS';refine WPo.run ho hw fun a' ha=>?_;have hex:(execOp (ev ρ) o).run P w=.ok (.value (.slice (some ⟨g,0,none⟩) (n+m) cap')) w':=by
   unfold execOp;simp only [hop,yq,resolve,invoke,builtin,Sem.run_bind,Sem.run_pure,Result.andThen_ok,List.map_toArray,List.map_cons,List.map_nil,hs,hx,hrun]
  rw [hex,Oper.upon_value];exact ⟨_,ha.put _ (zM hd) _,kk g cap' cur' w' HS' ⟨hown.1,hnc,hcm,htk,hcs⟩⟩
end
def zai (P:Program)(N:Nat)(ops:Array Oper)(Q:Exit→Env→World→Prop)(i:Nat)(K:Env→World→Prop)(ρ:Env)(w:World):Prop:=
 ∀a,Rep a ρ N→wpOp P ops (lift N Q) i (fun a' w'=> ∃ρ',Rep a' ρ' N∧K ρ' w') a w
def yu (P:Program)(N:Nat)(ops:Array Oper)(Q:Exit→Env→World→Prop)(K:Env→World→Prop):List Nat→Env→World→Prop
 | [],ρ,w=>K ρ w
 | i::r,ρ,w=>zai P N ops Q i (yu P N ops Q K r) ρ w
section
variable {P:Program}{N:Nat}{ops:Array Oper}{Q:Exit→Env→World→Prop}{K:Env→World→Prop}{ρ:Env}{w:World}{i:Nat}{r:List Nat}{c:Code}
theorem yu.sound: ∀(l:List Nat) (ρ:Env) (w:World),yu P N ops Q (Q .normal) l ρ w→ ∀a,Rep a ρ N→wpOps P ops (lift N Q) l a w
 | [],ρ,w,h,a,ha=>⟨ρ,ha,h⟩
 | i::r,ρ,w,h,a,ha=>by
  rw [wpOps_cons];exact wpOp_mono (fun a' w' ⟨ρ',hr,h'⟩=>yu.sound r ρ' w' h' a' hr) (h a ha)
theorem WP.regionX {id:Nat}(l:List Nat)(hl:List.range ops.size=l)(h:yu P N ops Q (Q .normal) l ρ w):WP P N (.region id ops false) Q ρ w:=fun a ha=>
 wp_region (by rw [hl];exact yu.sound l ρ w h a ha)
theorem xf (l1:List Nat){l l2:List Nat}(hl:l=l1++l2)(h:WPs P N ops (fun ρ w=>yu P N ops Q K l2 ρ w) l1 ρ w):yu P N ops Q K l ρ w:=by
 subst hl
 induction l1 generalizing ρ w with
 | nil=>exact h
 | cons i r ih=>
  intro a ha;exact wpOp_mono (fun a' w' ⟨ρ',hr,h'⟩=>⟨ρ',hr,ih h'⟩) (zeX (h a ha))
theorem zai.run {o:Oper}(ho:ops[i]? =some o)(hw:Region.wanted o (zC ops ρ)=true)
 (h: ∀a,Rep a ρ N→Oper.upon P o a (fun a' w'=> ∃ρ',Rep a' ρ' N∧K ρ' w') (lift N Q) ((execOp (ev ρ) o).run P w)):zai P N ops Q i K ρ w:=fun a ha=>by
 unfold wpOp;simp only [ho,jg ha,hw,if_true];refine .inl ?_;unfold Oper.wp;rw [ha.eval];exact h a ha
theorem zgO (d:Option Nat)(f:Nat)(args:Array Value)(R:Ending→World→Prop)(hc:Calls P f args w R)(h:opv P ops i ρ w=some (d,true,.ok (.enter f args) w))(hd:dOK d N=true)
 (kk: ∀e w',R e w'→(∃v,e=.returned v∧yu P N ops Q K r (zm ρ d v) w')∨(∃ch,e=.panicked ch∧Q (.panic ch) ρ w')):yu P N ops Q K (i::r) ρ w:=by
 obtain ⟨o,ho,rfl,hw,hr⟩:=zQ h;refine zai.run ho hw fun a ha=>?_;rw [hr,Oper.upon_enter];refine hc.mono ?_;intro e w' hR;rcases kk e w' hR with ⟨v,rfl,hk⟩|⟨ch,rfl,hq⟩
 ·exact ⟨_,ha.put _ (zM hd) v,hk⟩
 ·exact ⟨ρ,ha,hq⟩
theorem zbL (d:Option Nat)(v:Value)(h:opv P ops i ρ w=some (d,true,.halt (.panic v) w))(hq:Q (.panic [{ v,recovered:=false }]) ρ w):yu P N ops Q K (i::r) ρ w:=by
 obtain ⟨o,ho,rfl,hw,hr⟩:=zQ h;refine zai.run ho hw fun a ha=>?_;rw [hr,Oper.upon_panic];exact ⟨ρ,ha,hq⟩
theorem zbM (l:List Nat)(hc:qM c=some (l,false))(h:yu P N (zg c) Q (Q .normal) l ρ w):WP P N c Q ρ w:=by
 obtain ⟨id,he,hl⟩:=xR hc;rw [he];exact WP.regionX l hl h
theorem zbN (l:List Nat)(hc:yx c=true)(hr:qM (zq c)=some (l,false))(h:yu P N (zg (zq c)) (nx (WP P N (zw c) Q) Q) (WP P N (zw c) Q) l ρ w):WP P N c Q ρ w:=
 zb hc (zbM l hr h)
end
def zdK (P:Program)(rs:List ResultVar)(R:Value→World→Prop)(RP:List PanicEntry→World→Prop):Exit→Env→World→Prop
 | .normal,ρ,w | .ret,ρ,w=> ∃vs,Res P w ρ rs vs∧R (jI vs) w
 | .panic ch,_,w=>RP ch w
 | _,_,_=>False
theorem zgP {P:Program}{f:Nat}{fn:Func}{c:Code}{rs:List ResultVar}{N:Nat}{args:Array Value}{w:World}{R:Value→World→Prop}{RP:List PanicEntry→World→Prop}(hf:P.funcs[f]? =some fn)(hb:fn.body=some c)(hr:fn.results.toList=rs)(hn:args.size+(fn.ntmps-args.size)=N)
 (h:WP P N c (zdK P rs R RP) (ini args) w):Calls P f args w fun e w'=>(∃v,e=.returned v∧R v w')∨(∃ch,e=.panicked ch∧RP ch w'):=by
 subst hr;refine calls_of_wp hf hb (Go.wp_mono (h { tmps:=args++Array.replicate (fn.ntmps-args.size) undef,defers:=[] } ⟨rfl,by simp [hn],fun t=>?_⟩) ?_)
 ·unfold ini;rw [jH,jH,Array.getElem?_append];split
  ·rfl
  ·rename_i hge
   rw [Array.getElem?_eq_none (Nat.le_of_not_lt hge)];cases he:(Array.replicate (fn.ntmps-args.size) undef)[t-args.size]? with
   | none=>rfl
   | some v=>
    have:=Array.mem_of_getElem? he;simp at this;simp [this]
 ·rintro e a w' ⟨ρ,ha,hq⟩;cases e with
  | normal=>obtain ⟨vs,hR,hv⟩:=hq;exact ⟨ha.defers,_,hR.run ha,.inl ⟨_,rfl,hv⟩⟩
  | ret=>obtain ⟨vs,hR,hv⟩:=hq;exact ⟨ha.defers,_,hR.run ha,.inl ⟨_,rfl,hv⟩⟩
  | panic ch=>exact ⟨ha.defers,.inr ⟨_,rfl,hq⟩⟩
  | _=>exact (hq:False).elim
def jq (T:List (Nat×Obj)):Fo→Nat→Nat→Prop
 | .nil,_,_=>True
 | .cons l s k r,b,off=>(∃(C:Array Value) (ty:TypeId) (fz:Nat×Nat) (p:Option Addr) (n c:Nat),(b,Obj.cells C ty fz)∈T∧off+3≤C.size∧
  C.extract off (off+3)=#[.bool l,.string s,.slice p n c]∧s.size≤0x800000000000∧n=k.len∧n≤0x800000000000∧(k=.nil∨∃b' off',p=some ⟨b',off',none⟩∧jq T k b' off'))∧jq T r b (off+3)
def ya (T:List (Nat×Obj))(p:Option Addr)(n:Nat)(k:Fo):Prop:=n=k.len∧n≤0x800000000000∧(k=.nil∨∃b off,p=some ⟨b,off,none⟩∧jq T k b off)
theorem jq.mono {T T':List (Nat×Obj)}(h: ∀e∈T,e∈T'): ∀ {k:Fo} {b off:Nat},jq T k b off→jq T' k b off
 | .nil,_,_,_=>trivial
 | .cons l s k r,b,off,⟨⟨C,ty,fz,p,n,c,h1,h2,h3,h4,h5,h6,h7⟩,h8⟩=>⟨⟨C,ty,fz,p,n,c,h _ h1,h2,h3,h4,h5,h6,h7.imp id fun ⟨b',o',e,q⟩=>⟨b',o',e,jq.mono h q⟩⟩,jq.mono h h8⟩
theorem ya.mono {T T':List (Nat×Obj)}{p:Option Addr}{n:Nat}{k:Fo}(hs:ya T p n k)(h: ∀e∈T,e∈T'):ya T' p n k:=
 ⟨hs.1,hs.2.1,hs.2.2.imp id fun ⟨b,o,e,q⟩=>⟨b,o,e,q.mono h⟩⟩
theorem jq.at {B:Nat}{w0 w:World}{l T:List (Nat×Obj)}(hS:St B w0 w l)(h: ∀e∈T,e∈l): ∀ {k:Fo} {b off:Nat},jq T k b off→qX w.heap.size w k b off
 | .nil,_,_,_=>trivial
 | .cons l s k r,b,off,⟨⟨C,ty,fz,p,n,c,h1,h2,h3,h4,h5,h6,h7⟩,h8⟩=>
  have hh:=(hS.own _ (h _ h1)).2
  ⟨⟨C,ty,fz,p,n,c,zr hh,hh,h2,h3,h4,h5,h6,h7.imp id fun ⟨b',o',e,q⟩=>⟨b',o',e,jq.at hS h q⟩⟩,jq.at hS h h8⟩
theorem ya.at {B:Nat}{w0 w:World}{l T:List (Nat×Obj)}{p:Option Addr}{n:Nat}{k:Fo}(hs:ya T p n k)(hS:St B w0 w l)(h: ∀e∈T,e∈l):zx w.heap.size w p n k:=
 ⟨hs.1,hs.2.1,hs.2.2.imp id fun ⟨b,o,e,q⟩=>⟨b,o,e,q.at hS h⟩⟩
def AllIn (T:List (Nat×Obj))(L:List X3):Prop:= ∀x∈L,ya T x.p x.n x.k∧x.s.size≤0x800000000000
theorem zgQ {T:List (Nat×Obj)}{b:Nat}{C:Array Value}{ty:TypeId}{fz:Nat×Nat}(hm:(b,Obj.cells C ty fz)∈T): ∀(L:List X3) (o:Nat),
 (∀(i:Nat) (x:X3),L[i]? =some x→C[o+i*3]? =some (.bool x.l)∧C[o+i*3+1]? =some (.string x.s)∧C[o+i*3+2]? =some (.slice x.p x.n x.c))→AllIn T L→jq T (toFo L) b o
 | [],_,_,_=>trivial
 | x::r,o,h,hA=>by
  obtain ⟨h1,h2,h3⟩:=h 0 x rfl;simp only [Nat.zero_mul,Nat.add_zero] at h1 h2 h3;have ha:=hA x (List.mem_cons_self ..);refine ⟨⟨C,ty,fz,x.p,x.n,x.c,hm,(ex3 h1 h2 h3).1,(ex3 h1 h2 h3).2,ha.2,ha.1.1,ha.1.2.1,ha.1.2.2⟩,?_⟩;refine zgQ hm r (o+3) (fun i y hy=>?_) fun y hy=>hA y (List.mem_cons_of_mem _ hy);have:=h (i+1) y (by simpa using hy);rw [show o+(i+1)*3=o+3+i*3 by omega] at this;exact this
theorem Rw.slIn {cur:Array Value}{cap n:Nat}{L:List X3}(h:Rw 3 cur cap n (cells3 L)){T:List (Nat×Obj)}{b:Nat}{ty:TypeId}{fz:Nat×Nat}(hm:(b,Obj.cells cur ty fz)∈T)(hA:AllIn T L)(hn:n≤0x800000000000):ya T (some ⟨b,0,none⟩) n (toFo L):=by
 have hl:=h.len;rw [jY] at hl;refine ⟨by rw [zbC];omega,hn,.inr ⟨b,0,rfl,zgQ hm L 0 (fun i x hx=>?_) hA⟩⟩;have:=h.at3 hx;rw [Nat.zero_add];exact this
theorem zdL {a:Nat}(h:a≤255):IntKind.u8.wrap (a:Int)=(a:Int):=by rw [IntKind.wrap_u8];omega
abbrev dc (t:ByteArray):Obj:=.cells #[.string t] 171 (0,0)
def chF:List PanicEntry:=[{ v:=.iface 33 (.int .i64 4),recovered:=false }]
def FnX (P:Program)(f:Nat)(args:Array Value)(bd:Nat)(t:ByteArray)(ok:ByteArray→Value→List (Nat×Obj)→Prop)(bad:Prop):Prop:=
 ∀(B:Nat) (w0 w:World) (L:List (Nat×Obj)),St B w0 w ((bd,dc t)::L)→Calls P f args w fun e w'=>
  (∃v u T,e=.returned v∧ok u v T∧St B w0 w' ((bd,dc u)::(T++L)))∨(e=.panicked chF∧bad∧St B w0 w' L)
abbrev zmA (P:Program)(rs:List ResultVar)(B:Nat)(w0:World)(bd:Nat)(L:List (Nat×Obj))(ok:ByteArray→Value→List (Nat×Obj)→Prop)(bad:Prop):Exit→Env→World→Prop:=
 zdK P rs (fun v w'=> ∃u T,ok u v T∧St B w0 w' ((bd,dc u)::(T++L))) (fun ch w'=>ch=chF∧bad∧St B w0 w' L)
theorem FnX.intro {P:Program}{f:Nat}{fn:Func}{c:Code}(rs:List ResultVar)(N:Nat){args:Array Value}{bd:Nat}{t:ByteArray}{ok:ByteArray→Value→List (Nat×Obj)→Prop}{bad:Prop}(hf:P.funcs[f]? =some fn)(hb:fn.body=some c)(hr:fn.results.toList=rs)(hn:args.size+(fn.ntmps-args.size)=N)
 (h: ∀B w0 w L,St B w0 w ((bd,dc t)::L)→WP P N c (zmA P rs B w0 bd L ok bad) (ini args) w):FnX P f args bd t ok bad:=fun B w0 w L HS=>
 (zgP hf hb hr hn (h B w0 w L HS)).mono fun e w' q=>by
  rcases q with ⟨v,he,u,T,h1,h2⟩|⟨ch,he,h0,h1,h2⟩
  ·exact .inl ⟨v,u,T,he,h1,h2⟩
  ·exact .inr ⟨by rw [he,h0],h1,h2⟩
section
variable {P:Program}{N:Nat}{ops:Array Oper}{Q:Exit→Env→World→Prop}{K:Env→World→Prop}{ρ:Env}{w w0:World}{i B:Nat}{r:List Nat}{l:List (Nat×Obj)}
theorem vb {bd:Nat}{t:ByteArray}{L:List (Nat×Obj)}(HS:St B w0 w l)(hp:((bd,dc t)::L).Perm l)(d:Option Nat)(f:Nat)(args:Array Value){ok:ByteArray→Value→List (Nat×Obj)→Prop}{bad:Prop}(hc:FnX P f args bd t ok bad)
 (h:opv P ops i ρ w=some (d,true,.ok (.enter f args) w)) (hd:dOK d N=true)
 (kp: ∀w',bad→St B w0 w' L→Q (.panic chF) ρ w')
 (kk: ∀v u T w',ok u v T→St B w0 w' ((bd,dc u)::(T++L))→yu P N ops Q K r (zm ρ d v) w'):yu P N ops Q K (i::r) ρ w:=
 zgO d f args _ (hc B w0 w L (HS.perm hp)) h hd fun e w' q=>by
  rcases q with ⟨v,u,T,he,h1,h2⟩|⟨he,h1,h2⟩
  ·exact .inl ⟨v,he,kk v u T w' h1 h2⟩
  ·exact .inr ⟨chF,he,kp w' h1 h2⟩
theorem xD (l1:List Nat)(h:WPs P N ops K l1 ρ w):yu P N ops Q K l1 ρ w:=xf l1 (l2:=[]) (by simp) h
end
theorem zbO (bd m:Nat)(t:ByteArray)(ht:t.size≤100000):FnX Tryz.prog 140 #[.pointer (some ⟨bd,0,none⟩),.int .u64 (m:Int)] bd t (fun u v T=>m≤t.size∧v=.string (t.extract 0 m)∧u=t.extract m t.size∧T=[]) (t.size<m):=by
 refine FnX.intro (c:=zd Tryz.f140) [.tmp 4] 31 Tryz.func140 kr kr kr fun B w0 w L H0=>rS [.v] H0 kr fun gs1 w1 H1=>zb kr ?_;by_cases hm:m≤t.size
 ·refine rS [.v,.v,.v,.v,.l 0,.v,.E (.int .u64 (IntKind.u64.wrap ((ByteArray.size t:Int)))) (.int .u64 (ByteArray.size t:Int)) (zk (xU (a:=ByteArray.size t) (by omega))),.E (.bool (decide ((ByteArray.size t:Int)<(m:Int)))) (.bool false) (za (decide_eq_false (by omega)))] H1 kr fun gs2 w2 H2=>zl kr kr<|zp kr<|wW<|rS [.v,.v,.v,.l 0,.v,.o (ins:=[((.tmp 18),.string t),((.tmp 19),.int .u64 (m:Int))]) (v:=.string (ByteArray.extract t 0 m)) (fun ρ o w ho hi=>vH (t:=9) (kd:=.u64) kr (x:=(.tmp 18)) (y:=(.tmp 19)) t m ho hi.1 hi.2.1 (by omega) w),.v] H2 kr fun gs3 w3 H3=>rS [.v,.v,.v,.v,.l 0,.v,.o (ins:=[((.tmp 25),.string t),((.tmp 26),.int .u64 (m:Int))]) (v:=.string (ByteArray.extract t m (ByteArray.size t))) (fun ρ o w ho hi=>zfC (t:=9) (kz:=.u64) kr (x:=(.tmp 25)) (z:=(.tmp 26)) t m ho hi.1 hi.2.1 (by omega) w),.v,.v,.s 0] H3 kr fun gs4 w4 H4=>rS [.v,.v] H4 kr fun gs5 w5 H5=>zn kr<|wV ?_;exact ⟨[.string (t.extract 0 m)],(.tmp (.string (t.extract 0 m)) kr .nil),_,[],⟨hm,rfl,rfl,rfl⟩,H5.as kr⟩
 ·refine rS [.v,.v,.v,.v,.l 0,.v,.E (.int .u64 (IntKind.u64.wrap ((ByteArray.size t:Int)))) (.int .u64 (ByteArray.size t:Int)) (zk (xU (a:=ByteArray.size t) (by omega))),.E (.bool (decide ((ByteArray.size t:Int)<(m:Int)))) (.bool true) (za (decide_eq_true (by omega)))] H1 kr fun gs2 w2 H2=>zi kr kr<|zbM [0,1] kr<|xf [0] (l2:=[1]) rfl<|rp [.v] H2 kr fun gs3 w3 H3=>wX []<|zc<|zbL none (.iface 33 (.int .i64 4)) kr ?_;have H4:St B w0 w3 ((bd,dc t)::L):=H3.as kr;exact ⟨rfl,by omega,H4.sub (List.sublist_cons_self ..)⟩
theorem zgR (bd f:Nat)(t:ByteArray)(hf:f<64)(ht:t.size≤100000):FnX Tryz.prog 142 #[.pointer (some ⟨bd,0,none⟩),.int .u8 (f:Int)] bd t (fun u v T=> ∃n,qb f t=some (n,u)∧v=.int .u64 ((n:Nat):Int)∧T=[]) (qb f t=none):=by
 refine FnX.intro (c:=zd Tryz.f142) [.tmp 4] 24 Tryz.func142 kr kr kr fun B w0 w L H0=>rS [.v] H0 kr fun gs1 w1 H1=>zb kr ?_;by_cases hm:f≤55
 ·refine rS [.v,.E (.bool (decide ((f:Int)≤55))) (.bool true) (za (decide_eq_true (by omega)))] H1 kr fun gs2 w2 H2=>zi kr kr<|rS [.v,.E (.int .u64 (IntKind.u64.wrap ((f:Int)))) (.int .u64 (f:Int)) (zk (xU (a:=f) (by omega))),.v] H2 kr fun gs3 w3 H3=>zn kr<|wV ?_;exact ⟨[.int .u64 (f:Int)],(.tmp (.int .u64 (f:Int)) kr .nil),t,[],⟨f,by unfold qb;rw [if_pos hm],rfl,rfl⟩,H3.as kr⟩
 ·refine rS [.v,.E (.bool (decide ((f:Int)≤55))) (.bool false) (za (decide_eq_false (by omega)))] H1 kr fun gs2 w2 H2=>zl kr kr<|zp kr<|wW<|zbN [0,1,2,3,4,5,6,7,8,9,10] kr kr<|xf [0,1,2,3] (l2:=[4,5,6,7,8,9,10]) rfl<|rp [.v,.v,.E (.int .u8 (IntKind.u8.wrap ((f:Int)-55))) (.int .u8 (((f-55:Nat):Nat):Int)) (zk (by rw [show (f:Int)-55=((f-55:Nat):Int) by omega];exact zdL (by omega))),.E (.int .u64 (IntKind.u64.wrap (((f-55:Nat):Int)))) (.int .u64 ((f-55:Nat):Int)) (zk (xU (a:=f-55) (by omega)))] H2 kr fun gs3 w3 H3=>wX []<|zc ?_;have H4:St B w0 w3 ((bd,dc t)::L):=H3.as kr;refine vb H4 (List.Perm.refl _) (some 16) 140 #[.pointer (some ⟨bd,0,none⟩),.int .u64 ((f-55:Nat):Int)] (zbO bd (f-55) t ht) kr kr (fun w' hb HS=>?_) ?_
  ·exact ⟨rfl,by unfold qb;rw [if_neg hm,if_pos hb],HS⟩
  rintro _ _ _ w4 ⟨hle,rfl,rfl,rfl⟩ H5;refine xD _<|rp [.c (zgE (t.extract 0 (f-55)))] H5 kr fun gs4 w5 H6=>wX [6,7,8,9,10]<|yi 17 (v:=zbG (zL (t.extract 0 (f-55)))) (v':=.tuple #[.int .u64 (((zL (t.extract 0 (f-55))).1:Nat):Int),.bool (zL (t.extract 0 (f-55))).2]) rfl kr<|rp [.v,.v,.v,.v,.v] H6 kr fun gs5 w6 H7=>wX []<|zc<|wW<|zb kr ?_;by_cases hn:(zL (t.extract 0 (f-55))).1≤55
  ·refine rS [.v,.E (.bool (decide ((((zL (t.extract 0 (f-55))).1:Nat):Int)≤55))) (.bool true) (za (decide_eq_true (by omega)))] H7 kr fun gs6 w7 H8=>zi kr kr<|zbM [0,1] kr<|xf [0] (l2:=[1]) rfl<|rp [.v] H8 kr fun gs7 w8 H9=>wX []<|zc<|zbL none (.iface 33 (.int .i64 4)) kr ?_;have H10:St B w0 w8 ((bd,dc (t.extract (f-55) t.size))::L):=H9.as kr;exact ⟨rfl,by unfold qb;rw [if_neg hm,if_neg (by omega),if_pos hn],H10.sub (List.sublist_cons_self ..)⟩
  ·refine rS [.v,.E (.bool (decide ((((zL (t.extract 0 (f-55))).1:Nat):Int)≤55))) (.bool false) (za (decide_eq_false (by omega)))] H7 kr fun gs6 w7 H8=>zl kr kr<|zp kr<|wW<|rS [.v,.v] H8 kr fun gs7 w8 H9=>zn kr<|wV ?_;exact ⟨[.int .u64 (((zL (t.extract 0 (f-55))).1:Nat):Int)],(.tmp _ kr .nil),t.extract (f-55) t.size,[],⟨_,by unfold qb;rw [if_neg hm,if_neg (by omega),if_neg hn],rfl,rfl⟩,H9.as kr⟩
def FnY (P:Program)(f:Nat)(args:Array Value)(ok:Value→List (Nat×Obj)→Prop)(bad:Prop):Prop:=
 ∀(B:Nat) (w0 w:World) (L:List (Nat×Obj)),St B w0 w L→Calls P f args w fun e w'=>
  (∃v T,e=.returned v∧ok v T∧St B w0 w' (T++L))∨(e=.panicked chF∧bad∧St B w0 w' L)
abbrev zmB (P:Program)(rs:List ResultVar)(B:Nat)(w0:World)(L:List (Nat×Obj))(ok:Value→List (Nat×Obj)→Prop)(bad:Prop):Exit→Env→World→Prop:=
 zdK P rs (fun v w'=> ∃T,ok v T∧St B w0 w' (T++L)) (fun ch w'=>ch=chF∧bad∧St B w0 w' L)
theorem FnY.intro {P:Program}{f:Nat}{fn:Func}{c:Code}(rs:List ResultVar)(N:Nat){args:Array Value}{ok:Value→List (Nat×Obj)→Prop}{bad:Prop}(hf:P.funcs[f]? =some fn)(hb:fn.body=some c)(hr:fn.results.toList=rs)(hn:args.size+(fn.ntmps-args.size)=N)
 (h: ∀B w0 w L,St B w0 w L→WP P N c (zmB P rs B w0 L ok bad) (ini args) w):FnY P f args ok bad:=fun B w0 w L HS=>
 (zgP hf hb hr hn (h B w0 w L HS)).mono fun e w' q=>by
  rcases q with ⟨v,he,T,h1,h2⟩|⟨ch,he,h0,h1,h2⟩
  ·exact .inl ⟨v,T,he,h1,h2⟩
  ·exact .inr ⟨by rw [he,h0],h1,h2⟩
theorem zmC {P:Program}{N:Nat}{ops:Array Oper}{Q:Exit→Env→World→Prop}{K:Env→World→Prop}{ρ:Env}{w w0:World}{i B:Nat}{r:List Nat}{l:List (Nat×Obj)}(HS:St B w0 w l)(d:Option Nat)(f:Nat)(args:Array Value){ok:Value→List (Nat×Obj)→Prop}{bad:Prop}(hc:FnY P f args ok bad)
 (h:opv P ops i ρ w=some (d,true,.ok (.enter f args) w)) (hd:dOK d N=true)
 (kp: ∀w',bad→St B w0 w' l→Q (.panic chF) ρ w')
 (kk: ∀v T w',ok v T→St B w0 w' (T++l)→yu P N ops Q K r (zm ρ d v) w'):yu P N ops Q K (i::r) ρ w:=
 zgO d f args _ (hc B w0 w l HS) h hd fun e w' q=>by
  rcases q with ⟨v,T,he,h1,h2⟩|⟨he,h1,h2⟩
  ·exact .inl ⟨v,he,kk v T w' h1 h2⟩
  ·exact .inr ⟨chF,he,kp w' h1 h2⟩
def SlC (T:List (Nat×Obj))(p:Option Addr)(n c:Nat)(k:Fo):Prop:=ya T p n k∧n≤c
def zmD (t:ByteArray)(u:ByteArray)(v:Value)(T:List (Nat×Obj)):Prop:=∃(l:Bool) (s:ByteArray) (p:Option Addr) (n c:Nat) (k:Fo),v=.agg #[.bool l,.string s,.slice p n c]∧yr t l s k u∧SlC T p n c k∧s.size≤t.size
def vQ (bd:Nat)(t:ByteArray):Prop:=FnX Tryz.prog 101 #[.pointer (some ⟨bd,0,none⟩)] bd t (zmD t) (xC t)
def zgS (t:ByteArray)(v:Value)(T:List (Nat×Obj)):Prop:=∃(p:Option Addr) (n c:Nat) (k:Fo),v=.agg #[.bool true,.string ⟨#[]⟩,.slice p n c]∧tl t=wrF k∧pureF k=true∧SlC T p n c k
def zdM (t:ByteArray):Prop:=FnY Tryz.prog 143 #[.string t] (zgS t) (zbJ t)
theorem ya.none (T:List (Nat×Obj)):ya T none 0 .nil:=⟨rfl,by omega,.inl rfl⟩
theorem SlC.none (T:List (Nat×Obj)):SlC T none 0 0 .nil:=⟨ya.none T,Nat.le_refl _⟩
theorem zmE {t:ByteArray}(h:t.size≠0):by_ (t.extract 0 1) 0=by_ t 0:=by
 obtain ⟨l,e⟩:=xY h;unfold by_;rw [qC,e];rfl
theorem zgT (bd:Nat)(t:ByteArray)(ht:t.size≤100000)(hl: ∀s:ByteArray,s.size<t.size→zdM s):vQ bd t:=by
 refine FnX.intro (c:=zd Tryz.f101) [.cell 2 44] 36 Tryz.func101 kr kr kr fun B w0 w L H0=>zh [0] kr kr<|zP H0 (some 2) 44 (.agg #[.bool false,.string ⟨#[]⟩,.slice none 0 0]) kr kr kr ?_;intro b1 w1 H1;refine zc<|zbN [0,1,2] kr kr<|xf [0] (l2:=[1,2]) rfl<|rp [.v] H1 kr fun gs2 w2 H2=>wX []<|zc ?_;have H3:St B w0 w2 ((b1,.cells #[.bool false,.string ⟨#[]⟩,.slice none 0 0] 44 (0,0))::(bd,dc t)::L):=H2.as kr;refine vb H3 (List.Perm.swap _ _ _) (some 6) 140 #[.pointer (some ⟨bd,0,none⟩),.int .u64 ((1:Nat):Int)] (zbO bd 1 t ht) kr kr (fun w' hb HS=>?_) ?_
 ·exact ⟨rfl,zmt hb,HS.sub (List.sublist_cons_self ..)⟩
 rintro _ _ _ w3 ⟨hle,rfl,rfl,rfl⟩ H4;have h0:t.size≠0:=by omega
 have hb:=zmE h0;have hlt:=jK t 0;have hz1:(t.extract 0 1).size=1:=by rw [xB t 0 1 (by omega) (by omega)]
 have hzt:(t.extract 1 t.size).size=t.size-1:=by rw [xB t 1 _ (Nat.le_refl _) (by omega)]
 have hfs:=zgI h0;refine xD _<|rp [.v] H4 kr fun gs3 w4 H5=>wX []<|zc<|wW<|zu 0 kr<|rS [.v,.c (zbB (t.extract 0 1)),.v] H5 kr fun gs4 w5 H6=>?_;by_cases h128:by_ t 0<128
 ·have hs1:zT (t.extract 0 1)=true:=by rw [hfs];exact decide_eq_true h128
  refine qg 15 (v:=.bool (zT (t.extract 0 1))) (v':=.bool true) (za hs1) kr<|zi kr kr<|rS [.v,.c (zgG (t.extract 0 1) (by omega)),.s 1] H6 kr fun gs5 w6 H7=>?_;have H8:St B w0 w6 ((bd,dc (t.extract 1 t.size))::(b1,.cells #[.bool false,.string (t.extract 0 1),.slice none 0 0] 44 (0,0))::L):=H7.as kr;refine zn kr<|wV ?_;exact ⟨[.agg #[.bool false,.string (t.extract 0 1),.slice none 0 0]],(.agg (b:=b1) (#[.bool false,.string (t.extract 0 1),.slice none 0 0]) 44 (0,0) kr (H8.get 1 kr) kr .nil),_,[],⟨_,_,_,_,_,_,rfl,zmu h0 h128,SlC.none _,by omega⟩,H8.sub (List.Sublist.cons_cons _ (List.Sublist.cons _ (List.Sublist.refl _)))⟩
 ·have hs1:zT (t.extract 0 1)=false:=by rw [hfs];exact decide_eq_false h128
  refine qg 15 (v:=.bool (zT (t.extract 0 1))) (v':=.bool false) (za hs1) kr<|zl kr kr ?_;by_cases h192:by_ t 0<192
  ·refine rS [.v,.o (ins:=[((.tmp 21),.string (t.extract 0 1)),((.const (.int .i64 0)),.int .i64 0)]) (v:=.int .u8 ((by_ (t.extract 0 1) 0:Nat):Int)) (fun ρ o w ho hi=>qV (t:=9) (kd:=.i64) kr (x:=(.tmp 21)) (y:=(.const (.int .i64 0))) (t.extract 0 1) 0 ho hi.1 hi.2.1 (by omega) w),.E (.bool (decide (((by_ (t.extract 0 1) 0:Nat):Int)<192))) (.bool true) (za (decide_eq_true (by omega))),.v] H6 kr fun gs5 w6 H7=>zi kr kr<|zbN [0,1,2,3,4,5,6,7] kr kr<|xf [0,1,2,3,4] (l2:=[5,6,7]) rfl<|rp [.v,.v,.v,.o (ins:=[((.tmp 26),.string (t.extract 0 1)),((.const (.int .i64 0)),.int .i64 0)]) (v:=.int .u8 ((by_ (t.extract 0 1) 0:Nat):Int)) (fun ρ o w ho hi=>qV (t:=9) (kd:=.i64) kr (x:=(.tmp 26)) (y:=(.const (.int .i64 0))) (t.extract 0 1) 0 ho hi.1 hi.2.1 (by omega) w),.E (.int .u8 (IntKind.u8.wrap (((by_ (t.extract 0 1) 0:Nat):Int)-128))) (.int .u8 ((by_ t 0-128:Nat):Int)) (zk (by rw [show ((by_ (t.extract 0 1) 0:Nat):Int)-128=((by_ t 0-128:Nat):Int) by omega];exact zdL (by omega)))] H7 kr fun gs6 w7 H8=>wX []<|zc ?_;have H9:St B w0 w7 ((bd,dc (t.extract 1 t.size))::(b1,.cells #[.bool false,.string ⟨#[]⟩,.slice none 0 0] 44 (0,0))::L):=H8.as kr;refine vb H9 (List.Perm.refl _) (some 29) 142 #[.pointer (some ⟨bd,0,none⟩),.int .u8 ((by_ t 0-128:Nat):Int)] (zgR bd (by_ t 0-128) (t.extract 1 t.size) (by omega) (by omega)) kr kr (fun w' hb HS=>?_) ?_
   ·exact ⟨rfl,zgK false ht h0 (by omega) (by simp;omega) hb,HS.sub (List.sublist_cons_self ..)⟩
   rintro _ u _ w8 ⟨n,hc,rfl,rfl⟩ H10;have hu:=(zdJ hc (by omega) 0).2.2;refine vb (L:=(b1,.cells #[.bool false,.string ⟨#[]⟩,.slice none 0 0] 44 (0,0))::L) H10 (List.Perm.refl _) (some 30) 140 #[.pointer (some ⟨bd,0,none⟩),.int .u64 (n:Int)] (zbO bd n u (by omega)) kr kr (fun w' hb HS=>?_) ?_
   ·exact ⟨rfl,zgL false ht h0 (by omega) (by simp;omega) hc hb,HS.sub (List.sublist_cons_self ..)⟩
   rintro _ _ _ w9 ⟨hnu,rfl,rfl,rfl⟩ H11;have hzn:(u.extract 0 n).size=n:=by rw [xB u 0 n hnu (by omega)];omega
   refine xD _<|rp [.v] H11 kr fun gs7 w10 H12=>wX []<|zc<|wW<|zb kr<|rS [.v,.c (zbB (u.extract 0 n))] H12 kr fun gs8 w11 H13=>?_;rcases Bool.eq_false_or_eq_true (zT (u.extract 0 n)) with hs2 | hs2
   ·refine qg 32 (v:=.bool (zT (u.extract 0 n))) (v':=.bool true) (za hs2) kr<|zi kr kr<|zbM [0,1] kr<|xf [0] (l2:=[1]) rfl<|rp [.v] H13 kr fun gs9 w12 H14=>wX []<|zc<|zbL none (.iface 33 (.int .i64 4)) kr ?_;have H15:St B w0 w12 ((bd,dc (u.extract n u.size))::(b1,.cells #[.bool false,.string ⟨#[]⟩,.slice none 0 0] 44 (0,0))::L):=H14.as kr;exact ⟨rfl,zmx ht h0 (by omega) h192 hc hs2,H15.sub (List.Sublist.cons _ (List.sublist_cons_self ..))⟩
   ·refine qg 32 (v:=.bool (zT (u.extract 0 n))) (v':=.bool false) (za hs2) kr<|zl kr kr<|zp kr<|wW<|rS [.v,.c (zgG (u.extract 0 n) (by omega)),.s 1] H13 kr fun gs9 w12 H14=>?_;have H15:St B w0 w12 ((bd,dc (u.extract n u.size))::(b1,.cells #[.bool false,.string (u.extract 0 n),.slice none 0 0] 44 (0,0))::L):=H14.as kr;refine zn kr<|wV ?_;exact ⟨[.agg #[.bool false,.string (u.extract 0 n),.slice none 0 0]],(.agg (b:=b1) (#[.bool false,.string (u.extract 0 n),.slice none 0 0]) 44 (0,0) kr (H15.get 1 kr) kr .nil),_,[],⟨_,_,_,_,_,_,rfl,zmv h0 (by omega) h192 hc hnu hs2,SlC.none _,by omega⟩,H15.sub (List.Sublist.cons_cons _ (List.Sublist.cons _ (List.Sublist.refl _)))⟩
  ·refine rS [.v,.o (ins:=[((.tmp 21),.string (t.extract 0 1)),((.const (.int .i64 0)),.int .i64 0)]) (v:=.int .u8 ((by_ (t.extract 0 1) 0:Nat):Int)) (fun ρ o w ho hi=>qV (t:=9) (kd:=.i64) kr (x:=(.tmp 21)) (y:=(.const (.int .i64 0))) (t.extract 0 1) 0 ho hi.1 hi.2.1 (by omega) w),.E (.bool (decide (((by_ (t.extract 0 1) 0:Nat):Int)<192))) (.bool false) (za (decide_eq_false (by omega))),.v] H6 kr fun gs5 w6 H7=>zl kr kr<|zbN [0,1,2,3,4,5,6,7,8] kr kr<|xf [0,1,2,3,4] (l2:=[5,6,7,8]) rfl<|rp [.v,.v,.v,.o (ins:=[((.tmp 9),.string (t.extract 0 1)),((.const (.int .i64 0)),.int .i64 0)]) (v:=.int .u8 ((by_ (t.extract 0 1) 0:Nat):Int)) (fun ρ o w ho hi=>qV (t:=9) (kd:=.i64) kr (x:=(.tmp 9)) (y:=(.const (.int .i64 0))) (t.extract 0 1) 0 ho hi.1 hi.2.1 (by omega) w),.E (.int .u8 (IntKind.u8.wrap (((by_ (t.extract 0 1) 0:Nat):Int)-192))) (.int .u8 ((by_ t 0-192:Nat):Int)) (zk (by rw [show ((by_ (t.extract 0 1) 0:Nat):Int)-192=((by_ t 0-192:Nat):Int) by omega];exact zdL (by omega)))] H7 kr fun gs6 w7 H8=>wX []<|zc ?_;have H9:St B w0 w7 ((bd,dc (t.extract 1 t.size))::(b1,.cells #[.bool false,.string ⟨#[]⟩,.slice none 0 0] 44 (0,0))::L):=H8.as kr;refine vb H9 (List.Perm.refl _) (some 12) 142 #[.pointer (some ⟨bd,0,none⟩),.int .u8 ((by_ t 0-192:Nat):Int)] (zgR bd (by_ t 0-192) (t.extract 1 t.size) (by omega) (by omega)) kr kr (fun w' hb HS=>?_) ?_
   ·exact ⟨rfl,zgK true ht h0 (by omega) (by simp;omega) hb,HS.sub (List.sublist_cons_self ..)⟩
   rintro _ u _ w8 ⟨n,hc,rfl,rfl⟩ H10;have hu:=(zdJ hc (by omega) 0).2.2;refine vb (L:=(b1,.cells #[.bool false,.string ⟨#[]⟩,.slice none 0 0] 44 (0,0))::L) H10 (List.Perm.refl _) (some 13) 140 #[.pointer (some ⟨bd,0,none⟩),.int .u64 (n:Int)] (zbO bd n u (by omega)) kr kr (fun w' hb HS=>?_) ?_
   ·exact ⟨rfl,zgL true ht h0 (by omega) (by simp;omega) hc hb,HS.sub (List.sublist_cons_self ..)⟩
   rintro _ _ _ w9 ⟨hnu,rfl,rfl,rfl⟩ H11;have hzn:(u.extract 0 n).size=n:=by rw [xB u 0 n hnu (by omega)];omega
   have H12:St B w0 w9 ((bd,dc (u.extract n u.size))::(b1,.cells #[.bool false,.string ⟨#[]⟩,.slice none 0 0] 44 (0,0))::L):=H11.as kr;refine zmC H12 (some 14) 143 #[.string (u.extract 0 n)] (hl (u.extract 0 n) (by omega)) kr kr (fun w' hb HS=>?_) ?_
   ·exact ⟨rfl,zmy ht h0 (by omega) hc hb,HS.sub (List.Sublist.cons _ (List.sublist_cons_self ..))⟩
   rintro _ T w10 ⟨p,n3,c3,k,rfl,hk,hpk,hsl⟩ H13
   have H14:St B w0 w10 ((b1,.cells #[.bool false,.string ⟨#[]⟩,.slice none 0 0] 44 (0,0))::(bd,dc (u.extract n u.size))::(T++L)):=H13.perm (by
    refine (List.Perm.swap _ _ _).trans<|List.Perm.symm<|(List.perm_middle).trans (List.Perm.cons _ ?_)
    exact List.perm_middle)
   refine xD _<|rp [.s 0] H14 kr fun gs7 w11 H15=>wX []<|zc<|wW ?_;have H16:St B w0 w11 ((b1,.cells #[.bool true,.string ⟨#[]⟩,.slice p n3 c3] 44 (0,0))::(bd,dc (u.extract n u.size))::(T++L)):=H15.as kr;refine zn kr<|wV ?_;exact ⟨[.agg #[.bool true,.string ⟨#[]⟩,.slice p n3 c3]],(.agg (b:=b1) (#[.bool true,.string ⟨#[]⟩,.slice p n3 c3]) 44 (0,0) kr (H16.get 0 kr) kr .nil),_,T,⟨_,_,_,_,_,_,rfl,zmw h0 (by omega) hc hnu hpk hk,hsl,Nat.zero_le _⟩,H16.sub (List.sublist_cons_self ..)⟩
end Go.Proofs.YtpghmdbjmigjlaaGreatDoor
namespace Go.Proofs.YtpghmdbjmigjlaaGreatDoor.D2
open Go Go.RowKit
set_option linter.unusedVariables false
def zbP (P:Program)(Bad:List PanicEntry→World→Prop)(S:Value→World→Prop):Result Next→Prop
 | .ok (.value v) w'=>S v w'
 | .ok .skip w'=>S undef w'
 | .ok (.enter f args) w'=>Calls P f args w' fun e w''=>(∃v,e=.returned v∧S v w'')∨(∃ch,e=.panicked ch∧Bad ch w'')
 | _=>False
theorem zbP.of {P:Program}{Bad:List PanicEntry→World→Prop}{S:Value→World→Prop}{r:Result Next}(h:Runs P S r):zbP P Bad S r:=by
 cases r with
 | halt a w=>exact h
 | ok n w=>
  cases n with
  | enter f args=>exact Calls.mono (h:Calls P f args w _) fun e w'' q=>.inl q
  | _=>exact h
def zbQ (P:Program)(Bad:List PanicEntry→World→Prop)(ops:Array Oper)(R:(Nat→Gh)→Env)(pre:(Nat→Bool)→(Nat→Gh)→World→Prop)(i:Nat)(d:Option Nat)(f:Gh→Value):Prop:=
 ∀L g w,pre L g w→L i=false→(∀o,ops[i]? =some o→ ∀e∈o.after,Region.binds .any e=true→L e.on=true)→Closed ops L→∃o,ops[i]? =some o∧o.dst=d∧
  ((Region.wanted o (zC ops (R g))=false∧f (g i)=undef∧pre (put1 L i) g w)∨(Region.wanted o (zC ops (R g))=true∧zbP P Bad (fun v w'=> ∃b,v=f b∧pre (put1 L i) (setN g i b) w') ((execOp (ev (R g)) o).run P w)))
def kh (P:Program)(Bad:List PanicEntry→World→Prop)(ops:Array Oper)(R:Nat→(Nat→Gh)→Env)(pre:(Nat→Bool)→(Nat→Gh)→World→Prop):List (Option Nat×(Gh→Value))→Nat→Prop
 | [],_=>True
 | (d,f)::r,i=>zbQ P Bad ops (R i) pre i d f∧kh P Bad ops R pre r (i+1)
theorem kh.get {P:Program}{Bad:List PanicEntry→World→Prop}{ops:Array Oper}{R:Nat→(Nat→Gh)→Env}{pre:(Nat→Bool)→(Nat→Gh)→World→Prop} : ∀ {l:List (Option Nat×(Gh→Value))} {k:Nat},kh P Bad ops R pre l k→ ∀ {i:Nat} {d:Option Nat} {f:Gh→Value},l[i]? =some (d,f)→zbQ P Bad ops (R (k+i)) pre (k+i) d f
 | [],_,_,_,_,_,h=>by simp at h
 | (d,V)::r,k,⟨h,hr⟩,0,_,_,hi=>by simp at hi;obtain ⟨rfl,rfl⟩:=hi;exact h
 | (d,V)::r,k,⟨h,hr⟩,i+1,_,_,hi=>by
  have:=hr.get (i:=i) (by simpa using hi)
  rwa [show k+1+i=k+(i+1) by omega] at this
section
variable {P:Program}{N:Nat}{ops:Array Oper}{Q:Exit→Env→World→Prop}{K:Env→World→Prop}{ρ:Env}{w:World}{vs:List (Option Nat×(Gh→Value))}{pre:(Nat→Bool)→(Nat→Gh)→World→Prop}{Bad:List PanicEntry→World→Prop}
theorem zmF (hok:drawOK ops (vs.map (·.1)) N=true)(hg:kh P Bad ops (fun i=>fin_ (vs.take i) ρ) pre vs 0){i:Nat}{L:Array Bool}(hi:i∈Region.ready .any ops L)
 {a:Act} {ρ':Env} {g:Nat→Gh} (ha:Rep a ρ' N) (hm:Mid ρ vs g (ran L) ρ') (hL:L.size=ops.size) (hcl:Closed ops (ran L)) (hp:pre (ran L) g w)
 {QQ:Exit→Act→World→Prop} {KK:Act→World→Prop} (hQ: ∀ch a' ρ'' w',Rep a' ρ'' N→Bad ch w'→QQ (.panic ch) a' w') (hK: ∀a' ρ'' g' w',Rep a' ρ'' N→Mid ρ vs g' (put1 (ran L) i) ρ''→Closed ops (put1 (ran L) i)→pre (put1 (ran L) i) g' w'→KK a' w'):
 wpOp P ops QQ i KK a w:=by
 simp only [drawOK,Bool.and_eq_true,List.all_eq_true,beq_iff_eq] at hok;obtain ⟨⟨⟨hsz,hnd⟩,hN⟩,hops⟩:=hok;obtain ⟨hun,o,ho,hready⟩:=mem_ready.1 hi;have hilt:i<ops.size:=(Array.getElem?_eq_some_iff.1 ho).1
 have hoi:opOK ops (vs.map (·.1)) i o=true:=hops (o,i) (by
  rw [List.mem_iff_getElem?];refine ⟨i,?_⟩;rw [List.getElem?_zipIdx]
  simp [ho])
 simp only [opOK,Bool.and_eq_true] at hoi;obtain ⟨⟨⟨⟨hdst,hsel⟩,hback⟩,hreads⟩,hguard⟩:=hoi;have hivs:i<vs.length:=by rw [List.length_map] at hsz;omega
 obtain ⟨⟨d,f⟩,hv⟩:∃p,vs[i]? =some p:=⟨_,List.getElem?_eq_getElem hivs⟩
 have hd:o.dst=d:=by
  have:=eq_of_beq hdst
  simpa [hv] using this
 have hdN: ∀k,d=some k→k<N:=zM (hN d (List.mem_map.2 ⟨(d,f),List.mem_of_getElem? hv,rfl⟩));have hunL:ran L i=false:=by
  have hlt:i<L.size:=by omega
  unfold ran;simpa [hlt] using hun
 have hcl':Closed ops (put1 (ran L) i):=by
  intro j oj hj hoj e he hb;rcases put1_or hj with rfl | hj
  ·rw [ho] at hoj;obtain rfl:=Option.some.inj hoj;exact put1_of (hready e he hb)
  ·exact put1_of (hcl j oj hj hoj e he hb)
 have hnd':nodupO ((vs.take i).map (·.1))=true:=by rw [List.map_take];exact zaQ hnd i
 have lookB: ∀t j,j<i→ran L j=true→(vs.map (·.1))[j]? =some (some t)→ρ' t=fin_ (vs.take i) ρ g t:=by
  intro t j hji hLj hdt;rw [List.getElem?_map] at hdt;cases hve:vs[j]? with
  | none=>rw [hve] at hdt;cases hdt
  | some p=>
   obtain ⟨d1,f1⟩:=p;rw [hve] at hdt;simp at hdt;subst hdt;have hvt:(vs.take i)[j]? =some (some t,f1):=by rw [List.getElem?_take,if_pos hji,hve]
   rw [fin_in hnd' hvt];exact (hm t).1 j f1 hLj hve
 have lookA: ∀t,(∀j:Nat,(vs.map (·.1))[j]? =some (some t)→ran L j=false)→(∀j:Nat,j<i→(vs.map (·.1))[j]? ≠some (some t))→ρ' t=fin_ (vs.take i) ρ g t:=by
  intro t hno hnb;have hnot:some t∉(vs.take i).map (·.1):=fun hmem=>by
   obtain ⟨j,hj⟩:=List.mem_iff_getElem?.1 hmem;rw [List.map_take,List.getElem?_take] at hj;split at hj
   ·rename_i hji;exact hnb j hji hj
   ·cases hj
  rw [fin_out hnot];exact (hm t).2 fun j hj heq=>by rw [hno j heq] at hj;cases hj
 have hbk: ∀e∈o.after.toList,Region.binds .any e=true→e.on<i:=fun e he hb=>by
  have:=List.all_eq_true.1 hback e he;rw [hb] at this;simp only [Bool.not_true,Bool.false_or] at this;exact Nat.le_of_ble_eq_true this
 have hops': ∀x∈o.op.operands,ev ρ' x=ev (fin_ (vs.take i) ρ g) x:=by
  intro x hx;cases x with
  | tmp t=>
   have hmem:t∈opTmps o:=List.mem_filterMap.2 ⟨.tmp t,by simpa using hx,rfl⟩;have:=List.all_eq_true.1 hreads t hmem;simp only [Bool.or_eq_true,Bool.not_eq_true'] at this;rcases this with (hc | hb) | hlater
   ·have hnot: ∀j:Nat,(vs.map (·.1))[j]? ≠some (some t):=fun j hj=>by
     have h1:some t∈vs.map (·.1):=List.mem_of_getElem? hj;rw [←Bool.not_eq_true,List.contains_iff_mem] at hc;exact hc h1
    exact lookA t (fun j hj=>absurd hj (hnot j)) (fun j _=>hnot j)
   ·simp only [List.any_eq_true,Bool.and_eq_true,beq_iff_eq] at hb;obtain ⟨e,he,hbi,hdt⟩:=hb;exact lookB t e.on (hbk e he hbi) (hready e (by simpa using he) hbi) hdt
   ·have hl: ∀(j:Nat) oj,ops[j]? =some oj→(vs.map (·.1))[j]? =some (some t)→ ¬j<i∧∃e∈oj.after.toList,Region.binds .any e=true∧e.on=i:=fun j oj hoj hdj=>by
     have h1:=List.all_eq_true.1 hlater (oj,j) (by
      rw [List.mem_iff_getElem?];refine ⟨j,?_⟩;rw [List.getElem?_zipIdx]
      simp [hoj])
     simp only [hdj,beq_self_eq_true,Bool.not_true,Bool.false_or,Bool.and_eq_true,List.any_eq_true,Bool.not_eq_true'] at h1;obtain ⟨h2,e,he,hb,hon⟩:=h1;refine ⟨fun hlt=>?_,e,he,hb,Nat.eq_of_beq_eq_true hon⟩;have h3:Nat.blt j i=true:=Nat.ble_eq_true_of_le hlt;rw [h3] at h2;cases h2
    have hsome: ∀j:Nat,(vs.map (·.1))[j]? =some (some t)→∃oj,ops[j]? =some oj:=fun j hj=>by
     have h1:j<(vs.map (·.1)).length:=(List.getElem?_eq_some_iff.1 hj).1;exact ⟨_,Array.getElem?_eq_getElem (by omega)⟩
    refine lookA t (fun j hj=>?_) (fun j hji hj=>?_)
    ·obtain ⟨oj,hoj⟩:=hsome j hj;obtain ⟨_,e,he,hb,hon⟩:=hl j oj hoj hj;cases hLj:ran L j with
     | false=>rfl
     | true=>
      have:=hcl j oj hLj hoj e (by simpa using he) hb;rw [hon,hunL] at this;cases this
    ·obtain ⟨oj,hoj⟩:=hsome j hj;exact (hl j oj hoj hj).1 hji
  | _=>rfl
 have hexec:execOp (ev ρ') o=execOp (ev (fin_ (vs.take i) ρ g)) o:=execOp_congr o (fun cs b he=>by simp [notSelect,he] at hsel) hops';have hwant:Region.wanted o (zC ops ρ')=Region.wanted o (zC ops (fin_ (vs.take i) ρ g)):=by
  unfold Region.wanted;cases hgd:o.guard with
  | none=>rfl
  | some gd=>
   obtain ⟨j,b⟩:=gd;have:zC ops ρ' j=zC ops (fin_ (vs.take i) ρ g) j:=by
    unfold zC;cases hj:(ops[j]?).bind (·.dst) with
    | none=>rfl
    | some t=>
     simp only [hgd,List.any_eq_true,Bool.and_eq_true,beq_iff_eq] at hguard;obtain ⟨e,he,hb,hon⟩:=hguard;have hjds:(vs.map (·.1))[j]? =some (some t):=by
      cases hoj:ops[j]? with
      | none=>simp [hoj] at hj
      | some oj=>
       have hjj:opOK ops (vs.map (·.1)) j oj=true:=hops (oj,j) (by
        rw [List.mem_iff_getElem?];refine ⟨j,?_⟩;rw [List.getElem?_zipIdx]
        simp [hoj])
       simp only [opOK,Bool.and_eq_true,beq_iff_eq] at hjj;have:=hjj.1.1.1.1;simp [hoj] at hj;rw [←this,hj]
     have hlk:=lookB t j (hon▸hbk e he hb) (hon▸hready e (by simpa using he) hb) hjds;simp only [hlk]
   simp only [this]
 have hmid: ∀b,Mid ρ vs (setN g i b) (put1 (ran L) i) (zm ρ' d (f b)):=by
  intro b t;have hds:(vs.map (·.1))[i]? =some d:=by simp [hv]
  by_cases htd:d=some t
  ·subst htd;have e:zm ρ' (some t) (f b) t=f b:=by
    show (bif Nat.beq t t then f b else _)=f b;rw [Nat.beq_refl];rfl
   refine ⟨fun j f1 hj hvj=>?_,fun hn=>absurd hds (hn i (put1_self _ _))⟩;have hji:j=i:=nodupO_inj hnd (by rw [List.getElem?_map,hvj];rfl) hds;subst hji;rw [hv] at hvj;obtain rfl:f1=f:=by simpa using hvj.symm
   rw [e];unfold setN;rw [Nat.beq_refl];rfl
  ·have e:zm ρ' d (f b) t=ρ' t:=by
    cases d with
    | none=>rfl
    | some k=>
     have hne:Nat.beq t k=false:=by
      cases hb:Nat.beq t k with
      | false=>rfl
      | true=>exact absurd (by rw [Nat.eq_of_beq_eq_true hb]) htd
     show (bif Nat.beq t k then f b else ρ' t)=ρ' t;rw [hne];rfl
   rw [e];refine ⟨fun j f1 hj hvj=>?_,fun hn=>(hm t).2 fun j hj=>hn j (put1_of hj)⟩;have hji:j≠i:=by
    rintro rfl;rw [hv] at hvj;have:d=some t:=by simpa using congrArg (Option.map (·.1)) hvj
    exact htd this
   have hLj:ran L j=true:=(put1_or hj).resolve_left hji;have hN':setN g i b j=g j:=by
    unfold setN;cases hb:Nat.beq j i with
    | false=>rfl
    | true=>exact absurd (Nat.eq_of_beq_eq_true hb) hji
   rw [hN'];exact (hm t).1 j f1 hLj hvj
 have hgi:=kh.get hg hv;rw [Nat.zero_add] at hgi
 obtain ⟨o',ho',hd',hrun⟩:=hgi (ran L) g w hp hunL (fun o1 ho1 e he hb=>by
  rw [ho] at ho1;obtain rfl:=Option.some.inj ho1;exact hready e he hb) hcl
 have:o'=o:=by rw [ho] at ho';exact (Option.some.inj ho').symm
 subst this;have hput: ∀v,Rep (a.put o'.dst v) (zm ρ' d v) N:=fun v=>by
  have:=ha.put o'.dst (fun k hk=>hdN k (by rw [←hd,hk])) v
  rwa [hd] at this ⊢
 unfold wpOp;simp only [ho,jg ha,hwant];rcases hrun with ⟨hwf,hV,hp'⟩ | ⟨hwt,hR⟩
 ·simp only [hwf,Bool.false_eq_true,if_false];refine hK _ _ g _ (hput undef) ?_ hcl' hp';have:=hmid (g i)
  rwa [setN_self,hV] at this
 ·simp only [hwt,if_true];refine .inl ?_;unfold Oper.wp;rw [ha.eval,hexec];generalize (execOp (ev (fin_ (vs.take i) ρ g)) o').run P w=r at hR;cases r with
  | halt h w'=>exact hR.elim
  | ok n w'=>
   cases n with
   | value v=>obtain ⟨b,rfl,hb⟩:=hR;exact hK _ _ _ _ (hput _) (hmid b) hcl' hb
   | skip=>obtain ⟨b,hu,hb⟩:=hR;exact hK _ _ _ _ (by have:=hput undef;rwa [hu] at this ⊢) (hmid b) hcl' hb
   | enter f' args=>
    refine Calls.mono hR fun e w'' he=>?_;rcases he with ⟨v,rfl,b,rfl,hb⟩ | ⟨ch,rfl,hb⟩
    ·exact hK _ _ _ _ (hput _) (hmid b) hcl' hb
    ·exact hQ ch _ _ _ ha hb
   | _=>exact hR.elim
theorem zmG (hB: ∀ch ρ w,Bad ch w→Q (.panic ch) ρ w)(hok:drawOK ops (vs.map (·.1)) N=true)(hg:kh P Bad ops (fun i=>fin_ (vs.take i) ρ) pre vs 0)
 (hfin: ∀L g w',(∀i,i<ops.size→L i=true)→pre L g w'→Q .normal (fin_ vs ρ g) w'):
 ∀(fuel:Nat) (L:Array Bool),L.size=ops.size→(L.toList.countP (! ·))≤fuel→ ∀(a:Act) (ρ':Env) (g:Nat→Gh) (w:World),Rep a ρ' N→Mid ρ vs g (ran L) ρ'→Closed ops (ran L)→pre (ran L) g w→
  wpAny P .any ops (lift N Q) fuel L a w:=by
 have hdone: ∀(L:Array Bool),L.size=ops.size→Region.ready .any ops L=[]→ ∀(a:Act) (ρ':Env) (g:Nat→Gh) (w:World),Rep a ρ' N→Mid ρ vs g (ran L) ρ'→pre (ran L) g w→lift N Q .normal a w:=by
  intro L hL hr a ρ' g w ha hm hp;have hok':=hok;simp only [drawOK,Bool.and_eq_true,List.all_eq_true,beq_iff_eq] at hok';obtain ⟨⟨⟨hsz,hnd⟩,hN⟩,hops⟩:=hok';have hall: ∀i,i<ops.size→ran L i=true:=by
   intro i
   induction i using Nat.strongRecOn with
   | _ i ih=>
    intro hi;cases hb:ran L i with
    | true=>rfl
    | false=>
     have hmem:i∈Region.ready .any ops L:=by
      refine mem_ready.2 ⟨?_,ops[i],Array.getElem?_eq_getElem hi,fun e he hbd=>?_⟩
      ·have hlt:i<L.size:=by omega
       unfold ran at hb;simp [hlt] at hb ⊢;exact hb
      ·have hoi:opOK ops (vs.map (·.1)) i ops[i]=true:=hops (ops[i],i) (by
        rw [List.mem_iff_getElem?];refine ⟨i,?_⟩;rw [List.getElem?_zipIdx]
        simp [hi])
       simp only [opOK,Bool.and_eq_true] at hoi;have:=List.all_eq_true.1 hoi.1.1.2 e (by simpa using he);rw [hbd] at this;have hlt:e.on<i:=Nat.le_of_ble_eq_true this;exact ih e.on hlt (by omega)
     rw [hr] at hmem;cases hmem
  have heq:ρ'=fin_ vs ρ g:=by
   funext t;by_cases ht:some t∈vs.map (·.1)
   ·obtain ⟨i,hi,hit⟩:=List.getElem_of_mem ht;have hi':i<vs.length:=by simpa using hi
    obtain ⟨⟨d,f⟩,hv⟩:∃p,vs[i]? =some p:=⟨_,List.getElem?_eq_getElem hi'⟩
    have hd:d=some t:=by
     rw [List.getElem_map] at hit;rw [List.getElem?_eq_getElem hi'] at hv;rw [Option.some.inj hv] at hit;exact hit
    subst hd;rw [fin_in hnd hv];exact (hm t).1 i f (hall i (by rw [hsz];exact hi)) hv
   ·rw [fin_out ht];exact (hm t).2 fun j hj heq=>ht (List.mem_of_getElem? heq)
  exact ⟨_,ha,heq▸hfin (ran L) g w hall hp⟩
 intro fuel
 induction fuel with
 | zero=>
  intro L hL hc a ρ' g w ha hm hcl hp;have hr:Region.ready .any ops L=[]:=by
   cases hr:Region.ready .any ops L with
   | nil=>rfl
   | cons i r=>
    have hi:i∈Region.ready .any ops L:=by rw [hr];exact List.mem_cons_self
    obtain ⟨hun,o,ho,_⟩:=mem_ready.1 hi;have hlt:i<L.size:=by rw [hL];exact (Array.getElem?_eq_some_iff.1 ho).1
    have:L.toList.countP (! ·)=0:=by omega
    rw [List.countP_eq_zero] at this;have h1:=this L[i] (by simp);simp [hlt] at hun h1;rw [hun] at h1;cases h1
  exact ⟨hr,hdone L hL hr a ρ' g w ha hm hp⟩
 | succ fuel ih=>
  intro L hL hc a ρ' g w ha hm hcl hp;refine ⟨fun hr=>hdone L hL hr a ρ' g w ha hm hp,fun i hi=>?_⟩;obtain ⟨hun,o,ho,_⟩:=mem_ready.1 hi;have hlt:i<L.size:=by rw [hL];exact (Array.getElem?_eq_some_iff.1 ho).1
  refine zmF hok hg hi ha hm hL hcl hp (fun ch a' ρ'' w' ha' hb=>⟨ρ'',ha',hB ch ρ'' w' hb⟩) fun a' ρ'' g' w' ha' hm' hcl' hp'=>ih (L.setIfInBounds i true) (by simpa using hL) ?_ a' ρ'' g' w' ha' (by rw [ran_set hlt];exact hm') (by rw [ran_set hlt];exact hcl') (by rw [ran_set hlt];exact hp');have hf:L[i]=false:=by simpa [hlt] using hun
  have hc2:(L.setIfInBounds i true).toList.countP (! ·)+1=L.toList.countP (! ·):=by
   rw [Array.toList_setIfInBounds];have hl:i<L.toList.length:=by simpa using hlt
   have hfl:L.toList[i]=false:=by simpa using hf
   have hpos:0<L.toList.countP (! ·):=List.countP_pos_iff.2 ⟨_,List.getElem_mem hl,by rw [hfl];rfl⟩;have hset:=List.countP_set (p:=fun b:Bool=> !b) (l:=L.toList) (i:=i) (a:=true) hl;rw [hfl] at hset;simp only [Bool.not_true,Bool.false_eq_true,if_false,Bool.not_false,if_true] at hset;omega
  omega
theorem WP.drawX {id:Nat}(hB: ∀ch ρ w,Bad ch w→Q (.panic ch) ρ w)(hm:P.follows .mixedOrders=true)(hok:drawOK ops (vs.map (·.1)) N=true)(hp:pre (fun _=>false) (fun _=>default) w.drew)(hg:kh P Bad ops (fun i=>fin_ (vs.take i) ρ) pre vs 0)
 (hfin: ∀L g w',(∀i,i<ops.size→L i=true)→pre L g w'→Q .normal (fin_ vs ρ g) w'):WP P N (.region id ops true) Q ρ w:=fun a ha=>
 have hno:ran (Array.replicate ops.size false)=fun _=>false:=funext fun i=>by
  show (Array.replicate ops.size false).getD i false=false;simp only [Array.getD_eq_getD_getElem?,Array.getElem?_replicate];split<;>rfl
 wp_region_any hm (zmG hB hok hg hfin ops.size _ (by simp) (by have:= @List.countP_le_length Bool (! ·) (List.replicate ops.size false);simpa using this) a ρ (fun _=>default) _ ha
  (fun t=>⟨fun i f hi _=>(by rw [hno] at hi;cases hi),fun _=>rfl⟩) (fun j o hj=>(by rw [hno] at hj;cases hj)) (by rw [hno];exact hp))
theorem g_draw0X {c:Code}(hB: ∀ch ρ w,Bad ch w→Q (.panic ch) ρ w)(l:List Nat)(vs:List (Option Nat×(Gh→Value)))(pre:(Nat→Bool)→(Nat→Gh)→World→Prop)(hc:qM c=some (l,true))(hm:P.follows .mixedOrders=true)(hok:drawOK (zg c) (vs.map (·.1)) N=true)(hp:pre (fun _=>false) (fun _=>default) w.drew)
 (hg:kh P Bad (zg c) (fun i=>fin_ (vs.take i) ρ) pre vs 0) (hfin: ∀L g w',(∀i,i<(zg c).size→L i=true)→pre L g w'→Q .normal (fin_ vs ρ g) w'):WP P N c Q ρ w:=by
 obtain ⟨id,he,hl⟩:=xR hc;rw [he];exact WP.drawX hB hm hok hp hg hfin
end
theorem zbQ.of {P:Program}{Bad:List PanicEntry→World→Prop}{ops:Array Oper}{R:(Nat→Gh)→Env}{pre:(Nat→Bool)→(Nat→Gh)→World→Prop}{i:Nat}{d:Option Nat}{f:Gh→Value}(h:Gives P ops R pre i d f):zbQ P Bad ops R pre i d f:=fun L g w h1 h2 h3 h4=>by
 obtain ⟨o,ho,hd,q⟩:=h L g w h1 h2 h3 h4;exact ⟨o,ho,hd,q.imp id fun ⟨a,b⟩=>⟨a,zbP.of b⟩⟩
end Go.Proofs.YtpghmdbjmigjlaaGreatDoor.D2
namespace Go.Proofs.YtpghmdbjmigjlaaGreatDoor
open Go Go.RowKit
set_option linter.unusedVariables false
abbrev xc (x:X3):Array Value:=#[.bool x.l,.string x.s,.slice x.p x.n x.c]
theorem zgU (x:X3):(xc x).toList=cells3 [x]:=rfl
section
variable {P:Program}{ρ:Env}{w w0:World}{B:Nat}{l:List (Nat×Obj)}
theorem zmH (HS:St B w0 w l){t e bytes:Nat}{s x:Operand}{o:Oper}{j k b bx n cap c:Nat}{cur:Array Value}{L:List X3}{y:X3}(ht:yd P t=some (e,3,bytes))(ho:o.op=yq t s x)
 (hs:ev ρ s=.slice (some ⟨b,0,none⟩) n cap) (hj:l[j]? =some (b,.cells cur e (0,0))) (hr:Rw 3 cur cap n (cells3 L)) (hx:ev ρ x=.slice (some ⟨bx,0,none⟩) 1 c) (hk:l[k]? =some (bx,.cells (xc y) e (0,0)))
 (hb:(n+1)*bytes≤0x800000000000) (hm:n+1≤maxLen):∃b' cap' cur' w',(execOp (ev ρ) o).run P w=.ok (.value (.slice (some ⟨b',0,none⟩) (n+1) cap')) w'∧St B w0 w' (l.set j (b',.cells cur' e (0,0)))∧Rw 3 cur' cap' (n+1) (cells3 (L++ [y])):=by
 obtain ⟨it,z,hu,hi,hz,hsz,hby,hzs,h0⟩:=yW ht;have hnews: ∀q u,(cells3 [y])[q]? =some u→w.cell? ((⟨bx,0,none⟩:Addr).add q)=some u:=fun q u hq=>by
  rw [←zgU,Array.getElem?_toList] at hq;rw [qn,Nat.zero_add];simp [World.cell?,HS.get k hk,hq]
 obtain ⟨v',w',hrun,hown,hgr,hnil,hblk⟩:=run_append_own_at (P:=P) w B t o.type e it z 3 bytes hu hi hz hsz hby hzs h0 _ n (cells3 L) (hr.owns (HS.ge j hj) (HS.get j hj)) ⟨bx,0,none⟩ 1 c (cells3 [y]) (jY [y]) hnews (zbD [y]) hm hb HS.le;have hown':=hown;rcases hown'.2 with ⟨hv,_⟩|⟨g,cap',cur',rfl,hbg,hg,hnc,hcm,hcs,htk⟩
 ·exact absurd (hnil.1 hv).1 (by simp)
 ·have hgb:g=b∨g=w.heap.size:=by
   rcases hblk with hq|hq
   ·left;injection hq
   ·right;injection hq
  refine ⟨g,cap',cur',w',?_,HS.grown j hj hgr hgb hg,?_⟩
  ·unfold execOp;simp only [ho,yq,resolve,invoke,builtin,Sem.run_bind,Sem.run_pure,Result.andThen_ok,List.map_toArray,List.map_cons,List.map_nil,hs,hx,hrun]
  ·rw [zdC];exact ⟨hown.1,hnc,hcm,htk,hcs⟩
theorem zmI (HS:St B w0 w l){t e bytes:Nat}{s x:Operand}{o:Oper}{k bx c:Nat}{y:X3}(ht:yd P t=some (e,3,bytes))(ho:o.op=yq t s x)
 (hs:ev ρ s=.slice none 0 0) (hx:ev ρ x=.slice (some ⟨bx,0,none⟩) 1 c) (hk:l[k]? =some (bx,.cells (xc y) e (0,0)))
 (hb:(0+1)*bytes≤0x800000000000):∃b' cap' cur' w',(execOp (ev ρ) o).run P w=.ok (.value (.slice (some ⟨b',0,none⟩) 1 cap')) w'∧St B w0 w' ((b',.cells cur' e (0,0))::l)∧Rw 3 cur' cap' 1 (cells3 [y]):=by
 obtain ⟨it,z,hu,hi,hz,hsz,hby,hzs,h0⟩:=yW ht;have hnews: ∀q u,(cells3 [y])[q]? =some u→w.cell? ((⟨bx,0,none⟩:Addr).add q)=some u:=fun q u hq=>by
  rw [←zgU,Array.getElem?_toList] at hq;rw [qn,Nat.zero_add];simp [World.cell?,HS.get k hk,hq]
 obtain ⟨v',w',hrun,hown,hgr,hnil,hblk⟩:=run_append_own_at (P:=P) w B t o.type e it z 3 bytes hu hi hz hsz hby hzs h0 (.slice none 0 0) 0 [] (World.ownsRow_nil w B e 3) ⟨bx,0,none⟩ 1 c (cells3 [y]) (jY [y]) hnews (zbD [y]) (by unfold maxLen;omega) hb HS.le;have hown':=hown;rcases hown'.2 with ⟨hv,_⟩|⟨g,cap',cur',rfl,hbg,hg,hnc,hcm,hcs,htk⟩
 ·exact absurd (hnil.1 hv).2 (by simp)
 ·have hgb:g=w.heap.size:=by
   rcases hblk with hq|hq
   ·simp [Value.ownBlock] at hq
   ·injection hq
  have hbel:Below w.heap.size w w':=(Below.refl _ w).grown hgr (Nat.le_refl _) (fun k hk=>by simp [Value.ownBlock] at hk);have HS':=HS.add hbel (by omega) hg;rw [Nat.zero_add] at hnc htk;refine ⟨g,cap',cur',w',?_,HS',⟨by rw [jY];rfl,hnc,hcm,htk,hcs⟩⟩;unfold execOp;simp only [ho,yq,resolve,invoke,builtin,Sem.run_bind,Sem.run_pure,Result.andThen_ok,List.map_toArray,List.map_cons,List.map_nil,hs,hx,hrun]
end
abbrev xo (v:Value):Obj:=.cells #[.bool true,.string ⟨#[]⟩,v] 44 (0,0)
abbrev r0:Obj:=.cells #[.bool false,.string ⟨#[]⟩,.slice none 0 0] 44 (0,0)
def okX (t u:ByteArray)(x:X3)(T:List (Nat×Obj)):Prop:=yr t x.l x.s x.k u∧SlC T x.p x.n x.c x.k∧x.s.size≤t.size
def RowSt (p:Option Addr)(n c:Nat)(row:List (Nat×Obj))(L:List X3):Prop:=(p=none∧n=0∧c=0∧row=[]∧L=[])∨∃b cur,p=some ⟨b,0,none⟩∧row=[(b,.cells cur 44 (0,0))]∧Rw 3 cur c n (cells3 L)
def qp (B:Nat)(w0:World)(t:ByteArray)(b2 b3 b4:Nat)(p:Option Addr)(n c:Nat)(row:List (Nat×Obj))(M:List X3)(L0:List (Nat×Obj)):(Nat→Bool)→(Nat→D2.Gh)→World→Prop:=fun L g w=>
 bif L 4 then ∃u T x,okX t u x T∧Rw 3 (g 4).cur (g 4).cap (n+1) (cells3 (M++ [x]))∧St B w0 w ((b4,dc u)::(b3,xo (bif L 6 then .slice (some ⟨(g 4).b,0,none⟩) (n+1) (g 4).cap else .slice p n c))::(b2,r0)::((g 4).b,.cells (g 4).cur 44 (0,0))::(T++L0))
 else bif L 3 then ∃u T x,okX t u x T∧St B w0 w (((g 3).b,.cells (xc x) 44 (0,0))::(b4,dc u)::(b3,xo (.slice p n c))::(b2,r0)::(row++(T++L0)))
 else bif L 2 then ∃u T x,okX t u x T∧(g 2).cur=xc x∧St B w0 w ((b4,dc u)::(b3,xo (.slice p n c))::(b2,r0)::(row++(T++L0)))
 else St B w0 w ((b4,dc t)::(b3,xo (.slice p n c))::(b2,r0)::(row++L0))
section
variable {B:Nat}{w0:World}{t:ByteArray}{b2 b3 b4:Nat}{p:Option Addr}{n c:Nat}{row:List (Nat×Obj)}{M:List X3}{L0:List (Nat×Obj)}{L:Nat→Bool}{g:Nat→D2.Gh}{w:World}
theorem qp.keep {i:Nat}{y:D2.Gh}(hi:Nat.beq 2 i=false)(h3:Nat.beq 3 i=false)(h4:Nat.beq 4 i=false)(h6:Nat.beq 6 i=false)(h:qp B w0 t b2 b3 b4 p n c row M L0 L g w):qp B w0 t b2 b3 b4 p n c row M L0 (D2.put1 L i) (D2.setN g i y) w:=by
 have e2:D2.put1 L i 2=L 2:=by unfold D2.put1;rw [hi];rfl
 have e3:D2.put1 L i 3=L 3:=by unfold D2.put1;rw [h3];rfl
 have e4:D2.put1 L i 4=L 4:=by unfold D2.put1;rw [h4];rfl
 have e6:D2.put1 L i 6=L 6:=by unfold D2.put1;rw [h6];rfl
 have g2:D2.setN g i y 2=g 2:=by unfold D2.setN;rw [hi];rfl
 have g3:D2.setN g i y 3=g 3:=by unfold D2.setN;rw [h3];rfl
 have g4:D2.setN g i y 4=g 4:=by unfold D2.setN;rw [h4];rfl
 unfold qp at h ⊢;rw [e2,e3,e4,e6,g2,g3,g4];exact h
theorem qp.x (h4:L 4=false)(h:qp B w0 t b2 b3 b4 p n c row M L0 L g w):∃l,St B w0 w l∧(b3,xo (.slice p n c))∈l:=by
 unfold qp at h;rw [h4] at h;cases h3:L 3 with
 | true=>rw [h3] at h;obtain ⟨u,T,x,_,h⟩:=h;exact ⟨_,h,by simp⟩
 | false=>
  rw [h3] at h;cases h2:L 2 with
  | true=>rw [h2] at h;obtain ⟨u,T,x,_,_,h⟩:=h;exact ⟨_,h,by simp⟩
  | false=>rw [h2] at h;exact ⟨_,h,by simp⟩
end
theorem zgV (x:X3): ∀M:List X3,wrF (toFo (M++ [x]))=wrF (toFo M)++wr1 x.l x.s (szF x.k) (wrF x.k)
 | []=>by simp [toFo,wrF]
 | m::M=>by simp only [List.cons_append,toFo,wrF,zgV x M,List.append_assoc]
theorem zgW (x:X3)(hm:mixed x.l x.s x.k.len=false)(hp:pureF x.k=true): ∀M:List X3,pureF (toFo M)=true→pureF (toFo (M++ [x]))=true
 | [],_=>by simp [toFo,pureF,hm,hp]
 | m::M,h=>by
  simp only [toFo,pureF,Bool.and_eq_true] at h;simp only [List.cons_append,toFo,pureF,Bool.and_eq_true];exact ⟨h.1,zgW x hm hp M h.2⟩
theorem AllIn.mono {T T':List (Nat×Obj)}{M:List X3}(h:AllIn T M)(hs: ∀e∈T,e∈T'):AllIn T' M:=fun x hx=>⟨(h x hx).1.mono hs,(h x hx).2⟩
theorem AllIn.snoc {T:List (Nat×Obj)}{M:List X3}{x:X3}(h:AllIn T M)(hx:ya T x.p x.n x.k)(hz:x.s.size≤0x800000000000):AllIn T (M++ [x]):=fun y hy=>by
 rcases List.mem_append.1 hy with q|q
 ·exact h y q
 ·obtain rfl:=List.mem_singleton.1 q;exact ⟨hx,hz⟩
structure ki (t t':ByteArray)(p:Option Addr)(n c:Nat)(row:List (Nat×Obj))(M:List X3)(T:List (Nat×Obj)):Prop where
 row:RowSt p n c row M
 size:n+t'.size≤t.size
 all:tl t=wrF (toFo M)++tl t'
 pur:pureF (toFo M)=true
 inn:AllIn T M
 rest: ∀k,pureF k=true→tl t=wrF k→∃k',pureF k'=true∧tl t'=wrF k'
theorem ki.bad {t t':ByteArray}{p:Option Addr}{n c:Nat}{row:List (Nat×Obj)}{M:List X3}{T:List (Nat×Obj)}(h:ki t t' p n c row M T)(h0:t'.size≠0)(hb:xC t'):zbJ t:=fun k hp he=>by
 obtain ⟨k',hp',he'⟩:=h.rest k hp he;cases k' with
 | nil=>have:=congrArg List.length he';rw [zy] at this;simp [wrF] at this;exact h0 (by rw [this];rfl)
 | cons l s k r=>
  simp only [pureF,Bool.and_eq_true,Bool.not_eq_true'] at hp';exact hb l s k (wrF r) hp'.1.1 hp'.1.2 he'
theorem ki.next {t t' u:ByteArray}{p:Option Addr}{n c:Nat}{row:List (Nat×Obj)}{M:List X3}{T T2:List (Nat×Obj)}{x:X3}{b cap:Nat}{cur:Array Value}(ht:t.size≤100000)(h:ki t t' p n c row M T)(hx:okX t' u x T2)(hr:Rw 3 cur cap (n+1) (cells3 (M++ [x]))):
 u.size<t'.size∧ki t u (some ⟨b,0,none⟩) (n+1) cap [(b,.cells cur 44 (0,0))] (M++ [x]) (T2++T):=by
 obtain ⟨⟨hm,hp,hi⟩,hs,hz⟩:=hx;have hlen:=congrArg List.length hi;have h1:=(jX hm hp rfl).1;rw [zy,List.length_append,zy] at hlen;have hsz:=h.size;refine ⟨by omega,.inr ⟨b,cur,rfl,rfl,hr⟩,by omega,?_,zgW x hm hp M h.pur,?_,?_⟩
 ·rw [h.all,hi,zgV,List.append_assoc]
 ·exact (h.inn.mono fun e he=>List.mem_append_right _ he).snoc (hs.1.mono fun e he=>List.mem_append_left _ he) (by omega)
 ·intro k hpk hk;obtain ⟨k',hp',he'⟩:=h.rest k hpk hk;exact zgM (by omega) ⟨hm,hp,hi⟩ hp' he'
theorem ki.done {t t':ByteArray}{p:Option Addr}{n c:Nat}{row:List (Nat×Obj)}{M:List X3}{T:List (Nat×Obj)}(ht:t.size≤100000)(h:ki t t' p n c row M T)(h0:t'=⟨#[]⟩):zgS t (.agg #[.bool true,.string ⟨#[]⟩,.slice p n c]) (row++T):=by
 have hsz:=h.size;refine ⟨p,n,c,toFo M,rfl,?_,h.pur,?_⟩
 ·rw [h.all,h0];exact List.append_nil _
 ·rcases h.row with ⟨rfl,rfl,rfl,rfl,rfl⟩|⟨b,cur,rfl,rfl,hr⟩
  ·exact SlC.none _
  ·exact ⟨hr.slIn (b:=b) (ty:=44) (fz:=(0,0)) (by simp) (h.inn.mono fun e he=>List.mem_append_right _ he) (by omega),hr.le⟩
theorem zgX (t:ByteArray)(ht:t.size≤100000)(hi: ∀(bd:Nat) (u:ByteArray),u.size≤t.size→vQ bd u):zdM t:=by
 refine FnY.intro (c:=zd Tryz.f143) [.cell 2 44] 18 Tryz.func143 kr kr kr fun B w0 w L H0=>zh [0] kr kr<|zP H0 (some 2) 44 (.agg #[.bool false,.string ⟨#[]⟩,.slice none 0 0]) kr kr kr ?_;intro b2 w1 H1;refine zc<|zh [0,1,2,3,4,5,6] kr kr<|zj (some 5) (.agg #[.bool true,.string ⟨#[]⟩,.slice none 0 0]) (fun w=>by kernel_rfl) kr<|zj (some 6) (.string t) (fun w=>by kernel_rfl) kr<|zj (some 7) (.agg #[.string t]) (fun w=>by kernel_rfl) kr<|zP H1 (some 3) 44 (.agg #[.bool false,.string ⟨#[]⟩,.slice none 0 0]) kr kr kr ?_;intro b3 w2 H2;refine zP H2 (some 4) 171 (.agg #[.string ⟨#[]⟩]) kr kr kr ?_;intro b4 w3 H3;refine rp [.s 1,.s 0] H3 kr fun gs4 w4 H4=>wX []<|zc ?_;have H5:St B w0 w4 ((b4,dc t)::(b3,xo (.slice none 0 0))::(b2,r0)::([]++([]++L))):=H4.as kr;refine zb kr<|zu 0 kr<|yD kr (fun mz ρ ww=> ∃(t':ByteArray) (p:Option Addr) (n c:Nat) (row:List (Nat×Obj)) (M:List X3) (T:List (Nat×Obj)),t'.size=mz∧ki t t' p n c row M T∧St B w0 ww ((b4,dc t')::(b3,xo (.slice p n c))::(b2,r0)::(row++(T++L)))∧Is [(0,.string t),(2,.pointer (some ⟨b2,0,none⟩)),(3,.pointer (some ⟨b3,0,none⟩)),(4,.pointer (some ⟨b4,0,none⟩))] ρ) t.size ⟨t,none,0,0,[],[],[],rfl,⟨.inl ⟨rfl,rfl,rfl,rfl,rfl⟩,by omega,rfl,rfl,(fun _ h=>nomatch h),fun k hp he=>⟨k,hp,he⟩⟩,H5,(Is.of ⟨kr,kr,kr,kr,trivial⟩)⟩ ?_;rintro _ _ w5 ⟨t',p,n,c,row,M,T,rfl,hI,H6,_,rfl⟩;have hsz:=hI.size;by_cases h0:t'=⟨#[]⟩
 ·refine zb kr<|rS [.v,.l 0,.E (.bool (!(ByteArray.toList t'==ByteArray.toList (⟨#[]⟩)))) (.bool false) (za (by rw [qD t' (⟨#[]⟩) h0];rfl))] H6 kr fun gs5 w6 H7=>zl kr kr<|ym 0 kr<|wW<|rS [.l 1,.s 2] H7 kr fun gs6 w7 H8=>?_;have H9:St B w0 w7 ((b4,dc t')::(b3,xo (.slice p n c))::(b2,xo (.slice p n c))::(row++(T++L))):=H8.as kr;refine zn kr<|wV ?_;refine ⟨[.agg #[.bool true,.string ⟨#[]⟩,.slice p n c]],(.agg (b:=b2) (#[.bool true,.string ⟨#[]⟩,.slice p n c]) 44 (0,0) kr (H9.get 2 kr) kr .nil),row++T,hI.done ht h0,?_⟩;rw [List.append_assoc];exact H9.sub (List.Sublist.cons _ (List.Sublist.cons _ (List.sublist_cons_self ..)))
 ·have hz:=zbx h0;refine zb kr<|rS [.v,.l 0,.E (.bool (!(ByteArray.toList t'==ByteArray.toList (⟨#[]⟩)))) (.bool true) (za (by rw [qW t' (⟨#[]⟩) h0];rfl))] H6 kr fun gs5 w6 H7=>zi kr kr<|zp kr<|wW<|zu 1 kr ?_;have H8:St B w0 w6 ((b4,dc t')::(b3,xo (.slice p n c))::(b2,r0)::(row++(T++L))):=H7.as kr;refine D2.g_draw0X (Bad:=fun ch w'=>ch=chF∧zbJ t∧St B w0 w' L) (fun ch ρ w h=>h) [0,1,2,3,4,5,6] [(some 11,fun _=>.pointer (some ⟨b3,2,none⟩)),(some 12,fun _=>.slice p n c),(some 13,fun y=>.agg y.cur),(some 14,fun y=>.slice (some ⟨y.b,0,none⟩) 1 1),(some 15,fun y=>.slice (some ⟨y.b,0,none⟩) (n+1) y.cap),(some 16,fun _=>.pointer (some ⟨b3,2,none⟩)),(none,fun _=>undef)] (qp B w0 t' b2 b3 b4 p n c row M (T++L)) kr kr kr H8.drew ⟨?_,?_,?_,?_,?_,?_,?_,trivial⟩ ?_
  ·exact .of (D2.gv_val (fun L g w h=>by have:=h.keep (i:=0) (y:=g 0) rfl rfl rfl rfl;rwa [D2.setN_self] at this) (fun g w=>by kernel_rfl))
  ·refine .of (D2.gives_of fun L g w hp hN=>?_);obtain ⟨o,ho,hd,hw,hop⟩:=zH (show opk _ 1 _=some (some 12,true,.load 42 (.tmp 11)) by kernel_rfl);obtain ⟨l,HS,hm⟩:=hp.x (hN.post 4 kr);refine ⟨o,ho,hd,.inr ⟨hw,?_⟩⟩;rw [zfI (off:=2) (v:=.slice p n c) (HS.own _ hm).2 kr kr kr o hop];exact ⟨g 1,rfl,hp.keep rfl rfl rfl rfl⟩
  ·intro L1 g w hp hn hr hc;have hN:D2.Now _ 2 L1:=⟨hn,hr,hc⟩
   have h3:=hN.post 3 kr;have h4:=hc.no 3 4 kr h3;obtain ⟨o,ho,hd,hw,hrun⟩:=zQ (show opv _ _ 2 _ w=some (some 13,true,.ok (.enter 101 #[.pointer (some ⟨b4,0,none⟩)]) w) by kernel_rfl);refine ⟨o,ho,hd,.inr ⟨hw,?_⟩⟩;rw [hrun];unfold qp at hp;rw [h4,h3,hn] at hp;refine (hi b4 t' (by omega) B w0 w _ hp).mono fun e w' q=>?_;rcases q with ⟨v,u,T2,rfl,⟨l,s,p1,n1,c1,k,rfl,q1,q2,q3⟩,HS⟩ | ⟨rfl,hb,HS⟩
   ·refine .inl ⟨_,rfl,{ cur:=#[.bool l,.string s,.slice p1 n1 c1] },rfl,?_⟩;unfold qp;rw [show D2.put1 L1 2 4=false from h4,show D2.put1 L1 2 3=false from h3,show D2.put1 L1 2 2=true from rfl];exact ⟨u,T2,⟨l,s,p1,n1,c1,k⟩,⟨q1,q2,q3⟩,rfl,HS.perm (List.Perm.cons _ (List.perm_append_comm_assoc ((b3,xo (.slice p n c))::(b2,r0)::row) T2 (T++L)))⟩
   ·exact .inr ⟨chF,rfl,rfl,hI.bad hz hb,HS.sub (List.Sublist.cons _ (List.Sublist.cons _ ((List.sublist_append_right _ _).trans (List.sublist_append_right _ _))))⟩
  ·refine .of (D2.gives_of fun L1 g w hp hN=>?_);have h2:=hN.bef 2 kr;have h4:=hN.post 4 kr;unfold qp at hp;rw [h4,hN.1,h2] at hp;obtain ⟨u,T2,x,hx,hcur,HS⟩:=hp;obtain ⟨o,ho,hd,hw,hrun⟩:=zQ (show opv _ _ 3 (yV [(11,.pointer (some ⟨b3,2,none⟩)),(12,.slice p n c),(13,.agg (g 2).cur)] _) w=some (some 14,true,.ok (.value (.slice (some ⟨w.heap.size,0,none⟩) 1 1)) (w.alloc (.cells (xc x) 44))) by rw [hcur];kernel_rfl);refine ⟨o,ho,hd,.inr ⟨hw,?_⟩⟩;refine (congrArg (D2.Runs _ _) hrun).mpr ?_;refine ⟨{ b:=w.heap.size },rfl,?_⟩;unfold qp;rw [show D2.put1 L1 3 4=false from h4,show D2.put1 L1 3 3=true from rfl];exact ⟨u,T2,x,hx,HS.alloc _⟩
  ·refine .of (D2.gives_of fun L1 g w hp hN=>?_);have h3:=hN.bef 3 kr;have h6:=hN.post 6 kr;unfold qp at hp;rw [hN.1,h3] at hp;obtain ⟨u,T2,x,hx,HS⟩:=hp;obtain ⟨o,ho,hd,hw,hop⟩:=zH (show opk _ 4 _=some (some 15,true,yq 42 (.tmp 12) (.tmp 14)) by kernel_rfl);refine ⟨o,ho,hd,.inr ⟨hw,?_⟩⟩;rcases hI.row with ⟨rfl,rfl,rfl,rfl,rfl⟩ | ⟨b,cur,rfl,rfl,hrw⟩
   ·obtain ⟨b',cap',cur',w',hrun,HS',hr'⟩:=zmI HS (t:=42) (e:=44) (bytes:=48) (k:=0) (bx:=(g 3).b) (c:=1) (y:=x) kr hop kr kr rfl (by omega);rw [hrun];refine ⟨{ b:=b',cap:=cap',cur:=cur' },rfl,?_⟩;unfold qp;rw [show D2.put1 L1 4 4=true from rfl,show D2.put1 L1 4 6=false from h6];refine ⟨u,T2,x,hx,hr',?_⟩;exact (HS'.sub (List.Sublist.cons_cons _ (List.sublist_cons_self ..))).perm (List.perm_middle (l₁:=[(b4,dc u),(b3,xo (.slice none 0 0)),(b2,r0)]))
   ·obtain ⟨b',cap',cur',w',hrun,HS',hr'⟩:=zmH HS (t:=42) (e:=44) (bytes:=48) (j:=4) (k:=0) (bx:=(g 3).b) (c:=1) (y:=x) kr hop kr rfl hrw kr rfl (by omega) (by unfold maxLen;omega);rw [hrun];refine ⟨{ b:=b',cap:=cap',cur:=cur' },rfl,?_⟩;unfold qp;rw [show D2.put1 L1 4 4=true from rfl,show D2.put1 L1 4 6=false from h6];exact ⟨u,T2,x,hx,hr',HS'.sub (List.sublist_cons_self ..)⟩
  ·exact .of (D2.gv_val (fun L g w h=>by have:=h.keep (i:=5) (y:=g 5) rfl rfl rfl rfl;rwa [D2.setN_self] at this) (fun g w=>by kernel_rfl))
  ·refine .of (D2.gives_of fun L1 g w hp hN=>?_);have h4:=hN.bef 4 kr;unfold qp at hp;rw [h4,hN.1] at hp;obtain ⟨u,T2,x,hx,hr',HS⟩:=hp;obtain ⟨o,ho,hd,hw,hop⟩:=zH (show opk _ 6 _=some (none,true,.store 42 (.tmp 16) (.tmp 15)) by kernel_rfl);refine ⟨o,ho,hd,.inr ⟨hw,?_⟩⟩;rw [kV (t:=42) (off:=2) (b:=b3) (C:=#[.bool true,.string ⟨#[]⟩,.slice p n c]) (T:=44) (v:=.slice (some ⟨(g 4).b,0,none⟩) (n+1) (g 4).cap) (C':=#[.bool true,.string ⟨#[]⟩,.slice (some ⟨(g 4).b,0,none⟩) (n+1) (g 4).cap]) (HS.get 1 kr) kr kr (of_decide_eq_true kr) kr kr kr o hop];refine ⟨default,rfl,?_⟩;unfold qp;rw [show D2.put1 L1 6 4=true from h4,show D2.put1 L1 6 6=true from rfl];exact ⟨u,T2,x,hx,hr',HS.store 1 (C:=#[.bool true,.string ⟨#[]⟩,.slice p n c]) kr⟩
  ·intro L1 g w' hall hp;unfold qp at hp;rw [hall 4 (Nat.le_of_ble_eq_true kr),hall 6 (Nat.le_of_ble_eq_true kr)] at hp;obtain ⟨u,T2,x,hx,hr',HS⟩:=hp;obtain ⟨hlt,hI'⟩:=hI.next (b:=(g 4).b) ht hx hr'
   show ∃m,_∧_;refine ⟨_,hlt,u,_,_,_,_,_,_,rfl,hI',?_,(Is.of ⟨kr,kr,kr,kr,trivial⟩)⟩;rw [List.append_assoc];exact HS
theorem zmJ (m:Nat):(∀(t:ByteArray),t.size≤m→m≤100000→(∀bd,vQ bd t)∧zdM t):=by
 induction m with
 | zero=>
  intro t h hm;have hi: ∀(bd:Nat) (u:ByteArray),u.size≤t.size→vQ bd u:=fun bd u hu=>zgT bd u (by omega) fun s hs=>by omega
  exact ⟨fun bd=>hi bd t (Nat.le_refl _),zgX t (by omega) hi⟩
 | succ m ih=>
  intro t h hm;have hi: ∀(bd:Nat) (u:ByteArray),u.size≤t.size→vQ bd u:=fun bd u hu=>zgT bd u (by omega) fun s hs=>(ih s (by omega) (by omega)).2;exact ⟨fun bd=>hi bd t (Nat.le_refl _),zgX t (by omega) hi⟩
theorem zmK (bd:Nat)(t:ByteArray)(ht:t.size≤100000):vQ bd t:=(zmJ 100000 t ht (Nat.le_refl _)).1 bd
structure vc (ds:List Deferred)(a:Act)(ρ:Env)(N:Nat):Prop where
 defers:a.defers=ds
 rep:Rep { a with defers:=[] } ρ N
def zbR (ds:List Deferred)(N:Nat)(Q:Exit→Env→World→Prop):Exit→Act→World→Prop:=fun e a w=> ∃ρ,vc ds a ρ N∧Q e ρ w
theorem zgY (a:Act)(d:Option Nat)(v:Value):(a.put d v).defers=a.defers:=by cases d<;>rfl
theorem zmL (a:Act)(d:Option Nat)(v:Value): { a.put d v with defers:=[] } =({ a with defers:=[] } :Act).put d v:=by cases d<;>rfl
theorem zbS (a:Act):({ a with defers:=[] } :Act).eval=a.eval:=by funext x;cases x<;>rfl
section
variable {P:Program}{N:Nat}{ops:Array Oper}{Q:Exit→Env→World→Prop}{K:Env→World→Prop}{ρ:Env}{w:World}{i:Nat}{ds:List Deferred}
theorem zgZ (h:LetsOut (lift N Q)):LetsOut (zbR ds N Q):=by
 obtain ⟨a,w,ρ,hr,hq⟩:=h;exact ⟨{ a with defers:=ds },w,ρ,⟨rfl,⟨rfl,hr.size,hr.at_⟩⟩,hq⟩
theorem zmM {a:Act}(ha:a.defers=ds)(h:wpOp P ops (lift N Q) i (fun a' w'=> ∃ρ',Rep a' ρ' N∧K ρ' w') { a with defers:=[] } w):wpOp P ops (zbR ds N Q) i (fun a' w'=> ∃ρ',vc ds a' ρ' N∧K ρ' w') a w:=by
 unfold wpOp at h ⊢;have hnext: ∀(d:Option Nat) (v:Value) (w':World),(∃ρ',Rep (({ a with defers:=[] } :Act).put d v) ρ' N∧K ρ' w')→∃ρ',vc ds (a.put d v) ρ' N∧K ρ' w':=fun d v w' ⟨ρ',hr,hk⟩=>⟨ρ',⟨by rw [zgY,ha],by rw [zmL];exact hr⟩,hk⟩
 cases ho:ops[i]? with
 | none=>
  simp only [ho] at h ⊢;obtain ⟨ρ',hr,hk⟩:=h;exact ⟨ρ',⟨ha,hr⟩,hk⟩
 | some o=>
  simp only [ho] at h ⊢;split
  ·rename_i hw
   rw [if_pos hw] at h;rcases h with h | ⟨h1,h2⟩
   ·left;unfold Oper.wp at h ⊢;rw [zbS] at h;generalize (execOp a.eval o).run P w=r at h;cases r with
    | ok n w'=>
     cases n with
     | value v=>exact hnext _ _ _ h
     | skip=>exact hnext _ _ _ h
     | defer d=>
      obtain ⟨ρ',hr,_⟩:=h;have:=hr.defers;rw [zgY] at this;cases this
     | enter f args=>
      refine Calls.mono h fun e w'' q=>?_;cases e with
      | returned v=>exact hnext _ _ _ q
      | panicked ch=>
       obtain ⟨ρ',hr,hq⟩:=q;exact ⟨ρ',⟨ha,hr⟩,hq⟩
      | outgrown=>exact zgZ q
     | row row args=>exact Rows.mono h fun v w'' q=>hnext _ _ _ q
     | _=>exact (h:False).elim
    | halt hh w'=>
     cases hh with
     | panic v=>
      obtain ⟨ρ',hr,hq⟩:=h;exact ⟨ρ',⟨ha,hr⟩,hq⟩
     | _=>exact (h:False).elim
   ·right;refine ⟨?_,zgZ h2⟩;unfold Oper.asks at h1 ⊢;rw [zbS] at h1;exact h1
  ·rename_i hw
   rw [if_neg hw] at h;exact hnext _ _ _ h
theorem yu.soundD: ∀(l:List Nat) (ρ:Env) (w:World),yu P N ops Q (Q .normal) l ρ w→ ∀a,vc ds a ρ N→wpOps P ops (zbR ds N Q) l a w
 | [],ρ,w,h,a,ha=>⟨ρ,ha,h⟩
 | i::r,ρ,w,h,a,ha=>by
  rw [wpOps_cons];exact wpOp_mono (fun a' w' ⟨ρ',hr,h'⟩=>yu.soundD r ρ' w' h' a' hr) (zmM ha.defers (h _ ha.rep))
def WPD (ds:List Deferred)(P:Program)(N:Nat)(c:Code)(Q:Exit→Env→World→Prop)(ρ:Env)(w:World):Prop:= ∀a,vc ds a ρ N→c.wp P (zbR ds N Q) a w
variable {c:Code}
theorem zdN (hc:yx c=true)(h:WPD ds P N (zq c) (nx (WPD ds P N (zw c) Q) Q) ρ w):WPD ds P N c Q ρ w:=fun a ha=>by
 rw [uu hc]
 exact wp_seq (Go.wp_mono (h a ha) fun e a' w' ⟨r,hr,q⟩=>by
  cases e<;>first | exact q a' hr | exact ⟨r,hr,q⟩)
theorem zg0 (l:List Nat)(hc:qM c=some (l,false))(h:yu P N (zg c) Q (Q .normal) l ρ w):WPD ds P N c Q ρ w:=fun a ha=>by
 obtain ⟨id,he,hl⟩:=xR hc;rw [he];exact wp_region (by rw [hl];exact yu.soundD l ρ w h a ha)
theorem zaj (l:List Nat)(hc:yx c=true)(hr:qM (zq c)=some (l,false))(h:yu P N (zg (zq c)) (nx (WPD ds P N (zw c) Q) Q) (WPD ds P N (zw c) Q) l ρ w):WPD ds P N c Q ρ w:=
 zdN hc (zg0 l hr h)
theorem zmN (hc:vu c=true)(h:Q .normal ρ w):WPD ds P N c Q ρ w:=fun a ha=>by rw [zcO hc];exact wp_skip ⟨ρ,ha,h⟩
end
section
variable {P:Program}{N:Nat}{ops:Array Oper}{ρ:Env}{w w':World}{i:Nat}{ds:List Deferred}{c:Code}{rest:List Nat}{a:Act}{cs:List Frame}
theorem zmO {Q:Exit→Env→World→Prop}(hc:jT c=true)(hx:ev ρ (qU c)=.bool true)(ht:WPD ds P N (xq c) Q ρ w):WPD ds P N c Q ρ w:=fun a ha=>by
 rw [vw hc];exact wp_cond_true (by rw [←zbS,ha.rep.eval];exact hx) (ht a ha)
theorem zmP {Q:Exit→Env→World→Prop}(hc:jT c=true)(hx:ev ρ (qU c)=.bool false)(ht:WPD ds P N (xr c) Q ρ w):WPD ds P N c Q ρ w:=fun a ha=>by
 rw [vw hc];exact wp_cond_false (by rw [←zbS,ha.rep.eval];exact hx) (ht a ha)
theorem zmQ {Q:Exit→Env→World→Prop}(hc:jU c=true)(h:Q .ret ρ w):WPD ds P N c Q ρ w:=fun a ha=>by rw [zcN hc];exact wp_ret ⟨ρ,ha,h⟩
variable {Q:Exit→Act→List Frame→World→Prop}
theorem zmR {d:Option Nat}(ha:Rep a ρ N)(hn:recoverD cs=none)(h:opv P ops i ρ w=some (d,true,.ok .recover w'))(k:wpOpsS P ops Q rest (a.put d .nilIface) cs w'):wpOpsS P ops Q (i::rest) a cs w:=by
 obtain ⟨o,ho,rfl,hw,hr⟩:=zQ h;have h1:Region.wanted o (yielded ops a.tmps)=true:=by rw [jg ha];exact hw
 rw [←ha.eval] at hr;simp only [wpOpsS,ho,h1,if_true,hr,hn];exact k
theorem zmS {d:Option Nat}{v:Value}{cs':List Frame}(ha:Rep a ρ N)(hn:recoverD cs=some (v,cs'))(h:opv P ops i ρ w=some (d,true,.ok .recover w'))(k:wpOpsS P ops Q rest (a.put d v) cs' w'):wpOpsS P ops Q (i::rest) a cs w:=by
 obtain ⟨o,ho,rfl,hw,hr⟩:=zQ h;have h1:Region.wanted o (yielded ops a.tmps)=true:=by rw [jg ha];exact hw
 rw [←ha.eval] at hr;simp only [wpOpsS,ho,h1,if_true,hr,hn];exact k
theorem zg1 {d:Option Nat}{v:Value}(ha:Rep a ρ N)(h:opv P ops i ρ w=some (d,true,.ok (.value v) w'))(k:wpOpsS P ops Q rest (a.put d v) cs w'):wpOpsS P ops Q (i::rest) a cs w:=by
 obtain ⟨o,ho,rfl,hw,hr⟩:=zQ h;have h1:Region.wanted o (yielded ops a.tmps)=true:=by rw [jg ha];exact hw
 rw [←ha.eval] at hr;simp only [wpOpsS,ho,h1,if_true,hr,Oper.upon];exact k
end
def chR:FrameMode:=.panicking [{ v:=.iface 33 (.int .i64 4),recovered:=true }]
theorem zdO (args:Array Value)(n N:Nat)(hn:args.size+n=N):Rep { tmps:=args++Array.replicate n undef,defers:=[] } (ini args) N:=by
 refine ⟨rfl,by simp [hn],fun t=>?_⟩;unfold ini;rw [jH,jH,Array.getElem?_append];split
 ·rfl
 ·rename_i hge
  rw [Array.getElem?_eq_none (Nat.le_of_not_lt hge)];cases he:(Array.replicate n undef)[t-args.size]? with
  | none=>rfl
  | some v=>
   have:=Array.mem_of_getElem? he;simp at this;simp [this]
abbrev qc (b2 b3:Nat):Array Value:=#[.pointer (some ⟨b2,0,none⟩),.pointer (some ⟨b3,0,none⟩)]
theorem zmT (b2 b3:Nat)(w:World):CallsD Tryz.prog 100 (qc b2 b3) .returning w fun e u' w'=>e=.returned (.tuple #[])∧u'=.returning∧w'=w:=by
 refine callsD_of_wpS (f:=100) (c:=zd Tryz.f100) (P:=Tryz.prog) Tryz.func100 kr fun c0 cs hm=>?_;have ha:=zdO (qc b2 b3) 3 5 rfl;have hc:zd Tryz.f100=.seq (zq (zd Tryz.f100)) (zw (zd Tryz.f100)):=kr;have hr:recoverD (c0::cs)=none:=by simp [recoverD,hm]
 rw [hc];refine wpS_seq ?_;have hreg:zq (zd Tryz.f100)=.region 0 (zg (zq (zd Tryz.f100))) false:=kr;rw [hreg];refine wpS_region ?_;rw [show List.range (zg (zq (zd Tryz.f100))).size=[0,1] by kernel_rfl];show wpOpsS _ _ _ [0,1] { tmps:=qc b2 b3++Array.replicate 3 undef,defers:=[] } _ _;refine zmR (ρ:=ini (qc b2 b3)) (d:=some 2) (w':=w) ha hr kr ?_;have ha2:=ha.put (some 2) (zM (by rfl)) .nilIface;refine zg1 (d:=some 3) (v:=.bool false) (w':=w) ha2 kr ?_;have ha3:=ha2.put (some 3) (zM (by rfl)) (.bool false);show (zw (zd Tryz.f100)).wpS _ _ _ _ _;have hcond:zw (zd Tryz.f100)=.cond (qU (zw (zd Tryz.f100))) (xq (zw (zd Tryz.f100))) (xr (zw (zd Tryz.f100))):=kr;rw [hcond];refine wpS_cond (t:=false) (by rw [ha3.eval];kernel_rfl)<|wpS_of_wp ?_;have hsk:xr (zw (zd Tryz.f100))=.skip:=kr;rw [if_neg (by decide),hsk];refine wp_skip ?_;exact ⟨ha3.defers,c0.mode,rfl,.tuple #[],by kernel_rfl,rfl,hm,rfl⟩
theorem zmU (b2 b3:Nat)(x1 x2 x3 y:Value){B:Nat}{w0 w:World}{L:List (Nat×Obj)}(H:St B w0 w ((b2,.cells #[x1,x2,x3] 44 (0,0))::(b3,.cells #[y] 33 (0,0))::L)):
 CallsD Tryz.prog 100 (qc b2 b3) (.panicking chF) w fun e u' w'=>e=.returned (.tuple #[])∧u'=chR∧St B w0 w' ((b2,.cells #[.bool false,.string ⟨#[]⟩,.slice none 0 0] 44 (0,0))::(b3,.cells #[.int .i64 4] 33 (0,0))::L):=by
 refine callsD_of_wpS (f:=100) (c:=zd Tryz.f100) (P:=Tryz.prog) Tryz.func100 kr fun c0 cs hm=>?_;have ha:=zdO (qc b2 b3) 3 5 rfl;have hc:zd Tryz.f100=.seq (zq (zd Tryz.f100)) (zw (zd Tryz.f100)):=kr;have hr:recoverD (c0::cs)=some (.iface 33 (.int .i64 4),{ c0 with mode:=chR } :: cs):=by simp [recoverD,hm,chF,chR]
 rw [hc];refine wpS_seq ?_;have hreg:zq (zd Tryz.f100)=.region 0 (zg (zq (zd Tryz.f100))) false:=kr;rw [hreg];refine wpS_region ?_;rw [show List.range (zg (zq (zd Tryz.f100))).size=[0,1] by kernel_rfl];show wpOpsS _ _ _ [0,1] { tmps:=qc b2 b3++Array.replicate 3 undef,defers:=[] } _ _;refine zmS (ρ:=ini (qc b2 b3)) (d:=some 2) (w':=w) ha hr kr ?_;have ha2:=ha.put (some 2) (zM (by rfl)) (.iface 33 (.int .i64 4));refine zg1 (d:=some 3) (v:=.bool true) (w':=w) ha2 kr ?_;have ha3:=ha2.put (some 3) (zM (by rfl)) (.bool true);show (zw (zd Tryz.f100)).wpS _ _ _ _ _;have hcond:zw (zd Tryz.f100)=.cond (qU (zw (zd Tryz.f100))) (xq (zw (zd Tryz.f100))) (xr (zw (zd Tryz.f100))):=kr;rw [hcond];refine wpS_cond (t:=true) (by rw [ha3.eval];kernel_rfl)<|wpS_of_wp ?_;rw [if_pos rfl];have hw:WP Tryz.prog 5 (xq (zw (zd Tryz.f100))) (fun e ρ w'=>match e with | .normal=>St B w0 w' ((b2,.cells #[.bool false,.string ⟨#[]⟩,.slice none 0 0] 44 (0,0))::(b3,.cells #[.int .i64 4] 33 (0,0))::L) | _=>False) _ w:=rL (ρ:=zm (zm (ini (qc b2 b3)) (some 2) (.iface 33 (.int .i64 4))) (some 3) (.bool true)) [.v,.s 0,.s 1] H kr fun gs w' H'=>H'.as kr;refine Go.wp_mono (hw _ ha3) ?_;rintro e a' w' ⟨ρ',hrep,hq⟩;cases e with
 | normal=>exact ⟨hrep.defers,chR,rfl,.tuple #[],by kernel_rfl,rfl,rfl,hq⟩
 | _=>exact (hq:False).elim
def zmV (t:ByteArray)(v:Value)(T:List (Nat×Obj)):Prop:=
 (∃(l:Bool) (s:ByteArray) (p:Option Addr) (n c:Nat) (k:Fo),v=.tuple #[.agg #[.bool l,.string s,.slice p n c],.int .i64 0]∧yr t l s k ⟨#[]⟩∧SlC T p n c k∧s.size≤t.size)∨
 (v=.tuple #[.agg #[.bool false,.string ⟨#[]⟩,.slice none 0 0],.int .i64 4]∧T=[]∧ ∀(l:Bool) (s:ByteArray) (k:Fo),mixed l s k.len=false→pureF k=true→tl t≠wr1 l s (szF k) (wrF k))
def FnZ (P:Program)(f:Nat)(args:Array Value)(ok:Value→List (Nat×Obj)→Prop):Prop:=
 ∀(B:Nat) (w0 w:World) (L:List (Nat×Obj)),St B w0 w L→Calls P f args w fun e w'=> ∃v T,e=.returned v∧ok v T∧St B w0 w' (T++L)
def zmW (t:ByteArray)(B:Nat)(w0:World)(b2 b3:Nat)(L:List (Nat×Obj)):Exit→Env→World→Prop
 | .ret,ρ,w=>ρ 2=.pointer (some ⟨b2,0,none⟩)∧ρ 3=.pointer (some ⟨b3,0,none⟩)∧∃(l:Bool) (s:ByteArray) (p:Option Addr) (n c:Nat) (k:Fo) (T:List (Nat×Obj)),yr t l s k ⟨#[]⟩∧SlC T p n c k∧s.size≤t.size∧St B w0 w ((b2,.cells #[.bool l,.string s,.slice p n c] 44 (0,0))::(b3,.cells #[.int .i64 0] 33 (0,0))::(T++L))
 | .panic ch,ρ,w=>ρ 2=.pointer (some ⟨b2,0,none⟩)∧ρ 3=.pointer (some ⟨b3,0,none⟩)∧ch=chF∧(∀(l:Bool) (s:ByteArray) (k:Fo),mixed l s k.len=false→pureF k=true→tl t≠wr1 l s (szF k) (wrF k))∧∃x1 x2 x3 y,St B w0 w ((b2,.cells #[x1,x2,x3] 44 (0,0))::(b3,.cells #[y] 33 (0,0))::L)
 | _,_,_=>False
theorem zmX {t:ByteArray}(h:xC t)(l:Bool)(s:ByteArray)(k:Fo)(hm:mixed l s k.len=false)(hp:pureF k=true):tl t≠wr1 l s (szF k) (wrF k):=fun e=>h l s k [] hm hp (by rw [e,List.append_nil])
theorem zmY {t u:ByteArray}{l l':Bool}{s s':ByteArray}{k k':Fo}(ht:t.size≤100000)(h:yr t l s k u)(hu: ¬u=⟨#[]⟩)(hm:mixed l' s' k'.len=false)(hp:pureF k'=true):tl t≠wr1 l' s' (szF k') (wrF k'):=fun e=>by
 obtain ⟨r,hr,he⟩:=zgM (k':=.cons l' s' k' .nil) ht h (by simp only [pureF,hm,hp];rfl) (by rw [e];simp only [wrF,List.append_nil]);obtain ⟨hm1,hp1,hi⟩:=h;have hlen:=congrArg List.length hi;have hlen2:=congrArg List.length e;rw [zy,List.length_append,qY hm1 (zY hp1)] at hlen;rw [zy,qY hm (zY hp)] at hlen2;have hpay: ∀(l:Bool) (s:ByteArray) (k:Fo),sz1 l s (szF k)≤100000→mixed l s k.len=false→s.size+szF k≤100000:=fun l s k h hm=>by
  unfold sz1 at h;split at h
  ·rename_i q
   have h1:=jA q;have h2:=len_zero (jm hm q);rw [h2];simp only [szF];omega
  ·omega
 have hx:=hpay l s k (by omega) hm1;have hy:=hpay l' s' k' (by omega) hm;have e2:wr1 l s (szF k) (wrF k)++tl u=wr1 l' s' (szF k') (wrF k')++ []:=by rw [List.append_nil,←e,hi]
 obtain ⟨_,_,_,hX⟩:=vO hm1 hm (zY hp1).symm (zY hp).symm (by omega) (by omega) (fun q=>kZ k k' hp1 hp (by rw [zY hp1];omega) q) e2;exact hu (jj hX)
theorem zmZ (t:ByteArray)(ht:t.size≤100000)(ds:List Deferred){B:Nat}{w0 w:World}{L:List (Nat×Obj)}(b2 b3:Nat)(ρ0:Env)(H0:St B w0 w ((b2,.cells #[.bool false,.string ⟨#[]⟩,.slice none 0 0] 44 (0,0))::(b3,.cells #[.int .i64 0] 33 (0,0))::L)):
 WPD ds Tryz.prog 14 (zw (zw (zd Tryz.f69))) (zmW t B w0 b2 b3 L) (yV [(0,.string t),(2,.pointer (some ⟨b2,0,none⟩)),(3,.pointer (some ⟨b3,0,none⟩))] ρ0) w:=by
 refine zaj [0,1,2,3] kr kr<|xD _<|zj (some 6) (.string t) (fun w=>by kernel_rfl) kr<|zj (some 7) (.agg #[.string t]) (fun w=>by kernel_rfl) kr<|zP H0 (some 4) 171 (.agg #[.string ⟨#[]⟩]) kr kr kr ?_;intro b4 w1 H1;refine rp [.s 0] H1 kr fun gs1 w2 H2=>wX []<|zc ?_;have H3:St B w0 w2 ((b4,dc t)::(b2,.cells #[.bool false,.string ⟨#[]⟩,.slice none 0 0] 44 (0,0))::(b3,.cells #[.int .i64 0] 33 (0,0))::L):=H2.as kr;show WPD _ _ _ _ _ _ _;refine zaj [0,1] kr kr<|vb H3 (List.Perm.refl _) (some 8) 101 #[.pointer (some ⟨b4,0,none⟩)] (zmK b4 t ht) kr kr (fun w' hb HS=>?_) ?_
 ·exact ⟨by kernel_rfl,by kernel_rfl,rfl,zmX hb,_,_,_,_,HS⟩
 rintro _ u T w3 ⟨l,s,p,n,c,k,rfl,hi,hs,hz⟩ H4;have H5:St B w0 w3 ((b4,dc u)::(b2,.cells #[.bool false,.string ⟨#[]⟩,.slice none 0 0] 44 (0,0))::(b3,.cells #[.int .i64 0] 33 (0,0))::(T++L)):=H4.perm (List.Perm.cons _ (List.perm_append_comm_assoc [(b2,_),(b3,_)] T L));refine xD _<|rp [.s 1] H5 kr fun gs2 w4 H6=>wX []<|zc ?_;show WPD _ _ _ _ _ _ _;refine zdN kr ?_;by_cases hu:u=⟨#[]⟩
 ·refine zaj [0,1,2] kr kr<|xD _<|rp [.v,.l 0,.E (.bool (!(ByteArray.toList u==ByteArray.toList (⟨#[]⟩)))) (.bool false) (za (by rw [qD u (⟨#[]⟩) hu];rfl))] H6 kr fun gs3 w5 H7=>wX []<|zc ?_;show WPD _ _ _ _ _ _ _;refine zmP kr kr<|zmN kr ?_;show WPD _ _ _ _ _ _ _;refine zaj [0,1,2] kr kr<|xD _<|rp [.l 1,.s 1,.s 2] H7 kr fun gs4 w6 H8=>wX []<|zc ?_;show WPD _ _ _ _ _ _ _;refine zmQ kr ?_;have H9:St B w0 w6 ((b4,dc u)::(b2,.cells #[.bool l,.string s,.slice p n c] 44 (0,0))::(b3,.cells #[.int .i64 0] 33 (0,0))::(T++L)):=H8.as kr;subst hu;exact ⟨by kernel_rfl,by kernel_rfl,l,s,p,n,c,k,T,hi,hs,hz,H9.sub (List.sublist_cons_self ..)⟩
 ·refine zaj [0,1,2] kr kr<|xD _<|rp [.v,.l 0,.E (.bool (!(ByteArray.toList u==ByteArray.toList (⟨#[]⟩)))) (.bool true) (za (by rw [qW u (⟨#[]⟩) hu];rfl))] H6 kr fun gs3 w5 H7=>wX []<|zc ?_;show WPD _ _ _ _ _ _ _;refine zmO kr kr<|zg0 [0,1] kr<|xf [0] (l2:=[1]) rfl<|rp [.v] H7 kr fun gs4 w6 H8=>wX []<|zc<|zbL none (.iface 33 (.int .i64 4)) kr ?_;have H9:St B w0 w6 ((b4,dc u)::(b2,.cells #[.bool l,.string s,.slice p n c] 44 (0,0))::(b3,.cells #[.int .i64 0] 33 (0,0))::(T++L)):=H8.as kr;exact ⟨by kernel_rfl,by kernel_rfl,rfl,fun l' s' k' hm hp=>zmY ht hi hu hm hp,_,_,_,_,H9.sub (List.Sublist.cons _ (List.Sublist.cons_cons _ (List.Sublist.cons_cons _ (List.sublist_append_right _ _))))⟩
section
variable {P:Program}{N:Nat}{ops:Array Oper}{ρ:Env}{w w':World}{i:Nat}{rest:List Nat}{a:Act}{Q:Exit→Act→World→Prop}
theorem zm0 {d:Option Nat}{v:Value}(ha:Rep a ρ N)(h:opv P ops i ρ w=some (d,true,.ok (.value v) w'))(k:wpOps P ops Q rest (a.put d v) w'):wpOps P ops Q (i::rest) a w:=by
 obtain ⟨o,ho,rfl,hw,hr⟩:=zQ h;have h1:Region.wanted o (yielded ops a.tmps)=true:=by rw [jg ha];exact hw
 rw [←ha.eval] at hr;rw [wpOps_cons];unfold wpOp;simp only [ho,h1,if_true];left;unfold Oper.wp;rw [hr];exact k
theorem zm1 {d:Option Nat}{dd:Deferred}(ha:Rep a ρ N)(h:opv P ops i ρ w=some (d,true,.ok (.defer dd) w'))(k:wpOps P ops Q rest ({ a with defers:=dd::a.defers }.put d undef) w'):wpOps P ops Q (i::rest) a w:=by
 obtain ⟨o,ho,rfl,hw,hr⟩:=zQ h;have h1:Region.wanted o (yielded ops a.tmps)=true:=by rw [jg ha];exact hw
 rw [←ha.eval] at hr;rw [wpOps_cons];unfold wpOp;simp only [ho,h1,if_true];left;unfold Oper.wp;rw [hr];exact k
end
def ddv (b2 b3:Nat):Deferred:= { target:=.fn (.func 100) (qc b2 b3),args:=#[] }
theorem zm2 (t:ByteArray)(ht:t.size≤100000):FnZ Tryz.prog 69 #[.string t] (zmV t):=fun B w0 w L HS=>by
 refine calls_of_wp_defers (f:=69) (fn:=Tryz.f69) (c:=zd Tryz.f69) Tryz.func69 kr ?_;have ha:=zdO #[.string t] 13 14 rfl;show (zd Tryz.f69).wp _ _ { tmps:=#[.string t]++Array.replicate 13 undef,defers:=[] } w;rw [show zd Tryz.f69=.seq (zq (zd Tryz.f69)) (zw (zd Tryz.f69)) by kernel_rfl];refine wp_seq ?_;have h0:WP Tryz.prog 14 (zq (zd Tryz.f69)) (fun e ρ w'=>match e with | .normal=> ∃b2 b3,ρ=zm (zm (ini #[.string t]) (some 2) (.pointer (some ⟨b2,0,none⟩))) (some 3) (.pointer (some ⟨b3,0,none⟩))∧St B w0 w' ((b3,.cells #[.int .i64 0] 33 (0,0))::(b2,.cells #[.bool false,.string ⟨#[]⟩,.slice none 0 0] 44 (0,0))::L) | _=>False) (ini #[.string t]) w:=by
  refine yP [0,1] kr<|zP HS (some 2) 44 (.agg #[.bool false,.string ⟨#[]⟩,.slice none 0 0]) kr kr kr ?_;intro b2 w1 H1;refine zP H1 (some 3) 33 (.int .i64 0) kr kr kr ?_;intro b3 w2 H2;refine zc ?_;exact ⟨b2,b3,rfl,H2⟩
 refine Go.wp_mono (h0 _ ha) ?_;rintro e a1 w1 ⟨ρ1,hr1,hq⟩;cases e with
 | normal=>
  obtain ⟨b2,b3,rfl,H1⟩:=hq;show (zw (zd Tryz.f69)).wp _ _ a1 w1;rw [show zw (zd Tryz.f69)=.seq (zq (zw (zd Tryz.f69))) (zw (zw (zd Tryz.f69))) by kernel_rfl];refine wp_seq ?_;rw [show zq (zw (zd Tryz.f69))=.region 1 (zg (zq (zw (zd Tryz.f69)))) false by kernel_rfl];refine wp_region ?_;rw [show List.range (zg (zq (zw (zd Tryz.f69)))).size=[0,1] by kernel_rfl];refine zm0 (d:=some 5) (v:=.func (.func 100) #[] (qc b2 b3)) (w':=w1) hr1 kr ?_;have hr2:=hr1.put (some 5) (zM (by rfl)) (.func (.func 100) #[] (qc b2 b3));refine zm1 (d:=none) (dd:=ddv b2 b3) (w':=w1) hr2 kr ?_;show (zw (zw (zd Tryz.f69))).wp _ _ { a1.put (some 5) (.func (.func 100) #[] (qc b2 b3)) with defers:=ddv b2 b3::(a1.put (some 5) (.func (.func 100) #[] (qc b2 b3))).defers } w1;have hds:(a1.put (some 5) (.func (.func 100) #[] (qc b2 b3))).defers=[]:=hr2.defers;rw [hds];have hD:vc [ddv b2 b3] { a1.put (some 5) (.func (.func 100) #[] (qc b2 b3)) with defers:=[ddv b2 b3] } (yV [(0,.string t),(2,.pointer (some ⟨b2,0,none⟩)),(3,.pointer (some ⟨b3,0,none⟩))] (zm (zm (zm (ini #[.string t]) (some 2) (.pointer (some ⟨b2,0,none⟩))) (some 3) (.pointer (some ⟨b3,0,none⟩))) (some 5) (.func (.func 100) #[] (qc b2 b3)))) 14:=by
   refine ⟨rfl,?_⟩;have hS:vC (zm (zm (zm (ini #[.string t]) (some 2) (.pointer (some ⟨b2,0,none⟩))) (some 3) (.pointer (some ⟨b3,0,none⟩))) (some 5) (.func (.func 100) #[] (qc b2 b3))) [(0,.string t),(2,.pointer (some ⟨b2,0,none⟩)),(3,.pointer (some ⟨b3,0,none⟩))]:=⟨kr,kr,kr,trivial⟩
   rw [uy hS];exact ⟨rfl,hr2.size,hr2.at_⟩
  have H2:=H1.perm (List.Perm.swap _ _ _);refine Go.wp_mono (zmZ t ht [ddv b2 b3] b2 b3 _ H2 _ hD) ?_;rintro e a2 w2 ⟨ρ2,hr3,hq⟩;cases e with
  | ret=>
   obtain ⟨h2,h3,l,s,p,n,c,k,T,hi,hs,hz,H3⟩:=hq;show Leaves _ _ a2.tmps _ a2.defers _ _;rw [hr3.defers];refine leaves_cons (f:=100) (args:=qc b2 b3) (by simp) kr<|(zmT b2 b3 w2).mono ?_;rintro e u' w' ⟨rfl,rfl,rfl⟩;have hR:Res Tryz.prog w' ρ2 [.cell 2 44,.cell 3 33] [.agg #[.bool l,.string s,.slice p n c],.int .i64 0]:=
    .agg (b:=b2) (#[.bool l,.string s,.slice p n c]) 44 (0,0) h2 (H3.get 0 rfl) kr (.one (b:=b3) (.int .i64 0) (#[.int .i64 0]) 33 (0,0) h3 (H3.get 1 rfl) kr rfl .nil)
   have hres:=Res.run (fn:=Tryz.f69) hr3.rep (show Res Tryz.prog w' ρ2 Tryz.f69.results.toList _ from hR);refine ⟨_,hres,_,T,rfl,.inl ⟨l,s,p,n,c,k,rfl,hi,hs,hz⟩,H3.sub (List.Sublist.cons _ (List.sublist_cons_self ..))⟩
  | panic ch=>
   obtain ⟨h2,h3,rfl,hb,x1,x2,x3,y,H3⟩:=hq;show Leaves _ _ a2.tmps _ a2.defers _ _;rw [hr3.defers];refine leaves_cons (f:=100) (args:=qc b2 b3) (by simp) kr<|(zmU b2 b3 x1 x2 x3 y H3).mono ?_;rintro e u' w' ⟨rfl,rfl,H4⟩;have hR:Res Tryz.prog w' ρ2 [.cell 2 44,.cell 3 33] [.agg #[.bool false,.string ⟨#[]⟩,.slice none 0 0],.int .i64 4]:=
    .agg (b:=b2) (#[.bool false,.string ⟨#[]⟩,.slice none 0 0]) 44 (0,0) h2 (H4.get 0 rfl) kr (.one (b:=b3) (.int .i64 4) (#[.int .i64 4]) 33 (0,0) h3 (H4.get 1 rfl) kr rfl .nil)
   have hres:=Res.run (fn:=Tryz.f69) hr3.rep (show Res Tryz.prog w' ρ2 Tryz.f69.results.toList _ from hR);refine ⟨_,hres,_,[],rfl,.inr ⟨rfl,rfl,hb⟩,H4.sub (List.Sublist.cons _ (List.sublist_cons_self ..))⟩
  | _=>exact (hq:False).elim
 | _=>exact (hq:False).elim
theorem zbT: ∀ {k:Fo},pureF k=true→k.cnt≤szF k
 | .nil,_=>Nat.le_refl _
 | .cons l s k r,h=>by
  simp only [pureF,Bool.and_eq_true,Bool.not_eq_true'] at h;have h1:=zbT h.1.2;have h2:=zbT h.2;have h3:=zga l s (szF k);simp only [Fo.cnt,szF];unfold sz1 at*;split
  ·rename_i q
   have h4:=len_zero (jm h.1.1 q);rw [h4];simp only [Fo.cnt];omega
  ·have:=xW (frm l) (s.size+szF k);omega
theorem yr.sz {t u:ByteArray}{l:Bool}{s:ByteArray}{k:Fo}(h:yr t l s k u):szF k≤t.size∧k.cnt≤t.size:=by
 obtain ⟨hm,hp,hi⟩:=h;have hlen:=congrArg List.length hi;rw [zy,List.length_append,qY hm (zY hp)] at hlen;have hc:=zbT hp;have:szF k≤sz1 l s (szF k):=by
  unfold sz1;split
  ·rename_i q
   have h4:=len_zero (jm hm q);rw [h4];simp only [szF];omega
  ·omega
 omega
section
variable {P:Program}{N:Nat}{ops:Array Oper}{K:Env→World→Prop}{ρ:Env}{w w0:World}{i B:Nat}{r:List Nat}{l:List (Nat×Obj)}
theorem zdP (HS:St B w0 w l)(d:Option Nat)(f:Nat)(args:Array Value){ok:Value→List (Nat×Obj)→Prop}(hc:FnZ P f args ok)
 (h:opv P ops i ρ w=some (d,true,.ok (.enter f args) w)) (hd:dOK d N=true)
 (kk: ∀v T w',ok v T→St B w0 w' (T++l)→WPs P N ops K r (zm ρ d v) w'):WPs P N ops K (i::r) ρ w:=by
 obtain ⟨o,ho,rfl,hw,hr⟩:=zQ h;refine WPo.run ho hw fun a ha=>?_;rw [hr,Oper.upon_enter];refine (hc B w0 w l HS).mono ?_;rintro _ w' ⟨v,T,rfl,h1,h2⟩;exact ⟨_,ha.put _ (zM hd) v,kk v T w' h1 h2⟩
end
theorem FnZ.intro {P:Program}{f:Nat}{fn:Func}{c:Code}(rs:List ResultVar)(N:Nat){args:Array Value}{ok:Value→List (Nat×Obj)→Prop}(hf:P.funcs[f]? =some fn)(hb:fn.body=some c)(hr:fn.results.toList=rs)(hn:args.size+(fn.ntmps-args.size)=N)
 (h: ∀B w0 w L,St B w0 w L→WP P N c (yJ P rs fun v w'=> ∃T,ok v T∧St B w0 w' (T++L)) (ini args) w):FnZ P f args ok:=fun B w0 w L HS=>
 (jS hf hb hr hn (h B w0 w L HS)).mono fun e w' ⟨v,he,T,h1,h2⟩=>⟨v,T,he,h1,h2⟩
def erV (n:Int):Value:=.tuple #[.agg #[.bool false,.string ⟨#[]⟩,.slice none 0 0],.int .i64 n]
def zm3 (t:ByteArray):Prop:= ∀(l:Bool) (s:ByteArray) (k:Fo),mixed l s k.len=false→pureF k=true→tl t≠wr1 l s (szF k) (wrF k)
def xE (t:ByteArray)(v:Value)(T:List (Nat×Obj)):Prop:=
 (4000<t.size∧v=erV 2∧T=[])∨(t.size≤4000∧(
  (∃(l:Bool) (s:ByteArray) (p:Option Addr) (n c:Nat) (k:Fo),v=.tuple #[.agg #[.bool l,.string s,.slice p n c],.int .i64 0]∧yr t l s k ⟨#[]⟩∧SlC T p n c k∧s.size≤t.size∧dp1 l (dpF k)≤8)∨
  (∃(l:Bool) (s:ByteArray) (k:Fo),yr t l s k ⟨#[]⟩∧8<dp1 l (dpF k)∧v=erV 5∧T=[])∨
  (zm3 t∧v=erV 4∧T=[])))
theorem zg2 (t:ByteArray)(ht:t.size≤0x800000000000):FnZ Tryz.prog 50 #[.string t] (xE t):=by
 refine FnZ.intro (c:=zd Tryz.f50) [.cell 2 44,.tmp 3] 21 Tryz.func50 kr kr kr fun B w0 w L H0=>zh [0,1] kr kr<|zP H0 (some 2) 44 (.agg #[.bool false,.string ⟨#[]⟩,.slice none 0 0]) kr kr kr ?_;intro b1 w1 H1;refine zj (some 3) (.int .i64 0) (fun w=>by kernel_rfl) kr<|zc<|zb kr ?_;by_cases h4:t.size≤4000
 ·refine rS [.v,.v,.E (.bool (decide ((4000:Int)<(ByteArray.size t:Int)))) (.bool false) (za (decide_eq_false (by omega)))] H1 kr fun gs1 w2 H2=>zl kr kr<|zp kr<|wW<|zh [0,1,2,3,4,5,6,7] kr kr<|rp [.v] H2 kr fun gs2 w3 H3=>wX [1,2,3,4,5,6,7] ?_;have H4:St B w0 w3 ((b1,r0)::L):=H3.as kr;refine zdP H4 (some 12) 69 #[.string t] (zm2 t (by omega)) kr kr ?_;rintro _ T w4 (⟨l,s,p,n,c,k,rfl,hi,hs,hz⟩ | ⟨rfl,rfl,hb⟩) H5
  ·have H6:St B w0 w4 ((b1,r0)::(T++L)):=H5.perm List.perm_middle.symm;have hsz:=hi.sz;refine rp [.v,.v,.v] H6 kr fun gs3 w5 H7=>wX [5,6,7]<|zP H7 (some 4) 44 (.agg #[.bool false,.string ⟨#[]⟩,.slice none 0 0]) kr kr kr ?_;intro b2 w6 H8;refine rp [.s 0,.v] H8 kr fun gs4 w7 H9=>wX []<|zc ?_;have H10:St B w0 w7 ((b2,.cells #[.bool l,.string s,.slice p n c] 44 (0,0))::(b1,r0)::(T++L)):=H9.as kr;refine wW<|zb kr<|zh [0,1,2] kr kr<|rp [.l 0] H10 kr fun gs5 w8 H11=>wX [1,2] ?_;have H12:St B w0 w8 ((b2,.cells #[.bool l,.string s,.slice p n c] 44 (0,0))::(b1,r0)::(T++L)):=H11.as kr;have hS:=hs.1.at H12 (fun e he=>by simp [he]);refine qm H12 (some 16) 19 #[.agg #[.bool l,.string s,.slice p n c]] (fun w=>zx w.heap.size w p n k) (.int .i64 ((dp1 l (dpF k):Nat):Int)) (zdv l s p n c k (by omega) (by omega)) hS (fun w=>by kernel_rfl) kr ?_;intro w9 H13;by_cases h8:dp1 l (dpF k)≤8
   ·refine rp [.E (.bool (decide (8<((dp1 l (dpF k):Nat):Int)))) (.bool false) (za (decide_eq_false (by omega)))] H13 kr fun gs6 w10 H14=>wX []<|zc<|zl kr kr<|zp kr<|wW<|rS [.l 0,.v,.s 1,.v] H14 kr fun gs7 w11 H15=>?_;have H16:St B w0 w11 ((b2,.cells #[.bool l,.string s,.slice p n c] 44 (0,0))::(b1,.cells #[.bool l,.string s,.slice p n c] 44 (0,0))::(T++L)):=H15.as kr;refine zn kr<|wV ?_;exact ⟨[.agg #[.bool l,.string s,.slice p n c],.int .i64 0],(.agg (b:=b1) (#[.bool l,.string s,.slice p n c]) 44 (0,0) kr (H16.get 1 kr) kr (.tmp (.int .i64 0) kr .nil)),T,.inr ⟨h4,.inl ⟨l,s,p,n,c,k,rfl,hi,hs,hz,h8⟩⟩,H16.sub (List.Sublist.cons _ (List.sublist_cons_self ..))⟩
   ·refine rp [.E (.bool (decide (8<((dp1 l (dpF k):Nat):Int)))) (.bool true) (za (decide_eq_true (by omega)))] H13 kr fun gs6 w10 H14=>wX []<|zc<|zi kr kr<|rS [.v,.s 1,.v] H14 kr fun gs7 w11 H15=>?_;have H16:St B w0 w11 ((b2,.cells #[.bool l,.string s,.slice p n c] 44 (0,0))::(b1,r0)::(T++L)):=H15.as kr;refine zn kr<|wV ?_;exact ⟨[.agg #[.bool false,.string ⟨#[]⟩,.slice none 0 0],.int .i64 5],(.agg (b:=b1) (#[.bool false,.string ⟨#[]⟩,.slice none 0 0]) 44 (0,0) kr (H16.get 1 kr) kr (.tmp (.int .i64 5) kr .nil)),[],.inr ⟨h4,.inr (.inl ⟨l,s,k,hi,by omega,rfl,rfl⟩)⟩,H16.sub (List.Sublist.cons _ (List.Sublist.cons _ (List.sublist_append_right _ _)))⟩
  ·have H6:St B w0 w4 ((b1,r0)::L):=H5.as kr;refine rp [.v,.v,.v] H6 kr fun gs3 w5 H7=>wX [5,6,7]<|zP H7 (some 4) 44 (.agg #[.bool false,.string ⟨#[]⟩,.slice none 0 0]) kr kr kr ?_;intro b2 w6 H8;refine rp [.s 0,.v] H8 kr fun gs4 w7 H9=>wX []<|zc ?_;have H10:St B w0 w7 ((b2,r0)::(b1,r0)::L):=H9.as kr;refine wW<|zb kr<|zh [0,1,2] kr kr<|rp [.l 0] H10 kr fun gs5 w8 H11=>wX [1,2]<|qm H11 (some 16) 19 #[.agg #[.bool false,.string ⟨#[]⟩,.slice none 0 0]] (fun w=>zx w.heap.size w none 0 .nil) (.int .i64 ((dp1 false (dpF .nil):Nat):Int)) (zdv false ⟨#[]⟩ none 0 0 .nil (by decide) (by decide)) (zx.nil ..) (fun w=>by kernel_rfl) kr ?_;intro w9 H13;refine rp [.E (.bool (decide (8<((dp1 false (dpF .nil):Nat):Int)))) (.bool false) (za (by decide))] H13 kr fun gs6 w10 H14=>wX []<|zc<|zl kr kr<|zp kr<|wW<|rS [.l 0,.v,.s 1,.v] H14 kr fun gs7 w11 H15=>?_;have H16:St B w0 w11 ((b2,r0)::(b1,r0)::L):=H15.as kr;refine zn kr<|wV ?_;exact ⟨[.agg #[.bool false,.string ⟨#[]⟩,.slice none 0 0],.int .i64 4],(.agg (b:=b1) (#[.bool false,.string ⟨#[]⟩,.slice none 0 0]) 44 (0,0) kr (H16.get 1 kr) kr (.tmp (.int .i64 4) kr .nil)),[],.inr ⟨h4,.inr (.inr ⟨hb,rfl,rfl⟩)⟩,H16.sub (List.Sublist.cons _ (List.sublist_cons_self ..))⟩
 ·refine rS [.v,.v,.E (.bool (decide ((4000:Int)<(ByteArray.size t:Int)))) (.bool true) (za (decide_eq_true (by omega)))] H1 kr fun gs1 w2 H2=>zi kr kr<|rS [.v,.s 0,.v] H2 kr fun gs2 w3 H3=>?_;have H4:St B w0 w3 ((b1,r0)::L):=H3.as kr;refine zn kr<|wV ?_;exact ⟨[.agg #[.bool false,.string ⟨#[]⟩,.slice none 0 0],.int .i64 2],(.agg (b:=b1) (#[.bool false,.string ⟨#[]⟩,.slice none 0 0]) 44 (0,0) kr (H4.get 0 kr) kr (.tmp (.int .i64 2) kr .nil)),[],.inl ⟨by omega,rfl,rfl⟩,H4.sub (List.sublist_cons_self ..)⟩
theorem xF {l:List Value}(h:l.all (·.oneCell')=true): ∀u∈l,u.oneCell'=true:=fun u hu=>List.all_eq_true.1 h u hu
abbrev Kf:=Fr Nat
def kS:Sh Nat where
 K:=2
 hd g:=[.int .u8 (g:Int)]
 ok _:=True
 mx:=1000
 len _:=rfl
 one _:=xF rfl
abbrev Fe:=Fr (Nat×ByteArray)
def fS:Sh (Nat×ByteArray) where
 K:=3
 hd x:=[.int .u64 ((x.1:Nat):Int),.string x.2]
 ok x:=x.1<0x10000000000000000∧x.2.size≤0x800000000000
 mx:=0x800000000000
 len _:=rfl
 one _:=xF rfl
def Fr.all {α:Type}(p:α→Prop):Fr α→Prop
 | .nil=>True
 | .cons a k r=>p a∧k.all p∧r.all p
theorem qE.ok {α:Type}{S:Sh α}{B:Nat}{w:World} : ∀ {k:Fr α} {b off:Nat},qE S B w k b off→k.all S.ok
 | .nil,_,_,_=>trivial
 | .cons a k r,b,off,⟨⟨C,T,fz,p,n,c,h1,h2,h3,h4,h5,h6,h7,h8⟩,h9⟩=>⟨h5,by
  rcases h8 with rfl|⟨b',o',e,h⟩
  ·trivial
  ·exact h.ok,h9.ok⟩
theorem SlR.ok {α:Type}{S:Sh α}{B:Nat}{w:World}{p:Option Addr}{n:Nat}{k:Fr α}(h:SlR S B w p n k):k.all S.ok:=by
 rcases h.2.2 with rfl|⟨b,o,e,h⟩
 ·trivial
 ·exact h.ok
def zv (g:Nat)(b:Kf)(i:Nat):Nat×Kf:=match b.at (if g=42 then 0 else i) with
 | some x=>x
 | none=>(0,.nil)
def yb (g:Nat):Nat×Nat:=if g=104 then (32,32) else if g=97 then (20,20) else if g=115 then (65,65) else if g=98 then (0,64) else (0,0)
def yj (g n:Nat):Nat×Nat:=if g=40 then (n,n) else if g=42 then (0,40) else (0,0)
def yR (x:Nat×Nat)(n:Nat):Bool:=decide (x.1≤n)&&decide (n≤x.2)
def zE (g bl n sz ln:Nat):Bool:=(decide (n=0)||decide (g=110))&&(yR (yb g) sz&&yR (yj g bl) ln)
def w64 (x:Int):Int:=IntKind.i64.wrap x
def qd:Fe→Nat→Kf→Nat→Int→Int
 | .nil,_,_,_,room=>room
 | .cons x l r,g,b,i,room=>
  if (if zE (zv g b i).1 (zv g b i).2.len x.1 x.2.size l.len=true then qd l (zv g b i).1 (zv g b i).2 0 (w64 (room-1)) else-1)<0
  then (if zE (zv g b i).1 (zv g b i).2.len x.1 x.2.size l.len=true then qd l (zv g b i).1 (zv g b i).2 0 (w64 (room-1)) else-1)
  else qd r g b (i+1) (if zE (zv g b i).1 (zv g b i).2.len x.1 x.2.size l.len=true then qd l (zv g b i).1 (zv g b i).2 0 (w64 (room-1)) else-1)
def zW (g:Nat)(b:Kf)(x:Nat×ByteArray)(l:Fe)(room:Int):Int:=
 if zE g b.len x.1 x.2.size l.len=true then qd l g b 0 (w64 (room-1)) else-1
theorem zak (x:Nat×ByteArray)(l r:Fe)(g:Nat)(b:Kf)(i:Nat)(room:Int):qd (.cons x l r) g b i room=
 if zW (zv g b i).1 (zv g b i).2 x l room<0 then zW (zv g b i).1 (zv g b i).2 x l room else qd r g b (i+1) (zW (zv g b i).1 (zv g b i).2 x l room):=rfl
def yf (g:Nat):Bool:=decide (g=40)||decide (g=42)
def yK (g:Nat)(x:Nat×ByteArray):ByteArray:=if g=110 then zf (dg x.1) else if yf g=true then ⟨#[]⟩ else x.2
def qv:Fe→Nat→Kf→Nat→Fo
 | .nil,_,_,_=>.nil
 | .cons x l r,g,b,i=>.cons (yf (zv g b i).1) (yK (zv g b i).1 x) (if yf (zv g b i).1=true then qv l (zv g b i).1 (zv g b i).2 0 else .nil) (qv r g b (i+1))
def zX (g:Nat)(b:Kf)(l:Fe):Fo:=if yf g=true then qv l g b 0 else .nil
theorem zbU (x:Nat×ByteArray)(l r:Fe)(g:Nat)(b:Kf)(i:Nat):qv (.cons x l r) g b i=.cons (yf (zv g b i).1) (yK (zv g b i).1 x) (zX (zv g b i).1 (zv g b i).2 l) (qv r g b (i+1)):=rfl
def qj (g:Nat)(l:Bool)(s:ByteArray)(n:Nat):Nat:=if g=110 then (jC l s n).1 else 0
def yS (g:Nat)(s:ByteArray):ByteArray:=if g=110∨yf g=true then ⟨#[]⟩ else s
def jL:Fo→Nat→Kf→Nat→Fe
 | .nil,_,_,_=>.nil
 | .cons l s k r,g,b,i=>.cons (qj (zv g b i).1 l s k.len,yS (zv g b i).1 s) (if yf (zv g b i).1=true then jL k (zv g b i).1 (zv g b i).2 0 else .nil) (jL r g b (i+1))
def yT (g:Nat)(b:Kf)(k:Fo):Fe:=if yf g=true then jL k g b 0 else .nil
theorem zg3 (l:Bool)(s:ByteArray)(k r:Fo)(g:Nat)(b:Kf)(i:Nat):jL (.cons l s k r) g b i=.cons (qj (zv g b i).1 l s k.len,yS (zv g b i).1 s) (yT (zv g b i).1 (zv g b i).2 k) (jL r g b (i+1)):=rfl
theorem Fr.len_zero {α:Type}{k:Fr α}(h:k.len=0):k=.nil:=by
 cases k with
 | nil=>rfl
 | cons a k r=>simp only [Fr.len] at h;omega
theorem xg {s:ByteArray}(h:s.size=0):s=⟨#[]⟩:=by
 obtain ⟨d⟩:=s;have:d=#[]:=Array.eq_empty_of_size_eq_zero h;rw [this]
theorem zdQ {g bl n sz ln:Nat}(h:zE g bl n sz ln=true):(n=0∨g=110)∧((yb g).1≤sz∧sz≤(yb g).2)∧(yj g bl).1≤ln∧ln≤(yj g bl).2:=by
 unfold zE yR at h;simp only [Bool.and_eq_true,Bool.or_eq_true,decide_eq_true_eq] at h;exact h
theorem zg4 (g:Nat)(b:Kf)(x:Nat×ByteArray)(l:Fe)(hx:x.1<0x10000000000000000)(hf:zE g b.len x.1 x.2.size l.len=true)
 (hr:yf g=true→jL (qv l g b 0) g b 0=l):qj g (yf g) (yK g x) (zX g b l).len=x.1∧yS g (yK g x)=x.2∧yT g b (zX g b l)=l:=by
 obtain ⟨h1,h2,h3⟩:=zdQ hf;obtain ⟨n,s⟩:=x;unfold qj yS yK yT zX yf at*;by_cases e1:g=110
 ·subst e1;have hs:s.size=0:=by have:=h2.2;simp only [yb] at this;simp at this;rw [this];rfl
  have hl:l.len=0:=by have:=h3.2;simp only [yj] at this;simp at this;exact this
  obtain rfl:=Fr.len_zero hl;obtain rfl:=xg hs;refine ⟨?_,rfl,rfl⟩;show (jC false (zf (dg n)) 0).1=n;rw [zmf hx]
 ·have hn:n=0:=by rcases h1 with h | h;exact h;exact absurd h e1
  subst hn;by_cases e2:(decide (g=40)||decide (g=42))=true
  ·have hs:s.size=0:=by
    have:=h2.2;simp only [Bool.or_eq_true,decide_eq_true_eq] at e2;rcases e2 with rfl | rfl<;>(simp only [yb] at this;simp at this;rw [this];rfl)
   obtain rfl:=xg hs;simp only [e1,e2,if_false,if_true,or_true];exact ⟨trivial,trivial,hr e2⟩
  ·have hl:l.len=0:=by
    have:=h3.2;simp only [Bool.or_eq_true,decide_eq_true_eq,not_or] at e2;simp only [yj,e2.1,e2.2,if_false] at this;omega
   obtain rfl:=Fr.len_zero hl;have e3:=Bool.not_eq_true _▸e2;refine ⟨?_,?_,?_⟩<;>simp [e1,e3]
theorem zdR: ∀(l:Fe) (g:Nat) (b:Kf) (i:Nat) (room:Int),l.all fS.ok→0≤qd l g b i room→jL (qv l g b i) g b i=l
 | .nil,_,_,_,_,_,_=>rfl
 | .cons x l r,g,b,i,room,ho,h=>by
  rw [zak] at h;by_cases hv:zW (zv g b i).1 (zv g b i).2 x l room<0
  ·rw [if_pos hv] at h;omega
  ·rw [if_neg hv] at h;have hv':=hv;unfold zW at hv;by_cases hf:zE (zv g b i).1 (zv g b i).2.len x.1 x.2.size l.len=true
   ·rw [if_pos hf] at hv;obtain ⟨q1,q2,q3⟩:=zg4 _ _ x l ho.1.1 hf fun _=>zdR l _ _ 0 _ ho.2.1 (Int.not_lt.1 hv);rw [zbU,zg3,q1,q2,q3,zdR r g b (i+1) _ ho.2.2 h]
   ·rw [if_neg hf] at hv;omega
def yG (g:Nat)(b:Kf)(x:Nat×ByteArray)(l:Fe):ByteArray×Nat:=
 if zW g b x l 1001<0 then (⟨#[]⟩,1) else zJ (yf g) (yK g x) (zX g b l).len (zX g b l)
theorem zbV {g:Nat}{b:Kf}{x:Nat×ByteArray}{l:Fe}(hx:x.1<0x10000000000000000)(ho:l.all fS.ok)(h: ¬zW g b x l 1001<0):
 qj g (yf g) (yK g x) (zX g b l).len=x.1∧yS g (yK g x)=x.2∧yT g b (zX g b l)=l:=by
 unfold zW at h;by_cases hf:zE g b.len x.1 x.2.size l.len=true
 ·rw [if_pos hf] at h;exact zg4 g b x l hx hf fun _=>zdR l g b 0 _ ho (Int.not_lt.1 h)
 ·rw [if_neg hf] at h;omega
def Fr.snoc {α:Type} :Fr α→α→Fr α→Fr α
 | .nil,a,k=>.cons a k .nil
 | .cons a' k' r,a,k=>.cons a' k' (r.snoc a k)
theorem zg5 {α:Type}(x:El α): ∀L:List (El α),yA (L++ [x])=(yA L).snoc x.a x.k
 | []=>rfl
 | y::r=>by simp only [List.cons_append,yA,Fr.snoc,zg5 x r]
def xG:Nat→Kf→List (Nat×Kf)→List (Nat×Kf)
 | _,_,[]=>[]
 | g,k,(h,m)::r=>if h=42 then xG h (m.snoc g k) r else (h,m.snoc g k)::r
def jr (c:Nat)(st:List (Nat×Kf)):Option (List (Nat×Kf)):=
 if c=110∨c=104∨c=97∨c=115∨c=98 then some (xG c .nil st)
 else if c=40∨c=42 then if st.length=5 then none else some ((c,.nil)::st)
 else if c=41 then match st with
  | []=>none
  | (h,m)::r=>if r.length=0∨h≠40 then none else some (xG h m r)
 else none
def kj:List UInt8→List (Nat×Kf)→Option (List (Nat×Kf))
 | [],st=>some st
 | c::r,st=>match jr c.toNat st with
  | none=>none
  | some st'=>kj r st'
def parseM (form:ByteArray):Option Kf:=
 if 40<form.size then none else match kj (tl form) [(40,.nil)] with
  | some [(_,m)]=>some m
  | _=>none
def jM (c:Nat):Bool:=c==110||(c==104||(c==97||(c==115||c==98)))
theorem zg6 {c:Nat} :jM c=true↔c=110∨c=104∨c=97∨c=115∨c=98:=by unfold jM;simp
def kdOk (s:ByteArray):Bool:=(s.size==1&&jM (by_ s 0))||(s.size==2&&(by_ s 0==42&&jM (by_ s 1)))
theorem zm4 {s:ByteArray} :kdOk s=true↔(s.size=1∧jM (by_ s 0)=true)∨(s.size=2∧by_ s 0=42∧jM (by_ s 1)=true):=by
 unfold kdOk;simp
def kdB (s:ByteArray):Kf:=if by_ s 0=42 then .cons (by_ s 1) .nil .nil else .nil
def kfL:List ByteArray→Kf
 | []=>.nil
 | s::r=>.cons (by_ s 0) (kdB s) (kfL r)
theorem zg7: ∀ks:List ByteArray,(kfL ks).len=ks.length
 | []=>rfl
 | s::r=>by simp only [kfL,Fr.len,zg7 r,List.length_cons]
theorem zg8: ∀(ks:List ByteArray) (i:Nat),(kfL ks).at i=(ks[i]?).map fun s=>(by_ s 0,kdB s)
 | [],i=>by cases i<;>rfl
 | s::r,0=>rfl
 | s::r,i+1=>by simp only [kfL,Fr.at,zg8 r i,List.getElem?_cons_succ]
theorem zg9 (ks:List ByteArray)(i:Nat):zv 40 (kfL ks) i=match ks[i]? with
 | some s=>(by_ s 0,kdB s)
 | none=>(0,.nil):=by
 unfold zv;rw [if_neg (by decide),zg8];cases ks[i]?<;>rfl
theorem zdS (c i:Nat):zv 42 (.cons c .nil .nil) i=(c,.nil):=by
 unfold zv;rw [if_pos rfl];rfl
def Fr.cnt {α:Type} :Fr α→Nat
 | .nil=>0
 | .cons _ k r=>1+k.cnt+r.cnt
def jN (c:Nat):Fe→Bool
 | .nil=>true
 | .cons x l r=>zE c 0 x.1 x.2.size l.len&&jN c r
def jD (s:ByteArray)(x:Nat×ByteArray)(l:Fe):Bool:=zE (by_ s 0) (kdB s).len x.1 x.2.size l.len&&(!(by_ s 0==42)||jN (by_ s 1) l)
def yB:List ByteArray→Fe→Bool
 | [],.nil=>true
 | s::ks,.cons x l r=>jD s x l&&yB ks r
 | [],.cons _ _ _=>false
 | _::_,.nil=>false
theorem zdT: ∀ {ks:List ByteArray} {l:Fe},yB ks l=true→l.len=ks.length
 | [],.nil,_=>rfl
 | s::ks,.cons x l r,h=>by
  simp only [yB,Bool.and_eq_true] at h;simp only [Fr.len,List.length_cons,zdT h.2]
 | [],.cons _ _ _,h=>nomatch h
 | _::_,.nil,h=>nomatch h
theorem zha {c:Nat}(hc:jM c=true){n sz ln:Nat}(h:zE c 0 n sz ln=true):ln=0:=by
 have h3:=(zdQ h).2.2.2;have:(yj c 0).2=0:=by
  rw [zg6] at hc;unfold yj;rw [if_neg (by omega),if_neg (by omega)]
 omega
theorem zhb {r:Nat}(h:r≤2000):w64 ((r:Int)-1)=(r:Int)-1:=by
 unfold w64;exact wrap_i64 (by omega) (by omega)
def LeR (v:Int)(P:Prop)(n room:Nat):Prop:=(P∧n≤room→v=((room-n:Nat):Int))∧(¬(P∧n≤room)→v<0)
theorem LeR.pos {v:Int}{P:Prop}{n room:Nat}(h:LeR v P n room): ¬v<0↔P∧n≤room:=by
 constructor
 ·intro h1;by_cases h2:P∧n≤room
  ·exact h2
  ·exact absurd (h.2 h2) h1
 ·intro h1 h2;rw [h.1 h1] at h2;omega
theorem LeR.two {x:Nat×ByteArray}{l r:Fe}{g:Nat}{b:Kf}{i:Nat}{room:Nat}{P Q:Prop}(h1:LeR (zW (zv g b i).1 (zv g b i).2 x l room) P (1+l.cnt) room)
 (h2:P→ ∀q:Nat,q≤room→LeR (qd r g b (i+1) q) Q r.cnt q):LeR (qd (.cons x l r) g b i room) (P∧Q) (Fr.cnt (.cons x l r)) room:=by
 rw [zak];have ec:Fr.cnt (Fr.cons x l r)=1+l.cnt+r.cnt:=rfl;rw [ec];by_cases hv:zW (zv g b i).1 (zv g b i).2 x l room<0
 ·rw [if_pos hv];refine ⟨fun h=>?_,fun _=>hv⟩;exact absurd hv (h1.pos.2 ⟨h.1.1,by omega⟩)
 ·rw [if_neg hv];obtain ⟨hP,hn⟩:=h1.pos.1 hv;rw [h1.1 ⟨hP,hn⟩];have h3:=h2 hP (room-(1+l.cnt)) (by omega);refine ⟨fun h=>?_,fun h=>?_⟩
  ·rw [h3.1 ⟨h.1.2,by omega⟩];congr 1;omega
  ·exact h3.2 fun h9=>h ⟨⟨hP,h9.1⟩,by omega⟩
theorem zhc {c:Nat}(hc:jM c=true)(x:Nat×ByteArray)(l:Fe)(room:Nat)(hr:room≤2000):LeR (zW c .nil x l room) (zE c 0 x.1 x.2.size l.len=true) (1+l.cnt) room:=by
 unfold zW;by_cases hf:zE c 0 x.1 x.2.size l.len=true
 ·rw [if_pos (show zE c (Fr.len .nil) x.1 x.2.size l.len=true from hf),zhb hr];obtain rfl:=Fr.len_zero (zha hc hf);show LeR ((room:Int)-1) _ (1+0) room;exact ⟨fun h=>by omega,fun h=>by have: ¬1+0≤room:=fun h9=>h ⟨hf,h9⟩;omega⟩
 ·rw [if_neg (show ¬zE c (Fr.len .nil) x.1 x.2.size l.len=true from hf)];exact ⟨fun h=>absurd h.1 hf,fun _=>by decide⟩
theorem zhd {c:Nat}(hc:jM c=true): ∀(l:Fe) (i room:Nat),room≤2000→LeR (qd l 42 (.cons c .nil .nil) i room) (jN c l=true) l.cnt room
 | .nil,i,room,_=>⟨fun _=>rfl,fun h=>absurd ⟨rfl,Nat.zero_le _⟩ h⟩
 | .cons x l r,i,room,hr=>by
  have h1:=zhc hc x l room hr;have h2:LeR (zW (zv 42 (.cons c .nil .nil) i).1 (zv 42 (.cons c .nil .nil) i).2 x l room) (zE c 0 x.1 x.2.size l.len=true) (1+l.cnt) room:=by rw [zdS];exact h1
  have h3:=LeR.two (r:=r) (Q:=jN c r=true) h2 fun _ q hq=>zhd hc r (i+1) q (by omega);have e:(jN c (.cons x l r)=true)=(zE c 0 x.1 x.2.size l.len=true∧jN c r=true):=by simp only [jN,Bool.and_eq_true]
  rw [e];exact h3
theorem zm5 {s:ByteArray}(hs:kdOk s=true)(x:Nat×ByteArray)(l:Fe)(room:Nat)(hr:room≤2000):LeR (zW (by_ s 0) (kdB s) x l room) (jD s x l=true) (1+l.cnt) room:=by
 rcases zm4.1 hs with ⟨h1,h2⟩|⟨h1,h2,h3⟩
 ·have hn: ¬by_ s 0=42:=by rw [zg6] at h2;omega
  have eb:kdB s=.nil:=by unfold kdB;rw [if_neg hn]
  have e:(jD s x l=true)=(zE (by_ s 0) 0 x.1 x.2.size l.len=true):=by
   unfold jD;rw [eb,beq_eq_false_iff_ne.2 hn];simp [Fr.len]
  rw [e,eb];exact zhc h2 x l room hr
 ·have eb:kdB s=.cons (by_ s 1) .nil .nil:=by unfold kdB;rw [if_pos h2]
  have e:(jD s x l=true)=(zE 42 1 x.1 x.2.size l.len=true∧jN (by_ s 1) l=true):=by
   unfold jD;rw [eb,h2];simp [Fr.len]
  rw [e,eb,h2];unfold zW;by_cases hf:zE 42 1 x.1 x.2.size l.len=true
  ·rw [if_pos (show zE 42 (Fr.len (.cons (by_ s 1) .nil .nil)) x.1 x.2.size l.len=true from hf),zhb hr];by_cases h0:room=0
   ·subst h0;refine ⟨fun h=>by omega,fun _=>?_⟩;cases l with
    | nil=>exact (by decide:w64 (-1)<0)
    | cons y k r=>
     have hk:zW (by_ s 1) .nil y k (-1)<0:=by
      unfold zW;by_cases hf2:zE (by_ s 1) 0 y.1 y.2.size k.len=true
      ·rw [if_pos (show zE (by_ s 1) (Fr.len .nil) y.1 y.2.size k.len=true from hf2)];obtain rfl:=Fr.len_zero (zha h3 hf2);exact (by decide:w64 (-1-1)<0)
      ·rw [if_neg (show ¬zE (by_ s 1) (Fr.len .nil) y.1 y.2.size k.len=true from hf2)];decide
     show qd _ _ _ _ (-1)<0;rw [zak,zdS,if_pos hk];exact hk
   ·have h4:=zhd h3 l 0 (room-1) (by omega);rw [show (room:Int)-1=((room-1:Nat):Int) by omega];refine ⟨fun h=>?_,fun h=>h4.2 fun h9=>h ⟨⟨hf,h9.1⟩,by omega⟩⟩;rw [h4.1 ⟨h.1.2,by omega⟩];congr 1;omega
  ·rw [if_neg (show ¬zE 42 (Fr.len (.cons (by_ s 1) .nil .nil)) x.1 x.2.size l.len=true from hf)];exact ⟨fun h=>absurd h.1.1 hf,fun _=>by decide⟩
theorem zhe {ks0:List ByteArray}(h0: ∀s∈ks0,kdOk s=true): ∀(ks:List ByteArray) (l:Fe) (i room:Nat),ks0.drop i=ks→l.len=ks.length→room≤2000→LeR (qd l 40 (kfL ks0) i room) (yB ks l=true) l.cnt room
 | [],.nil,i,room,_,_,_=>⟨fun _=>rfl,fun h=>absurd ⟨rfl,Nat.zero_le _⟩ h⟩
 | [],.cons _ _ _,_,_,_,h,_=>by simp [Fr.len] at h
 | _::_,.nil,_,_,_,h,_=>by simp [Fr.len] at h
 | s::ks,.cons x l r,i,room,hd,hl,hr=>by
  have hi:ks0[i]? =some s:=by
   have:=congrArg (fun L=>L[0]?) hd
   simpa using this
  have h1:LeR (zW (zv 40 (kfL ks0) i).1 (zv 40 (kfL ks0) i).2 x l room) (jD s x l=true) (1+l.cnt) room:=by
   rw [zg9,hi];exact zm5 (h0 s (List.mem_of_getElem? hi)) x l room hr
  have h3:=LeR.two (r:=r) (Q:=yB ks r=true) h1 fun _ q hq=>zhe h0 ks r (i+1) q (by rw [←List.drop_drop,hd];rfl) (by simp only [Fr.len,List.length_cons] at hl;omega) (by omega);have e:(yB (s::ks) (.cons x l r)=true)=(jD s x l=true∧yB ks r=true):=by simp only [yB,Bool.and_eq_true]
  rw [e];exact h3
theorem zbW {ks:List ByteArray}(h0: ∀s∈ks,kdOk s=true)(l:Fe): ¬zW 40 (kfL ks) (0,⟨#[]⟩) l 1001<0↔yB ks l=true∧l.cnt≤1000:=by
 unfold zW;have ef:zE 40 (kfL ks).len 0 (ByteArray.size ⟨#[]⟩) l.len=decide (l.len=ks.length):=by
  rw [zg7];unfold zE yR yb yj;simp only [decide_eq_decide];rw [Bool.eq_iff_iff];simp only [Bool.and_eq_true,Bool.or_eq_true,decide_eq_true_eq];simp;constructor
  ·rintro ⟨_,h⟩;omega
  ·intro h;exact ⟨rfl,by omega⟩
 by_cases hl:l.len=ks.length
 ·rw [if_pos (show zE 40 (kfL ks).len (0,(⟨#[]⟩:ByteArray)).1 (ByteArray.size (0,(⟨#[]⟩:ByteArray)).2) l.len=true by exact ef.trans (decide_eq_true hl))];rw [show w64 (1001-1)=((1000:Nat):Int) by decide];exact (zhe h0 ks l 0 1000 rfl hl (by decide)).pos
 ·rw [if_neg (show ¬zE 40 (kfL ks).len (0,(⟨#[]⟩:ByteArray)).1 (ByteArray.size (0,(⟨#[]⟩:ByteArray)).2) l.len=true by
   intro h;exact hl (of_decide_eq_true (ef.symm.trans h)))]
  exact ⟨fun h=>absurd (by decide) h,fun h=>absurd (zdT h.1) hl⟩
def nxK (form:ByteArray)(i:Nat):Nat:=if by_ form i=42 then i+2 else i+1
def ksM (form:ByteArray):Nat→Nat→List ByteArray
 | 0,_=>[]
 | f+1,i=>if i<form.size then form.extract i (nxK form i)::ksM form f (nxK form i) else []
def okK (form:ByteArray):Nat→Nat→Bool
 | 0,i=>decide (form.size≤i)
 | f+1,i=>decide (form.size≤i)||((jM (by_ form i)||(by_ form i==42&&(decide (i+1<form.size)&&jM (by_ form (i+1)))))&&okK form f (nxK form i))
structure zbX (form:ByteArray)(ks:List ByteArray):Prop where
 size:form.size≤40
 ok:okK form 41 0=true
 cut:ksM form 41 0=ks
 parse:parseM form=some (kfL ks)
 kd: ∀s∈ks,kdOk s=true
end Go.Proofs.YtpghmdbjmigjlaaGreatDoor
namespace Go.Proofs.YtpghmdbjmigjlaaGreatDoor
open Go Go.RowKit
open D2 (Gh)
set_option linter.unusedVariables false
def iS:Fl X3 where
 K:=3
 cs:=X3.cs
 pos:=by decide
 len _:=rfl
 one a:=fun u hu=>List.all_eq_true.1 (show (X3.cs a).all (·.oneCell')=true from rfl) u hu
theorem zdU: ∀L:List X3,zo iS L=cells3 L
 | []=>rfl
 | x::r=>by
  show X3.cs x++zo iS r=_;rw [zdU r];rfl
abbrev emB:ByteArray:=⟨#[]⟩
abbrev b3 (s:ByteArray):X3:=⟨false,s,none,0,0,.nil⟩
abbrev itV (x:X3):Value:=.agg #[.bool x.l,.string x.s,.slice x.p x.n x.c]
abbrev itO (x:X3):Obj:=.cells #[.bool x.l,.string x.s,.slice x.p x.n x.c] 44 (0,0)
abbrev zdV (L:List X3):Obj:=.cells (zo iS L).toArray 44 (0,0)
theorem zbY (T:List (Nat×Obj))(s:ByteArray):ya T (b3 s).p (b3 s).n (b3 s).k:=⟨rfl,Nat.zero_le _,.inl rfl⟩
theorem zm6 {T T':List (Nat×Obj)}{M:List X3}(h:AllIn T M)(hs: ∀e∈T,e∈T'):AllIn T' M:=fun x hx=>⟨(h x hx).1.mono hs,(h x hx).2⟩
end Go.Proofs.YtpghmdbjmigjlaaGreatDoor
