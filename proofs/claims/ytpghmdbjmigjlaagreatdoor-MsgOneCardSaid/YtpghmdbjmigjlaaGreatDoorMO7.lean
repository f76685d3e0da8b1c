/-
  For every input the law answers true,and each argument reads afterwards as it read before. The listed variable is tied.
-/
import Derived.Test.YtpghmdbjmigjlaaGreatDoorRows
import Derived.Test.YtpghmdbjmigjlaaGreatDoorTie
import Derived.Test.YtpghmdbjmigjlaaGreatDoorCards
import Derived.WalkKit
import Derived.ProofKit
import Derived.OpenShut
import Derived.ShutString
import Derived.ChangeOld
import Derived.Below
import Derived.SevenTiedAt
import Derived.LaidLaws
import Derived.LaidHandle
import Derived.MakeChecks
import Derived.Test.YtpghmdbjmigjlaaGreatDoorMO6
set_option maxRecDepth 100000
set_option maxHeartbeats 4000000
namespace Go.Proofs.YtpghmdbjmigjlaaGreatDoor.msgOne
open Go Go.ChangeShapes Go.WideShapes Go.ChangeAt Go.RowKit
open Go.ChangeMaps (open_string shut_string)
set_option linter.unusedVariables false
theorem own:ownKnob Tryz.prog.godebug=none:=by kernel_rfl
theorem zjA:laidOutB Tryz.prog=true:=by kernel_rfl
theorem zrf (os:Os)(started:os.Started)(H:Type)(enc:TypeId×Value→H):
 ReturnsInHanded {} Tryz.checked os 3 .any (fun w args=>(Rows.msgOneSpec.pre enc Tryz.prog Tryz.f3 [] false w args∧laidMetH Tryz.prog [("ecclesia/keccak.marks",Rows.laid_ecclesia_keccak_marks),("ecclesia/sha.roots",Rows.laid_ecclesia_sha_roots),("unicode/utf8.acceptRanges",Rows.laid_unicode_utf8_acceptRanges),("unicode/utf8.first",Rows.laid_unicode_utf8_first)] w)∧sizedMet enc Tryz.prog Tryz.f3 (OpenSpec.ofChange Rows.msgOneSpec) false w args)
  (Rows.msgOneSpec.post enc Tryz.prog Tryz.f3 false true false false):=by
 refine returnsInHanded_of_change_and (C:=Tryz.checked) (X:=fun w _=>laidMetH Tryz.prog [("ecclesia/keccak.marks",Rows.laid_ecclesia_keccak_marks),("ecclesia/sha.roots",Rows.laid_ecclesia_sha_roots),("unicode/utf8.acceptRanges",Rows.laid_unicode_utf8_acceptRanges),("unicode/utf8.first",Rows.laid_unicode_utf8_first)] w) (fun _ _ _ hh h=>h.of_heap hh) own started (by kernel_rfl) Tryz.func3
  (ChangeSpec.witness_at (enc:=enc) (C:=Tryz.checked) (os:=os) (X:=fun w _=>laidMetH Tryz.prog [("ecclesia/keccak.marks",Rows.laid_ecclesia_keccak_marks),("ecclesia/sha.roots",Rows.laid_ecclesia_sha_roots),("unicode/utf8.acceptRanges",Rows.laid_unicode_utf8_acceptRanges),("unicode/utf8.first",Rows.laid_unicode_utf8_first)] w) false (zjz os) #[.agg #[wZ,wZ,wZ,.string ⟨#[]⟩,wZ,wZ,wZ,wZ,wZ,wZ,wZ,wZ,wZ,.int .i64 0,wZ,wZ,wZ,wZ,wZ,wZ,wZ,wZ,.int .i64 0,.string ⟨#[]⟩,.slice none 0 0,.slice none 0 0],.agg #[wZ,wZ,wZ,.string ⟨#[]⟩,wZ,wZ,wZ,wZ,wZ,wZ,wZ,wZ,wZ,.int .i64 0,wZ,wZ,wZ,wZ,wZ,wZ,wZ,wZ,.int .i64 0,.string ⟨#[]⟩,.slice none 0 0,.slice none 0 0]] 8 rfl (by kernel_rfl) (by kernel_rfl) (by kernel_rfl) (by kernel_rfl) (by kernel_rfl) (zre os _)) ?_
 intro W base args ds gs before hval0 hW _ _ hL _;have hval: ∀(j:Nat) t v,Tryz.f3.params[j]? =some t→args[j]? =some v→Value.okWide Tryz.prog W .any base t v:=hval0;have hW':=hW;obtain ⟨p,q,hA0,hV,rfl,hfz,hnd⟩:=hW;have hA:DataW.TrodAll enc Tryz.prog W 0 (fun _=>true) true Tryz.f3.params.toList args.toList ds p:=hA0;rw [Tryz.params3] at hA hval;have hM:=zrb hL;obtain ⟨v0,vs0,d0,ds0,p0,q0,hargs,rfl,rfl,h0,r0⟩:=trodAll_cons hA;obtain ⟨v1,vs1,d1,ds1,p1,q1,rfl,rfl,rfl,h1,r1⟩:=trodAll_cons r0;obtain ⟨rfl,rfl,rfl⟩:=trodAll_nil r1;obtain rfl:args=#[v0,v1]:=by cases args;simp_all
 obtain ⟨rfl,rfl⟩:=trodVars_none hV;have k0:=h0;have lt0: ∀x∈p0,x.block<W.heap.size:=by obtain ⟨m,hm⟩:=k0;exact DataW.trod_lt m _ _ _ hm
 obtain ⟨m0z,p0z,n0,c0,q0z,k0z,e0,rfl,hsl0,hsm0,hnm0,hk0⟩:=zjw (hval 0 31 v0 rfl rfl) h0;have k1:=h1;have lt1: ∀x∈p1,x.block<W.heap.size:=by obtain ⟨m,hm⟩:=k1;exact DataW.trod_lt m _ _ _ hm
 obtain ⟨m1z,p1z,n1,c1,q1z,k1z,e1,rfl,hsl1,hsm1,hnm1,hk1⟩:=zjw (hval 1 31 v1 rfl rfl) h1;clear hA0 hval0;refine (zq0 m0z p0z n0 c0 q0z k0z e0 hsl0 hsm0 hnm0 m1z p1z n1 c1 q1z k1z e1 hsl1 hsm1 hnm1 W ⟨hk0,hk1,hM⟩).mono fun e W' ⟨he,bel⟩=>?_;subst he;exact ⟨_,rfl,_,_,_,[],_,[],hW',trodAll_mk1 (shut_bool Tryz.underlying4 _),(trodAll_cons_mk (Below.trod zjA (by kernel_rfl) (of_decide_eq_true (by kernel_rfl)) k0 bel lt0) (trodAll_cons_mk (Below.trod zjA (by kernel_rfl) (of_decide_eq_true (by kernel_rfl)) k1 bel lt1) trodAll_mk0)),rfl,bel.frame _,fun h=>by cases h⟩
theorem zrg:Rows.msgOneRow.holds Tryz.pinned (OpenSpec.ofChange Rows.msgOneSpec):=
 OpenClaim.holds_of_wide 3 Tryz.f3 rfl rfl rfl rfl rfl rfl rfl ⟨rfl,rfl,rfl,rfl,rfl⟩ rfl rfl rfl rfl rfl (by kernel_rfl) Tryz.func3 (by kernel_rfl)
  (of_decide_eq_true (by kernel_rfl)) (by unfold Func.isWrapper;first | (rw [if_pos (by decide+kernel)];kernel_rfl) | (rw [if_neg (by decide+kernel)];exact ⟨rfl,rfl⟩))
  (fun os started H enc _=>zrf os started H enc)
theorem zrh: ∀(j:Nat) t,Tryz.f3.params[j]? =some t→Tryz.prog.wantsStandIn t=false:=fun j t ht=>by
 rw [Tryz.params3] at ht;have hm:t∈[31,31]:=by
  have:=List.mem_of_getElem? (show [31,31][j]? =some t by simpa using ht);exact this
 simp only [List.mem_cons,List.not_mem_nil,or_false] at hm;rcases hm with rfl | rfl
 ·exact (show Tryz.prog.wantsStandIn 31=false by kernel_rfl)
 ·exact (show Tryz.prog.wantsStandIn 31=false by kernel_rfl)
theorem one_holds:Rows.MsgOneCardSaid:=
 Claim7.holds_tied_plain_at .later [] [.data,.data,.data,.pinned] true (true, "7937756070afe871770204dc18cd1b39f170b3c36848bd55c8231279c4bbc9e0") false
  zrg (fun _ h=>by cases h) (by kernel_rfl) (fun _ h=>by cases h) msgOne_row_tie rfl ⟨rfl,rfl⟩ (by kernel_rfl) rfl
  (fun f fn hf hfn=>by
   obtain rfl:f=3:=Option.some.inj ((show Tryz.prog.funcNamed "ecclesia/ecclesialaw21.MsgOne" =some 3 by kernel_rfl).symm.trans hf) |>.symm;obtain rfl:fn=Tryz.f3:=(Option.some.inj (Tryz.func3.symm.trans hfn)).symm
   exact ⟨by kernel_rfl,zrh⟩)
  (by kernel_rfl)
#print axioms one_holds
end Go.Proofs.YtpghmdbjmigjlaaGreatDoor.msgOne
