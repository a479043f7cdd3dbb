/-
  Proved: the law CommandReads returns true, and its arguments read behind the call as before it, for every input that the form takes; no further condition; the card of its row, tied.
-/
import Derived.Test.YtgjcpjckaopeeaaGreatDoorKz
import Derived.Test.YtgjcpjckaopeeaaGreatDoorTa
import Derived.Test.YtgjcpjckaopeeaaGreatDoorTiAll
import Derived.Test.YtgjcpjckaopeeaaGreatDoorTie
import Derived.Test.YtgjcpjckaopeeaaGreatDoorCards
import Derived.Deep.DeepHandedRow
import Derived.SevenTiedAt
set_option maxRecDepth 100000
namespace Go.Proofs.YtgjcpjckaopeeaaGreatDoor
open Go.ChangeShapes Go.WideShapes Go.ChangeAt Go.RowKit Disk
open Go.Proofs.YtgjcpjckaopeeaaGreatDoor.Calls
open Names (Str)
theorem Tryz.ownKnob4:ownKnob Tryz.prog.godebug=none:=by kernel_rfl
theorem eX (H:Type)(enc:TypeId × Value->H)(W:World)(base:Nat)(args:Array Value)(ds gs:List (DataW H))(before:List MemPlace)
  (hval:∀(j:Nat) t v,Tryz.f4.params[j]? = some t->args[j]? = some v->Value.okWide Tryz.prog W .any base t v)
  (hW:DataW.Whole enc Tryz.prog Tryz.f4.params.toList Rows.commandReadsSpec.vars false W args.toList ds gs before) (hk:(DataW.weightsEach Tryz.prog (Tryz.f4.params.toList ++ Rows.commandReadsSpec.plain.varTypes Tryz.prog) (ds ++ gs)).all (·<=reachBytes)=true) (hE:EnvC W) :
  Calls Tryz.prog 4 args W fun e W'=>∃v,e=.returned v/\Rows.commandReadsSpec.post enc Tryz.prog Tryz.f4 false true false false W args v W':=by
 have hW':=hW
 obtain ⟨p,q,hA0,hV,rfl,hfz,hnd⟩:=hW
 have hA:DataW.TrodAll enc Tryz.prog W 0 (fun _=>true) true Tryz.f4.params.toList args.toList ds p:=hA0
 rw [Tryz.params4] at hA hval
 obtain ⟨v0,v1,d0,d1,p0,p1,rfl,rfl,rfl,h0,h1⟩:=trodAll_two hA
 obtain ⟨rfl,rfl⟩:=trodVars_none hV
 have k0:=h0
 have k1:=h1
 have lt0:∀x ∈ p0,x.block<W.heap.size:=by obtain ⟨m,hm⟩:=k0;exact DataW.trod_lt m _ _ _ hm
 have lt1:∀x ∈ p1,x.block<W.heap.size:=by obtain ⟨m,hm⟩:=k1;exact DataW.trod_lt m _ _ _ hm
 obtain ⟨a0,len0,cap0,rfl⟩:=okWide_slice Tryz.underlying32 (hval 0 32 v0 rfl rfl)
 obtain ⟨t1,rfl⟩:=okWide_string Tryz.underlying9 (hval 1 9 v1 rfl rfl)
 obtain ⟨f0,hf0⟩:=h0
 obtain ⟨B,hB,_⟩:=mG hf0
 obtain ⟨f1,hf1⟩:=h1
 obtain ⟨⟨⟨sl⟩⟩,r1,_,w1⟩:=DataW.trod_string Tryz.underlying9 hf1
 simp [Value.cells] at r1
 subst r1
 have hs:sl.length<=9223372036854775807:=by
  have:sl.length<=maxLen:=w1
  unfold maxLen at this
  omega
 clear hA0
 refine (ue _ B sl W hB hE hs).mono fun e W' ⟨he,hg⟩=>?_
 subst he
 have bel:=gS hg
 exact ⟨_,rfl,_,_,_,[],_,[],hW',trodAll_mk1 (shut_bool Tryz.underlying4 _),(trodAll_cons_mk (Below.trod Tryz.laidOut (by kernel_rfl) (of_decide_eq_true (by kernel_rfl)) k0 bel lt0) (trodAll_cons_mk (Below.trod Tryz.laidOut (by kernel_rfl) (of_decide_eq_true (by kernel_rfl)) k1 bel lt1) trodAll_mk0)),rfl,bel.frame _,fun h=>by cases h⟩
theorem fJ (os:Os)(started:os.Started)(H:Type)(enc:TypeId × Value->H) :
  ReturnsInHanded {} Tryz.checked os 4 .any (fun w args=>(Rows.commandReadsSpec.pre enc Tryz.prog Tryz.f4 Rows.commandReadsRow.domain false w args/\laidMetH Tryz.prog Rows.commandReadsRow.laid w)/\sizedMet enc Tryz.prog Tryz.f4 (OpenSpec.ofChange Rows.commandReadsSpec) false w args) (Rows.commandReadsSpec.post enc Tryz.prog Tryz.f4 false true false false):=by
 refine dB (C:=Tryz.checked) (X:=fun w _=>laidMetH Tryz.prog Rows.commandReadsRow.laid w) (fun _ _ _ hh h=>h.of_heap hh) Tryz.ownKnob4 started (by kernel_rfl) Tryz.func4
  (ChangeSpec.witness_at (enc:=enc) (C:=Tryz.checked) (os:=os) (X:=fun w _=>laidMetH Tryz.prog Rows.commandReadsRow.laid w) false (laidWorld os) #[.slice none 0 0,.string ⟨#[]⟩] 8 rfl (by kernel_rfl) (by kernel_rfl) (by kernel_rfl) (by kernel_rfl) (by kernel_rfl) (je os _)) ?_
 intro W base args ds gs before hval hW _ hk hL hsh
 exact eX H enc W base args ds gs before hval hW hk (uu hL hsh)
theorem commandReads_holds:Rows.CommandReadsSaid :=
 OpenClaim.holds_of_wide 4 Tryz.f4 rfl rfl rfl rfl rfl rfl rfl ⟨rfl,rfl,rfl,rfl,rfl⟩ rfl rfl rfl rfl rfl (by kernel_rfl) Tryz.func4 (by kernel_rfl)
  (of_decide_eq_true (by kernel_rfl)) (by unfold Func.isWrapper;first | (rw [if_pos (by decide +kernel)];kernel_rfl) | (rw [if_neg (by decide +kernel)];exact ⟨rfl,rfl⟩))
  (fun os started H enc _=>fJ os started H enc)
theorem commandReads_card:Rows.CommandReadsCardSaid :=
 Claim7.holds_tied_plain_at .later [] [.data,.data,.data,.data,.sentinel,.sentinel,.data,.data,.pinned] true (true,"d9105974769889f1c9f162d62aa7360d76f5adb52a6f5c9161ac8be2b606ed10") true
  commandReads_holds (fun _ h=>by cases h) (by kernel_rfl) (fun _ h=>by cases h) commandReads_row_tie rfl ⟨rfl,rfl⟩ (by kernel_rfl) rfl
  (fun f fn hf hfn=>by
   obtain rfl:f=4:=Option.some.inj ((show Tryz.prog.funcNamed "wicket/wicketlaw09.CommandReads" = some 4 by kernel_rfl).symm.trans hf) |>.symm
   obtain rfl:fn=Tryz.f4:=(Option.some.inj (Tryz.func4.symm.trans hfn)).symm
   exact ⟨by kernel_rfl,fun j t ht=>by
    rw [Tryz.params4] at ht
    rcases j with _ | _ | j
    ·obtain rfl:t=32:=by simpa using ht.symm
     exact (show Tryz.prog.wantsStandIn 32=false by kernel_rfl)
    ·obtain rfl:t=9:=by simpa using ht.symm
     exact (show Tryz.prog.wantsStandIn 9=false by kernel_rfl)
    ·simp at ht⟩)
  (by kernel_rfl)
#print axioms commandReads_card
end Go.Proofs.YtgjcpjckaopeeaaGreatDoor
