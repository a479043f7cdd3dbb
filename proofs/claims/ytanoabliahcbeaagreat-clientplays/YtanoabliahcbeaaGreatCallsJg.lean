import Derived.Test.YtanoabliahcbeaaGreatDiskAll
namespace Go.Proofs.YtanoabliahcbeaaGreat.Disk
open Go.RowKit
section
variable {P:Program} {z:Nat} {H:World->Prop} {md:Region.Mode} {ops:Array Oper} {Q:Exit->Act->World->Prop}
theorem wpHold_skip {i:Nat}{oi:Oper}{l:List Oper}{d:Option Tmp}{n:Nat}{listed:Array Bool}{a:Act}{w:World}(hH:H w)(hi:ops.toList.drop i=oi :: l)(hd:oi.dst=d)
  (hs:Region.noSelect ops=true) (hz:waitsH md ops z i=true) (hsd:shutB md ops listed=true) (hf:Region.free md ops listed i=true) (hr:(Region.ready md ops listed).contains i=true)
  (hQ:∀c a w,Q (.panic c) (a.put d undef) w->Q (.panic c) a w) (hw:Region.wanted oi (yielded ops a.tmps)=false)
  (h:wpHold P z H md ops Q n (listed.setIfInBounds i true) (a.put d undef) w):wpHold P z H md ops Q (n+1) listed a w:=by
 subst hd
 exact wpHold_first (v:=undef) (get_of_dropH hi) (Region.noSelect_spec hs) hz hQ n listed a w (shutB_spec hsd) hH (Region.free_spec (get_of_dropH hi) hf) (by simpa using hr) (.inr ⟨hw,rfl⟩) h
theorem wpHold_two {i j:Nat}{oi oj:Oper}{l l':List Oper}{n:Nat}{listed:Array Bool}{a:Act}{w:World}(hi:ops.toList.drop i=oi :: l)(hj:ops.toList.drop j=oj :: l')(hr:Region.ready md ops listed=[i,j])(hwi:Region.wanted oi (yielded ops a.tmps)=true)(hwj:Region.wanted oj (yielded ops a.tmps)=true)
  (h:∀K:Act->World->Prop,Shut (∀a' w',(i≠z->H w')->wpHold P z H md ops Q n (listed.setIfInBounds i true) a' w'->K a' w')->Oper.wp P oi a w K Q)
  (h':∀K:Act->World->Prop,Shut (∀a' w',(j≠z->H w')->wpHold P z H md ops Q n (listed.setIfInBounds j true) a' w'->K a' w')->Oper.wp P oj a w K Q):wpHold P z H md ops Q (n+1) listed a w:=by
 refine ⟨fun h0=>(by rw [hr] at h0;cases h0),fun x hx=>?_⟩
 rw [hr] at hx
 simp only [List.mem_cons,List.not_mem_nil,or_false] at hx
 rcases hx with rfl | rfl
 ·refine wpOp_step (get_of_dropH hi) fun K hK=>?_
  rw [if_pos hwi]
  exact h K fun a' w' h1 h2=>hK a' w' ⟨h1,h2⟩
 ·refine wpOp_step (get_of_dropH hj) fun K hK=>?_
  rw [if_pos hwj]
  exact h' K fun a' w' h1 h2=>hK a' w' ⟨h1,h2⟩
end
end Go.Proofs.YtanoabliahcbeaaGreat.Disk
