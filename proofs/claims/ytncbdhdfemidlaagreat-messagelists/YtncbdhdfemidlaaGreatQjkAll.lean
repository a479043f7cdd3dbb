import Derived.Test.YtncbdhdfemidlaaGreatQf
import Derived.Test.YtncbdhdfemidlaaGreatQh
import Derived.Test.YtncbdhdfemidlaaGreatOdeAll
set_option maxHeartbeats 8000000
set_option maxRecDepth 100000
namespace Go.Proofs.YtncbdhdfemidlaaGreat
open Go.RowKit Disk Table L5
open _root_.Go.Proofs.YtncbdhdfemidlaaGreat.Calls _root_.Go.Proofs.YtncbdhdfemidlaaGreat.Command
def L5.Goes:Prop:=∀(a:Act) (w W:World) (x0:Nat) (v:Value) (q:Int) (l:List PMsg),AfterD w x0 v q l a W->r25.wp Tryz.prog (bodyPostM Fence.wide 0 Tryz.prog Tryz.f5 (fun e w'=>e=.returned (.bool true)/\w.grownBy w' none)) a W
theorem lists5 (HG:ReadGood)(HE:Goes)(v:Value)(l:List PMsg)(q:Int)(w:World)(hs:Msgs w v l)(hl:∀m ∈ l,GoodM m):Calls Tryz.prog 5 #[v,.int .i64 q] w fun e w'=>e=.returned (.bool true)/\w.grownBy w' none:=by
 have HS:Hid (Msgs w v l/\(∀m ∈ l,GoodM m)/\ReadGood):=⟨hs,hl,HG⟩
 have HE':Hid (∀(a:Act) (W:World) (x0:Nat),AfterD w x0 v q l a W->r25.wp Tryz.prog (bodyPostM Fence.wide 0 Tryz.prog Tryz.f5 (fun e w'=>e=.returned (.bool true)/\w.grownBy w' none)) a W):=fun a W x0 h=>HE a w W x0 v q l h
 obtain ⟨ao,n,cap,rfl,hn,hn',_⟩:=msgs_open hs
 clear hs hl HG hn HE hn'
 refine calls_marks Tryz.func5 f5_eq ?_
 simp only [Tryz.ntmps5,List.size_toArray,List.length_cons,List.length_nil,Nat.reduceAdd,Nat.reduceSub,Array.replicate_succ,Array.replicate_zero,List.push_toArray,List.append_toArray,List.nil_append,List.cons_append]
 obtain ⟨R,hR⟩:∃R,bodyPostM Fence.wide 0 Tryz.prog Tryz.f5 (fun e w'=>e=.returned (.bool true)/\w.grownBy w' none)=R:=⟨_,rfl⟩
 rw [hR] at HE' ⊢
 clear hR
 unfold b5
 dsimp only [Tryz.f5,Option.getD,cL,cR]
 go_wp2_with fail
 obtain ⟨W,hW,HW⟩:=al3 w #[.slice ao n cap] #[.int .i64 q] #[.bool false] 54 3 4
 rw [hW]
 obtain ⟨x0,hx0⟩:∃x,w.heap.size=x:=⟨_,rfl⟩
 rw [hx0] at HW ⊢
 have HB:Hid (Bx w W x0 (.slice ao n cap) q l):=by
  have h:=HW.out
  exact ⟨h.1,h.2.1,h.2.2.1,hx0,h.2.2.2.1,by have:=h.2.2.2.2;omega,HS.out.1,HS.out.2.1⟩
 clear hW hx0 HW
 refine Code.wp_mono ?_ (partA _ w W x0 (.slice ao n cap) q l _ _ _ ⟨rfl,rfl,rfl,rfl,rfl,rfl,rfl,rfl⟩ HB.out)
 rintro e a1 w1 h1
 cases e with
 | normal =>
  obtain ⟨v7,v8,v10,hS,hB,_⟩:=h1
  have hr:r9.wp Tryz.prog R a1 w1:=partB a1 w w1 x0 _ q l v7 v8 v10 R hS hB fun a2 w2 h2=>partD HS.out.2.2 a2 w w2 x0 _ q l v10 R h2 fun a3 w3 h3=>HE'.out a3 w3 x0 h3
  exact ‹∀(a:Act) (w:World),Code.wp Tryz.prog r9 R a w->_› _ _ hr
 | _=>exact h1.elim
end Go.Proofs.YtncbdhdfemidlaaGreat
namespace Go.Proofs.YtncbdhdfemidlaaGreat
open Go.ChangeShapes Go.WideShapes Go.ChangeAt Go.RowKit Go.Joins Go.Deep Disk L5
open _root_.Go.Proofs.YtncbdhdfemidlaaGreat.Calls _root_.Go.Proofs.YtncbdhdfemidlaaGreat.Command
theorem Tryz.bytes34:Tryz.prog.bytesOf 34=136:=by kernel_rfl
theorem L5.add_add' (a:Addr)(i j:Nat):(a.add i).add j=a.add (i+j):=by
 obtain ⟨b,off,spot⟩:=a
 unfold Addr.add
 by_cases h1:i=0
 ·subst h1;simp
 ·by_cases h2:j=0
  ·subst h2;simp
  ·simp [h1,h2,Nat.add_assoc]
section
variable {H:Type} {enc:TypeId × Value->H} {W:World}
theorem open_msgs {fuel:Nat}{v:Value}{x:DataW H × List MemPlace}(h:DataW.trod enc Tryz.prog W 0 (fun _=>true) true fuel 54 [v]=some x)(hft:Fits 54 x.1):∃l:List PMsg,Msgs W v l/\∀m ∈ l,GoodM m:=by
 rcases open_slice Tryz.underlying54 h with ⟨hcs,hx⟩ | ⟨a,len,cap,m,n,D,Pl,hcs,_,hl,hm,hmm,hx,hel⟩
 ·simp at hcs
  subst hcs
  exact ⟨[],⟨none,0,rfl,by simp,fun j hj=>absurd hj (by simp)⟩,fun m hm=>absurd hm (List.not_mem_nil)⟩
 ·simp at hcs hmm
  subst hcs
  subst hmm
  rw [hx] at hft
  obtain ⟨hf1,hf2⟩:=fits_slice Tryz.underlying54 hft
  rw [Tryz.bytes34] at hf1
  simp at hf1
  have each:∀i,i<len->∃q:PMsg × Value × Value,(W.cell? (a.add (i*13))=some (.int .i64 q.1.kind)/\W.cell? (a.add (i*13+1))=some (.int .i64 q.1.client)/\W.cell? (a.add (i*13+2))=some (.int .i64 q.1.ask.kind)/\W.cell? (a.add (i*13+3))=some (.int .i64 q.1.ask.token)/\W.cell? (a.add (i*13+4))=some (.int .i64 q.1.ask.session)/\W.cell? (a.add (i*13+5))=some (.int .i64 q.1.ask.number)/\W.cell? (a.add (i*13+6))=some (.int .i64 q.1.ask.mark)/\W.cell? (a.add (i*13+7))=some (q.2.1)/\W.cell? (a.add (i*13+8))=some (.int .i64 q.1.tell.kind)/\W.cell? (a.add (i*13+9))=some (.int .i64 q.1.tell.token)/\W.cell? (a.add (i*13+10))=some (.int .i64 q.1.tell.session)/\W.cell? (a.add (i*13+11))=some (.int .i64 q.1.tell.number)/\W.cell? (a.add (i*13+12))=some (q.2.2))/\Ops W q.2.1 q.1.ask.ops/\Seg W q.2.2 q.1.tell.answer/\GoodM q.1:=by
   intro i hi
   obtain ⟨cs',h1,h2⟩:=hel i (by omega)
   rw [Tryz.cells34] at h1
   obtain ⟨_,hlen,hcell⟩:=World.cells?_some h1
   have hfi:=hf2 (D i) (List.mem_map.2 ⟨i,List.mem_range.2 hi,rfl⟩)
   match cs',hlen with
   | [v0,v1,v2,v3,v4,v5,v6,v7,v8,v9,v10,v11,v12],_ =>
    obtain ⟨m,rfl,rfl,rfl,rfl,rfl,rfl,rfl,rfl,rfl,rfl,rfl,o1,o2,o3,o4,o5⟩:=open_cells h2 hfi
    have e0:=hcell 0 (by omega)
    have e1:=hcell 1 (by omega)
    have e2:=hcell 2 (by omega)
    have e3:=hcell 3 (by omega)
    have e4:=hcell 4 (by omega)
    have e5:=hcell 5 (by omega)
    have e6:=hcell 6 (by omega)
    have e7:=hcell 7 (by omega)
    have e8:=hcell 8 (by omega)
    have e9:=hcell 9 (by omega)
    have e10:=hcell 10 (by omega)
    have e11:=hcell 11 (by omega)
    have e12:=hcell 12 (by omega)
    rw [L5.add_add'] at e0 e1 e2 e3 e4 e5 e6 e7 e8 e9 e10 e11 e12
    exact ⟨(m,v7,v12),⟨by simpa using e0,by simpa using e1,by simpa using e2,by simpa using e3,by simpa using e4,by simpa using e5,by simpa using e6,by simpa using e7,by simpa using e8,by simpa using e9,by simpa using e10,by simpa using e11,by simpa using e12⟩,o1,o2,⟨o5,o3,o4⟩⟩
  obtain ⟨q,hq⟩:=choose_lt each
  refine ⟨(List.range len).map fun i=>(q i).1,⟨some a,m,by simp,by simp;omega,fun j hj=>?_⟩,fun m hm=>?_⟩
  ·simp at hj
   obtain ⟨⟨c0,c1,c2,c3,c4,c5,c6,c7,c8,c9,c10,c11,c12⟩,o1,o2,_⟩:=hq j hj
   obtain ⟨b,off,spot⟩:=a
   have hz:=(hq 0 (by omega)).1.1
   have hspot:spot=none:=by simpa [Addr.add] using World.cell?_spot hz
   subst hspot
   rw [Net.add_addr] at c0 c1 c2 c3 c4 c5 c6 c7 c8 c9 c10 c11 c12
   simp only [List.getElem_map,List.getElem_range]
   exact ⟨b,off,(q j).2.1,(q j).2.2,rfl,⟨c0,by rw [Nat.add_assoc];exact c1,by rw [Nat.add_assoc];exact c2,by rw [Nat.add_assoc];exact c3,by rw [Nat.add_assoc];exact c4,by rw [Nat.add_assoc];exact c5,by rw [Nat.add_assoc];exact c6,by rw [Nat.add_assoc];exact c7,by rw [Nat.add_assoc];exact c8,by rw [Nat.add_assoc];exact c9,by rw [Nat.add_assoc];exact c10,by rw [Nat.add_assoc];exact c11,by rw [Nat.add_assoc];exact c12⟩,o1,o2⟩
  ·obtain ⟨i,hi,rfl⟩:=List.mem_map.1 hm
   exact (hq i (List.mem_range.1 hi)).2.2.2
end
theorem lists_lifted (HG:ReadGood)(HE:Goes)(os:Os)(started:os.Started)(H:Type)(enc:TypeId × Value->H) :
  ReturnsInHanded {} Tryz.checked os 5 .any (Rows.messageListsSpec.pre6 enc Tryz.prog Tryz.f5 Rows.messageListsRow.domain false) (Rows.messageListsSpec.post enc Tryz.prog Tryz.f5 false true false false):=by
 refine returnsInHanded_of_change_sized (C:=Tryz.checked) Tryz.own3 started (by kernel_rfl) Tryz.func5
  (ChangeSpec.witness6 (enc:=enc) (C:=Tryz.checked) false ⟨#[],#[.slice none 0 0,.int .i64 0],[]⟩ 8 (by kernel_rfl) (by kernel_rfl) (by kernel_rfl) (by kernel_rfl)) ?_
 intro W base args ds gs before hval0 hW hcnd hsz0 _
 have hval:∀(j:Nat) t v,Tryz.f5.params[j]? = some t->args[j]? = some v->Value.okWide Tryz.prog W .any base t v:=hval0
 have hW':=hW
 obtain ⟨p,q,hA0,hV,rfl,hfz,hnd⟩:=hW
 have hA:DataW.TrodAll enc Tryz.prog W 0 (fun _=>true) true Tryz.f5.params.toList args.toList ds p:=hA0
 rw [Tryz.params5] at hA hval
 obtain ⟨v0,v1,d0,d1,p0,p1,rfl,rfl,rfl,h0,h1⟩:=trodAll_two hA
 obtain ⟨rfl,rfl⟩:=trodVars_none hV
 have k0:=h0
 have k1:=h1
 have lt0:∀x ∈ p0,x.block<W.heap.size:=by obtain ⟨m,hm⟩:=k0;exact DataW.trod_lt m _ _ _ hm
 have lt1:∀x ∈ p1,x.block<W.heap.size:=by obtain ⟨m,hm⟩:=k1;exact DataW.trod_lt m _ _ _ hm
 have hft:Fits 54 d0:=fits_of (j:=0) hsz0 rfl rfl
 obtain ⟨a0,len0,cap0,rfl⟩:=okWide_slice Tryz.underlying54 (hval 0 54 v0 rfl rfl)
 obtain ⟨z,rfl⟩:∃z:Int,v1=.int .i64 z:=okWide_int Tryz.underlying3 (hval 1 3 v1 rfl rfl)
 obtain ⟨f0,hf0⟩:=h0
 obtain ⟨l,hl,hg⟩:=open_msgs hf0 hft
 clear hA0 hval0 hsz0
 refine (lists5 HG HE _ l z W hl hg).mono fun e W' ⟨he,hg⟩=>?_
 subst he
 have bel:=grown_below hg
 exact ⟨_,rfl,_,_,_,[],_,[],hW',trodAll_mk1 (shut_bool Tryz.underlying4 _),(trodAll_cons_mk (Below.trod Tryz.laidOut (by kernel_rfl) (of_decide_eq_true (by kernel_rfl)) k0 bel lt0) (trodAll_cons_mk (Below.trod Tryz.laidOut (by kernel_rfl) (of_decide_eq_true (by kernel_rfl)) k1 bel lt1) trodAll_mk0)),rfl,bel.frame _,fun h=>by cases h⟩
theorem messageLists_of (HG:ReadGood)(HE:Goes):Rows.MessageListsSaid :=
 OpenClaim.holds_of_wide 5 Tryz.f5 rfl rfl rfl rfl rfl rfl rfl ⟨rfl,rfl,rfl,rfl,rfl⟩ rfl rfl rfl rfl rfl (by kernel_rfl) Tryz.func5 (by kernel_rfl)
  (of_decide_eq_true (by kernel_rfl)) (by unfold Func.isWrapper;first | (rw [if_pos (by decide +kernel)];kernel_rfl) | (rw [if_neg (by decide +kernel)];exact ⟨rfl,rfl⟩))
  (fun os started H enc _=>lists_lifted HG HE os started H enc)
end Go.Proofs.YtncbdhdfemidlaaGreat
