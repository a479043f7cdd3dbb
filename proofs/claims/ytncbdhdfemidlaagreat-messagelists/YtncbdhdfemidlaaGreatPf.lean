import Derived.Test.YtncbdhdfemidlaaGreatPe
set_option maxHeartbeats 1000000
set_option maxRecDepth 100000
namespace Go.Proofs.YtncbdhdfemidlaaGreat
open Go.RowKit Disk
open _root_.Go.Proofs.YtncbdhdfemidlaaGreat.Calls _root_.Go.Proofs.YtncbdhdfemidlaaGreat.Command
def InRw (B:Nat)(w:World)(x:List Value)(a:PMsg × Nat × Nat):Prop:=∃ov av,x=[.int .i64 a.1.kind,.int .i64 a.1.client,.int .i64 a.1.ask.kind,.int .i64 a.1.ask.token,.int .i64 a.1.ask.session,.int .i64 a.1.ask.number,.int .i64 a.1.ask.mark,ov,.int .i64 a.1.tell.kind,.int .i64 a.1.tell.token,.int .i64 a.1.tell.session,.int .i64 a.1.tell.number,av]/\OpsOwn w B ov a.1.ask.ops/\Disk.Own w a.2.1 av a.1.tell.answer/\B<=a.2.1/\∀b,av.ownBlock=some b->b<a.2.2
theorem inR_stab (B:Nat):Stab (fun t=>t=5\/t=116) (InRw B):=by
 refine ⟨fun w w' vs x h hg=>?_,fun w w' vs x g t cur h hb ht hg=>?_⟩
 ·obtain ⟨ov,av,e,h1,h2,h3⟩:=h
  exact ⟨ov,av,e,h1.grown hg,h2.grown hg,h3⟩
 ·obtain ⟨ov,av,e,h1,h2,h3⟩:=h
  exact ⟨ov,av,e,h1.set hb (fun h=>ht (.inr h)) (fun h=>ht (.inl h)) hg,own_set h2 hb (fun h=>ht (.inl h)) hg,h3⟩
def MsgsIn (w:World)(B:Nat)(v:Value)(l:List (PMsg × Nat × Nat)):Prop:=LRow 34 13 (InRw B) w B v l/\l.length<=1034834473200
theorem msgsIn_nil (w:World)(B:Nat):MsgsIn w B (.slice none 0 0) []:=⟨lrow_nil _ _,by simp⟩
theorem MsgsIn.grown {w w':World}{B:Nat}{v:Value}{l:List (PMsg × Nat × Nat)}(h:MsgsIn w B v l)(hg:w.grownBy w' none):MsgsIn w' B v l:=⟨h.1.grown (inR_stab B) hg,h.2⟩
theorem MsgsIn.set {w w':World}{B x t':Nat}{v:Value}{l:List (PMsg × Nat × Nat)}{cc:Array Value}(h:MsgsIn w B v l)(hx:Blk w x t' cc)(h1:t'≠34)(h2:t'≠5)(h3:t'≠116)(hg:w.grownBy w' (some x)):MsgsIn w' B v l:=⟨h.1.set (inR_stab B) hx h1 (fun e=>by rcases e with e | e;exact h2 e;exact h3 e) hg,h.2⟩
theorem MsgsIn.own {w:World}{B:Nat}{v:Value}{l:List (PMsg × Nat × Nat)}(h:MsgsIn w B v l):MsgsOwn w B v (l.map (·.1)):=by
 obtain ⟨⟨vs,h1,h2,h3,h4⟩,hl⟩:=h
 refine ⟨⟨vs,by simpa using h1,by simpa using h2,h3,fun j hj hj'=>?_⟩,by simpa using hl⟩
 obtain ⟨ov,av,e,h5,h6,h7,_⟩:=h4 j hj (by simpa using hj')
 rw [List.getElem_map]
 exact ⟨ov,av,e,h5,h6.mono h7⟩
def AnR (w:World)(x:List Value)(a:Nat × Nat × Nat):Prop:=∃y av L,x=y ++ [av]/\y.length=12/\Disk.Own w a.2.1 av L/\L.length=a.1/\∀b,av.ownBlock=some b->b<a.2.2
theorem anR_stab:Stab (fun t=>t=5) AnR:=by
 refine ⟨fun w w' vs x h hg=>?_,fun w w' vs x g t cur h hb ht hg=>?_⟩
 ·obtain ⟨y,av,L,e,h1,h2,h3⟩:=h
  exact ⟨y,av,L,e,h1,h2.grown hg,h3⟩
 ·obtain ⟨y,av,L,e,h1,h2,h3⟩:=h
  exact ⟨y,av,L,e,h1,own_set h2 hb ht hg,h3⟩
def Answers (w:World)(B:Nat)(v:Value)(l:List (Nat × Nat × Nat)):Prop:=LRow 34 13 AnR w B v l
theorem MsgsIn.answers {w:World}{B:Nat}{v:Value}{l:List (PMsg × Nat × Nat)}(h:MsgsIn w B v l):Answers w B v (l.map fun a=>(a.1.tell.answer.length,a.2)):=by
 obtain ⟨⟨vs,h1,h2,h3,h4⟩,hl⟩:=h
 refine ⟨vs,by simpa using h1,by simpa using h2,h3,fun j hj hj'=>?_⟩
 obtain ⟨ov,av,e,h5,h6,h7,h8⟩:=h4 j hj (by simpa using hj')
 rw [List.getElem_map]
 exact ⟨[.int .i64 l[j].1.kind,.int .i64 l[j].1.client,.int .i64 l[j].1.ask.kind,.int .i64 l[j].1.ask.token,.int .i64 l[j].1.ask.session,.int .i64 l[j].1.ask.number,.int .i64 l[j].1.ask.mark,ov,.int .i64 l[j].1.tell.kind,.int .i64 l[j].1.tell.token,.int .i64 l[j].1.tell.session,.int .i64 l[j].1.tell.number],av,_,e,rfl,h6,rfl,h8⟩
theorem app34i_wp {o:Oper}{a:Act}{K:Act->World->Prop}{Q:Exit->Act->World->Prop}(w:World)(s x:Operand)
  (ho:o.op=.call { callee:=.builtin .append,args:=#[s,x],argTypes:=#[54,54] })
  (B:Nat) (v:Value) (l:List (PMsg × Nat × Nat)) (p:PMsg) (lo hi:Nat) (g:Nat) (ov av:Value) (hs:a.eval s=v) (hx:a.eval x=.slice (some ⟨g,0,none⟩) 1 1)
  (hrow:MsgsIn w B v l) (hc:MB w g ov av p) (hp1:OpsOwn w B ov p.ask.ops) (hp2:Disk.Own w lo av p.tell.answer) (hlo:B<=lo) (hhi:∀b,av.ownBlock=some b->b<hi) (hb:l.length<=1034834473199) (hB:B<=w.heap.size)
  (h:∀g' cap' w',MsgsIn w' B (.slice (some ⟨g',0,none⟩) (l.length+1) cap') (l ++ [(p,lo,hi)])->w.grownBy w' v.ownBlock->(v.ownBlock=some g'\/g'=w.heap.size)->K (a.put o.dst (.slice (some ⟨g',0,none⟩) (l.length+1) cap')) w'):o.wp Tryz.prog a w K Q:=by
 obtain ⟨i0,hi,hz0,hz1,hz2⟩:=info_parts Tryz.info34
 obtain ⟨⟨vs,h1,h2,h3,h4⟩,hl⟩:=hrow
 obtain ⟨q0,q1,q2,q3,q4,q5,q6,q7,q8,q9,q10,q11,q12⟩:=hc.cells
 obtain ⟨x1,n1,y1,rfl⟩:=isSl_ow hp1
 obtain ⟨x2,n2,y2,rfl⟩:=isSl_on hp2
 refine wp_append_lies w s x 54 ho B 34 i0 _ 13 136 Tryz.underlying54 hi hz0 hz1 hz2 rfl (by decide) v l.length vs.flatten hs h1 ⟨g,0,none⟩ 1 1 [.int .i64 p.kind,.int .i64 p.client,.int .i64 p.ask.kind,.int .i64 p.ask.token,.int .i64 p.ask.session,.int .i64 p.ask.number,.int .i64 p.ask.mark,.slice x1 n1 y1,.int .i64 p.tell.kind,.int .i64 p.tell.token,.int .i64 p.tell.session,.int .i64 p.tell.number,.slice x2 n2 y2] hx rfl ?_ ?_ (by decide) (by unfold maxLen;omega) (by omega) hB w.heap.size rfl ?_
 ·intro j y hj
  rw [add_addr]
  match j,hj with
  | 0,hj=>simp at hj;subst hj;exact q0
  | 1,hj=>simp at hj;subst hj;exact q1
  | 2,hj=>simp at hj;subst hj;exact q2
  | 3,hj=>simp at hj;subst hj;exact q3
  | 4,hj=>simp at hj;subst hj;exact q4
  | 5,hj=>simp at hj;subst hj;exact q5
  | 6,hj=>simp at hj;subst hj;exact q6
  | 7,hj=>simp at hj;subst hj;exact q7
  | 8,hj=>simp at hj;subst hj;exact q8
  | 9,hj=>simp at hj;subst hj;exact q9
  | 10,hj=>simp at hj;subst hj;exact q10
  | 11,hj=>simp at hj;subst hj;exact q11
  | 12,hj=>simp at hj;subst hj;exact q12
  | j+13,hj=>simp at hj
 ·intro y hy
  simp at hy
  rcases hy with rfl | rfl | rfl | rfl | rfl | rfl | rfl | rfl | rfl | rfl | rfl | rfl | rfl <;> rfl
 ·intro g' cap' w' r2 r3 r4 _
  exact h g' cap' w' ⟨LRow.snoc (inR_stab B) (by decide) h1 h2 h3 h4 rfl ⟨_,_,rfl,hp1,hp2,hlo,hhi⟩ r3 r2,by simp;omega⟩ r3 r4
theorem app34i {ops:Array Oper}{rest:List Oper}{o:Oper}{a:Act}{Q:Exit->Act->World->Prop}(w:World)(hw:Region.wanted o (yielded ops a.tmps)=true)(s x:Operand)
  (ho:o.op=.call { callee:=.builtin .append,args:=#[s,x],argTypes:=#[54,54] })
  (B:Nat) (v:Value) (l:List (PMsg × Nat × Nat)) (p:PMsg) (lo hi:Nat) (g:Nat) (ov av:Value) (hs:a.eval s=v) (hx:a.eval x=.slice (some ⟨g,0,none⟩) 1 1)
  (hrow:MsgsIn w B v l) (hc:MB w g ov av p) (hp1:OpsOwn w B ov p.ask.ops) (hp2:Disk.Own w lo av p.tell.answer) (hlo:B<=lo) (hhi:∀b,av.ownBlock=some b->b<hi) (hb:l.length<=1034834473199) (hB:B<=w.heap.size)
  (h:∀g' cap' w',MsgsIn w' B (.slice (some ⟨g',0,none⟩) (l.length+1) cap') (l ++ [(p,lo,hi)])->w.grownBy w' v.ownBlock->(v.ownBlock=some g'\/g'=w.heap.size)->wpList Tryz.prog ops Q rest (a.put o.dst (.slice (some ⟨g',0,none⟩) (l.length+1) cap')) w'):wpList Tryz.prog ops Q (o :: rest) a w :=
 BigFrame.wpList_want hw fun _ hK=>app34i_wp w s x ho B v l p lo hi g ov av hs hx hrow hc hp1 hp2 hlo hhi hb hB fun g' cap' w' h1 h2 h3=>hK _ _ (h g' cap' w' h1 h2 h3)
theorem flatten_put {c:Nat}(vs:List (List Value))(h:∀x ∈ vs,x.length=c)(j:Nat)(hj:j<vs.length)(i:Nat)(hi:i<c)(u:Value):vs.flatten.set (j*c+i) u=(vs.set j (vs[j].set i u)).flatten:=by
 have e1:vs.flatten=(vs.take j).flatten ++ (vs[j] ++ (vs.drop (j+1)).flatten):=by
  conv=>lhs;rw [<-List.take_append_drop j vs,List.drop_eq_getElem_cons hj]
  rw [List.flatten_append,List.flatten_cons]
 have e2:(vs.set j (vs[j].set i u)).flatten=(vs.take j).flatten ++ (vs[j].set i u ++ (vs.drop (j+1)).flatten):=by
  rw [List.set_eq_take_append_cons_drop,if_pos hj]
  simp
 have e3:j*c=(vs.take j).flatten.length:=by
  rw [flat_len13 _ fun y hy=>h y (List.mem_of_mem_take hy),List.length_take,Nat.min_eq_left (by omega)]
 rw [e2,e1,e3,List.set_append_right _ _ (by omega),List.set_append_left _ _ (by rw [h _ (List.getElem_mem hj)];omega)]
 congr 3
 omega
theorem answers_put {w:World}{B g n cap:Nat}{l:List (Nat × Nat × Nat)}(h:Answers w B (.slice (some ⟨g,0,none⟩) n cap) l)(j i:Nat)(hj:j<l.length)(hi:i<12)(u:Value) :
  Answers (w.setCell ⟨g,j*13+i,none⟩ u) B (.slice (some ⟨g,0,none⟩) n cap) l/\w.grownBy (w.setCell ⟨g,j*13+i,none⟩ u) (some g):=by
 have hn:n=l.length:=by obtain ⟨x,y,e⟩:=LRow.shape h;simp at e;exact e.2.1
 subst hn
 obtain ⟨vs,h1,h2,h3,h4⟩:=h
 obtain ⟨cur,hb⟩:=owns_blk h1 (k:=g) rfl
 obtain ⟨k1,k2⟩:=h1.stored (j*13+i) u
 have hj':j<vs.length:=by omega
 rw [flatten_put vs h3 j hj' i (by omega) u] at k1
 have keep:∀{y b},AnR w y b->AnR (w.setCell ⟨g,j*13+i,none⟩ u) y b:=fun hy=>anR_stab.2 _ _ _ _ _ _ _ hy hb (by decide) k2
 refine ⟨⟨_,k1,by simp [h2],?_,fun a ha ha'=>?_⟩,k2⟩
 ·intro y hy
  rcases List.mem_or_eq_of_mem_set hy with hy | rfl
  ·exact h3 y hy
  ·rw [List.length_set]
   exact h3 _ (List.getElem_mem hj')
 ·by_cases e:j=a
  ·subst e
   obtain ⟨y,av,L,e,q1,q2⟩:=keep (h4 j hj' hj)
   rw [List.getElem_set_self]
   exact ⟨y.set i u,av,L,by rw [e,List.set_append_left _ _ (by omega)],by simpa using q1,q2⟩
  ·rw [List.getElem_set_ne e]
   exact keep (h4 a (by simpa using ha) ha')
theorem answers_at {w:World}{B g n cap:Nat}{l:List (Nat × Nat × Nat)}(h:Answers w B (.slice (some ⟨g,0,none⟩) n cap) l)(j:Nat)(hj:j<l.length):∃av L,w.cell? ⟨g,j*13+12,none⟩=some av/\Disk.Own w l[j].2.1 av L/\L.length=l[j].1/\(∀b,av.ownBlock=some b->b<l[j].2.2) ∧
  ∀w',w.grownBy w' av.ownBlock->(∃L',Disk.Own w' l[j].2.1 av L'/\L'.length=L.length)->(∀i (hi:i<l.length),i≠j->l[i].2.2<=l[j].2.1\/l[j].2.2<=l[i].2.1)->Answers w' B (.slice (some ⟨g,0,none⟩) n cap) l:=by
 have hn:n=l.length:=by obtain ⟨x,y,e⟩:=LRow.shape h;simp at e;exact e.2.1
 subst hn
 obtain ⟨vs,h1,h2,h3,h4⟩:=h
 have hj':j<vs.length:=by omega
 obtain ⟨y,av,L,e,q1,q2,q3,q4⟩:=h4 j hj' hj
 refine ⟨av,L,?_,q2,q3,q4,fun w' hg hL hd=>?_⟩
 ·rw [h1.cellAt (j*13+12) (by omega),flatten_get vs j 12 h3 hj' (by omega),e]
  rw [List.getElem?_append_right (by omega),q1]
  rfl
 ·refine ⟨vs,h1.kept hg ?_,h2,h3,fun i hi hi'=>?_⟩
  ·refine .inr fun e'=>?_
   have e2:av.ownBlock=some g:=e'.symm
   obtain ⟨c1,b1⟩:=owns_blk h1 (k:=g) rfl
   obtain ⟨c2,b2⟩:=owns_blk q2 e2
   exact absurd (blk_type b1 b2) (by decide)
  ·by_cases e3:i=j
   ·subst e3
    obtain ⟨L',o1,o2⟩:=hL
    exact ⟨y,av,L',e,q1,o1,by omega,q4⟩
   ·obtain ⟨y',av',L2,e4,r1,r2,r3,r4⟩:=h4 i hi hi'
    refine ⟨y',av',L2,e4,r1,r2.kept hg ?_,r3,r4⟩
    cases hv:av'.ownBlock with
    | none=>exact .inl rfl
    | some b =>
     refine .inr fun e5=>?_
     have l1:=(World.ownsRow.lt r2 b hv).1
     have l2:=r4 b hv
     have l3:=(World.ownsRow.lt q2 b e5.symm).1
     have l4:=q4 b e5.symm
     rcases hd i hi' e3 with h | h <;> omega
end Go.Proofs.YtncbdhdfemidlaaGreat
