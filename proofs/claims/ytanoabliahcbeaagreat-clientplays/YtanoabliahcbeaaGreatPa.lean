import Derived.Test.YtanoabliahcbeaaGreatOabAll
set_option maxHeartbeats 1000000
set_option maxRecDepth 100000
namespace Go.Proofs.YtanoabliahcbeaaGreat
open Go.RowKit Disk
open _root_.Go.Proofs.YtanoabliahcbeaaGreat.Calls _root_.Go.Proofs.YtanoabliahcbeaaGreat.Command
structure MsAt (w:World)(b p:Nat)(ov av:Value)(m:PMsg):Prop where
 c0:w.cell? ⟨b,p+0,none⟩=some (.int .i64 m.kind)
 c1:w.cell? ⟨b,p+1,none⟩=some (.int .i64 m.client)
 c2:w.cell? ⟨b,p+2,none⟩=some (.int .i64 m.ask.kind)
 c3:w.cell? ⟨b,p+3,none⟩=some (.int .i64 m.ask.token)
 c4:w.cell? ⟨b,p+4,none⟩=some (.int .i64 m.ask.session)
 c5:w.cell? ⟨b,p+5,none⟩=some (.int .i64 m.ask.number)
 c6:w.cell? ⟨b,p+6,none⟩=some (.int .i64 m.ask.mark)
 c7:w.cell? ⟨b,p+7,none⟩=some (ov)
 c8:w.cell? ⟨b,p+8,none⟩=some (.int .i64 m.tell.kind)
 c9:w.cell? ⟨b,p+9,none⟩=some (.int .i64 m.tell.token)
 c10:w.cell? ⟨b,p+10,none⟩=some (.int .i64 m.tell.session)
 c11:w.cell? ⟨b,p+11,none⟩=some (.int .i64 m.tell.number)
 c12:w.cell? ⟨b,p+12,none⟩=some (av)
theorem MsAt.grown {w w':World}{b p:Nat}{ov av:Value}{m:PMsg}(h:MsAt w b p ov av m)(hg:w.grownBy w' none):MsAt w' b p ov av m :=
 ⟨hg.cell h.c0 (by simp),hg.cell h.c1 (by simp),hg.cell h.c2 (by simp),hg.cell h.c3 (by simp),hg.cell h.c4 (by simp),hg.cell h.c5 (by simp),hg.cell h.c6 (by simp),hg.cell h.c7 (by simp),hg.cell h.c8 (by simp),hg.cell h.c9 (by simp),hg.cell h.c10 (by simp),hg.cell h.c11 (by simp),hg.cell h.c12 (by simp)⟩
structure GoodM (m:PMsg):Prop where
 inm:InM m
 fit:Fit m.ask.ops
 len:m.tell.answer.length<=140737488351232
def Msgs (w:World)(v:Value)(l:List PMsg):Prop :=
 ∃ao cap,v=.slice ao l.length cap/\l.length<=1034834473200/\∀j (hj:j<l.length),∃b off ov av,ao=some ⟨b,off,none⟩/\MsAt w b (off+j*13) ov av l[j]/\Ops w ov l[j].ask.ops/\Seg w av l[j].tell.answer
theorem Msgs.grown {w w':World}{v:Value}{l:List PMsg}(h:Msgs w v l)(hg:w.grownBy w' none):Msgs w' v l:=by
 obtain ⟨ao,cap,e,hl,h⟩:=h
 refine ⟨ao,cap,e,hl,fun j hj=>?_⟩
 obtain ⟨b,off,ov,av,e,h1,h2,h3⟩:=h j hj
 exact ⟨b,off,ov,av,e,h1.grown hg,h2.grown hg,h3.grown hg⟩
def MsR (B:Nat)(w:World)(x:List Value)(m:PMsg):Prop:=∃ov av,x=[.int .i64 m.kind,.int .i64 m.client,.int .i64 m.ask.kind,.int .i64 m.ask.token,.int .i64 m.ask.session,.int .i64 m.ask.number,.int .i64 m.ask.mark,ov,.int .i64 m.tell.kind,.int .i64 m.tell.token,.int .i64 m.tell.session,.int .i64 m.tell.number,av]/\OpsOwn w B ov m.ask.ops/\Own w B av m.tell.answer
theorem msR_stab (B:Nat):Stab (fun t=>t=5\/t=109) (MsR B):=by
 refine ⟨fun w w' vs x h hg=>?_,fun w w' vs x g t cur h hb ht hg=>?_⟩
 ·obtain ⟨ov,av,e,h1,h2⟩:=h
  exact ⟨ov,av,e,h1.grown hg,h2.grown hg⟩
 ·obtain ⟨ov,av,e,h1,h2⟩:=h
  exact ⟨ov,av,e,h1.set hb (fun h=>ht (.inr h)) (fun h=>ht (.inl h)) hg,own_set h2 hb (fun h=>ht (.inl h)) hg⟩
def MsgsOwn (w:World)(B:Nat)(v:Value)(l:List PMsg):Prop:=LRow 45 13 (MsR B) w B v l/\l.length<=1034834473200
theorem msgsOwn_nil (w:World)(B:Nat):MsgsOwn w B (.slice none 0 0) []:=⟨lrow_nil _ _,by simp⟩
theorem MsgsOwn.grown {w w':World}{B:Nat}{v:Value}{l:List PMsg}(h:MsgsOwn w B v l)(hg:w.grownBy w' none):MsgsOwn w' B v l:=⟨h.1.grown (msR_stab B) hg,h.2⟩
theorem MsgsOwn.set {w w':World}{B x t':Nat}{v:Value}{l:List PMsg}{cc:Array Value}(h:MsgsOwn w B v l)(hx:Blk w x t' cc)(h1:t'≠45)(h2:t'≠5)(h3:t'≠109)(hg:w.grownBy w' (some x)):MsgsOwn w' B v l:=⟨h.1.set (msR_stab B) hx h1 (fun e=>by rcases e with e | e;exact h2 e;exact h3 e) hg,h.2⟩
theorem MsgsOwn.slice {w:World}{B:Nat}{v:Value}{l:List PMsg}(h:MsgsOwn w B v l):∃x n y,v=.slice x n y/\n=l.length:=by obtain ⟨x,y,e⟩:=h.1.shape;exact ⟨x,_,y,e,rfl⟩
theorem MsgsOwn.far {w w':World}{B g:Nat}{v:Value}{l:List PMsg}(h:MsgsOwn w B v l)(hg:w.grownBy w' (some g))(hB:g<B):MsgsOwn w' B v l:=by
 obtain ⟨⟨vs,h1,h2,h3,h4⟩,hl⟩:=h
 refine ⟨⟨vs,h1.kept hg ?_,h2,h3,fun j hj hj'=>?_⟩,hl⟩
 ·cases hv:v.ownBlock with
  | none=>simp
  | some k =>
   refine .inr fun e=>?_
   have:=(World.ownsRow.lt h1 k hv).1
   simp at e
   omega
 ·obtain ⟨ov,av,e,h5,h6⟩:=h4 j hj hj'
  exact ⟨ov,av,e,opsOwn_far h5 hg hB,own_far h6 hg hB⟩
theorem MsgsOwn.msgs {w:World}{B:Nat}{v:Value}{l:List PMsg}(h:MsgsOwn w B v l):Msgs w v l:=by
 obtain ⟨h,hl⟩:=h
 obtain ⟨x,y,e⟩:=h.shape
 refine ⟨x,y,e,hl,fun j hj=>?_⟩
 obtain ⟨g,cap,cs,e2,hlen,⟨ov,av,rfl,h1,h2⟩,_,_,hc⟩:=h.cell j hj
 rw [e] at e2
 simp at e2
 refine ⟨g,0,ov,av,e2.1,?_,OpsOwn.ops h1,h2.seg⟩
 rw [Nat.zero_add]
 exact ⟨hc 0 (by omega),hc 1 (by omega),hc 2 (by omega),hc 3 (by omega),hc 4 (by omega),hc 5 (by omega),hc 6 (by omega),hc 7 (by omega),hc 8 (by omega),hc 9 (by omega),hc 10 (by omega),hc 11 (by omega),hc 12 (by omega)⟩
theorem Tryz.info45:(Tryz.prog.info? 45).map (fun i=>(i.zero,i.size,i.bytes))=some (some (.agg #[.int .i64 0,.int .i64 0,.int .i64 0,.int .i64 0,.int .i64 0,.int .i64 0,.int .i64 0,.slice none 0 0,.int .i64 0,.int .i64 0,.int .i64 0,.int .i64 0,.slice none 0 0]),13,136):=by kernel_rfl
theorem app34_wp {o:Oper}{a:Act}{K:Act->World->Prop}{Q:Exit->Act->World->Prop}(w:World)(s x:Operand)
  (ho:o.op=.call { callee:=.builtin .append,args:=#[s,x],argTypes:=#[55,55] })
  (B:Nat) (v:Value) (l:List PMsg) (p:PMsg) (g:Nat) (ov av:Value) (hs:a.eval s=v) (hx:a.eval x=.slice (some ⟨g,0,none⟩) 1 1)
  (hrow:MsgsOwn w B v l) (hc:MB w g ov av p) (hp1:OpsOwn w B ov p.ask.ops) (hp2:Own w B av p.tell.answer) (hb:l.length<=1034834473199) (hB:B<=w.heap.size)
  (h:∀g' cap' w',MsgsOwn w' B (.slice (some ⟨g',0,none⟩) (l.length+1) cap') (l ++ [p])->w.grownBy w' v.ownBlock->(v.ownBlock=some g'\/g'=w.heap.size)->K (a.put o.dst (.slice (some ⟨g',0,none⟩) (l.length+1) cap')) w'):o.wp Tryz.prog a w K Q:=by
 obtain ⟨i0,hi,hz0,hz1,hz2⟩:=info_parts Tryz.info45
 obtain ⟨⟨vs,h1,h2,h3,h4⟩,hl⟩:=hrow
 obtain ⟨q0,q1,q2,q3,q4,q5,q6,q7,q8,q9,q10,q11,q12⟩:=hc.cells
 obtain ⟨x1,n1,y1,rfl⟩:=isSl_ow hp1
 obtain ⟨x2,n2,y2,rfl⟩:=isSl_on hp2
 refine wp_append_lies w s x 55 ho B 45 i0 _ 13 136 Tryz.underlying55 hi hz0 hz1 hz2 rfl (by decide) v l.length vs.flatten hs h1 ⟨g,0,none⟩ 1 1 [.int .i64 p.kind,.int .i64 p.client,.int .i64 p.ask.kind,.int .i64 p.ask.token,.int .i64 p.ask.session,.int .i64 p.ask.number,.int .i64 p.ask.mark,.slice x1 n1 y1,.int .i64 p.tell.kind,.int .i64 p.tell.token,.int .i64 p.tell.session,.int .i64 p.tell.number,.slice x2 n2 y2] hx rfl ?_ ?_ (by decide) (by unfold maxLen;omega) (by omega) hB w.heap.size rfl ?_
 ·intro j y hj
  rw [add_addr]
  match j,hj with
  | 0,hj=>simp at hj;subst hj;exact q0
  | 1,hj=>simp at hj;subst hj;exact q1
  | 2,hj=>simp at hj;subst hj;exact q2
  | 3,hj=>simp at hj;subst hj;exact q3
  | 4,hj=>simp at hj;subst hj;exact q4
  | 5,hj=>simp at hj;subst hj;exact q5
  | 6,hj=>simp at hj;subst hj;exact q6
  | 7,hj=>simp at hj;subst hj;exact q7
  | 8,hj=>simp at hj;subst hj;exact q8
  | 9,hj=>simp at hj;subst hj;exact q9
  | 10,hj=>simp at hj;subst hj;exact q10
  | 11,hj=>simp at hj;subst hj;exact q11
  | 12,hj=>simp at hj;subst hj;exact q12
  | j+13,hj=>simp at hj
 ·intro y hy
  simp at hy
  rcases hy with rfl | rfl | rfl | rfl | rfl | rfl | rfl | rfl | rfl | rfl | rfl | rfl | rfl <;> rfl
 ·intro g' cap' w' r2 r3 r4 _
  exact h g' cap' w' ⟨LRow.snoc (msR_stab B) (by decide) h1 h2 h3 h4 rfl ⟨_,_,rfl,hp1,hp2⟩ r3 r2,by simp;omega⟩ r3 r4
end Go.Proofs.YtanoabliahcbeaaGreat
