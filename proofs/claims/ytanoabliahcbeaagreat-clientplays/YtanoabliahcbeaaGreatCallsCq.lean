import Derived.Test.YtanoabliahcbeaaGreatCnAll
import Derived.Deep.DeepCutAuto
import Derived.Laws.OwnMore
set_option maxHeartbeats 8000000
set_option maxRecDepth 100000
namespace Go.Proofs.YtanoabliahcbeaaGreat.Calls
open Go.RowKit Disk
open Names (Str)
theorem cut_own {w:World}{B:Nat}{v:Value}{L:Bs}(h:Own w B v L):Names.Cut w B v L:=.inl h
theorem own_nil (w:World)(B:Nat):Own w B (.slice none 0 0) []:=World.ownsRow_nil _ _ _ _
def Fit (l:List POp):Prop:=l.length<=1034834473200/\∀o ∈ l,o.key.length<=140737488355328/\o.value.length<=140737488355328/\o.old.length<=140737488355328/\o.to.length<=140737488355328
theorem copy11 (a:Value)(l:List POp)(w:World)(ha:Ops w a l)(hf:Fit l):Calls Tryz.prog 33 #[.agg #[a]] w fun e w'=>∃u,e=.returned (.agg #[u])/\OpsOwn w' w.heap.size u l/\w.grownBy w' none:=by
 obtain ⟨ao,n,ca,rfl,hna,la,HA⟩:=ops_open ha
 have HN:Hid (l.length=n/\Fit l):=⟨hna,hf⟩
 have hn9:n<=1034834473200:=by rw [<-hna];exact hf.1
 clear ha hna hf
 go_enter Tryz.func33,Tryz.ntmps33
 go_wp2_with fail
 go_loopw [4] (fun i wr=>∃(k:Nat) (v:Value),k<=n/\i=.int .i64 k/\Hid (Blk wr w.heap.size 35 #[.slice ao n ca]/\Blk wr (w.heap.size+1) 35 #[.slice none 0 0]/\Blk wr (w.heap.size+2) 35 #[v]/\OpsOwn wr (w.heap.size+3) v (l.take k)/\w.grownBy wr none)) (fun i _=>n-(intOf i).toNat)
 case atStart =>
  have hb0:=heap_alloc_new w (.cells #[.slice ao n ca] 35)
  have hb1:=heap_alloc_new (w.alloc (.cells #[.slice ao n ca] 35)) (.cells #[.slice none 0 0] 35)
  have hb2:=heap_alloc_new ((w.alloc (.cells #[.slice ao n ca] 35)).alloc (.cells #[.slice none 0 0] 35)) (.cells #[.slice none 0 0] 35)
  have g0:=World.grownBy_alloc w (.cells #[.slice ao n ca] 35) none
  have g1:=World.grownBy_alloc (w.alloc (.cells #[.slice ao n ca] 35)) (.cells #[.slice none 0 0] 35) none
  have g2:=World.grownBy_alloc ((w.alloc (.cells #[.slice ao n ca] 35)).alloc (.cells #[.slice none 0 0] 35)) (.cells #[.slice none 0 0] 35) none
  refine ⟨0,.slice none 0 0,by omega,rfl,Blk.grown hb0 (grown_trans g1 g2) (by simp),?_,?_,⟨lrow_nil _ _,by simp⟩,grown_trans g0 (grown_trans g1 g2)⟩
  ·have:=Blk.grown hb1 g2 (by simp)
   simpa using this
  ·simpa [Blk] using hb2
 case round =>
  obtain ⟨k,v,hk,rfl,HR⟩:=hrel
  have c0:=HR.out.1.cell 0
  by_cases hlt:k<n
  ·have i0:(0:Int)<=(k:Int):=by omega
   have i1:(k:Int)<(n:Int):=by omega
   have hkl:k<l.length:=by rw [HN.out.1];omega
   obtain ⟨b1,o1,k1,x1,ol1,t1,rfl,h1,s1⟩:=ops_at (HA.out.grown HR.out.2.2.2.2) k hkl
   have HT:Hid (l.take (k+1)=l.take k ++ [l[k]]/\(l.take k).length=k):=⟨List.take_succ_eq_append_getElem hkl,by rw [List.length_take];omega⟩
   have HF:Hid _:=HN.out.2.2 l[k] (List.getElem_mem hkl)
   obtain ⟨o,ho⟩:∃o,l[k]=o:=⟨_,rfl⟩
   rw [ho] at h1 s1 HT HF
   clear ho hkl
   obtain ⟨p1,p2,p3,p4,r1,r2,r3,r4,rfl,rfl,rfl,rfl⟩:=s1.shapes
   have HS:Hid (OpSeg wr (.slice p1 o.key.length r1) (.slice p2 o.value.length r2) (.slice p3 o.old.length r3) (.slice p4 o.to.length r4) o):=s1
   clear s1
   obtain ⟨a0,a1,a2,a3,a4,a5,a6,a7⟩:=h1
   unfold Str at a1
   go_upto_region 6 with fail
   have S0:Hid (Blk (wr.alloc (.cells #[.int .i64 o.kind,.string ⟨o.table.toArray⟩,.slice p1 o.key.length r1,.slice p2 o.value.length r2,.bool o.has,.slice p3 o.old.length r3,.slice p4 o.to.length r4,.int .i64 o.most] 109)) wr.heap.size 109 #[.int .i64 o.kind,.string ⟨o.table.toArray⟩,.slice p1 o.key.length r1,.slice p2 o.value.length r2,.bool o.has,.slice p3 o.old.length r3,.slice p4 o.to.length r4,.int .i64 o.most]/\wr.grownBy (wr.alloc (.cells #[.int .i64 o.kind,.string ⟨o.table.toArray⟩,.slice p1 o.key.length r1,.slice p2 o.value.length r2,.bool o.has,.slice p3 o.old.length r3,.slice p4 o.to.length r4,.int .i64 o.most] 109)) none):=⟨heap_alloc_new wr _,World.grownBy_alloc _ _ none⟩
   generalize (wr.alloc (.cells #[.int .i64 o.kind,.string ⟨o.table.toArray⟩,.slice p1 o.key.length r1,.slice p2 o.value.length r2,.bool o.has,.slice p3 o.old.length r3,.slice p4 o.to.length r4,.int .i64 o.most] 109))=w0 at S0 ⊢
   clear c0 a0 a1 a2 a3 a4 a5 a6 a7
   have hz:(w.heap.size+3)<=wr.heap.size:=HR.out.2.2.1.lt
   have HZ:Hid ((w.heap.size+3)<=wr.heap.size):=hz
   clear hz
   have c0:=S0.out.1.cell 2
   go_wp2_with (at_builtin;refine app22 _ rfl _ _ rfl (w.heap.size+3) (.slice none 0 0) [] _ o.key rfl rfl (own_nil _ _) (HS.out.key.grown S0.out.2) ?h1 ?h2 ?_)
   case h1=>have:=HF.out.1;simp;omega
   case h2=>exact Nat.le_trans HZ.out S0.out.2.size
   clear c0
   intro v1 x1 q1 q2 q3
   have q2':w0.grownBy x1 none:=q2
   obtain ⟨e1,n1,y1,rfl⟩:=slice_of q1
   have T:Hid (Blk x1 wr.heap.size 109 #[.int .i64 o.kind,.string ⟨o.table.toArray⟩,.slice p1 o.key.length r1,.slice p2 o.value.length r2,.bool o.has,.slice p3 o.old.length r3,.slice p4 o.to.length r4,.int .i64 o.most]/\wr.grownBy x1 none/\Own x1 (w.heap.size+3) (.slice e1 n1 y1) o.key):=⟨S0.out.1.grown q2' (by simp),grown_trans S0.out.2 q2',by simpa using q1⟩
   clear q1 q2 q2' q3 S0
   have c0:=T.out.1.cell 2
   have z0:=T.out.1.free 2
   go_upto_region 7 with fail
   clear c0 z0
   have S1:Hid (Blk (x1.setCell ⟨wr.heap.size,2,none⟩ (.slice e1 n1 y1)) wr.heap.size 109 #[.int .i64 o.kind,.string ⟨o.table.toArray⟩,.slice e1 n1 y1,.slice p2 o.value.length r2,.bool o.has,.slice p3 o.old.length r3,.slice p4 o.to.length r4,.int .i64 o.most]/\wr.grownBy (x1.setCell ⟨wr.heap.size,2,none⟩ (.slice e1 n1 y1)) none/\Own (x1.setCell ⟨wr.heap.size,2,none⟩ (.slice e1 n1 y1)) (w.heap.size+3) (.slice e1 n1 y1) o.key):=by
    have hg:=grown_setCell x1 wr.heap.size 2 (.slice e1 n1 y1)
    exact ⟨T.out.1.store 2 _,grown_new T.out.2.1 hg (fun y hy=>by simp at hy;omega),own_set (T.out.2.2) T.out.1 (by decide) hg⟩
   generalize (x1.setCell ⟨wr.heap.size,2,none⟩ (.slice e1 n1 y1))=w1 at S1 ⊢
   clear T
   have c0:=S1.out.1.cell 3
   go_wp2_with (at_builtin;refine app22 _ rfl _ _ rfl (w.heap.size+3) (.slice none 0 0) [] _ o.value rfl rfl (own_nil _ _) (HS.out.value.grown S1.out.2.1) ?h1 ?h2 ?_)
   case h1=>have:=HF.out.2.1;simp;omega
   case h2=>exact Nat.le_trans HZ.out S1.out.2.1.size
   clear c0
   intro v2 x2 q1 q2 q3
   have q2':w1.grownBy x2 none:=q2
   obtain ⟨e2,n2,y2,rfl⟩:=slice_of q1
   have T:Hid (Blk x2 wr.heap.size 109 #[.int .i64 o.kind,.string ⟨o.table.toArray⟩,.slice e1 n1 y1,.slice p2 o.value.length r2,.bool o.has,.slice p3 o.old.length r3,.slice p4 o.to.length r4,.int .i64 o.most]/\wr.grownBy x2 none/\Own x2 (w.heap.size+3) (.slice e2 n2 y2) o.value/\Own x2 (w.heap.size+3) (.slice e1 n1 y1) o.key):=⟨S1.out.1.grown q2' (by simp),grown_trans S1.out.2.1 q2',by simpa using q1,(S1.out.2.2).grown q2'⟩
   clear q1 q2 q2' q3 S1
   have c0:=T.out.1.cell 3
   have z0:=T.out.1.free 3
   go_upto_region 8 with fail
   clear c0 z0
   have S2:Hid (Blk (x2.setCell ⟨wr.heap.size,3,none⟩ (.slice e2 n2 y2)) wr.heap.size 109 #[.int .i64 o.kind,.string ⟨o.table.toArray⟩,.slice e1 n1 y1,.slice e2 n2 y2,.bool o.has,.slice p3 o.old.length r3,.slice p4 o.to.length r4,.int .i64 o.most]/\wr.grownBy (x2.setCell ⟨wr.heap.size,3,none⟩ (.slice e2 n2 y2)) none/\Own (x2.setCell ⟨wr.heap.size,3,none⟩ (.slice e2 n2 y2)) (w.heap.size+3) (.slice e1 n1 y1) o.key/\Own (x2.setCell ⟨wr.heap.size,3,none⟩ (.slice e2 n2 y2)) (w.heap.size+3) (.slice e2 n2 y2) o.value):=by
    have hg:=grown_setCell x2 wr.heap.size 3 (.slice e2 n2 y2)
    exact ⟨T.out.1.store 3 _,grown_new T.out.2.1 hg (fun y hy=>by simp at hy;omega),own_set (T.out.2.2.2) T.out.1 (by decide) hg,own_set (T.out.2.2.1) T.out.1 (by decide) hg⟩
   generalize (x2.setCell ⟨wr.heap.size,3,none⟩ (.slice e2 n2 y2))=w2 at S2 ⊢
   clear T
   have c0:=S2.out.1.cell 5
   go_wp2_with (at_builtin;refine app22 _ rfl _ _ rfl (w.heap.size+3) (.slice none 0 0) [] _ o.old rfl rfl (own_nil _ _) (HS.out.old.grown S2.out.2.1) ?h1 ?h2 ?_)
   case h1=>have:=HF.out.2.2.1;simp;omega
   case h2=>exact Nat.le_trans HZ.out S2.out.2.1.size
   clear c0
   intro v3 x3 q1 q2 q3
   have q2':w2.grownBy x3 none:=q2
   obtain ⟨e3,n3,y3,rfl⟩:=slice_of q1
   have T:Hid (Blk x3 wr.heap.size 109 #[.int .i64 o.kind,.string ⟨o.table.toArray⟩,.slice e1 n1 y1,.slice e2 n2 y2,.bool o.has,.slice p3 o.old.length r3,.slice p4 o.to.length r4,.int .i64 o.most]/\wr.grownBy x3 none/\Own x3 (w.heap.size+3) (.slice e3 n3 y3) o.old/\Own x3 (w.heap.size+3) (.slice e1 n1 y1) o.key/\Own x3 (w.heap.size+3) (.slice e2 n2 y2) o.value):=⟨S2.out.1.grown q2' (by simp),grown_trans S2.out.2.1 q2',by simpa using q1,(S2.out.2.2.1).grown q2',(S2.out.2.2.2).grown q2'⟩
   clear q1 q2 q2' q3 S2
   have c0:=T.out.1.cell 5
   have z0:=T.out.1.free 5
   go_upto_region 9 with fail
   clear c0 z0
   have S3:Hid (Blk (x3.setCell ⟨wr.heap.size,5,none⟩ (.slice e3 n3 y3)) wr.heap.size 109 #[.int .i64 o.kind,.string ⟨o.table.toArray⟩,.slice e1 n1 y1,.slice e2 n2 y2,.bool o.has,.slice e3 n3 y3,.slice p4 o.to.length r4,.int .i64 o.most]/\wr.grownBy (x3.setCell ⟨wr.heap.size,5,none⟩ (.slice e3 n3 y3)) none/\Own (x3.setCell ⟨wr.heap.size,5,none⟩ (.slice e3 n3 y3)) (w.heap.size+3) (.slice e1 n1 y1) o.key/\Own (x3.setCell ⟨wr.heap.size,5,none⟩ (.slice e3 n3 y3)) (w.heap.size+3) (.slice e2 n2 y2) o.value/\Own (x3.setCell ⟨wr.heap.size,5,none⟩ (.slice e3 n3 y3)) (w.heap.size+3) (.slice e3 n3 y3) o.old):=by
    have hg:=grown_setCell x3 wr.heap.size 5 (.slice e3 n3 y3)
    exact ⟨T.out.1.store 5 _,grown_new T.out.2.1 hg (fun y hy=>by simp at hy;omega),own_set (T.out.2.2.2.1) T.out.1 (by decide) hg,own_set (T.out.2.2.2.2) T.out.1 (by decide) hg,own_set (T.out.2.2.1) T.out.1 (by decide) hg⟩
   generalize (x3.setCell ⟨wr.heap.size,5,none⟩ (.slice e3 n3 y3))=w3 at S3 ⊢
   clear T
   have c0:=S3.out.1.cell 6
   go_wp2_with (at_builtin;refine app22 _ rfl _ _ rfl (w.heap.size+3) (.slice none 0 0) [] _ o.to rfl rfl (own_nil _ _) (HS.out.to.grown S3.out.2.1) ?h1 ?h2 ?_)
   case h1=>have:=HF.out.2.2.2;simp;omega
   case h2=>exact Nat.le_trans HZ.out S3.out.2.1.size
   clear c0
   intro v4 x4 q1 q2 q3
   have q2':w3.grownBy x4 none:=q2
   obtain ⟨e4,n4,y4,rfl⟩:=slice_of q1
   have T:Hid (Blk x4 wr.heap.size 109 #[.int .i64 o.kind,.string ⟨o.table.toArray⟩,.slice e1 n1 y1,.slice e2 n2 y2,.bool o.has,.slice e3 n3 y3,.slice p4 o.to.length r4,.int .i64 o.most]/\wr.grownBy x4 none/\Own x4 (w.heap.size+3) (.slice e4 n4 y4) o.to/\Own x4 (w.heap.size+3) (.slice e1 n1 y1) o.key/\Own x4 (w.heap.size+3) (.slice e2 n2 y2) o.value/\Own x4 (w.heap.size+3) (.slice e3 n3 y3) o.old):=⟨S3.out.1.grown q2' (by simp),grown_trans S3.out.2.1 q2',by simpa using q1,(S3.out.2.2.1).grown q2',(S3.out.2.2.2.1).grown q2',(S3.out.2.2.2.2).grown q2'⟩
   clear q1 q2 q2' q3 S3
   have c0:=T.out.1.cell 6
   have z0:=T.out.1.free 6
   go_upto_region 10 with fail
   clear c0 z0
   have S4:Hid (Blk (x4.setCell ⟨wr.heap.size,6,none⟩ (.slice e4 n4 y4)) wr.heap.size 109 #[.int .i64 o.kind,.string ⟨o.table.toArray⟩,.slice e1 n1 y1,.slice e2 n2 y2,.bool o.has,.slice e3 n3 y3,.slice e4 n4 y4,.int .i64 o.most]/\wr.grownBy (x4.setCell ⟨wr.heap.size,6,none⟩ (.slice e4 n4 y4)) none/\Own (x4.setCell ⟨wr.heap.size,6,none⟩ (.slice e4 n4 y4)) (w.heap.size+3) (.slice e1 n1 y1) o.key/\Own (x4.setCell ⟨wr.heap.size,6,none⟩ (.slice e4 n4 y4)) (w.heap.size+3) (.slice e2 n2 y2) o.value/\Own (x4.setCell ⟨wr.heap.size,6,none⟩ (.slice e4 n4 y4)) (w.heap.size+3) (.slice e3 n3 y3) o.old/\Own (x4.setCell ⟨wr.heap.size,6,none⟩ (.slice e4 n4 y4)) (w.heap.size+3) (.slice e4 n4 y4) o.to):=by
    have hg:=grown_setCell x4 wr.heap.size 6 (.slice e4 n4 y4)
    exact ⟨T.out.1.store 6 _,grown_new T.out.2.1 hg (fun y hy=>by simp at hy;omega),own_set (T.out.2.2.2.1) T.out.1 (by decide) hg,own_set (T.out.2.2.2.2.1) T.out.1 (by decide) hg,own_set (T.out.2.2.2.2.2) T.out.1 (by decide) hg,own_set (T.out.2.2.1) T.out.1 (by decide) hg⟩
   generalize (x4.setCell ⟨wr.heap.size,6,none⟩ (.slice e4 n4 y4))=w4 at S4 ⊢
   clear T
   obtain ⟨x0,n0,y0,rfl,hn0⟩:=HR.out.2.2.2.1.slice
   rw [HT.out.2] at hn0
   subst hn0
   have c0:=(HR.out.2.2.1.grown S4.out.2.1 (by simp)).cell 0
   obtain ⟨a0,a1,a2,a3,a4,a5,a6,a7⟩:=cells8 S4.out.1
   have HX:Hid (OpsOwn (w4.alloc (.cells #[.int .i64 o.kind,.string ⟨o.table.toArray⟩,.slice e1 n1 y1,.slice e2 n2 y2,.bool o.has,.slice e3 n3 y3,.slice e4 n4 y4,.int .i64 o.most] 109)) (w.heap.size+3) (.slice x0 n0 y0) (l.take n0)/\Blk (w4.alloc (.cells #[.int .i64 o.kind,.string ⟨o.table.toArray⟩,.slice e1 n1 y1,.slice e2 n2 y2,.bool o.has,.slice e3 n3 y3,.slice e4 n4 y4,.int .i64 o.most] 109)) w4.heap.size 109 #[.int .i64 o.kind,.string ⟨o.table.toArray⟩,.slice e1 n1 y1,.slice e2 n2 y2,.bool o.has,.slice e3 n3 y3,.slice e4 n4 y4,.int .i64 o.most]/\OpOwn (w4.alloc (.cells #[.int .i64 o.kind,.string ⟨o.table.toArray⟩,.slice e1 n1 y1,.slice e2 n2 y2,.bool o.has,.slice e3 n3 y3,.slice e4 n4 y4,.int .i64 o.most] 109)) (w.heap.size+3) (.slice e1 n1 y1) (.slice e2 n2 y2) (.slice e3 n3 y3) (.slice e4 n4 y4) o/\(w.heap.size+3)<=(w4.alloc (.cells #[.int .i64 o.kind,.string ⟨o.table.toArray⟩,.slice e1 n1 y1,.slice e2 n2 y2,.bool o.has,.slice e3 n3 y3,.slice e4 n4 y4,.int .i64 o.most] 109)).heap.size/\wr.grownBy (w4.alloc (.cells #[.int .i64 o.kind,.string ⟨o.table.toArray⟩,.slice e1 n1 y1,.slice e2 n2 y2,.bool o.has,.slice e3 n3 y3,.slice e4 n4 y4,.int .i64 o.most] 109)) none):=by
    have hg:=World.grownBy_alloc w4 (.cells #[.int .i64 o.kind,.string ⟨o.table.toArray⟩,.slice e1 n1 y1,.slice e2 n2 y2,.bool o.has,.slice e3 n3 y3,.slice e4 n4 y4,.int .i64 o.most] 109) none
    refine ⟨HR.out.2.2.2.1.grown (grown_trans S4.out.2.1 hg),heap_alloc_new w4 _,⟨cut_own ((S4.out.2.2.1).grown hg),cut_own ((S4.out.2.2.2.1).grown hg),cut_own ((S4.out.2.2.2.2.1).grown hg),cut_own ((S4.out.2.2.2.2.2).grown hg),HS.out.fits⟩,?_,grown_trans S4.out.2.1 hg⟩
    exact Nat.le_trans HZ.out (grown_trans S4.out.2.1 hg).size
   go_wp2_with (at_builtin;refine app71 _ rfl (.tmp 35) (.tmp 37) rfl (w.heap.size+3) (.slice x0 n0 y0) (l.take n0) o w4.heap.size _ _ _ _ rfl rfl HX.out.1 HX.out.2.1 HX.out.2.2.1 ?h1 HX.out.2.2.2.1 ?_)
   case h1=>rw [HT.out.2];omega
   clear c0 a0 a1 a2 a3 a4 a5 a6 a7
   intro g' cap' w5 o5 g5 l5
   have e0:min n0 l.length=n0:=Nat.min_eq_left (by rw [HN.out.1];omega)
   rw [e0] at o5 ⊢
   clear e0
   rw [<-HT.out.1] at o5
   have S5:Hid (Blk w5 w.heap.size 35 #[.slice (some ⟨b1,o1,none⟩) n ca]/\Blk w5 (w.heap.size+1) 35 #[.slice none 0 0]/\Blk w5 (w.heap.size+2) 35 #[.slice x0 n0 y0]/\OpsOwn w5 (w.heap.size+3) (.slice (some ⟨g',0,none⟩) (n0+1) cap') (l.take (n0+1))/\w.grownBy w5 none):=by
    have ht:=HX.out.1.1.lt
    have hg:=HX.out.2.2.2.2
    refine ⟨(HR.out.1.grown hg (by simp)).grown g5 (fun e=>?_),(HR.out.2.1.grown hg (by simp)).grown g5 (fun e=>?_),(HR.out.2.2.1.grown hg (by simp)).grown g5 (fun e=>?_),o5,grown_new (grown_trans HR.out.2.2.2.2 hg) g5 (fun y hy=>by have:=(ht y hy).1;omega)⟩
    ·have:=(ht _ e).1;omega
    ·have:=(ht _ e).1;omega
    ·have:=(ht _ e).1;omega
   clear o5 g5 l5 HX S4
   have c0:=S5.out.2.2.1.cell 0
   have z0:=S5.out.2.2.1.free 0
   go_wp2_with fail
   go_roundw
   case rel =>
    have hg:=grown_setCell w5 (w.heap.size+2) 0 (.slice (some ⟨g',0,none⟩) (n0+1) cap')
    exact ⟨n0+1,_,by omega,by go_num,S5.out.1.grown hg (fun e=>by simp at e),S5.out.2.1.grown hg (fun e=>by simp at e),S5.out.2.2.1.store 0 _,S5.out.2.2.2.1.set S5.out.2.2.1 (by decide) (by decide) hg,grown_new S5.out.2.2.2.2 hg (fun y hy=>by simp at hy;omega)⟩
   case measure=>simp [intOf];omega
  ·have e:k=n:=by omega
   subst e
   obtain ⟨x0,n0,y0,rfl,hn0⟩:=HR.out.2.2.2.1.slice
   have c1:=HR.out.2.2.1.cell 0
   have c2:=HR.out.2.1.cell 0
   have z2:=HR.out.2.1.free 0
   clear hn0
   go_wp2_with fail
   have hg:=grown_setCell wr (w.heap.size+1) 0 (.slice x0 n0 y0)
   refine bodyPost_ret (v:=_) (results_cell_row rfl _ _ (w.heap.size+1) 35 _ (0,0) _ rfl (HR.out.2.1.store 0 (.slice x0 n0 y0)) Tryz.underlying35 rfl (by kernel_rfl)) rfl ?_
   refine ⟨_,rfl,?_,grown_new HR.out.2.2.2.2 hg (fun y hy=>by simp at hy;omega)⟩
   have h:=(HR.out.2.2.2.1.set HR.out.2.1 (by decide) (by decide) hg).mono (B':=w.heap.size) (by omega)
   rw [List.take_of_length_le (by rw [HN.out.1];omega)] at h
   exact h
end Go.Proofs.YtanoabliahcbeaaGreat.Calls
