import Derived.Test.YtakmlhhapegpoaaGreatTableAll
import Derived.Laws.IdiomRangeMap
import Derived.MapKept
import Derived.Carry
import Derived.Laws.Externs
namespace Go.Proofs.YtakmlhhapegpoaaGreat
open Go.RowKit Disk Table Names
abbrev Ent:=List UInt8 × Nat
def kv (e:MapEntry):Value × Value:=(e.key,e.val)
def ek (x:Ent):Value × Value:=(Str x.1,ptr x.2)
def MapAt (w:World)(m:Nat)(E:List Ent):Prop :=
 ∃es clock,w.heap[m]? = some (.map es clock)/\es.toList.map kv=E.map ek/\(∀e ∈ es.toList,e.born<clock)/\(es.toList.map (·.born)).Nodup/\(E.map (·.1)).Nodup
theorem MapAt.lt {w:World}{m:Nat}{E:List Ent}(h:MapAt w m E):m<w.heap.size:=by
 obtain ⟨es,c,h1,_⟩:=h
 exact (Array.getElem?_eq_some_iff.1 h1).1
theorem MapAt.same {w w':World}{m:Nat}{E:List Ent}(h:MapAt w m E)(hs:w'.heap[m]? = w.heap[m]?):MapAt w' m E:=by
 obtain ⟨es,c,h1,h2⟩:=h
 exact ⟨es,c,hs.trans h1,h2⟩
theorem MapAt.grown {w w':World}{m:Nat}{E:List Ent}{r:Option Nat}(h:MapAt w m E)(hg:w.grownBy w' r)(hr:r≠some m):MapAt w' m E :=
 h.same (hg.block m h.lt (fun e=>hr e.symm))
theorem MapAt.nodup {w:World}{m:Nat}{E:List Ent}(h:MapAt w m E):(E.map (·.1)).Nodup:=by
 obtain ⟨_,_,_,_,_,_,h⟩:=h
 exact h
theorem Blk.notMap {w:World}{b t:Nat}{c:Array Value}{E:List Ent}(h:Blk w b t c)(hm:MapAt w b E):False:=by
 obtain ⟨_,_,h1,_⟩:=hm
 unfold Blk at h
 rw [h] at h1
 simp at h1
theorem str_beq (a b:List UInt8):((⟨a.toArray⟩:ByteArray)==⟨b.toArray⟩)=decide (a=b):=by
 by_cases h:a=b
 ·subst h
  rw [decide_eq_true rfl]
  exact (MapKept.bytes_beq _ _).2 rfl
 ·rw [decide_eq_false h]
  cases hc:((⟨a.toArray⟩:ByteArray)==⟨b.toArray⟩) with
  | false=>rfl
  | true =>
   have:=(MapKept.bytes_beq _ _).1 hc
   exact absurd (by simpa using this) h
def findP (E:List Ent)(n:List UInt8):Option Nat:=(E.find? (fun x=>decide (x.1=n))).map (·.2)
def ptrO:Option Nat->Value
 | none=>.pointer none
 | some p=>ptr p
theorem find_now (n:List UInt8):∀(l:List MapEntry) (E:List Ent) (i:Nat),l.map kv=E.map ek →
  Instr.findNow .string (Str n) l i=some ((E.findIdx? (fun x=>decide (x.1=n))).map fun j=>(i+j,ptrO (findP E n)))
 | [],E,i,h=>by
  have:E=[]:=by cases E with | nil=>rfl | cons _ _=>simp at h
  subst this
  rfl
 | e :: l,E,i,h=>by
  cases E with
  | nil=>simp at h
  | cons x E =>
   simp only [List.map_cons,List.cons.injEq] at h
   obtain ⟨h1,h2⟩:=h
   simp only [kv,ek,Prod.mk.injEq] at h1
   unfold Instr.findNow
   rw [h1.1]
   simp only [Str,Instr.sameNow,str_beq]
   by_cases hx:n=x.1
   ·subst hx
    simp [findP,h1.2,ptrO,List.findIdx?_cons]
   ·have hx':¬x.1=n:=fun e=>hx e.symm
    simp only [decide_eq_false hx]
    rw [show Value.string ⟨n.toArray⟩=Str n from rfl,find_now n l E (i+1) h2]
    simp only [findP,List.find?_cons,decide_eq_false hx',List.findIdx?_cons]
    simp only [Bool.false_eq_true,if_false,Option.map_map]
    congr 2
    funext j
    simp [Nat.add_comm,Nat.add_left_comm]
theorem find_none {E:List Ent}{n:List UInt8}(h:E.findIdx? (fun x=>decide (x.1=n))=none):findP E n=none/\∀x ∈ E,x.1≠n:=by
 rw [List.findIdx?_eq_none_iff] at h
 have h':∀x ∈ E,x.1≠n:=fun x hx e=>by have:=h x hx;simp [e] at this
 refine ⟨?_,h'⟩
 simp only [findP,Option.map_eq_none_iff,List.find?_eq_none]
 intro x hx
 simp [h' x hx]
theorem find_some {E:List Ent}{n:List UInt8}{i:Nat}(h:E.findIdx? (fun x=>decide (x.1=n))=some i):∃(hi:i<E.length),E[i].1=n/\findP E n=some E[i].2:=by
 have h0:=h
 rw [List.findIdx?_eq_some_iff_getElem] at h
 obtain ⟨hi,h1,h2⟩:=h
 refine ⟨hi,by simpa using h1,?_⟩
 have:E.find? (fun x=>decide (x.1=n))=some E[i]:=by
  rw [List.find?_eq_some_iff_getElem]
  exact ⟨h1,i,hi,rfl,fun j hj=>by have:=h2 j hj;simpa using this⟩
 simp [findP,this]
theorem ut62:Tryz.prog.underlying 62=some (.map 9 92):=by kernel_rfl
theorem ut9:Tryz.prog.underlying 9=some .string:=by kernel_rfl
theorem run_check9 (e:Bool)(w:World)(n:List UInt8):(Instr.checkKey e 10000 9 (Str n)).run Tryz.prog w=.ok () w:=by
 have key:∀d,(Instr.checkKey e (d+1) 9 (Str n)).run Tryz.prog w=.ok () w:=fun d=>by
  simp only [Instr.checkKey,Sem.run_bind,run_underlying ut9,Result.andThen,Str]
  rfl
 exact key 9999
theorem run_find9 (w:World)(n:List UInt8)(l:List MapEntry)(E:List Ent)(h:l.map kv=E.map ek) :
  (Instr.findKey 9 (Str n) l).run Tryz.prog w=.ok ((E.findIdx? (fun x=>decide (x.1=n))).map fun j=>(j,ptrO (findP E n))) w:=by
 simp only [Instr.findKey,Sem.run_bind,run_underlying ut9,Result.andThen]
 rw [find_now n l E 0 h]
 simp only [Nat.zero_add]
 rfl
theorem run_look {w:World}{m:Nat}{E:List Ent}(h:MapAt w m E)(n:List UInt8)(ok:Bool) :
  (Instr.lookup 62 (.map (some m)) (Str n) ok).run Tryz.prog w=.ok (if ok then .tuple #[ptrO (findP E n),.bool (findP E n).isSome] else ptrO (findP E n)) w:=by
 obtain ⟨es,c,h1,h2,_⟩:=h
 cases hi:E.findIdx? (fun x=>decide (x.1=n)) with
 | none =>
  have:=find_none hi
  cases ok <;> simp [Instr.lookup,run_underlying ut62,MapKept.run_getObj_map h1,run_check9,run_find9 w n _ E h2,hi,this.1,ptrO,Result.andThen]
 | some i =>
  obtain ⟨_,_,e⟩:=find_some hi
  cases ok <;> simp [Instr.lookup,run_underlying ut62,MapKept.run_getObj_map h1,run_check9,run_find9 w n _ E h2,hi,e,Result.andThen]
def setE (E:List Ent)(n:List UInt8)(p:Nat):List Ent:=if (findP E n).isSome then E.map (fun x=>if x.1=n then (n,p) else x) else E ++ [(n,p)]
def delE (E:List Ent)(n:List UInt8):List Ent:=E.filter (fun x=>decide (x.1≠n))
theorem run_setMap {w:World}{r:Nat}{es:Array MapEntry}{c:Nat}(o':Obj)(h:w.heap[r]? = some (.map es c)):∃w',(setObj r o').run Tryz.prog w=.ok () w'/\w'.heap[r]? = some o'/\w.grownBy w' (some r)/\w'.heap.size=w.heap.size:=by
 have hlt:=(Array.getElem?_eq_some_iff.1 h).1
 refine ⟨{ w with heap:=w.heap.setIfInBounds r o' },?_,?_,⟨rfl,rfl,rfl,by simp,fun k hk hr=>?_⟩,by simp⟩
 ·simp only [setObj,Sem.run,h]
 ·simp [hlt]
 ·show (w.heap.setIfInBounds r o')[k]? = _
  rw [Array.getElem?_setIfInBounds_ne (fun e=>hr (by rw [e]))]
theorem born_modify (es:Array MapEntry)(i:Nat)(f:MapEntry->MapEntry)(hf:∀e,(f e).born=e.born):(es.modify i f).toList.map (·.born)=es.toList.map (·.born):=by
 apply List.ext_getElem
 ·simp
 ·intro j h1 h2
  simp only [List.getElem_map,Array.toList_modify,List.getElem_modify]
  split <;> simp [hf]
theorem keys_set (E:List Ent)(n:List UInt8)(p:Nat):(E.map (fun x=>if x.1=n then (n,p) else x)).map (·.1)=E.map (·.1):=by
 rw [List.map_map]
 refine List.map_congr_left fun x _=>?_
 by_cases h:x.1=n <;> simp [h]
theorem nodup_at {E:List Ent}(h:(E.map (·.1)).Nodup){i j:Nat}(hi:i<E.length)(hj:j<E.length)(e:E[i].1=E[j].1):i=j:=by
 have:=List.pairwise_iff_getElem.1 h
 rcases Nat.lt_trichotomy i j with hl | hl | hl
 ·exact (this i j (by simpa using hi) (by simpa using hj) hl (by simp [e])).elim
 ·exact hl
 ·exact (this j i (by simpa using hj) (by simpa using hi) hl (by simp [e])).elim
theorem run_put {w:World}{m:Nat}{E:List Ent}(h:MapAt w m E)(n:List UInt8)(p:Nat) :
  ∃w',(Instr.mapUpdate 62 (.map (some m)) (Str n) (ptr p)).run Tryz.prog w=.ok () w'/\MapAt w' m (setE E n p)/\w.grownBy w' (some m)/\w'.heap.size=w.heap.size:=by
 obtain ⟨es,c,h1,h2,h3,h4,h5⟩:=h
 have hlen:es.toList.length=E.length:=by have:=congrArg List.length h2;simpa using this
 cases hi:E.findIdx? (fun x=>decide (x.1=n)) with
 | none =>
  obtain ⟨e1,e2⟩:=find_none hi
  obtain ⟨w',r1,r2,r3,r4⟩:=run_setMap (.map (es.push { key:=Str n,val:=ptr p,born:=c }) (c+1)) h1
  refine ⟨w',?_,⟨_,_,r2,?_,?_,?_,?_⟩,r3,r4⟩
  ·simp [Instr.mapUpdate,run_underlying ut62,MapKept.run_getObj_map h1,run_check9,run_find9 w n _ E h2,hi,r1,Result.andThen]
  ·simp [setE,e1,h2,kv,ek]
  ·intro e he
   simp at he
   rcases he with he | rfl
   ·have:=h3 e (by simpa using he);omega
   ·simp
  ·simp only [Array.toList_push,List.map_append,List.map_cons,List.map_nil]
   rw [List.nodup_append]
   refine ⟨h4,by simp,fun a ha b hb=>?_⟩
   simp at hb
   subst hb
   obtain ⟨e,he,rfl⟩:=List.mem_map.1 ha
   have:=h3 e he
   omega
  ·simp only [setE,e1,Option.isSome_none,Bool.false_eq_true,if_false,List.map_append,List.map_cons,List.map_nil]
   rw [List.nodup_append]
   refine ⟨h5,by simp,fun a ha b hb=>?_⟩
   simp at hb
   subst hb
   obtain ⟨x,hx,rfl⟩:=List.mem_map.1 ha
   exact e2 x hx
 | some i =>
  obtain ⟨hi',e1,e2⟩:=find_some hi
  have hie:i<es.size:=by simpa using (by omega:i<es.toList.length)
  have hk:((es[i]?).map (·.key)).getD (Str n)=Str n:=by
   have:=congrArg (fun l=>l[i]?) h2
   simp only [List.getElem?_map] at this
   rw [List.getElem?_eq_getElem hi',List.getElem?_eq_getElem (by omega)] at this
   simp only [Option.map_some,Option.some.injEq,kv,ek,Prod.mk.injEq] at this
   rw [Array.getElem?_eq_getElem hie]
   simp only [Option.map_some,Option.getD_some]
   rw [<-e1,<-this.1]
   simp
  obtain ⟨w',r1,r2,r3,r4⟩:=run_setMap (.map (es.modify i fun e=>{ e with key:=Str n,val:=ptr p }) c) h1
  refine ⟨w',?_,⟨_,_,r2,?_,?_,?_,?_⟩,r3,r4⟩
  ·have hb:Instr.sameBits 10000 (Str n) (Str n)=true:=by
    show Instr.sameBits (9999+1) (Str n) (Str n)=true
    unfold Str
    simp only [Instr.sameBits]
    exact (MapKept.bytes_beq _ _).2 rfl
   have hks:(Instr.keyThatStays (Str n) (Str n)).run Tryz.prog w=.ok (Str n) w:=by
    simp only [Instr.keyThatStays,hb,if_true]
    rfl
   simp [Instr.mapUpdate,run_underlying ut62,MapKept.run_getObj_map h1,run_check9,run_find9 w n _ E h2,hi,hk,hks,r1,Result.andThen]
  ·simp only [setE,e2,Option.isSome_some,if_true]
   apply List.ext_getElem
   ·simpa using hlen
   ·intro j g1 g2
    have gj:j<E.length:=by simpa using g2
    have gj':j<es.toList.length:=by omega
    have hx:(es.toList.map kv)[j]'(by simpa using gj')=(E.map ek)[j]'(by simpa using gj):=by simp only [h2]
    simp only [List.getElem_map] at hx
    simp only [List.getElem_map]
    by_cases hj:i=j
    ·subst hj
     simp [kv,ek,e1]
    ·have hne:¬E[j].1=n:=fun e=>hj (nodup_at h5 hi' gj (e1.trans e.symm))
     simp only [hne,if_false]
     rw [<-hx]
     simp [hj]
  ·intro e he
   have:e.born ∈ (es.modify i fun e=>{ e with key:=Str n,val:=ptr p }).toList.map (·.born):=List.mem_map.2 ⟨e,he,rfl⟩
   rw [born_modify es i (fun e=>{ e with key:=Str n,val:=ptr p }) (fun _=>rfl)] at this
   obtain ⟨x,hx,e⟩:=List.mem_map.1 this
   rw [<-e]
   exact h3 x hx
  ·rw [born_modify es i (fun e=>{ e with key:=Str n,val:=ptr p }) (fun _=>rfl)]
   exact h4
  ·simp only [setE,e2,Option.isSome_some,if_true]
   rw [keys_set]
   exact h5
theorem map_erase {α β:Type}(f:α->β):∀(l:List α) (i:Nat),(l.eraseIdx i).map f=(l.map f).eraseIdx i
 | [],i=>by simp
 | x :: l,0=>by simp
 | x :: l,i+1=>by simp [map_erase f l i]
theorem filter_erase {E:List Ent}(h:(E.map (·.1)).Nodup){n:List UInt8}{i:Nat}(hi:i<E.length)(e:E[i].1=n):E.filter (fun x=>decide (x.1≠n))=E.eraseIdx i:=by
 induction E generalizing i with
 | nil=>simp at hi
 | cons x E ih =>
  simp only [List.map_cons,List.nodup_cons] at h
  cases i with
  | zero =>
   simp at e
   subst e
   simp only [List.eraseIdx_cons_zero,List.filter_cons,ne_eq,not_true,decide_false,Bool.false_eq_true,if_false]
   rw [List.filter_eq_self]
   intro y hy
   have:y.1≠x.1:=fun e=>h.1 (by rw [<-e];exact List.mem_map.2 ⟨y,hy,rfl⟩)
   simp [this]
  | succ i =>
   simp at e hi
   have hx:x.1≠n:=fun e'=>h.1 (by rw [e',<-e];exact List.mem_map.2 ⟨E[i],List.getElem_mem _,rfl⟩)
   simp only [List.eraseIdx_cons_succ,List.filter_cons,ne_eq,hx,not_false_eq_true,decide_true,if_true]
   rw [<-ih h.2 hi e]
theorem run_del {w:World}{m:Nat}{E:List Ent}(h:MapAt w m E)(n:List UInt8)(ty:TypeId) :
  ∃w',(Builtin.delete_ #[62,9] ty #[.map (some m),Str n]).run Tryz.prog w=.ok (.tuple #[]) w'/\MapAt w' m (delE E n)/\w.grownBy w' (some m)/\w'.heap.size=w.heap.size:=by
 obtain ⟨es,c,h1,h2,h3,h4,h5⟩:=h
 have hlen:es.toList.length=E.length:=by have:=congrArg List.length h2;simpa using this
 cases hi:E.findIdx? (fun x=>decide (x.1=n)) with
 | none =>
  obtain ⟨e1,e2⟩:=find_none hi
  obtain ⟨w',r1,r2,r3,r4⟩:=run_setMap (.map es c) h1
  have hd:delE E n=E:=by
   unfold delE
   rw [List.filter_eq_self]
   intro x hx
   simp [e2 x hx]
  refine ⟨w',?_,⟨_,_,r2,?_,h3,h4,?_⟩,r3,r4⟩
  ·simp [Builtin.delete_,run_underlying ut62,MapKept.run_getObj_map h1,run_check9,run_find9 w n _ E h2,hi,r1,Result.andThen]
  ·rw [hd];exact h2
  ·rw [hd];exact h5
 | some i =>
  obtain ⟨hi',e1,e2⟩:=find_some hi
  have hie:i<es.size:=by simpa using (by omega:i<es.toList.length)
  obtain ⟨w',r1,r2,r3,r4⟩:=run_setMap (.map (es.eraseIdxIfInBounds i) c) h1
  have hd:delE E n=E.eraseIdx i:=filter_erase h5 hi' e1
  have he:(es.eraseIdxIfInBounds i).toList=es.toList.eraseIdx i:=by
   unfold Array.eraseIdxIfInBounds
   rw [dif_pos hie]
   simp
  refine ⟨w',?_,⟨_,_,r2,?_,?_,?_,?_⟩,r3,r4⟩
  ·simp [Builtin.delete_,run_underlying ut62,MapKept.run_getObj_map h1,run_check9,run_find9 w n _ E h2,hi,r1,Result.andThen]
  ·rw [he,hd,map_erase,map_erase,h2]
  ·intro e hm
   rw [he] at hm
   exact h3 e ((List.eraseIdx_sublist _ _).subset hm)
  ·rw [he,map_erase]
   exact (List.eraseIdx_sublist _ _).nodup h4
  ·rw [hd,map_erase]
   exact (List.eraseIdx_sublist _ _).nodup h5
theorem run_made (w:World):(Instr.makeMap 62 none).run Tryz.prog w=.ok (.map (some w.heap.size)) (w.alloc (.map #[] 0)):=run_makeMap 62 w
theorem map_made (w:World):MapAt (w.alloc (.map #[] 0)) w.heap.size []:=⟨#[],0,heap_alloc_new _ _,rfl,by simp,by simp,by simp⟩
theorem MapAt.clone {w:World}{m:Nat}{E:List Ent}(h:MapAt w m E):∃es c,w.heap[m]? = some (.map es c)/\MapAt (w.alloc (.map es c)) w.heap.size E:=by
 obtain ⟨es,c,h1,h2⟩:=h
 exact ⟨es,c,h1,es,c,heap_alloc_new _ _,h2⟩
theorem run_len62 {w:World}{m:Nat}{E:List Ent}(h:MapAt w m E)(ty:TypeId):(Builtin.len_ #[62] ty #[.map (some m)]).run Tryz.prog w=.ok (.int .i64 (E.length:Int)) w:=by
 obtain ⟨es,c,h1,h2,_⟩:=h
 have hlen:es.size=E.length:=by have:=congrArg List.length h2;simpa using this
 simp [Builtin.len_,run_underlying ut62,MapKept.run_getObj_map h1,hlen]
 rfl
def IterAt (w:World)(it m:Nat)(E left:List Ent):Prop :=
 ∃es clock seen c0,w.heap[m]? = some (.map es clock)/\w.heap[it]? = some (.mapIter (some m) clock seen c0)/\es.toList.map kv=E.map ek/\(∀e ∈ es.toList,e.born<clock)/\(es.toList.map (·.born)).Nodup/\clock<=c0/\(leftOf es seen).toList.map kv=left.map ek
theorem IterAt.grown {w w':World}{it m:Nat}{E left:List Ent}{r:Option Nat}(h:IterAt w it m E left)(hg:w.grownBy w' r)(h1:r≠some m)(h2:r≠some it):IterAt w' it m E left:=by
 obtain ⟨es,c,seen,c0,e1,e2,e3⟩:=h
 exact ⟨es,c,seen,c0,(hg.block m (Array.getElem?_eq_some_iff.1 e1).1 (fun e=>h1 e.symm)).trans e1,(hg.block it (Array.getElem?_eq_some_iff.1 e2).1 (fun e=>h2 e.symm)).trans e2,e3⟩
theorem run_range62 {w:World}{m:Nat}{E:List Ent}(h:MapAt w m E):∃w',(Instr.range 62 (.map (some m))).run Tryz.prog w=.ok (.pointer (some ⟨w.heap.size,0,none⟩)) w'/\IterAt w' w.heap.size m E E/\w.grownBy w' none/\w'.heap.size=w.heap.size+1:=by
 have hlt:=h.lt
 obtain ⟨es,c,h1,h2,h3,h4,h5⟩:=h
 refine ⟨_,run_range_map w 62 9 92 m es c ut62 h1,⟨es,c,#[],c,?_,heap_alloc_new _ _,h2,h3,h4,Nat.le_refl _,?_⟩,World.grownBy_alloc _ _ _,by simp⟩
 ·rw [heap_alloc_old _ _ hlt,h1]
 ·simp only [leftOf,Array.toList_filter]
  rw [List.filter_eq_self.2 (by simp),h2]
theorem run_next_no {w:World}{it m:Nat}{E:List Ent}(h:IterAt w it m E [])(ty:TypeId):(Instr.next (.pointer (some ⟨it,0,none⟩)) false ty).run Tryz.prog w=.ok (.tuple #[.bool false]) w:=by
 obtain ⟨es,c,seen,c0,h1,h2,h3,h4,h5,h6,h7⟩:=h
 have h0:leftOf es seen=#[]:=by
  have:=congrArg List.length h7
  simp at this
  exact this
 unfold leftOf at h0
 simp only [Instr.next,getObj,Sem.run_bind,Sem.run,h2,h1,Result.andThen,next_test_false seen es c c0 h4 h6,Bool.false_eq_true,if_false,h0]
 simp [choose,Sem.run,Question.forced]
theorem left_push (es:Array MapEntry)(seen:Array Nat)(b:Nat):leftOf es (seen.push b)=(leftOf es seen).filter (fun e=>decide (e.born≠b)):=by
 unfold leftOf
 rw [Array.filter_filter]
 congr 1
 funext e
 simp only [Array.contains_push]
 by_cases h:e.born=b <;> simp [h]
theorem filter_born:∀(l:List MapEntry) (j:Nat) (hj:j<l.length),(l.map (·.born)).Nodup->l.filter (fun e=>decide (e.born≠l[j].born))=l.eraseIdx j
 | e :: l,0,_,h=>by
  simp only [List.map_cons,List.nodup_cons] at h
  simp only [List.getElem_cons_zero,List.eraseIdx_cons_zero,List.filter_cons,ne_eq,not_true,decide_false,Bool.false_eq_true,if_false]
  rw [List.filter_eq_self]
  intro y hy
  have:y.born≠e.born:=fun e'=>h.1 (by rw [<-e'];exact List.mem_map.2 ⟨y,hy,rfl⟩)
  simp [this]
 | e :: l,j+1,hj,h=>by
  simp only [List.map_cons,List.nodup_cons] at h
  simp only [List.length_cons,Nat.add_lt_add_iff_right] at hj
  have hx:e.born≠l[j].born:=fun e'=>h.1 (by rw [e'];exact List.mem_map.2 ⟨l[j],List.getElem_mem _,rfl⟩)
  simp only [List.getElem_cons_succ,List.eraseIdx_cons_succ,List.filter_cons,ne_eq,hx,not_false_eq_true,decide_true,if_true]
  rw [<-filter_born l j hj h.2]
theorem perm_at:∀(l:List Ent) (j:Nat) (hj:j<l.length),l.Perm (l[j] :: l.eraseIdx j)
 | x :: l,0,_=>by simp
 | x :: l,j+1,hj=>by
  simp only [List.getElem_cons_succ,List.eraseIdx_cons_succ]
  exact ((perm_at l j (by simpa using hj)).cons x).trans (List.Perm.swap _ _ _)
theorem run_next_some {w:World}{it m:Nat}{E left:List Ent}(h:IterAt w it m E left)(hne:left≠[])(ty:TypeId) :
  ∃(x:Ent) (left':List Ent) (w':World),left.Perm (x :: left')/\(Instr.next (.pointer (some ⟨it,0,none⟩)) false ty).run Tryz.prog w=.ok (.tuple #[.bool true,Str x.1,ptr x.2]) w' ∧
   (Instr.entry (.pointer (some ⟨it,0,none⟩))).run Tryz.prog w'=.ok (.tuple #[Str x.1,ptr x.2]) w'/\IterAt w' it m E left'/\w.grownBy w' (some it)/\w'.heap.size=w.heap.size:=by
 obtain ⟨es,c,seen,c0,h1,h2,h3,h4,h5,h6,h7⟩:=h
 have hit:=(Array.getElem?_eq_some_iff.1 h2).1
 have hmne:m≠it:=fun e=>by subst e;rw [h1] at h2;simp at h2
 have hlen:(leftOf es seen).size=left.length:=by have:=congrArg List.length h7;simpa using this
 have hsub:(leftOf es seen).toList.Sublist es.toList:=by
  unfold leftOf
  rw [Array.toList_filter]
  exact List.filter_sublist
 have hnd:((leftOf es seen).toList.map (·.born)).Nodup:=(hsub.map _).nodup h5
 have hpush:=left_push es seen
 simp only [Instr.next,getObj,Sem.run_bind,Sem.run,h2,h1,Result.andThen,next_test_false seen es c c0 h4 h6,Bool.false_eq_true,if_false]
 unfold leftOf at h7 hlen hnd hsub hpush
 have hmem:∀x ∈ (Array.filter (fun e=>!seen.contains e.born) es).toList,x.born<c:=fun x hx=>h4 x (hsub.subset hx)
 generalize Array.filter (fun e=>!seen.contains e.born) es=L at hmem h7 hlen hnd hsub hpush ⊢
 have e1:L.filter (fun x=>decide (x.born<c))=L:=Array.filter_eq_self.2 (fun x hx=>by simpa using hmem x (by simpa using hx))
 have e2:L.filter (fun x=>decide (x.born ≥ c))=#[]:=by
  rw [Array.filter_eq_empty_iff]
  intro x hx
  have:=hmem x (by simpa using hx)
  simp
  omega
 simp only [e1,e2,Array.append_empty]
 have h0:L.size≠0:=by
  intro e
  rw [hlen] at e
  exact hne (List.eq_nil_of_length_eq_zero e)
 have hne':L.isEmpty=false:=by simp [Array.isEmpty,h0]
 simp only [hne',Bool.false_eq_true,if_false,Array.empty_append,Array.size_map]
 have hch:∃(j:Nat) (w1:World),j<L.size/\w1.heap=w.heap/\w.grownBy w1 none/\(choose (Question.mapNext L.size)).run Tryz.prog w=.ok j w1:=by
  by_cases hf:L.size<=1
  ·exact ⟨0,w,by omega,rfl,grown_refl _ _,by simp [choose,Sem.run,Question.forced,hf]⟩
  ·exact ⟨_,w.drew,Nat.mod_lt _ (by omega),rfl,grown_drew _ _,by
    simp only [choose,Sem.run,Question.forced,decide_eq_true_eq,hf,if_false,Question.cut]
    rfl⟩
 obtain ⟨j,w1,hj,hw1,hg1,hrun⟩:=hch
 have hjl:j<left.length:=by omega
 have hkv:kv L[j]=ek left[j]:=by
  have:(L.toList.map kv)[j]'(by simpa using hj)=(left.map ek)[j]'(by simpa using hjl):=by simp only [h7]
  simpa using this
 simp only [kv,ek,Prod.mk.injEq] at hkv
 have hw2:∃w2:World,(setObj it (.mapIter (some m) c (seen.push L[j].born) c)).run Tryz.prog w1=.ok () w2/\w2.heap[it]? = some (.mapIter (some m) c (seen.push L[j].born) c)/\w1.grownBy w2 (some it)/\w2.heap.size=w1.heap.size:=by
  have h2':w1.heap[it]? = some (.mapIter (some m) c seen c0):=by rw [hw1];exact h2
  refine ⟨{ w1 with heap:=w1.heap.setIfInBounds it (.mapIter (some m) c (seen.push L[j].born) c) },?_,?_,⟨rfl,rfl,rfl,by simp,fun k hk hr=>?_⟩,by simp⟩
  ·simp only [setObj,Sem.run,h2']
  ·simp [hw1,hit]
  ·show (w1.heap.setIfInBounds it _)[k]? = _
   rw [Array.getElem?_setIfInBounds_ne (fun e=>hr (by rw [e]))]
 obtain ⟨w2,r1,r2,r3,r4⟩:=hw2
 have hg:w.grownBy w2 (some it):=grown_trans (grown_weak hg1 _) r3
 have hm2:w2.heap[m]? = some (.map es c):=(hg.block m (Array.getElem?_eq_some_iff.1 h1).1 (fun e=>hmne (by simpa using e))).trans h1
 refine ⟨left[j],left.eraseIdx j,w2,?_,?_,?_,⟨es,c,seen.push L[j].born,c,hm2,r2,h3,h4,h5,Nat.le_refl _,?_⟩,hg,by rw [r4,hw1]⟩
 ·exact perm_at left j hjl
 ·simp only [hrun,Array.getElem?_map,Array.getElem?_eq_getElem hj,Option.map_some,Sem.run_bind,r1,Result.andThen]
  rw [hkv.1,hkv.2]
  rfl
 ·have hle:L[j] ∈ es.toList:=hsub.subset (by simp)
  have hf:es.find? (·.born==L[j].born)=some L[j]:=by rw [<-Array.find?_toList];exact find_born L[j] es.toList h5 hle
  simp only [Instr.entry,getObj,Sem.run_bind,Sem.run,r2,hm2,Result.andThen,Array.back?_push,bne_self_eq_false,Bool.false_eq_true,if_false,hf]
  rw [hkv.1,hkv.2]
  rfl
 ·rw [show leftOf es (seen.push L[j].born)=L.filter (fun e=>decide (e.born≠L[j].born)) from hpush _]
  rw [Array.toList_filter]
  have:=filter_born L.toList j (by simpa using hj) hnd
  simp only [Array.getElem_toList] at this
  rw [this,map_erase,map_erase,h7]
end Go.Proofs.YtakmlhhapegpoaaGreat
