import Derived.Test.YtakmlhhapegpoaaGreatMmmAll
import Derived.Defers
import Derived.Recover
import Derived.Laws.Externs
set_option maxHeartbeats 4000000
set_option maxRecDepth 100000
namespace Go.Proofs.YtakmlhhapegpoaaGreat
open Go.RowKit Disk Table
open _root_.Go.Proofs.YtakmlhhapegpoaaGreat.Calls (POp POut PRes opV OpSeg mayOp)
theorem may_kind {o:POp}(h:mayOp o=true):o.kind=1\/o.kind=2\/o.kind=3\/o.kind=4\/o.kind=5:=by
 have:=(Calls.may_of h).kind
 omega
theorem op90y {X:Nat->Prop}(b m:Nat)(q:Int × Int)(D:DB)(hD:GoodD D)(hf:lenD D<=100000)(kv vv ol tv:Value)(o:POp)(hmay:mayOp o=true)(w:World)(hX:∀g,X g->g<w.heap.size)(hb:EngB w b q m)(hm:EM X w m D)(ho:OpSeg w kv vv ol tv o):Calls Tryz.prog 90 #[.pointer (some ⟨b,0,none⟩),opV kv vv ol tv o] w (OpEY X q D o m w):=by
 rcases may_kind hmay with h | h | h | h | h
 ·exact op90y_1 b m q D hD hf kv vv ol tv o h hmay w hX hb hm ho
 ·exact op90y_2 b m q D hD hf kv vv ol tv o h hmay w hX hb hm ho
 ·exact op90y_3 b m q D hD hf kv vv ol tv o h hmay w hX hb hm ho
 ·exact op90y_4 b m q D hD hf kv vv ol tv o h hmay w hX hb hm ho
 ·exact op90y_5 b m q D hD hf kv vv ol tv o h hmay w hX hb hm ho
end Go.Proofs.YtakmlhhapegpoaaGreat
namespace Go.Proofs.YtakmlhhapegpoaaGreat
open Go.RowKit Disk Table
open Names (Str)
open _root_.Go.Proofs.YtakmlhhapegpoaaGreat.Calls (POp POut PRes opV OpSeg mayOp)
theorem leaves_tmps {P:Program}{fn:Func}{t t':Array Value}{R:Ending->World->Prop}(ht:∀w,(results fn t').run P w=(results fn t).run P w):∀(ds:List Deferred) (u:FrameMode) (w:World),Leaves P fn t R ds u w->Leaves P fn t' R ds u w:=by
 intro ds
 induction ds with
 | nil =>
  intro u w h
  cases u with
  | run=>exact h
  | returning =>
   obtain ⟨v,hr,hR⟩:=h
   exact ⟨v,(ht w).trans hr,hR⟩
  | panicking c=>exact h
 | cons d ds ih =>
  intro u w h
  obtain ⟨h1,fv,cap,f,args,h2,h3,h4⟩:=h
  refine ⟨h1,fv,cap,f,args,h2,h3,h4.mono ?_⟩
  intro e u' w' h
  cases e with
  | returned v=>exact ih _ _ h
  | panicked c=>exact ih _ _ h
  | outgrown=>exact h
theorem leaves59 {R:Ending->World->Prop}{d:Nat}(h4:d≠4)(h5:d≠5)(v:Value)(c:List PanicEntry)(a:Act)(w:World)(h:bodyPostD Tryz.prog Tryz.f59 R (.panic c) (a.put (some d) v) w):bodyPostD Tryz.prog Tryz.f59 R (.panic c) a w:=by
 refine leaves_tmps (t:=(a.put (some d) v).tmps) (fun w=>?_) _ _ _ h
 have e4:(a.tmps.setIfInBounds d v)[4]? = a.tmps[4]?:=Array.getElem?_setIfInBounds_ne h4
 have e5:(a.tmps.setIfInBounds d v)[5]? = a.tmps[5]?:=Array.getElem?_setIfInBounds_ne h5
 simp [results,Tryz.results59,Act.put,e4,e5]
theorem ext116 (w:World){r:Nat}{es:Array MapEntry}{clock:Nat}(hb:w.heap[r]? = some (.map es clock)) :
  (Extern.MapsClone.clone #[.iface 62 (.map (some r))]).run Tryz.prog w=.ok (.iface 62 (.map (some w.heap.size))) (w.alloc (.map es clock)):=by
 have e:Extern.MapsClone.clone #[.iface 62 (.map (some r))]=(getObj r >>= fun o=>match o with
   | .map entries clock=>(newObj (.map entries clock) >>= fun n=>pure (.iface 62 (.map (some n))))
   | _=>stuck "maps.clone: a map expected"):=rfl
 rw [e]
 simp [MapKept.run_getObj_map hb,Result.andThen,go_sem]
theorem run_eql62 (w:World)(p:Nat):(binOp .eql 62 (.map (some p)) (.map none)).run Tryz.prog w=.ok (.bool false) w:=by
 have key:∀d,(Op.equalIn (d+1) 62 (.map (some p)) (.map none)).run Tryz.prog w=.ok false w:=fun d=>by
  simp [Op.equalIn,run_underlying ut62]
 simp only [binOp]
 rw [show Op.equal 62 (.map (some p)) (.map none)=Op.equalIn (9999+1) 62 (.map (some p)) (.map none) from rfl]
 simp only [Sem.run_bind,key 9999,Result.andThen]
 rfl
theorem assert62 (p:Option Nat)(w:World):(Instr.typeAssert (.iface 62 (.map p)) 20 62 false).run Tryz.prog w=.ok (.map p) w:=by
 simp [Instr.typeAssert,run_underlying ut62,go_sem,Result.andThen]
theorem clone89 {X:Nat->Prop}(m:Nat)(D:DB)(w:World)(h:EM X w m D):Calls Tryz.prog 89 #[.map (some m)] w fun e w'=>e=.returned (.map (some w.heap.size))/\EM X w' w.heap.size D/\w.grownBy w' none:=by
 obtain ⟨E,h1,h2,h3⟩:=h
 obtain ⟨es,c,hb,hc⟩:=h1.clone
 have hx:=ext116 w hb
 have hq:=run_eql62
 have ha:=assert62
 have HC:Hid (MapAt (w.alloc (.map es c)) w.heap.size E/\(∀n,n ∈ E.map (·.1)<->n ∈ namesD D)/\∀x ∈ E,Tbz X w x.2 (rowsOf D x.1)):=⟨hc,h2,h3⟩
 clear h1 h2 h3 hc
 go_enter Tryz.func89,Tryz.ntmps89
 go_wp2_with fail
 rw [run_callFunc_extern Tryz.func116 (by kernel_rfl) (by kernel_rfl) (by kernel_rfl) (e:=Extern.MapsClone.clone) (by kernel_rfl),hx]
 simp only [Result.andThen]
 rw [Oper.upon_value]
 go_wp2_with fail
 go_ret
 exact ⟨rfl,⟨E,HC.out.1,HC.out.2.1,fun x hx=>(HC.out.2.2 x hx).grown (World.grownBy_alloc _ _ _)⟩,World.grownBy_alloc _ _ _⟩
def ocells:List (Bool × Value × Value)->List Value
 | []=>[]
 | k :: ks=>.bool k.1 :: k.2.1 :: k.2.2 :: ocells ks
theorem ocells_append:∀ks ls,ocells (ks ++ ls)=ocells ks ++ ocells ls
 | [],ls=>rfl
 | k :: ks,ls=>by simp [ocells,ocells_append ks ls]
theorem ocells_at:∀(ks:List (Bool × Value × Value)) (j:Nat) (h:j<ks.length),(ocells ks)[j*3]? = some (.bool ks[j].1)/\(ocells ks)[j*3+1]? = some ks[j].2.1/\(ocells ks)[j*3+2]? = some ks[j].2.2
 | k :: ks,0,_=>by simp [ocells]
 | k :: ks,j+1,h=>by
  have:=ocells_at ks j (by simpa using h)
  have e:(j+1)*3=j*3+3:=by omega
  rw [e]
  simpa [ocells] using this
structure OutN (w:World)(B:Nat)(k:Bool × Value × Value)(o:POut):Prop where
 has:k.1=o.has
 value:Disk.Own w B k.2.1 o.value
 rows:TRws w B k.2.2 o.rows
theorem OutN.grown {w w':World}{B:Nat}{k:Bool × Value × Value}{o:POut}(h:OutN w B k o)(hg:w.grownBy w' none):OutN w' B k o:=⟨h.has,h.value.grown hg,h.rows.grown hg⟩
theorem OutN.off {w w':World}{B:Nat}{k:Bool × Value × Value}{o:POut}(h:OutN w B k o){g t:Nat}{c:Array Value}(hg:w.grownBy w' (some g))(hb:Blk w g t c)(h86:t≠86)(h5:t≠5):OutN w' B k o:=⟨h.has,own_off h.value hg hb h5,trws_off h.rows hg hb h86 h5⟩
theorem trws_kept {w w':World}{B:Nat}{v:Value}{l:List PRow}(h:TRws w B v l)(ht:Tn 0 w w'):TRws w' B v l:=by
 obtain ⟨ks,h1,h2⟩:=h
 refine ⟨ks,⟨h1.1,?_⟩,h2.same fun k ⟨c,hk⟩=>ht.block k hk.lt (.inr ⟨_,_,_,hk⟩)⟩
 rcases h1.2 with e | ⟨g,cap,cur,e,hb,hg,rest⟩
 ·exact .inl e
 ·exact .inr ⟨g,cap,cur,e,hb,(ht.block g (Array.getElem?_eq_some_iff.1 hg).1 (.inr ⟨_,_,_,hg⟩)).trans hg,rest⟩
theorem OutN.kept {w w':World}{B:Nat}{k:Bool × Value × Value}{o:POut}(h:OutN w B k o)(ht:Tn 0 w w'):OutN w' B k o:=⟨h.has,ht.own h.value,trws_kept h.rows ht⟩
def OutL (w:World)(B:Nat)(ks:List (Bool × Value × Value))(l:List POut):Prop:=ks.length=l.length/\∀j (h:j<ks.length) (h':j<l.length),OutN w B ks[j] l[j]
theorem OutL.snoc {w:World}{B:Nat}{ks:List (Bool × Value × Value)}{l:List POut}(h:OutL w B ks l){k:Bool × Value × Value}{o:POut}(hk:OutN w B k o):OutL w B (ks ++ [k]) (l ++ [o]):=by
 refine ⟨by simp [h.1],fun j a b=>?_⟩
 rw [List.getElem_append,List.getElem_append]
 have:=h.1
 split <;> split
 ·exact h.2 _ _ _
 ·omega
 ·omega
 ·have hj:j=l.length:=by simp at b;omega
  subst hj
  simpa [h.1] using hk
def noP (u:Value):Prop:=∀p,u≠ptr p
def Clean (w:World)(v:Value):Prop:=∀g c,v.ownBlock=some g->Blk w g 72 c->∀u ∈ c.toList,noP u
def OutsN (w:World)(B:Nat)(v:Value)(l:List POut):Prop:=∃ks,w.ownsRow B 72 3 v l.length (ocells ks)/\OutL w B ks l/\Clean w v
theorem Clean.same {w w':World}{v:Value}(h:Clean w v)(hs:∀g,v.ownBlock=some g->w'.heap[g]? = w.heap[g]?):Clean w' v:=fun g c hg hb=>h g c hg (by unfold Blk at hb ⊢;rw [<-hs g hg];exact hb)
theorem OutsN.grown {w w':World}{B:Nat}{v:Value}{l:List POut}(h:OutsN w B v l)(hg:w.grownBy w' none):OutsN w' B v l:=by
 obtain ⟨ks,h1,h2,h3⟩:=h
 exact ⟨ks,World.ownsRow.kept h1 hg (by cases v.ownBlock <;> simp),⟨h2.1,fun j a b=>(h2.2 j a b).grown hg⟩,h3.same fun g he=>hg.block g (World.ownsRow.lt h1 g he).2 (by simp)⟩
theorem OutsN.kept {w w':World}{B:Nat}{v:Value}{l:List POut}(h:OutsN w B v l)(ht:Tn 0 w w'):OutsN w' B v l:=by
 obtain ⟨ks,h1,h2,h3⟩:=h
 have key:∀g,v.ownBlock=some g->w'.heap[g]? = w.heap[g]?:=fun g he=>by
  rcases h1.2 with ⟨e,_⟩ | ⟨g2,cap,cur,e,hb,hg,rest⟩
  ·rw [e] at he;simp [Value.ownBlock] at he
  ·rw [e] at he
   simp [Value.ownBlock] at he
   subst he
   exact ht.block g2 (Array.getElem?_eq_some_iff.1 hg).1 (.inr ⟨_,_,_,hg⟩)
 refine ⟨ks,⟨h1.1,?_⟩,⟨h2.1,fun j a b=>(h2.2 j a b).kept ht⟩,h3.same key⟩
 rcases h1.2 with e | ⟨g,cap,cur,e,hb,hg,rest⟩
 ·exact .inl e
 ·exact .inr ⟨g,cap,cur,e,hb,(key g (by rw [e];rfl)).trans hg,rest⟩
theorem OutsN.off {w w':World}{B:Nat}{v:Value}{l:List POut}(h:OutsN w B v l){g t:Nat}{c:Array Value}(hg:w.grownBy w' (some g))(hb:Blk w g t c)(h72:t≠72)(h86:t≠86)(h5:t≠5):OutsN w' B v l:=by
 obtain ⟨ks,h1,h2,h3⟩:=h
 have key:v.ownBlock≠some g:=fun e=>by
  rcases h1.2 with ⟨e2,_⟩ | ⟨g2,cap2,cur2,e2,_,hg2,_⟩
  ·rw [e2] at e;simp [Value.ownBlock] at e
  ·rw [e2] at e
   simp [Value.ownBlock] at e
   subst e
   unfold Blk at hb
   rw [hg2] at hb
   simp at hb
   exact h72 hb.2.symm
 exact ⟨ks,World.ownsRow.kept h1 hg (.inr key),⟨h2.1,fun j a b=>(h2.2 j a b).off hg hb h86 h5⟩,h3.same fun g' he=>hg.block g' (World.ownsRow.lt h1 g' he).2 (fun e=>key (by rw [he,e]))⟩
theorem OutsN.nil (w:World)(B:Nat):OutsN w B (.slice none 0 0) []:=⟨[],World.ownsRow_nil _ _ _ _,⟨rfl,fun j h=>absurd h (by simp)⟩,fun g c hg=>by simp [Value.ownBlock] at hg⟩
theorem OutsN.shape {w:World}{B:Nat}{v:Value}{l:List POut}(h:OutsN w B v l):∃a n c,v=.slice a n c/\l.length=n/\n<=c/\c<=9223372036854775807:=by
 obtain ⟨ks,h1,_⟩:=h
 obtain ⟨ao,cap,e,h2,h3,_⟩:=vec_of_owns h1
 unfold maxLen at h3
 exact ⟨ao,_,cap,e,rfl,h2,by omega⟩
theorem Tryz.info72:(Tryz.prog.info? 72).map (fun i=>(i.zero,i.size,i.bytes))=some (some (.agg #[.bool false,.slice none 0 0,.slice none 0 0]),3,56):=by kernel_rfl
theorem ut47:Tryz.prog.underlying 47=some (.slice 72):=by kernel_rfl
theorem vec_three (w:World)(x y z:Value)(w1:World)(hb:Blk w1 w.heap.size 72 #[x,y,z]):Vec w1 3 (.slice (some ⟨w.heap.size,0,none⟩) 1 1) 1 [x,y,z]:=by
 refine ⟨_,1,rfl,Nat.le_refl _,by unfold maxLen;omega,by simp,rfl,fun j u hj=>⟨_,0,rfl,?_⟩⟩
 rw [hb.cell,Nat.zero_add]
 simpa using hj
theorem noP_zero (k:Nat):∀u ∈ (Builtin.zeroCells (Value.agg #[.bool false,.slice none 0 0,.slice none 0 0]).cells k).toList,noP u:=by
 intro u hu
 simp [Builtin.zeroCells,Value.cells] at hu
 obtain ⟨i,_,rfl⟩:=hu
 have h3:i % 3<3:=Nat.mod_lt _ (by decide)
 intro p
 match hi:i % 3,h3 with
 | 0,_=>simp [ptr]
 | 1,_=>simp [ptr]
 | 2,_=>simp [ptr]
theorem append_clean {w w':World}{B ty:Nat}{v v':Value}{n:Nat}{xs:List Value}(hown:w.ownsRow B 72 3 v n xs)(hc:Clean w v)(hxs:∀u ∈ xs,noP u){ad:Addr}{c:Nat}{news:List Value}(hl:news.length=3)(hnews:∀j u,news[j]? = some u->w.cell? (ad.add j)=some u)(h1:∀u ∈ news,u.oneCell'=true)(hns:∀u ∈ news,noP u)(hn:n<=1000000)
  (hr:(Builtin.append_ #[47,47] ty #[v,.slice (some ad) 1 c]).run Tryz.prog w=.ok v' w'):Clean w' v':=by
 obtain ⟨i0,hi,hz0,hz1,hz2⟩:=info_parts Tryz.info72
 have hl':news.length=1*i0.size:=by rw [hz1,hl]
 have key:∀(cs:Array Value),(∀u ∈ cs.toList,noP u)->∀(W:World),Clean (W.drew.alloc (.cells cs 72)) (.slice (some ⟨W.heap.size,0,none⟩) 0 0):=by
  intro cs hcs W g c' hg hb u hu
  simp [Value.ownBlock] at hg
  subst hg
  have:(W.drew.alloc (.cells cs 72)).heap[W.heap.size]? = some (.cells cs 72):=heap_alloc_new W.drew _
  unfold Blk at hb
  rw [this] at hb
  simp at hb
  rw [<-hb] at hu
  exact hcs u hu
 rcases hown.2 with ⟨rfl,rfl⟩ | ⟨g,cap,cur,rfl,hbg,hg,hnc,hcm,hcs,htake⟩
 ·rw [run_append_nil (P:=Tryz.prog) w 47 ty 72 i0 _ ut47 hi hz0 ad 1 c news hl' hnews (by omega) (by omega) (by rw [hz2];omega)] at hr
  simp only [Result.ok.injEq] at hr
  obtain ⟨rfl,rfl⟩:=hr
  exact key _ (fun u hu=>by
   simp only [Array.toList_append,List.mem_append] at hu
   rcases hu with hu | hu
   ·exact hns u (by simpa using hu)
   ·exact noP_zero _ u hu) w
 ·by_cases hroom:n+1<=cap
  ·have hfit:n*i0.size+news.length<=cur.size:=by rw [hl,hcs,hz1];have:=Nat.mul_le_mul_right 3 hroom;omega
   rw [run_append_room (P:=Tryz.prog) w 47 ty 72 i0 ut47 hi g n cap cur hg ad 1 c news hl' hnews h1 hroom hfit] at hr
   simp only [Result.ok.injEq] at hr
   obtain ⟨rfl,rfl⟩:=hr
   intro g' c' hg' hb u hu
   simp [Value.ownBlock] at hg'
   subst hg'
   have:=setRow_heap w g cur (cur.toList.take (n*i0.size) ++ news ++ cur.toList.drop (n*i0.size+news.length)).toArray 72 _ hg
   unfold Blk at hb
   rw [this] at hb
   simp only [Option.some.injEq,Obj.cells.injEq] at hb
   rw [<-hb.1] at hu
   simp only [List.mem_append] at hu
   rcases hu with (hu | hu) | hu
   ·exact hc g cur rfl hg u (List.mem_of_mem_take hu)
   ·exact hns u hu
   ·exact hc g cur rfl hg u (List.mem_of_mem_drop hu)
  ·have holds:∀j u,xs[j]? = some u->w.cell? ((⟨g,0,none⟩:Addr).add j)=some u:=hown.cells (g:=g) rfl
   rw [run_append_grow (P:=Tryz.prog) w 47 ty 72 i0 _ ut47 hi hz0 ⟨g,0,none⟩ n cap xs (by rw [hz1];exact hown.1) holds ad 1 c news hl' hnews (by omega) (by omega) (growslice_fits (by omega) (by rw [hz2];omega))] at hr
   simp only [Result.ok.injEq] at hr
   obtain ⟨rfl,rfl⟩:=hr
   exact key _ (fun u hu=>by
    simp only [Array.toList_append,List.mem_append] at hu
    rcases hu with (hu | hu) | hu
    ·exact hxs u (by simpa using hu)
    ·exact hns u (by simpa using hu)
    ·exact noP_zero _ u hu) w
theorem noP_slice (a:Option Addr)(n c:Nat):noP (.slice a n c):=fun p=>by simp [ptr]
theorem own_noP {w:World}{B:Nat}{v:Value}{L:Bs}(h:Disk.Own w B v L):noP v:=by
 obtain ⟨ao,cap,rfl,_⟩:=h.seg
 exact noP_slice _ _ _
theorem trws_noP {w:World}{B:Nat}{v:Value}{l:List PRow}(h:TRws w B v l):noP v:=by
 obtain ⟨ao,n,cap,rfl,_⟩:=rws_open h.rws
 exact noP_slice _ _ _
theorem outL_noP {w:World}{B:Nat}{ks:List (Bool × Value × Value)}{l:List POut}(h:OutL w B ks l):∀u ∈ ocells ks,noP u:=by
 have key:∀(ks:List (Bool × Value × Value)),(∀k ∈ ks,noP k.2.1/\noP k.2.2)->∀u ∈ ocells ks,noP u:=by
  intro ks
  induction ks with
  | nil=>intro _ u hu;simp [ocells] at hu
  | cons k ks ih =>
   intro hk u hu
   simp only [ocells,List.mem_cons] at hu
   rcases hu with rfl | rfl | rfl | hu
   ·intro p;simp [ptr]
   ·exact (hk k (by simp)).1
   ·exact (hk k (by simp)).2
   ·exact ih (fun x hx=>hk x (by simp [hx])) u hu
 refine key ks fun k hk=>?_
 obtain ⟨j,hj,rfl⟩:=List.getElem_of_mem hk
 have:=h.2 j hj (by rw [<-h.1];exact hj)
 exact ⟨own_noP this.value,trws_noP this.rows⟩
theorem appO_wp {o:Oper}{a:Act}{K:Act->World->Prop}{Q:Exit->Act->World->Prop}(w:World)(s x:Operand)(ho:o.op=.call { callee:=.builtin .append,args:=#[s,x],argTypes:=#[47,47] })
  (B:Nat) (v:Value) (l:List POut) (u:Value) (k:Bool × Value × Value) (r:POut) (hs:a.eval s=v) (hx:a.eval x=u) (hv:OutsN w B v l) (hu:Vec w 3 u 1 [.bool k.1,k.2.1,k.2.2]) (hk:OutN w B k r) (h1:k.2.1.oneCell'=true) (h2:k.2.2.oneCell'=true) (hb:l.length<=1000000) (hB:B<=w.heap.size)
  (h:∀ao cap w' q,OutsN w' B (.slice ao (l.length+1) cap) (l ++ [r])->w.grownBy w' q->(∀g,q=some g->B<=g/\∃c,Blk w g 72 c/\∀u ∈ c.toList,noP u)->K (a.put o.dst (.slice ao (l.length+1) cap)) w'):o.wp Tryz.prog a w K Q:=by
 obtain ⟨ks,h3,h4,hcl⟩:=hv
 have h5:=h4.snoc hk
 obtain ⟨i0,hi,hz0,hz1,hz2⟩:=info_parts Tryz.info72
 obtain ⟨ad,c,eu⟩:∃ad c,u=.slice (some ad) 1 c:=by
  obtain ⟨ao,c,e,k1,_,k3,_⟩:=hu
  cases ao with
  | none=>have:=k3 rfl;omega
  | some ad=>exact ⟨ad,c,e⟩
 subst eu
 have hone:∀u ∈ [.bool k.1,k.2.1,k.2.2],u.oneCell'=true:=by
  intro y hy
  simp at hy
  rcases hy with rfl | rfl | rfl
  ·rfl
  ·exact h1
  ·exact h2
 have hnop:∀u ∈ [.bool k.1,k.2.1,k.2.2],noP u:=by
  intro y hy
  simp at hy
  rcases hy with rfl | rfl | rfl
  ·intro p;simp [ptr]
  ·exact own_noP hk.value
  ·exact trws_noP hk.rows
 obtain ⟨g,cap,w',hr,r1,r2,r3,_⟩:=run_append_lies (P:=Tryz.prog) w 47 o.type B 72 i0 _ 3 56 ut47 hi hz0 hz1 hz2 rfl (by decide) v l.length (ocells ks) h3 ad 1 c [.bool k.1,k.2.1,k.2.2] rfl hu.news hone (by decide) (by unfold maxLen;omega) (by omega) hB w.heap.size rfl
 have hcl':=append_clean h3 hcl (outL_noP h4) rfl hu.news hone hnop hb hr
 have hq:∀g,v.ownBlock=some g->B<=g/\∃c,Blk w g 72 c/\∀u ∈ c.toList,noP u:=fun g hg=>by
  refine ⟨(World.ownsRow.lt h3 g hg).1,?_⟩
  rcases h3.2 with ⟨e2,_⟩ | ⟨g2,cap2,cur2,e2,_,hg2,_⟩
  ·rw [e2] at hg;simp [Value.ownBlock] at hg
  ·have hg0:=hg
   rw [e2] at hg
   simp [Value.ownBlock] at hg
   subst hg
   exact ⟨cur2,hg2,hcl g2 cur2 hg0 hg2⟩
 unfold Oper.wp execOp
 simp only [ho,resolve,invoke,builtin,Sem.run_bind,Sem.run_pure,Result.andThen_ok,List.map_toArray,List.map_cons,List.map_nil,hs,hx,hr]
 refine h _ cap w' _ ⟨ks ++ [k],?_,⟨h5.1,fun j a b=>?_⟩,hcl'⟩ r2 hq
 ·rw [ocells_append,List.length_append]
  exact r1
 ·cases hob:v.ownBlock with
  | none =>
   rw [hob] at r2
   exact (h5.2 j a b).grown r2
  | some g =>
   rw [hob] at r2
   obtain ⟨_,c,hb,_⟩:=hq g hob
   exact (h5.2 j a b).off r2 hb (by decide) (by decide)
end Go.Proofs.YtakmlhhapegpoaaGreat
namespace Go.Proofs.YtakmlhhapegpoaaGreat
open Go.RowKit Disk Table
theorem assert46 (c:Int)(w:World):(Instr.typeAssert (.iface 46 (.int .i64 c)) 20 46 false).run Tryz.prog w=.ok (.int .i64 c) w:=by kernel_rfl
theorem catch88_idle (p0 p1 p2:Addr)(w:World) :
  CallsD Tryz.prog 88 #[.pointer (some p0),.pointer (some p1),.pointer (some p2)] .returning w fun e u' w'=>e=.returned (.tuple #[])/\u'=.returning/\w'=w:=by
 refine callsD_of_wpS Tryz.func88 rfl fun c₀ cs hu=>?_
 apply wpS_seq
 apply wpS_region
 simp [wpOpsS,go_sem,recoverD,hu,Tryz.ntmps88,Exit.thenS]
 apply wpS_seq
 apply wpS_region
 simp [wpOpsS,go_sem,recoverD,hu,Exit.thenS]
 refine wpS_cond (t:=false) (by simp [Act.eval,Array.replicate]) ?_
 simp only [Bool.false_eq_true,if_false]
 refine wpS_of_wp (wp_skip ?_)
 cases c₀
 simp_all [bodyPostS,results,Tryz.results88]
theorem catch88_panicking (eb rb ob b m:Nat)(q:Int × Int)(a:Option Addr)(n cp:Nat)(c:Int)(w:World)(h1:Blk w eb 28 #[ptr b])(h2:EngB w b q m)(h3:Blk w rb 49 #[.int .i64 0,.int .i64 0,.slice a n cp])(h4:Blk w ob 28 #[.pointer none])(hne:ob≠eb) :
  CallsD Tryz.prog 88 #[.pointer (some ⟨eb,0,none⟩),.pointer (some ⟨rb,0,none⟩),.pointer (some ⟨ob,0,none⟩)] (.panicking [{ v:=.iface 46 (.int .i64 c),recovered:=false }]) w fun e u' w' =>
   e=.returned (.tuple #[])/\u'=.panicking [{ v:=.iface 46 (.int .i64 c),recovered:=true }]/\∃cb w1,w.heap.size<=cb/\w.grownBy w1 none/\EngB w1 cb q m/\w'=(((((w1.setCell ⟨ob,0,none⟩ (ptr cb)).setCell ⟨rb,0,none⟩ (.int .i64 c)).setCell ⟨rb,1,none⟩ (.int .i64 (n:Int))).setCell ⟨rb,2,none⟩ (.slice none 0 0))):=by
 refine callsD_of_wpS Tryz.func88 rfl fun c₀ cs hu=>?_
 apply wpS_seq
 apply wpS_region
 simp [wpOpsS,go_sem,recoverD,hu,Tryz.ntmps88,Exit.thenS]
 apply wpS_seq
 apply wpS_region
 simp [wpOpsS,go_sem,recoverD,Exit.thenS]
 refine wpS_cond (t:=true) (by simp [Act.eval,Array.replicate]) ?_
 simp only [if_true]
 refine wpS_of_wp ?_
 show Code.wp Tryz.prog _ _ { tmps:=#[.pointer (some ⟨eb,0,none⟩),.pointer (some ⟨rb,0,none⟩),.pointer (some ⟨ob,0,none⟩),.iface 46 (.int .i64 c),.iface 46 (.int .i64 c),.iface 46 (.int .i64 c),.bool true,undef,undef,undef,undef,undef,undef,undef,undef],defers:=[] } w
 have ha:=assert46
 have hrbob:rb≠ob:=fun e=>by
  subst e
  unfold Blk at h3 h4
  rw [h3] at h4
  simp at h4
 have HH:Hid (Blk w eb 28 #[ptr b]/\EngB w b q m/\Blk w rb 49 #[.int .i64 0,.int .i64 0,.slice a n cp]/\Blk w ob 28 #[.pointer none]/\ob≠eb/\rb≠ob):=⟨h1,h2,h3,h4,hne,hrbob⟩
 clear h1 h2 h3 h4 hne hrbob
 refine wp_region_hold 9 (fun y=>Blk y eb 28 #[ptr b]/\Blk y rb 49 #[.int .i64 0,.int .i64 0,.slice a n cp]) (by kernel_rfl) ?_
 have G0:Hid (w.grownBy w.drew none):=grown_drew _ _
 generalize w.drew=wd at G0 ⊢
 have HD:Hid (Blk wd eb 28 #[ptr b]/\Blk wd rb 49 #[.int .i64 0,.int .i64 0,.slice a n cp]):=⟨HH.out.1.grown G0.out (by simp),HH.out.2.2.1.grown G0.out (by simp)⟩
 have J:Idx [0,2,3,4,5,6,7]:=trivial
 iterate 7 (refine tK J (HD.out) rfl rfl (fun wk hk=>by have z0:=hk.1.cell 0;have z2:=hk.2.cell 2;unfold ptr at z0;simp at z0 z2;go_simp;try rfl) ?_;replace J:=J.tl;try simp only [pN])
 clear J
 refine wpHold_one (i:=1) rfl (by kernel_rfl) (by rfl) (fun K hK=>?_)
 go_wp2_with fail
 refine (copy9 b m q wd (Blk.grown HH.out.2.1 G0.out (by simp))).mono ?_
 rintro e w1 ⟨cb,rfl,hcb,hE,g1⟩
 have H1:Hid (w.grownBy w1 none/\EngB w1 cb q m/\w.heap.size<=cb):=⟨grown_trans G0.out g1,hE,Nat.le_trans G0.out.size hcb⟩
 have HD1:Hid (Blk w1 eb 28 #[ptr b]/\Blk w1 rb 49 #[.int .i64 0,.int .i64 0,.slice a n cp]):=⟨HH.out.1.grown H1.out.1 (by simp),HH.out.2.2.1.grown H1.out.1 (by simp)⟩
 clear g1 hE hcb
 go_wp2_with fail
 refine hK.out _ _ (fun _=>HD1.out) ?_
 clear hK K
 try simp only [pN]
 refine wpHold_one (i:=8) rfl (by kernel_rfl) (by rfl) (fun K hK=>?_)
 have ho:=HH.out.2.2.2.1.grown H1.out.1 (by simp)
 have f0:=ho.free 0
 have o0:=ho.cell 0
 simp at o0
 go_wp2_with fail
 have HD2:Hid (Blk (w1.setCell ⟨ob,0,none⟩ (.pointer (some ⟨cb,0,none⟩))) eb 28 #[ptr b]/\Blk (w1.setCell ⟨ob,0,none⟩ (.pointer (some ⟨cb,0,none⟩))) rb 49 #[.int .i64 0,.int .i64 0,.slice a n cp]):=⟨HD1.out.1.grown (grown_setCell _ _ _ _) (by simpa using HH.out.2.2.2.2.1),HD1.out.2.grown (grown_setCell _ _ _ _) (by simpa using fun e=>HH.out.2.2.2.2.2 e.symm)⟩
 refine hK.out _ _ (fun _=>HD2.out) ?_
 clear hK K ho f0 o0
 try simp only [pN]
 refine wpHold_one (i:=9) rfl (by kernel_rfl) (by rfl) (fun K hK=>?_)
 have hr:=HD2.out.2
 obtain ⟨w3,hw3⟩:∃w3,w1.setCell ⟨ob,0,none⟩ (.pointer (some ⟨cb,0,none⟩))=w3:=⟨_,rfl⟩
 rw [hw3] at hr ⊢
 have f0:=hr.free 0
 have f1:=hr.free 1
 have f2:=hr.free 2
 have r0:=hr.cell 0
 have r1:=hr.cell 1
 have r2:=hr.cell 2
 simp at r0 r1 r2
 have HW3:Hid (w1.setCell ⟨ob,0,none⟩ (.pointer (some ⟨cb,0,none⟩))=w3):=hw3
 clear hw3 hr
 go_wp2_with fail
 refine hK.out _ _ (fun h=>absurd rfl h) ?_
 clear hK K
 try simp only [pN]
 refine wpHold_done (by kernel_rfl) ?_
 refine ⟨rfl,_,rfl,.tuple #[],by simp [results,Tryz.results88],rfl,rfl,cb,H1.out.2.2,w1,H1.out.1,H1.out.2.1,?_⟩
 rw [<-HW3.out]
 rfl
end Go.Proofs.YtakmlhhapegpoaaGreat
