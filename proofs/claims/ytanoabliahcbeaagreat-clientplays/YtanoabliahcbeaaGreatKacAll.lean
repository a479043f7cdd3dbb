import Derived.Test.YtanoabliahcbeaaGreatCehAll
import Derived.Test.YtanoabliahcbeaaGreatPa
import Derived.Test.YtanoabliahcbeaaGreatMr
set_option maxHeartbeats 1000000
set_option maxRecDepth 100000
namespace Go.Proofs.YtanoabliahcbeaaGreat.Wn
open Go.RowKit Disk
open _root_.Go.Proofs.YtanoabliahcbeaaGreat.Calls _root_.Go.Proofs.YtanoabliahcbeaaGreat.Command
structure CS where
 num:Nat
 size:Nat
 most:Nat
 tmo:Nat
 tok:Int
 asked:Bool
 askAt:Int
 ses:Int
 L:List (Option Cr)
 wt:List Cr
 last:Int
 now:Int
structure PRet where
 id:Int
 what:Int
 ans:Bs
deriving DecidableEq
structure PSent where
 id:Int
 number:Int
 tm:Int
deriving DecidableEq
def mapUp (f:Nat->Cr->Option Cr)(L:List (Option Cr))(k:Nat):List (Option Cr):=L.mapIdx fun i o=>if i<k then o.bind (f i) else o
theorem mapUp_len (f:Nat->Cr->Option Cr)(L:List (Option Cr))(k:Nat):(mapUp f L k).length=L.length:=by simp [mapUp]
theorem mapUp_get (f:Nat->Cr->Option Cr)(L:List (Option Cr))(k i:Nat):(mapUp f L k)[i]? = (L[i]?).map fun o=>if i<k then o.bind (f i) else o:=by simp [mapUp]
theorem mapUp_zero (f:Nat->Cr->Option Cr)(L:List (Option Cr)):mapUp f L 0=L:=by
 apply List.ext_getElem?
 intro i
 rw [mapUp_get]
 cases L[i]? <;> simp
theorem mapUp_at {f:Nat->Cr->Option Cr}{L:List (Option Cr)}{k j:Nat}{c:Cr}(hk:k<=j)(hj:L[j]? = some (some c)):(mapUp f L k)[j]? = some (some c):=by
 rw [mapUp_get,hj]
 simp
 omega
theorem mapUp_step {f:Nat->Cr->Option Cr}{L:List (Option Cr)}{k j:Nat}{c:Cr}(hk:k<=j)(hj:L[j]? = some (some c))(hno:∀i,k<=i->i<j->L[i]? = some none):mapUp f L (j+1)=(mapUp f L k).set j (f j c):=by
 have hl:=(List.getElem?_eq_some_iff.1 hj).1
 apply List.ext_getElem?
 intro i
 rw [mapUp_get]
 by_cases e:i=j
 ·subst e
  rw [List.getElem?_set_self (by rw [mapUp_len];exact hl),hj]
  simp
 ·rw [List.getElem?_set_ne (fun h=>e h.symm),mapUp_get]
  by_cases h1:i<k
  ·have h2:i<j+1:=by omega
   simp [h1,h2]
  ·by_cases h2:i<j
   ·rw [hno i (by omega) h2]
    simp
   ·have h3:¬i<j+1:=by omega
    simp [h1,h3]
theorem mapUp_fin {f:Nat->Cr->Option Cr}{L:List (Option Cr)}{k:Nat}(h:Fino L k):mapUp f L k=mapUp f L L.length:=by
 apply List.ext_getElem?
 intro i
 rw [mapUp_get,mapUp_get]
 by_cases h1:i<L.length
 ·by_cases h2:i<k
  ·simp [h1,h2]
  ·rw [h i (by omega) h1]
   simp
 ·rw [List.getElem?_eq_none (by omega)]
  rfl
def gather {β:Type}(g:Nat->Cr->List β)(L:List (Option Cr)):Nat->List β
 | 0=>[]
 | k+1=>gather g L k ++ (match L[k]? with | some (some c)=>g k c | _=>[])
theorem gather_none {β:Type}{g:Nat->Cr->List β}{L:List (Option Cr)}{k j:Nat}(hk:k<=j)(hno:∀i,k<=i->i<j->L[i]? = some none):gather g L j=gather g L k:=by
 induction j with
 | zero =>
  have:k=0:=by omega
  rw [this]
 | succ j ih =>
  by_cases e:k=j+1
  ·rw [e]
  ·rw [gather,hno j (by omega) (by omega),ih (by omega) fun i h1 h2=>hno i h1 (by omega)]
   simp
theorem gather_step {β:Type}{g:Nat->Cr->List β}{L:List (Option Cr)}{k j:Nat}{c:Cr}(hk:k<=j)(hj:L[j]? = some (some c))(hno:∀i,k<=i->i<j->L[i]? = some none):gather g L (j+1)=gather g L k ++ g j c:=by
 rw [gather,hj,gather_none hk hno]
theorem gather_past {β:Type}(g:Nat->Cr->List β)(L:List (Option Cr)):∀k,L.length<=k->gather g L k=gather g L L.length
 | 0,h=>by
  have:L.length=0:=by omega
  rw [this]
 | k+1,h=>by
  by_cases e:L.length=k+1
  ·rw [e]
  ·rw [gather,List.getElem?_eq_none (by omega),gather_past g L k (by omega)]
   simp
theorem gather_fin {β:Type}{g:Nat->Cr->List β}{L:List (Option Cr)}{k:Nat}(h:Fino L k):gather g L k=gather g L L.length:=by
 by_cases e:k<=L.length
 ·exact (gather_none e h).symm
 ·exact gather_past g L k (by omega)
def due (was:Bool)(tm now:Int)(tmo:Nat):Bool:=!was || decide ((tmo:Int)<=now-tm)
def stamp (now:Int)(tmo:Nat)(c:Cr):Cr:=if due c.was c.tm now tmo=true then ⟨c.id,c.o,c.n,c.c,c.ops,true,now⟩ else c
def CS.lost (s:CS):CS:=⟨s.num,s.size,s.most,s.tmo,s.tok+8,false,0,0,[],s.wt,s.last,s.now⟩
def CS.many (s:CS):Nat:=min s.wt.length (lead s.L+s.size-s.L.length)
def CS.given (s:CS):CS:=⟨s.num,s.size,s.most,s.tmo,s.tok,s.asked,s.askAt,s.ses,s.L ++ (s.wt.take s.many).map some,s.wt.drop s.many,s.last,s.now⟩
def CS.out (s:CS)(L:List (Option Cr)):CS:=⟨s.num,s.size,s.most,s.tmo,s.tok,s.asked,s.askAt,s.ses,L,s.wt,s.last,s.now⟩
def CS.at (s:CS)(now:Int):CS:=⟨s.num,s.size,s.most,s.tmo,s.tok,s.asked,s.askAt,s.ses,s.L,s.wt,s.last,now⟩
def CS.ask (s:CS):CS:=⟨s.num,s.size,s.most,s.tmo,s.tok,true,s.now,s.ses,s.L,s.wt,s.last,s.now⟩
def CS.opened (s:CS)(n:Int):CS:=⟨s.num,s.size,s.most,s.tmo,s.tok,s.asked,s.askAt,n,[],s.wt,s.last,s.now⟩
def CS.id (s:CS):CS:=⟨s.num,s.size,s.most,s.tmo,s.tok,s.asked,s.askAt,s.ses,s.L,s.wt,s.last+1,s.now⟩
def CS.put (s:CS)(c:Cr):CS:=⟨s.num,s.size,s.most,s.tmo,s.tok,s.asked,s.askAt,s.ses,s.L,s.wt ++ [c],s.last,s.now⟩
def msgOpen (s:CS):PMsg:=⟨1,s.num,⟨1,s.tok,0,0,0,[]⟩,zeroR⟩
def msgClose (s:CS):PMsg:=⟨1,s.num,⟨3,0,s.ses,0,0,[]⟩,zeroR⟩
def msgCall (s:CS)(k:Nat)(c:Cr):PMsg:=⟨1,s.num,⟨2,0,s.ses,((k+1:Nat):Int),lead s.L,c.ops⟩,zeroR⟩
def sendG (s:CS)(k:Nat)(c:Cr):List PMsg:=if due c.was c.tm s.now s.tmo=true then [msgCall s k c] else []
def sendF (s:CS)(_:Nat)(c:Cr):Option Cr:=some (stamp s.now s.tmo c)
def CS.sent (s:CS):CS:=s.out (mapUp (sendF s) s.L s.L.length)
def CS.msgs (s:CS):List PMsg:=gather (sendG s) s.L s.L.length
def endF (P:Nat->Bool)(k:Nat)(c:Cr):Option Cr:=if P k=true then none else some c
def endG (P:Nat->Bool)(what:Int)(ans:Bs)(k:Nat)(c:Cr):List PRet:=if P k=true then [⟨c.id,what,ans⟩] else []
def CS.ended (s:CS)(P:Nat->Bool):CS:=s.out (mapUp (endF P) s.L s.L.length)
def CS.rets (s:CS)(P:Nat->Bool)(what:Int)(ans:Bs):List PRet:=gather (endG P what ans) s.L s.L.length
def openG (k:Nat)(c:Cr):List PSent:=[⟨c.id,((k+1:Nat):Int),c.tm⟩]
def CS.opens (s:CS):List PSent:=gather openG s.L s.L.length ++ s.wt.map fun c=>⟨c.id,0,0⟩
structure Okc (s:CS):Prop where
 num:s.num<=7
 size:1<=s.size/\s.size<=64
 most:1<=s.most/\s.most<=1024
 tmo:1<=s.tmo/\s.tmo<=1099511627776
 tok:1<=s.tok/\s.tok<=4000000000000000
 askAt:0<=s.askAt/\s.askAt<=s.now
 ses:0<=s.ses/\s.ses<=9223372036854775807
 none:s.ses=0->s.L=[]
 last:((s.L.length+s.wt.length:Nat):Int)<=s.last/\s.last<=1000000000000
 now:0<=s.now/\s.now<=1099511627776
 few:outN s.L s.L.length+s.wt.length<=s.most
 call:∀c,some c ∈ s.L\/c ∈ s.wt->mayCall c.ops=true/\(callForm c.ops).length<=4096/\0<=c.tm/\c.tm<=s.now/\-9223372036854775808<=c.id/\c.id<=9223372036854775807
 wait:∀c ∈ s.wt,c.was=false/\c.tm=0
theorem lead_mapUp_some {L:List (Option Cr)}{f:Nat->Cr->Option Cr}(hf:∀k c,(f k c).isSome=true)(k:Nat):lead (mapUp f L k)=lead L:=by
 refine lead_eq _ _ (fun j hj=>?_) ?_
 ·rw [mapUp_get,lead_low L j hj]
  simp
 ·rcases lead_next L with h | ⟨t,h⟩
  ·exact .inl (by rw [mapUp_len];exact h)
  ·refine .inr ?_
   rw [mapUp_get,h]
   by_cases e:lead L<k
   ·have:=hf (lead L) t
    obtain ⟨y,hy⟩:=Option.isSome_iff_exists.1 this
    exact ⟨y,by simp [e,hy]⟩
   ·exact ⟨t,by simp [e]⟩
theorem outN_all {L L':List (Option Cr)}(hl:L.length=L'.length)(h:∀i,i<L.length->(L[i]?.join).isSome=(L'[i]?.join).isSome):outN L L.length=outN L' L'.length:=by
 have key:∀k,k<=L.length->outN L k=outN L' k:=by
  intro k
  induction k with
  | zero=>intro _;rw [outN_zero,outN_zero]
  | succ k ih =>
   intro hk
   have h1:k<L.length:=by omega
   have h2:k<L'.length:=by omega
   have hh:=h k h1
   rw [List.getElem?_eq_getElem h1,List.getElem?_eq_getElem h2] at hh
   simp at hh
   cases e1:L[k] with
   | none =>
    cases e2:L'[k] with
    | none=>rw [outN_none (by rw [List.getElem?_eq_getElem h1,e1]),outN_none (by rw [List.getElem?_eq_getElem h2,e2]),ih (by omega)]
    | some y=>rw [e1,e2] at hh;simp at hh
   | some x =>
    cases e2:L'[k] with
    | none=>rw [e1,e2] at hh;simp at hh
    | some y=>rw [outN_some (by rw [List.getElem?_eq_getElem h1,e1]),outN_some (by rw [List.getElem?_eq_getElem h2,e2]),ih (by omega)]
 rw [key _ (Nat.le_refl _),hl]
theorem mem_mapUp {f:Nat->Cr->Option Cr}{L:List (Option Cr)}{c:Cr}{k:Nat}(h:some c ∈ mapUp f L k):∃i x,some x ∈ L/\(x=c\/f i x=some c):=by
 obtain ⟨i,hi⟩:=List.mem_iff_getElem?.1 h
 rw [mapUp_get] at hi
 cases e:L[i]? with
 | none=>rw [e] at hi;cases hi
 | some o =>
  rw [e] at hi
  have hm:o ∈ L:=List.mem_iff_getElem?.2 ⟨i,e⟩
  cases o with
  | none=>simp at hi
  | some x =>
   refine ⟨i,x,hm,?_⟩
   by_cases h1:i<k
   ·simp [h1] at hi;exact .inr hi
   ·simp [h1] at hi;exact .inl hi
def Gt (w:World)(G:Nat->Prop):Prop:=∀i,G i->∃t c,Blk w i t c/\t≠109/\t≠5
theorem own_fr {w w':World}{G:Nat->Prop}{B:Nat}{v:Value}{L:Bs}(h:Disk.Own w B v L)(hf:Fr w w' G)(hG:Gt w G):Disk.Own w' B v L :=
 h.same fun k hk=>hf.block k (h.lt k hk).2 fun hg=>by
  obtain ⟨t,c,hb,_,h5⟩:=hG k hg
  obtain ⟨cur,hc⟩:=own_blk h hk
  exact h5 (blk_type hb hc)
theorem cut_fr {w w':World}{G:Nat->Prop}{B:Nat}{v:Value}{L:Bs}(h:Names.Cut w B v L)(hf:Fr w w' G)(hG:Gt w G):Names.Cut w' B v L:=by
 rcases h with h | ⟨q,cap,rfl,h⟩
 ·exact .inl (own_fr h hf hG)
 ·exact .inr ⟨q,cap,rfl,own_fr h hf hG⟩
theorem owns_fr {w w':World}{G:Nat->Prop}{B t c n:Nat}{v:Value}{xs:List Value}(h:w.ownsRow B t c v n xs)(hf:Fr w w' G)(hG:∀k,v.ownBlock=some k->¬G k):w'.ownsRow B t c v n xs:=by
 refine ⟨h.1,?_⟩
 rcases h.2 with h2 | ⟨g,cap,cur,rfl,hb,hg,h3⟩
 ·exact .inl h2
 ·exact .inr ⟨g,cap,cur,rfl,hb,(hf.block g (Array.getElem?_eq_some_iff.1 hg).1 (hG g rfl)).trans hg,h3⟩
theorem opsOwn_fr {w w':World}{G:Nat->Prop}{B:Nat}{v:Value}{l:List POp}(h:OpsOwn w B v l)(hf:Fr w w' G)(hG:Gt w G):OpsOwn w' B v l:=by
 obtain ⟨⟨vs,h1,h2,h3,h4⟩,hl⟩:=h
 refine ⟨⟨vs,owns_fr h1 hf fun k hk hg=>?_,h2,h3,fun j hj hj'=>?_⟩,hl⟩
 ·obtain ⟨t,c,hb,h9,_⟩:=hG k hg
  obtain ⟨cur,hc⟩:=owns_blk h1 hk
  exact h9 (blk_type hb hc)
 ·obtain ⟨a,b,c,d,e,h⟩:=h4 j hj hj'
  exact ⟨a,b,c,d,e,cut_fr h.key hf hG,cut_fr h.value hf hG,cut_fr h.old hf hG,cut_fr h.tos hf hG,h.fits⟩
def crR:World->List Value->Cr->Prop:=fun _ x c=>x=[.int .i64 c.id,.slice c.o c.n c.c,.bool c.was,.int .i64 c.tm]
theorem crR_stab:Stab (fun _=>False) crR:=⟨fun _ _ _ _ h _=>h,fun _ _ _ _ _ _ _ h _ _ _=>h⟩
theorem lrow_fr {α:Type}{t c:Nat}{R:World->List Value->α->Prop}(hR:∀w w' x a,R w x a->R w' x a){w w':World}{G:Nat->Prop}{B:Nat}{v:Value}{l:List α}(h:LRow t c R w B v l)(hf:Fr w w' G)(hG:∀k,v.ownBlock=some k->¬G k):LRow t c R w' B v l:=by
 obtain ⟨vs,h1,h2,h3,h4⟩:=h
 exact ⟨vs,owns_fr h1 hf hG,h2,h3,fun j hj hj'=>hR _ _ _ _ (h4 j hj hj')⟩
def Out (Q F:Nat->Prop)(w:World)(oa:Option Addr)(ses:Int)(size:Nat)(L:List (Option Cr)):Prop :=
 (ses=0/\oa=none)\/(1<=ses/\∃ob v,oa=some ⟨ob,0,none⟩/\Win Q w ob v size L (lead L)/\∀i,FN ob v i->F i)
theorem Out.grown {Q F:Nat->Prop}{w w':World}{oa:Option Addr}{ses:Int}{size:Nat}{L:List (Option Cr)}(h:Out Q F w oa ses size L)(hg:w.grownBy w' none):Out Q F w' oa ses size L:=by
 rcases h with h | ⟨h1,ob,v,h2,h3,h4⟩
 ·exact .inl h
 ·exact .inr ⟨h1,ob,v,h2,h3.grown hg,h4⟩
def KT (t:Nat):Prop:=t=85\/t=144\/t=142\/t=105
structure Cm (Q F:Nat->Prop)(w:World)(b:Nat)(oa wo:Option Addr)(wc:Nat)(s:CS):Prop where
 blk:Blk w b 85 #[.int .i64 s.num,.int .i64 s.size,.int .i64 s.most,.int .i64 s.tmo,.int .i64 s.tok,.bool s.asked,.int .i64 s.askAt,.int .i64 s.ses,.pointer oa,.slice wo s.wt.length wc,.int .i64 s.last,.int .i64 s.now]
 out:Out Q F w oa s.ses s.size s.L
 wt:LRow 105 4 crR w 0 (.slice wo s.wt.length wc) s.wt
 wf:∀k,(Value.slice wo s.wt.length wc).ownBlock=some k->F k
 ops:∀c,some c ∈ s.L\/c ∈ s.wt->OpsOwn w 0 (.slice c.o c.n c.c) c.ops
 fb:F b
 ft:∀i,F i->∃t c,Blk w i t c/\KT t
 apart:∀i,F i->¬Q i
 qlt:∀i,Q i->i<w.heap.size
 ok:Okc s
def Cl (Q F:Nat->Prop)(w:World)(b:Nat)(s:CS):Prop:=∃oa wo wc,Cm Q F w b oa wo wc s
variable {Q F:Nat->Prop} {w w':World} {b:Nat} {oa wo:Option Addr} {wc:Nat} {s:CS}
theorem Cm.flt (h:Cm Q F w b oa wo wc s):∀i,F i->i<w.heap.size:=fun i hi=>by
 obtain ⟨t,c,hb,_⟩:=h.ft i hi
 exact hb.lt
theorem Cm.gt (h:Cm Q F w b oa wo wc s):Gt w F:=fun i hi=>by
 obtain ⟨t,c,hb,hk⟩:=h.ft i hi
 refine ⟨t,c,hb,?_,?_⟩ <;> rcases hk with rfl | rfl | rfl | rfl <;> decide
theorem Cm.grown (h:Cm Q F w b oa wo wc s)(hg:w.grownBy w' none):Cm Q F w' b oa wo wc s :=
 ⟨h.blk.grown hg (by simp),h.out.grown hg,h.wt.grown crR_stab hg,h.wf,fun c hc=>(h.ops c hc).grown hg,h.fb,fun i hi=>let ⟨t,c,hb,hk⟩:=h.ft i hi;⟨t,c,hb.grown hg (by simp),hk⟩,h.apart,fun i hi=>Nat.lt_of_lt_of_le (h.qlt i hi) hg.size,h.ok⟩
theorem Cl.grown (h:Cl Q F w b s)(hg:w.grownBy w' none):Cl Q F w' b s:=by
 obtain ⟨oa,wo,wc,h⟩:=h
 exact ⟨oa,wo,wc,h.grown hg⟩
theorem Cm.beside {G:Nat->Prop}(h:Cm Q F w b oa wo wc s)(hf:Fr w w' G)(hd:∀i,F i\/Q i->¬G i)(hG:Gt w G):Cm Q F w' b oa wo wc s:=by
 have keep:∀i,F i\/Q i->i<w.heap.size->w'.heap[i]? = w.heap[i]?:=fun i hi hl=>hf.block i hl (hd i hi)
 refine ⟨h.blk.same (keep b (.inl h.fb) h.blk.lt),?_,lrow_fr (fun _ _ _ _ h=>h) h.wt hf fun k hk=>hd k (.inl (h.wf k hk)),h.wf,fun c hc=>opsOwn_fr (h.ops c hc) hf hG,h.fb,fun i hi=>?_,h.apart,fun i hi=>Nat.lt_of_lt_of_le (h.qlt i hi) hf.size,h.ok⟩
 ·rcases h.out with h1 | ⟨h1,ob,v,h2,h3,h4⟩
  ·exact .inl h1
  ·exact .inr ⟨h1,ob,v,h2,h3.kept fun i hi hl=>keep i (by rcases hi with hi | hi;exact .inl (h4 i hi);exact .inr hi) hl,h4⟩
 ·obtain ⟨t,c,hb,hk⟩:=h.ft i hi
  exact ⟨t,c,hb.same (keep i (.inl hi) hb.lt),hk⟩
theorem Cl.beside {G:Nat->Prop}(h:Cl Q F w b s)(hf:Fr w w' G)(hd:∀i,F i\/Q i->¬G i)(hG:Gt w G):Cl Q F w' b s:=by
 obtain ⟨oa,wo,wc,h⟩:=h
 exact ⟨oa,wo,wc,h.beside hf hd hG⟩
theorem Cm.fn_ne (_h:Cm Q F w b oa wo wc s){ob:Nat}{v:Value}{n:Nat}{L:List (Option Cr)}{m:Nat}(hw:Win Q w ob v n L m){i t:Nat}{c:Array Value}(hb:Blk w i t c)(h1:t≠144)(h2:t≠142):¬FN ob v i:=by
 rintro (e | e)
 ·subst e
  exact h1 (blk_type hb hw.blk)
 ·obtain ⟨xs,hr,_⟩:=hw.ring
  obtain ⟨C,hC⟩:=hr.blk i e
  exact h2 (blk_type hb hC)
theorem Cm.wt_blk (h:Cm Q F w b oa wo wc s){k:Nat}(hk:(Value.slice wo s.wt.length wc).ownBlock=some k):∃C,Blk w k 105 C:=by
 obtain ⟨vs,h1,_⟩:=h.wt
 exact owns_blk h1 hk
theorem Cm.put {s':CS}(h:Cm Q F w b oa wo wc s)(hg:w.grownBy w' (some b))
  (hb:Blk w' b 85 #[.int .i64 s'.num,.int .i64 s'.size,.int .i64 s'.most,.int .i64 s'.tmo,.int .i64 s'.tok,.bool s'.asked,.int .i64 s'.askAt,.int .i64 s'.ses,.pointer oa,.slice wo s'.wt.length wc,.int .i64 s'.last,.int .i64 s'.now])
  (hL:s'.L=s.L) (hw:s'.wt=s.wt) (hs:s'.size=s.size) (he:s'.ses=s.ses) (ok:Okc s'):Cm Q F w' b oa wo wc s':=by
 have hf:Fr w w' (fun i=>i=b):=Fr.of hg fun k hk=>by simp at hk;exact hk.symm
 have hG:Gt w (fun i=>i=b):=fun i hi=>⟨85,_,(show i=b from hi) ▸ h.blk,by decide,by decide⟩
 have hqb:¬Q b:=h.apart b h.fb
 refine ⟨hb,?_,?_,by rw [hw];exact h.wf,by rw [hL,hw];exact fun c hc=>opsOwn_fr (h.ops c hc) hf hG,h.fb,fun i hi=>?_,h.apart,fun i hi=>Nat.lt_of_lt_of_le (h.qlt i hi) hf.size,ok⟩
 ·rw [hL,hs,he]
  rcases h.out with h1 | ⟨h1,ob,v,h2,h3,h4⟩
  ·exact .inl h1
  ·refine .inr ⟨h1,ob,v,h2,h3.kept fun i hi hl=>hf.block i hl fun e=>?_,h4⟩
   subst e
   rcases hi with hi | hi
   ·exact h.fn_ne h3 h.blk (by decide) (by decide) hi
   ·exact hqb hi
 ·rw [hw]
  refine lrow_fr (fun _ _ _ _ h=>h) h.wt hf fun k hk e=>?_
  obtain ⟨C,hC⟩:=h.wt_blk hk
  subst e
  exact absurd (blk_type hC h.blk) (by decide)
 ·by_cases e:i=b
  ·subst e
   exact ⟨85,_,hb,.inl rfl⟩
  ·obtain ⟨t,c,hbb,hk⟩:=h.ft i hi
   exact ⟨t,c,hbb.same (hf.block i hbb.lt e),hk⟩
theorem Cm.win {ob:Nat}{v:Value}{Q':Nat->Prop}{L':List (Option Cr)}(h:Cm Q F w b (some ⟨ob,0,none⟩) wo wc s)(hw0:Win Q w ob v s.size s.L (lead s.L))(h1:1<=s.ses)(hF:∀i,FN ob v i->F i)
  (hw:Win Q' w' ob v s.size L' (lead L')) (hf:Fr w w' (FN ob v)) (hQ:∀i,Q' i->Q i\/(w.heap.size<=i/\i<w'.heap.size)) (ho:∀c,some c ∈ L'->OpsOwn w' 0 (.slice c.o c.n c.c) c.ops) (ok:Okc (s.out L')):Cm Q' F w' b (some ⟨ob,0,none⟩) wo wc (s.out L'):=by
 have hG:Gt w (FN ob v):=fun i hi=>h.gt i (hF i hi)
 refine ⟨h.blk.same (hf.block b h.blk.lt (h.fn_ne hw0 h.blk (by decide) (by decide))),.inr ⟨h1,ob,v,rfl,hw,hF⟩,?_,h.wf,?_,h.fb,fun i hi=>?_,fun i hi hq=>?_,fun i hi=>?_,ok⟩
 ·refine lrow_fr (fun _ _ _ _ h=>h) h.wt hf fun k hk=>?_
  obtain ⟨C,hC⟩:=h.wt_blk hk
  exact h.fn_ne hw0 hC (by decide) (by decide)
 ·rintro c (hc | hc)
  ·exact ho c hc
  ·exact opsOwn_fr (h.ops c (.inr hc)) hf hG
 ·obtain ⟨t,c,hbb,hk⟩:=h.ft i hi
  by_cases e:FN ob v i
  ·rcases e with e | e
   ·subst e
    exact ⟨144,_,hw.blk,.inr (.inl rfl)⟩
   ·obtain ⟨xs,hr,_⟩:=hw.ring
    obtain ⟨C,hC⟩:=hr.blk i e
    exact ⟨142,_,hC,.inr (.inr (.inl rfl))⟩
  ·exact ⟨t,c,hbb.same (hf.block i hbb.lt e),hk⟩
 ·rcases hQ i hq with e | e
  ·exact h.apart i hi e
  ·have:=h.flt i hi
   omega
 ·rcases hQ i hi with e | e
  ·exact Nat.lt_of_lt_of_le (h.qlt i e) hf.size
  ·exact e.2
def Stp (Q F:Nat->Prop)(w:World)(b:Nat)(s':CS)(w':World):Prop:=∃Q' F',Cl Q' F' w' b s'/\Fr w w' F/\(∀i,F' i->F i\/w.heap.size<=i)/\∀i,Q' i->Q i\/w.heap.size<=i
theorem Stp.same (h:Cl Q F w b s)(hg:w.grownBy w' none):Stp Q F w b s w':=⟨Q,F,h.grown hg,Fr.of hg (by simp),fun _ h=>.inl h,fun _ h=>.inl h⟩
theorem Stp.to {Q' F':Nat->Prop}{w'':World}{s':CS}(hf:Fr w w' F)(hF:∀i,F' i->F i\/w.heap.size<=i)(hQ:∀i,Q' i->Q i\/w.heap.size<=i)(h:Stp Q' F' w' b s' w''):Stp Q F w b s' w'':=by
 obtain ⟨Q2,F2,h1,h2,h3,h4⟩:=h
 refine ⟨Q2,F2,h1,hf.trans h2 hF,fun i hi=>?_,fun i hi=>?_⟩
 ·rcases h3 i hi with e | e
  ·exact hF i e
  ·exact .inr (Nat.le_trans hf.size e)
 ·rcases h4 i hi with e | e
  ·exact hQ i e
  ·exact .inr (Nat.le_trans hf.size e)
theorem Stp.grown {w'':World}{s':CS}(h:Stp Q F w b s' w')(hg:w'.grownBy w'' none):Stp Q F w b s' w'':=by
 obtain ⟨Q2,F2,h1,h2,h3,h4⟩:=h
 exact ⟨Q2,F2,h1.grown hg,h2.trans (Fr.of (F:=F) hg (by simp)) fun i hi=>.inl hi,h3,h4⟩
def NoCl (w:World)(x:Value):Prop:=x=.pointer none\/∃b,x=.pointer (some ⟨b,0,none⟩)/\Blk w b 85 #[.int .i64 0,.int .i64 0,.int .i64 0,.int .i64 0,.int .i64 0,.bool false,.int .i64 0,.int .i64 0,.pointer none,.slice none 0 0,.int .i64 0,.int .i64 0]
theorem NoCl.grown {x:Value}(h:NoCl w x)(hg:w.grownBy w' none):NoCl w' x:=by
 rcases h with h | ⟨b,h,hb⟩
 ·exact .inl h
 ·exact .inr ⟨b,h,hb.grown hg (by simp)⟩
theorem appL_wp {α:Type}{t c by':Nat}{z:Value}{R:World->List Value->α->Prop}{T:Nat->Prop}(hs:Stab T R)(hT:¬T t)(ts:Nat)(hut:Tryz.prog.underlying ts=some (.slice t))(hinf:(Tryz.prog.info? t).map (fun i=>(i.zero,i.size,i.bytes))=some (some z,c,by'))(hz:z.cells.size=c)(hc0:0<c)(hby:by'<=70)
  {o:Oper} {a:Act} {K:Act->World->Prop} {P:Exit->Act->World->Prop} (w:World) (u x:Operand)
  (ho:o.op=.call { callee:=.builtin .append,args:=#[u,x],argTypes:=#[ts,ts] })
  (B:Nat) (v:Value) (l:List α) (y:α) (g:Nat) (cs:List Value) (C:Array Value) (hu:a.eval u=v) (hx:a.eval x=.slice (some ⟨g,0,none⟩) 1 1)
  (hrow:LRow t c R w B v l) (hb:Blk w g t C) (hC:C.toList=cs) (hl:cs.length=c) (hy:R w cs y) (h1:∀e ∈ cs,e.oneCell'=true) (hn:l.length<=2000000000000) (hB:B<=w.heap.size)
  (h:∀g' cap' w',LRow t c R w' B (.slice (some ⟨g',0,none⟩) (l.length+1) cap') (l ++ [y])->w.grownBy w' v.ownBlock->(v.ownBlock=some g'\/g'=w.heap.size)->K (a.put o.dst (.slice (some ⟨g',0,none⟩) (l.length+1) cap')) w'):o.wp Tryz.prog a w K P:=by
 obtain ⟨i0,hi,hz0,hz1,hz2⟩:∃i,Tryz.prog.info? t=some i/\i.zero=some z/\i.size=c/\i.bytes=by':=by
  cases hh:Tryz.prog.info? t with
  | none=>rw [hh] at hinf;cases hinf
  | some i=>rw [hh] at hinf;simp at hinf;exact ⟨i,rfl,hinf.1,hinf.2.1,hinf.2.2⟩
 obtain ⟨vs,e1,e2,e3,e4⟩:=hrow
 refine wp_append_lies w u x ts ho B t i0 z c by' hut hi hz0 hz1 hz2 hz hc0 v l.length vs.flatten hu e1 ⟨g,0,none⟩ 1 1 cs hx (by omega) ?_ h1 (by decide) (by unfold maxLen;omega) ?_ hB w.heap.size rfl ?_
 ·intro j e hj
  have hk:(⟨g,0,none⟩:Addr).add j=⟨g,j,none⟩:=by unfold Addr.add;split <;> simp_all
  rw [hk,hb.cell,<-Array.getElem?_toList,hC]
  exact hj
 ·have:(l.length+1)*by'<=2000000000001*70:=Nat.mul_le_mul (by omega) hby
  omega
 ·intro g' cap' w' r2 r3 r4 _
  exact h g' cap' w' (LRow.snoc hs hT e1 e2 e3 e4 hl hy r3 r2) r3 r4
theorem appL {α:Type}{t c by':Nat}{z:Value}{R:World->List Value->α->Prop}{T:Nat->Prop}(hs:Stab T R)(hT:¬T t)(ts:Nat)(hut:Tryz.prog.underlying ts=some (.slice t))(hinf:(Tryz.prog.info? t).map (fun i=>(i.zero,i.size,i.bytes))=some (some z,c,by'))(hz:z.cells.size=c)(hc0:0<c)(hby:by'<=70)
  {ops:Array Oper} {rest:List Oper} {o:Oper} {a:Act} {P:Exit->Act->World->Prop} (w:World) (hw:Region.wanted o (yielded ops a.tmps)=true) (u x:Operand)
  (ho:o.op=.call { callee:=.builtin .append,args:=#[u,x],argTypes:=#[ts,ts] })
  (B:Nat) (v:Value) (l:List α) (y:α) (g:Nat) (cs:List Value) (C:Array Value) (hu:a.eval u=v) (hx:a.eval x=.slice (some ⟨g,0,none⟩) 1 1)
  (hrow:LRow t c R w B v l) (hb:Blk w g t C) (hC:C.toList=cs) (hl:cs.length=c) (hy:R w cs y) (h1:∀e ∈ cs,e.oneCell'=true) (hn:l.length<=2000000000000) (hB:B<=w.heap.size)
  (h:∀g' cap' w',LRow t c R w' B (.slice (some ⟨g',0,none⟩) (l.length+1) cap') (l ++ [y])->w.grownBy w' v.ownBlock->(v.ownBlock=some g'\/g'=w.heap.size)->wpList Tryz.prog ops P rest (a.put o.dst (.slice (some ⟨g',0,none⟩) (l.length+1) cap')) w'):wpList Tryz.prog ops P (o :: rest) a w :=
 BigFrame.wpList_want hw fun _ hK=>appL_wp hs hT ts hut hinf hz hc0 hby w u x ho B v l y g cs C hu hx hrow hb hC hl hy h1 hn hB fun g' cap' w' k1 k2 k3=>hK _ _ (h g' cap' w' k1 k2 k3)
variable {Q F:Nat->Prop} {w w':World} {b:Nat} {oa wo:Option Addr} {wc:Nat} {s:CS}
theorem grown_mono {w w':World}{r:Option Nat}(h:w.grownBy w' none):w.grownBy w' r:=⟨h.os,h.tape,h.output,h.size,fun i hi _=>h.block i hi (by simp)⟩
theorem cells12 {w:World}{b t:Nat}{c0 c1 c2 c3 c4 c5 c6 c7 c8 c9 c10 c11:Value}(h:Blk w b t #[c0,c1,c2,c3,c4,c5,c6,c7,c8,c9,c10,c11]):w.cell? ⟨b,0,none⟩=some c0/\w.cell? ⟨b,1,none⟩=some c1/\w.cell? ⟨b,2,none⟩=some c2/\w.cell? ⟨b,3,none⟩=some c3/\w.cell? ⟨b,4,none⟩=some c4/\w.cell? ⟨b,5,none⟩=some c5/\w.cell? ⟨b,6,none⟩=some c6/\w.cell? ⟨b,7,none⟩=some c7/\w.cell? ⟨b,8,none⟩=some c8/\w.cell? ⟨b,9,none⟩=some c9/\w.cell? ⟨b,10,none⟩=some c10/\w.cell? ⟨b,11,none⟩=some c11 :=
 ⟨h.cell 0,h.cell 1,h.cell 2,h.cell 3,h.cell 4,h.cell 5,h.cell 6,h.cell 7,h.cell 8,h.cell 9,h.cell 10,h.cell 11⟩
theorem there_cl (w:World)(h:Cm Q F w b oa wo wc s):Calls Tryz.prog 30 #[.pointer (some ⟨b,0,none⟩)] w fun e w'=>e=.returned (.bool true)/\w'=w:=by
 have c4:=h.blk.cell 4
 simp at c4
 have i1:((0:Int)<s.tok)=True:=eq_true (by have:=h.ok.tok;omega)
 clear h
 go_enter Tryz.func30,Tryz.ntmps30
 go_wp2
 go_ret
 exact ⟨rfl,rfl⟩
theorem there_nocl (x:Value)(w:World)(h:NoCl w x):Calls Tryz.prog 30 #[x] w fun e w'=>e=.returned (.bool false)/\w'=w:=by
 rcases h with rfl | ⟨b,rfl,hb⟩
 ·go_enter Tryz.func30,Tryz.ntmps30
  go_wp2
  go_ret
  exact ⟨rfl,rfl⟩
 ·have c4:=hb.cell 4
  simp at c4
  clear hb
  go_enter Tryz.func30,Tryz.ntmps30
  go_wp2
  go_ret
  exact ⟨rfl,rfl⟩
theorem token_cl (w:World)(h:Cm Q F w b oa wo wc s):Calls Tryz.prog 26 #[.pointer (some ⟨b,0,none⟩)] w fun e w'=>e=.returned (.int .i64 s.tok)/\w'=w:=by
 have HC:Hid (Cm Q F w b oa wo wc s):=h
 have c4:=h.blk.cell 4
 simp at c4
 clear h
 go_enter Tryz.func26,Tryz.ntmps26
 go_wp2_with fail
 refine (there_cl w HC.out).mono ?_
 rintro e w1 ⟨rfl,rfl⟩
 go_wp2_with fail
 go_ret
 exact ⟨rfl,rfl⟩
theorem token_nocl (x:Value)(w:World)(h:NoCl w x):Calls Tryz.prog 26 #[x] w fun e w'=>e=.returned (.int .i64 0)/\w'=w:=by
 have HC:Hid (NoCl w x):=h
 clear h
 go_enter Tryz.func26,Tryz.ntmps26
 go_wp2_with fail
 refine (there_nocl x w HC.out).mono ?_
 rintro e w1 ⟨rfl,rfl⟩
 go_wp2_with fail
 go_ret
 exact ⟨rfl,rfl⟩
theorem number_cl (w:World)(h:Cm Q F w b oa wo wc s):Calls Tryz.prog 25 #[.pointer (some ⟨b,0,none⟩)] w fun e w'=>e=.returned (.int .i64 s.num)/\w'=w:=by
 have HC:Hid (Cm Q F w b oa wo wc s):=h
 have c0:=h.blk.cell 0
 simp at c0
 clear h
 go_enter Tryz.func25,Tryz.ntmps25
 go_wp2_with fail
 refine (there_cl w HC.out).mono ?_
 rintro e w1 ⟨rfl,rfl⟩
 go_wp2_with fail
 go_ret
 exact ⟨rfl,rfl⟩
theorem number_nocl (x:Value)(w:World)(h:NoCl w x):Calls Tryz.prog 25 #[x] w fun e w'=>e=.returned (.int .i64 0)/\w'=w:=by
 have HC:Hid (NoCl w x):=h
 clear h
 go_enter Tryz.func25,Tryz.ntmps25
 go_wp2_with fail
 refine (there_nocl x w HC.out).mono ?_
 rintro e w1 ⟨rfl,rfl⟩
 go_wp2_with fail
 go_ret
 exact ⟨rfl,rfl⟩
theorem session_cl (w:World)(h:Cm Q F w b oa wo wc s):Calls Tryz.prog 24 #[.pointer (some ⟨b,0,none⟩)] w fun e w'=>e=.returned (.tuple #[.int .i64 s.ses,.bool (decide (0<s.ses))])/\w.grownBy w' none:=by
 have HC:Hid (Cm Q F w b oa wo wc s):=h
 have c7:=h.blk.cell 7
 simp at c7
 obtain ⟨x,hx⟩:∃x,s.ses=x:=⟨_,rfl⟩
 rw [hx] at c7 ⊢
 clear h hx
 go_enter Tryz.func24,Tryz.ntmps24
 go_wp2_with fail
 refine (there_cl w HC.out).mono ?_
 rintro e w1 ⟨rfl,rfl⟩
 go_upto_region 3 with fail
 refine wp_region_hold 1000 (fun y=>w1.grownBy y none) (by kernel_rfl) ?_
 have HD:Hid (w1.grownBy w1.drew none):=grown_drew _ _
 generalize w1.drew=wd at HD ⊢
 have J:Idx [0,1,2,3,4,5,6,7,8,9,10]:=trivial
 iterate 11 (refine tK J (HD.out) rfl rfl (fun wk hk=>by have k7:=hk.cell c7 (by simp);go_simp;try rfl) ?_;replace J:=J.tl;try simp only [pN])
 clear J
 refine wpHold_done (by kernel_rfl) ?_
 refine (‹∀(a:Act) (w:World),Code.wp Tryz.prog _ _ a w->_› _ _ ?_)
 clear c7
 go_wp2_with fail
 go_ret2
 exact ⟨by simp,HD.out⟩
theorem session_nocl (x:Value)(w:World)(h:NoCl w x):Calls Tryz.prog 24 #[x] w fun e w'=>e=.returned (.tuple #[.int .i64 0,.bool false])/\w.grownBy w' none:=by
 have HC:Hid (NoCl w x):=h
 clear h
 go_enter Tryz.func24,Tryz.ntmps24
 go_wp2_with fail
 refine (there_nocl x w HC.out).mono ?_
 rintro e w1 ⟨rfl,rfl⟩
 go_wp2_with fail
 go_ret2
 exact ⟨rfl,grown_refl _ _⟩
theorem Cm.len (h:Cm Q F w b oa wo wc s):s.L.length<=1000000000000/\s.wt.length<=1000000000000:=by have:=h.ok.last;omega
theorem Cm.nowin (h:Cm Q F w b oa wo wc s)(h0:s.ses=0):oa=none/\s.L=[]:=by
 rcases h.out with h1 | ⟨h1,_⟩
 ·exact ⟨h1.2,h.ok.none h0⟩
 ·omega
theorem Cm.yeswin (h:Cm Q F w b oa wo wc s)(h0:s.ses≠0):1<=s.ses/\∃ob v,oa=some ⟨ob,0,none⟩/\Win Q w ob v s.size s.L (lead s.L)/\∀i,FN ob v i->F i:=by
 rcases h.out with h1 | h1
 ·exact absurd h1.1 h0
 ·exact h1
theorem wmark (w:World)(h:Cm Q F w b oa wo wc s):Calls Tryz.prog 66 #[.pointer oa] w fun e w'=>e=.returned (.int .i64 (lead s.L:Nat))/\w'=w:=by
 by_cases h0:s.ses=0
 ·obtain ⟨rfl,hl⟩:=h.nowin h0
  rw [hl]
  exact mark_no _ w (.inl rfl)
 ·obtain ⟨_,ob,v,rfl,hw,_⟩:=h.yeswin h0
  exact mark_yes ob v _ _ _ w hw
theorem wlen (w:World)(h:Cm Q F w b oa wo wc s):Calls Tryz.prog 57 #[.pointer oa] w fun e w'=>e=.returned (.int .i64 (outN s.L s.L.length:Nat))/\w.grownBy w' none:=by
 by_cases h0:s.ses=0
 ·obtain ⟨rfl,hl⟩:=h.nowin h0
  rw [hl]
  exact len_no _ w (.inl rfl)
 ·obtain ⟨_,ob,v,rfl,hw,_⟩:=h.yeswin h0
  exact len_yes ob v _ _ _ w hw h.len.1
theorem wgoes (w:World)(h:Cm Q F w b oa wo wc s):Goes oa s.L w:=by
 by_cases h0:s.ses=0
 ·obtain ⟨rfl,hl⟩:=h.nowin h0
  rw [hl]
  exact NoWin.goes (.inl rfl)
 ·obtain ⟨_,ob,v,rfl,hw,_⟩:=h.yeswin h0
  exact hw.goes h.len.1
theorem mark_cl (w:World)(h:Cm Q F w b oa wo wc s):Calls Tryz.prog 51 #[.pointer (some ⟨b,0,none⟩)] w fun e w'=>e=.returned (.int .i64 (lead s.L:Nat))/\w'=w:=by
 have HC:Hid (Cm Q F w b oa wo wc s):=h
 have c8:=h.blk.cell 8
 simp at c8
 clear h
 go_enter Tryz.func51,Tryz.ntmps51
 go_wp2_with fail
 refine (there_cl w HC.out).mono ?_
 rintro e w1 ⟨rfl,rfl⟩
 go_wp2_with fail
 refine (wmark w1 HC.out).mono ?_
 rintro e w1 ⟨rfl,rfl⟩
 go_wp2_with fail
 go_ret
 exact ⟨rfl,rfl⟩
theorem mark_nocl (x:Value)(w:World)(h:NoCl w x):Calls Tryz.prog 51 #[x] w fun e w'=>e=.returned (.int .i64 0)/\w'=w:=by
 have HC:Hid (NoCl w x):=h
 clear h
 go_enter Tryz.func51,Tryz.ntmps51
 go_wp2_with fail
 refine (there_nocl x w HC.out).mono ?_
 rintro e w1 ⟨rfl,rfl⟩
 go_wp2_with fail
 go_ret
 exact ⟨rfl,rfl⟩
theorem due_cl (w:World)(f:Bool)(t now:Int)(tmo:Nat)(h1:0<=t/\t<=1099511627776)(h2:0<=now/\now<=1099511627776):Calls Tryz.prog 61 #[.agg #[.bool f,.int .i64 t],.int .i64 now,.int .i64 tmo] w fun e w'=>e=.returned (.bool (due f t now tmo))/\w.grownBy w' none:=by
 have HD:Hid (∀x:Bool,due f t now tmo=(!f || decide ((tmo:Int)<=now-t))):=fun _=>rfl
 have e1:IntKind.i64.wrap (now-t)=now-t:=by rw [IntKind.wrap_i64];omega
 clear h1 h2
 cases f with
 | true =>
  go_enter Tryz.func61,Tryz.ntmps61
  go_upto_region 1 with fail
  obtain ⟨w1,hw1,H1⟩:=al1 w #[.bool true,.int .i64 t] 81
  rw [hw1]
  clear hw1
  have k0:=H1.out.1.cell 0
  have k1:=H1.out.1.cell 1
  simp at k0 k1
  go_wp2_with fail
  go_ret
  exact ⟨by simp [due],H1.out.2.1⟩
 | false =>
  go_enter Tryz.func61,Tryz.ntmps61
  go_upto_region 1 with fail
  obtain ⟨w1,hw1,H1⟩:=al1 w #[.bool false,.int .i64 t] 81
  rw [hw1]
  clear hw1
  have k0:=H1.out.1.cell 0
  have k1:=H1.out.1.cell 1
  simp at k0 k1
  go_wp2_with fail
  go_ret
  exact ⟨by simp [due],H1.out.2.1⟩
end Go.Proofs.YtanoabliahcbeaaGreat.Wn
