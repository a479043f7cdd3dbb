import Derived.Test.YtanoabliahcbeaaGreatKuvAll
namespace Go.Proofs.YtanoabliahcbeaaGreat.Wn
open Go.RowKit Disk Table
open _root_.Go.Proofs.YtanoabliahcbeaaGreat.Calls _root_.Go.Proofs.YtanoabliahcbeaaGreat.Command
variable {s:CS}
theorem mem_gather {β:Type}{g:Nat->Cr->List β}{L:List (Option Cr)}{x:β}:∀{k:Nat},x ∈ gather g L k->∃j c,j<k/\L[j]? = some (some c)/\x ∈ g j c
 | 0,h=>by simp [gather] at h
 | k+1,h=>by
  rw [gather,List.mem_append] at h
  rcases h with h | h
  ·obtain ⟨j,c,h1,h2⟩:=mem_gather h
   exact ⟨j,c,by omega,h2⟩
  ·cases e:L[k]? with
   | none=>rw [e] at h;simp at h
   | some o =>
    cases o with
    | none=>rw [e] at h;simp at h
    | some c=>rw [e] at h;exact ⟨k,c,by omega,e,h⟩
structure Ido (s:CS):Prop where
 pl:∀(j k:Nat) (c d:Cr),j<k->s.L[j]? = some (some c)->s.L[k]? = some (some d)->c.id<d.id
 lw:∀c d:Cr,some c ∈ s.L->d ∈ s.wt->c.id<d.id
 ww:s.wt.Pairwise (fun (c d:Cr)=>c.id<d.id)
 top:∀c:Cr,some c ∈ s.L\/c ∈ s.wt->c.id<=s.last
def BackOk (s:CS)(back:List Int):Prop:=∀y ∈ back,y<=s.last/\∀c:Cr,(some c ∈ s.L\/c ∈ s.wt)->c.id≠y
theorem ido_out {L':List (Option Cr)}(h:Ido s)(hL:∀(k:Nat) (c':Cr),L'[k]? = some (some c')->∃c:Cr,s.L[k]? = some (some c)/\c.id=c'.id):Ido (s.out L'):=by
 have hm:∀c':Cr,some c' ∈ L'->∃c:Cr,some c ∈ s.L/\c.id=c'.id:=fun c' hc=>by
  obtain ⟨k,hk⟩:=List.mem_iff_getElem?.1 hc
  obtain ⟨c,h1,h2⟩:=hL k c' hk
  exact ⟨c,List.mem_iff_getElem?.2 ⟨k,h1⟩,h2⟩
 refine ⟨fun j k c d hjk h1 h2=>?_,fun c d h1 h2=>?_,h.ww,fun c hc=>?_⟩
 ·obtain ⟨c1,e1,e2⟩:=hL j c h1
  obtain ⟨d1,e3,e4⟩:=hL k d h2
  rw [<-e2,<-e4]
  exact h.pl j k c1 d1 hjk e1 e3
 ·obtain ⟨c1,e1,e2⟩:=hm c h1
  rw [<-e2]
  exact h.lw c1 d e1 h2
 ·rcases hc with hc | hc
  ·obtain ⟨c1,e1,e2⟩:=hm c hc
   rw [<-e2]
   exact h.top c1 (.inl e1)
  ·exact h.top c (.inr hc)
theorem back_out {L':List (Option Cr)}{back:List Int}(h:BackOk s back)(hL:∀(k:Nat) (c':Cr),L'[k]? = some (some c')->∃c:Cr,s.L[k]? = some (some c)/\c.id=c'.id):BackOk (s.out L') back:=by
 intro y hy
 refine ⟨(h y hy).1,fun c hc=>?_⟩
 rcases hc with hc | hc
 ·obtain ⟨k,hk⟩:=List.mem_iff_getElem?.1 hc
  obtain ⟨c1,h1,h2⟩:=hL k c hk
  rw [<-h2]
  exact (h y hy).2 c1 (.inl (List.mem_iff_getElem?.2 ⟨k,h1⟩))
 ·exact (h y hy).2 c (.inr hc)
theorem mapUp_back {f:Nat->Cr->Option Cr}{L:List (Option Cr)}{n k:Nat}{c':Cr}(h:(mapUp f L n)[k]? = some (some c')):∃c,L[k]? = some (some c)/\(c=c'\/f k c=some c'):=by
 rw [mapUp_get] at h
 cases e:L[k]? with
 | none=>rw [e] at h;cases h
 | some o =>
  rw [e] at h
  cases o with
  | none=>simp at h
  | some c =>
   refine ⟨c,rfl,?_⟩
   by_cases h1:k<n
   ·simp [h1] at h;exact .inr h
   ·simp [h1] at h;exact .inl h
theorem sent_ids (s:CS):∀(k:Nat) (c':Cr),(mapUp (sendF s) s.L s.L.length)[k]? = some (some c')->∃c:Cr,s.L[k]? = some (some c)/\c.id=c'.id:=by
 intro k c' h
 obtain ⟨c,h1,h2⟩:=mapUp_back h
 refine ⟨c,h1,?_⟩
 rcases h2 with rfl | h2
 ·rfl
 ·simp [sendF] at h2
  rw [<-h2]
  exact (stamp_same s.now s.tmo c).1.symm
theorem ended_ids (s:CS)(P:Nat->Bool):∀(k:Nat) (c':Cr),(mapUp (endF P) s.L s.L.length)[k]? = some (some c')->∃c:Cr,s.L[k]? = some (some c)/\c.id=c'.id:=by
 intro k c' h
 obtain ⟨c,h1,h2⟩:=mapUp_back h
 refine ⟨c,h1,?_⟩
 rcases h2 with rfl | h2
 ·rfl
 ·unfold endF at h2
  split at h2
  ·cases h2
  ·simp at h2
   rw [h2]
theorem ended_stays {s:CS}{P:Nat->Bool}{k:Nat}{c':Cr}(h:(mapUp (endF P) s.L s.L.length)[k]? = some (some c')):s.L[k]? = some (some c')/\P k=false:=by
 rw [mapUp_get] at h
 cases e:s.L[k]? with
 | none=>rw [e] at h;cases h
 | some o =>
  rw [e] at h
  have hk:=(List.getElem?_eq_some_iff.1 e).1
  cases o with
  | none=>simp at h
  | some c =>
   simp [hk,endF] at h
   exact ⟨by rw [h.2],h.1⟩
theorem rets_mem {s:CS}{P:Nat->Bool}{what:Int}{ans:Bs}{r:PRet}(h:r ∈ s.rets P what ans):∃(k:Nat) (c:Cr),s.L[k]? = some (some c)/\P k=true/\r.id=c.id:=by
 obtain ⟨k,c,_,h1,h2⟩:=mem_gather h
 unfold endG at h2
 split at h2
 ·rename_i hp
  simp at h2
  exact ⟨k,c,h1,hp,by rw [h2]⟩
 ·simp at h2
theorem rets_rise {s:CS}{P:Nat->Bool}{what:Int}{ans:Bs}(h:Ido s):(s.rets P what ans).Pairwise (fun a b=>a.id≠b.id):=by
 have key:∀k,(gather (endG P what ans) s.L k).Pairwise (fun a b=>a.id≠b.id):=by
  intro k
  induction k with
  | zero=>exact List.Pairwise.nil
  | succ k ih =>
   rw [gather]
   refine List.pairwise_append.2 ⟨ih,?_,fun a ha b hb=>?_⟩
   ·cases e:s.L[k]? with
    | none=>exact List.Pairwise.nil
    | some o =>
     cases o with
     | none=>exact List.Pairwise.nil
     | some c =>
      show (endG P what ans k c).Pairwise _
      unfold endG
      split
      ·exact List.pairwise_singleton _ _
      ·exact List.Pairwise.nil
   ·obtain ⟨j,c,hj,h1,h2⟩:=mem_gather ha
    cases e:s.L[k]? with
    | none=>rw [e] at hb;simp at hb
    | some o =>
     cases o with
     | none=>rw [e] at hb;simp at hb
     | some d =>
      rw [e] at hb
      have hb':b ∈ endG P what ans k d:=hb
      have:=h.pl j k c d hj h1 e
      unfold endG at h2 hb'
      split at h2
      ·split at hb'
       ·simp at h2 hb'
        rw [h2,hb']
        dsimp only
        omega
       ·simp at hb'
      ·simp at h2
 exact key _
def Fresh (s s':CS)(rl:List PRet):Prop:=Ido s->∀back,BackOk s back->(∀r ∈ rl,∀y ∈ back,y≠r.id)/\rl.Pairwise (fun a b=>a.id≠b.id)/\BackOk s' (back ++ rl.map (·.id))/\Ido s'
theorem fresh_none {s':CS}(h1:Ido s->Ido s')(h2:∀back,BackOk s back->BackOk s' back):Fresh s s' []:=fun hi back hb=>⟨by simp,List.Pairwise.nil,by simpa using h2 back hb,h1 hi⟩
theorem fresh_same:Fresh s s []:=fresh_none id fun _ h=>h
theorem fresh_ended (P:Nat->Bool)(what:Int)(ans:Bs):Fresh s (s.ended P) (s.rets P what ans):=by
 intro hi back hb
 refine ⟨fun r hr y hy=>?_,rets_rise hi,fun y hy=>?_,ido_out hi (ended_ids s P)⟩
 ·obtain ⟨k,c,h1,_,h2⟩:=rets_mem hr
  rw [h2]
  exact fun e=>(hb y hy).2 c (.inl (List.mem_iff_getElem?.2 ⟨k,h1⟩)) e.symm
 ·rcases List.mem_append.1 hy with hy | hy
  ·exact back_out hb (ended_ids s P) y hy
  ·obtain ⟨r,hr,rfl⟩:=List.mem_map.1 hy
   obtain ⟨k,c,h1,hp,h2⟩:=rets_mem hr
   have hm:some c ∈ s.L:=List.mem_iff_getElem?.2 ⟨k,h1⟩
   refine ⟨by rw [h2];exact hi.top c (.inl hm),fun c' hc'=>?_⟩
   rw [h2]
   rcases hc' with hc' | hc'
   ·obtain ⟨k',hk'⟩:=List.mem_iff_getElem?.1 hc'
    obtain ⟨h3,h4⟩:=ended_stays hk'
    rcases Nat.lt_trichotomy k k' with hlt | rfl | hlt
    ·have:=hi.pl k k' c c' hlt h1 h3
     omega
    ·rw [hp] at h4
     cases h4
    ·have:=hi.pl k' k c' c hlt h3 h1
     omega
   ·have:=hi.lw c c' hm hc'
    omega
theorem fresh_lost:Fresh s s.lost (s.rets (fun _=>true) 2 []):=by
 intro hi back hb
 obtain ⟨h1,h2,h3,h4⟩:=fresh_ended (s:=s) (fun _=>true) 2 [] hi back hb
 refine ⟨h1,h2,fun y hy=>⟨(h3 y hy).1,fun c hc=>?_⟩,⟨fun j k c d _ h=>by simp [CS.lost] at h,fun c d h=>by simp [CS.lost] at h,hi.ww,fun c hc=>?_⟩⟩
 ·rcases hc with hc | hc
  ·simp [CS.lost] at hc
  ·exact (h3 y hy).2 c (.inr hc)
 ·rcases hc with hc | hc
  ·simp [CS.lost] at hc
  ·exact hi.top c (.inr hc)
theorem fresh_lost0 (_h:s.L=[]):Fresh s s.lost []:=by
 refine fresh_none (fun hi=>⟨fun j k c d _ h=>by simp [CS.lost] at h,fun c d h=>by simp [CS.lost] at h,hi.ww,fun c hc=>?_⟩) fun back hb y hy=>⟨(hb y hy).1,fun c hc=>?_⟩
 ·rcases hc with hc | hc
  ·simp [CS.lost] at hc
  ·exact hi.top c (.inr hc)
 ·rcases hc with hc | hc
  ·simp [CS.lost] at hc
  ·exact (hb y hy).2 c (.inr hc)
theorem fresh_opened (n:Int):Fresh s (s.opened n) []:=by
 refine fresh_none (fun hi=>⟨fun j k c d _ h=>by simp [CS.opened] at h,fun c d h=>by simp [CS.opened] at h,hi.ww,fun c hc=>?_⟩) fun back hb y hy=>⟨(hb y hy).1,fun c hc=>?_⟩
 ·rcases hc with hc | hc
  ·simp [CS.opened] at hc
  ·exact hi.top c (.inr hc)
 ·rcases hc with hc | hc
  ·simp [CS.opened] at hc
  ·exact (hb y hy).2 c (.inr hc)
theorem fresh_hear (m:PMsg):Fresh s (hearS s m) (hearL s m):=by
 unfold hearS hearL
 split
 ·unfold tellS tellL
  by_cases h1:m.tell.kind=1
  ·rw [if_pos h1,if_neg (by omega),if_neg (by omega),if_neg (by omega)]
   unfold openedS
   split
   ·exact fresh_opened _
   ·exact fresh_same
  ·rw [if_neg h1]
   by_cases h3:m.tell.kind=3
   ·rw [if_pos h3,if_pos h3]
    exact fresh_ended _ _ _
   ·rw [if_neg h3,if_neg h3]
    by_cases h4:m.tell.kind=4
    ·rw [if_pos h4,if_pos h4]
     unfold goneS goneL
     split
     ·exact fresh_lost
     ·exact fresh_same
    ·rw [if_neg h4,if_neg h4]
     by_cases h5:m.tell.kind=5
     ·rw [if_pos h5,if_pos h5]
      exact fresh_ended _ _ _
     ·rw [if_neg h5,if_neg h5]
      exact fresh_same
 ·exact fresh_same
theorem fresh_leave (h0:s.ses=0->s.L=[])(h1:0<=s.ses):Fresh s (leaveS s) (leaveL s):=by
 unfold leaveS leaveL
 by_cases h:0<s.ses
 ·rw [if_pos (.inl h),if_pos h]
  exact fresh_lost
 ·rw [if_neg h]
  by_cases ha:s.asked=true
  ·rw [if_pos (.inr ha)]
   exact fresh_lost0 (h0 (by omega))
  ·rw [if_neg (by simp [h,ha])]
   exact fresh_same
theorem fresh_id:Fresh s s.id []:=by
 refine fresh_none (fun hi=>⟨hi.pl,hi.lw,hi.ww,fun c hc=>?_⟩) fun back hb y hy=>⟨?_,(hb y hy).2⟩
 ·have:=hi.top c hc
  simp only [CS.id]
  omega
 ·have:=(hb y hy).1
  simp only [CS.id]
  omega
theorem fresh_put (o:Option Addr)(n c:Nat)(ops:List POp):Fresh s (s.id.put ⟨s.last+1,o,n,c,ops,false,0⟩) []:=by
 have hmem:∀x:Cr,(some x ∈ (s.id.put ⟨s.last+1,o,n,c,ops,false,0⟩).L\/x ∈ (s.id.put ⟨s.last+1,o,n,c,ops,false,0⟩).wt)->(some x ∈ s.L\/x ∈ s.wt)\/x.id=s.last+1:=by
  intro x hx
  rcases hx with hx | hx
  ·exact .inl (.inl hx)
  ·simp [CS.put,CS.id] at hx
   rcases hx with hx | rfl
   ·exact .inl (.inr hx)
   ·exact .inr rfl
 refine fresh_none (fun hi=>⟨hi.pl,fun x d h1 h2=>?_,?_,fun x hx=>?_⟩) fun back hb y hy=>⟨?_,fun x hx=>?_⟩
 ·simp [CS.put,CS.id] at h1 h2
  rcases h2 with h2 | rfl
  ·exact hi.lw x d h1 h2
  ·have:=hi.top x (.inl h1)
   dsimp only
   omega
 ·show (s.wt ++ [_]).Pairwise _
  refine List.pairwise_append.2 ⟨hi.ww,List.pairwise_singleton _ _,fun x hx d hd=>?_⟩
  simp at hd
  subst hd
  have:=hi.top x (.inr hx)
  dsimp only
  omega
 ·show x.id<=s.last+1
  rcases hmem x hx with h | h
  ·have:=hi.top x h
   omega
  ·omega
 ·have:=(hb y hy).1
  show y<=s.last+1
  omega
 ·rcases hmem x hx with h | h
  ·exact (hb y hy).2 x h
  ·have:=(hb y hy).1
   omega
theorem given_ids (h:Ido s):Ido s.given:=by
 have hat:∀(j:Nat) (c:Cr),s.given.L[j]? = some (some c)->(j<s.L.length/\s.L[j]? = some (some c))\/(s.L.length<=j/\(s.wt.take s.many)[j-s.L.length]? = some c):=by
  intro j c hc
  simp only [CS.given] at hc
  by_cases hj:j<s.L.length
  ·rw [List.getElem?_append_left hj] at hc
   exact .inl ⟨hj,hc⟩
  ·rw [List.getElem?_append_right (by omega)] at hc
   simp only [List.getElem?_map,Option.map_eq_some_iff] at hc
   obtain ⟨a,h1,h2⟩:=hc
   simp at h2
   exact .inr ⟨by omega,by rw [<-h2];exact h1⟩
 have hmt:∀(j:Nat) (c:Cr),(s.wt.take s.many)[j]? = some c->c ∈ s.wt:=fun j c hc=>List.mem_of_mem_take (List.mem_iff_getElem?.2 ⟨j,hc⟩)
 have hwt:∀(i j:Nat) (c d:Cr),i<j->s.wt[i]? = some c->s.wt[j]? = some d->c.id<d.id:=fun i j c d hij h1 h2=>by
  obtain ⟨hi,e1⟩:=List.getElem?_eq_some_iff.1 h1
  obtain ⟨hj,e2⟩:=List.getElem?_eq_some_iff.1 h2
  have:=List.pairwise_iff_getElem.1 h.ww i j hi hj hij
  rw [e1,e2] at this
  exact this
 refine ⟨fun j k c d hjk h1 h2=>?_,fun c d h1 h2=>?_,?_,fun c hc=>h.top c (CS.given_mem hc)⟩
 ·rcases hat j c h1 with ⟨_,e1⟩ | ⟨g1,e1⟩
  ·rcases hat k d h2 with ⟨_,e2⟩ | ⟨_,e2⟩
   ·exact h.pl j k c d hjk e1 e2
   ·exact h.lw c d (List.mem_iff_getElem?.2 ⟨j,e1⟩) (hmt _ _ e2)
  ·rcases hat k d h2 with ⟨g2,e2⟩ | ⟨g2,e2⟩
   ·omega
   ·rw [List.getElem?_take] at e1 e2
    split at e1
    ·split at e2
     ·exact hwt _ _ c d (by omega) e1 e2
     ·cases e2
    ·cases e1
 ·have hd:d ∈ s.wt.drop s.many:=h2
  obtain ⟨i,hi⟩:=List.mem_iff_getElem?.1 hd
  rw [List.getElem?_drop] at hi
  obtain ⟨j,hj⟩:=List.mem_iff_getElem?.1 h1
  rcases hat j c hj with ⟨_,e1⟩ | ⟨_,e1⟩
  ·exact h.lw c d (List.mem_iff_getElem?.2 ⟨j,e1⟩) (List.mem_of_mem_drop hd)
  ·rw [List.getElem?_take] at e1
   split at e1
   ·exact hwt _ _ c d (by omega) e1 hi
   ·cases e1
 ·exact List.Pairwise.sublist (List.drop_sublist _ _) h.ww
theorem fresh_step (now:Int):Fresh s (stepS s now) []:=by
 refine fresh_none (fun hi=>?_) fun back hb=>?_
 ·unfold stepS
  split
  ·exact hi
  ·split
   ·unfold enterS
    split <;> exact ⟨hi.pl,hi.lw,hi.ww,hi.top⟩
   ·have h1:Ido (s.at now):=⟨hi.pl,hi.lw,hi.ww,hi.top⟩
    exact ido_out (given_ids h1) (sent_ids _)
 ·unfold stepS
  split
  ·exact hb
  ·split
   ·unfold enterS
    split <;> exact hb
   ·have h1:BackOk (s.at now) back:=hb
    have h2:BackOk (s.at now).given back:=fun y hy=>⟨(h1 y hy).1,fun c hc=>(h1 y hy).2 c (CS.given_mem hc)⟩
    exact back_out h2 (sent_ids _)
variable {s:CS}
def nx (id:Int)(p:Int × Int)(m:PMsg):Int × Int:=if m.ask.kind=2 then (id,max (if id=p.1 then p.2 else 0) m.ask.number) else p
def badM (id:Int)(p:Int × Int)(m:PMsg):Bool:=decide (m.ask.kind=2) && (decide (m.ask.session≠id) || decide (m.ask.number<=m.ask.mark) || decide (m.ask.mark+2<m.ask.number) || (decide (p.2+1<m.ask.number) && decide (id=p.1)))
def goodM (id:Int):Int × Int->List PMsg->Prop
 | _,[]=>True
 | p,m :: r=>badM id p m=false/\goodM id (nx id p m) r
theorem goodM_append (id:Int):∀(p:Int × Int) (a b:List PMsg),goodM id p (a ++ b)<->goodM id p a/\goodM id (a.foldl (nx id) p) b
 | p,[],b=>by simp [goodM]
 | p,m :: a,b=>by
  rw [List.cons_append,goodM,goodM,List.foldl_cons,goodM_append id (nx id p m) a b,and_assoc]
def NumOk (s:CS)(p:Int × Int):Prop:=0<=p.2/\p.2<=s.last/\(s.L≠[]->p.1=s.ses/\(s.L.length:Int)<=p.2)
def RoomS (s:CS):Prop:=s.L.length<=lead s.L+s.size
theorem gather_nil {β:Type}{g:Nat->Cr->List β}{L:List (Option Cr)}(h:∀(k:Nat) (c:Cr),L[k]? = some (some c)->g k c=[]):∀k,gather g L k=[]
 | 0=>rfl
 | k+1=>by
  rw [gather,gather_nil h k]
  cases e:L[k]? with
  | none=>rfl
  | some o =>
   cases o with
   | none=>rfl
   | some c =>
    show [] ++ g k c=[]
    rw [h k c e]
    rfl
theorem given_room (h:RoomS s):s.given.L.length<=lead s.given.L+s.size/\lead s.given.L=lead s.L/\s.L.length<=s.given.L.length:=by
 have e:lead s.given.L=lead s.L:=lead_more _ _
 refine ⟨?_,e,?_⟩
 ·rw [e]
  simp only [CS.given,List.length_append,List.length_map,List.length_take]
  unfold RoomS at h
  unfold CS.many
  omega
 ·simp only [CS.given,List.length_append]
  omega
theorem sent_good {s:CS}{p:Int × Int}(hr:RoomS s)(h2:s.size=2)(hn:NumOk s p)(hw:∀c ∈ s.wt,c.was=false/\c.tm=0)(hl:((s.given.L.length:Nat):Int)<=s.last) :
  goodM s.ses p s.given.msgs/\NumOk s.given.sent (s.given.msgs.foldl (nx s.ses) p):=by
 obtain ⟨g1,g2,g3⟩:=given_room hr
 have hnew:∀k,s.L.length<=k->k<s.given.L.length->∃c,s.given.L[k]? = some (some c)/\c.was=false:=by
  intro k h1 h3
  have e:s.given.L[k]? = ((s.wt.take s.many).map some)[k-s.L.length]?:=by
   simp only [CS.given]
   rw [List.getElem?_append_right h1]
  have hk:k-s.L.length<(s.wt.take s.many).length:=by
   simp only [CS.given,List.length_append,List.length_map] at h3
   omega
  rw [List.getElem?_map,List.getElem?_eq_getElem hk] at e
  refine ⟨_,e,(hw _ (List.mem_of_mem_take (List.getElem_mem hk))).1⟩
 have hlead:∀k c,s.given.L[k]? = some (some c)->lead s.given.L<=k:=by
  intro k c hk
  rcases Nat.lt_or_ge k (lead s.given.L) with h | h
  ·rw [lead_low _ k h] at hk
   cases hk
  ·exact h
 have key:∀k,k<=s.given.L.length->goodM s.ses p (gather (sendG s.given) s.given.L k) ∧
   0<=((gather (sendG s.given) s.given.L k).foldl (nx s.ses) p).2/\((gather (sendG s.given) s.given.L k).foldl (nx s.ses) p).2<=s.last ∧
   (0<s.L.length->((gather (sendG s.given) s.given.L k).foldl (nx s.ses) p).1=s.ses/\(s.L.length:Int)<=((gather (sendG s.given) s.given.L k).foldl (nx s.ses) p).2) ∧
   (s.L.length<k->((gather (sendG s.given) s.given.L k).foldl (nx s.ses) p).1=s.ses/\(k:Int)<=((gather (sendG s.given) s.given.L k).foldl (nx s.ses) p).2):=by
  intro k
  induction k with
  | zero =>
   intro _
   refine ⟨trivial,hn.1,hn.2.1,fun h=>hn.2.2 fun e=>by rw [e] at h;simp at h,fun h=>by omega⟩
  | succ k ih =>
   intro hk
   obtain ⟨i1,i2,i3,i4,i5⟩:=ih (by omega)
   rw [gather]
   generalize hp:(gather (sendG s.given) s.given.L k).foldl (nx s.ses) p=q at i2 i3 i4 i5
   cases e:s.given.L[k]? with
   | none=>rw [List.getElem?_eq_getElem (by omega)] at e;cases e
   | some o =>
    cases o with
    | none =>
     have hkN:k<s.L.length:=by
      rcases Nat.lt_or_ge k s.L.length with h | h
      ·exact h
      ·obtain ⟨c,hc,_⟩:=hnew k h (by omega)
       rw [e] at hc
       cases hc
     simp only [List.append_nil]
     rw [hp]
     exact ⟨i1,i2,i3,i4,fun h=>by omega⟩
    | some c =>
     have hlk:=hlead k c e
     simp only
     by_cases hd:due c.was c.tm s.given.now s.given.tmo=true
     ·have hs:sendG s.given k c=[msgCall s.given k c]:=by unfold sendG;rw [if_pos hd]
      rw [hs,goodM_append,List.foldl_append,hp]
      have hb:badM s.ses q (msgCall s.given k c)=false:=by
       have e1:(msgCall s.given k c).ask.session=s.ses:=rfl
       have e2:(msgCall s.given k c).ask.mark=((lead s.given.L:Nat):Int):=rfl
       have e3:(msgCall s.given k c).ask.number=((k+1:Nat):Int):=rfl
       have n1:¬(((k+1:Nat):Int)<=((lead s.given.L:Nat):Int)):=by omega
       have n2:¬(((lead s.given.L:Nat):Int)+2<((k+1:Nat):Int)):=by omega
       have n3:¬(q.2+1<((k+1:Nat):Int)):=by
        rcases Nat.lt_or_ge s.L.length k with h | h
        ·have:=(i5 h).2
         omega
        ·rcases Nat.eq_zero_or_pos s.L.length with h0 | h0
         ·omega
         ·have:=(i4 h0).2
          omega
       unfold badM
       rw [e1,e2,e3,decide_eq_false n1,decide_eq_false n2,decide_eq_false n3]
       simp
      have hx:[msgCall s.given k c].foldl (nx s.ses) q=(s.ses,max (if s.ses=q.1 then q.2 else 0) ((k+1:Nat):Int)):=rfl
      rw [hx]
      have hkl:((k+1:Nat):Int)<=s.last:=by omega
      refine ⟨⟨i1,hb,trivial⟩,?_,?_,fun h=>⟨rfl,?_⟩,fun h=>⟨rfl,?_⟩⟩
      ·dsimp only
       omega
      ·dsimp only
       split <;> omega
      ·have:=i4 h
       dsimp only
       rw [if_pos this.1.symm]
       omega
      ·dsimp only
       omega
     ·have hs:sendG s.given k c=[]:=by unfold sendG;rw [if_neg hd]
      rw [hs,List.append_nil,hp]
      have hkN:k<s.L.length:=by
       rcases Nat.lt_or_ge k s.L.length with h | h
       ·exact h
       ·obtain ⟨c',hc,hw'⟩:=hnew k h (by omega)
        rw [e] at hc
        simp at hc
        subst hc
        exact absurd (by simp [due,hw']) hd
      exact ⟨i1,i2,i3,i4,fun h=>by omega⟩
 obtain ⟨k1,k2,k3,k4,k5⟩:=key s.given.L.length (Nat.le_refl _)
 refine ⟨k1,k2,k3,fun hne=>?_⟩
 have hlen:s.given.sent.L.length=s.given.L.length:=mapUp_len _ _ _
 rw [hlen]
 rcases Nat.lt_or_ge s.L.length s.given.L.length with h | h
 ·exact k5 h
 ·have e:s.L.length=s.given.L.length:=by omega
  have hpos:0<s.L.length:=by
   rcases Nat.eq_zero_or_pos s.L.length with h0 | h0
   ·exact absurd (List.eq_nil_of_length_eq_zero (by omega)) hne
   ·exact h0
  have:=k4 hpos
  rw [<-e]
  exact this
theorem enter_good (id:Int)(p:Int × Int)(s:CS):goodM id p (enterMsgs s)/\(enterMsgs s).foldl (nx id) p=p:=by
 unfold enterMsgs
 split
 ·exact ⟨⟨rfl,trivial⟩,rfl⟩
 ·exact ⟨trivial,rfl⟩
theorem step_good {s:CS}{p:Int × Int}{now:Int}(hok:Okc s)(hr:RoomS s)(h2:s.size=2)(hn:NumOk s p):goodM s.ses p (stepM s now)/\NumOk (stepS s now) ((stepM s now).foldl (nx s.ses) p):=by
 unfold stepM stepS
 by_cases h1:now<s.now\/1099511627776<now
 ·rw [if_pos h1,if_pos h1]
  exact ⟨trivial,hn⟩
 ·rw [if_neg h1,if_neg h1]
  by_cases h0:s.ses=0
  ·rw [if_pos h0,if_pos h0]
   obtain ⟨e1,e2⟩:=enter_good s.ses p (s.at now)
   refine ⟨e1,?_⟩
   rw [e2]
   unfold enterS
   split <;> exact hn
  ·rw [if_neg h0,if_neg h0]
   have hl:(((s.at now).given.L.length:Nat):Int)<=(s.at now).last:=by
    have:=hok.last
    have e:(s.at now).given.L.length<=s.L.length+s.wt.length:=by
     simp only [CS.given,CS.at,List.length_append,List.length_map,List.length_take]
     omega
    show _<=s.last
    omega
   exact sent_good (s:=s.at now) hr h2 hn hok.wait hl
theorem step_again {s:CS}{now:Int}(hok:Okc s)(he:stepE s now=0):stepE (stepS s now) now=0/\stepM (stepS s now) now=[]:=by
 have h1:¬(now<s.now\/1099511627776<now):=by
  intro h
  unfold stepE at he
  rw [if_pos h] at he
  cases he
 have ht:=hok.tmo
 have hd:due true now now s.tmo=false:=by
  unfold due
  simp
  omega
 by_cases h0:s.ses=0
 ·have e:stepS s now=enterS (s.at now):=by unfold stepS;rw [if_neg h1,if_pos h0]
  have en:(enterS (s.at now)).now=now:=by unfold enterS;split <;> rfl
  have es:(enterS (s.at now)).ses=0:=by unfold enterS;split <;> exact h0
  rw [e]
  have h2:¬(now<(enterS (s.at now)).now\/1099511627776<now):=by rw [en];omega
  refine ⟨by unfold stepE;rw [if_neg h2],?_⟩
  unfold stepM
  rw [if_neg h2,if_pos es]
  unfold enterMsgs
  rw [if_neg]
  unfold enterS
  split
  ·show ¬(decide _ && due true now now s.tmo)=true
   rw [hd]
   simp
  ·rename_i hna
   exact hna
 ·have e:stepS s now=(s.at now).given.sent:=by unfold stepS;rw [if_neg h1,if_neg h0]
  rw [e]
  have h2:¬(now<(s.at now).given.sent.now\/1099511627776<now):=by
   show ¬(now<now\/_)
   omega
  refine ⟨by unfold stepE;rw [if_neg h2],?_⟩
  unfold stepM
  rw [if_neg h2,if_neg (show ¬(s.at now).given.sent.ses=0 from h0)]
  have hlen:(s.at now).given.sent.L.length=(s.at now).given.L.length:=mapUp_len _ _ _
  have hlead:lead (s.at now).given.sent.L=lead s.L:=by
   have e1:lead (s.at now).given.sent.L=lead (s.at now).given.L:=lead_sent _ _
   have e2:lead (s.at now).given.L=lead (s.at now).L:=lead_more _ _
   rw [e1,e2]
   rfl
  have hmany:((s.at now).given.sent.at now).many=0:=by
   have e1:((s.at now).given.sent.at now).many=min (s.wt.drop (s.at now).many).length (lead (s.at now).given.sent.L+s.size-(s.at now).given.sent.L.length):=rfl
   rw [e1,hlead,hlen]
   simp only [CS.given,CS.at,List.length_append,List.length_map,List.length_take,List.length_drop]
   unfold CS.many
   dsimp only
   omega
  have hL:((s.at now).given.sent.at now).given.L=(s.at now).given.sent.L:=by
   show (s.at now).given.sent.L ++ (List.take ((s.at now).given.sent.at now).many _).map some=_
   rw [hmany]
   simp
  unfold CS.msgs
  rw [hL]
  refine gather_nil (fun k c hc=>?_) _
  unfold sendG
  rw [if_neg]
  obtain ⟨c0,h3,h4⟩:=mapUp_back (f:=sendF (s.at now).given) (L:=(s.at now).given.L) (n:=(s.at now).given.L.length) hc
  have hk:=(List.getElem?_eq_some_iff.1 h3).1
  have hc':(mapUp (sendF (s.at now).given) (s.at now).given.L (s.at now).given.L.length)[k]? = some (some (stamp now s.tmo c0)):=by
   rw [mapUp_get,h3]
   simp [hk,sendF]
   rfl
  have hcc:c=stamp now s.tmo c0:=by
   have:some (some c)=some (some (stamp now s.tmo c0)):=hc.symm.trans hc'
   simpa using this
  show ¬due c.was c.tm now s.tmo=true
  rw [hcc]
  unfold stamp
  split
  ·rw [hd]
   simp
  ·rename_i hnd
   exact hnd
structure Cst (s s':CS):Prop where
 num:s'.num=s.num
 size:s'.size=s.size
 tok:s'.tok=s.tok\/s'.tok=s.tok+8
 last:s.last<=s'.last/\s'.last<=s.last+1
theorem cst_same:Cst s s:=⟨rfl,rfl,.inl rfl,by omega⟩
theorem cst_lost:Cst s s.lost:=⟨rfl,rfl,.inr rfl,⟨Int.le_refl _,Int.le_add_one (Int.le_refl _)⟩⟩
theorem cst_out (L:List (Option Cr)):Cst s (s.out L):=⟨rfl,rfl,.inl rfl,⟨Int.le_refl _,Int.le_add_one (Int.le_refl _)⟩⟩
theorem cst_leave:Cst s (leaveS s):=by
 unfold leaveS
 split
 ·exact cst_lost
 ·exact cst_same
theorem cst_hear (m:PMsg):Cst s (hearS s m):=by
 unfold hearS
 split
 ·unfold tellS openedS goneS
  repeat' split
  all_goals first | exact cst_lost | exact cst_out _ | exact cst_same | exact ⟨rfl,rfl,.inl rfl,⟨Int.le_refl _,Int.le_add_one (Int.le_refl _)⟩⟩
 ·exact cst_same
theorem now_hear (m:PMsg):(hearS s m).now=s.now:=by
 unfold hearS
 split
 ·unfold tellS openedS goneS
  repeat' split
  all_goals rfl
 ·rfl
theorem now_leave:(leaveS s).now=s.now:=by unfold leaveS;split <;> rfl
theorem num_lost {p:Int × Int}(h:NumOk s p):NumOk s.lost p:=⟨h.1,h.2.1,fun e=>absurd rfl e⟩
theorem num_ended {p:Int × Int}(P:Nat->Bool)(h:NumOk s p):NumOk (s.ended P) p:=by
 have hlen:(s.ended P).L.length=s.L.length:=mapUp_len _ _ _
 refine ⟨h.1,h.2.1,fun e=>?_⟩
 rw [hlen]
 exact h.2.2 fun e2=>e (List.eq_nil_of_length_eq_zero (by rw [hlen,e2];rfl))
theorem num_leave {p:Int × Int}(h:NumOk s p):NumOk (leaveS s) p:=by
 unfold leaveS
 split
 ·exact num_lost h
 ·exact h
theorem num_hear {p:Int × Int}(m:PMsg)(h:NumOk s p):NumOk (hearS s m) p:=by
 unfold hearS
 split
 ·unfold tellS openedS goneS
  repeat' split
  all_goals first | exact num_lost h | exact num_ended _ h | exact h | exact ⟨h.1,h.2.1,fun e=>absurd rfl e⟩
 ·exact h
end Go.Proofs.YtanoabliahcbeaaGreat.Wn
