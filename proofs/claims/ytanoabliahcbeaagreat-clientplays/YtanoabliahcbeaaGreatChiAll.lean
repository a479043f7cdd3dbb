import Derived.Test.YtanoabliahcbeaaGreatCgAll
set_option maxHeartbeats 1000000
set_option maxRecDepth 100000
namespace Go.Proofs.YtanoabliahcbeaaGreat.Calls
open Go.RowKit Disk
open Names (Str)
open Wire (RdB RdG)
def RR (w:World)(b:Nat)(L:Bs):Prop:=∃s,RdB w b true s/\Seg w s L/\(L≠[]->∃k cur,s.ownBlock=some k/\Blk w k 5 cur)
theorem seg_empty {w:World}(w':World){v:Value}(h:Seg w v []):Seg w' v []:=by
 obtain ⟨ao,cap,hv,h1,h2,h3,_⟩:=h
 exact ⟨ao,cap,hv,h1,h2,h3,fun j hj=>absurd hj (by simp)⟩
theorem seg_own_ne {w:World}{v:Value}{L:Bs}(h:Seg w v L)(hL:L≠[]):∃k,v.ownBlock=some k:=by
 obtain ⟨ao,cap,hv,h1,h2,h3,h4⟩:=h
 obtain ⟨b,off,e,_⟩:=h4 0 (List.length_pos_iff.2 hL)
 subst hv e
 exact ⟨b,rfl⟩
theorem blk_type {w:World}{b t t':Nat}{c c':Array Value}(h:Blk w b t c)(h':Blk w b t' c'):t=t':=by
 unfold Blk at h h'
 rw [h] at h'
 simp at h'
 exact h'.2
theorem RR.kept {w w':World}{b:Nat}{L:Bs}{r:Option Nat}(h:RR w b L)(hg:w.grownBy w' r)(hb:r≠some b)(hr:∀k cur,Blk w k 5 cur->r≠some k):RR w' b L:=by
 obtain ⟨s,h1,h2,h3⟩:=h
 by_cases hL:L=[]
 ·subst hL
  exact ⟨s,h1.kept hg hb,seg_empty w' h2,fun h=>absurd rfl h⟩
 ·obtain ⟨k,cur,hk,hbk⟩:=h3 hL
  have hne:=hr k cur hbk
  refine ⟨s,h1.kept hg hb,?_,fun _=>⟨k,cur,hk,hbk.grown hg hne⟩⟩
  have:RdG w b k L:=⟨s,h1,h2,fun x hx=>by rw [hk] at hx;cases hx;rfl⟩
  obtain ⟨ao,cap,rfl,q1,q2,q3,q4⟩:=h2
  refine ⟨ao,cap,rfl,q1,q2,q3,fun j hj=>?_⟩
  obtain ⟨b',off,rfl,hc⟩:=q4 j hj
  have e:b'=k:=by simpa [Value.ownBlock] using hk
  subst e
  exact ⟨b',off,rfl,hg.cell hc (fun e=>hne e.symm)⟩
theorem RR.grown {w w':World}{b:Nat}{L:Bs}(h:RR w b L)(hg:w.grownBy w' none):RR w' b L:=h.kept hg (by simp) (by simp)
theorem RR.blk {w:World}{b:Nat}{L:Bs}(h:RR w b L):∃s,Blk w b 220 #[.bool true,s]:=by obtain ⟨s,h1,_⟩:=h;exact ⟨s,h1⟩
theorem RR.set {w w':World}{b x t:Nat}{c:Array Value}{L:Bs}(h:RR w b L)(hx:Blk w x t c)(hg:w.grownBy w' (some x))(h1:t≠220)(h2:t≠5):RR w' b L:=by
 obtain ⟨s,hs⟩:=h.blk
 refine h.kept hg (fun e=>?_) (fun k cur hk e=>?_)
 ·simp at e;subst e;exact h1 (blk_type hx hs)
 ·simp at e;subst e;exact h2 (blk_type hx hk)
theorem RR.ne {w:World}{b x t:Nat}{c:Array Value}{L:Bs}(h:RR w b L)(hx:Blk w x t c)(h1:t≠220):x≠b:=by
 obtain ⟨s,hs⟩:=h.blk
 rintro rfl
 exact h1 (blk_type hx hs)
theorem rr_of {w:World}{b:Nat}{L:Bs}(h:RR w b L):∃g,RdG w b g L/\∀w' M,RdG w' b g M->w.grownBy w' (some b)->(L=[]->M=[])->RR w' b M:=by
 obtain ⟨s,h1,h2,h3⟩:=h
 by_cases hL:L=[]
 ·subst hL
  have:∃g,Wire.InB g s:=by
   cases hs:s.ownBlock with
   | none=>exact ⟨0,fun k hk=>by rw [hs] at hk;cases hk⟩
   | some k=>exact ⟨k,fun x hx=>by rw [hs] at hx;cases hx;rfl⟩
  obtain ⟨g,hg⟩:=this
  refine ⟨g,⟨s,h1,h2,hg⟩,fun w' M hM _ he=>?_⟩
  obtain ⟨s',q1,q2,_⟩:=hM
  have:=he rfl
  subst this
  exact ⟨s',q1,q2,fun h=>absurd rfl h⟩
 ·obtain ⟨k,cur,hk,hbk⟩:=h3 hL
  refine ⟨k,⟨s,h1,h2,fun x hx=>by rw [hk] at hx;cases hx;rfl⟩,fun w' M hM hg _=>?_⟩
  obtain ⟨s',q1,q2,q3⟩:=hM
  refine ⟨s',q1,q2,fun hne=>?_⟩
  obtain ⟨x,hx⟩:=seg_own_ne q2 hne
  have e:=q3 x hx
  subst e
  exact ⟨x,cur,hx,hbk.grown hg (fun e=>by simp at e;subst e;have:=blk_type h1 hbk;omega)⟩
def RdPost {α:Type}(b:Nat)(w:World)(r:Option (α × Bs))(is:α->Value->World->Prop)(e:Ending)(w':World):Prop :=
 (∃x M v,r=some (x,M)/\e=.returned v/\is x v w'/\RR w' b M/\w.grownBy w' (some b))\/(r=none/\e=Pan 4/\w.grownBy w' (some b))
def rdV (b:Nat):Value:=.agg #[.pointer (some ⟨b,0,none⟩)]
def pNum64 (L:Bs):Option (Nat × Bs):=match Wire.scan 0 0 L with
 | some (n,k)=>some (n,L.drop k)
 | none=>none
theorem next152 (b:Nat)(L:Bs)(w:World)(hr:RR w b L) :
  Calls Tryz.prog 175 #[rdV b,.func (.func 176) #[] #[]] w (RdPost b w (pNum64 L) (fun n v _=>v=.int .u64 n/\n<2 ^ 64)):=by
 unfold rdV
 have hr1:=hr.grown (World.grownBy_alloc w (.cells #[.pointer (some ⟨b,0,none⟩)] 149) none)
 obtain ⟨g,hg,hk⟩:=rr_of hr1
 have HG:Hid (RdG (w.alloc (.cells #[.pointer (some ⟨b,0,none⟩)] 149)) b g L):=hg
 have HK:Hid _:=hk
 clear hr hr1 hg hk
 cases hs:Wire.scan 0 0 L with
 | none =>
  have HS:Hid (Wire.rdNum L=(0,4,L)/\pNum64 L=none):=⟨Wire.rdNum_none hs,by simp [pNum64,hs]⟩
  clear hs
  go_enter Tryz.func175,Tryz.ntmps175
  go_wp2_with (go_at_call 176;refine (Wire.number25_g b g L _ HG.out).mono ?_)
  rw [HS.out.1]
  rintro e w1 ⟨rfl,h1,h2⟩
  have F:Hid (w.grownBy w1 (some b)):=grown_trans (World.grownBy_alloc _ _ _) h2
  clear h1 h2
  go_wp2_with (go_at_call 110;refine (sure_no _ _).mono ?_;rintro e w2 ⟨rfl,hw2⟩;rw [hw2];clear hw2;unfold Pan)
  exact ⟨rfl,.inr ⟨HS.out.2,rfl,F.out⟩⟩
 | some nk =>
  obtain ⟨n,k⟩:=nk
  have HS:Hid (Wire.rdNum L=(n,0,L.drop k)/\pNum64 L=some (n,L.drop k)/\n<2 ^ 64):=⟨Wire.rdNum_some hs,by simp [pNum64,hs],(Wire.scan_bound L 0 0 (by omega) (by simp) n k hs).1⟩
  clear hs
  go_enter Tryz.func175,Tryz.ntmps175
  go_wp2_with (go_at_call 176;refine (Wire.number25_g b g L _ HG.out).mono ?_)
  rw [HS.out.1]
  rintro e w1 ⟨rfl,h1,h2⟩
  have F:Hid (RR w1 b (L.drop k)/\w.grownBy w1 (some b)):=⟨HK.out w1 _ h1 h2 (fun h=>by rw [h];simp),grown_trans (World.grownBy_alloc _ _ _) h2⟩
  clear h1 h2
  go_wp2_with (go_at_call 110;refine (sure_yes _ _).mono ?_;rintro e w2 ⟨rfl,hw2⟩;rw [hw2];clear hw2)
  go_ret
  exact .inl ⟨n,_,_,HS.out.2.1,rfl,⟨rfl,HS.out.2.2⟩,F.out.1,F.out.2⟩
theorem number109 (b:Nat)(L:Bs)(most:Nat)(w:World)(hm:most<=9223372036854775807)(hr:RR w b L) :
  Calls Tryz.prog 153 #[rdV b,.int .i64 most] w (RdPost b w (pNum most L) (fun n v _=>v=.int .i64 n/\n<=most)):=by
 have HR:Hid (RR w b L):=hr
 have HQ:Hid (pNum most L=(pNum64 L).bind fun x=>if x.1<=most then some x else none):=by
  unfold pNum pNum64
  cases Wire.scan 0 0 L <;> rfl
 have wu:IntKind.u64.wrap (most:Int)=(most:Int):=by rw [IntKind.wrap_u64];omega
 clear hr
 have e0:rdV b=.agg #[.pointer (some ⟨b,0,none⟩)]:=rfl
 rw [e0]
 go_enter Tryz.func153,Tryz.ntmps153
 go_wp2_with (go_at_call 175;refine (next152 b L _ (HR.out.grown (World.grownBy_alloc _ _ none))).mono ?_)
 rintro e w1 (⟨n,M,v,hx,rfl,⟨rfl,hn⟩,hR,hg⟩ | ⟨hx,rfl,hg⟩)
 ·have F:Hid (pNum64 L=some (n,M)/\RR w1 b M/\w.grownBy w1 (some b)):=⟨hx,hR,grown_trans (World.grownBy_alloc _ _ _) hg⟩
  clear hx hR hg
  by_cases hle:n<=most
  ·have i1:(n:Int)<=(most:Int):=by omega
   have wi:IntKind.i64.wrap (n:Int)=(n:Int):=by rw [IntKind.wrap_i64];omega
   go_wp2_with (go_at_call 110;refine (sure_yes _ _).mono ?_;rintro e w2 ⟨rfl,hw2⟩;rw [hw2];clear hw2)
   go_ret
   exact .inl ⟨n,M,_,by rw [HQ.out,F.out.1];simp [hle],rfl,⟨by simp,hle⟩,F.out.2.1,F.out.2.2⟩
  ·have i1:((n:Int)<=(most:Int))=False:=eq_false (by omega)
   go_wp2_with (go_at_call 110;refine (sure_no _ _).mono ?_;rintro e w2 ⟨rfl,hw2⟩;rw [hw2];clear hw2;unfold Pan)
   exact ⟨rfl,.inr ⟨by rw [HQ.out,F.out.1];simp [hle],rfl,F.out.2.2⟩⟩
 ·have F:Hid (pNum64 L=none/\w.grownBy w1 (some b)):=⟨hx,grown_trans (World.grownBy_alloc _ _ _) hg⟩
  clear hx hg
  unfold Pan
  go_wp2_with fail
  exact ⟨rfl,.inr ⟨by rw [HQ.out,F.out.1];rfl,rfl,F.out.2⟩⟩
theorem rdFlag_p (L:Bs):(pFlag L=none/\(Wire.rdFlag L).2.1=4)\/(∃f M,pFlag L=some (f,M)/\Wire.rdFlag L=(f,0,M)):=by
 cases L with
 | nil=>exact .inl ⟨rfl,rfl⟩
 | cons c l =>
  unfold pFlag Wire.rdFlag
  by_cases h:c.toNat<=1
  ·refine .inr ⟨decide (c.toNat=1),l,by simp [h],?_⟩
   simp only
   rw [if_neg (by omega)]
   by_cases h1:c.toNat=1 <;> simp [h1]
  ·refine .inl ⟨by simp [h],?_⟩
   simp only
   rw [if_pos (by omega)]
theorem next174 (b:Nat)(L:Bs)(w:World)(hr:RR w b L) :
  Calls Tryz.prog 180 #[rdV b,.func (.func 181) #[] #[]] w (RdPost b w (pFlag L) (fun f v _=>v=.bool f)):=by
 unfold rdV
 have hr1:=hr.grown (World.grownBy_alloc w (.cells #[.pointer (some ⟨b,0,none⟩)] 149) none)
 obtain ⟨g,hg,hk⟩:=rr_of hr1
 have HG:Hid (RdG (w.alloc (.cells #[.pointer (some ⟨b,0,none⟩)] 149)) b g L):=hg
 have HK:Hid _:=hk
 clear hr hr1 hg hk
 rcases rdFlag_p L with ⟨hp,he⟩ | ⟨f,M,hp,he⟩
 ·have HS:Hid ((Wire.rdFlag L).2.1=4/\pFlag L=none):=⟨he,hp⟩
  clear he hp
  go_enter Tryz.func180,Tryz.ntmps180
  go_wp2_with (go_at_call 181;refine (Wire.flag28_g b g L _ HG.out).mono ?_)
  rw [HS.out.1]
  rintro e w1 ⟨rfl,h1,h2⟩
  have F:Hid (w.grownBy w1 (some b)):=grown_trans (World.grownBy_alloc _ _ _) h2
  clear h1 h2
  go_wp2_with (go_at_call 110;refine (sure_no _ _).mono ?_;rintro e w2 ⟨rfl,hw2⟩;rw [hw2];clear hw2;unfold Pan)
  exact ⟨rfl,.inr ⟨HS.out.2,rfl,F.out⟩⟩
 ·have HS:Hid (Wire.rdFlag L=(f,0,M)/\pFlag L=some (f,M)/\(L=[]->M=[])):=⟨he,hp,fun h=>by subst h;simp [pFlag] at hp⟩
  clear he hp
  go_enter Tryz.func180,Tryz.ntmps180
  go_wp2_with (go_at_call 181;refine (Wire.flag28_g b g L _ HG.out).mono ?_)
  rw [HS.out.1]
  rintro e w1 ⟨rfl,h1,h2⟩
  have F:Hid (RR w1 b M/\w.grownBy w1 (some b)):=⟨HK.out w1 _ h1 h2 HS.out.2.2,grown_trans (World.grownBy_alloc _ _ _) h2⟩
  clear h1 h2
  go_wp2_with (go_at_call 110;refine (sure_yes _ _).mono ?_;rintro e w2 ⟨rfl,hw2⟩;rw [hw2];clear hw2)
  go_ret
  exact .inl ⟨f,_,_,HS.out.2.1,rfl,rfl,F.out.1,F.out.2⟩
theorem flag136 (b:Nat)(L:Bs)(w:World)(hr:RR w b L) :
  Calls Tryz.prog 155 #[rdV b] w (RdPost b w (pFlag L) (fun f v _=>v=.bool f)):=by
 have HR:Hid (RR w b L):=hr
 clear hr
 have e0:rdV b=.agg #[.pointer (some ⟨b,0,none⟩)]:=rfl
 rw [e0]
 go_enter Tryz.func155,Tryz.ntmps155
 go_wp2_with (go_at_call 180;refine (next174 b L _ (HR.out.grown (World.grownBy_alloc _ _ none))).mono ?_)
 rintro e w1 (⟨n,M,v,hx,rfl,rfl,hR,hg⟩ | ⟨hx,rfl,hg⟩)
 ·have F:Hid (pFlag L=some (n,M)/\RR w1 b M/\w.grownBy w1 (some b)):=⟨hx,hR,grown_trans (World.grownBy_alloc _ _ _) hg⟩
  clear hx hR hg
  go_wp2_with fail
  go_ret
  exact .inl ⟨n,M,_,F.out.1,rfl,rfl,F.out.2.1,F.out.2.2⟩
 ·have F:Hid (pFlag L=none/\w.grownBy w1 (some b)):=⟨hx,grown_trans (World.grownBy_alloc _ _ _) hg⟩
  clear hx hg
  unfold Pan
  go_wp2_with fail
  exact ⟨rfl,.inr ⟨F.out.1,rfl,F.out.2⟩⟩
theorem rdBytes_p (L:Bs)(most:Nat):(pBytes most L=none/\((Wire.rdBytes L most).2.1=4\/(Wire.rdBytes L most).2.1=3))\/(∃x M,pBytes most L=some (x,M)/\Wire.rdBytes L most=(x,0,M)):=by
 unfold pBytes pNum
 cases hs:Wire.scan 0 0 L with
 | none=>exact .inl ⟨rfl,.inl (by rw [Wire.rdBytes_none (by omega) hs])⟩
 | some nk =>
  obtain ⟨n,k⟩:=nk
  by_cases hl:n<=most
  ·by_cases hf:(L.drop k).length<n
   ·refine .inl ⟨?_,.inl (by rw [Wire.rdBytes_few (by omega) hs (by omega) hf])⟩
    simp only [hl,if_true]
    rw [if_neg (by omega)]
   ·refine .inr ⟨(L.drop k).take n,(L.drop k).drop n,?_,Wire.rdBytes_ok (by omega) hs (by omega) hf⟩
    simp only [hl,if_true]
    rw [if_pos (by omega)]
  ·refine .inl ⟨?_,.inr (by rw [Wire.rdBytes_long (by omega) hs (by omega)])⟩
   simp only [hl,if_false]
theorem inner172 (b m g:Nat)(L:Bs)(most:Nat)(w:World)(hm:most<=9223372036854775807)(hz:L.length<=140737488355328)(hr:RdG w b g L)(hc:w.cell? ⟨m,0,none⟩=some (.int .i64 most)) :
  Calls Tryz.prog 178 #[.pointer (some ⟨b,0,none⟩),.pointer (some ⟨m,0,none⟩)] w fun e w'=>∃v,e=.returned (.tuple #[v,.int .i64 (Wire.rdBytes L most).2.1])/\Wire.OkG b g (Wire.rdBytes L most).1 (Wire.rdBytes L most).2.2 w v w':=by
 have HR:Hid (RdG w b g L):=hr
 clear hr
 go_enter Tryz.func178,Tryz.ntmps178
 go_wp2_with (go_at_call 179;refine (Wire.bytes27_g b g L most _ HR.out (by omega) hz).mono ?_)
 rintro e w1 ⟨v,rfl,h⟩
 have H:Hid _:=h
 clear h
 go_wp2_with fail
 go_ret2
 exact ⟨_,rfl,H.out⟩
theorem next171 (b m:Nat)(L:Bs)(most:Nat)(w:World)(hm:most<=9223372036854775807)(hz:L.length<=140737488355328)(hr:RR w b L)(hc:w.cell? ⟨m,0,none⟩=some (.int .i64 most)) :
  Calls Tryz.prog 177 #[rdV b,.func (.func 178) #[] #[.pointer (some ⟨m,0,none⟩)]] w (RdPost b w (pBytes most L) (fun x v w'=>Own w' w.heap.size v x)):=by
 unfold rdV
 have hr1:=hr.grown (World.grownBy_alloc w (.cells #[.pointer (some ⟨b,0,none⟩)] 149) none)
 have hc1:=grown_fun (World.grownBy_alloc w (.cells #[.pointer (some ⟨b,0,none⟩)] 149) none) hc
 obtain ⟨g,hg,hk⟩:=rr_of hr1
 have HG:Hid (RdG (w.alloc (.cells #[.pointer (some ⟨b,0,none⟩)] 149)) b g L/\(w.alloc (.cells #[.pointer (some ⟨b,0,none⟩)] 149)).cell? ⟨m,0,none⟩=some (.int .i64 most)):=⟨hg,hc1⟩
 have HK:Hid _:=hk
 clear hr hr1 hg hk hc hc1
 rcases rdBytes_p L most with ⟨hp,he⟩ | ⟨x,M,hp,he⟩
 ·obtain ⟨er,her⟩:∃er,er=(Wire.rdBytes L most).2.1:=⟨_,rfl⟩
  have HS:Hid ((Wire.rdBytes L most).2.1=er/\pBytes most L=none):=⟨her.symm,hp⟩
  have hne:(er==0)=false:=by rw [her];rcases he with he | he <;> rw [he] <;> rfl
  clear he hp her
  go_enter Tryz.func177,Tryz.ntmps177
  go_wp2_with (go_at_call 178;refine (inner172 b m g L most _ hm hz HG.out.1 HG.out.2).mono ?_)
  rw [HS.out.1]
  rintro e w1 ⟨v,rfl,_,_,h2⟩
  have F:Hid (w.grownBy w1 (some b)):=grown_trans (World.grownBy_alloc _ _ _) h2
  clear h2
  go_wp2_with (go_at_call 110;refine (sure_no _ _).mono ?_;rintro e w2 ⟨rfl,hw2⟩;rw [hw2];clear hw2;unfold Pan)
  exact ⟨rfl,.inr ⟨HS.out.2,rfl,F.out⟩⟩
 ·have HS:Hid (Wire.rdBytes L most=(x,0,M)/\pBytes most L=some (x,M)/\(L=[]->M=[])):=⟨he,hp,fun h=>by
   obtain ⟨e1,_⟩:=pBytes_inv hp
   rw [h] at e1
   have:=congrArg List.length e1
   have h2:=Wire.numForm_pos x.length
   simp [bytesForm] at this
   omega⟩
  clear he hp
  go_enter Tryz.func177,Tryz.ntmps177
  go_wp2_with (go_at_call 178;refine (inner172 b m g L most _ hm hz HG.out.1 HG.out.2).mono ?_)
  rw [HS.out.1]
  rintro e w1 ⟨v,rfl,h0,h1,h2⟩
  have F:Hid (RR w1 b M/\w.grownBy w1 (some b)/\Own w1 w.heap.size v x):=⟨HK.out w1 _ h1 h2 HS.out.2.2,grown_trans (World.grownBy_alloc _ _ _) h2,h0.mono (by simp)⟩
  clear h1 h2 h0
  go_wp2_with (go_at_call 110;refine (sure_yes _ _).mono ?_;rintro e w2 ⟨rfl,hw2⟩;rw [hw2];clear hw2)
  go_ret
  exact .inl ⟨x,_,_,HS.out.2.1,rfl,F.out.2.2,F.out.1,F.out.2.1⟩
theorem bytes135 (b:Nat)(L:Bs)(most:Nat)(w:World)(hm:most<=9223372036854775807)(hz:L.length<=140737488355328)(hr:RR w b L) :
  Calls Tryz.prog 154 #[rdV b,.int .i64 most] w (RdPost b w (pBytes most L) (fun x v w'=>Own w' w.heap.size v x)):=by
 have HR:Hid (RR w b L):=hr
 clear hr
 have hmf:∀(fn:Fn) (first cap:Array Value) (w:World),(Instr.makeFunc fn first cap).run Tryz.prog w=.ok (.func fn first cap) w:=fun _ _ _ _=>rfl
 have e0:rdV b=.agg #[.pointer (some ⟨b,0,none⟩)]:=rfl
 rw [e0]
 go_enter Tryz.func154,Tryz.ntmps154
 go_wp2_with (go_at_call 177;refine (next171 b (w.heap.size+1) L most _ hm hz (HR.out.grown (grown_trans (World.grownBy_alloc _ _ none) (World.grownBy_alloc _ _ none))) (by simp [go_sem])).mono ?_)
 rintro e w1 (⟨n,M,v,hx,rfl,h0,hR,hg⟩ | ⟨hx,rfl,hg⟩)
 ·have F:Hid (pBytes most L=some (n,M)/\RR w1 b M/\w.grownBy w1 (some b)/\Own w1 w.heap.size v n):=⟨hx,hR,grown_trans (grown_trans (World.grownBy_alloc _ _ _) (World.grownBy_alloc _ _ _)) hg,h0.mono (by simp;omega)⟩
  clear hx hR hg h0
  go_wp2_with fail
  go_ret
  exact .inl ⟨n,M,_,F.out.1,rfl,F.out.2.2.2,F.out.2.1,F.out.2.2.1⟩
 ·have F:Hid (pBytes most L=none/\w.grownBy w1 (some b)):=⟨hx,grown_trans (grown_trans (World.grownBy_alloc _ _ _) (World.grownBy_alloc _ _ _)) hg⟩
  clear hx hg
  unfold Pan
  go_wp2_with fail
  exact ⟨rfl,.inr ⟨F.out.1,rfl,F.out.2⟩⟩
theorem own_blk {w:World}{B:Nat}{v:Value}{L:Bs}(h:Own w B v L){k:Nat}(hk:v.ownBlock=some k):∃cur,Blk w k 5 cur:=by
 rcases h.2 with ⟨rfl,_⟩ | ⟨g,c,cur,e,hb,hg,_⟩
 ·simp [Value.ownBlock] at hk
 ·subst e
  simp [Value.ownBlock] at hk
  subst hk
  exact ⟨cur,hg⟩
theorem open86 (v:Value)(L:Bs)(w:World)(hs:Seg w v L)(hsz:L.length<=140737488355328) :
  Calls Tryz.prog 115 #[v] w fun e w'=>∃b,e=.returned (.pointer (some ⟨b,0,none⟩))/\w.heap.size<=b/\RR w' b L/\w.grownBy w' none:=by
 have HC:Hid _:=Wire.clone_any v L w hs hsz
 clear hs hsz
 go_enter Tryz.func115,Tryz.ntmps115
 go_wp2_with fail
 refine Calls.mono HC.out ?_
 rintro e w1 ⟨u,rfl,h1,h2⟩
 have h1':Own w1 w.heap.size u L:=h1
 obtain ⟨x,n,y,rfl⟩:=slice_of h1'
 have F:Hid (RR (w1.alloc (.cells #[.bool true,.slice x n y] 220)) w1.heap.size L):=⟨_,heap_alloc_new w1 _,seg_alloc h1'.seg _,fun hne=>by
  obtain ⟨k,hk⟩:=seg_own_ne h1'.seg hne
  obtain ⟨cur,hb⟩:=own_blk h1' hk
  exact ⟨k,cur,hk,hb.grown (World.grownBy_alloc _ _ none) (by simp)⟩⟩
 have G:Hid _:=h2
 clear h1 h1' h2 HC
 go_wp2_with fail
 go_ret
 exact ⟨w1.heap.size,rfl,G.out.size,F.out,grown_trans G.out (World.grownBy_alloc _ _ _)⟩
theorem end87 (b:Nat)(L:Bs)(w:World)(hr:RR w b L):Calls Tryz.prog 116 #[.pointer (some ⟨b,0,none⟩)] w fun e w'=>e=.returned (.int .i64 (if L=[] then 0 else 4))/\w'=w:=by
 obtain ⟨s,h1,h2,_⟩:=hr
 exact Wire.end_any b s L w h1 h2
theorem own_set {w w':World}{B x t:Nat}{c:Array Value}{v:Value}{L:Bs}(h:Own w B v L)(hx:Blk w x t c)(ht:t≠5)(hg:w.grownBy w' (some x)):Own w' B v L :=
 h.same fun k hk=>hg.block k (h.lt k hk).2 (fun e=>h.other hx ht (by rw [hk,e]))
section
variable {α:Type}
def LRow (t c:Nat)(R:World->List Value->α->Prop)(w:World)(B:Nat)(v:Value)(l:List α):Prop :=
 ∃vs:List (List Value),w.ownsRow B t c v l.length vs.flatten/\vs.length=l.length/\(∀x ∈ vs,x.length=c)/\∀j (h:j<vs.length) (h':j<l.length),R w vs[j] l[j]
def Stab (T:Nat->Prop)(R:World->List Value->α->Prop):Prop:=(∀w w' vs x,R w vs x->w.grownBy w' none->R w' vs x)/\(∀w w' vs x g t cur,R w vs x->Blk w g t cur->¬T t->w.grownBy w' (some g)->R w' vs x)
variable {t c:Nat} {R:World->List Value->α->Prop} {T:Nat->Prop}
theorem lrow_nil (w:World)(B:Nat):LRow t c R w B (.slice none 0 0) []:=⟨[],World.ownsRow_nil _ _ _ _,rfl,by simp,fun j h=>absurd h (by simp)⟩
theorem owns_grown {w w':World}{B n:Nat}{v:Value}{xs:List Value}(h:w.ownsRow B t c v n xs)(hg:w.grownBy w' none):w'.ownsRow B t c v n xs:=h.kept hg (by cases v.ownBlock <;> simp)
theorem owns_blk {w:World}{B n:Nat}{v:Value}{xs:List Value}(h:w.ownsRow B t c v n xs){k:Nat}(hk:v.ownBlock=some k):∃cur,Blk w k t cur:=by
 rcases h.2 with ⟨rfl,_⟩ | ⟨g,cp,cur,e,hb,hg,_⟩
 ·simp [Value.ownBlock] at hk
 ·subst e
  simp [Value.ownBlock] at hk
  subst hk
  exact ⟨cur,hg⟩
theorem owns_set {w w':World}{B n x t':Nat}{v:Value}{xs:List Value}{cc:Array Value}(h:w.ownsRow B t c v n xs)(hx:Blk w x t' cc)(ht:t'≠t)(hg:w.grownBy w' (some x)):w'.ownsRow B t c v n xs:=by
 refine h.kept hg ?_
 cases hv:v.ownBlock with
 | none=>simp
 | some k =>
  obtain ⟨cur,hb⟩:=owns_blk h hv
  refine .inr fun e=>?_
  simp at e
  subst e
  exact ht (blk_type hx hb)
theorem LRow.grown {w w':World}{B:Nat}{v:Value}{l:List α}(h:LRow t c R w B v l)(hs:Stab T R)(hg:w.grownBy w' none):LRow t c R w' B v l:=by
 obtain ⟨vs,h1,h2,h3,h4⟩:=h
 exact ⟨vs,owns_grown h1 hg,h2,h3,fun j hj hj'=>hs.1 _ _ _ _ (h4 j hj hj') hg⟩
theorem LRow.set {w w':World}{B x t':Nat}{v:Value}{l:List α}{cc:Array Value}(h:LRow t c R w B v l)(hs:Stab T R)(hx:Blk w x t' cc)(ht:t'≠t)(hT:¬T t')(hg:w.grownBy w' (some x)):LRow t c R w' B v l:=by
 obtain ⟨vs,h1,h2,h3,h4⟩:=h
 exact ⟨vs,owns_set h1 hx ht hg,h2,h3,fun j hj hj'=>hs.2 _ _ _ _ _ _ _ (h4 j hj hj') hx hT hg⟩
theorem LRow.shape {w:World}{B:Nat}{v:Value}{l:List α}(h:LRow t c R w B v l):∃x y,v=.slice x l.length y:=by
 obtain ⟨vs,h1,_⟩:=h
 rcases h1.2 with ⟨rfl,h0⟩ | ⟨g,cap,cur,rfl,_⟩
 ·exact ⟨none,0,by rw [h0]⟩
 ·exact ⟨_,_,rfl⟩
theorem LRow.lt {w:World}{B:Nat}{v:Value}{l:List α}(h:LRow t c R w B v l):∀k,v.ownBlock=some k->B<=k/\k<w.heap.size:=by
 obtain ⟨vs,h1,_⟩:=h
 exact fun k hk=>World.ownsRow.lt h1 k hk
theorem LRow.mono {w:World}{B B':Nat}{v:Value}{l:List α}(h:LRow t c R w B v l)(hB:B'<=B):LRow t c R w B' v l:=by
 obtain ⟨vs,h1,h2⟩:=h
 refine ⟨vs,⟨h1.1,?_⟩,h2⟩
 rcases h1.2 with h0 | ⟨g,cap,cur,e,hb,hg⟩
 ·exact .inl h0
 ·exact .inr ⟨g,cap,cur,e,by omega,hg⟩
theorem LRow.snoc {w w':World}{B:Nat}{v v':Value}{vs:List (List Value)}{l:List α}{x:List Value}{a:α}(hs:Stab T R)(hT:¬T t)(h1:w.ownsRow B t c v l.length vs.flatten)(h2:vs.length=l.length)(h3:∀x ∈ vs,x.length=c)(h4:∀j (h:j<vs.length) (h':j<l.length),R w vs[j] l[j])
  (hx:x.length=c) (ha:R w x a) (hg:w.grownBy w' v.ownBlock) (hr:w'.ownsRow B t c v' (l.length+1) (vs.flatten ++ x)):LRow t c R w' B v' (l ++ [a]):=by
 have keep:∀{y b},R w y b->R w' y b:=by
  intro y b hy
  cases hv:v.ownBlock with
  | none=>rw [hv] at hg;exact hs.1 _ _ _ _ hy hg
  | some k =>
   rw [hv] at hg
   obtain ⟨cur,hb⟩:=owns_blk h1 hv
   exact hs.2 _ _ _ _ _ _ _ hy hb hT hg
 refine ⟨vs ++ [x],by simpa using hr,by simp [h2],?_,fun j hj hj'=>?_⟩
 ·intro y hy
  simp at hy
  rcases hy with hy | rfl
  ·exact h3 y hy
  ·exact hx
 ·by_cases hlt:j<vs.length
  ·rw [List.getElem_append_left hlt,List.getElem_append_left (by omega)]
   exact keep (h4 j hlt (by omega))
  ·have e1:j=vs.length:=by simp at hj;omega
   subst e1
   have e2:(vs ++ [x])[vs.length]=x:=by simp
   have e3:(l ++ [a])[vs.length]'hj'=a:=by simp [h2]
   rw [e2,e3]
   exact keep ha
theorem flatten_get {c:Nat}:∀(vs:List (List Value)) (j i:Nat) (_h3:∀x ∈ vs,x.length=c) (hj:j<vs.length) (_hi:i<c),vs.flatten[j*c+i]? = vs[j][i]?
 | [],j,i,_,hj,_=>absurd hj (by simp)
 | x :: vs,0,i,h3,_,hi=>by
  have hx:=h3 x (by simp)
  simp only [List.flatten_cons,Nat.zero_mul,Nat.zero_add,List.getElem_cons_zero]
  rw [List.getElem?_append_left (by omega)]
 | x :: vs,j+1,i,h3,hj,hi=>by
  have hx:=h3 x (by simp)
  simp only [List.flatten_cons,List.getElem_cons_succ]
  rw [List.getElem?_append_right (by rw [hx,Nat.add_mul];omega)]
  have:=flatten_get vs j i (fun y hy=>h3 y (by simp [hy])) (by simpa using hj) hi
  rw [<-this]
  congr 1
  rw [hx,Nat.add_mul];omega
theorem LRow.cell {w:World}{B:Nat}{v:Value}{l:List α}(h:LRow t c R w B v l)(j:Nat)(hj:j<l.length):∃g cap x,v=.slice (some ⟨g,0,none⟩) l.length cap/\x.length=c/\R w x l[j]/\B<=g/\Blk w g t (w.heap[g]?.map (fun o=>match o with | .cells cs _ _=>cs | _=>#[])|>.getD #[])/\∀i (_hi:i<c),w.cell? ⟨g,j*c+i,none⟩=x[i]?:=by
 obtain ⟨vs,h1,h2,h3,h4⟩:=h
 rcases h1.2 with ⟨_,h0⟩ | ⟨g,cap,cur,e,hb,hg,q1,q2,q3,q4⟩
 ·omega
 ·have hr:w.ownsRow B t c (.slice (some ⟨g,0,none⟩) l.length cap) l.length vs.flatten:=by rw [<-e];exact h1
  refine ⟨g,cap,vs[j]'(by omega),e,h3 _ (List.getElem_mem _),h4 j (by omega) hj,hb,by rw [hg];exact hg,fun i hi=>?_⟩
  have hlt:j*c+i<l.length*c:=by
   have:(j+1)*c<=l.length*c:=Nat.mul_le_mul_right c (by omega)
   rw [Nat.add_mul] at this;omega
  rw [hr.cellAt (j*c+i) hlt]
  exact flatten_get vs j i h3 (by omega) hi
end
theorem cut_slice {w:World}{B:Nat}{v:Value}{L:Bs}(h:Names.Cut w B v L):∃x n y,v=.slice x n y:=by obtain ⟨x,y,e⟩:=h.seg.shape;exact ⟨x,_,y,e⟩
theorem cut_set {w w':World}{B x t:Nat}{c:Array Value}{v:Value}{L:Bs}(h:Names.Cut w B v L)(hx:Blk w x t c)(ht:t≠5)(hg:w.grownBy w' (some x)):Names.Cut w' B v L:=by
 rcases h with h | ⟨g,cap,rfl,h⟩
 ·exact .inl (own_set h hx ht hg)
 ·exact .inr ⟨g,cap,rfl,own_set h hx ht hg⟩
structure OpOwn (w:World)(B:Nat)(k v ol t:Value)(o:POp):Prop where
 key:Names.Cut w B k o.key
 value:Names.Cut w B v o.value
 old:Names.Cut w B ol o.old
 tos:Names.Cut w B t o.to
 fits:OpIn o
theorem OpOwn.seg {w:World}{B:Nat}{k v ol t:Value}{o:POp}(h:OpOwn w B k v ol t o):OpSeg w k v ol t o:=⟨h.key.seg,h.value.seg,h.old.seg,h.tos.seg,h.fits⟩
theorem OpOwn.grown {w w':World}{B:Nat}{k v ol t:Value}{o:POp}(h:OpOwn w B k v ol t o)(hg:w.grownBy w' none):OpOwn w' B k v ol t o:=⟨h.key.grown hg,h.value.grown hg,h.old.grown hg,h.tos.grown hg,h.fits⟩
theorem OpOwn.mono {w:World}{B B':Nat}{k v ol t:Value}{o:POp}(h:OpOwn w B k v ol t o)(hB:B'<=B):OpOwn w B' k v ol t o:=⟨h.key.mono hB,h.value.mono hB,h.old.mono hB,h.tos.mono hB,h.fits⟩
theorem OpOwn.set {w w':World}{B x t':Nat}{c:Array Value}{k v ol t:Value}{o:POp}(h:OpOwn w B k v ol t o)(hx:Blk w x t' c)(ht:t'≠5)(hg:w.grownBy w' (some x)):OpOwn w' B k v ol t o :=
 ⟨cut_set h.key hx ht hg,cut_set h.value hx ht hg,cut_set h.old hx ht hg,cut_set h.tos hx ht hg,h.fits⟩
def OpR (B:Nat)(w:World)(x:List Value)(o:POp):Prop:=∃k v ol t,x=[.int .i64 o.kind,Str o.table,k,v,.bool o.has,ol,t,.int .i64 o.most]/\OpOwn w B k v ol t o
theorem opR_stab (B:Nat):Stab (fun t=>t=5) (OpR B):=by
 refine ⟨fun w w' vs x h hg=>?_,fun w w' vs x g t cur h hb ht hg=>?_⟩
 ·obtain ⟨k,v,ol,t,e,h⟩:=h
  exact ⟨k,v,ol,t,e,h.grown hg⟩
 ·obtain ⟨k,v,ol,t',e,h⟩:=h
  exact ⟨k,v,ol,t',e,h.set hb ht hg⟩
def OpsOwn (w:World)(B:Nat)(v:Value)(l:List POp):Prop:=LRow 109 8 (OpR B) w B v l/\l.length<=1099511627776
theorem OpsOwn.ops {w:World}{B:Nat}{v:Value}{l:List POp}(h:OpsOwn w B v l):Ops w v l:=by
 obtain ⟨h,hl⟩:=h
 obtain ⟨x,y,e⟩:=h.shape
 refine ⟨x,y,e,hl,fun j hj=>?_⟩
 obtain ⟨g,cap,cs,e2,hlen,⟨k,v',ol,t,rfl,ho⟩,_,_,hc⟩:=h.cell j hj
 rw [e] at e2
 simp at e2
 refine ⟨g,0,k,v',ol,t,e2.1,?_,ho.seg⟩
 rw [Nat.zero_add]
 exact ⟨hc 0 (by omega),hc 1 (by omega),hc 2 (by omega),hc 3 (by omega),hc 4 (by omega),hc 5 (by omega),hc 6 (by omega),hc 7 (by omega)⟩
theorem OpsOwn.grown {w w':World}{B:Nat}{v:Value}{l:List POp}(h:OpsOwn w B v l)(hg:w.grownBy w' none):OpsOwn w' B v l:=⟨h.1.grown (opR_stab B) hg,h.2⟩
theorem OpsOwn.set {w w':World}{B x t':Nat}{v:Value}{l:List POp}{cc:Array Value}(h:OpsOwn w B v l)(hx:Blk w x t' cc)(h1:t'≠109)(h2:t'≠5)(hg:w.grownBy w' (some x)):OpsOwn w' B v l:=⟨h.1.set (opR_stab B) hx h1 h2 hg,h.2⟩
theorem OpsOwn.mono {w:World}{B B':Nat}{v:Value}{l:List POp}(h:OpsOwn w B v l)(hB:B'<=B):OpsOwn w B' v l:=by
 obtain ⟨⟨vs,h1,h2,h3,h4⟩,hl⟩:=h
 refine ⟨LRow.mono ⟨vs,h1,h2,h3,fun j hj hj'=>?_⟩ hB,hl⟩
 obtain ⟨k,v,ol,t,e,ho⟩:=h4 j hj hj'
 exact ⟨k,v,ol,t,e,ho.mono hB⟩
end Go.Proofs.YtanoabliahcbeaaGreat.Calls
