import Derived.Test.YtanoabliahcbeaaGreatCpwAll
namespace Go.Proofs.YtanoabliahcbeaaGreat.Calls
def bareB (o:POp)(value swap scan:Bool):Bool:=(value || decide (o.value.length=0)) && (swap || (!o.has && decide (o.old.length=0))) && (scan || (decide (o.to.length=0) && decide (o.most=0)))
def dMay (o:POp):Bool :=
 if Names.tabB o.table=true then
  (if o.kind=1\/o.kind=3 then Names.keyB o.key && bareB o false false false
   else if o.kind=2 then Names.keyB o.key && Names.valueB o.value && bareB o true false false
   else if o.kind=4 then Names.keyB o.key && Names.valueB o.value && Names.valueB o.old && (o.has || decide (o.old.length=0)) && bareB o true true false
   else if o.kind=5 then decide (o.key.length<=64) && decide (o.to.length<=64) && decide (1<=o.most) && decide (o.most<=64) && bareB o false false true
   else false)
 else false
theorem keyB_iff (L:Bs):Names.keyB L=true<->1<=L.length/\L.length<=64:=by simp [Names.keyB]
theorem valueB_iff (L:Bs):Names.valueB L=true<->L.length<=256:=by simp [Names.valueB]
theorem dMay_iff (o:POp):dMay o=true<->May o:=by
 obtain ⟨k,t,key,v,h,ol,to,m⟩:=o
 unfold dMay
 constructor
 ·intro hd
  split at hd
  ·rename_i ht
   split at hd
   ·rename_i hk
    simp [bareB,keyB_iff] at hd hk ht
    obtain ⟨⟨h1,h2⟩,⟨h3,h4,h5⟩,h6,h7⟩:=hd
    subst h3 h4 h5 h6 h7
    exact ⟨by show 1<=k/\k<=5;omega,ht,h2,fun _=>(keyB_iff _).2 ⟨h1,h2⟩,by simp,by simp,fun _=>rfl,by simp,fun h5=>by simp at h5;omega,by simp [named,hk]⟩
   ·rename_i hk
    split at hd
    ·rename_i hk2
     simp [bareB,keyB_iff,valueB_iff] at hd hk2 ht
     obtain ⟨⟨⟨h1,h2⟩,hv⟩,⟨h4,h5⟩,h6,h7⟩:=hd
     subst h4 h5 h6 h7 hk2
     exact ⟨by simp,ht,h2,fun _=>(keyB_iff _).2 ⟨h1,h2⟩,hv,by simp,fun _=>rfl,by simp,fun h5=>by simp at h5,by simp [named]⟩
    ·rename_i hk2
     split at hd
     ·rename_i hk4
      simp [bareB,keyB_iff,valueB_iff] at hd hk4 ht
      obtain ⟨⟨⟨⟨⟨h1,h2⟩,hv⟩,ho⟩,hh⟩,h6,h7⟩:=hd
      subst h6 h7 hk4
      exact ⟨by simp,ht,h2,fun _=>(keyB_iff _).2 ⟨h1,h2⟩,hv,ho,fun e=>by simp at e;subst e;simpa using hh,by simp,fun h5=>by simp at h5,by simp [named]⟩
     ·rename_i hk4
      split at hd
      ·rename_i hk5
       simp [bareB] at hd hk5 ht
       obtain ⟨⟨⟨⟨h1,h2⟩,h3⟩,h4⟩,h5,h6,h7⟩:=hd
       subst h5 h6 h7 hk5
       exact ⟨by simp,ht,h1,fun e=>absurd rfl e,by simp,by simp,fun _=>rfl,h2,fun _=>⟨h3,h4⟩,by simp [named]⟩
      ·cases hd
  ·cases hd
 ·intro hm
  have ht:=hm.tab
  have hk:=hm.kind
  have hn:=hm.named
  have h5:=hm.most
  have hkey:=hm.key
  have hkb:=hm.keyB
  have hv:=hm.value
  have ho:=hm.old
  have hh:=hm.has
  have hto:=hm.to
  simp only at ht hk hkey hkb hv ho hh hto h5
  rw [if_pos ht]
  have hc:k=1\/k=2\/k=3\/k=4\/k=5:=by omega
  rcases hc with rfl | rfl | rfl | rfl | rfl
  ·simp [named] at hn
   obtain ⟨rfl,rfl,rfl,rfl,rfl⟩:=hn
   simp [bareB,hkb]
  ·simp [named] at hn
   obtain ⟨rfl,rfl,rfl,rfl⟩:=hn
   simp [bareB,hkb,valueB_iff,hv]
  ·simp [named] at hn
   obtain ⟨rfl,rfl,rfl,rfl,rfl⟩:=hn
   simp [bareB,hkb]
  ·simp [named] at hn
   obtain ⟨rfl,rfl⟩:=hn
   cases h
   ·simp [bareB,hkb,valueB_iff,hv,hh rfl]
   ·simp [bareB,hkb,valueB_iff,hv,ho]
  ·simp [named] at hn
   obtain ⟨rfl,rfl,rfl⟩:=hn
   have:=h5 rfl
   simp [bareB,hkey,hto];omega
theorem dMay_eq (o:POp):dMay o=mayOp o:=by rw [Bool.eq_iff_iff,dMay_iff,may_iff]
end Go.Proofs.YtanoabliahcbeaaGreat.Calls
