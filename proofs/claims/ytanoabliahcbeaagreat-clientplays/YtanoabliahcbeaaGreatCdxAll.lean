import Derived.Test.YtanoabliahcbeaaGreatCgAll
import Derived.Test.YtanoabliahcbeaaGreatCallsDp
import Derived.Deep.DeepCutAuto
set_option maxHeartbeats 8000000
set_option maxRecDepth 100000
namespace Go.Proofs.YtanoabliahcbeaaGreat.Calls
open Go.RowKit Disk
open Names (Str)
theorem bare118 (k v ol t:Value)(a:POp)(x y z:Bool)(w:World)(ha:OpSeg w k v ol t a) :
  Calls Tryz.prog 121 #[opV k v ol t a,.bool x,.bool y,.bool z] w fun e w'=>e=.returned (.bool (bareB a x y z))/\w.grownBy w' none:=by
 unfold opV Str
 obtain ⟨_,_,_,_,_,_,_,_,rfl,rfl,rfl,rfl⟩:=ha.shapes
 clear ha
 go_enter Tryz.func121,Tryz.ntmps121
 go_wp2_with fail
 all_goals go_ret
 all_goals refine ⟨?_,World.grownBy_alloc _ _ none⟩
 all_goals (refine congrArg (fun x=>Ending.returned (Value.bool x)) ?_;simp [bareB, *];try rfl)
theorem bare118_of (x k v ol t:Value)(a:POp)(p q r:Bool)(w:World)(hx:x=opV k v ol t a)(ha:OpSeg w k v ol t a):Calls Tryz.prog 121 #[x,.bool p,.bool q,.bool r] w fun e w'=>e=.returned (.bool (bareB a p q r))/\w.grownBy w' none:=by subst hx;exact bare118 k v ol t a p q r w ha
theorem mayop73_1 (k v ol t:Value)(a:POp)(w:World)(ha:OpSeg w k v ol t a)(hT:Names.tabB a.table=true)(hK:a.kind=1) :
  Calls Tryz.prog 86 #[opV k v ol t a] w fun e w'=>e=.returned (.bool (dMay a))/\w.grownBy w' none:=by
 have HT:Hid (Names.tabB a.table=true):=hT
 have HK:Hid (a.kind=1):=hK
 have HX:Hid (∀x k v ol t:Value,∀p q r:Bool,∀w,x=.agg #[.int .i64 1,.string ⟨a.table.toArray⟩,k,v,.bool a.has,ol,t,.int .i64 a.most]->OpSeg w k v ol t a->Calls Tryz.prog 121 #[x,.bool p,.bool q,.bool r] w fun e w'=>e=.returned (.bool (bareB a p q r))/\w.grownBy w' none):=fun x k v ol t p q r w h1 h2=>bare118_of x k v ol t a p q r w (by rw [h1,opV,hK];rfl) h2
 unfold opV Str
 rw [hK]
 have HS:Hid (OpSeg w k v ol t a):=ha
 obtain ⟨p1,p2,p3,p4,r1,r2,r3,r4,rfl,rfl,rfl,rfl⟩:=ha.shapes
 clear ha
 have HG:Hid (OpSeg (w.alloc (.cells #[.int .i64 1,.string ⟨a.table.toArray⟩,.slice p1 a.key.length r1,.slice p2 a.value.length r2,.bool a.has,.slice p3 a.old.length r3,.slice p4 a.to.length r4,.int .i64 a.most] 109)) (.slice p1 a.key.length r1) (.slice p2 a.value.length r2) (.slice p3 a.old.length r3) (.slice p4 a.to.length r4) a):=HS.out.grown (World.grownBy_alloc _ _ none)
 clear hT hK
 go_enter Tryz.func86,Tryz.ntmps86
 go_wp2_with (first | (go_at_call 119;refine (Names.table10 a.table _ HS.out.fits.tl).mono ?_;rintro e w1 ⟨rfl,rfl⟩;rw [HT.out]) | (go_at_call 120;refine (Names.key12 _ a.key _ HG.out.key).mono ?_;rintro e w1 ⟨rfl,rfl⟩) | (go_at_call 122;refine (Names.value14 _ a.value _ HG.out.value).mono ?_;rintro e w1 ⟨rfl,rfl⟩) | (go_at_call 122;refine (Names.value14 _ a.old _ HG.out.old).mono ?_;rintro e w1 ⟨rfl,rfl⟩) | (go_at_call 121;refine (HX.out _ _ _ _ _ _ _ _ _ rfl HG.out).mono ?_;rintro e w1 ⟨rfl,hg⟩))
 all_goals go_ret
 all_goals refine ⟨?_,by first | exact World.grownBy_alloc _ _ none | exact grown_trans (World.grownBy_alloc _ _ none) (by assumption)⟩
 all_goals (refine congrArg (fun x=>Ending.returned (Value.bool x)) ?_;simp [dMay,HT.out,HK.out, *];try rfl)
theorem mayop73_3 (k v ol t:Value)(a:POp)(w:World)(ha:OpSeg w k v ol t a)(hT:Names.tabB a.table=true)(hK:a.kind=3) :
  Calls Tryz.prog 86 #[opV k v ol t a] w fun e w'=>e=.returned (.bool (dMay a))/\w.grownBy w' none:=by
 have HT:Hid (Names.tabB a.table=true):=hT
 have HK:Hid (a.kind=3):=hK
 have HX:Hid (∀x k v ol t:Value,∀p q r:Bool,∀w,x=.agg #[.int .i64 3,.string ⟨a.table.toArray⟩,k,v,.bool a.has,ol,t,.int .i64 a.most]->OpSeg w k v ol t a->Calls Tryz.prog 121 #[x,.bool p,.bool q,.bool r] w fun e w'=>e=.returned (.bool (bareB a p q r))/\w.grownBy w' none):=fun x k v ol t p q r w h1 h2=>bare118_of x k v ol t a p q r w (by rw [h1,opV,hK];rfl) h2
 unfold opV Str
 rw [hK]
 have HS:Hid (OpSeg w k v ol t a):=ha
 obtain ⟨p1,p2,p3,p4,r1,r2,r3,r4,rfl,rfl,rfl,rfl⟩:=ha.shapes
 clear ha
 have HG:Hid (OpSeg (w.alloc (.cells #[.int .i64 3,.string ⟨a.table.toArray⟩,.slice p1 a.key.length r1,.slice p2 a.value.length r2,.bool a.has,.slice p3 a.old.length r3,.slice p4 a.to.length r4,.int .i64 a.most] 109)) (.slice p1 a.key.length r1) (.slice p2 a.value.length r2) (.slice p3 a.old.length r3) (.slice p4 a.to.length r4) a):=HS.out.grown (World.grownBy_alloc _ _ none)
 clear hT hK
 go_enter Tryz.func86,Tryz.ntmps86
 go_wp2_with (first | (go_at_call 119;refine (Names.table10 a.table _ HS.out.fits.tl).mono ?_;rintro e w1 ⟨rfl,rfl⟩;rw [HT.out]) | (go_at_call 120;refine (Names.key12 _ a.key _ HG.out.key).mono ?_;rintro e w1 ⟨rfl,rfl⟩) | (go_at_call 122;refine (Names.value14 _ a.value _ HG.out.value).mono ?_;rintro e w1 ⟨rfl,rfl⟩) | (go_at_call 122;refine (Names.value14 _ a.old _ HG.out.old).mono ?_;rintro e w1 ⟨rfl,rfl⟩) | (go_at_call 121;refine (HX.out _ _ _ _ _ _ _ _ _ rfl HG.out).mono ?_;rintro e w1 ⟨rfl,hg⟩))
 all_goals go_ret
 all_goals refine ⟨?_,by first | exact World.grownBy_alloc _ _ none | exact grown_trans (World.grownBy_alloc _ _ none) (by assumption)⟩
 all_goals (refine congrArg (fun x=>Ending.returned (Value.bool x)) ?_;simp [dMay,HT.out,HK.out, *];try rfl)
theorem mayop73_2 (k v ol t:Value)(a:POp)(w:World)(ha:OpSeg w k v ol t a)(hT:Names.tabB a.table=true)(hK:a.kind=2) :
  Calls Tryz.prog 86 #[opV k v ol t a] w fun e w'=>e=.returned (.bool (dMay a))/\w.grownBy w' none:=by
 have HT:Hid (Names.tabB a.table=true):=hT
 have HK:Hid (a.kind=2):=hK
 have HX:Hid (∀x k v ol t:Value,∀p q r:Bool,∀w,x=.agg #[.int .i64 2,.string ⟨a.table.toArray⟩,k,v,.bool a.has,ol,t,.int .i64 a.most]->OpSeg w k v ol t a->Calls Tryz.prog 121 #[x,.bool p,.bool q,.bool r] w fun e w'=>e=.returned (.bool (bareB a p q r))/\w.grownBy w' none):=fun x k v ol t p q r w h1 h2=>bare118_of x k v ol t a p q r w (by rw [h1,opV,hK];rfl) h2
 unfold opV Str
 rw [hK]
 have HS:Hid (OpSeg w k v ol t a):=ha
 obtain ⟨p1,p2,p3,p4,r1,r2,r3,r4,rfl,rfl,rfl,rfl⟩:=ha.shapes
 clear ha
 have HG:Hid (OpSeg (w.alloc (.cells #[.int .i64 2,.string ⟨a.table.toArray⟩,.slice p1 a.key.length r1,.slice p2 a.value.length r2,.bool a.has,.slice p3 a.old.length r3,.slice p4 a.to.length r4,.int .i64 a.most] 109)) (.slice p1 a.key.length r1) (.slice p2 a.value.length r2) (.slice p3 a.old.length r3) (.slice p4 a.to.length r4) a):=HS.out.grown (World.grownBy_alloc _ _ none)
 clear hT hK
 go_enter Tryz.func86,Tryz.ntmps86
 go_wp2_with (first | (go_at_call 119;refine (Names.table10 a.table _ HS.out.fits.tl).mono ?_;rintro e w1 ⟨rfl,rfl⟩;rw [HT.out]) | (go_at_call 120;refine (Names.key12 _ a.key _ HG.out.key).mono ?_;rintro e w1 ⟨rfl,rfl⟩) | (go_at_call 122;refine (Names.value14 _ a.value _ HG.out.value).mono ?_;rintro e w1 ⟨rfl,rfl⟩) | (go_at_call 122;refine (Names.value14 _ a.old _ HG.out.old).mono ?_;rintro e w1 ⟨rfl,rfl⟩) | (go_at_call 121;refine (HX.out _ _ _ _ _ _ _ _ _ rfl HG.out).mono ?_;rintro e w1 ⟨rfl,hg⟩))
 all_goals go_ret
 all_goals refine ⟨?_,by first | exact World.grownBy_alloc _ _ none | exact grown_trans (World.grownBy_alloc _ _ none) (by assumption)⟩
 all_goals (refine congrArg (fun x=>Ending.returned (Value.bool x)) ?_;simp [dMay,HT.out,HK.out, *];try rfl)
theorem mayop73_4a (k v ol t:Value)(a:POp)(w:World)(ha:OpSeg w k v ol t a)(hT:Names.tabB a.table=true)(hK:a.kind=4)(hk:Names.keyB a.key=false) :
  Calls Tryz.prog 86 #[opV k v ol t a] w fun e w'=>e=.returned (.bool (dMay a))/\w.grownBy w' none:=by
 have Hhk:Hid (Names.keyB a.key=false):=hk
 have HT:Hid (Names.tabB a.table=true):=hT
 have HK:Hid (a.kind=4):=hK
 have HX:Hid (∀x k v ol t:Value,∀p q r:Bool,∀w,x=.agg #[.int .i64 4,.string ⟨a.table.toArray⟩,k,v,.bool a.has,ol,t,.int .i64 a.most]->OpSeg w k v ol t a->Calls Tryz.prog 121 #[x,.bool p,.bool q,.bool r] w fun e w'=>e=.returned (.bool (bareB a p q r))/\w.grownBy w' none):=fun x k v ol t p q r w h1 h2=>bare118_of x k v ol t a p q r w (by rw [h1,opV,hK];rfl) h2
 unfold opV Str
 rw [hK]
 have HS:Hid (OpSeg w k v ol t a):=ha
 obtain ⟨p1,p2,p3,p4,r1,r2,r3,r4,rfl,rfl,rfl,rfl⟩:=ha.shapes
 clear ha
 have HG:Hid (OpSeg (w.alloc (.cells #[.int .i64 4,.string ⟨a.table.toArray⟩,.slice p1 a.key.length r1,.slice p2 a.value.length r2,.bool a.has,.slice p3 a.old.length r3,.slice p4 a.to.length r4,.int .i64 a.most] 109)) (.slice p1 a.key.length r1) (.slice p2 a.value.length r2) (.slice p3 a.old.length r3) (.slice p4 a.to.length r4) a):=HS.out.grown (World.grownBy_alloc _ _ none)
 clear hT hK hk
 go_enter Tryz.func86,Tryz.ntmps86
 go_wp2_with (first | (go_at_call 119;refine (Names.table10 a.table _ HS.out.fits.tl).mono ?_;rintro e w1 ⟨rfl,rfl⟩;rw [HT.out]) | (go_at_call 120;refine (Names.key12 _ a.key _ HG.out.key).mono ?_;rintro e w1 ⟨rfl,rfl⟩;rw [Hhk.out]) | (go_at_call 122;refine (Names.value14 _ a.value _ HG.out.value).mono ?_;rintro e w1 ⟨rfl,rfl⟩) | (go_at_call 122;refine (Names.value14 _ a.old _ HG.out.old).mono ?_;rintro e w1 ⟨rfl,rfl⟩) | (go_at_call 121;refine (HX.out _ _ _ _ _ _ _ _ _ rfl HG.out).mono ?_;rintro e w1 ⟨rfl,hg⟩))
 all_goals go_ret
 all_goals refine ⟨?_,by first | exact World.grownBy_alloc _ _ none | exact grown_trans (World.grownBy_alloc _ _ none) (by assumption)⟩
 all_goals (refine congrArg (fun x=>Ending.returned (Value.bool x)) ?_;simp [dMay,HT.out,HK.out,Hhk.out, *];try rfl)
theorem mayop73_4b (k v ol t:Value)(a:POp)(w:World)(ha:OpSeg w k v ol t a)(hT:Names.tabB a.table=true)(hK:a.kind=4)(hk:Names.keyB a.key=true)(hv:Names.valueB a.value=false) :
  Calls Tryz.prog 86 #[opV k v ol t a] w fun e w'=>e=.returned (.bool (dMay a))/\w.grownBy w' none:=by
 have Hhk:Hid (Names.keyB a.key=true):=hk
 have Hhv:Hid (Names.valueB a.value=false):=hv
 have HT:Hid (Names.tabB a.table=true):=hT
 have HK:Hid (a.kind=4):=hK
 have HX:Hid (∀x k v ol t:Value,∀p q r:Bool,∀w,x=.agg #[.int .i64 4,.string ⟨a.table.toArray⟩,k,v,.bool a.has,ol,t,.int .i64 a.most]->OpSeg w k v ol t a->Calls Tryz.prog 121 #[x,.bool p,.bool q,.bool r] w fun e w'=>e=.returned (.bool (bareB a p q r))/\w.grownBy w' none):=fun x k v ol t p q r w h1 h2=>bare118_of x k v ol t a p q r w (by rw [h1,opV,hK];rfl) h2
 unfold opV Str
 rw [hK]
 have HS:Hid (OpSeg w k v ol t a):=ha
 obtain ⟨p1,p2,p3,p4,r1,r2,r3,r4,rfl,rfl,rfl,rfl⟩:=ha.shapes
 clear ha
 have HG:Hid (OpSeg (w.alloc (.cells #[.int .i64 4,.string ⟨a.table.toArray⟩,.slice p1 a.key.length r1,.slice p2 a.value.length r2,.bool a.has,.slice p3 a.old.length r3,.slice p4 a.to.length r4,.int .i64 a.most] 109)) (.slice p1 a.key.length r1) (.slice p2 a.value.length r2) (.slice p3 a.old.length r3) (.slice p4 a.to.length r4) a):=HS.out.grown (World.grownBy_alloc _ _ none)
 clear hT hK hk hv
 go_enter Tryz.func86,Tryz.ntmps86
 go_wp2_with (first | (go_at_call 119;refine (Names.table10 a.table _ HS.out.fits.tl).mono ?_;rintro e w1 ⟨rfl,rfl⟩;rw [HT.out]) | (go_at_call 120;refine (Names.key12 _ a.key _ HG.out.key).mono ?_;rintro e w1 ⟨rfl,rfl⟩;rw [Hhk.out]) | (go_at_call 122;refine (Names.value14 _ a.value _ HG.out.value).mono ?_;rintro e w1 ⟨rfl,rfl⟩;rw [Hhv.out]) | (go_at_call 122;refine (Names.value14 _ a.old _ HG.out.old).mono ?_;rintro e w1 ⟨rfl,rfl⟩) | (go_at_call 121;refine (HX.out _ _ _ _ _ _ _ _ _ rfl HG.out).mono ?_;rintro e w1 ⟨rfl,hg⟩))
 all_goals go_ret
 all_goals refine ⟨?_,by first | exact World.grownBy_alloc _ _ none | exact grown_trans (World.grownBy_alloc _ _ none) (by assumption)⟩
 all_goals (refine congrArg (fun x=>Ending.returned (Value.bool x)) ?_;simp [dMay,HT.out,HK.out,Hhk.out,Hhv.out, *];try rfl)
theorem mayop73_4c (k v ol t:Value)(a:POp)(w:World)(ha:OpSeg w k v ol t a)(hT:Names.tabB a.table=true)(hK:a.kind=4)(hk:Names.keyB a.key=true)(hv:Names.valueB a.value=true)(ho:Names.valueB a.old=false) :
  Calls Tryz.prog 86 #[opV k v ol t a] w fun e w'=>e=.returned (.bool (dMay a))/\w.grownBy w' none:=by
 have Hhk:Hid (Names.keyB a.key=true):=hk
 have Hhv:Hid (Names.valueB a.value=true):=hv
 have Hho:Hid (Names.valueB a.old=false):=ho
 have HT:Hid (Names.tabB a.table=true):=hT
 have HK:Hid (a.kind=4):=hK
 have HX:Hid (∀x k v ol t:Value,∀p q r:Bool,∀w,x=.agg #[.int .i64 4,.string ⟨a.table.toArray⟩,k,v,.bool a.has,ol,t,.int .i64 a.most]->OpSeg w k v ol t a->Calls Tryz.prog 121 #[x,.bool p,.bool q,.bool r] w fun e w'=>e=.returned (.bool (bareB a p q r))/\w.grownBy w' none):=fun x k v ol t p q r w h1 h2=>bare118_of x k v ol t a p q r w (by rw [h1,opV,hK];rfl) h2
 unfold opV Str
 rw [hK]
 have HS:Hid (OpSeg w k v ol t a):=ha
 obtain ⟨p1,p2,p3,p4,r1,r2,r3,r4,rfl,rfl,rfl,rfl⟩:=ha.shapes
 clear ha
 have HG:Hid (OpSeg (w.alloc (.cells #[.int .i64 4,.string ⟨a.table.toArray⟩,.slice p1 a.key.length r1,.slice p2 a.value.length r2,.bool a.has,.slice p3 a.old.length r3,.slice p4 a.to.length r4,.int .i64 a.most] 109)) (.slice p1 a.key.length r1) (.slice p2 a.value.length r2) (.slice p3 a.old.length r3) (.slice p4 a.to.length r4) a):=HS.out.grown (World.grownBy_alloc _ _ none)
 clear hT hK hk hv ho
 go_enter Tryz.func86,Tryz.ntmps86
 go_wp2_with (first | (go_at_call 119;refine (Names.table10 a.table _ HS.out.fits.tl).mono ?_;rintro e w1 ⟨rfl,rfl⟩;rw [HT.out]) | (go_at_call 120;refine (Names.key12 _ a.key _ HG.out.key).mono ?_;rintro e w1 ⟨rfl,rfl⟩;rw [Hhk.out]) | (go_at_call 122;refine (Names.value14 _ a.value _ HG.out.value).mono ?_;rintro e w1 ⟨rfl,rfl⟩;rw [Hhv.out]) | (go_at_call 122;refine (Names.value14 _ a.old _ HG.out.old).mono ?_;rintro e w1 ⟨rfl,rfl⟩;rw [Hho.out]) | (go_at_call 121;refine (HX.out _ _ _ _ _ _ _ _ _ rfl HG.out).mono ?_;rintro e w1 ⟨rfl,hg⟩))
 all_goals go_ret
 all_goals refine ⟨?_,by first | exact World.grownBy_alloc _ _ none | exact grown_trans (World.grownBy_alloc _ _ none) (by assumption)⟩
 all_goals (refine congrArg (fun x=>Ending.returned (Value.bool x)) ?_;simp [dMay,HT.out,HK.out,Hhk.out,Hhv.out,Hho.out, *];try rfl)
theorem mayop73_4d (k v ol t:Value)(T K V O TO:Bs)(M:Int)(w:World)(ha:OpSeg w k v ol t (⟨4,T,K,V,true,O,TO,M⟩:POp))(hT:Names.tabB T=true)(hk:Names.keyB K=true)(hv:Names.valueB V=true)(ho:Names.valueB O=true) :
  Calls Tryz.prog 86 #[opV k v ol t (⟨4,T,K,V,true,O,TO,M⟩:POp)] w fun e w'=>e=.returned (.bool (dMay (⟨4,T,K,V,true,O,TO,M⟩:POp)))/\w.grownBy w' none:=by
 have HS:Hid (OpSeg w k v ol t (⟨4,T,K,V,true,O,TO,M⟩:POp)):=ha
 have HT:Hid (Names.tabB T=true/\Names.keyB K=true/\Names.valueB V=true/\Names.valueB O=true):=⟨hT,hk,hv,ho⟩
 obtain ⟨p1,p2,p3,p4,r1,r2,r3,r4,e1,e2,e3,e4⟩:=ha.shapes
 simp only at e1 e2 e3 e4
 subst e1 e2 e3 e4
 clear ha hT hk hv ho
 show Calls Tryz.prog 86 #[.agg #[.int .i64 4,.string ⟨T.toArray⟩,.slice p1 K.length r1,.slice p2 V.length r2,.bool true,.slice p3 O.length r3,.slice p4 TO.length r4,.int .i64 M]] w _
 have HG:Hid (OpSeg (w.alloc (.cells #[.int .i64 4,.string ⟨T.toArray⟩,.slice p1 K.length r1,.slice p2 V.length r2,.bool true,.slice p3 O.length r3,.slice p4 TO.length r4,.int .i64 M] 109)) (.slice p1 K.length r1) (.slice p2 V.length r2) (.slice p3 O.length r3) (.slice p4 TO.length r4) (⟨4,T,K,V,true,O,TO,M⟩:POp)):=HS.out.grown (World.grownBy_alloc _ _ none)
 go_enter Tryz.func86,Tryz.ntmps86
 go_wp2_with (first | (go_at_call 119;refine (Names.table10 T _ HS.out.fits.tl).mono ?_;rintro e w1 ⟨rfl,rfl⟩;rw [HT.out.1]) | (go_at_call 120;refine (Names.key12 _ K _ HG.out.key).mono ?_;rintro e w1 ⟨rfl,rfl⟩;rw [HT.out.2.1]) | (go_at_call 122;refine (Names.value14 (.slice p2 _ _) V _ HG.out.value).mono ?_;rintro e w1 ⟨rfl,rfl⟩;rw [HT.out.2.2.1]) | (go_at_call 122;refine (Names.value14 (.slice p3 _ _) O _ HG.out.old).mono ?_;rintro e w1 ⟨rfl,rfl⟩;rw [HT.out.2.2.2]) | (go_at_call 121;refine (bare118_of _ _ _ _ _ (⟨4,T,K,V,true,O,TO,M⟩:POp) _ _ _ _ rfl HG.out).mono ?_;rintro e w1 ⟨rfl,hg⟩))
 go_ret
 refine ⟨?_,by first | exact World.grownBy_alloc _ _ none | exact grown_trans (World.grownBy_alloc _ _ none) (by assumption)⟩
 refine congrArg (fun x=>Ending.returned (Value.bool x)) ?_
 simp [dMay,HT.out.1,HT.out.2.1,HT.out.2.2.1,HT.out.2.2.2, *];try rfl
theorem mayop73_4e (k v ol t:Value)(T K V TO:Bs)(M:Int)(w:World)(ha:OpSeg w k v ol t (⟨4,T,K,V,false,[],TO,M⟩:POp))(hT:Names.tabB T=true)(hk:Names.keyB K=true)(hv:Names.valueB V=true)(ho:Names.valueB []=true) :
  Calls Tryz.prog 86 #[opV k v ol t (⟨4,T,K,V,false,[],TO,M⟩:POp)] w fun e w'=>e=.returned (.bool (dMay (⟨4,T,K,V,false,[],TO,M⟩:POp)))/\w.grownBy w' none:=by
 have HS:Hid (OpSeg w k v ol t (⟨4,T,K,V,false,[],TO,M⟩:POp)):=ha
 have HT:Hid (Names.tabB T=true/\Names.keyB K=true/\Names.valueB V=true/\Names.valueB []=true):=⟨hT,hk,hv,ho⟩
 obtain ⟨p1,p2,p3,p4,r1,r2,r3,r4,e1,e2,e3,e4⟩:=ha.shapes
 simp only [List.length_nil] at e1 e2 e3 e4
 subst e1 e2 e3 e4
 clear ha hT hk hv ho
 show Calls Tryz.prog 86 #[.agg #[.int .i64 4,.string ⟨T.toArray⟩,.slice p1 K.length r1,.slice p2 V.length r2,.bool false,.slice p3 0 r3,.slice p4 TO.length r4,.int .i64 M]] w _
 have HG:Hid (OpSeg (w.alloc (.cells #[.int .i64 4,.string ⟨T.toArray⟩,.slice p1 K.length r1,.slice p2 V.length r2,.bool false,.slice p3 0 r3,.slice p4 TO.length r4,.int .i64 M] 109)) (.slice p1 K.length r1) (.slice p2 V.length r2) (.slice p3 0 r3) (.slice p4 TO.length r4) (⟨4,T,K,V,false,[],TO,M⟩:POp)):=HS.out.grown (World.grownBy_alloc _ _ none)
 go_enter Tryz.func86,Tryz.ntmps86
 go_wp2_with (first | (go_at_call 119;refine (Names.table10 T _ HS.out.fits.tl).mono ?_;rintro e w1 ⟨rfl,rfl⟩;rw [HT.out.1]) | (go_at_call 120;refine (Names.key12 _ K _ HG.out.key).mono ?_;rintro e w1 ⟨rfl,rfl⟩;rw [HT.out.2.1]) | (go_at_call 122;refine (Names.value14 (.slice p2 _ _) V _ HG.out.value).mono ?_;rintro e w1 ⟨rfl,rfl⟩;rw [HT.out.2.2.1]) | (go_at_call 122;refine (Names.value14 (.slice p3 _ _) [] _ HG.out.old).mono ?_;rintro e w1 ⟨rfl,rfl⟩;rw [HT.out.2.2.2]) | (go_at_call 121;refine (bare118_of _ _ _ _ _ (⟨4,T,K,V,false,[],TO,M⟩:POp) _ _ _ _ rfl HG.out).mono ?_;rintro e w1 ⟨rfl,hg⟩))
 go_ret
 refine ⟨?_,by first | exact World.grownBy_alloc _ _ none | exact grown_trans (World.grownBy_alloc _ _ none) (by assumption)⟩
 refine congrArg (fun x=>Ending.returned (Value.bool x)) ?_
 simp [dMay,HT.out.1,HT.out.2.1,HT.out.2.2.1,HT.out.2.2.2, *];try rfl
theorem mayop73_4f (k v ol t:Value)(T K V O TO:Bs)(M:Int)(w:World)(ha:OpSeg w k v ol t (⟨4,T,K,V,false,O,TO,M⟩:POp))(hT:Names.tabB T=true)(hk:Names.keyB K=true)(hv:Names.valueB V=true)(ho:Names.valueB O=true)(hO:O≠[]) :
  Calls Tryz.prog 86 #[opV k v ol t (⟨4,T,K,V,false,O,TO,M⟩:POp)] w fun e w'=>e=.returned (.bool (dMay (⟨4,T,K,V,false,O,TO,M⟩:POp)))/\w.grownBy w' none:=by
 have HS:Hid (OpSeg w k v ol t (⟨4,T,K,V,false,O,TO,M⟩:POp)):=ha
 have HT:Hid (Names.tabB T=true/\Names.keyB K=true/\Names.valueB V=true/\Names.valueB O=true):=⟨hT,hk,hv,ho⟩
 obtain ⟨p1,p2,p3,p4,r1,r2,r3,r4,e1,e2,e3,e4⟩:=ha.shapes
 simp only at e1 e2 e3 e4
 subst e1 e2 e3 e4
 clear ha hT hk hv ho
 show Calls Tryz.prog 86 #[.agg #[.int .i64 4,.string ⟨T.toArray⟩,.slice p1 K.length r1,.slice p2 V.length r2,.bool false,.slice p3 O.length r3,.slice p4 TO.length r4,.int .i64 M]] w _
 have HG:Hid (OpSeg (w.alloc (.cells #[.int .i64 4,.string ⟨T.toArray⟩,.slice p1 K.length r1,.slice p2 V.length r2,.bool false,.slice p3 O.length r3,.slice p4 TO.length r4,.int .i64 M] 109)) (.slice p1 K.length r1) (.slice p2 V.length r2) (.slice p3 O.length r3) (.slice p4 TO.length r4) (⟨4,T,K,V,false,O,TO,M⟩:POp)):=HS.out.grown (World.grownBy_alloc _ _ none)
 have z0:((O.length:Int)=0)=False:=eq_false (by have:=List.length_pos_iff.2 hO;omega)
 have z1:((O.length:Int)==0)=false:=by rw [beq_eq_false_iff_ne];have:=List.length_pos_iff.2 hO;omega
 go_enter Tryz.func86,Tryz.ntmps86
 go_wp2_with (first | (go_at_call 119;refine (Names.table10 T _ HS.out.fits.tl).mono ?_;rintro e w1 ⟨rfl,rfl⟩;rw [HT.out.1]) | (go_at_call 120;refine (Names.key12 _ K _ HG.out.key).mono ?_;rintro e w1 ⟨rfl,rfl⟩;rw [HT.out.2.1]) | (go_at_call 122;refine (Names.value14 (.slice p2 _ _) V _ HG.out.value).mono ?_;rintro e w1 ⟨rfl,rfl⟩;rw [HT.out.2.2.1]) | (go_at_call 122;refine (Names.value14 (.slice p3 _ _) O _ HG.out.old).mono ?_;rintro e w1 ⟨rfl,rfl⟩;rw [HT.out.2.2.2]) | (go_at_call 121;refine (bare118_of _ _ _ _ _ (⟨4,T,K,V,false,O,TO,M⟩:POp) _ _ _ _ rfl HG.out).mono ?_;rintro e w1 ⟨rfl,hg⟩))
 go_ret
 refine ⟨?_,by first | exact World.grownBy_alloc _ _ none | exact grown_trans (World.grownBy_alloc _ _ none) (by assumption)⟩
 refine congrArg (fun x=>Ending.returned (Value.bool x)) ?_
 simp [dMay,HT.out.1,HT.out.2.1,HT.out.2.2.1,HT.out.2.2.2, *];try rfl
theorem mayop73_4 (k v ol t:Value)(a:POp)(w:World)(ha:OpSeg w k v ol t a)(hT:Names.tabB a.table=true)(hK:a.kind=4) :
  Calls Tryz.prog 86 #[opV k v ol t a] w fun e w'=>e=.returned (.bool (dMay a))/\w.grownBy w' none:=by
 cases hk:Names.keyB a.key
 ·exact mayop73_4a k v ol t a w ha hT hK hk
 ·cases hv:Names.valueB a.value
  ·exact mayop73_4b k v ol t a w ha hT hK hk hv
  ·cases ho:Names.valueB a.old
   ·exact mayop73_4c k v ol t a w ha hT hK hk hv ho
   ·obtain ⟨kk,T,K,V,has,O,TO,M⟩:=a
    simp only at hT hK hk hv ho
    subst hK
    cases has
    ·by_cases hO:O=[]
     ·subst hO
      exact mayop73_4e k v ol t T K V TO M w ha hT hk hv ho
     ·exact mayop73_4f k v ol t T K V O TO M w ha hT hk hv ho hO
    ·exact mayop73_4d k v ol t T K V O TO M w ha hT hk hv ho
theorem mayop73_5 (k v ol t:Value)(a:POp)(w:World)(ha:OpSeg w k v ol t a)(hT:Names.tabB a.table=true)(hK:a.kind=5) :
  Calls Tryz.prog 86 #[opV k v ol t a] w fun e w'=>e=.returned (.bool (dMay a))/\w.grownBy w' none:=by
 have HT:Hid (Names.tabB a.table=true):=hT
 have HK:Hid (a.kind=5):=hK
 have HX:Hid (∀x k v ol t:Value,∀p q r:Bool,∀w,x=.agg #[.int .i64 5,.string ⟨a.table.toArray⟩,k,v,.bool a.has,ol,t,.int .i64 a.most]->OpSeg w k v ol t a->Calls Tryz.prog 121 #[x,.bool p,.bool q,.bool r] w fun e w'=>e=.returned (.bool (bareB a p q r))/\w.grownBy w' none):=fun x k v ol t p q r w h1 h2=>bare118_of x k v ol t a p q r w (by rw [h1,opV,hK];rfl) h2
 unfold opV Str
 rw [hK]
 have HS:Hid (OpSeg w k v ol t a):=ha
 obtain ⟨p1,p2,p3,p4,r1,r2,r3,r4,rfl,rfl,rfl,rfl⟩:=ha.shapes
 clear ha
 have HG:Hid (OpSeg (w.alloc (.cells #[.int .i64 5,.string ⟨a.table.toArray⟩,.slice p1 a.key.length r1,.slice p2 a.value.length r2,.bool a.has,.slice p3 a.old.length r3,.slice p4 a.to.length r4,.int .i64 a.most] 109)) (.slice p1 a.key.length r1) (.slice p2 a.value.length r2) (.slice p3 a.old.length r3) (.slice p4 a.to.length r4) a):=HS.out.grown (World.grownBy_alloc _ _ none)
 clear hT hK
 go_enter Tryz.func86,Tryz.ntmps86
 go_wp2_with (first | (go_at_call 119;refine (Names.table10 a.table _ HS.out.fits.tl).mono ?_;rintro e w1 ⟨rfl,rfl⟩;rw [HT.out]) | (go_at_call 120;refine (Names.key12 _ a.key _ HG.out.key).mono ?_;rintro e w1 ⟨rfl,rfl⟩) | (go_at_call 122;refine (Names.value14 _ a.value _ HG.out.value).mono ?_;rintro e w1 ⟨rfl,rfl⟩) | (go_at_call 122;refine (Names.value14 _ a.old _ HG.out.old).mono ?_;rintro e w1 ⟨rfl,rfl⟩) | (go_at_call 121;refine (HX.out _ _ _ _ _ _ _ _ _ rfl HG.out).mono ?_;rintro e w1 ⟨rfl,hg⟩))
 all_goals go_ret
 all_goals refine ⟨?_,by first | exact World.grownBy_alloc _ _ none | exact grown_trans (World.grownBy_alloc _ _ none) (by assumption)⟩
 all_goals (refine congrArg (fun x=>Ending.returned (Value.bool x)) ?_;simp [dMay,HT.out,HK.out, *];try rfl)
 all_goals (try (intros;first | omega | (exfalso;omega)))
theorem mayop73_t (k v ol t:Value)(a:POp)(w:World)(ha:OpSeg w k v ol t a)(hT:Names.tabB a.table=false) :
  Calls Tryz.prog 86 #[opV k v ol t a] w fun e w'=>e=.returned (.bool (dMay a))/\w.grownBy w' none:=by
 unfold opV Str
 have HS:Hid (OpSeg w k v ol t a):=ha
 have HT:Hid (Names.tabB a.table=false):=hT
 clear hT
 obtain ⟨p1,p2,p3,p4,r1,r2,r3,r4,rfl,rfl,rfl,rfl⟩:=ha.shapes
 clear ha
 go_enter Tryz.func86,Tryz.ntmps86
 go_wp2_with (go_at_call 119;refine (Names.table10 a.table _ HS.out.fits.tl).mono ?_;rintro e w1 ⟨rfl,rfl⟩;rw [HT.out])
 go_ret
 refine ⟨?_,World.grownBy_alloc _ _ none⟩
 refine congrArg (fun x=>Ending.returned (Value.bool x)) ?_
 simp [dMay,HT.out]
theorem mayop73_n (k v ol t:Value)(a:POp)(w:World)(ha:OpSeg w k v ol t a)(hT:Names.tabB a.table=true)(hK:a.kind<1\/5<a.kind) :
  Calls Tryz.prog 86 #[opV k v ol t a] w fun e w'=>e=.returned (.bool (dMay a))/\w.grownBy w' none:=by
 unfold opV Str
 have HS:Hid (OpSeg w k v ol t a):=ha
 have HT:Hid (Names.tabB a.table=true):=hT
 have k1:(a.kind=1)=False:=eq_false (by omega)
 have k2:(a.kind=2)=False:=eq_false (by omega)
 have k3:(a.kind=3)=False:=eq_false (by omega)
 have k4:(a.kind=4)=False:=eq_false (by omega)
 have k5:(a.kind=5)=False:=eq_false (by omega)
 have j1:(a.kind==1)=false:=by rw [beq_eq_false_iff_ne];omega
 have j2:(a.kind==2)=false:=by rw [beq_eq_false_iff_ne];omega
 have j3:(a.kind==3)=false:=by rw [beq_eq_false_iff_ne];omega
 have j4:(a.kind==4)=false:=by rw [beq_eq_false_iff_ne];omega
 have j5:(a.kind==5)=false:=by rw [beq_eq_false_iff_ne];omega
 clear hT hK
 obtain ⟨p1,p2,p3,p4,r1,r2,r3,r4,rfl,rfl,rfl,rfl⟩:=ha.shapes
 clear ha
 go_enter Tryz.func86,Tryz.ntmps86
 go_wp2_with (go_at_call 119;refine (Names.table10 a.table _ HS.out.fits.tl).mono ?_;rintro e w1 ⟨rfl,rfl⟩;rw [HT.out])
 go_ret
 refine ⟨?_,World.grownBy_alloc _ _ none⟩
 refine congrArg (fun x=>Ending.returned (Value.bool x)) ?_
 simp [dMay,HT.out,k1,k2,k3,k4,k5]
theorem mayop73 (k v ol t:Value)(a:POp)(w:World)(ha:OpSeg w k v ol t a) :
  Calls Tryz.prog 86 #[opV k v ol t a] w fun e w'=>e=.returned (.bool (mayOp a))/\w.grownBy w' none:=by
 rw [<-dMay_eq]
 cases hT:Names.tabB a.table
 ·exact mayop73_t k v ol t a w ha hT
 ·by_cases hn:a.kind<1\/5<a.kind
  ·exact mayop73_n k v ol t a w ha hT hn
  ·have:a.kind=1\/a.kind=2\/a.kind=3\/a.kind=4\/a.kind=5:=by omega
   rcases this with h | h | h | h | h
   ·exact mayop73_1 k v ol t a w ha hT h
   ·exact mayop73_2 k v ol t a w ha hT h
   ·exact mayop73_3 k v ol t a w ha hT h
   ·exact mayop73_4 k v ol t a w ha hT h
   ·exact mayop73_5 k v ol t a w ha hT h
theorem mayop73_of (x k v ol t:Value)(a:POp)(w:World)(hx:x=opV k v ol t a)(ha:OpSeg w k v ol t a):Calls Tryz.prog 86 #[x] w fun e w'=>e=.returned (.bool (mayOp a))/\w.grownBy w' none:=by subst hx;exact mayop73 k v ol t a w ha
theorem may37 (a:Value)(l:List POp)(w:World)(ha:Ops w a l):Calls Tryz.prog 59 #[.agg #[a]] w fun e w'=>e=.returned (.bool (mayCall l))/\w.grownBy w' none:=by
 obtain ⟨ao,n,ca,rfl,hna,la,HA⟩:=ops_open ha
 have HN:Hid (l.length=n):=hna
 clear ha hna
 by_cases hb:n<1\/16<n
 ·have HM:Hid (mayCall l=false):=by
   unfold Hid mayCall
   rw [HN.out]
   rcases hb with h | h
   ·rw [show decide (1<=n)=false from decide_eq_false (by omega)];rfl
   ·rw [show decide (n<=16)=false from decide_eq_false (by omega)];simp
  rw [HM.out]
  rcases hb with h | h
  ·have i1:(n:Int)<1:=by omega
   go_enter Tryz.func59,Tryz.ntmps59
   go_wp2_with fail
   go_ret
   exact ⟨rfl,World.grownBy_alloc _ _ none⟩
  ·have i1:((n:Int)<1)=False:=eq_false (by omega)
   have i2:(16:Int)<(n:Int):=by omega
   go_enter Tryz.func59,Tryz.ntmps59
   go_wp2_with fail
   go_ret
   exact ⟨rfl,World.grownBy_alloc _ _ none⟩
 ·have i1:((n:Int)<1)=False:=eq_false (by omega)
  have i2:((16:Int)<(n:Int))=False:=eq_false (by omega)
  have n1:1<=n:=by omega
  have n2:n<=16:=by omega
  have HM:Hid (mayCall l=l.all mayOp):=by
   unfold Hid mayCall
   rw [HN.out,decide_eq_true n1,decide_eq_true n2];rfl
  rw [HM.out]
  go_enter Tryz.func59,Tryz.ntmps59
  go_wp2_with fail
  go_loopw [3] (fun i wr=>∃k:Nat,k<=n/\i=.int .i64 k/\Hid ((l.take k).all mayOp=true)/\Hid (Blk wr w.heap.size 35 #[.slice ao n ca]/\w.grownBy wr none)) (fun i _=>n-(intOf i).toNat)
  case atStart=>exact ⟨0,by omega,rfl,by unfold Hid;simp,heap_alloc_new w _,World.grownBy_alloc _ _ none⟩
  case round =>
   obtain ⟨k,hk,rfl,HT,HR⟩:=hrel
   have c0:=HR.out.1.cell 0
   by_cases hlt:k<n
   ·have i3:(k:Int)<(n:Int):=by omega
    have i0:(0:Int)<=(k:Int):=by omega
    have hkl:k<l.length:=by rw [HN.out];omega
    obtain ⟨b1,o1,k1,x1,ol1,t1,rfl,h1,s1⟩:=ops_at (HA.out.grown HR.out.2) k hkl
    have HQ:Hid ((l.take (k+1)).all mayOp=((l.take k).all mayOp && mayOp l[k])):=all_take mayOp l k hkl
    have HF:Hid (mayOp l[k]=false->l.all mayOp=false):=all_false mayOp l k hkl
    obtain ⟨o,ho⟩:∃o,l[k]=o:=⟨_,rfl⟩
    rw [ho] at h1 s1 HQ HF
    clear ho hkl
    obtain ⟨p1,p2,p3,p4,r1,r2,r3,r4,rfl,rfl,rfl,rfl⟩:=s1.shapes
    have HS:Hid (OpSeg wr (.slice p1 o.key.length r1) (.slice p2 o.value.length r2) (.slice p3 o.old.length r3) (.slice p4 o.to.length r4) o):=s1
    clear s1
    obtain ⟨a0,a1,a2,a3,a4,a5,a6,a7⟩:=h1
    unfold Str at a1
    go_wp2_with (go_at_call 86;refine (mayop73_of _ _ _ _ _ o _ rfl HS.out).mono ?_)
    rintro e w2 ⟨rfl,hg2⟩
    clear c0 a0 a1 a2 a3 a4 a5 a6 a7
    have HR2:Hid (Blk w2 w.heap.size 35 #[.slice (some ⟨b1,o1,none⟩) n ca]/\w.grownBy w2 none):=⟨HR.out.1.grown hg2 (by simp),grown_trans HR.out.2 hg2⟩
    clear hg2 HR
    cases hm:mayOp o
    ·have HZ:Hid (l.all mayOp=false):=HF.out hm
     clear hm
     go_wp2_with fail
     go_ret
     exact ⟨by rw [HZ.out];rfl,HR2.out.2⟩
    ·have HZ:Hid ((l.take (k+1)).all mayOp=true):=by unfold Hid;rw [HQ.out,HT.out,hm];rfl
     clear hm
     go_wp2_with fail
     go_roundw
     case rel=>exact ⟨k+1,by omega,by go_num,HZ,HR2⟩
     case measure=>simp [intOf];omega
   ·have i3:((k:Int)<(n:Int))=False:=eq_false (by omega)
    have HZ:Hid (l.all mayOp=true):=by
     have h:=HT.out
     rw [List.take_of_length_le (by rw [HN.out];omega)] at h
     exact h
    go_wp2_with fail
    go_ret
    exact ⟨by rw [HZ.out];rfl,HR.out.2⟩
def FormIs (F:Bs)(w:World)(e:Ending)(w':World):Prop:=∃u,e=.returned u/\Own w' w.heap.size u F/\w.grownBy w' none
theorem formIs_wire {F:Bs}{w w':World}{e:Ending}(h:Wire.FormPost F w e w'):FormIs F w e w':=h
theorem dNum (x:Int)(n:Nat)(hx:x=n)(hn:n<2 ^ 64)(w:World):Calls Tryz.prog 87 #[.int .u64 x] w (FormIs (Wire.numForm n) w):=(Wire.number12_int x n hx hn w).mono fun _ _ h=>formIs_wire h
theorem dBytes (v:Value)(L:Bs)(w:World)(hs:Seg w v L)(hl:L.length<=100000):Calls Tryz.prog 123 #[v] w (FormIs (bytesForm L) w):=(Wire.bytes11 v L w hs (by omega)).mono fun _ _ h=>formIs_wire h
theorem dFlag (is:Bool)(w:World):Calls Tryz.prog 124 #[.bool is] w (FormIs (flagForm is) w):=(Wire.flag16 is w).mono fun _ _ h=>formIs_wire h
theorem num_short (n:Nat)(h:n<2 ^ 64):(Wire.numForm n).length<=10:=Wire.numForm_len10 n h
theorem form45_1 (k v ol t:Value)(a:POp)(w:World)(ha:OpSeg w k v ol t a)(hk:a.kind=1)(hm:mayOp a=true):Calls Tryz.prog 88 #[opV k v ol t a] w (FormIs (opForm a) w):=by
 have hM:=may_of hm
 have HM:Hid (May a):=hM
 have HF:Hid (opForm a=Wire.numForm 1 ++ bytesForm a.table ++ bytesForm a.key):=by
  unfold Hid opForm frontForm tailForm
  rw [hk]
  simp
 unfold opV Str
 have HA:Hid (OpSeg w k v ol t a):=ha
 obtain ⟨p1,p2,p3,p4,r1,r2,r3,r4,rfl,rfl,rfl,rfl⟩:=ha.shapes
 obtain ⟨ms,hms⟩:∃n,a.most=n:=⟨_,rfl⟩
 skip
 have HMS:Hid (a.most=ms):=hms
 rw [hk,hms]
 clear HMS
 obtain ⟨F,hF⟩:∃F,opForm a=F:=⟨_,rfl⟩
 rw [hF] at HF ⊢
 clear ha hm hms hk hM hF
 have L1:Hid (a.table.length<=16/\a.key.length<=64/\a.value.length<=256/\a.old.length<=256/\a.to.length<=64):=⟨tab_len HM.out.tab,HM.out.key,HM.out.value,HM.out.old,HM.out.to⟩
 have L2:Hid ((bytesForm a.table).length<=266/\(bytesForm a.key).length<=266/\(bytesForm a.value).length<=266/\(bytesForm a.old).length<=266/\(bytesForm a.to).length<=266/\(flagForm a.has).length<=1):=⟨bytesForm_len _ (by have:=L1.out.1;omega),bytesForm_len _ (by have:=L1.out.2.1;omega),bytesForm_len _ L1.out.2.2.1,bytesForm_len _ L1.out.2.2.2.1,bytesForm_len _ (by have:=L1.out.2.2.2.2;omega),by unfold flagForm;split <;> simp⟩
 have cb:=conv_bytes
 go_enter Tryz.func88,Tryz.ntmps88
 go_upto_region 1 with fail
 have HC:Hid (∀x:World,(w.alloc (.cells #[.int .i64 1,.string ⟨a.table.toArray⟩,.slice p1 a.key.length r1,.slice p2 a.value.length r2,.bool a.has,.slice p3 a.old.length r3,.slice p4 a.to.length r4,.int .i64 ms] 109)).grownBy x none->x.cell? ⟨w.heap.size,0,none⟩=some (.int .i64 1)/\x.cell? ⟨w.heap.size,1,none⟩=some (.string ⟨a.table.toArray⟩)/\x.cell? ⟨w.heap.size,2,none⟩=some (.slice p1 a.key.length r1)/\x.cell? ⟨w.heap.size,3,none⟩=some (.slice p2 a.value.length r2)/\x.cell? ⟨w.heap.size,4,none⟩=some (.bool a.has)/\x.cell? ⟨w.heap.size,5,none⟩=some (.slice p3 a.old.length r3)/\x.cell? ⟨w.heap.size,6,none⟩=some (.slice p4 a.to.length r4)/\x.cell? ⟨w.heap.size,7,none⟩=some (.int .i64 ms)):=by
  intro x hx
  have hb:=heap_alloc_new w (.cells #[.int .i64 1,.string ⟨a.table.toArray⟩,.slice p1 a.key.length r1,.slice p2 a.value.length r2,.bool a.has,.slice p3 a.old.length r3,.slice p4 a.to.length r4,.int .i64 ms] 109)
  refine ⟨grown_fun hx ?_,grown_fun hx ?_,grown_fun hx ?_,grown_fun hx ?_,grown_fun hx ?_,grown_fun hx ?_,grown_fun hx ?_,grown_fun hx ?_⟩ <;> (rw [cell_of_row _ _ _ _ _ _ hb];rfl)
 have HG0:Hid (w.grownBy (w.alloc (.cells #[.int .i64 1,.string ⟨a.table.toArray⟩,.slice p1 a.key.length r1,.slice p2 a.value.length r2,.bool a.has,.slice p3 a.old.length r3,.slice p4 a.to.length r4,.int .i64 ms] 109)) none):=World.grownBy_alloc _ _ none
 generalize (w.alloc (.cells #[.int .i64 1,.string ⟨a.table.toArray⟩,.slice p1 a.key.length r1,.slice p2 a.value.length r2,.bool a.has,.slice p3 a.old.length r3,.slice p4 a.to.length r4,.int .i64 ms] 109))=W0 at HC HG0 ⊢
 obtain ⟨m0,m1,m2,m3,m4,m5,m6,m7⟩:=HC.out W0 (grown_refl _ _)
 go_wp2_with (go_at_call 87;refine (dNum _ 1 rfl (by decide) _).mono ?_)
 rintro e w1 ⟨u1,rfl,o1,g1⟩
 obtain ⟨f1,q1,e1⟩:=o1.seg.shape
 obtain ⟨n1,hn1⟩:∃n,(Wire.numForm 1).length=n:=⟨_,rfl⟩
 rw [hn1] at e1
 subst e1
 obtain ⟨A1,hA1⟩:∃A,Wire.numForm 1=A:=⟨_,rfl⟩
 have E1:Hid (Wire.numForm 1=A1):=hA1
 have T1:Hid (Own w1 W0.heap.size (.slice f1 n1 q1) A1/\W0.grownBy w1 none/\A1.length<=10):=by rw [<-hA1];exact ⟨o1,g1,num_short _ (by decide)⟩
 clear o1 g1 hn1 hA1 m0 m1 m2 m3 m4 m5 m6 m7
 obtain ⟨m0,m1,m2,m3,m4,m5,m6,m7⟩:=HC.out w1 T1.out.2.1
 have X1:Hid (Seg (Lib.bytesWorld w1 5 ⟨a.table.toArray⟩) (.slice (some ⟨w1.heap.size,0,none⟩) a.table.length (grownCap w1 a.table.length 0 5)) a.table/\w1.grownBy (Lib.bytesWorld w1 5 ⟨a.table.toArray⟩) none):=⟨bytes_seg w1 a.table HA.out.fits.tl,bytes_grown _ _⟩
 go_wp2_with (go_at_call 123;refine (dBytes _ a.table _ X1.out.1 (by have:=L1.out.1;omega)).mono ?_)
 rintro e w6 ⟨v2,rfl,oo,gg⟩
 have Y2:Hid (Seg w6 v2 (bytesForm a.table)/\w1.grownBy w6 none):=⟨oo.seg,grown_trans X1.out.2 gg⟩
 clear oo gg X1
 go_wp2_with (at_builtin;refine app22 _ rfl _ _ rfl W0.heap.size (.slice f1 n1 q1) (A1) _ (bytesForm a.table) rfl rfl (T1.out.1.grown Y2.out.2) Y2.out.1 ?c0 ?c1 ?_)
 case c0=>have h1:=T1.out.2.2;have h2:=L2.out.1;omega
 case c1=>have h1:=(grown_trans T1.out.2.1 Y2.out.2).size;omega
 intro x2 w7 oo gg _
 obtain ⟨f2,q2,e2⟩:=oo.seg.shape
 obtain ⟨n2,hn2⟩:∃n,(A1 ++ bytesForm a.table).length=n:=⟨_,rfl⟩
 rw [hn2] at e2
 subst e2
 obtain ⟨A2,hA2⟩:∃A,A1 ++ bytesForm a.table=A:=⟨_,rfl⟩
 have E2:Hid (A1 ++ bytesForm a.table=A2):=hA2
 have T2:Hid (Own w7 W0.heap.size (.slice f2 n2 q2) A2/\W0.grownBy w7 none/\A2.length<=276):=by rw [<-hA2];exact ⟨oo,grown_new (grown_trans T1.out.2.1 Y2.out.2) gg (fun x hx=>(T1.out.1.lt x hx).1),by have h1:=T1.out.2.2;have h2:=L2.out.1;rw [List.length_append];omega⟩
 clear oo gg hn2 hA2 Y2 m0 m1 m2 m3 m4 m5 m6 m7 T1
 obtain ⟨m0,m1,m2,m3,m4,m5,m6,m7⟩:=HC.out w7 T2.out.2.1
 go_wp2_with (go_at_call 123;refine (dBytes _ a.key _ (HA.out.key.grown (grown_trans HG0.out T2.out.2.1)) (by have:=L1.out.2.1;omega)).mono ?_)
 rintro e w9 ⟨v3,rfl,oo,gg⟩
 have Y3:Hid (Seg w9 v3 (bytesForm a.key)/\w7.grownBy w9 none):=⟨oo.seg,gg⟩
 clear oo gg
 go_wp2_with (at_builtin;refine app22 _ rfl _ _ rfl W0.heap.size (.slice f2 n2 q2) (A2) _ (bytesForm a.key) rfl rfl (T2.out.1.grown Y3.out.2) Y3.out.1 ?c0 ?c1 ?_)
 case c0=>have h1:=T2.out.2.2;have h2:=L2.out.2.1;omega
 case c1=>have h1:=(grown_trans T2.out.2.1 Y3.out.2).size;omega
 intro x3 w10 oo gg _
 obtain ⟨f3,q3,e3⟩:=oo.seg.shape
 obtain ⟨n3,hn3⟩:∃n,(A2 ++ bytesForm a.key).length=n:=⟨_,rfl⟩
 rw [hn3] at e3
 subst e3
 obtain ⟨A3,hA3⟩:∃A,A2 ++ bytesForm a.key=A:=⟨_,rfl⟩
 have E3:Hid (A2 ++ bytesForm a.key=A3):=hA3
 have T3:Hid (Own w10 W0.heap.size (.slice f3 n3 q3) A3/\W0.grownBy w10 none/\A3.length<=542):=by rw [<-hA3];exact ⟨oo,grown_new (grown_trans T2.out.2.1 Y3.out.2) gg (fun x hx=>(T2.out.1.lt x hx).1),by have h1:=T2.out.2.2;have h2:=L2.out.2.1;rw [List.length_append];omega⟩
 clear oo gg hn3 hA3 Y3 m0 m1 m2 m3 m4 m5 m6 m7 T2
 obtain ⟨m0,m1,m2,m3,m4,m5,m6,m7⟩:=HC.out w10 T3.out.2.1
 go_wp2_with fail
 go_ret
 exact ⟨_,rfl,by rw [HF.out,E1.out,E2.out,E3.out];exact T3.out.1.mono HG0.out.size,grown_trans HG0.out T3.out.2.1⟩
theorem form45_3 (k v ol t:Value)(a:POp)(w:World)(ha:OpSeg w k v ol t a)(hk:a.kind=3)(hm:mayOp a=true):Calls Tryz.prog 88 #[opV k v ol t a] w (FormIs (opForm a) w):=by
 have hM:=may_of hm
 have HM:Hid (May a):=hM
 have HF:Hid (opForm a=Wire.numForm 3 ++ bytesForm a.table ++ bytesForm a.key):=by
  unfold Hid opForm frontForm tailForm
  rw [hk]
  simp
 unfold opV Str
 have HA:Hid (OpSeg w k v ol t a):=ha
 obtain ⟨p1,p2,p3,p4,r1,r2,r3,r4,rfl,rfl,rfl,rfl⟩:=ha.shapes
 obtain ⟨ms,hms⟩:∃n,a.most=n:=⟨_,rfl⟩
 skip
 have HMS:Hid (a.most=ms):=hms
 rw [hk,hms]
 clear HMS
 obtain ⟨F,hF⟩:∃F,opForm a=F:=⟨_,rfl⟩
 rw [hF] at HF ⊢
 clear ha hm hms hk hM hF
 have L1:Hid (a.table.length<=16/\a.key.length<=64/\a.value.length<=256/\a.old.length<=256/\a.to.length<=64):=⟨tab_len HM.out.tab,HM.out.key,HM.out.value,HM.out.old,HM.out.to⟩
 have L2:Hid ((bytesForm a.table).length<=266/\(bytesForm a.key).length<=266/\(bytesForm a.value).length<=266/\(bytesForm a.old).length<=266/\(bytesForm a.to).length<=266/\(flagForm a.has).length<=1):=⟨bytesForm_len _ (by have:=L1.out.1;omega),bytesForm_len _ (by have:=L1.out.2.1;omega),bytesForm_len _ L1.out.2.2.1,bytesForm_len _ L1.out.2.2.2.1,bytesForm_len _ (by have:=L1.out.2.2.2.2;omega),by unfold flagForm;split <;> simp⟩
 have cb:=conv_bytes
 go_enter Tryz.func88,Tryz.ntmps88
 go_upto_region 1 with fail
 have HC:Hid (∀x:World,(w.alloc (.cells #[.int .i64 3,.string ⟨a.table.toArray⟩,.slice p1 a.key.length r1,.slice p2 a.value.length r2,.bool a.has,.slice p3 a.old.length r3,.slice p4 a.to.length r4,.int .i64 ms] 109)).grownBy x none->x.cell? ⟨w.heap.size,0,none⟩=some (.int .i64 3)/\x.cell? ⟨w.heap.size,1,none⟩=some (.string ⟨a.table.toArray⟩)/\x.cell? ⟨w.heap.size,2,none⟩=some (.slice p1 a.key.length r1)/\x.cell? ⟨w.heap.size,3,none⟩=some (.slice p2 a.value.length r2)/\x.cell? ⟨w.heap.size,4,none⟩=some (.bool a.has)/\x.cell? ⟨w.heap.size,5,none⟩=some (.slice p3 a.old.length r3)/\x.cell? ⟨w.heap.size,6,none⟩=some (.slice p4 a.to.length r4)/\x.cell? ⟨w.heap.size,7,none⟩=some (.int .i64 ms)):=by
  intro x hx
  have hb:=heap_alloc_new w (.cells #[.int .i64 3,.string ⟨a.table.toArray⟩,.slice p1 a.key.length r1,.slice p2 a.value.length r2,.bool a.has,.slice p3 a.old.length r3,.slice p4 a.to.length r4,.int .i64 ms] 109)
  refine ⟨grown_fun hx ?_,grown_fun hx ?_,grown_fun hx ?_,grown_fun hx ?_,grown_fun hx ?_,grown_fun hx ?_,grown_fun hx ?_,grown_fun hx ?_⟩ <;> (rw [cell_of_row _ _ _ _ _ _ hb];rfl)
 have HG0:Hid (w.grownBy (w.alloc (.cells #[.int .i64 3,.string ⟨a.table.toArray⟩,.slice p1 a.key.length r1,.slice p2 a.value.length r2,.bool a.has,.slice p3 a.old.length r3,.slice p4 a.to.length r4,.int .i64 ms] 109)) none):=World.grownBy_alloc _ _ none
 generalize (w.alloc (.cells #[.int .i64 3,.string ⟨a.table.toArray⟩,.slice p1 a.key.length r1,.slice p2 a.value.length r2,.bool a.has,.slice p3 a.old.length r3,.slice p4 a.to.length r4,.int .i64 ms] 109))=W0 at HC HG0 ⊢
 obtain ⟨m0,m1,m2,m3,m4,m5,m6,m7⟩:=HC.out W0 (grown_refl _ _)
 go_wp2_with (go_at_call 87;refine (dNum _ 3 rfl (by decide) _).mono ?_)
 rintro e w1 ⟨u1,rfl,o1,g1⟩
 obtain ⟨f1,q1,e1⟩:=o1.seg.shape
 obtain ⟨n1,hn1⟩:∃n,(Wire.numForm 3).length=n:=⟨_,rfl⟩
 rw [hn1] at e1
 subst e1
 obtain ⟨A1,hA1⟩:∃A,Wire.numForm 3=A:=⟨_,rfl⟩
 have E1:Hid (Wire.numForm 3=A1):=hA1
 have T1:Hid (Own w1 W0.heap.size (.slice f1 n1 q1) A1/\W0.grownBy w1 none/\A1.length<=10):=by rw [<-hA1];exact ⟨o1,g1,num_short _ (by decide)⟩
 clear o1 g1 hn1 hA1 m0 m1 m2 m3 m4 m5 m6 m7
 obtain ⟨m0,m1,m2,m3,m4,m5,m6,m7⟩:=HC.out w1 T1.out.2.1
 have X1:Hid (Seg (Lib.bytesWorld w1 5 ⟨a.table.toArray⟩) (.slice (some ⟨w1.heap.size,0,none⟩) a.table.length (grownCap w1 a.table.length 0 5)) a.table/\w1.grownBy (Lib.bytesWorld w1 5 ⟨a.table.toArray⟩) none):=⟨bytes_seg w1 a.table HA.out.fits.tl,bytes_grown _ _⟩
 go_wp2_with (go_at_call 123;refine (dBytes _ a.table _ X1.out.1 (by have:=L1.out.1;omega)).mono ?_)
 rintro e w6 ⟨v2,rfl,oo,gg⟩
 have Y2:Hid (Seg w6 v2 (bytesForm a.table)/\w1.grownBy w6 none):=⟨oo.seg,grown_trans X1.out.2 gg⟩
 clear oo gg X1
 go_wp2_with (at_builtin;refine app22 _ rfl _ _ rfl W0.heap.size (.slice f1 n1 q1) (A1) _ (bytesForm a.table) rfl rfl (T1.out.1.grown Y2.out.2) Y2.out.1 ?c0 ?c1 ?_)
 case c0=>have h1:=T1.out.2.2;have h2:=L2.out.1;omega
 case c1=>have h1:=(grown_trans T1.out.2.1 Y2.out.2).size;omega
 intro x2 w7 oo gg _
 obtain ⟨f2,q2,e2⟩:=oo.seg.shape
 obtain ⟨n2,hn2⟩:∃n,(A1 ++ bytesForm a.table).length=n:=⟨_,rfl⟩
 rw [hn2] at e2
 subst e2
 obtain ⟨A2,hA2⟩:∃A,A1 ++ bytesForm a.table=A:=⟨_,rfl⟩
 have E2:Hid (A1 ++ bytesForm a.table=A2):=hA2
 have T2:Hid (Own w7 W0.heap.size (.slice f2 n2 q2) A2/\W0.grownBy w7 none/\A2.length<=276):=by rw [<-hA2];exact ⟨oo,grown_new (grown_trans T1.out.2.1 Y2.out.2) gg (fun x hx=>(T1.out.1.lt x hx).1),by have h1:=T1.out.2.2;have h2:=L2.out.1;rw [List.length_append];omega⟩
 clear oo gg hn2 hA2 Y2 m0 m1 m2 m3 m4 m5 m6 m7 T1
 obtain ⟨m0,m1,m2,m3,m4,m5,m6,m7⟩:=HC.out w7 T2.out.2.1
 go_wp2_with (go_at_call 123;refine (dBytes _ a.key _ (HA.out.key.grown (grown_trans HG0.out T2.out.2.1)) (by have:=L1.out.2.1;omega)).mono ?_)
 rintro e w9 ⟨v3,rfl,oo,gg⟩
 have Y3:Hid (Seg w9 v3 (bytesForm a.key)/\w7.grownBy w9 none):=⟨oo.seg,gg⟩
 clear oo gg
 go_wp2_with (at_builtin;refine app22 _ rfl _ _ rfl W0.heap.size (.slice f2 n2 q2) (A2) _ (bytesForm a.key) rfl rfl (T2.out.1.grown Y3.out.2) Y3.out.1 ?c0 ?c1 ?_)
 case c0=>have h1:=T2.out.2.2;have h2:=L2.out.2.1;omega
 case c1=>have h1:=(grown_trans T2.out.2.1 Y3.out.2).size;omega
 intro x3 w10 oo gg _
 obtain ⟨f3,q3,e3⟩:=oo.seg.shape
 obtain ⟨n3,hn3⟩:∃n,(A2 ++ bytesForm a.key).length=n:=⟨_,rfl⟩
 rw [hn3] at e3
 subst e3
 obtain ⟨A3,hA3⟩:∃A,A2 ++ bytesForm a.key=A:=⟨_,rfl⟩
 have E3:Hid (A2 ++ bytesForm a.key=A3):=hA3
 have T3:Hid (Own w10 W0.heap.size (.slice f3 n3 q3) A3/\W0.grownBy w10 none/\A3.length<=542):=by rw [<-hA3];exact ⟨oo,grown_new (grown_trans T2.out.2.1 Y3.out.2) gg (fun x hx=>(T2.out.1.lt x hx).1),by have h1:=T2.out.2.2;have h2:=L2.out.2.1;rw [List.length_append];omega⟩
 clear oo gg hn3 hA3 Y3 m0 m1 m2 m3 m4 m5 m6 m7 T2
 obtain ⟨m0,m1,m2,m3,m4,m5,m6,m7⟩:=HC.out w10 T3.out.2.1
 go_wp2_with fail
 go_ret
 exact ⟨_,rfl,by rw [HF.out,E1.out,E2.out,E3.out];exact T3.out.1.mono HG0.out.size,grown_trans HG0.out T3.out.2.1⟩
theorem form45_2 (k v ol t:Value)(a:POp)(w:World)(ha:OpSeg w k v ol t a)(hk:a.kind=2)(hm:mayOp a=true):Calls Tryz.prog 88 #[opV k v ol t a] w (FormIs (opForm a) w):=by
 have hM:=may_of hm
 have HM:Hid (May a):=hM
 have HF:Hid (opForm a=Wire.numForm 2 ++ bytesForm a.table ++ bytesForm a.key ++ bytesForm a.value):=by
  unfold Hid opForm frontForm tailForm
  rw [hk]
  simp
 unfold opV Str
 have HA:Hid (OpSeg w k v ol t a):=ha
 obtain ⟨p1,p2,p3,p4,r1,r2,r3,r4,rfl,rfl,rfl,rfl⟩:=ha.shapes
 obtain ⟨ms,hms⟩:∃n,a.most=n:=⟨_,rfl⟩
 skip
 have HMS:Hid (a.most=ms):=hms
 rw [hk,hms]
 clear HMS
 obtain ⟨F,hF⟩:∃F,opForm a=F:=⟨_,rfl⟩
 rw [hF] at HF ⊢
 clear ha hm hms hk hM hF
 have L1:Hid (a.table.length<=16/\a.key.length<=64/\a.value.length<=256/\a.old.length<=256/\a.to.length<=64):=⟨tab_len HM.out.tab,HM.out.key,HM.out.value,HM.out.old,HM.out.to⟩
 have L2:Hid ((bytesForm a.table).length<=266/\(bytesForm a.key).length<=266/\(bytesForm a.value).length<=266/\(bytesForm a.old).length<=266/\(bytesForm a.to).length<=266/\(flagForm a.has).length<=1):=⟨bytesForm_len _ (by have:=L1.out.1;omega),bytesForm_len _ (by have:=L1.out.2.1;omega),bytesForm_len _ L1.out.2.2.1,bytesForm_len _ L1.out.2.2.2.1,bytesForm_len _ (by have:=L1.out.2.2.2.2;omega),by unfold flagForm;split <;> simp⟩
 have cb:=conv_bytes
 go_enter Tryz.func88,Tryz.ntmps88
 go_upto_region 1 with fail
 have HC:Hid (∀x:World,(w.alloc (.cells #[.int .i64 2,.string ⟨a.table.toArray⟩,.slice p1 a.key.length r1,.slice p2 a.value.length r2,.bool a.has,.slice p3 a.old.length r3,.slice p4 a.to.length r4,.int .i64 ms] 109)).grownBy x none->x.cell? ⟨w.heap.size,0,none⟩=some (.int .i64 2)/\x.cell? ⟨w.heap.size,1,none⟩=some (.string ⟨a.table.toArray⟩)/\x.cell? ⟨w.heap.size,2,none⟩=some (.slice p1 a.key.length r1)/\x.cell? ⟨w.heap.size,3,none⟩=some (.slice p2 a.value.length r2)/\x.cell? ⟨w.heap.size,4,none⟩=some (.bool a.has)/\x.cell? ⟨w.heap.size,5,none⟩=some (.slice p3 a.old.length r3)/\x.cell? ⟨w.heap.size,6,none⟩=some (.slice p4 a.to.length r4)/\x.cell? ⟨w.heap.size,7,none⟩=some (.int .i64 ms)):=by
  intro x hx
  have hb:=heap_alloc_new w (.cells #[.int .i64 2,.string ⟨a.table.toArray⟩,.slice p1 a.key.length r1,.slice p2 a.value.length r2,.bool a.has,.slice p3 a.old.length r3,.slice p4 a.to.length r4,.int .i64 ms] 109)
  refine ⟨grown_fun hx ?_,grown_fun hx ?_,grown_fun hx ?_,grown_fun hx ?_,grown_fun hx ?_,grown_fun hx ?_,grown_fun hx ?_,grown_fun hx ?_⟩ <;> (rw [cell_of_row _ _ _ _ _ _ hb];rfl)
 have HG0:Hid (w.grownBy (w.alloc (.cells #[.int .i64 2,.string ⟨a.table.toArray⟩,.slice p1 a.key.length r1,.slice p2 a.value.length r2,.bool a.has,.slice p3 a.old.length r3,.slice p4 a.to.length r4,.int .i64 ms] 109)) none):=World.grownBy_alloc _ _ none
 generalize (w.alloc (.cells #[.int .i64 2,.string ⟨a.table.toArray⟩,.slice p1 a.key.length r1,.slice p2 a.value.length r2,.bool a.has,.slice p3 a.old.length r3,.slice p4 a.to.length r4,.int .i64 ms] 109))=W0 at HC HG0 ⊢
 obtain ⟨m0,m1,m2,m3,m4,m5,m6,m7⟩:=HC.out W0 (grown_refl _ _)
 go_wp2_with (go_at_call 87;refine (dNum _ 2 rfl (by decide) _).mono ?_)
 rintro e w1 ⟨u1,rfl,o1,g1⟩
 obtain ⟨f1,q1,e1⟩:=o1.seg.shape
 obtain ⟨n1,hn1⟩:∃n,(Wire.numForm 2).length=n:=⟨_,rfl⟩
 rw [hn1] at e1
 subst e1
 obtain ⟨A1,hA1⟩:∃A,Wire.numForm 2=A:=⟨_,rfl⟩
 have E1:Hid (Wire.numForm 2=A1):=hA1
 have T1:Hid (Own w1 W0.heap.size (.slice f1 n1 q1) A1/\W0.grownBy w1 none/\A1.length<=10):=by rw [<-hA1];exact ⟨o1,g1,num_short _ (by decide)⟩
 clear o1 g1 hn1 hA1 m0 m1 m2 m3 m4 m5 m6 m7
 obtain ⟨m0,m1,m2,m3,m4,m5,m6,m7⟩:=HC.out w1 T1.out.2.1
 have X1:Hid (Seg (Lib.bytesWorld w1 5 ⟨a.table.toArray⟩) (.slice (some ⟨w1.heap.size,0,none⟩) a.table.length (grownCap w1 a.table.length 0 5)) a.table/\w1.grownBy (Lib.bytesWorld w1 5 ⟨a.table.toArray⟩) none):=⟨bytes_seg w1 a.table HA.out.fits.tl,bytes_grown _ _⟩
 go_wp2_with (go_at_call 123;refine (dBytes _ a.table _ X1.out.1 (by have:=L1.out.1;omega)).mono ?_)
 rintro e w6 ⟨v2,rfl,oo,gg⟩
 have Y2:Hid (Seg w6 v2 (bytesForm a.table)/\w1.grownBy w6 none):=⟨oo.seg,grown_trans X1.out.2 gg⟩
 clear oo gg X1
 go_wp2_with (at_builtin;refine app22 _ rfl _ _ rfl W0.heap.size (.slice f1 n1 q1) (A1) _ (bytesForm a.table) rfl rfl (T1.out.1.grown Y2.out.2) Y2.out.1 ?c0 ?c1 ?_)
 case c0=>have h1:=T1.out.2.2;have h2:=L2.out.1;omega
 case c1=>have h1:=(grown_trans T1.out.2.1 Y2.out.2).size;omega
 intro x2 w7 oo gg _
 obtain ⟨f2,q2,e2⟩:=oo.seg.shape
 obtain ⟨n2,hn2⟩:∃n,(A1 ++ bytesForm a.table).length=n:=⟨_,rfl⟩
 rw [hn2] at e2
 subst e2
 obtain ⟨A2,hA2⟩:∃A,A1 ++ bytesForm a.table=A:=⟨_,rfl⟩
 have E2:Hid (A1 ++ bytesForm a.table=A2):=hA2
 have T2:Hid (Own w7 W0.heap.size (.slice f2 n2 q2) A2/\W0.grownBy w7 none/\A2.length<=276):=by rw [<-hA2];exact ⟨oo,grown_new (grown_trans T1.out.2.1 Y2.out.2) gg (fun x hx=>(T1.out.1.lt x hx).1),by have h1:=T1.out.2.2;have h2:=L2.out.1;rw [List.length_append];omega⟩
 clear oo gg hn2 hA2 Y2 m0 m1 m2 m3 m4 m5 m6 m7 T1
 obtain ⟨m0,m1,m2,m3,m4,m5,m6,m7⟩:=HC.out w7 T2.out.2.1
 go_wp2_with (go_at_call 123;refine (dBytes _ a.key _ (HA.out.key.grown (grown_trans HG0.out T2.out.2.1)) (by have:=L1.out.2.1;omega)).mono ?_)
 rintro e w9 ⟨v3,rfl,oo,gg⟩
 have Y3:Hid (Seg w9 v3 (bytesForm a.key)/\w7.grownBy w9 none):=⟨oo.seg,gg⟩
 clear oo gg
 go_wp2_with (at_builtin;refine app22 _ rfl _ _ rfl W0.heap.size (.slice f2 n2 q2) (A2) _ (bytesForm a.key) rfl rfl (T2.out.1.grown Y3.out.2) Y3.out.1 ?c0 ?c1 ?_)
 case c0=>have h1:=T2.out.2.2;have h2:=L2.out.2.1;omega
 case c1=>have h1:=(grown_trans T2.out.2.1 Y3.out.2).size;omega
 intro x3 w10 oo gg _
 obtain ⟨f3,q3,e3⟩:=oo.seg.shape
 obtain ⟨n3,hn3⟩:∃n,(A2 ++ bytesForm a.key).length=n:=⟨_,rfl⟩
 rw [hn3] at e3
 subst e3
 obtain ⟨A3,hA3⟩:∃A,A2 ++ bytesForm a.key=A:=⟨_,rfl⟩
 have E3:Hid (A2 ++ bytesForm a.key=A3):=hA3
 have T3:Hid (Own w10 W0.heap.size (.slice f3 n3 q3) A3/\W0.grownBy w10 none/\A3.length<=542):=by rw [<-hA3];exact ⟨oo,grown_new (grown_trans T2.out.2.1 Y3.out.2) gg (fun x hx=>(T2.out.1.lt x hx).1),by have h1:=T2.out.2.2;have h2:=L2.out.2.1;rw [List.length_append];omega⟩
 clear oo gg hn3 hA3 Y3 m0 m1 m2 m3 m4 m5 m6 m7 T2
 obtain ⟨m0,m1,m2,m3,m4,m5,m6,m7⟩:=HC.out w10 T3.out.2.1
 go_wp2_with (go_at_call 123;refine (dBytes _ a.value _ (HA.out.value.grown (grown_trans HG0.out T3.out.2.1)) (by have:=L1.out.2.2.1;omega)).mono ?_)
 rintro e w12 ⟨v4,rfl,oo,gg⟩
 have Y4:Hid (Seg w12 v4 (bytesForm a.value)/\w10.grownBy w12 none):=⟨oo.seg,gg⟩
 clear oo gg
 go_wp2_with (at_builtin;refine app22 _ rfl _ _ rfl W0.heap.size (.slice f3 n3 q3) (A3) _ (bytesForm a.value) rfl rfl (T3.out.1.grown Y4.out.2) Y4.out.1 ?c0 ?c1 ?_)
 case c0=>have h1:=T3.out.2.2;have h2:=L2.out.2.2.1;omega
 case c1=>have h1:=(grown_trans T3.out.2.1 Y4.out.2).size;omega
 intro x4 w13 oo gg _
 obtain ⟨f4,q4,e4⟩:=oo.seg.shape
 obtain ⟨n4,hn4⟩:∃n,(A3 ++ bytesForm a.value).length=n:=⟨_,rfl⟩
 rw [hn4] at e4
 subst e4
 obtain ⟨A4,hA4⟩:∃A,A3 ++ bytesForm a.value=A:=⟨_,rfl⟩
 have E4:Hid (A3 ++ bytesForm a.value=A4):=hA4
 have T4:Hid (Own w13 W0.heap.size (.slice f4 n4 q4) A4/\W0.grownBy w13 none/\A4.length<=808):=by rw [<-hA4];exact ⟨oo,grown_new (grown_trans T3.out.2.1 Y4.out.2) gg (fun x hx=>(T3.out.1.lt x hx).1),by have h1:=T3.out.2.2;have h2:=L2.out.2.2.1;rw [List.length_append];omega⟩
 clear oo gg hn4 hA4 Y4 m0 m1 m2 m3 m4 m5 m6 m7 T3
 obtain ⟨m0,m1,m2,m3,m4,m5,m6,m7⟩:=HC.out w13 T4.out.2.1
 go_wp2_with fail
 go_ret
 exact ⟨_,rfl,by rw [HF.out,E1.out,E2.out,E3.out,E4.out];exact T4.out.1.mono HG0.out.size,grown_trans HG0.out T4.out.2.1⟩
theorem form45_4 (k v ol t:Value)(a:POp)(w:World)(ha:OpSeg w k v ol t a)(hk:a.kind=4)(hm:mayOp a=true):Calls Tryz.prog 88 #[opV k v ol t a] w (FormIs (opForm a) w):=by
 have hM:=may_of hm
 have HM:Hid (May a):=hM
 have HF:Hid (opForm a=Wire.numForm 4 ++ bytesForm a.table ++ bytesForm a.key ++ flagForm a.has ++ bytesForm a.old ++ bytesForm a.value):=by
  unfold Hid opForm frontForm tailForm
  rw [hk]
  simp
 unfold opV Str
 have HA:Hid (OpSeg w k v ol t a):=ha
 obtain ⟨p1,p2,p3,p4,r1,r2,r3,r4,rfl,rfl,rfl,rfl⟩:=ha.shapes
 obtain ⟨ms,hms⟩:∃n,a.most=n:=⟨_,rfl⟩
 skip
 have HMS:Hid (a.most=ms):=hms
 rw [hk,hms]
 clear HMS
 obtain ⟨F,hF⟩:∃F,opForm a=F:=⟨_,rfl⟩
 rw [hF] at HF ⊢
 clear ha hm hms hk hM hF
 have L1:Hid (a.table.length<=16/\a.key.length<=64/\a.value.length<=256/\a.old.length<=256/\a.to.length<=64):=⟨tab_len HM.out.tab,HM.out.key,HM.out.value,HM.out.old,HM.out.to⟩
 have L2:Hid ((bytesForm a.table).length<=266/\(bytesForm a.key).length<=266/\(bytesForm a.value).length<=266/\(bytesForm a.old).length<=266/\(bytesForm a.to).length<=266/\(flagForm a.has).length<=1):=⟨bytesForm_len _ (by have:=L1.out.1;omega),bytesForm_len _ (by have:=L1.out.2.1;omega),bytesForm_len _ L1.out.2.2.1,bytesForm_len _ L1.out.2.2.2.1,bytesForm_len _ (by have:=L1.out.2.2.2.2;omega),by unfold flagForm;split <;> simp⟩
 have cb:=conv_bytes
 go_enter Tryz.func88,Tryz.ntmps88
 go_upto_region 1 with fail
 have HC:Hid (∀x:World,(w.alloc (.cells #[.int .i64 4,.string ⟨a.table.toArray⟩,.slice p1 a.key.length r1,.slice p2 a.value.length r2,.bool a.has,.slice p3 a.old.length r3,.slice p4 a.to.length r4,.int .i64 ms] 109)).grownBy x none->x.cell? ⟨w.heap.size,0,none⟩=some (.int .i64 4)/\x.cell? ⟨w.heap.size,1,none⟩=some (.string ⟨a.table.toArray⟩)/\x.cell? ⟨w.heap.size,2,none⟩=some (.slice p1 a.key.length r1)/\x.cell? ⟨w.heap.size,3,none⟩=some (.slice p2 a.value.length r2)/\x.cell? ⟨w.heap.size,4,none⟩=some (.bool a.has)/\x.cell? ⟨w.heap.size,5,none⟩=some (.slice p3 a.old.length r3)/\x.cell? ⟨w.heap.size,6,none⟩=some (.slice p4 a.to.length r4)/\x.cell? ⟨w.heap.size,7,none⟩=some (.int .i64 ms)):=by
  intro x hx
  have hb:=heap_alloc_new w (.cells #[.int .i64 4,.string ⟨a.table.toArray⟩,.slice p1 a.key.length r1,.slice p2 a.value.length r2,.bool a.has,.slice p3 a.old.length r3,.slice p4 a.to.length r4,.int .i64 ms] 109)
  refine ⟨grown_fun hx ?_,grown_fun hx ?_,grown_fun hx ?_,grown_fun hx ?_,grown_fun hx ?_,grown_fun hx ?_,grown_fun hx ?_,grown_fun hx ?_⟩ <;> (rw [cell_of_row _ _ _ _ _ _ hb];rfl)
 have HG0:Hid (w.grownBy (w.alloc (.cells #[.int .i64 4,.string ⟨a.table.toArray⟩,.slice p1 a.key.length r1,.slice p2 a.value.length r2,.bool a.has,.slice p3 a.old.length r3,.slice p4 a.to.length r4,.int .i64 ms] 109)) none):=World.grownBy_alloc _ _ none
 generalize (w.alloc (.cells #[.int .i64 4,.string ⟨a.table.toArray⟩,.slice p1 a.key.length r1,.slice p2 a.value.length r2,.bool a.has,.slice p3 a.old.length r3,.slice p4 a.to.length r4,.int .i64 ms] 109))=W0 at HC HG0 ⊢
 obtain ⟨m0,m1,m2,m3,m4,m5,m6,m7⟩:=HC.out W0 (grown_refl _ _)
 go_wp2_with (go_at_call 87;refine (dNum _ 4 rfl (by decide) _).mono ?_)
 rintro e w1 ⟨u1,rfl,o1,g1⟩
 obtain ⟨f1,q1,e1⟩:=o1.seg.shape
 obtain ⟨n1,hn1⟩:∃n,(Wire.numForm 4).length=n:=⟨_,rfl⟩
 rw [hn1] at e1
 subst e1
 obtain ⟨A1,hA1⟩:∃A,Wire.numForm 4=A:=⟨_,rfl⟩
 have E1:Hid (Wire.numForm 4=A1):=hA1
 have T1:Hid (Own w1 W0.heap.size (.slice f1 n1 q1) A1/\W0.grownBy w1 none/\A1.length<=10):=by rw [<-hA1];exact ⟨o1,g1,num_short _ (by decide)⟩
 clear o1 g1 hn1 hA1 m0 m1 m2 m3 m4 m5 m6 m7
 obtain ⟨m0,m1,m2,m3,m4,m5,m6,m7⟩:=HC.out w1 T1.out.2.1
 have X1:Hid (Seg (Lib.bytesWorld w1 5 ⟨a.table.toArray⟩) (.slice (some ⟨w1.heap.size,0,none⟩) a.table.length (grownCap w1 a.table.length 0 5)) a.table/\w1.grownBy (Lib.bytesWorld w1 5 ⟨a.table.toArray⟩) none):=⟨bytes_seg w1 a.table HA.out.fits.tl,bytes_grown _ _⟩
 go_wp2_with (go_at_call 123;refine (dBytes _ a.table _ X1.out.1 (by have:=L1.out.1;omega)).mono ?_)
 rintro e w6 ⟨v2,rfl,oo,gg⟩
 have Y2:Hid (Seg w6 v2 (bytesForm a.table)/\w1.grownBy w6 none):=⟨oo.seg,grown_trans X1.out.2 gg⟩
 clear oo gg X1
 go_wp2_with (at_builtin;refine app22 _ rfl _ _ rfl W0.heap.size (.slice f1 n1 q1) (A1) _ (bytesForm a.table) rfl rfl (T1.out.1.grown Y2.out.2) Y2.out.1 ?c0 ?c1 ?_)
 case c0=>have h1:=T1.out.2.2;have h2:=L2.out.1;omega
 case c1=>have h1:=(grown_trans T1.out.2.1 Y2.out.2).size;omega
 intro x2 w7 oo gg _
 obtain ⟨f2,q2,e2⟩:=oo.seg.shape
 obtain ⟨n2,hn2⟩:∃n,(A1 ++ bytesForm a.table).length=n:=⟨_,rfl⟩
 rw [hn2] at e2
 subst e2
 obtain ⟨A2,hA2⟩:∃A,A1 ++ bytesForm a.table=A:=⟨_,rfl⟩
 have E2:Hid (A1 ++ bytesForm a.table=A2):=hA2
 have T2:Hid (Own w7 W0.heap.size (.slice f2 n2 q2) A2/\W0.grownBy w7 none/\A2.length<=276):=by rw [<-hA2];exact ⟨oo,grown_new (grown_trans T1.out.2.1 Y2.out.2) gg (fun x hx=>(T1.out.1.lt x hx).1),by have h1:=T1.out.2.2;have h2:=L2.out.1;rw [List.length_append];omega⟩
 clear oo gg hn2 hA2 Y2 m0 m1 m2 m3 m4 m5 m6 m7 T1
 obtain ⟨m0,m1,m2,m3,m4,m5,m6,m7⟩:=HC.out w7 T2.out.2.1
 go_wp2_with (go_at_call 123;refine (dBytes _ a.key _ (HA.out.key.grown (grown_trans HG0.out T2.out.2.1)) (by have:=L1.out.2.1;omega)).mono ?_)
 rintro e w9 ⟨v3,rfl,oo,gg⟩
 have Y3:Hid (Seg w9 v3 (bytesForm a.key)/\w7.grownBy w9 none):=⟨oo.seg,gg⟩
 clear oo gg
 go_wp2_with (at_builtin;refine app22 _ rfl _ _ rfl W0.heap.size (.slice f2 n2 q2) (A2) _ (bytesForm a.key) rfl rfl (T2.out.1.grown Y3.out.2) Y3.out.1 ?c0 ?c1 ?_)
 case c0=>have h1:=T2.out.2.2;have h2:=L2.out.2.1;omega
 case c1=>have h1:=(grown_trans T2.out.2.1 Y3.out.2).size;omega
 intro x3 w10 oo gg _
 obtain ⟨f3,q3,e3⟩:=oo.seg.shape
 obtain ⟨n3,hn3⟩:∃n,(A2 ++ bytesForm a.key).length=n:=⟨_,rfl⟩
 rw [hn3] at e3
 subst e3
 obtain ⟨A3,hA3⟩:∃A,A2 ++ bytesForm a.key=A:=⟨_,rfl⟩
 have E3:Hid (A2 ++ bytesForm a.key=A3):=hA3
 have T3:Hid (Own w10 W0.heap.size (.slice f3 n3 q3) A3/\W0.grownBy w10 none/\A3.length<=542):=by rw [<-hA3];exact ⟨oo,grown_new (grown_trans T2.out.2.1 Y3.out.2) gg (fun x hx=>(T2.out.1.lt x hx).1),by have h1:=T2.out.2.2;have h2:=L2.out.2.1;rw [List.length_append];omega⟩
 clear oo gg hn3 hA3 Y3 m0 m1 m2 m3 m4 m5 m6 m7 T2
 obtain ⟨m0,m1,m2,m3,m4,m5,m6,m7⟩:=HC.out w10 T3.out.2.1
 go_wp2_with (go_at_call 124;refine (dFlag a.has _).mono ?_)
 rintro e w12 ⟨v4,rfl,oo,gg⟩
 have Y4:Hid (Seg w12 v4 (flagForm a.has)/\w10.grownBy w12 none):=⟨oo.seg,gg⟩
 clear oo gg
 go_wp2_with (at_builtin;refine app22 _ rfl _ _ rfl W0.heap.size (.slice f3 n3 q3) (A3) _ (flagForm a.has) rfl rfl (T3.out.1.grown Y4.out.2) Y4.out.1 ?c0 ?c1 ?_)
 case c0=>have h1:=T3.out.2.2;have h2:=L2.out.2.2.2.2.2;omega
 case c1=>have h1:=(grown_trans T3.out.2.1 Y4.out.2).size;omega
 intro x4 w13 oo gg _
 obtain ⟨f4,q4,e4⟩:=oo.seg.shape
 obtain ⟨n4,hn4⟩:∃n,(A3 ++ flagForm a.has).length=n:=⟨_,rfl⟩
 rw [hn4] at e4
 subst e4
 obtain ⟨A4,hA4⟩:∃A,A3 ++ flagForm a.has=A:=⟨_,rfl⟩
 have E4:Hid (A3 ++ flagForm a.has=A4):=hA4
 have T4:Hid (Own w13 W0.heap.size (.slice f4 n4 q4) A4/\W0.grownBy w13 none/\A4.length<=543):=by rw [<-hA4];exact ⟨oo,grown_new (grown_trans T3.out.2.1 Y4.out.2) gg (fun x hx=>(T3.out.1.lt x hx).1),by have h1:=T3.out.2.2;have h2:=L2.out.2.2.2.2.2;rw [List.length_append];omega⟩
 clear oo gg hn4 hA4 Y4 m0 m1 m2 m3 m4 m5 m6 m7 T3
 obtain ⟨m0,m1,m2,m3,m4,m5,m6,m7⟩:=HC.out w13 T4.out.2.1
 go_wp2_with (go_at_call 123;refine (dBytes _ a.old _ (HA.out.old.grown (grown_trans HG0.out T4.out.2.1)) (by have:=L1.out.2.2.2.1;omega)).mono ?_)
 rintro e w15 ⟨v5,rfl,oo,gg⟩
 have Y5:Hid (Seg w15 v5 (bytesForm a.old)/\w13.grownBy w15 none):=⟨oo.seg,gg⟩
 clear oo gg
 go_wp2_with (at_builtin;refine app22 _ rfl _ _ rfl W0.heap.size (.slice f4 n4 q4) (A4) _ (bytesForm a.old) rfl rfl (T4.out.1.grown Y5.out.2) Y5.out.1 ?c0 ?c1 ?_)
 case c0=>have h1:=T4.out.2.2;have h2:=L2.out.2.2.2.1;omega
 case c1=>have h1:=(grown_trans T4.out.2.1 Y5.out.2).size;omega
 intro x5 w16 oo gg _
 obtain ⟨f5,q5,e5⟩:=oo.seg.shape
 obtain ⟨n5,hn5⟩:∃n,(A4 ++ bytesForm a.old).length=n:=⟨_,rfl⟩
 rw [hn5] at e5
 subst e5
 obtain ⟨A5,hA5⟩:∃A,A4 ++ bytesForm a.old=A:=⟨_,rfl⟩
 have E5:Hid (A4 ++ bytesForm a.old=A5):=hA5
 have T5:Hid (Own w16 W0.heap.size (.slice f5 n5 q5) A5/\W0.grownBy w16 none/\A5.length<=809):=by rw [<-hA5];exact ⟨oo,grown_new (grown_trans T4.out.2.1 Y5.out.2) gg (fun x hx=>(T4.out.1.lt x hx).1),by have h1:=T4.out.2.2;have h2:=L2.out.2.2.2.1;rw [List.length_append];omega⟩
 clear oo gg hn5 hA5 Y5 m0 m1 m2 m3 m4 m5 m6 m7 T4
 obtain ⟨m0,m1,m2,m3,m4,m5,m6,m7⟩:=HC.out w16 T5.out.2.1
 go_wp2_with (go_at_call 123;refine (dBytes _ a.value _ (HA.out.value.grown (grown_trans HG0.out T5.out.2.1)) (by have:=L1.out.2.2.1;omega)).mono ?_)
 rintro e w18 ⟨v6,rfl,oo,gg⟩
 have Y6:Hid (Seg w18 v6 (bytesForm a.value)/\w16.grownBy w18 none):=⟨oo.seg,gg⟩
 clear oo gg
 go_wp2_with (at_builtin;refine app22 _ rfl _ _ rfl W0.heap.size (.slice f5 n5 q5) (A5) _ (bytesForm a.value) rfl rfl (T5.out.1.grown Y6.out.2) Y6.out.1 ?c0 ?c1 ?_)
 case c0=>have h1:=T5.out.2.2;have h2:=L2.out.2.2.1;omega
 case c1=>have h1:=(grown_trans T5.out.2.1 Y6.out.2).size;omega
 intro x6 w19 oo gg _
 obtain ⟨f6,q6,e6⟩:=oo.seg.shape
 obtain ⟨n6,hn6⟩:∃n,(A5 ++ bytesForm a.value).length=n:=⟨_,rfl⟩
 rw [hn6] at e6
 subst e6
 obtain ⟨A6,hA6⟩:∃A,A5 ++ bytesForm a.value=A:=⟨_,rfl⟩
 have E6:Hid (A5 ++ bytesForm a.value=A6):=hA6
 have T6:Hid (Own w19 W0.heap.size (.slice f6 n6 q6) A6/\W0.grownBy w19 none/\A6.length<=1075):=by rw [<-hA6];exact ⟨oo,grown_new (grown_trans T5.out.2.1 Y6.out.2) gg (fun x hx=>(T5.out.1.lt x hx).1),by have h1:=T5.out.2.2;have h2:=L2.out.2.2.1;rw [List.length_append];omega⟩
 clear oo gg hn6 hA6 Y6 m0 m1 m2 m3 m4 m5 m6 m7 T5
 obtain ⟨m0,m1,m2,m3,m4,m5,m6,m7⟩:=HC.out w19 T6.out.2.1
 go_wp2_with fail
 go_ret
 exact ⟨_,rfl,by rw [HF.out,E1.out,E2.out,E3.out,E4.out,E5.out,E6.out];exact T6.out.1.mono HG0.out.size,grown_trans HG0.out T6.out.2.1⟩
theorem form45_5 (k v ol t:Value)(a:POp)(w:World)(ha:OpSeg w k v ol t a)(hk:a.kind=5)(hm:mayOp a=true):Calls Tryz.prog 88 #[opV k v ol t a] w (FormIs (opForm a) w):=by
 have hM:=may_of hm
 have HM:Hid (May a):=hM
 have HF:Hid (opForm a=Wire.numForm 5 ++ bytesForm a.table ++ bytesForm a.key ++ bytesForm a.to ++ Wire.numForm a.most.toNat):=by
  unfold Hid opForm frontForm tailForm
  rw [hk]
  simp
 unfold opV Str
 have HA:Hid (OpSeg w k v ol t a):=ha
 obtain ⟨p1,p2,p3,p4,r1,r2,r3,r4,rfl,rfl,rfl,rfl⟩:=ha.shapes
 obtain ⟨ms,hms⟩:∃n,a.most=n:=⟨_,rfl⟩
 have hms5:1<=ms/\ms<=64:=by rw [<-hms];exact hM.most hk
 have HMS:Hid (a.most=ms):=hms
 rw [hk,hms]
 rw [hms] at HF
 obtain ⟨F,hF⟩:∃F,opForm a=F:=⟨_,rfl⟩
 rw [hF] at HF ⊢
 clear ha hm hms hk hM hF
 have L1:Hid (a.table.length<=16/\a.key.length<=64/\a.value.length<=256/\a.old.length<=256/\a.to.length<=64):=⟨tab_len HM.out.tab,HM.out.key,HM.out.value,HM.out.old,HM.out.to⟩
 have L2:Hid ((bytesForm a.table).length<=266/\(bytesForm a.key).length<=266/\(bytesForm a.value).length<=266/\(bytesForm a.old).length<=266/\(bytesForm a.to).length<=266/\(flagForm a.has).length<=1):=⟨bytesForm_len _ (by have:=L1.out.1;omega),bytesForm_len _ (by have:=L1.out.2.1;omega),bytesForm_len _ L1.out.2.2.1,bytesForm_len _ L1.out.2.2.2.1,bytesForm_len _ (by have:=L1.out.2.2.2.2;omega),by unfold flagForm;split <;> simp⟩
 have cb:=conv_bytes
 go_enter Tryz.func88,Tryz.ntmps88
 go_upto_region 1 with fail
 have HC:Hid (∀x:World,(w.alloc (.cells #[.int .i64 5,.string ⟨a.table.toArray⟩,.slice p1 a.key.length r1,.slice p2 a.value.length r2,.bool a.has,.slice p3 a.old.length r3,.slice p4 a.to.length r4,.int .i64 ms] 109)).grownBy x none->x.cell? ⟨w.heap.size,0,none⟩=some (.int .i64 5)/\x.cell? ⟨w.heap.size,1,none⟩=some (.string ⟨a.table.toArray⟩)/\x.cell? ⟨w.heap.size,2,none⟩=some (.slice p1 a.key.length r1)/\x.cell? ⟨w.heap.size,3,none⟩=some (.slice p2 a.value.length r2)/\x.cell? ⟨w.heap.size,4,none⟩=some (.bool a.has)/\x.cell? ⟨w.heap.size,5,none⟩=some (.slice p3 a.old.length r3)/\x.cell? ⟨w.heap.size,6,none⟩=some (.slice p4 a.to.length r4)/\x.cell? ⟨w.heap.size,7,none⟩=some (.int .i64 ms)):=by
  intro x hx
  have hb:=heap_alloc_new w (.cells #[.int .i64 5,.string ⟨a.table.toArray⟩,.slice p1 a.key.length r1,.slice p2 a.value.length r2,.bool a.has,.slice p3 a.old.length r3,.slice p4 a.to.length r4,.int .i64 ms] 109)
  refine ⟨grown_fun hx ?_,grown_fun hx ?_,grown_fun hx ?_,grown_fun hx ?_,grown_fun hx ?_,grown_fun hx ?_,grown_fun hx ?_,grown_fun hx ?_⟩ <;> (rw [cell_of_row _ _ _ _ _ _ hb];rfl)
 have HG0:Hid (w.grownBy (w.alloc (.cells #[.int .i64 5,.string ⟨a.table.toArray⟩,.slice p1 a.key.length r1,.slice p2 a.value.length r2,.bool a.has,.slice p3 a.old.length r3,.slice p4 a.to.length r4,.int .i64 ms] 109)) none):=World.grownBy_alloc _ _ none
 generalize (w.alloc (.cells #[.int .i64 5,.string ⟨a.table.toArray⟩,.slice p1 a.key.length r1,.slice p2 a.value.length r2,.bool a.has,.slice p3 a.old.length r3,.slice p4 a.to.length r4,.int .i64 ms] 109))=W0 at HC HG0 ⊢
 obtain ⟨m0,m1,m2,m3,m4,m5,m6,m7⟩:=HC.out W0 (grown_refl _ _)
 go_wp2_with (go_at_call 87;refine (dNum _ 5 rfl (by decide) _).mono ?_)
 rintro e w1 ⟨u1,rfl,o1,g1⟩
 obtain ⟨f1,q1,e1⟩:=o1.seg.shape
 obtain ⟨n1,hn1⟩:∃n,(Wire.numForm 5).length=n:=⟨_,rfl⟩
 rw [hn1] at e1
 subst e1
 obtain ⟨A1,hA1⟩:∃A,Wire.numForm 5=A:=⟨_,rfl⟩
 have E1:Hid (Wire.numForm 5=A1):=hA1
 have T1:Hid (Own w1 W0.heap.size (.slice f1 n1 q1) A1/\W0.grownBy w1 none/\A1.length<=10):=by rw [<-hA1];exact ⟨o1,g1,num_short _ (by decide)⟩
 clear o1 g1 hn1 hA1 m0 m1 m2 m3 m4 m5 m6 m7
 obtain ⟨m0,m1,m2,m3,m4,m5,m6,m7⟩:=HC.out w1 T1.out.2.1
 have X1:Hid (Seg (Lib.bytesWorld w1 5 ⟨a.table.toArray⟩) (.slice (some ⟨w1.heap.size,0,none⟩) a.table.length (grownCap w1 a.table.length 0 5)) a.table/\w1.grownBy (Lib.bytesWorld w1 5 ⟨a.table.toArray⟩) none):=⟨bytes_seg w1 a.table HA.out.fits.tl,bytes_grown _ _⟩
 go_wp2_with (go_at_call 123;refine (dBytes _ a.table _ X1.out.1 (by have:=L1.out.1;omega)).mono ?_)
 rintro e w6 ⟨v2,rfl,oo,gg⟩
 have Y2:Hid (Seg w6 v2 (bytesForm a.table)/\w1.grownBy w6 none):=⟨oo.seg,grown_trans X1.out.2 gg⟩
 clear oo gg X1
 go_wp2_with (at_builtin;refine app22 _ rfl _ _ rfl W0.heap.size (.slice f1 n1 q1) (A1) _ (bytesForm a.table) rfl rfl (T1.out.1.grown Y2.out.2) Y2.out.1 ?c0 ?c1 ?_)
 case c0=>have h1:=T1.out.2.2;have h2:=L2.out.1;omega
 case c1=>have h1:=(grown_trans T1.out.2.1 Y2.out.2).size;omega
 intro x2 w7 oo gg _
 obtain ⟨f2,q2,e2⟩:=oo.seg.shape
 obtain ⟨n2,hn2⟩:∃n,(A1 ++ bytesForm a.table).length=n:=⟨_,rfl⟩
 rw [hn2] at e2
 subst e2
 obtain ⟨A2,hA2⟩:∃A,A1 ++ bytesForm a.table=A:=⟨_,rfl⟩
 have E2:Hid (A1 ++ bytesForm a.table=A2):=hA2
 have T2:Hid (Own w7 W0.heap.size (.slice f2 n2 q2) A2/\W0.grownBy w7 none/\A2.length<=276):=by rw [<-hA2];exact ⟨oo,grown_new (grown_trans T1.out.2.1 Y2.out.2) gg (fun x hx=>(T1.out.1.lt x hx).1),by have h1:=T1.out.2.2;have h2:=L2.out.1;rw [List.length_append];omega⟩
 clear oo gg hn2 hA2 Y2 m0 m1 m2 m3 m4 m5 m6 m7 T1
 obtain ⟨m0,m1,m2,m3,m4,m5,m6,m7⟩:=HC.out w7 T2.out.2.1
 go_wp2_with (go_at_call 123;refine (dBytes _ a.key _ (HA.out.key.grown (grown_trans HG0.out T2.out.2.1)) (by have:=L1.out.2.1;omega)).mono ?_)
 rintro e w9 ⟨v3,rfl,oo,gg⟩
 have Y3:Hid (Seg w9 v3 (bytesForm a.key)/\w7.grownBy w9 none):=⟨oo.seg,gg⟩
 clear oo gg
 go_wp2_with (at_builtin;refine app22 _ rfl _ _ rfl W0.heap.size (.slice f2 n2 q2) (A2) _ (bytesForm a.key) rfl rfl (T2.out.1.grown Y3.out.2) Y3.out.1 ?c0 ?c1 ?_)
 case c0=>have h1:=T2.out.2.2;have h2:=L2.out.2.1;omega
 case c1=>have h1:=(grown_trans T2.out.2.1 Y3.out.2).size;omega
 intro x3 w10 oo gg _
 obtain ⟨f3,q3,e3⟩:=oo.seg.shape
 obtain ⟨n3,hn3⟩:∃n,(A2 ++ bytesForm a.key).length=n:=⟨_,rfl⟩
 rw [hn3] at e3
 subst e3
 obtain ⟨A3,hA3⟩:∃A,A2 ++ bytesForm a.key=A:=⟨_,rfl⟩
 have E3:Hid (A2 ++ bytesForm a.key=A3):=hA3
 have T3:Hid (Own w10 W0.heap.size (.slice f3 n3 q3) A3/\W0.grownBy w10 none/\A3.length<=542):=by rw [<-hA3];exact ⟨oo,grown_new (grown_trans T2.out.2.1 Y3.out.2) gg (fun x hx=>(T2.out.1.lt x hx).1),by have h1:=T2.out.2.2;have h2:=L2.out.2.1;rw [List.length_append];omega⟩
 clear oo gg hn3 hA3 Y3 m0 m1 m2 m3 m4 m5 m6 m7 T2
 obtain ⟨m0,m1,m2,m3,m4,m5,m6,m7⟩:=HC.out w10 T3.out.2.1
 go_wp2_with (go_at_call 123;refine (dBytes _ a.to _ (HA.out.to.grown (grown_trans HG0.out T3.out.2.1)) (by have:=L1.out.2.2.2.2;omega)).mono ?_)
 rintro e w12 ⟨v4,rfl,oo,gg⟩
 have Y4:Hid (Seg w12 v4 (bytesForm a.to)/\w10.grownBy w12 none):=⟨oo.seg,gg⟩
 clear oo gg
 go_wp2_with (at_builtin;refine app22 _ rfl _ _ rfl W0.heap.size (.slice f3 n3 q3) (A3) _ (bytesForm a.to) rfl rfl (T3.out.1.grown Y4.out.2) Y4.out.1 ?c0 ?c1 ?_)
 case c0=>have h1:=T3.out.2.2;have h2:=L2.out.2.2.2.2.1;omega
 case c1=>have h1:=(grown_trans T3.out.2.1 Y4.out.2).size;omega
 intro x4 w13 oo gg _
 obtain ⟨f4,q4,e4⟩:=oo.seg.shape
 obtain ⟨n4,hn4⟩:∃n,(A3 ++ bytesForm a.to).length=n:=⟨_,rfl⟩
 rw [hn4] at e4
 subst e4
 obtain ⟨A4,hA4⟩:∃A,A3 ++ bytesForm a.to=A:=⟨_,rfl⟩
 have E4:Hid (A3 ++ bytesForm a.to=A4):=hA4
 have T4:Hid (Own w13 W0.heap.size (.slice f4 n4 q4) A4/\W0.grownBy w13 none/\A4.length<=808):=by rw [<-hA4];exact ⟨oo,grown_new (grown_trans T3.out.2.1 Y4.out.2) gg (fun x hx=>(T3.out.1.lt x hx).1),by have h1:=T3.out.2.2;have h2:=L2.out.2.2.2.2.1;rw [List.length_append];omega⟩
 clear oo gg hn4 hA4 Y4 m0 m1 m2 m3 m4 m5 m6 m7 T3
 obtain ⟨m0,m1,m2,m3,m4,m5,m6,m7⟩:=HC.out w13 T4.out.2.1
 have wu:IntKind.u64.wrap ms=ms:=by have:=hms5;rw [IntKind.wrap_u64];omega
 go_wp2_with (go_at_call 87;refine (dNum _ ms.toNat (by have:=hms5;omega) (by have:=hms5;omega) _).mono ?_)
 rintro e w15 ⟨v5,rfl,oo,gg⟩
 have Y5:Hid (Seg w15 v5 (Wire.numForm ms.toNat)/\w13.grownBy w15 none):=⟨oo.seg,gg⟩
 clear oo gg wu
 go_wp2_with (at_builtin;refine app22 _ rfl _ _ rfl W0.heap.size (.slice f4 n4 q4) (A4) _ (Wire.numForm ms.toNat) rfl rfl (T4.out.1.grown Y5.out.2) Y5.out.1 ?c0 ?c1 ?_)
 case c0=>have h1:=T4.out.2.2;have h2:=(num_short ms.toNat (by have:=hms5;omega));omega
 case c1=>have h1:=(grown_trans T4.out.2.1 Y5.out.2).size;omega
 intro x5 w16 oo gg _
 obtain ⟨f5,q5,e5⟩:=oo.seg.shape
 obtain ⟨n5,hn5⟩:∃n,(A4 ++ Wire.numForm ms.toNat).length=n:=⟨_,rfl⟩
 rw [hn5] at e5
 subst e5
 obtain ⟨A5,hA5⟩:∃A,A4 ++ Wire.numForm ms.toNat=A:=⟨_,rfl⟩
 have E5:Hid (A4 ++ Wire.numForm ms.toNat=A5):=hA5
 have T5:Hid (Own w16 W0.heap.size (.slice f5 n5 q5) A5/\W0.grownBy w16 none/\A5.length<=818):=by rw [<-hA5];exact ⟨oo,grown_new (grown_trans T4.out.2.1 Y5.out.2) gg (fun x hx=>(T4.out.1.lt x hx).1),by have h1:=T4.out.2.2;have h2:=(num_short ms.toNat (by have:=hms5;omega));rw [List.length_append];omega⟩
 clear oo gg hn5 hA5 Y5 m0 m1 m2 m3 m4 m5 m6 m7 T4
 obtain ⟨m0,m1,m2,m3,m4,m5,m6,m7⟩:=HC.out w16 T5.out.2.1
 go_wp2_with fail
 go_ret
 exact ⟨_,rfl,by rw [HF.out,E1.out,E2.out,E3.out,E4.out,E5.out];exact T5.out.1.mono HG0.out.size,grown_trans HG0.out T5.out.2.1⟩
theorem form45 (k v ol t:Value)(a:POp)(w:World)(ha:OpSeg w k v ol t a)(hm:mayOp a=true):Calls Tryz.prog 88 #[opV k v ol t a] w (FormIs (opForm a) w):=by
 have:=(may_of hm).kind
 have:a.kind=1\/a.kind=2\/a.kind=3\/a.kind=4\/a.kind=5:=by omega
 rcases this with h | h | h | h | h
 ·exact form45_1 k v ol t a w ha h hm
 ·exact form45_2 k v ol t a w ha h hm
 ·exact form45_3 k v ol t a w ha h hm
 ·exact form45_4 k v ol t a w ha h hm
 ·exact form45_5 k v ol t a w ha h hm
theorem form45_of (x k v ol t:Value)(a:POp)(w:World)(hx:x=opV k v ol t a)(ha:OpSeg w k v ol t a)(hm:mayOp a=true):Calls Tryz.prog 88 #[x] w (FormIs (opForm a) w):=by subst hx;exact form45 k v ol t a w ha hm
theorem form20 (a:Value)(l:List POp)(w:World)(ha:Ops w a l)(hm:mayCall l=true):Calls Tryz.prog 60 #[.agg #[a]] w (FormIs (callForm l) w):=by
 obtain ⟨ao,n,ca,rfl,hna,la,HA⟩:=ops_open ha
 unfold mayCall at hm
 simp only [Bool.and_eq_true,decide_eq_true_eq] at hm
 have HM:Hid (l.all mayOp=true):=hm.2
 have n16:n<=16:=by rw [<-hna];exact hm.1.2
 have HN:Hid (l.length=n):=hna
 have wu:IntKind.u64.wrap (n:Int)=(n:Int):=by rw [IntKind.wrap_u64];omega
 clear ha hna hm
 go_enter Tryz.func60,Tryz.ntmps60
 go_upto_region 1 with fail
 have S0:Hid (Blk (w.alloc (.cells #[.slice ao n ca] 35)) w.heap.size 35 #[.slice ao n ca]/\w.grownBy (w.alloc (.cells #[.slice ao n ca] 35)) none):=⟨heap_alloc_new w _,World.grownBy_alloc _ _ none⟩
 generalize (w.alloc (.cells #[.slice ao n ca] 35))=W0 at S0 ⊢
 have c0:=S0.out.1.cell 0
 go_wp2_with (go_at_call 87;refine (dNum _ n rfl (by omega) _).mono ?_)
 rintro e w1 ⟨u1,rfl,o1,g1⟩
 have S1:Hid (Own w1 W0.heap.size u1 (Wire.numForm n)/\W0.grownBy w1 none):=⟨o1,g1⟩
 clear o1 g1 c0
 go_wp2_with fail
 go_loopw [3,4] (fun x i wr=>∃k:Nat,k<=n/\i=.int .i64 k/\Hid (Own wr W0.heap.size x (Wire.numForm n ++ (l.take k).flatMap opForm)/\W0.grownBy wr none)) (fun _ i _=>n-(intOf i).toNat)
 case atStart=>exact ⟨0,by omega,rfl,by rw [List.take_zero,List.flatMap_nil,List.append_nil];exact S1.out.1,S1.out.2⟩
 case round =>
  obtain ⟨k,hk,rfl,HR⟩:=hrel
  have c0:=(S0.out.1.grown HR.out.2 (by simp)).cell 0
  by_cases hlt:k<n
  ·have i3:(k:Int)<(n:Int):=by omega
   have i0:(0:Int)<=(k:Int):=by omega
   have hkl:k<l.length:=by rw [HN.out];omega
   obtain ⟨b1,o1,k1,x1,ol1,t1,rfl,h1,s1⟩:=ops_at (HA.out.grown (grown_trans S0.out.2 HR.out.2)) k hkl
   have HQ:Hid ((l.take (k+1)).flatMap opForm=(l.take k).flatMap opForm ++ opForm l[k]):=flatMap_take opForm l k hkl
   have HO:Hid (mayOp l[k]=true):=List.all_eq_true.1 HM.out _ (List.getElem_mem hkl)
   have HZ:Hid ((Wire.numForm n ++ (l.take k).flatMap opForm).length<=20000):=by
    have h1:(l.take k).all mayOp=true:=List.all_eq_true.2 fun o ho=>List.all_eq_true.1 HM.out o (List.mem_of_mem_take ho)
    have h2:=forms_len h1
    have h3:=num_short n (by omega)
    have h4:(l.take k).length<=16:=by rw [List.length_take];omega
    have h5:1200*(l.take k).length<=1200*16:=Nat.mul_le_mul_left _ h4
    unfold Hid
    rw [List.length_append];omega
   obtain ⟨o,ho⟩:∃o,l[k]=o:=⟨_,rfl⟩
   rw [ho] at h1 s1 HQ HO
   clear ho hkl
   obtain ⟨p1,p2,p3,p4,r1,r2,r3,r4,rfl,rfl,rfl,rfl⟩:=s1.shapes
   have HS:Hid (OpSeg wr (.slice p1 o.key.length r1) (.slice p2 o.value.length r2) (.slice p3 o.old.length r3) (.slice p4 o.to.length r4) o):=s1
   clear s1
   obtain ⟨a0,a1,a2,a3,a4,a5,a6,a7⟩:=h1
   unfold Str at a1
   obtain ⟨A,hA⟩:∃A,Wire.numForm n ++ (l.take k).flatMap opForm=A:=⟨_,rfl⟩
   have HAA:Hid (Wire.numForm n ++ (l.take (k+1)).flatMap opForm=A ++ opForm o):=by unfold Hid;rw [HQ.out,<-List.append_assoc,hA]
   rw [hA] at HR HZ
   clear hA HQ
   go_wp2_with (go_at_call 88;refine (form45_of _ _ _ _ _ o _ rfl HS.out HO.out).mono ?_)
   rintro e w2 ⟨v2,rfl,o2,g2⟩
   have Y:Hid (Seg w2 v2 (opForm o)/\wr.grownBy w2 none):=⟨o2.seg,g2⟩
   clear o2 g2 c0 a0 a1 a2 a3 a4 a5 a6 a7
   go_wp2_with (at_builtin;refine app22 _ rfl _ _ rfl W0.heap.size _ A _ (opForm o) rfl rfl (HR.out.1.grown Y.out.2) Y.out.1 ?c0 ?c1 ?_)
   case c0=>have h1:=HZ.out;have h2:=opForm_len HO.out;omega
   case c1=>have h1:=(grown_trans HR.out.2 Y.out.2).size;omega
   intro x3 w3 oo gg _
   have R3:Hid (Own w3 W0.heap.size x3 (Wire.numForm n ++ (l.take (k+1)).flatMap opForm)/\W0.grownBy w3 none):=by
    rw [HAA.out]
    exact ⟨oo,grown_new (grown_trans HR.out.2 Y.out.2) gg (fun x hx=>(HR.out.1.lt x hx).1)⟩
   clear oo gg Y
   go_wp2_with fail
   go_roundw
   case rel=>exact ⟨k+1,by omega,by go_num,R3⟩
   case measure=>simp [intOf];omega
  ·have i3:((k:Int)<(n:Int))=False:=eq_false (by omega)
   have R3:Hid (Own wr W0.heap.size u3 (callForm l)/\W0.grownBy wr none):=by
    have h:=HR.out
    rw [List.take_of_length_le (by rw [HN.out];omega),<-HN.out] at h
    exact h
   go_wp2_with fail
   go_ret
   exact ⟨_,rfl,R3.out.1.mono S0.out.2.size,grown_trans S0.out.2 R3.out.2⟩
theorem check12 (a:Value)(l:List POp)(w:World)(ha:Ops w a l):Calls Tryz.prog 32 #[.agg #[a]] w fun e w'=>e=.returned (.int .i64 (chk l))/\w.grownBy w' none:=by
 obtain ⟨ao,n,ca,rfl,hna,la,HA⟩:=ops_open ha
 clear ha hna
 go_enter Tryz.func32,Tryz.ntmps32
 go_upto_region 1 with fail
 have S0:Hid (Blk (w.alloc (.cells #[.slice ao n ca] 35)) w.heap.size 35 #[.slice ao n ca]/\w.grownBy (w.alloc (.cells #[.slice ao n ca] 35)) none):=⟨heap_alloc_new w _,World.grownBy_alloc _ _ none⟩
 generalize (w.alloc (.cells #[.slice ao n ca] 35))=W0 at S0 ⊢
 have c0:=S0.out.1.cell 0
 go_wp2_with (go_at_call 59;refine (may37 _ l _ (HA.out.grown S0.out.2)).mono ?_)
 rintro e w1 ⟨rfl,hg⟩
 clear c0
 have S1:Hid (Blk w1 w.heap.size 35 #[.slice ao n ca]/\w.grownBy w1 none):=⟨S0.out.1.grown hg (by simp),grown_trans S0.out.2 hg⟩
 clear hg S0
 have c0:=S1.out.1.cell 0
 cases hm:mayCall l
 ·have HZ:Hid (chk l=2):=by unfold Hid chk;rw [hm];rfl
  clear hm
  go_wp2_with fail
  go_ret
  exact ⟨by rw [HZ.out];rfl,S1.out.2⟩
 ·have HM:Hid (mayCall l=true):=hm
  clear hm
  go_wp2_with (go_at_call 60;refine (form20 _ l _ (HA.out.grown S1.out.2) HM.out).mono ?_)
  rintro e w2 ⟨u,rfl,ho,hg⟩
  obtain ⟨f1,q1,e1⟩:=ho.seg.shape
  obtain ⟨m,hm⟩:∃m,(callForm l).length=m:=⟨_,rfl⟩
  rw [hm] at e1
  subst e1
  have HG:Hid (w.grownBy w2 none):=grown_trans S1.out.2 hg
  clear ho hg c0
  by_cases h6:m<=4096
  ·have HZ:Hid (chk l=0):=by unfold Hid chk;rw [HM.out,if_pos rfl,hm,if_pos h6]
   have i1:((4096:Int)<(m:Int))=False:=eq_false (by omega)
   clear hm
   go_wp2_with fail
   go_ret
   exact ⟨by rw [HZ.out];rfl,HG.out⟩
  ·have HZ:Hid (chk l=3):=by unfold Hid chk;rw [HM.out,if_pos rfl,hm,if_neg h6]
   have i1:(4096:Int)<(m:Int):=by omega
   clear hm
   go_wp2_with fail
   go_ret
   exact ⟨by rw [HZ.out];rfl,HG.out⟩
end Go.Proofs.YtanoabliahcbeaaGreat.Calls
