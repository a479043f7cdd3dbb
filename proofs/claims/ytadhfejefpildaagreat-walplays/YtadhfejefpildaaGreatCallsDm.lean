import Derived.Test.YtadhfejefpildaaGreatCgAll
import Derived.Test.YtadhfejefpildaaGreatCallsDp
import Derived.Deep.DeepCutAuto
set_option maxHeartbeats 8000000
set_option maxRecDepth 100000
namespace Go.Proofs.YtadhfejefpildaaGreat.Calls
open Go.RowKit Disk
open Names (Str)
theorem s_ (k v ol t:Value)(a:POp)(x y z:Bool)(w:World)(ha:OpSeg w k v ol t a) :
  Calls Tryz.prog 145 #[opV k v ol t a,.bool x,.bool y,.bool z] w fun e w'=>e=.returned (.bool (cD a x y z))/\w.grownBy w' none:=by
 unfold opV Str
 obtain ⟨_,_,_,_,_,_,_,_,rfl,rfl,rfl,rfl⟩:=ha.shapes
 clear ha
 go_enter Tryz.func145,Tryz.ntmps145
 go_wp2_with fail
 all_goals go_ret
 all_goals refine ⟨?_,World.grownBy_alloc _ _ none⟩
 all_goals (refine congrArg (fun x=>Ending.returned (Value.bool x)) ?_;simp [cD, *];try rfl)
theorem cd (x k v ol t:Value)(a:POp)(p q r:Bool)(w:World)(hx:x=opV k v ol t a)(ha:OpSeg w k v ol t a):Calls Tryz.prog 145 #[x,.bool p,.bool q,.bool r] w fun e w'=>e=.returned (.bool (cD a p q r))/\w.grownBy w' none:=by subst hx;exact s_ k v ol t a p q r w ha
theorem pg (k v ol t:Value)(a:POp)(w:World)(ha:OpSeg w k v ol t a)(hT:Names.tabB a.table=true)(hK:a.kind=1) :
  Calls Tryz.prog 123 #[opV k v ol t a] w fun e w'=>e=.returned (.bool (dMay a))/\w.grownBy w' none:=by
 have HT:Hid (Names.tabB a.table=true):=hT
 have HK:Hid (a.kind=1):=hK
 have HX:Hid (∀x k v ol t:Value,∀p q r:Bool,∀w,x=.agg #[.int .i64 1,.string ⟨a.table.toArray⟩,k,v,.bool a.has,ol,t,.int .i64 a.most]->OpSeg w k v ol t a->Calls Tryz.prog 145 #[x,.bool p,.bool q,.bool r] w fun e w'=>e=.returned (.bool (cD a p q r))/\w.grownBy w' none):=fun x k v ol t p q r w h1 h2=>cd x k v ol t a p q r w (by rw [h1,opV,hK];rfl) h2
 unfold opV Str
 rw [hK]
 have HS:Hid (OpSeg w k v ol t a):=ha
 obtain ⟨p1,p2,p3,p4,r1,r2,r3,r4,rfl,rfl,rfl,rfl⟩:=ha.shapes
 clear ha
 have HG:Hid (OpSeg (w.alloc (.cells #[.int .i64 1,.string ⟨a.table.toArray⟩,.slice p1 a.key.length r1,.slice p2 a.value.length r2,.bool a.has,.slice p3 a.old.length r3,.slice p4 a.to.length r4,.int .i64 a.most] 147)) (.slice p1 a.key.length r1) (.slice p2 a.value.length r2) (.slice p3 a.old.length r3) (.slice p4 a.to.length r4) a):=HS.out.grown gA_
 clear hT hK
 go_enter Tryz.func123,Tryz.ntmps123
 go_wp2_with (first | (go_at_call 143;refine (Names.cZ a.table _ HS.out.fits.tl).mono ?_;rintro e w1 ⟨rfl,rfl⟩;rw [HT.out]) | (go_at_call 144;refine (Names.gu _ a.key _ HG.out.key).mono ?_;rintro e w1 ⟨rfl,rfl⟩) | (go_at_call 146;refine (Names.bP _ a.value _ HG.out.value).mono ?_;rintro e w1 ⟨rfl,rfl⟩) | (go_at_call 146;refine (Names.bP _ a.old _ HG.out.old).mono ?_;rintro e w1 ⟨rfl,rfl⟩) | (go_at_call 145;refine (HX.out _ _ _ _ _ _ _ _ _ rfl HG.out).mono ?_;rintro e w1 ⟨rfl,hg⟩))
 all_goals go_ret
 all_goals refine ⟨?_,by first | exact World.grownBy_alloc _ _ none | exact aa gA_ (by assumption)⟩
 all_goals (refine congrArg (fun x=>Ending.returned (Value.bool x)) ?_;simp [dMay,HT.out,HK.out, *];try rfl)
theorem ph (k v ol t:Value)(a:POp)(w:World)(ha:OpSeg w k v ol t a)(hT:Names.tabB a.table=true)(hK:a.kind=3) :
  Calls Tryz.prog 123 #[opV k v ol t a] w fun e w'=>e=.returned (.bool (dMay a))/\w.grownBy w' none:=by
 have HT:Hid (Names.tabB a.table=true):=hT
 have HK:Hid (a.kind=3):=hK
 have HX:Hid (∀x k v ol t:Value,∀p q r:Bool,∀w,x=.agg #[.int .i64 3,.string ⟨a.table.toArray⟩,k,v,.bool a.has,ol,t,.int .i64 a.most]->OpSeg w k v ol t a->Calls Tryz.prog 145 #[x,.bool p,.bool q,.bool r] w fun e w'=>e=.returned (.bool (cD a p q r))/\w.grownBy w' none):=fun x k v ol t p q r w h1 h2=>cd x k v ol t a p q r w (by rw [h1,opV,hK];rfl) h2
 unfold opV Str
 rw [hK]
 have HS:Hid (OpSeg w k v ol t a):=ha
 obtain ⟨p1,p2,p3,p4,r1,r2,r3,r4,rfl,rfl,rfl,rfl⟩:=ha.shapes
 clear ha
 have HG:Hid (OpSeg (w.alloc (.cells #[.int .i64 3,.string ⟨a.table.toArray⟩,.slice p1 a.key.length r1,.slice p2 a.value.length r2,.bool a.has,.slice p3 a.old.length r3,.slice p4 a.to.length r4,.int .i64 a.most] 147)) (.slice p1 a.key.length r1) (.slice p2 a.value.length r2) (.slice p3 a.old.length r3) (.slice p4 a.to.length r4) a):=HS.out.grown gA_
 clear hT hK
 go_enter Tryz.func123,Tryz.ntmps123
 go_wp2_with (first | (go_at_call 143;refine (Names.cZ a.table _ HS.out.fits.tl).mono ?_;rintro e w1 ⟨rfl,rfl⟩;rw [HT.out]) | (go_at_call 144;refine (Names.gu _ a.key _ HG.out.key).mono ?_;rintro e w1 ⟨rfl,rfl⟩) | (go_at_call 146;refine (Names.bP _ a.value _ HG.out.value).mono ?_;rintro e w1 ⟨rfl,rfl⟩) | (go_at_call 146;refine (Names.bP _ a.old _ HG.out.old).mono ?_;rintro e w1 ⟨rfl,rfl⟩) | (go_at_call 145;refine (HX.out _ _ _ _ _ _ _ _ _ rfl HG.out).mono ?_;rintro e w1 ⟨rfl,hg⟩))
 all_goals go_ret
 all_goals refine ⟨?_,by first | exact World.grownBy_alloc _ _ none | exact aa gA_ (by assumption)⟩
 all_goals (refine congrArg (fun x=>Ending.returned (Value.bool x)) ?_;simp [dMay,HT.out,HK.out, *];try rfl)
theorem pi (k v ol t:Value)(a:POp)(w:World)(ha:OpSeg w k v ol t a)(hT:Names.tabB a.table=true)(hK:a.kind=2) :
  Calls Tryz.prog 123 #[opV k v ol t a] w fun e w'=>e=.returned (.bool (dMay a))/\w.grownBy w' none:=by
 have HT:Hid (Names.tabB a.table=true):=hT
 have HK:Hid (a.kind=2):=hK
 have HX:Hid (∀x k v ol t:Value,∀p q r:Bool,∀w,x=.agg #[.int .i64 2,.string ⟨a.table.toArray⟩,k,v,.bool a.has,ol,t,.int .i64 a.most]->OpSeg w k v ol t a->Calls Tryz.prog 145 #[x,.bool p,.bool q,.bool r] w fun e w'=>e=.returned (.bool (cD a p q r))/\w.grownBy w' none):=fun x k v ol t p q r w h1 h2=>cd x k v ol t a p q r w (by rw [h1,opV,hK];rfl) h2
 unfold opV Str
 rw [hK]
 have HS:Hid (OpSeg w k v ol t a):=ha
 obtain ⟨p1,p2,p3,p4,r1,r2,r3,r4,rfl,rfl,rfl,rfl⟩:=ha.shapes
 clear ha
 have HG:Hid (OpSeg (w.alloc (.cells #[.int .i64 2,.string ⟨a.table.toArray⟩,.slice p1 a.key.length r1,.slice p2 a.value.length r2,.bool a.has,.slice p3 a.old.length r3,.slice p4 a.to.length r4,.int .i64 a.most] 147)) (.slice p1 a.key.length r1) (.slice p2 a.value.length r2) (.slice p3 a.old.length r3) (.slice p4 a.to.length r4) a):=HS.out.grown gA_
 clear hT hK
 go_enter Tryz.func123,Tryz.ntmps123
 go_wp2_with (first | (go_at_call 143;refine (Names.cZ a.table _ HS.out.fits.tl).mono ?_;rintro e w1 ⟨rfl,rfl⟩;rw [HT.out]) | (go_at_call 144;refine (Names.gu _ a.key _ HG.out.key).mono ?_;rintro e w1 ⟨rfl,rfl⟩) | (go_at_call 146;refine (Names.bP _ a.value _ HG.out.value).mono ?_;rintro e w1 ⟨rfl,rfl⟩) | (go_at_call 146;refine (Names.bP _ a.old _ HG.out.old).mono ?_;rintro e w1 ⟨rfl,rfl⟩) | (go_at_call 145;refine (HX.out _ _ _ _ _ _ _ _ _ rfl HG.out).mono ?_;rintro e w1 ⟨rfl,hg⟩))
 all_goals go_ret
 all_goals refine ⟨?_,by first | exact World.grownBy_alloc _ _ none | exact aa gA_ (by assumption)⟩
 all_goals (refine congrArg (fun x=>Ending.returned (Value.bool x)) ?_;simp [dMay,HT.out,HK.out, *];try rfl)
theorem mR (k v ol t:Value)(a:POp)(w:World)(ha:OpSeg w k v ol t a)(hT:Names.tabB a.table=true)(hK:a.kind=4)(hk:Names.keyB a.key=false) :
  Calls Tryz.prog 123 #[opV k v ol t a] w fun e w'=>e=.returned (.bool (dMay a))/\w.grownBy w' none:=by
 have Hhk:Hid (Names.keyB a.key=false):=hk
 have HT:Hid (Names.tabB a.table=true):=hT
 have HK:Hid (a.kind=4):=hK
 have HX:Hid (∀x k v ol t:Value,∀p q r:Bool,∀w,x=.agg #[.int .i64 4,.string ⟨a.table.toArray⟩,k,v,.bool a.has,ol,t,.int .i64 a.most]->OpSeg w k v ol t a->Calls Tryz.prog 145 #[x,.bool p,.bool q,.bool r] w fun e w'=>e=.returned (.bool (cD a p q r))/\w.grownBy w' none):=fun x k v ol t p q r w h1 h2=>cd x k v ol t a p q r w (by rw [h1,opV,hK];rfl) h2
 unfold opV Str
 rw [hK]
 have HS:Hid (OpSeg w k v ol t a):=ha
 obtain ⟨p1,p2,p3,p4,r1,r2,r3,r4,rfl,rfl,rfl,rfl⟩:=ha.shapes
 clear ha
 have HG:Hid (OpSeg (w.alloc (.cells #[.int .i64 4,.string ⟨a.table.toArray⟩,.slice p1 a.key.length r1,.slice p2 a.value.length r2,.bool a.has,.slice p3 a.old.length r3,.slice p4 a.to.length r4,.int .i64 a.most] 147)) (.slice p1 a.key.length r1) (.slice p2 a.value.length r2) (.slice p3 a.old.length r3) (.slice p4 a.to.length r4) a):=HS.out.grown gA_
 clear hT hK hk
 go_enter Tryz.func123,Tryz.ntmps123
 go_wp2_with (first | (go_at_call 143;refine (Names.cZ a.table _ HS.out.fits.tl).mono ?_;rintro e w1 ⟨rfl,rfl⟩;rw [HT.out]) | (go_at_call 144;refine (Names.gu _ a.key _ HG.out.key).mono ?_;rintro e w1 ⟨rfl,rfl⟩;rw [Hhk.out]) | (go_at_call 146;refine (Names.bP _ a.value _ HG.out.value).mono ?_;rintro e w1 ⟨rfl,rfl⟩) | (go_at_call 146;refine (Names.bP _ a.old _ HG.out.old).mono ?_;rintro e w1 ⟨rfl,rfl⟩) | (go_at_call 145;refine (HX.out _ _ _ _ _ _ _ _ _ rfl HG.out).mono ?_;rintro e w1 ⟨rfl,hg⟩))
 all_goals go_ret
 all_goals refine ⟨?_,by first | exact World.grownBy_alloc _ _ none | exact aa gA_ (by assumption)⟩
 all_goals (refine congrArg (fun x=>Ending.returned (Value.bool x)) ?_;simp [dMay,HT.out,HK.out,Hhk.out, *];try rfl)
theorem mS (k v ol t:Value)(a:POp)(w:World)(ha:OpSeg w k v ol t a)(hT:Names.tabB a.table=true)(hK:a.kind=4)(hk:Names.keyB a.key=true)(hv:Names.aU a.value=false) :
  Calls Tryz.prog 123 #[opV k v ol t a] w fun e w'=>e=.returned (.bool (dMay a))/\w.grownBy w' none:=by
 have Hhk:Hid (Names.keyB a.key=true):=hk
 have Hhv:Hid (Names.aU a.value=false):=hv
 have HT:Hid (Names.tabB a.table=true):=hT
 have HK:Hid (a.kind=4):=hK
 have HX:Hid (∀x k v ol t:Value,∀p q r:Bool,∀w,x=.agg #[.int .i64 4,.string ⟨a.table.toArray⟩,k,v,.bool a.has,ol,t,.int .i64 a.most]->OpSeg w k v ol t a->Calls Tryz.prog 145 #[x,.bool p,.bool q,.bool r] w fun e w'=>e=.returned (.bool (cD a p q r))/\w.grownBy w' none):=fun x k v ol t p q r w h1 h2=>cd x k v ol t a p q r w (by rw [h1,opV,hK];rfl) h2
 unfold opV Str
 rw [hK]
 have HS:Hid (OpSeg w k v ol t a):=ha
 obtain ⟨p1,p2,p3,p4,r1,r2,r3,r4,rfl,rfl,rfl,rfl⟩:=ha.shapes
 clear ha
 have HG:Hid (OpSeg (w.alloc (.cells #[.int .i64 4,.string ⟨a.table.toArray⟩,.slice p1 a.key.length r1,.slice p2 a.value.length r2,.bool a.has,.slice p3 a.old.length r3,.slice p4 a.to.length r4,.int .i64 a.most] 147)) (.slice p1 a.key.length r1) (.slice p2 a.value.length r2) (.slice p3 a.old.length r3) (.slice p4 a.to.length r4) a):=HS.out.grown gA_
 clear hT hK hk hv
 go_enter Tryz.func123,Tryz.ntmps123
 go_wp2_with (first | (go_at_call 143;refine (Names.cZ a.table _ HS.out.fits.tl).mono ?_;rintro e w1 ⟨rfl,rfl⟩;rw [HT.out]) | (go_at_call 144;refine (Names.gu _ a.key _ HG.out.key).mono ?_;rintro e w1 ⟨rfl,rfl⟩;rw [Hhk.out]) | (go_at_call 146;refine (Names.bP _ a.value _ HG.out.value).mono ?_;rintro e w1 ⟨rfl,rfl⟩;rw [Hhv.out]) | (go_at_call 146;refine (Names.bP _ a.old _ HG.out.old).mono ?_;rintro e w1 ⟨rfl,rfl⟩) | (go_at_call 145;refine (HX.out _ _ _ _ _ _ _ _ _ rfl HG.out).mono ?_;rintro e w1 ⟨rfl,hg⟩))
 all_goals go_ret
 all_goals refine ⟨?_,by first | exact World.grownBy_alloc _ _ none | exact aa gA_ (by assumption)⟩
 all_goals (refine congrArg (fun x=>Ending.returned (Value.bool x)) ?_;simp [dMay,HT.out,HK.out,Hhk.out,Hhv.out, *];try rfl)
theorem mT (k v ol t:Value)(a:POp)(w:World)(ha:OpSeg w k v ol t a)(hT:Names.tabB a.table=true)(hK:a.kind=4)(hk:Names.keyB a.key=true)(hv:Names.aU a.value=true)(ho:Names.aU a.old=false) :
  Calls Tryz.prog 123 #[opV k v ol t a] w fun e w'=>e=.returned (.bool (dMay a))/\w.grownBy w' none:=by
 have Hhk:Hid (Names.keyB a.key=true):=hk
 have Hhv:Hid (Names.aU a.value=true):=hv
 have Hho:Hid (Names.aU a.old=false):=ho
 have HT:Hid (Names.tabB a.table=true):=hT
 have HK:Hid (a.kind=4):=hK
 have HX:Hid (∀x k v ol t:Value,∀p q r:Bool,∀w,x=.agg #[.int .i64 4,.string ⟨a.table.toArray⟩,k,v,.bool a.has,ol,t,.int .i64 a.most]->OpSeg w k v ol t a->Calls Tryz.prog 145 #[x,.bool p,.bool q,.bool r] w fun e w'=>e=.returned (.bool (cD a p q r))/\w.grownBy w' none):=fun x k v ol t p q r w h1 h2=>cd x k v ol t a p q r w (by rw [h1,opV,hK];rfl) h2
 unfold opV Str
 rw [hK]
 have HS:Hid (OpSeg w k v ol t a):=ha
 obtain ⟨p1,p2,p3,p4,r1,r2,r3,r4,rfl,rfl,rfl,rfl⟩:=ha.shapes
 clear ha
 have HG:Hid (OpSeg (w.alloc (.cells #[.int .i64 4,.string ⟨a.table.toArray⟩,.slice p1 a.key.length r1,.slice p2 a.value.length r2,.bool a.has,.slice p3 a.old.length r3,.slice p4 a.to.length r4,.int .i64 a.most] 147)) (.slice p1 a.key.length r1) (.slice p2 a.value.length r2) (.slice p3 a.old.length r3) (.slice p4 a.to.length r4) a):=HS.out.grown gA_
 clear hT hK hk hv ho
 go_enter Tryz.func123,Tryz.ntmps123
 go_wp2_with (first | (go_at_call 143;refine (Names.cZ a.table _ HS.out.fits.tl).mono ?_;rintro e w1 ⟨rfl,rfl⟩;rw [HT.out]) | (go_at_call 144;refine (Names.gu _ a.key _ HG.out.key).mono ?_;rintro e w1 ⟨rfl,rfl⟩;rw [Hhk.out]) | (go_at_call 146;refine (Names.bP _ a.value _ HG.out.value).mono ?_;rintro e w1 ⟨rfl,rfl⟩;rw [Hhv.out]) | (go_at_call 146;refine (Names.bP _ a.old _ HG.out.old).mono ?_;rintro e w1 ⟨rfl,rfl⟩;rw [Hho.out]) | (go_at_call 145;refine (HX.out _ _ _ _ _ _ _ _ _ rfl HG.out).mono ?_;rintro e w1 ⟨rfl,hg⟩))
 all_goals go_ret
 all_goals refine ⟨?_,by first | exact World.grownBy_alloc _ _ none | exact aa gA_ (by assumption)⟩
 all_goals (refine congrArg (fun x=>Ending.returned (Value.bool x)) ?_;simp [dMay,HT.out,HK.out,Hhk.out,Hhv.out,Hho.out, *];try rfl)
theorem mU (k v ol t:Value)(T K V O TO:Bs)(M:Int)(w:World)(ha:OpSeg w k v ol t (⟨4,T,K,V,true,O,TO,M⟩:POp))(hT:Names.tabB T=true)(hk:Names.keyB K=true)(hv:Names.aU V=true)(ho:Names.aU O=true) :
  Calls Tryz.prog 123 #[opV k v ol t (⟨4,T,K,V,true,O,TO,M⟩:POp)] w fun e w'=>e=.returned (.bool (dMay (⟨4,T,K,V,true,O,TO,M⟩:POp)))/\w.grownBy w' none:=by
 have HS:Hid (OpSeg w k v ol t (⟨4,T,K,V,true,O,TO,M⟩:POp)):=ha
 have HT:Hid (Names.tabB T=true/\Names.keyB K=true/\Names.aU V=true/\Names.aU O=true):=⟨hT,hk,hv,ho⟩
 obtain ⟨p1,p2,p3,p4,r1,r2,r3,r4,e1,e2,e3,e4⟩:=ha.shapes
 simp only at e1 e2 e3 e4
 subst e1 e2 e3 e4
 clear ha hT hk hv ho
 show Calls Tryz.prog 123 #[.agg #[.int .i64 4,.string ⟨T.toArray⟩,.slice p1 K.length r1,.slice p2 V.length r2,.bool true,.slice p3 O.length r3,.slice p4 TO.length r4,.int .i64 M]] w _
 have HG:Hid (OpSeg (w.alloc (.cells #[.int .i64 4,.string ⟨T.toArray⟩,.slice p1 K.length r1,.slice p2 V.length r2,.bool true,.slice p3 O.length r3,.slice p4 TO.length r4,.int .i64 M] 147)) (.slice p1 K.length r1) (.slice p2 V.length r2) (.slice p3 O.length r3) (.slice p4 TO.length r4) (⟨4,T,K,V,true,O,TO,M⟩:POp)):=HS.out.grown gA_
 go_enter Tryz.func123,Tryz.ntmps123
 go_wp2_with (first | (go_at_call 143;refine (Names.cZ T _ HS.out.fits.tl).mono ?_;rintro e w1 ⟨rfl,rfl⟩;rw [HT.out.1]) | (go_at_call 144;refine (Names.gu _ K _ HG.out.key).mono ?_;rintro e w1 ⟨rfl,rfl⟩;rw [HT.out.2.1]) | (go_at_call 146;refine (Names.bP (.slice p2 _ _) V _ HG.out.value).mono ?_;rintro e w1 ⟨rfl,rfl⟩;rw [HT.out.2.2.1]) | (go_at_call 146;refine (Names.bP (.slice p3 _ _) O _ HG.out.old).mono ?_;rintro e w1 ⟨rfl,rfl⟩;rw [HT.out.2.2.2]) | (go_at_call 145;refine (cd _ _ _ _ _ (⟨4,T,K,V,true,O,TO,M⟩:POp) _ _ _ _ rfl HG.out).mono ?_;rintro e w1 ⟨rfl,hg⟩))
 go_ret
 refine ⟨?_,by first | exact World.grownBy_alloc _ _ none | exact aa gA_ (by assumption)⟩
 refine congrArg (fun x=>Ending.returned (Value.bool x)) ?_
 simp [dMay,HT.out.1,HT.out.2.1,HT.out.2.2.1,HT.out.2.2.2, *];try rfl
theorem mV (k v ol t:Value)(T K V TO:Bs)(M:Int)(w:World)(ha:OpSeg w k v ol t (⟨4,T,K,V,false,[],TO,M⟩:POp))(hT:Names.tabB T=true)(hk:Names.keyB K=true)(hv:Names.aU V=true)(ho:Names.aU []=true) :
  Calls Tryz.prog 123 #[opV k v ol t (⟨4,T,K,V,false,[],TO,M⟩:POp)] w fun e w'=>e=.returned (.bool (dMay (⟨4,T,K,V,false,[],TO,M⟩:POp)))/\w.grownBy w' none:=by
 have HS:Hid (OpSeg w k v ol t (⟨4,T,K,V,false,[],TO,M⟩:POp)):=ha
 have HT:Hid (Names.tabB T=true/\Names.keyB K=true/\Names.aU V=true/\Names.aU []=true):=⟨hT,hk,hv,ho⟩
 obtain ⟨p1,p2,p3,p4,r1,r2,r3,r4,e1,e2,e3,e4⟩:=ha.shapes
 simp only [List.length_nil] at e1 e2 e3 e4
 subst e1 e2 e3 e4
 clear ha hT hk hv ho
 show Calls Tryz.prog 123 #[.agg #[.int .i64 4,.string ⟨T.toArray⟩,.slice p1 K.length r1,.slice p2 V.length r2,.bool false,.slice p3 0 r3,.slice p4 TO.length r4,.int .i64 M]] w _
 have HG:Hid (OpSeg (w.alloc (.cells #[.int .i64 4,.string ⟨T.toArray⟩,.slice p1 K.length r1,.slice p2 V.length r2,.bool false,.slice p3 0 r3,.slice p4 TO.length r4,.int .i64 M] 147)) (.slice p1 K.length r1) (.slice p2 V.length r2) (.slice p3 0 r3) (.slice p4 TO.length r4) (⟨4,T,K,V,false,[],TO,M⟩:POp)):=HS.out.grown gA_
 go_enter Tryz.func123,Tryz.ntmps123
 go_wp2_with (first | (go_at_call 143;refine (Names.cZ T _ HS.out.fits.tl).mono ?_;rintro e w1 ⟨rfl,rfl⟩;rw [HT.out.1]) | (go_at_call 144;refine (Names.gu _ K _ HG.out.key).mono ?_;rintro e w1 ⟨rfl,rfl⟩;rw [HT.out.2.1]) | (go_at_call 146;refine (Names.bP (.slice p2 _ _) V _ HG.out.value).mono ?_;rintro e w1 ⟨rfl,rfl⟩;rw [HT.out.2.2.1]) | (go_at_call 146;refine (Names.bP (.slice p3 _ _) [] _ HG.out.old).mono ?_;rintro e w1 ⟨rfl,rfl⟩;rw [HT.out.2.2.2]) | (go_at_call 145;refine (cd _ _ _ _ _ (⟨4,T,K,V,false,[],TO,M⟩:POp) _ _ _ _ rfl HG.out).mono ?_;rintro e w1 ⟨rfl,hg⟩))
 go_ret
 refine ⟨?_,by first | exact World.grownBy_alloc _ _ none | exact aa gA_ (by assumption)⟩
 refine congrArg (fun x=>Ending.returned (Value.bool x)) ?_
 simp [dMay,HT.out.1,HT.out.2.1,HT.out.2.2.1,HT.out.2.2.2, *];try rfl
theorem mW (k v ol t:Value)(T K V O TO:Bs)(M:Int)(w:World)(ha:OpSeg w k v ol t (⟨4,T,K,V,false,O,TO,M⟩:POp))(hT:Names.tabB T=true)(hk:Names.keyB K=true)(hv:Names.aU V=true)(ho:Names.aU O=true)(hO:O≠[]) :
  Calls Tryz.prog 123 #[opV k v ol t (⟨4,T,K,V,false,O,TO,M⟩:POp)] w fun e w'=>e=.returned (.bool (dMay (⟨4,T,K,V,false,O,TO,M⟩:POp)))/\w.grownBy w' none:=by
 have HS:Hid (OpSeg w k v ol t (⟨4,T,K,V,false,O,TO,M⟩:POp)):=ha
 have HT:Hid (Names.tabB T=true/\Names.keyB K=true/\Names.aU V=true/\Names.aU O=true):=⟨hT,hk,hv,ho⟩
 obtain ⟨p1,p2,p3,p4,r1,r2,r3,r4,e1,e2,e3,e4⟩:=ha.shapes
 simp only at e1 e2 e3 e4
 subst e1 e2 e3 e4
 clear ha hT hk hv ho
 show Calls Tryz.prog 123 #[.agg #[.int .i64 4,.string ⟨T.toArray⟩,.slice p1 K.length r1,.slice p2 V.length r2,.bool false,.slice p3 O.length r3,.slice p4 TO.length r4,.int .i64 M]] w _
 have HG:Hid (OpSeg (w.alloc (.cells #[.int .i64 4,.string ⟨T.toArray⟩,.slice p1 K.length r1,.slice p2 V.length r2,.bool false,.slice p3 O.length r3,.slice p4 TO.length r4,.int .i64 M] 147)) (.slice p1 K.length r1) (.slice p2 V.length r2) (.slice p3 O.length r3) (.slice p4 TO.length r4) (⟨4,T,K,V,false,O,TO,M⟩:POp)):=HS.out.grown gA_
 have z0:((O.length:Int)=0)=False:=eq_false (by have:=List.length_pos_iff.2 hO;omega)
 have z1:((O.length:Int)==0)=false:=by rw [beq_eq_false_iff_ne];have:=List.length_pos_iff.2 hO;omega
 go_enter Tryz.func123,Tryz.ntmps123
 go_wp2_with (first | (go_at_call 143;refine (Names.cZ T _ HS.out.fits.tl).mono ?_;rintro e w1 ⟨rfl,rfl⟩;rw [HT.out.1]) | (go_at_call 144;refine (Names.gu _ K _ HG.out.key).mono ?_;rintro e w1 ⟨rfl,rfl⟩;rw [HT.out.2.1]) | (go_at_call 146;refine (Names.bP (.slice p2 _ _) V _ HG.out.value).mono ?_;rintro e w1 ⟨rfl,rfl⟩;rw [HT.out.2.2.1]) | (go_at_call 146;refine (Names.bP (.slice p3 _ _) O _ HG.out.old).mono ?_;rintro e w1 ⟨rfl,rfl⟩;rw [HT.out.2.2.2]) | (go_at_call 145;refine (cd _ _ _ _ _ (⟨4,T,K,V,false,O,TO,M⟩:POp) _ _ _ _ rfl HG.out).mono ?_;rintro e w1 ⟨rfl,hg⟩))
 go_ret
 refine ⟨?_,by first | exact World.grownBy_alloc _ _ none | exact aa gA_ (by assumption)⟩
 refine congrArg (fun x=>Ending.returned (Value.bool x)) ?_
 simp [dMay,HT.out.1,HT.out.2.1,HT.out.2.2.1,HT.out.2.2.2, *];try rfl
theorem pj (k v ol t:Value)(a:POp)(w:World)(ha:OpSeg w k v ol t a)(hT:Names.tabB a.table=true)(hK:a.kind=4) :
  Calls Tryz.prog 123 #[opV k v ol t a] w fun e w'=>e=.returned (.bool (dMay a))/\w.grownBy w' none:=by
 cases hk:Names.keyB a.key
 ·exact mR k v ol t a w ha hT hK hk
 ·cases hv:Names.aU a.value
  ·exact mS k v ol t a w ha hT hK hk hv
  ·cases ho:Names.aU a.old
   ·exact mT k v ol t a w ha hT hK hk hv ho
   ·obtain ⟨kk,T,K,V,has,O,TO,M⟩:=a
    simp only at hT hK hk hv ho
    subst hK
    cases has
    ·by_cases hO:O=[]
     ·subst hO
      exact mV k v ol t T K V TO M w ha hT hk hv ho
     ·exact mW k v ol t T K V O TO M w ha hT hk hv ho hO
    ·exact mU k v ol t T K V O TO M w ha hT hk hv ho
theorem pk (k v ol t:Value)(a:POp)(w:World)(ha:OpSeg w k v ol t a)(hT:Names.tabB a.table=true)(hK:a.kind=5) :
  Calls Tryz.prog 123 #[opV k v ol t a] w fun e w'=>e=.returned (.bool (dMay a))/\w.grownBy w' none:=by
 have HT:Hid (Names.tabB a.table=true):=hT
 have HK:Hid (a.kind=5):=hK
 have HX:Hid (∀x k v ol t:Value,∀p q r:Bool,∀w,x=.agg #[.int .i64 5,.string ⟨a.table.toArray⟩,k,v,.bool a.has,ol,t,.int .i64 a.most]->OpSeg w k v ol t a->Calls Tryz.prog 145 #[x,.bool p,.bool q,.bool r] w fun e w'=>e=.returned (.bool (cD a p q r))/\w.grownBy w' none):=fun x k v ol t p q r w h1 h2=>cd x k v ol t a p q r w (by rw [h1,opV,hK];rfl) h2
 unfold opV Str
 rw [hK]
 have HS:Hid (OpSeg w k v ol t a):=ha
 obtain ⟨p1,p2,p3,p4,r1,r2,r3,r4,rfl,rfl,rfl,rfl⟩:=ha.shapes
 clear ha
 have HG:Hid (OpSeg (w.alloc (.cells #[.int .i64 5,.string ⟨a.table.toArray⟩,.slice p1 a.key.length r1,.slice p2 a.value.length r2,.bool a.has,.slice p3 a.old.length r3,.slice p4 a.to.length r4,.int .i64 a.most] 147)) (.slice p1 a.key.length r1) (.slice p2 a.value.length r2) (.slice p3 a.old.length r3) (.slice p4 a.to.length r4) a):=HS.out.grown gA_
 clear hT hK
 go_enter Tryz.func123,Tryz.ntmps123
 go_wp2_with (first | (go_at_call 143;refine (Names.cZ a.table _ HS.out.fits.tl).mono ?_;rintro e w1 ⟨rfl,rfl⟩;rw [HT.out]) | (go_at_call 144;refine (Names.gu _ a.key _ HG.out.key).mono ?_;rintro e w1 ⟨rfl,rfl⟩) | (go_at_call 146;refine (Names.bP _ a.value _ HG.out.value).mono ?_;rintro e w1 ⟨rfl,rfl⟩) | (go_at_call 146;refine (Names.bP _ a.old _ HG.out.old).mono ?_;rintro e w1 ⟨rfl,rfl⟩) | (go_at_call 145;refine (HX.out _ _ _ _ _ _ _ _ _ rfl HG.out).mono ?_;rintro e w1 ⟨rfl,hg⟩))
 all_goals go_ret
 all_goals refine ⟨?_,by first | exact World.grownBy_alloc _ _ none | exact aa gA_ (by assumption)⟩
 all_goals (refine congrArg (fun x=>Ending.returned (Value.bool x)) ?_;simp [dMay,HT.out,HK.out, *];try rfl)
 all_goals (try (intros;first | omega | (exfalso;omega)))
theorem pm (k v ol t:Value)(a:POp)(w:World)(ha:OpSeg w k v ol t a)(hT:Names.tabB a.table=false) :
  Calls Tryz.prog 123 #[opV k v ol t a] w fun e w'=>e=.returned (.bool (dMay a))/\w.grownBy w' none:=by
 unfold opV Str
 have HS:Hid (OpSeg w k v ol t a):=ha
 have HT:Hid (Names.tabB a.table=false):=hT
 clear hT
 obtain ⟨p1,p2,p3,p4,r1,r2,r3,r4,rfl,rfl,rfl,rfl⟩:=ha.shapes
 clear ha
 go_enter Tryz.func123,Tryz.ntmps123
 go_wp2_with (go_at_call 143;refine (Names.cZ a.table _ HS.out.fits.tl).mono ?_;rintro e w1 ⟨rfl,rfl⟩;rw [HT.out])
 go_ret
 refine ⟨?_,World.grownBy_alloc _ _ none⟩
 refine congrArg (fun x=>Ending.returned (Value.bool x)) ?_
 simp [dMay,HT.out]
theorem pn (k v ol t:Value)(a:POp)(w:World)(ha:OpSeg w k v ol t a)(hT:Names.tabB a.table=true)(hK:a.kind<1\/5<a.kind) :
  Calls Tryz.prog 123 #[opV k v ol t a] w fun e w'=>e=.returned (.bool (dMay a))/\w.grownBy w' none:=by
 unfold opV Str
 have HS:Hid (OpSeg w k v ol t a):=ha
 have HT:Hid (Names.tabB a.table=true):=hT
 have k1:(a.kind=1)=False:=eq_false (by omega)
 have k2:(a.kind=2)=False:=eq_false (by omega)
 have k3:(a.kind=3)=False:=eq_false (by omega)
 have k4:(a.kind=4)=False:=eq_false (by omega)
 have k5:(a.kind=5)=False:=eq_false (by omega)
 have j1:(a.kind==1)=false:=by rw [beq_eq_false_iff_ne];omega
 have j2:(a.kind==2)=false:=by rw [beq_eq_false_iff_ne];omega
 have j3:(a.kind==3)=false:=by rw [beq_eq_false_iff_ne];omega
 have j4:(a.kind==4)=false:=by rw [beq_eq_false_iff_ne];omega
 have j5:(a.kind==5)=false:=by rw [beq_eq_false_iff_ne];omega
 clear hT hK
 obtain ⟨p1,p2,p3,p4,r1,r2,r3,r4,rfl,rfl,rfl,rfl⟩:=ha.shapes
 clear ha
 go_enter Tryz.func123,Tryz.ntmps123
 go_wp2_with (go_at_call 143;refine (Names.cZ a.table _ HS.out.fits.tl).mono ?_;rintro e w1 ⟨rfl,rfl⟩;rw [HT.out])
 go_ret
 refine ⟨?_,World.grownBy_alloc _ _ none⟩
 refine congrArg (fun x=>Ending.returned (Value.bool x)) ?_
 simp [dMay,HT.out,k1,k2,k3,k4,k5]
theorem td (k v ol t:Value)(a:POp)(w:World)(ha:OpSeg w k v ol t a) :
  Calls Tryz.prog 123 #[opV k v ol t a] w fun e w'=>e=.returned (.bool (aL a))/\w.grownBy w' none:=by
 rw [<-te]
 cases hT:Names.tabB a.table
 ·exact pm k v ol t a w ha hT
 ·by_cases hn:a.kind<1\/5<a.kind
  ·exact pn k v ol t a w ha hT hn
  ·have:a.kind=1\/a.kind=2\/a.kind=3\/a.kind=4\/a.kind=5:=by omega
   rcases this with h | h | h | h | h
   ·exact pg k v ol t a w ha hT h
   ·exact pi k v ol t a w ha hT h
   ·exact ph k v ol t a w ha hT h
   ·exact pj k v ol t a w ha hT h
   ·exact pk k v ol t a w ha hT h
theorem mX (x k v ol t:Value)(a:POp)(w:World)(hx:x=opV k v ol t a)(ha:OpSeg w k v ol t a):Calls Tryz.prog 123 #[x] w fun e w'=>e=.returned (.bool (aL a))/\w.grownBy w' none:=by subst hx;exact td k v ol t a w ha
theorem go (a:Value)(l:List POp)(w:World)(ha:Ops w a l):Calls Tryz.prog 99 #[.agg #[a]] w fun e w'=>e=.returned (.bool (aI l))/\w.grownBy w' none:=by
 obtain ⟨ao,n,ca,rfl,hna,la,HA⟩:=aX ha
 have HN:Hid (l.length=n):=hna
 clear ha hna
 by_cases hb:n<1\/16<n
 ·have HM:Hid (aI l=false):=by
   unfold Hid aI
   rw [HN.out]
   rcases hb with h | h
   ·rw [show decide (1<=n)=false from decide_eq_false (by omega)];rfl
   ·rw [show decide (n<=16)=false from decide_eq_false (by omega)];simp
  rw [HM.out]
  rcases hb with h | h
  ·have i1:(n:Int)<1:=by omega
   go_enter Tryz.func99,Tryz.ntmps99
   go_wp2_with fail
   go_ret
   exact ⟨rfl,World.grownBy_alloc _ _ none⟩
  ·have i1:((n:Int)<1)=False:=eq_false (by omega)
   have i2:(16:Int)<(n:Int):=by omega
   go_enter Tryz.func99,Tryz.ntmps99
   go_wp2_with fail
   go_ret
   exact ⟨rfl,World.grownBy_alloc _ _ none⟩
 ·have i1:((n:Int)<1)=False:=eq_false (by omega)
  have i2:((16:Int)<(n:Int))=False:=eq_false (by omega)
  have n1:1<=n:=by omega
  have n2:n<=16:=by omega
  have HM:Hid (aI l=l.all aL):=by
   unfold Hid aI
   rw [HN.out,decide_eq_true n1,decide_eq_true n2];rfl
  rw [HM.out]
  go_enter Tryz.func99,Tryz.ntmps99
  go_wp2_with fail
  go_loopw [3] (fun i wr=>∃k:Nat,k<=n/\i=.int .i64 k/\Hid ((l.take k).all aL=true)/\Hid (Blk wr w.heap.size 30 #[.slice ao n ca]/\w.grownBy wr none)) (fun i _=>n-(intOf i).toNat)
  case atStart=>exact ⟨0,by omega,rfl,by unfold Hid;simp,heap_alloc_new w _,World.grownBy_alloc _ _ none⟩
  case round =>
   obtain ⟨k,hk,rfl,HT,HR⟩:=hrel
   have c0:=HR.out.1.cell 0
   by_cases hlt:k<n
   ·have i3:(k:Int)<(n:Int):=by omega
    have i0:(0:Int)<=(k:Int):=by omega
    have hkl:k<l.length:=by rw [HN.out];omega
    obtain ⟨b1,o1,k1,x1,ol1,t1,rfl,h1,s1⟩:=gx (HA.out.grown HR.out.2) k hkl
    have HQ:Hid ((l.take (k+1)).all aL=((l.take k).all aL && aL l[k])):=jc aL l k hkl
    have HF:Hid (aL l[k]=false->l.all aL=false):=j_ aL l k hkl
    obtain ⟨o,ho⟩:∃o,l[k]=o:=⟨_,rfl⟩
    rw [ho] at h1 s1 HQ HF
    clear ho hkl
    obtain ⟨p1,p2,p3,p4,r1,r2,r3,r4,rfl,rfl,rfl,rfl⟩:=s1.shapes
    have HS:Hid (OpSeg wr (.slice p1 o.key.length r1) (.slice p2 o.value.length r2) (.slice p3 o.old.length r3) (.slice p4 o.to.length r4) o):=s1
    clear s1
    obtain ⟨a0,a1,a2,a3,a4,a5,a6,a7⟩:=h1
    unfold Str at a1
    go_wp2_with (go_at_call 123;refine (mX _ _ _ _ _ o _ rfl HS.out).mono ?_)
    rintro e w2 ⟨rfl,hg2⟩
    clear c0 a0 a1 a2 a3 a4 a5 a6 a7
    have HR2:Hid (Blk w2 w.heap.size 30 #[.slice (some ⟨b1,o1,none⟩) n ca]/\w.grownBy w2 none):=⟨HR.out.1.grown hg2 (by simp),aa HR.out.2 hg2⟩
    clear hg2 HR
    cases hm:aL o
    ·have HZ:Hid (l.all aL=false):=HF.out hm
     clear hm
     go_wp2_with fail
     go_ret
     exact ⟨by rw [HZ.out];rfl,HR2.out.2⟩
    ·have HZ:Hid ((l.take (k+1)).all aL=true):=by unfold Hid;rw [HQ.out,HT.out,hm];rfl
     clear hm
     go_wp2_with fail
     go_roundw
     case rel=>exact ⟨k+1,by omega,by go_num,HZ,HR2⟩
     case measure=>simp [intOf];omega
   ·have i3:((k:Int)<(n:Int))=False:=eq_false (by omega)
    have HZ:Hid (l.all aL=true):=by
     have h:=HT.out
     rw [List.take_of_length_le (by rw [HN.out];omega)] at h
     exact h
    go_wp2_with fail
    go_ret
    exact ⟨by rw [HZ.out];rfl,HR.out.2⟩
end Go.Proofs.YtadhfejefpildaaGreat.Calls
