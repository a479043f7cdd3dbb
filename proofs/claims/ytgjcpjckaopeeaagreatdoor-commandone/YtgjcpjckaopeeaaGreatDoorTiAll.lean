import Derived.Test.YtgjcpjckaopeeaaGreatDoorRows
import Derived.Test.YtgjcpjckaopeeaaGreatDoorKhiAll
import Derived.Stop.LaidErr
import Derived.Lib.LaidTab
import Derived.LaidHandle
import Derived.Deep.DeepLaidRun
import Derived.Shelf.Vars
import Derived.HandedShaped
set_option maxRecDepth 100000
namespace Go.Proofs.YtgjcpjckaopeeaaGreatDoor
open Go.RowKit Disk
open _root_.Go.Proofs.YtgjcpjckaopeeaaGreatDoor.Calls
theorem returnsInHanded_of_change_both {H:Type}{enc:TypeId × Value->H}{a:Assume}{C:Checked}{os:Os}{f:FuncId}{fn:Func}{s:ChangeSpec}{conds:List PathCond}{apart fresh handsOn again:Bool}{X:World->Array Value->Prop}
  (hX:∀(w w':World) (args:Array Value),w.heap=w'.heap->X w args->X w' args)
  (own:ownKnob C.prog.godebug=none) (started:os.Started) (noInit:C.prog.inits.idxOf? f=none) (hfn:C.prog.funcs[f]? = some fn)
  (witness:∃(w:World) (tape:Tape) (i:Input),w.os=os/\(w.forCall tape i).Shaped C.prog/\i.vars=[]/\Input.okWide C.prog (w.forCall tape i) .any w.heap.size f i ∧
   ((s.pre enc C.prog fn conds apart (w.forCall tape i).memory i.args/\X (w.forCall tape i).memory i.args)/\sizedMet enc C.prog fn (OpenSpec.ofChange s) apart (w.forCall tape i).memory i.args)/\a.holds C.prog (lone (Frame.enter C.prog f i.args .normal) [] (w.forCall tape i)))
  (contract:∀(W:World) (base:Nat) (args:Array Value) (ds gs:List (DataW H)) (before:List MemPlace),
   (∀(j:Nat) t v,fn.params[j]? = some t->args[j]? = some v->Value.okWide C.prog W .any base t v) →
   DataW.Whole enc C.prog fn.params.toList s.vars apart W args.toList ds gs before →
   conds.all (PathCond.test C.prog ⟨fn.params.toList,ds,s.plain.varTypes C.prog,gs⟩)=true →
   (DataW.weightsEach C.prog (fn.params.toList ++ s.plain.varTypes C.prog) (ds ++ gs)).all (·<=reachBytes)=true->X W args →
   W.ShapedOpen C.prog →
   Calls C.prog f args W fun e W'=>∃v,e=.returned v/\s.post enc C.prog fn apart fresh handsOn again W args v W') :
  ReturnsInHanded a C os f .any (fun w args=>(s.pre enc C.prog fn conds apart w args/\X w args)/\sizedMet enc C.prog fn (OpenSpec.ofChange s) apart w args) (s.post enc C.prog fn apart fresh handsOn again):=by
 refine returnsInHanded_of_calls own started noInit witness ?_
 intro w tape i _ hsh _ hok hpre _
 obtain ⟨_,_,_,fn',hfn',_,_,_,_,hval⟩:=hok
 have e:fn'=fn:=Option.some.inj (hfn'.symm.trans hfn)
 subst e
 obtain ⟨⟨⟨ds,gs,before,hw,hc⟩,hx⟩,hz⟩:=hpre
 have hw':=DataW.Whole.of_heap (w':=w.forCall tape i) (by rfl) hw
 refine (contract (w.forCall tape i) w.heap.size i.args ds gs before hval hw' hc (hz.weights hw) (hX _ _ _ (by rfl) hx) hsh).mono fun e W' ⟨v,he,hp⟩=>?_
 subst he
 exact ChangeSpec.post_blind hp
def lst:List (String × DataW Unit):=[("math/bits.deBruijn32tab",Rows.laid_math_bits_deBruijn32tab),("math/bits.deBruijn64tab",Rows.laid_math_bits_deBruijn64tab),("internal/strconv.uint64pow10",Rows.laid_internal_strconv_uint64pow10),("unicode/utf8.acceptRanges",Rows.laid_unicode_utf8_acceptRanges),("strconv.ErrRange",Rows.laid_strconv_ErrRange),("strconv.ErrSyntax",Rows.laid_strconv_ErrSyntax),("wicket/calls.kindWords",Rows.laid_wicket_calls_kindWords),("wicket/command.kindWords",Rows.laid_wicket_command_kindWords),("unicode/utf8.first",Rows.laid_unicode_utf8_first)]
theorem strs_of_trod {H:Type}{enc:TypeId × Value->H}{P:Program}{w:World}{base:Nat}{sp:Nat->Bool}{held:Bool}{fuel:Nat}{t e:TypeId}{n:Nat}{cs:List Value}{zs:List (List UInt8)}{p:List MemPlace}
  (ht:P.underlying t=some (.array n e)) (he:P.underlying e=some .string) (hce:P.cellsOf e=1) (hct:P.cellsOf t=n)
  (h:DataW.trod enc P w base sp held fuel t cs=some (DataW.agg (zs.map fun z=>(DataW.lit (.string z):DataW H)),p)):∀(i:Nat) (z:List UInt8),zs[i]? = some z->∃s:ByteArray,cs[i]? = some (.string s)/\s.data.toList=z:=by
 cases fuel with
 | zero=>simp [DataW.trod] at h
 | succ fuel =>
  simp only [DataW.trod,ht,hce,hct,Nat.mul_one] at h
  split at h
  ·obtain ⟨xs,hm,hx⟩:=Option.map_eq_some_iff.1 h
   have hxs:xs.map (·.1)=zs.map fun z=>(DataW.lit (.string z):DataW H):=by
    have:=congrArg Prod.fst hx
    simpa using this
   have hxl:xs.length=n:=by simpa using Lib.mapM_length hm
   have hzl:zs.length=n:=by
    have:=congrArg List.length hxs
    simp at this
    omega
   intro i z hz
   have hi:i<n:=by rw [<-hzl];exact (List.getElem?_eq_some_iff.1 hz).1
   obtain ⟨b,hb,hf⟩:=Lib.mapM_at hm i i (by simp [hi])
   obtain ⟨s,hc,rfl,_⟩:=DataW.trod_string he hf
   have h1:cs[i]? = some (.string s):=by
    have:=congrArg (·[0]?) hc
    simpa [List.getElem?_take,List.getElem?_drop] using this
   have h2:(xs.map (·.1))[i]? = some (DataW.lit (.string s.data.toList):DataW H):=by simp [hb]
   rw [hxs] at h2
   simp only [List.getElem?_map,Option.map_eq_some_iff,DataW.lit.injEq,Lit.string.injEq] at h2
   obtain ⟨z',hz',e⟩:=h2
   rw [hz] at hz'
   cases hz'
   exact ⟨s,h1,e.symm⟩
  ·cases h
theorem lst_plain:(lst.filter fun x=>x.2.handleName?.isSome)=[]:=by
 have e:(lst.map fun x=>x.2.handleName?.isSome)=lst.map fun _=>false:=by kernel_rfl
 rw [List.filter_eq_nil_iff]
 intro x hx
 have:=List.map_inj_left.1 e x hx
 rw [this];decide
theorem star:"*" ++ "errors.errorString" = "*errors.errorString":=by decide
theorem row245 (u:TypeId)(h:Tryz.prog.typeName? 3 u=some "*errors.errorString"):u=245 :=
 typeName_ptr_named (nm:="errors.errorString") (by rw [star];kernel_rfl) (by kernel_rfl) (by decide) u (by rw [star];exact h)
theorem pow_data:(Rows.laid_internal_strconv_uint64pow10:DataW Unit)=Lib.tabData .u64 Lib.pow10Tab:=by kernel_rfl
theorem bytes_of {s:ByteArray}{a:Array UInt8}(h:s.data.toList=a.toList):s=⟨a⟩:=by
 obtain ⟨d⟩:=s
 congr 1
 exact Array.toList_inj.1 h
theorem under245:Tryz.prog.underlying 245=some (.pointer 247):=by kernel_rfl
theorem under188:Tryz.prog.underlying 188=some (.array 20 58):=by kernel_rfl
theorem underU:Tryz.prog.underlying 58=some (.int .u64):=by kernel_rfl
theorem kw1_of {W:World}{r:List (String × DataW Unit)}(h:laidMet Tryz.prog (("wicket/calls.kindWords",Rows.laid_wicket_calls_kindWords) :: r) W):∀(i:Nat) (a:Array UInt8),([[],[103,101,116],[112,117,116],[100,101,108,101,116,101],[115,119,97,112],[115,99,97,110]]:List (List UInt8))[i]? = some a.toList->W.cell? ⟨1,i,none⟩=some (.string ⟨a⟩):=by
 rw [show (Rows.laid_wicket_calls_kindWords:DataW Unit)=.agg (([[],[103,101,116],[112,117,116],[100,101,108,101,116,101],[115,119,97,112],[115,99,97,110]]:List (List UInt8)).map fun (z:List UInt8)=>(DataW.lit (.string z):DataW Unit)) by kernel_rfl] at h
 obtain ⟨ps,⟨g,t,cs,fuel,p,q,hg,ht,hvar,hd,_,_⟩,_⟩:=h
 obtain rfl:=Option.some.inj ((show Tryz.prog.globalNamed "wicket/calls.kindWords" = some 1 by kernel_rfl).symm.trans hg)
 obtain rfl:=Option.some.inj ((show (Tryz.prog.globals[1]?).map (·.type)=some 145 by kernel_rfl).symm.trans ht)
 have hall:=strs_of_trod (show Tryz.prog.underlying 145=some (.array 6 9) by kernel_rfl) Tryz.underlying9 (by kernel_rfl) (by kernel_rfl) hd
 intro i a hi
 obtain ⟨s,h1,h2⟩:=hall i _ hi
 have:=World.var?_cell hg hvar i
 rw [this,<-Array.getElem?_toList,h1,bytes_of h2]
theorem kw0_of {W:World}{r:List (String × DataW Unit)}(h:laidMet Tryz.prog (("wicket/command.kindWords",Rows.laid_wicket_command_kindWords) :: r) W):∀(i:Nat) (a:Array UInt8),([[],[111,112,101,110],[99,97,108,108],[99,108,111,115,101],[101,120,112,105,114,101]]:List (List UInt8))[i]? = some a.toList->W.cell? ⟨0,i,none⟩=some (.string ⟨a⟩):=by
 rw [show (Rows.laid_wicket_command_kindWords:DataW Unit)=.agg (([[],[111,112,101,110],[99,97,108,108],[99,108,111,115,101],[101,120,112,105,114,101]]:List (List UInt8)).map fun (z:List UInt8)=>(DataW.lit (.string z):DataW Unit)) by kernel_rfl] at h
 obtain ⟨ps,⟨g,t,cs,fuel,p,q,hg,ht,hvar,hd,_,_⟩,_⟩:=h
 obtain rfl:=Option.some.inj ((show Tryz.prog.globalNamed "wicket/command.kindWords" = some 0 by kernel_rfl).symm.trans hg)
 obtain rfl:=Option.some.inj ((show (Tryz.prog.globals[0]?).map (·.type)=some 67 by kernel_rfl).symm.trans ht)
 have hall:=strs_of_trod (show Tryz.prog.underlying 67=some (.array 5 9) by kernel_rfl) Tryz.underlying9 (by kernel_rfl) (by kernel_rfl) hd
 intro i a hi
 obtain ⟨s,h1,h2⟩:=hall i _ hi
 have:=World.var?_cell hg hvar i
 rw [this,<-Array.getElem?_toList,h1,bytes_of h2]
theorem env_of {W:World}(h:laidMetH Tryz.prog lst W)(hs:W.ShapedOpen Tryz.prog):EnvC W:=by
 have h':laidMet Tryz.prog lst W:=by unfold laidMetH at h;rw [lst_plain] at h;exact h
 clear h
 unfold lst at h'
 obtain ⟨a1,_,hr,_⟩:=laid_sentinel (h'.tail.tail.tail.tail) (show Tryz.prog.globalNamed "strconv.ErrRange" = some 5 by kernel_rfl) (show (Tryz.prog.globals[5]?).map (·.type)=some 111 by kernel_rfl) Tryz.underlying111 row245 under245 Tryz.underlying247 rfl rfl Tryz.underlying9 (by kernel_rfl) (by kernel_rfl)
 obtain ⟨a2,_,hy,_⟩:=laid_sentinel (h'.tail.tail.tail.tail.tail) (show Tryz.prog.globalNamed "strconv.ErrSyntax" = some 4 by kernel_rfl) (show (Tryz.prog.globals[4]?).map (·.type)=some 111 by kernel_rfl) Tryz.underlying111 row245 under245 Tryz.underlying247 rfl rfl Tryz.underlying9 (by kernel_rfl) (by kernel_rfl)
 have cr:=World.var?_cell (show Tryz.prog.globalNamed "strconv.ErrRange" = some 5 by kernel_rfl) hr 0
 have cy:=World.var?_cell (show Tryz.prog.globalNamed "strconv.ErrSyntax" = some 4 by kernel_rfl) hy 0
 have kw1:KW W:=by
  have up:=kw1_of (h'.tail.tail.tail.tail.tail.tail)
  exact ⟨up 0 #[] rfl,up 1 #[103,101,116] rfl,up 2 #[112,117,116] rfl,up 3 #[100,101,108,101,116,101] rfl,up 4 #[115,119,97,112] rfl,up 5 #[115,99,97,110] rfl⟩
 have up:=kw0_of (h'.tail.tail.tail.tail.tail.tail.tail)
 refine ⟨⟨kw1,?_,⟨245,.pointer (some a2),by simpa using cy⟩,⟨245,.pointer (some a1),by simpa using cr⟩,?_,?_⟩,up 0 #[] rfl,up 1 #[111,112,101,110] rfl,up 2 #[99,97,108,108] rfl,up 3 #[99,108,111,115,101] rfl,up 4 #[101,120,112,105,114,101] rfl⟩
 ·exact cell_of_shapedOpen_int (zero:=#[.int .i64 0]) (t:=3) hs (of_decide_eq_true (by kernel_rfl)) (by kernel_rfl) rfl (by kernel_rfl) (by kernel_rfl) Tryz.underlying3
 ·have t2:=h'.tail.tail
  rw [pow_data] at t2
  exact Lib.tabIs_of_head (show Tryz.prog.globalNamed "internal/strconv.uint64pow10" = some 2 by kernel_rfl) (show (Tryz.prog.globals[2]?).map (·.type)=some 188 by kernel_rfl) under188 underU (by kernel_rfl) (by kernel_rfl) t2
 ·obtain ⟨ps,⟨g,t,cs,fuel,p,q,hg,ht,hvar,_⟩,_⟩:=h'.tail.tail.tail
  obtain rfl:=Option.some.inj ((show Tryz.prog.globalNamed "unicode/utf8.acceptRanges" = some 9 by kernel_rfl).symm.trans hg)
  rcases Nat.lt_or_ge 9 W.heap.size with h | h
  ·exact h
  ·unfold World.var? at hvar
   rw [hg] at hvar
   simp [Array.getElem?_eq_none h] at hvar
end Go.Proofs.YtgjcpjckaopeeaaGreatDoor
namespace Go.Proofs.YtgjcpjckaopeeaaGreatDoor
open Go.RowKit Disk
noncomputable def low:Nat:=(World.holding Tryz.prog default ⟨#[],#[],[]⟩).heap.size
def setB (h:Array Obj)(g:Nat)(c:Array Value):Array Obj:=h.modify g fun
 | .cells _ t frozen=>.cells c t frozen
 | o=>o
noncomputable def laidWorld (os:Os):World :=
 let w0:=World.holding Tryz.prog os ⟨#[.cells #[.string ⟨#[105,110,118,97,108,105,100,32,115,121,110,116,97,120]⟩] 247,.cells #[.string ⟨#[118,97,108,117,101,32,111,117,116,32,111,102,32,114,97,110,103,101]⟩] 247],#[],[]⟩
 { w0 with heap:=(setB (setB (setB (setB (setB (setB (setB (setB (setB w0.heap 0 #[.string ⟨#[]⟩,.string ⟨#[111,112,101,110]⟩,.string ⟨#[99,97,108,108]⟩,.string ⟨#[99,108,111,115,101]⟩,.string ⟨#[101,120,112,105,114,101]⟩]) 1 #[.string ⟨#[]⟩,.string ⟨#[103,101,116]⟩,.string ⟨#[112,117,116]⟩,.string ⟨#[100,101,108,101,116,101]⟩,.string ⟨#[115,119,97,112]⟩,.string ⟨#[115,99,97,110]⟩]) 2 #[.int .u64 1,.int .u64 10,.int .u64 100,.int .u64 1000,.int .u64 10000,.int .u64 100000,.int .u64 1000000,.int .u64 10000000,.int .u64 100000000,.int .u64 1000000000,.int .u64 10000000000,.int .u64 100000000000,.int .u64 1000000000000,.int .u64 10000000000000,.int .u64 100000000000000,.int .u64 1000000000000000,.int .u64 10000000000000000,.int .u64 100000000000000000,.int .u64 1000000000000000000,.int .u64 10000000000000000000]) 4 #[.iface 245 (.pointer (some ⟨low+0,0,none⟩))]) 5 #[.iface 245 (.pointer (some ⟨low+1,0,none⟩))]) 6 #[.int .u8 0,.int .u8 1,.int .u8 28,.int .u8 2,.int .u8 29,.int .u8 14,.int .u8 24,.int .u8 3,.int .u8 30,.int .u8 22,.int .u8 20,.int .u8 15,.int .u8 25,.int .u8 17,.int .u8 4,.int .u8 8,.int .u8 31,.int .u8 27,.int .u8 13,.int .u8 23,.int .u8 21,.int .u8 19,.int .u8 16,.int .u8 7,.int .u8 26,.int .u8 12,.int .u8 18,.int .u8 6,.int .u8 11,.int .u8 5,.int .u8 10,.int .u8 9]) 7 #[.int .u8 0,.int .u8 1,.int .u8 56,.int .u8 2,.int .u8 57,.int .u8 49,.int .u8 28,.int .u8 3,.int .u8 61,.int .u8 58,.int .u8 42,.int .u8 50,.int .u8 38,.int .u8 29,.int .u8 17,.int .u8 4,.int .u8 62,.int .u8 47,.int .u8 59,.int .u8 36,.int .u8 45,.int .u8 43,.int .u8 51,.int .u8 22,.int .u8 53,.int .u8 39,.int .u8 33,.int .u8 30,.int .u8 24,.int .u8 18,.int .u8 12,.int .u8 5,.int .u8 63,.int .u8 55,.int .u8 48,.int .u8 27,.int .u8 60,.int .u8 41,.int .u8 37,.int .u8 16,.int .u8 46,.int .u8 35,.int .u8 44,.int .u8 21,.int .u8 52,.int .u8 32,.int .u8 23,.int .u8 11,.int .u8 54,.int .u8 26,.int .u8 40,.int .u8 15,.int .u8 34,.int .u8 20,.int .u8 31,.int .u8 10,.int .u8 25,.int .u8 14,.int .u8 19,.int .u8 9,.int .u8 13,.int .u8 8,.int .u8 7,.int .u8 6]) 8 (Pinned.utf8FirstZ.map fun (n:Nat)=>Value.int .u8 n).toArray) 9 #[.int .u8 128,.int .u8 191,.int .u8 160,.int .u8 191,.int .u8 128,.int .u8 159,.int .u8 144,.int .u8 191,.int .u8 128,.int .u8 143,.int .u8 0,.int .u8 0,.int .u8 0,.int .u8 0,.int .u8 0,.int .u8 0,.int .u8 0,.int .u8 0,.int .u8 0,.int .u8 0,.int .u8 0,.int .u8 0,.int .u8 0,.int .u8 0,.int .u8 0,.int .u8 0,.int .u8 0,.int .u8 0,.int .u8 0,.int .u8 0,.int .u8 0,.int .u8 0]) }
theorem laidWorld_met (os:Os)(args:Array Value):laidMetH Tryz.prog lst ((laidWorld os).forCall (fun _ _=>0) ⟨#[],args,[]⟩).memory:=by
 unfold laidMetH
 rw [lst_plain]
 exact laidMet_of_run3 8 (by kernel_rfl) (by kernel_rfl) (by kernel_rfl)
end Go.Proofs.YtgjcpjckaopeeaaGreatDoor
